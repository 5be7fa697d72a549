import PyProof.Rows.All
import Wide.All
import OpenK.AllK
import Wide.FinOn
import Lean
import PyProof.EqAt
import PyProof.EqKinds
import PyProof.TupleCall
import PyProof.P3In
import PyProof.NeData
import PyProof.ConsumeWalk
import PyProof.CompFree
import PyProof.FactsAll.tuple_2
import KE.KRevSl
import KE.KIntText
import PyProof.SumWalkG
import PySem.Challenge.RW_postbooks_k09_whole_cut_kept
set_option Elab.async false
set_option linter.all false
set_option maxRecDepth 100000
/-! THE HAND LAYER, for ints, bools, texts, own classes, LISTS and tuples (index, slices, in, append, pop ..), calls, loops. Paste it whole ahead of your own text; what your proof does not reach may be deleted. -/
namespace L2
open PySem PySem.Spec PyProof.Rows

/-- a key: an int or a str -/
abbrev Key := Sum Int Str
def keyIs : Key → Value → Bool
  | .inl k, v => Value.isInt k v
  | .inr x, v => Value.isStrOf x v
def keyH (w : World) : Key → Int
  | .inl k => hashInt k
  | .inr x => hashStr w x
theorem keyIs_shape : ∀ {k : Key} {v : Value}, keyIs k v = true → (∃ i t, k = Sum.inl i ∧ v = Value.int i t) ∨ (∃ x t, k = Sum.inr x ∧ v = Value.str x t)
  | .inl i, v, h => by
    obtain ⟨t, e⟩ := Value.isInt_shape (k := i) (v := v) h
    exact .inl ⟨i, t, rfl, e⟩
  | .inr x, v, h => by
    obtain ⟨t, e⟩ := Value.isStrOf_shape (x := x) (v := v) h
    exact .inr ⟨x, t, rfl, e⟩
theorem keyIs_int (i : Int) (t : Tok) : keyIs (.inl i) (.int i t) = true := by simp [keyIs, Value.isInt]
theorem keyIs_str (x : Str) (t : Tok) : keyIs (.inr x) (.str x t) = true := by simp [keyIs, Value.isStrOf]
theorem key_ll (a b : Int) : decide ((Sum.inl a : Key) = Sum.inl b) = (a == b) := by
  by_cases e : a = b
  · subst e; simp
  · have h : ¬ (Sum.inl a : Key) = Sum.inl b := fun q => e (Sum.inl.inj q)
    rw [decide_eq_false h]
    exact (beq_eq_false_iff_ne.mpr e).symm
theorem key_rr (a b : Str) : decide ((Sum.inr a : Key) = Sum.inr b) = decide (a = b) := by
  by_cases e : a = b
  · subst e; simp
  · have h : ¬ (Sum.inr a : Key) = Sum.inr b := fun q => e (Sum.inr.inj q)
    rw [decide_eq_false h, decide_eq_false e]
theorem key_lr (a : Int) (b : Str) : decide ((Sum.inl a : Key) = Sum.inr b) = false := decide_eq_false (fun q => nomatch q)
theorem key_rl (a : Str) (b : Int) : decide ((Sum.inr a : Key) = Sum.inl b) = false := decide_eq_false (fun q => nomatch q)

def mixKind (prog : Program) (w : World) : PySem.KeyKind prog w Key where
  is := keyIs
  hash := keyH w
  inj := fun v a b ha hb => by
    rcases keyIs_shape ha with ⟨i, t, rfl, rfl⟩ | ⟨x, t, rfl, rfl⟩
    · rcases keyIs_shape hb with ⟨j, u, rfl, e⟩ | ⟨y, u, rfl, e⟩
      · injection e with e1 _; rw [e1]
      · exact nomatch e
    · rcases keyIs_shape hb with ⟨j, u, rfl, e⟩ | ⟨y, u, rfl, e⟩
      · exact nomatch e
      · injection e with e1 _; rw [e1]
  byValue := fun k v h => by
    rcases keyIs_shape h with ⟨i, t, rfl, rfl⟩ | ⟨x, t, rfl, rfl⟩ <;> rfl
  pyHash := fun hv h => by
    rcases keyIs_shape hv with ⟨i, t, rfl, rfl⟩ | ⟨x, t, rfl, rfl⟩
    · exact wpAny_pyHash_int h
    · exact wpAny_pyHash_str h
  eqBool := fun hu hv h => by
    rcases keyIs_shape hu with ⟨i, t, rfl, rfl⟩ | ⟨x, t, rfl, rfl⟩
    · rcases keyIs_shape hv with ⟨j, u, rfl, rfl⟩ | ⟨y, u, rfl, rfl⟩
      · rw [key_ll] at h; exact wpAny_eqBool_int h
      · rw [key_lr] at h; exact SeqAt.EqAt.int_str i t y u _ _ _ _ h
    · rcases keyIs_shape hv with ⟨j, u, rfl, rfl⟩ | ⟨y, u, rfl, rfl⟩
      · rw [key_rl] at h; exact SeqAt.EqAt.str_int x t j u _ _ _ _ h
      · rw [key_rr] at h; exact wpAny_eqBool_str h
  «strs» := fun k x t v h => by
    rcases keyIs_shape h with ⟨i, u, rfl, e⟩ | ⟨y, u, rfl, e⟩
    · exact nomatch e
    · injection e with e1 _
      subst e1
      cases v <;> rfl

theorem mixKind_int (prog : Program) (w : World) (i : Int) (t : Tok) : (mixKind prog w).is (.inl i) (.int i t) = true := keyIs_int i t
theorem mixKind_str (prog : Program) (w : World) (x : Str) (t : Tok) : (mixKind prog w).is (.inr x) (.str x t) = true := keyIs_str x t
end L2

namespace L2
open PySem PySem.Spec PyProof.Rows

/-- a value, without the heap -/
inductive V where
  | non | bl (b : Bool) | int (i : Int) | str (x : Str) | byt (b : Array UInt8) | flt (b : UInt64) | ref (a : Addr) | ty (n : String)
  deriving DecidableEq

def RelV : V → Value → Prop
  | .non, u => u = Value.none
  | .bl b, u => u = Value.bool b
  | .int i, u => ∃ t, u = Value.int i t
  | .str x, u => ∃ t, u = Value.str x t
  | .byt b, u => ∃ t, u = Value.bytes b t
  | .flt b, u => ∃ t, u = Value.float b t
  | .ref a, u => u = Value.ref a
  | .ty n, u => u = Value.type n

abbrev Vals : List V → List Value → Prop := Paired RelV
theorem Vals.length {xs : List V} {us : List Value} (r : Vals xs us) : xs.length = us.length := Paired.length r
theorem Vals.get : ∀ {xs : List V} {us : List Value} {i : Nat} {x : V}, Vals xs us → xs[i]? = some x → ∃ u, us[i]? = some u ∧ RelV x u
  | _, _, _, _, .nil, e => by simp at e
  | _, _, 0, _, .cons r _, e => by simp at e; subst e; exact ⟨_, rfl, r⟩
  | _, _, i + 1, x, .cons _ t, e => by
    obtain ⟨u, h1, h2⟩ := Vals.get (i := i) (x := x) t (by simpa using e)
    exact ⟨u, by simpa using h1, h2⟩
theorem Vals.set {x : V} {u : Value} (r : RelV x u) : ∀ {xs : List V} {us : List Value} (i : Nat), Vals xs us → Vals (xs.set i x) (us.set i u)
  | _, _, _, .nil => .nil
  | _, _, 0, .cons _ t => .cons r t
  | _, _, i + 1, .cons q t => .cons q (Vals.set r i t)
theorem Vals.append : ∀ {xs ys : List V} {us ws : List Value}, Vals xs us → Vals ys ws → Vals (xs ++ ys) (us ++ ws)
  | _, _, _, _, .nil, s => s
  | _, _, _, _, .cons r t, s => .cons r (Vals.append t s)
theorem Vals.take : ∀ {xs : List V} {us : List Value} (n : Nat), Vals xs us → Vals (xs.take n) (us.take n)
  | _, _, 0, _ => .nil
  | _, _, _ + 1, .nil => .nil
  | _, _, n + 1, .cons r t => .cons r (Vals.take n t)
theorem Vals.drop : ∀ {xs : List V} {us : List Value} (n : Nat), Vals xs us → Vals (xs.drop n) (us.drop n)
  | _, _, 0, r => r
  | _, _, _ + 1, .nil => .nil
  | _, _, n + 1, .cons _ t => Vals.drop n t
def RelO : Option V → Option Value → Prop
  | some v, some u => RelV v u
  | none, none => True
  | _, _ => False
def KV {κ : Type} : List (κ × V) → List (κ × Value) → Prop := Paired fun (p : κ × V) (q : κ × Value) => p.1 = q.1 ∧ RelV p.2 q.2

/-- a key of a dict (00_mix): an int or a text -/
def kV : Key → V
  | .inl i => .int i
  | .inr x => .str x

/-- what stands at a tracked address -/
inductive HO where
  /-- a list -/
  | lst (xs : List V)
  /-- a tuple (never changes) -/
  | tup (xs : List V)
  /-- a dict whose keys are ints and texts; one whose keys are tuples of ints and texts (the empty one is both) -/
  | dK (kvs : List (Key × V)) | dT (kvs : List (List Key × V))
  /-- a set of ints: its members, its size -/
  | set (S : Int → Bool) (n : Nat)
  /-- an instance of the class at C, its dict at dx, its attributes -/
  | ins (C dx : Addr) (fs : List (Str × V))
  /-- the dict of the instance at x -/
  | own (x : Addr)
  /-- the dict of an exception -/
  | xd (fs : List (Str × V))
  /-- a bound method, f of x -/
  | met (f x : Addr)
  /-- a range object lo, lo + 1, .. below hi -/
  | rng (lo hi : Int)
  /-- a thing that is known to the object (the script; a dict while a loop walks it): read, never written while it is so -/
  | frz (o : Obj) (u : HO)
  /-- a code object's table -/
  | tbl (ps : Array Value)
  /-- any other thing, by what is true of its one object (a def of one's own: SetO a S n := HO.ext fun h => ..) -/
  | ext (φ : Heap → Prop)

abbrev Hp := Addr → Option HO
def upd (H : Hp) (a : Addr) (o : HO) : Hp := fun b => if b = a then some o else H b
theorem upd_same {H : Hp} {a : Addr} {o : HO} : upd H a o a = some o := by unfold upd; rw [if_pos rfl]
theorem upd_ne {H : Hp} {a b : Addr} {o : HO} (h : b ≠ a) : upd H a o b = H b := by unfold upd; rw [if_neg h]
theorem upd_upd {H : Hp} {a : Addr} {o u : HO} : upd (upd H a o) a u = upd H a u := by
  funext b; unfold upd; split <;> rfl
/-- two objects of different content stand apart -/
theorem ne_of {H : Hp} {a b : Addr} {o u : HO} (h : H a = some o) (h' : H b = some u) (d : o ≠ u) : a ≠ b := by
  intro e; subst e; rw [h] at h'; exact d (Option.some.inj h')
theorem ne_of_none {H : Hp} {a b : Addr} {o : HO} (h : H a = some o) (h' : H b = none) : a ≠ b := by
  intro e; subst e; rw [h] at h'; cases h'

section
variable (P : Program) (w : World)
def ObjOk (H : Hp) (h : Heap) (a : Addr) : HO → Prop
  | .lst xs => xs.length ≤ sizeLine ∧ ∃ (its : List Value) (n : Nat), Vals xs its ∧ h.get? a = some { cls := .type "list", data := .seq its.toArray n }
  | .tup xs => xs.length ≤ sizeLine ∧ ∃ its : List Value, Vals xs its ∧ IsTup h a its.toArray
  | .dK kvs => kvs.length ≤ sizeLine ∧ (a == sysModules) = false ∧ ∃ vs, KV kvs vs ∧ h.DictOf (mixKind P w) a vs
  | .dT kvs => kvs.length ≤ sizeLine ∧ (a == sysModules) = false ∧ ∃ xs : List (List Key × Addr × Value),
      Paired (fun (p : List Key × V) (q : List Key × Addr × Value) => p.1 = q.1 ∧ H q.2.1 = some (.tup (p.1.map kV)) ∧ RelV p.2 q.2.2) kvs xs ∧
      ∃ o es ep, h.get? a = some o ∧ o.ExactDict ∧ o.data = .dict es ep ∧ es.toList = xs.map (entryOfKey (tupleKind (mixKind P w))) ∧ (xs.map (·.1)).Nodup
  | .set S n => h.SetOf (intKind P w) a S n
  | .ins C dx fs => H dx = some (.own a) ∧ fs.length ≤ 1000 ∧ dx ≠ a ∧ h.get? a = some (PySem.W.instObj C dx) ∧
      ∃ mA, h.Ns1 dx mA ∧ (∀ f, RelO (fs.lookup f) (mA f)) ∧ PySem.Within mA (fs.map (·.1))
  | .own _ => ∃ o, h.get? a = some o
  | .xd fs => ∃ mA, h.Ns1 a mA ∧ ∀ f, RelO (fs.lookup f) (mA f)
  | .rng lo hi => ∃ t u v, h.get? a = some { cls := .type "range", data := .fields #[.int lo t, .int hi u, .int 1 v] }
  | .frz o u => h.get? a = some o ∧ ObjOk H h a u
  | .tbl ps => h.get? a = some { cls := .none, data := .fields ps }
  | .met f x => h.get? a = some (PySem.W.methodObj (.ref f) (.ref x))
  | .ext φ => φ h ∧ (∃ o, h.get? a = some o) ∧ ∀ h1 h2 : Heap, φ h1 → (∀ o, h1.get? a = some o → h2.get? a = some o) → φ h2
/-- the abstract heap is held -/
def HOk (H : Hp) (h : Heap) : Prop := ∀ a o, H a = some o → ObjOk P w H h a o
end

section
variable {P : Program} {w : World} {H H' : Hp} {h h' : Heap} {a : Addr} {o : HO}
theorem ObjOk.lt (x : ObjOk P w H h a o) : a < h.objs.size := by
  cases o with
  | lst xs => obtain ⟨_, _, _, _, e⟩ := x; exact Heap.lt_size e
  | tup xs => obtain ⟨_, _, _, p⟩ := x; exact p.lt
  | dK kvs => obtain ⟨_, _, _, _, o, _, _, e, _⟩ := x; exact Heap.lt_size e
  | dT kvs => obtain ⟨_, _, _, _, o, _, _, e, _⟩ := x; exact Heap.lt_size e
  | set S n => obtain ⟨o, _, _, _, e, _⟩ := x; exact Heap.lt_size e
  | ins C dx fs => obtain ⟨_, _, _, e, _⟩ := x; exact Heap.lt_size e
  | own y => obtain ⟨_, e⟩ := x; exact Heap.lt_size e
  | xd fs => obtain ⟨_, ⟨_, _, _, e, _⟩, _⟩ := x; exact Heap.lt_size e
  | rng lo hi => obtain ⟨_, _, _, e⟩ := x; exact Heap.lt_size e
  | frz ob u => obtain ⟨e, _⟩ := x; exact Heap.lt_size e
  | tbl ps => exact Heap.lt_size (show h.get? a = some _ from x)
  | met f y => exact Heap.lt_size (show h.get? a = some _ from x)
  | ext φ => obtain ⟨_, ⟨_, e⟩, _⟩ := x; exact Heap.lt_size e
theorem Paired.mapP {α β : Type} {F G : α → β → Prop} : ∀ {l₁ : List α} {l₂ : List β}, Paired F l₁ l₂ → (∀ a b, F a b → G a b) → Paired G l₁ l₂
  | _, _, .nil, _ => .nil
  | _, _, .cons r t, f => .cons (f _ _ r) (Paired.mapP t f)
/-- what an object's description leans on: its own object, its own dict, the tuples -/
theorem ObjOk.stay (x : ObjOk P w H h a o) (k : ∀ b u, (b = a ∨ H b = some (.own a)) → h.get? b = some u → h'.get? b = some u)
    (ho : ∀ b, H b = some (.own a) → H' b = some (.own a)) (ht : ∀ b xs, H b = some (.tup xs) → H' b = some (.tup xs)) : ObjOk P w H' h' a o := by
  induction o with
  | lst xs => obtain ⟨z, its, n, r, e⟩ := x; exact ⟨z, its, n, r, k _ _ (.inl rfl) e⟩
  | tup xs => obtain ⟨z, its, r, ob, e, c⟩ := x; exact ⟨z, its, r, ob, k _ _ (.inl rfl) e, c⟩
  | dK kvs => obtain ⟨z, y, vs, r, ob, es, ep, e, c⟩ := x; exact ⟨z, y, vs, r, ob, es, ep, k _ _ (.inl rfl) e, c⟩
  | dT kvs =>
    obtain ⟨z, y, xs, r, ob, es, ep, e, c⟩ := x
    exact ⟨z, y, xs, Paired.mapP r fun p q z => ⟨z.1, ht _ _ z.2.1, z.2.2⟩, ob, es, ep, k _ _ (.inl rfl) e, c⟩
  | set S n => obtain ⟨ob, es, ep, t, e, c⟩ := x; exact ⟨ob, es, ep, t, k _ _ (.inl rfl) e, c⟩
  | ins C dx fs =>
    obtain ⟨d, z, ne, e, mA, ⟨od, es, ep, e2, c⟩, r⟩ := x
    exact ⟨ho _ d, z, ne, k _ _ (.inl rfl) e, mA, ⟨od, es, ep, k _ _ (.inr d) e2, c⟩, r⟩
  | own y => obtain ⟨ob, e⟩ := x; exact ⟨ob, k _ _ (.inl rfl) e⟩
  | xd fs => obtain ⟨mA, ⟨od, es, ep, e, c⟩, r⟩ := x; exact ⟨mA, ⟨od, es, ep, k _ _ (.inl rfl) e, c⟩, r⟩
  | rng lo hi => obtain ⟨t, u, v, e⟩ := x; exact ⟨t, u, v, k _ _ (.inl rfl) e⟩
  | frz ob u ih => obtain ⟨e, q⟩ := x; exact ⟨k _ _ (.inl rfl) e, ih q⟩
  | tbl ps =>
    have e : h.get? a = some { cls := .none, data := .fields ps } := x
    show h'.get? a = some { cls := .none, data := .fields ps }
    exact k a _ (.inl rfl) e
  | met f y =>
    have e : h.get? a = some (PySem.W.methodObj (.ref f) (.ref y)) := x
    show h'.get? a = some (PySem.W.methodObj (.ref f) (.ref y))
    exact k a _ (.inl rfl) e
  | ext φ => obtain ⟨p, ⟨o, e⟩, st⟩ := x; exact ⟨st _ _ p fun o q => k _ _ (.inl rfl) q, ⟨o, k _ _ (.inl rfl) e⟩, st⟩
theorem HOk.lt (x : HOk P w H h) (e : H a = some o) : a < h.objs.size := (x a o e).lt
theorem HOk.fresh (x : HOk P w H h) (e : h.objs.size ≤ a) : H a = none := by
  cases q : H a with
  | none => rfl
  | some u => exact absurd (Nat.lt_of_lt_of_le (x.lt q) e) (Nat.lt_irrefl _)
/-- every object of the heap is kept -/
theorem HOk.kept (x : HOk P w H h) (k : ∀ b u, h.get? b = some u → h'.get? b = some u) : HOk P w H h' := fun a o e =>
  (x a o e).stay (fun b u _ q => k b u q) (fun _ q => q) fun _ _ q => q
/-- a new object is laid and tracked -/
theorem HOk.laid (x : HOk P w H h) (k : ∀ b u, h.get? b = some u → h'.get? b = some u) (hp : h.objs.size ≤ a) (new : ObjOk P w (upd H a o) h' a o) : HOk P w (upd H a o) h' := fun b u e => by
  have hn := x.fresh hp
  by_cases hb : b = a
  · subst hb; rw [upd_same] at e; cases e; exact new
  · rw [upd_ne hb] at e
    exact (x b u e).stay (fun c v _ q => k c v q) (fun c q => by rw [upd_ne (ne_of_none q hn)]; exact q) fun c xs q => by rw [upd_ne (ne_of_none q hn)]; exact q
end

/-- what may be read as u: it is u, or a known u -/
def Rd (H : Hp) (a : Addr) (u : HO) : Prop := H a = some u ∨ ∃ o, H a = some (.frz o u)
theorem Rd.ok {P : Program} {w : World} {H : Hp} {h : Heap} {a : Addr} {u : HO} (r : Rd H a u) (x : HOk P w H h) : ObjOk P w H h a u := by
  rcases r with r | ⟨o, r⟩
  · exact x a u r
  · obtain ⟨_, q⟩ := x a _ r
    exact q
/-- what may be written -/
def Mut : Option HO → Prop
  | some (.lst _) => True
  | some (.dK _) => True
  | some (.dT _) => True
  | some (.set _ _) => True
  | some (.ins _ _ _) => True
  | some (.ext _) => True
  | _ => False
section
variable {P : Program} {w : World} {H : Hp} {h h' : Heap} {x e : Addr} {o' : HO}
/-- the object at e is changed: x itself, or the dict of the instance x -/
theorem HOk.write (ok : HOk P w H h) (mu : Mut (H x)) (he : e = x ∨ H e = some (.own x)) (k : ∀ b u, b ≠ e → h.get? b = some u → h'.get? b = some u) (heo : ∃ u, h'.get? e = some u)
    (new : ObjOk P w (upd H x o') h' x o') : HOk P w (upd H x o') h' := fun b u q => by
  have nown : ∀ c y, H c = some (.own y) → c ≠ x := fun c y r z => by subst z; rw [r] at mu; exact mu
  have ntup : ∀ c xs, H c = some (.tup xs) → c ≠ x := fun c xs r z => by subst z; rw [r] at mu; exact mu
  by_cases hb : b = x
  · subst hb; rw [upd_same] at q; cases q; exact new
  · rw [upd_ne hb] at q
    by_cases hbe : b = e
    · have q' : H b = some (.own x) := by
        rcases he with z | z
        · exact absurd (hbe.trans z) hb
        · rw [hbe]; exact z
      rw [q] at q'; cases q'
      obtain ⟨v, hv⟩ := heo
      exact ⟨v, by rw [hbe]; exact hv⟩
    · refine (ok b u q).stay (fun c v hc r => k c v ?_ r) (fun c r => by rw [upd_ne (nown c b r)]; exact r) fun c xs r => by rw [upd_ne (ntup c xs r)]; exact r
      rcases hc with rfl | hc
      · exact hbe
      · rintro rfl
        rcases he with z | z
        · exact nown c b hc z
        · rw [hc] at z; cases z; exact hb rfl
end

/-! ### kept unless tracked; of the frames at fs (the callers') the slots may change (an exception that passes writes there); of the records at ex (iterators) nothing is said -/
structure Un (fs ex : List Addr) (H H' : Hp) (h h' : Heap) : Prop where
  keep : ∀ b o, h.get? b = some o → H b = none → b ∉ fs → b ∉ ex → h'.get? b = some o
  slot : ∀ b o, h.get? b = some o → H b = none → b ∈ fs → b ∉ ex → ∃ sl, h'.get? b = some { o with slots := sl }
  free : ∀ b o, h.get? b = some o → H b = none → b ∉ ex → H' b = none
  there : ∀ b o, h.get? b = some o → b ∉ ex → ∃ o', h'.get? b = some o'
  tups : ∀ b xs, H b = some (.tup xs) → H' b = some (.tup xs)
  frzs : ∀ b o u, H b = some (.frz o u) → H' b = some (.frz o u)
  tbls : ∀ b ps, H b = some (.tbl ps) → ∃ more, H' b = some (.tbl (ps ++ more))
section
variable {fs fs' ex ex' : List Addr} {H H1 H2 : Hp} {h h1 h2 h' : Heap} {a x e : Addr} {o : HO}
theorem Un.any (u : Un fs ex H H1 h h1) {b : Addr} {ob : Obj} (q : h.get? b = some ob) (n : H b = none) (hx : b ∉ ex) : ∃ sl, h1.get? b = some { ob with slots := sl } := by
  by_cases hb : b ∈ fs
  · exact u.slot b ob q n hb hx
  · exact ⟨ob.slots, u.keep b ob q n hb hx⟩
theorem Un.kept (k : ∀ b u, h.get? b = some u → h'.get? b = some u) : Un fs ex H H h h' :=
  ⟨fun b ob q _ _ _ => k b ob q, fun b ob q _ _ _ => ⟨ob.slots, k b ob q⟩, fun _ _ _ n _ => n, fun b ob q _ => ⟨ob, k b ob q⟩, fun _ _ q => q, fun _ _ _ q => q, fun _ ps q => ⟨#[], by rw [q]; simp⟩⟩
theorem Un.refl : Un fs ex H H h h := Un.kept fun _ _ q => q
theorem Un.laid (k : ∀ b u, h.get? b = some u → h'.get? b = some u) (hp : h.objs.size ≤ a) (hn : H a = none) : Un fs ex H (upd H a o) h h' where
  keep := fun b u q _ _ _ => k b u q
  slot := fun b u q _ _ _ => ⟨u.slots, k b u q⟩
  free := fun b u q n _ => by rw [upd_ne (Nat.ne_of_lt (Nat.lt_of_lt_of_le (Heap.lt_size q) hp))]; exact n
  there := fun b u q _ => ⟨u, k b u q⟩
  tups := fun b xs q => by rw [upd_ne (ne_of_none q hn)]; exact q
  frzs := fun b u xs q => by rw [upd_ne (ne_of_none q hn)]; exact q
  tbls := fun b ps q => ⟨#[], by rw [upd_ne (ne_of_none q hn), q]; simp⟩
theorem Un.write (mu : Mut (H x)) (he : e = x ∨ H e = some (.own x)) (k : ∀ b u, b ≠ e → h.get? b = some u → h'.get? b = some u) (heo : ∃ u, h'.get? e = some u) : Un fs ex H (upd H x o) h h' := by
  have hx : ∀ b, H b = none → b ≠ x := fun b n z => by subst z; rw [n] at mu; exact mu
  have hb : ∀ b, H b = none → b ≠ e := fun b n z => by
    subst z
    rcases he with r | r
    · exact hx b n r
    · rw [n] at r; cases r
  have hm : ∀ b u, H b = some u → ¬ Mut (some u) → b ≠ x := fun b u q nm z => by subst z; rw [q] at mu; exact nm mu
  refine ⟨fun b u q n _ _ => k b u (hb b n) q, fun b u q n _ _ => ⟨u.slots, k b u (hb b n) q⟩, fun b u q n _ => by rw [upd_ne (hx b n)]; exact n, fun b u q _ => ?_,
    fun b xs q => by rw [upd_ne (hm b _ q fun z => z)]; exact q, fun b u xs q => by rw [upd_ne (hm b _ q fun z => z)]; exact q, fun b ps q => ⟨#[], by rw [upd_ne (hm b _ q fun z => z), q]; simp⟩⟩
  by_cases hbe : b = e
  · subst hbe; exact heo
  · exact ⟨u, k b u hbe q⟩
end

/-! ### the heap without what is tracked -/
def trk (h : Heap) (H : Hp) : List Addr := (List.range h.objs.size).filter fun a => (H a).isSome
def hidT (h : Heap) (H : Hp) : Heap := PySem.W.hideAll h (trk h H)
theorem hidT_size (h : Heap) (H : Hp) : (hidT h H).objs.size = h.objs.size := PySem.W.hideAll_size _ _
theorem hidT_get {h : Heap} {H : Hp} {b : Addr} {o : Obj} (e : h.get? b = some o) (n : H b = none) : (hidT h H).get? b = some o :=
  PySem.W.hideAll_get _ e fun hm => by
    have q : (H b).isSome = true := (List.mem_filter.mp hm).2
    rw [n] at q; simp at q
theorem of_hidT {h : Heap} {H : Hp} {b : Addr} {o : Obj} (e : (hidT h H).get? b = some o) : h.get? b = some o ∧ H b = none := by
  have e' : h.get? b = some o := PySem.W.of_hideAll (trk h H) e
  refine ⟨e', ?_⟩
  cases q : H b with
  | none => rfl
  | some x =>
    have hm : b ∈ trk h H := List.mem_filter.mpr ⟨List.mem_range.mpr (Heap.lt_size e'), by simp [q]⟩
    have z : (hidT h H).get? b = none := PySem.W.hideAll_none (trk h H) hm
    rw [z] at e; cases e

/-! ### OpenK's ledger, filled with every new object but one -/
def allNews (g h : Heap) (L : Addr) : List (Addr × Obj) := (List.range h.objs.size).filterMap fun a => if a = L ∨ (g.get? a).isSome = true then none else (h.get? a).map fun o => (a, o)
def rest (g h : Heap) (L d : Addr) : List (Addr × Obj) := (allNews g h L).filter fun p => decide (p.1 ≠ d)
end L2

namespace L2
open PySem PySem.Spec PyProof.Rows

/-- the module's facts, over the base: the heap at the law's entry without what is tracked there -/
structure Mod (K : PySem.W.Frag) (mg : Str → Option Value) (base : Heap) : Prop where
  kin : K.In base
  glob : base.Ns mainGlobals mg
  blt : ∃ mb, base.Ns builtinsNs mb ∧ ∀ x : Str, x ≠ "__name__" → mb x = bootBuiltins x
  nolimit : base.NoLimit

/-- the context: a def's body (or a comprehension's block) running. base: fixed through the whole law; s₀, H₀: the entry; outer: the frames whose slots others may change (a def's callers); stack: all frames that run;
   ex: iterators that were made ahead of the entry and are walked here (a comprehension's); fn: the names whose cells were made at the entry (a def: all; a comprehension's block: its own); calm: not within an except suite; pn: pins that every state bears; xe: what is wanted of an exception that leaves the code -/
structure Cx where
  prog : Program
  w : World
  K : PySem.W.Frag
  mg : Str → Option Value
  base : Heap
  A : Around
  N : List Str
  s₀ : Shared
  H₀ : Hp
  env : Env
  outer : List Env
  stack : List Env
  ex : List Addr
  fn : Str → Bool
  calm : Bool
  pn : List (Addr × Obj)
  xe : Value → Shared → Prop
/-- the callers' frames -/
def frs (l : List Env) : List Addr := l.filterMap (·.frame)
abbrev Cx.fs (X : Cx) : List Addr := frs X.outer

def Vis (sc : Scope) (x : Str) : Prop := sc.names.lookup x = some .local ∨ sc.names.lookup x = some .cell ∨ sc.names.lookup x = some .free
def Loc (sc : Scope) (x : Str) : Prop := sc.names.lookup x = some .local ∨ sc.names.lookup x = some .cell
def Look (env : Env) (h : Heap) (m : Str → Option Value) (x : Str) (u : Value) : Prop :=
  (env.kindOf x = some .local ∧ m x = some u) ∨ ((env.kindOf x = some .cell ∨ env.kindOf x = some .free) ∧ ∃ c, env.cells.lookup x = some c ∧ h.IsCell c (some u))

structure Cx.Ok (X : Cx) : Prop where
  mod : Mod X.K X.mg X.base
  kind : X.env.scope.kind = .function
  glob : X.env.globals = mainGlobals
  blt : X.env.builtins = builtinsNs
  above : X.s₀.heap.objs.size ≤ X.env.locals
  inj : ∀ x y c, X.env.cells.lookup x = some c → X.env.cells.lookup y = some c → x = y
  has : ∀ x, (X.env.kindOf x = some .cell ∨ X.env.kindOf x = some .free) → ∃ c, X.env.cells.lookup x = some c
  cab : ∀ x c, X.fn x = true → X.env.cells.lookup x = some c → X.s₀.heap.objs.size ≤ c
  hd : X.calm = true → X.A.handled = none
  frames : X.A.frames = some X.stack
  stk : X.stack = X.outer ∨ (X.stack = X.env :: X.outer ∧ X.env.frame = some X.env.locals)
  exf : ∀ b ∈ X.ex, b ≠ X.env.locals ∧ ∀ x c, X.env.cells.lookup x = some c → c ≠ b
  bs : ∀ b o, X.base.get? b = some o → X.s₀.heap.get? b = some o ∧ X.H₀ b = none
  bsz : X.base.objs.size ≤ X.s₀.heap.objs.size
  noex : ∀ b o, X.base.get? b = some o → b ∉ X.ex
  exfs : ∀ b ∈ X.ex, b ∉ X.fs
  funs : X.s₀.heap.FunFrames X.base X.outer
  frf : ∀ b ∈ X.fs, X.H₀ b = none

structure Inv (X : Cx) (pins : List (Addr × Obj)) (σ : List (Option V)) (H : Hp) (s : Shared) : Prop where
  ok : X.Ok
  os : s.os = X.s₀.os
  bare : AllBare s.gens
  base : Un X.fs X.ex X.H₀ H X.s₀.heap s.heap
  loc : ∃ m, s.heap.Ns X.env.locals m ∧ ∀ (i : Nat) (x : Str) (v : V), X.N[i]? = some x → σ[i]? = some (some v) → Vis X.env.scope x → ∃ u, RelV v u ∧ Look X.env s.heap m x u
  cell : ∀ x c, X.env.cells.lookup x = some c → ∃ v, s.heap.IsCell c v
  free : H X.env.locals = none
  freeC : ∀ x c, X.env.cells.lookup x = some c → H c = none
  pin : ∀ p ∈ X.pn ++ pins, s.heap.get? p.1 = some p.2 ∧ H p.1 = none ∧ p.1 ≠ X.env.locals ∧ p.1 ∉ X.fs ∧ ∀ v, p.2.data ≠ .cell v
  hok : HOk X.prog X.w H s.heap
  len : σ.length = X.N.length

section
variable {X : Cx} {pins : List (Addr × Obj)} {σ : List (Option V)} {H H' : Hp} {s : Shared} {h' : Heap}

theorem Cx.Ok.nofr (ok : X.Ok) {b : Addr} {o : Obj} (e : X.base.get? b = some o) : b ∉ X.fs := fun hb => by
  have := (ok.funs.mem hb).1
  rw [e] at this; cases this
theorem Inv.bs (I : Inv X pins σ H s) : ∀ b o, X.base.get? b = some o → s.heap.get? b = some o ∧ H b = none := fun b o e =>
  ⟨I.base.keep b o (I.ok.bs b o e).1 (I.ok.bs b o e).2 (I.ok.nofr e) (I.ok.noex b o e), I.base.free b o (I.ok.bs b o e).1 (I.ok.bs b o e).2 (I.ok.noex b o e)⟩
theorem Inv.bk (I : Inv X pins σ H s) : ∀ b o, X.base.get? b = some o → s.heap.get? b = some o := fun b o e => (I.bs b o e).1
theorem Inv.mod (I : Inv X pins σ H s) : Mod X.K X.mg X.base := I.ok.mod
theorem Inv.kIn (I : Inv X pins σ H s) : X.K.In s.heap := I.ok.mod.kin.keeps I.bk
theorem Inv.lt (I : Inv X pins σ H s) : X.env.locals < s.heap.objs.size := let ⟨_, hn, _⟩ := I.loc; hn.lt
theorem Inv.sz (I : Inv X pins σ H s) : X.s₀.heap.objs.size ≤ s.heap.objs.size := Nat.le_trans I.ok.above (Nat.le_of_lt I.lt)
theorem Inv.nofs (I : Inv X pins σ H s) {a : Addr} (h : s.heap.objs.size ≤ a) : a ∉ X.fs := fun hb => by
  obtain ⟨_, o, ho, _⟩ := I.ok.funs.mem hb
  exact absurd (Nat.lt_of_lt_of_le (Heap.lt_size ho) (Nat.le_trans I.sz h)) (Nat.lt_irrefl _)
theorem Inv.cne (I : Inv X pins σ H s) : ∀ x c, X.env.cells.lookup x = some c → c ≠ X.env.locals := fun x c e z => by
  obtain ⟨v, o, ho, hd⟩ := I.cell x c e
  obtain ⟨m, ⟨o', es, ep, ho', hd', _⟩, _⟩ := I.loc
  rw [z, ho'] at ho; cases ho; rw [hd'] at hd; cases hd
theorem Inv.funs (I : Inv X pins σ H s) : s.heap.FunFrames X.base X.outer := by
  have all : ∀ (l : List Env), (∀ b ∈ frs l, b ∈ X.fs) → X.s₀.heap.FunFrames X.base l → s.heap.FunFrames X.base l := by
    intro l
    induction l with
    | nil => intro _ _; trivial
    | cons env r ih =>
      intro hs hl
      obtain ⟨hk, ⟨L, o, hf, hn, ho, hd⟩, hr⟩ := hl
      have hL : L ∈ X.fs := hs L (by unfold frs; rw [List.filterMap_cons, hf]; exact List.mem_cons_self)
      obtain ⟨sl, e⟩ := I.base.slot L o ho (I.ok.frf L hL) hL fun z => I.ok.exfs L z hL
      exact ⟨hk, ⟨L, _, hf, hn, e, hd⟩, ih (fun b hb => hs b (by unfold frs; rw [List.filterMap_cons, hf]; exact List.mem_cons_of_mem _ hb)) hr⟩
  exact all X.outer (fun _ hb => hb) I.ok.funs

/-- the frames that run, for a call -/
theorem Inv.stack (I : Inv X pins σ H s) : s.heap.FunFrames X.base X.stack := by
  rcases I.ok.stk with e | ⟨e, hf⟩
  · rw [e]; exact I.funs
  · rw [e]
    obtain ⟨m, hn, _⟩ := I.loc
    refine .cons (by rw [I.ok.kind]; decide) hf hn ?_ I.funs
    exact Heap.get?_none_of_le (Nat.le_trans I.ok.bsz I.ok.above)
theorem Inv.stkSub (I : Inv X pins σ H s) : ∀ b ∈ frs X.stack, b ∈ X.env.locals :: X.fs := fun b hb => by
  rcases I.ok.stk with e | ⟨e, hf⟩
  · rw [e] at hb; exact List.mem_cons_of_mem _ hb
  · rw [e] at hb
    unfold frs at hb
    rw [List.filterMap_cons, hf] at hb
    exact hb
theorem Inv.stkFree (I : Inv X pins σ H s) : ∀ b ∈ frs X.stack, H b = none := fun b hb => by
  rcases List.mem_cons.mp (I.stkSub b hb) with e | hb
  · rw [e]; exact I.free
  · obtain ⟨_, o, ho, _⟩ := I.ok.funs.mem hb
    exact I.base.free b o ho (I.ok.frf b hb) fun z => I.ok.exfs b z hb

/-- THE STEP: the untracked objects but the frame and the records at ch are kept (the callers' frames up to slots), the frame's map is kept, the new abstract heap is held -/
theorem Inv.step {g' : Array GenState} {t' : Nat} {d' : Drawn} {ch : List Addr} (I : Inv X pins σ H s)
    (hch : ∀ b ∈ ch, (b ∈ X.ex ∨ X.s₀.heap.objs.size ≤ b) ∧ b ≠ X.env.locals ∧ (∀ x c, X.env.cells.lookup x = some c → c ≠ b) ∧ ∀ p ∈ X.pn ++ pins, p.1 ≠ b)
    (keep : ∀ b o, b ≠ X.env.locals → b ∉ X.fs → b ∉ ch → s.heap.get? b = some o → H b = none → h'.get? b = some o)
    (slot : ∀ b o, b ≠ X.env.locals → b ∈ X.fs → b ∉ ch → s.heap.get? b = some o → H b = none → ∃ sl, h'.get? b = some { o with slots := sl }) (free : ∀ b o, b ∉ ch → s.heap.get? b = some o → H b = none → H' b = none)
    (there : ∀ b o, b ∉ ch → s.heap.get? b = some o → ∃ o', h'.get? b = some o')
    (tups : ∀ b xs, H b = some (.tup xs) → H' b = some (.tup xs)) (frzs : ∀ b o u, H b = some (.frz o u) → H' b = some (.frz o u)) (tbls : ∀ b ps, H b = some (.tbl ps) → ∃ more, H' b = some (.tbl (ps ++ more)))
    (ns : ∀ m, s.heap.Ns X.env.locals m → h'.Ns X.env.locals m) (hok : HOk X.prog X.w H' h') (hg : AllBare g') :
    Inv X pins σ H' { s with heap := h', gens := g', drawn := d', toks := t' } := by
  have neL : ∀ b o, X.s₀.heap.get? b = some o → b ≠ X.env.locals := fun b o e => Nat.ne_of_lt (Nat.lt_of_lt_of_le (Heap.lt_size e) I.ok.above)
  have neC : ∀ b o, X.s₀.heap.get? b = some o → b ∉ X.ex → b ∉ ch := fun b o e hx hb => by
    rcases (hch b hb).1 with z | z
    · exact hx z
    · exact absurd (Nat.lt_of_lt_of_le (Heap.lt_size e) z) (Nat.lt_irrefl _)
  have cellK : ∀ x c, X.env.cells.lookup x = some c → ∀ v, s.heap.IsCell c v → h'.IsCell c v := fun x c e v ⟨o, ho, hd⟩ => by
    have nch : c ∉ ch := fun z => (hch c z).2.2.1 x c e rfl
    by_cases hc : c ∈ X.fs
    · obtain ⟨sl, q⟩ := slot c o (I.cne x c e) hc nch ho (I.freeC x c e)
      exact ⟨_, q, hd⟩
    · exact ⟨o, keep c o (I.cne x c e) hc nch ho (I.freeC x c e), hd⟩
  refine ⟨I.ok, I.os, hg, ⟨fun b o e n hb hx => ?_, fun b o e n hb hx => ?_, fun b o e n hx => ?_, fun b o e hx => ?_, fun b xs e => tups b xs (I.base.tups b xs e), fun b o xs e => frzs b o xs (I.base.frzs b o xs e), fun b ps e => ?_⟩, ?_, fun x c e => ?_, ?_, fun x c e => ?_, fun p hp => ?_, hok, I.len⟩
  · exact keep b o (neL b o e) hb (neC b o e hx) (I.base.keep b o e n hb hx) (I.base.free b o e n hx)
  · obtain ⟨sl, e1⟩ := I.base.slot b o e n hb hx
    obtain ⟨sl', e2⟩ := slot b _ (neL b o e) hb (neC b o e hx) e1 (I.base.free b o e n hx)
    exact ⟨sl', e2⟩
  · obtain ⟨o', e1⟩ := I.base.there b o e hx
    exact free b o' (neC b o e hx) e1 (I.base.free b o e n hx)
  · obtain ⟨o', e1⟩ := I.base.there b o e hx
    exact there b o' (neC b o e hx) e1
  · obtain ⟨m1, e1⟩ := I.base.tbls b ps e
    obtain ⟨m2, e2⟩ := tbls b _ e1
    exact ⟨m1 ++ m2, by rw [e2, Array.append_assoc]⟩
  · obtain ⟨m, hn, hl⟩ := I.loc
    refine ⟨m, ns m hn, fun i x v e1 e2 e3 => ?_⟩
    obtain ⟨u, r, l⟩ := hl i x v e1 e2 e3
    refine ⟨u, r, ?_⟩
    rcases l with l | ⟨k, c, e, z⟩
    · exact .inl l
    · exact .inr ⟨k, c, e, cellK x c e _ z⟩
  · obtain ⟨v, z⟩ := I.cell x c e
    exact ⟨v, cellK x c e v z⟩
  · obtain ⟨m, ⟨o, _, _, ho, _⟩, _⟩ := I.loc
    exact free _ o (fun z => (hch _ z).2.1 rfl) ho I.free
  · obtain ⟨v, o, ho, hd⟩ := I.cell x c e
    exact free c o (fun z => (hch c z).2.2.1 x c e rfl) ho (I.freeC x c e)
  · obtain ⟨e, n, ne, nf, d⟩ := I.pin p hp
    have nch : p.1 ∉ ch := fun z => (hch p.1 z).2.2.2 p hp rfl
    exact ⟨keep p.1 p.2 ne nf nch e n, free p.1 p.2 nch e n, ne, nf, d⟩
/-- .. where the frame's own object is kept too -/
theorem Inv.un {t' : Nat} (I : Inv X pins σ H s) (u : Un X.fs [] H H' s.heap h') (hok : HOk X.prog X.w H' h') : Inv X pins σ H' { s with heap := h', toks := t' } := by
  obtain ⟨m, ⟨o, es, ep, ho, r⟩, _⟩ := id I.loc
  obtain ⟨sl, hL⟩ := u.any ho I.free (by simp)
  exact I.step (g' := s.gens) (d' := s.drawn) (ch := []) (fun _ z => nomatch z) (fun b o _ hb _ e n => u.keep b o e n hb (by simp)) (fun b o _ hb _ e n => u.slot b o e n hb (by simp)) (fun b o _ e n => u.free b o e n (by simp)) (fun b o _ e => u.there b o e (by simp)) u.tups u.frzs u.tbls (fun m' hm => by
    obtain ⟨o', es', ep', ho', r'⟩ := hm
    rw [ho] at ho'; cases ho'
    exact ⟨_, es', ep', hL, r'⟩) hok I.bare
/-- behind a call (or a comprehension's block): the slots of this frame may have changed too, the records at ch may have turned -/
theorem Inv.call {g' : Array GenState} {t' : Nat} {d' : Drawn} {ch : List Addr} (I : Inv X pins σ H s) (u : Un (frs X.stack) ch H H' s.heap h') (hok : HOk X.prog X.w H' h') (hg : AllBare g')
    (hch : ∀ b ∈ ch, (b ∈ X.ex ∨ X.s₀.heap.objs.size ≤ b) ∧ b ≠ X.env.locals ∧ (∀ x c, X.env.cells.lookup x = some c → c ≠ b) ∧ ∀ p ∈ X.pn ++ pins, p.1 ≠ b) :
    Inv X pins σ H' { s with heap := h', gens := g', drawn := d', toks := t' } := by
  obtain ⟨m, ⟨o, es, ep, ho, r⟩, _⟩ := id I.loc
  obtain ⟨sl, hL⟩ := u.any ho I.free fun z => (hch _ z).2.1 rfl
  exact I.step (ch := ch) hch (fun b o hL hb hc e n => u.keep b o e n (fun z => (List.mem_cons.mp (I.stkSub b z)).elim hL hb) hc) (fun b o _ _ hc e n => u.any e n hc) (fun b o hc e n => u.free b o e n hc) (fun b o hc e => u.there b o e hc) u.tups u.frzs u.tbls (fun m' hm => by
    obtain ⟨o', es', ep', ho', r'⟩ := hm
    rw [ho] at ho'; cases ho'
    exact ⟨_, es', ep', hL, r'⟩) hok hg
/-- an untracked record of ours (an iterator) has turned -/
theorem Inv.turned {t' : Nat} {it : Addr} (I : Inv X pins σ H s) (k : ∀ b o, b ≠ it → s.heap.get? b = some o → h'.get? b = some o) (hn : H it = none) (hL : it ≠ X.env.locals)
    (h1 : it ∈ X.ex ∨ X.s₀.heap.objs.size ≤ it) (h2 : ∀ x c, X.env.cells.lookup x = some c → c ≠ it) (h3 : ∀ p ∈ X.pn ++ pins, p.1 ≠ it) : Inv X pins σ H { s with heap := h', toks := t' } := by
  have nit : ∀ b u, H b = some u → b ≠ it := fun b u e z => by rw [z, hn] at e; cases e
  refine I.step (g' := s.gens) (d' := s.drawn) (ch := [it]) (fun b hb => ?_) (fun b o _ _ hc e _ => k b o (fun z => hc (by simp [z])) e) (fun b o _ _ hc e _ => ⟨o.slots, k b o (fun z => hc (by simp [z])) e⟩) (fun _ _ _ _ n => n)
    (fun b o hc e => ⟨o, k b o (fun z => hc (by simp [z])) e⟩) (fun _ _ e => e) (fun _ _ _ e => e) (fun b ps e => ⟨#[], by rw [e]; simp⟩) (fun m hm => ?_) (fun b u e => ?_) I.bare
  · have e : b = it := by simpa using hb
    subst e
    exact ⟨h1, hL, h2, h3⟩
  · obtain ⟨o, es, ep, ho, r⟩ := hm
    exact ⟨o, es, ep, k _ o (Ne.symm hL) ho, r⟩
  · refine (I.hok b u e).stay (fun c v hc q => k c v ?_ q) (fun _ q => q) fun _ _ q => q
    rcases hc with z | z
    · rw [z]; exact nit b u e
    · exact nit c _ z
theorem Inv.tok (I : Inv X pins σ H s) (t : Nat) : Inv X pins σ H { s with toks := t } := I.un (h' := s.heap) (t' := t) Un.refl I.hok
/-- all objects kept -/
theorem Inv.kept {t' : Nat} (I : Inv X pins σ H s) (k : ∀ b u, s.heap.get? b = some u → h'.get? b = some u) : Inv X pins σ H { s with heap := h', toks := t' } := I.un (Un.kept k) (I.hok.kept k)
/-- a new object laid and tracked -/
theorem Inv.laid {a : Addr} {o : HO} {t' : Nat} (I : Inv X pins σ H s) (k : ∀ b u, s.heap.get? b = some u → h'.get? b = some u) (hp : s.heap.objs.size ≤ a) (new : ObjOk X.prog X.w (upd H a o) h' a o) :
    Inv X pins σ (upd H a o) { s with heap := h', toks := t' } := I.un (Un.laid k hp (I.hok.fresh hp)) (I.hok.laid k hp new)
/-- an object written -/
theorem Inv.write {x e : Addr} {o : HO} {t' : Nat} (I : Inv X pins σ H s) (mu : Mut (H x)) (he : e = x ∨ H e = some (.own x)) (k : ∀ b u, b ≠ e → s.heap.get? b = some u → h'.get? b = some u) (heo : ∃ u, h'.get? e = some u)
    (new : ObjOk X.prog X.w (upd H x o) h' x o) : Inv X pins σ (upd H x o) { s with heap := h', toks := t' } := I.un (Un.write mu he k heo) (I.hok.write mu he k heo new)
theorem Inv.pins_of {pins' : List (Addr × Obj)} (I : Inv X pins σ H s) (h : ∀ p ∈ pins', s.heap.get? p.1 = some p.2 ∧ H p.1 = none ∧ p.1 ≠ X.env.locals ∧ p.1 ∉ X.fs ∧ ∀ v, p.2.data ≠ .cell v) : Inv X pins' σ H s :=
  ⟨I.ok, I.os, I.bare, I.base, I.loc, I.cell, I.free, I.freeC, fun p hp => (List.mem_append.mp hp).elim (fun z => I.pin p (List.mem_append_left _ z)) (h p), I.hok, I.len⟩

theorem nodup_ix {N : List Str} (hN : N.Nodup) {i j : Nat} {x : Str} (a : N[i]? = some x) (b : N[j]? = some x) : i = j := by
  obtain ⟨h1, e1⟩ := List.getElem?_eq_some_iff.mp a
  obtain ⟨h2, e2⟩ := List.getElem?_eq_some_iff.mp b
  exact (List.getElem_inj hN).mp (e1.trans e2.symm)

/-- a name is stored; what changed -/
theorem store_ok2 {M : Model} {A : Around} {E : Value → Shared → Prop} {i : Nat} {x : Str} {v : V} {u : Value} {Q : Unit → Shared → Prop} (I : Inv X pins σ H s) (hN : X.N.Nodup) (hi : X.N[i]? = some x) (hx : Loc X.env.scope x) (r : RelV v u)
    (h : ∀ s', Inv X pins (σ.set i (some v)) H s' → (∃ a, Heap.SameBut a s.heap s'.heap ∧ (a = X.env.locals ∨ X.env.cells.lookup x = some a)) → Q () s') (hf : X.fn x = true ∨ X.env.scope.names.lookup x = some .local := by first | exact .inl rfl | exact .inr rfl | assumption) : wpAny M A (storeName X.env x u) Q E s := by
  obtain ⟨m, hn, hl⟩ := id I.loc
  have hcls : (X.env.scope.kind == .class || (X.env.scope.kind == .module && X.env.locals != X.env.globals)) = false := by rw [I.ok.kind]; rfl
  have hiσ : i < σ.length := by rw [I.len]; exact (List.getElem?_eq_some_iff.mp hi).1
  have cne := I.cne
  have tracked : ∀ {a : Addr} {h' : Heap}, (∃ o, s.heap.get? a = some o ∧ H a = none) → Heap.SameBut a s.heap h' → HOk X.prog X.w H h' := fun {a h'} ha hs b ob e => by
    obtain ⟨_, _, hfree⟩ := ha
    refine (I.hok b ob e).stay (fun c w' hc q => (hs.2 c ?_).trans q) (fun _ q => q) fun _ _ q => q
    rintro rfl
    rcases hc with rfl | hc
    · rw [hfree] at e; cases e
    · rw [hfree] at hc; cases hc
  rcases hx with hk | hk
  · refine wpAny_storeName_local hk hn (fun h' hn' hs => ?_) hcls
    obtain ⟨oL, _, _, hoL, _⟩ := id hn
    refine h _ ⟨I.ok, I.os, I.bare, ⟨fun b o e n hb hx => ?_, fun b o e n hb hx => ?_, I.base.free, fun b o e hx => ?_, I.base.tups, I.base.frzs, I.base.tbls⟩, ⟨_, hn', fun j y v' e1 e2 e3 => ?_⟩, fun y c e => ?_, I.free, I.freeC, fun p hp => ?_, tracked ⟨oL, hoL, I.free⟩ hs, by simpa using I.len⟩ ⟨_, hs, .inl rfl⟩
    · exact (hs.2 b (Nat.ne_of_lt (Nat.lt_of_lt_of_le (Heap.lt_size e) I.ok.above))).trans (I.base.keep b o e n hb hx)
    · obtain ⟨sl, e1⟩ := I.base.slot b o e n hb hx
      exact ⟨sl, (hs.2 b (Nat.ne_of_lt (Nat.lt_of_lt_of_le (Heap.lt_size e) I.ok.above))).trans e1⟩
    · obtain ⟨o', e1⟩ := I.base.there b o e hx
      exact ⟨o', (hs.2 b (Nat.ne_of_lt (Nat.lt_of_lt_of_le (Heap.lt_size e) I.ok.above))).trans e1⟩
    · by_cases hj : j = i
      · subst hj
        rw [hi] at e1; cases e1
        rw [List.getElem?_set_self hiσ] at e2
        cases e2
        exact ⟨u, r, .inl ⟨hk, by simp⟩⟩
      · rw [List.getElem?_set_ne (Ne.symm hj)] at e2
        obtain ⟨u', r', q⟩ := hl j y v' e1 e2 e3
        refine ⟨u', r', ?_⟩
        rcases q with ⟨k, e⟩ | ⟨k, c, e, z⟩
        · refine .inl ⟨k, ?_⟩
          have : y ≠ x := fun e => hj (nodup_ix hN e1 (e ▸ hi))
          simp [this, e]
        · exact .inr ⟨k, c, e, z.sameBut hs (cne y c e)⟩
    · obtain ⟨w', z⟩ := I.cell y c e
      exact ⟨w', z.sameBut hs (cne y c e)⟩
    · obtain ⟨e, n, ne, nf, d⟩ := I.pin p hp
      exact ⟨(hs.2 p.1 ne).trans e, n, ne, nf, d⟩
  · have hfn : X.fn x = true := by
      rcases hf with z | z
      · exact z
      · rw [z] at hk; cases hk
    obtain ⟨c, hc⟩ := I.ok.has x (.inl hk)
    obtain ⟨w', z⟩ := I.cell x c hc
    refine wpAny_storeName_cell I.ok.kind hk hc z (fun h' hc' hs => ?_)
    obtain ⟨oc, hoc, hocd⟩ := id z
    refine h { s with heap := h' } ⟨I.ok, I.os, I.bare, ⟨fun b o e n hb hx => ?_, fun b o e n hb hx => ?_, I.base.free, fun b o e hx => ?_, I.base.tups, I.base.frzs, I.base.tbls⟩, ⟨m, hn.sameBut hs (Ne.symm (cne x c hc)), fun j y v' e1 e2 e3 => ?_⟩, fun y c' e => ?_, I.free, I.freeC, fun p hp => ?_, tracked ⟨oc, hoc, I.freeC x c hc⟩ hs, by simpa using I.len⟩ ⟨c, hs, .inr hc⟩
    · exact (hs.2 b (Nat.ne_of_lt (Nat.lt_of_lt_of_le (Heap.lt_size e) (I.ok.cab x c hfn hc)))).trans (I.base.keep b o e n hb hx)
    · obtain ⟨sl, e1⟩ := I.base.slot b o e n hb hx
      exact ⟨sl, (hs.2 b (Nat.ne_of_lt (Nat.lt_of_lt_of_le (Heap.lt_size e) (I.ok.cab x c hfn hc)))).trans e1⟩
    · obtain ⟨o', e1⟩ := I.base.there b o e hx
      exact ⟨o', (hs.2 b (Nat.ne_of_lt (Nat.lt_of_lt_of_le (Heap.lt_size e) (I.ok.cab x c hfn hc)))).trans e1⟩
    · by_cases hj : j = i
      · subst hj
        rw [hi] at e1; cases e1
        rw [List.getElem?_set_self hiσ] at e2
        cases e2
        exact ⟨u, r, .inr ⟨.inl hk, c, hc, hc'⟩⟩
      · rw [List.getElem?_set_ne (Ne.symm hj)] at e2
        obtain ⟨u', r', q⟩ := hl j y v' e1 e2 e3
        refine ⟨u', r', ?_⟩
        rcases q with q | ⟨k, c', e, z'⟩
        · exact .inl q
        · refine .inr ⟨k, c', e, z'.sameBut hs ?_⟩
          rintro rfl
          exact hj (nodup_ix hN e1 (I.ok.inj _ _ _ e hc ▸ hi))
    · by_cases hcc : c' = c
      · subst hcc; exact ⟨_, hc'⟩
      · obtain ⟨w2, z2⟩ := I.cell y c' e
        exact ⟨w2, z2.sameBut hs hcc⟩
    · obtain ⟨e, n, ne, nf, d⟩ := I.pin p hp
      refine ⟨(hs.2 p.1 ?_).trans e, n, ne, nf, d⟩
      intro q
      rw [q, hoc] at e
      have q' : oc = p.2 := Option.some.inj e
      exact d w' (by rw [← q']; exact hocd)
theorem store_ok {M : Model} {A : Around} {E : Value → Shared → Prop} {i : Nat} {x : Str} {v : V} {u : Value} {Q : Unit → Shared → Prop} (I : Inv X pins σ H s) (hN : X.N.Nodup) (hi : X.N[i]? = some x) (hx : Loc X.env.scope x) (r : RelV v u)
    (h : ∀ s', Inv X pins (σ.set i (some v)) H s' → Q () s') (hf : X.fn x = true ∨ X.env.scope.names.lookup x = some .local := by first | exact .inl rfl | exact .inr rfl | assumption) : wpAny M A (storeName X.env x u) Q E s :=
  store_ok2 I hN hi hx r (fun s' I' _ => h s' I') hf
/-- behind a call or a block, the state as it is -/
theorem Inv.call' {s' : Shared} {ch : List Addr} (I : Inv X pins σ H s) (ho : s'.os = s.os) (u : Un (frs X.stack) ch H H' s.heap s'.heap) (hok : HOk X.prog X.w H' s'.heap) (hg : AllBare s'.gens)
    (hch : ∀ b ∈ ch, (b ∈ X.ex ∨ X.s₀.heap.objs.size ≤ b) ∧ b ≠ X.env.locals ∧ (∀ x c, X.env.cells.lookup x = some c → c ≠ b) ∧ ∀ p ∈ X.pn ++ pins, p.1 ≠ b) : Inv X pins σ H' s' := by
  obtain ⟨h', g', d', t', o'⟩ := s'
  have e : o' = s.os := ho
  subst e
  exact I.call (g' := g') (t' := t') (d' := d') u hok hg hch
end

/-! ### the judgements -/
/-- an exception: its class, its own dict's address (where it has one), the abstract heap behind it -/
abbrev XK := Value → Option Addr → Hp → Prop
abbrev St := List (Option V)
abbrev VK := V → Hp → Prop
/-- an expression's reading; a test's; an argument list's -/
abbrev TE := St → Hp → VK → Prop
abbrev TT := St → Hp → (Bool → Hp → Prop) → Prop
abbrev TA := St → Hp → (List V → Hp → Prop) → Prop
/-- what is wanted behind a statement -/
structure Ends where
  nx : St → Hp → Prop
  rt : VK
  bk : St → Hp → Prop := fun _ _ => False
  ct : St → Hp → Prop := fun _ _ => False
abbrev TS := Ends → St → Hp → Prop

def EP (X : Cx) (pins : List (Addr × Obj)) (σ : St) (Q : VK) (u : Value) (s' : Shared) : Prop := ∃ v H', Inv X pins σ H' s' ∧ RelV v u ∧ Q v H'
def TP (X : Cx) (pins : List (Addr × Obj)) (σ : St) (Q : Bool → Hp → Prop) (b : Bool) (s' : Shared) : Prop := ∃ H', Inv X pins σ H' s' ∧ Q b H'
def AP (X : Cx) (pins : List (Addr × Obj)) (σ : St) (Q : List V → Hp → Prop) (us : List Value) (s' : Shared) : Prop := ∃ vs H', Inv X pins σ H' s' ∧ Vals vs us ∧ Q vs H'
def SP (X : Cx) (pins : List (Addr × Obj)) (D : Ends) (f : Flow) (s' : Shared) : Prop :=
  match f with
  | .next => ∃ σ' H', Inv X pins σ' H' s' ∧ D.nx σ' H'
  | .brk => ∃ σ' H', Inv X pins σ' H' s' ∧ D.bk σ' H'
  | .cont => ∃ σ' H', Inv X pins σ' H' s' ∧ D.ct σ' H'
  | .ret u => ∃ v σ' H', Inv X pins σ' H' s' ∧ RelV v u ∧ D.rt v H'

def PE (X : Cx) (e : Expr) (t : TE) : Prop :=
  ∀ (pins : List (Addr × Obj)) (s : Shared) (σ : St) (H : Hp) (Q : VK), Inv X pins σ H s → t σ H Q → wpAny (model X.prog X.w) X.A (eval e X.env) (EP X pins σ Q) X.xe s
def PT (X : Cx) (e : Expr) (t : TT) : Prop :=
  ∀ (pins : List (Addr × Obj)) (s : Shared) (σ : St) (H : Hp) (Q : Bool → Hp → Prop), Inv X pins σ H s → t σ H Q → wpAny (model X.prog X.w) X.A (isTrue e X.env (eval e X.env)) (TP X pins σ Q) X.xe s
/-- a test whatever its 'whole' is (and, or) -/
def PW (X : Cx) (e : Expr) (t : TT) : Prop :=
  ∀ (whole : Sem Value) (pins : List (Addr × Obj)) (s : Shared) (σ : St) (H : Hp) (Q : Bool → Hp → Prop), Inv X pins σ H s → t σ H Q → wpAny (model X.prog X.w) X.A (isTrue e X.env whole) (TP X pins σ Q) X.xe s
theorem PW.pt {X : Cx} {e : Expr} {t : TT} (h : PW X e t) : PT X e t := h _
/-- an argument list (no star), from the left -/
def PA (X : Cx) (es : List Expr) (t : TA) : Prop :=
  ∀ (pos : Pos) (pins : List (Addr × Obj)) (s : Shared) (σ : St) (H : Hp) (Q : List V → Hp → Prop), Inv X pins σ H s → t σ H Q → wpAny (model X.prog X.w) X.A (spliced (backTo pos (starEach es X.env))) (AP X pins σ Q) X.xe s
def PS (X : Cx) (st : Stmt) (t : TS) : Prop :=
  ∀ (pins : List (Addr × Obj)) (s : Shared) (σ : St) (H : Hp) (D : Ends), Inv X pins σ H s → t D σ H → wpAny (model X.prog X.w) X.A (exec st X.env) (SP X pins D) X.xe s
def PSs (X : Cx) (st : List Stmt) (t : TS) : Prop :=
  ∀ (pins : List (Addr × Obj)) (s : Shared) (σ : St) (H : Hp) (D : Ends), Inv X pins σ H s → t D σ H → wpAny (model X.prog X.w) X.A (execs st X.env) (SP X pins D) X.xe s
/-- weaken the end -/
theorem thn {α : Type} {t : Sem α} {Q Q' : α → Shared → Prop} {M : Model} {A : Around} {E : Value → Shared → Prop} {s : Shared} (h : wpAny M A t Q E s) (hQ : ∀ a s, Q a s → Q' a s) : wpAny M A t Q' E s := wpAny_mono h hQ fun _ _ x => x
end L2

namespace L2
open PySem PySem.Spec PyProof.Rows
section
variable {X : Cx}

/-! ### names and constants -/
inductive tVar (i : Nat) (σ : St) (H : Hp) (Q : VK) : Prop where
  | mk (v : _) (h1 : σ[i]? = some (some v)) (h2 : Q v H) : tVar i σ H Q
def tC (v : V) : TE := fun _ H Q => Q v H
theorem pe_var {i : Nat} {x : Str} {pos : Pos} (hN : X.N[i]? = some x) (hv : Vis X.env.scope x) (hd : (x == ("__debug__" : Str)) = false := by decide) (hcd : (x == ("__classdict__" : Str)) = false := by decide) : PE X (.Name x pos) (tVar i) := by
  intro pins s σ H Q I h
  obtain ⟨v, e, h⟩ := h
  obtain ⟨m, hn, hl⟩ := I.loc
  obtain ⟨u, r, l⟩ := hl i x v hN e hv
  have fin : EP X pins σ Q u s := ⟨v, H, I, r, h⟩
  rcases l with ⟨hk, hm⟩ | ⟨hk, c, hc, hcell⟩
  · exact wpAny_Name (wpAny_loadName_local I.ok.kind hk hn hm fin) hd
  · rcases hk with hk | hk
    · exact wpAny_Name (wpAny_loadName_cell I.ok.kind hk hc hcell fin) hd
    · exact wpAny_Name (wpAny_loadName_free I.ok.kind hk hc hcell fin hcd) hd
theorem pe_int {i j pos} : PE X (.Constant (.int i) j pos) (tC (.int i)) := fun _ _ _ H _ I h => wpAny_Constant_int ⟨.int i, H, I.tok _, ⟨_, rfl⟩, h⟩
theorem pe_bl {b j pos} : PE X (.Constant (.bool b) j pos) (tC (.bl b)) := fun _ _ _ H _ I h => Constant_bool ⟨.bl b, H, I, rfl, h⟩
theorem pe_non {j pos} : PE X (.Constant .none j pos) (tC .non) := fun _ _ _ H _ I h => Constant_none ⟨.non, H, I, rfl, h⟩
theorem pe_str {x j pos} : PE X (.Constant (.str x) j pos) (tC (.str x)) := fun _ _ _ H _ I h => Calls.Constant_str ⟨.str x, H, I.tok _, ⟨_, rfl⟩, h⟩

/-- a global name of the def -/
def Gl (X : Cx) (x : Str) : Prop := X.env.kindOf x = some .globalImplicit
theorem ld_glob {E : Value → Shared → Prop} {pins : List (Addr × Obj)} {s : Shared} {σ : St} {H : Hp} {x : Str} {u : Value} {pos : Pos} {Q : Value → Shared → Prop} (I : Inv X pins σ H s) (hg : Gl X x) (hm : X.mg x = some u) (h : Q u s)
    (hd : (x == ("__debug__" : Str)) = false := by decide) : wpAny (model X.prog X.w) X.A (eval (.Name x pos) X.env) Q E s :=
  Calls.Name_function_global I.ok.kind hg (Calls.loadGlobal_global (by rw [I.ok.glob]; exact I.mod.glob.keeps I.bk) hm h) hd
theorem ld_blt {E : Value → Shared → Prop} {pins : List (Addr × Obj)} {s : Shared} {σ : St} {H : Hp} {x : Str} {u : Value} {pos : Pos} {Q : Value → Shared → Prop} (I : Inv X pins σ H s) (hg : Gl X x) (hm : X.mg x = none) (hv : bootBuiltins x = some u) (h : Q u s)
    (hn : x ≠ "__name__" := by decide) (hd : (x == ("__debug__" : Str)) = false := by decide) : wpAny (model X.prog X.w) X.A (eval (.Name x pos) X.env) Q E s := by
  obtain ⟨mb, h1, h2⟩ := I.mod.blt
  exact Calls.Name_function_global I.ok.kind hg (Calls.loadGlobal_builtin (by rw [I.ok.glob]; exact I.mod.glob.keeps I.bk) hm (by rw [I.ok.blt]; exact h1.keeps I.bk) ((h2 x hn).trans hv) h) hd
theorem pe_bltn {x : Str} {v : V} {u : Value} {pos : Pos} (hg : Gl X x) (hm : X.mg x = none) (hv : bootBuiltins x = some u) (r : RelV v u) (hn : x ≠ "__name__" := by decide) (hd : (x == ("__debug__" : Str)) = false := by decide) : PE X (.Name x pos) (tC v) :=
  fun _ _ _ H _ I h => ld_blt I hg hm hv ⟨v, H, I, r, h⟩ hn hd

/-! ### arithmetic -/
variable {a b : Expr} {ta tb : TE} {pos : Pos}
/-! ### comparisons -/
/-- a comparison as a value, as a test -/
inductive tB_ (Q : Bool → Hp → Prop) (x : V) (H1 : Hp) : Prop where
  | mk (c : _) (h1 : x = .bl c) (h2 : Q c H1) : tB_ Q x H1
def tB (t : TE) : TT := fun σ H Q => t σ H fun x H1 => tB_ Q x H1
/-- an expression whose value is a bool, as a test -/
theorem pt_val {e : Expr} {t : TE} (h : PE X e t) (he : ∀ whole, isTrue e X.env whole = (do let v ← whole; standAt e.pos; holding [v] (truthy v)) := by intro _; rfl) : PT X e (tB t) := by
  intro pins s σ H Q I hw
  refine isTrue_plain (thn (h pins s σ H _ I hw) fun v s1 ⟨x, H1, I1, r1, q1⟩ => ?_) (he _)
  obtain ⟨d, rfl, q⟩ := q1
  cases r1
  exact wpAny_truthy_bool ⟨H1, I1, q⟩

/-! ### and, or, not -/
variable {tA tB' : TT} {rest : List Expr}
def tAnd (t u : TT) : TT := fun σ H Q => t σ H fun c H1 => if c = true then u σ H1 Q else Q false H1
def tOr (t u : TT) : TT := fun σ H Q => t σ H fun c H1 => if c = true then Q true H1 else u σ H1 Q
def tNot (t : TT) : TT := fun σ H Q => t σ H fun c H1 => Q (!c) H1
theorem pw_and1 (ha : PT X a tA) : PW X (.BoolOp .And [a] pos) tA := by
  intro wh pins s σ H Q I h
  refine isTrue_and (thn (ha pins s σ H Q I h) fun c s1 e => ?_)
  cases c with
  | true => exact isTrue_and_nil e
  | false => exact e
theorem pw_or1 (ha : PT X a tA) : PW X (.BoolOp .Or [a] pos) tA := by
  intro wh pins s σ H Q I h
  refine isTrue_or (thn (ha pins s σ H Q I h) fun c s1 e => ?_)
  cases c with
  | false => exact isTrue_or_nil e
  | true => exact e
theorem pw_and (ha : PT X a tA) (hb : PW X (.BoolOp .And (b :: rest) pos) tB') : PW X (.BoolOp .And (a :: b :: rest) pos) (tAnd tA tB') := by
  intro wh pins s σ H Q I h
  refine isTrue_and (thn (ha pins s σ H _ I h) fun c s1 ⟨H1, I1, q1⟩ => ?_)
  cases c with
  | true => exact hb wh pins s1 σ H1 Q I1 q1
  | false => exact ⟨H1, I1, q1⟩
theorem pw_or (ha : PT X a tA) (hb : PW X (.BoolOp .Or (b :: rest) pos) tB') : PW X (.BoolOp .Or (a :: b :: rest) pos) (tOr tA tB') := by
  intro wh pins s σ H Q I h
  refine isTrue_or (thn (ha pins s σ H _ I h) fun c s1 ⟨H1, I1, q1⟩ => ?_)
  cases c with
  | true => exact ⟨H1, I1, q1⟩
  | false => exact hb wh pins s1 σ H1 Q I1 q1
theorem pt_not (ha : PT X a tA) : PT X (.UnaryOp .Not a pos) (tNot tA) := by
  intro pins s σ H Q I h
  exact isTrue_not (ha pins s σ H (fun c H1 => Q (!c) H1) I h)
/-- .. as values (bools) -/
inductive tAndV_ (tb : TE) (σ : St) (Q : VK) (x : V) (H1 : Hp) : Prop where
  | mk (c : _) (h1 : x = .bl c) (h2 : if c = true then tb σ H1 Q else Q (.bl false) H1) : tAndV_ tb σ Q x H1
def tAndV (ta tb : TE) : TE := fun σ H Q => ta σ H fun x H1 => tAndV_ tb σ Q x H1
inductive tNotV_ (Q : VK) (x : V) (H1 : Hp) : Prop where
  | mk (c : _) (h1 : x = .bl c) (h2 : Q (.bl (!c)) H1) : tNotV_ Q x H1
def tNotV (ta : TE) : TE := fun σ H Q => ta σ H fun x H1 => tNotV_ Q x H1
theorem pe_one {op} {t : TE} (h : PE X a t) : PE X (.BoolOp op [a] pos) t := fun pins s σ H Q I hw => BoolOp_one (h pins s σ H Q I hw)
theorem pe_and (ha : PE X a ta) (hb : PE X (.BoolOp .And (b :: rest) pos) tb) : PE X (.BoolOp .And (a :: b :: rest) pos) (tAndV ta tb) := by
  intro pins s σ H Q I h
  refine BoolOp_and (thn (ha pins s σ H _ I h) fun v s1 ⟨x, H1, I1, r1, q1⟩ => ?_)
  obtain ⟨c, rfl, q1⟩ := q1
  cases r1
  refine wpAny_truthy_bool ?_
  cases c with
  | true => exact hb pins s1 σ H1 Q I1 q1
  | false => exact ⟨.bl false, H1, I1, rfl, q1⟩
theorem pe_not (ha : PE X a ta) : PE X (.UnaryOp .Not a pos) (tNotV ta) := by
  intro pins s σ H Q I h
  refine UnaryOp_ (thn (ha pins s σ H _ I h) fun v s1 ⟨x, H1, I1, r1, q1⟩ => ?_)
  obtain ⟨c, rfl, q1⟩ := q1
  cases r1
  exact not_of (wpAny_truthy_bool ⟨.bl (!c), H1, I1, rfl, q1⟩)
end
end L2

namespace L2
open PySem PySem.Spec PyProof.Rows

/-! ### a list, a tuple that is read: tracked, frozen, or an object of the module -/
def SqL (K : PySem.W.Frag) (H : Hp) (a : Addr) (xs : List V) : Prop :=
  Rd H a (.lst xs) ∨
    ∃ (o : Obj) (its : Array Value) (n : Nat), K.lookup a = some o ∧ o.cls = .type "list" ∧ o.dict = none ∧ o.data = .seq its n ∧ its.size ≤ sizeLine ∧ Vals xs its.toList
def SqT (K : PySem.W.Frag) (H : Hp) (a : Addr) (xs : List V) : Prop :=
  Rd H a (.tup xs) ∨
    ∃ (o : Obj) (its : Array Value) (n : Nat), K.lookup a = some o ∧ o.cls = .type "tuple" ∧ o.data = .seq its n ∧ its.size ≤ sizeLine ∧ Vals xs its.toList
def absV : Value → Option V
  | .none => some .non
  | .bool b => some (.bl b)
  | .int i _ => some (.int i)
  | .str x _ => some (.str x)
  | .bytes b _ => some (.byt b)
  | .float b _ => some (.flt b)
  | .ref a => some (.ref a)
  | .type n => some (.ty n)
  | _ => none
theorem RelV.abs {x : V} {u : Value} (r : RelV x u) : absV u = some x := by
  cases x with
  | non => cases r; rfl
  | bl _ => cases r; rfl
  | int _ => obtain ⟨t, rfl⟩ := r; rfl
  | str _ => obtain ⟨t, rfl⟩ := r; rfl
  | byt _ => obtain ⟨t, rfl⟩ := r; rfl
  | flt _ => obtain ⟨t, rfl⟩ := r; rfl
  | ref _ => cases r; rfl
  | ty _ => cases r; rfl
theorem RelV.inj {x y : V} {u : Value} (r : RelV x u) (q : RelV y u) : x = y := Option.some.inj (r.abs.symm.trans q.abs)
theorem Vals.inj : ∀ {xs ys : List V} {us : List Value}, Vals xs us → Vals ys us → xs = ys
  | _, _, _, .nil, .nil => rfl
  | _, _, _, .cons r t, .cons r' t' => by rw [r.inj r', Vals.inj t t']
section
variable {X : Cx} {pins : List (Addr × Obj)} {σ : St} {H : Hp} {s : Shared} {a : Addr} {xs ys : List V}
theorem SqL.of {K : PySem.W.Frag} (h : H a = some (.lst xs)) : SqL K H a xs := .inl (.inl h)
theorem SqT.of {K : PySem.W.Frag} (h : H a = some (.tup xs)) : SqT K H a xs := .inl (.inl h)
theorem Inv.list (I : Inv X pins σ H s) (h : SqL X.K H a xs) : ∃ its : List Value, Vals xs its ∧ PlainL s.heap a its.toArray ∧ xs.length ≤ sizeLine := by
  rcases h with h | ⟨o, its, n, hk, hc, hd, hs, hz, r⟩
  · obtain ⟨z, its, n, r, e⟩ := h.ok I.hok
    exact ⟨its, r, ⟨_, n, e, rfl, rfl, rfl⟩, z⟩
  · refine ⟨its.toList, r, ⟨o, n, I.kIn a o hk, hc, hd, by simpa using hs⟩, ?_⟩
    have e := r.length
    simp only [Array.length_toList] at e
    omega
theorem Inv.tuple (I : Inv X pins σ H s) (h : SqT X.K H a xs) : ∃ its : List Value, Vals xs its ∧ IsTup s.heap a its.toArray ∧ xs.length ≤ sizeLine := by
  rcases h with h | ⟨o, its, n, hk, hc, hs, hz, r⟩
  · obtain ⟨z, its, r, p⟩ := h.ok I.hok
    exact ⟨its, r, p, z⟩
  · refine ⟨its.toList, r, ⟨o, I.kIn a o hk, hc, n, by simpa using hs⟩, ?_⟩
    have e := r.length
    simp only [Array.length_toList] at e
    omega
theorem Inv.list_inj (I : Inv X pins σ H s) (h : SqL X.K H a xs) (h' : SqL X.K H a ys) : xs = ys := by
  obtain ⟨its, r, ⟨o, n, e, _, _, d⟩, _⟩ := I.list h
  obtain ⟨its', r', ⟨o', n', e', _, _, d'⟩, _⟩ := I.list h'
  rw [e] at e'; cases e'
  rw [d] at d'
  injection d' with d1 _
  have : its = its' := by simpa using congrArg Array.toList d1
  subst this
  exact r.inj r'
theorem Inv.tuple_inj (I : Inv X pins σ H s) (h : SqT X.K H a xs) (h' : SqT X.K H a ys) : xs = ys := by
  obtain ⟨its, r, ⟨o, e, _, n, d⟩, _⟩ := I.tuple h
  obtain ⟨its', r', ⟨o', e', _, n', d'⟩, _⟩ := I.tuple h'
  rw [e] at e'; cases e'
  rw [d] at d'
  injection d' with d1 _
  have : its = its' := by simpa using congrArg Array.toList d1
  subst this
  exact r.inj r'
end

/-! ### another wish about exceptions -/
abbrev Cx.wish (X : Cx) (E : Value → Shared → Prop) : Cx := { X with xe := E }
/-- no exception leaves -/
abbrev Cx.nox (X : Cx) : Cx := X.wish fun _ _ => False
theorem Cx.Ok.wish {X : Cx} (ok : X.Ok) (E : Value → Shared → Prop) : (X.wish E).Ok :=
  ⟨ok.mod, ok.kind, ok.glob, ok.blt, ok.above, ok.inj, ok.has, ok.cab, ok.hd, ok.frames, ok.stk, ok.exf, ok.bs, ok.bsz, ok.noex, ok.exfs, ok.funs, ok.frf⟩
theorem Cx.Ok.unwish {X : Cx} {E : Value → Shared → Prop} (ok : (X.wish E).Ok) : X.Ok :=
  ⟨ok.mod, ok.kind, ok.glob, ok.blt, ok.above, ok.inj, ok.has, ok.cab, ok.hd, ok.frames, ok.stk, ok.exf, ok.bs, ok.bsz, ok.noex, ok.exfs, ok.funs, ok.frf⟩
section
variable {X : Cx} {pins : List (Addr × Obj)} {σ : St} {H : Hp} {s : Shared} {E : Value → Shared → Prop}
theorem Inv.wish (I : Inv X pins σ H s) (E : Value → Shared → Prop) : Inv (X.wish E) pins σ H s := ⟨I.ok.wish E, I.os, I.bare, I.base, I.loc, I.cell, I.free, I.freeC, I.pin, I.hok, I.len⟩
theorem Inv.unwish (I : Inv (X.wish E) pins σ H s) : Inv X pins σ H s := ⟨I.ok.unwish, I.os, I.bare, I.base, I.loc, I.cell, I.free, I.freeC, I.pin, I.hok, I.len⟩
theorem SP.unwish {D : Ends} {f : Flow} {s' : Shared} (h : SP (X.wish E) pins D f s') : SP X pins D f s' := by
  cases f with
  | next => obtain ⟨σ', H', I, q⟩ := h; exact ⟨σ', H', I.unwish, q⟩
  | brk => obtain ⟨σ', H', I, q⟩ := h; exact ⟨σ', H', I.unwish, q⟩
  | cont => obtain ⟨σ', H', I, q⟩ := h; exact ⟨σ', H', I.unwish, q⟩
  | ret u => obtain ⟨v, σ', H', I, r, q⟩ := h; exact ⟨v, σ', H', I.unwish, r, q⟩
theorem PSs.nox {st : List Stmt} {t : TS} (h : PSs X.nox st t) : PSs X st t := fun pins s σ H D I hw =>
  wpAny_mono (h pins s σ H D (I.wish _) hw) (fun _ _ q => q.unwish) fun _ _ z => False.elim z
end

/-! ### blocks and small statements -/
section
variable {X : Cx} {st : Stmt} {rest : List Stmt} {t u : TS} {e : Expr} {te : TE} {pos : Pos}
def tNext : TS := fun D σ H => D.nx σ H
def tSeq (t u : TS) : TS := fun D σ H => t { D with nx := u D } σ H
theorem pss_nil : PSs X [] tNext := fun _ _ σ H _ I h => wpAny_execs_nil ⟨σ, H, I, h⟩
theorem pss_cons (h1 : PS X st t) (h2 : PSs X rest u) : PSs X (st :: rest) (tSeq t u) := by
  intro pins s σ H D I h
  refine wpAny_execs_cons (thn (h1 pins s σ H { D with nx := u D } I h) fun f s1 q => ?_)
  cases f with
  | next =>
    obtain ⟨σ', H', I', q⟩ := q
    exact h2 pins s1 σ' H' D I' q
  | ret v => exact q
  | brk => exact q
  | cont => exact q
theorem pss_one (h1 : PS X st t) : PSs X [st] t := by
  intro pins s σ H D I h
  refine wpAny_execs_cons (thn (h1 pins s σ H D I h) fun f s1 q => ?_)
  cases f with
  | next => exact wpAny_execs_nil q
  | ret v => exact q
  | brk => exact q
  | cont => exact q
/-- in a def's body nothing is shown -/
theorem Inv.quiet {pins : List (Addr × Obj)} {σ : St} {H : Hp} {s : Shared} (I : Inv X pins σ H s) : interactive X.env = false := by simp [interactive, I.ok.kind]
/-- an expression whose value is dropped -/
def tDrop (te : TE) : TS := fun D σ H => te σ H fun _ H1 => D.nx σ H1
theorem ps_expr (he : PE X e te) (hs : swapsWith e none pos.line X.env = pure false := by rfl) : PS X (.Expr e pos) (tDrop te) := by
  intro pins s σ H D I h
  exact wpAny_Expr_any (thn (he pins s σ H _ I h) fun v s1 ⟨x, H1, I1, r1, q1⟩ => ⟨σ, H1, I1, q1⟩) I.quiet hs
def tRet (te : TE) : TS := fun D σ H => te σ H D.rt
theorem ps_ret (he : PE X e te) : PS X (.Return (some e) pos) (tRet te) := by
  intro pins s σ H D I h
  exact wpAny_Return_some (thn (he pins s σ H _ I h) fun v s1 ⟨x, H1, I1, r1, q1⟩ => ⟨x, σ, H1, I1, r1, q1⟩)
def tIfS (c : TT) (t u : TS) : TS := fun D σ H => c σ H fun b H1 => if b = true then t D σ H1 else u D σ H1
theorem ps_if {c : Expr} {a b : List Stmt} {tc : TT} (hc : PT X c tc) (ha : PSs X a t) (hb : PSs X b u) : PS X (.If c a b pos) (tIfS tc t u) := by
  intro pins s σ H D I h
  refine wpAny_If (thn (hc pins s σ H _ I h) fun d s1 ⟨H1, I1, q1⟩ => ?_)
  cases d with
  | true => exact ha pins s1 σ H1 D I1 q1
  | false => exact hb pins s1 σ H1 D I1 q1
/-- code that the proof never comes to -/
def tNever : TS := fun _ _ _ => False
theorem ps_never : PS X st tNever := fun _ _ _ _ _ _ h => h.elim
end

/-! ### targets -/
abbrev TG := V → St → Hp → (St → Hp → Prop) → Prop
abbrev TGs := List V → St → Hp → (St → Hp → Prop) → Prop
def PG (X : Cx) (target : Expr) (t : TG) : Prop :=
  ∀ (pins : List (Addr × Obj)) (s : Shared) (σ : St) (H : Hp) (v : V) (u : Value) (Q : St → Hp → Prop), Inv X pins σ H s → RelV v u → t v σ H Q →
    wpAny (model X.prog X.w) X.A (assign target X.env u) (fun _ s' => ∃ σ' H', Inv X pins σ' H' s' ∧ Q σ' H') X.xe s
/-- several targets, one after another -/
def PGs (X : Cx) (ts : List Expr) (t : TGs) : Prop :=
  ∀ (pins : List (Addr × Obj)) (s : Shared) (σ : St) (H : Hp) (vs : List V) (us : List Value) (Q : St → Hp → Prop), Inv X pins σ H s → Vals vs us → t vs σ H Q →
    wpAny (model X.prog X.w) X.A (assignInOrder ((assignEach ts X.env).map (·.2)) us) (fun _ s' => ∃ σ' H', Inv X pins σ' H' s' ∧ Q σ' H') X.xe s
/-- o[i] = v, by values -/
abbrev TSet := V → V → V → Hp → (Hp → Prop) → Prop
def PSet (X : Cx) (t : TSet) : Prop :=
  ∀ (pins : List (Addr × Obj)) (s : Shared) (σ : St) (H : Hp) (o i v : V) (ov iv u : Value) (Q : Hp → Prop), Inv X pins σ H s → RelV o ov → RelV i iv → RelV v u → t o i v H Q →
    wpAny (model X.prog X.w) X.A (setItem ov iv u) (fun _ s' => ∃ H', Inv X pins σ H' s' ∧ Q H') X.xe s
section
variable {X : Cx} {pos : Pos}
def gName (i : Nat) : TG := fun v σ H Q => Q (σ.set i (some v)) H
theorem pg_name {i : Nat} {x : Str} (hN : X.N.Nodup) (hi : X.N[i]? = some x) (hx : Loc X.env.scope x) (hf : X.fn x = true ∨ X.env.scope.names.lookup x = some .local := by first | exact .inl rfl | exact .inr rfl | assumption) : PG X (.Name x pos) (gName i) := by
  intro pins s σ H v u Q I r h
  exact wpAny_assign_Name (store_ok I hN hi hx r (fun s' I' => ⟨_, H, I', h⟩) hf)
/-- o[i] = .. -/
def gSub (to ti : TE) (t : TSet) : TG := fun v σ H Q => to σ H fun o H1 => ti σ H1 fun i H2 => t o i v H2 fun H3 => Q σ H3
theorem pg_sub {o i : Expr} {to ti : TE} {t : TSet} (ho : PE X o to) (hi : PE X i ti) (hs : PSet X t)
    (ha : ∀ v, assign (.Subscript o i pos) X.env v = (do
      let ov ← holding [v] (eval o X.env)
      let iv ← holding [v, ov] (eval i X.env)
      standAt pos
      holding [v, ov, iv] (setItem ov iv v)
      release [v, ov, iv] []) := by intro _; rfl) : PG X (.Subscript o i pos) (gSub to ti t) := by
  intro pins s σ H v u Q I r h
  rw [ha]
  refine wpAny_bind (wpAny_holding (thn (ho pins s σ H _ I h) fun ov s1 ⟨x, H1, I1, r1, q1⟩ => ?_))
  refine wpAny_bind (wpAny_holding (thn (hi pins s1 σ H1 _ I1 q1) fun iv s2 ⟨y, H2, I2, r2, q2⟩ => ?_))
  refine wpAny_bind (wpAny_standAt (wpAny_bind (wpAny_holding (thn (hs pins s2 σ H2 x y v ov iv u _ I2 r1 r2 r q2) fun _ s3 ⟨H3, I3, q3⟩ => ?_))))
  exact wpAny_release ⟨σ, H3, I3, q3⟩
/-- target = value -/
def tAsg (te : TE) (g : TG) : TS := fun D σ H => te σ H fun x H1 => g x σ H1 D.nx
theorem ps_asg {tg e : Expr} {te : TE} {g : TG} (he : PE X e te) (hg : PG X tg g) (hs : swapsWithSole [tg] e pos.line X.env = pure false := by rfl) (hw : swappedStores [tg] e X.env = pure none := by rfl)
    (h1 : (assignEach [tg] X.env).map (·.2) = [assign tg X.env] := by rfl) : PS X (.Assign [tg] e pos) (tAsg te g) := by
  intro pins s σ H D I h
  refine wpAny_Assign_stores (thn (he pins s σ H _ I h) fun v s1 ⟨x, H1, I1, r1, q1⟩ => ?_) hs hw
  rw [h1]
  exact thn (hg pins s1 σ H1 x v _ I1 r1 q1) fun _ s2 q => q
/-- name = value -/
theorem ps_set {i : Nat} {x : Str} {e : Expr} {te : TE} {pos' : Pos} (hN : X.N.Nodup) (hi : X.N[i]? = some x) (hx : Loc X.env.scope x) (he : PE X e te) (hs : swapsWith e (some (.Name x pos')) pos.line X.env = pure false := by rfl) (hf : X.fn x = true ∨ X.env.scope.names.lookup x = some .local := by first | exact .inl rfl | exact .inr rfl | assumption) :
    PS X (.Assign [.Name x pos'] e pos) (tAsg te (gName i)) := by
  intro pins s σ H D I h
  refine wpAny_Assign_Name (thn (he pins s σ H _ I h) fun v s1 ⟨y, H1, I1, r1, q1⟩ => ?_) hs
  exact store_ok I1 hN hi hx r1 (fun s2 I2 => ⟨_, H1, I2, q1⟩) hf
end

/-! ### while -/
section
variable {X : Cx} {pos : Pos}
/-- the invariant W with its measure -/
def tWhile (c : TT) (tb : TS) : TS := fun D σ H => ∃ W : Nat → St → Hp → Prop, (∃ m, W m σ H) ∧ ∀ m σ H, W m σ H →
  c σ H fun b H1 => if b = true then ∃ N : St → Hp → Prop, (∀ σ' H', N σ' H' → ∃ m', m' < m ∧ W m' σ' H') ∧ tb { D with nx := N, ct := N, bk := D.nx } σ H1 else D.nx σ H1
theorem ps_while {c : Expr} {body : List Stmt} {tc : TT} {tb : TS} (hp : PassesOwn (model X.prog X.w) X.A X.env X.xe) (hc : PT X c tc) (hb : PSs X body tb) : PS X (.While c body [] pos) (tWhile tc tb) := by
  intro pins s σ H D I h
  obtain ⟨W, ⟨m0, w0⟩, turn⟩ := h
  refine wpAny_While (codeAny_whileLoop (fun n s' => ∃ σ' H', Inv X pins σ' H' s' ∧ W n σ' H') ?_ m0 ⟨σ, H, I, w0⟩)
  rintro n s1 ⟨σ1, H1, I1, w1⟩
  refine wpAny_passesOwn hp (thn (hc pins s1 σ1 H1 _ I1 (turn n σ1 H1 w1)) fun b s2 ⟨H2, I2, q2⟩ => ?_)
  cases b with
  | true =>
    obtain ⟨N, hN, q2⟩ := q2
    rw [if_pos rfl]
    refine wpAny_passesOwn hp (thn (hb pins s2 σ1 H2 _ I2 q2) fun f s3 q3 => ?_)
    cases f with
    | next =>
      obtain ⟨σ3, H3, I3, n3⟩ := q3
      obtain ⟨m', hm, w3⟩ := hN σ3 H3 n3
      exact ⟨m', hm, σ3, H3, I3, w3⟩
    | cont =>
      obtain ⟨σ3, H3, I3, n3⟩ := q3
      obtain ⟨m', hm, w3⟩ := hN σ3 H3 n3
      exact ⟨m', hm, σ3, H3, I3, w3⟩
    | brk => exact q3
    | ret v => exact q3
  | false =>
    rw [if_neg Bool.false_ne_true]
    exact wpAny_execs_nil ⟨σ1, H2, I2, q2⟩
end

/-! ### what a loop or a comprehension walks -/
/-- at turn i: it yields x (the heap may grow), or it stops -/
structure It where
  go : Nat → Hp → Prop
  yld : Nat → Hp → V → Hp → Prop
  stop : Nat → Hp → Prop
/-- the iterator's own objects may turn: they are not the frame's, not pinned, younger than the entry (or a comprehension's own) -/
def FpOk (X : Cx) (pins : List (Addr × Obj)) (H : Hp) (b : Addr) : Prop :=
  H b = none ∧ b ≠ X.env.locals ∧ b ∉ X.fs ∧ (b ∈ X.ex ∨ X.s₀.heap.objs.size ≤ b) ∧ (∀ x c, X.env.cells.lookup x = some c → c ≠ b) ∧ ∀ p ∈ X.pn ++ pins, p.1 ≠ b
theorem Inv.fpOk {X : Cx} {pins : List (Addr × Obj)} {σ : St} {H H' : Hp} {s : Shared} {b : Addr} (I : Inv X pins σ H s) (hb : s.heap.objs.size ≤ b) (hn : H' b = none) : FpOk X pins H' b := by
  refine ⟨hn, Nat.ne_of_gt (Nat.lt_of_lt_of_le I.lt hb), I.nofs hb, .inr (Nat.le_trans I.sz hb), fun x c e z => ?_, fun p hp z => ?_⟩
  · obtain ⟨v, q⟩ := I.cell x c e
    exact absurd (Nat.lt_of_lt_of_le q.lt (by rw [z]; exact hb)) (Nat.lt_irrefl _)
  · exact absurd (Nat.lt_of_lt_of_le (Heap.lt_size (I.pin p hp).1) (by rw [z]; exact hb)) (Nat.lt_irrefl _)
structure Turn (P : Program) (w : World) (K : PySem.W.Frag) (tg : Expr) (J : It) (fp : List Addr) (it : Addr) (tn : Nat → Heap → Prop) : Prop where
  mem : it ∈ fp
  obj : ∀ i h, tn i h → ∀ b ∈ fp, ∃ o, h.get? b = some o ∧ ∀ v, o.data ≠ .cell v
  keep : ∀ i h h', tn i h → (∀ b ∈ fp, ∀ o, h.get? b = some o → h'.get? b = some o) → tn i h'
  item : ∀ (X : Cx), X.prog = P → X.w = w → X.K = K → X.calm = true → ∀ (i : Nat) (pins : List (Addr × Obj)) (s : Shared) (σ : St) (H : Hp) (E : Value → Shared → Prop), Inv X pins σ H s → (∀ b ∈ fp, FpOk X pins H b) → tn i s.heap → J.go i H →
    wpAny (model P w) X.A (pyNext (.ref it)) (fun r s1 => ∃ u, r = some u ∧
      wpAny (model P w) X.A (letOwnedTupleGo tg (.ref it) u) (fun _ s2 => ∃ x H', Inv X pins σ H' s2 ∧ RelV x u ∧ J.yld i H x H' ∧ tn (i + 1) s2.heap ∧ ∀ b ∈ fp, H' b = none) E s1) E s
  done : ∀ (X : Cx), X.prog = P → X.w = w → X.K = K → X.calm = true → ∀ (i : Nat) (pins : List (Addr × Obj)) (s : Shared) (σ : St) (H : Hp) (E : Value → Shared → Prop), Inv X pins σ H s → (∀ b ∈ fp, FpOk X pins H b) → tn i s.heap → J.stop i H →
    wpAny (model P w) X.A (pyNext (.ref it)) (fun r s1 => r = none ∧ Inv X pins σ H s1) E s
  self : ∀ (A : Around) (i : Nat) (s : Shared) (Q : Value → Shared → Prop) (E : Value → Shared → Prop), tn i s.heap → Q (.ref it) s → wpAny (model P w) A (pyIter (.ref it)) Q E s
abbrev TI := St → Hp → (It → Hp → Prop) → Prop
/-- an iterator has come -/
def PIE (X : Cx) (pins : List (Addr × Obj)) (σ : St) (tg : Expr) (R : It → Hp → Prop) (itv : Value) (s2 : Shared) : Prop :=
  ∃ (it : Addr) (fp : List Addr) (tn : Nat → Heap → Prop) (J : It) (H' : Hp), itv = .ref it ∧ Inv X pins σ H' s2 ∧ Turn X.prog X.w X.K tg J fp it tn ∧ tn 0 s2.heap ∧ (∀ b ∈ fp, FpOk X pins H' b) ∧ R J H'
def PI (X : Cx) (tg iter : Expr) (wi : TI) : Prop :=
  ∀ (pins : List (Addr × Obj)) (s : Shared) (σ : St) (H : Hp) (R : It → Hp → Prop), Inv X pins σ H s → wi σ H R →
    wpAny (model X.prog X.w) X.A (eval iter X.env) (fun v s1 => wpAny (model X.prog X.w) X.A (pyIter v) (PIE X pins σ tg R) X.xe s1) X.xe s

/-- the step ahead of the store is nothing for an iterator that keeps no tuple -/
theorem go_of {M : Model} {A : Around} {E : Value → Shared → Prop} {s : Shared} {tg : Expr} {it : Addr} {u : Value} {o : Obj} {n : String} {vs : Array Value} {Q : Unit → Shared → Prop} (ho : s.heap.get? it = some o) (hc : o.cls = .type n) (hd : o.data = .fields vs)
    (hn : ["enumerate", "zip", "dict_itemiterator", "dict_reverseitemiterator", "odict_iterator", "itertools.zip_longest", "itertools.pairwise"].contains n = false) (hQ : Q () s) : wpAny M A (letOwnedTupleGo tg (.ref it) u) Q E s := by
  unfold letOwnedTupleGo
  cases tg <;> first
    | exact wpAny_pure hQ
    | (cases u <;> first
        | exact wpAny_pure hQ
        | (refine wpAny_bind (wpAny_load ho ?_)
           rw [hc, hd]
           show wpAny M A (if (["enumerate", "zip", "dict_itemiterator", "dict_reverseitemiterator", "odict_iterator", "itertools.zip_longest", "itertools.pairwise"].contains n && vs[0]? == some (rawInt _)) = true then _ else _) Q E s
           rw [if_neg (by intro h; rw [hn, Bool.false_and] at h; cases h)]
           exact wpAny_pure hQ))

/-- the list at a, as it stands at each turn (a loop may append to it) -/
def Itl (K : PySem.W.Frag) (a : Addr) : It :=
  ⟨fun i H => ∃ xs x, SqL K H a xs ∧ xs[i]? = some x, fun i H x H' => H' = H ∧ ∀ xs, SqL K H a xs → xs[i]? = some x, fun i H => ∃ xs, SqL K H a xs ∧ xs.length ≤ i⟩
def Itt (K : PySem.W.Frag) (a : Addr) : It :=
  ⟨fun i H => ∃ xs x, SqT K H a xs ∧ xs[i]? = some x, fun i H x H' => H' = H ∧ ∀ xs, SqT K H a xs → xs[i]? = some x, fun i H => ∃ xs, SqT K H a xs ∧ xs.length ≤ i⟩
/-- lo, lo + 1, .. (n of them) -/
def Itr (lo : Int) (n : Nat) : It := ⟨fun i _ => i < n, fun i H x H' => H' = H ∧ x = .int (lo + i), fun i _ => n ≤ i⟩
theorem turn_list {P : Program} {w : World} {K : PySem.W.Frag} {tg : Expr} (a it : Addr) : Turn P w K tg (Itl K a) [it] it (fun i h => h.IsListIter it a i) where
  mem := by simp
  obj := fun i h st b hb => by
    have e : b = it := by simpa using hb
    subst e
    obtain ⟨o, e, c, d⟩ := st
    exact ⟨o, e, fun v z => by rw [d] at z; cases z⟩
  keep := fun i h h' st k => st.at fun o e => k it (by simp) o e
  item := by
    intro X hP hw hK hc i pins s σ H E I hf st hg
    subst hP hw hK
    obtain ⟨xs, x, hq, hx⟩ := hg
    obtain ⟨its, rv, p, hz⟩ := I.list hq
    obtain ⟨u, hu, ru⟩ := rv.get hx
    obtain ⟨f0, f1, f2, f3, f4, f5⟩ := hf it (by simp)
    refine wpAny_pyNext_list_item st p.isList (x := u) (by simpa using hu) fun h' st' sb => ?_
    have I1 : Inv X pins σ H { s with heap := h' } := I.turned (t' := s.toks) (fun b o hb e => (sb.2 b hb).trans e) f0 f1 f3 f4 f5
    obtain ⟨o, e, c, d⟩ := id st'
    exact ⟨u, rfl, go_of (s := { s with heap := h' }) e c d (by decide) ⟨x, H, I1, ru, ⟨rfl, fun ys hy => by rw [I.list_inj hy hq]; exact hx⟩, st', fun b hb => (hf b hb).1⟩⟩
  done := by
    intro X hP hw hK hc i pins s σ H E I hf st hg
    subst hP hw hK
    obtain ⟨xs, hq, hx⟩ := hg
    obtain ⟨its, rv, p, hz⟩ := I.list hq
    obtain ⟨f0, f1, f2, f3, f4, f5⟩ := hf it (by simp)
    have hl := rv.length
    exact wpAny_pyNext_list_end (I.ok.hd hc) st p.isList (by simp; omega) fun h' eb => ⟨rfl, I.turned (t' := s.toks) (fun b o hb e => eb b o hb e) f0 f1 f3 f4 f5⟩
  self := fun _ _ _ _ _ st h => wpAny_pyIter_listiter st h
theorem turn_tuple {P : Program} {w : World} {K : PySem.W.Frag} {tg : Expr} (a it : Addr) : Turn P w K tg (Itt K a) [it] it (fun i h => h.IsTupleIter it a i) where
  mem := by simp
  obj := fun i h st b hb => by
    have e : b = it := by simpa using hb
    subst e
    obtain ⟨o, e, c, d⟩ := st
    exact ⟨o, e, fun v z => by rw [d] at z; cases z⟩
  keep := fun i h h' st k => st.at fun o e => k it (by simp) o e
  item := by
    intro X hP hw hK hc i pins s σ H E I hf st hg
    subst hP hw hK
    obtain ⟨xs, x, hq, hx⟩ := hg
    obtain ⟨its, rv, p, hz⟩ := I.tuple hq
    obtain ⟨u, hu, ru⟩ := rv.get hx
    obtain ⟨f0, f1, f2, f3, f4, f5⟩ := hf it (by simp)
    refine wpAny_pyNext_tuple_item st (show s.heap.IsTuple a its.toArray from p) (x := u) (by simpa using hu) fun h' st' sb => ?_
    have I1 : Inv X pins σ H { s with heap := h' } := I.turned (t' := s.toks) (fun b o hb e => (sb.2 b hb).trans e) f0 f1 f3 f4 f5
    obtain ⟨o, e, c, d⟩ := id st'
    exact ⟨u, rfl, go_of (s := { s with heap := h' }) e c d (by decide) ⟨x, H, I1, ru, ⟨rfl, fun ys hy => by rw [I.tuple_inj hy hq]; exact hx⟩, st', fun b hb => (hf b hb).1⟩⟩
  done := by
    intro X hP hw hK hc i pins s σ H E I hf st hg
    subst hP hw hK
    obtain ⟨xs, hq, hx⟩ := hg
    obtain ⟨its, rv, p, hz⟩ := I.tuple hq
    obtain ⟨f0, f1, f2, f3, f4, f5⟩ := hf it (by simp)
    have hl := rv.length
    exact wpAny_pyNext_tuple_end (I.ok.hd hc) st (show s.heap.IsTuple a its.toArray from p) (by simp; omega) fun h' eb => ⟨rfl, I.turned (t' := s.toks) (fun b o hb e => eb b o hb e) f0 f1 f3 f4 f5⟩
  self := fun _ _ _ _ _ st h => wpAny_pyIter_tupleiter st h
theorem turn_range {P : Program} {w : World} {K : PySem.W.Frag} {tg : Expr} (it : Addr) (lo : Int) (n : Nat) : Turn P w K tg (Itr lo n) [it] it (fun i h => IsRangeIter h it (lo + (i : Nat) * 1) ((n : Int) - (i : Nat)) 1) where
  mem := by simp
  obj := fun i h st b hb => by
    have e : b = it := by simpa using hb
    subst e
    exact ⟨_, st, fun v z => by
      have z' : Data.fields _ = Data.cell v := z
      cases z'⟩
  keep := fun i h h' st k => k it (by simp) _ st
  item := by
    intro X hP hw hK hc i pins s σ H E I hf st hg
    subst hP hw hK
    obtain ⟨f0, f1, f2, f3, f4, f5⟩ := hf it (by simp)
    have W := Walks.range (prog := X.prog) (w := X.w) (I.ok.hd hc) it lo 1 n
    refine W.item i s _ _ hg st fun v h' tk hv st' kk => ?_
    obtain ⟨t, rfl⟩ := hv
    have I1 : Inv X pins σ H { s with heap := h', toks := tk } := I.turned (fun b o hb e => kk b o (by simpa using hb) e) f0 f1 f3 f4 f5
    refine ⟨_, rfl, go_of (s := { s with heap := h', toks := tk }) (n := "range_iterator") st' rfl rfl (by decide) ⟨.int (lo + i), H, I1, ⟨t, ?_⟩, ⟨rfl, rfl⟩, st', fun b hb => (hf b hb).1⟩⟩
    rw [Int.mul_one]
  done := by
    intro X hP hw hK hc i pins s σ H E I hf st hg
    subst hP hw hK
    obtain ⟨f0, f1, f2, f3, f4, f5⟩ := hf it (by simp)
    exact wpAny_pyNext_range_end (I.ok.hd hc) st (by have : n ≤ i := hg; omega) fun h' eb => ⟨rfl, I.turned (t' := s.toks) (fun b o hb e => eb b o hb e) f0 f1 f3 f4 f5⟩
  self := fun _ _ _ _ _ st h => wpAny_pyIter_rangeiter st h
end L2

namespace L2
open PySem PySem.Spec PyProof.Rows
section
variable {X : Cx} {tg : Expr}
inductive iList_ (K : PySem.W.Frag) (R : It → Hp → Prop) (x : V) (H1 : Hp) : Prop where
  | mk (a : _) (h1 : x = .ref a) (h2 : (∃ xs, SqL K H1 a xs)) (h3 : R (Itl K a) H1) : iList_ K R x H1
def iList (K : PySem.W.Frag) (tl : TE) : TI := fun σ H R => tl σ H fun x H1 => iList_ K R x H1
inductive iTup_ (K : PySem.W.Frag) (R : It → Hp → Prop) (x : V) (H1 : Hp) : Prop where
  | mk (a : _) (h1 : x = .ref a) (h2 : (∃ xs, SqT K H1 a xs)) (h3 : R (Itt K a) H1) : iTup_ K R x H1
def iTup (K : PySem.W.Frag) (tl : TE) : TI := fun σ H R => tl σ H fun x H1 => iTup_ K R x H1
theorem pi_list {l : Expr} {tl : TE} (hl : PE X l tl) : PI X tg l (iList X.K tl) := by
  intro pins s σ H R I h
  refine thn (hl pins s σ H _ I h) fun v s1 ⟨x, H1, I1, r1, q1⟩ => ?_
  obtain ⟨a, e, ⟨xs, hq⟩, q⟩ := q1
  subst e
  cases r1
  obtain ⟨its, rv, p, hz⟩ := I1.list hq
  refine wpAny_pyIter_list p.isList ?_
  refine ⟨s1.heap.objs.size, [s1.heap.objs.size], _, _, H1, rfl, I1.kept (t' := s1.toks) fun b o e => Heap.get?_push_of_some _ e, turn_list a _, ⟨_, Heap.get?_push_size _ rfl, rfl, rfl⟩, fun b hb => ?_, q⟩
  have e : b = s1.heap.objs.size := by simpa using hb
  subst e
  exact I1.fpOk (Nat.le_refl _) (I1.hok.fresh (Nat.le_refl _))
theorem pi_tup {l : Expr} {tl : TE} (hl : PE X l tl) : PI X tg l (iTup X.K tl) := by
  intro pins s σ H R I h
  refine thn (hl pins s σ H _ I h) fun v s1 ⟨x, H1, I1, r1, q1⟩ => ?_
  obtain ⟨a, e, ⟨xs, hq⟩, q⟩ := q1
  subst e
  cases r1
  obtain ⟨its, rv, p, hz⟩ := I1.tuple hq
  refine wpAny_pyIter_tuple (show s1.heap.IsTuple a its.toArray from p) ?_
  refine ⟨s1.heap.objs.size, [s1.heap.objs.size], _, _, H1, rfl, I1.kept (t' := s1.toks) fun b o e => Heap.get?_push_of_some _ e, turn_tuple a _, ⟨_, Heap.get?_push_size _ rfl, rfl, rfl⟩, fun b hb => ?_, q⟩
  have e : b = s1.heap.objs.size := by simpa using hb
  subst e
  exact I1.fpOk (Nat.le_refl _) (I1.hok.fresh (Nat.le_refl _))
/-- a range object just made, walked -/
theorem range_it {pins : List (Addr × Obj)} {σ : St} {H : Hp} {s : Shared} {R : It → Hp → Prop} {E : Value → Shared → Prop} {lo hi : Int} {t u v : Tok} {tk : Nat} (I : Inv X pins σ H s) (h1 : -(2 ^ 62) ≤ lo) (h2 : lo < 2 ^ 62) (h3 : -(2 ^ 62) ≤ hi) (h4 : hi < 2 ^ 62)
    (q : R (Itr lo (hi - lo).toNat) H) : wpAny (model X.prog X.w) X.A (pyIter (.ref s.heap.objs.size)) (PIE X pins σ tg R) E { s with heap := s.heap.push { cls := .type "range", data := .fields #[.int lo t, .int hi u, .int 1 v] }, toks := tk } := by
  refine wpAny_pyIter_range (IsRange.new ..) (small_one h1 h2 h3 h4) ?_
  have I1 : Inv X pins σ H { s with heap := s.heap.push { cls := .type "range", data := .fields #[.int lo t, .int hi u, .int 1 v] }, toks := tk } := I.kept fun b o e => Heap.get?_push_of_some _ e
  refine ⟨(s.heap.push { cls := .type "range", data := .fields #[.int lo t, .int hi u, .int 1 v] }).objs.size, [(s.heap.push { cls := .type "range", data := .fields #[.int lo t, .int hi u, .int 1 v] }).objs.size], _, _, H, rfl,
    I1.kept (t' := tk) fun b o e => Heap.get?_push_of_some _ e, turn_range _ lo (hi - lo).toNat, ?_, fun b hb => ?_, q⟩
  · have e1 : lo + ((0 : Nat) : Int) * 1 = lo := by simp
    have e2 : (((hi - lo).toNat : Nat) : Int) - ((0 : Nat) : Int) = Builtin.Range.rangeSize lo hi 1 := by rw [rangeSize_one]; split <;> omega
    show IsRangeIter _ _ (lo + ((0 : Nat) : Int) * 1) ((((hi - lo).toNat : Nat) : Int) - ((0 : Nat) : Int)) 1
    rw [e1, e2]
    exact Heap.get?_push_size _ rfl
  · have e : b = (s.heap.push { cls := .type "range", data := .fields #[.int lo t, .int hi u, .int 1 v] }).objs.size := by simpa using hb
    subst e
    exact I1.fpOk (Nat.le_refl _) (I1.hok.fresh (Nat.le_refl _))
inductive iRng1_ (R : It → Hp → Prop) (vs : List V) (H1 : Hp) : Prop where
  | mk (j : Int) (h1 : vs = [.int j]) (h2 : -(2 ^ 62) ≤ j) (h3 : j < 2 ^ 62) (h4 : R (Itr 0 j.toNat) H1) : iRng1_ R vs H1
def iRng1 (ta : TA) : TI := fun σ H R => ta σ H fun vs H1 => iRng1_ R vs H1
theorem pi_range1 {a : Expr} {ta : TA} {p pos : Pos} (hg : Gl X "range") (hm : X.mg "range" = none) (ha : PA X [a] ta) (hs : starEach [a] X.env = [(false, eval a X.env)] := by rfl) : PI X tg (.Call (.Name "range" p) [a] [] pos) (iRng1 ta) := by
  intro pins s σ H R I h
  refine Call_ (ld_blt I hg hm boot_range (PyProof.Rows.callWith_type1 (thn (ha pos pins s σ H _ I h) fun us s1 ⟨vs, H1, I1, r1, q1⟩ => ?_) hs rfl))
  obtain ⟨j, e, q1, q2, q⟩ := q1
  subst e
  cases r1 with
  | cons r rr =>
    cases rr
    obtain ⟨t, rfl⟩ := r
    exact call_range_1 (range_it I1 (by omega) (by omega) q1 q2 (by simpa using q))
/-! ### for -/
/-- W: the invariant by the turn and a measure; N: what the body is to reach -/
inductive tFor_ (g : TG) (tb : TS) (D : Ends) (σ : St) (J : It) (H1 : Hp) : Prop where
  | mk (W : Nat → Nat → St → Hp → Prop) (h1 : (∃ m, W 0 m σ H1)) (h2 : ∀ i m σ H, W i m σ H →
  (J.stop i H ∧ D.nx σ H) ∨ (J.go i H ∧ ∃ N : St → Hp → Prop, (∀ σ' H', N σ' H' → ∃ m', m' < m ∧ W (i + 1) m' σ' H') ∧ ∀ x H', J.yld i H x H' → g x σ H' fun σ2 H2 => tb { D with nx := N, ct := N, bk := D.nx } σ2 H2)) : tFor_ g tb D σ J H1
def tFor (wi : TI) (g : TG) (tb : TS) : TS := fun D σ H => wi σ H fun J H1 => tFor_ g tb D σ J H1
/-- the records at fp as they stand -/
def pinsAt (fp : List Addr) (h : Heap) : List (Addr × Obj) := fp.filterMap fun b => (h.get? b).map fun o => (b, o)
theorem mem_pinsAt {fp : List Addr} {h : Heap} {b : Addr} {o : Obj} (hb : b ∈ fp) (e : h.get? b = some o) : (b, o) ∈ pinsAt fp h := List.mem_filterMap.mpr ⟨b, hb, by rw [e]; rfl⟩
theorem of_pinsAt {fp : List Addr} {h : Heap} {p : Addr × Obj} (hp : p ∈ pinsAt fp h) : p.1 ∈ fp ∧ h.get? p.1 = some p.2 := by
  obtain ⟨b, hb, e⟩ := List.mem_filterMap.mp hp
  cases q : h.get? b with
  | none => rw [q] at e; cases e
  | some o =>
    rw [q] at e
    have e' : (b, o) = p := Option.some.inj e
    subst e'
    exact ⟨hb, q⟩
theorem Inv.pinned {pins : List (Addr × Obj)} {σ : St} {H : Hp} {s : Shared} {fp : List Addr} (I : Inv X pins σ H s) (hf : ∀ b ∈ fp, FpOk X pins H b) (ho : ∀ b ∈ fp, ∃ o, s.heap.get? b = some o ∧ ∀ v, o.data ≠ .cell v) : Inv X (pins ++ pinsAt fp s.heap) σ H s :=
  I.pins_of fun p hp => (List.mem_append.mp hp).elim (fun z => I.pin p (List.mem_append_right _ z)) fun z => by
    obtain ⟨hb, e⟩ := of_pinsAt z
    obtain ⟨f0, f1, f2, _⟩ := hf p.1 hb
    obtain ⟨o, e', d⟩ := ho p.1 hb
    rw [e] at e'; cases e'
    exact ⟨e, f0, f1, f2, d⟩
theorem Inv.unpinned {pins pl : List (Addr × Obj)} {σ : St} {H : Hp} {s : Shared} (I : Inv X (pins ++ pl) σ H s) : Inv X pins σ H s := I.pins_of fun p hp => I.pin p (List.mem_append_right _ (List.mem_append_left _ hp))
theorem ps_for {iter : Expr} {body : List Stmt} {wi : TI} {g : TG} {tb : TS} {pos : Pos} (hp : PassesOwn (model X.prog X.w) X.A X.env X.xe) (hc : X.calm = true) (hi : PI X tg iter wi) (hg : PG X tg g) (hb : PSs X body tb)
    (hs : ∀ x, foldedSetIterable iter X.env x = pure x := by intro _; rfl) : PS X (.For tg iter body [] pos) (tFor wi g tb) := by
  intro pins s σ H D I h
  refine wpAny_For (thn (hi pins s σ H _ I h) fun v s1 h1 => thn h1 fun itv s2 h2 => ?_) hs
  obtain ⟨it, fp, tn, J, H2, e, I2, T, st2, f2, W, ⟨m0, w0⟩, turn⟩ := h2
  subst e
  -- what stays true of the iterator's objects through the loop
  have stat : ∀ {H' : Hp}, (∀ b ∈ fp, H' b = none) → ∀ b ∈ fp, FpOk X pins H' b := fun hn b hb => ⟨hn b hb, (f2 b hb).2⟩
  refine codeAny_forLoop_any (fun n s' => ∃ i σ' H', Inv X pins σ' H' s' ∧ tn i s'.heap ∧ (∀ b ∈ fp, H' b = none) ∧ W i n σ' H') ?_ m0 ⟨0, σ, H2, I2, st2, fun b hb => (f2 b hb).1, w0⟩
  rintro n s3 ⟨i, σ3, H3, I3, st3, fr3, w3⟩
  rcases turn i n σ3 H3 w3 with ⟨stop, qn⟩ | ⟨go, N, hN, step⟩
  · refine wpAny_passesOwn hp (thn (T.done X rfl rfl rfl hc i pins s3 σ3 H3 X.xe I3 (stat fr3) st3 stop) fun r s4 ⟨hr, I4⟩ => ?_)
    subst hr
    exact wpAny_execs_nil ⟨σ3, H3, I4, qn⟩
  · refine wpAny_passesOwn hp (thn (T.item X rfl rfl rfl hc i pins s3 σ3 H3 X.xe I3 (stat fr3) st3 go) fun r s4 ⟨u, hr, h4⟩ => ?_)
    subst hr
    refine wpAny_passesOwn hp (thn h4 fun _ s5 ⟨x, H5, I5, r5, y5, st5, fr5⟩ => ?_)
    have I5' := I5.pinned (stat fr5) (T.obj _ _ st5)
    refine wpAny_passesOwn hp (thn (hg _ s5 σ3 H5 x u _ I5' r5 (step x H5 y5)) fun _ s6 ⟨σ6, H6, I6, q6⟩ => ?_)
    refine wpAny_passesOwn hp (thn (hb _ s6 σ6 H6 _ I6 q6) fun f s7 q7 => ?_)
    have again : ∀ {σ7 : St} {H7 : Hp}, Inv X (pins ++ pinsAt fp s5.heap) σ7 H7 s7 → N σ7 H7 → ∃ m, m < n ∧ ∃ i σ' H', Inv X pins σ' H' s7 ∧ tn i s7.heap ∧ (∀ b ∈ fp, H' b = none) ∧ W i m σ' H' := fun {σ7 H7} I7 n7 => by
      obtain ⟨m', hm, w7⟩ := hN σ7 H7 n7
      refine ⟨m', hm, i + 1, σ7, H7, I7.unpinned, T.keep _ _ _ st5 fun b hb o e => (I7.pin (b, o) (List.mem_append_right _ (List.mem_append_right _ (mem_pinsAt hb e)))).1, fun b hb => ?_, w7⟩
      obtain ⟨o, e, d⟩ := T.obj _ _ st5 b hb
      exact (I7.pin (b, o) (List.mem_append_right _ (List.mem_append_right _ (mem_pinsAt hb e)))).2.1
    cases f with
    | next => obtain ⟨σ7, H7, I7, n7⟩ := q7; exact again I7 n7
    | cont => obtain ⟨σ7, H7, I7, n7⟩ := q7; exact again I7 n7
    | brk => obtain ⟨σ7, H7, I7, q7⟩ := q7; exact ⟨σ7, H7, I7.unpinned, q7⟩
    | ret v => obtain ⟨x7, σ7, H7, I7, r7, q7⟩ := q7; exact ⟨x7, σ7, H7, I7.unpinned, r7, q7⟩
end

/-! ### the forms one uses -/
/-- over a list that the body leaves as it is -/
theorem for_list {K : PySem.W.Frag} {a : Addr} {xs : List V} {g : TG} {tb : TS} {D : Ends} {σ : St} {H : Hp} (Pv : Nat → St → Hp → Prop) (h0 : Pv 0 σ H) (hl : ∀ i σ H, i ≤ xs.length → Pv i σ H → SqL K H a xs)
    (hs : ∀ i x σ H, xs[i]? = some x → Pv i σ H → g x σ H fun σ2 H2 => tb { D with nx := Pv (i + 1), ct := Pv (i + 1), bk := D.nx } σ2 H2) (hd : ∀ σ H, Pv xs.length σ H → D.nx σ H) :
    tFor_ g tb D σ (Itl K a) H := by
  refine ⟨fun i m σ H => m = xs.length - i ∧ i ≤ xs.length ∧ Pv i σ H, ⟨xs.length, by simp, Nat.zero_le _, h0⟩, ?_⟩
  rintro i m σ H ⟨rfl, hi, p⟩
  have q := hl i σ H hi p
  by_cases hlt : i < xs.length
  · refine .inr ⟨⟨xs, xs[i], q, by simp [hlt]⟩, Pv (i + 1), fun σ' H' p' => ⟨xs.length - (i + 1), by omega, rfl, hlt, p'⟩, fun x H' y => ?_⟩
    obtain ⟨e, y⟩ := y
    subst e
    exact hs i x σ _ (y xs q) p
  · have e : i = xs.length := by omega
    subst e
    exact .inl ⟨⟨xs, q, Nat.le_refl _⟩, hd σ H p⟩
theorem for_tup {K : PySem.W.Frag} {a : Addr} {xs : List V} {g : TG} {tb : TS} {D : Ends} {σ : St} {H : Hp} (Pv : Nat → St → Hp → Prop) (h0 : Pv 0 σ H) (hl : ∀ i σ H, i ≤ xs.length → Pv i σ H → SqT K H a xs)
    (hs : ∀ i x σ H, xs[i]? = some x → Pv i σ H → g x σ H fun σ2 H2 => tb { D with nx := Pv (i + 1), ct := Pv (i + 1), bk := D.nx } σ2 H2) (hd : ∀ σ H, Pv xs.length σ H → D.nx σ H) :
    tFor_ g tb D σ (Itt K a) H := by
  refine ⟨fun i m σ H => m = xs.length - i ∧ i ≤ xs.length ∧ Pv i σ H, ⟨xs.length, by simp, Nat.zero_le _, h0⟩, ?_⟩
  rintro i m σ H ⟨rfl, hi, p⟩
  have q := hl i σ H hi p
  by_cases hlt : i < xs.length
  · refine .inr ⟨⟨xs, xs[i], q, by simp [hlt]⟩, Pv (i + 1), fun σ' H' p' => ⟨xs.length - (i + 1), by omega, rfl, hlt, p'⟩, fun x H' y => ?_⟩
    obtain ⟨e, y⟩ := y
    subst e
    exact hs i x σ _ (y xs q) p
  · have e : i = xs.length := by omega
    subst e
    exact .inl ⟨⟨xs, q, Nat.le_refl _⟩, hd σ H p⟩
theorem for_range {lo : Int} {n : Nat} {g : TG} {tb : TS} {D : Ends} {σ : St} {H : Hp} (Pv : Nat → St → Hp → Prop) (h0 : Pv 0 σ H)
    (hs : ∀ i σ H, i < n → Pv i σ H → g (.int (lo + i)) σ H fun σ2 H2 => tb { D with nx := Pv (i + 1), ct := Pv (i + 1), bk := D.nx } σ2 H2) (hd : ∀ σ H, Pv n σ H → D.nx σ H) :
    tFor_ g tb D σ (Itr lo n) H := by
  refine ⟨fun i m σ H => m = n - i ∧ i ≤ n ∧ Pv i σ H, ⟨n, by simp, Nat.zero_le _, h0⟩, ?_⟩
  rintro i m σ H ⟨rfl, hi, p⟩
  by_cases hlt : i < n
  · refine .inr ⟨hlt, Pv (i + 1), fun σ' H' p' => ⟨n - (i + 1), by omega, rfl, hlt, p'⟩, fun x H' y => ?_⟩
    obtain ⟨e, y⟩ := y
    subst e y
    exact hs i σ _ hlt p
  · have e : i = n := by omega
    subst e
    exact .inl ⟨Nat.le_refl _, hd σ H p⟩
end L2

namespace L2
open PySem PySem.Spec PyProof.Rows

abbrev R2 := V → V → Hp → VK → Prop
/-- a two-place operation on values: f is binaryOp op, inplaceOp op or compareOp op -/
def OpR (X : Cx) (f : Value → Value → Sem Value) (r : R2) : Prop :=
  ∀ (pins : List (Addr × Obj)) (s : Shared) (σ : St) (H : Hp) (x y : V) (v u : Value) (Q : VK), Inv X pins σ H s → RelV x v → RelV y u → r x y H Q →
    wpAny (model X.prog X.w) X.A (f v u) (EP X pins σ Q) X.xe s
/-- a one-place operation -/
def UnR (X : Cx) (f : Value → Sem Value) (r : V → Hp → VK → Prop) : Prop :=
  ∀ (pins : List (Addr × Obj)) (s : Shared) (σ : St) (H : Hp) (x : V) (v : Value) (Q : VK), Inv X pins σ H s → RelV x v → r x H Q →
    wpAny (model X.prog X.w) X.A (f v) (EP X pins σ Q) X.xe s
/-- a call of a value that is known (a builtin, a type) with values -/
def CallR (X : Cx) (f : Value) (r : List V → Hp → VK → Prop) : Prop :=
  ∀ (pins : List (Addr × Obj)) (s : Shared) (σ : St) (H : Hp) (xs : List V) (us : List Value) (Q : VK), Inv X pins σ H s → Vals xs us → r xs H Q →
    wpAny (model X.prog X.w) X.A (call f us) (EP X pins σ Q) X.xe s
def tOp (r : R2) (ta tb : TE) : TE := fun σ H Q => ta σ H fun x H1 => tb σ H1 fun y H2 => r x y H2 Q
def tUn (r : V → Hp → VK → Prop) (ta : TE) : TE := fun σ H Q => ta σ H fun x H1 => r x H1 Q
/-- ints in, under C, and a value out -/
inductive rI (C : Int → Int → Prop) (g : Int → Int → V) (x : V) (y : V) (H : Hp) (Q : VK) : Prop where
  | mk (i : _) (j : _) (h1 : x = .int i) (h2 : y = .int j) (h3 : C i j) (h4 : Q (g i j) H) : rI C g x y H Q
inductive rI0 (g : Int → Int → V) (x : V) (y : V) (H : Hp) (Q : VK) : Prop where
  | mk (i : _) (j : _) (h1 : x = .int i) (h2 : y = .int j) (h3 : Q (g i j) H) : rI0 g x y H Q
inductive rU (g : Int → V) (x : V) (H : Hp) (Q : VK) : Prop where
  | mk (i : _) (h1 : x = .int i) (h2 : Q (g i) H) : rU g x H Q

section
variable {X : Cx} {a b c : Expr} {ta tb tc : TE} {pos : Pos}

theorem binT (ha : PE X a ta) (hb : PE X b tb) {pins : List (Addr × Obj)} {s : Shared} {σ : St} {H : Hp} {R : V → V → Hp → Prop} (I : Inv X pins σ H s)
    (h : ta σ H fun x H1 => tb σ H1 fun y H2 => R x y H2) {Q : Value → Shared → Prop} {f : Value → Value → Sem Value}
    (hf : ∀ v u s2 x y H2, Inv X pins σ H2 s2 → RelV x v → RelV y u → R x y H2 → wpAny (model X.prog X.w) X.A (f v u) Q X.xe s2) :
    wpAny (model X.prog X.w) X.A (eval a X.env) (fun v s₁ => wpAny (model X.prog X.w) X.A (eval b X.env) (fun u s₂ => wpAny (model X.prog X.w) X.A (f v u) Q X.xe s₂) X.xe s₁) X.xe s := by
  refine thn (ha pins s σ H _ I h) fun v s1 ⟨x, H1, I1, r1, q1⟩ => ?_
  refine thn (hb pins s1 σ H1 _ I1 q1) fun u s2 ⟨y, H2, I2, r2, q2⟩ => ?_
  exact hf v u s2 x y H2 I2 r1 r2 q2

theorem pe_op {op : Operator} {r : R2} (ho : OpR X (binaryOp op) r) (ha : PE X a ta) (hb : PE X b tb) : PE X (.BinOp a op b pos) (tOp r ta tb) := by
  intro pins s σ H Q I h
  exact wpAny_BinOp (binT ha hb I h fun v u s2 x y H2 I2 rx ry q => ho pins s2 σ H2 x y v u Q I2 rx ry q)
theorem pe_un {op : UnaryOp} {r : V → Hp → VK → Prop} (ho : UnR X (unaryOp op) r) (ha : PE X a ta) : PE X (.UnaryOp op a pos) (tUn r ta) := by
  intro pins s σ H Q I h
  exact UnaryOp_ (thn (ha pins s σ H _ I h) fun v s1 ⟨x, H1, I1, r1, q1⟩ => ho pins s1 σ H1 x v Q I1 r1 q1)
/-! ### ints -/
theorem opI {f : Value → Value → Sem Value} {C : Int → Int → Prop} {g : Int → Int → Int}
    (rule : ∀ (i j : Int) (t u : Tok) (s : Shared) (Q : Value → Shared → Prop) (E : Value → Shared → Prop), C i j → Q (.int (g i j) s.toks) { s with toks := s.toks + 1 } → wpAny (model X.prog X.w) X.A (f (.int i t) (.int j u)) Q E s) :
    OpR X f (rI C fun i j => .int (g i j)) := by
  intro pins s σ H x y v u Q I rx ry h
  obtain ⟨i, j, rfl, rfl, hc, q⟩ := h
  obtain ⟨t, rfl⟩ := rx
  obtain ⟨t', rfl⟩ := ry
  exact rule i j t t' s _ _ hc ⟨.int (g i j), H, I.tok _, ⟨_, rfl⟩, q⟩
theorem opI0 {f : Value → Value → Sem Value} {g : Int → Int → Int}
    (rule : ∀ (i j : Int) (t u : Tok) (s : Shared) (Q : Value → Shared → Prop) (E : Value → Shared → Prop), Q (.int (g i j) s.toks) { s with toks := s.toks + 1 } → wpAny (model X.prog X.w) X.A (f (.int i t) (.int j u)) Q E s) :
    OpR X f (rI0 fun i j => .int (g i j)) := by
  intro pins s σ H x y v u Q I rx ry h
  obtain ⟨i, j, rfl, rfl, q⟩ := h
  obtain ⟨t, rfl⟩ := rx
  obtain ⟨t', rfl⟩ := ry
  exact rule i j t t' s _ _ ⟨.int (g i j), H, I.tok _, ⟨_, rfl⟩, q⟩
theorem opB0 {f : Value → Value → Sem Value} {g : Int → Int → Bool}
    (rule : ∀ (i j : Int) (t u : Tok) (s : Shared) (Q : Value → Shared → Prop) (E : Value → Shared → Prop), Q (.bool (g i j)) s → wpAny (model X.prog X.w) X.A (f (.int i t) (.int j u)) Q E s) :
    OpR X f (rI0 fun i j => .bl (g i j)) := by
  intro pins s σ H x y v u Q I rx ry h
  obtain ⟨i, j, rfl, rfl, q⟩ := h
  obtain ⟨t, rfl⟩ := rx
  obtain ⟨t', rfl⟩ := ry
  exact rule i j t t' s _ _ ⟨.bl (g i j), H, I, rfl, q⟩

def CMul (i j : Int) : Prop := (-(2 ^ 64) < i ∧ i < 2 ^ 64) ∨ (-(2 ^ 64) < j ∧ j < 2 ^ 64)
theorem CMul.ok {i j : Int} (h : CMul i j) : IntMulOk i j := by
  rcases h with ⟨h1, h2⟩ | ⟨h1, h2⟩
  · exact .of_left (intBits_le_64 h1 h2)
  · exact .of_right (intBits_le_64 h1 h2)
theorem op_add : OpR X (binaryOp .Add) (rI0 fun i j => .int (i + j)) := opI0 fun _ _ _ _ _ _ _ q => add_int q
theorem op_sub : OpR X (binaryOp .Sub) (rI0 fun i j => .int (i - j)) := opI0 fun _ _ _ _ _ _ _ q => sub_int q
theorem op_mul : OpR X (binaryOp .Mult) (rI CMul fun i j => .int (i * j)) := opI fun _ _ _ _ _ _ _ hc q => mul_int q hc.ok
/-- % by a positive divisor of any size -/
theorem op_mod : OpR X (binaryOp .Mod) (rI (fun _ j => 0 < j) fun i j => .int (i % j)) := opI fun i j _ _ _ _ _ hc q => by
  have h1 : (0 : Int) < j := hc
  exact mod_int' (by omega) (by rw [Int.fmod_eq_emod_of_nonneg i (by omega)]; exact q)
theorem unI {f : Value → Sem Value} {g : Int → Int}
    (rule : ∀ (i : Int) (t : Tok) (s : Shared) (Q : Value → Shared → Prop) (E : Value → Shared → Prop), Q (.int (g i) s.toks) { s with toks := s.toks + 1 } → wpAny (model X.prog X.w) X.A (f (.int i t)) Q E s) :
    UnR X f (rU fun i => .int (g i)) := by
  intro pins s σ H x v Q I rx h
  obtain ⟨i, rfl, q⟩ := h
  obtain ⟨t, rfl⟩ := rx
  exact rule i t s _ _ ⟨.int (g i), H, I.tok _, ⟨_, rfl⟩, q⟩
theorem un_neg : UnR X (unaryOp .USub) (rU fun i => .int (-i)) := unI fun _ _ _ _ _ q => neg_int q
/-! ### bools among ints: n += (a < b) -/
end

/-! ### comparisons -/
/-- the scalars that == tells apart as data does -/
def scal : V → V → Bool
  | .non, .non => true | .non, .int _ => true | .int _, .non => true | .non, .bl _ => true | .bl _, .non => true | .non, .str _ => true | .str _, .non => true
  | .int _, .int _ => true | .bl _, .bl _ => true | .str _, .str _ => true | .byt _, .byt _ => true
  | .int _, .str _ => true | .str _, .int _ => true | .bl _, .str _ => true | .str _, .bl _ => true
  | _, _ => false
inductive rEq (x : V) (y : V) (H : Hp) (Q : VK) : Prop where
  | mk (h1 : scal x y = true) (h2 : Q (.bl (decide (x = y))) H) : rEq x y H Q
inductive rNe (x : V) (y : V) (H : Hp) (Q : VK) : Prop where
  | mk (h1 : scal x y = true) (h2 : Q (.bl (!decide (x = y))) H) : rNe x y H Q

theorem dec_int {i j : Int} : decide (V.int i = V.int j) = (i == j) := by
  rw [Bool.eq_iff_iff]
  simp
theorem dec_bl {i j : Bool} : decide (V.bl i = V.bl j) = (i == j) := by
  rw [Bool.eq_iff_iff]
  simp
theorem dec_str {i j : Str} : decide (V.str i = V.str j) = (i == j) := by
  rw [Bool.eq_iff_iff]
  simp
theorem dec_byt {i j : Array UInt8} : decide (V.byt i = V.byt j) = (i.toList == j.toList) := by
  rw [Bool.eq_iff_iff]
  cases i
  cases j
  simp

section
variable {X : Cx} {a b c : Expr} {ta tb tc : TE} {pos : Pos}
theorem fin_bl {pins : List (Addr × Obj)} {σ : St} {H : Hp} {s : Shared} {Q : VK} {k k' : Bool} (I : Inv X pins σ H s) (q : Q (.bl k) H) (e : k = k') : EP X pins σ Q (.bool k') s := by
  subst e
  exact ⟨.bl k, H, I, rfl, q⟩
theorem op_eq : OpR X (compareOp .Eq) rEq := by
  intro pins s σ H x y v u Q I rx ry h
  obtain ⟨hs, q⟩ := h
  cases x with
  | non =>
    cases rx
    cases y with
    | non => cases ry; exact PySem.EqNone.eq_none_none (fin_bl I q (by simp))
    | bl j => cases ry; exact PySem.EqNone.eq_none_bool (fin_bl I q (by simp))
    | int j => obtain ⟨t', rfl⟩ := ry; exact PySem.EqNone.eq_none_int (fin_bl I q (by simp))
    | str j => obtain ⟨t', rfl⟩ := ry; exact PySem.EqNone.eq_none_str (fin_bl I q (by simp))
    | _ => exact absurd (show false = true from hs) Bool.false_ne_true
  | bl i =>
    cases rx
    cases y with
    | non => cases ry; exact PySem.EqNone.eq_bool_none (fin_bl I q (by simp))
    | bl j => cases ry; exact eq_bool (fin_bl I q dec_bl)
    | str j => obtain ⟨t', rfl⟩ := ry; exact PySem.EqMixed.eq_bool_str (fin_bl I q (by simp))
    | _ => exact absurd (show false = true from hs) Bool.false_ne_true
  | int i =>
    obtain ⟨t, rfl⟩ := rx
    cases y with
    | non => cases ry; exact PySem.EqNone.eq_int_none (fin_bl I q (by simp))
    | int j => obtain ⟨t', rfl⟩ := ry; exact eq_int (fin_bl I q dec_int)
    | str j => obtain ⟨t', rfl⟩ := ry; exact PySem.EqMixed.eq_int_str (fin_bl I q (by simp))
    | _ => exact absurd (show false = true from hs) Bool.false_ne_true
  | str i =>
    obtain ⟨t, rfl⟩ := rx
    cases y with
    | non => cases ry; exact PySem.EqNone.eq_str_none (fin_bl I q (by simp))
    | bl j => cases ry; exact PySem.EqMixed.eq_str_bool (fin_bl I q (by simp))
    | int j => obtain ⟨t', rfl⟩ := ry; exact PySem.EqMixed.eq_str_int (fin_bl I q (by simp))
    | str j => obtain ⟨t', rfl⟩ := ry; exact eq_str (fin_bl I q dec_str)
    | _ => exact absurd (show false = true from hs) Bool.false_ne_true
  | byt i =>
    obtain ⟨t, rfl⟩ := rx
    cases y with
    | byt j => obtain ⟨t', rfl⟩ := ry; exact PySem.W.eq_bytes (fin_bl I q dec_byt)
    | _ => exact absurd (show false = true from hs) Bool.false_ne_true
  | _ => cases y <;> exact absurd (show false = true from hs) Bool.false_ne_true
theorem op_ne : OpR X (compareOp .NotEq) rNe := by
  intro pins s σ H x y v u Q I rx ry h
  obtain ⟨hs, q⟩ := h
  cases x with
  | non =>
    cases rx
    cases y with
    | non => cases ry; exact PySem.EqNone.ne_none_none (fin_bl I q (by simp))
    | bl j => cases ry; exact PySem.EqNone.ne_none_bool (fin_bl I q (by simp))
    | int j => obtain ⟨t', rfl⟩ := ry; exact PySem.EqNone.ne_none_int (fin_bl I q (by simp))
    | str j => obtain ⟨t', rfl⟩ := ry; exact PySem.EqNone.ne_none_str (fin_bl I q (by simp))
    | _ => exact absurd (show false = true from hs) Bool.false_ne_true
  | bl i =>
    cases rx
    cases y with
    | non => cases ry; exact PySem.EqNone.ne_bool_none (fin_bl I q (by simp))
    | bl j => cases ry; exact ne_bool (fin_bl I q (congrArg not dec_bl))
    | str j => obtain ⟨t', rfl⟩ := ry; exact PySem.EqMixed.ne_bool_str (fin_bl I q (by simp))
    | _ => exact absurd (show false = true from hs) Bool.false_ne_true
  | int i =>
    obtain ⟨t, rfl⟩ := rx
    cases y with
    | non => cases ry; exact PySem.EqNone.ne_int_none (fin_bl I q (by simp))
    | int j => obtain ⟨t', rfl⟩ := ry; exact ne_int (fin_bl I q (congrArg not dec_int))
    | str j => obtain ⟨t', rfl⟩ := ry; exact PySem.EqMixed.ne_int_str (fin_bl I q (by simp))
    | _ => exact absurd (show false = true from hs) Bool.false_ne_true
  | str i =>
    obtain ⟨t, rfl⟩ := rx
    cases y with
    | non => cases ry; exact PySem.EqNone.ne_str_none (fin_bl I q (by simp))
    | bl j => cases ry; exact PySem.EqMixed.ne_str_bool (fin_bl I q (by simp))
    | int j => obtain ⟨t', rfl⟩ := ry; exact PySem.EqMixed.ne_str_int (fin_bl I q (by simp))
    | str j => obtain ⟨t', rfl⟩ := ry; exact ne_str (fin_bl I q (congrArg not dec_str))
    | _ => exact absurd (show false = true from hs) Bool.false_ne_true
  | byt i =>
    obtain ⟨t, rfl⟩ := rx
    cases y with
    | byt j => obtain ⟨t', rfl⟩ := ry; exact PySem.W.ne_bytes (fin_bl I q (congrArg not dec_byt))
    | _ => exact absurd (show false = true from hs) Bool.false_ne_true
  | _ => cases y <;> exact absurd (show false = true from hs) Bool.false_ne_true

theorem op_lt : OpR X (compareOp .Lt) (rI0 fun i j => .bl (decide (i < j))) := opB0 fun _ _ _ _ _ _ _ q => lt_int q
theorem op_le : OpR X (compareOp .LtE) (rI0 fun i j => .bl (decide (i ≤ j))) := opB0 fun _ _ _ _ _ _ _ q => le_int q
theorem op_gt : OpR X (compareOp .Gt) (rI0 fun i j => .bl (decide (j < i))) := opB0 fun _ _ _ _ _ _ _ q => gt_int q
theorem op_ge : OpR X (compareOp .GtE) (rI0 fun i j => .bl (decide (j ≤ i))) := opB0 fun _ _ _ _ _ _ _ q => ge_int q
/-- is None, is not None: the right side a value none -/
theorem op_isN : OpR X (compareOp .Is) (fun x y H Q => y = .non ∧ Q (.bl (decide (x = .non))) H) := by
  intro pins s σ H x y v u Q I rx ry h
  obtain ⟨rfl, q⟩ := h
  cases ry
  refine is_none_gen (fin_bl I q ?_)
  cases x <;> first
    | (cases rx; rfl)
    | (obtain ⟨t, rfl⟩ := rx; rfl)
theorem op_notN : OpR X (compareOp .IsNot) (fun x y H Q => y = .non ∧ Q (.bl (!decide (x = .non))) H) := by
  intro pins s σ H x y v u Q I rx ry h
  obtain ⟨rfl, q⟩ := h
  cases ry
  refine isnot_none_gen (fin_bl I q ?_)
  cases x <;> first
    | (cases rx; rfl)
    | (obtain ⟨t, rfl⟩ := rx; rfl)

theorem nomark (b : Expr) {op : CmpOp} (h : op ≠ .In := by decide) (h2 : op ≠ .NotIn := by decide) : behindInMarks op b = false := by
  have e1 : (op == CmpOp.In) = false := by cases op <;> first | rfl | exact absurd rfl h
  have e2 : (op == CmpOp.NotIn) = false := by cases op <;> first | rfl | exact absurd rfl h2
  cases b <;> simp [behindInMarks, e1, e2]
/-- a comparison as a value; hm: nomark b, or (for in, not in) by with_unfolding_all rfl -/
theorem pe_cmpR {op : CmpOp} {r : R2} (ho : OpR X (compareOp op) r) (ha : PE X a ta) (hb : PE X b tb) (hm : behindInMarks op b = false) : PE X (.Compare a [op] [b] pos) (tOp r ta tb) := by
  intro pins s σ H Q I h
  exact wpAny_Compare1 (binT ha hb I h fun v u s2 x y H2 I2 rx ry q => ho pins s2 σ H2 x y v u Q I2 rx ry q) hm
/-- a reading of a value as a test -/
inductive tTest_ (Q : Bool → Hp → Prop) (x : V) (H' : Hp) : Prop where
  | mk (k : _) (h1 : x = .bl k) (h2 : Q k H') : tTest_ Q x H'
def tTest (t : TE) : TT := fun σ H Q => t σ H fun x H' => tTest_ Q x H'
theorem pt_cmpR {op : CmpOp} {r : R2} (ho : OpR X (compareOp op) r) (ha : PE X a ta) (hb : PE X b tb) (hm : behindInMarks op b = false) : PT X (.Compare a [op] [b] pos) (tTest (tOp r ta tb)) := by
  intro pins s σ H Q I h
  refine wpAny_isTrue_Compare1 (thn (ha pins s σ H _ I h) fun v s1 ⟨x, H1, I1, r1, q1⟩ => thn (hb pins s1 σ H1 _ I1 q1) fun u s2 ⟨y, H2, I2, r2, q2⟩ =>
    thn (ho pins s2 σ H2 x y v u _ I2 r1 r2 q2) fun c s3 ⟨z, H3, I3, r3, k, e, q3⟩ => ?_) hm
  subst e
  cases r3
  exact wpAny_truthy_bool ⟨H3, I3, q3⟩
/-- a op1 b op2 c -/
def tChain (r r' : R2) (ta tb tc : TE) : TE := fun σ H Q => ta σ H fun x H1 => tb σ H1 fun y H2 => r x y H2 fun z H3 => ∃ k, z = .bl k ∧
  (if k = true then tc σ H3 fun w' H4 => r' y w' H4 Q else Q (.bl false) H3)
theorem pe_chain {op op' : CmpOp} {r r' : R2} (ho : OpR X (compareOp op) r) (ho' : OpR X (compareOp op') r') (ha : PE X a ta) (hb : PE X b tb) (hc : PE X c tc)
    (hm : lastMarks [op, op'] [b, c] = false := by with_unfolding_all rfl) : PE X (.Compare a [op, op'] [b, c] pos) (tChain r r' ta tb tc) := by
  intro pins s σ H Q I h
  refine Compare_chain (thn (ha pins s σ H _ I h) fun v s1 ⟨x, H1, I1, r1, q1⟩ => chain_link (thn (hb pins s1 σ H1 _ I1 q1) fun u s2 ⟨y, H2, I2, r2, q2⟩ =>
    thn (ho pins s2 σ H2 x y v u _ I2 r1 r2 q2) fun d s3 ⟨z, H3, I3, r3, k, e, q3⟩ => ?_)) hm
  subst e
  cases r3
  refine wpAny_truthy_bool ?_
  cases k with
  | false => exact ite_ff ⟨.bl false, H3, I3, rfl, q3⟩
  | true => exact ite_tt (chain_last (thn (hc pins s3 σ H3 _ I3 q3) fun w' s4 ⟨z', H4, I4, r4, q4⟩ => ho' pins s4 σ H4 y z' u w' Q I4 r2 r4 q4))
theorem pt_chain {op op' : CmpOp} {r r' : R2} (ho : OpR X (compareOp op) r) (ho' : OpR X (compareOp op') r') (ha : PE X a ta) (hb : PE X b tb) (hc : PE X c tc)
    (hm : lastMarks [op, op'] [b, c] = false := by with_unfolding_all rfl) : PT X (.Compare a [op, op'] [b, c] pos) (tTest (tChain r r' ta tb tc)) := by
  intro pins s σ H Q I h
  refine isTrue_chain (thn (ha pins s σ H _ I h) fun v s1 ⟨x, H1, I1, r1, q1⟩ => test_link (thn (hb pins s1 σ H1 _ I1 q1) fun u s2 ⟨y, H2, I2, r2, q2⟩ =>
    thn (ho pins s2 σ H2 x y v u _ I2 r1 r2 q2) fun d s3 ⟨z, H3, I3, r3, k, e, q3⟩ => ?_)) hm
  subst e
  cases r3
  refine wpAny_truthy_bool ?_
  cases k with
  | false =>
    obtain ⟨k', e', q'⟩ := q3
    cases e'
    exact ite_ff ⟨H3, I3, q'⟩
  | true =>
    refine ite_tt (test_last (thn (hc pins s3 σ H3 _ I3 q3) fun w' s4 ⟨z', H4, I4, r4, q4⟩ => thn (ho' pins s4 σ H4 y z' u w' _ I4 r2 r4 q4) fun d' s5 ⟨z2, H5, I5, r5, k2, e2, q5⟩ => ?_))
    subst e2
    cases r5
    exact wpAny_truthy_bool ⟨H5, I5, q5⟩

/-! ### truth -/
theorem line63 : (sizeLine : Nat) < 2 ^ 63 := by rw [sizeLine_eq]; decide
/-! ### strs and bytes -/
theorem op_add_str : OpR X (binaryOp .Add) (fun x y H Q => ∃ i j, x = .str i ∧ y = .str j ∧ i.length + j.length ≤ sizeLine ∧ Q (.str (i ++ j)) H) := by
  intro pins s σ H x y v u Q I rx ry h
  obtain ⟨i, j, rfl, rfl, hz, q⟩ := h
  obtain ⟨t, rfl⟩ := rx
  obtain ⟨t', rfl⟩ := ry
  exact add_str (fun t' tk => ⟨.str (i ++ j), H, I.tok _, ⟨_, rfl⟩, q⟩) hz
/-! ### scalar builtins, by CallR -/
theorem vals1 {x : V} {us : List Value} (r : Vals [x] us) : ∃ u, us = [u] ∧ RelV x u := by
  cases r with
  | cons r1 r2 => cases r2; exact ⟨_, rfl, r1⟩
theorem vals2 {x y : V} {us : List Value} (r : Vals [x, y] us) : ∃ u w', us = [u, w'] ∧ RelV x u ∧ RelV y w' := by
  cases r with
  | cons r1 r2 =>
    cases r2 with
    | cons r3 r4 => cases r4; exact ⟨_, _, rfl, r1, r3⟩
end
end L2

namespace L2
open PySem PySem.Spec PyProof.Rows

/-! ### an instance, its attributes a map -/
structure ObjM (h : Heap) (x dx C : Addr) (mA : Str → Option Value) : Prop where
  obj : h.get? x = some (PySem.W.instObj C dx)
  ns : h.Ns1 dx mA
  ne : dx ≠ x

theorem lookIn_ns {h : Heap} {dx : Addr} {mA : Str → Option Value} (n : h.Ns1 dx mA) : ∃ od, h.get? dx = some od ∧ ∀ name, PySem.W.lookIn name od = some (mA name) := by
  obtain ⟨o, es, ep, ho, hd, hk, _, hm⟩ := n
  refine ⟨o, ho, fun name => ?_⟩
  have e := hm name
  unfold nsFind findBy at e
  rw [← Array.find?_toList] at e
  unfold PySem.W.lookIn
  rw [hd]
  dsimp only
  split
  · rename_i y q
    rw [q] at e
    exact congrArg some e
  · rename_i q
    rw [q] at e
    have a : es.toList.any (·.refKey) = false := by
      rw [List.any_eq_false]
      intro y hy
      obtain ⟨z, t, hkey⟩ := hk y (Array.mem_toList_iff.mp hy)
      simp [DictEntry.refKey, hkey]
    have a' : ¬ es.toList.any (·.refKey) = true := by rw [a]; exact Bool.false_ne_true
    rw [if_neg a']
    exact congrArg some e

theorem ObjM.look {h : Heap} {x dx C : Addr} {mA : Str → Option Value} (I : ObjM h x dx C mA) : ∃ od, PySem.W.InstAt h x (PySem.W.instObj C dx) C (some od) ∧ ∀ name, PySem.W.lookIn name od = some (mA name) :=
  let ⟨od, ho, hl⟩ := lookIn_ns I.ns
  ⟨od, ⟨I.obj, rfl, rfl, ho⟩, hl⟩

section
variable {prog : Program} {w : World} {A : Around} {E : Value → Shared → Prop} {s : Shared} {K : PySem.W.Frag} {x dx C f : Addr} {mA : Str → Option Value} {name : Str} {v : Value}

theorem get_map {expr : Bool} {Q : Value → Shared → Prop} (X : K.In s.heap) (I : ObjM s.heap x dx C mA) (hg : PySem.W.plainGet K C name = true) (hh : PySem.W.hasDictIn K C = true)
    (ha : PySem.W.findIn K (.ref C) name = some none) (hv : mA name = some v) (hv' : PySem.W.handedIn v = true) (h : Q v { s with toks := s.toks + 1 }) :
    wpAny (model prog w) A (getAttr (.ref x) name expr) Q E s := by
  obtain ⟨od, J, hl⟩ := I.look
  exact PySem.W.get_value X J (PySem.W.plainGet_of hg).1 (PySem.W.findObj_own hh ha rfl (by rw [hl, hv])) hv' h

theorem get_meth {pl : Sem Bool} {Q : Value × List Value → Shared → Prop} (X : K.In s.heap) (I : ObjM s.heap x dx C mA) (hg : PySem.W.plainGet K C name = true)
    (hf : PySem.W.findIn K (.ref C) name = some (some (.ref f))) (ht : PySem.W.isFn K (.ref f) = true) (hv : mA name = none) (h : Q (.ref f, [.ref x]) s) :
    wpAny (model prog w) A (getMethod (.ref x) name pl) Q E s := by
  obtain ⟨od, J, hl⟩ := I.look
  exact PySem.W.method_fn X J (PySem.W.plainGet_of hg).1 (PySem.W.plainGet_of hg).2 hf (beq_iff_eq.mp ht) (by show (PySem.W.lookIn name od).map (·.isSome) = some false; rw [hl, hv]; rfl) h

theorem set_map {ns : List Str} {Q : Unit → Shared → Prop} (X : K.In s.heap) (I : ObjM s.heap x dx C mA)
    (hs : PySem.W.findIn K (.ref C) "__setattr__" = some (some (.builtin "object.__setattr__"))) (hp : PySem.W.plainOver K C = true) (ht : PySem.W.takerIn K C name = some none) (hh : PySem.W.hasDictIn K C = true)
    (hw : PySem.Within mA ns) (hsz : ns.length ≤ sizeLine)
    (h : ∀ h', ObjM h' x dx C (fun y => if y = name then some v else mA y) → Heap.SameBut dx s.heap h' → Q () { s with heap := h', toks := s.toks + 2 }) :
    wpAny (model prog w) A (setAttr (.ref x) name v) Q E s := by
  obtain ⟨od, J, hl⟩ := I.look
  refine PySem.W.set_plain X J hs (PySem.W.osa_open (s := { s with toks := s.toks + 1 }) (r := none) X J hp ht fun b => ?_)
  obtain ⟨cd, hc, hd'⟩ := PySem.W.any_some hh
  have hx : s.heap.get? x = some ⟨.ref C, some dx, .plain, #[]⟩ := I.obj
  refine wpAny_bind (wpAny_pure (wpAny_bind (wpAny_bind (wpAny_loadPart hx (wpAny_bind (PySem.W.Looks.here (s := { s with toks := s.toks + 1 }) (PySem.W.looks_clsIn X hc) ?_))))))
  rw [hd']
  refine wpAny_pure (a := some dx) (wpAny_bind (wpAny_pure (wpAny_bind ?_)))
  refine wpAny_nsSet1 (s := { s with toks := s.toks + 1 }) I.ns fun h' hn2 hs2 => ?_
  obtain ⟨oD, esD, epD, hoD, hdD, hcD⟩ := hn2.count (PySem.Within.cons name v hw)
  refine wpAny_bind (wpAny_lookBehind hoD (by rw [hdD]; exact pastItsLine_dict (Nat.le_trans hcD (by rw [List.length_cons]; omega))) ?_)
  exact wpAny_pure (h _ ⟨(hs2.2 _ (Ne.symm I.ne)).trans I.obj, hn2, I.ne⟩ hs2)

/-- C(..): the dict at the heap's end, the instance behind it; then its __init__ -/
theorem make_map {R : Result → Shared → Prop} {vs : List Value} {kw : List (Str × Value)} (X : K.In s.heap) (hm : PySem.W.makesIn K C = true)
    (hi : PySem.W.findIn K (.ref C) "__init__" = some (some (.ref f))) (hf : PySem.W.typeIn K (.ref f) = some (.type "function"))
    (h : codeAny (model prog w) (A.under (.builtin "type.__call__" ⟨.ref C :: vs, kw⟩)) (.call (.ref f) ⟨.ref (s.heap.objs.size + 1) :: vs, kw⟩) (PySem.W.InitBack (s.heap.objs.size + 1) R)
      { s with heap := (s.heap.push PySem.W.emptyDict).push (PySem.W.instObj C s.heap.objs.size) }) :
    codeAny (model prog w) A (.call (.ref C) ⟨vs, kw⟩) R s := by
  obtain ⟨hh, g, d, t, os⟩ := s
  exact PySem.W.make_core (PySem.W.makes_of X hm) (PySem.W.looks_findIn X hi) (fun self => PySem.W.bind_fn X self hf) (.inl rfl) h
end

/-! ### the attributes as a list of pairs -/
def putF (f : Str) (v : V) : List (Str × V) → List (Str × V)
  | [] => [(f, v)]
  | (g, x) :: r => if g = f then (g, v) :: r else (g, x) :: putF f v r
theorem lookup_putF (f g : Str) (v : V) : ∀ fs : List (Str × V), (putF f v fs).lookup g = if g = f then some v else fs.lookup g
  | [] => by
    show List.lookup g [(f, v)] = _
    by_cases h : g = f
    · have hb : (g == f) = true := beq_iff_eq.mpr h
      simp only [List.lookup, hb, if_pos h]
    · have hb : (g == f) = false := beq_eq_false_iff_ne.mpr h
      simp only [List.lookup, hb, if_neg h]
  | (k, x) :: r => by
    have ih := lookup_putF f g v r
    rw [show putF f v ((k, x) :: r) = (if k = f then (k, v) :: r else (k, x) :: putF f v r) from rfl]
    by_cases hk : k = f
    · rw [if_pos hk]
      by_cases h : g = k
      · have hb : (g == k) = true := beq_iff_eq.mpr h
        simp only [List.lookup, hb, if_pos (h.trans hk)]
      · have hb : (g == k) = false := beq_eq_false_iff_ne.mpr h
        simp only [List.lookup, hb, if_neg (fun e : g = f => h (e.trans hk.symm))]
    · rw [if_neg hk]
      by_cases h : g = k
      · have hb : (g == k) = true := beq_iff_eq.mpr h
        simp only [List.lookup, hb, if_neg (fun e : g = f => hk (h.symm.trans e))]
      · have hb : (g == k) = false := beq_eq_false_iff_ne.mpr h
        simp only [List.lookup, hb]
        exact ih
theorem keys_putF (f : Str) (v : V) : ∀ fs : List (Str × V), f ∈ (putF f v fs).map (·.1) ∧ ∀ g, g ∈ fs.map (·.1) → g ∈ (putF f v fs).map (·.1)
  | [] => ⟨by simp [putF], fun g h => by simp at h⟩
  | (k, x) :: r => by
    obtain ⟨i1, i2⟩ := keys_putF f v r
    rw [show putF f v ((k, x) :: r) = (if k = f then (k, v) :: r else (k, x) :: putF f v r) from rfl]
    by_cases hk : k = f
    · rw [if_pos hk]
      subst hk
      exact ⟨by simp, fun g h => by simpa using h⟩
    · rw [if_neg hk]
      refine ⟨?_, fun g h => ?_⟩
      · rw [List.map_cons]
        exact List.mem_cons_of_mem _ i1
      · rw [List.map_cons] at h ⊢
        rcases List.mem_cons.mp h with e | e
        · exact List.mem_cons.mpr (.inl e)
        · exact List.mem_cons_of_mem _ (i2 g e)
theorem length_putF (f : Str) (v : V) : ∀ fs : List (Str × V), (putF f v fs).length ≤ fs.length + 1
  | [] => by simp [putF]
  | (k, x) :: r => by
    have ih := length_putF f v r
    rw [show putF f v ((k, x) :: r) = (if k = f then (k, v) :: r else (k, x) :: putF f v r) from rfl]
    by_cases hk : k = f
    · rw [if_pos hk, List.length_cons, List.length_cons]; omega
    · rw [if_neg hk, List.length_cons, List.length_cons]; omega

theorem RelO.some_of {v : V} {o : Option Value} (r : RelO (some v) o) : ∃ u, o = some u ∧ RelV v u := by
  cases o with
  | none => exact (show False from r).elim
  | some u => exact ⟨u, rfl, r⟩
theorem RelO.none_of {o : Option Value} (r : RelO none o) : o = none := by
  cases o with
  | none => rfl
  | some u => exact (show False from r).elim
theorem handed_of {v : V} {u : Value} (r : RelV v u) : PySem.W.handedIn u = true := by
  cases v with
  | non => cases (show u = Value.none from r); rfl
  | bl b => cases (show u = Value.bool b from r); rfl
  | int i => obtain ⟨t, e⟩ := (show ∃ t, u = Value.int i t from r); cases e; rfl
  | str x => obtain ⟨t, e⟩ := (show ∃ t, u = Value.str x t from r); cases e; rfl
  | byt b => obtain ⟨t, e⟩ := (show ∃ t, u = Value.bytes b t from r); cases e; rfl
  | flt b => obtain ⟨t, e⟩ := (show ∃ t, u = Value.float b t from r); cases e; rfl
  | ref a => cases (show u = Value.ref a from r); rfl
  | ty n => cases (show u = Value.type n from r); rfl

section
variable {P : Program} {w : World} {H H' : Hp} {h h' : Heap} {a C dx : Addr} {fs fs' : List (Str × V)}
theorem ins_get (hok : HOk P w H h) (e : H a = some (.ins C dx fs)) : ∃ mA, ObjM h a dx C mA ∧ (∀ f, RelO (fs.lookup f) (mA f)) ∧ PySem.Within mA (fs.map (·.1)) ∧ fs.length ≤ 1000 ∧ H dx = some (.own a) := by
  obtain ⟨d, z, ne, ob, mA, n, r, q⟩ := (show ObjOk P w H h a (.ins C dx fs) from hok a _ e)
  exact ⟨mA, ⟨ob, n, ne⟩, r, q, z, d⟩
end

/-! ### what of the text a class must have -/
structure Cls (K : PySem.W.Frag) (C : Addr) : Prop where
  pg : PySem.W.plainGet K C Str.empty = true
  hd : PySem.W.hasDictIn K C = true
  po : PySem.W.plainOver K C = true
  sa : PySem.W.findIn K (.ref C) "__setattr__" = some (some (.builtin "object.__setattr__"))
theorem Cls.get {K : PySem.W.Frag} {C : Addr} (c : Cls K C) (f : Str) : PySem.W.plainGet K C f = true := c.pg
/-- no class of it has the name -/
def NoAttr (K : PySem.W.Frag) (C : Addr) (f : Str) : Prop := PySem.W.findIn K (.ref C) f = some none
theorem NoAttr.taker {K : PySem.W.Frag} {C : Addr} {f : Str} (n : NoAttr K C f) : PySem.W.takerIn K C f = some none := by
  unfold PySem.W.takerIn
  rw [show PySem.W.findIn K (.ref C) f = some none from n]
  rfl
/-- a method: a plain def of the class or of one above it -/
structure Meth (K : PySem.W.Frag) (C : Addr) (m : Str) (f : Addr) : Prop where
  at_ : PySem.W.findIn K (.ref C) m = some (some (.ref f))
  fn : PySem.W.isFn K (.ref f) = true
  kp : PySem.W.keepIn K (.ref f) = true

section
variable {X : Cx} {pins : List (Addr × Obj)} {σ : St} {H : Hp} {s : Shared} {a C dx : Addr} {fs : List (Str × V)} {f : Str} {v : V} {A : Around} {E : Value → Shared → Prop}

theorem getattr_ok {b : Bool} {Q : Value → Shared → Prop} (I : Inv X pins σ H s) (e : H a = some (.ins C dx fs)) (c : Cls X.K C) (n : NoAttr X.K C f) (l : fs.lookup f = some v)
    (h : ∀ u s', Inv X pins σ H s' → RelV v u → Q u s') : wpAny (model X.prog X.w) A (getAttr (.ref a) f b) Q E s := by
  obtain ⟨mA, O, r, _, _, _⟩ := ins_get I.hok e
  obtain ⟨u, hu, ru⟩ := RelO.some_of (v := v) (o := mA f) (by rw [← l]; exact r f)
  exact get_map I.kIn O (c.get f) c.hd n hu (handed_of ru) (h u _ (I.tok _) ru)

theorem getmeth_ok {m : Str} {g : Addr} {pl : Sem Bool} {Q : Value × List Value → Shared → Prop} (I : Inv X pins σ H s) (e : H a = some (.ins C dx fs)) (c : Cls X.K C) (k : Meth X.K C m g) (l : fs.lookup m = none)
    (h : Q (.ref g, [.ref a]) s) : wpAny (model X.prog X.w) A (getMethod (.ref a) m pl) Q E s := by
  obtain ⟨mA, O, r, _, _, _⟩ := ins_get I.hok e
  have hn : mA m = none := RelO.none_of (by rw [← l]; exact r m)
  exact get_meth I.kIn O (c.get m) k.at_ k.fn hn h

theorem setattr_ok {y : V} {u : Value} {Q : Unit → Shared → Prop} (I : Inv X pins σ H s) (e : H a = some (.ins C dx fs)) (c : Cls X.K C) (n : NoAttr X.K C f) (hl : fs.length < 1000) (ry : RelV y u)
    (h : ∀ s', Inv X pins σ (upd H a (.ins C dx (putF f y fs))) s' → Q () s') : wpAny (model X.prog X.w) A (setAttr (.ref a) f u) Q E s := by
  obtain ⟨mA, O, r, wi, _, ho⟩ := ins_get I.hok e
  have hz : (fs.map (·.1)).length ≤ sizeLine := by rw [List.length_map, sizeLine_eq]; omega
  refine set_map I.kIn O c.sa c.po n.taker c.hd wi hz fun h' O' sb => h _ ?_
  have hd : ∃ o, h'.get? dx = some o := let ⟨o, _, _, e', _⟩ := O'.ns; ⟨o, e'⟩
  refine I.write (x := a) (e := dx) (by rw [e]; exact True.intro) (.inr ho) (fun b q hb z => (sb.2 b hb).trans z) hd ?_
  refine ⟨by rw [upd_ne O.ne]; exact ho, ?_, O.ne, O'.obj, _, O'.ns, fun g => ?_, fun g hg => ?_⟩
  · have := length_putF f y fs; omega
  · show RelO ((putF f y fs).lookup g) (if g = f then some u else mA g)
    rw [lookup_putF]
    by_cases q : g = f
    · rw [if_pos q, if_pos q]; exact ry
    · rw [if_neg q, if_neg q]; exact r g
  · by_cases q : g = f
    · rw [q]; exact (keys_putF f y fs).1
    · refine (keys_putF f y fs).2 g (wi g fun z => hg ?_)
      show (if g = f then some u else mA g) = none
      rw [if_neg q]; exact z

/-- a new instance, tracked, without attributes -/
theorem Inv.made (I : Inv X pins σ H s) : Inv X pins σ (upd (upd H s.heap.objs.size (.own (s.heap.objs.size + 1))) (s.heap.objs.size + 1) (.ins C s.heap.objs.size []))
    { s with heap := (s.heap.push PySem.W.emptyDict).push (PySem.W.instObj C s.heap.objs.size) } := by
  have e1 : (s.heap.push PySem.W.emptyDict).get? s.heap.objs.size = some PySem.W.emptyDict := Heap.get?_push_size s.heap rfl
  have e2 : ((s.heap.push PySem.W.emptyDict).push (PySem.W.instObj C s.heap.objs.size)).get? (s.heap.objs.size + 1) = some (PySem.W.instObj C s.heap.objs.size) := by
    have := Heap.get?_push_size (s.heap.push PySem.W.emptyDict) (o := PySem.W.instObj C s.heap.objs.size) rfl
    rwa [Heap.size_push] at this
  have e3 : (s.heap.push PySem.W.emptyDict).Ns s.heap.objs.size (fun _ => none) := ⟨PySem.W.emptyDict, #[], _, e1, rfl, (fun e he => absurd he (by simp)), fun _ => rfl⟩
  have I1 := I.laid (a := s.heap.objs.size) (o := .own (s.heap.objs.size + 1)) (h' := s.heap.push PySem.W.emptyDict) (t' := s.toks) (fun b u q => Heap.get?_push_of_some _ q) (Nat.le_refl _) ⟨_, e1⟩
  refine I1.laid (a := s.heap.objs.size + 1) (o := .ins C s.heap.objs.size []) (t' := s.toks) (fun b u q => Heap.get?_push_of_some _ q) (Nat.le_of_eq (Heap.size_push _ _)) ?_
  have ne : s.heap.objs.size ≠ s.heap.objs.size + 1 := Nat.ne_of_lt (Nat.lt_succ_self _)
  refine ⟨by rw [upd_ne ne, upd_same], Nat.zero_le _, ne, e2, fun _ => none, (Heap.Ns1.of_empty e3).at fun o q => Heap.get?_push_of_some _ q, fun _ => True.intro, fun y hy => absurd rfl hy⟩

/-- e.f where nothing but the object is asked: through attributeBase (super) and the last hold -/
theorem attr_of {prog : Program} {w : World} {env : Env} {e : Expr} {f : Str} {pos : Pos} {s : Shared} {Q : Value → Shared → Prop} (hb : attributeBase e f env (eval e env) = eval e env)
    (h : wpAny (model prog w) A (eval e env) (fun o s₁ => wpAny (model prog w) A (getAttr o f true) Q E s₁) E s) : wpAny (model prog w) A (eval (.Attribute e f pos) env) Q E s :=
  Attribute_any_ h (by rw [arm_eval_Attribute, hb])
end

/-! ### readings and rules -/
/-- e.f, an attribute of the instance -/
inductive tFld_ (K : PySem.W.Frag) (f : Str) (Q : VK) (x : V) (H1 : Hp) : Prop where
  | mk (a : _) (C : _) (dx : _) (fs : _) (v : _) (h1 : x = .ref a) (h2 : H1 a = some (.ins C dx fs)) (h3 : Cls K C) (h4 : NoAttr K C f) (h5 : fs.lookup f = some v) (h6 : Q v H1) : tFld_ K f Q x H1
def tFld (K : PySem.W.Frag) (ta : TE) (f : Str) : TE := fun σ H Q => ta σ H fun x H1 => tFld_ K f Q x H1
/-- e.f = value -/
inductive sFld_ (K : PySem.W.Frag) (f : Str) (D : Ends) (σ : St) (y : V) (x : V) (H2 : Hp) : Prop where
  | mk (a : _) (C : _) (dx : _) (fs : _) (h1 : x = .ref a) (h2 : H2 a = some (.ins C dx fs)) (h3 : Cls K C) (h4 : NoAttr K C f) (h5 : fs.length < 1000) (h6 : D.nx σ (upd H2 a (.ins C dx (putF f y fs)))) : sFld_ K f D σ y x H2
def sFld (K : PySem.W.Frag) (ta tv : TE) (f : Str) : TS := fun D σ H => tv σ H fun y H1 => ta σ H1 fun x H2 => sFld_ K f D σ y x H2
section
variable {X : Cx} {o e value : Expr} {f : Str} {pos pos' tpos : Pos} {ta tv : TE}
theorem pe_fld (he : PE X e ta) (hb : attributeBase e f X.env (eval e X.env) = eval e X.env) : PE X (.Attribute e f pos) (tFld X.K ta f) := by
  intro pins s σ H Q I h
  refine attr_of hb (thn (he pins s σ H _ I h) fun u s1 ⟨x, H1, I1, rx, a, C, dx, fs, v, ex, ea, c, n, l, q⟩ => ?_)
  subst ex
  obtain rfl : u = Value.ref a := rx
  exact getattr_ok I1 ea c n l fun u' s2 I2 ru => ⟨v, H1, I2, ru, q⟩
theorem ps_fld (ha : PE X o ta) (hv : PE X value tv) (hs : swapsWith value (some (.Attribute o f pos')) pos.line X.env = pure false) : PS X (.Assign [.Attribute o f pos'] value pos) (sFld X.K ta tv f) := by
  intro pins s σ H D I h
  refine plainObj_wpAny_Assign_Attribute (thn (hv pins s σ H _ I h) fun u s1 ⟨y, H1, I1, ry, q⟩ => thn (ha pins s1 σ H1 _ I1 q) fun ov s2 ⟨x, H2, I2, rx, a, C, dx, fs, ex, ea, c, n, l, q2⟩ => ?_) hs
  subst ex
  obtain rfl : ov = Value.ref a := rx
  exact setattr_ok I2 ea c n l ry fun s3 I3 => ⟨σ, _, I3, q2⟩
end

/-! ### isinstance -/
section
variable {X : Cx} {pins : List (Addr × Obj)} {σ : St} {H : Hp} {s : Shared} {A : Around} {E : Value → Shared → Prop} {Q : Value → Shared → Prop} {c : Value} {b : Bool}
/-- the type of a value, as the fragment's deciders take it; for an instance its class -/
inductive TyOf (K : PySem.W.Frag) (H : Hp) : V → Value → Prop where
  | non : TyOf K H .non (.type "NoneType")
  | bl (x : Bool) : TyOf K H (.bl x) (.type "bool")
  | int (i : Int) : TyOf K H (.int i) (.type "int")
  | str (x : Str) : TyOf K H (.str x) (.type "str")
  | flt (x : UInt64) : TyOf K H (.flt x) (.type "float")
  | lst {a : Addr} {xs : List V} (e : H a = some (.lst xs)) : TyOf K H (.ref a) (.type "list")
  | frz {a : Addr} {o : Obj} {xs : List V} (e : H a = some (.frz o (.lst xs))) : TyOf K H (.ref a) (.type "list")
  | tup {a : Addr} {xs : List V} (e : H a = some (.tup xs)) : TyOf K H (.ref a) (.type "tuple")
  | dK {a : Addr} {kvs : List (Key × V)} (e : H a = some (.dK kvs)) : TyOf K H (.ref a) (.type "dict")
  | dT {a : Addr} {kvs : List (List Key × V)} (e : H a = some (.dT kvs)) : TyOf K H (.ref a) (.type "dict")
  | ins {a C dx : Addr} {fs : List (Str × V)} (e : H a = some (.ins C dx fs)) (cl : Cls K C) (ha : PySem.W.findIn K (.ref C) "__class__" = some (some (.builtin "object.__class__")))
      (hn : PySem.W.specialIn K (.builtin "object.__class__") "__get__" = some (some (.builtin "getset_descriptor.__get__"))) (htk : PySem.W.takesIn K (.builtin "object.__class__") = some true)
      (hm : PySem.W.mroIn K C (.type "object") = some true) : TyOf K H (.ref a) (.ref C)
/-- isinstance(x, c) for one class c, a built-in or an own one: kitOne's answer -/
theorem isinst_ok {x : V} {u t : Value} (I : Inv X pins σ H s) (rx : RelV x u) (ty : TyOf X.K H x t) (e : PySem.W.kitOne X.K t c = some b) (h : ∀ tk, Q (.bool b) { s with toks := tk }) :
    wpAny (model X.prog X.w) A (call (.builtin "isinstance") [u, c]) Q E s := by
  cases ty with
  | non => cases (show u = Value.none from rx); exact PySem.W.kia_one PySem.W.kitx_none I.kIn True.intro e (fun z => nomatch z) h
  | bl y => cases (show u = Value.bool y from rx); exact PySem.W.kia_one PySem.W.kitx_bool I.kIn True.intro e (fun z => nomatch z) h
  | int i => obtain ⟨t, q⟩ := (show ∃ t, u = Value.int i t from rx); cases q; exact PySem.W.kia_one PySem.W.kitx_int I.kIn True.intro e (fun z => nomatch z) h
  | str y => obtain ⟨t, q⟩ := (show ∃ t, u = Value.str y t from rx); cases q; exact PySem.W.kia_one PySem.W.kitx_str I.kIn True.intro e (fun z => nomatch z) h
  | flt y => obtain ⟨t, q⟩ := (show ∃ t, u = Value.float y t from rx); cases q; exact PySem.W.kia_one PySem.W.kitx_float I.kIn True.intro e (fun z => nomatch z) h
  | @lst a xs ea =>
    cases (show u = Value.ref a from rx)
    obtain ⟨_, _, n, _, h1⟩ := (show ObjOk X.prog X.w H s.heap a (.lst xs) from I.hok a _ ea)
    exact PySem.W.kia_one PySem.W.kitx_list I.kIn ⟨_, h1, rfl⟩ e (fun z => nomatch z) h
  | @frz a ob xs ea =>
    cases (show u = Value.ref a from rx)
    obtain ⟨_, _, _, n, _, h1⟩ := (show ObjOk X.prog X.w H s.heap a (.frz ob (.lst xs)) from I.hok a _ ea)
    exact PySem.W.kia_one PySem.W.kitx_list I.kIn ⟨_, h1, rfl⟩ e (fun z => nomatch z) h
  | @tup a xs ea =>
    cases (show u = Value.ref a from rx)
    obtain ⟨_, _, _, p⟩ := (show ObjOk X.prog X.w H s.heap a (.tup xs) from I.hok a _ ea)
    obtain ⟨o, h1, h2, _⟩ := p
    exact PySem.W.kia_one PySem.W.kitx_tuple I.kIn ⟨o, h1, h2⟩ e (fun z => nomatch z) h
  | @dK a kvs ea =>
    cases (show u = Value.ref a from rx)
    obtain ⟨_, _, vs, _, p⟩ := (show ObjOk X.prog X.w H s.heap a (.dK kvs) from I.hok a _ ea)
    obtain ⟨o, es, ep, h1, h2, _⟩ := p
    exact PySem.W.kia_one PySem.W.kitx_dict I.kIn ⟨o, h1, h2.1⟩ e (fun z => nomatch z) h
  | @dT a kvs ea =>
    cases (show u = Value.ref a from rx)
    obtain ⟨_, _, xs, _, o, es, ep, h1, h2, _⟩ := (show ObjOk X.prog X.w H s.heap a (.dT kvs) from I.hok a _ ea)
    exact PySem.W.kia_one PySem.W.kitx_dict I.kIn ⟨o, h1, h2.1⟩ e (fun z => nomatch z) h
  | @ins a C dx fs ea cl ha hn htk hm =>
    cases (show u = Value.ref a from rx)
    obtain ⟨mA, O, _⟩ := ins_get I.hok ea
    obtain ⟨od, J, _⟩ := O.look
    exact PySem.W.kia_one (PySem.W.kitx_own (cl.get _) cl.hd ha hn htk hm) I.kIn J e (fun z => nomatch z) h
end
end L2

namespace L2
open PySem PySem.Spec PyProof.Rows

/-! ### room -/
structure Room (k : Nat) (A : Around) : Prop where
  hd : A.handled = none
  dp : A.depth + 3 * k + 5 < recursionLimit
  un : A.units + 16 * k + 200 < cLine
theorem Room.mono {j k : Nat} {A : Around} (r : Room k A) (h : j ≤ k) : Room j A := ⟨r.hd, by have := r.dp; omega, by have := r.un; omega⟩
theorem Room.deeper {k : Nat} {A : Around} (r : Room (k + 1) A) (env : Env) : Room k (A.deeper env) :=
  ⟨r.hd, by have := r.dp; show A.depth + 1 + 3 * k + 5 < _; omega, by have := r.un; show A.units + 3 + 16 * k + 200 < _; omega⟩
theorem make_depth {A : Around} {C : Addr} {us : List Value} {kw : List (Str × Value)} : (A.under (.builtin "type.__call__" ⟨.ref C :: us, kw⟩)).depth = A.depth + 1 := by
  first | rfl | simp [Around.under, Code.weight, Code.isCreation, Code.isGuard, Code.isCaller, Code.frames, Code.isFrame, guardIds]
theorem make_units {A : Around} {C : Addr} {us : List Value} {kw : List (Str × Value)} : (A.under (.builtin "type.__call__" ⟨.ref C :: us, kw⟩)).units = A.units + 1 := by
  first | rfl | simp [Around.under, Code.cUnits, Code.frames, Code.isFrame]
theorem Room.make {k : Nat} {A : Around} (r : Room (k + 1) A) (C : Addr) (us : List Value) (kw : List (Str × Value)) : Room k (A.under (.builtin "type.__call__" ⟨.ref C :: us, kw⟩)) :=
  ⟨r.hd, by have := r.dp; rw [make_depth]; omega, by have := r.un; rw [make_units]; omega⟩
theorem Room.depth {k : Nat} {A : Around} (r : Room k A) : A.depth < recursionLimit := by have := r.dp; omega
theorem Room.units {k : Nat} {A : Around} (r : Room k A) : A.units + 64 < cLine := by have := r.un; omega
/-! ### argument lists and displays -/
def tNil : TA := fun _ H Q => Q [] H
def tCons (ta : TE) (tr : TA) : TA := fun σ H Q => ta σ H fun x H1 => tr σ H1 fun xs H2 => Q (x :: xs) H2
section
variable {X : Cx} {e : Expr} {es : List Expr} {te : TE} {t : TA} {pos : Pos}
theorem pa_nil : PA X [] tNil := fun _ _ _ _ H Q I h => Calls.spliced_nil ⟨[], H, I, .nil, h⟩
theorem pa_cons (ha : PE X e te) (hr : PA X es t) (hs : starEach (e :: es) X.env = (false, eval e X.env) :: starEach es X.env := by rfl) : PA X (e :: es) (tCons te t) := by
  intro pos pins s σ H Q I h
  rw [hs]
  show wpAny _ _ (spliced ((false, eval e X.env) :: backTo pos (starEach es X.env))) _ _ s
  refine Calls.spliced_cons (thn (ha pins s σ H _ I h) fun u s1 ⟨x, H1, I1, r1, q1⟩ => ?_)
  exact thn (hr pos pins s1 σ H1 _ I1 q1) fun us s2 ⟨xs, H2, I2, r2, q2⟩ => ⟨x :: xs, H2, I2, .cons r1 r2, q2⟩

/-- a tuple, a list of written items -/
inductive tTup_ (Q : VK) (xs : List V) (H1 : Hp) : Prop where
  | mk (h1 : xs.length ≤ sizeLine) (h2 : ∀ p, H1 p = none → Q (.ref p) (upd H1 p (.tup xs))) : tTup_ Q xs H1
def tTup (t : TA) : TE := fun σ H Q => t σ H fun xs H1 => tTup_ Q xs H1
inductive tLst_ (Q : VK) (xs : List V) (H1 : Hp) : Prop where
  | mk (h1 : xs.length ≤ sizeLine) (h2 : ∀ p, H1 p = none → Q (.ref p) (upd H1 p (.lst xs))) : tLst_ Q xs H1
def tLst (t : TA) : TE := fun σ H Q => t σ H fun xs H1 => tLst_ Q xs H1
theorem pe_tup {x1} (h : PA X es t) : PE X (.Tuple es x1 pos) (tTup t) := by
  intro pins s σ H Q I hq
  refine wpAny_Tuple_spliced (thn (h pos pins s σ H _ I hq) fun us s1 ⟨xs, H1, I1, r, z, q⟩ => ⟨by rw [← r.length]; exact z, ?_⟩)
  have hf : H1 s1.heap.objs.size = none := I1.hok.fresh (Nat.le_refl _)
  refine ⟨.ref s1.heap.objs.size, upd H1 s1.heap.objs.size (.tup xs), I1.laid (t' := s1.toks) (fun b u e => Heap.get?_push_of_some _ e) (Nat.le_refl _) ?_, rfl, q _ hf⟩
  exact ⟨z, us, r, ⟨_, Heap.get?_push_size _ rfl, rfl, _, rfl⟩⟩
theorem pe_lst (h : PA X es t) : PE X (.List es pos) (tLst t) := by
  intro pins s σ H Q I hq
  refine wpAny_List_spliced (thn (h pos pins s σ H _ I hq) fun us s1 ⟨xs, H1, I1, r, z, q⟩ => ⟨by rw [← r.length]; exact z, ?_⟩)
  have hf : H1 s1.heap.objs.size = none := I1.hok.fresh (Nat.le_refl _)
  refine ⟨.ref s1.heap.objs.size, upd H1 s1.heap.objs.size (.lst xs), I1.laid (t' := s1.toks) (fun b u e => Heap.get?_push_of_some _ e) (Nat.le_refl _) ?_, rfl, q _ hf⟩
  exact ⟨z, us, 0, r, Heap.get?_push_size _ rfl⟩
end

/-! ### what a def promises -/
/-- a def's promise: the bound arguments in the parameters' order, the heap, the wanted end, the wanted exception -/
abbrev Sp := List V → Hp → VK → XK → Prop
/-- how an exception lies behind a call (file 08 gives it): the callers' frames, abstract heap and state ahead of the call, the wish, the exception, the state -/
abbrev CXT := List Env → Hp → Shared → XK → Value → Shared → Prop

/-- the state at a call -/
structure Env0 (P : Program) (w : World) (K : PySem.W.Frag) (mg : Str → Option Value) (base : Heap) (A : Around) (outer : List Env) (s : Shared) (H : Hp) : Prop where
  frames : A.frames = some outer
  mod : Mod K mg base
  bs : ∀ b o, base.get? b = some o → s.heap.get? b = some o ∧ H b = none
  bsz : base.objs.size ≤ s.heap.objs.size
  funs : s.heap.FunFrames base outer
  frf : ∀ b ∈ frs outer, H b = none
  hok : HOk P w H s.heap
  bare : AllBare s.gens
/-- a call's end -/
def CE (outer : List Env) (P : Program) (w : World) (H : Hp) (s : Shared) (Q : VK) (u : Value) (s' : Shared) : Prop :=
  ∃ v H', s'.os = s.os ∧ AllBare s'.gens ∧ Un (frs outer) [] H H' s.heap s'.heap ∧ HOk P w H' s'.heap ∧ RelV v u ∧ Q v H'
def CR (CX : CXT) (outer : List Env) (P : Program) (w : World) (H : Hp) (s : Shared) (Q : VK) (E : XK) (r : Result) (s' : Shared) : Prop :=
  match r with
  | .ok (.ret u) => CE outer P w H s Q u s'
  | .ok _ => False
  | .error e => CX outer H s E e s'
structure FnOk (P : Program) (w : World) (K : PySem.W.Frag) (mg : Str → Option Value) (base : Heap) (CX : CXT) (k : Nat) (f : Addr) (fd : FuncData) (ps : List Str) (sp : Sp) : Prop where
  len : ∀ vs H Q E, sp vs H Q E → vs.length = ps.length
  run : ∀ (A : Around) (outer : List Env) (s : Shared) (H : Hp) (args : Args) (us : List Value) (vs : List V) (Q : VK) (E : XK), Room k A → Env0 P w K mg base A outer s H → BindsTo s fd args (ps.zip us) → Vals vs us → sp vs H Q E →
    codeAny (model P w) A (.call (.ref f) args) (CR CX outer P w H s Q E) s
theorem Env0.make {P : Program} {w : World} {K : PySem.W.Frag} {mg : Str → Option Value} {base : Heap} {A : Around} {outer : List Env} {s : Shared} {H : Hp} (e : Env0 P w K mg base A outer s H) (C : Addr) (us : List Value) (kw : List (Str × Value)) :
    Env0 P w K mg base (A.under (.builtin "type.__call__" ⟨.ref C :: us, kw⟩)) outer s H := ⟨by first | exact e.frames | (simpa [Around.under, Code.envs, Code.isFrame, pushEnvs] using e.frames), e.mod, e.bs, e.bsz, e.funs, e.frf, e.hok, e.bare⟩
section
variable {X : Cx} {pins : List (Addr × Obj)} {σ : St} {H : Hp} {s s' : Shared}
/-- from a body: what a callee wants -/
theorem Inv.env0 (I : Inv X pins σ H s) : Env0 X.prog X.w X.K X.mg X.base X.A X.stack s H :=
  ⟨I.ok.frames, I.ok.mod, I.bs, Nat.le_trans I.ok.bsz I.sz, I.stack, I.stkFree, I.hok, I.bare⟩
/-- behind a call -/
theorem Inv.after {Q : VK} {u : Value} (I : Inv X pins σ H s) (h : CE X.stack X.prog X.w H s Q u s') : EP X pins σ Q u s' := by
  obtain ⟨v, H', os, bare, un, hok, r, q⟩ := h
  obtain ⟨hh, g, d, t, os'⟩ := s'
  obtain rfl : os' = s.os := os
  exact ⟨v, H', I.call (h' := hh) (g' := g) (d' := d) (t' := t) (ch := []) un hok bare (fun b z => absurd z (by simp)), r, q⟩
end

/-! ### calls -/
/-- f(..): the written arguments, then the defaults dvs; E: what is wanted of an exception -/
def tCall (sp : Sp) (dvs : List V) (E : XK) (t : TA) : TE := fun σ H Q => t σ H fun vs H1 => sp (vs ++ dvs) H1 Q E
/-- o.m(..) of an instance of the class at C -/
inductive tMeth_ (C : Addr) (m : Str) (sp : Sp) (dvs : List V) (E : XK) (t : TA) (σ : St) (Q : VK) (x : V) (H1 : Hp) : Prop where
  | mk (a : _) (dx : _) (fs : _) (h1 : x = .ref a) (h2 : H1 a = some (.ins C dx fs)) (h3 : fs.lookup m = none) (h4 : t σ H1 fun vs H2 => sp (x :: (vs ++ dvs)) H2 Q E) : tMeth_ C m sp dvs E t σ Q x H1
def tMeth (C : Addr) (m : Str) (sp : Sp) (dvs : List V) (E : XK) (ta : TE) (t : TA) : TE := fun σ H Q => ta σ H fun x H1 => tMeth_ C m sp dvs E t σ Q x H1
/-- C(..): a new instance and its dict, then __init__ -/
def tMake (C : Addr) (sp : Sp) (dvs : List V) (E : XK) (t : TA) : TE := fun σ H Q => t σ H fun vs H1 => ∀ x dx, H1 x = none → H1 dx = none → dx ≠ x →
  sp (.ref x :: (vs ++ dvs)) (upd (upd H1 dx (.own x)) x (.ins C dx [])) (fun v H2 => v = .non ∧ Q (.ref x) H2) E

/-- how the parameters are bound: us the positional arguments, kw the keywords' values by name, ds the defaults that fill up -/
def Binds (K : PySem.W.Frag) (fd : FuncData) (ps : List Str) (ds : List Value) : Prop :=
  ∀ (s : Shared) (us : List Value), K.In s.heap → (us ++ ds).length = ps.length → BindsTo s fd ⟨us, []⟩ (ps.zip (us ++ ds))
/-- every parameter is given -/
theorem Binds.all {K : PySem.W.Frag} {fd : FuncData} {ps : List Str} (h : ∀ us : List Value, us.length = ps.length → bindArgs fd ⟨us, []⟩ = pure (ps.zip us)) : Binds K fd ps [] := fun s us _ hl => by
  rw [List.append_nil] at hl ⊢
  exact .of_eq (h us hl)

/-- an exception of a callee reaches what this body wants of exceptions -/
def Passes (CX : CXT) (X : Cx) (E : XK) : Prop := ∀ (pins : List (Addr × Obj)) (σ : St) (H : Hp) (s : Shared) (e : Value) (s' : Shared), Inv X pins σ H s → CX X.stack H s E e s' → X.xe e s'

section
variable {X : Cx} {CX : CXT} {k : Nat} {f C : Addr} {fd : FuncData} {ps : List Str} {sp : Sp} {dvs : List V} {ds : List Value} {E : XK} {x m : Str} {p pos apos : Pos} {e o : Expr} {es : List Expr} {ta : TE} {t : TA}

/-- the callee runs -/
theorem run_fn {pins : List (Addr × Obj)} {σ : St} {H : Hp} {s : Shared} {Q : VK} {us : List Value} {vs : List V} (F : FnOk X.prog X.w X.K X.mg X.base CX k f fd ps sp) (hr : Room k X.A) (hb : Binds X.K fd ps ds) (hd : Vals dvs ds) (hx : Passes CX X E)
    (I : Inv X pins σ H s) (r : Vals vs us) (h : sp (vs ++ dvs) H Q E) : wpAny (model X.prog X.w) X.A (call (.ref f) us) (EP X pins σ Q) X.xe s := by
  have r2 : Vals (vs ++ dvs) (us ++ ds) := r.append hd
  have hl : (us ++ ds).length = ps.length := by rw [← r2.length]; exact F.len _ _ _ _ h
  refine wpAny_call (codeAny_mono (F.run X.A X.stack s H ⟨us, []⟩ (us ++ ds) (vs ++ dvs) Q E hr I.env0 (hb s us I.kIn hl) r2 h) fun r s' hq => ?_)
  cases r with
  | error e => exact hx pins σ H s e s' I hq
  | ok fl =>
    cases fl with
    | ret u => exact I.after hq
    | next => exact False.elim hq
    | brk => exact False.elim hq
    | cont => exact False.elim hq

theorem pe_call (F : FnOk X.prog X.w X.K X.mg X.base CX k f fd ps sp) (hr : Room k X.A) (hg : Gl X x) (hm : X.mg x = some (.ref f)) (hk : PySem.W.keepIn X.K (.ref f) = true) (hb : Binds X.K fd ps ds) (hd : Vals dvs ds) (hx : Passes CX X E)
    (ha : PA X (e :: es) t) (hdb : (x == ("__debug__" : Str)) = false := by decide) (he : starEach (e :: es) X.env = (false, eval e X.env) :: starEach es X.env := by rfl) (hpl : (backTo pos (starEach es X.env)).any (·.1) = false := by rfl) :
    PE X (.Call (.Name x p) (e :: es) [] pos) (tCall sp dvs E t) := by
  intro pins s σ H Q I h
  refine wpAny_Call_Name_kw (ld_glob I hg hm ?_ hdb)
  refine PySem.W.callWith_K (h₀ := X.base) I.ok.mod.kin hk (thn (ha pos pins s σ H _ I h) fun us s1 ⟨vs, H1, I1, r, q⟩ => ⟨I1.kIn, ?_⟩) he hpl
  exact run_fn F hr hb hd hx I1 r q
/-- o.m(e, ..) -/
theorem pe_meth {pl : Sem Bool} (he : PE X o ta) (c : Cls X.K C) (hm : Meth X.K C m f) (F : FnOk X.prog X.w X.K X.mg X.base CX k f fd ps sp) (hr : Room k X.A) (hb : Binds X.K fd ps ds) (hd : Vals dvs ds) (hx : Passes CX X E) (ha : PA X (e :: es) t)
    (hst : starEach (e :: es) X.env = (false, eval e X.env) :: starEach es X.env := by rfl) (hpl : (backTo pos (starEach es X.env)).any (·.1) = false := by rfl)
    (ht : eval (.Call (.Attribute o m apos) (e :: es) [] pos) X.env = (do
      let ov ← eval o X.env
      standAt apos.atName
      let (f, first) ← holding [ov] (getMethod ov m pl)
      callWith pos f first (backTo pos (starEach (e :: es) X.env)) (backToKw pos (keywordEach [] X.env))) := by rfl) :
    PE X (.Call (.Attribute o m apos) (e :: es) [] pos) (tMeth C m sp dvs E ta t) := by
  intro pins s σ H Q I h
  refine PySem.W.methodCall_KW (pl := pl) (thn (he pins s σ H _ I h) fun u s1 ⟨x, H1, I1, rx, a, dx, fs, ex, ea, l, q⟩ => ?_) ht
  subst ex
  obtain rfl : u = Value.ref a := rx
  refine getmeth_ok I1 ea c hm l ?_
  refine PySem.W.callWith_K (first := [.ref a]) (h₀ := X.base) I.ok.mod.kin hm.kp (thn (ha pos pins s1 σ H1 _ I1 q) fun us s2 ⟨vs, H2, I2, r, q2⟩ => ⟨I2.kIn, ?_⟩) hst hpl
  exact run_fn (us := .ref a :: us) (vs := .ref a :: vs) F hr hb hd hx I2 (.cons rfl r) q2
/-- o.m() -/
theorem pe_meth0 {pl : Sem Bool} (he : PE X o ta) (c : Cls X.K C) (hm : Meth X.K C m f) (F : FnOk X.prog X.w X.K X.mg X.base CX k f fd ps sp) (hr : Room k X.A) (hb : Binds X.K fd ps ds) (hd : Vals dvs ds) (hx : Passes CX X E)
    (ht : eval (.Call (.Attribute o m apos) [] [] pos) X.env = (do
      let ov ← eval o X.env
      standAt apos.atName
      let (f, first) ← holding [ov] (getMethod ov m pl)
      callWith pos f first (backTo pos (starEach [] X.env)) (backToKw pos (keywordEach [] X.env))) := by rfl) :
    PE X (.Call (.Attribute o m apos) [] [] pos) (tMeth C m sp dvs E ta tNil) := by
  intro pins s σ H Q I h
  refine PySem.W.methodCall_KW (pl := pl) (thn (he pins s σ H _ I h) fun u s1 ⟨x, H1, I1, rx, a, dx, fs, ex, ea, l, q⟩ => ?_) ht
  subst ex
  obtain rfl : u = Value.ref a := rx
  refine getmeth_ok I1 ea c hm l ?_
  exact PySem.W.callWith_K0 (first := [.ref a]) I1.kIn hm.kp (run_fn (us := [.ref a]) (vs := [.ref a]) F hr hb hd hx I1 (.cons rfl .nil) q)

/-- what a class must have to be made -/
structure Mk (K : PySem.W.Frag) (C f : Addr) : Prop where
  makes : PySem.W.makesIn K C = true
  init : PySem.W.findIn K (.ref C) "__init__" = some (some (.ref f))
  fn : PySem.W.isFn K (.ref f) = true
  kp : PySem.W.keepIn K (.ref C) = true

theorem run_make {pins : List (Addr × Obj)} {σ : St} {H : Hp} {s : Shared} {Q : VK} {us : List Value} {vs : List V} (M : Mk X.K C f) (F : FnOk X.prog X.w X.K X.mg X.base CX k f fd ps sp) (hr : Room (k + 1) X.A) (hb : Binds X.K fd ps ds) (hd : Vals dvs ds)
    (hx : Passes CX X E) (I : Inv X pins σ H s) (r : Vals vs us)
    (h : ∀ x dx, H x = none → H dx = none → dx ≠ x → sp (.ref x :: (vs ++ dvs)) (upd (upd H dx (.own x)) x (.ins C dx [])) (fun v H2 => v = .non ∧ Q (.ref x) H2) E) :
    wpAny (model X.prog X.w) X.A (call (.ref C) us) (EP X pins σ Q) X.xe s := by
  have hq := h (s.heap.objs.size + 1) s.heap.objs.size (I.hok.fresh (Nat.le_succ _)) (I.hok.fresh (Nat.le_refl _)) (Nat.ne_of_lt (Nat.lt_succ_self _))
  have I2 := Inv.made (C := C) I
  have r2 : Vals (V.ref (s.heap.objs.size + 1) :: (vs ++ dvs)) (Value.ref (s.heap.objs.size + 1) :: (us ++ ds)) := .cons rfl (r.append hd)
  have hl : (Value.ref (s.heap.objs.size + 1) :: us ++ ds).length = ps.length := by
    have e := r2.length
    rw [F.len _ _ _ _ hq] at e
    exact e.symm
  refine wpAny_call (make_map (f := f) I.kIn M.makes M.init (beq_iff_eq.mp M.fn) (codeAny_mono (F.run _ X.stack _ _ ⟨Value.ref (s.heap.objs.size + 1) :: us, []⟩ (Value.ref (s.heap.objs.size + 1) :: (us ++ ds)) _ _ E (hr.make C us [])
    (I2.env0.make C us []) (hb _ (Value.ref (s.heap.objs.size + 1) :: us) I2.kIn hl) r2 hq) fun r s' hq' => ?_))
  cases r with
  | error e => exact hx pins σ _ _ e s' I2 hq'
  | ok fl =>
    cases fl with
    | ret u =>
      obtain ⟨v, H', I3, rv, ev, q3⟩ := I2.after hq'
      subst ev
      exact ⟨rv, ⟨V.ref (s.heap.objs.size + 1), H', I3, rfl, q3⟩⟩
    | next => exact False.elim hq'
    | brk => exact False.elim hq'
    | cont => exact False.elim hq'
theorem pe_make (M : Mk X.K C f) (F : FnOk X.prog X.w X.K X.mg X.base CX k f fd ps sp) (hr : Room (k + 1) X.A) (hg : Gl X x) (hm : X.mg x = some (.ref C)) (hb : Binds X.K fd ps ds) (hd : Vals dvs ds) (hx : Passes CX X E)
    (ha : PA X (e :: es) t) (hdb : (x == ("__debug__" : Str)) = false := by decide) (he : starEach (e :: es) X.env = (false, eval e X.env) :: starEach es X.env := by rfl) (hpl : (backTo pos (starEach es X.env)).any (·.1) = false := by rfl) :
    PE X (.Call (.Name x p) (e :: es) [] pos) (tMake C sp dvs E t) := by
  intro pins s σ H Q I h
  refine wpAny_Call_Name_kw (ld_glob I hg hm ?_ hdb)
  refine PySem.W.callWith_K (h₀ := X.base) I.ok.mod.kin M.kp (thn (ha pos pins s σ H _ I h) fun us s1 ⟨vs, H1, I1, r, q⟩ => ⟨I1.kIn, ?_⟩) he hpl
  exact run_make M F hr hb hd hx I1 r q
end

/-! ### keywords -/
section
variable {X : Cx} {CX : CXT} {k : Nat} {f C : Addr} {fd : FuncData} {ps ks : List Str} {sp : Sp} {E : XK} {x m : Str} {p pos apos kpos : Pos} {e o : Expr} {es : List Expr} {kws : List Keyword} {te ta : TE} {t tk : TA} {nm : Option Str}
variable {g : List Value → List Value → List Value} {gV : List V → List V → List V}
end

/-! ### a def's body keeps its promise -/
/-- names: the parameters first -/
structure FnScope (N P : List Str) (sc : Scope) : Prop where
  kind : sc.kind = .function
  co : sc.isCoroutine = false
  gen : sc.isGenerator = false
  nd : N.Nodup
  pre : N.take P.length = P
  par : ∀ x ∈ P, sc.names.lookup x = some .local ∨ sc.names.lookup x = some .cell
  nofree : ∀ y ∈ sc.names, y.2 ≠ .free

theorem bindL_out {kindOf : Str → Option NameKind} {x : Str} : ∀ {binds : List (Str × Value)} {m : Str → Option Value}, (∀ v, (x, v) ∉ binds) → bindL kindOf binds m x = m x
  | [], _, _ => rfl
  | (n, v) :: r, m, h => by
    unfold bindL
    rw [bindL_out fun w hw => h w (List.mem_cons_of_mem _ hw)]
    split
    · have : x ≠ n := by rintro rfl; exact h v List.mem_cons_self
      simp [this]
    · rfl
theorem bindC_out {kindOf : Str → Option NameKind} {x : Str} : ∀ {binds : List (Str × Value)} {m : Str → Option Value}, (∀ v, (x, v) ∉ binds) → bindC kindOf binds m x = m x
  | [], _, _ => rfl
  | (n, v) :: r, m, h => by
    unfold bindC
    rw [bindC_out fun w hw => h w (List.mem_cons_of_mem _ hw)]
    split
    · rfl
    · have : x ≠ n := by rintro rfl; exact h v List.mem_cons_self
      simp [this]
theorem bindL_get {kindOf : Str → Option NameKind} {x : Str} {v : Value} : ∀ {P : List Str} {vs : List Value} {i : Nat} {m : Str → Option Value}, P.Nodup → P[i]? = some x → vs[i]? = some v → kindOf x = some .local →
    bindL kindOf (P.zip vs) m x = some v
  | [], _, _, _, _, h, _, _ => by simp at h
  | _ :: _, [], _, _, _, _, h, _ => by simp at h
  | p :: P, w :: vs, 0, m, nd, h1, h2, hk => by
    simp at h1 h2; subst h1; subst h2
    show bindL kindOf ((p, w) :: P.zip vs) m p = _
    unfold bindL
    rw [bindL_out fun v hv => (List.nodup_cons.mp nd).1 (List.of_mem_zip hv).1, if_pos hk]
    simp
  | p :: P, w :: vs, i + 1, m, nd, h1, h2, hk => by
    show bindL kindOf ((p, w) :: P.zip vs) m x = _
    unfold bindL
    exact bindL_get (i := i) (List.nodup_cons.mp nd).2 (by simpa using h1) (by simpa using h2) hk
theorem bindC_get {kindOf : Str → Option NameKind} {x : Str} {v : Value} : ∀ {P : List Str} {vs : List Value} {i : Nat} {m : Str → Option Value}, P.Nodup → P[i]? = some x → vs[i]? = some v → kindOf x ≠ some .local →
    bindC kindOf (P.zip vs) m x = some v
  | [], _, _, _, _, h, _, _ => by simp at h
  | _ :: _, [], _, _, _, _, h, _ => by simp at h
  | p :: P, w :: vs, 0, m, nd, h1, h2, hk => by
    simp at h1 h2; subst h1; subst h2
    show bindC kindOf ((p, w) :: P.zip vs) m p = _
    unfold bindC
    rw [bindC_out fun v hv => (List.nodup_cons.mp nd).1 (List.of_mem_zip hv).1, if_neg hk]
    simp
  | p :: P, w :: vs, i + 1, m, nd, h1, h2, hk => by
    show bindC kindOf ((p, w) :: P.zip vs) m x = _
    unfold bindC
    exact bindC_get (i := i) (List.nodup_cons.mp nd).2 (by simpa using h1) (by simpa using h2) hk

/-- the names' values at the entry -/
def start (N : List Str) (vs : List V) : St := vs.map some ++ List.replicate (N.length - vs.length) none

/-- the context of a def's body, at its entry; an exception leaves the frame, then lies as CX says -/
def cxOf (CX : CXT) (P : Program) (w : World) (K : PySem.W.Frag) (mg : Str → Option Value) (base : Heap) (N : List Str) (qual : Str) (scope : Scope) (f : Addr) (cd : Value) (A : Around) (outer : List Env) (s : Shared) (H : Hp) (E : XK) : Cx where
  prog := P
  w := w
  K := K
  mg := mg
  base := base
  A := A.deeper (envOfC qual scope s.heap.objs.size f cd)
  N := N
  s₀ := s
  H₀ := H
  env := envOfC qual scope s.heap.objs.size f cd
  outer := outer
  stack := envOfC qual scope s.heap.objs.size f cd :: outer
  ex := []
  calm := true
  fn := fun _ => true
  pn := []
  xe := fun e s' => wpAny (model P w) (A.deeper (envOfC qual scope s.heap.objs.size f cd)) (leaving (envOfC qual scope s.heap.objs.size f cd) e) (fun _ s'' => CX outer H s E e s'') (fun e' s'' => CX outer H s E e' s'') s'

theorem cell_has {sc : Scope} {n : Nat} {x : Str} (h : sc.names.lookup x = some .cell) : ∃ c, (cellsFrom n sc.names []).lookup x = some c := by
  have q := PySem.W.cellsFrom_some sc.names n [] (.inl h)
  exact Option.isSome_iff_exists.mp q

theorem inv_start {CX : CXT} {P : Program} {w : World} {K : PySem.W.Frag} {mg : Str → Option Value} {base : Heap} {N ps : List Str} {qual : Str} {scope : Scope} {f : Addr} {cd : Value} {A : Around} {outer : List Env} {s s1 : Shared} {H : Hp} {E : XK} {us : List Value} {vs : List V}
    (S : FnScope N ps scope) (hd : A.handled = none) (e0 : Env0 P w K mg base A outer s H) (hl : vs.length = ps.length) (r : Vals vs us)
    (x : InCallC s s.heap.objs.size (bindL (envOfC qual scope s.heap.objs.size f cd).kindOf (ps.zip us) fun _ => none) (cellsFrom (s.heap.objs.size + 1) scope.names []) (bindC (envOfC qual scope s.heap.objs.size f cd).kindOf (ps.zip us) fun _ => none) s1) :
    Inv (cxOf CX P w K mg base N qual scope f cd A outer s H E) [] (start N vs) H s1 := by
  have hpl : ps.length ≤ N.length := by have := congrArg List.length S.pre; rw [List.length_take] at this; omega
  obtain ⟨h1, tk, rfl, hk⟩ := x.done
  have noA : ∀ b : Addr, b ∉ (cxOf CX P w K mg base N qual scope f cd A outer s H E).ex := fun b z => absurd (show b ∈ ([] : List Addr) from z) (by simp)
  refine ⟨⟨e0.mod, S.kind, rfl, rfl, Nat.le_refl _, fun y z c h1 h2 => ?_, fun y hy => ?_, fun y c _ h => ?_, fun _ => hd, Around.frames_deeper e0.frames, .inr ⟨rfl, rfl⟩, fun b z => absurd z (noA b), e0.bs, e0.bsz, fun b _ _ => noA b, fun b z => absurd z (noA b), e0.funs, e0.frf⟩,
    rfl, e0.bare, Un.kept hk, ⟨_, x.toInCall.ns, fun i y v h1 h2 h3 => ?_⟩, fun y c h => ⟨_, x.cell y c h⟩, e0.hok.fresh (Nat.le_refl _), fun y c h => ?_, fun p hp => absurd (show p ∈ ([] : List (Addr × Obj)) from hp) (by simp), e0.hok.kept hk, ?_⟩
  · exact name_of_addr x.apart (PySem.mem_of_lookup h1) (PySem.mem_of_lookup h2)
  · have hy : scope.names.lookup y = some .cell ∨ scope.names.lookup y = some .free := hy
    rcases hy with hy | hy
    · exact cell_has hy
    · exact absurd rfl (S.nofree _ (PySem.mem_of_lookup hy))
  · exact Nat.le_of_lt (x.above y c (PySem.mem_of_lookup h))
  · have hi : i < vs.length := by
      unfold start at h2
      by_cases hi : i < vs.length
      · exact hi
      · rw [List.getElem?_append_right (by simpa using hi)] at h2
        rw [List.getElem?_replicate] at h2
        split at h2 <;> cases h2
    have ha : vs[i]? = some v := by
      unfold start at h2
      rw [List.getElem?_append_left (by simpa using hi), List.getElem?_map] at h2
      cases e : vs[i]? with
      | none => rw [e] at h2; cases h2
      | some a => rw [e] at h2; cases h2; rfl
    obtain ⟨u, hu, rv⟩ := r.get ha
    have hp : ps[i]? = some y := by
      rw [← S.pre, List.getElem?_take_of_lt (by omega)]; exact h1
    have ndP : ps.Nodup := by rw [← S.pre]; exact S.nd.sublist (List.take_sublist _ _)
    refine ⟨u, rv, ?_⟩
    rcases S.par y (List.mem_of_getElem? hp) with k | k
    · exact .inl ⟨k, bindL_get ndP hp hu k⟩
    · obtain ⟨c, e⟩ := cell_has (n := s.heap.objs.size + 1) k
      refine .inr ⟨.inl k, c, e, ?_⟩
      have q := x.cell y c e
      rw [bindC_get ndP hp hu (by show scope.names.lookup y ≠ _; rw [k]; decide)] at q
      exact q
  · exact e0.hok.fresh (Nat.le_of_lt (x.above y c (PySem.mem_of_lookup h)))
  · unfold start
    show _ = N.length
    rw [List.length_append, List.length_map, List.length_replicate]
    omega

/-- THE RULE: a def (or a method) of the text, by its body. The body's reading t is chosen for each entry; it is run at the parameters' values -/
theorem fn_of {CX : CXT} {P : Program} {w : World} {K : PySem.W.Frag} {mg : Str → Option Value} {base : Heap} {k : Nat} {f : Addr} {name qual : Str} {params : Arguments} {body : List Stmt} {scope : Scope} {dV kV doc pm cdv ct oc : Value} {an od : Option Addr}
    {osl : Array (Option Value)} {N ps : List Str} {sp : Sp} (lk : K.lookup f = some ⟨oc, od, .func (PySem.W.fnOf name qual params body scope dV kV doc pm an cdv ct), osl⟩) (hcd : PySem.W.codeIn K cdv qual = true) (S : FnScope N ps scope)
    (len : ∀ vs H Q E, sp vs H Q E → vs.length = ps.length)
    (hbody : ∀ (A : Around) (outer : List Env) (s : Shared) (H : Hp) (vs : List V) (Q : VK) (E : XK), Room k (A.deeper (envOfC qual scope s.heap.objs.size f cdv)) → sp vs H Q E →
      ∃ t, PSs (cxOf CX P w K mg base N qual scope f cdv A outer s H E) body t ∧ t { nx := fun _ H' => Q .non H', rt := Q } (start N vs) H) :
    FnOk P w K mg base CX (k + 1) f (PySem.W.fnOf name qual params body scope dV kV doc pm an cdv ct) ps sp := by
  refine ⟨len, fun A outer s H args us vs Q E hr e0 hb r hsp => ?_⟩
  have hl := len _ _ _ _ hsp
  have KX : K.In s.heap := e0.mod.kin.keeps fun b o e => (e0.bs b o e).1
  have lim : s.heap.NoLimit := e0.mod.nolimit.keeps fun b o e => (e0.bs b o e).1
  have hkind : ∀ y ∈ ps.zip us, scope.names.lookup y.1 = some .local ∨ (scope.names.lookup y.1 = some .cell ∧ ((cellsFrom (s.heap.objs.size + 1) scope.names []).lookup y.1).isSome = true) := fun ⟨n, v⟩ hy => by
    rcases S.par n (List.of_mem_zip hy).1 with q | q
    · exact .inl q
    · exact .inr ⟨q, PySem.W.cellsFrom_some _ _ _ (.inl q)⟩
  refine codeAny_call_function hr.depth (KX _ _ lk) rfl S.co S.gen rfl (PySem.W.codeRec_of KX hcd) (hb _ _ _ _ ?_)
  refine wpAny_newFunctionEnv_cells S.kind hkind fun env he s1 x => ?_
  subst he
  refine ⟨lim.keeps x.toInCall.keep, codeAny_func ?_⟩
  obtain ⟨t, ht, hq⟩ := hbody A outer s H vs Q E (hr.deeper _) hsp
  have I : Inv (cxOf CX P w K mg base N qual scope f cdv A outer s H E) [] (start N vs) H s1 := inv_start S hr.hd e0 hl r x
  refine wpAny_mono (ht [] s1 (start N vs) H _ I hq) (fun fl s' hs => ?_) fun e s' hs => hs
  have fin : ∀ {σ' : St} {H' : Hp} {v : V} {u : Value}, Inv (cxOf CX P w K mg base N qual scope f cdv A outer s H E) [] σ' H' s' → RelV v u → Q v H' → CE outer P w H s Q u s' :=
    fun {σ' H' v u} J rv q => ⟨v, H', J.os, J.bare, J.base, J.hok, rv, q⟩
  cases fl with
  | ret u =>
    obtain ⟨v, σ', H', J, rv, q⟩ := hs
    exact fin J rv q
  | next =>
    obtain ⟨σ', H', J, q⟩ := hs
    exact fin (v := V.non) (u := Value.none) J rfl q
  | brk =>
    obtain ⟨_, _, _, q⟩ := hs
    exact False.elim q
  | cont =>
    obtain ⟨_, _, _, q⟩ := hs
    exact False.elim q
end L2

namespace L2
open PySem PySem.Spec PyProof.Rows
section
variable {X : Cx} {x : Str} {p pos : Pos} {e : Expr} {es : List Expr} {t : TA} {id T : String} {r : List V → Hp → VK → Prop}

def tCB (r : List V → Hp → VK → Prop) (t : TA) : TE := fun σ H Q => t σ H fun vs H1 => r vs H1 Q
/-- f(e, ..), f a built-in function -/
theorem pe_callB (hc : CallR X (.builtin id) r) (hg : Gl X x) (hm : X.mg x = none) (hv : bootBuiltins x = some (.builtin id)) (ha : PA X (e :: es) t) (hn : x ≠ "__name__" := by decide) (hdb : (x == ("__debug__" : Str)) = false := by decide)
    (he : starEach (e :: es) X.env = (false, eval e X.env) :: starEach es X.env := by rfl) (hpl : (backTo pos (starEach es X.env)).any (·.1) = false := by rfl) : PE X (.Call (.Name x p) (e :: es) [] pos) (tCB r t) := by
  intro pins s σ H Q I h
  refine wpAny_Call_Name_kw (ld_blt I hg hm hv ?_ hn hdb)
  exact PyProof.Rows.callWith_builtin1 (thn (ha pos pins s σ H _ I h) fun us s1 ⟨vs, H1, I1, r1, q1⟩ => hc pins s1 σ H1 vs us Q I1 r1 q1) he hpl
/-- T(e, ..), T a built-in type -/
theorem pe_callTy (hc : CallR X (.type T) r) (hg : Gl X x) (hm : X.mg x = none) (hv : bootBuiltins x = some (.type T)) (ha : PA X (e :: es) t) (hn : x ≠ "__name__" := by decide) (hdb : (x == ("__debug__" : Str)) = false := by decide)
    (he : starEach (e :: es) X.env = (false, eval e X.env) :: starEach es X.env := by rfl) (hpl : (backTo pos (starEach es X.env)).any (·.1) = false := by rfl) : PE X (.Call (.Name x p) (e :: es) [] pos) (tCB r t) := by
  intro pins s σ H Q I h
  refine wpAny_Call_Name_kw (ld_blt I hg hm hv ?_ hn hdb)
  exact PyProof.Rows.callWith_type1 (thn (ha pos pins s σ H _ I h) fun us s1 ⟨vs, H1, I1, r1, q1⟩ => hc pins s1 σ H1 vs us Q I1 r1 q1) he hpl
end
end L2

namespace HT
open PySem PyProof.Rows

section
open PySem.SeqAt
open PySem.AutoSeq1 (wpAny_loadPart')
open PySem.MeetsSeq PySem.MeetsSeq2 PySem.MeetsSeq3

end

section
variable {prog : Program} {w : World} {A : Around} {E : Value → Shared → Prop} {s : Shared}

/-- t + u, t not empty -/
theorem cat_tup {t b : Addr} {vs ws : List Value} {Q : Value → Shared → Prop} (ht : IsTup s.heap t vs.toArray) (hb : IsTup s.heap b ws.toArray) (hv : vs ≠ [])
    (h1 : ws = [] → Q (.ref t) s) (h2 : ws ≠ [] → Q (.ref s.heap.objs.size) { s with heap := s.heap.push { cls := .type "tuple", data := .seq (vs ++ ws).toArray } })
    (hsz : vs.length + ws.length ≤ sizeLine) : wpAny (model prog w) A (binaryOp .Add (.ref t) (.ref b)) Q E s := by
  obtain ⟨⟨cls, dd, data, sl⟩, ho, hc, n, hd⟩ := id ht
  obtain ⟨⟨cls2, dd2, data2, sl2⟩, ho2, hc2, n2, hd2⟩ := id hb
  simp only at hc hd hc2 hd2
  subst hc hd hc2 hd2
  have e : vs.toArray ++ ws.toArray = (vs ++ ws).toArray := by simp
  by_cases hw : ws = []
  · exact concat_meets ⟨_, ho, rfl⟩ ⟨_, ho2, rfl⟩ noFill_tuple_add seq_tuple_add PySem.F.slot_tuple_add PySem.F.entry_tuple_add (PySem.F.args_tuple_add_2 _ _)
      (tuple_addW1 t b vs.toArray ws.toArray n n2 dd dd2 sl sl2 (by simpa using hv) (by simp [hw])) ⟨ho, ho2, h1 hw⟩
  · refine concat_meets ⟨_, ho, rfl⟩ ⟨_, ho2, rfl⟩ noFill_tuple_add seq_tuple_add PySem.F.slot_tuple_add PySem.F.entry_tuple_add (PySem.F.args_tuple_add_2 _ _)
      (tuple_addW2 t b vs.toArray ws.toArray n n2 dd dd2 sl sl2 (by simpa using hv) (by simpa using hw) (by rw [List.size_toArray, List.size_toArray]; exact hsz)) ⟨ho, ho2, ?_⟩
    rw [e]
    exact h2 hw

/-! ### t[a:b], not the whole -/
/-- a slice's bound as a place among n (d where it is left out) -/
def sIx (n d : Nat) : Option Int → Nat
  | none => d
  | some v => if v < 0 then (v + (n : Int)).toNat else min v.toNat n
theorem sIx_none (n d : Nat) : sIx n d none = d := rfl
theorem sIx_nat (n d k : Nat) : sIx n d (some (k : Int)) = min k n := by
  show (if (k : Int) < 0 then ((k : Int) + (n : Int)).toNat else min (k : Int).toNat n) = min k n
  rw [if_neg (by omega), Int.toNat_natCast]
theorem sIx_le (n d : Nat) (hd : d ≤ n) (o : Option Int) : sIx n d o ≤ n := by
  cases o with
  | none => exact hd
  | some v =>
    show (if v < 0 then (v + (n : Int)).toNat else min v.toNat n) ≤ n
    by_cases hv : v < 0
    · rw [if_pos hv]; omega
    · rw [if_neg hv]; exact Nat.min_le_right _ _
theorem clip_eq (v : Int) (n d : Nat) : (if v < 0 then max (v + (n : Int)) 0 else min v (n : Int)) = ((sIx n d (some v) : Nat) : Int) := by
  show (if v < 0 then max (v + (n : Int)) 0 else min v (n : Int)) = (((if v < 0 then (v + (n : Int)).toNat else min v.toNat n) : Nat) : Int)
  by_cases hv : v < 0
  · simp only [if_pos hv]; omega
  · simp only [if_neg hv]; omega
theorem adjust_gen (lo hi : Option Int) (n : Nat) : Builtin.Slice.sliceAdjust lo hi 1 (n : Int) = (((sIx n 0 lo : Nat) : Int), ((sIx n n hi : Nat) : Int)) := by
  have h1 : ¬ ((1 : Int) < 0) := by omega
  unfold Builtin.Slice.sliceAdjust
  simp only [h1, if_false]
  refine Prod.ext ?_ ?_
  · cases lo with
    | none => rfl
    | some v => exact clip_eq v n 0
  · cases hi with
    | none => rfl
    | some v => exact clip_eq v n n
theorem places_gen (i j : Nat) : Builtin.Slice.slicePlaces (i : Int) (j : Int) 1 = j - i := by
  unfold Builtin.Slice.slicePlaces
  have h1 : (1 : Int) > 0 := by omega
  simp only [h1, if_true, Int.ediv_one]
  split <;> omega
theorem slicePart_ {v : Value} {o : Option Int} {Q : Option Int → Shared → Prop} (p : IsPart v o) (h : Q o s) : wpAny (model prog w) A (Builtin.Slice.slicePartIndex v) Q E s := by
  cases p with
  | none => exact slicePart_none h
  | int i t => exact slicePart_int h
theorem sliceApplied_gen {sl : Addr} {vl vu : Value} {lo hi : Option Int} {n : Nat} {Q : Int × Int × Nat → Shared → Prop} (hs : s.heap.IsSliceOf sl vl vu .none) (pl : IsPart vl lo) (pu : IsPart vu hi)
    (h : Q (((sIx n 0 lo : Nat) : Int), 1, sIx n n hi - sIx n 0 lo) s) : wpAny (model prog w) A (Builtin.Slice.sliceApplied (.ref sl) (pure (n : Int))) Q E s := by
  obtain ⟨os, hos, hcs, hds⟩ := id hs
  unfold Builtin.Slice.sliceApplied Builtin.Slice.sliceFields
  refine wpAny_bind (wpAny_bind (wpAny_field hos hds (x := vl) rfl (wpAny_bind (wpAny_field hos hds (x := vu) rfl (wpAny_bind (wpAny_field hos hds (x := .none) rfl (wpAny_pure ?_)))))))
  refine wpAny_bind (slicePart_none ?_)
  show wpAny _ _ (if ((1 : Int) == 0) = true then _ else _) _ _ s
  rw [if_neg (by decide)]
  refine wpAny_bind (slicePart_ pl (wpAny_bind (slicePart_ pu (wpAny_bind (wpAny_pure ?_)))))
  show wpAny _ _ (match Builtin.Slice.sliceAdjust lo hi 1 (n : Int) with | (lo, hi) => pure (lo, (1 : Int), Builtin.Slice.slicePlaces lo hi 1)) _ _ s
  rw [adjust_gen lo hi n]
  show wpAny _ _ (pure (((sIx n 0 lo : Nat) : Int), (1 : Int), Builtin.Slice.slicePlaces ((sIx n 0 lo : Nat) : Int) ((sIx n n hi : Nat) : Int) 1)) _ _ s
  rw [places_gen]
  exact wpAny_pure h
theorem pick_gen (xs : Array Value) (i k : Nat) : ((List.range k).filterMap fun (m : Nat) => xs[((i : Int) + (m : Int) * 1).toNat]?).toArray = ((xs.toList.drop i).take k).toArray := by
  have e : (fun (m : Nat) => xs[((i : Int) + (m : Int) * 1).toNat]?) = fun m => xs[i + m]? := by
    funext m
    have : ((i : Int) + (m : Int) * 1).toNat = i + m := by omega
    rw [this]
  rw [e]
  have := pick_run xs i k
  rw [List.filterMap_map] at this
  have e2 : ((fun x => xs[x]?) ∘ fun x => i + x) = fun m => xs[i + m]? := rfl
  rw [e2] at this
  rw [this]

theorem getItem_tuple_cut {t sl : Addr} {items : Array Value} {vl vu : Value} {lo hi : Option Int} {Q : Value → Shared → Prop} (ht : IsTup s.heap t items) (hs : s.heap.IsSliceOf sl vl vu .none) (pl : IsPart vl lo) (pu : IsPart vu hi)
    (hw : ¬ (sIx items.size 0 lo = 0 ∧ sIx items.size items.size hi = items.size))
    (h : Q (.ref s.heap.objs.size) { s with heap := s.heap.push { cls := .type "tuple", data := .seq ((items.toList.drop (sIx items.size 0 lo)).take (sIx items.size items.size hi - sIx items.size 0 lo)).toArray } })
    (hsz : items.size ≤ sizeLine) : wpAny (model prog w) A (getItem (.ref t) (.ref sl)) Q E s := by
  have htake : sizeOk (.seq ((items.toList.drop (sIx items.size 0 lo)).take (sIx items.size items.size hi - sIx items.size 0 lo)).toArray) := by
    show ((items.toList.drop (sIx items.size 0 lo)).take (sIx items.size items.size hi - sIx items.size 0 lo)).toArray.size ≤ sizeLine
    rw [List.size_toArray, List.length_take, List.length_drop, Array.length_toList]
    omega
  have hj : sIx items.size items.size hi ≤ items.size := sIx_le _ _ (Nat.le_refl _) hi
  obtain ⟨os, hos, hcs, hds⟩ := id hs
  have hTs : s.TypeIs (.ref sl) "slice" := ⟨os, hos, hcs⟩
  unfold getItem
  try with_reducible refine wpAny_holding ?_
  first | refine wpAny_bind (wpAny_pure ?_) | skip
  refine wpAny_bind (wpAny_sequenceKey ht.typeIs (by decide) ?_)
  refine wpAny_bind (wpAny_callSpecial?_slot (name := Str.ofString "__getitem__") ht.typeIs PyProof.Rows.slot_tuple_getitem
    (wpAny_call_entry PyProof.Rows.slot_tuple_getitem ht.typeIs entry_tuple_getitem ?_ (args_tuple_getitem _ _)))
  show wpAny _ _ (Builtin.Tuple.tupleItemsOf (.ref t) >>= _) _ _ s
  refine wpAny_bind (tupleItemsOf_ ht ?_)
  refine wpAny_bind (wpAny_typeOf hTs ?_)
  rw [if_pos (by decide)]
  refine wpAny_bind (sliceApplied_gen hs pl pu ?_)
  have hno : ¬ ((((sIx items.size 0 lo : Nat) : Int) == 0 && (1 : Int) == 1 && (sIx items.size items.size hi - sIx items.size 0 lo) == items.size) = true) := by
    intro q
    rw [Bool.and_eq_true, Bool.and_eq_true] at q
    have q1 : ((sIx items.size 0 lo : Nat) : Int) = 0 := eq_of_beq q.1.1
    have q2 : sIx items.size items.size hi - sIx items.size 0 lo = items.size := eq_of_beq q.2
    exact hw ⟨by omega, by omega⟩
  show wpAny _ _ (if (((sIx items.size 0 lo : Nat) : Int) == 0 && (1 : Int) == 1 && (sIx items.size items.size hi - sIx items.size 0 lo) == items.size) = true then _ else _) _ _ s
  rw [if_neg hno, pick_gen]
  first
    | exact wpAny_bind (m := Builtin.Tuple.tupleExact _) (wpAny_newObj_type (wpAny_pure ⟨_, rfl, wpAny_pure h⟩) htake)
    | exact wpAny_bind (m := Builtin.Tuple.tupleExact _) (wpAny_newObj_type (wpAny_bind (wpAny_pure (wpAny_pure ⟨_, rfl, wpAny_pure h⟩))) htake)
    | exact wpAny_bind (wpAny_bind (m := Builtin.Tuple.tupleExact _) (wpAny_newObj_type (wpAny_pure (wpAny_pure ⟨_, rfl, wpAny_pure h⟩)) htake))
    | exact wpAny_bind (wpAny_bind (m := Builtin.Tuple.tupleExact _) (wpAny_newObj_type (wpAny_pure ⟨_, rfl, wpAny_pure h⟩) htake))
end
end HT

namespace L2
open PySem PySem.Spec PyProof.Rows

/-! ### the parts of a slice -/
abbrev TO := St → Hp → (Option Int → Hp → Prop) → Prop
/-- a slice's part (left out, or an int) -/
def PO (X : Cx) (e : Option Expr) (t : TO) : Prop :=
  ∀ (pins : List (Addr × Obj)) (s : Shared) (σ : St) (H : Hp) (Q : Option Int → Hp → Prop), Inv X pins σ H s → t σ H Q →
    wpAny (model X.prog X.w) X.A (evalPart e X.env) (fun u s' => ∃ o H', Inv X pins σ H' s' ∧ IsPart u o ∧ Q o H') X.xe s
def tNoPart : TO := fun _ H Q => Q none H
inductive tPart_ (Q : Option Int → Hp → Prop) (x : V) (H1 : Hp) : Prop where
  | mk (i : _) (h1 : x = .int i) (h2 : Q (some i) H1) : tPart_ Q x H1
def tPart (t : TE) : TO := fun σ H Q => t σ H fun x H1 => tPart_ Q x H1

section
variable {X : Cx} {e : Expr} {te : TE} {lo hi : Option Expr} {tl th : TO} {pos p2 : Pos}

theorem po_none : PO X none tNoPart := by
  intro pins s σ H Q I h
  rw [evalPart_none]
  exact wpAny_pure ⟨none, H, I, .none, h⟩
theorem po_some (h : PE X e te) : PO X (some e) (tPart te) := by
  intro pins s σ H Q I hw
  rw [evalPart_some]
  refine thn (h pins s σ H _ I hw) fun u s1 ⟨x, H1, I1, r1, q1⟩ => ?_
  obtain ⟨i, rfl, q⟩ := q1
  obtain ⟨t, rfl⟩ := r1
  exact ⟨some i, H1, I1, .int i t, q⟩

/-- what a slice of a value is, by values: the slice object stands at sl -/
def SlR (X : Cx) (r : V → Option Int → Option Int → Hp → VK → Prop) : Prop :=
  ∀ (pins : List (Addr × Obj)) (s : Shared) (σ : St) (H : Hp) (x : V) (v vl vu : Value) (lo hi : Option Int) (sl : Addr) (Q : VK), Inv X pins σ H s → RelV x v → s.heap.IsSliceOf sl vl vu .none → IsPart vl lo → IsPart vu hi → r x lo hi H Q →
    ∃ T id, typeLookup (.type T) "__getitem__" = pure (some (.builtin id)) ∧ s.TypeIs v T ∧ wpAny (model X.prog X.w) X.A (getItem v (.ref sl)) (EP X pins σ Q) X.xe s
def tSl (r : V → Option Int → Option Int → Hp → VK → Prop) (te : TE) (tl th : TO) : TE := fun σ H Q => te σ H fun x H1 => tl σ H1 fun l H2 => th σ H2 fun u H3 => r x l u H3 Q
/-- a[lo:hi], any a -/
theorem pe_slice {r : V → Option Int → Option Int → Hp → VK → Prop} (hr : SlR X r) (he : PE X e te) (hl : PO X lo tl) (hu : PO X hi th) : PE X (.Subscript e (.Slice lo hi none p2) pos) (tSl r te tl th) := by
  intro pins s σ H Q I h
  refine Subscript_ (thn (he pins s σ H _ I h) fun v s1 ⟨x, H1, I1, r1, q1⟩ => ?_)
  refine wpAny_Slice (thn (hl pins s1 σ H1 _ I1 q1) fun vl s2 ⟨l, H2, I2, pl, q2⟩ => thn (hu pins s2 σ H2 _ I2 q2) fun vu s3 ⟨u, H3, I3, pu, q3⟩ => ?_)
  rw [evalPart_none]
  refine wpAny_pure ?_
  have I4 : Inv X pins σ H3 { s3 with heap := s3.heap.push { cls := .type "slice", data := .fields #[vl, vu, .none] } } := I3.kept (t' := s3.toks) fun b ob q => Heap.get?_push_of_some _ q
  obtain ⟨T, id, hT, ht, hg⟩ := hr pins { s3 with heap := s3.heap.push { cls := .type "slice", data := .fields #[vl, vu, .none] } } σ H3 x v vl vu l u s3.heap.objs.size Q I4 r1 (Heap.IsSliceOf.new ..) pl pu q3
  show wpAny (model X.prog X.w) X.A (subscriptTail e (.Slice lo hi none p2) v (.ref s3.heap.objs.size)) (EP X pins σ Q) X.xe { s3 with heap := s3.heap.push { cls := .type "slice", data := .fields #[vl, vu, .none] } }
  exact tail_any (ops := [.ref s3.heap.objs.size, v]) ht hT hg (by with_unfolding_all rfl)

/-- the items of xs[lo:hi] -/
def cutV (xs : List V) (lo hi : Option Int) : List V := (xs.drop (HT.sIx xs.length 0 lo)).take (HT.sIx xs.length xs.length hi - HT.sIx xs.length 0 lo)
theorem cutV_length (xs : List V) (lo hi : Option Int) : (cutV xs lo hi).length ≤ xs.length := by
  unfold cutV
  rw [List.length_take, List.length_drop]
  omega
/-- t[lo:hi], not the whole of it (the whole would be t itself) -/
inductive rSlT (K : PySem.W.Frag) (x : V) (lo : Option Int) (hi : Option Int) (H : Hp) (Q : VK) : Prop where
  | mk (a : _) (xs : _) (h1 : x = .ref a) (h2 : SqT K H a xs) (h3 : ¬ (HT.sIx xs.length 0 lo = 0 ∧ HT.sIx xs.length xs.length hi = xs.length)) (h4 : ∀ p, H p = none → Q (.ref p) (upd H p (.tup (cutV xs lo hi)))) : rSlT K x lo hi H Q
theorem sl_tup : SlR X (rSlT X.K) := by
  intro pins s σ H x v vl vu lo hi sl Q I rx hs pl pu h
  obtain ⟨a, xs, rfl, hx, hw, q⟩ := h
  cases rx
  obtain ⟨its, r, ht, hz⟩ := I.tuple hx
  have hlen : its.toArray.size = xs.length := by rw [List.size_toArray]; exact r.length.symm
  refine ⟨"tuple", _, PyProof.Rows.slot_tuple_getitem.lookup, ht.typeIs, ?_⟩
  refine HT.getItem_tuple_cut ht hs pl pu (by rw [hlen]; exact hw) ?_ (by rw [hlen]; exact hz)
  rw [hlen]
  refine ⟨.ref s.heap.objs.size, _, I.laid (t' := s.toks) (o := .tup (cutV xs lo hi)) (fun b ob q => Heap.get?_push_of_some _ q) (Nat.le_refl _) ?_, rfl, q _ (I.hok.fresh (Nat.le_refl _))⟩
  exact ⟨Nat.le_trans (cutV_length xs lo hi) hz, _, (r.drop (HT.sIx xs.length 0 lo)).take (HT.sIx xs.length xs.length hi - HT.sIx xs.length 0 lo), IsTup.new _ _⟩

/-! ### t < u, t + u -/
/-- t + u, t not empty: u empty gives t itself -/
def rCatT (K : PySem.W.Frag) : R2 := fun x y H Q => ∃ a b xs ys, x = .ref a ∧ y = .ref b ∧ SqT K H a xs ∧ SqT K H b ys ∧ xs ≠ [] ∧ xs.length + ys.length ≤ sizeLine ∧
  (ys = [] → Q (.ref a) H) ∧ (ys ≠ [] → ∀ p, H p = none → Q (.ref p) (upd H p (.tup (xs ++ ys))))
theorem Vals.nil_iff {xs : List V} {us : List Value} (r : Vals xs us) : us = [] ↔ xs = [] := by
  cases r with
  | nil => simp
  | cons _ _ => simp
theorem op_catT : OpR X (binaryOp .Add) (rCatT X.K) := by
  intro pins s σ H x y v u Q I rx ry h
  obtain ⟨a, b, xs, ys, rfl, rfl, ha, hb, hx, hz, q1, q2⟩ := h
  cases rx
  cases ry
  obtain ⟨its, r1, p1, _⟩ := I.tuple ha
  obtain ⟨its2, r2, p2, _⟩ := I.tuple hb
  refine HT.cat_tup p1 p2 (fun z => hx (r1.nil_iff.mp z)) (fun z => ⟨.ref a, H, I, rfl, q1 (r2.nil_iff.mp z)⟩) (fun z => ?_) (by rw [← r1.length, ← r2.length]; exact hz)
  refine ⟨.ref s.heap.objs.size, _, I.laid (t' := s.toks) (o := .tup (xs ++ ys)) (fun b ob q => Heap.get?_push_of_some _ q) (Nat.le_refl _) ?_, rfl, q2 (fun w => z (r2.nil_iff.mpr w)) _ (I.hok.fresh (Nat.le_refl _))⟩
  exact ⟨by rw [List.length_append]; exact hz, _, r1.append r2, IsTup.new _ _⟩
end
end L2

namespace L2
open PySem PySem.Spec PyProof.Rows

/-! ### places -/
/-- the place that an index of any sign means -/
def ixN (n : Nat) (i : Int) : Option Nat := if 0 ≤ i then (if i < n then some i.toNat else none) else if -(n : Int) ≤ i then some (i + n).toNat else none
def atI {α : Type} (xs : List α) (i : Int) : Option α := (ixN xs.length i).bind fun j => xs[j]?
theorem ixN_seq {n : Nat} {i : Int} {j : Nat} (h : ixN n i = some j) : seqIndex? i n = some j ∧ j < n ∧ -(n : Int) ≤ i ∧ i < n := by
  unfold ixN at h
  by_cases h0 : 0 ≤ i
  · rw [if_pos h0] at h
    by_cases h1 : i < n
    · rw [if_pos h1] at h
      have e : i.toNat = j := Option.some.inj h
      exact ⟨by rw [seqIndex_of h0 h1, e], by omega, by omega, h1⟩
    · rw [if_neg h1] at h; cases h
  · rw [if_neg h0] at h
    by_cases h1 : -(n : Int) ≤ i
    · rw [if_pos h1] at h
      have e : (i + n).toNat = j := Option.some.inj h
      exact ⟨by rw [seqIndex_neg (by omega) h1, e], by omega, h1, by omega⟩
    · rw [if_neg h1] at h; cases h
theorem atI_get {α : Type} {xs : List α} {i : Int} {v : α} (h : atI xs i = some v) : ∃ j, seqIndex? i xs.length = some j ∧ xs[j]? = some v ∧ j < xs.length ∧ -(xs.length : Int) ≤ i ∧ i < xs.length := by
  unfold atI at h
  cases e : ixN xs.length i with
  | none => rw [e] at h; cases h
  | some j =>
    rw [e] at h
    obtain ⟨h1, h2, h3, h4⟩ := ixN_seq e
    exact ⟨j, h1, h, h2, h3, h4⟩
theorem atI_nat {α : Type} {xs : List α} {j : Nat} {v : α} (h : xs[j]? = some v) : atI xs (j : Int) = some v := by
  have hj : j < xs.length := (List.getElem?_eq_some_iff.mp h).1
  have e : ixN xs.length (j : Int) = some j := by
    unfold ixN
    rw [if_pos (by omega), if_pos (by omega)]; simp
  unfold atI; rw [e]; exact h
/-! ### what may be subscripted -/
/-- what stands as an index of a plain subscript -/
def PlainIx (b : Expr) : Prop := ∀ o i, subscripted b false o i = operate [o, i] (getItem o i)
/-- a subscript by values -/
def IxR (X : Cx) (r : R2) : Prop :=
  ∀ (value slice : Expr) (pins : List (Addr × Obj)) (s : Shared) (σ : St) (H : Hp) (x y : V) (v u : Value) (Q : VK), Inv X pins σ H s → RelV x v → RelV y u → r x y H Q →
    subscripted slice false v u = operate [v, u] (getItem v u) → wpAny (model X.prog X.w) X.A (subscriptTail value slice v u) (EP X pins σ Q) X.xe s
/-- a call of a builtin's method by values: the receiver, the arguments -/
def MtR (X : Cx) (id : String) (r : V → List V → Hp → VK → Prop) : Prop :=
  ∀ (pins : List (Addr × Obj)) (s : Shared) (σ : St) (H : Hp) (x : V) (xs : List V) (v : Value) (us : List Value) (Q : VK), Inv X pins σ H s → RelV x v → Vals xs us → r x xs H Q →
    wpAny (model X.prog X.w) X.A (call (.builtin id) (v :: us)) (EP X pins σ Q) X.xe s
section
variable {X : Cx} {a b : Expr} {ta tb : TE} {pos : Pos}
theorem IxR.or {r r' : R2} (h : IxR X r) (h' : IxR X r') : IxR X (fun x y H Q => r x y H Q ∨ r' x y H Q) := by
  intro value slice pins s σ H x y v u Q I rx ry q hs
  rcases q with q | q
  · exact h value slice pins s σ H x y v u Q I rx ry q hs
  · exact h' value slice pins s σ H x y v u Q I rx ry q hs
/-- a[b] -/
theorem pe_ix {r : R2} (hr : IxR X r) (ha : PE X a ta) (hb : PE X b tb) (hs : PlainIx b) : PE X (.Subscript a b pos) (tOp r ta tb) := by
  intro pins s σ H Q I h
  exact Subscript_ (binT ha hb I h fun v u s2 x y H2 I2 rx ry q => hr a b pins s2 σ H2 x y v u Q I2 rx ry q (hs _ _))

inductive rIxL (K : PySem.W.Frag) (x : V) (y : V) (H : Hp) (Q : VK) : Prop where
  | mk (p : _) (xs : _) (i : _) (v : _) (h1 : x = .ref p) (h2 : y = .int i) (h3 : SqL K H p xs) (h4 : atI xs i = some v) (h5 : Q v H) : rIxL K x y H Q
inductive rIxT (K : PySem.W.Frag) (x : V) (y : V) (H : Hp) (Q : VK) : Prop where
  | mk (p : _) (xs : _) (i : _) (v : _) (h1 : x = .ref p) (h2 : y = .int i) (h3 : SqT K H p xs) (h4 : atI xs i = some v) (h5 : Q v H) : rIxT K x y H Q
theorem ix_list : IxR X (rIxL X.K) := by
  intro value slice pins s σ H x y v u Q I rx ry h hs
  obtain ⟨p, xs, i, z, rfl, rfl, hq, he, q⟩ := h
  cases rx
  obtain ⟨t, rfl⟩ := ry
  obtain ⟨its, r, pl, hz⟩ := I.list hq
  obtain ⟨j, h1, h2, h3, h4, h5⟩ := atI_get he
  obtain ⟨w, ew, rw'⟩ := r.get h2
  have hl := r.length
  have hn := line63
  have fin : EP X pins σ Q w s := ⟨z, H, I, rw', q⟩
  by_cases h0 : 0 ≤ i
  · have hj : i.toNat = j := by
      rw [seqIndex_of h0 h5] at h1
      exact Option.some.inj h1
    exact item_listR pl.isList h0 (by omega) (by rw [hj]; simpa using ew) fin hs
  · have hj : (i + (its.toArray.size : Int)).toNat = j := by
      rw [seqIndex_neg (by omega) h4] at h1
      rw [List.size_toArray, ← hl]
      exact Option.some.inj h1
    exact subscriptTail_builtinR (x := w) pl.isList.typeIs slot_list_getitem.lookup
      (wpAny_getItem_list_neg (Q := fun r s' => r = w ∧ EP X pins σ Q r s') pl.isList (by omega) (by rw [List.size_toArray] <;> omega) (by omega) (by rw [hj]; simpa using ew) ⟨rfl, fin⟩) hs
theorem ix_tup : IxR X (rIxT X.K) := by
  intro value slice pins s σ H x y v u Q I rx ry h hs
  obtain ⟨p, xs, i, z, rfl, rfl, hq, he, q⟩ := h
  cases rx
  obtain ⟨t, rfl⟩ := ry
  obtain ⟨its, r, pl, hz⟩ := I.tuple hq
  obtain ⟨j, h1, h2, h3, h4, h5⟩ := atI_get he
  obtain ⟨w, ew, rw'⟩ := r.get h2
  have hl := r.length
  have hn := line63
  have fin : EP X pins σ Q w s := ⟨z, H, I, rw', q⟩
  exact subscriptTail_builtinR (x := w) pl.typeIs slot_tuple_getitem.lookup
    (getItem_tuple (j := j) (Q := fun r s' => r = w ∧ EP X pins σ Q r s') pl (by omega) (by omega) (by rw [List.size_toArray, ← hl]; exact h1) (by simpa using ew) ⟨rfl, fin⟩) hs
/-! ### xs[i] = v, any sign -/
/-- the list's object behind a store -/
theorem mapSeq_set (its : List Value) (n j : Nat) (u : Value) : Obj.mapSeq (·.setIfInBounds j u) { cls := .type "list", data := .seq its.toArray n } = { cls := .type "list", data := .seq (its.set j u).toArray n } := by
  simp [Obj.mapSeq]
theorem Inv.lst {pins : List (Addr × Obj)} {σ : St} {H : Hp} {s : Shared} {p : Addr} {xs : List V} (I : Inv X pins σ H s) (h : H p = some (.lst xs)) :
    ∃ (its : List Value) (n : Nat), Vals xs its ∧ s.heap.get? p = some { cls := .type "list", data := .seq its.toArray n } ∧ xs.length ≤ sizeLine := by
  obtain ⟨z, its, n, r, e⟩ := I.hok p _ h
  exact ⟨its, n, r, e, z⟩
/-- the list at p is written by an update of its object -/
theorem Inv.lstUpd {pins : List (Addr × Obj)} {σ : St} {H : Hp} {s : Shared} {p : Addr} {xs ys : List V} {its its' : List Value} {n n' : Nat} {f : Obj → Obj} (I : Inv X pins σ H s) (h : H p = some (.lst xs))
    (ho : s.heap.get? p = some { cls := .type "list", data := .seq its.toArray n }) (hf : f { cls := .type "list", data := .seq its.toArray n } = { cls := .type "list", data := .seq its'.toArray n' }) (r : Vals ys its') (hz : ys.length ≤ sizeLine) (t : Nat) :
    Inv X pins σ (upd H p (.lst ys)) { s with heap := s.heap.update p f, toks := t } := by
  have e : (s.heap.update p f).get? p = some { cls := .type "list", data := .seq its'.toArray n' } := by
    rw [Heap.get?_update_self f ho (by rw [hf] <;> rfl), hf]
  refine I.write (x := p) (e := p) (by rw [h]; trivial) (.inl rfl) (fun b u hb q => (Heap.get?_update_other _ _ (Ne.symm hb)).trans q) ⟨_, e⟩ ?_
  exact ⟨hz, its', n', r, e⟩
inductive rSetL (o : V) (i : V) (v : V) (H : Hp) (Q : (Hp → Prop)) : Prop where
  | mk (p : _) (xs : _) (k : _) (j : _) (h1 : o = .ref p) (h2 : i = .int k) (h3 : H p = some (.lst xs)) (h4 : ixN xs.length k = some j) (h5 : Q (upd H p (.lst (xs.set j v)))) : rSetL o i v H Q
theorem set_list : PSet X rSetL := by
  intro pins s σ H o i v ov iv u Q I ro ri rv h
  obtain ⟨p, xs, k, j, rfl, rfl, hp, hj, q⟩ := h
  cases ro
  obtain ⟨t, rfl⟩ := ri
  obtain ⟨its, n, r, ho, hz⟩ := I.lst hp
  obtain ⟨h1, h2, h3, h4⟩ := ixN_seq hj
  have hl := r.length
  have hn := line63
  have I' : Inv X pins σ (upd H p (.lst (xs.set j v))) { s with heap := s.heap.update p (Obj.mapSeq (·.setIfInBounds j u)) } :=
    I.lstUpd hp ho (mapSeq_set its n j u) (r.set rv j) (by rw [List.length_set]; exact hz) s.toks
  by_cases h0 : 0 ≤ k
  · have hk : k.toNat = j := by
      rw [seqIndex_of h0 h4] at h1
      exact Option.some.inj h1
    exact PySem.W.ki_setAt ho h0 (by omega) (by rw [List.size_toArray, ← hl]; exact h4) (by rw [hk]; exact ⟨_, I', q⟩)
  · have hk : (k + (its.toArray.size : Int)).toNat = j := by
      rw [seqIndex_neg (by omega) h3] at h1
      rw [List.size_toArray, ← hl]
      exact Option.some.inj h1
    exact PySem.W.ki_setBack ho (by omega) (by rw [List.size_toArray, ← hl]; exact h3) (by omega) (by rw [hk]; exact ⟨_, I', q⟩)

/-! ### slices -/
theorem slice_bounds (lo hi : Option Int) (n : Nat) : (sliceBounds lo hi none n).1 = ((HT.sIx n 0 lo : Nat) : Int) ∧ (sliceBounds lo hi none n).2.1 = ((HT.sIx n n hi : Nat) : Int) ∧ (sliceBounds lo hi none n).2.2 = 1 := by
  refine ⟨?_, ?_, rfl⟩
  · cases lo with
    | none => simp [sliceBounds, HT.sIx]
    | some i =>
      simp only [sliceBounds, HT.sIx, Option.getD_none, show (1 : Int) > 0 by decide, if_true]
      by_cases h : i < 0
      · simp only [h, if_true] <;> omega
      · simp only [h, if_false] <;> omega
  · cases hi with
    | none => simp [sliceBounds, HT.sIx]
    | some i =>
      simp only [sliceBounds, HT.sIx, Option.getD_none, show (1 : Int) > 0 by decide, if_true]
      by_cases h : i < 0
      · simp only [h, if_true] <;> omega
      · simp only [h, if_false] <;> omega
theorem slicePick_cut (its : List Value) (lo hi : Option Int) : slicePick its.toArray lo hi none = ((its.drop (HT.sIx its.length 0 lo)).take (HT.sIx its.length its.length hi - HT.sIx its.length 0 lo)).toArray := by
  obtain ⟨h1, h2, h3⟩ := slice_bounds lo hi its.toArray.size
  unfold slicePick
  rw [h1, h2, h3]
  simp only [sliceRange_one, pick_run, List.size_toArray] <;> rfl
/-- xs[lo:hi] of a list: a new list -/
inductive rSlL (K : PySem.W.Frag) (x : V) (lo : Option Int) (hi : Option Int) (H : Hp) (Q : VK) : Prop where
  | mk (a : _) (xs : _) (h1 : x = .ref a) (h2 : SqL K H a xs) (h3 : ∀ p, H p = none → Q (.ref p) (upd H p (.lst (cutV xs lo hi)))) : rSlL K x lo hi H Q
theorem sl_list : SlR X (rSlL X.K) := by
  intro pins s σ H x v vl vu lo hi sl Q I rx hs pl pu h
  obtain ⟨a, xs, rfl, hx, q⟩ := h
  cases rx
  obtain ⟨its, r, ht, hz⟩ := I.list hx
  have hlen := r.length
  refine ⟨"list", _, slot_list_getitem.lookup, ht.isList.typeIs, ?_⟩
  refine wpAny_getItem_list_slice ht.isList hs pl pu .none (by simp) ?_ (by rw [List.size_toArray] <;> omega)
  rw [slicePick_cut, ← hlen]
  refine ⟨.ref s.heap.objs.size, _, I.laid (t' := s.toks) (o := .lst (cutV xs lo hi)) (fun b ob q => Heap.get?_push_of_some _ q) (Nat.le_refl _) ?_, rfl, q _ (I.hok.fresh (Nat.le_refl _))⟩
  exact ⟨Nat.le_trans (cutV_length xs lo hi) hz, _, 0, (r.drop (HT.sIx xs.length 0 lo)).take (HT.sIx xs.length xs.length hi - HT.sIx xs.length 0 lo), Heap.get?_push_size _ rfl⟩

/-! ### in, not in: flat items -/
/-! ### len, list(x), tuple(x) of any list or tuple that is read -/
inductive rLenS (K : PySem.W.Frag) (xs : List V) (H : Hp) (Q : VK) : Prop where
  | mk (p) (ys) (h1 : xs = [.ref p]) (h2 : SqL K H p ys ∨ SqT K H p ys) (h3 : Q (.int (ys.length : Nat)) H) : rLenS K xs H Q
theorem call_len_seq : CallR X (.builtin "len") (rLenS X.K) := by
  intro pins s σ H xs us Q I r h
  obtain ⟨p, ys, rfl, hq, q⟩ := h
  obtain ⟨u, rfl, rx⟩ := vals1 r
  cases rx
  have hn := line63
  rcases hq with hq | hq
  · obtain ⟨its, r', pl, hz⟩ := I.list hq
    have hlen := r'.length
    exact Calls.call_len_list pl.isList (by simp only [List.size_toArray] <;> omega) ⟨.int ys.length, H, I.tok _, ⟨s.toks + 1, by rw [List.size_toArray, hlen]⟩, q⟩
  · obtain ⟨its, r', pl, hz⟩ := I.tuple hq
    have hlen := r'.length
    exact len_tuple pl (by simp only [List.size_toArray] <;> omega) ⟨.int ys.length, H, I.tok _, ⟨s.toks + 1, by rw [List.size_toArray, hlen]⟩, q⟩
theorem call_list_of : CallR X (.type "list") (fun xs H Q => ∃ p ys, xs = [.ref p] ∧ (SqL X.K H p ys ∨ SqT X.K H p ys) ∧ ∀ l, H l = none → Q (.ref l) (upd H l (.lst ys))) := by
  intro pins s σ H xs us Q I r h
  obtain ⟨p, ys, rfl, hq, q⟩ := h
  obtain ⟨u, rfl, rx⟩ := vals1 r
  cases rx
  have fin : ∀ (its : List Value), Vals ys its → ys.length ≤ sizeLine → ∀ (h' : Heap) (c' : Nat), (∀ b o', s.heap.get? b = some o' → h'.get? b = some o') →
      h'.get? s.heap.objs.size = some { cls := .type "list", dict := none, data := .seq its.toArray c', slots := #[] } → EP X pins σ Q (.ref s.heap.objs.size) { s with heap := h' } := fun its r' hz h' c' kp e =>
    ⟨.ref s.heap.objs.size, _, I.laid (t' := s.toks) kp (Nat.le_refl _) (show ObjOk X.prog X.w _ h' _ (.lst ys) from ⟨hz, its, c', r', e⟩), rfl, q _ (I.hok.fresh (Nat.le_refl _))⟩
  rcases hq with hq | hq
  · obtain ⟨its, r', pl, hz⟩ := I.list hq
    have hlen := r'.length
    obtain ⟨o, ho, hc, n, hd⟩ := pl.isList
    exact call_list_seq p (.inl rfl) ho hc hd (fun h' c' kp e => fin its r' hz h' c' kp e) (by simp only [List.size_toArray] <;> omega)
  · obtain ⟨its, r', pl, hz⟩ := I.tuple hq
    have hlen := r'.length
    obtain ⟨o, ho, hc, n, hd⟩ := pl
    exact call_list_seq p (.inr rfl) ho hc hd (fun h' c' kp e => fin its r' hz h' c' kp e) (by simp only [List.size_toArray] <;> omega)
theorem call_tuple_of : CallR X (.type "tuple") (fun xs H Q => ∃ p ys, xs = [.ref p] ∧ ((SqL X.K H p ys ∧ ∀ l, H l = none → Q (.ref l) (upd H l (.tup ys))) ∨ (SqT X.K H p ys ∧ Q (.ref p) H))) := by
  intro pins s σ H xs us Q I r h
  obtain ⟨p, ys, rfl, h⟩ := h
  obtain ⟨u, rfl, rx⟩ := vals1 r
  cases rx
  rcases h with ⟨hq, q⟩ | ⟨hq, q⟩
  · obtain ⟨its, r', pl, hz⟩ := I.list hq
    have hlen := r'.length
    refine call_tuple_list pl.isList (fun h' kp => ?_) (by simp only [List.size_toArray] <;> omega)
    have I1 : Inv X pins σ H { s with heap := h' } := I.kept (t' := s.toks) kp
    have I2 : Inv X pins σ (upd H h'.objs.size (.tup ys)) { s with heap := h'.push { cls := .type "tuple", data := .seq its.toArray } } :=
      I1.laid (t' := s.toks) (fun b o e => Heap.get?_push_of_some _ e) (Nat.le_refl _) (show ObjOk X.prog X.w _ _ _ (.tup ys) from ⟨hz, its, r', IsTup.new _ _⟩)
    exact ⟨.ref h'.objs.size, _, I2, rfl, q _ (I1.hok.fresh (Nat.le_refl _))⟩
  · obtain ⟨its, r', pl, hz⟩ := I.tuple hq
    exact call_tuple_same pl ⟨.ref p, H, I, rfl, q⟩

/-! ### the call of a builtin's method: o.m(..) -/
/-- the value is of that builtin type -/
def tyV (K : PySem.W.Frag) (T : String) (x : V) (H : Hp) : Prop := match x with
  | .str _ => T = "str"
  | .int _ => T = "int"
  | .ref p => (T = "list" ∧ ∃ xs, SqL K H p xs) ∨ (T = "tuple" ∧ ∃ o, K.lookup p = some o ∧ o.cls = .type "tuple" ∧ o.dict = none) ∨
      (T = "dict" ∧ ((∃ kvs, H p = some (.dK kvs)) ∨ ∃ kvs, H p = some (.dT kvs))) ∨ (T = "set" ∧ ∃ S n, H p = some (.set S n))
  | _ => False
theorem tyV_is {pins : List (Addr × Obj)} {σ : St} {H : Hp} {s : Shared} {T : String} {x : V} {v : Value} (I : Inv X pins σ H s) (r : RelV x v) (ty : tyV X.K T x H) :
    s.TypeIs v T ∧ ∀ a, v = .ref a → ∃ ob, s.heap.get? a = some ob ∧ ob.dict = none := by
  cases x with
  | str z =>
    obtain ⟨t, rfl⟩ := r
    cases (show T = "str" from ty)
    exact ⟨typeIs_str s z t, fun _ e => nomatch e⟩
  | int i =>
    obtain ⟨t, rfl⟩ := r
    cases (show T = "int" from ty)
    exact ⟨typeIs_int s i t, fun _ e => nomatch e⟩
  | ref p =>
    cases r
    rcases ty with ⟨rfl, xs, hq⟩ | ⟨rfl, o, hk, hc, hd⟩ | ⟨rfl, hk⟩ | ⟨rfl, S, n, hk⟩
    · obtain ⟨its, _, pl, _⟩ := I.list hq
      refine ⟨pl.isList.typeIs, fun a e => ?_⟩
      cases e
      obtain ⟨o, n, e, c, hd, _⟩ := pl
      exact ⟨o, e, hd⟩
    · refine ⟨⟨o, I.kIn p o hk, hc⟩, fun a e => ?_⟩
      cases e
      exact ⟨o, I.kIn _ o hk, hd⟩
    · have z : ∃ o, s.heap.get? p = some o ∧ o.ExactDict := by
        rcases hk with ⟨kvs, hk⟩ | ⟨kvs, hk⟩
        · obtain ⟨_, _, _, _, o, _, _, e, ex, _⟩ := I.hok p _ hk
          exact ⟨o, e, ex⟩
        · obtain ⟨_, _, _, _, o, _, _, e, ex, _⟩ := I.hok p _ hk
          exact ⟨o, e, ex⟩
      obtain ⟨o, e, ex⟩ := z
      refine ⟨⟨o, e, ex.1⟩, fun a e2 => ?_⟩
      cases e2
      exact ⟨o, e, ex.2.1⟩
    · obtain ⟨o, _, _, _, e, ex, _⟩ := I.hok p _ hk
      refine ⟨⟨o, e, ex.1⟩, fun a e2 => ?_⟩
      cases e2
      exact ⟨o, e, ex.2.1⟩
  | _ => exact False.elim ty
inductive tBM_ (K : PySem.W.Frag) (T : String) (r : V → List V → Hp → VK → Prop) (t : TA) (σ : St) (Q : VK) (x : V) (H1 : Hp) : Prop where
  | mk (h1 : tyV K T x H1) (h2 : t σ H1 fun xs H2 => r x xs H2 Q) : tBM_ K T r t σ Q x H1
def tBM (K : PySem.W.Frag) (T : String) (r : V → List V → Hp → VK → Prop) (to : TE) (t : TA) : TE := fun σ H Q => to σ H fun x H1 => tBM_ K T r t σ Q x H1
variable {o e : Expr} {es : List Expr} {to : TE} {t : TA} {name : Str} {apos cpos : Pos} {T id : String} {r : V → List V → Hp → VK → Prop}
theorem pe_bm (pa : PlainAttrs T) (slot : Slot T name id) (hty : typeOf (.builtin id) = pure (.type "method_descriptor")) (hm : MtR X id r) (ho : PE X o to) (ha : PA X (e :: es) t)
    (hbase : attributeBase o name X.env (eval o X.env) = eval o X.env := by rfl)
    (hfew : ((backTo cpos (starEach (e :: es) X.env)).all (fun x => !x.1) && (backToKw cpos (keywordEach [] X.env)).all (fun x => x.1.isSome)
      && decide ((e :: es).length + ([] : List Keyword).length + (if ([] : List Keyword).isEmpty then 0 else 1) < 30)) = true := by rfl)
    (hline : (apos.endLine == cpos.line) = true := by rfl) (hs : starEach (e :: es) X.env = (false, eval e X.env) :: starEach es X.env := by rfl) (hplain : (backTo cpos (starEach es X.env)).any (·.1) = false := by rfl) :
    PE X (.Call (.Attribute o name apos) (e :: es) [] cpos) (tBM X.K T r to t) := by
  intro pins s σ H Q I h
  refine wpAny_Call_method_late hbase hfew hline rfl (thn (ho pins s σ H _ I h) fun v s1 ⟨x, H1, I1, r1, ty, q1⟩ => ?_)
  obtain ⟨h1, h2⟩ := tyV_is I1 r1 ty
  refine ⟨T, id, pa, slot, hty, h1, h2, ?_⟩
  have hA := ha cpos pins s1 σ H1 _ I1 q1
  rw [hs] at hA ⊢
  refine Calls.callWith_builtin (by show (false || (backTo cpos (starEach es X.env)).any (·.1)) = false; rw [hplain] <;> rfl) (Calls.evalArgs_plain ?_)
  exact thn hA fun us s2 ⟨vs, H2, I2, r2, q2⟩ => hm pins s2 σ H2 x vs v us Q I2 r1 r2 q2
/- xs.append(e), list.index on a module's tuple .. are MtR facts of 06m -/
end
end L2

namespace L2
open PySem PySem.Spec PyProof.Rows

def MtM (X : Cx) (id : String) (r : V → List V → Hp → VK → Prop) : Prop :=
  ∀ (pins : List (Addr × Obj)) (s : Shared) (σ : St) (H : Hp) (x : V) (xs : List V) (v : Value) (us : List Value) (Q : VK), Inv X pins σ H s → RelV x v → Vals xs us → r x xs H Q →
    wpAny (model X.prog X.w) X.A (call (.builtin id) (v :: us)) (EP X pins σ Q) X.xe s

/-! ### lists of values -/
theorem Vals.one : ∀ {x : V} {us : List Value}, Vals [x] us → ∃ u, us = [u] ∧ RelV x u
  | _, _, .cons r .nil => ⟨_, rfl, r⟩
theorem Vals.reverse {xs : List V} {us : List Value} (h : Vals xs us) : Vals xs.reverse us.reverse := by
  induction h with
  | nil => exact .nil
  | cons r t ih => rw [List.reverse_cons, List.reverse_cons]; exact Vals.append ih (.cons r .nil)
theorem Vals.rep {xs : List V} {us : List Value} (h : Vals xs us) : ∀ k : Nat, Vals (List.replicate k xs).flatten (List.replicate k us).flatten
  | 0 => .nil
  | k + 1 => by
    rw [List.replicate_succ, List.replicate_succ, List.flatten_cons, List.flatten_cons]
    exact Vals.append h (Vals.rep h k)
theorem foldl_rep (its : List Value) : ∀ (k : Nat) (acc : List Value),
    List.foldl (fun x1 x2 => x1 ++ x2) acc.toArray (List.replicate k its.toArray) = (acc ++ (List.replicate k its).flatten).toArray
  | 0, acc => by simp
  | k + 1, acc => by
    have e : acc.toArray ++ its.toArray = (acc ++ its).toArray := by simp
    have e2 : (acc ++ its) ++ (List.replicate k its).flatten = acc ++ (List.replicate (k + 1) its).flatten := by
      rw [List.replicate_succ, List.flatten_cons, List.append_assoc]
    rw [← e2, ← foldl_rep its k (acc ++ its), ← e, List.replicate_succ, List.foldl_cons]

section
variable {X : Cx} {pins : List (Addr × Obj)} {σ : St} {H : Hp} {s : Shared} {l b : Addr} {xs ys zs : List V}

/-! ### the two steps: a tracked list is rewritten, a new list is laid -/
theorem Inv.lset {its its' : List Value} {n : Nat} {f : Array Value → Array Value} {t' : Nat} (I : Inv X pins σ H s) (hH : H l = some (.lst xs))
    (e : s.heap.get? l = some { cls := .type "list", data := .seq its.toArray n }) (hf : f its.toArray = its'.toArray) (hv : Vals ys its') (hz : ys.length ≤ sizeLine) :
    Inv X pins σ (upd H l (.lst ys)) { s with heap := s.heap.update l (Obj.mapSeq f), toks := t' } := by
  have q := PySem.IsL.update e f
  rw [hf] at q
  refine I.write (x := l) (e := l) (by rw [hH]; exact trivial) (.inl rfl) (fun b' u hb hu => (Heap.get?_update_other s.heap (Obj.mapSeq f) (Ne.symm hb)).trans hu) ⟨_, q⟩ ?_
  exact ⟨hz, its', _, hv, q⟩
theorem Inv.lnew {its : List Value} {t' : Nat} (I : Inv X pins σ H s) (hv : Vals ys its) (hz : ys.length ≤ sizeLine) :
    Inv X pins σ (upd H s.heap.objs.size (.lst ys)) { s with heap := s.heap.push { cls := .type "list", data := .seq its.toArray }, toks := t' } :=
  I.laid (fun _ _ q => Heap.get?_push_of_some _ q) (Nat.le_refl _) ⟨hz, its, 0, hv, Heap.get?_push_size _ rfl⟩
theorem Inv.fresh (I : Inv X pins σ H s) : H s.heap.objs.size = none := I.hok.fresh (Nat.le_refl _)
theorem Inv.lstM (I : Inv X pins σ H s) (hH : H l = some (.lst xs)) : xs.length ≤ sizeLine ∧ ∃ (its : List Value) (n : Nat), Vals xs its ∧ xs.length = its.length ∧ s.heap.get? l = some { cls := .type "list", data := .seq its.toArray n } := by
  obtain ⟨z, its, n, r, e⟩ := I.hok l _ hH
  exact ⟨z, its, n, r, r.length, e⟩

theorem notLongL {n : Nat} (h : n ≤ sizeLine) : Builtin.List.listTooLong n = false := by
  unfold Builtin.List.listTooLong
  exact decide_eq_false (by omega)
end

section
variable {X : Cx}

/-! ### methods -/
inductive rAppend (x : V) (vs : List V) (H : Hp) (Q : VK) : Prop where
  | mk (l : _) (xs : _) (y : _) (h1 : x = .ref l) (h2 : vs = [y]) (h3 : H l = some (.lst xs)) (h4 : xs.length < sizeLine) (h5 : Q .non (upd H l (.lst (xs ++ [y])))) : rAppend x vs H Q
theorem mt_append : MtM X "list.append" rAppend := by
  intro pins s σ H x vs v us Q I rx rv h
  obtain ⟨l, xs, y, rfl, rfl, hH, hz, q⟩ := h
  cases rx
  obtain ⟨u, rfl, ru⟩ := rv.one
  obtain ⟨z, its, n, r, hl, e⟩ := I.lstM hH
  refine call_meets F.slot_list_append ⟨_, e, rfl⟩ F.entry_list_append (F.args_list_append_2 _ _) (PySem.list_append l its.toArray n u (by rw [List.size_toArray]; omega)) ⟨e, ?_⟩
  refine ⟨.non, _, I.lset (its' := its ++ [u]) hH e (by simp) (r.append (.cons ru .nil)) ?_, rfl, q⟩
  rw [List.length_append, List.length_singleton]
  omega

inductive rExtend (x : V) (vs : List V) (H : Hp) (Q : VK) : Prop where
  | mk (l : _) (b : _) (xs : _) (zs : _) (h1 : x = .ref l) (h2 : vs = [.ref b]) (h3 : H l = some (.lst xs)) (h4 : H b = some (.lst zs)) (h5 : xs.length + zs.length ≤ sizeLine) (h6 : Q .non (upd H l (.lst (xs ++ zs)))) : rExtend x vs H Q
theorem mt_extend : MtM X "list.extend" rExtend := by
  intro pins s σ H x vs v us Q I rx rv h
  obtain ⟨l, b, xs, zs, rfl, rfl, hH, hB, hz, q⟩ := h
  cases rx
  obtain ⟨u, rfl, ru⟩ := rv.one
  cases ru
  obtain ⟨z, its, n, r, hl, e⟩ := I.lstM hH
  obtain ⟨z2, its2, n2, r2, hl2, e2⟩ := I.lstM hB
  have hsz : its.toArray.size + its2.toArray.size ≤ sizeLine := by rw [List.size_toArray, List.size_toArray]; omega
  have hlong : ¬ (!its.toArray.isEmpty && Builtin.List.listTooLong (its.toArray.size + its2.toArray.size)) = true := by
    rw [notLongL hsz, Bool.and_false]
    exact Bool.false_ne_true
  refine call_meets F.slot_list_extend ⟨_, e, rfl⟩ F.entry_list_extend (F.args_list_extend_2 _ _)
    (AutoSeq1.list_extend_list_list_0 l its.toArray n b its2.toArray n2 hlong (by rw [List.size_toArray]; omega) (by omega)) ⟨e, e2, ?_⟩
  refine ⟨.non, _, I.lset (its' := its ++ its2) hH e (by simp) (r.append r2) ?_, rfl, q⟩
  rw [List.length_append]
  omega

/-! ### list + list, list += list, list * int -/
inductive rCat (x : V) (y : V) (H : Hp) (Q : VK) : Prop where
  | mk (l : _) (b : _) (xs : _) (zs : _) (h1 : x = .ref l) (h2 : y = .ref b) (h3 : H l = some (.lst xs)) (h4 : H b = some (.lst zs)) (h5 : xs.length + zs.length ≤ sizeLine) (h6 : ∀ p, H p = none → Q (.ref p) (upd H p (.lst (xs ++ zs)))) : rCat x y H Q
theorem op_cat : OpR X (binaryOp .Add) rCat := by
  intro pins s σ H x y v u Q I rx ry h
  obtain ⟨l, b, xs, zs, rfl, rfl, hH, hB, hz, q⟩ := h
  cases rx
  cases ry
  obtain ⟨z, its, n, r, hl, e⟩ := I.lstM hH
  obtain ⟨z2, its2, n2, r2, hl2, e2⟩ := I.lstM hB
  refine PySem.P.add_list e e2 ?_ (by rw [List.size_toArray, List.size_toArray]; omega)
  have ea : its.toArray ++ its2.toArray = (its ++ its2).toArray := by simp
  rw [ea]
  exact ⟨.ref _, _, I.lnew (t' := s.toks) (r.append r2) (by rw [List.length_append]; omega), rfl, q _ I.fresh⟩
/-- a list times an int (a negative one is nothing) -/
inductive rRep (x : V) (y : V) (H : Hp) (Q : VK) : Prop where
  | mk (l : _) (k : _) (xs : _) (h1 : x = .ref l) (h2 : y = .int k) (h3 : H l = some (.lst xs)) (h4 : -(2 ^ 63) ≤ k) (h5 : k < 2 ^ 63) (h6 : xs.length * k.toNat ≤ sizeLine) (h7 : ∀ p, H p = none → Q (.ref p) (upd H p (.lst (List.replicate k.toNat xs).flatten))) : rRep x y H Q
theorem len_rep {α : Type} (xs : List α) (k : Nat) : (List.replicate k xs).flatten.length = k * xs.length := by
  induction k with
  | zero => simp
  | succ k ih => rw [List.replicate_succ, List.flatten_cons, List.length_append, ih, Nat.succ_mul, Nat.add_comm]
theorem op_rep : OpR X (binaryOp .Mult) rRep := by
  intro pins s σ H x y v u Q I rx ry h
  obtain ⟨l, k, xs, rfl, rfl, hH, h1, h2, hz, q⟩ := h
  cases rx
  obtain ⟨t, rfl⟩ := ry
  obtain ⟨z, its, n, r, hl, e⟩ := I.lstM hH
  have hlen : its.toArray.size * k.toNat ≤ sizeLine := by rw [List.size_toArray, ← hl]; exact hz
  have hcap : ¬ its.toArray.size * k.toNat > (2 ^ 63 - 1) / 8 := by
    have : (sizeLine : Nat) ≤ (2 ^ 63 - 1) / 8 := by decide
    omega
  have hfit : ¬ (!Builtin.List.listFitsIndex k) = true := by
    rw [fitsIndex_both h1 h2]
    exact Bool.false_ne_true
  have hlong : ¬ Builtin.List.listTooLong (its.toArray.size * k.toNat) = true := by
    rw [notLongL hlen]
    exact Bool.false_ne_true
  have hnew : List.foldl (fun x1 x2 => x1 ++ x2) #[] (List.replicate (if its.toArray.isEmpty = true then 0 else k.toNat) its.toArray) = (List.replicate k.toNat its).flatten.toArray := by
    have f0 : ∀ m : Nat, List.foldl (fun x1 x2 => x1 ++ x2) #[] (List.replicate m its.toArray) = (List.replicate m its).flatten.toArray := fun m => by
      have := foldl_rep its m []
      rw [List.nil_append] at this
      exact this
    rw [f0]
    cases its with
    | nil => simp
    | cons a r' => rw [if_neg (by simp)]
  refine wpAny_binaryOp_repeat_ref (T := "list") (U := "int") (by decide) ⟨_, e, rfl⟩ (fun s' => typeIs_int s' k t) noFill_list_mul F.fills_int_mul F.slot_int_rmul repeat_list F.slot_int_index.lookup
    (call_meets F.slot_int_rmul (typeIs_int s k t) F.entry_int_rmul (F.args_int_rmul_2 _ _) (int___rmul___int_list k t l its.toArray n)
      ⟨e, rfl, ⟨_, e, rfl⟩, call_meets F.slot_list_mul ⟨_, e, rfl⟩ F.entry_list_mul (F.args_list_mul_2 _ _) (AutoListH.list___mul___list_int_3 l its.toArray n k t hfit hcap hlong) ⟨e, ?_⟩⟩)
  rw [hnew]
  exact ⟨.ref _, _, I.lnew (t' := s.toks) (r.rep k.toNat) (by rw [len_rep, Nat.mul_comm]; exact hz), rfl, q _ I.fresh⟩

/-! ### del xs[i] -/
end

/-! ### xs[a:b] = ys -/
section
variable {prog : Program} {w : World} {A : Around} {E : Value → Shared → Prop} {s : Shared}
theorem bounds_run {a c n : Nat} (hac : a ≤ c) (hc : c ≤ n) : sliceBounds (some (a : Int)) (some (c : Int)) none n = ((a : Int), (c : Int), 1) := by
  simp only [sliceBounds, Option.getD_none]
  have h1 : ¬ ((a : Int) < 0) := by omega
  have h2 : ¬ ((c : Int) < 0) := by omega
  simp only [h1, h2, if_false, show (1 : Int) > 0 by decide, if_true]
  congr 1
  · omega
  · congr 1; omega
set_option maxRecDepth 100000 in
/-- list.__setitem__ with a slice of step one and another list -/
theorem setItem_slice {l b sl : Addr} {items new : Array Value} {n n2 : Nat} {vl vu : Value} {a c : Nat} {Q : Unit → Shared → Prop}
    (e : s.heap.get? l = some { cls := .type "list", data := .seq items n }) (e2 : s.heap.get? b = some { cls := .type "list", data := .seq new n2 }) (hne : l ≠ b)
    (hs : s.heap.IsSliceOf sl vl vu .none) (pl : IsPart vl (some (a : Int))) (pu : IsPart vu (some (c : Int))) (hac : a ≤ c) (hc : c ≤ items.size)
    (hsz : items.size + new.size ≤ sizeLine) (h : Q () { s with heap := s.heap.update l (Obj.mapSeq fun xs => xs.extract 0 a ++ new ++ xs.extract c xs.size) }) :
    wpAny (model prog w) A (setItem (.ref l) (.ref sl) (.ref b)) Q E s := by
  have hl : s.heap.IsList l items := PySem.IsL.isList e
  have hb : s.heap.IsList b new := PySem.IsL.isList e2
  obtain ⟨os, hos, hcs, hds⟩ := id hs
  have hTs : s.TypeIs (.ref sl) "slice" := ⟨os, hos, hcs⟩
  have hstep : ¬ ((rawPart none == rawInt 0) = true) := Bool.false_ne_true
  have hsame : Builtin.List.listSameRef (.ref l) (.ref b) = false := by
    unfold Builtin.List.listSameRef
    exact beq_eq_false_iff_ne.mpr hne
  have hmax : (max (a : Int) (c : Int)).toNat = c := by omega
  have hz' : ((fun xs : Array Value => xs.extract 0 a ++ new ++ xs.extract c xs.size) items).size ≤ sizeLine + 1 := by
    simp only [Array.size_append, Array.size_extract]
    omega
  unfold setItem
  try with_reducible refine wpAny_holding ?_
  first | refine wpAny_bind (wpAny_pure ?_) | skip
  refine wpAny_bind (wpAny_sequenceKey hl.typeIs (by decide) ?_)
  refine wpAny_bind (wpAny_callSpecial?_slot (name := Str.ofString "__setitem__") hl.typeIs slot_list_setitem
    (wpAny_call_entry slot_list_setitem hl.typeIs entry_list_setitem ?_ (args_list_setitem _ _ _)))
  show wpAny _ _ (Builtin.List.listSubscript? (.ref sl) >>= _) _ _ s
  refine wpAny_bind ?_
  unfold Builtin.List.listSubscript?
  refine wpAny_bind (wpAny_specialOf hTs slice_no_index ?_)
  simp only [Option.isNone_none, if_true]
  refine wpAny_pure ?_
  show wpAny _ _ (typeOf (.ref sl) >>= _) _ _ s
  refine wpAny_bind (wpAny_typeOf hTs ?_)
  first
    | rw [if_neg (by decide)]
    | refine PySem.W.KFB.if_not (by decide) ?_
  rw [listSliceParts_eq]
  refine wpAny_bind (wpAny_bind (wpAny_field hos hds (x := .none) rfl (wpAny_bind (wpAny_listPart .none ?_))))
  rw [if_neg hstep]
  refine wpAny_bind (wpAny_field hos hds (x := vl) rfl (wpAny_bind (wpAny_listPart pl ?_)))
  refine wpAny_bind (wpAny_field hos hds (x := vu) rfl (wpAny_bind (wpAny_listPart pu (wpAny_pure ?_))))
  first
    | simp only [hsame, Bool.false_eq_true, if_false]
    | refine PySem.W.KFB.if_not hsame ?_
    | (dsimp only
       rw [if_neg (by rw [hsame]; exact Bool.false_ne_true)])
  refine wpAny_bind (m := Builtin.List.listAllItems (.ref b) "must assign iterable to extended slice") ?_
  unfold Builtin.List.listAllItems
  refine wpAny_bind (wpAny_typeOf hb.typeIs ?_)
  first
    | refine PySem.W.KFB.if_so (by decide) ?_
    | rw [if_pos (by decide)]
    | simp only [beq_self_eq_true, Bool.true_or, if_true]
  unfold Builtin.List.listItems
  refine wpAny_bind (wpAny_seqItems e2 rfl (wpAny_pure ?_))
  refine wpAny_bind (wpAny_bind (wpAny_seqItems e rfl (wpAny_pure ?_)))
  refine wpAny_bind (wpAny_of_eq ((sliceIndices_raw (some (a : Int)) (some (c : Int)) none items.size (by simp)).trans (congrArg (pure : Int × Int × Int → Sem (Int × Int × Int)) (bounds_run hac hc))) ?_)
  show wpAny _ _ (if ((1 : Int) == 1) = true then _ else _) _ _ s
  rw [if_pos (by decide)]
  refine wpAny_bind (wpAny_rule ?_)
  first
    | simp only [notLongL hsz, Bool.false_eq_true, if_false]
    | refine PySem.W.KFB.if_not (notLongL hsz) ?_
  first | refine wpAny_bind (wpAny_pure ?_) | skip
  show wpAny _ _ (updateSeq l (fun xs => xs.extract 0 ((a : Int)).toNat ++ new ++ xs.extract (max (a : Int) (c : Int)).toNat xs.size) >>= _) _ _ s
  rw [hmax, Int.toNat_natCast]
  refine wpAny_bind (wpAny_updateSeq (hz := Nat.le_trans (Nat.le_add_right _ _) hsz) (_hz' := hz') e rfl ?_)
  refine wpAny_bind (wpAny_letGo ?_)
  first
    | exact wpAny_bind (wpAny_pure (wpAny_pure ⟨.none, rfl, wpAny_pure h⟩))
    | exact wpAny_pure ⟨.none, rfl, wpAny_pure h⟩
end

section
variable {X : Cx}
end
end L2

namespace Att
open PySem PySem.W PySem.Calls PyProof.Rows

/-! ### the script -/
theorem ints_of_wellAll {P : Params} {h : Heap} : ∀ (ns : List Int) (vs : List Value), WellAll P h vs (ns.map WData.int) → IntsAre vs ns := by
  intro ns
  induction ns with
  | nil =>
    intro vs w
    rw [List.map_nil] at w
    cases w
    exact .nil
  | cons n ns ih =>
    intro vs w
    rw [List.map_cons] at w
    cases w with
    | cons a b =>
      cases a
      exact .cons _ _ (ih _ b)

theorem script_of {l : OpenLaw} {n : Nat} (hn : l.most = some n) {P : Params} {h : Heap} {args : List WData} {vals : List Value}
    (hpre : l.row.toRowW.claim.pre args = true) (hwl : WellAll P h vals args) :
    ∃ a vs ns, vals = [Value.ref a] ∧ args = [WData.list (ns.map WData.int)] ∧ h.get? a = some { cls := .type "list", data := .seq vs.toArray } ∧ IntsAre vs ns ∧ ns.length ≤ n := by
  have hsh : WShape.hasAll [] args [.list .int] = true := (pre_splitW hpre).1
  have hc : l.pre.holds [] { args := args } = true := (pre_splitW hpre).2
  obtain ⟨d, r, rfl, h1, h2⟩ := hasAllW_cons hsh
  obtain rfl := hasAllW_nil h2
  obtain ⟨xs, rfl, h3⟩ := hasW_list h1
  obtain ⟨ns, rfl⟩ := items_int h3
  have hlen : ns.length ≤ n := by
    unfold OpenLaw.pre at hc
    have h4 : (WTm.not (.lt (.lit (.int (n : Int))) (.len (.arg 0)))).holds [] { args := [.list (ns.map .int)] } = true := by
      have h4 := (holds_andW hc).1
      rw [hn] at h4
      exact h4
    have h5 := condW_of h4 (w_not (w_lt w_lit (w_len_list (w_arg rfl))))
    rw [List.length_map] at h5
    refine Nat.le_of_not_lt fun q => ?_
    have q' : (n : Int) < ((ns.length : Nat) : Int) := by omega
    first
      | (rw [decide_eq_true q'] at h5; exact absurd h5 (by decide))
      | (simp at h5; omega)
  cases hwl with
  | cons w1 w2 =>
    cases w2
    cases w1 with
    | list ho hall => exact ⟨_, _, ns, rfl, rfl, ho, ints_of_wellAll ns _ hall, hlen⟩

theorem post_true (l : OpenLaw) (args : List WData) : l.row.toRowW.claim.post args (.bool true) args = true :=
  postW_of (r := l.row.toRowW) (X := (true == true))
    (show WShape.has [] (.bool true) .bool = true by first | rfl | decide | simp [WShape.has, WShape.arms, WShape.armsAll])
    (show (WTm.eq .res (.lit (.bool true))).value [] { args := args, res := some (.bool true), after := args } = some (.bool (true == true)) from w_eq_bool (w_res rfl) w_lit) rfl

/-! ### the attachment: holds_open's last premise (the goal 'hc' behind k_head) from a wpAny of the law's body -/
/-- the same from a codeAny of the CALL (for a layer whose function contracts speak of calls) -/
theorem attach_call {l : OpenLaw} {n : Nat} {q : Program} {loose : List Str} {XP : (Str → Option Value) → Heap → Prop} {YP : World → Heap → Prop} {d : DefRec}
    (hn : l.most = some n) (hdf : d.params.defaults = [])
    (call : ∀ (w : World) (s₀ s₁ : Shared) (mg mb : Str → Option Value) (fa : Addr) (o : Obj) (pm cd doc : Value) (a : Addr) (vs : List Value) (ns : List Int),
      Ground q loose [] XP w s₀ mg mb s₁.heap → YP w s₁.heap →
      s₁.heap.get? fa = some o → o.data = .func (docDef d.name d.params d.body d.scope pm cd doc) → s₁.heap.CodeRec cd d.name → mg d.name = some (.ref fa) →
      s₁.heap.get? a = some { cls := .type "list", data := .seq vs.toArray } → IntsAre vs ns → ns.length ≤ n → s₁.gens = #[] →
      codeAny (model l.prog w) callerA (.call (.ref fa) ⟨[.ref a], []⟩) (fun r s' => r = .ok (.ret (.bool true)) ∧ OldK s₁.heap s'.heap ∧ s'.os = s₁.os ∧ AllBare s'.gens) s₁) :
    WalkO q loose XP YP l.row.toRowW d [] (fun f vs => PySem.call f vs) := by
  intro w s₀ s₁ mg mb G Y fa o pm cd doc dV kV ho hd hcd hD hmg hg args vals as hpre hlay hrd hwl hlo
  obtain rfl : dV = .none := Dflts.none hD hdf
  obtain rfl : kV = .none := Dflts.noKw hD
  obtain ⟨a, vs, ns, rfl, rfl, hobj, hints, hlen⟩ := script_of hn hpre hwl
  refine enter_call (codeAny_mono (call w s₀ s₁ mg mb fa o pm cd doc a vs ns G Y ho (fd_plain hd) hcd hmg hobj hints hlen hg) fun r s' hq => ?_)
  obtain ⟨rfl, h2, h3, h4⟩ := hq
  exact ⟨.inl ⟨.bool true, .bool true, [], rfl, fun _ => rfl, .bool true, post_true l _, fun _ => ⟨List.Pairwise.nil, fun _ hm => (nomatch hm)⟩⟩, h2, h3, h4⟩

/-! ### rules over ANY heap (no ledger) from facts about the written part K: the library's own take a ledger (News) for what they write -/
section
variable {prog : Program} {w : World} {A : Around} {E : Value → Shared → Prop} {s : Shared} {K : Frag}

/-! the whole heap as the ledger: makes every rule that writes through a ledger a rule over any heap -/
end
end Att

namespace L2
open PySem PySem.Spec PyProof.Rows

theorem vals_ints : ∀ {vs : List Value} {ns : List Int}, IntsAre vs ns → Vals (ns.map V.int) vs
  | _, _, .nil => .nil
  | _, _, .cons n t h => .cons ⟨t, rfl⟩ (vals_ints h)

/-- nothing is tracked but the script, known to the object (or it is an object of the module) -/
def Only (H : Hp) : Prop := ∀ b, H b = none ∨ ∃ o xs, H b = some (.frz o (.lst xs))

/-- THE HEAD: the law's promise, at the heap behind the top. F, the promise of the law's def, may use that base is part of the heap (so K.In base, base.Ns mainGlobals mg stand in Mod) -/
theorem law_call {P : Program} {w : World} {K : PySem.W.Frag} {mg mb : Str → Option Value} {CX : CXT} {k : Nat} {fa a : Addr} {fd : FuncData} {x : Str} {sp : Sp} {s₁ : Shared} {vs : List Value} {ns : List Int}
    (KX : K.In s₁.heap) (hns : s₁.heap.Ns mainGlobals mg) (hb : s₁.heap.Ns builtinsNs mb) (hbb : ∀ x : Str, x ≠ "__name__" → mb x = bootBuiltins x) (hlim : s₁.heap.NoLimit) (hg : s₁.gens = #[])
    (ha : s₁.heap.get? a = some { cls := .type "list", data := .seq vs.toArray }) (hi : IntsAre vs ns) (hl : ns.length ≤ sizeLine) (hr : Room k callerA)
    (F : ∀ base : Heap, K.In base → base.Ns mainGlobals mg → FnOk P w K mg base CX k fa fd [x] sp) (hbind : ∀ (s : Shared) (u : Value), BindsTo s fd ⟨[u], []⟩ [(x, u)])
    (hsp : ∀ H : Hp, Only H → SqL K H a (ns.map V.int) → sp [.ref a] H (fun v _ => v = .bl true) fun _ _ _ => False)
    (hCX : ∀ H e s', CX [] H s₁ (fun _ _ _ => False) e s' → False) :
    codeAny (model P w) callerA (.call (.ref fa) ⟨[.ref a], []⟩) (fun r s' => r = .ok (.ret (.bool true)) ∧ OldK s₁.heap s'.heap ∧ s'.os = s₁.os ∧ AllBare s'.gens) s₁ := by
  have rv := vals_ints hi
  have lenV := hi.length
  -- from an abstract heap in which nothing but the script may be tracked
  have core : ∀ H : Hp, Only H → SqL K H a (ns.map V.int) → HOk P w H s₁.heap → (∀ b, H b ≠ none → b = a) → (H a ≠ none → K.lookup a = none) →
      codeAny (model P w) callerA (.call (.ref fa) ⟨[.ref a], []⟩) (fun r s' => r = .ok (.ret (.bool true)) ∧ OldK s₁.heap s'.heap ∧ s'.os = s₁.os ∧ AllBare s'.gens) s₁ := by
    intro H hO hS hok hA hK
    have base_of : ∀ {b : Addr} {o : Obj}, s₁.heap.get? b = some o → H b = none → (hidT s₁.heap H).get? b = some o := fun e n => hidT_get e n
    have noA : ∀ {b : Addr} {o : Obj} {es : Array DictEntry} {ep : Nat}, s₁.heap.get? b = some o → o.data = .dict es ep → H b = none := fun {b o es ep} e d => by
      cases q : H b with
      | none => rfl
      | some u =>
        have e' : b = a := hA b (by rw [q]; simp)
        subst e'
        rw [ha] at e; cases e
        have d' : Data.seq vs.toArray _ = Data.dict es ep := d
        cases d'
    have nsK : ∀ {b : Addr} {m : Str → Option Value}, s₁.heap.Ns b m → (hidT s₁.heap H).Ns b m := fun {b m} ⟨o, es, ep, e, d, r⟩ => ⟨o, es, ep, base_of e (noA e d), d, r⟩
    have hKb : K.In (hidT s₁.heap H) := fun b o e => base_of (KX b o e) (by
      cases q : H b with
      | none => rfl
      | some u =>
        have e' : b = a := hA b (by rw [q]; simp)
        subst e'
        rw [hK (by rw [q]; simp)] at e; cases e)
    have hM : Mod K mg (hidT s₁.heap H) := ⟨hKb, nsK hns, ⟨mb, nsK hb, hbb⟩, let ⟨mc, h1, h2⟩ := hlim; ⟨mc, nsK h1, h2⟩⟩
    have e0 : Env0 P w K mg (hidT s₁.heap H) callerA [] s₁ H := ⟨rfl, hM, fun b o e => of_hidT e, Nat.le_of_eq (hidT_size _ _), trivial, fun b hb => absurd (show b ∈ ([] : List Addr) from hb) (by simp), hok, .of_eq hg⟩
    refine codeAny_mono ((F _ hKb (nsK hns)).run callerA [] s₁ H ⟨[.ref a], []⟩ [.ref a] [.ref a] _ _ hr e0 (hbind s₁ (.ref a)) (.cons rfl .nil) (hsp H hO hS)) fun r s' h => ?_
    cases r with
    | error e => exact (hCX H e s' h).elim
    | ok fl =>
      cases fl with
      | next => exact False.elim h
      | brk => exact False.elim h
      | cont => exact False.elim h
      | ret u =>
        obtain ⟨v, H', os, bare, un, hok', r', q⟩ := h
        have q' : v = .bl true := q
        subst q'
        obtain rfl : u = Value.bool true := r'
        refine ⟨rfl, OldK.of_keep fun b o e => ?_, os, bare⟩
        cases q : H b with
        | none => exact un.keep b o e q (by intro z; exact absurd (show b ∈ ([] : List Addr) from z) (by simp)) (by simp)
        | some u =>
          rcases hO b with z | ⟨ob, xs, z⟩
          · rw [q] at z; cases z
          · have z2 := un.frzs b ob _ z
            obtain ⟨e1, _⟩ := hok b _ z
            obtain ⟨e2, _⟩ := hok' b _ z2
            rw [e] at e1; cases e1
            exact e2
  cases hk : K.lookup a with
  | some o =>
    -- the script is one of the module's own objects
    have e := KX a o hk
    rw [ha] at e
    cases e
    refine core (fun _ => none) (fun _ => .inl rfl) (.inr ⟨_, vs.toArray, _, hk, rfl, rfl, rfl, by rw [List.size_toArray, lenV]; exact hl, by simpa using rv⟩) (fun b u z => by have z' : (none : Option HO) = some u := z; cases z') (fun b z => absurd rfl z) fun z => absurd rfl z
  | none =>
    refine core (fun b => if b = a then some (.frz { cls := .type "list", data := .seq vs.toArray } (.lst (ns.map V.int))) else none) (fun b => ?_) (.inl (.inr ⟨{ cls := .type "list", data := .seq vs.toArray }, if_pos rfl⟩)) (fun b u z => ?_) (fun b z => ?_) fun _ => hk
    · by_cases hb : b = a
      · exact .inr ⟨_, _, if_pos hb⟩
      · exact .inl (if_neg hb)
    · by_cases hb : b = a
      · have z' := (if_pos hb).symm.trans z
        cases z'
        subst hb
        exact ⟨ha, by rw [List.length_map]; exact hl, vs, _, rv, ha⟩
      · have z' := (if_neg hb).symm.trans z
        cases z'
    · by_cases hb : b = a
      · exact hb
      · exact absurd (if_neg hb) z
end L2

namespace L2
open PySem PySem.Spec PyProof.Rows

/-- the goal that k_head leaves (case hc), from the law's promise. F gives the function object fd (K's own) once, then the promise over every base -/
theorem walk_of {l : PySem.W.OpenLaw} {n k : Nat} {q : Program} {loose : List Str} {XP : (Str → Option Value) → Heap → Prop} {YP : World → Heap → Prop} {d : DefRec} {K : Params → PySem.W.Frag} {CX : World → CXT} {sp : World → Sp} {x : Str}
    (hn : l.most = some n) (hn2 : n ≤ sizeLine) (hdf : d.params.defaults = []) (hr : Room k callerA)
    (hY : ∀ (w : World) (h : Heap), YP w h → (K w.params).In h)
    (F : ∀ (w : World) (mg : Str → Option Value) (fa : Addr) (h : Heap), (K w.params).In h → h.Ns mainGlobals mg → mg d.name = some (.ref fa) →
      ∃ fd : FuncData, (∀ (s : Shared) (u : Value), BindsTo s fd ⟨[u], []⟩ [(x, u)]) ∧
        ∀ base : Heap, (K w.params).In base → base.Ns mainGlobals mg → FnOk l.prog w (K w.params) mg base (CX w) k fa fd [x] (sp w))
    (hsp : ∀ (w : World) (H : Hp) (a : Addr) (ns : List Int), ns.length ≤ n → Only H → SqL (K w.params) H a (ns.map V.int) → sp w [.ref a] H (fun v _ => v = .bl true) fun _ _ _ => False)
    (hCX : ∀ (w : World) (H : Hp) (s : Shared) (e : Value) (s' : Shared), CX w [] H s (fun _ _ _ => False) e s' → False) :
    PySem.W.WalkO q loose XP YP l.row.toRowW d [] (fun f vs => PySem.call f vs) := by
  refine Att.attach_call hn hdf fun w s₀ s₁ mg mb fa o pm cd doc a vs ns G Y ho hd hcd hmg hobj hints hlen hg => ?_
  have KX := hY w _ Y
  obtain ⟨fd, hb, hF⟩ := F w mg fa _ KX G.T.g hmg
  exact law_call KX G.T.g G.T.b G.T.builtins G.T.nolimit hg hobj hints (Nat.le_trans hlen hn2) hr hF hb (fun H hO hS => hsp w H a ns hlen hO hS) fun H e s' => hCX w H s₁ e s'
end L2

/- THE LAST THEOREM (shape; LID, My.* are yours):
   My.Adr: a structure of the addresses that your layer names (classes, functions); My.Txt K t: a structure (Prop) of the equations over K;
   My.txt_mk : {K} {implicit addresses ..} (e1 : nsIn K mainGlobals "law" = some (some (.ref f))) (e2 : K.lookup f = some ⟨oc, od, .func (fnOf "law" "law" params body scope dV kV doc pm an cdv ct), sl⟩) (e3 : codeIn K cdv "law" = true) .. : ∃ t, My.Txt K t

set_option maxRecDepth 100000 in
set_option maxHeartbeats 0 in
theorem PySem.Challenge.cw_LID_holds : PySem.Challenge.rw_LID.Holds := by
  w_on; o_law; k_head; (case hw => w_witness2)
  k_fill
  refine L2.walk_of (l := PySem.Challenge.rw_LID) (n := 63) (k := 40) (x := "script") (CX := fun w => ..) (sp := fun _ => My.sp_law) rfl (by decide) rfl ⟨rfl, by decide, by decide⟩ (fun w h Y => PySem.W.kIn_of Y) ?F ?S ?C
  case F =>
    intro w mg fa h KX G hmg
    have T : ∃ t, My.Txt (L2.KOf KX) t := by
      dsimp only [L2.KOf]                          -- K must stand as «<heap const> w.params» for k_is
      refine' My.txt_mk ?e1 ?e2 ?e3 ..
      (case e1 => PySem.W.k_is)                    -- in the order: a name -> its address -> its object -> its parts
      (case e2 => PySem.W.k_is)
      ..
    obtain ⟨t, T⟩ := T
    have e0 := hmg.symm.trans (PySem.W.mg_of KX G T.law)
    cases e0                                       -- fa is the law's own address
    exact ⟨_, fun s u => .of_eq rfl, fun base kb nb => My.law_fn T kb nb⟩     -- if «.of_eq rfl» comes too early: refine' ⟨_, ?b, fun base kb nb => My.law_fn T kb nb⟩; exact fun s u => .of_eq rfl
  case S => exact fun w H a ns hl hO hS => ..
  case C => exact ..
(the tactic k_is has no namespace: write k_is) -/

/-! SHORT WORDS over the layer: a def of the text, its body, what a loop and a test want. -/
namespace L2
open PySem PySem.Spec PyProof.Rows

/-! ### the text by places -/
/-- the j-th statement of a class's body -/
def inClass (s : Stmt) (j : Nat) : Stmt := match s with
  | .ClassDef _ _ _ body _ _ _ _ _ _ _ => body.getD j (.Pass ⟨0, 0, 0, 0⟩)
  | _ => .Pass ⟨0, 0, 0, 0⟩
def defArgs (s : Stmt) : Arguments := match s with
  | .FunctionDef _ a _ _ _ _ _ _ _ _ => a
  | _ => { posonlyargs := [], args := [], vararg := none, kwonlyargs := [], kw_defaults := [], kwarg := none, defaults := [] }
def defBody (s : Stmt) : List Stmt := match s with
  | .FunctionDef _ _ b _ _ _ _ _ _ _ => b
  | _ => []
def defScope (s : Stmt) : Scope := match s with
  | .FunctionDef _ _ _ _ _ _ sc _ _ _ => sc
  | _ => { kind := .function, names := [], isGenerator := false, isCoroutine := false }

/-! ### no exception leaves a def -/
abbrev CX0 : CXT := fun _ _ _ _ _ _ => False
abbrev E0 : XK := fun _ _ _ => False
theorem pass0 {X : Cx} : Passes CX0 X E0 := fun _ _ _ _ _ _ _ h => h.elim

/-! ### a def (or method) of the text as it stands behind the top -/
structure Fun (K : PySem.W.Frag) (x qual : Str) (st : Stmt) (f : Addr) (fd : FuncData) : Prop where
  ex : ∃ (oc : Value) (od : Option Addr) (kV doc pm : Value) (an : Option Addr) (cdv ct : Value) (osl : Array (Option Value)),
    fd = PySem.W.fnOf x qual (defArgs st) (defBody st) (defScope st) .none kV doc pm an cdv ct ∧ K.lookup f = some ⟨oc, od, .func fd, osl⟩ ∧ PySem.W.codeIn K cdv qual = true
  kp : PySem.W.keepIn K (.ref f) = true
section
variable {P : Program} {w : World} {K : PySem.W.Frag} {mg : Str → Option Value} {base : Heap}
/-- THE RULE for a def: its body as a term of rules, and the reading of that term -/
theorem Fun.ok {x qual : Str} {st : Stmt} {f : Addr} {fd : FuncData} {N ps : List Str} {k : Nat} {sp : Sp} (F : Fun K x qual st f fd) (S : FnScope N ps (defScope st)) (len : ∀ vs H Q E, sp vs H Q E → vs.length = ps.length)
    (hbody : ∀ (cdv : Value) (A : Around) (outer : List Env) (s : Shared) (H : Hp) (vs : List V) (Q : VK) (E : XK), Room k (A.deeper (envOfC qual (defScope st) s.heap.objs.size f cdv)) → sp vs H Q E →
      ∃ t, PSs (cxOf CX0 P w K mg base N qual (defScope st) f cdv A outer s H E).nox (defBody st) t ∧ t { nx := fun _ H' => Q .non H', rt := Q } (start N vs) H) : FnOk P w K mg base CX0 (k + 1) f fd ps sp := by
  obtain ⟨oc, od, kV, doc, pm, an, cdv, ct, osl, rfl, lk, hcd⟩ := F.ex
  refine fn_of lk hcd S len fun A outer s H vs Q E hr hsp => ?_
  obtain ⟨t, h, q⟩ := hbody cdv A outer s H vs Q E hr hsp
  exact ⟨t, h.nox, q⟩
/-- how its arguments bind (no defaults): h is «fun _ _ _ _ _ _ us hl => match us, hl with | [_, _], _ => rfl», one _ a parameter -/
theorem Fun.binds {x qual : Str} {st : Stmt} {f : Addr} {fd : FuncData} {ps : List Str} (F : Fun K x qual st f fd)
    (h : ∀ (kV doc pm : Value) (an : Option Addr) (cdv ct : Value) (us : List Value), us.length = ps.length → bindArgs (PySem.W.fnOf x qual (defArgs st) (defBody st) (defScope st) .none kV doc pm an cdv ct) ⟨us, []⟩ = pure (ps.zip us)) : Binds K fd ps [] := by
  obtain ⟨oc, od, kV, doc, pm, an, cdv, ct, osl, rfl, lk, hcd⟩ := F.ex
  exact .all (h kV doc pm an cdv ct)
theorem fun_mk {x qual : Str} {st : Stmt} {f : Addr} {oc : Value} {od an : Option Addr} {osl : Array (Option Value)} {kV doc pm cdv ct : Value} (l : K.lookup f = some ⟨oc, od, .func (PySem.W.fnOf x qual (defArgs st) (defBody st) (defScope st) .none kV doc pm an cdv ct), osl⟩)
    (c : PySem.W.codeIn K cdv qual = true) (k : PySem.W.keepIn K (.ref f) = true) : Fun K x qual st f (PySem.W.fnOf x qual (defArgs st) (defBody st) (defScope st) .none kV doc pm an cdv ct) := ⟨⟨oc, od, kV, doc, pm, an, cdv, ct, osl, rfl, l, c⟩, k⟩
end
theorem hu_of {A : Around} {k : Nat} (hr : Room k A) : A.units + 1 < cLine := Nat.lt_of_le_of_lt (Nat.add_le_add_left (by decide : 1 ≤ 64) _) hr.units
theorem small1000 {n : Nat} (h : n ≤ 1000) : n < sizeLine := Nat.lt_of_le_of_lt h (by decide)

/-! ### expressions in short: the name that stands in the i-th slot -/
section
variable {X : Cx}
end

/-! ### tests -/
theorem iteF {A B : Prop} (h : B) : if false = true then A else B := by
  rw [if_neg Bool.false_ne_true]
  exact h
theorem iteT {A B : Prop} (h : A) : if true = true then A else B := by
  rw [if_pos rfl]
  exact h
theorem ite2 {c A B : Prop} [Decidable c] (h1 : c → A) (h2 : ¬ c → B) : if c then A else B := by
  by_cases h : c
  · rw [if_pos h]
    exact h1 h
  · rw [if_neg h]
    exact h2 h
theorem iteNS {c A B : Prop} [Decidable c] (hc : c) (h : B) : if (!decide c) = true then A else B := by
  rw [decide_eq_true hc]
  exact iteF h

/-! ### heaps -/
/-- all that was tracked is as it was -/
def Same (H H' : Hp) : Prop := ∀ b o, H b = some o → H' b = some o
theorem Same.refl (H : Hp) : Same H H := fun _ _ h => h
theorem Same.trans {H H1 H2 : Hp} (a : Same H H1) (b : Same H1 H2) : Same H H2 := fun c o h => b c o (a c o h)
theorem Same.free {H H' : Hp} (e : Same H H') {l : Addr} (h : H' l = Option.none) : H l = Option.none := by
  cases q : H l with
  | none => rfl
  | some o =>
    rw [e l o q] at h
    cases h
theorem Same.seq {K : PySem.W.Frag} {H H' : Hp} {a : Addr} {xs : List V} (e : Same H H') (h : SqL K H a xs) : SqL K H' a xs := by
  rcases h with (h | ⟨o, h⟩) | h
  · exact .inl (.inl (e _ _ h))
  · exact .inl (.inr ⟨o, e _ _ h⟩)
  · exact .inr h

end L2

set_option Elab.async false
set_option linter.all false
set_option maxRecDepth 100000
set_option maxHeartbeats 4000000
namespace L3
open PySem PySem.Spec L2
open PyProof.Rows hiding St

/-! ### a comprehension -/
theorem thnE {α : Type} {t : Sem α} {Q Q' : α → Shared → Prop} {M : Model} {A : Around} {E : Value → Shared → Prop} {s : Shared} (h : wpAny M A t Q (fun _ _ => False) s) (hQ : ∀ a s, Q a s → Q' a s) : wpAny M A t Q' E s :=
  wpAny_mono h hQ fun _ _ x => x.elim

theorem closure_of (env : Env) : ∀ (l : List (Str × NameKind)) (acc : List (Str × Addr)), (∀ x ∈ l, x.2 = .free → ∃ c, env.cells.lookup x.1 = some c) → (∀ x c, acc.lookup x = some c → env.cells.lookup x = some c) →
    ∃ cl, (forIn l acc fun (x : Str × NameKind) (r : List (Str × Addr)) => if (x.2 == NameKind.free) = true then do let a ← cellOf env x.1; pure (ForInStep.yield ((x.1, a) :: r)) else pure (ForInStep.yield r) : Sem (List (Str × Addr))) = pure cl ∧
      (∀ x c, cl.lookup x = some c → env.cells.lookup x = some c) ∧ (∀ x, (∃ c, acc.lookup x = some c) → ∃ c, cl.lookup x = some c) ∧ ∀ x, (x, NameKind.free) ∈ l → ∃ c, cl.lookup x = some c
  | [], acc, _, h2 => ⟨acc, rfl, h2, fun _ h => h, fun _ h => nomatch h⟩
  | (n, k) :: r, acc, h1, h2 => by
    rw [List.forIn_cons]
    by_cases hk : k = .free
    · subst hk
      obtain ⟨c, hc⟩ := h1 (n, .free) List.mem_cons_self rfl
      obtain ⟨cl, e, p1, p2, p3⟩ := closure_of env r ((n, c) :: acc) (fun x hx => h1 x (List.mem_cons_of_mem _ hx)) (fun x d hd => by
        rw [List.lookup_cons] at hd
        cases hx : x == n with
        | true => rw [hx] at hd; cases hd; rw [eq_of_beq hx]; exact hc
        | false => rw [hx] at hd; exact h2 x d hd)
      refine ⟨cl, ?_, p1, fun x hx => ?_, fun x hx => ?_⟩
      · rw [if_pos (by rfl)]
        unfold cellOf
        dsimp only
        rw [hc]
        exact e
      · refine p2 x ?_
        obtain ⟨d, hd⟩ := hx
        rw [List.lookup_cons]
        cases hx : x == n with
        | true => exact ⟨c, rfl⟩
        | false => exact ⟨d, hd⟩
      · rcases List.mem_cons.mp hx with z | z
        · cases z
          exact p2 n ⟨c, by rw [List.lookup_cons]; simp⟩
        · exact p3 x z
    · have hb : (k == NameKind.free) = false := by simpa using hk
      obtain ⟨cl, e, p1, p2, p3⟩ := closure_of env r acc (fun x hx => h1 x (List.mem_cons_of_mem _ hx)) h2
      refine ⟨cl, ?_, p1, p2, fun x hx => ?_⟩
      · rw [if_neg (by simp [hb])]
        exact e
      · rcases List.mem_cons.mp hx with z | z
        · cases z; exact absurd rfl hk
        · exact p3 x z

theorem closureFor_of {scope : Scope} {env : Env} (h : ∀ x ∈ scope.names, x.2 = .free → ∃ c, env.cells.lookup x.1 = some c) :
    ∃ cl, closureFor scope env = pure cl ∧ (∀ x c, cl.lookup x = some c → env.cells.lookup x = some c) ∧ ∀ x, (x, NameKind.free) ∈ scope.names → ∃ c, cl.lookup x = some c := by
  obtain ⟨cl, e, p1, _, p3⟩ := closure_of env scope.names [] h (fun x c z => by cases z)
  refine ⟨cl, ?_, p1, p3⟩
  have e2 : closureFor scope env = ((forIn scope.names [] fun (x : Str × NameKind) (r : List (Str × Addr)) => if (x.2 == NameKind.free) = true then do let a ← cellOf env x.1; pure (ForInStep.yield ((x.1, a) :: r)) else pure (ForInStep.yield r)) : Sem (List (Str × Addr))) >>= pure := by
    unfold closureFor
    rfl
  rw [e2, e]
  rfl

/-- the tests of a comprehension -/
def PTs (X : Cx) (ifs : List Expr) (t : TT) : Prop :=
  ∀ (pins : List (Addr × Obj)) (s : Shared) (σ : St) (H : Hp) (Q : Bool → Hp → Prop), Inv X pins σ H s → t σ H Q →
    wpAny (model X.prog X.w) X.A (forIn ifs true fun c r => if r = true then do let ok ← isTrue c X.env (eval c X.env); pure (ForInStep.yield ok) else pure (ForInStep.yield r)) (TP X pins σ Q) X.xe s
def tYes : TT := fun _ H Q => Q true H
theorem pts_nil {X : Cx} : PTs X [] tYes := fun _ _ _ H _ I h => wpAny_tests_nil ⟨H, I, h⟩
theorem pts_one {X : Cx} {c : Expr} {t : TT} (hc : PT X c t) : PTs X [c] t := fun pins s σ H Q I h => wpAny_tests_one (hc pins s σ H Q I h)

/-- the block of a comprehension, as a context of its own -/
def blk (X : Cx) (scope : Scope) (N : List Str) (cl : List (Str × Addr)) (fp : List Addr) (s₂ : Shared) (H₂ : Hp) (C : Addr) : Cx where
  prog := X.prog
  w := X.w
  K := X.K
  mg := X.mg
  base := X.base
  A := X.A
  N := N
  s₀ := s₂
  H₀ := H₂
  env := compEnvC scope cl C X.env
  outer := X.stack
  stack := X.stack
  ex := fp
  fn := fun _ => false
  calm := X.calm
  pn := []
  xe := fun _ _ => False

theorem relabel_mem {scope : Scope} {env : Env} {x : Str} {k : NameKind} (h : (relabel scope env).names.lookup x = some k) : (k = .cell ∧ (x, NameKind.free) ∈ scope.names) ∨ (x, k) ∈ scope.names := by
  obtain ⟨⟨n, k0⟩, hm, e⟩ := List.mem_map.mp (show (x, k) ∈ scope.names.map _ from PySem.mem_of_lookup h)
  dsimp only at e
  split at e
  · rename_i hc
    cases e
    have hf : k0 = .free := by
      have := (Bool.and_eq_true _ _).mp ((Bool.and_eq_true _ _).mp hc).1
      simpa using this.1
    subst hf
    exact .inl ⟨rfl, hm⟩
  · cases e
    exact .inr hm

theorem relabel_free {env : Env} : ∀ {names : List (Str × NameKind)} {x : Str}, names.lookup x = some .free →
    (names.map fun (n, k) => if (k == NameKind.free && env.scope.kind == .function && env.kindOf n == some .cell) then (n, NameKind.cell) else (n, k)).lookup x = some .cell ∨
    (names.map fun (n, k) => if (k == NameKind.free && env.scope.kind == .function && env.kindOf n == some .cell) then (n, NameKind.cell) else (n, k)).lookup x = some .free
  | [], _, h => by simp at h
  | (n, k) :: r, x, h => by
    have ih := @relabel_free env r x
    simp only [List.map_cons]
    cases hx : x == n with
    | true =>
      simp only [List.lookup_cons, hx] at h
      cases h
      split
      · left; simp [List.lookup_cons, hx]
      · right; simp [List.lookup_cons, hx]
    | false =>
      simp only [List.lookup_cons, hx] at h
      by_cases hc : (k == NameKind.free && env.scope.kind == .function && env.kindOf n == some .cell) = true
      · rw [if_pos hc]; simp only [List.lookup_cons, hx]; exact ih h
      · rw [if_neg hc]; simp only [List.lookup_cons, hx]; exact ih h

/-- what a comprehension's scope is: fsc the scope around it, N the names there, x the target, caps the names that it takes from around, at the places ks -/
def cscopeB (fsc : Scope) (N : List Str) (scope : Scope) (x : Str) (ks : List Nat) (caps : List Str) : Bool :=
  (scope.kind == .function) && scope.names.all (fun y => y.2 != .cell) && scope.names.all (fun y => y.2 != .local || scope.names.lookup y.1 == some .local) && (scope.names.lookup x == some .local) &&
    scope.names.all (fun y => y.2 != .free || fsc.names.lookup y.1 == some .cell || fsc.names.lookup y.1 == some .free) && decide ((x :: caps).Nodup) && (ks.length == caps.length) &&
    (ks.zip caps).all fun p => N[p.1]? == some p.2 && scope.names.lookup p.2 == some .free
structure CScope (X : Cx) (scope : Scope) (x : Str) (ks : List Nat) (caps : List Str) : Prop where
  kind : scope.kind = .function
  nocell : ∀ y ∈ scope.names, y.2 ≠ .cell
  names : ∀ y ∈ scope.names, y.2 = .local → scope.names.lookup y.1 = some .local
  tgt : scope.names.lookup x = some .local
  frees : ∀ y ∈ scope.names, y.2 = .free → X.env.kindOf y.1 = some .cell ∨ X.env.kindOf y.1 = some .free
  nd : (x :: caps).Nodup
  len : ks.length = caps.length
  at_ : ∀ (j : Nat) (k : Nat) (y : Str), ks[j]? = some k → caps[j]? = some y → X.N[k]? = some y ∧ scope.names.lookup y = some .free
theorem CScope.of {X : Cx} {scope : Scope} {x : Str} {ks : List Nat} {caps : List Str} (h : cscopeB X.env.scope X.N scope x ks caps = true) : CScope X scope x ks caps := by
  unfold cscopeB at h
  simp only [Bool.and_eq_true, List.all_eq_true] at h
  obtain ⟨⟨⟨⟨⟨⟨⟨h1, h2⟩, h3⟩, h4⟩, h5⟩, h6⟩, h7⟩, h8⟩ := h
  refine ⟨by simpa using h1, fun y hy => by simpa using h2 y hy, fun y hy e => ?_, by simpa using h4, fun y hy e => ?_, of_decide_eq_true h6, by simpa using h7, fun j k y e1 e2 => ?_⟩
  · have := h3 y hy
    rw [e] at this
    simpa using this
  · have := h5 y hy
    rw [e] at this
    have t2 : X.env.scope.names.lookup y.1 = some .cell ∨ X.env.scope.names.lookup y.1 = some .free := by simpa using this
    exact t2
  · have hm : (k, y) ∈ ks.zip caps := by
      refine List.mem_of_getElem? (i := j) ?_
      rw [List.getElem?_zip_eq_some]
      exact ⟨e1, e2⟩
    have := h8 (k, y) hm
    simpa using this

section
variable {X : Cx} {scope : Scope} {x : Str} {ks : List Nat} {caps : List Str} {cl : List (Str × Addr)} {fp : List Addr} {s₂ : Shared} {H₂ : Hp} {C : Addr} {pins : List (Addr × Obj)} {σ : St}

theorem blk_ok (S : CScope X scope x ks caps) (I : Inv X pins σ H₂ s₂) (hC : s₂.heap.objs.size ≤ C) (hfp : ∀ b ∈ fp, FpOk X pins H₂ b) (hlt : ∀ b ∈ fp, b < s₂.heap.objs.size)
    (p1 : ∀ x c, cl.lookup x = some c → X.env.cells.lookup x = some c) (p3 : ∀ x, (x, NameKind.free) ∈ scope.names → ∃ c, cl.lookup x = some c) : (blk X scope (x :: caps) cl fp s₂ H₂ C).Ok where
  mod := I.ok.mod
  kind := S.kind
  glob := I.ok.glob
  blt := I.ok.blt
  above := hC
  inj := fun y z c e1 e2 => I.ok.inj y z c (p1 _ _ e1) (p1 _ _ e2)
  has := fun y hy => by
    have hy : (relabel scope X.env).names.lookup y = some .cell ∨ (relabel scope X.env).names.lookup y = some .free := hy
    rcases hy with hy | hy
    · rcases relabel_mem hy with ⟨_, m⟩ | m
      · exact p3 y m
      · exact absurd rfl (S.nocell _ m)
    · rcases relabel_mem hy with ⟨z, _⟩ | m
      · cases z
      · exact p3 y m
  cab := fun y c h => by cases h
  hd := I.ok.hd
  frames := I.ok.frames
  stk := .inl rfl
  exf := fun b hb => ⟨Nat.ne_of_lt (Nat.lt_of_lt_of_le (hlt b hb) hC), fun y c e => (hfp b hb).2.2.2.2.1 y c (p1 y c e)⟩
  bs := I.bs
  bsz := Nat.le_trans I.ok.bsz I.sz
  noex := fun b o e hb => by
    rcases (hfp b hb).2.2.2.1 with z | z
    · exact I.ok.noex b o e z
    · exact absurd (Nat.lt_of_lt_of_le (Heap.lt_size (I.ok.bs b o e).1) z) (Nat.lt_irrefl _)
  exfs := fun b hb z => by
    rcases List.mem_cons.mp (I.stkSub b z) with e | e
    · exact (hfp b hb).2.1 e
    · exact (hfp b hb).2.2.1 e
  funs := I.stack
  frf := I.stkFree

theorem blk_inv (S : CScope X scope x ks caps) (I : Inv X pins σ H₂ s₂) (hfp : ∀ b ∈ fp, FpOk X pins H₂ b) (hlt : ∀ b ∈ fp, b < s₂.heap.objs.size)
    (p1 : ∀ x c, cl.lookup x = some c → X.env.cells.lookup x = some c) (p3 : ∀ x, (x, NameKind.free) ∈ scope.names → ∃ c, cl.lookup x = some c)
    {h₁ : Heap} {tk : Nat} {m : Str → Option Value} (hC : s₂.heap.objs.size < C) (old : ∀ b o, s₂.heap.get? b = some o → h₁.get? b = some o) (hacc : ∃ n, h₁.get? s₂.heap.objs.size = some { cls := .type "list", data := .seq ([] : List Value).toArray n }) (hns : h₁.Ns C m) :
    Inv (blk X scope (x :: caps) cl fp s₂ H₂ C) [] (none :: ks.map fun k => σ.getD k none) (upd H₂ s₂.heap.objs.size (.lst [])) { s₂ with heap := h₁, toks := tk } := by
  refine ⟨blk_ok S I (Nat.le_of_lt hC) hfp hlt p1 p3, rfl, I.bare, Un.laid old (Nat.le_refl _) I.fresh, ⟨m, hns, fun i y v e1 e2 e3 => ?_⟩, fun y c e => ?_, ?_, fun y c e => ?_, fun p hp => absurd (show p ∈ ([] : List (Addr × Obj)) from hp) (by simp), ?_, ?_⟩
  · cases i with
    | zero => simp at e2
    | succ j =>
      have e1' : caps[j]? = some y := by simpa [blk] using e1
      have e2' : (ks.map fun k => σ.getD k none)[j]? = some (some v) := by simpa using e2
      rw [List.getElem?_map] at e2'
      cases hk : ks[j]? with
      | none => rw [hk] at e2'; cases e2'
      | some k =>
        rw [hk] at e2'
        have e2'' : σ.getD k none = some v := by simpa using e2'
        have hσ : σ[k]? = some (some v) := by
          rw [List.getD_eq_getElem?_getD] at e2''
          cases hz : σ[k]? with
          | none => rw [hz] at e2''; cases e2''
          | some z => rw [hz] at e2''; rw [show z = some v from e2'']
        obtain ⟨hN, hf⟩ := S.at_ j k y hk e1'
        have hv := S.frees (y, .free) (PySem.mem_of_lookup hf) rfl
        obtain ⟨m', _, hl⟩ := I.loc
        obtain ⟨u, ru, lk⟩ := hl k y v hN hσ (by rcases hv with z | z; exact .inr (.inl z); exact .inr (.inr z))
        refine ⟨u, ru, ?_⟩
        rcases lk with ⟨kl, _⟩ | ⟨_, c, hc, ic⟩
        · rcases hv with z | z <;> (rw [show X.env.kindOf y = some .local from kl] at z; cases z)
        · obtain ⟨c', hc'⟩ := p3 y (PySem.mem_of_lookup hf)
          have : c' = c := by have := p1 y c' hc'; rw [hc] at this; exact (Option.some.inj this).symm
          subst this
          refine .inr ⟨relabel_free (env := X.env) hf, c', hc', ?_⟩
          obtain ⟨o, ho, hd⟩ := ic
          exact ⟨o, old _ _ ho, hd⟩
  · obtain ⟨v, o, ho, hd⟩ := I.cell y c (p1 y c e)
    exact ⟨v, o, old _ _ ho, hd⟩
  · show upd H₂ s₂.heap.objs.size (.lst []) C = none
    rw [upd_ne (Nat.ne_of_gt hC)]
    exact I.hok.fresh (Nat.le_of_lt hC)
  · obtain ⟨v, z⟩ := I.cell y c (p1 y c e)
    show upd H₂ s₂.heap.objs.size (.lst []) c = none
    rw [upd_ne (Nat.ne_of_lt z.lt)]
    exact I.freeC y c (p1 y c e)
  · obtain ⟨n, hn⟩ := hacc
    exact I.hok.laid old (Nat.le_refl _) ⟨Nat.zero_le _, [], n, .nil, hn⟩
  · show (none :: ks.map fun k => σ.getD k none).length = (x :: caps).length
    simp [S.len]
end

/-- the reading of the walk: W by the turn, a measure, what was gathered, the heap -/
def tCompW (J : It) (tt : TT) (te : TE) (cv : List (Option V)) (Q : VK) (H1 : Hp) : Prop :=
  ∀ D, H1 D = none → ∃ W : Nat → Nat → List V → Hp → Prop, (∃ m, W 0 m [] (upd H1 D (.lst []))) ∧ ∀ i m ys H, W i m ys H → H D = some (.lst ys) ∧
    ((J.stop i H ∧ Q (.ref D) H) ∨ (J.go i H ∧ ∃ N : List V → Hp → Prop, (∀ ys' H', N ys' H' → ∃ m', m' < m ∧ W (i + 1) m' ys' H') ∧ ∀ x H', J.yld i H x H' → tt (some x :: cv) H' fun b H2 => if b = true then
      te (some x :: cv) H2 (fun y H3 => H3 D = some (.lst ys) ∧ ys.length < sizeLine ∧ N (ys ++ [y]) (upd H3 D (.lst (ys ++ [y])))) else N ys H2))

/-- what may turn unseen behind a comprehension: its own names' record -/
structure Gone (X : Cx) (pins : List (Addr × Obj)) (H : Hp) (C : Addr) : Prop where
  free : H C = none
  loc : C ≠ X.env.locals
  ex : C ∈ X.ex ∨ X.s₀.heap.objs.size ≤ C
  cells : ∀ x c, X.env.cells.lookup x = some c → c ≠ C
  pins : ∀ p ∈ X.pn ++ pins, p.1 ≠ C
theorem Gone.inv {X : Cx} {pins : List (Addr × Obj)} {σ : St} {H : Hp} {C : Addr} {s : Shared} {h' : Heap} (G : Gone X pins H C) (I : Inv X pins σ H s) (sb : Heap.SameBut C s.heap h') : Inv X pins σ H { s with heap := h' } :=
  I.turned (t' := s.toks) (fun b o hb e => (sb.2 b hb).trans e) G.free G.loc G.ex G.cells G.pins

theorem comp_core {X : Cx} {elt iter : Expr} {x : Str} {px pos p2 : Pos} {ifs : List Expr} {scope : Scope} {ks : List Nat} {caps : List Str} {wi : TI} {tt : TT} {te : TE} {use : Option (Value → Sem Unit)} {Qr : Value → Shared → Prop} {R : VK}
    (hc : X.calm = true) (S : CScope X scope x ks caps) (hi : PI X (.Name x px) iter wi)
    (ht : ∀ cl fp s₂ H₂ C, PTs (blk X scope (x :: caps) cl fp s₂ H₂ C) ifs tt) (he : ∀ cl fp s₂ H₂ C, PE (blk X scope (x :: caps) cl fp s₂ H₂ C) elt te)
    (hs : ∀ v, foldedSetIterable iter X.env v = pure v)
    {pins : List (Addr × Obj)} {s : Shared} {σ : St} {H : Hp} (I : Inv X pins σ H s) (h : wi σ H fun J H1 => tCompW J tt te (ks.map fun k => σ.getD k none) R H1)
    (fin0 : use = none → ∀ D H' s', Inv X pins σ H' s' → R (.ref D) H' → Qr (.ref D) s')
    (fin1 : ∀ u, use = some u → ∀ D H' s' C, Inv X pins σ H' s' → R (.ref D) H' → Gone X pins H' C → (∃ m, s'.heap.Ns C m) →
      wpAny (model X.prog X.w) X.A (u (.ref D)) (fun _ s'' => ∃ m, s''.heap.Ns C m ∧ ∀ h', Heap.SameBut C s''.heap h' → Qr .none { s'' with heap := h' }) X.xe s') :
    wpAny (model X.prog X.w) X.A (comprehension (.ListComp elt [⟨.Name x px, iter, ifs, 0⟩] scope pos) scope X.env p2 (newList []) false (eval iter X.env) use) Qr X.xe s := by
  obtain ⟨cl, hclos, p1, p3⟩ := closureFor_of (scope := scope) (env := X.env) fun y hy hf => I.ok.has y.1 (S.frees y hy hf)
  refine wpAny_comprehension_free rfl hs hclos S.kind S.names (thn (hi pins s σ H _ I h) fun v s1 h1 => thn h1 fun itv s2 h2 => ?_)
  obtain ⟨it, fp, tn, J, H2, e, I2, T, st2, f2, rd⟩ := h2
  subst e
  have hlt : ∀ b ∈ fp, b < s2.heap.objs.size := fun b hb => by
    obtain ⟨o, ho, _⟩ := T.obj _ _ st2 b hb
    exact Heap.lt_size ho
  obtain ⟨W, ⟨m0, w0⟩, turn⟩ := rd s2.heap.objs.size I2.fresh
  refine wpAny_newObj_type (wpAny_newFunctionEnv S.nocell (by intro y hy; simp at hy) (fun h₁ hns₁ hsb₁ => ?_) S.kind)
  dsimp only at hns₁ hsb₁ ⊢
  generalize hH2 : s2.heap.push { cls := .type "list", dict := none, data := .seq ([] : List Value).toArray } = G2 at hns₁ hsb₁ ⊢
  have hC : G2.objs.size = s2.heap.objs.size + 1 := by rw [← hH2, Heap.size_push]
  have hDC : s2.heap.objs.size ≠ G2.objs.size := by rw [hC]; exact Nat.ne_of_lt (Nat.lt_succ_self _)
  have hCl : s2.heap.objs.size < G2.objs.size := by rw [hC]; exact Nat.lt_succ_self _
  have old : ∀ b o, s2.heap.get? b = some o → h₁.get? b = some o := fun b o e => hsb₁.extBut b o (Nat.ne_of_lt (Nat.lt_trans (Heap.lt_size e) hCl)) (Heap.get?_push_of_some _ (hH2 ▸ Heap.get?_push_of_some _ e))
  have hacc : ∃ n, h₁.get? s2.heap.objs.size = some { cls := .type "list", data := .seq ([] : List Value).toArray n } := ⟨_, hsb₁.extBut _ _ hDC (Heap.get?_push_of_some _ (hH2 ▸ Heap.get?_push_size _ rfl))⟩
  have I3 := blk_inv (cl := cl) (tk := s2.toks + ([] : List (Str × Value)).length) S I2 f2 hlt p1 p3 hCl old hacc hns₁
  have st3 : tn 0 h₁ := T.keep _ _ _ st2 fun b _ o e => old b o e
  have f3 : ∀ b ∈ fp, upd H2 s2.heap.objs.size (.lst []) b = none := fun b hb => by
    rw [upd_ne (Nat.ne_of_lt (hlt b hb))]
    exact (f2 b hb).1
  -- a state of the block is a state of the context around it
  have back : ∀ {σ' : St} {H' : Hp} {s' : Shared} {pl : List (Addr × Obj)}, Inv (blk X scope (x :: caps) cl fp s2 H2 G2.objs.size) pl σ' H' s' → Inv X pins σ H' s' ∧ Gone X pins H' G2.objs.size := fun {σ' H' s' pl} J' => by
    refine ⟨I2.call' (ch := fp) J'.os J'.base J'.hok J'.bare fun b hb => ⟨(f2 b hb).2.2.2.1, (f2 b hb).2.1, (f2 b hb).2.2.2.2.1, (f2 b hb).2.2.2.2.2⟩, J'.free, Nat.ne_of_gt (Nat.lt_trans I2.lt hCl), .inr (Nat.le_trans I2.sz (Nat.le_of_lt hCl)), fun y c e z => ?_, fun p hp z => ?_⟩
    · obtain ⟨v, q⟩ := I2.cell y c e
      exact absurd (Nat.lt_trans q.lt (z ▸ hCl)) (Nat.lt_irrefl _)
    · exact absurd (Nat.lt_trans (Heap.lt_size (I2.pin p hp).1) (z ▸ hCl)) (Nat.lt_irrefl _)
  -- the loop
  have loop : ∀ s₃ : Shared, s₃ = { s2 with heap := h₁, toks := s2.toks + ([] : List (Str × Value)).length } →
      codeAny (model X.prog X.w) X.A (.compLoop (.ListComp elt [⟨.Name x px, iter, ifs, 0⟩] scope pos) 0 (.ref it) (.ref s2.heap.objs.size) (compEnvC scope cl G2.objs.size X.env))
        (compPost (model X.prog X.w) X.A X.xe use Qr (.ref s2.heap.objs.size) G2.objs.size) s₃ := by
    rintro s₃ rfl
    have stat : ∀ {H' : Hp}, (∀ b ∈ fp, H' b = none) → ∀ b ∈ fp, FpOk (blk X scope (x :: caps) cl fp s2 H2 G2.objs.size) [] H' b := fun hn b hb =>
      ⟨hn b hb, Nat.ne_of_lt (Nat.lt_trans (hlt b hb) hCl), fun z => by
        rcases List.mem_cons.mp (I2.stkSub b z) with e | e
        · exact (f2 b hb).2.1 e
        · exact (f2 b hb).2.2.1 e, .inl hb, fun y c e => (f2 b hb).2.2.2.2.1 y c (p1 y c e), fun p hp => absurd (show p ∈ ([] : List (Addr × Obj)) from hp) (by simp)⟩
    refine codeAny_compLoop_tests (fun n s' => ∃ i v0 ys H', Inv (blk X scope (x :: caps) cl fp s2 H2 G2.objs.size) [] (v0 :: ks.map fun k => σ.getD k none) H' s' ∧ tn i s'.heap ∧ (∀ b ∈ fp, H' b = none) ∧ W i n ys H') ?_ m0
      ⟨0, none, [], _, I3, st3, f3, w0⟩
    rintro n s4 ⟨i, v0, ys, H4, I4, st4, fr4, w4⟩
    obtain ⟨hD, hh⟩ := turn i n ys H4 w4
    rcases hh with ⟨stop, qn⟩ | ⟨go, N, hN, step⟩
    · refine thn (T.done (blk X scope (x :: caps) cl fp s2 H2 G2.objs.size) rfl rfl rfl hc i [] s4 _ H4 _ I4 (stat fr4) st4 stop) fun r s5 ⟨hr, I5⟩ => ?_
      subst hr
      obtain ⟨J5, g5⟩ := back I5
      obtain ⟨m5, hn5, _⟩ := I5.loc
      cases use with
      | none => exact ⟨m5, hn5, fun h' sb => fin0 rfl _ H4 _ (g5.inv J5 sb) qn⟩
      | some u => exact fin1 u rfl _ H4 s5 _ J5 qn g5 ⟨m5, hn5⟩
    · refine thn (T.item (blk X scope (x :: caps) cl fp s2 H2 G2.objs.size) rfl rfl rfl hc i [] s4 _ H4 (notedBy (model X.prog X.w) X.A (compEnvC scope cl G2.objs.size X.env) fun e s' => compPost (model X.prog X.w) X.A X.xe use Qr (.ref s2.heap.objs.size) G2.objs.size (.error e) s') I4 (stat fr4) st4 go) fun r s5 ⟨u, hr, h5⟩ => ?_
      subst hr
      show wpAny _ _ (letOwnedTupleGo (.Name x px) (.ref it) u >>= fun _ => assign (.Name x px) (compEnvC scope cl G2.objs.size X.env) u) _ _ s5
      refine wpAny_bind (thn h5 fun _ s6 ⟨y6, H6, I6, r6, yl6, st6, fr6⟩ => ?_)
      have I6' := I6.pinned (stat fr6) (T.obj _ _ st6)
      refine thnE (pg_name (X := blk X scope (x :: caps) cl fp s2 H2 G2.objs.size) (i := 0) S.nd rfl (.inl (lookup_relabel_local S.tgt)) (.inr (lookup_relabel_local S.tgt)) _ s6 _ H6 y6 u (fun σ' H' => σ' = some y6 :: (ks.map fun k => σ.getD k none) ∧ H' = H6) I6' r6 ⟨rfl, rfl⟩) fun _ s7 ⟨σ7, H7, I7, e7, e7'⟩ => ?_
      subst e7 e7'
      have again : ∀ {σ' : St} {H' : Hp} {s' : Shared}, Inv (blk X scope (x :: caps) cl fp s2 H2 G2.objs.size) ([] ++ pinsAt fp s6.heap) σ' H' s' → tn (i + 1) s'.heap ∧ ∀ b ∈ fp, H' b = none := fun {σ' H' s'} J' => by
        refine ⟨T.keep _ _ _ st6 fun b hb o e => (J'.pin (b, o) (List.mem_append_right _ (List.mem_append_right _ (mem_pinsAt hb e)))).1, fun b hb => ?_⟩
        obtain ⟨o, e, d⟩ := T.obj _ _ st6 b hb
        exact (J'.pin (b, o) (List.mem_append_right _ (List.mem_append_right _ (mem_pinsAt hb e)))).2.1
      refine thnE (ht cl fp s2 H2 G2.objs.size _ s7 _ H7 _ I7 (step y6 H7 yl6)) fun b s8 ⟨H8, I8, q8⟩ => ?_
      cases b with
      | false =>
        rw [if_neg Bool.false_ne_true] at q8
        obtain ⟨m', hm, w8⟩ := hN _ _ q8
        rw [if_neg Bool.false_ne_true]
        obtain ⟨a1, a2⟩ := again I8
        exact ⟨m', hm, i + 1, _, ys, H8, I8.unpinned, a1, a2, w8⟩
      | true =>
        rw [if_pos rfl] at q8
        rw [if_pos rfl]
        refine thnE (he cl fp s2 H2 G2.objs.size _ s8 _ H8 _ I8 q8) fun yv s9 ⟨y9, H9, I9, r9, hD9, hz9, n9⟩ => ?_
        obtain ⟨m', hm, w9⟩ := hN _ _ n9
        refine thnE (mt_append (X := blk X scope (x :: caps) cl fp s2 H2 G2.objs.size) _ s9 _ H9 (.ref s2.heap.objs.size) [y9] (.ref s2.heap.objs.size) [yv] (fun _ H' => H' = upd H9 s2.heap.objs.size (.lst (ys ++ [y9]))) I9 rfl (.cons r9 .nil) ⟨_, ys, y9, rfl, rfl, hD9, hz9, rfl⟩) fun _ s10 ⟨_, H10, I10, _, e10⟩ => ?_
        subst e10
        obtain ⟨a1, a2⟩ := again I10
        exact ⟨m', hm, i + 1, _, _, _, I10.unpinned, a1, a2, w9⟩
  exact codeAny_compStart_list (loop _ rfl) (T.self _ _ _ _ _ st3 (loop _ rfl))

/-- [elt for x in iter if ..] -/
def tComp (wi : TI) (ks : List Nat) (tt : TT) (te : TE) : TE := fun σ H Q => wi σ H fun J H1 => tCompW J tt te (ks.map fun k => σ.getD k none) Q H1
theorem pe_comp {X : Cx} {elt iter : Expr} {x : Str} {px pos : Pos} {ifs : List Expr} {scope : Scope} {wi : TI} {tt : TT} {te : TE} (ks : List Nat) (caps : List Str)
    (hc : X.calm = true) (hS : cscopeB X.env.scope X.N scope x ks caps = true) (hi : PI X (.Name x px) iter wi)
    (ht : ∀ cl fp s₂ H₂ C, PTs (blk X scope (x :: caps) cl fp s₂ H₂ C) ifs tt) (he : ∀ cl fp s₂ H₂ C, PE (blk X scope (x :: caps) cl fp s₂ H₂ C) elt te)
    (hs : ∀ v, foldedSetIterable iter X.env v = pure v := by intro _; rfl) : PE X (.ListComp elt [⟨.Name x px, iter, ifs, 0⟩] scope pos) (tComp wi ks tt te) := by
  intro pins s σ H Q I h
  rw [eval_ListComp]
  exact comp_core (use := none) (R := Q) hc (CScope.of hS) hi ht he hs I h (fun _ D H' s' I' q => ⟨.ref D, H', I', rfl, q⟩) fun u e => by cases e
/-- name = [elt for x in iter if ..], the name a local -/
theorem ps_setc {X : Cx} {elt iter : Expr} {x y : Str} {px py pos spos : Pos} {ifs : List Expr} {scope : Scope} {wi : TI} {tt : TT} {te : TE} {i : Nat} (ks : List Nat) (caps : List Str)
    (hN : X.N.Nodup) (hi' : X.N[i]? = some y) (hy : X.env.scope.names.lookup y = some .local)
    (hc : X.calm = true) (hS : cscopeB X.env.scope X.N scope x ks caps = true) (hi : PI X (.Name x px) iter wi)
    (ht : ∀ cl fp s₂ H₂ C, PTs (blk X scope (x :: caps) cl fp s₂ H₂ C) ifs tt) (he : ∀ cl fp s₂ H₂ C, PE (blk X scope (x :: caps) cl fp s₂ H₂ C) elt te)
    (hsw : swapsWith (.ListComp elt [⟨.Name x px, iter, ifs, 0⟩] scope pos) (some (.Name y py)) spos.line X.env = pure true)
    (hs : ∀ v, foldedSetIterable iter X.env v = pure v := by intro _; rfl) : PS X (.Assign [.Name y py] (.ListComp elt [⟨.Name x px, iter, ifs, 0⟩] scope pos) spos) (tAsg (tComp wi ks tt te) (gName i)) := by
  intro pins s σ H D I h
  rw [exec_Assign_Name_used _ _ _ _ hsw]
  refine wpAny_bind (wpAny_standAt (wpAny_bind ?_))
  show wpAny _ X.A (do let _ ← comprehension (.ListComp elt [⟨.Name x px, iter, ifs, 0⟩] scope pos) scope X.env _ (newList []) false (eval iter X.env) (some (assign (.Name y py) X.env))) _ _ s
  refine wpAny_bind (thn (comp_core (use := some (assign (.Name y py) X.env)) (Qr := fun _ s' => SP X pins D .next s') (R := fun v H' => gName i v σ H' D.nx) hc (CScope.of hS) hi ht he hs I h (fun e => by cases e) fun u e D' H' s' C I' q G ⟨m, hn⟩ => ?_) fun _ s' q => wpAny_pure (wpAny_pure q))
  cases e
  refine wpAny_assign_Name (store_ok2 I' hN hi' (.inl hy) (v := .ref D') (show RelV (.ref D') (.ref D') from rfl) (fun s'' I'' ⟨a, sb, ha⟩ => ?_) (.inr hy))
  have hCa : C ≠ a := by
    rcases ha with z | z
    · rw [z]; exact G.loc
    · exact Ne.symm (G.cells _ _ z)
  exact ⟨m, hn.sameBut sb hCa, fun h' sb' => ⟨_, H', G.inv I'' sb', q⟩⟩

/-! ### the forms one uses: Pv D i ys H by the new list D, the turn, what is gathered, the heap (D is in it) -/
theorem comp_list {K : PySem.W.Frag} {a : Addr} {xs : List V} {tt : TT} {te : TE} {cv : List (Option V)} {Q : VK} {H1 : Hp} (Pv : Addr → Nat → List V → Hp → Prop) (h0 : ∀ D, H1 D = none → Pv D 0 [] (upd H1 D (.lst [])))
    (hl : ∀ D i ys H, H1 D = none → i ≤ xs.length → Pv D i ys H → H D = some (.lst ys) ∧ SqL K H a xs)
    (hs : ∀ D i x ys H, H1 D = none → xs[i]? = some x → Pv D i ys H → tt (some x :: cv) H fun b H2 => if b = true then te (some x :: cv) H2 (fun y H3 => H3 D = some (.lst ys) ∧ ys.length < sizeLine ∧ Pv D (i + 1) (ys ++ [y]) (upd H3 D (.lst (ys ++ [y])))) else Pv D (i + 1) ys H2)
    (hd : ∀ D ys H, H1 D = none → Pv D xs.length ys H → Q (.ref D) H) : tCompW (Itl K a) tt te cv Q H1 := fun D hD => by
  refine ⟨fun i m ys H => m = xs.length - i ∧ i ≤ xs.length ∧ Pv D i ys H, ⟨xs.length, by simp, Nat.zero_le _, h0 D hD⟩, ?_⟩
  rintro i m ys H ⟨rfl, hi, p⟩
  obtain ⟨q1, q2⟩ := hl D i ys H hD hi p
  refine ⟨q1, ?_⟩
  by_cases hlt : i < xs.length
  · refine .inr ⟨⟨xs, xs[i], q2, by simp [hlt]⟩, Pv D (i + 1), fun ys' H' p' => ⟨xs.length - (i + 1), by omega, rfl, hlt, p'⟩, fun x H' y => ?_⟩
    obtain ⟨e, y⟩ := y
    subst e
    exact hs D i x ys _ hD (y xs q2) p
  · have e : i = xs.length := by omega
    subst e
    exact .inl ⟨⟨xs, q2, Nat.le_refl _⟩, hd D ys H hD p⟩
theorem comp_range {lo : Int} {n : Nat} {tt : TT} {te : TE} {cv : List (Option V)} {Q : VK} {H1 : Hp} (Pv : Addr → Nat → List V → Hp → Prop) (h0 : ∀ D, H1 D = none → Pv D 0 [] (upd H1 D (.lst [])))
    (hl : ∀ D i ys H, H1 D = none → i ≤ n → Pv D i ys H → H D = some (.lst ys))
    (hs : ∀ D i ys H, H1 D = none → i < n → Pv D i ys H → tt (some (.int (lo + i)) :: cv) H fun b H2 => if b = true then te (some (.int (lo + i)) :: cv) H2 (fun y H3 => H3 D = some (.lst ys) ∧ ys.length < sizeLine ∧ Pv D (i + 1) (ys ++ [y]) (upd H3 D (.lst (ys ++ [y])))) else Pv D (i + 1) ys H2)
    (hd : ∀ D ys H, H1 D = none → Pv D n ys H → Q (.ref D) H) : tCompW (Itr lo n) tt te cv Q H1 := fun D hD => by
  refine ⟨fun i m ys H => m = n - i ∧ i ≤ n ∧ Pv D i ys H, ⟨n, by simp, Nat.zero_le _, h0 D hD⟩, ?_⟩
  rintro i m ys H ⟨rfl, hi, p⟩
  refine ⟨hl D i ys H hD hi p, ?_⟩
  by_cases hlt : i < n
  · refine .inr ⟨hlt, Pv D (i + 1), fun ys' H' p' => ⟨n - (i + 1), by omega, rfl, hlt, p'⟩, fun x H' y => ?_⟩
    obtain ⟨e, y⟩ := y
    subst e y
    exact hs D i ys _ hD hlt p
  · have e : i = n := by omega
    subst e
    exact .inl ⟨Nat.le_refl _, hd D ys H hD p⟩
end L3

set_option Elab.async false
set_option linter.all false
set_option maxRecDepth 100000
set_option maxHeartbeats 4000000
namespace L3
open PySem PySem.Spec L2
open PyProof.Rows hiding St

/-! ### data: what a value stands for, over the abstract heap -/
mutual
def RepD (K : PySem.W.Frag) (H : Hp) : PyData → V → Prop
  | .none, v => v = .non
  | .bool b, v => v = .bl b
  | .int i, v => v = .int i
  | .str x, v => v = .str x
  | .tuple ds, v => ∃ a xs, v = .ref a ∧ SqT K H a xs ∧ RepDs K H ds xs
  | .list ds, v => ∃ a xs, v = .ref a ∧ SqL K H a xs ∧ RepDs K H ds xs
  | .dict _, _ => False
def RepDs (K : PySem.W.Frag) (H : Hp) : List PyData → List V → Prop
  | [], xs => xs = []
  | d :: ds, xs => ∃ x r, xs = x :: r ∧ RepD K H d x ∧ RepDs K H ds r
end

section
variable {X : Cx} {pins : List (Addr × Obj)} {σ : St} {H : Hp} {s : Shared}
mutual
theorem RepD.reads (I : Inv X pins σ H s) : ∀ (d : PyData) (v : V) (u : Value), RepD X.K H d v → RelV v u → ∃ as, Reads s.heap u d as
  | .none, v, u, h, r => by
    have h : v = .non := by simpa only [RepD] using h
    subst h; cases r; exact ⟨_, .none⟩
  | .bool b, v, u, h, r => by
    have h : v = .bl b := by simpa only [RepD] using h
    subst h; cases r; exact ⟨_, .bool b⟩
  | .int i, v, u, h, r => by
    have h : v = .int i := by simpa only [RepD] using h
    subst h; obtain ⟨t, rfl⟩ := r; exact ⟨_, .int i t⟩
  | .str x, v, u, h, r => by
    have h : v = .str x := by simpa only [RepD] using h
    subst h; obtain ⟨t, rfl⟩ := r; exact ⟨_, .str x t⟩
  | .tuple ds, v, u, h, r => by
    obtain ⟨a, xs, rfl, q, rs⟩ : ∃ a xs, v = .ref a ∧ SqT X.K H a xs ∧ RepDs X.K H ds xs := by simpa only [RepD] using h
    cases r
    obtain ⟨its, rv, ⟨o, ho, hc, n, hd⟩, _⟩ := I.tuple q
    obtain ⟨as, ra⟩ := RepDs.reads I ds xs its rs rv
    exact ⟨_, .tuple ho hc hd (by simpa using ra)⟩
  | .list ds, v, u, h, r => by
    obtain ⟨a, xs, rfl, q, rs⟩ : ∃ a xs, v = .ref a ∧ SqL X.K H a xs ∧ RepDs X.K H ds xs := by simpa only [RepD] using h
    cases r
    obtain ⟨its, rv, p, _⟩ := I.list q
    obtain ⟨o, ho, hc, n, hd⟩ := p.isList
    obtain ⟨as, ra⟩ := RepDs.reads I ds xs its rs rv
    exact ⟨_, .list ho hc hd (by simpa using ra)⟩
  | .dict _, v, u, h, r => by
    have h : False := by simpa only [RepD] using h
    exact h.elim
theorem RepDs.reads (I : Inv X pins σ H s) : ∀ (ds : List PyData) (xs : List V) (us : List Value), RepDs X.K H ds xs → Vals xs us → ∃ as, ReadsAll s.heap us ds as
  | [], xs, us, h, r => by
    have h : xs = [] := by simpa only [RepDs] using h
    subst h; cases r; exact ⟨_, .nil⟩
  | d :: ds, xs, us, h, r => by
    obtain ⟨x, r', rfl, h1, h2⟩ : ∃ x r, xs = x :: r ∧ RepD X.K H d x ∧ RepDs X.K H ds r := by simpa only [RepDs] using h
    cases r with
    | cons p q =>
      obtain ⟨as, ra⟩ := RepD.reads I d _ _ h1 p
      obtain ⟨bs, rb⟩ := RepDs.reads I ds _ _ h2 q
      exact ⟨_, .cons ra rb⟩
end

/-- what never changes -/
structure Imm (H H' : Hp) : Prop where
  tup : ∀ b xs, H b = some (.tup xs) → H' b = some (.tup xs)
  frz : ∀ b o u, H b = some (.frz o u) → H' b = some (.frz o u)
theorem _root_.L2.Same.imm {H H' : Hp} (e : Same H H') : Imm H H' := ⟨fun _ _ h => e _ _ h, fun _ _ _ h => e _ _ h⟩
theorem Imm.sqT {K : PySem.W.Frag} {H H' : Hp} (e : Imm H H') {a : Addr} {xs : List V} (h : SqT K H a xs) : SqT K H' a xs := by
  rcases h with (h | ⟨o, h⟩) | h
  · exact .inl (.inl (e.tup _ _ h))
  · exact .inl (.inr ⟨o, e.frz _ _ _ h⟩)
  · exact .inr h
theorem _root_.L2.Same.sqT {K : PySem.W.Frag} {H H' : Hp} (e : Same H H') {a : Addr} {xs : List V} (h : SqT K H a xs) : SqT K H' a xs := e.imm.sqT h
/-- a new object laid -/
theorem same_new {H : Hp} {p : Addr} {o : HO} (h : H p = none) : Same H (upd H p o) := fun b u e => by rw [upd_ne (ne_of_none e h)]; exact e
theorem imm_lst {H : Hp} {p : Addr} {xs ys : List V} (h : H p = some (.lst xs)) : Imm H (upd H p (.lst ys)) :=
  ⟨fun b zs e => by rw [upd_ne (ne_of e h (by intro z; cases z))]; exact e, fun b o u e => by rw [upd_ne (ne_of e h (by intro z; cases z))]; exact e⟩
theorem imm_ins {H : Hp} {p C dx C' dx' : Addr} {fs gs : List (Str × V)} (h : H p = some (.ins C dx fs)) : Imm H (upd H p (.ins C' dx' gs)) :=
  ⟨fun b zs e => by rw [upd_ne (ne_of e h (by intro z; cases z))]; exact e, fun b o u e => by rw [upd_ne (ne_of e h (by intro z; cases z))]; exact e⟩

/-! data without a list in it -/
mutual
def noList : PyData → Bool
  | .none | .bool _ | .int _ | .str _ => true
  | .tuple ds => noLists ds
  | _ => false
def noLists : List PyData → Bool
  | [] => true
  | d :: ds => noList d && noLists ds
end
mutual
theorem RepD.imm {K : PySem.W.Frag} {H H' : Hp} (e : Imm H H') : ∀ (d : PyData) (v : V), noList d = true → RepD K H d v → RepD K H' d v
  | .none, v, _, h => by simpa only [RepD] using h
  | .bool b, v, _, h => by simpa only [RepD] using h
  | .int i, v, _, h => by simpa only [RepD] using h
  | .str x, v, _, h => by simpa only [RepD] using h
  | .tuple ds, v, n, h => by
    obtain ⟨a, xs, rfl, q, rs⟩ : ∃ a xs, v = .ref a ∧ SqT K H a xs ∧ RepDs K H ds xs := by simpa only [RepD] using h
    simp only [RepD]
    exact ⟨a, xs, rfl, e.sqT q, RepDs.imm e ds xs (by simpa only [noList] using n) rs⟩
  | .list ds, v, n, h => by simp [noList] at n
  | .dict _, v, n, h => by simp [noList] at n
theorem RepDs.imm {K : PySem.W.Frag} {H H' : Hp} (e : Imm H H') : ∀ (ds : List PyData) (xs : List V), noLists ds = true → RepDs K H ds xs → RepDs K H' ds xs
  | [], xs, _, h => by simpa only [RepDs] using h
  | d :: ds, xs, n, h => by
    obtain ⟨x, r', rfl, h1, h2⟩ : ∃ x r, xs = x :: r ∧ RepD K H d x ∧ RepDs K H ds r := by simpa only [RepDs] using h
    simp only [noLists, Bool.and_eq_true] at n
    simp only [RepDs]
    exact ⟨x, r', rfl, RepD.imm e d x n.1 h1, RepDs.imm e ds r' n.2 h2⟩
end
mutual
theorem RepD.same {K : PySem.W.Frag} {H H' : Hp} (e : Same H H') : ∀ (d : PyData) (v : V), RepD K H d v → RepD K H' d v
  | .none, v, h => by simpa only [RepD] using h
  | .bool b, v, h => by simpa only [RepD] using h
  | .int i, v, h => by simpa only [RepD] using h
  | .str x, v, h => by simpa only [RepD] using h
  | .tuple ds, v, h => by
    obtain ⟨a, xs, rfl, q, rs⟩ : ∃ a xs, v = .ref a ∧ SqT K H a xs ∧ RepDs K H ds xs := by simpa only [RepD] using h
    simp only [RepD]
    exact ⟨a, xs, rfl, e.sqT q, RepDs.same e ds xs rs⟩
  | .list ds, v, h => by
    obtain ⟨a, xs, rfl, q, rs⟩ : ∃ a xs, v = .ref a ∧ SqL K H a xs ∧ RepDs K H ds xs := by simpa only [RepD] using h
    simp only [RepD]
    exact ⟨a, xs, rfl, e.seq q, RepDs.same e ds xs rs⟩
  | .dict _, v, h => by
    have h : False := by simpa only [RepD] using h
    exact h.elim
theorem RepDs.same {K : PySem.W.Frag} {H H' : Hp} (e : Same H H') : ∀ (ds : List PyData) (xs : List V), RepDs K H ds xs → RepDs K H' ds xs
  | [], xs, h => by simpa only [RepDs] using h
  | d :: ds, xs, h => by
    obtain ⟨x, r', rfl, h1, h2⟩ : ∃ x r, xs = x :: r ∧ RepD K H d x ∧ RepDs K H ds r := by simpa only [RepDs] using h
    simp only [RepDs]
    exact ⟨x, r', rfl, RepD.same e d x h1, RepDs.same e ds r' h2⟩
end

/-! ### == and != of data -/
def rEqD (K : PySem.W.Frag) (n : Nat) : R2 := fun x y H Q => ∃ d d', RepD K H d x ∧ RepD K H d' y ∧ d.canLay0 = true ∧ d'.canLay0 = true ∧ min d.depth d'.depth ≤ n ∧ Q (.bl (PyData.eqv d d')) H
theorem op_eqD {n : Nat} (hu : X.A.units + n < cLine) : OpR X (compareOp .Eq) (rEqD X.K n) := by
  intro pins s σ H x y v u Q I rx ry h
  obtain ⟨d, d', h1, h2, c1, c2, hd, q⟩ := h
  obtain ⟨as, ra⟩ := RepD.reads I d x v h1 rx
  obtain ⟨bs, rb⟩ := RepD.reads I d' y u h2 ry
  exact SeqAt.compareEq_reads ra rb c1 c2 (by omega) ⟨.bl _, H, I, rfl, q⟩
/-- x not in a list of data -/
def rInD (K : PySem.W.Frag) (n : Nat) (neg : Bool) : R2 := fun x y H Q => ∃ d ds, RepD K H d x ∧ RepD K H (.list ds) y ∧ d.canLay0 = true ∧ PyData.canLayAll0 ds = true ∧ min (PyData.depthAll ds) d.depth ≤ n ∧
  Q (.bl (if neg then !ds.any fun y => PyData.eqv y d else ds.any fun y => PyData.eqv y d)) H
theorem op_notInD {n : Nat} (hu : X.A.units + 1 + n < cLine) : OpR X (compareOp .NotIn) (rInD X.K n true) := by
  intro pins s σ H x y v u Q I rx ry h
  obtain ⟨d, ds, h1, h2, c1, c2, hd, q⟩ := h
  obtain ⟨as, ra⟩ := RepD.reads I d x v h1 rx
  obtain ⟨bs, rb⟩ := RepD.reads I _ y u h2 ry
  exact SeqAt.notIn_list_reads rb ra c2 c1 (by omega) ⟨.bl _, H, I, rfl, q⟩

/-! ### all(list of bools), isinstance -/
theorem truth_bools {P : Program} {w : World} {A : Around} {bs : List Bool} {its : List Value} (hv : Vals (bs.map V.bl) its) :
    TruthOf P w A (fun i v => its.toArray[i]? = some v) (fun i => bs.getD i false) := by
  intro i v s Q E hP hQ
  have hP' : its[i]? = some v := by simpa using hP
  have hl : (bs.map V.bl).length = its.length := hv.length
  have hi : i < its.length := (List.getElem?_eq_some_iff.mp hP').1
  have hi' : i < bs.length := by rw [List.length_map] at hl; omega
  obtain ⟨u, hu, ru⟩ := hv.get (i := i) (x := .bl (bs.getD i false)) (by simp [List.getElem?_map, List.getD_eq_getElem?_getD, List.getElem?_eq_getElem hi'])
  rw [hP'] at hu
  cases hu
  cases ru
  exact wpAny_truthy_bool hQ
theorem all_range {bs : List Bool} : (List.range bs.length).all (fun i => bs.getD i false) = bs.all id := by
  rw [Bool.eq_iff_iff]
  simp only [List.all_eq_true, List.mem_range, id]
  constructor
  · intro h b hb
    obtain ⟨i, hi, rfl⟩ := List.mem_iff_getElem.mp hb
    have := h i hi
    simpa [List.getD_eq_getElem?_getD, List.getElem?_eq_getElem hi] using this
  · intro h i hi
    have := h bs[i] (List.getElem_mem hi)
    simpa [List.getD_eq_getElem?_getD, List.getElem?_eq_getElem hi] using this
theorem boot_all : bootBuiltins "all" = some (.builtin "all") := by decide +kernel
theorem boot_isi : bootBuiltins "isinstance" = some (.builtin "isinstance") := by decide +kernel
theorem boot_tup : bootBuiltins "tuple" = some (.type "tuple") := by decide +kernel
theorem boot_bl : bootBuiltins "bool" = some (.type "bool") := by decide +kernel
theorem boot_lst : bootBuiltins "list" = some (.type "list") := by decide +kernel
theorem boot_it : bootBuiltins "int" = some (.type "int") := by decide +kernel
theorem call_all (hc : X.calm = true) : CallR X (.builtin "all") (fun xs H Q => ∃ (p : Addr) (bs : List Bool), xs = [.ref p] ∧ SqL X.K H p (bs.map V.bl) ∧ Q (.bl (bs.all id)) H) := by
  intro pins s σ H xs us Q I r h
  obtain ⟨p, bs, rfl, hq, q⟩ := h
  obtain ⟨u, rfl, rx⟩ := vals1 r
  cases rx
  obtain ⟨its, rv, pl, hz⟩ := I.list hq
  have hlen := rv.length
  rw [List.length_map] at hlen
  obtain ⟨op, hop, _⟩ := pl.isList
  refine call_all_walk (wpAny_pyIter_list pl.isList ?_)
  refine ⟨s.heap.objs.size, _, _, _, _, _, fun i => bs.getD i false, rfl, Walks.list (A := X.A.in1) (show X.A.in1.handled = none from I.ok.hd hc) s.heap.objs.size p (Nat.ne_of_lt (Heap.lt_size hop)) its.toArray, ⟨⟨_, Heap.get?_push_size _ rfl, rfl, rfl⟩, by obtain ⟨o, ho, hh⟩ := pl.isList; exact ⟨o, Heap.get?_push_of_some _ ho, hh⟩⟩, truth_bools rv, fun h' tk kk => ?_⟩
  refine ⟨.bl _, H, I.kept (t' := tk) (h' := h') fun b o e => kk b o (by simp; exact Nat.ne_of_lt (Heap.lt_size e)) (Heap.get?_push_of_some _ e), ?_, q⟩
  rw [List.size_toArray, ← hlen, all_range]
  exact rfl
theorem ixT {X : Cx} (K : PySem.W.Frag) (h : X.K = K := by rfl) : IxR X (rIxT K) := h ▸ ix_tup
theorem ixL {X : Cx} (K : PySem.W.Frag) (h : X.K = K := by rfl) : IxR X (rIxL K) := h ▸ ix_list
theorem room_data {k : Nat} {A : Around} (hr : Room k A) : A.units + 10 < cLine := by have := hr.units; omega
theorem room_in {k : Nat} {A : Around} (hr : Room k A) : A.units + 1 + 10 < cLine := by have := hr.units; omega
theorem same_upd {H H' : Hp} {p : Addr} {o : HO} (e : Same H H') (h : H p = none) : Same H (upd H' p o) := fun b u z => by rw [upd_ne (ne_of_none z h)]; exact e b u z
end
end L3

set_option Elab.async false
set_option linter.all false
set_option maxRecDepth 100000
set_option maxHeartbeats 4000000
namespace L3
open PySem PySem.Spec L2
open PyProof.Rows hiding St
section
variable {X : Cx}
/-- isinstance(x, T), T one class -/
theorem call_isi : CallR X (.builtin "isinstance") (fun xs H Q => ∃ x T t b, xs = [x, .ty T] ∧ TyOf X.K H x t ∧ PySem.W.kitOne X.K t (.type T) = some b ∧ Q (.bl b) H) := by
  intro pins s σ H xs us Q I r h
  obtain ⟨x, T, t, b, rfl, ty, e, q⟩ := h
  obtain ⟨u, v, rfl, ru, rv⟩ := vals2 r
  obtain rfl : v = Value.type T := rv
  exact isinst_ok I ru ty e fun tk => ⟨.bl b, H, I.tok tk, rfl, q⟩
theorem kit_bool {K : PySem.W.Frag} : PySem.W.kitOne K (.type "bool") (.type "bool") = some true := rfl
theorem kit_int {K : PySem.W.Frag} : PySem.W.kitOne K (.type "int") (.type "int") = some true := rfl
end
end L3

set_option Elab.async false
set_option linter.all false
set_option maxRecDepth 100000
set_option maxHeartbeats 4000000
namespace L3
open PySem PySem.Spec L2
open PyProof.Rows hiding St

/-! ### the layer's rules, with what they ask of names checked by one run of the kernel -/
def seenB (N : List Str) (sc : Scope) : Bool := N.all fun x => (sc.names.lookup x == some .local || sc.names.lookup x == some .cell || sc.names.lookup x == some .free) && !(x == ("__debug__" : Str)) && !(x == ("__classdict__" : Str))
def ownB (N : List Str) (sc : Scope) : Bool := seenB N sc && decide N.Nodup && N.all fun x => sc.names.lookup x == some .local || sc.names.lookup x == some .cell
/-- the names of a context can be read -/
structure Seen (X : Cx) : Prop where
  vis : ∀ (i : Nat) x, X.N[i]? = some x → Vis X.env.scope x ∧ (x == ("__debug__" : Str)) = false ∧ (x == ("__classdict__" : Str)) = false
/-- .. and stored -/
structure Own (X : Cx) : Prop extends Seen X where
  nd : X.N.Nodup
  loc : ∀ (i : Nat) x, X.N[i]? = some x → Loc X.env.scope x
theorem Seen.of {X : Cx} (h : seenB X.N X.env.scope = true) : Seen X := ⟨fun i x e => by
  have := List.all_eq_true.mp h x (List.mem_of_getElem? e)
  simp only [Bool.and_eq_true, Bool.or_eq_true, beq_iff_eq, Bool.not_eq_true'] at this
  obtain ⟨⟨h1, h2⟩, h3⟩ := this
  refine ⟨?_, h2, h3⟩
  rcases h1 with (h | h) | h
  · exact .inl h
  · exact .inr (.inl h)
  · exact .inr (.inr h)⟩
theorem Own.of {X : Cx} (h : ownB X.N X.env.scope = true) : Own X := by
  unfold ownB at h
  rw [Bool.and_eq_true, Bool.and_eq_true] at h
  refine ⟨Seen.of h.1.1, of_decide_eq_true h.1.2, fun i x e => ?_⟩
  have := List.all_eq_true.mp h.2 x (List.mem_of_getElem? e)
  simp only [Bool.or_eq_true, beq_iff_eq] at this
  exact this

/-! ### plain arguments -/
def isStar : Expr → Bool
  | .Starred _ _ => true
  | _ => false
def isSlc : Expr → Bool
  | .Slice _ _ _ _ => true
  | _ => false
def isComp : Expr → Bool
  | .ListComp _ _ _ _ => true
  | .SetComp _ _ _ _ => true
  | .DictComp _ _ _ _ _ => true
  | _ => false
def noStars : List Expr → Bool
  | [] => true
  | e :: es => !isStar e && noStars es
theorem star_cons {e : Expr} {es : List Expr} {env : Env} (h : isStar e = false) : starEach (e :: es) env = (false, eval e env) :: starEach es env := by
  cases e <;> first | rfl | cases h
theorem back_any {pos : Pos} {env : Env} : ∀ {es : List Expr}, noStars es = true → (backTo pos (starEach es env)).any (·.1) = false
  | [], _ => rfl
  | e :: es, h => by
    simp only [noStars, Bool.and_eq_true, Bool.not_eq_true'] at h
    rw [star_cons h.1]
    show (false || (backTo pos (starEach es env)).any (·.1)) = false
    rw [back_any h.2]
    rfl
theorem back_all {pos : Pos} {env : Env} : ∀ {es : List Expr}, noStars es = true → (backTo pos (starEach es env)).all (fun x => !x.1) = true
  | [], _ => rfl
  | e :: es, h => by
    simp only [noStars, Bool.and_eq_true, Bool.not_eq_true'] at h
    rw [star_cons h.1]
    show (!false && (backTo pos (starEach es env)).all (fun x => !x.1)) = true
    rw [back_all h.2]
    rfl
theorem swaps_no {e : Expr} {t : Option Expr} {l : Nat} {env : Env} (h : isComp e = false) : swapsWith e t l env = pure false := by
  cases e <;> first | rfl | cases h
theorem plain_ix {b : Expr} (h : isSlc b = false) : PlainIx b := by
  intro o i
  cases b <;> first | rfl | cases h
theorem few_of {pos : Pos} {env : Env} {e : Expr} {es : List Expr} (h : noStars (e :: es) = true) (hl : (e :: es).length < 20) :
    ((backTo pos (starEach (e :: es) env)).all (fun x => !x.1) && (backToKw pos (keywordEach [] env)).all (fun x => x.1.isSome)
      && decide ((e :: es).length + ([] : List Keyword).length + (if ([] : List Keyword).isEmpty then 0 else 1) < 30)) = true := by
  rw [back_all h]
  simp only [Bool.true_and, Bool.and_eq_true]
  refine ⟨rfl, decide_eq_true ?_⟩
  simp only [List.length_cons, List.length_nil, List.isEmpty_nil, if_true] at hl ⊢
  omega

section
variable {X : Cx}
theorem Seen.v (S : Seen X) (i : Nat) {x : Str} {pos : Pos} (hN : X.N[i]? = some x := by rfl) : PE X (.Name x pos) (tVar i) := pe_var hN (S.vis i x hN).1 (S.vis i x hN).2.1 (S.vis i x hN).2.2
theorem Own.v (S : Own X) (i : Nat) {x : Str} {pos : Pos} (hN : X.N[i]? = some x := by rfl) : PE X (.Name x pos) (tVar i) := S.toSeen.v i hN
theorem Own.set (S : Own X) (i : Nat) {x : Str} {e : Expr} {te : TE} {pos pos' : Pos} (he : PE X e te) (hN : X.N[i]? = some x := by rfl) (hs : isComp e = false := by rfl) (hf : X.fn x = true := by rfl) :
    PS X (.Assign [.Name x pos'] e pos) (tAsg te (gName i)) := ps_set S.nd hN (S.loc i x hN) he (swaps_no hs) (.inl hf)
theorem Own.tg (S : Own X) (i : Nat) {x : Str} {pos : Pos} (hN : X.N[i]? = some x := by rfl) (hf : X.fn x = true := by rfl) : PG X (.Name x pos) (gName i) := pg_name S.nd hN (S.loc i x hN) (.inl hf)

def glB (sc : Scope) (x : Str) : Bool := (sc.names.lookup x == some .globalImplicit) && !(x == ("__name__" : Str)) && !(x == ("__debug__" : Str))
theorem gl_of {x : Str} (h : glB X.env.scope x = true) : Gl X x ∧ x ≠ "__name__" ∧ (x == ("__debug__" : Str)) = false := by
  unfold glB at h
  simp only [Bool.and_eq_true, beq_iff_eq, Bool.not_eq_true'] at h
  refine ⟨h.1.1, fun e => ?_, h.2⟩
  have := h.1.2
  rw [e] at this
  simp at this
theorem cB {x : Str} {p pos : Pos} {e : Expr} {es : List Expr} {t : TA} {id : String} {r : List V → Hp → VK → Prop} (hc : CallR X (.builtin id) r) (hm : X.mg x = none) (hv : bootBuiltins x = some (.builtin id)) (ha : PA X (e :: es) t) (hg : glB X.env.scope x = true := by kernel_rfl)
    (h1 : isStar e = false := by rfl) (h2 : noStars es = true := by rfl) : PE X (.Call (.Name x p) (e :: es) [] pos) (tCB r t) :=
  pe_callB hc (gl_of hg).1 hm hv ha (gl_of hg).2.1 (gl_of hg).2.2 (star_cons h1) (back_any h2)
theorem cT {x : Str} {p pos : Pos} {e : Expr} {es : List Expr} {t : TA} {T : String} {r : List V → Hp → VK → Prop} (hc : CallR X (.type T) r) (hm : X.mg x = none) (hv : bootBuiltins x = some (.type T)) (ha : PA X (e :: es) t) (hg : glB X.env.scope x = true := by kernel_rfl)
    (h1 : isStar e = false := by rfl) (h2 : noStars es = true := by rfl) : PE X (.Call (.Name x p) (e :: es) [] pos) (tCB r t) :=
  pe_callTy hc (gl_of hg).1 hm hv ha (gl_of hg).2.1 (gl_of hg).2.2 (star_cons h1) (back_any h2)
/-- a def of the text, called -/
theorem cF {CX : CXT} {k : Nat} {f : Addr} {fd : FuncData} {ps : List Str} {sp : Sp} {ds : List Value} {dvs : List V} {E : XK} {x : Str} {p pos : Pos} {e : Expr} {es : List Expr} {t : TA}
    (F : FnOk X.prog X.w X.K X.mg X.base CX k f fd ps sp) (hr : Room k X.A) (hm : X.mg x = some (.ref f)) (hk : PySem.W.keepIn X.K (.ref f) = true) (hb : Binds X.K fd ps ds) (hd : Vals dvs ds) (hx : Passes CX X E) (ha : PA X (e :: es) t) (hg : glB X.env.scope x = true := by kernel_rfl)
    (h1 : isStar e = false := by rfl) (h2 : noStars es = true := by rfl) : PE X (.Call (.Name x p) (e :: es) [] pos) (tCall sp dvs E t) :=
  pe_call F hr (gl_of hg).1 hm hk hb hd hx ha (gl_of hg).2.2 (star_cons h1) (back_any h2)
/-- a built-in class by its name -/
theorem nT {x : Str} {T : String} {pos : Pos} (hm : X.mg x = none) (hv : bootBuiltins x = some (.type T)) (hg : glB X.env.scope x = true := by kernel_rfl) : PE X (.Name x pos) (tC (.ty T)) :=
  pe_bltn (gl_of hg).1 hm hv (v := .ty T) rfl (gl_of hg).2.1 (gl_of hg).2.2
theorem rng1 {tg a : Expr} {ta : TA} {p pos : Pos} (hm : X.mg "range" = none) (ha : PA X [a] ta) (hg : glB X.env.scope "range" = true := by kernel_rfl) (h1 : isStar a = false := by rfl) : PI X tg (.Call (.Name "range" p) [a] [] pos) (iRng1 ta) :=
  pi_range1 (gl_of hg).1 hm ha (star_cons h1)
theorem aC {e : Expr} {es : List Expr} {te : TE} {t : TA} (ha : PE X e te) (hr : PA X es t) (h1 : isStar e = false := by rfl) : PA X (e :: es) (tCons te t) := pa_cons ha hr (star_cons h1)
theorem iX {r : R2} {a b : Expr} {ta tb : TE} {pos : Pos} (hr : IxR X r) (ha : PE X a ta) (hb : PE X b tb) (h1 : isSlc b = false := by rfl) : PE X (.Subscript a b pos) (tOp r ta tb) := pe_ix hr ha hb (plain_ix h1)
theorem bM {o e : Expr} {es : List Expr} {to : TE} {t : TA} {name : Str} {apos cpos : Pos} {T id : String} {r : V → List V → Hp → VK → Prop} (pa : PlainAttrs T) (slot : Slot T name id) (hty : typeOf (.builtin id) = pure (.type "method_descriptor")) (hm : MtR X id r) (ho : PE X o to) (ha : PA X (e :: es) t)
    (hbase : attributeBase o name X.env (eval o X.env) = eval o X.env := by rfl) (h1 : noStars (e :: es) = true := by rfl) (hl : (e :: es).length < 20 := by decide)
    (hline : (apos.endLine == cpos.line) = true := by rfl) : PE X (.Call (.Attribute o name apos) (e :: es) [] cpos) (tBM X.K T r to t) := by
  have h2 : isStar e = false ∧ noStars es = true := by simpa [noStars] using h1
  exact pe_bm pa slot hty hm ho ha hbase (few_of h1 hl) hline (star_cons h2.1) (back_any h2.2)
/-- xs.append(e) -/
theorem mApp {o e : Expr} {to te : TE} {apos cpos : Pos} (ho : PE X o to) (ha : PE X e te) (hbase : attributeBase o "append" X.env (eval o X.env) = eval o X.env := by rfl) (h1 : isStar e = false := by rfl) (hline : (apos.endLine == cpos.line) = true := by rfl) :
    PE X (.Call (.Attribute o "append" apos) [e] [] cpos) (tBM X.K "list" rAppend to (tCons te tNil)) :=
  bM PySem.F.plainAttrs_list PySem.F.slot_list_append PySem.F.type_list_append mt_append ho (aC ha pa_nil h1) hbase (by simp [noStars, h1]) (by show 1 < 20; decide) hline
/-- the same from the check itself -/
theorem oV (B : ownB X.N X.env.scope = true) (i : Nat) {x : Str} {pos : Pos} (hN : X.N[i]? = some x := by rfl) : PE X (.Name x pos) (tVar i) := (Own.of B).v i hN
theorem oS (B : ownB X.N X.env.scope = true) (i : Nat) {x : Str} {e : Expr} {te : TE} {pos pos' : Pos} (he : PE X e te) (hN : X.N[i]? = some x := by rfl) (hs : isComp e = false := by rfl) (hf : X.fn x = true := by rfl) :
    PS X (.Assign [.Name x pos'] e pos) (tAsg te (gName i)) := (Own.of B).set i he hN hs hf
theorem oT (B : ownB X.N X.env.scope = true) (i : Nat) {x : Str} {pos : Pos} (hN : X.N[i]? = some x := by rfl) (hf : X.fn x = true := by rfl) : PG X (.Name x pos) (gName i) := (Own.of B).tg i hN hf
theorem sV (i : Nat) {x : Str} {pos : Pos} (hN : X.N[i]? = some x := by rfl) (B : seenB X.N X.env.scope = true := by kernel_rfl) : PE X (.Name x pos) (tVar i) := (Seen.of B).v i hN
/-- name = [.. for ..] -/
theorem oC {elt iter : Expr} {x y : Str} {px py pos spos : Pos} {ifs : List Expr} {scope : Scope} {wi : TI} {tt : TT} {te : TE} (B : ownB X.N X.env.scope = true) (i : Nat) (ks : List Nat) (caps : List Str)
    (hc : X.calm = true) (hi : PI X (.Name x px) iter wi)
    (ht : ∀ cl fp s₂ H₂ C, PTs (blk X scope (x :: caps) cl fp s₂ H₂ C) ifs tt) (he : ∀ cl fp s₂ H₂ C, PE (blk X scope (x :: caps) cl fp s₂ H₂ C) elt te) (hN : X.N[i]? = some y := by rfl)
    (hy : (X.env.scope.names.lookup y == some .local) = true := by kernel_rfl) (hS : cscopeB X.env.scope X.N scope x ks caps = true := by kernel_rfl)
    (hsw : swapsWith (.ListComp elt [⟨.Name x px, iter, ifs, 0⟩] scope pos) (some (.Name y py)) spos.line X.env = pure true := by kernel_rfl)
    (hs : ∀ v, foldedSetIterable iter X.env v = pure v := by intro _; rfl) : PS X (.Assign [.Name y py] (.ListComp elt [⟨.Name x px, iter, ifs, 0⟩] scope pos) spos) (tAsg (tComp wi ks tt te) (gName i)) :=
  ps_setc ks caps (Own.of B).nd hN (beq_iff_eq.mp hy) hc hS hi ht he hsw hs
/-- [.. for ..] -/
theorem eC {elt iter : Expr} {x : Str} {px pos : Pos} {ifs : List Expr} {scope : Scope} {wi : TI} {tt : TT} {te : TE} (ks : List Nat) (caps : List Str)
    (hc : X.calm = true) (hi : PI X (.Name x px) iter wi)
    (ht : ∀ cl fp s₂ H₂ C, PTs (blk X scope (x :: caps) cl fp s₂ H₂ C) ifs tt) (he : ∀ cl fp s₂ H₂ C, PE (blk X scope (x :: caps) cl fp s₂ H₂ C) elt te) (hS : cscopeB X.env.scope X.N scope x ks caps = true := by kernel_rfl)
    (hs : ∀ v, foldedSetIterable iter X.env v = pure v := by intro _; rfl) : PE X (.ListComp elt [⟨.Name x px, iter, ifs, 0⟩] scope pos) (tComp wi ks tt te) := pe_comp ks caps hc hS hi ht he hs
end
/-- a def, its body written as a list of its statements -/
theorem okB {P : Program} {w : World} {K : PySem.W.Frag} {mg : Str → Option Value} {base : Heap} {x qual : Str} {st : Stmt} {f : Addr} {fd : FuncData} {N ps : List Str} {k : Nat} {sp : Sp} {body : List Stmt} (F : Fun K x qual st f fd) (S : FnScope N ps (defScope st)) (len : ∀ vs H Q E, sp vs H Q E → vs.length = ps.length)
    (hb : defBody st = body)
    (hbody : ∀ (cdv : Value) (A : Around) (outer : List Env) (s : Shared) (H : Hp) (vs : List V) (Q : VK) (E : XK), Room k (A.deeper (envOfC qual (defScope st) s.heap.objs.size f cdv)) → sp vs H Q E →
      ∃ t, PSs (cxOf CX0 P w K mg base N qual (defScope st) f cdv A outer s H E).nox body t ∧ t { nx := fun _ H' => Q .non H', rt := Q } (L2.start N vs) H) : FnOk P w K mg base CX0 (k + 1) f fd ps sp :=
  F.ok S len fun cdv A outer s H vs Q E hr h => by rw [hb]; exact hbody cdv A outer s H vs Q E hr h
/-! ### the rest of the program under names -/
theorem cut2 {a1 a2 : TS} {D : Ends} {σ : L2.St} {H : Hp} (h : let r1 := a2; tSeq a1 r1 D σ H) : tSeq a1 a2 D σ H := h
theorem cut3 {a1 a2 a3 : TS} {D : Ends} {σ : L2.St} {H : Hp} (h : let r2 := a3; let r1 := tSeq a2 r2; tSeq a1 r1 D σ H) : tSeq a1 (tSeq a2 a3) D σ H := h
theorem cut4 {a1 a2 a3 a4 : TS} {D : Ends} {σ : L2.St} {H : Hp} (h : let r3 := a4; let r2 := tSeq a3 r3; let r1 := tSeq a2 r2; tSeq a1 r1 D σ H) : tSeq a1 (tSeq a2 (tSeq a3 a4)) D σ H := h
theorem cut5 {a1 a2 a3 a4 a5 : TS} {D : Ends} {σ : L2.St} {H : Hp} (h : let r4 := a5; let r3 := tSeq a4 r4; let r2 := tSeq a3 r3; let r1 := tSeq a2 r2; tSeq a1 r1 D σ H) : tSeq a1 (tSeq a2 (tSeq a3 (tSeq a4 a5))) D σ H := h
theorem cut6 {a1 a2 a3 a4 a5 a6 : TS} {D : Ends} {σ : L2.St} {H : Hp} (h : let r5 := a6; let r4 := tSeq a5 r5; let r3 := tSeq a4 r4; let r2 := tSeq a3 r3; let r1 := tSeq a2 r2; tSeq a1 r1 D σ H) : tSeq a1 (tSeq a2 (tSeq a3 (tSeq a4 (tSeq a5 a6)))) D σ H := h
/-- the i-th statement of a def's body -/
def stm (st : Stmt) (i : Nat) : Stmt := (defBody st).getD i (.Pass ⟨0, 0, 0, 0⟩)
end L3

set_option Elab.async false
set_option linter.all false
set_option maxRecDepth 100000
set_option maxHeartbeats 4000000
namespace L3
open PySem PySem.Spec L2
open PyProof.Rows hiding St

/-! ### t + u, t * k -/
section
variable {X : Cx}
/-- t + u: some tuple that holds both -/
def rCatG (K : PySem.W.Frag) : R2 := fun x y H Q => ∃ a b xs ys, x = .ref a ∧ y = .ref b ∧ SqT K H a xs ∧ SqT K H b ys ∧ xs.length + ys.length ≤ sizeLine ∧ ∀ p H', Same H H' → SqT K H' p (xs ++ ys) → Q (.ref p) H'
theorem op_catG : OpR X (binaryOp .Add) (rCatG X.K) := by
  intro pins s σ H x y v u Q I rx ry h
  obtain ⟨a, b, xs, ys, rfl, rfl, ha, hb, hz, q⟩ := h
  by_cases hx : xs = []
  · subst hx
    cases rx
    cases ry
    obtain ⟨its, r1, p1, _⟩ := I.tuple ha
    obtain ⟨its2, r2, p2, _⟩ := I.tuple hb
    obtain ⟨⟨cls, dd, data, sl⟩, ho, hc, n, hd⟩ := id p1
    obtain ⟨⟨cls2, dd2, data2, sl2⟩, ho2, hc2, n2, hd2⟩ := id p2
    simp only at hc hd hc2 hd2
    subst hc hd hc2 hd2
    have e : its = [] := r1.nil_iff.mpr rfl
    exact concat_meets ⟨_, ho, rfl⟩ ⟨_, ho2, rfl⟩ noFill_tuple_add seq_tuple_add PySem.F.slot_tuple_add PySem.F.entry_tuple_add (PySem.F.args_tuple_add_2 _ _)
      (tuple_addW0 a b its.toArray its2.toArray n n2 dd dd2 sl sl2 (by simp [e])) ⟨ho, ho2, ⟨.ref b, H, I, rfl, q b H (Same.refl H) hb⟩⟩
  · refine op_catT pins s σ H _ _ _ _ Q I rx ry ⟨a, b, xs, ys, rfl, rfl, ha, hb, hx, hz, fun z => ?_, fun z p hp => q p _ (same_new hp) (SqT.of upd_same)⟩
    subst z
    exact q a H (Same.refl H) (by rw [List.append_nil]; exact ha)

theorem noFill_tuple_mul : fillsNumberSlot (.type "tuple") "mul" = pure false :=
  PySem.fillsNumberSlot_seq (id := "tuple.__mul__") (r := some (.builtin "tuple.__rmul__")) PySem.F.slot_tuple_mul.lookup (by decide +kernel) PySem.F.slot_tuple_rmul.lookup (by decide +kernel)
theorem repeat_tuple : seqRepeat? (.type "tuple") = pure (some (.builtin "tuple.__mul__")) := by
  unfold seqRepeat?
  rw [PySem.seqSlot_of (T := "tuple") (name := "__mul__") (id := "tuple.__mul__") PySem.F.slot_tuple_mul.lookup (by decide +kernel), PySem.seqSlot_of (T := "tuple") (name := "__rmul__") (id := "tuple.__rmul__") PySem.F.slot_tuple_rmul.lookup (by decide +kernel)]
  rfl
theorem rmul_int_tuple (a : Int) (t : Tok) (l : Addr) (items : Array Value) (n : Nat) (dd : Option Addr) (sl : Array (Option Value)) :
    Meets (Builtin.«int.__rmul__» ⟨[.int a t, .ref l], []⟩) (fun _ R s => s.heap.get? l = some { cls := .type "tuple", dict := dd, data := .seq items n, slots := sl } ∧ R (.ok (.ret Value.notImplemented)) s) :=
  .of_wp fun prog w A R s h => by obtain ⟨hp, g, d, tk, os⟩ := s; obtain ⟨hl, h⟩ := h; wp_walk; exact ⟨_, rfl, h⟩
theorem mul_tuple_int (l : Addr) (items : Array Value) (n : Nat) (dd : Option Addr) (sl : Array (Option Value)) (x : Int) (u : Tok) (hc0 : ¬ (decide (x < -(2 ^ 63)) || decide (x ≥ 2 ^ 63)) = true) (hc1 : ¬ (items.isEmpty || x == 1) = true) (hc2 : ¬ (decide (x ≤ 0) || items.isEmpty) = true)
    (hc3 : ¬ (items.size : Int) * x > (2 ^ 63 - 1) / 8) (hc4 : ¬ Builtin.Tuple.tupleTooMany (items.size * x) = true) (hsz : (List.foldl (fun x1 x2 => x1 ++ x2) #[] (List.replicate x.toNat items)).size ≤ sizeLine) :
    Meets (Builtin.«tuple.__mul__» ⟨[.ref l, .int x u], []⟩) (fun _ R s => s.heap.get? l = some { cls := .type "tuple", dict := dd, data := .seq items n, slots := sl } ∧ R (.ok (.ret (Value.ref s.heap.objs.size))) { s with heap := s.heap.push { cls := Value.type "tuple", data := Data.seq (List.foldl (fun x1 x2 => x1 ++ x2) #[] (List.replicate x.toNat items)) }, toks := s.toks }) :=
  .of_wp fun prog w A R s h => by
    obtain ⟨hp, g, d, tk, os⟩ := s; obtain ⟨hl, h⟩ := h
    wp_walk; refine wpAny_ite_false (decide_eq_false hc0) ?_
    wp_walk; refine wpAny_ite_false (decide_eq_false hc3) ?_
    wp_walk; exact ⟨_, rfl, h⟩
/-- t * k, k two or more -/
def rRepT (K : PySem.W.Frag) : R2 := fun x y H Q => ∃ a k xs, x = .ref a ∧ y = .int k ∧ SqT K H a xs ∧ xs ≠ [] ∧ 2 ≤ k ∧ k < 1000 ∧ xs.length ≤ 1000 ∧ ∀ p, H p = none → Q (.ref p) (upd H p (.tup (List.replicate k.toNat xs).flatten))
theorem op_repT : OpR X (binaryOp .Mult) (rRepT X.K) := by
  intro pins s σ H x y v u Q I rx ry h
  obtain ⟨a, k, xs, rfl, rfl, ha, hx, h2, hk, hl, q⟩ := h
  cases rx
  obtain ⟨t, rfl⟩ := ry
  obtain ⟨its, r, p, _⟩ := I.tuple ha
  have hlen := r.length
  have hne : its ≠ [] := fun z => hx (r.nil_iff.mp z)
  obtain ⟨⟨cls, dd, data, sl⟩, ho, hc, n, hd⟩ := id p
  simp only at hc hd
  subst hc hd
  have hnew : List.foldl (fun x1 x2 => x1 ++ x2) #[] (List.replicate k.toNat its.toArray) = (List.replicate k.toNat its).flatten.toArray := by
    have := foldl_rep its k.toNat []
    rw [List.nil_append] at this
    exact this
  have hb : (its.length : Int) * k ≤ 1000000 := by
    have h1 : (its.length : Int) ≤ 1000 := by omega
    have h3 : k ≤ 1000 := by omega
    exact Int.le_trans (Int.mul_le_mul h1 h3 (by omega) (by omega)) (by decide)
  have hnat : k.toNat * its.length ≤ 1000000 := by
    have h1 : its.length ≤ 1000 := by omega
    have h3 : k.toNat ≤ 1000 := by omega
    exact Nat.le_trans (Nat.mul_le_mul h3 h1) (by decide)
  have hempty : its.toArray.isEmpty = false := by
    cases its with
    | nil => exact absurd rfl hne
    | cons _ _ => rfl
  refine wpAny_binaryOp_repeat_ref (T := "tuple") (U := "int") (by decide) ⟨_, ho, rfl⟩ (fun s' => typeIs_int s' k t) noFill_tuple_mul PySem.F.fills_int_mul PySem.F.slot_int_rmul repeat_tuple PySem.F.slot_int_index.lookup
    (call_meets PySem.F.slot_int_rmul (typeIs_int s k t) PySem.F.entry_int_rmul (PySem.F.args_int_rmul_2 _ _) (rmul_int_tuple k t a its.toArray n dd sl)
      ⟨ho, rfl, ⟨_, ho, rfl⟩, call_meets PySem.F.slot_tuple_mul ⟨_, ho, rfl⟩ PySem.F.entry_tuple_mul (PySem.F.args_tuple_mul_2 _ _) (mul_tuple_int a its.toArray n dd sl k t ?_ ?_ ?_ ?_ ?_ ?_) ⟨ho, ?_⟩⟩)
  · simp; omega
  · rw [hempty]; simp; omega
  · rw [hempty]; simp; omega
  · rw [List.size_toArray]; omega
  · rw [List.size_toArray]; unfold Builtin.Tuple.tupleTooMany; simp only [decide_eq_true_eq]; rw [sizeLine_eq]; omega
  · rw [hnew, List.size_toArray, len_rep, sizeLine_eq]; omega
  · rw [hnew]
    refine ⟨.ref s.heap.objs.size, _, I.laid (t' := s.toks) (o := .tup (List.replicate k.toNat xs).flatten) (fun b ob q => Heap.get?_push_of_some _ q) (Nat.le_refl _) ?_, rfl, q _ (I.hok.fresh (Nat.le_refl _))⟩
    exact ⟨by rw [len_rep, sizeLine_eq, hlen]; omega, _, r.rep k.toNat, IsTup.new _ _⟩
end
end L3

set_option Elab.async false
set_option linter.all false
set_option maxRecDepth 100000
set_option maxHeartbeats 4000000
namespace L3
open PySem PySem.Spec L2
open PyProof.Rows hiding St
section
variable {X : Cx}
/-- isinstance(a tuple, T), isinstance(a list, T) -/
theorem call_isiT : CallR X (.builtin "isinstance") (fun xs H Q => ∃ a ys T b, xs = [.ref a, .ty T] ∧ SqT X.K H a ys ∧ PySem.W.kitOne X.K (.type "tuple") (.type T) = some b ∧ Q (.bl b) H) := by
  intro pins s σ H xs us Q I r h
  obtain ⟨a, ys, T, b, rfl, hq, e, q⟩ := h
  obtain ⟨u, v, rfl, ru, rv⟩ := vals2 r
  obtain rfl : v = Value.type T := rv
  cases ru
  obtain ⟨its, _, ⟨o, h1, h2, _⟩, _⟩ := I.tuple hq
  exact PySem.W.kia_one PySem.W.kitx_tuple I.kIn ⟨o, h1, h2⟩ e (fun z => nomatch z) fun tk => ⟨.bl b, H, I.tok tk, rfl, q⟩
theorem call_isiL : CallR X (.builtin "isinstance") (fun xs H Q => ∃ a ys T b, xs = [.ref a, .ty T] ∧ SqL X.K H a ys ∧ PySem.W.kitOne X.K (.type "list") (.type T) = some b ∧ Q (.bl b) H) := by
  intro pins s σ H xs us Q I r h
  obtain ⟨a, ys, T, b, rfl, hq, e, q⟩ := h
  obtain ⟨u, v, rfl, ru, rv⟩ := vals2 r
  obtain rfl : v = Value.type T := rv
  cases ru
  obtain ⟨its, _, p, _⟩ := I.list hq
  obtain ⟨o, h1, h2, _⟩ := p.isList
  exact PySem.W.kia_one PySem.W.kitx_list I.kIn ⟨o, h1, h2⟩ e (fun z => nomatch z) fun tk => ⟨.bl b, H, I.tok tk, rfl, q⟩
theorem kit_int_bool {K : PySem.W.Frag} : PySem.W.kitOne K (.type "int") (.type "bool") = some false := by kernel_rfl
theorem kit_tuple {K : PySem.W.Frag} : PySem.W.kitOne K (.type "tuple") (.type "tuple") = some true := rfl
theorem kit_list {K : PySem.W.Frag} : PySem.W.kitOne K (.type "list") (.type "list") = some true := rfl
end
end L3

set_option Elab.async false
set_option linter.all false
set_option maxRecDepth 100000
set_option maxHeartbeats 4000000
namespace L3
open PySem PySem.Spec L2
open PyProof.Rows hiding St
section
variable {X : Cx}
def tyD : PyData → String
  | .none => "NoneType"
  | .bool _ => "bool"
  | .int _ => "int"
  | .str _ => "str"
  | .tuple _ => "tuple"
  | .list _ => "list"
  | .dict _ => "dict"
/-- isinstance(data, T) -/
theorem call_isiD : CallR X (.builtin "isinstance") (fun xs H Q => ∃ x T d b, xs = [x, .ty T] ∧ RepD X.K H d x ∧ PySem.W.kitOne X.K (.type (tyD d)) (.type T) = some b ∧ Q (.bl b) H) := by
  intro pins s σ H xs us Q I r h
  obtain ⟨x, T, d, b, rfl, rd, e, q⟩ := h
  cases d with
  | none => simp only [RepD] at rd; subst rd; exact call_isi pins s σ H _ us Q I r ⟨_, T, _, b, rfl, .non, e, q⟩
  | bool y => simp only [RepD] at rd; subst rd; exact call_isi pins s σ H _ us Q I r ⟨_, T, _, b, rfl, .bl y, e, q⟩
  | int y => simp only [RepD] at rd; subst rd; exact call_isi pins s σ H _ us Q I r ⟨_, T, _, b, rfl, .int y, e, q⟩
  | str y => simp only [RepD] at rd; subst rd; exact call_isi pins s σ H _ us Q I r ⟨_, T, _, b, rfl, .str y, e, q⟩
  | tuple ds =>
    obtain ⟨a, ys, rfl, h1, _⟩ : ∃ a xs, x = .ref a ∧ SqT X.K H a xs ∧ RepDs X.K H ds xs := by simpa only [RepD] using rd
    exact call_isiT pins s σ H _ us Q I r ⟨a, ys, T, b, rfl, h1, e, q⟩
  | list ds =>
    obtain ⟨a, ys, rfl, h1, _⟩ : ∃ a xs, x = .ref a ∧ SqL X.K H a xs ∧ RepDs X.K H ds xs := by simpa only [RepD] using rd
    exact call_isiL pins s σ H _ us Q I r ⟨a, ys, T, b, rfl, h1, e, q⟩
  | dict _ => simp only [RepD] at rd
theorem tys {a b : String} {its : List Value} (r : Vals [.ty a, .ty b] its) : its = [.type a, .type b] := by
  obtain ⟨u, v, rfl, ru, rv⟩ := vals2 r
  cases (show u = Value.type a from ru)
  cases (show v = Value.type b from rv)
  rfl
/-- isinstance(a list or a tuple, (T, U)) -/
theorem call_isiD2 : CallR X (.builtin "isinstance") (fun xs H Q => ∃ x tp T U d b, xs = [x, .ref tp] ∧ SqT X.K H tp [.ty T, .ty U] ∧ RepD X.K H d x ∧ (tyD d = "list" ∨ tyD d = "tuple") ∧ PySem.W.kitAny X.K (.type (tyD d)) [.type T, .type U] = some b ∧ Q (.bl b) H) := by
  intro pins s σ H xs us Q I r h
  obtain ⟨x, tp, T, U, d, b, rfl, ht, rd, hty, e, q⟩ := h
  obtain ⟨u, v, rfl, ru, rv⟩ := vals2 r
  obtain rfl : v = Value.ref tp := rv
  obtain ⟨its, rv', ⟨o, h1, h2, n, h3⟩, _⟩ := I.tuple ht
  have := tys rv'
  subst this
  have h1' : s.heap.get? tp = some ⟨.type "tuple", o.dict, .seq [Value.type T, .type U].toArray n, o.slots⟩ := by
    rw [h1]; obtain ⟨oc, od, oa, os⟩ := o
    cases h2; cases h3; rfl
  cases d with
  | none => simp [tyD] at hty
  | bool y => simp [tyD] at hty
  | int y => simp [tyD] at hty
  | str y => simp [tyD] at hty
  | dict _ => simp only [RepD] at rd
  | tuple ds =>
    obtain ⟨a, ys, rfl, g1, _⟩ : ∃ a xs, x = .ref a ∧ SqT X.K H a xs ∧ RepDs X.K H ds xs := by simpa only [RepD] using rd
    cases ru
    obtain ⟨its', _, ⟨o', k1, k2, _⟩, _⟩ := I.tuple g1
    exact PySem.W.kia_tup PySem.W.kitx_tuple I.kIn ⟨o', k1, k2⟩ h1' e (fun z => nomatch z) fun tk => ⟨.bl b, H, I.tok tk, rfl, q⟩
  | list ds =>
    obtain ⟨a, ys, rfl, g1, _⟩ : ∃ a xs, x = .ref a ∧ SqL X.K H a xs ∧ RepDs X.K H ds xs := by simpa only [RepD] using rd
    cases ru
    obtain ⟨its', _, p, _⟩ := I.list g1
    obtain ⟨o', k1, k2, _⟩ := p.isList
    exact PySem.W.kia_tup PySem.W.kitx_list I.kIn ⟨o', k1, k2⟩ h1' e (fun z => nomatch z) fun tk => ⟨.bl b, H, I.tok tk, rfl, q⟩
def rIxD (K : PySem.W.Frag) : R2 := fun x y H Q => rIxL K x y H Q ∨ rIxT K x y H Q
theorem ixD (K : PySem.W.Frag) (h : X.K = K := by rfl) : IxR X (rIxD K) := IxR.or (ixL K h) (ixT K h)
end
end L3

set_option Elab.async false
set_option linter.all false
set_option maxRecDepth 100000
set_option maxHeartbeats 4000000
namespace L3
open PySem PySem.Spec L2
/-! ### rules that name the module's fragment itself -/
section
variable {X : Cx} (K : PySem.W.Frag)
end
end L3

set_option Elab.async false
set_option linter.all false
set_option maxRecDepth 100000
set_option maxHeartbeats 4000000
namespace Of
open PySem L2 L3
/-! ### the mirror: letters, offices -/
inductive What where
  | pay (to many : Int)
  | cut
  deriving DecidableEq
structure Let where
  s : Nat
  st : List Int
  w : What
  deriving DecidableEq
def whatD : What → PyData
  | .pay t m => .tuple [.str "pay", .int t, .int m]
  | .cut => .tuple [.str "cut"]
def intD (ns : List Int) : List PyData := ns.map .int
def nameN (l : Let) : Int := l.st.getD l.s 0
def nmD (s : Nat) (n : Int) : PyData := .tuple [.int s, .int n]
def nameD (l : Let) : PyData := nmD l.s (nameN l)
def letD (l : Let) : PyData := .tuple [.int l.s, .tuple (intD l.st), whatD l.w]
structure Off where
  num : Int
  coins : Int
  clock : List Int
  book : List PyData
  tray : List Let
  kept : List PyData
def inc (cs : List Int) (s : Nat) : List Int := cs.set s (cs.getD s 0 + 1)
def readyB (s : Nat) (ss cs : List Int) : Bool := decide (ss.getD s 0 = cs.getD s 0 + 1) && (((List.range cs.length).filter fun k => decide (k ≠ s)).map fun k => decide (ss.getD k 0 ≤ cs.getD k 0)).all id
def firstR (ls : List Let) (cs : List Int) : Option Nat := ls.findIdx? fun l => readyB l.s l.st cs
def coinsFor (n : Int) : What → Int
  | .pay t m => if t = n then m else 0
  | .cut => 0
def keptD (l : Let) (coins : Int) (cs : List Int) : PyData := .tuple [nameD l, .int coins, .tuple (intD cs)]
def bookD (how : Str) (l : Let) : PyData := .tuple [.str how, nameD l]
/-- what write_in_book does -/
def wrote (o : Off) (how : Str) (l : Let) : Off := { o with book := o.book ++ [bookD how l], kept := if l.w = .cut then o.kept ++ [keptD l o.coins o.clock] else o.kept }
def handed (o : Off) (i : Nat) (l : Let) : Off := wrote { o with tray := o.tray.eraseIdx i, clock := inc o.clock l.s, coins := o.coins + coinsFor o.num l.w } "got" l
def newB (o : Off) (l : Let) : Bool := !decide (nameN l ≤ o.clock.getD l.s 0) && !(o.tray.any fun m => PyData.eqv (nameD m) (nameD l))
def drain : Nat → Off → List Let × Off
  | 0, o => ([], o)
  | k + 1, o => match firstR o.tray o.clock with
    | none => ([], o)
    | some i => match o.tray[i]? with
      | none => ([], o)
      | some l => ((l :: (drain k (handed o i l)).1), (drain k (handed o i l)).2)
def put (o : Off) (l : Let) : Off := if newB o l then { o with tray := o.tray ++ [l] } else o
def took (o : Off) (l : Let) : List Let × Off := drain (put o l).tray.length (put o l)

/-! ### values -/
abbrev nums (ns : List Int) : List V := ns.map V.int
theorem get_nums {ns : List Int} {i : Nat} (h : i < ns.length) : (nums ns)[i]? = some (.int (ns.getD i 0)) := by
  simp [nums, List.getElem?_map, List.getD_eq_getElem?_getD, List.getElem?_eq_getElem h]
theorem reps_ints {K : PySem.W.Frag} {H : Hp} : ∀ {ns : List Int} {xs : List V}, RepDs K H (intD ns) xs ↔ xs = nums ns
  | [], xs => by simp only [intD, List.map_nil, RepDs]
  | n :: ns, xs => by
    simp only [intD, List.map_cons, RepDs, RepD]
    constructor
    · rintro ⟨x, r, rfl, rfl, h⟩
      rw [reps_ints.mp h]
    · rintro rfl
      exact ⟨_, _, rfl, rfl, reps_ints.mpr rfl⟩
def WhatAt (K : PySem.W.Frag) (H : Hp) (c : Addr) : What → Prop
  | .pay t m => SqT K H c [.str "pay", .int t, .int m]
  | .cut => SqT K H c [.str "cut"]
def LetAt (K : PySem.W.Frag) (H : Hp) (a : Addr) (l : Let) : Prop := ∃ b c, SqT K H a [.int l.s, .ref b, .ref c] ∧ SqT K H b (nums l.st) ∧ WhatAt K H c l.w
theorem letAt_iff {K : PySem.W.Frag} {H : Hp} {l : Let} {v : V} : RepD K H (letD l) v ↔ ∃ a, v = .ref a ∧ LetAt K H a l := by
  constructor
  · intro h
    simp only [letD, RepD, RepDs] at h
    obtain ⟨a, xs, rfl, h1, x1, r1, rfl, rfl, x2, r2, rfl, ⟨b, ys, rfl, h2, h3⟩, x3, r3, rfl, h4, rfl⟩ := h
    rw [reps_ints.mp h3] at h2
    cases hw : l.w with
    | pay t m =>
      rw [hw] at h4
      simp only [whatD, RepD, RepDs] at h4
      obtain ⟨c, zs, rfl, h5, y1, q1, rfl, rfl, y2, q2, rfl, rfl, y3, q3, rfl, rfl, rfl⟩ := h4
      exact ⟨a, rfl, b, c, h1, h2, by rw [hw]; exact h5⟩
    | cut =>
      rw [hw] at h4
      simp only [whatD, RepD, RepDs] at h4
      obtain ⟨c, zs, rfl, h5, y1, q1, rfl, rfl, rfl⟩ := h4
      exact ⟨a, rfl, b, c, h1, h2, by rw [hw]; exact h5⟩
  · rintro ⟨a, rfl, b, c, h1, h2, h3⟩
    simp only [letD, RepD, RepDs]
    refine ⟨a, _, rfl, h1, _, _, rfl, rfl, _, _, rfl, ⟨b, _, rfl, h2, reps_ints.mpr rfl⟩, _, _, rfl, ?_, rfl⟩
    cases hw : l.w with
    | pay t m =>
      rw [hw] at h3
      simp only [whatD, RepD, RepDs]
      exact ⟨c, _, rfl, h3, _, _, rfl, rfl, _, _, rfl, rfl, _, _, rfl, rfl, rfl⟩
    | cut =>
      rw [hw] at h3
      simp only [whatD, RepD, RepDs]
      exact ⟨c, _, rfl, h3, _, _, rfl, rfl, rfl⟩
theorem WhatAt.imm {K : PySem.W.Frag} {H H' : Hp} {c : Addr} (e : Imm H H') : ∀ {w : What}, WhatAt K H c w → WhatAt K H' c w
  | .pay _ _, h => e.sqT (show SqT K H c _ from h)
  | .cut, h => e.sqT (show SqT K H c _ from h)
theorem LetAt.imm {K : PySem.W.Frag} {H H' : Hp} {a : Addr} {l : Let} (e : Imm H H') : LetAt K H a l → LetAt K H' a l
  | ⟨b, c, h1, h2, h3⟩ => ⟨b, c, e.sqT h1, e.sqT h2, h3.imm e⟩
theorem noList_ints : ∀ ns : List Int, noLists (intD ns) = true
  | [] => rfl
  | _ :: ns => by simp only [intD, List.map_cons, noLists, noList, Bool.true_and]; exact noList_ints ns
theorem noList_let (l : Let) : noList (letD l) = true := by
  simp only [letD, noList, noLists, Bool.true_and, Bool.and_true, noList_ints]
  cases l.w <;> rfl
theorem noList_name (l : Let) : noList (nameD l) = true := rfl
theorem noList_lets : ∀ ls : List Let, noLists (ls.map letD) = true
  | [] => rfl
  | l :: ls => by simp only [List.map_cons, noLists, noList_let, Bool.true_and]; exact noList_lets ls
theorem reps_append {K : PySem.W.Frag} {H : Hp} : ∀ {ds es : List PyData} {xs ys : List V}, RepDs K H ds xs → RepDs K H es ys → RepDs K H (ds ++ es) (xs ++ ys)
  | [], es, xs, ys, h1, h2 => by
    have : xs = [] := by simpa only [RepDs] using h1
    subst this; exact h2
  | d :: ds, es, xs, ys, h1, h2 => by
    obtain ⟨x, r, rfl, a, b⟩ : ∃ x r, xs = x :: r ∧ RepD K H d x ∧ RepDs K H ds r := by simpa only [RepDs] using h1
    simp only [List.cons_append, RepDs]
    exact ⟨x, r ++ ys, rfl, a, reps_append b h2⟩
theorem reps_one {K : PySem.W.Frag} {H : Hp} {d : PyData} {v : V} (h : RepD K H d v) : RepDs K H [d] [v] := by
  simp only [RepDs]
  exact ⟨v, [], rfl, h, rfl⟩
theorem reps_len {K : PySem.W.Frag} {H : Hp} : ∀ {ds : List PyData} {xs : List V}, RepDs K H ds xs → xs.length = ds.length
  | [], xs, h => by
    have : xs = [] := by simpa only [RepDs] using h
    subst this; rfl
  | d :: ds, xs, h => by
    obtain ⟨x, r, rfl, a, b⟩ : ∃ x r, xs = x :: r ∧ RepD K H d x ∧ RepDs K H ds r := by simpa only [RepDs] using h
    simp only [List.length_cons, reps_len b]
theorem reps_get {K : PySem.W.Frag} {H : Hp} : ∀ {ds : List PyData} {xs : List V} {i : Nat} {d : PyData}, RepDs K H ds xs → ds[i]? = some d → ∃ x, xs[i]? = some x ∧ RepD K H d x
  | [], xs, i, d, h, e => by simp at e
  | d' :: ds, xs, i, d, h, e => by
    obtain ⟨x, r, rfl, a, b⟩ : ∃ x r, xs = x :: r ∧ RepD K H d' x ∧ RepDs K H ds r := by simpa only [RepDs] using h
    cases i with
    | zero => simp at e; subst e; exact ⟨x, rfl, a⟩
    | succ j =>
      obtain ⟨y, h1, h2⟩ := reps_get b (by simpa using e)
      exact ⟨y, by simpa using h1, h2⟩
theorem reps_erase {K : PySem.W.Frag} {H : Hp} : ∀ {ds : List PyData} {xs : List V} (i : Nat), RepDs K H ds xs → RepDs K H (ds.eraseIdx i) (xs.eraseIdx i)
  | [], xs, i, h => by
    have : xs = [] := by simpa only [RepDs] using h
    subst this; simpa only [List.eraseIdx_nil] using h
  | d' :: ds, xs, i, h => by
    obtain ⟨x, r, rfl, a, b⟩ : ∃ x r, xs = x :: r ∧ RepD K H d' x ∧ RepDs K H ds r := by simpa only [RepDs] using h
    cases i with
    | zero => exact b
    | succ j =>
      simp only [List.eraseIdx_cons_succ, RepDs]
      exact ⟨x, _, rfl, a, reps_erase j b⟩

/-! ### an office as it stands -/
def flds (n c : Int) (cl lb lt lk : Addr) : List (Str × V) := [("number", .int n), ("coins", .int c), ("clock", .ref cl), ("book", .ref lb), ("tray", .ref lt), ("kept", .ref lk)]
structure OffAt (K : PySem.W.Frag) (C : Addr) (H : Hp) (p : Addr) (o : Off) : Prop where
  ex : ∃ dx cl lb lt lk bs ts ks, H p = some (.ins C dx (flds o.num o.coins cl lb lt lk)) ∧ SqT K H cl (nums o.clock) ∧ H lb = some (.lst bs) ∧ RepDs K H o.book bs ∧ H lt = some (.lst ts) ∧ RepDs K H (o.tray.map letD) ts ∧ H lk = some (.lst ks) ∧ RepDs K H o.kept ks
  nb : noLists o.book = true
  nk : noLists o.kept = true
/-- the lists that the office at hand holds -/
def Refs : Option HO → Addr → Prop
  | some (.ins _ _ fs), b => fs.lookup ("book" : Str) = some (.ref b) ∨ fs.lookup ("tray" : Str) = some (.ref b) ∨ fs.lookup ("kept" : Str) = some (.ref b)
  | _, _ => False
/-- all but p is as it was; p holds its own lists and new ones -/
structure SameX (p : Addr) (H H' : Hp) : Prop where
  keep : ∀ b o, H b = some o → b ≠ p → H' b = some o
  refs : ∀ b, Refs (H' p) b → Refs (H p) b ∨ H b = none
  here : ∃ u, H p = some u
theorem SameX.free {p : Addr} {H H' : Hp} (e : SameX p H H') (h' : ∃ u, H' p = some u) {b : Addr} (h : H' b = none) : H b = none := by
  cases q : H b with
  | none => rfl
  | some u =>
    by_cases hb : b = p
    · obtain ⟨u', hu⟩ := h'
      rw [hb, hu] at h; cases h
    · rw [e.keep b u q hb] at h; cases h
theorem SameX.trans {p : Addr} {H H1 H2 : Hp} (a : SameX p H H1) (b : SameX p H1 H2) : SameX p H H2 :=
  ⟨fun c o h n => b.keep c o (a.keep c o h n) n, fun c h => (b.refs c h).elim (a.refs c) fun z => .inr (a.free b.here z), a.here⟩
theorem same_x {p : Addr} {H H' : Hp} {u : HO} (hp : H p = some u) (e : Same H H') : SameX p H H' :=
  ⟨fun c o h _ => e c o h, fun c h => .inl (by rw [e p u hp] at h; rw [hp]; exact h), ⟨u, hp⟩⟩
theorem OffAt.same {K : PySem.W.Frag} {C : Addr} {H H' : Hp} {p : Addr} {o : Off} (e : Same H H') (h : OffAt K C H p o) : OffAt K C H' p o := by
  obtain ⟨⟨dx, cl, lb, lt, lk, bs, ts, ks, h1, h2, h3, h4, h5, h6, h7, h8⟩, nb, nk⟩ := h
  exact ⟨⟨dx, cl, lb, lt, lk, bs, ts, ks, e _ _ h1, e.sqT h2, e _ _ h3, RepDs.same e _ _ h4, e _ _ h5, RepDs.same e _ _ h6, e _ _ h7, RepDs.same e _ _ h8⟩, nb, nk⟩
theorem putF_eq {f : Str} {u v : V} {r : List (Str × V)} : putF f v ((f, u) :: r) = (f, v) :: r := by
  show (if f = f then _ else _) = _
  rw [if_pos rfl]
theorem putF_ne {f g : Str} {u v : V} {r : List (Str × V)} (h : ¬ g = f) : putF f v ((g, u) :: r) = (g, u) :: putF f v r := by
  show (if g = f then _ else _) = _
  rw [if_neg h]
theorem ne1 : ¬ (("number" : Str) = "coins") := by decide +kernel
theorem ne2 : ¬ (("number" : Str) = "clock") := by decide +kernel
theorem ne3 : ¬ (("number" : Str) = "book") := by decide +kernel
theorem ne4 : ¬ (("number" : Str) = "tray") := by decide +kernel
theorem ne5 : ¬ (("number" : Str) = "kept") := by decide +kernel
theorem ne6 : ¬ (("coins" : Str) = "clock") := by decide +kernel
theorem ne7 : ¬ (("coins" : Str) = "book") := by decide +kernel
theorem ne8 : ¬ (("coins" : Str) = "tray") := by decide +kernel
theorem ne9 : ¬ (("coins" : Str) = "kept") := by decide +kernel
theorem ne10 : ¬ (("clock" : Str) = "book") := by decide +kernel
theorem ne11 : ¬ (("clock" : Str) = "tray") := by decide +kernel
theorem ne12 : ¬ (("clock" : Str) = "kept") := by decide +kernel
theorem ne13 : ¬ (("book" : Str) = "tray") := by decide +kernel
theorem ne14 : ¬ (("book" : Str) = "kept") := by decide +kernel
theorem ne15 : ¬ (("tray" : Str) = "kept") := by decide +kernel
section
variable {n c c' : Int} {cl lb lt lk x : Addr}
theorem put_coins : putF "coins" (.int c') (flds n c cl lb lt lk) = flds n c' cl lb lt lk := by unfold flds; rw [putF_ne ne1, putF_eq]
theorem put_clock : putF "clock" (.ref x) (flds n c cl lb lt lk) = flds n c x lb lt lk := by unfold flds; rw [putF_ne ne2, putF_ne ne6, putF_eq]
theorem put_book : putF "book" (.ref x) (flds n c cl lb lt lk) = flds n c cl x lt lk := by unfold flds; rw [putF_ne ne3, putF_ne ne7, putF_ne ne10, putF_eq]
theorem put_tray : putF "tray" (.ref x) (flds n c cl lb lt lk) = flds n c cl lb x lk := by unfold flds; rw [putF_ne ne4, putF_ne ne8, putF_ne ne11, putF_ne ne13, putF_eq]
theorem put_kept : putF "kept" (.ref x) (flds n c cl lb lt lk) = flds n c cl lb lt x := by unfold flds; rw [putF_ne ne5, putF_ne ne9, putF_ne ne12, putF_ne ne14, putF_ne ne15, putF_eq]
theorem put_all : putF "kept" (.ref lk) (putF "tray" (.ref lt) (putF "book" (.ref lb) (putF "clock" (.ref cl) (putF "coins" (.int c) (putF "number" (.int n) []))))) = flds n c cl lb lt lk := by
  show putF "kept" _ (putF "tray" _ (putF "book" _ (putF "clock" _ (putF "coins" _ [(("number" : Str), V.int n)])))) = _
  rw [putF_ne ne1]
  show putF "kept" _ (putF "tray" _ (putF "book" _ (putF "clock" _ [(("number" : Str), V.int n), ("coins", V.int c)]))) = _
  rw [putF_ne ne2, putF_ne ne6]
  show putF "kept" _ (putF "tray" _ (putF "book" _ [(("number" : Str), V.int n), ("coins", V.int c), ("clock", V.ref cl)])) = _
  rw [putF_ne ne3, putF_ne ne7, putF_ne ne10]
  show putF "kept" _ (putF "tray" _ [(("number" : Str), V.int n), ("coins", V.int c), ("clock", V.ref cl), ("book", V.ref lb)]) = _
  rw [putF_ne ne4, putF_ne ne8, putF_ne ne11, putF_ne ne13]
  show putF "kept" _ [(("number" : Str), V.int n), ("coins", V.int c), ("clock", V.ref cl), ("book", V.ref lb), ("tray", V.ref lt)] = _
  rw [putF_ne ne5, putF_ne ne9, putF_ne ne12, putF_ne ne14, putF_ne ne15]
  rfl
theorem at_number : (flds n c cl lb lt lk).lookup ("number" : Str) = some (V.int n) := by kernel_rfl
theorem at_coins : (flds n c cl lb lt lk).lookup ("coins" : Str) = some (V.int c) := by kernel_rfl
theorem at_clock : (flds n c cl lb lt lk).lookup ("clock" : Str) = some (V.ref cl) := by kernel_rfl
theorem at_book : (flds n c cl lb lt lk).lookup ("book" : Str) = some (V.ref lb) := by kernel_rfl
theorem at_tray : (flds n c cl lb lt lk).lookup ("tray" : Str) = some (V.ref lt) := by kernel_rfl
theorem at_kept : (flds n c cl lb lt lk).lookup ("kept" : Str) = some (V.ref lk) := by kernel_rfl
theorem refs_flds {C dx b : Addr} : Refs (some (.ins C dx (flds n c cl lb lt lk))) b ↔ b = lb ∨ b = lt ∨ b = lk := by
  show ((flds n c cl lb lt lk).lookup ("book" : Str) = some (.ref b) ∨ (flds n c cl lb lt lk).lookup ("tray" : Str) = some (.ref b) ∨ (flds n c cl lb lt lk).lookup ("kept" : Str) = some (.ref b)) ↔ _
  rw [at_book, at_tray, at_kept]
  constructor
  · rintro (h | h | h)
    · injection h with h; injection h with h; exact .inl h.symm
    · injection h with h; injection h with h; exact .inr (.inl h.symm)
    · injection h with h; injection h with h; exact .inr (.inr h.symm)
  · rintro (rfl | rfl | rfl)
    · exact .inl rfl
    · exact .inr (.inl rfl)
    · exact .inr (.inr rfl)
theorem sx_set {C dx p : Addr} {H H4 : Hp} {n' c2 : Int} {cl' lb' lt' lk' : Addr} (e : SameX p H H4) (h : H4 p = some (.ins C dx (flds n c cl lb lt lk))) (h1 : lb' = lb ∨ H lb' = none) (h2 : lt' = lt ∨ H lt' = none) (h3 : lk' = lk ∨ H lk' = none) :
    SameX p H (upd H4 p (.ins C dx (flds n' c2 cl' lb' lt' lk'))) := by
  refine ⟨fun b v hb nb => by rw [upd_ne nb]; exact e.keep b v hb nb, fun b hb => ?_, e.here⟩
  rw [upd_same, refs_flds] at hb
  have old : ∀ x, x = lb ∨ x = lt ∨ x = lk → Refs (H p) x ∨ H x = none := fun x hx => e.refs x (by rw [h, refs_flds]; exact hx)
  rcases hb with rfl | rfl | rfl
  · rcases h1 with z | z
    · exact old _ (.inl z)
    · exact .inr z
  · rcases h2 with z | z
    · exact old _ (.inr (.inl z))
    · exact .inr z
  · rcases h3 with z | z
    · exact old _ (.inr (.inr z))
    · exact .inr z
end
end Of

set_option Elab.async false
set_option linter.all false
set_option maxRecDepth 100000
set_option maxHeartbeats 4000000
namespace Of
open PySem L2 L3
def top (i : Nat) : Stmt := PySem.Challenge.pw_postbooks_k09_whole_cut_kept.main.body.getD i (.Pass ⟨0, 0, 0, 0⟩)
abbrev sName : Stmt := top 1
abbrev sThere : Stmt := top 2
abbrev sCounted : Stmt := top 3
abbrev sReady : Stmt := top 4
abbrev sStates : Stmt := top 10
abbrev sStateIn : Stmt := top 11
abbrev sCoinsUnderWay : Stmt := top 12
abbrev sIsThereAt : Stmt := top 13
abbrev sIsSent : Stmt := top 14
abbrev sCoinsOnTheWay : Stmt := top 15
abbrev sInit : Stmt := inClass (top 17) 0
abbrev sPay : Stmt := inClass (top 17) 1
abbrev sCut : Stmt := inClass (top 17) 2
abbrev sTake : Stmt := inClass (top 17) 3
abbrev sSend : Stmt := inClass (top 17) 4
abbrev sIsNew : Stmt := inClass (top 17) 5
abbrev sHand : Stmt := inClass (top 17) 6
abbrev sWrite : Stmt := inClass (top 17) 7
abbrev sFirst : Stmt := top 18
abbrev sCoins : Stmt := top 19
abbrev sSentOr : Stmt := top 20
abbrev sTaken : Stmt := top 21
abbrev cInit : Stmt := inClass (top 23) 0
abbrev cDo : Stmt := inClass (top 23) 1
abbrev cAns : Stmt := inClass (top 23) 2
abbrev cSent : Stmt := inClass (top 23) 3
abbrev cCarr : Stmt := inClass (top 23) 4
abbrev cBring : Stmt := inClass (top 23) 5
abbrev sCourse : Stmt := top 24
abbrev sLettersOf : Stmt := top 25
abbrev sEventsOf : Stmt := top 26
abbrev sKeptOf : Stmt := top 27
abbrev sSo : Stmt := top 29
abbrev sWhole : Stmt := top 30
abbrev sAt : Stmt := top 31
abbrev sIsName : Stmt := top 32
abbrev sAreEvents : Stmt := top 33
abbrev sIsWhat : Stmt := top 34
abbrev sAreLetters : Stmt := top 35
abbrev sCalled : Stmt := top 36
abbrev sDeedOf : Stmt := top 37
abbrev sDrawn : Stmt := top 38
abbrev sEndedL : Stmt := top 39
abbrev sAreStatesL : Stmt := top 40
abbrev sWalkedToL : Stmt := top 41
abbrev sOneCutL : Stmt := top 42
abbrev sLaw : Stmt := top 43
end Of

section
set_option Elab.async false
set_option linter.all false
set_option maxRecDepth 100000
set_option maxHeartbeats 4000000
seal L2.PE L2.PT L2.PW L2.PA L2.PS L2.PSs L2.PG L2.PGs L2.PI L3.PTs L2.PO L2.CallR L2.OpR L2.IxR L2.MtR L2.PSet L2.SlR
namespace Of
open PySem L2 L3
theorem len2 {a b : V} : [a, b].length ≤ sizeLine := by show 2 ≤ sizeLine; decide
theorem len1 {a : V} : [a].length ≤ sizeLine := by show 1 ≤ sizeLine; decide
theorem len0 : ([] : List V).length ≤ sizeLine := by show 0 ≤ sizeLine; decide
theorem len3 {a b c : V} : [a, b, c].length ≤ sizeLine := by show 3 ≤ sizeLine; decide
/-- what the top binds -/
structure Txt (K : PySem.W.Frag) (mg : Str → Option Value) (C fN fT fC fR fF fO : Addr) : Prop where
  cl : Cls K C
  nN : NoAttr K C "number"
  nC : NoAttr K C "coins"
  nK : NoAttr K C "clock"
  nB : NoAttr K C "book"
  nT : NoAttr K C "tray"
  nE : NoAttr K C "kept"
  office : mg "Office" = some (.ref C)
  name_of : mg "name_of" = some (.ref fN)
  is_there : mg "is_there" = some (.ref fT)
  counted : mg "counted" = some (.ref fC)
  ready : mg "ready" = some (.ref fR)
  first_ready : mg "first_ready" = some (.ref fF)
  coins_for : mg "coins_for" = some (.ref fO)
  len : mg "len" = none
  range : mg "range" = none
  all : mg "all" = none
def spName (K : PySem.W.Frag) : Sp := fun vs H Q _ => ∃ (a : Addr) (l : Let), vs = [.ref a] ∧ LetAt K H a l ∧ l.s < l.st.length ∧ ∀ p, H p = none → Q (.ref p) (upd H p (.tup [.int l.s, .int (nameN l)]))
def spThere (K : PySem.W.Frag) : Sp := fun vs H Q _ => ∃ (n c : Addr) (s : Nat) (m : Int) (cs : List Int), vs = [.ref n, .ref c] ∧ SqT K H n [.int s, .int m] ∧ SqT K H c (nums cs) ∧ s < cs.length ∧ Q (.bl (decide (m ≤ cs.getD s 0))) H
def spCounted (K : PySem.W.Frag) : Sp := fun vs H Q _ => ∃ (c : Addr) (s : Nat) (cs : List Int), vs = [.ref c, .int s] ∧ SqT K H c (nums cs) ∧ s < cs.length ∧ cs.length ≤ 1000 ∧ ∀ p H', Same H H' → SqT K H' p (nums (inc cs s)) → Q (.ref p) H'
def spReady (K : PySem.W.Frag) : Sp := fun vs H Q _ => ∃ (a c : Addr) (l : Let) (cs : List Int), vs = [.ref a, .ref c] ∧ LetAt K H a l ∧ SqT K H c (nums cs) ∧ l.s < cs.length ∧ l.st.length = cs.length ∧ cs.length ≤ 1000 ∧ ∀ H', Same H H' → Q (.bl (readyB l.s l.st cs)) H'
def spCoins (K : PySem.W.Frag) : Sp := fun vs H Q _ => ∃ (n : Int) (c : Addr) (w : What), vs = [.int n, .ref c] ∧ WhatAt K H c w ∧ Q (.int (coinsFor n w)) H
def optV : Option Nat → V
  | none => .non
  | some i => .int i
def spFirst (K : PySem.W.Frag) : Sp := fun vs H Q _ => ∃ (a c : Addr) (ts : List V) (ls : List Let) (cs : List Int), vs = [.ref a, .ref c] ∧ SqL K H a ts ∧ RepDs K H (ls.map letD) ts ∧ SqT K H c (nums cs) ∧ cs.length ≤ 1000 ∧ ls.length ≤ 1000 ∧
  (∀ l ∈ ls, l.s < cs.length ∧ l.st.length = cs.length) ∧ ∀ H', Same H H' → Q (optV (firstR ls cs)) H'

section
variable {P : Program} {w : World} {K : PySem.W.Frag} {mg : Str → Option Value} {base : Heap} {C fN fT fC fR fF fO : Addr}
theorem oN : ownB ["letter", "sender", "stamp"] (defScope sName) = true := by decide +kernel
theorem scN : FnScope ["letter", "sender", "stamp"] ["letter"] (defScope sName) := ⟨rfl, rfl, rfl, by decide +kernel, rfl, by decide +kernel, by decide +kernel⟩
theorem ok_name {f : Addr} {fd : FuncData} (F : Fun K "name_of" "name_of" sName f fd) : FnOk P w K mg base CX0 1 f fd ["letter"] (spName K) := by
  refine okB (body := [stm sName 0, stm sName 1, stm sName 2]) F scN (fun vs H Q E h => ?_) (by kernel_rfl) (fun cdv A outer s0 H vs Q E hr h => ?_)
  · obtain ⟨a, l, rfl, _⟩ := h
    rfl
  · obtain ⟨a, l, rfl, ⟨b, c, h1, h2, h4⟩, h3, q⟩ := h
    refine ⟨_, (pss_cons (oS oN 1 (iX (ixT K) (oV oN 0) pe_int))
      (pss_cons (oS oN 2 (iX (ixT K) (oV oN 0) pe_int))
      (pss_one (ps_ret (pe_tup (aC (oV oN 1) (aC (iX (ixT K) (oV oN 2) (oV oN 1)) pa_nil))))))), ?_⟩
    refine cut3 ?_
    intro rr2 rr1
    refine ⟨_, rfl, a, _, 0, _, rfl, rfl, h1, rfl, _, rfl, a, _, 1, _, rfl, rfl, h1, rfl, ?_⟩
    exact ⟨_, rfl, _, rfl, _, rfl, b, _, _, _, rfl, rfl, h2, atI_nat (get_nums h3), len2, q⟩
theorem oTh : ownB ["name", "clock"] (defScope sThere) = true := by decide +kernel
theorem scT : FnScope ["name", "clock"] ["name", "clock"] (defScope sThere) := ⟨rfl, rfl, rfl, by decide +kernel, rfl, by decide +kernel, by decide +kernel⟩
theorem ok_there {f : Addr} {fd : FuncData} (F : Fun K "is_there" "is_there" sThere f fd) : FnOk P w K mg base CX0 1 f fd ["name", "clock"] (spThere K) := by
  refine okB (body := [stm sThere 0]) F scT (fun vs H Q E h => ?_) (by kernel_rfl) (fun cdv A outer s0 H vs Q E hr h => ?_)
  · obtain ⟨n, c, s, m, cs, rfl, _⟩ := h
    rfl
  · obtain ⟨n, c, s, m, cs, rfl, h1, h2, h3, q⟩ := h
    refine ⟨_, (pss_one (ps_ret (pe_cmpR op_ge (iX (ixT K) (oV oTh 1) (iX (ixT K) (oV oTh 0) pe_int)) (iX (ixT K) (oV oTh 0) pe_int) (nomark _)))), ?_⟩
    exact ⟨_, rfl, _, rfl, n, _, 0, _, rfl, rfl, h1, rfl, c, _, (s : Int), _, rfl, rfl, h2, atI_nat (get_nums h3), _, rfl, n, _, 1, _, rfl, rfl, h1, rfl, _, _, rfl, rfl, q⟩

theorem cut_lo {xs : List V} {s : Nat} (h : s ≤ xs.length) : cutV xs none (some (s : Int)) = xs.take s := by
  unfold cutV
  rw [HT.sIx_nat, HT.sIx_none]
  simp [Nat.min_eq_left h]
theorem cut_hi {xs : List V} {s : Nat} (h : s ≤ xs.length) : cutV xs (some (s : Int)) none = xs.drop s := by
  unfold cutV
  rw [HT.sIx_nat, HT.sIx_none, Nat.min_eq_left h]
  exact List.take_of_length_le (by rw [List.length_drop]; omega)
theorem inc_split {cs : List Int} {s : Nat} (h : s < cs.length) : (nums cs).take s ++ [V.int (cs.getD s 0 + 1)] ++ (nums cs).drop (s + 1) = nums (inc cs s) := by
  unfold inc nums
  rw [← List.map_take, ← List.map_drop, List.set_eq_take_append_cons_drop, if_pos h]
  simp
theorem oCt : ownB ["clock", "sender"] (defScope sCounted) = true := by decide +kernel
theorem scC : FnScope ["clock", "sender"] ["clock", "sender"] (defScope sCounted) := ⟨rfl, rfl, rfl, by decide +kernel, rfl, by decide +kernel, by decide +kernel⟩
theorem ok_counted {f : Addr} {fd : FuncData} (F : Fun K "counted" "counted" sCounted f fd) : FnOk P w K mg base CX0 1 f fd ["clock", "sender"] (spCounted K) := by
  refine okB (body := [stm sCounted 0]) F scC (fun vs H Q E h => ?_) (by kernel_rfl) (fun cdv A outer s0 H vs Q E hr h => ?_)
  · obtain ⟨c, s, cs, rfl, _⟩ := h
    rfl
  · obtain ⟨c, s, cs, rfl, h1, h2, h3, q⟩ := h
    refine ⟨_, (pss_one (ps_ret (pe_op op_catG (pe_op op_catG (pe_slice sl_tup (oV oCt 0) po_none (po_some (oV oCt 1))) (pe_tup (aC (pe_op op_add (iX (ixT K) (oV oCt 0) (oV oCt 1)) pe_int) pa_nil))) (pe_slice sl_tup (oV oCt 0) (po_some (pe_op op_add (oV oCt 1) pe_int)) po_none)))), ?_⟩
    have hl : (nums cs).length = cs.length := List.length_map ..
    have big : ∀ n, n ≤ 3000 → n ≤ sizeLine := fun n hn => Nat.le_trans hn (by decide)
    refine ⟨_, rfl, _, rfl, _, rfl, c, _, rfl, h1, ?_, fun p1 n1 => ?_⟩
    · rw [HT.sIx_nat, HT.sIx_none]; omega
    have s1 := same_new (o := .tup (cutV (nums cs) none (some (s : Int)))) n1
    refine ⟨_, rfl, _, rfl, c, _, (s : Int), _, rfl, rfl, s1.sqT h1, atI_nat (get_nums h2), _, _, rfl, rfl, len1, fun p2 n2 => ?_⟩
    have s2 := same_new (o := .tup [V.int (cs.getD s 0 + 1)]) n2
    have n12 : p1 ≠ p2 := fun e => by rw [← e, upd_same] at n2; cases n2
    refine ⟨p1, p2, _, _, rfl, rfl, SqT.of ((upd_ne n12).trans upd_same), SqT.of upd_same, ?_, fun p3 H3 e3 h5 => ?_⟩
    · rw [cut_lo (by omega)]; simp only [List.length_take, List.length_singleton]; exact big _ (by omega)
    have s3 : Same H H3 := (s1.trans s2).trans e3
    refine ⟨_, rfl, _, rfl, _, _, rfl, rfl, _, rfl, c, _, rfl, s3.sqT h1, ?_, fun p4 n4 => ?_⟩
    · rw [show ((s : Int) + 1) = ((s + 1 : Nat) : Int) by omega, HT.sIx_nat, HT.sIx_none]; omega
    have s4 := same_new (o := .tup (cutV (nums cs) (some ((s : Int) + 1)) none)) n4
    refine ⟨p3, p4, _, _, rfl, rfl, s4.sqT h5, SqT.of upd_same, ?_, fun p5 H5 e5 h6 => q p5 H5 ((s3.trans s4).trans e5) ?_⟩
    · rw [cut_lo (by omega), show ((s : Int) + 1) = ((s + 1 : Nat) : Int) by omega, cut_hi (by omega)]
      simp only [List.length_append, List.length_take, List.length_singleton, List.length_drop]
      exact big _ (by omega)
    · rw [cut_lo (by omega), show ((s : Int) + 1) = ((s + 1 : Nat) : Int) by omega, cut_hi (by omega), inc_split h2] at h6
      exact h6
end
end Of

end

section
set_option Elab.async false
set_option linter.all false
set_option maxRecDepth 100000
set_option maxHeartbeats 4000000
seal L2.PE L2.PT L2.PW L2.PA L2.PS L2.PSs L2.PG L2.PGs L2.PI L3.PTs L2.PO L2.CallR L2.OpR L2.IxR L2.MtR L2.PSet L2.SlR
namespace Of
open PySem L2 L3
section
variable {P : Program} {w : World} {K : PySem.W.Frag} {mg : Str → Option Value} {base : Heap} {C fN fT fC fR fF fO : Addr}
theorem oR : ownB ["letter", "clock", "sender", "stamp", "others"] (defScope sReady) = true := by decide +kernel
theorem scR : FnScope ["letter", "clock", "sender", "stamp", "others"] ["letter", "clock"] (defScope sReady) := ⟨rfl, rfl, rfl, by decide +kernel, rfl, by decide +kernel, by decide +kernel⟩
theorem ok_ready {f : Addr} {fd : FuncData} (F : Fun K "ready" "ready" sReady f fd) (T : Txt K mg C fN fT fC fR fF fO) : FnOk P w K mg base CX0 1 f fd ["letter", "clock"] (spReady K) := by
  refine okB (body := [stm sReady 0, stm sReady 1, stm sReady 2, stm sReady 3, stm sReady 4]) F scR (fun vs H Q E h => ?_) (by kernel_rfl) (fun cdv A outer s0 H vs Q E hr h => ?_)
  · obtain ⟨a, c, l, cs, rfl, _⟩ := h
    rfl
  · obtain ⟨a, c, ⟨s, ss, lw⟩, cs, rfl, ⟨b, v, hA, hB, _⟩, hC, hs, hl, hz, q⟩ := h
    dsimp only at hA hB hs hl q
    refine ⟨_, (pss_cons (oS oR 2 (iX (ixT K) (oV oR 0) pe_int))
      (pss_cons (oS oR 3 (iX (ixT K) (oV oR 0) pe_int))
      (pss_cons (ps_if (pt_cmpR op_ne (iX (ixT K) (oV oR 3) (oV oR 2)) (pe_op op_add (iX (ixT K) (oV oR 1) (oV oR 2)) pe_int) (nomark _))
        (pss_one (ps_ret pe_bl))
        pss_nil)
      (pss_cons (oC oR 4 [2] ["sender"] rfl (rng1 T.range (aC (cB (call_len_seq (X := _)) T.len PySem.boot_len (aC (oV oR 1) pa_nil)) pa_nil)) (fun _ _ _ _ _ => (pts_one (pt_cmpR op_ne (sV 0) (sV 1) (nomark _)))) (fun _ _ _ _ _ => (sV 0)))
      (pss_one (ps_ret (cB (call_all rfl) T.all boot_all (aC (eC [1, 3] ["clock", "stamp"] rfl (pi_list (oV oR 4)) (fun _ _ _ _ _ => pts_nil) (fun _ _ _ _ _ => (pe_cmpR op_le (iX (ixT K) (sV 2) (sV 0)) (iX (ixT K) (sV 1) (sV 0)) (nomark _)))) pa_nil)))))))), ?_⟩
    refine cut5 ?_
    intro rr4 rr3 rr2 rr1
    refine ⟨_, rfl, a, _, 0, _, rfl, rfl, hA, rfl, _, rfl, a, _, 1, _, rfl, rfl, hA, rfl, ?_⟩
    refine ⟨_, rfl, _, rfl, b, _, (s : Int), _, rfl, rfl, hB, atI_nat (get_nums (by omega)), _, rfl, _, rfl, c, _, (s : Int), _, rfl, rfl, hC, atI_nat (get_nums hs), _, _, rfl, rfl, rfl, _, rfl, ?_⟩
    by_cases e : ss.getD s 0 = cs.getD s 0 + 1
    · rw [show (!decide (V.int (ss.getD s 0) = V.int (cs.getD s 0 + 1))) = false by rw [e]; simp]
      refine iteF ?_
      refine ⟨_, rfl, c, _, rfl, .inr hC, _, rfl, by omega, by rw [List.length_map]; omega, comp_range (fun D i ys H2 => Same H H2 ∧ H2 D = some (.lst ys) ∧ ys = ((List.range i).filter fun k => decide (k ≠ s)).map fun k => V.int ((k : Nat) : Int))
        (fun D hD => ⟨same_new hD, upd_same, rfl⟩) (fun D i ys H2 _ _ h => h.2.1) (fun D i ys H2 hD hi ⟨e1, e2, e3⟩ => ?_) (fun D ys H2 hD ⟨e1, e2, e3⟩ => ?_)⟩
      · refine ⟨_, rfl, _, rfl, rfl, _, rfl, ?_⟩
        by_cases e4 : i = s
        · rw [show (!decide (V.int (0 + (i : Int)) = V.int (s : Int))) = false by simp [e4]]
          refine iteF ⟨e1, e2, ?_⟩
          rw [List.range_succ, List.filter_append, e3]
          simp [e4]
        · rw [show (!decide (V.int (0 + (i : Int)) = V.int (s : Int))) = true by simp; omega]
          refine iteT ⟨_, rfl, e2, ?_, same_upd e1 hD, upd_same, ?_⟩
          · rw [e3, List.length_map]
            have := List.length_filter_le (fun k => decide (k ≠ s)) (List.range i)
            rw [List.length_range] at this
            rw [List.length_map] at hi
            exact small1000 (by omega)
          · rw [List.range_succ, List.filter_append, e3]
            simp [e4]
      · have hn : ((nums cs).length : Int).toNat = cs.length := by rw [List.length_map]; omega
        rw [hn] at e3
        refine ⟨_, rfl, D, rfl, ⟨_, SqL.of e2⟩, comp_list (xs := ys) (fun D2 i zs H3 => Same H2 H3 ∧ H3 D2 = some (.lst zs) ∧ zs = ((((List.range cs.length).filter fun k => decide (k ≠ s)).take i).map fun k => decide (ss.getD k 0 ≤ cs.getD k 0)).map V.bl)
          (fun D2 hD2 => ⟨same_new hD2, upd_same, rfl⟩) (fun D2 i zs H3 _ _ h => ⟨h.2.1, SqL.of (h.1 _ _ e2)⟩) (fun D2 i x zs H3 hD2 hx ⟨f1, f2, f3⟩ => ?_) (fun D2 zs H3 hD2 ⟨f1, f2, f3⟩ => ?_)⟩
        · rw [e3, List.getElem?_map] at hx
          cases hk : ((List.range cs.length).filter fun k => decide (k ≠ s))[i]? with
          | none => rw [hk] at hx; cases hx
          | some k =>
            rw [hk] at hx
            have hx : x = V.int ((k : Nat) : Int) := (Option.some.inj hx).symm
            subst hx
            have hkm : k < cs.length := List.mem_range.mp (List.mem_filter.mp (List.mem_of_getElem? hk)).1
            refine ⟨_, rfl, _, rfl, b, _, (k : Int), _, rfl, rfl, f1.sqT (e1.sqT hB), atI_nat (get_nums (by omega)), _, rfl, _, rfl, c, _, (k : Int), _, rfl, rfl, f1.sqT (e1.sqT hC), atI_nat (get_nums hkm), _, _, rfl, rfl, f2, ?_, same_upd f1 hD2, upd_same, ?_⟩
            · rw [f3, List.length_map, List.length_map, List.length_take]
              have := List.length_filter_le (fun k => decide (k ≠ s)) (List.range cs.length)
              rw [List.length_range] at this
              exact small1000 (by omega)
            · rw [List.take_succ, hk, f3]
              simp
        · refine ⟨D2, _, rfl, SqL.of (by rw [f2, f3]), ?_⟩
          have hy : ys.length = ((List.range cs.length).filter fun k => decide (k ≠ s)).length := by rw [e3, List.length_map]
          rw [hy, List.take_length]
          have : readyB s ss cs = (((List.range cs.length).filter fun k => decide (k ≠ s)).map fun k => decide (ss.getD k 0 ≤ cs.getD k 0)).all id := by
            unfold readyB; rw [decide_eq_true e, Bool.true_and]
          rw [this] at q
          exact q H3 (e1.trans f1)
    · rw [show (!decide (V.int (ss.getD s 0) = V.int (cs.getD s 0 + 1))) = true by rw [decide_eq_false (fun z => e (V.int.inj z))]; rfl]
      refine iteT ?_
      have : readyB s ss cs = false := by unfold readyB; rw [decide_eq_false e]; rfl
      rw [this] at q
      exact q H (Same.refl H)

theorem oCo : ownB ["number", "what"] (defScope sCoins) = true := by decide +kernel
theorem scO : FnScope ["number", "what"] ["number", "what"] (defScope sCoins) := ⟨rfl, rfl, rfl, by decide +kernel, rfl, by decide +kernel, by decide +kernel⟩
theorem dec_i (x y : Int) : decide (V.int x = V.int y) = decide (x = y) := dec_int.trans (by rw [Bool.beq_eq_decide_eq])
theorem ok_coins {f : Addr} {fd : FuncData} (F : Fun K "coins_for" "coins_for" sCoins f fd) : FnOk P w K mg base CX0 1 f fd ["number", "what"] (spCoins K) := by
  refine okB (body := [stm sCoins 0, stm sCoins 1]) F scO (fun vs H Q E h => ?_) (by kernel_rfl) (fun cdv A outer s0 H vs Q E hr h => ?_)
  · obtain ⟨n, c, w, rfl, _⟩ := h
    rfl
  · obtain ⟨n, c, wh, rfl, h1, q⟩ := h
    refine ⟨_, (pss_cons (ps_if (PW.pt (pw_and (pt_cmpR op_eq (iX (ixT K) (oV oCo 1) pe_int) pe_str (nomark _)) (pw_and1 (pt_cmpR op_eq (iX (ixT K) (oV oCo 1) pe_int) (oV oCo 0) (nomark _)))))
        (pss_one (ps_ret (iX (ixT K) (oV oCo 1) pe_int)))
        pss_nil)
      (pss_one (ps_ret pe_int))), ?_⟩
    refine cut2 ?_
    intro rr1
    cases wh with
    | pay t m =>
      have h1 : SqT K H c [.str "pay", .int t, .int m] := h1
      refine ⟨_, rfl, c, _, 0, _, rfl, rfl, h1, rfl, rfl, _, rfl, ?_⟩
      rw [show decide (V.str "pay" = V.str "pay") = true from decide_eq_true rfl]
      refine iteT ⟨_, rfl, c, _, 1, _, rfl, rfl, h1, rfl, _, rfl, rfl, _, rfl, ?_⟩
      rw [dec_i]
      refine ite2 (fun h => ?_) (fun h => ?_)
      · refine ⟨_, rfl, c, _, 2, _, rfl, rfl, h1, rfl, ?_⟩
        have : coinsFor n (.pay t m) = m := if_pos (by simpa using h)
        rw [this] at q
        exact q
      · have : coinsFor n (.pay t m) = 0 := if_neg (by simpa using h)
        rw [this] at q
        exact q
    | cut =>
      have h1 : SqT K H c [.str "cut"] := h1
      refine ⟨_, rfl, c, _, 0, _, rfl, rfl, h1, rfl, rfl, _, rfl, ?_⟩
      rw [show decide (V.str "cut" = V.str "pay") = false by decide +kernel]
      exact iteF (iteF q)

theorem oFr : ownB ["tray", "clock", "place"] (defScope sFirst) = true := by decide +kernel
theorem scF : FnScope ["tray", "clock", "place"] ["tray", "clock"] (defScope sFirst) := ⟨rfl, rfl, rfl, by decide +kernel, rfl, by decide +kernel, by decide +kernel⟩
theorem ok_first {f : Addr} {fd fdR : FuncData} (F : Fun K "first_ready" "first_ready" sFirst f fd) (T : Txt K mg C fN fT fC fR fF fO) (FR : Fun K "ready" "ready" sReady fR fdR) (bR : Binds K fdR ["letter", "clock"] []) : FnOk P w K mg base CX0 2 f fd ["tray", "clock"] (spFirst K) := by
  have GR : FnOk P w K mg base CX0 1 fR fdR ["letter", "clock"] (spReady K) := ok_ready FR T
  refine okB (body := [stm sFirst 0, stm sFirst 1]) F scF (fun vs H Q E h => ?_) (by kernel_rfl) (fun cdv A outer s0 H vs Q E hr h => ?_)
  · obtain ⟨a, c, ts, ls, cs, rfl, _⟩ := h
    rfl
  · obtain ⟨a, c, ts, ls, cs, rfl, h1, h2, h3, h4, h5, h6, q⟩ := h
    refine ⟨_, (pss_cons (ps_for PassesOwn.never rfl (rng1 T.range (aC (cB (call_len_seq (X := _)) T.len PySem.boot_len (aC (oV oFr 0) pa_nil)) pa_nil)) (oT oFr 2)
        (pss_one (ps_if (pt_val (cF GR hr T.ready FR.kp bR .nil pass0 (aC (iX (ixL K) (oV oFr 0) (oV oFr 2)) (aC (oV oFr 1) pa_nil))))
          (pss_one (ps_ret (oV oFr 2)))
          pss_nil)))
      (pss_one (ps_ret pe_non))), ?_⟩
    refine cut2 ?_
    intro rr1
    have hlen : ts.length = ls.length := by rw [reps_len h2, List.length_map]
    refine ⟨_, rfl, a, _, rfl, .inl h1, _, rfl, by omega, by omega, for_range (n := ((ts.length : Nat) : Int).toNat) (fun i σ H2 => ∃ v, σ = [some (.ref a), some (.ref c), v] ∧ Same H H2 ∧ ∀ l ∈ ls.take i, readyB l.s l.st cs = false)
      ⟨none, rfl, Same.refl H, fun _ h => by simp at h⟩ ?_ ?_⟩
    · rintro i σ H2 hi ⟨v, rfl, e1, e2⟩
      have hi' : i < ls.length := by omega
      have hget : (ls.map letD)[i]? = some (letD ls[i]) := by rw [List.getElem?_map, List.getElem?_eq_getElem hi']; rfl
      obtain ⟨x, hx, rx⟩ := reps_get h2 hget
      obtain ⟨b, rfl, L⟩ := letAt_iff.mp rx
      obtain ⟨g1, g2⟩ := h6 ls[i] (List.getElem_mem hi')
      refine ⟨_, rfl, _, rfl, a, _, _, _, rfl, rfl, e1.seq h1, by rw [Int.zero_add]; exact atI_nat hx, _, rfl, b, c, ls[i], cs, rfl, L.imm e1.imm, e1.sqT h3, g1, g2, h4, fun H3 e3 => ⟨_, rfl, ?_⟩⟩
      cases hr : readyB ls[i].s ls[i].st cs with
      | true =>
        refine iteT ⟨_, rfl, ?_⟩
        have hf : firstR ls cs = some i := by
          unfold firstR
          rw [List.findIdx?_eq_some_iff_getElem]
          refine ⟨hi', hr, fun j hj => ?_⟩
          have := e2 ls[j] (List.mem_take_iff_getElem.mpr ⟨j, by omega, rfl⟩)
          rw [this]; simp
        have q' := q H3 (e1.trans e3)
        rw [hf] at q'
        simpa [optV] using q'
      | false =>
        refine iteF ⟨_, rfl, e1.trans e3, fun l hl => ?_⟩
        rw [List.take_succ, List.getElem?_eq_getElem hi'] at hl
        rcases List.mem_append.mp hl with z | z
        · exact e2 l z
        · have : l = ls[i] := by simpa using z
          rw [this]; exact hr
    · rintro σ H2 ⟨v, rfl, e1, e2⟩
      have hf : firstR ls cs = none := by
        unfold firstR
        rw [List.findIdx?_eq_none_iff]
        intro l hl
        exact e2 l (by rw [show ((ts.length : Nat) : Int).toNat = ls.length by omega, List.take_length]; exact hl)
      have q' := q H2 e1
      rw [hf] at q'
      exact q'
end
end Of

end

set_option Elab.async false
set_option linter.all false
set_option maxRecDepth 100000
set_option maxHeartbeats 4000000
namespace Of
open PySem L2 L3
/-! ### an office with all its parts named -/
structure OffX (K : PySem.W.Frag) (C : Addr) (H : Hp) (p : Addr) (o : Off) (dx cl lb lt lk : Addr) (bs ts ks : List V) : Prop where
  ob : H p = some (.ins C dx (flds o.num o.coins cl lb lt lk))
  ck : SqT K H cl (nums o.clock)
  hb : H lb = some (.lst bs)
  rb : RepDs K H o.book bs
  ht : H lt = some (.lst ts)
  rt : RepDs K H (o.tray.map letD) ts
  hk : H lk = some (.lst ks)
  rk : RepDs K H o.kept ks
  nb : noLists o.book = true
  nk : noLists o.kept = true
section
variable {K : PySem.W.Frag} {C : Addr} {H H4 H' : Hp} {p : Addr} {o : Off} {dx cl lb lt lk q : Addr} {bs ts ks xs : List V}
theorem OffAt.x (h : OffAt K C H p o) : ∃ dx cl lb lt lk bs ts ks, OffX K C H p o dx cl lb lt lk bs ts ks := by
  obtain ⟨⟨dx, cl, lb, lt, lk, bs, ts, ks, h1, h2, h3, h4, h5, h6, h7, h8⟩, nb, nk⟩ := h
  exact ⟨dx, cl, lb, lt, lk, bs, ts, ks, h1, h2, h3, h4, h5, h6, h7, h8, nb, nk⟩
theorem OffX.at_ (h : OffX K C H p o dx cl lb lt lk bs ts ks) : OffAt K C H p o := ⟨⟨dx, cl, lb, lt, lk, bs, ts, ks, h.ob, h.ck, h.hb, h.rb, h.ht, h.rt, h.hk, h.rk⟩, h.nb, h.nk⟩
theorem OffX.same (h : OffX K C H p o dx cl lb lt lk bs ts ks) (e : Same H H') : OffX K C H' p o dx cl lb lt lk bs ts ks :=
  ⟨e _ _ h.ob, e.sqT h.ck, e _ _ h.hb, RepDs.same e _ _ h.rb, e _ _ h.ht, RepDs.same e _ _ h.rt, e _ _ h.hk, RepDs.same e _ _ h.rk, h.nb, h.nk⟩
theorem lst_ne {u : List V} {c d : Addr} {fs : List (Str × V)} (h1 : H q = some (.lst u)) (h2 : H p = some (.ins c d fs)) : q ≠ p := ne_of h1 h2 (by intro z; cases z)
theorem upd_old {b : Addr} {u : List V} {fs gs : List (Str × V)} (hp : H p = some (.ins C dx fs)) (h : H b = some (.lst u)) : (upd H p (.ins C dx gs)) b = some (.lst u) := (upd_ne (lst_ne h hp)).trans h
theorem OffX.setCoins (h : OffX K C H p o dx cl lb lt lk bs ts ks) (c : Int) : OffX K C (upd H p (.ins C dx (putF "coins" (.int c) (flds o.num o.coins cl lb lt lk)))) p { o with coins := c } dx cl lb lt lk bs ts ks :=
  have e := imm_ins (C' := C) (dx' := dx) (gs := putF "coins" (.int c) (flds o.num o.coins cl lb lt lk)) h.ob
  ⟨by rw [upd_same, put_coins], e.sqT h.ck, upd_old h.ob h.hb, RepDs.imm e _ _ h.nb h.rb, upd_old h.ob h.ht, RepDs.imm e _ _ (noList_lets _) h.rt, upd_old h.ob h.hk, RepDs.imm e _ _ h.nk h.rk, h.nb, h.nk⟩
theorem OffX.setClock (h : OffX K C H p o dx cl lb lt lk bs ts ks) {cs : List Int} (hc : SqT K H q (nums cs)) : OffX K C (upd H p (.ins C dx (putF "clock" (.ref q) (flds o.num o.coins cl lb lt lk)))) p { o with clock := cs } dx q lb lt lk bs ts ks :=
  have e := imm_ins (C' := C) (dx' := dx) (gs := putF "clock" (.ref q) (flds o.num o.coins cl lb lt lk)) h.ob
  ⟨by rw [upd_same, put_clock], e.sqT hc, upd_old h.ob h.hb, RepDs.imm e _ _ h.nb h.rb, upd_old h.ob h.ht, RepDs.imm e _ _ (noList_lets _) h.rt, upd_old h.ob h.hk, RepDs.imm e _ _ h.nk h.rk, h.nb, h.nk⟩
theorem OffX.setBook (h : OffX K C H p o dx cl lb lt lk bs ts ks) {ds : List PyData} (hq : H q = some (.lst xs)) (rq : RepDs K H ds xs) (nq : noLists ds = true) : OffX K C (upd H p (.ins C dx (putF "book" (.ref q) (flds o.num o.coins cl lb lt lk)))) p { o with book := ds } dx cl q lt lk xs ts ks :=
  have e := imm_ins (C' := C) (dx' := dx) (gs := putF "book" (.ref q) (flds o.num o.coins cl lb lt lk)) h.ob
  ⟨by rw [upd_same, put_book], e.sqT h.ck, upd_old h.ob hq, RepDs.imm e _ _ nq rq, upd_old h.ob h.ht, RepDs.imm e _ _ (noList_lets _) h.rt, upd_old h.ob h.hk, RepDs.imm e _ _ h.nk h.rk, nq, h.nk⟩
theorem OffX.setTray (h : OffX K C H p o dx cl lb lt lk bs ts ks) {ls : List Let} (hq : H q = some (.lst xs)) (rq : RepDs K H (ls.map letD) xs) : OffX K C (upd H p (.ins C dx (putF "tray" (.ref q) (flds o.num o.coins cl lb lt lk)))) p { o with tray := ls } dx cl lb q lk bs xs ks :=
  have e := imm_ins (C' := C) (dx' := dx) (gs := putF "tray" (.ref q) (flds o.num o.coins cl lb lt lk)) h.ob
  ⟨by rw [upd_same, put_tray], e.sqT h.ck, upd_old h.ob h.hb, RepDs.imm e _ _ h.nb h.rb, upd_old h.ob hq, RepDs.imm e _ _ (noList_lets _) rq, upd_old h.ob h.hk, RepDs.imm e _ _ h.nk h.rk, h.nb, h.nk⟩
theorem OffX.setKept (h : OffX K C H p o dx cl lb lt lk bs ts ks) {ds : List PyData} (hq : H q = some (.lst xs)) (rq : RepDs K H ds xs) (nq : noLists ds = true) : OffX K C (upd H p (.ins C dx (putF "kept" (.ref q) (flds o.num o.coins cl lb lt lk)))) p { o with kept := ds } dx cl lb lt q bs ts xs :=
  have e := imm_ins (C' := C) (dx' := dx) (gs := putF "kept" (.ref q) (flds o.num o.coins cl lb lt lk)) h.ob
  ⟨by rw [upd_same, put_kept], e.sqT h.ck, upd_old h.ob h.hb, RepDs.imm e _ _ h.nb h.rb, upd_old h.ob h.ht, RepDs.imm e _ _ (noList_lets _) h.rt, upd_old h.ob hq, RepDs.imm e _ _ nq rq, h.nb, nq⟩
theorem SameX.imm {fs : List (Str × V)} (e : SameX p H H') (hp : H p = some (.ins C dx fs)) : Imm H H' :=
  ⟨fun b xs h => e.keep b _ h (ne_of h hp (by intro z; cases z)), fun b u v h => e.keep b _ h (ne_of h hp (by intro z; cases z))⟩
theorem SameX.lst {fs : List (Str × V)} {b : Addr} (e : SameX p H H') (hp : H p = some (.ins C dx fs)) (h : H b = some (.lst xs)) : H' b = some (.lst xs) := e.keep b _ h (lst_ne h hp)
theorem sx_coins (h : OffX K C H4 p o dx cl lb lt lk bs ts ks) (e : SameX p H H4) {c : Int} : SameX p H (upd H4 p (.ins C dx (putF "coins" (.int c) (flds o.num o.coins cl lb lt lk)))) := by rw [put_coins]; exact sx_set e h.ob (.inl rfl) (.inl rfl) (.inl rfl)
theorem sx_clock (h : OffX K C H4 p o dx cl lb lt lk bs ts ks) (e : SameX p H H4) : SameX p H (upd H4 p (.ins C dx (putF "clock" (.ref q) (flds o.num o.coins cl lb lt lk)))) := by rw [put_clock]; exact sx_set e h.ob (.inl rfl) (.inl rfl) (.inl rfl)
theorem sx_book (h : OffX K C H4 p o dx cl lb lt lk bs ts ks) (e : SameX p H H4) (hq : H q = none) : SameX p H (upd H4 p (.ins C dx (putF "book" (.ref q) (flds o.num o.coins cl lb lt lk)))) := by rw [put_book]; exact sx_set e h.ob (.inr hq) (.inl rfl) (.inl rfl)
theorem sx_tray (h : OffX K C H4 p o dx cl lb lt lk bs ts ks) (e : SameX p H H4) (hq : H q = none) : SameX p H (upd H4 p (.ins C dx (putF "tray" (.ref q) (flds o.num o.coins cl lb lt lk)))) := by rw [put_tray]; exact sx_set e h.ob (.inl rfl) (.inr hq) (.inl rfl)
theorem sx_kept (h : OffX K C H4 p o dx cl lb lt lk bs ts ks) (e : SameX p H H4) (hq : H q = none) : SameX p H (upd H4 p (.ins C dx (putF "kept" (.ref q) (flds o.num o.coins cl lb lt lk)))) := by rw [put_kept]; exact sx_set e h.ob (.inl rfl) (.inl rfl) (.inr hq)
/-- a list that the office does not hold is changed: it stands as it stood -/
theorem OffX.other (h : OffX K C H p o dx cl lb lt lk bs ts ks) {b : Addr} {ys : List V} (hb : H b = some (.lst xs)) (n1 : b ≠ lb) (n2 : b ≠ lt) (n3 : b ≠ lk) : OffX K C (upd H b (.lst ys)) p o dx cl lb lt lk bs ts ks :=
  have e := imm_lst (ys := ys) hb
  ⟨(upd_ne (lst_ne hb h.ob).symm).trans h.ob, e.sqT h.ck, (upd_ne n1.symm).trans h.hb, RepDs.imm e _ _ h.nb h.rb, (upd_ne n2.symm).trans h.ht, RepDs.imm e _ _ (noList_lets _) h.rt, (upd_ne n3.symm).trans h.hk, RepDs.imm e _ _ h.nk h.rk, h.nb, h.nk⟩
theorem SameX.seq {fs : List (Str × V)} {b : Addr} (e : SameX p H H') (hp : H p = some (.ins C dx fs)) (h : SqL K H b xs) : SqL K H' b xs := by
  rcases h with (h | ⟨u, h⟩) | h
  · exact .inl (.inl (e.lst hp h))
  · exact .inl (.inr ⟨u, (e.imm hp).frz _ _ _ h⟩)
  · exact .inr h
end
/-! ### names, as tuples made -/
def All2 {α : Type} (R : α → V → Prop) : List α → List V → Prop
  | [], xs => xs = []
  | a :: as, xs => ∃ x r, xs = x :: r ∧ R a x ∧ All2 R as r
section
variable {α : Type} {R R' : α → V → Prop}
theorem All2.mono (h : ∀ a x, R a x → R' a x) : ∀ {as : List α} {xs : List V}, All2 R as xs → All2 R' as xs
  | [], _, e => e
  | a :: as, _, ⟨x, r, e, h1, h2⟩ => ⟨x, r, e, h a x h1, h2.mono h⟩
theorem All2.append : ∀ {as bs : List α} {xs ys : List V}, All2 R as xs → All2 R bs ys → All2 R (as ++ bs) (xs ++ ys)
  | [], bs, xs, ys, e, h => by
    have : xs = [] := e
    subst this; exact h
  | a :: as, bs, _, ys, ⟨x, r, e, h1, h2⟩, h => by subst e; exact ⟨x, r ++ ys, rfl, h1, h2.append h⟩
theorem All2.one {a : α} {x : V} (h : R a x) : All2 R [a] [x] := ⟨x, [], rfl, h, rfl⟩
theorem All2.len : ∀ {as : List α} {xs : List V}, All2 R as xs → xs.length = as.length
  | [], xs, e => by
    have : xs = [] := e
    subst this; rfl
  | a :: as, _, ⟨x, r, e, h1, h2⟩ => by subst e; simp only [List.length_cons, h2.len]
theorem All2.get : ∀ {as : List α} {xs : List V} {i : Nat} {a : α}, All2 R as xs → as[i]? = some a → ∃ x, xs[i]? = some x ∧ R a x
  | [], xs, i, a, h, e => by simp at e
  | b :: as, _, i, a, ⟨x, r, e, h1, h2⟩, g => by
    subst e
    cases i with
    | zero => simp at g; subst g; exact ⟨x, rfl, h1⟩
    | succ j =>
      obtain ⟨y, g1, g2⟩ := h2.get (i := j) (by simpa using g)
      exact ⟨y, by simpa using g1, g2⟩
theorem All2.reps {K : PySem.W.Frag} {H : Hp} {f : α → PyData} (h : ∀ a x, R a x → RepD K H (f a) x) : ∀ {as : List α} {xs : List V}, All2 R as xs → RepDs K H (as.map f) xs
  | [], xs, e => e
  | a :: as, _, ⟨x, r, e, h1, h2⟩ => by
    subst e
    simp only [List.map_cons, RepDs]
    exact ⟨x, r, rfl, h a x h1, h2.reps h⟩
end
def NmV (H : Hp) (l : Let) (v : V) : Prop := ∃ b, v = .ref b ∧ H b = some (.tup [.int l.s, .int (nameN l)])
theorem NmV.imm {H H' : Hp} (e : Imm H H') {l : Let} {v : V} : NmV H l v → NmV H' l v
  | ⟨b, e1, h⟩ => ⟨b, e1, e.tup _ _ h⟩
theorem NmVs.imm {H H' : Hp} (e : Imm H H') {ls : List Let} {xs : List V} (h : All2 (NmV H) ls xs) : All2 (NmV H') ls xs := h.mono fun _ _ => NmV.imm e
theorem NmV.rep {K : PySem.W.Frag} {H : Hp} {l : Let} {v : V} : NmV H l v → RepD K H (nameD l) v
  | ⟨b, e, h⟩ => by
    subst e
    simp only [nameD, nmD, RepD, RepDs]
    exact ⟨b, _, rfl, SqT.of h, _, _, rfl, rfl, _, _, rfl, rfl, rfl⟩
/-! ### the promises of the methods -/
/-- a letter of a post with n offices -/
def Fit (n : Nat) (l : Let) : Prop := l.s < n ∧ l.st.length = n
/-- an office of n, of modest size -/
structure Fine (n k : Nat) (o : Off) : Prop where
  cl : o.clock.length = n
  n1 : n ≤ 1000
  tr : ∀ l ∈ o.tray, Fit n l
  nt : o.tray.length ≤ k
  nb : o.book.length ≤ 10 * k
  nk : o.kept.length ≤ 10 * k
def spInit (K : PySem.W.Frag) (C : Addr) : Sp := fun vs H Q _ => ∃ (p dx : Addr) (num coins : Int) (n : Nat), vs = [.ref p, .int num, .int n, .int coins] ∧ H p = some (.ins C dx []) ∧ 2 ≤ n ∧ n < 1000 ∧
  ∀ H', OffAt K C H' p ⟨num, coins, List.replicate n 0, [], [], []⟩ → SameX p H H' → Q .non H'
def spWrite (K : PySem.W.Frag) (C : Addr) : Sp := fun vs H Q _ => ∃ (p a : Addr) (how : Str) (o : Off) (l : Let), vs = [.ref p, .str how, .ref a] ∧ OffAt K C H p o ∧ LetAt K H a l ∧ l.s < l.st.length ∧ o.book.length ≤ 100000 ∧ o.kept.length ≤ 100000 ∧
  ∀ H', OffAt K C H' p (wrote o how l) → SameX p H H' → Q .non H'
def spNew (K : PySem.W.Frag) (C : Addr) : Sp := fun vs H Q _ => ∃ (p a : Addr) (o : Off) (l : Let), vs = [.ref p, .ref a] ∧ OffAt K C H p o ∧ LetAt K H a l ∧ l.s < l.st.length ∧ l.s < o.clock.length ∧ o.tray.length ≤ 1000 ∧ (∀ m ∈ o.tray, m.s < m.st.length) ∧
  ∀ H', Same H H' → Q (.bl (newB o l)) H'
def spHand (K : PySem.W.Frag) (C : Addr) : Sp := fun vs H Q _ => ∃ (p : Addr) (i n : Nat) (o : Off) (l : Let), vs = [.ref p, .int i] ∧ OffAt K C H p o ∧ o.tray[i]? = some l ∧ Fine n 1000 o ∧
  ∀ r H', OffAt K C H' p (handed o i l) → NmV H' l r → SameX p H H' → Q r H'
def spTake (K : PySem.W.Frag) (C : Addr) : Sp := fun vs H Q _ => ∃ (p a : Addr) (n : Nat) (o : Off) (l : Let), vs = [.ref p, .ref a] ∧ OffAt K C H p o ∧ LetAt K H a l ∧ Fit n l ∧ Fine n 900 o ∧
  ∀ (ln : Addr) (xs : List V) (H' : Hp), OffAt K C H' p (took o l).2 → H ln = none → H' ln = some (.lst xs) → All2 (NmV H') (took o l).1 xs → ¬ Refs (H' p) ln → SameX p H H' → Q (.ref ln) H'
theorem name_rep {K : PySem.W.Frag} {H : Hp} {q : Addr} {l : Let} (h : SqT K H q [.int l.s, .int (nameN l)]) : RepD K H (nameD l) (.ref q) := by
  simp only [nameD, nmD, RepD, RepDs]
  exact ⟨q, _, rfl, h, _, _, rfl, rfl, _, _, rfl, rfl, rfl⟩
end Of

section
set_option Elab.async false
set_option linter.all false
set_option maxRecDepth 100000
set_option maxHeartbeats 4000000
seal L2.PE L2.PT L2.PW L2.PA L2.PS L2.PSs L2.PG L2.PGs L2.PI L3.PTs L2.PO L2.CallR L2.OpR L2.IxR L2.MtR L2.PSet L2.SlR
namespace Of
open PySem L2 L3
section
variable {P : Program} {w : World} {K : PySem.W.Frag} {mg : Str → Option Value} {base : Heap} {C fN fT fC fR fF fO : Addr}
theorem few6 {n c : Int} {cl lb lt lk : Addr} : (flds n c cl lb lt lk).length < 1000 := by show 6 < 1000; decide
theorem big (n : Nat) (h : n ≤ 1000000) : n ≤ sizeLine := Nat.le_trans h (by decide)
theorem pl {f : Str} {v : V} {fs : List (Str × V)} {n : Nat} (h : fs.length ≤ n) : (putF f v fs).length ≤ n + 1 := Nat.le_trans (length_putF _ _ _) (Nat.succ_le_succ h)
theorem oI : ownB ["self", "number", "count", "coins"] (defScope sInit) = true := by decide +kernel
theorem scI : FnScope ["self", "number", "count", "coins"] ["self", "number", "count", "coins"] (defScope sInit) := ⟨rfl, rfl, rfl, by decide +kernel, rfl, by decide +kernel, by decide +kernel⟩
theorem rep0 (n : Nat) : (List.replicate n [V.int 0]).flatten = nums (List.replicate n 0) := by
  induction n with
  | zero => rfl
  | succ n ih => rw [List.replicate_succ, List.flatten_cons, ih]; rfl
theorem ok_init {f : Addr} {fd : FuncData} (F : Fun K "__init__" "Office.__init__" sInit f fd) (T : Txt K mg C fN fT fC fR fF fO) : FnOk P w K mg base CX0 1 f fd ["self", "number", "count", "coins"] (spInit K C) := by
  refine okB (body := [stm sInit 0, stm sInit 1, stm sInit 2, stm sInit 3, stm sInit 4, stm sInit 5]) F scI (fun vs H Q E h => ?_) (by kernel_rfl) (fun cdv A outer s0 H vs Q E hr h => ?_)
  · obtain ⟨p, dx, num, coins, n, rfl, _⟩ := h
    rfl
  · obtain ⟨p, dx, num, coins, n, rfl, hp, hn2, hn, k⟩ := h
    refine ⟨_, (pss_cons (ps_fld (oV oI 0) (oV oI 1) rfl)
      (pss_cons (ps_fld (oV oI 0) (oV oI 3) rfl)
      (pss_cons (ps_fld (oV oI 0) (pe_op op_repT (pe_tup (aC pe_int pa_nil)) (oV oI 2)) rfl)
      (pss_cons (ps_fld (oV oI 0) (pe_lst pa_nil) rfl)
      (pss_cons (ps_fld (oV oI 0) (pe_lst pa_nil) rfl)
      (pss_one (ps_fld (oV oI 0) (pe_lst pa_nil) rfl))))))), ?_⟩
    refine cut6 ?_
    intro rr5 rr4 rr3 rr2 rr1
    refine ⟨_, rfl, _, rfl, p, C, dx, _, rfl, hp, T.cl, T.nN, (by show 0 < 1000; decide), ?_⟩
    refine ⟨_, rfl, _, rfl, p, C, dx, _, rfl, upd_same, T.cl, T.nC, (by show 1 < 1000; decide), ?_⟩
    refine ⟨len1, fun pz nz => ?_⟩
    have npz : p ≠ pz := fun e => by rw [← e, upd_same] at nz; cases nz
    refine ⟨_, rfl, pz, (n : Int), _, rfl, rfl, SqT.of upd_same, by simp, by omega, by omega, by show 1 ≤ 1000; decide, fun pc nc => ?_⟩
    have npc : p ≠ pc := fun e => by rw [← e, upd_ne npz, upd_same] at nc; cases nc
    refine ⟨_, rfl, p, C, dx, _, rfl, (upd_ne npc).trans ((upd_ne npz).trans upd_same), T.cl, T.nK, (Nat.lt_of_le_of_lt (pl (pl (Nat.le_refl 0))) (by decide)), ?_⟩
    refine ⟨len0, fun pb nb => ?_⟩
    have npb : p ≠ pb := fun e => by rw [← e, upd_same] at nb; cases nb
    refine ⟨_, rfl, p, C, dx, _, rfl, (upd_ne npb).trans upd_same, T.cl, T.nB, (Nat.lt_of_le_of_lt (pl (pl (pl (Nat.le_refl 0)))) (by decide)), ?_⟩
    refine ⟨len0, fun pt nt => ?_⟩
    have npt : p ≠ pt := fun e => by rw [← e, upd_same] at nt; cases nt
    refine ⟨_, rfl, p, C, dx, _, rfl, (upd_ne npt).trans upd_same, T.cl, T.nT, (Nat.lt_of_le_of_lt (pl (pl (pl (pl (Nat.le_refl 0))))) (by decide)), ?_⟩
    refine ⟨len0, fun pk nk => ?_⟩
    have npk : p ≠ pk := fun e => by rw [← e, upd_same] at nk; cases nk
    refine ⟨_, rfl, p, C, dx, _, rfl, (upd_ne npk).trans upd_same, T.cl, T.nE, (Nat.lt_of_le_of_lt (pl (pl (pl (pl (pl (Nat.le_refl 0)))))) (by decide)), ?_⟩
    -- what stands now
    have nbc : pb ≠ pc := fun e => by rw [e, upd_ne npc.symm, upd_same] at nb; cases nb
    have ntc : pt ≠ pc := fun e => by rw [e, upd_ne npc.symm, upd_ne nbc.symm, upd_ne npc.symm, upd_same] at nt; cases nt
    have ntb : pt ≠ pb := fun e => by rw [e, upd_ne npb.symm, upd_same] at nt; cases nt
    have nkc : pk ≠ pc := fun e => by rw [e, upd_ne npc.symm, upd_ne ntc.symm, upd_ne npc.symm, upd_ne nbc.symm, upd_ne npc.symm, upd_same] at nk; cases nk
    have nkb : pk ≠ pb := fun e => by rw [e, upd_ne npb.symm, upd_ne ntb.symm, upd_ne npb.symm, upd_same] at nk; cases nk
    have nkt : pk ≠ pt := fun e => by rw [e, upd_ne npt.symm, upd_same] at nk; cases nk
    refine k _ ⟨⟨dx, pc, pb, pt, pk, [], [], [], ?_, ?_, ?_, rfl, ?_, rfl, ?_, rfl⟩, rfl, rfl⟩ ?_
    · rw [upd_same, put_all]
    · refine SqT.of ?_
      rw [upd_ne npc.symm, upd_ne nkc.symm, upd_ne npc.symm, upd_ne ntc.symm, upd_ne npc.symm, upd_ne nbc.symm, upd_ne npc.symm, upd_same, Int.toNat_natCast, rep0]
    · rw [upd_ne npb.symm, upd_ne nkb.symm, upd_ne npb.symm, upd_ne ntb.symm, upd_ne npb.symm, upd_same]
    · rw [upd_ne npt.symm, upd_ne nkt.symm, upd_ne npt.symm, upd_same]
    · rw [upd_ne npk.symm, upd_same]
    · have hx : ∃ u, H p = some u := ⟨_, hp⟩
      have z1 : ∀ {o : HO} {b : Addr}, (upd H p o) b = none → H b = none := fun {o b} z => by
        by_cases hb : b = p
        · rw [hb, upd_same] at z; cases z
        · rw [upd_ne hb] at z; exact z
      have z2 : ∀ {G : Hp} {q b : Addr} {o : HO}, (upd G q o) b = none → G b = none := fun {G q b o} z => by
        by_cases hb : b = q
        · rw [hb, upd_same] at z; cases z
        · rw [upd_ne hb] at z; exact z
      have fb : H pb = none := z1 (z2 (z2 (z2 (z2 nb))))
      have ft : H pt = none := z1 (z2 (z2 (z2 (z2 (z2 (z2 nt))))))
      have fk : H pk = none := z1 (z2 (z2 (z2 (z2 (z2 (z2 (z2 (z2 nk))))))))
      refine ⟨fun b u hb nbp => ?_, fun b hb => ?_, hx⟩
      · have nb1 : b ≠ pb := fun e => by rw [e, fb] at hb; cases hb
        have nt1 : b ≠ pt := fun e => by rw [e, ft] at hb; cases hb
        have nk1 : b ≠ pk := fun e => by rw [e, fk] at hb; cases hb
        have nz1 : b ≠ pz := fun e => by rw [e, z1 (z2 nz)] at hb; cases hb
        have nc1 : b ≠ pc := fun e => by rw [e, z1 (z2 (z2 nc))] at hb; cases hb
        rw [upd_ne nbp, upd_ne nk1, upd_ne nbp, upd_ne nt1, upd_ne nbp, upd_ne nb1, upd_ne nbp, upd_ne nc1, upd_ne nz1, upd_ne nbp, upd_ne nbp]
        exact hb
      · rw [upd_same, put_all, refs_flds] at hb
        rcases hb with rfl | rfl | rfl
        · exact .inr fb
        · exact .inr ft
        · exact .inr fk

theorem oW : ownB ["self", "how", "letter", "name"] (defScope sWrite) = true := by decide +kernel
theorem scW : FnScope ["self", "how", "letter", "name"] ["self", "how", "letter"] (defScope sWrite) := ⟨rfl, rfl, rfl, by decide +kernel, rfl, by decide +kernel, by decide +kernel⟩
theorem ok_write {f : Addr} {fd fdN : FuncData} (F : Fun K "write_in_book" "Office.write_in_book" sWrite f fd) (T : Txt K mg C fN fT fC fR fF fO) (FN : Fun K "name_of" "name_of" sName fN fdN) (bN : Binds K fdN ["letter"] []) : FnOk P w K mg base CX0 2 f fd ["self", "how", "letter"] (spWrite K C) := by
  have GN : FnOk P w K mg base CX0 1 fN fdN ["letter"] (spName K) := ok_name FN
  refine okB (body := [stm sWrite 0, stm sWrite 1, stm sWrite 2]) F scW (fun vs H Q E h => ?_) (by kernel_rfl) (fun cdv A outer s0 H vs Q E hr h => ?_)
  · obtain ⟨p, a, how, o, l, rfl, _⟩ := h
    rfl
  · obtain ⟨p, a, how, o, l, rfl, O, L, hl, b1, b2, k⟩ := h
    have hrN := hr
    obtain ⟨dx, cl, lb, lt, lk, bs, ts, ks, X⟩ := O.x
    refine ⟨_, (pss_cons (oS oW 3 (cF GN hrN T.name_of FN.kp bN .nil pass0 (aC (oV oW 2) pa_nil)))
      (pss_cons (ps_fld (oV oW 0) (pe_op op_cat (pe_fld (oV oW 0) rfl) (pe_lst (aC (pe_tup (aC (oV oW 1) (aC (oV oW 3) pa_nil))) pa_nil))) rfl)
      (pss_one (ps_if (pt_cmpR op_eq (iX (ixT K) (iX (ixT K) (oV oW 2) pe_int) pe_int) pe_str (nomark _))
        (pss_one (ps_fld (oV oW 0) (pe_op op_cat (pe_fld (oV oW 0) rfl) (pe_lst (aC (pe_tup (aC (oV oW 3) (aC (pe_fld (oV oW 0) rfl) (aC (pe_fld (oV oW 0) rfl) pa_nil)))) pa_nil))) rfl))
        pss_nil)))), ?_⟩
    refine cut3 ?_
    intro rr2 rr1
    refine ⟨_, rfl, a, l, rfl, L, hl, fun pn nn => ?_⟩
    have s1 := same_new (o := .tup [.int l.s, .int (nameN l)]) nn
    have X1 := X.same s1
    -- the book
    refine ⟨_, rfl, p, C, dx, _, _, rfl, X1.ob, T.cl, T.nB, at_book, _, rfl, _, rfl, len2, fun pt nt => ⟨len1, fun pl nl => ?_⟩⟩
    have s2 := same_new (o := .tup [.str how, .ref pn]) nt
    have s3 := same_new (o := .lst [.ref pt]) nl
    have X3 := (X1.same s2).same s3
    have lenb : bs.length = o.book.length := reps_len X.rb
    refine ⟨lb, pl, _, _, rfl, rfl, X3.hb, upd_same, by rw [List.length_singleton]; exact big _ (by omega), fun pb nb => ?_⟩
    have s4 := same_new (o := .lst (bs ++ [.ref pt])) nb
    have X4 := X3.same s4
    refine ⟨_, rfl, p, C, dx, _, rfl, X4.ob, T.cl, T.nB, few6, ?_⟩
    have hpn : SqT K (upd H pn (.tup [.int l.s, .int (nameN l)])) pn [.int l.s, .int (nameN l)] := SqT.of upd_same
    have hname : RepD K (upd H pn (.tup [.int l.s, .int (nameN l)])) (nameD l) (.ref pn) := name_rep hpn
    have hbk : RepD K (upd (upd H pn (.tup [.int l.s, .int (nameN l)])) pt (.tup [.str how, .ref pn])) (bookD how l) (.ref pt) := by
      simp only [bookD, RepD, RepDs]
      exact ⟨pt, _, rfl, SqT.of upd_same, _, _, rfl, rfl, _, _, rfl, RepD.same s2 _ _ hname, rfl⟩
    have nbook : noLists (o.book ++ [bookD how l]) = true := by
      have : ∀ ds : List PyData, noLists ds = true → noLists (ds ++ [bookD how l]) = true := by
        intro ds
        induction ds with
        | nil => intro _; rfl
        | cons d ds ih =>
          intro h
          simp only [noLists, Bool.and_eq_true, List.cons_append] at h ⊢
          exact ⟨h.1, ih h.2⟩
      exact this _ X.nb
    have X5 := X4.setBook (q := pb) (xs := bs ++ [.ref pt]) (ds := o.book ++ [bookD how l]) upd_same (RepDs.same s4 _ _ (reps_append X3.rb (reps_one (RepD.same s3 _ _ hbk)))) nbook
    have sx5 := sx_book (q := pb) X4 (same_x X.ob (((s1.trans s2).trans s3).trans s4)) (((s1.trans s2).trans s3).free nb)
    have i5 := sx5.imm X.ob
    -- a cut?
    obtain ⟨b, c, g1, g2, g3⟩ := L.imm i5
    cases hw : l.w with
    | pay tt mm =>
      rw [hw] at g3
      have g3 : SqT K _ c [.str "pay", .int tt, .int mm] := g3
      refine ⟨_, rfl, a, _, 2, _, rfl, rfl, g1, rfl, c, _, 0, _, rfl, rfl, g3, rfl, rfl, _, rfl, ?_⟩
      rw [show decide (V.str "pay" = V.str "cut") = false by decide +kernel]
      refine iteF ?_
      have e : wrote o how l = { o with book := o.book ++ [bookD how l] } := by unfold wrote; rw [hw, if_neg (by intro z; cases z)]
      exact k _ (by rw [e]; exact X5.at_) sx5
    | cut =>
      rw [hw] at g3
      have g3 : SqT K _ c [.str "cut"] := g3
      refine ⟨_, rfl, a, _, 2, _, rfl, rfl, g1, rfl, c, _, 0, _, rfl, rfl, g3, rfl, rfl, _, rfl, ?_⟩
      rw [show decide (V.str "cut" = V.str "cut") = true from decide_eq_true rfl]
      refine iteT ?_
      have lenk : ks.length = o.kept.length := reps_len X.rk
      refine ⟨_, rfl, p, C, dx, _, _, rfl, X5.ob, T.cl, T.nE, at_kept, _, rfl, _, rfl, p, C, dx, _, _, rfl, X5.ob, T.cl, T.nC, at_coins, _, rfl, p, C, dx, _, _, rfl, X5.ob, T.cl, T.nK, at_clock, len3, fun pt2 nt2 => ⟨len1, fun pl2 nl2 => ?_⟩⟩
      have s6 := same_new (o := .tup [.ref pn, .int o.coins, .ref cl]) nt2
      have s7 := same_new (o := .lst [.ref pt2]) nl2
      have X7 := (X5.same s6).same s7
      refine ⟨lk, pl2, _, _, rfl, rfl, X7.hk, upd_same, by rw [List.length_singleton]; exact big _ (by omega), fun pk nk => ?_⟩
      have s8 := same_new (o := .lst (ks ++ [.ref pt2])) nk
      have X8 := X7.same s8
      refine ⟨_, rfl, p, C, dx, _, rfl, X8.ob, T.cl, T.nE, few6, ?_⟩
      have hname6 := RepD.same s6 _ _ (RepD.imm (imm_ins (C' := C) (dx' := dx) (gs := putF "book" (.ref pb) (flds o.num o.coins cl lb lt lk)) X4.ob) _ _ (noList_name l) (RepD.same s4 _ _ (RepD.same s3 _ _ (RepD.same s2 _ _ hname))))
      have hkp : RepD K (upd (upd (upd (upd (upd (upd H pn (.tup [.int l.s, .int (nameN l)])) pt (.tup [.str how, .ref pn])) pl (.lst [.ref pt])) pb (.lst (bs ++ [.ref pt]))) p (.ins C dx (putF "book" (.ref pb) (flds o.num o.coins cl lb lt lk)))) pt2 (.tup [.ref pn, .int o.coins, .ref cl])) (keptD l o.coins o.clock) (.ref pt2) := by
        simp only [keptD, RepD, RepDs]
        exact ⟨pt2, _, rfl, SqT.of upd_same, _, _, rfl, hname6, _, _, rfl, rfl, _, _, rfl, ⟨cl, _, rfl, s6.sqT X5.ck, reps_ints.mpr rfl⟩, rfl⟩
      have nkept : noLists (o.kept ++ [keptD l o.coins o.clock]) = true := by
        have h0 : noList (keptD l o.coins o.clock) = true := by simp only [keptD, noList, noLists, noList_name, noList_ints, Bool.and_true]
        have : ∀ ds : List PyData, noLists ds = true → noLists (ds ++ [keptD l o.coins o.clock]) = true := by
          intro ds
          induction ds with
          | nil => intro _; simp only [List.nil_append, noLists, h0, Bool.and_true]
          | cons d ds ih =>
            intro h
            simp only [noLists, Bool.and_eq_true, List.cons_append] at h ⊢
            exact ⟨h.1, ih h.2⟩
        exact this _ X.nk
      have X9 := X8.setKept (q := pk) (xs := ks ++ [.ref pt2]) (ds := o.kept ++ [keptD l o.coins o.clock]) upd_same (RepDs.same s8 _ _ (reps_append X7.rk (reps_one (RepD.same s7 _ _ hkp)))) nkept
      have e : wrote o how l = { o with book := o.book ++ [bookD how l], kept := o.kept ++ [keptD l o.coins o.clock] } := by unfold wrote; rw [hw, if_pos rfl]
      exact k _ (by rw [e]; exact X9.at_) (sx_kept X8 (sx5.trans (same_x X5.ob ((s6.trans s7).trans s8))) (sx5.free ⟨_, X5.ob⟩ ((s6.trans s7).free nk)))
end
end Of

end

section
set_option Elab.async false
set_option linter.all false
set_option maxRecDepth 100000
set_option maxHeartbeats 4000000
seal L2.PE L2.PT L2.PW L2.PA L2.PS L2.PSs L2.PG L2.PGs L2.PI L3.PTs L2.PO L2.CallR L2.OpR L2.IxR L2.MtR L2.PSet L2.SlR
namespace Of
open PySem L2 L3
section
variable {P : Program} {w : World} {K : PySem.W.Frag} {mg : Str → Option Value} {base : Heap} {C fN fT fC fR fF fO : Addr}
theorem no_isnew {n c : Int} {cl lb lt lk : Addr} : (flds n c cl lb lt lk).lookup ("is_new" : Str) = none := by kernel_rfl
theorem no_hand {n c : Int} {cl lb lt lk : Addr} : (flds n c cl lb lt lk).lookup ("hand_over" : Str) = none := by kernel_rfl
theorem no_write {n c : Int} {cl lb lt lk : Addr} : (flds n c cl lb lt lk).lookup ("write_in_book" : Str) = none := by kernel_rfl
theorem no_take {n c : Int} {cl lb lt lk : Addr} : (flds n c cl lb lt lk).lookup ("take" : Str) = none := by kernel_rfl
theorem noList_names : ∀ ls : List Let, noLists (ls.map nameD) = true
  | [] => rfl
  | l :: ls => by simp only [List.map_cons, noLists, noList_name, Bool.true_and]; exact noList_names ls
theorem lay_names : ∀ ls : List Let, PyData.canLayAll0 (ls.map nameD) = true
  | [] => rfl
  | l :: ls => by simp only [List.map_cons, PyData.canLayAll0, lay_names ls, Bool.and_true]; rfl
theorem depth_name (l : Let) : (nameD l).depth ≤ 10 := by simp [nameD, nmD, PyData.depth, PyData.depthAll]

theorem oNw : ownB ["self", "letter", "name"] (defScope sIsNew) = true := by decide +kernel
theorem scNw : FnScope ["self", "letter", "name"] ["self", "letter"] (defScope sIsNew) := ⟨rfl, rfl, rfl, by decide +kernel, rfl, by decide +kernel, by decide +kernel⟩
theorem ok_isnew {f : Addr} {fd fdN fdT : FuncData} (F : Fun K "is_new" "Office.is_new" sIsNew f fd) (T : Txt K mg C fN fT fC fR fF fO) (FN : Fun K "name_of" "name_of" sName fN fdN) (bN : Binds K fdN ["letter"] [])
    (FT : Fun K "is_there" "is_there" sThere fT fdT) (bT : Binds K fdT ["name", "clock"] []) : FnOk P w K mg base CX0 2 f fd ["self", "letter"] (spNew K C) := by
  have GN : FnOk P w K mg base CX0 1 fN fdN ["letter"] (spName K) := ok_name FN
  have GT : FnOk P w K mg base CX0 1 fT fdT ["name", "clock"] (spThere K) := ok_there FT
  refine okB (body := [stm sIsNew 0, stm sIsNew 1]) F scNw (fun vs H Q E h => ?_) (by kernel_rfl) (fun cdv A outer s0 H vs Q E hr h => ?_)
  · obtain ⟨p, a, o, l, rfl, _⟩ := h
    rfl
  · obtain ⟨p, a, o, l, rfl, O, L, hl, hs, ht, hm, q⟩ := h
    have hrN := hr
    obtain ⟨dx, cl, lb, lt, lk, bs, ts, ks, X⟩ := O.x
    refine ⟨_, (pss_cons (oS oNw 2 (cF GN hrN T.name_of FN.kp bN .nil pass0 (aC (oV oNw 1) pa_nil)))
      (pss_one (ps_ret (pe_and (pe_not (cF GT hrN T.is_there FT.kp bT .nil pass0 (aC (oV oNw 2) (aC (pe_fld (oV oNw 0) rfl) pa_nil)))) (pe_one (pe_cmpR (op_notInD (n := 10) (room_in hr)) (oV oNw 2) (eC [] [] rfl (pi_list (pe_fld (oV oNw 0) rfl)) (fun _ _ _ _ _ => pts_nil) (fun _ _ _ _ _ => (cF GN hrN T.name_of FN.kp bN .nil pass0 (aC (sV 0) pa_nil)))) (by rfl))))))), ?_⟩
    refine cut2 ?_
    intro rr1
    refine ⟨_, rfl, a, l, rfl, L, hl, fun pn nn => ?_⟩
    have s1 := same_new (o := .tup [.int l.s, .int (nameN l)]) nn
    have X1 := X.same s1
    refine ⟨_, rfl, _, rfl, p, C, dx, _, _, rfl, X1.ob, T.cl, T.nK, at_clock, pn, cl, l.s, _, _, rfl, SqT.of upd_same, X1.ck, hs, _, rfl, _, rfl, ?_⟩
    cases hb : decide (nameN l ≤ o.clock.getD l.s 0) with
    | true =>
      refine iteF ?_
      have : newB o l = false := by unfold newB; rw [hb]; rfl
      rw [this] at q
      exact q _ s1
    | false =>
      refine iteT ?_
      have hlen : ts.length = o.tray.length := by rw [reps_len X.rt, List.length_map]
      refine ⟨_, rfl, _, rfl, p, C, dx, _, _, rfl, X1.ob, T.cl, T.nT, at_tray, lt, rfl, ⟨_, SqL.of X1.ht⟩, comp_list (xs := ts) (fun D i ys H3 => Same (upd H pn (.tup [.int l.s, .int (nameN l)])) H3 ∧ H3 D = some (.lst ys) ∧ RepDs K H3 ((o.tray.take i).map nameD) ys)
        (fun D hD => ⟨same_new hD, upd_same, rfl⟩) (fun D i ys H3 _ _ h => ⟨h.2.1, SqL.of (h.1 _ _ X1.ht)⟩) (fun D i x ys H3 hD hx h => ?_) (fun D ys H3 hD h => ?_)⟩
      · obtain ⟨f1, f2, f3⟩ := h
        have hi : i < o.tray.length := by have := (List.getElem?_eq_some_iff.mp hx).1; omega
        have hget : (o.tray.map letD)[i]? = some (letD o.tray[i]) := by rw [List.getElem?_map, List.getElem?_eq_getElem hi]; rfl
        obtain ⟨x', hx', rx⟩ := reps_get X1.rt hget
        rw [hx] at hx'
        cases hx'
        obtain ⟨b, rfl, Lb⟩ := letAt_iff.mp rx
        refine ⟨_, rfl, b, o.tray[i], rfl, Lb.imm f1.imm, hm _ (List.getElem_mem hi), fun q1 nq => ?_⟩
        have nqD : D ≠ q1 := fun e => by rw [← e, f2] at nq; cases nq
        have hD4 : (upd H3 q1 (.tup [.int o.tray[i].s, .int (nameN o.tray[i])])) D = some (.lst ys) := (upd_ne nqD).trans f2
        have hylen : ys.length = (o.tray.take i).length := by rw [reps_len f3, List.length_map]
        refine ⟨hD4, ?_, same_upd (f1.trans (same_new nq)) hD, upd_same, ?_⟩
        · rw [hylen, List.length_take]; exact small1000 (by omega)
        · rw [List.take_succ, List.getElem?_eq_getElem hi]
          simp only [Option.toList_some, List.map_append, List.map_cons, List.map_nil]
          have e4 := imm_lst (ys := ys ++ [.ref q1]) hD4
          refine reps_append (RepDs.imm e4 _ _ (noList_names _) (RepDs.same (same_new nq) _ _ f3)) (reps_one (RepD.imm e4 _ _ (noList_name _) (name_rep (SqT.of upd_same))))
      · obtain ⟨f1, f2, f3⟩ := h
        rw [hlen, List.take_length] at f3
        refine ⟨nameD l, o.tray.map nameD, RepD.same f1 _ _ (name_rep (SqT.of upd_same)), ?_, rfl, lay_names _, Nat.le_trans (Nat.min_le_right _ _) (depth_name l), ?_⟩
        · simp only [RepD]
          exact ⟨D, ys, rfl, SqL.of f2, f3⟩
        · have : newB o l = !(o.tray.map nameD).any fun y => PyData.eqv y (nameD l) := by unfold newB; rw [hb, List.any_map]; rfl
          rw [this] at q
          exact q _ (s1.trans f1)

theorem erase_map (ls : List Let) (i : Nat) : (ls.eraseIdx i).map letD = (ls.map letD).eraseIdx i := by
  rw [List.eraseIdx_eq_take_drop_succ, List.eraseIdx_eq_take_drop_succ, List.map_append, List.map_take, List.map_drop]
theorem cut_cat {xs : List V} {i : Nat} (h : i < xs.length) : cutV xs none (some (i : Int)) ++ cutV xs (some ((i : Int) + 1)) none = xs.eraseIdx i := by
  rw [cut_lo (by omega), show ((i : Int) + 1) = ((i + 1 : Nat) : Int) by omega, cut_hi (by omega), List.eraseIdx_eq_take_drop_succ]
theorem oHd : ownB ["self", "place", "letter"] (defScope sHand) = true := by decide +kernel
theorem scHd : FnScope ["self", "place", "letter"] ["self", "place"] (defScope sHand) := ⟨rfl, rfl, rfl, by decide +kernel, rfl, by decide +kernel, by decide +kernel⟩
theorem ok_hand {f fW : Addr} {fd fdN fdC fdO fdW : FuncData} (F : Fun K "hand_over" "Office.hand_over" sHand f fd) (T : Txt K mg C fN fT fC fR fF fO) (FN : Fun K "name_of" "name_of" sName fN fdN) (bN : Binds K fdN ["letter"] [])
    (FC : Fun K "counted" "counted" sCounted fC fdC) (bC : Binds K fdC ["clock", "sender"] []) (FO : Fun K "coins_for" "coins_for" sCoins fO fdO) (bO : Binds K fdO ["number", "what"] [])
    (FW : Fun K "write_in_book" "Office.write_in_book" sWrite fW fdW) (bW : Binds K fdW ["self", "how", "letter"] []) (mW : Meth K C "write_in_book" fW) : FnOk P w K mg base CX0 3 f fd ["self", "place"] (spHand K C) := by
  have GN : FnOk P w K mg base CX0 1 fN fdN ["letter"] (spName K) := ok_name FN
  have GC : FnOk P w K mg base CX0 1 fC fdC ["clock", "sender"] (spCounted K) := ok_counted FC
  have GO : FnOk P w K mg base CX0 1 fO fdO ["number", "what"] (spCoins K) := ok_coins FO
  have GW : FnOk P w K mg base CX0 2 fW fdW ["self", "how", "letter"] (spWrite K C) := ok_write FW T FN bN
  refine okB (body := [stm sHand 0, stm sHand 1, stm sHand 2, stm sHand 3, stm sHand 4, stm sHand 5]) F scHd (fun vs H Q E h => ?_) (by kernel_rfl) (fun cdv A outer s0 H vs Q E hr h => ?_)
  · obtain ⟨p, i, n, o, l, rfl, _⟩ := h
    rfl
  · obtain ⟨p, i, n, o, l, rfl, O, hget, Fn, k⟩ := h
    have hrN := hr.mono (by decide : 1 ≤ 2)
    obtain ⟨dx, cl, lb, lt, lk, bs, ts, ks, X⟩ := O.x
    have hi : i < o.tray.length := (List.getElem?_eq_some_iff.mp hget).1
    obtain ⟨hs, hst⟩ := Fn.tr l (List.mem_of_getElem? hget)
    have hlen : ts.length = o.tray.length := by rw [reps_len X.rt, List.length_map]
    obtain ⟨x, hx, rx⟩ := reps_get X.rt (i := i) (d := letD l) (by rw [List.getElem?_map, hget]; rfl)
    obtain ⟨b, rfl, L⟩ := letAt_iff.mp rx
    have hcl := Fn.cl
    have hn1 := Fn.n1
    have hnt := Fn.nt
    have hnb := Fn.nb
    have hnk := Fn.nk
    refine ⟨_, (pss_cons (oS oHd 2 (iX (ixL K) (pe_fld (oV oHd 0) rfl) (oV oHd 1)))
      (pss_cons (ps_fld (oV oHd 0) (pe_op op_cat (pe_slice sl_list (pe_fld (oV oHd 0) rfl) po_none (po_some (oV oHd 1))) (pe_slice sl_list (pe_fld (oV oHd 0) rfl) (po_some (pe_op op_add (oV oHd 1) pe_int)) po_none)) rfl)
      (pss_cons (ps_fld (oV oHd 0) (cF GC hrN T.counted FC.kp bC .nil pass0 (aC (pe_fld (oV oHd 0) rfl) (aC (iX (ixT K) (oV oHd 2) pe_int) pa_nil))) rfl)
      (pss_cons (ps_fld (oV oHd 0) (pe_op op_add (pe_fld (oV oHd 0) rfl) (cF GO hrN T.coins_for FO.kp bO .nil pass0 (aC (pe_fld (oV oHd 0) rfl) (aC (iX (ixT K) (oV oHd 2) pe_int) pa_nil)))) rfl)
      (pss_cons (ps_expr (pe_meth (oV oHd 0) T.cl mW GW hr bW .nil pass0 (aC pe_str (aC (oV oHd 2) pa_nil))))
      (pss_one (ps_ret (cF GN hrN T.name_of FN.kp bN .nil pass0 (aC (oV oHd 2) pa_nil))))))))), ?_⟩
    refine cut6 ?_
    intro rr5 rr4 rr3 rr2 rr1
    refine ⟨_, rfl, p, C, dx, _, _, rfl, X.ob, T.cl, T.nT, at_tray, _, rfl, lt, _, _, _, rfl, rfl, SqL.of X.ht, atI_nat hx, ?_⟩
    -- the tray
    refine ⟨_, rfl, p, C, dx, _, _, rfl, X.ob, T.cl, T.nT, at_tray, _, rfl, _, rfl, lt, _, rfl, SqL.of X.ht, fun p1 n1 => ?_⟩
    have s1 := same_new (o := .lst (cutV ts none (some (i : Int)))) n1
    have X1 := X.same s1
    refine ⟨_, rfl, p, C, dx, _, _, rfl, X1.ob, T.cl, T.nT, at_tray, _, rfl, _, _, rfl, rfl, _, rfl, lt, _, rfl, SqL.of X1.ht, fun p2 n2 => ?_⟩
    have s2 := same_new (o := .lst (cutV ts (some ((i : Int) + 1)) none)) n2
    have X2 := X1.same s2
    have n12 : p1 ≠ p2 := fun e => by rw [← e, upd_same] at n2; cases n2
    refine ⟨p1, p2, _, _, rfl, rfl, (upd_ne n12).trans upd_same, upd_same, ?_, fun p3 n3 => ?_⟩
    · have a1 := cutV_length ts none (some (i : Int))
      have a2 := cutV_length ts (some ((i : Int) + 1)) none
      exact big _ (by omega)
    have s3 := same_new (o := .lst (cutV ts none (some (i : Int)) ++ cutV ts (some ((i : Int) + 1)) none)) n3
    have X3 := X2.same s3
    refine ⟨_, rfl, p, C, dx, _, rfl, X3.ob, T.cl, T.nT, few6, ?_⟩
    have rr := reps_erase i X3.rt
    rw [← erase_map, ← cut_cat (show i < ts.length by omega)] at rr
    have X4 := X3.setTray (q := p3) (xs := cutV ts none (some (i : Int)) ++ cutV ts (some ((i : Int) + 1)) none) (ls := o.tray.eraseIdx i) upd_same rr
    have x4 := sx_tray (q := p3) X3 (same_x X.ob ((s1.trans s2).trans s3)) ((s1.trans s2).free n3)
    -- the clock
    obtain ⟨b1, c1, g1, g2, g3⟩ := L.imm (x4.imm X.ob)
    refine ⟨_, rfl, p, C, dx, _, _, rfl, X4.ob, T.cl, T.nK, at_clock, _, rfl, b, _, 0, _, rfl, rfl, g1, rfl, cl, l.s, o.clock, rfl, X4.ck, by omega, by omega, fun q5 H5 e5 h5 => ?_⟩
    have X5 := X4.same e5
    refine ⟨_, rfl, p, C, dx, _, rfl, X5.ob, T.cl, T.nK, few6, ?_⟩
    have X6 := X5.setClock h5
    have x6 := sx_clock (q := q5) X5 (x4.trans (same_x X4.ob e5))
    -- the coins
    obtain ⟨b2, c2, k1, k2, k3⟩ := L.imm (x6.imm X.ob)
    refine ⟨_, rfl, p, C, dx, _, _, rfl, X6.ob, T.cl, T.nC, at_coins, _, rfl, p, C, dx, _, _, rfl, X6.ob, T.cl, T.nN, at_number, _, rfl, b, _, 2, _, rfl, rfl, k1, rfl, _, c2, l.w, rfl, k3, _, _, rfl, rfl, _, rfl, p, C, dx, _, rfl, X6.ob, T.cl, T.nC, few6, ?_⟩
    have X7 := X6.setCoins (o.coins + coinsFor o.num l.w)
    have x7 := sx_coins (c := o.coins + coinsFor o.num l.w) X6 x6
    -- the book
    refine ⟨_, rfl, p, dx, _, rfl, X7.ob, no_write, _, rfl, p, b, "got", _, l, rfl, X7.at_, L.imm (x7.imm X.ob), by omega, by show o.book.length ≤ 100000; omega, by show o.kept.length ≤ 100000; omega, fun H8 O8 x8 => ?_⟩
    have x8' : SameX p H H8 := x7.trans x8
    refine ⟨_, rfl, b, l, rfl, L.imm (x8'.imm X.ob), by omega, fun pn nn => ?_⟩
    obtain ⟨dx8, cl8, lb8, lt8, lk8, bs8, ts8, ks8, X8⟩ := O8.x
    exact k (.ref pn) _ (O8.same (same_new nn)) ⟨pn, rfl, upd_same⟩ (x8'.trans (same_x X8.ob (same_new nn)))
end
end Of

end

section
set_option Elab.async false
set_option linter.all false
set_option maxRecDepth 100000
set_option maxHeartbeats 4000000
seal L2.PE L2.PT L2.PW L2.PA L2.PS L2.PSs L2.PG L2.PGs L2.PI L3.PTs L2.PO L2.CallR L2.OpR L2.IxR L2.MtR L2.PSet L2.SlR
namespace Of
open PySem L2 L3
section
variable {P : Program} {w : World} {K : PySem.W.Frag} {mg : Str → Option Value} {base : Heap} {C fN fT fC fR fF fO : Addr}
/-- between two turns of take's loop -/
def TakeW (K : PySem.W.Frag) (C : Addr) (H : Hp) (p a ln : Addr) (n : Nat) (o : Off) (l : Let) : Nat → L2.St → Hp → Prop := fun m σ Hc =>
  ∃ (oc : Off) (dn : List Let) (xs : List V), σ = [some (.ref p), some (.ref a), some (.ref ln), some (optV (firstR oc.tray oc.clock))] ∧ OffAt K C Hc p oc ∧ Hc ln = some (.lst xs) ∧ All2 (NmV Hc) dn xs ∧ SameX p H Hc ∧ ¬ Refs (Hc p) ln ∧
    m = oc.tray.length ∧ oc.clock.length = n ∧ (∀ l ∈ oc.tray, Fit n l) ∧ dn.length + oc.tray.length = (put o l).tray.length ∧ oc.book.length ≤ o.book.length + dn.length ∧ oc.kept.length ≤ o.kept.length + dn.length ∧ took o l = (dn ++ (drain m oc).1, (drain m oc).2)
theorem oTk : ownB ["self", "letter", "names", "place"] (defScope sTake) = true := by decide +kernel
theorem scTk : FnScope ["self", "letter", "names", "place"] ["self", "letter"] (defScope sTake) := ⟨rfl, rfl, rfl, by decide +kernel, rfl, by decide +kernel, by decide +kernel⟩
theorem ok_take {f fI fH : Addr} {fd fdI fdH fdF : FuncData} (F : Fun K "take" "Office.take" sTake f fd) (T : Txt K mg C fN fT fC fR fF fO)
    (bI : Binds K fdI ["self", "letter"] []) (mI : Meth K C "is_new" fI) (GI : FnOk P w K mg base CX0 2 fI fdI ["self", "letter"] (spNew K C))
    (bH : Binds K fdH ["self", "place"] []) (mH : Meth K C "hand_over" fH) (GH : FnOk P w K mg base CX0 3 fH fdH ["self", "place"] (spHand K C))
    (FF : Fun K "first_ready" "first_ready" sFirst fF fdF) (bF : Binds K fdF ["tray", "clock"] []) (GF : FnOk P w K mg base CX0 2 fF fdF ["tray", "clock"] (spFirst K)) : FnOk P w K mg base CX0 4 f fd ["self", "letter"] (spTake K C) := by
  refine okB (body := [stm sTake 0, stm sTake 1, stm sTake 2, stm sTake 3, stm sTake 4]) F scTk (fun vs H Q E h => ?_) (by kernel_rfl) (fun cdv A outer s0 H vs Q E hr h => ?_)
  · obtain ⟨p, a, n, o, l, rfl, _⟩ := h
    rfl
  · obtain ⟨p, a, n, o, l, rfl, O, L, ⟨hs, hst⟩, Fn, k⟩ := h
    have hrF := hr.mono (by decide : 2 ≤ 3)
    obtain ⟨dx0, cl0, lb0, lt0, lk0, bs0, ts0, ks0, X⟩ := O.x
    have hcl := Fn.cl
    have fn1 := Fn.n1
    have hnt := Fn.nt
    have hnb := Fn.nb
    have hnk := Fn.nk
    have hlen : ts0.length = o.tray.length := by rw [reps_len X.rt, List.length_map]
    refine ⟨_, (pss_cons (ps_if (pt_val (pe_meth (oV oTk 0) T.cl mI GI hrF bI .nil pass0 (aC (oV oTk 1) pa_nil)))
        (pss_one (ps_fld (oV oTk 0) (pe_op op_cat (pe_fld (oV oTk 0) rfl) (pe_lst (aC (oV oTk 1) pa_nil))) rfl))
        pss_nil)
      (pss_cons (oS oTk 2 (pe_lst pa_nil))
      (pss_cons (oS oTk 3 (cF GF hrF T.first_ready FF.kp bF .nil pass0 (aC (pe_fld (oV oTk 0) rfl) (aC (pe_fld (oV oTk 0) rfl) pa_nil))))
      (pss_cons (ps_while PassesOwn.never (pt_cmpR op_notN (oV oTk 3) pe_non (nomark _))
        (pss_cons (ps_expr (mApp (oV oTk 2) (pe_meth (oV oTk 0) T.cl mH GH hr bH .nil pass0 (aC (oV oTk 3) pa_nil))))
        (pss_one (oS oTk 3 (cF GF hrF T.first_ready FF.kp bF .nil pass0 (aC (pe_fld (oV oTk 0) rfl) (aC (pe_fld (oV oTk 0) rfl) pa_nil)))))))
      (pss_one (ps_ret (oV oTk 2))))))), ?_⟩
    refine cut5 ?_
    intro rr4 rr3 rr2 rr1
    refine ⟨_, rfl, p, dx0, _, rfl, X.ob, no_isnew, _, rfl, p, a, o, l, rfl, O, L, by omega, by omega, by omega, fun m hm => by have := Fn.tr m hm; unfold Fit at this; omega, fun H1 e1 => ⟨_, rfl, ?_⟩⟩
    have X1 := X.same e1
    cases hnew : newB o l with
    | true =>
      refine iteT ?_
      refine ⟨_, rfl, p, C, dx0, _, _, rfl, X1.ob, T.cl, T.nT, at_tray, _, rfl, len1, fun pl nl => ?_⟩
      have s2 := same_new (o := .lst [.ref a]) nl
      have X2 := X1.same s2
      refine ⟨lt0, pl, _, _, rfl, rfl, X2.ht, upd_same, by rw [List.length_singleton]; exact big _ (by omega), fun pt nt => ?_⟩
      have s3 := same_new (o := .lst (ts0 ++ [.ref a])) nt
      have X3 := X2.same s3
      refine ⟨_, rfl, p, C, dx0, _, rfl, X3.ob, T.cl, T.nT, few6, ?_⟩
      have hput : put o l = { o with tray := o.tray ++ [l] } := by unfold put; rw [hnew]; rfl
      have La : RepD K H (letD l) (.ref a) := letAt_iff.mpr ⟨a, rfl, L⟩
      have X4 := X3.setTray (q := pt) (xs := ts0 ++ [.ref a]) (ls := o.tray ++ [l]) upd_same (by rw [List.map_append]; exact reps_append X3.rt (reps_one (RepD.same s3 _ _ (RepD.same s2 _ _ (RepD.same e1 _ _ La)))))
      have Oa := X4.at_
      rw [← hput] at Oa
      have sxa := sx_tray (q := pt) X3 (same_x X.ob ((e1.trans s2).trans s3)) ((e1.trans s2).free nt)
      have fcl : (put o l).clock.length = n := by rw [hput]; exact hcl
      have ffit : ∀ m ∈ (put o l).tray, Fit n m := by
        rw [hput]; intro m hm
        rcases List.mem_append.mp hm with z | z
        · exact Fn.tr m z
        · have : m = l := by simpa using z
          rw [this]; exact ⟨hs, hst⟩
      have flen : (put o l).tray.length ≤ 901 := by rw [hput]; simp only [List.length_append, List.length_singleton]; omega
      have fbook : (put o l).book = o.book := by rw [hput]
      have fkept : (put o l).kept = o.kept := by rw [hput]
      obtain ⟨dx, cl, lb, lt, lk, bs, ts, ks, Xa⟩ := Oa.x
      refine ⟨len0, fun ln nn => ?_⟩
      have sn := same_new (o := .lst []) nn
      have Xn := Xa.same sn
      have nH : H ln = none := sxa.free ⟨_, Xa.ob⟩ nn
      refine ⟨_, rfl, p, C, dx, _, _, rfl, Xn.ob, T.cl, T.nT, at_tray, _, rfl, p, C, dx, _, _, rfl, Xn.ob, T.cl, T.nK, at_clock, lt, cl, ts, _, _, rfl, SqL.of Xn.ht, Xn.rt, Xn.ck, by omega, by omega, fun m hm => by rw [fcl]; exact ffit m hm, fun H2 e2 => ?_⟩
      have nr : ¬ Refs ((upd _ ln (.lst [])) p) ln := fun z => by
        rw [Xn.ob, refs_flds] at z
        rcases z with z | z | z
        · rw [z, Xa.hb] at nn; cases nn
        · rw [z, Xa.ht] at nn; cases nn
        · rw [z, Xa.hk] at nn; cases nn
      refine ⟨TakeW K C H p a ln n o l, ⟨(put o l).tray.length, put o l, [], [], rfl, (Oa.same sn).same e2, e2 _ _ upd_same, rfl, (sxa.trans (same_x Xa.ob sn)).trans (same_x Xn.ob e2), by rw [e2 _ _ Xn.ob]; rw [Xn.ob] at nr; exact nr, rfl, fcl, ffit, by simp, by rw [fbook]; simp, by rw [fkept]; simp, by simp [took]⟩, ?_⟩
      rintro m σ Hc ⟨oc, dn, xs, rfl, Oc, hln, hxs, sxc, nrc, rfl, ccl, cfit, clen, cbook, ckept, ctook⟩
      refine ⟨_, rfl, rfl, _, rfl, ?_⟩
      obtain ⟨dxc, clc, lbc, ltc, lkc, bsc, tsc, ksc, Xc⟩ := Oc.x
      have xlen : xs.length = dn.length := hxs.len
      cases hf : firstR oc.tray oc.clock with
      | none =>
        rw [show (!decide (optV none = V.non)) = false from rfl]
        refine iteF ?_
        have e1' : (drain oc.tray.length oc).1 = [] := by
          cases hk : oc.tray.length with
          | zero => rfl
          | succ j => simp only [drain, hf]
        have e2' : (drain oc.tray.length oc).2 = oc := by
          cases hk : oc.tray.length with
          | zero => rfl
          | succ j => simp only [drain, hf]
        refine ⟨_, rfl, k ln xs Hc (by rw [ctook, e2']; exact Oc) nH hln (by rw [ctook, e1', List.append_nil]; exact hxs) nrc sxc⟩
      | some i =>
        rw [show (!decide (optV (some i) = V.non)) = true from rfl]
        refine iteT ?_
        have hfi := hf
        unfold firstR at hfi
        rw [List.findIdx?_eq_some_iff_getElem] at hfi
        obtain ⟨hi, _, _⟩ := hfi
        have hget : oc.tray[i]? = some oc.tray[i] := List.getElem?_eq_getElem hi
        obtain ⟨k0, hk0⟩ : ∃ k0, oc.tray.length = k0 + 1 := ⟨oc.tray.length - 1, by omega⟩
        have hdr : drain oc.tray.length oc = (oc.tray[i] :: (drain k0 (handed oc i oc.tray[i])).1, (drain k0 (handed oc i oc.tray[i])).2) := by
          rw [hk0]; simp only [drain, hf, hget]
        have htl : (handed oc i oc.tray[i]).tray.length = k0 := by
          show (oc.tray.eraseIdx i).length = k0
          rw [List.length_eraseIdx_of_lt hi]; omega
        refine ⟨fun σ' H' => ∃ m', m' < oc.tray.length ∧ TakeW K C H p a ln n o l m' σ' H', fun σ' H' h => h, ?_⟩
        refine ⟨_, rfl, .inl ⟨rfl, _, SqL.of hln⟩, _, rfl, p, dxc, _, rfl, Xc.ob, no_hand, _, rfl, p, i, n, oc, oc.tray[i], rfl, Oc, hget, ⟨ccl, fn1, cfit, by omega, by omega, by omega⟩, fun r H3 O3 rr x3 => ?_⟩
        have hln3 : H3 ln = some (.lst xs) := x3.lst Xc.ob hln
        refine ⟨ln, _, _, rfl, rfl, hln3, by exact small1000 (by omega), ?_⟩
        obtain ⟨dx3, cl3, lb3, lt3, lk3, bs3, ts3, ks3, X3⟩ := O3.x
        have nlp : p ≠ ln := (lst_ne hln3 X3.ob).symm
        have i4 := imm_lst (ys := xs ++ [r]) hln3
        have nr3 : ¬ Refs (H3 p) ln := fun z => (x3.refs ln z).elim nrc (fun z => by rw [hln] at z; cases z)
        rw [X3.ob, refs_flds] at nr3
        have X4 := X3.other (b := ln) (ys := xs ++ [r]) hln3 (fun e => nr3 (.inl e)) (fun e => nr3 (.inr (.inl e))) (fun e => nr3 (.inr (.inr e)))
        have h3cl : (handed oc i oc.tray[i]).clock.length = n := by
          show (inc oc.clock _).length = n
          unfold inc; rw [List.length_set]; exact ccl
        have h3fit : ∀ m ∈ (handed oc i oc.tray[i]).tray, Fit n m := fun m hm => cfit m (List.mem_of_mem_eraseIdx hm)
        refine ⟨_, rfl, p, C, dx3, _, _, rfl, X4.ob, T.cl, T.nT, at_tray, _, rfl, p, C, dx3, _, _, rfl, X4.ob, T.cl, T.nK, at_clock, lt3, cl3, ts3, _, _, rfl, SqL.of X4.ht, X4.rt, X4.ck, by omega, by omega, fun m hm => by rw [h3cl]; exact h3fit m hm, fun H5 e5 => ?_⟩
        have sx4 : SameX p H (upd H3 ln (.lst (xs ++ [r]))) := by
          have z := sxc.trans x3
          refine ⟨fun b u hb nb => ?_, fun b hb => ?_, z.here⟩
          · have : b ≠ ln := fun e => by rw [e, nH] at hb; cases hb
            rw [upd_ne this]; exact z.keep b u hb nb
          · rw [upd_ne nlp] at hb; exact z.refs b hb
        refine ⟨k0, by omega, handed oc i oc.tray[i], dn ++ [oc.tray[i]], xs ++ [r], rfl, (X4.same e5).at_, e5 _ _ upd_same, ?_, sx4.trans (same_x X4.ob e5), ?_, htl.symm, h3cl, h3fit, ?_, ?_, ?_, ?_⟩
        · exact NmVs.imm e5.imm (NmVs.imm i4 ((NmVs.imm (x3.imm Xc.ob) hxs).append (All2.one rr)))
        · rw [e5 _ _ X4.ob, refs_flds]; exact nr3
        · rw [List.length_append, List.length_singleton, htl]; omega
        · show (oc.book ++ [_]).length ≤ _
          simp only [List.length_append, List.length_singleton]; omega
        · show (if _ then _ else _ : List PyData).length ≤ _
          split
          · simp only [List.length_append, List.length_singleton]
            show oc.kept.length + 1 ≤ _
            omega
          · simp only [List.length_append, List.length_singleton]
            show oc.kept.length ≤ _
            omega
        · rw [ctook, hdr, List.append_assoc]; rfl
    | false =>
      refine iteF ?_
      have hput : put o l = o := by unfold put; rw [hnew]; rfl
      have Oa : OffAt K C H1 p (put o l) := by rw [hput]; exact X1.at_
      have sxa := same_x X.ob e1
      have fcl : (put o l).clock.length = n := by rw [hput]; exact hcl
      have ffit : ∀ m ∈ (put o l).tray, Fit n m := by rw [hput]; exact Fn.tr
      have flen : (put o l).tray.length ≤ 901 := by rw [hput]; omega
      have fbook : (put o l).book = o.book := by rw [hput]
      have fkept : (put o l).kept = o.kept := by rw [hput]
      obtain ⟨dx, cl, lb, lt, lk, bs, ts, ks, Xa⟩ := Oa.x
      refine ⟨len0, fun ln nn => ?_⟩
      have sn := same_new (o := .lst []) nn
      have Xn := Xa.same sn
      have nH : H ln = none := sxa.free ⟨_, Xa.ob⟩ nn
      refine ⟨_, rfl, p, C, dx, _, _, rfl, Xn.ob, T.cl, T.nT, at_tray, _, rfl, p, C, dx, _, _, rfl, Xn.ob, T.cl, T.nK, at_clock, lt, cl, ts, _, _, rfl, SqL.of Xn.ht, Xn.rt, Xn.ck, by omega, by omega, fun m hm => by rw [fcl]; exact ffit m hm, fun H2 e2 => ?_⟩
      have nr : ¬ Refs ((upd _ ln (.lst [])) p) ln := fun z => by
        rw [Xn.ob, refs_flds] at z
        rcases z with z | z | z
        · rw [z, Xa.hb] at nn; cases nn
        · rw [z, Xa.ht] at nn; cases nn
        · rw [z, Xa.hk] at nn; cases nn
      refine ⟨TakeW K C H p a ln n o l, ⟨(put o l).tray.length, put o l, [], [], rfl, (Oa.same sn).same e2, e2 _ _ upd_same, rfl, (sxa.trans (same_x Xa.ob sn)).trans (same_x Xn.ob e2), by rw [e2 _ _ Xn.ob]; rw [Xn.ob] at nr; exact nr, rfl, fcl, ffit, by simp, by rw [fbook]; simp, by rw [fkept]; simp, by simp [took]⟩, ?_⟩
      rintro m σ Hc ⟨oc, dn, xs, rfl, Oc, hln, hxs, sxc, nrc, rfl, ccl, cfit, clen, cbook, ckept, ctook⟩
      refine ⟨_, rfl, rfl, _, rfl, ?_⟩
      obtain ⟨dxc, clc, lbc, ltc, lkc, bsc, tsc, ksc, Xc⟩ := Oc.x
      have xlen : xs.length = dn.length := hxs.len
      cases hf : firstR oc.tray oc.clock with
      | none =>
        rw [show (!decide (optV none = V.non)) = false from rfl]
        refine iteF ?_
        have e1' : (drain oc.tray.length oc).1 = [] := by
          cases hk : oc.tray.length with
          | zero => rfl
          | succ j => simp only [drain, hf]
        have e2' : (drain oc.tray.length oc).2 = oc := by
          cases hk : oc.tray.length with
          | zero => rfl
          | succ j => simp only [drain, hf]
        refine ⟨_, rfl, k ln xs Hc (by rw [ctook, e2']; exact Oc) nH hln (by rw [ctook, e1', List.append_nil]; exact hxs) nrc sxc⟩
      | some i =>
        rw [show (!decide (optV (some i) = V.non)) = true from rfl]
        refine iteT ?_
        have hfi := hf
        unfold firstR at hfi
        rw [List.findIdx?_eq_some_iff_getElem] at hfi
        obtain ⟨hi, _, _⟩ := hfi
        have hget : oc.tray[i]? = some oc.tray[i] := List.getElem?_eq_getElem hi
        obtain ⟨k0, hk0⟩ : ∃ k0, oc.tray.length = k0 + 1 := ⟨oc.tray.length - 1, by omega⟩
        have hdr : drain oc.tray.length oc = (oc.tray[i] :: (drain k0 (handed oc i oc.tray[i])).1, (drain k0 (handed oc i oc.tray[i])).2) := by
          rw [hk0]; simp only [drain, hf, hget]
        have htl : (handed oc i oc.tray[i]).tray.length = k0 := by
          show (oc.tray.eraseIdx i).length = k0
          rw [List.length_eraseIdx_of_lt hi]; omega
        refine ⟨fun σ' H' => ∃ m', m' < oc.tray.length ∧ TakeW K C H p a ln n o l m' σ' H', fun σ' H' h => h, ?_⟩
        refine ⟨_, rfl, .inl ⟨rfl, _, SqL.of hln⟩, _, rfl, p, dxc, _, rfl, Xc.ob, no_hand, _, rfl, p, i, n, oc, oc.tray[i], rfl, Oc, hget, ⟨ccl, fn1, cfit, by omega, by omega, by omega⟩, fun r H3 O3 rr x3 => ?_⟩
        have hln3 : H3 ln = some (.lst xs) := x3.lst Xc.ob hln
        refine ⟨ln, _, _, rfl, rfl, hln3, by exact small1000 (by omega), ?_⟩
        obtain ⟨dx3, cl3, lb3, lt3, lk3, bs3, ts3, ks3, X3⟩ := O3.x
        have nlp : p ≠ ln := (lst_ne hln3 X3.ob).symm
        have i4 := imm_lst (ys := xs ++ [r]) hln3
        have nr3 : ¬ Refs (H3 p) ln := fun z => (x3.refs ln z).elim nrc (fun z => by rw [hln] at z; cases z)
        rw [X3.ob, refs_flds] at nr3
        have X4 := X3.other (b := ln) (ys := xs ++ [r]) hln3 (fun e => nr3 (.inl e)) (fun e => nr3 (.inr (.inl e))) (fun e => nr3 (.inr (.inr e)))
        have h3cl : (handed oc i oc.tray[i]).clock.length = n := by
          show (inc oc.clock _).length = n
          unfold inc; rw [List.length_set]; exact ccl
        have h3fit : ∀ m ∈ (handed oc i oc.tray[i]).tray, Fit n m := fun m hm => cfit m (List.mem_of_mem_eraseIdx hm)
        refine ⟨_, rfl, p, C, dx3, _, _, rfl, X4.ob, T.cl, T.nT, at_tray, _, rfl, p, C, dx3, _, _, rfl, X4.ob, T.cl, T.nK, at_clock, lt3, cl3, ts3, _, _, rfl, SqL.of X4.ht, X4.rt, X4.ck, by omega, by omega, fun m hm => by rw [h3cl]; exact h3fit m hm, fun H5 e5 => ?_⟩
        have sx4 : SameX p H (upd H3 ln (.lst (xs ++ [r]))) := by
          have z := sxc.trans x3
          refine ⟨fun b u hb nb => ?_, fun b hb => ?_, z.here⟩
          · have : b ≠ ln := fun e => by rw [e, nH] at hb; cases hb
            rw [upd_ne this]; exact z.keep b u hb nb
          · rw [upd_ne nlp] at hb; exact z.refs b hb
        refine ⟨k0, by omega, handed oc i oc.tray[i], dn ++ [oc.tray[i]], xs ++ [r], rfl, (X4.same e5).at_, e5 _ _ upd_same, ?_, sx4.trans (same_x X4.ob e5), ?_, htl.symm, h3cl, h3fit, ?_, ?_, ?_, ?_⟩
        · exact NmVs.imm e5.imm (NmVs.imm i4 ((NmVs.imm (x3.imm Xc.ob) hxs).append (All2.one rr)))
        · rw [e5 _ _ X4.ob, refs_flds]; exact nr3
        · rw [List.length_append, List.length_singleton, htl]; omega
        · show (oc.book ++ [_]).length ≤ _
          simp only [List.length_append, List.length_singleton]; omega
        · show (if _ then _ else _ : List PyData).length ≤ _
          split
          · simp only [List.length_append, List.length_singleton]
            show oc.kept.length + 1 ≤ _
            omega
          · simp only [List.length_append, List.length_singleton]
            show oc.kept.length ≤ _
            omega
        · rw [ctook, hdr, List.append_assoc]; rfl
end
end Of

end

section
set_option Elab.async false
set_option linter.all false
set_option maxRecDepth 100000
set_option maxHeartbeats 4000000
seal L2.PE L2.PT L2.PW L2.PA L2.PS L2.PSs L2.PG L2.PGs L2.PI L3.PTs L2.PO L2.CallR L2.OpR L2.IxR L2.MtR L2.PSet L2.SlR
namespace Of
open PySem L2 L3
/-! ### several letters, one after the other -/
def tookAll (o : Off) : List Let → List (List Let) × Off
  | [] => ([], o)
  | l :: ls => ((took o l).1 :: (tookAll (took o l).2 ls).1, (tookAll (took o l).2 ls).2)
theorem tookAll_snoc : ∀ (ls : List Let) (o : Off) (l : Let), tookAll o (ls ++ [l]) = ((tookAll o ls).1 ++ [(took (tookAll o ls).2 l).1], (took (tookAll o ls).2 l).2)
  | [], o, l => rfl
  | m :: ls, o, l => by
    simp only [List.cons_append, tookAll, tookAll_snoc ls (took o m).2 l]
/-- what a take leaves as it was -/
structure Kin (n : Nat) (o o' : Off) (d : Nat) : Prop where
  cl : o'.clock.length = n
  fit : ∀ l ∈ o'.tray, Fit n l
  bk : o'.book.length + o'.tray.length ≤ o.book.length + o.tray.length + d
  kp : o'.kept.length + o'.tray.length ≤ o.kept.length + o.tray.length + d
  num : o'.num = o.num
theorem handed_kin {n : Nat} {o : Off} {i : Nat} {l : Let} (cl : o.clock.length = n) (fit : ∀ l ∈ o.tray, Fit n l) (hi : o.tray[i]? = some l) : Kin n o (handed o i l) 0 := by
  have hi' : i < o.tray.length := (List.getElem?_eq_some_iff.mp hi).1
  have hl : (o.tray.eraseIdx i).length + 1 = o.tray.length := by rw [List.length_eraseIdx_of_lt hi']; omega
  refine ⟨by show (inc o.clock _).length = n; unfold inc; rw [List.length_set]; exact cl, fun m hm => fit m (List.mem_of_mem_eraseIdx hm), ?_, ?_, rfl⟩
  · show (o.book ++ [_]).length + (o.tray.eraseIdx i).length ≤ _
    simp only [List.length_append, List.length_singleton]; omega
  · show (if _ then _ else _ : List PyData).length + (o.tray.eraseIdx i).length ≤ _
    split
    · simp only [List.length_append, List.length_singleton]
      show o.kept.length + 1 + (o.tray.eraseIdx i).length ≤ _
      omega
    · show o.kept.length + (o.tray.eraseIdx i).length ≤ _
      omega
theorem drain_kin {n : Nat} : ∀ (k : Nat) {o : Off}, o.clock.length = n → (∀ l ∈ o.tray, Fit n l) → Kin n o (drain k o).2 0
  | 0, o, cl, fit => ⟨cl, fit, by simp [drain], by simp [drain], rfl⟩
  | k + 1, o, cl, fit => by
    cases hf : firstR o.tray o.clock with
    | none => simp only [drain, hf]; exact ⟨cl, fit, by omega, by omega, rfl⟩
    | some i =>
      cases hg : o.tray[i]? with
      | none => simp only [drain, hf, hg]; exact ⟨cl, fit, by omega, by omega, rfl⟩
      | some l =>
        simp only [drain, hf, hg]
        have h1 := handed_kin cl fit hg
        have h2 := drain_kin k h1.cl h1.fit
        exact ⟨h2.cl, h2.fit, by have := h1.bk; have := h2.bk; omega, by have := h1.kp; have := h2.kp; omega, h2.num.trans h1.num⟩
theorem took_kin {n : Nat} {o : Off} {l : Let} (cl : o.clock.length = n) (fit : ∀ l ∈ o.tray, Fit n l) (hl : Fit n l) : Kin n o (took o l).2 1 := by
  have hp : (put o l).clock.length = n ∧ (∀ m ∈ (put o l).tray, Fit n m) ∧ (put o l).book = o.book ∧ (put o l).kept = o.kept ∧ (put o l).tray.length ≤ o.tray.length + 1 ∧ (put o l).num = o.num := by
    unfold put
    split
    · refine ⟨cl, fun m hm => ?_, rfl, rfl, by simp, rfl⟩
      rcases List.mem_append.mp hm with z | z
      · exact fit m z
      · have : m = l := by simpa using z
        rw [this]; exact hl
    · exact ⟨cl, fit, rfl, rfl, by omega, rfl⟩
  obtain ⟨h1, h2, h3, h4, h5, h6⟩ := hp
  have h := drain_kin (put o l).tray.length h1 h2
  exact ⟨h.cl, h.fit, by have := h.bk; rw [h3] at this; unfold took; omega, by have := h.kp; rw [h4] at this; unfold took; omega, h.num.trans h6⟩
theorem tookAll_kin {n : Nat} : ∀ (ls : List Let) {o : Off}, o.clock.length = n → (∀ l ∈ o.tray, Fit n l) → (∀ l ∈ ls, Fit n l) → Kin n o (tookAll o ls).2 ls.length
  | [], o, cl, fit, _ => ⟨cl, fit, by simp [tookAll], by simp [tookAll], rfl⟩
  | l :: ls, o, cl, fit, hls => by
    have h1 := took_kin cl fit (hls l List.mem_cons_self)
    have h2 := tookAll_kin ls h1.cl h1.fit (fun m hm => hls m (List.mem_cons_of_mem _ hm))
    refine ⟨h2.cl, h2.fit, ?_, ?_, h2.num.trans h1.num⟩
    · have := h1.bk; have := h2.bk; simp only [tookAll, List.length_cons]; omega
    · have := h1.kp; have := h2.kp; simp only [tookAll, List.length_cons]; omega
/-- a list of answers: each a list of names of its own -/
def AnsAt (K : PySem.W.Frag) (H : Hp) (q : Addr) : List (List Let) → List V → Prop
  | [], ys => ys = []
  | ns :: an, ys => ∃ b xs r, ys = .ref b :: r ∧ b ≠ q ∧ H b = some (.lst xs) ∧ All2 (NmV H) ns xs ∧ AnsAt K H q an r
theorem AnsAt.mono {K : PySem.W.Frag} {H H' : Hp} {q : Addr} (e1 : ∀ b xs, b ≠ q → H b = some (.lst xs) → H' b = some (.lst xs)) (e2 : Imm H H') : ∀ {an : List (List Let)} {ys : List V}, AnsAt K H q an ys → AnsAt K H' q an ys
  | [], _, h => h
  | ns :: an, ys, h => by
    obtain ⟨b, xs, r, rfl, hb, h1, h2, h3⟩ := h
    exact ⟨b, xs, r, rfl, hb, e1 b xs hb h1, NmVs.imm e2 h2, AnsAt.mono e1 e2 h3⟩
theorem AnsAt.snoc {K : PySem.W.Frag} {H : Hp} {q b : Addr} {ns : List Let} {xs : List V} (hb : b ≠ q) (h1 : H b = some (.lst xs)) (h2 : All2 (NmV H) ns xs) : ∀ {an : List (List Let)} {ys : List V}, AnsAt K H q an ys → AnsAt K H q (an ++ [ns]) (ys ++ [.ref b])
  | [], ys, h => by
    have : ys = [] := h
    subst this
    exact ⟨b, xs, [], rfl, hb, h1, h2, rfl⟩
  | ms :: an, ys, h => by
    obtain ⟨b', xs', r, rfl, hb', g1, g2, g3⟩ := h
    exact ⟨b', xs', r ++ [.ref b], rfl, hb', g1, g2, AnsAt.snoc hb h1 h2 g3⟩
theorem AnsAt.len {K : PySem.W.Frag} {H : Hp} {q : Addr} : ∀ {an : List (List Let)} {ys : List V}, AnsAt K H q an ys → ys.length = an.length
  | [], ys, h => by
    have : ys = [] := h
    subst this; rfl
  | ms :: an, ys, h => by
    obtain ⟨b', xs', r, rfl, hb', g1, g2, g3⟩ := h
    simp only [List.length_cons, AnsAt.len g3]
def spTaken (K : PySem.W.Frag) (C : Addr) : Sp := fun vs H Q _ => ∃ (p la : Addr) (n : Nat) (o : Off) (ls : List Let) (xs : List V), vs = [.ref p, .ref la] ∧ OffAt K C H p o ∧ SqL K H la xs ∧ RepDs K H (ls.map letD) xs ∧ (∀ l ∈ ls, Fit n l) ∧
  o.clock.length = n ∧ n ≤ 1000 ∧ (∀ l ∈ o.tray, Fit n l) ∧ o.book.length + o.tray.length + ls.length ≤ 800 ∧ o.kept.length + o.tray.length + ls.length ≤ 800 ∧
  ∀ (q : Addr) (ys : List V) (H' : Hp), OffAt K C H' p (tookAll o ls).2 → H q = none → H' q = some (.lst ys) → AnsAt K H' q (tookAll o ls).1 ys → (∀ b, V.ref b ∈ ys → H b = none) → ¬ Refs (H' p) q → SameX p H H' → Q (.ref q) H'
section
variable {P : Program} {w : World} {K : PySem.W.Frag} {mg : Str → Option Value} {base : Heap} {C fN fT fC fR fF fO : Addr}
theorem oTb : ownB ["office", "letters", "answers", "letter"] (defScope sTaken) = true := by decide +kernel
theorem scTb : FnScope ["office", "letters", "answers", "letter"] ["office", "letters"] (defScope sTaken) := ⟨rfl, rfl, rfl, by decide +kernel, rfl, by decide +kernel, by decide +kernel⟩
theorem ok_taken {f fT' : Addr} {fd fdT : FuncData} (F : Fun K "taken_by" "taken_by" sTaken f fd) (T : Txt K mg C fN fT fC fR fF fO) (bT : Binds K fdT ["self", "letter"] []) (mT : Meth K C "take" fT') (GT : FnOk P w K mg base CX0 4 fT' fdT ["self", "letter"] (spTake K C)) :
    FnOk P w K mg base CX0 5 f fd ["office", "letters"] (spTaken K C) := by
  refine okB (body := [stm sTaken 0, stm sTaken 1, stm sTaken 2]) F scTb (fun vs H Q E h => ?_) (by kernel_rfl) (fun cdv A outer s0 H vs Q E hr h => ?_)
  · obtain ⟨p, la, n, o, ls, xs, rfl, _⟩ := h
    rfl
  · obtain ⟨p, la, n, o, ls, xs, rfl, O, hla, hxs, hfit, hcl, hn1, htf, hb, hk, k⟩ := h
    obtain ⟨dx0, cl0, lb0, lt0, lk0, bs0, ts0, ks0, X⟩ := O.x
    have hlen : xs.length = ls.length := by rw [reps_len hxs, List.length_map]
    refine ⟨_, (pss_cons (oS oTb 2 (pe_lst pa_nil))
      (pss_cons (ps_for PassesOwn.never rfl (pi_list (oV oTb 1)) (oT oTb 3)
        (pss_one (ps_expr (mApp (oV oTb 2) (pe_meth (oV oTb 0) T.cl mT GT hr bT .nil pass0 (aC (oV oTb 3) pa_nil))))))
      (pss_one (ps_ret (oV oTb 2))))), ?_⟩
    refine cut3 ?_
    intro rr2 rr1
    refine ⟨len0, fun q nq => ?_⟩
    have sq := same_new (o := .lst []) nq
    have Xq := X.same sq
    have nr : ¬ Refs ((upd H q (.lst [])) p) q := fun z => by
      rw [Xq.ob, refs_flds] at z
      rcases z with z | z | z
      · rw [z, X.hb] at nq; cases nq
      · rw [z, X.ht] at nq; cases nq
      · rw [z, X.hk] at nq; cases nq
    have hlq : ∀ Hc, SameX p H Hc → Hc q = Hc q → SqL K Hc la xs := fun Hc sx _ => sx.seq X.ob hla
    refine ⟨_, rfl, la, rfl, ⟨_, sq.seq hla⟩, for_list (K := K) (a := la) (xs := xs) (fun i σ Hc => ∃ (v : Option V) (ys : List V), σ = [some (.ref p), some (.ref la), some (.ref q), v] ∧ OffAt K C Hc p (tookAll o (ls.take i)).2 ∧ Hc q = some (.lst ys) ∧ AnsAt K Hc q (tookAll o (ls.take i)).1 ys ∧ (∀ b, V.ref b ∈ ys → H b = none) ∧ ¬ Refs (Hc p) q ∧ SameX p H Hc)
      ⟨none, [], rfl, O.same sq, upd_same, rfl, (fun _ h => nomatch h), nr, same_x X.ob sq⟩ (fun i σ Hc _ ⟨v, ys, _, _, _, _, _, _, sx⟩ => sx.seq X.ob hla) ?_ ?_⟩
    · rintro i y σ Hc hi ⟨v, ys, rfl, Oc, hq, ha, hfr, nrc, sx⟩
      have hi' : i < ls.length := by have := (List.getElem?_eq_some_iff.mp hi).1; omega
      obtain ⟨x', hx', rx⟩ := reps_get hxs (i := i) (d := letD ls[i]) (by rw [List.getElem?_map, List.getElem?_eq_getElem hi']; rfl)
      rw [hi] at hx'
      cases hx'
      obtain ⟨b, rfl, L⟩ := letAt_iff.mp rx
      obtain ⟨dxc, clc, lbc, ltc, lkc, bsc, tsc, ksc, Xc⟩ := Oc.x
      have kn := tookAll_kin (n := n) (ls.take i) hcl htf (fun l hl => hfit l (List.mem_of_mem_take hl))
      have kb := kn.bk
      have kk := kn.kp
      rw [List.length_take] at kb kk
      refine ⟨_, rfl, .inl ⟨rfl, _, SqL.of hq⟩, _, rfl, p, dxc, _, rfl, Xc.ob, no_take, _, rfl, p, b, n, _, ls[i], rfl, Oc, L.imm (sx.imm X.ob), hfit _ (List.getElem_mem hi'), ⟨kn.cl, hn1, kn.fit, by omega, by omega, by omega⟩, fun ln zs H3 O3 nln hln hzs nr3 x3 => ?_⟩
      have hq3 : H3 q = some (.lst ys) := x3.lst Xc.ob hq
      have nlq : ln ≠ q := fun e => by rw [e, hq] at nln; cases nln
      obtain ⟨dx3, cl3, lb3, lt3, lk3, bs3, ts3, ks3, X3⟩ := O3.x
      have alen := ha.len
      have tlen : (tookAll o (ls.take i)).1.length = (ls.take i).length := by
        have : ∀ (ms : List Let) (o : Off), (tookAll o ms).1.length = ms.length := by
          intro ms
          induction ms with
          | nil => intro o; rfl
          | cons m ms ih => intro o; simp only [tookAll, List.length_cons, ih]
        exact this _ _
      rw [List.length_take] at tlen
      refine ⟨q, _, _, rfl, rfl, hq3, by exact small1000 (by omega), ?_⟩
      have nrq : ¬ Refs (H3 p) q := fun z => (x3.refs q z).elim nrc (fun z => by rw [hq] at z; cases z)
      rw [X3.ob, refs_flds] at nrq
      have X4 := X3.other (b := q) (ys := ys ++ [.ref ln]) hq3 (fun e => nrq (.inl e)) (fun e => nrq (.inr (.inl e))) (fun e => nrq (.inr (.inr e)))
      have nqp : p ≠ q := (lst_ne hq3 X3.ob).symm
      have i4 := imm_lst (ys := ys ++ [.ref ln]) hq3
      have etake : ls.take (i + 1) = ls.take i ++ [ls[i]] := by rw [List.take_succ, List.getElem?_eq_getElem hi']; rfl
      refine ⟨_, ys ++ [.ref ln], rfl, by rw [etake, tookAll_snoc]; exact X4.at_, upd_same, ?_, ?_, ?_, ?_⟩
      · rw [etake, tookAll_snoc]
        refine AnsAt.snoc nlq ((upd_ne nlq).trans hln) (NmVs.imm i4 hzs) (AnsAt.mono (fun b zs hb h => (upd_ne hb).trans h) i4 (AnsAt.mono (fun b zs hb h => x3.lst Xc.ob h) (x3.imm Xc.ob) ha))
      · intro b' hb'
        rcases List.mem_append.mp hb' with z | z
        · exact hfr b' z
        · have : b' = ln := by simpa using z
          rw [this]; exact sx.free ⟨_, Xc.ob⟩ nln
      · rw [upd_ne nqp, X3.ob, refs_flds]; exact nrq
      · have z := sx.trans x3
        refine ⟨fun b' u hb' nb' => ?_, fun b' hb' => ?_, z.here⟩
        · have : b' ≠ q := fun e => by rw [e, nq] at hb'; cases hb'
          rw [upd_ne this]; exact z.keep b' u hb' nb'
        · rw [upd_ne nqp] at hb'; exact z.refs b' hb'
    · rintro σ Hc ⟨v, ys, rfl, Oc, hq, ha, hfr, nrc, sx⟩
      rw [hlen, List.take_length] at Oc ha
      exact ⟨_, rfl, k q ys Hc Oc nq hq ha hfr nrc sx⟩
end
end Of

end

section
set_option Elab.async false
set_option linter.all false
set_option maxRecDepth 100000
set_option maxHeartbeats 4000000
seal L2.PE L2.PT L2.PW L2.PA L2.PS L2.PSs L2.PG L2.PGs L2.PI L3.PTs L2.PO L2.CallR L2.OpR L2.IxR L2.MtR L2.PSet L2.SlR
namespace Of
open PySem L2 L3
/-! ### sending -/
def sentL (o : Off) (i : Nat) (w : What) : Let := ⟨i, inc o.clock i, w⟩
def sentO (o : Off) (i : Nat) (w : What) : Off := wrote { o with clock := inc o.clock i } "sent" (sentL o i w)
structure Sends (i n : Nat) (o : Off) : Prop where
  num : o.num = (i : Int)
  lt : i < n
  cl : o.clock.length = n
  n1 : n ≤ 1000
  nb : o.book.length ≤ 90000
  nk : o.kept.length ≤ 90000
def spSend (K : PySem.W.Frag) (C : Addr) : Sp := fun vs H Q _ => ∃ (p c : Addr) (i n : Nat) (o : Off) (w : What), vs = [.ref p, .ref c] ∧ OffAt K C H p o ∧ WhatAt K H c w ∧ Sends i n o ∧
  ∀ (la : Addr) (H' : Hp), OffAt K C H' p (sentO o i w) → LetAt K H' la (sentL o i w) → SameX p H H' → Q (.ref la) H'
def spCut (K : PySem.W.Frag) (C : Addr) : Sp := fun vs H Q _ => ∃ (p : Addr) (i n : Nat) (o : Off), vs = [.ref p] ∧ OffAt K C H p o ∧ Sends i n o ∧
  ∀ (la : Addr) (H' : Hp), OffAt K C H' p (sentO o i .cut) → LetAt K H' la (sentL o i .cut) → SameX p H H' → Q (.ref la) H'
theorem no_send {n c : Int} {cl lb lt lk : Addr} : (flds n c cl lb lt lk).lookup ("send" : Str) = none := by kernel_rfl
section
variable {P : Program} {w : World} {K : PySem.W.Frag} {mg : Str → Option Value} {base : Heap} {C fN fT fC fR fF fO : Addr}
theorem oSd : ownB ["self", "what", "letter"] (defScope sSend) = true := by decide +kernel
theorem scSd : FnScope ["self", "what", "letter"] ["self", "what"] (defScope sSend) := ⟨rfl, rfl, rfl, by decide +kernel, rfl, by decide +kernel, by decide +kernel⟩
theorem ok_send {f fW : Addr} {fd fdN fdC fdW : FuncData} (F : Fun K "send" "Office.send" sSend f fd) (T : Txt K mg C fN fT fC fR fF fO) (FN : Fun K "name_of" "name_of" sName fN fdN) (bN : Binds K fdN ["letter"] [])
    (FC : Fun K "counted" "counted" sCounted fC fdC) (bC : Binds K fdC ["clock", "sender"] [])
    (FW : Fun K "write_in_book" "Office.write_in_book" sWrite fW fdW) (bW : Binds K fdW ["self", "how", "letter"] []) (mW : Meth K C "write_in_book" fW) : FnOk P w K mg base CX0 3 f fd ["self", "what"] (spSend K C) := by
  have GC : FnOk P w K mg base CX0 1 fC fdC ["clock", "sender"] (spCounted K) := ok_counted FC
  have GW : FnOk P w K mg base CX0 2 fW fdW ["self", "how", "letter"] (spWrite K C) := ok_write FW T FN bN
  refine okB (body := [stm sSend 0, stm sSend 1, stm sSend 2, stm sSend 3]) F scSd (fun vs H Q E h => ?_) (by kernel_rfl) (fun cdv A outer s0 H vs Q E hr h => ?_)
  · obtain ⟨p, c, i, n, o, w, rfl, _⟩ := h
    rfl
  · obtain ⟨p, c, i, n, o, wh, rfl, O, W, S, k⟩ := h
    have hrN := hr.mono (by decide : 1 ≤ 2)
    obtain ⟨dx, cl, lb, lt, lk, bs, ts, ks, X⟩ := O.x
    have hnum := S.num
    have hlt := S.lt
    have hcl := S.cl
    have hn1 := S.n1
    have hnb := S.nb
    have hnk := S.nk
    refine ⟨_, (pss_cons (ps_fld (oV oSd 0) (cF GC hrN T.counted FC.kp bC .nil pass0 (aC (pe_fld (oV oSd 0) rfl) (aC (pe_fld (oV oSd 0) rfl) pa_nil))) rfl)
      (pss_cons (oS oSd 2 (pe_tup (aC (pe_fld (oV oSd 0) rfl) (aC (pe_fld (oV oSd 0) rfl) (aC (oV oSd 1) pa_nil)))))
      (pss_cons (ps_expr (pe_meth (oV oSd 0) T.cl mW GW hr bW .nil pass0 (aC pe_str (aC (oV oSd 2) pa_nil))))
      (pss_one (ps_ret (oV oSd 2)))))), ?_⟩
    refine cut4 ?_
    intro rr3 rr2 rr1
    refine ⟨_, rfl, p, C, dx, _, _, rfl, X.ob, T.cl, T.nK, at_clock, _, rfl, p, C, dx, _, _, rfl, X.ob, T.cl, T.nN, at_number, cl, i, o.clock, by rw [hnum]; rfl, X.ck, by omega, by omega, fun q5 H5 e5 h5 => ?_⟩
    have X5 := X.same e5
    refine ⟨_, rfl, p, C, dx, _, rfl, X5.ob, T.cl, T.nK, few6, ?_⟩
    have X6 := X5.setClock h5
    have x6 := sx_clock (q := q5) X5 (same_x X.ob e5)
    refine ⟨_, rfl, p, C, dx, _, _, rfl, X6.ob, T.cl, T.nN, at_number, _, rfl, p, C, dx, _, _, rfl, X6.ob, T.cl, T.nK, at_clock, _, rfl, len3, fun la nla => ?_⟩
    have s7 := same_new (o := .tup [.int o.num, .ref q5, .ref c]) nla
    have X7 := X6.same s7
    have x7 := x6.trans (same_x X6.ob s7)
    have La : LetAt K _ la (sentL o i wh) := ⟨q5, c, by rw [show (sentL o i wh).s = i from rfl, ← hnum]; exact SqT.of upd_same, X7.ck, W.imm (x7.imm X.ob)⟩
    refine ⟨_, rfl, p, dx, _, rfl, X7.ob, no_write, _, rfl, p, la, "sent", _, sentL o i wh, rfl, X7.at_, La, ?_, by show o.book.length ≤ 100000; omega, by show o.kept.length ≤ 100000; omega, fun H8 O8 x8 => ?_⟩
    · show i < (inc o.clock i).length
      unfold inc; rw [List.length_set]; omega
    exact ⟨_, rfl, k la H8 O8 (La.imm (x8.imm X7.ob)) (x7.trans x8)⟩
theorem oCu : ownB ["self"] (defScope sCut) = true := by decide +kernel
theorem scCu : FnScope ["self"] ["self"] (defScope sCut) := ⟨rfl, rfl, rfl, by decide +kernel, rfl, by decide +kernel, by decide +kernel⟩
theorem ok_cut {f fS : Addr} {fd fdS : FuncData} (F : Fun K "cut" "Office.cut" sCut f fd) (T : Txt K mg C fN fT fC fR fF fO) (bS : Binds K fdS ["self", "what"] []) (mS : Meth K C "send" fS) (GS : FnOk P w K mg base CX0 3 fS fdS ["self", "what"] (spSend K C)) :
    FnOk P w K mg base CX0 4 f fd ["self"] (spCut K C) := by
  refine okB (body := [stm sCut 0]) F scCu (fun vs H Q E h => ?_) (by kernel_rfl) (fun cdv A outer s0 H vs Q E hr h => ?_)
  · obtain ⟨p, i, n, o, rfl, _⟩ := h
    rfl
  · obtain ⟨p, i, n, o, rfl, O, S, k⟩ := h
    obtain ⟨dx, cl, lb, lt, lk, bs, ts, ks, X⟩ := O.x
    refine ⟨_, (pss_one (ps_ret (pe_meth (oV oCu 0) T.cl mS GS hr bS .nil pass0 (aC (pe_tup (aC pe_str pa_nil)) pa_nil)))), ?_⟩
    refine ⟨_, rfl, p, dx, _, rfl, X.ob, no_send, len1, fun c nc => ?_⟩
    have s1 := same_new (o := .tup [.str "cut"]) nc
    refine ⟨p, c, i, n, o, .cut, rfl, O.same s1, SqT.of upd_same, S, fun la H' O' L' x' => k la H' O' L' ((same_x X.ob s1).trans x')⟩
end
end Of

end

set_option Elab.async false
set_option linter.all false
set_option maxRecDepth 100000
set_option maxHeartbeats 4000000
namespace L4
open PySem PySem.Spec L2 L3
open PyProof.Rows hiding St

/-! ### an exception in flight: B holds all that was there when it was raised, but the frames -/
structure UnB (fs : List Addr) (H H' : Hp) (h B : Heap) : Prop where
  keep : ∀ b o, h.get? b = some o → H b = none → b ∉ fs → B.get? b = some o
  free : ∀ b o, h.get? b = some o → H b = none → H' b = none
  there : ∀ b o, h.get? b = some o → b ∉ fs → ∃ o', B.get? b = some o'
  tups : ∀ b xs, H b = some (.tup xs) → H' b = some (.tup xs)
  frzs : ∀ b o u, H b = some (.frz o u) → H' b = some (.frz o u)
  tbls : ∀ b ps, H b = some (.tbl ps) → ∃ more, H' b = some (.tbl (ps ++ more))
def SlF (fs : List Addr) (h h' : Heap) : Prop := ∀ b ∈ fs, ∀ o, h.get? b = some o → ∃ sl, h'.get? b = some { o with slots := sl }
def NoF (fs : List Addr) (h : Heap) : Prop := ∀ b ∈ fs, ∀ o, h.get? b = some o → ∀ vs, o.data ≠ .fields vs
theorem UnB.un {fs : List Addr} {H H' : Hp} {h B h' : Heap} (u : UnB fs H H' h B) (st : B.StaysIn h') (sl : SlF fs h h') : Un fs [] H H' h h' where
  keep := fun b o e n hb _ => st b o (u.keep b o e n hb)
  slot := fun b o e n hb _ => sl b hb o e
  free := fun b o e n _ => u.free b o e n
  there := fun b o e _ => by
    by_cases hb : b ∈ fs
    · obtain ⟨s, q⟩ := sl b hb o e
      exact ⟨_, q⟩
    · obtain ⟨o', q⟩ := u.there b o e hb
      exact ⟨o', st _ _ q⟩
  tups := u.tups
  frzs := u.frzs
  tbls := u.tbls
theorem SlF.up {fs : List Addr} {h h1 h2 : Heap} (x : SlF fs h h1) (n : NoF fs h) (u : h1.UpToSlots h2) : SlF fs h h2 := fun b hb o e => by
  obtain ⟨sl, q⟩ := x b hb o e
  obtain ⟨sl', q'⟩ := u b _ q (n b hb o e)
  exact ⟨sl', q'⟩
theorem noF_of {base h : Heap} {l : List Env} (f : h.FunFrames base l) : NoF (frs l) h := fun b hb o e vs => by
  obtain ⟨_, o', ho', hd⟩ := f.mem hb
  rw [e] at ho'
  cases ho'
  exact hd vs

/-- how an own exception lies behind a call -/
def CX1 (P : Program) (w : World) : CXT := fun outer H s E e s' =>
  ∃ (a C : Addr) (a0 : Value) (B : Heap) (H' : Hp), e = .ref a ∧ s'.os = s.os ∧ AllBare s'.gens ∧ Heap.FlyingW B outer a (.ref C) a0 s'.heap ∧ UnB (frs outer) H H' s.heap B ∧ SlF (frs outer) s.heap s'.heap ∧ HOk P w H' B ∧ E (.ref C) none H'
section
variable {X : Cx} {pins : List (Addr × Obj)} {σ : St} {H H' : Hp} {s : Shared} {B : Heap}
abbrev hidF (X : Cx) (s : Shared) : Heap := PySem.W.hideAll s.heap (frs X.stack)
theorem hid_stays : (hidF X s).StaysIn s.heap := fun _ _ q => PySem.W.of_hideAll _ q
theorem hid_frames (I : Inv X pins σ H s) : s.heap.FunFrames (hidF X s) X.stack := PySem.W.funFrames_hide I.stack fun env he a hf => List.mem_filterMap.mpr ⟨env, he, hf⟩
theorem hid_ok (I : Inv X pins σ H s) : HOk X.prog X.w H (hidF X s) := fun a o e => (I.hok a o e).stay (fun b u hb q => PySem.W.hideAll_get _ q fun m => by
  have z := I.stkFree b m
  rcases hb with rfl | hb
  · rw [e] at z; cases z
  · rw [hb] at z; cases z) (fun _ q => q) fun _ _ q => q
theorem not_stk (I : Inv X pins σ H s) {b : Addr} {o : Obj} (e : X.s₀.heap.get? b = some o) (hb : b ∉ X.fs) : b ∉ frs X.stack := fun m => by
  rcases List.mem_cons.mp (I.stkSub b m) with z | z
  · exact absurd z (Nat.ne_of_lt (Nat.lt_of_lt_of_le (Heap.lt_size e) I.ok.above))
  · exact hb z
theorem onB (I : Inv X pins σ H s) (hex : X.ex = []) (u : UnB (frs X.stack) H H' s.heap B) : UnB X.fs X.H₀ H' X.s₀.heap B := by
  have nx : ∀ b : Addr, b ∉ X.ex := fun b z => by rw [hex] at z; cases z
  refine ⟨fun b o e n hb => u.keep b o (I.base.keep b o e n hb (nx b)) (I.base.free b o e n (nx b)) (not_stk I e hb), fun b o e n => ?_, fun b o e hb => ?_, fun b xs e => u.tups b xs (I.base.tups b xs e), fun b o xs e => u.frzs b o xs (I.base.frzs b o xs e), fun b ps e => ?_⟩
  · obtain ⟨o', e'⟩ := I.base.there b o e (nx b)
    exact u.free b o' e' (I.base.free b o e n (nx b))
  · obtain ⟨o', e'⟩ := I.base.there b o e (nx b)
    exact u.there b o' e' (not_stk I e hb)
  · obtain ⟨m1, e1⟩ := I.base.tbls b ps e
    obtain ⟨m2, e2⟩ := u.tbls b _ e1
    exact ⟨m1 ++ m2, by rw [e2, Array.append_assoc]⟩
theorem hid_un (I : Inv X pins σ H s) : UnB (frs X.stack) H H s.heap (hidF X s) :=
  ⟨fun b o e _ hb => PySem.W.hideAll_get _ e hb, fun _ _ _ n => n, fun b o e hb => ⟨o, PySem.W.hideAll_get _ e hb⟩, fun _ _ e => e, fun _ _ _ e => e, fun b ps e => ⟨#[], by rw [e]; simp⟩⟩
theorem base_slots (I : Inv X pins σ H s) (hex : X.ex = []) : SlF X.fs X.s₀.heap s.heap := fun b hb o e => I.base.slot b o e (I.ok.frf b hb) hb (by rw [hex]; simp)
end

/-! ### raising, and letting pass -/
def Throws (X : Cx) (C : Addr) (W : Hp → Prop) : Prop := ∀ (pins : List (Addr × Obj)) (σ : St) (H : Hp) (s : Shared) (h' : Heap) (e : Addr) (vs : List Value), Inv X pins σ H s → Heap.MadeExcOf s.heap h' e (.ref C) vs → W H → X.xe (.ref e) { s with heap := h' }
section
variable {P : Program} {w : World} {K : PySem.W.Frag} {mg : Str → Option Value} {base : Heap} {N : List Str} {qual : Str} {scope : Scope} {f : Addr} {cd : Value} {A : Around} {outer : List Env} {s0 : Shared} {H0 : Hp} {E : XK} {C : Addr}
theorem throws_cx : Throws (cxOf (CX1 P w) P w K mg base N qual scope f cd A outer s0 H0 E) C (fun H => E (.ref C) none H) := by
  intro pins σ H s h' e vs I hx q
  refine wpAny_leaves_madeW (base := hidF _ s) (h := s.heap) I.ok.frames rfl hid_stays (hid_frames I) hx fun h'' t x1 x2 x3 x4 => ?_
  refine ⟨e, C, .ref t, hidF _ s, H, rfl, I.os, I.bare, x1, onB I rfl (hid_un I), ?_, hid_ok I, q⟩
  exact SlF.up (base_slots I rfl) (noF_of I.ok.funs) ((Heap.UpToSlots.of_keeps hx.keeps).trans x4)
end
/-! ### the class of an exception, in the text's own part of the heap -/
def excCls (K : PySem.W.Frag) (C D : Addr) : Bool := PySem.W.kitCls K (.ref C) (.ref D) == some true && PySem.W.subIn K (.ref D) (.type "BaseException") == some true
structure ExcOf (K : PySem.W.Frag) (C : Addr) : Prop where
  ok : PySem.W.excIn K C [.type "ValueError", .type "Exception", .type "BaseException", .type "object"] "ValueError.__new__" = true
theorem ExcOf.obj {K : PySem.W.Frag} {C : Addr} {h : Heap} (O : ExcOf K C) (X : K.In h) : ∃ bm N nm q bs hdct sn sub ab col dd k0 k1 k2 k3 k5 mN, h.get? C = some (excClassObj nm q C N bs bm hdct sn sub ab col dd k0 k1 k2 k3 k5 "ValueError.__new__") ∧ h.Ns N mN ∧ mN "__init__" = none ∧
    OwnTail h [.type "ValueError", .type "Exception", .type "BaseException", .type "object"] bm := by
  have z := O.ok
  unfold PySem.W.excIn at z
  split at z
  next dd cd sl ho =>
    split at z
    next C' bm k0 k1 k2 k3 n k5 hm hs =>
      simp only [Bool.and_eq_true, beq_iff_eq, Bool.not_eq_true'] at z
      obtain ⟨⟨⟨⟨⟨e1, e2⟩, hdel⟩, tl⟩, ok⟩, ni⟩ := z
      subst e1 e2
      obtain ⟨nm, bs, mro, ns, qn, hd, sn, sub, ab, col, del⟩ := cd
      obtain ⟨l⟩ := sl
      simp only at hm hs hdel ok ni
      subst hm hdel hs
      exact ⟨bm, ns, nm, qn, bs, hd, sn, sub, ab, col, dd, k0, k1, k2, k3, k5, _, X _ _ ho, .of_isNs (PySem.W.isNs_of_in X ok), PySem.W.nsMap_none_of_in X ok ni, PySem.W.tail_of_in X tl⟩
    next => cases z
  next => cases z

section
variable {X : Cx} {C : Addr}
def tRaise (W : Hp → Prop) (ta : TA) : TS := fun _ σ H => ta σ H fun vs H1 => vs.length ≤ sizeLine ∧ W H1
/-- raise C(e, ..) -/
theorem ps_raise {W : Hp → Prop} {x : Str} {np cpos pos : Pos} {e : Expr} {es : List Expr} {ta : TA} (hx : Throws X C W) (O : ExcOf X.K C) (hc : X.calm = true) (hm : X.mg x = some (.ref C)) (ha : PA X (e :: es) ta) (hg : glB X.env.scope x = true := by kernel_rfl)
    (h1 : isStar e = false := by rfl) (h2 : noStars es = true := by rfl) : PS X (.Raise (some (.Call (.Name x np) (e :: es) [] cpos)) none pos) (tRaise W ta) := by
  intro pins s σ H D I h
  obtain ⟨bm, N, nm, q, bs, hdct, sn, sub, ab, col, dd, k0, k1, k2, k3, k5, mN, hC, hN, hni, T⟩ := O.obj I.ok.mod.kin
  have st : starEach (e :: es) X.env = (false, eval e X.env) :: starEach es X.env := star_cons h1
  refine wpAny_Raise_call_subT (C := C) (nm := nm) (q := q) (N := N) (bs := bs) (bm := bm) (hdct := hdct) (sn := sn) (sub := sub) (ab := ab) (col := col) (dd := dd) (k0 := k0) (k1 := k1) (k2 := k2) (k3 := k3) (k5 := k5)
    PySem.F.excBase_ValueError (mN := mN) (T.hasType PySem.F.excBase_ValueError.hasBase) (I.ok.hd hc) (back_any (by simp [noStars, h1, h2])) hni (ld_glob I (gl_of hg).1 hm ⟨rfl, ?_⟩ (gl_of hg).2.2)
  have hh := ha cpos pins s σ H _ I h
  rw [st] at hh ⊢
  exact Calls.evalArgs_plain (wpAny_mono hh (fun vs s₂ ⟨xs, H1, I1, r, hl, w⟩ => ⟨rfl, by rw [← r.length]; exact hl, I1.bk _ _ hC, hN.keeps I1.bk, T.keeps I1.bk, fun h' e' hm' => hx pins σ H1 s₂ h' e' vs I1 hm' w⟩) fun _ _ y => y)
end

/-! ### except -/
theorem exc_match {K : PySem.W.Frag} {M : Model} {A : Around} {E : Value → Shared → Prop} {s : Shared} {e C D : Addr} {oe : Obj} {Q : Bool → Shared → Prop} (X : K.In s.heap) (he : s.heap.get? e = some oe) (hc : oe.cls = .ref C) (k : excCls K C D = true)
    (hq : Q true s) : wpAny M A (excMatches (.ref e) (.ref D)) Q E s := by
  obtain ⟨h, g, d, t, os⟩ := s
  unfold excCls at k
  rw [Bool.and_eq_true, beq_iff_eq, beq_iff_eq] at k
  obtain ⟨k1, k2, k3⟩ := PySem.W.kit_cls (M := M) X k.1
  have k4 := PySem.W.looks_subIn (M := M) X k.2
  have f := tc_notTuple
  unfold excMatches isExcClass isInstance
  repeat (first | (with_reducible refine wpAny_loadPart_at he ?_; rw [hc]) | with_reducible refine k1.at ?_ | with_reducible refine k2.at ?_ | with_reducible refine k3.at ?_ | with_reducible refine k4.at ?_ | wp_step)
  exact hq

section
variable {X : Cx}
/-- the body of a try -/
abbrev tryX (X : Cx) (pn : List (Addr × Obj)) (Ex : St → XK) : Cx := { X with pn := X.pn ++ pn, xe := fun e s' => ∃ pins σ H s, Inv X (pn ++ pins) σ H s ∧ CX1 X.prog X.w X.stack H s (Ex σ) e s' }
/-- an except suite -/
abbrev hush (X : Cx) (v : Value) : Cx := { X with A := X.A.mark (some v), calm := false, xe := fun _ _ => False }
section
variable {pins pn : List (Addr × Obj)} {Ex : St → XK} {σ : St} {H : Hp} {s : Shared} {v : Value}
theorem inv_try (I : Inv X (pn ++ pins) σ H s) : Inv (tryX X pn Ex) pins σ H s :=
  ⟨⟨I.ok.mod, I.ok.kind, I.ok.glob, I.ok.blt, I.ok.above, I.ok.inj, I.ok.has, I.ok.cab, I.ok.hd, I.ok.frames, I.ok.stk, I.ok.exf, I.ok.bs, I.ok.bsz, I.ok.noex, I.ok.exfs, I.ok.funs, I.ok.frf⟩, I.os, I.bare, I.base, I.loc, I.cell, I.free, I.freeC, fun p hp => I.pin p (by rw [← List.append_assoc]; exact hp), I.hok, I.len⟩
theorem of_try (I : Inv (tryX X pn Ex) pins σ H s) : Inv X (pn ++ pins) σ H s :=
  ⟨⟨I.ok.mod, I.ok.kind, I.ok.glob, I.ok.blt, I.ok.above, I.ok.inj, I.ok.has, I.ok.cab, I.ok.hd, I.ok.frames, I.ok.stk, I.ok.exf, I.ok.bs, I.ok.bsz, I.ok.noex, I.ok.exfs, I.ok.funs, I.ok.frf⟩, I.os, I.bare, I.base, I.loc, I.cell, I.free, I.freeC, fun p hp => I.pin p (by rw [← List.append_assoc] at hp; exact hp), I.hok, I.len⟩
theorem inv_hush (I : Inv X pins σ H s) : Inv (hush X v) pins σ H s :=
  ⟨⟨I.ok.mod, I.ok.kind, I.ok.glob, I.ok.blt, I.ok.above, I.ok.inj, I.ok.has, I.ok.cab, (fun z => by cases z), I.ok.frames, I.ok.stk, I.ok.exf, I.ok.bs, I.ok.bsz, I.ok.noex, I.ok.exfs, I.ok.funs, I.ok.frf⟩, I.os, I.bare, I.base, I.loc, I.cell, I.free, I.freeC, I.pin, I.hok, I.len⟩
theorem of_hush (hd : X.calm = true → X.A.handled = none) (I : Inv (hush X v) pins σ H s) : Inv X pins σ H s :=
  ⟨⟨I.ok.mod, I.ok.kind, I.ok.glob, I.ok.blt, I.ok.above, I.ok.inj, I.ok.has, I.ok.cab, hd, I.ok.frames, I.ok.stk, I.ok.exf, I.ok.bs, I.ok.bsz, I.ok.noex, I.ok.exfs, I.ok.funs, I.ok.frf⟩, I.os, I.bare, I.base, I.loc, I.cell, I.free, I.freeC, I.pin, I.hok, I.len⟩
theorem sp_try {D : Ends} {f : Flow} (h : SP (tryX X pn Ex) [] D f s) : SP X pn D f s := by
  have g : ∀ {σ H}, Inv (tryX X pn Ex) [] σ H s → Inv X pn σ H s := fun {σ H} I => by
    have := of_try I
    rwa [List.append_nil] at this
  cases f with
  | next => obtain ⟨σ, H, I, q⟩ := h; exact ⟨σ, H, g I, q⟩
  | brk => obtain ⟨σ, H, I, q⟩ := h; exact ⟨σ, H, g I, q⟩
  | cont => obtain ⟨σ, H, I, q⟩ := h; exact ⟨σ, H, g I, q⟩
  | ret u => obtain ⟨v, σ, H, I, r, q⟩ := h; exact ⟨v, σ, H, g I, r, q⟩
theorem sp_hush {D : Ends} {f : Flow} (hd : X.calm = true → X.A.handled = none) (h : SP (hush X v) pins D f s) : SP X pins D f s := by
  cases f with
  | next => obtain ⟨σ, H, I, q⟩ := h; exact ⟨σ, H, of_hush hd I, q⟩
  | brk => obtain ⟨σ, H, I, q⟩ := h; exact ⟨σ, H, of_hush hd I, q⟩
  | cont => obtain ⟨σ, H, I, q⟩ := h; exact ⟨σ, H, of_hush hd I, q⟩
  | ret u => obtain ⟨v, σ, H, I, r, q⟩ := h; exact ⟨v, σ, H, of_hush hd I, r, q⟩
end
/-- try: .. except D: .. -/
def tTry (K : PySem.W.Frag) (D : Addr) (tb : (St → XK) → TS) (th : TS) : TS := fun d σ H => tb (fun σ' c _ H' => ∃ C, c = .ref C ∧ excCls K C D = true ∧ th d σ' H') d σ H
theorem ps_try {body suite : List Stmt} {b₀ : Stmt} {x : Str} {D : Addr} {np hpos pos : Pos} {tb : (St → XK) → TS} {th : TS} (hm : X.mg x = some (.ref D)) (hb : ∀ pn Ex, PSs (tryX X pn Ex) body (tb Ex)) (hh : ∀ v, PSs (hush X v) (b₀ :: suite) th)
    (hst : X.stack = X.env :: X.outer := by rfl) (hfr : X.env.frame = some X.env.locals := by rfl) (hg : glB X.env.scope x = true := by kernel_rfl) :
    PS X (.Try body [.ExceptHandler (some (.Name x np)) none (b₀ :: suite) hpos] [] [] pos) (tTry X.K D tb th) := by
  intro pins s σ H d I h
  refine wpAny_Try_except ?_
  refine wpAny_mono (hb pins _ [] s σ H d (inv_try (by rw [List.append_nil]; exact I)) h) (fun f s1 q => ?_) fun e s' q => ?_
  · have q := sp_try q
    cases f with
    | next => exact wpAny_execs_nil q
    | brk => exact q
    | cont => exact q
    | ret u => exact q
  · obtain ⟨pins', σ', H1, s1, I1, a, C, a0, B, H', rfl, os, bare, fl, un, sl, hok, C', hC', mt, ht⟩ := q
    cases hC'
    have hf : X.A.frames = some (X.env :: X.outer) := by rw [← hst]; exact I.ok.frames
    have nf := noF_of I1.stack
    rw [hst] at fl
    have at_ : ∀ {h' : Heap}, Heap.FlyingW B (X.env :: X.outer) a (.ref C) a0 h' → s'.heap.UpToSlots h' → Inv X pins σ' H' { s' with heap := h' } := fun {h'} f u => by
      have J : Inv X (pins ++ pins') σ' H' { s' with heap := h' } := I1.call' (ch := []) os (un.un f.1 (sl.up nf u)) (hok.kept f.1) bare (fun _ z => nomatch z)
      exact J.pins_of fun p hp => J.pin p (List.mem_append_right _ (List.mem_append_left _ hp))
    refine wpAny_looks_onW hf hfr fl fun h4 fl4 up4 => wpAny_landsW fl4 fun h5 fl5 up5 => ?_
    have I5 := at_ fl5 (up4.trans up5)
    obtain ⟨ob, hob, hobc⟩ := fl5.there
    refine wpAny_handleBy_cons (codeAny_handlers_test (ld_glob (X := hush X (.ref a)) (inv_hush I5) (gl_of hg).1 hm ?_ (gl_of hg).2.2)) (by intro q; cases q)
    refine exc_match I5.kIn hob hobc mt (codeAny_handlers_suite (lands_againW fl5 fun h6 fl6 up6 => ?_))
    have I6 := at_ fl6 ((up4.trans up5).trans up6)
    exact wpAny_mono (hh (.ref a) pins _ σ' H' d (inv_hush I6) ht) (fun f s2 q => sp_hush I.ok.hd q) fun _ _ z => z.elim
end

/-! ### calls within a try -/
def PassesS (CX : CXT) (X : Cx) (Ex : St → XK) : Prop := ∀ (pins : List (Addr × Obj)) (σ : St) (H : Hp) (s : Shared) (e : Value) (s' : Shared), Inv X pins σ H s → CX X.stack H s (Ex σ) e s' → X.xe e s'
theorem passS {X : Cx} {pn : List (Addr × Obj)} {Ex : St → XK} : PassesS (CX1 X.prog X.w) (tryX X pn Ex) Ex := fun pins σ H s _ _ I h => ⟨pins, σ, H, s, of_try I, h⟩
section
variable {X : Cx} {CX : CXT} {k : Nat} {f C : Addr} {fd : FuncData} {ps : List Str} {sp : Sp} {dvs : List V} {ds : List Value} {Ex : St → XK} {x m : Str} {p pos apos : Pos} {e o : Expr} {es : List Expr} {ta : TE} {t : TA}
theorem run_fnX {pins : List (Addr × Obj)} {σ : St} {H : Hp} {s : Shared} {Q : VK} {us : List Value} {vs : List V} (F : FnOk X.prog X.w X.K X.mg X.base CX k f fd ps sp) (hr : Room k X.A) (hb : Binds X.K fd ps ds) (hd : Vals dvs ds) (hx : PassesS CX X Ex)
    (I : Inv X pins σ H s) (r : Vals vs us) (h : sp (vs ++ dvs) H Q (Ex σ)) : wpAny (model X.prog X.w) X.A (call (.ref f) us) (EP X pins σ Q) X.xe s := by
  have r2 : Vals (vs ++ dvs) (us ++ ds) := r.append hd
  have hl : (us ++ ds).length = ps.length := by rw [← r2.length]; exact F.len _ _ _ _ h
  refine wpAny_call (codeAny_mono (F.run X.A X.stack s H ⟨us, []⟩ (us ++ ds) (vs ++ dvs) Q (Ex σ) hr I.env0 (hb s us I.kIn hl) r2 h) fun r s' hq => ?_)
  cases r with
  | error e => exact hx pins σ H s e s' I hq
  | ok fl =>
    cases fl with
    | ret u => exact I.after hq
    | next => exact False.elim hq
    | brk => exact False.elim hq
    | cont => exact False.elim hq
def tMethX (C : Addr) (m : Str) (sp : Sp) (dvs : List V) (Ex : St → XK) (ta : TE) (t : TA) : TE := fun σ H Q => ta σ H fun x H1 => ∃ a dx fs, x = .ref a ∧ H1 a = some (.ins C dx fs) ∧ fs.lookup m = none ∧
  t σ H1 fun vs H2 => sp (x :: (vs ++ dvs)) H2 Q (Ex σ)
theorem pe_methX {pl : Sem Bool} (he : PE X o ta) (c : Cls X.K C) (hm : Meth X.K C m f) (F : FnOk X.prog X.w X.K X.mg X.base CX k f fd ps sp) (hr : Room k X.A) (hb : Binds X.K fd ps ds) (hd : Vals dvs ds) (hx : PassesS CX X Ex) (ha : PA X (e :: es) t)
    (h1 : isStar e = false := by rfl) (h2 : noStars es = true := by rfl)
    (ht : eval (.Call (.Attribute o m apos) (e :: es) [] pos) X.env = (do
      let ov ← eval o X.env
      standAt apos.atName
      let (f, first) ← holding [ov] (getMethod ov m pl)
      callWith pos f first (backTo pos (starEach (e :: es) X.env)) (backToKw pos (keywordEach [] X.env))) := by rfl) :
    PE X (.Call (.Attribute o m apos) (e :: es) [] pos) (tMethX C m sp dvs Ex ta t) := by
  intro pins s σ H Q I h
  refine PySem.W.methodCall_KW (pl := pl) (thn (he pins s σ H _ I h) fun u s1 ⟨x, H1, I1, rx, a, dx, fs, ex, ea, l, q⟩ => ?_) ht
  subst ex
  obtain rfl : u = Value.ref a := rx
  refine getmeth_ok I1 ea c hm l ?_
  refine PySem.W.callWith_K (first := [.ref a]) (h₀ := X.base) I.ok.mod.kin hm.kp (thn (ha pos pins s1 σ H1 _ I1 q) fun us s2 ⟨vs, H2, I2, r, q2⟩ => ⟨I2.kIn, ?_⟩) (star_cons h1) (back_any h2)
  exact run_fnX (us := .ref a :: us) (vs := .ref a :: vs) F hr hb hd hx I2 (.cons rfl r) q2
end
/-- a def that lets exceptions out, its body written as a list of its statements -/
theorem okB1 {P : Program} {w : World} {K : PySem.W.Frag} {mg : Str → Option Value} {base : Heap} {x qual : Str} {st : Stmt} {f : Addr} {fd : FuncData} {N ps : List Str} {k : Nat} {sp : Sp} {body : List Stmt} (F : Fun K x qual st f fd) (S : FnScope N ps (defScope st)) (len : ∀ vs H Q E, sp vs H Q E → vs.length = ps.length)
    (hb : defBody st = body)
    (hbody : ∀ (cdv : Value) (A : Around) (outer : List Env) (s : Shared) (H : Hp) (vs : List V) (Q : VK) (E : XK), Room k (A.deeper (envOfC qual (defScope st) s.heap.objs.size f cdv)) → sp vs H Q E →
      ∃ t, PSs (cxOf (CX1 P w) P w K mg base N qual (defScope st) f cdv A outer s H E) body t ∧ t { nx := fun _ H' => Q .non H', rt := Q } (L2.start N vs) H) : FnOk P w K mg base (CX1 P w) (k + 1) f fd ps sp := by
  obtain ⟨oc, od, kV, doc, pm, an, cdv, ct, osl, rfl, lk, hcd⟩ := F.ex
  refine fn_of lk hcd S len fun A outer s H vs Q E hr hsp => ?_
  rw [hb]
  exact hbody cdv A outer s H vs Q E hr hsp
end L4

set_option Elab.async false
set_option linter.all false
set_option maxRecDepth 100000
set_option maxHeartbeats 4000000
namespace L4
open PySem PySem.Spec L2 L3
open PyProof.Rows hiding St

/-! ### except D as e -/
section
variable {X : Cx} {pins : List (Addr × Obj)} {σ : St} {H : Hp} {s : Shared}
end
section
variable {X : Cx}
section
variable {pins : List (Addr × Obj)} {σ : St} {H : Hp} {s : Shared} {a : Addr} {oe : Obj}
end
end
end L4

set_option Elab.async false
set_option linter.all false
set_option maxRecDepth 100000
set_option maxHeartbeats 4000000
namespace L4
open PySem PySem.Spec L2 L3
open PyProof.Rows hiding St
section
variable {prog : Program} {w : World} {A : Around} {E : Value → Shared → Prop} {h : Heap} {g : Array GenState} {d : Drawn} {t : Nat} {os : OsState} {a C : Addr} {o : Obj} {K : PySem.W.Frag}
end
end L4

section
set_option Elab.async false
set_option linter.all false
set_option maxRecDepth 100000
set_option maxHeartbeats 4000000
seal L2.PE L2.PT L2.PW L2.PA L2.PS L2.PSs L2.PG L2.PGs L2.PI L3.PTs L2.PO L2.CallR L2.OpR L2.IxR L2.MtR L2.PSet L2.SlR
namespace Of
open PySem L2 L3 L4
/-! ### paying -/
def canPay (o : Off) : What → Bool
  | .pay _ m => decide (m ≤ o.coins)
  | .cut => true
def payO (o : Off) : What → Off
  | .pay _ m => { o with coins := o.coins - m }
  | .cut => o
/-- the classes of the refusals -/
structure Exs (K : PySem.W.Frag) (mg : Str → Option Value) (CP CE : Addr) : Prop where
  poor : mg "Poor" = some (.ref CP)
  post : mg "PostError" = some (.ref CE)
  oP : ExcOf K CP
  pp : excCls K CP CP = true
  pe : excCls K CP CE = true
def spPay (K : PySem.W.Frag) (C CP : Addr) : Sp := fun vs H Q E => ∃ (p : Addr) (i n : Nat) (o : Off) (to many : Int), vs = [.ref p, .int to, .int many] ∧ OffAt K C H p o ∧ Sends i n o ∧
  (o.coins < many → E (.ref CP) none H) ∧ (many ≤ o.coins → ∀ (la : Addr) (H' : Hp), OffAt K C H' p (sentO { o with coins := o.coins - many } i (.pay to many)) → LetAt K H' la (sentL o i (.pay to many)) → SameX p H H' → Q (.ref la) H')
def spSentOr (K : PySem.W.Frag) (C : Addr) : Sp := fun vs H Q _ => ∃ (p c : Addr) (i n : Nat) (o : Off) (wh : What), vs = [.ref p, .ref c] ∧ OffAt K C H p o ∧ WhatAt K H c wh ∧ Sends i n o ∧
  (canPay o wh = true → ∀ (la : Addr) (H' : Hp), OffAt K C H' p (sentO (payO o wh) i wh) → LetAt K H' la (sentL o i wh) → SameX p H H' → Q (.ref la) H') ∧ (canPay o wh = false → Q .non H)
theorem no_pay {n c : Int} {cl lb lt lk : Addr} : (flds n c cl lb lt lk).lookup ("pay" : Str) = none := by kernel_rfl
theorem no_cut {n c : Int} {cl lb lt lk : Addr} : (flds n c cl lb lt lk).lookup ("cut" : Str) = none := by kernel_rfl
section
variable {P : Program} {w : World} {K : PySem.W.Frag} {mg : Str → Option Value} {base : Heap} {C fN fT fC fR fF fO CP CE : Addr}
theorem oPy : ownB ["self", "to", "many"] (defScope sPay) = true := by decide +kernel
theorem scPy : FnScope ["self", "to", "many"] ["self", "to", "many"] (defScope sPay) := ⟨rfl, rfl, rfl, by decide +kernel, rfl, by decide +kernel, by decide +kernel⟩
theorem ok_pay {f fS : Addr} {fd fdS : FuncData} (F : Fun K "pay" "Office.pay" sPay f fd) (T : Txt K mg C fN fT fC fR fF fO) (Z : Exs K mg CP CE) (bS : Binds K fdS ["self", "what"] []) (mS : Meth K C "send" fS) (GS : FnOk P w K mg base CX0 3 fS fdS ["self", "what"] (spSend K C)) :
    FnOk P w K mg base (CX1 P w) 4 f fd ["self", "to", "many"] (spPay K C CP) := by
  refine okB1 (body := [stm sPay 0, stm sPay 1, stm sPay 2]) F scPy (fun vs H Q E h => ?_) (by kernel_rfl) (fun cdv A outer s0 H vs Q E hr h => ?_)
  · obtain ⟨p, i, n, o, to, many, rfl, _⟩ := h
    rfl
  · obtain ⟨p, i, n, o, to, many, rfl, O, S, kE, kQ⟩ := h
    obtain ⟨dx, cl, lb, lt, lk, bs, ts, ks, X⟩ := O.x
    refine ⟨_, (pss_cons (ps_if (pt_cmpR op_lt (pe_fld (oV oPy 0) rfl) (oV oPy 2) (nomark _)) (pss_one (ps_raise throws_cx Z.oP rfl Z.poor (aC pe_str pa_nil))) pss_nil)
      (pss_cons (ps_fld (oV oPy 0) (pe_op op_sub (pe_fld (oV oPy 0) rfl) (oV oPy 2)) rfl)
      (pss_one (ps_ret (pe_meth (oV oPy 0) T.cl mS GS hr bS .nil pass0 (aC (pe_tup (aC pe_str (aC (oV oPy 1) (aC (oV oPy 2) pa_nil)))) pa_nil)))))), ?_⟩
    refine ⟨_, rfl, p, C, dx, _, _, rfl, X.ob, T.cl, T.nC, at_coins, _, rfl, _, _, rfl, rfl, _, rfl, ite2 (fun hlt => ?_) (fun hge => ?_)⟩
    · exact ⟨len1, kE (of_decide_eq_true hlt)⟩
    · have hge : many ≤ o.coins := by
        have : ¬ o.coins < many := fun z => hge (decide_eq_true z)
        omega
      refine ⟨_, rfl, p, C, dx, _, _, rfl, X.ob, T.cl, T.nC, at_coins, _, rfl, _, _, rfl, rfl, _, rfl, p, C, dx, _, rfl, X.ob, T.cl, T.nC, few6, ?_⟩
      have X1 := X.setCoins (o.coins - many)
      have x1 := sx_coins (c := o.coins - many) X (same_x X.ob (Same.refl H))
      refine ⟨_, rfl, p, dx, _, rfl, X1.ob, no_send, _, rfl, _, rfl, len3, fun c nc => ?_⟩
      have s2 := same_new (o := .tup [.str "pay", .int to, .int many]) nc
      exact ⟨p, c, i, n, _, .pay to many, rfl, X1.at_.same s2, SqT.of upd_same, ⟨S.num, S.lt, S.cl, S.n1, S.nb, S.nk⟩, fun la H' O' L' x' => kQ hge la H' O' L' ((x1.trans (same_x X1.ob s2)).trans x')⟩
theorem oSn : ownB ["office", "what"] (defScope sSentOr) = true := by decide +kernel
theorem scSn : FnScope ["office", "what"] ["office", "what"] (defScope sSentOr) := ⟨rfl, rfl, rfl, by decide +kernel, rfl, by decide +kernel, by decide +kernel⟩
theorem ok_sentor {f fC' fP : Addr} {fd fdC fdP : FuncData} (F : Fun K "sent_or_none" "sent_or_none" sSentOr f fd) (T : Txt K mg C fN fT fC fR fF fO) (Z : Exs K mg CP CE) (bC : Binds K fdC ["self"] []) (mC : Meth K C "cut" fC') (GC : FnOk P w K mg base CX0 4 fC' fdC ["self"] (spCut K C))
    (bP : Binds K fdP ["self", "to", "many"] []) (mP : Meth K C "pay" fP) (GP : FnOk P w K mg base (CX1 P w) 4 fP fdP ["self", "to", "many"] (spPay K C CP)) : FnOk P w K mg base CX0 5 f fd ["office", "what"] (spSentOr K C) := by
  refine okB (body := [stm sSentOr 0, stm sSentOr 1]) F scSn (fun vs H Q E h => ?_) (by kernel_rfl) (fun cdv A outer s0 H vs Q E hr h => ?_)
  · obtain ⟨p, c, i, n, o, wh, rfl, _⟩ := h
    rfl
  · obtain ⟨p, c, i, n, o, wh, rfl, O, W, S, kY, kN⟩ := h
    obtain ⟨dx, cl, lb, lt, lk, bs, ts, ks, X⟩ := O.x
    refine ⟨_, (pss_cons (ps_if (pt_cmpR op_eq (iX (ixT K) (oV oSn 1) pe_int) pe_str (nomark _)) (pss_one (ps_ret (pe_meth0 (oV oSn 0) T.cl mC GC hr bC .nil pass0))) pss_nil)
      (pss_one (ps_try Z.poor (fun pn Ex => pss_one (ps_ret (pe_methX (oV oSn 0) T.cl mP GP hr bP .nil passS (aC (iX (ixT K) (oV oSn 1) pe_int) (aC (iX (ixT K) (oV oSn 1) pe_int) pa_nil))))) (fun v => pss_one (ps_ret pe_non))))), ?_⟩
    refine cut2 ?_
    intro rr1
    cases wh with
    | cut =>
      refine ⟨_, rfl, c, _, 0, _, rfl, rfl, (show SqT K H c [.str "cut"] from W), rfl, rfl, _, rfl, ?_⟩
      refine iteT ⟨_, rfl, p, dx, _, rfl, X.ob, no_cut, p, i, n, o, rfl, O, S, fun la H' O' L' x' => kY rfl la H' O' L' x'⟩
    | pay to many =>
      have W : SqT K H c [.str "pay", .int to, .int many] := W
      refine ⟨_, rfl, c, _, 0, _, rfl, rfl, W, rfl, rfl, _, rfl, ?_⟩
      rw [show decide (V.str "pay" = V.str "cut") = false by decide +kernel]
      refine iteF ⟨_, rfl, p, dx, _, rfl, X.ob, no_pay, _, rfl, c, _, 1, _, rfl, rfl, W, rfl, _, rfl, c, _, 2, _, rfl, rfl, W, rfl, p, i, n, o, to, many, rfl, O, S, fun hlt => ?_, fun hge la H' O' L' x' => ?_⟩
      · exact ⟨CP, rfl, Z.pp, kN (decide_eq_false (by omega))⟩
      · exact kY (decide_eq_true hge) la H' O' L' x'
end
end Of

end

section
set_option Elab.async false
set_option linter.all false
set_option maxRecDepth 100000
set_option maxHeartbeats 4000000
seal L2.PE L2.PT L2.PW L2.PA L2.PS L2.PSs L2.PG L2.PGs L2.PI L3.PTs L2.PO L2.CallR L2.OpR L2.IxR L2.MtR L2.PSet L2.SlR
namespace Of
open PySem L2 L3 L4
/-! ### several things sent, one after the other -/
def sent1 (i : Nat) (o : Off) (w : What) : Option Let × Off := if canPay o w = true then (some (sentL o i w), sentO (payO o w) i w) else (none, o)
theorem payO_book (o : Off) (w : What) : (payO o w).book = o.book ∧ (payO o w).kept = o.kept ∧ (payO o w).clock = o.clock ∧ (payO o w).num = o.num ∧ (payO o w).tray = o.tray := by cases w <;> exact ⟨rfl, rfl, rfl, rfl, rfl⟩
end Of

end

set_option Elab.async false
set_option linter.all false
set_option maxRecDepth 100000
set_option maxHeartbeats 4000000
namespace L5
open PySem PySem.Spec L2 L3
open PyProof.Rows hiding St
open PySem.SeqAt PySem.MeetsSeq
open PySem.AutoSeq1 (wpAny_loadPart')
/-! ### xs.remove(x), xs of data -/
section
variable {X : Cx}
/-! ### xs.insert(i, x) -/
def insV {α : Type} (xs : List α) (i : Nat) (x : α) : List α := xs.take i ++ x :: xs.drop i
def rInsert : V → List V → Hp → VK → Prop := fun x vs H Q => ∃ l xs i y, x = .ref l ∧ vs = [.int i, y] ∧ H l = some (.lst xs) ∧ 0 ≤ i ∧ i ≤ (xs.length : Int) ∧ xs.length < 1000 ∧ Q .non (upd H l (.lst (insV xs i.toNat y)))
theorem mt_insert : MtR X "list.insert" rInsert := by
  intro pins s σ H x vs v us Q I rx rv h
  obtain ⟨l, xs, i, y, rfl, rfl, hH, h0, h1, hz, q⟩ := h
  cases rx
  obtain ⟨u1, u2, rfl, r1, r2⟩ := vals2 rv
  obtain ⟨t, rfl⟩ := (show ∃ t, u1 = Value.int i t from r1)
  obtain ⟨z, its, k, r, hl, e⟩ := I.lstM hH
  have hfit : ¬ (!Builtin.List.listFitsIndex i) = true := by rw [fitsIndex_both (by omega) (by omega)]; decide
  refine call_meets F.slot_list_insert ⟨_, e, rfl⟩ F.entry_list_insert (F.args_list_insert_3 _ _ _) (PySem.AutoSeq1.list_insert_list_int_val_1 l its.toArray k i t u2 hfit (by rw [List.size_toArray]; omega)) ⟨e, ?_⟩
  refine ⟨.non, _, I.lset (its' := insV its i.toNat u2) hH e ?_ ?_ ?_, rfl, q⟩
  · dsimp only
    rw [if_neg (by omega), List.size_toArray, Nat.min_eq_left (by omega)]
    unfold insV
    apply Array.toList_inj.mp
    simp
    exact List.take_of_length_le (by simp)
  · exact (r.take i.toNat).append (.cons r2 (r.drop i.toNat))
  · unfold insV
    rw [List.length_append, List.length_cons, List.length_take, List.length_drop]
    have : (1000 : Nat) ≤ sizeLine := by decide
    omega
end
end L5

set_option Elab.async false
set_option linter.all false
set_option maxRecDepth 100000
set_option maxHeartbeats 4000000
namespace L6
open PySem PySem.Spec L2 L3
open PyProof.Rows hiding St
section
variable {X : Cx} {e st : Expr} {te ts : TE} {pos p2 : Pos}
/-- xs[::k], k being -1 -/
def tRev (K : PySem.W.Frag) (te ts : TE) : TE := fun σ H Q => te σ H fun x H1 => ts σ H1 fun y H2 => y = .int (-1) ∧ ∃ a xs, x = .ref a ∧ SqL K H2 a xs ∧ ∀ p, H2 p = none → Q (.ref p) (upd H2 p (.lst xs.reverse))
theorem pe_rev (he : PE X e te) (hs : PE X st ts) : PE X (.Subscript e (.Slice none none (some st) p2) pos) (tRev X.K te ts) := by
  intro pins s σ H Q I h
  refine Subscript_ (thn (he pins s σ H _ I h) fun v s1 ⟨x, H1, I1, r1, q1⟩ => ?_)
  refine wpAny_Slice ?_
  rw [evalPart_none]
  refine wpAny_pure ?_
  refine wpAny_pure ?_
  rw [evalPart_some]
  refine thn (hs pins s1 σ H1 _ I1 q1) fun vk s3 ⟨y, H3, I3, ry, ey, a, xs, ex, hx, q⟩ => ?_
  subst ey
  subst ex
  obtain ⟨t, rfl⟩ := ry
  cases r1
  have I4 : Inv X pins σ H3 { s3 with heap := s3.heap.push { cls := .type "slice", data := .fields #[.none, .none, .int (-1) t] } } := I3.kept (t' := s3.toks) fun b ob q => Heap.get?_push_of_some _ q
  obtain ⟨its, r, ht, hz⟩ := I4.list hx
  have hlen := r.length
  show wpAny (model X.prog X.w) X.A (subscriptTail e (.Slice none none (some st) p2) (.ref a) (.ref s3.heap.objs.size)) (EP X pins σ Q) X.xe _
  refine tail_any (ops := [.ref a, .ref s3.heap.objs.size]) ht.isList.typeIs slot_list_getitem.lookup ?_ (by with_unfolding_all rfl)
  refine wpAny_getItem_list_slice ht.isList (Heap.IsSliceOf.new ..) .none .none (.int (-1) t) (by simp) ?_ (by rw [List.size_toArray]; omega)
  rw [PySem.W.krv_pick]
  refine ⟨.ref (s3.heap.push { cls := .type "slice", data := .fields #[.none, .none, .int (-1) t] }).objs.size, _, I4.laid (t' := s3.toks) (o := .lst xs.reverse) (fun b ob q => Heap.get?_push_of_some _ q) (Nat.le_refl _) ?_, rfl, q _ (I4.hok.fresh (Nat.le_refl _))⟩
  exact ⟨by rw [List.length_reverse]; exact hz, _, 0, r.reverse, Heap.get?_push_size _ rfl⟩
def repS (i : Str) (n : Nat) : Str := ⟨(List.replicate n i.cps).foldl (· ++ ·) #[]⟩
theorem op_mulS : OpR X (binaryOp .Mult) (fun x y H Q => x = .str "0" ∧ y = .int 20 ∧ Q (.str (repS "0" 20)) H) := by
  intro pins s σ H x y v u Q I rx ry h
  obtain ⟨rfl, rfl, q⟩ := h
  obtain ⟨t, rfl⟩ := rx
  obtain ⟨t', rfl⟩ := ry
  refine PySem.P.mul_str (by decide +kernel) (fun _ _ => by decide +kernel) (fun _ _ => by decide +kernel) ?_
  rw [if_neg (by decide), if_neg (by decide +kernel)]
  exact ⟨by decide +kernel, .str (repS "0" 20), H, I.tok _, ⟨_, rfl⟩, q⟩
theorem call_intT : CallR X (.type "int") (fun xs H Q => ∃ (x : Str) (n : Int), xs = [.str x] ∧ PySem.intText? x = some n ∧ x.length ≤ 640 ∧ Q (.int n) H) := by
  intro pins s σ H xs us Q I r h
  obtain ⟨x, n, rfl, hn, hl, q⟩ := h
  obtain ⟨u, rfl, t, rfl⟩ := vals1 r
  exact PySem.W.KIN.call_text hn hl ⟨.int n, H, I.tok _, ⟨_, rfl⟩, q⟩
theorem big20 : PySem.intText? (("1" : Str) ++ repS "0" 20) = some 100000000000000000000 := by decide +kernel
end
end L6

set_option Elab.async false
set_option linter.all false
set_option maxRecDepth 100000
namespace L2
open PySem PySem.Spec PyProof.Rows

end L2

namespace L2
open PySem PySem.Spec PyProof.Rows





end L2

namespace L2
open PySem PySem.Spec PyProof.Rows


end L2

namespace L2
open PySem PySem.Spec PyProof.Rows
end L2

namespace L2
open PySem PySem.Spec PyProof.Rows






end L2

namespace L2
open PySem PySem.Spec PyProof.Rows

end L2

namespace L2
open PySem PySem.Spec PyProof.Rows


end L2

namespace L2
open PySem PySem.Spec PyProof.Rows





end L2

namespace L2
open PySem PySem.Spec PyProof.Rows





end L2

namespace L2
open PySem PySem.Spec PyProof.Rows
end L2

namespace L2
open PySem PySem.Spec PyProof.Rows

section
variable {κ : Type} [DecidableEq κ]
def valV (kvs : List (κ × V)) (k : κ) : Option V := (kvs.find? fun kv => decide (kv.1 = k)).map (·.2)
/-- in its place, or at the end -/
def putK (kvs : List (κ × V)) (k : κ) (v : V) : List (κ × V) :=
  if (kvs.any fun kv => decide (kv.1 = k)) = true then kvs.map (fun kv => if kv.1 = k then (kv.1, v) else kv) else kvs ++ [(k, v)]
theorem valV_nil {k : κ} : valV ([] : List (κ × V)) k = none := rfl
theorem valV_pos {p : κ × V} {r : List (κ × V)} {k : κ} (e : p.1 = k) : valV (p :: r) k = some p.2 := by simp [valV, List.find?_cons, e]
theorem valV_neg {p : κ × V} {r : List (κ × V)} {k : κ} (e : ¬ p.1 = k) : valV (p :: r) k = valV r k := by simp [valV, List.find?_cons, e]
theorem valV_any (k : κ) : ∀ kvs : List (κ × V), (kvs.any fun kv => decide (kv.1 = k)) = (valV kvs k).isSome
  | [] => rfl
  | p :: r => by
    rw [List.any_cons]
    by_cases e : p.1 = k
    · simp only [valV_pos e, decide_eq_true e, Bool.true_or, Option.isSome_some]
    · rw [valV_neg e, decide_eq_false e, Bool.false_or]; exact valV_any k r
theorem length_putK (kvs : List (κ × V)) (k : κ) (v : V) : (putK kvs k v).length ≤ kvs.length + 1 := by
  unfold putK
  split
  · rw [List.length_map]; omega
  · rw [List.length_append, List.length_cons, List.length_nil]; omega
theorem putK_new {kvs : List (κ × V)} {k : κ} (v : V) (h : valV kvs k = none) : putK kvs k v = kvs ++ [(k, v)] := by
  unfold putK
  rw [valV_any, h]
  exact if_neg (by decide)

theorem RelO.isSome_eq {o : Option V} {u : Option Value} (r : RelO o u) : o.isSome = u.isSome := by
  cases o with
  | none => cases u with
    | none => rfl
    | some _ => exact (show False from r).elim
  | some _ => cases u with
    | none => exact (show False from r).elim
    | some _ => rfl
/-- raw tables of the same keys -/
theorem KV.val {kvs : List (κ × V)} {vs : List (κ × Value)} (r : KV kvs vs) (k : κ) : RelO (valV kvs k) (valueAt vs k) := by
  unfold KV at r
  induction r with
  | nil => exact True.intro
  | @cons p q ps qs h t ih =>
    obtain ⟨h1, h2⟩ := h
    by_cases e : p.1 = k
    · have e' : q.1 = k := h1.symm.trans e
      have b : valueAt (q :: qs) k = some q.2 := by simp [valueAt, List.find?_cons, e']
      rw [valV_pos e, b]; exact h2
    · have e' : ¬ q.1 = k := fun z => e (h1.trans z)
      have b : valueAt (q :: qs) k = valueAt qs k := by simp [valueAt, List.find?_cons, e']
      rw [valV_neg e, b]; exact ih
theorem KV.any {kvs : List (κ × V)} {vs : List (κ × Value)} (r : KV kvs vs) (k : κ) : (kvs.any fun kv => decide (kv.1 = k)) = vs.any fun kv => decide (kv.1 = k) := by
  unfold KV at r
  induction r with
  | nil => rfl
  | cons h t ih => rw [List.any_cons, List.any_cons, ih, h.1]
theorem KV.repl {kvs : List (κ × V)} {vs : List (κ × Value)} (r : KV kvs vs) (k : κ) {y : V} {u : Value} (ry : RelV y u) :
    KV (kvs.map fun kv => if kv.1 = k then (kv.1, y) else kv) (vs.map fun kv => if kv.1 = k then (kv.1, u) else kv) := by
  unfold KV at r ⊢
  induction r with
  | nil => exact .nil
  | @cons p q ps qs h t ih =>
    rw [List.map_cons, List.map_cons]
    refine .cons ?_ ih
    obtain ⟨h1, h2⟩ := h
    by_cases e : p.1 = k
    · rw [if_pos e, if_pos (h1.symm.trans e)]; exact ⟨h1, ry⟩
    · rw [if_neg e, if_neg (fun z => e (h1.trans z))]; exact ⟨h1, h2⟩
theorem KV.put {kvs : List (κ × V)} {vs : List (κ × Value)} (r : KV kvs vs) (k : κ) {y : V} {u : Value} (ry : RelV y u) : KV (putK kvs k y) (stored vs k u) := by
  unfold putK stored
  rw [r.any k]
  by_cases e : (vs.any fun kv => decide (kv.1 = k)) = true
  · rw [if_pos e, if_pos e]; exact r.repl k ry
  · rw [if_neg e, if_neg e]; exact Paired.snoc r ⟨rfl, ry⟩
theorem KV.length {kvs : List (κ × V)} {vs : List (κ × Value)} (r : KV kvs vs) : kvs.length = vs.length := Paired.length r
end


theorem kV_is {P : Program} {w : World} {k : Key} {u : Value} (r : RelV (kV k) u) : (mixKind P w).is k u = true := by
  cases k with
  | inl i => obtain ⟨t, e⟩ := (show ∃ t, u = Value.int i t from r); subst e; exact mixKind_int P w i t
  | inr x => obtain ⟨t, e⟩ := (show ∃ t, u = Value.str x t from r); subst e; exact mixKind_str P w x t
theorem items_are {P : Program} {w : World} : ∀ {ks : List Key} {us : List Value}, Vals (ks.map kV) us → ItemsAre (mixKind P w) ks us
  | [], _, r => by rw [List.map_nil] at r; cases r; exact .nil
  | k :: ks, _, r => by
    rw [List.map_cons] at r
    cases r with
    | cons h t => exact .cons (kV_is h) (items_are t)

/-- raw entries of a dict with tuple keys -/
abbrev KT (H : Hp) : List (List Key × V) → List (List Key × Addr × Value) → Prop := Paired fun p q => p.1 = q.1 ∧ H q.2.1 = some (.tup (p.1.map kV)) ∧ RelV p.2 q.2.2
theorem KT.val {H : Hp} {kvs : List (List Key × V)} {xs : List (List Key × Addr × Value)} (r : KT H kvs xs) (k : List Key) : RelO (valV kvs k) ((atKey xs k).map (·.2)) := by
  induction r with
  | nil => exact True.intro
  | @cons p q ps qs h t ih =>
    obtain ⟨h1, _, h2⟩ := h
    by_cases e : p.1 = k
    · have e' : q.1 = k := h1.symm.trans e
      have b : atKey (q :: qs) k = some q.2 := by simp [atKey, List.find?_cons, e']
      rw [valV_pos e, b]; exact h2
    · have e' : ¬ q.1 = k := fun z => e (h1.trans z)
      have b : atKey (q :: qs) k = atKey qs k := by simp [atKey, List.find?_cons, e']
      rw [valV_neg e, b]; exact ih
theorem KT.repl {H : Hp} {kvs : List (List Key × V)} {xs : List (List Key × Addr × Value)} (r : KT H kvs xs) (k : List Key) {y : V} {u : Value} (ry : RelV y u) :
    KT H (kvs.map fun kv => if kv.1 = k then (kv.1, y) else kv) (xs.map (putAt k u)) := by
  induction r with
  | nil => exact .nil
  | @cons p q ps qs h t ih =>
    rw [List.map_cons, List.map_cons]
    refine .cons ?_ ih
    obtain ⟨h1, h2, h3⟩ := h
    unfold putAt
    by_cases e : p.1 = k
    · rw [if_pos e, if_pos (h1.symm.trans e)]; exact ⟨h1, h2, ry⟩
    · rw [if_neg e, if_neg (fun z => e (h1.trans z))]; exact ⟨h1, h2, h3⟩
theorem KT.put {H : Hp} {kvs : List (List Key × V)} {xs : List (List Key × Addr × Value)} (r : KT H kvs xs) (k : List Key) {b : Addr} {y : V} {u : Value} (hb : H b = some (.tup (k.map kV))) (ry : RelV y u) :
    KT H (putK kvs k y) (storedH xs k b u) := by
  have e : (kvs.any fun kv => decide (kv.1 = k)) = (atKey xs k).isSome := by
    rw [valV_any, (r.val k).isSome_eq, Option.isSome_map]
  unfold putK storedH
  rw [e]
  by_cases q : (atKey xs k).isSome = true
  · rw [if_pos q, if_pos q]; exact r.repl k ry
  · rw [if_neg q, if_neg q]; exact Paired.snoc r ⟨rfl, hb, ry⟩
theorem KT.keeps {H H' : Hp} {kvs : List (List Key × V)} {xs : List (List Key × Addr × Value)} (r : KT H kvs xs) (ht : ∀ b ys, H b = some (.tup ys) → H' b = some (.tup ys)) : KT H' kvs xs :=
  Paired.mapP r fun _ _ z => ⟨z.1, ht _ _ z.2.1, z.2.2⟩

section
variable {P : Program} {w : World} {H : Hp} {h : Heap} {a : Addr}
theorem rd_of {u : HO} (ok : HOk P w H h) (e : Rd H a u) : ObjOk P w H h a u := e.ok ok
theorem dk_rd {kvs : List (Key × V)} (ok : HOk P w H h) (e : Rd H a (.dK kvs)) : kvs.length ≤ sizeLine ∧ (a == sysModules) = false ∧ ∃ vs, KV kvs vs ∧ h.DictOf (mixKind P w) a vs :=
  show ObjOk P w H h a (.dK kvs) from rd_of ok e
theorem dk_of {kvs : List (Key × V)} (ok : HOk P w H h) (e : H a = some (.dK kvs)) : kvs.length ≤ sizeLine ∧ (a == sysModules) = false ∧ ∃ vs, KV kvs vs ∧ h.DictOf (mixKind P w) a vs := dk_rd ok (.inl e)
/-- a tracked tuple of ints and texts is a key -/
theorem key_of {ks : List Key} (ok : HOk P w H h) (e : H a = some (.tup (ks.map kV))) : (tupleKind (mixKind P w)).is h ks a := by
  obtain ⟨_, its, r, o, h1, h2, n, h3⟩ := (show ObjOk P w H h a (.tup (ks.map kV)) from ok a _ e)
  exact ⟨o, its.toArray, n, h1, h2, h3, by simpa using items_are r⟩
theorem dt_rd {kvs : List (List Key × V)} (ok : HOk P w H h) (e : Rd H a (.dT kvs)) : kvs.length ≤ sizeLine ∧ (a == sysModules) = false ∧
    ∃ xs, KT H kvs xs ∧ h.DictOfH (tupleKind (mixKind P w)) a xs := by
  obtain ⟨z, y, xs, r, o, es, ep, h1, h2, h3, h4, h5⟩ := (show ObjOk P w H h a (.dT kvs) from rd_of ok e)
  refine ⟨z, y, xs, r, o, es, ep, h1, h2, h3, h4, fun x hx => ?_, h5⟩
  have all : ∀ {l : List (List Key × V)} {m : List (List Key × Addr × Value)}, KT H l m → ∀ x ∈ m, (tupleKind (mixKind P w)).is h x.1 x.2.1 := by
    intro l m q
    induction q with
    | nil => intro x hx; exact nomatch hx
    | @cons p q ps qs hq t ih =>
      intro x hx
      rcases List.mem_cons.mp hx with e | hx
      · subst e
        exact key_of ok (by rw [← hq.1]; exact hq.2.1)
      · exact ih x hx
  exact all r x hx
theorem dt_of {kvs : List (List Key × V)} (ok : HOk P w H h) (e : H a = some (.dT kvs)) : kvs.length ≤ sizeLine ∧ (a == sysModules) = false ∧
    ∃ xs, KT H kvs xs ∧ h.DictOfH (tupleKind (mixKind P w)) a xs := dt_rd ok (.inl e)
end

/-- what the dict at a holds at the key y -/
def DGet (H : Hp) (a : Addr) (y : V) (r : Option V) : Prop :=
  (∃ kvs k, Rd H a (.dK kvs) ∧ y = kV k ∧ r = valV kvs k) ∨ ∃ kvs k b, Rd H a (.dT kvs) ∧ y = .ref b ∧ H b = some (.tup (k.map kV)) ∧ r = valV kvs k
/-- the heap behind a[y] = v -/
def DPut (H : Hp) (a : Addr) (y v : V) (H' : Hp) : Prop :=
  (∃ kvs k, H a = some (.dK kvs) ∧ y = kV k ∧ kvs.length < sizeLine ∧ H' = upd H a (.dK (putK kvs k v))) ∨
  ∃ kvs k b, H a = some (.dT kvs) ∧ y = .ref b ∧ H b = some (.tup (k.map kV)) ∧ kvs.length < sizeLine ∧ H' = upd H a (.dT (putK kvs k v))
theorem DGet.t {H : Hp} {a b : Addr} {kvs : List (List Key × V)} {k : List Key} (e : H a = some (.dT kvs)) (eb : H b = some (.tup (k.map kV))) : DGet H a (.ref b) (valV kvs k) := .inr ⟨kvs, k, b, .inl e, rfl, eb, rfl⟩
theorem DPut.t {H : Hp} {a b : Addr} {kvs : List (List Key × V)} {k : List Key} {v : V} (e : H a = some (.dT kvs)) (eb : H b = some (.tup (k.map kV))) (hl : kvs.length < sizeLine) :
    DPut H a (.ref b) v (upd H a (.dT (putK kvs k v))) := .inr ⟨kvs, k, b, e, rfl, eb, hl, rfl⟩


section
variable {X : Cx} {pins : List (Addr × Obj)} {σ : St} {H : Hp} {s : Shared} {a : Addr} {y v : V} {u r : Value} {o : Option V} {A : Around} {E : Value → Shared → Prop}

theorem Inv.big (I : Inv X pins σ H s) : sysModules < s.heap.objs.size := by
  have h : mainGlobals < s.heap.objs.size := (I.mod.glob.keeps I.bk).lt
  exact Nat.lt_trans (by decide) h

/-- d[y], there -/
theorem d_getItem {Q : Value → Shared → Prop} (hu : A.units + 1 < cLine) (I : Inv X pins σ H s) (g : DGet H a y (some v)) (ry : RelV y u) (h : ∀ w' s', Inv X pins σ H s' → RelV v w' → Q w' s') :
    wpAny (model X.prog X.w) A (getItem (.ref a) u) Q E s := by
  rcases g with ⟨kvs, k, e, ey, l⟩ | ⟨kvs, k, b, e, ey, eb, l⟩
  · subst ey
    obtain ⟨z, hd, vs, rel, dd⟩ := dk_rd I.hok e
    obtain ⟨w', hw, rw'⟩ := RelO.some_of (v := v) (o := valueAt vs k) (by rw [l]; exact rel.val k)
    exact wpAny_getItem_of (kV_is ry) dd.mapOf hw (h w' _ (I.tok _) rw')
  · subst ey
    cases (show u = Value.ref b from ry)
    obtain ⟨z, hd, xs, rel, dd⟩ := dt_rd I.hok e
    obtain ⟨w', hw, rw'⟩ := RelO.some_of (v := v) (o := (atKey xs k).map (·.2)) (by rw [l]; exact rel.val k)
    obtain ⟨p, hp, hp2⟩ := Option.map_eq_some_iff.mp hw
    refine wpAny_getItem_heap (tupleKind_room_in1 hu) (key_of I.hok eb) dd hp ?_
    rw [hp2]
    exact h w' _ (I.tok _) rw'
/-- a dict's object is replaced -/
theorem d_write {h' : Heap} {t' : Nat} {ob : HO} (I : Inv X pins σ H s) (mu : Mut (H a)) (hs : Heap.SameBut a s.heap h') (he : ∃ q, h'.get? a = some q) (new : ObjOk X.prog X.w (upd H a ob) h' a ob) :
    Inv X pins σ (upd H a ob) { s with heap := h', toks := t' } :=
  I.write (x := a) (e := a) mu (.inl rfl) (fun b q hb z => (hs.2 b hb).trans z) he new
theorem dk_new {P : Program} {w : World} {H' : Hp} {h' : Heap} {kvs : List (Key × V)} {vs : List (Key × Value)} (z : kvs.length ≤ sizeLine) (hd : (a == sysModules) = false) (rel : KV kvs vs) (dd : h'.DictOf (mixKind P w) a vs) :
    ObjOk P w H' h' a (.dK kvs) := ⟨z, hd, vs, rel, dd⟩
/-- d[y] = v -/
theorem d_setItem {H' : Hp} {Q : Unit → Shared → Prop} (hu : A.units + 1 < cLine) (I : Inv X pins σ H s) (g : DPut H a y v H') (ry : RelV y u) (rv : RelV v r) (h : ∀ s', Inv X pins σ H' s' → Q () s') :
    wpAny (model X.prog X.w) A (setItem (.ref a) u r) Q E s := by
  rcases g with ⟨kvs, k, e, ey, l, eH⟩ | ⟨kvs, k, b, e, ey, eb, l, eH⟩
  · subst ey eH
    obtain ⟨z, hd, vs, rel, dd⟩ := dk_of I.hok e
    have hz : vs.length ≤ sizeLine := by rw [← rel.length]; exact z
    have hl : (putK kvs k v).length ≤ sizeLine := by have := length_putK kvs k v; omega
    refine wpAny_setItem_pairs (hsz := hz) (kV_is ry) dd fun h' dd' hs => h _ ?_
    have he : ∃ q, h'.get? a = some q := let ⟨q, _, _, hq, _⟩ := dd'; ⟨q, hq⟩
    exact d_write I (by rw [e]; exact True.intro) hs he (dk_new hl hd (rel.put k rv) dd')
  · subst ey eH
    cases (show u = Value.ref b from ry)
    obtain ⟨z, hd, xs, rel, dd⟩ := dt_of I.hok e
    have hz : xs.length ≤ sizeLine := by rw [← Paired.length rel]; exact z
    have hl : (putK kvs k v).length ≤ sizeLine := by have := length_putK kvs k v; omega
    refine wpAny_setItem_heap (hsz := hz) (tupleKind_room_in1 hu) (key_of I.hok eb) dd fun h' dd' hs => h _ ?_
    obtain ⟨q, es, ep, hq, h2, h3, h4, _, h5⟩ := dd'
    refine d_write I (by rw [e]; exact True.intro) hs ⟨q, hq⟩ ⟨hl, hd, _, (rel.put k eb rv).keeps fun c ys ec => ?_, q, es, ep, hq, h2, h3, h4, h5⟩
    rw [upd_ne (ne_of ec e (fun z => nomatch z))]
    exact ec
end

section
variable {X : Cx} {pins : List (Addr × Obj)} {σ : St} {H : Hp} {s : Shared} {a : Addr} {kvs : List (Key × V)} {k : Key} {u : Value} {A : Around} {E : Value → Shared → Prop}
end


/-- the element of a subscription, not a slice -/
def NoSl (i : Expr) : Prop := ∀ ov iv, subscripted i false ov iv = operate [ov, iv] (getItem ov iv)
theorem subD_of {prog : Program} {w : World} {A : Around} {E : Value → Shared → Prop} {s : Shared} {env : Env} {value slice : Expr} {pos : Pos} {T id : String} {Q : Value → Shared → Prop}
    (hl : typeLookup (.type T) "__getitem__" = pure (some (.builtin id))) (hs : NoSl slice)
    (h : wpAny (model prog w) A (eval value env) (fun o s₁ => wpAny (model prog w) A (eval slice env) (fun i s₂ => s₂.TypeIs o T ∧ wpAny (model prog w) A (getItem o i) Q E s₂) E s₁) E s) :
    wpAny (model prog w) A (eval (.Subscript value slice pos) env) Q E s := by
  refine Subscript_ (wpAny_mono h (fun o s₁ h₁ => wpAny_mono h₁ (fun i s₂ h₂ => ?_) fun _ _ x => x) fun _ _ x => x)
  obtain ⟨hT, h₂⟩ := h₂
  unfold subscriptTail
  refine wpAny_bind ?_
  rw [getitemInPython_of_ne hT.not_modules]
  refine wpAny_bind (wpAny_specialOf hT hl ?_)
  have fin : wpAny (model prog w) A (subscripted slice false o i) (fun r s₃ => wpAny (model prog w) A (letTemporaryGo value o r >>= fun _ => pure r) Q E s₃) E s₂ := by
    rw [hs o i]
    exact wpAny_operating (wpAny_mono h₂ (fun r s₃ h₃ => wpAny_bind (wpAny_letTemporaryGo (wpAny_pure h₃))) fun _ _ x => x)
  first
    | exact wpAny_pure (wpAny_bind fin)
    | exact wpAny_bind (wpAny_pure (wpAny_bind fin))
    | exact wpAny_bind fin

theorem dict_typeIs {X : Cx} {pins : List (Addr × Obj)} {σ : St} {H : Hp} {s : Shared} {a : Addr} {y : V} {o : Option V} (I : Inv X pins σ H s) (g : DGet H a y o) : s.TypeIs (.ref a) "dict" := by
  rcases g with ⟨kvs, k, e, _, _⟩ | ⟨kvs, k, b, e, _, _, _⟩
  · obtain ⟨_, _, vs, _, dd⟩ := dk_rd I.hok e
    exact dd.typeIs
  · obtain ⟨_, _, xs, _, dd⟩ := dt_rd I.hok e
    exact dd.typeIs
/-- d[y] -/
def tDGet (td ty : TE) : TE := fun σ H Q => td σ H fun x H1 => ty σ H1 fun y H2 => ∃ a v, x = .ref a ∧ DGet H2 a y (some v) ∧ Q v H2
/-- d[y] = v -/
def sDPut (td ty tv : TE) : TS := fun D σ H => tv σ H fun v H1 => td σ H1 fun x H2 => ty σ H2 fun y H3 => ∃ a H4, x = .ref a ∧ DPut H3 a y v H4 ∧ D.nx σ H4
section
variable {X : Cx} {o i e value : Expr} {pos pos' tpos : Pos} {td ty tv : TE}
theorem pe_dget (hu : X.A.units + 1 < cLine) (ho : PE X o td) (hi : PE X i ty) (hs : NoSl i) : PE X (.Subscript o i pos) (tDGet td ty) := by
  intro pins s σ H Q I h
  refine subD_of PySem.F.slot_dict_getitem.lookup hs (thn (ho pins s σ H _ I h) fun u s1 ⟨x, H1, I1, rx, q1⟩ => thn (hi pins s1 σ H1 _ I1 q1) fun iv s2 ⟨y, H2, I2, ry, a, v, ex, g, q2⟩ => ?_)
  subst ex
  obtain rfl : u = Value.ref a := rx
  exact ⟨dict_typeIs I2 g, d_getItem hu I2 g ry fun w' s3 I3 rw' => ⟨v, H2, I3, rw', q2⟩⟩
theorem ps_dput (hu : X.A.units + 1 < cLine) (ho : PE X o td) (hi : PE X i ty) (hv : PE X value tv) (hs : swapsWith value (some (.Subscript o i pos')) pos.line X.env = pure false) :
    PS X (.Assign [.Subscript o i pos'] value pos) (sDPut td ty tv) := by
  intro pins s σ H D I h
  refine wpAny_Assign_Subscript (thn (hv pins s σ H _ I h) fun r s1 ⟨v, H1, I1, rv, q1⟩ => thn (ho pins s1 σ H1 _ I1 q1) fun u s2 ⟨x, H2, I2, rx, q2⟩ => thn (hi pins s2 σ H2 _ I2 q2) fun iv s3 ⟨y, H3, I3, ry, a, H4, ex, g, q3⟩ => ?_) hs
  subst ex
  obtain rfl : u = Value.ref a := rx
  exact d_setItem hu I3 g ry rv fun s4 I4 => ⟨σ, H4, I4, q3⟩
end


theorem dt_empty {P : Program} {w : World} {H : Hp} (h : Heap) (hb : sysModules < h.objs.size) : ObjOk P w H (h.push { cls := .type "dict", data := .dict #[] }) h.objs.size (.dT []) :=
  ⟨Nat.zero_le _, beq_eq_false_iff_ne.mpr (Ne.symm (Nat.ne_of_lt hb)), [], .nil, _, #[], 0, Heap.get?_push_size _ rfl, ⟨rfl, rfl, rfl⟩, rfl, rfl, List.nodup_nil⟩
def tDNewT : TE := fun _ H Q => ∀ p, H p = none → Q (.ref p) (upd H p (.dT []))
section
variable {X : Cx} {pos : Pos}
theorem pe_dnewT : PE X (.Dict [] [] pos) tDNewT := fun pins s σ H Q I h =>
  wpAny_Dict_empty ⟨.ref s.heap.objs.size, _, I.laid (a := s.heap.objs.size) (o := .dT []) (t' := s.toks) (fun _ _ q => Heap.get?_push_of_some _ q) (Nat.le_refl _) (dt_empty s.heap I.big), rfl, h _ (I.hok.fresh (Nat.le_refl _))⟩
end

section
variable {X : Cx} {pins : List (Addr × Obj)} {σ : St} {H : Hp} {s : Shared} {a : Addr} {y d : V} {u r : Value} {o : Option V} {A : Around} {E : Value → Shared → Prop}
end

section
variable {X : Cx} {o e f : Expr} {apos cpos : Pos} {td ty tx : TE}
end

section
variable {X : Cx} {pins : List (Addr × Obj)} {σ : St} {H : Hp} {s : Shared} {a : Addr} {kvs : List (Key × V)} {A : Around} {E : Value → Shared → Prop}
end


section
variable {X : Cx} {pins : List (Addr × Obj)} {σ : St} {H : Hp} {s : Shared} {a : Addr} {y : V} {u : Value} {A : Around} {E : Value → Shared → Prop}
end
end L2

namespace Att
open PySem PySem.W PySem.Calls PyProof.Rows

end Att

namespace L2
open PySem PySem.Spec PyProof.Rows

end L2

namespace L2
open PySem PySem.Spec PyProof.Rows

end L2

namespace L2
open PySem PySem.Spec PyProof.Rows

section
variable {X : Cx}
end

section
variable {κ : Type} [DecidableEq κ]
end
end L2

set_option Elab.async false
set_option linter.all false
set_option maxRecDepth 100000
set_option maxHeartbeats 4000000
namespace L7
open PySem PySem.Spec L2 L3
open PyProof.Rows hiding St
section
variable {X : Cx}
end
end L7

set_option Elab.async false
set_option linter.all false
set_option maxRecDepth 100000
set_option maxHeartbeats 4000000
namespace L8
open PySem PySem.Spec L2 L3
section
variable {X : Cx}
theorem fldK (K : PySem.W.Frag) {e : Expr} {f : Str} {ta : TE} {pos : Pos} (he : PE X e ta) (hb : attributeBase e f X.env (eval e X.env) = eval e X.env) (h : X.K = K := by rfl) : PE X (.Attribute e f pos) (tFld K ta f) := h ▸ pe_fld he hb
end
end L8

set_option Elab.async false
set_option linter.all false
set_option maxRecDepth 100000
set_option maxHeartbeats 4000000
namespace L9
open PySem PySem.Spec L2 L3
open PyProof.Rows hiding St
inductive rSum (K : PySem.W.Frag) (xs : List V) (H : Hp) (Q : VK) : Prop where
  | mk (p : Addr) (ns : List Int) (h1 : xs = [.ref p]) (h2 : SqL K H p (ns.map V.int)) (h3 : Q (.int ns.sum) H) : rSum K xs H Q
theorem boot_sum : bootBuiltins "sum" = some (.builtin "sum") := by decide +kernel
theorem pre_sum {ns : List Int} : ∀ k, k ≤ ns.length → preSum (fun i => ns.getD i 0) k = (ns.take k).sum
  | 0, _ => by simp [preSum]
  | k + 1, h => by
    have hk : k < ns.length := by omega
    rw [preSum, pre_sum k (by omega), List.take_succ_eq_append_getElem hk, List.sum_append, List.getD_eq_getElem?_getD, List.getElem?_eq_getElem hk]
    simp
section
variable {X : Cx}
theorem sum0 (hc : X.calm = true) : CallR X (.builtin "sum") (rSum X.K) := by
  intro pins s σ H xs us Q I r h
  obtain ⟨p, ns, rfl, hq, q⟩ := h
  obtain ⟨u, rfl, rx⟩ := vals1 r
  cases rx
  obtain ⟨its, rv, pl, hz⟩ := I.list hq
  have hlen := rv.length
  rw [List.length_map] at hlen
  obtain ⟨op, hop, _⟩ := pl.isList
  have hp := Heap.lt_size hop
  refine call_sum_walkG (wpAny_pyIter_list pl.isList ?_)
  refine ⟨s.heap.objs.size, _, _, _, _, _, fun i => ns.getD i 0, rfl, Walks.list (A := X.A.in1) (show X.A.in1.handled = none from I.ok.hd hc) s.heap.objs.size p (Nat.ne_of_lt hp) its.toArray, ⟨⟨_, Heap.get?_push_size _ rfl, rfl, rfl⟩, by obtain ⟨o, ho, hh⟩ := pl.isList; exact ⟨o, Heap.get?_push_of_some _ ho, hh⟩⟩, fun b hb => ?_, fun i v hP => ?_, fun h' tk t' kk => ?_⟩
  · have : b = s.heap.objs.size ∨ b = p := by simpa using hb
    show b < (s.heap.objs.push _).size
    rw [Array.size_push]
    rcases this with z | z
    · rw [z]; exact Nat.lt_succ_self _
    · rw [z]; exact Nat.lt_succ_of_lt hp
  · have hP' : its[i]? = some v := by simpa using hP
    have hi : i < its.length := (List.getElem?_eq_some_iff.mp hP').1
    have hi' : i < ns.length := by omega
    obtain ⟨u, hu, ru⟩ := rv.get (i := i) (x := .int (ns.getD i 0)) (by simp [List.getElem?_map, List.getD_eq_getElem?_getD, List.getElem?_eq_getElem hi'])
    rw [hP'] at hu
    cases hu
    obtain ⟨t, rfl⟩ := ru
    exact ⟨t, rfl⟩
  · refine ⟨.int _, H, I.kept (t' := tk) (h' := h') fun b o e => kk b o (by simp; exact Nat.ne_of_lt (Heap.lt_size e)) (Heap.get?_push_of_some _ e), ?_, q⟩
    rw [List.size_toArray, ← hlen, pre_sum _ (Nat.le_refl _), List.take_length]
    exact ⟨t', rfl⟩
theorem sumK (K : PySem.W.Frag) (hc : X.calm = true := by rfl) (h : X.K = K := by rfl) : CallR X (.builtin "sum") (rSum K) := h ▸ sum0 hc
end
end L9

section
set_option Elab.async false
set_option linter.all false
set_option maxRecDepth 100000
set_option maxHeartbeats 4000000
seal L2.PE L2.PT L2.PW L2.PA L2.PS L2.PSs L2.PG L2.PGs L2.PI L3.PTs L2.PO L2.CallR L2.OpR L2.IxR L2.MtR L2.PSet L2.SlR
namespace Of
open PySem L2 L3 L4
/-- the names that the top leaves to Python -/
structure Bts (mg : Str → Option Value) : Prop where
  len : mg "len" = none
  range : mg "range" = none
  isinstance : mg "isinstance" = none
  int : mg "int" = none
  bool : mg "bool" = none
  tuple : mg "tuple" = none
  list : mg "list" = none
  str : mg "str" = none
  dict : mg "dict" = none
theorem boot_st : bootBuiltins "str" = some (.type "str") := by decide +kernel
def cell (ns : List Int) (k : Int) : Int := if k < (ns.length : Int) then ns.getD k.toNat 0 else 0
def spWhole (K : PySem.W.Frag) : Sp := fun vs H Q _ => ∃ i : Int, vs = [.int i] ∧ Q (.bl true) H
def spAt (K : PySem.W.Frag) : Sp := fun vs H Q _ => ∃ (a : Addr) (ns : List Int) (k : Int), vs = [.ref a, .int k] ∧ SqL K H a (nums ns) ∧ 0 ≤ k ∧ Q (.int (cell ns k)) H
def okWhat (s n : Int) : What → Prop
  | .pay t m => 0 ≤ m ∧ 0 ≤ t ∧ t < n ∧ t ≠ s
  | .cut => True
def spIsWhat (K : PySem.W.Frag) : Sp := fun vs H Q _ => ∃ (c : Addr) (wh : What) (s n : Int), vs = [.ref c, .int s, .int n] ∧ WhatAt K H c wh ∧ okWhat s n wh ∧ Q (.bl true) H
def okLet (n : Nat) (l : Let) : Prop := l.s < n ∧ l.st.length = n ∧ (∀ x ∈ l.st, 0 ≤ x) ∧ okWhat l.s n l.w
def spAreLetters (K : PySem.W.Frag) : Sp := fun vs H Q _ => ∃ (a : Addr) (xs : List V) (ls : List Let) (n : Nat), vs = [.ref a, .int n] ∧ SqL K H a xs ∧ RepDs K H (ls.map letD) xs ∧ (∀ l ∈ ls, okLet n l) ∧ Q (.bl true) H
theorem ki_str {K : PySem.W.Frag} : PySem.W.kitOne K (.type "str") (.type "str") = some true := by kernel_rfl
theorem cmul {i j : Int} (h1 : -(2 ^ 64) < j) (h2 : j < 2 ^ 64) : CMul i j := .inr ⟨h1, h2⟩
section
variable {P : Program} {w : World} {K : PySem.W.Frag} {mg : Str → Option Value} {base : Heap} {fW fA fI : Addr}
theorem oLW : ownB ["_law_found"] (defScope sWhole) = true := by decide +kernel
theorem scLW : FnScope ["_law_found"] ["_law_found"] (defScope sWhole) := ⟨rfl, rfl, rfl, by decide +kernel, rfl, by decide +kernel, by decide +kernel⟩
theorem ok_whole {f : Addr} {fd : FuncData} (F : Fun K "_law_whole" "_law_whole" sWhole f fd) (T : Bts mg) : FnOk P w K mg base CX0 1 f fd ["_law_found"] (spWhole K) := by
  refine okB (body := [stm sWhole 0]) F scLW (fun vs H Q E h => ?_) (by kernel_rfl) (fun cdv A outer s H vs Q E hr h => ?_)
  · obtain ⟨i, rfl, _⟩ := h
    rfl
  · obtain ⟨i, rfl, q⟩ := h
    refine ⟨_, (pss_one (ps_ret (pe_and (cB call_isi T.isinstance boot_isi (aC (oV oLW 0) (aC (nT T.int boot_it) pa_nil))) (pe_one (pe_not (cB call_isi T.isinstance boot_isi (aC (oV oLW 0) (aC (nT T.bool boot_bl) pa_nil)))))))), ?_⟩
    refine ⟨_, rfl, _, _, _, _, rfl, TyOf.int _, kit_int, _, rfl, ?_⟩
    refine ⟨_, rfl, _, _, _, _, rfl, TyOf.int _, kit_int_bool, _, rfl, q⟩
theorem oLA : ownB ["_law_script", "_law_k"] (defScope sAt) = true := by decide +kernel
theorem scLA : FnScope ["_law_script", "_law_k"] ["_law_script", "_law_k"] (defScope sAt) := ⟨rfl, rfl, rfl, by decide +kernel, rfl, by decide +kernel, by decide +kernel⟩
theorem ok_at {f : Addr} {fd : FuncData} (F : Fun K "_law_at" "_law_at" sAt f fd) (T : Bts mg) : FnOk P w K mg base CX0 1 f fd ["_law_script", "_law_k"] (spAt K) := by
  refine okB (body := [stm sAt 0, stm sAt 1]) F scLA (fun vs H Q E h => ?_) (by kernel_rfl) (fun cdv A outer s H vs Q E hr h => ?_)
  · obtain ⟨a, ns, k, rfl, _⟩ := h
    rfl
  · obtain ⟨a, ns, k, rfl, hS, hk, q⟩ := h
    refine ⟨_, (pss_cons (ps_if (pt_cmpR op_lt (oV oLA 1) (cB (call_len_seq (X := _)) T.len PySem.boot_len (aC (oV oLA 0) pa_nil)) (nomark _))
        (pss_one (ps_ret (iX (ixL K) (oV oLA 0) (oV oLA 1))))
        pss_nil)
      (pss_one (ps_ret pe_int))), ?_⟩
    refine cut2 ?_
    intro rr1
    refine ⟨_, rfl, _, rfl, a, _, rfl, .inl hS, _, _, rfl, rfl, _, rfl, ?_⟩
    refine ite2 (fun h => ?_) (fun h => ?_)
    · have h : k < (ns.length : Int) := by simpa [nums] using h
      refine ⟨_, rfl, _, rfl, a, _, k, .int (ns.getD k.toNat 0), rfl, rfl, hS, ?_, ?_⟩
      · obtain ⟨n, rfl⟩ := Int.eq_ofNat_of_zero_le hk
        exact atI_nat (get_nums (by simpa using h))
      · have : cell ns k = ns.getD k.toNat 0 := if_pos h
        rw [this] at q
        exact q
    · have h : ¬ k < (ns.length : Int) := by simpa [nums] using h
      have : cell ns k = 0 := if_neg h
      rw [this] at q
      exact q
end
end Of

end

section
set_option Elab.async false
set_option linter.all false
set_option maxRecDepth 100000
set_option maxHeartbeats 4000000
seal L2.PE L2.PT L2.PW L2.PA L2.PS L2.PSs L2.PG L2.PGs L2.PI L3.PTs L2.PO L2.CallR L2.OpR L2.IxR L2.MtR L2.PSet L2.SlR
namespace Of
open PySem L2 L3 L4
section
variable {P : Program} {w : World} {K : PySem.W.Frag} {mg : Str → Option Value} {base : Heap} {fW fA fI : Addr}
theorem oIw : ownB ["_law_what", "_law_sender", "_law_count"] (defScope sIsWhat) = true := by decide +kernel
theorem scIw : FnScope ["_law_what", "_law_sender", "_law_count"] ["_law_what", "_law_sender", "_law_count"] (defScope sIsWhat) := ⟨rfl, rfl, rfl, by decide +kernel, rfl, by decide +kernel, by decide +kernel⟩
theorem ok_iswhat {f : Addr} {fd fdW : FuncData} (F : Fun K "_law_is_what" "_law_is_what" sIsWhat f fd) (T : Bts mg) (mW : mg "_law_whole" = some (.ref fW)) (FW : Fun K "_law_whole" "_law_whole" sWhole fW fdW) (bW : Binds K fdW ["_law_found"] []) : FnOk P w K mg base CX0 2 f fd ["_law_what", "_law_sender", "_law_count"] (spIsWhat K) := by
  have GW : FnOk P w K mg base CX0 1 fW fdW ["_law_found"] (spWhole K) := ok_whole FW T
  refine okB (body := [stm sIsWhat 0, stm sIsWhat 1, stm sIsWhat 2, stm sIsWhat 3, stm sIsWhat 4]) F scIw (fun vs H Q E h => ?_) (by kernel_rfl) (fun cdv A outer s H vs Q E hr h => ?_)
  · obtain ⟨c, wh, s, n, rfl, _⟩ := h
    rfl
  · obtain ⟨c, wh, s, n, rfl, W, ok, q⟩ := h
    have hrW := hr
    refine ⟨_, (pss_cons (ps_if (PW.pt (pw_or (pt_not (pt_val (cB call_isiT T.isinstance boot_isi (aC (oV oIw 0) (aC (nT T.tuple boot_tup) pa_nil))))) (pw_or (pt_cmpR op_eq (cB (call_len_seq (X := _)) T.len PySem.boot_len (aC (oV oIw 0) pa_nil)) pe_int (nomark _)) (pw_or1 (pt_not (pt_val (cB call_isi T.isinstance boot_isi (aC (iX (ixT K) (oV oIw 0) pe_int) (aC (nT T.str boot_st) pa_nil)))))))))
        (pss_one (ps_ret pe_bl))
        pss_nil)
      (pss_cons (ps_if (pt_cmpR op_eq (iX (ixT K) (oV oIw 0) pe_int) pe_str (nomark _))
        (pss_one (ps_ret (pe_cmpR op_eq (cB (call_len_seq (X := _)) T.len PySem.boot_len (aC (oV oIw 0) pa_nil)) pe_int (nomark _))))
        pss_nil)
      (pss_cons (ps_if (PW.pt (pw_or (pt_cmpR op_ne (iX (ixT K) (oV oIw 0) pe_int) pe_str (nomark _)) (pw_or1 (pt_cmpR op_ne (cB (call_len_seq (X := _)) T.len PySem.boot_len (aC (oV oIw 0) pa_nil)) pe_int (nomark _)))))
        (pss_one (ps_ret pe_bl))
        pss_nil)
      (pss_cons (ps_if (PW.pt (pw_or (pt_not (pt_val (cF GW hrW mW FW.kp bW .nil pass0 (aC (iX (ixT K) (oV oIw 0) pe_int) pa_nil)))) (pw_or (pt_not (pt_val (cF GW hrW mW FW.kp bW .nil pass0 (aC (iX (ixT K) (oV oIw 0) pe_int) pa_nil)))) (pw_or1 (pt_cmpR op_lt (iX (ixT K) (oV oIw 0) pe_int) pe_int (nomark _))))))
        (pss_one (ps_ret pe_bl))
        pss_nil)
      (pss_one (ps_ret (pe_and (pe_chain op_le op_lt pe_int (iX (ixT K) (oV oIw 0) pe_int) (oV oIw 2)) (pe_one (pe_cmpR op_ne (iX (ixT K) (oV oIw 0) pe_int) (oV oIw 1) (nomark _)))))))))), ?_⟩
    refine cut5 ?_
    intro rr4 rr3 rr2 rr1
    cases wh with
    | cut =>
      have W : SqT K H c [.str "cut"] := W
      refine ⟨_, rfl, c, _, _, _, rfl, W, kit_tuple, _, rfl, iteF ?_⟩
      refine ⟨_, rfl, c, _, rfl, .inr W, rfl, _, rfl, iteF ?_⟩
      refine ⟨_, rfl, c, _, 0, _, rfl, rfl, W, rfl, _, _, _, _, rfl, TyOf.str _, ki_str, _, rfl, iteF ?_⟩
      refine ⟨_, rfl, c, _, 0, _, rfl, rfl, W, rfl, rfl, _, rfl, iteT ?_⟩
      exact ⟨_, rfl, c, _, rfl, .inr W, rfl, q⟩
    | pay t m =>
      have W : SqT K H c [.str "pay", .int t, .int m] := W
      obtain ⟨o1, o2, o3, o4⟩ := ok
      refine ⟨_, rfl, c, _, _, _, rfl, W, kit_tuple, _, rfl, iteF ?_⟩
      refine ⟨_, rfl, c, _, rfl, .inr W, rfl, _, rfl, iteF ?_⟩
      refine ⟨_, rfl, c, _, 0, _, rfl, rfl, W, rfl, _, _, _, _, rfl, TyOf.str _, ki_str, _, rfl, iteF ?_⟩
      refine ⟨_, rfl, c, _, 0, _, rfl, rfl, W, rfl, rfl, _, rfl, ?_⟩
      rw [show decide (V.str "pay" = V.str "cut") = false by decide +kernel]
      refine iteF ⟨_, rfl, c, _, 0, _, rfl, rfl, W, rfl, rfl, _, rfl, ?_⟩
      rw [show (!decide (V.str "pay" = V.str "pay")) = false by decide +kernel]
      refine iteF ⟨_, rfl, c, _, rfl, .inr W, rfl, _, rfl, iteF ?_⟩
      refine ⟨_, rfl, c, _, 1, _, rfl, rfl, W, rfl, _, rfl, _, rfl, iteF ?_⟩
      refine ⟨_, rfl, c, _, 2, _, rfl, rfl, W, rfl, _, rfl, _, rfl, iteF ?_⟩
      refine ⟨_, rfl, c, _, 2, _, rfl, rfl, W, rfl, _, _, rfl, rfl, _, rfl, ?_⟩
      rw [decide_eq_false (by omega : ¬ m < 0)]
      refine iteF ⟨_, rfl, c, _, 1, _, rfl, rfl, W, rfl, _, _, rfl, rfl, _, rfl, ?_⟩
      rw [decide_eq_true o2]
      refine iteT ⟨_, rfl, _, _, rfl, rfl, _, rfl, ?_⟩
      rw [decide_eq_true o3]
      refine iteT ⟨_, rfl, c, _, 1, _, rfl, rfl, W, rfl, _, rfl, rfl, ?_⟩
      rw [show (!decide (V.int t = V.int s)) = true by rw [decide_eq_false (fun z => o4 (V.int.inj z))]; rfl]
      exact q
theorem oAl : ownB ["_law_found", "_law_count", "_law_letter", "_law_number"] (defScope sAreLetters) = true := by decide +kernel
theorem scAl : FnScope ["_law_found", "_law_count", "_law_letter", "_law_number"] ["_law_found", "_law_count"] (defScope sAreLetters) := ⟨rfl, rfl, rfl, by decide +kernel, rfl, by decide +kernel, by decide +kernel⟩
theorem ok_areletters {f : Addr} {fd fdW fdI : FuncData} (F : Fun K "_law_are_letters" "_law_are_letters" sAreLetters f fd) (T : Bts mg) (mW : mg "_law_whole" = some (.ref fW)) (FW : Fun K "_law_whole" "_law_whole" sWhole fW fdW) (bW : Binds K fdW ["_law_found"] [])
    (mI : mg "_law_is_what" = some (.ref fI)) (FI : Fun K "_law_is_what" "_law_is_what" sIsWhat fI fdI) (bI : Binds K fdI ["_law_what", "_law_sender", "_law_count"] []) : FnOk P w K mg base CX0 3 f fd ["_law_found", "_law_count"] (spAreLetters K) := by
  have GW : FnOk P w K mg base CX0 1 fW fdW ["_law_found"] (spWhole K) := ok_whole FW T
  have GI : FnOk P w K mg base CX0 2 fI fdI ["_law_what", "_law_sender", "_law_count"] (spIsWhat K) := ok_iswhat FI T mW FW bW
  refine okB (body := [stm sAreLetters 0, stm sAreLetters 1, stm sAreLetters 2]) F scAl (fun vs H Q E h => ?_) (by kernel_rfl) (fun cdv A outer s H vs Q E hr h => ?_)
  · obtain ⟨a, xs, ls, n, rfl, _⟩ := h
    rfl
  · obtain ⟨a, xs, ls, n, rfl, ha, hx, ok, q⟩ := h
    have hrW := hr.mono (by decide : 1 ≤ 2)
    have hlen : xs.length = ls.length := by rw [reps_len hx, List.length_map]
    refine ⟨_, (pss_cons (ps_if (pt_not (pt_val (cB call_isiL T.isinstance boot_isi (aC (oV oAl 0) (aC (nT T.list boot_lst) pa_nil)))))
        (pss_one (ps_ret pe_bl))
        pss_nil)
      (pss_cons (ps_for PassesOwn.never rfl (pi_list (oV oAl 0)) (oT oAl 2)
        (pss_cons (ps_if (PW.pt (pw_or (pt_not (pt_val (cB call_isiT T.isinstance boot_isi (aC (oV oAl 2) (aC (nT T.tuple boot_tup) pa_nil))))) (pw_or (pt_cmpR op_ne (cB (call_len_seq (X := _)) T.len PySem.boot_len (aC (oV oAl 2) pa_nil)) pe_int (nomark _)) (pw_or1 (pt_not (pt_val (cF GW hrW mW FW.kp bW .nil pass0 (aC (iX (ixT K) (oV oAl 2) pe_int) pa_nil))))))))
          (pss_one (ps_ret pe_bl))
          pss_nil)
        (pss_cons (ps_if (PW.pt (pw_or (pt_cmpR op_lt (iX (ixT K) (oV oAl 2) pe_int) pe_int (nomark _)) (pw_or (pt_cmpR op_ge (iX (ixT K) (oV oAl 2) pe_int) (oV oAl 1) (nomark _)) (pw_or1 (pt_not (pt_val (cB call_isiT T.isinstance boot_isi (aC (iX (ixT K) (oV oAl 2) pe_int) (aC (nT T.tuple boot_tup) pa_nil)))))))))
          (pss_one (ps_ret pe_bl))
          pss_nil)
        (pss_cons (ps_if (PW.pt (pw_or (pt_cmpR op_ne (cB (call_len_seq (X := _)) T.len PySem.boot_len (aC (iX (ixT K) (oV oAl 2) pe_int) pa_nil)) (oV oAl 1) (nomark _)) (pw_or1 (pt_not (pt_val (cF GI hr mI FI.kp bI .nil pass0 (aC (iX (ixT K) (oV oAl 2) pe_int) (aC (iX (ixT K) (oV oAl 2) pe_int) (aC (oV oAl 1) pa_nil)))))))))
          (pss_one (ps_ret pe_bl))
          pss_nil)
        (pss_one (ps_for PassesOwn.never rfl (pi_tup (iX (ixT K) (oV oAl 2) pe_int)) (oT oAl 3)
          (pss_one (ps_if (PW.pt (pw_or (pt_not (pt_val (cF GW hrW mW FW.kp bW .nil pass0 (aC (oV oAl 3) pa_nil)))) (pw_or1 (pt_cmpR op_lt (oV oAl 3) pe_int (nomark _)))))
            (pss_one (ps_ret pe_bl))
            pss_nil))))))))
      (pss_one (ps_ret pe_bl)))), ?_⟩
    refine cut3 ?_
    intro rr2 rr1
    refine ⟨_, rfl, a, _, _, _, rfl, ha, kit_list, _, rfl, iteF ?_⟩
    refine ⟨_, rfl, a, rfl, ⟨_, ha⟩, for_list (K := K) (a := a) (xs := xs) (fun i σ Hc => ∃ u v, Hc = H ∧ σ = [some (.ref a), some (.int n), u, v]) ⟨none, none, rfl, rfl⟩ (fun i σ Hc _ ⟨u, v, e, _⟩ => by rw [e]; exact ha) ?_ ?_⟩
    · rintro i y σ Hc hi ⟨u, v, e, rfl⟩
      cases e
      have hi' : i < ls.length := by have := (List.getElem?_eq_some_iff.mp hi).1; omega
      obtain ⟨x', hx', rx⟩ := reps_get hx (i := i) (d := letD ls[i]) (by rw [List.getElem?_map, List.getElem?_eq_getElem hi']; rfl)
      rw [hi] at hx'
      cases hx'
      obtain ⟨o1, o2, o3, o4⟩ := ok ls[i] (List.getElem_mem hi')
      generalize hl : ls[i] = l at o1 o2 o3 o4 rx
      obtain ⟨d, rfl, b, c, L1, L2, L3⟩ := letAt_iff.mp rx
      refine ⟨_, rfl, d, _, _, _, rfl, L1, kit_tuple, _, rfl, iteF ?_⟩
      refine ⟨_, rfl, d, _, rfl, .inr L1, rfl, _, rfl, iteF ?_⟩
      refine ⟨_, rfl, d, _, 0, _, rfl, rfl, L1, rfl, _, rfl, _, rfl, iteF ?_⟩
      refine ⟨_, rfl, d, _, 0, _, rfl, rfl, L1, rfl, _, _, rfl, rfl, _, rfl, ?_⟩
      rw [decide_eq_false (by omega : ¬ (l.s : Int) < 0)]
      refine iteF ⟨_, rfl, d, _, 0, _, rfl, rfl, L1, rfl, _, rfl, _, _, rfl, rfl, _, rfl, ?_⟩
      rw [decide_eq_false (by omega : ¬ (n : Int) ≤ (l.s : Int))]
      refine iteF ⟨_, rfl, d, _, 1, _, rfl, rfl, L1, rfl, b, _, _, _, rfl, L2, kit_tuple, _, rfl, iteF ?_⟩
      refine ⟨_, rfl, d, _, 1, _, rfl, rfl, L1, rfl, b, _, rfl, .inr L2, _, rfl, rfl, _, rfl, ?_⟩
      rw [show (!decide (V.int ((nums l.st).length : Int) = V.int (n : Int))) = false by rw [List.length_map, o2]; simp]
      refine iteF ⟨_, rfl, d, _, 2, _, rfl, rfl, L1, rfl, _, rfl, d, _, 0, _, rfl, rfl, L1, rfl, _, rfl, c, l.w, l.s, n, rfl, L3, o4, _, rfl, iteF ?_⟩
      refine ⟨_, rfl, d, _, 1, _, rfl, rfl, L1, rfl, b, rfl, ⟨_, L2⟩, for_tup (K := K) (a := b) (xs := nums l.st) (fun j σ Hc => ∃ v, Hc = H ∧ σ = [some (.ref a), some (.int n), some (.ref d), v]) ⟨v, rfl, rfl⟩ (fun j σ Hc _ ⟨v, e, _⟩ => by rw [e]; exact L2) ?_ ?_⟩
      · rintro j y σ Hc hj ⟨v, rfl, rfl⟩
        have hj' : j < l.st.length := by have := (List.getElem?_eq_some_iff.mp hj).1; rwa [List.length_map] at this
        rw [get_nums hj'] at hj
        cases hj
        have o5 : 0 ≤ l.st.getD j 0 := by
          rw [List.getD_eq_getElem?_getD, List.getElem?_eq_getElem hj']
          exact o3 _ (List.getElem_mem hj')
        refine ⟨_, rfl, _, rfl, _, rfl, iteF ?_⟩
        refine ⟨_, rfl, _, _, rfl, rfl, _, rfl, ?_⟩
        rw [decide_eq_false (by omega : ¬ l.st.getD j 0 < 0)]
        exact iteF ⟨_, rfl, rfl⟩
      · rintro σ Hc ⟨v, rfl, rfl⟩
        exact ⟨_, _, rfl, rfl⟩
    · rintro σ Hc ⟨u, v, rfl, rfl⟩
      exact q
end
end Of

end

set_option Elab.async false
set_option linter.all false
set_option maxRecDepth 100000
set_option maxHeartbeats 4000000
namespace Of
open PySem PySem.Spec L2 L3
theorem eqv_nm (s t : Nat) (x y : Int) : PyData.eqv (nmD s x) (nmD t y) = (decide (s = t) && decide (x = y)) := by
  unfold nmD
  simp only [PyData.eqv, PyData.eqvAll]
  rw [Bool.eq_iff_iff]
  simp only [Bool.and_eq_true, beq_iff_eq, decide_eq_true_eq, and_true]
  constructor <;> rintro ⟨h1, h2⟩ <;> refine ⟨?_, ?_⟩ <;> first | omega | exact h2 | exact h2.1
/-! ### mail: letters as they were sent -/
def cntS (u : Nat) (ls : List Let) : Nat := (ls.filter fun l => decide (l.s = u)).length
theorem cntS_append {u : Nat} {a b : List Let} : cntS u (a ++ b) = cntS u a + cntS u b := by simp [cntS]
theorem cntS_one {u : Nat} {l : Let} : cntS u [l] = if l.s = u then 1 else 0 := by
  unfold cntS
  by_cases h : l.s = u <;> simp [h]
theorem take_snoc {α : Type} {ls : List α} {j : Nat} {l : α} (h : ls[j]? = some l) : ls.take (j + 1) = ls.take j ++ [l] := by rw [List.take_succ, h]; rfl
theorem cntS_mono {u : Nat} {ls : List Let} {j : Nat} : ∀ d, cntS u (ls.take j) ≤ cntS u (ls.take (j + d))
  | 0 => Nat.le_refl _
  | d + 1 => by
    refine Nat.le_trans (cntS_mono d) ?_
    cases h : ls[j + d]? with
    | none => rw [show j + (d + 1) = j + d + 1 by omega, List.take_succ, h]; simp
    | some l => rw [show j + (d + 1) = j + d + 1 by omega, take_snoc h, cntS_append]; omega
structure Mail (n : Nat) (ls : List Let) : Prop where
  fit : ∀ l ∈ ls, Fit n l
  num : ∀ j l, ls[j]? = some l → nameN l = (cntS l.s (ls.take j) : Int) + 1
  cause : ∀ j l u, ls[j]? = some l → u ≠ l.s → l.st.getD u 0 ≤ (cntS u (ls.take j) : Int)
theorem Mail.lt {n : Nat} {ls : List Let} (M : Mail n ls) {j j' : Nat} {l l' : Let} (h : ls[j]? = some l) (h' : ls[j']? = some l') (hs : l.s = l'.s) (hj : j < j') : nameN l < nameN l' := by
  rw [M.num j l h, M.num j' l' h', ← hs]
  have h1 := @cntS_mono l.s ls (j + 1) (j' - (j + 1))
  rw [show j + 1 + (j' - (j + 1)) = j' by omega, take_snoc h, cntS_append, cntS_one, if_pos rfl] at h1
  omega
theorem Mail.inj {n : Nat} {ls : List Let} (M : Mail n ls) {l l' : Let} (h : l ∈ ls) (h' : l' ∈ ls) (hs : l.s = l'.s) (hn : nameN l = nameN l') : l = l' := by
  obtain ⟨j, hj⟩ := List.getElem?_of_mem h
  obtain ⟨j', hj'⟩ := List.getElem?_of_mem h'
  rcases Nat.lt_trichotomy j j' with z | z | z
  · have := M.lt hj hj' hs z; omega
  · subst z; rw [hj] at hj'; exact Option.some.inj hj'
  · have := M.lt hj' hj hs.symm z; omega
theorem Mail.last {n : Nat} {ls : List Let} (M : Mail n ls) {u : Nat} : ∀ j m, cntS u (ls.take j) = m + 1 → ∃ i l, i < j ∧ ls[i]? = some l ∧ l.s = u ∧ nameN l = (m : Int) + 1
  | 0, m, h => by simp [cntS] at h
  | j + 1, m, h => by
    cases e : ls[j]? with
    | none =>
      rw [List.take_succ, e] at h
      obtain ⟨i, l, h1, h2⟩ := M.last j m (by simpa using h)
      exact ⟨i, l, by omega, h2⟩
    | some l =>
      rw [take_snoc e, cntS_append, cntS_one] at h
      by_cases hs : l.s = u
      · rw [if_pos hs] at h
        refine ⟨j, l, by omega, e, hs, ?_⟩
        rw [M.num j l e, hs]; omega
      · rw [if_neg hs] at h
        obtain ⟨i, l', h1, h2⟩ := M.last j m (by omega)
        exact ⟨i, l', by omega, h2⟩
/-! ### an office that takes mail -/
def sumF (f : Let → Int) : List Let → Int
  | [] => 0
  | l :: ls => f l + sumF f ls
theorem sumF_append {f : Let → Int} : ∀ {a b : List Let}, sumF f (a ++ b) = sumF f a + sumF f b
  | [], b => by simp [sumF]
  | l :: a, b => by simp only [List.cons_append, sumF, sumF_append (a := a)]; omega
theorem getD_inc {cs : List Int} {s u : Nat} (h : s < cs.length) : (inc cs s).getD u 0 = cs.getD u 0 + if s = u then 1 else 0 := by
  unfold inc
  rw [List.getD_eq_getElem?_getD, List.getD_eq_getElem?_getD]
  by_cases hu : s = u
  · subst hu
    rw [List.getElem?_set_self h, if_pos rfl, List.getD_eq_getElem?_getD]
    rfl
  · rw [List.getElem?_set_ne hu, if_neg hu, ← List.getD_eq_getElem?_getD]; omega
theorem ready_own {s : Nat} {ss cs : List Int} (h : readyB s ss cs = true) : ss.getD s 0 = cs.getD s 0 + 1 := by
  unfold readyB at h
  rw [Bool.and_eq_true] at h
  exact of_decide_eq_true h.1
theorem first_some {ls : List Let} {cs : List Int} {i : Nat} (h : firstR ls cs = some i) : ∃ l, ls[i]? = some l ∧ readyB l.s l.st cs = true := by
  unfold firstR at h
  obtain ⟨hlt, hp, _⟩ := List.findIdx?_eq_some_iff_getElem.mp h
  exact ⟨ls[i], List.getElem?_eq_getElem hlt, hp⟩
theorem sumF_perm {f : Let → Int} {a b : List Let} (h : a.Perm b) : sumF f a = sumF f b := by
  induction h with
  | nil => rfl
  | cons x _ ih => simp only [sumF, ih]
  | swap x y l => simp only [sumF]; omega
  | trans _ _ h1 h2 => exact h1.trans h2
theorem same_perm {a b : List Let} (h1 : a.Nodup) (h2 : b.Nodup) (h : ∀ x, x ∈ a ↔ x ∈ b) : a.Perm b := (List.perm_ext_iff_of_nodup h1 h2).mpr h
/-! ### how the mail of the law comes about -/
theorem Mail.nil {n : Nat} : Mail n [] := ⟨(fun _ h => nomatch h), (fun j l h => by simp at h), (fun j l u h => by simp at h)⟩
theorem Mail.snoc {n : Nat} {ls : List Let} {l : Let} (M : Mail n ls) (hf : Fit n l) (h1 : nameN l = (cntS l.s ls : Int) + 1) (h2 : ∀ u, u ≠ l.s → l.st.getD u 0 ≤ (cntS u ls : Int)) : Mail n (ls ++ [l]) := by
  have cases_ : ∀ j x, (ls ++ [l])[j]? = some x → (ls[j]? = some x ∧ (ls ++ [l]).take j = ls.take j) ∨ (x = l ∧ (ls ++ [l]).take j = ls) := fun j x h => by
    by_cases hj : j < ls.length
    · rw [List.getElem?_append_left hj] at h
      exact .inl ⟨h, List.take_append_of_le_length (by omega)⟩
    · rw [List.getElem?_append_right (by omega)] at h
      have hj0 : j - ls.length = 0 := by
        have := (List.getElem?_eq_some_iff.mp h).1
        simp at this; omega
      rw [hj0] at h
      refine .inr ⟨by simpa using h.symm, ?_⟩
      have : j = ls.length := by omega
      rw [this]; simp
  refine ⟨fun x hx => ?_, fun j x h => ?_, fun j x u h hu => ?_⟩
  · rcases List.mem_append.mp hx with z | z
    · exact M.fit x z
    · have : x = l := by simpa using z
      rw [this]; exact hf
  · rcases cases_ j x h with ⟨z, e⟩ | ⟨rfl, e⟩
    · rw [e]; exact M.num j x z
    · rw [e]; exact h1
  · rcases cases_ j x h with ⟨z, e⟩ | ⟨rfl, e⟩
    · rw [e]; exact M.cause j x u z hu
    · rw [e]; exact h2 u hu
theorem getD_set {α : Type} {xs : List α} {i u : Nat} {x d : α} (h : i < xs.length) : (xs.set i x).getD u d = if i = u then x else xs.getD u d := by
  rw [List.getD_eq_getElem?_getD]
  by_cases e : i = u
  · subst e; rw [List.getElem?_set_self h, if_pos rfl]; rfl
  · rw [List.getElem?_set_ne e, if_neg e, ← List.getD_eq_getElem?_getD]
/-! ### letters as data -/
/-! ### the law's tray -/
end Of

set_option Elab.async false
set_option linter.all false
set_option maxRecDepth 100000
set_option maxHeartbeats 4000000
namespace Of
open PySem PySem.Spec L2 L3 L4
structure Know (n : Nat) (ls got : List Let) (o : Off) : Prop where
  gm : ∀ l ∈ got, l ∈ ls
  gn : got.Nodup
  ck : o.clock.length = n
  cl : ∀ u, o.clock.getD u 0 = (cntS u got : Int)
  lo : ∀ l ∈ ls, nameN l ≤ o.clock.getD l.s 0 ↔ l ∈ got
  tm : ∀ l ∈ o.tray, l ∈ ls ∧ l ∉ got
  tn : o.tray.Nodup
theorem Know.hand {n : Nat} {ls got : List Let} {o : Off} {i : Nat} {l : Let} (M : Mail n ls) (T : Know n ls got o) (hi : o.tray[i]? = some l) (hr : readyB l.s l.st o.clock = true) : Know n ls (got ++ [l]) (handed o i l) := by
  have hm := T.tm l (List.mem_of_getElem? hi)
  have hs : l.s < o.clock.length := by rw [T.ck]; exact (M.fit l hm.1).1
  have hn : nameN l = o.clock.getD l.s 0 + 1 := ready_own hr
  have hc : (handed o i l).clock = inc o.clock l.s := rfl
  have ht : (handed o i l).tray = o.tray.eraseIdx i := rfl
  have hil : i < o.tray.length := (List.getElem?_eq_some_iff.mp hi).1
  refine ⟨fun x hx => ?_, ?_, by rw [hc]; unfold inc; rw [List.length_set]; exact T.ck, fun u => ?_, fun x hx => ?_, fun x hx => ?_, ?_⟩
  · rcases List.mem_append.mp hx with z | z
    · exact T.gm x z
    · have : x = l := by simpa using z
      rw [this]; exact hm.1
  · rw [List.nodup_append]
    refine ⟨T.gn, by simp, fun a ha b hb => ?_⟩
    have : b = l := by simpa using hb
    subst this
    exact fun e => hm.2 (e ▸ ha)
  · rw [hc, getD_inc hs, T.cl, cntS_append, cntS_one]
    split <;> simp
  · rw [hc, getD_inc hs]
    by_cases hxs : l.s = x.s
    · rw [if_pos hxs, ← hxs]
      constructor
      · intro h
        by_cases hle : nameN x ≤ o.clock.getD l.s 0
        · exact List.mem_append_left _ ((T.lo x hx).mp (by rw [← hxs]; exact hle))
        · have : x = l := M.inj hx hm.1 hxs.symm (by omega)
          rw [this]; simp
      · intro h
        rcases List.mem_append.mp h with z | z
        · have := (T.lo x hx).mpr z
          rw [← hxs] at this; omega
        · have : x = l := by simpa using z
          rw [this]; omega
    · rw [if_neg hxs, Int.add_zero]
      rw [T.lo x hx]
      constructor
      · exact fun h => List.mem_append_left _ h
      · intro h
        rcases List.mem_append.mp h with z | z
        · exact z
        · have : x = l := by simpa using z
          exact absurd (by rw [this]) hxs
  · rw [ht] at hx
    have hxt := List.mem_of_mem_eraseIdx hx
    refine ⟨(T.tm x hxt).1, fun z => ?_⟩
    rcases List.mem_append.mp z with z | z
    · exact (T.tm x hxt).2 z
    · have : x = l := by simpa using z
      subst this
      obtain ⟨k, hk⟩ := List.getElem?_of_mem hx
      rw [List.getElem?_eraseIdx] at hk
      have nd := T.tn
      rw [List.nodup_iff_pairwise_ne, List.pairwise_iff_getElem] at nd
      split at hk
      · next hlt =>
        have hk' := List.getElem?_eq_some_iff.mp hk
        have hi' := List.getElem?_eq_some_iff.mp hi
        exact nd k i hk'.1 hi'.1 hlt (by rw [hk'.2, hi'.2])
      · next hge =>
        have hk' := List.getElem?_eq_some_iff.mp hk
        have hi' := List.getElem?_eq_some_iff.mp hi
        exact nd i (k + 1) hi'.1 hk'.1 (by omega) (by rw [hk'.2, hi'.2])
  · rw [ht]; exact T.tn.sublist (List.eraseIdx_sublist _ _)
theorem Know.drain {n : Nat} {ls : List Let} (M : Mail n ls) : ∀ (k : Nat) {got : List Let} {o : Off}, Know n ls got o →
    Know n ls (got ++ (drain k o).1) (drain k o).2 ∧ (∀ x, x ∈ got ∨ x ∈ o.tray → x ∈ got ++ (drain k o).1 ∨ x ∈ (drain k o).2.tray) ∧ (o.tray.length ≤ k → firstR (drain k o).2.tray (drain k o).2.clock = none)
  | 0, got, o, T => by
    refine ⟨by simpa [Of.drain] using T, fun x hx => by simpa [Of.drain] using hx, fun h => ?_⟩
    have : o.tray = [] := List.length_eq_zero_iff.mp (by omega)
    simp [Of.drain, this, firstR]
  | k + 1, got, o, T => by
    cases hf : firstR o.tray o.clock with
    | none => simp only [Of.drain, hf]; exact ⟨by simpa using T, fun x hx => by simpa using hx, fun _ => by first | exact hf | trivial⟩
    | some i =>
      obtain ⟨l, hl, hr⟩ := first_some hf
      simp only [Of.drain, hf, hl]
      obtain ⟨h1, h2, h3⟩ := Know.drain M k (T.hand M hl hr)
      rw [List.append_assoc] at h1 h2
      refine ⟨h1, fun x hx => h2 x ?_, fun hk => h3 ?_⟩
      · rcases hx with z | z
        · exact .inl (List.mem_append_left _ z)
        · by_cases e : x = l
          · exact .inl (by rw [e]; simp)
          · refine .inr ?_
            show x ∈ o.tray.eraseIdx i
            obtain ⟨j, hj⟩ := List.getElem?_of_mem z
            have hji : j ≠ i := fun q => by rw [q, hl] at hj; exact e (Option.some.inj hj).symm
            by_cases hlt : j < i
            · exact List.mem_of_getElem? (i := j) (by rw [List.getElem?_eraseIdx, if_pos hlt]; exact hj)
            · exact List.mem_of_getElem? (i := j - 1) (by rw [List.getElem?_eraseIdx, if_neg (by omega), show j - 1 + 1 = j by omega]; exact hj)
      · show (o.tray.eraseIdx i).length ≤ k
        have := (List.getElem?_eq_some_iff.mp hl).1
        rw [List.length_eraseIdx_of_lt this]; omega
theorem Know.new {n : Nat} {ls got : List Let} {o : Off} {l : Let} (M : Mail n ls) (T : Know n ls got o) (hl : l ∈ ls) : newB o l = true ↔ l ∉ got ∧ l ∉ o.tray := by
  unfold newB
  rw [Bool.and_eq_true, Bool.not_eq_true', Bool.not_eq_true', decide_eq_false_iff_not, T.lo l hl]
  refine and_congr Iff.rfl ?_
  rw [List.any_eq_false]
  constructor
  · intro h z
    refine h l z ?_
    unfold nameD; rw [eqv_nm]; simp
  · intro h x hx
    unfold nameD
    rw [eqv_nm, Bool.and_eq_true, decide_eq_true_eq, decide_eq_true_eq]
    rintro ⟨h1, h2⟩
    exact h (M.inj (T.tm x hx).1 hl h1 h2 ▸ hx)
theorem Know.put {n : Nat} {ls got : List Let} {o : Off} {l : Let} (M : Mail n ls) (T : Know n ls got o) (hl : l ∈ ls) : Know n ls got (put o l) ∧ (l ∈ got ∨ l ∈ (put o l).tray) ∧ ∀ x ∈ o.tray, x ∈ (put o l).tray := by
  unfold Of.put
  by_cases h : newB o l = true
  · rw [if_pos h]
    have h' := (T.new M hl).mp h
    refine ⟨⟨T.gm, T.gn, T.ck, T.cl, T.lo, fun x hx => ?_, ?_⟩, .inr (by simp), fun x hx => List.mem_append_left _ hx⟩
    · rcases List.mem_append.mp hx with z | z
      · exact T.tm x z
      · have : x = l := by simpa using z
        rw [this]; exact ⟨hl, h'.1⟩
    · show (o.tray ++ [l]).Nodup
      rw [List.nodup_append]
      refine ⟨T.tn, by simp, fun a ha b hb => ?_⟩
      have : b = l := by simpa using hb
      subst this
      exact fun e => h'.2 (e ▸ ha)
  · rw [if_neg h]
    refine ⟨T, ?_, fun x hx => hx⟩
    by_cases h1 : l ∈ got
    · exact .inl h1
    · refine .inr (Classical.byContradiction fun h2 => h ((T.new M hl).mpr ⟨h1, h2⟩))
theorem Know.took {n : Nat} {ls got : List Let} {o : Off} {l : Let} (M : Mail n ls) (T : Know n ls got o) (hl : l ∈ ls) : Know n ls (got ++ (took o l).1) (took o l).2 ∧ (∀ x, (x ∈ got ∨ x ∈ o.tray ∨ x = l) → x ∈ got ++ (took o l).1 ∨ x ∈ (took o l).2.tray) ∧
    firstR (took o l).2.tray (took o l).2.clock = none := by
  obtain ⟨h1, h2, h3⟩ := T.put M hl
  obtain ⟨g1, g2, g3⟩ := Know.drain M (Of.put o l).tray.length h1
  refine ⟨g1, fun x hx => g2 x ?_, g3 (Nat.le_refl _)⟩
  rcases hx with z | z | z
  · exact .inl z
  · exact .inr (h3 x z)
  · rw [z]; exact h2
theorem Know.all {n : Nat} {ls : List Let} (M : Mail n ls) : ∀ (row : List Let) {got : List Let} {o : Off}, Know n ls got o → (∀ l ∈ row, l ∈ ls) → (firstR o.tray o.clock = none) →
    Know n ls (got ++ (tookAll o row).1.flatten) (tookAll o row).2 ∧ (∀ x, (x ∈ got ∨ x ∈ o.tray ∨ x ∈ row) → x ∈ got ++ (tookAll o row).1.flatten ∨ x ∈ (tookAll o row).2.tray) ∧ firstR (tookAll o row).2.tray (tookAll o row).2.clock = none
  | [], got, o, T, _, hf => ⟨by simpa [tookAll] using T, fun x hx => by simpa [tookAll] using hx, hf⟩
  | l :: row, got, o, T, hr, _ => by
    obtain ⟨h1, h2, h3⟩ := T.took M (hr l List.mem_cons_self)
    obtain ⟨g1, g2, g3⟩ := Know.all M row h1 (fun x hx => hr x (List.mem_cons_of_mem _ hx)) h3
    simp only [tookAll, List.flatten_cons]
    rw [List.append_assoc] at g1 g2
    refine ⟨g1, fun x hx => g2 x ?_, g3⟩
    rcases hx with z | z | z
    · exact (h2 x (.inl z)).elim .inl fun y => .inr (.inl y)
    · exact (h2 x (.inr (.inl z))).elim .inl fun y => .inr (.inl y)
    · rcases List.mem_cons.mp z with z | z
      · exact (h2 x (.inr (.inr z))).elim .inl fun y => .inr (.inl y)
      · exact .inr (.inr z)
/-! ### how long lists are -/
theorem sub_len {α : Type} [DecidableEq α] : ∀ {a b : List α}, a.Nodup → (∀ x ∈ a, x ∈ b) → a.length ≤ b.length
  | [], b, _, _ => Nat.zero_le _
  | x :: a, b, h, hs => by
    have hx := hs x List.mem_cons_self
    have := sub_len (a := a) (b := b.erase x) (List.nodup_cons.mp h).2 fun y hy => (List.mem_erase_of_ne (fun e => (List.nodup_cons.mp h).1 (by rw [← e]; exact hy))).mpr (hs y (List.mem_cons_of_mem _ hy))
    rw [List.length_erase_of_mem hx] at this
    have := List.length_pos_of_mem hx
    rw [List.length_cons]; omega
theorem cntS_sub {u : Nat} {a b : List Let} (h : a.Nodup) (hs : ∀ x ∈ a, x ∈ b) : cntS u a ≤ cntS u b := by
  unfold cntS
  refine sub_len (h.filter _) fun x hx => ?_
  rw [List.mem_filter] at hx ⊢
  exact ⟨hs x hx.1, hx.2⟩
theorem Mail.nodup {n : Nat} {ls : List Let} (M : Mail n ls) : ls.Nodup := by
  rw [List.nodup_iff_pairwise_ne, List.pairwise_iff_getElem]
  intro i j hi hj hij e
  have := M.lt (List.getElem?_eq_getElem hi) (List.getElem?_eq_getElem hj) (by rw [e]) hij
  rw [e] at this
  omega
theorem drain_book : ∀ (k : Nat) (o : Off), (drain k o).2.book.length = o.book.length + (drain k o).1.length ∧ (drain k o).2.kept.length ≤ o.kept.length + (drain k o).1.length ∧ (drain k o).2.num = o.num
  | 0, o => ⟨by simp [drain], by simp [drain], rfl⟩
  | k + 1, o => by
    cases hf : firstR o.tray o.clock with
    | none => simp [drain, hf]
    | some i =>
      cases hl : o.tray[i]? with
      | none => simp [drain, hf, hl]
      | some l =>
        obtain ⟨h1, h2, h3⟩ := drain_book k (handed o i l)
        have b1 : (handed o i l).book.length = o.book.length + 1 := by show (o.book ++ [_]).length = _; rw [List.length_append]; rfl
        have b2 : (handed o i l).kept.length ≤ o.kept.length + 1 := by
          show (if l.w = .cut then o.kept ++ [_] else o.kept : List PyData).length ≤ _
          split
          · rw [List.length_append]; exact Nat.le_refl _
          · omega
        simp only [drain, hf, hl, List.length_cons]
        exact ⟨by omega, by omega, h3⟩
theorem took_book (o : Off) (l : Let) : (took o l).2.book.length = o.book.length + (took o l).1.length ∧ (took o l).2.kept.length ≤ o.kept.length + (took o l).1.length ∧ (took o l).2.num = o.num := by
  have h := drain_book (put o l).tray.length (put o l)
  have e : (put o l).book = o.book ∧ (put o l).kept = o.kept ∧ (put o l).num = o.num := by unfold put; split <;> exact ⟨rfl, rfl, rfl⟩
  unfold took
  rw [e.1, e.2.1, e.2.2] at h
  exact h
theorem tookAll_book : ∀ (ls : List Let) (o : Off), (tookAll o ls).2.book.length = o.book.length + (tookAll o ls).1.flatten.length ∧ (tookAll o ls).2.kept.length ≤ o.kept.length + (tookAll o ls).1.flatten.length ∧ (tookAll o ls).2.num = o.num
  | [], o => by simp [tookAll]
  | l :: ls, o => by
    obtain ⟨h1, h2, h3⟩ := took_book o l
    obtain ⟨g1, g2, g3⟩ := tookAll_book ls (took o l).2
    simp only [tookAll, List.flatten_cons, List.length_append]
    exact ⟨by omega, by omega, g3.trans h3⟩
/-! ### a course of deeds -/
inductive Deed where
  | pay (who : Nat) (to many : Int)
  | cut (who : Nat)
  | carry (which : Int) (to : Nat)
  | bring (to : Nat)
inductive Ans where
  | no
  | name (l : Let)
  | names (ls : List Let)
structure Ev where
  sent : Bool
  u : Nat
  l : Let
structure Crs where
  offs : List Off
  lets : List Let
  evs : List Ev
  ans : List Ans
def noOff : Off := ⟨0, 0, [], [], [], []⟩
def Crs.off (c : Crs) (u : Nat) : Off := c.offs.getD u noOff
def deedD : Deed → PyData
  | .pay w t m => .tuple [.str "pay", .int w, .int t, .int m]
  | .cut w => .tuple [.str "cut", .int w]
  | .carry k t => .tuple [.str "carry", .int k, .int t]
  | .bring t => .tuple [.str "bring", .int t]
def evD (e : Ev) : PyData := .tuple [.str (if e.sent = true then "sent" else "got"), .int e.u, nameD e.l]
def sendC (c : Crs) (w : Nat) (x : What) : Ans × Crs := match (sent1 w (c.off w) x).1 with
  | some l => (.name l, { c with offs := c.offs.set w (sent1 w (c.off w) x).2, lets := c.lets ++ [l], evs := c.evs ++ [⟨true, w, l⟩] })
  | none => (.no, c)
def bringC (c : Crs) (t : Nat) (ls : List Let) : Ans × Crs := (.names (tookAll (c.off t) ls).1.flatten, { c with offs := c.offs.set t (tookAll (c.off t) ls).2, evs := c.evs ++ (tookAll (c.off t) ls).1.flatten.map fun l => ⟨false, t, l⟩ })
def carried (c : Crs) (k : Int) : Option Let := if 0 ≤ k then c.lets[k.toNat]? else none
def answer (c : Crs) : Deed → Ans × Crs
  | .pay w t m => sendC c w (.pay t m)
  | .cut w => sendC c w .cut
  | .carry k t => match carried c k with
    | some l => bringC c t [l]
    | none => (.no, c)
  | .bring t => bringC c t c.lets.reverse
def doC (c : Crs) (d : Deed) : Crs := { (answer c d).2 with ans := (answer c d).2.ans ++ [(answer c d).1] }
def runC (c : Crs) (ds : List Deed) : Crs := ds.foldl doC c
theorem runC_snoc {c : Crs} {ds : List Deed} {d : Deed} : runC c (ds ++ [d]) = doC (runC c ds) d := by unfold runC; rw [List.foldl_append]; rfl
/-- one office among n, of letters that were sent -/
structure OffW (n u : Nat) (ls : List Let) (o : Off) : Prop where
  ex : ∃ kn, Know n ls kn o ∧ (∀ l ∈ ls, l.s = u → l ∈ kn) ∧ o.book.length = kn.length ∧ o.kept.length ≤ kn.length
  num : o.num = (u : Int)
  tr : ∀ l ∈ o.tray, l.s ≠ u
structure Wd (n : Nat) (c : Crs) : Prop where
  ml : Mail n c.lets
  ln : c.offs.length = n
  of : ∀ u, u < n → OffW n u c.lets (c.off u)
theorem OffW.sizes {n u : Nat} {ls : List Let} {o : Off} (h : OffW n u ls o) (M : Mail n ls) : o.clock.length = n ∧ o.book.length ≤ ls.length ∧ o.kept.length ≤ ls.length ∧ o.tray.length ≤ ls.length ∧ o.book.length + o.tray.length ≤ ls.length ∧ o.kept.length + o.tray.length ≤ ls.length ∧ ∀ l ∈ o.tray, Fit n l := by
  obtain ⟨⟨kn, K, h1, h2, h3⟩, _, _⟩ := h
  have hk : (kn ++ o.tray).Nodup := by
    rw [List.nodup_append]
    exact ⟨K.gn, K.tn, fun a ha b hb e => (K.tm b hb).2 (e ▸ ha)⟩
  have hl := sub_len hk fun x hx => by
    rcases List.mem_append.mp hx with z | z
    · exact K.gm x z
    · exact (K.tm x z).1
  rw [List.length_append] at hl
  exact ⟨K.ck, by omega, by omega, by omega, by omega, by omega, fun l hl => M.fit l (K.tm l hl).1⟩
theorem off_set {c : Crs} {w u : Nat} {o : Off} (h : w < c.offs.length) : (c.offs.set w o).getD u noOff = if w = u then o else c.off u := getD_set h
theorem Wd.bring {n t : Nat} {c : Crs} {ls : List Let} (h : Wd n c) (ht : t < n) (hs : ∀ l ∈ ls, l ∈ c.lets) : Wd n (bringC c t ls).2 := by
  refine ⟨h.ml, by show (c.offs.set _ _).length = n; rw [List.length_set]; exact h.ln, fun u hu => ?_⟩
  show OffW n u c.lets ((c.offs.set t (tookAll (c.off t) ls).2).getD u noOff)
  rw [off_set (by rw [h.ln]; exact ht)]
  by_cases e : t = u
  · subst e
    rw [if_pos rfl]
    obtain ⟨⟨kn, K, h1, h2, h3⟩, hn, htr⟩ := h.of t hu
    obtain ⟨b1, b2, b3⟩ := tookAll_book ls (c.off t)
    have key : ∀ (ls : List Let) {kn : List Let} {o : Off}, Know n c.lets kn o → (∀ l ∈ ls, l ∈ c.lets) → (∀ l ∈ c.lets, l.s = t → l ∈ kn) → Know n c.lets (kn ++ (tookAll o ls).1.flatten) (tookAll o ls).2 := by
      intro ls
      induction ls with
      | nil => intro kn o K _ _; simpa [tookAll] using K
      | cons l ls ih =>
        intro kn o K hs hk
        obtain ⟨g1, g2, g3⟩ := K.took h.ml (hs l List.mem_cons_self)
        have := ih g1 (fun x hx => hs x (List.mem_cons_of_mem _ hx)) (fun x hx e => List.mem_append_left _ (hk x hx e))
        simp only [tookAll, List.flatten_cons]
        rw [List.append_assoc] at this
        exact this
    have K2 := key ls K hs h1
    refine ⟨⟨_, K2, fun l hl e => List.mem_append_left _ (h1 l hl e), by rw [b1, h2, List.length_append], by rw [List.length_append]; omega⟩, b3.trans hn, fun l hl e => ?_⟩
    exact (K2.tm l hl).2 (List.mem_append_left _ (h1 l (K2.tm l hl).1 e))
  · rw [if_neg e]
    exact h.of u hu
theorem Wd.send {n w : Nat} {c : Crs} {x : What} (h : Wd n c) (hw : w < n) : Wd n (sendC c w x).2 := by
  unfold sendC
  by_cases hc : canPay (c.off w) x = true
  · have e : sent1 w (c.off w) x = (some (sentL (c.off w) w x), sentO (payO (c.off w) x) w x) := if_pos hc
    rw [e]
    dsimp only
    obtain ⟨⟨kn, K, h1, h2, h3⟩, hn, htr⟩ := h.of w hw
    have hwl : w < (c.off w).clock.length := by rw [K.ck]; exact hw
    have hI : ∀ v, (inc (c.off w).clock w).getD v 0 = (c.off w).clock.getD v 0 + if w = v then 1 else 0 := fun v => getD_inc hwl
    have hsame : cntS w kn = cntS w c.lets := by
      refine Nat.le_antisymm (cntS_sub K.gn K.gm) ?_
      unfold cntS
      refine sub_len (h.ml.nodup.filter _) fun y hy => ?_
      rw [List.mem_filter] at hy ⊢
      exact ⟨h1 y hy.1 (of_decide_eq_true hy.2), hy.2⟩
    have hname : nameN (sentL (c.off w) w x) = (cntS w c.lets : Int) + 1 := by
      show (inc (c.off w).clock w).getD w 0 = _
      rw [hI, if_pos rfl, K.cl, hsame]
    have hM : Mail n (c.lets ++ [sentL (c.off w) w x]) := by
      refine h.ml.snoc ⟨hw, by show (inc _ _).length = n; unfold inc; rw [List.length_set]; exact K.ck⟩ hname fun u hu => ?_
      show (inc (c.off w).clock w).getD u 0 ≤ _
      rw [hI, if_neg (fun e => hu e.symm), K.cl]
      have := cntS_sub (u := u) K.gn K.gm
      omega
    have hnew : sentL (c.off w) w x ∉ c.lets := fun z => by
      obtain ⟨j, hj⟩ := List.getElem?_of_mem z
      have h1 := h.ml.num j _ hj
      have h2 := @cntS_mono w c.lets j (c.lets.length - j)
      have h3 := (List.getElem?_eq_some_iff.mp hj).1
      rw [show j + (c.lets.length - j) = c.lets.length by omega, List.take_length] at h2
      have h4 := @cntS_mono w c.lets (j + 1) (c.lets.length - (j + 1))
      rw [show j + 1 + (c.lets.length - (j + 1)) = c.lets.length by omega, List.take_length, take_snoc hj, cntS_append, cntS_one, if_pos (show (sentL (c.off w) w x).s = w from rfl)] at h4
      rw [hname] at h1
      have : (sentL (c.off w) w x).s = w := rfl
      rw [this] at h1
      omega
    refine ⟨hM, by rw [List.length_set]; exact h.ln, fun u hu => ?_⟩
    show OffW n u _ ((c.offs.set w _).getD u noOff)
    rw [off_set (by rw [h.ln]; exact hw)]
    by_cases eu : w = u
    · subst eu
      rw [if_pos rfl]
      obtain ⟨p1, p2, p3, p4, p5⟩ := payO_book (c.off w) x
      have ec : (sentO (payO (c.off w) x) w x).clock = inc (c.off w).clock w := by show inc (payO (c.off w) x).clock w = _; rw [p3]
      have et : (sentO (payO (c.off w) x) w x).tray = (c.off w).tray := p5
      have eb : (sentO (payO (c.off w) x) w x).book.length = (c.off w).book.length + 1 := by show ((payO (c.off w) x).book ++ [_]).length = _; rw [List.length_append, p1]; rfl
      have ek : (sentO (payO (c.off w) x) w x).kept.length ≤ (c.off w).kept.length + 1 := by
        show (if x = .cut then (payO (c.off w) x).kept ++ [_] else (payO (c.off w) x).kept : List PyData).length ≤ _
        split
        · rw [List.length_append, p2]; exact Nat.le_refl _
        · rw [p2]; omega
      refine ⟨⟨kn ++ [sentL (c.off w) w x], ⟨fun l hl => ?_, ?_, ?_, fun v => ?_, fun l hl => ?_, fun l hl => ?_, ?_⟩, fun l hl e => ?_, by rw [eb, h2, List.length_append]; rfl, by rw [List.length_append]; show _ ≤ kn.length + 1; omega⟩, p4.trans hn, fun l hl => htr l (by rw [et] at hl; exact hl)⟩
      · rcases List.mem_append.mp hl with z | z
        · exact List.mem_append_left _ (K.gm l z)
        · exact List.mem_append_right _ z
      · rw [List.nodup_append]
        refine ⟨K.gn, by simp, fun a ha b hb e => ?_⟩
        have : b = sentL (c.off w) w x := by simpa using hb
        rw [e, this] at ha
        exact hnew (K.gm _ ha)
      · rw [ec]; unfold inc; rw [List.length_set]; exact K.ck
      · rw [ec, hI, K.cl, cntS_append, cntS_one]
        show _ = ((cntS v kn + if w = v then 1 else 0 : Nat) : Int)
        split <;> simp
      · rw [ec, hI]
        rcases List.mem_append.mp hl with z | z
        · have hle := K.lo l z
          have nl : l ≠ sentL (c.off w) w x := fun e => hnew (e ▸ z)
          by_cases es : w = l.s
          · rw [if_pos es]
            have hin := h1 l z es.symm
            have := hle.mpr hin
            exact ⟨fun _ => List.mem_append_left _ hin, fun _ => by omega⟩
          · rw [if_neg es, Int.add_zero, hle]
            constructor
            · exact fun q => List.mem_append_left _ q
            · intro q
              rcases List.mem_append.mp q with q | q
              · exact q
              · exact absurd (by simpa using q) nl
        · have : l = sentL (c.off w) w x := by simpa using z
          subst this
          refine ⟨fun _ => List.mem_append_right _ z, fun _ => ?_⟩
          rw [hname]
          show _ ≤ (c.off w).clock.getD w 0 + if w = w then 1 else 0
          rw [if_pos rfl, K.cl, hsame]; omega
      · rw [et] at hl
        obtain ⟨q1, q2⟩ := K.tm l hl
        refine ⟨List.mem_append_left _ q1, fun q => ?_⟩
        rcases List.mem_append.mp q with q | q
        · exact q2 q
        · exact hnew (by have : l = sentL (c.off w) w x := by simpa using q
                         rw [← this]; exact q1)
      · rw [et]; exact K.tn
      · rcases List.mem_append.mp hl with z | z
        · exact List.mem_append_left _ (h1 l z e)
        · exact List.mem_append_right _ z
    · rw [if_neg eu]
      obtain ⟨⟨kn', K', g1, g2, g3⟩, hn', htr'⟩ := h.of u hu
      refine ⟨⟨kn', ⟨fun l hl => List.mem_append_left _ (K'.gm l hl), K'.gn, K'.ck, K'.cl, fun l hl => ?_, fun l hl => ⟨List.mem_append_left _ (K'.tm l hl).1, (K'.tm l hl).2⟩, K'.tn⟩, fun l hl e => ?_, g2, g3⟩, hn', htr'⟩
      · rcases List.mem_append.mp hl with z | z
        · exact K'.lo l z
        · have : l = sentL (c.off w) w x := by simpa using z
          subst this
          constructor
          · intro q
            rw [hname] at q
            have q : (cntS w c.lets : Int) + 1 ≤ (c.off u).clock.getD w 0 := q
            rw [K'.cl] at q
            have := cntS_sub (u := w) K'.gn K'.gm
            omega
          · intro q; exact absurd (K'.gm _ q) hnew
      · rcases List.mem_append.mp hl with z | z
        · exact g1 l z e
        · have : l = sentL (c.off w) w x := by simpa using z
          rw [this] at e
          exact absurd e eu
  · have e : sent1 w (c.off w) x = (none, c.off w) := if_neg hc
    rw [e]
    exact h
def okDeed (n : Nat) : Deed → Prop
  | .pay w t m => w < n ∧ okWhat w n (.pay t m)
  | .cut w => w < n
  | .carry _ t => t < n
  | .bring t => t < n
theorem Wd.deed {n : Nat} {c : Crs} {d : Deed} (h : Wd n c) (hd : okDeed n d) : Wd n (answer c d).2 := by
  cases d with
  | pay w t m => exact h.send hd.1
  | cut w => exact h.send hd
  | carry k t =>
    cases e : carried c k with
    | none => simp only [answer, e]; exact h
    | some l =>
      simp only [answer, e]
      refine h.bring hd fun x hx => ?_
      have : x = l := by simpa using hx
      subst this
      unfold carried at e
      split at e
      · exact List.mem_of_getElem? e
      · cases e
  | bring t => exact h.bring hd fun x hx => List.mem_reverse.mp hx
theorem Wd.do {n : Nat} {c : Crs} {d : Deed} (h : Wd n c) (hd : okDeed n d) : Wd n (doC c d) := let g := h.deed hd; ⟨g.ml, g.ln, g.of⟩
end Of

set_option Elab.async false
set_option linter.all false
set_option maxRecDepth 100000
set_option maxHeartbeats 4000000
namespace Of
open PySem L2 L3 L4
/-! ### a course as it stands -/
structure Adr where
  q : Addr
  dx : Addr
  lo : Addr
  ll : Addr
  le : Addr
  la : Addr
  ps : List Addr
def cfl (lo ll le la : Addr) : List (Str × V) := [("offices", .ref lo), ("letters", .ref ll), ("events", .ref le), ("answers", .ref la)]
/-- what the course may change -/
def Adr.own (A : Adr) (b : Addr) : Prop := b ∈ A.ps ∨ b = A.ll ∨ b = A.le ∨ b = A.la
def Adr.lists (A : Adr) (b : Addr) : Prop := b = A.lo ∨ b = A.ll ∨ b = A.le ∨ b = A.la
def AnsV (K : PySem.W.Frag) (H : Hp) (A : Adr) : Ans → V → Prop
  | .no, v => v = .non
  | .name l, v => NmV H l v
  | .names ls, v => ∃ b xs, v = .ref b ∧ ¬ A.own b ∧ H b = some (.lst xs) ∧ All2 (NmV H) ls xs
def AnsL (K : PySem.W.Frag) (H : Hp) (A : Adr) : List Ans → List V → Prop
  | [], ys => ys = []
  | a :: as, ys => ∃ y r, ys = y :: r ∧ AnsV K H A a y ∧ AnsL K H A as r
/-- all that is not the course's own is as it was -/
def Out (A : Adr) (H H' : Hp) : Prop := ∀ b o, H b = some o → ¬ A.own b → H' b = some o
theorem Out.refl {A : Adr} {H : Hp} : Out A H H := fun _ _ h _ => h
theorem Out.trans {A : Adr} {H H1 H2 : Hp} (a : Out A H H1) (b : Out A H1 H2) : Out A H H2 := fun c o h n => b c o (a c o h n) n
theorem out_same {A : Adr} {H H' : Hp} (e : Same H H') : Out A H H' := fun c o h _ => e c o h
section
variable {K : PySem.W.Frag} {C CC : Addr} {H H' : Hp} {A : Adr} {c : Crs} {xl xe xa : List V} {p : Addr}
theorem AnsV.out (o : Out A H H') (im : Imm H H') : ∀ {a : Ans} {v : V}, AnsV K H A a v → AnsV K H' A a v
  | .no, v, h => h
  | .name l, v, h => NmV.imm im h
  | .names ls, v, ⟨b, xs, e, n, h1, h2⟩ => ⟨b, xs, e, n, o _ _ h1 n, NmVs.imm im h2⟩
theorem AnsL.out (o : Out A H H') (im : Imm H H') : ∀ {as : List Ans} {ys : List V}, AnsL K H A as ys → AnsL K H' A as ys
  | [], _, h => h
  | a :: as, ys, ⟨y, r, e, h1, h2⟩ => ⟨y, r, e, h1.out o im, AnsL.out o im h2⟩
theorem AnsL.snoc {a : Ans} {v : V} (h : AnsV K H A a v) : ∀ {as : List Ans} {ys : List V}, AnsL K H A as ys → AnsL K H A (as ++ [a]) (ys ++ [v])
  | [], ys, e => by
    have : ys = [] := e
    subst this
    exact ⟨v, [], rfl, h, rfl⟩
  | b :: as, ys, ⟨y, r, e, h1, h2⟩ => by subst e; exact ⟨y, r ++ [v], rfl, h1, AnsL.snoc h h2⟩
theorem AnsL.len : ∀ {as : List Ans} {ys : List V}, AnsL K H A as ys → ys.length = as.length
  | [], ys, e => by
    have : ys = [] := e
    subst this; rfl
  | b :: as, ys, ⟨y, r, e, h1, h2⟩ => by subst e; simp only [List.length_cons, AnsL.len h2]
/-- an office stands as it stood where it and its lists do -/
theorem OffAt.keep {o : Off} (h : OffAt K C H p o) (im : Imm H H') (hp : ∀ u, H p = some u → H' p = some u) (hl : ∀ b xs, Refs (H p) b → H b = some (.lst xs) → H' b = some (.lst xs)) : OffAt K C H' p o := by
  obtain ⟨⟨dx, cl, lb, lt, lk, bs, ts, ks, h1, h2, h3, h4, h5, h6, h7, h8⟩, nb, nk⟩ := h
  have r : ∀ b, b = lb ∨ b = lt ∨ b = lk → Refs (H p) b := fun b hb => by rw [h1, refs_flds]; exact hb
  exact ⟨⟨dx, cl, lb, lt, lk, bs, ts, ks, hp _ h1, im.sqT h2, hl _ _ (r _ (.inl rfl)) h3, RepDs.imm im _ _ nb h4, hl _ _ (r _ (.inr (.inl rfl))) h5, RepDs.imm im _ _ (noList_lets _) h6, hl _ _ (r _ (.inr (.inr rfl))) h7, RepDs.imm im _ _ nk h8⟩, nb, nk⟩
theorem OffAt.ins {o : Off} (h : OffAt K C H p o) : ∃ dx fs, H p = some (.ins C dx fs) ∧ fs.length = 6 := by
  obtain ⟨⟨dx, cl, lb, lt, lk, bs, ts, ks, h1, _⟩, _, _⟩ := h
  exact ⟨dx, _, h1, rfl⟩
/-- an event, as a tuple made -/
def EvV (H : Hp) (e : Ev) (v : V) : Prop := ∃ b c, v = .ref b ∧ H b = some (.tup [.str (if e.sent = true then "sent" else "got"), .int e.u, .ref c]) ∧ H c = some (.tup [.int e.l.s, .int (nameN e.l)])
theorem EvV.imm {H H' : Hp} (im : Imm H H') {e : Ev} {v : V} : EvV H e v → EvV H' e v
  | ⟨b, c, e1, h1, h2⟩ => ⟨b, c, e1, im.tup _ _ h1, im.tup _ _ h2⟩
theorem EvVs.imm {H H' : Hp} (im : Imm H H') {es : List Ev} {xs : List V} (h : All2 (EvV H) es xs) : All2 (EvV H') es xs := h.mono fun _ _ => EvV.imm im
theorem EvV.rep {K : PySem.W.Frag} {H : Hp} {e : Ev} {v : V} : EvV H e v → RepD K H (evD e) v
  | ⟨b, c, e1, h1, h2⟩ => by
    subst e1
    unfold evD nameD nmD
    simp only [RepD, RepDs]
    exact ⟨b, _, rfl, SqT.of h1, _, _, rfl, rfl, _, _, rfl, rfl, _, _, rfl, ⟨c, _, rfl, SqT.of h2, _, _, rfl, rfl, _, _, rfl, rfl, rfl⟩, rfl⟩
theorem EvVs.reps {K : PySem.W.Frag} {H : Hp} {es : List Ev} {xs : List V} (h : All2 (EvV H) es xs) : RepDs K H (es.map evD) xs := All2.reps (f := evD) (fun _ _ q => EvV.rep q) h
structure CrsX (K : PySem.W.Frag) (C CC : Addr) (H : Hp) (A : Adr) (c : Crs) (xl xe xa : List V) : Prop where
  ob : H A.q = some (.ins CC A.dx (cfl A.lo A.ll A.le A.la))
  ho : H A.lo = some (.lst (A.ps.map V.ref))
  nd : A.ps.Nodup
  pl : A.ps.length = c.offs.length
  hl : H A.ll = some (.lst xl)
  rl : RepDs K H (c.lets.map letD) xl
  he : H A.le = some (.lst xe)
  re : All2 (EvV H) c.evs xe
  ha : H A.la = some (.lst xa)
  ra : AnsL K H A c.ans xa
  of : ∀ (u : Nat) p, A.ps[u]? = some p → OffAt K C H p (c.off u)
  nr : ∀ p ∈ A.ps, ∀ b, Refs (H p) b → ¬ A.lists b
  n1 : A.lo ≠ A.ll
  n2 : A.lo ≠ A.le
  n3 : A.lo ≠ A.la
  n4 : A.ll ≠ A.le
  n5 : A.ll ≠ A.la
  n6 : A.le ≠ A.la
theorem CrsX.ofM (h : CrsX K C CC H A c xl xe xa) {p : Addr} (hp : p ∈ A.ps) : ∃ u, A.ps[u]? = some p ∧ OffAt K C H p (c.off u) := by
  obtain ⟨u, hu⟩ := List.getElem?_of_mem hp
  exact ⟨u, hu, h.of u p hu⟩
theorem CrsX.nq (h : CrsX K C CC H A c xl xe xa) : A.q ∉ A.ps := fun z => by
  obtain ⟨u, _, o⟩ := h.ofM z
  obtain ⟨dx, fs, e, l⟩ := o.ins
  rw [h.ob] at e
  injection e with e
  injection e with _ _ e
  rw [← e] at l
  exact absurd l (by show ¬ 4 = 6; decide)
theorem CrsX.np (h : CrsX K C CC H A c xl xe xa) {b : Addr} {ys : List V} (hb : H b = some (.lst ys)) : b ∉ A.ps := fun z => by
  obtain ⟨u, _, o⟩ := h.ofM z
  obtain ⟨dx, fs, e, l⟩ := o.ins
  rw [hb] at e; cases e
theorem CrsX.nql (h : CrsX K C CC H A c xl xe xa) : ¬ A.own A.q := fun z => by
  rcases z with z | z | z | z
  · exact h.nq z
  · have := h.hl; rw [← z, h.ob] at this; cases this
  · have := h.he; rw [← z, h.ob] at this; cases this
  · have := h.ha; rw [← z, h.ob] at this; cases this
theorem CrsX.nlo (h : CrsX K C CC H A c xl xe xa) : ¬ A.own A.lo := fun z => by
  rcases z with z | z | z | z
  · exact h.np h.ho z
  · exact h.n1 z
  · exact h.n2 z
  · exact h.n3 z
theorem CrsX.own (h : CrsX K C CC H A c xl xe xa) {b : Addr} (ho : A.own b) : ∃ o, H b = some o := by
  rcases ho with z | z | z | z
  · obtain ⟨u, _, o⟩ := h.ofM z
    obtain ⟨dx, fs, e, l⟩ := o.ins
    exact ⟨_, e⟩
  · exact ⟨_, by rw [z]; exact h.hl⟩
  · exact ⟨_, by rw [z]; exact h.he⟩
  · exact ⟨_, by rw [z]; exact h.ha⟩
theorem CrsX.fresh (h : CrsX K C CC H A c xl xe xa) {b : Addr} (hb : H b = none) : ¬ A.own b := fun z => by
  obtain ⟨o, e⟩ := h.own z
  rw [hb] at e; cases e
theorem CrsX.same (h : CrsX K C CC H A c xl xe xa) (e : Same H H') : CrsX K C CC H' A c xl xe xa :=
  ⟨e _ _ h.ob, e _ _ h.ho, h.nd, h.pl, e _ _ h.hl, RepDs.same e _ _ h.rl, e _ _ h.he, EvVs.imm e.imm h.re, e _ _ h.ha, h.ra.out (out_same e) e.imm, fun u p hu => (h.of u p hu).same e,
    fun p hp b hb => by
      obtain ⟨u, hu, o⟩ := h.ofM hp
      obtain ⟨dx, fs, e1, l⟩ := o.ins
      refine h.nr p hp b ?_
      rw [e _ _ e1] at hb
      rw [e1]; exact hb, h.n1, h.n2, h.n3, h.n4, h.n5, h.n6⟩
/-- one office does something -/
theorem CrsX.office (h : CrsX K C CC H A c xl xe xa) {u : Nat} {o : Off} (hu : A.ps[u]? = some p) (x : SameX p H H') (O : OffAt K C H' p o) : CrsX K C CC H' A { c with offs := c.offs.set u o } xl xe xa ∧ Out A H H' := by
  obtain ⟨dx, fs, e1, l⟩ := (h.of u p hu).ins
  have hp : p ∈ A.ps := List.mem_of_getElem? hu
  have out : Out A H H' := fun b ob hb nb => x.keep b ob hb fun e => nb (.inl (e ▸ hp))
  have im := x.imm e1
  have hul : u < c.offs.length := by rw [← h.pl]; exact (List.getElem?_eq_some_iff.mp hu).1
  have hn : ∀ v p', A.ps[v]? = some p' → p' = p → v = u := fun v p' hv e => by
    subst e
    have nd := h.nd
    rw [List.nodup_iff_pairwise_ne, List.pairwise_iff_getElem] at nd
    have hv' := List.getElem?_eq_some_iff.mp hv
    have hu' := List.getElem?_eq_some_iff.mp hu
    rcases Nat.lt_trichotomy v u with z | z | z
    · exact absurd (hv'.2.trans hu'.2.symm) (nd v u hv'.1 hu'.1 z)
    · exact z
    · exact absurd (hu'.2.trans hv'.2.symm) (nd u v hu'.1 hv'.1 z)
  refine ⟨⟨out _ _ h.ob h.nql, out _ _ h.ho h.nlo, h.nd, by rw [List.length_set]; exact h.pl, x.lst e1 h.hl, RepDs.imm im _ _ (noList_lets _) h.rl, x.lst e1 h.he, EvVs.imm im h.re, x.lst e1 h.ha, h.ra.out out im, fun v p' hv => ?_, fun p' hp' b hb => ?_, h.n1, h.n2, h.n3, h.n4, h.n5, h.n6⟩, out⟩
  · show OffAt K C H' p' ((c.offs.set u o).getD v noOff)
    rw [off_set hul]
    by_cases e : u = v
    · subst e
      rw [if_pos rfl]
      rw [hu] at hv
      cases hv
      exact O
    · rw [if_neg e]
      have ne : p' ≠ p := fun z => e (hn v p' hv z).symm
      exact (h.of v p' hv).keep im (fun w hw => x.keep _ _ hw ne) fun b xs _ hb => x.lst e1 hb
  · by_cases e : p' = p
    · subst e
      rcases x.refs b hb with z | z
      · exact h.nr p' hp' b z
      · rintro (q | q | q | q)
        · rw [q, h.ho] at z; cases z
        · rw [q, h.hl] at z; cases z
        · rw [q, h.he] at z; cases z
        · rw [q, h.ha] at z; cases z
    · obtain ⟨v, hv, o'⟩ := h.ofM hp'
      obtain ⟨dx', fs', e', l'⟩ := o'.ins
      refine h.nr p' hp' b ?_
      rw [x.keep _ _ e' e] at hb
      rw [e']; exact hb
theorem CrsX.lst (h : CrsX K C CC H A c xl xe xa) {b : Addr} {xs ys : List V} (hb : H b = some (.lst xs)) (hw : A.lists b) : (∀ (u : Nat) p, A.ps[u]? = some p → OffAt K C (upd H b (.lst ys)) p (c.off u)) ∧ (∀ p ∈ A.ps, ∀ d, Refs ((upd H b (.lst ys)) p) d → ¬ A.lists d) ∧ (upd H b (.lst ys)) A.q = H A.q := by
  have nb := h.np hb
  refine ⟨fun u p hu => ?_, fun p hp d hd => ?_, upd_ne fun e => ?_⟩
  · have hp := List.mem_of_getElem? hu
    have ne : p ≠ b := fun e => nb (e ▸ hp)
    refine (h.of u p hu).keep (imm_lst hb) (fun w hw => (upd_ne ne).trans hw) fun d zs hd hz => ?_
    refine (upd_ne fun e => h.nr p hp d hd ?_).trans hz
    rw [e]; exact hw
  · have ne : p ≠ b := fun e => nb (e ▸ hp)
    rw [upd_ne ne] at hd
    exact h.nr p hp d hd
  · rw [← e, h.ob] at hb; cases hb
theorem out_own {b : Addr} {o : HO} (h : A.own b) : Out A H (upd H b o) := fun d ob hd nd => (upd_ne fun e => nd (by rw [e]; exact h)).trans hd
theorem CrsX.letter (h : CrsX K C CC H A c xl xe xa) {l : Let} {v : V} (hv : RepD K H (letD l) v) : CrsX K C CC (upd H A.ll (.lst (xl ++ [v]))) A { c with lets := c.lets ++ [l] } (xl ++ [v]) xe xa ∧ Out A H (upd H A.ll (.lst (xl ++ [v]))) := by
  have out : Out A H (upd H A.ll (.lst (xl ++ [v]))) := out_own (.inr (.inl rfl))
  have im := imm_lst (ys := xl ++ [v]) h.hl
  obtain ⟨g1, g2, g3⟩ := h.lst (ys := xl ++ [v]) h.hl (.inr (.inl rfl))
  refine ⟨⟨g3.trans h.ob, (upd_ne h.n1).trans h.ho, h.nd, h.pl, upd_same, ?_, (upd_ne h.n4.symm).trans h.he, EvVs.imm im h.re, (upd_ne h.n5.symm).trans h.ha, h.ra.out out im, g1, g2, h.n1, h.n2, h.n3, h.n4, h.n5, h.n6⟩, out⟩
  rw [List.map_append, List.map_singleton]
  exact RepDs.imm im _ _ (by rw [← List.map_singleton, ← List.map_append]; exact noList_lets _) (reps_append h.rl (reps_one hv))
theorem CrsX.events (h : CrsX K C CC H A c xl xe xa) {es : List Ev} {vs : List V} (hv : All2 (EvV H) es vs) : CrsX K C CC (upd H A.le (.lst (xe ++ vs))) A { c with evs := c.evs ++ es } xl (xe ++ vs) xa ∧ Out A H (upd H A.le (.lst (xe ++ vs))) := by
  have out : Out A H (upd H A.le (.lst (xe ++ vs))) := out_own (.inr (.inr (.inl rfl)))
  have im := imm_lst (ys := xe ++ vs) h.he
  obtain ⟨g1, g2, g3⟩ := h.lst (ys := xe ++ vs) h.he (.inr (.inr (.inl rfl)))
  refine ⟨⟨g3.trans h.ob, (upd_ne h.n2).trans h.ho, h.nd, h.pl, (upd_ne h.n4).trans h.hl, RepDs.imm im _ _ (noList_lets _) h.rl, upd_same, ?_, (upd_ne h.n6.symm).trans h.ha, h.ra.out out im, g1, g2, h.n1, h.n2, h.n3, h.n4, h.n5, h.n6⟩, out⟩
  exact EvVs.imm im (h.re.append hv)
theorem CrsX.answer (h : CrsX K C CC H A c xl xe xa) {a : Ans} {v : V} (hv : AnsV K H A a v) : CrsX K C CC (upd H A.la (.lst (xa ++ [v]))) A { c with ans := c.ans ++ [a] } xl xe (xa ++ [v]) ∧ Out A H (upd H A.la (.lst (xa ++ [v]))) := by
  have out : Out A H (upd H A.la (.lst (xa ++ [v]))) := out_own (.inr (.inr (.inr rfl)))
  have im := imm_lst (ys := xa ++ [v]) h.ha
  obtain ⟨g1, g2, g3⟩ := h.lst (ys := xa ++ [v]) h.ha (.inr (.inr (.inr rfl)))
  exact ⟨⟨g3.trans h.ob, (upd_ne h.n3).trans h.ho, h.nd, h.pl, (upd_ne h.n5).trans h.hl, RepDs.imm im _ _ (noList_lets _) h.rl, (upd_ne h.n6).trans h.he, EvVs.imm im h.re, upd_same, AnsL.snoc (hv.out out im) (h.ra.out out im), g1, g2, h.n1, h.n2, h.n3, h.n4, h.n5, h.n6⟩, out⟩
theorem CrsX.imm (h : CrsX K C CC H A c xl xe xa) (o : Out A H H') : Imm H H' := by
  have no : ∀ b x, H b = some x → (∀ ys, x ≠ .lst ys) → (∀ C dx fs, x ≠ .ins C dx fs) → ¬ A.own b := fun b x hb n1 n2 z => by
    rcases z with z | z | z | z
    · obtain ⟨u, _, o⟩ := h.ofM z
      obtain ⟨dx, fs, e, l⟩ := o.ins
      rw [hb] at e
      exact n2 _ _ _ (Option.some.inj e)
    · rw [z, h.hl] at hb; exact n1 _ (Option.some.inj hb).symm
    · rw [z, h.he] at hb; exact n1 _ (Option.some.inj hb).symm
    · rw [z, h.ha] at hb; exact n1 _ (Option.some.inj hb).symm
  exact ⟨fun b xs hb => o b _ hb (no b _ hb (fun _ z => by cases z) (fun _ _ _ z => by cases z)), fun b u v hb => o b _ hb (no b _ hb (fun _ z => by cases z) (fun _ _ _ z => by cases z))⟩
end
theorem extM {X : Cx} : MtR X "list.extend" rExtend := mt_extend
/-- a deed of modest size ahead -/
structure Mod (n k : Nat) (c : Crs) : Prop where
  wd : Wd n c
  n1 : n ≤ 1000
  kl : c.lets.length ≤ k
  ke : c.evs.length ≤ 1000 * k
  ka : c.ans.length ≤ k
end Of

section
set_option Elab.async false
set_option linter.all false
set_option maxRecDepth 100000
set_option maxHeartbeats 4000000
seal L2.PE L2.PT L2.PW L2.PA L2.PS L2.PSs L2.PG L2.PGs L2.PI L3.PTs L2.PO L2.CallR L2.OpR L2.IxR L2.MtR L2.PSet L2.SlR
namespace Of
open PySem L2 L3 L4 L6
/-- the course's class -/
structure CTx (K : PySem.W.Frag) (mg : Str → Option Value) (CC : Addr) : Prop where
  cl : Cls K CC
  nO : NoAttr K CC "offices"
  nL : NoAttr K CC "letters"
  nV : NoAttr K CC "events"
  nA : NoAttr K CC "answers"
  course : mg "Course" = some (.ref CC)
section
variable {lo ll le la : Addr}
theorem at_offices : (cfl lo ll le la).lookup ("offices" : Str) = some (V.ref lo) := by kernel_rfl
theorem at_letters : (cfl lo ll le la).lookup ("letters" : Str) = some (V.ref ll) := by kernel_rfl
theorem at_events : (cfl lo ll le la).lookup ("events" : Str) = some (V.ref le) := by kernel_rfl
theorem at_answers : (cfl lo ll le la).lookup ("answers" : Str) = some (V.ref la) := by kernel_rfl
theorem no_m1 : (cfl lo ll le la).lookup ("letter_sent" : Str) = none := by kernel_rfl
theorem no_m2 : (cfl lo ll le la).lookup ("letters_brought" : Str) = none := by kernel_rfl
theorem no_m3 : (cfl lo ll le la).lookup ("letter_carried" : Str) = none := by kernel_rfl
theorem no_m4 : (cfl lo ll le la).lookup ("answer_to" : Str) = none := by kernel_rfl
theorem no_m5 : (cfl lo ll le la).lookup ("do" : Str) = none := by kernel_rfl
end
/-- what a deed promises of the course -/
def After (K : PySem.W.Frag) (C CC : Addr) (H : Hp) (A : Adr) (xa : List V) (r : Ans × Crs) (Q : VK) : Prop :=
  ∀ (v : V) (H' : Hp) (xl xe : List V), CrsX K C CC H' A r.2 xl xe xa → AnsV K H' A r.1 v → Out A H H' → Q v H'
def spCSent (K : PySem.W.Frag) (C CC : Addr) : Sp := fun vs H Q _ => ∃ (A : Adr) (c : Crs) (xl xe xa : List V) (n k u : Nat) (cw : Addr) (x : What), vs = [.ref A.q, .int u, .ref cw] ∧ CrsX K C CC H A c xl xe xa ∧ WhatAt K H cw x ∧ Mod n k c ∧ k ≤ 200 ∧ u < n ∧ After K C CC H A xa (sendC c u x) Q
def spCBring (K : PySem.W.Frag) (C CC : Addr) : Sp := fun vs H Q _ => ∃ (A : Adr) (c : Crs) (xl xe xa : List V) (n k t : Nat) (b : Addr) (ls : List Let) (xs : List V), vs = [.ref A.q, .int t, .ref b] ∧ CrsX K C CC H A c xl xe xa ∧ SqL K H b xs ∧ RepDs K H (ls.map letD) xs ∧ (∀ l ∈ ls, l ∈ c.lets) ∧ ls.length ≤ 200 ∧ Mod n k c ∧ k ≤ 200 ∧ t < n ∧ After K C CC H A xa (bringC c t ls) Q
theorem Mod.off {n k u : Nat} {c : Crs} (h : Mod n k c) (hu : u < n) : (c.off u).num = (u : Int) ∧ (c.off u).clock.length = n ∧ (c.off u).book.length ≤ k ∧ (c.off u).kept.length ≤ k ∧ (c.off u).book.length + (c.off u).tray.length ≤ k ∧ (c.off u).kept.length + (c.off u).tray.length ≤ k ∧ ∀ l ∈ (c.off u).tray, Fit n l := by
  have o := h.wd.of u hu
  obtain ⟨h1, h2, h3, h4, h5, h6, h7⟩ := o.sizes h.wd.ml
  have := h.kl
  exact ⟨o.num, h1, by omega, by omega, by omega, by omega, h7⟩
theorem CrsX.at_ {K : PySem.W.Frag} {C CC : Addr} {H : Hp} {A : Adr} {c : Crs} {xl xe xa : List V} {n u : Nat} (h : CrsX K C CC H A c xl xe xa) (W : Wd n c) (hu : u < n) : ∃ p, A.ps[u]? = some p ∧ (A.ps.map V.ref)[u]? = some (.ref p) ∧ OffAt K C H p (c.off u) := by
  have hl : u < A.ps.length := by rw [h.pl, W.ln]; exact hu
  exact ⟨A.ps[u], List.getElem?_eq_getElem hl, by rw [List.getElem?_map, List.getElem?_eq_getElem hl]; rfl, h.of u _ (List.getElem?_eq_getElem hl)⟩
def cutH (H : Hp) (q : Addr) : Hp := fun b => if b = q then none else H b
theorem cut_ne {H : Hp} {q b : Addr} (h : b ≠ q) : cutH H q b = H b := if_neg h
theorem cut_eq {H : Hp} {q : Addr} : cutH H q q = none := if_pos rfl
theorem cut_same {H : Hp} {q b : Addr} {o : HO} (h : cutH H q b = some o) : H b = some o := by
  unfold cutH at h
  split at h
  · cases h
  · exact h
theorem ans_cut {K : PySem.W.Frag} {H : Hp} {q q' : Addr} (im : Imm H (cutH H q)) : ∀ {an : List (List Let)} {ys : List V}, (∀ b, V.ref b ∈ ys → b ≠ q) → AnsAt K H q' an ys → AnsAt K (cutH H q) q' an ys
  | [], _, _, h => h
  | ns :: an, ys, hf, h => by
    obtain ⟨b, xs, r, rfl, hb, h1, h2, h3⟩ := h
    exact ⟨b, xs, r, rfl, hb, by rw [cut_ne (hf b List.mem_cons_self)]; exact h1, NmVs.imm im h2, ans_cut im (fun b' hb' => hf b' (List.mem_cons_of_mem _ hb')) h3⟩
theorem ans_get {K : PySem.W.Frag} {H : Hp} {q : Addr} : ∀ {an : List (List Let)} {ys : List V} {i : Nat} {ns : List Let}, AnsAt K H q an ys → an[i]? = some ns → ∃ b xs, ys[i]? = some (.ref b) ∧ b ≠ q ∧ H b = some (.lst xs) ∧ All2 (NmV H) ns xs
  | [], ys, i, ns, h, e => by simp at e
  | m :: an, ys, 0, ns, h, e => by
    obtain ⟨b, xs, r, rfl, hb, h1, h2, h3⟩ := h
    have : m = ns := by simpa using e
    subst this
    exact ⟨b, xs, rfl, hb, h1, h2⟩
  | m :: an, ys, i + 1, ns, h, e => by
    obtain ⟨b, xs, r, rfl, hb, h1, h2, h3⟩ := h
    obtain ⟨b', xs', g1, g2⟩ := ans_get (i := i) h3 (by simpa using e)
    exact ⟨b', xs', by simpa using g1, g2⟩
section
variable {P : Program} {w : World} {K : PySem.W.Frag} {mg : Str → Option Value} {base : Heap} {C CC fN fT fC fR fF fO fSn fTb fM1 fM2 : Addr}
theorem oCs : ownB ["self", "who", "what", "letter", "name"] (defScope cSent) = true := by decide +kernel
theorem scCs : FnScope ["self", "who", "what", "letter", "name"] ["self", "who", "what"] (defScope cSent) := ⟨rfl, rfl, rfl, by decide +kernel, rfl, by decide +kernel, by decide +kernel⟩
theorem ok_csent {f fS : Addr} {fd fdS fdN : FuncData} (F : Fun K "letter_sent" "Course.letter_sent" cSent f fd) (T : Txt K mg C fN fT fC fR fF fO) (CT : CTx K mg CC)
    (mS : mg "sent_or_none" = some (.ref fS)) (FS : Fun K "sent_or_none" "sent_or_none" sSentOr fS fdS) (bS : Binds K fdS ["office", "what"] []) (GS : FnOk P w K mg base CX0 5 fS fdS ["office", "what"] (spSentOr K C))
    (FN : Fun K "name_of" "name_of" sName fN fdN) (bN : Binds K fdN ["letter"] []) : FnOk P w K mg base CX0 6 f fd ["self", "who", "what"] (spCSent K C CC) := by
  have GN : FnOk P w K mg base CX0 1 fN fdN ["letter"] (spName K) := ok_name FN
  refine okB (body := [stm cSent 0, stm cSent 1, stm cSent 2, stm cSent 3, stm cSent 4, stm cSent 5]) F scCs (fun vs H Q E h => ?_) (by kernel_rfl) (fun cdv A' outer s0 H vs Q E hr h => ?_)
  · obtain ⟨A, c, xl, xe, xa, n, k, u, cw, x, rfl, _⟩ := h
    rfl
  · obtain ⟨A, c, xl, xe, xa, n, k, u, cw, x, rfl, X, W, M, hk, hu, fin⟩ := h
    have hr5 := hr.mono (by decide : 5 ≤ 5)
    have hr1 := hr.mono (by decide : 1 ≤ 5)
    obtain ⟨p, hp, hpv, O⟩ := X.at_ M.wd hu
    obtain ⟨s1, s2, s3, s4, s5, s6, s7⟩ := M.off hu
    refine ⟨_, (pss_cons (oS oCs 3 (cF GS hr5 mS FS.kp bS .nil pass0 (aC (iX (ixL K) (pe_fld (oV oCs 0) rfl) (oV oCs 1)) (aC (oV oCs 2) pa_nil))))
      (pss_cons (ps_if (pt_cmpR op_isN (oV oCs 3) pe_non (nomark _))
        (pss_one (ps_ret pe_non))
        pss_nil)
      (pss_cons (oS oCs 4 (cF GN hr1 T.name_of FN.kp bN .nil pass0 (aC (oV oCs 3) pa_nil)))
      (pss_cons (ps_expr (mApp (pe_fld (oV oCs 0) rfl) (oV oCs 3)))
      (pss_cons (ps_expr (mApp (pe_fld (oV oCs 0) rfl) (pe_tup (aC pe_str (aC (oV oCs 1) (aC (oV oCs 4) pa_nil))))))
      (pss_one (ps_ret (oV oCs 4)))))))), ?_⟩
    refine cut6 ?_
    intro rr5 rr4 rr3 rr2 rr1
    refine ⟨_, rfl, A.q, CC, A.dx, _, _, rfl, X.ob, CT.cl, CT.nO, at_offices, _, rfl, A.lo, _, (u : Int), .ref p, rfl, rfl, SqL.of X.ho, atI_nat hpv, _, rfl, p, cw, u, n, c.off u, x, rfl, O, W, ⟨s1, hu, s2, M.n1, by omega, by omega⟩, fun hc la H1 O1 L1 x1 => ?_, fun hc => ?_⟩
    · have e : sendC c u x = (.name (sentL (c.off u) u x), { c with offs := c.offs.set u (sentO (payO (c.off u) x) u x), lets := c.lets ++ [sentL (c.off u) u x], evs := c.evs ++ [⟨true, u, sentL (c.off u) u x⟩] }) := by
        unfold sendC sent1
        rw [if_pos hc]
      rw [e] at fin
      have hfit : (sentL (c.off u) u x).s < (sentL (c.off u) u x).st.length := by show u < (inc _ _).length; unfold inc; rw [List.length_set, s2]; exact hu
      generalize sentL (c.off u) u x = l at fin L1 hfit
      generalize sentO (payO (c.off u) x) u x = o' at fin O1
      obtain ⟨X1, o1⟩ := X.office hp x1 O1
      refine ⟨_, rfl, rfl, _, rfl, iteF ?_⟩
      refine ⟨_, rfl, la, l, rfl, L1, hfit, fun pn nn => ?_⟩
      have sn := same_new (o := .tup [.int l.s, .int (nameN l)]) nn
      have X2 := X1.same sn
      have hnm : (upd H1 pn (.tup [.int l.s, .int (nameN l)])) pn = some (.tup [.int l.s, .int (nameN l)]) := upd_same
      have o2 : Out A H (upd H1 pn (.tup [.int l.s, .int (nameN l)])) := o1.trans (out_same sn)
      have L2 := L1.imm sn.imm
      generalize upd H1 pn (.tup [.int l.s, .int (nameN l)]) = H2 at X2 hnm o2 L2
      have kl := reps_len X2.rl
      have ke := X2.re.len
      rw [List.length_map] at kl
      have kl : xl.length = c.lets.length := kl
      have ke : xe.length = c.evs.length := ke
      have := M.kl
      have := M.ke
      refine ⟨_, rfl, A.q, CC, A.dx, _, _, rfl, X2.ob, CT.cl, CT.nL, at_letters, .inl ⟨rfl, _, SqL.of X2.hl⟩, _, rfl, A.ll, xl, .ref la, rfl, rfl, X2.hl, Nat.lt_of_le_of_lt (show xl.length ≤ 1000000 by omega) (by decide), ?_⟩
      obtain ⟨X3, o3⟩ := X2.letter (letAt_iff.mpr ⟨la, rfl, L2⟩)
      have im3 := X2.imm o3
      have hnm3 := im3.tup _ _ hnm
      have o3 := o2.trans o3
      generalize upd H2 A.ll (.lst (xl ++ [.ref la])) = H3 at X3 o3 hnm3
      refine ⟨_, rfl, A.q, CC, A.dx, _, _, rfl, X3.ob, CT.cl, CT.nV, at_events, .inl ⟨rfl, _, SqL.of X3.he⟩, _, rfl, _, rfl, len3, fun pe npe => ?_⟩
      have s4 := same_new (o := .tup [.str "sent", .int u, .ref pn]) npe
      have X4 := X3.same s4
      have hev : EvV (upd H3 pe (.tup [.str "sent", .int u, .ref pn])) ⟨true, u, l⟩ (.ref pe) := ⟨pe, pn, rfl, upd_same, s4 _ _ hnm3⟩
      refine ⟨A.le, xe, .ref pe, rfl, rfl, X4.he, Nat.lt_of_le_of_lt (show xe.length ≤ 1000000 by omega) (by decide), ?_⟩
      obtain ⟨X5, o5⟩ := X4.events (es := [⟨true, u, l⟩]) (vs := [.ref pe]) (All2.one hev)
      have hnm5 := (X4.imm o5).tup _ _ (s4 _ _ hnm3)
      exact ⟨_, rfl, fin _ _ _ _ X5 ⟨pn, rfl, hnm5⟩ ((o3.trans (out_same s4)).trans o5)⟩
    · have e : sendC c u x = (.no, c) := by
        unfold sendC sent1
        rw [if_neg (by rw [hc]; decide)]
      rw [e] at fin
      exact ⟨_, rfl, rfl, _, rfl, iteT (fin _ _ _ _ X rfl Out.refl)⟩
theorem oCb : ownB ["self", "to", "letters", "names", "answer"] (defScope cBring) = true := by decide +kernel
theorem scCb : FnScope ["self", "to", "letters", "names", "answer"] ["self", "to", "letters"] (defScope cBring) := ⟨rfl, rfl, rfl, by decide +kernel, rfl, by decide +kernel, by decide +kernel⟩
theorem ok_cbring {f fT' : Addr} {fd fdT : FuncData} (F : Fun K "letters_brought" "Course.letters_brought" cBring f fd) (CT : CTx K mg CC)
    (mT : mg "taken_by" = some (.ref fT')) (FT : Fun K "taken_by" "taken_by" sTaken fT' fdT) (bT : Binds K fdT ["office", "letters"] []) (GT : FnOk P w K mg base CX0 5 fT' fdT ["office", "letters"] (spTaken K C)) : FnOk P w K mg base CX0 6 f fd ["self", "to", "letters"] (spCBring K C CC) := by
  refine okB (body := [stm cBring 0, stm cBring 1, stm cBring 2, stm cBring 3]) F scCb (fun vs H Q E h => ?_) (by kernel_rfl) (fun cdv A' outer s0 H vs Q E hr h => ?_)
  · obtain ⟨A, c, xl, xe, xa, n, k, t, b, ls, xs, rfl, _⟩ := h
    rfl
  · obtain ⟨A, c, xl, xe, xa, n, k, t, b, ls, xs, rfl, X, hb, hxs, hin, hls, M, hk, ht, fin⟩ := h
    have hr5 := hr.mono (by decide : 5 ≤ 5)
    refine ⟨_, (pss_cons (oS oCb 3 (pe_lst pa_nil))
      (pss_cons (ps_for PassesOwn.never rfl (pi_list (cF GT hr5 mT FT.kp bT .nil pass0 (aC (iX (ixL K) (pe_fld (oV oCb 0) rfl) (oV oCb 1)) (aC (oV oCb 2) pa_nil)))) (oT oCb 4)
        (pss_one (ps_expr (bM PySem.F.plainAttrs_list PySem.F.slot_list_extend PySem.F.type_list_extend extM (oV oCb 3) (aC (oV oCb 4) pa_nil)))))
      (pss_cons (ps_expr (bM PySem.F.plainAttrs_list PySem.F.slot_list_extend PySem.F.type_list_extend extM (pe_fld (oV oCb 0) rfl) (aC (eC [1] ["to"] rfl (pi_list (oV oCb 3)) (fun _ _ _ _ _ => pts_nil) (fun _ _ _ _ _ => (pe_tup (aC pe_str (aC (sV 1) (aC (sV 0) pa_nil)))))) pa_nil)))
      (pss_one (ps_ret (oV oCb 3)))))), ?_⟩
    refine cut4 ?_
    intro rr3 rr2 rr1
    refine ⟨len0, fun q nq => ?_⟩
    have sq := same_new (o := .lst []) nq
    have X1 := X.same sq
    have nown := X.fresh nq
    have hb1 := sq.seq hb
    have hxs1 := RepDs.same sq _ _ hxs
    have o1 : Out A H (upd H q (.lst [])) := out_same sq
    have hq1 : (upd H q (.lst [])) q = some (.lst []) := upd_same
    generalize eH1 : upd H q (.lst []) = H1 at X1 hb1 hxs1 o1 hq1
    replace eH1 := eH1.symm
    obtain ⟨p, hp, hpv, O⟩ := X1.at_ M.wd ht
    obtain ⟨s1, s2, s3, s4, s5, s6, s7⟩ := M.off ht
    have hkl := M.kl
    refine ⟨_, rfl, A.q, CC, A.dx, _, _, rfl, X1.ob, CT.cl, CT.nO, at_offices, _, rfl, A.lo, _, (t : Int), .ref p, rfl, rfl, SqL.of X1.ho, atI_nat hpv, _, rfl, p, b, n, c.off t, ls, xs, rfl, O, hb1, hxs1, fun l hl => M.wd.ml.fit l (hin l hl), s2, M.n1, s7, by omega, by omega, fun qa ys H2 O2 nqa hqa ha hfr nrq x2 => ?_⟩
    have hWb := M.wd.bring (ls := ls) ht hin
    have hG : (tookAll (c.off t) ls).1.flatten.length ≤ 200 := by
      have h1 := ((hWb.of t ht).sizes hWb.ml).2.1
      have h2 : (bringC c t ls).2.off t = (tookAll (c.off t) ls).2 := by
        show (c.offs.set t _).getD t noOff = _
        rw [off_set (by rw [M.wd.ln]; exact ht), if_pos rfl]
      rw [h2, (tookAll_book ls (c.off t)).1] at h1
      have h1 : _ ≤ c.lets.length := h1
      omega
    have hp0 : H p = H1 p := by
      by_cases e : p = q
      · have := (X.at_ M.wd ht)
        obtain ⟨p', g1, g2, g3⟩ := this
        rw [hp] at g1
        cases g1
        obtain ⟨dx, fs, g4, _⟩ := g3.ins
        rw [e, nq] at g4; cases g4
      · rw [eH1, upd_ne e]
    have npq : p ≠ q := fun e => by
      rw [e, nq, hq1] at hp0; cases hp0
    have nrf : ¬ Refs (H1 p) q := fun z => by
      rw [← hp0] at z
      obtain ⟨p', g1, g2, g3⟩ := X.at_ M.wd ht
      rw [hp] at g1
      cases g1
      obtain ⟨dx0, cl0, lb0, lt0, lk0, bs0, ts0, ks0, X0⟩ := g3.x
      rw [X0.ob, refs_flds] at z
      rcases z with z | z | z
      · rw [z, X0.hb] at nq; cases nq
      · rw [z, X0.ht] at nq; cases nq
      · rw [z, X0.hk] at nq; cases nq
    obtain ⟨dx2, fs2, e2, _⟩ := O2.ins
    obtain ⟨dx1, fs1, e1, _⟩ := O.ins
    have hq2 : H2 q = some (.lst []) := x2.lst e1 hq1
    have xc : SameX p H (cutH H2 q) := by
      refine ⟨fun b' o hb' nb' => ?_, fun b' hb' => ?_, ⟨_, hp0.trans e1⟩⟩
      · have hbq : b' ≠ q := fun e => by rw [e, nq] at hb'; cases hb'
        rw [cut_ne hbq]
        refine x2.keep b' o ?_ nb'
        rw [eH1, upd_ne hbq]; exact hb'
      · rw [cut_ne npq] at hb'
        rcases x2.refs b' hb' with z | z
        · left; rw [hp0]; exact z
        · right
          by_cases e : b' = q
          · rw [e, hq1] at z; cases z
          · rw [eH1, upd_ne e] at z; exact z
    have imc : Imm H2 (cutH H2 q) := ⟨fun b' xs' hb' => by rw [cut_ne (fun e => by rw [e, hq2] at hb'; cases hb')]; exact hb', fun b' u' v' hb' => by rw [cut_ne (fun e => by rw [e, hq2] at hb'; cases hb')]; exact hb'⟩
    have Oc : OffAt K C (cutH H2 q) p (tookAll (c.off t) ls).2 := O2.keep imc (fun u' hu' => by rw [cut_ne npq]; exact hu') fun b' xs' hr' hb' => by
      rw [cut_ne (fun e => by rw [e] at hr'; rcases x2.refs q hr' with z | z
                              · exact nrf z
                              · rw [hq1] at z; cases z)]
      exact hb'
    obtain ⟨Xc, oc⟩ := X.office hp xc Oc
    have nqaq : qa ≠ q := fun e => by rw [e, hq1] at nqa; cases nqa
    have hqac : (cutH H2 q) qa = some (.lst ys) := by rw [cut_ne nqaq]; exact hqa
    have hac : AnsAt K (cutH H2 q) qa (tookAll (c.off t) ls).1 ys := ans_cut imc (fun b' hb' e => by have := hfr b' hb'; rw [e, hq1] at this; cases this) ha
    have hlen := ha.len
    have hq2' := hq2
    generalize hcut : cutH H2 q = Hk at xc imc Oc Xc oc hqac hac
    have nkq : Hk q = none := by rw [← hcut]; exact cut_eq
    have sk : Same Hk H2 := fun b' o hb' => by rw [← hcut] at hb'; exact cut_same hb'
    clear hcut
    generalize hfl : (tookAll (c.off t) ls).1 = found at ha hac hG hlen
    have hfin : After K C CC H A xa (.names found.flatten, { c with offs := c.offs.set t (tookAll (c.off t) ls).2, evs := c.evs ++ found.flatten.map fun l => ⟨false, t, l⟩ }) Q := by
      rw [← hfl]; exact fin
    clear fin
    generalize (tookAll (c.off t) ls).2 = o' at Xc hfin
    refine ⟨_, rfl, ⟨_, SqL.of hqa⟩, for_list (K := K) (a := qa) (xs := ys) (fun i σ Hc => ∃ (v : Option V) (zs : List V), σ = [some (.ref A.q), some (.int t), some (.ref b), some (.ref q), v] ∧ Same Hk Hc ∧ Hc q = some (.lst zs) ∧ All2 (NmV Hc) (found.take i).flatten zs)
      ⟨none, [], rfl, sk, hq2, rfl⟩ (fun i σ Hc _ ⟨v, zs, _, e, _⟩ => SqL.of (e _ _ hqac)) ?_ ?_⟩
    · rintro i y σ Hc hi ⟨v, zs, rfl, e, hqc, hzs⟩
      have hi' : i < found.length := by have := (List.getElem?_eq_some_iff.mp hi).1; omega
      obtain ⟨b1, us, g1, g2, g3, g4⟩ := ans_get hac (List.getElem?_eq_getElem hi')
      rw [hi] at g1
      cases g1
      have etk : (found.take (i + 1)).flatten = (found.take i).flatten ++ found[i] := by rw [take_snoc (List.getElem?_eq_getElem hi'), List.flatten_append, List.flatten_cons, List.flatten_nil, List.append_nil]
      have hl1 : ((found.take (i + 1)).flatten).length ≤ 200 := by
        refine Nat.le_trans ?_ hG
        conv => rhs; rw [← List.take_append_drop (i + 1) found, List.flatten_append, List.length_append]
        omega
      rw [etk, List.length_append] at hl1
      rw [etk]
      generalize found[i] = ns at g4 hl1 ⊢
      generalize (found.take i).flatten = pre at hzs hl1 ⊢
      have z1 := hzs.len
      have z2 := g4.len
      refine ⟨_, rfl, .inl ⟨rfl, _, SqL.of hqc⟩, _, rfl, q, b1, zs, us, rfl, rfl, hqc, e _ _ g3, big _ (by omega), _, zs ++ us, rfl, same_upd e nkq, upd_same, ?_⟩
      exact NmVs.imm (imm_lst hqc) (hzs.append (NmVs.imm e.imm g4))
    · rintro σ Hn ⟨v, zs, rfl, en, hqn, hzs⟩
      rw [hlen, List.take_length] at hzs
      have Xn := Xc.same en
      have on : Out A H Hn := oc.trans (out_same en)
      generalize found.flatten = G at hzs hG hfin
      have zl := hzs.len
      refine ⟨_, rfl, A.q, CC, A.dx, _, _, rfl, Xn.ob, CT.cl, CT.nV, at_events, .inl ⟨rfl, _, SqL.of Xn.he⟩, _, rfl, q, rfl, ⟨_, SqL.of hqn⟩, comp_list (xs := zs) (fun D j us H3 => Same Hn H3 ∧ H3 D = some (.lst us) ∧ All2 (EvV H3) ((G.take j).map fun l => ⟨false, t, l⟩) us)
        (fun D hD => ⟨same_new hD, upd_same, rfl⟩) (fun D j us H3 hD hj h => ⟨h.2.1, SqL.of (h.1 _ _ hqn)⟩) (fun D j x us H3 hD hj ⟨f1, f2, f3⟩ => ?_) (fun D us H3 hD ⟨f1, f2, f3⟩ => ?_)⟩
      · have hj' : j < G.length := by have := (List.getElem?_eq_some_iff.mp hj).1; omega
        obtain ⟨x', hx', bn, rfl, rx⟩ := hzs.get (i := j) (List.getElem?_eq_getElem hj')
        rw [hj] at hx'
        cases hx'
        have ul := f3.len
        rw [List.length_map, List.length_take] at ul
        refine ⟨_, rfl, _, rfl, len3, fun pt nt => ?_⟩
        have s1 := same_new (o := .tup [.str "got", .int t, .ref bn]) nt
        have hD1 := s1 _ _ f2
        refine ⟨hD1, small1000 (by omega), same_upd (f1.trans s1) hD, upd_same, ?_⟩
        have i1 := imm_lst (ys := us ++ [.ref pt]) hD1
        rw [List.take_succ, List.getElem?_eq_getElem hj', Option.toList_some, List.map_append]
        refine EvVs.imm i1 ((EvVs.imm s1.imm f3).append (All2.one ⟨pt, bn, rfl, upd_same, (f1.trans s1) _ _ rx⟩))
      · rw [zl, List.take_length] at f3
        have ul := f3.len
        rw [List.length_map] at ul
        have X3 := Xn.same f1
        have xel := X3.re.len
        have xel : xe.length = c.evs.length := xel
        have := M.ke
        refine ⟨A.le, D, xe, us, rfl, rfl, X3.he, f2, big _ (by omega), ?_⟩
        obtain ⟨X4, o4⟩ := X3.events (es := G.map fun l => ⟨false, t, l⟩) (vs := us) f3
        have im4 := X3.imm o4
        have hqown : ¬ A.own q := nown
        exact ⟨_, rfl, hfin _ _ _ _ X4 ⟨q, zs, rfl, hqown, o4 _ _ (f1 _ _ hqn) hqown, NmVs.imm im4 (NmVs.imm f1.imm hzs)⟩ ((on.trans (out_same f1)).trans o4)⟩
end
end Of

end

section
set_option Elab.async false
set_option linter.all false
set_option maxRecDepth 100000
set_option maxHeartbeats 4000000
seal L2.PE L2.PT L2.PW L2.PA L2.PS L2.PSs L2.PG L2.PGs L2.PI L3.PTs L2.PO L2.CallR L2.OpR L2.IxR L2.MtR L2.PSet L2.SlR
namespace Of
open PySem L2 L3 L4 L6
def DeedAt (K : PySem.W.Frag) (H : Hp) (b : Addr) : Deed → Prop
  | .pay w t m => SqT K H b [.str "pay", .int w, .int t, .int m]
  | .cut w => SqT K H b [.str "cut", .int w]
  | .carry k t => SqT K H b [.str "carry", .int k, .int t]
  | .bring t => SqT K H b [.str "bring", .int t]
theorem deedAt_iff {K : PySem.W.Frag} {H : Hp} {d : Deed} {v : V} : RepD K H (deedD d) v ↔ ∃ b, v = .ref b ∧ DeedAt K H b d := by
  cases d with
  | pay u t m =>
    simp only [deedD, RepD, RepDs]
    constructor
    · rintro ⟨c, zs, rfl, h, y1, q1, rfl, rfl, y2, q2, rfl, rfl, y3, q3, rfl, rfl, y4, q4, rfl, rfl, rfl⟩
      exact ⟨c, rfl, h⟩
    · rintro ⟨c, rfl, h⟩
      exact ⟨c, _, rfl, h, _, _, rfl, rfl, _, _, rfl, rfl, _, _, rfl, rfl, _, _, rfl, rfl, rfl⟩
  | carry u t =>
    simp only [deedD, RepD, RepDs]
    constructor
    · rintro ⟨c, zs, rfl, h, y1, q1, rfl, rfl, y2, q2, rfl, rfl, y3, q3, rfl, rfl, rfl⟩
      exact ⟨c, rfl, h⟩
    · rintro ⟨c, rfl, h⟩
      exact ⟨c, _, rfl, h, _, _, rfl, rfl, _, _, rfl, rfl, _, _, rfl, rfl, rfl⟩
  | cut u =>
    simp only [deedD, RepD, RepDs]
    constructor
    · rintro ⟨c, zs, rfl, h, y1, q1, rfl, rfl, y2, q2, rfl, rfl, rfl⟩
      exact ⟨c, rfl, h⟩
    · rintro ⟨c, rfl, h⟩
      exact ⟨c, _, rfl, h, _, _, rfl, rfl, _, _, rfl, rfl, rfl⟩
  | bring u =>
    simp only [deedD, RepD, RepDs]
    constructor
    · rintro ⟨c, zs, rfl, h, y1, q1, rfl, rfl, y2, q2, rfl, rfl, rfl⟩
      exact ⟨c, rfl, h⟩
    · rintro ⟨c, rfl, h⟩
      exact ⟨c, _, rfl, h, _, _, rfl, rfl, _, _, rfl, rfl, rfl⟩
theorem noList_deeds : ∀ ds : List Deed, noLists (ds.map deedD) = true
  | [] => rfl
  | d :: ds => by
    have : noList (deedD d) = true := by cases d <;> rfl
    simp only [List.map_cons, noLists, this, Bool.true_and]; exact noList_deeds ds
theorem reps_rev {K : PySem.W.Frag} {H : Hp} : ∀ {ds : List PyData} {xs : List V}, RepDs K H ds xs → RepDs K H ds.reverse xs.reverse
  | [], xs, h => by
    have : xs = [] := by simpa only [RepDs] using h
    subst this; simpa only [List.reverse_nil] using h
  | d :: ds, xs, h => by
    obtain ⟨x, r, rfl, a, b⟩ : ∃ x r, xs = x :: r ∧ RepD K H d x ∧ RepDs K H ds r := by simpa only [RepDs] using h
    rw [List.reverse_cons, List.reverse_cons]
    exact reps_append (reps_rev b) (reps_one a)
def spCCarry (K : PySem.W.Frag) (C CC : Addr) : Sp := fun vs H Q _ => ∃ (A : Adr) (c : Crs) (xl xe xa : List V) (n k t : Nat) (i : Int), vs = [.ref A.q, .int i, .int t] ∧ CrsX K C CC H A c xl xe xa ∧ Mod n k c ∧ k ≤ 200 ∧ t < n ∧ After K C CC H A xa (answer c (.carry i t)) Q
def spCAns (K : PySem.W.Frag) (C CC : Addr) : Sp := fun vs H Q _ => ∃ (A : Adr) (c : Crs) (xl xe xa : List V) (n k : Nat) (b : Addr) (d : Deed), vs = [.ref A.q, .ref b] ∧ CrsX K C CC H A c xl xe xa ∧ DeedAt K H b d ∧ okDeed n d ∧ Mod n k c ∧ k ≤ 200 ∧ After K C CC H A xa (answer c d) Q
def spCDo (K : PySem.W.Frag) (C CC : Addr) : Sp := fun vs H Q _ => ∃ (A : Adr) (c : Crs) (xl xe xa : List V) (n k : Nat) (b : Addr) (d : Deed), vs = [.ref A.q, .ref b] ∧ CrsX K C CC H A c xl xe xa ∧ DeedAt K H b d ∧ okDeed n d ∧ Mod n k c ∧ k ≤ 200 ∧
  ∀ (H' : Hp) (xl xe xa : List V), CrsX K C CC H' A (doC c d) xl xe xa → Out A H H' → Q .non H'
section
variable {P : Program} {w : World} {K : PySem.W.Frag} {mg : Str → Option Value} {base : Heap} {C CC : Addr}
theorem oCc : ownB ["self", "which", "to"] (defScope cCarr) = true := by decide +kernel
theorem scCc : FnScope ["self", "which", "to"] ["self", "which", "to"] (defScope cCarr) := ⟨rfl, rfl, rfl, by decide +kernel, rfl, by decide +kernel, by decide +kernel⟩
theorem ok_ccarry {f fB : Addr} {fd fdB : FuncData} (F : Fun K "letter_carried" "Course.letter_carried" cCarr f fd) (CT : CTx K mg CC) (hlen : mg "len" = none)
    (bB : Binds K fdB ["self", "to", "letters"] []) (mB : Meth K CC "letters_brought" fB) (GB : FnOk P w K mg base CX0 6 fB fdB ["self", "to", "letters"] (spCBring K C CC)) : FnOk P w K mg base CX0 7 f fd ["self", "which", "to"] (spCCarry K C CC) := by
  refine okB (body := [stm cCarr 0, stm cCarr 1]) F scCc (fun vs H Q E h => ?_) (by kernel_rfl) (fun cdv A' outer s0 H vs Q E hr h => ?_)
  · obtain ⟨A, c, xl, xe, xa, n, k, t, i, rfl, _⟩ := h
    rfl
  · obtain ⟨A, c, xl, xe, xa, n, k, t, i, rfl, X, M, hk, ht, fin⟩ := h
    have kl := reps_len X.rl
    rw [List.length_map] at kl
    refine ⟨_, (pss_cons (ps_if (pt_chain op_le op_lt pe_int (oV oCc 1) (cB (call_len_seq (X := _)) hlen PySem.boot_len (aC (pe_fld (oV oCc 0) rfl) pa_nil)))
        (pss_one (ps_ret (pe_meth (oV oCc 0) CT.cl mB GB hr bB .nil pass0 (aC (oV oCc 2) (aC (pe_lst (aC (iX (ixL K) (pe_fld (oV oCc 0) rfl) (oV oCc 1)) pa_nil)) pa_nil)))))
        pss_nil)
      (pss_one (ps_ret pe_non))), ?_⟩
    refine cut2 ?_
    intro rr1
    have no : carried c i = none → After K C CC H A xa (.no, c) Q := fun e => by
      have : answer c (.carry i t) = (.no, c) := by simp only [answer, e]
      rw [← this]; exact fin
    refine ⟨_, rfl, _, _, rfl, rfl, _, rfl, ite2 (fun h0 => ?_) (fun h0 => ?_)⟩
    · have h0 : 0 ≤ i := of_decide_eq_true h0
      refine ⟨_, rfl, A.q, CC, A.dx, _, _, rfl, X.ob, CT.cl, CT.nL, at_letters, A.ll, _, rfl, .inl (SqL.of X.hl), _, _, rfl, rfl, _, rfl, ite2 (fun h1 => ?_) (fun h1 => ?_)⟩
      · have h1 : i < (xl.length : Int) := of_decide_eq_true h1
        obtain ⟨j, rfl⟩ := Int.eq_ofNat_of_zero_le h0
        have hj : j < c.lets.length := by omega
        obtain ⟨x, hx, rx⟩ := reps_get X.rl (i := j) (d := letD c.lets[j]) (by rw [List.getElem?_map, List.getElem?_eq_getElem hj]; rfl)
        have ec : carried c (j : Int) = some c.lets[j] := by
          unfold carried
          rw [if_pos h0, Int.toNat_natCast, List.getElem?_eq_getElem hj]
        have ea : answer c (.carry j t) = bringC c t [c.lets[j]] := by simp only [answer, ec]
        rw [ea] at fin
        refine ⟨_, rfl, A.q, A.dx, _, rfl, X.ob, no_m2, _, rfl, _, rfl, A.q, CC, A.dx, _, _, rfl, X.ob, CT.cl, CT.nL, at_letters, _, rfl, A.ll, _, (j : Int), x, rfl, rfl, SqL.of X.hl, atI_nat hx, len1, fun pl npl => ?_⟩
        have s1 := same_new (o := .lst [x]) npl
        refine ⟨A, c, xl, xe, xa, n, k, t, pl, [c.lets[j]], [x], rfl, X.same s1, SqL.of upd_same, reps_one (RepD.same s1 _ _ rx), fun l hl => ?_, by show 1 ≤ 200; decide, M, hk, ht, fun v H' xl' xe' X' a' o' => fin v H' xl' xe' X' a' ((out_same s1).trans o')⟩
        have : l = c.lets[j] := by simpa using hl
        rw [this]; exact List.getElem_mem hj
      · have h1 : ¬ i < (xl.length : Int) := fun z => h1 (decide_eq_true z)
        refine no ?_ _ _ _ _ X rfl Out.refl
        unfold carried
        rw [if_pos h0]
        exact List.getElem?_eq_none (by omega)
    · have h0 : ¬ 0 ≤ i := fun z => h0 (decide_eq_true z)
      refine ⟨_, rfl, iteF (no ?_ _ _ _ _ X rfl Out.refl)⟩
      unfold carried
      rw [if_neg h0]
theorem oCa : ownB ["self", "deed"] (defScope cAns) = true := by decide +kernel
theorem scCa : FnScope ["self", "deed"] ["self", "deed"] (defScope cAns) := ⟨rfl, rfl, rfl, by decide +kernel, rfl, by decide +kernel, by decide +kernel⟩
theorem ok_cans {f fB fS fC : Addr} {fd fdB fdS fdC : FuncData} (F : Fun K "answer_to" "Course.answer_to" cAns f fd) (CT : CTx K mg CC)
    (bB : Binds K fdB ["self", "to", "letters"] []) (mB : Meth K CC "letters_brought" fB) (GB : FnOk P w K mg base CX0 6 fB fdB ["self", "to", "letters"] (spCBring K C CC))
    (bS : Binds K fdS ["self", "who", "what"] []) (mS : Meth K CC "letter_sent" fS) (GS : FnOk P w K mg base CX0 6 fS fdS ["self", "who", "what"] (spCSent K C CC))
    (bC : Binds K fdC ["self", "which", "to"] []) (mC : Meth K CC "letter_carried" fC) (GC : FnOk P w K mg base CX0 7 fC fdC ["self", "which", "to"] (spCCarry K C CC)) : FnOk P w K mg base CX0 8 f fd ["self", "deed"] (spCAns K C CC) := by
  refine okB (body := [stm cAns 0, stm cAns 1, stm cAns 2, stm cAns 3]) F scCa (fun vs H Q E h => ?_) (by kernel_rfl) (fun cdv A' outer s0 H vs Q E hr h => ?_)
  · obtain ⟨A, c, xl, xe, xa, n, k, b, d, rfl, _⟩ := h
    rfl
  · obtain ⟨A, c, xl, xe, xa, n, k, b, d, rfl, X, D, ok, M, hk, fin⟩ := h
    have hr6 := hr.mono (by decide : 6 ≤ 7)
    refine ⟨_, (pss_cons (ps_if (pt_cmpR op_eq (iX (ixT K) (oV oCa 1) pe_int) pe_str (nomark _))
        (pss_one (ps_ret (pe_meth (oV oCa 0) CT.cl mS GS hr6 bS .nil pass0 (aC (iX (ixT K) (oV oCa 1) pe_int) (aC (pe_tup (aC pe_str (aC (iX (ixT K) (oV oCa 1) pe_int) (aC (iX (ixT K) (oV oCa 1) pe_int) pa_nil)))) pa_nil)))))
        pss_nil)
      (pss_cons (ps_if (pt_cmpR op_eq (iX (ixT K) (oV oCa 1) pe_int) pe_str (nomark _))
        (pss_one (ps_ret (pe_meth (oV oCa 0) CT.cl mS GS hr6 bS .nil pass0 (aC (iX (ixT K) (oV oCa 1) pe_int) (aC (pe_tup (aC pe_str pa_nil)) pa_nil)))))
        pss_nil)
      (pss_cons (ps_if (pt_cmpR op_eq (iX (ixT K) (oV oCa 1) pe_int) pe_str (nomark _))
        (pss_one (ps_ret (pe_meth (oV oCa 0) CT.cl mC GC hr bC .nil pass0 (aC (iX (ixT K) (oV oCa 1) pe_int) (aC (iX (ixT K) (oV oCa 1) pe_int) pa_nil)))))
        pss_nil)
      (pss_one (ps_ret (pe_meth (oV oCa 0) CT.cl mB GB hr6 bB .nil pass0 (aC (iX (ixT K) (oV oCa 1) pe_int) (aC (L6.pe_rev (pe_fld (oV oCa 0) rfl) (pe_un un_neg pe_int)) pa_nil)))))))), ?_⟩
    refine cut4 ?_
    intro rr3 rr2 rr1
    cases d with
    | pay u t m =>
      have D : SqT K H b [.str "pay", .int u, .int t, .int m] := D
      refine ⟨_, rfl, b, _, 0, _, rfl, rfl, D, rfl, rfl, _, rfl, iteT ?_⟩
      refine ⟨_, rfl, A.q, A.dx, _, rfl, X.ob, no_m1, _, rfl, b, _, 1, _, rfl, rfl, D, rfl, _, rfl, b, _, 2, _, rfl, rfl, D, rfl, _, rfl, b, _, 3, _, rfl, rfl, D, rfl, len3, fun cw ncw => ?_⟩
      have s1 := same_new (o := .tup [.str "pay", .int t, .int m]) ncw
      exact ⟨A, c, xl, xe, xa, n, k, u, cw, .pay t m, rfl, X.same s1, (show SqT K _ cw _ from SqT.of upd_same), M, hk, ok.1, fun v H' xl' xe' X' a' o' => fin v H' xl' xe' X' a' ((out_same s1).trans o')⟩
    | cut u =>
      have D : SqT K H b [.str "cut", .int u] := D
      refine ⟨_, rfl, b, _, 0, _, rfl, rfl, D, rfl, rfl, _, rfl, ?_⟩
      rw [show decide (V.str "cut" = V.str "pay") = false by decide +kernel]
      refine iteF ⟨_, rfl, b, _, 0, _, rfl, rfl, D, rfl, rfl, _, rfl, iteT ?_⟩
      refine ⟨_, rfl, A.q, A.dx, _, rfl, X.ob, no_m1, _, rfl, b, _, 1, _, rfl, rfl, D, rfl, len1, fun cw ncw => ?_⟩
      have s1 := same_new (o := .tup [.str "cut"]) ncw
      exact ⟨A, c, xl, xe, xa, n, k, u, cw, .cut, rfl, X.same s1, (show SqT K _ cw _ from SqT.of upd_same), M, hk, ok, fun v H' xl' xe' X' a' o' => fin v H' xl' xe' X' a' ((out_same s1).trans o')⟩
    | carry i t =>
      have D : SqT K H b [.str "carry", .int i, .int t] := D
      refine ⟨_, rfl, b, _, 0, _, rfl, rfl, D, rfl, rfl, _, rfl, ?_⟩
      rw [show decide (V.str "carry" = V.str "pay") = false by decide +kernel]
      refine iteF ⟨_, rfl, b, _, 0, _, rfl, rfl, D, rfl, rfl, _, rfl, ?_⟩
      rw [show decide (V.str "carry" = V.str "cut") = false by decide +kernel]
      refine iteF ⟨_, rfl, b, _, 0, _, rfl, rfl, D, rfl, rfl, _, rfl, iteT ?_⟩
      exact ⟨_, rfl, A.q, A.dx, _, rfl, X.ob, no_m3, _, rfl, b, _, 1, _, rfl, rfl, D, rfl, _, rfl, b, _, 2, _, rfl, rfl, D, rfl, A, c, xl, xe, xa, n, k, t, i, rfl, X, M, hk, ok, fin⟩
    | bring t =>
      have D : SqT K H b [.str "bring", .int t] := D
      refine ⟨_, rfl, b, _, 0, _, rfl, rfl, D, rfl, rfl, _, rfl, ?_⟩
      rw [show decide (V.str "bring" = V.str "pay") = false by decide +kernel]
      refine iteF ⟨_, rfl, b, _, 0, _, rfl, rfl, D, rfl, rfl, _, rfl, ?_⟩
      rw [show decide (V.str "bring" = V.str "cut") = false by decide +kernel]
      refine iteF ⟨_, rfl, b, _, 0, _, rfl, rfl, D, rfl, rfl, _, rfl, ?_⟩
      rw [show decide (V.str "bring" = V.str "carry") = false by decide +kernel]
      refine iteF ⟨_, rfl, A.q, A.dx, _, rfl, X.ob, no_m2, _, rfl, b, _, 1, _, rfl, rfl, D, rfl, _, rfl, A.q, CC, A.dx, _, _, rfl, X.ob, CT.cl, CT.nL, at_letters, _, rfl, rfl, A.ll, _, rfl, SqL.of X.hl, fun pl npl => ?_⟩
      have s1 := same_new (o := .lst xl.reverse) npl
      have hrv : RepDs K (upd H pl (.lst xl.reverse)) (c.lets.reverse.map letD) xl.reverse := by
        rw [List.map_reverse]
        exact RepDs.same s1 _ _ (reps_rev X.rl)
      have := M.kl
      exact ⟨A, c, xl, xe, xa, n, k, t, pl, c.lets.reverse, xl.reverse, rfl, X.same s1, SqL.of upd_same, hrv, fun l hl => List.mem_reverse.mp hl, by rw [List.length_reverse]; omega, M, hk, ok, fun v H' xl' xe' X' a' o' => fin v H' xl' xe' X' a' ((out_same s1).trans o')⟩
theorem oCd : ownB ["self", "deed"] (defScope cDo) = true := by decide +kernel
theorem scCd : FnScope ["self", "deed"] ["self", "deed"] (defScope cDo) := ⟨rfl, rfl, rfl, by decide +kernel, rfl, by decide +kernel, by decide +kernel⟩
theorem ok_cdo {f fA : Addr} {fd fdA : FuncData} (F : Fun K "do" "Course.do" cDo f fd) (CT : CTx K mg CC)
    (bA : Binds K fdA ["self", "deed"] []) (mA : Meth K CC "answer_to" fA) (GA : FnOk P w K mg base CX0 8 fA fdA ["self", "deed"] (spCAns K C CC)) : FnOk P w K mg base CX0 9 f fd ["self", "deed"] (spCDo K C CC) := by
  refine okB (body := [stm cDo 0]) F scCd (fun vs H Q E h => ?_) (by kernel_rfl) (fun cdv A' outer s0 H vs Q E hr h => ?_)
  · obtain ⟨A, c, xl, xe, xa, n, k, b, d, rfl, _⟩ := h
    rfl
  · obtain ⟨A, c, xl, xe, xa, n, k, b, d, rfl, X, D, ok, M, hk, fin⟩ := h
    refine ⟨_, (pss_one (ps_expr (mApp (pe_fld (oV oCd 0) rfl) (pe_meth (oV oCd 0) CT.cl mA GA hr bA .nil pass0 (aC (oV oCd 1) pa_nil))))), ?_⟩
    have := M.ka
    have al := X.ra.len
    refine ⟨_, rfl, A.q, CC, A.dx, _, _, rfl, X.ob, CT.cl, CT.nA, at_answers, .inl ⟨rfl, _, SqL.of X.ha⟩, _, rfl, A.q, A.dx, _, rfl, X.ob, no_m4, _, rfl, A, c, xl, xe, xa, n, k, b, d, rfl, X, D, ok, M, hk, fun v H' xl' xe' X' a' o' => ?_⟩
    refine ⟨A.la, xa, v, rfl, rfl, X'.ha, small1000 (by omega), ?_⟩
    obtain ⟨X2, o2⟩ := X'.answer a'
    exact fin _ _ _ _ X2 (o'.trans o2)
end
end Of

end

section
set_option Elab.async false
set_option linter.all false
set_option maxRecDepth 100000
set_option maxHeartbeats 4000000
seal L2.PE L2.PT L2.PW L2.PA L2.PS L2.PSs L2.PG L2.PGs L2.PI L3.PTs L2.PO L2.CallR L2.OpR L2.IxR L2.MtR L2.PSet L2.SlR
namespace Of
open PySem L2 L3 L4 L6
open PyProof.Rows (envOfC)
theorem cM {X : Cx} {CX : CXT} {k : Nat} {f C : Addr} {fd : FuncData} {ps : List Str} {sp : Sp} {ds : List Value} {dvs : List V} {E : XK} {x : Str} {p pos : Pos} {e : Expr} {es : List Expr} {t : TA}
    (M : Mk X.K C f) (F : FnOk X.prog X.w X.K X.mg X.base CX k f fd ps sp) (hr : Room (k + 1) X.A) (hm : X.mg x = some (.ref C)) (hb : Binds X.K fd ps ds) (hd : Vals dvs ds) (hx : Passes CX X E) (ha : PA X (e :: es) t) (hg : glB X.env.scope x = true := by kernel_rfl)
    (h1 : isStar e = false := by rfl) (h2 : noStars es = true := by rfl) : PE X (.Call (.Name x p) (e :: es) [] pos) (tMake C sp dvs E t) :=
  pe_make M F hr (gl_of hg).1 hm hb hd hx ha (gl_of hg).2.2 (star_cons h1) (back_any h2)
theorem made_same {C p dx : Addr} {H H' : Hp} (n1 : H p = none) (n2 : H dx = none) (x : SameX p (upd (upd H dx (.own p)) p (.ins C dx [])) H') : Same H H' := fun b u hb => by
  have e1 : b ≠ p := fun z => by rw [z, n1] at hb; cases hb
  have e2 : b ≠ dx := fun z => by rw [z, n2] at hb; cases hb
  exact x.keep b u ((upd_ne e1).trans ((upd_ne e2).trans hb)) e1
def off0 (n : Nat) (coins : Int) (u : Nat) : Off := ⟨u, coins, List.replicate n 0, [], [], []⟩
def start (n : Nat) (coins : Int) : Crs := ⟨(List.range n).map (off0 n coins), [], [], []⟩
theorem start_off {n u : Nat} {coins : Int} (h : u < n) : (start n coins).off u = off0 n coins u := by
  unfold Crs.off start
  dsimp only
  rw [List.getD_eq_getElem?_getD, List.getElem?_map, List.getElem?_range h]; rfl
theorem start_wd {n : Nat} {coins : Int} : Wd n (start n coins) := by
  refine ⟨Mail.nil, by simp [start], fun u hu => ?_⟩
  rw [start_off hu]
  have h0 : ∀ v, (List.replicate n (0 : Int)).getD v 0 = 0 := fun v => by
    rw [List.getD_eq_getElem?_getD, List.getElem?_replicate]; split <;> rfl
  exact ⟨⟨[], ⟨(fun _ h => nomatch h), List.nodup_nil, by simp [off0], fun v => by show (List.replicate n (0 : Int)).getD v 0 = _; rw [h0]; rfl, (fun _ h => nomatch h), (fun _ h => nomatch h), List.nodup_nil⟩, (fun _ h => nomatch h), rfl, Nat.le_refl _⟩, rfl, fun _ h => nomatch h⟩
theorem start_mod {n : Nat} {coins : Int} (h : n ≤ 1000) : Mod n 0 (start n coins) := ⟨start_wd, h, Nat.le_refl _, Nat.le_refl _, Nat.le_refl _⟩
theorem bring_len {n t : Nat} {c : Crs} {ls : List Let} (h : Wd n c) (ht : t < n) (hin : ∀ l ∈ ls, l ∈ c.lets) : (tookAll (c.off t) ls).1.flatten.length ≤ c.lets.length := by
  have hWb := h.bring (ls := ls) ht hin
  have h1 := ((hWb.of t ht).sizes hWb.ml).2.1
  have h2 : (bringC c t ls).2.off t = (tookAll (c.off t) ls).2 := by
    show (c.offs.set t _).getD t noOff = _
    rw [off_set (by rw [h.ln]; exact ht), if_pos rfl]
  rw [h2, (tookAll_book ls (c.off t)).1] at h1
  have h1 : _ ≤ c.lets.length := h1
  omega
theorem bring_mod {n k t : Nat} {c : Crs} {ls : List Let} (M : Mod n k c) (hk : k ≤ 200) (ht : t < n) (hin : ∀ l ∈ ls, l ∈ c.lets) : (bringC c t ls).2.evs.length ≤ 1000 * (k + 1) ∧ (bringC c t ls).2.lets.length ≤ k + 1 ∧ (bringC c t ls).2.ans = c.ans := by
  have h := bring_len M.wd ht hin
  have h1 := M.kl
  have h2 := M.ke
  refine ⟨?_, by show c.lets.length ≤ k + 1; omega, rfl⟩
  show (c.evs ++ _).length ≤ _
  rw [List.length_append, List.length_map]; omega
theorem send_mod {n k u : Nat} {c : Crs} {x : What} (M : Mod n k c) : (sendC c u x).2.evs.length ≤ 1000 * (k + 1) ∧ (sendC c u x).2.lets.length ≤ k + 1 ∧ (sendC c u x).2.ans = c.ans := by
  have h1 := M.kl
  have h2 := M.ke
  unfold sendC
  split
  · refine ⟨?_, ?_, rfl⟩
    · show (c.evs ++ _).length ≤ _
      rw [List.length_append]; show c.evs.length + 1 ≤ _; omega
    · show (c.lets ++ _).length ≤ _
      rw [List.length_append]; show c.lets.length + 1 ≤ _; omega
  · exact ⟨by show c.evs.length ≤ _; omega, by show c.lets.length ≤ _; omega, rfl⟩
theorem Mod.do {n k : Nat} {c : Crs} {d : Deed} (M : Mod n k c) (hk : k ≤ 200) (ok : okDeed n d) : Mod n (k + 1) (doC c d) := by
  have key : (answer c d).2.evs.length ≤ 1000 * (k + 1) ∧ (answer c d).2.lets.length ≤ k + 1 ∧ (answer c d).2.ans = c.ans := by
    have h1 := M.kl
    have h2 := M.ke
    cases d with
    | pay u t m => exact send_mod M
    | cut u => exact send_mod M
    | bring t => exact bring_mod M hk ok fun l hl => List.mem_reverse.mp hl
    | carry i t =>
      cases e : carried c i with
      | none =>
        simp only [answer, e]
        exact ⟨by omega, by omega, trivial⟩
      | some l =>
        simp only [answer, e]
        refine bring_mod M hk ok fun x hx => ?_
        have : x = l := by simpa using hx
        subst this
        unfold carried at e
        split at e
        · exact List.mem_of_getElem? e
        · cases e
  refine ⟨M.wd.do ok, M.n1, key.2.1, key.1, ?_⟩
  show ((answer c d).2.ans ++ [_]).length ≤ _
  rw [key.2.2, List.length_append]
  have := M.ka
  show c.ans.length + 1 ≤ _
  omega
theorem Mod.run {n : Nat} : ∀ {ds : List Deed} {k : Nat} {c : Crs}, Mod n k c → (∀ d ∈ ds, okDeed n d) → k + ds.length ≤ 200 → Mod n (k + ds.length) (runC c ds)
  | [], k, c, M, _, _ => M
  | d :: ds, k, c, M, ok, h => by
    rw [List.length_cons] at h ⊢
    have := Mod.run (ds := ds) (M.do (by omega) (ok d List.mem_cons_self)) (fun x hx => ok x (List.mem_cons_of_mem _ hx)) (by omega)
    rw [show k + (ds.length + 1) = k + 1 + ds.length by omega]
    exact this
/-- all but q is as it was -/
def Kp (q : Addr) (H H' : Hp) : Prop := ∀ b o, H b = some o → b ≠ q → H' b = some o
theorem Kp.trans {q : Addr} {H H1 H2 : Hp} (a : Kp q H H1) (b : Kp q H1 H2) : Kp q H H2 := fun c o h n => b c o (a c o h n) n
theorem Kp.imm {q C dx : Addr} {fs : List (Str × V)} {H H' : Hp} (a : Kp q H H') (hq : H q = some (.ins C dx fs)) : Imm H H' :=
  ⟨fun b xs hb => a b _ hb (fun e => by rw [e, hq] at hb; cases hb), fun b u v hb => a b _ hb (fun e => by rw [e, hq] at hb; cases hb)⟩
theorem fld_step {q CC dx l : Addr} {H1 : Hp} {fs gs : List (Str × V)} (hq : H1 q = some (.ins CC dx fs)) (nl : H1 l = none) : Kp q H1 (upd (upd H1 l (.lst [])) q (.ins CC dx gs)) ∧ (upd (upd H1 l (.lst [])) q (.ins CC dx gs)) q = some (.ins CC dx gs) ∧ (upd (upd H1 l (.lst [])) q (.ins CC dx gs)) l = some (.lst []) ∧ l ≠ q := by
  have e : l ≠ q := fun z => by rw [z, hq] at nl; cases nl
  refine ⟨fun b o hb nb => ?_, upd_same, (upd_ne e).trans upd_same, e⟩
  rw [upd_ne nb, upd_ne (fun z => by rw [z, nl] at hb; cases hb)]
  exact hb
theorem c1 : ¬ (("offices" : Str) = "letters") := by decide +kernel
theorem c2 : ¬ (("offices" : Str) = "events") := by decide +kernel
theorem c3 : ¬ (("offices" : Str) = "answers") := by decide +kernel
theorem c4 : ¬ (("letters" : Str) = "events") := by decide +kernel
theorem c5 : ¬ (("letters" : Str) = "answers") := by decide +kernel
theorem c6 : ¬ (("events" : Str) = "answers") := by decide +kernel
theorem put_c {lo ll le la : Addr} : putF "answers" (.ref la) (putF "events" (.ref le) (putF "letters" (.ref ll) (putF "offices" (.ref lo) []))) = cfl lo ll le la := by
  show putF "answers" _ (putF "events" _ (putF "letters" _ [(("offices" : Str), V.ref lo)])) = _
  rw [putF_ne c1]
  show putF "answers" _ (putF "events" _ [(("offices" : Str), V.ref lo), ("letters", V.ref ll)]) = _
  rw [putF_ne c2, putF_ne c4]
  show putF "answers" _ [(("offices" : Str), V.ref lo), ("letters", V.ref ll), ("events", V.ref le)] = _
  rw [putF_ne c3, putF_ne c5, putF_ne c6]
  rfl
def spCInit (K : PySem.W.Frag) (C CC : Addr) : Sp := fun vs H Q _ => ∃ (q dx : Addr) (n : Nat) (coins : Int), vs = [.ref q, .int n, .int coins] ∧ H q = some (.ins CC dx []) ∧ 2 ≤ n ∧ n < 1000 ∧
  ∀ (A : Adr) (H' : Hp), A.q = q → CrsX K C CC H' A (start n coins) [] [] [] → (∀ b, A.own b → H b = none) → Kp q H H' → Q .non H'
def spCourse (K : PySem.W.Frag) (C CC : Addr) : Sp := fun vs H Q _ => ∃ (n : Nat) (coins : Int) (b : Addr) (ds : List Deed) (xs : List V), vs = [.int n, .int coins, .ref b] ∧ SqL K H b xs ∧ RepDs K H (ds.map deedD) xs ∧ (∀ d ∈ ds, okDeed n d) ∧ ds.length ≤ 200 ∧ 2 ≤ n ∧ n < 1000 ∧
  ∀ (A : Adr) (H' : Hp) (xl xe xa : List V), CrsX K C CC H' A (runC (start n coins) ds) xl xe xa → (∀ b, A.own b → H b = none) → Same H H' → Q (.ref A.q) H'
section
variable {P : Program} {w : World} {K : PySem.W.Frag} {mg : Str → Option Value} {base : Heap} {C CC fN fT fC fR fF fO : Addr}
theorem oCi : ownB ["self", "count", "coins"] (defScope cInit) = true := by decide +kernel
theorem scCi : FnScope ["self", "count", "coins"] ["self", "count", "coins"] (defScope cInit) := ⟨rfl, rfl, rfl, by decide +kernel, rfl, by decide +kernel, by decide +kernel⟩
theorem ok_cinit {f f0 : Addr} {fd fd0 : FuncData} (F : Fun K "__init__" "Course.__init__" cInit f fd) (T : Txt K mg C fN fT fC fR fF fO) (CT : CTx K mg CC)
    (M : Mk K C f0) (b0 : Binds K fd0 ["self", "number", "count", "coins"] []) (G0 : FnOk P w K mg base CX0 1 f0 fd0 ["self", "number", "count", "coins"] (spInit K C)) : FnOk P w K mg base CX0 3 f fd ["self", "count", "coins"] (spCInit K C CC) := by
  refine okB (body := [stm cInit 0, stm cInit 1, stm cInit 2, stm cInit 3]) F scCi (fun vs H Q E h => ?_) (by kernel_rfl) (fun cdv A' outer s0 H vs Q E hr h => ?_)
  · obtain ⟨q, dx, n, coins, rfl, _⟩ := h
    rfl
  · obtain ⟨q, dx, n, coins, rfl, hq, hn2, hn, fin⟩ := h
    refine ⟨_, (pss_cons (ps_fld (oV oCi 0) (eC [2, 1] ["coins", "count"] rfl (rng1 T.range (aC (oV oCi 1) pa_nil)) (fun _ _ _ _ _ => pts_nil) (fun _ _ _ _ _ => (cM M G0 hr T.office b0 .nil pass0 (aC (sV 0) (aC (sV 2) (aC (sV 1) pa_nil)))))) rfl)
      (pss_cons (ps_fld (oV oCi 0) (pe_lst pa_nil) rfl)
      (pss_cons (ps_fld (oV oCi 0) (pe_lst pa_nil) rfl)
      (pss_one (ps_fld (oV oCi 0) (pe_lst pa_nil) rfl))))), ?_⟩
    refine cut4 ?_
    intro rr3 rr2 rr1
    refine ⟨_, rfl, (n : Int), rfl, by omega, by omega, comp_range (n := n) (lo := 0) (fun D i ys H2 => ∃ ps : List Addr, ys = ps.map V.ref ∧ ps.length = i ∧ ps.Nodup ∧ (∀ (u : Nat) p, ps[u]? = some p → OffAt K C H2 p (off0 n coins u) ∧ H p = none ∧ ¬ Refs (H2 p) D) ∧ Same H H2 ∧ H2 D = some (.lst ys))
      (fun D hD => ⟨[], rfl, rfl, List.nodup_nil, fun u p h => by simp at h, same_new hD, upd_same⟩) (fun D i ys H2 hD hi ⟨ps, h1, h2, h3, h4, h5, h6⟩ => h6) (fun D i ys H2 hD hi ⟨ps, h1, h2, h3, h4, h5, h6⟩ => ?_) (fun lo ys H1 hD ⟨ps, h1, h2, h3, h4, h5, h6⟩ => ?_)⟩
    · refine ⟨_, rfl, _, rfl, _, rfl, fun p dxp np ndx hne => ⟨p, dxp, _, coins, n, rfl, upd_same, hn2, hn, fun H3 O3 x3 => ⟨rfl, ?_⟩⟩⟩
      have s3 := made_same np ndx x3
      have hD3 := s3 _ _ h6
      have npD : p ≠ D := fun e => by rw [e, h6] at np; cases np
      have yl : ys.length = i := by rw [h1, List.length_map, h2]
      refine ⟨hD3, small1000 (by omega), ps ++ [p], by rw [h1, List.map_append]; rfl, by rw [List.length_append, h2]; rfl, ?_, fun u p' hu => ?_, same_upd (h5.trans s3) hD, upd_same⟩
      · rw [List.nodup_append]
        refine ⟨h3, by simp, fun a ha b hb e => ?_⟩
        have hb : b = p := by simpa using hb
        obtain ⟨j, hj⟩ := List.getElem?_of_mem ha
        obtain ⟨dx', fs', e', _⟩ := (h4 j a hj).1.ins
        rw [e, hb, np] at e'; cases e'
      · have nrD : ¬ Refs (H3 p) D := fun z => by
          rcases x3.refs D z with z | z
          · rw [upd_same] at z
            have z : (([] : List (Str × V)).lookup ("book" : Str) = some (.ref D) ∨ ([] : List (Str × V)).lookup ("tray" : Str) = some (.ref D) ∨ ([] : List (Str × V)).lookup ("kept" : Str) = some (.ref D)) := z
            rcases z with z | z | z <;> cases z
          · have nDd : D ≠ dxp := fun e => by rw [← e, h6] at ndx; cases ndx
            rw [upd_ne npD.symm, upd_ne nDd, h6] at z; cases z
        have kD : ∀ p' o', OffAt K C H3 p' o' → ¬ Refs (H3 p') D → OffAt K C (upd H3 D (.lst (ys ++ [.ref p]))) p' o' ∧ ¬ Refs ((upd H3 D (.lst (ys ++ [.ref p]))) p') D := fun p' o' O' nr' => by
          obtain ⟨dx', fs', e', _⟩ := O'.ins
          have ne' : p' ≠ D := fun e => by rw [e, hD3] at e'; cases e'
          refine ⟨O'.keep (imm_lst hD3) (fun u hu => (upd_ne ne').trans hu) fun b xs hb hx => (upd_ne fun e => nr' (by rw [← e]; exact hb)).trans hx, ?_⟩
          rw [upd_ne ne']; exact nr'
        by_cases hlt : u < ps.length
        · rw [List.getElem?_append_left hlt] at hu
          obtain ⟨g1, g2, g3⟩ := h4 u p' hu
          have g1' := g1.same s3
          obtain ⟨dx', fs', e', _⟩ := g1.ins
          have g3' : ¬ Refs (H3 p') D := by rw [s3 _ _ e', ← e']; exact g3
          exact ⟨(kD p' _ g1' g3').1, g2, (kD p' _ g1' g3').2⟩
        · rw [List.getElem?_append_right (by omega)] at hu
          have hu0 : u - ps.length = 0 := by
            have := (List.getElem?_eq_some_iff.mp hu).1
            simp at this; omega
          rw [hu0] at hu
          have hpp : p = p' := by simpa using hu
          subst hpp
          have hui : u = i := by omega
          subst hui
          have O3 : OffAt K C H3 p (off0 n coins u) := by
            have e0 : off0 n coins u = ⟨0 + (u : Int), coins, List.replicate n 0, [], [], []⟩ := by rw [Int.zero_add]; rfl
            rw [e0]; exact O3
          exact ⟨(kD p _ O3 nrD).1, Same.free h5 np, (kD p _ O3 nrD).2⟩
    · have hq1 := h5 _ _ hq
      have nql : q ≠ lo := fun e => by rw [← e, hq] at hD; cases hD
      refine ⟨_, rfl, q, CC, dx, _, rfl, hq1, CT.cl, CT.nO, (by show 0 < 1000; decide), ?_⟩
      have kq : Kp q H1 (upd H1 q (.ins CC dx (putF "offices" (.ref lo) []))) := fun b o hb nb => (upd_ne nb).trans hb
      have hq2 : (upd H1 q (.ins CC dx (putF "offices" (.ref lo) []))) q = some (.ins CC dx (putF "offices" (.ref lo) [])) := upd_same
      generalize upd H1 q (.ins CC dx (putF "offices" (.ref lo) [])) = H2 at kq hq2
      refine ⟨len0, fun ll nll => ⟨_, rfl, q, CC, dx, _, rfl, (upd_ne fun e => by rw [← e, hq2] at nll; cases nll).trans hq2, CT.cl, CT.nL, (Nat.lt_of_le_of_lt (pl (Nat.le_refl 0)) (by decide)), ?_⟩⟩
      obtain ⟨k3, hq3, hl3, nlq⟩ := fld_step (gs := putF "letters" (.ref ll) (putF "offices" (.ref lo) [])) hq2 nll
      generalize upd (upd H2 ll (.lst [])) q (.ins CC dx (putF "letters" (.ref ll) (putF "offices" (.ref lo) []))) = H3 at k3 hq3 hl3
      refine ⟨len0, fun le nle => ⟨_, rfl, q, CC, dx, _, rfl, (upd_ne fun e => by rw [← e, hq3] at nle; cases nle).trans hq3, CT.cl, CT.nV, (Nat.lt_of_le_of_lt (pl (pl (Nat.le_refl 0))) (by decide)), ?_⟩⟩
      obtain ⟨k4, hq4, hl4, neq⟩ := fld_step (gs := putF "events" (.ref le) (putF "letters" (.ref ll) (putF "offices" (.ref lo) []))) hq3 nle
      generalize upd (upd H3 le (.lst [])) q (.ins CC dx (putF "events" (.ref le) (putF "letters" (.ref ll) (putF "offices" (.ref lo) [])))) = H4 at k4 hq4 hl4
      refine ⟨len0, fun la nla => ⟨_, rfl, q, CC, dx, _, rfl, (upd_ne fun e => by rw [← e, hq4] at nla; cases nla).trans hq4, CT.cl, CT.nA, (Nat.lt_of_le_of_lt (pl (pl (pl (Nat.le_refl 0)))) (by decide)), ?_⟩⟩
      obtain ⟨k5, hq5, hl5, naq⟩ := fld_step (gs := putF "answers" (.ref la) (putF "events" (.ref le) (putF "letters" (.ref ll) (putF "offices" (.ref lo) [])))) hq4 nla
      rw [put_c] at k5 hq5 hl5 ⊢
      generalize upd (upd H4 la (.lst [])) q (.ins CC dx (cfl lo ll le la)) = H5 at k5 hq5 hl5
      have hlo2 := kq _ _ h6 nql.symm
      have hlo3 := k3 _ _ hlo2 nql.symm
      have hlo4 := k4 _ _ hlo3 nql.symm
      have hll4 := k4 _ _ hl3 nlq
      have k25 := (k3.trans k4).trans k5
      have k15 := kq.trans k25
      have kH1 : Kp q H H1 := fun b o hb _ => h5 b o hb
      have kall : Kp q H H5 := kH1.trans k15
      have none_of : ∀ {Hx : Hp} {b : Addr}, Kp q H1 Hx → Hx b = none → b ≠ q → H1 b = none := fun {Hx b} kx hb nb => by
        cases e : H1 b with
        | none => rfl
        | some o => rw [kx _ _ e nb] at hb; cases hb
      have nl1 : H1 ll = none := none_of kq nll nlq
      have ne1 : H1 le = none := none_of (kq.trans k3) nle neq
      have na1 : H1 la = none := none_of ((kq.trans k3).trans k4) nla naq
      have hpl : ps.length = n := h2
      refine fin ⟨q, dx, lo, ll, le, la, ps⟩ H5 rfl ⟨hq5, k15 _ _ (h1 ▸ h6) nql.symm, h3, by show ps.length = (start n coins).offs.length; simp [start, hpl], k5 _ _ hll4 nlq, rfl, k5 _ _ hl4 neq, rfl, hl5, rfl, fun u p hu => ?_, fun p hp b hb => ?_, fun e => ?_, fun e => ?_, fun e => ?_, fun e => ?_, fun e => ?_, fun e => ?_⟩ (fun b hb => ?_) kall
      · have hu' : u < n := by have : u < ps.length := (List.getElem?_eq_some_iff.mp hu).1; omega
        rw [start_off hu']
        obtain ⟨g1, g2, g3⟩ := h4 u p hu
        have npq : p ≠ q := fun e => by rw [e, hq] at g2; cases g2
        exact g1.keep (k15.imm hq1) (fun o ho => k15 _ _ ho npq) fun b xs _ hb => k15 _ _ hb fun e => by rw [e, hq1] at hb; cases hb
      · obtain ⟨u, hu⟩ := List.getElem?_of_mem hp
        obtain ⟨g1, g2, g3⟩ := h4 u p hu
        have npq : p ≠ q := fun e => by rw [e, hq] at g2; cases g2
        obtain ⟨dx0, cl0, lb0, lt0, lk0, bs0, ts0, ks0, X0⟩ := g1.x
        have hb1 : Refs (H1 p) b := by rw [k15 _ _ X0.ob npq] at hb; rw [X0.ob]; exact hb
        have hsome : H1 b ≠ none := fun z => by
          rw [X0.ob, refs_flds] at hb1
          rcases hb1 with e | e | e
          · rw [e, X0.hb] at z; cases z
          · rw [e, X0.ht] at z; cases z
          · rw [e, X0.hk] at z; cases z
        rintro (e | e | e | e)
        · rw [e] at hb1; exact g3 hb1
        · exact hsome (by rw [e]; exact nl1)
        · exact hsome (by rw [e]; exact ne1)
        · exact hsome (by rw [e]; exact na1)
      · have e : lo = ll := e
        rw [e, nl1] at h6; cases h6
      · have e : lo = le := e
        rw [e, ne1] at h6; cases h6
      · have e : lo = la := e
        rw [e, na1] at h6; cases h6
      · have e : ll = le := e
        rw [e, nle] at hl3; cases hl3
      · have e : ll = la := e
        rw [e, nla] at hll4; cases hll4
      · have e : le = la := e
        rw [e, nla] at hl4; cases hl4
      · have back : ∀ {b : Addr}, H1 b = none → H b = none := fun {b} z => Same.free h5 z
        rcases hb with e | e | e | e
        · obtain ⟨u, hu⟩ := List.getElem?_of_mem e
          exact (h4 u b hu).2.1
        · rw [e]; exact back nl1
        · rw [e]; exact back ne1
        · rw [e]; exact back na1
theorem oCq : ownB ["count", "coins", "deeds", "course", "deed"] (defScope sCourse) = true := by decide +kernel
theorem scCq : FnScope ["count", "coins", "deeds", "course", "deed"] ["count", "coins", "deeds"] (defScope sCourse) := ⟨rfl, rfl, rfl, by decide +kernel, rfl, by decide +kernel, by decide +kernel⟩
theorem ok_course {f fI fD : Addr} {fd fdI fdD : FuncData} (F : Fun K "course_of" "course_of" sCourse f fd) (CT : CTx K mg CC)
    (M : Mk K CC fI) (bI : Binds K fdI ["self", "count", "coins"] []) (GI : FnOk P w K mg base CX0 3 fI fdI ["self", "count", "coins"] (spCInit K C CC))
    (bD : Binds K fdD ["self", "deed"] []) (mD : Meth K CC "do" fD) (GD : FnOk P w K mg base CX0 9 fD fdD ["self", "deed"] (spCDo K C CC)) : FnOk P w K mg base CX0 10 f fd ["count", "coins", "deeds"] (spCourse K C CC) := by
  refine okB (body := [stm sCourse 0, stm sCourse 1, stm sCourse 2]) F scCq (fun vs H Q E h => ?_) (by kernel_rfl) (fun cdv A' outer s0 H vs Q E hr h => ?_)
  · obtain ⟨n, coins, b, ds, xs, rfl, _⟩ := h
    rfl
  · obtain ⟨n, coins, b, ds, xs, rfl, hb, hxs, ok, hl, n2, n3, fin⟩ := h
    have hr4 := hr.mono (by decide : 4 ≤ 9)
    have xlen := reps_len hxs
    rw [List.length_map] at xlen
    refine ⟨_, (pss_cons (oS oCq 3 (cM M GI hr4 CT.course bI .nil pass0 (aC (oV oCq 0) (aC (oV oCq 1) pa_nil))))
      (pss_cons (ps_for PassesOwn.never rfl (pi_list (oV oCq 2)) (oT oCq 4)
        (pss_one (ps_expr (pe_meth (oV oCq 3) CT.cl mD GD hr bD .nil pass0 (aC (oV oCq 4) pa_nil)))))
      (pss_one (ps_ret (oV oCq 3))))), ?_⟩
    refine cut3 ?_
    intro rr2 rr1
    refine ⟨_, rfl, _, rfl, fun q dx nq ndx hne => ⟨q, dx, n, coins, rfl, upd_same, n2, n3, fun A H1 eq X1 fr kp => ⟨rfl, ?_⟩⟩⟩
    subst eq
    have s1 : Same H H1 := fun b' o hb' => by
      have e1 : b' ≠ A.q := fun e => by rw [e, nq] at hb'; cases hb'
      have e2 : b' ≠ dx := fun e => by rw [e, ndx] at hb'; cases hb'
      exact kp b' o ((upd_ne e1).trans ((upd_ne e2).trans hb')) e1
    have fr1 : ∀ b', A.own b' → H b' = none := fun b' hb' => by
      have z := fr b' hb'
      by_cases e1 : b' = A.q
      · rw [e1, upd_same] at z; cases z
      · rw [upd_ne e1] at z
        by_cases e2 : b' = dx
        · rw [e2]; exact ndx
        · rw [upd_ne e2] at z; exact z
    have step : ∀ {Hc Hd : Hp}, Same H Hc → Out A Hc Hd → Same H Hd := fun {Hc Hd} e o b' ob hb' => o b' ob (e b' ob hb') fun z => by rw [fr1 b' z] at hb'; cases hb'
    refine ⟨_, rfl, b, rfl, ⟨_, s1.seq hb⟩, for_list (K := K) (a := b) (xs := xs) (fun i σ Hc => ∃ (v : Option V) (xl xe xa : List V), σ = [some (.int n), some (.int coins), some (.ref b), some (.ref A.q), v] ∧ CrsX K C CC Hc A (runC (start n coins) (ds.take i)) xl xe xa ∧ Same H Hc)
      ⟨none, [], [], [], rfl, X1, s1⟩ (fun i σ Hc _ ⟨v, xl, xe, xa, _, _, e⟩ => e.seq hb) ?_ ?_⟩
    · rintro i y σ Hc hi ⟨v, xl, xe, xa, rfl, Xc, e⟩
      have hi' : i < ds.length := by have := (List.getElem?_eq_some_iff.mp hi).1; omega
      obtain ⟨x', hx', rx⟩ := reps_get hxs (i := i) (d := deedD ds[i]) (by rw [List.getElem?_map, List.getElem?_eq_getElem hi']; rfl)
      rw [hi] at hx'
      cases hx'
      obtain ⟨bd, rfl, D⟩ := deedAt_iff.mp (RepD.same e _ _ rx)
      have Md := Mod.run (ds := ds.take i) (start_mod (coins := coins) (Nat.le_of_lt n3)) (fun d hd => ok d (List.mem_of_mem_take hd)) (by rw [List.length_take]; omega)
      have etk : ds.take (i + 1) = ds.take i ++ [ds[i]] := take_snoc (List.getElem?_eq_getElem hi')
      refine ⟨_, rfl, A.q, A.dx, _, rfl, Xc.ob, no_m5, _, rfl, A, _, xl, xe, xa, n, _, bd, ds[i], rfl, Xc, D, ok _ (List.getElem_mem hi'), Md, by rw [List.length_take]; omega, fun H' xl' xe' xa' X' o' => ?_⟩
      exact ⟨_, xl', xe', xa', rfl, by rw [etk, runC_snoc]; exact X', step e o'⟩
    · rintro σ Hc ⟨v, xl, xe, xa, rfl, Xc, e⟩
      rw [xlen, List.take_length] at Xc
      exact ⟨_, rfl, fin A Hc xl xe xa Xc fr1 e⟩
end
end Of

end

section
set_option Elab.async false
set_option linter.all false
set_option maxRecDepth 100000
set_option maxHeartbeats 4000000
seal L2.PE L2.PT L2.PW L2.PA L2.PS L2.PSs L2.PG L2.PGs L2.PI L3.PTs L2.PO L2.CallR L2.OpR L2.IxR L2.MtR L2.PSet L2.SlR
namespace Of
open PySem L2 L3 L4 L6
def spEventsOf (K : PySem.W.Frag) : Sp := fun vs H Q _ => ∃ (n : Nat) (coins : Int) (b : Addr) (ds : List Deed) (xs : List V), vs = [.int n, .int coins, .ref b] ∧ SqL K H b xs ∧ RepDs K H (ds.map deedD) xs ∧ (∀ d ∈ ds, okDeed n d) ∧ ds.length ≤ 200 ∧ 2 ≤ n ∧ n < 1000 ∧
  ∀ (l : Addr) (ys : List V) (H' : Hp), H' l = some (.lst ys) → All2 (EvV H') (runC (start n coins) ds).evs ys → Same H H' → Q (.ref l) H'
section
variable {P : Program} {w : World} {K : PySem.W.Frag} {mg : Str → Option Value} {base : Heap} {C CC : Addr}
theorem oCe : ownB ["count", "coins", "deeds"] (defScope sEventsOf) = true := by decide +kernel
theorem scCe : FnScope ["count", "coins", "deeds"] ["count", "coins", "deeds"] (defScope sEventsOf) := ⟨rfl, rfl, rfl, by decide +kernel, rfl, by decide +kernel, by decide +kernel⟩
theorem ok_events_of {f fO' : Addr} {fd fdO : FuncData} (F : Fun K "events_of" "events_of" sEventsOf f fd) (CT : CTx K mg CC)
    (mO : mg "course_of" = some (.ref fO')) (FO : Fun K "course_of" "course_of" sCourse fO' fdO) (bO : Binds K fdO ["count", "coins", "deeds"] []) (GO : FnOk P w K mg base CX0 10 fO' fdO ["count", "coins", "deeds"] (spCourse K C CC)) : FnOk P w K mg base CX0 11 f fd ["count", "coins", "deeds"] (spEventsOf K) := by
  refine okB (body := [stm sEventsOf 0]) F scCe (fun vs H Q E h => ?_) (by kernel_rfl) (fun cdv A' outer s0 H vs Q E hr h => ?_)
  · obtain ⟨n, coins, b, ds, xs, rfl, _⟩ := h
    rfl
  · obtain ⟨n, coins, b, ds, xs, rfl, hb, hxs, ok, hl, n2, n3, fin⟩ := h
    refine ⟨_, (pss_one (ps_ret (pe_fld (cF GO hr mO FO.kp bO .nil pass0 (aC (oV oCe 0) (aC (oV oCe 1) (aC (oV oCe 2) pa_nil)))) rfl))), ?_⟩
    refine ⟨_, rfl, _, rfl, _, rfl, n, coins, b, ds, xs, rfl, hb, hxs, ok, hl, n2, n3, fun A H' xl xe xa X fr e => ?_⟩
    exact ⟨A.q, CC, A.dx, _, _, rfl, X.ob, CT.cl, CT.nV, at_events, fin A.le xe H' X.he X.re e⟩
end
end Of

end

section
set_option Elab.async false
set_option linter.all false
set_option maxRecDepth 100000
set_option maxHeartbeats 4000000
seal L2.PE L2.PT L2.PW L2.PA L2.PS L2.PSs L2.PG L2.PGs L2.PI L3.PTs L2.PO L2.CallR L2.OpR L2.IxR L2.MtR L2.PSet L2.SlR
namespace Of
open PySem L2 L3 L4 L6
def spLettersOf (K : PySem.W.Frag) : Sp := fun vs H Q _ => ∃ (n : Nat) (coins : Int) (b : Addr) (ds : List Deed) (xs : List V), vs = [.int n, .int coins, .ref b] ∧ SqL K H b xs ∧ RepDs K H (ds.map deedD) xs ∧ (∀ d ∈ ds, okDeed n d) ∧ ds.length ≤ 200 ∧ 2 ≤ n ∧ n < 1000 ∧
  ∀ (l : Addr) (ys : List V) (H' : Hp), H' l = some (.lst ys) → RepDs K H' ((runC (start n coins) ds).lets.map letD) ys → Same H H' → Q (.ref l) H'
section
variable {P : Program} {w : World} {K : PySem.W.Frag} {mg : Str → Option Value} {base : Heap} {C CC : Addr}
theorem oCl : ownB ["count", "coins", "deeds"] (defScope sLettersOf) = true := by decide +kernel
theorem scCl : FnScope ["count", "coins", "deeds"] ["count", "coins", "deeds"] (defScope sLettersOf) := ⟨rfl, rfl, rfl, by decide +kernel, rfl, by decide +kernel, by decide +kernel⟩
theorem ok_letters_of {f fO' : Addr} {fd fdO : FuncData} (F : Fun K "letters_of" "letters_of" sLettersOf f fd) (CT : CTx K mg CC)
    (mO : mg "course_of" = some (.ref fO')) (FO : Fun K "course_of" "course_of" sCourse fO' fdO) (bO : Binds K fdO ["count", "coins", "deeds"] []) (GO : FnOk P w K mg base CX0 10 fO' fdO ["count", "coins", "deeds"] (spCourse K C CC)) : FnOk P w K mg base CX0 11 f fd ["count", "coins", "deeds"] (spLettersOf K) := by
  refine okB (body := [stm sLettersOf 0]) F scCl (fun vs H Q E h => ?_) (by kernel_rfl) (fun cdv A' outer s0 H vs Q E hr h => ?_)
  · obtain ⟨n, coins, b, ds, xs, rfl, _⟩ := h
    rfl
  · obtain ⟨n, coins, b, ds, xs, rfl, hb, hxs, ok, hl, n2, n3, fin⟩ := h
    refine ⟨_, (pss_one (ps_ret (pe_fld (cF GO hr mO FO.kp bO .nil pass0 (aC (oV oCl 0) (aC (oV oCl 1) (aC (oV oCl 2) pa_nil)))) rfl))), ?_⟩
    refine ⟨_, rfl, _, rfl, _, rfl, n, coins, b, ds, xs, rfl, hb, hxs, ok, hl, n2, n3, fun A H' xl xe xa X fr e => ?_⟩
    exact ⟨A.q, CC, A.dx, _, _, rfl, X.ob, CT.cl, CT.nL, at_letters, fin A.ll xl H' X.hl X.rl e⟩
end
end Of

end

set_option Elab.async false
set_option linter.all false
set_option maxRecDepth 100000
set_option maxHeartbeats 4000000
namespace Of
open PySem PySem.Spec L2 L3 L4
/-! ### the events, one by one -/
def sentIn (es : List Ev) : List Let := (es.filter fun e => e.sent).map fun e => e.l
def stepR (R : List (List Int)) (e : Ev) : List (List Int) := R.set e.u (inc (R.getD e.u []) e.l.s)
def rowsF (R : List (List Int)) (es : List Ev) : List (List Int) := es.foldl stepR R
def rows0 (n : Nat) : List (List Int) := List.replicate n (List.replicate n 0)
structure Ok (n : Nat) (R : List (List Int)) (S : List Let) (e : Ev) : Prop where
  u : e.u < n
  rd : readyB e.l.s e.l.st (R.getD e.u []) = true
  fit : Fit n e.l
  st : e.sent = true → e.l.s = e.u ∧ e.l.st = inc (R.getD e.u []) e.l.s
  gt : e.sent = false → e.l.s ≠ e.u ∧ e.l ∈ S
def Good (n : Nat) : List (List Int) → List Let → List Ev → Prop
  | _, _, [] => True
  | R, S, e :: es => Ok n R S e ∧ Good n (stepR R e) (S ++ sentIn [e]) es
theorem sentIn_append {a b : List Ev} : sentIn (a ++ b) = sentIn a ++ sentIn b := by simp [sentIn]
theorem sentIn_cons {e : Ev} {b : List Ev} : sentIn (e :: b) = sentIn [e] ++ sentIn b := by rw [← sentIn_append]; rfl
theorem Good.append {n : Nat} : ∀ {a b : List Ev} {R : List (List Int)} {S : List Let}, Good n R S a → Good n (rowsF R a) (S ++ sentIn a) b → Good n R S (a ++ b)
  | [], b, R, S, _, h => by simpa [rowsF, sentIn] using h
  | e :: a, b, R, S, ⟨h1, h2⟩, h => ⟨h1, Good.append h2 (by rw [List.append_assoc, ← sentIn_cons]; exact h)⟩
theorem Good.at_ {n : Nat} : ∀ {es : List Ev} {R : List (List Int)} {S : List Let} {i : Nat} {e : Ev}, Good n R S es → es[i]? = some e → Ok n (rowsF R (es.take i)) (S ++ sentIn (es.take i)) e
  | [], R, S, i, e, _, h => by simp at h
  | x :: es, R, S, 0, e, ⟨h1, _⟩, h => by
    have : x = e := by simpa using h
    subst this
    simpa [rowsF, sentIn] using h1
  | x :: es, R, S, i + 1, e, ⟨_, h2⟩, h => by
    have := Good.at_ h2 (i := i) (by simpa using h)
    rw [List.append_assoc, ← sentIn_cons] at this
    exact this
theorem rowsF_append {a b : List Ev} {R : List (List Int)} : rowsF R (a ++ b) = rowsF (rowsF R a) b := by unfold rowsF; rw [List.foldl_append]
theorem rowsF_len {es : List Ev} : ∀ {R : List (List Int)}, (rowsF R es).length = R.length := by
  induction es with
  | nil => intro R; rfl
  | cons e es ih => intro R; show (rowsF (stepR R e) es).length = _; rw [ih]; unfold stepR; rw [List.length_set]
def Walk : List Int → List Let → List Int → Prop
  | cs, [], cs' => cs = cs'
  | cs, l :: ls, cs' => readyB l.s l.st cs = true ∧ Walk (inc cs l.s) ls cs'
theorem Walk.append : ∀ {a b : List Let} {x y z : List Int}, Walk x a y → Walk y b z → Walk x (a ++ b) z
  | [], b, x, y, z, h1, h2 => by cases h1; exact h2
  | l :: a, b, x, y, z, ⟨h1, h2⟩, h3 => ⟨h1, Walk.append h2 h3⟩
theorem drain_walk : ∀ (k : Nat) (o : Off), Walk o.clock (drain k o).1 (drain k o).2.clock
  | 0, o => rfl
  | k + 1, o => by
    cases hf : firstR o.tray o.clock with
    | none => simp only [drain, hf]; exact rfl
    | some i =>
      obtain ⟨l, hl, hr⟩ := first_some hf
      simp only [drain, hf, hl]
      exact ⟨hr, drain_walk k (handed o i l)⟩
theorem took_walk (o : Off) (l : Let) : Walk o.clock (took o l).1 (took o l).2.clock := by
  have := drain_walk (put o l).tray.length (put o l)
  have e : (put o l).clock = o.clock := by unfold put; split <;> rfl
  rw [e] at this
  exact this
theorem tookAll_walk : ∀ (ls : List Let) (o : Off), Walk o.clock (tookAll o ls).1.flatten (tookAll o ls).2.clock
  | [], o => rfl
  | l :: ls, o => by
    simp only [tookAll, List.flatten_cons]
    exact (took_walk o l).append (tookAll_walk ls _)
theorem Know.row {n : Nat} {ls : List Let} (M : Mail n ls) : ∀ (row : List Let) {kn : List Let} {o : Off}, Know n ls kn o → (∀ l ∈ row, l ∈ ls) → Know n ls (kn ++ (tookAll o row).1.flatten) (tookAll o row).2
  | [], kn, o, K, _ => by simpa [tookAll] using K
  | l :: row, kn, o, K, hs => by
    obtain ⟨g1, g2, g3⟩ := K.took M (hs l List.mem_cons_self)
    have := Know.row M row g1 (fun x hx => hs x (List.mem_cons_of_mem _ hx))
    simp only [tookAll, List.flatten_cons]
    rw [List.append_assoc] at this
    exact this
structure Rep (n : Nat) (c : Crs) : Prop where
  ls : c.lets = sentIn c.evs
  rw_ : ∀ u, u < n → (rowsF (rows0 n) c.evs).getD u [] = (c.off u).clock
  ok : Good n (rows0 n) [] c.evs
  wh : ∀ l ∈ c.lets, okLet n l
theorem rows_step {n u t : Nat} {R : List (List Int)} {l : Let} {b : Bool} (h : R.length = n) (ht : t < n) : (stepR R ⟨b, t, l⟩).getD u [] = if t = u then inc (R.getD t []) l.s else R.getD u [] := by
  unfold stepR
  rw [getD_set (by rw [h]; exact ht)]
theorem walk_rows {n t : Nat} (ht : t < n) : ∀ {ls : List Let} {R : List (List Int)} {cs cs' : List Int}, R.length = n → R.getD t [] = cs → Walk cs ls cs' →
    (∀ u, (rowsF R (ls.map fun l => ⟨false, t, l⟩)).getD u [] = if t = u then cs' else R.getD u [])
  | [], R, cs, cs', hR, hr, h => fun u => by
    cases h
    show R.getD u [] = _
    split
    · next e => rw [← e]; exact hr
    · rfl
  | l :: ls, R, cs, cs', hR, hr, ⟨h1, h2⟩ => fun u => by
    show (rowsF (stepR R ⟨false, t, l⟩) (ls.map fun l => ⟨false, t, l⟩)).getD u [] = _
    rw [walk_rows ht (R := stepR R ⟨false, t, l⟩) (cs := inc cs l.s) (by unfold stepR; rw [List.length_set]; exact hR) (by rw [rows_step hR ht, if_pos rfl, hr]) h2 u, rows_step hR ht]
    split <;> rfl
theorem walk_good {n t : Nat} (ht : t < n) {S : List Let} : ∀ {ls : List Let} {R : List (List Int)} {cs cs' : List Int}, R.length = n → R.getD t [] = cs → Walk cs ls cs' → (∀ l ∈ ls, l ∈ S ∧ l.s ≠ t ∧ Fit n l) → Good n R S (ls.map fun l => ⟨false, t, l⟩)
  | [], R, cs, cs', _, _, _, _ => trivial
  | l :: ls, R, cs, cs', hR, hr, ⟨h1, h2⟩, hm => by
    have hl := hm l List.mem_cons_self
    refine ⟨⟨ht, by show readyB l.s l.st (R.getD t []) = true; rw [hr]; exact h1, hl.2.2, (fun z => by cases z), fun _ => ⟨hl.2.1, hl.1⟩⟩, ?_⟩
    have e : sentIn [⟨false, t, l⟩] = [] := rfl
    rw [e, List.append_nil]
    exact walk_good ht (cs := inc cs l.s) (by unfold stepR; rw [List.length_set]; exact hR) (by rw [rows_step hR ht, if_pos rfl, hr]) h2 (fun x hx => hm x (List.mem_cons_of_mem _ hx))
theorem sentIn_got {t : Nat} : ∀ {ls : List Let}, sentIn (ls.map fun l => ⟨false, t, l⟩) = []
  | [] => rfl
  | l :: ls => by rw [List.map_cons, sentIn_cons, sentIn_got]; rfl
theorem rows0_len {n : Nat} : (rows0 n).length = n := List.length_replicate
/-- what is handed over is known, and is no own letter -/
theorem bring_flat {n t : Nat} {c : Crs} {ls : List Let} (W : Wd n c) (ht : t < n) (hs : ∀ l ∈ ls, l ∈ c.lets) : ∀ l ∈ (tookAll (c.off t) ls).1.flatten, l ∈ c.lets ∧ l.s ≠ t ∧ Fit n l := fun l hl => by
  obtain ⟨⟨kn, K, h1, h2, h3⟩, hn, htr⟩ := W.of t ht
  have K2 := K.row W.ml ls hs
  have hm := K2.gm l (List.mem_append_right _ hl)
  refine ⟨hm, fun e => ?_, W.ml.fit l hm⟩
  have nd := K2.gn
  rw [List.nodup_append] at nd
  exact nd.2.2 l (h1 l hm e) l hl rfl
theorem Rep.bring {n t : Nat} {c : Crs} {ls : List Let} (W : Wd n c) (r : Rep n c) (ht : t < n) (hs : ∀ l ∈ ls, l ∈ c.lets) : Rep n (bringC c t ls).2 := by
  have hR : (rowsF (rows0 n) c.evs).length = n := by rw [rowsF_len, rows0_len]
  have hw := tookAll_walk ls (c.off t)
  have hf := bring_flat W ht hs
  unfold bringC
  dsimp only
  generalize (tookAll (c.off t) ls).1.flatten = fl at hw hf
  generalize (tookAll (c.off t) ls).2 = o' at hw
  refine ⟨?_, fun u hu => ?_, ?_, r.wh⟩
  · show c.lets = sentIn (c.evs ++ _)
    rw [sentIn_append, sentIn_got, List.append_nil]; exact r.ls
  · show (rowsF (rows0 n) (c.evs ++ _)).getD u [] = ((c.offs.set t o').getD u noOff).clock
    rw [rowsF_append, walk_rows ht hR (r.rw_ t ht) hw u, off_set (by rw [W.ln]; exact ht)]
    by_cases e : t = u
    · rw [if_pos e, if_pos e]
    · rw [if_neg e, if_neg e]; exact r.rw_ u hu
  · show Good n (rows0 n) [] (c.evs ++ _)
    refine r.ok.append ?_
    rw [List.nil_append, ← r.ls]
    exact walk_good ht hR (r.rw_ t ht) hw hf
theorem ready_inc {w : Nat} {cs : List Int} (h : w < cs.length) : readyB w (inc cs w) cs = true := by
  unfold readyB
  rw [Bool.and_eq_true, decide_eq_true_eq, List.all_eq_true]
  refine ⟨by rw [getD_inc h, if_pos rfl], fun b hb => ?_⟩
  obtain ⟨k, hk, rfl⟩ := List.mem_map.mp hb
  have hks : k ≠ w := of_decide_eq_true (List.mem_filter.mp hk).2
  refine decide_eq_true ?_
  rw [getD_inc h, if_neg (fun e => hks e.symm)]; omega
theorem Rep.send {n w : Nat} {c : Crs} {x : What} (W : Wd n c) (r : Rep n c) (hw : w < n) (ok : okWhat w n x) : Rep n (sendC c w x).2 := by
  unfold sendC
  by_cases hc : canPay (c.off w) x = true
  · have e : sent1 w (c.off w) x = (some (sentL (c.off w) w x), sentO (payO (c.off w) x) w x) := if_pos hc
    rw [e]
    dsimp only
    have hR : (rowsF (rows0 n) c.evs).length = n := by rw [rowsF_len, rows0_len]
    obtain ⟨⟨kn, K, h1, h2, h3⟩, hn, htr⟩ := W.of w hw
    have hwl : w < (c.off w).clock.length := by rw [K.ck]; exact hw
    have hil : (inc (c.off w).clock w).length = n := by unfold inc; rw [List.length_set]; exact K.ck
    refine ⟨?_, fun u hu => ?_, ?_, fun l hl => ?_⟩
    · show c.lets ++ _ = sentIn (c.evs ++ _)
      rw [sentIn_append, ← r.ls]; rfl
    · show (rowsF (rows0 n) (c.evs ++ [_])).getD u [] = ((c.offs.set w (sentO (payO (c.off w) x) w x)).getD u noOff).clock
      rw [rowsF_append]
      show (stepR (rowsF (rows0 n) c.evs) _).getD u [] = _
      rw [rows_step hR hw, off_set (by rw [W.ln]; exact hw), r.rw_ w hw]
      by_cases e : w = u
      · rw [if_pos e, if_pos e]
        obtain ⟨p1, p2, p3, p4, p5⟩ := payO_book (c.off w) x
        show inc (c.off w).clock w = inc (payO (c.off w) x).clock w
        rw [p3]
      · rw [if_neg e, if_neg e]; exact r.rw_ u hu
    · show Good n (rows0 n) [] (c.evs ++ [_])
      refine r.ok.append ⟨⟨hw, ?_, ⟨hw, hil⟩, fun _ => ⟨rfl, ?_⟩, (fun z => by cases z)⟩, trivial⟩
      · show readyB w (inc (c.off w).clock w) ((rowsF (rows0 n) c.evs).getD w []) = true
        rw [r.rw_ w hw]; exact ready_inc hwl
      · show inc (c.off w).clock w = inc ((rowsF (rows0 n) c.evs).getD w []) w
        rw [r.rw_ w hw]
    · rcases List.mem_append.mp hl with z | z
      · exact r.wh l z
      · have : l = sentL (c.off w) w x := by simpa using z
        subst this
        refine ⟨hw, hil, fun y hy => ?_, ok⟩
        obtain ⟨i, hi, ey⟩ := List.getElem_of_mem (show y ∈ inc (c.off w).clock w from hy)
        have := getD_inc (cs := (c.off w).clock) (s := w) (u := i) hwl
        rw [List.getD_eq_getElem?_getD, List.getElem?_eq_getElem hi, Option.getD_some, ey, K.cl] at this
        rw [this]
        split <;> omega
  · have e : sent1 w (c.off w) x = (none, c.off w) := if_neg hc
    rw [e]
    exact r
theorem Rep.deed {n : Nat} {c : Crs} {d : Deed} (W : Wd n c) (r : Rep n c) (hd : okDeed n d) : Rep n (answer c d).2 := by
  cases d with
  | pay w t m => exact r.send W hd.1 hd.2
  | cut w => exact r.send W hd trivial
  | carry k t =>
    cases e : carried c k with
    | none => simp only [answer, e]; exact r
    | some l =>
      simp only [answer, e]
      refine r.bring W hd fun x hx => ?_
      have : x = l := by simpa using hx
      subst this
      unfold carried at e
      split at e
      · exact List.mem_of_getElem? e
      · cases e
  | bring t => exact r.bring W hd fun x hx => List.mem_reverse.mp hx
theorem Rep.start {n : Nat} {coins : Int} : Rep n (start n coins) := by
  refine ⟨rfl, fun u hu => ?_, trivial, fun _ h => nomatch h⟩
  show (rows0 n).getD u [] = _
  rw [start_off hu]
  unfold rows0
  rw [List.getD_eq_getElem?_getD, List.getElem?_replicate, if_pos hu]; rfl
theorem Rep.run {n : Nat} : ∀ {ds : List Deed} {c : Crs}, Wd n c → Rep n c → (∀ d ∈ ds, okDeed n d) → Wd n (runC c ds) ∧ Rep n (runC c ds)
  | [], c, W, r, _ => ⟨W, r⟩
  | d :: ds, c, W, r, ok => by
    have g := r.deed W (ok d List.mem_cons_self)
    exact Rep.run (ds := ds) (W.do (ok d List.mem_cons_self)) ⟨g.ls, g.rw_, g.ok, g.wh⟩ fun x hx => ok x (List.mem_cons_of_mem _ hx)
/-! ### what was asked -/
end Of

set_option Elab.async false
set_option linter.all false
set_option maxRecDepth 100000
set_option maxHeartbeats 4000000
namespace Of
open PySem PySem.Spec L2 L3 L4
/-! ### what each office knows, event by event -/
def knOf (u : Nat) (es : List Ev) : List Let := (es.filter fun e => decide (e.u = u)).map fun e => e.l
theorem knOf_append {u : Nat} {a b : List Ev} : knOf u (a ++ b) = knOf u a ++ knOf u b := by simp [knOf]
theorem knOf_one {u : Nat} {e : Ev} : knOf u [e] = if e.u = u then [e.l] else [] := by
  by_cases h : e.u = u <;> simp [knOf, h]
def ghost (u : Nat) (cs : List Int) (tr : List Let) : Off := ⟨u, 0, cs, [], tr, []⟩
structure KW (n : Nat) (R : List (List Int)) (S : List Let) (kn : Nat → List Let) : Prop where
  ml : Mail n S
  rl : R.length = n
  kw : ∀ u, u < n → Know n S (kn u) (ghost u (R.getD u []) [])
  ow : ∀ u, u < n → ∀ l ∈ S, l.s = u → l ∈ kn u
theorem KW.start {n : Nat} : KW n (rows0 n) [] (fun u => knOf u []) := by
  refine ⟨Mail.nil, rows0_len, fun u hu => ?_, (fun u hu l hl => nomatch hl)⟩
  have h0 : (rows0 n).getD u [] = List.replicate n 0 := by
    unfold rows0
    rw [List.getD_eq_getElem?_getD, List.getElem?_replicate, if_pos hu]; rfl
  rw [h0]
  refine ⟨(fun l hl => nomatch hl), List.nodup_nil, List.length_replicate, fun v => ?_, (fun l hl => nomatch hl), (fun l hl => nomatch hl), List.nodup_nil⟩
  show (List.replicate n (0 : Int)).getD v 0 = _
  rw [List.getD_eq_getElem?_getD, List.getElem?_replicate]; split <;> rfl
theorem Know.got {n u : Nat} {S kn : List Let} {cs : List Int} {l : Let} (M : Mail n S) (K : Know n S kn (ghost u cs [])) (hl : l ∈ S) (hr : readyB l.s l.st cs = true) : l ∉ kn ∧ Know n S (kn ++ [l]) (ghost u (inc cs l.s) []) := by
  have hn : nameN l = cs.getD l.s 0 + 1 := ready_own hr
  have hnk : l ∉ kn := fun z => by
    have := (K.lo l hl).mpr z
    have : nameN l ≤ cs.getD l.s 0 := this
    omega
  refine ⟨hnk, ?_⟩
  have K1 : Know n S kn (ghost u cs [l]) := ⟨K.gm, K.gn, K.ck, K.cl, K.lo, fun x hx => by
    have : x = l := by simpa [ghost] using hx
    rw [this]; exact ⟨hl, hnk⟩, by simp [ghost]⟩
  have := Know.hand (i := 0) (l := l) M K1 rfl hr
  exact ⟨this.gm, this.gn, this.ck, this.cl, this.lo, (fun x hx => nomatch hx), List.nodup_nil⟩
theorem KW.got {n : Nat} {R : List (List Int)} {S : List Let} {kn : Nat → List Let} {e : Ev} (W : KW n R S kn) (o : Ok n R S e) (hs : e.sent = false) : KW n (stepR R e) S (fun u => kn u ++ knOf u [e]) := by
  refine ⟨W.ml, by unfold stepR; rw [List.length_set]; exact W.rl, fun u hu => ?_, fun u hu l hl hls => List.mem_append_left _ (W.ow u hu l hl hls)⟩
  have er : (stepR R e).getD u [] = if e.u = u then inc (R.getD e.u []) e.l.s else R.getD u [] := by
    unfold stepR
    rw [getD_set (by rw [W.rl]; exact o.u)]
  rw [er, knOf_one]
  by_cases h : e.u = u
  · rw [if_pos h, if_pos h]
    subst h
    exact ((W.kw e.u hu).got W.ml (o.gt hs).2 o.rd).2
  · rw [if_neg h, if_neg h, List.append_nil]
    exact W.kw u hu
theorem KW.sent {n : Nat} {R : List (List Int)} {S : List Let} {kn : Nat → List Let} {e : Ev} (W : KW n R S kn) (o : Ok n R S e) (hs : e.sent = true) : KW n (stepR R e) (S ++ [e.l]) (fun u => kn u ++ knOf u [e]) := by
  obtain ⟨ho, hst⟩ := o.st hs
  have K := W.kw e.u o.u
  have hwl : e.u < (R.getD e.u []).length := by rw [show (R.getD e.u []).length = n from K.ck]; exact o.u
  rw [ho] at hst
  have hI : ∀ v, e.l.st.getD v 0 = (R.getD e.u []).getD v 0 + if e.u = v then 1 else 0 := fun v => by rw [hst]; exact getD_inc hwl
  have hcl : ∀ v, (R.getD e.u []).getD v 0 = (cntS v (kn e.u) : Int) := K.cl
  have hsame : cntS e.u (kn e.u) = cntS e.u S := by
    refine Nat.le_antisymm (cntS_sub K.gn K.gm) ?_
    unfold cntS
    refine sub_len (W.ml.nodup.filter _) fun y hy => ?_
    rw [List.mem_filter] at hy ⊢
    exact ⟨W.ow e.u o.u y hy.1 (of_decide_eq_true hy.2), hy.2⟩
  have hname : nameN e.l = (cntS e.u S : Int) + 1 := by
    unfold nameN
    rw [ho, hI, if_pos rfl, hcl, hsame]
  have hM : Mail n (S ++ [e.l]) := by
    refine W.ml.snoc o.fit (by rw [ho]; exact hname) fun v hv => ?_
    rw [hI, if_neg (fun z => hv (by rw [ho]; exact z.symm)), hcl]
    have := cntS_sub (u := v) K.gn K.gm
    omega
  have hnew : e.l ∉ S := fun z => by
    obtain ⟨j, hj⟩ := List.getElem?_of_mem z
    have h1 := W.ml.num j _ hj
    have h4 := @cntS_mono e.u S (j + 1) (S.length - (j + 1))
    have h3 := (List.getElem?_eq_some_iff.mp hj).1
    rw [show j + 1 + (S.length - (j + 1)) = S.length by omega, List.take_length, take_snoc hj, cntS_append, cntS_one, if_pos ho] at h4
    rw [hname, ho] at h1
    omega
  refine ⟨hM, by unfold stepR; rw [List.length_set]; exact W.rl, fun u hu => ?_, fun u hu l hl hls => ?_⟩
  · have er : (stepR R e).getD u [] = if e.u = u then inc (R.getD e.u []) e.l.s else R.getD u [] := by
      unfold stepR
      rw [getD_set (by rw [W.rl]; exact o.u)]
    rw [er, knOf_one]
    by_cases h : e.u = u
    · subst h
      rw [if_pos rfl, if_pos rfl, ho]
      refine ⟨fun l hl => ?_, ?_, ?_, fun v => ?_, fun l hl => ?_, (fun l hl => nomatch hl), List.nodup_nil⟩
      · rcases List.mem_append.mp hl with z | z
        · exact List.mem_append_left _ (K.gm l z)
        · exact List.mem_append_right _ z
      · rw [List.nodup_append]
        refine ⟨K.gn, by simp, fun a ha b hb e' => ?_⟩
        have : b = e.l := by simpa using hb
        rw [e', this] at ha
        exact hnew (K.gm _ ha)
      · show (inc (R.getD e.u []) e.u).length = n
        unfold inc; rw [List.length_set]; exact K.ck
      · show (inc (R.getD e.u []) e.u).getD v 0 = _
        rw [← hst, hI, hcl, cntS_append, cntS_one, ho]
        split <;> simp
      · show nameN l ≤ (inc (R.getD e.u []) e.u).getD l.s 0 ↔ _
        rw [← hst, hI]
        rcases List.mem_append.mp hl with z | z
        · have hle : nameN l ≤ (R.getD e.u []).getD l.s 0 ↔ l ∈ kn e.u := K.lo l z
          have nl : l ≠ e.l := fun e' => hnew (e' ▸ z)
          by_cases es : e.u = l.s
          · rw [if_pos es]
            have hin := W.ow e.u hu l z es.symm
            have := hle.mpr hin
            exact ⟨fun _ => List.mem_append_left _ hin, fun _ => by omega⟩
          · rw [if_neg es, Int.add_zero, hle]
            constructor
            · exact fun q => List.mem_append_left _ q
            · intro q
              rcases List.mem_append.mp q with q | q
              · exact q
              · exact absurd (by simpa using q) nl
        · have : l = e.l := by simpa using z
          subst this
          refine ⟨fun _ => List.mem_append_right _ z, fun _ => ?_⟩
          rw [hname, ho, if_pos rfl, hcl, hsame]; omega
    · rw [if_neg h, if_neg h, List.append_nil]
      have K' := W.kw u hu
      refine ⟨fun l hl => List.mem_append_left _ (K'.gm l hl), K'.gn, K'.ck, K'.cl, fun l hl => ?_, (fun l hl => nomatch hl), List.nodup_nil⟩
      rcases List.mem_append.mp hl with z | z
      · exact K'.lo l z
      · have : l = e.l := by simpa using z
        subst this
        constructor
        · intro q
          have q : nameN e.l ≤ (R.getD u []).getD e.l.s 0 := q
          have hc' : (R.getD u []).getD e.l.s 0 = (cntS e.l.s (kn u) : Int) := K'.cl e.l.s
          rw [hname, hc', ho] at q
          have := cntS_sub (u := e.u) K'.gn K'.gm
          omega
        · intro q; exact absurd (K'.gm _ q) hnew
  · rw [knOf_one]
    rcases List.mem_append.mp hl with z | z
    · exact List.mem_append_left _ (W.ow u hu l z hls)
    · have : l = e.l := by simpa using z
      subst this
      rw [if_pos (by rw [← ho]; exact hls)]
      exact List.mem_append_right _ (by simp)
theorem KW.step {n : Nat} {R : List (List Int)} {S : List Let} {es : List Ev} {e : Ev} (W : KW n R S (fun u => knOf u es)) (o : Ok n R S e) : KW n (stepR R e) (S ++ sentIn [e]) (fun u => knOf u (es ++ [e])) := by
  have ek : (fun u => knOf u (es ++ [e])) = fun u => knOf u es ++ knOf u [e] := by funext u; exact knOf_append
  rw [ek]
  cases hs : e.sent with
  | true =>
    have : sentIn [e] = [e.l] := by unfold sentIn; simp [hs]
    rw [this]
    exact W.sent o hs
  | false =>
    have : sentIn [e] = [] := by unfold sentIn; simp [hs]
    rw [this, List.append_nil]
    exact W.got o hs
theorem KW.run {n : Nat} : ∀ {b a : List Ev} {R : List (List Int)} {S : List Let}, KW n R S (fun u => knOf u a) → Good n R S b → KW n (rowsF R b) (S ++ sentIn b) (fun u => knOf u (a ++ b))
  | [], a, R, S, W, _ => by simpa [rowsF, sentIn] using W
  | e :: b, a, R, S, W, ⟨h1, h2⟩ => by
    have := KW.run (a := a ++ [e]) (W.step h1) h2
    rw [List.append_assoc, ← sentIn_cons, List.append_assoc] at this
    exact this
theorem KW.at_ {n : Nat} {es : List Ev} (g : Good n (rows0 n) [] es) (i : Nat) : KW n (rowsF (rows0 n) (es.take i)) (sentIn (es.take i)) (fun u => knOf u (es.take i)) := by
  have gi : Good n (rows0 n) [] (es.take i) := by
    have : ∀ {a b : List Ev} {R : List (List Int)} {S : List Let}, Good n R S (a ++ b) → Good n R S a := by
      intro a
      induction a with
      | nil => intro b R S _; trivial
      | cons x a ih => intro b R S h; exact ⟨h.1, ih h.2⟩
    exact this (b := es.drop i) (by rw [List.take_append_drop]; exact g)
  have := KW.run (a := []) KW.start gi
  simpa using this
/-! ### the causes of the letters -/
def causesOf : List Ev → List Ev → List (Let × List Let)
  | _, [] => []
  | a, e :: b => (if e.sent = true then [(e.l, knOf e.u a)] else []) ++ causesOf (a ++ [e]) b
theorem causes_append : ∀ {b c a : List Ev}, causesOf a (b ++ c) = causesOf a b ++ causesOf (a ++ b) c
  | [], c, a => by simp [causesOf]
  | e :: b, c, a => by
    simp only [List.cons_append, causesOf]
    rw [causes_append, List.append_assoc, List.append_assoc]; rfl
theorem causes_fst : ∀ {b a : List Ev}, (causesOf a b).map (·.1) = sentIn b
  | [], a => rfl
  | e :: b, a => by
    simp only [causesOf, List.map_append]
    rw [causes_fst, sentIn_cons]
    congr 1
    cases hs : e.sent <;> simp [sentIn, hs]
/-- what a letter's sender knew -/
def Cau (l : Let) (C : List Let) : Prop := ∀ x ∈ C, (x.s = l.s → nameN x < nameN l) ∧ (x.s ≠ l.s → nameN x ≤ l.st.getD x.s 0)
theorem causes_ok {n : Nat} {es : List Ev} (g : Good n (rows0 n) [] es) : ∀ i, ∀ p ∈ causesOf [] (es.take i), Cau p.1 p.2 ∧ (∀ x ∈ p.2, x ∈ sentIn (es.take i))
  | 0 => fun p hp => by simp [causesOf] at hp
  | i + 1 => fun p hp => by
    cases hi : es[i]? with
    | none =>
      rw [List.take_succ, hi] at hp ⊢
      simp only [Option.toList_none, List.append_nil] at hp ⊢
      exact causes_ok g i p hp
    | some e =>
      rw [take_snoc hi] at hp ⊢
      rw [causes_append] at hp
      rcases List.mem_append.mp hp with z | z
      · obtain ⟨h1, h2⟩ := causes_ok g i p z
        exact ⟨h1, fun x hx => by rw [sentIn_append]; exact List.mem_append_left _ (h2 x hx)⟩
      · simp only [causesOf, List.append_nil, List.nil_append] at z
        split at z
        · next hs =>
          have hp : p = (e.l, knOf e.u (es.take i)) := by simpa using z
          subst hp
          have o := g.at_ hi
          rw [List.nil_append] at o
          have W := KW.at_ g i
          have K := W.kw e.u o.u
          obtain ⟨ho, hst⟩ := o.st hs
          have hwl : e.u < ((rowsF (rows0 n) (es.take i)).getD e.u []).length := by rw [show ((rowsF (rows0 n) (es.take i)).getD e.u []).length = n from K.ck]; exact o.u
          refine ⟨fun x hx => ?_, fun x hx => by rw [sentIn_append]; exact List.mem_append_left _ (K.gm x hx)⟩
          have hx := (K.lo x (K.gm x hx)).mpr hx
          have hx : nameN x ≤ ((rowsF (rows0 n) (es.take i)).getD e.u []).getD x.s 0 := hx
          constructor
          · intro exs
            have exs : x.s = e.l.s := exs
            have hr := ready_own o.rd
            have hr : nameN e.l = _ := hr
            show nameN x < nameN e.l
            rw [hr, ← exs]; omega
          · intro nxs
            have nxs : x.s ≠ e.l.s := nxs
            show nameN x ≤ e.l.st.getD x.s 0
            rw [hst, getD_inc (by rw [ho]; exact hwl), if_neg (fun z => nxs z.symm)]; omega
        · cases z
/-- an event that is got: all that its sender knew is there -/
theorem got_causes {n : Nat} {es : List Ev} {i : Nat} {e : Ev} {C : List Let} (g : Good n (rows0 n) [] es) (hi : es[i]? = some e) (hs : e.sent = false) (hp : (e.l, C) ∈ causesOf [] (es.take i)) : ∀ x ∈ C, x ∈ knOf e.u (es.take i) := fun x hx => by
  have o := g.at_ hi
  rw [List.nil_append] at o
  obtain ⟨h1, h2⟩ := causes_ok g i _ hp
  have W := KW.at_ g i
  have K := W.kw e.u o.u
  refine (K.lo x (h2 x hx)).mp ?_
  show nameN x ≤ ((rowsF (rows0 n) (es.take i)).getD e.u []).getD x.s 0
  by_cases exs : x.s = e.l.s
  · have a1 := (h1 x hx).1 exs
    have a1 : nameN x < nameN e.l := a1
    have hr := ready_own o.rd
    have hr : nameN e.l = _ := hr
    rw [exs]; omega
  · have a1 := (h1 x hx).2 exs
    have a1 : nameN x ≤ e.l.st.getD x.s 0 := a1
    have hrd := o.rd
    unfold readyB at hrd
    rw [Bool.and_eq_true, List.all_eq_true] at hrd
    have hxn : x.s < n := (W.ml.fit x (h2 x hx)).1
    have := hrd.2 (decide (e.l.st.getD x.s 0 ≤ ((rowsF (rows0 n) (es.take i)).getD e.u []).getD x.s 0)) (List.mem_map.mpr ⟨x.s, List.mem_filter.mpr ⟨List.mem_range.mpr (by rw [show ((rowsF (rows0 n) (es.take i)).getD e.u []).length = n from K.ck]; exact hxn), decide_eq_true exs⟩, rfl⟩)
    have := of_decide_eq_true this
    omega
end Of

section
set_option Elab.async false
set_option linter.all false
set_option maxRecDepth 100000
set_option maxHeartbeats 4000000
seal L2.PE L2.PT L2.PW L2.PA L2.PS L2.PSs L2.PG L2.PGs L2.PI L3.PTs L2.PO L2.CallR L2.OpR L2.IxR L2.MtR L2.PSet L2.SlR
namespace Of
open PySem L2 L3 L4 L6 L7
/-! ### shelves and causes -/
abbrev kk (l : Let) : List Key := [.inl (l.s : Int), .inl (nameN l)]
theorem kk_eq {l m : Let} : kk l = kk m ↔ l.s = m.s ∧ nameN l = nameN m := by
  unfold kk
  constructor
  · intro h
    injection h with h1 h2
    injection h2 with h2 _
    exact ⟨Int.ofNat.inj (Sum.inl.inj h1), Sum.inl.inj h2⟩
  · rintro ⟨h1, h2⟩
    rw [h1, h2]
theorem imm_dT {H : Hp} {a : Addr} {k k' : List (List Key × V)} (h : H a = some (.dT k)) : Imm H (upd H a (.dT k')) :=
  ⟨fun b xs hb => (upd_ne (ne_of hb h (by intro z; cases z))).trans hb, fun b u v hb => (upd_ne (ne_of hb h (by intro z; cases z))).trans hb⟩
end Of

end

section
set_option Elab.async false
set_option linter.all false
set_option maxRecDepth 100000
set_option maxHeartbeats 4000000
seal L2.PE L2.PT L2.PW L2.PA L2.PS L2.PSs L2.PG L2.PGs L2.PI L3.PTs L2.PO L2.CallR L2.OpR L2.IxR L2.MtR L2.PSet L2.SlR
namespace Of
open PySem L2 L3 L4 L6
theorem both {b : Bool} {D : Ends} {t : TS} {σ : L2.St} {H : Hp} (Pd : L2.St → Hp → Prop) (tail : ∀ σ' H', Pd σ' H' → D.nx σ' H') (h1 : b = true → (∀ σ' H', Pd σ' H' → D.nx σ' H') → t D σ H) (h2 : b = false → Pd σ H) : if b = true then t D σ H else tNext D σ H := by
  cases b with
  | true => rw [if_pos rfl]; exact h1 rfl tail
  | false => rw [if_neg Bool.false_ne_true]; exact tail σ H (h2 rfl)
def spIsName (K : PySem.W.Frag) : Sp := fun vs H Q _ => ∃ (b : Addr) (s m c : Int), vs = [.ref b, .int c] ∧ SqT K H b [.int s, .int m] ∧ 0 ≤ s ∧ s < c ∧ 0 < m ∧ Q (.bl true) H
def okEv (n : Nat) (e : Ev) : Prop := e.u < n ∧ e.l.s < n ∧ 0 < nameN e.l
def EvAt (K : PySem.W.Frag) (H : Hp) (b : Addr) (e : Ev) : Prop := ∃ c, SqT K H b [.str (if e.sent = true then "sent" else "got"), .int e.u, .ref c] ∧ SqT K H c [.int e.l.s, .int (nameN e.l)]
theorem evAt_iff {K : PySem.W.Frag} {H : Hp} {e : Ev} {v : V} : RepD K H (evD e) v ↔ ∃ b, v = .ref b ∧ EvAt K H b e := by
  unfold evD nameD nmD EvAt
  simp only [RepD, RepDs]
  constructor
  · rintro ⟨a, zs, rfl, h, y1, q1, rfl, rfl, y2, q2, rfl, rfl, y3, q3, rfl, ⟨c, ws, rfl, g, z1, r1, rfl, rfl, z2, r2, rfl, rfl, rfl⟩, rfl⟩
    exact ⟨a, rfl, c, h, g⟩
  · rintro ⟨a, rfl, c, h, g⟩
    exact ⟨a, _, rfl, h, _, _, rfl, rfl, _, _, rfl, rfl, _, _, rfl, ⟨c, _, rfl, g, _, _, rfl, rfl, _, _, rfl, rfl, rfl⟩, rfl⟩
def spAreEvents (K : PySem.W.Frag) : Sp := fun vs H Q _ => ∃ (a : Addr) (xs : List V) (es : List Ev) (n : Nat), vs = [.ref a, .int n] ∧ SqL K H a xs ∧ RepDs K H (es.map evD) xs ∧ (∀ e ∈ es, okEv n e) ∧ Q (.bl true) H
def nnDeed : Deed → Prop
  | .carry i _ => 0 ≤ i
  | _ => True
def spDeedOf (K : PySem.W.Frag) : Sp := fun vs H Q _ => ∃ (x : Int) (k n : Nat), vs = [.int x, .int k, .int n] ∧ 2 ≤ n ∧ k ≤ 1000 ∧ ∀ (b : Addr) (d : Deed) (H' : Hp), okDeed n d → nnDeed d → Same H H' → DeedAt K H' b d → Q (.ref b) H'
def spDrawn (K : PySem.W.Frag) : Sp := fun vs H Q _ => ∃ (a : Addr) (ns : List Int) (n : Nat), vs = [.ref a, .int n] ∧ SqL K H a (nums ns) ∧ 2 ≤ n ∧ ns.length ≤ 200 ∧
  ∀ (l : Addr) (ds : List Deed) (xs : List V) (H' : Hp), ds.length = ns.length → (∀ d ∈ ds, okDeed n d) → (∀ d ∈ ds, nnDeed d) → H l = none → H' l = some (.lst xs) → RepDs K H' (ds.map deedD) xs → Same H H' → Q (.ref l) H'
theorem len4 {a b c d : V} : [a, b, c, d].length ≤ sizeLine := by show 4 ≤ sizeLine; decide
theorem cmulL {i j : Int} (h1 : -(2 ^ 64) < i) (h2 : i < 2 ^ 64) : CMul i j := .inl ⟨h1, h2⟩
theorem shift {n u r : Int} (h1 : 0 ≤ u) (h2 : u < n) (h3 : 0 ≤ r) (h4 : r < n - 1) : 0 ≤ (u + 1 + r) % n ∧ (u + 1 + r) % n < n ∧ (u + 1 + r) % n ≠ u := by
  have e1 := Int.emod_nonneg (u + 1 + r) (by omega : n ≠ 0)
  have e2 := Int.emod_lt_of_pos (u + 1 + r) (by omega : 0 < n)
  refine ⟨e1, e2, fun e => ?_⟩
  by_cases h : u + 1 + r < n
  · rw [Int.emod_eq_of_lt (by omega) h] at e; omega
  · have : (u + 1 + r) % n = u + 1 + r - n := by
      rw [← Int.emod_eq_of_lt (a := u + 1 + r - n) (b := n) (by omega) (by omega)]
      exact (Int.sub_emod_right (u + 1 + r) n).symm
    omega
section
variable {P : Program} {w : World} {K : PySem.W.Frag} {mg : Str → Option Value} {base : Heap} {fW fI : Addr}
theorem oLI : ownB ["_law_found", "_law_count"] (defScope sIsName) = true := by decide +kernel
theorem scLI : FnScope ["_law_found", "_law_count"] ["_law_found", "_law_count"] (defScope sIsName) := ⟨rfl, rfl, rfl, by decide +kernel, rfl, by decide +kernel, by decide +kernel⟩
theorem ok_isname {f : Addr} {fd fdW : FuncData} (F : Fun K "_law_is_name" "_law_is_name" sIsName f fd) (L : Bts mg) (mW : mg "_law_whole" = some (.ref fW)) (FW : Fun K "_law_whole" "_law_whole" sWhole fW fdW) (bW : Binds K fdW ["_law_found"] []) : FnOk P w K mg base CX0 2 f fd ["_law_found", "_law_count"] (spIsName K) := by
  have GW : FnOk P w K mg base CX0 1 fW fdW ["_law_found"] (spWhole K) := ok_whole FW L
  refine okB (body := [stm sIsName 0, stm sIsName 1, stm sIsName 2]) F scLI (fun vs H Q E h => ?_) (by kernel_rfl) (fun cdv A outer s H vs Q E hr h => ?_)
  · obtain ⟨b, s, m, c, rfl, _⟩ := h
    rfl
  · obtain ⟨b, s, m, c, rfl, hb, h0, h1, h2, q⟩ := h
    have hrW := hr
    refine ⟨_, (pss_cons (ps_if (PW.pt (pw_or (pt_not (pt_val (cB call_isiT L.isinstance boot_isi (aC (oV oLI 0) (aC (nT L.tuple boot_tup) pa_nil))))) (pw_or1 (pt_cmpR op_ne (cB (call_len_seq (X := _)) L.len PySem.boot_len (aC (oV oLI 0) pa_nil)) pe_int (nomark _)))))
        (pss_one (ps_ret pe_bl))
        pss_nil)
      (pss_cons (ps_if (PW.pt (pw_or (pt_not (pt_val (cF GW hrW mW FW.kp bW .nil pass0 (aC (iX (ixT K) (oV oLI 0) pe_int) pa_nil)))) (pw_or1 (pt_not (pt_val (cF GW hrW mW FW.kp bW .nil pass0 (aC (iX (ixT K) (oV oLI 0) pe_int) pa_nil)))))))
        (pss_one (ps_ret pe_bl))
        pss_nil)
      (pss_one (ps_ret (pe_and (pe_chain op_le op_lt pe_int (iX (ixT K) (oV oLI 0) pe_int) (oV oLI 1)) (pe_one (pe_cmpR op_gt (iX (ixT K) (oV oLI 0) pe_int) pe_int (nomark _)))))))), ?_⟩
    refine cut3 ?_
    intro rr2 rr1
    refine ⟨_, rfl, b, _, _, _, rfl, hb, kit_tuple, _, rfl, ?_⟩
    refine iteF ?_
    refine ⟨_, rfl, b, _, rfl, .inr hb, rfl, _, rfl, ?_⟩
    refine iteNS rfl ?_
    refine ⟨_, rfl, b, _, 0, _, rfl, rfl, hb, rfl, _, rfl, _, rfl, ?_⟩
    refine iteF ?_
    refine ⟨_, rfl, b, _, 1, _, rfl, rfl, hb, rfl, _, rfl, _, rfl, ?_⟩
    refine iteF ?_
    refine ⟨_, rfl, b, _, 0, _, rfl, rfl, hb, rfl, _, _, rfl, rfl, _, rfl, ?_⟩
    rw [decide_eq_true h0]
    refine iteT ⟨_, rfl, _, _, rfl, rfl, _, rfl, ?_⟩
    rw [decide_eq_true h1]
    refine iteT ⟨_, rfl, b, _, 1, _, rfl, rfl, hb, rfl, _, _, rfl, rfl, ?_⟩
    show Q (V.bl (decide (0 < m))) H
    rw [decide_eq_true h2]
    exact q
theorem oAe : ownB ["_law_found", "_law_count", "_law_event"] (defScope sAreEvents) = true := by decide +kernel
theorem scAe : FnScope ["_law_found", "_law_count", "_law_event"] ["_law_found", "_law_count"] (defScope sAreEvents) := ⟨rfl, rfl, rfl, by decide +kernel, rfl, by decide +kernel, by decide +kernel⟩
theorem ok_areevents {f : Addr} {fd fdW fdI : FuncData} (F : Fun K "_law_are_events" "_law_are_events" sAreEvents f fd) (T : Bts mg) (mW : mg "_law_whole" = some (.ref fW)) (FW : Fun K "_law_whole" "_law_whole" sWhole fW fdW) (bW : Binds K fdW ["_law_found"] [])
    (mI : mg "_law_is_name" = some (.ref fI)) (FI : Fun K "_law_is_name" "_law_is_name" sIsName fI fdI) (bI : Binds K fdI ["_law_found", "_law_count"] []) : FnOk P w K mg base CX0 3 f fd ["_law_found", "_law_count"] (spAreEvents K) := by
  have GW : FnOk P w K mg base CX0 1 fW fdW ["_law_found"] (spWhole K) := ok_whole FW T
  have GI : FnOk P w K mg base CX0 2 fI fdI ["_law_found", "_law_count"] (spIsName K) := ok_isname FI T mW FW bW
  refine okB (body := [stm sAreEvents 0, stm sAreEvents 1, stm sAreEvents 2]) F scAe (fun vs H Q E h => ?_) (by kernel_rfl) (fun cdv A outer s H vs Q E hr h => ?_)
  · obtain ⟨a, xs, es, n, rfl, _⟩ := h
    rfl
  · obtain ⟨a, xs, es, n, rfl, ha, hx, ok, q⟩ := h
    have hr1 := hr.mono (by decide : 1 ≤ 2)
    have hlen : xs.length = es.length := by rw [reps_len hx, List.length_map]
    refine ⟨_, (pss_cons (ps_if (pt_not (pt_val (cB call_isiL T.isinstance boot_isi (aC (oV oAe 0) (aC (nT T.list boot_lst) pa_nil)))))
        (pss_one (ps_ret pe_bl))
        pss_nil)
      (pss_cons (ps_for PassesOwn.never rfl (pi_list (oV oAe 0)) (oT oAe 2)
        (pss_cons (ps_if (PW.pt (pw_or (pt_not (pt_val (cB call_isiT T.isinstance boot_isi (aC (oV oAe 2) (aC (nT T.tuple boot_tup) pa_nil))))) (pw_or (pt_cmpR op_ne (cB (call_len_seq (X := _)) T.len PySem.boot_len (aC (oV oAe 2) pa_nil)) pe_int (nomark _)) (pw_or1 (pt_not (pt_val (cB call_isi T.isinstance boot_isi (aC (iX (ixT K) (oV oAe 2) pe_int) (aC (nT T.str boot_st) pa_nil)))))))))
          (pss_one (ps_ret pe_bl))
          pss_nil)
        (pss_cons (ps_if (PW.pt (pw_or (pt_not (pt_val (cF GW hr1 mW FW.kp bW .nil pass0 (aC (iX (ixT K) (oV oAe 2) pe_int) pa_nil)))) (pw_or (pt_cmpR op_lt (iX (ixT K) (oV oAe 2) pe_int) pe_int (nomark _)) (pw_or1 (pt_cmpR op_ge (iX (ixT K) (oV oAe 2) pe_int) (oV oAe 1) (nomark _))))))
          (pss_one (ps_ret pe_bl))
          pss_nil)
        (pss_one (ps_if (PW.pt (pw_or (pt_not (pt_val (cF GI hr mI FI.kp bI .nil pass0 (aC (iX (ixT K) (oV oAe 2) pe_int) (aC (oV oAe 1) pa_nil))))) (pw_or1 (PW.pt (pw_and (pt_cmpR op_ne (iX (ixT K) (oV oAe 2) pe_int) pe_str (nomark _)) (pw_and1 (pt_cmpR op_ne (iX (ixT K) (oV oAe 2) pe_int) pe_str (nomark _))))))))
          (pss_one (ps_ret pe_bl))
          pss_nil)))))
      (pss_one (ps_ret pe_bl)))), ?_⟩
    refine cut3 ?_
    intro rr2 rr1
    refine ⟨_, rfl, a, _, _, _, rfl, ha, kit_list, _, rfl, iteF ?_⟩
    refine ⟨_, rfl, a, rfl, ⟨_, ha⟩, for_list (K := K) (a := a) (xs := xs) (fun i σ Hc => ∃ u, Hc = H ∧ σ = [some (.ref a), some (.int n), u]) ⟨none, rfl, rfl⟩ (fun i σ Hc _ ⟨u, e, _⟩ => by rw [e]; exact ha) ?_ ?_⟩
    · rintro i y σ Hc hi ⟨u, e, rfl⟩
      cases e
      have hi' : i < es.length := by have := (List.getElem?_eq_some_iff.mp hi).1; omega
      obtain ⟨x', hx', rx⟩ := reps_get hx (i := i) (d := evD es[i]) (by rw [List.getElem?_map, List.getElem?_eq_getElem hi']; rfl)
      rw [hi] at hx'
      cases hx'
      obtain ⟨o1, o2, o3⟩ := ok es[i] (List.getElem_mem hi')
      generalize es[i] = e at o1 o2 o3 rx
      obtain ⟨d, rfl, c, L1, L2⟩ := evAt_iff.mp rx
      refine ⟨_, rfl, d, _, _, _, rfl, L1, kit_tuple, _, rfl, iteF ?_⟩
      refine ⟨_, rfl, d, _, rfl, .inr L1, rfl, _, rfl, iteF ?_⟩
      refine ⟨_, rfl, d, _, 0, _, rfl, rfl, L1, rfl, _, _, _, _, rfl, TyOf.str _, ki_str, _, rfl, iteF ?_⟩
      refine ⟨_, rfl, d, _, 1, _, rfl, rfl, L1, rfl, _, rfl, _, rfl, iteF ?_⟩
      refine ⟨_, rfl, d, _, 1, _, rfl, rfl, L1, rfl, _, _, rfl, rfl, _, rfl, ?_⟩
      rw [decide_eq_false (by omega : ¬ (e.u : Int) < 0)]
      refine iteF ⟨_, rfl, d, _, 1, _, rfl, rfl, L1, rfl, _, rfl, _, _, rfl, rfl, _, rfl, ?_⟩
      rw [decide_eq_false (by omega : ¬ (n : Int) ≤ (e.u : Int))]
      refine iteF ⟨_, rfl, d, _, 2, _, rfl, rfl, L1, rfl, _, rfl, c, e.l.s, nameN e.l, n, rfl, L2, by omega, by omega, o3, _, rfl, iteF ?_⟩
      cases hs : e.sent with
      | true =>
        rw [hs] at L1
        have L1 : SqT K H d [.str "sent", .int e.u, .ref c] := L1
        refine ⟨_, rfl, d, _, 0, _, rfl, rfl, L1, rfl, rfl, _, rfl, ?_⟩
        rw [show (!decide (V.str "sent" = V.str "sent")) = false by decide +kernel]
        exact iteF ⟨_, rfl, rfl⟩
      | false =>
        rw [hs] at L1
        have L1 : SqT K H d [.str "got", .int e.u, .ref c] := L1
        refine ⟨_, rfl, d, _, 0, _, rfl, rfl, L1, rfl, rfl, _, rfl, ?_⟩
        rw [show (!decide (V.str "got" = V.str "sent")) = true by decide +kernel]
        refine iteT ⟨_, rfl, d, _, 0, _, rfl, rfl, L1, rfl, rfl, _, rfl, ?_⟩
        rw [show (!decide (V.str "got" = V.str "got")) = false by decide +kernel]
        exact iteF ⟨_, rfl, rfl⟩
    · rintro σ Hc ⟨u, rfl, rfl⟩
      exact q
theorem oDo : ownB ["_law_cell", "_law_k", "_law_count", "_law_way", "_law_who", "_law_to", "_law_many", "_law_which"] (defScope sDeedOf) = true := by decide +kernel
theorem scDo : FnScope ["_law_cell", "_law_k", "_law_count", "_law_way", "_law_who", "_law_to", "_law_many", "_law_which"] ["_law_cell", "_law_k", "_law_count"] (defScope sDeedOf) := ⟨rfl, rfl, rfl, by decide +kernel, rfl, by decide +kernel, by decide +kernel⟩
theorem ok_deedof {f : Addr} {fd : FuncData} (F : Fun K "_law_deed_of" "_law_deed_of" sDeedOf f fd) (T : Bts mg) : FnOk P w K mg base CX0 1 f fd ["_law_cell", "_law_k", "_law_count"] (spDeedOf K) := by
  refine okB (body := [stm sDeedOf 0, stm sDeedOf 1, stm sDeedOf 2, stm sDeedOf 3, stm sDeedOf 4, stm sDeedOf 5]) F scDo (fun vs H Q E h => ?_) (by kernel_rfl) (fun cdv A outer s H vs Q E hr h => ?_)
  · obtain ⟨x, k, n, rfl, _⟩ := h
    rfl
  · obtain ⟨x, k, n, rfl, n2, k2, fin⟩ := h
    have hn0 : (n : Int) ≠ 0 := by omega
    have hnp : (0 : Int) < (n : Int) := by omega
    refine ⟨_, (pss_cons (oS oDo 3 (pe_op op_mod (pe_op op_mod (pe_op op_mul (oV oDo 0) pe_int) pe_int) pe_int))
      (pss_cons (oS oDo 4 (pe_op op_mod (pe_op op_mod (pe_op op_mul (pe_op op_add (oV oDo 0) (oV oDo 1)) pe_int) pe_int) (oV oDo 2)))
      (pss_cons (ps_if (pt_cmpR op_lt (oV oDo 3) pe_int (nomark _))
        (pss_cons (oS oDo 5 (pe_op op_mod (pe_op op_add (pe_op op_add (oV oDo 4) pe_int) (pe_op op_mod (pe_op op_mod (pe_op op_mul (oV oDo 0) pe_int) pe_int) (pe_op op_sub (oV oDo 2) pe_int))) (oV oDo 2)))
        (pss_cons (oS oDo 6 (pe_op op_mod (pe_op op_mod (pe_op op_mul (oV oDo 0) pe_int) pe_int) pe_int))
        (pss_cons (ps_if (pt_cmpR op_eq (pe_op op_mod (pe_op op_mod (pe_op op_mul (oV oDo 0) pe_int) pe_int) pe_int) pe_int (nomark _))
          (pss_one (oS oDo 6 (iX (ixL K) (pe_lst (aC pe_int (aC (pe_op op_mod (oV oDo 0) (cT L6.call_intT T.int boot_it (aC (pe_op op_add_str pe_str (pe_op L6.op_mulS pe_str pe_int)) pa_nil))) (aC pe_int pa_nil)))) (pe_op op_mod (pe_op op_mod (pe_op op_mul (oV oDo 0) pe_int) pe_int) pe_int))))
          pss_nil)
        (pss_one (ps_ret (pe_tup (aC pe_str (aC (oV oDo 4) (aC (oV oDo 5) (aC (oV oDo 6) pa_nil))))))))))
        pss_nil)
      (pss_cons (ps_if (pt_cmpR op_eq (oV oDo 3) pe_int (nomark _))
        (pss_one (ps_ret (pe_tup (aC pe_str (aC (oV oDo 4) pa_nil)))))
        pss_nil)
      (pss_cons (ps_if (pt_cmpR op_lt (oV oDo 3) pe_int (nomark _))
        (pss_cons (oS oDo 7 (pe_op op_mod (pe_op op_mod (pe_op op_mul (pe_op op_add (oV oDo 0) (pe_op op_mul pe_int (oV oDo 1))) pe_int) pe_int) (pe_op op_add (oV oDo 1) pe_int)))
        (pss_one (ps_ret (pe_tup (aC pe_str (aC (oV oDo 7) (aC (pe_op op_mod (pe_op op_mod (pe_op op_mul (pe_op op_add (oV oDo 0) (oV oDo 1)) pe_int) pe_int) (oV oDo 2)) pa_nil)))))))
        pss_nil)
      (pss_one (ps_ret (pe_tup (aC pe_str (aC (oV oDo 4) pa_nil)))))))))), ?_⟩
    refine cut6 ?_
    intro rr5 rr4 rr3 rr2 rr1
    refine ⟨_, rfl, _, _, rfl, rfl, cmul (by decide) (by decide), _, _, rfl, rfl, (by show (0 : Int) < 1009; decide), _, _, rfl, rfl, (by show (0 : Int) < 8; decide), ?_⟩
    dsimp only
    generalize x * 48271 % 1009 % 8 = way
    refine ⟨_, rfl, _, rfl, _, _, rfl, rfl, _, _, rfl, rfl, cmul (by decide) (by decide), _, _, rfl, rfl, (by show (0 : Int) < 1013; decide), _, rfl, _, _, rfl, rfl, hnp, ?_⟩
    dsimp only
    obtain ⟨u, hu⟩ := Int.eq_ofNat_of_zero_le (Int.emod_nonneg ((x + (k : Int)) * 48271 % 1013) hn0)
    have hun : u < n := by have := Int.emod_lt_of_pos ((x + (k : Int)) * 48271 % 1013) hnp; omega
    rw [hu]
    refine ⟨_, rfl, _, _, rfl, rfl, _, rfl, ite2 (fun h => ?_) (fun h => ?_)⟩
    · refine ⟨_, rfl, _, _, rfl, rfl, _, rfl, _, _, rfl, rfl, cmul (by decide) (by decide), _, _, rfl, rfl, (by show (0 : Int) < 1033; decide), _, rfl, _, _, rfl, rfl, _, _, rfl, rfl, (by show (0 : Int) < (n : Int) - 1; omega), _, _, rfl, rfl, _, rfl, _, _, rfl, rfl, hnp, ?_⟩
      dsimp only
      have hsh := shift (n := (n : Int)) (u := (u : Int)) (r := x * 48271 % 1033 % ((n : Int) - 1)) (by omega) (by omega) (Int.emod_nonneg _ (by omega)) (Int.emod_lt_of_pos _ (by omega))
      obtain ⟨t, ht⟩ := Int.eq_ofNat_of_zero_le hsh.1
      rw [ht] at hsh ⊢
      refine ⟨_, rfl, _, _, rfl, rfl, cmul (by decide) (by decide), _, _, rfl, rfl, (by show (0 : Int) < 1019; decide), _, _, rfl, rfl, (by show (0 : Int) < 7; decide), ?_⟩
      dsimp only
      have hm := Int.emod_nonneg (x * 48271 % 1019) (by decide : (7 : Int) ≠ 0)
      generalize x * 48271 % 1019 % 7 = m0 at hm
      refine ⟨_, rfl, _, _, rfl, rfl, cmul (by decide) (by decide), _, _, rfl, rfl, (by show (0 : Int) < 1087; decide), _, _, rfl, rfl, (by show (0 : Int) < 12; decide), rfl, _, rfl, ?_⟩
      refine both (fun σ' H' => ∃ m : Int, σ' = [some (.int x), some (.int k), some (.int n), some (.int way), some (.int u), some (.int t), some (.int m), none] ∧ Same H H' ∧ 0 ≤ m) ?_ ?_ ?_
      · rintro σ' H' ⟨m, rfl, e, hm⟩
        refine ⟨_, rfl, _, rfl, _, rfl, len4, fun b nb => ?_⟩
        exact fin b (.pay u t m) _ ⟨hun, hm, by omega, by omega, hsh.2.2⟩ trivial (e.trans (same_new nb)) (SqT.of upd_same)
      · intro _ tail
        refine ⟨_, rfl, rfl, rfl, _, _, rfl, rfl, by decide +kernel, _, _, rfl, L6.big20, by decide +kernel, _, _, rfl, rfl, (by show (0 : Int) < 100000000000000000000; decide), len3, fun b nb => ?_⟩
        have h0 := Int.emod_nonneg (x * 48271 % 1091) (by decide : (3 : Int) ≠ 0)
        have h1 := Int.emod_lt_of_pos (x * 48271 % 1091) (by decide : (0 : Int) < 3)
        obtain ⟨r, er⟩ := Int.eq_ofNat_of_zero_le h0
        have hm2 := Int.emod_nonneg x (by decide : (100000000000000000000 : Int) ≠ 0)
        obtain ⟨m, hmr, hm⟩ : ∃ m : Int, ([V.int 25, .int (x % 100000000000000000000), .int 100] : List V)[r]? = some (.int m) ∧ 0 ≤ m := by
          have : r = 0 ∨ r = 1 ∨ r = 2 := by omega
          rcases this with e | e | e <;> subst e
          · exact ⟨25, rfl, by decide⟩
          · exact ⟨_, rfl, hm2⟩
          · exact ⟨100, rfl, by decide⟩
        refine ⟨_, rfl, _, _, rfl, rfl, cmul (by decide) (by decide), _, _, rfl, rfl, (by show (0 : Int) < 1091; decide), _, _, rfl, rfl, (by show (0 : Int) < 3; decide), b, _, _, .int m, rfl, rfl, SqL.of upd_same, ?_, ?_⟩
        · rw [er]; exact atI_nat hmr
        · exact tail _ _ ⟨m, rfl, same_new nb, hm⟩
      · intro _
        exact ⟨m0, rfl, Same.refl _, hm⟩
    · refine ⟨_, rfl, rfl, _, rfl, ite2 (fun h => ?_) (fun h => ?_)⟩
      · refine ⟨_, rfl, len2, fun b nb => ?_⟩
        exact fin b (.cut u) _ hun trivial (same_new nb) (SqT.of upd_same)
      · refine ⟨_, rfl, _, _, rfl, rfl, _, rfl, ite2 (fun h => ?_) (fun h => ?_)⟩
        · refine ⟨_, rfl, _, rfl, _, _, rfl, rfl, cmul (by omega) (by omega), _, _, rfl, rfl, _, _, rfl, rfl, cmul (by decide) (by decide), _, _, rfl, rfl, (by show (0 : Int) < 1021; decide), _, rfl, _, _, rfl, rfl, _, _, rfl, rfl, (by show (0 : Int) < (k : Int) + 1; omega), ?_⟩
          dsimp only
          have hw := Int.emod_nonneg ((x + 3 * (k : Int)) * 48271 % 1021) (by omega : ((k : Int) + 1) ≠ 0)
          generalize (x + 3 * (k : Int)) * 48271 % 1021 % ((k : Int) + 1) = wh at hw
          refine ⟨_, rfl, _, rfl, _, rfl, _, _, rfl, rfl, _, _, rfl, rfl, cmul (by decide) (by decide), _, _, rfl, rfl, (by show (0 : Int) < 1031; decide), _, rfl, _, _, rfl, rfl, hnp, ?_⟩
          dsimp only
          obtain ⟨t, ht⟩ := Int.eq_ofNat_of_zero_le (Int.emod_nonneg ((x + (k : Int)) * 48271 % 1031) hn0)
          have htn : t < n := by have := Int.emod_lt_of_pos ((x + (k : Int)) * 48271 % 1031) hnp; omega
          rw [ht]
          refine ⟨len3, fun b nb => ?_⟩
          exact fin b (.carry wh t) _ htn hw (same_new nb) (SqT.of upd_same)
        · refine ⟨_, rfl, len2, fun b nb => ?_⟩
          exact fin b (.bring u) _ hun trivial (same_new nb) (SqT.of upd_same)
theorem oDr : ownB ["_law_cells", "_law_count", "_law_deeds", "_law_k"] (defScope sDrawn) = true := by decide +kernel
theorem scDr : FnScope ["_law_cells", "_law_count", "_law_deeds", "_law_k"] ["_law_cells", "_law_count"] (defScope sDrawn) := ⟨rfl, rfl, rfl, by decide +kernel, rfl, by decide +kernel, by decide +kernel⟩
theorem ok_drawn {f fD : Addr} {fd fdD : FuncData} (F : Fun K "_law_drawn" "_law_drawn" sDrawn f fd) (T : Bts mg) (mD : mg "_law_deed_of" = some (.ref fD)) (FD : Fun K "_law_deed_of" "_law_deed_of" sDeedOf fD fdD) (bD : Binds K fdD ["_law_cell", "_law_k", "_law_count"] []) : FnOk P w K mg base CX0 2 f fd ["_law_cells", "_law_count"] (spDrawn K) := by
  have GD : FnOk P w K mg base CX0 1 fD fdD ["_law_cell", "_law_k", "_law_count"] (spDeedOf K) := ok_deedof FD T
  refine okB (body := [stm sDrawn 0, stm sDrawn 1, stm sDrawn 2]) F scDr (fun vs H Q E h => ?_) (by kernel_rfl) (fun cdv A outer s H vs Q E hr h => ?_)
  · obtain ⟨a, ns, n, rfl, _⟩ := h
    rfl
  · obtain ⟨a, ns, n, rfl, ha, n2, hl, fin⟩ := h
    refine ⟨_, (pss_cons (oS oDr 2 (pe_lst pa_nil))
      (pss_cons (ps_for PassesOwn.never rfl (rng1 T.range (aC (cB (call_len_seq (X := _)) T.len PySem.boot_len (aC (oV oDr 0) pa_nil)) pa_nil)) (oT oDr 3)
        (pss_one (ps_expr (mApp (oV oDr 2) (cF GD hr mD FD.kp bD .nil pass0 (aC (pe_op op_add (iX (ixL K) (oV oDr 0) (oV oDr 3)) (pe_op op_mul pe_int (oV oDr 3))) (aC (oV oDr 3) (aC (oV oDr 1) pa_nil))))))))
      (pss_one (ps_ret (oV oDr 2))))), ?_⟩
    refine cut3 ?_
    intro rr2 rr1
    refine ⟨len0, fun l nl => ?_⟩
    have s0 := same_new (o := .lst []) nl
    have hlen : (nums ns).length = ns.length := List.length_map ..
    refine ⟨_, rfl, a, _, rfl, .inl (s0.seq ha), _, rfl, by omega, by rw [hlen]; omega, for_range (n := (((nums ns).length : Nat) : Int).toNat) (lo := 0) (fun i σ Hc => ∃ (v : Option V) (ds : List Deed) (xs : List V), σ = [some (.ref a), some (.int n), some (.ref l), v] ∧ ds.length = i ∧ (∀ d ∈ ds, okDeed n d) ∧ (∀ d ∈ ds, nnDeed d) ∧ Hc l = some (.lst xs) ∧ RepDs K Hc (ds.map deedD) xs ∧ Same H Hc)
      ⟨none, [], [], rfl, rfl, (fun _ h => nomatch h), (fun _ h => nomatch h), upd_same, rfl, s0⟩ ?_ ?_⟩
    · rintro i σ Hc hi ⟨v, ds, xs, rfl, hd, ok, nn, hlc, hxs, e⟩
      have hi' : i < ns.length := by
        have : i < (nums ns).length := by simpa using hi
        omega
      have xl := reps_len hxs
      rw [List.length_map] at xl
      refine ⟨_, rfl, .inl ⟨rfl, _, SqL.of hlc⟩, _, rfl, _, rfl, a, _, ((i : Nat) : Int), .int (ns.getD i 0), rfl, by rw [Int.zero_add], e.seq ha, atI_nat (get_nums hi'), _, rfl, _, _, rfl, rfl, cmulL (by decide) (by decide), _, _, rfl, rfl, _, rfl, _, rfl, ns.getD i 0 + 5 * (i : Int), i, n, (by rw [Int.zero_add]; rfl), n2, by omega, fun b d H1 okd nnd e1 D => ?_⟩
      refine ⟨l, xs, .ref b, rfl, rfl, e1 _ _ hlc, small1000 (by omega), _, ds ++ [d], xs ++ [.ref b], rfl, by rw [List.length_append, hd]; rfl, fun x hx => ?_, fun x hx => ?_, upd_same, ?_, same_upd (e.trans e1) nl⟩
      · rcases List.mem_append.mp hx with z | z
        · exact ok x z
        · have : x = d := by simpa using z
          rw [this]; exact okd
      · rcases List.mem_append.mp hx with z | z
        · exact nn x z
        · have : x = d := by simpa using z
          rw [this]; exact nnd
      · rw [List.map_append, List.map_singleton]
        exact RepDs.imm (imm_lst (e1 _ _ hlc)) _ _ (by rw [← List.map_singleton, ← List.map_append]; exact noList_deeds _) (reps_append (RepDs.same e1 _ _ hxs) (reps_one (deedAt_iff.mpr ⟨b, rfl, D⟩)))
    · rintro σ Hc ⟨v, ds, xs, rfl, hd, ok, nn, hlc, hxs, e⟩
      refine ⟨_, rfl, fin l ds xs Hc ?_ ok nn nl hlc hxs e⟩
      rw [hd, Int.toNat_natCast, hlen]
end
end Of

end

set_option Elab.async false
set_option linter.all false
set_option maxRecDepth 100000
set_option maxHeartbeats 4000000
namespace Of
open PySem PySem.Spec L2 L3 L4
/-! ### all there in the end -/
theorem Know.empty {n : Nat} {ls got : List Let} {o : Off} (M : Mail n ls) (T : Know n ls got o) (hall : ∀ l ∈ ls, l ∈ got ∨ l ∈ o.tray) (hf : firstR o.tray o.clock = none) : o.tray = [] := by
  have key : ∀ (m j : Nat) (l : Let), j ≤ m → ls[j]? = some l → l ∈ got := by
    intro m
    induction m with
    | zero =>
      intro j l hj hl
      have : j = 0 := by omega
      subst this
      refine Classical.byContradiction fun hg => ?_
      have ht := (hall l (List.mem_of_getElem? hl)).resolve_left hg
      have hnot := List.findIdx?_eq_none_iff.mp hf l ht
      have hlo := (not_congr (T.lo l (List.mem_of_getElem? hl))).mpr hg
      have hnm := M.num 0 l hl
      have hz : ∀ u, (cntS u (ls.take 0) : Int) = 0 := fun u => by simp [cntS]
      rw [hz] at hnm
      refine absurd hnot ?_
      rw [Bool.not_eq_false]
      unfold readyB
      rw [Bool.and_eq_true, decide_eq_true_eq, List.all_eq_true]
      have hc0 : 0 ≤ o.clock.getD l.s 0 := by rw [T.cl]; omega
      refine ⟨by show nameN l = _; omega, fun b hb => ?_⟩
      obtain ⟨k, hk, rfl⟩ := List.mem_map.mp hb
      have hks : k ≠ l.s := of_decide_eq_true (List.mem_filter.mp hk).2
      have := M.cause 0 l k hl hks
      rw [hz] at this
      refine decide_eq_true ?_
      rw [T.cl]; omega
    | succ m ih =>
      intro j l hj hl
      rcases Nat.lt_or_ge j (m + 1) with hlt | hge
      · exact ih j l (by omega) hl
      · have hjm : j = m + 1 := by omega
        have hcl : ∀ u, (cntS u (ls.take j) : Int) ≤ o.clock.getD u 0 := fun u => by
          cases hc : cntS u (ls.take j) with
          | zero => rw [T.cl]; omega
          | succ k =>
            obtain ⟨i, l', h1, h2, h3, h4⟩ := M.last j k hc
            have hg := ih i l' (by omega) h2
            have := (T.lo l' (List.mem_of_getElem? h2)).mpr hg
            rw [h3, h4] at this
            omega
        refine Classical.byContradiction fun hg => ?_
        have ht := (hall l (List.mem_of_getElem? hl)).resolve_left hg
        have hnot := List.findIdx?_eq_none_iff.mp hf l ht
        have hlo := (not_congr (T.lo l (List.mem_of_getElem? hl))).mpr hg
        have hnm := M.num j l hl
        refine absurd hnot ?_
        rw [Bool.not_eq_false]
        unfold readyB
        rw [Bool.and_eq_true, decide_eq_true_eq, List.all_eq_true]
        have hcs := hcl l.s
        refine ⟨by show nameN l = _; omega, fun b hb => ?_⟩
        obtain ⟨k, hk, rfl⟩ := List.mem_map.mp hb
        have hks : k ≠ l.s := of_decide_eq_true (List.mem_filter.mp hk).2
        have h1 := M.cause j l k hl hks
        have h2 := hcl k
        exact decide_eq_true (Int.le_trans h1 h2)
  cases ht : o.tray with
  | nil => rfl
  | cons l r =>
    have hm := T.tm l (by rw [ht]; exact List.mem_cons_self)
    obtain ⟨j, hj⟩ := List.getElem?_of_mem hm.1
    exact absurd (key j j l (Nat.le_refl _) hj) hm.2
def Full (u : Nat) (c : Crs) : Prop := (c.off u).tray = [] ∧ ∀ l ∈ c.lets, nameN l ≤ (c.off u).clock.getD l.s 0
theorem Know.lets {n : Nat} {ls got : List Let} {o : Off} (M : Mail n ls) (T : Know n ls got o) (row : List Let) (hr : ∀ l ∈ row, l ∈ ls) (ha : ∀ l ∈ ls, l ∈ row) : (tookAll o row).2.tray = [] ∧ ∀ l ∈ ls, nameN l ≤ (tookAll o row).2.clock.getD l.s 0 := by
  have key : Know n ls (got ++ (tookAll o row).1.flatten) (tookAll o row).2 ∧ (∀ x, (x ∈ got ∨ x ∈ o.tray ∨ x ∈ row) → x ∈ got ++ (tookAll o row).1.flatten ∨ x ∈ (tookAll o row).2.tray) ∧ firstR (tookAll o row).2.tray (tookAll o row).2.clock = none := by
    cases row with
    | nil =>
      refine Know.all M [] T hr ?_
      have : o.tray = [] := by
        cases ht : o.tray with
        | nil => rfl
        | cons l r => exact absurd (ha l (T.tm l (by rw [ht]; exact List.mem_cons_self)).1) (by simp)
      rw [this]; rfl
    | cons l row =>
      obtain ⟨h1, h2, h3⟩ := T.took M (hr l List.mem_cons_self)
      obtain ⟨g1, g2, g3⟩ := Know.all M row h1 (fun x hx => hr x (List.mem_cons_of_mem _ hx)) h3
      simp only [tookAll, List.flatten_cons]
      rw [List.append_assoc] at g1 g2
      refine ⟨g1, fun x hx => g2 x ?_, g3⟩
      rcases hx with z | z | z
      · exact (h2 x (.inl z)).elim .inl fun y => .inr (.inl y)
      · exact (h2 x (.inr (.inl z))).elim .inl fun y => .inr (.inl y)
      · rcases List.mem_cons.mp z with z | z
        · exact (h2 x (.inr (.inr z))).elim .inl fun y => .inr (.inl y)
        · exact .inr (.inr z)
  obtain ⟨K, h2, h3⟩ := key
  have he := K.empty M (fun l hl => h2 l (.inr (.inr (ha l hl)))) h3
  refine ⟨he, fun l hl => (K.lo l hl).mpr ?_⟩
  rcases h2 l (.inr (.inr (ha l hl))) with z | z
  · exact z
  · rw [he] at z; exact absurd z (by simp)
theorem bring_full {n t : Nat} {c : Crs} (W : Wd n c) (ht : t < n) : Full t (bringC c t c.lets.reverse).2 := by
  obtain ⟨⟨kn, K, _⟩, _, _⟩ := W.of t ht
  have := K.lets W.ml c.lets.reverse (fun l hl => List.mem_reverse.mp hl) (fun l hl => List.mem_reverse.mpr hl)
  unfold Full
  rw [show (bringC c t c.lets.reverse).2.off t = (tookAll (c.off t) c.lets.reverse).2 by
    show (c.offs.set t (tookAll (c.off t) c.lets.reverse).2).getD t noOff = _
    rw [off_set (by rw [W.ln]; exact ht), if_pos rfl]]
  exact this
theorem bring_keep {n t u : Nat} {c : Crs} (W : Wd n c) (ht : t < n) (F : Full u c) : Full u (bringC c t c.lets.reverse).2 := by
  by_cases e : t = u
  · subst e; exact bring_full W ht
  · unfold Full
    rw [show (bringC c t c.lets.reverse).2.off u = c.off u by
      show (c.offs.set t (tookAll (c.off t) c.lets.reverse).2).getD u noOff = _
      rw [off_set (by rw [W.ln]; exact ht), if_neg e]]
    exact F
theorem brings_full {n u : Nat} : ∀ {ts : List Nat} {c : Crs}, Wd n c → (∀ t ∈ ts, t < n) → (u ∈ ts ∨ Full u c) → Full u (runC c (ts.map Deed.bring))
  | [], c, W, _, h => h.resolve_left (by simp)
  | t :: ts, c, W, ht, h => by
    have h1 := ht t List.mem_cons_self
    refine brings_full (ts := ts) (c := doC c (.bring t)) (W.do h1) (fun x hx => ht x (List.mem_cons_of_mem _ hx)) ?_
    rcases h with h | h
    · rcases List.mem_cons.mp h with h | h
      · subst h; exact .inr (bring_full W h1)
      · exact .inl h
    · exact .inr (bring_keep W h1 h)
/-- all is known -/
theorem full_kn {n u : Nat} {c : Crs} (R : Rep n c) (hu : u < n) (F : Full u c) : (knOf u c.evs).Perm c.lets := by
  have W' := KW.at_ R.ok c.evs.length
  rw [List.take_length, ← R.ls] at W'
  have K := W'.kw u hu
  refine same_perm K.gn W'.ml.nodup fun x => ⟨fun h => K.gm x h, fun h => ?_⟩
  refine (K.lo x h).mp ?_
  show nameN x ≤ ((rowsF (rows0 n) c.evs).getD u []).getD x.s 0
  rw [R.rw_ u hu]
  exact F.2 x h
/-! ### coins -/
def val (u : Nat) (l : Let) : Int := match l.w with
  | .cut => 0
  | .pay t m => if l.s = u then -m else if t = (u : Int) then m else 0
structure Coin (n : Nat) (c0 : Int) (c : Crs) : Prop where
  eq : ∀ u, u < n → (c.off u).coins = c0 + sumF (val u) (knOf u c.evs)
  nn : ∀ u, u < n → 0 ≤ (c.off u).coins
theorem drain_coins : ∀ (k : Nat) (o : Off), (drain k o).2.coins = o.coins + sumF (fun l => coinsFor o.num l.w) (drain k o).1 ∧ (drain k o).2.num = o.num
  | 0, o => by simp [drain, sumF]
  | k + 1, o => by
    cases hf : firstR o.tray o.clock with
    | none => simp [drain, hf, sumF]
    | some i =>
      obtain ⟨l, hl, hr⟩ := first_some hf
      simp only [drain, hf, hl]
      obtain ⟨h1, h2⟩ := drain_coins k (handed o i l)
      have e1 : (handed o i l).coins = o.coins + coinsFor o.num l.w := by unfold handed wrote; rfl
      have e2 : (handed o i l).num = o.num := by unfold handed wrote; rfl
      rw [h1, h2, e1, e2]
      simp only [sumF]
      exact ⟨by omega, trivial⟩
theorem took_coins (o : Off) (l : Let) : (took o l).2.coins = o.coins + sumF (fun l => coinsFor o.num l.w) (took o l).1 ∧ (took o l).2.num = o.num := by
  have := drain_coins (put o l).tray.length (put o l)
  have e : (put o l).coins = o.coins ∧ (put o l).num = o.num := by unfold put; split <;> exact ⟨rfl, rfl⟩
  rw [e.1, e.2] at this
  exact this
theorem tookAll_coins : ∀ (ls : List Let) (o : Off), (tookAll o ls).2.coins = o.coins + sumF (fun l => coinsFor o.num l.w) (tookAll o ls).1.flatten
  | [], o => by simp [tookAll, sumF]
  | l :: ls, o => by
    have h1 := took_coins o l
    have h2 := tookAll_coins ls (took o l).2
    simp only [tookAll, List.flatten_cons]
    rw [h2, h1.1, h1.2, sumF_append]; omega
theorem sumF_congr {f g : Let → Int} : ∀ {ls : List Let}, (∀ l ∈ ls, f l = g l) → sumF f ls = sumF g ls
  | [], _ => rfl
  | l :: ls, h => by
    simp only [sumF]
    rw [h l List.mem_cons_self, sumF_congr fun x hx => h x (List.mem_cons_of_mem _ hx)]
theorem sumF_nn {f : Let → Int} : ∀ {ls : List Let}, (∀ l ∈ ls, 0 ≤ f l) → 0 ≤ sumF f ls
  | [], _ => Int.le_refl _
  | l :: ls, h => by
    simp only [sumF]
    have h1 := h l List.mem_cons_self
    have h2 := sumF_nn fun x hx => h x (List.mem_cons_of_mem _ hx)
    omega
theorem kn_got {u t : Nat} : ∀ {ls : List Let}, knOf u (ls.map fun l => (⟨false, t, l⟩ : Ev)) = if t = u then ls else []
  | [] => by simp [knOf]
  | l :: ls => by
    have := @kn_got u t ls
    rw [List.map_cons, show (⟨false, t, l⟩ : Ev) :: (ls.map fun l => (⟨false, t, l⟩ : Ev)) = [⟨false, t, l⟩] ++ (ls.map fun l => (⟨false, t, l⟩ : Ev)) from rfl, knOf_append, this, knOf_one]
    by_cases e : t = u
    · rw [if_pos e, if_pos e, if_pos e]; rfl
    · rw [if_neg e, if_neg e, if_neg e]; rfl
theorem Coin.bring {n t : Nat} {c0 : Int} {c : Crs} {ls : List Let} (C : Coin n c0 c) (W : Wd n c) (R' : Rep n (bringC c t ls).2) (ht : t < n) : Coin n c0 (bringC c t ls).2 := by
  have hev : ∀ l ∈ (tookAll (c.off t) ls).1.flatten, l.s ≠ t ∧ l ∈ c.lets := fun l hl => by
    have hm : (⟨false, t, l⟩ : Ev) ∈ (bringC c t ls).2.evs := List.mem_append_right _ (List.mem_map.mpr ⟨l, hl, rfl⟩)
    obtain ⟨i, hi⟩ := List.getElem?_of_mem hm
    have o := R'.ok.at_ hi
    refine ⟨(o.gt rfl).1, ?_⟩
    have h2 := (o.gt rfl).2
    rw [List.nil_append] at h2
    have : (bringC c t ls).2.lets = c.lets := rfl
    rw [← this, R'.ls]
    have ht' := List.take_append_drop i (bringC c t ls).2.evs
    rw [← ht', sentIn_append]
    exact List.mem_append_left _ h2
  have hco := tookAll_coins ls (c.off t)
  have hnum : (c.off t).num = (t : Int) := (W.of t ht).num
  have hwh : ∀ l ∈ c.lets, okLet n l := R'.wh
  have off_eq : ∀ u, (bringC c t ls).2.off u = if t = u then (tookAll (c.off t) ls).2 else c.off u := fun u => by
    show (c.offs.set t (tookAll (c.off t) ls).2).getD u noOff = _
    exact off_set (by rw [W.ln]; exact ht)
  have kn_eq : ∀ u, knOf u (bringC c t ls).2.evs = knOf u c.evs ++ if t = u then (tookAll (c.off t) ls).1.flatten else [] := fun u => by
    show knOf u (c.evs ++ _) = _
    rw [knOf_append, kn_got]
  have vals : sumF (val t) (tookAll (c.off t) ls).1.flatten = sumF (fun l => coinsFor (c.off t).num l.w) (tookAll (c.off t) ls).1.flatten := by
    refine sumF_congr fun l hl => ?_
    unfold val coinsFor
    rw [hnum]
    cases l.w with
    | cut => rfl
    | pay t' m => dsimp only; rw [if_neg (hev l hl).1]
  refine ⟨fun u hu => ?_, fun u hu => ?_⟩
  · rw [off_eq, kn_eq]
    by_cases e : t = u
    · subst e
      rw [if_pos rfl, if_pos rfl, sumF_append, hco, C.eq t hu, vals]; omega
    · rw [if_neg e, if_neg e, List.append_nil]; exact C.eq u hu
  · rw [off_eq]
    by_cases e : t = u
    · subst e
      rw [if_pos rfl, hco]
      have h1 := C.nn t hu
      have h2 : 0 ≤ sumF (fun l => coinsFor (c.off t).num l.w) (tookAll (c.off t) ls).1.flatten := sumF_nn fun l hl => by
        have := (hwh l (hev l hl).2).2.2.2
        revert this
        unfold coinsFor okWhat
        cases l.w with
        | cut => intro _; exact Int.le_refl _
        | pay t' m =>
          intro h
          have h : 0 ≤ m ∧ 0 ≤ t' ∧ t' < (n : Int) ∧ t' ≠ (l.s : Int) := h
          show 0 ≤ if t' = (c.off t).num then m else 0
          split
          · exact h.1
          · exact Int.le_refl _
      omega
    · rw [if_neg e]; exact C.nn u hu
theorem Coin.send {n w : Nat} {c0 : Int} {c : Crs} {x : What} (C : Coin n c0 c) (W : Wd n c) (hw : w < n) (hx : okWhat w n x) : Coin n c0 (sendC c w x).2 := by
  unfold sendC sent1
  by_cases hc : canPay (c.off w) x = true
  · rw [if_pos hc]
    dsimp only
    have oc : (sentO (payO (c.off w) x) w x).coins = (payO (c.off w) x).coins := by unfold sentO wrote; rfl
    have off_eq : ∀ u, ((⟨c.offs.set w (sentO (payO (c.off w) x) w x), c.lets ++ [sentL (c.off w) w x], c.evs ++ [⟨true, w, sentL (c.off w) w x⟩], c.ans⟩ : Crs)).off u = if w = u then sentO (payO (c.off w) x) w x else c.off u := fun u => by
      show (c.offs.set w _).getD u noOff = _
      exact off_set (by rw [W.ln]; exact hw)
    have hv : val w (sentL (c.off w) w x) = (payO (c.off w) x).coins - (c.off w).coins := by
      unfold val sentL payO
      cases x with
      | cut => dsimp only; omega
      | pay t m => dsimp only; rw [if_pos rfl]; omega
    refine ⟨fun u hu => ?_, fun u hu => ?_⟩
    · rw [off_eq]
      show _ = c0 + sumF (val u) (knOf u (c.evs ++ [⟨true, w, sentL (c.off w) w x⟩]))
      rw [knOf_append, knOf_one]
      by_cases e : w = u
      · subst e
        rw [if_pos rfl, if_pos rfl, sumF_append, oc]
        have := C.eq w hu
        simp only [sumF]
        rw [hv]; omega
      · rw [if_neg e, if_neg e, List.append_nil]; exact C.eq u hu
    · rw [off_eq]
      by_cases e : w = u
      · subst e
        rw [if_pos rfl, oc]
        have h1 := C.nn w hu
        unfold payO
        cases x with
        | cut => exact h1
        | pay t m =>
          have : m ≤ (c.off w).coins := of_decide_eq_true hc
          show 0 ≤ (c.off w).coins - m
          omega
      · rw [if_neg e]; exact C.nn u hu
  · rw [if_neg hc]; exact C
theorem Coin.deed {n : Nat} {c0 : Int} {c : Crs} {d : Deed} (C : Coin n c0 c) (W : Wd n c) (R : Rep n c) (hd : okDeed n d) : Coin n c0 (answer c d).2 := by
  have R' := R.deed W hd
  cases d with
  | pay w t m => exact C.send W hd.1 hd.2
  | cut w => exact C.send W hd trivial
  | carry k t =>
    cases e : carried c k with
    | none => simp only [answer, e]; exact C
    | some l =>
      simp only [answer, e] at R' ⊢
      exact C.bring W R' hd
  | bring t => exact C.bring W R' hd
theorem Coin.start {n : Nat} {c0 : Int} (h : 0 ≤ c0) : Coin n c0 (start n c0) := by
  refine ⟨fun u hu => ?_, fun u hu => ?_⟩
  · rw [start_off hu]
    show c0 = c0 + sumF (val u) (knOf u [])
    simp [knOf, sumF]
  · rw [start_off hu]; exact h
/-! ### sums over the offices -/
def tot (f : Nat → Int) : Nat → Int
  | 0 => 0
  | k + 1 => tot f k + f k
theorem tot_congr {f g : Nat → Int} : ∀ {k : Nat}, (∀ u, u < k → f u = g u) → tot f k = tot g k
  | 0, _ => rfl
  | k + 1, h => by simp only [tot]; rw [tot_congr fun u hu => h u (by omega), h k (by omega)]
theorem tot_add {f g : Nat → Int} : ∀ {k : Nat}, tot (fun u => f u + g u) k = tot f k + tot g k
  | 0 => rfl
  | k + 1 => by simp only [tot]; rw [tot_add]; omega
theorem tot_const {x : Int} : ∀ {k : Nat}, tot (fun _ => x) k = (k : Int) * x
  | 0 => by simp [tot]
  | k + 1 => by simp only [tot]; rw [tot_const, Int.natCast_succ, Int.add_mul, Int.one_mul]
theorem tot_ind {x : Int} {a : Int} : ∀ {k : Nat}, tot (fun u => if a = (u : Int) then x else 0) k = if 0 ≤ a ∧ a < (k : Int) then x else 0
  | 0 => by
    simp only [tot]
    rw [if_neg (by omega)]
  | k + 1 => by
    simp only [tot]
    rw [tot_ind]
    by_cases h : a = (k : Int)
    · rw [if_pos h, if_neg (by omega), if_pos (by omega)]; omega
    · rw [if_neg h]
      by_cases h2 : 0 ≤ a ∧ a < (k : Int)
      · rw [if_pos h2, if_pos (by omega)]; omega
      · rw [if_neg h2, if_neg (by omega)]; rfl
/-! ### who sent what -/
end Of

set_option Elab.async false
set_option linter.all false
set_option maxRecDepth 100000
set_option maxHeartbeats 4000000
namespace Of
open PySem PySem.Spec L2 L3 L4
/-! ### the causes of a letter, by its stamp -/
theorem causes_at : ∀ {b a : List Ev} {p : Let × List Let}, p ∈ causesOf a b → ∃ i e, b[i]? = some e ∧ e.sent = true ∧ p = (e.l, knOf e.u (a ++ b.take i))
  | [], a, p, h => by simp [causesOf] at h
  | e :: b, a, p, h => by
    simp only [causesOf] at h
    rcases List.mem_append.mp h with z | z
    · by_cases hs : e.sent = true
      · rw [if_pos hs] at z
        exact ⟨0, e, rfl, hs, by simpa using z⟩
      · rw [if_neg hs] at z
        exact absurd z (by simp)
    · obtain ⟨i, e', h1, h2, h3⟩ := causes_at z
      refine ⟨i + 1, e', by simpa using h1, h2, ?_⟩
      rw [h3, List.take_succ_cons, List.append_assoc]; rfl
end Of

set_option Elab.async false
set_option linter.all false
set_option maxRecDepth 100000
set_option maxHeartbeats 4000000
namespace Of
open PySem PySem.Spec L2 L3 L4
/-! ### what was kept -/
def clk (n : Nat) (p : List Let) : List Int := (List.range n).map fun s => (cntS s p : Int)
theorem clk_len {n : Nat} {p : List Let} : (clk n p).length = n := by unfold clk; rw [List.length_map, List.length_range]
theorem clk_get {n s : Nat} {p : List Let} (h : s < n) : (clk n p).getD s 0 = (cntS s p : Int) := by
  unfold clk
  rw [List.getD_eq_getElem?_getD, List.getElem?_map, List.getElem?_range h]; rfl
theorem clk_of {n : Nat} {p : List Let} {cs : List Int} (h : cs.length = n) (h2 : ∀ s, s < n → cs.getD s 0 = (cntS s p : Int)) : cs = clk n p := by
  refine List.ext_getElem (by rw [h, clk_len]) fun s h1 h3 => ?_
  have e1 := h2 s (by omega)
  have e2 := clk_get (n := n) (p := p) (s := s) (by omega)
  rw [List.getD_eq_getElem?_getD, List.getElem?_eq_getElem h1] at e1
  rw [List.getD_eq_getElem?_getD, List.getElem?_eq_getElem h3] at e2
  exact (show cs[s] = _ from e1).trans (show (clk n p)[s] = _ from e2).symm
theorem inc_clk {n : Nat} {p : List Let} {l : Let} (h : l.s < n) : inc (clk n p) l.s = clk n (p ++ [l]) := by
  refine clk_of (by unfold inc; rw [List.length_set, clk_len]) fun s hs => ?_
  rw [getD_inc (by rw [clk_len]; exact h), clk_get hs, cntS_append, cntS_one]
  split <;> simp
def kps (n : Nat) (c0 : Int) (u : Nat) : List Let → List Let → List PyData
  | _, [] => []
  | pre, l :: ls => (if l.w = .cut then [keptD l (c0 + sumF (val u) (pre ++ [l])) (clk n (pre ++ [l]))] else []) ++ kps n c0 u (pre ++ [l]) ls
theorem kps_append {n u : Nat} {c0 : Int} : ∀ {a b pre : List Let}, kps n c0 u pre (a ++ b) = kps n c0 u pre a ++ kps n c0 u (pre ++ a) b
  | [], b, pre => by simp [kps]
  | l :: a, b, pre => by
    simp only [List.cons_append, kps]
    rw [kps_append, List.append_assoc, List.append_assoc]; rfl
theorem val_got {u : Nat} {l : Let} (h : l.s ≠ u) : val u l = coinsFor (u : Int) l.w := by
  unfold val coinsFor
  cases l.w with
  | cut => rfl
  | pay t' m => dsimp only; rw [if_neg h]
theorem drain_kept {n u : Nat} {c0 : Int} : ∀ (k : Nat) (o : Off) (pre : List Let), o.num = (u : Int) → o.coins = c0 + sumF (val u) pre → o.clock = clk n pre → (∀ l ∈ (drain k o).1, l.s ≠ u ∧ l.s < n) →
    (drain k o).2.kept = o.kept ++ kps n c0 u pre (drain k o).1 ∧ (drain k o).2.coins = c0 + sumF (val u) (pre ++ (drain k o).1) ∧ (drain k o).2.clock = clk n (pre ++ (drain k o).1) ∧ (drain k o).2.num = (u : Int)
  | 0, o, pre, h1, h2, h3, _ => by simp [drain, kps, h1, h2, h3]
  | k + 1, o, pre, h1, h2, h3, h4 => by
    cases hf : firstR o.tray o.clock with
    | none =>
      simp only [drain, hf]
      simp [kps, h1, h2, h3]
    | some i =>
      obtain ⟨l, hl, hr⟩ := first_some hf
      simp only [drain, hf, hl] at h4 ⊢
      obtain ⟨g1, g2⟩ := h4 l List.mem_cons_self
      have e1 : (handed o i l).coins = c0 + sumF (val u) (pre ++ [l]) := by
        have : (handed o i l).coins = o.coins + coinsFor o.num l.w := by unfold handed wrote; rfl
        rw [this, h1, h2, sumF_append, ← val_got g1]; simp only [sumF]; omega
      have e2 : (handed o i l).clock = clk n (pre ++ [l]) := by
        have : (handed o i l).clock = inc o.clock l.s := by unfold handed wrote; rfl
        rw [this, h3, inc_clk g2]
      have e3 : (handed o i l).num = (u : Int) := by
        have : (handed o i l).num = o.num := by unfold handed wrote; rfl
        rw [this, h1]
      have e4 : (handed o i l).kept = o.kept ++ (if l.w = .cut then [keptD l (c0 + sumF (val u) (pre ++ [l])) (clk n (pre ++ [l]))] else []) := by
        have q1 : o.coins + coinsFor o.num l.w = c0 + sumF (val u) (pre ++ [l]) := e1
        have q2 : inc o.clock l.s = clk n (pre ++ [l]) := e2
        unfold handed wrote
        dsimp only
        rw [q1, q2]
        split <;> simp
      obtain ⟨r1, r2, r3, r4⟩ := drain_kept k (handed o i l) (pre ++ [l]) e3 e1 e2 fun x hx => h4 x (List.mem_cons_of_mem _ hx)
      rw [r1, r2, r3, r4, e4]
      simp only [kps, List.append_assoc, List.singleton_append, true_and, and_self]
theorem took_kept {n u : Nat} {c0 : Int} (o : Off) (l : Let) (pre : List Let) (h1 : o.num = (u : Int)) (h2 : o.coins = c0 + sumF (val u) pre) (h3 : o.clock = clk n pre) (h4 : ∀ x ∈ (took o l).1, x.s ≠ u ∧ x.s < n) :
    (took o l).2.kept = o.kept ++ kps n c0 u pre (took o l).1 ∧ (took o l).2.coins = c0 + sumF (val u) (pre ++ (took o l).1) ∧ (took o l).2.clock = clk n (pre ++ (took o l).1) ∧ (took o l).2.num = (u : Int) := by
  have e : (put o l).coins = o.coins ∧ (put o l).num = o.num ∧ (put o l).clock = o.clock ∧ (put o l).kept = o.kept := by unfold put; split <;> exact ⟨rfl, rfl, rfl, rfl⟩
  have := drain_kept (n := n) (u := u) (c0 := c0) (put o l).tray.length (put o l) pre (e.2.1.trans h1) (e.1.trans h2) (e.2.2.1.trans h3) h4
  rw [e.2.2.2] at this
  exact this
theorem tookAll_kept {n u : Nat} {c0 : Int} : ∀ (ls : List Let) (o : Off) (pre : List Let), o.num = (u : Int) → o.coins = c0 + sumF (val u) pre → o.clock = clk n pre → (∀ x ∈ (tookAll o ls).1.flatten, x.s ≠ u ∧ x.s < n) →
    (tookAll o ls).2.kept = o.kept ++ kps n c0 u pre (tookAll o ls).1.flatten
  | [], o, pre, _, _, _, _ => by simp [tookAll, kps]
  | l :: ls, o, pre, h1, h2, h3, h4 => by
    simp only [tookAll, List.flatten_cons] at h4 ⊢
    obtain ⟨g1, g2, g3, g4⟩ := took_kept o l pre h1 h2 h3 fun x hx => h4 x (List.mem_append_left _ hx)
    rw [tookAll_kept ls (took o l).2 (pre ++ (took o l).1) g4 g2 g3 fun x hx => h4 x (List.mem_append_right _ hx), g1, kps_append, List.append_assoc]
def KpI (n : Nat) (c0 : Int) (c : Crs) : Prop := ∀ u, u < n → (c.off u).kept = kps n c0 u [] (knOf u c.evs)
theorem clock_clk {n u : Nat} {c : Crs} (R : Rep n c) (hu : u < n) : (c.off u).clock = clk n (knOf u c.evs) := by
  have W' := KW.at_ R.ok c.evs.length
  rw [List.take_length] at W'
  have K := W'.kw u hu
  have l1 : ((rowsF (rows0 n) c.evs).getD u []).length = n := K.ck
  have g1 : ∀ s, ((rowsF (rows0 n) c.evs).getD u []).getD s 0 = (cntS s (knOf u c.evs) : Int) := K.cl
  rw [R.rw_ u hu] at l1 g1
  exact clk_of l1 fun s _ => g1 s
theorem bring_evs {n t : Nat} {c : Crs} {ls : List Let} (R' : Rep n (bringC c t ls).2) : ∀ l ∈ (tookAll (c.off t) ls).1.flatten, l.s ≠ t ∧ l.s < n := fun l hl => by
  have hm : (⟨false, t, l⟩ : Ev) ∈ (bringC c t ls).2.evs := List.mem_append_right _ (List.mem_map.mpr ⟨l, hl, rfl⟩)
  obtain ⟨i, hi⟩ := List.getElem?_of_mem hm
  have o := R'.ok.at_ hi
  exact ⟨(o.gt rfl).1, o.fit.1⟩
theorem KpI.bring {n t : Nat} {c0 : Int} {c : Crs} {ls : List Let} (P : KpI n c0 c) (C : Coin n c0 c) (W : Wd n c) (R : Rep n c) (R' : Rep n (bringC c t ls).2) (ht : t < n) : KpI n c0 (bringC c t ls).2 := fun u hu => by
  have off_eq : (bringC c t ls).2.off u = if t = u then (tookAll (c.off t) ls).2 else c.off u := by
    show (c.offs.set t (tookAll (c.off t) ls).2).getD u noOff = _
    exact off_set (by rw [W.ln]; exact ht)
  have kn_eq : knOf u (bringC c t ls).2.evs = knOf u c.evs ++ if t = u then (tookAll (c.off t) ls).1.flatten else [] := by
    show knOf u (c.evs ++ _) = _
    rw [knOf_append, kn_got]
  rw [off_eq, kn_eq]
  by_cases e : t = u
  · subst e
    rw [if_pos rfl, if_pos rfl, kps_append, List.nil_append, ← P t hu]
    exact tookAll_kept ls (c.off t) _ (W.of t ht).num (C.eq t ht) (clock_clk R ht) (bring_evs R')
  · rw [if_neg e, if_neg e, List.append_nil]; exact P u hu
theorem KpI.send {n w : Nat} {c0 : Int} {c : Crs} {x : What} (P : KpI n c0 c) (C : Coin n c0 c) (W : Wd n c) (R : Rep n c) (hw : w < n) : KpI n c0 (sendC c w x).2 := by
  unfold sendC sent1
  by_cases hc : canPay (c.off w) x = true
  · rw [if_pos hc]
    dsimp only
    intro u hu
    have off_eq : ((⟨c.offs.set w (sentO (payO (c.off w) x) w x), c.lets ++ [sentL (c.off w) w x], c.evs ++ [⟨true, w, sentL (c.off w) w x⟩], c.ans⟩ : Crs)).off u = if w = u then sentO (payO (c.off w) x) w x else c.off u := by
      show (c.offs.set w _).getD u noOff = _
      exact off_set (by rw [W.ln]; exact hw)
    have kn_eq : knOf u (c.evs ++ [⟨true, w, sentL (c.off w) w x⟩]) = knOf u c.evs ++ if w = u then [sentL (c.off w) w x] else [] := by rw [knOf_append, knOf_one]
    rw [off_eq]
    show _ = kps n c0 u [] (knOf u (c.evs ++ [⟨true, w, sentL (c.off w) w x⟩]))
    rw [kn_eq]
    by_cases e : w = u
    · subst e
      rw [if_pos rfl, if_pos rfl, kps_append, List.nil_append, ← P w hu]
      have hk : (payO (c.off w) x).kept = (c.off w).kept ∧ (payO (c.off w) x).clock = (c.off w).clock := by unfold payO; cases x <;> exact ⟨rfl, rfl⟩
      have hl : sentL (payO (c.off w) x) w x = sentL (c.off w) w x := by unfold sentL; rw [hk.2]
      have q1 : inc (c.off w).clock w = clk n (knOf w c.evs ++ [sentL (c.off w) w x]) := by
        rw [clock_clk R hu]
        exact inc_clk (l := sentL (c.off w) w x) hw
      unfold sentO wrote
      dsimp only
      rw [hl, hk.1, hk.2, q1]
      simp only [kps, List.append_nil]
      have hxw : (sentL (c.off w) w x).w = x := rfl
      rw [hxw]
      by_cases hcut : x = .cut
      · subst hcut
        rw [if_pos rfl, if_pos rfl]
        have q2 : (payO (c.off w) .cut).coins = c0 + sumF (val w) (knOf w c.evs ++ [sentL (c.off w) w .cut]) := by
          rw [sumF_append, show sumF (val w) [sentL (c.off w) w .cut] = 0 from rfl]
          have := C.eq w hu
          show (c.off w).coins = _
          omega
        rw [q2]
      · rw [if_neg hcut, if_neg hcut, List.append_nil]
    · rw [if_neg e, if_neg e, List.append_nil]; exact P u hu
  · rw [if_neg hc]; exact P
theorem KpI.deed {n : Nat} {c0 : Int} {c : Crs} {d : Deed} (P : KpI n c0 c) (C : Coin n c0 c) (W : Wd n c) (R : Rep n c) (hd : okDeed n d) : KpI n c0 (answer c d).2 := by
  have R' := R.deed W hd
  cases d with
  | pay w t m => exact P.send C W R hd.1
  | cut w => exact P.send C W R hd
  | carry k t =>
    cases e : carried c k with
    | none => simp only [answer, e]; exact P
    | some l =>
      simp only [answer, e] at R' ⊢
      exact P.bring C W R R' hd
  | bring t => exact P.bring C W R R' hd
theorem KpI.run {n : Nat} {c0 : Int} : ∀ {ds : List Deed} {c : Crs}, Wd n c → Rep n c → Coin n c0 c → KpI n c0 c → (∀ d ∈ ds, okDeed n d) → KpI n c0 (runC c ds)
  | [], c, W, R, C, P, _ => P
  | d :: ds, c, W, R, C, P, ok => by
    have hd := ok d List.mem_cons_self
    have g := R.deed W hd
    have C' := C.deed W R hd
    have P' := P.deed C W R hd
    exact KpI.run (ds := ds) (c := doC c d) (W.do hd) ⟨g.ls, g.rw_, g.ok, g.wh⟩ ⟨C'.eq, C'.nn⟩ P' fun x hx => ok x (List.mem_cons_of_mem _ hx)
theorem KpI.start {n : Nat} {c0 : Int} : KpI n c0 (start n c0) := fun u hu => by
  rw [start_off hu]; rfl
end Of

set_option Elab.async false
set_option linter.all false
set_option maxRecDepth 100000
set_option maxHeartbeats 4000000
namespace Of
open PySem PySem.Spec L2 L3 L4
/-! ### the order in which letters are known -/
theorem nodup_ix {α : Type} {L : List α} (hn : L.Nodup) {i j : Nat} {x : α} (h1 : L[i]? = some x) (h2 : L[j]? = some x) : i = j := by
  obtain ⟨h1, e1⟩ := List.getElem?_eq_some_iff.mp h1
  obtain ⟨h2, e2⟩ := List.getElem?_eq_some_iff.mp h2
  exact (List.getElem_inj hn).mp (e1.trans e2.symm)
theorem ix_mid {α : Type} {a b : List α} {m : α} : (a ++ m :: b)[a.length]? = some m := by simp
theorem before_mem {α : Type} {L a b p q : List α} {m x : α} (hn : L.Nodup) (h1 : L = a ++ m :: b) (h2 : L = p ++ x :: q) (hx : x ∈ b) : m ∈ p := by
  obtain ⟨i, hi⟩ := List.getElem?_of_mem hx
  have g1 : L[a.length + 1 + i]? = some x := by
    rw [h1, List.getElem?_append_right (by omega), show a.length + 1 + i - a.length = i + 1 by omega, List.getElem?_cons_succ]; exact hi
  have g2 : L[p.length]? = some x := by rw [h2]; exact ix_mid
  have e := nodup_ix hn g1 g2
  have g3 : L[a.length]? = some m := by rw [h1]; exact ix_mid
  rw [h2, List.getElem?_append_left (by omega)] at g3
  exact List.mem_of_getElem? g3
theorem not_before {α : Type} {L a b p q : List α} {m x : α} (hn : L.Nodup) (h1 : L = a ++ m :: b) (h2 : L = p ++ x :: q) (hx : x ∈ a) : m ∉ p := fun hm => by
  obtain ⟨i, hi⟩ := List.getElem?_of_mem hx
  obtain ⟨j, hj⟩ := List.getElem?_of_mem hm
  have li := (List.getElem?_eq_some_iff.mp hi).1
  have lj := (List.getElem?_eq_some_iff.mp hj).1
  have g1 : L[i]? = some x := by rw [h1, List.getElem?_append_left li]; exact hi
  have g2 : L[p.length]? = some x := by rw [h2]; exact ix_mid
  have g3 : L[j]? = some m := by rw [h2, List.getElem?_append_left lj]; exact hj
  have g4 : L[a.length]? = some m := by rw [h1]; exact ix_mid
  have e1 := nodup_ix hn g1 g2
  have e2 := nodup_ix hn g3 g4
  omega
theorem kn_at {u : Nat} {es : List Ev} {i : Nat} {e : Ev} (hi : es[i]? = some e) (hu : e.u = u) : knOf u es = knOf u (es.take i) ++ e.l :: knOf u (es.drop (i + 1)) := by
  have h1 : es = es.take i ++ ([e] ++ es.drop (i + 1)) := by
    obtain ⟨h, rfl⟩ := List.getElem?_eq_some_iff.mp hi
    rw [List.singleton_append, List.getElem_cons_drop, List.take_append_drop]
  conv => lhs; rw [h1]
  rw [knOf_append, knOf_append, knOf_one, if_pos hu]; rfl
theorem kn_pos {u : Nat} {es : List Ev} {x : Let} (h : x ∈ knOf u es) : ∃ (i : Nat) (e : Ev), es[i]? = some e ∧ e.u = u ∧ e.l = x := by
  unfold knOf at h
  obtain ⟨e, he, rfl⟩ := List.mem_map.mp h
  rw [List.mem_filter] at he
  obtain ⟨i, hi⟩ := List.getElem?_of_mem he.1
  exact ⟨i, e, hi, of_decide_eq_true he.2, rfl⟩
theorem kn_nodup {n u : Nat} {es : List Ev} (g : Good n (rows0 n) [] es) (hu : u < n) : (knOf u es).Nodup ∧ ∀ x ∈ knOf u es, x ∈ sentIn es := by
  have W := KW.at_ g es.length
  rw [List.take_length] at W
  have K := W.kw u hu
  exact ⟨K.gn, K.gm⟩
/-- what one office knew ahead of a letter, its own sender knew too -/
theorem cut_order {n j k : Nat} {es : List Ev} {m x : Let} {aj bj ak bk : List Let} (g : Good n (rows0 n) [] es) (hj : j < n) (hk : k < n) (ej : knOf j es = aj ++ m :: bj) (ek : knOf k es = ak ++ m :: bk) (hx : x ∈ ak) (hxs : x.s = j) : x ∈ aj := by
  obtain ⟨nj, mj⟩ := kn_nodup g hj
  obtain ⟨nk, mk⟩ := kn_nodup g hk
  by_cases hjk : k = j
  · subst hjk
    have g1 : (knOf k es)[aj.length]? = some m := by rw [ej]; exact ix_mid
    have g2 : (knOf k es)[ak.length]? = some m := by rw [ek]; exact ix_mid
    have e := nodup_ix nk g1 g2
    have e1 : aj = ak := by
      have h1 : (knOf k es).take aj.length = aj := by rw [ej, List.take_left']; rfl
      have h2 : (knOf k es).take ak.length = ak := by rw [ek, List.take_left']; rfl
      rw [← h1, e, h2]
    rw [e1]; exact hx
  · have hxk : x ∈ knOf k es := by rw [ek]; exact List.mem_append_left _ hx
    have hxS := mk x hxk
    have W := KW.at_ g es.length
    rw [List.take_length] at W
    have hxj : x ∈ knOf j es := W.ow j hj x hxS hxs
    rw [ej] at hxj
    rcases List.mem_append.mp hxj with z | z
    · exact z
    · rcases List.mem_cons.mp z with z | z
      · subst z
        rw [ek, List.nodup_append] at nk
        exact absurd rfl (nk.2.2 x hx x List.mem_cons_self)
      · obtain ⟨i, e, hi, hu, hl⟩ := kn_pos hxk
        have o := g.at_ hi
        rw [List.nil_append] at o
        have hs : e.sent = false := by
          cases h : e.sent with
          | false => rfl
          | true =>
            have := (o.st h).1
            rw [hl, hu, hxs] at this
            exact absurd this.symm hjk
        have hin := (o.gt hs).2
        rw [← causes_fst (a := [])] at hin
        obtain ⟨p, hp, hp1⟩ := List.mem_map.mp hin
        obtain ⟨i2, e2, h1, h2, h3⟩ := causes_at hp
        rw [List.nil_append] at h3
        have li2 : i2 < i := by
          have := (List.getElem?_eq_some_iff.mp h1).1
          rw [List.length_take] at this; omega
        have h1' : es[i2]? = some e2 := by rw [List.getElem?_take, if_pos li2] at h1; exact h1
        rw [List.take_take, Nat.min_eq_left (by omega)] at h3
        have hp2 : p.1 = e2.l := by rw [h3]
        have hl2 : e2.l = x := by rw [← hp2, hp1, hl]
        have o2 := g.at_ h1'
        have hu2 : e2.u = j := by rw [← (o2.st h2).1, hl2, hxs]
        have hdec := kn_at h1' hu2
        rw [hl2] at hdec
        have hmC : m ∈ knOf j (es.take i2) := before_mem nj ej hdec z
        have hpx : p = (e.l, knOf e2.u (es.take i2)) := by rw [h3, hl2, hl]
        rw [hpx] at hp
        have := got_causes g hi hs hp m (by rw [hu2]; exact hmC)
        rw [hu] at this
        have hdk := kn_at hi hu
        rw [hl] at hdk
        exact absurd this (not_before nk ek hdk hx)
/-! ### up to a letter -/
def upto (m : Let) (L : List Let) : List Let := L.takeWhile (fun x => decide (x ≠ m)) ++ [m]
theorem split_upto {m : Let} : ∀ {L : List Let}, m ∈ L → ∃ b, L = L.takeWhile (fun x => decide (x ≠ m)) ++ m :: b
  | [], h => nomatch h
  | y :: L, h => by
    by_cases e : y = m
    · subst e
      exact ⟨L, by simp⟩
    · rcases List.mem_cons.mp h with z | z
      · exact absurd z.symm e
      · obtain ⟨b, hb⟩ := split_upto z
        refine ⟨b, ?_⟩
        rw [List.takeWhile_cons, if_pos (by simpa using e), List.cons_append, ← hb]
theorem upto_take {n u : Nat} {es : List Ev} {m : Let} (g : Good n (rows0 n) [] es) (hu : u < n) {i : Nat} {e : Ev} (hi : es[i]? = some e) (eu : e.u = u) (el : e.l = m) : upto m (knOf u es) = knOf u (es.take (i + 1)) := by
  have hdec := kn_at hi eu
  rw [el] at hdec
  obtain ⟨nu, _⟩ := kn_nodup g hu
  obtain ⟨b, hb⟩ := split_upto (m := m) (L := knOf u es) (by rw [hdec]; exact List.mem_append_right _ List.mem_cons_self)
  have g1 : (knOf u es)[((knOf u es).takeWhile (fun x => decide (x ≠ m))).length]? = some m := by
    conv => lhs; lhs; rw [hb]
    exact ix_mid
  have g2 : (knOf u es)[(knOf u (es.take i)).length]? = some m := by
    conv => lhs; lhs; rw [hdec]
    exact ix_mid
  have e1 := nodup_ix nu g1 g2
  have h1 : (knOf u es).take ((knOf u es).takeWhile (fun x => decide (x ≠ m))).length = (knOf u es).takeWhile (fun x => decide (x ≠ m)) := by
    conv => lhs; rhs; rw [hb]
    rw [List.take_left']; rfl
  have h2 : (knOf u es).take (knOf u (es.take i)).length = knOf u (es.take i) := by
    conv => lhs; rhs; rw [hdec]
    rw [List.take_left']; rfl
  unfold upto
  rw [← h1, e1, h2, take_snoc hi, knOf_append, knOf_one, if_pos eu, el]
/-- its clock tells which letters are there -/
theorem pre_iff {n u i : Nat} {es : List Ev} {l : Let} (g : Good n (rows0 n) [] es) (hu : u < n) (hl : l ∈ sentIn es) : nameN l ≤ (cntS l.s (knOf u (es.take i)) : Int) ↔ l ∈ knOf u (es.take i) := by
  have W := KW.at_ g i
  have K := W.kw u hu
  have hcl : ∀ v, ((rowsF (rows0 n) (es.take i)).getD u []).getD v 0 = (cntS v (knOf u (es.take i)) : Int) := K.cl
  have hlo : ∀ l ∈ sentIn (es.take i), (nameN l ≤ ((rowsF (rows0 n) (es.take i)).getD u []).getD l.s 0 ↔ l ∈ knOf u (es.take i)) := K.lo
  by_cases h : l ∈ sentIn (es.take i)
  · rw [← hcl]; exact hlo l h
  · have hno : l ∉ knOf u (es.take i) := fun z => h (K.gm l z)
    refine ⟨fun z => ?_, fun z => absurd z hno⟩
    have M := (KW.at_ g es.length).ml
    rw [List.take_length] at M
    have hls : sentIn es = sentIn (es.take i) ++ sentIn (es.drop i) := by rw [← sentIn_append, List.take_append_drop]
    rw [hls] at hl
    rcases List.mem_append.mp hl with y | y
    · exact absurd y h
    · obtain ⟨k, hk⟩ := List.getElem?_of_mem y
      have hj : (sentIn es)[(sentIn (es.take i)).length + k]? = some l := by
        rw [hls, List.getElem?_append_right (by omega), Nat.add_sub_cancel_left]; exact hk
      have h3 := M.num _ _ hj
      have h4 := @cntS_mono l.s (sentIn es) (sentIn (es.take i)).length k
      rw [show (sentIn es).take (sentIn (es.take i)).length = sentIn (es.take i) by rw [hls, List.take_left']; rfl] at h4
      have h5 := cntS_sub (u := l.s) K.gn K.gm
      omega
/-! ### coins under way -/
theorem sumF_filter {f : Let → Int} {p : Let → Bool} : ∀ {b : List Let}, sumF f (b.filter p) = sumF (fun l => if p l = true then f l else 0) b
  | [] => rfl
  | l :: b => by
    rw [List.filter_cons]
    by_cases h : p l = true
    · rw [if_pos h]
      simp only [sumF]
      rw [sumF_filter, if_pos h]
    · rw [if_neg h]
      simp only [sumF]
      rw [sumF_filter, if_neg h]; omega
theorem sumF_sub {f : Let → Int} {a b : List Let} (ha : a.Nodup) (hb : b.Nodup) (h : ∀ x ∈ a, x ∈ b) : sumF f a = sumF (fun l => if l ∈ a then f l else 0) b := by
  have hp : a.Perm (b.filter fun l => decide (l ∈ a)) := by
    refine same_perm ha (hb.filter _) fun x => ?_
    rw [List.mem_filter, decide_eq_true_eq]
    exact ⟨fun z => ⟨h x z, z⟩, fun z => z.2⟩
  rw [sumF_perm hp, sumF_filter]
  refine sumF_congr fun l _ => ?_
  by_cases q : l ∈ a
  · rw [if_pos (decide_eq_true q), if_pos q]
  · rw [if_neg (by simpa using q), if_neg q]
theorem tot_swap {n : Nat} {F : Nat → Let → Int} : ∀ {ls : List Let}, tot (fun u => sumF (F u) ls) n = sumF (fun l => tot (fun u => F u l) n) ls
  | [] => by
    have : (fun u : Nat => sumF (F u) []) = fun _ => (0 : Int) := rfl
    rw [this, tot_const]; simp [sumF]
  | l :: ls => by
    have : (fun u : Nat => sumF (F u) (l :: ls)) = fun u => F u l + sumF (F u) ls := rfl
    rw [this, tot_add, tot_swap]; rfl
def way (m : Let) (es : List Ev) (l : Let) : Int := match l.w with
  | .cut => 0
  | .pay t q => if l ∈ upto m (knOf l.s es) ∧ ¬ l ∈ upto m (knOf t.toNat es) then q else 0
theorem upto_sub {n u : Nat} {es : List Ev} {m : Let} (g : Good n (rows0 n) [] es) (hu : u < n) (hm : m ∈ knOf u es) : (upto m (knOf u es)).Nodup ∧ ∀ x ∈ upto m (knOf u es), x ∈ sentIn es := by
  obtain ⟨i, e, hi, eu, el⟩ := kn_pos hm
  rw [upto_take g hu hi eu el]
  have K := (KW.at_ g (i + 1)).kw u hu
  refine ⟨K.gn, fun x hx => ?_⟩
  have := K.gm x hx
  rw [← List.take_append_drop (i + 1) es, sentIn_append]
  exact List.mem_append_left _ this
theorem upto_own {n k : Nat} {es : List Ev} {m x : Let} (g : Good n (rows0 n) [] es) (hs : x.s < n) (hk : k < n) (hmj : m ∈ knOf x.s es) (hmk : m ∈ knOf k es) (hx : x ∈ upto m (knOf k es)) : x ∈ upto m (knOf x.s es) := by
  obtain ⟨bj, ej⟩ := split_upto hmj
  obtain ⟨bk, ek⟩ := split_upto hmk
  unfold upto at hx ⊢
  rcases List.mem_append.mp hx with z | z
  · exact List.mem_append_left _ (cut_order g hs hk ej ek z rfl)
  · exact List.mem_append_right _ z
theorem way_coins {n : Nat} {c0 : Int} {es : List Ev} {m : Let} (g : Good n (rows0 n) [] es) (wh : ∀ l ∈ sentIn es, okLet n l) (hm : ∀ u, u < n → m ∈ knOf u es) : tot (fun u => c0 + sumF (val u) (upto m (knOf u es))) n + sumF (way m es) (sentIn es) = (n : Int) * c0 := by
  have M := (KW.at_ g es.length).ml
  rw [List.take_length] at M
  have hS := M.nodup
  rw [tot_congr (g := fun u => c0 + sumF (fun l => if l ∈ upto m (knOf u es) then val u l else 0) (sentIn es)) fun u hu => by
    obtain ⟨h1, h2⟩ := upto_sub g hu (hm u hu)
    rw [sumF_sub h1 hS h2]]
  rw [tot_add, tot_const, tot_swap, sumF_congr (g := fun l => - way m es l) fun l hl => ?_]
  · have : ∀ ls : List Let, sumF (fun l => - way m es l) ls = - sumF (way m es) ls := fun ls => by
      induction ls with
      | nil => rfl
      | cons l ls ih => simp only [sumF]; rw [ih]; omega
    rw [this]; omega
  · obtain ⟨h1, h2, h3, h4⟩ := wh l hl
    revert h4
    cases hw : l.w with
    | cut =>
      intro _
      have : (fun u => if l ∈ upto m (knOf u es) then val u l else 0) = fun _ => (0 : Int) := by
        funext u; unfold val; rw [hw]; dsimp only; split <;> rfl
      rw [this, tot_const]
      unfold way; rw [hw]; simp
    | pay t q =>
      rintro ⟨g1, g2, g3, g4⟩
      have : (fun u => if l ∈ upto m (knOf u es) then val u l else 0) = fun u : Nat => (if ((l.s : Nat) : Int) = (u : Int) then (if l ∈ upto m (knOf l.s es) then -q else 0) else 0) + (if t = (u : Int) then (if l ∈ upto m (knOf t.toNat es) then q else 0) else 0) := by
        funext u
        unfold val
        rw [hw]
        dsimp only
        by_cases e : l.s = u
        · subst e
          rw [if_pos rfl, if_pos rfl, if_neg g4]; omega
        · rw [if_neg e, if_neg (show ¬ ((l.s : Nat) : Int) = (u : Int) from fun z => e (by omega))]
          by_cases e2 : t = (u : Int)
          · rw [if_pos e2, if_pos e2, show t.toNat = u by omega]; omega
          · rw [if_neg e2, if_neg e2]
            split <;> rfl
      rw [this, tot_add, tot_ind, tot_ind, if_pos (show 0 ≤ ((l.s : Nat) : Int) ∧ ((l.s : Nat) : Int) < (n : Int) by omega), if_pos (show 0 ≤ t ∧ t < (n : Int) from ⟨g2, g3⟩)]
      unfold way
      rw [hw]
      dsimp only
      have hown : l ∈ upto m (knOf t.toNat es) → l ∈ upto m (knOf l.s es) := fun z => upto_own g h1 (show t.toNat < n by omega) (hm _ h1) (hm _ (by omega)) z
      by_cases z1 : l ∈ upto m (knOf l.s es)
      · by_cases z2 : l ∈ upto m (knOf t.toNat es)
        · rw [if_pos z1, if_pos z2, if_neg (fun z => z.2 z2)]; omega
        · rw [if_pos z1, if_neg z2, if_pos ⟨z1, z2⟩]; omega
      · have z2 : ¬ l ∈ upto m (knOf t.toNat es) := fun z => z1 (hown z)
        rw [if_neg z1, if_neg z2, if_neg (fun z => z1 z.1)]; omega
theorem cut_counts {n j k : Nat} {es : List Ev} {m : Let} (g : Good n (rows0 n) [] es) (hj : j < n) (hk : k < n) (hmj : m ∈ knOf j es) (hmk : m ∈ knOf k es) : cntS j (upto m (knOf k es)) ≤ cntS j (upto m (knOf j es)) := by
  obtain ⟨n1, _⟩ := upto_sub g hk hmk
  unfold cntS
  refine sub_len (n1.filter _) fun x hx => ?_
  rw [List.mem_filter] at hx ⊢
  have hs : x.s = j := of_decide_eq_true hx.2
  subst hs
  exact ⟨upto_own g hj hk hmj hmk hx.1, hx.2⟩
end Of

set_option Elab.async false
set_option linter.all false
set_option maxRecDepth 100000
set_option maxHeartbeats 4000000
namespace Of
open PySem PySem.Spec L2 L3 L4
def kpD (x : Let × Int × List Int) : PyData := keptD x.1 x.2.1 x.2.2
def kpE (n : Nat) (c0 : Int) (u : Nat) : List Let → List Let → List (Let × Int × List Int)
  | _, [] => []
  | pre, l :: ls => (if l.w = .cut then [(l, c0 + sumF (val u) (pre ++ [l]), clk n (pre ++ [l]))] else []) ++ kpE n c0 u (pre ++ [l]) ls
theorem kps_E {n u : Nat} {c0 : Int} : ∀ (ls pre : List Let), kps n c0 u pre ls = (kpE n c0 u pre ls).map kpD
  | [], pre => rfl
  | l :: ls, pre => by
    simp only [kps, kpE]
    rw [List.map_append, kps_E ls]
    by_cases h : l.w = .cut
    · rw [if_pos h, if_pos h]; rfl
    · rw [if_neg h, if_neg h]; rfl
theorem kpE_append {n u : Nat} {c0 : Int} : ∀ {a b pre : List Let}, kpE n c0 u pre (a ++ b) = kpE n c0 u pre a ++ kpE n c0 u (pre ++ a) b
  | [], b, pre => by simp [kpE]
  | l :: a, b, pre => by
    simp only [List.cons_append, kpE]
    rw [kpE_append, List.append_assoc, List.append_assoc]; rfl
theorem kpE_mem {n u : Nat} {c0 : Int} : ∀ {ls pre : List Let} {x : Let × Int × List Int}, x ∈ kpE n c0 u pre ls → x.1 ∈ ls
  | [], pre, x, h => nomatch h
  | l :: ls, pre, x, h => by
    simp only [kpE] at h
    rcases List.mem_append.mp h with z | z
    · by_cases hc : l.w = .cut
      · rw [if_pos hc] at z
        have : x = (l, c0 + sumF (val u) (pre ++ [l]), clk n (pre ++ [l])) := by simpa using z
        rw [this]; exact List.mem_cons_self
      · rw [if_neg hc] at z; exact nomatch z
    · exact List.mem_cons_of_mem _ (kpE_mem z)
theorem kpE_at {n u : Nat} {c0 : Int} {m : Let} {L a b : List Let} (h : L = a ++ m :: b) (hw : m.w = .cut) : kpE n c0 u [] L = kpE n c0 u [] a ++ (m, c0 + sumF (val u) (a ++ [m]), clk n (a ++ [m])) :: kpE n c0 u (a ++ [m]) b := by
  subst h
  rw [kpE_append]
  simp only [kpE, List.nil_append]
  rw [if_pos hw]; rfl
def KAt (m : Let) (x : Int × List Int) (es : List (Let × Int × List Int)) : Prop := ∃ a b, es = a ++ (m, x) :: b ∧ ∀ y ∈ a, ¬ (y.1.s = m.s ∧ nameN y.1 = nameN m)
def stO (n : Nat) (c0 : Int) (m : Let) (es : List Ev) (u : Nat) : Int × List Int := (c0 + sumF (val u) (upto m (knOf u es)), clk n (upto m (knOf u es)))
theorem kp_at {n u : Nat} {c0 : Int} {es : List Ev} {m : Let} (g : Good n (rows0 n) [] es) (hu : u < n) (hm : m ∈ knOf u es) (hw : m.w = .cut) : KAt m (stO n c0 m es u) (kpE n c0 u [] (knOf u es)) := by
  obtain ⟨b, hb⟩ := split_upto hm
  unfold stO upto
  generalize (knOf u es).takeWhile (fun x => decide (x ≠ m)) = a at hb ⊢
  refine ⟨kpE n c0 u [] a, kpE n c0 u (a ++ [m]) b, kpE_at hb hw, fun y hy ⟨z1, z2⟩ => ?_⟩
  have hy := kpE_mem hy
  obtain ⟨nu, mu⟩ := kn_nodup g hu
  have M := (KW.at_ g es.length).ml
  rw [List.take_length] at M
  have e : y.1 = m := M.inj (mu _ (by rw [hb]; exact List.mem_append_left _ hy)) (mu _ hm) z1 z2
  rw [hb, List.nodup_append] at nu
  exact nu.2.2 _ hy _ List.mem_cons_self e
/-! ### how many cuts -/
def isCut (l : Let) : Bool := decide (l.w = .cut)
def cutD : Deed → Bool
  | .cut _ => true
  | _ => false
theorem cut_lets {c : Crs} {d : Deed} : ((doC c d).lets.filter isCut).length = (c.lets.filter isCut).length + (if cutD d = true then 1 else 0) := by
  have e : (doC c d).lets = (answer c d).2.lets := rfl
  rw [e]
  cases d with
  | pay w t m =>
    simp only [answer, sendC, sent1]
    by_cases h : canPay (c.off w) (.pay t m) = true
    · rw [if_pos h]
      dsimp only
      rw [List.filter_append, show List.filter isCut [sentL (c.off w) w (.pay t m)] = [] by simp [isCut, sentL]]
      simp [cutD]
    · rw [if_neg h]; simp [cutD]
  | cut w =>
    simp only [answer, sendC, sent1]
    rw [if_pos (show canPay (c.off w) .cut = true from rfl)]
    dsimp only
    rw [List.filter_append, show List.filter isCut [sentL (c.off w) w .cut] = [sentL (c.off w) w .cut] by simp [isCut, sentL]]
    simp [cutD]
  | carry k t =>
    simp only [answer]
    cases carried c k with
    | none => simp [cutD]
    | some l => simp [bringC, cutD]
  | bring t => simp [answer, bringC, cutD]
theorem cuts_run : ∀ {ds : List Deed} {c : Crs}, ((runC c ds).lets.filter isCut).length = (c.lets.filter isCut).length + (ds.filter cutD).length
  | [], c => by simp [runC]
  | d :: ds, c => by
    have : runC c (d :: ds) = runC (doC c d) ds := rfl
    rw [this, cuts_run, cut_lets, List.filter_cons]
    by_cases h : cutD d = true
    · rw [if_pos h, if_pos h, List.length_cons]; omega
    · rw [if_neg h, if_neg h]; omega
/-! ### on the way -/
def wayV (ss : List (Int × List Int)) (l : Let) : Int := match l.w with
  | .cut => 0
  | .pay t q => if nameN l ≤ (ss.getD l.s (0, [])).2.getD l.s 0 ∧ ¬ nameN l ≤ (ss.getD t.toNat (0, [])).2.getD l.s 0 then q else 0
theorem sumF_sum {f : Let → Int} : ∀ {ls : List Let}, sumF f ls = (ls.map f).sum
  | [] => rfl
  | l :: ls => by simp only [sumF, List.map_cons, List.sum_cons]; rw [sumF_sum]
def sts (n : Nat) (c0 : Int) (m : Let) (es : List Ev) : List (Int × List Int) := (List.range n).map (stO n c0 m es)
theorem sts_len {n : Nat} {c0 : Int} {m : Let} {es : List Ev} : (sts n c0 m es).length = n := by unfold sts; rw [List.length_map, List.length_range]
theorem sts_get {n u : Nat} {c0 : Int} {m : Let} {es : List Ev} (h : u < n) : (sts n c0 m es)[u]? = some (stO n c0 m es u) := by
  unfold sts; rw [List.getElem?_map, List.getElem?_range h]; rfl
theorem sts_getD {n u : Nat} {c0 : Int} {m : Let} {es : List Ev} (h : u < n) : (sts n c0 m es).getD u (0, []) = stO n c0 m es u := by
  rw [List.getD_eq_getElem?_getD, sts_get h]; rfl
theorem sts_mem {n : Nat} {c0 : Int} {m : Let} {es : List Ev} : ∀ x ∈ sts n c0 m es, x.2.length = n := fun x hx => by
  unfold sts at hx
  obtain ⟨u, _, rfl⟩ := List.mem_map.mp hx
  exact clk_len
theorem upto_iff {n u : Nat} {c0 : Int} {es : List Ev} {m l : Let} (g : Good n (rows0 n) [] es) (hu : u < n) (hm : m ∈ knOf u es) (hl : l ∈ sentIn es) (hs : l.s < n) : nameN l ≤ ((sts n c0 m es).getD u (0, [])).2.getD l.s 0 ↔ l ∈ upto m (knOf u es) := by
  rw [sts_getD hu]
  show nameN l ≤ (clk n (upto m (knOf u es))).getD l.s 0 ↔ _
  rw [clk_get hs]
  obtain ⟨i, e, hi, eu, el⟩ := kn_pos hm
  rw [upto_take g hu hi eu el]
  exact pre_iff g hu hl
theorem way_eq {n : Nat} {c0 : Int} {es : List Ev} {m l : Let} (g : Good n (rows0 n) [] es) (hm : ∀ u, u < n → m ∈ knOf u es) (hl : l ∈ sentIn es) (ok : okLet n l) : wayV (sts n c0 m es) l = way m es l := by
  obtain ⟨h1, h2, h3, h4⟩ := ok
  unfold wayV way
  revert h4
  cases hw : l.w with
  | cut => intro _; rfl
  | pay t q =>
    rintro ⟨g1, g2, g3, g4⟩
    dsimp only
    simp only [upto_iff (c0 := c0) g h1 (hm _ h1) hl h1, upto_iff (c0 := c0) g (show t.toNat < n by omega) (hm _ (by omega)) hl h1]
theorem way_nn {ss : List (Int × List Int)} {n : Nat} {l : Let} (ok : okLet n l) : 0 ≤ wayV ss l := by
  obtain ⟨h1, h2, h3, h4⟩ := ok
  unfold wayV
  revert h4
  cases hw : l.w with
  | cut => intro _; exact Int.le_refl _
  | pay t q =>
    rintro ⟨g1, g2, g3, g4⟩
    dsimp only
    split
    · exact g1
    · exact Int.le_refl _
theorem sum_nn : ∀ {xs : List Int}, (∀ x ∈ xs, 0 ≤ x) → 0 ≤ xs.sum
  | [], _ => Int.le_refl _
  | x :: xs, h => by
    have h1 := h x List.mem_cons_self
    have h2 := sum_nn fun y hy => h y (List.mem_cons_of_mem _ hy)
    rw [List.sum_cons]; omega
theorem all_way {n : Nat} {c0 : Int} {es : List Ev} {m : Let} (g : Good n (rows0 n) [] es) (wh : ∀ l ∈ sentIn es, okLet n l) (hm : ∀ u, u < n → m ∈ knOf u es) : tot (fun u => (stO n c0 m es u).1) n + ((sentIn es).map (wayV (sts n c0 m es))).sum = (n : Int) * c0 ∧ 0 ≤ ((sentIn es).map (wayV (sts n c0 m es))).sum := by
  refine ⟨?_, sum_nn fun x hx => ?_⟩
  · rw [← sumF_sum, sumF_congr (g := way m es) fun l hl => way_eq g hm hl (wh l hl)]
    exact way_coins g wh hm
  · obtain ⟨l, hl, rfl⟩ := List.mem_map.mp hx
    exact way_nn (wh l hl)
end Of

section
set_option Elab.async false
set_option linter.all false
set_option maxRecDepth 100000
set_option maxHeartbeats 4000000
seal L2.PE L2.PT L2.PW L2.PA L2.PS L2.PSs L2.PG L2.PGs L2.PI L3.PTs L2.PO L2.CallR L2.OpR L2.IxR L2.MtR L2.PSet L2.SlR
namespace Of
open PySem L2 L3
theorem boot_str : bootBuiltins "str" = some (.type "str") := by decide +kernel
theorem boot_dct : bootBuiltins "dict" = some (.type "dict") := by decide +kernel
structure Sxt (mg : Str → Option Value) (f : Addr) : Prop where
  so : mg "_law_so" = some (.ref f)
  isinstance : mg "isinstance" = none
  bool : mg "bool" = none
  int : mg "int" = none
  str : mg "str" = none
  dict : mg "dict" = none
  tuple : mg "tuple" = none
  list : mg "list" = none
  len : mg "len" = none
  range : mg "range" = none
theorem ks_bool {K : PySem.W.Frag} : PySem.W.kitOne K (.type "str") (.type "bool") = some false := by kernel_rfl
theorem ks_int {K : PySem.W.Frag} : PySem.W.kitOne K (.type "str") (.type "int") = some false := by kernel_rfl
theorem ks_str {K : PySem.W.Frag} : PySem.W.kitOne K (.type "str") (.type "str") = some true := by kernel_rfl
theorem kt_bool {K : PySem.W.Frag} : PySem.W.kitOne K (.type "tuple") (.type "bool") = some false := by kernel_rfl
theorem kt_int {K : PySem.W.Frag} : PySem.W.kitOne K (.type "tuple") (.type "int") = some false := by kernel_rfl
theorem kt_str {K : PySem.W.Frag} : PySem.W.kitOne K (.type "tuple") (.type "str") = some false := by kernel_rfl
theorem kt_dict {K : PySem.W.Frag} : PySem.W.kitOne K (.type "tuple") (.type "dict") = some false := by kernel_rfl
theorem kt_tuple {K : PySem.W.Frag} : PySem.W.kitOne K (.type "tuple") (.type "tuple") = some true := by kernel_rfl
theorem kt_list {K : PySem.W.Frag} : PySem.W.kitOne K (.type "tuple") (.type "list") = some false := by kernel_rfl
theorem kl_bool {K : PySem.W.Frag} : PySem.W.kitOne K (.type "list") (.type "bool") = some false := by kernel_rfl
theorem kl_int {K : PySem.W.Frag} : PySem.W.kitOne K (.type "list") (.type "int") = some false := by kernel_rfl
theorem kl_str {K : PySem.W.Frag} : PySem.W.kitOne K (.type "list") (.type "str") = some false := by kernel_rfl
theorem kl_dict {K : PySem.W.Frag} : PySem.W.kitOne K (.type "list") (.type "dict") = some false := by kernel_rfl
theorem kl_tuple {K : PySem.W.Frag} : PySem.W.kitOne K (.type "list") (.type "tuple") = some false := by kernel_rfl
theorem kl_list {K : PySem.W.Frag} : PySem.W.kitOne K (.type "list") (.type "list") = some true := by kernel_rfl
theorem kt_any {K : PySem.W.Frag} : PySem.W.kitAny K (.type "tuple") [.type "list", .type "tuple"] = some true := by kernel_rfl
theorem kl_any {K : PySem.W.Frag} : PySem.W.kitAny K (.type "list") [.type "list", .type "tuple"] = some true := by kernel_rfl
mutual
def wideD (n : Nat) : PyData → Prop
  | .tuple ds => ds.length ≤ n ∧ wideDs n ds
  | .list ds => ds.length ≤ n ∧ wideDs n ds
  | _ => True
def wideDs (n : Nat) : List PyData → Prop
  | [] => True
  | d :: ds => wideD n d ∧ wideDs n ds
end
theorem wideDs_get {n : Nat} : ∀ {ds : List PyData} {i : Nat} {d : PyData}, wideDs n ds → ds[i]? = some d → wideD n d
  | [], i, d, _, e => by simp at e
  | x :: ds, 0, d, h, e => by
    have : x = d := by simpa using e
    subst this; simp only [wideDs] at h; exact h.1
  | x :: ds, i + 1, d, h, e => by
    simp only [wideDs] at h
    exact wideDs_get (i := i) h.2 (by simpa using e)
theorem depth_get : ∀ {ds : List PyData} {i : Nat} {d : PyData}, ds[i]? = some d → d.depth ≤ PyData.depthAll ds
  | [], i, d, e => by simp at e
  | x :: ds, 0, d, e => by
    have : x = d := by simpa using e
    subst this; simp only [PyData.depthAll]; exact Nat.le_max_left _ _
  | x :: ds, i + 1, d, e => by
    simp only [PyData.depthAll]
    exact Nat.le_trans (depth_get (i := i) (by simpa using e)) (Nat.le_max_right _ _)
/-- the same data twice, of a depth below n -/
def spSo (K : PySem.W.Frag) (n : Nat) : Sp := fun vs H Q _ => ∃ (x y : V) (d : PyData), vs = [x, y] ∧ RepD K H d x ∧ RepD K H d y ∧ d.depth < n ∧ wideD 1000 d ∧ ∀ H', Same H H' → Q (.bl true) H'
section
variable {P : Program} {w : World} {K : PySem.W.Frag} {mg : Str → Option Value} {base : Heap}
theorem oSo : ownB ["_law_found", "_law_meant", "_law_k"] (defScope sSo) = true := by decide +kernel
theorem scSo : FnScope ["_law_found", "_law_meant", "_law_k"] ["_law_found", "_law_meant"] (defScope sSo) := ⟨rfl, rfl, rfl, by decide +kernel, rfl, by decide +kernel, by decide +kernel⟩
theorem so_zero {f : Addr} {fd : FuncData} (F : Fun K "_law_so" "_law_so" sSo f fd) : FnOk P w K mg base CX0 0 f fd ["_law_found", "_law_meant"] (spSo K 0) :=
  ⟨fun vs H Q E ⟨_, _, _, _, _, _, h, _⟩ => absurd h (Nat.not_lt_zero _), fun _ _ _ _ _ _ _ _ _ _ _ _ _ ⟨_, _, _, _, _, _, h, _⟩ => absurd h (Nat.not_lt_zero _)⟩
theorem ok_so1 {f : Addr} {fd : FuncData} {n : Nat} (F : Fun K "_law_so" "_law_so" sSo f fd) (S : Sxt mg f) (bSo : Binds K fd ["_law_found", "_law_meant"] []) (GSo : FnOk P w K mg base CX0 n f fd ["_law_found", "_law_meant"] (spSo K n)) :
    FnOk P w K mg base CX0 (n + 1) f fd ["_law_found", "_law_meant"] (spSo K (n + 1)) := by
  refine okB (body := [stm sSo 0, stm sSo 1, stm sSo 2, stm sSo 3, stm sSo 4, stm sSo 5, stm sSo 6, stm sSo 7, stm sSo 8, stm sSo 9]) F scSo (fun vs H Q E h => ?_) (by kernel_rfl) (fun cdv A outer s H vs Q E hr h => ?_)
  · obtain ⟨x, y, d, rfl, _⟩ := h
    rfl
  · obtain ⟨x, y, d, rfl, rx, ry, hd, hw, k⟩ := h
    refine ⟨_, (pss_cons (ps_if (pt_cmpR op_isN (oV oSo 1) pe_non (nomark _)) (pss_one (ps_ret (pe_cmpR op_isN (oV oSo 0) pe_non (nomark _)))) pss_nil)
      (pss_cons (ps_if (pt_val (cB call_isiD S.isinstance boot_isi (aC (oV oSo 1) (aC (nT S.bool boot_bl) pa_nil)))) (pss_one (ps_ret (pe_and (cB call_isiD S.isinstance boot_isi (aC (oV oSo 0) (aC (nT S.bool boot_bl) pa_nil))) (pe_one (pe_cmpR op_eq (oV oSo 0) (oV oSo 1) (nomark _)))))) pss_nil)
      (pss_cons (ps_if (pt_val (cB call_isiD S.isinstance boot_isi (aC (oV oSo 1) (aC (nT S.int boot_it) pa_nil)))) (pss_one (ps_ret (pe_and (cB call_isiD S.isinstance boot_isi (aC (oV oSo 0) (aC (nT S.int boot_it) pa_nil))) (pe_and (pe_not (cB call_isiD S.isinstance boot_isi (aC (oV oSo 0) (aC (nT S.bool boot_bl) pa_nil)))) (pe_one (pe_cmpR op_eq (oV oSo 0) (oV oSo 1) (nomark _))))))) pss_nil)
      (pss_cons (ps_if (pt_val (cB call_isiD S.isinstance boot_isi (aC (oV oSo 1) (aC (nT S.str boot_str) pa_nil)))) (pss_one (ps_ret (pe_and (cB call_isiD S.isinstance boot_isi (aC (oV oSo 0) (aC (nT S.str boot_str) pa_nil))) (pe_one (pe_cmpR op_eq (oV oSo 0) (oV oSo 1) (nomark _)))))) pss_nil)
      (pss_cons (ps_if (pt_val (cB call_isiD S.isinstance boot_isi (aC (oV oSo 1) (aC (nT S.dict boot_dct) pa_nil)))) (pss_one ps_never) pss_nil)
      (pss_cons (ps_if (pt_cmpR op_ne (cB call_isiD S.isinstance boot_isi (aC (oV oSo 1) (aC (nT S.tuple boot_tup) pa_nil))) (cB call_isiD S.isinstance boot_isi (aC (oV oSo 0) (aC (nT S.tuple boot_tup) pa_nil))) (nomark _)) (pss_one (ps_ret pe_bl)) pss_nil)
      (pss_cons (ps_if (PW.pt (pw_or (pt_cmpR op_ne (cB call_isiD S.isinstance boot_isi (aC (oV oSo 1) (aC (nT S.list boot_lst) pa_nil))) (cB call_isiD S.isinstance boot_isi (aC (oV oSo 0) (aC (nT S.list boot_lst) pa_nil))) (nomark _)) (pw_or1 (pt_not (pt_val (cB call_isiD2 S.isinstance boot_isi (aC (oV oSo 1) (aC (pe_tup (aC (nT S.list boot_lst) (aC (nT S.tuple boot_tup) pa_nil))) pa_nil))))))))
        (pss_one (ps_ret pe_bl)) pss_nil)
      (pss_cons (ps_if (pt_cmpR op_ne (cB (call_len_seq (X := _)) S.len PySem.boot_len (aC (oV oSo 0) pa_nil)) (cB (call_len_seq (X := _)) S.len PySem.boot_len (aC (oV oSo 1) pa_nil)) (nomark _)) (pss_one (ps_ret pe_bl)) pss_nil)
      (pss_cons (ps_for PassesOwn.never rfl (rng1 S.range (aC (cB (call_len_seq (X := _)) S.len PySem.boot_len (aC (oV oSo 1) pa_nil)) pa_nil)) (oT oSo 2)
        (pss_one (ps_if (pt_not (pt_val (cF GSo hr S.so F.kp bSo .nil pass0 (aC (iX (ixD K) (oV oSo 0) (oV oSo 2)) (aC (iX (ixD K) (oV oSo 1) (oV oSo 2)) pa_nil))))) (pss_one (ps_ret pe_bl)) pss_nil)))
      (pss_one (ps_ret pe_bl))))))))))), ?_⟩
    have hnn : ∀ {v : V}, v ≠ .non → ∀ {A B : Prop}, B → (if decide (v = V.non) = true then A else B) := fun hv _ _ h => by rw [if_neg (by simpa using hv)]; exact h
    have fin : ∀ {v : V}, Q (.bl (decide (v = v))) H := fun {v} => by rw [decide_eq_true rfl]; exact k H (Same.refl H)
    cases d with
    | dict _ => simp only [RepD] at rx
    | none =>
      simp only [RepD] at rx ry
      subst rx ry
      refine ⟨_, rfl, rfl, _, rfl, ?_⟩
      refine ite2 (fun _ => ?_) (fun h => absurd (decide_eq_true rfl) h)
      exact ⟨_, rfl, rfl, fin⟩
    | bool b =>
      have rx' := rx
      have ry' := ry
      simp only [RepD] at rx ry
      subst rx ry
      refine ⟨_, rfl, rfl, _, rfl, hnn (by intro z; cases z) ?_⟩
      refine ⟨_, rfl, _, _, _, _, rfl, ry', kit_bool, _, rfl, iteT ?_⟩
      refine ⟨_, rfl, _, _, _, _, rfl, rx', kit_bool, _, rfl, ?_⟩
      exact ⟨_, rfl, _, rfl, rfl, fin⟩
    | int i =>
      have rx' := rx
      have ry' := ry
      simp only [RepD] at rx ry
      subst rx ry
      refine ⟨_, rfl, rfl, _, rfl, hnn (by intro z; cases z) ?_⟩
      refine ⟨_, rfl, _, _, _, _, rfl, ry', kit_int_bool, _, rfl, iteF ?_⟩
      refine ⟨_, rfl, _, _, _, _, rfl, ry', kit_int, _, rfl, iteT ?_⟩
      refine ⟨_, rfl, _, _, _, _, rfl, rx', kit_int, _, rfl, ?_⟩
      refine ⟨_, rfl, _, _, _, _, rfl, rx', kit_int_bool, _, rfl, _, rfl, ?_⟩
      exact ⟨_, rfl, _, rfl, rfl, fin⟩
    | str z =>
      have rx' := rx
      have ry' := ry
      simp only [RepD] at rx ry
      subst rx ry
      refine ⟨_, rfl, rfl, _, rfl, hnn (by intro z; cases z) ?_⟩
      refine ⟨_, rfl, _, _, _, _, rfl, ry', ks_bool, _, rfl, iteF ?_⟩
      refine ⟨_, rfl, _, _, _, _, rfl, ry', ks_int, _, rfl, iteF ?_⟩
      refine ⟨_, rfl, _, _, _, _, rfl, ry', ks_str, _, rfl, iteT ?_⟩
      refine ⟨_, rfl, _, _, _, _, rfl, rx', ks_str, _, rfl, ?_⟩
      exact ⟨_, rfl, _, rfl, rfl, fin⟩
    | tuple ds =>
      have rx' := rx
      have ry' := ry
      obtain ⟨a, xs, rfl, ha, hxs⟩ : ∃ a xs, x = .ref a ∧ SqT K H a xs ∧ RepDs K H ds xs := by simpa only [RepD] using rx
      obtain ⟨b, ys, rfl, hb, hys⟩ : ∃ a xs, y = .ref a ∧ SqT K H a xs ∧ RepDs K H ds xs := by simpa only [RepD] using ry
      simp only [wideD] at hw
      simp only [PyData.depth] at hd
      have hlx : xs.length = ds.length := reps_len hxs
      have hly : ys.length = ds.length := reps_len hys
      refine ⟨_, rfl, rfl, _, rfl, hnn (by intro z; cases z) ?_⟩
      refine ⟨_, rfl, _, _, _, _, rfl, ry', kt_bool, _, rfl, iteF ?_⟩
      refine ⟨_, rfl, _, _, _, _, rfl, ry', kt_int, _, rfl, iteF ?_⟩
      refine ⟨_, rfl, _, _, _, _, rfl, ry', kt_str, _, rfl, iteF ?_⟩
      refine ⟨_, rfl, _, _, _, _, rfl, ry', kt_dict, _, rfl, iteF ?_⟩
      refine ⟨_, rfl, _, _, _, _, rfl, ry', kt_tuple, _, rfl, _, _, _, _, rfl, rx', kt_tuple, rfl, _, rfl, iteNS rfl ?_⟩
      refine ⟨_, rfl, _, _, _, _, rfl, ry', kt_list, _, rfl, _, _, _, _, rfl, rx', kt_list, rfl, _, rfl, iteNS rfl ?_⟩
      refine ⟨_, rfl, (by show 2 ≤ sizeLine; decide), fun tp ntp => ?_⟩
      have s1 := same_new (o := .tup [.ty "list", .ty "tuple"]) ntp
      refine ⟨_, tp, _, _, _, _, rfl, SqT.of upd_same, RepD.same s1 _ _ ry', .inr rfl, kt_any, _, rfl, iteF ?_⟩
      refine ⟨_, rfl, a, xs, rfl, .inr (s1.sqT ha), _, rfl, b, ys, rfl, .inr (s1.sqT hb), rfl, _, rfl, iteNS (by rw [hlx, hly]) ?_⟩
      refine ⟨_, rfl, b, ys, rfl, .inr (s1.sqT hb), _, rfl, by omega, by omega, for_range (n := ((ys.length : Nat) : Int).toNat) (fun i σ H2 => ∃ v, σ = [some (.ref a), some (.ref b), v] ∧ Same H H2) ⟨none, rfl, s1⟩ ?_ ?_⟩
      · rintro i σ H2 hi ⟨v, rfl, e2⟩
        have hi' : i < ds.length := by omega
        obtain ⟨x', hx1, hx2⟩ := reps_get hxs (i := i) (d := ds[i]) (List.getElem?_eq_getElem hi')
        obtain ⟨y', hy1, hy2⟩ := reps_get hys (i := i) (d := ds[i]) (List.getElem?_eq_getElem hi')
        have hdi := depth_get (List.getElem?_eq_getElem hi')
        refine ⟨_, rfl, _, rfl, .inr ⟨a, xs, _, x', rfl, rfl, e2.sqT ha, by rw [Int.zero_add]; exact atI_nat hx1, _, rfl, _, rfl, .inr ⟨b, ys, _, y', rfl, rfl, e2.sqT hb, by rw [Int.zero_add]; exact atI_nat hy1, x', y', ds[i], rfl, RepD.same e2 _ _ hx2, RepD.same e2 _ _ hy2, by omega, wideDs_get hw.2 (List.getElem?_eq_getElem hi'), fun H3 e3 => ⟨_, rfl, iteF ?_⟩⟩⟩⟩
        exact ⟨_, rfl, e2.trans e3⟩
      · rintro σ H2 ⟨v, rfl, e2⟩
        exact k H2 e2
    | list ds =>
      have rx' := rx
      have ry' := ry
      obtain ⟨a, xs, rfl, ha, hxs⟩ : ∃ a xs, x = .ref a ∧ SqL K H a xs ∧ RepDs K H ds xs := by simpa only [RepD] using rx
      obtain ⟨b, ys, rfl, hb, hys⟩ : ∃ a xs, y = .ref a ∧ SqL K H a xs ∧ RepDs K H ds xs := by simpa only [RepD] using ry
      simp only [wideD] at hw
      simp only [PyData.depth] at hd
      have hlx : xs.length = ds.length := reps_len hxs
      have hly : ys.length = ds.length := reps_len hys
      refine ⟨_, rfl, rfl, _, rfl, hnn (by intro z; cases z) ?_⟩
      refine ⟨_, rfl, _, _, _, _, rfl, ry', kl_bool, _, rfl, iteF ?_⟩
      refine ⟨_, rfl, _, _, _, _, rfl, ry', kl_int, _, rfl, iteF ?_⟩
      refine ⟨_, rfl, _, _, _, _, rfl, ry', kl_str, _, rfl, iteF ?_⟩
      refine ⟨_, rfl, _, _, _, _, rfl, ry', kl_dict, _, rfl, iteF ?_⟩
      refine ⟨_, rfl, _, _, _, _, rfl, ry', kl_tuple, _, rfl, _, _, _, _, rfl, rx', kl_tuple, rfl, _, rfl, iteNS rfl ?_⟩
      refine ⟨_, rfl, _, _, _, _, rfl, ry', kl_list, _, rfl, _, _, _, _, rfl, rx', kl_list, rfl, _, rfl, iteNS rfl ?_⟩
      refine ⟨_, rfl, (by show 2 ≤ sizeLine; decide), fun tp ntp => ?_⟩
      have s1 := same_new (o := .tup [.ty "list", .ty "tuple"]) ntp
      refine ⟨_, tp, _, _, _, _, rfl, SqT.of upd_same, RepD.same s1 _ _ ry', .inl rfl, kl_any, _, rfl, iteF ?_⟩
      refine ⟨_, rfl, a, xs, rfl, .inl (s1.seq ha), _, rfl, b, ys, rfl, .inl (s1.seq hb), rfl, _, rfl, iteNS (by rw [hlx, hly]) ?_⟩
      refine ⟨_, rfl, b, ys, rfl, .inl (s1.seq hb), _, rfl, by omega, by omega, for_range (n := ((ys.length : Nat) : Int).toNat) (fun i σ H2 => ∃ v, σ = [some (.ref a), some (.ref b), v] ∧ Same H H2) ⟨none, rfl, s1⟩ ?_ ?_⟩
      · rintro i σ H2 hi ⟨v, rfl, e2⟩
        have hi' : i < ds.length := by omega
        obtain ⟨x', hx1, hx2⟩ := reps_get hxs (i := i) (d := ds[i]) (List.getElem?_eq_getElem hi')
        obtain ⟨y', hy1, hy2⟩ := reps_get hys (i := i) (d := ds[i]) (List.getElem?_eq_getElem hi')
        have hdi := depth_get (List.getElem?_eq_getElem hi')
        refine ⟨_, rfl, _, rfl, .inl ⟨a, xs, _, x', rfl, rfl, e2.seq ha, by rw [Int.zero_add]; exact atI_nat hx1, _, rfl, _, rfl, .inl ⟨b, ys, _, y', rfl, rfl, e2.seq hb, by rw [Int.zero_add]; exact atI_nat hy1, x', y', ds[i], rfl, RepD.same e2 _ _ hx2, RepD.same e2 _ _ hy2, by omega, wideDs_get hw.2 (List.getElem?_eq_getElem hi'), fun H3 e3 => ⟨_, rfl, iteF ?_⟩⟩⟩⟩
        exact ⟨_, rfl, e2.trans e3⟩
      · rintro σ H2 ⟨v, rfl, e2⟩
        exact k H2 e2
theorem ok_so {f : Addr} {fd : FuncData} (F : Fun K "_law_so" "_law_so" sSo f fd) (S : Sxt mg f) (bSo : Binds K fd ["_law_found", "_law_meant"] []) : ∀ n : Nat, FnOk P w K mg base CX0 (n + 1) f fd ["_law_found", "_law_meant"] (spSo K (n + 1))
  | 0 => ok_so1 F S bSo (so_zero F)
  | n + 1 => ok_so1 F S bSo (ok_so F S bSo n)
end
end Of

end

section
set_option Elab.async false
set_option linter.all false
set_option maxRecDepth 100000
set_option maxHeartbeats 4000000
seal L2.PE L2.PT L2.PW L2.PA L2.PS L2.PSs L2.PG L2.PGs L2.PI L3.PTs L2.PO L2.CallR L2.OpR L2.IxR L2.MtR L2.PSet L2.SlR
namespace Of
open PySem L2 L3 L4 L6 L7
theorem iteTe {b : Bool} {A B : Prop} (h : b = true) (a : A) : if b = true then A else B := by rw [if_pos h]; exact a
theorem iteFe {b : Bool} {A B : Prop} (h : b = false) (a : B) : if b = true then A else B := by rw [if_neg (by rw [h]; exact Bool.false_ne_true)]; exact a
theorem kept_iff {K : PySem.W.Frag} {H : Hp} {x : Let × Int × List Int} {v : V} : RepD K H (kpD x) v → ∃ a y cl, v = .ref a ∧ SqT K H a [y, .int x.2.1, .ref cl] ∧ RepD K H (nameD x.1) y ∧ SqT K H cl (nums x.2.2) := by
  intro h
  unfold kpD keptD at h
  rw [RepD] at h
  obtain ⟨a, xs, rfl, h1, h2⟩ := h
  simp only [RepDs] at h2
  obtain ⟨x1, r1, rfl, q1, x2, r2, rfl, q2, x3, r3, rfl, q3, rfl⟩ := h2
  simp only [RepD] at q2 q3
  obtain ⟨b, ys, rfl, h2, h3⟩ := q3
  rw [reps_ints.mp h3] at h2
  subst q2
  exact ⟨a, x1, b, rfl, h1, q1, h2⟩
/-- a state of an office -/
def StsV (K : PySem.W.Frag) (H : Hp) (x : Int × List Int) (v : V) : Prop := ∃ p cl, v = .ref p ∧ H p = some (.tup [.int x.1, .ref cl]) ∧ SqT K H cl (nums x.2)
theorem StsV.imm {K : PySem.W.Frag} {H H' : Hp} (im : Imm H H') {x : Int × List Int} {v : V} : StsV K H x v → StsV K H' x v
  | ⟨b, cl, e, h1, h2⟩ => ⟨b, cl, e, im.tup _ _ h1, im.sqT h2⟩
theorem StsVs.imm {K : PySem.W.Frag} {H H' : Hp} (im : Imm H H') {ss : List (Int × List Int)} {us : List V} (h : All2 (StsV K H) ss us) : All2 (StsV K H') ss us := h.mono fun _ _ => StsV.imm im
/-- what an office kept of a cut -/
def KpAt (K : PySem.W.Frag) (H : Hp) (m : Let) (x : Int × List Int) (v : V) : Prop := ∃ lk ks es, v = .ref lk ∧ H lk = some (.lst ks) ∧ RepDs K H (es.map kpD) ks ∧ KAt m x es
theorem KpAt.same {K : PySem.W.Frag} {H H' : Hp} (e : Same H H') {m : Let} {x : Int × List Int} {v : V} : KpAt K H m x v → KpAt K H' m x v
  | ⟨lk, ks, es, e1, h1, h2, h3⟩ => ⟨lk, ks, es, e1, e _ _ h1, RepDs.same e _ _ h2, h3⟩
def spStateIn (K : PySem.W.Frag) : Sp := fun vs H Q _ => ∃ (v : V) (b : Addr) (m : Let) (x : Int × List Int), vs = [v, .ref b] ∧ KpAt K H m x v ∧ H b = some (.tup [.int m.s, .int (nameN m)]) ∧ ∀ y H', Same H H' → StsV K H' x y → Q y H'
def spStates (K : PySem.W.Frag) : Sp := fun vs H Q _ => ∃ (la b : Addr) (ys : List V) (m : Let) (ss : List (Int × List Int)), vs = [.ref la, .ref b] ∧ SqL K H la ys ∧ All2 (KpAt K H m) ss ys ∧ ss.length ≤ 1000 ∧ H b = some (.tup [.int m.s, .int (nameN m)]) ∧ ∀ D us H', Same H H' → H' D = some (.lst us) → All2 (StsV K H') ss us → Q (.ref D) H'
def spThereAt (K : PySem.W.Frag) : Sp := fun vs H Q _ => ∃ (a c : Addr) (l : Let) (ss : List (Int × List Int)) (us : List V) (u : Nat) (x : Int × List Int), vs = [.ref a, .ref c, .int u] ∧ LetAt K H a l ∧ l.s < l.st.length ∧ SqL K H c us ∧ All2 (StsV K H) ss us ∧ ss[u]? = some x ∧ l.s < x.2.length ∧ ∀ H', Same H H' → Q (.bl (decide (nameN l ≤ x.2.getD l.s 0))) H'
def spIsSent (K : PySem.W.Frag) : Sp := fun vs H Q _ => ∃ (a c : Addr) (l : Let) (ss : List (Int × List Int)) (us : List V) (x : Int × List Int), vs = [.ref a, .ref c] ∧ LetAt K H a l ∧ l.s < l.st.length ∧ SqL K H c us ∧ All2 (StsV K H) ss us ∧ ss[l.s]? = some x ∧ l.s < x.2.length ∧ ∀ H', Same H H' → Q (.bl (decide (nameN l ≤ x.2.getD l.s 0))) H'
def spOnWay (K : PySem.W.Frag) : Sp := fun vs H Q _ => ∃ (a c : Addr) (l : Let) (ss : List (Int × List Int)) (us : List V), vs = [.ref a, .ref c] ∧ LetAt K H a l ∧ okLet ss.length l ∧ SqL K H c us ∧ All2 (StsV K H) ss us ∧ (∀ x ∈ ss, x.2.length = ss.length) ∧ ∀ H', Same H H' → Q (.int (wayV ss l)) H'
def spUnder (K : PySem.W.Frag) : Sp := fun vs H Q _ => ∃ (la c : Addr) (ls : List Let) (xs : List V) (ss : List (Int × List Int)) (us : List V), vs = [.ref la, .ref c] ∧ SqL K H la xs ∧ RepDs K H (ls.map letD) xs ∧ (∀ l ∈ ls, okLet ss.length l) ∧ ls.length ≤ 100000 ∧ SqL K H c us ∧ All2 (StsV K H) ss us ∧ (∀ x ∈ ss, x.2.length = ss.length) ∧ ∀ H', Same H H' → Q (.int (ls.map (wayV ss)).sum) H'
/-- the books of cuts -/
def KpV (K : PySem.W.Frag) (H : Hp) (o : Off) (v : V) : Prop := ∃ lk ks, v = .ref lk ∧ H lk = some (.lst ks) ∧ RepDs K H o.kept ks
theorem KpV.same {K : PySem.W.Frag} {H H' : Hp} (e : Same H H') {o : Off} {v : V} : KpV K H o v → KpV K H' o v
  | ⟨lk, ks, e1, h1, h2⟩ => ⟨lk, ks, e1, e _ _ h1, RepDs.same e _ _ h2⟩
def spKeptOf (K : PySem.W.Frag) : Sp := fun vs H Q _ => ∃ (n : Nat) (coins : Int) (b : Addr) (ds : List Deed) (xs : List V), vs = [.int n, .int coins, .ref b] ∧ SqL K H b xs ∧ RepDs K H (ds.map deedD) xs ∧ (∀ d ∈ ds, okDeed n d) ∧ ds.length ≤ 200 ∧ 2 ≤ n ∧ n < 1000 ∧
  ∀ (l : Addr) (ys : List V) (H' : Hp), H' l = some (.lst ys) → All2 (KpV K H') (runC (start n coins) ds).offs ys → Same H H' → Q (.ref l) H'
section
variable {P : Program} {w : World} {K : PySem.W.Frag} {mg : Str → Option Value} {base : Heap} {C CC fN fT fC fR fF fO fSi fTa fSe fOw : Addr}
theorem oSi : ownB ["kept", "name", "one"] (defScope sStateIn) = true := by decide +kernel
theorem scSi : FnScope ["kept", "name", "one"] ["kept", "name"] (defScope sStateIn) := ⟨rfl, rfl, rfl, by decide +kernel, rfl, by decide +kernel, by decide +kernel⟩
theorem ok_state_in {f : Addr} {fd : FuncData} (F : Fun K "state_in" "state_in" sStateIn f fd) : FnOk P w K mg base CX0 1 f fd ["kept", "name"] (spStateIn K) := by
  refine okB (body := [stm sStateIn 0, stm sStateIn 1]) F scSi (fun vs H Q E h => ?_) (by kernel_rfl) (fun cdv A0 outer s0 H vs Q E hr h => ?_)
  · obtain ⟨v, b, m, x, rfl, _⟩ := h
    rfl
  · obtain ⟨v, b, m, x, rfl, ⟨lk, ks, es, rfl, h1, h2, a, b', h3, h4⟩, h5, fin⟩ := h
    refine ⟨_, (pss_cons (ps_for PassesOwn.never rfl (pi_list (oV oSi 0)) (oT oSi 2)
        (pss_one (ps_if (pt_cmpR (op_eqD (n := 10) (room_data hr)) (iX (ixT K) (oV oSi 2) pe_int) (oV oSi 1) (nomark _))
          (pss_one (ps_ret (pe_tup (aC (iX (ixT K) (oV oSi 2) pe_int) (aC (iX (ixT K) (oV oSi 2) pe_int) pa_nil)))))
          pss_nil)))
      (pss_one ps_never)), ?_⟩
    have hl := reps_len h2
    rw [List.length_map] at hl
    refine ⟨_, rfl, lk, rfl, ⟨_, SqL.of h1⟩, for_list (K := K) (a := lk) (xs := ks) (fun i σ Hc => ∃ (w9 : Option V), σ = [some (.ref lk), some (.ref b), w9] ∧ Hc = H ∧ i ≤ a.length) ⟨none, rfl, rfl, Nat.zero_le _⟩ (fun i σ Hc _ h => by obtain ⟨_, _, e, _⟩ := h; rw [e]; exact SqL.of h1) ?_ ?_⟩
    · rintro i y σ Hc hi ⟨w9, rfl, rfl, hia⟩
      have hi' : i < es.length := by have := (List.getElem?_eq_some_iff.mp hi).1; omega
      obtain ⟨y', gy, ry⟩ := reps_get h2 (i := i) (d := kpD es[i]) (by rw [List.getElem?_map, List.getElem?_eq_getElem hi']; rfl)
      rw [hi] at gy
      cases gy
      obtain ⟨p, z, cl, rfl, q1, q2, q3⟩ := kept_iff ry
      refine ⟨_, rfl, p, _, 0, _, rfl, rfl, q1, rfl, _, rfl, nameD es[i].1, nameD m, q2, NmV.rep ⟨b, rfl, h5⟩, rfl, rfl, Nat.le_trans (Nat.min_le_right _ _) (depth_name m), _, rfl, ?_⟩
      by_cases hlt : i < a.length
      · have ei : es[i] ∈ a := by
          have : es[i]? = a[i]? := by rw [h3, List.getElem?_append_left hlt]
          rw [List.getElem?_eq_getElem hi'] at this
          exact List.mem_of_getElem? this.symm
        refine iteFe ?_ ⟨_, rfl, rfl, hlt⟩
        unfold nameD
        rw [eqv_nm, Bool.and_eq_false_iff]
        by_cases hs : es[i].1.s = m.s
        · exact .inr (decide_eq_false fun z2 => h4 _ ei ⟨hs, z2⟩)
        · exact .inl (decide_eq_false hs)
      · have e : i = a.length := by omega
        have ei : es[i] = (m, x) := by
          have : es[i]? = some (m, x) := by rw [h3, e, List.getElem?_append_right (Nat.le_refl _), Nat.sub_self]; rfl
          rw [List.getElem?_eq_getElem hi'] at this
          exact Option.some.inj this
        rw [ei] at q1 q3 ⊢
        refine iteTe (by unfold nameD; rw [eqv_nm]; simp) ?_
        refine ⟨_, rfl, p, _, 1, _, rfl, rfl, q1, rfl, _, rfl, p, _, 2, _, rfl, rfl, q1, rfl, len2, fun t nt => ?_⟩
        have s1 := same_new (o := .tup [.int x.1, .ref cl]) nt
        exact fin _ _ s1 ⟨t, cl, rfl, upd_same, s1.sqT q3⟩
    · rintro σ Hc ⟨w9, rfl, rfl, hia⟩
      rw [hl, h3, List.length_append, List.length_cons] at hia
      omega
theorem oSt : ownB ["all_kept", "name"] (defScope sStates) = true := by decide +kernel
theorem scSt : FnScope ["all_kept", "name"] ["all_kept", "name"] (defScope sStates) := ⟨rfl, rfl, rfl, by decide +kernel, rfl, by decide +kernel, by decide +kernel⟩
theorem ok_states {f : Addr} {fd fdS : FuncData} (F : Fun K "states" "states" sStates f fd) (mSi : mg "state_in" = some (.ref fSi)) (FSi : Fun K "state_in" "state_in" sStateIn fSi fdS) (bSi : Binds K fdS ["kept", "name"] []) : FnOk P w K mg base CX0 2 f fd ["all_kept", "name"] (spStates K) := by
  have GSi : FnOk P w K mg base CX0 1 fSi fdS ["kept", "name"] (spStateIn K) := ok_state_in FSi
  refine okB (body := [stm sStates 0]) F scSt (fun vs H Q E h => ?_) (by kernel_rfl) (fun cdv A0 outer s0 H vs Q E hr h => ?_)
  · obtain ⟨la, b, ys, m, ss, rfl, _⟩ := h
    rfl
  · obtain ⟨la, b, ys, m, ss, rfl, h1, h2, h3, h5, fin⟩ := h
    refine ⟨_, (pss_one (ps_ret (eC [1] ["name"] rfl (pi_list (oV oSt 0)) (fun _ _ _ _ _ => pts_nil) (fun _ _ _ _ _ => (cF GSi hr mSi FSi.kp bSi .nil pass0 (aC (sV 0) (aC (sV 1) pa_nil))))))), ?_⟩
    have hl := h2.len
    refine ⟨_, rfl, la, rfl, ⟨_, h1⟩, comp_list (xs := ys) (fun D j us H2 => Same H H2 ∧ H2 D = some (.lst us) ∧ All2 (StsV K H2) (ss.take j) us)
      (fun D hD => ⟨same_new hD, upd_same, rfl⟩) (fun D j us H2 hD hj h => ⟨h.2.1, h.1.seq h1⟩) (fun D j x us H2 hD hj h => ?_) (fun D us H2 hD h => ?_)⟩
    · obtain ⟨f1, f2, f3⟩ := h
      have hj' : j < ss.length := by have := (List.getElem?_eq_some_iff.mp hj).1; omega
      obtain ⟨x', gx, rx⟩ := h2.get (List.getElem?_eq_getElem hj')
      rw [hj] at gx
      cases gx
      rw [take_snoc (List.getElem?_eq_getElem hj')]
      have ul := f3.len
      rw [List.length_take] at ul
      refine ⟨_, rfl, _, rfl, x, b, m, ss[j], rfl, rx.same f1, f1 _ _ h5, fun y H3 e3 hy => ?_⟩
      have hD3 := e3 _ _ f2
      exact ⟨hD3, small1000 (by omega), same_upd (f1.trans e3) hD, upd_same, StsVs.imm (imm_lst hD3) (All2.append (StsVs.imm e3.imm f3) (All2.one hy))⟩
    · obtain ⟨f1, f2, f3⟩ := h
      rw [hl, List.take_length] at f3
      exact fin D us H2 f1 f2 f3
theorem oTa : ownB ["letter", "cut", "office"] (defScope sIsThereAt) = true := by decide +kernel
theorem scTa : FnScope ["letter", "cut", "office"] ["letter", "cut", "office"] (defScope sIsThereAt) := ⟨rfl, rfl, rfl, by decide +kernel, rfl, by decide +kernel, by decide +kernel⟩
theorem ok_there_at {f : Addr} {fd fdN fdT : FuncData} (F : Fun K "is_there_at" "is_there_at" sIsThereAt f fd) (mN : mg "name_of" = some (.ref fN)) (FN : Fun K "name_of" "name_of" sName fN fdN) (bN : Binds K fdN ["letter"] []) (mT : mg "is_there" = some (.ref fT)) (FT : Fun K "is_there" "is_there" sThere fT fdT) (bT : Binds K fdT ["name", "clock"] []) : FnOk P w K mg base CX0 2 f fd ["letter", "cut", "office"] (spThereAt K) := by
  have GN : FnOk P w K mg base CX0 1 fN fdN ["letter"] (spName K) := ok_name FN
  have GT : FnOk P w K mg base CX0 1 fT fdT ["name", "clock"] (spThere K) := ok_there FT
  refine okB (body := [stm sIsThereAt 0]) F scTa (fun vs H Q E h => ?_) (by kernel_rfl) (fun cdv A0 outer s0 H vs Q E hr h => ?_)
  · obtain ⟨a, c, l, ss, us, u, x, rfl, _⟩ := h
    rfl
  · obtain ⟨a, c, l, ss, us, u, x, rfl, hl, hll, hc, hu, hx, hxl, fin⟩ := h
    have hr1 := hr
    refine ⟨_, (pss_one (ps_ret (cF GT hr1 mT FT.kp bT .nil pass0 (aC (cF GN hr1 mN FN.kp bN .nil pass0 (aC (oV oTa 0) pa_nil)) (aC (iX (ixT K) (iX (ixL K) (oV oTa 1) (oV oTa 2)) pe_int) pa_nil))))), ?_⟩
    obtain ⟨v, gv, p, cl, rfl, q1, q2⟩ := hu.get hx
    refine ⟨_, rfl, a, l, rfl, hl, hll, fun t nt => ?_⟩
    have s1 := same_new (o := .tup [.int l.s, .int (nameN l)]) nt
    exact ⟨_, rfl, _, rfl, c, _, _, .ref p, rfl, rfl, s1.seq hc, atI_nat gv, p, _, 1, _, rfl, rfl, SqT.of (s1 _ _ q1), rfl, t, cl, l.s, nameN l, x.2, rfl, SqT.of upd_same, s1.sqT q2, hxl, fin _ s1⟩
theorem oSe : ownB ["letter", "cut"] (defScope sIsSent) = true := by decide +kernel
theorem scSe : FnScope ["letter", "cut"] ["letter", "cut"] (defScope sIsSent) := ⟨rfl, rfl, rfl, by decide +kernel, rfl, by decide +kernel, by decide +kernel⟩
theorem ok_is_sent {f : Addr} {fd fdN fdT fdTa : FuncData} (F : Fun K "is_sent" "is_sent" sIsSent f fd) (mN : mg "name_of" = some (.ref fN)) (FN : Fun K "name_of" "name_of" sName fN fdN) (bN : Binds K fdN ["letter"] []) (mT : mg "is_there" = some (.ref fT)) (FT : Fun K "is_there" "is_there" sThere fT fdT) (bT : Binds K fdT ["name", "clock"] []) (mTa : mg "is_there_at" = some (.ref fTa)) (FTa : Fun K "is_there_at" "is_there_at" sIsThereAt fTa fdTa) (bTa : Binds K fdTa ["letter", "cut", "office"] []) : FnOk P w K mg base CX0 3 f fd ["letter", "cut"] (spIsSent K) := by
  have GTa : FnOk P w K mg base CX0 2 fTa fdTa ["letter", "cut", "office"] (spThereAt K) := ok_there_at FTa mN FN bN mT FT bT
  refine okB (body := [stm sIsSent 0]) F scSe (fun vs H Q E h => ?_) (by kernel_rfl) (fun cdv A0 outer s0 H vs Q E hr h => ?_)
  · obtain ⟨a, c, l, ss, us, x, rfl, _⟩ := h
    rfl
  · obtain ⟨a, c, l, ss, us, x, rfl, hl, hll, hc, hu, hx, hxl, fin⟩ := h
    have hrT := hr
    refine ⟨_, (pss_one (ps_ret (cF GTa hrT mTa FTa.kp bTa .nil pass0 (aC (oV oSe 0) (aC (oV oSe 1) (aC (iX (ixT K) (oV oSe 0) pe_int) pa_nil)))))), ?_⟩
    obtain ⟨b, wc, L1, L2, L3⟩ := hl
    exact ⟨_, rfl, _, rfl, _, rfl, a, _, 0, _, rfl, rfl, L1, rfl, a, c, l, ss, us, l.s, x, rfl, ⟨b, wc, L1, L2, L3⟩, hll, hc, hu, hx, hxl, fin⟩
theorem oOw : ownB ["letter", "cut", "what"] (defScope sCoinsOnTheWay) = true := by decide +kernel
theorem scOw : FnScope ["letter", "cut", "what"] ["letter", "cut"] (defScope sCoinsOnTheWay) := ⟨rfl, rfl, rfl, by decide +kernel, rfl, by decide +kernel, by decide +kernel⟩
theorem ok_on_way {f : Addr} {fd fdN fdT fdTa fdSe : FuncData} (F : Fun K "coins_on_the_way" "coins_on_the_way" sCoinsOnTheWay f fd) (mN : mg "name_of" = some (.ref fN)) (FN : Fun K "name_of" "name_of" sName fN fdN) (bN : Binds K fdN ["letter"] []) (mT : mg "is_there" = some (.ref fT)) (FT : Fun K "is_there" "is_there" sThere fT fdT) (bT : Binds K fdT ["name", "clock"] []) (mTa : mg "is_there_at" = some (.ref fTa)) (FTa : Fun K "is_there_at" "is_there_at" sIsThereAt fTa fdTa) (bTa : Binds K fdTa ["letter", "cut", "office"] []) (mSe : mg "is_sent" = some (.ref fSe)) (FSe : Fun K "is_sent" "is_sent" sIsSent fSe fdSe) (bSe : Binds K fdSe ["letter", "cut"] []) : FnOk P w K mg base CX0 4 f fd ["letter", "cut"] (spOnWay K) := by
  have GTa : FnOk P w K mg base CX0 2 fTa fdTa ["letter", "cut", "office"] (spThereAt K) := ok_there_at FTa mN FN bN mT FT bT
  have GSe : FnOk P w K mg base CX0 3 fSe fdSe ["letter", "cut"] (spIsSent K) := ok_is_sent FSe mN FN bN mT FT bT mTa FTa bTa
  refine okB (body := [stm sCoinsOnTheWay 0, stm sCoinsOnTheWay 1, stm sCoinsOnTheWay 2]) F scOw (fun vs H Q E h => ?_) (by kernel_rfl) (fun cdv A0 outer s0 H vs Q E hr h => ?_)
  · obtain ⟨a, c, l, ss, us, rfl, _⟩ := h
    rfl
  · obtain ⟨a, c, l, ss, us, rfl, hl, ok, hc, hu, hx, fin⟩ := h
    have hrT := hr.mono (by decide : 2 ≤ 3)
    refine ⟨_, (pss_cons (oS oOw 2 (iX (ixT K) (oV oOw 0) pe_int))
      (pss_cons (ps_if (PW.pt (pw_or (pt_cmpR op_ne (iX (ixT K) (oV oOw 2) pe_int) pe_str (nomark _)) (pw_or (pt_not (pt_val (cF GSe hr mSe FSe.kp bSe .nil pass0 (aC (oV oOw 0) (aC (oV oOw 1) pa_nil))))) (pw_or1 (pt_val (cF GTa hrT mTa FTa.kp bTa .nil pass0 (aC (oV oOw 0) (aC (oV oOw 1) (aC (iX (ixT K) (oV oOw 2) pe_int) pa_nil)))))))))
        (pss_one (ps_ret pe_int))
        pss_nil)
      (pss_one (ps_ret (iX (ixT K) (oV oOw 2) pe_int))))), ?_⟩
    obtain ⟨b, wc, L1, L2, L3⟩ := id hl
    obtain ⟨o1, o2, o3, o4⟩ := ok
    have hll : l.s < l.st.length := by omega
    refine ⟨_, rfl, a, _, 2, _, rfl, rfl, L1, rfl, ?_⟩
    cases hw : l.w with
    | cut =>
      rw [hw] at L3
      have L3 : SqT K H wc [.str "cut"] := L3
      refine ⟨_, rfl, wc, _, 0, _, rfl, rfl, L3, rfl, rfl, _, rfl, ?_⟩
      refine iteTe (by decide +kernel) ?_
      have : wayV ss l = 0 := by unfold wayV; rw [hw]
      refine iteT ?_
      show Q (.int 0) H
      rw [← this]; exact fin _ (Same.refl H)
    | pay t q =>
      rw [hw] at L3 o4
      have L3 : SqT K H wc [.str "pay", .int t, .int q] := L3
      obtain ⟨g1, g2, g3, g4⟩ := o4
      have hv : wayV ss l = if nameN l ≤ (ss.getD l.s (0, [])).2.getD l.s 0 ∧ ¬ nameN l ≤ (ss.getD t.toNat (0, [])).2.getD l.s 0 then q else 0 := by unfold wayV; rw [hw]
      have x1 : ss[l.s]? = some ss[l.s] := List.getElem?_eq_getElem o1
      have ht : t.toNat < ss.length := by omega
      have x2 : ss[t.toNat]? = some ss[t.toNat] := List.getElem?_eq_getElem ht
      have d1 : ss.getD l.s (0, []) = ss[l.s] := by rw [List.getD_eq_getElem?_getD, x1]; rfl
      have d2 : ss.getD t.toNat (0, []) = ss[t.toNat] := by rw [List.getD_eq_getElem?_getD, x2]; rfl
      have e1 : ss[l.s].2.length = ss.length := hx _ (List.getElem_mem o1)
      have e2 : ss[t.toNat].2.length = ss.length := hx _ (List.getElem_mem ht)
      rw [d1, d2] at hv
      rw [hv] at fin
      generalize ss[l.s] = y1 at x1 e1 fin
      generalize ss[t.toNat] = y2 at x2 e2 fin
      have et : t = ((t.toNat : Nat) : Int) := by omega
      refine ⟨_, rfl, wc, _, 0, _, rfl, rfl, L3, rfl, rfl, _, rfl, ?_⟩
      refine iteFe (by decide +kernel) ?_
      refine ⟨_, rfl, _, rfl, a, c, l, ss, us, y1, rfl, hl, hll, hc, hu, x1, by omega, fun H1 s1 => ⟨_, rfl, ?_⟩⟩
      by_cases z1 : nameN l ≤ y1.2.getD l.s 0
      · refine iteFe (by rw [decide_eq_true z1]; rfl) ?_
        refine ⟨_, rfl, _, rfl, _, rfl, wc, _, 1, _, rfl, rfl, s1.sqT L3, rfl, a, c, l, ss, us, t.toNat, y2, by rw [← et]; rfl, hl.imm s1.imm, hll, s1.seq hc, StsVs.imm s1.imm hu, x2, by omega, fun H2 s2 => ⟨_, rfl, ?_⟩⟩
        have s12 := s1.trans s2
        by_cases z2 : nameN l ≤ y2.2.getD l.s 0
        · refine iteTe (decide_eq_true z2) ?_
          rw [if_neg (fun z => z.2 z2)] at fin
          exact fin _ s12
        · refine iteFe (decide_eq_false z2) ?_
          rw [if_pos ⟨z1, z2⟩] at fin
          exact ⟨_, rfl, wc, _, 2, _, rfl, rfl, s12.sqT L3, rfl, fin _ s12⟩
      · refine iteTe (by rw [decide_eq_false z1]; rfl) ?_
        rw [if_neg (fun z => z1 z.1)] at fin
        refine iteT ?_
        exact fin _ s1
theorem oUw : ownB ["letters", "cut"] (defScope sCoinsUnderWay) = true := by decide +kernel
theorem scUw : FnScope ["letters", "cut"] ["letters", "cut"] (defScope sCoinsUnderWay) := ⟨rfl, rfl, rfl, by decide +kernel, rfl, by decide +kernel, by decide +kernel⟩
theorem ok_under {f : Addr} {fd fdN fdT fdTa fdSe fdOw : FuncData} (F : Fun K "coins_under_way" "coins_under_way" sCoinsUnderWay f fd) (mN : mg "name_of" = some (.ref fN)) (FN : Fun K "name_of" "name_of" sName fN fdN) (bN : Binds K fdN ["letter"] []) (mT : mg "is_there" = some (.ref fT)) (FT : Fun K "is_there" "is_there" sThere fT fdT) (bT : Binds K fdT ["name", "clock"] []) (mTa : mg "is_there_at" = some (.ref fTa)) (FTa : Fun K "is_there_at" "is_there_at" sIsThereAt fTa fdTa) (bTa : Binds K fdTa ["letter", "cut", "office"] []) (mSe : mg "is_sent" = some (.ref fSe)) (FSe : Fun K "is_sent" "is_sent" sIsSent fSe fdSe) (bSe : Binds K fdSe ["letter", "cut"] []) (mOw : mg "coins_on_the_way" = some (.ref fOw)) (FOw : Fun K "coins_on_the_way" "coins_on_the_way" sCoinsOnTheWay fOw fdOw) (bOw : Binds K fdOw ["letter", "cut"] []) (hsum : mg "sum" = none) : FnOk P w K mg base CX0 5 f fd ["letters", "cut"] (spUnder K) := by
  have GOw : FnOk P w K mg base CX0 4 fOw fdOw ["letter", "cut"] (spOnWay K) := ok_on_way FOw mN FN bN mT FT bT mTa FTa bTa mSe FSe bSe
  refine okB (body := [stm sCoinsUnderWay 0]) F scUw (fun vs H Q E h => ?_) (by kernel_rfl) (fun cdv A0 outer s0 H vs Q E hr h => ?_)
  · obtain ⟨la, c, ls, xs, ss, us, rfl, _⟩ := h
    rfl
  · obtain ⟨la, c, ls, xs, ss, us, rfl, h1, h2, ok, hn, hc, hu, hx, fin⟩ := h
    refine ⟨_, (pss_one (ps_ret (cB (L9.sumK K) hsum L9.boot_sum (aC (eC [1] ["cut"] rfl (pi_list (oV oUw 0)) (fun _ _ _ _ _ => pts_nil) (fun _ _ _ _ _ => (cF GOw hr mOw FOw.kp bOw .nil pass0 (aC (sV 0) (aC (sV 1) pa_nil))))) pa_nil)))), ?_⟩
    have hl := reps_len h2
    rw [List.length_map] at hl
    refine ⟨_, rfl, la, rfl, ⟨_, h1⟩, comp_list (xs := xs) (fun D j zs H2 => Same H H2 ∧ H2 D = some (.lst zs) ∧ zs = ((ls.take j).map (wayV ss)).map V.int)
      (fun D hD => ⟨same_new hD, upd_same, rfl⟩) (fun D j zs H2 hD hj h => ⟨h.2.1, h.1.seq h1⟩) (fun D j x zs H2 hD hj h => ?_) (fun D zs H2 hD h => ?_)⟩
    · obtain ⟨f1, f2, f3⟩ := h
      have hj' : j < ls.length := by have := (List.getElem?_eq_some_iff.mp hj).1; omega
      obtain ⟨x', gx, rx⟩ := reps_get h2 (i := j) (d := letD ls[j]) (by rw [List.getElem?_map, List.getElem?_eq_getElem hj']; rfl)
      rw [hj] at gx
      cases gx
      obtain ⟨a, rfl, La⟩ := letAt_iff.mp rx
      have zl : zs.length ≤ 100000 := by rw [f3, List.length_map, List.length_map, List.length_take]; omega
      rw [take_snoc (List.getElem?_eq_getElem hj')]
      refine ⟨_, rfl, _, rfl, a, c, ls[j], ss, us, rfl, La.imm f1.imm, ok _ (List.getElem_mem hj'), f1.seq hc, StsVs.imm f1.imm hu, hx, fun H3 e3 => ?_⟩
      refine ⟨e3 _ _ f2, Nat.lt_of_le_of_lt (show zs.length ≤ 1000000 by omega) (by decide), same_upd (f1.trans e3) hD, upd_same, ?_⟩
      rw [f3, List.map_append, List.map_append]; rfl
    · obtain ⟨f1, f2, f3⟩ := h
      rw [hl, List.take_length] at f3
      refine ⟨D, ls.map (wayV ss), rfl, ?_, fin _ f1⟩
      rw [← f3]; exact SqL.of f2
theorem oKo : ownB ["count", "coins", "deeds"] (defScope sKeptOf) = true := by decide +kernel
theorem scKo : FnScope ["count", "coins", "deeds"] ["count", "coins", "deeds"] (defScope sKeptOf) := ⟨rfl, rfl, rfl, by decide +kernel, rfl, by decide +kernel, by decide +kernel⟩
theorem ok_kept_of {f fO' : Addr} {fd fdO : FuncData} (F : Fun K "kept_of" "kept_of" sKeptOf f fd) (T : Txt K mg C fN fT fC fR fF fO) (CT : CTx K mg CC)
    (mO : mg "course_of" = some (.ref fO')) (FO : Fun K "course_of" "course_of" sCourse fO' fdO) (bO : Binds K fdO ["count", "coins", "deeds"] []) (GO : FnOk P w K mg base CX0 10 fO' fdO ["count", "coins", "deeds"] (spCourse K C CC)) : FnOk P w K mg base CX0 11 f fd ["count", "coins", "deeds"] (spKeptOf K) := by
  refine okB (body := [stm sKeptOf 0]) F scKo (fun vs H Q E h => ?_) (by kernel_rfl) (fun cdv A' outer s0 H vs Q E hr h => ?_)
  · obtain ⟨n, coins, b, ds, xs, rfl, _⟩ := h
    rfl
  · obtain ⟨n, coins, b, ds, xs, rfl, hb, hxs, ok, hl, n2, n3, fin⟩ := h
    refine ⟨_, (pss_one (ps_ret (eC [] [] rfl (pi_list (pe_fld (cF GO hr mO FO.kp bO .nil pass0 (aC (oV oKo 0) (aC (oV oKo 1) (aC (oV oKo 2) pa_nil)))) rfl)) (fun _ _ _ _ _ => pts_nil) (fun _ _ _ _ _ => (L8.fldK K (sV 0) rfl))))), ?_⟩
    refine ⟨_, rfl, _, rfl, _, rfl, n, coins, b, ds, xs, rfl, hb, hxs, ok, hl, n2, n3, fun A H' xl xe xa X fr e => ?_⟩
    refine ⟨A.q, CC, A.dx, _, _, rfl, X.ob, CT.cl, CT.nO, at_offices, ?_⟩
    have hno := (Mod.run (ds := ds) (start_mod (coins := coins) (Nat.le_of_lt n3)) ok (by omega)).wd.ln
    generalize runC (start n coins) ds = c at X fin hno
    have pl := X.pl
    have hno : c.offs.length = n := hno
    refine ⟨A.lo, rfl, ⟨_, SqL.of X.ho⟩, comp_list (xs := A.ps.map V.ref) (fun D j us H2 => Same H' H2 ∧ H2 D = some (.lst us) ∧ All2 (KpV K H') (c.offs.take j) us)
      (fun D hD => ⟨same_new hD, upd_same, rfl⟩) (fun D j us H2 hD hj h => ⟨h.2.1, SqL.of (h.1 _ _ X.ho)⟩) (fun D j x us H2 hD hj h => ?_) (fun D us H2 hD h => ?_)⟩
    · obtain ⟨f1, f2, f3⟩ := h
      have hj' : j < A.ps.length := by have := (List.getElem?_eq_some_iff.mp hj).1; rwa [List.length_map] at this
      have hjo : j < c.offs.length := by omega
      rw [List.getElem?_map, List.getElem?_eq_getElem hj'] at hj
      cases hj
      have O := X.of j _ (List.getElem?_eq_getElem hj')
      have eo : c.off j = c.offs[j] := by
        unfold Crs.off
        rw [List.getD_eq_getElem?_getD, List.getElem?_eq_getElem hjo]; rfl
      rw [eo] at O
      have etk : c.offs.take (j + 1) = c.offs.take j ++ [c.offs[j]] := take_snoc (List.getElem?_eq_getElem hjo)
      rw [etk]
      generalize c.offs[j] = o at O
      have ul := f3.len
      rw [List.length_take] at ul
      obtain ⟨dx, cl, lb, lt, lk, bs, ts, ks, Y⟩ := O.x
      refine ⟨_, rfl, A.ps[j], C, dx, _, _, rfl, f1 _ _ Y.ob, T.cl, T.nE, at_kept, ?_⟩
      exact ⟨f2, Nat.lt_of_le_of_lt (show us.length ≤ 1000000 by have := n3; omega) (by decide), same_upd f1 hD, upd_same, All2.append f3 (All2.one ⟨lk, ks, rfl, Y.hk, Y.rk⟩)⟩
    · obtain ⟨f1, f2, f3⟩ := h
      rw [List.length_map, pl, List.take_length] at f3
      exact fin D us H2 f2 (f3.mono fun _ _ => KpV.same f1) (e.trans f1)
end
end Of

end

section
set_option Elab.async false
set_option linter.all false
set_option maxRecDepth 100000
set_option maxHeartbeats 4000000
seal L2.PE L2.PT L2.PW L2.PA L2.PS L2.PSs L2.PG L2.PGs L2.PI L3.PTs L2.PO L2.CallR L2.OpR L2.IxR L2.MtR L2.PSet L2.SlR
namespace Of
open PySem L2 L3 L4 L5 L6 L7
def spLaw (K : PySem.W.Frag) : Sp := fun vs H Q _ => ∃ (a : Addr) (ns : List Int), vs = [.ref a] ∧ SqL K H a (nums ns) ∧ ns.length ≤ 63 ∧ ∀ H', Q (.bl true) H'
theorem count8 {r : Nat} (h : r < 8) : ∃ n : Nat, ([V.int 2, .int 3, .int 4, .int 2, .int 3, .int 4, .int 2, .int 12] : List V)[r]? = some (.int (n : Int)) ∧ 2 ≤ n ∧ n ≤ 12 := by
  match r, h with
  | 0, _ => exact ⟨2, rfl, by decide, by decide⟩
  | 1, _ => exact ⟨3, rfl, by decide, by decide⟩
  | 2, _ => exact ⟨4, rfl, by decide, by decide⟩
  | 3, _ => exact ⟨2, rfl, by decide, by decide⟩
  | 4, _ => exact ⟨3, rfl, by decide, by decide⟩
  | 5, _ => exact ⟨4, rfl, by decide, by decide⟩
  | 6, _ => exact ⟨2, rfl, by decide, by decide⟩
  | 7, _ => exact ⟨12, rfl, by decide, by decide⟩
theorem cut_len {ns : List Int} {i j : Int} (h : ns.length ≤ 63) : ∃ cs : List Int, cutV (nums ns) (some i) (some j) = nums cs ∧ cs.length ≤ 63 := by
  refine ⟨(ns.drop (HT.sIx (nums ns).length 0 (some i))).take (HT.sIx (nums ns).length (nums ns).length (some j) - HT.sIx (nums ns).length 0 (some i)), ?_, ?_⟩
  · unfold cutV nums
    rw [List.map_take, List.map_drop]
  · rw [List.length_take, List.length_drop]
    omega
theorem depth_ints : ∀ ns : List Int, PyData.depthAll (intD ns) ≤ 1
  | [] => by decide
  | n :: ns => by
    simp only [intD, List.map_cons, PyData.depthAll]
    refine Nat.max_le.mpr ⟨?_, depth_ints ns⟩
    simp [PyData.depth]
theorem reps_take {K : PySem.W.Frag} {H : Hp} : ∀ {ds : List PyData} {xs : List V} (i : Nat), RepDs K H ds xs → RepDs K H (ds.take i) (xs.take i)
  | ds, xs, 0, _ => by simp only [List.take_zero, RepDs]
  | [], xs, i + 1, h => by
    have : xs = [] := by simpa only [RepDs] using h
    subst this; simp only [List.take_nil, RepDs]
  | d :: ds, xs, i + 1, h => by
    obtain ⟨x, r, rfl, a, b⟩ : ∃ x r, xs = x :: r ∧ RepD K H d x ∧ RepDs K H ds r := by simpa only [RepDs] using h
    simp only [List.take_succ_cons, RepDs]
    exact ⟨x, _, rfl, a, reps_take i b⟩
theorem reps_drop {K : PySem.W.Frag} {H : Hp} : ∀ {ds : List PyData} {xs : List V} (i : Nat), RepDs K H ds xs → RepDs K H (ds.drop i) (xs.drop i)
  | ds, xs, 0, h => by simpa only [List.drop_zero] using h
  | [], xs, i + 1, h => by
    have : xs = [] := by simpa only [RepDs] using h
    subst this; simp only [List.drop_nil, RepDs]
  | d :: ds, xs, i + 1, h => by
    obtain ⟨x, r, rfl, a, b⟩ : ∃ x r, xs = x :: r ∧ RepD K H d x ∧ RepDs K H ds r := by simpa only [RepDs] using h
    simp only [List.drop_succ_cons]
    exact reps_drop i b
theorem reps_ins {K : PySem.W.Frag} {H : Hp} {ds : List PyData} {xs : List V} {d : PyData} {x : V} (i : Nat) (h : RepDs K H ds xs) (h1 : RepD K H d x) : RepDs K H (insV ds i d) (insV xs i x) := by
  unfold insV
  refine reps_append (reps_take i h) ?_
  simp only [RepDs]
  exact ⟨x, _, rfl, h1, reps_drop i h⟩
theorem ins_map {α β : Type} {f : α → β} {xs : List α} {i : Nat} {x : α} : (insV xs i x).map f = insV (xs.map f) i (f x) := by
  unfold insV
  rw [List.map_append, List.map_cons, List.map_take, List.map_drop]
theorem mem_ins {α : Type} {xs : List α} {i : Nat} {x y : α} : y ∈ insV xs i x ↔ y = x ∨ y ∈ xs := by
  unfold insV
  have h : y ∈ xs ↔ y ∈ xs.take i ∨ y ∈ xs.drop i := by rw [← List.mem_append, List.take_append_drop]
  rw [List.mem_append, List.mem_cons, h]
  constructor
  · rintro (z | z | z)
    · exact .inr (.inl z)
    · exact .inl z
    · exact .inr (.inr z)
  · rintro (z | z | z)
    · exact .inr (.inl z)
    · exact .inl z
    · exact .inr (.inr z)
theorem ins_len {α : Type} {xs : List α} {i : Nat} {x : α} : (insV xs i x).length = xs.length + 1 := by
  unfold insV
  rw [List.length_append, List.length_cons, List.length_take, List.length_drop]
  omega
def brn (n : Nat) (z : Int) (k : Nat) : Nat := (((k : Int) + z) % (n : Int)).toNat
theorem brn_lt {n k : Nat} {z : Int} (h : 0 < n) : brn n z k < n := by
  have h1 := Int.emod_nonneg ((k : Int) + z) (show (n : Int) ≠ 0 by omega)
  have h2 := Int.emod_lt_of_pos ((k : Int) + z) (show 0 < (n : Int) by omega)
  unfold brn; omega
theorem brn_all {n u : Nat} {z : Int} (h : u < n) : u ∈ (List.range n).map (brn n z) := by
  have h1 := Int.emod_nonneg ((u : Int) - z) (show (n : Int) ≠ 0 by omega)
  have h2 := Int.emod_lt_of_pos ((u : Int) - z) (show 0 < (n : Int) by omega)
  refine List.mem_map.mpr ⟨(((u : Int) - z) % (n : Int)).toNat, List.mem_range.mpr (by omega), ?_⟩
  unfold brn
  rw [Int.toNat_of_nonneg h1, Int.emod_add_emod, show (u : Int) - z + z = u by omega, Int.emod_eq_of_lt (by omega) (by omega)]
  simp
def spEnded (K : PySem.W.Frag) : Sp := fun vs H Q _ => ∃ (a : Addr) (ns : List Int) (n : Nat), vs = [.ref a, .int n] ∧ SqL K H a (nums ns) ∧ ns.length ≤ 63 ∧ 2 ≤ n ∧ n ≤ 12 ∧
  ∀ (l : Addr) (ds : List Deed) (xs : List V) (H' : Hp), ds.length ≤ 200 → (∀ d ∈ ds, okDeed n d) → (∃ (pre : List Deed) (z : Int), ds = pre ++ ((List.range n).map (brn n z)).map Deed.bring) → H' l = some (.lst xs) → RepDs K H' (ds.map deedD) xs → Same H H' → Q (.ref l) H'
section
variable {P : Program} {w : World} {K : PySem.W.Frag} {mg : Str → Option Value} {base : Heap} {fA fD fE fX fN fWk fW fS fEo fEn : Addr}
theorem oEd : ownB ["_law_script", "_law_count", "_law_deeds", "_law_spot", "_law_k"] (defScope sEndedL) = true := by decide +kernel
theorem scEd : FnScope ["_law_script", "_law_count", "_law_deeds", "_law_spot", "_law_k"] ["_law_script", "_law_count"] (defScope sEndedL) := ⟨rfl, rfl, rfl, by decide +kernel, rfl, by decide +kernel, by decide +kernel⟩
theorem ok_ended {f : Addr} {fd fdA fdD : FuncData} (F : Fun K "_law_ended" "_law_ended" sEndedL f fd) (T : Bts mg) (mA : mg "_law_at" = some (.ref fA)) (FA : Fun K "_law_at" "_law_at" sAt fA fdA) (bA : Binds K fdA ["_law_script", "_law_k"] [])
    (mD : mg "_law_drawn" = some (.ref fD)) (FD : Fun K "_law_drawn" "_law_drawn" sDrawn fD fdD) (bD : Binds K fdD ["_law_cells", "_law_count"] []) (GD : FnOk P w K mg base CX0 2 fD fdD ["_law_cells", "_law_count"] (spDrawn K)) : FnOk P w K mg base CX0 3 f fd ["_law_script", "_law_count"] (spEnded K) := by
  have GA : FnOk P w K mg base CX0 1 fA fdA ["_law_script", "_law_k"] (spAt K) := ok_at FA T
  refine okB (body := [stm sEndedL 0, stm sEndedL 1, stm sEndedL 2, stm sEndedL 3, stm sEndedL 4]) F scEd (fun vs H Q E h => ?_) (by kernel_rfl) (fun cdv A0 outer s0 H vs Q E hr h => ?_)
  · obtain ⟨a, ns, n, rfl, _⟩ := h
    rfl
  · obtain ⟨a, ns, n, rfl, ha, hns, n2, n12, fin⟩ := h
    have hr1 := hr.mono (by decide : 1 ≤ 2)
    obtain ⟨cs, hcs, hcsl⟩ := cut_len (ns := ns) (i := 2) (j := 22) hns
    refine ⟨_, (pss_cons (oS oEd 2 (cF GD hr mD FD.kp bD .nil pass0 (aC (pe_slice sl_list (oV oEd 0) (po_some pe_int) (po_some pe_int)) (aC (oV oEd 1) pa_nil))))
      (pss_cons (oS oEd 3 (pe_op op_mod (pe_op op_mod (pe_op op_mul (cF GA hr1 mA FA.kp bA .nil pass0 (aC (oV oEd 0) (aC pe_int pa_nil))) pe_int) pe_int) (pe_op op_add (cB (call_len_seq (X := _)) T.len PySem.boot_len (aC (oV oEd 2) pa_nil)) pe_int)))
      (pss_cons (ps_expr (pe_bm PySem.F.plainAttrs_list PySem.F.slot_list_insert PySem.F.type_list_insert mt_insert (oV oEd 2) (aC (oV oEd 3) (aC (pe_tup (aC pe_str (aC (pe_op op_mod (pe_op op_mod (pe_op op_mul (cF GA hr1 mA FA.kp bA .nil pass0 (aC (oV oEd 0) (aC pe_int pa_nil))) pe_int) pe_int) (oV oEd 1)) pa_nil))) pa_nil))))
      (pss_cons (ps_for PassesOwn.never rfl (rng1 T.range (aC (oV oEd 1) pa_nil)) (oT oEd 4)
        (pss_one (ps_expr (mApp (oV oEd 2) (pe_tup (aC pe_str (aC (pe_op op_mod (pe_op op_add (oV oEd 4) (cF GA hr1 mA FA.kp bA .nil pass0 (aC (oV oEd 0) (aC pe_int pa_nil)))) (oV oEd 1)) pa_nil)))))))
      (pss_one (ps_ret (oV oEd 2))))))), ?_⟩
    refine cut5 ?_
    intro rr4 rr3 rr2 rr1
    refine ⟨_, rfl, _, rfl, _, rfl, a, _, rfl, ha, fun qe nqe => ?_⟩
    rw [hcs]
    have s0 := same_new (o := .lst (nums cs)) nqe
    refine ⟨_, rfl, qe, cs, n, rfl, SqL.of upd_same, n2, by omega, fun ld ds xd H1 hdl ok _ nld hld hxd e1 => ?_⟩
    have e01 := s0.trans e1
    have nld0 : H ld = none := s0.free nld
    clear s0 e1 nld
    have xl := reps_len hxd
    rw [List.length_map] at xl
    have g0 := Int.emod_nonneg (cell ns 0 * 48271 % 1039) (show ((xd.length : Nat) : Int) + 1 ≠ 0 by omega)
    have g1 := Int.emod_lt_of_pos (cell ns 0 * 48271 % 1039) (show 0 < ((xd.length : Nat) : Int) + 1 by omega)
    have w0 := Int.emod_nonneg (cell ns 1 * 48271 % 1049) (show ((n : Nat) : Int) ≠ 0 by omega)
    have w1 := Int.emod_lt_of_pos (cell ns 1 * 48271 % 1049) (show 0 < ((n : Nat) : Int) by omega)
    refine ⟨_, rfl, a, ns, 0, rfl, e01.seq ha, by decide, _, _, rfl, rfl, cmul (by decide) (by decide), _, _, rfl, rfl, (by show (0 : Int) < 1039; decide), _, rfl, ld, _, rfl, .inl (SqL.of hld), _, _, rfl, rfl, _, _, rfl, rfl, (by show (0 : Int) < ((xd.length : Nat) : Int) + 1; omega), ?_⟩
    dsimp only
    generalize cell ns 0 * 48271 % 1039 % (((xd.length : Nat) : Int) + 1) = sp at g0 g1
    refine ⟨_, rfl, .inl ⟨rfl, _, SqL.of hld⟩, _, rfl, _, rfl, a, ns, 1, rfl, e01.seq ha, by decide, _, _, rfl, rfl, cmul (by decide) (by decide), _, _, rfl, rfl, (by show (0 : Int) < 1049; decide), _, rfl, _, _, rfl, rfl, (by show (0 : Int) < ((n : Nat) : Int); omega), len2, fun pt npt => ?_⟩
    dsimp only at npt ⊢
    obtain ⟨wc, hwc⟩ := Int.eq_ofNat_of_zero_le w0
    rw [hwc] at w1 ⊢
    have s2 := same_new (o := .tup [.str "cut", .int (wc : Int)]) npt
    have hpt : (upd H1 pt (.tup [.str "cut", .int (wc : Int)])) pt = some (.tup [.str "cut", .int (wc : Int)]) := upd_same
    have e2 := e01.trans s2
    have hld2 := s2 _ _ hld
    have hxd2 := RepDs.same s2 _ _ hxd
    generalize upd H1 pt (.tup [.str "cut", .int (wc : Int)]) = H2 at hpt e2 hld2 hxd2 ⊢
    refine ⟨ld, xd, sp, .ref pt, rfl, rfl, hld2, g0, by omega, by omega, ?_⟩
    have e3 : Same H (upd H2 ld (.lst (insV xd sp.toNat (.ref pt)))) := same_upd e2 nld0
    have i3 := imm_lst (ys := insV xd sp.toNat (.ref pt)) hld2
    have hx3 : RepDs K (upd H2 ld (.lst (insV xd sp.toNat (.ref pt)))) ((insV ds sp.toNat (.cut wc)).map deedD) (insV xd sp.toNat (.ref pt)) := by
      refine RepDs.imm i3 _ _ (noList_deeds _) ?_
      rw [ins_map]
      exact reps_ins _ hxd2 (deedAt_iff.mpr ⟨pt, rfl, SqT.of hpt⟩)
    have hld3 : (upd H2 ld (.lst (insV xd sp.toNat (.ref pt)))) ld = some (.lst (insV xd sp.toNat (.ref pt))) := upd_same
    have ok3 : ∀ d ∈ insV ds sp.toNat (.cut wc), okDeed n d := fun d hd => by
      rcases mem_ins.mp hd with z | z
      · subst z; show wc < n; omega
      · exact ok d z
    have pl : (insV ds sp.toNat (Deed.cut wc)).length = ds.length + 1 := ins_len
    generalize upd H2 ld (.lst (insV xd sp.toNat (.ref pt))) = H3 at e3 hx3 hld3 ⊢
    generalize insV ds sp.toNat (Deed.cut wc) = pre at hx3 ok3 pl
    generalize insV xd sp.toNat (.ref pt) = x3 at hx3 hld3
    clear e2 hld2 hxd2 hpt s2 npt e01 hld hxd i3 ok
    refine ⟨_, rfl, (n : Int), rfl, by omega, by omega, for_range (n := ((n : Nat) : Int).toNat) (lo := 0) (fun i σ Hc => ∃ (v : Option V) (xs : List V), σ = [some (.ref a), some (.int n), some (.ref ld), some (.int sp), v] ∧ Hc ld = some (.lst xs) ∧ RepDs K Hc ((pre ++ ((List.range i).map (brn n (cell ns 1))).map Deed.bring).map deedD) xs ∧ Same H Hc)
      ⟨none, x3, rfl, hld3, by simpa using hx3, e3⟩ ?_ ?_⟩
    · rintro i σ Hc hi ⟨v, xs, rfl, hlc, hxs, e⟩
      have hi' : i < n := by simpa using hi
      rw [show ((0 : Int) + (i : Int)) = (i : Int) from Int.zero_add _]
      have xsl := reps_len hxs
      rw [List.length_map, List.length_append, List.length_map, List.length_map, List.length_range] at xsl
      refine ⟨_, rfl, .inl ⟨rfl, _, SqL.of hlc⟩, _, rfl, _, rfl, a, ns, 1, rfl, e.seq ha, by decide, _, _, rfl, rfl, _, rfl, _, _, rfl, rfl, (by show (0 : Int) < ((n : Nat) : Int); omega), len2, fun pt npt => ?_⟩
      dsimp only at npt ⊢
      have hb : ((i : Int) + cell ns 1) % (n : Int) = ((brn n (cell ns 1) i : Nat) : Int) := by
        unfold brn
        rw [Int.toNat_of_nonneg (Int.emod_nonneg _ (by omega))]
      rw [hb]
      have s4 := same_new (o := .tup [.str "bring", .int ((brn n (cell ns 1) i : Nat) : Int)]) npt
      have hpt : (upd Hc pt (.tup [.str "bring", .int ((brn n (cell ns 1) i : Nat) : Int)])) pt = some (.tup [.str "bring", .int ((brn n (cell ns 1) i : Nat) : Int)]) := upd_same
      generalize upd Hc pt (.tup [.str "bring", .int ((brn n (cell ns 1) i : Nat) : Int)]) = H4 at s4 hpt ⊢
      refine ⟨ld, xs, .ref pt, rfl, rfl, s4 _ _ hlc, small1000 (by omega), _, xs ++ [.ref pt], rfl, upd_same, ?_, same_upd (e.trans s4) nld0⟩
      refine RepDs.imm (imm_lst (s4 _ _ hlc)) _ _ (noList_deeds _) ?_
      rw [show (pre ++ ((List.range (i + 1)).map (brn n (cell ns 1))).map Deed.bring).map deedD = (pre ++ ((List.range i).map (brn n (cell ns 1))).map Deed.bring).map deedD ++ [deedD (.bring (brn n (cell ns 1) i))] by rw [List.range_succ]; simp]
      exact reps_append (RepDs.same s4 _ _ hxs) (reps_one (deedAt_iff.mpr ⟨pt, rfl, SqT.of hpt⟩))
    · rintro σ Hc ⟨v, xs, rfl, hlc, hxs, e⟩
      rw [Int.toNat_natCast] at hxs
      refine ⟨_, rfl, fin ld _ xs Hc ?_ (fun d hd => ?_) ⟨pre, cell ns 1, rfl⟩ hlc hxs e⟩
      · rw [List.length_append, List.length_map, List.length_map, List.length_range]; omega
      · rcases List.mem_append.mp hd with z | z
        · exact ok3 d z
        · obtain ⟨t, ht, rfl⟩ := List.mem_map.mp z
          obtain ⟨k, _, rfl⟩ := List.mem_map.mp ht
          exact brn_lt (by omega)
end
def spAreStates (K : PySem.W.Frag) : Sp := fun vs H Q _ => ∃ (c : Addr) (us : List V) (ss : List (Int × List Int)) (n : Nat), vs = [.ref c, .int n] ∧ SqL K H c us ∧ All2 (StsV K H) ss us ∧ ss.length = n ∧ (∀ x ∈ ss, x.2.length = n) ∧ Q (.bl true) H
section
variable {P : Program} {w : World} {K : PySem.W.Frag} {mg : Str → Option Value} {base : Heap} {fA fD fE fX fN fWk fW fS fEo fEn fC : Addr}
theorem oCw : ownB ["_law_letter"] (defScope sCalled) = true := by decide +kernel
theorem scCw : FnScope ["_law_letter"] ["_law_letter"] (defScope sCalled) := ⟨rfl, rfl, rfl, by decide +kernel, rfl, by decide +kernel, by decide +kernel⟩
theorem ok_called {f : Addr} {fd : FuncData} (F : Fun K "_law_called" "_law_called" sCalled f fd) : FnOk P w K mg base CX0 1 f fd ["_law_letter"] (spName K) := by
  refine okB (body := [stm sCalled 0]) F scCw (fun vs H Q E h => ?_) (by kernel_rfl) (fun cdv A outer s0 H vs Q E hr h => ?_)
  · obtain ⟨a, l, rfl, _⟩ := h
    rfl
  · obtain ⟨a, l, rfl, ⟨b, c, h1, h2, _⟩, h3, q⟩ := h
    refine ⟨_, (pss_one (ps_ret (pe_tup (aC (iX (ixT K) (oV oCw 0) pe_int) (aC (iX (ixT K) (iX (ixT K) (oV oCw 0) pe_int) (iX (ixT K) (oV oCw 0) pe_int)) pa_nil))))), ?_⟩
    exact ⟨_, rfl, a, _, 0, _, rfl, rfl, h1, rfl, _, rfl, a, _, 1, _, rfl, rfl, h1, rfl, _, rfl, a, _, 0, _, rfl, rfl, h1, rfl, b, _, (l.s : Int), _, rfl, rfl, h2, atI_nat (get_nums h3), len2, q⟩
theorem oAs : ownB ["_law_found", "_law_count", "_law_one", "_law_number"] (defScope sAreStatesL) = true := by decide +kernel
theorem scAs : FnScope ["_law_found", "_law_count", "_law_one", "_law_number"] ["_law_found", "_law_count"] (defScope sAreStatesL) := ⟨rfl, rfl, rfl, by decide +kernel, rfl, by decide +kernel, by decide +kernel⟩
theorem ok_are_states {f : Addr} {fd fdW : FuncData} (F : Fun K "_law_are_states" "_law_are_states" sAreStatesL f fd) (T : Bts mg) (mW : mg "_law_whole" = some (.ref fW)) (FW : Fun K "_law_whole" "_law_whole" sWhole fW fdW) (bW : Binds K fdW ["_law_found"] []) : FnOk P w K mg base CX0 2 f fd ["_law_found", "_law_count"] (spAreStates K) := by
  have GW : FnOk P w K mg base CX0 1 fW fdW ["_law_found"] (spWhole K) := ok_whole FW T
  refine okB (body := [stm sAreStatesL 0, stm sAreStatesL 1, stm sAreStatesL 2]) F scAs (fun vs H Q E h => ?_) (by kernel_rfl) (fun cdv A0 outer s0 H vs Q E hr h => ?_)
  · obtain ⟨c, us, ss, n, rfl, _⟩ := h
    rfl
  · obtain ⟨c, us, ss, n, rfl, hc, hu, hn, hx, fin⟩ := h
    have hr1 := hr
    refine ⟨_, (pss_cons (ps_if (PW.pt (pw_or (pt_not (pt_val (cB call_isiL T.isinstance boot_isi (aC (oV oAs 0) (aC (nT T.list boot_lst) pa_nil))))) (pw_or1 (pt_cmpR op_ne (cB (call_len_seq (X := _)) T.len PySem.boot_len (aC (oV oAs 0) pa_nil)) (oV oAs 1) (nomark _)))))
        (pss_one (ps_ret pe_bl))
        pss_nil)
      (pss_cons (ps_for PassesOwn.never rfl (pi_list (oV oAs 0)) (oT oAs 2)
        (pss_cons (ps_if (PW.pt (pw_or (pt_not (pt_val (cB call_isiT T.isinstance boot_isi (aC (oV oAs 2) (aC (nT T.tuple boot_tup) pa_nil))))) (pw_or (pt_cmpR op_ne (cB (call_len_seq (X := _)) T.len PySem.boot_len (aC (oV oAs 2) pa_nil)) pe_int (nomark _)) (pw_or1 (pt_not (pt_val (cF GW hr1 mW FW.kp bW .nil pass0 (aC (iX (ixT K) (oV oAs 2) pe_int) pa_nil))))))))
          (pss_one (ps_ret pe_bl))
          pss_nil)
        (pss_cons (ps_if (PW.pt (pw_or (pt_not (pt_val (cB call_isiT T.isinstance boot_isi (aC (iX (ixT K) (oV oAs 2) pe_int) (aC (nT T.tuple boot_tup) pa_nil))))) (pw_or1 (pt_cmpR op_ne (cB (call_len_seq (X := _)) T.len PySem.boot_len (aC (iX (ixT K) (oV oAs 2) pe_int) pa_nil)) (oV oAs 1) (nomark _)))))
          (pss_one (ps_ret pe_bl))
          pss_nil)
        (pss_one (ps_for PassesOwn.never rfl (pi_tup (iX (ixT K) (oV oAs 2) pe_int)) (oT oAs 3)
          (pss_one (ps_if (pt_not (pt_val (cF GW hr1 mW FW.kp bW .nil pass0 (aC (oV oAs 3) pa_nil))))
            (pss_one (ps_ret pe_bl))
            pss_nil)))))))
      (pss_one (ps_ret pe_bl)))), ?_⟩
    have ul := hu.len
    refine ⟨_, rfl, c, _, _, _, rfl, hc, kit_list, _, rfl, iteF ?_⟩
    refine ⟨_, rfl, c, _, rfl, .inl hc, _, rfl, rfl, _, rfl, ?_⟩
    refine iteFe (by rw [decide_eq_true (show V.int ((us.length : Nat) : Int) = V.int ((n : Nat) : Int) by rw [ul, hn])]; rfl) ?_
    refine ⟨_, rfl, c, rfl, ⟨_, hc⟩, for_list (K := K) (a := c) (xs := us) (fun i σ Hc => ∃ (v2 v3 : Option V), σ = [some (.ref c), some (.int n), v2, v3] ∧ Hc = H) ⟨none, none, rfl, rfl⟩ (fun i σ Hc _ h => by obtain ⟨_, _, _, e⟩ := h; rw [e]; exact hc) ?_ ?_⟩
    · rintro i y σ Hc hi ⟨v2, v3, rfl, rfl⟩
      have hi' : i < ss.length := by have := (List.getElem?_eq_some_iff.mp hi).1; omega
      obtain ⟨y', gy, p, cl, ey, q1, q2⟩ := hu.get (List.getElem?_eq_getElem hi')
      rw [hi] at gy
      cases gy
      subst ey
      have hxl := hx _ (List.getElem_mem hi')
      generalize ss[i] = x at q1 q2 hxl
      have q1 : SqT K Hc p [.int x.1, .ref cl] := SqT.of q1
      refine ⟨_, rfl, p, _, _, _, rfl, q1, kit_tuple, _, rfl, iteF ?_⟩
      refine ⟨_, rfl, p, _, rfl, .inr q1, rfl, _, rfl, ?_⟩
      refine iteNS rfl ?_
      refine ⟨_, rfl, p, _, 0, _, rfl, rfl, q1, rfl, _, rfl, _, rfl, iteF ?_⟩
      refine ⟨_, rfl, p, _, 1, _, rfl, rfl, q1, rfl, cl, _, _, _, rfl, q2, kit_tuple, _, rfl, iteF ?_⟩
      refine ⟨_, rfl, p, _, 1, _, rfl, rfl, q1, rfl, cl, _, rfl, .inr q2, _, rfl, rfl, _, rfl, ?_⟩
      refine iteFe (by rw [decide_eq_true (show V.int (((nums x.2).length : Nat) : Int) = V.int ((n : Nat) : Int) by rw [List.length_map, hxl])]; rfl) ?_
      refine ⟨_, rfl, p, _, 1, _, rfl, rfl, q1, rfl, cl, rfl, ⟨_, q2⟩, for_tup (K := K) (a := cl) (xs := nums x.2) (fun j σ H2 => ∃ (v3 : Option V), σ = [some (.ref c), some (.int n), some (.ref p), v3] ∧ H2 = Hc) ⟨v3, rfl, rfl⟩ (fun j σ H2 _ h => by obtain ⟨_, _, e⟩ := h; rw [e]; exact q2) ?_ ?_⟩
      · rintro j z σ H2 hj ⟨v3, rfl, rfl⟩
        have hj' : j < x.2.length := by have := (List.getElem?_eq_some_iff.mp hj).1; rwa [List.length_map] at this
        rw [get_nums hj'] at hj
        cases hj
        exact ⟨_, rfl, _, rfl, _, rfl, iteF ⟨_, rfl, rfl⟩⟩
      · rintro σ H2 ⟨v3, rfl, rfl⟩
        exact ⟨_, _, rfl, rfl⟩
    · rintro σ Hc ⟨v2, v3, rfl, rfl⟩
      exact fin
end
end Of

end

section
set_option Elab.async false
set_option linter.all false
set_option maxRecDepth 100000
set_option maxHeartbeats 4000000
seal L2.PE L2.PT L2.PW L2.PA L2.PS L2.PSs L2.PG L2.PGs L2.PI L3.PTs L2.PO L2.CallR L2.OpR L2.IxR L2.MtR L2.PSet L2.SlR
namespace Of
open PySem L2 L3 L4 L5 L6 L7
theorem ixN_nat {n j : Nat} (h : j < n) : ixN n (j : Int) = some j := by
  unfold ixN
  rw [if_pos (Int.natCast_nonneg j), if_pos (by omega), Int.toNat_natCast]
def WhK (K : PySem.W.Frag) (H : Hp) : List Let → List (List Key × V) → Prop
  | [], k => k = []
  | l :: ls, k => ∃ c k', k = (kk l, .ref c) :: k' ∧ WhatAt K H c l.w ∧ WhK K H ls k'
theorem WhK.imm {K : PySem.W.Frag} {H H' : Hp} (im : Imm H H') : ∀ {ls : List Let} {kvs : List (List Key × V)}, WhK K H ls kvs → WhK K H' ls kvs
  | [], _, e => e
  | l :: ls, _, ⟨c, k', e, h1, h2⟩ => ⟨c, k', e, h1.imm im, h2.imm im⟩
theorem WhK.snoc {K : PySem.W.Frag} {H : Hp} {l : Let} {c : Addr} (h1 : WhatAt K H c l.w) : ∀ {ls : List Let} {kvs : List (List Key × V)}, WhK K H ls kvs → WhK K H (ls ++ [l]) (kvs ++ [(kk l, .ref c)])
  | [], _, e => by
    have e : _ = [] := e
    subst e
    exact ⟨c, [], rfl, h1, rfl⟩
  | x :: ls, _, ⟨c', k', e, g1, g2⟩ => by subst e; exact ⟨c', k' ++ [(kk l, .ref c)], rfl, g1, g2.snoc h1⟩
theorem WhK.len {K : PySem.W.Frag} {H : Hp} : ∀ {ls : List Let} {kvs : List (List Key × V)}, WhK K H ls kvs → kvs.length = ls.length
  | [], _, e => by
    have e : _ = [] := e
    subst e; rfl
  | x :: ls, _, ⟨c', k', e, g1, g2⟩ => by subst e; simp only [List.length_cons, g2.len]
theorem WhK.none_ {K : PySem.W.Frag} {H : Hp} {l : Let} : ∀ {ls : List Let} {kvs : List (List Key × V)}, WhK K H ls kvs → (∀ x ∈ ls, ¬ (x.s = l.s ∧ nameN x = nameN l)) → valV kvs (kk l) = none
  | [], _, e, _ => by
    have e : _ = [] := e
    subst e; exact valV_nil
  | x :: ls, _, ⟨c', k', e, g1, g2⟩, h => by
    subst e
    rw [valV_neg (fun z => h x List.mem_cons_self (kk_eq.mp z))]
    exact g2.none_ fun q hq => h q (List.mem_cons_of_mem _ hq)
theorem WhK.get {K : PySem.W.Frag} {H : Hp} {l : Let} : ∀ {ls : List Let} {kvs : List (List Key × V)}, WhK K H ls kvs → (∀ x ∈ ls, x.s = l.s → nameN x = nameN l → x = l) → l ∈ ls → ∃ c, valV kvs (kk l) = some (.ref c) ∧ WhatAt K H c l.w
  | [], _, _, _, hm => nomatch hm
  | x :: ls, _, ⟨c', k', e, g1, g2⟩, h, hm => by
    subst e
    by_cases hk : kk x = kk l
    · obtain ⟨h1, h2⟩ := kk_eq.mp hk
      have := h x List.mem_cons_self h1 h2
      exact ⟨c', valV_pos hk, this ▸ g1⟩
    · have hm' : l ∈ ls := by
        rcases List.mem_cons.mp hm with z | z
        · exact absurd (by rw [z]) hk
        · exact z
      obtain ⟨c, q1, q2⟩ := g2.get (fun q hq => h q (List.mem_cons_of_mem _ hq)) hm'
      exact ⟨c, by rw [valV_neg hk]; exact q1, q2⟩
theorem rep0' {n : Nat} : (List.replicate n [V.int 0]).flatten = nums (clk n []) := by
  have h : clk n [] = List.replicate n 0 := by
    refine List.ext_getElem (by rw [clk_len, List.length_replicate]) fun i h1 h2 => ?_
    unfold clk
    simp [cntS]
  rw [h]
  clear h
  induction n with
  | zero => rfl
  | succ k ih => rw [List.replicate_succ, List.flatten_cons, ih, List.replicate_succ]; rfl
theorem set_clk {n : Nat} {p : List Let} {l : Let} (h : l.s < n) : (nums (clk n p)).set l.s (.int ((clk n p).getD l.s 0 + 1)) = nums (clk n (p ++ [l])) := by
  rw [← inc_clk h]
  unfold inc nums
  rw [List.map_set]
def spWalkedTo (K : PySem.W.Frag) : Sp := fun vs H Q _ => ∃ (le ll b : Addr) (es : List Ev) (xe xl : List V) (u n : Nat) (m : Let) (c0 : Int), vs = [.ref le, .ref ll, .int u, .ref b, .int c0] ∧ SqL K H le xe ∧ All2 (EvV H) es xe ∧ SqL K H ll xl ∧ RepDs K H ((sentIn es).map letD) xl ∧ Good n (rows0 n) [] es ∧ (∀ l ∈ sentIn es, okLet n l) ∧ (sentIn es).length ≤ 100000 ∧ u < n ∧ n ≤ 1000 ∧ m ∈ knOf u es ∧ H b = some (.tup [.int m.s, .int (nameN m)]) ∧ ∀ y H', Same H H' → StsV K H' (stO n c0 m es u) y → Q y H'
section
variable {P : Program} {w : World} {K : PySem.W.Frag} {mg : Str → Option Value} {base : Heap} {fA fD fE fX fN fWk fW fS fEo fEn fC : Addr}
theorem oWt : ownB ["_law_events", "_law_letters", "_law_own", "_law_name", "_law_coins", "_law_what", "_law_letter", "_law_count", "_law_clock", "_law_event", "_law_told"] (defScope sWalkedToL) = true := by decide +kernel
theorem scWt : FnScope ["_law_events", "_law_letters", "_law_own", "_law_name", "_law_coins", "_law_what", "_law_letter", "_law_count", "_law_clock", "_law_event", "_law_told"] ["_law_events", "_law_letters", "_law_own", "_law_name", "_law_coins"] (defScope sWalkedToL) := ⟨rfl, rfl, rfl, by decide +kernel, rfl, by decide +kernel, by decide +kernel⟩
theorem ok_walked_to {f : Addr} {fd fdC : FuncData} (F : Fun K "_law_walked_to" "_law_walked_to" sWalkedToL f fd) (T : Bts mg) (mC : mg "_law_called" = some (.ref fC)) (FC : Fun K "_law_called" "_law_called" sCalled fC fdC) (bC : Binds K fdC ["_law_letter"] []) : FnOk P w K mg base CX0 2 f fd ["_law_events", "_law_letters", "_law_own", "_law_name", "_law_coins"] (spWalkedTo K) := by
  have GC : FnOk P w K mg base CX0 1 fC fdC ["_law_letter"] (spName K) := ok_called FC
  refine okB (body := [stm sWalkedToL 0, stm sWalkedToL 1, stm sWalkedToL 2, stm sWalkedToL 3, stm sWalkedToL 4, stm sWalkedToL 5]) F scWt (fun vs H Q E h => ?_) (by kernel_rfl) (fun cdv A0 outer s0 H vs Q E hr h => ?_)
  · obtain ⟨le, ll, b, es, xe, xl, u, n, m, c0, rfl, _⟩ := h
    rfl
  · obtain ⟨le, ll, b, es, xe, xl, u, n, m, c0, rfl, hle, hxe, hll, hxl, g, wh, hln, hun, hn, hm, hb, fin⟩ := h
    have hr1 := hr
    refine ⟨_, (pss_cons (oS oWt 5 pe_dnewT)
      (pss_cons (ps_for PassesOwn.never rfl (pi_list (oV oWt 1)) (oT oWt 6)
        (pss_one (ps_dput (hu_of hr) (oV oWt 5) (cF GC hr1 mC FC.kp bC .nil pass0 (aC (oV oWt 6) pa_nil)) (iX (ixT K) (oV oWt 6) pe_int) rfl)))
      (pss_cons (oS oWt 7 (cB (call_len_seq (X := _)) T.len PySem.boot_len (aC (iX (ixT K) (iX (ixL K) (oV oWt 1) pe_int) pe_int) pa_nil)))
      (pss_cons (oS oWt 8 (pe_op op_rep (pe_lst (aC pe_int pa_nil)) (oV oWt 7)))
      (pss_cons (ps_for PassesOwn.never rfl (pi_list (oV oWt 0)) (oT oWt 9)
        (pss_one (ps_if (pt_cmpR op_eq (iX (ixT K) (oV oWt 9) pe_int) (oV oWt 2) (nomark _))
          (pss_cons (oS oWt 10 (pe_dget (hu_of hr) (oV oWt 5) (iX (ixT K) (oV oWt 9) pe_int) (fun _ _ => rfl)))
          (pss_cons (ps_asg (pe_op op_add (iX (ixL K) (oV oWt 8) (iX (ixT K) (iX (ixT K) (oV oWt 9) pe_int) pe_int)) pe_int) (pg_sub (oV oWt 8) (iX (ixT K) (iX (ixT K) (oV oWt 9) pe_int) pe_int) set_list))
          (pss_cons (ps_if (PW.pt (pw_and (pt_cmpR op_eq (iX (ixT K) (oV oWt 10) pe_int) pe_str (nomark _)) (pw_and1 (pt_cmpR op_eq (iX (ixT K) (oV oWt 9) pe_int) pe_str (nomark _)))))
            (pss_one (oS oWt 4 (pe_op op_sub (oV oWt 4) (iX (ixT K) (oV oWt 10) pe_int))))
            pss_nil)
          (pss_cons (ps_if (PW.pt (pw_and (pt_cmpR op_eq (iX (ixT K) (oV oWt 10) pe_int) pe_str (nomark _)) (pw_and (pt_cmpR op_eq (iX (ixT K) (oV oWt 9) pe_int) pe_str (nomark _)) (pw_and1 (pt_cmpR op_eq (iX (ixT K) (oV oWt 10) pe_int) (oV oWt 2) (nomark _))))))
            (pss_one (oS oWt 4 (pe_op op_add (oV oWt 4) (iX (ixT K) (oV oWt 10) pe_int))))
            pss_nil)
          (pss_one (ps_if (pt_cmpR (op_eqD (n := 10) (room_data hr)) (iX (ixT K) (oV oWt 9) pe_int) (oV oWt 3) (nomark _))
            (pss_one (ps_ret (pe_tup (aC (oV oWt 4) (aC (cT call_tuple_of T.tuple boot_tup (aC (oV oWt 8) pa_nil)) pa_nil)))))
            pss_nil))))))
          pss_nil)))
      (pss_one (ps_ret pe_non))))))), ?_⟩
    have hlen := reps_len hxl
    rw [List.length_map] at hlen
    have elen := hxe.len
    obtain ⟨nu, mu⟩ := kn_nodup g hun
    have M := (KW.at_ g es.length).ml
    rw [List.take_length] at M
    have hnd := M.nodup
    intro ca nca
    have sc := same_new (o := .dT []) nca
    refine ⟨_, rfl, ll, rfl, ⟨_, sc.seq hll⟩, for_list (K := K) (a := ll) (xs := xl) (fun i σ Hc => ∃ (v6 : Option V) (kvs : List (List Key × V)), σ = [some (.ref le), some (.ref ll), some (.int u), some (.ref b), some (.int c0), some (.ref ca), v6, none, none, none, none] ∧ Same H Hc ∧ Hc ca = some (.dT kvs) ∧ WhK K Hc ((sentIn es).take i) kvs) ⟨none, [], rfl, sc, upd_same, rfl⟩ (fun i σ Hc _ h => by obtain ⟨_, _, _, e, _⟩ := h; exact e.seq hll) ?_ ?_⟩
    · rintro i y σ Hc hi ⟨v6, kvs, rfl, e, hca, hk⟩
      have hi' : i < (sentIn es).length := by have := (List.getElem?_eq_some_iff.mp hi).1; omega
      obtain ⟨y', gy, ry⟩ := reps_get hxl (i := i) (d := letD (sentIn es)[i]) (by rw [List.getElem?_map, List.getElem?_eq_getElem hi']; rfl)
      rw [hi] at gy
      cases gy
      obtain ⟨a, rfl, La⟩ := letAt_iff.mp ry
      obtain ⟨o1, o2, o3, o4⟩ := wh _ (List.getElem_mem hi')
      have gi := List.getElem?_eq_getElem hi'
      have hnew : ∀ x ∈ (sentIn es).take i, ¬ (x.s = (sentIn es)[i].s ∧ nameN x = nameN (sentIn es)[i]) := fun x hx ⟨z1, z2⟩ => by
        have exi : x = (sentIn es)[i] := M.inj (List.mem_of_mem_take hx) (List.getElem_mem hi') z1 z2
        obtain ⟨j, hj⟩ := List.getElem?_of_mem hx
        have lj := (List.getElem?_eq_some_iff.mp hj).1
        rw [List.length_take] at lj
        rw [List.getElem?_take, if_pos (by omega), exi] at hj
        have := nodup_ix hnd hj gi
        omega
      rw [take_snoc gi]
      have kl := hk.len
      rw [List.length_take] at kl
      generalize (sentIn es)[i] = l at La o1 o2 hnew ⊢
      have La := La.imm e.imm
      obtain ⟨b1, wc, L1, L2, L3⟩ := id La
      refine ⟨_, rfl, a, _, 2, _, rfl, rfl, L1, rfl, _, rfl, _, rfl, a, l, rfl, La, by omega, fun p np => ?_⟩
      have s1 := same_new (o := .tup [.int l.s, .int (nameN l)]) np
      have hca1 := s1 _ _ hca
      refine ⟨ca, _, rfl, DPut.t (k := kk l) hca1 (show _ = some (HO.tup [.int l.s, .int (nameN l)]) from upd_same) (Nat.lt_of_le_of_lt (show kvs.length ≤ 1000000 by omega) (by decide)), ?_⟩
      rw [putK_new _ (hk.none_ hnew)]
      have im5 := imm_dT (k' := kvs ++ [(kk l, V.ref wc)]) hca1
      exact ⟨_, kvs ++ [(kk l, V.ref wc)], rfl, same_upd (e.trans s1) nca, upd_same, WhK.imm im5 (WhK.snoc (L3.imm s1.imm) (hk.imm s1.imm))⟩
    · rintro σ Hc ⟨v6, kvs, rfl, e, hca, hk⟩
      rw [hlen, List.take_length] at hk
      have hpos : 0 < (sentIn es).length := List.length_pos_of_mem (mu _ hm)
      obtain ⟨y0, g0, ry0⟩ := reps_get hxl (i := 0) (d := letD (sentIn es)[0]) (by rw [List.getElem?_map, List.getElem?_eq_getElem hpos]; rfl)
      obtain ⟨a0, rfl, La0⟩ := letAt_iff.mp ry0
      obtain ⟨o1, o2, o3, o4⟩ := wh _ (List.getElem_mem hpos)
      generalize (sentIn es)[0] = l0 at La0 o1 o2
      obtain ⟨b0, w0, M1, M2, _⟩ := La0.imm e.imm
      refine ⟨_, rfl, ll, _, 0, .ref a0, rfl, rfl, e.seq hll, atI_nat g0, a0, _, 1, _, rfl, rfl, M1, rfl, b0, _, rfl, .inr M2, ?_⟩
      rw [show (nums l0.st).length = n by rw [List.length_map, o2]]
      refine ⟨len1, fun z nz => ⟨_, rfl, z, (n : Int), _, rfl, rfl, upd_same, by omega, by omega, Nat.le_trans (show 1 * ((n : Int)).toNat ≤ 1000000 by omega) (by decide), fun q nq => ?_⟩⟩
      rw [Int.toNat_natCast, rep0']
      have sz := same_new (o := .lst [.int 0]) nz
      have e := e.trans sz
      have hca := sz _ _ hca
      have hk := hk.imm sz.imm
      generalize upd Hc z (.lst [.int 0]) = H1 at e hca hk nq
      have sq := same_new (o := .lst (nums (clk n []))) nq
      refine ⟨_, rfl, le, rfl, ⟨_, (e.trans sq).seq hle⟩, for_list (K := K) (a := le) (xs := xe) (fun i σ H2 => ∃ (v9 v10 : Option V), σ = [some (.ref le), some (.ref ll), some (.int u), some (.ref b), some (.int (c0 + sumF (val u) (knOf u (es.take i)))), some (.ref ca), v6, some (.int n), some (.ref q), v9, v10] ∧ H2 = upd H1 q (.lst (nums (clk n (knOf u (es.take i))))) ∧ m ∉ knOf u (es.take i)) ⟨none, none, by simp [knOf, sumF], rfl, by simp [knOf]⟩ (fun i σ H2 _ h => by obtain ⟨_, _, _, e2, _⟩ := h; rw [e2]; exact (e.trans (same_new nq)).seq hle) ?_ ?_⟩
      · rintro i y σ H2 hi ⟨v9, v10, rfl, rfl, hmi⟩
        have hi' : i < es.length := by have := (List.getElem?_eq_some_iff.mp hi).1; omega
        have gi := List.getElem?_eq_getElem hi'
        obtain ⟨x', hx', be, ce, ex, L1, L2⟩ := hxe.get gi
        rw [hi] at hx'
        cases hx'
        subst ex
        have o := g.at_ gi
        rw [List.nil_append] at o
        have etk : knOf u (es.take (i + 1)) = knOf u (es.take i) ++ (if es[i].u = u then [es[i].l] else []) := by rw [take_snoc gi, knOf_append, knOf_one]
        have hup : es[i].u = u → es[i].l = m → upto m (knOf u es) = knOf u (es.take i) ++ [es[i].l] := fun z1 z2 => by
          rw [upto_take g hun gi z1 z2, etk, if_pos z1]
        have hin : es[i].l ∈ sentIn es := by
          have W2 := (KW.at_ g es.length)
          rw [List.take_length] at W2
          have := (kn_nodup g o.u).2 es[i].l (by
            unfold knOf
            exact List.mem_map.mpr ⟨es[i], List.mem_filter.mpr ⟨List.getElem_mem hi', by simp⟩, rfl⟩)
          exact this
        rw [etk]
        generalize es[i] = ev at L1 L2 o hup hin etk ⊢
        generalize knOf u (es.take i) = kn at hmi hup etk ⊢
        have sq' := same_new (o := .lst (nums (clk n kn))) nq
        have L1a := (e.trans sq') _ _ L1
        have L2a := (e.trans sq') _ _ L2
        refine ⟨_, rfl, be, _, 1, _, rfl, rfl, SqT.of L1a, rfl, _, rfl, rfl, _, rfl, ?_⟩
        by_cases hu : ev.u = u
        · rw [if_pos hu] at etk ⊢
          refine iteTe (decide_eq_true (by rw [hu])) ?_
          have hup := hup hu
          obtain ⟨wc, hget, hwa⟩ := hk.get (l := ev.l) (fun x hx z1 z2 => M.inj hx hin z1 z2) hin
          have hg : DGet (upd H1 q (.lst (nums (clk n kn)))) ca (.ref ce) (some (.ref wc)) := hget ▸ DGet.t (k := kk ev.l) (sq' _ _ hca) L2a
          have hsl : ev.l.s < n := o.fit.1
          refine ⟨_, rfl, _, rfl, be, _, 2, _, rfl, rfl, SqT.of L1a, rfl, ca, _, rfl, hg, ?_⟩
          refine ⟨_, rfl, _, rfl, be, _, 2, _, rfl, rfl, SqT.of L1a, rfl, ce, _, 0, _, rfl, rfl, SqT.of L2a, rfl, q, _, (ev.l.s : Int), .int ((clk n kn).getD ev.l.s 0), rfl, rfl, SqL.of upd_same, atI_nat (get_nums (by rw [clk_len]; exact hsl)), _, _, rfl, rfl, ?_⟩
          refine ⟨_, rfl, _, rfl, be, _, 2, _, rfl, rfl, SqT.of L1a, rfl, ce, _, 0, _, rfl, rfl, SqT.of L2a, rfl, q, _, (ev.l.s : Int), ev.l.s, rfl, rfl, upd_same, ixN_nat (by rw [List.length_map, clk_len]; exact hsl), ?_⟩
          rw [upd_upd, set_clk hsl]
          have sq'' := same_new (o := .lst (nums (clk n (kn ++ [ev.l])))) nq
          have L1' := (e.trans sq'') _ _ L1
          have L2' := (e.trans sq'') _ _ L2
          have hb' := (e.trans sq'') _ _ hb
          have hwa := hwa.imm sq''.imm
          have hne : ev.l ≠ m → PyData.eqv (nameD ev.l) (nameD m) = false := fun z => by
            unfold nameD
            rw [eqv_nm, Bool.and_eq_false_iff]
            by_cases hs : ev.l.s = m.s
            · exact .inr (decide_eq_false fun z2 => z (M.inj hin (mu _ hm) hs z2))
            · exact .inl (decide_eq_false hs)
          have hno : ev.l ≠ m → m ∉ kn ++ [ev.l] := fun z h => by
            rcases List.mem_append.mp h with y | y
            · exact hmi y
            · exact z (List.mem_singleton.mp y).symm
          have ogt := o.gt
          have ost := o.st
          cases hw : ev.l.w with
          | cut =>
            rw [hw] at hwa
            have W : SqT K _ wc [.str "cut"] := hwa
            have hval : val u ev.l = 0 := by unfold val; rw [hw]
            refine ⟨_, rfl, wc, _, 0, _, rfl, rfl, W, rfl, rfl, _, rfl, ?_⟩
            refine iteFe (by decide +kernel) ?_
            refine iteF ?_
            refine ⟨_, rfl, wc, _, 0, _, rfl, rfl, W, rfl, rfl, _, rfl, ?_⟩
            refine iteFe (by decide +kernel) ?_
            refine iteF ?_
            have hsum : c0 + sumF (val u) (kn ++ [ev.l]) = c0 + sumF (val u) kn := by
              rw [sumF_append, show sumF (val u) [ev.l] = val u ev.l by simp [sumF], hval]; omega
            refine ⟨_, rfl, be, _, 2, _, rfl, rfl, SqT.of L1', rfl, _, rfl, nameD ev.l, nameD m, NmV.rep ⟨ce, rfl, L2'⟩, NmV.rep ⟨b, rfl, hb'⟩, rfl, rfl, Nat.le_trans (Nat.min_le_right _ _) (depth_name m), _, rfl, ?_⟩
            by_cases em : ev.l = m
            · refine iteTe (by rw [em]; unfold nameD; rw [eqv_nm]; simp) ?_
              refine ⟨_, rfl, _, rfl, q, _, rfl, .inl ⟨SqL.of upd_same, fun t nt => ⟨len2, fun pr npr => ?_⟩⟩⟩
              have k1 := same_new (o := .tup (nums (clk n (kn ++ [ev.l])))) nt
              have k2 := same_new (o := .tup [.int (c0 + sumF (val u) kn), .ref t]) npr
              have e1 : upto m (knOf u es) = kn ++ [ev.l] := hup em
              refine fin _ _ ((((e.trans sq'').trans k1).trans k2)) ⟨pr, t, rfl, ?_, ?_⟩
              · rw [upd_same]
                show _ = some (HO.tup [.int (c0 + sumF (val u) (upto m (knOf u es))), .ref t])
                rw [e1, hsum]
              · show SqT K _ t (nums (clk n (upto m (knOf u es))))
                rw [e1]; exact k2.sqT (SqT.of upd_same)
            · refine iteFe (hne em) ?_
              exact ⟨some (.ref be), some (.ref wc), by rw [hsum]; rfl, rfl, hno em⟩
          | pay t q2 =>
            rw [hw] at hwa
            have W : SqT K _ wc [.str "pay", .int t, .int q2] := hwa
            refine ⟨_, rfl, wc, _, 0, _, rfl, rfl, W, rfl, rfl, _, rfl, ?_⟩
            refine iteTe (by decide +kernel) ?_
            cases hs : ev.sent with
            | true =>
              rw [hs] at L1' ost
              have hsu : ev.l.s = u := by have := (ost rfl).1; rw [this, hu]
              have hval : val u ev.l = - q2 := by unfold val; rw [hw]; dsimp only; rw [if_pos hsu]
              refine ⟨_, rfl, be, _, 0, _, rfl, rfl, SqT.of L1', rfl, rfl, _, rfl, ?_⟩
              refine iteTe (by decide +kernel) ?_
              refine ⟨_, rfl, _, rfl, wc, _, 2, _, rfl, rfl, W, rfl, _, _, rfl, rfl, ?_⟩
              refine ⟨_, rfl, wc, _, 0, _, rfl, rfl, W, rfl, rfl, _, rfl, ?_⟩
              refine iteTe (by decide +kernel) ?_
              refine ⟨_, rfl, be, _, 0, _, rfl, rfl, SqT.of L1', rfl, rfl, _, rfl, ?_⟩
              refine iteFe (by decide +kernel) ?_
              refine iteF ?_
              have hsum : c0 + sumF (val u) (kn ++ [ev.l]) = c0 + sumF (val u) kn - q2 := by
                rw [sumF_append, show sumF (val u) [ev.l] = val u ev.l by simp [sumF], hval]; omega
              refine ⟨_, rfl, be, _, 2, _, rfl, rfl, SqT.of L1', rfl, _, rfl, nameD ev.l, nameD m, NmV.rep ⟨ce, rfl, L2'⟩, NmV.rep ⟨b, rfl, hb'⟩, rfl, rfl, Nat.le_trans (Nat.min_le_right _ _) (depth_name m), _, rfl, ?_⟩
              by_cases em : ev.l = m
              · refine iteTe (by rw [em]; unfold nameD; rw [eqv_nm]; simp) ?_
                refine ⟨_, rfl, _, rfl, q, _, rfl, .inl ⟨SqL.of upd_same, fun t nt => ⟨len2, fun pr npr => ?_⟩⟩⟩
                have k1 := same_new (o := .tup (nums (clk n (kn ++ [ev.l])))) nt
                have k2 := same_new (o := .tup [.int (c0 + sumF (val u) kn - q2), .ref t]) npr
                have e1 : upto m (knOf u es) = kn ++ [ev.l] := hup em
                refine fin _ _ ((((e.trans sq'').trans k1).trans k2)) ⟨pr, t, rfl, ?_, ?_⟩
                · rw [upd_same]
                  show _ = some (HO.tup [.int (c0 + sumF (val u) (upto m (knOf u es))), .ref t])
                  rw [e1, hsum]
                · show SqT K _ t (nums (clk n (upto m (knOf u es))))
                  rw [e1]; exact k2.sqT (SqT.of upd_same)
              · refine iteFe (hne em) ?_
                exact ⟨some (.ref be), some (.ref wc), by rw [hsum]; rfl, rfl, hno em⟩
            | false =>
              rw [hs] at L1' ogt
              have hsu : ev.l.s ≠ u := by have := (ogt rfl).1; rw [hu] at this; exact this
              refine ⟨_, rfl, be, _, 0, _, rfl, rfl, SqT.of L1', rfl, rfl, _, rfl, ?_⟩
              refine iteFe (by decide +kernel) ?_
              refine ⟨_, rfl, wc, _, 0, _, rfl, rfl, W, rfl, rfl, _, rfl, ?_⟩
              refine iteTe (by decide +kernel) ?_
              refine ⟨_, rfl, be, _, 0, _, rfl, rfl, SqT.of L1', rfl, rfl, _, rfl, ?_⟩
              refine iteTe (by decide +kernel) ?_
              refine ⟨_, rfl, wc, _, 1, _, rfl, rfl, W, rfl, _, rfl, rfl, _, rfl, ?_⟩
              by_cases htu : t = (u : Int)
              · have hval : val u ev.l = q2 := by unfold val; rw [hw]; dsimp only; rw [if_neg hsu, if_pos htu]
                refine iteTe (decide_eq_true (by rw [htu])) ?_
                refine ⟨_, rfl, _, rfl, wc, _, 2, _, rfl, rfl, W, rfl, _, _, rfl, rfl, ?_⟩
                have hsum : c0 + sumF (val u) (kn ++ [ev.l]) = c0 + sumF (val u) kn + q2 := by
                  rw [sumF_append, show sumF (val u) [ev.l] = val u ev.l by simp [sumF], hval]; omega
                refine ⟨_, rfl, be, _, 2, _, rfl, rfl, SqT.of L1', rfl, _, rfl, nameD ev.l, nameD m, NmV.rep ⟨ce, rfl, L2'⟩, NmV.rep ⟨b, rfl, hb'⟩, rfl, rfl, Nat.le_trans (Nat.min_le_right _ _) (depth_name m), _, rfl, ?_⟩
                by_cases em : ev.l = m
                · refine iteTe (by rw [em]; unfold nameD; rw [eqv_nm]; simp) ?_
                  refine ⟨_, rfl, _, rfl, q, _, rfl, .inl ⟨SqL.of upd_same, fun t nt => ⟨len2, fun pr npr => ?_⟩⟩⟩
                  have k1 := same_new (o := .tup (nums (clk n (kn ++ [ev.l])))) nt
                  have k2 := same_new (o := .tup [.int (c0 + sumF (val u) kn + q2), .ref t]) npr
                  have e1 : upto m (knOf u es) = kn ++ [ev.l] := hup em
                  refine fin _ _ ((((e.trans sq'').trans k1).trans k2)) ⟨pr, t, rfl, ?_, ?_⟩
                  · rw [upd_same]
                    show _ = some (HO.tup [.int (c0 + sumF (val u) (upto m (knOf u es))), .ref t])
                    rw [e1, hsum]
                  · show SqT K _ t (nums (clk n (upto m (knOf u es))))
                    rw [e1]; exact k2.sqT (SqT.of upd_same)
                · refine iteFe (hne em) ?_
                  exact ⟨some (.ref be), some (.ref wc), by rw [hsum]; rfl, rfl, hno em⟩
              · have hval : val u ev.l = 0 := by unfold val; rw [hw]; dsimp only; rw [if_neg hsu, if_neg htu]
                refine iteFe (decide_eq_false fun z => htu (V.int.inj z)) ?_
                have hsum : c0 + sumF (val u) (kn ++ [ev.l]) = c0 + sumF (val u) kn := by
                  rw [sumF_append, show sumF (val u) [ev.l] = val u ev.l by simp [sumF], hval]; omega
                refine ⟨_, rfl, be, _, 2, _, rfl, rfl, SqT.of L1', rfl, _, rfl, nameD ev.l, nameD m, NmV.rep ⟨ce, rfl, L2'⟩, NmV.rep ⟨b, rfl, hb'⟩, rfl, rfl, Nat.le_trans (Nat.min_le_right _ _) (depth_name m), _, rfl, ?_⟩
                by_cases em : ev.l = m
                · refine iteTe (by rw [em]; unfold nameD; rw [eqv_nm]; simp) ?_
                  refine ⟨_, rfl, _, rfl, q, _, rfl, .inl ⟨SqL.of upd_same, fun t nt => ⟨len2, fun pr npr => ?_⟩⟩⟩
                  have k1 := same_new (o := .tup (nums (clk n (kn ++ [ev.l])))) nt
                  have k2 := same_new (o := .tup [.int (c0 + sumF (val u) kn), .ref t]) npr
                  have e1 : upto m (knOf u es) = kn ++ [ev.l] := hup em
                  refine fin _ _ ((((e.trans sq'').trans k1).trans k2)) ⟨pr, t, rfl, ?_, ?_⟩
                  · rw [upd_same]
                    show _ = some (HO.tup [.int (c0 + sumF (val u) (upto m (knOf u es))), .ref t])
                    rw [e1, hsum]
                  · show SqT K _ t (nums (clk n (upto m (knOf u es))))
                    rw [e1]; exact k2.sqT (SqT.of upd_same)
                · refine iteFe (hne em) ?_
                  exact ⟨some (.ref be), some (.ref wc), by rw [hsum]; rfl, rfl, hno em⟩
        · rw [if_neg hu, List.append_nil] at etk ⊢
          refine iteFe (decide_eq_false fun z => hu (by have := V.int.inj z; omega)) ?_
          exact ⟨_, v10, rfl, rfl, hmi⟩
      · rintro σ H2 ⟨v9, v10, rfl, rfl, hmi⟩
        rw [elen, List.take_length] at hmi
        exact absurd hm hmi
end
end Of

end

section
set_option Elab.async false
set_option linter.all false
set_option maxRecDepth 100000
set_option maxHeartbeats 4000000
seal L2.PE L2.PT L2.PW L2.PA L2.PS L2.PSs L2.PG L2.PGs L2.PI L3.PTs L2.PO L2.CallR L2.OpR L2.IxR L2.MtR L2.PSet L2.SlR
namespace Of
open PySem L2 L3 L4 L5 L6 L7
theorem wide_ints : ∀ ns : List Int, wideDs 1000 (intD ns)
  | [] => trivial
  | n :: ns => by simp only [intD, List.map_cons, wideDs, wideD]; exact ⟨trivial, wide_ints ns⟩
theorem wide_clock {ns : List Int} (h : ns.length ≤ 1000) : wideD 1000 (PyData.tuple (intD ns)) := by simp only [wideD]; exact ⟨by unfold intD; rw [List.length_map]; exact h, wide_ints ns⟩
def stD (x : Int × List Int) : PyData := .tuple [.int x.1, .tuple (intD x.2)]
theorem StsV.rep {K : PySem.W.Frag} {H : Hp} {x : Int × List Int} {v : V} : StsV K H x v → RepD K H (stD x) v
  | ⟨p, cl, e, h1, h2⟩ => by
    subst e
    unfold stD
    simp only [RepD, RepDs]
    exact ⟨p, _, rfl, SqT.of h1, _, _, rfl, rfl, _, _, rfl, ⟨cl, _, rfl, h2, reps_ints.mpr rfl⟩, rfl⟩
theorem depth_st (x : Int × List Int) : (stD x).depth < 5 := by
  have := depth_ints x.2
  simp only [stD, PyData.depth, PyData.depthAll]
  omega
theorem wide_st {x : Int × List Int} (h : x.2.length ≤ 1000) : wideD 1000 (stD x) := by
  have := wide_clock h
  unfold stD
  simp only [wideD, wideDs] at this ⊢
  exact ⟨by show 2 ≤ 1000; decide, trivial, this, trivial⟩
theorem all2_of {α : Type} {R : α → V → Prop} : ∀ {as : List α} {xs : List V}, xs.length = as.length → (∀ (i : Nat) a x, as[i]? = some a → xs[i]? = some x → R a x) → All2 R as xs
  | [], xs, h, _ => by
    have : xs = [] := List.eq_nil_of_length_eq_zero h
    exact this
  | a :: as, [], h, _ => by simp at h
  | a :: as, x :: xs, h, k => ⟨x, xs, rfl, k 0 a x rfl rfl, all2_of (by simpa using h) fun i a' x' h1 h2 => k (i + 1) a' x' (by simpa using h1) (by simpa using h2)⟩
theorem kept_all {K : PySem.W.Frag} {H : Hp} {n : Nat} {c0 : Int} {c : Crs} {m : Let} {ys : List V} (g : Good n (rows0 n) [] c.evs) (hn : c.offs.length = n) (hk : KpI n c0 c) (hm : ∀ u, u < n → m ∈ knOf u c.evs) (hw : m.w = .cut) (h : All2 (KpV K H) c.offs ys) : All2 (KpAt K H m) (sts n c0 m c.evs) ys := by
  have yl := h.len
  refine all2_of (by rw [sts_len, yl, hn]) fun i x v hx hv => ?_
  have hi : i < n := by have := (List.getElem?_eq_some_iff.mp hv).1; omega
  rw [sts_get hi] at hx
  cases hx
  have hio : i < c.offs.length := by omega
  obtain ⟨v', gv, lk, ks, e, h1, h2⟩ := h.get (List.getElem?_eq_getElem hio)
  rw [hv] at gv
  cases gv
  have eo : c.off i = c.offs[i] := by
    unfold Crs.off
    rw [List.getD_eq_getElem?_getD, List.getElem?_eq_getElem hio]; rfl
  rw [← eo, hk i hi, kps_E] at h2
  exact ⟨lk, ks, _, e, h1, h2, kp_at g hi (hm i hi) hw⟩
def spOneCut (K : PySem.W.Frag) : Sp := fun vs H Q _ => ∃ (le ll c b : Addr) (es : List Ev) (xe xl us : List V) (n : Nat) (m : Let) (c0 : Int), vs = [.ref le, .ref ll, .ref c, .ref b, .int c0] ∧ SqL K H le xe ∧ All2 (EvV H) es xe ∧ SqL K H ll xl ∧ RepDs K H ((sentIn es).map letD) xl ∧ SqL K H c us ∧ All2 (StsV K H) (sts n c0 m es) us ∧ Good n (rows0 n) [] es ∧ (∀ l ∈ sentIn es, okLet n l) ∧ (sentIn es).length ≤ 100000 ∧ n ≤ 1000 ∧ (∀ u, u < n → m ∈ knOf u es) ∧ H b = some (.tup [.int m.s, .int (nameN m)]) ∧ ∀ H', Same H H' → Q (.bl true) H'
section
variable {P : Program} {w : World} {K : PySem.W.Frag} {mg : Str → Option Value} {base : Heap} {fA fD fE fX fN fWk fW fS fEo fEn fC fL fLo fKo fSt fAs fOc fSo fWt fU : Addr}
theorem oOc : ownB ["_law_events", "_law_letters", "_law_found", "_law_name", "_law_coins", "_law_count", "_law_total", "_law_k", "_law_j", "_law_way"] (defScope sOneCutL) = true := by decide +kernel
theorem scOc : FnScope ["_law_events", "_law_letters", "_law_found", "_law_name", "_law_coins", "_law_count", "_law_total", "_law_k", "_law_j", "_law_way"] ["_law_events", "_law_letters", "_law_found", "_law_name", "_law_coins"] (defScope sOneCutL) := ⟨rfl, rfl, rfl, by decide +kernel, rfl, by decide +kernel, by decide +kernel⟩
theorem ok_one_cut {f : Addr} {fd fdSo fdWt fdU fdW : FuncData} (F : Fun K "_law_one_cut" "_law_one_cut" sOneCutL f fd) (T : Bts mg) (mSo : mg "_law_so" = some (.ref fSo)) (FSo : Fun K "_law_so" "_law_so" sSo fSo fdSo) (bSo : Binds K fdSo ["_law_found", "_law_meant"] []) (GSo : FnOk P w K mg base CX0 5 fSo fdSo ["_law_found", "_law_meant"] (spSo K 5))
    (mWt : mg "_law_walked_to" = some (.ref fWt)) (FWt : Fun K "_law_walked_to" "_law_walked_to" sWalkedToL fWt fdWt) (bWt : Binds K fdWt ["_law_events", "_law_letters", "_law_own", "_law_name", "_law_coins"] []) (GWt : FnOk P w K mg base CX0 2 fWt fdWt ["_law_events", "_law_letters", "_law_own", "_law_name", "_law_coins"] (spWalkedTo K))
    (mU : mg "coins_under_way" = some (.ref fU)) (FU : Fun K "coins_under_way" "coins_under_way" sCoinsUnderWay fU fdU) (bU : Binds K fdU ["letters", "cut"] []) (GU : FnOk P w K mg base CX0 5 fU fdU ["letters", "cut"] (spUnder K))
    (mW : mg "_law_whole" = some (.ref fW)) (FW : Fun K "_law_whole" "_law_whole" sWhole fW fdW) (bW : Binds K fdW ["_law_found"] []) : FnOk P w K mg base CX0 6 f fd ["_law_events", "_law_letters", "_law_found", "_law_name", "_law_coins"] (spOneCut K) := by
  have GW : FnOk P w K mg base CX0 1 fW fdW ["_law_found"] (spWhole K) := ok_whole FW T
  refine okB (body := [stm sOneCutL 0, stm sOneCutL 1, stm sOneCutL 2, stm sOneCutL 3, stm sOneCutL 4]) F scOc (fun vs H Q E h => ?_) (by kernel_rfl) (fun cdv A0 outer s0 H vs Q E hr h => ?_)
  · obtain ⟨le, ll, c, b, es, xe, xl, us, n, m, c0, rfl, _⟩ := h
    rfl
  · obtain ⟨le, ll, c, b, es, xe, xl, us, n, m, c0, rfl, hle, hxe, hll, hxl, hc, hu, g, wh, hln, hn, hm, hb, fin⟩ := h
    have hr1 := hr.mono (by decide : 1 ≤ 5)
    have hr2 := hr.mono (by decide : 2 ≤ 5)
    refine ⟨_, (pss_cons (oS oOc 5 (cB (call_len_seq (X := _)) T.len PySem.boot_len (aC (oV oOc 2) pa_nil)))
      (pss_cons (oS oOc 6 pe_int)
      (pss_cons (ps_for PassesOwn.never rfl (rng1 T.range (aC (oV oOc 5) pa_nil)) (oT oOc 7)
        (pss_cons (ps_if (pt_not (pt_val (cF GSo hr mSo FSo.kp bSo .nil pass0 (aC (iX (ixL K) (oV oOc 2) (oV oOc 7)) (aC (cF GWt hr2 mWt FWt.kp bWt .nil pass0 (aC (oV oOc 0) (aC (oV oOc 1) (aC (oV oOc 7) (aC (oV oOc 3) (aC (oV oOc 4) pa_nil)))))) pa_nil)))))
          (pss_one (ps_ret pe_bl))
          pss_nil)
        (pss_cons (oS oOc 6 (pe_op op_add (oV oOc 6) (iX (ixT K) (iX (ixL K) (oV oOc 2) (oV oOc 7)) pe_int)))
        (pss_one (ps_for PassesOwn.never rfl (rng1 T.range (aC (oV oOc 5) pa_nil)) (oT oOc 8)
          (pss_one (ps_if (pt_cmpR op_gt (iX (ixT K) (iX (ixT K) (iX (ixL K) (oV oOc 2) (oV oOc 7)) pe_int) (oV oOc 8)) (iX (ixT K) (iX (ixT K) (iX (ixL K) (oV oOc 2) (oV oOc 8)) pe_int) (oV oOc 8)) (nomark _))
            (pss_one (ps_ret pe_bl))
            pss_nil)))))))
      (pss_cons (oS oOc 9 (cF GU hr mU FU.kp bU .nil pass0 (aC (cT call_list_of T.list boot_lst (aC (oV oOc 1) pa_nil)) (aC (cT call_list_of T.list boot_lst (aC (oV oOc 2) pa_nil)) pa_nil))))
      (pss_one (ps_ret (pe_and (cF GW hr1 mW FW.kp bW .nil pass0 (aC (oV oOc 9) pa_nil)) (pe_and (pe_cmpR op_ge (oV oOc 9) pe_int (nomark _)) (pe_one (pe_cmpR op_eq (pe_op op_add (oV oOc 6) (oV oOc 9)) (pe_op op_mul (oV oOc 5) (oV oOc 4)) (nomark _))))))))))), ?_⟩
    have ul : us.length = n := by rw [hu.len, sts_len]
    refine ⟨_, rfl, c, _, rfl, .inl hc, ?_⟩
    rw [ul]
    have hst : ∀ {Hc : Hp}, Same H Hc → ∀ i, i < n → ∃ p cl, us[i]? = some (.ref p) ∧ SqT K Hc p [.int (stO n c0 m es i).1, .ref cl] ∧ SqT K Hc cl (nums (stO n c0 m es i).2) ∧ StsV K Hc (stO n c0 m es i) (.ref p) := fun e i hi => by
      obtain ⟨v, gv, p, cl, ev, q1, q2⟩ := hu.get (sts_get hi)
      subst ev
      exact ⟨p, cl, gv, SqT.of (e _ _ q1), e.sqT q2, p, cl, rfl, e _ _ q1, e.sqT q2⟩
    have hcl : ∀ i, (stO n c0 m es i).2.length = n := fun i => clk_len
    refine ⟨_, rfl, (n : Int), rfl, by omega, by omega, for_range (n := ((n : Nat) : Int).toNat) (lo := 0) (fun i σ Hc => ∃ (v7 v8 : Option V), σ = [some (.ref le), some (.ref ll), some (.ref c), some (.ref b), some (.int c0), some (.int n), some (.int (tot (fun u => (stO n c0 m es u).1) i)), v7, v8, none] ∧ Same H Hc)
      ⟨none, none, rfl, Same.refl H⟩ ?_ ?_⟩
    · rintro i σ Hc hi ⟨v7, v8, rfl, e⟩
      have hi' : i < n := by simpa using hi
      rw [show ((0 : Int) + (i : Int)) = (i : Int) from Int.zero_add _]
      obtain ⟨p, cl, gp, q1, q2, sv⟩ := hst e i hi'
      refine ⟨_, rfl, _, rfl, c, _, _, .ref p, rfl, rfl, e.seq hc, atI_nat gp, _, rfl, _, rfl, _, rfl, _, rfl, _, rfl, le, ll, b, es, xe, xl, i, n, m, c0, rfl, e.seq hle, EvVs.imm e.imm hxe, e.seq hll, RepDs.same e _ _ hxl, g, wh, hln, hi', hn, hm i hi', e _ _ hb, fun y H1 e1 hy => ?_⟩
      have e1' := e.trans e1
      refine ⟨.ref p, y, stD (stO n c0 m es i), rfl, StsV.rep (sv.imm e1.imm), StsV.rep hy, depth_st _, wide_st (by rw [hcl]; exact hn), fun H2 e2 => ⟨_, rfl, iteF ?_⟩⟩
      have e' := e1'.trans e2
      obtain ⟨p, cl, gp, q1, q2, sv⟩ := hst e' i hi'
      have hc' := e'.seq hc
      refine ⟨_, rfl, _, rfl, _, rfl, c, _, _, .ref p, rfl, rfl, hc', atI_nat gp, p, _, 0, _, rfl, rfl, q1, rfl, _, _, rfl, rfl, ?_⟩
      refine ⟨_, rfl, (n : Int), rfl, by omega, by omega, for_range (n := ((n : Nat) : Int).toNat) (lo := 0) (fun j σ Hc => ∃ (v8 : Option V), σ = [some (.ref le), some (.ref ll), some (.ref c), some (.ref b), some (.int c0), some (.int n), some (.int (tot (fun u => (stO n c0 m es u).1) (i + 1))), some (.int (i : Int)), v8, none] ∧ Hc = H2)
        ⟨v8, rfl, rfl⟩ ?_ ?_⟩
      · rintro j σ Hc hj ⟨v8, rfl, rfl⟩
        have hj' : j < n := by simpa using hj
        rw [show ((0 : Int) + (j : Int)) = (j : Int) from Int.zero_add _]
        obtain ⟨p', cl', gp', q1', q2', _⟩ := hst e' j hj'
        have hcmp : (stO n c0 m es i).2.getD j 0 ≤ (stO n c0 m es j).2.getD j 0 := by
          show (clk n (upto m (knOf i es))).getD j 0 ≤ (clk n (upto m (knOf j es))).getD j 0
          rw [clk_get hj', clk_get hj']
          have := cut_counts g hj' hi' (hm j hj') (hm i hi')
          omega
        refine ⟨_, rfl, _, rfl, c, _, _, .ref p, rfl, rfl, hc', atI_nat gp, p, _, 1, _, rfl, rfl, q1, rfl, _, rfl, cl, _, _, .int ((stO n c0 m es i).2.getD j 0), rfl, rfl, q2, atI_nat (get_nums (by rw [hcl]; exact hj')), _, rfl, _, rfl, c, _, _, .ref p', rfl, rfl, hc', atI_nat gp', p', _, 1, _, rfl, rfl, q1', rfl, _, rfl, cl', _, _, .int ((stO n c0 m es j).2.getD j 0), rfl, rfl, q2', atI_nat (get_nums (by rw [hcl]; exact hj')), _, _, rfl, rfl, _, rfl, ?_⟩
        refine iteFe (decide_eq_false (Int.not_lt.mpr hcmp)) ?_
        exact ⟨_, rfl, rfl⟩
      · rintro σ Hc ⟨v8, rfl, rfl⟩
        exact ⟨_, _, rfl, e'⟩
    · rintro σ Hc ⟨v7, v8, rfl, e⟩
      rw [Int.toNat_natCast]
      refine ⟨_, rfl, ll, _, rfl, .inl (e.seq hll), fun l1 n1 => ?_⟩
      have s1 := same_new (o := .lst xl) n1
      refine ⟨_, rfl, c, _, rfl, .inl ((e.trans s1).seq hc), fun l2 n2 => ?_⟩
      have s2 := same_new (o := .lst us) n2
      have e2 := (e.trans s1).trans s2
      have hl1 := s2 _ _ (upd_same (H := Hc) (a := l1) (o := .lst xl))
      obtain ⟨w1, w2⟩ := all_way (c0 := c0) g wh hm
      refine ⟨l1, l2, sentIn es, xl, sts n c0 m es, us, rfl, SqL.of hl1, RepDs.same e2 _ _ hxl, by rw [sts_len]; exact wh, hln, SqL.of upd_same, StsVs.imm e2.imm hu, by rw [sts_len]; exact sts_mem, fun H3 e3 => ?_⟩
      generalize ((sentIn es).map (wayV (sts n c0 m es))).sum = wy at w1 w2 ⊢
      refine ⟨_, rfl, _, rfl, _, rfl, iteT ?_⟩
      refine ⟨_, rfl, _, _, rfl, rfl, _, rfl, iteTe (decide_eq_true w2) ?_⟩
      refine ⟨_, rfl, _, rfl, _, _, rfl, rfl, _, rfl, _, rfl, _, _, rfl, rfl, cmulL (by omega) (by omega), rfl, ?_⟩
      dsimp only
      rw [decide_eq_true (show V.int (tot (fun u => (stO n c0 m es u).1) n + wy) = V.int ((n : Int) * c0) by rw [w1])]
      exact fin _ (e2.trans e3)
end
end Of

end

section
set_option Elab.async false
set_option linter.all false
set_option maxRecDepth 100000
set_option maxHeartbeats 4000000
seal L2.PE L2.PT L2.PW L2.PA L2.PS L2.PSs L2.PG L2.PGs L2.PI L3.PTs L2.PO L2.CallR L2.OpR L2.IxR L2.MtR L2.PSet L2.SlR
namespace Of
open PySem L2 L3 L4 L5 L6 L7
section
variable {P : Program} {w : World} {K : PySem.W.Frag} {mg : Str → Option Value} {base : Heap} {fA fD fE fX fN fWk fW fS fEo fEn fC fL fLo fKo fSt fAs fOc fSo fWt fU : Addr}
theorem oLL : ownB ["_law_script", "_law_count", "_law_coins", "_law_deeds", "_law_letters", "_law_events", "_law_kept", "_law_many", "_law_letter", "_law_name", "_law_found"] (defScope sLaw) = true := by decide +kernel
theorem scLL : FnScope ["_law_script", "_law_count", "_law_coins", "_law_deeds", "_law_letters", "_law_events", "_law_kept", "_law_many", "_law_letter", "_law_name", "_law_found"] ["_law_script"] (defScope sLaw) := ⟨rfl, rfl, rfl, by decide +kernel, rfl, by decide +kernel, by decide +kernel⟩
theorem ok_law {f : Addr} {fd fdA fdX fdE fdL fdEo fdLo fdKo fdC fdSt fdAs fdOc : FuncData} (F : Fun K "law" "law" sLaw f fd) (T : Bts mg)
    (mA : mg "_law_at" = some (.ref fA)) (FA : Fun K "_law_at" "_law_at" sAt fA fdA) (bA : Binds K fdA ["_law_script", "_law_k"] [])
    (mX : mg "_law_ended" = some (.ref fX)) (FX : Fun K "_law_ended" "_law_ended" sEndedL fX fdX) (bX : Binds K fdX ["_law_script", "_law_count"] []) (GX : FnOk P w K mg base CX0 3 fX fdX ["_law_script", "_law_count"] (spEnded K))
    (mL : mg "_law_are_letters" = some (.ref fL)) (FL : Fun K "_law_are_letters" "_law_are_letters" sAreLetters fL fdL) (bL : Binds K fdL ["_law_found", "_law_count"] []) (GL : FnOk P w K mg base CX0 3 fL fdL ["_law_found", "_law_count"] (spAreLetters K))
    (mE : mg "_law_are_events" = some (.ref fE)) (FE : Fun K "_law_are_events" "_law_are_events" sAreEvents fE fdE) (bE : Binds K fdE ["_law_found", "_law_count"] []) (GE : FnOk P w K mg base CX0 3 fE fdE ["_law_found", "_law_count"] (spAreEvents K))
    (mC : mg "_law_called" = some (.ref fC)) (FC : Fun K "_law_called" "_law_called" sCalled fC fdC) (bC : Binds K fdC ["_law_letter"] [])
    (mLo : mg "letters_of" = some (.ref fLo)) (FLo : Fun K "letters_of" "letters_of" sLettersOf fLo fdLo) (bLo : Binds K fdLo ["count", "coins", "deeds"] []) (GLo : FnOk P w K mg base CX0 11 fLo fdLo ["count", "coins", "deeds"] (spLettersOf K))
    (mEo : mg "events_of" = some (.ref fEo)) (FEo : Fun K "events_of" "events_of" sEventsOf fEo fdEo) (bEo : Binds K fdEo ["count", "coins", "deeds"] []) (GEo : FnOk P w K mg base CX0 11 fEo fdEo ["count", "coins", "deeds"] (spEventsOf K))
    (mKo : mg "kept_of" = some (.ref fKo)) (FKo : Fun K "kept_of" "kept_of" sKeptOf fKo fdKo) (bKo : Binds K fdKo ["count", "coins", "deeds"] []) (GKo : FnOk P w K mg base CX0 11 fKo fdKo ["count", "coins", "deeds"] (spKeptOf K))
    (mSt : mg "states" = some (.ref fSt)) (FSt : Fun K "states" "states" sStates fSt fdSt) (bSt : Binds K fdSt ["all_kept", "name"] []) (GSt : FnOk P w K mg base CX0 2 fSt fdSt ["all_kept", "name"] (spStates K))
    (mAs : mg "_law_are_states" = some (.ref fAs)) (FAs : Fun K "_law_are_states" "_law_are_states" sAreStatesL fAs fdAs) (bAs : Binds K fdAs ["_law_found", "_law_count"] []) (GAs : FnOk P w K mg base CX0 2 fAs fdAs ["_law_found", "_law_count"] (spAreStates K))
    (mOc : mg "_law_one_cut" = some (.ref fOc)) (FOc : Fun K "_law_one_cut" "_law_one_cut" sOneCutL fOc fdOc) (bOc : Binds K fdOc ["_law_events", "_law_letters", "_law_found", "_law_name", "_law_coins"] []) (GOc : FnOk P w K mg base CX0 6 fOc fdOc ["_law_events", "_law_letters", "_law_found", "_law_name", "_law_coins"] (spOneCut K)) :
    FnOk P w K mg base CX0 12 f fd ["_law_script"] (spLaw K) := by
  have GA : FnOk P w K mg base CX0 1 fA fdA ["_law_script", "_law_k"] (spAt K) := ok_at FA T
  have GC : FnOk P w K mg base CX0 1 fC fdC ["_law_letter"] (spName K) := ok_called FC
  refine okB (N := ["_law_script", "_law_count", "_law_coins", "_law_deeds", "_law_letters", "_law_events", "_law_kept", "_law_many", "_law_letter", "_law_name", "_law_found"]) (body := [stm sLaw 0, stm sLaw 1, stm sLaw 2, stm sLaw 3, stm sLaw 4, stm sLaw 5, stm sLaw 6, stm sLaw 7, stm sLaw 8, stm sLaw 9, stm sLaw 10]) F scLL (fun vs H Q E h => ?_) (by kernel_rfl) (fun cdv A0 outer s H vs Q E hr h => ?_)
  · obtain ⟨a, ns, rfl, _⟩ := h
    rfl
  · obtain ⟨a, ns, rfl, ha, hns, k⟩ := h
    have hr1 := hr.mono (by decide : 1 ≤ 11)
    have hr2 := hr.mono (by decide : 2 ≤ 11)
    have hr3 := hr.mono (by decide : 3 ≤ 11)
    have hr6 := hr.mono (by decide : 6 ≤ 11)
    refine ⟨_, (pss_cons (oS oLL 1 (iX (ixL K) (pe_lst (aC pe_int (aC pe_int (aC pe_int (aC pe_int (aC pe_int (aC pe_int (aC pe_int (aC pe_int pa_nil))))))))) (pe_op op_mod (pe_op op_mod (pe_op op_mul (cF GA hr1 mA FA.kp bA .nil pass0 (aC (oV oLL 0) (aC pe_int pa_nil))) pe_int) pe_int) pe_int)))
      (pss_cons (oS oLL 2 (pe_op op_mod (pe_op op_mod (pe_op op_mul (cF GA hr1 mA FA.kp bA .nil pass0 (aC (oV oLL 0) (aC pe_int pa_nil))) pe_int) pe_int) pe_int))
      (pss_cons (ps_if (pt_cmpR op_eq (pe_op op_mod (pe_op op_mod (pe_op op_mul (cF GA hr1 mA FA.kp bA .nil pass0 (aC (oV oLL 0) (aC pe_int pa_nil))) pe_int) pe_int) pe_int) pe_int (nomark _))
        (pss_one (oS oLL 2 (pe_op op_add (oV oLL 2) pe_int)))
        pss_nil)
      (pss_cons (oS oLL 3 (cF GX hr3 mX FX.kp bX .nil pass0 (aC (oV oLL 0) (aC (oV oLL 1) pa_nil))))
      (pss_cons (oS oLL 4 (cF GLo hr mLo FLo.kp bLo .nil pass0 (aC (oV oLL 1) (aC (oV oLL 2) (aC (cT call_list_of T.list boot_lst (aC (oV oLL 3) pa_nil)) pa_nil)))))
      (pss_cons (oS oLL 5 (cF GEo hr mEo FEo.kp bEo .nil pass0 (aC (oV oLL 1) (aC (oV oLL 2) (aC (cT call_list_of T.list boot_lst (aC (oV oLL 3) pa_nil)) pa_nil)))))
      (pss_cons (oS oLL 6 (cF GKo hr mKo FKo.kp bKo .nil pass0 (aC (oV oLL 1) (aC (oV oLL 2) (aC (cT call_list_of T.list boot_lst (aC (oV oLL 3) pa_nil)) pa_nil)))))
      (pss_cons (ps_if (PW.pt (pw_or (pt_not (pt_val (cF GL hr3 mL FL.kp bL .nil pass0 (aC (oV oLL 4) (aC (oV oLL 1) pa_nil))))) (pw_or1 (pt_not (pt_val (cF GE hr3 mE FE.kp bE .nil pass0 (aC (oV oLL 5) (aC (oV oLL 1) pa_nil))))))))
        (pss_one (ps_ret pe_bl))
        pss_nil)
      (pss_cons (oS oLL 7 pe_int)
      (pss_cons (ps_for PassesOwn.never rfl (pi_list (oV oLL 4)) (oT oLL 8)
        (pss_one (ps_if (pt_cmpR op_eq (iX (ixT K) (iX (ixT K) (oV oLL 8) pe_int) pe_int) pe_str (nomark _))
          (pss_cons (oS oLL 9 (cF GC hr1 mC FC.kp bC .nil pass0 (aC (oV oLL 8) pa_nil)))
          (pss_cons (oS oLL 10 (cF GSt hr2 mSt FSt.kp bSt .nil pass0 (aC (oV oLL 6) (aC (oV oLL 9) pa_nil))))
          (pss_cons (oS oLL 7 (pe_op op_add (oV oLL 7) pe_int))
          (pss_cons (ps_if (pt_not (pt_val (cF GAs hr2 mAs FAs.kp bAs .nil pass0 (aC (oV oLL 10) (aC (oV oLL 1) pa_nil)))))
            (pss_one (ps_ret pe_bl))
            pss_nil)
          (pss_one (ps_if (pt_not (pt_val (cF GOc hr6 mOc FOc.kp bOc .nil pass0 (aC (oV oLL 5) (aC (oV oLL 4) (aC (oV oLL 10) (aC (oV oLL 9) (aC (oV oLL 2) pa_nil))))))))
            (pss_one (ps_ret pe_bl))
            pss_nil))))))
          pss_nil)))
      (pss_one (ps_ret (pe_cmpR op_eq (oV oLL 7) (cB (call_len_seq (X := _)) T.len PySem.boot_len (aC (eC [] [] rfl (pi_list (oV oLL 3)) (fun _ _ _ _ _ => (pts_one (pt_cmpR op_eq (iX (ixT K) (sV 0) pe_int) pe_str (nomark _)))) (fun _ _ _ _ _ => (sV 0))) pa_nil)) (nomark _)))))))))))))), ?_⟩
    refine ⟨by show 8 ≤ sizeLine; decide, fun l8 n8 => ?_⟩
    have s1 := same_new (o := .lst [.int 2, .int 3, .int 4, .int 2, .int 3, .int 4, .int 2, .int 12]) n8
    have hr8 : (cell ns 0 * 48271 % 1061 % 8).toNat < 8 := by have := Int.emod_lt_of_pos (cell ns 0 * 48271 % 1061) (by decide : (0 : Int) < 8); have := Int.emod_nonneg (cell ns 0 * 48271 % 1061) (by decide : (8 : Int) ≠ 0); omega
    obtain ⟨n, hn, hn2, hn12⟩ := count8 hr8
    refine ⟨_, rfl, a, ns, 0, rfl, s1.seq ha, by decide, _, _, rfl, rfl, cmul (by decide) (by decide), _, _, rfl, rfl, (by show (0 : Int) < 1061; decide), _, _, rfl, rfl, (by show (0 : Int) < 8; decide), l8, _, _, .int (n : Int), rfl, rfl, SqL.of upd_same, ?_, ?_⟩
    · have h0 := Int.emod_nonneg (cell ns 0 * 48271 % 1061) (by decide : (8 : Int) ≠ 0)
      obtain ⟨r, er⟩ := Int.eq_ofNat_of_zero_le h0
      rw [er] at hn ⊢
      exact atI_nat hn
    have ha1 := s1.seq ha
    generalize upd H l8 (.lst [.int 2, .int 3, .int 4, .int 2, .int 3, .int 4, .int 2, .int 12]) = H1 at ha1
    clear s1 n8 hn hr8
    refine ⟨_, rfl, a, ns, 1, rfl, ha1, by decide, _, _, rfl, rfl, cmul (by decide) (by decide), _, _, rfl, rfl, (by show (0 : Int) < 1051; decide), _, _, rfl, rfl, (by show (0 : Int) < 30; decide), ?_⟩
    dsimp only
    have hco0 := Int.emod_nonneg (cell ns 1 * 48271 % 1051) (by decide : (30 : Int) ≠ 0)
    generalize cell ns 1 * 48271 % 1051 % 30 = co0 at hco0
    refine ⟨_, rfl, a, ns, 1, rfl, ha1, by decide, _, _, rfl, rfl, cmul (by decide) (by decide), _, _, rfl, rfl, (by show (0 : Int) < 1069; decide), _, _, rfl, rfl, (by show (0 : Int) < 8; decide), rfl, _, rfl, ?_⟩
    refine both (fun σ' H' => ∃ co : Int, 0 ≤ co ∧ σ' = [some (.ref a), some (.int n), some (.int co), none, none, none, none, none, none, none, none] ∧ H' = H1) ?_ (fun _ tail => ⟨_, rfl, _, _, rfl, rfl, tail _ _ ⟨_, (by omega), rfl, rfl⟩⟩) (fun _ => ⟨co0, hco0, rfl, rfl⟩)
    rintro σ' H' ⟨co, hco, rfl, rfl⟩
    refine ⟨_, rfl, _, rfl, a, ns, n, rfl, ha1, hns, hn2, hn12, fun ld ds xd H3 hds ok hbr hld hxd e3 => ?_⟩
    clear e3 ha1
    obtain ⟨pre, z, hpre⟩ := hbr
    obtain ⟨W, R⟩ := Rep.run (start_wd (n := n) (coins := co)) Rep.start ok
    have M := Mod.run (start_mod (n := n) (coins := co) (by omega)) ok (by omega)
    have hno : (runC (start n co) ds).offs.length = n := M.wd.ln
    have KP := KpI.run (start_wd (n := n) (coins := co)) Rep.start (Coin.start hco) KpI.start ok
    have CUT := cuts_run (ds := ds) (c := start n co)
    have FL : ∀ u, u < n → Full u (runC (start n co) ds) := fun u hu => by
      have e1 : runC (start n co) ds = runC (runC (start n co) pre) (((List.range n).map (brn n z)).map Deed.bring) := by rw [hpre]; unfold runC; rw [List.foldl_append]
      rw [e1]
      obtain ⟨W1, _⟩ := Rep.run (start_wd (n := n) (coins := co)) Rep.start (ds := pre) fun d hd => ok d (by rw [hpre]; exact List.mem_append_left _ hd)
      refine brings_full W1 (fun t ht => ?_) (.inl (brn_all hu))
      obtain ⟨q, _, rfl⟩ := List.mem_map.mp ht
      exact brn_lt (by omega)
    -- letters
    refine ⟨_, rfl, _, rfl, _, rfl, ld, _, rfl, .inl (SqL.of hld), fun l0 nl0 => ?_⟩
    have s3 := same_new (o := .lst xd) nl0
    refine ⟨n, co, l0, ds, xd, rfl, SqL.of upd_same, RepDs.same s3 _ _ hxd, ok, hds, hn2, by omega, fun ll xl H4 hll hxl e4 => ?_⟩
    have e34 := s3.trans e4
    have hld4 := e34 _ _ hld
    have hxd4 := RepDs.same e34 _ _ hxd
    clear s3 e4 e34 hld hxd nl0
    -- events
    refine ⟨_, rfl, _, rfl, _, rfl, ld, _, rfl, .inl (SqL.of hld4), fun l1 nl1 => ?_⟩
    have s4 := same_new (o := .lst xd) nl1
    refine ⟨n, co, l1, ds, xd, rfl, SqL.of upd_same, RepDs.same s4 _ _ hxd4, ok, hds, hn2, by omega, fun le xe H5 hle hxe e5 => ?_⟩
    have e45 := s4.trans e5
    have hld5 := e45 _ _ hld4
    have hxd5 := RepDs.same e45 _ _ hxd4
    have hll5 := e45 _ _ hll
    have hxl5 := RepDs.same e45 _ _ hxl
    clear s4 e5 e45 hld4 hxd4 hll hxl nl1
    -- kept
    refine ⟨_, rfl, _, rfl, _, rfl, ld, _, rfl, .inl (SqL.of hld5), fun l2 nl2 => ?_⟩
    have s5 := same_new (o := .lst xd) nl2
    refine ⟨n, co, l2, ds, xd, rfl, SqL.of upd_same, RepDs.same s5 _ _ hxd5, ok, hds, hn2, by omega, fun lk xk H7 hlk hxk e6 => ?_⟩
    have e56 := s5.trans e6
    have hld7 := e56 _ _ hld5
    have hxd7 := RepDs.same e56 _ _ hxd5
    have hll7 := e56 _ _ hll5
    have hxl7 := RepDs.same e56 _ _ hxl5
    have hle7 := e56 _ _ hle
    have hxe7 := EvVs.imm e56.imm hxe
    clear s5 e6 e56 hld5 hxd5 hll5 hxl5 hle hxe nl2
    have hkl := M.kl
    have hke := M.ke
    rw [Nat.zero_add] at hkl hke
    have hevs : ∀ e ∈ (runC (start n co) ds).evs, okEv n e := fun e he => by
      obtain ⟨i, hi⟩ := List.getElem?_of_mem he
      have o := R.ok.at_ hi
      refine ⟨o.u, o.fit.1, ?_⟩
      have hl : e.l ∈ (runC (start n co) ds).lets := by
        rw [R.ls]
        cases hs : e.sent with
        | true =>
          unfold sentIn
          exact List.mem_map.mpr ⟨e, List.mem_filter.mpr ⟨he, hs⟩, rfl⟩
        | false =>
          have := (o.gt hs).2
          rw [List.nil_append] at this
          unfold sentIn at this ⊢
          obtain ⟨x, hx, ex⟩ := List.mem_map.mp this
          rw [List.mem_filter] at hx
          exact List.mem_map.mpr ⟨x, List.mem_filter.mpr ⟨List.mem_of_mem_take hx.1, hx.2⟩, ex⟩
      obtain ⟨j, hj⟩ := List.getElem?_of_mem hl
      have := W.ml.num j _ hj
      omega
    have c00 : ((start n co).lets.filter isCut).length = 0 := rfl
    rw [c00, Nat.zero_add] at CUT
    generalize runC (start n co) ds = c at *
    have xll := reps_len hxl7
    rw [List.length_map] at xll
    have hls := R.ls
    have hkn : ∀ m ∈ c.lets, ∀ u, u < n → m ∈ knOf u c.evs := fun m hm u hu => (full_kn R hu (FL u hu)).mem_iff.mpr hm
    have wh : ∀ l ∈ sentIn c.evs, okLet n l := by rw [← hls]; exact R.wh
    have hxs7 : RepDs K H7 ((sentIn c.evs).map letD) xl := by rw [← hls]; exact hxl7
    have hsl : (sentIn c.evs).length ≤ 100000 := by rw [← hls]; omega
    refine ⟨_, rfl, _, rfl, ll, xl, _, n, rfl, SqL.of hll7, hxl7, R.wh, _, rfl, iteF ?_⟩
    refine ⟨_, rfl, _, rfl, le, xe, _, n, rfl, SqL.of hle7, EvVs.reps hxe7, hevs, _, rfl, iteF ?_⟩
    refine ⟨_, rfl, ll, rfl, ⟨_, SqL.of hll7⟩, for_list (K := K) (a := ll) (xs := xl) (fun i σ Hc => ∃ (v8 v9 v10 : Option V), σ = [some (.ref a), some (.int n), some (.int co), some (.ref ld), some (.ref ll), some (.ref le), some (.ref lk), some (.int (((c.lets.take i).filter isCut).length : Nat)), v8, v9, v10] ∧ Same H7 Hc) ⟨none, none, none, rfl, Same.refl H7⟩ (fun i σ Hc _ h => by obtain ⟨_, _, _, _, e⟩ := h; exact SqL.of (e _ _ hll7)) ?_ ?_⟩
    · rintro i y σ Hc hi ⟨v8, v9, v10, rfl, e⟩
      have hi' : i < c.lets.length := by have := (List.getElem?_eq_some_iff.mp hi).1; omega
      obtain ⟨y', gy, ry⟩ := reps_get hxl7 (i := i) (d := letD c.lets[i]) (by rw [List.getElem?_map, List.getElem?_eq_getElem hi']; rfl)
      rw [hi] at gy
      cases gy
      obtain ⟨al, rfl, La⟩ := letAt_iff.mp ry
      have hmem := List.getElem_mem hi'
      rw [take_snoc (List.getElem?_eq_getElem hi'), List.filter_append, List.length_append]
      generalize c.lets[i] = m at La hmem ⊢
      have La := La.imm e.imm
      obtain ⟨b1, wc, L1, L2, L3⟩ := id La
      obtain ⟨o1, o2, o3, o4⟩ := R.wh m hmem
      cases hw : m.w with
      | pay t q =>
        rw [hw] at L3
        have L3 : SqT K Hc wc [.str "pay", .int t, .int q] := L3
        refine ⟨_, rfl, al, _, 2, _, rfl, rfl, L1, rfl, wc, _, 0, _, rfl, rfl, L3, rfl, rfl, _, rfl, ?_⟩
        refine iteFe (by decide +kernel) ⟨some (.ref al), v9, v10, ?_, e⟩
        rw [show List.filter isCut [m] = [] by simp [isCut, hw]]; rfl
      | cut =>
        rw [hw] at L3
        have L3 : SqT K Hc wc [.str "cut"] := L3
        refine ⟨_, rfl, al, _, 2, _, rfl, rfl, L1, rfl, wc, _, 0, _, rfl, rfl, L3, rfl, rfl, _, rfl, ?_⟩
        refine iteTe (by decide +kernel) ?_
        refine ⟨_, rfl, al, m, rfl, La, by omega, fun p np => ?_⟩
        have s1 := same_new (o := .tup [.int m.s, .int (nameN m)]) np
        have e1 := e.trans s1
        have hp : (upd Hc p (.tup [.int m.s, .int (nameN m)])) p = some (.tup [.int m.s, .int (nameN m)]) := upd_same
        generalize upd Hc p (.tup [.int m.s, .int (nameN m)]) = H8 at e1 hp
        have hka : All2 (KpAt K H8 m) (sts n co m c.evs) xk := kept_all R.ok hno KP (hkn m hmem) hw (hxk.mono fun _ _ => KpV.same e1)
        refine ⟨_, rfl, _, rfl, lk, p, xk, m, sts n co m c.evs, rfl, SqL.of (e1 _ _ hlk), hka, by rw [sts_len]; omega, hp, fun D us H9 e9 hD hus => ?_⟩
        have e19 := e1.trans e9
        refine ⟨_, rfl, _, _, rfl, rfl, ?_⟩
        refine ⟨_, rfl, _, rfl, D, us, sts n co m c.evs, n, rfl, SqL.of hD, hus, sts_len, sts_mem, _, rfl, iteF ?_⟩
        refine ⟨_, rfl, _, rfl, _, rfl, _, rfl, _, rfl, le, ll, D, p, c.evs, xe, xl, us, n, m, co, rfl, SqL.of (e19 _ _ hle7), EvVs.imm e19.imm hxe7, SqL.of (e19 _ _ hll7), RepDs.same e19 _ _ hxs7, SqL.of hD, hus, R.ok, wh, hsl, by omega, hkn m hmem, e9 _ _ hp, fun H10 e10 => ⟨_, rfl, iteF ?_⟩⟩
        refine ⟨some (.ref al), some (.ref p), some (.ref D), ?_, e19.trans e10⟩
        rw [show List.filter isCut [m] = [m] by simp [isCut, hw]]; rfl
    · rintro σ Hc ⟨v8, v9, v10, rfl, e⟩
      rw [xll, List.take_length]
      have xdl := reps_len hxd7
      rw [List.length_map] at xdl
      refine ⟨_, rfl, _, rfl, ld, rfl, ⟨_, SqL.of (e _ _ hld7)⟩, comp_list (xs := xd) (fun D j us H2 => Same Hc H2 ∧ H2 D = some (.lst us) ∧ us.length = ((ds.take j).filter cutD).length)
        (fun D hD => ⟨same_new hD, upd_same, rfl⟩) (fun D j us H2 hD hj h => ⟨h.2.1, SqL.of ((e.trans h.1) _ _ hld7)⟩) (fun D j x us H2 hD hj h => ?_) (fun D us H2 hD h => ?_)⟩
      · obtain ⟨f1, f2, f3⟩ := h
        have hj' : j < ds.length := by have := (List.getElem?_eq_some_iff.mp hj).1; omega
        obtain ⟨x', gx, rx⟩ := reps_get hxd7 (i := j) (d := deedD ds[j]) (by rw [List.getElem?_map, List.getElem?_eq_getElem hj']; rfl)
        rw [hj] at gx
        cases gx
        obtain ⟨bd, rfl, D⟩ := deedAt_iff.mp (RepD.same (e.trans f1) _ _ rx)
        have fle : ((ds.take j).filter cutD).length ≤ ds.length := by
          refine Nat.le_trans (List.length_filter_le _ _) ?_
          rw [List.length_take]; omega
        rw [take_snoc (List.getElem?_eq_getElem hj'), List.filter_append]
        generalize ds[j] = d at D
        cases d with
        | cut u =>
          have D : SqT K H2 bd [.str "cut", .int u] := D
          refine ⟨_, rfl, bd, _, 0, _, rfl, rfl, D, rfl, rfl, _, rfl, ?_⟩
          refine iteTe (by decide +kernel) ⟨_, rfl, f2, Nat.lt_of_le_of_lt (show us.length ≤ 1000000 by omega) (by decide), same_upd f1 hD, upd_same, ?_⟩
          rw [List.length_append, List.length_append, f3]; rfl
        | pay u t m =>
          have D : SqT K H2 bd [.str "pay", .int u, .int t, .int m] := D
          refine ⟨_, rfl, bd, _, 0, _, rfl, rfl, D, rfl, rfl, _, rfl, ?_⟩
          refine iteFe (by decide +kernel) ⟨f1, f2, ?_⟩
          rw [f3, List.length_append]; rfl
        | carry z t =>
          have D : SqT K H2 bd [.str "carry", .int z, .int t] := D
          refine ⟨_, rfl, bd, _, 0, _, rfl, rfl, D, rfl, rfl, _, rfl, ?_⟩
          refine iteFe (by decide +kernel) ⟨f1, f2, ?_⟩
          rw [f3, List.length_append]; rfl
        | bring t =>
          have D : SqT K H2 bd [.str "bring", .int t] := D
          refine ⟨_, rfl, bd, _, 0, _, rfl, rfl, D, rfl, rfl, _, rfl, ?_⟩
          refine iteFe (by decide +kernel) ⟨f1, f2, ?_⟩
          rw [f3, List.length_append]; rfl
      · obtain ⟨f1, f2, f3⟩ := h
        rw [xdl, List.take_length] at f3
        refine ⟨D, us, rfl, .inl (SqL.of f2), rfl, ?_⟩
        dsimp only
        rw [decide_eq_true (show V.int (((c.lets.filter isCut).length : Nat) : Int) = V.int ((us.length : Nat) : Int) by rw [f3, CUT])]
        exact k _
end
end Of

end

set_option Elab.async false
set_option linter.all false
set_option maxRecDepth 100000
set_option maxHeartbeats 4000000
namespace Hd
open PySem PySem.W
/-! ### the top's run at once -/
/-- what is looked at behind the run -/
noncomputable abbrev seenAt (p q : Program) (loose : List Str) (Xt : Shared → Bool) {α : Type} (Yf : Shared → α) (w : World) (s1 : Shared) :=
  ((staticsOk (importedModules p.main.body) (boot_heap w.params) s1.heap && namesBound p s1.heap && gensDone s1 && laidKept (boot_heap w.params) s1.heap), openSeen q loose (importedModules p.main.body) Xt true s1, Yf s1)
abbrev cB (p : Program) (env : Env) : Code := .body (behindTheImports p) env
theorem left_T {p q : Program} {loose : List Str} {Xt : Shared → Bool} {α : Type} {Yf : Shared → α} {Ya : World → α} {N n k0 m₀ : Nat} {ann : Option Value} {env : Env} {Sa : World → OsState → Shared} {Sb : World → OsState → SharedT} {q0 posA posB posE : Pos}
    (open_ : ∀ w : World, (fencedOpening treeTable p w N).map (fun s => (s.heap, s.gens, s.drawn, s.toks)) = some (boot_heap w.params, Array.mk [], boot_drawn, boot_toks))
    (size : ∀ w : World, ((boot_heap w.params).isNs mainGlobals && (Array.mk [] : Array GenState).size == 0, (boot_heap w.params).objs.size, (boot_heap w.params).nsMap mainGlobals "__annotations__") = (true, m₀, ann))
    (pre : ∀ w : World, (fun os => topGo treeTable p w m₀ ann k0 ⟨boot_heap w.params, Array.mk [], boot_drawn, boot_toks, os⟩ (topStub p)) = fun os => some (Sa w os, ⟨denote treeTable (cB p env), cB p env, posA, [topFrame q0]⟩))
    (blk : ∀ w : World, (fun os => segRun treeTable p w m₀ ann 1 1 (Sa w os) (blockOf (behindTheImports p) env (cB p env) posA [topFrame q0])) = fun os => some (.next, (Sb w os).abs, cB p env, posB))
    (h : ∀ w : World, (fun os => (segRunT treeTable p w m₀ ann 1 n (Sb w os) (piecesOf (behindTheImports p) env (cB p env) posB [topFrame q0])).map fun r => (r.1, r.2.2.1, r.2.2.2, (topRun treeTable p w m₀ ann 2 r.2.1.abs ⟨doneF .next, cB p env, posE, [topFrame q0]⟩).map (seenAt p q loose Xt Yf w))) =
      fun os => some (.next, cB p env, posE, some (true, openGood q loose, Ya w)))
    (le : Nat.ble (k0 + (1 + (n + 2))) N = true) : LeftO p q loose Xt Yf Ya N := fun w => by
  obtain ⟨⟨hh, gs, d, k, os⟩, e, e'⟩ := Option.map_eq_some_iff.mp (open_ w)
  obtain ⟨rfl, rfl, rfl, rfl⟩ : hh = boot_heap w.params ∧ gs = Array.mk [] ∧ d = boot_drawn ∧ k = boot_toks := by simpa using e'
  obtain ⟨y1, y2, y3⟩ : _ ∧ _ ∧ _ := by simpa only [Prod.mk.injEq] using size w
  obtain ⟨⟨f, s', c', p'⟩, hr, ho⟩ := Option.map_eq_some_iff.mp (congrFun (h w) os)
  simp only [Prod.mk.injEq] at ho
  obtain ⟨rfl, rfl, rfl, h4⟩ := ho
  obtain ⟨s1, ht, hl⟩ := Option.map_eq_some_iff.mp h4
  obtain ⟨l1, l2, l3⟩ : _ ∧ (_ ∧ _) := by simpa only [Prod.mk.injEq] using hl
  have r0 := piece_app (rest := []) (segRun_of hr) (piece_nil ht)
  rw [List.append_nil] at r0
  have r1 := go_top (congrFun (pre w) os) (piece_block (congrFun (blk w) os) r0)
  have r := topRun_mono (N - (k0 + (1 + (n + 2)))) _ _ _ _ r1
  rw [show k0 + (1 + (n + 2)) + (N - (k0 + (1 + (n + 2)))) = N by have := Nat.le_of_ble_eq_true le; omega] at r
  have t : topFrom treeTable p w N ⟨boot_heap w.params, Array.mk [], boot_drawn, boot_toks, os⟩ = some s1 := by
    unfold topFrom
    dsimp only
    rw [y1, y2, y3, r]
    show (match staticsOk (importedModules p.main.body) (boot_heap w.params) s1.heap && namesBound p s1.heap && gensDone s1 && laidKept (boot_heap w.params) s1.heap with | true => _ | false => _) = _
    rw [l1]
  unfold openEnds
  rw [e]
  show Option.map _ (topFrom treeTable p w N _) = _
  rw [t]
  exact congrArg Option.some (Prod.ext l2 l3)
end Hd

set_option Elab.async false
set_option linter.all false
set_option maxRecDepth 100000
set_option maxHeartbeats 4000000
namespace Hd
open PySem PySem.W L2 L3
def de (P : Params) (x : Str) (t : Nat) (v : Value) : DictEntry := ⟨PyData.keyHash P x, .str x t, v⟩
abbrev PR : Program := PySem.Challenge.pw_postbooks_k09_whole_cut_kept
/-- a def of the text, as the run lays it -/
def fo (st : Stmt) (x q : Str) (pm : Value) (c : Nat) : Obj := { cls := .type "function", data := .func (fnOf x q (defArgs st) (defBody st) (defScope st) .none .none .none pm none (.ref c) .none) }
def KX : Params → Frag := fun P =>
  [(nat_lit 2, { cls := .none, data := .dict #[] }),
  (nat_lit 3, { cls := .type "dict", data := .dict #[de P "__name__" 165 (.str "law_postbooks_k09_whole_cut_kept" 563), de P "__doc__" 166 (.none), de P "__package__" 167 (.none), de P "__loader__" 168 (.builtin "__main__.__loader__#opaque"), de P "__spec__" 169 (.none), de P "__annotations__" 170 (.ref 6), de P "__builtins__" 171 (.ref 4), de P "__file__" 173 (.str "/claim/cut.py" 172), de P "__cached__" 174 (.none), de P "name_of" 197 (.ref 21), de P "is_there" 205 (.ref 28), de P "counted" 213 (.ref 35), de P "ready" 219 (.ref 40), de P "PostError" 239 (.ref 50), de P "Poor" 255 (.ref 63), de P "NoCut" 271 (.ref 75), de P "states" 279 (.ref 82), de P "state_in" 288 (.ref 89), de P "coins_under_way" 294 (.ref 94), de P "is_there_at" 303 (.ref 101), de P "is_sent" 311 (.ref 108), de P "coins_on_the_way" 320 (.ref 115), de P "Office" 418 (.ref 179), de P "first_ready" 427 (.ref 190), de P "coins_for" 435 (.ref 197), de P "sent_or_none" 443 (.ref 204), de P "taken_by" 453 (.ref 211), de P "Course" 527 (.ref 259), de P "course_of" 538 (.ref 270), de P "letters_of" 547 (.ref 277), de P "events_of" 556 (.ref 284), de P "kept_of" 562 (.ref 289), de P "_law_so" 573 (.ref 296), de P "_law_whole" 580 (.ref 303), de P "_law_at" 588 (.ref 310), de P "_law_is_name" 596 (.ref 317), de P "_law_are_events" 605 (.ref 324), de P "_law_is_what" 614 (.ref 331), de P "_law_are_letters" 624 (.ref 338), de P "_law_called" 631 (.ref 345), de P "_law_deed_of" 645 (.ref 352), de P "_law_drawn" 655 (.ref 359), de P "_law_ended" 666 (.ref 366), de P "_law_are_states" 676 (.ref 373), de P "_law_walked_to" 693 (.ref 380), de P "_law_one_cut" 709 (.ref 387), de P "law" 715 (.ref 392)] 47 }),
  (nat_lit 20, { cls := .type "code", data := .fields #[.str "name_of" 189, .str "name_of" 190, .str "/claim/cut.py" 191, .int 2 0, .int 1 0, .int 0 0, .int 0 0, .int 3 0, .ref 15, .bool true, .int 181 0, .ref 16, .none, .ref 17, .ref 18, .ref 19, .int 195 0, .int 2 0, .str "/claim/cut.py" 196] }),
  (nat_lit 21, fo (Of.top 1) "name_of" "name_of" (.str "postbooks.clocks" 187) 20),
  (nat_lit 27, { cls := .type "code", data := .fields #[.str "is_there" 198, .str "is_there" 199, .str "/claim/cut.py" 200, .int 6 0, .int 2 0, .int 0 0, .int 0 0, .int 3 0, .ref 22, .bool true, .int 181 0, .ref 23, .none, .ref 24, .ref 25, .ref 26, .int 203 0, .int 6 0, .str "/claim/cut.py" 204] }),
  (nat_lit 28, fo (Of.top 2) "is_there" "is_there" (.str "postbooks.clocks" 187) 27),
  (nat_lit 34, { cls := .type "code", data := .fields #[.str "counted" 206, .str "counted" 207, .str "/claim/cut.py" 208, .int 8 0, .int 2 0, .int 0 0, .int 0 0, .int 3 0, .ref 29, .bool true, .int 181 0, .ref 30, .none, .ref 31, .ref 32, .ref 33, .int 211 0, .int 8 0, .str "/claim/cut.py" 212] }),
  (nat_lit 35, fo (Of.top 3) "counted" "counted" (.str "postbooks.clocks" 187) 34),
  (nat_lit 39, { cls := .type "code", data := .fields #[.str "ready" 214, .str "ready" 215, .str "/claim/cut.py" 216, .int 10 0, .int 2 0, .int 0 0, .int 0 0, .int 3 0, .ref 36, .bool true, .int 181 0, .ref 37, .none, .none, .none, .ref 38, .int 217 0, .int 10 0, .str "/claim/cut.py" 218] }),
  (nat_lit 40, fo (Of.top 4) "ready" "ready" (.str "postbooks.clocks" 187) 39),
  (nat_lit 49, { cls := .type "dict", data := .dict #[de P "__module__" 229 (.str "postbooks.errors" 220), de P "__firstlineno__" 233 (.int 18 232), de P "__static_attributes__" 234 (.ref 48), de P "__weakref__" 236 (.ref 51), de P "__doc__" 237 (.none)] 3 }),
  (nat_lit 50, { cls := .type "type", data := .cls { name := "PostError", bases := [.type "ValueError"], mro := [.ref 50, .type "ValueError", .type "Exception", .type "BaseException", .type "object"], ns := 49, qualname := "PostError", subclasses := [.ref 63, .ref 75] }, slots := #[some (.ref 41), none, some (.str "PostError" 222), some (.str "PostError" 230), some (.builtin "ValueError.__new__"), some (.bool true)] }),
  (nat_lit 51, { cls := .type "getset_descriptor", data := .fields #[.str "__weakref__" 235, .ref 50, .builtin "ExceptionGroup.__weakref__", .none] }),
  (nat_lit 62, { cls := .type "dict", data := .dict #[de P "__module__" 247 (.str "postbooks.errors" 220), de P "__firstlineno__" 251 (.int 20 250), de P "__static_attributes__" 252 (.ref 61), de P "__doc__" 253 (.none)] 2 }),
  (nat_lit 63, { cls := .type "type", data := .cls { name := "Poor", bases := [.ref 50], mro := [.ref 63, .ref 50, .type "ValueError", .type "Exception", .type "BaseException", .type "object"], ns := 62, qualname := "Poor" }, slots := #[some (.ref 54), none, some (.str "Poor" 240), some (.str "Poor" 248), some (.builtin "ValueError.__new__"), some (.bool true)] }),
  (nat_lit 74, { cls := .type "dict", data := .dict #[de P "__module__" 263 (.str "postbooks.errors" 220), de P "__firstlineno__" 267 (.int 22 266), de P "__static_attributes__" 268 (.ref 73), de P "__doc__" 269 (.none)] 2 }),
  (nat_lit 75, { cls := .type "type", data := .cls { name := "NoCut", bases := [.ref 50], mro := [.ref 75, .ref 50, .type "ValueError", .type "Exception", .type "BaseException", .type "object"], ns := 74, qualname := "NoCut" }, slots := #[some (.ref 66), none, some (.str "NoCut" 256), some (.str "NoCut" 264), some (.builtin "ValueError.__new__"), some (.bool true)] }),
  (nat_lit 81, { cls := .type "code", data := .fields #[.str "states" 274, .str "states" 275, .str "/claim/cut.py" 276, .int 25 0, .int 2 0, .int 0 0, .int 0 0, .int 3 0, .ref 78, .bool true, .int 181 0, .ref 79, .none, .none, .none, .ref 80, .int 277 0, .int 25 0, .str "/claim/cut.py" 278] }),
  (nat_lit 82, fo (Of.top 10) "states" "states" (.str "postbooks.cuts" 272) 81),
  (nat_lit 88, { cls := .type "code", data := .fields #[.str "state_in" 280, .str "state_in" 281, .str "/claim/cut.py" 282, .int 27 0, .int 2 0, .int 0 0, .int 0 0, .int 3 0, .ref 83, .bool true, .int 181 0, .ref 84, .none, .ref 85, .ref 86, .ref 87, .int 286 0, .int 27 0, .str "/claim/cut.py" 287] }),
  (nat_lit 89, fo (Of.top 11) "state_in" "state_in" (.str "postbooks.cuts" 272) 88),
  (nat_lit 93, { cls := .type "code", data := .fields #[.str "coins_under_way" 289, .str "coins_under_way" 290, .str "/claim/cut.py" 291, .int 32 0, .int 2 0, .int 0 0, .int 0 0, .int 3 0, .ref 90, .bool true, .int 181 0, .ref 91, .none, .none, .none, .ref 92, .int 292 0, .int 32 0, .str "/claim/cut.py" 293] }),
  (nat_lit 94, fo (Of.top 12) "coins_under_way" "coins_under_way" (.str "postbooks.cuts" 272) 93),
  (nat_lit 100, { cls := .type "code", data := .fields #[.str "is_there_at" 295, .str "is_there_at" 296, .str "/claim/cut.py" 297, .int 34 0, .int 3 0, .int 0 0, .int 0 0, .int 3 0, .ref 95, .bool true, .int 181 0, .ref 96, .none, .ref 97, .ref 98, .ref 99, .int 301 0, .int 34 0, .str "/claim/cut.py" 302] }),
  (nat_lit 101, fo (Of.top 13) "is_there_at" "is_there_at" (.str "postbooks.cuts" 272) 100),
  (nat_lit 107, { cls := .type "code", data := .fields #[.str "is_sent" 304, .str "is_sent" 305, .str "/claim/cut.py" 306, .int 36 0, .int 2 0, .int 0 0, .int 0 0, .int 3 0, .ref 102, .bool true, .int 181 0, .ref 103, .none, .ref 104, .ref 105, .ref 106, .int 309 0, .int 36 0, .str "/claim/cut.py" 310] }),
  (nat_lit 108, fo (Of.top 14) "is_sent" "is_sent" (.str "postbooks.cuts" 272) 107),
  (nat_lit 114, { cls := .type "code", data := .fields #[.str "coins_on_the_way" 312, .str "coins_on_the_way" 313, .str "/claim/cut.py" 314, .int 38 0, .int 2 0, .int 0 0, .int 0 0, .int 3 0, .ref 109, .bool true, .int 181 0, .ref 110, .none, .ref 111, .ref 112, .ref 113, .int 318 0, .int 38 0, .str "/claim/cut.py" 319] }),
  (nat_lit 115, fo (Of.top 15) "coins_on_the_way" "coins_on_the_way" (.str "postbooks.cuts" 272) 114),
  (nat_lit 128, { cls := .type "code", data := .fields #[.str "__init__" 335, .str "Office.__init__" 336, .str "/claim/cut.py" 337, .int 46 0, .int 4 0, .int 0 0, .int 0 0, .int 3 0, .ref 123, .bool true, .int 181 0, .ref 124, .none, .ref 125, .ref 126, .ref 127, .int 342 0, .int 46 0, .str "/claim/cut.py" 343] }),
  (nat_lit 129, fo (L2.inClass (Of.top 17) 0) "__init__" "Office.__init__" (.str "postbooks.office" 321) 128),
  (nat_lit 135, { cls := .type "code", data := .fields #[.str "pay" 345, .str "Office.pay" 346, .str "/claim/cut.py" 347, .int 54 0, .int 3 0, .int 0 0, .int 0 0, .int 3 0, .ref 130, .bool true, .int 181 0, .ref 131, .none, .ref 132, .ref 133, .ref 134, .int 351 0, .int 54 0, .str "/claim/cut.py" 352] }),
  (nat_lit 136, fo (L2.inClass (Of.top 17) 1) "pay" "Office.pay" (.str "postbooks.office" 321) 135),
  (nat_lit 142, { cls := .type "code", data := .fields #[.str "cut" 354, .str "Office.cut" 355, .str "/claim/cut.py" 356, .int 60 0, .int 1 0, .int 0 0, .int 0 0, .int 3 0, .ref 137, .bool true, .int 181 0, .ref 138, .none, .ref 139, .ref 140, .ref 141, .int 358 0, .int 60 0, .str "/claim/cut.py" 359] }),
  (nat_lit 143, fo (L2.inClass (Of.top 17) 2) "cut" "Office.cut" (.str "postbooks.office" 321) 142),
  (nat_lit 149, { cls := .type "code", data := .fields #[.str "take" 361, .str "Office.take" 362, .str "/claim/cut.py" 363, .int 63 0, .int 2 0, .int 0 0, .int 0 0, .int 3 0, .ref 144, .bool true, .int 181 0, .ref 145, .none, .ref 146, .ref 147, .ref 148, .int 368 0, .int 63 0, .str "/claim/cut.py" 369] }),
  (nat_lit 150, fo (L2.inClass (Of.top 17) 3) "take" "Office.take" (.str "postbooks.office" 321) 149),
  (nat_lit 156, { cls := .type "code", data := .fields #[.str "send" 371, .str "Office.send" 372, .str "/claim/cut.py" 373, .int 73 0, .int 2 0, .int 0 0, .int 0 0, .int 3 0, .ref 151, .bool true, .int 181 0, .ref 152, .none, .ref 153, .ref 154, .ref 155, .int 377 0, .int 73 0, .str "/claim/cut.py" 378] }),
  (nat_lit 157, fo (L2.inClass (Of.top 17) 4) "send" "Office.send" (.str "postbooks.office" 321) 156),
  (nat_lit 161, { cls := .type "code", data := .fields #[.str "is_new" 380, .str "Office.is_new" 381, .str "/claim/cut.py" 382, .int 79 0, .int 2 0, .int 0 0, .int 0 0, .int 3 0, .ref 158, .bool true, .int 181 0, .ref 159, .none, .none, .none, .ref 160, .int 383 0, .int 79 0, .str "/claim/cut.py" 384] }),
  (nat_lit 162, fo (L2.inClass (Of.top 17) 5) "is_new" "Office.is_new" (.str "postbooks.office" 321) 161),
  (nat_lit 168, { cls := .type "code", data := .fields #[.str "hand_over" 386, .str "Office.hand_over" 387, .str "/claim/cut.py" 388, .int 83 0, .int 2 0, .int 0 0, .int 0 0, .int 3 0, .ref 163, .bool true, .int 181 0, .ref 164, .none, .ref 165, .ref 166, .ref 167, .int 392 0, .int 83 0, .str "/claim/cut.py" 393] }),
  (nat_lit 169, fo (L2.inClass (Of.top 17) 6) "hand_over" "Office.hand_over" (.str "postbooks.office" 321) 168),
  (nat_lit 175, { cls := .type "code", data := .fields #[.str "write_in_book" 395, .str "Office.write_in_book" 396, .str "/claim/cut.py" 397, .int 91 0, .int 3 0, .int 0 0, .int 0 0, .int 3 0, .ref 170, .bool true, .int 181 0, .ref 171, .none, .ref 172, .ref 173, .ref 174, .int 402 0, .int 91 0, .str "/claim/cut.py" 403] }),
  (nat_lit 176, fo (L2.inClass (Of.top 17) 7) "write_in_book" "Office.write_in_book" (.str "postbooks.office" 321) 175),
  (nat_lit 178, { cls := .type "dict", data := .dict #[de P "__module__" 330 (.str "postbooks.office" 321), de P "__firstlineno__" 334 (.int 44 333), de P "__init__" 344 (.ref 129), de P "pay" 353 (.ref 136), de P "cut" 360 (.ref 143), de P "take" 370 (.ref 150), de P "send" 379 (.ref 157), de P "is_new" 385 (.ref 162), de P "hand_over" 394 (.ref 169), de P "write_in_book" 404 (.ref 176), de P "__static_attributes__" 411 (.ref 177), de P "__dict__" 413 (.ref 180), de P "__weakref__" 415 (.ref 181), de P "__doc__" 416 (.none)] 4 }),
  (nat_lit 179, { cls := .type "type", data := .cls { name := "Office", bases := [.type "object"], mro := [.ref 179, .type "object"], ns := 178, qualname := "Office" }, slots := #[none, none, some (.str "Office" 323), some (.str "Office" 331), some (.builtin "object.__new__"), some (.bool true)] }),
  (nat_lit 180, { cls := .type "getset_descriptor", data := .fields #[.str "__dict__" 412, .ref 179, .builtin "function.__dict__", .builtin "function.__dict__#set"] }),
  (nat_lit 181, { cls := .type "getset_descriptor", data := .fields #[.str "__weakref__" 414, .ref 179, .builtin "ExceptionGroup.__weakref__", .none] }),
  (nat_lit 189, { cls := .type "code", data := .fields #[.str "first_ready" 419, .str "first_ready" 420, .str "/claim/cut.py" 421, .int 96 0, .int 2 0, .int 0 0, .int 0 0, .int 3 0, .ref 184, .bool true, .int 181 0, .ref 185, .none, .ref 186, .ref 187, .ref 188, .int 425 0, .int 96 0, .str "/claim/cut.py" 426] }),
  (nat_lit 190, fo (Of.top 18) "first_ready" "first_ready" (.str "postbooks.office" 321) 189),
  (nat_lit 196, { cls := .type "code", data := .fields #[.str "coins_for" 428, .str "coins_for" 429, .str "/claim/cut.py" 430, .int 101 0, .int 2 0, .int 0 0, .int 0 0, .int 3 0, .ref 191, .bool true, .int 181 0, .ref 192, .none, .ref 193, .ref 194, .ref 195, .int 433 0, .int 101 0, .str "/claim/cut.py" 434] }),
  (nat_lit 197, fo (Of.top 19) "coins_for" "coins_for" (.str "postbooks.office" 321) 196),
  (nat_lit 203, { cls := .type "code", data := .fields #[.str "sent_or_none" 436, .str "sent_or_none" 437, .str "/claim/cut.py" 438, .int 105 0, .int 2 0, .int 0 0, .int 0 0, .int 3 0, .ref 198, .bool true, .int 181 0, .ref 199, .none, .ref 200, .ref 201, .ref 202, .int 441 0, .int 105 0, .str "/claim/cut.py" 442] }),
  (nat_lit 204, fo (Of.top 20) "sent_or_none" "sent_or_none" (.str "postbooks.office" 321) 203),
  (nat_lit 210, { cls := .type "code", data := .fields #[.str "taken_by" 444, .str "taken_by" 445, .str "/claim/cut.py" 446, .int 112 0, .int 2 0, .int 0 0, .int 0 0, .int 3 0, .ref 205, .bool true, .int 181 0, .ref 206, .none, .ref 207, .ref 208, .ref 209, .int 451 0, .int 112 0, .str "/claim/cut.py" 452] }),
  (nat_lit 211, fo (Of.top 21) "taken_by" "taken_by" (.str "postbooks.office" 321) 210),
  (nat_lit 222, { cls := .type "code", data := .fields #[.str "__init__" 468, .str "Course.__init__" 469, .str "/claim/cut.py" 470, .int 120 0, .int 3 0, .int 0 0, .int 0 0, .int 3 0, .ref 219, .bool true, .int 181 0, .ref 220, .none, .none, .none, .ref 221, .int 471 0, .int 120 0, .str "/claim/cut.py" 472] }),
  (nat_lit 223, fo (L2.inClass (Of.top 23) 0) "__init__" "Course.__init__" (.str "postbooks.story" 454) 222),
  (nat_lit 229, { cls := .type "code", data := .fields #[.str "do" 474, .str "Course.do" 475, .str "/claim/cut.py" 476, .int 126 0, .int 2 0, .int 0 0, .int 0 0, .int 3 0, .ref 224, .bool true, .int 181 0, .ref 225, .none, .ref 226, .ref 227, .ref 228, .int 479 0, .int 126 0, .str "/claim/cut.py" 480] }),
  (nat_lit 230, fo (L2.inClass (Of.top 23) 1) "do" "Course.do" (.str "postbooks.story" 454) 229),
  (nat_lit 236, { cls := .type "code", data := .fields #[.str "answer_to" 482, .str "Course.answer_to" 483, .str "/claim/cut.py" 484, .int 129 0, .int 2 0, .int 0 0, .int 0 0, .int 3 0, .ref 231, .bool true, .int 181 0, .ref 232, .none, .ref 233, .ref 234, .ref 235, .int 487 0, .int 129 0, .str "/claim/cut.py" 488] }),
  (nat_lit 237, fo (L2.inClass (Of.top 23) 2) "answer_to" "Course.answer_to" (.str "postbooks.story" 454) 236),
  (nat_lit 243, { cls := .type "code", data := .fields #[.str "letter_sent" 490, .str "Course.letter_sent" 491, .str "/claim/cut.py" 492, .int 138 0, .int 3 0, .int 0 0, .int 0 0, .int 3 0, .ref 238, .bool true, .int 181 0, .ref 239, .none, .ref 240, .ref 241, .ref 242, .int 498 0, .int 138 0, .str "/claim/cut.py" 499] }),
  (nat_lit 244, fo (L2.inClass (Of.top 23) 3) "letter_sent" "Course.letter_sent" (.str "postbooks.story" 454) 243),
  (nat_lit 250, { cls := .type "code", data := .fields #[.str "letter_carried" 501, .str "Course.letter_carried" 502, .str "/claim/cut.py" 503, .int 147 0, .int 3 0, .int 0 0, .int 0 0, .int 3 0, .ref 245, .bool true, .int 181 0, .ref 246, .none, .ref 247, .ref 248, .ref 249, .int 507 0, .int 147 0, .str "/claim/cut.py" 508] }),
  (nat_lit 251, fo (L2.inClass (Of.top 23) 4) "letter_carried" "Course.letter_carried" (.str "postbooks.story" 454) 250),
  (nat_lit 255, { cls := .type "code", data := .fields #[.str "letters_brought" 510, .str "Course.letters_brought" 511, .str "/claim/cut.py" 512, .int 152 0, .int 3 0, .int 0 0, .int 0 0, .int 3 0, .ref 252, .bool true, .int 181 0, .ref 253, .none, .none, .none, .ref 254, .int 513 0, .int 152 0, .str "/claim/cut.py" 514] }),
  (nat_lit 256, fo (L2.inClass (Of.top 23) 5) "letters_brought" "Course.letters_brought" (.str "postbooks.story" 454) 255),
  (nat_lit 258, { cls := .type "dict", data := .dict #[de P "__module__" 463 (.str "postbooks.story" 454), de P "__firstlineno__" 467 (.int 118 466), de P "__init__" 473 (.ref 223), de P "do" 481 (.ref 230), de P "answer_to" 489 (.ref 237), de P "letter_sent" 500 (.ref 244), de P "letter_carried" 509 (.ref 251), de P "letters_brought" 515 (.ref 256), de P "__static_attributes__" 520 (.ref 257), de P "__dict__" 522 (.ref 260), de P "__weakref__" 524 (.ref 261), de P "__doc__" 525 (.none)] 4 }),
  (nat_lit 259, { cls := .type "type", data := .cls { name := "Course", bases := [.type "object"], mro := [.ref 259, .type "object"], ns := 258, qualname := "Course" }, slots := #[none, none, some (.str "Course" 456), some (.str "Course" 464), some (.builtin "object.__new__"), some (.bool true)] }),
  (nat_lit 260, { cls := .type "getset_descriptor", data := .fields #[.str "__dict__" 521, .ref 259, .builtin "function.__dict__", .builtin "function.__dict__#set"] }),
  (nat_lit 261, { cls := .type "getset_descriptor", data := .fields #[.str "__weakref__" 523, .ref 259, .builtin "ExceptionGroup.__weakref__", .none] }),
  (nat_lit 269, { cls := .type "code", data := .fields #[.str "course_of" 528, .str "course_of" 529, .str "/claim/cut.py" 530, .int 158 0, .int 3 0, .int 0 0, .int 0 0, .int 3 0, .ref 264, .bool true, .int 181 0, .ref 265, .none, .ref 266, .ref 267, .ref 268, .int 536 0, .int 158 0, .str "/claim/cut.py" 537] }),
  (nat_lit 270, fo (Of.top 24) "course_of" "course_of" (.str "postbooks.story" 454) 269),
  (nat_lit 276, { cls := .type "code", data := .fields #[.str "letters_of" 539, .str "letters_of" 540, .str "/claim/cut.py" 541, .int 163 0, .int 3 0, .int 0 0, .int 0 0, .int 3 0, .ref 271, .bool true, .int 181 0, .ref 272, .none, .ref 273, .ref 274, .ref 275, .int 545 0, .int 163 0, .str "/claim/cut.py" 546] }),
  (nat_lit 277, fo (Of.top 25) "letters_of" "letters_of" (.str "postbooks.story" 454) 276),
  (nat_lit 283, { cls := .type "code", data := .fields #[.str "events_of" 548, .str "events_of" 549, .str "/claim/cut.py" 550, .int 165 0, .int 3 0, .int 0 0, .int 0 0, .int 3 0, .ref 278, .bool true, .int 181 0, .ref 279, .none, .ref 280, .ref 281, .ref 282, .int 554 0, .int 165 0, .str "/claim/cut.py" 555] }),
  (nat_lit 284, fo (Of.top 26) "events_of" "events_of" (.str "postbooks.story" 454) 283),
  (nat_lit 288, { cls := .type "code", data := .fields #[.str "kept_of" 557, .str "kept_of" 558, .str "/claim/cut.py" 559, .int 167 0, .int 3 0, .int 0 0, .int 0 0, .int 3 0, .ref 285, .bool true, .int 181 0, .ref 286, .none, .none, .none, .ref 287, .int 560 0, .int 167 0, .str "/claim/cut.py" 561] }),
  (nat_lit 289, fo (Of.top 27) "kept_of" "kept_of" (.str "postbooks.story" 454) 288),
  (nat_lit 295, { cls := .type "code", data := .fields #[.str "_law_so" 565, .str "_law_so" 566, .str "/claim/cut.py" 567, .int 170 0, .int 2 0, .int 0 0, .int 0 0, .int 3 0, .ref 290, .bool true, .int 181 0, .ref 291, .none, .ref 292, .ref 293, .ref 294, .int 571 0, .int 170 0, .str "/claim/cut.py" 572] }),
  (nat_lit 296, fo (Of.top 29) "_law_so" "_law_so" (.str "law_postbooks_k09_whole_cut_kept" 563) 295),
  (nat_lit 302, { cls := .type "code", data := .fields #[.str "_law_whole" 574, .str "_law_whole" 575, .str "/claim/cut.py" 576, .int 191 0, .int 1 0, .int 0 0, .int 0 0, .int 3 0, .ref 297, .bool true, .int 181 0, .ref 298, .none, .ref 299, .ref 300, .ref 301, .int 578 0, .int 191 0, .str "/claim/cut.py" 579] }),
  (nat_lit 303, fo (Of.top 30) "_law_whole" "_law_whole" (.str "law_postbooks_k09_whole_cut_kept" 563) 302),
  (nat_lit 309, { cls := .type "code", data := .fields #[.str "_law_at" 581, .str "_law_at" 582, .str "/claim/cut.py" 583, .int 193 0, .int 2 0, .int 0 0, .int 0 0, .int 3 0, .ref 304, .bool true, .int 181 0, .ref 305, .none, .ref 306, .ref 307, .ref 308, .int 586 0, .int 193 0, .str "/claim/cut.py" 587] }),
  (nat_lit 310, fo (Of.top 31) "_law_at" "_law_at" (.str "law_postbooks_k09_whole_cut_kept" 563) 309),
  (nat_lit 316, { cls := .type "code", data := .fields #[.str "_law_is_name" 589, .str "_law_is_name" 590, .str "/claim/cut.py" 591, .int 197 0, .int 2 0, .int 0 0, .int 0 0, .int 3 0, .ref 311, .bool true, .int 181 0, .ref 312, .none, .ref 313, .ref 314, .ref 315, .int 594 0, .int 197 0, .str "/claim/cut.py" 595] }),
  (nat_lit 317, fo (Of.top 32) "_law_is_name" "_law_is_name" (.str "law_postbooks_k09_whole_cut_kept" 563) 316),
  (nat_lit 323, { cls := .type "code", data := .fields #[.str "_law_are_events" 597, .str "_law_are_events" 598, .str "/claim/cut.py" 599, .int 203 0, .int 2 0, .int 0 0, .int 0 0, .int 3 0, .ref 318, .bool true, .int 181 0, .ref 319, .none, .ref 320, .ref 321, .ref 322, .int 603 0, .int 203 0, .str "/claim/cut.py" 604] }),
  (nat_lit 324, fo (Of.top 33) "_law_are_events" "_law_are_events" (.str "law_postbooks_k09_whole_cut_kept" 563) 323),
  (nat_lit 330, { cls := .type "code", data := .fields #[.str "_law_is_what" 606, .str "_law_is_what" 607, .str "/claim/cut.py" 608, .int 214 0, .int 3 0, .int 0 0, .int 0 0, .int 3 0, .ref 325, .bool true, .int 181 0, .ref 326, .none, .ref 327, .ref 328, .ref 329, .int 612 0, .int 214 0, .str "/claim/cut.py" 613] }),
  (nat_lit 331, fo (Of.top 34) "_law_is_what" "_law_is_what" (.str "law_postbooks_k09_whole_cut_kept" 563) 330),
  (nat_lit 337, { cls := .type "code", data := .fields #[.str "_law_are_letters" 615, .str "_law_are_letters" 616, .str "/claim/cut.py" 617, .int 224 0, .int 2 0, .int 0 0, .int 0 0, .int 3 0, .ref 332, .bool true, .int 181 0, .ref 333, .none, .ref 334, .ref 335, .ref 336, .int 622 0, .int 224 0, .str "/claim/cut.py" 623] }),
  (nat_lit 338, fo (Of.top 35) "_law_are_letters" "_law_are_letters" (.str "law_postbooks_k09_whole_cut_kept" 563) 337),
  (nat_lit 344, { cls := .type "code", data := .fields #[.str "_law_called" 625, .str "_law_called" 626, .str "/claim/cut.py" 627, .int 238 0, .int 1 0, .int 0 0, .int 0 0, .int 3 0, .ref 339, .bool true, .int 181 0, .ref 340, .none, .ref 341, .ref 342, .ref 343, .int 629 0, .int 238 0, .str "/claim/cut.py" 630] }),
  (nat_lit 345, fo (Of.top 36) "_law_called" "_law_called" (.str "law_postbooks_k09_whole_cut_kept" 563) 344),
  (nat_lit 351, { cls := .type "code", data := .fields #[.str "_law_deed_of" 632, .str "_law_deed_of" 633, .str "/claim/cut.py" 634, .int 240 0, .int 3 0, .int 0 0, .int 0 0, .int 3 0, .ref 346, .bool true, .int 181 0, .ref 347, .none, .ref 348, .ref 349, .ref 350, .int 643 0, .int 240 0, .str "/claim/cut.py" 644] }),
  (nat_lit 352, fo (Of.top 37) "_law_deed_of" "_law_deed_of" (.str "law_postbooks_k09_whole_cut_kept" 563) 351),
  (nat_lit 358, { cls := .type "code", data := .fields #[.str "_law_drawn" 646, .str "_law_drawn" 647, .str "/claim/cut.py" 648, .int 255 0, .int 2 0, .int 0 0, .int 0 0, .int 3 0, .ref 353, .bool true, .int 181 0, .ref 354, .none, .ref 355, .ref 356, .ref 357, .int 653 0, .int 255 0, .str "/claim/cut.py" 654] }),
  (nat_lit 359, fo (Of.top 38) "_law_drawn" "_law_drawn" (.str "law_postbooks_k09_whole_cut_kept" 563) 358),
  (nat_lit 365, { cls := .type "code", data := .fields #[.str "_law_ended" 656, .str "_law_ended" 657, .str "/claim/cut.py" 658, .int 260 0, .int 2 0, .int 0 0, .int 0 0, .int 3 0, .ref 360, .bool true, .int 181 0, .ref 361, .none, .ref 362, .ref 363, .ref 364, .int 664 0, .int 260 0, .str "/claim/cut.py" 665] }),
  (nat_lit 366, fo (Of.top 39) "_law_ended" "_law_ended" (.str "law_postbooks_k09_whole_cut_kept" 563) 365),
  (nat_lit 372, { cls := .type "code", data := .fields #[.str "_law_are_states" 667, .str "_law_are_states" 668, .str "/claim/cut.py" 669, .int 267 0, .int 2 0, .int 0 0, .int 0 0, .int 3 0, .ref 367, .bool true, .int 181 0, .ref 368, .none, .ref 369, .ref 370, .ref 371, .int 674 0, .int 267 0, .str "/claim/cut.py" 675] }),
  (nat_lit 373, fo (Of.top 40) "_law_are_states" "_law_are_states" (.str "law_postbooks_k09_whole_cut_kept" 563) 372),
  (nat_lit 379, { cls := .type "code", data := .fields #[.str "_law_walked_to" 677, .str "_law_walked_to" 678, .str "/claim/cut.py" 679, .int 279 0, .int 5 0, .int 0 0, .int 0 0, .int 3 0, .ref 374, .bool true, .int 181 0, .ref 375, .none, .ref 376, .ref 377, .ref 378, .int 691 0, .int 279 0, .str "/claim/cut.py" 692] }),
  (nat_lit 380, fo (Of.top 41) "_law_walked_to" "_law_walked_to" (.str "law_postbooks_k09_whole_cut_kept" 563) 379),
  (nat_lit 386, { cls := .type "code", data := .fields #[.str "_law_one_cut" 694, .str "_law_one_cut" 695, .str "/claim/cut.py" 696, .int 296 0, .int 5 0, .int 0 0, .int 0 0, .int 3 0, .ref 381, .bool true, .int 181 0, .ref 382, .none, .ref 383, .ref 384, .ref 385, .int 707 0, .int 296 0, .str "/claim/cut.py" 708] }),
  (nat_lit 387, fo (Of.top 42) "_law_one_cut" "_law_one_cut" (.str "law_postbooks_k09_whole_cut_kept" 563) 386),
  (nat_lit 391, { cls := .type "code", data := .fields #[.str "law" 710, .str "law" 711, .str "/claim/cut.py" 712, .int 308 0, .int 1 0, .int 0 0, .int 0 0, .int 3 0, .ref 388, .bool true, .int 181 0, .ref 389, .none, .none, .none, .ref 390, .int 713 0, .int 308 0, .str "/claim/cut.py" 714] }),
  (nat_lit 392, fo (Of.top 43) "law" "law" (.str "law_postbooks_k09_whole_cut_kept" 563) 391)]
abbrev AS : List Addr := [2, 3, 20, 21, 27, 28, 34, 35, 39, 40, 49, 50, 51, 62, 63, 74, 75, 81, 82, 88, 89, 93, 94, 100, 101, 107, 108, 114, 115, 128, 129, 135, 136, 142, 143, 149, 150, 156, 157, 161, 162, 168, 169, 175, 176, 178, 179, 180, 181, 189, 190, 196, 197, 203, 204, 210, 211, 222, 223, 229, 230, 236, 237, 243, 244, 250, 251, 255, 256, 258, 259, 260, 261, 269, 270, 276, 277, 283, 284, 288, 289, 295, 296, 302, 303, 309, 310, 316, 317, 323, 324, 330, 331, 337, 338, 344, 345, 351, 352, 358, 359, 365, 366, 372, 373, 379, 380, 386, 387, 391, 392]
abbrev EV : Env := { scope := PR.main.scope, locals := mainNs, globals := mainNs, cells := [], code := .ref 13, frame := some 14 }
noncomputable def ob0 (P : Params) : Obj := boot_o_0 P
noncomputable def ob1 (P : Params) : Obj := boot_o_1 P
noncomputable def ob2 (P : Params) : Obj := boot_o_2 P
noncomputable def ob3 (P : Params) : Obj := boot_o_3 P
noncomputable def ob4 (P : Params) : Obj := boot_o_4 P
noncomputable def ob5 (P : Params) : Obj := boot_o_5 P
noncomputable def ob6 (P : Params) : Obj := boot_o_6 P
noncomputable def ob7 (P : Params) : Obj := boot_o_7 P
noncomputable def ob8 (P : Params) : Obj := boot_o_8 P
noncomputable def ob9 (P : Params) : Obj := boot_o_9 P
noncomputable def ob10 (P : Params) : Obj := boot_o_10 P
def ob11 (P : Params) : Obj := ({ cls := .type "tuple", data := .seq #[] } : Obj)
def ob12 (P : Params) : Obj := ({ cls := .none, data := .fields #[] } : Obj)
def ob13 (P : Params) : Obj := ({ cls := .type "code", data := .fields #[.str "<module>" 182, .str "<module>" 183, .str "/claim/cut.py" 184, .int 1 0, .int 0 0, .int 0 0, .int 0 0, .int 0 0, .ref 11, .bool false, .int 181 0, .ref 12, .none, .none, .none, .none, .int 185 0, .int 1 0, .str "/claim/cut.py" 186] } : Obj)
def ob14 (P : Params) : Obj := ({ cls := .type "frame", slots := #[some (.ref 13), some (.ref 3), some (.ref 3), none, some (.str "__main__" 164), none, some (.ref 0)] } : Obj)
noncomputable def hA (P : Params) : Heap := { objs := Array.mk [ob0 P, ob1 P, ob2 P, ob3 P, ob4 P, ob5 P, ob6 P, ob7 P, ob8 P, ob9 P, ob10 P, ob11 P, ob12 P, ob13 P, ob14 P] }
noncomputable def tB (P : Params) : BT := .node (ob0 P) (.node (ob1 P) (.node (ob3 P) (.node (ob7 P) (BT.nil) (BT.nil)) (.node (ob11 P) (BT.nil) (BT.nil))) (.node (ob5 P) (.node (ob9 P) (BT.nil) (BT.nil)) (.node (ob13 P) (BT.nil) (BT.nil)))) (.node (ob2 P) (.node (ob4 P) (.node (ob8 P) (BT.nil) (BT.nil)) (.node (ob12 P) (BT.nil) (BT.nil))) (.node (ob6 P) (.node (ob10 P) (BT.nil) (BT.nil)) (.node (ob14 P) (BT.nil) (BT.nil))))
noncomputable abbrev SA (w : World) (os : OsState) : Shared := { heap := hA w.params, toks := 187, os := os }
noncomputable abbrev SB (w : World) (os : OsState) : SharedT := { tree := tB w.params, n := 15, life := { }, gens := Array.mk [], drawn := { }, toks := 187, os := os }
abbrev Q : Program := view PR [1, 2, 3, 4, 6, 7, 8, 10, 11, 12, 13, 14, 15, 17, 18, 19, 20, 21, 23, 24, 25, 26, 27, 29, 30, 31, 32, 33, 34, 35, 36, 37, 38, 39, 40, 41, 42, 43]
noncomputable abbrev XT : Shared → Bool := fun s => xlAt Q [] s && recOk (RowW.records PySem.Challenge.rw_postbooks_k09_whole_cut_kept.row.toRowW) s
abbrev YF (s : Shared) : List (Option Obj) := AS.map s.heap.get?
abbrev YA (w : World) : List (Option Obj) := (KX w.params).map fun p => some p.2
theorem size : ∀ w : World, ((boot_heap w.params).isNs mainGlobals && (Array.mk [] : Array GenState).size == 0, (boot_heap w.params).objs.size, (boot_heap w.params).nsMap mainGlobals "__annotations__") = (true, 11, some (.ref 6)) := fun w => by kernel_rfl
theorem pre : ∀ w : World, (fun os => topGo treeTable PR w 11 (some (.ref 6)) 12 ⟨boot_heap w.params, Array.mk [], boot_drawn, boot_toks, os⟩ (topStub PR)) = fun os => some (SA w os, ⟨denote treeTable (Hd.cB PR EV), Hd.cB PR EV, ⟨0, 0, 0, 0⟩, [topFrame ⟨0, 0, 0, 0⟩]⟩) := fun w => by kernel_rfl
theorem blk : ∀ w : World, (fun os => segRun treeTable PR w 11 (some (.ref 6)) 1 1 (SA w os) (blockOf (behindTheImports PR) EV (Hd.cB PR EV) ⟨0, 0, 0, 0⟩ [topFrame ⟨0, 0, 0, 0⟩])) = fun os => some (.next, (SB w os).abs, Hd.cB PR EV, ⟨0, 0, 0, 0⟩) := fun w => by kernel_rfl
theorem run : ∀ w : World, (fun os => (segRunT treeTable PR w 11 (some (.ref 6)) 1 2518 (SB w os) (piecesOf (behindTheImports PR) EV (Hd.cB PR EV) ⟨0, 0, 0, 0⟩ [topFrame ⟨0, 0, 0, 0⟩])).map fun r => (r.1, r.2.2.1, r.2.2.2, (topRun treeTable PR w 11 (some (.ref 6)) 2 r.2.1.abs ⟨doneF .next, Hd.cB PR EV, ⟨308, 0, 329, 93⟩, [topFrame ⟨0, 0, 0, 0⟩]⟩).map (seenAt PR Q [] XT (fun s => AS.map s.heap.get?) w))) =
      fun os => some (.next, Hd.cB PR EV, ⟨308, 0, 329, 93⟩, some (true, openGood Q [], (KX w.params).map fun p => some p.2)) := by
  intro w
  unfold seenAt openSeen openGood XT Q SB tB ob0 ob1 ob2 ob3 ob4 ob5 ob6 ob7 ob8 ob9 ob10 ob11 ob12 ob13 ob14 EV Hd.cB
  rewrite [PySem.W.Fast.te5923862056798008813, PySem.W.Fast.te5160383126252970620, PySem.W.Fast.te3399658132070893891, PySem.W.Fast.te5991557255702980513, PySem.W.Fast.te10880121769531294198, PySem.W.Fast.te821141287760084731, PySem.W.Fast.te7409074990110511671, PySem.W.Fast.te13664370479719496447, PySem.W.Fast.te14722251495701143533, PySem.W.Fast.te10994771534591457954, PySem.W.Fast.te2368527892694137696, PySem.W.Fast.te479339242167458305, PySem.W.Fast.te16090120013241838585, PySem.W.Fast.te3247288618530077131, PySem.W.Fast.te2386780881361962483, PySem.W.Fast.te11698064438423848299, PySem.W.Fast.te7317090234206586261, PySem.W.Fast.te7369524293546568484, PySem.W.Fast.te14082659384304107361, PySem.W.Fast.te14364793385576792824, PySem.W.Fast.te10110043849684766642]
  kernel_rfl
theorem left : LeftO PySem.Challenge.rw_postbooks_k09_whole_cut_kept.row.prog Q [] XT YF YA 5160 :=
  show LeftO PR Q [] XT YF YA 5160 from
  left_T (boot_open rfl rfl fun _ => rfl) size pre blk run rfl
end Hd

set_option Elab.async false
set_option linter.all false
set_option maxRecDepth 100000
set_option maxHeartbeats 4000000
namespace Of
open PySem L2 L3 L4 L6 L7
theorem excCls_of {K : PySem.W.Frag} {C D : Addr} {cd : ClassData} (q : PySem.W.clsIn K D = some cd) (t : PySem.W.typeIn K (.ref D) = some (.type "type")) (u : PySem.W.subIn K (.ref C) (.ref D) = some true) (b : PySem.W.subIn K (.ref D) (.type "BaseException") = some true) : excCls K C D = true := by
  unfold excCls PySem.W.kitCls
  rw [b]
  simp only [q, t, u, Option.isSome_some, Bool.true_and, beq_self_eq_true, if_true]
theorem len_1 {α : Type} {us : List α} (h : us.length = 1) : ∃ x0, us = [x0] := by
  match us, h with
  | [x0], _ => exact ⟨x0, rfl⟩
theorem len_2 {α : Type} {us : List α} (h : us.length = 2) : ∃ x0 x1, us = [x0, x1] := by
  match us, h with
  | [x0, x1], _ => exact ⟨x0, x1, rfl⟩
theorem len_3 {α : Type} {us : List α} (h : us.length = 3) : ∃ x0 x1 x2, us = [x0, x1, x2] := by
  match us, h with
  | [x0, x1, x2], _ => exact ⟨x0, x1, x2, rfl⟩
theorem len_4 {α : Type} {us : List α} (h : us.length = 4) : ∃ x0 x1 x2 x3, us = [x0, x1, x2, x3] := by
  match us, h with
  | [x0, x1, x2, x3], _ => exact ⟨x0, x1, x2, x3, rfl⟩
theorem len_5 {α : Type} {us : List α} (h : us.length = 5) : ∃ x0 x1 x2 x3 x4, us = [x0, x1, x2, x3, x4] := by
  match us, h with
  | [x0, x1, x2, x3, x4], _ => exact ⟨x0, x1, x2, x3, x4, rfl⟩
theorem all_mk {l : PySem.W.OpenLaw} {w : World} {K : PySem.W.Frag} {h : Heap} {mg : Str → Option Value} {fa C CC CP CE fNm fTh fCo fRe fFi fCf fSn fIn fPy fCu fTk fSd fNw fHd fWr fTb fCi fCd fCa fCs fCc fCb fOo fSi fSs fUw fTa fIe fOw fOl fOe fOk fSo fLW fLA fLI fLE fLH fLL fLC fLO fLD fLX fLs fWt fOc fLw : Addr} (X : K.In h) (G : h.Ns mainGlobals mg) (hfa : mg "law" = some (.ref fa))
    {odNm anNm odTh anTh odCo anCo odRe anRe odFi anFi odCf anCf odSn anSn odIn anIn odPy anPy odCu anCu odTk anTk odSd anSd odNw anNw odHd anHd odWr anWr odTb anTb odCi anCi odCd anCd odCa anCa odCs anCs odCc anCc odCb anCb odOo anOo odSi anSi odSs anSs odUw anUw odTa anTa odIe anIe odOw anOw odOl anOl odOe anOe odOk anOk odSo anSo odLW anLW odLA anLA odLI anLI odLE anLE odLH anLH odLL anLL odLC anLC odLO anLO odLD anLD odLX anLX odLs anLs odWt anWt odOc anOc odLw anLw : Option Addr} {slNm slTh slCo slRe slFi slCf slSn slIn slPy slCu slTk slSd slNw slHd slWr slTb slCi slCd slCa slCs slCc slCb slOo slSi slSs slUw slTa slIe slOw slOl slOe slOk slSo slLW slLA slLI slLE slLH slLL slLC slLO slLD slLX slLs slWt slOc slLw : Array (Option Value)} {ocNm kVNm dcNm pmNm cdNm ctNm ocTh kVTh dcTh pmTh cdTh ctTh ocCo kVCo dcCo pmCo cdCo ctCo ocRe kVRe dcRe pmRe cdRe ctRe ocFi kVFi dcFi pmFi cdFi ctFi ocCf kVCf dcCf pmCf cdCf ctCf ocSn kVSn dcSn pmSn cdSn ctSn ocIn kVIn dcIn pmIn cdIn ctIn ocPy kVPy dcPy pmPy cdPy ctPy ocCu kVCu dcCu pmCu cdCu ctCu ocTk kVTk dcTk pmTk cdTk ctTk ocSd kVSd dcSd pmSd cdSd ctSd ocNw kVNw dcNw pmNw cdNw ctNw ocHd kVHd dcHd pmHd cdHd ctHd ocWr kVWr dcWr pmWr cdWr ctWr ocTb kVTb dcTb pmTb cdTb ctTb ocCi kVCi dcCi pmCi cdCi ctCi ocCd kVCd dcCd pmCd cdCd ctCd ocCa kVCa dcCa pmCa cdCa ctCa ocCs kVCs dcCs pmCs cdCs ctCs ocCc kVCc dcCc pmCc cdCc ctCc ocCb kVCb dcCb pmCb cdCb ctCb ocOo kVOo dcOo pmOo cdOo ctOo ocSi kVSi dcSi pmSi cdSi ctSi ocSs kVSs dcSs pmSs cdSs ctSs ocUw kVUw dcUw pmUw cdUw ctUw ocTa kVTa dcTa pmTa cdTa ctTa ocIe kVIe dcIe pmIe cdIe ctIe ocOw kVOw dcOw pmOw cdOw ctOw ocOl kVOl dcOl pmOl cdOl ctOl ocOe kVOe dcOe pmOe cdOe ctOe ocOk kVOk dcOk pmOk cdOk ctOk ocSo kVSo dcSo pmSo cdSo ctSo ocLW kVLW dcLW pmLW cdLW ctLW ocLA kVLA dcLA pmLA cdLA ctLA ocLI kVLI dcLI pmLI cdLI ctLI ocLE kVLE dcLE pmLE cdLE ctLE ocLH kVLH dcLH pmLH cdLH ctLH ocLL kVLL dcLL pmLL cdLL ctLL ocLC kVLC dcLC pmLC cdLC ctLC ocLO kVLO dcLO pmLO cdLO ctLO ocLD kVLD dcLD pmLD cdLD ctLD ocLX kVLX dcLX pmLX cdLX ctLX ocLs kVLs dcLs pmLs cdLs ctLs ocWt kVWt dcWt pmWt cdWt ctWt ocOc kVOc dcOc pmOc cdOc ctOc ocLw kVLw dcLw pmLw cdLw ctLw : Value}
    (aC : PySem.W.nsIn K mainGlobals "Office" = some (some (.ref C))) (aCC : PySem.W.nsIn K mainGlobals "Course" = some (some (.ref CC)))
    (aNm : PySem.W.nsIn K mainGlobals "name_of" = some (some (.ref fNm))) (lNm : K.lookup fNm = some ⟨ocNm, odNm, .func (PySem.W.fnOf "name_of" "name_of" (defArgs sName) (defBody sName) (defScope sName) .none kVNm dcNm pmNm anNm cdNm ctNm), slNm⟩) (cNm : PySem.W.codeIn K cdNm "name_of" = true) (kNm : PySem.W.keepIn K (.ref fNm) = true)
    (aTh : PySem.W.nsIn K mainGlobals "is_there" = some (some (.ref fTh))) (lTh : K.lookup fTh = some ⟨ocTh, odTh, .func (PySem.W.fnOf "is_there" "is_there" (defArgs sThere) (defBody sThere) (defScope sThere) .none kVTh dcTh pmTh anTh cdTh ctTh), slTh⟩) (cTh : PySem.W.codeIn K cdTh "is_there" = true) (kTh : PySem.W.keepIn K (.ref fTh) = true)
    (aCo : PySem.W.nsIn K mainGlobals "counted" = some (some (.ref fCo))) (lCo : K.lookup fCo = some ⟨ocCo, odCo, .func (PySem.W.fnOf "counted" "counted" (defArgs sCounted) (defBody sCounted) (defScope sCounted) .none kVCo dcCo pmCo anCo cdCo ctCo), slCo⟩) (cCo : PySem.W.codeIn K cdCo "counted" = true) (kCo : PySem.W.keepIn K (.ref fCo) = true)
    (aRe : PySem.W.nsIn K mainGlobals "ready" = some (some (.ref fRe))) (lRe : K.lookup fRe = some ⟨ocRe, odRe, .func (PySem.W.fnOf "ready" "ready" (defArgs sReady) (defBody sReady) (defScope sReady) .none kVRe dcRe pmRe anRe cdRe ctRe), slRe⟩) (cRe : PySem.W.codeIn K cdRe "ready" = true) (kRe : PySem.W.keepIn K (.ref fRe) = true)
    (aFi : PySem.W.nsIn K mainGlobals "first_ready" = some (some (.ref fFi))) (lFi : K.lookup fFi = some ⟨ocFi, odFi, .func (PySem.W.fnOf "first_ready" "first_ready" (defArgs sFirst) (defBody sFirst) (defScope sFirst) .none kVFi dcFi pmFi anFi cdFi ctFi), slFi⟩) (cFi : PySem.W.codeIn K cdFi "first_ready" = true) (kFi : PySem.W.keepIn K (.ref fFi) = true)
    (aCf : PySem.W.nsIn K mainGlobals "coins_for" = some (some (.ref fCf))) (lCf : K.lookup fCf = some ⟨ocCf, odCf, .func (PySem.W.fnOf "coins_for" "coins_for" (defArgs sCoins) (defBody sCoins) (defScope sCoins) .none kVCf dcCf pmCf anCf cdCf ctCf), slCf⟩) (cCf : PySem.W.codeIn K cdCf "coins_for" = true) (kCf : PySem.W.keepIn K (.ref fCf) = true)
    (aSn : PySem.W.nsIn K mainGlobals "sent_or_none" = some (some (.ref fSn))) (lSn : K.lookup fSn = some ⟨ocSn, odSn, .func (PySem.W.fnOf "sent_or_none" "sent_or_none" (defArgs sSentOr) (defBody sSentOr) (defScope sSentOr) .none kVSn dcSn pmSn anSn cdSn ctSn), slSn⟩) (cSn : PySem.W.codeIn K cdSn "sent_or_none" = true) (kSn : PySem.W.keepIn K (.ref fSn) = true)
    (aIn : PySem.W.findIn K (.ref C) "__init__" = some (some (.ref fIn))) (iIn : PySem.W.isFn K (.ref fIn) = true) (lIn : K.lookup fIn = some ⟨ocIn, odIn, .func (PySem.W.fnOf "__init__" "Office.__init__" (defArgs sInit) (defBody sInit) (defScope sInit) .none kVIn dcIn pmIn anIn cdIn ctIn), slIn⟩) (cIn : PySem.W.codeIn K cdIn "Office.__init__" = true) (kIn : PySem.W.keepIn K (.ref fIn) = true)
    (aPy : PySem.W.findIn K (.ref C) "pay" = some (some (.ref fPy))) (iPy : PySem.W.isFn K (.ref fPy) = true) (lPy : K.lookup fPy = some ⟨ocPy, odPy, .func (PySem.W.fnOf "pay" "Office.pay" (defArgs sPay) (defBody sPay) (defScope sPay) .none kVPy dcPy pmPy anPy cdPy ctPy), slPy⟩) (cPy : PySem.W.codeIn K cdPy "Office.pay" = true) (kPy : PySem.W.keepIn K (.ref fPy) = true)
    (aCu : PySem.W.findIn K (.ref C) "cut" = some (some (.ref fCu))) (iCu : PySem.W.isFn K (.ref fCu) = true) (lCu : K.lookup fCu = some ⟨ocCu, odCu, .func (PySem.W.fnOf "cut" "Office.cut" (defArgs sCut) (defBody sCut) (defScope sCut) .none kVCu dcCu pmCu anCu cdCu ctCu), slCu⟩) (cCu : PySem.W.codeIn K cdCu "Office.cut" = true) (kCu : PySem.W.keepIn K (.ref fCu) = true)
    (aTk : PySem.W.findIn K (.ref C) "take" = some (some (.ref fTk))) (iTk : PySem.W.isFn K (.ref fTk) = true) (lTk : K.lookup fTk = some ⟨ocTk, odTk, .func (PySem.W.fnOf "take" "Office.take" (defArgs sTake) (defBody sTake) (defScope sTake) .none kVTk dcTk pmTk anTk cdTk ctTk), slTk⟩) (cTk : PySem.W.codeIn K cdTk "Office.take" = true) (kTk : PySem.W.keepIn K (.ref fTk) = true)
    (aSd : PySem.W.findIn K (.ref C) "send" = some (some (.ref fSd))) (iSd : PySem.W.isFn K (.ref fSd) = true) (lSd : K.lookup fSd = some ⟨ocSd, odSd, .func (PySem.W.fnOf "send" "Office.send" (defArgs sSend) (defBody sSend) (defScope sSend) .none kVSd dcSd pmSd anSd cdSd ctSd), slSd⟩) (cSd : PySem.W.codeIn K cdSd "Office.send" = true) (kSd : PySem.W.keepIn K (.ref fSd) = true)
    (aNw : PySem.W.findIn K (.ref C) "is_new" = some (some (.ref fNw))) (iNw : PySem.W.isFn K (.ref fNw) = true) (lNw : K.lookup fNw = some ⟨ocNw, odNw, .func (PySem.W.fnOf "is_new" "Office.is_new" (defArgs sIsNew) (defBody sIsNew) (defScope sIsNew) .none kVNw dcNw pmNw anNw cdNw ctNw), slNw⟩) (cNw : PySem.W.codeIn K cdNw "Office.is_new" = true) (kNw : PySem.W.keepIn K (.ref fNw) = true)
    (aHd : PySem.W.findIn K (.ref C) "hand_over" = some (some (.ref fHd))) (iHd : PySem.W.isFn K (.ref fHd) = true) (lHd : K.lookup fHd = some ⟨ocHd, odHd, .func (PySem.W.fnOf "hand_over" "Office.hand_over" (defArgs sHand) (defBody sHand) (defScope sHand) .none kVHd dcHd pmHd anHd cdHd ctHd), slHd⟩) (cHd : PySem.W.codeIn K cdHd "Office.hand_over" = true) (kHd : PySem.W.keepIn K (.ref fHd) = true)
    (aWr : PySem.W.findIn K (.ref C) "write_in_book" = some (some (.ref fWr))) (iWr : PySem.W.isFn K (.ref fWr) = true) (lWr : K.lookup fWr = some ⟨ocWr, odWr, .func (PySem.W.fnOf "write_in_book" "Office.write_in_book" (defArgs sWrite) (defBody sWrite) (defScope sWrite) .none kVWr dcWr pmWr anWr cdWr ctWr), slWr⟩) (cWr : PySem.W.codeIn K cdWr "Office.write_in_book" = true) (kWr : PySem.W.keepIn K (.ref fWr) = true)
    (aTb : PySem.W.nsIn K mainGlobals "taken_by" = some (some (.ref fTb))) (lTb : K.lookup fTb = some ⟨ocTb, odTb, .func (PySem.W.fnOf "taken_by" "taken_by" (defArgs sTaken) (defBody sTaken) (defScope sTaken) .none kVTb dcTb pmTb anTb cdTb ctTb), slTb⟩) (cTb : PySem.W.codeIn K cdTb "taken_by" = true) (kTb : PySem.W.keepIn K (.ref fTb) = true)
    (aCi : PySem.W.findIn K (.ref CC) "__init__" = some (some (.ref fCi))) (iCi : PySem.W.isFn K (.ref fCi) = true) (lCi : K.lookup fCi = some ⟨ocCi, odCi, .func (PySem.W.fnOf "__init__" "Course.__init__" (defArgs cInit) (defBody cInit) (defScope cInit) .none kVCi dcCi pmCi anCi cdCi ctCi), slCi⟩) (cCi : PySem.W.codeIn K cdCi "Course.__init__" = true) (kCi : PySem.W.keepIn K (.ref fCi) = true)
    (aCd : PySem.W.findIn K (.ref CC) "do" = some (some (.ref fCd))) (iCd : PySem.W.isFn K (.ref fCd) = true) (lCd : K.lookup fCd = some ⟨ocCd, odCd, .func (PySem.W.fnOf "do" "Course.do" (defArgs cDo) (defBody cDo) (defScope cDo) .none kVCd dcCd pmCd anCd cdCd ctCd), slCd⟩) (cCd : PySem.W.codeIn K cdCd "Course.do" = true) (kCd : PySem.W.keepIn K (.ref fCd) = true)
    (aCa : PySem.W.findIn K (.ref CC) "answer_to" = some (some (.ref fCa))) (iCa : PySem.W.isFn K (.ref fCa) = true) (lCa : K.lookup fCa = some ⟨ocCa, odCa, .func (PySem.W.fnOf "answer_to" "Course.answer_to" (defArgs cAns) (defBody cAns) (defScope cAns) .none kVCa dcCa pmCa anCa cdCa ctCa), slCa⟩) (cCa : PySem.W.codeIn K cdCa "Course.answer_to" = true) (kCa : PySem.W.keepIn K (.ref fCa) = true)
    (aCs : PySem.W.findIn K (.ref CC) "letter_sent" = some (some (.ref fCs))) (iCs : PySem.W.isFn K (.ref fCs) = true) (lCs : K.lookup fCs = some ⟨ocCs, odCs, .func (PySem.W.fnOf "letter_sent" "Course.letter_sent" (defArgs cSent) (defBody cSent) (defScope cSent) .none kVCs dcCs pmCs anCs cdCs ctCs), slCs⟩) (cCs : PySem.W.codeIn K cdCs "Course.letter_sent" = true) (kCs : PySem.W.keepIn K (.ref fCs) = true)
    (aCc : PySem.W.findIn K (.ref CC) "letter_carried" = some (some (.ref fCc))) (iCc : PySem.W.isFn K (.ref fCc) = true) (lCc : K.lookup fCc = some ⟨ocCc, odCc, .func (PySem.W.fnOf "letter_carried" "Course.letter_carried" (defArgs cCarr) (defBody cCarr) (defScope cCarr) .none kVCc dcCc pmCc anCc cdCc ctCc), slCc⟩) (cCc : PySem.W.codeIn K cdCc "Course.letter_carried" = true) (kCc : PySem.W.keepIn K (.ref fCc) = true)
    (aCb : PySem.W.findIn K (.ref CC) "letters_brought" = some (some (.ref fCb))) (iCb : PySem.W.isFn K (.ref fCb) = true) (lCb : K.lookup fCb = some ⟨ocCb, odCb, .func (PySem.W.fnOf "letters_brought" "Course.letters_brought" (defArgs cBring) (defBody cBring) (defScope cBring) .none kVCb dcCb pmCb anCb cdCb ctCb), slCb⟩) (cCb : PySem.W.codeIn K cdCb "Course.letters_brought" = true) (kCb : PySem.W.keepIn K (.ref fCb) = true)
    (aOo : PySem.W.nsIn K mainGlobals "course_of" = some (some (.ref fOo))) (lOo : K.lookup fOo = some ⟨ocOo, odOo, .func (PySem.W.fnOf "course_of" "course_of" (defArgs sCourse) (defBody sCourse) (defScope sCourse) .none kVOo dcOo pmOo anOo cdOo ctOo), slOo⟩) (cOo : PySem.W.codeIn K cdOo "course_of" = true) (kOo : PySem.W.keepIn K (.ref fOo) = true)
    (aSi : PySem.W.nsIn K mainGlobals "state_in" = some (some (.ref fSi))) (lSi : K.lookup fSi = some ⟨ocSi, odSi, .func (PySem.W.fnOf "state_in" "state_in" (defArgs sStateIn) (defBody sStateIn) (defScope sStateIn) .none kVSi dcSi pmSi anSi cdSi ctSi), slSi⟩) (cSi : PySem.W.codeIn K cdSi "state_in" = true) (kSi : PySem.W.keepIn K (.ref fSi) = true)
    (aSs : PySem.W.nsIn K mainGlobals "states" = some (some (.ref fSs))) (lSs : K.lookup fSs = some ⟨ocSs, odSs, .func (PySem.W.fnOf "states" "states" (defArgs sStates) (defBody sStates) (defScope sStates) .none kVSs dcSs pmSs anSs cdSs ctSs), slSs⟩) (cSs : PySem.W.codeIn K cdSs "states" = true) (kSs : PySem.W.keepIn K (.ref fSs) = true)
    (aUw : PySem.W.nsIn K mainGlobals "coins_under_way" = some (some (.ref fUw))) (lUw : K.lookup fUw = some ⟨ocUw, odUw, .func (PySem.W.fnOf "coins_under_way" "coins_under_way" (defArgs sCoinsUnderWay) (defBody sCoinsUnderWay) (defScope sCoinsUnderWay) .none kVUw dcUw pmUw anUw cdUw ctUw), slUw⟩) (cUw : PySem.W.codeIn K cdUw "coins_under_way" = true) (kUw : PySem.W.keepIn K (.ref fUw) = true)
    (aTa : PySem.W.nsIn K mainGlobals "is_there_at" = some (some (.ref fTa))) (lTa : K.lookup fTa = some ⟨ocTa, odTa, .func (PySem.W.fnOf "is_there_at" "is_there_at" (defArgs sIsThereAt) (defBody sIsThereAt) (defScope sIsThereAt) .none kVTa dcTa pmTa anTa cdTa ctTa), slTa⟩) (cTa : PySem.W.codeIn K cdTa "is_there_at" = true) (kTa : PySem.W.keepIn K (.ref fTa) = true)
    (aIe : PySem.W.nsIn K mainGlobals "is_sent" = some (some (.ref fIe))) (lIe : K.lookup fIe = some ⟨ocIe, odIe, .func (PySem.W.fnOf "is_sent" "is_sent" (defArgs sIsSent) (defBody sIsSent) (defScope sIsSent) .none kVIe dcIe pmIe anIe cdIe ctIe), slIe⟩) (cIe : PySem.W.codeIn K cdIe "is_sent" = true) (kIe : PySem.W.keepIn K (.ref fIe) = true)
    (aOw : PySem.W.nsIn K mainGlobals "coins_on_the_way" = some (some (.ref fOw))) (lOw : K.lookup fOw = some ⟨ocOw, odOw, .func (PySem.W.fnOf "coins_on_the_way" "coins_on_the_way" (defArgs sCoinsOnTheWay) (defBody sCoinsOnTheWay) (defScope sCoinsOnTheWay) .none kVOw dcOw pmOw anOw cdOw ctOw), slOw⟩) (cOw : PySem.W.codeIn K cdOw "coins_on_the_way" = true) (kOw : PySem.W.keepIn K (.ref fOw) = true)
    (aOl : PySem.W.nsIn K mainGlobals "letters_of" = some (some (.ref fOl))) (lOl : K.lookup fOl = some ⟨ocOl, odOl, .func (PySem.W.fnOf "letters_of" "letters_of" (defArgs sLettersOf) (defBody sLettersOf) (defScope sLettersOf) .none kVOl dcOl pmOl anOl cdOl ctOl), slOl⟩) (cOl : PySem.W.codeIn K cdOl "letters_of" = true) (kOl : PySem.W.keepIn K (.ref fOl) = true)
    (aOe : PySem.W.nsIn K mainGlobals "events_of" = some (some (.ref fOe))) (lOe : K.lookup fOe = some ⟨ocOe, odOe, .func (PySem.W.fnOf "events_of" "events_of" (defArgs sEventsOf) (defBody sEventsOf) (defScope sEventsOf) .none kVOe dcOe pmOe anOe cdOe ctOe), slOe⟩) (cOe : PySem.W.codeIn K cdOe "events_of" = true) (kOe : PySem.W.keepIn K (.ref fOe) = true)
    (aOk : PySem.W.nsIn K mainGlobals "kept_of" = some (some (.ref fOk))) (lOk : K.lookup fOk = some ⟨ocOk, odOk, .func (PySem.W.fnOf "kept_of" "kept_of" (defArgs sKeptOf) (defBody sKeptOf) (defScope sKeptOf) .none kVOk dcOk pmOk anOk cdOk ctOk), slOk⟩) (cOk : PySem.W.codeIn K cdOk "kept_of" = true) (kOk : PySem.W.keepIn K (.ref fOk) = true)
    (aSo : PySem.W.nsIn K mainGlobals "_law_so" = some (some (.ref fSo))) (lSo : K.lookup fSo = some ⟨ocSo, odSo, .func (PySem.W.fnOf "_law_so" "_law_so" (defArgs sSo) (defBody sSo) (defScope sSo) .none kVSo dcSo pmSo anSo cdSo ctSo), slSo⟩) (cSo : PySem.W.codeIn K cdSo "_law_so" = true) (kSo : PySem.W.keepIn K (.ref fSo) = true)
    (aLW : PySem.W.nsIn K mainGlobals "_law_whole" = some (some (.ref fLW))) (lLW : K.lookup fLW = some ⟨ocLW, odLW, .func (PySem.W.fnOf "_law_whole" "_law_whole" (defArgs sWhole) (defBody sWhole) (defScope sWhole) .none kVLW dcLW pmLW anLW cdLW ctLW), slLW⟩) (cLW : PySem.W.codeIn K cdLW "_law_whole" = true) (kLW : PySem.W.keepIn K (.ref fLW) = true)
    (aLA : PySem.W.nsIn K mainGlobals "_law_at" = some (some (.ref fLA))) (lLA : K.lookup fLA = some ⟨ocLA, odLA, .func (PySem.W.fnOf "_law_at" "_law_at" (defArgs sAt) (defBody sAt) (defScope sAt) .none kVLA dcLA pmLA anLA cdLA ctLA), slLA⟩) (cLA : PySem.W.codeIn K cdLA "_law_at" = true) (kLA : PySem.W.keepIn K (.ref fLA) = true)
    (aLI : PySem.W.nsIn K mainGlobals "_law_is_name" = some (some (.ref fLI))) (lLI : K.lookup fLI = some ⟨ocLI, odLI, .func (PySem.W.fnOf "_law_is_name" "_law_is_name" (defArgs sIsName) (defBody sIsName) (defScope sIsName) .none kVLI dcLI pmLI anLI cdLI ctLI), slLI⟩) (cLI : PySem.W.codeIn K cdLI "_law_is_name" = true) (kLI : PySem.W.keepIn K (.ref fLI) = true)
    (aLE : PySem.W.nsIn K mainGlobals "_law_are_events" = some (some (.ref fLE))) (lLE : K.lookup fLE = some ⟨ocLE, odLE, .func (PySem.W.fnOf "_law_are_events" "_law_are_events" (defArgs sAreEvents) (defBody sAreEvents) (defScope sAreEvents) .none kVLE dcLE pmLE anLE cdLE ctLE), slLE⟩) (cLE : PySem.W.codeIn K cdLE "_law_are_events" = true) (kLE : PySem.W.keepIn K (.ref fLE) = true)
    (aLH : PySem.W.nsIn K mainGlobals "_law_is_what" = some (some (.ref fLH))) (lLH : K.lookup fLH = some ⟨ocLH, odLH, .func (PySem.W.fnOf "_law_is_what" "_law_is_what" (defArgs sIsWhat) (defBody sIsWhat) (defScope sIsWhat) .none kVLH dcLH pmLH anLH cdLH ctLH), slLH⟩) (cLH : PySem.W.codeIn K cdLH "_law_is_what" = true) (kLH : PySem.W.keepIn K (.ref fLH) = true)
    (aLL : PySem.W.nsIn K mainGlobals "_law_are_letters" = some (some (.ref fLL))) (lLL : K.lookup fLL = some ⟨ocLL, odLL, .func (PySem.W.fnOf "_law_are_letters" "_law_are_letters" (defArgs sAreLetters) (defBody sAreLetters) (defScope sAreLetters) .none kVLL dcLL pmLL anLL cdLL ctLL), slLL⟩) (cLL : PySem.W.codeIn K cdLL "_law_are_letters" = true) (kLL : PySem.W.keepIn K (.ref fLL) = true)
    (aLC : PySem.W.nsIn K mainGlobals "_law_called" = some (some (.ref fLC))) (lLC : K.lookup fLC = some ⟨ocLC, odLC, .func (PySem.W.fnOf "_law_called" "_law_called" (defArgs sCalled) (defBody sCalled) (defScope sCalled) .none kVLC dcLC pmLC anLC cdLC ctLC), slLC⟩) (cLC : PySem.W.codeIn K cdLC "_law_called" = true) (kLC : PySem.W.keepIn K (.ref fLC) = true)
    (aLO : PySem.W.nsIn K mainGlobals "_law_deed_of" = some (some (.ref fLO))) (lLO : K.lookup fLO = some ⟨ocLO, odLO, .func (PySem.W.fnOf "_law_deed_of" "_law_deed_of" (defArgs sDeedOf) (defBody sDeedOf) (defScope sDeedOf) .none kVLO dcLO pmLO anLO cdLO ctLO), slLO⟩) (cLO : PySem.W.codeIn K cdLO "_law_deed_of" = true) (kLO : PySem.W.keepIn K (.ref fLO) = true)
    (aLD : PySem.W.nsIn K mainGlobals "_law_drawn" = some (some (.ref fLD))) (lLD : K.lookup fLD = some ⟨ocLD, odLD, .func (PySem.W.fnOf "_law_drawn" "_law_drawn" (defArgs sDrawn) (defBody sDrawn) (defScope sDrawn) .none kVLD dcLD pmLD anLD cdLD ctLD), slLD⟩) (cLD : PySem.W.codeIn K cdLD "_law_drawn" = true) (kLD : PySem.W.keepIn K (.ref fLD) = true)
    (aLX : PySem.W.nsIn K mainGlobals "_law_ended" = some (some (.ref fLX))) (lLX : K.lookup fLX = some ⟨ocLX, odLX, .func (PySem.W.fnOf "_law_ended" "_law_ended" (defArgs sEndedL) (defBody sEndedL) (defScope sEndedL) .none kVLX dcLX pmLX anLX cdLX ctLX), slLX⟩) (cLX : PySem.W.codeIn K cdLX "_law_ended" = true) (kLX : PySem.W.keepIn K (.ref fLX) = true)
    (aLs : PySem.W.nsIn K mainGlobals "_law_are_states" = some (some (.ref fLs))) (lLs : K.lookup fLs = some ⟨ocLs, odLs, .func (PySem.W.fnOf "_law_are_states" "_law_are_states" (defArgs sAreStatesL) (defBody sAreStatesL) (defScope sAreStatesL) .none kVLs dcLs pmLs anLs cdLs ctLs), slLs⟩) (cLs : PySem.W.codeIn K cdLs "_law_are_states" = true) (kLs : PySem.W.keepIn K (.ref fLs) = true)
    (aWt : PySem.W.nsIn K mainGlobals "_law_walked_to" = some (some (.ref fWt))) (lWt : K.lookup fWt = some ⟨ocWt, odWt, .func (PySem.W.fnOf "_law_walked_to" "_law_walked_to" (defArgs sWalkedToL) (defBody sWalkedToL) (defScope sWalkedToL) .none kVWt dcWt pmWt anWt cdWt ctWt), slWt⟩) (cWt : PySem.W.codeIn K cdWt "_law_walked_to" = true) (kWt : PySem.W.keepIn K (.ref fWt) = true)
    (aOc : PySem.W.nsIn K mainGlobals "_law_one_cut" = some (some (.ref fOc))) (lOc : K.lookup fOc = some ⟨ocOc, odOc, .func (PySem.W.fnOf "_law_one_cut" "_law_one_cut" (defArgs sOneCutL) (defBody sOneCutL) (defScope sOneCutL) .none kVOc dcOc pmOc anOc cdOc ctOc), slOc⟩) (cOc : PySem.W.codeIn K cdOc "_law_one_cut" = true) (kOc : PySem.W.keepIn K (.ref fOc) = true)
    (aLw : PySem.W.nsIn K mainGlobals "law" = some (some (.ref fLw))) (lLw : K.lookup fLw = some ⟨ocLw, odLw, .func (PySem.W.fnOf "law" "law" (defArgs sLaw) (defBody sLaw) (defScope sLaw) .none kVLw dcLw pmLw anLw cdLw ctLw), slLw⟩) (cLw : PySem.W.codeIn K cdLw "law" = true) (kLw : PySem.W.keepIn K (.ref fLw) = true)
    (pg : PySem.W.plainGet K C Str.empty = true) (hd : PySem.W.hasDictIn K C = true) (po : PySem.W.plainOver K C = true) (sa : PySem.W.findIn K (.ref C) "__setattr__" = some (some (.builtin "object.__setattr__"))) (mk : PySem.W.makesIn K C = true) (kc : PySem.W.keepIn K (.ref C) = true)
    (jpg : PySem.W.plainGet K CC Str.empty = true) (jhd : PySem.W.hasDictIn K CC = true) (jpo : PySem.W.plainOver K CC = true) (jsa : PySem.W.findIn K (.ref CC) "__setattr__" = some (some (.builtin "object.__setattr__"))) (jmk : PySem.W.makesIn K CC = true) (jkc : PySem.W.keepIn K (.ref CC) = true)
    (nN : PySem.W.findIn K (.ref C) "number" = some none)
    (nC : PySem.W.findIn K (.ref C) "coins" = some none)
    (nK : PySem.W.findIn K (.ref C) "clock" = some none)
    (nB : PySem.W.findIn K (.ref C) "book" = some none)
    (nT : PySem.W.findIn K (.ref C) "tray" = some none)
    (nE : PySem.W.findIn K (.ref C) "kept" = some none)
    (eO : PySem.W.findIn K (.ref CC) "offices" = some none)
    (eL : PySem.W.findIn K (.ref CC) "letters" = some none)
    (eV : PySem.W.findIn K (.ref CC) "events" = some none)
    (eA : PySem.W.findIn K (.ref CC) "answers" = some none)
    (z_len : PySem.W.nsIn K mainGlobals "len" = some none)
    (z_range : PySem.W.nsIn K mainGlobals "range" = some none)
    (z_all : PySem.W.nsIn K mainGlobals "all" = some none)
    (z_isinstance : PySem.W.nsIn K mainGlobals "isinstance" = some none)
    (z_int : PySem.W.nsIn K mainGlobals "int" = some none)
    (z_bool : PySem.W.nsIn K mainGlobals "bool" = some none)
    (z_tuple : PySem.W.nsIn K mainGlobals "tuple" = some none)
    (z_list : PySem.W.nsIn K mainGlobals "list" = some none)
    (z_str : PySem.W.nsIn K mainGlobals "str" = some none)
    (z_dict : PySem.W.nsIn K mainGlobals "dict" = some none)
    (z_sum : PySem.W.nsIn K mainGlobals "sum" = some none)
    (xCP : PySem.W.nsIn K mainGlobals "Poor" = some (some (.ref CP)))
    (xCE : PySem.W.nsIn K mainGlobals "PostError" = some (some (.ref CE)))
    (eP : PySem.W.excIn K CP [.type "ValueError", .type "Exception", .type "BaseException", .type "object"] "ValueError.__new__" = true)
    (qP : (PySem.W.clsIn K CP).isSome = true) (tP : PySem.W.typeIn K (.ref CP) = some (.type "type")) (uP : PySem.W.subIn K (.ref CP) (.ref CP) = some true) (vP : PySem.W.subIn K (.ref CP) (.type "BaseException") = some true)
    (qE : (PySem.W.clsIn K CE).isSome = true) (tE : PySem.W.typeIn K (.ref CE) = some (.type "type")) (uE : PySem.W.subIn K (.ref CP) (.ref CE) = some true) (vE : PySem.W.subIn K (.ref CE) (.type "BaseException") = some true)
    : ∃ fd : FuncData, (∀ (s : Shared) (v : Value), BindsTo s fd ⟨[v], []⟩ [("_law_script", v)]) ∧ ∀ base : Heap, K.In base → base.Ns mainGlobals mg → FnOk l.prog w K mg base CX0 12 fa fd ["_law_script"] (spLaw K) := by
  have e := hfa.symm.trans (PySem.W.mg_of X G aLw)
  cases e
  have T : Txt K mg C fNm fTh fCo fRe fFi fCf := ⟨⟨pg, hd, po, sa⟩, nN, nC, nK, nB, nT, nE, (PySem.W.mg_of X G aC), (PySem.W.mg_of X G aNm), (PySem.W.mg_of X G aTh), (PySem.W.mg_of X G aCo), (PySem.W.mg_of X G aRe), (PySem.W.mg_of X G aFi), (PySem.W.mg_of X G aCf), (PySem.W.mg_none_of X G z_len), (PySem.W.mg_none_of X G z_range), (PySem.W.mg_none_of X G z_all)⟩
  have CT : CTx K mg CC := ⟨⟨jpg, jhd, jpo, jsa⟩, eO, eL, eV, eA, (PySem.W.mg_of X G aCC)⟩
  have B : Bts mg := ⟨(PySem.W.mg_none_of X G z_len), (PySem.W.mg_none_of X G z_range), (PySem.W.mg_none_of X G z_isinstance), (PySem.W.mg_none_of X G z_int), (PySem.W.mg_none_of X G z_bool), (PySem.W.mg_none_of X G z_tuple), (PySem.W.mg_none_of X G z_list), (PySem.W.mg_none_of X G z_str), (PySem.W.mg_none_of X G z_dict)⟩
  have S : Sxt mg fSo := ⟨(PySem.W.mg_of X G aSo), (PySem.W.mg_none_of X G z_isinstance), (PySem.W.mg_none_of X G z_bool), (PySem.W.mg_none_of X G z_int), (PySem.W.mg_none_of X G z_str), (PySem.W.mg_none_of X G z_dict), (PySem.W.mg_none_of X G z_tuple), (PySem.W.mg_none_of X G z_list), (PySem.W.mg_none_of X G z_len), (PySem.W.mg_none_of X G z_range)⟩
  obtain ⟨cdP, qP⟩ := Option.isSome_iff_exists.mp qP
  obtain ⟨cdE, qE⟩ := Option.isSome_iff_exists.mp qE
  have Z : Exs K mg CP CE := ⟨(PySem.W.mg_of X G xCP), (PySem.W.mg_of X G xCE), ⟨eP⟩, excCls_of qP tP uP vP, excCls_of qE tE uE vE⟩
  have FNm := fun_mk (st := sName) lNm cNm kNm
  have FTh := fun_mk (st := sThere) lTh cTh kTh
  have FCo := fun_mk (st := sCounted) lCo cCo kCo
  have FRe := fun_mk (st := sReady) lRe cRe kRe
  have FFi := fun_mk (st := sFirst) lFi cFi kFi
  have FCf := fun_mk (st := sCoins) lCf cCf kCf
  have FSn := fun_mk (st := sSentOr) lSn cSn kSn
  have FIn := fun_mk (st := sInit) lIn cIn kIn
  have FPy := fun_mk (st := sPay) lPy cPy kPy
  have FCu := fun_mk (st := sCut) lCu cCu kCu
  have FTk := fun_mk (st := sTake) lTk cTk kTk
  have FSd := fun_mk (st := sSend) lSd cSd kSd
  have FNw := fun_mk (st := sIsNew) lNw cNw kNw
  have FHd := fun_mk (st := sHand) lHd cHd kHd
  have FWr := fun_mk (st := sWrite) lWr cWr kWr
  have FTb := fun_mk (st := sTaken) lTb cTb kTb
  have FCi := fun_mk (st := cInit) lCi cCi kCi
  have FCd := fun_mk (st := cDo) lCd cCd kCd
  have FCa := fun_mk (st := cAns) lCa cCa kCa
  have FCs := fun_mk (st := cSent) lCs cCs kCs
  have FCc := fun_mk (st := cCarr) lCc cCc kCc
  have FCb := fun_mk (st := cBring) lCb cCb kCb
  have FOo := fun_mk (st := sCourse) lOo cOo kOo
  have FSi := fun_mk (st := sStateIn) lSi cSi kSi
  have FSs := fun_mk (st := sStates) lSs cSs kSs
  have FUw := fun_mk (st := sCoinsUnderWay) lUw cUw kUw
  have FTa := fun_mk (st := sIsThereAt) lTa cTa kTa
  have FIe := fun_mk (st := sIsSent) lIe cIe kIe
  have FOw := fun_mk (st := sCoinsOnTheWay) lOw cOw kOw
  have FOl := fun_mk (st := sLettersOf) lOl cOl kOl
  have FOe := fun_mk (st := sEventsOf) lOe cOe kOe
  have FOk := fun_mk (st := sKeptOf) lOk cOk kOk
  have FSo := fun_mk (st := sSo) lSo cSo kSo
  have FLW := fun_mk (st := sWhole) lLW cLW kLW
  have FLA := fun_mk (st := sAt) lLA cLA kLA
  have FLI := fun_mk (st := sIsName) lLI cLI kLI
  have FLE := fun_mk (st := sAreEvents) lLE cLE kLE
  have FLH := fun_mk (st := sIsWhat) lLH cLH kLH
  have FLL := fun_mk (st := sAreLetters) lLL cLL kLL
  have FLC := fun_mk (st := sCalled) lLC cLC kLC
  have FLO := fun_mk (st := sDeedOf) lLO cLO kLO
  have FLD := fun_mk (st := sDrawn) lLD cLD kLD
  have FLX := fun_mk (st := sEndedL) lLX cLX kLX
  have FLs := fun_mk (st := sAreStatesL) lLs cLs kLs
  have FWt := fun_mk (st := sWalkedToL) lWt cWt kWt
  have FOc := fun_mk (st := sOneCutL) lOc cOc kOc
  have FLw := fun_mk (st := sLaw) lLw cLw kLw
  have bNm := FNm.binds (ps := ["letter"]) fun _ _ _ _ _ _ us hl => by obtain ⟨_, rfl⟩ := len_1 hl; rfl
  have bTh := FTh.binds (ps := ["name", "clock"]) fun _ _ _ _ _ _ us hl => by obtain ⟨_, _, rfl⟩ := len_2 hl; rfl
  have bCo := FCo.binds (ps := ["clock", "sender"]) fun _ _ _ _ _ _ us hl => by obtain ⟨_, _, rfl⟩ := len_2 hl; rfl
  have bRe := FRe.binds (ps := ["letter", "clock"]) fun _ _ _ _ _ _ us hl => by obtain ⟨_, _, rfl⟩ := len_2 hl; rfl
  have bFi := FFi.binds (ps := ["tray", "clock"]) fun _ _ _ _ _ _ us hl => by obtain ⟨_, _, rfl⟩ := len_2 hl; rfl
  have bCf := FCf.binds (ps := ["number", "what"]) fun _ _ _ _ _ _ us hl => by obtain ⟨_, _, rfl⟩ := len_2 hl; rfl
  have bSn := FSn.binds (ps := ["office", "what"]) fun _ _ _ _ _ _ us hl => by obtain ⟨_, _, rfl⟩ := len_2 hl; rfl
  have bIn := FIn.binds (ps := ["self", "number", "count", "coins"]) fun _ _ _ _ _ _ us hl => by obtain ⟨_, _, _, _, rfl⟩ := len_4 hl; rfl
  have bPy := FPy.binds (ps := ["self", "to", "many"]) fun _ _ _ _ _ _ us hl => by obtain ⟨_, _, _, rfl⟩ := len_3 hl; rfl
  have bCu := FCu.binds (ps := ["self"]) fun _ _ _ _ _ _ us hl => by obtain ⟨_, rfl⟩ := len_1 hl; rfl
  have bTk := FTk.binds (ps := ["self", "letter"]) fun _ _ _ _ _ _ us hl => by obtain ⟨_, _, rfl⟩ := len_2 hl; rfl
  have bSd := FSd.binds (ps := ["self", "what"]) fun _ _ _ _ _ _ us hl => by obtain ⟨_, _, rfl⟩ := len_2 hl; rfl
  have bNw := FNw.binds (ps := ["self", "letter"]) fun _ _ _ _ _ _ us hl => by obtain ⟨_, _, rfl⟩ := len_2 hl; rfl
  have bHd := FHd.binds (ps := ["self", "place"]) fun _ _ _ _ _ _ us hl => by obtain ⟨_, _, rfl⟩ := len_2 hl; rfl
  have bWr := FWr.binds (ps := ["self", "how", "letter"]) fun _ _ _ _ _ _ us hl => by obtain ⟨_, _, _, rfl⟩ := len_3 hl; rfl
  have bTb := FTb.binds (ps := ["office", "letters"]) fun _ _ _ _ _ _ us hl => by obtain ⟨_, _, rfl⟩ := len_2 hl; rfl
  have bCi := FCi.binds (ps := ["self", "count", "coins"]) fun _ _ _ _ _ _ us hl => by obtain ⟨_, _, _, rfl⟩ := len_3 hl; rfl
  have bCd := FCd.binds (ps := ["self", "deed"]) fun _ _ _ _ _ _ us hl => by obtain ⟨_, _, rfl⟩ := len_2 hl; rfl
  have bCa := FCa.binds (ps := ["self", "deed"]) fun _ _ _ _ _ _ us hl => by obtain ⟨_, _, rfl⟩ := len_2 hl; rfl
  have bCs := FCs.binds (ps := ["self", "who", "what"]) fun _ _ _ _ _ _ us hl => by obtain ⟨_, _, _, rfl⟩ := len_3 hl; rfl
  have bCc := FCc.binds (ps := ["self", "which", "to"]) fun _ _ _ _ _ _ us hl => by obtain ⟨_, _, _, rfl⟩ := len_3 hl; rfl
  have bCb := FCb.binds (ps := ["self", "to", "letters"]) fun _ _ _ _ _ _ us hl => by obtain ⟨_, _, _, rfl⟩ := len_3 hl; rfl
  have bOo := FOo.binds (ps := ["count", "coins", "deeds"]) fun _ _ _ _ _ _ us hl => by obtain ⟨_, _, _, rfl⟩ := len_3 hl; rfl
  have bSi := FSi.binds (ps := ["kept", "name"]) fun _ _ _ _ _ _ us hl => by obtain ⟨_, _, rfl⟩ := len_2 hl; rfl
  have bSs := FSs.binds (ps := ["all_kept", "name"]) fun _ _ _ _ _ _ us hl => by obtain ⟨_, _, rfl⟩ := len_2 hl; rfl
  have bUw := FUw.binds (ps := ["letters", "cut"]) fun _ _ _ _ _ _ us hl => by obtain ⟨_, _, rfl⟩ := len_2 hl; rfl
  have bTa := FTa.binds (ps := ["letter", "cut", "office"]) fun _ _ _ _ _ _ us hl => by obtain ⟨_, _, _, rfl⟩ := len_3 hl; rfl
  have bIe := FIe.binds (ps := ["letter", "cut"]) fun _ _ _ _ _ _ us hl => by obtain ⟨_, _, rfl⟩ := len_2 hl; rfl
  have bOw := FOw.binds (ps := ["letter", "cut"]) fun _ _ _ _ _ _ us hl => by obtain ⟨_, _, rfl⟩ := len_2 hl; rfl
  have bOl := FOl.binds (ps := ["count", "coins", "deeds"]) fun _ _ _ _ _ _ us hl => by obtain ⟨_, _, _, rfl⟩ := len_3 hl; rfl
  have bOe := FOe.binds (ps := ["count", "coins", "deeds"]) fun _ _ _ _ _ _ us hl => by obtain ⟨_, _, _, rfl⟩ := len_3 hl; rfl
  have bOk := FOk.binds (ps := ["count", "coins", "deeds"]) fun _ _ _ _ _ _ us hl => by obtain ⟨_, _, _, rfl⟩ := len_3 hl; rfl
  have bSo := FSo.binds (ps := ["_law_found", "_law_meant"]) fun _ _ _ _ _ _ us hl => by obtain ⟨_, _, rfl⟩ := len_2 hl; rfl
  have bLW := FLW.binds (ps := ["_law_found"]) fun _ _ _ _ _ _ us hl => by obtain ⟨_, rfl⟩ := len_1 hl; rfl
  have bLA := FLA.binds (ps := ["_law_script", "_law_k"]) fun _ _ _ _ _ _ us hl => by obtain ⟨_, _, rfl⟩ := len_2 hl; rfl
  have bLI := FLI.binds (ps := ["_law_found", "_law_count"]) fun _ _ _ _ _ _ us hl => by obtain ⟨_, _, rfl⟩ := len_2 hl; rfl
  have bLE := FLE.binds (ps := ["_law_found", "_law_count"]) fun _ _ _ _ _ _ us hl => by obtain ⟨_, _, rfl⟩ := len_2 hl; rfl
  have bLH := FLH.binds (ps := ["_law_what", "_law_sender", "_law_count"]) fun _ _ _ _ _ _ us hl => by obtain ⟨_, _, _, rfl⟩ := len_3 hl; rfl
  have bLL := FLL.binds (ps := ["_law_found", "_law_count"]) fun _ _ _ _ _ _ us hl => by obtain ⟨_, _, rfl⟩ := len_2 hl; rfl
  have bLC := FLC.binds (ps := ["_law_letter"]) fun _ _ _ _ _ _ us hl => by obtain ⟨_, rfl⟩ := len_1 hl; rfl
  have bLO := FLO.binds (ps := ["_law_cell", "_law_k", "_law_count"]) fun _ _ _ _ _ _ us hl => by obtain ⟨_, _, _, rfl⟩ := len_3 hl; rfl
  have bLD := FLD.binds (ps := ["_law_cells", "_law_count"]) fun _ _ _ _ _ _ us hl => by obtain ⟨_, _, rfl⟩ := len_2 hl; rfl
  have bLX := FLX.binds (ps := ["_law_script", "_law_count"]) fun _ _ _ _ _ _ us hl => by obtain ⟨_, _, rfl⟩ := len_2 hl; rfl
  have bLs := FLs.binds (ps := ["_law_found", "_law_count"]) fun _ _ _ _ _ _ us hl => by obtain ⟨_, _, rfl⟩ := len_2 hl; rfl
  have bWt := FWt.binds (ps := ["_law_events", "_law_letters", "_law_own", "_law_name", "_law_coins"]) fun _ _ _ _ _ _ us hl => by obtain ⟨_, _, _, _, _, rfl⟩ := len_5 hl; rfl
  have bOc := FOc.binds (ps := ["_law_events", "_law_letters", "_law_found", "_law_name", "_law_coins"]) fun _ _ _ _ _ _ us hl => by obtain ⟨_, _, _, _, _, rfl⟩ := len_5 hl; rfl
  have mPy : Meth K C "pay" fPy := ⟨aPy, iPy, kPy⟩
  have mCu : Meth K C "cut" fCu := ⟨aCu, iCu, kCu⟩
  have mTk : Meth K C "take" fTk := ⟨aTk, iTk, kTk⟩
  have mSd : Meth K C "send" fSd := ⟨aSd, iSd, kSd⟩
  have mNw : Meth K C "is_new" fNw := ⟨aNw, iNw, kNw⟩
  have mHd : Meth K C "hand_over" fHd := ⟨aHd, iHd, kHd⟩
  have mWr : Meth K C "write_in_book" fWr := ⟨aWr, iWr, kWr⟩
  have mCd : Meth K CC "do" fCd := ⟨aCd, iCd, kCd⟩
  have mCa : Meth K CC "answer_to" fCa := ⟨aCa, iCa, kCa⟩
  have mCs : Meth K CC "letter_sent" fCs := ⟨aCs, iCs, kCs⟩
  have mCc : Meth K CC "letter_carried" fCc := ⟨aCc, iCc, kCc⟩
  have mCb : Meth K CC "letters_brought" fCb := ⟨aCb, iCb, kCb⟩
  have mNm := PySem.W.mg_of X G aNm
  have mTh := PySem.W.mg_of X G aTh
  have mCo := PySem.W.mg_of X G aCo
  have mRe := PySem.W.mg_of X G aRe
  have mFi := PySem.W.mg_of X G aFi
  have mCf := PySem.W.mg_of X G aCf
  have mSn := PySem.W.mg_of X G aSn
  have mTb := PySem.W.mg_of X G aTb
  have mOo := PySem.W.mg_of X G aOo
  have mSi := PySem.W.mg_of X G aSi
  have mSs := PySem.W.mg_of X G aSs
  have mUw := PySem.W.mg_of X G aUw
  have mTa := PySem.W.mg_of X G aTa
  have mIe := PySem.W.mg_of X G aIe
  have mOw := PySem.W.mg_of X G aOw
  have mOl := PySem.W.mg_of X G aOl
  have mOe := PySem.W.mg_of X G aOe
  have mOk := PySem.W.mg_of X G aOk
  have mSo := PySem.W.mg_of X G aSo
  have mLW := PySem.W.mg_of X G aLW
  have mLA := PySem.W.mg_of X G aLA
  have mLI := PySem.W.mg_of X G aLI
  have mLE := PySem.W.mg_of X G aLE
  have mLH := PySem.W.mg_of X G aLH
  have mLL := PySem.W.mg_of X G aLL
  have mLC := PySem.W.mg_of X G aLC
  have mLO := PySem.W.mg_of X G aLO
  have mLD := PySem.W.mg_of X G aLD
  have mLX := PySem.W.mg_of X G aLX
  have mLs := PySem.W.mg_of X G aLs
  have mWt := PySem.W.mg_of X G aWt
  have mOc := PySem.W.mg_of X G aOc
  have mLw := PySem.W.mg_of X G aLw
  refine ⟨PySem.W.fnOf "law" "law" (defArgs sLaw) (defBody sLaw) (defScope sLaw) .none kVLw dcLw pmLw anLw cdLw ctLw, fun s v => .of_eq rfl, fun base _ _ => ?_⟩
  have GT := ok_take (P := l.prog) (w := w) (base := base) FTk T bNw mNw (ok_isnew FNw T FNm bNm FTh bTh) bHd mHd (ok_hand FHd T FNm bNm FCo bCo FCf bCf FWr bWr mWr) FFi bFi (ok_first FFi T FRe bRe)
  have GSd := ok_send (P := l.prog) (w := w) (base := base) FSd T FNm bNm FCo bCo FWr bWr mWr
  have GCu := ok_cut (P := l.prog) (w := w) (base := base) FCu T bSd mSd GSd
  have GPy := ok_pay (P := l.prog) (w := w) (base := base) FPy T Z bSd mSd GSd
  have GSn := ok_sentor (P := l.prog) (w := w) (base := base) FSn T Z bCu mCu GCu bPy mPy GPy
  have GTb := ok_taken (P := l.prog) (w := w) (base := base) FTb T bTk mTk GT
  have GCs := ok_csent (P := l.prog) (w := w) (base := base) FCs T CT mSn FSn bSn GSn FNm bNm
  have GCb := ok_cbring (P := l.prog) (w := w) (base := base) FCb CT mTb FTb bTb GTb
  have GCc := ok_ccarry (P := l.prog) (w := w) (base := base) FCc CT (PySem.W.mg_none_of X G z_len) bCb mCb GCb
  have GCa := ok_cans (P := l.prog) (w := w) (base := base) FCa CT bCb mCb GCb bCs mCs GCs bCc mCc GCc
  have GCd := ok_cdo (P := l.prog) (w := w) (base := base) FCd CT bCa mCa GCa
  have GCi := ok_cinit (P := l.prog) (w := w) (base := base) FCi T CT ⟨mk, aIn, iIn, kc⟩ bIn (ok_init FIn T)
  have GOo := ok_course (P := l.prog) (w := w) (base := base) FOo CT ⟨jmk, aCi, iCi, jkc⟩ bCi GCi bCd mCd GCd
  have GLE := ok_areevents (P := l.prog) (w := w) (base := base) FLE B mLW FLW bLW mLI FLI bLI
  have GLL := ok_areletters (P := l.prog) (w := w) (base := base) FLL B mLW FLW bLW mLH FLH bLH
  have GLD := ok_drawn (P := l.prog) (w := w) (base := base) FLD B mLO FLO bLO
  have GLX := ok_ended (P := l.prog) (w := w) (base := base) FLX B mLA FLA bLA mLD FLD bLD GLD
  have GSo := ok_so (P := l.prog) (w := w) (base := base) FSo S bSo 4
  have GWt := ok_walked_to (P := l.prog) (w := w) (base := base) FWt B mLC FLC bLC
  have GUw := ok_under (P := l.prog) (w := w) (base := base) FUw mNm FNm bNm mTh FTh bTh mTa FTa bTa mIe FIe bIe mOw FOw bOw (PySem.W.mg_none_of X G z_sum)
  have GOc := ok_one_cut (P := l.prog) (w := w) (base := base) FOc B mSo FSo bSo GSo mWt FWt bWt GWt mUw FUw bUw GUw mLW FLW bLW
  exact ok_law FLw B mLA FLA bLA mLX FLX bLX GLX mLL FLL bLL GLL mLE FLE bLE GLE mLC FLC bLC mOl FOl bOl (ok_letters_of FOl CT mOo FOo bOo GOo) mOe FOe bOe (ok_events_of FOe CT mOo FOo bOo GOo) mOk FOk bOk (ok_kept_of FOk T CT mOo FOo bOo GOo) mSs FSs bSs (ok_states FSs mSi FSi bSi) mLs FLs bLs (ok_are_states FLs B mLW FLW bLW) mOc FOc bOc GOc
theorem walk {l : PySem.W.OpenLaw} {q : Program} {loose : List Str} {XP : (Str → Option Value) → Heap → Prop} {YP : World → Heap → Prop} {d : DefRec} {K : Params → PySem.W.Frag} (hn : l.most = some 63) (hdf : d.params.defaults = [])
    (hY : ∀ (w : World) (h : Heap), YP w h → (K w.params).In h)
    (F : ∀ (w : World) (mg : Str → Option Value) (fa : Addr) (h : Heap), (K w.params).In h → h.Ns mainGlobals mg → mg d.name = some (.ref fa) →
      ∃ fd : FuncData, (∀ (s : Shared) (u : Value), BindsTo s fd ⟨[u], []⟩ [("_law_script", u)]) ∧ ∀ base : Heap, (K w.params).In base → base.Ns mainGlobals mg → FnOk l.prog w (K w.params) mg base CX0 12 fa fd ["_law_script"] (spLaw (K w.params))) :
    PySem.W.WalkO q loose XP YP l.row.toRowW d [] (fun f vs => PySem.call f vs) :=
  L2.walk_of (n := 63) (k := 12) (x := "_law_script") (CX := fun _ => CX0) (sp := fun w => spLaw (K w.params)) hn (by decide) hdf ⟨rfl, by decide, by decide⟩ hY F (fun _ _ a ns hl _ hS => ⟨a, ns, rfl, hS, hl, fun _ => rfl⟩) fun _ _ _ _ _ z => z
end Of
open PySem PySem.W PyProof.Rows
set_option maxRecDepth 100000 in
set_option maxHeartbeats 0 in
theorem PySem.Challenge.cw_postbooks_k09_whole_cut_kept_holds : PySem.Challenge.rw_postbooks_k09_whole_cut_kept.Holds := by
  w_on; o_law
  refine PySem.W.holds_open (q := Hd.Q) (loose := []) (Xt := Hd.XT) (XP := XL Hd.Q []) (Yf := Hd.YF) (Ya := Hd.YA) (YP := InK Hd.KX) (N := 5160) Hd.left (InK.of fun _ => by kernel_rfl) InK.keeps (fun s e => xl_of s (Bool.and_eq_true_iff.mp e).1) XL.keeps (by rfl) (by rfl) (by rfl) (fun s e => recFacts_of (Bool.and_eq_true_iff.mp e).2) (by rfl) (by first | assumption | decide +kernel) (by decide +kernel) ⟨rfl, rfl, rfl, rfl, rfl, by decide +kernel⟩ ?hw ?hc
  case hw => w_witness2
  k_fill
  refine Of.walk (l := PySem.Challenge.rw_postbooks_k09_whole_cut_kept) (K := Hd.KX) rfl rfl (fun w h Y => Y) ?F
  case F =>
    intro w mg fa h KX G hmg
    refine' Of.all_mk (C := 179) (CC := 259) (CP := 63) (CE := 50) (fNm := 21) (fTh := 28) (fCo := 35) (fRe := 40) (fFi := 190) (fCf := 197) (fSn := 204) (fIn := 129) (fPy := 136) (fCu := 143) (fTk := 150) (fSd := 157) (fNw := 162) (fHd := 169) (fWr := 176) (fTb := 211) (fCi := 223) (fCd := 230) (fCa := 237) (fCs := 244) (fCc := 251) (fCb := 256) (fOo := 270) (fSi := 89) (fSs := 82) (fUw := 94) (fTa := 101) (fIe := 108) (fOw := 115) (fOl := 277) (fOe := 284) (fOk := 289) (fSo := 296) (fLW := 303) (fLA := 310) (fLI := 317) (fLE := 324) (fLH := 331) (fLL := 338) (fLC := 345) (fLO := 352) (fLD := 359) (fLX := 366) (fLs := 373) (fWt := 380) (fOc := 387) (fLw := 392) KX G hmg ?aC ?aCC ?aNm ?lNm ?cNm ?kNm ?aTh ?lTh ?cTh ?kTh ?aCo ?lCo ?cCo ?kCo ?aRe ?lRe ?cRe ?kRe ?aFi ?lFi ?cFi ?kFi ?aCf ?lCf ?cCf ?kCf ?aSn ?lSn ?cSn ?kSn ?aIn ?iIn ?lIn ?cIn ?kIn ?aPy ?iPy ?lPy ?cPy ?kPy ?aCu ?iCu ?lCu ?cCu ?kCu ?aTk ?iTk ?lTk ?cTk ?kTk ?aSd ?iSd ?lSd ?cSd ?kSd ?aNw ?iNw ?lNw ?cNw ?kNw ?aHd ?iHd ?lHd ?cHd ?kHd ?aWr ?iWr ?lWr ?cWr ?kWr ?aTb ?lTb ?cTb ?kTb ?aCi ?iCi ?lCi ?cCi ?kCi ?aCd ?iCd ?lCd ?cCd ?kCd ?aCa ?iCa ?lCa ?cCa ?kCa ?aCs ?iCs ?lCs ?cCs ?kCs ?aCc ?iCc ?lCc ?cCc ?kCc ?aCb ?iCb ?lCb ?cCb ?kCb ?aOo ?lOo ?cOo ?kOo ?aSi ?lSi ?cSi ?kSi ?aSs ?lSs ?cSs ?kSs ?aUw ?lUw ?cUw ?kUw ?aTa ?lTa ?cTa ?kTa ?aIe ?lIe ?cIe ?kIe ?aOw ?lOw ?cOw ?kOw ?aOl ?lOl ?cOl ?kOl ?aOe ?lOe ?cOe ?kOe ?aOk ?lOk ?cOk ?kOk ?aSo ?lSo ?cSo ?kSo ?aLW ?lLW ?cLW ?kLW ?aLA ?lLA ?cLA ?kLA ?aLI ?lLI ?cLI ?kLI ?aLE ?lLE ?cLE ?kLE ?aLH ?lLH ?cLH ?kLH ?aLL ?lLL ?cLL ?kLL ?aLC ?lLC ?cLC ?kLC ?aLO ?lLO ?cLO ?kLO ?aLD ?lLD ?cLD ?kLD ?aLX ?lLX ?cLX ?kLX ?aLs ?lLs ?cLs ?kLs ?aWt ?lWt ?cWt ?kWt ?aOc ?lOc ?cOc ?kOc ?aLw ?lLw ?cLw ?kLw ?pg ?hd ?po ?sa ?mk ?kc ?jpg ?jhd ?jpo ?jsa ?jmk ?jkc ?nN ?nC ?nK ?nB ?nT ?nE ?eO ?eL ?eV ?eA ?z_len ?z_range ?z_all ?z_isinstance ?z_int ?z_bool ?z_tuple ?z_list ?z_str ?z_dict ?z_sum ?xCP ?xCE ?eP ?qP ?tP ?uP ?vP ?qE ?tE ?uE ?vE
    (case aC => kernel_rfl)
    (case aCC => kernel_rfl)
    (case aNm => kernel_rfl)
    (case lNm => exact (show List.lookup 21 (Hd.KX w.params) = some (Hd.fo Of.sName "name_of" "name_of" (.str "postbooks.clocks" 187) 20) by kernel_rfl))
    (case cNm => kernel_rfl)
    (case kNm => kernel_rfl)
    (case aTh => kernel_rfl)
    (case lTh => exact (show List.lookup 28 (Hd.KX w.params) = some (Hd.fo Of.sThere "is_there" "is_there" (.str "postbooks.clocks" 187) 27) by kernel_rfl))
    (case cTh => kernel_rfl)
    (case kTh => kernel_rfl)
    (case aCo => kernel_rfl)
    (case lCo => exact (show List.lookup 35 (Hd.KX w.params) = some (Hd.fo Of.sCounted "counted" "counted" (.str "postbooks.clocks" 187) 34) by kernel_rfl))
    (case cCo => kernel_rfl)
    (case kCo => kernel_rfl)
    (case aRe => kernel_rfl)
    (case lRe => exact (show List.lookup 40 (Hd.KX w.params) = some (Hd.fo Of.sReady "ready" "ready" (.str "postbooks.clocks" 187) 39) by kernel_rfl))
    (case cRe => kernel_rfl)
    (case kRe => kernel_rfl)
    (case aFi => kernel_rfl)
    (case lFi => exact (show List.lookup 190 (Hd.KX w.params) = some (Hd.fo Of.sFirst "first_ready" "first_ready" (.str "postbooks.office" 321) 189) by kernel_rfl))
    (case cFi => kernel_rfl)
    (case kFi => kernel_rfl)
    (case aCf => kernel_rfl)
    (case lCf => exact (show List.lookup 197 (Hd.KX w.params) = some (Hd.fo Of.sCoins "coins_for" "coins_for" (.str "postbooks.office" 321) 196) by kernel_rfl))
    (case cCf => kernel_rfl)
    (case kCf => kernel_rfl)
    (case aSn => kernel_rfl)
    (case lSn => exact (show List.lookup 204 (Hd.KX w.params) = some (Hd.fo Of.sSentOr "sent_or_none" "sent_or_none" (.str "postbooks.office" 321) 203) by kernel_rfl))
    (case cSn => kernel_rfl)
    (case kSn => kernel_rfl)
    (case aIn => kernel_rfl)
    (case iIn => kernel_rfl)
    (case lIn => exact (show List.lookup 129 (Hd.KX w.params) = some (Hd.fo Of.sInit "__init__" "Office.__init__" (.str "postbooks.office" 321) 128) by kernel_rfl))
    (case cIn => kernel_rfl)
    (case kIn => kernel_rfl)
    (case aPy => kernel_rfl)
    (case iPy => kernel_rfl)
    (case lPy => exact (show List.lookup 136 (Hd.KX w.params) = some (Hd.fo Of.sPay "pay" "Office.pay" (.str "postbooks.office" 321) 135) by kernel_rfl))
    (case cPy => kernel_rfl)
    (case kPy => kernel_rfl)
    (case aCu => kernel_rfl)
    (case iCu => kernel_rfl)
    (case lCu => exact (show List.lookup 143 (Hd.KX w.params) = some (Hd.fo Of.sCut "cut" "Office.cut" (.str "postbooks.office" 321) 142) by kernel_rfl))
    (case cCu => kernel_rfl)
    (case kCu => kernel_rfl)
    (case aTk => kernel_rfl)
    (case iTk => kernel_rfl)
    (case lTk => exact (show List.lookup 150 (Hd.KX w.params) = some (Hd.fo Of.sTake "take" "Office.take" (.str "postbooks.office" 321) 149) by kernel_rfl))
    (case cTk => kernel_rfl)
    (case kTk => kernel_rfl)
    (case aSd => kernel_rfl)
    (case iSd => kernel_rfl)
    (case lSd => exact (show List.lookup 157 (Hd.KX w.params) = some (Hd.fo Of.sSend "send" "Office.send" (.str "postbooks.office" 321) 156) by kernel_rfl))
    (case cSd => kernel_rfl)
    (case kSd => kernel_rfl)
    (case aNw => kernel_rfl)
    (case iNw => kernel_rfl)
    (case lNw => exact (show List.lookup 162 (Hd.KX w.params) = some (Hd.fo Of.sIsNew "is_new" "Office.is_new" (.str "postbooks.office" 321) 161) by kernel_rfl))
    (case cNw => kernel_rfl)
    (case kNw => kernel_rfl)
    (case aHd => kernel_rfl)
    (case iHd => kernel_rfl)
    (case lHd => exact (show List.lookup 169 (Hd.KX w.params) = some (Hd.fo Of.sHand "hand_over" "Office.hand_over" (.str "postbooks.office" 321) 168) by kernel_rfl))
    (case cHd => kernel_rfl)
    (case kHd => kernel_rfl)
    (case aWr => kernel_rfl)
    (case iWr => kernel_rfl)
    (case lWr => exact (show List.lookup 176 (Hd.KX w.params) = some (Hd.fo Of.sWrite "write_in_book" "Office.write_in_book" (.str "postbooks.office" 321) 175) by kernel_rfl))
    (case cWr => kernel_rfl)
    (case kWr => kernel_rfl)
    (case aTb => kernel_rfl)
    (case lTb => exact (show List.lookup 211 (Hd.KX w.params) = some (Hd.fo Of.sTaken "taken_by" "taken_by" (.str "postbooks.office" 321) 210) by kernel_rfl))
    (case cTb => kernel_rfl)
    (case kTb => kernel_rfl)
    (case aCi => kernel_rfl)
    (case iCi => kernel_rfl)
    (case lCi => exact (show List.lookup 223 (Hd.KX w.params) = some (Hd.fo Of.cInit "__init__" "Course.__init__" (.str "postbooks.story" 454) 222) by kernel_rfl))
    (case cCi => kernel_rfl)
    (case kCi => kernel_rfl)
    (case aCd => kernel_rfl)
    (case iCd => kernel_rfl)
    (case lCd => exact (show List.lookup 230 (Hd.KX w.params) = some (Hd.fo Of.cDo "do" "Course.do" (.str "postbooks.story" 454) 229) by kernel_rfl))
    (case cCd => kernel_rfl)
    (case kCd => kernel_rfl)
    (case aCa => kernel_rfl)
    (case iCa => kernel_rfl)
    (case lCa => exact (show List.lookup 237 (Hd.KX w.params) = some (Hd.fo Of.cAns "answer_to" "Course.answer_to" (.str "postbooks.story" 454) 236) by kernel_rfl))
    (case cCa => kernel_rfl)
    (case kCa => kernel_rfl)
    (case aCs => kernel_rfl)
    (case iCs => kernel_rfl)
    (case lCs => exact (show List.lookup 244 (Hd.KX w.params) = some (Hd.fo Of.cSent "letter_sent" "Course.letter_sent" (.str "postbooks.story" 454) 243) by kernel_rfl))
    (case cCs => kernel_rfl)
    (case kCs => kernel_rfl)
    (case aCc => kernel_rfl)
    (case iCc => kernel_rfl)
    (case lCc => exact (show List.lookup 251 (Hd.KX w.params) = some (Hd.fo Of.cCarr "letter_carried" "Course.letter_carried" (.str "postbooks.story" 454) 250) by kernel_rfl))
    (case cCc => kernel_rfl)
    (case kCc => kernel_rfl)
    (case aCb => kernel_rfl)
    (case iCb => kernel_rfl)
    (case lCb => exact (show List.lookup 256 (Hd.KX w.params) = some (Hd.fo Of.cBring "letters_brought" "Course.letters_brought" (.str "postbooks.story" 454) 255) by kernel_rfl))
    (case cCb => kernel_rfl)
    (case kCb => kernel_rfl)
    (case aOo => kernel_rfl)
    (case lOo => exact (show List.lookup 270 (Hd.KX w.params) = some (Hd.fo Of.sCourse "course_of" "course_of" (.str "postbooks.story" 454) 269) by kernel_rfl))
    (case cOo => kernel_rfl)
    (case kOo => kernel_rfl)
    (case aSi => kernel_rfl)
    (case lSi => exact (show List.lookup 89 (Hd.KX w.params) = some (Hd.fo Of.sStateIn "state_in" "state_in" (.str "postbooks.cuts" 272) 88) by kernel_rfl))
    (case cSi => kernel_rfl)
    (case kSi => kernel_rfl)
    (case aSs => kernel_rfl)
    (case lSs => exact (show List.lookup 82 (Hd.KX w.params) = some (Hd.fo Of.sStates "states" "states" (.str "postbooks.cuts" 272) 81) by kernel_rfl))
    (case cSs => kernel_rfl)
    (case kSs => kernel_rfl)
    (case aUw => kernel_rfl)
    (case lUw => exact (show List.lookup 94 (Hd.KX w.params) = some (Hd.fo Of.sCoinsUnderWay "coins_under_way" "coins_under_way" (.str "postbooks.cuts" 272) 93) by kernel_rfl))
    (case cUw => kernel_rfl)
    (case kUw => kernel_rfl)
    (case aTa => kernel_rfl)
    (case lTa => exact (show List.lookup 101 (Hd.KX w.params) = some (Hd.fo Of.sIsThereAt "is_there_at" "is_there_at" (.str "postbooks.cuts" 272) 100) by kernel_rfl))
    (case cTa => kernel_rfl)
    (case kTa => kernel_rfl)
    (case aIe => kernel_rfl)
    (case lIe => exact (show List.lookup 108 (Hd.KX w.params) = some (Hd.fo Of.sIsSent "is_sent" "is_sent" (.str "postbooks.cuts" 272) 107) by kernel_rfl))
    (case cIe => kernel_rfl)
    (case kIe => kernel_rfl)
    (case aOw => kernel_rfl)
    (case lOw => exact (show List.lookup 115 (Hd.KX w.params) = some (Hd.fo Of.sCoinsOnTheWay "coins_on_the_way" "coins_on_the_way" (.str "postbooks.cuts" 272) 114) by kernel_rfl))
    (case cOw => kernel_rfl)
    (case kOw => kernel_rfl)
    (case aOl => kernel_rfl)
    (case lOl => exact (show List.lookup 277 (Hd.KX w.params) = some (Hd.fo Of.sLettersOf "letters_of" "letters_of" (.str "postbooks.story" 454) 276) by kernel_rfl))
    (case cOl => kernel_rfl)
    (case kOl => kernel_rfl)
    (case aOe => kernel_rfl)
    (case lOe => exact (show List.lookup 284 (Hd.KX w.params) = some (Hd.fo Of.sEventsOf "events_of" "events_of" (.str "postbooks.story" 454) 283) by kernel_rfl))
    (case cOe => kernel_rfl)
    (case kOe => kernel_rfl)
    (case aOk => kernel_rfl)
    (case lOk => exact (show List.lookup 289 (Hd.KX w.params) = some (Hd.fo Of.sKeptOf "kept_of" "kept_of" (.str "postbooks.story" 454) 288) by kernel_rfl))
    (case cOk => kernel_rfl)
    (case kOk => kernel_rfl)
    (case aSo => kernel_rfl)
    (case lSo => exact (show List.lookup 296 (Hd.KX w.params) = some (Hd.fo Of.sSo "_law_so" "_law_so" (.str "law_postbooks_k09_whole_cut_kept" 563) 295) by kernel_rfl))
    (case cSo => kernel_rfl)
    (case kSo => kernel_rfl)
    (case aLW => kernel_rfl)
    (case lLW => exact (show List.lookup 303 (Hd.KX w.params) = some (Hd.fo Of.sWhole "_law_whole" "_law_whole" (.str "law_postbooks_k09_whole_cut_kept" 563) 302) by kernel_rfl))
    (case cLW => kernel_rfl)
    (case kLW => kernel_rfl)
    (case aLA => kernel_rfl)
    (case lLA => exact (show List.lookup 310 (Hd.KX w.params) = some (Hd.fo Of.sAt "_law_at" "_law_at" (.str "law_postbooks_k09_whole_cut_kept" 563) 309) by kernel_rfl))
    (case cLA => kernel_rfl)
    (case kLA => kernel_rfl)
    (case aLI => kernel_rfl)
    (case lLI => exact (show List.lookup 317 (Hd.KX w.params) = some (Hd.fo Of.sIsName "_law_is_name" "_law_is_name" (.str "law_postbooks_k09_whole_cut_kept" 563) 316) by kernel_rfl))
    (case cLI => kernel_rfl)
    (case kLI => kernel_rfl)
    (case aLE => kernel_rfl)
    (case lLE => exact (show List.lookup 324 (Hd.KX w.params) = some (Hd.fo Of.sAreEvents "_law_are_events" "_law_are_events" (.str "law_postbooks_k09_whole_cut_kept" 563) 323) by kernel_rfl))
    (case cLE => kernel_rfl)
    (case kLE => kernel_rfl)
    (case aLH => kernel_rfl)
    (case lLH => exact (show List.lookup 331 (Hd.KX w.params) = some (Hd.fo Of.sIsWhat "_law_is_what" "_law_is_what" (.str "law_postbooks_k09_whole_cut_kept" 563) 330) by kernel_rfl))
    (case cLH => kernel_rfl)
    (case kLH => kernel_rfl)
    (case aLL => kernel_rfl)
    (case lLL => exact (show List.lookup 338 (Hd.KX w.params) = some (Hd.fo Of.sAreLetters "_law_are_letters" "_law_are_letters" (.str "law_postbooks_k09_whole_cut_kept" 563) 337) by kernel_rfl))
    (case cLL => kernel_rfl)
    (case kLL => kernel_rfl)
    (case aLC => kernel_rfl)
    (case lLC => exact (show List.lookup 345 (Hd.KX w.params) = some (Hd.fo Of.sCalled "_law_called" "_law_called" (.str "law_postbooks_k09_whole_cut_kept" 563) 344) by kernel_rfl))
    (case cLC => kernel_rfl)
    (case kLC => kernel_rfl)
    (case aLO => kernel_rfl)
    (case lLO => exact (show List.lookup 352 (Hd.KX w.params) = some (Hd.fo Of.sDeedOf "_law_deed_of" "_law_deed_of" (.str "law_postbooks_k09_whole_cut_kept" 563) 351) by kernel_rfl))
    (case cLO => kernel_rfl)
    (case kLO => kernel_rfl)
    (case aLD => kernel_rfl)
    (case lLD => exact (show List.lookup 359 (Hd.KX w.params) = some (Hd.fo Of.sDrawn "_law_drawn" "_law_drawn" (.str "law_postbooks_k09_whole_cut_kept" 563) 358) by kernel_rfl))
    (case cLD => kernel_rfl)
    (case kLD => kernel_rfl)
    (case aLX => kernel_rfl)
    (case lLX => exact (show List.lookup 366 (Hd.KX w.params) = some (Hd.fo Of.sEndedL "_law_ended" "_law_ended" (.str "law_postbooks_k09_whole_cut_kept" 563) 365) by kernel_rfl))
    (case cLX => kernel_rfl)
    (case kLX => kernel_rfl)
    (case aLs => kernel_rfl)
    (case lLs => exact (show List.lookup 373 (Hd.KX w.params) = some (Hd.fo Of.sAreStatesL "_law_are_states" "_law_are_states" (.str "law_postbooks_k09_whole_cut_kept" 563) 372) by kernel_rfl))
    (case cLs => kernel_rfl)
    (case kLs => kernel_rfl)
    (case aWt => kernel_rfl)
    (case lWt => exact (show List.lookup 380 (Hd.KX w.params) = some (Hd.fo Of.sWalkedToL "_law_walked_to" "_law_walked_to" (.str "law_postbooks_k09_whole_cut_kept" 563) 379) by kernel_rfl))
    (case cWt => kernel_rfl)
    (case kWt => kernel_rfl)
    (case aOc => kernel_rfl)
    (case lOc => exact (show List.lookup 387 (Hd.KX w.params) = some (Hd.fo Of.sOneCutL "_law_one_cut" "_law_one_cut" (.str "law_postbooks_k09_whole_cut_kept" 563) 386) by kernel_rfl))
    (case cOc => kernel_rfl)
    (case kOc => kernel_rfl)
    (case aLw => kernel_rfl)
    (case lLw => exact (show List.lookup 392 (Hd.KX w.params) = some (Hd.fo Of.sLaw "law" "law" (.str "law_postbooks_k09_whole_cut_kept" 563) 391) by kernel_rfl))
    (case cLw => kernel_rfl)
    (case kLw => kernel_rfl)
    (case pg => kernel_rfl)
    (case hd => kernel_rfl)
    (case po => kernel_rfl)
    (case sa => kernel_rfl)
    (case mk => kernel_rfl)
    (case kc => kernel_rfl)
    (case jpg => kernel_rfl)
    (case jhd => kernel_rfl)
    (case jpo => kernel_rfl)
    (case jsa => kernel_rfl)
    (case jmk => kernel_rfl)
    (case jkc => kernel_rfl)
    (case nN => kernel_rfl)
    (case nC => kernel_rfl)
    (case nK => kernel_rfl)
    (case nB => kernel_rfl)
    (case nT => kernel_rfl)
    (case nE => kernel_rfl)
    (case eO => kernel_rfl)
    (case eL => kernel_rfl)
    (case eV => kernel_rfl)
    (case eA => kernel_rfl)
    (case z_len => kernel_rfl)
    (case z_range => kernel_rfl)
    (case z_all => kernel_rfl)
    (case z_isinstance => kernel_rfl)
    (case z_int => kernel_rfl)
    (case z_bool => kernel_rfl)
    (case z_tuple => kernel_rfl)
    (case z_list => kernel_rfl)
    (case z_str => kernel_rfl)
    (case z_dict => kernel_rfl)
    (case z_sum => kernel_rfl)
    (case xCP => kernel_rfl)
    (case xCE => kernel_rfl)
    (case eP => kernel_rfl)
    (case qP => kernel_rfl)
    (case tP => kernel_rfl)
    (case uP => kernel_rfl)
    (case vP => kernel_rfl)
    (case qE => kernel_rfl)
    (case tE => kernel_rfl)
    (case uE => kernel_rfl)
    (case vE => kernel_rfl)
#print axioms PySem.Challenge.cw_postbooks_k09_whole_cut_kept_holds

