import PyProof.Rows.All
import Wide.All
import OpenK.AllK
import Wide.FinOn
import Lean
import PyProof.EqAt
import PyProof.EqKinds
import PyProof.TupleCall
import PyProof.P3In
import PyProof.NeData
import PyProof.ConsumeWalk
import PyProof.CompFree
import PySem.Challenge.RW_postbooks_k14_whole_tray
set_option Elab.async false
set_option linter.all false
set_option maxRecDepth 100000
/-! THE HAND LAYER, for ints, bools, texts, own classes, LISTS and tuples (index, slices, in, append, pop ..), calls, loops. Paste it whole ahead of your own text; what your proof does not reach may be deleted. -/
namespace L2
open PySem PySem.Spec PyProof.Rows

/-- a key: an int or a str -/
abbrev Key := Sum Int Str
def keyIs : Key → Value → Bool
  | .inl k, v => Value.isInt k v
  | .inr x, v => Value.isStrOf x v
def keyH (w : World) : Key → Int
  | .inl k => hashInt k
  | .inr x => hashStr w x
theorem keyIs_shape : ∀ {k : Key} {v : Value}, keyIs k v = true → (∃ i t, k = Sum.inl i ∧ v = Value.int i t) ∨ (∃ x t, k = Sum.inr x ∧ v = Value.str x t)
  | .inl i, v, h => by
    obtain ⟨t, e⟩ := Value.isInt_shape (k := i) (v := v) h
    exact .inl ⟨i, t, rfl, e⟩
  | .inr x, v, h => by
    obtain ⟨t, e⟩ := Value.isStrOf_shape (x := x) (v := v) h
    exact .inr ⟨x, t, rfl, e⟩
theorem keyIs_int (i : Int) (t : Tok) : keyIs (.inl i) (.int i t) = true := by simp [keyIs, Value.isInt]
theorem keyIs_str (x : Str) (t : Tok) : keyIs (.inr x) (.str x t) = true := by simp [keyIs, Value.isStrOf]
theorem key_ll (a b : Int) : decide ((Sum.inl a : Key) = Sum.inl b) = (a == b) := by
  by_cases e : a = b
  · subst e; simp
  · have h : ¬ (Sum.inl a : Key) = Sum.inl b := fun q => e (Sum.inl.inj q)
    rw [decide_eq_false h]
    exact (beq_eq_false_iff_ne.mpr e).symm
theorem key_rr (a b : Str) : decide ((Sum.inr a : Key) = Sum.inr b) = decide (a = b) := by
  by_cases e : a = b
  · subst e; simp
  · have h : ¬ (Sum.inr a : Key) = Sum.inr b := fun q => e (Sum.inr.inj q)
    rw [decide_eq_false h, decide_eq_false e]
theorem key_lr (a : Int) (b : Str) : decide ((Sum.inl a : Key) = Sum.inr b) = false := decide_eq_false (fun q => nomatch q)
theorem key_rl (a : Str) (b : Int) : decide ((Sum.inr a : Key) = Sum.inl b) = false := decide_eq_false (fun q => nomatch q)

def mixKind (prog : Program) (w : World) : PySem.KeyKind prog w Key where
  is := keyIs
  hash := keyH w
  inj := fun v a b ha hb => by
    rcases keyIs_shape ha with ⟨i, t, rfl, rfl⟩ | ⟨x, t, rfl, rfl⟩
    · rcases keyIs_shape hb with ⟨j, u, rfl, e⟩ | ⟨y, u, rfl, e⟩
      · injection e with e1 _; rw [e1]
      · exact nomatch e
    · rcases keyIs_shape hb with ⟨j, u, rfl, e⟩ | ⟨y, u, rfl, e⟩
      · exact nomatch e
      · injection e with e1 _; rw [e1]
  byValue := fun k v h => by
    rcases keyIs_shape h with ⟨i, t, rfl, rfl⟩ | ⟨x, t, rfl, rfl⟩ <;> rfl
  pyHash := fun hv h => by
    rcases keyIs_shape hv with ⟨i, t, rfl, rfl⟩ | ⟨x, t, rfl, rfl⟩
    · exact wpAny_pyHash_int h
    · exact wpAny_pyHash_str h
  eqBool := fun hu hv h => by
    rcases keyIs_shape hu with ⟨i, t, rfl, rfl⟩ | ⟨x, t, rfl, rfl⟩
    · rcases keyIs_shape hv with ⟨j, u, rfl, rfl⟩ | ⟨y, u, rfl, rfl⟩
      · rw [key_ll] at h; exact wpAny_eqBool_int h
      · rw [key_lr] at h; exact SeqAt.EqAt.int_str i t y u _ _ _ _ h
    · rcases keyIs_shape hv with ⟨j, u, rfl, rfl⟩ | ⟨y, u, rfl, rfl⟩
      · rw [key_rl] at h; exact SeqAt.EqAt.str_int x t j u _ _ _ _ h
      · rw [key_rr] at h; exact wpAny_eqBool_str h
  «strs» := fun k x t v h => by
    rcases keyIs_shape h with ⟨i, u, rfl, e⟩ | ⟨y, u, rfl, e⟩
    · exact nomatch e
    · injection e with e1 _
      subst e1
      cases v <;> rfl

theorem mixKind_is (prog : Program) (w : World) (k : Key) (v : Value) : (mixKind prog w).is k v = keyIs k v := rfl
theorem mixKind_int (prog : Program) (w : World) (i : Int) (t : Tok) : (mixKind prog w).is (.inl i) (.int i t) = true := keyIs_int i t
theorem mixKind_str (prog : Program) (w : World) (x : Str) (t : Tok) : (mixKind prog w).is (.inr x) (.str x t) = true := keyIs_str x t
end L2

namespace L2
open PySem PySem.Spec PyProof.Rows

/-- a value, without the heap -/
inductive V where
  | non | bl (b : Bool) | int (i : Int) | str (x : Str) | byt (b : Array UInt8) | flt (b : UInt64) | ref (a : Addr) | ty (n : String)
  deriving DecidableEq

def RelV : V → Value → Prop
  | .non, u => u = Value.none
  | .bl b, u => u = Value.bool b
  | .int i, u => ∃ t, u = Value.int i t
  | .str x, u => ∃ t, u = Value.str x t
  | .byt b, u => ∃ t, u = Value.bytes b t
  | .flt b, u => ∃ t, u = Value.float b t
  | .ref a, u => u = Value.ref a
  | .ty n, u => u = Value.type n

abbrev Vals : List V → List Value → Prop := Paired RelV
theorem Vals.length {xs : List V} {us : List Value} (r : Vals xs us) : xs.length = us.length := Paired.length r
theorem Vals.get : ∀ {xs : List V} {us : List Value} {i : Nat} {x : V}, Vals xs us → xs[i]? = some x → ∃ u, us[i]? = some u ∧ RelV x u
  | _, _, _, _, .nil, e => by simp at e
  | _, _, 0, _, .cons r _, e => by simp at e; subst e; exact ⟨_, rfl, r⟩
  | _, _, i + 1, x, .cons _ t, e => by
    obtain ⟨u, h1, h2⟩ := Vals.get (i := i) (x := x) t (by simpa using e)
    exact ⟨u, by simpa using h1, h2⟩
theorem Vals.set {x : V} {u : Value} (r : RelV x u) : ∀ {xs : List V} {us : List Value} (i : Nat), Vals xs us → Vals (xs.set i x) (us.set i u)
  | _, _, _, .nil => .nil
  | _, _, 0, .cons _ t => .cons r t
  | _, _, i + 1, .cons q t => .cons q (Vals.set r i t)
theorem Vals.append : ∀ {xs ys : List V} {us ws : List Value}, Vals xs us → Vals ys ws → Vals (xs ++ ys) (us ++ ws)
  | _, _, _, _, .nil, s => s
  | _, _, _, _, .cons r t, s => .cons r (Vals.append t s)
theorem Vals.take : ∀ {xs : List V} {us : List Value} (n : Nat), Vals xs us → Vals (xs.take n) (us.take n)
  | _, _, 0, _ => .nil
  | _, _, _ + 1, .nil => .nil
  | _, _, n + 1, .cons r t => .cons r (Vals.take n t)
theorem Vals.drop : ∀ {xs : List V} {us : List Value} (n : Nat), Vals xs us → Vals (xs.drop n) (us.drop n)
  | _, _, 0, r => r
  | _, _, _ + 1, .nil => .nil
  | _, _, n + 1, .cons _ t => Vals.drop n t
theorem Vals.none_of : ∀ {xs : List V} {us : List Value} {i : Nat}, Vals xs us → xs[i]? = none → us[i]? = none := fun {xs us i} r e => by
  have h1 := r.length
  have h2 : xs.length ≤ i := List.getElem?_eq_none_iff.mp e
  exact List.getElem?_eq_none_iff.mpr (by omega)

def RelO : Option V → Option Value → Prop
  | some v, some u => RelV v u
  | none, none => True
  | _, _ => False
def KV {κ : Type} : List (κ × V) → List (κ × Value) → Prop := Paired fun (p : κ × V) (q : κ × Value) => p.1 = q.1 ∧ RelV p.2 q.2

/-- a key of a dict (00_mix): an int or a text -/
def kV : Key → V
  | .inl i => .int i
  | .inr x => .str x

/-- what stands at a tracked address -/
inductive HO where
  /-- a list -/
  | lst (xs : List V)
  /-- a tuple (never changes) -/
  | tup (xs : List V)
  /-- a dict whose keys are ints and texts; one whose keys are tuples of ints and texts (the empty one is both) -/
  | dK (kvs : List (Key × V)) | dT (kvs : List (List Key × V))
  /-- a set of ints: its members, its size -/
  | set (S : Int → Bool) (n : Nat)
  /-- an instance of the class at C, its dict at dx, its attributes -/
  | ins (C dx : Addr) (fs : List (Str × V))
  /-- the dict of the instance at x -/
  | own (x : Addr)
  /-- the dict of an exception -/
  | xd (fs : List (Str × V))
  /-- a bound method, f of x -/
  | met (f x : Addr)
  /-- a range object lo, lo + 1, .. below hi -/
  | rng (lo hi : Int)
  /-- a thing that is known to the object (the script; a dict while a loop walks it): read, never written while it is so -/
  | frz (o : Obj) (u : HO)
  /-- a code object's table -/
  | tbl (ps : Array Value)
  /-- any other thing, by what is true of its one object (a def of one's own: SetO a S n := HO.ext fun h => ..) -/
  | ext (φ : Heap → Prop)

abbrev Hp := Addr → Option HO
def upd (H : Hp) (a : Addr) (o : HO) : Hp := fun b => if b = a then some o else H b
theorem upd_same {H : Hp} {a : Addr} {o : HO} : upd H a o a = some o := by unfold upd; rw [if_pos rfl]
theorem upd_ne {H : Hp} {a b : Addr} {o : HO} (h : b ≠ a) : upd H a o b = H b := by unfold upd; rw [if_neg h]
theorem upd_upd {H : Hp} {a : Addr} {o u : HO} : upd (upd H a o) a u = upd H a u := by
  funext b; unfold upd; split <;> rfl
/-- two objects of different content stand apart -/
theorem ne_of {H : Hp} {a b : Addr} {o u : HO} (h : H a = some o) (h' : H b = some u) (d : o ≠ u) : a ≠ b := by
  intro e; subst e; rw [h] at h'; exact d (Option.some.inj h')
theorem ne_of_none {H : Hp} {a b : Addr} {o : HO} (h : H a = some o) (h' : H b = none) : a ≠ b := by
  intro e; subst e; rw [h] at h'; cases h'

section
variable (P : Program) (w : World)
def ObjOk (H : Hp) (h : Heap) (a : Addr) : HO → Prop
  | .lst xs => xs.length ≤ sizeLine ∧ ∃ (its : List Value) (n : Nat), Vals xs its ∧ h.get? a = some { cls := .type "list", data := .seq its.toArray n }
  | .tup xs => xs.length ≤ sizeLine ∧ ∃ its : List Value, Vals xs its ∧ IsTup h a its.toArray
  | .dK kvs => kvs.length ≤ sizeLine ∧ (a == sysModules) = false ∧ ∃ vs, KV kvs vs ∧ h.DictOf (mixKind P w) a vs
  | .dT kvs => kvs.length ≤ sizeLine ∧ (a == sysModules) = false ∧ ∃ xs : List (List Key × Addr × Value),
      Paired (fun (p : List Key × V) (q : List Key × Addr × Value) => p.1 = q.1 ∧ H q.2.1 = some (.tup (p.1.map kV)) ∧ RelV p.2 q.2.2) kvs xs ∧
      ∃ o es ep, h.get? a = some o ∧ o.ExactDict ∧ o.data = .dict es ep ∧ es.toList = xs.map (entryOfKey (tupleKind (mixKind P w))) ∧ (xs.map (·.1)).Nodup
  | .set S n => h.SetOf (intKind P w) a S n
  | .ins C dx fs => H dx = some (.own a) ∧ fs.length ≤ 1000 ∧ dx ≠ a ∧ h.get? a = some (PySem.W.instObj C dx) ∧
      ∃ mA, h.Ns1 dx mA ∧ (∀ f, RelO (fs.lookup f) (mA f)) ∧ PySem.Within mA (fs.map (·.1))
  | .own _ => ∃ o, h.get? a = some o
  | .xd fs => ∃ mA, h.Ns1 a mA ∧ ∀ f, RelO (fs.lookup f) (mA f)
  | .rng lo hi => ∃ t u v, h.get? a = some { cls := .type "range", data := .fields #[.int lo t, .int hi u, .int 1 v] }
  | .frz o u => h.get? a = some o ∧ ObjOk H h a u
  | .tbl ps => h.get? a = some { cls := .none, data := .fields ps }
  | .met f x => h.get? a = some (PySem.W.methodObj (.ref f) (.ref x))
  | .ext φ => φ h ∧ (∃ o, h.get? a = some o) ∧ ∀ h1 h2 : Heap, φ h1 → (∀ o, h1.get? a = some o → h2.get? a = some o) → φ h2
/-- the abstract heap is held -/
def HOk (H : Hp) (h : Heap) : Prop := ∀ a o, H a = some o → ObjOk P w H h a o
end

section
variable {P : Program} {w : World} {H H' : Hp} {h h' : Heap} {a : Addr} {o : HO}
theorem ObjOk.lt (x : ObjOk P w H h a o) : a < h.objs.size := by
  cases o with
  | lst xs => obtain ⟨_, _, _, _, e⟩ := x; exact Heap.lt_size e
  | tup xs => obtain ⟨_, _, _, p⟩ := x; exact p.lt
  | dK kvs => obtain ⟨_, _, _, _, o, _, _, e, _⟩ := x; exact Heap.lt_size e
  | dT kvs => obtain ⟨_, _, _, _, o, _, _, e, _⟩ := x; exact Heap.lt_size e
  | set S n => obtain ⟨o, _, _, _, e, _⟩ := x; exact Heap.lt_size e
  | ins C dx fs => obtain ⟨_, _, _, e, _⟩ := x; exact Heap.lt_size e
  | own y => obtain ⟨_, e⟩ := x; exact Heap.lt_size e
  | xd fs => obtain ⟨_, ⟨_, _, _, e, _⟩, _⟩ := x; exact Heap.lt_size e
  | rng lo hi => obtain ⟨_, _, _, e⟩ := x; exact Heap.lt_size e
  | frz ob u => obtain ⟨e, _⟩ := x; exact Heap.lt_size e
  | tbl ps => exact Heap.lt_size (show h.get? a = some _ from x)
  | met f y => exact Heap.lt_size (show h.get? a = some _ from x)
  | ext φ => obtain ⟨_, ⟨_, e⟩, _⟩ := x; exact Heap.lt_size e
theorem Paired.mapP {α β : Type} {F G : α → β → Prop} : ∀ {l₁ : List α} {l₂ : List β}, Paired F l₁ l₂ → (∀ a b, F a b → G a b) → Paired G l₁ l₂
  | _, _, .nil, _ => .nil
  | _, _, .cons r t, f => .cons (f _ _ r) (Paired.mapP t f)
theorem Paired.imp' {α β : Type} {F G : α → β → Prop} (f : ∀ a b, F a b → G a b) {l₁ : List α} {l₂ : List β} (r : Paired F l₁ l₂) : Paired G l₁ l₂ := Paired.mapP r f
/-- what an object's description leans on: its own object, its own dict, the tuples -/
theorem ObjOk.stay (x : ObjOk P w H h a o) (k : ∀ b u, (b = a ∨ H b = some (.own a)) → h.get? b = some u → h'.get? b = some u)
    (ho : ∀ b, H b = some (.own a) → H' b = some (.own a)) (ht : ∀ b xs, H b = some (.tup xs) → H' b = some (.tup xs)) : ObjOk P w H' h' a o := by
  induction o with
  | lst xs => obtain ⟨z, its, n, r, e⟩ := x; exact ⟨z, its, n, r, k _ _ (.inl rfl) e⟩
  | tup xs => obtain ⟨z, its, r, ob, e, c⟩ := x; exact ⟨z, its, r, ob, k _ _ (.inl rfl) e, c⟩
  | dK kvs => obtain ⟨z, y, vs, r, ob, es, ep, e, c⟩ := x; exact ⟨z, y, vs, r, ob, es, ep, k _ _ (.inl rfl) e, c⟩
  | dT kvs =>
    obtain ⟨z, y, xs, r, ob, es, ep, e, c⟩ := x
    exact ⟨z, y, xs, Paired.mapP r fun p q z => ⟨z.1, ht _ _ z.2.1, z.2.2⟩, ob, es, ep, k _ _ (.inl rfl) e, c⟩
  | set S n => obtain ⟨ob, es, ep, t, e, c⟩ := x; exact ⟨ob, es, ep, t, k _ _ (.inl rfl) e, c⟩
  | ins C dx fs =>
    obtain ⟨d, z, ne, e, mA, ⟨od, es, ep, e2, c⟩, r⟩ := x
    exact ⟨ho _ d, z, ne, k _ _ (.inl rfl) e, mA, ⟨od, es, ep, k _ _ (.inr d) e2, c⟩, r⟩
  | own y => obtain ⟨ob, e⟩ := x; exact ⟨ob, k _ _ (.inl rfl) e⟩
  | xd fs => obtain ⟨mA, ⟨od, es, ep, e, c⟩, r⟩ := x; exact ⟨mA, ⟨od, es, ep, k _ _ (.inl rfl) e, c⟩, r⟩
  | rng lo hi => obtain ⟨t, u, v, e⟩ := x; exact ⟨t, u, v, k _ _ (.inl rfl) e⟩
  | frz ob u ih => obtain ⟨e, q⟩ := x; exact ⟨k _ _ (.inl rfl) e, ih q⟩
  | tbl ps =>
    have e : h.get? a = some { cls := .none, data := .fields ps } := x
    show h'.get? a = some { cls := .none, data := .fields ps }
    exact k a _ (.inl rfl) e
  | met f y =>
    have e : h.get? a = some (PySem.W.methodObj (.ref f) (.ref y)) := x
    show h'.get? a = some (PySem.W.methodObj (.ref f) (.ref y))
    exact k a _ (.inl rfl) e
  | ext φ => obtain ⟨p, ⟨o, e⟩, st⟩ := x; exact ⟨st _ _ p fun o q => k _ _ (.inl rfl) q, ⟨o, k _ _ (.inl rfl) e⟩, st⟩
theorem HOk.lt (x : HOk P w H h) (e : H a = some o) : a < h.objs.size := (x a o e).lt
theorem HOk.fresh (x : HOk P w H h) (e : h.objs.size ≤ a) : H a = none := by
  cases q : H a with
  | none => rfl
  | some u => exact absurd (Nat.lt_of_lt_of_le (x.lt q) e) (Nat.lt_irrefl _)
/-- every object of the heap is kept -/
theorem HOk.kept (x : HOk P w H h) (k : ∀ b u, h.get? b = some u → h'.get? b = some u) : HOk P w H h' := fun a o e =>
  (x a o e).stay (fun b u _ q => k b u q) (fun _ q => q) fun _ _ q => q
/-- a new object is laid and tracked -/
theorem HOk.laid (x : HOk P w H h) (k : ∀ b u, h.get? b = some u → h'.get? b = some u) (hp : h.objs.size ≤ a) (new : ObjOk P w (upd H a o) h' a o) : HOk P w (upd H a o) h' := fun b u e => by
  have hn := x.fresh hp
  by_cases hb : b = a
  · subst hb; rw [upd_same] at e; cases e; exact new
  · rw [upd_ne hb] at e
    exact (x b u e).stay (fun c v _ q => k c v q) (fun c q => by rw [upd_ne (ne_of_none q hn)]; exact q) fun c xs q => by rw [upd_ne (ne_of_none q hn)]; exact q
end

/-- what may be read as u: it is u, or a known u -/
def Rd (H : Hp) (a : Addr) (u : HO) : Prop := H a = some u ∨ ∃ o, H a = some (.frz o u)
theorem Rd.of {H : Hp} {a : Addr} {u : HO} (h : H a = some u) : Rd H a u := .inl h
theorem Rd.ok {P : Program} {w : World} {H : Hp} {h : Heap} {a : Addr} {u : HO} (r : Rd H a u) (x : HOk P w H h) : ObjOk P w H h a u := by
  rcases r with r | ⟨o, r⟩
  · exact x a u r
  · obtain ⟨_, q⟩ := x a _ r
    exact q
/-- what may be written -/
def Mut : Option HO → Prop
  | some (.lst _) => True
  | some (.dK _) => True
  | some (.dT _) => True
  | some (.set _ _) => True
  | some (.ins _ _ _) => True
  | some (.ext _) => True
  | _ => False
section
variable {P : Program} {w : World} {H : Hp} {h h' : Heap} {x e : Addr} {o' : HO}
/-- the object at e is changed: x itself, or the dict of the instance x -/
theorem HOk.write (ok : HOk P w H h) (mu : Mut (H x)) (he : e = x ∨ H e = some (.own x)) (k : ∀ b u, b ≠ e → h.get? b = some u → h'.get? b = some u) (heo : ∃ u, h'.get? e = some u)
    (new : ObjOk P w (upd H x o') h' x o') : HOk P w (upd H x o') h' := fun b u q => by
  have nown : ∀ c y, H c = some (.own y) → c ≠ x := fun c y r z => by subst z; rw [r] at mu; exact mu
  have ntup : ∀ c xs, H c = some (.tup xs) → c ≠ x := fun c xs r z => by subst z; rw [r] at mu; exact mu
  by_cases hb : b = x
  · subst hb; rw [upd_same] at q; cases q; exact new
  · rw [upd_ne hb] at q
    by_cases hbe : b = e
    · have q' : H b = some (.own x) := by
        rcases he with z | z
        · exact absurd (hbe.trans z) hb
        · rw [hbe]; exact z
      rw [q] at q'; cases q'
      obtain ⟨v, hv⟩ := heo
      exact ⟨v, by rw [hbe]; exact hv⟩
    · refine (ok b u q).stay (fun c v hc r => k c v ?_ r) (fun c r => by rw [upd_ne (nown c b r)]; exact r) fun c xs r => by rw [upd_ne (ntup c xs r)]; exact r
      rcases hc with rfl | hc
      · exact hbe
      · rintro rfl
        rcases he with z | z
        · exact nown c b hc z
        · rw [hc] at z; cases z; exact hb rfl
end

/-! ### kept unless tracked; of the frames at fs (the callers') the slots may change (an exception that passes writes there); of the records at ex (iterators) nothing is said -/
structure Un (fs ex : List Addr) (H H' : Hp) (h h' : Heap) : Prop where
  keep : ∀ b o, h.get? b = some o → H b = none → b ∉ fs → b ∉ ex → h'.get? b = some o
  slot : ∀ b o, h.get? b = some o → H b = none → b ∈ fs → b ∉ ex → ∃ sl, h'.get? b = some { o with slots := sl }
  free : ∀ b o, h.get? b = some o → H b = none → b ∉ ex → H' b = none
  there : ∀ b o, h.get? b = some o → b ∉ ex → ∃ o', h'.get? b = some o'
  tups : ∀ b xs, H b = some (.tup xs) → H' b = some (.tup xs)
  frzs : ∀ b o u, H b = some (.frz o u) → H' b = some (.frz o u)
  tbls : ∀ b ps, H b = some (.tbl ps) → ∃ more, H' b = some (.tbl (ps ++ more))
section
variable {fs fs' ex ex' : List Addr} {H H1 H2 : Hp} {h h1 h2 h' : Heap} {a x e : Addr} {o : HO}
theorem Un.any (u : Un fs ex H H1 h h1) {b : Addr} {ob : Obj} (q : h.get? b = some ob) (n : H b = none) (hx : b ∉ ex) : ∃ sl, h1.get? b = some { ob with slots := sl } := by
  by_cases hb : b ∈ fs
  · exact u.slot b ob q n hb hx
  · exact ⟨ob.slots, u.keep b ob q n hb hx⟩
theorem Un.trans (a : Un fs ex H H1 h h1) (b : Un fs ex H1 H2 h1 h2) : Un fs ex H H2 h h2 where
  keep := fun c ob q n hc hx => b.keep c ob (a.keep c ob q n hc hx) (a.free c ob q n hx) hc hx
  slot := fun c ob q n hc hx => by
    obtain ⟨sl, e1⟩ := a.slot c ob q n hc hx
    obtain ⟨sl', e2⟩ := b.slot c _ e1 (a.free c ob q n hx) hc hx
    exact ⟨sl', e2⟩
  free := fun c ob q n hx => by
    obtain ⟨o', e1⟩ := a.there c ob q hx
    exact b.free c o' e1 (a.free c ob q n hx) hx
  there := fun c ob q hx => by
    obtain ⟨o', e1⟩ := a.there c ob q hx
    exact b.there c o' e1 hx
  tups := fun c xs q => b.tups c xs (a.tups c xs q)
  frzs := fun c ob xs q => b.frzs c ob xs (a.frzs c ob xs q)
  tbls := fun c ps q => by
    obtain ⟨m1, e1⟩ := a.tbls c ps q
    obtain ⟨m2, e2⟩ := b.tbls c _ e1
    exact ⟨m1 ++ m2, by rw [e2, Array.append_assoc]⟩
theorem Un.kept (k : ∀ b u, h.get? b = some u → h'.get? b = some u) : Un fs ex H H h h' :=
  ⟨fun b ob q _ _ _ => k b ob q, fun b ob q _ _ _ => ⟨ob.slots, k b ob q⟩, fun _ _ _ n _ => n, fun b ob q _ => ⟨ob, k b ob q⟩, fun _ _ q => q, fun _ _ _ q => q, fun _ ps q => ⟨#[], by rw [q]; simp⟩⟩
theorem Un.refl : Un fs ex H H h h := Un.kept fun _ _ q => q
theorem Un.laid (k : ∀ b u, h.get? b = some u → h'.get? b = some u) (hp : h.objs.size ≤ a) (hn : H a = none) : Un fs ex H (upd H a o) h h' where
  keep := fun b u q _ _ _ => k b u q
  slot := fun b u q _ _ _ => ⟨u.slots, k b u q⟩
  free := fun b u q n _ => by rw [upd_ne (Nat.ne_of_lt (Nat.lt_of_lt_of_le (Heap.lt_size q) hp))]; exact n
  there := fun b u q _ => ⟨u, k b u q⟩
  tups := fun b xs q => by rw [upd_ne (ne_of_none q hn)]; exact q
  frzs := fun b u xs q => by rw [upd_ne (ne_of_none q hn)]; exact q
  tbls := fun b ps q => ⟨#[], by rw [upd_ne (ne_of_none q hn), q]; simp⟩
theorem Un.write (mu : Mut (H x)) (he : e = x ∨ H e = some (.own x)) (k : ∀ b u, b ≠ e → h.get? b = some u → h'.get? b = some u) (heo : ∃ u, h'.get? e = some u) : Un fs ex H (upd H x o) h h' := by
  have hx : ∀ b, H b = none → b ≠ x := fun b n z => by subst z; rw [n] at mu; exact mu
  have hb : ∀ b, H b = none → b ≠ e := fun b n z => by
    subst z
    rcases he with r | r
    · exact hx b n r
    · rw [n] at r; cases r
  have hm : ∀ b u, H b = some u → ¬ Mut (some u) → b ≠ x := fun b u q nm z => by subst z; rw [q] at mu; exact nm mu
  refine ⟨fun b u q n _ _ => k b u (hb b n) q, fun b u q n _ _ => ⟨u.slots, k b u (hb b n) q⟩, fun b u q n _ => by rw [upd_ne (hx b n)]; exact n, fun b u q _ => ?_,
    fun b xs q => by rw [upd_ne (hm b _ q fun z => z)]; exact q, fun b u xs q => by rw [upd_ne (hm b _ q fun z => z)]; exact q, fun b ps q => ⟨#[], by rw [upd_ne (hm b _ q fun z => z), q]; simp⟩⟩
  by_cases hbe : b = e
  · subst hbe; exact heo
  · exact ⟨u, k b u hbe q⟩
theorem Un.mono (u : Un fs ex H H1 h h1) (hs : ∀ b ∈ fs, b ∈ fs') (hx : ∀ b ∈ ex, b ∈ ex') : Un fs' ex' H H1 h h1 :=
  ⟨fun b ob q n hb he => u.keep b ob q n (fun z => hb (hs b z)) fun z => he (hx b z), fun _ _ q n _ he => u.any q n fun z => he (hx _ z), fun b ob q n he => u.free b ob q n fun z => he (hx b z), fun b ob q he => u.there b ob q fun z => he (hx b z), u.tups, u.frzs, u.tbls⟩
end

/-! ### the heap without what is tracked -/
def trk (h : Heap) (H : Hp) : List Addr := (List.range h.objs.size).filter fun a => (H a).isSome
def hidT (h : Heap) (H : Hp) : Heap := PySem.W.hideAll h (trk h H)
theorem hidT_size (h : Heap) (H : Hp) : (hidT h H).objs.size = h.objs.size := PySem.W.hideAll_size _ _
theorem hidT_get {h : Heap} {H : Hp} {b : Addr} {o : Obj} (e : h.get? b = some o) (n : H b = none) : (hidT h H).get? b = some o :=
  PySem.W.hideAll_get _ e fun hm => by
    have q : (H b).isSome = true := (List.mem_filter.mp hm).2
    rw [n] at q; simp at q
theorem of_hidT {h : Heap} {H : Hp} {b : Addr} {o : Obj} (e : (hidT h H).get? b = some o) : h.get? b = some o ∧ H b = none := by
  have e' : h.get? b = some o := PySem.W.of_hideAll (trk h H) e
  refine ⟨e', ?_⟩
  cases q : H b with
  | none => rfl
  | some x =>
    have hm : b ∈ trk h H := List.mem_filter.mpr ⟨List.mem_range.mpr (Heap.lt_size e'), by simp [q]⟩
    have z : (hidT h H).get? b = none := PySem.W.hideAll_none (trk h H) hm
    rw [z] at e; cases e

/-! ### OpenK's ledger, filled with every new object but one -/
def allNews (g h : Heap) (L : Addr) : List (Addr × Obj) := (List.range h.objs.size).filterMap fun a => if a = L ∨ (g.get? a).isSome = true then none else (h.get? a).map fun o => (a, o)
theorem mem_allNews {g h : Heap} {L a : Addr} {o : Obj} (h1 : a ≠ L) (h2 : g.get? a = none) (h3 : h.get? a = some o) : (a, o) ∈ allNews g h L :=
  List.mem_filterMap.mpr ⟨a, List.mem_range.mpr (Heap.lt_size h3), by simp [h1, h2, h3]⟩
theorem of_mem_allNews {g h : Heap} {L : Addr} {p : Addr × Obj} (hp : p ∈ allNews g h L) : p.1 ≠ L ∧ g.get? p.1 = none ∧ h.get? p.1 = some p.2 := by
  obtain ⟨b, _, e⟩ := List.mem_filterMap.mp hp
  split at e
  · cases e
  · rename_i hn
    cases q : h.get? b with
    | none => rw [q] at e; simp at e
    | some u =>
      rw [q] at e
      simp only [Option.map_some, Option.some.injEq] at e
      subst e
      refine ⟨fun z => hn (.inl z), ?_, q⟩
      show g.get? b = none
      cases r : g.get? b with
      | none => rfl
      | some v => exact (hn (.inr (by simp [r]))).elim
def rest (g h : Heap) (L d : Addr) : List (Addr × Obj) := (allNews g h L).filter fun p => decide (p.1 ≠ d)
theorem rest_ne {g h : Heap} {L d : Addr} : ∀ p ∈ rest g h L d, p.1 ≠ d := fun p hp => of_decide_eq_true (List.mem_filter.mp hp).2
theorem mem_rest {g h : Heap} {L d a : Addr} {o : Obj} (h1 : a ≠ L) (h2 : g.get? a = none) (h3 : h.get? a = some o) (h4 : a ≠ d) : (a, o) ∈ rest g h L d :=
  List.mem_filter.mpr ⟨mem_allNews h1 h2 h3, decide_eq_true h4⟩
theorem news_all {g h : Heap} {L : Addr} : News g L h (allNews g h L) := fun p hp => let ⟨a, b, c⟩ := of_mem_allNews hp; ⟨c, a, b⟩
theorem news_at {g h : Heap} {L d : Addr} {o : Obj} (h1 : d ≠ L) (h2 : g.get? d = none) (h3 : h.get? d = some o) : News g L h ((d, o) :: rest g h L d) := fun p hp => by
  rcases List.mem_cons.mp hp with rfl | hp
  · exact ⟨h3, h1, h2⟩
  · exact news_all p (List.mem_filter.mp hp).1
/-- behind a rule that changed d alone: all else but the frame is kept -/
theorem kept_of_news {g h h' : Heap} {L d : Addr} {m : Str → Option Value} (k : ∀ b o, g.get? b = some o → h.get? b = some o) (F : Fr g L h' m) (N : News g L h' (rest g h L d)) :
    ∀ b o, b ≠ L → b ≠ d → h.get? b = some o → h'.get? b = some o := fun b o h1 h2 e => by
  cases q : g.get? b with
  | some u =>
    have := k b u q
    rw [e] at this; cases this
    exact F.keep b _ q
  | none => exact (N (b, o) (mem_rest h1 q e h2)).1
end L2

namespace L2
open PySem PySem.Spec PyProof.Rows

/-- the module's facts, over the base: the heap at the law's entry without what is tracked there -/
structure Mod (K : PySem.W.Frag) (mg : Str → Option Value) (base : Heap) : Prop where
  kin : K.In base
  glob : base.Ns mainGlobals mg
  blt : ∃ mb, base.Ns builtinsNs mb ∧ ∀ x : Str, x ≠ "__name__" → mb x = bootBuiltins x
  nolimit : base.NoLimit

/-- the context: a def's body (or a comprehension's block) running. base: fixed through the whole law; s₀, H₀: the entry; outer: the frames whose slots others may change (a def's callers); stack: all frames that run;
   ex: iterators that were made ahead of the entry and are walked here (a comprehension's); fn: the names whose cells were made at the entry (a def: all; a comprehension's block: its own); calm: not within an except suite; pn: pins that every state bears; xe: what is wanted of an exception that leaves the code -/
structure Cx where
  prog : Program
  w : World
  K : PySem.W.Frag
  mg : Str → Option Value
  base : Heap
  A : Around
  N : List Str
  s₀ : Shared
  H₀ : Hp
  env : Env
  outer : List Env
  stack : List Env
  ex : List Addr
  fn : Str → Bool
  calm : Bool
  pn : List (Addr × Obj)
  xe : Value → Shared → Prop
/-- the callers' frames -/
def frs (l : List Env) : List Addr := l.filterMap (·.frame)
abbrev Cx.fs (X : Cx) : List Addr := frs X.outer

def Vis (sc : Scope) (x : Str) : Prop := sc.names.lookup x = some .local ∨ sc.names.lookup x = some .cell ∨ sc.names.lookup x = some .free
def Loc (sc : Scope) (x : Str) : Prop := sc.names.lookup x = some .local ∨ sc.names.lookup x = some .cell
def Look (env : Env) (h : Heap) (m : Str → Option Value) (x : Str) (u : Value) : Prop :=
  (env.kindOf x = some .local ∧ m x = some u) ∨ ((env.kindOf x = some .cell ∨ env.kindOf x = some .free) ∧ ∃ c, env.cells.lookup x = some c ∧ h.IsCell c (some u))

structure Cx.Ok (X : Cx) : Prop where
  mod : Mod X.K X.mg X.base
  kind : X.env.scope.kind = .function
  glob : X.env.globals = mainGlobals
  blt : X.env.builtins = builtinsNs
  above : X.s₀.heap.objs.size ≤ X.env.locals
  inj : ∀ x y c, X.env.cells.lookup x = some c → X.env.cells.lookup y = some c → x = y
  has : ∀ x, (X.env.kindOf x = some .cell ∨ X.env.kindOf x = some .free) → ∃ c, X.env.cells.lookup x = some c
  cab : ∀ x c, X.fn x = true → X.env.cells.lookup x = some c → X.s₀.heap.objs.size ≤ c
  hd : X.calm = true → X.A.handled = none
  frames : X.A.frames = some X.stack
  stk : X.stack = X.outer ∨ (X.stack = X.env :: X.outer ∧ X.env.frame = some X.env.locals)
  exf : ∀ b ∈ X.ex, b ≠ X.env.locals ∧ ∀ x c, X.env.cells.lookup x = some c → c ≠ b
  bs : ∀ b o, X.base.get? b = some o → X.s₀.heap.get? b = some o ∧ X.H₀ b = none
  bsz : X.base.objs.size ≤ X.s₀.heap.objs.size
  noex : ∀ b o, X.base.get? b = some o → b ∉ X.ex
  exfs : ∀ b ∈ X.ex, b ∉ X.fs
  funs : X.s₀.heap.FunFrames X.base X.outer
  frf : ∀ b ∈ X.fs, X.H₀ b = none

structure Inv (X : Cx) (pins : List (Addr × Obj)) (σ : List (Option V)) (H : Hp) (s : Shared) : Prop where
  ok : X.Ok
  os : s.os = X.s₀.os
  bare : AllBare s.gens
  base : Un X.fs X.ex X.H₀ H X.s₀.heap s.heap
  loc : ∃ m, s.heap.Ns X.env.locals m ∧ ∀ (i : Nat) (x : Str) (v : V), X.N[i]? = some x → σ[i]? = some (some v) → Vis X.env.scope x → ∃ u, RelV v u ∧ Look X.env s.heap m x u
  cell : ∀ x c, X.env.cells.lookup x = some c → ∃ v, s.heap.IsCell c v
  free : H X.env.locals = none
  freeC : ∀ x c, X.env.cells.lookup x = some c → H c = none
  pin : ∀ p ∈ X.pn ++ pins, s.heap.get? p.1 = some p.2 ∧ H p.1 = none ∧ p.1 ≠ X.env.locals ∧ p.1 ∉ X.fs ∧ ∀ v, p.2.data ≠ .cell v
  hok : HOk X.prog X.w H s.heap
  len : σ.length = X.N.length

section
variable {X : Cx} {pins : List (Addr × Obj)} {σ : List (Option V)} {H H' : Hp} {s : Shared} {h' : Heap}

theorem Cx.Ok.nofr (ok : X.Ok) {b : Addr} {o : Obj} (e : X.base.get? b = some o) : b ∉ X.fs := fun hb => by
  have := (ok.funs.mem hb).1
  rw [e] at this; cases this
theorem Inv.bs (I : Inv X pins σ H s) : ∀ b o, X.base.get? b = some o → s.heap.get? b = some o ∧ H b = none := fun b o e =>
  ⟨I.base.keep b o (I.ok.bs b o e).1 (I.ok.bs b o e).2 (I.ok.nofr e) (I.ok.noex b o e), I.base.free b o (I.ok.bs b o e).1 (I.ok.bs b o e).2 (I.ok.noex b o e)⟩
theorem Inv.bk (I : Inv X pins σ H s) : ∀ b o, X.base.get? b = some o → s.heap.get? b = some o := fun b o e => (I.bs b o e).1
theorem Inv.mod (I : Inv X pins σ H s) : Mod X.K X.mg X.base := I.ok.mod
theorem Inv.kIn (I : Inv X pins σ H s) : X.K.In s.heap := I.ok.mod.kin.keeps I.bk
theorem Inv.nolimit (I : Inv X pins σ H s) : s.heap.NoLimit := I.ok.mod.nolimit.keeps I.bk
/-- the frame over the base: for OpenK's rules (K.In X.base is I.mod.kin) -/
theorem Inv.fr (I : Inv X pins σ H s) : ∃ m, Fr X.base X.env.locals s.heap m :=
  let ⟨m, hn, _⟩ := I.loc
  ⟨m, hn, I.bk, Nat.le_trans I.ok.bsz I.ok.above⟩
theorem Inv.lt (I : Inv X pins σ H s) : X.env.locals < s.heap.objs.size := let ⟨_, hn, _⟩ := I.loc; hn.lt
theorem Inv.sz (I : Inv X pins σ H s) : X.s₀.heap.objs.size ≤ s.heap.objs.size := Nat.le_trans I.ok.above (Nat.le_of_lt I.lt)
theorem Inv.nofs (I : Inv X pins σ H s) {a : Addr} (h : s.heap.objs.size ≤ a) : a ∉ X.fs := fun hb => by
  obtain ⟨_, o, ho, _⟩ := I.ok.funs.mem hb
  exact absurd (Nat.lt_of_lt_of_le (Heap.lt_size ho) (Nat.le_trans I.sz h)) (Nat.lt_irrefl _)
theorem Inv.cne (I : Inv X pins σ H s) : ∀ x c, X.env.cells.lookup x = some c → c ≠ X.env.locals := fun x c e z => by
  obtain ⟨v, o, ho, hd⟩ := I.cell x c e
  obtain ⟨m, ⟨o', es, ep, ho', hd', _⟩, _⟩ := I.loc
  rw [z, ho'] at ho; cases ho; rw [hd'] at hd; cases hd
theorem Inv.funs (I : Inv X pins σ H s) : s.heap.FunFrames X.base X.outer := by
  have all : ∀ (l : List Env), (∀ b ∈ frs l, b ∈ X.fs) → X.s₀.heap.FunFrames X.base l → s.heap.FunFrames X.base l := by
    intro l
    induction l with
    | nil => intro _ _; trivial
    | cons env r ih =>
      intro hs hl
      obtain ⟨hk, ⟨L, o, hf, hn, ho, hd⟩, hr⟩ := hl
      have hL : L ∈ X.fs := hs L (by unfold frs; rw [List.filterMap_cons, hf]; exact List.mem_cons_self)
      obtain ⟨sl, e⟩ := I.base.slot L o ho (I.ok.frf L hL) hL fun z => I.ok.exfs L z hL
      exact ⟨hk, ⟨L, _, hf, hn, e, hd⟩, ih (fun b hb => hs b (by unfold frs; rw [List.filterMap_cons, hf]; exact List.mem_cons_of_mem _ hb)) hr⟩
  exact all X.outer (fun _ hb => hb) I.ok.funs

/-- the frames that run, for a call -/
theorem Inv.stack (I : Inv X pins σ H s) : s.heap.FunFrames X.base X.stack := by
  rcases I.ok.stk with e | ⟨e, hf⟩
  · rw [e]; exact I.funs
  · rw [e]
    obtain ⟨m, hn, _⟩ := I.loc
    refine .cons (by rw [I.ok.kind]; decide) hf hn ?_ I.funs
    exact Heap.get?_none_of_le (Nat.le_trans I.ok.bsz I.ok.above)
theorem Inv.stkSub (I : Inv X pins σ H s) : ∀ b ∈ frs X.stack, b ∈ X.env.locals :: X.fs := fun b hb => by
  rcases I.ok.stk with e | ⟨e, hf⟩
  · rw [e] at hb; exact List.mem_cons_of_mem _ hb
  · rw [e] at hb
    unfold frs at hb
    rw [List.filterMap_cons, hf] at hb
    exact hb
theorem Inv.stkFree (I : Inv X pins σ H s) : ∀ b ∈ frs X.stack, H b = none := fun b hb => by
  rcases List.mem_cons.mp (I.stkSub b hb) with e | hb
  · rw [e]; exact I.free
  · obtain ⟨_, o, ho, _⟩ := I.ok.funs.mem hb
    exact I.base.free b o ho (I.ok.frf b hb) fun z => I.ok.exfs b z hb

/-- THE STEP: the untracked objects but the frame and the records at ch are kept (the callers' frames up to slots), the frame's map is kept, the new abstract heap is held -/
theorem Inv.step {g' : Array GenState} {t' : Nat} {d' : Drawn} {ch : List Addr} (I : Inv X pins σ H s)
    (hch : ∀ b ∈ ch, (b ∈ X.ex ∨ X.s₀.heap.objs.size ≤ b) ∧ b ≠ X.env.locals ∧ (∀ x c, X.env.cells.lookup x = some c → c ≠ b) ∧ ∀ p ∈ X.pn ++ pins, p.1 ≠ b)
    (keep : ∀ b o, b ≠ X.env.locals → b ∉ X.fs → b ∉ ch → s.heap.get? b = some o → H b = none → h'.get? b = some o)
    (slot : ∀ b o, b ≠ X.env.locals → b ∈ X.fs → b ∉ ch → s.heap.get? b = some o → H b = none → ∃ sl, h'.get? b = some { o with slots := sl }) (free : ∀ b o, b ∉ ch → s.heap.get? b = some o → H b = none → H' b = none)
    (there : ∀ b o, b ∉ ch → s.heap.get? b = some o → ∃ o', h'.get? b = some o')
    (tups : ∀ b xs, H b = some (.tup xs) → H' b = some (.tup xs)) (frzs : ∀ b o u, H b = some (.frz o u) → H' b = some (.frz o u)) (tbls : ∀ b ps, H b = some (.tbl ps) → ∃ more, H' b = some (.tbl (ps ++ more)))
    (ns : ∀ m, s.heap.Ns X.env.locals m → h'.Ns X.env.locals m) (hok : HOk X.prog X.w H' h') (hg : AllBare g') :
    Inv X pins σ H' { s with heap := h', gens := g', drawn := d', toks := t' } := by
  have neL : ∀ b o, X.s₀.heap.get? b = some o → b ≠ X.env.locals := fun b o e => Nat.ne_of_lt (Nat.lt_of_lt_of_le (Heap.lt_size e) I.ok.above)
  have neC : ∀ b o, X.s₀.heap.get? b = some o → b ∉ X.ex → b ∉ ch := fun b o e hx hb => by
    rcases (hch b hb).1 with z | z
    · exact hx z
    · exact absurd (Nat.lt_of_lt_of_le (Heap.lt_size e) z) (Nat.lt_irrefl _)
  have cellK : ∀ x c, X.env.cells.lookup x = some c → ∀ v, s.heap.IsCell c v → h'.IsCell c v := fun x c e v ⟨o, ho, hd⟩ => by
    have nch : c ∉ ch := fun z => (hch c z).2.2.1 x c e rfl
    by_cases hc : c ∈ X.fs
    · obtain ⟨sl, q⟩ := slot c o (I.cne x c e) hc nch ho (I.freeC x c e)
      exact ⟨_, q, hd⟩
    · exact ⟨o, keep c o (I.cne x c e) hc nch ho (I.freeC x c e), hd⟩
  refine ⟨I.ok, I.os, hg, ⟨fun b o e n hb hx => ?_, fun b o e n hb hx => ?_, fun b o e n hx => ?_, fun b o e hx => ?_, fun b xs e => tups b xs (I.base.tups b xs e), fun b o xs e => frzs b o xs (I.base.frzs b o xs e), fun b ps e => ?_⟩, ?_, fun x c e => ?_, ?_, fun x c e => ?_, fun p hp => ?_, hok, I.len⟩
  · exact keep b o (neL b o e) hb (neC b o e hx) (I.base.keep b o e n hb hx) (I.base.free b o e n hx)
  · obtain ⟨sl, e1⟩ := I.base.slot b o e n hb hx
    obtain ⟨sl', e2⟩ := slot b _ (neL b o e) hb (neC b o e hx) e1 (I.base.free b o e n hx)
    exact ⟨sl', e2⟩
  · obtain ⟨o', e1⟩ := I.base.there b o e hx
    exact free b o' (neC b o e hx) e1 (I.base.free b o e n hx)
  · obtain ⟨o', e1⟩ := I.base.there b o e hx
    exact there b o' (neC b o e hx) e1
  · obtain ⟨m1, e1⟩ := I.base.tbls b ps e
    obtain ⟨m2, e2⟩ := tbls b _ e1
    exact ⟨m1 ++ m2, by rw [e2, Array.append_assoc]⟩
  · obtain ⟨m, hn, hl⟩ := I.loc
    refine ⟨m, ns m hn, fun i x v e1 e2 e3 => ?_⟩
    obtain ⟨u, r, l⟩ := hl i x v e1 e2 e3
    refine ⟨u, r, ?_⟩
    rcases l with l | ⟨k, c, e, z⟩
    · exact .inl l
    · exact .inr ⟨k, c, e, cellK x c e _ z⟩
  · obtain ⟨v, z⟩ := I.cell x c e
    exact ⟨v, cellK x c e v z⟩
  · obtain ⟨m, ⟨o, _, _, ho, _⟩, _⟩ := I.loc
    exact free _ o (fun z => (hch _ z).2.1 rfl) ho I.free
  · obtain ⟨v, o, ho, hd⟩ := I.cell x c e
    exact free c o (fun z => (hch c z).2.2.1 x c e rfl) ho (I.freeC x c e)
  · obtain ⟨e, n, ne, nf, d⟩ := I.pin p hp
    have nch : p.1 ∉ ch := fun z => (hch p.1 z).2.2.2 p hp rfl
    exact ⟨keep p.1 p.2 ne nf nch e n, free p.1 p.2 nch e n, ne, nf, d⟩
/-- .. where the frame's own object is kept too -/
theorem Inv.un {t' : Nat} (I : Inv X pins σ H s) (u : Un X.fs [] H H' s.heap h') (hok : HOk X.prog X.w H' h') : Inv X pins σ H' { s with heap := h', toks := t' } := by
  obtain ⟨m, ⟨o, es, ep, ho, r⟩, _⟩ := id I.loc
  obtain ⟨sl, hL⟩ := u.any ho I.free (by simp)
  exact I.step (g' := s.gens) (d' := s.drawn) (ch := []) (fun _ z => nomatch z) (fun b o _ hb _ e n => u.keep b o e n hb (by simp)) (fun b o _ hb _ e n => u.slot b o e n hb (by simp)) (fun b o _ e n => u.free b o e n (by simp)) (fun b o _ e => u.there b o e (by simp)) u.tups u.frzs u.tbls (fun m' hm => by
    obtain ⟨o', es', ep', ho', r'⟩ := hm
    rw [ho] at ho'; cases ho'
    exact ⟨_, es', ep', hL, r'⟩) hok I.bare
/-- behind a call (or a comprehension's block): the slots of this frame may have changed too, the records at ch may have turned -/
theorem Inv.call {g' : Array GenState} {t' : Nat} {d' : Drawn} {ch : List Addr} (I : Inv X pins σ H s) (u : Un (frs X.stack) ch H H' s.heap h') (hok : HOk X.prog X.w H' h') (hg : AllBare g')
    (hch : ∀ b ∈ ch, (b ∈ X.ex ∨ X.s₀.heap.objs.size ≤ b) ∧ b ≠ X.env.locals ∧ (∀ x c, X.env.cells.lookup x = some c → c ≠ b) ∧ ∀ p ∈ X.pn ++ pins, p.1 ≠ b) :
    Inv X pins σ H' { s with heap := h', gens := g', drawn := d', toks := t' } := by
  obtain ⟨m, ⟨o, es, ep, ho, r⟩, _⟩ := id I.loc
  obtain ⟨sl, hL⟩ := u.any ho I.free fun z => (hch _ z).2.1 rfl
  exact I.step (ch := ch) hch (fun b o hL hb hc e n => u.keep b o e n (fun z => (List.mem_cons.mp (I.stkSub b z)).elim hL hb) hc) (fun b o _ _ hc e n => u.any e n hc) (fun b o hc e n => u.free b o e n hc) (fun b o hc e => u.there b o e hc) u.tups u.frzs u.tbls (fun m' hm => by
    obtain ⟨o', es', ep', ho', r'⟩ := hm
    rw [ho] at ho'; cases ho'
    exact ⟨_, es', ep', hL, r'⟩) hok hg
/-- an untracked record of ours (an iterator) has turned -/
theorem Inv.turned {t' : Nat} {it : Addr} (I : Inv X pins σ H s) (k : ∀ b o, b ≠ it → s.heap.get? b = some o → h'.get? b = some o) (hn : H it = none) (hL : it ≠ X.env.locals)
    (h1 : it ∈ X.ex ∨ X.s₀.heap.objs.size ≤ it) (h2 : ∀ x c, X.env.cells.lookup x = some c → c ≠ it) (h3 : ∀ p ∈ X.pn ++ pins, p.1 ≠ it) : Inv X pins σ H { s with heap := h', toks := t' } := by
  have nit : ∀ b u, H b = some u → b ≠ it := fun b u e z => by rw [z, hn] at e; cases e
  refine I.step (g' := s.gens) (d' := s.drawn) (ch := [it]) (fun b hb => ?_) (fun b o _ _ hc e _ => k b o (fun z => hc (by simp [z])) e) (fun b o _ _ hc e _ => ⟨o.slots, k b o (fun z => hc (by simp [z])) e⟩) (fun _ _ _ _ n => n)
    (fun b o hc e => ⟨o, k b o (fun z => hc (by simp [z])) e⟩) (fun _ _ e => e) (fun _ _ _ e => e) (fun b ps e => ⟨#[], by rw [e]; simp⟩) (fun m hm => ?_) (fun b u e => ?_) I.bare
  · have e : b = it := by simpa using hb
    subst e
    exact ⟨h1, hL, h2, h3⟩
  · obtain ⟨o, es, ep, ho, r⟩ := hm
    exact ⟨o, es, ep, k _ o (Ne.symm hL) ho, r⟩
  · refine (I.hok b u e).stay (fun c v hc q => k c v ?_ q) (fun _ q => q) fun _ _ q => q
    rcases hc with z | z
    · rw [z]; exact nit b u e
    · exact nit c _ z
theorem Inv.tok (I : Inv X pins σ H s) (t : Nat) : Inv X pins σ H { s with toks := t } := I.un (h' := s.heap) (t' := t) Un.refl I.hok
/-- all objects kept -/
theorem Inv.kept {t' : Nat} (I : Inv X pins σ H s) (k : ∀ b u, s.heap.get? b = some u → h'.get? b = some u) : Inv X pins σ H { s with heap := h', toks := t' } := I.un (Un.kept k) (I.hok.kept k)
/-- a new object laid and tracked -/
theorem Inv.laid {a : Addr} {o : HO} {t' : Nat} (I : Inv X pins σ H s) (k : ∀ b u, s.heap.get? b = some u → h'.get? b = some u) (hp : s.heap.objs.size ≤ a) (new : ObjOk X.prog X.w (upd H a o) h' a o) :
    Inv X pins σ (upd H a o) { s with heap := h', toks := t' } := I.un (Un.laid k hp (I.hok.fresh hp)) (I.hok.laid k hp new)
/-- an object written -/
theorem Inv.write {x e : Addr} {o : HO} {t' : Nat} (I : Inv X pins σ H s) (mu : Mut (H x)) (he : e = x ∨ H e = some (.own x)) (k : ∀ b u, b ≠ e → s.heap.get? b = some u → h'.get? b = some u) (heo : ∃ u, h'.get? e = some u)
    (new : ObjOk X.prog X.w (upd H x o) h' x o) : Inv X pins σ (upd H x o) { s with heap := h', toks := t' } := I.un (Un.write mu he k heo) (I.hok.write mu he k heo new)
/-- forgetting slots, pins -/
theorem Inv.weak {σ' : List (Option V)} (I : Inv X pins σ H s) (hl : σ'.length = σ.length) (w : ∀ (i : Nat) v, σ'[i]? = some (some v) → σ[i]? = some (some v)) : Inv X pins σ' H s :=
  ⟨I.ok, I.os, I.bare, I.base, let ⟨m, hn, hl'⟩ := I.loc; ⟨m, hn, fun i x v e1 e2 e3 => hl' i x v e1 (w i v e2) e3⟩, I.cell, I.free, I.freeC, I.pin, I.hok, hl.trans I.len⟩
theorem Inv.pins_of {pins' : List (Addr × Obj)} (I : Inv X pins σ H s) (h : ∀ p ∈ pins', s.heap.get? p.1 = some p.2 ∧ H p.1 = none ∧ p.1 ≠ X.env.locals ∧ p.1 ∉ X.fs ∧ ∀ v, p.2.data ≠ .cell v) : Inv X pins' σ H s :=
  ⟨I.ok, I.os, I.bare, I.base, I.loc, I.cell, I.free, I.freeC, fun p hp => (List.mem_append.mp hp).elim (fun z => I.pin p (List.mem_append_left _ z)) (h p), I.hok, I.len⟩

theorem nodup_ix {N : List Str} (hN : N.Nodup) {i j : Nat} {x : Str} (a : N[i]? = some x) (b : N[j]? = some x) : i = j := by
  obtain ⟨h1, e1⟩ := List.getElem?_eq_some_iff.mp a
  obtain ⟨h2, e2⟩ := List.getElem?_eq_some_iff.mp b
  exact (List.getElem_inj hN).mp (e1.trans e2.symm)

/-- a name is stored; what changed -/
theorem store_ok2 {M : Model} {A : Around} {E : Value → Shared → Prop} {i : Nat} {x : Str} {v : V} {u : Value} {Q : Unit → Shared → Prop} (I : Inv X pins σ H s) (hN : X.N.Nodup) (hi : X.N[i]? = some x) (hx : Loc X.env.scope x) (r : RelV v u)
    (h : ∀ s', Inv X pins (σ.set i (some v)) H s' → (∃ a, Heap.SameBut a s.heap s'.heap ∧ (a = X.env.locals ∨ X.env.cells.lookup x = some a)) → Q () s') (hf : X.fn x = true ∨ X.env.scope.names.lookup x = some .local := by first | exact .inl rfl | exact .inr rfl | assumption) : wpAny M A (storeName X.env x u) Q E s := by
  obtain ⟨m, hn, hl⟩ := id I.loc
  have hcls : (X.env.scope.kind == .class || (X.env.scope.kind == .module && X.env.locals != X.env.globals)) = false := by rw [I.ok.kind]; rfl
  have hiσ : i < σ.length := by rw [I.len]; exact (List.getElem?_eq_some_iff.mp hi).1
  have cne := I.cne
  have tracked : ∀ {a : Addr} {h' : Heap}, (∃ o, s.heap.get? a = some o ∧ H a = none) → Heap.SameBut a s.heap h' → HOk X.prog X.w H h' := fun {a h'} ha hs b ob e => by
    obtain ⟨_, _, hfree⟩ := ha
    refine (I.hok b ob e).stay (fun c w' hc q => (hs.2 c ?_).trans q) (fun _ q => q) fun _ _ q => q
    rintro rfl
    rcases hc with rfl | hc
    · rw [hfree] at e; cases e
    · rw [hfree] at hc; cases hc
  rcases hx with hk | hk
  · refine wpAny_storeName_local hk hn (fun h' hn' hs => ?_) hcls
    obtain ⟨oL, _, _, hoL, _⟩ := id hn
    refine h _ ⟨I.ok, I.os, I.bare, ⟨fun b o e n hb hx => ?_, fun b o e n hb hx => ?_, I.base.free, fun b o e hx => ?_, I.base.tups, I.base.frzs, I.base.tbls⟩, ⟨_, hn', fun j y v' e1 e2 e3 => ?_⟩, fun y c e => ?_, I.free, I.freeC, fun p hp => ?_, tracked ⟨oL, hoL, I.free⟩ hs, by simpa using I.len⟩ ⟨_, hs, .inl rfl⟩
    · exact (hs.2 b (Nat.ne_of_lt (Nat.lt_of_lt_of_le (Heap.lt_size e) I.ok.above))).trans (I.base.keep b o e n hb hx)
    · obtain ⟨sl, e1⟩ := I.base.slot b o e n hb hx
      exact ⟨sl, (hs.2 b (Nat.ne_of_lt (Nat.lt_of_lt_of_le (Heap.lt_size e) I.ok.above))).trans e1⟩
    · obtain ⟨o', e1⟩ := I.base.there b o e hx
      exact ⟨o', (hs.2 b (Nat.ne_of_lt (Nat.lt_of_lt_of_le (Heap.lt_size e) I.ok.above))).trans e1⟩
    · by_cases hj : j = i
      · subst hj
        rw [hi] at e1; cases e1
        rw [List.getElem?_set_self hiσ] at e2
        cases e2
        exact ⟨u, r, .inl ⟨hk, by simp⟩⟩
      · rw [List.getElem?_set_ne (Ne.symm hj)] at e2
        obtain ⟨u', r', q⟩ := hl j y v' e1 e2 e3
        refine ⟨u', r', ?_⟩
        rcases q with ⟨k, e⟩ | ⟨k, c, e, z⟩
        · refine .inl ⟨k, ?_⟩
          have : y ≠ x := fun e => hj (nodup_ix hN e1 (e ▸ hi))
          simp [this, e]
        · exact .inr ⟨k, c, e, z.sameBut hs (cne y c e)⟩
    · obtain ⟨w', z⟩ := I.cell y c e
      exact ⟨w', z.sameBut hs (cne y c e)⟩
    · obtain ⟨e, n, ne, nf, d⟩ := I.pin p hp
      exact ⟨(hs.2 p.1 ne).trans e, n, ne, nf, d⟩
  · have hfn : X.fn x = true := by
      rcases hf with z | z
      · exact z
      · rw [z] at hk; cases hk
    obtain ⟨c, hc⟩ := I.ok.has x (.inl hk)
    obtain ⟨w', z⟩ := I.cell x c hc
    refine wpAny_storeName_cell I.ok.kind hk hc z (fun h' hc' hs => ?_)
    obtain ⟨oc, hoc, hocd⟩ := id z
    refine h { s with heap := h' } ⟨I.ok, I.os, I.bare, ⟨fun b o e n hb hx => ?_, fun b o e n hb hx => ?_, I.base.free, fun b o e hx => ?_, I.base.tups, I.base.frzs, I.base.tbls⟩, ⟨m, hn.sameBut hs (Ne.symm (cne x c hc)), fun j y v' e1 e2 e3 => ?_⟩, fun y c' e => ?_, I.free, I.freeC, fun p hp => ?_, tracked ⟨oc, hoc, I.freeC x c hc⟩ hs, by simpa using I.len⟩ ⟨c, hs, .inr hc⟩
    · exact (hs.2 b (Nat.ne_of_lt (Nat.lt_of_lt_of_le (Heap.lt_size e) (I.ok.cab x c hfn hc)))).trans (I.base.keep b o e n hb hx)
    · obtain ⟨sl, e1⟩ := I.base.slot b o e n hb hx
      exact ⟨sl, (hs.2 b (Nat.ne_of_lt (Nat.lt_of_lt_of_le (Heap.lt_size e) (I.ok.cab x c hfn hc)))).trans e1⟩
    · obtain ⟨o', e1⟩ := I.base.there b o e hx
      exact ⟨o', (hs.2 b (Nat.ne_of_lt (Nat.lt_of_lt_of_le (Heap.lt_size e) (I.ok.cab x c hfn hc)))).trans e1⟩
    · by_cases hj : j = i
      · subst hj
        rw [hi] at e1; cases e1
        rw [List.getElem?_set_self hiσ] at e2
        cases e2
        exact ⟨u, r, .inr ⟨.inl hk, c, hc, hc'⟩⟩
      · rw [List.getElem?_set_ne (Ne.symm hj)] at e2
        obtain ⟨u', r', q⟩ := hl j y v' e1 e2 e3
        refine ⟨u', r', ?_⟩
        rcases q with q | ⟨k, c', e, z'⟩
        · exact .inl q
        · refine .inr ⟨k, c', e, z'.sameBut hs ?_⟩
          rintro rfl
          exact hj (nodup_ix hN e1 (I.ok.inj _ _ _ e hc ▸ hi))
    · by_cases hcc : c' = c
      · subst hcc; exact ⟨_, hc'⟩
      · obtain ⟨w2, z2⟩ := I.cell y c' e
        exact ⟨w2, z2.sameBut hs hcc⟩
    · obtain ⟨e, n, ne, nf, d⟩ := I.pin p hp
      refine ⟨(hs.2 p.1 ?_).trans e, n, ne, nf, d⟩
      intro q
      rw [q, hoc] at e
      have q' : oc = p.2 := Option.some.inj e
      exact d w' (by rw [← q']; exact hocd)
theorem store_ok {M : Model} {A : Around} {E : Value → Shared → Prop} {i : Nat} {x : Str} {v : V} {u : Value} {Q : Unit → Shared → Prop} (I : Inv X pins σ H s) (hN : X.N.Nodup) (hi : X.N[i]? = some x) (hx : Loc X.env.scope x) (r : RelV v u)
    (h : ∀ s', Inv X pins (σ.set i (some v)) H s' → Q () s') (hf : X.fn x = true ∨ X.env.scope.names.lookup x = some .local := by first | exact .inl rfl | exact .inr rfl | assumption) : wpAny M A (storeName X.env x u) Q E s :=
  store_ok2 I hN hi hx r (fun s' I' _ => h s' I') hf
/-- behind a call or a block, the state as it is -/
theorem Inv.call' {s' : Shared} {ch : List Addr} (I : Inv X pins σ H s) (ho : s'.os = s.os) (u : Un (frs X.stack) ch H H' s.heap s'.heap) (hok : HOk X.prog X.w H' s'.heap) (hg : AllBare s'.gens)
    (hch : ∀ b ∈ ch, (b ∈ X.ex ∨ X.s₀.heap.objs.size ≤ b) ∧ b ≠ X.env.locals ∧ (∀ x c, X.env.cells.lookup x = some c → c ≠ b) ∧ ∀ p ∈ X.pn ++ pins, p.1 ≠ b) : Inv X pins σ H' s' := by
  obtain ⟨h', g', d', t', o'⟩ := s'
  have e : o' = s.os := ho
  subst e
  exact I.call (g' := g') (t' := t') (d' := d') u hok hg hch
end

/-! ### the judgements -/
/-- an exception: its class, its own dict's address (where it has one), the abstract heap behind it -/
abbrev XK := Value → Option Addr → Hp → Prop
abbrev St := List (Option V)
abbrev VK := V → Hp → Prop
/-- an expression's reading; a test's; an argument list's -/
abbrev TE := St → Hp → VK → Prop
abbrev TT := St → Hp → (Bool → Hp → Prop) → Prop
abbrev TA := St → Hp → (List V → Hp → Prop) → Prop
/-- what is wanted behind a statement -/
structure Ends where
  nx : St → Hp → Prop
  rt : VK
  bk : St → Hp → Prop := fun _ _ => False
  ct : St → Hp → Prop := fun _ _ => False
abbrev TS := Ends → St → Hp → Prop

def EP (X : Cx) (pins : List (Addr × Obj)) (σ : St) (Q : VK) (u : Value) (s' : Shared) : Prop := ∃ v H', Inv X pins σ H' s' ∧ RelV v u ∧ Q v H'
def TP (X : Cx) (pins : List (Addr × Obj)) (σ : St) (Q : Bool → Hp → Prop) (b : Bool) (s' : Shared) : Prop := ∃ H', Inv X pins σ H' s' ∧ Q b H'
def AP (X : Cx) (pins : List (Addr × Obj)) (σ : St) (Q : List V → Hp → Prop) (us : List Value) (s' : Shared) : Prop := ∃ vs H', Inv X pins σ H' s' ∧ Vals vs us ∧ Q vs H'
def SP (X : Cx) (pins : List (Addr × Obj)) (D : Ends) (f : Flow) (s' : Shared) : Prop :=
  match f with
  | .next => ∃ σ' H', Inv X pins σ' H' s' ∧ D.nx σ' H'
  | .brk => ∃ σ' H', Inv X pins σ' H' s' ∧ D.bk σ' H'
  | .cont => ∃ σ' H', Inv X pins σ' H' s' ∧ D.ct σ' H'
  | .ret u => ∃ v σ' H', Inv X pins σ' H' s' ∧ RelV v u ∧ D.rt v H'

def PE (X : Cx) (e : Expr) (t : TE) : Prop :=
  ∀ (pins : List (Addr × Obj)) (s : Shared) (σ : St) (H : Hp) (Q : VK), Inv X pins σ H s → t σ H Q → wpAny (model X.prog X.w) X.A (eval e X.env) (EP X pins σ Q) X.xe s
def PT (X : Cx) (e : Expr) (t : TT) : Prop :=
  ∀ (pins : List (Addr × Obj)) (s : Shared) (σ : St) (H : Hp) (Q : Bool → Hp → Prop), Inv X pins σ H s → t σ H Q → wpAny (model X.prog X.w) X.A (isTrue e X.env (eval e X.env)) (TP X pins σ Q) X.xe s
/-- a test whatever its 'whole' is (and, or) -/
def PW (X : Cx) (e : Expr) (t : TT) : Prop :=
  ∀ (whole : Sem Value) (pins : List (Addr × Obj)) (s : Shared) (σ : St) (H : Hp) (Q : Bool → Hp → Prop), Inv X pins σ H s → t σ H Q → wpAny (model X.prog X.w) X.A (isTrue e X.env whole) (TP X pins σ Q) X.xe s
theorem PW.pt {X : Cx} {e : Expr} {t : TT} (h : PW X e t) : PT X e t := h _
/-- an argument list (no star), from the left -/
def PA (X : Cx) (es : List Expr) (t : TA) : Prop :=
  ∀ (pos : Pos) (pins : List (Addr × Obj)) (s : Shared) (σ : St) (H : Hp) (Q : List V → Hp → Prop), Inv X pins σ H s → t σ H Q → wpAny (model X.prog X.w) X.A (spliced (backTo pos (starEach es X.env))) (AP X pins σ Q) X.xe s
def PS (X : Cx) (st : Stmt) (t : TS) : Prop :=
  ∀ (pins : List (Addr × Obj)) (s : Shared) (σ : St) (H : Hp) (D : Ends), Inv X pins σ H s → t D σ H → wpAny (model X.prog X.w) X.A (exec st X.env) (SP X pins D) X.xe s
def PSs (X : Cx) (st : List Stmt) (t : TS) : Prop :=
  ∀ (pins : List (Addr × Obj)) (s : Shared) (σ : St) (H : Hp) (D : Ends), Inv X pins σ H s → t D σ H → wpAny (model X.prog X.w) X.A (execs st X.env) (SP X pins D) X.xe s
/-- weaken the end -/
theorem thn {α : Type} {t : Sem α} {Q Q' : α → Shared → Prop} {M : Model} {A : Around} {E : Value → Shared → Prop} {s : Shared} (h : wpAny M A t Q E s) (hQ : ∀ a s, Q a s → Q' a s) : wpAny M A t Q' E s := wpAny_mono h hQ fun _ _ x => x
end L2

namespace L2
open PySem PySem.Spec PyProof.Rows
section
variable {X : Cx}

/-- two expressions in a row -/
theorem bin {a b : Expr} {ta tb : TE} (ha : PE X a ta) (hb : PE X b tb) {pins : List (Addr × Obj)} {s : Shared} {σ : St} {H : Hp} {R : V → V → Hp → Prop} (I : Inv X pins σ H s) (h : ta σ H fun x H1 => tb σ H1 fun y H2 => R x y H2)
    {α : Type} {Q : α → Shared → Prop} {f : Value → Value → Sem α}
    (hf : ∀ v u s2 x y H2, Inv X pins σ H2 s2 → RelV x v → RelV y u → R x y H2 → wpAny (model X.prog X.w) X.A (f v u) Q X.xe s2) :
    wpAny (model X.prog X.w) X.A (eval a X.env) (fun v s₁ => wpAny (model X.prog X.w) X.A (eval b X.env) (fun u s₂ => wpAny (model X.prog X.w) X.A (f v u) Q X.xe s₂) X.xe s₁) X.xe s := by
  refine thn (ha pins s σ H _ I h) fun v s1 ⟨x, H1, I1, r1, q1⟩ => ?_
  refine thn (hb pins s1 σ H1 _ I1 q1) fun u s2 ⟨y, H2, I2, r2, q2⟩ => ?_
  exact hf v u s2 x y H2 I2 r1 r2 q2

/-! ### names and constants -/
def tVar (i : Nat) : TE := fun σ H Q => ∃ v, σ[i]? = some (some v) ∧ Q v H
def tC (v : V) : TE := fun _ H Q => Q v H
theorem pe_var {i : Nat} {x : Str} {pos : Pos} (hN : X.N[i]? = some x) (hv : Vis X.env.scope x) (hd : (x == ("__debug__" : Str)) = false := by decide) (hcd : (x == ("__classdict__" : Str)) = false := by decide) : PE X (.Name x pos) (tVar i) := by
  intro pins s σ H Q I h
  obtain ⟨v, e, h⟩ := h
  obtain ⟨m, hn, hl⟩ := I.loc
  obtain ⟨u, r, l⟩ := hl i x v hN e hv
  have fin : EP X pins σ Q u s := ⟨v, H, I, r, h⟩
  rcases l with ⟨hk, hm⟩ | ⟨hk, c, hc, hcell⟩
  · exact wpAny_Name (wpAny_loadName_local I.ok.kind hk hn hm fin) hd
  · rcases hk with hk | hk
    · exact wpAny_Name (wpAny_loadName_cell I.ok.kind hk hc hcell fin) hd
    · exact wpAny_Name (wpAny_loadName_free I.ok.kind hk hc hcell fin hcd) hd
theorem pe_int {i j pos} : PE X (.Constant (.int i) j pos) (tC (.int i)) := fun _ _ _ H _ I h => wpAny_Constant_int ⟨.int i, H, I.tok _, ⟨_, rfl⟩, h⟩
theorem pe_bl {b j pos} : PE X (.Constant (.bool b) j pos) (tC (.bl b)) := fun _ _ _ H _ I h => Constant_bool ⟨.bl b, H, I, rfl, h⟩
theorem pe_non {j pos} : PE X (.Constant .none j pos) (tC .non) := fun _ _ _ H _ I h => Constant_none ⟨.non, H, I, rfl, h⟩
theorem pe_str {x j pos} : PE X (.Constant (.str x) j pos) (tC (.str x)) := fun _ _ _ H _ I h => Calls.Constant_str ⟨.str x, H, I.tok _, ⟨_, rfl⟩, h⟩

/-- a global name of the def -/
def Gl (X : Cx) (x : Str) : Prop := X.env.kindOf x = some .globalImplicit
theorem ld_glob {E : Value → Shared → Prop} {pins : List (Addr × Obj)} {s : Shared} {σ : St} {H : Hp} {x : Str} {u : Value} {pos : Pos} {Q : Value → Shared → Prop} (I : Inv X pins σ H s) (hg : Gl X x) (hm : X.mg x = some u) (h : Q u s)
    (hd : (x == ("__debug__" : Str)) = false := by decide) : wpAny (model X.prog X.w) X.A (eval (.Name x pos) X.env) Q E s :=
  Calls.Name_function_global I.ok.kind hg (Calls.loadGlobal_global (by rw [I.ok.glob]; exact I.mod.glob.keeps I.bk) hm h) hd
theorem ld_blt {E : Value → Shared → Prop} {pins : List (Addr × Obj)} {s : Shared} {σ : St} {H : Hp} {x : Str} {u : Value} {pos : Pos} {Q : Value → Shared → Prop} (I : Inv X pins σ H s) (hg : Gl X x) (hm : X.mg x = none) (hv : bootBuiltins x = some u) (h : Q u s)
    (hn : x ≠ "__name__" := by decide) (hd : (x == ("__debug__" : Str)) = false := by decide) : wpAny (model X.prog X.w) X.A (eval (.Name x pos) X.env) Q E s := by
  obtain ⟨mb, h1, h2⟩ := I.mod.blt
  exact Calls.Name_function_global I.ok.kind hg (Calls.loadGlobal_builtin (by rw [I.ok.glob]; exact I.mod.glob.keeps I.bk) hm (by rw [I.ok.blt]; exact h1.keeps I.bk) ((h2 x hn).trans hv) h) hd
/-- a module's constant, a class, a function, as a value -/
theorem pe_glob {x : Str} {v : V} {u : Value} {pos : Pos} (hg : Gl X x) (hm : X.mg x = some u) (r : RelV v u) (hd : (x == ("__debug__" : Str)) = false := by decide) : PE X (.Name x pos) (tC v) :=
  fun _ _ _ H _ I h => ld_glob I hg hm ⟨v, H, I, r, h⟩ hd
theorem pe_bltn {x : Str} {v : V} {u : Value} {pos : Pos} (hg : Gl X x) (hm : X.mg x = none) (hv : bootBuiltins x = some u) (r : RelV v u) (hn : x ≠ "__name__" := by decide) (hd : (x == ("__debug__" : Str)) = false := by decide) : PE X (.Name x pos) (tC v) :=
  fun _ _ _ H _ I h => ld_blt I hg hm hv ⟨v, H, I, r, h⟩ hn hd

/-! ### arithmetic -/
/-- two ints -/
def t2I (ta tb : TE) (k : Int → Int → Hp → Prop) : St → Hp → Prop := fun σ H => ta σ H fun x H1 => tb σ H1 fun y H2 => ∃ i j, x = .int i ∧ y = .int j ∧ k i j H2
def tAdd (ta tb : TE) : TE := fun σ H Q => t2I ta tb (fun i j H2 => Q (.int (i + j)) H2) σ H
def tSub (ta tb : TE) : TE := fun σ H Q => t2I ta tb (fun i j H2 => Q (.int (i - j)) H2) σ H
/-- the left factor below 2^64 -/
def tMul (ta tb : TE) : TE := fun σ H Q => t2I ta tb (fun i j H2 => (-(2 ^ 64) < i ∧ i < 2 ^ 64) ∧ Q (.int (i * j)) H2) σ H
variable {a b : Expr} {ta tb : TE} {pos : Pos}
theorem pe_add (ha : PE X a ta) (hb : PE X b tb) : PE X (.BinOp a .Add b pos) (tAdd ta tb) := by
  intro pins s σ H Q I h
  refine wpAny_BinOp (bin ha hb I h fun v u s2 x y H2 I2 rx ry q => ?_)
  obtain ⟨i, j, rfl, rfl, q⟩ := q
  obtain ⟨t, rfl⟩ := rx
  obtain ⟨t', rfl⟩ := ry
  exact add_int ⟨.int _, H2, I2.tok _, ⟨_, rfl⟩, q⟩
theorem pe_sub (ha : PE X a ta) (hb : PE X b tb) : PE X (.BinOp a .Sub b pos) (tSub ta tb) := by
  intro pins s σ H Q I h
  refine wpAny_BinOp (bin ha hb I h fun v u s2 x y H2 I2 rx ry q => ?_)
  obtain ⟨i, j, rfl, rfl, q⟩ := q
  obtain ⟨t, rfl⟩ := rx
  obtain ⟨t', rfl⟩ := ry
  exact sub_int ⟨.int _, H2, I2.tok _, ⟨_, rfl⟩, q⟩
theorem pe_mul (ha : PE X a ta) (hb : PE X b tb) : PE X (.BinOp a .Mult b pos) (tMul ta tb) := by
  intro pins s σ H Q I h
  refine wpAny_BinOp (bin ha hb I h fun v u s2 x y H2 I2 rx ry q => ?_)
  obtain ⟨i, j, rfl, rfl, ⟨q1, q2⟩, q⟩ := q
  obtain ⟨t, rfl⟩ := rx
  obtain ⟨t', rfl⟩ := ry
  exact mul_int ⟨.int _, H2, I2.tok _, ⟨_, rfl⟩, q⟩ (.of_left (intBits_le_64 q1 q2))

/-! ### comparisons -/
def PC (X : Cx) (op : CmpOp) (a b : Expr) (t : TE) : Prop :=
  ∀ (pins : List (Addr × Obj)) (s : Shared) (σ : St) (H : Hp) (Q : VK), Inv X pins σ H s → t σ H Q →
    wpAny (model X.prog X.w) X.A (eval a X.env) (fun v s₁ => wpAny (model X.prog X.w) X.A (eval b X.env) (fun u s₂ => wpAny (model X.prog X.w) X.A (compareOp op v u) (EP X pins σ Q) X.xe s₂) X.xe s₁) X.xe s
theorem nobehind (b : Expr) {op : CmpOp} (h : op ≠ .In) (h2 : op ≠ .NotIn) : behindInMarks op b = false := by
  have e1 : (op == CmpOp.In) = false := by cases op <;> first | rfl | exact absurd rfl h
  have e2 : (op == CmpOp.NotIn) = false := by cases op <;> first | rfl | exact absurd rfl h2
  cases b <;> simp [behindInMarks, e1, e2]
def tCmp (p : Int → Int → Bool) (ta tb : TE) : TE := fun σ H Q => t2I ta tb (fun i j H2 => Q (.bl (p i j)) H2) σ H
abbrev tLt : TE → TE → TE := tCmp fun i j => decide (i < j)
abbrev tLe : TE → TE → TE := tCmp fun i j => decide (i ≤ j)
abbrev tGt : TE → TE → TE := tCmp fun i j => decide (j < i)
abbrev tGe : TE → TE → TE := tCmp fun i j => decide (j ≤ i)
abbrev tEqI : TE → TE → TE := tCmp fun i j => decide (i = j)
abbrev tNeI : TE → TE → TE := tCmp fun i j => !decide (i = j)
/-- a comparison of two ints, by its rule -/
theorem pc_int {op : CmpOp} {p : Int → Int → Bool} (ha : PE X a ta) (hb : PE X b tb)
    (rule : ∀ (i j : Int) (t u : Tok) (Q : Value → Shared → Prop) (s : Shared), Q (.bool (p i j)) s → wpAny (model X.prog X.w) X.A (compareOp op (.int i t) (.int j u)) Q X.xe s) : PC X op a b (tCmp p ta tb) := by
  intro pins s σ H Q I h
  refine bin ha hb I h fun v u s2 x y H2 I2 rx ry q => ?_
  obtain ⟨i, j, rfl, rfl, q⟩ := q
  obtain ⟨t, rfl⟩ := rx
  obtain ⟨t', rfl⟩ := ry
  exact rule i j t t' _ s2 ⟨.bl _, H2, I2, rfl, q⟩
theorem pc_lt (ha : PE X a ta) (hb : PE X b tb) : PC X .Lt a b (tLt ta tb) := pc_int ha hb fun _ _ _ _ _ _ h => lt_int h
theorem pc_le (ha : PE X a ta) (hb : PE X b tb) : PC X .LtE a b (tLe ta tb) := pc_int ha hb fun _ _ _ _ _ _ h => le_int h
theorem pc_gt (ha : PE X a ta) (hb : PE X b tb) : PC X .Gt a b (tGt ta tb) := pc_int ha hb fun _ _ _ _ _ _ h => gt_int h
theorem pc_ge (ha : PE X a ta) (hb : PE X b tb) : PC X .GtE a b (tGe ta tb) := pc_int ha hb fun _ _ _ _ _ _ h => ge_int h
theorem pc_eqI (ha : PE X a ta) (hb : PE X b tb) : PC X .Eq a b (tEqI ta tb) := pc_int ha hb fun _ _ _ _ _ _ h => eq_int (by rw [Bool.beq_eq_decide_eq]; exact h)
theorem pc_neI (ha : PE X a ta) (hb : PE X b tb) : PC X .NotEq a b (tNeI ta tb) := pc_int ha hb fun _ _ _ _ _ _ h => ne_int (by rw [bne, Bool.beq_eq_decide_eq]; exact h)
/-- is None -/
def tIsN (ta : TE) : TE := fun σ H Q => ta σ H fun x H1 => Q (.bl (decide (x = .non))) H1
def tNotN (ta : TE) : TE := fun σ H Q => ta σ H fun x H1 => Q (.bl (!decide (x = .non))) H1
theorem RelV.none_iff {x : V} {v : Value} (r : RelV x v) : (v == Value.none) = decide (x = .non) := by
  cases x with
  | non => cases r; rfl
  | bl _ => cases r; rfl
  | int _ => obtain ⟨t, rfl⟩ := r; rfl
  | str _ => obtain ⟨t, rfl⟩ := r; rfl
  | byt _ => obtain ⟨t, rfl⟩ := r; rfl
  | flt _ => obtain ⟨t, rfl⟩ := r; rfl
  | ref _ => cases r; rfl
  | ty _ => cases r; rfl
theorem pc_isN {j pos'} (ha : PE X a ta) : PC X .Is a (.Constant .none j pos') (tIsN ta) := by
  intro pins s σ H Q I h
  refine thn (ha pins s σ H _ I h) fun v s1 ⟨x, H1, I1, r1, q1⟩ => ?_
  exact Constant_none (is_none_gen ⟨.bl _, H1, I1, by rw [r1.none_iff]; rfl, q1⟩)
theorem pc_notN {j pos'} (ha : PE X a ta) : PC X .IsNot a (.Constant .none j pos') (tNotN ta) := by
  intro pins s σ H Q I h
  refine thn (ha pins s σ H _ I h) fun v s1 ⟨x, H1, I1, r1, q1⟩ => ?_
  exact Constant_none (isnot_none_gen ⟨.bl _, H1, I1, by rw [r1.none_iff]; rfl, q1⟩)
/-- a comparison as a value, as a test -/
def tB (t : TE) : TT := fun σ H Q => t σ H fun x H1 => ∃ c, x = .bl c ∧ Q c H1
theorem pe_cmp {op : CmpOp} {t : TE} (h : PC X op a b t) (h1 : behindInMarks op b = false := by first | exact nobehind _ (by decide) (by decide) | rfl) : PE X (.Compare a [op] [b] pos) t := fun pins s σ H Q I hw => wpAny_Compare1 (h pins s σ H Q I hw) h1
theorem pt_cmp {op : CmpOp} {t : TE} (h : PC X op a b t) (h1 : behindInMarks op b = false := by first | exact nobehind _ (by decide) (by decide) | rfl) : PT X (.Compare a [op] [b] pos) (tB t) := by
  intro pins s σ H Q I hw
  refine wpAny_isTrue_Compare1 (thn (h pins s σ H _ I hw) fun v s1 h1 => thn h1 fun u s2 h2 => thn h2 fun c s3 ⟨x, H1, I1, r1, q1⟩ => ?_) h1
  obtain ⟨d, rfl, q⟩ := q1
  cases r1
  exact wpAny_truthy_bool ⟨H1, I1, q⟩
/-- an expression whose value is a bool, as a test -/
theorem pt_val {e : Expr} {t : TE} (h : PE X e t) (he : ∀ whole, isTrue e X.env whole = (do let v ← whole; standAt e.pos; holding [v] (truthy v)) := by intro _; rfl) : PT X e (tB t) := by
  intro pins s σ H Q I hw
  refine isTrue_plain (thn (h pins s σ H _ I hw) fun v s1 ⟨x, H1, I1, r1, q1⟩ => ?_) (he _)
  obtain ⟨d, rfl, q⟩ := q1
  cases r1
  exact wpAny_truthy_bool ⟨H1, I1, q⟩

/-! ### and, or, not -/
variable {tA tB' : TT} {rest : List Expr}
def tAnd (t u : TT) : TT := fun σ H Q => t σ H fun c H1 => if c = true then u σ H1 Q else Q false H1
def tOr (t u : TT) : TT := fun σ H Q => t σ H fun c H1 => if c = true then Q true H1 else u σ H1 Q
def tNot (t : TT) : TT := fun σ H Q => t σ H fun c H1 => Q (!c) H1
theorem pw_and1 (ha : PT X a tA) : PW X (.BoolOp .And [a] pos) tA := by
  intro wh pins s σ H Q I h
  refine isTrue_and (thn (ha pins s σ H Q I h) fun c s1 e => ?_)
  cases c with
  | true => exact isTrue_and_nil e
  | false => exact e
theorem pw_or1 (ha : PT X a tA) : PW X (.BoolOp .Or [a] pos) tA := by
  intro wh pins s σ H Q I h
  refine isTrue_or (thn (ha pins s σ H Q I h) fun c s1 e => ?_)
  cases c with
  | false => exact isTrue_or_nil e
  | true => exact e
theorem pw_and (ha : PT X a tA) (hb : PW X (.BoolOp .And (b :: rest) pos) tB') : PW X (.BoolOp .And (a :: b :: rest) pos) (tAnd tA tB') := by
  intro wh pins s σ H Q I h
  refine isTrue_and (thn (ha pins s σ H _ I h) fun c s1 ⟨H1, I1, q1⟩ => ?_)
  cases c with
  | true => exact hb wh pins s1 σ H1 Q I1 q1
  | false => exact ⟨H1, I1, q1⟩
theorem pw_or (ha : PT X a tA) (hb : PW X (.BoolOp .Or (b :: rest) pos) tB') : PW X (.BoolOp .Or (a :: b :: rest) pos) (tOr tA tB') := by
  intro wh pins s σ H Q I h
  refine isTrue_or (thn (ha pins s σ H _ I h) fun c s1 ⟨H1, I1, q1⟩ => ?_)
  cases c with
  | true => exact ⟨H1, I1, q1⟩
  | false => exact hb wh pins s1 σ H1 Q I1 q1
theorem pt_not (ha : PT X a tA) : PT X (.UnaryOp .Not a pos) (tNot tA) := by
  intro pins s σ H Q I h
  exact isTrue_not (ha pins s σ H (fun c H1 => Q (!c) H1) I h)
/-- .. as values (bools) -/
def tAndV (ta tb : TE) : TE := fun σ H Q => ta σ H fun x H1 => ∃ c, x = .bl c ∧ if c = true then tb σ H1 Q else Q (.bl false) H1
def tOrV (ta tb : TE) : TE := fun σ H Q => ta σ H fun x H1 => ∃ c, x = .bl c ∧ if c = true then Q (.bl true) H1 else tb σ H1 Q
def tNotV (ta : TE) : TE := fun σ H Q => ta σ H fun x H1 => ∃ c, x = .bl c ∧ Q (.bl (!c)) H1
theorem pe_one {op} {t : TE} (h : PE X a t) : PE X (.BoolOp op [a] pos) t := fun pins s σ H Q I hw => BoolOp_one (h pins s σ H Q I hw)
theorem pe_and (ha : PE X a ta) (hb : PE X (.BoolOp .And (b :: rest) pos) tb) : PE X (.BoolOp .And (a :: b :: rest) pos) (tAndV ta tb) := by
  intro pins s σ H Q I h
  refine BoolOp_and (thn (ha pins s σ H _ I h) fun v s1 ⟨x, H1, I1, r1, q1⟩ => ?_)
  obtain ⟨c, rfl, q1⟩ := q1
  cases r1
  refine wpAny_truthy_bool ?_
  cases c with
  | true => exact hb pins s1 σ H1 Q I1 q1
  | false => exact ⟨.bl false, H1, I1, rfl, q1⟩
theorem pe_or (ha : PE X a ta) (hb : PE X (.BoolOp .Or (b :: rest) pos) tb) : PE X (.BoolOp .Or (a :: b :: rest) pos) (tOrV ta tb) := by
  intro pins s σ H Q I h
  refine BoolOp_or (thn (ha pins s σ H _ I h) fun v s1 ⟨x, H1, I1, r1, q1⟩ => ?_)
  obtain ⟨c, rfl, q1⟩ := q1
  cases r1
  refine wpAny_truthy_bool ?_
  cases c with
  | false => exact hb pins s1 σ H1 Q I1 q1
  | true => exact ⟨.bl true, H1, I1, rfl, q1⟩
theorem pe_not (ha : PE X a ta) : PE X (.UnaryOp .Not a pos) (tNotV ta) := by
  intro pins s σ H Q I h
  refine UnaryOp_ (thn (ha pins s σ H _ I h) fun v s1 ⟨x, H1, I1, r1, q1⟩ => ?_)
  obtain ⟨c, rfl, q1⟩ := q1
  cases r1
  exact not_of (wpAny_truthy_bool ⟨.bl (!c), H1, I1, rfl, q1⟩)
/-- a if t else b -/
def tIf (t : TT) (ta tb : TE) : TE := fun σ H Q => t σ H fun c H1 => if c = true then ta σ H1 Q else tb σ H1 Q
theorem pe_ifExp {c : Expr} (hc : PT X c tA) (ha : PE X a ta) (hb : PE X b tb) : PE X (.IfExp c a b pos) (tIf tA ta tb) := by
  intro pins s σ H Q I h
  refine wpAny_IfExp (thn (hc pins s σ H _ I h) fun d s1 ⟨H1, I1, q1⟩ => ?_)
  cases d with
  | true => exact ha pins s1 σ H1 Q I1 q1
  | false => exact hb pins s1 σ H1 Q I1 q1
end
end L2

namespace L2
open PySem PySem.Spec PyProof.Rows

/-! ### a list, a tuple that is read: tracked, frozen, or an object of the module -/
def SqL (K : PySem.W.Frag) (H : Hp) (a : Addr) (xs : List V) : Prop :=
  Rd H a (.lst xs) ∨
    ∃ (o : Obj) (its : Array Value) (n : Nat), K.lookup a = some o ∧ o.cls = .type "list" ∧ o.dict = none ∧ o.data = .seq its n ∧ its.size ≤ sizeLine ∧ Vals xs its.toList
def SqT (K : PySem.W.Frag) (H : Hp) (a : Addr) (xs : List V) : Prop :=
  Rd H a (.tup xs) ∨
    ∃ (o : Obj) (its : Array Value) (n : Nat), K.lookup a = some o ∧ o.cls = .type "tuple" ∧ o.data = .seq its n ∧ its.size ≤ sizeLine ∧ Vals xs its.toList
def absV : Value → Option V
  | .none => some .non
  | .bool b => some (.bl b)
  | .int i _ => some (.int i)
  | .str x _ => some (.str x)
  | .bytes b _ => some (.byt b)
  | .float b _ => some (.flt b)
  | .ref a => some (.ref a)
  | .type n => some (.ty n)
  | _ => none
theorem RelV.abs {x : V} {u : Value} (r : RelV x u) : absV u = some x := by
  cases x with
  | non => cases r; rfl
  | bl _ => cases r; rfl
  | int _ => obtain ⟨t, rfl⟩ := r; rfl
  | str _ => obtain ⟨t, rfl⟩ := r; rfl
  | byt _ => obtain ⟨t, rfl⟩ := r; rfl
  | flt _ => obtain ⟨t, rfl⟩ := r; rfl
  | ref _ => cases r; rfl
  | ty _ => cases r; rfl
theorem RelV.inj {x y : V} {u : Value} (r : RelV x u) (q : RelV y u) : x = y := Option.some.inj (r.abs.symm.trans q.abs)
theorem Vals.inj : ∀ {xs ys : List V} {us : List Value}, Vals xs us → Vals ys us → xs = ys
  | _, _, _, .nil, .nil => rfl
  | _, _, _, .cons r t, .cons r' t' => by rw [r.inj r', Vals.inj t t']
section
variable {X : Cx} {pins : List (Addr × Obj)} {σ : St} {H : Hp} {s : Shared} {a : Addr} {xs ys : List V}
theorem SqL.of {K : PySem.W.Frag} (h : H a = some (.lst xs)) : SqL K H a xs := .inl (.inl h)
theorem SqT.of {K : PySem.W.Frag} (h : H a = some (.tup xs)) : SqT K H a xs := .inl (.inl h)
theorem Inv.list (I : Inv X pins σ H s) (h : SqL X.K H a xs) : ∃ its : List Value, Vals xs its ∧ PlainL s.heap a its.toArray ∧ xs.length ≤ sizeLine := by
  rcases h with h | ⟨o, its, n, hk, hc, hd, hs, hz, r⟩
  · obtain ⟨z, its, n, r, e⟩ := h.ok I.hok
    exact ⟨its, r, ⟨_, n, e, rfl, rfl, rfl⟩, z⟩
  · refine ⟨its.toList, r, ⟨o, n, I.kIn a o hk, hc, hd, by simpa using hs⟩, ?_⟩
    have e := r.length
    simp only [Array.length_toList] at e
    omega
theorem Inv.tuple (I : Inv X pins σ H s) (h : SqT X.K H a xs) : ∃ its : List Value, Vals xs its ∧ IsTup s.heap a its.toArray ∧ xs.length ≤ sizeLine := by
  rcases h with h | ⟨o, its, n, hk, hc, hs, hz, r⟩
  · obtain ⟨z, its, r, p⟩ := h.ok I.hok
    exact ⟨its, r, p, z⟩
  · refine ⟨its.toList, r, ⟨o, I.kIn a o hk, hc, n, by simpa using hs⟩, ?_⟩
    have e := r.length
    simp only [Array.length_toList] at e
    omega
theorem Inv.list_inj (I : Inv X pins σ H s) (h : SqL X.K H a xs) (h' : SqL X.K H a ys) : xs = ys := by
  obtain ⟨its, r, ⟨o, n, e, _, _, d⟩, _⟩ := I.list h
  obtain ⟨its', r', ⟨o', n', e', _, _, d'⟩, _⟩ := I.list h'
  rw [e] at e'; cases e'
  rw [d] at d'
  injection d' with d1 _
  have : its = its' := by simpa using congrArg Array.toList d1
  subst this
  exact r.inj r'
theorem Inv.tuple_inj (I : Inv X pins σ H s) (h : SqT X.K H a xs) (h' : SqT X.K H a ys) : xs = ys := by
  obtain ⟨its, r, ⟨o, e, _, n, d⟩, _⟩ := I.tuple h
  obtain ⟨its', r', ⟨o', e', _, n', d'⟩, _⟩ := I.tuple h'
  rw [e] at e'; cases e'
  rw [d] at d'
  injection d' with d1 _
  have : its = its' := by simpa using congrArg Array.toList d1
  subst this
  exact r.inj r'
end

/-! ### another wish about exceptions -/
abbrev Cx.wish (X : Cx) (E : Value → Shared → Prop) : Cx := { X with xe := E }
/-- no exception leaves -/
abbrev Cx.nox (X : Cx) : Cx := X.wish fun _ _ => False
theorem Cx.Ok.wish {X : Cx} (ok : X.Ok) (E : Value → Shared → Prop) : (X.wish E).Ok :=
  ⟨ok.mod, ok.kind, ok.glob, ok.blt, ok.above, ok.inj, ok.has, ok.cab, ok.hd, ok.frames, ok.stk, ok.exf, ok.bs, ok.bsz, ok.noex, ok.exfs, ok.funs, ok.frf⟩
theorem Cx.Ok.unwish {X : Cx} {E : Value → Shared → Prop} (ok : (X.wish E).Ok) : X.Ok :=
  ⟨ok.mod, ok.kind, ok.glob, ok.blt, ok.above, ok.inj, ok.has, ok.cab, ok.hd, ok.frames, ok.stk, ok.exf, ok.bs, ok.bsz, ok.noex, ok.exfs, ok.funs, ok.frf⟩
section
variable {X : Cx} {pins : List (Addr × Obj)} {σ : St} {H : Hp} {s : Shared} {E : Value → Shared → Prop}
theorem Inv.wish (I : Inv X pins σ H s) (E : Value → Shared → Prop) : Inv (X.wish E) pins σ H s := ⟨I.ok.wish E, I.os, I.bare, I.base, I.loc, I.cell, I.free, I.freeC, I.pin, I.hok, I.len⟩
theorem Inv.unwish (I : Inv (X.wish E) pins σ H s) : Inv X pins σ H s := ⟨I.ok.unwish, I.os, I.bare, I.base, I.loc, I.cell, I.free, I.freeC, I.pin, I.hok, I.len⟩
theorem SP.unwish {D : Ends} {f : Flow} {s' : Shared} (h : SP (X.wish E) pins D f s') : SP X pins D f s' := by
  cases f with
  | next => obtain ⟨σ', H', I, q⟩ := h; exact ⟨σ', H', I.unwish, q⟩
  | brk => obtain ⟨σ', H', I, q⟩ := h; exact ⟨σ', H', I.unwish, q⟩
  | cont => obtain ⟨σ', H', I, q⟩ := h; exact ⟨σ', H', I.unwish, q⟩
  | ret u => obtain ⟨v, σ', H', I, r, q⟩ := h; exact ⟨v, σ', H', I.unwish, r, q⟩
theorem PE.nox {e : Expr} {t : TE} (h : PE X.nox e t) : PE X e t := fun pins s σ H Q I hw =>
  wpAny_mono (h pins s σ H Q (I.wish _) hw) (fun _ _ ⟨v, H', I', r, q⟩ => ⟨v, H', I'.unwish, r, q⟩) fun _ _ z => False.elim z
theorem PT.nox {e : Expr} {t : TT} (h : PT X.nox e t) : PT X e t := fun pins s σ H Q I hw =>
  wpAny_mono (h pins s σ H Q (I.wish _) hw) (fun _ _ ⟨H', I', q⟩ => ⟨H', I'.unwish, q⟩) fun _ _ z => False.elim z
theorem PSs.nox {st : List Stmt} {t : TS} (h : PSs X.nox st t) : PSs X st t := fun pins s σ H D I hw =>
  wpAny_mono (h pins s σ H D (I.wish _) hw) (fun _ _ q => q.unwish) fun _ _ z => False.elim z
end

/-! ### blocks and small statements -/
section
variable {X : Cx} {st : Stmt} {rest : List Stmt} {t u : TS} {e : Expr} {te : TE} {pos : Pos}
def tNext : TS := fun D σ H => D.nx σ H
def tSeq (t u : TS) : TS := fun D σ H => t { D with nx := u D } σ H
theorem pss_nil : PSs X [] tNext := fun _ _ σ H _ I h => wpAny_execs_nil ⟨σ, H, I, h⟩
theorem pss_cons (h1 : PS X st t) (h2 : PSs X rest u) : PSs X (st :: rest) (tSeq t u) := by
  intro pins s σ H D I h
  refine wpAny_execs_cons (thn (h1 pins s σ H { D with nx := u D } I h) fun f s1 q => ?_)
  cases f with
  | next =>
    obtain ⟨σ', H', I', q⟩ := q
    exact h2 pins s1 σ' H' D I' q
  | ret v => exact q
  | brk => exact q
  | cont => exact q
theorem pss_one (h1 : PS X st t) : PSs X [st] t := by
  intro pins s σ H D I h
  refine wpAny_execs_cons (thn (h1 pins s σ H D I h) fun f s1 q => ?_)
  cases f with
  | next => exact wpAny_execs_nil q
  | ret v => exact q
  | brk => exact q
  | cont => exact q
def tBreak : TS := fun D σ H => D.bk σ H
def tCont : TS := fun D σ H => D.ct σ H
theorem ps_pass : PS X (.Pass pos) tNext := fun _ _ σ H _ I h => wpAny_Pass ⟨σ, H, I, h⟩
theorem ps_break : PS X (.Break pos) tBreak := fun _ _ σ H _ I h => wpAny_Break ⟨σ, H, I, h⟩
theorem ps_continue : PS X (.Continue pos) tCont := fun _ _ σ H _ I h => wpAny_Continue ⟨σ, H, I, h⟩
/-- in a def's body nothing is shown -/
theorem Inv.quiet {pins : List (Addr × Obj)} {σ : St} {H : Hp} {s : Shared} (I : Inv X pins σ H s) : interactive X.env = false := by simp [interactive, I.ok.kind]
/-- a docstring -/
theorem ps_doc {x j pos pos'} : PS X (.Expr (.Constant (.str x) j pos) pos') tNext := fun _ s σ H _ I h => wpAny_Expr (Calls.Constant_str (show SP X _ _ .next { s with toks := s.toks + 1 } from ⟨σ, H, I.tok _, h⟩)) I.quiet
/-- an expression whose value is dropped -/
def tDrop (te : TE) : TS := fun D σ H => te σ H fun _ H1 => D.nx σ H1
theorem ps_expr (he : PE X e te) (hs : swapsWith e none pos.line X.env = pure false := by rfl) : PS X (.Expr e pos) (tDrop te) := by
  intro pins s σ H D I h
  exact wpAny_Expr_any (thn (he pins s σ H _ I h) fun v s1 ⟨x, H1, I1, r1, q1⟩ => ⟨σ, H1, I1, q1⟩) I.quiet hs
def tRet (te : TE) : TS := fun D σ H => te σ H D.rt
theorem ps_ret (he : PE X e te) : PS X (.Return (some e) pos) (tRet te) := by
  intro pins s σ H D I h
  exact wpAny_Return_some (thn (he pins s σ H _ I h) fun v s1 ⟨x, H1, I1, r1, q1⟩ => ⟨x, σ, H1, I1, r1, q1⟩)
def tRetN : TS := fun D _ H => D.rt .non H
theorem ps_retN : PS X (.Return none pos) tRetN := fun _ _ σ H _ I h => wpAny_Return_none ⟨.non, σ, H, I, rfl, h⟩
def tIfS (c : TT) (t u : TS) : TS := fun D σ H => c σ H fun b H1 => if b = true then t D σ H1 else u D σ H1
theorem ps_if {c : Expr} {a b : List Stmt} {tc : TT} (hc : PT X c tc) (ha : PSs X a t) (hb : PSs X b u) : PS X (.If c a b pos) (tIfS tc t u) := by
  intro pins s σ H D I h
  refine wpAny_If (thn (hc pins s σ H _ I h) fun d s1 ⟨H1, I1, q1⟩ => ?_)
  cases d with
  | true => exact ha pins s1 σ H1 D I1 q1
  | false => exact hb pins s1 σ H1 D I1 q1
/-- code that the proof never comes to -/
def tNever : TS := fun _ _ _ => False
theorem ps_never : PS X st tNever := fun _ _ _ _ _ _ h => h.elim
theorem pss_never {sts : List Stmt} : PSs X sts tNever := fun _ _ _ _ _ _ h => h.elim
end

/-! ### targets -/
abbrev TG := V → St → Hp → (St → Hp → Prop) → Prop
abbrev TGs := List V → St → Hp → (St → Hp → Prop) → Prop
def PG (X : Cx) (target : Expr) (t : TG) : Prop :=
  ∀ (pins : List (Addr × Obj)) (s : Shared) (σ : St) (H : Hp) (v : V) (u : Value) (Q : St → Hp → Prop), Inv X pins σ H s → RelV v u → t v σ H Q →
    wpAny (model X.prog X.w) X.A (assign target X.env u) (fun _ s' => ∃ σ' H', Inv X pins σ' H' s' ∧ Q σ' H') X.xe s
/-- several targets, one after another -/
def PGs (X : Cx) (ts : List Expr) (t : TGs) : Prop :=
  ∀ (pins : List (Addr × Obj)) (s : Shared) (σ : St) (H : Hp) (vs : List V) (us : List Value) (Q : St → Hp → Prop), Inv X pins σ H s → Vals vs us → t vs σ H Q →
    wpAny (model X.prog X.w) X.A (assignInOrder ((assignEach ts X.env).map (·.2)) us) (fun _ s' => ∃ σ' H', Inv X pins σ' H' s' ∧ Q σ' H') X.xe s
/-- o[i] = v, by values -/
abbrev TSet := V → V → V → Hp → (Hp → Prop) → Prop
def PSet (X : Cx) (t : TSet) : Prop :=
  ∀ (pins : List (Addr × Obj)) (s : Shared) (σ : St) (H : Hp) (o i v : V) (ov iv u : Value) (Q : Hp → Prop), Inv X pins σ H s → RelV o ov → RelV i iv → RelV v u → t o i v H Q →
    wpAny (model X.prog X.w) X.A (setItem ov iv u) (fun _ s' => ∃ H', Inv X pins σ H' s' ∧ Q H') X.xe s
/-- a op= b, by values -/
abbrev TIp := V → V → Hp → VK → Prop
def PIp (X : Cx) (op : Operator) (t : TIp) : Prop :=
  ∀ (pins : List (Addr × Obj)) (s : Shared) (σ : St) (H : Hp) (x y : V) (v u : Value) (Q : VK), Inv X pins σ H s → RelV x v → RelV y u → t x y H Q →
    wpAny (model X.prog X.w) X.A (inplaceOp op v u) (EP X pins σ Q) X.xe s
section
variable {X : Cx} {pos : Pos}
def gName (i : Nat) : TG := fun v σ H Q => Q (σ.set i (some v)) H
theorem pg_name {i : Nat} {x : Str} (hN : X.N.Nodup) (hi : X.N[i]? = some x) (hx : Loc X.env.scope x) (hf : X.fn x = true ∨ X.env.scope.names.lookup x = some .local := by first | exact .inl rfl | exact .inr rfl | assumption) : PG X (.Name x pos) (gName i) := by
  intro pins s σ H v u Q I r h
  exact wpAny_assign_Name (store_ok I hN hi hx r (fun s' I' => ⟨_, H, I', h⟩) hf)
def gNil : TGs := fun vs σ H Q => vs = [] ∧ Q σ H
def gCons (t : TG) (u : TGs) : TGs := fun vs σ H Q => ∃ v r, vs = v :: r ∧ t v σ H fun σ' H' => u r σ' H' Q
theorem pgs_nil : PGs X [] gNil := by
  intro pins s σ H vs us Q I r h
  obtain ⟨e, h⟩ := h
  subst e
  cases r
  exact assignInOrder_nil ⟨σ, H, I, h⟩
theorem pgs_cons {e : Expr} {es : List Expr} {t : TG} {u : TGs} (h1 : PG X e t) (h2 : PGs X es u)
    (hs : (assignEach (e :: es) X.env).map (·.2) = assign e X.env :: (assignEach es X.env).map (·.2) := by rfl) : PGs X (e :: es) (gCons t u) := by
  intro pins s σ H vs us Q I r h
  obtain ⟨v, vr, e1, h⟩ := h
  subst e1
  cases r with
  | cons r rr =>
    rw [hs]
    refine assignInOrder_cons (thn (h1 pins s σ H _ _ _ I r h) fun _ s1 ⟨σ1, H1, I1, q1⟩ => ?_)
    exact h2 pins s1 σ1 H1 _ _ Q I1 rr q1
/-- (a, b, ..) = a tuple of that length -/
def gTup (K : PySem.W.Frag) (n : Nat) (t : TGs) : TG := fun v σ H Q => ∃ a xs, v = .ref a ∧ SqT K H a xs ∧ xs.length = n ∧ t xs σ H Q
theorem pg_tup {es : List Expr} {k : Nat} {t : TGs} {n : Nat} (hc : X.calm = true) (h : PGs X es t)
    (hn : (assignEach es X.env).length = n := by rfl) (hst : (assignEach es X.env).findIdx? (·.1) = none := by rfl) : PG X (.Tuple es k pos) (gTup X.K n t) := by
  intro pins s σ H v u Q I r hw
  obtain ⟨a, xs, e1, hq, hl, hw⟩ := hw
  subst e1
  cases r
  obtain ⟨its, rv, ht, hz⟩ := I.tuple hq
  refine assign_Tuple_tuple (I.ok.hd hc) ht (by simp [hn, ← hl, rv.length]) hst fun h' hx => ?_
  have I1 : Inv X pins σ H { s with heap := h' } := I.kept (t' := s.toks) fun b o e => hx b o (Nat.ne_of_lt (Heap.lt_size e)) e
  exact h pins _ σ H xs _ Q I1 (by simpa using rv) hw
/-- o[i] = .. -/
def gSub (to ti : TE) (t : TSet) : TG := fun v σ H Q => to σ H fun o H1 => ti σ H1 fun i H2 => t o i v H2 fun H3 => Q σ H3
theorem pg_sub {o i : Expr} {to ti : TE} {t : TSet} (ho : PE X o to) (hi : PE X i ti) (hs : PSet X t)
    (ha : ∀ v, assign (.Subscript o i pos) X.env v = (do
      let ov ← holding [v] (eval o X.env)
      let iv ← holding [v, ov] (eval i X.env)
      standAt pos
      holding [v, ov, iv] (setItem ov iv v)
      release [v, ov, iv] []) := by intro _; rfl) : PG X (.Subscript o i pos) (gSub to ti t) := by
  intro pins s σ H v u Q I r h
  rw [ha]
  refine wpAny_bind (wpAny_holding (thn (ho pins s σ H _ I h) fun ov s1 ⟨x, H1, I1, r1, q1⟩ => ?_))
  refine wpAny_bind (wpAny_holding (thn (hi pins s1 σ H1 _ I1 q1) fun iv s2 ⟨y, H2, I2, r2, q2⟩ => ?_))
  refine wpAny_bind (wpAny_standAt (wpAny_bind (wpAny_holding (thn (hs pins s2 σ H2 x y v ov iv u _ I2 r1 r2 r q2) fun _ s3 ⟨H3, I3, q3⟩ => ?_))))
  exact wpAny_release ⟨σ, H3, I3, q3⟩
/-- target = value -/
def tAsg (te : TE) (g : TG) : TS := fun D σ H => te σ H fun x H1 => g x σ H1 D.nx
theorem ps_asg {tg e : Expr} {te : TE} {g : TG} (he : PE X e te) (hg : PG X tg g) (hs : swapsWithSole [tg] e pos.line X.env = pure false := by rfl) (hw : swappedStores [tg] e X.env = pure none := by rfl)
    (h1 : (assignEach [tg] X.env).map (·.2) = [assign tg X.env] := by rfl) : PS X (.Assign [tg] e pos) (tAsg te g) := by
  intro pins s σ H D I h
  refine wpAny_Assign_stores (thn (he pins s σ H _ I h) fun v s1 ⟨x, H1, I1, r1, q1⟩ => ?_) hs hw
  rw [h1]
  exact thn (hg pins s1 σ H1 x v _ I1 r1 q1) fun _ s2 q => q
/-- name = value -/
theorem ps_set {i : Nat} {x : Str} {e : Expr} {te : TE} {pos' : Pos} (hN : X.N.Nodup) (hi : X.N[i]? = some x) (hx : Loc X.env.scope x) (he : PE X e te) (hs : swapsWith e (some (.Name x pos')) pos.line X.env = pure false := by rfl) (hf : X.fn x = true ∨ X.env.scope.names.lookup x = some .local := by first | exact .inl rfl | exact .inr rfl | assumption) :
    PS X (.Assign [.Name x pos'] e pos) (tAsg te (gName i)) := by
  intro pins s σ H D I h
  refine wpAny_Assign_Name (thn (he pins s σ H _ I h) fun v s1 ⟨y, H1, I1, r1, q1⟩ => ?_) hs
  exact store_ok I1 hN hi hx r1 (fun s2 I2 => ⟨_, H1, I2, q1⟩) hf
/-- a, b = x, y with plain local names: stored from the right; the pair itself is not tracked (the opening rows as in PyProof/Rows/TupAssign.lean:23) -/
def tPar (i j : Nat) (ta : TA) : TS := fun D σ H => ta σ H fun vs H1 => ∃ v w, vs = [v, w] ∧ D.nx ((σ.set i (some v)).set j (some w)) H1
theorem ps_par {i j : Nat} {x y : Str} {a b : Expr} {ta : TA} {px py pt : Pos} {kt k2 pt2} (hc : X.calm = true) (hN : X.N.Nodup) (hi : X.N[i]? = some x) (hj : X.N[j]? = some y) (hij : i ≠ j)
    (hx : X.env.scope.names.lookup x = some .local) (hy : X.env.scope.names.lookup y = some .local) (ha : PA X [a, b] ta)
    (hw : swappedStores [.Tuple [.Name x px, .Name y py] kt pt] (.Tuple [a, b] k2 pt2) X.env = pure (some [x, y]))
    (hs : swapsWithSole [.Tuple [.Name x px, .Name y py] kt pt] (.Tuple [a, b] k2 pt2) pos.line X.env = pure false := by rfl) :
    PS X (.Assign [.Tuple [.Name x px, .Name y py] kt pt] (.Tuple [a, b] k2 pt2) pos) (tPar i j ta) := by
  intro pins s σ H D I h
  rw [exec_Assign_arm]
  refine wpAny_bind (wpAny_standAt ?_)
  rw [hs]
  refine wpAny_bind (wpAny_pure ?_)
  rw [if_neg (by decide)]
  refine wpAny_bind (Tuple_ (thn (ha _ pins s σ H _ I h) fun us s1 ⟨vs, H1, I1, r1, q1⟩ => ?_))
  obtain ⟨v, w, e1, q1⟩ := q1
  subst e1
  obtain ⟨u1, u2, rfl, rv, rw'⟩ : ∃ u1 u2, us = [u1, u2] ∧ RelV v u1 ∧ RelV w u2 := by
    cases r1 with
    | cons p q =>
      cases q with
      | cons p' q' =>
        cases q'
        exact ⟨_, _, rfl, p, p'⟩
  refine wpAny_newObj_type ?_ (by show 2 ≤ sizeLine; decide)
  have I2 : Inv X pins σ H1 { s1 with heap := s1.heap.push { cls := .type "tuple", data := .seq [u1, u2].toArray } } := I1.kept (t' := s1.toks) fun b o e => Heap.get?_push_of_some _ e
  rw [hw]
  refine wpAny_bind (wpAny_pure ?_)
  show wpAny (model X.prog X.w) X.A (do rule "assign.swapped-stores"; let items ← unpackItems (.ref s1.heap.objs.size) 2 none; assignInOrder [fun v => bindName X.env y v, fun v => bindName X.env x v] items.reverse; pure Flow.next) _ _ _
  refine wpAny_bind (wpAny_rule (wpAny_bind (unpackItems_tuple (items := #[u1, u2]) (I.ok.hd hc) (IsTup.new s1.heap _) fun h' hx' => ?_)))
  have I3 := I2.kept (h' := h') (t' := s1.toks) fun b o e => hx' b o (Nat.ne_of_lt (Heap.lt_size e)) e
  show wpAny _ _ (assignInOrder [fun v => bindName X.env y v, fun v => bindName X.env x v] [u2, u1] >>= fun _ => pure Flow.next) _ _ _
  refine wpAny_bind (assignInOrder_cons (wpAny_bindName (store_ok I3 hN hj (.inl hy) rw' (fun s2 I4 => ?_) (.inr hy))))
  refine assignInOrder_cons (wpAny_bindName (store_ok I4 hN hi (.inl hx) rv (fun s3 I5 => assignInOrder_nil (wpAny_pure ?_)) (.inr hx)))
  rw [List.set_comm _ _ (Ne.symm hij)] at I5
  exact ⟨_, H1, I5, q1⟩
/-- name op= e -/
def tAug (i : Nat) (te : TE) (ti : TIp) : TS := fun D σ H => ∃ x, σ[i]? = some (some x) ∧ te σ H fun y H1 => ti x y H1 fun z H2 => D.nx (σ.set i (some z)) H2
theorem ps_aug {i : Nat} {x : Str} {e : Expr} {te : TE} {op : Operator} {ti : TIp} {pos' : Pos} (hN : X.N.Nodup) (hi : X.N[i]? = some x) (hx : Loc X.env.scope x) (he : PE X e te) (ho : PIp X op ti) (hf : X.fn x = true ∨ X.env.scope.names.lookup x = some .local := by first | exact .inl rfl | exact .inr rfl | assumption) :
    PS X (.AugAssign (.Name x pos') op e pos) (tAug i te ti) := by
  intro pins s σ H D I h
  obtain ⟨v, e1, h⟩ := h
  obtain ⟨m, hn, hl⟩ := I.loc
  have vis : Vis X.env.scope x := by rcases hx with k | k; exact .inl k; exact .inr (.inl k)
  obtain ⟨u, r, l⟩ := hl i x v hi e1 vis
  refine wpAny_AugAssign_Name ?_
  have go : wpAny (model X.prog X.w) X.A (eval e X.env) (fun w s₂ => wpAny (model X.prog X.w) X.A (inplaceOp op u w) (fun r s₃ => wpAny (model X.prog X.w) X.A (storeName X.env x r) (fun _ => SP X pins D .next) X.xe s₃) X.xe s₂) X.xe s := by
    refine thn (he pins s σ H _ I h) fun w s1 ⟨y, H1, I1, r1, q1⟩ => ?_
    refine thn (ho pins s1 σ H1 v y u w _ I1 r r1 q1) fun z s2 ⟨zv, H2, I2, r2, q2⟩ => ?_
    exact store_ok I2 hN hi hx r2 (fun s3 I3 => ⟨_, H2, I3, q2⟩) hf
  rcases l with ⟨hk, hm⟩ | ⟨hk, c, hc, hcell⟩
  · exact wpAny_loadName_local I.ok.kind hk hn hm go
  · rcases hk with hk | hk
    · exact wpAny_loadName_cell I.ok.kind hk hc hcell go
    · rcases hx with k | k
      · have : X.env.scope.names.lookup x = some .free := hk
        rw [k] at this; cases this
      · have : X.env.scope.names.lookup x = some .free := hk
        rw [k] at this; cases this
/-- o[i] op= e -/
def tAugS (to ti te : TE) (tget : V → V → Hp → VK → Prop) (tip : TIp) (tset : TSet) : TS := fun D σ H => to σ H fun o H1 => ti σ H1 fun i H2 => tget o i H2 fun x H3 => te σ H3 fun y H4 => tip x y H4 fun z H5 => tset o i z H5 fun H6 => D.nx σ H6
/-- o[i], by values -/
def PGet (X : Cx) (t : V → V → Hp → VK → Prop) : Prop :=
  ∀ (pins : List (Addr × Obj)) (s : Shared) (σ : St) (H : Hp) (o i : V) (ov iv : Value) (Q : VK), Inv X pins σ H s → RelV o ov → RelV i iv → t o i H Q →
    wpAny (model X.prog X.w) X.A (getItem ov iv) (EP X pins σ Q) X.xe s
theorem ps_augS {o i e : Expr} {to ti te : TE} {tget : V → V → Hp → VK → Prop} {tip : TIp} {tset : TSet} {op : Operator} {tpos : Pos} (ho : PE X o to) (hi : PE X i ti) (hg : PGet X tget) (he : PE X e te) (hp : PIp X op tip) (hs : PSet X tset)
    (ha : ∀ ov iv new, augStore i ov iv new = (do holding [new, ov, iv] (setItem ov iv new); release [new, ov, iv] []; pure .next) := by intros; rfl) : PS X (.AugAssign (.Subscript o i tpos) op e pos) (tAugS to ti te tget tip tset) := by
  intro pins s σ H D I h
  refine wpAny_AugAssign_SubscriptAny (thn (ho pins s σ H _ I h) fun ov s1 ⟨x1, H1, I1, r1, q1⟩ => ?_) ha
  refine thn (hi pins s1 σ H1 _ I1 q1) fun iv s2 ⟨x2, H2, I2, r2, q2⟩ => ?_
  refine thn (hg pins s2 σ H2 x1 x2 ov iv _ I2 r1 r2 q2) fun old s3 ⟨x3, H3, I3, r3, q3⟩ => ?_
  refine thn (he pins s3 σ H3 _ I3 q3) fun v s4 ⟨x4, H4, I4, r4, q4⟩ => ?_
  refine thn (hp pins s4 σ H4 x3 x4 old v _ I4 r3 r4 q4) fun new s5 ⟨x5, H5, I5, r5, q5⟩ => ?_
  exact thn (hs pins s5 σ H5 x1 x2 x5 ov iv new _ I5 r1 r2 r5 q5) fun _ s6 ⟨H6, I6, q6⟩ => ⟨σ, H6, I6, q6⟩
/-- ints -/
def ipI (f : Int → Int → Int) : TIp := fun x y H Q => ∃ i j, x = .int i ∧ y = .int j ∧ Q (.int (f i j)) H
theorem ip_add : PIp X .Add (ipI fun i j => i + j) := by
  intro pins s σ H x y v u Q I r1 r2 h
  obtain ⟨i, j, e1, e2, q⟩ := h
  subst e1; subst e2
  obtain ⟨t, rfl⟩ := r1
  obtain ⟨t', rfl⟩ := r2
  exact iadd_int ⟨.int _, H, I.tok _, ⟨_, rfl⟩, q⟩
theorem ip_sub : PIp X .Sub (ipI fun i j => i - j) := by
  intro pins s σ H x y v u Q I r1 r2 h
  obtain ⟨i, j, e1, e2, q⟩ := h
  subst e1; subst e2
  obtain ⟨t, rfl⟩ := r1
  obtain ⟨t', rfl⟩ := r2
  exact isub_int ⟨.int _, H, I.tok _, ⟨_, rfl⟩, q⟩
end

/-! ### while -/
section
variable {X : Cx} {pos : Pos}
/-- the invariant W with its measure -/
def tWhile (c : TT) (tb : TS) : TS := fun D σ H => ∃ W : Nat → St → Hp → Prop, (∃ m, W m σ H) ∧ ∀ m σ H, W m σ H →
  c σ H fun b H1 => if b = true then ∃ N : St → Hp → Prop, (∀ σ' H', N σ' H' → ∃ m', m' < m ∧ W m' σ' H') ∧ tb { D with nx := N, ct := N, bk := D.nx } σ H1 else D.nx σ H1
theorem ps_while {c : Expr} {body : List Stmt} {tc : TT} {tb : TS} (hp : PassesOwn (model X.prog X.w) X.A X.env X.xe) (hc : PT X c tc) (hb : PSs X body tb) : PS X (.While c body [] pos) (tWhile tc tb) := by
  intro pins s σ H D I h
  obtain ⟨W, ⟨m0, w0⟩, turn⟩ := h
  refine wpAny_While (codeAny_whileLoop (fun n s' => ∃ σ' H', Inv X pins σ' H' s' ∧ W n σ' H') ?_ m0 ⟨σ, H, I, w0⟩)
  rintro n s1 ⟨σ1, H1, I1, w1⟩
  refine wpAny_passesOwn hp (thn (hc pins s1 σ1 H1 _ I1 (turn n σ1 H1 w1)) fun b s2 ⟨H2, I2, q2⟩ => ?_)
  cases b with
  | true =>
    obtain ⟨N, hN, q2⟩ := q2
    rw [if_pos rfl]
    refine wpAny_passesOwn hp (thn (hb pins s2 σ1 H2 _ I2 q2) fun f s3 q3 => ?_)
    cases f with
    | next =>
      obtain ⟨σ3, H3, I3, n3⟩ := q3
      obtain ⟨m', hm, w3⟩ := hN σ3 H3 n3
      exact ⟨m', hm, σ3, H3, I3, w3⟩
    | cont =>
      obtain ⟨σ3, H3, I3, n3⟩ := q3
      obtain ⟨m', hm, w3⟩ := hN σ3 H3 n3
      exact ⟨m', hm, σ3, H3, I3, w3⟩
    | brk => exact q3
    | ret v => exact q3
  | false =>
    rw [if_neg Bool.false_ne_true]
    exact wpAny_execs_nil ⟨σ1, H2, I2, q2⟩
end

/-! ### what a loop or a comprehension walks -/
/-- at turn i: it yields x (the heap may grow), or it stops -/
structure It where
  go : Nat → Hp → Prop
  yld : Nat → Hp → V → Hp → Prop
  stop : Nat → Hp → Prop
/-- the iterator's own objects may turn: they are not the frame's, not pinned, younger than the entry (or a comprehension's own) -/
def FpOk (X : Cx) (pins : List (Addr × Obj)) (H : Hp) (b : Addr) : Prop :=
  H b = none ∧ b ≠ X.env.locals ∧ b ∉ X.fs ∧ (b ∈ X.ex ∨ X.s₀.heap.objs.size ≤ b) ∧ (∀ x c, X.env.cells.lookup x = some c → c ≠ b) ∧ ∀ p ∈ X.pn ++ pins, p.1 ≠ b
theorem Inv.fpOk {X : Cx} {pins : List (Addr × Obj)} {σ : St} {H H' : Hp} {s : Shared} {b : Addr} (I : Inv X pins σ H s) (hb : s.heap.objs.size ≤ b) (hn : H' b = none) : FpOk X pins H' b := by
  refine ⟨hn, Nat.ne_of_gt (Nat.lt_of_lt_of_le I.lt hb), I.nofs hb, .inr (Nat.le_trans I.sz hb), fun x c e z => ?_, fun p hp z => ?_⟩
  · obtain ⟨v, q⟩ := I.cell x c e
    exact absurd (Nat.lt_of_lt_of_le q.lt (by rw [z]; exact hb)) (Nat.lt_irrefl _)
  · exact absurd (Nat.lt_of_lt_of_le (Heap.lt_size (I.pin p hp).1) (by rw [z]; exact hb)) (Nat.lt_irrefl _)
structure Turn (P : Program) (w : World) (K : PySem.W.Frag) (tg : Expr) (J : It) (fp : List Addr) (it : Addr) (tn : Nat → Heap → Prop) : Prop where
  mem : it ∈ fp
  obj : ∀ i h, tn i h → ∀ b ∈ fp, ∃ o, h.get? b = some o ∧ ∀ v, o.data ≠ .cell v
  keep : ∀ i h h', tn i h → (∀ b ∈ fp, ∀ o, h.get? b = some o → h'.get? b = some o) → tn i h'
  item : ∀ (X : Cx), X.prog = P → X.w = w → X.K = K → X.calm = true → ∀ (i : Nat) (pins : List (Addr × Obj)) (s : Shared) (σ : St) (H : Hp) (E : Value → Shared → Prop), Inv X pins σ H s → (∀ b ∈ fp, FpOk X pins H b) → tn i s.heap → J.go i H →
    wpAny (model P w) X.A (pyNext (.ref it)) (fun r s1 => ∃ u, r = some u ∧
      wpAny (model P w) X.A (letOwnedTupleGo tg (.ref it) u) (fun _ s2 => ∃ x H', Inv X pins σ H' s2 ∧ RelV x u ∧ J.yld i H x H' ∧ tn (i + 1) s2.heap ∧ ∀ b ∈ fp, H' b = none) E s1) E s
  done : ∀ (X : Cx), X.prog = P → X.w = w → X.K = K → X.calm = true → ∀ (i : Nat) (pins : List (Addr × Obj)) (s : Shared) (σ : St) (H : Hp) (E : Value → Shared → Prop), Inv X pins σ H s → (∀ b ∈ fp, FpOk X pins H b) → tn i s.heap → J.stop i H →
    wpAny (model P w) X.A (pyNext (.ref it)) (fun r s1 => r = none ∧ Inv X pins σ H s1) E s
  self : ∀ (A : Around) (i : Nat) (s : Shared) (Q : Value → Shared → Prop) (E : Value → Shared → Prop), tn i s.heap → Q (.ref it) s → wpAny (model P w) A (pyIter (.ref it)) Q E s
abbrev TI := St → Hp → (It → Hp → Prop) → Prop
/-- an iterator has come -/
def PIE (X : Cx) (pins : List (Addr × Obj)) (σ : St) (tg : Expr) (R : It → Hp → Prop) (itv : Value) (s2 : Shared) : Prop :=
  ∃ (it : Addr) (fp : List Addr) (tn : Nat → Heap → Prop) (J : It) (H' : Hp), itv = .ref it ∧ Inv X pins σ H' s2 ∧ Turn X.prog X.w X.K tg J fp it tn ∧ tn 0 s2.heap ∧ (∀ b ∈ fp, FpOk X pins H' b) ∧ R J H'
def PI (X : Cx) (tg iter : Expr) (wi : TI) : Prop :=
  ∀ (pins : List (Addr × Obj)) (s : Shared) (σ : St) (H : Hp) (R : It → Hp → Prop), Inv X pins σ H s → wi σ H R →
    wpAny (model X.prog X.w) X.A (eval iter X.env) (fun v s1 => wpAny (model X.prog X.w) X.A (pyIter v) (PIE X pins σ tg R) X.xe s1) X.xe s

/-- the step ahead of the store is nothing for an iterator that keeps no tuple -/
theorem go_of {M : Model} {A : Around} {E : Value → Shared → Prop} {s : Shared} {tg : Expr} {it : Addr} {u : Value} {o : Obj} {n : String} {vs : Array Value} {Q : Unit → Shared → Prop} (ho : s.heap.get? it = some o) (hc : o.cls = .type n) (hd : o.data = .fields vs)
    (hn : ["enumerate", "zip", "dict_itemiterator", "dict_reverseitemiterator", "odict_iterator", "itertools.zip_longest", "itertools.pairwise"].contains n = false) (hQ : Q () s) : wpAny M A (letOwnedTupleGo tg (.ref it) u) Q E s := by
  unfold letOwnedTupleGo
  cases tg <;> first
    | exact wpAny_pure hQ
    | (cases u <;> first
        | exact wpAny_pure hQ
        | (refine wpAny_bind (wpAny_load ho ?_)
           rw [hc, hd]
           show wpAny M A (if (["enumerate", "zip", "dict_itemiterator", "dict_reverseitemiterator", "odict_iterator", "itertools.zip_longest", "itertools.pairwise"].contains n && vs[0]? == some (rawInt _)) = true then _ else _) Q E s
           rw [if_neg (by intro h; rw [hn, Bool.false_and] at h; cases h)]
           exact wpAny_pure hQ))

/-- the list at a, as it stands at each turn (a loop may append to it) -/
def Itl (K : PySem.W.Frag) (a : Addr) : It :=
  ⟨fun i H => ∃ xs x, SqL K H a xs ∧ xs[i]? = some x, fun i H x H' => H' = H ∧ ∀ xs, SqL K H a xs → xs[i]? = some x, fun i H => ∃ xs, SqL K H a xs ∧ xs.length ≤ i⟩
def Itt (K : PySem.W.Frag) (a : Addr) : It :=
  ⟨fun i H => ∃ xs x, SqT K H a xs ∧ xs[i]? = some x, fun i H x H' => H' = H ∧ ∀ xs, SqT K H a xs → xs[i]? = some x, fun i H => ∃ xs, SqT K H a xs ∧ xs.length ≤ i⟩
/-- lo, lo + 1, .. (n of them) -/
def Itr (lo : Int) (n : Nat) : It := ⟨fun i _ => i < n, fun i H x H' => H' = H ∧ x = .int (lo + i), fun i _ => n ≤ i⟩
theorem turn_list {P : Program} {w : World} {K : PySem.W.Frag} {tg : Expr} (a it : Addr) : Turn P w K tg (Itl K a) [it] it (fun i h => h.IsListIter it a i) where
  mem := by simp
  obj := fun i h st b hb => by
    have e : b = it := by simpa using hb
    subst e
    obtain ⟨o, e, c, d⟩ := st
    exact ⟨o, e, fun v z => by rw [d] at z; cases z⟩
  keep := fun i h h' st k => st.at fun o e => k it (by simp) o e
  item := by
    intro X hP hw hK hc i pins s σ H E I hf st hg
    subst hP hw hK
    obtain ⟨xs, x, hq, hx⟩ := hg
    obtain ⟨its, rv, p, hz⟩ := I.list hq
    obtain ⟨u, hu, ru⟩ := rv.get hx
    obtain ⟨f0, f1, f2, f3, f4, f5⟩ := hf it (by simp)
    refine wpAny_pyNext_list_item st p.isList (x := u) (by simpa using hu) fun h' st' sb => ?_
    have I1 : Inv X pins σ H { s with heap := h' } := I.turned (t' := s.toks) (fun b o hb e => (sb.2 b hb).trans e) f0 f1 f3 f4 f5
    obtain ⟨o, e, c, d⟩ := id st'
    exact ⟨u, rfl, go_of (s := { s with heap := h' }) e c d (by decide) ⟨x, H, I1, ru, ⟨rfl, fun ys hy => by rw [I.list_inj hy hq]; exact hx⟩, st', fun b hb => (hf b hb).1⟩⟩
  done := by
    intro X hP hw hK hc i pins s σ H E I hf st hg
    subst hP hw hK
    obtain ⟨xs, hq, hx⟩ := hg
    obtain ⟨its, rv, p, hz⟩ := I.list hq
    obtain ⟨f0, f1, f2, f3, f4, f5⟩ := hf it (by simp)
    have hl := rv.length
    exact wpAny_pyNext_list_end (I.ok.hd hc) st p.isList (by simp; omega) fun h' eb => ⟨rfl, I.turned (t' := s.toks) (fun b o hb e => eb b o hb e) f0 f1 f3 f4 f5⟩
  self := fun _ _ _ _ _ st h => wpAny_pyIter_listiter st h
theorem turn_tuple {P : Program} {w : World} {K : PySem.W.Frag} {tg : Expr} (a it : Addr) : Turn P w K tg (Itt K a) [it] it (fun i h => h.IsTupleIter it a i) where
  mem := by simp
  obj := fun i h st b hb => by
    have e : b = it := by simpa using hb
    subst e
    obtain ⟨o, e, c, d⟩ := st
    exact ⟨o, e, fun v z => by rw [d] at z; cases z⟩
  keep := fun i h h' st k => st.at fun o e => k it (by simp) o e
  item := by
    intro X hP hw hK hc i pins s σ H E I hf st hg
    subst hP hw hK
    obtain ⟨xs, x, hq, hx⟩ := hg
    obtain ⟨its, rv, p, hz⟩ := I.tuple hq
    obtain ⟨u, hu, ru⟩ := rv.get hx
    obtain ⟨f0, f1, f2, f3, f4, f5⟩ := hf it (by simp)
    refine wpAny_pyNext_tuple_item st (show s.heap.IsTuple a its.toArray from p) (x := u) (by simpa using hu) fun h' st' sb => ?_
    have I1 : Inv X pins σ H { s with heap := h' } := I.turned (t' := s.toks) (fun b o hb e => (sb.2 b hb).trans e) f0 f1 f3 f4 f5
    obtain ⟨o, e, c, d⟩ := id st'
    exact ⟨u, rfl, go_of (s := { s with heap := h' }) e c d (by decide) ⟨x, H, I1, ru, ⟨rfl, fun ys hy => by rw [I.tuple_inj hy hq]; exact hx⟩, st', fun b hb => (hf b hb).1⟩⟩
  done := by
    intro X hP hw hK hc i pins s σ H E I hf st hg
    subst hP hw hK
    obtain ⟨xs, hq, hx⟩ := hg
    obtain ⟨its, rv, p, hz⟩ := I.tuple hq
    obtain ⟨f0, f1, f2, f3, f4, f5⟩ := hf it (by simp)
    have hl := rv.length
    exact wpAny_pyNext_tuple_end (I.ok.hd hc) st (show s.heap.IsTuple a its.toArray from p) (by simp; omega) fun h' eb => ⟨rfl, I.turned (t' := s.toks) (fun b o hb e => eb b o hb e) f0 f1 f3 f4 f5⟩
  self := fun _ _ _ _ _ st h => wpAny_pyIter_tupleiter st h
theorem turn_range {P : Program} {w : World} {K : PySem.W.Frag} {tg : Expr} (it : Addr) (lo : Int) (n : Nat) : Turn P w K tg (Itr lo n) [it] it (fun i h => IsRangeIter h it (lo + (i : Nat) * 1) ((n : Int) - (i : Nat)) 1) where
  mem := by simp
  obj := fun i h st b hb => by
    have e : b = it := by simpa using hb
    subst e
    exact ⟨_, st, fun v z => by
      have z' : Data.fields _ = Data.cell v := z
      cases z'⟩
  keep := fun i h h' st k => k it (by simp) _ st
  item := by
    intro X hP hw hK hc i pins s σ H E I hf st hg
    subst hP hw hK
    obtain ⟨f0, f1, f2, f3, f4, f5⟩ := hf it (by simp)
    have W := Walks.range (prog := X.prog) (w := X.w) (I.ok.hd hc) it lo 1 n
    refine W.item i s _ _ hg st fun v h' tk hv st' kk => ?_
    obtain ⟨t, rfl⟩ := hv
    have I1 : Inv X pins σ H { s with heap := h', toks := tk } := I.turned (fun b o hb e => kk b o (by simpa using hb) e) f0 f1 f3 f4 f5
    refine ⟨_, rfl, go_of (s := { s with heap := h', toks := tk }) (n := "range_iterator") st' rfl rfl (by decide) ⟨.int (lo + i), H, I1, ⟨t, ?_⟩, ⟨rfl, rfl⟩, st', fun b hb => (hf b hb).1⟩⟩
    rw [Int.mul_one]
  done := by
    intro X hP hw hK hc i pins s σ H E I hf st hg
    subst hP hw hK
    obtain ⟨f0, f1, f2, f3, f4, f5⟩ := hf it (by simp)
    exact wpAny_pyNext_range_end (I.ok.hd hc) st (by have : n ≤ i := hg; omega) fun h' eb => ⟨rfl, I.turned (t' := s.toks) (fun b o hb e => eb b o hb e) f0 f1 f3 f4 f5⟩
  self := fun _ _ _ _ _ st h => wpAny_pyIter_rangeiter st h
end L2

namespace L2
open PySem PySem.Spec PyProof.Rows
section
variable {X : Cx} {tg : Expr}
def iList (K : PySem.W.Frag) (tl : TE) : TI := fun σ H R => tl σ H fun x H1 => ∃ a, x = .ref a ∧ (∃ xs, SqL K H1 a xs) ∧ R (Itl K a) H1
def iTup (K : PySem.W.Frag) (tl : TE) : TI := fun σ H R => tl σ H fun x H1 => ∃ a, x = .ref a ∧ (∃ xs, SqT K H1 a xs) ∧ R (Itt K a) H1
theorem pi_list {l : Expr} {tl : TE} (hl : PE X l tl) : PI X tg l (iList X.K tl) := by
  intro pins s σ H R I h
  refine thn (hl pins s σ H _ I h) fun v s1 ⟨x, H1, I1, r1, q1⟩ => ?_
  obtain ⟨a, e, ⟨xs, hq⟩, q⟩ := q1
  subst e
  cases r1
  obtain ⟨its, rv, p, hz⟩ := I1.list hq
  refine wpAny_pyIter_list p.isList ?_
  refine ⟨s1.heap.objs.size, [s1.heap.objs.size], _, _, H1, rfl, I1.kept (t' := s1.toks) fun b o e => Heap.get?_push_of_some _ e, turn_list a _, ⟨_, Heap.get?_push_size _ rfl, rfl, rfl⟩, fun b hb => ?_, q⟩
  have e : b = s1.heap.objs.size := by simpa using hb
  subst e
  exact I1.fpOk (Nat.le_refl _) (I1.hok.fresh (Nat.le_refl _))
theorem pi_tup {l : Expr} {tl : TE} (hl : PE X l tl) : PI X tg l (iTup X.K tl) := by
  intro pins s σ H R I h
  refine thn (hl pins s σ H _ I h) fun v s1 ⟨x, H1, I1, r1, q1⟩ => ?_
  obtain ⟨a, e, ⟨xs, hq⟩, q⟩ := q1
  subst e
  cases r1
  obtain ⟨its, rv, p, hz⟩ := I1.tuple hq
  refine wpAny_pyIter_tuple (show s1.heap.IsTuple a its.toArray from p) ?_
  refine ⟨s1.heap.objs.size, [s1.heap.objs.size], _, _, H1, rfl, I1.kept (t' := s1.toks) fun b o e => Heap.get?_push_of_some _ e, turn_tuple a _, ⟨_, Heap.get?_push_size _ rfl, rfl, rfl⟩, fun b hb => ?_, q⟩
  have e : b = s1.heap.objs.size := by simpa using hb
  subst e
  exact I1.fpOk (Nat.le_refl _) (I1.hok.fresh (Nat.le_refl _))
/-- a range object just made, walked -/
theorem range_it {pins : List (Addr × Obj)} {σ : St} {H : Hp} {s : Shared} {R : It → Hp → Prop} {E : Value → Shared → Prop} {lo hi : Int} {t u v : Tok} {tk : Nat} (I : Inv X pins σ H s) (h1 : -(2 ^ 62) ≤ lo) (h2 : lo < 2 ^ 62) (h3 : -(2 ^ 62) ≤ hi) (h4 : hi < 2 ^ 62)
    (q : R (Itr lo (hi - lo).toNat) H) : wpAny (model X.prog X.w) X.A (pyIter (.ref s.heap.objs.size)) (PIE X pins σ tg R) E { s with heap := s.heap.push { cls := .type "range", data := .fields #[.int lo t, .int hi u, .int 1 v] }, toks := tk } := by
  refine wpAny_pyIter_range (IsRange.new ..) (small_one h1 h2 h3 h4) ?_
  have I1 : Inv X pins σ H { s with heap := s.heap.push { cls := .type "range", data := .fields #[.int lo t, .int hi u, .int 1 v] }, toks := tk } := I.kept fun b o e => Heap.get?_push_of_some _ e
  refine ⟨(s.heap.push { cls := .type "range", data := .fields #[.int lo t, .int hi u, .int 1 v] }).objs.size, [(s.heap.push { cls := .type "range", data := .fields #[.int lo t, .int hi u, .int 1 v] }).objs.size], _, _, H, rfl,
    I1.kept (t' := tk) fun b o e => Heap.get?_push_of_some _ e, turn_range _ lo (hi - lo).toNat, ?_, fun b hb => ?_, q⟩
  · have e1 : lo + ((0 : Nat) : Int) * 1 = lo := by simp
    have e2 : (((hi - lo).toNat : Nat) : Int) - ((0 : Nat) : Int) = Builtin.Range.rangeSize lo hi 1 := by rw [rangeSize_one]; split <;> omega
    show IsRangeIter _ _ (lo + ((0 : Nat) : Int) * 1) ((((hi - lo).toNat : Nat) : Int) - ((0 : Nat) : Int)) 1
    rw [e1, e2]
    exact Heap.get?_push_size _ rfl
  · have e : b = (s.heap.push { cls := .type "range", data := .fields #[.int lo t, .int hi u, .int 1 v] }).objs.size := by simpa using hb
    subst e
    exact I1.fpOk (Nat.le_refl _) (I1.hok.fresh (Nat.le_refl _))
def iRng1 (ta : TA) : TI := fun σ H R => ta σ H fun vs H1 => ∃ j : Int, vs = [.int j] ∧ -(2 ^ 62) ≤ j ∧ j < 2 ^ 62 ∧ R (Itr 0 j.toNat) H1
def iRng2 (ta : TA) : TI := fun σ H R => ta σ H fun vs H1 => ∃ i j : Int, vs = [.int i, .int j] ∧ (-(2 ^ 62) ≤ i ∧ i < 2 ^ 62 ∧ -(2 ^ 62) ≤ j ∧ j < 2 ^ 62) ∧ R (Itr i (j - i).toNat) H1
theorem pi_range1 {a : Expr} {ta : TA} {p pos : Pos} (hg : Gl X "range") (hm : X.mg "range" = none) (ha : PA X [a] ta) (hs : starEach [a] X.env = [(false, eval a X.env)] := by rfl) : PI X tg (.Call (.Name "range" p) [a] [] pos) (iRng1 ta) := by
  intro pins s σ H R I h
  refine Call_ (ld_blt I hg hm boot_range (PyProof.Rows.callWith_type1 (thn (ha pos pins s σ H _ I h) fun us s1 ⟨vs, H1, I1, r1, q1⟩ => ?_) hs rfl))
  obtain ⟨j, e, q1, q2, q⟩ := q1
  subst e
  cases r1 with
  | cons r rr =>
    cases rr
    obtain ⟨t, rfl⟩ := r
    exact call_range_1 (range_it I1 (by omega) (by omega) q1 q2 (by simpa using q))
theorem pi_range2 {a b : Expr} {ta : TA} {p pos : Pos} (hg : Gl X "range") (hm : X.mg "range" = none) (ha : PA X [a, b] ta) (hs : starEach [a, b] X.env = [(false, eval a X.env), (false, eval b X.env)] := by rfl) (hs2 : starEach [b] X.env = [(false, eval b X.env)] := by rfl) :
    PI X tg (.Call (.Name "range" p) [a, b] [] pos) (iRng2 ta) := by
  intro pins s σ H R I h
  refine Call_ (ld_blt I hg hm boot_range (PyProof.Rows.callWith_type1 (thn (ha pos pins s σ H _ I h) fun us s1 ⟨vs, H1, I1, r1, q1⟩ => ?_) (by rw [hs, hs2]) (by rw [hs2]; rfl)))
  obtain ⟨i, j, e, ⟨q1, q2, q3, q4⟩, q⟩ := q1
  subst e
  cases r1 with
  | cons r rr =>
    cases rr with
    | cons r' rr =>
      cases rr
      obtain ⟨t, rfl⟩ := r
      obtain ⟨t', rfl⟩ := r'
      exact call_range_2 (range_it I1 q1 q2 q3 q4 q)

/-! ### for -/
/-- W: the invariant by the turn and a measure; N: what the body is to reach -/
def tFor (wi : TI) (g : TG) (tb : TS) : TS := fun D σ H => wi σ H fun J H1 => ∃ W : Nat → Nat → St → Hp → Prop, (∃ m, W 0 m σ H1) ∧ ∀ i m σ H, W i m σ H →
  (J.stop i H ∧ D.nx σ H) ∨ (J.go i H ∧ ∃ N : St → Hp → Prop, (∀ σ' H', N σ' H' → ∃ m', m' < m ∧ W (i + 1) m' σ' H') ∧ ∀ x H', J.yld i H x H' → g x σ H' fun σ2 H2 => tb { D with nx := N, ct := N, bk := D.nx } σ2 H2)
/-- the records at fp as they stand -/
def pinsAt (fp : List Addr) (h : Heap) : List (Addr × Obj) := fp.filterMap fun b => (h.get? b).map fun o => (b, o)
theorem mem_pinsAt {fp : List Addr} {h : Heap} {b : Addr} {o : Obj} (hb : b ∈ fp) (e : h.get? b = some o) : (b, o) ∈ pinsAt fp h := List.mem_filterMap.mpr ⟨b, hb, by rw [e]; rfl⟩
theorem of_pinsAt {fp : List Addr} {h : Heap} {p : Addr × Obj} (hp : p ∈ pinsAt fp h) : p.1 ∈ fp ∧ h.get? p.1 = some p.2 := by
  obtain ⟨b, hb, e⟩ := List.mem_filterMap.mp hp
  cases q : h.get? b with
  | none => rw [q] at e; cases e
  | some o =>
    rw [q] at e
    have e' : (b, o) = p := Option.some.inj e
    subst e'
    exact ⟨hb, q⟩
theorem Inv.pinned {pins : List (Addr × Obj)} {σ : St} {H : Hp} {s : Shared} {fp : List Addr} (I : Inv X pins σ H s) (hf : ∀ b ∈ fp, FpOk X pins H b) (ho : ∀ b ∈ fp, ∃ o, s.heap.get? b = some o ∧ ∀ v, o.data ≠ .cell v) : Inv X (pins ++ pinsAt fp s.heap) σ H s :=
  I.pins_of fun p hp => (List.mem_append.mp hp).elim (fun z => I.pin p (List.mem_append_right _ z)) fun z => by
    obtain ⟨hb, e⟩ := of_pinsAt z
    obtain ⟨f0, f1, f2, _⟩ := hf p.1 hb
    obtain ⟨o, e', d⟩ := ho p.1 hb
    rw [e] at e'; cases e'
    exact ⟨e, f0, f1, f2, d⟩
theorem Inv.unpinned {pins pl : List (Addr × Obj)} {σ : St} {H : Hp} {s : Shared} (I : Inv X (pins ++ pl) σ H s) : Inv X pins σ H s := I.pins_of fun p hp => I.pin p (List.mem_append_right _ (List.mem_append_left _ hp))
theorem ps_for {iter : Expr} {body : List Stmt} {wi : TI} {g : TG} {tb : TS} {pos : Pos} (hp : PassesOwn (model X.prog X.w) X.A X.env X.xe) (hc : X.calm = true) (hi : PI X tg iter wi) (hg : PG X tg g) (hb : PSs X body tb)
    (hs : ∀ x, foldedSetIterable iter X.env x = pure x := by intro _; rfl) : PS X (.For tg iter body [] pos) (tFor wi g tb) := by
  intro pins s σ H D I h
  refine wpAny_For (thn (hi pins s σ H _ I h) fun v s1 h1 => thn h1 fun itv s2 h2 => ?_) hs
  obtain ⟨it, fp, tn, J, H2, e, I2, T, st2, f2, W, ⟨m0, w0⟩, turn⟩ := h2
  subst e
  -- what stays true of the iterator's objects through the loop
  have stat : ∀ {H' : Hp}, (∀ b ∈ fp, H' b = none) → ∀ b ∈ fp, FpOk X pins H' b := fun hn b hb => ⟨hn b hb, (f2 b hb).2⟩
  refine codeAny_forLoop_any (fun n s' => ∃ i σ' H', Inv X pins σ' H' s' ∧ tn i s'.heap ∧ (∀ b ∈ fp, H' b = none) ∧ W i n σ' H') ?_ m0 ⟨0, σ, H2, I2, st2, fun b hb => (f2 b hb).1, w0⟩
  rintro n s3 ⟨i, σ3, H3, I3, st3, fr3, w3⟩
  rcases turn i n σ3 H3 w3 with ⟨stop, qn⟩ | ⟨go, N, hN, step⟩
  · refine wpAny_passesOwn hp (thn (T.done X rfl rfl rfl hc i pins s3 σ3 H3 X.xe I3 (stat fr3) st3 stop) fun r s4 ⟨hr, I4⟩ => ?_)
    subst hr
    exact wpAny_execs_nil ⟨σ3, H3, I4, qn⟩
  · refine wpAny_passesOwn hp (thn (T.item X rfl rfl rfl hc i pins s3 σ3 H3 X.xe I3 (stat fr3) st3 go) fun r s4 ⟨u, hr, h4⟩ => ?_)
    subst hr
    refine wpAny_passesOwn hp (thn h4 fun _ s5 ⟨x, H5, I5, r5, y5, st5, fr5⟩ => ?_)
    have I5' := I5.pinned (stat fr5) (T.obj _ _ st5)
    refine wpAny_passesOwn hp (thn (hg _ s5 σ3 H5 x u _ I5' r5 (step x H5 y5)) fun _ s6 ⟨σ6, H6, I6, q6⟩ => ?_)
    refine wpAny_passesOwn hp (thn (hb _ s6 σ6 H6 _ I6 q6) fun f s7 q7 => ?_)
    have again : ∀ {σ7 : St} {H7 : Hp}, Inv X (pins ++ pinsAt fp s5.heap) σ7 H7 s7 → N σ7 H7 → ∃ m, m < n ∧ ∃ i σ' H', Inv X pins σ' H' s7 ∧ tn i s7.heap ∧ (∀ b ∈ fp, H' b = none) ∧ W i m σ' H' := fun {σ7 H7} I7 n7 => by
      obtain ⟨m', hm, w7⟩ := hN σ7 H7 n7
      refine ⟨m', hm, i + 1, σ7, H7, I7.unpinned, T.keep _ _ _ st5 fun b hb o e => (I7.pin (b, o) (List.mem_append_right _ (List.mem_append_right _ (mem_pinsAt hb e)))).1, fun b hb => ?_, w7⟩
      obtain ⟨o, e, d⟩ := T.obj _ _ st5 b hb
      exact (I7.pin (b, o) (List.mem_append_right _ (List.mem_append_right _ (mem_pinsAt hb e)))).2.1
    cases f with
    | next => obtain ⟨σ7, H7, I7, n7⟩ := q7; exact again I7 n7
    | cont => obtain ⟨σ7, H7, I7, n7⟩ := q7; exact again I7 n7
    | brk => obtain ⟨σ7, H7, I7, q7⟩ := q7; exact ⟨σ7, H7, I7.unpinned, q7⟩
    | ret v => obtain ⟨x7, σ7, H7, I7, r7, q7⟩ := q7; exact ⟨x7, σ7, H7, I7.unpinned, r7, q7⟩
end

/-! ### the forms one uses -/
/-- over a list that the body leaves as it is -/
theorem for_list {K : PySem.W.Frag} {a : Addr} {xs : List V} {g : TG} {tb : TS} {D : Ends} {σ : St} {H : Hp} (Pv : Nat → St → Hp → Prop) (h0 : Pv 0 σ H) (hl : ∀ i σ H, i ≤ xs.length → Pv i σ H → SqL K H a xs)
    (hs : ∀ i x σ H, xs[i]? = some x → Pv i σ H → g x σ H fun σ2 H2 => tb { D with nx := Pv (i + 1), ct := Pv (i + 1), bk := D.nx } σ2 H2) (hd : ∀ σ H, Pv xs.length σ H → D.nx σ H) :
    ∃ W : Nat → Nat → St → Hp → Prop, (∃ m, W 0 m σ H) ∧ ∀ i m σ H, W i m σ H →
      ((Itl K a).stop i H ∧ D.nx σ H) ∨ ((Itl K a).go i H ∧ ∃ N : St → Hp → Prop, (∀ σ' H', N σ' H' → ∃ m', m' < m ∧ W (i + 1) m' σ' H') ∧ ∀ x H', (Itl K a).yld i H x H' → g x σ H' fun σ2 H2 => tb { D with nx := N, ct := N, bk := D.nx } σ2 H2) := by
  refine ⟨fun i m σ H => m = xs.length - i ∧ i ≤ xs.length ∧ Pv i σ H, ⟨xs.length, by simp, Nat.zero_le _, h0⟩, ?_⟩
  rintro i m σ H ⟨rfl, hi, p⟩
  have q := hl i σ H hi p
  by_cases hlt : i < xs.length
  · refine .inr ⟨⟨xs, xs[i], q, by simp [hlt]⟩, Pv (i + 1), fun σ' H' p' => ⟨xs.length - (i + 1), by omega, rfl, hlt, p'⟩, fun x H' y => ?_⟩
    obtain ⟨e, y⟩ := y
    subst e
    exact hs i x σ _ (y xs q) p
  · have e : i = xs.length := by omega
    subst e
    exact .inl ⟨⟨xs, q, Nat.le_refl _⟩, hd σ H p⟩
theorem for_tup {K : PySem.W.Frag} {a : Addr} {xs : List V} {g : TG} {tb : TS} {D : Ends} {σ : St} {H : Hp} (Pv : Nat → St → Hp → Prop) (h0 : Pv 0 σ H) (hl : ∀ i σ H, i ≤ xs.length → Pv i σ H → SqT K H a xs)
    (hs : ∀ i x σ H, xs[i]? = some x → Pv i σ H → g x σ H fun σ2 H2 => tb { D with nx := Pv (i + 1), ct := Pv (i + 1), bk := D.nx } σ2 H2) (hd : ∀ σ H, Pv xs.length σ H → D.nx σ H) :
    ∃ W : Nat → Nat → St → Hp → Prop, (∃ m, W 0 m σ H) ∧ ∀ i m σ H, W i m σ H →
      ((Itt K a).stop i H ∧ D.nx σ H) ∨ ((Itt K a).go i H ∧ ∃ N : St → Hp → Prop, (∀ σ' H', N σ' H' → ∃ m', m' < m ∧ W (i + 1) m' σ' H') ∧ ∀ x H', (Itt K a).yld i H x H' → g x σ H' fun σ2 H2 => tb { D with nx := N, ct := N, bk := D.nx } σ2 H2) := by
  refine ⟨fun i m σ H => m = xs.length - i ∧ i ≤ xs.length ∧ Pv i σ H, ⟨xs.length, by simp, Nat.zero_le _, h0⟩, ?_⟩
  rintro i m σ H ⟨rfl, hi, p⟩
  have q := hl i σ H hi p
  by_cases hlt : i < xs.length
  · refine .inr ⟨⟨xs, xs[i], q, by simp [hlt]⟩, Pv (i + 1), fun σ' H' p' => ⟨xs.length - (i + 1), by omega, rfl, hlt, p'⟩, fun x H' y => ?_⟩
    obtain ⟨e, y⟩ := y
    subst e
    exact hs i x σ _ (y xs q) p
  · have e : i = xs.length := by omega
    subst e
    exact .inl ⟨⟨xs, q, Nat.le_refl _⟩, hd σ H p⟩
theorem for_range {lo : Int} {n : Nat} {g : TG} {tb : TS} {D : Ends} {σ : St} {H : Hp} (Pv : Nat → St → Hp → Prop) (h0 : Pv 0 σ H)
    (hs : ∀ i σ H, i < n → Pv i σ H → g (.int (lo + i)) σ H fun σ2 H2 => tb { D with nx := Pv (i + 1), ct := Pv (i + 1), bk := D.nx } σ2 H2) (hd : ∀ σ H, Pv n σ H → D.nx σ H) :
    ∃ W : Nat → Nat → St → Hp → Prop, (∃ m, W 0 m σ H) ∧ ∀ i m σ H, W i m σ H →
      ((Itr lo n).stop i H ∧ D.nx σ H) ∨ ((Itr lo n).go i H ∧ ∃ N : St → Hp → Prop, (∀ σ' H', N σ' H' → ∃ m', m' < m ∧ W (i + 1) m' σ' H') ∧ ∀ x H', (Itr lo n).yld i H x H' → g x σ H' fun σ2 H2 => tb { D with nx := N, ct := N, bk := D.nx } σ2 H2) := by
  refine ⟨fun i m σ H => m = n - i ∧ i ≤ n ∧ Pv i σ H, ⟨n, by simp, Nat.zero_le _, h0⟩, ?_⟩
  rintro i m σ H ⟨rfl, hi, p⟩
  by_cases hlt : i < n
  · refine .inr ⟨hlt, Pv (i + 1), fun σ' H' p' => ⟨n - (i + 1), by omega, rfl, hlt, p'⟩, fun x H' y => ?_⟩
    obtain ⟨e, y⟩ := y
    subst e y
    exact hs i σ _ hlt p
  · have e : i = n := by omega
    subst e
    exact .inl ⟨Nat.le_refl _, hd σ H p⟩
/-- while, by a word and a measure of the state -/
theorem while_by {c : TT} {tb : TS} {D : Ends} {σ : St} {H : Hp} (Pv : St → Hp → Prop) (μ : St → Hp → Nat) (h0 : Pv σ H)
    (hs : ∀ σ H, Pv σ H → c σ H fun b H1 => if b = true then tb { D with nx := fun σ' H' => Pv σ' H' ∧ μ σ' H' < μ σ H, ct := fun σ' H' => Pv σ' H' ∧ μ σ' H' < μ σ H, bk := D.nx } σ H1 else D.nx σ H1)
    (mono : ∀ σ H Q Q', (∀ b H1, Q b H1 → Q' b H1) → c σ H Q → c σ H Q') : tWhile c tb D σ H := by
  refine ⟨fun m σ H => m = μ σ H ∧ Pv σ H, ⟨_, rfl, h0⟩, ?_⟩
  rintro m σ H ⟨rfl, p⟩
  refine mono σ H _ _ (fun b H1 q => ?_) (hs σ H p)
  cases b with
  | true => exact ⟨_, fun σ' H' ⟨p', l⟩ => ⟨_, l, rfl, p'⟩, q⟩
  | false => exact q
end L2

namespace L2
open PySem PySem.Spec PyProof.Rows

abbrev R2 := V → V → Hp → VK → Prop
/-- a two-place operation on values: f is binaryOp op, inplaceOp op or compareOp op -/
def OpR (X : Cx) (f : Value → Value → Sem Value) (r : R2) : Prop :=
  ∀ (pins : List (Addr × Obj)) (s : Shared) (σ : St) (H : Hp) (x y : V) (v u : Value) (Q : VK), Inv X pins σ H s → RelV x v → RelV y u → r x y H Q →
    wpAny (model X.prog X.w) X.A (f v u) (EP X pins σ Q) X.xe s
/-- a one-place operation -/
def UnR (X : Cx) (f : Value → Sem Value) (r : V → Hp → VK → Prop) : Prop :=
  ∀ (pins : List (Addr × Obj)) (s : Shared) (σ : St) (H : Hp) (x : V) (v : Value) (Q : VK), Inv X pins σ H s → RelV x v → r x H Q →
    wpAny (model X.prog X.w) X.A (f v) (EP X pins σ Q) X.xe s
/-- a call of a value that is known (a builtin, a type) with values -/
def CallR (X : Cx) (f : Value) (r : List V → Hp → VK → Prop) : Prop :=
  ∀ (pins : List (Addr × Obj)) (s : Shared) (σ : St) (H : Hp) (xs : List V) (us : List Value) (Q : VK), Inv X pins σ H s → Vals xs us → r xs H Q →
    wpAny (model X.prog X.w) X.A (call f us) (EP X pins σ Q) X.xe s
/-- a value's truth -/
def TruR (X : Cx) (r : V → Hp → (Bool → Hp → Prop) → Prop) : Prop :=
  ∀ (pins : List (Addr × Obj)) (s : Shared) (σ : St) (H : Hp) (x : V) (v : Value) (Q : Bool → Hp → Prop), Inv X pins σ H s → RelV x v → r x H Q →
    wpAny (model X.prog X.w) X.A (truthy v) (TP X pins σ Q) X.xe s

def tOp (r : R2) (ta tb : TE) : TE := fun σ H Q => ta σ H fun x H1 => tb σ H1 fun y H2 => r x y H2 Q
def tUn (r : V → Hp → VK → Prop) (ta : TE) : TE := fun σ H Q => ta σ H fun x H1 => r x H1 Q
/-- ints in, under C, and a value out -/
def rI (C : Int → Int → Prop) (g : Int → Int → V) : R2 := fun x y H Q => ∃ i j, x = .int i ∧ y = .int j ∧ C i j ∧ Q (g i j) H
def rI0 (g : Int → Int → V) : R2 := fun x y H Q => ∃ i j, x = .int i ∧ y = .int j ∧ Q (g i j) H
def rU (g : Int → V) : V → Hp → VK → Prop := fun x H Q => ∃ i, x = .int i ∧ Q (g i) H

section
variable {X : Cx} {a b c : Expr} {ta tb tc : TE} {pos : Pos}

theorem binT (ha : PE X a ta) (hb : PE X b tb) {pins : List (Addr × Obj)} {s : Shared} {σ : St} {H : Hp} {R : V → V → Hp → Prop} (I : Inv X pins σ H s)
    (h : ta σ H fun x H1 => tb σ H1 fun y H2 => R x y H2) {Q : Value → Shared → Prop} {f : Value → Value → Sem Value}
    (hf : ∀ v u s2 x y H2, Inv X pins σ H2 s2 → RelV x v → RelV y u → R x y H2 → wpAny (model X.prog X.w) X.A (f v u) Q X.xe s2) :
    wpAny (model X.prog X.w) X.A (eval a X.env) (fun v s₁ => wpAny (model X.prog X.w) X.A (eval b X.env) (fun u s₂ => wpAny (model X.prog X.w) X.A (f v u) Q X.xe s₂) X.xe s₁) X.xe s := by
  refine thn (ha pins s σ H _ I h) fun v s1 ⟨x, H1, I1, r1, q1⟩ => ?_
  refine thn (hb pins s1 σ H1 _ I1 q1) fun u s2 ⟨y, H2, I2, r2, q2⟩ => ?_
  exact hf v u s2 x y H2 I2 r1 r2 q2

theorem pe_op {op : Operator} {r : R2} (ho : OpR X (binaryOp op) r) (ha : PE X a ta) (hb : PE X b tb) : PE X (.BinOp a op b pos) (tOp r ta tb) := by
  intro pins s σ H Q I h
  exact wpAny_BinOp (binT ha hb I h fun v u s2 x y H2 I2 rx ry q => ho pins s2 σ H2 x y v u Q I2 rx ry q)
theorem pe_un {op : UnaryOp} {r : V → Hp → VK → Prop} (ho : UnR X (unaryOp op) r) (ha : PE X a ta) : PE X (.UnaryOp op a pos) (tUn r ta) := by
  intro pins s σ H Q I h
  exact UnaryOp_ (thn (ha pins s σ H _ I h) fun v s1 ⟨x, H1, I1, r1, q1⟩ => ho pins s1 σ H1 x v Q I1 r1 q1)
/-- a op= e at a name: the name's slot i -/
theorem augR {op : Operator} {r : R2} (ho : OpR X (inplaceOp op) r) {pins : List (Addr × Obj)} {s : Shared} {σ : St} {H : Hp} {x y : V} {v u : Value} {Q : VK} (I : Inv X pins σ H s)
    (rx : RelV x v) (ry : RelV y u) (q : r x y H Q) : wpAny (model X.prog X.w) X.A (inplaceOp op v u) (EP X pins σ Q) X.xe s := ho pins s σ H x y v u Q I rx ry q

/-! ### ints -/
theorem opI {f : Value → Value → Sem Value} {C : Int → Int → Prop} {g : Int → Int → Int}
    (rule : ∀ (i j : Int) (t u : Tok) (s : Shared) (Q : Value → Shared → Prop) (E : Value → Shared → Prop), C i j → Q (.int (g i j) s.toks) { s with toks := s.toks + 1 } → wpAny (model X.prog X.w) X.A (f (.int i t) (.int j u)) Q E s) :
    OpR X f (rI C fun i j => .int (g i j)) := by
  intro pins s σ H x y v u Q I rx ry h
  obtain ⟨i, j, rfl, rfl, hc, q⟩ := h
  obtain ⟨t, rfl⟩ := rx
  obtain ⟨t', rfl⟩ := ry
  exact rule i j t t' s _ _ hc ⟨.int (g i j), H, I.tok _, ⟨_, rfl⟩, q⟩
theorem opI0 {f : Value → Value → Sem Value} {g : Int → Int → Int}
    (rule : ∀ (i j : Int) (t u : Tok) (s : Shared) (Q : Value → Shared → Prop) (E : Value → Shared → Prop), Q (.int (g i j) s.toks) { s with toks := s.toks + 1 } → wpAny (model X.prog X.w) X.A (f (.int i t) (.int j u)) Q E s) :
    OpR X f (rI0 fun i j => .int (g i j)) := by
  intro pins s σ H x y v u Q I rx ry h
  obtain ⟨i, j, rfl, rfl, q⟩ := h
  obtain ⟨t, rfl⟩ := rx
  obtain ⟨t', rfl⟩ := ry
  exact rule i j t t' s _ _ ⟨.int (g i j), H, I.tok _, ⟨_, rfl⟩, q⟩
theorem opB0 {f : Value → Value → Sem Value} {g : Int → Int → Bool}
    (rule : ∀ (i j : Int) (t u : Tok) (s : Shared) (Q : Value → Shared → Prop) (E : Value → Shared → Prop), Q (.bool (g i j)) s → wpAny (model X.prog X.w) X.A (f (.int i t) (.int j u)) Q E s) :
    OpR X f (rI0 fun i j => .bl (g i j)) := by
  intro pins s σ H x y v u Q I rx ry h
  obtain ⟨i, j, rfl, rfl, q⟩ := h
  obtain ⟨t, rfl⟩ := rx
  obtain ⟨t', rfl⟩ := ry
  exact rule i j t t' s _ _ ⟨.bl (g i j), H, I, rfl, q⟩

def CDiv (i j : Int) : Prop := 0 < j ∧ j < 1073741824
def CDivN (i j : Int) : Prop := j ≠ 0 ∧ j.natAbs < 1073741824
def CPow (i j : Int) : Prop := 0 ≤ j ∧ j ≤ 1000000 ∧ i.natAbs < 2 ^ 64
def CMul (i j : Int) : Prop := (-(2 ^ 64) < i ∧ i < 2 ^ 64) ∨ (-(2 ^ 64) < j ∧ j < 2 ^ 64)
theorem CMul.ok {i j : Int} (h : CMul i j) : IntMulOk i j := by
  rcases h with ⟨h1, h2⟩ | ⟨h1, h2⟩
  · exact .of_left (intBits_le_64 h1 h2)
  · exact .of_right (intBits_le_64 h1 h2)
theorem two_pow_nn (k : Nat) : (0 : Int) ≤ 2 ^ k := by
  rw [two_pow_cast]
  exact Int.natCast_nonneg _

theorem op_add : OpR X (binaryOp .Add) (rI0 fun i j => .int (i + j)) := opI0 fun _ _ _ _ _ _ _ q => add_int q
theorem op_sub : OpR X (binaryOp .Sub) (rI0 fun i j => .int (i - j)) := opI0 fun _ _ _ _ _ _ _ q => sub_int q
theorem op_mul : OpR X (binaryOp .Mult) (rI CMul fun i j => .int (i * j)) := opI fun _ _ _ _ _ _ _ hc q => mul_int q hc.ok
/-- // by a positive divisor -/
theorem op_fdiv : OpR X (binaryOp .FloorDiv) (rI CDiv fun i j => .int (i / j)) := opI fun i j _ _ _ _ _ hc q => by
  have h1 : (0 : Int) < j := hc.1
  have h2 : j < 1073741824 := hc.2
  exact floordiv_int (by omega) (by rw [Int.fdiv_eq_ediv_of_nonneg i (by omega)]; exact q) (.inl (PyProof.noPylong_small (by omega)))
theorem op_fdivN : OpR X (binaryOp .FloorDiv) (rI CDivN fun i j => .int (i.fdiv j)) := opI fun _ _ _ _ _ _ _ hc q => floordiv_int hc.1 q (.inl (PyProof.noPylong_small hc.2))
/-- % by a positive divisor of any size -/
theorem op_mod : OpR X (binaryOp .Mod) (rI (fun _ j => 0 < j) fun i j => .int (i % j)) := opI fun i j _ _ _ _ _ hc q => by
  have h1 : (0 : Int) < j := hc
  exact mod_int' (by omega) (by rw [Int.fmod_eq_emod_of_nonneg i (by omega)]; exact q)
theorem op_modN : OpR X (binaryOp .Mod) (rI (fun _ j => j ≠ 0) fun i j => .int (i.fmod j)) := opI fun _ _ _ _ _ _ _ hc q => mod_int' hc q
theorem op_pow : OpR X (binaryOp .Pow) (rI CPow fun i j => .int (i ^ j.toNat)) := opI fun _ _ _ _ _ _ _ hc q => pow_int_small hc.1 hc.2.1 hc.2.2 q
theorem op_shl : OpR X (binaryOp .LShift) (rI CPow fun i j => .int (i * 2 ^ j.toNat)) := opI fun _ _ _ _ _ _ _ hc q => lshift_int_small hc.1 hc.2.1 hc.2.2 q
theorem op_shr : OpR X (binaryOp .RShift) (rI (fun _ j => 0 ≤ j) fun i j => .int (i / 2 ^ j.toNat)) := opI fun i j _ _ _ _ _ hc q =>
  rshift_int hc (by rw [Int.fdiv_eq_ediv_of_nonneg i (two_pow_nn _)]; exact q)
theorem op_and : OpR X (binaryOp .BitAnd) (rI0 fun i j => .int (Builtin.bitAnd i j)) := opI0 fun _ _ _ _ _ _ _ q => and_int q
theorem op_or : OpR X (binaryOp .BitOr) (rI0 fun i j => .int (Builtin.bitOr i j)) := opI0 fun _ _ _ _ _ _ _ q => or_int q
theorem op_xor : OpR X (binaryOp .BitXor) (rI0 fun i j => .int (Builtin.bitXor i j)) := opI0 fun _ _ _ _ _ _ _ q => xor_int q

theorem iop_add : OpR X (inplaceOp .Add) (rI0 fun i j => .int (i + j)) := opI0 fun _ _ _ _ _ _ _ q => iadd_int q
theorem iop_sub : OpR X (inplaceOp .Sub) (rI0 fun i j => .int (i - j)) := opI0 fun _ _ _ _ _ _ _ q => isub_int q
theorem iop_mul : OpR X (inplaceOp .Mult) (rI CMul fun i j => .int (i * j)) := opI fun _ _ _ _ _ _ _ hc q => imul_int q hc.ok
theorem iop_fdiv : OpR X (inplaceOp .FloorDiv) (rI CDiv fun i j => .int (i / j)) := opI fun i j _ _ _ _ _ hc q => by
  have h1 : (0 : Int) < j := hc.1
  have h2 : j < 1073741824 := hc.2
  exact ifloordiv_int (by omega) (by rw [Int.fdiv_eq_ediv_of_nonneg i (by omega)]; exact q) (.inl (PyProof.noPylong_small (by omega)))
theorem iop_mod : OpR X (inplaceOp .Mod) (rI (fun _ j => 0 < j) fun i j => .int (i % j)) := opI fun i j _ _ _ _ _ hc q => by
  have h1 : (0 : Int) < j := hc
  exact imod_int (by omega) (by rw [Int.fmod_eq_emod_of_nonneg i (by omega)]; exact q)
theorem iop_shl : OpR X (inplaceOp .LShift) (rI CPow fun i j => .int (i * 2 ^ j.toNat)) := opI fun _ _ _ _ _ _ _ hc q => ilshift_int_small hc.1 hc.2.1 hc.2.2 q
theorem iop_shr : OpR X (inplaceOp .RShift) (rI (fun _ j => 0 ≤ j) fun i j => .int (i / 2 ^ j.toNat)) := opI fun i j _ _ _ _ _ hc q =>
  irshift_int hc (by rw [Int.fdiv_eq_ediv_of_nonneg i (two_pow_nn _)]; exact q)
theorem iop_and : OpR X (inplaceOp .BitAnd) (rI0 fun i j => .int (Builtin.bitAnd i j)) := opI0 fun _ _ _ _ _ _ _ q => iand_int q
theorem iop_or : OpR X (inplaceOp .BitOr) (rI0 fun i j => .int (Builtin.bitOr i j)) := opI0 fun _ _ _ _ _ _ _ q => ior_int q
theorem iop_xor : OpR X (inplaceOp .BitXor) (rI0 fun i j => .int (Builtin.bitXor i j)) := opI0 fun _ _ _ _ _ _ _ q => ixor_int q

theorem unI {f : Value → Sem Value} {g : Int → Int}
    (rule : ∀ (i : Int) (t : Tok) (s : Shared) (Q : Value → Shared → Prop) (E : Value → Shared → Prop), Q (.int (g i) s.toks) { s with toks := s.toks + 1 } → wpAny (model X.prog X.w) X.A (f (.int i t)) Q E s) :
    UnR X f (rU fun i => .int (g i)) := by
  intro pins s σ H x v Q I rx h
  obtain ⟨i, rfl, q⟩ := h
  obtain ⟨t, rfl⟩ := rx
  exact rule i t s _ _ ⟨.int (g i), H, I.tok _, ⟨_, rfl⟩, q⟩
theorem un_neg : UnR X (unaryOp .USub) (rU fun i => .int (-i)) := unI fun _ _ _ _ _ q => neg_int q
theorem un_inv : UnR X (unaryOp .Invert) (rU fun i => .int (Builtin.bitNot i)) := unI fun _ _ _ _ _ q => invert_int q

/-! ### bools among ints: n += (a < b) -/
theorem op_add_ib : OpR X (binaryOp .Add) (fun x y H Q => ∃ i k, x = .int i ∧ y = .bl k ∧ Q (.int (i + b2i k)) H) := by
  intro pins s σ H x y v u Q I rx ry h
  obtain ⟨i, k, rfl, rfl, q⟩ := h
  obtain ⟨t, rfl⟩ := rx
  cases ry
  exact add_int_bool ⟨.int (i + b2i k), H, I.tok _, ⟨_, rfl⟩, q⟩
end

/-! ### comparisons -/
/-- the scalars that == tells apart as data does -/
def scal : V → V → Bool
  | .non, .non => true | .non, .int _ => true | .int _, .non => true | .non, .bl _ => true | .bl _, .non => true | .non, .str _ => true | .str _, .non => true
  | .int _, .int _ => true | .bl _, .bl _ => true | .str _, .str _ => true | .byt _, .byt _ => true
  | .int _, .str _ => true | .str _, .int _ => true | .bl _, .str _ => true | .str _, .bl _ => true
  | _, _ => false
def rEq : R2 := fun x y H Q => scal x y = true ∧ Q (.bl (decide (x = y))) H
def rNe : R2 := fun x y H Q => scal x y = true ∧ Q (.bl (!decide (x = y))) H

theorem dec_int {i j : Int} : decide (V.int i = V.int j) = (i == j) := by
  rw [Bool.eq_iff_iff]
  simp
theorem dec_bl {i j : Bool} : decide (V.bl i = V.bl j) = (i == j) := by
  rw [Bool.eq_iff_iff]
  simp
theorem dec_str {i j : Str} : decide (V.str i = V.str j) = (i == j) := by
  rw [Bool.eq_iff_iff]
  simp
theorem dec_byt {i j : Array UInt8} : decide (V.byt i = V.byt j) = (i.toList == j.toList) := by
  rw [Bool.eq_iff_iff]
  cases i
  cases j
  simp

section
variable {X : Cx} {a b c : Expr} {ta tb tc : TE} {pos : Pos}
theorem fin_bl {pins : List (Addr × Obj)} {σ : St} {H : Hp} {s : Shared} {Q : VK} {k k' : Bool} (I : Inv X pins σ H s) (q : Q (.bl k) H) (e : k = k') : EP X pins σ Q (.bool k') s := by
  subst e
  exact ⟨.bl k, H, I, rfl, q⟩
theorem op_eq : OpR X (compareOp .Eq) rEq := by
  intro pins s σ H x y v u Q I rx ry h
  obtain ⟨hs, q⟩ := h
  cases x with
  | non =>
    cases rx
    cases y with
    | non => cases ry; exact PySem.EqNone.eq_none_none (fin_bl I q (by simp))
    | bl j => cases ry; exact PySem.EqNone.eq_none_bool (fin_bl I q (by simp))
    | int j => obtain ⟨t', rfl⟩ := ry; exact PySem.EqNone.eq_none_int (fin_bl I q (by simp))
    | str j => obtain ⟨t', rfl⟩ := ry; exact PySem.EqNone.eq_none_str (fin_bl I q (by simp))
    | _ => exact absurd (show false = true from hs) Bool.false_ne_true
  | bl i =>
    cases rx
    cases y with
    | non => cases ry; exact PySem.EqNone.eq_bool_none (fin_bl I q (by simp))
    | bl j => cases ry; exact eq_bool (fin_bl I q dec_bl)
    | str j => obtain ⟨t', rfl⟩ := ry; exact PySem.EqMixed.eq_bool_str (fin_bl I q (by simp))
    | _ => exact absurd (show false = true from hs) Bool.false_ne_true
  | int i =>
    obtain ⟨t, rfl⟩ := rx
    cases y with
    | non => cases ry; exact PySem.EqNone.eq_int_none (fin_bl I q (by simp))
    | int j => obtain ⟨t', rfl⟩ := ry; exact eq_int (fin_bl I q dec_int)
    | str j => obtain ⟨t', rfl⟩ := ry; exact PySem.EqMixed.eq_int_str (fin_bl I q (by simp))
    | _ => exact absurd (show false = true from hs) Bool.false_ne_true
  | str i =>
    obtain ⟨t, rfl⟩ := rx
    cases y with
    | non => cases ry; exact PySem.EqNone.eq_str_none (fin_bl I q (by simp))
    | bl j => cases ry; exact PySem.EqMixed.eq_str_bool (fin_bl I q (by simp))
    | int j => obtain ⟨t', rfl⟩ := ry; exact PySem.EqMixed.eq_str_int (fin_bl I q (by simp))
    | str j => obtain ⟨t', rfl⟩ := ry; exact eq_str (fin_bl I q dec_str)
    | _ => exact absurd (show false = true from hs) Bool.false_ne_true
  | byt i =>
    obtain ⟨t, rfl⟩ := rx
    cases y with
    | byt j => obtain ⟨t', rfl⟩ := ry; exact PySem.W.eq_bytes (fin_bl I q dec_byt)
    | _ => exact absurd (show false = true from hs) Bool.false_ne_true
  | _ => cases y <;> exact absurd (show false = true from hs) Bool.false_ne_true
theorem op_ne : OpR X (compareOp .NotEq) rNe := by
  intro pins s σ H x y v u Q I rx ry h
  obtain ⟨hs, q⟩ := h
  cases x with
  | non =>
    cases rx
    cases y with
    | non => cases ry; exact PySem.EqNone.ne_none_none (fin_bl I q (by simp))
    | bl j => cases ry; exact PySem.EqNone.ne_none_bool (fin_bl I q (by simp))
    | int j => obtain ⟨t', rfl⟩ := ry; exact PySem.EqNone.ne_none_int (fin_bl I q (by simp))
    | str j => obtain ⟨t', rfl⟩ := ry; exact PySem.EqNone.ne_none_str (fin_bl I q (by simp))
    | _ => exact absurd (show false = true from hs) Bool.false_ne_true
  | bl i =>
    cases rx
    cases y with
    | non => cases ry; exact PySem.EqNone.ne_bool_none (fin_bl I q (by simp))
    | bl j => cases ry; exact ne_bool (fin_bl I q (congrArg not dec_bl))
    | str j => obtain ⟨t', rfl⟩ := ry; exact PySem.EqMixed.ne_bool_str (fin_bl I q (by simp))
    | _ => exact absurd (show false = true from hs) Bool.false_ne_true
  | int i =>
    obtain ⟨t, rfl⟩ := rx
    cases y with
    | non => cases ry; exact PySem.EqNone.ne_int_none (fin_bl I q (by simp))
    | int j => obtain ⟨t', rfl⟩ := ry; exact ne_int (fin_bl I q (congrArg not dec_int))
    | str j => obtain ⟨t', rfl⟩ := ry; exact PySem.EqMixed.ne_int_str (fin_bl I q (by simp))
    | _ => exact absurd (show false = true from hs) Bool.false_ne_true
  | str i =>
    obtain ⟨t, rfl⟩ := rx
    cases y with
    | non => cases ry; exact PySem.EqNone.ne_str_none (fin_bl I q (by simp))
    | bl j => cases ry; exact PySem.EqMixed.ne_str_bool (fin_bl I q (by simp))
    | int j => obtain ⟨t', rfl⟩ := ry; exact PySem.EqMixed.ne_str_int (fin_bl I q (by simp))
    | str j => obtain ⟨t', rfl⟩ := ry; exact ne_str (fin_bl I q (congrArg not dec_str))
    | _ => exact absurd (show false = true from hs) Bool.false_ne_true
  | byt i =>
    obtain ⟨t, rfl⟩ := rx
    cases y with
    | byt j => obtain ⟨t', rfl⟩ := ry; exact PySem.W.ne_bytes (fin_bl I q (congrArg not dec_byt))
    | _ => exact absurd (show false = true from hs) Bool.false_ne_true
  | _ => cases y <;> exact absurd (show false = true from hs) Bool.false_ne_true

theorem op_lt : OpR X (compareOp .Lt) (rI0 fun i j => .bl (decide (i < j))) := opB0 fun _ _ _ _ _ _ _ q => lt_int q
theorem op_le : OpR X (compareOp .LtE) (rI0 fun i j => .bl (decide (i ≤ j))) := opB0 fun _ _ _ _ _ _ _ q => le_int q
theorem op_gt : OpR X (compareOp .Gt) (rI0 fun i j => .bl (decide (j < i))) := opB0 fun _ _ _ _ _ _ _ q => gt_int q
theorem op_ge : OpR X (compareOp .GtE) (rI0 fun i j => .bl (decide (j ≤ i))) := opB0 fun _ _ _ _ _ _ _ q => ge_int q
theorem op_lt_str : OpR X (compareOp .Lt) (fun x y H Q => ∃ i j, x = .str i ∧ y = .str j ∧ Q (.bl (decide (i.cps.toList < j.cps.toList))) H) := by
  intro pins s σ H x y v u Q I rx ry h
  obtain ⟨i, j, rfl, rfl, q⟩ := h
  obtain ⟨t, rfl⟩ := rx
  obtain ⟨t', rfl⟩ := ry
  exact lt_str (fin_bl I q rfl)
/-- the one string within the other -/
theorem op_in_str : OpR X (compareOp .In) (fun x y H Q => ∃ i j, x = .str i ∧ y = .str j ∧ Q (.bl (!(Builtin.Str.occurrences j i 0 j.length 1).isEmpty)) H) := by
  intro pins s σ H x y v u Q I rx ry h
  obtain ⟨i, j, rfl, rfl, q⟩ := h
  obtain ⟨t, rfl⟩ := rx
  obtain ⟨t', rfl⟩ := ry
  exact in_str (fin_bl I q rfl)

/-- is None, is not None: the right side a value none -/
theorem op_isN : OpR X (compareOp .Is) (fun x y H Q => y = .non ∧ Q (.bl (decide (x = .non))) H) := by
  intro pins s σ H x y v u Q I rx ry h
  obtain ⟨rfl, q⟩ := h
  cases ry
  refine is_none_gen (fin_bl I q ?_)
  cases x <;> first
    | (cases rx; rfl)
    | (obtain ⟨t, rfl⟩ := rx; rfl)
theorem op_notN : OpR X (compareOp .IsNot) (fun x y H Q => y = .non ∧ Q (.bl (!decide (x = .non))) H) := by
  intro pins s σ H x y v u Q I rx ry h
  obtain ⟨rfl, q⟩ := h
  cases ry
  refine isnot_none_gen (fin_bl I q ?_)
  cases x <;> first
    | (cases rx; rfl)
    | (obtain ⟨t, rfl⟩ := rx; rfl)

theorem op_notin_str : OpR X (compareOp .NotIn) (fun x y H Q => ∃ i j, x = .str i ∧ y = .str j ∧ Q (.bl (!(!(Builtin.Str.occurrences j i 0 j.length 1).isEmpty))) H) := by
  intro pins s σ H x y v u Q I rx ry h
  obtain ⟨i, j, rfl, rfl, q⟩ := h
  obtain ⟨t, rfl⟩ := rx
  obtain ⟨t', rfl⟩ := ry
  exact notIn_str (fin_bl I q rfl)
/-- is, is not of two objects that are tracked lists or instances -/
def isObj : HO → Bool
  | .lst _ => true
  | .ins _ _ _ => true
  | _ => false
theorem obj_there {pins : List (Addr × Obj)} {s : Shared} {σ : St} {H : Hp} {a : Addr} {o : HO} (I : Inv X pins σ H s) (h : H a = some o) (p : isObj o = true) : ∃ ob, s.heap.get? a = some ob ∧ ob.cls ≠ .type "tuple" := by
  cases o with
  | lst xs =>
    obtain ⟨_, its, n, _, e⟩ : xs.length ≤ sizeLine ∧ ∃ (its : List Value) (n : Nat), Vals xs its ∧ s.heap.get? a = some { cls := .type "list", data := .seq its.toArray n } := I.hok a _ h
    exact ⟨_, e, (by show Value.type "list" ≠ .type "tuple"; decide +kernel)⟩
  | ins C dx fs =>
    have x := I.hok a _ h
    obtain ⟨_, _, _, e, _⟩ := x
    exact ⟨_, e, (by show Value.ref C ≠ .type "tuple"; exact fun z => by cases z)⟩
  | _ => exact absurd (show false = true from p) Bool.false_ne_true
theorem op_is_ref : OpR X (compareOp .Is) (fun x y H Q => ∃ a b oa ob, x = .ref a ∧ y = .ref b ∧ H a = some oa ∧ isObj oa = true ∧ H b = some ob ∧ isObj ob = true ∧ Q (.bl (decide (a = b))) H) := by
  intro pins s σ H x y v u Q I rx ry h
  obtain ⟨a, b, oa, ob, rfl, rfl, ha, pa, hb, pb, q⟩ := h
  cases rx
  cases ry
  obtain ⟨o1, e1, n1⟩ := obj_there I ha pa
  obtain ⟨o2, e2, _⟩ := obj_there I hb pb
  by_cases z : a = b
  · subst z
    exact wpAny_is_ref_self (fin_bl I q (by simp))
  · exact wpAny_is_ref_other z e1 e2 n1 (fin_bl I q (by simp [z]))
theorem op_isnot_ref : OpR X (compareOp .IsNot) (fun x y H Q => ∃ a b oa ob, x = .ref a ∧ y = .ref b ∧ H a = some oa ∧ isObj oa = true ∧ H b = some ob ∧ isObj ob = true ∧ Q (.bl (!decide (a = b))) H) := by
  intro pins s σ H x y v u Q I rx ry h
  obtain ⟨a, b, oa, ob, rfl, rfl, ha, pa, hb, pb, q⟩ := h
  cases rx
  cases ry
  obtain ⟨o1, e1, n1⟩ := obj_there I ha pa
  obtain ⟨o2, e2, _⟩ := obj_there I hb pb
  by_cases z : a = b
  · subst z
    exact wpAny_isNot_ref_self (fin_bl I q (by simp))
  · exact wpAny_isNot_ref_other z e1 e2 n1 (fin_bl I q (by simp [z]))

/-- two rules for one operation: by cases -/
theorem OpR.or {f : Value → Value → Sem Value} {r r' : R2} (h : OpR X f r) (h' : OpR X f r') : OpR X f (fun x y H Q => r x y H Q ∨ r' x y H Q) := by
  intro pins s σ H x y v u Q I rx ry q
  rcases q with q | q
  · exact h pins s σ H x y v u Q I rx ry q
  · exact h' pins s σ H x y v u Q I rx ry q

theorem nomark (b : Expr) {op : CmpOp} (h : op ≠ .In := by decide) (h2 : op ≠ .NotIn := by decide) : behindInMarks op b = false := by
  have e1 : (op == CmpOp.In) = false := by cases op <;> first | rfl | exact absurd rfl h
  have e2 : (op == CmpOp.NotIn) = false := by cases op <;> first | rfl | exact absurd rfl h2
  cases b <;> simp [behindInMarks, e1, e2]
/-- a comparison as a value; hm: nomark b, or (for in, not in) by with_unfolding_all rfl -/
theorem pe_cmpR {op : CmpOp} {r : R2} (ho : OpR X (compareOp op) r) (ha : PE X a ta) (hb : PE X b tb) (hm : behindInMarks op b = false) : PE X (.Compare a [op] [b] pos) (tOp r ta tb) := by
  intro pins s σ H Q I h
  exact wpAny_Compare1 (binT ha hb I h fun v u s2 x y H2 I2 rx ry q => ho pins s2 σ H2 x y v u Q I2 rx ry q) hm
/-- a reading of a value as a test -/
def tTest (t : TE) : TT := fun σ H Q => t σ H fun x H' => ∃ k, x = .bl k ∧ Q k H'
theorem pt_cmpR {op : CmpOp} {r : R2} (ho : OpR X (compareOp op) r) (ha : PE X a ta) (hb : PE X b tb) (hm : behindInMarks op b = false) : PT X (.Compare a [op] [b] pos) (tTest (tOp r ta tb)) := by
  intro pins s σ H Q I h
  refine wpAny_isTrue_Compare1 (thn (ha pins s σ H _ I h) fun v s1 ⟨x, H1, I1, r1, q1⟩ => thn (hb pins s1 σ H1 _ I1 q1) fun u s2 ⟨y, H2, I2, r2, q2⟩ =>
    thn (ho pins s2 σ H2 x y v u _ I2 r1 r2 q2) fun c s3 ⟨z, H3, I3, r3, k, e, q3⟩ => ?_) hm
  subst e
  cases r3
  exact wpAny_truthy_bool ⟨H3, I3, q3⟩
/-- a op1 b op2 c -/
def tChain (r r' : R2) (ta tb tc : TE) : TE := fun σ H Q => ta σ H fun x H1 => tb σ H1 fun y H2 => r x y H2 fun z H3 => ∃ k, z = .bl k ∧
  (if k = true then tc σ H3 fun w' H4 => r' y w' H4 Q else Q (.bl false) H3)
theorem pe_chain {op op' : CmpOp} {r r' : R2} (ho : OpR X (compareOp op) r) (ho' : OpR X (compareOp op') r') (ha : PE X a ta) (hb : PE X b tb) (hc : PE X c tc)
    (hm : lastMarks [op, op'] [b, c] = false := by with_unfolding_all rfl) : PE X (.Compare a [op, op'] [b, c] pos) (tChain r r' ta tb tc) := by
  intro pins s σ H Q I h
  refine Compare_chain (thn (ha pins s σ H _ I h) fun v s1 ⟨x, H1, I1, r1, q1⟩ => chain_link (thn (hb pins s1 σ H1 _ I1 q1) fun u s2 ⟨y, H2, I2, r2, q2⟩ =>
    thn (ho pins s2 σ H2 x y v u _ I2 r1 r2 q2) fun d s3 ⟨z, H3, I3, r3, k, e, q3⟩ => ?_)) hm
  subst e
  cases r3
  refine wpAny_truthy_bool ?_
  cases k with
  | false => exact ite_ff ⟨.bl false, H3, I3, rfl, q3⟩
  | true => exact ite_tt (chain_last (thn (hc pins s3 σ H3 _ I3 q3) fun w' s4 ⟨z', H4, I4, r4, q4⟩ => ho' pins s4 σ H4 y z' u w' Q I4 r2 r4 q4))
theorem pt_chain {op op' : CmpOp} {r r' : R2} (ho : OpR X (compareOp op) r) (ho' : OpR X (compareOp op') r') (ha : PE X a ta) (hb : PE X b tb) (hc : PE X c tc)
    (hm : lastMarks [op, op'] [b, c] = false := by with_unfolding_all rfl) : PT X (.Compare a [op, op'] [b, c] pos) (tTest (tChain r r' ta tb tc)) := by
  intro pins s σ H Q I h
  refine isTrue_chain (thn (ha pins s σ H _ I h) fun v s1 ⟨x, H1, I1, r1, q1⟩ => test_link (thn (hb pins s1 σ H1 _ I1 q1) fun u s2 ⟨y, H2, I2, r2, q2⟩ =>
    thn (ho pins s2 σ H2 x y v u _ I2 r1 r2 q2) fun d s3 ⟨z, H3, I3, r3, k, e, q3⟩ => ?_)) hm
  subst e
  cases r3
  refine wpAny_truthy_bool ?_
  cases k with
  | false =>
    obtain ⟨k', e', q'⟩ := q3
    cases e'
    exact ite_ff ⟨H3, I3, q'⟩
  | true =>
    refine ite_tt (test_last (thn (hc pins s3 σ H3 _ I3 q3) fun w' s4 ⟨z', H4, I4, r4, q4⟩ => thn (ho' pins s4 σ H4 y z' u w' _ I4 r2 r4 q4) fun d' s5 ⟨z2, H5, I5, r5, k2, e2, q5⟩ => ?_))
    subst e2
    cases r5
    exact wpAny_truthy_bool ⟨H5, I5, q5⟩

/-! ### truth -/
/-- a value's truth by the abstract heap -/
def TruV (K : PySem.W.Frag) (x : V) (H : Hp) (k : Bool) : Prop :=
  match x with
  | .non => k = false
  | .bl b => k = b
  | .int i => k = (i != 0)
  | .str y => y.length ≤ sizeLine ∧ k = ((y.length : Int) != 0)
  | .byt y => y.size ≤ sizeLine ∧ k = ((y.size : Int) != 0)
  | .ref p => (∃ xs, SqL K H p xs ∧ k = !xs.isEmpty) ∨ (∃ xs, SqT K H p xs ∧ k = !xs.isEmpty) ∨ ∃ kvs, H p = some (.dK kvs) ∧ k = !kvs.isEmpty
  | _ => False
theorem isEmpty_kv {κ : Type} {kvs : List (κ × V)} {vs : List (κ × Value)} (r : KV kvs vs) : (!vs.isEmpty) = !kvs.isEmpty := by
  cases r <;> rfl
theorem isEmpty_of {xs : List V} {its : List Value} (r : Vals xs its) : (!its.toArray.isEmpty) = !xs.isEmpty := by
  cases r <;> simp
theorem line63 : (sizeLine : Nat) < 2 ^ 63 := by rw [sizeLine_eq]; decide
theorem tru_ok : TruR X (fun x H Q => ∃ k, TruV X.K x H k ∧ Q k H) := by
  intro pins s σ H x v Q I rx h
  obtain ⟨k, e, q⟩ := h
  have hl := line63
  have hs : sizeLine = 16777216 := sizeLine_eq
  cases x with
  | non =>
    cases rx
    have e' : k = false := e
    subst e'
    exact truthy_none ⟨H, I, q⟩
  | bl b =>
    cases rx
    have e' : k = b := e
    subst e'
    exact wpAny_truthy_bool ⟨H, I, q⟩
  | int i =>
    obtain ⟨t, rfl⟩ := rx
    have e' : k = (i != 0) := e
    subst e'
    exact PySem.P.truthy_int ⟨H, I, q⟩
  | str y =>
    obtain ⟨t, rfl⟩ := rx
    obtain ⟨hy, e'⟩ : y.length ≤ sizeLine ∧ k = ((y.length : Int) != 0) := e
    subst e'
    exact PySem.P.truthy_str (by omega) ⟨H, I.tok _, q⟩
  | byt y =>
    obtain ⟨t, rfl⟩ := rx
    obtain ⟨hy, e'⟩ : y.size ≤ sizeLine ∧ k = ((y.size : Int) != 0) := e
    subst e'
    exact PySem.W.truthy_bytes (by omega) ⟨H, I.tok _, q⟩
  | ref p =>
    cases rx
    have e' : (∃ xs, SqL X.K H p xs ∧ k = !xs.isEmpty) ∨ (∃ xs, SqT X.K H p xs ∧ k = !xs.isEmpty) ∨ ∃ kvs, H p = some (.dK kvs) ∧ k = !kvs.isEmpty := e
    rcases e' with ⟨xs, hx, e'⟩ | ⟨xs, hx, e'⟩ | ⟨kvs, hx, e'⟩
    · subst e'
      obtain ⟨its, r, pl, hz⟩ := I.list hx
      have hlen := r.length
      exact wpAny_truthy_list pl.isList (by simp only [List.size_toArray]; omega) ⟨H, I.tok _, by rw [isEmpty_of r]; exact q⟩
    · subst e'
      obtain ⟨its, r, pl, hz⟩ := I.tuple hx
      have hlen := r.length
      exact truthy_tuple pl (by simp only [List.size_toArray]; omega) ⟨H, I.tok _, by rw [isEmpty_of r]; exact q⟩
    · subst e'
      obtain ⟨hz, hS, vs, r, m⟩ : kvs.length ≤ sizeLine ∧ (p == sysModules) = false ∧ ∃ vs, KV kvs vs ∧ s.heap.DictOf (mixKind X.prog X.w) p vs := I.hok p _ hx
      have hlen : kvs.length = vs.length := Paired.length r
      exact wpAny_truthy_dict hS m (by omega) ⟨H, I.tok _, by rw [isEmpty_kv r]; exact q⟩
  | _ => exact (show False from e).elim
/-- any expression whose test is its value's truth (a name, a call, a subscript, a field ..: he by fun _ => rfl) -/
theorem pt_truth (ha : PE X a ta) (he : ∀ whole, isTrue a X.env whole = (do let v ← whole; standAt a.pos; holding [v] (truthy v))) :
    PT X a (fun σ H Q => ta σ H fun x H' => ∃ k, TruV X.K x H' k ∧ Q k H') := by
  intro pins s σ H Q I h
  exact isTrue_plain (thn (ha pins s σ H _ I h) fun v s1 ⟨x, H1, I1, r1, q1⟩ => tru_ok pins s1 σ H1 x v Q I1 r1 q1) (he _)

/-! ### strs and bytes -/
theorem pe_byt {x : List UInt8} {k : Nat} : PE X (.Constant (.bytes x) k pos) (fun _ H Q => Q (.byt x.toArray) H) := fun _ _ _ H _ I h => PySem.W.Constant_bytes ⟨.byt x.toArray, H, I.tok _, ⟨_, rfl⟩, h⟩
theorem op_add_str : OpR X (binaryOp .Add) (fun x y H Q => ∃ i j, x = .str i ∧ y = .str j ∧ i.length + j.length ≤ sizeLine ∧ Q (.str (i ++ j)) H) := by
  intro pins s σ H x y v u Q I rx ry h
  obtain ⟨i, j, rfl, rfl, hz, q⟩ := h
  obtain ⟨t, rfl⟩ := rx
  obtain ⟨t', rfl⟩ := ry
  exact add_str (fun t' tk => ⟨.str (i ++ j), H, I.tok _, ⟨_, rfl⟩, q⟩) hz
theorem iop_add_str : OpR X (inplaceOp .Add) (fun x y H Q => ∃ i j, x = .str i ∧ y = .str j ∧ i.length + j.length ≤ sizeLine ∧ Q (.str (i ++ j)) H) := by
  intro pins s σ H x y v u Q I rx ry h
  obtain ⟨i, j, rfl, rfl, hz, q⟩ := h
  obtain ⟨t, rfl⟩ := rx
  obtain ⟨t', rfl⟩ := ry
  exact iadd_str (fun t' tk => ⟨.str (i ++ j), H, I.tok _, ⟨_, rfl⟩, q⟩) hz
theorem op_add_byt : OpR X (binaryOp .Add) (fun x y H Q => ∃ i j, x = .byt i ∧ y = .byt j ∧ i.size + j.size ≤ 16777216 ∧ Q (.byt (i ++ j)) H) := by
  intro pins s σ H x y v u Q I rx ry h
  obtain ⟨i, j, rfl, rfl, hz, q⟩ := h
  obtain ⟨t, rfl⟩ := rx
  obtain ⟨t', rfl⟩ := ry
  exact PySem.W.KBy.add_bytes hz (fun t' tk => ⟨.byt (i ++ j), H, I.tok _, ⟨_, rfl⟩, q⟩)

def PlainIxT (b : Expr) : Prop := ∀ o i, subscripted b false o i = operate [o, i] (getItem o i)
/-- s[i], 0 ≤ i < len -/
theorem pe_item_str (ha : PE X a ta) (hb : PE X b tb) (hs : PlainIxT b) :
    PE X (.Subscript a b pos) (tOp (fun x y H Q => ∃ z i c, x = .str z ∧ y = .int i ∧ 0 ≤ i ∧ i < 2 ^ 63 ∧ i < z.length ∧ z.cps[i.toNat]? = some c ∧ Q (.str ⟨#[c]⟩) H) ta tb) := by
  intro pins s σ H Q I h
  refine Subscript_ (binT ha hb I h fun v u s2 x y H2 I2 rx ry q => ?_)
  obtain ⟨z, i, c, rfl, rfl, h0, h63, h1, hc, q⟩ := q
  obtain ⟨t, rfl⟩ := rx
  obtain ⟨t', rfl⟩ := ry
  have e : seqIndex? i z.length = some i.toNat := PySem.StrLaws.seqIndex_nonneg h0 h1
  exact tail_any (typeIs_str s2 z t) slot_str_getitem.lookup (getItem_str (c := c) (by
    have e1 : decide (i < -(2 ^ 63 : Int)) = false := decide_eq_false (by omega)
    have e2 : decide (i ≥ 2 ^ 63) = false := decide_eq_false (by omega)
    rw [e1, e2] <;> rfl) (by rw [e]; exact hc) ⟨.str ⟨#[c]⟩, H2, I2.tok _, ⟨_, rfl⟩, q⟩) (hs _ _)
/-- b[i], 0 ≤ i < len -/
theorem pe_item_byt (ha : PE X a ta) (hb : PE X b tb) (hs : PlainIxT b) :
    PE X (.Subscript a b pos) (tOp (fun x y H Q => ∃ (z : List UInt8) (i : Int), x = .byt z.toArray ∧ y = .int i ∧ z.length ≤ sizeLine ∧ 0 ≤ i ∧ i < z.length ∧ Q (.int ((z.getD i.toNat 0).toNat : Nat)) H) ta tb) := by
  intro pins s σ H Q I h
  refine Subscript_ (binT ha hb I h fun v u s2 x y H2 I2 rx ry q => ?_)
  obtain ⟨z, i, rfl, rfl, hz, h0, h1, q⟩ := q
  obtain ⟨t, rfl⟩ := rx
  obtain ⟨t', rfl⟩ := ry
  have hl : sizeLine = 16777216 := sizeLine_eq
  exact tail_any (PySem.W.typeIs_bytes s2 z.toArray t) PySem.W.FB.slot_bytes_getitem.lookup (PySem.W.getItem_bytes (by omega) h0 h1 ⟨.int ((z.getD i.toNat 0).toNat : Nat), H2, I2.tok _, ⟨_, rfl⟩, q⟩) (hs _ _)

/-! ### scalar builtins, by CallR -/
theorem vals1 {x : V} {us : List Value} (r : Vals [x] us) : ∃ u, us = [u] ∧ RelV x u := by
  cases r with
  | cons r1 r2 => cases r2; exact ⟨_, rfl, r1⟩
theorem vals2 {x y : V} {us : List Value} (r : Vals [x, y] us) : ∃ u w', us = [u, w'] ∧ RelV x u ∧ RelV y w' := by
  cases r with
  | cons r1 r2 =>
    cases r2 with
    | cons r3 r4 => cases r4; exact ⟨_, _, rfl, r1, r3⟩
theorem call_abs : CallR X (.builtin "abs") (fun xs H Q => ∃ i, xs = [.int i] ∧ Q (.int (if i < 0 then -i else i)) H) := by
  intro pins s σ H xs us Q I r h
  obtain ⟨i, rfl, q⟩ := h
  obtain ⟨u, rfl, t, rfl⟩ := vals1 r
  exact call_abs_int fun u tk => ⟨.int (if i < 0 then -i else i), H, I.tok _, ⟨_, rfl⟩, q⟩
theorem call_max2 (hc : X.calm = true) : CallR X (.builtin "max") (fun xs H Q => ∃ i j, xs = [.int i, .int j] ∧ Q (.int (if j > i then j else i)) H) := by
  intro pins s σ H xs us Q I r h
  obtain ⟨i, j, rfl, q⟩ := h
  obtain ⟨u, w', rfl, ⟨t, rfl⟩, ⟨t', rfl⟩⟩ := vals2 r
  refine max_two_ints (I.ok.hd hc) fun h' tk k => ⟨_, H, I.kept k, ?_, q⟩
  by_cases hj : j > i
  · rw [if_pos hj, if_pos hj]; exact ⟨_, rfl⟩
  · rw [if_neg hj, if_neg hj]; exact ⟨_, rfl⟩
theorem call_min2 (hc : X.calm = true) : CallR X (.builtin "min") (fun xs H Q => ∃ i j, xs = [.int i, .int j] ∧ Q (.int (if j < i then j else i)) H) := by
  intro pins s σ H xs us Q I r h
  obtain ⟨i, j, rfl, q⟩ := h
  obtain ⟨u, w', rfl, ⟨t, rfl⟩, ⟨t', rfl⟩⟩ := vals2 r
  refine min_two_ints (I.ok.hd hc) fun h' tk k => ⟨_, H, I.kept k, ?_, q⟩
  by_cases hj : j < i
  · rw [if_pos hj, if_pos hj]; exact ⟨_, rfl⟩
  · rw [if_neg hj, if_neg hj]; exact ⟨_, rfl⟩
theorem call_int1 : CallR X (.type "int") (fun xs H Q => (∃ i, xs = [.int i] ∧ Q (.int i) H) ∨ ∃ k, xs = [.bl k] ∧ Q (.int (if k then 1 else 0)) H) := by
  intro pins s σ H xs us Q I r h
  rcases h with ⟨i, rfl, q⟩ | ⟨k, rfl, q⟩
  · obtain ⟨u, rfl, t, rfl⟩ := vals1 r
    exact call_int_int ⟨.int i, H, I, ⟨_, rfl⟩, q⟩
  · obtain ⟨u, rfl, r1⟩ := vals1 r
    cases r1
    exact call_int_bool ⟨.int (if k then 1 else 0), H, I.tok _, ⟨_, rfl⟩, q⟩
theorem call_bool1 : CallR X (.type "bool") (fun xs H Q => (∃ i, xs = [.int i] ∧ Q (.bl (i != 0)) H) ∨ ∃ k, xs = [.bl k] ∧ Q (.bl k) H) := by
  intro pins s σ H xs us Q I r h
  rcases h with ⟨i, rfl, q⟩ | ⟨k, rfl, q⟩
  · obtain ⟨u, rfl, t, rfl⟩ := vals1 r
    exact call_bool_int ⟨.bl (i != 0), H, I, rfl, q⟩
  · obtain ⟨u, rfl, r1⟩ := vals1 r
    cases r1
    exact call_bool_bool ⟨.bl k, H, I, rfl, q⟩
theorem call_str_int : CallR X (.type "str") (fun xs H Q => ∃ i, xs = [.int i] ∧ i.natAbs.log2 < 1920 ∧ Q (.str (toString i)) H) := by
  intro pins s σ H xs us Q I r h
  obtain ⟨i, rfl, hz, q⟩ := h
  obtain ⟨u, rfl, t, rfl⟩ := vals1 r
  exact PySem.P.str_of_int hz ⟨.str _, H, I.tok _, ⟨_, rfl⟩, q⟩
theorem call_ord : CallR X (.builtin "ord") (fun xs H Q => ∃ x, xs = [.str x] ∧ x.length = 1 ∧ Q (.int (x.cps.getD 0 0 : Nat)) H) := by
  intro pins s σ H xs us Q I r h
  obtain ⟨x, rfl, hz, q⟩ := h
  obtain ⟨u, rfl, t, rfl⟩ := vals1 r
  exact ord_of_one hz ⟨.int _, H, I.tok _, ⟨_, rfl⟩, q⟩
theorem call_chr : CallR X (.builtin "chr") (fun xs H Q => ∃ i, xs = [.int i] ∧ 0 ≤ i ∧ i ≤ 1114111 ∧ Q (.str ⟨#[i.toNat]⟩) H) := by
  intro pins s σ H xs us Q I r h
  obtain ⟨i, rfl, h0, h1, q⟩ := h
  obtain ⟨u, rfl, t, rfl⟩ := vals1 r
  exact chr_of_range h0 h1 ⟨.str _, H, I.tok _, ⟨_, rfl⟩, q⟩
/-- len of a str, a bytes, a list, a tuple -/
def LenV (K : PySem.W.Frag) (x : V) (H : Hp) (n : Nat) : Prop :=
  match x with
  | .str y => y.length ≤ sizeLine ∧ n = y.length
  | .byt y => y.size ≤ sizeLine ∧ n = y.size
  | .ref p => (∃ xs, SqL K H p xs ∧ n = xs.length) ∨ ∃ xs, SqT K H p xs ∧ n = xs.length
  | _ => False
theorem call_len : CallR X (.builtin "len") (fun xs H Q => ∃ x n, xs = [x] ∧ LenV X.K x H n ∧ Q (.int n) H) := by
  intro pins s σ H xs us Q I r h
  obtain ⟨x, n, rfl, e, q⟩ := h
  obtain ⟨u, rfl, rx⟩ := vals1 r
  have hl := line63
  have hs : sizeLine = 16777216 := sizeLine_eq
  cases x with
  | str y =>
    obtain ⟨t, rfl⟩ := rx
    obtain ⟨hy, e'⟩ : y.length ≤ sizeLine ∧ n = y.length := e
    subst e'
    exact len_str (by omega) ⟨.int _, H, I.tok _, ⟨_, rfl⟩, q⟩
  | byt y =>
    obtain ⟨t, rfl⟩ := rx
    obtain ⟨hy, e'⟩ : y.size ≤ sizeLine ∧ n = y.size := e
    subst e'
    exact PySem.W.len_bytes (by omega) ⟨.int _, H, I.tok _, ⟨_, rfl⟩, q⟩
  | ref p =>
    cases rx
    have e' : (∃ xs, SqL X.K H p xs ∧ n = xs.length) ∨ ∃ xs, SqT X.K H p xs ∧ n = xs.length := e
    rcases e' with ⟨xs, hx, e'⟩ | ⟨xs, hx, e'⟩
    · subst e'
      obtain ⟨its, r', pl, hz⟩ := I.list hx
      have hlen := r'.length
      exact Calls.call_len_list pl.isList (by simp only [List.size_toArray]; omega) ⟨.int xs.length, H, I.tok _, ⟨_, by simp only [List.size_toArray]; rw [hlen]⟩, q⟩
    · subst e'
      obtain ⟨its, r', pl, hz⟩ := I.tuple hx
      have hlen := r'.length
      exact len_tuple pl (by simp only [List.size_toArray]; omega) ⟨.int xs.length, H, I.tok _, ⟨_, by simp only [List.size_toArray]; rw [hlen]⟩, q⟩
  | _ => exact (show False from e).elim
/-- divmod: a new tuple -/
theorem call_divmod : CallR X (.builtin "divmod") (fun xs H Q => ∃ i j, xs = [.int i, .int j] ∧ CDiv i j ∧ ∀ p, H p = none → Q (.ref p) (upd H p (.tup [.int (i / j), .int (i % j)]))) := by
  intro pins s σ H xs us Q I r h
  obtain ⟨i, j, rfl, ⟨h1, h2⟩, q⟩ := h
  obtain ⟨u, w', rfl, ⟨t, rfl⟩, ⟨t', rfl⟩⟩ := vals2 r
  refine divmod_int (by omega) ?_ (.inl (PyProof.noPylong_small (by omega)))
  rw [Int.fdiv_eq_ediv_of_nonneg i (by omega), Int.fmod_eq_emod_of_nonneg i (by omega)]
  have hn : H s.heap.objs.size = none := I.hok.fresh (Nat.le_refl _)
  refine ⟨.ref s.heap.objs.size, _, ?_, rfl, q _ hn⟩
  refine I.laid (fun b o e => Heap.get?_push_of_some _ e) (Nat.le_refl _) ⟨by simp only [List.length_cons, List.length_nil]; rw [sizeLine_eq]; decide, [.int (i / j) s.toks, .int (i % j) (s.toks + 1)], .cons ⟨_, rfl⟩ (.cons ⟨_, rfl⟩ .nil), ?_⟩
  exact ⟨_, Heap.get?_push_size s.heap rfl, rfl, 0, rfl⟩
end
end L2

namespace L2
open PySem PySem.Spec PyProof.Rows

/-! ### an instance, its attributes a map -/
structure ObjM (h : Heap) (x dx C : Addr) (mA : Str → Option Value) : Prop where
  obj : h.get? x = some (PySem.W.instObj C dx)
  ns : h.Ns1 dx mA
  ne : dx ≠ x

theorem lookIn_ns {h : Heap} {dx : Addr} {mA : Str → Option Value} (n : h.Ns1 dx mA) : ∃ od, h.get? dx = some od ∧ ∀ name, PySem.W.lookIn name od = some (mA name) := by
  obtain ⟨o, es, ep, ho, hd, hk, _, hm⟩ := n
  refine ⟨o, ho, fun name => ?_⟩
  have e := hm name
  unfold nsFind findBy at e
  rw [← Array.find?_toList] at e
  unfold PySem.W.lookIn
  rw [hd]
  dsimp only
  split
  · rename_i y q
    rw [q] at e
    exact congrArg some e
  · rename_i q
    rw [q] at e
    have a : es.toList.any (·.refKey) = false := by
      rw [List.any_eq_false]
      intro y hy
      obtain ⟨z, t, hkey⟩ := hk y (Array.mem_toList_iff.mp hy)
      simp [DictEntry.refKey, hkey]
    have a' : ¬ es.toList.any (·.refKey) = true := by rw [a]; exact Bool.false_ne_true
    rw [if_neg a']
    exact congrArg some e

theorem ObjM.look {h : Heap} {x dx C : Addr} {mA : Str → Option Value} (I : ObjM h x dx C mA) : ∃ od, PySem.W.InstAt h x (PySem.W.instObj C dx) C (some od) ∧ ∀ name, PySem.W.lookIn name od = some (mA name) :=
  let ⟨od, ho, hl⟩ := lookIn_ns I.ns
  ⟨od, ⟨I.obj, rfl, rfl, ho⟩, hl⟩

section
variable {prog : Program} {w : World} {A : Around} {E : Value → Shared → Prop} {s : Shared} {K : PySem.W.Frag} {x dx C f : Addr} {mA : Str → Option Value} {name : Str} {v : Value}

theorem get_map {expr : Bool} {Q : Value → Shared → Prop} (X : K.In s.heap) (I : ObjM s.heap x dx C mA) (hg : PySem.W.plainGet K C name = true) (hh : PySem.W.hasDictIn K C = true)
    (ha : PySem.W.findIn K (.ref C) name = some none) (hv : mA name = some v) (hv' : PySem.W.handedIn v = true) (h : Q v { s with toks := s.toks + 1 }) :
    wpAny (model prog w) A (getAttr (.ref x) name expr) Q E s := by
  obtain ⟨od, J, hl⟩ := I.look
  exact PySem.W.get_value X J (PySem.W.plainGet_of hg).1 (PySem.W.findObj_own hh ha rfl (by rw [hl, hv])) hv' h

theorem get_const {expr : Bool} {a : Value} {Q : Value → Shared → Prop} (X : K.In s.heap) (I : ObjM s.heap x dx C mA) (hg : PySem.W.plainGet K C name = true) (hh : PySem.W.hasDictIn K C = true)
    (ha : PySem.W.findIn K (.ref C) name = some (some a)) (hn : PySem.W.specialIn K a "__get__" = some none) (hc : PySem.W.copiedNames.contains name = false) (hv : mA name = none) (hv' : PySem.W.handedIn a = true)
    (h : Q a { s with toks := s.toks + 1 }) : wpAny (model prog w) A (getAttr (.ref x) name expr) Q E s := by
  obtain ⟨od, J, hl⟩ := I.look
  exact PySem.W.get_value X J (PySem.W.plainGet_of hg).1 (PySem.W.findObj_cls hh ha hn hv' hc (by rw [hl, hv])) hv' h

theorem get_meth {pl : Sem Bool} {Q : Value × List Value → Shared → Prop} (X : K.In s.heap) (I : ObjM s.heap x dx C mA) (hg : PySem.W.plainGet K C name = true)
    (hf : PySem.W.findIn K (.ref C) name = some (some (.ref f))) (ht : PySem.W.isFn K (.ref f) = true) (hv : mA name = none) (h : Q (.ref f, [.ref x]) s) :
    wpAny (model prog w) A (getMethod (.ref x) name pl) Q E s := by
  obtain ⟨od, J, hl⟩ := I.look
  exact PySem.W.method_fn X J (PySem.W.plainGet_of hg).1 (PySem.W.plainGet_of hg).2 hf (beq_iff_eq.mp ht) (by show (PySem.W.lookIn name od).map (·.isSome) = some false; rw [hl, hv]; rfl) h

theorem set_map {ns : List Str} {Q : Unit → Shared → Prop} (X : K.In s.heap) (I : ObjM s.heap x dx C mA)
    (hs : PySem.W.findIn K (.ref C) "__setattr__" = some (some (.builtin "object.__setattr__"))) (hp : PySem.W.plainOver K C = true) (ht : PySem.W.takerIn K C name = some none) (hh : PySem.W.hasDictIn K C = true)
    (hw : PySem.Within mA ns) (hsz : ns.length ≤ sizeLine)
    (h : ∀ h', ObjM h' x dx C (fun y => if y = name then some v else mA y) → Heap.SameBut dx s.heap h' → Q () { s with heap := h', toks := s.toks + 2 }) :
    wpAny (model prog w) A (setAttr (.ref x) name v) Q E s := by
  obtain ⟨od, J, hl⟩ := I.look
  refine PySem.W.set_plain X J hs (PySem.W.osa_open (s := { s with toks := s.toks + 1 }) (r := none) X J hp ht fun b => ?_)
  obtain ⟨cd, hc, hd'⟩ := PySem.W.any_some hh
  have hx : s.heap.get? x = some ⟨.ref C, some dx, .plain, #[]⟩ := I.obj
  refine wpAny_bind (wpAny_pure (wpAny_bind (wpAny_bind (wpAny_loadPart hx (wpAny_bind (PySem.W.Looks.here (s := { s with toks := s.toks + 1 }) (PySem.W.looks_clsIn X hc) ?_))))))
  rw [hd']
  refine wpAny_pure (a := some dx) (wpAny_bind (wpAny_pure (wpAny_bind ?_)))
  refine wpAny_nsSet1 (s := { s with toks := s.toks + 1 }) I.ns fun h' hn2 hs2 => ?_
  obtain ⟨oD, esD, epD, hoD, hdD, hcD⟩ := hn2.count (PySem.Within.cons name v hw)
  refine wpAny_bind (wpAny_lookBehind hoD (by rw [hdD]; exact pastItsLine_dict (Nat.le_trans hcD (by rw [List.length_cons]; omega))) ?_)
  exact wpAny_pure (h _ ⟨(hs2.2 _ (Ne.symm I.ne)).trans I.obj, hn2, I.ne⟩ hs2)

/-- C(..): the dict at the heap's end, the instance behind it; then its __init__ -/
theorem make_map {R : Result → Shared → Prop} {vs : List Value} {kw : List (Str × Value)} (X : K.In s.heap) (hm : PySem.W.makesIn K C = true)
    (hi : PySem.W.findIn K (.ref C) "__init__" = some (some (.ref f))) (hf : PySem.W.typeIn K (.ref f) = some (.type "function"))
    (h : codeAny (model prog w) (A.under (.builtin "type.__call__" ⟨.ref C :: vs, kw⟩)) (.call (.ref f) ⟨.ref (s.heap.objs.size + 1) :: vs, kw⟩) (PySem.W.InitBack (s.heap.objs.size + 1) R)
      { s with heap := (s.heap.push PySem.W.emptyDict).push (PySem.W.instObj C s.heap.objs.size) }) :
    codeAny (model prog w) A (.call (.ref C) ⟨vs, kw⟩) R s := by
  obtain ⟨hh, g, d, t, os⟩ := s
  exact PySem.W.make_core (PySem.W.makes_of X hm) (PySem.W.looks_findIn X hi) (fun self => PySem.W.bind_fn X self hf) (.inl rfl) h
/-- C() where there is no __init__ but object's -/
theorem make_map0 {R : Result → Shared → Prop} (X : K.In s.heap) (hm : PySem.W.makesIn K C = true)
    (hi : PySem.W.findIn K (.ref C) "__init__" = some (some (.builtin "object.__init__")))
    (hb : ∀ self, PySem.W.Looks (model prog w) s.heap (bindSpecial (.builtin "object.__init__") self) (.builtin "object.__init__", [self]))
    (h : codeAny (model prog w) (A.under (.builtin "type.__call__" ⟨[.ref C], []⟩)) (.call (.builtin "object.__init__") ⟨[.ref (s.heap.objs.size + 1)], []⟩) (PySem.W.InitBack (s.heap.objs.size + 1) R)
      { s with heap := (s.heap.push PySem.W.emptyDict).push (PySem.W.instObj C s.heap.objs.size) }) :
    codeAny (model prog w) A (.call (.ref C) ⟨[], []⟩) R s := by
  obtain ⟨hh, g, d, t, os⟩ := s
  exact PySem.W.make_core (PySem.W.makes_of X hm) (PySem.W.looks_findIn X hi) hb (.inr ⟨rfl, rfl⟩) h
end

/-! ### the attributes as a list of pairs -/
def putF (f : Str) (v : V) : List (Str × V) → List (Str × V)
  | [] => [(f, v)]
  | (g, x) :: r => if g = f then (g, v) :: r else (g, x) :: putF f v r
theorem lookup_putF (f g : Str) (v : V) : ∀ fs : List (Str × V), (putF f v fs).lookup g = if g = f then some v else fs.lookup g
  | [] => by
    show List.lookup g [(f, v)] = _
    by_cases h : g = f
    · have hb : (g == f) = true := beq_iff_eq.mpr h
      simp only [List.lookup, hb, if_pos h]
    · have hb : (g == f) = false := beq_eq_false_iff_ne.mpr h
      simp only [List.lookup, hb, if_neg h]
  | (k, x) :: r => by
    have ih := lookup_putF f g v r
    rw [show putF f v ((k, x) :: r) = (if k = f then (k, v) :: r else (k, x) :: putF f v r) from rfl]
    by_cases hk : k = f
    · rw [if_pos hk]
      by_cases h : g = k
      · have hb : (g == k) = true := beq_iff_eq.mpr h
        simp only [List.lookup, hb, if_pos (h.trans hk)]
      · have hb : (g == k) = false := beq_eq_false_iff_ne.mpr h
        simp only [List.lookup, hb, if_neg (fun e : g = f => h (e.trans hk.symm))]
    · rw [if_neg hk]
      by_cases h : g = k
      · have hb : (g == k) = true := beq_iff_eq.mpr h
        simp only [List.lookup, hb, if_neg (fun e : g = f => hk (h.symm.trans e))]
      · have hb : (g == k) = false := beq_eq_false_iff_ne.mpr h
        simp only [List.lookup, hb]
        exact ih
theorem keys_putF (f : Str) (v : V) : ∀ fs : List (Str × V), f ∈ (putF f v fs).map (·.1) ∧ ∀ g, g ∈ fs.map (·.1) → g ∈ (putF f v fs).map (·.1)
  | [] => ⟨by simp [putF], fun g h => by simp at h⟩
  | (k, x) :: r => by
    obtain ⟨i1, i2⟩ := keys_putF f v r
    rw [show putF f v ((k, x) :: r) = (if k = f then (k, v) :: r else (k, x) :: putF f v r) from rfl]
    by_cases hk : k = f
    · rw [if_pos hk]
      subst hk
      exact ⟨by simp, fun g h => by simpa using h⟩
    · rw [if_neg hk]
      refine ⟨?_, fun g h => ?_⟩
      · rw [List.map_cons]
        exact List.mem_cons_of_mem _ i1
      · rw [List.map_cons] at h ⊢
        rcases List.mem_cons.mp h with e | e
        · exact List.mem_cons.mpr (.inl e)
        · exact List.mem_cons_of_mem _ (i2 g e)
theorem length_putF (f : Str) (v : V) : ∀ fs : List (Str × V), (putF f v fs).length ≤ fs.length + 1
  | [] => by simp [putF]
  | (k, x) :: r => by
    have ih := length_putF f v r
    rw [show putF f v ((k, x) :: r) = (if k = f then (k, v) :: r else (k, x) :: putF f v r) from rfl]
    by_cases hk : k = f
    · rw [if_pos hk, List.length_cons, List.length_cons]; omega
    · rw [if_neg hk, List.length_cons, List.length_cons]; omega

theorem RelO.some_of {v : V} {o : Option Value} (r : RelO (some v) o) : ∃ u, o = some u ∧ RelV v u := by
  cases o with
  | none => exact (show False from r).elim
  | some u => exact ⟨u, rfl, r⟩
theorem RelO.none_of {o : Option Value} (r : RelO none o) : o = none := by
  cases o with
  | none => rfl
  | some u => exact (show False from r).elim
theorem handed_of {v : V} {u : Value} (r : RelV v u) : PySem.W.handedIn u = true := by
  cases v with
  | non => cases (show u = Value.none from r); rfl
  | bl b => cases (show u = Value.bool b from r); rfl
  | int i => obtain ⟨t, e⟩ := (show ∃ t, u = Value.int i t from r); cases e; rfl
  | str x => obtain ⟨t, e⟩ := (show ∃ t, u = Value.str x t from r); cases e; rfl
  | byt b => obtain ⟨t, e⟩ := (show ∃ t, u = Value.bytes b t from r); cases e; rfl
  | flt b => obtain ⟨t, e⟩ := (show ∃ t, u = Value.float b t from r); cases e; rfl
  | ref a => cases (show u = Value.ref a from r); rfl
  | ty n => cases (show u = Value.type n from r); rfl

section
variable {P : Program} {w : World} {H H' : Hp} {h h' : Heap} {a C dx : Addr} {fs fs' : List (Str × V)}
theorem ins_get (hok : HOk P w H h) (e : H a = some (.ins C dx fs)) : ∃ mA, ObjM h a dx C mA ∧ (∀ f, RelO (fs.lookup f) (mA f)) ∧ PySem.Within mA (fs.map (·.1)) ∧ fs.length ≤ 1000 ∧ H dx = some (.own a) := by
  obtain ⟨d, z, ne, ob, mA, n, r, q⟩ := (show ObjOk P w H h a (.ins C dx fs) from hok a _ e)
  exact ⟨mA, ⟨ob, n, ne⟩, r, q, z, d⟩
end

/-! ### what of the text a class must have -/
structure Cls (K : PySem.W.Frag) (C : Addr) : Prop where
  pg : PySem.W.plainGet K C Str.empty = true
  hd : PySem.W.hasDictIn K C = true
  po : PySem.W.plainOver K C = true
  sa : PySem.W.findIn K (.ref C) "__setattr__" = some (some (.builtin "object.__setattr__"))
theorem Cls.get {K : PySem.W.Frag} {C : Addr} (c : Cls K C) (f : Str) : PySem.W.plainGet K C f = true := c.pg
/-- no class of it has the name -/
def NoAttr (K : PySem.W.Frag) (C : Addr) (f : Str) : Prop := PySem.W.findIn K (.ref C) f = some none
theorem NoAttr.taker {K : PySem.W.Frag} {C : Addr} {f : Str} (n : NoAttr K C f) : PySem.W.takerIn K C f = some none := by
  unfold PySem.W.takerIn
  rw [show PySem.W.findIn K (.ref C) f = some none from n]
  rfl
/-- a constant of the class -/
structure Con (K : PySem.W.Frag) (C : Addr) (f : Str) (v : V) (u : Value) : Prop where
  at_ : PySem.W.findIn K (.ref C) f = some (some u)
  rel : RelV v u
  get : PySem.W.specialIn K u "__get__" = some none
  cp : PySem.W.copiedNames.contains f = false
/-- a method: a plain def of the class or of one above it -/
structure Meth (K : PySem.W.Frag) (C : Addr) (m : Str) (f : Addr) : Prop where
  at_ : PySem.W.findIn K (.ref C) m = some (some (.ref f))
  fn : PySem.W.isFn K (.ref f) = true
  kp : PySem.W.keepIn K (.ref f) = true

section
variable {X : Cx} {pins : List (Addr × Obj)} {σ : St} {H : Hp} {s : Shared} {a C dx : Addr} {fs : List (Str × V)} {f : Str} {v : V} {A : Around} {E : Value → Shared → Prop}

theorem getattr_ok {b : Bool} {Q : Value → Shared → Prop} (I : Inv X pins σ H s) (e : H a = some (.ins C dx fs)) (c : Cls X.K C) (n : NoAttr X.K C f) (l : fs.lookup f = some v)
    (h : ∀ u s', Inv X pins σ H s' → RelV v u → Q u s') : wpAny (model X.prog X.w) A (getAttr (.ref a) f b) Q E s := by
  obtain ⟨mA, O, r, _, _, _⟩ := ins_get I.hok e
  obtain ⟨u, hu, ru⟩ := RelO.some_of (v := v) (o := mA f) (by rw [← l]; exact r f)
  exact get_map I.kIn O (c.get f) c.hd n hu (handed_of ru) (h u _ (I.tok _) ru)

theorem getcon_ok {b : Bool} {u : Value} {Q : Value → Shared → Prop} (I : Inv X pins σ H s) (e : H a = some (.ins C dx fs)) (c : Cls X.K C) (k : Con X.K C f v u) (l : fs.lookup f = none)
    (h : ∀ s', Inv X pins σ H s' → Q u s') : wpAny (model X.prog X.w) A (getAttr (.ref a) f b) Q E s := by
  obtain ⟨mA, O, r, _, _, _⟩ := ins_get I.hok e
  have hn : mA f = none := RelO.none_of (by rw [← l]; exact r f)
  exact get_const I.kIn O (c.get f) c.hd k.at_ k.get k.cp hn (handed_of k.rel) (h _ (I.tok _))

theorem getmeth_ok {m : Str} {g : Addr} {pl : Sem Bool} {Q : Value × List Value → Shared → Prop} (I : Inv X pins σ H s) (e : H a = some (.ins C dx fs)) (c : Cls X.K C) (k : Meth X.K C m g) (l : fs.lookup m = none)
    (h : Q (.ref g, [.ref a]) s) : wpAny (model X.prog X.w) A (getMethod (.ref a) m pl) Q E s := by
  obtain ⟨mA, O, r, _, _, _⟩ := ins_get I.hok e
  have hn : mA m = none := RelO.none_of (by rw [← l]; exact r m)
  exact get_meth I.kIn O (c.get m) k.at_ k.fn hn h

theorem setattr_ok {y : V} {u : Value} {Q : Unit → Shared → Prop} (I : Inv X pins σ H s) (e : H a = some (.ins C dx fs)) (c : Cls X.K C) (n : NoAttr X.K C f) (hl : fs.length < 1000) (ry : RelV y u)
    (h : ∀ s', Inv X pins σ (upd H a (.ins C dx (putF f y fs))) s' → Q () s') : wpAny (model X.prog X.w) A (setAttr (.ref a) f u) Q E s := by
  obtain ⟨mA, O, r, wi, _, ho⟩ := ins_get I.hok e
  have hz : (fs.map (·.1)).length ≤ sizeLine := by rw [List.length_map, sizeLine_eq]; omega
  refine set_map I.kIn O c.sa c.po n.taker c.hd wi hz fun h' O' sb => h _ ?_
  have hd : ∃ o, h'.get? dx = some o := let ⟨o, _, _, e', _⟩ := O'.ns; ⟨o, e'⟩
  refine I.write (x := a) (e := dx) (by rw [e]; exact True.intro) (.inr ho) (fun b q hb z => (sb.2 b hb).trans z) hd ?_
  refine ⟨by rw [upd_ne O.ne]; exact ho, ?_, O.ne, O'.obj, _, O'.ns, fun g => ?_, fun g hg => ?_⟩
  · have := length_putF f y fs; omega
  · show RelO ((putF f y fs).lookup g) (if g = f then some u else mA g)
    rw [lookup_putF]
    by_cases q : g = f
    · rw [if_pos q, if_pos q]; exact ry
    · rw [if_neg q, if_neg q]; exact r g
  · by_cases q : g = f
    · rw [q]; exact (keys_putF f y fs).1
    · refine (keys_putF f y fs).2 g (wi g fun z => hg ?_)
      show (if g = f then some u else mA g) = none
      rw [if_neg q]; exact z

/-- a new instance, tracked, without attributes -/
theorem Inv.made (I : Inv X pins σ H s) : Inv X pins σ (upd (upd H s.heap.objs.size (.own (s.heap.objs.size + 1))) (s.heap.objs.size + 1) (.ins C s.heap.objs.size []))
    { s with heap := (s.heap.push PySem.W.emptyDict).push (PySem.W.instObj C s.heap.objs.size) } := by
  have e1 : (s.heap.push PySem.W.emptyDict).get? s.heap.objs.size = some PySem.W.emptyDict := Heap.get?_push_size s.heap rfl
  have e2 : ((s.heap.push PySem.W.emptyDict).push (PySem.W.instObj C s.heap.objs.size)).get? (s.heap.objs.size + 1) = some (PySem.W.instObj C s.heap.objs.size) := by
    have := Heap.get?_push_size (s.heap.push PySem.W.emptyDict) (o := PySem.W.instObj C s.heap.objs.size) rfl
    rwa [Heap.size_push] at this
  have e3 : (s.heap.push PySem.W.emptyDict).Ns s.heap.objs.size (fun _ => none) := ⟨PySem.W.emptyDict, #[], _, e1, rfl, (fun e he => absurd he (by simp)), fun _ => rfl⟩
  have I1 := I.laid (a := s.heap.objs.size) (o := .own (s.heap.objs.size + 1)) (h' := s.heap.push PySem.W.emptyDict) (t' := s.toks) (fun b u q => Heap.get?_push_of_some _ q) (Nat.le_refl _) ⟨_, e1⟩
  refine I1.laid (a := s.heap.objs.size + 1) (o := .ins C s.heap.objs.size []) (t' := s.toks) (fun b u q => Heap.get?_push_of_some _ q) (Nat.le_of_eq (Heap.size_push _ _)) ?_
  have ne : s.heap.objs.size ≠ s.heap.objs.size + 1 := Nat.ne_of_lt (Nat.lt_succ_self _)
  refine ⟨by rw [upd_ne ne, upd_same], Nat.zero_le _, ne, e2, fun _ => none, (Heap.Ns1.of_empty e3).at fun o q => Heap.get?_push_of_some _ q, fun _ => True.intro, fun y hy => absurd rfl hy⟩

/-- e.f where nothing but the object is asked: through attributeBase (super) and the last hold -/
theorem attr_of {prog : Program} {w : World} {env : Env} {e : Expr} {f : Str} {pos : Pos} {s : Shared} {Q : Value → Shared → Prop} (hb : attributeBase e f env (eval e env) = eval e env)
    (h : wpAny (model prog w) A (eval e env) (fun o s₁ => wpAny (model prog w) A (getAttr o f true) Q E s₁) E s) : wpAny (model prog w) A (eval (.Attribute e f pos) env) Q E s :=
  Attribute_any_ h (by rw [arm_eval_Attribute, hb])
end

/-! ### readings and rules -/
/-- e.f, an attribute of the instance -/
def tFld (K : PySem.W.Frag) (ta : TE) (f : Str) : TE := fun σ H Q => ta σ H fun x H1 => ∃ a C dx fs v, x = .ref a ∧ H1 a = some (.ins C dx fs) ∧ Cls K C ∧ NoAttr K C f ∧ fs.lookup f = some v ∧ Q v H1
/-- e.f, a constant of the class -/
def tCon (K : PySem.W.Frag) (ta : TE) (f : Str) : TE := fun σ H Q => ta σ H fun x H1 => ∃ a C dx fs v u, x = .ref a ∧ H1 a = some (.ins C dx fs) ∧ Cls K C ∧ Con K C f v u ∧ fs.lookup f = none ∧ Q v H1
/-- e.f = value -/
def sFld (K : PySem.W.Frag) (ta tv : TE) (f : Str) : TS := fun D σ H => tv σ H fun y H1 => ta σ H1 fun x H2 => ∃ a C dx fs, x = .ref a ∧ H2 a = some (.ins C dx fs) ∧ Cls K C ∧ NoAttr K C f ∧ fs.length < 1000 ∧
  D.nx σ (upd H2 a (.ins C dx (putF f y fs)))
/-- an augmented operator on two values -/
def InOp (X : Cx) (op : Operator) (rd : V → V → Hp → VK → Prop) : Prop :=
  ∀ (pins : List (Addr × Obj)) (s : Shared) (σ : St) (H : Hp) (x y : V) (u v : Value) (Q : VK), Inv X pins σ H s → RelV x u → RelV y v → rd x y H Q → wpAny (model X.prog X.w) X.A (inplaceOp op u v) (EP X pins σ Q) X.xe s
/-- e.f op= value -/
def sFldAug (K : PySem.W.Frag) (ta tv : TE) (rd : V → V → Hp → VK → Prop) (f : Str) : TS := fun D σ H => ta σ H fun x H1 => ∃ a C dx fs v, x = .ref a ∧ H1 a = some (.ins C dx fs) ∧ Cls K C ∧ NoAttr K C f ∧ fs.lookup f = some v ∧
  tv σ H1 fun y H2 => rd v y H2 fun z H3 => ∃ dx' fs', H3 a = some (.ins C dx' fs') ∧ fs'.length < 1000 ∧ D.nx σ (upd H3 a (.ins C dx' (putF f z fs')))

section
variable {X : Cx} {o e value : Expr} {f : Str} {pos pos' tpos : Pos} {ta tv : TE}
theorem pe_fld (he : PE X e ta) (hb : attributeBase e f X.env (eval e X.env) = eval e X.env) : PE X (.Attribute e f pos) (tFld X.K ta f) := by
  intro pins s σ H Q I h
  refine attr_of hb (thn (he pins s σ H _ I h) fun u s1 ⟨x, H1, I1, rx, a, C, dx, fs, v, ex, ea, c, n, l, q⟩ => ?_)
  subst ex
  obtain rfl : u = Value.ref a := rx
  exact getattr_ok I1 ea c n l fun u' s2 I2 ru => ⟨v, H1, I2, ru, q⟩
theorem pe_con (he : PE X e ta) (hb : attributeBase e f X.env (eval e X.env) = eval e X.env) : PE X (.Attribute e f pos) (tCon X.K ta f) := by
  intro pins s σ H Q I h
  refine attr_of hb (thn (he pins s σ H _ I h) fun u s1 ⟨x, H1, I1, rx, a, C, dx, fs, v, u0, ex, ea, c, k, l, q⟩ => ?_)
  subst ex
  obtain rfl : u = Value.ref a := rx
  exact getcon_ok I1 ea c k l fun s2 I2 => ⟨v, H1, I2, k.rel, q⟩
theorem ps_fld (ha : PE X o ta) (hv : PE X value tv) (hs : swapsWith value (some (.Attribute o f pos')) pos.line X.env = pure false) : PS X (.Assign [.Attribute o f pos'] value pos) (sFld X.K ta tv f) := by
  intro pins s σ H D I h
  refine plainObj_wpAny_Assign_Attribute (thn (hv pins s σ H _ I h) fun u s1 ⟨y, H1, I1, ry, q⟩ => thn (ha pins s1 σ H1 _ I1 q) fun ov s2 ⟨x, H2, I2, rx, a, C, dx, fs, ex, ea, c, n, l, q2⟩ => ?_) hs
  subst ex
  obtain rfl : ov = Value.ref a := rx
  exact setattr_ok I2 ea c n l ry fun s3 I3 => ⟨σ, _, I3, q2⟩
theorem ps_fldaug {op : Operator} {rd : V → V → Hp → VK → Prop} (ha : PE X o ta) (hv : PE X value tv) (hop : InOp X op rd) : PS X (.AugAssign (.Attribute o f tpos) op value pos) (sFldAug X.K ta tv rd f) := by
  intro pins s σ H D I h
  refine wpAny_AugAssign_AttributeAny (thn (ha pins s σ H _ I h) fun ov s1 ⟨x, H1, I1, rx, a, C, dx, fs, v, ex, ea, c, n, l, q⟩ => ?_)
  subst ex
  obtain rfl : ov = Value.ref a := rx
  refine getattr_ok I1 ea c n l fun u s2 I2 ru => thn (hv pins s2 σ H1 _ I2 q) fun w3 s3 ⟨y, H2, I3, ry, q3⟩ => thn (hop pins s3 σ H2 v y u w3 _ I3 ru ry q3) fun w4 s4 ⟨z, H3, I4, rz, dx', fs', ea', l', q4⟩ => ?_
  exact setattr_ok I4 ea' c n l' rz fun s5 I5 => ⟨σ, _, I5, q4⟩
def rAdd : V → V → Hp → VK → Prop := fun x y H Q => ∃ i j, x = .int i ∧ y = .int j ∧ Q (.int (i + j)) H
def rSub : V → V → Hp → VK → Prop := fun x y H Q => ∃ i j, x = .int i ∧ y = .int j ∧ Q (.int (i - j)) H
theorem in_add : InOp X .Add rAdd := by
  rintro pins s σ H x y u v Q I rx ry ⟨i, j, rfl, rfl, q⟩
  obtain ⟨t, rfl⟩ := (show ∃ t, u = Value.int i t from rx)
  obtain ⟨t', rfl⟩ := (show ∃ t', v = Value.int j t' from ry)
  exact PyProof.Rows.iadd_int ⟨.int (i + j), H, I.tok _, ⟨_, rfl⟩, q⟩
theorem in_sub : InOp X .Sub rSub := by
  rintro pins s σ H x y u v Q I rx ry ⟨i, j, rfl, rfl, q⟩
  obtain ⟨t, rfl⟩ := (show ∃ t, u = Value.int i t from rx)
  obtain ⟨t', rfl⟩ := (show ∃ t', v = Value.int j t' from ry)
  exact PyProof.Rows.isub_int ⟨.int (i - j), H, I.tok _, ⟨_, rfl⟩, q⟩

/-- what is between an instance and its method: the tree of a method call -/
theorem methcall_of {pl : Sem Bool} {m : Str} {apos : Pos} {args : List Expr} {pins : List (Addr × Obj)} {s : Shared} {σ : St} {H : Hp} {Q : Value → Shared → Prop} {te : TE} (he : PE X e te) (I : Inv X pins σ H s)
    (h : te σ H fun x H1 => ∃ a C dx fs g, x = .ref a ∧ H1 a = some (.ins C dx fs) ∧ Cls X.K C ∧ Meth X.K C m g ∧ fs.lookup m = none ∧
      ∀ s1, Inv X pins σ H1 s1 → wpAny (model X.prog X.w) X.A (callWith pos (.ref g) [.ref a] (backTo pos (starEach args X.env)) (backToKw pos (keywordEach [] X.env))) Q X.xe s1)
    (ht : eval (.Call (.Attribute e m apos) args [] pos) X.env = (do
      let ov ← eval e X.env
      standAt apos.atName
      let (f, first) ← holding [ov] (getMethod ov m pl)
      callWith pos f first (backTo pos (starEach args X.env)) (backToKw pos (keywordEach [] X.env)))) :
    wpAny (model X.prog X.w) X.A (eval (.Call (.Attribute e m apos) args [] pos) X.env) Q X.xe s := by
  refine PySem.W.methodCall_KW (pl := pl) (thn (he pins s σ H _ I h) fun u s1 ⟨x, H1, I1, rx, a, C, dx, fs, g, ex, ea, c, k, l, q⟩ => ?_) ht
  subst ex
  obtain rfl : u = Value.ref a := rx
  exact getmeth_ok I1 ea c k l (q s1 I1)
end

/-! ### isinstance -/
section
variable {X : Cx} {pins : List (Addr × Obj)} {σ : St} {H : Hp} {s : Shared} {A : Around} {E : Value → Shared → Prop} {Q : Value → Shared → Prop} {c : Value} {b : Bool}
/-- the type of a value, as the fragment's deciders take it; for an instance its class -/
inductive TyOf (K : PySem.W.Frag) (H : Hp) : V → Value → Prop where
  | non : TyOf K H .non (.type "NoneType")
  | bl (x : Bool) : TyOf K H (.bl x) (.type "bool")
  | int (i : Int) : TyOf K H (.int i) (.type "int")
  | str (x : Str) : TyOf K H (.str x) (.type "str")
  | flt (x : UInt64) : TyOf K H (.flt x) (.type "float")
  | lst {a : Addr} {xs : List V} (e : H a = some (.lst xs)) : TyOf K H (.ref a) (.type "list")
  | frz {a : Addr} {o : Obj} {xs : List V} (e : H a = some (.frz o (.lst xs))) : TyOf K H (.ref a) (.type "list")
  | tup {a : Addr} {xs : List V} (e : H a = some (.tup xs)) : TyOf K H (.ref a) (.type "tuple")
  | dK {a : Addr} {kvs : List (Key × V)} (e : H a = some (.dK kvs)) : TyOf K H (.ref a) (.type "dict")
  | dT {a : Addr} {kvs : List (List Key × V)} (e : H a = some (.dT kvs)) : TyOf K H (.ref a) (.type "dict")
  | ins {a C dx : Addr} {fs : List (Str × V)} (e : H a = some (.ins C dx fs)) (cl : Cls K C) (ha : PySem.W.findIn K (.ref C) "__class__" = some (some (.builtin "object.__class__")))
      (hn : PySem.W.specialIn K (.builtin "object.__class__") "__get__" = some (some (.builtin "getset_descriptor.__get__"))) (htk : PySem.W.takesIn K (.builtin "object.__class__") = some true)
      (hm : PySem.W.mroIn K C (.type "object") = some true) : TyOf K H (.ref a) (.ref C)
/-- isinstance(x, c) for one class c, a built-in or an own one: kitOne's answer -/
theorem isinst_ok {x : V} {u t : Value} (I : Inv X pins σ H s) (rx : RelV x u) (ty : TyOf X.K H x t) (e : PySem.W.kitOne X.K t c = some b) (h : ∀ tk, Q (.bool b) { s with toks := tk }) :
    wpAny (model X.prog X.w) A (call (.builtin "isinstance") [u, c]) Q E s := by
  cases ty with
  | non => cases (show u = Value.none from rx); exact PySem.W.kia_one PySem.W.kitx_none I.kIn True.intro e (fun z => nomatch z) h
  | bl y => cases (show u = Value.bool y from rx); exact PySem.W.kia_one PySem.W.kitx_bool I.kIn True.intro e (fun z => nomatch z) h
  | int i => obtain ⟨t, q⟩ := (show ∃ t, u = Value.int i t from rx); cases q; exact PySem.W.kia_one PySem.W.kitx_int I.kIn True.intro e (fun z => nomatch z) h
  | str y => obtain ⟨t, q⟩ := (show ∃ t, u = Value.str y t from rx); cases q; exact PySem.W.kia_one PySem.W.kitx_str I.kIn True.intro e (fun z => nomatch z) h
  | flt y => obtain ⟨t, q⟩ := (show ∃ t, u = Value.float y t from rx); cases q; exact PySem.W.kia_one PySem.W.kitx_float I.kIn True.intro e (fun z => nomatch z) h
  | @lst a xs ea =>
    cases (show u = Value.ref a from rx)
    obtain ⟨_, _, n, _, h1⟩ := (show ObjOk X.prog X.w H s.heap a (.lst xs) from I.hok a _ ea)
    exact PySem.W.kia_one PySem.W.kitx_list I.kIn ⟨_, h1, rfl⟩ e (fun z => nomatch z) h
  | @frz a ob xs ea =>
    cases (show u = Value.ref a from rx)
    obtain ⟨_, _, _, n, _, h1⟩ := (show ObjOk X.prog X.w H s.heap a (.frz ob (.lst xs)) from I.hok a _ ea)
    exact PySem.W.kia_one PySem.W.kitx_list I.kIn ⟨_, h1, rfl⟩ e (fun z => nomatch z) h
  | @tup a xs ea =>
    cases (show u = Value.ref a from rx)
    obtain ⟨_, _, _, p⟩ := (show ObjOk X.prog X.w H s.heap a (.tup xs) from I.hok a _ ea)
    obtain ⟨o, h1, h2, _⟩ := p
    exact PySem.W.kia_one PySem.W.kitx_tuple I.kIn ⟨o, h1, h2⟩ e (fun z => nomatch z) h
  | @dK a kvs ea =>
    cases (show u = Value.ref a from rx)
    obtain ⟨_, _, vs, _, p⟩ := (show ObjOk X.prog X.w H s.heap a (.dK kvs) from I.hok a _ ea)
    obtain ⟨o, es, ep, h1, h2, _⟩ := p
    exact PySem.W.kia_one PySem.W.kitx_dict I.kIn ⟨o, h1, h2.1⟩ e (fun z => nomatch z) h
  | @dT a kvs ea =>
    cases (show u = Value.ref a from rx)
    obtain ⟨_, _, xs, _, o, es, ep, h1, h2, _⟩ := (show ObjOk X.prog X.w H s.heap a (.dT kvs) from I.hok a _ ea)
    exact PySem.W.kia_one PySem.W.kitx_dict I.kIn ⟨o, h1, h2.1⟩ e (fun z => nomatch z) h
  | @ins a C dx fs ea cl ha hn htk hm =>
    cases (show u = Value.ref a from rx)
    obtain ⟨mA, O, _⟩ := ins_get I.hok ea
    obtain ⟨od, J, _⟩ := O.look
    exact PySem.W.kia_one (PySem.W.kitx_own (cl.get _) cl.hd ha hn htk hm) I.kIn J e (fun z => nomatch z) h
end
end L2

namespace L2
open PySem PySem.Spec PyProof.Rows

/-! ### room -/
structure Room (k : Nat) (A : Around) : Prop where
  hd : A.handled = none
  dp : A.depth + 3 * k + 5 < recursionLimit
  un : A.units + 16 * k + 200 < cLine
theorem Room.mono {j k : Nat} {A : Around} (r : Room k A) (h : j ≤ k) : Room j A := ⟨r.hd, by have := r.dp; omega, by have := r.un; omega⟩
theorem Room.deeper {k : Nat} {A : Around} (r : Room (k + 1) A) (env : Env) : Room k (A.deeper env) :=
  ⟨r.hd, by have := r.dp; show A.depth + 1 + 3 * k + 5 < _; omega, by have := r.un; show A.units + 3 + 16 * k + 200 < _; omega⟩
theorem Room.in1 {k : Nat} {A : Around} (r : Room (k + 1) A) : Room k A.in1 :=
  ⟨r.hd, by have := r.dp; show A.depth + 3 * k + 5 < _; omega, by have := r.un; show A.units + 1 + 16 * k + 200 < _; omega⟩
theorem make_depth {A : Around} {C : Addr} {us : List Value} {kw : List (Str × Value)} : (A.under (.builtin "type.__call__" ⟨.ref C :: us, kw⟩)).depth = A.depth + 1 := by
  first | rfl | simp [Around.under, Code.weight, Code.isCreation, Code.isGuard, Code.isCaller, Code.frames, Code.isFrame, guardIds]
theorem make_units {A : Around} {C : Addr} {us : List Value} {kw : List (Str × Value)} : (A.under (.builtin "type.__call__" ⟨.ref C :: us, kw⟩)).units = A.units + 1 := by
  first | rfl | simp [Around.under, Code.cUnits, Code.frames, Code.isFrame]
theorem Room.make {k : Nat} {A : Around} (r : Room (k + 1) A) (C : Addr) (us : List Value) (kw : List (Str × Value)) : Room k (A.under (.builtin "type.__call__" ⟨.ref C :: us, kw⟩)) :=
  ⟨r.hd, by have := r.dp; rw [make_depth]; omega, by have := r.un; rw [make_units]; omega⟩
theorem Room.depth {k : Nat} {A : Around} (r : Room k A) : A.depth < recursionLimit := by have := r.dp; omega
theorem Room.units {k : Nat} {A : Around} (r : Room k A) : A.units + 64 < cLine := by have := r.un; omega
theorem Room.units0 {k : Nat} {A : Around} (r : Room k A) : A.units < cLine := by have := r.un; omega

/-! ### argument lists and displays -/
def tNil : TA := fun _ H Q => Q [] H
def tCons (ta : TE) (tr : TA) : TA := fun σ H Q => ta σ H fun x H1 => tr σ H1 fun xs H2 => Q (x :: xs) H2
section
variable {X : Cx} {e : Expr} {es : List Expr} {te : TE} {t : TA} {pos : Pos}
theorem pa_nil : PA X [] tNil := fun _ _ _ _ H Q I h => Calls.spliced_nil ⟨[], H, I, .nil, h⟩
theorem pa_cons (ha : PE X e te) (hr : PA X es t) (hs : starEach (e :: es) X.env = (false, eval e X.env) :: starEach es X.env := by rfl) : PA X (e :: es) (tCons te t) := by
  intro pos pins s σ H Q I h
  rw [hs]
  show wpAny _ _ (spliced ((false, eval e X.env) :: backTo pos (starEach es X.env))) _ _ s
  refine Calls.spliced_cons (thn (ha pins s σ H _ I h) fun u s1 ⟨x, H1, I1, r1, q1⟩ => ?_)
  exact thn (hr pos pins s1 σ H1 _ I1 q1) fun us s2 ⟨xs, H2, I2, r2, q2⟩ => ⟨x :: xs, H2, I2, .cons r1 r2, q2⟩

/-- a tuple, a list of written items -/
def tTup (t : TA) : TE := fun σ H Q => t σ H fun xs H1 => xs.length ≤ sizeLine ∧ ∀ p, H1 p = none → Q (.ref p) (upd H1 p (.tup xs))
def tLst (t : TA) : TE := fun σ H Q => t σ H fun xs H1 => xs.length ≤ sizeLine ∧ ∀ p, H1 p = none → Q (.ref p) (upd H1 p (.lst xs))
theorem pe_tup {x1} (h : PA X es t) : PE X (.Tuple es x1 pos) (tTup t) := by
  intro pins s σ H Q I hq
  refine wpAny_Tuple_spliced (thn (h pos pins s σ H _ I hq) fun us s1 ⟨xs, H1, I1, r, z, q⟩ => ⟨by rw [← r.length]; exact z, ?_⟩)
  have hf : H1 s1.heap.objs.size = none := I1.hok.fresh (Nat.le_refl _)
  refine ⟨.ref s1.heap.objs.size, upd H1 s1.heap.objs.size (.tup xs), I1.laid (t' := s1.toks) (fun b u e => Heap.get?_push_of_some _ e) (Nat.le_refl _) ?_, rfl, q _ hf⟩
  exact ⟨z, us, r, ⟨_, Heap.get?_push_size _ rfl, rfl, _, rfl⟩⟩
theorem pe_lst (h : PA X es t) : PE X (.List es pos) (tLst t) := by
  intro pins s σ H Q I hq
  refine wpAny_List_spliced (thn (h pos pins s σ H _ I hq) fun us s1 ⟨xs, H1, I1, r, z, q⟩ => ⟨by rw [← r.length]; exact z, ?_⟩)
  have hf : H1 s1.heap.objs.size = none := I1.hok.fresh (Nat.le_refl _)
  refine ⟨.ref s1.heap.objs.size, upd H1 s1.heap.objs.size (.lst xs), I1.laid (t' := s1.toks) (fun b u e => Heap.get?_push_of_some _ e) (Nat.le_refl _) ?_, rfl, q _ hf⟩
  exact ⟨z, us, 0, r, Heap.get?_push_size _ rfl⟩
end

/-! ### what a def promises -/
/-- a def's promise: the bound arguments in the parameters' order, the heap, the wanted end, the wanted exception -/
abbrev Sp := List V → Hp → VK → XK → Prop
/-- how an exception lies behind a call (file 08 gives it): the callers' frames, abstract heap and state ahead of the call, the wish, the exception, the state -/
abbrev CXT := List Env → Hp → Shared → XK → Value → Shared → Prop

/-- the state at a call -/
structure Env0 (P : Program) (w : World) (K : PySem.W.Frag) (mg : Str → Option Value) (base : Heap) (A : Around) (outer : List Env) (s : Shared) (H : Hp) : Prop where
  frames : A.frames = some outer
  mod : Mod K mg base
  bs : ∀ b o, base.get? b = some o → s.heap.get? b = some o ∧ H b = none
  bsz : base.objs.size ≤ s.heap.objs.size
  funs : s.heap.FunFrames base outer
  frf : ∀ b ∈ frs outer, H b = none
  hok : HOk P w H s.heap
  bare : AllBare s.gens
/-- a call's end -/
def CE (outer : List Env) (P : Program) (w : World) (H : Hp) (s : Shared) (Q : VK) (u : Value) (s' : Shared) : Prop :=
  ∃ v H', s'.os = s.os ∧ AllBare s'.gens ∧ Un (frs outer) [] H H' s.heap s'.heap ∧ HOk P w H' s'.heap ∧ RelV v u ∧ Q v H'
def CR (CX : CXT) (outer : List Env) (P : Program) (w : World) (H : Hp) (s : Shared) (Q : VK) (E : XK) (r : Result) (s' : Shared) : Prop :=
  match r with
  | .ok (.ret u) => CE outer P w H s Q u s'
  | .ok _ => False
  | .error e => CX outer H s E e s'
structure FnOk (P : Program) (w : World) (K : PySem.W.Frag) (mg : Str → Option Value) (base : Heap) (CX : CXT) (k : Nat) (f : Addr) (fd : FuncData) (ps : List Str) (sp : Sp) : Prop where
  len : ∀ vs H Q E, sp vs H Q E → vs.length = ps.length
  run : ∀ (A : Around) (outer : List Env) (s : Shared) (H : Hp) (args : Args) (us : List Value) (vs : List V) (Q : VK) (E : XK), Room k A → Env0 P w K mg base A outer s H → BindsTo s fd args (ps.zip us) → Vals vs us → sp vs H Q E →
    codeAny (model P w) A (.call (.ref f) args) (CR CX outer P w H s Q E) s
theorem FnOk.mono {P : Program} {w : World} {K : PySem.W.Frag} {mg : Str → Option Value} {base : Heap} {CX : CXT} {j k : Nat} {f : Addr} {fd : FuncData} {ps : List Str} {sp : Sp} (F : FnOk P w K mg base CX j f fd ps sp) (h : j ≤ k) :
    FnOk P w K mg base CX k f fd ps sp := ⟨F.len, fun A outer s H args us vs Q E hr => F.run A outer s H args us vs Q E (hr.mono h)⟩
/-- a weaker promise -/
theorem FnOk.imp {P : Program} {w : World} {K : PySem.W.Frag} {mg : Str → Option Value} {base : Heap} {CX : CXT} {k : Nat} {f : Addr} {fd : FuncData} {ps : List Str} {sp sp' : Sp} (F : FnOk P w K mg base CX k f fd ps sp)
    (h : ∀ vs H Q E, sp' vs H Q E → sp vs H Q E) : FnOk P w K mg base CX k f fd ps sp' :=
  ⟨fun vs H Q E q => F.len vs H Q E (h _ _ _ _ q), fun A outer s H args us vs Q E hr he hb hv hs => F.run A outer s H args us vs Q E hr he hb hv (h _ _ _ _ hs)⟩

theorem Env0.make {P : Program} {w : World} {K : PySem.W.Frag} {mg : Str → Option Value} {base : Heap} {A : Around} {outer : List Env} {s : Shared} {H : Hp} (e : Env0 P w K mg base A outer s H) (C : Addr) (us : List Value) (kw : List (Str × Value)) :
    Env0 P w K mg base (A.under (.builtin "type.__call__" ⟨.ref C :: us, kw⟩)) outer s H := ⟨by first | exact e.frames | (simpa [Around.under, Code.envs, Code.isFrame, pushEnvs] using e.frames), e.mod, e.bs, e.bsz, e.funs, e.frf, e.hok, e.bare⟩
theorem Env0.in1 {P : Program} {w : World} {K : PySem.W.Frag} {mg : Str → Option Value} {base : Heap} {A : Around} {outer : List Env} {s : Shared} {H : Hp} (e : Env0 P w K mg base A outer s H) :
    Env0 P w K mg base A.in1 outer s H := ⟨e.frames, e.mod, e.bs, e.bsz, e.funs, e.frf, e.hok, e.bare⟩

section
variable {X : Cx} {pins : List (Addr × Obj)} {σ : St} {H : Hp} {s s' : Shared}
/-- from a body: what a callee wants -/
theorem Inv.env0 (I : Inv X pins σ H s) : Env0 X.prog X.w X.K X.mg X.base X.A X.stack s H :=
  ⟨I.ok.frames, I.ok.mod, I.bs, Nat.le_trans I.ok.bsz I.sz, I.stack, I.stkFree, I.hok, I.bare⟩
/-- behind a call -/
theorem Inv.after {Q : VK} {u : Value} (I : Inv X pins σ H s) (h : CE X.stack X.prog X.w H s Q u s') : EP X pins σ Q u s' := by
  obtain ⟨v, H', os, bare, un, hok, r, q⟩ := h
  obtain ⟨hh, g, d, t, os'⟩ := s'
  obtain rfl : os' = s.os := os
  exact ⟨v, H', I.call (h' := hh) (g' := g) (d' := d) (t' := t) (ch := []) un hok bare (fun b z => absurd z (by simp)), r, q⟩
end

/-! ### calls -/
/-- f(..): the written arguments, then the defaults dvs; E: what is wanted of an exception -/
def tCall (sp : Sp) (dvs : List V) (E : XK) (t : TA) : TE := fun σ H Q => t σ H fun vs H1 => sp (vs ++ dvs) H1 Q E
/-- o.m(..) of an instance of the class at C -/
def tMeth (C : Addr) (m : Str) (sp : Sp) (dvs : List V) (E : XK) (ta : TE) (t : TA) : TE := fun σ H Q => ta σ H fun x H1 => ∃ a dx fs, x = .ref a ∧ H1 a = some (.ins C dx fs) ∧ fs.lookup m = none ∧
  t σ H1 fun vs H2 => sp (x :: (vs ++ dvs)) H2 Q E
/-- C(..): a new instance and its dict, then __init__ -/
def tMake (C : Addr) (sp : Sp) (dvs : List V) (E : XK) (t : TA) : TE := fun σ H Q => t σ H fun vs H1 => ∀ x dx, H1 x = none → H1 dx = none → dx ≠ x →
  sp (.ref x :: (vs ++ dvs)) (upd (upd H1 dx (.own x)) x (.ins C dx [])) (fun v H2 => v = .non ∧ Q (.ref x) H2) E

/-- how the parameters are bound: us the positional arguments, kw the keywords' values by name, ds the defaults that fill up -/
def Binds (K : PySem.W.Frag) (fd : FuncData) (ps : List Str) (ds : List Value) : Prop :=
  ∀ (s : Shared) (us : List Value), K.In s.heap → (us ++ ds).length = ps.length → BindsTo s fd ⟨us, []⟩ (ps.zip (us ++ ds))
/-- every parameter is given -/
theorem Binds.all {K : PySem.W.Frag} {fd : FuncData} {ps : List Str} (h : ∀ us : List Value, us.length = ps.length → bindArgs fd ⟨us, []⟩ = pure (ps.zip us)) : Binds K fd ps [] := fun s us _ hl => by
  rw [List.append_nil] at hl ⊢
  exact .of_eq (h us hl)

/-- an exception of a callee reaches what this body wants of exceptions -/
def Passes (CX : CXT) (X : Cx) (E : XK) : Prop := ∀ (pins : List (Addr × Obj)) (σ : St) (H : Hp) (s : Shared) (e : Value) (s' : Shared), Inv X pins σ H s → CX X.stack H s E e s' → X.xe e s'

section
variable {X : Cx} {CX : CXT} {k : Nat} {f C : Addr} {fd : FuncData} {ps : List Str} {sp : Sp} {dvs : List V} {ds : List Value} {E : XK} {x m : Str} {p pos apos : Pos} {e o : Expr} {es : List Expr} {ta : TE} {t : TA}

/-- the callee runs -/
theorem run_fn {pins : List (Addr × Obj)} {σ : St} {H : Hp} {s : Shared} {Q : VK} {us : List Value} {vs : List V} (F : FnOk X.prog X.w X.K X.mg X.base CX k f fd ps sp) (hr : Room k X.A) (hb : Binds X.K fd ps ds) (hd : Vals dvs ds) (hx : Passes CX X E)
    (I : Inv X pins σ H s) (r : Vals vs us) (h : sp (vs ++ dvs) H Q E) : wpAny (model X.prog X.w) X.A (call (.ref f) us) (EP X pins σ Q) X.xe s := by
  have r2 : Vals (vs ++ dvs) (us ++ ds) := r.append hd
  have hl : (us ++ ds).length = ps.length := by rw [← r2.length]; exact F.len _ _ _ _ h
  refine wpAny_call (codeAny_mono (F.run X.A X.stack s H ⟨us, []⟩ (us ++ ds) (vs ++ dvs) Q E hr I.env0 (hb s us I.kIn hl) r2 h) fun r s' hq => ?_)
  cases r with
  | error e => exact hx pins σ H s e s' I hq
  | ok fl =>
    cases fl with
    | ret u => exact I.after hq
    | next => exact False.elim hq
    | brk => exact False.elim hq
    | cont => exact False.elim hq

theorem pe_call (F : FnOk X.prog X.w X.K X.mg X.base CX k f fd ps sp) (hr : Room k X.A) (hg : Gl X x) (hm : X.mg x = some (.ref f)) (hk : PySem.W.keepIn X.K (.ref f) = true) (hb : Binds X.K fd ps ds) (hd : Vals dvs ds) (hx : Passes CX X E)
    (ha : PA X (e :: es) t) (hdb : (x == ("__debug__" : Str)) = false := by decide) (he : starEach (e :: es) X.env = (false, eval e X.env) :: starEach es X.env := by rfl) (hpl : (backTo pos (starEach es X.env)).any (·.1) = false := by rfl) :
    PE X (.Call (.Name x p) (e :: es) [] pos) (tCall sp dvs E t) := by
  intro pins s σ H Q I h
  refine wpAny_Call_Name_kw (ld_glob I hg hm ?_ hdb)
  refine PySem.W.callWith_K (h₀ := X.base) I.ok.mod.kin hk (thn (ha pos pins s σ H _ I h) fun us s1 ⟨vs, H1, I1, r, q⟩ => ⟨I1.kIn, ?_⟩) he hpl
  exact run_fn F hr hb hd hx I1 r q
theorem pe_call0 (F : FnOk X.prog X.w X.K X.mg X.base CX k f fd ps sp) (hr : Room k X.A) (hg : Gl X x) (hm : X.mg x = some (.ref f)) (hk : PySem.W.keepIn X.K (.ref f) = true) (hb : Binds X.K fd ps ds) (hd : Vals dvs ds) (hx : Passes CX X E)
    (hdb : (x == ("__debug__" : Str)) = false := by decide) : PE X (.Call (.Name x p) [] [] pos) (tCall sp dvs E tNil) := by
  intro pins s σ H Q I h
  refine wpAny_Call_Name_kw (ld_glob I hg hm ?_ hdb)
  exact PySem.W.callWith_K0 I.kIn hk (run_fn (us := []) F hr hb hd hx I .nil h)

/-- o.m(e, ..) -/
theorem pe_meth {pl : Sem Bool} (he : PE X o ta) (c : Cls X.K C) (hm : Meth X.K C m f) (F : FnOk X.prog X.w X.K X.mg X.base CX k f fd ps sp) (hr : Room k X.A) (hb : Binds X.K fd ps ds) (hd : Vals dvs ds) (hx : Passes CX X E) (ha : PA X (e :: es) t)
    (hst : starEach (e :: es) X.env = (false, eval e X.env) :: starEach es X.env := by rfl) (hpl : (backTo pos (starEach es X.env)).any (·.1) = false := by rfl)
    (ht : eval (.Call (.Attribute o m apos) (e :: es) [] pos) X.env = (do
      let ov ← eval o X.env
      standAt apos.atName
      let (f, first) ← holding [ov] (getMethod ov m pl)
      callWith pos f first (backTo pos (starEach (e :: es) X.env)) (backToKw pos (keywordEach [] X.env))) := by rfl) :
    PE X (.Call (.Attribute o m apos) (e :: es) [] pos) (tMeth C m sp dvs E ta t) := by
  intro pins s σ H Q I h
  refine PySem.W.methodCall_KW (pl := pl) (thn (he pins s σ H _ I h) fun u s1 ⟨x, H1, I1, rx, a, dx, fs, ex, ea, l, q⟩ => ?_) ht
  subst ex
  obtain rfl : u = Value.ref a := rx
  refine getmeth_ok I1 ea c hm l ?_
  refine PySem.W.callWith_K (first := [.ref a]) (h₀ := X.base) I.ok.mod.kin hm.kp (thn (ha pos pins s1 σ H1 _ I1 q) fun us s2 ⟨vs, H2, I2, r, q2⟩ => ⟨I2.kIn, ?_⟩) hst hpl
  exact run_fn (us := .ref a :: us) (vs := .ref a :: vs) F hr hb hd hx I2 (.cons rfl r) q2
/-- o.m() -/
theorem pe_meth0 {pl : Sem Bool} (he : PE X o ta) (c : Cls X.K C) (hm : Meth X.K C m f) (F : FnOk X.prog X.w X.K X.mg X.base CX k f fd ps sp) (hr : Room k X.A) (hb : Binds X.K fd ps ds) (hd : Vals dvs ds) (hx : Passes CX X E)
    (ht : eval (.Call (.Attribute o m apos) [] [] pos) X.env = (do
      let ov ← eval o X.env
      standAt apos.atName
      let (f, first) ← holding [ov] (getMethod ov m pl)
      callWith pos f first (backTo pos (starEach [] X.env)) (backToKw pos (keywordEach [] X.env))) := by rfl) :
    PE X (.Call (.Attribute o m apos) [] [] pos) (tMeth C m sp dvs E ta tNil) := by
  intro pins s σ H Q I h
  refine PySem.W.methodCall_KW (pl := pl) (thn (he pins s σ H _ I h) fun u s1 ⟨x, H1, I1, rx, a, dx, fs, ex, ea, l, q⟩ => ?_) ht
  subst ex
  obtain rfl : u = Value.ref a := rx
  refine getmeth_ok I1 ea c hm l ?_
  exact PySem.W.callWith_K0 (first := [.ref a]) I1.kIn hm.kp (run_fn (us := [.ref a]) (vs := [.ref a]) F hr hb hd hx I1 (.cons rfl .nil) q)

/-- what a class must have to be made -/
structure Mk (K : PySem.W.Frag) (C f : Addr) : Prop where
  makes : PySem.W.makesIn K C = true
  init : PySem.W.findIn K (.ref C) "__init__" = some (some (.ref f))
  fn : PySem.W.isFn K (.ref f) = true
  kp : PySem.W.keepIn K (.ref C) = true

theorem run_make {pins : List (Addr × Obj)} {σ : St} {H : Hp} {s : Shared} {Q : VK} {us : List Value} {vs : List V} (M : Mk X.K C f) (F : FnOk X.prog X.w X.K X.mg X.base CX k f fd ps sp) (hr : Room (k + 1) X.A) (hb : Binds X.K fd ps ds) (hd : Vals dvs ds)
    (hx : Passes CX X E) (I : Inv X pins σ H s) (r : Vals vs us)
    (h : ∀ x dx, H x = none → H dx = none → dx ≠ x → sp (.ref x :: (vs ++ dvs)) (upd (upd H dx (.own x)) x (.ins C dx [])) (fun v H2 => v = .non ∧ Q (.ref x) H2) E) :
    wpAny (model X.prog X.w) X.A (call (.ref C) us) (EP X pins σ Q) X.xe s := by
  have hq := h (s.heap.objs.size + 1) s.heap.objs.size (I.hok.fresh (Nat.le_succ _)) (I.hok.fresh (Nat.le_refl _)) (Nat.ne_of_lt (Nat.lt_succ_self _))
  have I2 := Inv.made (C := C) I
  have r2 : Vals (V.ref (s.heap.objs.size + 1) :: (vs ++ dvs)) (Value.ref (s.heap.objs.size + 1) :: (us ++ ds)) := .cons rfl (r.append hd)
  have hl : (Value.ref (s.heap.objs.size + 1) :: us ++ ds).length = ps.length := by
    have e := r2.length
    rw [F.len _ _ _ _ hq] at e
    exact e.symm
  refine wpAny_call (make_map (f := f) I.kIn M.makes M.init (beq_iff_eq.mp M.fn) (codeAny_mono (F.run _ X.stack _ _ ⟨Value.ref (s.heap.objs.size + 1) :: us, []⟩ (Value.ref (s.heap.objs.size + 1) :: (us ++ ds)) _ _ E (hr.make C us [])
    (I2.env0.make C us []) (hb _ (Value.ref (s.heap.objs.size + 1) :: us) I2.kIn hl) r2 hq) fun r s' hq' => ?_))
  cases r with
  | error e => exact hx pins σ _ _ e s' I2 hq'
  | ok fl =>
    cases fl with
    | ret u =>
      obtain ⟨v, H', I3, rv, ev, q3⟩ := I2.after hq'
      subst ev
      exact ⟨rv, ⟨V.ref (s.heap.objs.size + 1), H', I3, rfl, q3⟩⟩
    | next => exact False.elim hq'
    | brk => exact False.elim hq'
    | cont => exact False.elim hq'
theorem pe_make (M : Mk X.K C f) (F : FnOk X.prog X.w X.K X.mg X.base CX k f fd ps sp) (hr : Room (k + 1) X.A) (hg : Gl X x) (hm : X.mg x = some (.ref C)) (hb : Binds X.K fd ps ds) (hd : Vals dvs ds) (hx : Passes CX X E)
    (ha : PA X (e :: es) t) (hdb : (x == ("__debug__" : Str)) = false := by decide) (he : starEach (e :: es) X.env = (false, eval e X.env) :: starEach es X.env := by rfl) (hpl : (backTo pos (starEach es X.env)).any (·.1) = false := by rfl) :
    PE X (.Call (.Name x p) (e :: es) [] pos) (tMake C sp dvs E t) := by
  intro pins s σ H Q I h
  refine wpAny_Call_Name_kw (ld_glob I hg hm ?_ hdb)
  refine PySem.W.callWith_K (h₀ := X.base) I.ok.mod.kin M.kp (thn (ha pos pins s σ H _ I h) fun us s1 ⟨vs, H1, I1, r, q⟩ => ⟨I1.kIn, ?_⟩) he hpl
  exact run_make M F hr hb hd hx I1 r q
theorem pe_make0 (M : Mk X.K C f) (F : FnOk X.prog X.w X.K X.mg X.base CX k f fd ps sp) (hr : Room (k + 1) X.A) (hg : Gl X x) (hm : X.mg x = some (.ref C)) (hb : Binds X.K fd ps ds) (hd : Vals dvs ds) (hx : Passes CX X E)
    (hdb : (x == ("__debug__" : Str)) = false := by decide) : PE X (.Call (.Name x p) [] [] pos) (tMake C sp dvs E tNil) := by
  intro pins s σ H Q I h
  refine wpAny_Call_Name_kw (ld_glob I hg hm ?_ hdb)
  exact PySem.W.callWith_K0 I.kIn M.kp (run_make (us := []) M F hr hb hd hx I .nil h)
end

/-! ### keywords -/
/-- the values of the keywords, from the left -/
def PK (X : Cx) (kws : List Keyword) (t : TA) : Prop :=
  ∀ (pos : Pos) (pins : List (Addr × Obj)) (s : Shared) (σ : St) (H : Hp) (Q : List V → Hp → Prop), Inv X pins σ H s → t σ H Q → wpAny (model X.prog X.w) X.A (evalAll ((backToKw pos (keywordEach kws X.env)).map (·.2))) (AP X pins σ Q) X.xe s
section
variable {X : Cx} {CX : CXT} {k : Nat} {f C : Addr} {fd : FuncData} {ps ks : List Str} {sp : Sp} {E : XK} {x m : Str} {p pos apos kpos : Pos} {e o : Expr} {es : List Expr} {kws : List Keyword} {te ta : TE} {t tk : TA} {nm : Option Str}
theorem pk_nil : PK X [] tNil := fun _ _ _ _ H Q I h => wpAny_evalAll_nil ⟨[], H, I, .nil, h⟩
theorem pk_cons (ha : PE X e te) (hr : PK X kws t) : PK X (⟨nm, e, kpos⟩ :: kws) (tCons te t) := by
  intro pos pins s σ H Q I h
  show wpAny _ _ (evalAll ((do let v ← eval e X.env; standAt pos; pure v) :: (backToKw pos (keywordEach kws X.env)).map (·.2))) _ _ s
  refine wpAny_evalAll_cons (wpAny_bind (thn (ha pins s σ H _ I h) fun u s1 ⟨x, H1, I1, r1, q1⟩ => wpAny_bind (wpAny_standAt (wpAny_pure ?_))))
  exact thn (hr pos pins s1 σ H1 _ I1 q1) fun us s2 ⟨xs, H2, I2, r2, q2⟩ => ⟨x :: xs, H2, I2, .cons r1 r2, q2⟩

/-- how a call with keywords binds: g puts the positional values us and the keywords' values ws (names ks) in the parameters' order, defaults among them -/
structure KBinds (K : PySem.W.Frag) (fd : FuncData) (ps ks : List Str) (g : List Value → List Value → List Value) (gV : List V → List V → List V) : Prop where
  to : ∀ (s : Shared) (us ws : List Value), K.In s.heap → (g us ws).length = ps.length → BindsTo s fd ⟨us, ks.zip ws⟩ (ps.zip (g us ws))
  rel : ∀ {vs : List V} {us : List Value} {zs : List V} {ws : List Value}, Vals vs us → Vals zs ws → Vals (gV vs zs) (g us ws)
def tCallK (sp : Sp) (gV : List V → List V → List V) (E : XK) (t tk : TA) : TE := fun σ H Q => t σ H fun vs H1 => tk σ H1 fun zs H2 => sp (gV vs zs) H2 Q E
variable {g : List Value → List Value → List Value} {gV : List V → List V → List V}
theorem run_fnk {pins : List (Addr × Obj)} {σ : St} {H : Hp} {s : Shared} {Q : VK} {us ws : List Value} {vs zs : List V} (F : FnOk X.prog X.w X.K X.mg X.base CX k f fd ps sp) (hr : Room k X.A) (hb : KBinds X.K fd ps ks g gV) (hx : Passes CX X E)
    (I : Inv X pins σ H s) (r : Vals vs us) (rz : Vals zs ws) (h : sp (gV vs zs) H Q E) : wpAny (model X.prog X.w) X.A (call (.ref f) us (ks.zip ws)) (EP X pins σ Q) X.xe s := by
  have r2 := hb.rel r rz
  have hl : (g us ws).length = ps.length := by rw [← r2.length]; exact F.len _ _ _ _ h
  refine wpAny_call (codeAny_mono (F.run X.A X.stack s H ⟨us, ks.zip ws⟩ (g us ws) (gV vs zs) Q E hr I.env0 (hb.to s us ws I.kIn hl) r2 h) fun r s' hq => ?_)
  cases r with
  | error e => exact hx pins σ H s e s' I hq
  | ok fl =>
    cases fl with
    | ret u => exact I.after hq
    | next => exact False.elim hq
    | brk => exact False.elim hq
    | cont => exact False.elim hq
/-- f(e, .., k = v, ..) -/
theorem pe_callK (F : FnOk X.prog X.w X.K X.mg X.base CX k f fd ps sp) (hr : Room k X.A) (hg : Gl X x) (hm : X.mg x = some (.ref f)) (hk : PySem.W.keepIn X.K (.ref f) = true) (hb : KBinds X.K fd ps ks g gV) (hx : Passes CX X E)
    (ha : PA X (e :: es) t) (hkw : PK X kws tk) (hall : (backToKw pos (keywordEach kws X.env)).all (·.1.isSome) = true := by rfl) (hks : (backToKw pos (keywordEach kws X.env)).filterMap (·.1) = ks := by rfl)
    (hdb : (x == ("__debug__" : Str)) = false := by decide) (he : starEach (e :: es) X.env = (false, eval e X.env) :: starEach es X.env := by rfl)
    (hpl : ((backTo pos (starEach (e :: es) X.env)).any (·.1) || (backToKw pos (keywordEach kws X.env)).any (·.1.isNone)) = false := by rfl) :
    PE X (.Call (.Name x p) (e :: es) kws pos) (tCallK sp gV E t tk) := by
  intro pins s σ H Q I h
  refine wpAny_Call_Name_kw (ld_glob I hg hm ?_ hdb)
  refine PySem.W.callWith_KW (h₀ := X.base) I.ok.mod.kin hk hall (thn (ha pos pins s σ H _ I h) fun us s1 ⟨vs, H1, I1, r, q⟩ => ?_) hpl he
  refine thn (hkw pos pins s1 σ H1 _ I1 q) fun ws s2 ⟨zs, H2, I2, rz, q2⟩ => ⟨I2.kIn, ?_⟩
  rw [hks]
  exact run_fnk F hr hb hx I2 r rz q2
end

/-! ### a def's body keeps its promise -/
/-- names: the parameters first -/
structure FnScope (N P : List Str) (sc : Scope) : Prop where
  kind : sc.kind = .function
  co : sc.isCoroutine = false
  gen : sc.isGenerator = false
  nd : N.Nodup
  pre : N.take P.length = P
  par : ∀ x ∈ P, sc.names.lookup x = some .local ∨ sc.names.lookup x = some .cell
  nofree : ∀ y ∈ sc.names, y.2 ≠ .free

theorem bindL_out {kindOf : Str → Option NameKind} {x : Str} : ∀ {binds : List (Str × Value)} {m : Str → Option Value}, (∀ v, (x, v) ∉ binds) → bindL kindOf binds m x = m x
  | [], _, _ => rfl
  | (n, v) :: r, m, h => by
    unfold bindL
    rw [bindL_out fun w hw => h w (List.mem_cons_of_mem _ hw)]
    split
    · have : x ≠ n := by rintro rfl; exact h v List.mem_cons_self
      simp [this]
    · rfl
theorem bindC_out {kindOf : Str → Option NameKind} {x : Str} : ∀ {binds : List (Str × Value)} {m : Str → Option Value}, (∀ v, (x, v) ∉ binds) → bindC kindOf binds m x = m x
  | [], _, _ => rfl
  | (n, v) :: r, m, h => by
    unfold bindC
    rw [bindC_out fun w hw => h w (List.mem_cons_of_mem _ hw)]
    split
    · rfl
    · have : x ≠ n := by rintro rfl; exact h v List.mem_cons_self
      simp [this]
theorem bindL_get {kindOf : Str → Option NameKind} {x : Str} {v : Value} : ∀ {P : List Str} {vs : List Value} {i : Nat} {m : Str → Option Value}, P.Nodup → P[i]? = some x → vs[i]? = some v → kindOf x = some .local →
    bindL kindOf (P.zip vs) m x = some v
  | [], _, _, _, _, h, _, _ => by simp at h
  | _ :: _, [], _, _, _, _, h, _ => by simp at h
  | p :: P, w :: vs, 0, m, nd, h1, h2, hk => by
    simp at h1 h2; subst h1; subst h2
    show bindL kindOf ((p, w) :: P.zip vs) m p = _
    unfold bindL
    rw [bindL_out fun v hv => (List.nodup_cons.mp nd).1 (List.of_mem_zip hv).1, if_pos hk]
    simp
  | p :: P, w :: vs, i + 1, m, nd, h1, h2, hk => by
    show bindL kindOf ((p, w) :: P.zip vs) m x = _
    unfold bindL
    exact bindL_get (i := i) (List.nodup_cons.mp nd).2 (by simpa using h1) (by simpa using h2) hk
theorem bindC_get {kindOf : Str → Option NameKind} {x : Str} {v : Value} : ∀ {P : List Str} {vs : List Value} {i : Nat} {m : Str → Option Value}, P.Nodup → P[i]? = some x → vs[i]? = some v → kindOf x ≠ some .local →
    bindC kindOf (P.zip vs) m x = some v
  | [], _, _, _, _, h, _, _ => by simp at h
  | _ :: _, [], _, _, _, _, h, _ => by simp at h
  | p :: P, w :: vs, 0, m, nd, h1, h2, hk => by
    simp at h1 h2; subst h1; subst h2
    show bindC kindOf ((p, w) :: P.zip vs) m p = _
    unfold bindC
    rw [bindC_out fun v hv => (List.nodup_cons.mp nd).1 (List.of_mem_zip hv).1, if_neg hk]
    simp
  | p :: P, w :: vs, i + 1, m, nd, h1, h2, hk => by
    show bindC kindOf ((p, w) :: P.zip vs) m x = _
    unfold bindC
    exact bindC_get (i := i) (List.nodup_cons.mp nd).2 (by simpa using h1) (by simpa using h2) hk

/-- the names' values at the entry -/
def start (N : List Str) (vs : List V) : St := vs.map some ++ List.replicate (N.length - vs.length) none

/-- the context of a def's body, at its entry; an exception leaves the frame, then lies as CX says -/
def cxOf (CX : CXT) (P : Program) (w : World) (K : PySem.W.Frag) (mg : Str → Option Value) (base : Heap) (N : List Str) (qual : Str) (scope : Scope) (f : Addr) (cd : Value) (A : Around) (outer : List Env) (s : Shared) (H : Hp) (E : XK) : Cx where
  prog := P
  w := w
  K := K
  mg := mg
  base := base
  A := A.deeper (envOfC qual scope s.heap.objs.size f cd)
  N := N
  s₀ := s
  H₀ := H
  env := envOfC qual scope s.heap.objs.size f cd
  outer := outer
  stack := envOfC qual scope s.heap.objs.size f cd :: outer
  ex := []
  calm := true
  fn := fun _ => true
  pn := []
  xe := fun e s' => wpAny (model P w) (A.deeper (envOfC qual scope s.heap.objs.size f cd)) (leaving (envOfC qual scope s.heap.objs.size f cd) e) (fun _ s'' => CX outer H s E e s'') (fun e' s'' => CX outer H s E e' s'') s'

theorem cell_has {sc : Scope} {n : Nat} {x : Str} (h : sc.names.lookup x = some .cell) : ∃ c, (cellsFrom n sc.names []).lookup x = some c := by
  have q := PySem.W.cellsFrom_some sc.names n [] (.inl h)
  exact Option.isSome_iff_exists.mp q

theorem inv_start {CX : CXT} {P : Program} {w : World} {K : PySem.W.Frag} {mg : Str → Option Value} {base : Heap} {N ps : List Str} {qual : Str} {scope : Scope} {f : Addr} {cd : Value} {A : Around} {outer : List Env} {s s1 : Shared} {H : Hp} {E : XK} {us : List Value} {vs : List V}
    (S : FnScope N ps scope) (hd : A.handled = none) (e0 : Env0 P w K mg base A outer s H) (hl : vs.length = ps.length) (r : Vals vs us)
    (x : InCallC s s.heap.objs.size (bindL (envOfC qual scope s.heap.objs.size f cd).kindOf (ps.zip us) fun _ => none) (cellsFrom (s.heap.objs.size + 1) scope.names []) (bindC (envOfC qual scope s.heap.objs.size f cd).kindOf (ps.zip us) fun _ => none) s1) :
    Inv (cxOf CX P w K mg base N qual scope f cd A outer s H E) [] (start N vs) H s1 := by
  have hpl : ps.length ≤ N.length := by have := congrArg List.length S.pre; rw [List.length_take] at this; omega
  obtain ⟨h1, tk, rfl, hk⟩ := x.done
  have noA : ∀ b : Addr, b ∉ (cxOf CX P w K mg base N qual scope f cd A outer s H E).ex := fun b z => absurd (show b ∈ ([] : List Addr) from z) (by simp)
  refine ⟨⟨e0.mod, S.kind, rfl, rfl, Nat.le_refl _, fun y z c h1 h2 => ?_, fun y hy => ?_, fun y c _ h => ?_, fun _ => hd, Around.frames_deeper e0.frames, .inr ⟨rfl, rfl⟩, fun b z => absurd z (noA b), e0.bs, e0.bsz, fun b _ _ => noA b, fun b z => absurd z (noA b), e0.funs, e0.frf⟩,
    rfl, e0.bare, Un.kept hk, ⟨_, x.toInCall.ns, fun i y v h1 h2 h3 => ?_⟩, fun y c h => ⟨_, x.cell y c h⟩, e0.hok.fresh (Nat.le_refl _), fun y c h => ?_, fun p hp => absurd (show p ∈ ([] : List (Addr × Obj)) from hp) (by simp), e0.hok.kept hk, ?_⟩
  · exact name_of_addr x.apart (PySem.mem_of_lookup h1) (PySem.mem_of_lookup h2)
  · have hy : scope.names.lookup y = some .cell ∨ scope.names.lookup y = some .free := hy
    rcases hy with hy | hy
    · exact cell_has hy
    · exact absurd rfl (S.nofree _ (PySem.mem_of_lookup hy))
  · exact Nat.le_of_lt (x.above y c (PySem.mem_of_lookup h))
  · have hi : i < vs.length := by
      unfold start at h2
      by_cases hi : i < vs.length
      · exact hi
      · rw [List.getElem?_append_right (by simpa using hi)] at h2
        rw [List.getElem?_replicate] at h2
        split at h2 <;> cases h2
    have ha : vs[i]? = some v := by
      unfold start at h2
      rw [List.getElem?_append_left (by simpa using hi), List.getElem?_map] at h2
      cases e : vs[i]? with
      | none => rw [e] at h2; cases h2
      | some a => rw [e] at h2; cases h2; rfl
    obtain ⟨u, hu, rv⟩ := r.get ha
    have hp : ps[i]? = some y := by
      rw [← S.pre, List.getElem?_take_of_lt (by omega)]; exact h1
    have ndP : ps.Nodup := by rw [← S.pre]; exact S.nd.sublist (List.take_sublist _ _)
    refine ⟨u, rv, ?_⟩
    rcases S.par y (List.mem_of_getElem? hp) with k | k
    · exact .inl ⟨k, bindL_get ndP hp hu k⟩
    · obtain ⟨c, e⟩ := cell_has (n := s.heap.objs.size + 1) k
      refine .inr ⟨.inl k, c, e, ?_⟩
      have q := x.cell y c e
      rw [bindC_get ndP hp hu (by show scope.names.lookup y ≠ _; rw [k]; decide)] at q
      exact q
  · exact e0.hok.fresh (Nat.le_of_lt (x.above y c (PySem.mem_of_lookup h)))
  · unfold start
    show _ = N.length
    rw [List.length_append, List.length_map, List.length_replicate]
    omega

/-- THE RULE: a def (or a method) of the text, by its body. The body's reading t is chosen for each entry; it is run at the parameters' values -/
theorem fn_of {CX : CXT} {P : Program} {w : World} {K : PySem.W.Frag} {mg : Str → Option Value} {base : Heap} {k : Nat} {f : Addr} {name qual : Str} {params : Arguments} {body : List Stmt} {scope : Scope} {dV kV doc pm cdv ct oc : Value} {an od : Option Addr}
    {osl : Array (Option Value)} {N ps : List Str} {sp : Sp} (lk : K.lookup f = some ⟨oc, od, .func (PySem.W.fnOf name qual params body scope dV kV doc pm an cdv ct), osl⟩) (hcd : PySem.W.codeIn K cdv qual = true) (S : FnScope N ps scope)
    (len : ∀ vs H Q E, sp vs H Q E → vs.length = ps.length)
    (hbody : ∀ (A : Around) (outer : List Env) (s : Shared) (H : Hp) (vs : List V) (Q : VK) (E : XK), Room k (A.deeper (envOfC qual scope s.heap.objs.size f cdv)) → sp vs H Q E →
      ∃ t, PSs (cxOf CX P w K mg base N qual scope f cdv A outer s H E) body t ∧ t { nx := fun _ H' => Q .non H', rt := Q } (start N vs) H) :
    FnOk P w K mg base CX (k + 1) f (PySem.W.fnOf name qual params body scope dV kV doc pm an cdv ct) ps sp := by
  refine ⟨len, fun A outer s H args us vs Q E hr e0 hb r hsp => ?_⟩
  have hl := len _ _ _ _ hsp
  have KX : K.In s.heap := e0.mod.kin.keeps fun b o e => (e0.bs b o e).1
  have lim : s.heap.NoLimit := e0.mod.nolimit.keeps fun b o e => (e0.bs b o e).1
  have hkind : ∀ y ∈ ps.zip us, scope.names.lookup y.1 = some .local ∨ (scope.names.lookup y.1 = some .cell ∧ ((cellsFrom (s.heap.objs.size + 1) scope.names []).lookup y.1).isSome = true) := fun ⟨n, v⟩ hy => by
    rcases S.par n (List.of_mem_zip hy).1 with q | q
    · exact .inl q
    · exact .inr ⟨q, PySem.W.cellsFrom_some _ _ _ (.inl q)⟩
  refine codeAny_call_function hr.depth (KX _ _ lk) rfl S.co S.gen rfl (PySem.W.codeRec_of KX hcd) (hb _ _ _ _ ?_)
  refine wpAny_newFunctionEnv_cells S.kind hkind fun env he s1 x => ?_
  subst he
  refine ⟨lim.keeps x.toInCall.keep, codeAny_func ?_⟩
  obtain ⟨t, ht, hq⟩ := hbody A outer s H vs Q E (hr.deeper _) hsp
  have I : Inv (cxOf CX P w K mg base N qual scope f cdv A outer s H E) [] (start N vs) H s1 := inv_start S hr.hd e0 hl r x
  refine wpAny_mono (ht [] s1 (start N vs) H _ I hq) (fun fl s' hs => ?_) fun e s' hs => hs
  have fin : ∀ {σ' : St} {H' : Hp} {v : V} {u : Value}, Inv (cxOf CX P w K mg base N qual scope f cdv A outer s H E) [] σ' H' s' → RelV v u → Q v H' → CE outer P w H s Q u s' :=
    fun {σ' H' v u} J rv q => ⟨v, H', J.os, J.bare, J.base, J.hok, rv, q⟩
  cases fl with
  | ret u =>
    obtain ⟨v, σ', H', J, rv, q⟩ := hs
    exact fin J rv q
  | next =>
    obtain ⟨σ', H', J, q⟩ := hs
    exact fin (v := V.non) (u := Value.none) J rfl q
  | brk =>
    obtain ⟨_, _, _, q⟩ := hs
    exact False.elim q
  | cont =>
    obtain ⟨_, _, _, q⟩ := hs
    exact False.elim q
end L2

namespace L2
open PySem PySem.Spec PyProof.Rows
section
variable {X : Cx} {x : Str} {p pos : Pos} {e : Expr} {es : List Expr} {t : TA} {id T : String} {r : List V → Hp → VK → Prop}

def tCB (r : List V → Hp → VK → Prop) (t : TA) : TE := fun σ H Q => t σ H fun vs H1 => r vs H1 Q
/-- f(e, ..), f a built-in function -/
theorem pe_callB (hc : CallR X (.builtin id) r) (hg : Gl X x) (hm : X.mg x = none) (hv : bootBuiltins x = some (.builtin id)) (ha : PA X (e :: es) t) (hn : x ≠ "__name__" := by decide) (hdb : (x == ("__debug__" : Str)) = false := by decide)
    (he : starEach (e :: es) X.env = (false, eval e X.env) :: starEach es X.env := by rfl) (hpl : (backTo pos (starEach es X.env)).any (·.1) = false := by rfl) : PE X (.Call (.Name x p) (e :: es) [] pos) (tCB r t) := by
  intro pins s σ H Q I h
  refine wpAny_Call_Name_kw (ld_blt I hg hm hv ?_ hn hdb)
  exact PyProof.Rows.callWith_builtin1 (thn (ha pos pins s σ H _ I h) fun us s1 ⟨vs, H1, I1, r1, q1⟩ => hc pins s1 σ H1 vs us Q I1 r1 q1) he hpl
/-- T(e, ..), T a built-in type -/
theorem pe_callTy (hc : CallR X (.type T) r) (hg : Gl X x) (hm : X.mg x = none) (hv : bootBuiltins x = some (.type T)) (ha : PA X (e :: es) t) (hn : x ≠ "__name__" := by decide) (hdb : (x == ("__debug__" : Str)) = false := by decide)
    (he : starEach (e :: es) X.env = (false, eval e X.env) :: starEach es X.env := by rfl) (hpl : (backTo pos (starEach es X.env)).any (·.1) = false := by rfl) : PE X (.Call (.Name x p) (e :: es) [] pos) (tCB r t) := by
  intro pins s σ H Q I h
  refine wpAny_Call_Name_kw (ld_blt I hg hm hv ?_ hn hdb)
  exact PyProof.Rows.callWith_type1 (thn (ha pos pins s σ H _ I h) fun us s1 ⟨vs, H1, I1, r1, q1⟩ => hc pins s1 σ H1 vs us Q I1 r1 q1) he hpl
/-- T() -/
theorem pe_callTy0 (hc : CallR X (.type T) r) (hg : Gl X x) (hm : X.mg x = none) (hv : bootBuiltins x = some (.type T)) (hn : x ≠ "__name__" := by decide) (hdb : (x == ("__debug__" : Str)) = false := by decide) :
    PE X (.Call (.Name x p) [] [] pos) (tCB r tNil) := by
  intro pins s σ H Q I h
  refine wpAny_Call_Name_kw (ld_blt I hg hm hv ?_ hn hdb)
  exact PyProof.Rows.callWith_type0 (hc pins s σ H [] [] Q I .nil h)
end
end L2

namespace HT
open PySem PyProof.Rows

/-- t < u of tuples of ints -/
def lexLt : List Int → List Int → Bool
  | [], [] => false
  | [], _ :: _ => true
  | _ :: _, [] => false
  | x :: xs, y :: ys => if x = y then lexLt xs ys else decide (x < y)
theorem lexLt_cons (x y : Int) (xs ys : List Int) : lexLt (x :: xs) (y :: ys) = if x = y then lexLt xs ys else decide (x < y) := rfl
theorem lexLt_nil_nil : lexLt [] [] = false := rfl
theorem lexLt_nil_cons (y : Int) (ys : List Int) : lexLt [] (y :: ys) = true := rfl
theorem lexLt_cons_nil (x : Int) (xs : List Int) : lexLt (x :: xs) [] = false := rfl

theorem eqAt_int (A : Around) (s : Shared) (a : Int) (t : Tok) (c : Int) (u : Tok) : ∃ e, SeqAt.EqAt A s (.int a t) (.int c u) e ∧ (e = true ↔ a = c) :=
  ⟨(a == c), SeqAt.EqAt.int_int a t c u, by simp⟩
theorem rcLt_int (A : Around) (s : Shared) (a : Int) (t : Tok) (c : Int) (u : Tok) (prog : Program) (w : World) (E : Value → Shared → Prop) (Q : Value → Shared → Prop) (h : Q (.bool (decide (a < c))) s) :
    wpAny (model prog w) A (richCompare .Lt (.int a t) (.int c u)) Q E s :=
  (PyProof.Rows.lt_int h : wpAny (model prog w) A (compareOp .Lt (.int a t) (.int c u)) Q E s)

section
open PySem.SeqAt
open PySem.AutoSeq1 (wpAny_loadPart')
open PySem.MeetsSeq PySem.MeetsSeq2 PySem.MeetsSeq3

theorem tuple_lt_ints (l b : Addr) (items items2 : Array Value) (n n2 : Nat) (dd dd2 : Option Addr) (sl sl2 : Array (Option Value)) (ns ms : List Int) (hi : IntsAre items.toList ns) (hj : IntsAre items2.toList ms) :
    Meets (Builtin.«tuple.__lt__» ⟨[.ref l, .ref b], []⟩)
      (fun _ R s => s.heap.get? l = some { cls := .type "tuple", dict := dd, data := .seq items n, slots := sl } ∧ s.heap.get? b = some { cls := .type "tuple", dict := dd2, data := .seq items2 n2, slots := sl2 } ∧
        R (.ok (.ret (.bool (lexLt ns ms)))) s) :=
  .of_wp fun prog w A R s h => by
    obtain ⟨hp, g, d, tk, os⟩ := s; obtain ⟨hl, hb, h⟩ := h
    have f2 := AutoSeq1.sub_tuple_tuple
    have z1 : items.size = ns.length := by rw [← hi.length]; simp
    have z2 : items2.size = ms.length := by rw [← hj.length]; simp
    wp_walk using wpAny_loadPart' hl, wpAny_loadPart' hb, wpAny_forIn_list _ (fun rest b s' => b.1 = none ∧ s' = ⟨hp, g, d, tk, os⟩ ∧ ∃ (vs ws : List Value) (ns' ms' : List Int), rest = vs.zip ws ∧
      IntsAre vs ns' ∧ IntsAre ws ms' ∧ ns'.length + items2.size = ms'.length + items.size ∧ R (.ok (.ret (.bool (lexLt ns' ms')))) ⟨hp, g, d, tk, os⟩) _
    case turn =>
      rintro ⟨y, x⟩ rest b s' ⟨hb', rfl, vs, ws, ns', ms', hz, hvi, hwi, hlen, hR⟩
      cases hvi with
      | nil => rw [List.zip_nil_left] at hz; cases hz
      | cons a t hvi' =>
        cases hwi with
        | nil => rw [List.zip_nil_right] at hz; cases hz
        | cons c u hwi' =>
          rw [List.zip_cons_cons] at hz
          injection hz with hyx hrest
          injection hyx with hy hx
          subst hy hx
          rw [lexLt_cons] at hR
          simp only [List.length_cons] at hlen
          obtain ⟨e, he, hiff⟩ := eqAt_int A.in1 ⟨hp, g, d, tk, os⟩ a t c u
          refine wpAny_bind (he prog w _ _ ?_)
          cases e with
          | true =>
            rw [if_pos (hiff.mp rfl)] at hR
            wp_walk
            exact ⟨rfl, rfl, _, _, _, _, hrest, hvi', hwi', by omega, hR⟩
          | false =>
            rw [if_neg (fun q => absurd (hiff.mpr q) Bool.false_ne_true)] at hR
            have hri := rcLt_int A.in1 ⟨hp, g, d, tk, os⟩ a t c u prog w
            wp_walk using hri
            exact ⟨_, rfl, by simpa using hR⟩
    case fin =>
      rintro ⟨b1, b2⟩ s' ⟨hb', rfl, vs, ws, ns', ms', hz, hvi, hwi, hlen, hR⟩
      simp only at hb'
      subst hb'
      have hv : lexLt ns' ms' = decide (items.size < items2.size) := by
        cases hvi with
        | nil =>
          cases hwi with
          | nil =>
            simp only [List.length_nil] at hlen
            rw [lexLt_nil_nil]
            exact (decide_eq_false (by omega)).symm
          | cons c u hw =>
            simp only [List.length_nil, List.length_cons] at hlen
            rw [lexLt_nil_cons]
            exact (decide_eq_true (by omega)).symm
        | cons a t hv =>
          cases hwi with
          | nil =>
            simp only [List.length_nil, List.length_cons] at hlen
            rw [lexLt_cons_nil]
            exact (decide_eq_false (by omega)).symm
          | cons c u hw =>
            rw [List.zip_cons_cons] at hz
            cases hz
      rw [hv] at hR
      wp_walk
      exact ⟨_, rfl, by simpa [Builtin.Tuple.tupleCompareSizes] using hR⟩
    case h =>
      exact ⟨rfl, rfl, items.toList, items2.toList, ns, ms, rfl, hi, hj, by omega, h⟩
end

section
variable {prog : Program} {w : World} {A : Around} {E : Value → Shared → Prop} {s : Shared}

theorem lt_tupInts {l b : Addr} {items items2 : Array Value} {ns ms : List Int} {Q : Value → Shared → Prop} (hl : IsTup s.heap l items) (hb : IsTup s.heap b items2) (hi : IntsAre items.toList ns) (hj : IntsAre items2.toList ms)
    (hu : A.units < cLine) (h : Q (.bool (lexLt ns ms)) s) : wpAny (model prog w) A (compareOp .Lt (.ref l) (.ref b)) Q E s := by
  obtain ⟨⟨cls, dd, data, sl⟩, ho, hc, n, hd⟩ := id hl
  obtain ⟨⟨cls2, dd2, data2, sl2⟩, ho2, hc2, n2, hd2⟩ := id hb
  simp only at hc hd hc2 hd2
  subst hc hd hc2 hd2
  exact richCompare_meets_room (op := .Lt) ⟨_, ho, rfl⟩ ⟨_, ho2, rfl⟩ PySem.F.slot_tuple_lt PySem.F.entry_tuple_lt (PySem.F.args_tuple_lt_2 _ _) (tuple_lt_ints l b items items2 n n2 dd dd2 sl sl2 ns ms hi hj)
    ⟨ho, ho2, show Value.bool (lexLt ns ms) ≠ Value.notImplemented ∧ Q (.bool (lexLt ns ms)) s from ⟨(fun x => nomatch x), h⟩⟩ hu

/-- t + u, t not empty -/
theorem cat_tup {t b : Addr} {vs ws : List Value} {Q : Value → Shared → Prop} (ht : IsTup s.heap t vs.toArray) (hb : IsTup s.heap b ws.toArray) (hv : vs ≠ [])
    (h1 : ws = [] → Q (.ref t) s) (h2 : ws ≠ [] → Q (.ref s.heap.objs.size) { s with heap := s.heap.push { cls := .type "tuple", data := .seq (vs ++ ws).toArray } })
    (hsz : vs.length + ws.length ≤ sizeLine) : wpAny (model prog w) A (binaryOp .Add (.ref t) (.ref b)) Q E s := by
  obtain ⟨⟨cls, dd, data, sl⟩, ho, hc, n, hd⟩ := id ht
  obtain ⟨⟨cls2, dd2, data2, sl2⟩, ho2, hc2, n2, hd2⟩ := id hb
  simp only at hc hd hc2 hd2
  subst hc hd hc2 hd2
  have e : vs.toArray ++ ws.toArray = (vs ++ ws).toArray := by simp
  by_cases hw : ws = []
  · exact concat_meets ⟨_, ho, rfl⟩ ⟨_, ho2, rfl⟩ noFill_tuple_add seq_tuple_add PySem.F.slot_tuple_add PySem.F.entry_tuple_add (PySem.F.args_tuple_add_2 _ _)
      (tuple_addW1 t b vs.toArray ws.toArray n n2 dd dd2 sl sl2 (by simpa using hv) (by simp [hw])) ⟨ho, ho2, h1 hw⟩
  · refine concat_meets ⟨_, ho, rfl⟩ ⟨_, ho2, rfl⟩ noFill_tuple_add seq_tuple_add PySem.F.slot_tuple_add PySem.F.entry_tuple_add (PySem.F.args_tuple_add_2 _ _)
      (tuple_addW2 t b vs.toArray ws.toArray n n2 dd dd2 sl sl2 (by simpa using hv) (by simpa using hw) (by rw [List.size_toArray, List.size_toArray]; exact hsz)) ⟨ho, ho2, ?_⟩
    rw [e]
    exact h2 hw

/-! ### t[a:b], not the whole -/
/-- a slice's bound as a place among n (d where it is left out) -/
def sIx (n d : Nat) : Option Int → Nat
  | none => d
  | some v => if v < 0 then (v + (n : Int)).toNat else min v.toNat n
theorem sIx_none (n d : Nat) : sIx n d none = d := rfl
theorem sIx_nat (n d k : Nat) : sIx n d (some (k : Int)) = min k n := by
  show (if (k : Int) < 0 then ((k : Int) + (n : Int)).toNat else min (k : Int).toNat n) = min k n
  rw [if_neg (by omega), Int.toNat_natCast]
theorem sIx_le (n d : Nat) (hd : d ≤ n) (o : Option Int) : sIx n d o ≤ n := by
  cases o with
  | none => exact hd
  | some v =>
    show (if v < 0 then (v + (n : Int)).toNat else min v.toNat n) ≤ n
    by_cases hv : v < 0
    · rw [if_pos hv]; omega
    · rw [if_neg hv]; exact Nat.min_le_right _ _
theorem clip_eq (v : Int) (n d : Nat) : (if v < 0 then max (v + (n : Int)) 0 else min v (n : Int)) = ((sIx n d (some v) : Nat) : Int) := by
  show (if v < 0 then max (v + (n : Int)) 0 else min v (n : Int)) = (((if v < 0 then (v + (n : Int)).toNat else min v.toNat n) : Nat) : Int)
  by_cases hv : v < 0
  · simp only [if_pos hv]; omega
  · simp only [if_neg hv]; omega
theorem adjust_gen (lo hi : Option Int) (n : Nat) : Builtin.Slice.sliceAdjust lo hi 1 (n : Int) = (((sIx n 0 lo : Nat) : Int), ((sIx n n hi : Nat) : Int)) := by
  have h1 : ¬ ((1 : Int) < 0) := by omega
  unfold Builtin.Slice.sliceAdjust
  simp only [h1, if_false]
  refine Prod.ext ?_ ?_
  · cases lo with
    | none => rfl
    | some v => exact clip_eq v n 0
  · cases hi with
    | none => rfl
    | some v => exact clip_eq v n n
theorem places_gen (i j : Nat) : Builtin.Slice.slicePlaces (i : Int) (j : Int) 1 = j - i := by
  unfold Builtin.Slice.slicePlaces
  have h1 : (1 : Int) > 0 := by omega
  simp only [h1, if_true, Int.ediv_one]
  split <;> omega
theorem slicePart_ {v : Value} {o : Option Int} {Q : Option Int → Shared → Prop} (p : IsPart v o) (h : Q o s) : wpAny (model prog w) A (Builtin.Slice.slicePartIndex v) Q E s := by
  cases p with
  | none => exact slicePart_none h
  | int i t => exact slicePart_int h
theorem sliceApplied_gen {sl : Addr} {vl vu : Value} {lo hi : Option Int} {n : Nat} {Q : Int × Int × Nat → Shared → Prop} (hs : s.heap.IsSliceOf sl vl vu .none) (pl : IsPart vl lo) (pu : IsPart vu hi)
    (h : Q (((sIx n 0 lo : Nat) : Int), 1, sIx n n hi - sIx n 0 lo) s) : wpAny (model prog w) A (Builtin.Slice.sliceApplied (.ref sl) (pure (n : Int))) Q E s := by
  obtain ⟨os, hos, hcs, hds⟩ := id hs
  unfold Builtin.Slice.sliceApplied Builtin.Slice.sliceFields
  refine wpAny_bind (wpAny_bind (wpAny_field hos hds (x := vl) rfl (wpAny_bind (wpAny_field hos hds (x := vu) rfl (wpAny_bind (wpAny_field hos hds (x := .none) rfl (wpAny_pure ?_)))))))
  refine wpAny_bind (slicePart_none ?_)
  show wpAny _ _ (if ((1 : Int) == 0) = true then _ else _) _ _ s
  rw [if_neg (by decide)]
  refine wpAny_bind (slicePart_ pl (wpAny_bind (slicePart_ pu (wpAny_bind (wpAny_pure ?_)))))
  show wpAny _ _ (match Builtin.Slice.sliceAdjust lo hi 1 (n : Int) with | (lo, hi) => pure (lo, (1 : Int), Builtin.Slice.slicePlaces lo hi 1)) _ _ s
  rw [adjust_gen lo hi n]
  show wpAny _ _ (pure (((sIx n 0 lo : Nat) : Int), (1 : Int), Builtin.Slice.slicePlaces ((sIx n 0 lo : Nat) : Int) ((sIx n n hi : Nat) : Int) 1)) _ _ s
  rw [places_gen]
  exact wpAny_pure h
theorem pick_gen (xs : Array Value) (i k : Nat) : ((List.range k).filterMap fun (m : Nat) => xs[((i : Int) + (m : Int) * 1).toNat]?).toArray = ((xs.toList.drop i).take k).toArray := by
  have e : (fun (m : Nat) => xs[((i : Int) + (m : Int) * 1).toNat]?) = fun m => xs[i + m]? := by
    funext m
    have : ((i : Int) + (m : Int) * 1).toNat = i + m := by omega
    rw [this]
  rw [e]
  have := pick_run xs i k
  rw [List.filterMap_map] at this
  have e2 : ((fun x => xs[x]?) ∘ fun x => i + x) = fun m => xs[i + m]? := rfl
  rw [e2] at this
  rw [this]

theorem getItem_tuple_cut {t sl : Addr} {items : Array Value} {vl vu : Value} {lo hi : Option Int} {Q : Value → Shared → Prop} (ht : IsTup s.heap t items) (hs : s.heap.IsSliceOf sl vl vu .none) (pl : IsPart vl lo) (pu : IsPart vu hi)
    (hw : ¬ (sIx items.size 0 lo = 0 ∧ sIx items.size items.size hi = items.size))
    (h : Q (.ref s.heap.objs.size) { s with heap := s.heap.push { cls := .type "tuple", data := .seq ((items.toList.drop (sIx items.size 0 lo)).take (sIx items.size items.size hi - sIx items.size 0 lo)).toArray } })
    (hsz : items.size ≤ sizeLine) : wpAny (model prog w) A (getItem (.ref t) (.ref sl)) Q E s := by
  have htake : sizeOk (.seq ((items.toList.drop (sIx items.size 0 lo)).take (sIx items.size items.size hi - sIx items.size 0 lo)).toArray) := by
    show ((items.toList.drop (sIx items.size 0 lo)).take (sIx items.size items.size hi - sIx items.size 0 lo)).toArray.size ≤ sizeLine
    rw [List.size_toArray, List.length_take, List.length_drop, Array.length_toList]
    omega
  have hj : sIx items.size items.size hi ≤ items.size := sIx_le _ _ (Nat.le_refl _) hi
  obtain ⟨os, hos, hcs, hds⟩ := id hs
  have hTs : s.TypeIs (.ref sl) "slice" := ⟨os, hos, hcs⟩
  unfold getItem
  try with_reducible refine wpAny_holding ?_
  first | refine wpAny_bind (wpAny_pure ?_) | skip
  refine wpAny_bind (wpAny_sequenceKey ht.typeIs (by decide) ?_)
  refine wpAny_bind (wpAny_callSpecial?_slot (name := Str.ofString "__getitem__") ht.typeIs PyProof.Rows.slot_tuple_getitem
    (wpAny_call_entry PyProof.Rows.slot_tuple_getitem ht.typeIs entry_tuple_getitem ?_ (args_tuple_getitem _ _)))
  show wpAny _ _ (Builtin.Tuple.tupleItemsOf (.ref t) >>= _) _ _ s
  refine wpAny_bind (tupleItemsOf_ ht ?_)
  refine wpAny_bind (wpAny_typeOf hTs ?_)
  rw [if_pos (by decide)]
  refine wpAny_bind (sliceApplied_gen hs pl pu ?_)
  have hno : ¬ ((((sIx items.size 0 lo : Nat) : Int) == 0 && (1 : Int) == 1 && (sIx items.size items.size hi - sIx items.size 0 lo) == items.size) = true) := by
    intro q
    rw [Bool.and_eq_true, Bool.and_eq_true] at q
    have q1 : ((sIx items.size 0 lo : Nat) : Int) = 0 := eq_of_beq q.1.1
    have q2 : sIx items.size items.size hi - sIx items.size 0 lo = items.size := eq_of_beq q.2
    exact hw ⟨by omega, by omega⟩
  show wpAny _ _ (if (((sIx items.size 0 lo : Nat) : Int) == 0 && (1 : Int) == 1 && (sIx items.size items.size hi - sIx items.size 0 lo) == items.size) = true then _ else _) _ _ s
  rw [if_neg hno, pick_gen]
  first
    | exact wpAny_bind (m := Builtin.Tuple.tupleExact _) (wpAny_newObj_type (wpAny_pure ⟨_, rfl, wpAny_pure h⟩) htake)
    | exact wpAny_bind (m := Builtin.Tuple.tupleExact _) (wpAny_newObj_type (wpAny_bind (wpAny_pure (wpAny_pure ⟨_, rfl, wpAny_pure h⟩))) htake)
    | exact wpAny_bind (wpAny_bind (m := Builtin.Tuple.tupleExact _) (wpAny_newObj_type (wpAny_pure (wpAny_pure ⟨_, rfl, wpAny_pure h⟩)) htake))
    | exact wpAny_bind (wpAny_bind (m := Builtin.Tuple.tupleExact _) (wpAny_newObj_type (wpAny_pure ⟨_, rfl, wpAny_pure h⟩) htake))
end
end HT

namespace L2
open PySem PySem.Spec PyProof.Rows

/-! ### the parts of a slice -/
abbrev TO := St → Hp → (Option Int → Hp → Prop) → Prop
/-- a slice's part (left out, or an int) -/
def PO (X : Cx) (e : Option Expr) (t : TO) : Prop :=
  ∀ (pins : List (Addr × Obj)) (s : Shared) (σ : St) (H : Hp) (Q : Option Int → Hp → Prop), Inv X pins σ H s → t σ H Q →
    wpAny (model X.prog X.w) X.A (evalPart e X.env) (fun u s' => ∃ o H', Inv X pins σ H' s' ∧ IsPart u o ∧ Q o H') X.xe s
def tNoPart : TO := fun _ H Q => Q none H
def tPart (t : TE) : TO := fun σ H Q => t σ H fun x H1 => ∃ i, x = .int i ∧ Q (some i) H1

theorem intsAre_of {ns : List Int} : ∀ {us : List Value}, Vals (ns.map V.int) us → IntsAre us ns := by
  induction ns with
  | nil => intro us r; rw [List.map_nil] at r; cases r; exact .nil
  | cons n ns ih =>
    intro us r
    rw [List.map_cons] at r
    cases r with
    | cons r1 r2 =>
      obtain ⟨t, e⟩ := r1
      subst e
      exact .cons n t (ih r2)

section
variable {X : Cx} {e : Expr} {te : TE} {lo hi : Option Expr} {tl th : TO} {pos p2 : Pos}

theorem po_none : PO X none tNoPart := by
  intro pins s σ H Q I h
  rw [evalPart_none]
  exact wpAny_pure ⟨none, H, I, .none, h⟩
theorem po_some (h : PE X e te) : PO X (some e) (tPart te) := by
  intro pins s σ H Q I hw
  rw [evalPart_some]
  refine thn (h pins s σ H _ I hw) fun u s1 ⟨x, H1, I1, r1, q1⟩ => ?_
  obtain ⟨i, rfl, q⟩ := q1
  obtain ⟨t, rfl⟩ := r1
  exact ⟨some i, H1, I1, .int i t, q⟩

/-- what a slice of a value is, by values: the slice object stands at sl -/
def SlR (X : Cx) (r : V → Option Int → Option Int → Hp → VK → Prop) : Prop :=
  ∀ (pins : List (Addr × Obj)) (s : Shared) (σ : St) (H : Hp) (x : V) (v vl vu : Value) (lo hi : Option Int) (sl : Addr) (Q : VK), Inv X pins σ H s → RelV x v → s.heap.IsSliceOf sl vl vu .none → IsPart vl lo → IsPart vu hi → r x lo hi H Q →
    ∃ T id, typeLookup (.type T) "__getitem__" = pure (some (.builtin id)) ∧ s.TypeIs v T ∧ wpAny (model X.prog X.w) X.A (getItem v (.ref sl)) (EP X pins σ Q) X.xe s
theorem SlR.or {r r' : V → Option Int → Option Int → Hp → VK → Prop} (h : SlR X r) (h' : SlR X r') : SlR X (fun x lo hi H Q => r x lo hi H Q ∨ r' x lo hi H Q) := by
  intro pins s σ H x v vl vu lo hi sl Q I rx hs pl pu q
  rcases q with q | q
  · exact h pins s σ H x v vl vu lo hi sl Q I rx hs pl pu q
  · exact h' pins s σ H x v vl vu lo hi sl Q I rx hs pl pu q
def tSl (r : V → Option Int → Option Int → Hp → VK → Prop) (te : TE) (tl th : TO) : TE := fun σ H Q => te σ H fun x H1 => tl σ H1 fun l H2 => th σ H2 fun u H3 => r x l u H3 Q
/-- a[lo:hi], any a -/
theorem pe_slice {r : V → Option Int → Option Int → Hp → VK → Prop} (hr : SlR X r) (he : PE X e te) (hl : PO X lo tl) (hu : PO X hi th) : PE X (.Subscript e (.Slice lo hi none p2) pos) (tSl r te tl th) := by
  intro pins s σ H Q I h
  refine Subscript_ (thn (he pins s σ H _ I h) fun v s1 ⟨x, H1, I1, r1, q1⟩ => ?_)
  refine wpAny_Slice (thn (hl pins s1 σ H1 _ I1 q1) fun vl s2 ⟨l, H2, I2, pl, q2⟩ => thn (hu pins s2 σ H2 _ I2 q2) fun vu s3 ⟨u, H3, I3, pu, q3⟩ => ?_)
  rw [evalPart_none]
  refine wpAny_pure ?_
  have I4 : Inv X pins σ H3 { s3 with heap := s3.heap.push { cls := .type "slice", data := .fields #[vl, vu, .none] } } := I3.kept (t' := s3.toks) fun b ob q => Heap.get?_push_of_some _ q
  obtain ⟨T, id, hT, ht, hg⟩ := hr pins { s3 with heap := s3.heap.push { cls := .type "slice", data := .fields #[vl, vu, .none] } } σ H3 x v vl vu l u s3.heap.objs.size Q I4 r1 (Heap.IsSliceOf.new ..) pl pu q3
  show wpAny (model X.prog X.w) X.A (subscriptTail e (.Slice lo hi none p2) v (.ref s3.heap.objs.size)) (EP X pins σ Q) X.xe { s3 with heap := s3.heap.push { cls := .type "slice", data := .fields #[vl, vu, .none] } }
  exact tail_any (ops := [.ref s3.heap.objs.size, v]) ht hT hg (by with_unfolding_all rfl)

/-- the items of xs[lo:hi] -/
def cutV (xs : List V) (lo hi : Option Int) : List V := (xs.drop (HT.sIx xs.length 0 lo)).take (HT.sIx xs.length xs.length hi - HT.sIx xs.length 0 lo)
theorem cutV_length (xs : List V) (lo hi : Option Int) : (cutV xs lo hi).length ≤ xs.length := by
  unfold cutV
  rw [List.length_take, List.length_drop]
  omega
/-- t[lo:hi], not the whole of it (the whole would be t itself) -/
def rSlT (K : PySem.W.Frag) : V → Option Int → Option Int → Hp → VK → Prop := fun x lo hi H Q => ∃ a xs, x = .ref a ∧ SqT K H a xs ∧
  ¬ (HT.sIx xs.length 0 lo = 0 ∧ HT.sIx xs.length xs.length hi = xs.length) ∧ ∀ p, H p = none → Q (.ref p) (upd H p (.tup (cutV xs lo hi)))
theorem sl_tup : SlR X (rSlT X.K) := by
  intro pins s σ H x v vl vu lo hi sl Q I rx hs pl pu h
  obtain ⟨a, xs, rfl, hx, hw, q⟩ := h
  cases rx
  obtain ⟨its, r, ht, hz⟩ := I.tuple hx
  have hlen : its.toArray.size = xs.length := by rw [List.size_toArray]; exact r.length.symm
  refine ⟨"tuple", _, PyProof.Rows.slot_tuple_getitem.lookup, ht.typeIs, ?_⟩
  refine HT.getItem_tuple_cut ht hs pl pu (by rw [hlen]; exact hw) ?_ (by rw [hlen]; exact hz)
  rw [hlen]
  refine ⟨.ref s.heap.objs.size, _, I.laid (t' := s.toks) (o := .tup (cutV xs lo hi)) (fun b ob q => Heap.get?_push_of_some _ q) (Nat.le_refl _) ?_, rfl, q _ (I.hok.fresh (Nat.le_refl _))⟩
  exact ⟨Nat.le_trans (cutV_length xs lo hi) hz, _, (r.drop (HT.sIx xs.length 0 lo)).take (HT.sIx xs.length xs.length hi - HT.sIx xs.length 0 lo), IsTup.new _ _⟩

/-! ### t < u, t + u -/
def rLtT (K : PySem.W.Frag) : R2 := fun x y H Q => ∃ a b ns ms, x = .ref a ∧ y = .ref b ∧ SqT K H a (ns.map V.int) ∧ SqT K H b (ms.map V.int) ∧ Q (.bl (HT.lexLt ns ms)) H
theorem op_ltT (hu : X.A.units < cLine) : OpR X (compareOp .Lt) (rLtT X.K) := by
  intro pins s σ H x y v u Q I rx ry h
  obtain ⟨a, b, ns, ms, rfl, rfl, ha, hb, q⟩ := h
  cases rx
  cases ry
  obtain ⟨its, r1, p1, _⟩ := I.tuple ha
  obtain ⟨its2, r2, p2, _⟩ := I.tuple hb
  have i1 : IntsAre its.toArray.toList ns := intsAre_of r1
  have i2 : IntsAre its2.toArray.toList ms := intsAre_of r2
  exact HT.lt_tupInts p1 p2 i1 i2 hu ⟨.bl (HT.lexLt ns ms), H, I, rfl, q⟩
/-- t + u, t not empty: u empty gives t itself -/
def rCatT (K : PySem.W.Frag) : R2 := fun x y H Q => ∃ a b xs ys, x = .ref a ∧ y = .ref b ∧ SqT K H a xs ∧ SqT K H b ys ∧ xs ≠ [] ∧ xs.length + ys.length ≤ sizeLine ∧
  (ys = [] → Q (.ref a) H) ∧ (ys ≠ [] → ∀ p, H p = none → Q (.ref p) (upd H p (.tup (xs ++ ys))))
theorem Vals.nil_iff {xs : List V} {us : List Value} (r : Vals xs us) : us = [] ↔ xs = [] := by
  cases r with
  | nil => simp
  | cons _ _ => simp
theorem op_catT : OpR X (binaryOp .Add) (rCatT X.K) := by
  intro pins s σ H x y v u Q I rx ry h
  obtain ⟨a, b, xs, ys, rfl, rfl, ha, hb, hx, hz, q1, q2⟩ := h
  cases rx
  cases ry
  obtain ⟨its, r1, p1, _⟩ := I.tuple ha
  obtain ⟨its2, r2, p2, _⟩ := I.tuple hb
  refine HT.cat_tup p1 p2 (fun z => hx (r1.nil_iff.mp z)) (fun z => ⟨.ref a, H, I, rfl, q1 (r2.nil_iff.mp z)⟩) (fun z => ?_) (by rw [← r1.length, ← r2.length]; exact hz)
  refine ⟨.ref s.heap.objs.size, _, I.laid (t' := s.toks) (o := .tup (xs ++ ys)) (fun b ob q => Heap.get?_push_of_some _ q) (Nat.le_refl _) ?_, rfl, q2 (fun w => z (r2.nil_iff.mpr w)) _ (I.hok.fresh (Nat.le_refl _))⟩
  exact ⟨by rw [List.length_append]; exact hz, _, r1.append r2, IsTup.new _ _⟩
/-- tuple(t) -/
theorem call_tupleT : CallR X (.type "tuple") (fun xs H Q => ∃ a ys, xs = [.ref a] ∧ SqT X.K H a ys ∧ Q (.ref a) H) := by
  intro pins s σ H xs us Q I r h
  obtain ⟨a, ys, rfl, ha, q⟩ := h
  obtain ⟨u, rfl, ru⟩ := vals1 r
  cases ru
  obtain ⟨its, _, p1, _⟩ := I.tuple ha
  exact call_tuple_same (items := its.toArray) p1 ⟨.ref a, H, I, rfl, q⟩
end
end L2

namespace L2
open PySem PySem.Spec PyProof.Rows

/-! ### places -/
/-- the place that an index of any sign means -/
def ixN (n : Nat) (i : Int) : Option Nat := if 0 ≤ i then (if i < n then some i.toNat else none) else if -(n : Int) ≤ i then some (i + n).toNat else none
def atI {α : Type} (xs : List α) (i : Int) : Option α := (ixN xs.length i).bind fun j => xs[j]?
theorem ixN_seq {n : Nat} {i : Int} {j : Nat} (h : ixN n i = some j) : seqIndex? i n = some j ∧ j < n ∧ -(n : Int) ≤ i ∧ i < n := by
  unfold ixN at h
  by_cases h0 : 0 ≤ i
  · rw [if_pos h0] at h
    by_cases h1 : i < n
    · rw [if_pos h1] at h
      have e : i.toNat = j := Option.some.inj h
      exact ⟨by rw [seqIndex_of h0 h1, e], by omega, by omega, h1⟩
    · rw [if_neg h1] at h; cases h
  · rw [if_neg h0] at h
    by_cases h1 : -(n : Int) ≤ i
    · rw [if_pos h1] at h
      have e : (i + n).toNat = j := Option.some.inj h
      exact ⟨by rw [seqIndex_neg (by omega) h1, e], by omega, h1, by omega⟩
    · rw [if_neg h1] at h; cases h
theorem atI_get {α : Type} {xs : List α} {i : Int} {v : α} (h : atI xs i = some v) : ∃ j, seqIndex? i xs.length = some j ∧ xs[j]? = some v ∧ j < xs.length ∧ -(xs.length : Int) ≤ i ∧ i < xs.length := by
  unfold atI at h
  cases e : ixN xs.length i with
  | none => rw [e] at h; cases h
  | some j =>
    rw [e] at h
    obtain ⟨h1, h2, h3, h4⟩ := ixN_seq e
    exact ⟨j, h1, h, h2, h3, h4⟩
theorem atI_nat {α : Type} {xs : List α} {j : Nat} {v : α} (h : xs[j]? = some v) : atI xs (j : Int) = some v := by
  have hj : j < xs.length := (List.getElem?_eq_some_iff.mp h).1
  have e : ixN xs.length (j : Int) = some j := by
    unfold ixN
    rw [if_pos (by omega), if_pos (by omega)]; simp
  unfold atI; rw [e]; exact h
theorem atI_last {α : Type} (xs : List α) (v : α) : atI (xs ++ [v]) (-1) = some v := by
  have hl : (xs ++ [v]).length = xs.length + 1 := by simp
  have e : ixN (xs ++ [v]).length (-1) = some xs.length := by
    unfold ixN
    rw [hl, if_neg (by decide), if_pos (by omega)]
    congr 1
    omega
  unfold atI
  rw [e]
  show (xs ++ [v])[xs.length]? = some v
  simp

/-! ### what may be subscripted -/
/-- what stands as an index of a plain subscript -/
def PlainIx (b : Expr) : Prop := ∀ o i, subscripted b false o i = operate [o, i] (getItem o i)
/-- a subscript by values -/
def IxR (X : Cx) (r : R2) : Prop :=
  ∀ (value slice : Expr) (pins : List (Addr × Obj)) (s : Shared) (σ : St) (H : Hp) (x y : V) (v u : Value) (Q : VK), Inv X pins σ H s → RelV x v → RelV y u → r x y H Q →
    subscripted slice false v u = operate [v, u] (getItem v u) → wpAny (model X.prog X.w) X.A (subscriptTail value slice v u) (EP X pins σ Q) X.xe s
/-- a call of a builtin's method by values: the receiver, the arguments -/
def MtR (X : Cx) (id : String) (r : V → List V → Hp → VK → Prop) : Prop :=
  ∀ (pins : List (Addr × Obj)) (s : Shared) (σ : St) (H : Hp) (x : V) (xs : List V) (v : Value) (us : List Value) (Q : VK), Inv X pins σ H s → RelV x v → Vals xs us → r x xs H Q →
    wpAny (model X.prog X.w) X.A (call (.builtin id) (v :: us)) (EP X pins σ Q) X.xe s
section
variable {X : Cx} {a b : Expr} {ta tb : TE} {pos : Pos}
theorem IxR.or {r r' : R2} (h : IxR X r) (h' : IxR X r') : IxR X (fun x y H Q => r x y H Q ∨ r' x y H Q) := by
  intro value slice pins s σ H x y v u Q I rx ry q hs
  rcases q with q | q
  · exact h value slice pins s σ H x y v u Q I rx ry q hs
  · exact h' value slice pins s σ H x y v u Q I rx ry q hs
theorem MtR.or {id : String} {r r' : V → List V → Hp → VK → Prop} (h : MtR X id r) (h' : MtR X id r') : MtR X id (fun x xs H Q => r x xs H Q ∨ r' x xs H Q) := by
  intro pins s σ H x xs v us Q I rx rs q
  rcases q with q | q
  · exact h pins s σ H x xs v us Q I rx rs q
  · exact h' pins s σ H x xs v us Q I rx rs q
/-- a[b] -/
theorem pe_ix {r : R2} (hr : IxR X r) (ha : PE X a ta) (hb : PE X b tb) (hs : PlainIx b) : PE X (.Subscript a b pos) (tOp r ta tb) := by
  intro pins s σ H Q I h
  exact Subscript_ (binT ha hb I h fun v u s2 x y H2 I2 rx ry q => hr a b pins s2 σ H2 x y v u Q I2 rx ry q (hs _ _))

def rIxL (K : PySem.W.Frag) : R2 := fun x y H Q => ∃ p xs i v, x = .ref p ∧ y = .int i ∧ SqL K H p xs ∧ atI xs i = some v ∧ Q v H
def rIxT (K : PySem.W.Frag) : R2 := fun x y H Q => ∃ p xs i v, x = .ref p ∧ y = .int i ∧ SqT K H p xs ∧ atI xs i = some v ∧ Q v H
def rIxS : R2 := fun x y H Q => ∃ z i c, x = .str z ∧ y = .int i ∧ z.length ≤ sizeLine ∧ atI z.cps.toList i = some c ∧ Q (.str ⟨#[c]⟩) H
theorem ix_list : IxR X (rIxL X.K) := by
  intro value slice pins s σ H x y v u Q I rx ry h hs
  obtain ⟨p, xs, i, z, rfl, rfl, hq, he, q⟩ := h
  cases rx
  obtain ⟨t, rfl⟩ := ry
  obtain ⟨its, r, pl, hz⟩ := I.list hq
  obtain ⟨j, h1, h2, h3, h4, h5⟩ := atI_get he
  obtain ⟨w, ew, rw'⟩ := r.get h2
  have hl := r.length
  have hn := line63
  have fin : EP X pins σ Q w s := ⟨z, H, I, rw', q⟩
  by_cases h0 : 0 ≤ i
  · have hj : i.toNat = j := by
      rw [seqIndex_of h0 h5] at h1
      exact Option.some.inj h1
    exact item_listR pl.isList h0 (by omega) (by rw [hj]; simpa using ew) fin hs
  · have hj : (i + (its.toArray.size : Int)).toNat = j := by
      rw [seqIndex_neg (by omega) h4] at h1
      rw [List.size_toArray, ← hl]
      exact Option.some.inj h1
    exact subscriptTail_builtinR (x := w) pl.isList.typeIs slot_list_getitem.lookup
      (wpAny_getItem_list_neg (Q := fun r s' => r = w ∧ EP X pins σ Q r s') pl.isList (by omega) (by rw [List.size_toArray] <;> omega) (by omega) (by rw [hj]; simpa using ew) ⟨rfl, fin⟩) hs
theorem ix_tup : IxR X (rIxT X.K) := by
  intro value slice pins s σ H x y v u Q I rx ry h hs
  obtain ⟨p, xs, i, z, rfl, rfl, hq, he, q⟩ := h
  cases rx
  obtain ⟨t, rfl⟩ := ry
  obtain ⟨its, r, pl, hz⟩ := I.tuple hq
  obtain ⟨j, h1, h2, h3, h4, h5⟩ := atI_get he
  obtain ⟨w, ew, rw'⟩ := r.get h2
  have hl := r.length
  have hn := line63
  have fin : EP X pins σ Q w s := ⟨z, H, I, rw', q⟩
  exact subscriptTail_builtinR (x := w) pl.typeIs slot_tuple_getitem.lookup
    (getItem_tuple (j := j) (Q := fun r s' => r = w ∧ EP X pins σ Q r s') pl (by omega) (by omega) (by rw [List.size_toArray, ← hl]; exact h1) (by simpa using ew) ⟨rfl, fin⟩) hs
theorem ix_str : IxR X rIxS := by
  intro value slice pins s σ H x y v u Q I rx ry h hs
  obtain ⟨z, i, c, rfl, rfl, hz, he, q⟩ := h
  obtain ⟨t, rfl⟩ := rx
  obtain ⟨t', rfl⟩ := ry
  obtain ⟨j, h1, h2, h3, h4, h5⟩ := atI_get he
  have hl : z.cps.toList.length = z.length := by simp [Str.length]
  rw [hl] at h1 h4 h5
  have hn := line63
  exact tail_any (typeIs_str s z t) slot_str_getitem.lookup (getItem_str (c := c) (by
    have e1 : decide (i < -(2 ^ 63 : Int)) = false := decide_eq_false (by omega)
    have e2 : decide (i ≥ 2 ^ 63) = false := decide_eq_false (by omega)
    rw [e1, e2, Bool.or_false]) (by rw [h1]; simpa using h2) ⟨.str ⟨#[c]⟩, H, I.tok _, ⟨_, rfl⟩, q⟩) hs
/-- list, tuple or str -/
def rIx (K : PySem.W.Frag) : R2 := fun x y H Q => rIxL K x y H Q ∨ rIxT K x y H Q ∨ rIxS x y H Q
theorem ix_seq : IxR X (rIx X.K) := ix_list.or (ix_tup.or ix_str)

/-! ### xs[i] = v, any sign -/
/-- the list's object behind a store -/
theorem mapSeq_set (its : List Value) (n j : Nat) (u : Value) : Obj.mapSeq (·.setIfInBounds j u) { cls := .type "list", data := .seq its.toArray n } = { cls := .type "list", data := .seq (its.set j u).toArray n } := by
  simp [Obj.mapSeq]
theorem Inv.lst {pins : List (Addr × Obj)} {σ : St} {H : Hp} {s : Shared} {p : Addr} {xs : List V} (I : Inv X pins σ H s) (h : H p = some (.lst xs)) :
    ∃ (its : List Value) (n : Nat), Vals xs its ∧ s.heap.get? p = some { cls := .type "list", data := .seq its.toArray n } ∧ xs.length ≤ sizeLine := by
  obtain ⟨z, its, n, r, e⟩ := I.hok p _ h
  exact ⟨its, n, r, e, z⟩
/-- the list at p is written by an update of its object -/
theorem Inv.lstUpd {pins : List (Addr × Obj)} {σ : St} {H : Hp} {s : Shared} {p : Addr} {xs ys : List V} {its its' : List Value} {n n' : Nat} {f : Obj → Obj} (I : Inv X pins σ H s) (h : H p = some (.lst xs))
    (ho : s.heap.get? p = some { cls := .type "list", data := .seq its.toArray n }) (hf : f { cls := .type "list", data := .seq its.toArray n } = { cls := .type "list", data := .seq its'.toArray n' }) (r : Vals ys its') (hz : ys.length ≤ sizeLine) (t : Nat) :
    Inv X pins σ (upd H p (.lst ys)) { s with heap := s.heap.update p f, toks := t } := by
  have e : (s.heap.update p f).get? p = some { cls := .type "list", data := .seq its'.toArray n' } := by
    rw [Heap.get?_update_self f ho (by rw [hf] <;> rfl), hf]
  refine I.write (x := p) (e := p) (by rw [h]; trivial) (.inl rfl) (fun b u hb q => (Heap.get?_update_other _ _ (Ne.symm hb)).trans q) ⟨_, e⟩ ?_
  exact ⟨hz, its', n', r, e⟩
def rSetL : V → V → V → Hp → (Hp → Prop) → Prop := fun o i v H Q => ∃ p xs k j, o = .ref p ∧ i = .int k ∧ H p = some (.lst xs) ∧ ixN xs.length k = some j ∧ Q (upd H p (.lst (xs.set j v)))
theorem set_list : PSet X rSetL := by
  intro pins s σ H o i v ov iv u Q I ro ri rv h
  obtain ⟨p, xs, k, j, rfl, rfl, hp, hj, q⟩ := h
  cases ro
  obtain ⟨t, rfl⟩ := ri
  obtain ⟨its, n, r, ho, hz⟩ := I.lst hp
  obtain ⟨h1, h2, h3, h4⟩ := ixN_seq hj
  have hl := r.length
  have hn := line63
  have I' : Inv X pins σ (upd H p (.lst (xs.set j v))) { s with heap := s.heap.update p (Obj.mapSeq (·.setIfInBounds j u)) } :=
    I.lstUpd hp ho (mapSeq_set its n j u) (r.set rv j) (by rw [List.length_set]; exact hz) s.toks
  by_cases h0 : 0 ≤ k
  · have hk : k.toNat = j := by
      rw [seqIndex_of h0 h4] at h1
      exact Option.some.inj h1
    exact PySem.W.ki_setAt ho h0 (by omega) (by rw [List.size_toArray, ← hl]; exact h4) (by rw [hk]; exact ⟨_, I', q⟩)
  · have hk : (k + (its.toArray.size : Int)).toNat = j := by
      rw [seqIndex_neg (by omega) h3] at h1
      rw [List.size_toArray, ← hl]
      exact Option.some.inj h1
    exact PySem.W.ki_setBack ho (by omega) (by rw [List.size_toArray, ← hl]; exact h3) (by omega) (by rw [hk]; exact ⟨_, I', q⟩)

/-! ### slices -/
theorem slice_bounds (lo hi : Option Int) (n : Nat) : (sliceBounds lo hi none n).1 = ((HT.sIx n 0 lo : Nat) : Int) ∧ (sliceBounds lo hi none n).2.1 = ((HT.sIx n n hi : Nat) : Int) ∧ (sliceBounds lo hi none n).2.2 = 1 := by
  refine ⟨?_, ?_, rfl⟩
  · cases lo with
    | none => simp [sliceBounds, HT.sIx]
    | some i =>
      simp only [sliceBounds, HT.sIx, Option.getD_none, show (1 : Int) > 0 by decide, if_true]
      by_cases h : i < 0
      · simp only [h, if_true] <;> omega
      · simp only [h, if_false] <;> omega
  · cases hi with
    | none => simp [sliceBounds, HT.sIx]
    | some i =>
      simp only [sliceBounds, HT.sIx, Option.getD_none, show (1 : Int) > 0 by decide, if_true]
      by_cases h : i < 0
      · simp only [h, if_true] <;> omega
      · simp only [h, if_false] <;> omega
theorem slicePick_cut (its : List Value) (lo hi : Option Int) : slicePick its.toArray lo hi none = ((its.drop (HT.sIx its.length 0 lo)).take (HT.sIx its.length its.length hi - HT.sIx its.length 0 lo)).toArray := by
  obtain ⟨h1, h2, h3⟩ := slice_bounds lo hi its.toArray.size
  unfold slicePick
  rw [h1, h2, h3]
  simp only [sliceRange_one, pick_run, List.size_toArray] <;> rfl
/-- xs[lo:hi] of a list: a new list -/
def rSlL (K : PySem.W.Frag) : V → Option Int → Option Int → Hp → VK → Prop := fun x lo hi H Q => ∃ a xs, x = .ref a ∧ SqL K H a xs ∧ ∀ p, H p = none → Q (.ref p) (upd H p (.lst (cutV xs lo hi)))
theorem sl_list : SlR X (rSlL X.K) := by
  intro pins s σ H x v vl vu lo hi sl Q I rx hs pl pu h
  obtain ⟨a, xs, rfl, hx, q⟩ := h
  cases rx
  obtain ⟨its, r, ht, hz⟩ := I.list hx
  have hlen := r.length
  refine ⟨"list", _, slot_list_getitem.lookup, ht.isList.typeIs, ?_⟩
  refine wpAny_getItem_list_slice ht.isList hs pl pu .none (by simp) ?_ (by rw [List.size_toArray] <;> omega)
  rw [slicePick_cut, ← hlen]
  refine ⟨.ref s.heap.objs.size, _, I.laid (t' := s.toks) (o := .lst (cutV xs lo hi)) (fun b ob q => Heap.get?_push_of_some _ q) (Nat.le_refl _) ?_, rfl, q _ (I.hok.fresh (Nat.le_refl _))⟩
  exact ⟨Nat.le_trans (cutV_length xs lo hi) hz, _, 0, (r.drop (HT.sIx xs.length 0 lo)).take (HT.sIx xs.length xs.length hi - HT.sIx xs.length 0 lo), Heap.get?_push_size _ rfl⟩

/-! ### in, not in: flat items -/
def flatV : V → Bool
  | .non => true
  | .bl _ => true
  | .int _ => true
  | .str _ => true
  | _ => false
/-- == of flat values -/
def eqV : V → V → Bool
  | .non, .non => true
  | .bl a, .bl b => a == b
  | .bl a, .int b => (if a then 1 else 0) == b
  | .int a, .bl b => a == (if b then 1 else 0)
  | .int a, .int b => a == b
  | .str a, .str b => a == b
  | _, _ => false
theorem eqAt_V {A : Around} {s : Shared} {y x : V} {u v : Value} (ry : RelV y u) (rx : RelV x v) (fy : flatV y = true) (fx : flatV x = true) : SeqAt.EqAt A s u v (eqV y x) := by
  cases y with
  | non =>
    cases ry
    cases x with
    | non => cases rx; exact SeqAt.EqAt.same _
    | bl b => cases rx; exact SeqAt.EqAt.none_bool b
    | int b => obtain ⟨t, rfl⟩ := rx; exact SeqAt.EqAt.none_int b t
    | str b => obtain ⟨t, rfl⟩ := rx; exact SeqAt.EqAt.none_str b t
    | _ => exact absurd (show false = true from fx) Bool.false_ne_true
  | bl a =>
    cases ry
    cases x with
    | non => cases rx; exact SeqAt.EqAt.bool_none a
    | bl b => cases rx; exact SeqAt.EqAt.bool_bool a b
    | int b => obtain ⟨t, rfl⟩ := rx; exact SeqAt.EqAt.bool_int a b t
    | str b => obtain ⟨t, rfl⟩ := rx; exact SeqAt.EqAt.bool_str a b t
    | _ => exact absurd (show false = true from fx) Bool.false_ne_true
  | int a =>
    obtain ⟨t', rfl⟩ := ry
    cases x with
    | non => cases rx; exact SeqAt.EqAt.int_none a t'
    | bl b => cases rx; exact SeqAt.EqAt.int_bool a t' b
    | int b => obtain ⟨t, rfl⟩ := rx; exact SeqAt.EqAt.int_int a t' b t
    | str b => obtain ⟨t, rfl⟩ := rx; exact SeqAt.EqAt.int_str a t' b t
    | _ => exact absurd (show false = true from fx) Bool.false_ne_true
  | str a =>
    obtain ⟨t', rfl⟩ := ry
    cases x with
    | non => cases rx; exact SeqAt.EqAt.str_none a t'
    | bl b => cases rx; exact SeqAt.EqAt.str_bool a t' b
    | int b => obtain ⟨t, rfl⟩ := rx; exact SeqAt.EqAt.str_int a t' b t
    | str b => obtain ⟨t, rfl⟩ := rx; exact SeqAt.EqAt.str_str a t' b t
    | _ => exact absurd (show false = true from fx) Bool.false_ne_true
  | _ => exact absurd (show false = true from fy) Bool.false_ne_true
/-- the items' answers, read off the values (a value's own answer does not lean on its token) -/
def eqU (x : V) (u : Value) : Bool := match u with
  | .none => eqV .non x
  | .bool b => eqV (.bl b) x
  | .int i _ => eqV (.int i) x
  | .str z _ => eqV (.str z) x
  | _ => false
theorem eqU_of {x y : V} {u : Value} (r : RelV y u) (f : flatV y = true) : eqU x u = eqV y x := by
  cases y with
  | non => cases r; rfl
  | bl b => cases r; rfl
  | int i => obtain ⟨t, rfl⟩ := r; rfl
  | str z => obtain ⟨t, rfl⟩ := r; rfl
  | _ => exact absurd (show false = true from f) Bool.false_ne_true
theorem any_eqU {x : V} : ∀ {xs : List V} {us : List Value}, Vals xs us → xs.all flatV = true → us.any (eqU x) = xs.any fun y => eqV y x
  | _, _, .nil, _ => rfl
  | y :: xs, u :: us, .cons r t, f => by
    rw [List.all_cons, Bool.and_eq_true] at f
    rw [List.any_cons, List.any_cons, eqU_of r f.1, any_eqU t f.2]
theorem mem_eqAt {A : Around} {s : Shared} {x : V} {v : Value} (rx : RelV x v) (fx : flatV x = true) : ∀ {xs : List V} {us : List Value}, Vals xs us → xs.all flatV = true → ∀ u ∈ us, SeqAt.EqAt A s u v (eqU x u)
  | _, _, .nil, _ => fun u hu => by cases hu
  | y :: xs, u :: us, .cons r t, f => fun u' hu => by
    rw [List.all_cons, Bool.and_eq_true] at f
    rcases List.mem_cons.mp hu with rfl | hu
    · rw [eqU_of r f.1]; exact eqAt_V r rx f.1 fx
    · exact mem_eqAt rx fx t f.2 u' hu
def inV (x : V) (xs : List V) : Bool := xs.any fun y => eqV y x
/-- x in a list or tuple of flat items -/
def rIn (K : PySem.W.Frag) (neg : Bool) : R2 := fun x y H Q => ∃ p xs, y = .ref p ∧ (SqL K H p xs ∨ SqT K H p xs) ∧ flatV x = true ∧ xs.all flatV = true ∧ Q (.bl (if neg then !inV x xs else inV x xs)) H
theorem op_in_seq : OpR X (compareOp .In) (rIn X.K false) := by
  intro pins s σ H x y v u Q I rx ry h
  obtain ⟨p, xs, rfl, hq, fx, fs, q⟩ := h
  cases ry
  rcases hq with hq | hq
  · obtain ⟨its, r, pl, hz⟩ := I.list hq
    refine SeqAt.in_listAt (eqU x) pl.isList (fun w hw => mem_eqAt rx fx r fs w (by simpa using hw)) ⟨.bl _, H, I, rfl, ?_⟩
    rw [show its.toArray.any (eqU x) = its.any (eqU x) by simp, any_eqU r fs]
    exact q
  · obtain ⟨its, r, pl, hz⟩ := I.tuple hq
    refine SeqAt.in_tupleAt (eqU x) pl (fun w hw => mem_eqAt rx fx r fs w (by simpa using hw)) ⟨.bl _, H, I, rfl, ?_⟩
    rw [show its.toArray.any (eqU x) = its.any (eqU x) by simp, any_eqU r fs]
    exact q
theorem op_notIn_seq : OpR X (compareOp .NotIn) (rIn X.K true) := by
  intro pins s σ H x y v u Q I rx ry h
  obtain ⟨p, xs, rfl, hq, fx, fs, q⟩ := h
  cases ry
  rcases hq with hq | hq
  · obtain ⟨its, r, pl, hz⟩ := I.list hq
    refine SeqAt.notIn_listAt (eqU x) pl.isList (fun w hw => mem_eqAt rx fx r fs w (by simpa using hw)) ⟨.bl _, H, I, rfl, ?_⟩
    rw [show its.toArray.any (eqU x) = its.any (eqU x) by simp, any_eqU r fs]
    exact q
  · obtain ⟨its, r, pl, hz⟩ := I.tuple hq
    refine SeqAt.notIn_tupleAt (eqU x) pl (fun w hw => mem_eqAt rx fx r fs w (by simpa using hw)) ⟨.bl _, H, I, rfl, ?_⟩
    rw [show its.toArray.any (eqU x) = its.any (eqU x) by simp, any_eqU r fs]
    exact q
theorem op_notIn_str : OpR X (compareOp .NotIn) (fun x y H Q => ∃ i j, x = .str i ∧ y = .str j ∧ Q (.bl (!(!(Builtin.Str.occurrences j i 0 j.length 1).isEmpty))) H) := by
  intro pins s σ H x y v u Q I rx ry h
  obtain ⟨i, j, rfl, rfl, q⟩ := h
  obtain ⟨t, rfl⟩ := rx
  obtain ⟨t', rfl⟩ := ry
  exact notIn_str ⟨.bl _, H, I, rfl, q⟩

/-! ### len, list(x), tuple(x) of any list or tuple that is read -/
theorem call_len_seq : CallR X (.builtin "len") (fun xs H Q => ∃ p ys, xs = [.ref p] ∧ (SqL X.K H p ys ∨ SqT X.K H p ys) ∧ Q (.int ys.length) H) := by
  intro pins s σ H xs us Q I r h
  obtain ⟨p, ys, rfl, hq, q⟩ := h
  obtain ⟨u, rfl, rx⟩ := vals1 r
  cases rx
  have hn := line63
  rcases hq with hq | hq
  · obtain ⟨its, r', pl, hz⟩ := I.list hq
    have hlen := r'.length
    exact Calls.call_len_list pl.isList (by simp only [List.size_toArray] <;> omega) ⟨.int ys.length, H, I.tok _, ⟨s.toks + 1, by rw [List.size_toArray, hlen]⟩, q⟩
  · obtain ⟨its, r', pl, hz⟩ := I.tuple hq
    have hlen := r'.length
    exact len_tuple pl (by simp only [List.size_toArray] <;> omega) ⟨.int ys.length, H, I.tok _, ⟨s.toks + 1, by rw [List.size_toArray, hlen]⟩, q⟩
theorem call_len_str : CallR X (.builtin "len") (fun xs H Q => ∃ z, xs = [.str z] ∧ z.length ≤ sizeLine ∧ Q (.int z.length) H) := by
  intro pins s σ H xs us Q I r h
  obtain ⟨z, rfl, hz, q⟩ := h
  obtain ⟨u, rfl, t, rfl⟩ := vals1 r
  have hn := line63
  exact len_str (by omega) ⟨.int z.length, H, I.tok _, ⟨_, rfl⟩, q⟩
theorem CallR.or {f : Value} {r r' : List V → Hp → VK → Prop} (h : CallR X f r) (h' : CallR X f r') : CallR X f (fun xs H Q => r xs H Q ∨ r' xs H Q) := by
  intro pins s σ H xs us Q I rs q
  rcases q with q | q
  · exact h pins s σ H xs us Q I rs q
  · exact h' pins s σ H xs us Q I rs q
theorem call_list_of : CallR X (.type "list") (fun xs H Q => ∃ p ys, xs = [.ref p] ∧ (SqL X.K H p ys ∨ SqT X.K H p ys) ∧ ∀ l, H l = none → Q (.ref l) (upd H l (.lst ys))) := by
  intro pins s σ H xs us Q I r h
  obtain ⟨p, ys, rfl, hq, q⟩ := h
  obtain ⟨u, rfl, rx⟩ := vals1 r
  cases rx
  have fin : ∀ (its : List Value), Vals ys its → ys.length ≤ sizeLine → ∀ (h' : Heap) (c' : Nat), (∀ b o', s.heap.get? b = some o' → h'.get? b = some o') →
      h'.get? s.heap.objs.size = some { cls := .type "list", dict := none, data := .seq its.toArray c', slots := #[] } → EP X pins σ Q (.ref s.heap.objs.size) { s with heap := h' } := fun its r' hz h' c' kp e =>
    ⟨.ref s.heap.objs.size, _, I.laid (t' := s.toks) kp (Nat.le_refl _) (show ObjOk X.prog X.w _ h' _ (.lst ys) from ⟨hz, its, c', r', e⟩), rfl, q _ (I.hok.fresh (Nat.le_refl _))⟩
  rcases hq with hq | hq
  · obtain ⟨its, r', pl, hz⟩ := I.list hq
    have hlen := r'.length
    obtain ⟨o, ho, hc, n, hd⟩ := pl.isList
    exact call_list_seq p (.inl rfl) ho hc hd (fun h' c' kp e => fin its r' hz h' c' kp e) (by simp only [List.size_toArray] <;> omega)
  · obtain ⟨its, r', pl, hz⟩ := I.tuple hq
    have hlen := r'.length
    obtain ⟨o, ho, hc, n, hd⟩ := pl
    exact call_list_seq p (.inr rfl) ho hc hd (fun h' c' kp e => fin its r' hz h' c' kp e) (by simp only [List.size_toArray] <;> omega)
theorem call_tuple_of : CallR X (.type "tuple") (fun xs H Q => ∃ p ys, xs = [.ref p] ∧ ((SqL X.K H p ys ∧ ∀ l, H l = none → Q (.ref l) (upd H l (.tup ys))) ∨ (SqT X.K H p ys ∧ Q (.ref p) H))) := by
  intro pins s σ H xs us Q I r h
  obtain ⟨p, ys, rfl, h⟩ := h
  obtain ⟨u, rfl, rx⟩ := vals1 r
  cases rx
  rcases h with ⟨hq, q⟩ | ⟨hq, q⟩
  · obtain ⟨its, r', pl, hz⟩ := I.list hq
    have hlen := r'.length
    refine call_tuple_list pl.isList (fun h' kp => ?_) (by simp only [List.size_toArray] <;> omega)
    have I1 : Inv X pins σ H { s with heap := h' } := I.kept (t' := s.toks) kp
    have I2 : Inv X pins σ (upd H h'.objs.size (.tup ys)) { s with heap := h'.push { cls := .type "tuple", data := .seq its.toArray } } :=
      I1.laid (t' := s.toks) (fun b o e => Heap.get?_push_of_some _ e) (Nat.le_refl _) (show ObjOk X.prog X.w _ _ _ (.tup ys) from ⟨hz, its, r', IsTup.new _ _⟩)
    exact ⟨.ref h'.objs.size, _, I2, rfl, q _ (I1.hok.fresh (Nat.le_refl _))⟩
  · obtain ⟨its, r', pl, hz⟩ := I.tuple hq
    exact call_tuple_same pl ⟨.ref p, H, I, rfl, q⟩

/-! ### the call of a builtin's method: o.m(..) -/
/-- the value is of that builtin type -/
def tyV (K : PySem.W.Frag) (T : String) (x : V) (H : Hp) : Prop := match x with
  | .str _ => T = "str"
  | .int _ => T = "int"
  | .ref p => (T = "list" ∧ ∃ xs, SqL K H p xs) ∨ (T = "tuple" ∧ ∃ o, K.lookup p = some o ∧ o.cls = .type "tuple" ∧ o.dict = none) ∨
      (T = "dict" ∧ ((∃ kvs, H p = some (.dK kvs)) ∨ ∃ kvs, H p = some (.dT kvs))) ∨ (T = "set" ∧ ∃ S n, H p = some (.set S n))
  | _ => False
theorem tyV_is {pins : List (Addr × Obj)} {σ : St} {H : Hp} {s : Shared} {T : String} {x : V} {v : Value} (I : Inv X pins σ H s) (r : RelV x v) (ty : tyV X.K T x H) :
    s.TypeIs v T ∧ ∀ a, v = .ref a → ∃ ob, s.heap.get? a = some ob ∧ ob.dict = none := by
  cases x with
  | str z =>
    obtain ⟨t, rfl⟩ := r
    cases (show T = "str" from ty)
    exact ⟨typeIs_str s z t, fun _ e => nomatch e⟩
  | int i =>
    obtain ⟨t, rfl⟩ := r
    cases (show T = "int" from ty)
    exact ⟨typeIs_int s i t, fun _ e => nomatch e⟩
  | ref p =>
    cases r
    rcases ty with ⟨rfl, xs, hq⟩ | ⟨rfl, o, hk, hc, hd⟩ | ⟨rfl, hk⟩ | ⟨rfl, S, n, hk⟩
    · obtain ⟨its, _, pl, _⟩ := I.list hq
      refine ⟨pl.isList.typeIs, fun a e => ?_⟩
      cases e
      obtain ⟨o, n, e, c, hd, _⟩ := pl
      exact ⟨o, e, hd⟩
    · refine ⟨⟨o, I.kIn p o hk, hc⟩, fun a e => ?_⟩
      cases e
      exact ⟨o, I.kIn _ o hk, hd⟩
    · have z : ∃ o, s.heap.get? p = some o ∧ o.ExactDict := by
        rcases hk with ⟨kvs, hk⟩ | ⟨kvs, hk⟩
        · obtain ⟨_, _, _, _, o, _, _, e, ex, _⟩ := I.hok p _ hk
          exact ⟨o, e, ex⟩
        · obtain ⟨_, _, _, _, o, _, _, e, ex, _⟩ := I.hok p _ hk
          exact ⟨o, e, ex⟩
      obtain ⟨o, e, ex⟩ := z
      refine ⟨⟨o, e, ex.1⟩, fun a e2 => ?_⟩
      cases e2
      exact ⟨o, e, ex.2.1⟩
    · obtain ⟨o, _, _, _, e, ex, _⟩ := I.hok p _ hk
      refine ⟨⟨o, e, ex.1⟩, fun a e2 => ?_⟩
      cases e2
      exact ⟨o, e, ex.2.1⟩
  | _ => exact False.elim ty
def tBM0 (K : PySem.W.Frag) (T : String) (r : V → List V → Hp → VK → Prop) (to : TE) : TE := fun σ H Q => to σ H fun x H1 => tyV K T x H1 ∧ r x [] H1 Q
def tBM (K : PySem.W.Frag) (T : String) (r : V → List V → Hp → VK → Prop) (to : TE) (t : TA) : TE := fun σ H Q => to σ H fun x H1 => tyV K T x H1 ∧ t σ H1 fun xs H2 => r x xs H2 Q
variable {o e : Expr} {es : List Expr} {to : TE} {t : TA} {name : Str} {apos cpos : Pos} {T id : String} {r : V → List V → Hp → VK → Prop}
theorem pe_bm0 (pa : PlainAttrs T) (slot : Slot T name id) (hty : typeOf (.builtin id) = pure (.type "method_descriptor")) (hm : MtR X id r) (ho : PE X o to)
    (hbase : attributeBase o name X.env (eval o X.env) = eval o X.env := by rfl) (hline : (apos.endLine == cpos.line) = true := by rfl) : PE X (.Call (.Attribute o name apos) [] [] cpos) (tBM0 X.K T r to) := by
  intro pins s σ H Q I h
  refine wpAny_Call_method0_late hbase hline (thn (ho pins s σ H _ I h) fun v s1 ⟨x, H1, I1, r1, ty, q1⟩ => ?_)
  obtain ⟨h1, h2⟩ := tyV_is I1 r1 ty
  exact ⟨T, id, pa, slot, hty, h1, h2, Calls.callWith_builtin rfl (PySem.evalArgs_none (hm pins s1 σ H1 x [] v [] Q I1 r1 .nil q1))⟩
theorem pe_bm (pa : PlainAttrs T) (slot : Slot T name id) (hty : typeOf (.builtin id) = pure (.type "method_descriptor")) (hm : MtR X id r) (ho : PE X o to) (ha : PA X (e :: es) t)
    (hbase : attributeBase o name X.env (eval o X.env) = eval o X.env := by rfl)
    (hfew : ((backTo cpos (starEach (e :: es) X.env)).all (fun x => !x.1) && (backToKw cpos (keywordEach [] X.env)).all (fun x => x.1.isSome)
      && decide ((e :: es).length + ([] : List Keyword).length + (if ([] : List Keyword).isEmpty then 0 else 1) < 30)) = true := by rfl)
    (hline : (apos.endLine == cpos.line) = true := by rfl) (hs : starEach (e :: es) X.env = (false, eval e X.env) :: starEach es X.env := by rfl) (hplain : (backTo cpos (starEach es X.env)).any (·.1) = false := by rfl) :
    PE X (.Call (.Attribute o name apos) (e :: es) [] cpos) (tBM X.K T r to t) := by
  intro pins s σ H Q I h
  refine wpAny_Call_method_late hbase hfew hline rfl (thn (ho pins s σ H _ I h) fun v s1 ⟨x, H1, I1, r1, ty, q1⟩ => ?_)
  obtain ⟨h1, h2⟩ := tyV_is I1 r1 ty
  refine ⟨T, id, pa, slot, hty, h1, h2, ?_⟩
  have hA := ha cpos pins s1 σ H1 _ I1 q1
  rw [hs] at hA ⊢
  refine Calls.callWith_builtin (by show (false || (backTo cpos (starEach es X.env)).any (·.1)) = false; rw [hplain] <;> rfl) (Calls.evalArgs_plain ?_)
  exact thn hA fun us s2 ⟨vs, H2, I2, r2, q2⟩ => hm pins s2 σ H2 x vs v us Q I2 r1 r2 q2
/- xs.append(e), list.index on a module's tuple .. are MtR facts of 06m -/
end
end L2

namespace L2
open PySem PySem.Spec PyProof.Rows

def MtM (X : Cx) (id : String) (r : V → List V → Hp → VK → Prop) : Prop :=
  ∀ (pins : List (Addr × Obj)) (s : Shared) (σ : St) (H : Hp) (x : V) (xs : List V) (v : Value) (us : List Value) (Q : VK), Inv X pins σ H s → RelV x v → Vals xs us → r x xs H Q →
    wpAny (model X.prog X.w) X.A (call (.builtin id) (v :: us)) (EP X pins σ Q) X.xe s

/-! ### lists of values -/
theorem Vals.one : ∀ {x : V} {us : List Value}, Vals [x] us → ∃ u, us = [u] ∧ RelV x u
  | _, _, .cons r .nil => ⟨_, rfl, r⟩
theorem Vals.two : ∀ {x y : V} {us : List Value}, Vals [x, y] us → ∃ u v, us = [u, v] ∧ RelV x u ∧ RelV y v
  | _, _, _, .cons r (.cons q .nil) => ⟨_, _, rfl, r, q⟩
theorem Vals.zero : ∀ {us : List Value}, Vals [] us → us = []
  | _, .nil => rfl
theorem Vals.dropLast {xs : List V} {us : List Value} (h : Vals xs us) : Vals xs.dropLast us.dropLast := by
  induction h with
  | nil => exact .nil
  | cons r t ih =>
    cases t with
    | nil => exact .nil
    | cons q t' => exact .cons r ih
theorem Vals.eraseIdx : ∀ {xs : List V} {us : List Value} (i : Nat), Vals xs us → Vals (xs.eraseIdx i) (us.eraseIdx i)
  | _, _, _, .nil => .nil
  | _, _, 0, .cons _ t => t
  | _, _, i + 1, .cons r t => .cons r (Vals.eraseIdx i t)
theorem Vals.reverse {xs : List V} {us : List Value} (h : Vals xs us) : Vals xs.reverse us.reverse := by
  induction h with
  | nil => exact .nil
  | cons r t ih => rw [List.reverse_cons, List.reverse_cons]; exact Vals.append ih (.cons r .nil)
theorem Vals.rep {xs : List V} {us : List Value} (h : Vals xs us) : ∀ k : Nat, Vals (List.replicate k xs).flatten (List.replicate k us).flatten
  | 0 => .nil
  | k + 1 => by
    rw [List.replicate_succ, List.replicate_succ, List.flatten_cons, List.flatten_cons]
    exact Vals.append h (Vals.rep h k)
theorem erase_last {α : Type} (l : List α) : l.eraseIdx (l.length - 1) = l.dropLast := by
  induction l with
  | nil => rfl
  | cons a r ih =>
    cases r with
    | nil => rfl
    | cons b r =>
      have e : (a :: b :: r).length - 1 = ((b :: r).length - 1) + 1 := by
        have h1 : (a :: b :: r).length = r.length + 2 := rfl
        have h2 : (b :: r).length = r.length + 1 := rfl
        omega
      rw [e, List.eraseIdx_cons_succ, ih]
      all_goals rfl
theorem len_erase {α : Type} : ∀ (l : List α) (i : Nat), (l.eraseIdx i).length ≤ l.length
  | [], _ => Nat.le_refl _
  | _ :: _, 0 => Nat.le_succ _
  | _ :: r, i + 1 => Nat.succ_le_succ (len_erase r i)
theorem foldl_rep (its : List Value) : ∀ (k : Nat) (acc : List Value),
    List.foldl (fun x1 x2 => x1 ++ x2) acc.toArray (List.replicate k its.toArray) = (acc ++ (List.replicate k its).flatten).toArray
  | 0, acc => by simp
  | k + 1, acc => by
    have e : acc.toArray ++ its.toArray = (acc ++ its).toArray := by simp
    have e2 : (acc ++ its) ++ (List.replicate k its).flatten = acc ++ (List.replicate (k + 1) its).flatten := by
      rw [List.replicate_succ, List.flatten_cons, List.append_assoc]
    rw [← e2, ← foldl_rep its k (acc ++ its), ← e, List.replicate_succ, List.foldl_cons]

section
variable {X : Cx} {pins : List (Addr × Obj)} {σ : St} {H : Hp} {s : Shared} {l b : Addr} {xs ys zs : List V}

/-! ### the two steps: a tracked list is rewritten, a new list is laid -/
theorem Inv.lset {its its' : List Value} {n : Nat} {f : Array Value → Array Value} {t' : Nat} (I : Inv X pins σ H s) (hH : H l = some (.lst xs))
    (e : s.heap.get? l = some { cls := .type "list", data := .seq its.toArray n }) (hf : f its.toArray = its'.toArray) (hv : Vals ys its') (hz : ys.length ≤ sizeLine) :
    Inv X pins σ (upd H l (.lst ys)) { s with heap := s.heap.update l (Obj.mapSeq f), toks := t' } := by
  have q := PySem.IsL.update e f
  rw [hf] at q
  refine I.write (x := l) (e := l) (by rw [hH]; exact trivial) (.inl rfl) (fun b' u hb hu => (Heap.get?_update_other s.heap (Obj.mapSeq f) (Ne.symm hb)).trans hu) ⟨_, q⟩ ?_
  exact ⟨hz, its', _, hv, q⟩
theorem Inv.lnew {its : List Value} {t' : Nat} (I : Inv X pins σ H s) (hv : Vals ys its) (hz : ys.length ≤ sizeLine) :
    Inv X pins σ (upd H s.heap.objs.size (.lst ys)) { s with heap := s.heap.push { cls := .type "list", data := .seq its.toArray }, toks := t' } :=
  I.laid (fun _ _ q => Heap.get?_push_of_some _ q) (Nat.le_refl _) ⟨hz, its, 0, hv, Heap.get?_push_size _ rfl⟩
theorem Inv.fresh (I : Inv X pins σ H s) : H s.heap.objs.size = none := I.hok.fresh (Nat.le_refl _)
theorem Inv.lstM (I : Inv X pins σ H s) (hH : H l = some (.lst xs)) : xs.length ≤ sizeLine ∧ ∃ (its : List Value) (n : Nat), Vals xs its ∧ xs.length = its.length ∧ s.heap.get? l = some { cls := .type "list", data := .seq its.toArray n } := by
  obtain ⟨z, its, n, r, e⟩ := I.hok l _ hH
  exact ⟨z, its, n, r, r.length, e⟩

theorem notLongL {n : Nat} (h : n ≤ sizeLine) : Builtin.List.listTooLong n = false := by
  unfold Builtin.List.listTooLong
  exact decide_eq_false (by omega)
end

section
variable {X : Cx}

/-! ### methods -/
def rAppend : V → List V → Hp → VK → Prop := fun x vs H Q => ∃ l xs y, x = .ref l ∧ vs = [y] ∧ H l = some (.lst xs) ∧ xs.length < sizeLine ∧ Q .non (upd H l (.lst (xs ++ [y])))
theorem mt_append : MtM X "list.append" rAppend := by
  intro pins s σ H x vs v us Q I rx rv h
  obtain ⟨l, xs, y, rfl, rfl, hH, hz, q⟩ := h
  cases rx
  obtain ⟨u, rfl, ru⟩ := rv.one
  obtain ⟨z, its, n, r, hl, e⟩ := I.lstM hH
  refine call_meets F.slot_list_append ⟨_, e, rfl⟩ F.entry_list_append (F.args_list_append_2 _ _) (PySem.list_append l its.toArray n u (by rw [List.size_toArray]; omega)) ⟨e, ?_⟩
  refine ⟨.non, _, I.lset (its' := its ++ [u]) hH e (by simp) (r.append (.cons ru .nil)) ?_, rfl, q⟩
  rw [List.length_append, List.length_singleton]
  omega

def rExtend : V → List V → Hp → VK → Prop := fun x vs H Q => ∃ l b xs zs, x = .ref l ∧ vs = [.ref b] ∧ H l = some (.lst xs) ∧ H b = some (.lst zs) ∧ xs.length + zs.length ≤ sizeLine ∧ Q .non (upd H l (.lst (xs ++ zs)))
theorem mt_extend : MtM X "list.extend" rExtend := by
  intro pins s σ H x vs v us Q I rx rv h
  obtain ⟨l, b, xs, zs, rfl, rfl, hH, hB, hz, q⟩ := h
  cases rx
  obtain ⟨u, rfl, ru⟩ := rv.one
  cases ru
  obtain ⟨z, its, n, r, hl, e⟩ := I.lstM hH
  obtain ⟨z2, its2, n2, r2, hl2, e2⟩ := I.lstM hB
  have hsz : its.toArray.size + its2.toArray.size ≤ sizeLine := by rw [List.size_toArray, List.size_toArray]; omega
  have hlong : ¬ (!its.toArray.isEmpty && Builtin.List.listTooLong (its.toArray.size + its2.toArray.size)) = true := by
    rw [notLongL hsz, Bool.and_false]
    exact Bool.false_ne_true
  refine call_meets F.slot_list_extend ⟨_, e, rfl⟩ F.entry_list_extend (F.args_list_extend_2 _ _)
    (AutoSeq1.list_extend_list_list_0 l its.toArray n b its2.toArray n2 hlong (by rw [List.size_toArray]; omega) (by omega)) ⟨e, e2, ?_⟩
  refine ⟨.non, _, I.lset (its' := its ++ its2) hH e (by simp) (r.append r2) ?_, rfl, q⟩
  rw [List.length_append]
  omega

def rPop : V → List V → Hp → VK → Prop := fun x vs H Q => ∃ l xs y, x = .ref l ∧ vs = [] ∧ H l = some (.lst xs) ∧ xs[xs.length - 1]? = some y ∧ Q y (upd H l (.lst xs.dropLast))
theorem mt_pop : MtM X "list.pop" rPop := by
  intro pins s σ H x vs v us Q I rx rv h
  obtain ⟨l, xs, y, rfl, rfl, hH, hy, q⟩ := h
  cases rx
  have hus := rv.zero
  subst hus
  obtain ⟨z, its, n, r, hl, e⟩ := I.lstM hH
  obtain ⟨u, hu, ru⟩ := r.get hy
  have hy' : its.toArray[its.toArray.size - 1]? = some u := by
    show its.toArray[its.length - 1]? = some u
    rw [← Array.getElem?_toList, ← hl]
    exact hu
  refine call_meets F.slot_list_pop ⟨_, e, rfl⟩ F.entry_list_pop (F.args_list_pop_1 _) (MeetsSeq.list_pop_last l its.toArray n u hy' (by rw [List.size_toArray]; omega)) ⟨e, ?_⟩
  refine ⟨y, _, I.lset (its' := its.dropLast) hH e ?_ r.dropLast ?_, ru, q⟩
  · show its.toArray.eraseIdxIfInBounds (its.toArray.size - 1) = its.dropLast.toArray
    rw [List.size_toArray, List.eraseIdxIfInBounds_toArray, erase_last]
  · rw [List.length_dropLast]
    omega

def rPopAt : V → List V → Hp → VK → Prop := fun x vs H Q => ∃ l xs i k y, x = .ref l ∧ vs = [.int i] ∧ H l = some (.lst xs) ∧ -(2 ^ 63) ≤ i ∧ i < 2 ^ 63 ∧ seqIndex? i xs.length = some k ∧ xs[k]? = some y ∧ Q y (upd H l (.lst (xs.eraseIdx k)))
theorem mt_popAt : MtM X "list.pop" rPopAt := by
  intro pins s σ H x vs v us Q I rx rv h
  obtain ⟨l, xs, i, k, y, rfl, rfl, hH, h1, h2, hk, hy, q⟩ := h
  cases rx
  obtain ⟨u, rfl, ru⟩ := rv.one
  obtain ⟨t, rfl⟩ := ru
  obtain ⟨z, its, n, r, hl, e⟩ := I.lstM hH
  obtain ⟨w, hw, rw'⟩ := r.get hy
  refine call_meets F.slot_list_pop ⟨_, e, rfl⟩ F.entry_list_pop (F.args_list_pop_2 _ _)
    (MeetsSeq.list_pop_at l its.toArray n i t k w (fitsIndex_both h1 h2) (by rw [List.size_toArray, ← hl]; exact hk) (by rw [← Array.getElem?_toList]; exact hw) (by rw [List.size_toArray]; omega)) ⟨e, ?_⟩
  refine ⟨y, _, I.lset (its' := its.eraseIdx k) hH e ?_ (r.eraseIdx k) ?_, rw', q⟩
  · show its.toArray.eraseIdxIfInBounds k = (its.eraseIdx k).toArray
    rw [List.eraseIdxIfInBounds_toArray]
  · have := len_erase xs k
    omega

def rReverse : V → List V → Hp → VK → Prop := fun x vs H Q => ∃ l xs, x = .ref l ∧ vs = [] ∧ H l = some (.lst xs) ∧ Q .non (upd H l (.lst xs.reverse))
theorem mt_reverse : MtM X "list.reverse" rReverse := by
  intro pins s σ H x vs v us Q I rx rv h
  obtain ⟨l, xs, rfl, rfl, hH, q⟩ := h
  cases rx
  have hus := rv.zero
  subst hus
  obtain ⟨z, its, n, r, hl, e⟩ := I.lstM hH
  refine call_meets F.slot_list_reverse ⟨_, e, rfl⟩ F.entry_list_reverse (F.args_list_reverse_1 _) (AutoSeq1.list_reverse_list_0 l its.toArray n (by rw [List.size_toArray]; omega)) ⟨e, ?_⟩
  refine ⟨.non, _, I.lset (its' := its.reverse) hH e (by simp) r.reverse ?_, rfl, q⟩
  rw [List.length_reverse]
  omega

def rClear : V → List V → Hp → VK → Prop := fun x vs H Q => ∃ l xs, x = .ref l ∧ vs = [] ∧ H l = some (.lst xs) ∧ Q .non (upd H l (.lst []))
theorem mt_clear : MtM X "list.clear" rClear := by
  intro pins s σ H x vs v us Q I rx rv h
  obtain ⟨l, xs, rfl, rfl, hH, q⟩ := h
  cases rx
  have hus := rv.zero
  subst hus
  obtain ⟨z, its, n, r, hl, e⟩ := I.lstM hH
  refine call_meets F.slot_list_clear ⟨_, e, rfl⟩ F.entry_list_clear (F.args_list_clear_1 _) (AutoSeq1.list_clear_list_0 l its.toArray n (by rw [List.size_toArray]; omega)) ⟨e, ?_⟩
  exact ⟨.non, _, I.lset (its' := []) (ys := []) hH e rfl .nil (Nat.zero_le _), rfl, q⟩

/-! ### list + list, list += list, list * int -/
def rCat : R2 := fun x y H Q => ∃ l b xs zs, x = .ref l ∧ y = .ref b ∧ H l = some (.lst xs) ∧ H b = some (.lst zs) ∧ xs.length + zs.length ≤ sizeLine ∧ ∀ p, H p = none → Q (.ref p) (upd H p (.lst (xs ++ zs)))
theorem op_cat : OpR X (binaryOp .Add) rCat := by
  intro pins s σ H x y v u Q I rx ry h
  obtain ⟨l, b, xs, zs, rfl, rfl, hH, hB, hz, q⟩ := h
  cases rx
  cases ry
  obtain ⟨z, its, n, r, hl, e⟩ := I.lstM hH
  obtain ⟨z2, its2, n2, r2, hl2, e2⟩ := I.lstM hB
  refine PySem.P.add_list e e2 ?_ (by rw [List.size_toArray, List.size_toArray]; omega)
  have ea : its.toArray ++ its2.toArray = (its ++ its2).toArray := by simp
  rw [ea]
  exact ⟨.ref _, _, I.lnew (t' := s.toks) (r.append r2) (by rw [List.length_append]; omega), rfl, q _ I.fresh⟩
/-- a list times an int (a negative one is nothing) -/
def rRep : R2 := fun x y H Q => ∃ l k xs, x = .ref l ∧ y = .int k ∧ H l = some (.lst xs) ∧ -(2 ^ 63) ≤ k ∧ k < 2 ^ 63 ∧ xs.length * k.toNat ≤ sizeLine ∧
  ∀ p, H p = none → Q (.ref p) (upd H p (.lst (List.replicate k.toNat xs).flatten))
theorem len_rep {α : Type} (xs : List α) (k : Nat) : (List.replicate k xs).flatten.length = k * xs.length := by
  induction k with
  | zero => simp
  | succ k ih => rw [List.replicate_succ, List.flatten_cons, List.length_append, ih, Nat.succ_mul, Nat.add_comm]
theorem op_rep : OpR X (binaryOp .Mult) rRep := by
  intro pins s σ H x y v u Q I rx ry h
  obtain ⟨l, k, xs, rfl, rfl, hH, h1, h2, hz, q⟩ := h
  cases rx
  obtain ⟨t, rfl⟩ := ry
  obtain ⟨z, its, n, r, hl, e⟩ := I.lstM hH
  have hlen : its.toArray.size * k.toNat ≤ sizeLine := by rw [List.size_toArray, ← hl]; exact hz
  have hcap : ¬ its.toArray.size * k.toNat > (2 ^ 63 - 1) / 8 := by
    have : (sizeLine : Nat) ≤ (2 ^ 63 - 1) / 8 := by decide
    omega
  have hfit : ¬ (!Builtin.List.listFitsIndex k) = true := by
    rw [fitsIndex_both h1 h2]
    exact Bool.false_ne_true
  have hlong : ¬ Builtin.List.listTooLong (its.toArray.size * k.toNat) = true := by
    rw [notLongL hlen]
    exact Bool.false_ne_true
  have hnew : List.foldl (fun x1 x2 => x1 ++ x2) #[] (List.replicate (if its.toArray.isEmpty = true then 0 else k.toNat) its.toArray) = (List.replicate k.toNat its).flatten.toArray := by
    have f0 : ∀ m : Nat, List.foldl (fun x1 x2 => x1 ++ x2) #[] (List.replicate m its.toArray) = (List.replicate m its).flatten.toArray := fun m => by
      have := foldl_rep its m []
      rw [List.nil_append] at this
      exact this
    rw [f0]
    cases its with
    | nil => simp
    | cons a r' => rw [if_neg (by simp)]
  refine wpAny_binaryOp_repeat_ref (T := "list") (U := "int") (by decide) ⟨_, e, rfl⟩ (fun s' => typeIs_int s' k t) noFill_list_mul F.fills_int_mul F.slot_int_rmul repeat_list F.slot_int_index.lookup
    (call_meets F.slot_int_rmul (typeIs_int s k t) F.entry_int_rmul (F.args_int_rmul_2 _ _) (int___rmul___int_list k t l its.toArray n)
      ⟨e, rfl, ⟨_, e, rfl⟩, call_meets F.slot_list_mul ⟨_, e, rfl⟩ F.entry_list_mul (F.args_list_mul_2 _ _) (AutoListH.list___mul___list_int_3 l its.toArray n k t hfit hcap hlong) ⟨e, ?_⟩⟩)
  rw [hnew]
  exact ⟨.ref _, _, I.lnew (t' := s.toks) (r.rep k.toNat) (by rw [len_rep, Nat.mul_comm]; exact hz), rfl, q _ I.fresh⟩

/-! ### del xs[i] -/
theorem del_list {pins : List (Addr × Obj)} {s : Shared} {σ : St} {H : Hp} {l : Addr} {xs : List V} {i : Int} {t : Tok} {k : Nat} {Q : Unit → Shared → Prop} (I : Inv X pins σ H s) (hH : H l = some (.lst xs))
    (h1 : -(2 ^ 63) ≤ i) (h2 : i < 2 ^ 63) (hk : seqIndex? i xs.length = some k) (h : ∀ s', Inv X pins σ (upd H l (.lst (xs.eraseIdx k))) s' → Q () s') :
    wpAny (model X.prog X.w) X.A (delItem (.ref l) (.int i t)) Q X.xe s := by
  obtain ⟨z, its, n, r, hl, e⟩ := I.lstM hH
  refine PySem.P.delItem_list (k := k) e (fitsIndex_both h1 h2) (by rw [List.size_toArray, ← hl]; exact hk) (h _ ?_) (by rw [List.size_toArray]; omega)
  refine I.lset (its' := its.eraseIdx k) (t' := s.toks) hH e ?_ (r.eraseIdx k) ?_
  · show its.toArray.eraseIdxIfInBounds k = (its.eraseIdx k).toArray
    rw [List.eraseIdxIfInBounds_toArray]
  · have := len_erase xs k
    omega
end

/-! ### xs[a:b] = ys -/
section
variable {prog : Program} {w : World} {A : Around} {E : Value → Shared → Prop} {s : Shared}
theorem splice_eq (its its2 : List Value) (a c : Nat) : its.toArray.extract 0 a ++ its2.toArray ++ its.toArray.extract c its.toArray.size = (its.take a ++ its2 ++ its.drop c).toArray := by
  apply Array.toList_inj.mp
  first
    | (simp
       exact List.take_of_length_le (by simp))
    | simp [List.take_of_length_le]
    | simp
theorem bounds_run {a c n : Nat} (hac : a ≤ c) (hc : c ≤ n) : sliceBounds (some (a : Int)) (some (c : Int)) none n = ((a : Int), (c : Int), 1) := by
  simp only [sliceBounds, Option.getD_none]
  have h1 : ¬ ((a : Int) < 0) := by omega
  have h2 : ¬ ((c : Int) < 0) := by omega
  simp only [h1, h2, if_false, show (1 : Int) > 0 by decide, if_true]
  congr 1
  · omega
  · congr 1; omega
set_option maxRecDepth 100000 in
/-- list.__setitem__ with a slice of step one and another list -/
theorem setItem_slice {l b sl : Addr} {items new : Array Value} {n n2 : Nat} {vl vu : Value} {a c : Nat} {Q : Unit → Shared → Prop}
    (e : s.heap.get? l = some { cls := .type "list", data := .seq items n }) (e2 : s.heap.get? b = some { cls := .type "list", data := .seq new n2 }) (hne : l ≠ b)
    (hs : s.heap.IsSliceOf sl vl vu .none) (pl : IsPart vl (some (a : Int))) (pu : IsPart vu (some (c : Int))) (hac : a ≤ c) (hc : c ≤ items.size)
    (hsz : items.size + new.size ≤ sizeLine) (h : Q () { s with heap := s.heap.update l (Obj.mapSeq fun xs => xs.extract 0 a ++ new ++ xs.extract c xs.size) }) :
    wpAny (model prog w) A (setItem (.ref l) (.ref sl) (.ref b)) Q E s := by
  have hl : s.heap.IsList l items := PySem.IsL.isList e
  have hb : s.heap.IsList b new := PySem.IsL.isList e2
  obtain ⟨os, hos, hcs, hds⟩ := id hs
  have hTs : s.TypeIs (.ref sl) "slice" := ⟨os, hos, hcs⟩
  have hstep : ¬ ((rawPart none == rawInt 0) = true) := Bool.false_ne_true
  have hsame : Builtin.List.listSameRef (.ref l) (.ref b) = false := by
    unfold Builtin.List.listSameRef
    exact beq_eq_false_iff_ne.mpr hne
  have hmax : (max (a : Int) (c : Int)).toNat = c := by omega
  have hz' : ((fun xs : Array Value => xs.extract 0 a ++ new ++ xs.extract c xs.size) items).size ≤ sizeLine + 1 := by
    simp only [Array.size_append, Array.size_extract]
    omega
  unfold setItem
  try with_reducible refine wpAny_holding ?_
  first | refine wpAny_bind (wpAny_pure ?_) | skip
  refine wpAny_bind (wpAny_sequenceKey hl.typeIs (by decide) ?_)
  refine wpAny_bind (wpAny_callSpecial?_slot (name := Str.ofString "__setitem__") hl.typeIs slot_list_setitem
    (wpAny_call_entry slot_list_setitem hl.typeIs entry_list_setitem ?_ (args_list_setitem _ _ _)))
  show wpAny _ _ (Builtin.List.listSubscript? (.ref sl) >>= _) _ _ s
  refine wpAny_bind ?_
  unfold Builtin.List.listSubscript?
  refine wpAny_bind (wpAny_specialOf hTs slice_no_index ?_)
  simp only [Option.isNone_none, if_true]
  refine wpAny_pure ?_
  show wpAny _ _ (typeOf (.ref sl) >>= _) _ _ s
  refine wpAny_bind (wpAny_typeOf hTs ?_)
  first
    | rw [if_neg (by decide)]
    | refine PySem.W.KFB.if_not (by decide) ?_
  rw [listSliceParts_eq]
  refine wpAny_bind (wpAny_bind (wpAny_field hos hds (x := .none) rfl (wpAny_bind (wpAny_listPart .none ?_))))
  rw [if_neg hstep]
  refine wpAny_bind (wpAny_field hos hds (x := vl) rfl (wpAny_bind (wpAny_listPart pl ?_)))
  refine wpAny_bind (wpAny_field hos hds (x := vu) rfl (wpAny_bind (wpAny_listPart pu (wpAny_pure ?_))))
  first
    | simp only [hsame, Bool.false_eq_true, if_false]
    | refine PySem.W.KFB.if_not hsame ?_
    | (dsimp only
       rw [if_neg (by rw [hsame]; exact Bool.false_ne_true)])
  refine wpAny_bind (m := Builtin.List.listAllItems (.ref b) "must assign iterable to extended slice") ?_
  unfold Builtin.List.listAllItems
  refine wpAny_bind (wpAny_typeOf hb.typeIs ?_)
  first
    | refine PySem.W.KFB.if_so (by decide) ?_
    | rw [if_pos (by decide)]
    | simp only [beq_self_eq_true, Bool.true_or, if_true]
  unfold Builtin.List.listItems
  refine wpAny_bind (wpAny_seqItems e2 rfl (wpAny_pure ?_))
  refine wpAny_bind (wpAny_bind (wpAny_seqItems e rfl (wpAny_pure ?_)))
  refine wpAny_bind (wpAny_of_eq ((sliceIndices_raw (some (a : Int)) (some (c : Int)) none items.size (by simp)).trans (congrArg (pure : Int × Int × Int → Sem (Int × Int × Int)) (bounds_run hac hc))) ?_)
  show wpAny _ _ (if ((1 : Int) == 1) = true then _ else _) _ _ s
  rw [if_pos (by decide)]
  refine wpAny_bind (wpAny_rule ?_)
  first
    | simp only [notLongL hsz, Bool.false_eq_true, if_false]
    | refine PySem.W.KFB.if_not (notLongL hsz) ?_
  first | refine wpAny_bind (wpAny_pure ?_) | skip
  show wpAny _ _ (updateSeq l (fun xs => xs.extract 0 ((a : Int)).toNat ++ new ++ xs.extract (max (a : Int) (c : Int)).toNat xs.size) >>= _) _ _ s
  rw [hmax, Int.toNat_natCast]
  refine wpAny_bind (wpAny_updateSeq (hz := Nat.le_trans (Nat.le_add_right _ _) hsz) (_hz' := hz') e rfl ?_)
  refine wpAny_bind (wpAny_letGo ?_)
  first
    | exact wpAny_bind (wpAny_pure (wpAny_pure ⟨.none, rfl, wpAny_pure h⟩))
    | exact wpAny_pure ⟨.none, rfl, wpAny_pure h⟩
end

section
variable {X : Cx}
/-- xs[a:c] = ys of another list, at the value level: sl is the slice object that was just made -/
theorem set_slice {pins : List (Addr × Obj)} {s : Shared} {σ : St} {H : Hp} {l b sl : Addr} {xs ys : List V} {a c : Int} {vl vu : Value} {Q : Unit → Shared → Prop} (I : Inv X pins σ H s)
    (hH : H l = some (.lst xs)) (hB : H b = some (.lst ys)) (hne : l ≠ b) (hs : s.heap.IsSliceOf sl vl vu .none) (ra : RelV (.int a) vl) (rc : RelV (.int c) vu) (h0 : 0 ≤ a) (hac : a ≤ c) (hc : c ≤ xs.length)
    (hz : xs.length + ys.length ≤ sizeLine) (h : ∀ s', Inv X pins σ (upd H l (.lst (xs.take a.toNat ++ ys ++ xs.drop c.toNat))) s' → Q () s') :
    wpAny (model X.prog X.w) X.A (setItem (.ref l) (.ref sl) (.ref b)) Q X.xe s := by
  obtain ⟨ta, rfl⟩ := ra
  obtain ⟨tc, rfl⟩ := rc
  obtain ⟨z, its, n, r, hl, e⟩ := I.lstM hH
  obtain ⟨z2, its2, n2, r2, hl2, e2⟩ := I.lstM hB
  obtain ⟨a', rfl⟩ := Int.eq_ofNat_of_zero_le h0
  obtain ⟨c', rfl⟩ := Int.eq_ofNat_of_zero_le (Int.le_trans h0 hac)
  simp only [Int.toNat_natCast] at h
  refine setItem_slice (a := a') (c := c') e e2 hne hs (.int _ _) (.int _ _) (by omega) (by rw [List.size_toArray]; omega) (by rw [List.size_toArray, List.size_toArray]; omega) (h _ ?_)
  refine I.lset (its' := its.take a' ++ its2 ++ its.drop c') (t' := s.toks) hH e ?_ (Vals.append (Vals.append (r.take _) r2) (r.drop _)) ?_
  · exact splice_eq its its2 a' c'
  · rw [List.length_append, List.length_append, List.length_take, List.length_drop]
    omega
end
end L2

namespace Att
open PySem PySem.W PySem.Calls PyProof.Rows

/-! ### the script -/
theorem ints_of_wellAll {P : Params} {h : Heap} : ∀ (ns : List Int) (vs : List Value), WellAll P h vs (ns.map WData.int) → IntsAre vs ns := by
  intro ns
  induction ns with
  | nil =>
    intro vs w
    rw [List.map_nil] at w
    cases w
    exact .nil
  | cons n ns ih =>
    intro vs w
    rw [List.map_cons] at w
    cases w with
    | cons a b =>
      cases a
      exact .cons _ _ (ih _ b)

theorem script_of {l : OpenLaw} {n : Nat} (hn : l.most = some n) {P : Params} {h : Heap} {args : List WData} {vals : List Value}
    (hpre : l.row.toRowW.claim.pre args = true) (hwl : WellAll P h vals args) :
    ∃ a vs ns, vals = [Value.ref a] ∧ args = [WData.list (ns.map WData.int)] ∧ h.get? a = some { cls := .type "list", data := .seq vs.toArray } ∧ IntsAre vs ns ∧ ns.length ≤ n := by
  have hsh : WShape.hasAll [] args [.list .int] = true := (pre_splitW hpre).1
  have hc : l.pre.holds [] { args := args } = true := (pre_splitW hpre).2
  obtain ⟨d, r, rfl, h1, h2⟩ := hasAllW_cons hsh
  obtain rfl := hasAllW_nil h2
  obtain ⟨xs, rfl, h3⟩ := hasW_list h1
  obtain ⟨ns, rfl⟩ := items_int h3
  have hlen : ns.length ≤ n := by
    unfold OpenLaw.pre at hc
    have h4 : (WTm.not (.lt (.lit (.int (n : Int))) (.len (.arg 0)))).holds [] { args := [.list (ns.map .int)] } = true := by
      have h4 := (holds_andW hc).1
      rw [hn] at h4
      exact h4
    have h5 := condW_of h4 (w_not (w_lt w_lit (w_len_list (w_arg rfl))))
    rw [List.length_map] at h5
    refine Nat.le_of_not_lt fun q => ?_
    have q' : (n : Int) < ((ns.length : Nat) : Int) := by omega
    first
      | (rw [decide_eq_true q'] at h5; exact absurd h5 (by decide))
      | (simp at h5; omega)
  cases hwl with
  | cons w1 w2 =>
    cases w2
    cases w1 with
    | list ho hall => exact ⟨_, _, ns, rfl, rfl, ho, ints_of_wellAll ns _ hall, hlen⟩

theorem post_true (l : OpenLaw) (args : List WData) : l.row.toRowW.claim.post args (.bool true) args = true :=
  postW_of (r := l.row.toRowW) (X := (true == true))
    (show WShape.has [] (.bool true) .bool = true by first | rfl | decide | simp [WShape.has, WShape.arms, WShape.armsAll])
    (show (WTm.eq .res (.lit (.bool true))).value [] { args := args, res := some (.bool true), after := args } = some (.bool (true == true)) from w_eq_bool (w_res rfl) w_lit) rfl

/-! ### the attachment: holds_open's last premise (the goal 'hc' behind k_head) from a wpAny of the law's body -/
theorem attach {l : OpenLaw} {n : Nat} {q : Program} {loose : List Str} {XP : (Str → Option Value) → Heap → Prop} {YP : World → Heap → Prop} {d : DefRec} {x : Str}
    (hn : l.most = some n) (hdf : d.params.defaults = [])
    (hbind : ∀ pm cd doc v : Value, bindArgs (docDef d.name d.params d.body d.scope pm cd doc) ⟨[v], []⟩ = pure [(x, v)])
    (hx : d.scope.names.lookup x = some .local ∨ d.scope.names.lookup x = some .cell)
    (hk : d.scope.kind = .function) (hco : d.scope.isCoroutine = false) (hgen : d.scope.isGenerator = false)
    (body : ∀ (w : World) (s₀ s₁ s : Shared) (mg mb : Str → Option Value) (fa : Addr) (o : Obj) (pm cd doc : Value) (a : Addr) (vs : List Value) (ns : List Int),
      Ground q loose [] XP w s₀ mg mb s₁.heap → YP w s₁.heap →
      s₁.heap.get? fa = some o → o.data = .func (docDef d.name d.params d.body d.scope pm cd doc) → s₁.heap.CodeRec cd d.name → mg d.name = some (.ref fa) →
      s₁.heap.get? a = some { cls := .type "list", data := .seq vs.toArray } → IntsAre vs ns → ns.length ≤ n →
      s.gens = #[] → s.os = s₁.os →
      Fr s₁.heap s₁.heap.objs.size s.heap (bindL (envOfC d.name d.scope s₁.heap.objs.size fa cd).kindOf [(x, .ref a)] fun _ => none) →
      Cl s₁.heap.objs.size (cellsFrom (s₁.heap.objs.size + 1) d.scope.names []) s.heap (bindC (envOfC d.name d.scope s₁.heap.objs.size fa cd).kindOf [(x, .ref a)] fun _ => none) →
      wpAny (model l.prog w) (callerA.deeper (envOfC d.name d.scope s₁.heap.objs.size fa cd)) (execs d.body (envOfC d.name d.scope s₁.heap.objs.size fa cd))
        (fun f s' => f = .ret (.bool true) ∧ OldK s₁.heap s'.heap ∧ s'.os = s₁.os ∧ AllBare s'.gens) (fun _ _ => False) s) :
    WalkO q loose XP YP l.row.toRowW d [] (fun f vs => PySem.call f vs) := by
  intro w s₀ s₁ mg mb G Y fa o pm cd doc dV kV ho hd hcd hD hmg hg args vals as hpre hlay hrd hwl hlo
  obtain rfl : dV = .none := Dflts.none hD hdf
  obtain rfl : kV = .none := Dflts.noKw hD
  obtain ⟨a, vs, ns, rfl, rfl, hobj, hints, hlen⟩ := script_of hn hpre hwl
  refine enter_call ?_
  refine call_cells_ret (o := o) (by rw [depth_caller]; decide) ho (fd_plain hd) G.T.nolimit hcd (hbind pm cd doc (.ref a)) (fun y hy => ?_) (fun h₁ tk F X => ?_) hco hgen hk
  · obtain rfl : y = (x, Value.ref a) := List.mem_singleton.mp hy
    rcases hx with e | e
    · exact .inl e
    · exact .inr ⟨e, cellsFrom_some _ _ _ (.inl e)⟩
  · refine wpAny_mono (body w s₀ s₁ { s₁ with heap := h₁, toks := tk } mg mb fa o pm cd doc a vs ns G Y ho (fd_plain hd) hcd hmg hobj hints hlen hg rfl F X) (fun f s' hq => ?_) (fun _ _ hq => hq)
    obtain ⟨rfl, h2, h3, h4⟩ := hq
    exact ⟨.inl ⟨.bool true, .bool true, [], rfl, fun _ => rfl, .bool true, post_true l _, fun _ => ⟨List.Pairwise.nil, fun _ hm => (nomatch hm)⟩⟩, h2, h3, h4⟩

/-- the same from a codeAny of the CALL (for a layer whose function contracts speak of calls) -/
theorem attach_call {l : OpenLaw} {n : Nat} {q : Program} {loose : List Str} {XP : (Str → Option Value) → Heap → Prop} {YP : World → Heap → Prop} {d : DefRec}
    (hn : l.most = some n) (hdf : d.params.defaults = [])
    (call : ∀ (w : World) (s₀ s₁ : Shared) (mg mb : Str → Option Value) (fa : Addr) (o : Obj) (pm cd doc : Value) (a : Addr) (vs : List Value) (ns : List Int),
      Ground q loose [] XP w s₀ mg mb s₁.heap → YP w s₁.heap →
      s₁.heap.get? fa = some o → o.data = .func (docDef d.name d.params d.body d.scope pm cd doc) → s₁.heap.CodeRec cd d.name → mg d.name = some (.ref fa) →
      s₁.heap.get? a = some { cls := .type "list", data := .seq vs.toArray } → IntsAre vs ns → ns.length ≤ n → s₁.gens = #[] →
      codeAny (model l.prog w) callerA (.call (.ref fa) ⟨[.ref a], []⟩) (fun r s' => r = .ok (.ret (.bool true)) ∧ OldK s₁.heap s'.heap ∧ s'.os = s₁.os ∧ AllBare s'.gens) s₁) :
    WalkO q loose XP YP l.row.toRowW d [] (fun f vs => PySem.call f vs) := by
  intro w s₀ s₁ mg mb G Y fa o pm cd doc dV kV ho hd hcd hD hmg hg args vals as hpre hlay hrd hwl hlo
  obtain rfl : dV = .none := Dflts.none hD hdf
  obtain rfl : kV = .none := Dflts.noKw hD
  obtain ⟨a, vs, ns, rfl, rfl, hobj, hints, hlen⟩ := script_of hn hpre hwl
  refine enter_call (codeAny_mono (call w s₀ s₁ mg mb fa o pm cd doc a vs ns G Y ho (fd_plain hd) hcd hmg hobj hints hlen hg) fun r s' hq => ?_)
  obtain ⟨rfl, h2, h3, h4⟩ := hq
  exact ⟨.inl ⟨.bool true, .bool true, [], rfl, fun _ => rfl, .bool true, post_true l _, fun _ => ⟨List.Pairwise.nil, fun _ hm => (nomatch hm)⟩⟩, h2, h3, h4⟩

/-- the same where the top left finished generators (o_head chose holds_openN): nothing may have changed at all and no generator may be left -/
theorem attachN {l : OpenLaw} {n : Nat} {q : Program} {loose : List Str} {XP : (Str → Option Value) → Heap → Prop} {YP : World → Heap → Prop} {d : DefRec} {x : Str}
    (hn : l.most = some n) (hdf : d.params.defaults = [])
    (hbind : ∀ pm cd doc v : Value, bindArgs (docDef d.name d.params d.body d.scope pm cd doc) ⟨[v], []⟩ = pure [(x, v)])
    (hx : d.scope.names.lookup x = some .local ∨ d.scope.names.lookup x = some .cell)
    (hk : d.scope.kind = .function) (hco : d.scope.isCoroutine = false) (hgen : d.scope.isGenerator = false)
    (body : ∀ (w : World) (s₀ s₁ s : Shared) (mg mb : Str → Option Value) (fa : Addr) (o : Obj) (pm cd doc : Value) (a : Addr) (vs : List Value) (ns : List Int),
      Ground q loose [] XP w s₀ mg mb s₁.heap → YP w s₁.heap →
      s₁.heap.get? fa = some o → o.data = .func (docDef d.name d.params d.body d.scope pm cd doc) → s₁.heap.CodeRec cd d.name → mg d.name = some (.ref fa) →
      s₁.heap.get? a = some { cls := .type "list", data := .seq vs.toArray } → IntsAre vs ns → ns.length ≤ n →
      s.gens = #[] → s.os = s₁.os →
      Fr s₁.heap s₁.heap.objs.size s.heap (bindL (envOfC d.name d.scope s₁.heap.objs.size fa cd).kindOf [(x, .ref a)] fun _ => none) →
      Cl s₁.heap.objs.size (cellsFrom (s₁.heap.objs.size + 1) d.scope.names []) s.heap (bindC (envOfC d.name d.scope s₁.heap.objs.size fa cd).kindOf [(x, .ref a)] fun _ => none) →
      wpAny (model l.prog w) (callerA.deeper (envOfC d.name d.scope s₁.heap.objs.size fa cd)) (execs d.body (envOfC d.name d.scope s₁.heap.objs.size fa cd))
        (fun f s' => f = .ret (.bool true) ∧ (∀ b o, s₁.heap.get? b = some o → s'.heap.get? b = some o) ∧ s'.os = s₁.os ∧ s'.gens = #[]) (fun _ _ => False) s) :
    WalkN q loose XP YP l.row.toRowW d [] (fun f vs => PySem.call f vs) := by
  intro w s₀ s₁ mg mb G Y fa o pm cd doc dV kV ho hd hcd hD hmg hg args vals as hpre hlay hrd hwl hlo
  obtain rfl : dV = .none := Dflts.none hD hdf
  obtain rfl : kV = .none := Dflts.noKw hD
  obtain ⟨a, vs, ns, rfl, rfl, hobj, hints, hlen⟩ := script_of hn hpre hwl
  refine enter_callW ?_
  refine call_cells_ret (o := o) (by rw [depth_caller]; decide) ho (fd_plain hd) G.T.nolimit hcd (hbind pm cd doc (.ref a)) (fun y hy => ?_) (fun h₁ tk F X => ?_) hco hgen hk
  · obtain rfl : y = (x, Value.ref a) := List.mem_singleton.mp hy
    rcases hx with e | e
    · exact .inl e
    · exact .inr ⟨e, cellsFrom_some _ _ _ (.inl e)⟩
  · refine wpAny_mono (body w s₀ s₁ { s₁ with heap := h₁, toks := tk } mg mb fa o pm cd doc a vs ns G Y ho (fd_plain hd) hcd hmg hobj hints hlen hg rfl F X) (fun f s' hq => ?_) (fun _ _ hq => hq)
    obtain ⟨rfl, h2, h3, h4⟩ := hq
    exact ⟨.inl ⟨.bool true, .bool true, [], rfl, fun _ => rfl, .bool true, post_true l _, fun _ => ⟨List.Pairwise.nil, fun _ hm => (nomatch hm)⟩⟩, h2, h3, h4⟩

/-! ### rules over ANY heap (no ledger) from facts about the written part K: the library's own take a ledger (News) for what they write -/
section
variable {prog : Program} {w : World} {A : Around} {E : Value → Shared → Prop} {s : Shared} {K : Frag}

/-- a def of the module, or a method (qual 'C.m'), entered: the frame is the next address; cells behind it -/
theorem call_fn {R : Result → Shared → Prop} {name qual : Str} {params : Arguments} {body : List Stmt} {scope : Scope} {dV kV doc pm cdv ct oc : Value} {an od : Option Addr} {osl : Array (Option Value)} {f : Addr} {args : Args} {binds : List (Str × Value)}
    (X : K.In s.heap) (hlim : s.heap.NoLimit) (ho : K.lookup f = some ⟨oc, od, .func (fnOf name qual params body scope dV kV doc pm an cdv ct), osl⟩) (hcd : codeIn K cdv qual = true) (hroom : A.depth < recursionLimit)
    (hbind : BindsTo s (fnOf name qual params body scope dV kV doc pm an cdv ct) args binds)
    (hkind : (binds.all fun y => scope.names.lookup y.1 == some .local || scope.names.lookup y.1 == some .cell) = true)
    (h : ∀ s₁, InCallC s s.heap.objs.size (bindL (envOfC qual scope s.heap.objs.size f cdv).kindOf binds fun _ => none) (cellsFrom (s.heap.objs.size + 1) scope.names [])
        (bindC (envOfC qual scope s.heap.objs.size f cdv).kindOf binds fun _ => none) s₁ →
      wpAny (model prog w) (A.deeper (envOfC qual scope s.heap.objs.size f cdv)) (execs body (envOfC qual scope s.heap.objs.size f cdv))
        (fun fl s' => R (.ok (.ret (match fl with | .ret v => v | _ => .none))) s')
        (fun e s' => wpAny (model prog w) (A.deeper (envOfC qual scope s.heap.objs.size f cdv)) (leaving (envOfC qual scope s.heap.objs.size f cdv) e) (fun _ s'' => R (.error e) s'') (fun e' s'' => R (.error e') s'') s') s₁)
    (hco : scope.isCoroutine = false) (hgen : scope.isGenerator = false) (hk : scope.kind = .function) : codeAny (model prog w) A (.call (.ref f) args) R s := by
  refine codeAny_call_function hroom (X _ _ ho) rfl hco hgen rfl (codeRec_of X hcd) (hbind _ _ _ _ ?_)
  refine wpAny_newFunctionEnv_cells hk (kindsX hkind _) fun env he s₁ x => ?_
  subst he
  exact ⟨hlim.keeps x.toInCall.keep, codeAny_func (h s₁ x)⟩

/-- C(..): dict at size, instance at size + 1, then __init__ -/
theorem make_obj {R : Result → Shared → Prop} {C fI : Addr} {rest : List Value} {kw : List (Str × Value)}
    (X : K.In s.heap) (hm : makesIn K C = true) (hi : findIn K (.ref C) "__init__" = some (some (.ref fI))) (hf : isFn K (.ref fI) = true)
    (h : codeAny (model prog w) (A.under (.builtin "type.__call__" ⟨.ref C :: rest, kw⟩)) (.call (.ref fI) ⟨.ref (s.heap.objs.size + 1) :: rest, kw⟩) (InitBack (s.heap.objs.size + 1) R)
      { s with heap := (s.heap.push emptyDict).push (instObj C s.heap.objs.size) }) : codeAny (model prog w) A (.call (.ref C) ⟨rest, kw⟩) R s := by
  obtain ⟨hh, g, d, t, os⟩ := s
  exact make_core (makes_of X hm) (looks_findIn X hi) (fun self => bind_fn X self (beq_iff_eq.mp hf)) (.inl rfl) h

/-- x.name where the instance's dict holds the name and the class does not -/
theorem get_field {x C : Addr} {ox : Obj} {es : List DictEntry} {n : Nat} {name : Str} {expr : Bool} {v : Value} {Q : Value → Shared → Prop}
    (X : K.In s.heap) (I : PySem.W.InstAt s.heap x ox C (some (dictOf es n))) (hg : plainGet K C name = true) (hh : hasDictIn K C = true) (ha : findIn K (.ref C) name = some none)
    (hl : getL name es = some (some v)) (hv : handedIn v = true) (h : Q v { s with toks := s.toks + 1 }) : wpAny (model prog w) A (getAttr (.ref x) name expr) Q E s :=
  get_value X I (plainGet_of hg).1 (findObj_own hh ha rfl hl) hv h

/-- x.m(..): the method found in the class -/
theorem get_method {x C f : Addr} {ox : Obj} {es : List DictEntry} {n : Nat} {name : Str} {pl : Sem Bool} {Q : Value × List Value → Shared → Prop}
    (X : K.In s.heap) (I : PySem.W.InstAt s.heap x ox C (some (dictOf es n))) (hg : plainGet K C name = true) (hf : findIn K (.ref C) name = some (some (.ref f))) (ht : isFn K (.ref f) = true)
    (hl : getL name es = some none) (h : Q (.ref f, [.ref x]) s) : wpAny (model prog w) A (getMethod (.ref x) name pl) Q E s :=
  method_fn X I (plainGet_of hg).1 (plainGet_of hg).2 hf (beq_iff_eq.mp ht) (by show (lookIn name (dictOf es n)).map _ = _; rw [lookIn_dict, hl]; rfl) h

/-! the whole heap as the ledger: makes every rule that writes through a ledger a rule over any heap -/
def noObjs (h : Heap) : Heap := { h with objs := #[] }
theorem noObjs_get (h : Heap) (b : Addr) : (noObjs h).get? b = none := by
  cases e : (noObjs h).get? b with
  | none => rfl
  | some o => exact absurd (Heap.lt_size e) (Nat.not_lt_zero _)
def ledger (h : Heap) (L d : Addr) : List (Addr × Obj) := (List.range h.objs.size).filterMap fun a => if a = L ∨ a = d then none else (h.get? a).map fun o => (a, o)
theorem mem_ledger {h : Heap} {L d a : Addr} {o : Obj} : (a, o) ∈ ledger h L d ↔ a ≠ L ∧ a ≠ d ∧ h.get? a = some o := by
  unfold ledger
  rw [List.mem_filterMap]
  constructor
  · rintro ⟨b, _, e⟩
    split at e
    · cases e
    · rename_i hb
      obtain ⟨o', ho, e'⟩ := Option.map_eq_some_iff.mp e
      cases e'
      exact ⟨fun q => hb (.inl q), fun q => hb (.inr q), ho⟩
  · rintro ⟨n1, n2, ho⟩
    refine ⟨a, List.mem_range.mpr (Heap.lt_size ho), ?_⟩
    rw [if_neg (show ¬ (a = L ∨ a = d) from fun q => q.elim n1 n2), ho] <;> rfl
theorem news_ledger {h : Heap} {L d : Addr} {od : Obj} (hne : d ≠ L) (ho : h.get? d = some od) : News (noObjs h) L h ([] ++ (d, od) :: ledger h L d) := by
  rintro ⟨a, o⟩ hp
  rcases List.mem_cons.mp hp with e | hp
  · cases e
    exact ⟨ho, hne, noObjs_get _ _⟩
  · obtain ⟨n1, n2, e⟩ := mem_ledger.mp hp
    exact ⟨e, n1, noObjs_get _ _⟩
theorem fr_all {h : Heap} {L : Addr} {m : Str → Option Value} (n : h.Ns L m) : Fr (noObjs h) L h m :=
  ⟨n, fun b o e => (by rw [noObjs_get] at e; cases e), Nat.zero_le _⟩
/-- Upd of the head entry (for append_K, setItem_K ..) -/
theorem upd_ledger {h : Heap} {L d : Addr} {o o' : Obj} : Upd d o o' ((d, o) :: ledger h L d) ((d, o') :: ledger h L d) :=
  .head fun ⟨_, _⟩ hp => (mem_ledger.mp hp).2.1

/-- x.name = v over any heap: L is any namespace of the heap (the frame's, say): its map stays, its object is not told; all else but the dict stays -/
theorem set_field {x C dx L : Addr} {ox : Obj} {m : Str → Option Value} {es es' : List DictEntry} {n n' : Nat} {name : Str} {v : Value} {Q : Unit → Shared → Prop}
    (X : K.In s.heap) (I : PySem.W.InstAt s.heap x ox C (some (dictOf es n))) (hd : ox.dict = some dx) (hL : s.heap.Ns L m) (hne : dx ≠ L)
    (hs : findIn K (.ref C) "__setattr__" = some (some (.builtin "object.__setattr__"))) (hp : plainOver K C = true) (ht : takerIn K C name = some none) (hh : hasDictIn K C = true) (hl : (getL name es).isSome = true)
    (e : (putL name (PyData.keyHash w.params name) (.str name (s.toks + 1)) v es, putN name es n) = (es', n')) (hz : es'.length ≤ 1000)
    (h : ∀ h' : Heap, h'.Ns L m → h'.get? dx = some (dictOf es' n') → (∀ b o, b ≠ dx → b ≠ L → s.heap.get? b = some o → h'.get? b = some o) → Q () { s with heap := h', toks := s.toks + 2 }) :
    wpAny (model prog w) A (setAttr (.ref x) name v) Q E s := by
  obtain ⟨e1, e2⟩ := Prod.mk.inj e
  have hdx : s.heap.get? dx = some (dictOf es n) := by
    have := I.dict
    rw [hd] at this
    exact this
  refine set_plain X I hs (osa_dict (s := { s with toks := s.toks + 1 }) (h₀ := noObjs s.heap) (L := L) (m := m) (od := dictOf es n) (od' := dictOf es' n') (es := es') (n := n') (pre := []) (post := ledger s.heap L dx)
    (fr_all hL) (news_ledger hne hdx) X I hd hp ht hh hl (fun _ q => nomatch q) (fun ⟨_, _⟩ q => (mem_ledger.mp q).2.1) (by rw [putName_dict, e1, e2]) rfl hz fun h' F' N' => ?_)
  exact h h' F'.ns (N'.get (List.Mem.head _)) fun b o n1 n2 ho => N'.get (List.Mem.tail _ (mem_ledger.mpr ⟨n2, n1, ho⟩))
end
end Att

namespace L2
open PySem PySem.Spec PyProof.Rows

theorem vals_ints : ∀ {vs : List Value} {ns : List Int}, IntsAre vs ns → Vals (ns.map V.int) vs
  | _, _, .nil => .nil
  | _, _, .cons n t h => .cons ⟨t, rfl⟩ (vals_ints h)

/-- nothing is tracked but the script, known to the object (or it is an object of the module) -/
def Only (H : Hp) : Prop := ∀ b, H b = none ∨ ∃ o xs, H b = some (.frz o (.lst xs))

/-- THE HEAD: the law's promise, at the heap behind the top. F, the promise of the law's def, may use that base is part of the heap (so K.In base, base.Ns mainGlobals mg stand in Mod) -/
theorem law_call {P : Program} {w : World} {K : PySem.W.Frag} {mg mb : Str → Option Value} {CX : CXT} {k : Nat} {fa a : Addr} {fd : FuncData} {x : Str} {sp : Sp} {s₁ : Shared} {vs : List Value} {ns : List Int}
    (KX : K.In s₁.heap) (hns : s₁.heap.Ns mainGlobals mg) (hb : s₁.heap.Ns builtinsNs mb) (hbb : ∀ x : Str, x ≠ "__name__" → mb x = bootBuiltins x) (hlim : s₁.heap.NoLimit) (hg : s₁.gens = #[])
    (ha : s₁.heap.get? a = some { cls := .type "list", data := .seq vs.toArray }) (hi : IntsAre vs ns) (hl : ns.length ≤ sizeLine) (hr : Room k callerA)
    (F : ∀ base : Heap, K.In base → base.Ns mainGlobals mg → FnOk P w K mg base CX k fa fd [x] sp) (hbind : ∀ (s : Shared) (u : Value), BindsTo s fd ⟨[u], []⟩ [(x, u)])
    (hsp : ∀ H : Hp, Only H → SqL K H a (ns.map V.int) → sp [.ref a] H (fun v _ => v = .bl true) fun _ _ _ => False)
    (hCX : ∀ H e s', CX [] H s₁ (fun _ _ _ => False) e s' → False) :
    codeAny (model P w) callerA (.call (.ref fa) ⟨[.ref a], []⟩) (fun r s' => r = .ok (.ret (.bool true)) ∧ OldK s₁.heap s'.heap ∧ s'.os = s₁.os ∧ AllBare s'.gens) s₁ := by
  have rv := vals_ints hi
  have lenV := hi.length
  -- from an abstract heap in which nothing but the script may be tracked
  have core : ∀ H : Hp, Only H → SqL K H a (ns.map V.int) → HOk P w H s₁.heap → (∀ b, H b ≠ none → b = a) → (H a ≠ none → K.lookup a = none) →
      codeAny (model P w) callerA (.call (.ref fa) ⟨[.ref a], []⟩) (fun r s' => r = .ok (.ret (.bool true)) ∧ OldK s₁.heap s'.heap ∧ s'.os = s₁.os ∧ AllBare s'.gens) s₁ := by
    intro H hO hS hok hA hK
    have base_of : ∀ {b : Addr} {o : Obj}, s₁.heap.get? b = some o → H b = none → (hidT s₁.heap H).get? b = some o := fun e n => hidT_get e n
    have noA : ∀ {b : Addr} {o : Obj} {es : Array DictEntry} {ep : Nat}, s₁.heap.get? b = some o → o.data = .dict es ep → H b = none := fun {b o es ep} e d => by
      cases q : H b with
      | none => rfl
      | some u =>
        have e' : b = a := hA b (by rw [q]; simp)
        subst e'
        rw [ha] at e; cases e
        have d' : Data.seq vs.toArray _ = Data.dict es ep := d
        cases d'
    have nsK : ∀ {b : Addr} {m : Str → Option Value}, s₁.heap.Ns b m → (hidT s₁.heap H).Ns b m := fun {b m} ⟨o, es, ep, e, d, r⟩ => ⟨o, es, ep, base_of e (noA e d), d, r⟩
    have hKb : K.In (hidT s₁.heap H) := fun b o e => base_of (KX b o e) (by
      cases q : H b with
      | none => rfl
      | some u =>
        have e' : b = a := hA b (by rw [q]; simp)
        subst e'
        rw [hK (by rw [q]; simp)] at e; cases e)
    have hM : Mod K mg (hidT s₁.heap H) := ⟨hKb, nsK hns, ⟨mb, nsK hb, hbb⟩, let ⟨mc, h1, h2⟩ := hlim; ⟨mc, nsK h1, h2⟩⟩
    have e0 : Env0 P w K mg (hidT s₁.heap H) callerA [] s₁ H := ⟨rfl, hM, fun b o e => of_hidT e, Nat.le_of_eq (hidT_size _ _), trivial, fun b hb => absurd (show b ∈ ([] : List Addr) from hb) (by simp), hok, .of_eq hg⟩
    refine codeAny_mono ((F _ hKb (nsK hns)).run callerA [] s₁ H ⟨[.ref a], []⟩ [.ref a] [.ref a] _ _ hr e0 (hbind s₁ (.ref a)) (.cons rfl .nil) (hsp H hO hS)) fun r s' h => ?_
    cases r with
    | error e => exact (hCX H e s' h).elim
    | ok fl =>
      cases fl with
      | next => exact False.elim h
      | brk => exact False.elim h
      | cont => exact False.elim h
      | ret u =>
        obtain ⟨v, H', os, bare, un, hok', r', q⟩ := h
        have q' : v = .bl true := q
        subst q'
        obtain rfl : u = Value.bool true := r'
        refine ⟨rfl, OldK.of_keep fun b o e => ?_, os, bare⟩
        cases q : H b with
        | none => exact un.keep b o e q (by intro z; exact absurd (show b ∈ ([] : List Addr) from z) (by simp)) (by simp)
        | some u =>
          rcases hO b with z | ⟨ob, xs, z⟩
          · rw [q] at z; cases z
          · have z2 := un.frzs b ob _ z
            obtain ⟨e1, _⟩ := hok b _ z
            obtain ⟨e2, _⟩ := hok' b _ z2
            rw [e] at e1; cases e1
            exact e2
  cases hk : K.lookup a with
  | some o =>
    -- the script is one of the module's own objects
    have e := KX a o hk
    rw [ha] at e
    cases e
    refine core (fun _ => none) (fun _ => .inl rfl) (.inr ⟨_, vs.toArray, _, hk, rfl, rfl, rfl, by rw [List.size_toArray, lenV]; exact hl, by simpa using rv⟩) (fun b u z => by have z' : (none : Option HO) = some u := z; cases z') (fun b z => absurd rfl z) fun z => absurd rfl z
  | none =>
    refine core (fun b => if b = a then some (.frz { cls := .type "list", data := .seq vs.toArray } (.lst (ns.map V.int))) else none) (fun b => ?_) (.inl (.inr ⟨{ cls := .type "list", data := .seq vs.toArray }, if_pos rfl⟩)) (fun b u z => ?_) (fun b z => ?_) fun _ => hk
    · by_cases hb : b = a
      · exact .inr ⟨_, _, if_pos hb⟩
      · exact .inl (if_neg hb)
    · by_cases hb : b = a
      · have z' := (if_pos hb).symm.trans z
        cases z'
        subst hb
        exact ⟨ha, by rw [List.length_map]; exact hl, vs, _, rv, ha⟩
      · have z' := (if_neg hb).symm.trans z
        cases z'
    · by_cases hb : b = a
      · exact hb
      · exact absurd (if_neg hb) z
end L2

namespace L2
open PySem PySem.Spec PyProof.Rows

abbrev KOf {K : PySem.W.Frag} {h : Heap} (_ : K.In h) : PySem.W.Frag := K

/-- the goal that k_head leaves (case hc), from the law's promise. F gives the function object fd (K's own) once, then the promise over every base -/
theorem walk_of {l : PySem.W.OpenLaw} {n k : Nat} {q : Program} {loose : List Str} {XP : (Str → Option Value) → Heap → Prop} {YP : World → Heap → Prop} {d : DefRec} {K : Params → PySem.W.Frag} {CX : World → CXT} {sp : World → Sp} {x : Str}
    (hn : l.most = some n) (hn2 : n ≤ sizeLine) (hdf : d.params.defaults = []) (hr : Room k callerA)
    (hY : ∀ (w : World) (h : Heap), YP w h → (K w.params).In h)
    (F : ∀ (w : World) (mg : Str → Option Value) (fa : Addr) (h : Heap), (K w.params).In h → h.Ns mainGlobals mg → mg d.name = some (.ref fa) →
      ∃ fd : FuncData, (∀ (s : Shared) (u : Value), BindsTo s fd ⟨[u], []⟩ [(x, u)]) ∧
        ∀ base : Heap, (K w.params).In base → base.Ns mainGlobals mg → FnOk l.prog w (K w.params) mg base (CX w) k fa fd [x] (sp w))
    (hsp : ∀ (w : World) (H : Hp) (a : Addr) (ns : List Int), ns.length ≤ n → Only H → SqL (K w.params) H a (ns.map V.int) → sp w [.ref a] H (fun v _ => v = .bl true) fun _ _ _ => False)
    (hCX : ∀ (w : World) (H : Hp) (s : Shared) (e : Value) (s' : Shared), CX w [] H s (fun _ _ _ => False) e s' → False) :
    PySem.W.WalkO q loose XP YP l.row.toRowW d [] (fun f vs => PySem.call f vs) := by
  refine Att.attach_call hn hdf fun w s₀ s₁ mg mb fa o pm cd doc a vs ns G Y ho hd hcd hmg hobj hints hlen hg => ?_
  have KX := hY w _ Y
  obtain ⟨fd, hb, hF⟩ := F w mg fa _ KX G.T.g hmg
  exact law_call KX G.T.g G.T.b G.T.builtins G.T.nolimit hg hobj hints (Nat.le_trans hlen hn2) hr hF hb (fun H hO hS => hsp w H a ns hlen hO hS) fun H e s' => hCX w H s₁ e s'
/-- the same where the promise hangs on the written part alone: (sp := My.sp_law), no hole under a binder -/
theorem walk_ofK {l : PySem.W.OpenLaw} {n k : Nat} {q : Program} {loose : List Str} {XP : (Str → Option Value) → Heap → Prop} {YP : World → Heap → Prop} {d : DefRec} {K : Params → PySem.W.Frag} {CX : CXT} {sp : PySem.W.Frag → Sp} {x : Str}
    (hn : l.most = some n) (hn2 : n ≤ sizeLine) (hdf : d.params.defaults = []) (hr : Room k callerA)
    (hY : ∀ (w : World) (h : Heap), YP w h → (K w.params).In h)
    (F : ∀ (w : World) (mg : Str → Option Value) (fa : Addr) (h : Heap), (K w.params).In h → h.Ns mainGlobals mg → mg d.name = some (.ref fa) →
      ∃ fd : FuncData, (∀ (s : Shared) (u : Value), BindsTo s fd ⟨[u], []⟩ [(x, u)]) ∧
        ∀ base : Heap, (K w.params).In base → base.Ns mainGlobals mg → FnOk l.prog w (K w.params) mg base CX k fa fd [x] (sp (K w.params)))
    (hsp : ∀ (K : PySem.W.Frag) (H : Hp) (a : Addr) (ns : List Int), ns.length ≤ n → Only H → SqL K H a (ns.map V.int) → sp K [.ref a] H (fun v _ => v = .bl true) fun _ _ _ => False)
    (hCX : ∀ (H : Hp) (s : Shared) (e : Value) (s' : Shared), CX [] H s (fun _ _ _ => False) e s' → False) :
    PySem.W.WalkO q loose XP YP l.row.toRowW d [] (fun f vs => PySem.call f vs) :=
  walk_of (K := K) (CX := fun _ => CX) (sp := fun w => sp (K w.params)) hn hn2 hdf hr hY F (fun w H a ns h1 h2 h3 => hsp (K w.params) H a ns h1 h2 h3) fun _ H s e s' => hCX H s e s'
end L2

/- THE LAST THEOREM (shape; LID, My.* are yours):
   My.Adr: a structure of the addresses that your layer names (classes, functions); My.Txt K t: a structure (Prop) of the equations over K;
   My.txt_mk : {K} {implicit addresses ..} (e1 : nsIn K mainGlobals "law" = some (some (.ref f))) (e2 : K.lookup f = some ⟨oc, od, .func (fnOf "law" "law" params body scope dV kV doc pm an cdv ct), sl⟩) (e3 : codeIn K cdv "law" = true) .. : ∃ t, My.Txt K t

set_option maxRecDepth 100000 in
set_option maxHeartbeats 0 in
theorem PySem.Challenge.cw_LID_holds : PySem.Challenge.rw_LID.Holds := by
  w_on; o_law; k_head; (case hw => w_witness2)
  k_fill
  refine L2.walk_of (l := PySem.Challenge.rw_LID) (n := 63) (k := 40) (x := "script") (CX := fun w => ..) (sp := fun _ => My.sp_law) rfl (by decide) rfl ⟨rfl, by decide, by decide⟩ (fun w h Y => PySem.W.kIn_of Y) ?F ?S ?C
  case F =>
    intro w mg fa h KX G hmg
    have T : ∃ t, My.Txt (L2.KOf KX) t := by
      dsimp only [L2.KOf]                          -- K must stand as «<heap const> w.params» for k_is
      refine' My.txt_mk ?e1 ?e2 ?e3 ..
      (case e1 => PySem.W.k_is)                    -- in the order: a name -> its address -> its object -> its parts
      (case e2 => PySem.W.k_is)
      ..
    obtain ⟨t, T⟩ := T
    have e0 := hmg.symm.trans (PySem.W.mg_of KX G T.law)
    cases e0                                       -- fa is the law's own address
    exact ⟨_, fun s u => .of_eq rfl, fun base kb nb => My.law_fn T kb nb⟩     -- if «.of_eq rfl» comes too early: refine' ⟨_, ?b, fun base kb nb => My.law_fn T kb nb⟩; exact fun s u => .of_eq rfl
  case S => exact fun w H a ns hl hO hS => ..
  case C => exact ..
(the tactic k_is has no namespace: write k_is) -/

/-! SHORT WORDS over the layer: a def of the text, its body, what a loop and a test want. -/
namespace L2
open PySem PySem.Spec PyProof.Rows

/-! ### the text by places -/
/-- the j-th statement of a class's body -/
def inClass (s : Stmt) (j : Nat) : Stmt := match s with
  | .ClassDef _ _ _ body _ _ _ _ _ _ _ => body.getD j (.Pass ⟨0, 0, 0, 0⟩)
  | _ => .Pass ⟨0, 0, 0, 0⟩
def defArgs (s : Stmt) : Arguments := match s with
  | .FunctionDef _ a _ _ _ _ _ _ _ _ => a
  | _ => { posonlyargs := [], args := [], vararg := none, kwonlyargs := [], kw_defaults := [], kwarg := none, defaults := [] }
def defBody (s : Stmt) : List Stmt := match s with
  | .FunctionDef _ _ b _ _ _ _ _ _ _ => b
  | _ => []
def defScope (s : Stmt) : Scope := match s with
  | .FunctionDef _ _ _ _ _ _ sc _ _ _ => sc
  | _ => { kind := .function, names := [], isGenerator := false, isCoroutine := false }

/-! ### no exception leaves a def -/
abbrev CX0 : CXT := fun _ _ _ _ _ _ => False
abbrev E0 : XK := fun _ _ _ => False
theorem pass0 {X : Cx} : Passes CX0 X E0 := fun _ _ _ _ _ _ _ h => h.elim

/-! ### a def (or method) of the text as it stands behind the top -/
structure Fun (K : PySem.W.Frag) (x qual : Str) (st : Stmt) (f : Addr) (fd : FuncData) : Prop where
  ex : ∃ (oc : Value) (od : Option Addr) (kV doc pm : Value) (an : Option Addr) (cdv ct : Value) (osl : Array (Option Value)),
    fd = PySem.W.fnOf x qual (defArgs st) (defBody st) (defScope st) .none kV doc pm an cdv ct ∧ K.lookup f = some ⟨oc, od, .func fd, osl⟩ ∧ PySem.W.codeIn K cdv qual = true
  kp : PySem.W.keepIn K (.ref f) = true
section
variable {P : Program} {w : World} {K : PySem.W.Frag} {mg : Str → Option Value} {base : Heap}
/-- THE RULE for a def: its body as a term of rules, and the reading of that term -/
theorem Fun.ok {x qual : Str} {st : Stmt} {f : Addr} {fd : FuncData} {N ps : List Str} {k : Nat} {sp : Sp} (F : Fun K x qual st f fd) (S : FnScope N ps (defScope st)) (len : ∀ vs H Q E, sp vs H Q E → vs.length = ps.length)
    (hbody : ∀ (cdv : Value) (A : Around) (outer : List Env) (s : Shared) (H : Hp) (vs : List V) (Q : VK) (E : XK), Room k (A.deeper (envOfC qual (defScope st) s.heap.objs.size f cdv)) → sp vs H Q E →
      ∃ t, PSs (cxOf CX0 P w K mg base N qual (defScope st) f cdv A outer s H E).nox (defBody st) t ∧ t { nx := fun _ H' => Q .non H', rt := Q } (start N vs) H) : FnOk P w K mg base CX0 (k + 1) f fd ps sp := by
  obtain ⟨oc, od, kV, doc, pm, an, cdv, ct, osl, rfl, lk, hcd⟩ := F.ex
  refine fn_of lk hcd S len fun A outer s H vs Q E hr hsp => ?_
  obtain ⟨t, h, q⟩ := hbody cdv A outer s H vs Q E hr hsp
  exact ⟨t, h.nox, q⟩
/-- how its arguments bind (no defaults): h is «fun _ _ _ _ _ _ us hl => match us, hl with | [_, _], _ => rfl», one _ a parameter -/
theorem Fun.binds {x qual : Str} {st : Stmt} {f : Addr} {fd : FuncData} {ps : List Str} (F : Fun K x qual st f fd)
    (h : ∀ (kV doc pm : Value) (an : Option Addr) (cdv ct : Value) (us : List Value), us.length = ps.length → bindArgs (PySem.W.fnOf x qual (defArgs st) (defBody st) (defScope st) .none kV doc pm an cdv ct) ⟨us, []⟩ = pure (ps.zip us)) : Binds K fd ps [] := by
  obtain ⟨oc, od, kV, doc, pm, an, cdv, ct, osl, rfl, lk, hcd⟩ := F.ex
  exact .all (h kV doc pm an cdv ct)
theorem fun_mk {x qual : Str} {st : Stmt} {f : Addr} {oc : Value} {od an : Option Addr} {osl : Array (Option Value)} {kV doc pm cdv ct : Value} (l : K.lookup f = some ⟨oc, od, .func (PySem.W.fnOf x qual (defArgs st) (defBody st) (defScope st) .none kV doc pm an cdv ct), osl⟩)
    (c : PySem.W.codeIn K cdv qual = true) (k : PySem.W.keepIn K (.ref f) = true) : Fun K x qual st f (PySem.W.fnOf x qual (defArgs st) (defBody st) (defScope st) .none kV doc pm an cdv ct) := ⟨⟨oc, od, kV, doc, pm, an, cdv, ct, osl, rfl, l, c⟩, k⟩
end
theorem hu_of {A : Around} {k : Nat} (hr : Room k A) : A.units + 1 < cLine := Nat.lt_of_le_of_lt (Nat.add_le_add_left (by decide : 1 ≤ 64) _) hr.units
theorem small1000 {n : Nat} (h : n ≤ 1000) : n < sizeLine := Nat.lt_of_le_of_lt h (by decide)

/-! ### expressions in short: the name that stands in the i-th slot -/
section
variable {X : Cx}
theorem pv (i : Nat) {x : Str} {pos : Pos} (hN : X.N[i]? = some x := by rfl) (hv : Vis X.env.scope x := by first | exact Or.inl rfl | exact Or.inr (Or.inl rfl) | exact Or.inr (Or.inr rfl)) (hd : (x == ("__debug__" : Str)) = false := by decide)
    (hcd : (x == ("__classdict__" : Str)) = false := by decide) : PE X (.Name x pos) (tVar i) := pe_var hN hv hd hcd
end

/-! ### tests -/
theorem iteF {A B : Prop} (h : B) : if false = true then A else B := by
  rw [if_neg Bool.false_ne_true]
  exact h
theorem iteT {A B : Prop} (h : A) : if true = true then A else B := by
  rw [if_pos rfl]
  exact h
theorem ite2 {c A B : Prop} [Decidable c] (h1 : c → A) (h2 : ¬ c → B) : if c then A else B := by
  by_cases h : c
  · rw [if_pos h]
    exact h1 h
  · rw [if_neg h]
    exact h2 h
theorem iteNS {c A B : Prop} [Decidable c] (hc : c) (h : B) : if (!decide c) = true then A else B := by
  rw [decide_eq_true hc]
  exact iteF h

/-! ### heaps -/
/-- all that was tracked is as it was -/
def Same (H H' : Hp) : Prop := ∀ b o, H b = some o → H' b = some o
theorem Same.refl (H : Hp) : Same H H := fun _ _ h => h
theorem Same.trans {H H1 H2 : Hp} (a : Same H H1) (b : Same H1 H2) : Same H H2 := fun c o h => b c o (a c o h)
theorem Same.free {H H' : Hp} (e : Same H H') {l : Addr} (h : H' l = Option.none) : H l = Option.none := by
  cases q : H l with
  | none => rfl
  | some o =>
    rw [e l o q] at h
    cases h
theorem Same.seq {K : PySem.W.Frag} {H H' : Hp} {a : Addr} {xs : List V} (e : Same H H') (h : SqL K H a xs) : SqL K H' a xs := by
  rcases h with (h | ⟨o, h⟩) | h
  · exact .inl (.inl (e _ _ h))
  · exact .inl (.inr ⟨o, e _ _ h⟩)
  · exact .inr h

end L2

set_option Elab.async false
set_option linter.all false
set_option maxRecDepth 100000
set_option maxHeartbeats 4000000
namespace L3
open PySem PySem.Spec L2
open PyProof.Rows hiding St

/-! ### a comprehension -/
theorem thnE {α : Type} {t : Sem α} {Q Q' : α → Shared → Prop} {M : Model} {A : Around} {E : Value → Shared → Prop} {s : Shared} (h : wpAny M A t Q (fun _ _ => False) s) (hQ : ∀ a s, Q a s → Q' a s) : wpAny M A t Q' E s :=
  wpAny_mono h hQ fun _ _ x => x.elim

theorem closure_of (env : Env) : ∀ (l : List (Str × NameKind)) (acc : List (Str × Addr)), (∀ x ∈ l, x.2 = .free → ∃ c, env.cells.lookup x.1 = some c) → (∀ x c, acc.lookup x = some c → env.cells.lookup x = some c) →
    ∃ cl, (forIn l acc fun (x : Str × NameKind) (r : List (Str × Addr)) => if (x.2 == NameKind.free) = true then do let a ← cellOf env x.1; pure (ForInStep.yield ((x.1, a) :: r)) else pure (ForInStep.yield r) : Sem (List (Str × Addr))) = pure cl ∧
      (∀ x c, cl.lookup x = some c → env.cells.lookup x = some c) ∧ (∀ x, (∃ c, acc.lookup x = some c) → ∃ c, cl.lookup x = some c) ∧ ∀ x, (x, NameKind.free) ∈ l → ∃ c, cl.lookup x = some c
  | [], acc, _, h2 => ⟨acc, rfl, h2, fun _ h => h, fun _ h => nomatch h⟩
  | (n, k) :: r, acc, h1, h2 => by
    rw [List.forIn_cons]
    by_cases hk : k = .free
    · subst hk
      obtain ⟨c, hc⟩ := h1 (n, .free) List.mem_cons_self rfl
      obtain ⟨cl, e, p1, p2, p3⟩ := closure_of env r ((n, c) :: acc) (fun x hx => h1 x (List.mem_cons_of_mem _ hx)) (fun x d hd => by
        rw [List.lookup_cons] at hd
        cases hx : x == n with
        | true => rw [hx] at hd; cases hd; rw [eq_of_beq hx]; exact hc
        | false => rw [hx] at hd; exact h2 x d hd)
      refine ⟨cl, ?_, p1, fun x hx => ?_, fun x hx => ?_⟩
      · rw [if_pos (by rfl)]
        unfold cellOf
        dsimp only
        rw [hc]
        exact e
      · refine p2 x ?_
        obtain ⟨d, hd⟩ := hx
        rw [List.lookup_cons]
        cases hx : x == n with
        | true => exact ⟨c, rfl⟩
        | false => exact ⟨d, hd⟩
      · rcases List.mem_cons.mp hx with z | z
        · cases z
          exact p2 n ⟨c, by rw [List.lookup_cons]; simp⟩
        · exact p3 x z
    · have hb : (k == NameKind.free) = false := by simpa using hk
      obtain ⟨cl, e, p1, p2, p3⟩ := closure_of env r acc (fun x hx => h1 x (List.mem_cons_of_mem _ hx)) h2
      refine ⟨cl, ?_, p1, p2, fun x hx => ?_⟩
      · rw [if_neg (by simp [hb])]
        exact e
      · rcases List.mem_cons.mp hx with z | z
        · cases z; exact absurd rfl hk
        · exact p3 x z

theorem closureFor_of {scope : Scope} {env : Env} (h : ∀ x ∈ scope.names, x.2 = .free → ∃ c, env.cells.lookup x.1 = some c) :
    ∃ cl, closureFor scope env = pure cl ∧ (∀ x c, cl.lookup x = some c → env.cells.lookup x = some c) ∧ ∀ x, (x, NameKind.free) ∈ scope.names → ∃ c, cl.lookup x = some c := by
  obtain ⟨cl, e, p1, _, p3⟩ := closure_of env scope.names [] h (fun x c z => by cases z)
  refine ⟨cl, ?_, p1, p3⟩
  have e2 : closureFor scope env = ((forIn scope.names [] fun (x : Str × NameKind) (r : List (Str × Addr)) => if (x.2 == NameKind.free) = true then do let a ← cellOf env x.1; pure (ForInStep.yield ((x.1, a) :: r)) else pure (ForInStep.yield r)) : Sem (List (Str × Addr))) >>= pure := by
    unfold closureFor
    rfl
  rw [e2, e]
  rfl

/-- the tests of a comprehension -/
def PTs (X : Cx) (ifs : List Expr) (t : TT) : Prop :=
  ∀ (pins : List (Addr × Obj)) (s : Shared) (σ : St) (H : Hp) (Q : Bool → Hp → Prop), Inv X pins σ H s → t σ H Q →
    wpAny (model X.prog X.w) X.A (forIn ifs true fun c r => if r = true then do let ok ← isTrue c X.env (eval c X.env); pure (ForInStep.yield ok) else pure (ForInStep.yield r)) (TP X pins σ Q) X.xe s
def tYes : TT := fun _ H Q => Q true H
theorem pts_nil {X : Cx} : PTs X [] tYes := fun _ _ _ H _ I h => wpAny_tests_nil ⟨H, I, h⟩
theorem pts_one {X : Cx} {c : Expr} {t : TT} (hc : PT X c t) : PTs X [c] t := fun pins s σ H Q I h => wpAny_tests_one (hc pins s σ H Q I h)

/-- the block of a comprehension, as a context of its own -/
def blk (X : Cx) (scope : Scope) (N : List Str) (cl : List (Str × Addr)) (fp : List Addr) (s₂ : Shared) (H₂ : Hp) (C : Addr) : Cx where
  prog := X.prog
  w := X.w
  K := X.K
  mg := X.mg
  base := X.base
  A := X.A
  N := N
  s₀ := s₂
  H₀ := H₂
  env := compEnvC scope cl C X.env
  outer := X.stack
  stack := X.stack
  ex := fp
  fn := fun _ => false
  calm := X.calm
  pn := []
  xe := fun _ _ => False

theorem relabel_mem {scope : Scope} {env : Env} {x : Str} {k : NameKind} (h : (relabel scope env).names.lookup x = some k) : (k = .cell ∧ (x, NameKind.free) ∈ scope.names) ∨ (x, k) ∈ scope.names := by
  obtain ⟨⟨n, k0⟩, hm, e⟩ := List.mem_map.mp (show (x, k) ∈ scope.names.map _ from PySem.mem_of_lookup h)
  dsimp only at e
  split at e
  · rename_i hc
    cases e
    have hf : k0 = .free := by
      have := (Bool.and_eq_true _ _).mp ((Bool.and_eq_true _ _).mp hc).1
      simpa using this.1
    subst hf
    exact .inl ⟨rfl, hm⟩
  · cases e
    exact .inr hm

theorem relabel_free {env : Env} : ∀ {names : List (Str × NameKind)} {x : Str}, names.lookup x = some .free →
    (names.map fun (n, k) => if (k == NameKind.free && env.scope.kind == .function && env.kindOf n == some .cell) then (n, NameKind.cell) else (n, k)).lookup x = some .cell ∨
    (names.map fun (n, k) => if (k == NameKind.free && env.scope.kind == .function && env.kindOf n == some .cell) then (n, NameKind.cell) else (n, k)).lookup x = some .free
  | [], _, h => by simp at h
  | (n, k) :: r, x, h => by
    have ih := @relabel_free env r x
    simp only [List.map_cons]
    cases hx : x == n with
    | true =>
      simp only [List.lookup_cons, hx] at h
      cases h
      split
      · left; simp [List.lookup_cons, hx]
      · right; simp [List.lookup_cons, hx]
    | false =>
      simp only [List.lookup_cons, hx] at h
      by_cases hc : (k == NameKind.free && env.scope.kind == .function && env.kindOf n == some .cell) = true
      · rw [if_pos hc]; simp only [List.lookup_cons, hx]; exact ih h
      · rw [if_neg hc]; simp only [List.lookup_cons, hx]; exact ih h

/-- what a comprehension's scope is: fsc the scope around it, N the names there, x the target, caps the names that it takes from around, at the places ks -/
def cscopeB (fsc : Scope) (N : List Str) (scope : Scope) (x : Str) (ks : List Nat) (caps : List Str) : Bool :=
  (scope.kind == .function) && scope.names.all (fun y => y.2 != .cell) && scope.names.all (fun y => y.2 != .local || scope.names.lookup y.1 == some .local) && (scope.names.lookup x == some .local) &&
    scope.names.all (fun y => y.2 != .free || fsc.names.lookup y.1 == some .cell || fsc.names.lookup y.1 == some .free) && decide ((x :: caps).Nodup) && (ks.length == caps.length) &&
    (ks.zip caps).all fun p => N[p.1]? == some p.2 && scope.names.lookup p.2 == some .free
structure CScope (X : Cx) (scope : Scope) (x : Str) (ks : List Nat) (caps : List Str) : Prop where
  kind : scope.kind = .function
  nocell : ∀ y ∈ scope.names, y.2 ≠ .cell
  names : ∀ y ∈ scope.names, y.2 = .local → scope.names.lookup y.1 = some .local
  tgt : scope.names.lookup x = some .local
  frees : ∀ y ∈ scope.names, y.2 = .free → X.env.kindOf y.1 = some .cell ∨ X.env.kindOf y.1 = some .free
  nd : (x :: caps).Nodup
  len : ks.length = caps.length
  at_ : ∀ (j : Nat) (k : Nat) (y : Str), ks[j]? = some k → caps[j]? = some y → X.N[k]? = some y ∧ scope.names.lookup y = some .free
theorem CScope.of {X : Cx} {scope : Scope} {x : Str} {ks : List Nat} {caps : List Str} (h : cscopeB X.env.scope X.N scope x ks caps = true) : CScope X scope x ks caps := by
  unfold cscopeB at h
  simp only [Bool.and_eq_true, List.all_eq_true] at h
  obtain ⟨⟨⟨⟨⟨⟨⟨h1, h2⟩, h3⟩, h4⟩, h5⟩, h6⟩, h7⟩, h8⟩ := h
  refine ⟨by simpa using h1, fun y hy => by simpa using h2 y hy, fun y hy e => ?_, by simpa using h4, fun y hy e => ?_, of_decide_eq_true h6, by simpa using h7, fun j k y e1 e2 => ?_⟩
  · have := h3 y hy
    rw [e] at this
    simpa using this
  · have := h5 y hy
    rw [e] at this
    have t2 : X.env.scope.names.lookup y.1 = some .cell ∨ X.env.scope.names.lookup y.1 = some .free := by simpa using this
    exact t2
  · have hm : (k, y) ∈ ks.zip caps := by
      refine List.mem_of_getElem? (i := j) ?_
      rw [List.getElem?_zip_eq_some]
      exact ⟨e1, e2⟩
    have := h8 (k, y) hm
    simpa using this

section
variable {X : Cx} {scope : Scope} {x : Str} {ks : List Nat} {caps : List Str} {cl : List (Str × Addr)} {fp : List Addr} {s₂ : Shared} {H₂ : Hp} {C : Addr} {pins : List (Addr × Obj)} {σ : St}

theorem blk_ok (S : CScope X scope x ks caps) (I : Inv X pins σ H₂ s₂) (hC : s₂.heap.objs.size ≤ C) (hfp : ∀ b ∈ fp, FpOk X pins H₂ b) (hlt : ∀ b ∈ fp, b < s₂.heap.objs.size)
    (p1 : ∀ x c, cl.lookup x = some c → X.env.cells.lookup x = some c) (p3 : ∀ x, (x, NameKind.free) ∈ scope.names → ∃ c, cl.lookup x = some c) : (blk X scope (x :: caps) cl fp s₂ H₂ C).Ok where
  mod := I.ok.mod
  kind := S.kind
  glob := I.ok.glob
  blt := I.ok.blt
  above := hC
  inj := fun y z c e1 e2 => I.ok.inj y z c (p1 _ _ e1) (p1 _ _ e2)
  has := fun y hy => by
    have hy : (relabel scope X.env).names.lookup y = some .cell ∨ (relabel scope X.env).names.lookup y = some .free := hy
    rcases hy with hy | hy
    · rcases relabel_mem hy with ⟨_, m⟩ | m
      · exact p3 y m
      · exact absurd rfl (S.nocell _ m)
    · rcases relabel_mem hy with ⟨z, _⟩ | m
      · cases z
      · exact p3 y m
  cab := fun y c h => by cases h
  hd := I.ok.hd
  frames := I.ok.frames
  stk := .inl rfl
  exf := fun b hb => ⟨Nat.ne_of_lt (Nat.lt_of_lt_of_le (hlt b hb) hC), fun y c e => (hfp b hb).2.2.2.2.1 y c (p1 y c e)⟩
  bs := I.bs
  bsz := Nat.le_trans I.ok.bsz I.sz
  noex := fun b o e hb => by
    rcases (hfp b hb).2.2.2.1 with z | z
    · exact I.ok.noex b o e z
    · exact absurd (Nat.lt_of_lt_of_le (Heap.lt_size (I.ok.bs b o e).1) z) (Nat.lt_irrefl _)
  exfs := fun b hb z => by
    rcases List.mem_cons.mp (I.stkSub b z) with e | e
    · exact (hfp b hb).2.1 e
    · exact (hfp b hb).2.2.1 e
  funs := I.stack
  frf := I.stkFree

theorem blk_inv (S : CScope X scope x ks caps) (I : Inv X pins σ H₂ s₂) (hfp : ∀ b ∈ fp, FpOk X pins H₂ b) (hlt : ∀ b ∈ fp, b < s₂.heap.objs.size)
    (p1 : ∀ x c, cl.lookup x = some c → X.env.cells.lookup x = some c) (p3 : ∀ x, (x, NameKind.free) ∈ scope.names → ∃ c, cl.lookup x = some c)
    {h₁ : Heap} {tk : Nat} {m : Str → Option Value} (hC : s₂.heap.objs.size < C) (old : ∀ b o, s₂.heap.get? b = some o → h₁.get? b = some o) (hacc : ∃ n, h₁.get? s₂.heap.objs.size = some { cls := .type "list", data := .seq ([] : List Value).toArray n }) (hns : h₁.Ns C m) :
    Inv (blk X scope (x :: caps) cl fp s₂ H₂ C) [] (none :: ks.map fun k => σ.getD k none) (upd H₂ s₂.heap.objs.size (.lst [])) { s₂ with heap := h₁, toks := tk } := by
  refine ⟨blk_ok S I (Nat.le_of_lt hC) hfp hlt p1 p3, rfl, I.bare, Un.laid old (Nat.le_refl _) I.fresh, ⟨m, hns, fun i y v e1 e2 e3 => ?_⟩, fun y c e => ?_, ?_, fun y c e => ?_, fun p hp => absurd (show p ∈ ([] : List (Addr × Obj)) from hp) (by simp), ?_, ?_⟩
  · cases i with
    | zero => simp at e2
    | succ j =>
      have e1' : caps[j]? = some y := by simpa [blk] using e1
      have e2' : (ks.map fun k => σ.getD k none)[j]? = some (some v) := by simpa using e2
      rw [List.getElem?_map] at e2'
      cases hk : ks[j]? with
      | none => rw [hk] at e2'; cases e2'
      | some k =>
        rw [hk] at e2'
        have e2'' : σ.getD k none = some v := by simpa using e2'
        have hσ : σ[k]? = some (some v) := by
          rw [List.getD_eq_getElem?_getD] at e2''
          cases hz : σ[k]? with
          | none => rw [hz] at e2''; cases e2''
          | some z => rw [hz] at e2''; rw [show z = some v from e2'']
        obtain ⟨hN, hf⟩ := S.at_ j k y hk e1'
        have hv := S.frees (y, .free) (PySem.mem_of_lookup hf) rfl
        obtain ⟨m', _, hl⟩ := I.loc
        obtain ⟨u, ru, lk⟩ := hl k y v hN hσ (by rcases hv with z | z; exact .inr (.inl z); exact .inr (.inr z))
        refine ⟨u, ru, ?_⟩
        rcases lk with ⟨kl, _⟩ | ⟨_, c, hc, ic⟩
        · rcases hv with z | z <;> (rw [show X.env.kindOf y = some .local from kl] at z; cases z)
        · obtain ⟨c', hc'⟩ := p3 y (PySem.mem_of_lookup hf)
          have : c' = c := by have := p1 y c' hc'; rw [hc] at this; exact (Option.some.inj this).symm
          subst this
          refine .inr ⟨relabel_free (env := X.env) hf, c', hc', ?_⟩
          obtain ⟨o, ho, hd⟩ := ic
          exact ⟨o, old _ _ ho, hd⟩
  · obtain ⟨v, o, ho, hd⟩ := I.cell y c (p1 y c e)
    exact ⟨v, o, old _ _ ho, hd⟩
  · show upd H₂ s₂.heap.objs.size (.lst []) C = none
    rw [upd_ne (Nat.ne_of_gt hC)]
    exact I.hok.fresh (Nat.le_of_lt hC)
  · obtain ⟨v, z⟩ := I.cell y c (p1 y c e)
    show upd H₂ s₂.heap.objs.size (.lst []) c = none
    rw [upd_ne (Nat.ne_of_lt z.lt)]
    exact I.freeC y c (p1 y c e)
  · obtain ⟨n, hn⟩ := hacc
    exact I.hok.laid old (Nat.le_refl _) ⟨Nat.zero_le _, [], n, .nil, hn⟩
  · show (none :: ks.map fun k => σ.getD k none).length = (x :: caps).length
    simp [S.len]
end

/-- the reading of the walk: W by the turn, a measure, what was gathered, the heap -/
def tCompW (J : It) (tt : TT) (te : TE) (cv : List (Option V)) (Q : VK) (H1 : Hp) : Prop :=
  ∀ D, H1 D = none → ∃ W : Nat → Nat → List V → Hp → Prop, (∃ m, W 0 m [] (upd H1 D (.lst []))) ∧ ∀ i m ys H, W i m ys H → H D = some (.lst ys) ∧
    ((J.stop i H ∧ Q (.ref D) H) ∨ (J.go i H ∧ ∃ N : List V → Hp → Prop, (∀ ys' H', N ys' H' → ∃ m', m' < m ∧ W (i + 1) m' ys' H') ∧ ∀ x H', J.yld i H x H' → tt (some x :: cv) H' fun b H2 => if b = true then
      te (some x :: cv) H2 (fun y H3 => H3 D = some (.lst ys) ∧ ys.length < sizeLine ∧ N (ys ++ [y]) (upd H3 D (.lst (ys ++ [y])))) else N ys H2))

/-- what may turn unseen behind a comprehension: its own names' record -/
structure Gone (X : Cx) (pins : List (Addr × Obj)) (H : Hp) (C : Addr) : Prop where
  free : H C = none
  loc : C ≠ X.env.locals
  ex : C ∈ X.ex ∨ X.s₀.heap.objs.size ≤ C
  cells : ∀ x c, X.env.cells.lookup x = some c → c ≠ C
  pins : ∀ p ∈ X.pn ++ pins, p.1 ≠ C
theorem Gone.inv {X : Cx} {pins : List (Addr × Obj)} {σ : St} {H : Hp} {C : Addr} {s : Shared} {h' : Heap} (G : Gone X pins H C) (I : Inv X pins σ H s) (sb : Heap.SameBut C s.heap h') : Inv X pins σ H { s with heap := h' } :=
  I.turned (t' := s.toks) (fun b o hb e => (sb.2 b hb).trans e) G.free G.loc G.ex G.cells G.pins

theorem comp_core {X : Cx} {elt iter : Expr} {x : Str} {px pos p2 : Pos} {ifs : List Expr} {scope : Scope} {ks : List Nat} {caps : List Str} {wi : TI} {tt : TT} {te : TE} {use : Option (Value → Sem Unit)} {Qr : Value → Shared → Prop} {R : VK}
    (hc : X.calm = true) (S : CScope X scope x ks caps) (hi : PI X (.Name x px) iter wi)
    (ht : ∀ cl fp s₂ H₂ C, PTs (blk X scope (x :: caps) cl fp s₂ H₂ C) ifs tt) (he : ∀ cl fp s₂ H₂ C, PE (blk X scope (x :: caps) cl fp s₂ H₂ C) elt te)
    (hs : ∀ v, foldedSetIterable iter X.env v = pure v)
    {pins : List (Addr × Obj)} {s : Shared} {σ : St} {H : Hp} (I : Inv X pins σ H s) (h : wi σ H fun J H1 => tCompW J tt te (ks.map fun k => σ.getD k none) R H1)
    (fin0 : use = none → ∀ D H' s', Inv X pins σ H' s' → R (.ref D) H' → Qr (.ref D) s')
    (fin1 : ∀ u, use = some u → ∀ D H' s' C, Inv X pins σ H' s' → R (.ref D) H' → Gone X pins H' C → (∃ m, s'.heap.Ns C m) →
      wpAny (model X.prog X.w) X.A (u (.ref D)) (fun _ s'' => ∃ m, s''.heap.Ns C m ∧ ∀ h', Heap.SameBut C s''.heap h' → Qr .none { s'' with heap := h' }) X.xe s') :
    wpAny (model X.prog X.w) X.A (comprehension (.ListComp elt [⟨.Name x px, iter, ifs, 0⟩] scope pos) scope X.env p2 (newList []) false (eval iter X.env) use) Qr X.xe s := by
  obtain ⟨cl, hclos, p1, p3⟩ := closureFor_of (scope := scope) (env := X.env) fun y hy hf => I.ok.has y.1 (S.frees y hy hf)
  refine wpAny_comprehension_free rfl hs hclos S.kind S.names (thn (hi pins s σ H _ I h) fun v s1 h1 => thn h1 fun itv s2 h2 => ?_)
  obtain ⟨it, fp, tn, J, H2, e, I2, T, st2, f2, rd⟩ := h2
  subst e
  have hlt : ∀ b ∈ fp, b < s2.heap.objs.size := fun b hb => by
    obtain ⟨o, ho, _⟩ := T.obj _ _ st2 b hb
    exact Heap.lt_size ho
  obtain ⟨W, ⟨m0, w0⟩, turn⟩ := rd s2.heap.objs.size I2.fresh
  refine wpAny_newObj_type (wpAny_newFunctionEnv S.nocell (by intro y hy; simp at hy) (fun h₁ hns₁ hsb₁ => ?_) S.kind)
  dsimp only at hns₁ hsb₁ ⊢
  generalize hH2 : s2.heap.push { cls := .type "list", dict := none, data := .seq ([] : List Value).toArray } = G2 at hns₁ hsb₁ ⊢
  have hC : G2.objs.size = s2.heap.objs.size + 1 := by rw [← hH2, Heap.size_push]
  have hDC : s2.heap.objs.size ≠ G2.objs.size := by rw [hC]; exact Nat.ne_of_lt (Nat.lt_succ_self _)
  have hCl : s2.heap.objs.size < G2.objs.size := by rw [hC]; exact Nat.lt_succ_self _
  have old : ∀ b o, s2.heap.get? b = some o → h₁.get? b = some o := fun b o e => hsb₁.extBut b o (Nat.ne_of_lt (Nat.lt_trans (Heap.lt_size e) hCl)) (Heap.get?_push_of_some _ (hH2 ▸ Heap.get?_push_of_some _ e))
  have hacc : ∃ n, h₁.get? s2.heap.objs.size = some { cls := .type "list", data := .seq ([] : List Value).toArray n } := ⟨_, hsb₁.extBut _ _ hDC (Heap.get?_push_of_some _ (hH2 ▸ Heap.get?_push_size _ rfl))⟩
  have I3 := blk_inv (cl := cl) (tk := s2.toks + ([] : List (Str × Value)).length) S I2 f2 hlt p1 p3 hCl old hacc hns₁
  have st3 : tn 0 h₁ := T.keep _ _ _ st2 fun b _ o e => old b o e
  have f3 : ∀ b ∈ fp, upd H2 s2.heap.objs.size (.lst []) b = none := fun b hb => by
    rw [upd_ne (Nat.ne_of_lt (hlt b hb))]
    exact (f2 b hb).1
  -- a state of the block is a state of the context around it
  have back : ∀ {σ' : St} {H' : Hp} {s' : Shared} {pl : List (Addr × Obj)}, Inv (blk X scope (x :: caps) cl fp s2 H2 G2.objs.size) pl σ' H' s' → Inv X pins σ H' s' ∧ Gone X pins H' G2.objs.size := fun {σ' H' s' pl} J' => by
    refine ⟨I2.call' (ch := fp) J'.os J'.base J'.hok J'.bare fun b hb => ⟨(f2 b hb).2.2.2.1, (f2 b hb).2.1, (f2 b hb).2.2.2.2.1, (f2 b hb).2.2.2.2.2⟩, J'.free, Nat.ne_of_gt (Nat.lt_trans I2.lt hCl), .inr (Nat.le_trans I2.sz (Nat.le_of_lt hCl)), fun y c e z => ?_, fun p hp z => ?_⟩
    · obtain ⟨v, q⟩ := I2.cell y c e
      exact absurd (Nat.lt_trans q.lt (z ▸ hCl)) (Nat.lt_irrefl _)
    · exact absurd (Nat.lt_trans (Heap.lt_size (I2.pin p hp).1) (z ▸ hCl)) (Nat.lt_irrefl _)
  -- the loop
  have loop : ∀ s₃ : Shared, s₃ = { s2 with heap := h₁, toks := s2.toks + ([] : List (Str × Value)).length } →
      codeAny (model X.prog X.w) X.A (.compLoop (.ListComp elt [⟨.Name x px, iter, ifs, 0⟩] scope pos) 0 (.ref it) (.ref s2.heap.objs.size) (compEnvC scope cl G2.objs.size X.env))
        (compPost (model X.prog X.w) X.A X.xe use Qr (.ref s2.heap.objs.size) G2.objs.size) s₃ := by
    rintro s₃ rfl
    have stat : ∀ {H' : Hp}, (∀ b ∈ fp, H' b = none) → ∀ b ∈ fp, FpOk (blk X scope (x :: caps) cl fp s2 H2 G2.objs.size) [] H' b := fun hn b hb =>
      ⟨hn b hb, Nat.ne_of_lt (Nat.lt_trans (hlt b hb) hCl), fun z => by
        rcases List.mem_cons.mp (I2.stkSub b z) with e | e
        · exact (f2 b hb).2.1 e
        · exact (f2 b hb).2.2.1 e, .inl hb, fun y c e => (f2 b hb).2.2.2.2.1 y c (p1 y c e), fun p hp => absurd (show p ∈ ([] : List (Addr × Obj)) from hp) (by simp)⟩
    refine codeAny_compLoop_tests (fun n s' => ∃ i v0 ys H', Inv (blk X scope (x :: caps) cl fp s2 H2 G2.objs.size) [] (v0 :: ks.map fun k => σ.getD k none) H' s' ∧ tn i s'.heap ∧ (∀ b ∈ fp, H' b = none) ∧ W i n ys H') ?_ m0
      ⟨0, none, [], _, I3, st3, f3, w0⟩
    rintro n s4 ⟨i, v0, ys, H4, I4, st4, fr4, w4⟩
    obtain ⟨hD, hh⟩ := turn i n ys H4 w4
    rcases hh with ⟨stop, qn⟩ | ⟨go, N, hN, step⟩
    · refine thn (T.done (blk X scope (x :: caps) cl fp s2 H2 G2.objs.size) rfl rfl rfl hc i [] s4 _ H4 _ I4 (stat fr4) st4 stop) fun r s5 ⟨hr, I5⟩ => ?_
      subst hr
      obtain ⟨J5, g5⟩ := back I5
      obtain ⟨m5, hn5, _⟩ := I5.loc
      cases use with
      | none => exact ⟨m5, hn5, fun h' sb => fin0 rfl _ H4 _ (g5.inv J5 sb) qn⟩
      | some u => exact fin1 u rfl _ H4 s5 _ J5 qn g5 ⟨m5, hn5⟩
    · refine thn (T.item (blk X scope (x :: caps) cl fp s2 H2 G2.objs.size) rfl rfl rfl hc i [] s4 _ H4 (notedBy (model X.prog X.w) X.A (compEnvC scope cl G2.objs.size X.env) fun e s' => compPost (model X.prog X.w) X.A X.xe use Qr (.ref s2.heap.objs.size) G2.objs.size (.error e) s') I4 (stat fr4) st4 go) fun r s5 ⟨u, hr, h5⟩ => ?_
      subst hr
      show wpAny _ _ (letOwnedTupleGo (.Name x px) (.ref it) u >>= fun _ => assign (.Name x px) (compEnvC scope cl G2.objs.size X.env) u) _ _ s5
      refine wpAny_bind (thn h5 fun _ s6 ⟨y6, H6, I6, r6, yl6, st6, fr6⟩ => ?_)
      have I6' := I6.pinned (stat fr6) (T.obj _ _ st6)
      refine thnE (pg_name (X := blk X scope (x :: caps) cl fp s2 H2 G2.objs.size) (i := 0) S.nd rfl (.inl (lookup_relabel_local S.tgt)) (.inr (lookup_relabel_local S.tgt)) _ s6 _ H6 y6 u (fun σ' H' => σ' = some y6 :: (ks.map fun k => σ.getD k none) ∧ H' = H6) I6' r6 ⟨rfl, rfl⟩) fun _ s7 ⟨σ7, H7, I7, e7, e7'⟩ => ?_
      subst e7 e7'
      have again : ∀ {σ' : St} {H' : Hp} {s' : Shared}, Inv (blk X scope (x :: caps) cl fp s2 H2 G2.objs.size) ([] ++ pinsAt fp s6.heap) σ' H' s' → tn (i + 1) s'.heap ∧ ∀ b ∈ fp, H' b = none := fun {σ' H' s'} J' => by
        refine ⟨T.keep _ _ _ st6 fun b hb o e => (J'.pin (b, o) (List.mem_append_right _ (List.mem_append_right _ (mem_pinsAt hb e)))).1, fun b hb => ?_⟩
        obtain ⟨o, e, d⟩ := T.obj _ _ st6 b hb
        exact (J'.pin (b, o) (List.mem_append_right _ (List.mem_append_right _ (mem_pinsAt hb e)))).2.1
      refine thnE (ht cl fp s2 H2 G2.objs.size _ s7 _ H7 _ I7 (step y6 H7 yl6)) fun b s8 ⟨H8, I8, q8⟩ => ?_
      cases b with
      | false =>
        rw [if_neg Bool.false_ne_true] at q8
        obtain ⟨m', hm, w8⟩ := hN _ _ q8
        rw [if_neg Bool.false_ne_true]
        obtain ⟨a1, a2⟩ := again I8
        exact ⟨m', hm, i + 1, _, ys, H8, I8.unpinned, a1, a2, w8⟩
      | true =>
        rw [if_pos rfl] at q8
        rw [if_pos rfl]
        refine thnE (he cl fp s2 H2 G2.objs.size _ s8 _ H8 _ I8 q8) fun yv s9 ⟨y9, H9, I9, r9, hD9, hz9, n9⟩ => ?_
        obtain ⟨m', hm, w9⟩ := hN _ _ n9
        refine thnE (mt_append (X := blk X scope (x :: caps) cl fp s2 H2 G2.objs.size) _ s9 _ H9 (.ref s2.heap.objs.size) [y9] (.ref s2.heap.objs.size) [yv] (fun _ H' => H' = upd H9 s2.heap.objs.size (.lst (ys ++ [y9]))) I9 rfl (.cons r9 .nil) ⟨_, ys, y9, rfl, rfl, hD9, hz9, rfl⟩) fun _ s10 ⟨_, H10, I10, _, e10⟩ => ?_
        subst e10
        obtain ⟨a1, a2⟩ := again I10
        exact ⟨m', hm, i + 1, _, _, _, I10.unpinned, a1, a2, w9⟩
  exact codeAny_compStart_list (loop _ rfl) (T.self _ _ _ _ _ st3 (loop _ rfl))

/-- [elt for x in iter if ..] -/
def tComp (wi : TI) (ks : List Nat) (tt : TT) (te : TE) : TE := fun σ H Q => wi σ H fun J H1 => tCompW J tt te (ks.map fun k => σ.getD k none) Q H1
theorem pe_comp {X : Cx} {elt iter : Expr} {x : Str} {px pos : Pos} {ifs : List Expr} {scope : Scope} {wi : TI} {tt : TT} {te : TE} (ks : List Nat) (caps : List Str)
    (hc : X.calm = true) (hS : cscopeB X.env.scope X.N scope x ks caps = true) (hi : PI X (.Name x px) iter wi)
    (ht : ∀ cl fp s₂ H₂ C, PTs (blk X scope (x :: caps) cl fp s₂ H₂ C) ifs tt) (he : ∀ cl fp s₂ H₂ C, PE (blk X scope (x :: caps) cl fp s₂ H₂ C) elt te)
    (hs : ∀ v, foldedSetIterable iter X.env v = pure v := by intro _; rfl) : PE X (.ListComp elt [⟨.Name x px, iter, ifs, 0⟩] scope pos) (tComp wi ks tt te) := by
  intro pins s σ H Q I h
  rw [eval_ListComp]
  exact comp_core (use := none) (R := Q) hc (CScope.of hS) hi ht he hs I h (fun _ D H' s' I' q => ⟨.ref D, H', I', rfl, q⟩) fun u e => by cases e
/-- name = [elt for x in iter if ..], the name a local -/
theorem ps_setc {X : Cx} {elt iter : Expr} {x y : Str} {px py pos spos : Pos} {ifs : List Expr} {scope : Scope} {wi : TI} {tt : TT} {te : TE} {i : Nat} (ks : List Nat) (caps : List Str)
    (hN : X.N.Nodup) (hi' : X.N[i]? = some y) (hy : X.env.scope.names.lookup y = some .local)
    (hc : X.calm = true) (hS : cscopeB X.env.scope X.N scope x ks caps = true) (hi : PI X (.Name x px) iter wi)
    (ht : ∀ cl fp s₂ H₂ C, PTs (blk X scope (x :: caps) cl fp s₂ H₂ C) ifs tt) (he : ∀ cl fp s₂ H₂ C, PE (blk X scope (x :: caps) cl fp s₂ H₂ C) elt te)
    (hsw : swapsWith (.ListComp elt [⟨.Name x px, iter, ifs, 0⟩] scope pos) (some (.Name y py)) spos.line X.env = pure true)
    (hs : ∀ v, foldedSetIterable iter X.env v = pure v := by intro _; rfl) : PS X (.Assign [.Name y py] (.ListComp elt [⟨.Name x px, iter, ifs, 0⟩] scope pos) spos) (tAsg (tComp wi ks tt te) (gName i)) := by
  intro pins s σ H D I h
  rw [exec_Assign_Name_used _ _ _ _ hsw]
  refine wpAny_bind (wpAny_standAt (wpAny_bind ?_))
  show wpAny _ X.A (do let _ ← comprehension (.ListComp elt [⟨.Name x px, iter, ifs, 0⟩] scope pos) scope X.env _ (newList []) false (eval iter X.env) (some (assign (.Name y py) X.env))) _ _ s
  refine wpAny_bind (thn (comp_core (use := some (assign (.Name y py) X.env)) (Qr := fun _ s' => SP X pins D .next s') (R := fun v H' => gName i v σ H' D.nx) hc (CScope.of hS) hi ht he hs I h (fun e => by cases e) fun u e D' H' s' C I' q G ⟨m, hn⟩ => ?_) fun _ s' q => wpAny_pure (wpAny_pure q))
  cases e
  refine wpAny_assign_Name (store_ok2 I' hN hi' (.inl hy) (v := .ref D') (show RelV (.ref D') (.ref D') from rfl) (fun s'' I'' ⟨a, sb, ha⟩ => ?_) (.inr hy))
  have hCa : C ≠ a := by
    rcases ha with z | z
    · rw [z]; exact G.loc
    · exact Ne.symm (G.cells _ _ z)
  exact ⟨m, hn.sameBut sb hCa, fun h' sb' => ⟨_, H', G.inv I'' sb', q⟩⟩

/-! ### the forms one uses: Pv D i ys H by the new list D, the turn, what is gathered, the heap (D is in it) -/
theorem comp_list {K : PySem.W.Frag} {a : Addr} {xs : List V} {tt : TT} {te : TE} {cv : List (Option V)} {Q : VK} {H1 : Hp} (Pv : Addr → Nat → List V → Hp → Prop) (h0 : ∀ D, H1 D = none → Pv D 0 [] (upd H1 D (.lst [])))
    (hl : ∀ D i ys H, H1 D = none → i ≤ xs.length → Pv D i ys H → H D = some (.lst ys) ∧ SqL K H a xs)
    (hs : ∀ D i x ys H, H1 D = none → xs[i]? = some x → Pv D i ys H → tt (some x :: cv) H fun b H2 => if b = true then te (some x :: cv) H2 (fun y H3 => H3 D = some (.lst ys) ∧ ys.length < sizeLine ∧ Pv D (i + 1) (ys ++ [y]) (upd H3 D (.lst (ys ++ [y])))) else Pv D (i + 1) ys H2)
    (hd : ∀ D ys H, H1 D = none → Pv D xs.length ys H → Q (.ref D) H) : tCompW (Itl K a) tt te cv Q H1 := fun D hD => by
  refine ⟨fun i m ys H => m = xs.length - i ∧ i ≤ xs.length ∧ Pv D i ys H, ⟨xs.length, by simp, Nat.zero_le _, h0 D hD⟩, ?_⟩
  rintro i m ys H ⟨rfl, hi, p⟩
  obtain ⟨q1, q2⟩ := hl D i ys H hD hi p
  refine ⟨q1, ?_⟩
  by_cases hlt : i < xs.length
  · refine .inr ⟨⟨xs, xs[i], q2, by simp [hlt]⟩, Pv D (i + 1), fun ys' H' p' => ⟨xs.length - (i + 1), by omega, rfl, hlt, p'⟩, fun x H' y => ?_⟩
    obtain ⟨e, y⟩ := y
    subst e
    exact hs D i x ys _ hD (y xs q2) p
  · have e : i = xs.length := by omega
    subst e
    exact .inl ⟨⟨xs, q2, Nat.le_refl _⟩, hd D ys H hD p⟩
theorem comp_tup {K : PySem.W.Frag} {a : Addr} {xs : List V} {tt : TT} {te : TE} {cv : List (Option V)} {Q : VK} {H1 : Hp} (Pv : Addr → Nat → List V → Hp → Prop) (h0 : ∀ D, H1 D = none → Pv D 0 [] (upd H1 D (.lst [])))
    (hl : ∀ D i ys H, H1 D = none → i ≤ xs.length → Pv D i ys H → H D = some (.lst ys) ∧ SqT K H a xs)
    (hs : ∀ D i x ys H, H1 D = none → xs[i]? = some x → Pv D i ys H → tt (some x :: cv) H fun b H2 => if b = true then te (some x :: cv) H2 (fun y H3 => H3 D = some (.lst ys) ∧ ys.length < sizeLine ∧ Pv D (i + 1) (ys ++ [y]) (upd H3 D (.lst (ys ++ [y])))) else Pv D (i + 1) ys H2)
    (hd : ∀ D ys H, H1 D = none → Pv D xs.length ys H → Q (.ref D) H) : tCompW (Itt K a) tt te cv Q H1 := fun D hD => by
  refine ⟨fun i m ys H => m = xs.length - i ∧ i ≤ xs.length ∧ Pv D i ys H, ⟨xs.length, by simp, Nat.zero_le _, h0 D hD⟩, ?_⟩
  rintro i m ys H ⟨rfl, hi, p⟩
  obtain ⟨q1, q2⟩ := hl D i ys H hD hi p
  refine ⟨q1, ?_⟩
  by_cases hlt : i < xs.length
  · refine .inr ⟨⟨xs, xs[i], q2, by simp [hlt]⟩, Pv D (i + 1), fun ys' H' p' => ⟨xs.length - (i + 1), by omega, rfl, hlt, p'⟩, fun x H' y => ?_⟩
    obtain ⟨e, y⟩ := y
    subst e
    exact hs D i x ys _ hD (y xs q2) p
  · have e : i = xs.length := by omega
    subst e
    exact .inl ⟨⟨xs, q2, Nat.le_refl _⟩, hd D ys H hD p⟩
theorem comp_range {lo : Int} {n : Nat} {tt : TT} {te : TE} {cv : List (Option V)} {Q : VK} {H1 : Hp} (Pv : Addr → Nat → List V → Hp → Prop) (h0 : ∀ D, H1 D = none → Pv D 0 [] (upd H1 D (.lst [])))
    (hl : ∀ D i ys H, H1 D = none → i ≤ n → Pv D i ys H → H D = some (.lst ys))
    (hs : ∀ D i ys H, H1 D = none → i < n → Pv D i ys H → tt (some (.int (lo + i)) :: cv) H fun b H2 => if b = true then te (some (.int (lo + i)) :: cv) H2 (fun y H3 => H3 D = some (.lst ys) ∧ ys.length < sizeLine ∧ Pv D (i + 1) (ys ++ [y]) (upd H3 D (.lst (ys ++ [y])))) else Pv D (i + 1) ys H2)
    (hd : ∀ D ys H, H1 D = none → Pv D n ys H → Q (.ref D) H) : tCompW (Itr lo n) tt te cv Q H1 := fun D hD => by
  refine ⟨fun i m ys H => m = n - i ∧ i ≤ n ∧ Pv D i ys H, ⟨n, by simp, Nat.zero_le _, h0 D hD⟩, ?_⟩
  rintro i m ys H ⟨rfl, hi, p⟩
  refine ⟨hl D i ys H hD hi p, ?_⟩
  by_cases hlt : i < n
  · refine .inr ⟨hlt, Pv D (i + 1), fun ys' H' p' => ⟨n - (i + 1), by omega, rfl, hlt, p'⟩, fun x H' y => ?_⟩
    obtain ⟨e, y⟩ := y
    subst e y
    exact hs D i ys _ hD hlt p
  · have e : i = n := by omega
    subst e
    exact .inl ⟨Nat.le_refl _, hd D ys H hD p⟩
end L3

set_option Elab.async false
set_option linter.all false
set_option maxRecDepth 100000
set_option maxHeartbeats 4000000
namespace L3
open PySem PySem.Spec L2
open PyProof.Rows hiding St

/-! ### data: what a value stands for, over the abstract heap -/
mutual
def RepD (K : PySem.W.Frag) (H : Hp) : PyData → V → Prop
  | .none, v => v = .non
  | .bool b, v => v = .bl b
  | .int i, v => v = .int i
  | .str x, v => v = .str x
  | .tuple ds, v => ∃ a xs, v = .ref a ∧ SqT K H a xs ∧ RepDs K H ds xs
  | .list ds, v => ∃ a xs, v = .ref a ∧ SqL K H a xs ∧ RepDs K H ds xs
  | .dict _, _ => False
def RepDs (K : PySem.W.Frag) (H : Hp) : List PyData → List V → Prop
  | [], xs => xs = []
  | d :: ds, xs => ∃ x r, xs = x :: r ∧ RepD K H d x ∧ RepDs K H ds r
end

section
variable {X : Cx} {pins : List (Addr × Obj)} {σ : St} {H : Hp} {s : Shared}
mutual
theorem RepD.reads (I : Inv X pins σ H s) : ∀ (d : PyData) (v : V) (u : Value), RepD X.K H d v → RelV v u → ∃ as, Reads s.heap u d as
  | .none, v, u, h, r => by
    have h : v = .non := by simpa only [RepD] using h
    subst h; cases r; exact ⟨_, .none⟩
  | .bool b, v, u, h, r => by
    have h : v = .bl b := by simpa only [RepD] using h
    subst h; cases r; exact ⟨_, .bool b⟩
  | .int i, v, u, h, r => by
    have h : v = .int i := by simpa only [RepD] using h
    subst h; obtain ⟨t, rfl⟩ := r; exact ⟨_, .int i t⟩
  | .str x, v, u, h, r => by
    have h : v = .str x := by simpa only [RepD] using h
    subst h; obtain ⟨t, rfl⟩ := r; exact ⟨_, .str x t⟩
  | .tuple ds, v, u, h, r => by
    obtain ⟨a, xs, rfl, q, rs⟩ : ∃ a xs, v = .ref a ∧ SqT X.K H a xs ∧ RepDs X.K H ds xs := by simpa only [RepD] using h
    cases r
    obtain ⟨its, rv, ⟨o, ho, hc, n, hd⟩, _⟩ := I.tuple q
    obtain ⟨as, ra⟩ := RepDs.reads I ds xs its rs rv
    exact ⟨_, .tuple ho hc hd (by simpa using ra)⟩
  | .list ds, v, u, h, r => by
    obtain ⟨a, xs, rfl, q, rs⟩ : ∃ a xs, v = .ref a ∧ SqL X.K H a xs ∧ RepDs X.K H ds xs := by simpa only [RepD] using h
    cases r
    obtain ⟨its, rv, p, _⟩ := I.list q
    obtain ⟨o, ho, hc, n, hd⟩ := p.isList
    obtain ⟨as, ra⟩ := RepDs.reads I ds xs its rs rv
    exact ⟨_, .list ho hc hd (by simpa using ra)⟩
  | .dict _, v, u, h, r => by
    have h : False := by simpa only [RepD] using h
    exact h.elim
theorem RepDs.reads (I : Inv X pins σ H s) : ∀ (ds : List PyData) (xs : List V) (us : List Value), RepDs X.K H ds xs → Vals xs us → ∃ as, ReadsAll s.heap us ds as
  | [], xs, us, h, r => by
    have h : xs = [] := by simpa only [RepDs] using h
    subst h; cases r; exact ⟨_, .nil⟩
  | d :: ds, xs, us, h, r => by
    obtain ⟨x, r', rfl, h1, h2⟩ : ∃ x r, xs = x :: r ∧ RepD X.K H d x ∧ RepDs X.K H ds r := by simpa only [RepDs] using h
    cases r with
    | cons p q =>
      obtain ⟨as, ra⟩ := RepD.reads I d _ _ h1 p
      obtain ⟨bs, rb⟩ := RepDs.reads I ds _ _ h2 q
      exact ⟨_, .cons ra rb⟩
end

/-- what never changes -/
structure Imm (H H' : Hp) : Prop where
  tup : ∀ b xs, H b = some (.tup xs) → H' b = some (.tup xs)
  frz : ∀ b o u, H b = some (.frz o u) → H' b = some (.frz o u)
theorem Imm.refl (H : Hp) : Imm H H := ⟨fun _ _ h => h, fun _ _ _ h => h⟩
theorem Imm.trans {H H1 H2 : Hp} (a : Imm H H1) (b : Imm H1 H2) : Imm H H2 := ⟨fun c xs h => b.tup c xs (a.tup c xs h), fun c o u h => b.frz c o u (a.frz c o u h)⟩
theorem _root_.L2.Same.imm {H H' : Hp} (e : Same H H') : Imm H H' := ⟨fun _ _ h => e _ _ h, fun _ _ _ h => e _ _ h⟩
theorem Imm.sqT {K : PySem.W.Frag} {H H' : Hp} (e : Imm H H') {a : Addr} {xs : List V} (h : SqT K H a xs) : SqT K H' a xs := by
  rcases h with (h | ⟨o, h⟩) | h
  · exact .inl (.inl (e.tup _ _ h))
  · exact .inl (.inr ⟨o, e.frz _ _ _ h⟩)
  · exact .inr h
theorem _root_.L2.Same.sqT {K : PySem.W.Frag} {H H' : Hp} (e : Same H H') {a : Addr} {xs : List V} (h : SqT K H a xs) : SqT K H' a xs := e.imm.sqT h
/-- a new object laid -/
theorem same_new {H : Hp} {p : Addr} {o : HO} (h : H p = none) : Same H (upd H p o) := fun b u e => by rw [upd_ne (ne_of_none e h)]; exact e
theorem imm_lst {H : Hp} {p : Addr} {xs ys : List V} (h : H p = some (.lst xs)) : Imm H (upd H p (.lst ys)) :=
  ⟨fun b zs e => by rw [upd_ne (ne_of e h (by intro z; cases z))]; exact e, fun b o u e => by rw [upd_ne (ne_of e h (by intro z; cases z))]; exact e⟩
theorem imm_ins {H : Hp} {p C dx C' dx' : Addr} {fs gs : List (Str × V)} (h : H p = some (.ins C dx fs)) : Imm H (upd H p (.ins C' dx' gs)) :=
  ⟨fun b zs e => by rw [upd_ne (ne_of e h (by intro z; cases z))]; exact e, fun b o u e => by rw [upd_ne (ne_of e h (by intro z; cases z))]; exact e⟩

/-! data without a list in it -/
mutual
def noList : PyData → Bool
  | .none | .bool _ | .int _ | .str _ => true
  | .tuple ds => noLists ds
  | _ => false
def noLists : List PyData → Bool
  | [] => true
  | d :: ds => noList d && noLists ds
end
mutual
theorem RepD.imm {K : PySem.W.Frag} {H H' : Hp} (e : Imm H H') : ∀ (d : PyData) (v : V), noList d = true → RepD K H d v → RepD K H' d v
  | .none, v, _, h => by simpa only [RepD] using h
  | .bool b, v, _, h => by simpa only [RepD] using h
  | .int i, v, _, h => by simpa only [RepD] using h
  | .str x, v, _, h => by simpa only [RepD] using h
  | .tuple ds, v, n, h => by
    obtain ⟨a, xs, rfl, q, rs⟩ : ∃ a xs, v = .ref a ∧ SqT K H a xs ∧ RepDs K H ds xs := by simpa only [RepD] using h
    simp only [RepD]
    exact ⟨a, xs, rfl, e.sqT q, RepDs.imm e ds xs (by simpa only [noList] using n) rs⟩
  | .list ds, v, n, h => by simp [noList] at n
  | .dict _, v, n, h => by simp [noList] at n
theorem RepDs.imm {K : PySem.W.Frag} {H H' : Hp} (e : Imm H H') : ∀ (ds : List PyData) (xs : List V), noLists ds = true → RepDs K H ds xs → RepDs K H' ds xs
  | [], xs, _, h => by simpa only [RepDs] using h
  | d :: ds, xs, n, h => by
    obtain ⟨x, r', rfl, h1, h2⟩ : ∃ x r, xs = x :: r ∧ RepD K H d x ∧ RepDs K H ds r := by simpa only [RepDs] using h
    simp only [noLists, Bool.and_eq_true] at n
    simp only [RepDs]
    exact ⟨x, r', rfl, RepD.imm e d x n.1 h1, RepDs.imm e ds r' n.2 h2⟩
end
mutual
theorem RepD.same {K : PySem.W.Frag} {H H' : Hp} (e : Same H H') : ∀ (d : PyData) (v : V), RepD K H d v → RepD K H' d v
  | .none, v, h => by simpa only [RepD] using h
  | .bool b, v, h => by simpa only [RepD] using h
  | .int i, v, h => by simpa only [RepD] using h
  | .str x, v, h => by simpa only [RepD] using h
  | .tuple ds, v, h => by
    obtain ⟨a, xs, rfl, q, rs⟩ : ∃ a xs, v = .ref a ∧ SqT K H a xs ∧ RepDs K H ds xs := by simpa only [RepD] using h
    simp only [RepD]
    exact ⟨a, xs, rfl, e.sqT q, RepDs.same e ds xs rs⟩
  | .list ds, v, h => by
    obtain ⟨a, xs, rfl, q, rs⟩ : ∃ a xs, v = .ref a ∧ SqL K H a xs ∧ RepDs K H ds xs := by simpa only [RepD] using h
    simp only [RepD]
    exact ⟨a, xs, rfl, e.seq q, RepDs.same e ds xs rs⟩
  | .dict _, v, h => by
    have h : False := by simpa only [RepD] using h
    exact h.elim
theorem RepDs.same {K : PySem.W.Frag} {H H' : Hp} (e : Same H H') : ∀ (ds : List PyData) (xs : List V), RepDs K H ds xs → RepDs K H' ds xs
  | [], xs, h => by simpa only [RepDs] using h
  | d :: ds, xs, h => by
    obtain ⟨x, r', rfl, h1, h2⟩ : ∃ x r, xs = x :: r ∧ RepD K H d x ∧ RepDs K H ds r := by simpa only [RepDs] using h
    simp only [RepDs]
    exact ⟨x, r', rfl, RepD.same e d x h1, RepDs.same e ds r' h2⟩
end

/-! ### == and != of data -/
def rEqD (K : PySem.W.Frag) (n : Nat) : R2 := fun x y H Q => ∃ d d', RepD K H d x ∧ RepD K H d' y ∧ d.canLay0 = true ∧ d'.canLay0 = true ∧ min d.depth d'.depth ≤ n ∧ Q (.bl (PyData.eqv d d')) H
def rNeD (K : PySem.W.Frag) (n : Nat) : R2 := fun x y H Q => ∃ d d', RepD K H d x ∧ RepD K H d' y ∧ d.canLay0 = true ∧ d'.canLay0 = true ∧ min d.depth d'.depth ≤ n ∧ Q (.bl (!PyData.eqv d d')) H
theorem op_eqD {n : Nat} (hu : X.A.units + n < cLine) : OpR X (compareOp .Eq) (rEqD X.K n) := by
  intro pins s σ H x y v u Q I rx ry h
  obtain ⟨d, d', h1, h2, c1, c2, hd, q⟩ := h
  obtain ⟨as, ra⟩ := RepD.reads I d x v h1 rx
  obtain ⟨bs, rb⟩ := RepD.reads I d' y u h2 ry
  exact SeqAt.compareEq_reads ra rb c1 c2 (by omega) ⟨.bl _, H, I, rfl, q⟩
theorem op_neD {n : Nat} (hu : X.A.units + n < cLine) : OpR X (compareOp .NotEq) (rNeD X.K n) := by
  intro pins s σ H x y v u Q I rx ry h
  obtain ⟨d, d', h1, h2, c1, c2, hd, q⟩ := h
  obtain ⟨as, ra⟩ := RepD.reads I d x v h1 rx
  obtain ⟨bs, rb⟩ := RepD.reads I d' y u h2 ry
  exact SeqAt.compareNe_reads ra rb c1 c2 (by omega) ⟨.bl _, H, I, rfl, q⟩
/-- x not in a list of data -/
def rInD (K : PySem.W.Frag) (n : Nat) (neg : Bool) : R2 := fun x y H Q => ∃ d ds, RepD K H d x ∧ RepD K H (.list ds) y ∧ d.canLay0 = true ∧ PyData.canLayAll0 ds = true ∧ min (PyData.depthAll ds) d.depth ≤ n ∧
  Q (.bl (if neg then !ds.any fun y => PyData.eqv y d else ds.any fun y => PyData.eqv y d)) H
theorem op_inD {n : Nat} (hu : X.A.units + 1 + n < cLine) : OpR X (compareOp .In) (rInD X.K n false) := by
  intro pins s σ H x y v u Q I rx ry h
  obtain ⟨d, ds, h1, h2, c1, c2, hd, q⟩ := h
  obtain ⟨as, ra⟩ := RepD.reads I d x v h1 rx
  obtain ⟨bs, rb⟩ := RepD.reads I _ y u h2 ry
  exact SeqAt.in_list_reads rb ra c2 c1 (by omega) ⟨.bl _, H, I, rfl, q⟩
theorem op_notInD {n : Nat} (hu : X.A.units + 1 + n < cLine) : OpR X (compareOp .NotIn) (rInD X.K n true) := by
  intro pins s σ H x y v u Q I rx ry h
  obtain ⟨d, ds, h1, h2, c1, c2, hd, q⟩ := h
  obtain ⟨as, ra⟩ := RepD.reads I d x v h1 rx
  obtain ⟨bs, rb⟩ := RepD.reads I _ y u h2 ry
  exact SeqAt.notIn_list_reads rb ra c2 c1 (by omega) ⟨.bl _, H, I, rfl, q⟩

/-! ### all(list of bools), isinstance -/
theorem truth_bools {P : Program} {w : World} {A : Around} {bs : List Bool} {its : List Value} (hv : Vals (bs.map V.bl) its) :
    TruthOf P w A (fun i v => its.toArray[i]? = some v) (fun i => bs.getD i false) := by
  intro i v s Q E hP hQ
  have hP' : its[i]? = some v := by simpa using hP
  have hl : (bs.map V.bl).length = its.length := hv.length
  have hi : i < its.length := (List.getElem?_eq_some_iff.mp hP').1
  have hi' : i < bs.length := by rw [List.length_map] at hl; omega
  obtain ⟨u, hu, ru⟩ := hv.get (i := i) (x := .bl (bs.getD i false)) (by simp [List.getElem?_map, List.getD_eq_getElem?_getD, List.getElem?_eq_getElem hi'])
  rw [hP'] at hu
  cases hu
  cases ru
  exact wpAny_truthy_bool hQ
theorem all_range {bs : List Bool} : (List.range bs.length).all (fun i => bs.getD i false) = bs.all id := by
  rw [Bool.eq_iff_iff]
  simp only [List.all_eq_true, List.mem_range, id]
  constructor
  · intro h b hb
    obtain ⟨i, hi, rfl⟩ := List.mem_iff_getElem.mp hb
    have := h i hi
    simpa [List.getD_eq_getElem?_getD, List.getElem?_eq_getElem hi] using this
  · intro h i hi
    have := h bs[i] (List.getElem_mem hi)
    simpa [List.getD_eq_getElem?_getD, List.getElem?_eq_getElem hi] using this
theorem boot_all : bootBuiltins "all" = some (.builtin "all") := by decide +kernel
theorem boot_max : bootBuiltins "max" = some (.builtin "max") := by decide +kernel
theorem boot_isi : bootBuiltins "isinstance" = some (.builtin "isinstance") := by decide +kernel
theorem boot_tup : bootBuiltins "tuple" = some (.type "tuple") := by decide +kernel
theorem boot_bl : bootBuiltins "bool" = some (.type "bool") := by decide +kernel
theorem boot_lst : bootBuiltins "list" = some (.type "list") := by decide +kernel
theorem boot_it : bootBuiltins "int" = some (.type "int") := by decide +kernel
theorem call_all (hc : X.calm = true) : CallR X (.builtin "all") (fun xs H Q => ∃ (p : Addr) (bs : List Bool), xs = [.ref p] ∧ SqL X.K H p (bs.map V.bl) ∧ Q (.bl (bs.all id)) H) := by
  intro pins s σ H xs us Q I r h
  obtain ⟨p, bs, rfl, hq, q⟩ := h
  obtain ⟨u, rfl, rx⟩ := vals1 r
  cases rx
  obtain ⟨its, rv, pl, hz⟩ := I.list hq
  have hlen := rv.length
  rw [List.length_map] at hlen
  obtain ⟨op, hop, _⟩ := pl.isList
  refine call_all_walk (wpAny_pyIter_list pl.isList ?_)
  refine ⟨s.heap.objs.size, _, _, _, _, _, fun i => bs.getD i false, rfl, Walks.list (A := X.A.in1) (show X.A.in1.handled = none from I.ok.hd hc) s.heap.objs.size p (Nat.ne_of_lt (Heap.lt_size hop)) its.toArray, ⟨⟨_, Heap.get?_push_size _ rfl, rfl, rfl⟩, by obtain ⟨o, ho, hh⟩ := pl.isList; exact ⟨o, Heap.get?_push_of_some _ ho, hh⟩⟩, truth_bools rv, fun h' tk kk => ?_⟩
  refine ⟨.bl _, H, I.kept (t' := tk) (h' := h') fun b o e => kk b o (by simp; exact Nat.ne_of_lt (Heap.lt_size e)) (Heap.get?_push_of_some _ e), ?_, q⟩
  rw [List.size_toArray, ← hlen, all_range]
  exact rfl
theorem ixT {X : Cx} (K : PySem.W.Frag) (h : X.K = K := by rfl) : IxR X (rIxT K) := h ▸ ix_tup
theorem ixL {X : Cx} (K : PySem.W.Frag) (h : X.K = K := by rfl) : IxR X (rIxL K) := h ▸ ix_list
theorem room_data {k : Nat} {A : Around} (hr : Room k A) : A.units + 10 < cLine := by have := hr.units; omega
theorem room_in {k : Nat} {A : Around} (hr : Room k A) : A.units + 1 + 10 < cLine := by have := hr.units; omega
theorem same_upd {H H' : Hp} {p : Addr} {o : HO} (e : Same H H') (h : H p = none) : Same H (upd H' p o) := fun b u z => by rw [upd_ne (ne_of_none z h)]; exact e b u z
end
end L3

set_option Elab.async false
set_option linter.all false
set_option maxRecDepth 100000
set_option maxHeartbeats 4000000
namespace L3
open PySem PySem.Spec L2
open PyProof.Rows hiding St
section
variable {X : Cx}
/-- isinstance(x, T), T one class -/
theorem call_isi : CallR X (.builtin "isinstance") (fun xs H Q => ∃ x T t b, xs = [x, .ty T] ∧ TyOf X.K H x t ∧ PySem.W.kitOne X.K t (.type T) = some b ∧ Q (.bl b) H) := by
  intro pins s σ H xs us Q I r h
  obtain ⟨x, T, t, b, rfl, ty, e, q⟩ := h
  obtain ⟨u, v, rfl, ru, rv⟩ := vals2 r
  obtain rfl : v = Value.type T := rv
  exact isinst_ok I ru ty e fun tk => ⟨.bl b, H, I.tok tk, rfl, q⟩
theorem call_isiC : CallR X (.builtin "isinstance") (fun xs H Q => ∃ x C t b, xs = [x, .ref C] ∧ TyOf X.K H x t ∧ PySem.W.kitOne X.K t (.ref C) = some b ∧ Q (.bl b) H) := by
  intro pins s σ H xs us Q I r h
  obtain ⟨x, C, t, b, rfl, ty, e, q⟩ := h
  obtain ⟨u, v, rfl, ru, rv⟩ := vals2 r
  obtain rfl : v = Value.ref C := rv
  exact isinst_ok I ru ty e fun tk => ⟨.bl b, H, I.tok tk, rfl, q⟩
theorem kit_bool {K : PySem.W.Frag} : PySem.W.kitOne K (.type "bool") (.type "bool") = some true := rfl
theorem kit_int {K : PySem.W.Frag} : PySem.W.kitOne K (.type "int") (.type "int") = some true := rfl
end
end L3

set_option Elab.async false
set_option linter.all false
set_option maxRecDepth 100000
set_option maxHeartbeats 4000000
namespace L3
open PySem PySem.Spec L2
open PyProof.Rows hiding St

/-! ### the layer's rules, with what they ask of names checked by one run of the kernel -/
def seenB (N : List Str) (sc : Scope) : Bool := N.all fun x => (sc.names.lookup x == some .local || sc.names.lookup x == some .cell || sc.names.lookup x == some .free) && !(x == ("__debug__" : Str)) && !(x == ("__classdict__" : Str))
def ownB (N : List Str) (sc : Scope) : Bool := seenB N sc && decide N.Nodup && N.all fun x => sc.names.lookup x == some .local || sc.names.lookup x == some .cell
/-- the names of a context can be read -/
structure Seen (X : Cx) : Prop where
  vis : ∀ (i : Nat) x, X.N[i]? = some x → Vis X.env.scope x ∧ (x == ("__debug__" : Str)) = false ∧ (x == ("__classdict__" : Str)) = false
/-- .. and stored -/
structure Own (X : Cx) : Prop extends Seen X where
  nd : X.N.Nodup
  loc : ∀ (i : Nat) x, X.N[i]? = some x → Loc X.env.scope x
theorem Seen.of {X : Cx} (h : seenB X.N X.env.scope = true) : Seen X := ⟨fun i x e => by
  have := List.all_eq_true.mp h x (List.mem_of_getElem? e)
  simp only [Bool.and_eq_true, Bool.or_eq_true, beq_iff_eq, Bool.not_eq_true'] at this
  obtain ⟨⟨h1, h2⟩, h3⟩ := this
  refine ⟨?_, h2, h3⟩
  rcases h1 with (h | h) | h
  · exact .inl h
  · exact .inr (.inl h)
  · exact .inr (.inr h)⟩
theorem Own.of {X : Cx} (h : ownB X.N X.env.scope = true) : Own X := by
  unfold ownB at h
  rw [Bool.and_eq_true, Bool.and_eq_true] at h
  refine ⟨Seen.of h.1.1, of_decide_eq_true h.1.2, fun i x e => ?_⟩
  have := List.all_eq_true.mp h.2 x (List.mem_of_getElem? e)
  simp only [Bool.or_eq_true, beq_iff_eq] at this
  exact this

/-! ### plain arguments -/
def isStar : Expr → Bool
  | .Starred _ _ => true
  | _ => false
def isSlc : Expr → Bool
  | .Slice _ _ _ _ => true
  | _ => false
def isComp : Expr → Bool
  | .ListComp _ _ _ _ => true
  | .SetComp _ _ _ _ => true
  | .DictComp _ _ _ _ _ => true
  | _ => false
def noStars : List Expr → Bool
  | [] => true
  | e :: es => !isStar e && noStars es
theorem star_cons {e : Expr} {es : List Expr} {env : Env} (h : isStar e = false) : starEach (e :: es) env = (false, eval e env) :: starEach es env := by
  cases e <;> first | rfl | cases h
theorem back_any {pos : Pos} {env : Env} : ∀ {es : List Expr}, noStars es = true → (backTo pos (starEach es env)).any (·.1) = false
  | [], _ => rfl
  | e :: es, h => by
    simp only [noStars, Bool.and_eq_true, Bool.not_eq_true'] at h
    rw [star_cons h.1]
    show (false || (backTo pos (starEach es env)).any (·.1)) = false
    rw [back_any h.2]
    rfl
theorem back_all {pos : Pos} {env : Env} : ∀ {es : List Expr}, noStars es = true → (backTo pos (starEach es env)).all (fun x => !x.1) = true
  | [], _ => rfl
  | e :: es, h => by
    simp only [noStars, Bool.and_eq_true, Bool.not_eq_true'] at h
    rw [star_cons h.1]
    show (!false && (backTo pos (starEach es env)).all (fun x => !x.1)) = true
    rw [back_all h.2]
    rfl
theorem swaps_no {e : Expr} {t : Option Expr} {l : Nat} {env : Env} (h : isComp e = false) : swapsWith e t l env = pure false := by
  cases e <;> first | rfl | cases h
theorem plain_ix {b : Expr} (h : isSlc b = false) : PlainIx b := by
  intro o i
  cases b <;> first | rfl | cases h
theorem few_of {pos : Pos} {env : Env} {e : Expr} {es : List Expr} (h : noStars (e :: es) = true) (hl : (e :: es).length < 20) :
    ((backTo pos (starEach (e :: es) env)).all (fun x => !x.1) && (backToKw pos (keywordEach [] env)).all (fun x => x.1.isSome)
      && decide ((e :: es).length + ([] : List Keyword).length + (if ([] : List Keyword).isEmpty then 0 else 1) < 30)) = true := by
  rw [back_all h]
  simp only [Bool.true_and, Bool.and_eq_true]
  refine ⟨rfl, decide_eq_true ?_⟩
  simp only [List.length_cons, List.length_nil, List.isEmpty_nil, if_true] at hl ⊢
  omega

section
variable {X : Cx}
theorem Seen.v (S : Seen X) (i : Nat) {x : Str} {pos : Pos} (hN : X.N[i]? = some x := by rfl) : PE X (.Name x pos) (tVar i) := pe_var hN (S.vis i x hN).1 (S.vis i x hN).2.1 (S.vis i x hN).2.2
theorem Own.v (S : Own X) (i : Nat) {x : Str} {pos : Pos} (hN : X.N[i]? = some x := by rfl) : PE X (.Name x pos) (tVar i) := S.toSeen.v i hN
theorem Own.set (S : Own X) (i : Nat) {x : Str} {e : Expr} {te : TE} {pos pos' : Pos} (he : PE X e te) (hN : X.N[i]? = some x := by rfl) (hs : isComp e = false := by rfl) (hf : X.fn x = true := by rfl) :
    PS X (.Assign [.Name x pos'] e pos) (tAsg te (gName i)) := ps_set S.nd hN (S.loc i x hN) he (swaps_no hs) (.inl hf)
theorem Own.tg (S : Own X) (i : Nat) {x : Str} {pos : Pos} (hN : X.N[i]? = some x := by rfl) (hf : X.fn x = true := by rfl) : PG X (.Name x pos) (gName i) := pg_name S.nd hN (S.loc i x hN) (.inl hf)

def glB (sc : Scope) (x : Str) : Bool := (sc.names.lookup x == some .globalImplicit) && !(x == ("__name__" : Str)) && !(x == ("__debug__" : Str))
theorem gl_of {x : Str} (h : glB X.env.scope x = true) : Gl X x ∧ x ≠ "__name__" ∧ (x == ("__debug__" : Str)) = false := by
  unfold glB at h
  simp only [Bool.and_eq_true, beq_iff_eq, Bool.not_eq_true'] at h
  refine ⟨h.1.1, fun e => ?_, h.2⟩
  have := h.1.2
  rw [e] at this
  simp at this
theorem cB {x : Str} {p pos : Pos} {e : Expr} {es : List Expr} {t : TA} {id : String} {r : List V → Hp → VK → Prop} (hc : CallR X (.builtin id) r) (hm : X.mg x = none) (hv : bootBuiltins x = some (.builtin id)) (ha : PA X (e :: es) t) (hg : glB X.env.scope x = true := by kernel_rfl)
    (h1 : isStar e = false := by rfl) (h2 : noStars es = true := by rfl) : PE X (.Call (.Name x p) (e :: es) [] pos) (tCB r t) :=
  pe_callB hc (gl_of hg).1 hm hv ha (gl_of hg).2.1 (gl_of hg).2.2 (star_cons h1) (back_any h2)
theorem cT {x : Str} {p pos : Pos} {e : Expr} {es : List Expr} {t : TA} {T : String} {r : List V → Hp → VK → Prop} (hc : CallR X (.type T) r) (hm : X.mg x = none) (hv : bootBuiltins x = some (.type T)) (ha : PA X (e :: es) t) (hg : glB X.env.scope x = true := by kernel_rfl)
    (h1 : isStar e = false := by rfl) (h2 : noStars es = true := by rfl) : PE X (.Call (.Name x p) (e :: es) [] pos) (tCB r t) :=
  pe_callTy hc (gl_of hg).1 hm hv ha (gl_of hg).2.1 (gl_of hg).2.2 (star_cons h1) (back_any h2)
/-- a def of the text, called -/
theorem cF {CX : CXT} {k : Nat} {f : Addr} {fd : FuncData} {ps : List Str} {sp : Sp} {ds : List Value} {dvs : List V} {E : XK} {x : Str} {p pos : Pos} {e : Expr} {es : List Expr} {t : TA}
    (F : FnOk X.prog X.w X.K X.mg X.base CX k f fd ps sp) (hr : Room k X.A) (hm : X.mg x = some (.ref f)) (hk : PySem.W.keepIn X.K (.ref f) = true) (hb : Binds X.K fd ps ds) (hd : Vals dvs ds) (hx : Passes CX X E) (ha : PA X (e :: es) t) (hg : glB X.env.scope x = true := by kernel_rfl)
    (h1 : isStar e = false := by rfl) (h2 : noStars es = true := by rfl) : PE X (.Call (.Name x p) (e :: es) [] pos) (tCall sp dvs E t) :=
  pe_call F hr (gl_of hg).1 hm hk hb hd hx ha (gl_of hg).2.2 (star_cons h1) (back_any h2)
/-- a built-in class by its name -/
theorem nT {x : Str} {T : String} {pos : Pos} (hm : X.mg x = none) (hv : bootBuiltins x = some (.type T)) (hg : glB X.env.scope x = true := by kernel_rfl) : PE X (.Name x pos) (tC (.ty T)) :=
  pe_bltn (gl_of hg).1 hm hv (v := .ty T) rfl (gl_of hg).2.1 (gl_of hg).2.2
theorem rng1 {tg a : Expr} {ta : TA} {p pos : Pos} (hm : X.mg "range" = none) (ha : PA X [a] ta) (hg : glB X.env.scope "range" = true := by kernel_rfl) (h1 : isStar a = false := by rfl) : PI X tg (.Call (.Name "range" p) [a] [] pos) (iRng1 ta) :=
  pi_range1 (gl_of hg).1 hm ha (star_cons h1)
theorem aC {e : Expr} {es : List Expr} {te : TE} {t : TA} (ha : PE X e te) (hr : PA X es t) (h1 : isStar e = false := by rfl) : PA X (e :: es) (tCons te t) := pa_cons ha hr (star_cons h1)
theorem iX {r : R2} {a b : Expr} {ta tb : TE} {pos : Pos} (hr : IxR X r) (ha : PE X a ta) (hb : PE X b tb) (h1 : isSlc b = false := by rfl) : PE X (.Subscript a b pos) (tOp r ta tb) := pe_ix hr ha hb (plain_ix h1)
theorem bM {o e : Expr} {es : List Expr} {to : TE} {t : TA} {name : Str} {apos cpos : Pos} {T id : String} {r : V → List V → Hp → VK → Prop} (pa : PlainAttrs T) (slot : Slot T name id) (hty : typeOf (.builtin id) = pure (.type "method_descriptor")) (hm : MtR X id r) (ho : PE X o to) (ha : PA X (e :: es) t)
    (hbase : attributeBase o name X.env (eval o X.env) = eval o X.env := by rfl) (h1 : noStars (e :: es) = true := by rfl) (hl : (e :: es).length < 20 := by decide)
    (hline : (apos.endLine == cpos.line) = true := by rfl) : PE X (.Call (.Attribute o name apos) (e :: es) [] cpos) (tBM X.K T r to t) := by
  have h2 : isStar e = false ∧ noStars es = true := by simpa [noStars] using h1
  exact pe_bm pa slot hty hm ho ha hbase (few_of h1 hl) hline (star_cons h2.1) (back_any h2.2)
/-- xs.append(e) -/
theorem mApp {o e : Expr} {to te : TE} {apos cpos : Pos} (ho : PE X o to) (ha : PE X e te) (hbase : attributeBase o "append" X.env (eval o X.env) = eval o X.env := by rfl) (h1 : isStar e = false := by rfl) (hline : (apos.endLine == cpos.line) = true := by rfl) :
    PE X (.Call (.Attribute o "append" apos) [e] [] cpos) (tBM X.K "list" rAppend to (tCons te tNil)) :=
  bM PySem.F.plainAttrs_list PySem.F.slot_list_append PySem.F.type_list_append mt_append ho (aC ha pa_nil h1) hbase (by simp [noStars, h1]) (by show 1 < 20; decide) hline
/-- the same from the check itself -/
theorem oV (B : ownB X.N X.env.scope = true) (i : Nat) {x : Str} {pos : Pos} (hN : X.N[i]? = some x := by rfl) : PE X (.Name x pos) (tVar i) := (Own.of B).v i hN
theorem oS (B : ownB X.N X.env.scope = true) (i : Nat) {x : Str} {e : Expr} {te : TE} {pos pos' : Pos} (he : PE X e te) (hN : X.N[i]? = some x := by rfl) (hs : isComp e = false := by rfl) (hf : X.fn x = true := by rfl) :
    PS X (.Assign [.Name x pos'] e pos) (tAsg te (gName i)) := (Own.of B).set i he hN hs hf
theorem oT (B : ownB X.N X.env.scope = true) (i : Nat) {x : Str} {pos : Pos} (hN : X.N[i]? = some x := by rfl) (hf : X.fn x = true := by rfl) : PG X (.Name x pos) (gName i) := (Own.of B).tg i hN hf
theorem sV (i : Nat) {x : Str} {pos : Pos} (hN : X.N[i]? = some x := by rfl) (B : seenB X.N X.env.scope = true := by kernel_rfl) : PE X (.Name x pos) (tVar i) := (Seen.of B).v i hN
/-- name = [.. for ..] -/
theorem oC {elt iter : Expr} {x y : Str} {px py pos spos : Pos} {ifs : List Expr} {scope : Scope} {wi : TI} {tt : TT} {te : TE} (B : ownB X.N X.env.scope = true) (i : Nat) (ks : List Nat) (caps : List Str)
    (hc : X.calm = true) (hi : PI X (.Name x px) iter wi)
    (ht : ∀ cl fp s₂ H₂ C, PTs (blk X scope (x :: caps) cl fp s₂ H₂ C) ifs tt) (he : ∀ cl fp s₂ H₂ C, PE (blk X scope (x :: caps) cl fp s₂ H₂ C) elt te) (hN : X.N[i]? = some y := by rfl)
    (hy : (X.env.scope.names.lookup y == some .local) = true := by kernel_rfl) (hS : cscopeB X.env.scope X.N scope x ks caps = true := by kernel_rfl)
    (hsw : swapsWith (.ListComp elt [⟨.Name x px, iter, ifs, 0⟩] scope pos) (some (.Name y py)) spos.line X.env = pure true := by kernel_rfl)
    (hs : ∀ v, foldedSetIterable iter X.env v = pure v := by intro _; rfl) : PS X (.Assign [.Name y py] (.ListComp elt [⟨.Name x px, iter, ifs, 0⟩] scope pos) spos) (tAsg (tComp wi ks tt te) (gName i)) :=
  ps_setc ks caps (Own.of B).nd hN (beq_iff_eq.mp hy) hc hS hi ht he hsw hs
/-- [.. for ..] -/
theorem eC {elt iter : Expr} {x : Str} {px pos : Pos} {ifs : List Expr} {scope : Scope} {wi : TI} {tt : TT} {te : TE} (ks : List Nat) (caps : List Str)
    (hc : X.calm = true) (hi : PI X (.Name x px) iter wi)
    (ht : ∀ cl fp s₂ H₂ C, PTs (blk X scope (x :: caps) cl fp s₂ H₂ C) ifs tt) (he : ∀ cl fp s₂ H₂ C, PE (blk X scope (x :: caps) cl fp s₂ H₂ C) elt te) (hS : cscopeB X.env.scope X.N scope x ks caps = true := by kernel_rfl)
    (hs : ∀ v, foldedSetIterable iter X.env v = pure v := by intro _; rfl) : PE X (.ListComp elt [⟨.Name x px, iter, ifs, 0⟩] scope pos) (tComp wi ks tt te) := pe_comp ks caps hc hS hi ht he hs
end
/-- a def, its body written as a list of its statements -/
theorem okB {P : Program} {w : World} {K : PySem.W.Frag} {mg : Str → Option Value} {base : Heap} {x qual : Str} {st : Stmt} {f : Addr} {fd : FuncData} {N ps : List Str} {k : Nat} {sp : Sp} {body : List Stmt} (F : Fun K x qual st f fd) (S : FnScope N ps (defScope st)) (len : ∀ vs H Q E, sp vs H Q E → vs.length = ps.length)
    (hb : defBody st = body)
    (hbody : ∀ (cdv : Value) (A : Around) (outer : List Env) (s : Shared) (H : Hp) (vs : List V) (Q : VK) (E : XK), Room k (A.deeper (envOfC qual (defScope st) s.heap.objs.size f cdv)) → sp vs H Q E →
      ∃ t, PSs (cxOf CX0 P w K mg base N qual (defScope st) f cdv A outer s H E).nox body t ∧ t { nx := fun _ H' => Q .non H', rt := Q } (L2.start N vs) H) : FnOk P w K mg base CX0 (k + 1) f fd ps sp :=
  F.ok S len fun cdv A outer s H vs Q E hr h => by rw [hb]; exact hbody cdv A outer s H vs Q E hr h
/-- the i-th statement of a def's body -/
def stm (st : Stmt) (i : Nat) : Stmt := (defBody st).getD i (.Pass ⟨0, 0, 0, 0⟩)
end L3

set_option Elab.async false
set_option linter.all false
set_option maxRecDepth 100000
set_option maxHeartbeats 4000000
namespace L3
open PySem PySem.Spec L2
open PyProof.Rows hiding St

/-! ### t + u, t * k -/
section
variable {X : Cx}
/-- t + u: some tuple that holds both -/
def rCatG (K : PySem.W.Frag) : R2 := fun x y H Q => ∃ a b xs ys, x = .ref a ∧ y = .ref b ∧ SqT K H a xs ∧ SqT K H b ys ∧ xs.length + ys.length ≤ sizeLine ∧ ∀ p H', Same H H' → SqT K H' p (xs ++ ys) → Q (.ref p) H'
theorem op_catG : OpR X (binaryOp .Add) (rCatG X.K) := by
  intro pins s σ H x y v u Q I rx ry h
  obtain ⟨a, b, xs, ys, rfl, rfl, ha, hb, hz, q⟩ := h
  by_cases hx : xs = []
  · subst hx
    cases rx
    cases ry
    obtain ⟨its, r1, p1, _⟩ := I.tuple ha
    obtain ⟨its2, r2, p2, _⟩ := I.tuple hb
    obtain ⟨⟨cls, dd, data, sl⟩, ho, hc, n, hd⟩ := id p1
    obtain ⟨⟨cls2, dd2, data2, sl2⟩, ho2, hc2, n2, hd2⟩ := id p2
    simp only at hc hd hc2 hd2
    subst hc hd hc2 hd2
    have e : its = [] := r1.nil_iff.mpr rfl
    exact concat_meets ⟨_, ho, rfl⟩ ⟨_, ho2, rfl⟩ noFill_tuple_add seq_tuple_add PySem.F.slot_tuple_add PySem.F.entry_tuple_add (PySem.F.args_tuple_add_2 _ _)
      (tuple_addW0 a b its.toArray its2.toArray n n2 dd dd2 sl sl2 (by simp [e])) ⟨ho, ho2, ⟨.ref b, H, I, rfl, q b H (Same.refl H) hb⟩⟩
  · refine op_catT pins s σ H _ _ _ _ Q I rx ry ⟨a, b, xs, ys, rfl, rfl, ha, hb, hx, hz, fun z => ?_, fun z p hp => q p _ (same_new hp) (SqT.of upd_same)⟩
    subst z
    exact q a H (Same.refl H) (by rw [List.append_nil]; exact ha)

theorem noFill_tuple_mul : fillsNumberSlot (.type "tuple") "mul" = pure false :=
  PySem.fillsNumberSlot_seq (id := "tuple.__mul__") (r := some (.builtin "tuple.__rmul__")) PySem.F.slot_tuple_mul.lookup (by decide +kernel) PySem.F.slot_tuple_rmul.lookup (by decide +kernel)
theorem repeat_tuple : seqRepeat? (.type "tuple") = pure (some (.builtin "tuple.__mul__")) := by
  unfold seqRepeat?
  rw [PySem.seqSlot_of (T := "tuple") (name := "__mul__") (id := "tuple.__mul__") PySem.F.slot_tuple_mul.lookup (by decide +kernel), PySem.seqSlot_of (T := "tuple") (name := "__rmul__") (id := "tuple.__rmul__") PySem.F.slot_tuple_rmul.lookup (by decide +kernel)]
  rfl
theorem rmul_int_tuple (a : Int) (t : Tok) (l : Addr) (items : Array Value) (n : Nat) (dd : Option Addr) (sl : Array (Option Value)) :
    Meets (Builtin.«int.__rmul__» ⟨[.int a t, .ref l], []⟩) (fun _ R s => s.heap.get? l = some { cls := .type "tuple", dict := dd, data := .seq items n, slots := sl } ∧ R (.ok (.ret Value.notImplemented)) s) :=
  .of_wp fun prog w A R s h => by obtain ⟨hp, g, d, tk, os⟩ := s; obtain ⟨hl, h⟩ := h; wp_walk; exact ⟨_, rfl, h⟩
theorem mul_tuple_int (l : Addr) (items : Array Value) (n : Nat) (dd : Option Addr) (sl : Array (Option Value)) (x : Int) (u : Tok) (hc0 : ¬ (decide (x < -(2 ^ 63)) || decide (x ≥ 2 ^ 63)) = true) (hc1 : ¬ (items.isEmpty || x == 1) = true) (hc2 : ¬ (decide (x ≤ 0) || items.isEmpty) = true)
    (hc3 : ¬ (items.size : Int) * x > (2 ^ 63 - 1) / 8) (hc4 : ¬ Builtin.Tuple.tupleTooMany (items.size * x) = true) (hsz : (List.foldl (fun x1 x2 => x1 ++ x2) #[] (List.replicate x.toNat items)).size ≤ sizeLine) :
    Meets (Builtin.«tuple.__mul__» ⟨[.ref l, .int x u], []⟩) (fun _ R s => s.heap.get? l = some { cls := .type "tuple", dict := dd, data := .seq items n, slots := sl } ∧ R (.ok (.ret (Value.ref s.heap.objs.size))) { s with heap := s.heap.push { cls := Value.type "tuple", data := Data.seq (List.foldl (fun x1 x2 => x1 ++ x2) #[] (List.replicate x.toNat items)) }, toks := s.toks }) :=
  .of_wp fun prog w A R s h => by
    obtain ⟨hp, g, d, tk, os⟩ := s; obtain ⟨hl, h⟩ := h
    wp_walk; refine wpAny_ite_false (decide_eq_false hc0) ?_
    wp_walk; refine wpAny_ite_false (decide_eq_false hc3) ?_
    wp_walk; exact ⟨_, rfl, h⟩
/-- t * k, k two or more -/
def rRepT (K : PySem.W.Frag) : R2 := fun x y H Q => ∃ a k xs, x = .ref a ∧ y = .int k ∧ SqT K H a xs ∧ xs ≠ [] ∧ 2 ≤ k ∧ k < 1000 ∧ xs.length ≤ 1000 ∧ ∀ p, H p = none → Q (.ref p) (upd H p (.tup (List.replicate k.toNat xs).flatten))
theorem op_repT : OpR X (binaryOp .Mult) (rRepT X.K) := by
  intro pins s σ H x y v u Q I rx ry h
  obtain ⟨a, k, xs, rfl, rfl, ha, hx, h2, hk, hl, q⟩ := h
  cases rx
  obtain ⟨t, rfl⟩ := ry
  obtain ⟨its, r, p, _⟩ := I.tuple ha
  have hlen := r.length
  have hne : its ≠ [] := fun z => hx (r.nil_iff.mp z)
  obtain ⟨⟨cls, dd, data, sl⟩, ho, hc, n, hd⟩ := id p
  simp only at hc hd
  subst hc hd
  have hnew : List.foldl (fun x1 x2 => x1 ++ x2) #[] (List.replicate k.toNat its.toArray) = (List.replicate k.toNat its).flatten.toArray := by
    have := foldl_rep its k.toNat []
    rw [List.nil_append] at this
    exact this
  have hb : (its.length : Int) * k ≤ 1000000 := by
    have h1 : (its.length : Int) ≤ 1000 := by omega
    have h3 : k ≤ 1000 := by omega
    exact Int.le_trans (Int.mul_le_mul h1 h3 (by omega) (by omega)) (by decide)
  have hnat : k.toNat * its.length ≤ 1000000 := by
    have h1 : its.length ≤ 1000 := by omega
    have h3 : k.toNat ≤ 1000 := by omega
    exact Nat.le_trans (Nat.mul_le_mul h3 h1) (by decide)
  have hempty : its.toArray.isEmpty = false := by
    cases its with
    | nil => exact absurd rfl hne
    | cons _ _ => rfl
  refine wpAny_binaryOp_repeat_ref (T := "tuple") (U := "int") (by decide) ⟨_, ho, rfl⟩ (fun s' => typeIs_int s' k t) noFill_tuple_mul PySem.F.fills_int_mul PySem.F.slot_int_rmul repeat_tuple PySem.F.slot_int_index.lookup
    (call_meets PySem.F.slot_int_rmul (typeIs_int s k t) PySem.F.entry_int_rmul (PySem.F.args_int_rmul_2 _ _) (rmul_int_tuple k t a its.toArray n dd sl)
      ⟨ho, rfl, ⟨_, ho, rfl⟩, call_meets PySem.F.slot_tuple_mul ⟨_, ho, rfl⟩ PySem.F.entry_tuple_mul (PySem.F.args_tuple_mul_2 _ _) (mul_tuple_int a its.toArray n dd sl k t ?_ ?_ ?_ ?_ ?_ ?_) ⟨ho, ?_⟩⟩)
  · simp; omega
  · rw [hempty]; simp; omega
  · rw [hempty]; simp; omega
  · rw [List.size_toArray]; omega
  · rw [List.size_toArray]; unfold Builtin.Tuple.tupleTooMany; simp only [decide_eq_true_eq]; rw [sizeLine_eq]; omega
  · rw [hnew, List.size_toArray, len_rep, sizeLine_eq]; omega
  · rw [hnew]
    refine ⟨.ref s.heap.objs.size, _, I.laid (t' := s.toks) (o := .tup (List.replicate k.toNat xs).flatten) (fun b ob q => Heap.get?_push_of_some _ q) (Nat.le_refl _) ?_, rfl, q _ (I.hok.fresh (Nat.le_refl _))⟩
    exact ⟨by rw [len_rep, sizeLine_eq, hlen]; omega, _, r.rep k.toNat, IsTup.new _ _⟩
end
end L3

set_option Elab.async false
set_option linter.all false
set_option maxRecDepth 100000
set_option maxHeartbeats 4000000
namespace L3
open PySem PySem.Spec L2
open PyProof.Rows hiding St
section
variable {X : Cx}
/-- isinstance(a tuple, T), isinstance(a list, T) -/
theorem call_isiT : CallR X (.builtin "isinstance") (fun xs H Q => ∃ a ys T b, xs = [.ref a, .ty T] ∧ SqT X.K H a ys ∧ PySem.W.kitOne X.K (.type "tuple") (.type T) = some b ∧ Q (.bl b) H) := by
  intro pins s σ H xs us Q I r h
  obtain ⟨a, ys, T, b, rfl, hq, e, q⟩ := h
  obtain ⟨u, v, rfl, ru, rv⟩ := vals2 r
  obtain rfl : v = Value.type T := rv
  cases ru
  obtain ⟨its, _, ⟨o, h1, h2, _⟩, _⟩ := I.tuple hq
  exact PySem.W.kia_one PySem.W.kitx_tuple I.kIn ⟨o, h1, h2⟩ e (fun z => nomatch z) fun tk => ⟨.bl b, H, I.tok tk, rfl, q⟩
theorem call_isiL : CallR X (.builtin "isinstance") (fun xs H Q => ∃ a ys T b, xs = [.ref a, .ty T] ∧ SqL X.K H a ys ∧ PySem.W.kitOne X.K (.type "list") (.type T) = some b ∧ Q (.bl b) H) := by
  intro pins s σ H xs us Q I r h
  obtain ⟨a, ys, T, b, rfl, hq, e, q⟩ := h
  obtain ⟨u, v, rfl, ru, rv⟩ := vals2 r
  obtain rfl : v = Value.type T := rv
  cases ru
  obtain ⟨its, _, p, _⟩ := I.list hq
  obtain ⟨o, h1, h2, _⟩ := p.isList
  exact PySem.W.kia_one PySem.W.kitx_list I.kIn ⟨o, h1, h2⟩ e (fun z => nomatch z) fun tk => ⟨.bl b, H, I.tok tk, rfl, q⟩
theorem kit_int_bool {K : PySem.W.Frag} : PySem.W.kitOne K (.type "int") (.type "bool") = some false := by kernel_rfl
theorem kit_tuple {K : PySem.W.Frag} : PySem.W.kitOne K (.type "tuple") (.type "tuple") = some true := rfl
theorem kit_list {K : PySem.W.Frag} : PySem.W.kitOne K (.type "list") (.type "list") = some true := rfl
end
end L3

set_option Elab.async false
set_option linter.all false
set_option maxRecDepth 100000
set_option maxHeartbeats 4000000
namespace L3
open PySem PySem.Spec L2
open PyProof.Rows hiding St
section
variable {X : Cx}
def tyD : PyData → String
  | .none => "NoneType"
  | .bool _ => "bool"
  | .int _ => "int"
  | .str _ => "str"
  | .tuple _ => "tuple"
  | .list _ => "list"
  | .dict _ => "dict"
/-- isinstance(data, T) -/
theorem call_isiD : CallR X (.builtin "isinstance") (fun xs H Q => ∃ x T d b, xs = [x, .ty T] ∧ RepD X.K H d x ∧ PySem.W.kitOne X.K (.type (tyD d)) (.type T) = some b ∧ Q (.bl b) H) := by
  intro pins s σ H xs us Q I r h
  obtain ⟨x, T, d, b, rfl, rd, e, q⟩ := h
  cases d with
  | none => simp only [RepD] at rd; subst rd; exact call_isi pins s σ H _ us Q I r ⟨_, T, _, b, rfl, .non, e, q⟩
  | bool y => simp only [RepD] at rd; subst rd; exact call_isi pins s σ H _ us Q I r ⟨_, T, _, b, rfl, .bl y, e, q⟩
  | int y => simp only [RepD] at rd; subst rd; exact call_isi pins s σ H _ us Q I r ⟨_, T, _, b, rfl, .int y, e, q⟩
  | str y => simp only [RepD] at rd; subst rd; exact call_isi pins s σ H _ us Q I r ⟨_, T, _, b, rfl, .str y, e, q⟩
  | tuple ds =>
    obtain ⟨a, ys, rfl, h1, _⟩ : ∃ a xs, x = .ref a ∧ SqT X.K H a xs ∧ RepDs X.K H ds xs := by simpa only [RepD] using rd
    exact call_isiT pins s σ H _ us Q I r ⟨a, ys, T, b, rfl, h1, e, q⟩
  | list ds =>
    obtain ⟨a, ys, rfl, h1, _⟩ : ∃ a xs, x = .ref a ∧ SqL X.K H a xs ∧ RepDs X.K H ds xs := by simpa only [RepD] using rd
    exact call_isiL pins s σ H _ us Q I r ⟨a, ys, T, b, rfl, h1, e, q⟩
  | dict _ => simp only [RepD] at rd
theorem tys {a b : String} {its : List Value} (r : Vals [.ty a, .ty b] its) : its = [.type a, .type b] := by
  obtain ⟨u, v, rfl, ru, rv⟩ := vals2 r
  cases (show u = Value.type a from ru)
  cases (show v = Value.type b from rv)
  rfl
/-- isinstance(a list or a tuple, (T, U)) -/
theorem call_isiD2 : CallR X (.builtin "isinstance") (fun xs H Q => ∃ x tp T U d b, xs = [x, .ref tp] ∧ SqT X.K H tp [.ty T, .ty U] ∧ RepD X.K H d x ∧ (tyD d = "list" ∨ tyD d = "tuple") ∧ PySem.W.kitAny X.K (.type (tyD d)) [.type T, .type U] = some b ∧ Q (.bl b) H) := by
  intro pins s σ H xs us Q I r h
  obtain ⟨x, tp, T, U, d, b, rfl, ht, rd, hty, e, q⟩ := h
  obtain ⟨u, v, rfl, ru, rv⟩ := vals2 r
  obtain rfl : v = Value.ref tp := rv
  obtain ⟨its, rv', ⟨o, h1, h2, n, h3⟩, _⟩ := I.tuple ht
  have := tys rv'
  subst this
  have h1' : s.heap.get? tp = some ⟨.type "tuple", o.dict, .seq [Value.type T, .type U].toArray n, o.slots⟩ := by
    rw [h1]; obtain ⟨oc, od, oa, os⟩ := o
    cases h2; cases h3; rfl
  cases d with
  | none => simp [tyD] at hty
  | bool y => simp [tyD] at hty
  | int y => simp [tyD] at hty
  | str y => simp [tyD] at hty
  | dict _ => simp only [RepD] at rd
  | tuple ds =>
    obtain ⟨a, ys, rfl, g1, _⟩ : ∃ a xs, x = .ref a ∧ SqT X.K H a xs ∧ RepDs X.K H ds xs := by simpa only [RepD] using rd
    cases ru
    obtain ⟨its', _, ⟨o', k1, k2, _⟩, _⟩ := I.tuple g1
    exact PySem.W.kia_tup PySem.W.kitx_tuple I.kIn ⟨o', k1, k2⟩ h1' e (fun z => nomatch z) fun tk => ⟨.bl b, H, I.tok tk, rfl, q⟩
  | list ds =>
    obtain ⟨a, ys, rfl, g1, _⟩ : ∃ a xs, x = .ref a ∧ SqL X.K H a xs ∧ RepDs X.K H ds xs := by simpa only [RepD] using rd
    cases ru
    obtain ⟨its', _, p, _⟩ := I.list g1
    obtain ⟨o', k1, k2, _⟩ := p.isList
    exact PySem.W.kia_tup PySem.W.kitx_list I.kIn ⟨o', k1, k2⟩ h1' e (fun z => nomatch z) fun tk => ⟨.bl b, H, I.tok tk, rfl, q⟩
theorem pe_never {e : Expr} : PE X e (fun _ _ _ => False) := fun _ _ _ _ _ _ h => h.elim
def rIxD (K : PySem.W.Frag) : R2 := fun x y H Q => rIxL K x y H Q ∨ rIxT K x y H Q
theorem ixD (K : PySem.W.Frag) (h : X.K = K := by rfl) : IxR X (rIxD K) := IxR.or (ixL K h) (ixT K h)
end
end L3

set_option Elab.async false
set_option linter.all false
set_option maxRecDepth 100000
set_option maxHeartbeats 4000000
namespace Of
open PySem L2 L3
/-! ### the mirror: letters, offices -/
inductive What where
  | pay (to many : Int)
  | cut
  deriving DecidableEq
structure Let where
  s : Nat
  st : List Int
  w : What
  deriving DecidableEq
def whatD : What → PyData
  | .pay t m => .tuple [.str "pay", .int t, .int m]
  | .cut => .tuple [.str "cut"]
def intD (ns : List Int) : List PyData := ns.map .int
def nameN (l : Let) : Int := l.st.getD l.s 0
def nmD (s : Nat) (n : Int) : PyData := .tuple [.int s, .int n]
def nameD (l : Let) : PyData := nmD l.s (nameN l)
def letD (l : Let) : PyData := .tuple [.int l.s, .tuple (intD l.st), whatD l.w]
structure Off where
  num : Int
  coins : Int
  clock : List Int
  book : List PyData
  tray : List Let
  kept : List PyData
def inc (cs : List Int) (s : Nat) : List Int := cs.set s (cs.getD s 0 + 1)
def readyB (s : Nat) (ss cs : List Int) : Bool := decide (ss.getD s 0 = cs.getD s 0 + 1) && (((List.range cs.length).filter fun k => decide (k ≠ s)).map fun k => decide (ss.getD k 0 ≤ cs.getD k 0)).all id
def firstR (ls : List Let) (cs : List Int) : Option Nat := ls.findIdx? fun l => readyB l.s l.st cs
def coinsFor (n : Int) : What → Int
  | .pay t m => if t = n then m else 0
  | .cut => 0
def keptD (l : Let) (coins : Int) (cs : List Int) : PyData := .tuple [nameD l, .int coins, .tuple (intD cs)]
def bookD (how : Str) (l : Let) : PyData := .tuple [.str how, nameD l]
/-- what write_in_book does -/
def wrote (o : Off) (how : Str) (l : Let) : Off := { o with book := o.book ++ [bookD how l], kept := if l.w = .cut then o.kept ++ [keptD l o.coins o.clock] else o.kept }
def handed (o : Off) (i : Nat) (l : Let) : Off := wrote { o with tray := o.tray.eraseIdx i, clock := inc o.clock l.s, coins := o.coins + coinsFor o.num l.w } "got" l
def newB (o : Off) (l : Let) : Bool := !decide (nameN l ≤ o.clock.getD l.s 0) && !(o.tray.any fun m => PyData.eqv (nameD m) (nameD l))
def drain : Nat → Off → List Let × Off
  | 0, o => ([], o)
  | k + 1, o => match firstR o.tray o.clock with
    | none => ([], o)
    | some i => match o.tray[i]? with
      | none => ([], o)
      | some l => ((l :: (drain k (handed o i l)).1), (drain k (handed o i l)).2)
def put (o : Off) (l : Let) : Off := if newB o l then { o with tray := o.tray ++ [l] } else o
def took (o : Off) (l : Let) : List Let × Off := drain (put o l).tray.length (put o l)

/-! ### values -/
abbrev nums (ns : List Int) : List V := ns.map V.int
theorem get_nums {ns : List Int} {i : Nat} (h : i < ns.length) : (nums ns)[i]? = some (.int (ns.getD i 0)) := by
  simp [nums, List.getElem?_map, List.getD_eq_getElem?_getD, List.getElem?_eq_getElem h]
theorem reps_ints {K : PySem.W.Frag} {H : Hp} : ∀ {ns : List Int} {xs : List V}, RepDs K H (intD ns) xs ↔ xs = nums ns
  | [], xs => by simp only [intD, List.map_nil, RepDs]
  | n :: ns, xs => by
    simp only [intD, List.map_cons, RepDs, RepD]
    constructor
    · rintro ⟨x, r, rfl, rfl, h⟩
      rw [reps_ints.mp h]
    · rintro rfl
      exact ⟨_, _, rfl, rfl, reps_ints.mpr rfl⟩
def WhatAt (K : PySem.W.Frag) (H : Hp) (c : Addr) : What → Prop
  | .pay t m => SqT K H c [.str "pay", .int t, .int m]
  | .cut => SqT K H c [.str "cut"]
def LetAt (K : PySem.W.Frag) (H : Hp) (a : Addr) (l : Let) : Prop := ∃ b c, SqT K H a [.int l.s, .ref b, .ref c] ∧ SqT K H b (nums l.st) ∧ WhatAt K H c l.w
theorem letAt_iff {K : PySem.W.Frag} {H : Hp} {l : Let} {v : V} : RepD K H (letD l) v ↔ ∃ a, v = .ref a ∧ LetAt K H a l := by
  constructor
  · intro h
    simp only [letD, RepD, RepDs] at h
    obtain ⟨a, xs, rfl, h1, x1, r1, rfl, rfl, x2, r2, rfl, ⟨b, ys, rfl, h2, h3⟩, x3, r3, rfl, h4, rfl⟩ := h
    rw [reps_ints.mp h3] at h2
    cases hw : l.w with
    | pay t m =>
      rw [hw] at h4
      simp only [whatD, RepD, RepDs] at h4
      obtain ⟨c, zs, rfl, h5, y1, q1, rfl, rfl, y2, q2, rfl, rfl, y3, q3, rfl, rfl, rfl⟩ := h4
      exact ⟨a, rfl, b, c, h1, h2, by rw [hw]; exact h5⟩
    | cut =>
      rw [hw] at h4
      simp only [whatD, RepD, RepDs] at h4
      obtain ⟨c, zs, rfl, h5, y1, q1, rfl, rfl, rfl⟩ := h4
      exact ⟨a, rfl, b, c, h1, h2, by rw [hw]; exact h5⟩
  · rintro ⟨a, rfl, b, c, h1, h2, h3⟩
    simp only [letD, RepD, RepDs]
    refine ⟨a, _, rfl, h1, _, _, rfl, rfl, _, _, rfl, ⟨b, _, rfl, h2, reps_ints.mpr rfl⟩, _, _, rfl, ?_, rfl⟩
    cases hw : l.w with
    | pay t m =>
      rw [hw] at h3
      simp only [whatD, RepD, RepDs]
      exact ⟨c, _, rfl, h3, _, _, rfl, rfl, _, _, rfl, rfl, _, _, rfl, rfl, rfl⟩
    | cut =>
      rw [hw] at h3
      simp only [whatD, RepD, RepDs]
      exact ⟨c, _, rfl, h3, _, _, rfl, rfl, rfl⟩
theorem WhatAt.imm {K : PySem.W.Frag} {H H' : Hp} {c : Addr} (e : Imm H H') : ∀ {w : What}, WhatAt K H c w → WhatAt K H' c w
  | .pay _ _, h => e.sqT (show SqT K H c _ from h)
  | .cut, h => e.sqT (show SqT K H c _ from h)
theorem LetAt.imm {K : PySem.W.Frag} {H H' : Hp} {a : Addr} {l : Let} (e : Imm H H') : LetAt K H a l → LetAt K H' a l
  | ⟨b, c, h1, h2, h3⟩ => ⟨b, c, e.sqT h1, e.sqT h2, h3.imm e⟩
theorem noList_ints : ∀ ns : List Int, noLists (intD ns) = true
  | [] => rfl
  | _ :: ns => by simp only [intD, List.map_cons, noLists, noList, Bool.true_and]; exact noList_ints ns
theorem noList_let (l : Let) : noList (letD l) = true := by
  simp only [letD, noList, noLists, Bool.true_and, Bool.and_true, noList_ints]
  cases l.w <;> rfl
theorem noList_name (l : Let) : noList (nameD l) = true := rfl
theorem noList_lets : ∀ ls : List Let, noLists (ls.map letD) = true
  | [] => rfl
  | l :: ls => by simp only [List.map_cons, noLists, noList_let, Bool.true_and]; exact noList_lets ls
theorem reps_append {K : PySem.W.Frag} {H : Hp} : ∀ {ds es : List PyData} {xs ys : List V}, RepDs K H ds xs → RepDs K H es ys → RepDs K H (ds ++ es) (xs ++ ys)
  | [], es, xs, ys, h1, h2 => by
    have : xs = [] := by simpa only [RepDs] using h1
    subst this; exact h2
  | d :: ds, es, xs, ys, h1, h2 => by
    obtain ⟨x, r, rfl, a, b⟩ : ∃ x r, xs = x :: r ∧ RepD K H d x ∧ RepDs K H ds r := by simpa only [RepDs] using h1
    simp only [List.cons_append, RepDs]
    exact ⟨x, r ++ ys, rfl, a, reps_append b h2⟩
theorem reps_one {K : PySem.W.Frag} {H : Hp} {d : PyData} {v : V} (h : RepD K H d v) : RepDs K H [d] [v] := by
  simp only [RepDs]
  exact ⟨v, [], rfl, h, rfl⟩
theorem reps_len {K : PySem.W.Frag} {H : Hp} : ∀ {ds : List PyData} {xs : List V}, RepDs K H ds xs → xs.length = ds.length
  | [], xs, h => by
    have : xs = [] := by simpa only [RepDs] using h
    subst this; rfl
  | d :: ds, xs, h => by
    obtain ⟨x, r, rfl, a, b⟩ : ∃ x r, xs = x :: r ∧ RepD K H d x ∧ RepDs K H ds r := by simpa only [RepDs] using h
    simp only [List.length_cons, reps_len b]
theorem reps_get {K : PySem.W.Frag} {H : Hp} : ∀ {ds : List PyData} {xs : List V} {i : Nat} {d : PyData}, RepDs K H ds xs → ds[i]? = some d → ∃ x, xs[i]? = some x ∧ RepD K H d x
  | [], xs, i, d, h, e => by simp at e
  | d' :: ds, xs, i, d, h, e => by
    obtain ⟨x, r, rfl, a, b⟩ : ∃ x r, xs = x :: r ∧ RepD K H d' x ∧ RepDs K H ds r := by simpa only [RepDs] using h
    cases i with
    | zero => simp at e; subst e; exact ⟨x, rfl, a⟩
    | succ j =>
      obtain ⟨y, h1, h2⟩ := reps_get b (by simpa using e)
      exact ⟨y, by simpa using h1, h2⟩
theorem reps_erase {K : PySem.W.Frag} {H : Hp} : ∀ {ds : List PyData} {xs : List V} (i : Nat), RepDs K H ds xs → RepDs K H (ds.eraseIdx i) (xs.eraseIdx i)
  | [], xs, i, h => by
    have : xs = [] := by simpa only [RepDs] using h
    subst this; simpa only [List.eraseIdx_nil] using h
  | d' :: ds, xs, i, h => by
    obtain ⟨x, r, rfl, a, b⟩ : ∃ x r, xs = x :: r ∧ RepD K H d' x ∧ RepDs K H ds r := by simpa only [RepDs] using h
    cases i with
    | zero => exact b
    | succ j =>
      simp only [List.eraseIdx_cons_succ, RepDs]
      exact ⟨x, _, rfl, a, reps_erase j b⟩

/-! ### an office as it stands -/
def flds (n c : Int) (cl lb lt lk : Addr) : List (Str × V) := [("number", .int n), ("coins", .int c), ("clock", .ref cl), ("book", .ref lb), ("tray", .ref lt), ("kept", .ref lk)]
structure OffAt (K : PySem.W.Frag) (C : Addr) (H : Hp) (p : Addr) (o : Off) : Prop where
  ex : ∃ dx cl lb lt lk bs ts ks, H p = some (.ins C dx (flds o.num o.coins cl lb lt lk)) ∧ SqT K H cl (nums o.clock) ∧ H lb = some (.lst bs) ∧ RepDs K H o.book bs ∧ H lt = some (.lst ts) ∧ RepDs K H (o.tray.map letD) ts ∧ H lk = some (.lst ks) ∧ RepDs K H o.kept ks
  nb : noLists o.book = true
  nk : noLists o.kept = true
/-- the lists that the office at hand holds -/
def Refs : Option HO → Addr → Prop
  | some (.ins _ _ fs), b => fs.lookup ("book" : Str) = some (.ref b) ∨ fs.lookup ("tray" : Str) = some (.ref b) ∨ fs.lookup ("kept" : Str) = some (.ref b)
  | _, _ => False
/-- all but p is as it was; p holds its own lists and new ones -/
structure SameX (p : Addr) (H H' : Hp) : Prop where
  keep : ∀ b o, H b = some o → b ≠ p → H' b = some o
  refs : ∀ b, Refs (H' p) b → Refs (H p) b ∨ H b = none
  here : ∃ u, H p = some u
theorem SameX.free {p : Addr} {H H' : Hp} (e : SameX p H H') (h' : ∃ u, H' p = some u) {b : Addr} (h : H' b = none) : H b = none := by
  cases q : H b with
  | none => rfl
  | some u =>
    by_cases hb : b = p
    · obtain ⟨u', hu⟩ := h'
      rw [hb, hu] at h; cases h
    · rw [e.keep b u q hb] at h; cases h
theorem SameX.trans {p : Addr} {H H1 H2 : Hp} (a : SameX p H H1) (b : SameX p H1 H2) : SameX p H H2 :=
  ⟨fun c o h n => b.keep c o (a.keep c o h n) n, fun c h => (b.refs c h).elim (a.refs c) fun z => .inr (a.free b.here z), a.here⟩
theorem same_x {p : Addr} {H H' : Hp} {u : HO} (hp : H p = some u) (e : Same H H') : SameX p H H' :=
  ⟨fun c o h _ => e c o h, fun c h => .inl (by rw [e p u hp] at h; rw [hp]; exact h), ⟨u, hp⟩⟩
theorem OffAt.same {K : PySem.W.Frag} {C : Addr} {H H' : Hp} {p : Addr} {o : Off} (e : Same H H') (h : OffAt K C H p o) : OffAt K C H' p o := by
  obtain ⟨⟨dx, cl, lb, lt, lk, bs, ts, ks, h1, h2, h3, h4, h5, h6, h7, h8⟩, nb, nk⟩ := h
  exact ⟨⟨dx, cl, lb, lt, lk, bs, ts, ks, e _ _ h1, e.sqT h2, e _ _ h3, RepDs.same e _ _ h4, e _ _ h5, RepDs.same e _ _ h6, e _ _ h7, RepDs.same e _ _ h8⟩, nb, nk⟩
theorem putF_eq {f : Str} {u v : V} {r : List (Str × V)} : putF f v ((f, u) :: r) = (f, v) :: r := by
  show (if f = f then _ else _) = _
  rw [if_pos rfl]
theorem putF_ne {f g : Str} {u v : V} {r : List (Str × V)} (h : ¬ g = f) : putF f v ((g, u) :: r) = (g, u) :: putF f v r := by
  show (if g = f then _ else _) = _
  rw [if_neg h]
theorem ne1 : ¬ (("number" : Str) = "coins") := by decide +kernel
theorem ne2 : ¬ (("number" : Str) = "clock") := by decide +kernel
theorem ne3 : ¬ (("number" : Str) = "book") := by decide +kernel
theorem ne4 : ¬ (("number" : Str) = "tray") := by decide +kernel
theorem ne5 : ¬ (("number" : Str) = "kept") := by decide +kernel
theorem ne6 : ¬ (("coins" : Str) = "clock") := by decide +kernel
theorem ne7 : ¬ (("coins" : Str) = "book") := by decide +kernel
theorem ne8 : ¬ (("coins" : Str) = "tray") := by decide +kernel
theorem ne9 : ¬ (("coins" : Str) = "kept") := by decide +kernel
theorem ne10 : ¬ (("clock" : Str) = "book") := by decide +kernel
theorem ne11 : ¬ (("clock" : Str) = "tray") := by decide +kernel
theorem ne12 : ¬ (("clock" : Str) = "kept") := by decide +kernel
theorem ne13 : ¬ (("book" : Str) = "tray") := by decide +kernel
theorem ne14 : ¬ (("book" : Str) = "kept") := by decide +kernel
theorem ne15 : ¬ (("tray" : Str) = "kept") := by decide +kernel
section
variable {n c c' : Int} {cl lb lt lk x : Addr}
theorem put_coins : putF "coins" (.int c') (flds n c cl lb lt lk) = flds n c' cl lb lt lk := by unfold flds; rw [putF_ne ne1, putF_eq]
theorem put_clock : putF "clock" (.ref x) (flds n c cl lb lt lk) = flds n c x lb lt lk := by unfold flds; rw [putF_ne ne2, putF_ne ne6, putF_eq]
theorem put_book : putF "book" (.ref x) (flds n c cl lb lt lk) = flds n c cl x lt lk := by unfold flds; rw [putF_ne ne3, putF_ne ne7, putF_ne ne10, putF_eq]
theorem put_tray : putF "tray" (.ref x) (flds n c cl lb lt lk) = flds n c cl lb x lk := by unfold flds; rw [putF_ne ne4, putF_ne ne8, putF_ne ne11, putF_ne ne13, putF_eq]
theorem put_kept : putF "kept" (.ref x) (flds n c cl lb lt lk) = flds n c cl lb lt x := by unfold flds; rw [putF_ne ne5, putF_ne ne9, putF_ne ne12, putF_ne ne14, putF_ne ne15, putF_eq]
theorem put_all : putF "kept" (.ref lk) (putF "tray" (.ref lt) (putF "book" (.ref lb) (putF "clock" (.ref cl) (putF "coins" (.int c) (putF "number" (.int n) []))))) = flds n c cl lb lt lk := by
  show putF "kept" _ (putF "tray" _ (putF "book" _ (putF "clock" _ (putF "coins" _ [(("number" : Str), V.int n)])))) = _
  rw [putF_ne ne1]
  show putF "kept" _ (putF "tray" _ (putF "book" _ (putF "clock" _ [(("number" : Str), V.int n), ("coins", V.int c)]))) = _
  rw [putF_ne ne2, putF_ne ne6]
  show putF "kept" _ (putF "tray" _ (putF "book" _ [(("number" : Str), V.int n), ("coins", V.int c), ("clock", V.ref cl)])) = _
  rw [putF_ne ne3, putF_ne ne7, putF_ne ne10]
  show putF "kept" _ (putF "tray" _ [(("number" : Str), V.int n), ("coins", V.int c), ("clock", V.ref cl), ("book", V.ref lb)]) = _
  rw [putF_ne ne4, putF_ne ne8, putF_ne ne11, putF_ne ne13]
  show putF "kept" _ [(("number" : Str), V.int n), ("coins", V.int c), ("clock", V.ref cl), ("book", V.ref lb), ("tray", V.ref lt)] = _
  rw [putF_ne ne5, putF_ne ne9, putF_ne ne12, putF_ne ne14, putF_ne ne15]
  rfl
theorem at_number : (flds n c cl lb lt lk).lookup ("number" : Str) = some (V.int n) := by kernel_rfl
theorem at_coins : (flds n c cl lb lt lk).lookup ("coins" : Str) = some (V.int c) := by kernel_rfl
theorem at_clock : (flds n c cl lb lt lk).lookup ("clock" : Str) = some (V.ref cl) := by kernel_rfl
theorem at_book : (flds n c cl lb lt lk).lookup ("book" : Str) = some (V.ref lb) := by kernel_rfl
theorem at_tray : (flds n c cl lb lt lk).lookup ("tray" : Str) = some (V.ref lt) := by kernel_rfl
theorem at_kept : (flds n c cl lb lt lk).lookup ("kept" : Str) = some (V.ref lk) := by kernel_rfl
theorem refs_flds {C dx b : Addr} : Refs (some (.ins C dx (flds n c cl lb lt lk))) b ↔ b = lb ∨ b = lt ∨ b = lk := by
  show ((flds n c cl lb lt lk).lookup ("book" : Str) = some (.ref b) ∨ (flds n c cl lb lt lk).lookup ("tray" : Str) = some (.ref b) ∨ (flds n c cl lb lt lk).lookup ("kept" : Str) = some (.ref b)) ↔ _
  rw [at_book, at_tray, at_kept]
  constructor
  · rintro (h | h | h)
    · injection h with h; injection h with h; exact .inl h.symm
    · injection h with h; injection h with h; exact .inr (.inl h.symm)
    · injection h with h; injection h with h; exact .inr (.inr h.symm)
  · rintro (rfl | rfl | rfl)
    · exact .inl rfl
    · exact .inr (.inl rfl)
    · exact .inr (.inr rfl)
theorem sx_set {C dx p : Addr} {H H4 : Hp} {n' c2 : Int} {cl' lb' lt' lk' : Addr} (e : SameX p H H4) (h : H4 p = some (.ins C dx (flds n c cl lb lt lk))) (h1 : lb' = lb ∨ H lb' = none) (h2 : lt' = lt ∨ H lt' = none) (h3 : lk' = lk ∨ H lk' = none) :
    SameX p H (upd H4 p (.ins C dx (flds n' c2 cl' lb' lt' lk'))) := by
  refine ⟨fun b v hb nb => by rw [upd_ne nb]; exact e.keep b v hb nb, fun b hb => ?_, e.here⟩
  rw [upd_same, refs_flds] at hb
  have old : ∀ x, x = lb ∨ x = lt ∨ x = lk → Refs (H p) x ∨ H x = none := fun x hx => e.refs x (by rw [h, refs_flds]; exact hx)
  rcases hb with rfl | rfl | rfl
  · rcases h1 with z | z
    · exact old _ (.inl z)
    · exact .inr z
  · rcases h2 with z | z
    · exact old _ (.inr (.inl z))
    · exact .inr z
  · rcases h3 with z | z
    · exact old _ (.inr (.inr z))
    · exact .inr z
end
end Of

set_option Elab.async false
set_option linter.all false
set_option maxRecDepth 100000
set_option maxHeartbeats 4000000
namespace Of
open PySem L2 L3
def top (i : Nat) : Stmt := PySem.Challenge.pw_postbooks_k14_whole_tray.main.body.getD i (.Pass ⟨0, 0, 0, 0⟩)
abbrev sName : Stmt := top 1
abbrev sThere : Stmt := top 2
abbrev sCounted : Stmt := top 3
abbrev sReady : Stmt := top 4
abbrev sInit : Stmt := inClass (top 9) 0
abbrev sPay : Stmt := inClass (top 9) 1
abbrev sCut : Stmt := inClass (top 9) 2
abbrev sTake : Stmt := inClass (top 9) 3
abbrev sSend : Stmt := inClass (top 9) 4
abbrev sIsNew : Stmt := inClass (top 9) 5
abbrev sHand : Stmt := inClass (top 9) 6
abbrev sWrite : Stmt := inClass (top 9) 7
abbrev sFirst : Stmt := top 10
abbrev sCoins : Stmt := top 11
abbrev sSentBy : Stmt := top 12
abbrev sSentOr : Stmt := top 13
abbrev sTaken : Stmt := top 14
abbrev sSo : Stmt := top 16
abbrev sWhole : Stmt := top 17
abbrev sAt : Stmt := top 18
abbrev sIsName : Stmt := top 19
abbrev sSentL : Stmt := top 20
abbrev sRoads : Stmt := top 21
abbrev sIsReady : Stmt := top 22
abbrev sGiven : Stmt := top 23
abbrev sEnded : Stmt := top 24
abbrev sSends : Stmt := top 25
abbrev sLaw : Stmt := top 26
end Of

section
set_option Elab.async false
set_option linter.all false
set_option maxRecDepth 100000
set_option maxHeartbeats 4000000
seal L2.PE L2.PT L2.PW L2.PA L2.PS L2.PSs L2.PG L2.PGs L2.PI L3.PTs L2.PO L2.CallR L2.OpR L2.IxR L2.MtR L2.PSet L2.SlR
namespace Of
open PySem L2 L3
theorem boot_str : bootBuiltins "str" = some (.type "str") := by decide +kernel
theorem boot_dct : bootBuiltins "dict" = some (.type "dict") := by decide +kernel
structure Sxt (mg : Str → Option Value) (f : Addr) : Prop where
  so : mg "_law_so" = some (.ref f)
  isinstance : mg "isinstance" = none
  bool : mg "bool" = none
  int : mg "int" = none
  str : mg "str" = none
  dict : mg "dict" = none
  tuple : mg "tuple" = none
  list : mg "list" = none
  len : mg "len" = none
  range : mg "range" = none
theorem ks_bool {K : PySem.W.Frag} : PySem.W.kitOne K (.type "str") (.type "bool") = some false := by kernel_rfl
theorem ks_int {K : PySem.W.Frag} : PySem.W.kitOne K (.type "str") (.type "int") = some false := by kernel_rfl
theorem ks_str {K : PySem.W.Frag} : PySem.W.kitOne K (.type "str") (.type "str") = some true := by kernel_rfl
theorem ks_dict {K : PySem.W.Frag} : PySem.W.kitOne K (.type "str") (.type "dict") = some false := by kernel_rfl
theorem ks_tuple {K : PySem.W.Frag} : PySem.W.kitOne K (.type "str") (.type "tuple") = some false := by kernel_rfl
theorem ks_list {K : PySem.W.Frag} : PySem.W.kitOne K (.type "str") (.type "list") = some false := by kernel_rfl
theorem kt_bool {K : PySem.W.Frag} : PySem.W.kitOne K (.type "tuple") (.type "bool") = some false := by kernel_rfl
theorem kt_int {K : PySem.W.Frag} : PySem.W.kitOne K (.type "tuple") (.type "int") = some false := by kernel_rfl
theorem kt_str {K : PySem.W.Frag} : PySem.W.kitOne K (.type "tuple") (.type "str") = some false := by kernel_rfl
theorem kt_dict {K : PySem.W.Frag} : PySem.W.kitOne K (.type "tuple") (.type "dict") = some false := by kernel_rfl
theorem kt_tuple {K : PySem.W.Frag} : PySem.W.kitOne K (.type "tuple") (.type "tuple") = some true := by kernel_rfl
theorem kt_list {K : PySem.W.Frag} : PySem.W.kitOne K (.type "tuple") (.type "list") = some false := by kernel_rfl
theorem kl_bool {K : PySem.W.Frag} : PySem.W.kitOne K (.type "list") (.type "bool") = some false := by kernel_rfl
theorem kl_int {K : PySem.W.Frag} : PySem.W.kitOne K (.type "list") (.type "int") = some false := by kernel_rfl
theorem kl_str {K : PySem.W.Frag} : PySem.W.kitOne K (.type "list") (.type "str") = some false := by kernel_rfl
theorem kl_dict {K : PySem.W.Frag} : PySem.W.kitOne K (.type "list") (.type "dict") = some false := by kernel_rfl
theorem kl_tuple {K : PySem.W.Frag} : PySem.W.kitOne K (.type "list") (.type "tuple") = some false := by kernel_rfl
theorem kl_list {K : PySem.W.Frag} : PySem.W.kitOne K (.type "list") (.type "list") = some true := by kernel_rfl
theorem kt_any {K : PySem.W.Frag} : PySem.W.kitAny K (.type "tuple") [.type "list", .type "tuple"] = some true := by kernel_rfl
theorem kl_any {K : PySem.W.Frag} : PySem.W.kitAny K (.type "list") [.type "list", .type "tuple"] = some true := by kernel_rfl
mutual
def wideD (n : Nat) : PyData → Prop
  | .tuple ds => ds.length ≤ n ∧ wideDs n ds
  | .list ds => ds.length ≤ n ∧ wideDs n ds
  | _ => True
def wideDs (n : Nat) : List PyData → Prop
  | [] => True
  | d :: ds => wideD n d ∧ wideDs n ds
end
theorem wideDs_get {n : Nat} : ∀ {ds : List PyData} {i : Nat} {d : PyData}, wideDs n ds → ds[i]? = some d → wideD n d
  | [], i, d, _, e => by simp at e
  | x :: ds, 0, d, h, e => by
    have : x = d := by simpa using e
    subst this; simp only [wideDs] at h; exact h.1
  | x :: ds, i + 1, d, h, e => by
    simp only [wideDs] at h
    exact wideDs_get (i := i) h.2 (by simpa using e)
theorem depth_get : ∀ {ds : List PyData} {i : Nat} {d : PyData}, ds[i]? = some d → d.depth ≤ PyData.depthAll ds
  | [], i, d, e => by simp at e
  | x :: ds, 0, d, e => by
    have : x = d := by simpa using e
    subst this; simp only [PyData.depthAll]; exact Nat.le_max_left _ _
  | x :: ds, i + 1, d, e => by
    simp only [PyData.depthAll]
    exact Nat.le_trans (depth_get (i := i) (by simpa using e)) (Nat.le_max_right _ _)
/-- the same data twice, of a depth below n -/
def spSo (K : PySem.W.Frag) (n : Nat) : Sp := fun vs H Q _ => ∃ (x y : V) (d : PyData), vs = [x, y] ∧ RepD K H d x ∧ RepD K H d y ∧ d.depth < n ∧ wideD 1000 d ∧ ∀ H', Same H H' → Q (.bl true) H'
section
variable {P : Program} {w : World} {K : PySem.W.Frag} {mg : Str → Option Value} {base : Heap}
theorem oSo : ownB ["_law_found", "_law_meant", "_law_k"] (defScope sSo) = true := by decide +kernel
theorem scSo : FnScope ["_law_found", "_law_meant", "_law_k"] ["_law_found", "_law_meant"] (defScope sSo) := ⟨rfl, rfl, rfl, by decide +kernel, rfl, by decide +kernel, by decide +kernel⟩
theorem so_zero {f : Addr} {fd : FuncData} (F : Fun K "_law_so" "_law_so" sSo f fd) : FnOk P w K mg base CX0 0 f fd ["_law_found", "_law_meant"] (spSo K 0) :=
  ⟨fun vs H Q E ⟨_, _, _, _, _, _, h, _⟩ => absurd h (Nat.not_lt_zero _), fun _ _ _ _ _ _ _ _ _ _ _ _ _ ⟨_, _, _, _, _, _, h, _⟩ => absurd h (Nat.not_lt_zero _)⟩
theorem ok_so1 {f : Addr} {fd : FuncData} {n : Nat} (F : Fun K "_law_so" "_law_so" sSo f fd) (S : Sxt mg f) (bSo : Binds K fd ["_law_found", "_law_meant"] []) (GSo : FnOk P w K mg base CX0 n f fd ["_law_found", "_law_meant"] (spSo K n)) :
    FnOk P w K mg base CX0 (n + 1) f fd ["_law_found", "_law_meant"] (spSo K (n + 1)) := by
  refine okB (body := [stm sSo 0, stm sSo 1, stm sSo 2, stm sSo 3, stm sSo 4, stm sSo 5, stm sSo 6, stm sSo 7, stm sSo 8, stm sSo 9]) F scSo (fun vs H Q E h => ?_) (by kernel_rfl) (fun cdv A outer s H vs Q E hr h => ?_)
  · obtain ⟨x, y, d, rfl, _⟩ := h
    rfl
  · obtain ⟨x, y, d, rfl, rx, ry, hd, hw, k⟩ := h
    refine ⟨_, (pss_cons (ps_if (pt_cmpR op_isN (oV oSo 1) pe_non (nomark _)) (pss_one (ps_ret (pe_cmpR op_isN (oV oSo 0) pe_non (nomark _)))) pss_nil)
      (pss_cons (ps_if (pt_val (cB call_isiD S.isinstance boot_isi (aC (oV oSo 1) (aC (nT S.bool boot_bl) pa_nil)))) (pss_one (ps_ret (pe_and (cB call_isiD S.isinstance boot_isi (aC (oV oSo 0) (aC (nT S.bool boot_bl) pa_nil))) (pe_one (pe_cmpR op_eq (oV oSo 0) (oV oSo 1) (nomark _)))))) pss_nil)
      (pss_cons (ps_if (pt_val (cB call_isiD S.isinstance boot_isi (aC (oV oSo 1) (aC (nT S.int boot_it) pa_nil)))) (pss_one (ps_ret (pe_and (cB call_isiD S.isinstance boot_isi (aC (oV oSo 0) (aC (nT S.int boot_it) pa_nil))) (pe_and (pe_not (cB call_isiD S.isinstance boot_isi (aC (oV oSo 0) (aC (nT S.bool boot_bl) pa_nil)))) (pe_one (pe_cmpR op_eq (oV oSo 0) (oV oSo 1) (nomark _))))))) pss_nil)
      (pss_cons (ps_if (pt_val (cB call_isiD S.isinstance boot_isi (aC (oV oSo 1) (aC (nT S.str boot_str) pa_nil)))) (pss_one (ps_ret (pe_and (cB call_isiD S.isinstance boot_isi (aC (oV oSo 0) (aC (nT S.str boot_str) pa_nil))) (pe_one (pe_cmpR op_eq (oV oSo 0) (oV oSo 1) (nomark _)))))) pss_nil)
      (pss_cons (ps_if (pt_val (cB call_isiD S.isinstance boot_isi (aC (oV oSo 1) (aC (nT S.dict boot_dct) pa_nil)))) (pss_one ps_never) pss_nil)
      (pss_cons (ps_if (pt_cmpR op_ne (cB call_isiD S.isinstance boot_isi (aC (oV oSo 1) (aC (nT S.tuple boot_tup) pa_nil))) (cB call_isiD S.isinstance boot_isi (aC (oV oSo 0) (aC (nT S.tuple boot_tup) pa_nil))) (nomark _)) (pss_one (ps_ret pe_bl)) pss_nil)
      (pss_cons (ps_if (PW.pt (pw_or (pt_cmpR op_ne (cB call_isiD S.isinstance boot_isi (aC (oV oSo 1) (aC (nT S.list boot_lst) pa_nil))) (cB call_isiD S.isinstance boot_isi (aC (oV oSo 0) (aC (nT S.list boot_lst) pa_nil))) (nomark _)) (pw_or1 (pt_not (pt_val (cB call_isiD2 S.isinstance boot_isi (aC (oV oSo 1) (aC (pe_tup (aC (nT S.list boot_lst) (aC (nT S.tuple boot_tup) pa_nil))) pa_nil))))))))
        (pss_one (ps_ret pe_bl)) pss_nil)
      (pss_cons (ps_if (pt_cmpR op_ne (cB (call_len_seq (X := _)) S.len PySem.boot_len (aC (oV oSo 0) pa_nil)) (cB (call_len_seq (X := _)) S.len PySem.boot_len (aC (oV oSo 1) pa_nil)) (nomark _)) (pss_one (ps_ret pe_bl)) pss_nil)
      (pss_cons (ps_for PassesOwn.never rfl (rng1 S.range (aC (cB (call_len_seq (X := _)) S.len PySem.boot_len (aC (oV oSo 1) pa_nil)) pa_nil)) (oT oSo 2)
        (pss_one (ps_if (pt_not (pt_val (cF GSo hr S.so F.kp bSo .nil pass0 (aC (iX (ixD K) (oV oSo 0) (oV oSo 2)) (aC (iX (ixD K) (oV oSo 1) (oV oSo 2)) pa_nil))))) (pss_one (ps_ret pe_bl)) pss_nil)))
      (pss_one (ps_ret pe_bl))))))))))), ?_⟩
    have hnn : ∀ {v : V}, v ≠ .non → ∀ {A B : Prop}, B → (if decide (v = V.non) = true then A else B) := fun hv _ _ h => by rw [if_neg (by simpa using hv)]; exact h
    have fin : ∀ {v : V}, Q (.bl (decide (v = v))) H := fun {v} => by rw [decide_eq_true rfl]; exact k H (Same.refl H)
    cases d with
    | dict _ => simp only [RepD] at rx
    | none =>
      simp only [RepD] at rx ry
      subst rx ry
      refine ⟨_, rfl, rfl, _, rfl, ?_⟩
      refine ite2 (fun _ => ?_) (fun h => absurd (decide_eq_true rfl) h)
      exact ⟨_, rfl, rfl, fin⟩
    | bool b =>
      have rx' := rx
      have ry' := ry
      simp only [RepD] at rx ry
      subst rx ry
      refine ⟨_, rfl, rfl, _, rfl, hnn (by intro z; cases z) ?_⟩
      refine ⟨_, rfl, _, _, _, _, rfl, ry', kit_bool, _, rfl, iteT ?_⟩
      refine ⟨_, rfl, _, _, _, _, rfl, rx', kit_bool, _, rfl, ?_⟩
      exact ⟨_, rfl, _, rfl, rfl, fin⟩
    | int i =>
      have rx' := rx
      have ry' := ry
      simp only [RepD] at rx ry
      subst rx ry
      refine ⟨_, rfl, rfl, _, rfl, hnn (by intro z; cases z) ?_⟩
      refine ⟨_, rfl, _, _, _, _, rfl, ry', kit_int_bool, _, rfl, iteF ?_⟩
      refine ⟨_, rfl, _, _, _, _, rfl, ry', kit_int, _, rfl, iteT ?_⟩
      refine ⟨_, rfl, _, _, _, _, rfl, rx', kit_int, _, rfl, ?_⟩
      refine ⟨_, rfl, _, _, _, _, rfl, rx', kit_int_bool, _, rfl, _, rfl, ?_⟩
      exact ⟨_, rfl, _, rfl, rfl, fin⟩
    | str z =>
      have rx' := rx
      have ry' := ry
      simp only [RepD] at rx ry
      subst rx ry
      refine ⟨_, rfl, rfl, _, rfl, hnn (by intro z; cases z) ?_⟩
      refine ⟨_, rfl, _, _, _, _, rfl, ry', ks_bool, _, rfl, iteF ?_⟩
      refine ⟨_, rfl, _, _, _, _, rfl, ry', ks_int, _, rfl, iteF ?_⟩
      refine ⟨_, rfl, _, _, _, _, rfl, ry', ks_str, _, rfl, iteT ?_⟩
      refine ⟨_, rfl, _, _, _, _, rfl, rx', ks_str, _, rfl, ?_⟩
      exact ⟨_, rfl, _, rfl, rfl, fin⟩
    | tuple ds =>
      have rx' := rx
      have ry' := ry
      obtain ⟨a, xs, rfl, ha, hxs⟩ : ∃ a xs, x = .ref a ∧ SqT K H a xs ∧ RepDs K H ds xs := by simpa only [RepD] using rx
      obtain ⟨b, ys, rfl, hb, hys⟩ : ∃ a xs, y = .ref a ∧ SqT K H a xs ∧ RepDs K H ds xs := by simpa only [RepD] using ry
      simp only [wideD] at hw
      simp only [PyData.depth] at hd
      have hlx : xs.length = ds.length := reps_len hxs
      have hly : ys.length = ds.length := reps_len hys
      refine ⟨_, rfl, rfl, _, rfl, hnn (by intro z; cases z) ?_⟩
      refine ⟨_, rfl, _, _, _, _, rfl, ry', kt_bool, _, rfl, iteF ?_⟩
      refine ⟨_, rfl, _, _, _, _, rfl, ry', kt_int, _, rfl, iteF ?_⟩
      refine ⟨_, rfl, _, _, _, _, rfl, ry', kt_str, _, rfl, iteF ?_⟩
      refine ⟨_, rfl, _, _, _, _, rfl, ry', kt_dict, _, rfl, iteF ?_⟩
      refine ⟨_, rfl, _, _, _, _, rfl, ry', kt_tuple, _, rfl, _, _, _, _, rfl, rx', kt_tuple, rfl, _, rfl, iteNS rfl ?_⟩
      refine ⟨_, rfl, _, _, _, _, rfl, ry', kt_list, _, rfl, _, _, _, _, rfl, rx', kt_list, rfl, _, rfl, iteNS rfl ?_⟩
      refine ⟨_, rfl, (by show 2 ≤ sizeLine; decide), fun tp ntp => ?_⟩
      have s1 := same_new (o := .tup [.ty "list", .ty "tuple"]) ntp
      refine ⟨_, tp, _, _, _, _, rfl, SqT.of upd_same, RepD.same s1 _ _ ry', .inr rfl, kt_any, _, rfl, iteF ?_⟩
      refine ⟨_, rfl, a, xs, rfl, .inr (s1.sqT ha), _, rfl, b, ys, rfl, .inr (s1.sqT hb), rfl, _, rfl, iteNS (by rw [hlx, hly]) ?_⟩
      refine ⟨_, rfl, b, ys, rfl, .inr (s1.sqT hb), _, rfl, by omega, by omega, for_range (n := ((ys.length : Nat) : Int).toNat) (fun i σ H2 => ∃ v, σ = [some (.ref a), some (.ref b), v] ∧ Same H H2) ⟨none, rfl, s1⟩ ?_ ?_⟩
      · rintro i σ H2 hi ⟨v, rfl, e2⟩
        have hi' : i < ds.length := by omega
        obtain ⟨x', hx1, hx2⟩ := reps_get hxs (i := i) (d := ds[i]) (List.getElem?_eq_getElem hi')
        obtain ⟨y', hy1, hy2⟩ := reps_get hys (i := i) (d := ds[i]) (List.getElem?_eq_getElem hi')
        have hdi := depth_get (List.getElem?_eq_getElem hi')
        refine ⟨_, rfl, _, rfl, .inr ⟨a, xs, _, x', rfl, rfl, e2.sqT ha, by rw [Int.zero_add]; exact atI_nat hx1, _, rfl, _, rfl, .inr ⟨b, ys, _, y', rfl, rfl, e2.sqT hb, by rw [Int.zero_add]; exact atI_nat hy1, x', y', ds[i], rfl, RepD.same e2 _ _ hx2, RepD.same e2 _ _ hy2, by omega, wideDs_get hw.2 (List.getElem?_eq_getElem hi'), fun H3 e3 => ⟨_, rfl, iteF ?_⟩⟩⟩⟩
        exact ⟨_, rfl, e2.trans e3⟩
      · rintro σ H2 ⟨v, rfl, e2⟩
        exact k H2 e2
    | list ds =>
      have rx' := rx
      have ry' := ry
      obtain ⟨a, xs, rfl, ha, hxs⟩ : ∃ a xs, x = .ref a ∧ SqL K H a xs ∧ RepDs K H ds xs := by simpa only [RepD] using rx
      obtain ⟨b, ys, rfl, hb, hys⟩ : ∃ a xs, y = .ref a ∧ SqL K H a xs ∧ RepDs K H ds xs := by simpa only [RepD] using ry
      simp only [wideD] at hw
      simp only [PyData.depth] at hd
      have hlx : xs.length = ds.length := reps_len hxs
      have hly : ys.length = ds.length := reps_len hys
      refine ⟨_, rfl, rfl, _, rfl, hnn (by intro z; cases z) ?_⟩
      refine ⟨_, rfl, _, _, _, _, rfl, ry', kl_bool, _, rfl, iteF ?_⟩
      refine ⟨_, rfl, _, _, _, _, rfl, ry', kl_int, _, rfl, iteF ?_⟩
      refine ⟨_, rfl, _, _, _, _, rfl, ry', kl_str, _, rfl, iteF ?_⟩
      refine ⟨_, rfl, _, _, _, _, rfl, ry', kl_dict, _, rfl, iteF ?_⟩
      refine ⟨_, rfl, _, _, _, _, rfl, ry', kl_tuple, _, rfl, _, _, _, _, rfl, rx', kl_tuple, rfl, _, rfl, iteNS rfl ?_⟩
      refine ⟨_, rfl, _, _, _, _, rfl, ry', kl_list, _, rfl, _, _, _, _, rfl, rx', kl_list, rfl, _, rfl, iteNS rfl ?_⟩
      refine ⟨_, rfl, (by show 2 ≤ sizeLine; decide), fun tp ntp => ?_⟩
      have s1 := same_new (o := .tup [.ty "list", .ty "tuple"]) ntp
      refine ⟨_, tp, _, _, _, _, rfl, SqT.of upd_same, RepD.same s1 _ _ ry', .inl rfl, kl_any, _, rfl, iteF ?_⟩
      refine ⟨_, rfl, a, xs, rfl, .inl (s1.seq ha), _, rfl, b, ys, rfl, .inl (s1.seq hb), rfl, _, rfl, iteNS (by rw [hlx, hly]) ?_⟩
      refine ⟨_, rfl, b, ys, rfl, .inl (s1.seq hb), _, rfl, by omega, by omega, for_range (n := ((ys.length : Nat) : Int).toNat) (fun i σ H2 => ∃ v, σ = [some (.ref a), some (.ref b), v] ∧ Same H H2) ⟨none, rfl, s1⟩ ?_ ?_⟩
      · rintro i σ H2 hi ⟨v, rfl, e2⟩
        have hi' : i < ds.length := by omega
        obtain ⟨x', hx1, hx2⟩ := reps_get hxs (i := i) (d := ds[i]) (List.getElem?_eq_getElem hi')
        obtain ⟨y', hy1, hy2⟩ := reps_get hys (i := i) (d := ds[i]) (List.getElem?_eq_getElem hi')
        have hdi := depth_get (List.getElem?_eq_getElem hi')
        refine ⟨_, rfl, _, rfl, .inl ⟨a, xs, _, x', rfl, rfl, e2.seq ha, by rw [Int.zero_add]; exact atI_nat hx1, _, rfl, _, rfl, .inl ⟨b, ys, _, y', rfl, rfl, e2.seq hb, by rw [Int.zero_add]; exact atI_nat hy1, x', y', ds[i], rfl, RepD.same e2 _ _ hx2, RepD.same e2 _ _ hy2, by omega, wideDs_get hw.2 (List.getElem?_eq_getElem hi'), fun H3 e3 => ⟨_, rfl, iteF ?_⟩⟩⟩⟩
        exact ⟨_, rfl, e2.trans e3⟩
      · rintro σ H2 ⟨v, rfl, e2⟩
        exact k H2 e2
theorem ok_so {f : Addr} {fd : FuncData} (F : Fun K "_law_so" "_law_so" sSo f fd) (S : Sxt mg f) (bSo : Binds K fd ["_law_found", "_law_meant"] []) : ∀ n : Nat, FnOk P w K mg base CX0 (n + 1) f fd ["_law_found", "_law_meant"] (spSo K (n + 1))
  | 0 => ok_so1 F S bSo (so_zero F)
  | n + 1 => ok_so1 F S bSo (ok_so F S bSo n)
end
end Of

end

section
set_option Elab.async false
set_option linter.all false
set_option maxRecDepth 100000
set_option maxHeartbeats 4000000
seal L2.PE L2.PT L2.PW L2.PA L2.PS L2.PSs L2.PG L2.PGs L2.PI L3.PTs L2.PO L2.CallR L2.OpR L2.IxR L2.MtR L2.PSet L2.SlR
namespace Of
open PySem L2 L3
theorem len2 {a b : V} : [a, b].length ≤ sizeLine := by show 2 ≤ sizeLine; decide
theorem len1 {a : V} : [a].length ≤ sizeLine := by show 1 ≤ sizeLine; decide
theorem len0 : ([] : List V).length ≤ sizeLine := by show 0 ≤ sizeLine; decide
theorem len3 {a b c : V} : [a, b, c].length ≤ sizeLine := by show 3 ≤ sizeLine; decide
/-- what the top binds -/
structure Txt (K : PySem.W.Frag) (mg : Str → Option Value) (C fN fT fC fR fF fO : Addr) : Prop where
  cl : Cls K C
  nN : NoAttr K C "number"
  nC : NoAttr K C "coins"
  nK : NoAttr K C "clock"
  nB : NoAttr K C "book"
  nT : NoAttr K C "tray"
  nE : NoAttr K C "kept"
  office : mg "Office" = some (.ref C)
  name_of : mg "name_of" = some (.ref fN)
  is_there : mg "is_there" = some (.ref fT)
  counted : mg "counted" = some (.ref fC)
  ready : mg "ready" = some (.ref fR)
  first_ready : mg "first_ready" = some (.ref fF)
  coins_for : mg "coins_for" = some (.ref fO)
  len : mg "len" = none
  range : mg "range" = none
  all : mg "all" = none
def spName (K : PySem.W.Frag) : Sp := fun vs H Q _ => ∃ (a : Addr) (l : Let), vs = [.ref a] ∧ LetAt K H a l ∧ l.s < l.st.length ∧ ∀ p, H p = none → Q (.ref p) (upd H p (.tup [.int l.s, .int (nameN l)]))
def spThere (K : PySem.W.Frag) : Sp := fun vs H Q _ => ∃ (n c : Addr) (s : Nat) (m : Int) (cs : List Int), vs = [.ref n, .ref c] ∧ SqT K H n [.int s, .int m] ∧ SqT K H c (nums cs) ∧ s < cs.length ∧ Q (.bl (decide (m ≤ cs.getD s 0))) H
def spCounted (K : PySem.W.Frag) : Sp := fun vs H Q _ => ∃ (c : Addr) (s : Nat) (cs : List Int), vs = [.ref c, .int s] ∧ SqT K H c (nums cs) ∧ s < cs.length ∧ cs.length ≤ 1000 ∧ ∀ p H', Same H H' → SqT K H' p (nums (inc cs s)) → Q (.ref p) H'
def spReady (K : PySem.W.Frag) : Sp := fun vs H Q _ => ∃ (a c : Addr) (l : Let) (cs : List Int), vs = [.ref a, .ref c] ∧ LetAt K H a l ∧ SqT K H c (nums cs) ∧ l.s < cs.length ∧ l.st.length = cs.length ∧ cs.length ≤ 1000 ∧ ∀ H', Same H H' → Q (.bl (readyB l.s l.st cs)) H'
def spCoins (K : PySem.W.Frag) : Sp := fun vs H Q _ => ∃ (n : Int) (c : Addr) (w : What), vs = [.int n, .ref c] ∧ WhatAt K H c w ∧ Q (.int (coinsFor n w)) H
def optV : Option Nat → V
  | none => .non
  | some i => .int i
def spFirst (K : PySem.W.Frag) : Sp := fun vs H Q _ => ∃ (a c : Addr) (ts : List V) (ls : List Let) (cs : List Int), vs = [.ref a, .ref c] ∧ SqL K H a ts ∧ RepDs K H (ls.map letD) ts ∧ SqT K H c (nums cs) ∧ cs.length ≤ 1000 ∧ ls.length ≤ 1000 ∧
  (∀ l ∈ ls, l.s < cs.length ∧ l.st.length = cs.length) ∧ ∀ H', Same H H' → Q (optV (firstR ls cs)) H'

section
variable {P : Program} {w : World} {K : PySem.W.Frag} {mg : Str → Option Value} {base : Heap} {C fN fT fC fR fF fO : Addr}
theorem oN : ownB ["letter", "sender", "stamp"] (defScope sName) = true := by decide +kernel
theorem scN : FnScope ["letter", "sender", "stamp"] ["letter"] (defScope sName) := ⟨rfl, rfl, rfl, by decide +kernel, rfl, by decide +kernel, by decide +kernel⟩
theorem ok_name {f : Addr} {fd : FuncData} (F : Fun K "name_of" "name_of" sName f fd) : FnOk P w K mg base CX0 1 f fd ["letter"] (spName K) := by
  refine okB (body := [stm sName 0, stm sName 1, stm sName 2]) F scN (fun vs H Q E h => ?_) (by kernel_rfl) (fun cdv A outer s0 H vs Q E hr h => ?_)
  · obtain ⟨a, l, rfl, _⟩ := h
    rfl
  · obtain ⟨a, l, rfl, ⟨b, c, h1, h2, h4⟩, h3, q⟩ := h
    refine ⟨_, (pss_cons (oS oN 1 (iX (ixT K) (oV oN 0) pe_int))
      (pss_cons (oS oN 2 (iX (ixT K) (oV oN 0) pe_int))
      (pss_one (ps_ret (pe_tup (aC (oV oN 1) (aC (iX (ixT K) (oV oN 2) (oV oN 1)) pa_nil))))))), ?_⟩
    refine ⟨_, rfl, a, _, 0, _, rfl, rfl, h1, rfl, _, rfl, a, _, 1, _, rfl, rfl, h1, rfl, ?_⟩
    exact ⟨_, rfl, _, rfl, _, rfl, b, _, _, _, rfl, rfl, h2, atI_nat (get_nums h3), len2, q⟩
theorem oTh : ownB ["name", "clock"] (defScope sThere) = true := by decide +kernel
theorem scT : FnScope ["name", "clock"] ["name", "clock"] (defScope sThere) := ⟨rfl, rfl, rfl, by decide +kernel, rfl, by decide +kernel, by decide +kernel⟩
theorem ok_there {f : Addr} {fd : FuncData} (F : Fun K "is_there" "is_there" sThere f fd) : FnOk P w K mg base CX0 1 f fd ["name", "clock"] (spThere K) := by
  refine okB (body := [stm sThere 0]) F scT (fun vs H Q E h => ?_) (by kernel_rfl) (fun cdv A outer s0 H vs Q E hr h => ?_)
  · obtain ⟨n, c, s, m, cs, rfl, _⟩ := h
    rfl
  · obtain ⟨n, c, s, m, cs, rfl, h1, h2, h3, q⟩ := h
    refine ⟨_, (pss_one (ps_ret (pe_cmpR op_ge (iX (ixT K) (oV oTh 1) (iX (ixT K) (oV oTh 0) pe_int)) (iX (ixT K) (oV oTh 0) pe_int) (nomark _)))), ?_⟩
    exact ⟨_, rfl, _, rfl, n, _, 0, _, rfl, rfl, h1, rfl, c, _, (s : Int), _, rfl, rfl, h2, atI_nat (get_nums h3), _, rfl, n, _, 1, _, rfl, rfl, h1, rfl, _, _, rfl, rfl, q⟩

theorem cut_lo {xs : List V} {s : Nat} (h : s ≤ xs.length) : cutV xs none (some (s : Int)) = xs.take s := by
  unfold cutV
  rw [HT.sIx_nat, HT.sIx_none]
  simp [Nat.min_eq_left h]
theorem cut_hi {xs : List V} {s : Nat} (h : s ≤ xs.length) : cutV xs (some (s : Int)) none = xs.drop s := by
  unfold cutV
  rw [HT.sIx_nat, HT.sIx_none, Nat.min_eq_left h]
  exact List.take_of_length_le (by rw [List.length_drop]; omega)
theorem inc_split {cs : List Int} {s : Nat} (h : s < cs.length) : (nums cs).take s ++ [V.int (cs.getD s 0 + 1)] ++ (nums cs).drop (s + 1) = nums (inc cs s) := by
  unfold inc nums
  rw [← List.map_take, ← List.map_drop, List.set_eq_take_append_cons_drop, if_pos h]
  simp
theorem oCt : ownB ["clock", "sender"] (defScope sCounted) = true := by decide +kernel
theorem scC : FnScope ["clock", "sender"] ["clock", "sender"] (defScope sCounted) := ⟨rfl, rfl, rfl, by decide +kernel, rfl, by decide +kernel, by decide +kernel⟩
theorem ok_counted {f : Addr} {fd : FuncData} (F : Fun K "counted" "counted" sCounted f fd) : FnOk P w K mg base CX0 1 f fd ["clock", "sender"] (spCounted K) := by
  refine okB (body := [stm sCounted 0]) F scC (fun vs H Q E h => ?_) (by kernel_rfl) (fun cdv A outer s0 H vs Q E hr h => ?_)
  · obtain ⟨c, s, cs, rfl, _⟩ := h
    rfl
  · obtain ⟨c, s, cs, rfl, h1, h2, h3, q⟩ := h
    refine ⟨_, (pss_one (ps_ret (pe_op op_catG (pe_op op_catG (pe_slice sl_tup (oV oCt 0) po_none (po_some (oV oCt 1))) (pe_tup (aC (pe_op op_add (iX (ixT K) (oV oCt 0) (oV oCt 1)) pe_int) pa_nil))) (pe_slice sl_tup (oV oCt 0) (po_some (pe_op op_add (oV oCt 1) pe_int)) po_none)))), ?_⟩
    have hl : (nums cs).length = cs.length := List.length_map ..
    have big : ∀ n, n ≤ 3000 → n ≤ sizeLine := fun n hn => Nat.le_trans hn (by decide)
    refine ⟨_, rfl, _, rfl, _, rfl, c, _, rfl, h1, ?_, fun p1 n1 => ?_⟩
    · rw [HT.sIx_nat, HT.sIx_none]; omega
    have s1 := same_new (o := .tup (cutV (nums cs) none (some (s : Int)))) n1
    refine ⟨_, rfl, _, rfl, c, _, (s : Int), _, rfl, rfl, s1.sqT h1, atI_nat (get_nums h2), _, _, rfl, rfl, len1, fun p2 n2 => ?_⟩
    have s2 := same_new (o := .tup [V.int (cs.getD s 0 + 1)]) n2
    have n12 : p1 ≠ p2 := fun e => by rw [← e, upd_same] at n2; cases n2
    refine ⟨p1, p2, _, _, rfl, rfl, SqT.of ((upd_ne n12).trans upd_same), SqT.of upd_same, ?_, fun p3 H3 e3 h5 => ?_⟩
    · rw [cut_lo (by omega)]; simp only [List.length_take, List.length_singleton]; exact big _ (by omega)
    have s3 : Same H H3 := (s1.trans s2).trans e3
    refine ⟨_, rfl, _, rfl, _, _, rfl, rfl, _, rfl, c, _, rfl, s3.sqT h1, ?_, fun p4 n4 => ?_⟩
    · rw [show ((s : Int) + 1) = ((s + 1 : Nat) : Int) by omega, HT.sIx_nat, HT.sIx_none]; omega
    have s4 := same_new (o := .tup (cutV (nums cs) (some ((s : Int) + 1)) none)) n4
    refine ⟨p3, p4, _, _, rfl, rfl, s4.sqT h5, SqT.of upd_same, ?_, fun p5 H5 e5 h6 => q p5 H5 ((s3.trans s4).trans e5) ?_⟩
    · rw [cut_lo (by omega), show ((s : Int) + 1) = ((s + 1 : Nat) : Int) by omega, cut_hi (by omega)]
      simp only [List.length_append, List.length_take, List.length_singleton, List.length_drop]
      exact big _ (by omega)
    · rw [cut_lo (by omega), show ((s : Int) + 1) = ((s + 1 : Nat) : Int) by omega, cut_hi (by omega), inc_split h2] at h6
      exact h6
end
end Of

end

section
set_option Elab.async false
set_option linter.all false
set_option maxRecDepth 100000
set_option maxHeartbeats 4000000
seal L2.PE L2.PT L2.PW L2.PA L2.PS L2.PSs L2.PG L2.PGs L2.PI L3.PTs L2.PO L2.CallR L2.OpR L2.IxR L2.MtR L2.PSet L2.SlR
namespace Of
open PySem L2 L3
section
variable {P : Program} {w : World} {K : PySem.W.Frag} {mg : Str → Option Value} {base : Heap} {C fN fT fC fR fF fO : Addr}
theorem oR : ownB ["letter", "clock", "sender", "stamp", "others"] (defScope sReady) = true := by decide +kernel
theorem scR : FnScope ["letter", "clock", "sender", "stamp", "others"] ["letter", "clock"] (defScope sReady) := ⟨rfl, rfl, rfl, by decide +kernel, rfl, by decide +kernel, by decide +kernel⟩
theorem ok_ready {f : Addr} {fd : FuncData} (F : Fun K "ready" "ready" sReady f fd) (T : Txt K mg C fN fT fC fR fF fO) : FnOk P w K mg base CX0 1 f fd ["letter", "clock"] (spReady K) := by
  refine okB (body := [stm sReady 0, stm sReady 1, stm sReady 2, stm sReady 3, stm sReady 4]) F scR (fun vs H Q E h => ?_) (by kernel_rfl) (fun cdv A outer s0 H vs Q E hr h => ?_)
  · obtain ⟨a, c, l, cs, rfl, _⟩ := h
    rfl
  · obtain ⟨a, c, ⟨s, ss, lw⟩, cs, rfl, ⟨b, v, hA, hB, _⟩, hC, hs, hl, hz, q⟩ := h
    dsimp only at hA hB hs hl q
    refine ⟨_, (pss_cons (oS oR 2 (iX (ixT K) (oV oR 0) pe_int))
      (pss_cons (oS oR 3 (iX (ixT K) (oV oR 0) pe_int))
      (pss_cons (ps_if (pt_cmpR op_ne (iX (ixT K) (oV oR 3) (oV oR 2)) (pe_op op_add (iX (ixT K) (oV oR 1) (oV oR 2)) pe_int) (nomark _))
        (pss_one (ps_ret pe_bl))
        pss_nil)
      (pss_cons (oC oR 4 [2] ["sender"] rfl (rng1 T.range (aC (cB (call_len_seq (X := _)) T.len PySem.boot_len (aC (oV oR 1) pa_nil)) pa_nil)) (fun _ _ _ _ _ => (pts_one (pt_cmpR op_ne (sV 0) (sV 1) (nomark _)))) (fun _ _ _ _ _ => (sV 0)))
      (pss_one (ps_ret (cB (call_all rfl) T.all boot_all (aC (eC [1, 3] ["clock", "stamp"] rfl (pi_list (oV oR 4)) (fun _ _ _ _ _ => pts_nil) (fun _ _ _ _ _ => (pe_cmpR op_le (iX (ixT K) (sV 2) (sV 0)) (iX (ixT K) (sV 1) (sV 0)) (nomark _)))) pa_nil)))))))), ?_⟩
    refine ⟨_, rfl, a, _, 0, _, rfl, rfl, hA, rfl, _, rfl, a, _, 1, _, rfl, rfl, hA, rfl, ?_⟩
    refine ⟨_, rfl, _, rfl, b, _, (s : Int), _, rfl, rfl, hB, atI_nat (get_nums (by omega)), _, rfl, _, rfl, c, _, (s : Int), _, rfl, rfl, hC, atI_nat (get_nums hs), _, _, rfl, rfl, rfl, _, rfl, ?_⟩
    by_cases e : ss.getD s 0 = cs.getD s 0 + 1
    · rw [show (!decide (V.int (ss.getD s 0) = V.int (cs.getD s 0 + 1))) = false by rw [e]; simp]
      refine iteF ?_
      refine ⟨_, rfl, c, _, rfl, .inr hC, _, rfl, by omega, by rw [List.length_map]; omega, comp_range (fun D i ys H2 => Same H H2 ∧ H2 D = some (.lst ys) ∧ ys = ((List.range i).filter fun k => decide (k ≠ s)).map fun k => V.int ((k : Nat) : Int))
        (fun D hD => ⟨same_new hD, upd_same, rfl⟩) (fun D i ys H2 _ _ h => h.2.1) (fun D i ys H2 hD hi ⟨e1, e2, e3⟩ => ?_) (fun D ys H2 hD ⟨e1, e2, e3⟩ => ?_)⟩
      · refine ⟨_, rfl, _, rfl, rfl, _, rfl, ?_⟩
        by_cases e4 : i = s
        · rw [show (!decide (V.int (0 + (i : Int)) = V.int (s : Int))) = false by simp [e4]]
          refine iteF ⟨e1, e2, ?_⟩
          rw [List.range_succ, List.filter_append, e3]
          simp [e4]
        · rw [show (!decide (V.int (0 + (i : Int)) = V.int (s : Int))) = true by simp; omega]
          refine iteT ⟨_, rfl, e2, ?_, same_upd e1 hD, upd_same, ?_⟩
          · rw [e3, List.length_map]
            have := List.length_filter_le (fun k => decide (k ≠ s)) (List.range i)
            rw [List.length_range] at this
            rw [List.length_map] at hi
            exact small1000 (by omega)
          · rw [List.range_succ, List.filter_append, e3]
            simp [e4]
      · have hn : ((nums cs).length : Int).toNat = cs.length := by rw [List.length_map]; omega
        rw [hn] at e3
        refine ⟨_, rfl, D, rfl, ⟨_, SqL.of e2⟩, comp_list (xs := ys) (fun D2 i zs H3 => Same H2 H3 ∧ H3 D2 = some (.lst zs) ∧ zs = ((((List.range cs.length).filter fun k => decide (k ≠ s)).take i).map fun k => decide (ss.getD k 0 ≤ cs.getD k 0)).map V.bl)
          (fun D2 hD2 => ⟨same_new hD2, upd_same, rfl⟩) (fun D2 i zs H3 _ _ h => ⟨h.2.1, SqL.of (h.1 _ _ e2)⟩) (fun D2 i x zs H3 hD2 hx ⟨f1, f2, f3⟩ => ?_) (fun D2 zs H3 hD2 ⟨f1, f2, f3⟩ => ?_)⟩
        · rw [e3, List.getElem?_map] at hx
          cases hk : ((List.range cs.length).filter fun k => decide (k ≠ s))[i]? with
          | none => rw [hk] at hx; cases hx
          | some k =>
            rw [hk] at hx
            have hx : x = V.int ((k : Nat) : Int) := (Option.some.inj hx).symm
            subst hx
            have hkm : k < cs.length := List.mem_range.mp (List.mem_filter.mp (List.mem_of_getElem? hk)).1
            refine ⟨_, rfl, _, rfl, b, _, (k : Int), _, rfl, rfl, f1.sqT (e1.sqT hB), atI_nat (get_nums (by omega)), _, rfl, _, rfl, c, _, (k : Int), _, rfl, rfl, f1.sqT (e1.sqT hC), atI_nat (get_nums hkm), _, _, rfl, rfl, f2, ?_, same_upd f1 hD2, upd_same, ?_⟩
            · rw [f3, List.length_map, List.length_map, List.length_take]
              have := List.length_filter_le (fun k => decide (k ≠ s)) (List.range cs.length)
              rw [List.length_range] at this
              exact small1000 (by omega)
            · rw [List.take_succ, hk, f3]
              simp
        · refine ⟨D2, _, rfl, SqL.of (by rw [f2, f3]), ?_⟩
          have hy : ys.length = ((List.range cs.length).filter fun k => decide (k ≠ s)).length := by rw [e3, List.length_map]
          rw [hy, List.take_length]
          have : readyB s ss cs = (((List.range cs.length).filter fun k => decide (k ≠ s)).map fun k => decide (ss.getD k 0 ≤ cs.getD k 0)).all id := by
            unfold readyB; rw [decide_eq_true e, Bool.true_and]
          rw [this] at q
          exact q H3 (e1.trans f1)
    · rw [show (!decide (V.int (ss.getD s 0) = V.int (cs.getD s 0 + 1))) = true by rw [decide_eq_false (fun z => e (V.int.inj z))]; rfl]
      refine iteT ?_
      have : readyB s ss cs = false := by unfold readyB; rw [decide_eq_false e]; rfl
      rw [this] at q
      exact q H (Same.refl H)

theorem oCo : ownB ["number", "what"] (defScope sCoins) = true := by decide +kernel
theorem scO : FnScope ["number", "what"] ["number", "what"] (defScope sCoins) := ⟨rfl, rfl, rfl, by decide +kernel, rfl, by decide +kernel, by decide +kernel⟩
theorem dec_i (x y : Int) : decide (V.int x = V.int y) = decide (x = y) := dec_int.trans (by rw [Bool.beq_eq_decide_eq])
theorem ok_coins {f : Addr} {fd : FuncData} (F : Fun K "coins_for" "coins_for" sCoins f fd) : FnOk P w K mg base CX0 1 f fd ["number", "what"] (spCoins K) := by
  refine okB (body := [stm sCoins 0, stm sCoins 1]) F scO (fun vs H Q E h => ?_) (by kernel_rfl) (fun cdv A outer s0 H vs Q E hr h => ?_)
  · obtain ⟨n, c, w, rfl, _⟩ := h
    rfl
  · obtain ⟨n, c, wh, rfl, h1, q⟩ := h
    refine ⟨_, (pss_cons (ps_if (PW.pt (pw_and (pt_cmpR op_eq (iX (ixT K) (oV oCo 1) pe_int) pe_str (nomark _)) (pw_and1 (pt_cmpR op_eq (iX (ixT K) (oV oCo 1) pe_int) (oV oCo 0) (nomark _)))))
        (pss_one (ps_ret (iX (ixT K) (oV oCo 1) pe_int)))
        pss_nil)
      (pss_one (ps_ret pe_int))), ?_⟩
    cases wh with
    | pay t m =>
      have h1 : SqT K H c [.str "pay", .int t, .int m] := h1
      refine ⟨_, rfl, c, _, 0, _, rfl, rfl, h1, rfl, rfl, _, rfl, ?_⟩
      rw [show decide (V.str "pay" = V.str "pay") = true from decide_eq_true rfl]
      refine iteT ⟨_, rfl, c, _, 1, _, rfl, rfl, h1, rfl, _, rfl, rfl, _, rfl, ?_⟩
      rw [dec_i]
      refine ite2 (fun h => ?_) (fun h => ?_)
      · refine ⟨_, rfl, c, _, 2, _, rfl, rfl, h1, rfl, ?_⟩
        have : coinsFor n (.pay t m) = m := if_pos (by simpa using h)
        rw [this] at q
        exact q
      · have : coinsFor n (.pay t m) = 0 := if_neg (by simpa using h)
        rw [this] at q
        exact q
    | cut =>
      have h1 : SqT K H c [.str "cut"] := h1
      refine ⟨_, rfl, c, _, 0, _, rfl, rfl, h1, rfl, rfl, _, rfl, ?_⟩
      rw [show decide (V.str "cut" = V.str "pay") = false by decide +kernel]
      exact iteF (iteF q)

theorem oFr : ownB ["tray", "clock", "place"] (defScope sFirst) = true := by decide +kernel
theorem scF : FnScope ["tray", "clock", "place"] ["tray", "clock"] (defScope sFirst) := ⟨rfl, rfl, rfl, by decide +kernel, rfl, by decide +kernel, by decide +kernel⟩
theorem ok_first {f : Addr} {fd fdR : FuncData} (F : Fun K "first_ready" "first_ready" sFirst f fd) (T : Txt K mg C fN fT fC fR fF fO) (FR : Fun K "ready" "ready" sReady fR fdR) (bR : Binds K fdR ["letter", "clock"] []) : FnOk P w K mg base CX0 2 f fd ["tray", "clock"] (spFirst K) := by
  have GR : FnOk P w K mg base CX0 1 fR fdR ["letter", "clock"] (spReady K) := ok_ready FR T
  refine okB (body := [stm sFirst 0, stm sFirst 1]) F scF (fun vs H Q E h => ?_) (by kernel_rfl) (fun cdv A outer s0 H vs Q E hr h => ?_)
  · obtain ⟨a, c, ts, ls, cs, rfl, _⟩ := h
    rfl
  · obtain ⟨a, c, ts, ls, cs, rfl, h1, h2, h3, h4, h5, h6, q⟩ := h
    refine ⟨_, (pss_cons (ps_for PassesOwn.never rfl (rng1 T.range (aC (cB (call_len_seq (X := _)) T.len PySem.boot_len (aC (oV oFr 0) pa_nil)) pa_nil)) (oT oFr 2)
        (pss_one (ps_if (pt_val (cF GR hr T.ready FR.kp bR .nil pass0 (aC (iX (ixL K) (oV oFr 0) (oV oFr 2)) (aC (oV oFr 1) pa_nil))))
          (pss_one (ps_ret (oV oFr 2)))
          pss_nil)))
      (pss_one (ps_ret pe_non))), ?_⟩
    have hlen : ts.length = ls.length := by rw [reps_len h2, List.length_map]
    refine ⟨_, rfl, a, _, rfl, .inl h1, _, rfl, by omega, by omega, for_range (n := ((ts.length : Nat) : Int).toNat) (fun i σ H2 => ∃ v, σ = [some (.ref a), some (.ref c), v] ∧ Same H H2 ∧ ∀ l ∈ ls.take i, readyB l.s l.st cs = false)
      ⟨none, rfl, Same.refl H, fun _ h => by simp at h⟩ ?_ ?_⟩
    · rintro i σ H2 hi ⟨v, rfl, e1, e2⟩
      have hi' : i < ls.length := by omega
      have hget : (ls.map letD)[i]? = some (letD ls[i]) := by rw [List.getElem?_map, List.getElem?_eq_getElem hi']; rfl
      obtain ⟨x, hx, rx⟩ := reps_get h2 hget
      obtain ⟨b, rfl, L⟩ := letAt_iff.mp rx
      obtain ⟨g1, g2⟩ := h6 ls[i] (List.getElem_mem hi')
      refine ⟨_, rfl, _, rfl, a, _, _, _, rfl, rfl, e1.seq h1, by rw [Int.zero_add]; exact atI_nat hx, _, rfl, b, c, ls[i], cs, rfl, L.imm e1.imm, e1.sqT h3, g1, g2, h4, fun H3 e3 => ⟨_, rfl, ?_⟩⟩
      cases hr : readyB ls[i].s ls[i].st cs with
      | true =>
        refine iteT ⟨_, rfl, ?_⟩
        have hf : firstR ls cs = some i := by
          unfold firstR
          rw [List.findIdx?_eq_some_iff_getElem]
          refine ⟨hi', hr, fun j hj => ?_⟩
          have := e2 ls[j] (List.mem_take_iff_getElem.mpr ⟨j, by omega, rfl⟩)
          rw [this]; simp
        have q' := q H3 (e1.trans e3)
        rw [hf] at q'
        simpa [optV] using q'
      | false =>
        refine iteF ⟨_, rfl, e1.trans e3, fun l hl => ?_⟩
        rw [List.take_succ, List.getElem?_eq_getElem hi'] at hl
        rcases List.mem_append.mp hl with z | z
        · exact e2 l z
        · have : l = ls[i] := by simpa using z
          rw [this]; exact hr
    · rintro σ H2 ⟨v, rfl, e1, e2⟩
      have hf : firstR ls cs = none := by
        unfold firstR
        rw [List.findIdx?_eq_none_iff]
        intro l hl
        exact e2 l (by rw [show ((ts.length : Nat) : Int).toNat = ls.length by omega, List.take_length]; exact hl)
      have q' := q H2 e1
      rw [hf] at q'
      exact q'
end
end Of

end

set_option Elab.async false
set_option linter.all false
set_option maxRecDepth 100000
set_option maxHeartbeats 4000000
namespace Of
open PySem L2 L3
/-! ### an office with all its parts named -/
structure OffX (K : PySem.W.Frag) (C : Addr) (H : Hp) (p : Addr) (o : Off) (dx cl lb lt lk : Addr) (bs ts ks : List V) : Prop where
  ob : H p = some (.ins C dx (flds o.num o.coins cl lb lt lk))
  ck : SqT K H cl (nums o.clock)
  hb : H lb = some (.lst bs)
  rb : RepDs K H o.book bs
  ht : H lt = some (.lst ts)
  rt : RepDs K H (o.tray.map letD) ts
  hk : H lk = some (.lst ks)
  rk : RepDs K H o.kept ks
  nb : noLists o.book = true
  nk : noLists o.kept = true
section
variable {K : PySem.W.Frag} {C : Addr} {H H4 H' : Hp} {p : Addr} {o : Off} {dx cl lb lt lk q : Addr} {bs ts ks xs : List V}
theorem OffAt.x (h : OffAt K C H p o) : ∃ dx cl lb lt lk bs ts ks, OffX K C H p o dx cl lb lt lk bs ts ks := by
  obtain ⟨⟨dx, cl, lb, lt, lk, bs, ts, ks, h1, h2, h3, h4, h5, h6, h7, h8⟩, nb, nk⟩ := h
  exact ⟨dx, cl, lb, lt, lk, bs, ts, ks, h1, h2, h3, h4, h5, h6, h7, h8, nb, nk⟩
theorem OffX.at_ (h : OffX K C H p o dx cl lb lt lk bs ts ks) : OffAt K C H p o := ⟨⟨dx, cl, lb, lt, lk, bs, ts, ks, h.ob, h.ck, h.hb, h.rb, h.ht, h.rt, h.hk, h.rk⟩, h.nb, h.nk⟩
theorem OffX.same (h : OffX K C H p o dx cl lb lt lk bs ts ks) (e : Same H H') : OffX K C H' p o dx cl lb lt lk bs ts ks :=
  ⟨e _ _ h.ob, e.sqT h.ck, e _ _ h.hb, RepDs.same e _ _ h.rb, e _ _ h.ht, RepDs.same e _ _ h.rt, e _ _ h.hk, RepDs.same e _ _ h.rk, h.nb, h.nk⟩
theorem lst_ne {u : List V} {c d : Addr} {fs : List (Str × V)} (h1 : H q = some (.lst u)) (h2 : H p = some (.ins c d fs)) : q ≠ p := ne_of h1 h2 (by intro z; cases z)
theorem upd_old {b : Addr} {u : List V} {fs gs : List (Str × V)} (hp : H p = some (.ins C dx fs)) (h : H b = some (.lst u)) : (upd H p (.ins C dx gs)) b = some (.lst u) := (upd_ne (lst_ne h hp)).trans h
theorem OffX.setCoins (h : OffX K C H p o dx cl lb lt lk bs ts ks) (c : Int) : OffX K C (upd H p (.ins C dx (putF "coins" (.int c) (flds o.num o.coins cl lb lt lk)))) p { o with coins := c } dx cl lb lt lk bs ts ks :=
  have e := imm_ins (C' := C) (dx' := dx) (gs := putF "coins" (.int c) (flds o.num o.coins cl lb lt lk)) h.ob
  ⟨by rw [upd_same, put_coins], e.sqT h.ck, upd_old h.ob h.hb, RepDs.imm e _ _ h.nb h.rb, upd_old h.ob h.ht, RepDs.imm e _ _ (noList_lets _) h.rt, upd_old h.ob h.hk, RepDs.imm e _ _ h.nk h.rk, h.nb, h.nk⟩
theorem OffX.setClock (h : OffX K C H p o dx cl lb lt lk bs ts ks) {cs : List Int} (hc : SqT K H q (nums cs)) : OffX K C (upd H p (.ins C dx (putF "clock" (.ref q) (flds o.num o.coins cl lb lt lk)))) p { o with clock := cs } dx q lb lt lk bs ts ks :=
  have e := imm_ins (C' := C) (dx' := dx) (gs := putF "clock" (.ref q) (flds o.num o.coins cl lb lt lk)) h.ob
  ⟨by rw [upd_same, put_clock], e.sqT hc, upd_old h.ob h.hb, RepDs.imm e _ _ h.nb h.rb, upd_old h.ob h.ht, RepDs.imm e _ _ (noList_lets _) h.rt, upd_old h.ob h.hk, RepDs.imm e _ _ h.nk h.rk, h.nb, h.nk⟩
theorem OffX.setBook (h : OffX K C H p o dx cl lb lt lk bs ts ks) {ds : List PyData} (hq : H q = some (.lst xs)) (rq : RepDs K H ds xs) (nq : noLists ds = true) : OffX K C (upd H p (.ins C dx (putF "book" (.ref q) (flds o.num o.coins cl lb lt lk)))) p { o with book := ds } dx cl q lt lk xs ts ks :=
  have e := imm_ins (C' := C) (dx' := dx) (gs := putF "book" (.ref q) (flds o.num o.coins cl lb lt lk)) h.ob
  ⟨by rw [upd_same, put_book], e.sqT h.ck, upd_old h.ob hq, RepDs.imm e _ _ nq rq, upd_old h.ob h.ht, RepDs.imm e _ _ (noList_lets _) h.rt, upd_old h.ob h.hk, RepDs.imm e _ _ h.nk h.rk, nq, h.nk⟩
theorem OffX.setTray (h : OffX K C H p o dx cl lb lt lk bs ts ks) {ls : List Let} (hq : H q = some (.lst xs)) (rq : RepDs K H (ls.map letD) xs) : OffX K C (upd H p (.ins C dx (putF "tray" (.ref q) (flds o.num o.coins cl lb lt lk)))) p { o with tray := ls } dx cl lb q lk bs xs ks :=
  have e := imm_ins (C' := C) (dx' := dx) (gs := putF "tray" (.ref q) (flds o.num o.coins cl lb lt lk)) h.ob
  ⟨by rw [upd_same, put_tray], e.sqT h.ck, upd_old h.ob h.hb, RepDs.imm e _ _ h.nb h.rb, upd_old h.ob hq, RepDs.imm e _ _ (noList_lets _) rq, upd_old h.ob h.hk, RepDs.imm e _ _ h.nk h.rk, h.nb, h.nk⟩
theorem OffX.setKept (h : OffX K C H p o dx cl lb lt lk bs ts ks) {ds : List PyData} (hq : H q = some (.lst xs)) (rq : RepDs K H ds xs) (nq : noLists ds = true) : OffX K C (upd H p (.ins C dx (putF "kept" (.ref q) (flds o.num o.coins cl lb lt lk)))) p { o with kept := ds } dx cl lb lt q bs ts xs :=
  have e := imm_ins (C' := C) (dx' := dx) (gs := putF "kept" (.ref q) (flds o.num o.coins cl lb lt lk)) h.ob
  ⟨by rw [upd_same, put_kept], e.sqT h.ck, upd_old h.ob h.hb, RepDs.imm e _ _ h.nb h.rb, upd_old h.ob h.ht, RepDs.imm e _ _ (noList_lets _) h.rt, upd_old h.ob hq, RepDs.imm e _ _ nq rq, h.nb, nq⟩
theorem SameX.imm {fs : List (Str × V)} (e : SameX p H H') (hp : H p = some (.ins C dx fs)) : Imm H H' :=
  ⟨fun b xs h => e.keep b _ h (ne_of h hp (by intro z; cases z)), fun b u v h => e.keep b _ h (ne_of h hp (by intro z; cases z))⟩
theorem SameX.lst {fs : List (Str × V)} {b : Addr} (e : SameX p H H') (hp : H p = some (.ins C dx fs)) (h : H b = some (.lst xs)) : H' b = some (.lst xs) := e.keep b _ h (lst_ne h hp)
theorem sx_coins (h : OffX K C H4 p o dx cl lb lt lk bs ts ks) (e : SameX p H H4) {c : Int} : SameX p H (upd H4 p (.ins C dx (putF "coins" (.int c) (flds o.num o.coins cl lb lt lk)))) := by rw [put_coins]; exact sx_set e h.ob (.inl rfl) (.inl rfl) (.inl rfl)
theorem sx_clock (h : OffX K C H4 p o dx cl lb lt lk bs ts ks) (e : SameX p H H4) : SameX p H (upd H4 p (.ins C dx (putF "clock" (.ref q) (flds o.num o.coins cl lb lt lk)))) := by rw [put_clock]; exact sx_set e h.ob (.inl rfl) (.inl rfl) (.inl rfl)
theorem sx_book (h : OffX K C H4 p o dx cl lb lt lk bs ts ks) (e : SameX p H H4) (hq : H q = none) : SameX p H (upd H4 p (.ins C dx (putF "book" (.ref q) (flds o.num o.coins cl lb lt lk)))) := by rw [put_book]; exact sx_set e h.ob (.inr hq) (.inl rfl) (.inl rfl)
theorem sx_tray (h : OffX K C H4 p o dx cl lb lt lk bs ts ks) (e : SameX p H H4) (hq : H q = none) : SameX p H (upd H4 p (.ins C dx (putF "tray" (.ref q) (flds o.num o.coins cl lb lt lk)))) := by rw [put_tray]; exact sx_set e h.ob (.inl rfl) (.inr hq) (.inl rfl)
theorem sx_kept (h : OffX K C H4 p o dx cl lb lt lk bs ts ks) (e : SameX p H H4) (hq : H q = none) : SameX p H (upd H4 p (.ins C dx (putF "kept" (.ref q) (flds o.num o.coins cl lb lt lk)))) := by rw [put_kept]; exact sx_set e h.ob (.inl rfl) (.inl rfl) (.inr hq)
/-- a list that the office does not hold is changed: it stands as it stood -/
theorem OffX.other (h : OffX K C H p o dx cl lb lt lk bs ts ks) {b : Addr} {ys : List V} (hb : H b = some (.lst xs)) (n1 : b ≠ lb) (n2 : b ≠ lt) (n3 : b ≠ lk) : OffX K C (upd H b (.lst ys)) p o dx cl lb lt lk bs ts ks :=
  have e := imm_lst (ys := ys) hb
  ⟨(upd_ne (lst_ne hb h.ob).symm).trans h.ob, e.sqT h.ck, (upd_ne n1.symm).trans h.hb, RepDs.imm e _ _ h.nb h.rb, (upd_ne n2.symm).trans h.ht, RepDs.imm e _ _ (noList_lets _) h.rt, (upd_ne n3.symm).trans h.hk, RepDs.imm e _ _ h.nk h.rk, h.nb, h.nk⟩
theorem SameX.seq {fs : List (Str × V)} {b : Addr} (e : SameX p H H') (hp : H p = some (.ins C dx fs)) (h : SqL K H b xs) : SqL K H' b xs := by
  rcases h with (h | ⟨u, h⟩) | h
  · exact .inl (.inl (e.lst hp h))
  · exact .inl (.inr ⟨u, (e.imm hp).frz _ _ _ h⟩)
  · exact .inr h
end
mutual
theorem repD_x {K : PySem.W.Frag} {C : Addr} {H H' : Hp} {p dx : Addr} {fs : List (Str × V)} (e : SameX p H H') (hp : H p = some (.ins C dx fs)) : ∀ (d : PyData) (v : V), RepD K H d v → RepD K H' d v
  | .none, v, h => by simpa only [RepD] using h
  | .bool b, v, h => by simpa only [RepD] using h
  | .int i, v, h => by simpa only [RepD] using h
  | .str x, v, h => by simpa only [RepD] using h
  | .tuple ds, v, h => by
    obtain ⟨a, xs, rfl, q, rs⟩ : ∃ a xs, v = .ref a ∧ SqT K H a xs ∧ RepDs K H ds xs := by simpa only [RepD] using h
    simp only [RepD]
    exact ⟨a, xs, rfl, (e.imm hp).sqT q, repDs_x e hp ds xs rs⟩
  | .list ds, v, h => by
    obtain ⟨a, xs, rfl, q, rs⟩ : ∃ a xs, v = .ref a ∧ SqL K H a xs ∧ RepDs K H ds xs := by simpa only [RepD] using h
    simp only [RepD]
    exact ⟨a, xs, rfl, e.seq hp q, repDs_x e hp ds xs rs⟩
  | .dict _, v, h => by
    have h : False := by simpa only [RepD] using h
    exact h.elim
theorem repDs_x {K : PySem.W.Frag} {C : Addr} {H H' : Hp} {p dx : Addr} {fs : List (Str × V)} (e : SameX p H H') (hp : H p = some (.ins C dx fs)) : ∀ (ds : List PyData) (xs : List V), RepDs K H ds xs → RepDs K H' ds xs
  | [], xs, h => by simpa only [RepDs] using h
  | d :: ds, xs, h => by
    obtain ⟨x, r', rfl, h1, h2⟩ : ∃ x r, xs = x :: r ∧ RepD K H d x ∧ RepDs K H ds r := by simpa only [RepDs] using h
    simp only [RepDs]
    exact ⟨x, r', rfl, repD_x e hp d x h1, repDs_x e hp ds r' h2⟩
end

/-! ### the promises of the methods -/
/-- a letter of a post with n offices -/
def Fit (n : Nat) (l : Let) : Prop := l.s < n ∧ l.st.length = n
/-- an office of n, of modest size -/
structure Fine (n k : Nat) (o : Off) : Prop where
  cl : o.clock.length = n
  n1 : n ≤ 1000
  tr : ∀ l ∈ o.tray, Fit n l
  nt : o.tray.length ≤ k
  nb : o.book.length ≤ 10 * k
  nk : o.kept.length ≤ 10 * k
def spInit (K : PySem.W.Frag) (C : Addr) : Sp := fun vs H Q _ => ∃ (p dx : Addr) (num coins : Int) (n : Nat), vs = [.ref p, .int num, .int n, .int coins] ∧ H p = some (.ins C dx []) ∧ 2 ≤ n ∧ n < 1000 ∧
  ∀ H', OffAt K C H' p ⟨num, coins, List.replicate n 0, [], [], []⟩ → SameX p H H' → Q .non H'
def spWrite (K : PySem.W.Frag) (C : Addr) : Sp := fun vs H Q _ => ∃ (p a : Addr) (how : Str) (o : Off) (l : Let), vs = [.ref p, .str how, .ref a] ∧ OffAt K C H p o ∧ LetAt K H a l ∧ l.s < l.st.length ∧ o.book.length ≤ 100000 ∧ o.kept.length ≤ 100000 ∧
  ∀ H', OffAt K C H' p (wrote o how l) → SameX p H H' → Q .non H'
def spNew (K : PySem.W.Frag) (C : Addr) : Sp := fun vs H Q _ => ∃ (p a : Addr) (o : Off) (l : Let), vs = [.ref p, .ref a] ∧ OffAt K C H p o ∧ LetAt K H a l ∧ l.s < l.st.length ∧ l.s < o.clock.length ∧ o.tray.length ≤ 1000 ∧ (∀ m ∈ o.tray, m.s < m.st.length) ∧
  ∀ H', Same H H' → Q (.bl (newB o l)) H'
def spHand (K : PySem.W.Frag) (C : Addr) : Sp := fun vs H Q _ => ∃ (p : Addr) (i n : Nat) (o : Off) (l : Let), vs = [.ref p, .int i] ∧ OffAt K C H p o ∧ o.tray[i]? = some l ∧ Fine n 1000 o ∧
  ∀ r H', OffAt K C H' p (handed o i l) → RepD K H' (nameD l) r → SameX p H H' → Q r H'
def spTake (K : PySem.W.Frag) (C : Addr) : Sp := fun vs H Q _ => ∃ (p a : Addr) (n : Nat) (o : Off) (l : Let), vs = [.ref p, .ref a] ∧ OffAt K C H p o ∧ LetAt K H a l ∧ Fit n l ∧ Fine n 900 o ∧
  ∀ (ln : Addr) (xs : List V) (H' : Hp), OffAt K C H' p (took o l).2 → H ln = none → H' ln = some (.lst xs) → RepDs K H' ((took o l).1.map nameD) xs → ¬ Refs (H' p) ln → SameX p H H' → Q (.ref ln) H'
theorem name_rep {K : PySem.W.Frag} {H : Hp} {q : Addr} {l : Let} (h : SqT K H q [.int l.s, .int (nameN l)]) : RepD K H (nameD l) (.ref q) := by
  simp only [nameD, nmD, RepD, RepDs]
  exact ⟨q, _, rfl, h, _, _, rfl, rfl, _, _, rfl, rfl, rfl⟩
end Of

section
set_option Elab.async false
set_option linter.all false
set_option maxRecDepth 100000
set_option maxHeartbeats 4000000
seal L2.PE L2.PT L2.PW L2.PA L2.PS L2.PSs L2.PG L2.PGs L2.PI L3.PTs L2.PO L2.CallR L2.OpR L2.IxR L2.MtR L2.PSet L2.SlR
namespace Of
open PySem L2 L3
section
variable {P : Program} {w : World} {K : PySem.W.Frag} {mg : Str → Option Value} {base : Heap} {C fN fT fC fR fF fO : Addr}
theorem few6 {n c : Int} {cl lb lt lk : Addr} : (flds n c cl lb lt lk).length < 1000 := by show 6 < 1000; decide
theorem big (n : Nat) (h : n ≤ 1000000) : n ≤ sizeLine := Nat.le_trans h (by decide)
theorem pl {f : Str} {v : V} {fs : List (Str × V)} {n : Nat} (h : fs.length ≤ n) : (putF f v fs).length ≤ n + 1 := Nat.le_trans (length_putF _ _ _) (Nat.succ_le_succ h)
theorem oI : ownB ["self", "number", "count", "coins"] (defScope sInit) = true := by decide +kernel
theorem scI : FnScope ["self", "number", "count", "coins"] ["self", "number", "count", "coins"] (defScope sInit) := ⟨rfl, rfl, rfl, by decide +kernel, rfl, by decide +kernel, by decide +kernel⟩
theorem rep0 (n : Nat) : (List.replicate n [V.int 0]).flatten = nums (List.replicate n 0) := by
  induction n with
  | zero => rfl
  | succ n ih => rw [List.replicate_succ, List.flatten_cons, ih]; rfl
theorem ok_init {f : Addr} {fd : FuncData} (F : Fun K "__init__" "Office.__init__" sInit f fd) (T : Txt K mg C fN fT fC fR fF fO) : FnOk P w K mg base CX0 1 f fd ["self", "number", "count", "coins"] (spInit K C) := by
  refine okB (body := [stm sInit 0, stm sInit 1, stm sInit 2, stm sInit 3, stm sInit 4, stm sInit 5]) F scI (fun vs H Q E h => ?_) (by kernel_rfl) (fun cdv A outer s0 H vs Q E hr h => ?_)
  · obtain ⟨p, dx, num, coins, n, rfl, _⟩ := h
    rfl
  · obtain ⟨p, dx, num, coins, n, rfl, hp, hn2, hn, k⟩ := h
    refine ⟨_, (pss_cons (ps_fld (oV oI 0) (oV oI 1) rfl)
      (pss_cons (ps_fld (oV oI 0) (oV oI 3) rfl)
      (pss_cons (ps_fld (oV oI 0) (pe_op op_repT (pe_tup (aC pe_int pa_nil)) (oV oI 2)) rfl)
      (pss_cons (ps_fld (oV oI 0) (pe_lst pa_nil) rfl)
      (pss_cons (ps_fld (oV oI 0) (pe_lst pa_nil) rfl)
      (pss_one (ps_fld (oV oI 0) (pe_lst pa_nil) rfl))))))), ?_⟩
    refine ⟨_, rfl, _, rfl, p, C, dx, _, rfl, hp, T.cl, T.nN, (by show 0 < 1000; decide), ?_⟩
    refine ⟨_, rfl, _, rfl, p, C, dx, _, rfl, upd_same, T.cl, T.nC, (by show 1 < 1000; decide), ?_⟩
    refine ⟨len1, fun pz nz => ?_⟩
    have npz : p ≠ pz := fun e => by rw [← e, upd_same] at nz; cases nz
    refine ⟨_, rfl, pz, (n : Int), _, rfl, rfl, SqT.of upd_same, by simp, by omega, by omega, by show 1 ≤ 1000; decide, fun pc nc => ?_⟩
    have npc : p ≠ pc := fun e => by rw [← e, upd_ne npz, upd_same] at nc; cases nc
    refine ⟨_, rfl, p, C, dx, _, rfl, (upd_ne npc).trans ((upd_ne npz).trans upd_same), T.cl, T.nK, (Nat.lt_of_le_of_lt (pl (pl (Nat.le_refl 0))) (by decide)), ?_⟩
    refine ⟨len0, fun pb nb => ?_⟩
    have npb : p ≠ pb := fun e => by rw [← e, upd_same] at nb; cases nb
    refine ⟨_, rfl, p, C, dx, _, rfl, (upd_ne npb).trans upd_same, T.cl, T.nB, (Nat.lt_of_le_of_lt (pl (pl (pl (Nat.le_refl 0)))) (by decide)), ?_⟩
    refine ⟨len0, fun pt nt => ?_⟩
    have npt : p ≠ pt := fun e => by rw [← e, upd_same] at nt; cases nt
    refine ⟨_, rfl, p, C, dx, _, rfl, (upd_ne npt).trans upd_same, T.cl, T.nT, (Nat.lt_of_le_of_lt (pl (pl (pl (pl (Nat.le_refl 0))))) (by decide)), ?_⟩
    refine ⟨len0, fun pk nk => ?_⟩
    have npk : p ≠ pk := fun e => by rw [← e, upd_same] at nk; cases nk
    refine ⟨_, rfl, p, C, dx, _, rfl, (upd_ne npk).trans upd_same, T.cl, T.nE, (Nat.lt_of_le_of_lt (pl (pl (pl (pl (pl (Nat.le_refl 0)))))) (by decide)), ?_⟩
    -- what stands now
    have nbc : pb ≠ pc := fun e => by rw [e, upd_ne npc.symm, upd_same] at nb; cases nb
    have ntc : pt ≠ pc := fun e => by rw [e, upd_ne npc.symm, upd_ne nbc.symm, upd_ne npc.symm, upd_same] at nt; cases nt
    have ntb : pt ≠ pb := fun e => by rw [e, upd_ne npb.symm, upd_same] at nt; cases nt
    have nkc : pk ≠ pc := fun e => by rw [e, upd_ne npc.symm, upd_ne ntc.symm, upd_ne npc.symm, upd_ne nbc.symm, upd_ne npc.symm, upd_same] at nk; cases nk
    have nkb : pk ≠ pb := fun e => by rw [e, upd_ne npb.symm, upd_ne ntb.symm, upd_ne npb.symm, upd_same] at nk; cases nk
    have nkt : pk ≠ pt := fun e => by rw [e, upd_ne npt.symm, upd_same] at nk; cases nk
    refine k _ ⟨⟨dx, pc, pb, pt, pk, [], [], [], ?_, ?_, ?_, rfl, ?_, rfl, ?_, rfl⟩, rfl, rfl⟩ ?_
    · rw [upd_same, put_all]
    · refine SqT.of ?_
      rw [upd_ne npc.symm, upd_ne nkc.symm, upd_ne npc.symm, upd_ne ntc.symm, upd_ne npc.symm, upd_ne nbc.symm, upd_ne npc.symm, upd_same, Int.toNat_natCast, rep0]
    · rw [upd_ne npb.symm, upd_ne nkb.symm, upd_ne npb.symm, upd_ne ntb.symm, upd_ne npb.symm, upd_same]
    · rw [upd_ne npt.symm, upd_ne nkt.symm, upd_ne npt.symm, upd_same]
    · rw [upd_ne npk.symm, upd_same]
    · have hx : ∃ u, H p = some u := ⟨_, hp⟩
      have z1 : ∀ {o : HO} {b : Addr}, (upd H p o) b = none → H b = none := fun {o b} z => by
        by_cases hb : b = p
        · rw [hb, upd_same] at z; cases z
        · rw [upd_ne hb] at z; exact z
      have z2 : ∀ {G : Hp} {q b : Addr} {o : HO}, (upd G q o) b = none → G b = none := fun {G q b o} z => by
        by_cases hb : b = q
        · rw [hb, upd_same] at z; cases z
        · rw [upd_ne hb] at z; exact z
      have fb : H pb = none := z1 (z2 (z2 (z2 (z2 nb))))
      have ft : H pt = none := z1 (z2 (z2 (z2 (z2 (z2 (z2 nt))))))
      have fk : H pk = none := z1 (z2 (z2 (z2 (z2 (z2 (z2 (z2 (z2 nk))))))))
      refine ⟨fun b u hb nbp => ?_, fun b hb => ?_, hx⟩
      · have nb1 : b ≠ pb := fun e => by rw [e, fb] at hb; cases hb
        have nt1 : b ≠ pt := fun e => by rw [e, ft] at hb; cases hb
        have nk1 : b ≠ pk := fun e => by rw [e, fk] at hb; cases hb
        have nz1 : b ≠ pz := fun e => by rw [e, z1 (z2 nz)] at hb; cases hb
        have nc1 : b ≠ pc := fun e => by rw [e, z1 (z2 (z2 nc))] at hb; cases hb
        rw [upd_ne nbp, upd_ne nk1, upd_ne nbp, upd_ne nt1, upd_ne nbp, upd_ne nb1, upd_ne nbp, upd_ne nc1, upd_ne nz1, upd_ne nbp, upd_ne nbp]
        exact hb
      · rw [upd_same, put_all, refs_flds] at hb
        rcases hb with rfl | rfl | rfl
        · exact .inr fb
        · exact .inr ft
        · exact .inr fk

theorem oW : ownB ["self", "how", "letter", "name"] (defScope sWrite) = true := by decide +kernel
theorem scW : FnScope ["self", "how", "letter", "name"] ["self", "how", "letter"] (defScope sWrite) := ⟨rfl, rfl, rfl, by decide +kernel, rfl, by decide +kernel, by decide +kernel⟩
theorem ok_write {f : Addr} {fd fdN : FuncData} (F : Fun K "write_in_book" "Office.write_in_book" sWrite f fd) (T : Txt K mg C fN fT fC fR fF fO) (FN : Fun K "name_of" "name_of" sName fN fdN) (bN : Binds K fdN ["letter"] []) : FnOk P w K mg base CX0 2 f fd ["self", "how", "letter"] (spWrite K C) := by
  have GN : FnOk P w K mg base CX0 1 fN fdN ["letter"] (spName K) := ok_name FN
  refine okB (body := [stm sWrite 0, stm sWrite 1, stm sWrite 2]) F scW (fun vs H Q E h => ?_) (by kernel_rfl) (fun cdv A outer s0 H vs Q E hr h => ?_)
  · obtain ⟨p, a, how, o, l, rfl, _⟩ := h
    rfl
  · obtain ⟨p, a, how, o, l, rfl, O, L, hl, b1, b2, k⟩ := h
    have hrN := hr
    obtain ⟨dx, cl, lb, lt, lk, bs, ts, ks, X⟩ := O.x
    refine ⟨_, (pss_cons (oS oW 3 (cF GN hrN T.name_of FN.kp bN .nil pass0 (aC (oV oW 2) pa_nil)))
      (pss_cons (ps_fld (oV oW 0) (pe_op op_cat (pe_fld (oV oW 0) rfl) (pe_lst (aC (pe_tup (aC (oV oW 1) (aC (oV oW 3) pa_nil))) pa_nil))) rfl)
      (pss_one (ps_if (pt_cmpR op_eq (iX (ixT K) (iX (ixT K) (oV oW 2) pe_int) pe_int) pe_str (nomark _))
        (pss_one (ps_fld (oV oW 0) (pe_op op_cat (pe_fld (oV oW 0) rfl) (pe_lst (aC (pe_tup (aC (oV oW 3) (aC (pe_fld (oV oW 0) rfl) (aC (pe_fld (oV oW 0) rfl) pa_nil)))) pa_nil))) rfl))
        pss_nil)))), ?_⟩
    refine ⟨_, rfl, a, l, rfl, L, hl, fun pn nn => ?_⟩
    have s1 := same_new (o := .tup [.int l.s, .int (nameN l)]) nn
    have X1 := X.same s1
    -- the book
    refine ⟨_, rfl, p, C, dx, _, _, rfl, X1.ob, T.cl, T.nB, at_book, _, rfl, _, rfl, len2, fun pt nt => ⟨len1, fun pl nl => ?_⟩⟩
    have s2 := same_new (o := .tup [.str how, .ref pn]) nt
    have s3 := same_new (o := .lst [.ref pt]) nl
    have X3 := (X1.same s2).same s3
    have lenb : bs.length = o.book.length := reps_len X.rb
    refine ⟨lb, pl, _, _, rfl, rfl, X3.hb, upd_same, by rw [List.length_singleton]; exact big _ (by omega), fun pb nb => ?_⟩
    have s4 := same_new (o := .lst (bs ++ [.ref pt])) nb
    have X4 := X3.same s4
    refine ⟨_, rfl, p, C, dx, _, rfl, X4.ob, T.cl, T.nB, few6, ?_⟩
    have hpn : SqT K (upd H pn (.tup [.int l.s, .int (nameN l)])) pn [.int l.s, .int (nameN l)] := SqT.of upd_same
    have hname : RepD K (upd H pn (.tup [.int l.s, .int (nameN l)])) (nameD l) (.ref pn) := name_rep hpn
    have hbk : RepD K (upd (upd H pn (.tup [.int l.s, .int (nameN l)])) pt (.tup [.str how, .ref pn])) (bookD how l) (.ref pt) := by
      simp only [bookD, RepD, RepDs]
      exact ⟨pt, _, rfl, SqT.of upd_same, _, _, rfl, rfl, _, _, rfl, RepD.same s2 _ _ hname, rfl⟩
    have nbook : noLists (o.book ++ [bookD how l]) = true := by
      have : ∀ ds : List PyData, noLists ds = true → noLists (ds ++ [bookD how l]) = true := by
        intro ds
        induction ds with
        | nil => intro _; rfl
        | cons d ds ih =>
          intro h
          simp only [noLists, Bool.and_eq_true, List.cons_append] at h ⊢
          exact ⟨h.1, ih h.2⟩
      exact this _ X.nb
    have X5 := X4.setBook (q := pb) (xs := bs ++ [.ref pt]) (ds := o.book ++ [bookD how l]) upd_same (RepDs.same s4 _ _ (reps_append X3.rb (reps_one (RepD.same s3 _ _ hbk)))) nbook
    have sx5 := sx_book (q := pb) X4 (same_x X.ob (((s1.trans s2).trans s3).trans s4)) (((s1.trans s2).trans s3).free nb)
    have i5 := sx5.imm X.ob
    -- a cut?
    obtain ⟨b, c, g1, g2, g3⟩ := L.imm i5
    cases hw : l.w with
    | pay tt mm =>
      rw [hw] at g3
      have g3 : SqT K _ c [.str "pay", .int tt, .int mm] := g3
      refine ⟨_, rfl, a, _, 2, _, rfl, rfl, g1, rfl, c, _, 0, _, rfl, rfl, g3, rfl, rfl, _, rfl, ?_⟩
      rw [show decide (V.str "pay" = V.str "cut") = false by decide +kernel]
      refine iteF ?_
      have e : wrote o how l = { o with book := o.book ++ [bookD how l] } := by unfold wrote; rw [hw, if_neg (by intro z; cases z)]
      exact k _ (by rw [e]; exact X5.at_) sx5
    | cut =>
      rw [hw] at g3
      have g3 : SqT K _ c [.str "cut"] := g3
      refine ⟨_, rfl, a, _, 2, _, rfl, rfl, g1, rfl, c, _, 0, _, rfl, rfl, g3, rfl, rfl, _, rfl, ?_⟩
      rw [show decide (V.str "cut" = V.str "cut") = true from decide_eq_true rfl]
      refine iteT ?_
      have lenk : ks.length = o.kept.length := reps_len X.rk
      refine ⟨_, rfl, p, C, dx, _, _, rfl, X5.ob, T.cl, T.nE, at_kept, _, rfl, _, rfl, p, C, dx, _, _, rfl, X5.ob, T.cl, T.nC, at_coins, _, rfl, p, C, dx, _, _, rfl, X5.ob, T.cl, T.nK, at_clock, len3, fun pt2 nt2 => ⟨len1, fun pl2 nl2 => ?_⟩⟩
      have s6 := same_new (o := .tup [.ref pn, .int o.coins, .ref cl]) nt2
      have s7 := same_new (o := .lst [.ref pt2]) nl2
      have X7 := (X5.same s6).same s7
      refine ⟨lk, pl2, _, _, rfl, rfl, X7.hk, upd_same, by rw [List.length_singleton]; exact big _ (by omega), fun pk nk => ?_⟩
      have s8 := same_new (o := .lst (ks ++ [.ref pt2])) nk
      have X8 := X7.same s8
      refine ⟨_, rfl, p, C, dx, _, rfl, X8.ob, T.cl, T.nE, few6, ?_⟩
      have hname6 := RepD.same s6 _ _ (RepD.imm (imm_ins (C' := C) (dx' := dx) (gs := putF "book" (.ref pb) (flds o.num o.coins cl lb lt lk)) X4.ob) _ _ (noList_name l) (RepD.same s4 _ _ (RepD.same s3 _ _ (RepD.same s2 _ _ hname))))
      have hkp : RepD K (upd (upd (upd (upd (upd (upd H pn (.tup [.int l.s, .int (nameN l)])) pt (.tup [.str how, .ref pn])) pl (.lst [.ref pt])) pb (.lst (bs ++ [.ref pt]))) p (.ins C dx (putF "book" (.ref pb) (flds o.num o.coins cl lb lt lk)))) pt2 (.tup [.ref pn, .int o.coins, .ref cl])) (keptD l o.coins o.clock) (.ref pt2) := by
        simp only [keptD, RepD, RepDs]
        exact ⟨pt2, _, rfl, SqT.of upd_same, _, _, rfl, hname6, _, _, rfl, rfl, _, _, rfl, ⟨cl, _, rfl, s6.sqT X5.ck, reps_ints.mpr rfl⟩, rfl⟩
      have nkept : noLists (o.kept ++ [keptD l o.coins o.clock]) = true := by
        have h0 : noList (keptD l o.coins o.clock) = true := by simp only [keptD, noList, noLists, noList_name, noList_ints, Bool.and_true]
        have : ∀ ds : List PyData, noLists ds = true → noLists (ds ++ [keptD l o.coins o.clock]) = true := by
          intro ds
          induction ds with
          | nil => intro _; simp only [List.nil_append, noLists, h0, Bool.and_true]
          | cons d ds ih =>
            intro h
            simp only [noLists, Bool.and_eq_true, List.cons_append] at h ⊢
            exact ⟨h.1, ih h.2⟩
        exact this _ X.nk
      have X9 := X8.setKept (q := pk) (xs := ks ++ [.ref pt2]) (ds := o.kept ++ [keptD l o.coins o.clock]) upd_same (RepDs.same s8 _ _ (reps_append X7.rk (reps_one (RepD.same s7 _ _ hkp)))) nkept
      have e : wrote o how l = { o with book := o.book ++ [bookD how l], kept := o.kept ++ [keptD l o.coins o.clock] } := by unfold wrote; rw [hw, if_pos rfl]
      exact k _ (by rw [e]; exact X9.at_) (sx_kept X8 (sx5.trans (same_x X5.ob ((s6.trans s7).trans s8))) (sx5.free ⟨_, X5.ob⟩ ((s6.trans s7).free nk)))
end
end Of

end

section
set_option Elab.async false
set_option linter.all false
set_option maxRecDepth 100000
set_option maxHeartbeats 4000000
seal L2.PE L2.PT L2.PW L2.PA L2.PS L2.PSs L2.PG L2.PGs L2.PI L3.PTs L2.PO L2.CallR L2.OpR L2.IxR L2.MtR L2.PSet L2.SlR
namespace Of
open PySem L2 L3
section
variable {P : Program} {w : World} {K : PySem.W.Frag} {mg : Str → Option Value} {base : Heap} {C fN fT fC fR fF fO : Addr}
theorem no_isnew {n c : Int} {cl lb lt lk : Addr} : (flds n c cl lb lt lk).lookup ("is_new" : Str) = none := by kernel_rfl
theorem no_hand {n c : Int} {cl lb lt lk : Addr} : (flds n c cl lb lt lk).lookup ("hand_over" : Str) = none := by kernel_rfl
theorem no_write {n c : Int} {cl lb lt lk : Addr} : (flds n c cl lb lt lk).lookup ("write_in_book" : Str) = none := by kernel_rfl
theorem no_take {n c : Int} {cl lb lt lk : Addr} : (flds n c cl lb lt lk).lookup ("take" : Str) = none := by kernel_rfl
theorem noList_names : ∀ ls : List Let, noLists (ls.map nameD) = true
  | [] => rfl
  | l :: ls => by simp only [List.map_cons, noLists, noList_name, Bool.true_and]; exact noList_names ls
theorem lay_names : ∀ ls : List Let, PyData.canLayAll0 (ls.map nameD) = true
  | [] => rfl
  | l :: ls => by simp only [List.map_cons, PyData.canLayAll0, lay_names ls, Bool.and_true]; rfl
theorem depth_name (l : Let) : (nameD l).depth ≤ 10 := by simp [nameD, nmD, PyData.depth, PyData.depthAll]

theorem oNw : ownB ["self", "letter", "name"] (defScope sIsNew) = true := by decide +kernel
theorem scNw : FnScope ["self", "letter", "name"] ["self", "letter"] (defScope sIsNew) := ⟨rfl, rfl, rfl, by decide +kernel, rfl, by decide +kernel, by decide +kernel⟩
theorem ok_isnew {f : Addr} {fd fdN fdT : FuncData} (F : Fun K "is_new" "Office.is_new" sIsNew f fd) (T : Txt K mg C fN fT fC fR fF fO) (FN : Fun K "name_of" "name_of" sName fN fdN) (bN : Binds K fdN ["letter"] [])
    (FT : Fun K "is_there" "is_there" sThere fT fdT) (bT : Binds K fdT ["name", "clock"] []) : FnOk P w K mg base CX0 2 f fd ["self", "letter"] (spNew K C) := by
  have GN : FnOk P w K mg base CX0 1 fN fdN ["letter"] (spName K) := ok_name FN
  have GT : FnOk P w K mg base CX0 1 fT fdT ["name", "clock"] (spThere K) := ok_there FT
  refine okB (body := [stm sIsNew 0, stm sIsNew 1]) F scNw (fun vs H Q E h => ?_) (by kernel_rfl) (fun cdv A outer s0 H vs Q E hr h => ?_)
  · obtain ⟨p, a, o, l, rfl, _⟩ := h
    rfl
  · obtain ⟨p, a, o, l, rfl, O, L, hl, hs, ht, hm, q⟩ := h
    have hrN := hr
    obtain ⟨dx, cl, lb, lt, lk, bs, ts, ks, X⟩ := O.x
    refine ⟨_, (pss_cons (oS oNw 2 (cF GN hrN T.name_of FN.kp bN .nil pass0 (aC (oV oNw 1) pa_nil)))
      (pss_one (ps_ret (pe_and (pe_not (cF GT hrN T.is_there FT.kp bT .nil pass0 (aC (oV oNw 2) (aC (pe_fld (oV oNw 0) rfl) pa_nil)))) (pe_one (pe_cmpR (op_notInD (n := 10) (room_in hr)) (oV oNw 2) (eC [] [] rfl (pi_list (pe_fld (oV oNw 0) rfl)) (fun _ _ _ _ _ => pts_nil) (fun _ _ _ _ _ => (cF GN hrN T.name_of FN.kp bN .nil pass0 (aC (sV 0) pa_nil)))) (by rfl))))))), ?_⟩
    refine ⟨_, rfl, a, l, rfl, L, hl, fun pn nn => ?_⟩
    have s1 := same_new (o := .tup [.int l.s, .int (nameN l)]) nn
    have X1 := X.same s1
    refine ⟨_, rfl, _, rfl, p, C, dx, _, _, rfl, X1.ob, T.cl, T.nK, at_clock, pn, cl, l.s, _, _, rfl, SqT.of upd_same, X1.ck, hs, _, rfl, _, rfl, ?_⟩
    cases hb : decide (nameN l ≤ o.clock.getD l.s 0) with
    | true =>
      refine iteF ?_
      have : newB o l = false := by unfold newB; rw [hb]; rfl
      rw [this] at q
      exact q _ s1
    | false =>
      refine iteT ?_
      have hlen : ts.length = o.tray.length := by rw [reps_len X.rt, List.length_map]
      refine ⟨_, rfl, _, rfl, p, C, dx, _, _, rfl, X1.ob, T.cl, T.nT, at_tray, lt, rfl, ⟨_, SqL.of X1.ht⟩, comp_list (xs := ts) (fun D i ys H3 => Same (upd H pn (.tup [.int l.s, .int (nameN l)])) H3 ∧ H3 D = some (.lst ys) ∧ RepDs K H3 ((o.tray.take i).map nameD) ys)
        (fun D hD => ⟨same_new hD, upd_same, rfl⟩) (fun D i ys H3 _ _ h => ⟨h.2.1, SqL.of (h.1 _ _ X1.ht)⟩) (fun D i x ys H3 hD hx h => ?_) (fun D ys H3 hD h => ?_)⟩
      · obtain ⟨f1, f2, f3⟩ := h
        have hi : i < o.tray.length := by have := (List.getElem?_eq_some_iff.mp hx).1; omega
        have hget : (o.tray.map letD)[i]? = some (letD o.tray[i]) := by rw [List.getElem?_map, List.getElem?_eq_getElem hi]; rfl
        obtain ⟨x', hx', rx⟩ := reps_get X1.rt hget
        rw [hx] at hx'
        cases hx'
        obtain ⟨b, rfl, Lb⟩ := letAt_iff.mp rx
        refine ⟨_, rfl, b, o.tray[i], rfl, Lb.imm f1.imm, hm _ (List.getElem_mem hi), fun q1 nq => ?_⟩
        have nqD : D ≠ q1 := fun e => by rw [← e, f2] at nq; cases nq
        have hD4 : (upd H3 q1 (.tup [.int o.tray[i].s, .int (nameN o.tray[i])])) D = some (.lst ys) := (upd_ne nqD).trans f2
        have hylen : ys.length = (o.tray.take i).length := by rw [reps_len f3, List.length_map]
        refine ⟨hD4, ?_, same_upd (f1.trans (same_new nq)) hD, upd_same, ?_⟩
        · rw [hylen, List.length_take]; exact small1000 (by omega)
        · rw [List.take_succ, List.getElem?_eq_getElem hi]
          simp only [Option.toList_some, List.map_append, List.map_cons, List.map_nil]
          have e4 := imm_lst (ys := ys ++ [.ref q1]) hD4
          refine reps_append (RepDs.imm e4 _ _ (noList_names _) (RepDs.same (same_new nq) _ _ f3)) (reps_one (RepD.imm e4 _ _ (noList_name _) (name_rep (SqT.of upd_same))))
      · obtain ⟨f1, f2, f3⟩ := h
        rw [hlen, List.take_length] at f3
        refine ⟨nameD l, o.tray.map nameD, RepD.same f1 _ _ (name_rep (SqT.of upd_same)), ?_, rfl, lay_names _, Nat.le_trans (Nat.min_le_right _ _) (depth_name l), ?_⟩
        · simp only [RepD]
          exact ⟨D, ys, rfl, SqL.of f2, f3⟩
        · have : newB o l = !(o.tray.map nameD).any fun y => PyData.eqv y (nameD l) := by unfold newB; rw [hb, List.any_map]; rfl
          rw [this] at q
          exact q _ (s1.trans f1)

theorem erase_map (ls : List Let) (i : Nat) : (ls.eraseIdx i).map letD = (ls.map letD).eraseIdx i := by
  rw [List.eraseIdx_eq_take_drop_succ, List.eraseIdx_eq_take_drop_succ, List.map_append, List.map_take, List.map_drop]
theorem cut_cat {xs : List V} {i : Nat} (h : i < xs.length) : cutV xs none (some (i : Int)) ++ cutV xs (some ((i : Int) + 1)) none = xs.eraseIdx i := by
  rw [cut_lo (by omega), show ((i : Int) + 1) = ((i + 1 : Nat) : Int) by omega, cut_hi (by omega), List.eraseIdx_eq_take_drop_succ]
theorem oHd : ownB ["self", "place", "letter"] (defScope sHand) = true := by decide +kernel
theorem scHd : FnScope ["self", "place", "letter"] ["self", "place"] (defScope sHand) := ⟨rfl, rfl, rfl, by decide +kernel, rfl, by decide +kernel, by decide +kernel⟩
theorem ok_hand {f fW : Addr} {fd fdN fdC fdO fdW : FuncData} (F : Fun K "hand_over" "Office.hand_over" sHand f fd) (T : Txt K mg C fN fT fC fR fF fO) (FN : Fun K "name_of" "name_of" sName fN fdN) (bN : Binds K fdN ["letter"] [])
    (FC : Fun K "counted" "counted" sCounted fC fdC) (bC : Binds K fdC ["clock", "sender"] []) (FO : Fun K "coins_for" "coins_for" sCoins fO fdO) (bO : Binds K fdO ["number", "what"] [])
    (FW : Fun K "write_in_book" "Office.write_in_book" sWrite fW fdW) (bW : Binds K fdW ["self", "how", "letter"] []) (mW : Meth K C "write_in_book" fW) : FnOk P w K mg base CX0 3 f fd ["self", "place"] (spHand K C) := by
  have GN : FnOk P w K mg base CX0 1 fN fdN ["letter"] (spName K) := ok_name FN
  have GC : FnOk P w K mg base CX0 1 fC fdC ["clock", "sender"] (spCounted K) := ok_counted FC
  have GO : FnOk P w K mg base CX0 1 fO fdO ["number", "what"] (spCoins K) := ok_coins FO
  have GW : FnOk P w K mg base CX0 2 fW fdW ["self", "how", "letter"] (spWrite K C) := ok_write FW T FN bN
  refine okB (body := [stm sHand 0, stm sHand 1, stm sHand 2, stm sHand 3, stm sHand 4, stm sHand 5]) F scHd (fun vs H Q E h => ?_) (by kernel_rfl) (fun cdv A outer s0 H vs Q E hr h => ?_)
  · obtain ⟨p, i, n, o, l, rfl, _⟩ := h
    rfl
  · obtain ⟨p, i, n, o, l, rfl, O, hget, Fn, k⟩ := h
    have hrN := hr.mono (by decide : 1 ≤ 2)
    obtain ⟨dx, cl, lb, lt, lk, bs, ts, ks, X⟩ := O.x
    have hi : i < o.tray.length := (List.getElem?_eq_some_iff.mp hget).1
    obtain ⟨hs, hst⟩ := Fn.tr l (List.mem_of_getElem? hget)
    have hlen : ts.length = o.tray.length := by rw [reps_len X.rt, List.length_map]
    obtain ⟨x, hx, rx⟩ := reps_get X.rt (i := i) (d := letD l) (by rw [List.getElem?_map, hget]; rfl)
    obtain ⟨b, rfl, L⟩ := letAt_iff.mp rx
    have hcl := Fn.cl
    have hn1 := Fn.n1
    have hnt := Fn.nt
    have hnb := Fn.nb
    have hnk := Fn.nk
    refine ⟨_, (pss_cons (oS oHd 2 (iX (ixL K) (pe_fld (oV oHd 0) rfl) (oV oHd 1)))
      (pss_cons (ps_fld (oV oHd 0) (pe_op op_cat (pe_slice sl_list (pe_fld (oV oHd 0) rfl) po_none (po_some (oV oHd 1))) (pe_slice sl_list (pe_fld (oV oHd 0) rfl) (po_some (pe_op op_add (oV oHd 1) pe_int)) po_none)) rfl)
      (pss_cons (ps_fld (oV oHd 0) (cF GC hrN T.counted FC.kp bC .nil pass0 (aC (pe_fld (oV oHd 0) rfl) (aC (iX (ixT K) (oV oHd 2) pe_int) pa_nil))) rfl)
      (pss_cons (ps_fld (oV oHd 0) (pe_op op_add (pe_fld (oV oHd 0) rfl) (cF GO hrN T.coins_for FO.kp bO .nil pass0 (aC (pe_fld (oV oHd 0) rfl) (aC (iX (ixT K) (oV oHd 2) pe_int) pa_nil)))) rfl)
      (pss_cons (ps_expr (pe_meth (oV oHd 0) T.cl mW GW hr bW .nil pass0 (aC pe_str (aC (oV oHd 2) pa_nil))))
      (pss_one (ps_ret (cF GN hrN T.name_of FN.kp bN .nil pass0 (aC (oV oHd 2) pa_nil))))))))), ?_⟩
    refine ⟨_, rfl, p, C, dx, _, _, rfl, X.ob, T.cl, T.nT, at_tray, _, rfl, lt, _, _, _, rfl, rfl, SqL.of X.ht, atI_nat hx, ?_⟩
    -- the tray
    refine ⟨_, rfl, p, C, dx, _, _, rfl, X.ob, T.cl, T.nT, at_tray, _, rfl, _, rfl, lt, _, rfl, SqL.of X.ht, fun p1 n1 => ?_⟩
    have s1 := same_new (o := .lst (cutV ts none (some (i : Int)))) n1
    have X1 := X.same s1
    refine ⟨_, rfl, p, C, dx, _, _, rfl, X1.ob, T.cl, T.nT, at_tray, _, rfl, _, _, rfl, rfl, _, rfl, lt, _, rfl, SqL.of X1.ht, fun p2 n2 => ?_⟩
    have s2 := same_new (o := .lst (cutV ts (some ((i : Int) + 1)) none)) n2
    have X2 := X1.same s2
    have n12 : p1 ≠ p2 := fun e => by rw [← e, upd_same] at n2; cases n2
    refine ⟨p1, p2, _, _, rfl, rfl, (upd_ne n12).trans upd_same, upd_same, ?_, fun p3 n3 => ?_⟩
    · have a1 := cutV_length ts none (some (i : Int))
      have a2 := cutV_length ts (some ((i : Int) + 1)) none
      exact big _ (by omega)
    have s3 := same_new (o := .lst (cutV ts none (some (i : Int)) ++ cutV ts (some ((i : Int) + 1)) none)) n3
    have X3 := X2.same s3
    refine ⟨_, rfl, p, C, dx, _, rfl, X3.ob, T.cl, T.nT, few6, ?_⟩
    have rr := reps_erase i X3.rt
    rw [← erase_map, ← cut_cat (show i < ts.length by omega)] at rr
    have X4 := X3.setTray (q := p3) (xs := cutV ts none (some (i : Int)) ++ cutV ts (some ((i : Int) + 1)) none) (ls := o.tray.eraseIdx i) upd_same rr
    have x4 := sx_tray (q := p3) X3 (same_x X.ob ((s1.trans s2).trans s3)) ((s1.trans s2).free n3)
    -- the clock
    obtain ⟨b1, c1, g1, g2, g3⟩ := L.imm (x4.imm X.ob)
    refine ⟨_, rfl, p, C, dx, _, _, rfl, X4.ob, T.cl, T.nK, at_clock, _, rfl, b, _, 0, _, rfl, rfl, g1, rfl, cl, l.s, o.clock, rfl, X4.ck, by omega, by omega, fun q5 H5 e5 h5 => ?_⟩
    have X5 := X4.same e5
    refine ⟨_, rfl, p, C, dx, _, rfl, X5.ob, T.cl, T.nK, few6, ?_⟩
    have X6 := X5.setClock h5
    have x6 := sx_clock (q := q5) X5 (x4.trans (same_x X4.ob e5))
    -- the coins
    obtain ⟨b2, c2, k1, k2, k3⟩ := L.imm (x6.imm X.ob)
    refine ⟨_, rfl, p, C, dx, _, _, rfl, X6.ob, T.cl, T.nC, at_coins, _, rfl, p, C, dx, _, _, rfl, X6.ob, T.cl, T.nN, at_number, _, rfl, b, _, 2, _, rfl, rfl, k1, rfl, _, c2, l.w, rfl, k3, _, _, rfl, rfl, _, rfl, p, C, dx, _, rfl, X6.ob, T.cl, T.nC, few6, ?_⟩
    have X7 := X6.setCoins (o.coins + coinsFor o.num l.w)
    have x7 := sx_coins (c := o.coins + coinsFor o.num l.w) X6 x6
    -- the book
    refine ⟨_, rfl, p, dx, _, rfl, X7.ob, no_write, _, rfl, p, b, "got", _, l, rfl, X7.at_, L.imm (x7.imm X.ob), by omega, by show o.book.length ≤ 100000; omega, by show o.kept.length ≤ 100000; omega, fun H8 O8 x8 => ?_⟩
    have x8' : SameX p H H8 := x7.trans x8
    refine ⟨_, rfl, b, l, rfl, L.imm (x8'.imm X.ob), by omega, fun pn nn => ?_⟩
    obtain ⟨dx8, cl8, lb8, lt8, lk8, bs8, ts8, ks8, X8⟩ := O8.x
    exact k (.ref pn) _ (O8.same (same_new nn)) (name_rep (SqT.of upd_same)) (x8'.trans (same_x X8.ob (same_new nn)))
end
end Of

end

section
set_option Elab.async false
set_option linter.all false
set_option maxRecDepth 100000
set_option maxHeartbeats 4000000
seal L2.PE L2.PT L2.PW L2.PA L2.PS L2.PSs L2.PG L2.PGs L2.PI L3.PTs L2.PO L2.CallR L2.OpR L2.IxR L2.MtR L2.PSet L2.SlR
namespace Of
open PySem L2 L3
section
variable {P : Program} {w : World} {K : PySem.W.Frag} {mg : Str → Option Value} {base : Heap} {C fN fT fC fR fF fO : Addr}
/-- between two turns of take's loop -/
def TakeW (K : PySem.W.Frag) (C : Addr) (H : Hp) (p a ln : Addr) (n : Nat) (o : Off) (l : Let) : Nat → L2.St → Hp → Prop := fun m σ Hc =>
  ∃ (oc : Off) (dn : List Let) (xs : List V), σ = [some (.ref p), some (.ref a), some (.ref ln), some (optV (firstR oc.tray oc.clock))] ∧ OffAt K C Hc p oc ∧ Hc ln = some (.lst xs) ∧ RepDs K Hc (dn.map nameD) xs ∧ SameX p H Hc ∧ ¬ Refs (Hc p) ln ∧
    m = oc.tray.length ∧ oc.clock.length = n ∧ (∀ l ∈ oc.tray, Fit n l) ∧ dn.length + oc.tray.length = (put o l).tray.length ∧ oc.book.length ≤ o.book.length + dn.length ∧ oc.kept.length ≤ o.kept.length + dn.length ∧ took o l = (dn ++ (drain m oc).1, (drain m oc).2)
theorem oTk : ownB ["self", "letter", "names", "place"] (defScope sTake) = true := by decide +kernel
theorem scTk : FnScope ["self", "letter", "names", "place"] ["self", "letter"] (defScope sTake) := ⟨rfl, rfl, rfl, by decide +kernel, rfl, by decide +kernel, by decide +kernel⟩
theorem ok_take {f fI fH : Addr} {fd fdI fdH fdF : FuncData} (F : Fun K "take" "Office.take" sTake f fd) (T : Txt K mg C fN fT fC fR fF fO)
    (bI : Binds K fdI ["self", "letter"] []) (mI : Meth K C "is_new" fI) (GI : FnOk P w K mg base CX0 2 fI fdI ["self", "letter"] (spNew K C))
    (bH : Binds K fdH ["self", "place"] []) (mH : Meth K C "hand_over" fH) (GH : FnOk P w K mg base CX0 3 fH fdH ["self", "place"] (spHand K C))
    (FF : Fun K "first_ready" "first_ready" sFirst fF fdF) (bF : Binds K fdF ["tray", "clock"] []) (GF : FnOk P w K mg base CX0 2 fF fdF ["tray", "clock"] (spFirst K)) : FnOk P w K mg base CX0 4 f fd ["self", "letter"] (spTake K C) := by
  refine okB (body := [stm sTake 0, stm sTake 1, stm sTake 2, stm sTake 3, stm sTake 4]) F scTk (fun vs H Q E h => ?_) (by kernel_rfl) (fun cdv A outer s0 H vs Q E hr h => ?_)
  · obtain ⟨p, a, n, o, l, rfl, _⟩ := h
    rfl
  · obtain ⟨p, a, n, o, l, rfl, O, L, ⟨hs, hst⟩, Fn, k⟩ := h
    have hrF := hr.mono (by decide : 2 ≤ 3)
    obtain ⟨dx0, cl0, lb0, lt0, lk0, bs0, ts0, ks0, X⟩ := O.x
    have hcl := Fn.cl
    have fn1 := Fn.n1
    have hnt := Fn.nt
    have hnb := Fn.nb
    have hnk := Fn.nk
    have hlen : ts0.length = o.tray.length := by rw [reps_len X.rt, List.length_map]
    refine ⟨_, (pss_cons (ps_if (pt_val (pe_meth (oV oTk 0) T.cl mI GI hrF bI .nil pass0 (aC (oV oTk 1) pa_nil)))
        (pss_one (ps_fld (oV oTk 0) (pe_op op_cat (pe_fld (oV oTk 0) rfl) (pe_lst (aC (oV oTk 1) pa_nil))) rfl))
        pss_nil)
      (pss_cons (oS oTk 2 (pe_lst pa_nil))
      (pss_cons (oS oTk 3 (cF GF hrF T.first_ready FF.kp bF .nil pass0 (aC (pe_fld (oV oTk 0) rfl) (aC (pe_fld (oV oTk 0) rfl) pa_nil))))
      (pss_cons (ps_while PassesOwn.never (pt_cmpR op_notN (oV oTk 3) pe_non (nomark _))
        (pss_cons (ps_expr (mApp (oV oTk 2) (pe_meth (oV oTk 0) T.cl mH GH hr bH .nil pass0 (aC (oV oTk 3) pa_nil))))
        (pss_one (oS oTk 3 (cF GF hrF T.first_ready FF.kp bF .nil pass0 (aC (pe_fld (oV oTk 0) rfl) (aC (pe_fld (oV oTk 0) rfl) pa_nil)))))))
      (pss_one (ps_ret (oV oTk 2))))))), ?_⟩
    refine ⟨_, rfl, p, dx0, _, rfl, X.ob, no_isnew, _, rfl, p, a, o, l, rfl, O, L, by omega, by omega, by omega, fun m hm => by have := Fn.tr m hm; unfold Fit at this; omega, fun H1 e1 => ⟨_, rfl, ?_⟩⟩
    have X1 := X.same e1
    cases hnew : newB o l with
    | true =>
      refine iteT ?_
      refine ⟨_, rfl, p, C, dx0, _, _, rfl, X1.ob, T.cl, T.nT, at_tray, _, rfl, len1, fun pl nl => ?_⟩
      have s2 := same_new (o := .lst [.ref a]) nl
      have X2 := X1.same s2
      refine ⟨lt0, pl, _, _, rfl, rfl, X2.ht, upd_same, by rw [List.length_singleton]; exact big _ (by omega), fun pt nt => ?_⟩
      have s3 := same_new (o := .lst (ts0 ++ [.ref a])) nt
      have X3 := X2.same s3
      refine ⟨_, rfl, p, C, dx0, _, rfl, X3.ob, T.cl, T.nT, few6, ?_⟩
      have hput : put o l = { o with tray := o.tray ++ [l] } := by unfold put; rw [hnew]; rfl
      have La : RepD K H (letD l) (.ref a) := letAt_iff.mpr ⟨a, rfl, L⟩
      have X4 := X3.setTray (q := pt) (xs := ts0 ++ [.ref a]) (ls := o.tray ++ [l]) upd_same (by rw [List.map_append]; exact reps_append X3.rt (reps_one (RepD.same s3 _ _ (RepD.same s2 _ _ (RepD.same e1 _ _ La)))))
      have Oa := X4.at_
      rw [← hput] at Oa
      have sxa := sx_tray (q := pt) X3 (same_x X.ob ((e1.trans s2).trans s3)) ((e1.trans s2).free nt)
      have fcl : (put o l).clock.length = n := by rw [hput]; exact hcl
      have ffit : ∀ m ∈ (put o l).tray, Fit n m := by
        rw [hput]; intro m hm
        rcases List.mem_append.mp hm with z | z
        · exact Fn.tr m z
        · have : m = l := by simpa using z
          rw [this]; exact ⟨hs, hst⟩
      have flen : (put o l).tray.length ≤ 901 := by rw [hput]; simp only [List.length_append, List.length_singleton]; omega
      have fbook : (put o l).book = o.book := by rw [hput]
      have fkept : (put o l).kept = o.kept := by rw [hput]
      obtain ⟨dx, cl, lb, lt, lk, bs, ts, ks, Xa⟩ := Oa.x
      refine ⟨len0, fun ln nn => ?_⟩
      have sn := same_new (o := .lst []) nn
      have Xn := Xa.same sn
      have nH : H ln = none := sxa.free ⟨_, Xa.ob⟩ nn
      refine ⟨_, rfl, p, C, dx, _, _, rfl, Xn.ob, T.cl, T.nT, at_tray, _, rfl, p, C, dx, _, _, rfl, Xn.ob, T.cl, T.nK, at_clock, lt, cl, ts, _, _, rfl, SqL.of Xn.ht, Xn.rt, Xn.ck, by omega, by omega, fun m hm => by rw [fcl]; exact ffit m hm, fun H2 e2 => ?_⟩
      have nr : ¬ Refs ((upd _ ln (.lst [])) p) ln := fun z => by
        rw [Xn.ob, refs_flds] at z
        rcases z with z | z | z
        · rw [z, Xa.hb] at nn; cases nn
        · rw [z, Xa.ht] at nn; cases nn
        · rw [z, Xa.hk] at nn; cases nn
      refine ⟨TakeW K C H p a ln n o l, ⟨(put o l).tray.length, put o l, [], [], rfl, (Oa.same sn).same e2, e2 _ _ upd_same, rfl, (sxa.trans (same_x Xa.ob sn)).trans (same_x Xn.ob e2), by rw [e2 _ _ Xn.ob]; rw [Xn.ob] at nr; exact nr, rfl, fcl, ffit, by simp, by rw [fbook]; simp, by rw [fkept]; simp, by simp [took]⟩, ?_⟩
      rintro m σ Hc ⟨oc, dn, xs, rfl, Oc, hln, hxs, sxc, nrc, rfl, ccl, cfit, clen, cbook, ckept, ctook⟩
      refine ⟨_, rfl, rfl, _, rfl, ?_⟩
      obtain ⟨dxc, clc, lbc, ltc, lkc, bsc, tsc, ksc, Xc⟩ := Oc.x
      have xlen : xs.length = dn.length := by rw [reps_len hxs, List.length_map]
      cases hf : firstR oc.tray oc.clock with
      | none =>
        rw [show (!decide (optV none = V.non)) = false from rfl]
        refine iteF ?_
        have e1' : (drain oc.tray.length oc).1 = [] := by
          cases hk : oc.tray.length with
          | zero => rfl
          | succ j => simp only [drain, hf]
        have e2' : (drain oc.tray.length oc).2 = oc := by
          cases hk : oc.tray.length with
          | zero => rfl
          | succ j => simp only [drain, hf]
        refine ⟨_, rfl, k ln xs Hc (by rw [ctook, e2']; exact Oc) nH hln (by rw [ctook, e1', List.append_nil]; exact hxs) nrc sxc⟩
      | some i =>
        rw [show (!decide (optV (some i) = V.non)) = true from rfl]
        refine iteT ?_
        have hfi := hf
        unfold firstR at hfi
        rw [List.findIdx?_eq_some_iff_getElem] at hfi
        obtain ⟨hi, _, _⟩ := hfi
        have hget : oc.tray[i]? = some oc.tray[i] := List.getElem?_eq_getElem hi
        obtain ⟨k0, hk0⟩ : ∃ k0, oc.tray.length = k0 + 1 := ⟨oc.tray.length - 1, by omega⟩
        have hdr : drain oc.tray.length oc = (oc.tray[i] :: (drain k0 (handed oc i oc.tray[i])).1, (drain k0 (handed oc i oc.tray[i])).2) := by
          rw [hk0]; simp only [drain, hf, hget]
        have htl : (handed oc i oc.tray[i]).tray.length = k0 := by
          show (oc.tray.eraseIdx i).length = k0
          rw [List.length_eraseIdx_of_lt hi]; omega
        refine ⟨fun σ' H' => ∃ m', m' < oc.tray.length ∧ TakeW K C H p a ln n o l m' σ' H', fun σ' H' h => h, ?_⟩
        refine ⟨_, rfl, .inl ⟨rfl, _, SqL.of hln⟩, _, rfl, p, dxc, _, rfl, Xc.ob, no_hand, _, rfl, p, i, n, oc, oc.tray[i], rfl, Oc, hget, ⟨ccl, fn1, cfit, by omega, by omega, by omega⟩, fun r H3 O3 rr x3 => ?_⟩
        have hln3 : H3 ln = some (.lst xs) := x3.lst Xc.ob hln
        refine ⟨ln, _, _, rfl, rfl, hln3, by exact small1000 (by omega), ?_⟩
        obtain ⟨dx3, cl3, lb3, lt3, lk3, bs3, ts3, ks3, X3⟩ := O3.x
        have nlp : p ≠ ln := (lst_ne hln3 X3.ob).symm
        have i4 := imm_lst (ys := xs ++ [r]) hln3
        have nr3 : ¬ Refs (H3 p) ln := fun z => (x3.refs ln z).elim nrc (fun z => by rw [hln] at z; cases z)
        rw [X3.ob, refs_flds] at nr3
        have X4 := X3.other (b := ln) (ys := xs ++ [r]) hln3 (fun e => nr3 (.inl e)) (fun e => nr3 (.inr (.inl e))) (fun e => nr3 (.inr (.inr e)))
        have h3cl : (handed oc i oc.tray[i]).clock.length = n := by
          show (inc oc.clock _).length = n
          unfold inc; rw [List.length_set]; exact ccl
        have h3fit : ∀ m ∈ (handed oc i oc.tray[i]).tray, Fit n m := fun m hm => cfit m (List.mem_of_mem_eraseIdx hm)
        refine ⟨_, rfl, p, C, dx3, _, _, rfl, X4.ob, T.cl, T.nT, at_tray, _, rfl, p, C, dx3, _, _, rfl, X4.ob, T.cl, T.nK, at_clock, lt3, cl3, ts3, _, _, rfl, SqL.of X4.ht, X4.rt, X4.ck, by omega, by omega, fun m hm => by rw [h3cl]; exact h3fit m hm, fun H5 e5 => ?_⟩
        have sx4 : SameX p H (upd H3 ln (.lst (xs ++ [r]))) := by
          have z := sxc.trans x3
          refine ⟨fun b u hb nb => ?_, fun b hb => ?_, z.here⟩
          · have : b ≠ ln := fun e => by rw [e, nH] at hb; cases hb
            rw [upd_ne this]; exact z.keep b u hb nb
          · rw [upd_ne nlp] at hb; exact z.refs b hb
        refine ⟨k0, by omega, handed oc i oc.tray[i], dn ++ [oc.tray[i]], xs ++ [r], rfl, (X4.same e5).at_, e5 _ _ upd_same, ?_, sx4.trans (same_x X4.ob e5), ?_, htl.symm, h3cl, h3fit, ?_, ?_, ?_, ?_⟩
        · rw [List.map_append]
          exact RepDs.same e5 _ _ (RepDs.imm i4 _ _ (by rw [← List.map_append]; exact noList_names _) (reps_append (RepDs.imm (x3.imm Xc.ob) _ _ (noList_names _) hxs) (reps_one rr)))
        · rw [e5 _ _ X4.ob, refs_flds]; exact nr3
        · rw [List.length_append, List.length_singleton, htl]; omega
        · show (oc.book ++ [_]).length ≤ _
          simp only [List.length_append, List.length_singleton]; omega
        · show (if _ then _ else _ : List PyData).length ≤ _
          split
          · simp only [List.length_append, List.length_singleton]
            show oc.kept.length + 1 ≤ _
            omega
          · simp only [List.length_append, List.length_singleton]
            show oc.kept.length ≤ _
            omega
        · rw [ctook, hdr, List.append_assoc]; rfl
    | false =>
      refine iteF ?_
      have hput : put o l = o := by unfold put; rw [hnew]; rfl
      have Oa : OffAt K C H1 p (put o l) := by rw [hput]; exact X1.at_
      have sxa := same_x X.ob e1
      have fcl : (put o l).clock.length = n := by rw [hput]; exact hcl
      have ffit : ∀ m ∈ (put o l).tray, Fit n m := by rw [hput]; exact Fn.tr
      have flen : (put o l).tray.length ≤ 901 := by rw [hput]; omega
      have fbook : (put o l).book = o.book := by rw [hput]
      have fkept : (put o l).kept = o.kept := by rw [hput]
      obtain ⟨dx, cl, lb, lt, lk, bs, ts, ks, Xa⟩ := Oa.x
      refine ⟨len0, fun ln nn => ?_⟩
      have sn := same_new (o := .lst []) nn
      have Xn := Xa.same sn
      have nH : H ln = none := sxa.free ⟨_, Xa.ob⟩ nn
      refine ⟨_, rfl, p, C, dx, _, _, rfl, Xn.ob, T.cl, T.nT, at_tray, _, rfl, p, C, dx, _, _, rfl, Xn.ob, T.cl, T.nK, at_clock, lt, cl, ts, _, _, rfl, SqL.of Xn.ht, Xn.rt, Xn.ck, by omega, by omega, fun m hm => by rw [fcl]; exact ffit m hm, fun H2 e2 => ?_⟩
      have nr : ¬ Refs ((upd _ ln (.lst [])) p) ln := fun z => by
        rw [Xn.ob, refs_flds] at z
        rcases z with z | z | z
        · rw [z, Xa.hb] at nn; cases nn
        · rw [z, Xa.ht] at nn; cases nn
        · rw [z, Xa.hk] at nn; cases nn
      refine ⟨TakeW K C H p a ln n o l, ⟨(put o l).tray.length, put o l, [], [], rfl, (Oa.same sn).same e2, e2 _ _ upd_same, rfl, (sxa.trans (same_x Xa.ob sn)).trans (same_x Xn.ob e2), by rw [e2 _ _ Xn.ob]; rw [Xn.ob] at nr; exact nr, rfl, fcl, ffit, by simp, by rw [fbook]; simp, by rw [fkept]; simp, by simp [took]⟩, ?_⟩
      rintro m σ Hc ⟨oc, dn, xs, rfl, Oc, hln, hxs, sxc, nrc, rfl, ccl, cfit, clen, cbook, ckept, ctook⟩
      refine ⟨_, rfl, rfl, _, rfl, ?_⟩
      obtain ⟨dxc, clc, lbc, ltc, lkc, bsc, tsc, ksc, Xc⟩ := Oc.x
      have xlen : xs.length = dn.length := by rw [reps_len hxs, List.length_map]
      cases hf : firstR oc.tray oc.clock with
      | none =>
        rw [show (!decide (optV none = V.non)) = false from rfl]
        refine iteF ?_
        have e1' : (drain oc.tray.length oc).1 = [] := by
          cases hk : oc.tray.length with
          | zero => rfl
          | succ j => simp only [drain, hf]
        have e2' : (drain oc.tray.length oc).2 = oc := by
          cases hk : oc.tray.length with
          | zero => rfl
          | succ j => simp only [drain, hf]
        refine ⟨_, rfl, k ln xs Hc (by rw [ctook, e2']; exact Oc) nH hln (by rw [ctook, e1', List.append_nil]; exact hxs) nrc sxc⟩
      | some i =>
        rw [show (!decide (optV (some i) = V.non)) = true from rfl]
        refine iteT ?_
        have hfi := hf
        unfold firstR at hfi
        rw [List.findIdx?_eq_some_iff_getElem] at hfi
        obtain ⟨hi, _, _⟩ := hfi
        have hget : oc.tray[i]? = some oc.tray[i] := List.getElem?_eq_getElem hi
        obtain ⟨k0, hk0⟩ : ∃ k0, oc.tray.length = k0 + 1 := ⟨oc.tray.length - 1, by omega⟩
        have hdr : drain oc.tray.length oc = (oc.tray[i] :: (drain k0 (handed oc i oc.tray[i])).1, (drain k0 (handed oc i oc.tray[i])).2) := by
          rw [hk0]; simp only [drain, hf, hget]
        have htl : (handed oc i oc.tray[i]).tray.length = k0 := by
          show (oc.tray.eraseIdx i).length = k0
          rw [List.length_eraseIdx_of_lt hi]; omega
        refine ⟨fun σ' H' => ∃ m', m' < oc.tray.length ∧ TakeW K C H p a ln n o l m' σ' H', fun σ' H' h => h, ?_⟩
        refine ⟨_, rfl, .inl ⟨rfl, _, SqL.of hln⟩, _, rfl, p, dxc, _, rfl, Xc.ob, no_hand, _, rfl, p, i, n, oc, oc.tray[i], rfl, Oc, hget, ⟨ccl, fn1, cfit, by omega, by omega, by omega⟩, fun r H3 O3 rr x3 => ?_⟩
        have hln3 : H3 ln = some (.lst xs) := x3.lst Xc.ob hln
        refine ⟨ln, _, _, rfl, rfl, hln3, by exact small1000 (by omega), ?_⟩
        obtain ⟨dx3, cl3, lb3, lt3, lk3, bs3, ts3, ks3, X3⟩ := O3.x
        have nlp : p ≠ ln := (lst_ne hln3 X3.ob).symm
        have i4 := imm_lst (ys := xs ++ [r]) hln3
        have nr3 : ¬ Refs (H3 p) ln := fun z => (x3.refs ln z).elim nrc (fun z => by rw [hln] at z; cases z)
        rw [X3.ob, refs_flds] at nr3
        have X4 := X3.other (b := ln) (ys := xs ++ [r]) hln3 (fun e => nr3 (.inl e)) (fun e => nr3 (.inr (.inl e))) (fun e => nr3 (.inr (.inr e)))
        have h3cl : (handed oc i oc.tray[i]).clock.length = n := by
          show (inc oc.clock _).length = n
          unfold inc; rw [List.length_set]; exact ccl
        have h3fit : ∀ m ∈ (handed oc i oc.tray[i]).tray, Fit n m := fun m hm => cfit m (List.mem_of_mem_eraseIdx hm)
        refine ⟨_, rfl, p, C, dx3, _, _, rfl, X4.ob, T.cl, T.nT, at_tray, _, rfl, p, C, dx3, _, _, rfl, X4.ob, T.cl, T.nK, at_clock, lt3, cl3, ts3, _, _, rfl, SqL.of X4.ht, X4.rt, X4.ck, by omega, by omega, fun m hm => by rw [h3cl]; exact h3fit m hm, fun H5 e5 => ?_⟩
        have sx4 : SameX p H (upd H3 ln (.lst (xs ++ [r]))) := by
          have z := sxc.trans x3
          refine ⟨fun b u hb nb => ?_, fun b hb => ?_, z.here⟩
          · have : b ≠ ln := fun e => by rw [e, nH] at hb; cases hb
            rw [upd_ne this]; exact z.keep b u hb nb
          · rw [upd_ne nlp] at hb; exact z.refs b hb
        refine ⟨k0, by omega, handed oc i oc.tray[i], dn ++ [oc.tray[i]], xs ++ [r], rfl, (X4.same e5).at_, e5 _ _ upd_same, ?_, sx4.trans (same_x X4.ob e5), ?_, htl.symm, h3cl, h3fit, ?_, ?_, ?_, ?_⟩
        · rw [List.map_append]
          exact RepDs.same e5 _ _ (RepDs.imm i4 _ _ (by rw [← List.map_append]; exact noList_names _) (reps_append (RepDs.imm (x3.imm Xc.ob) _ _ (noList_names _) hxs) (reps_one rr)))
        · rw [e5 _ _ X4.ob, refs_flds]; exact nr3
        · rw [List.length_append, List.length_singleton, htl]; omega
        · show (oc.book ++ [_]).length ≤ _
          simp only [List.length_append, List.length_singleton]; omega
        · show (if _ then _ else _ : List PyData).length ≤ _
          split
          · simp only [List.length_append, List.length_singleton]
            show oc.kept.length + 1 ≤ _
            omega
          · simp only [List.length_append, List.length_singleton]
            show oc.kept.length ≤ _
            omega
        · rw [ctook, hdr, List.append_assoc]; rfl
end
end Of

end

section
set_option Elab.async false
set_option linter.all false
set_option maxRecDepth 100000
set_option maxHeartbeats 4000000
seal L2.PE L2.PT L2.PW L2.PA L2.PS L2.PSs L2.PG L2.PGs L2.PI L3.PTs L2.PO L2.CallR L2.OpR L2.IxR L2.MtR L2.PSet L2.SlR
namespace Of
open PySem L2 L3
/-! ### several letters, one after the other -/
def tookAll (o : Off) : List Let → List (List Let) × Off
  | [] => ([], o)
  | l :: ls => ((took o l).1 :: (tookAll (took o l).2 ls).1, (tookAll (took o l).2 ls).2)
theorem tookAll_snoc : ∀ (ls : List Let) (o : Off) (l : Let), tookAll o (ls ++ [l]) = ((tookAll o ls).1 ++ [(took (tookAll o ls).2 l).1], (took (tookAll o ls).2 l).2)
  | [], o, l => rfl
  | m :: ls, o, l => by
    simp only [List.cons_append, tookAll, tookAll_snoc ls (took o m).2 l]
/-- what a take leaves as it was -/
structure Kin (n : Nat) (o o' : Off) (d : Nat) : Prop where
  cl : o'.clock.length = n
  fit : ∀ l ∈ o'.tray, Fit n l
  bk : o'.book.length + o'.tray.length ≤ o.book.length + o.tray.length + d
  kp : o'.kept.length + o'.tray.length ≤ o.kept.length + o.tray.length + d
  num : o'.num = o.num
theorem handed_kin {n : Nat} {o : Off} {i : Nat} {l : Let} (cl : o.clock.length = n) (fit : ∀ l ∈ o.tray, Fit n l) (hi : o.tray[i]? = some l) : Kin n o (handed o i l) 0 := by
  have hi' : i < o.tray.length := (List.getElem?_eq_some_iff.mp hi).1
  have hl : (o.tray.eraseIdx i).length + 1 = o.tray.length := by rw [List.length_eraseIdx_of_lt hi']; omega
  refine ⟨by show (inc o.clock _).length = n; unfold inc; rw [List.length_set]; exact cl, fun m hm => fit m (List.mem_of_mem_eraseIdx hm), ?_, ?_, rfl⟩
  · show (o.book ++ [_]).length + (o.tray.eraseIdx i).length ≤ _
    simp only [List.length_append, List.length_singleton]; omega
  · show (if _ then _ else _ : List PyData).length + (o.tray.eraseIdx i).length ≤ _
    split
    · simp only [List.length_append, List.length_singleton]
      show o.kept.length + 1 + (o.tray.eraseIdx i).length ≤ _
      omega
    · show o.kept.length + (o.tray.eraseIdx i).length ≤ _
      omega
theorem drain_kin {n : Nat} : ∀ (k : Nat) {o : Off}, o.clock.length = n → (∀ l ∈ o.tray, Fit n l) → Kin n o (drain k o).2 0
  | 0, o, cl, fit => ⟨cl, fit, by simp [drain], by simp [drain], rfl⟩
  | k + 1, o, cl, fit => by
    cases hf : firstR o.tray o.clock with
    | none => simp only [drain, hf]; exact ⟨cl, fit, by omega, by omega, rfl⟩
    | some i =>
      cases hg : o.tray[i]? with
      | none => simp only [drain, hf, hg]; exact ⟨cl, fit, by omega, by omega, rfl⟩
      | some l =>
        simp only [drain, hf, hg]
        have h1 := handed_kin cl fit hg
        have h2 := drain_kin k h1.cl h1.fit
        exact ⟨h2.cl, h2.fit, by have := h1.bk; have := h2.bk; omega, by have := h1.kp; have := h2.kp; omega, h2.num.trans h1.num⟩
theorem took_kin {n : Nat} {o : Off} {l : Let} (cl : o.clock.length = n) (fit : ∀ l ∈ o.tray, Fit n l) (hl : Fit n l) : Kin n o (took o l).2 1 := by
  have hp : (put o l).clock.length = n ∧ (∀ m ∈ (put o l).tray, Fit n m) ∧ (put o l).book = o.book ∧ (put o l).kept = o.kept ∧ (put o l).tray.length ≤ o.tray.length + 1 ∧ (put o l).num = o.num := by
    unfold put
    split
    · refine ⟨cl, fun m hm => ?_, rfl, rfl, by simp, rfl⟩
      rcases List.mem_append.mp hm with z | z
      · exact fit m z
      · have : m = l := by simpa using z
        rw [this]; exact hl
    · exact ⟨cl, fit, rfl, rfl, by omega, rfl⟩
  obtain ⟨h1, h2, h3, h4, h5, h6⟩ := hp
  have h := drain_kin (put o l).tray.length h1 h2
  exact ⟨h.cl, h.fit, by have := h.bk; rw [h3] at this; unfold took; omega, by have := h.kp; rw [h4] at this; unfold took; omega, h.num.trans h6⟩
theorem tookAll_kin {n : Nat} : ∀ (ls : List Let) {o : Off}, o.clock.length = n → (∀ l ∈ o.tray, Fit n l) → (∀ l ∈ ls, Fit n l) → Kin n o (tookAll o ls).2 ls.length
  | [], o, cl, fit, _ => ⟨cl, fit, by simp [tookAll], by simp [tookAll], rfl⟩
  | l :: ls, o, cl, fit, hls => by
    have h1 := took_kin cl fit (hls l List.mem_cons_self)
    have h2 := tookAll_kin ls h1.cl h1.fit (fun m hm => hls m (List.mem_cons_of_mem _ hm))
    refine ⟨h2.cl, h2.fit, ?_, ?_, h2.num.trans h1.num⟩
    · have := h1.bk; have := h2.bk; simp only [tookAll, List.length_cons]; omega
    · have := h1.kp; have := h2.kp; simp only [tookAll, List.length_cons]; omega
/-- a list of answers: each a list of names of its own -/
def AnsAt (K : PySem.W.Frag) (H : Hp) (q : Addr) : List (List Let) → List V → Prop
  | [], ys => ys = []
  | ns :: an, ys => ∃ b xs r, ys = .ref b :: r ∧ b ≠ q ∧ H b = some (.lst xs) ∧ RepDs K H (ns.map nameD) xs ∧ AnsAt K H q an r
theorem AnsAt.mono {K : PySem.W.Frag} {H H' : Hp} {q : Addr} (e1 : ∀ b xs, b ≠ q → H b = some (.lst xs) → H' b = some (.lst xs)) (e2 : Imm H H') : ∀ {an : List (List Let)} {ys : List V}, AnsAt K H q an ys → AnsAt K H' q an ys
  | [], _, h => h
  | ns :: an, ys, h => by
    obtain ⟨b, xs, r, rfl, hb, h1, h2, h3⟩ := h
    exact ⟨b, xs, r, rfl, hb, e1 b xs hb h1, RepDs.imm e2 _ _ (noList_names _) h2, AnsAt.mono e1 e2 h3⟩
theorem AnsAt.snoc {K : PySem.W.Frag} {H : Hp} {q b : Addr} {ns : List Let} {xs : List V} (hb : b ≠ q) (h1 : H b = some (.lst xs)) (h2 : RepDs K H (ns.map nameD) xs) : ∀ {an : List (List Let)} {ys : List V}, AnsAt K H q an ys → AnsAt K H q (an ++ [ns]) (ys ++ [.ref b])
  | [], ys, h => by
    have : ys = [] := h
    subst this
    exact ⟨b, xs, [], rfl, hb, h1, h2, rfl⟩
  | ms :: an, ys, h => by
    obtain ⟨b', xs', r, rfl, hb', g1, g2, g3⟩ := h
    exact ⟨b', xs', r ++ [.ref b], rfl, hb', g1, g2, AnsAt.snoc hb h1 h2 g3⟩
theorem AnsAt.len {K : PySem.W.Frag} {H : Hp} {q : Addr} : ∀ {an : List (List Let)} {ys : List V}, AnsAt K H q an ys → ys.length = an.length
  | [], ys, h => by
    have : ys = [] := h
    subst this; rfl
  | ms :: an, ys, h => by
    obtain ⟨b', xs', r, rfl, hb', g1, g2, g3⟩ := h
    simp only [List.length_cons, AnsAt.len g3]
def spTaken (K : PySem.W.Frag) (C : Addr) : Sp := fun vs H Q _ => ∃ (p la : Addr) (n : Nat) (o : Off) (ls : List Let) (xs : List V), vs = [.ref p, .ref la] ∧ OffAt K C H p o ∧ SqL K H la xs ∧ RepDs K H (ls.map letD) xs ∧ (∀ l ∈ ls, Fit n l) ∧
  o.clock.length = n ∧ n ≤ 1000 ∧ (∀ l ∈ o.tray, Fit n l) ∧ o.book.length + o.tray.length + ls.length ≤ 800 ∧ o.kept.length + o.tray.length + ls.length ≤ 800 ∧
  ∀ (q : Addr) (ys : List V) (H' : Hp), OffAt K C H' p (tookAll o ls).2 → H q = none → H' q = some (.lst ys) → AnsAt K H' q (tookAll o ls).1 ys → (∀ b, V.ref b ∈ ys → H b = none) → ¬ Refs (H' p) q → SameX p H H' → Q (.ref q) H'
section
variable {P : Program} {w : World} {K : PySem.W.Frag} {mg : Str → Option Value} {base : Heap} {C fN fT fC fR fF fO : Addr}
theorem oTb : ownB ["office", "letters", "answers", "letter"] (defScope sTaken) = true := by decide +kernel
theorem scTb : FnScope ["office", "letters", "answers", "letter"] ["office", "letters"] (defScope sTaken) := ⟨rfl, rfl, rfl, by decide +kernel, rfl, by decide +kernel, by decide +kernel⟩
theorem ok_taken {f fT' : Addr} {fd fdT : FuncData} (F : Fun K "taken_by" "taken_by" sTaken f fd) (T : Txt K mg C fN fT fC fR fF fO) (bT : Binds K fdT ["self", "letter"] []) (mT : Meth K C "take" fT') (GT : FnOk P w K mg base CX0 4 fT' fdT ["self", "letter"] (spTake K C)) :
    FnOk P w K mg base CX0 5 f fd ["office", "letters"] (spTaken K C) := by
  refine okB (body := [stm sTaken 0, stm sTaken 1, stm sTaken 2]) F scTb (fun vs H Q E h => ?_) (by kernel_rfl) (fun cdv A outer s0 H vs Q E hr h => ?_)
  · obtain ⟨p, la, n, o, ls, xs, rfl, _⟩ := h
    rfl
  · obtain ⟨p, la, n, o, ls, xs, rfl, O, hla, hxs, hfit, hcl, hn1, htf, hb, hk, k⟩ := h
    obtain ⟨dx0, cl0, lb0, lt0, lk0, bs0, ts0, ks0, X⟩ := O.x
    have hlen : xs.length = ls.length := by rw [reps_len hxs, List.length_map]
    refine ⟨_, (pss_cons (oS oTb 2 (pe_lst pa_nil))
      (pss_cons (ps_for PassesOwn.never rfl (pi_list (oV oTb 1)) (oT oTb 3)
        (pss_one (ps_expr (mApp (oV oTb 2) (pe_meth (oV oTb 0) T.cl mT GT hr bT .nil pass0 (aC (oV oTb 3) pa_nil))))))
      (pss_one (ps_ret (oV oTb 2))))), ?_⟩
    refine ⟨len0, fun q nq => ?_⟩
    have sq := same_new (o := .lst []) nq
    have Xq := X.same sq
    have nr : ¬ Refs ((upd H q (.lst [])) p) q := fun z => by
      rw [Xq.ob, refs_flds] at z
      rcases z with z | z | z
      · rw [z, X.hb] at nq; cases nq
      · rw [z, X.ht] at nq; cases nq
      · rw [z, X.hk] at nq; cases nq
    have hlq : ∀ Hc, SameX p H Hc → Hc q = Hc q → SqL K Hc la xs := fun Hc sx _ => sx.seq X.ob hla
    refine ⟨_, rfl, la, rfl, ⟨_, sq.seq hla⟩, for_list (K := K) (a := la) (xs := xs) (fun i σ Hc => ∃ (v : Option V) (ys : List V), σ = [some (.ref p), some (.ref la), some (.ref q), v] ∧ OffAt K C Hc p (tookAll o (ls.take i)).2 ∧ Hc q = some (.lst ys) ∧ AnsAt K Hc q (tookAll o (ls.take i)).1 ys ∧ (∀ b, V.ref b ∈ ys → H b = none) ∧ ¬ Refs (Hc p) q ∧ SameX p H Hc)
      ⟨none, [], rfl, O.same sq, upd_same, rfl, (fun _ h => nomatch h), nr, same_x X.ob sq⟩ (fun i σ Hc _ ⟨v, ys, _, _, _, _, _, _, sx⟩ => sx.seq X.ob hla) ?_ ?_⟩
    · rintro i y σ Hc hi ⟨v, ys, rfl, Oc, hq, ha, hfr, nrc, sx⟩
      have hi' : i < ls.length := by have := (List.getElem?_eq_some_iff.mp hi).1; omega
      obtain ⟨x', hx', rx⟩ := reps_get hxs (i := i) (d := letD ls[i]) (by rw [List.getElem?_map, List.getElem?_eq_getElem hi']; rfl)
      rw [hi] at hx'
      cases hx'
      obtain ⟨b, rfl, L⟩ := letAt_iff.mp rx
      obtain ⟨dxc, clc, lbc, ltc, lkc, bsc, tsc, ksc, Xc⟩ := Oc.x
      have kn := tookAll_kin (n := n) (ls.take i) hcl htf (fun l hl => hfit l (List.mem_of_mem_take hl))
      have kb := kn.bk
      have kk := kn.kp
      rw [List.length_take] at kb kk
      refine ⟨_, rfl, .inl ⟨rfl, _, SqL.of hq⟩, _, rfl, p, dxc, _, rfl, Xc.ob, no_take, _, rfl, p, b, n, _, ls[i], rfl, Oc, L.imm (sx.imm X.ob), hfit _ (List.getElem_mem hi'), ⟨kn.cl, hn1, kn.fit, by omega, by omega, by omega⟩, fun ln zs H3 O3 nln hln hzs nr3 x3 => ?_⟩
      have hq3 : H3 q = some (.lst ys) := x3.lst Xc.ob hq
      have nlq : ln ≠ q := fun e => by rw [e, hq] at nln; cases nln
      obtain ⟨dx3, cl3, lb3, lt3, lk3, bs3, ts3, ks3, X3⟩ := O3.x
      have alen := ha.len
      have tlen : (tookAll o (ls.take i)).1.length = (ls.take i).length := by
        have : ∀ (ms : List Let) (o : Off), (tookAll o ms).1.length = ms.length := by
          intro ms
          induction ms with
          | nil => intro o; rfl
          | cons m ms ih => intro o; simp only [tookAll, List.length_cons, ih]
        exact this _ _
      rw [List.length_take] at tlen
      refine ⟨q, _, _, rfl, rfl, hq3, by exact small1000 (by omega), ?_⟩
      have nrq : ¬ Refs (H3 p) q := fun z => (x3.refs q z).elim nrc (fun z => by rw [hq] at z; cases z)
      rw [X3.ob, refs_flds] at nrq
      have X4 := X3.other (b := q) (ys := ys ++ [.ref ln]) hq3 (fun e => nrq (.inl e)) (fun e => nrq (.inr (.inl e))) (fun e => nrq (.inr (.inr e)))
      have nqp : p ≠ q := (lst_ne hq3 X3.ob).symm
      have i4 := imm_lst (ys := ys ++ [.ref ln]) hq3
      have etake : ls.take (i + 1) = ls.take i ++ [ls[i]] := by rw [List.take_succ, List.getElem?_eq_getElem hi']; rfl
      refine ⟨_, ys ++ [.ref ln], rfl, by rw [etake, tookAll_snoc]; exact X4.at_, upd_same, ?_, ?_, ?_, ?_⟩
      · rw [etake, tookAll_snoc]
        refine AnsAt.snoc nlq ((upd_ne nlq).trans hln) (RepDs.imm i4 _ _ (noList_names _) hzs) (AnsAt.mono (fun b zs hb h => (upd_ne hb).trans h) i4 (AnsAt.mono (fun b zs hb h => x3.lst Xc.ob h) (x3.imm Xc.ob) ha))
      · intro b' hb'
        rcases List.mem_append.mp hb' with z | z
        · exact hfr b' z
        · have : b' = ln := by simpa using z
          rw [this]; exact sx.free ⟨_, Xc.ob⟩ nln
      · rw [upd_ne nqp, X3.ob, refs_flds]; exact nrq
      · have z := sx.trans x3
        refine ⟨fun b' u hb' nb' => ?_, fun b' hb' => ?_, z.here⟩
        · have : b' ≠ q := fun e => by rw [e, nq] at hb'; cases hb'
          rw [upd_ne this]; exact z.keep b' u hb' nb'
        · rw [upd_ne nqp] at hb'; exact z.refs b' hb'
    · rintro σ Hc ⟨v, ys, rfl, Oc, hq, ha, hfr, nrc, sx⟩
      rw [hlen, List.take_length] at Oc ha
      exact ⟨_, rfl, k q ys Hc Oc nq hq ha hfr nrc sx⟩
end
end Of

end

section
set_option Elab.async false
set_option linter.all false
set_option maxRecDepth 100000
set_option maxHeartbeats 4000000
seal L2.PE L2.PT L2.PW L2.PA L2.PS L2.PSs L2.PG L2.PGs L2.PI L3.PTs L2.PO L2.CallR L2.OpR L2.IxR L2.MtR L2.PSet L2.SlR
namespace Of
open PySem L2 L3
/-! ### sending -/
def sentL (o : Off) (i : Nat) (w : What) : Let := ⟨i, inc o.clock i, w⟩
def sentO (o : Off) (i : Nat) (w : What) : Off := wrote { o with clock := inc o.clock i } "sent" (sentL o i w)
structure Sends (i n : Nat) (o : Off) : Prop where
  num : o.num = (i : Int)
  lt : i < n
  cl : o.clock.length = n
  n1 : n ≤ 1000
  nb : o.book.length ≤ 90000
  nk : o.kept.length ≤ 90000
def spSend (K : PySem.W.Frag) (C : Addr) : Sp := fun vs H Q _ => ∃ (p c : Addr) (i n : Nat) (o : Off) (w : What), vs = [.ref p, .ref c] ∧ OffAt K C H p o ∧ WhatAt K H c w ∧ Sends i n o ∧
  ∀ (la : Addr) (H' : Hp), OffAt K C H' p (sentO o i w) → LetAt K H' la (sentL o i w) → SameX p H H' → Q (.ref la) H'
def spCut (K : PySem.W.Frag) (C : Addr) : Sp := fun vs H Q _ => ∃ (p : Addr) (i n : Nat) (o : Off), vs = [.ref p] ∧ OffAt K C H p o ∧ Sends i n o ∧
  ∀ (la : Addr) (H' : Hp), OffAt K C H' p (sentO o i .cut) → LetAt K H' la (sentL o i .cut) → SameX p H H' → Q (.ref la) H'
theorem no_send {n c : Int} {cl lb lt lk : Addr} : (flds n c cl lb lt lk).lookup ("send" : Str) = none := by kernel_rfl
section
variable {P : Program} {w : World} {K : PySem.W.Frag} {mg : Str → Option Value} {base : Heap} {C fN fT fC fR fF fO : Addr}
theorem oSd : ownB ["self", "what", "letter"] (defScope sSend) = true := by decide +kernel
theorem scSd : FnScope ["self", "what", "letter"] ["self", "what"] (defScope sSend) := ⟨rfl, rfl, rfl, by decide +kernel, rfl, by decide +kernel, by decide +kernel⟩
theorem ok_send {f fW : Addr} {fd fdN fdC fdW : FuncData} (F : Fun K "send" "Office.send" sSend f fd) (T : Txt K mg C fN fT fC fR fF fO) (FN : Fun K "name_of" "name_of" sName fN fdN) (bN : Binds K fdN ["letter"] [])
    (FC : Fun K "counted" "counted" sCounted fC fdC) (bC : Binds K fdC ["clock", "sender"] [])
    (FW : Fun K "write_in_book" "Office.write_in_book" sWrite fW fdW) (bW : Binds K fdW ["self", "how", "letter"] []) (mW : Meth K C "write_in_book" fW) : FnOk P w K mg base CX0 3 f fd ["self", "what"] (spSend K C) := by
  have GC : FnOk P w K mg base CX0 1 fC fdC ["clock", "sender"] (spCounted K) := ok_counted FC
  have GW : FnOk P w K mg base CX0 2 fW fdW ["self", "how", "letter"] (spWrite K C) := ok_write FW T FN bN
  refine okB (body := [stm sSend 0, stm sSend 1, stm sSend 2, stm sSend 3]) F scSd (fun vs H Q E h => ?_) (by kernel_rfl) (fun cdv A outer s0 H vs Q E hr h => ?_)
  · obtain ⟨p, c, i, n, o, w, rfl, _⟩ := h
    rfl
  · obtain ⟨p, c, i, n, o, wh, rfl, O, W, S, k⟩ := h
    have hrN := hr.mono (by decide : 1 ≤ 2)
    obtain ⟨dx, cl, lb, lt, lk, bs, ts, ks, X⟩ := O.x
    have hnum := S.num
    have hlt := S.lt
    have hcl := S.cl
    have hn1 := S.n1
    have hnb := S.nb
    have hnk := S.nk
    refine ⟨_, (pss_cons (ps_fld (oV oSd 0) (cF GC hrN T.counted FC.kp bC .nil pass0 (aC (pe_fld (oV oSd 0) rfl) (aC (pe_fld (oV oSd 0) rfl) pa_nil))) rfl)
      (pss_cons (oS oSd 2 (pe_tup (aC (pe_fld (oV oSd 0) rfl) (aC (pe_fld (oV oSd 0) rfl) (aC (oV oSd 1) pa_nil)))))
      (pss_cons (ps_expr (pe_meth (oV oSd 0) T.cl mW GW hr bW .nil pass0 (aC pe_str (aC (oV oSd 2) pa_nil))))
      (pss_one (ps_ret (oV oSd 2)))))), ?_⟩
    refine ⟨_, rfl, p, C, dx, _, _, rfl, X.ob, T.cl, T.nK, at_clock, _, rfl, p, C, dx, _, _, rfl, X.ob, T.cl, T.nN, at_number, cl, i, o.clock, by rw [hnum]; rfl, X.ck, by omega, by omega, fun q5 H5 e5 h5 => ?_⟩
    have X5 := X.same e5
    refine ⟨_, rfl, p, C, dx, _, rfl, X5.ob, T.cl, T.nK, few6, ?_⟩
    have X6 := X5.setClock h5
    have x6 := sx_clock (q := q5) X5 (same_x X.ob e5)
    refine ⟨_, rfl, p, C, dx, _, _, rfl, X6.ob, T.cl, T.nN, at_number, _, rfl, p, C, dx, _, _, rfl, X6.ob, T.cl, T.nK, at_clock, _, rfl, len3, fun la nla => ?_⟩
    have s7 := same_new (o := .tup [.int o.num, .ref q5, .ref c]) nla
    have X7 := X6.same s7
    have x7 := x6.trans (same_x X6.ob s7)
    have La : LetAt K _ la (sentL o i wh) := ⟨q5, c, by rw [show (sentL o i wh).s = i from rfl, ← hnum]; exact SqT.of upd_same, X7.ck, W.imm (x7.imm X.ob)⟩
    refine ⟨_, rfl, p, dx, _, rfl, X7.ob, no_write, _, rfl, p, la, "sent", _, sentL o i wh, rfl, X7.at_, La, ?_, by show o.book.length ≤ 100000; omega, by show o.kept.length ≤ 100000; omega, fun H8 O8 x8 => ?_⟩
    · show i < (inc o.clock i).length
      unfold inc; rw [List.length_set]; omega
    exact ⟨_, rfl, k la H8 O8 (La.imm (x8.imm X7.ob)) (x7.trans x8)⟩
theorem oCu : ownB ["self"] (defScope sCut) = true := by decide +kernel
theorem scCu : FnScope ["self"] ["self"] (defScope sCut) := ⟨rfl, rfl, rfl, by decide +kernel, rfl, by decide +kernel, by decide +kernel⟩
theorem ok_cut {f fS : Addr} {fd fdS : FuncData} (F : Fun K "cut" "Office.cut" sCut f fd) (T : Txt K mg C fN fT fC fR fF fO) (bS : Binds K fdS ["self", "what"] []) (mS : Meth K C "send" fS) (GS : FnOk P w K mg base CX0 3 fS fdS ["self", "what"] (spSend K C)) :
    FnOk P w K mg base CX0 4 f fd ["self"] (spCut K C) := by
  refine okB (body := [stm sCut 0]) F scCu (fun vs H Q E h => ?_) (by kernel_rfl) (fun cdv A outer s0 H vs Q E hr h => ?_)
  · obtain ⟨p, i, n, o, rfl, _⟩ := h
    rfl
  · obtain ⟨p, i, n, o, rfl, O, S, k⟩ := h
    obtain ⟨dx, cl, lb, lt, lk, bs, ts, ks, X⟩ := O.x
    refine ⟨_, (pss_one (ps_ret (pe_meth (oV oCu 0) T.cl mS GS hr bS .nil pass0 (aC (pe_tup (aC pe_str pa_nil)) pa_nil)))), ?_⟩
    refine ⟨_, rfl, p, dx, _, rfl, X.ob, no_send, len1, fun c nc => ?_⟩
    have s1 := same_new (o := .tup [.str "cut"]) nc
    refine ⟨p, c, i, n, o, .cut, rfl, O.same s1, SqT.of upd_same, S, fun la H' O' L' x' => k la H' O' L' ((same_x X.ob s1).trans x')⟩
end
end Of

end

set_option Elab.async false
set_option linter.all false
set_option maxRecDepth 100000
set_option maxHeartbeats 4000000
namespace L4
open PySem PySem.Spec L2 L3
open PyProof.Rows hiding St

/-! ### an exception in flight: B holds all that was there when it was raised, but the frames -/
structure UnB (fs : List Addr) (H H' : Hp) (h B : Heap) : Prop where
  keep : ∀ b o, h.get? b = some o → H b = none → b ∉ fs → B.get? b = some o
  free : ∀ b o, h.get? b = some o → H b = none → H' b = none
  there : ∀ b o, h.get? b = some o → b ∉ fs → ∃ o', B.get? b = some o'
  tups : ∀ b xs, H b = some (.tup xs) → H' b = some (.tup xs)
  frzs : ∀ b o u, H b = some (.frz o u) → H' b = some (.frz o u)
  tbls : ∀ b ps, H b = some (.tbl ps) → ∃ more, H' b = some (.tbl (ps ++ more))
def SlF (fs : List Addr) (h h' : Heap) : Prop := ∀ b ∈ fs, ∀ o, h.get? b = some o → ∃ sl, h'.get? b = some { o with slots := sl }
def NoF (fs : List Addr) (h : Heap) : Prop := ∀ b ∈ fs, ∀ o, h.get? b = some o → ∀ vs, o.data ≠ .fields vs
theorem UnB.un {fs : List Addr} {H H' : Hp} {h B h' : Heap} (u : UnB fs H H' h B) (st : B.StaysIn h') (sl : SlF fs h h') : Un fs [] H H' h h' where
  keep := fun b o e n hb _ => st b o (u.keep b o e n hb)
  slot := fun b o e n hb _ => sl b hb o e
  free := fun b o e n _ => u.free b o e n
  there := fun b o e _ => by
    by_cases hb : b ∈ fs
    · obtain ⟨s, q⟩ := sl b hb o e
      exact ⟨_, q⟩
    · obtain ⟨o', q⟩ := u.there b o e hb
      exact ⟨o', st _ _ q⟩
  tups := u.tups
  frzs := u.frzs
  tbls := u.tbls
theorem SlF.up {fs : List Addr} {h h1 h2 : Heap} (x : SlF fs h h1) (n : NoF fs h) (u : h1.UpToSlots h2) : SlF fs h h2 := fun b hb o e => by
  obtain ⟨sl, q⟩ := x b hb o e
  obtain ⟨sl', q'⟩ := u b _ q (n b hb o e)
  exact ⟨sl', q'⟩
theorem noF_of {base h : Heap} {l : List Env} (f : h.FunFrames base l) : NoF (frs l) h := fun b hb o e vs => by
  obtain ⟨_, o', ho', hd⟩ := f.mem hb
  rw [e] at ho'
  cases ho'
  exact hd vs

/-- how an own exception lies behind a call -/
def CX1 (P : Program) (w : World) : CXT := fun outer H s E e s' =>
  ∃ (a C : Addr) (a0 : Value) (B : Heap) (H' : Hp), e = .ref a ∧ s'.os = s.os ∧ AllBare s'.gens ∧ Heap.FlyingW B outer a (.ref C) a0 s'.heap ∧ UnB (frs outer) H H' s.heap B ∧ SlF (frs outer) s.heap s'.heap ∧ HOk P w H' B ∧ E (.ref C) none H'
section
variable {X : Cx} {pins : List (Addr × Obj)} {σ : St} {H H' : Hp} {s : Shared} {B : Heap}
abbrev hidF (X : Cx) (s : Shared) : Heap := PySem.W.hideAll s.heap (frs X.stack)
theorem hid_stays : (hidF X s).StaysIn s.heap := fun _ _ q => PySem.W.of_hideAll _ q
theorem hid_frames (I : Inv X pins σ H s) : s.heap.FunFrames (hidF X s) X.stack := PySem.W.funFrames_hide I.stack fun env he a hf => List.mem_filterMap.mpr ⟨env, he, hf⟩
theorem hid_ok (I : Inv X pins σ H s) : HOk X.prog X.w H (hidF X s) := fun a o e => (I.hok a o e).stay (fun b u hb q => PySem.W.hideAll_get _ q fun m => by
  have z := I.stkFree b m
  rcases hb with rfl | hb
  · rw [e] at z; cases z
  · rw [hb] at z; cases z) (fun _ q => q) fun _ _ q => q
theorem not_stk (I : Inv X pins σ H s) {b : Addr} {o : Obj} (e : X.s₀.heap.get? b = some o) (hb : b ∉ X.fs) : b ∉ frs X.stack := fun m => by
  rcases List.mem_cons.mp (I.stkSub b m) with z | z
  · exact absurd z (Nat.ne_of_lt (Nat.lt_of_lt_of_le (Heap.lt_size e) I.ok.above))
  · exact hb z
theorem onB (I : Inv X pins σ H s) (hex : X.ex = []) (u : UnB (frs X.stack) H H' s.heap B) : UnB X.fs X.H₀ H' X.s₀.heap B := by
  have nx : ∀ b : Addr, b ∉ X.ex := fun b z => by rw [hex] at z; cases z
  refine ⟨fun b o e n hb => u.keep b o (I.base.keep b o e n hb (nx b)) (I.base.free b o e n (nx b)) (not_stk I e hb), fun b o e n => ?_, fun b o e hb => ?_, fun b xs e => u.tups b xs (I.base.tups b xs e), fun b o xs e => u.frzs b o xs (I.base.frzs b o xs e), fun b ps e => ?_⟩
  · obtain ⟨o', e'⟩ := I.base.there b o e (nx b)
    exact u.free b o' e' (I.base.free b o e n (nx b))
  · obtain ⟨o', e'⟩ := I.base.there b o e (nx b)
    exact u.there b o' e' (not_stk I e hb)
  · obtain ⟨m1, e1⟩ := I.base.tbls b ps e
    obtain ⟨m2, e2⟩ := u.tbls b _ e1
    exact ⟨m1 ++ m2, by rw [e2, Array.append_assoc]⟩
theorem hid_un (I : Inv X pins σ H s) : UnB (frs X.stack) H H s.heap (hidF X s) :=
  ⟨fun b o e _ hb => PySem.W.hideAll_get _ e hb, fun _ _ _ n => n, fun b o e hb => ⟨o, PySem.W.hideAll_get _ e hb⟩, fun _ _ e => e, fun _ _ _ e => e, fun b ps e => ⟨#[], by rw [e]; simp⟩⟩
theorem base_slots (I : Inv X pins σ H s) (hex : X.ex = []) : SlF X.fs X.s₀.heap s.heap := fun b hb o e => I.base.slot b o e (I.ok.frf b hb) hb (by rw [hex]; simp)
theorem SlF.trans {fs gs : List Addr} {h h1 h2 : Heap} (x : SlF fs h h1) (y : SlF gs h1 h2) (s : ∀ b ∈ fs, b ∈ gs) : SlF fs h h2 := fun b hb o e => by
  obtain ⟨sl, q⟩ := x b hb o e
  obtain ⟨sl', q'⟩ := y b (s b hb) _ q
  exact ⟨sl', q'⟩
end

/-! ### raising, and letting pass -/
def Throws (X : Cx) (C : Addr) (W : Hp → Prop) : Prop := ∀ (pins : List (Addr × Obj)) (σ : St) (H : Hp) (s : Shared) (h' : Heap) (e : Addr) (vs : List Value), Inv X pins σ H s → Heap.MadeExcOf s.heap h' e (.ref C) vs → W H → X.xe (.ref e) { s with heap := h' }
section
variable {P : Program} {w : World} {K : PySem.W.Frag} {mg : Str → Option Value} {base : Heap} {N : List Str} {qual : Str} {scope : Scope} {f : Addr} {cd : Value} {A : Around} {outer : List Env} {s0 : Shared} {H0 : Hp} {E : XK} {C : Addr}
theorem throws_cx : Throws (cxOf (CX1 P w) P w K mg base N qual scope f cd A outer s0 H0 E) C (fun H => E (.ref C) none H) := by
  intro pins σ H s h' e vs I hx q
  refine wpAny_leaves_madeW (base := hidF _ s) (h := s.heap) I.ok.frames rfl hid_stays (hid_frames I) hx fun h'' t x1 x2 x3 x4 => ?_
  refine ⟨e, C, .ref t, hidF _ s, H, rfl, I.os, I.bare, x1, onB I rfl (hid_un I), ?_, hid_ok I, q⟩
  exact SlF.up (base_slots I rfl) (noF_of I.ok.funs) ((Heap.UpToSlots.of_keeps hx.keeps).trans x4)
theorem pass1 : Passes (CX1 P w) (cxOf (CX1 P w) P w K mg base N qual scope f cd A outer s0 H0 E) E := by
  rintro pins σ H s e s' I ⟨a, C, a0, B, H', rfl, os, bare, fl, un, sl, hok, q⟩
  refine wpAny_leaves_onW I.ok.frames rfl fl fun h'' x1 x2 => ?_
  refine ⟨a, C, a0, B, H', rfl, os.trans I.os, bare, x1, onB I rfl un, ?_, hok, q⟩
  exact SlF.up (SlF.trans (base_slots I rfl) sl fun b hb => List.mem_filterMap.mpr (by
    obtain ⟨env, he, hf⟩ := List.mem_filterMap.mp hb
    exact ⟨env, List.mem_cons_of_mem _ he, hf⟩)) (noF_of I.ok.funs) x2
end
theorem pass10 {P : Program} {w : World} {X : Cx} : Passes (CX1 P w) X E0 := fun _ _ _ _ _ _ _ ⟨_, _, _, _, _, _, _, _, _, _, _, _, q⟩ => q.elim

/-! ### the class of an exception, in the text's own part of the heap -/
def excCls (K : PySem.W.Frag) (C D : Addr) : Bool := PySem.W.kitCls K (.ref C) (.ref D) == some true && PySem.W.subIn K (.ref D) (.type "BaseException") == some true
structure ExcOf (K : PySem.W.Frag) (C : Addr) : Prop where
  ok : PySem.W.excIn K C [.type "ValueError", .type "Exception", .type "BaseException", .type "object"] "ValueError.__new__" = true
theorem ExcOf.obj {K : PySem.W.Frag} {C : Addr} {h : Heap} (O : ExcOf K C) (X : K.In h) : ∃ bm N nm q bs hdct sn sub ab col dd k0 k1 k2 k3 k5 mN, h.get? C = some (excClassObj nm q C N bs bm hdct sn sub ab col dd k0 k1 k2 k3 k5 "ValueError.__new__") ∧ h.Ns N mN ∧ mN "__init__" = none ∧
    OwnTail h [.type "ValueError", .type "Exception", .type "BaseException", .type "object"] bm := by
  have z := O.ok
  unfold PySem.W.excIn at z
  split at z
  next dd cd sl ho =>
    split at z
    next C' bm k0 k1 k2 k3 n k5 hm hs =>
      simp only [Bool.and_eq_true, beq_iff_eq, Bool.not_eq_true'] at z
      obtain ⟨⟨⟨⟨⟨e1, e2⟩, hdel⟩, tl⟩, ok⟩, ni⟩ := z
      subst e1 e2
      obtain ⟨nm, bs, mro, ns, qn, hd, sn, sub, ab, col, del⟩ := cd
      obtain ⟨l⟩ := sl
      simp only at hm hs hdel ok ni
      subst hm hdel hs
      exact ⟨bm, ns, nm, qn, bs, hd, sn, sub, ab, col, dd, k0, k1, k2, k3, k5, _, X _ _ ho, .of_isNs (PySem.W.isNs_of_in X ok), PySem.W.nsMap_none_of_in X ok ni, PySem.W.tail_of_in X tl⟩
    next => cases z
  next => cases z

section
variable {X : Cx} {C : Addr}
def tRaise (W : Hp → Prop) (ta : TA) : TS := fun _ σ H => ta σ H fun vs H1 => vs.length ≤ sizeLine ∧ W H1
/-- raise C(e, ..) -/
theorem ps_raise {W : Hp → Prop} {x : Str} {np cpos pos : Pos} {e : Expr} {es : List Expr} {ta : TA} (hx : Throws X C W) (O : ExcOf X.K C) (hc : X.calm = true) (hm : X.mg x = some (.ref C)) (ha : PA X (e :: es) ta) (hg : glB X.env.scope x = true := by kernel_rfl)
    (h1 : isStar e = false := by rfl) (h2 : noStars es = true := by rfl) : PS X (.Raise (some (.Call (.Name x np) (e :: es) [] cpos)) none pos) (tRaise W ta) := by
  intro pins s σ H D I h
  obtain ⟨bm, N, nm, q, bs, hdct, sn, sub, ab, col, dd, k0, k1, k2, k3, k5, mN, hC, hN, hni, T⟩ := O.obj I.ok.mod.kin
  have st : starEach (e :: es) X.env = (false, eval e X.env) :: starEach es X.env := star_cons h1
  refine wpAny_Raise_call_subT (C := C) (nm := nm) (q := q) (N := N) (bs := bs) (bm := bm) (hdct := hdct) (sn := sn) (sub := sub) (ab := ab) (col := col) (dd := dd) (k0 := k0) (k1 := k1) (k2 := k2) (k3 := k3) (k5 := k5)
    PySem.F.excBase_ValueError (mN := mN) (T.hasType PySem.F.excBase_ValueError.hasBase) (I.ok.hd hc) (back_any (by simp [noStars, h1, h2])) hni (ld_glob I (gl_of hg).1 hm ⟨rfl, ?_⟩ (gl_of hg).2.2)
  have hh := ha cpos pins s σ H _ I h
  rw [st] at hh ⊢
  exact Calls.evalArgs_plain (wpAny_mono hh (fun vs s₂ ⟨xs, H1, I1, r, hl, w⟩ => ⟨rfl, by rw [← r.length]; exact hl, I1.bk _ _ hC, hN.keeps I1.bk, T.keeps I1.bk, fun h' e' hm' => hx pins σ H1 s₂ h' e' vs I1 hm' w⟩) fun _ _ y => y)
end

/-! ### except -/
theorem exc_match {K : PySem.W.Frag} {M : Model} {A : Around} {E : Value → Shared → Prop} {s : Shared} {e C D : Addr} {oe : Obj} {Q : Bool → Shared → Prop} (X : K.In s.heap) (he : s.heap.get? e = some oe) (hc : oe.cls = .ref C) (k : excCls K C D = true)
    (hq : Q true s) : wpAny M A (excMatches (.ref e) (.ref D)) Q E s := by
  obtain ⟨h, g, d, t, os⟩ := s
  unfold excCls at k
  rw [Bool.and_eq_true, beq_iff_eq, beq_iff_eq] at k
  obtain ⟨k1, k2, k3⟩ := PySem.W.kit_cls (M := M) X k.1
  have k4 := PySem.W.looks_subIn (M := M) X k.2
  have f := tc_notTuple
  unfold excMatches isExcClass isInstance
  repeat (first | (with_reducible refine wpAny_loadPart_at he ?_; rw [hc]) | with_reducible refine k1.at ?_ | with_reducible refine k2.at ?_ | with_reducible refine k3.at ?_ | with_reducible refine k4.at ?_ | wp_step)
  exact hq

section
variable {X : Cx}
/-- the body of a try -/
abbrev tryX (X : Cx) (pn : List (Addr × Obj)) (Ex : St → XK) : Cx := { X with pn := X.pn ++ pn, xe := fun e s' => ∃ pins σ H s, Inv X (pn ++ pins) σ H s ∧ CX1 X.prog X.w X.stack H s (Ex σ) e s' }
/-- an except suite -/
abbrev hush (X : Cx) (v : Value) : Cx := { X with A := X.A.mark (some v), calm := false, xe := fun _ _ => False }
section
variable {pins pn : List (Addr × Obj)} {Ex : St → XK} {σ : St} {H : Hp} {s : Shared} {v : Value}
theorem inv_try (I : Inv X (pn ++ pins) σ H s) : Inv (tryX X pn Ex) pins σ H s :=
  ⟨⟨I.ok.mod, I.ok.kind, I.ok.glob, I.ok.blt, I.ok.above, I.ok.inj, I.ok.has, I.ok.cab, I.ok.hd, I.ok.frames, I.ok.stk, I.ok.exf, I.ok.bs, I.ok.bsz, I.ok.noex, I.ok.exfs, I.ok.funs, I.ok.frf⟩, I.os, I.bare, I.base, I.loc, I.cell, I.free, I.freeC, fun p hp => I.pin p (by rw [← List.append_assoc]; exact hp), I.hok, I.len⟩
theorem of_try (I : Inv (tryX X pn Ex) pins σ H s) : Inv X (pn ++ pins) σ H s :=
  ⟨⟨I.ok.mod, I.ok.kind, I.ok.glob, I.ok.blt, I.ok.above, I.ok.inj, I.ok.has, I.ok.cab, I.ok.hd, I.ok.frames, I.ok.stk, I.ok.exf, I.ok.bs, I.ok.bsz, I.ok.noex, I.ok.exfs, I.ok.funs, I.ok.frf⟩, I.os, I.bare, I.base, I.loc, I.cell, I.free, I.freeC, fun p hp => I.pin p (by rw [← List.append_assoc] at hp; exact hp), I.hok, I.len⟩
theorem inv_hush (I : Inv X pins σ H s) : Inv (hush X v) pins σ H s :=
  ⟨⟨I.ok.mod, I.ok.kind, I.ok.glob, I.ok.blt, I.ok.above, I.ok.inj, I.ok.has, I.ok.cab, (fun z => by cases z), I.ok.frames, I.ok.stk, I.ok.exf, I.ok.bs, I.ok.bsz, I.ok.noex, I.ok.exfs, I.ok.funs, I.ok.frf⟩, I.os, I.bare, I.base, I.loc, I.cell, I.free, I.freeC, I.pin, I.hok, I.len⟩
theorem of_hush (hd : X.calm = true → X.A.handled = none) (I : Inv (hush X v) pins σ H s) : Inv X pins σ H s :=
  ⟨⟨I.ok.mod, I.ok.kind, I.ok.glob, I.ok.blt, I.ok.above, I.ok.inj, I.ok.has, I.ok.cab, hd, I.ok.frames, I.ok.stk, I.ok.exf, I.ok.bs, I.ok.bsz, I.ok.noex, I.ok.exfs, I.ok.funs, I.ok.frf⟩, I.os, I.bare, I.base, I.loc, I.cell, I.free, I.freeC, I.pin, I.hok, I.len⟩
theorem sp_try {D : Ends} {f : Flow} (h : SP (tryX X pn Ex) [] D f s) : SP X pn D f s := by
  have g : ∀ {σ H}, Inv (tryX X pn Ex) [] σ H s → Inv X pn σ H s := fun {σ H} I => by
    have := of_try I
    rwa [List.append_nil] at this
  cases f with
  | next => obtain ⟨σ, H, I, q⟩ := h; exact ⟨σ, H, g I, q⟩
  | brk => obtain ⟨σ, H, I, q⟩ := h; exact ⟨σ, H, g I, q⟩
  | cont => obtain ⟨σ, H, I, q⟩ := h; exact ⟨σ, H, g I, q⟩
  | ret u => obtain ⟨v, σ, H, I, r, q⟩ := h; exact ⟨v, σ, H, g I, r, q⟩
theorem sp_hush {D : Ends} {f : Flow} (hd : X.calm = true → X.A.handled = none) (h : SP (hush X v) pins D f s) : SP X pins D f s := by
  cases f with
  | next => obtain ⟨σ, H, I, q⟩ := h; exact ⟨σ, H, of_hush hd I, q⟩
  | brk => obtain ⟨σ, H, I, q⟩ := h; exact ⟨σ, H, of_hush hd I, q⟩
  | cont => obtain ⟨σ, H, I, q⟩ := h; exact ⟨σ, H, of_hush hd I, q⟩
  | ret u => obtain ⟨v, σ, H, I, r, q⟩ := h; exact ⟨v, σ, H, of_hush hd I, r, q⟩
end
/-- try: .. except D: .. -/
def tTry (K : PySem.W.Frag) (D : Addr) (tb : (St → XK) → TS) (th : TS) : TS := fun d σ H => tb (fun σ' c _ H' => ∃ C, c = .ref C ∧ excCls K C D = true ∧ th d σ' H') d σ H
theorem ps_try {body suite : List Stmt} {b₀ : Stmt} {x : Str} {D : Addr} {np hpos pos : Pos} {tb : (St → XK) → TS} {th : TS} (hm : X.mg x = some (.ref D)) (hb : ∀ pn Ex, PSs (tryX X pn Ex) body (tb Ex)) (hh : ∀ v, PSs (hush X v) (b₀ :: suite) th)
    (hst : X.stack = X.env :: X.outer := by rfl) (hfr : X.env.frame = some X.env.locals := by rfl) (hg : glB X.env.scope x = true := by kernel_rfl) :
    PS X (.Try body [.ExceptHandler (some (.Name x np)) none (b₀ :: suite) hpos] [] [] pos) (tTry X.K D tb th) := by
  intro pins s σ H d I h
  refine wpAny_Try_except ?_
  refine wpAny_mono (hb pins _ [] s σ H d (inv_try (by rw [List.append_nil]; exact I)) h) (fun f s1 q => ?_) fun e s' q => ?_
  · have q := sp_try q
    cases f with
    | next => exact wpAny_execs_nil q
    | brk => exact q
    | cont => exact q
    | ret u => exact q
  · obtain ⟨pins', σ', H1, s1, I1, a, C, a0, B, H', rfl, os, bare, fl, un, sl, hok, C', hC', mt, ht⟩ := q
    cases hC'
    have hf : X.A.frames = some (X.env :: X.outer) := by rw [← hst]; exact I.ok.frames
    have nf := noF_of I1.stack
    rw [hst] at fl
    have at_ : ∀ {h' : Heap}, Heap.FlyingW B (X.env :: X.outer) a (.ref C) a0 h' → s'.heap.UpToSlots h' → Inv X pins σ' H' { s' with heap := h' } := fun {h'} f u => by
      have J : Inv X (pins ++ pins') σ' H' { s' with heap := h' } := I1.call' (ch := []) os (un.un f.1 (sl.up nf u)) (hok.kept f.1) bare (fun _ z => nomatch z)
      exact J.pins_of fun p hp => J.pin p (List.mem_append_right _ (List.mem_append_left _ hp))
    refine wpAny_looks_onW hf hfr fl fun h4 fl4 up4 => wpAny_landsW fl4 fun h5 fl5 up5 => ?_
    have I5 := at_ fl5 (up4.trans up5)
    obtain ⟨ob, hob, hobc⟩ := fl5.there
    refine wpAny_handleBy_cons (codeAny_handlers_test (ld_glob (X := hush X (.ref a)) (inv_hush I5) (gl_of hg).1 hm ?_ (gl_of hg).2.2)) (by intro q; cases q)
    refine exc_match I5.kIn hob hobc mt (codeAny_handlers_suite (lands_againW fl5 fun h6 fl6 up6 => ?_))
    have I6 := at_ fl6 ((up4.trans up5).trans up6)
    exact wpAny_mono (hh (.ref a) pins _ σ' H' d (inv_hush I6) ht) (fun f s2 q => sp_hush I.ok.hd q) fun _ _ z => z.elim
end

/-! ### calls within a try -/
def PassesS (CX : CXT) (X : Cx) (Ex : St → XK) : Prop := ∀ (pins : List (Addr × Obj)) (σ : St) (H : Hp) (s : Shared) (e : Value) (s' : Shared), Inv X pins σ H s → CX X.stack H s (Ex σ) e s' → X.xe e s'
theorem passS {X : Cx} {pn : List (Addr × Obj)} {Ex : St → XK} : PassesS (CX1 X.prog X.w) (tryX X pn Ex) Ex := fun pins σ H s _ _ I h => ⟨pins, σ, H, s, of_try I, h⟩
section
variable {X : Cx} {CX : CXT} {k : Nat} {f C : Addr} {fd : FuncData} {ps : List Str} {sp : Sp} {dvs : List V} {ds : List Value} {Ex : St → XK} {x m : Str} {p pos apos : Pos} {e o : Expr} {es : List Expr} {ta : TE} {t : TA}
theorem run_fnX {pins : List (Addr × Obj)} {σ : St} {H : Hp} {s : Shared} {Q : VK} {us : List Value} {vs : List V} (F : FnOk X.prog X.w X.K X.mg X.base CX k f fd ps sp) (hr : Room k X.A) (hb : Binds X.K fd ps ds) (hd : Vals dvs ds) (hx : PassesS CX X Ex)
    (I : Inv X pins σ H s) (r : Vals vs us) (h : sp (vs ++ dvs) H Q (Ex σ)) : wpAny (model X.prog X.w) X.A (call (.ref f) us) (EP X pins σ Q) X.xe s := by
  have r2 : Vals (vs ++ dvs) (us ++ ds) := r.append hd
  have hl : (us ++ ds).length = ps.length := by rw [← r2.length]; exact F.len _ _ _ _ h
  refine wpAny_call (codeAny_mono (F.run X.A X.stack s H ⟨us, []⟩ (us ++ ds) (vs ++ dvs) Q (Ex σ) hr I.env0 (hb s us I.kIn hl) r2 h) fun r s' hq => ?_)
  cases r with
  | error e => exact hx pins σ H s e s' I hq
  | ok fl =>
    cases fl with
    | ret u => exact I.after hq
    | next => exact False.elim hq
    | brk => exact False.elim hq
    | cont => exact False.elim hq
def tMethX (C : Addr) (m : Str) (sp : Sp) (dvs : List V) (Ex : St → XK) (ta : TE) (t : TA) : TE := fun σ H Q => ta σ H fun x H1 => ∃ a dx fs, x = .ref a ∧ H1 a = some (.ins C dx fs) ∧ fs.lookup m = none ∧
  t σ H1 fun vs H2 => sp (x :: (vs ++ dvs)) H2 Q (Ex σ)
def tCallX (sp : Sp) (dvs : List V) (Ex : St → XK) (t : TA) : TE := fun σ H Q => t σ H fun vs H1 => sp (vs ++ dvs) H1 Q (Ex σ)
theorem pe_methX {pl : Sem Bool} (he : PE X o ta) (c : Cls X.K C) (hm : Meth X.K C m f) (F : FnOk X.prog X.w X.K X.mg X.base CX k f fd ps sp) (hr : Room k X.A) (hb : Binds X.K fd ps ds) (hd : Vals dvs ds) (hx : PassesS CX X Ex) (ha : PA X (e :: es) t)
    (h1 : isStar e = false := by rfl) (h2 : noStars es = true := by rfl)
    (ht : eval (.Call (.Attribute o m apos) (e :: es) [] pos) X.env = (do
      let ov ← eval o X.env
      standAt apos.atName
      let (f, first) ← holding [ov] (getMethod ov m pl)
      callWith pos f first (backTo pos (starEach (e :: es) X.env)) (backToKw pos (keywordEach [] X.env))) := by rfl) :
    PE X (.Call (.Attribute o m apos) (e :: es) [] pos) (tMethX C m sp dvs Ex ta t) := by
  intro pins s σ H Q I h
  refine PySem.W.methodCall_KW (pl := pl) (thn (he pins s σ H _ I h) fun u s1 ⟨x, H1, I1, rx, a, dx, fs, ex, ea, l, q⟩ => ?_) ht
  subst ex
  obtain rfl : u = Value.ref a := rx
  refine getmeth_ok I1 ea c hm l ?_
  refine PySem.W.callWith_K (first := [.ref a]) (h₀ := X.base) I.ok.mod.kin hm.kp (thn (ha pos pins s1 σ H1 _ I1 q) fun us s2 ⟨vs, H2, I2, r, q2⟩ => ⟨I2.kIn, ?_⟩) (star_cons h1) (back_any h2)
  exact run_fnX (us := .ref a :: us) (vs := .ref a :: vs) F hr hb hd hx I2 (.cons rfl r) q2
theorem cFX (F : FnOk X.prog X.w X.K X.mg X.base CX k f fd ps sp) (hr : Room k X.A) (hm : X.mg x = some (.ref f)) (hk : PySem.W.keepIn X.K (.ref f) = true) (hb : Binds X.K fd ps ds) (hd : Vals dvs ds) (hx : PassesS CX X Ex) (ha : PA X (e :: es) t) (hg : glB X.env.scope x = true := by kernel_rfl)
    (h1 : isStar e = false := by rfl) (h2 : noStars es = true := by rfl) : PE X (.Call (.Name x p) (e :: es) [] pos) (tCallX sp dvs Ex t) := by
  intro pins s σ H Q I h
  refine wpAny_Call_Name_kw (ld_glob I (gl_of hg).1 hm ?_ (gl_of hg).2.2)
  refine PySem.W.callWith_K (h₀ := X.base) I.ok.mod.kin hk (thn (ha pos pins s σ H _ I h) fun us s1 ⟨vs, H1, I1, r, q⟩ => ⟨I1.kIn, ?_⟩) (star_cons h1) (back_any h2)
  exact run_fnX F hr hb hd hx I1 r q
end
/-- a def that lets exceptions out, its body written as a list of its statements -/
theorem okB1 {P : Program} {w : World} {K : PySem.W.Frag} {mg : Str → Option Value} {base : Heap} {x qual : Str} {st : Stmt} {f : Addr} {fd : FuncData} {N ps : List Str} {k : Nat} {sp : Sp} {body : List Stmt} (F : Fun K x qual st f fd) (S : FnScope N ps (defScope st)) (len : ∀ vs H Q E, sp vs H Q E → vs.length = ps.length)
    (hb : defBody st = body)
    (hbody : ∀ (cdv : Value) (A : Around) (outer : List Env) (s : Shared) (H : Hp) (vs : List V) (Q : VK) (E : XK), Room k (A.deeper (envOfC qual (defScope st) s.heap.objs.size f cdv)) → sp vs H Q E →
      ∃ t, PSs (cxOf (CX1 P w) P w K mg base N qual (defScope st) f cdv A outer s H E) body t ∧ t { nx := fun _ H' => Q .non H', rt := Q } (L2.start N vs) H) : FnOk P w K mg base (CX1 P w) (k + 1) f fd ps sp := by
  obtain ⟨oc, od, kV, doc, pm, an, cdv, ct, osl, rfl, lk, hcd⟩ := F.ex
  refine fn_of lk hcd S len fun A outer s H vs Q E hr hsp => ?_
  rw [hb]
  exact hbody cdv A outer s H vs Q E hr hsp
theorem PS.nox {X : Cx} {st : Stmt} {t : TS} (h : PS X.nox st t) : PS X st t := fun pins s σ H D I hw =>
  wpAny_mono (h pins s σ H D (I.wish _) hw) (fun _ _ q => q.unwish) fun _ _ z => False.elim z
end L4

section
set_option Elab.async false
set_option linter.all false
set_option maxRecDepth 100000
set_option maxHeartbeats 4000000
seal L2.PE L2.PT L2.PW L2.PA L2.PS L2.PSs L2.PG L2.PGs L2.PI L3.PTs L2.PO L2.CallR L2.OpR L2.IxR L2.MtR L2.PSet L2.SlR
namespace Of
open PySem L2 L3 L4
/-! ### paying -/
def canPay (o : Off) : What → Bool
  | .pay _ m => decide (m ≤ o.coins)
  | .cut => true
def payO (o : Off) : What → Off
  | .pay _ m => { o with coins := o.coins - m }
  | .cut => o
/-- the classes of the refusals -/
structure Exs (K : PySem.W.Frag) (mg : Str → Option Value) (CP CE : Addr) : Prop where
  poor : mg "Poor" = some (.ref CP)
  post : mg "PostError" = some (.ref CE)
  oP : ExcOf K CP
  pp : excCls K CP CP = true
  pe : excCls K CP CE = true
def spPay (K : PySem.W.Frag) (C CP : Addr) : Sp := fun vs H Q E => ∃ (p : Addr) (i n : Nat) (o : Off) (to many : Int), vs = [.ref p, .int to, .int many] ∧ OffAt K C H p o ∧ Sends i n o ∧
  (o.coins < many → E (.ref CP) none H) ∧ (many ≤ o.coins → ∀ (la : Addr) (H' : Hp), OffAt K C H' p (sentO { o with coins := o.coins - many } i (.pay to many)) → LetAt K H' la (sentL o i (.pay to many)) → SameX p H H' → Q (.ref la) H')
def spSentOr (K : PySem.W.Frag) (C : Addr) : Sp := fun vs H Q _ => ∃ (p c : Addr) (i n : Nat) (o : Off) (wh : What), vs = [.ref p, .ref c] ∧ OffAt K C H p o ∧ WhatAt K H c wh ∧ Sends i n o ∧
  (canPay o wh = true → ∀ (la : Addr) (H' : Hp), OffAt K C H' p (sentO (payO o wh) i wh) → LetAt K H' la (sentL o i wh) → SameX p H H' → Q (.ref la) H') ∧ (canPay o wh = false → Q .non H)
theorem no_pay {n c : Int} {cl lb lt lk : Addr} : (flds n c cl lb lt lk).lookup ("pay" : Str) = none := by kernel_rfl
theorem no_cut {n c : Int} {cl lb lt lk : Addr} : (flds n c cl lb lt lk).lookup ("cut" : Str) = none := by kernel_rfl
section
variable {P : Program} {w : World} {K : PySem.W.Frag} {mg : Str → Option Value} {base : Heap} {C fN fT fC fR fF fO CP CE : Addr}
theorem oPy : ownB ["self", "to", "many"] (defScope sPay) = true := by decide +kernel
theorem scPy : FnScope ["self", "to", "many"] ["self", "to", "many"] (defScope sPay) := ⟨rfl, rfl, rfl, by decide +kernel, rfl, by decide +kernel, by decide +kernel⟩
theorem ok_pay {f fS : Addr} {fd fdS : FuncData} (F : Fun K "pay" "Office.pay" sPay f fd) (T : Txt K mg C fN fT fC fR fF fO) (Z : Exs K mg CP CE) (bS : Binds K fdS ["self", "what"] []) (mS : Meth K C "send" fS) (GS : FnOk P w K mg base CX0 3 fS fdS ["self", "what"] (spSend K C)) :
    FnOk P w K mg base (CX1 P w) 4 f fd ["self", "to", "many"] (spPay K C CP) := by
  refine okB1 (body := [stm sPay 0, stm sPay 1, stm sPay 2]) F scPy (fun vs H Q E h => ?_) (by kernel_rfl) (fun cdv A outer s0 H vs Q E hr h => ?_)
  · obtain ⟨p, i, n, o, to, many, rfl, _⟩ := h
    rfl
  · obtain ⟨p, i, n, o, to, many, rfl, O, S, kE, kQ⟩ := h
    obtain ⟨dx, cl, lb, lt, lk, bs, ts, ks, X⟩ := O.x
    refine ⟨_, (pss_cons (ps_if (pt_cmpR op_lt (pe_fld (oV oPy 0) rfl) (oV oPy 2) (nomark _)) (pss_one (ps_raise throws_cx Z.oP rfl Z.poor (aC pe_str pa_nil))) pss_nil)
      (pss_cons (ps_fld (oV oPy 0) (pe_op op_sub (pe_fld (oV oPy 0) rfl) (oV oPy 2)) rfl)
      (pss_one (ps_ret (pe_meth (oV oPy 0) T.cl mS GS hr bS .nil pass0 (aC (pe_tup (aC pe_str (aC (oV oPy 1) (aC (oV oPy 2) pa_nil)))) pa_nil)))))), ?_⟩
    refine ⟨_, rfl, p, C, dx, _, _, rfl, X.ob, T.cl, T.nC, at_coins, _, rfl, _, _, rfl, rfl, _, rfl, ite2 (fun hlt => ?_) (fun hge => ?_)⟩
    · exact ⟨len1, kE (of_decide_eq_true hlt)⟩
    · have hge : many ≤ o.coins := by
        have : ¬ o.coins < many := fun z => hge (decide_eq_true z)
        omega
      refine ⟨_, rfl, p, C, dx, _, _, rfl, X.ob, T.cl, T.nC, at_coins, _, rfl, _, _, rfl, rfl, _, rfl, p, C, dx, _, rfl, X.ob, T.cl, T.nC, few6, ?_⟩
      have X1 := X.setCoins (o.coins - many)
      have x1 := sx_coins (c := o.coins - many) X (same_x X.ob (Same.refl H))
      refine ⟨_, rfl, p, dx, _, rfl, X1.ob, no_send, _, rfl, _, rfl, len3, fun c nc => ?_⟩
      have s2 := same_new (o := .tup [.str "pay", .int to, .int many]) nc
      exact ⟨p, c, i, n, _, .pay to many, rfl, X1.at_.same s2, SqT.of upd_same, ⟨S.num, S.lt, S.cl, S.n1, S.nb, S.nk⟩, fun la H' O' L' x' => kQ hge la H' O' L' ((x1.trans (same_x X1.ob s2)).trans x')⟩
theorem oSn : ownB ["office", "what"] (defScope sSentOr) = true := by decide +kernel
theorem scSn : FnScope ["office", "what"] ["office", "what"] (defScope sSentOr) := ⟨rfl, rfl, rfl, by decide +kernel, rfl, by decide +kernel, by decide +kernel⟩
theorem ok_sentor {f fC' fP : Addr} {fd fdC fdP : FuncData} (F : Fun K "sent_or_none" "sent_or_none" sSentOr f fd) (T : Txt K mg C fN fT fC fR fF fO) (Z : Exs K mg CP CE) (bC : Binds K fdC ["self"] []) (mC : Meth K C "cut" fC') (GC : FnOk P w K mg base CX0 4 fC' fdC ["self"] (spCut K C))
    (bP : Binds K fdP ["self", "to", "many"] []) (mP : Meth K C "pay" fP) (GP : FnOk P w K mg base (CX1 P w) 4 fP fdP ["self", "to", "many"] (spPay K C CP)) : FnOk P w K mg base CX0 5 f fd ["office", "what"] (spSentOr K C) := by
  refine okB (body := [stm sSentOr 0, stm sSentOr 1]) F scSn (fun vs H Q E h => ?_) (by kernel_rfl) (fun cdv A outer s0 H vs Q E hr h => ?_)
  · obtain ⟨p, c, i, n, o, wh, rfl, _⟩ := h
    rfl
  · obtain ⟨p, c, i, n, o, wh, rfl, O, W, S, kY, kN⟩ := h
    obtain ⟨dx, cl, lb, lt, lk, bs, ts, ks, X⟩ := O.x
    refine ⟨_, (pss_cons (ps_if (pt_cmpR op_eq (iX (ixT K) (oV oSn 1) pe_int) pe_str (nomark _)) (pss_one (ps_ret (pe_meth0 (oV oSn 0) T.cl mC GC hr bC .nil pass0))) pss_nil)
      (pss_one (ps_try Z.poor (fun pn Ex => pss_one (ps_ret (pe_methX (oV oSn 0) T.cl mP GP hr bP .nil passS (aC (iX (ixT K) (oV oSn 1) pe_int) (aC (iX (ixT K) (oV oSn 1) pe_int) pa_nil))))) (fun v => pss_one (ps_ret pe_non))))), ?_⟩
    cases wh with
    | cut =>
      refine ⟨_, rfl, c, _, 0, _, rfl, rfl, (show SqT K H c [.str "cut"] from W), rfl, rfl, _, rfl, ?_⟩
      refine iteT ⟨_, rfl, p, dx, _, rfl, X.ob, no_cut, p, i, n, o, rfl, O, S, fun la H' O' L' x' => kY rfl la H' O' L' x'⟩
    | pay to many =>
      have W : SqT K H c [.str "pay", .int to, .int many] := W
      refine ⟨_, rfl, c, _, 0, _, rfl, rfl, W, rfl, rfl, _, rfl, ?_⟩
      rw [show decide (V.str "pay" = V.str "cut") = false by decide +kernel]
      refine iteF ⟨_, rfl, p, dx, _, rfl, X.ob, no_pay, _, rfl, c, _, 1, _, rfl, rfl, W, rfl, _, rfl, c, _, 2, _, rfl, rfl, W, rfl, p, i, n, o, to, many, rfl, O, S, fun hlt => ?_, fun hge la H' O' L' x' => ?_⟩
      · exact ⟨CP, rfl, Z.pp, kN (decide_eq_false (by omega))⟩
      · exact kY (decide_eq_true hge) la H' O' L' x'
end
end Of

end

section
set_option Elab.async false
set_option linter.all false
set_option maxRecDepth 100000
set_option maxHeartbeats 4000000
seal L2.PE L2.PT L2.PW L2.PA L2.PS L2.PSs L2.PG L2.PGs L2.PI L3.PTs L2.PO L2.CallR L2.OpR L2.IxR L2.MtR L2.PSet L2.SlR
namespace Of
open PySem L2 L3 L4
/-! ### several things sent, one after the other -/
def sent1 (i : Nat) (o : Off) (w : What) : Option Let × Off := if canPay o w = true then (some (sentL o i w), sentO (payO o w) i w) else (none, o)
def sentAll (i : Nat) (o : Off) : List What → List (Option Let) × Off
  | [] => ([], o)
  | w :: ws => ((sent1 i o w).1 :: (sentAll i (sent1 i o w).2 ws).1, (sentAll i (sent1 i o w).2 ws).2)
theorem sentAll_snoc {i : Nat} : ∀ (ws : List What) (o : Off) (w : What), sentAll i o (ws ++ [w]) = ((sentAll i o ws).1 ++ [(sent1 i (sentAll i o ws).2 w).1], (sent1 i (sentAll i o ws).2 w).2)
  | [], o, w => rfl
  | v :: ws, o, w => by
    simp only [List.cons_append, sentAll, sentAll_snoc ws (sent1 i o v).2 w]
theorem sentAll_len {i : Nat} : ∀ (ws : List What) (o : Off), (sentAll i o ws).1.length = ws.length
  | [], o => rfl
  | v :: ws, o => by simp only [sentAll, List.length_cons, sentAll_len ws]
def optD : Option Let → PyData
  | none => .none
  | some l => letD l
theorem noList_opts : ∀ ls : List (Option Let), noLists (ls.map optD) = true
  | [] => rfl
  | none :: ls => by simp only [List.map_cons, noLists, optD, noList, Bool.true_and]; exact noList_opts ls
  | some l :: ls => by simp only [List.map_cons, noLists, optD, noList_let, Bool.true_and]; exact noList_opts ls
theorem noList_what (w : What) : noList (whatD w) = true := by cases w <;> rfl
theorem noList_whats : ∀ ws : List What, noLists (ws.map whatD) = true
  | [] => rfl
  | w :: ws => by simp only [List.map_cons, noLists, noList_what, Bool.true_and]; exact noList_whats ws
theorem whatAt_iff {K : PySem.W.Frag} {H : Hp} {w : What} {v : V} : RepD K H (whatD w) v ↔ ∃ c, v = .ref c ∧ WhatAt K H c w := by
  cases w with
  | pay t m =>
    simp only [whatD, RepD, RepDs]
    constructor
    · rintro ⟨c, zs, rfl, h, y1, q1, rfl, rfl, y2, q2, rfl, rfl, y3, q3, rfl, rfl, rfl⟩
      exact ⟨c, rfl, h⟩
    · rintro ⟨c, rfl, h⟩
      exact ⟨c, _, rfl, h, _, _, rfl, rfl, _, _, rfl, rfl, _, _, rfl, rfl, rfl⟩
  | cut =>
    simp only [whatD, RepD, RepDs]
    constructor
    · rintro ⟨c, zs, rfl, h, y1, q1, rfl, rfl, rfl⟩
      exact ⟨c, rfl, h⟩
    · rintro ⟨c, rfl, h⟩
      exact ⟨c, _, rfl, h, _, _, rfl, rfl, rfl⟩
structure SendB (i n k : Nat) (o : Off) : Prop where
  num : o.num = (i : Int)
  lt : i < n
  cl : o.clock.length = n
  n1 : n ≤ 1000
  nb : o.book.length ≤ k
  nk : o.kept.length ≤ k
theorem SendB.s {i n k : Nat} {o : Off} (h : SendB i n k o) (hk : k ≤ 90000) : Sends i n o := ⟨h.num, h.lt, h.cl, h.n1, Nat.le_trans h.nb hk, Nat.le_trans h.nk hk⟩
theorem payO_book (o : Off) (w : What) : (payO o w).book = o.book ∧ (payO o w).kept = o.kept ∧ (payO o w).clock = o.clock ∧ (payO o w).num = o.num ∧ (payO o w).tray = o.tray := by cases w <;> exact ⟨rfl, rfl, rfl, rfl, rfl⟩
theorem sent1_b {i n k : Nat} {o : Off} {w : What} (h : SendB i n k o) : SendB i n (k + 1) (sent1 i o w).2 := by
  have hn := h.num
  have hb := h.nb
  have hk := h.nk
  unfold sent1
  split
  · obtain ⟨e1, e2, e3, e4, e5⟩ := payO_book o w
    refine ⟨e4.trans hn, h.lt, ?_, h.n1, ?_, ?_⟩
    · show (inc (payO o w).clock i).length = n
      unfold inc; rw [List.length_set, e3]; exact h.cl
    · show ((payO o w).book ++ [_]).length ≤ k + 1
      rw [List.length_append, e1]; exact Nat.succ_le_succ hb
    · show (if _ then (payO o w).kept ++ [_] else (payO o w).kept : List PyData).length ≤ k + 1
      split
      · rw [List.length_append, e2]; exact Nat.succ_le_succ hk
      · rw [e2]; omega
  · exact ⟨hn, h.lt, h.cl, h.n1, Nat.le_succ_of_le hb, Nat.le_succ_of_le hk⟩
theorem sentAll_b {i n : Nat} : ∀ (ws : List What) {k : Nat} {o : Off}, SendB i n k o → SendB i n (k + ws.length) (sentAll i o ws).2
  | [], k, o, h => h
  | w :: ws, k, o, h => by
    have := sentAll_b ws (sent1_b (w := w) h)
    rw [List.length_cons]
    simp only [sentAll]
    rwa [show k + (ws.length + 1) = k + 1 + ws.length by omega]
def spSentBy (K : PySem.W.Frag) (C : Addr) : Sp := fun vs H Q _ => ∃ (p la : Addr) (i n k : Nat) (o : Off) (ws : List What) (xs : List V), vs = [.ref p, .ref la] ∧ OffAt K C H p o ∧ SqL K H la xs ∧ RepDs K H (ws.map whatD) xs ∧ SendB i n k o ∧ k + ws.length ≤ 900 ∧
  ∀ (q : Addr) (ys : List V) (H' : Hp), OffAt K C H' p (sentAll i o ws).2 → H q = none → H' q = some (.lst ys) → RepDs K H' ((sentAll i o ws).1.map optD) ys → ¬ Refs (H' p) q → SameX p H H' → Q (.ref q) H'
section
variable {P : Program} {w : World} {K : PySem.W.Frag} {mg : Str → Option Value} {base : Heap} {C fN fT fC fR fF fO : Addr}
theorem oSb : ownB ["office", "whats", "letters", "what"] (defScope sSentBy) = true := by decide +kernel
theorem scSb : FnScope ["office", "whats", "letters", "what"] ["office", "whats"] (defScope sSentBy) := ⟨rfl, rfl, rfl, by decide +kernel, rfl, by decide +kernel, by decide +kernel⟩
theorem ok_sentby {f fS : Addr} {fd fdS : FuncData} (F : Fun K "sent_by" "sent_by" sSentBy f fd) (mS : mg "sent_or_none" = some (.ref fS)) (FS : Fun K "sent_or_none" "sent_or_none" sSentOr fS fdS) (bS : Binds K fdS ["office", "what"] []) (GS : FnOk P w K mg base CX0 5 fS fdS ["office", "what"] (spSentOr K C)) :
    FnOk P w K mg base CX0 6 f fd ["office", "whats"] (spSentBy K C) := by
  refine okB (body := [stm sSentBy 0, stm sSentBy 1, stm sSentBy 2]) F scSb (fun vs H Q E h => ?_) (by kernel_rfl) (fun cdv A outer s0 H vs Q E hr h => ?_)
  · obtain ⟨p, la, i, n, k, o, ws, xs, rfl, _⟩ := h
    rfl
  · obtain ⟨p, la, i, n, kk, o, ws, xs, rfl, O, hla, hxs, S, hsz, k⟩ := h
    obtain ⟨dx0, cl0, lb0, lt0, lk0, bs0, ts0, ks0, X⟩ := O.x
    have hlen : xs.length = ws.length := by rw [reps_len hxs, List.length_map]
    refine ⟨_, (pss_cons (oS oSb 2 (pe_lst pa_nil))
      (pss_cons (ps_for PassesOwn.never rfl (pi_list (oV oSb 1)) (oT oSb 3)
        (pss_one (ps_expr (mApp (oV oSb 2) (cF GS hr mS FS.kp bS .nil pass0 (aC (oV oSb 0) (aC (oV oSb 3) pa_nil)))))))
      (pss_one (ps_ret (oV oSb 2))))), ?_⟩
    refine ⟨len0, fun q nq => ?_⟩
    have sq := same_new (o := .lst []) nq
    have Xq := X.same sq
    have nr : ¬ Refs ((upd H q (.lst [])) p) q := fun z => by
      rw [Xq.ob, refs_flds] at z
      rcases z with z | z | z
      · rw [z, X.hb] at nq; cases nq
      · rw [z, X.ht] at nq; cases nq
      · rw [z, X.hk] at nq; cases nq
    refine ⟨_, rfl, la, rfl, ⟨_, sq.seq hla⟩, for_list (K := K) (a := la) (xs := xs) (fun j σ Hc => ∃ (v : Option V) (ys : List V), σ = [some (.ref p), some (.ref la), some (.ref q), v] ∧ OffAt K C Hc p (sentAll i o (ws.take j)).2 ∧ Hc q = some (.lst ys) ∧ RepDs K Hc ((sentAll i o (ws.take j)).1.map optD) ys ∧ ¬ Refs (Hc p) q ∧ SameX p H Hc)
      ⟨none, [], rfl, O.same sq, upd_same, rfl, nr, same_x X.ob sq⟩ (fun j σ Hc _ ⟨v, ys, _, _, _, _, _, sx⟩ => sx.seq X.ob hla) ?_ ?_⟩
    · rintro j y σ Hc hj ⟨v, ys, rfl, Oc, hq, ha, nrc, sx⟩
      have hj' : j < ws.length := by have := (List.getElem?_eq_some_iff.mp hj).1; omega
      obtain ⟨x', hx', rx⟩ := reps_get hxs (i := j) (d := whatD ws[j]) (by rw [List.getElem?_map, List.getElem?_eq_getElem hj']; rfl)
      rw [hj] at hx'
      cases hx'
      obtain ⟨b, rfl, W⟩ := whatAt_iff.mp rx
      obtain ⟨dxc, clc, lbc, ltc, lkc, bsc, tsc, ksc, Xc⟩ := Oc.x
      have kb := sentAll_b (ws.take j) S
      have hlt : (ws.take j).length = j := by rw [List.length_take]; omega
      have alen := reps_len ha
      rw [List.length_map, sentAll_len, hlt] at alen
      have etake : ws.take (j + 1) = ws.take j ++ [ws[j]] := by rw [List.take_succ, List.getElem?_eq_getElem hj']; rfl
      have fin : ∀ (u : V) (H3 : Hp), OffAt K C H3 p (sent1 i (sentAll i o (ws.take j)).2 ws[j]).2 → RepD K H3 (optD (sent1 i (sentAll i o (ws.take j)).2 ws[j]).1) u → SameX p Hc H3 → H3 q = some (.lst ys) ∧
          ∃ (v : Option V) (zs : List V), [some (V.ref p), some (.ref la), some (.ref q), some (.ref b)] = [some (.ref p), some (.ref la), some (.ref q), v] ∧ OffAt K C (upd H3 q (.lst (ys ++ [u]))) p (sentAll i o (ws.take (j + 1))).2 ∧ (upd H3 q (.lst (ys ++ [u]))) q = some (.lst zs) ∧ RepDs K (upd H3 q (.lst (ys ++ [u]))) ((sentAll i o (ws.take (j + 1))).1.map optD) zs ∧ ¬ Refs ((upd H3 q (.lst (ys ++ [u]))) p) q ∧ SameX p H (upd H3 q (.lst (ys ++ [u]))) := fun u H3 O3 r3 x3 => by
        have hq3 : H3 q = some (.lst ys) := x3.lst Xc.ob hq
        obtain ⟨dx3, cl3, lb3, lt3, lk3, bs3, ts3, ks3, X3⟩ := O3.x
        have nrq : ¬ Refs (H3 p) q := fun z => (x3.refs q z).elim nrc (fun z => by rw [hq] at z; cases z)
        rw [X3.ob, refs_flds] at nrq
        have X4 := X3.other (b := q) (ys := ys ++ [u]) hq3 (fun e => nrq (.inl e)) (fun e => nrq (.inr (.inl e))) (fun e => nrq (.inr (.inr e)))
        have nqp : p ≠ q := (lst_ne hq3 X3.ob).symm
        have i4 := imm_lst (ys := ys ++ [u]) hq3
        refine ⟨hq3, _, ys ++ [u], rfl, by rw [etake, sentAll_snoc]; exact X4.at_, upd_same, ?_, ?_, ?_⟩
        · rw [etake, sentAll_snoc, List.map_append]
          refine RepDs.imm i4 _ _ (by rw [← List.map_append]; exact noList_opts _) (reps_append (RepDs.imm (x3.imm Xc.ob) _ _ (noList_opts _) ha) (reps_one r3))
        · rw [upd_ne nqp, X3.ob, refs_flds]; exact nrq
        · have z := sx.trans x3
          refine ⟨fun b' u hb' nb' => ?_, fun b' hb' => ?_, z.here⟩
          · have : b' ≠ q := fun e => by rw [e, nq] at hb'; cases hb'
            rw [upd_ne this]; exact z.keep b' u hb' nb'
          · rw [upd_ne nqp] at hb'; exact z.refs b' hb'
      refine ⟨_, rfl, .inl ⟨rfl, _, SqL.of hq⟩, _, rfl, _, rfl, p, b, i, n, _, ws[j], rfl, Oc, W.imm (sx.imm X.ob), kb.s (by omega), fun hc la' H3 O3 L3 x3 => ?_, fun hc => ?_⟩
      · have e1 : sent1 i (sentAll i o (ws.take j)).2 ws[j] = (some (sentL (sentAll i o (ws.take j)).2 i ws[j]), sentO (payO (sentAll i o (ws.take j)).2 ws[j]) i ws[j]) := if_pos hc
        obtain ⟨f1, f2⟩ := fin (.ref la') H3 (by rw [e1]; exact O3) (by rw [e1]; exact letAt_iff.mpr ⟨la', rfl, L3⟩) x3
        exact ⟨q, _, _, rfl, rfl, f1, by exact small1000 (by omega), f2⟩
      · have e1 : sent1 i (sentAll i o (ws.take j)).2 ws[j] = (none, (sentAll i o (ws.take j)).2) := if_neg (by rw [hc]; exact Bool.false_ne_true)
        obtain ⟨f1, f2⟩ := fin .non Hc (by rw [e1]; exact Oc) (by rw [e1]; show RepD K Hc .none .non; simp only [RepD]) (same_x Xc.ob (Same.refl Hc))
        exact ⟨q, _, _, rfl, rfl, f1, by exact small1000 (by omega), f2⟩
    · rintro σ Hc ⟨v, ys, rfl, Oc, hq, ha, nrc, sx⟩
      rw [hlen, List.take_length] at Oc ha
      exact ⟨_, rfl, k q ys Hc Oc nq hq ha nrc sx⟩
end
end Of

end

set_option Elab.async false
set_option linter.all false
set_option maxRecDepth 100000
set_option maxHeartbeats 4000000
namespace L5
open PySem PySem.Spec L2 L3
open PyProof.Rows hiding St
open PySem.SeqAt PySem.MeetsSeq
open PySem.AutoSeq1 (wpAny_loadPart')
/-! ### xs.remove(x), xs of data -/
theorem rem_loop (l : Addr) (its : Array Value) (n : Nat) (x : Value) (e : Value → Bool) (j : Nat) (hj : j < its.size) (hit : e its[j] = true) (hz : its.size ≤ sizeLine) (k : Nat) :
    ∀ i : Nat, j - i = k → i ≤ j → (∀ m (hm : m < its.size), i ≤ m → m < j → e its[m] = false) → Meets (Builtin.«list.remove.loop» ⟨[.ref l, x, rawInt i], []⟩)
      (fun A R s => s.heap.get? l = some { cls := .type "list", dict := none, data := .seq its n, slots := #[] } ∧ (∀ y, y ∈ its → EqAt A.in1 s y x (e y)) ∧ R (.ok (.ret .none)) { s with heap := s.heap.update l (Obj.mapSeq fun xs => xs.eraseIdxIfInBounds j) }) := by
  induction k with
  | zero =>
    intro i hk hij hno prog w A R s h
    obtain ⟨hp, g, d, tk, os⟩ := s
    obtain ⟨hl, he, h⟩ := h
    obtain rfl : i = j := by omega
    wp_walk using wpAny_loadPart' hl
    have at_i : its[((i : Nat) : Int).toNat]? = some its[i] := by simp [hj]
    rw [at_i]
    refine wpAny_bind (he _ (Array.getElem_mem hj) prog w _ _ ?_)
    rw [hit]
    have hz' : (its.eraseIdxIfInBounds i).size ≤ sizeLine + 1 := Nat.le_trans (size_erased its _) (Nat.le_succ_of_le hz)
    wp_walk using (wpAny_updateSeq hl rfl (hz := hz) (_hz' := hz')), wpAny_loadPart' hl
    simpa using h
  | succ k ih =>
    intro i hk hij hno prog w A R s h
    obtain ⟨hp, g, d, tk, os⟩ := s
    obtain ⟨hl, he, h⟩ := h
    have hi' : i < its.size := by omega
    wp_walk using wpAny_loadPart' hl
    have at_i : its[((i : Nat) : Int).toNat]? = some its[i] := by simp [hi']
    have one : ((i : Int) + 1) = ((i + 1 : Nat) : Int) := rfl
    rw [at_i]
    refine wpAny_bind (he _ (Array.getElem_mem hi') prog w _ _ ?_)
    rw [hno i hi' (Nat.le_refl _) (by omega)]
    wp_walk
    rw [one]
    refine ⟨plainId_quiet plain_remove_loop _, codeAny_builtin entry_remove_loop ?_⟩
    rw [Around.under_plainId plain_remove_loop _]
    exact ih (i + 1) (by omega) (by omega) (fun m hm h1 h2 => hno m hm (by omega) h2) prog w A R _ ⟨hl, he, h⟩
theorem rem_list (l : Addr) (its : Array Value) (n : Nat) (x : Value) (e : Value → Bool) (j : Nat) (hj : j < its.size) (hit : e its[j] = true) (hno : ∀ m (hm : m < its.size), m < j → e its[m] = false) (hz : its.size ≤ sizeLine) :
    Meets (Builtin.«list.remove» ⟨[.ref l, x], []⟩)
      (fun A R s => s.heap.get? l = some { cls := .type "list", dict := none, data := .seq its n, slots := #[] } ∧ (∀ y, y ∈ its → EqAt A.in1 s y x (e y)) ∧ R (.ok (.ret .none)) { s with heap := s.heap.update l (Obj.mapSeq fun xs => xs.eraseIdxIfInBounds j) }) := by
  intro prog w A R s h
  obtain ⟨hp, g, d, tk, os⟩ := s
  obtain ⟨hl, he, h⟩ := h
  wp_walk using wpAny_loadPart' hl
  refine ⟨plainId_quiet plain_remove_loop _, codeAny_builtin entry_remove_loop ?_⟩
  rw [Around.under_plainId plain_remove_loop _]
  exact rem_loop l its n x e j hj hit hz _ 0 rfl (Nat.zero_le _) (fun m hm _ h2 => hno m hm h2) prog w A R _ ⟨hl, he, h⟩
section
variable {X : Cx}
def rRemove (K : PySem.W.Frag) (n : Nat) : V → List V → Hp → VK → Prop := fun x vs H Q => ∃ l xs y ds d j, x = .ref l ∧ vs = [y] ∧ H l = some (.lst xs) ∧ RepDs K H ds xs ∧ RepD K H d y ∧ PyData.canLayAll0 ds = true ∧ d.canLay0 = true ∧ min (PyData.depthAll ds) d.depth ≤ n ∧
  (∃ h : j < ds.length, PyData.eqv ds[j] d = true) ∧ (∀ m (hm : m < ds.length), m < j → PyData.eqv ds[m] d = false) ∧ Q .non (upd H l (.lst (xs.eraseIdx j)))
theorem mt_removeD {n : Nat} (hu : X.A.units + 1 + n < cLine) : MtR X "list.remove" (rRemove X.K n) := by
  intro pins s σ H x vs v us Q I rx rv h
  obtain ⟨l, xs, y, ds, d, j, rfl, rfl, hH, hds, hd, c1, c2, hm, ⟨hj, hit⟩, hno, q⟩ := h
  cases rx
  obtain ⟨u, rfl, ru⟩ := rv.one
  obtain ⟨z, its, k, r, hl, e⟩ := I.lstM hH
  obtain ⟨as, ra⟩ := RepD.reads I d y u hd ru
  obtain ⟨bs, rb⟩ := RepDs.reads I ds xs its hds r
  have hmap := readsAll_map ds its bs c1 rb
  have hlen : its.length = ds.length := by rw [← hmap, List.length_map]
  have hat : ∀ m (h1 : m < its.length) (h2 : m < ds.length), readOf s.heap its[m] = ds[m] := fun m h1 h2 => by
    have : (its.map (readOf s.heap))[m]? = ds[m]? := by rw [hmap]
    rw [List.getElem?_map, List.getElem?_eq_getElem h1, List.getElem?_eq_getElem h2] at this
    exact Option.some.inj this
  have hE := items_eqAt (A := X.A) (vs := its.toArray) (s := s) rb ra c1 c2 (by omega)
  refine call_meets F.slot_list_remove ⟨_, e, rfl⟩ F.entry_list_remove (F.args_list_remove_2 _ _)
    (rem_list l its.toArray k u (fun y => PyData.eqv (readOf s.heap y) d) j (by rw [List.size_toArray]; omega) ?_ (fun m hm' hlt => ?_) (by rw [List.size_toArray]; omega)) ⟨e, hE, ?_⟩
  · simp only [List.getElem_toArray]
    rw [hat j (by omega) hj]; exact hit
  · simp only [List.getElem_toArray]
    rw [List.size_toArray] at hm'
    rw [hat m hm' (by omega)]; exact hno m (by omega) hlt
  · refine ⟨.non, _, I.lset (its' := its.eraseIdx j) hH e ?_ (r.eraseIdx j) ?_, rfl, q⟩
    · show its.toArray.eraseIdxIfInBounds j = (its.eraseIdx j).toArray
      rw [List.eraseIdxIfInBounds_toArray]
    · have := len_erase xs j
      omega
/-! ### xs.insert(i, x) -/
def insV {α : Type} (xs : List α) (i : Nat) (x : α) : List α := xs.take i ++ x :: xs.drop i
def rInsert : V → List V → Hp → VK → Prop := fun x vs H Q => ∃ l xs i y, x = .ref l ∧ vs = [.int i, y] ∧ H l = some (.lst xs) ∧ 0 ≤ i ∧ i ≤ (xs.length : Int) ∧ xs.length < 1000 ∧ Q .non (upd H l (.lst (insV xs i.toNat y)))
theorem mt_insert : MtR X "list.insert" rInsert := by
  intro pins s σ H x vs v us Q I rx rv h
  obtain ⟨l, xs, i, y, rfl, rfl, hH, h0, h1, hz, q⟩ := h
  cases rx
  obtain ⟨u1, u2, rfl, r1, r2⟩ := vals2 rv
  obtain ⟨t, rfl⟩ := (show ∃ t, u1 = Value.int i t from r1)
  obtain ⟨z, its, k, r, hl, e⟩ := I.lstM hH
  have hfit : ¬ (!Builtin.List.listFitsIndex i) = true := by rw [fitsIndex_both (by omega) (by omega)]; decide
  refine call_meets F.slot_list_insert ⟨_, e, rfl⟩ F.entry_list_insert (F.args_list_insert_3 _ _ _) (PySem.AutoSeq1.list_insert_list_int_val_1 l its.toArray k i t u2 hfit (by rw [List.size_toArray]; omega)) ⟨e, ?_⟩
  refine ⟨.non, _, I.lset (its' := insV its i.toNat u2) hH e ?_ ?_ ?_, rfl, q⟩
  · dsimp only
    rw [if_neg (by omega), List.size_toArray, Nat.min_eq_left (by omega)]
    unfold insV
    apply Array.toList_inj.mp
    simp
    exact List.take_of_length_le (by simp)
  · exact (r.take i.toNat).append (.cons r2 (r.drop i.toNat))
  · unfold insV
    rw [List.length_append, List.length_cons, List.length_take, List.length_drop]
    have : (1000 : Nat) ≤ sizeLine := by decide
    omega
end
end L5

section
set_option Elab.async false
set_option linter.all false
set_option maxRecDepth 100000
set_option maxHeartbeats 4000000
seal L2.PE L2.PT L2.PW L2.PA L2.PS L2.PSs L2.PG L2.PGs L2.PI L3.PTs L2.PO L2.CallR L2.OpR L2.IxR L2.MtR L2.PSet L2.SlR
namespace Of
open PySem L2 L3 L4
/-- the names that the top leaves to Python -/
structure Bts (mg : Str → Option Value) : Prop where
  len : mg "len" = none
  range : mg "range" = none
  isinstance : mg "isinstance" = none
  int : mg "int" = none
  bool : mg "bool" = none
  tuple : mg "tuple" = none
  list : mg "list" = none
  str : mg "str" = none
  dict : mg "dict" = none
theorem boot_st : bootBuiltins "str" = some (.type "str") := by decide +kernel
def cell (ns : List Int) (k : Int) : Int := if k < (ns.length : Int) then ns.getD k.toNat 0 else 0
def spWhole (K : PySem.W.Frag) : Sp := fun vs H Q _ => ∃ i : Int, vs = [.int i] ∧ Q (.bl true) H
def spAt (K : PySem.W.Frag) : Sp := fun vs H Q _ => ∃ (a : Addr) (ns : List Int) (k : Int), vs = [.ref a, .int k] ∧ SqL K H a (nums ns) ∧ 0 ≤ k ∧ Q (.int (cell ns k)) H
def okWhat (s n : Int) : What → Prop
  | .pay t m => 0 ≤ m ∧ 0 ≤ t ∧ t < n ∧ t ≠ s
  | .cut => True
def spIsWhat (K : PySem.W.Frag) : Sp := fun vs H Q _ => ∃ (c : Addr) (wh : What) (s n : Int), vs = [.ref c, .int s, .int n] ∧ WhatAt K H c wh ∧ okWhat s n wh ∧ Q (.bl true) H
def okLet (n : Nat) (l : Let) : Prop := l.s < n ∧ l.st.length = n ∧ (∀ x ∈ l.st, 0 ≤ x) ∧ okWhat l.s n l.w
def spAreLetters (K : PySem.W.Frag) : Sp := fun vs H Q _ => ∃ (a : Addr) (xs : List V) (ls : List Let) (n : Nat), vs = [.ref a, .int n] ∧ SqL K H a xs ∧ RepDs K H (ls.map letD) xs ∧ (∀ l ∈ ls, okLet n l) ∧ Q (.bl true) H
theorem ki_str {K : PySem.W.Frag} : PySem.W.kitOne K (.type "str") (.type "str") = some true := by kernel_rfl
theorem cmul {i j : Int} (h1 : -(2 ^ 64) < j) (h2 : j < 2 ^ 64) : CMul i j := .inr ⟨h1, h2⟩
section
variable {P : Program} {w : World} {K : PySem.W.Frag} {mg : Str → Option Value} {base : Heap} {fW fA fI : Addr}
theorem oLW : ownB ["_law_found"] (defScope sWhole) = true := by decide +kernel
theorem scLW : FnScope ["_law_found"] ["_law_found"] (defScope sWhole) := ⟨rfl, rfl, rfl, by decide +kernel, rfl, by decide +kernel, by decide +kernel⟩
theorem ok_whole {f : Addr} {fd : FuncData} (F : Fun K "_law_whole" "_law_whole" sWhole f fd) (T : Bts mg) : FnOk P w K mg base CX0 1 f fd ["_law_found"] (spWhole K) := by
  refine okB (body := [stm sWhole 0]) F scLW (fun vs H Q E h => ?_) (by kernel_rfl) (fun cdv A outer s H vs Q E hr h => ?_)
  · obtain ⟨i, rfl, _⟩ := h
    rfl
  · obtain ⟨i, rfl, q⟩ := h
    refine ⟨_, (pss_one (ps_ret (pe_and (cB call_isi T.isinstance boot_isi (aC (oV oLW 0) (aC (nT T.int boot_it) pa_nil))) (pe_one (pe_not (cB call_isi T.isinstance boot_isi (aC (oV oLW 0) (aC (nT T.bool boot_bl) pa_nil)))))))), ?_⟩
    refine ⟨_, rfl, _, _, _, _, rfl, TyOf.int _, kit_int, _, rfl, ?_⟩
    refine ⟨_, rfl, _, _, _, _, rfl, TyOf.int _, kit_int_bool, _, rfl, q⟩
theorem oLA : ownB ["_law_script", "_law_k"] (defScope sAt) = true := by decide +kernel
theorem scLA : FnScope ["_law_script", "_law_k"] ["_law_script", "_law_k"] (defScope sAt) := ⟨rfl, rfl, rfl, by decide +kernel, rfl, by decide +kernel, by decide +kernel⟩
theorem ok_at {f : Addr} {fd : FuncData} (F : Fun K "_law_at" "_law_at" sAt f fd) (T : Bts mg) : FnOk P w K mg base CX0 1 f fd ["_law_script", "_law_k"] (spAt K) := by
  refine okB (body := [stm sAt 0, stm sAt 1]) F scLA (fun vs H Q E h => ?_) (by kernel_rfl) (fun cdv A outer s H vs Q E hr h => ?_)
  · obtain ⟨a, ns, k, rfl, _⟩ := h
    rfl
  · obtain ⟨a, ns, k, rfl, hS, hk, q⟩ := h
    refine ⟨_, (pss_cons (ps_if (pt_cmpR op_lt (oV oLA 1) (cB (call_len_seq (X := _)) T.len PySem.boot_len (aC (oV oLA 0) pa_nil)) (nomark _))
        (pss_one (ps_ret (iX (ixL K) (oV oLA 0) (oV oLA 1))))
        pss_nil)
      (pss_one (ps_ret pe_int))), ?_⟩
    refine ⟨_, rfl, _, rfl, a, _, rfl, .inl hS, _, _, rfl, rfl, _, rfl, ?_⟩
    refine ite2 (fun h => ?_) (fun h => ?_)
    · have h : k < (ns.length : Int) := by simpa [nums] using h
      refine ⟨_, rfl, _, rfl, a, _, k, .int (ns.getD k.toNat 0), rfl, rfl, hS, ?_, ?_⟩
      · obtain ⟨n, rfl⟩ := Int.eq_ofNat_of_zero_le hk
        exact atI_nat (get_nums (by simpa using h))
      · have : cell ns k = ns.getD k.toNat 0 := if_pos h
        rw [this] at q
        exact q
    · have h : ¬ k < (ns.length : Int) := by simpa [nums] using h
      have : cell ns k = 0 := if_neg h
      rw [this] at q
      exact q
end
end Of

end

set_option Elab.async false
set_option linter.all false
set_option maxRecDepth 100000
set_option maxHeartbeats 4000000
namespace Of
open PySem PySem.Spec L2 L3
theorem eqv_nm (s t : Nat) (x y : Int) : PyData.eqv (nmD s x) (nmD t y) = (decide (s = t) && decide (x = y)) := by
  unfold nmD
  simp only [PyData.eqv, PyData.eqvAll]
  rw [Bool.eq_iff_iff]
  simp only [Bool.and_eq_true, beq_iff_eq, decide_eq_true_eq, and_true]
  constructor <;> rintro ⟨h1, h2⟩ <;> refine ⟨?_, ?_⟩ <;> first | omega | exact h2 | exact h2.1
/-! ### mail: letters as they were sent -/
def cntS (u : Nat) (ls : List Let) : Nat := (ls.filter fun l => decide (l.s = u)).length
theorem cntS_append {u : Nat} {a b : List Let} : cntS u (a ++ b) = cntS u a + cntS u b := by simp [cntS]
theorem cntS_one {u : Nat} {l : Let} : cntS u [l] = if l.s = u then 1 else 0 := by
  unfold cntS
  by_cases h : l.s = u <;> simp [h]
theorem take_snoc {α : Type} {ls : List α} {j : Nat} {l : α} (h : ls[j]? = some l) : ls.take (j + 1) = ls.take j ++ [l] := by rw [List.take_succ, h]; rfl
theorem cntS_mono {u : Nat} {ls : List Let} {j : Nat} : ∀ d, cntS u (ls.take j) ≤ cntS u (ls.take (j + d))
  | 0 => Nat.le_refl _
  | d + 1 => by
    refine Nat.le_trans (cntS_mono d) ?_
    cases h : ls[j + d]? with
    | none => rw [show j + (d + 1) = j + d + 1 by omega, List.take_succ, h]; simp
    | some l => rw [show j + (d + 1) = j + d + 1 by omega, take_snoc h, cntS_append]; omega
structure Mail (n : Nat) (ls : List Let) : Prop where
  fit : ∀ l ∈ ls, Fit n l
  num : ∀ j l, ls[j]? = some l → nameN l = (cntS l.s (ls.take j) : Int) + 1
  cause : ∀ j l u, ls[j]? = some l → u ≠ l.s → l.st.getD u 0 ≤ (cntS u (ls.take j) : Int)
theorem Mail.lt {n : Nat} {ls : List Let} (M : Mail n ls) {j j' : Nat} {l l' : Let} (h : ls[j]? = some l) (h' : ls[j']? = some l') (hs : l.s = l'.s) (hj : j < j') : nameN l < nameN l' := by
  rw [M.num j l h, M.num j' l' h', ← hs]
  have h1 := @cntS_mono l.s ls (j + 1) (j' - (j + 1))
  rw [show j + 1 + (j' - (j + 1)) = j' by omega, take_snoc h, cntS_append, cntS_one, if_pos rfl] at h1
  omega
theorem Mail.inj {n : Nat} {ls : List Let} (M : Mail n ls) {l l' : Let} (h : l ∈ ls) (h' : l' ∈ ls) (hs : l.s = l'.s) (hn : nameN l = nameN l') : l = l' := by
  obtain ⟨j, hj⟩ := List.getElem?_of_mem h
  obtain ⟨j', hj'⟩ := List.getElem?_of_mem h'
  rcases Nat.lt_trichotomy j j' with z | z | z
  · have := M.lt hj hj' hs z; omega
  · subst z; rw [hj] at hj'; exact Option.some.inj hj'
  · have := M.lt hj' hj hs.symm z; omega
theorem Mail.last {n : Nat} {ls : List Let} (M : Mail n ls) {u : Nat} : ∀ j m, cntS u (ls.take j) = m + 1 → ∃ i l, i < j ∧ ls[i]? = some l ∧ l.s = u ∧ nameN l = (m : Int) + 1
  | 0, m, h => by simp [cntS] at h
  | j + 1, m, h => by
    cases e : ls[j]? with
    | none =>
      rw [List.take_succ, e] at h
      obtain ⟨i, l, h1, h2⟩ := M.last j m (by simpa using h)
      exact ⟨i, l, by omega, h2⟩
    | some l =>
      rw [take_snoc e, cntS_append, cntS_one] at h
      by_cases hs : l.s = u
      · rw [if_pos hs] at h
        refine ⟨j, l, by omega, e, hs, ?_⟩
        rw [M.num j l e, hs]; omega
      · rw [if_neg hs] at h
        obtain ⟨i, l', h1, h2⟩ := M.last j m (by omega)
        exact ⟨i, l', by omega, h2⟩
/-! ### an office that takes mail -/
def sumF (f : Let → Int) : List Let → Int
  | [] => 0
  | l :: ls => f l + sumF f ls
theorem sumF_append {f : Let → Int} : ∀ {a b : List Let}, sumF f (a ++ b) = sumF f a + sumF f b
  | [], b => by simp [sumF]
  | l :: a, b => by simp only [List.cons_append, sumF, sumF_append (a := a)]; omega
def cutsN (ls : List Let) : Nat := (ls.filter fun l => decide (l.w = .cut)).length
theorem cutsN_append {a b : List Let} : cutsN (a ++ b) = cutsN a + cutsN b := by simp [cutsN]
theorem cutsN_one {l : Let} : cutsN [l] = if l.w = .cut then 1 else 0 := by
  unfold cutsN
  by_cases h : l.w = .cut <;> simp [h]
structure Taken (n : Nat) (ls got : List Let) (o0 o : Off) : Prop where
  gm : ∀ l ∈ got, l ∈ ls
  gn : got.Nodup
  ck : o.clock.length = n
  cl : ∀ u, o.clock.getD u 0 = (cntS u got : Int)
  lo : ∀ l ∈ ls, nameN l ≤ o.clock.getD l.s 0 ↔ l ∈ got
  tm : ∀ l ∈ o.tray, l ∈ ls ∧ l ∉ got
  tn : o.tray.Nodup
  nu : o.num = o0.num
  co : o.coins = o0.coins + sumF (fun l => coinsFor o0.num l.w) got
  bk : o.book = o0.book ++ got.map (bookD "got")
  kp : o.kept.length = o0.kept.length + cutsN got
theorem getD_inc {cs : List Int} {s u : Nat} (h : s < cs.length) : (inc cs s).getD u 0 = cs.getD u 0 + if s = u then 1 else 0 := by
  unfold inc
  rw [List.getD_eq_getElem?_getD, List.getD_eq_getElem?_getD]
  by_cases hu : s = u
  · subst hu
    rw [List.getElem?_set_self h, if_pos rfl, List.getD_eq_getElem?_getD]
    rfl
  · rw [List.getElem?_set_ne hu, if_neg hu, ← List.getD_eq_getElem?_getD]; omega
theorem ready_own {s : Nat} {ss cs : List Int} (h : readyB s ss cs = true) : ss.getD s 0 = cs.getD s 0 + 1 := by
  unfold readyB at h
  rw [Bool.and_eq_true] at h
  exact of_decide_eq_true h.1
theorem Taken.hand {n : Nat} {ls got : List Let} {o0 o : Off} {i : Nat} {l : Let} (M : Mail n ls) (T : Taken n ls got o0 o) (hi : o.tray[i]? = some l) (hr : readyB l.s l.st o.clock = true) : Taken n ls (got ++ [l]) o0 (handed o i l) := by
  have hm := T.tm l (List.mem_of_getElem? hi)
  have hs : l.s < o.clock.length := by rw [T.ck]; exact (M.fit l hm.1).1
  have hn : nameN l = o.clock.getD l.s 0 + 1 := ready_own hr
  have hc : (handed o i l).clock = inc o.clock l.s := rfl
  have ht : (handed o i l).tray = o.tray.eraseIdx i := rfl
  have hil : i < o.tray.length := (List.getElem?_eq_some_iff.mp hi).1
  refine ⟨fun x hx => ?_, ?_, by rw [hc]; unfold inc; rw [List.length_set]; exact T.ck, fun u => ?_, fun x hx => ?_, fun x hx => ?_, ?_, T.nu, ?_, ?_, ?_⟩
  · rcases List.mem_append.mp hx with z | z
    · exact T.gm x z
    · have : x = l := by simpa using z
      rw [this]; exact hm.1
  · rw [List.nodup_append]
    refine ⟨T.gn, by simp, fun a ha b hb => ?_⟩
    have : b = l := by simpa using hb
    subst this
    exact fun e => hm.2 (e ▸ ha)
  · rw [hc, getD_inc hs, T.cl, cntS_append, cntS_one]
    split <;> simp
  · rw [hc, getD_inc hs]
    by_cases hxs : l.s = x.s
    · rw [if_pos hxs, ← hxs]
      constructor
      · intro h
        by_cases hle : nameN x ≤ o.clock.getD l.s 0
        · exact List.mem_append_left _ ((T.lo x hx).mp (by rw [← hxs]; exact hle))
        · have : x = l := M.inj hx hm.1 hxs.symm (by omega)
          rw [this]; simp
      · intro h
        rcases List.mem_append.mp h with z | z
        · have := (T.lo x hx).mpr z
          rw [← hxs] at this; omega
        · have : x = l := by simpa using z
          rw [this]; omega
    · rw [if_neg hxs, Int.add_zero]
      rw [T.lo x hx]
      constructor
      · exact fun h => List.mem_append_left _ h
      · intro h
        rcases List.mem_append.mp h with z | z
        · exact z
        · have : x = l := by simpa using z
          exact absurd (by rw [this]) hxs
  · rw [ht] at hx
    have hxt := List.mem_of_mem_eraseIdx hx
    refine ⟨(T.tm x hxt).1, fun z => ?_⟩
    rcases List.mem_append.mp z with z | z
    · exact (T.tm x hxt).2 z
    · have : x = l := by simpa using z
      subst this
      obtain ⟨k, hk⟩ := List.getElem?_of_mem hx
      rw [List.getElem?_eraseIdx] at hk
      have nd := T.tn
      rw [List.nodup_iff_pairwise_ne, List.pairwise_iff_getElem] at nd
      split at hk
      · next hlt =>
        have hk' := List.getElem?_eq_some_iff.mp hk
        have hi' := List.getElem?_eq_some_iff.mp hi
        exact nd k i hk'.1 hi'.1 hlt (by rw [hk'.2, hi'.2])
      · next hge =>
        have hk' := List.getElem?_eq_some_iff.mp hk
        have hi' := List.getElem?_eq_some_iff.mp hi
        exact nd i (k + 1) hi'.1 hk'.1 (by omega) (by rw [hk'.2, hi'.2])
  · rw [ht]; exact T.tn.sublist (List.eraseIdx_sublist _ _)
  · show o.coins + coinsFor o.num l.w = _
    rw [T.co, sumF_append, T.nu]
    simp only [sumF]; omega
  · show o.book ++ [bookD "got" l] = _
    rw [T.bk, List.map_append, List.append_assoc]; rfl
  · show (if l.w = .cut then o.kept ++ [_] else o.kept : List PyData).length = _
    rw [cutsN_append, cutsN_one]
    split
    · rw [List.length_append, T.kp]; rfl
    · rw [T.kp]; omega
theorem first_some {ls : List Let} {cs : List Int} {i : Nat} (h : firstR ls cs = some i) : ∃ l, ls[i]? = some l ∧ readyB l.s l.st cs = true := by
  unfold firstR at h
  obtain ⟨hlt, hp, _⟩ := List.findIdx?_eq_some_iff_getElem.mp h
  exact ⟨ls[i], List.getElem?_eq_getElem hlt, hp⟩
theorem Taken.drain {n : Nat} {ls : List Let} {o0 : Off} (M : Mail n ls) : ∀ (k : Nat) {got : List Let} {o : Off}, Taken n ls got o0 o →
    Taken n ls (got ++ (drain k o).1) o0 (drain k o).2 ∧ (∀ x, x ∈ got ∨ x ∈ o.tray → x ∈ got ++ (drain k o).1 ∨ x ∈ (drain k o).2.tray) ∧ (o.tray.length ≤ k → firstR (drain k o).2.tray (drain k o).2.clock = none)
  | 0, got, o, T => by
    refine ⟨by simpa [Of.drain] using T, fun x hx => by simpa [Of.drain] using hx, fun h => ?_⟩
    have : o.tray = [] := List.length_eq_zero_iff.mp (by omega)
    simp [Of.drain, this, firstR]
  | k + 1, got, o, T => by
    cases hf : firstR o.tray o.clock with
    | none => simp only [Of.drain, hf]; exact ⟨by simpa using T, fun x hx => by simpa using hx, fun _ => by first | exact hf | trivial⟩
    | some i =>
      obtain ⟨l, hl, hr⟩ := first_some hf
      simp only [Of.drain, hf, hl]
      obtain ⟨h1, h2, h3⟩ := Taken.drain M k (T.hand M hl hr)
      rw [List.append_assoc] at h1 h2
      refine ⟨h1, fun x hx => h2 x ?_, fun hk => h3 ?_⟩
      · rcases hx with z | z
        · exact .inl (List.mem_append_left _ z)
        · by_cases e : x = l
          · exact .inl (by rw [e]; simp)
          · refine .inr ?_
            show x ∈ o.tray.eraseIdx i
            obtain ⟨j, hj⟩ := List.getElem?_of_mem z
            have hji : j ≠ i := fun q => by rw [q, hl] at hj; exact e (Option.some.inj hj).symm
            by_cases hlt : j < i
            · exact List.mem_of_getElem? (i := j) (by rw [List.getElem?_eraseIdx, if_pos hlt]; exact hj)
            · exact List.mem_of_getElem? (i := j - 1) (by rw [List.getElem?_eraseIdx, if_neg (by omega), show j - 1 + 1 = j by omega]; exact hj)
      · show (o.tray.eraseIdx i).length ≤ k
        have := (List.getElem?_eq_some_iff.mp hl).1
        rw [List.length_eraseIdx_of_lt this]; omega
theorem Taken.new {n : Nat} {ls got : List Let} {o0 o : Off} {l : Let} (M : Mail n ls) (T : Taken n ls got o0 o) (hl : l ∈ ls) : newB o l = true ↔ l ∉ got ∧ l ∉ o.tray := by
  unfold newB
  rw [Bool.and_eq_true, Bool.not_eq_true', Bool.not_eq_true', decide_eq_false_iff_not, T.lo l hl]
  refine and_congr Iff.rfl ?_
  rw [List.any_eq_false]
  constructor
  · intro h z
    refine h l z ?_
    unfold nameD; rw [eqv_nm]; simp
  · intro h x hx
    unfold nameD
    rw [eqv_nm, Bool.and_eq_true, decide_eq_true_eq, decide_eq_true_eq]
    rintro ⟨h1, h2⟩
    exact h (M.inj (T.tm x hx).1 hl h1 h2 ▸ hx)
theorem Taken.put {n : Nat} {ls got : List Let} {o0 o : Off} {l : Let} (M : Mail n ls) (T : Taken n ls got o0 o) (hl : l ∈ ls) : Taken n ls got o0 (put o l) ∧ (l ∈ got ∨ l ∈ (put o l).tray) ∧ ∀ x ∈ o.tray, x ∈ (put o l).tray := by
  unfold Of.put
  by_cases h : newB o l = true
  · rw [if_pos h]
    have h' := (T.new M hl).mp h
    refine ⟨⟨T.gm, T.gn, T.ck, T.cl, T.lo, fun x hx => ?_, ?_, T.nu, T.co, T.bk, T.kp⟩, .inr (by simp), fun x hx => List.mem_append_left _ hx⟩
    · rcases List.mem_append.mp hx with z | z
      · exact T.tm x z
      · have : x = l := by simpa using z
        rw [this]; exact ⟨hl, h'.1⟩
    · show (o.tray ++ [l]).Nodup
      rw [List.nodup_append]
      refine ⟨T.tn, by simp, fun a ha b hb => ?_⟩
      have : b = l := by simpa using hb
      subst this
      exact fun e => h'.2 (e ▸ ha)
  · rw [if_neg h]
    refine ⟨T, ?_, fun x hx => hx⟩
    by_cases h1 : l ∈ got
    · exact .inl h1
    · refine .inr (Classical.byContradiction fun h2 => h ((T.new M hl).mpr ⟨h1, h2⟩))
theorem Taken.took {n : Nat} {ls got : List Let} {o0 o : Off} {l : Let} (M : Mail n ls) (T : Taken n ls got o0 o) (hl : l ∈ ls) : Taken n ls (got ++ (took o l).1) o0 (took o l).2 ∧ (∀ x, (x ∈ got ∨ x ∈ o.tray ∨ x = l) → x ∈ got ++ (took o l).1 ∨ x ∈ (took o l).2.tray) ∧
    firstR (took o l).2.tray (took o l).2.clock = none := by
  obtain ⟨h1, h2, h3⟩ := T.put M hl
  obtain ⟨g1, g2, g3⟩ := Taken.drain M (Of.put o l).tray.length h1
  refine ⟨g1, fun x hx => g2 x ?_, g3 (Nat.le_refl _)⟩
  rcases hx with z | z | z
  · exact .inl z
  · exact .inr (h3 x z)
  · rw [z]; exact h2
theorem Taken.all {n : Nat} {ls : List Let} {o0 : Off} (M : Mail n ls) : ∀ (row : List Let) {got : List Let} {o : Off}, Taken n ls got o0 o → (∀ l ∈ row, l ∈ ls) → (firstR o.tray o.clock = none) →
    Taken n ls (got ++ (tookAll o row).1.flatten) o0 (tookAll o row).2 ∧ (∀ x, (x ∈ got ∨ x ∈ o.tray ∨ x ∈ row) → x ∈ got ++ (tookAll o row).1.flatten ∨ x ∈ (tookAll o row).2.tray) ∧ firstR (tookAll o row).2.tray (tookAll o row).2.clock = none
  | [], got, o, T, _, hf => ⟨by simpa [tookAll] using T, fun x hx => by simpa [tookAll] using hx, hf⟩
  | l :: row, got, o, T, hr, _ => by
    obtain ⟨h1, h2, h3⟩ := T.took M (hr l List.mem_cons_self)
    obtain ⟨g1, g2, g3⟩ := Taken.all M row h1 (fun x hx => hr x (List.mem_cons_of_mem _ hx)) h3
    simp only [tookAll, List.flatten_cons]
    rw [List.append_assoc] at g1 g2
    refine ⟨g1, fun x hx => g2 x ?_, g3⟩
    rcases hx with z | z | z
    · exact (h2 x (.inl z)).elim .inl fun y => .inr (.inl y)
    · exact (h2 x (.inr (.inl z))).elim .inl fun y => .inr (.inl y)
    · rcases List.mem_cons.mp z with z | z
      · exact (h2 x (.inr (.inr z))).elim .inl fun y => .inr (.inl y)
      · exact .inr (.inr z)
/-- all that was sent has come: nothing is left on the tray -/
theorem Taken.empty {n : Nat} {ls got : List Let} {o0 o : Off} (M : Mail n ls) (T : Taken n ls got o0 o) (hall : ∀ l ∈ ls, l ∈ got ∨ l ∈ o.tray) (hf : firstR o.tray o.clock = none) : o.tray = [] := by
  have key : ∀ (m j : Nat) (l : Let), j ≤ m → ls[j]? = some l → l ∈ got := by
    intro m
    induction m with
    | zero =>
      intro j l hj hl
      have : j = 0 := by omega
      subst this
      refine Classical.byContradiction fun hg => ?_
      have ht := (hall l (List.mem_of_getElem? hl)).resolve_left hg
      have hnot := List.findIdx?_eq_none_iff.mp hf l ht
      have hlo := (not_congr (T.lo l (List.mem_of_getElem? hl))).mpr hg
      have hnm := M.num 0 l hl
      have hz : ∀ u, (cntS u (ls.take 0) : Int) = 0 := fun u => by simp [cntS]
      rw [hz] at hnm
      refine absurd hnot ?_
      rw [Bool.not_eq_false]
      unfold readyB
      rw [Bool.and_eq_true, decide_eq_true_eq, List.all_eq_true]
      have hc0 : 0 ≤ o.clock.getD l.s 0 := by rw [T.cl]; omega
      refine ⟨by show nameN l = _; omega, fun b hb => ?_⟩
      obtain ⟨k, hk, rfl⟩ := List.mem_map.mp hb
      have hks : k ≠ l.s := of_decide_eq_true (List.mem_filter.mp hk).2
      have := M.cause 0 l k hl hks
      rw [hz] at this
      refine decide_eq_true ?_
      rw [T.cl]; omega
    | succ m ih =>
      intro j l hj hl
      rcases Nat.lt_or_ge j (m + 1) with hlt | hge
      · exact ih j l (by omega) hl
      · have hjm : j = m + 1 := by omega
        have hcl : ∀ u, (cntS u (ls.take j) : Int) ≤ o.clock.getD u 0 := fun u => by
          cases hc : cntS u (ls.take j) with
          | zero => rw [T.cl]; omega
          | succ k =>
            obtain ⟨i, l', h1, h2, h3, h4⟩ := M.last j k hc
            have hg := ih i l' (by omega) h2
            have := (T.lo l' (List.mem_of_getElem? h2)).mpr hg
            rw [h3, h4] at this
            omega
        refine Classical.byContradiction fun hg => ?_
        have ht := (hall l (List.mem_of_getElem? hl)).resolve_left hg
        have hnot := List.findIdx?_eq_none_iff.mp hf l ht
        have hlo := (not_congr (T.lo l (List.mem_of_getElem? hl))).mpr hg
        have hnm := M.num j l hl
        refine absurd hnot ?_
        rw [Bool.not_eq_false]
        unfold readyB
        rw [Bool.and_eq_true, decide_eq_true_eq, List.all_eq_true]
        have hcs := hcl l.s
        refine ⟨by show nameN l = _; omega, fun b hb => ?_⟩
        obtain ⟨k, hk, rfl⟩ := List.mem_map.mp hb
        have hks : k ≠ l.s := of_decide_eq_true (List.mem_filter.mp hk).2
        have h1 := M.cause j l k hl hks
        have h2 := hcl k
        exact decide_eq_true (Int.le_trans h1 h2)
  cases ht : o.tray with
  | nil => rfl
  | cons l r =>
    have hm := T.tm l (by rw [ht]; exact List.mem_cons_self)
    obtain ⟨j, hj⟩ := List.getElem?_of_mem hm.1
    exact absurd (key j j l (Nat.le_refl _) hj) hm.2
theorem sumF_perm {f : Let → Int} {a b : List Let} (h : a.Perm b) : sumF f a = sumF f b := by
  induction h with
  | nil => rfl
  | cons x _ ih => simp only [sumF, ih]
  | swap x y l => simp only [sumF]; omega
  | trans _ _ h1 h2 => exact h1.trans h2
theorem cutsN_perm {a b : List Let} (h : a.Perm b) : cutsN a = cutsN b := (h.filter _).length_eq
theorem same_perm {a b : List Let} (h1 : a.Nodup) (h2 : b.Nodup) (h : ∀ x, x ∈ a ↔ x ∈ b) : a.Perm b := (List.perm_ext_iff_of_nodup h1 h2).mpr h
/-! ### how the mail of the law comes about -/
theorem Mail.nil {n : Nat} : Mail n [] := ⟨(fun _ h => nomatch h), (fun j l h => by simp at h), (fun j l u h => by simp at h)⟩
theorem Mail.snoc {n : Nat} {ls : List Let} {l : Let} (M : Mail n ls) (hf : Fit n l) (h1 : nameN l = (cntS l.s ls : Int) + 1) (h2 : ∀ u, u ≠ l.s → l.st.getD u 0 ≤ (cntS u ls : Int)) : Mail n (ls ++ [l]) := by
  have cases_ : ∀ j x, (ls ++ [l])[j]? = some x → (ls[j]? = some x ∧ (ls ++ [l]).take j = ls.take j) ∨ (x = l ∧ (ls ++ [l]).take j = ls) := fun j x h => by
    by_cases hj : j < ls.length
    · rw [List.getElem?_append_left hj] at h
      exact .inl ⟨h, List.take_append_of_le_length (by omega)⟩
    · rw [List.getElem?_append_right (by omega)] at h
      have hj0 : j - ls.length = 0 := by
        have := (List.getElem?_eq_some_iff.mp h).1
        simp at this; omega
      rw [hj0] at h
      refine .inr ⟨by simpa using h.symm, ?_⟩
      have : j = ls.length := by omega
      rw [this]; simp
  refine ⟨fun x hx => ?_, fun j x h => ?_, fun j x u h hu => ?_⟩
  · rcases List.mem_append.mp hx with z | z
    · exact M.fit x z
    · have : x = l := by simpa using z
      rw [this]; exact hf
  · rcases cases_ j x h with ⟨z, e⟩ | ⟨rfl, e⟩
    · rw [e]; exact M.num j x z
    · rw [e]; exact h1
  · rcases cases_ j x h with ⟨z, e⟩ | ⟨rfl, e⟩
    · rw [e]; exact M.cause j x u z hu
    · rw [e]; exact h2 u hu
def learned (r t : List Int) (b : Bool) : List Int := if b = true then List.zipWith max r t else r
def sentStep (own other : Nat) (b : Bool) (w : What) (S : List (List Int) × List Let) : List (List Int) × List Let :=
  (S.1.set own (inc (learned (S.1.getD own []) (S.1.getD other []) b) own), S.2 ++ [⟨own, inc (learned (S.1.getD own []) (S.1.getD other []) b) own, w⟩])
structure Srv (c : Nat) (S : List (List Int) × List Let) : Prop where
  ln : S.1.length = c
  rl : ∀ u, u < c → (S.1.getD u []).length = c + 1
  dg : ∀ u, u < c → (S.1.getD u []).getD u 0 = (cntS u S.2 : Int)
  bd : ∀ u v, u < c → (S.1.getD u []).getD v 0 ≤ (cntS v S.2 : Int)
  ml : Mail (c + 1) S.2
  sn : ∀ l ∈ S.2, l.s < c
theorem zip_getD : ∀ {a b : List Int} {v : Nat}, a.length = b.length → (List.zipWith max a b).getD v 0 = max (a.getD v 0) (b.getD v 0)
  | [], [], v, _ => by simp
  | [], _ :: _, v, h => by simp at h
  | _ :: _, [], v, h => by simp at h
  | x :: a, y :: b, 0, _ => by simp
  | x :: a, y :: b, v + 1, h => by
    have := zip_getD (a := a) (b := b) (v := v) (by simpa using h)
    simpa using this
theorem getD_set {α : Type} {xs : List α} {i u : Nat} {x d : α} (h : i < xs.length) : (xs.set i x).getD u d = if i = u then x else xs.getD u d := by
  rw [List.getD_eq_getElem?_getD]
  by_cases e : i = u
  · subst e; rw [List.getElem?_set_self h, if_pos rfl]; rfl
  · rw [List.getElem?_set_ne e, if_neg e, ← List.getD_eq_getElem?_getD]
theorem Srv.step {c own other : Nat} {b : Bool} {w : What} {S : List (List Int) × List Let} (h : Srv c S) (ho : own < c) (hot : other < c) : Srv c (sentStep own other b w S) := by
  have hL : (learned (S.1.getD own []) (S.1.getD other []) b).length = c + 1 := by
    unfold learned; split
    · rw [List.length_zipWith, h.rl own ho, h.rl other hot]; omega
    · exact h.rl own ho
  have hg : ∀ v, (learned (S.1.getD own []) (S.1.getD other []) b).getD v 0 ≤ (cntS v S.2 : Int) := fun v => by
    unfold learned; split
    · rw [zip_getD (by rw [h.rl own ho, h.rl other hot])]
      exact Int.max_le.mpr ⟨h.bd own v ho, h.bd other v hot⟩
    · exact h.bd own v ho
  have hd : (learned (S.1.getD own []) (S.1.getD other []) b).getD own 0 = (cntS own S.2 : Int) := by
    unfold learned; split
    · rw [zip_getD (by rw [h.rl own ho, h.rl other hot]), h.dg own ho]
      exact Int.max_eq_left (h.bd other own hot)
    · exact h.dg own ho
  generalize hR : learned (S.1.getD own []) (S.1.getD other []) b = R at hL hg hd
  have hin : own < R.length := by omega
  have hI : ∀ v, (inc R own).getD v 0 = R.getD v 0 + if own = v then 1 else 0 := fun v => getD_inc hin
  have hc : ∀ v, cntS v (S.2 ++ [⟨own, inc R own, w⟩]) = cntS v S.2 + if own = v then 1 else 0 := fun v => by rw [cntS_append, cntS_one]
  have hs : own < S.1.length := by rw [h.ln]; exact ho
  unfold sentStep
  rw [hR]
  refine ⟨by rw [List.length_set]; exact h.ln, fun u hu => ?_, fun u hu => ?_, fun u v hu => ?_, ?_, fun l hl => ?_⟩
  · dsimp only
    rw [getD_set hs]
    split
    · unfold inc; rw [List.length_set]; exact hL
    · exact h.rl u hu
  · dsimp only
    rw [getD_set hs, hc]
    split
    · next e => subst e; rw [hI, if_pos rfl, hd]; rfl
    · next e => rw [h.dg u hu]; simp
  · dsimp only
    rw [getD_set hs, hc]
    split
    · rw [hI]; have := hg v; split <;> omega
    · have := h.bd u v hu
      split <;> omega
  · refine h.ml.snoc ⟨by show own < c + 1; omega, by show (inc R own).length = c + 1; unfold inc; rw [List.length_set]; exact hL⟩ ?_ fun u hu => ?_
    · show (inc R own).getD own 0 = _
      rw [hI, if_pos rfl, hd]
    · show (inc R own).getD u 0 ≤ _
      rw [hI, if_neg (fun e => hu e.symm)]
      have := hg u; omega
  · rcases List.mem_append.mp hl with z | z
    · exact h.sn l z
    · have : l = ⟨own, inc R own, w⟩ := by simpa using z
      rw [this]; exact ho
theorem Srv.start {c : Nat} : Srv c (List.replicate c (List.replicate (c + 1) 0), []) := by
  have hg : ∀ u, u < c → (List.replicate c (List.replicate (c + 1) (0 : Int))).getD u [] = List.replicate (c + 1) 0 := fun u hu => by
    rw [List.getD_eq_getElem?_getD, List.getElem?_replicate, if_pos hu]; rfl
  have h0 : ∀ v, (List.replicate (c + 1) (0 : Int)).getD v 0 = 0 := fun v => by
    rw [List.getD_eq_getElem?_getD, List.getElem?_replicate]; split <;> rfl
  exact ⟨by simp, fun u hu => by dsimp only; rw [hg u hu]; simp, fun u hu => by dsimp only; rw [hg u hu, h0]; simp [cntS], fun u v hu => by dsimp only; rw [hg u hu, h0]; omega, Mail.nil, fun _ h => nomatch h⟩
/-! ### letters as data -/
theorem eqv_ints : ∀ a b : List Int, PyData.eqvAll (intD a) (intD b) = decide (a = b)
  | [], [] => by simp [intD, PyData.eqvAll]
  | [], _ :: _ => by simp [intD, PyData.eqvAll]
  | _ :: _, [] => by simp [intD, PyData.eqvAll]
  | x :: a, y :: b => by
    have := eqv_ints a b
    simp only [intD, List.map_cons, PyData.eqvAll, PyData.eqv] at this ⊢
    rw [this, Bool.eq_iff_iff]
    simp
theorem eqv_what (v w : What) : PyData.eqv (whatD v) (whatD w) = decide (v = w) := by
  cases v with
  | cut =>
    cases w with
    | cut => decide +kernel
    | pay t m => simp only [whatD, PyData.eqv, PyData.eqvAll]; rw [Bool.eq_iff_iff]; simp
  | pay t m =>
    cases w with
    | cut => simp only [whatD, PyData.eqv, PyData.eqvAll]; rw [Bool.eq_iff_iff]; simp
    | pay t' m' =>
      simp only [whatD, PyData.eqv, PyData.eqvAll]
      rw [Bool.eq_iff_iff]
      simp
theorem eqv_let (a b : Let) : PyData.eqv (letD a) (letD b) = decide (a = b) := by
  obtain ⟨s, st, w⟩ := a
  obtain ⟨s', st', w'⟩ := b
  unfold letD
  simp only [PyData.eqv, PyData.eqvAll, eqv_ints, eqv_what]
  rw [Bool.eq_iff_iff]
  simp
  intros
  omega
/-! ### the law's tray -/
def given : Nat → List Let → List Int → List Let × List Let × List Int
  | 0, ts, cs => ([], ts, cs)
  | k + 1, ts, cs => match firstR ts cs with
    | none => ([], ts, cs)
    | some i => match ts[i]? with
      | none => ([], ts, cs)
      | some l => (l :: (given k (ts.eraseIdx i) (inc cs l.s)).1, (given k (ts.eraseIdx i) (inc cs l.s)).2)
theorem given_drain : ∀ (k : Nat) (o : Off), given k o.tray o.clock = ((drain k o).1, (drain k o).2.tray, (drain k o).2.clock)
  | 0, o => rfl
  | k + 1, o => by
    cases hf : firstR o.tray o.clock with
    | none => simp only [given, drain, hf]
    | some i =>
      cases hl : o.tray[i]? with
      | none => simp only [given, drain, hf, hl]
      | some l =>
        have := given_drain k (handed o i l)
        simp only [given, drain, hf, hl]
        rw [show (handed o i l).tray = o.tray.eraseIdx i from rfl, show (handed o i l).clock = inc o.clock l.s from rfl] at this
        rw [this]
def gone : List Let → List Let → List Let
  | g, [] => g
  | g, l :: ls => gone (if l ∈ g then g else g ++ [l]) ls
theorem gone_spec : ∀ (ls g : List Let), g.Nodup → (gone g ls).Nodup ∧ ∀ x, x ∈ gone g ls ↔ x ∈ g ∨ x ∈ ls
  | [], g, h => ⟨h, fun x => by simp [gone]⟩
  | l :: ls, g, h => by
    unfold gone
    by_cases hl : l ∈ g
    · rw [if_pos hl]
      obtain ⟨h1, h2⟩ := gone_spec ls g h
      refine ⟨h1, fun x => ?_⟩
      rw [h2, List.mem_cons]
      constructor
      · rintro (z | z)
        · exact .inl z
        · exact .inr (.inr z)
      · rintro (z | z | z)
        · exact .inl z
        · exact .inl (z ▸ hl)
        · exact .inr z
    · rw [if_neg hl]
      obtain ⟨h1, h2⟩ := gone_spec ls (g ++ [l]) (by
        rw [List.nodup_append]
        refine ⟨h, by simp, fun a ha b hb => ?_⟩
        have : b = l := by simpa using hb
        subst this
        exact fun e => hl (e ▸ ha))
      refine ⟨h1, fun x => ?_⟩
      rw [h2, List.mem_append, List.mem_singleton, List.mem_cons]
      constructor
      · rintro ((z | z) | z)
        · exact .inl z
        · exact .inr (.inl z)
        · exact .inr (.inr z)
      · rintro (z | z | z)
        · exact .inl (.inl z)
        · exact .inl (.inr z)
        · exact .inr z
end Of

section
set_option Elab.async false
set_option linter.all false
set_option maxRecDepth 100000
set_option maxHeartbeats 4000000
seal L2.PE L2.PT L2.PW L2.PA L2.PS L2.PSs L2.PG L2.PGs L2.PI L3.PTs L2.PO L2.CallR L2.OpR L2.IxR L2.MtR L2.PSet L2.SlR
namespace Of
open PySem L2 L3 L4 L5
theorem ixN_nat {n j : Nat} (h : j < n) : ixN n (j : Int) = some j := by
  unfold ixN
  rw [if_pos (Int.natCast_nonneg j), if_pos (by omega), Int.toNat_natCast]
def spIsName (K : PySem.W.Frag) : Sp := fun vs H Q _ => ∃ (b : Addr) (s m c : Int), vs = [.ref b, .int c] ∧ SqT K H b [.int s, .int m] ∧ 0 ≤ s ∧ s < c ∧ 0 < m ∧ Q (.bl true) H
def spIsReady (K : PySem.W.Frag) : Sp := fun vs H Q _ => ∃ (a qc : Addr) (l : Let) (cs : List Int), vs = [.ref a, .ref qc] ∧ LetAt K H a l ∧ SqL K H qc (nums cs) ∧ Fit cs.length l ∧ cs.length ≤ 1000 ∧ Q (.bl (readyB l.s l.st cs)) H
theorem ready_iff {s : Nat} {ss cs : List Int} : readyB s ss cs = true ↔ ss.getD s 0 = cs.getD s 0 + 1 ∧ ∀ k, k < cs.length → k ≠ s → ss.getD k 0 ≤ cs.getD k 0 := by
  unfold readyB
  rw [Bool.and_eq_true, decide_eq_true_eq, List.all_eq_true]
  refine and_congr Iff.rfl ⟨fun h k hk hs => ?_, fun h b hb => ?_⟩
  · exact of_decide_eq_true (h _ (List.mem_map.mpr ⟨k, List.mem_filter.mpr ⟨List.mem_range.mpr hk, decide_eq_true hs⟩, rfl⟩))
  · obtain ⟨k, hk, rfl⟩ := List.mem_map.mp hb
    obtain ⟨h1, h2⟩ := List.mem_filter.mp hk
    exact decide_eq_true (h k (List.mem_range.mp h1) (of_decide_eq_true h2))
/-- all but two lists is as it was -/
def Keep2 (a b : Addr) (H H' : Hp) : Prop := ∀ c o, H c = some o → c ≠ a → c ≠ b → H' c = some o
theorem Keep2.imm {a b : Addr} {H H' : Hp} {xs ys : List V} (k : Keep2 a b H H') (h1 : H a = some (.lst xs)) (h2 : H b = some (.lst ys)) : Imm H H' :=
  ⟨fun c zs h => k c _ h (ne_of h h1 (by intro z; cases z)) (ne_of h h2 (by intro z; cases z)), fun c u v h => k c _ h (ne_of h h1 (by intro z; cases z)) (ne_of h h2 (by intro z; cases z))⟩
def spGiven (K : PySem.W.Frag) : Sp := fun vs H Q _ => ∃ (qt qc : Addr) (ts : List V) (ls : List Let) (cs : List Int) (n : Nat), vs = [.ref qt, .ref qc] ∧ H qt = some (.lst ts) ∧ RepDs K H (ls.map letD) ts ∧ H qc = some (.lst (nums cs)) ∧ qt ≠ qc ∧ (∀ l ∈ ls, Fit n l) ∧ cs.length = n ∧ n ≤ 900 ∧ ls.Nodup ∧ ls.length ≤ 800 ∧
  ∀ (q : Addr) (xs ts' : List V) (H' : Hp), Keep2 qt qc H H' → H q = none → H' q = some (.lst xs) → RepDs K H' ((given ls.length ls cs).1.map nameD) xs → H' qt = some (.lst ts') → RepDs K H' ((given ls.length ls cs).2.1.map letD) ts' → H' qc = some (.lst (nums (given ls.length ls cs).2.2)) → Q (.ref q) H'
theorem first_at {ls : List Let} {cs : List Int} {i : Nat} {l : Let} (h : ∀ x ∈ ls.take i, readyB x.s x.st cs = false) (hl : ls[i]? = some l) (hr : readyB l.s l.st cs = true) : firstR ls cs = some i := by
  obtain ⟨hi, e⟩ := List.getElem?_eq_some_iff.mp hl
  unfold firstR
  rw [List.findIdx?_eq_some_iff_getElem]
  refine ⟨hi, by rw [e]; exact hr, fun j hj => ?_⟩
  rw [Bool.not_eq_true]
  exact h _ (List.mem_take_iff_getElem.mpr ⟨j, by omega, rfl⟩)
theorem first_no {ls : List Let} {cs : List Int} (h : ∀ x ∈ ls, readyB x.s x.st cs = false) : firstR ls cs = none := by
  unfold firstR
  rw [List.findIdx?_eq_none_iff]
  exact h
theorem given_no {ls : List Let} {cs : List Int} (h : firstR ls cs = none) : ∀ k, given k ls cs = ([], ls, cs)
  | 0 => rfl
  | k + 1 => by simp only [given, h]
theorem given_yes {ls : List Let} {cs : List Int} {i : Nat} {l : Let} (h : firstR ls cs = some i) (hl : ls[i]? = some l) : given ls.length ls cs = (l :: (given (ls.eraseIdx i).length (ls.eraseIdx i) (inc cs l.s)).1, (given (ls.eraseIdx i).length (ls.eraseIdx i) (inc cs l.s)).2) := by
  have hi := (List.getElem?_eq_some_iff.mp hl).1
  obtain ⟨k, hk⟩ : ∃ k, ls.length = k + 1 := ⟨ls.length - 1, by omega⟩
  have he : (ls.eraseIdx i).length = k := by rw [List.length_eraseIdx_of_lt hi]; omega
  rw [hk, he]
  simp only [given, h, hl]
theorem depth_ints : ∀ ns : List Int, PyData.depthAll (intD ns) = 0
  | [] => rfl
  | n :: ns => by
    have := depth_ints ns
    simp only [intD, List.map_cons, PyData.depthAll, PyData.depth] at this ⊢
    rw [this]; rfl
theorem lay_ints : ∀ ns : List Int, PyData.canLayAll0 (intD ns) = true
  | [] => rfl
  | n :: ns => by simp only [intD, List.map_cons, PyData.canLayAll0, PyData.canLay0, Bool.true_and]; exact lay_ints ns
theorem lay_pay : (PyData.str "pay").canLay0 = true := by decide +kernel
theorem lay_what (w : What) : (whatD w).canLay0 = true := by
  cases w with
  | cut => decide +kernel
  | pay t m => simp only [whatD, PyData.canLay0, PyData.canLayAll0, lay_pay, Bool.and_true]; first | done | exact lay_pay
theorem lay_letter (l : Let) : (letD l).canLay0 = true := by
  simp only [letD, PyData.canLay0, PyData.canLayAll0, lay_ints, lay_what, Bool.and_true]
theorem lay_letters : ∀ ls : List Let, PyData.canLayAll0 (ls.map letD) = true
  | [] => rfl
  | l :: ls => by simp only [List.map_cons, PyData.canLayAll0, lay_letter, Bool.true_and]; exact lay_letters ls
theorem depth_let (l : Let) : (letD l).depth < 8 := by
  unfold letD
  cases l.w <;> simp [whatD, PyData.depth, PyData.depthAll, depth_ints]
theorem map_erase {α β : Type} {f : α → β} : ∀ (xs : List α) (i : Nat), (xs.map f).eraseIdx i = (xs.eraseIdx i).map f
  | [], i => by simp
  | x :: xs, 0 => rfl
  | x :: xs, i + 1 => by simp only [List.map_cons, List.eraseIdx_cons_succ, map_erase xs i]
theorem set_nums {cs : List Int} {s : Nat} {x : Int} : (nums cs).set s (.int x) = nums (cs.set s x) := by unfold nums; rw [List.map_set]
section
variable {P : Program} {w : World} {K : PySem.W.Frag} {mg : Str → Option Value} {base : Heap} {C fW fA fR : Addr}
theorem oLI : ownB ["_law_found", "_law_count"] (defScope sIsName) = true := by decide +kernel
theorem scLI : FnScope ["_law_found", "_law_count"] ["_law_found", "_law_count"] (defScope sIsName) := ⟨rfl, rfl, rfl, by decide +kernel, rfl, by decide +kernel, by decide +kernel⟩
theorem ok_isname {f : Addr} {fd fdW : FuncData} (F : Fun K "_law_is_name" "_law_is_name" sIsName f fd) (L : Bts mg) (mW : mg "_law_whole" = some (.ref fW)) (FW : Fun K "_law_whole" "_law_whole" sWhole fW fdW) (bW : Binds K fdW ["_law_found"] []) : FnOk P w K mg base CX0 2 f fd ["_law_found", "_law_count"] (spIsName K) := by
  have GW : FnOk P w K mg base CX0 1 fW fdW ["_law_found"] (spWhole K) := ok_whole FW L
  refine okB (body := [stm sIsName 0, stm sIsName 1, stm sIsName 2]) F scLI (fun vs H Q E h => ?_) (by kernel_rfl) (fun cdv A outer s H vs Q E hr h => ?_)
  · obtain ⟨b, s, m, c, rfl, _⟩ := h
    rfl
  · obtain ⟨b, s, m, c, rfl, hb, h0, h1, h2, q⟩ := h
    have hrW := hr
    refine ⟨_, (pss_cons (ps_if (PW.pt (pw_or (pt_not (pt_val (cB call_isiT L.isinstance boot_isi (aC (oV oLI 0) (aC (nT L.tuple boot_tup) pa_nil))))) (pw_or1 (pt_cmpR op_ne (cB (call_len_seq (X := _)) L.len PySem.boot_len (aC (oV oLI 0) pa_nil)) pe_int (nomark _)))))
        (pss_one (ps_ret pe_bl))
        pss_nil)
      (pss_cons (ps_if (PW.pt (pw_or (pt_not (pt_val (cF GW hrW mW FW.kp bW .nil pass0 (aC (iX (ixT K) (oV oLI 0) pe_int) pa_nil)))) (pw_or1 (pt_not (pt_val (cF GW hrW mW FW.kp bW .nil pass0 (aC (iX (ixT K) (oV oLI 0) pe_int) pa_nil)))))))
        (pss_one (ps_ret pe_bl))
        pss_nil)
      (pss_one (ps_ret (pe_and (pe_chain op_le op_lt pe_int (iX (ixT K) (oV oLI 0) pe_int) (oV oLI 1)) (pe_one (pe_cmpR op_gt (iX (ixT K) (oV oLI 0) pe_int) pe_int (nomark _)))))))), ?_⟩
    refine ⟨_, rfl, b, _, _, _, rfl, hb, kit_tuple, _, rfl, ?_⟩
    refine iteF ?_
    refine ⟨_, rfl, b, _, rfl, .inr hb, rfl, _, rfl, ?_⟩
    refine iteNS rfl ?_
    refine ⟨_, rfl, b, _, 0, _, rfl, rfl, hb, rfl, _, rfl, _, rfl, ?_⟩
    refine iteF ?_
    refine ⟨_, rfl, b, _, 1, _, rfl, rfl, hb, rfl, _, rfl, _, rfl, ?_⟩
    refine iteF ?_
    refine ⟨_, rfl, b, _, 0, _, rfl, rfl, hb, rfl, _, _, rfl, rfl, _, rfl, ?_⟩
    rw [decide_eq_true h0]
    refine iteT ⟨_, rfl, _, _, rfl, rfl, _, rfl, ?_⟩
    rw [decide_eq_true h1]
    refine iteT ⟨_, rfl, b, _, 1, _, rfl, rfl, hb, rfl, _, _, rfl, rfl, ?_⟩
    show Q (V.bl (decide (0 < m))) H
    rw [decide_eq_true h2]
    exact q
theorem oIr : ownB ["_law_letter", "_law_clock", "_law_k"] (defScope sIsReady) = true := by decide +kernel
theorem scIr : FnScope ["_law_letter", "_law_clock", "_law_k"] ["_law_letter", "_law_clock"] (defScope sIsReady) := ⟨rfl, rfl, rfl, by decide +kernel, rfl, by decide +kernel, by decide +kernel⟩
theorem ok_isready {f : Addr} {fd : FuncData} (F : Fun K "_law_is_ready" "_law_is_ready" sIsReady f fd) (T : Bts mg) : FnOk P w K mg base CX0 1 f fd ["_law_letter", "_law_clock"] (spIsReady K) := by
  refine okB (body := [stm sIsReady 0, stm sIsReady 1]) F scIr (fun vs H Q E h => ?_) (by kernel_rfl) (fun cdv A outer s H vs Q E hr h => ?_)
  · obtain ⟨a, qc, l, cs, rfl, _⟩ := h
    rfl
  · obtain ⟨a, qc, l, cs, rfl, ⟨b, c, L1, L2, L3⟩, hq, ⟨f1, f2⟩, hn, k⟩ := h
    refine ⟨_, (pss_cons (ps_for PassesOwn.never rfl (rng1 T.range (aC (cB (call_len_seq (X := _)) T.len PySem.boot_len (aC (oV oIr 1) pa_nil)) pa_nil)) (oT oIr 2)
        (pss_one (ps_if (pt_cmpR op_gt (iX (ixT K) (iX (ixT K) (oV oIr 0) pe_int) (oV oIr 2)) (pe_op op_add (iX (ixL K) (oV oIr 1) (oV oIr 2)) (cT call_int1 T.int boot_it (aC (pe_cmpR op_eq (oV oIr 2) (iX (ixT K) (oV oIr 0) pe_int) (nomark _)) pa_nil))) (nomark _))
          (pss_one (ps_ret pe_bl))
          pss_nil)))
      (pss_one (ps_ret (pe_cmpR op_eq (iX (ixT K) (iX (ixT K) (oV oIr 0) pe_int) (iX (ixT K) (oV oIr 0) pe_int)) (pe_op op_add (iX (ixL K) (oV oIr 1) (iX (ixT K) (oV oIr 0) pe_int)) pe_int) (nomark _))))), ?_⟩
    refine ⟨_, rfl, qc, _, rfl, .inl hq, _, rfl, by omega, by rw [List.length_map]; omega, for_range (n := ((nums cs).length : Int).toNat) (lo := 0) (fun j σ Hc => ∃ v, Hc = H ∧ σ = [some (.ref a), some (.ref qc), v] ∧ ∀ m, m < j → l.st.getD m 0 ≤ cs.getD m 0 + if m = l.s then 1 else 0) ⟨none, rfl, rfl, fun m hm => absurd hm (Nat.not_lt_zero _)⟩ ?_ ?_⟩
    · rintro j σ Hc hj ⟨v, e, rfl, hb⟩
      cases e
      have hj' : j < cs.length := by rw [List.length_map] at hj; omega
      refine ⟨_, rfl, a, _, 1, _, rfl, rfl, L1, rfl, _, rfl, b, _, _, _, rfl, rfl, L2, (by rw [Int.zero_add]; exact atI_nat (get_nums (by omega))), _, rfl, _, rfl, qc, _, _, _, rfl, rfl, hq, (by rw [Int.zero_add]; exact atI_nat (get_nums hj')), _, rfl, _, rfl, a, _, 0, _, rfl, rfl, L1, rfl, rfl, .inr ⟨_, rfl, _, _, rfl, rfl, _, _, rfl, rfl, _, rfl, ?_⟩⟩
      have hi : (if decide (V.int (0 + (j : Int)) = V.int (l.s : Int)) = true then (1 : Int) else 0) = if j = l.s then 1 else 0 := by
        by_cases e : j = l.s
        · rw [if_pos e, if_pos (by rw [e]; simp)]
        · rw [if_neg e, if_neg (by simp; omega)]
      rw [hi]
      refine ite2 (fun h => ?_) (fun h => ⟨_, rfl, rfl, fun m hm => ?_⟩)
      · have h := of_decide_eq_true h
        have : readyB l.s l.st cs = false := by
          rw [Bool.eq_false_iff]
          intro z
          obtain ⟨z1, z2⟩ := ready_iff.mp z
          by_cases e : j = l.s
          · subst e; rw [if_pos rfl] at h; omega
          · have := z2 j hj' e
            rw [if_neg e] at h; omega
        rw [this] at k
        exact k
      · have h : ¬ cs.getD j 0 + (if j = l.s then 1 else 0) < l.st.getD j 0 := fun z => h (decide_eq_true z)
        by_cases e : m = j
        · subst e; omega
        · exact hb m (by omega)
    · rintro σ Hc ⟨v, e, rfl, hb⟩
      cases e
      refine ⟨_, rfl, a, _, 1, _, rfl, rfl, L1, rfl, _, rfl, a, _, 0, _, rfl, rfl, L1, rfl, b, _, _, _, rfl, rfl, L2, atI_nat (get_nums (by omega)), _, rfl, _, rfl, a, _, 0, _, rfl, rfl, L1, rfl, qc, _, _, _, rfl, rfl, hq, atI_nat (get_nums f1), _, _, rfl, rfl, rfl, ?_⟩
      have hb : ∀ m, m < cs.length → l.st.getD m 0 ≤ cs.getD m 0 + if m = l.s then 1 else 0 := fun m hm => hb m (by rw [List.length_map]; omega)
      have : decide (V.int (l.st.getD l.s 0) = V.int (cs.getD l.s 0 + 1)) = readyB l.s l.st cs := by
        rw [Bool.eq_iff_iff, decide_eq_true_eq, ready_iff]
        constructor
        · intro z
          refine ⟨V.int.inj z, fun m hm hs => ?_⟩
          have := hb m hm
          rw [if_neg hs] at this; omega
        · intro z; rw [z.1]
      rw [this]
      exact k
theorem oGi : ownB ["_law_tray", "_law_clock", "_law_told", "_law_spot", "_law_letter"] (defScope sGiven) = true := by decide +kernel
theorem scGi : FnScope ["_law_tray", "_law_clock", "_law_told", "_law_spot", "_law_letter"] ["_law_tray", "_law_clock"] (defScope sGiven) := ⟨rfl, rfl, rfl, by decide +kernel, rfl, by decide +kernel, by decide +kernel⟩
def GivW (K : PySem.W.Frag) (H : Hp) (qt qc q : Addr) (n : Nat) (ls : List Let) (cs : List Int) : Nat → L2.St → Hp → Prop := fun m σ Hc =>
  ∃ (sp : Nat) (u : Option V) (ls' done : List Let) (cs' : List Int) (ts' xs : List V), σ = [some (.ref qt), some (.ref qc), some (.ref q), some (.int sp), u] ∧ Keep2 qt qc H Hc ∧ Hc q = some (.lst xs) ∧ RepDs K Hc (done.map nameD) xs ∧ Hc qt = some (.lst ts') ∧ RepDs K Hc (ls'.map letD) ts' ∧ Hc qc = some (.lst (nums cs')) ∧ cs'.length = n ∧
    (∀ l ∈ ls', Fit n l) ∧ ls'.Nodup ∧ sp ≤ ls'.length ∧ (∀ l ∈ ls'.take sp, readyB l.s l.st cs' = false) ∧ ls'.length + done.length ≤ 900 ∧ m = ls'.length * 1000 + (ls'.length - sp) ∧ given ls.length ls cs = (done ++ (given ls'.length ls' cs').1, (given ls'.length ls' cs').2)
theorem ok_given {f : Addr} {fd fdR : FuncData} (F : Fun K "_law_given" "_law_given" sGiven f fd) (T : Bts mg) (mR : mg "_law_is_ready" = some (.ref fR)) (FR : Fun K "_law_is_ready" "_law_is_ready" sIsReady fR fdR) (bR : Binds K fdR ["_law_letter", "_law_clock"] []) : FnOk P w K mg base CX0 2 f fd ["_law_tray", "_law_clock"] (spGiven K) := by
  have GR : FnOk P w K mg base CX0 1 fR fdR ["_law_letter", "_law_clock"] (spIsReady K) := ok_isready FR T
  refine okB (body := [stm sGiven 0, stm sGiven 1, stm sGiven 2, stm sGiven 3]) F scGi (fun vs H Q E h => ?_) (by kernel_rfl) (fun cdv A outer s H vs Q E hr h => ?_)
  · obtain ⟨qt, qc, ts, ls, cs, n, rfl, _⟩ := h
    rfl
  · obtain ⟨qt, qc, ts, ls, cs, n, rfl, ht, hts, hc, ntc, hfit, hcl, hn, hnd, hlen, k⟩ := h
    refine ⟨_, (pss_cons (oS oGi 2 (pe_lst pa_nil))
      (pss_cons (oS oGi 3 pe_int)
      (pss_cons (ps_while PassesOwn.never (pt_cmpR op_lt (oV oGi 3) (cB (call_len_seq (X := _)) T.len PySem.boot_len (aC (oV oGi 0) pa_nil)) (nomark _))
        (pss_cons (oS oGi 4 (iX (ixL K) (oV oGi 0) (oV oGi 3)))
        (pss_cons (oS oGi 3 (pe_op op_add (oV oGi 3) pe_int))
        (pss_one (ps_if (pt_val (cF GR hr mR FR.kp bR .nil pass0 (aC (oV oGi 4) (aC (oV oGi 1) pa_nil))))
          (pss_cons (ps_expr (bM PySem.F.plainAttrs_list PySem.F.slot_list_remove PySem.F.type_list_remove (mt_removeD (n := 10) (room_in hr)) (oV oGi 0) (aC (oV oGi 4) pa_nil)))
          (pss_cons (ps_asg (pe_op op_add (iX (ixL K) (oV oGi 1) (iX (ixT K) (oV oGi 4) pe_int)) pe_int) (pg_sub (oV oGi 1) (iX (ixT K) (oV oGi 4) pe_int) set_list))
          (pss_cons (ps_expr (mApp (oV oGi 2) (pe_tup (aC (iX (ixT K) (oV oGi 4) pe_int) (aC (iX (ixT K) (iX (ixT K) (oV oGi 4) pe_int) (iX (ixT K) (oV oGi 4) pe_int)) pa_nil)))))
          (pss_one (oS oGi 3 pe_int)))))
          pss_nil)))))
      (pss_one (ps_ret (oV oGi 2)))))), ?_⟩
    refine ⟨len0, fun q nq => ?_⟩
    have sq := same_new (o := .lst []) nq
    have nqt : q ≠ qt := fun z => by rw [z, ht] at nq; cases nq
    have nqc : q ≠ qc := fun z => by rw [z, hc] at nq; cases nq
    refine ⟨GivW K H qt qc q n ls cs, ⟨_, 0, none, ls, [], cs, ts, [], rfl, fun c o h _ _ => sq _ _ h, upd_same, rfl, sq _ _ ht, RepDs.same sq _ _ hts, sq _ _ hc, hcl, hfit, hnd, Nat.zero_le _, (fun l hl => by simp at hl), by simp; omega, rfl, by simp⟩, ?_⟩
    rintro m σ Hc ⟨sp, u, ls', done, cs', ts', xs, rfl, kp, hq, hxs, hqt, hts', hqc, hcl', hfit', hnd', hsp, hno, hsz, hm, htot⟩
    have tlen : ts'.length = ls'.length := by rw [reps_len hts', List.length_map]
    have xlen : xs.length = done.length := by rw [reps_len hxs, List.length_map]
    refine ⟨_, rfl, _, rfl, qt, _, rfl, .inl (SqL.of hqt), _, _, rfl, rfl, _, rfl, ite2 (fun hlt => ?_) (fun hge => ?_)⟩
    · have hlt : sp < ls'.length := by have := of_decide_eq_true hlt; omega
      refine ⟨fun σ' H' => ∃ m', m' < m ∧ GivW K H qt qc q n ls cs m' σ' H', fun σ' H' h => h, ?_⟩
      obtain ⟨x, hx, rx⟩ := reps_get hts' (i := sp) (d := letD ls'[sp]) (by rw [List.getElem?_map, List.getElem?_eq_getElem hlt]; rfl)
      obtain ⟨a, rfl, La⟩ := letAt_iff.mp rx
      have hl : ls'[sp]? = some ls'[sp] := List.getElem?_eq_getElem hlt
      have hf := hfit' ls'[sp] (List.getElem_mem hlt)
      have hmem : ls'[sp] ∈ ls' := List.getElem_mem hlt
      generalize hll : ls'[sp] = l at La hl hf hmem rx
      refine ⟨_, rfl, _, rfl, qt, _, _, _, rfl, rfl, SqL.of hqt, atI_nat hx, ?_⟩
      refine ⟨_, rfl, _, _, rfl, rfl, ?_⟩
      refine ⟨_, rfl, _, rfl, a, qc, l, cs', rfl, La, SqL.of hqc, (by rw [hcl']; exact hf), by omega, _, rfl, ?_⟩
      cases hrd : readyB l.s l.st cs' with
      | false =>
        refine iteF ⟨ls'.length * 1000 + (ls'.length - (sp + 1)), by omega, sp + 1, _, ls', done, cs', ts', xs, rfl, kp, hq, hxs, hqt, hts', hqc, hcl', hfit', hnd', hlt, fun x hx => ?_, hsz, rfl, htot⟩
        rw [List.take_succ, hl] at hx
        rcases List.mem_append.mp hx with z | z
        · exact hno x z
        · have : x = l := by simpa using z
          rw [this]; exact hrd
      | true =>
        have hfirst := first_at hno hl hrd
        have htot' := htot
        rw [given_yes hfirst hl] at htot'
        obtain ⟨b, c, L1, L2, L3⟩ := La
        refine iteT ⟨_, rfl, .inl ⟨rfl, _, SqL.of hqt⟩, _, rfl, qt, ts', _, ls'.map letD, letD l, sp, rfl, rfl, hqt, hts', rx, lay_letters _, lay_letter l, ?_, ⟨by rw [List.length_map]; exact hlt, ?_⟩, fun m' hm' hlt' => ?_, ?_⟩
        · have := depth_let l
          exact Nat.le_trans (Nat.min_le_right _ _) (by omega)
        · rw [List.getElem_map, hll, eqv_let]; simp
        · rw [List.getElem_map, eqv_let]
          refine decide_eq_false fun e => ?_
          rw [List.length_map] at hm'
          have nd := hnd'
          rw [List.nodup_iff_pairwise_ne, List.pairwise_iff_getElem] at nd
          exact nd m' sp hm' hlt hlt' (e.trans hll.symm)
        have i1 := imm_lst (ys := ts'.eraseIdx sp) hqt
        have hqc1 : (upd Hc qt (.lst (ts'.eraseIdx sp))) qc = some (.lst (nums cs')) := (upd_ne ntc.symm).trans hqc
        have hq1 : (upd Hc qt (.lst (ts'.eraseIdx sp))) q = some (.lst xs) := (upd_ne nqt).trans hq
        refine ⟨_, rfl, _, rfl, a, _, 0, _, rfl, rfl, i1.sqT L1, rfl, qc, _, _, _, rfl, rfl, SqL.of hqc1, atI_nat (get_nums (by rw [hcl']; exact hf.1)), _, _, rfl, rfl, _, rfl, _, rfl, a, _, 0, _, rfl, rfl, i1.sqT L1, rfl, qc, _, (l.s : Int), l.s, rfl, rfl, hqc1, ixN_nat (by rw [List.length_map, hcl']; exact hf.1), ?_⟩
        dsimp only
        rw [set_nums, show cs'.set l.s (cs'.getD l.s 0 + 1) = inc cs' l.s from rfl]
        have i2 := imm_lst (ys := nums (inc cs' l.s)) hqc1
        have hq2 : (upd (upd Hc qt (.lst (ts'.eraseIdx sp))) qc (.lst (nums (inc cs' l.s)))) q = some (.lst xs) := (upd_ne nqc).trans hq1
        have i12 := i1.trans i2
        refine ⟨_, rfl, .inl ⟨rfl, _, SqL.of hq2⟩, _, rfl, a, _, 0, _, rfl, rfl, i12.sqT L1, rfl, _, rfl, a, _, 1, _, rfl, rfl, i12.sqT L1, rfl, _, rfl, a, _, 0, _, rfl, rfl, i12.sqT L1, rfl, b, _, _, _, rfl, rfl, i12.sqT L2, atI_nat (get_nums (by rw [hf.2]; exact hf.1)), len2, fun t nt => ?_⟩
        have s3 := same_new (o := .tup [.int l.s, .int (l.st.getD l.s 0)]) nt
        have hq3 := s3 _ _ hq2
        have ntq : t ≠ q := fun z => by rw [z, hq2] at nt; cases nt
        have hqc3 := s3 _ _ (upd_same (H := upd Hc qt (.lst (ts'.eraseIdx sp))) (a := qc) (o := .lst (nums (inc cs' l.s))))
        have hqt3 := s3 _ _ (show (upd (upd Hc qt (.lst (ts'.eraseIdx sp))) qc (.lst (nums (inc cs' l.s)))) qt = some (.lst (ts'.eraseIdx sp)) from (upd_ne ntc).trans upd_same)
        have ht3 : (upd (upd (upd Hc qt (.lst (ts'.eraseIdx sp))) qc (.lst (nums (inc cs' l.s)))) t (.tup [.int l.s, .int (l.st.getD l.s 0)])) t = some (.tup [.int l.s, .int (l.st.getD l.s 0)]) := upd_same
        have i13 := i12.trans s3.imm
        have kp3 : Keep2 qt qc H (upd (upd (upd Hc qt (.lst (ts'.eraseIdx sp))) qc (.lst (nums (inc cs' l.s)))) t (.tup [.int l.s, .int (l.st.getD l.s 0)])) := fun c o h n1 n2 => s3 _ _ ((upd_ne n2).trans ((upd_ne n1).trans (kp c o h n1 n2)))
        refine ⟨q, _, _, rfl, rfl, hq3, small1000 (by omega), ?_⟩
        generalize upd (upd (upd Hc qt (.lst (ts'.eraseIdx sp))) qc (.lst (nums (inc cs' l.s)))) t (.tup [.int l.s, .int (l.st.getD l.s 0)]) = H3 at hq3 hqc3 hqt3 ht3 i13 kp3
        have i4 := imm_lst (ys := xs ++ [.ref t]) hq3
        have hel : (ls'.eraseIdx sp).length + 1 = ls'.length := by rw [List.length_eraseIdx_of_lt hlt]; omega
        refine ⟨(ls'.eraseIdx sp).length * 1000 + ((ls'.eraseIdx sp).length - 0), by omega, 0, _, ls'.eraseIdx sp, done ++ [l], inc cs' l.s, ts'.eraseIdx sp, xs ++ [.ref t], rfl, fun c o h n1 n2 => ?_, upd_same, ?_, (upd_ne nqt.symm).trans hqt3, ?_, (upd_ne nqc.symm).trans hqc3, ?_, fun x hx => hfit' x (List.mem_of_mem_eraseIdx hx), hnd'.sublist (List.eraseIdx_sublist _ _), Nat.zero_le _, (fun x hx => by simp at hx), ?_, rfl, ?_⟩
        · have : c ≠ q := fun z => by rw [z, nq] at h; cases h
          exact (upd_ne this).trans (kp3 c o h n1 n2)
        · rw [List.map_append]
          exact RepDs.imm i4 _ _ (by rw [← List.map_append]; exact noList_names _) (reps_append (RepDs.imm i13 _ _ (noList_names _) hxs) (reps_one (name_rep (l := l) (SqT.of ht3))))
        · rw [show (ls'.eraseIdx sp).map letD = (ls'.map letD).eraseIdx sp from (map_erase _ _).symm]
          exact reps_erase sp (RepDs.imm (i13.trans i4) _ _ (noList_lets _) hts')
        · unfold inc; rw [List.length_set]; exact hcl'
        · rw [List.length_append, List.length_singleton]; omega
        · rw [htot', List.append_assoc]; rfl
    · have hge : sp = ls'.length := by
        have : ¬ (sp : Int) < (ts'.length : Nat) := fun z => hge (decide_eq_true z)
        omega
      rw [hge, List.take_length] at hno
      rw [given_no (first_no hno), List.append_nil] at htot
      refine ⟨_, rfl, k q xs ts' Hc kp nq hq (by rw [htot]; exact hxs) hqt (by rw [htot]; exact hts') (by rw [htot]; exact hqc)⟩
end
end Of

end

section
set_option Elab.async false
set_option linter.all false
set_option maxRecDepth 100000
set_option maxHeartbeats 4000000
seal L2.PE L2.PT L2.PW L2.PA L2.PS L2.PSs L2.PG L2.PGs L2.PI L3.PTs L2.PO L2.CallR L2.OpR L2.IxR L2.MtR L2.PSet L2.SlR
namespace Of
open PySem L2 L3 L4 L5
theorem both {b : Bool} {D : Ends} {t : TS} {σ : L2.St} {H : Hp} (Pd : L2.St → Hp → Prop) (tail : ∀ σ' H', Pd σ' H' → D.nx σ' H') (h1 : b = true → (∀ σ' H', Pd σ' H' → D.nx σ' H') → t D σ H) (h2 : b = false → Pd σ H) : if b = true then t D σ H else tNext D σ H := by
  cases b with
  | true => rw [if_pos rfl]; exact h1 rfl tail
  | false => rw [if_neg Bool.false_ne_true]; exact tail σ H (h2 rfl)
theorem upd_self {H : Hp} {a : Addr} {o : HO} (h : H a = some o) : upd H a o = H := by
  funext b
  by_cases e : b = a
  · rw [e, upd_same, h]
  · rw [upd_ne e]
/-- a list of lists of numbers -/
structure RowsAt (H : Hp) (lc : Addr) (rs : List Addr) (rows : List (List Int)) : Prop where
  hl : H lc = some (.lst (rs.map V.ref))
  ln : rs.length = rows.length
  nd : rs.Nodup
  nl : lc ∉ rs
  at_ : ∀ u r, rs[u]? = some r → H r = some (.lst (nums (rows.getD u [])))
theorem RowsAt.same {H H' : Hp} {lc : Addr} {rs : List Addr} {rows : List (List Int)} (h : RowsAt H lc rs rows) (e : Same H H') : RowsAt H' lc rs rows := ⟨e _ _ h.hl, h.ln, h.nd, h.nl, fun u r hu => e _ _ (h.at_ u r hu)⟩
theorem RowsAt.set {H : Hp} {lc : Addr} {rs : List Addr} {rows : List (List Int)} {u : Nat} {r : Addr} {row : List Int} (h : RowsAt H lc rs rows) (hu : rs[u]? = some r) : RowsAt (upd H r (.lst (nums row))) lc rs (rows.set u row) := by
  have hul := (List.getElem?_eq_some_iff.mp hu).1
  refine ⟨(upd_ne (fun z => h.nl (by rw [z]; exact List.mem_of_getElem? hu))).trans h.hl, by rw [List.length_set]; exact h.ln, h.nd, h.nl, fun v r' hv => ?_⟩
  rw [getD_set (by rw [← h.ln]; exact hul)]
  by_cases e : u = v
  · subst e
    rw [hu] at hv
    cases hv
    rw [if_pos rfl, upd_same]
  · rw [if_neg e]
    have : r' ≠ r := fun z => by
      have nd := h.nd
      obtain ⟨h1, e1⟩ := List.getElem?_eq_some_iff.mp hu
      obtain ⟨h2, e2⟩ := List.getElem?_eq_some_iff.mp hv
      exact e ((List.getElem_inj nd).mp (e1.trans (z.symm.trans e2.symm)))
    rw [upd_ne this]
    exact h.at_ v r' hv
theorem RowsAt.other {H : Hp} {lc b : Addr} {o : HO} {rs : List Addr} {rows : List (List Int)} (h : RowsAt H lc rs rows) (h1 : b ≠ lc) (h2 : b ∉ rs) : RowsAt (upd H b o) lc rs rows :=
  ⟨(upd_ne h1.symm).trans h.hl, h.ln, h.nd, h.nl, fun u r hu => (upd_ne (fun z => h2 (by rw [← z]; exact List.mem_of_getElem? hu))).trans (h.at_ u r hu)⟩
def okPay (c : Nat) : What → Prop
  | .pay t m => t = (c : Int) ∧ 0 ≤ m
  | .cut => True
def spSentL (K : PySem.W.Frag) : Sp := fun vs H Q _ => ∃ (a : Addr) (ns : List Int) (c : Nat), vs = [.ref a, .int c] ∧ SqL K H a (nums ns) ∧ 1 ≤ c ∧ c ≤ 3 ∧ ns.length ≤ 40 ∧
  ∀ (q : Addr) (xs : List V) (ls : List Let) (H' : Hp), Same H H' → H q = none → H' q = some (.lst xs) → RepDs K H' (ls.map letD) xs → Mail (c + 1) ls → (∀ l ∈ ls, l.s < c ∧ okPay c l.w) → ls.length = ns.length → Q (.ref q) H'
def mix (r t : List Int) (j : Nat) : List Int := (List.zipWith max r t).take j ++ r.drop j
theorem mix_len {r t : List Int} {j : Nat} (h : r.length = t.length) (hj : j ≤ r.length) : (mix r t j).length = r.length := by
  unfold mix
  rw [List.length_append, List.length_take, List.length_drop, List.length_zipWith]; omega
theorem mix_get {r t : List Int} {j : Nat} (h : r.length = t.length) (hj : j < r.length) : (mix r t j).getD j 0 = r.getD j 0 := by
  unfold mix
  have : ((List.zipWith max r t).take j).length = j := by rw [List.length_take, List.length_zipWith]; omega
  rw [List.getD_eq_getElem?_getD, List.getElem?_append_right (by omega), this, Nat.sub_self, List.getElem?_drop, Nat.add_zero, ← List.getD_eq_getElem?_getD]
theorem mix_set {r t : List Int} {j : Nat} (h : r.length = t.length) (hj : j < r.length) : (mix r t j).set j (max (r.getD j 0) (t.getD j 0)) = mix r t (j + 1) := by
  unfold mix
  have hz : j < (List.zipWith max r t).length := by rw [List.length_zipWith]; omega
  have hl : ((List.zipWith max r t).take j).length = j := by rw [List.length_take]; omega
  rw [List.set_append_right _ _ (by omega), hl, Nat.sub_self, List.drop_eq_getElem_cons hj, List.set_cons_zero, List.take_succ, List.getElem?_eq_getElem hz, List.append_assoc]
  have : (List.zipWith max r t)[j] = max (r.getD j 0) (t.getD j 0) := by
    rw [List.getElem_zipWith, List.getD_eq_getElem?_getD, List.getD_eq_getElem?_getD, List.getElem?_eq_getElem hj, List.getElem?_eq_getElem (by omega : j < t.length)]; rfl
  rw [this]
  rfl
theorem mix_zero {r t : List Int} : mix r t 0 = r := by unfold mix; simp
theorem mix_all {r t : List Int} (h : r.length = t.length) : mix r t r.length = List.zipWith max r t := by
  unfold mix
  rw [List.drop_length, List.append_nil, List.take_of_length_le (by rw [List.length_zipWith]; omega)]
section
variable {P : Program} {w : World} {K : PySem.W.Frag} {mg : Str → Option Value} {base : Heap}
theorem oSt : ownB ["_law_cells", "_law_count", "_law_clocks", "_law_letters", "_law_k", "_law_own", "_law_other", "_law_j", "_law_what"] (defScope sSentL) = true := by decide +kernel
theorem scSt : FnScope ["_law_cells", "_law_count", "_law_clocks", "_law_letters", "_law_k", "_law_own", "_law_other", "_law_j", "_law_what"] ["_law_cells", "_law_count"] (defScope sSentL) := ⟨rfl, rfl, rfl, by decide +kernel, rfl, by decide +kernel, by decide +kernel⟩
theorem ok_sentL {f : Addr} {fd : FuncData} (F : Fun K "_law_sent" "_law_sent" sSentL f fd) (T : Bts mg) (mx : mg "max" = none) : FnOk P w K mg base CX0 1 f fd ["_law_cells", "_law_count"] (spSentL K) := by
  refine okB (body := [stm sSentL 0, stm sSentL 1, stm sSentL 2, stm sSentL 3]) F scSt (fun vs H Q E h => ?_) (by kernel_rfl) (fun cdv A outer s H vs Q E hr h => ?_)
  · obtain ⟨a, ns, c, rfl, _⟩ := h
    rfl
  · obtain ⟨a, ns, c, rfl, ha, hc1, hc3, hns, k⟩ := h
    refine ⟨_, (pss_cons (oC oSt 2 [1] ["_law_count"] rfl (rng1 T.range (aC (oV oSt 1) pa_nil)) (fun _ _ _ _ _ => pts_nil) (fun _ _ _ _ _ => (pe_op op_rep (pe_lst (aC pe_int pa_nil)) (pe_op op_add (sV 1) pe_int))))
      (pss_cons (oS oSt 3 (pe_lst pa_nil))
      (pss_cons (ps_for PassesOwn.never rfl (rng1 T.range (aC (cB (call_len_seq (X := _)) T.len PySem.boot_len (aC (oV oSt 0) pa_nil)) pa_nil)) (oT oSt 4)
        (pss_cons (oS oSt 5 (pe_op op_mod (pe_op op_mod (pe_op op_mul (pe_op op_add (iX (ixL K) (oV oSt 0) (oV oSt 4)) (oV oSt 4)) pe_int) pe_int) (oV oSt 1)))
        (pss_cons (oS oSt 6 (pe_op op_mod (pe_op op_mod (pe_op op_mul (pe_op op_add (pe_op op_add (iX (ixL K) (oV oSt 0) (oV oSt 4)) (pe_op op_mul pe_int (oV oSt 4))) pe_int) pe_int) pe_int) (oV oSt 1)))
        (pss_cons (ps_if (pt_cmpR op_lt (pe_op op_mod (pe_op op_mod (pe_op op_mul (iX (ixL K) (oV oSt 0) (oV oSt 4)) pe_int) pe_int) pe_int) pe_int (nomark _))
          (pss_one (ps_for PassesOwn.never rfl (rng1 T.range (aC (pe_op op_add (oV oSt 1) pe_int) pa_nil)) (oT oSt 7)
            (pss_one (ps_asg (cB (call_max2 rfl) mx boot_max (aC (iX (ixL K) (iX (ixL K) (oV oSt 2) (oV oSt 5)) (oV oSt 7)) (aC (iX (ixL K) (iX (ixL K) (oV oSt 2) (oV oSt 6)) (oV oSt 7)) pa_nil))) (pg_sub (iX (ixL K) (oV oSt 2) (oV oSt 5)) (oV oSt 7) set_list)))))
          pss_nil)
        (pss_cons (ps_asg (pe_op op_add (iX (ixL K) (iX (ixL K) (oV oSt 2) (oV oSt 5)) (oV oSt 5)) pe_int) (pg_sub (iX (ixL K) (oV oSt 2) (oV oSt 5)) (oV oSt 5) set_list))
        (pss_cons (oS oSt 8 (pe_tup (aC pe_str pa_nil)))
        (pss_cons (ps_if (pt_cmpR op_gt (pe_op op_mod (pe_op op_mod (pe_op op_mul (iX (ixL K) (oV oSt 0) (oV oSt 4)) pe_int) pe_int) pe_int) pe_int (nomark _))
          (pss_one (oS oSt 8 (pe_tup (aC pe_str (aC (oV oSt 1) (aC (pe_op op_mod (pe_op op_mod (pe_op op_mul (iX (ixL K) (oV oSt 0) (oV oSt 4)) pe_int) pe_int) pe_int) pa_nil))))))
          pss_nil)
        (pss_one (ps_expr (mApp (oV oSt 3) (pe_tup (aC (oV oSt 5) (aC (cT call_tuple_of T.tuple boot_tup (aC (iX (ixL K) (oV oSt 2) (oV oSt 5)) pa_nil)) (aC (oV oSt 8) pa_nil))))))))))))))
      (pss_one (ps_ret (oV oSt 3)))))), ?_⟩
    refine ⟨_, rfl, _, rfl, by omega, by omega, comp_range (n := ((c : Nat) : Int).toNat) (lo := 0) (fun D i ys H2 => ∃ rs : List Addr, ys = rs.map V.ref ∧ rs.length = i ∧ rs.Nodup ∧ D ∉ rs ∧ (∀ r ∈ rs, H2 r = some (.lst (nums (List.replicate (c + 1) 0))) ∧ H r = none) ∧ Same H H2 ∧ H2 D = some (.lst ys))
      (fun D hD => ⟨[], rfl, rfl, List.nodup_nil, by simp, (fun r hr => by simp at hr), same_new hD, upd_same⟩) (fun D i ys H2 _ _ ⟨rs, _, _, _, _, _, _, h⟩ => h) (fun D i ys H2 hD hi ⟨rs, e1, e2, e3, e4, e5, e6, e7⟩ => ?_) (fun lc ys H2 hD ⟨rs, e1, e2, e3, e4, e5, e6, e7⟩ => ?_)⟩
    · refine ⟨len1, fun z nz => ⟨_, rfl, _, _, rfl, rfl, z, ((c : Int) + 1), _, rfl, rfl, upd_same, by omega, by omega, big _ (by show 1 * ((c : Int) + 1).toNat ≤ 1000000; omega), fun r nr => ?_⟩⟩
      have s1 := same_new (o := .lst [.int 0]) nz
      have s2 := same_new (o := .lst (List.replicate ((c : Int) + 1).toNat [V.int 0]).flatten) nr
      have er : (List.replicate ((c : Int) + 1).toNat [V.int 0]).flatten = nums (List.replicate (c + 1) 0) := by rw [show ((c : Int) + 1).toNat = c + 1 by omega, rep0]
      rw [er] at s2 ⊢
      have nrs : ∀ r' ∈ rs, r' ≠ r := fun r' hr' z => by rw [← z, s1 _ _ (e5 r' hr').1] at nr; cases nr
      have nrD : D ≠ r := fun z => by rw [← z, s1 _ _ e7] at nr; cases nr
      have hD3 := (s1.trans s2) _ _ e7
      have hrn : H r = none := (e6.trans s1).free nr
      refine ⟨hD3, small1000 (by rw [e1, List.length_map, e2]; omega), rs ++ [r], by rw [e1]; simp, by rw [List.length_append, e2]; rfl, ?_, ?_, fun r' hr' => ?_, same_upd ((e6.trans s1).trans s2) hD, upd_same⟩
      · rw [List.nodup_append]
        refine ⟨e3, by simp, fun x hx y hy => ?_⟩
        have : y = r := by simpa using hy
        subst this; exact nrs x hx
      · intro z
        rcases List.mem_append.mp z with z | z
        · exact e4 z
        · exact nrD (by simpa using z)
      · rcases List.mem_append.mp hr' with z | z
        · exact ⟨(upd_ne (fun y => e4 (by rw [← y]; exact z))).trans ((s1.trans s2) _ _ (e5 r' z).1), (e5 r' z).2⟩
        · have : r' = r := by simpa using z
          subst this
          exact ⟨(upd_ne nrD.symm).trans upd_same, hrn⟩
    · rw [Int.toNat_natCast] at e2
      have R0 : RowsAt H2 lc rs (List.replicate c (List.replicate (c + 1) 0)) := ⟨by rw [e7, e1], by rw [e2, List.length_replicate], e3, e4, fun u r hu => by
        have hu' := (List.getElem?_eq_some_iff.mp hu).1
        rw [(e5 r (List.mem_of_getElem? hu)).1, List.getD_eq_getElem?_getD, List.getElem?_replicate, if_pos (by omega)]; rfl⟩
      have hrn : ∀ r ∈ rs, H r = none := fun r hr => (e5 r hr).2
      have hlcn : H lc = none := hD
      clear e5 e7 e1
      refine ⟨len0, fun ll nll => ?_⟩
      have sl := same_new (o := .lst []) nll
      have nlc : ll ≠ lc := fun z => by rw [z, R0.hl] at nll; cases nll
      have nlr : ll ∉ rs := fun z => by
        obtain ⟨u, hu⟩ := List.getElem?_of_mem z
        rw [R0.at_ u ll hu] at nll; cases nll
      have hlln : H ll = none := e6.free nll
      refine ⟨_, rfl, a, _, rfl, .inl ((e6.trans sl).seq ha), _, rfl, by omega, by rw [List.length_map]; omega, for_range (n := ((nums ns).length : Int).toNat) (lo := 0) (fun i σ Hc => ∃ (v4 v5 v6 v7 v8 : Option V) (S : List (List Int) × List Let) (xs : List V), σ = [some (.ref a), some (.int c), some (.ref lc), some (.ref ll), v4, v5, v6, v7, v8] ∧ Same H Hc ∧ RowsAt Hc lc rs S.1 ∧ Hc ll = some (.lst xs) ∧ RepDs K Hc (S.2.map letD) xs ∧ Srv c S ∧ S.2.length = i ∧ ∀ l ∈ S.2, okPay c l.w)
        ⟨none, none, none, none, none, (List.replicate c (List.replicate (c + 1) 0), []), [], rfl, e6.trans sl, R0.same sl, upd_same, rfl, Srv.start, rfl, (fun l hl => by simp at hl)⟩ ?_ ?_⟩
      · rintro i σ Hc hi ⟨v4, v5, v6, v7, v8, ⟨rows, ls⟩, xs, rfl, e, R, hll, hxs, SV, hlen, hok⟩
        dsimp only at R hxs hlen hok
        have hi' : i < ns.length := by rw [List.length_map] at hi; omega
        have gi : atI (nums ns) (0 + (i : Int)) = some (.int (ns.getD i 0)) := by rw [Int.zero_add]; exact atI_nat (get_nums hi')
        have hac := e.seq ha
        generalize ns.getD i 0 = x at gi
        refine ⟨_, rfl, _, rfl, a, _, _, _, rfl, rfl, hac, gi, _, rfl, _, _, rfl, rfl, _, _, rfl, rfl, cmul (by decide) (by decide), _, _, rfl, rfl, (by show (0 : Int) < 1009; decide), _, rfl, _, _, rfl, rfl, (by show (0 : Int) < (c : Int); omega), ?_⟩
        dsimp only
        obtain ⟨own, eo⟩ := Int.eq_ofNat_of_zero_le (Int.emod_nonneg ((x + (0 + (i : Int))) * 48271 % 1009) (by omega : (c : Int) ≠ 0))
        have ho : own < c := by have := Int.emod_lt_of_pos ((x + (0 + (i : Int))) * 48271 % 1009) (by omega : (0 : Int) < (c : Int)); omega
        rw [eo]
        refine ⟨_, rfl, _, rfl, a, _, _, _, rfl, rfl, hac, gi, _, rfl, _, _, rfl, rfl, .inl ⟨by decide, by decide⟩, _, _, rfl, rfl, _, _, rfl, rfl, _, _, rfl, rfl, cmul (by decide) (by decide), _, _, rfl, rfl, (by show (0 : Int) < 1013; decide), _, rfl, _, _, rfl, rfl, (by show (0 : Int) < (c : Int); omega), ?_⟩
        dsimp only
        obtain ⟨oth, et⟩ := Int.eq_ofNat_of_zero_le (Int.emod_nonneg ((x + 2 * (0 + (i : Int)) + 1) * 48271 % 1013) (by omega : (c : Int) ≠ 0))
        have hot : oth < c := by have := Int.emod_lt_of_pos ((x + 2 * (0 + (i : Int)) + 1) * 48271 % 1013) (by omega : (0 : Int) < (c : Int)); omega
        rw [et]
        have hrl : rs.length = c := e2
        obtain ⟨ro, hro⟩ : ∃ ro, rs[own]? = some ro := ⟨rs[own], List.getElem?_eq_getElem (by omega)⟩
        obtain ⟨rt, hrt⟩ : ∃ rt, rs[oth]? = some rt := ⟨rs[oth], List.getElem?_eq_getElem (by omega)⟩
        have gro : ∀ (H' : Hp), H' lc = some (.lst (rs.map V.ref)) → atI (rs.map V.ref) (own : Int) = some (.ref ro) := fun _ _ => atI_nat (by rw [List.getElem?_map, hro]; rfl)
        have go : atI (rs.map V.ref) (own : Int) = some (.ref ro) := atI_nat (by rw [List.getElem?_map, hro]; rfl)
        have gt : atI (rs.map V.ref) (oth : Int) = some (.ref rt) := atI_nat (by rw [List.getElem?_map, hrt]; rfl)
        have lr := SV.rl own ho
        have lt := SV.rl oth hot
        dsimp only at lr lt
        have hR := R.at_ own ro hro
        have hT := R.at_ oth rt hrt
        have nlo : lc ≠ ro := fun z => R.nl (by rw [z]; exact List.mem_of_getElem? hro)
        have nllo : ll ≠ ro := fun z => nlr (by rw [z]; exact List.mem_of_getElem? hro)
        refine ⟨_, rfl, _, rfl, a, _, _, _, rfl, rfl, hac, gi, _, _, rfl, rfl, cmul (by decide) (by decide), _, _, rfl, rfl, (by show (0 : Int) < 1019; decide), _, _, rfl, rfl, (by show (0 : Int) < 4; decide), _, _, rfl, rfl, _, rfl, ?_⟩
        dsimp only
        generalize hb : decide (x * 48271 % 1019 % 4 < 2) = bb
        refine both (fun σ' H' => ∃ v, σ' = [some (V.ref a), some (.int c), some (.ref lc), some (.ref ll), some (.int (0 + (i : Int))), some (.int own), some (.int oth), v, v8] ∧ H' = upd Hc ro (.lst (nums (learned (rows.getD own []) (rows.getD oth []) bb)))) ?_ ?_ ?_
        · rintro σ' H' ⟨v, rfl, rfl⟩
          have R1 := R.set (row := learned (rows.getD own []) (rows.getD oth []) bb) hro
          have hL : (learned (rows.getD own []) (rows.getD oth []) bb).length = c + 1 := by
            unfold learned; split
            · rw [List.length_zipWith, lr, lt]; omega
            · exact lr
          generalize hLe : learned (rows.getD own []) (rows.getD oth []) bb = L at R1 hL
          have hoL : own < L.length := by omega
          refine ⟨_, rfl, _, rfl, lc, _, _, _, rfl, rfl, SqL.of R1.hl, go, _, rfl, ro, _, _, _, rfl, rfl, SqL.of upd_same, atI_nat (get_nums hoL), _, _, rfl, rfl, _, rfl, _, rfl, lc, _, _, _, rfl, rfl, SqL.of R1.hl, go, _, rfl, ro, _, (own : Int), own, rfl, rfl, upd_same, ixN_nat (by rw [List.length_map]; exact hoL), ?_⟩
          dsimp only
          rw [upd_upd, set_nums, show L.set own (L.getD own 0 + 1) = inc L own from rfl]
          have R2 := R.set (row := inc L own) hro
          have i2 := imm_lst (ys := nums (inc L own)) hR
          have hll2 : (upd Hc ro (.lst (nums (inc L own)))) ll = some (.lst xs) := (upd_ne nllo).trans hll
          have hxs2 := RepDs.imm i2 _ _ (noList_lets _) hxs
          have hro2 : (upd Hc ro (.lst (nums (inc L own)))) ro = some (.lst (nums (inc L own))) := upd_same
          have hac2 : SqL K (upd Hc ro (.lst (nums (inc L own)))) a (nums ns) := (same_upd e (hrn ro (List.mem_of_getElem? hro))).seq ha
          have e2' : Same H (upd Hc ro (.lst (nums (inc L own)))) := same_upd e (hrn ro (List.mem_of_getElem? hro))
          generalize upd Hc ro (.lst (nums (inc L own))) = H3 at R2 hll2 hxs2 hro2 hac2 e2'
          refine ⟨len1, fun wc nwc => ?_⟩
          have s4 := same_new (o := .tup [.str "cut"]) nwc
          refine ⟨_, rfl, _, rfl, a, _, _, _, rfl, rfl, s4.seq hac2, gi, _, _, rfl, rfl, cmul (by decide) (by decide), _, _, rfl, rfl, (by show (0 : Int) < 1021; decide), _, _, rfl, rfl, (by show (0 : Int) < 3; decide), _, _, rfl, rfl, _, rfl, ?_⟩
          dsimp only
          generalize decide (0 < x * 48271 % 1021 % 3) = b2
          refine both (fun σ' H' => ∃ wa wv, σ' = [some (V.ref a), some (.int c), some (.ref lc), some (.ref ll), some (.int (0 + (i : Int))), some (.int own), some (.int oth), v, some (.ref wa)] ∧ Same H3 H' ∧ WhatAt K H' wa wv ∧ okPay c wv) ?_ ?_ ?_
          · rintro σ' H' ⟨wa, wv, rfl, e4, W4, ok4⟩
            have R4 := R2.same e4
            refine ⟨_, rfl, .inl ⟨rfl, _, SqL.of (e4 _ _ hll2)⟩, _, rfl, _, rfl, _, rfl, lc, _, _, _, rfl, rfl, SqL.of R4.hl, go, ro, _, rfl, .inl ⟨SqL.of (e4 _ _ hro2), fun tp ntp => ⟨_, rfl, len3, fun la nla => ?_⟩⟩⟩
            have s5 := same_new (o := .tup (nums (inc L own))) ntp
            have s6 := same_new (o := .tup [.int own, .ref tp, .ref wa]) nla
            have e6' := (e4.trans s5).trans s6
            have hll6 := e6' _ _ hll2
            have xl := reps_len hxs
            rw [List.length_map] at xl
            refine ⟨ll, _, _, rfl, rfl, hll6, small1000 (by omega), ?_⟩
            have i7 := imm_lst (ys := xs ++ [.ref la]) hll6
            refine ⟨_, _, _, _, _, (rows.set own (inc L own), ls ++ [⟨own, inc L own, wv⟩]), xs ++ [.ref la], rfl, same_upd (e2'.trans e6') hlln, (R2.same e6').other nlc nlr, upd_same, ?_, ?_, ?_, ?_⟩
            · dsimp only
              rw [List.map_append]
              refine RepDs.imm i7 _ _ (by rw [← List.map_append]; exact noList_lets _) (reps_append (RepDs.same e6' _ _ hxs2) (reps_one (letAt_iff.mpr ⟨la, rfl, tp, wa, SqT.of upd_same, s6.sqT (SqT.of upd_same), W4.imm (s5.trans s6).imm⟩)))
            · have := SV.step (b := bb) (w := wv) ho hot
              unfold sentStep at this
              dsimp only at this
              rw [hLe] at this
              exact this
            · dsimp only; rw [List.length_append, hlen]; rfl
            · intro l hl
              rcases List.mem_append.mp hl with z | z
              · exact hok l z
              · have : l = ⟨own, inc L own, wv⟩ := by simpa using z
                rw [this]; exact ok4
          · intro _ tail
            refine ⟨_, rfl, _, rfl, _, rfl, a, _, _, _, rfl, rfl, s4.seq hac2, gi, _, _, rfl, rfl, cmul (by decide) (by decide), _, _, rfl, rfl, (by show (0 : Int) < 1031; decide), _, _, rfl, rfl, (by show (0 : Int) < 6; decide), len3, fun wp nwp => ?_⟩
            exact tail _ _ ⟨wp, .pay c (x * 48271 % 1031 % 6), rfl, s4.trans (same_new nwp), SqT.of upd_same, rfl, Int.emod_nonneg _ (by decide)⟩
          · intro _
            exact ⟨wc, .cut, rfl, s4, SqT.of upd_same, trivial⟩
        · intro hbt tail
          subst hbt
          have hlrt : (rows.getD own []).length = (rows.getD oth []).length := by rw [lr, lt]
          refine ⟨_, rfl, _, _, rfl, rfl, _, rfl, by omega, by omega, for_range (n := ((c : Int) + 1).toNat) (lo := 0) (fun j σ' H' => ∃ v, σ' = [some (V.ref a), some (.int c), some (.ref lc), some (.ref ll), some (.int (0 + (i : Int))), some (.int own), some (.int oth), v, v8] ∧ H' = upd Hc ro (.lst (nums (mix (rows.getD own []) (rows.getD oth []) j)))) ⟨_, rfl, by rw [mix_zero]; exact (upd_self hR).symm⟩ ?_ ?_⟩
          · rintro j σ' H' hj ⟨v, rfl, rfl⟩
            have hj' : j < c + 1 := by omega
            have hml := mix_len hlrt (show j ≤ (rows.getD own []).length by omega)
            have hmg := mix_get hlrt (show j < (rows.getD own []).length by omega)
            have hms := mix_set hlrt (show j < (rows.getD own []).length by omega)
            have hlc' : (upd Hc ro (.lst (nums (mix (rows.getD own []) (rows.getD oth []) j)))) lc = some (.lst (rs.map V.ref)) := (upd_ne nlo).trans R.hl
            obtain ⟨rowt, ht1, ht2, ht3⟩ : ∃ rowt, (upd Hc ro (.lst (nums (mix (rows.getD own []) (rows.getD oth []) j)))) rt = some (.lst (nums rowt)) ∧ rowt.getD j 0 = (rows.getD oth []).getD j 0 ∧ j < rowt.length := by
              by_cases eo' : rt = ro
              · have : own = oth := by
                  obtain ⟨h1, e1⟩ := List.getElem?_eq_some_iff.mp hro
                  obtain ⟨h2, e2⟩ := List.getElem?_eq_some_iff.mp hrt
                  exact (List.getElem_inj R.nd).mp (e1.trans (eo'.symm.trans e2.symm))
                refine ⟨_, by rw [eo']; exact upd_same, ?_, by omega⟩
                rw [hmg, this]
              · exact ⟨_, (upd_ne eo').trans hT, rfl, by omega⟩
            refine ⟨_, rfl, _, rfl, lc, _, _, _, rfl, rfl, SqL.of hlc', go, _, rfl, ro, _, _, _, rfl, rfl, SqL.of upd_same, (by rw [Int.zero_add]; exact atI_nat (get_nums (by omega))), _, rfl, _, rfl, lc, _, _, _, rfl, rfl, SqL.of hlc', gt, _, rfl, rt, _, _, _, rfl, rfl, SqL.of ht1, (by rw [Int.zero_add]; exact atI_nat (get_nums ht3)), _, _, rfl, _, rfl, _, rfl, lc, _, _, _, rfl, rfl, SqL.of hlc', go, _, rfl, ro, _, (0 + (j : Int)), j, rfl, rfl, upd_same, (by rw [Int.zero_add]; exact ixN_nat (by rw [List.length_map]; omega)), ?_⟩
            refine ⟨_, rfl, ?_⟩
            rw [upd_upd, set_nums, hmg, ht2, ← hms]
            congr 4
            rw [Int.max_def]
            split <;> split <;> omega
          · rintro σ' H' ⟨v, rfl, rfl⟩
            refine tail _ _ ⟨v, rfl, ?_⟩
            have : ((c : Int) + 1).toNat = (rows.getD own []).length := by omega
            rw [this, mix_all hlrt]
            rfl
        · intro hbf
          subst hbf
          exact ⟨_, rfl, (upd_self hR).symm⟩
      · rintro σ Hc ⟨v4, v5, v6, v7, v8, ⟨rows, ls⟩, xs, rfl, e, R, hll, hxs, SV, hlen, hok⟩
        exact ⟨_, rfl, k ll xs ls Hc e hlln hll hxs SV.ml (fun l hl => ⟨SV.sn l hl, hok l hl⟩) (by rw [hlen, List.length_map]; omega)⟩
end
end Of

end

section
set_option Elab.async false
set_option linter.all false
set_option maxRecDepth 100000
set_option maxHeartbeats 4000000
seal L2.PE L2.PT L2.PW L2.PA L2.PS L2.PSs L2.PG L2.PGs L2.PI L3.PTs L2.PO L2.CallR L2.OpR L2.IxR L2.MtR L2.PSet L2.SlR
namespace Of
open PySem L2 L3 L4 L5
theorem reps_take {K : PySem.W.Frag} {H : Hp} : ∀ {ds : List PyData} {xs : List V} (i : Nat), RepDs K H ds xs → RepDs K H (ds.take i) (xs.take i)
  | ds, xs, 0, _ => by simp only [List.take_zero, RepDs]
  | [], xs, i + 1, h => by
    have : xs = [] := by simpa only [RepDs] using h
    subst this; simp only [List.take_nil, RepDs]
  | d :: ds, xs, i + 1, h => by
    obtain ⟨x, r, rfl, a, b⟩ : ∃ x r, xs = x :: r ∧ RepD K H d x ∧ RepDs K H ds r := by simpa only [RepDs] using h
    simp only [List.take_succ_cons, RepDs]
    exact ⟨x, _, rfl, a, reps_take i b⟩
theorem reps_drop {K : PySem.W.Frag} {H : Hp} : ∀ {ds : List PyData} {xs : List V} (i : Nat), RepDs K H ds xs → RepDs K H (ds.drop i) (xs.drop i)
  | ds, xs, 0, h => by simpa only [List.drop_zero] using h
  | [], xs, i + 1, h => by
    have : xs = [] := by simpa only [RepDs] using h
    subst this; simp only [List.drop_nil, RepDs]
  | d :: ds, xs, i + 1, h => by
    obtain ⟨x, r, rfl, a, b⟩ : ∃ x r, xs = x :: r ∧ RepD K H d x ∧ RepDs K H ds r := by simpa only [RepDs] using h
    simp only [List.drop_succ_cons]
    exact reps_drop i b
theorem reps_ins {K : PySem.W.Frag} {H : Hp} {ds : List PyData} {xs : List V} {d : PyData} {x : V} (i : Nat) (h : RepDs K H ds xs) (h1 : RepD K H d x) : RepDs K H (insV ds i d) (insV xs i x) := by
  unfold insV
  refine reps_append (reps_take i h) ?_
  simp only [RepDs]
  exact ⟨x, _, rfl, h1, reps_drop i h⟩
theorem ins_map {α β : Type} {f : α → β} {xs : List α} {i : Nat} {x : α} : (insV xs i x).map f = insV (xs.map f) i (f x) := by
  unfold insV
  rw [List.map_append, List.map_cons, List.map_take, List.map_drop]
theorem mem_ins {α : Type} {xs : List α} {i : Nat} {x y : α} : y ∈ insV xs i x ↔ y = x ∨ y ∈ xs := by
  unfold insV
  have h : y ∈ xs ↔ y ∈ xs.take i ∨ y ∈ xs.drop i := by rw [← List.mem_append, List.take_append_drop]
  rw [List.mem_append, List.mem_cons, h]
  constructor
  · rintro (z | z | z)
    · exact .inr (.inl z)
    · exact .inl z
    · exact .inr (.inr z)
  · rintro (z | z | z)
    · exact .inr (.inl z)
    · exact .inl z
    · exact .inr (.inr z)
theorem ins_len {α : Type} {xs : List α} {i : Nat} {x : α} : (insV xs i x).length = xs.length + 1 := by
  unfold insV
  rw [List.length_append, List.length_cons, List.length_take, List.length_drop]
  omega
def spRoads (K : PySem.W.Frag) : Sp := fun vs H Q _ => ∃ (la a : Addr) (ns : List Int) (ls : List Let) (xs : List V), vs = [.ref la, .ref a] ∧ SqL K H la xs ∧ RepDs K H (ls.map letD) xs ∧ SqL K H a (nums ns) ∧ ls.length = ns.length ∧ ns.length ≤ 40 ∧
  ∀ (q : Addr) (ys : List V) (row : List Let) (H' : Hp), Same H H' → H q = none → H' q = some (.lst ys) → RepDs K H' (row.map letD) ys → (∀ x, x ∈ row ↔ x ∈ ls) → row.length ≤ 2 * ls.length → Q (.ref q) H'
section
variable {P : Program} {w : World} {K : PySem.W.Frag} {mg : Str → Option Value} {base : Heap}
theorem oRd : ownB ["_law_letters", "_law_cells", "_law_row", "_law_k"] (defScope sRoads) = true := by decide +kernel
theorem scRd : FnScope ["_law_letters", "_law_cells", "_law_row", "_law_k"] ["_law_letters", "_law_cells"] (defScope sRoads) := ⟨rfl, rfl, rfl, by decide +kernel, rfl, by decide +kernel, by decide +kernel⟩
theorem ok_roads {f : Addr} {fd : FuncData} (F : Fun K "_law_roads" "_law_roads" sRoads f fd) (T : Bts mg) : FnOk P w K mg base CX0 1 f fd ["_law_letters", "_law_cells"] (spRoads K) := by
  refine okB (body := [stm sRoads 0, stm sRoads 1, stm sRoads 2]) F scRd (fun vs H Q E h => ?_) (by kernel_rfl) (fun cdv A outer s H vs Q E hr h => ?_)
  · obtain ⟨la, a, ns, ls, xs, rfl, _⟩ := h
    rfl
  · obtain ⟨la, a, ns, ls, xs, rfl, hla, hxs, ha, hll, hns, k⟩ := h
    have hxl : xs.length = ls.length := by rw [reps_len hxs, List.length_map]
    refine ⟨_, (pss_cons (oS oRd 2 (pe_lst pa_nil))
      (pss_cons (ps_for PassesOwn.never rfl (rng1 T.range (aC (cB (call_len_seq (X := _)) T.len PySem.boot_len (aC (oV oRd 0) pa_nil)) pa_nil)) (oT oRd 3)
        (pss_cons (ps_expr (bM PySem.F.plainAttrs_list PySem.F.slot_list_insert PySem.F.type_list_insert mt_insert (oV oRd 2) (aC (pe_op op_mod (pe_op op_mod (pe_op op_mul (pe_op op_add (iX (ixL K) (oV oRd 1) (oV oRd 3)) (pe_op op_mul pe_int (oV oRd 3))) pe_int) pe_int) (pe_op op_add (cB (call_len_seq (X := _)) T.len PySem.boot_len (aC (oV oRd 2) pa_nil)) pe_int)) (aC (iX (ixL K) (oV oRd 0) (oV oRd 3)) pa_nil))))
        (pss_one (ps_if (pt_cmpR op_eq (pe_op op_mod (pe_op op_mod (pe_op op_mul (iX (ixL K) (oV oRd 1) (oV oRd 3)) pe_int) pe_int) pe_int) pe_int (nomark _))
          (pss_one (ps_expr (bM PySem.F.plainAttrs_list PySem.F.slot_list_insert PySem.F.type_list_insert mt_insert (oV oRd 2) (aC (pe_op op_mod (pe_op op_mod (pe_op op_mul (iX (ixL K) (oV oRd 1) (oV oRd 3)) pe_int) pe_int) (pe_op op_add (cB (call_len_seq (X := _)) T.len PySem.boot_len (aC (oV oRd 2) pa_nil)) pe_int)) (aC (iX (ixL K) (oV oRd 0) (oV oRd 3)) pa_nil)))))
          pss_nil))))
      (pss_one (ps_ret (oV oRd 2))))), ?_⟩
    refine ⟨len0, fun q nq => ?_⟩
    have sq := same_new (o := .lst []) nq
    refine ⟨_, rfl, la, _, rfl, .inl (sq.seq hla), _, rfl, by omega, by omega, for_range (n := (xs.length : Int).toNat) (lo := 0) (fun i σ Hc => ∃ (v : Option V) (ys : List V) (row : List Let), σ = [some (.ref la), some (.ref a), some (.ref q), v] ∧ Same H Hc ∧ Hc q = some (.lst ys) ∧ RepDs K Hc (row.map letD) ys ∧ (∀ x, x ∈ row ↔ x ∈ ls.take i) ∧ row.length ≤ 2 * i)
      ⟨none, [], [], rfl, sq, upd_same, rfl, fun x => by simp, by simp⟩ ?_ ?_⟩
    · rintro i σ Hc hi ⟨v, ys, row, rfl, e, hq, hys, hmem, hrl⟩
      have hi' : i < ls.length := by omega
      have gi : atI (nums ns) (0 + (i : Int)) = some (.int (ns.getD i 0)) := by rw [Int.zero_add]; exact atI_nat (get_nums (by omega))
      obtain ⟨y, hy, ry⟩ := reps_get hxs (i := i) (d := letD ls[i]) (by rw [List.getElem?_map, List.getElem?_eq_getElem hi']; rfl)
      have gl : atI xs (0 + (i : Int)) = some y := by rw [Int.zero_add]; exact atI_nat hy
      have etk : ls.take (i + 1) = ls.take i ++ [ls[i]] := by rw [List.take_succ, List.getElem?_eq_getElem hi']; rfl
      have hac := e.seq ha
      have hlac := e.seq hla
      have ryc := RepD.same e _ _ ry
      generalize ns.getD i 0 = x at gi
      generalize ls[i] = l at ry ryc etk
      have yl : ys.length = row.length := by rw [reps_len hys, List.length_map]
      refine ⟨_, rfl, .inl ⟨rfl, _, SqL.of hq⟩, _, rfl, _, rfl, a, _, _, _, rfl, rfl, hac, gi, _, rfl, _, _, rfl, rfl, .inl ⟨by decide, by decide⟩, _, _, rfl, rfl, _, _, rfl, rfl, cmul (by decide) (by decide), _, _, rfl, rfl, (by show (0 : Int) < 1033; decide), _, rfl, q, _, rfl, .inl (SqL.of hq), _, _, rfl, rfl, _, _, rfl, rfl, (by show (0 : Int) < (ys.length : Int) + 1; omega), _, rfl, _, rfl, la, _, _, _, rfl, rfl, hlac, gl, q, ys, _, y, rfl, rfl, hq, ?_, ?_, by omega, ?_⟩
      · exact Int.emod_nonneg _ (by omega)
      · have := Int.emod_lt_of_pos ((x + 3 * (0 + (i : Int))) * 48271 % 1033) (by omega : (0 : Int) < (ys.length : Int) + 1)
        omega
      generalize ((x + 3 * (0 + (i : Int))) * 48271 % 1033 % ((ys.length : Int) + 1)).toNat = p1
      have i1 := imm_lst (ys := insV ys p1 y) hq
      have e1 : Same H (upd Hc q (.lst (insV ys p1 y))) := same_upd e nq
      have hq1 : (upd Hc q (.lst (insV ys p1 y))) q = some (.lst (insV ys p1 y)) := upd_same
      have hys1 : RepDs K (upd Hc q (.lst (insV ys p1 y))) ((insV row p1 l).map letD) (insV ys p1 y) := by
        rw [ins_map]
        exact RepDs.imm i1 _ _ (by rw [← ins_map]; exact noList_lets _) (reps_ins p1 hys ryc)
      have ry1 := RepD.imm i1 _ _ (noList_let _) ryc
      have yl1 : (insV ys p1 y).length = (insV row p1 l).length := by rw [ins_len, ins_len, yl]
      have hm1 : ∀ z, z ∈ insV row p1 l ↔ z ∈ ls.take (i + 1) := fun z => by
        rw [mem_ins, hmem, etk, List.mem_append, List.mem_singleton]; exact or_comm
      have hl1 : (insV row p1 l).length ≤ 2 * i + 1 := by rw [ins_len]; omega
      generalize insV row p1 l = row1 at hys1 yl1 hm1 hl1
      generalize insV ys p1 y = ys1 at *
      generalize upd Hc q (.lst ys1) = H1 at *
      have hac1 := e1.seq ha
      refine ⟨_, rfl, _, rfl, a, _, _, _, rfl, rfl, hac1, gi, _, _, rfl, rfl, cmul (by decide) (by decide), _, _, rfl, rfl, (by show (0 : Int) < 1039; decide), _, _, rfl, rfl, (by show (0 : Int) < 5; decide), rfl, _, rfl, ?_⟩
      refine both (fun σ' H' => ∃ (v : Option V) (ys : List V) (row : List Let), σ' = [some (.ref la), some (.ref a), some (.ref q), v] ∧ Same H H' ∧ H' q = some (.lst ys) ∧ RepDs K H' (row.map letD) ys ∧ (∀ x, x ∈ row ↔ x ∈ ls.take (i + 1)) ∧ row.length ≤ 2 * (i + 1)) (fun _ _ h => h) ?_ ?_
      · intro _ tail
        refine ⟨_, rfl, .inl ⟨rfl, _, SqL.of hq1⟩, _, rfl, _, rfl, a, _, _, _, rfl, rfl, hac1, gi, _, _, rfl, rfl, cmul (by decide) (by decide), _, _, rfl, rfl, (by show (0 : Int) < 1049; decide), _, rfl, q, _, rfl, .inl (SqL.of hq1), _, _, rfl, rfl, _, _, rfl, rfl, (by show (0 : Int) < (ys1.length : Int) + 1; omega), _, rfl, _, rfl, la, _, _, _, rfl, rfl, e1.seq hla, gl, q, ys1, _, y, rfl, rfl, hq1, ?_, ?_, by omega, ?_⟩
        · exact Int.emod_nonneg _ (by omega)
        · have := Int.emod_lt_of_pos (x * 48271 % 1049) (by omega : (0 : Int) < (ys1.length : Int) + 1)
          omega
        generalize (x * 48271 % 1049 % ((ys1.length : Int) + 1)).toNat = p2
        have i2 := imm_lst (ys := insV ys1 p2 y) hq1
        refine tail _ _ ⟨_, insV ys1 p2 y, insV row1 p2 l, rfl, same_upd e1 nq, upd_same, ?_, fun z => ?_, by rw [ins_len]; omega⟩
        · rw [ins_map]
          exact RepDs.imm i2 _ _ (by rw [← ins_map]; exact noList_lets _) (reps_ins p2 hys1 ry1)
        · rw [mem_ins, hm1]
          constructor
          · rintro (z | z)
            · rw [z, etk]; simp
            · exact z
          · exact .inr
      · intro _
        exact ⟨_, ys1, row1, rfl, e1, hq1, hys1, hm1, by omega⟩
    · rintro σ Hc ⟨v, ys, row, rfl, e, hq, hys, hmem, hrl⟩
      have : (xs.length : Int).toNat = ls.length := by omega
      rw [this] at hmem hrl
      rw [List.take_length] at hmem
      exact ⟨_, rfl, k q ys row Hc e nq hq hys hmem hrl⟩
end
end Of

end

section
set_option Elab.async false
set_option linter.all false
set_option maxRecDepth 100000
set_option maxHeartbeats 4000000
seal L2.PE L2.PT L2.PW L2.PA L2.PS L2.PSs L2.PG L2.PGs L2.PI L3.PTs L2.PO L2.CallR L2.OpR L2.IxR L2.MtR L2.PSet L2.SlR
namespace Of
open PySem L2 L3 L4 L5
theorem wide_ints : ∀ ns : List Int, wideDs 1000 (intD ns)
  | [] => trivial
  | n :: ns => by simp only [intD, List.map_cons, wideDs, wideD]; exact ⟨trivial, wide_ints ns⟩
theorem depth_clock (ns : List Int) : (PyData.tuple (intD ns)).depth < 10 := by simp only [PyData.depth, depth_ints]; decide
theorem wide_clock {ns : List Int} (h : ns.length ≤ 1000) : wideD 1000 (PyData.tuple (intD ns)) := by simp only [wideD]; exact ⟨by unfold intD; rw [List.length_map]; exact h, wide_ints ns⟩
theorem wide_let {l : Let} (h : l.st.length ≤ 1000) : wideD 1000 (letD l) := by
  have := wide_clock h
  unfold letD
  cases l.w <;> simp [whatD, wideD, wideDs] at this ⊢ <;> exact this
theorem rep_clock {K : PySem.W.Frag} {H : Hp} {a : Addr} {ns : List Int} (h : SqT K H a (nums ns)) : RepD K H (.tuple (intD ns)) (.ref a) := by
  simp only [RepD]
  exact ⟨a, _, rfl, h, reps_ints.mpr rfl⟩
theorem reps_split {K : PySem.W.Frag} {H : Hp} : ∀ {ds es : List PyData} {xs : List V}, RepDs K H (ds ++ es) xs → ∃ ys zs, xs = ys ++ zs ∧ RepDs K H ds ys ∧ RepDs K H es zs
  | [], es, xs, h => ⟨[], xs, rfl, rfl, h⟩
  | d :: ds, es, xs, h => by
    obtain ⟨x, r, rfl, a, b⟩ : ∃ x r, xs = x :: r ∧ RepD K H d x ∧ RepDs K H (ds ++ es) r := by simpa only [List.cons_append, RepDs] using h
    obtain ⟨ys, zs, rfl, h1, h2⟩ := reps_split b
    exact ⟨x :: ys, zs, rfl, by simp only [RepDs]; exact ⟨x, ys, rfl, a, h1⟩, h2⟩
theorem reps_snoc {K : PySem.W.Frag} {H : Hp} {ds : List PyData} {d : PyData} {xs : List V} (h : RepDs K H (ds ++ [d]) xs) : ∃ ys x, xs = ys ++ [x] ∧ RepDs K H ds ys ∧ RepD K H d x := by
  obtain ⟨ys, zs, e, h1, h2⟩ := reps_split h
  simp only [RepDs] at h2
  obtain ⟨x, r, e2, h3, h4⟩ := h2
  subst h4
  subst e2
  exact ⟨ys, x, e, h1, h3⟩
theorem neg1 {α : Type} (xs : List α) (x : α) : atI (xs ++ [x]) (-1) = some x := by
  unfold atI ixN
  rw [if_neg (by decide), if_pos (by rw [List.length_append, List.length_singleton]; omega)]
  show (xs ++ [x])[(-1 + ((xs ++ [x]).length : Int)).toNat]? = some x
  rw [show (-1 + ((xs ++ [x]).length : Int)).toNat = xs.length by rw [List.length_append, List.length_singleton]; omega]
  simp

theorem noList_book {how : Str} : ∀ ls : List Let, noLists (ls.map (bookD how)) = true
  | [] => rfl
  | l :: ls => by simp only [List.map_cons, noLists, bookD, noList, nameD, nmD, Bool.true_and, Bool.and_true]; exact noList_book ls
theorem depth_book {how : Str} : ∀ ls : List Let, PyData.depthAll (ls.map (bookD how)) ≤ 2
  | [] => Nat.zero_le _
  | l :: ls => by
    simp only [List.map_cons, PyData.depthAll, bookD, PyData.depth, nameD, nmD]
    exact Nat.max_le.mpr ⟨by decide, depth_book ls⟩
theorem wide_book {how : Str} : ∀ ls : List Let, wideDs 1000 (ls.map (bookD how))
  | [] => trivial
  | l :: ls => by
    simp only [List.map_cons, wideDs, bookD, wideD, nameD, nmD]
    exact ⟨⟨by show 2 ≤ 1000; decide, trivial, ⟨by show 2 ≤ 1000; decide, trivial, trivial, trivial⟩, trivial⟩, wide_book ls⟩
theorem wide_append {n : Nat} : ∀ {a b : List PyData}, wideDs n a → wideDs n b → wideDs n (a ++ b)
  | [], b, _, h => h
  | d :: a, b, h1, h2 => by
    simp only [List.cons_append, wideDs] at h1 ⊢
    exact ⟨h1.1, wide_append h1.2 h2⟩
theorem depth_append : ∀ {a b : List PyData}, PyData.depthAll (a ++ b) = max (PyData.depthAll a) (PyData.depthAll b)
  | [], b => by simp [PyData.depthAll]
  | d :: a, b => by simp only [List.cons_append, PyData.depthAll, depth_append (a := a)]; omega
def spSends (K : PySem.W.Frag) (C : Addr) : Sp := fun vs H Q _ => ∃ (p qc qb : Addr) (c : Nat) (o : Off) (got : List Let) (bs : List V), vs = [.ref p, .ref qc, .int o.coins, .ref qb] ∧ OffAt K C H p o ∧ H qc = some (.lst (nums o.clock)) ∧ ¬ Refs (H p) qc ∧ H qb = some (.lst bs) ∧ qb ≠ qc ∧ RepDs K H o.book bs ∧ o.book = got.map (bookD "got") ∧ o.num = (c : Int) ∧ o.clock.length = c + 1 ∧
  o.clock.getD c 0 = 0 ∧ 0 ≤ o.coins ∧ got.length ≤ 700 ∧ o.kept.length ≤ 700 ∧ c ≤ 700 ∧ ∀ H', Q (.bl true) H'
section
variable {P : Program} {w : World} {K : PySem.W.Frag} {mg : Str → Option Value} {base : Heap} {C fN fT fC fR fF fO fB fS : Addr}
theorem oSs : ownB ["_law_one", "_law_clock", "_law_coins", "_law_book", "_law_own", "_law_made", "_law_stamps", "_law_k", "_law_first", "_law_second"] (defScope sSends) = true := by decide +kernel
theorem scSs : FnScope ["_law_one", "_law_clock", "_law_coins", "_law_book", "_law_own", "_law_made", "_law_stamps", "_law_k", "_law_first", "_law_second"] ["_law_one", "_law_clock", "_law_coins", "_law_book"] (defScope sSends) := ⟨rfl, rfl, rfl, by decide +kernel, rfl, by decide +kernel, by decide +kernel⟩
theorem ok_sends {f : Addr} {fd fdB fdS : FuncData} (F : Fun K "_law_sends" "_law_sends" sSends f fd) (T : Bts mg) (T' : Txt K mg C fN fT fC fR fF fO)
    (mB : mg "sent_by" = some (.ref fB)) (FB : Fun K "sent_by" "sent_by" sSentBy fB fdB) (bB : Binds K fdB ["office", "whats"] []) (GB : FnOk P w K mg base CX0 6 fB fdB ["office", "whats"] (spSentBy K C))
    (mS : mg "_law_so" = some (.ref fS)) (FS : Fun K "_law_so" "_law_so" sSo fS fdS) (bS : Binds K fdS ["_law_found", "_law_meant"] []) (GS : FnOk P w K mg base CX0 10 fS fdS ["_law_found", "_law_meant"] (spSo K 10)) : FnOk P w K mg base CX0 11 f fd ["_law_one", "_law_clock", "_law_coins", "_law_book"] (spSends K C) := by
  refine okB (body := [stm sSends 0, stm sSends 1, stm sSends 2, stm sSends 3, stm sSends 4, stm sSends 5, stm sSends 6, stm sSends 7, stm sSends 8, stm sSends 9, stm sSends 10]) F scSs (fun vs H Q E h => ?_) (by kernel_rfl) (fun cdv A outer s H vs Q E hr h => ?_)
  · obtain ⟨p, qc, qb, c, o, got, bs, rfl, _⟩ := h
    rfl
  · obtain ⟨p, qc, qb, c, o, got, bs, rfl, O, hqc, nrc, hqb, nbc, hbs, hbk, hnum, hcl, hc0, hco, hgl, hkl, hc7, k⟩ := h
    have hrB := hr.mono (by decide : 6 ≤ 10)
    obtain ⟨dx, cl, lb, lt, lk, bks, ts, ks, X⟩ := O.x
    refine ⟨_, (pss_cons (oS oSs 4 (pe_op op_sub (cB (call_len_seq (X := _)) T.len PySem.boot_len (aC (oV oSs 1) pa_nil)) pe_int))
      (pss_cons (oS oSs 5 (cF GB hrB mB FB.kp bB .nil pass0 (aC (oV oSs 0) (aC (pe_lst (aC (pe_tup (aC pe_str pa_nil)) (aC (pe_tup (aC pe_str (aC pe_int (aC (oV oSs 2) pa_nil)))) (aC (pe_tup (aC pe_str (aC pe_int (aC pe_int pa_nil)))) pa_nil)))) pa_nil))))
      (pss_cons (ps_if (PW.pt (pw_or (pt_not (pt_val (cB call_isiL T.isinstance boot_isi (aC (oV oSs 5) (aC (nT T.list boot_lst) pa_nil))))) (pw_or (pt_cmpR op_ne (cB (call_len_seq (X := _)) T.len PySem.boot_len (aC (oV oSs 5) pa_nil)) pe_int (nomark _)) (pw_or1 (pt_cmpR op_notN (iX (ixL K) (oV oSs 5) pe_int) pe_non (nomark _))))))
        (pss_one (ps_ret pe_bl))
        pss_nil)
      (pss_cons (oS oSs 6 (pe_lst pa_nil))
      (pss_cons (ps_for PassesOwn.never rfl (rng1 T.range (aC pe_int pa_nil)) (oT oSs 7)
        (pss_cons (ps_asg (pe_op op_add (iX (ixL K) (oV oSs 1) (oV oSs 4)) pe_int) (pg_sub (oV oSs 1) (oV oSs 4) set_list))
        (pss_one (ps_expr (mApp (oV oSs 6) (cT call_tuple_of T.tuple boot_tup (aC (oV oSs 1) pa_nil)))))))
      (pss_cons (oS oSs 8 (pe_tup (aC (oV oSs 4) (aC (iX (ixL K) (oV oSs 6) pe_int) (aC (pe_tup (aC pe_str pa_nil)) pa_nil)))))
      (pss_cons (oS oSs 9 (pe_tup (aC (oV oSs 4) (aC (iX (ixL K) (oV oSs 6) pe_int) (aC (pe_tup (aC pe_str (aC pe_int (aC (oV oSs 2) pa_nil)))) pa_nil)))))
      (pss_cons (ps_if (PW.pt (pw_or (pt_not (pt_val (cF GS hr mS FS.kp bS .nil pass0 (aC (iX (ixL K) (oV oSs 5) pe_int) (aC (oV oSs 8) pa_nil))))) (pw_or1 (pt_not (pt_val (cF GS hr mS FS.kp bS .nil pass0 (aC (iX (ixL K) (oV oSs 5) pe_int) (aC (oV oSs 9) pa_nil))))))))
        (pss_one (ps_ret pe_bl))
        pss_nil)
      (pss_cons (ps_if (pt_not (pt_val (cF GS hr mS FS.kp bS .nil pass0 (aC (iX (ixL K) (pe_fld (oV oSs 0) rfl) (pe_un un_neg pe_int)) (aC (pe_tup (aC (pe_tup (aC (oV oSs 4) (aC pe_int pa_nil))) (aC (oV oSs 2) (aC (iX (ixL K) (oV oSs 6) pe_int) pa_nil)))) pa_nil)))))
        (pss_one (ps_ret pe_bl))
        pss_nil)
      (pss_cons (ps_if (PW.pt (pw_or (pt_not (pt_val (cF GS hr mS FS.kp bS .nil pass0 (aC (pe_fld (oV oSs 0) rfl) (aC (iX (ixL K) (oV oSs 6) pe_int) pa_nil))))) (pw_or1 (pt_not (pt_val (cF GS hr mS FS.kp bS .nil pass0 (aC (pe_fld (oV oSs 0) rfl) (aC pe_int pa_nil))))))))
        (pss_one (ps_ret pe_bl))
        pss_nil)
      (pss_one (ps_ret (cF GS hr mS FS.kp bS .nil pass0 (aC (pe_fld (oV oSs 0) rfl) (aC (pe_op op_cat (oV oSs 3) (pe_lst (aC (pe_tup (aC pe_str (aC (pe_tup (aC (oV oSs 4) (aC pe_int pa_nil))) pa_nil))) (aC (pe_tup (aC pe_str (aC (pe_tup (aC (oV oSs 4) (aC pe_int pa_nil))) pa_nil))) pa_nil)))) pa_nil))))))))))))))), ?_⟩
    refine ⟨_, rfl, qc, _, rfl, .inl (SqL.of hqc), _, _, rfl, rfl, ?_⟩
    dsimp only
    rw [show (((nums o.clock).length : Nat) : Int) - 1 = (c : Int) by rw [List.length_map, hcl]; omega]
    refine ⟨_, rfl, len1, fun t1 n1 => ⟨_, rfl, len3, fun t2 n2 => ⟨len3, fun t3 n3 => ⟨len3, fun lw nlw => ?_⟩⟩⟩⟩
    have s1 := same_new (o := .tup [.str "cut"]) n1
    have s2 := same_new (o := .tup [.str "pay", .int 0, .int o.coins]) n2
    have s3 := same_new (o := .tup [.str "pay", .int 0, .int 1]) n3
    have s4 := same_new (o := .lst [.ref t1, .ref t2, .ref t3]) nlw
    have s14 := ((s1.trans s2).trans s3).trans s4
    have g1 := ((s2.trans s3).trans s4) _ _ (upd_same (H := H) (a := t1) (o := .tup [.str "cut"]))
    have g2 := (s3.trans s4) _ _ (upd_same (H := upd H t1 (.tup [.str "cut"])) (a := t2) (o := .tup [.str "pay", .int 0, .int o.coins]))
    have g3 := s4 _ _ (upd_same (H := upd (upd H t1 (.tup [.str "cut"])) t2 (.tup [.str "pay", .int 0, .int o.coins])) (a := t3) (o := .tup [.str "pay", .int 0, .int 1]))
    have g4 : (upd (upd (upd (upd H t1 (.tup [.str "cut"])) t2 (.tup [.str "pay", .int 0, .int o.coins])) t3 (.tup [.str "pay", .int 0, .int 1])) lw (.lst [.ref t1, .ref t2, .ref t3])) lw = some (.lst [.ref t1, .ref t2, .ref t3]) := upd_same
    have X1 := X.same s14
    have hqc1 := s14 _ _ hqc
    have hqb1 := s14 _ _ hqb
    have nrc1 : ¬ Refs ((upd (upd (upd (upd H t1 (.tup [.str "cut"])) t2 (.tup [.str "pay", .int 0, .int o.coins])) t3 (.tup [.str "pay", .int 0, .int 1])) lw (.lst [.ref t1, .ref t2, .ref t3])) p) qc := by rw [X1.ob, ← X.ob]; exact nrc
    have hbs1 := RepDs.same s14 _ _ hbs
    generalize upd (upd (upd (upd H t1 (.tup [.str "cut"])) t2 (.tup [.str "pay", .int 0, .int o.coins])) t3 (.tup [.str "pay", .int 0, .int 1])) lw (.lst [.ref t1, .ref t2, .ref t3]) = H1 at s14 g1 g2 g3 g4 X1 hqc1 hqb1 nrc1 hbs1
    clear s1 s2 s3 s4 n1 n2 n3 nlw
    have hbl : o.book.length = got.length := by rw [hbk, List.length_map]
    refine ⟨p, lw, c, c + 1, 750, o, [.cut, .pay 0 o.coins, .pay 0 1], _, rfl, X1.at_, SqL.of g4, ?_, ⟨hnum, by omega, hcl, by omega, by omega, by omega⟩, by show 750 + 3 ≤ 900; decide, fun qm ys H2 O2 nqm hqm hys nrm x2 => ?_⟩
    · exact reps_append (ds := [whatD .cut]) (reps_one (whatAt_iff.mpr ⟨t1, rfl, SqT.of g1⟩)) (reps_append (ds := [whatD (.pay 0 o.coins)]) (reps_one (whatAt_iff.mpr ⟨t2, rfl, SqT.of g2⟩)) (reps_one (whatAt_iff.mpr ⟨t3, rfl, SqT.of g3⟩)))
    -- what was sent
    have e1 : sent1 c o .cut = (some (sentL o c .cut), sentO o c .cut) := rfl
    have e2 : sent1 c (sentO o c .cut) (.pay 0 o.coins) = (some (sentL (sentO o c .cut) c (.pay 0 o.coins)), sentO (payO (sentO o c .cut) (.pay 0 o.coins)) c (.pay 0 o.coins)) := if_pos (decide_eq_true (Int.le_refl _))
    have hz : (sentO (payO (sentO o c .cut) (.pay 0 o.coins)) c (.pay 0 o.coins)).coins = 0 := by show o.coins - o.coins = 0; omega
    have e3 : sent1 c (sentO (payO (sentO o c .cut) (.pay 0 o.coins)) c (.pay 0 o.coins)) (.pay 0 1) = (none, sentO (payO (sentO o c .cut) (.pay 0 o.coins)) c (.pay 0 o.coins)) := if_neg (by
      show ¬ decide ((1 : Int) ≤ (sentO (payO (sentO o c .cut) (.pay 0 o.coins)) c (.pay 0 o.coins)).coins) = true
      rw [hz]; decide)
    simp only [sentAll, e1, e2, e3] at O2 hys
    have k1 : inc o.clock c = o.clock.set c 1 := by unfold inc; rw [hc0]; rfl
    have hl1 : sentL o c .cut = ⟨c, o.clock.set c 1, .cut⟩ := by unfold sentL; rw [k1]
    have k2 : inc (o.clock.set c 1) c = o.clock.set c 2 := by unfold inc; rw [getD_set (by omega), if_pos rfl, List.set_set]; rfl
    have hl2 : sentL (sentO o c .cut) c (.pay 0 o.coins) = ⟨c, o.clock.set c 2, .pay 0 o.coins⟩ := by
      show (⟨c, inc (inc o.clock c) c, _⟩ : Let) = _
      rw [k1, k2]
    rw [hl1, hl2] at hys
    have hkp : (sentO (payO (sentO o c .cut) (.pay 0 o.coins)) c (.pay 0 o.coins)).kept = o.kept ++ [keptD ⟨c, o.clock.set c 1, .cut⟩ o.coins (o.clock.set c 1)] := by
      show o.kept ++ [keptD (sentL o c .cut) o.coins (inc o.clock c)] = _
      rw [hl1, k1]
    have hbk2 : (sentO (payO (sentO o c .cut) (.pay 0 o.coins)) c (.pay 0 o.coins)).book = got.map (bookD "got") ++ [⟨c, o.clock.set c 1, .cut⟩, ⟨c, o.clock.set c 2, .pay 0 o.coins⟩].map (bookD "sent") := by
      show o.book ++ [bookD "sent" (sentL o c .cut)] ++ [bookD "sent" (sentL (sentO o c .cut) c (.pay 0 o.coins))] = _
      rw [hl1, hl2, hbk, List.append_assoc]; rfl
    have hck2 : (sentO (payO (sentO o c .cut) (.pay 0 o.coins)) c (.pay 0 o.coins)).clock = o.clock.set c 2 := by
      show inc (inc o.clock c) c = _
      rw [k1, k2]
    generalize sentO (payO (sentO o c .cut) (.pay 0 o.coins)) c (.pay 0 o.coins) = o2 at O2 hz hkp hbk2 hck2
    obtain ⟨dx2, cl2, lb2, lt2, lk2, bks2, ts2, ks2, X2⟩ := O2.x
    obtain ⟨la1, la2, rfl, L1, L2⟩ : ∃ la1 la2, ys = [.ref la1, .ref la2, .non] ∧ LetAt K H2 la1 ⟨c, o.clock.set c 1, .cut⟩ ∧ LetAt K H2 la2 ⟨c, o.clock.set c 2, .pay 0 o.coins⟩ := by
      simp only [List.map_cons, List.map_nil, RepDs, optD] at hys
      obtain ⟨x1, r1, rfl, h1, x2, r2, rfl, h2, x3, r3, rfl, h3, rfl⟩ := hys
      obtain ⟨a1, rfl, L1⟩ := letAt_iff.mp h1
      obtain ⟨a2, rfl, L2⟩ := letAt_iff.mp h2
      have h3 : x3 = .non := by simpa only [RepD] using h3
      subst h3
      exact ⟨a1, a2, rfl, L1, L2⟩
    have hqc2 := x2.lst X1.ob hqc1
    have hqb2 := x2.lst X1.ob hqb1
    have hbs2 := RepDs.imm (x2.imm X1.ob) _ _ (by rw [hbk]; exact noList_book _) hbs1
    have nrc2 : ¬ Refs (H2 p) qc := fun z => (x2.refs qc z).elim nrc1 (fun z => by rw [hqc1] at z; cases z)
    have nmc : qm ≠ qc := fun z => by rw [z, hqc1] at nqm; cases nqm
    clear hys x2 nrm e1 e2 e3 hl1 hl2 k1 k2 g1 g2 g3 g4 X1
    refine ⟨_, rfl, qm, _, _, _, rfl, SqL.of hqm, kit_list, _, rfl, iteF ?_⟩
    refine ⟨_, rfl, qm, _, rfl, .inl (SqL.of hqm), rfl, _, rfl, iteF ?_⟩
    refine ⟨_, rfl, qm, _, 2, _, rfl, rfl, SqL.of hqm, rfl, rfl, _, rfl, ?_⟩
    rw [show (!decide (V.non = V.non)) = false by rw [decide_eq_true rfl]; rfl]
    refine iteF ⟨len0, fun qs nqs => ?_⟩
    have s5 := same_new (o := .lst []) nqs
    have nsc : qs ≠ qc := fun z => by rw [z, hqc2] at nqs; cases nqs
    have setk : ∀ j : Nat, (o.clock.set c (j : Int)).getD c 0 = (j : Int) := fun j => by rw [getD_set (by omega), if_pos rfl]
    refine ⟨2, rfl, by decide, by decide, for_range (n := 2) (lo := 0) (fun j σ Hc => ∃ (v : Option V) (xs : List V), σ = [some (.ref p), some (.ref qc), some (.int o.coins), some (.ref qb), some (.int c), some (.ref qm), some (.ref qs), v, none, none] ∧ (∀ b u, H2 b = some u → b ≠ qc → Hc b = some u) ∧ Hc qc = some (.lst (nums (o.clock.set c (j : Int)))) ∧ Hc qs = some (.lst xs) ∧ RepDs K Hc ((List.range j).map fun i : Nat => PyData.tuple (intD (o.clock.set c ((i : Int) + 1)))) xs)
      ⟨none, [], rfl, fun b u hb _ => s5 _ _ hb, ?_, upd_same, rfl⟩ ?_ ?_⟩
    · have : o.clock.set c (((0 : Nat)) : Int) = o.clock := by
        apply List.ext_getElem?
        intro i
        by_cases e : c = i
        · subst e
          rw [List.getElem?_set_self (by omega), List.getElem?_eq_getElem (by omega : c < o.clock.length)]
          rw [List.getD_eq_getElem?_getD, List.getElem?_eq_getElem (by omega : c < o.clock.length)] at hc0
          exact congrArg some hc0.symm
        · rw [List.getElem?_set_ne e]
      rw [this]
      exact s5 _ _ hqc2
    · rintro j σ Hc hj ⟨v, xs, rfl, kp, hqcj, hqsj, hxs⟩
      have xl := reps_len hxs
      rw [List.length_map, List.length_range] at xl
      refine ⟨_, rfl, _, rfl, qc, _, _, _, rfl, rfl, SqL.of hqcj, atI_nat (get_nums (by rw [List.length_set]; omega)), _, _, rfl, rfl, _, rfl, _, rfl, qc, _, (c : Int), c, rfl, rfl, hqcj, ixN_nat (by rw [List.length_map, List.length_set]; omega), ?_⟩
      dsimp only
      rw [set_nums, setk j, List.set_set, show (j : Int) + 1 = ((j + 1 : Nat) : Int) from rfl]
      have hqs2 : (upd Hc qc (.lst (nums (o.clock.set c ((j + 1 : Nat) : Int))))) qs = some (.lst xs) := (upd_ne nsc).trans hqsj
      have hqc3 : (upd Hc qc (.lst (nums (o.clock.set c ((j + 1 : Nat) : Int))))) qc = some (.lst (nums (o.clock.set c ((j + 1 : Nat) : Int)))) := upd_same
      have i3 := imm_lst (ys := nums (o.clock.set c ((j + 1 : Nat) : Int))) hqcj
      have kp3 : ∀ b u, H2 b = some u → b ≠ qc → (upd Hc qc (.lst (nums (o.clock.set c ((j + 1 : Nat) : Int))))) b = some u := fun b u hb nb => (upd_ne nb).trans (kp b u hb nb)
      generalize upd Hc qc (.lst (nums (o.clock.set c ((j + 1 : Nat) : Int)))) = H3 at hqs2 hqc3 i3 kp3
      refine ⟨_, rfl, .inl ⟨rfl, _, SqL.of hqs2⟩, _, rfl, qc, _, rfl, .inl ⟨SqL.of hqc3, fun tp ntp => ?_⟩⟩
      have s6 := same_new (o := .tup (nums (o.clock.set c ((j + 1 : Nat) : Int)))) ntp
      have hqs6 := s6 _ _ hqs2
      refine ⟨qs, _, _, rfl, rfl, hqs6, small1000 (by omega), ?_⟩
      have i7 := imm_lst (ys := xs ++ [.ref tp]) hqs6
      have nl : ∀ m : Nat, noLists ((List.range m).map fun i : Nat => PyData.tuple (intD (o.clock.set c ((i : Int) + 1)))) = true := fun m => by
        generalize List.range m = l
        induction l with
        | nil => rfl
        | cons x l ih => simp only [List.map_cons, noLists, noList, noList_ints, Bool.true_and]; exact ih
      refine ⟨_, xs ++ [.ref tp], rfl, fun b u hb nb => ?_, (upd_ne nsc.symm).trans (s6 _ _ hqc3), upd_same, ?_⟩
      · have : b ≠ qs := fun z => by rw [z, nqs] at hb; cases hb
        exact (upd_ne this).trans (s6 _ _ (kp3 b u hb nb))
      · have er : (List.range (j + 1)).map (fun i : Nat => PyData.tuple (intD (o.clock.set c ((i : Int) + 1)))) = (List.range j).map (fun i : Nat => PyData.tuple (intD (o.clock.set c ((i : Int) + 1)))) ++ [PyData.tuple (intD (o.clock.set c ((j + 1 : Nat) : Int)))] := by rw [List.range_succ, List.map_append]; rfl
        rw [er]
        refine RepDs.imm i7 _ _ (by rw [← er]; exact nl _) (reps_append (RepDs.imm (i3.trans s6.imm) _ _ (nl _) hxs) (reps_one (rep_clock (SqT.of upd_same))))
    · rintro σ Hc ⟨v, xs, rfl, kp, hqcj, hqsj, hxs⟩
      obtain ⟨sa, sb, rfl, SA, SB⟩ : ∃ sa sb, xs = [.ref sa, .ref sb] ∧ SqT K Hc sa (nums (o.clock.set c 1)) ∧ SqT K Hc sb (nums (o.clock.set c 2)) := by
        rw [show (List.range 2).map (fun i : Nat => PyData.tuple (intD (o.clock.set c ((i : Int) + 1)))) = [PyData.tuple (intD (o.clock.set c 1)), PyData.tuple (intD (o.clock.set c 2))] from rfl] at hxs
        simp only [RepDs, RepD] at hxs
        obtain ⟨x1, r1, rfl, ⟨a1, z1, rfl, h1, q1⟩, x2, r2, rfl, ⟨a2, z2, rfl, h2, q2⟩, rfl⟩ := hxs
        rw [reps_ints.mp q1] at h1
        rw [reps_ints.mp q2] at h2
        exact ⟨a1, a2, rfl, h1, h2⟩
      have iH : Imm H2 Hc := ⟨fun b xs h => kp b _ h (ne_of h hqc2 (by intro z; cases z)), fun b u v h => kp b _ h (ne_of h hqc2 (by intro z; cases z))⟩
      have hqmj := kp _ _ hqm nmc
      have hqbj := kp _ _ hqb2 nbc
      have nrcx := nrc2
      rw [X2.ob, refs_flds] at nrcx
      have Xc : OffX K C Hc p o2 dx2 cl2 lb2 lt2 lk2 bks2 ts2 ks2 :=
        ⟨kp _ _ X2.ob (lst_ne hqc2 X2.ob).symm, iH.sqT X2.ck, kp _ _ X2.hb (fun z => nrcx (.inl z.symm)), RepDs.imm iH _ _ X2.nb X2.rb, kp _ _ X2.ht (fun z => nrcx (.inr (.inl z.symm))), RepDs.imm iH _ _ (noList_lets _) X2.rt, kp _ _ X2.hk (fun z => nrcx (.inr (.inr z.symm))), RepDs.imm iH _ _ X2.nk X2.rk, X2.nb, X2.nk⟩
      have L1c := L1.imm iH
      have L2c := L2.imm iH
      have hbsc := RepDs.imm iH _ _ (by rw [hbk]; exact noList_book _) hbs2
      refine ⟨_, rfl, _, rfl, qs, _, 0, _, rfl, rfl, SqL.of hqsj, rfl, len1, fun w1 nw1 => ⟨len3, fun f1 nf1 => ?_⟩⟩
      have t1' := same_new (o := .tup [.str "cut"]) nw1
      have t2' := same_new (o := .tup [.int c, .ref sa, .ref w1]) nf1
      have t12 := t1'.trans t2'
      have F1 : LetAt K (upd (upd Hc w1 (.tup [.str "cut"])) f1 (.tup [.int c, .ref sa, .ref w1])) f1 ⟨c, o.clock.set c 1, .cut⟩ := ⟨sa, w1, SqT.of upd_same, t12.sqT SA, t2'.sqT (SqT.of upd_same)⟩
      generalize upd (upd Hc w1 (.tup [.str "cut"])) f1 (.tup [.int c, .ref sa, .ref w1]) = H4 at t12 F1
      refine ⟨_, rfl, _, rfl, qs, _, 1, _, rfl, rfl, SqL.of (t12 _ _ hqsj), rfl, _, rfl, len3, fun w2 nw2 => ⟨len3, fun f2 nf2 => ?_⟩⟩
      have t3' := same_new (o := .tup [.str "pay", .int 0, .int o.coins]) nw2
      have t4' := same_new (o := .tup [.int c, .ref sb, .ref w2]) nf2
      have t34 := t3'.trans t4'
      have F2 : LetAt K (upd (upd H4 w2 (.tup [.str "pay", .int 0, .int o.coins])) f2 (.tup [.int c, .ref sb, .ref w2])) f2 ⟨c, o.clock.set c 2, .pay 0 o.coins⟩ := ⟨sb, w2, SqT.of upd_same, t34.sqT (t12.sqT SB), t4'.sqT (SqT.of upd_same)⟩
      have t14 := t12.trans t34
      have F1' := F1.imm t34.imm
      generalize upd (upd H4 w2 (.tup [.str "pay", .int 0, .int o.coins])) f2 (.tup [.int c, .ref sb, .ref w2]) = H5 at t34 F2 t14 F1'
      refine ⟨_, rfl, qm, _, 0, _, rfl, rfl, SqL.of (t14 _ _ hqmj), rfl, _, rfl, _, _, letD ⟨c, o.clock.set c 1, .cut⟩, rfl, letAt_iff.mpr ⟨la1, rfl, L1c.imm t14.imm⟩, letAt_iff.mpr ⟨f1, rfl, F1'⟩, Nat.lt_of_lt_of_le (depth_let _) (by decide), wide_let (by show (o.clock.set c 1).length ≤ 1000; rw [List.length_set]; omega), fun H6 e6 => ⟨_, rfl, iteF ?_⟩⟩
      have e56 := t14.trans e6
      refine ⟨_, rfl, qm, _, 1, _, rfl, rfl, SqL.of (e56 _ _ hqmj), rfl, _, rfl, _, _, letD ⟨c, o.clock.set c 2, .pay 0 o.coins⟩, rfl, letAt_iff.mpr ⟨la2, rfl, L2c.imm e56.imm⟩, letAt_iff.mpr ⟨f2, rfl, F2.imm e6.imm⟩, Nat.lt_of_lt_of_le (depth_let _) (by decide), wide_let (by show (o.clock.set c 2).length ≤ 1000; rw [List.length_set]; omega), fun H7 e7 => ⟨_, rfl, iteF ?_⟩⟩
      have ec7 := e56.trans e7
      have X7 := Xc.same ec7
      have hkl2 := X7.rk
      rw [hkp] at hkl2
      obtain ⟨kr, kv, ekv, kr1, kr2⟩ := reps_snoc hkl2
      subst ekv
      refine ⟨_, rfl, p, C, dx2, _, _, rfl, X7.ob, T'.cl, T'.nE, at_kept, _, rfl, lk2, _, -1, kv, rfl, rfl, SqL.of X7.hk, neg1 _ _, _, rfl, len2, fun nm nnm => ⟨_, rfl, _, rfl, qs, _, 0, _, rfl, rfl, SqL.of (same_new nnm _ _ (ec7 _ _ hqsj)), rfl, len3, fun r nr => ?_⟩⟩
      have t8 := same_new (o := .tup [.int c, .int 1]) nnm
      have t9 := same_new (o := .tup [.ref nm, .int o.coins, .ref sa]) nr
      refine ⟨_, _, keptD ⟨c, o.clock.set c 1, .cut⟩ o.coins (o.clock.set c 1), rfl, RepD.same (t8.trans t9) _ _ kr2, ?_, ?_, ?_, fun H10 e10 => ⟨_, rfl, iteF ?_⟩⟩
      · unfold keptD nameD nmD nameN
        simp only [RepD, RepDs]
        refine ⟨r, _, rfl, SqT.of upd_same, _, _, rfl, ⟨nm, _, rfl, SqT.of (t9 _ _ upd_same), _, _, rfl, rfl, _, _, rfl, ?_, rfl⟩, _, _, rfl, rfl, _, _, rfl, ⟨sa, _, rfl, (ec7.trans (t8.trans t9)).sqT SA, reps_ints.mpr rfl⟩, rfl⟩
        have := setk 1
        rw [show ((1 : Nat) : Int) = 1 from rfl] at this
        rw [this]
      · unfold keptD nameD nmD
        simp [PyData.depth, PyData.depthAll, depth_ints]
      · unfold keptD nameD nmD
        simp only [wideD, wideDs]
        refine ⟨by show 3 ≤ 1000; decide, ⟨by show 2 ≤ 1000; decide, trivial, trivial, trivial⟩, trivial, ⟨?_, wide_ints _⟩, trivial⟩
        unfold intD; rw [List.length_map, List.length_set]; omega
      have ec10 := ec7.trans ((t8.trans t9).trans e10)
      have X10 := Xc.same ec10
      have hck := X10.ck
      rw [hck2] at hck
      refine ⟨_, rfl, p, C, dx2, _, _, rfl, X10.ob, T'.cl, T'.nK, at_clock, _, rfl, qs, _, 1, _, rfl, rfl, SqL.of (ec10 _ _ hqsj), rfl, _, _, .tuple (intD (o.clock.set c 2)), rfl, rep_clock hck, rep_clock (ec10.sqT SB), depth_clock _, wide_clock (by rw [List.length_set]; omega), fun H11 e11 => ⟨_, rfl, iteF ?_⟩⟩
      have ec11 := ec10.trans e11
      have X11 := Xc.same ec11
      refine ⟨_, rfl, p, C, dx2, _, _, rfl, X11.ob, T'.cl, T'.nC, at_coins, _, _, .int 0, rfl, by rw [hz]; simp only [RepD], by simp only [RepD], by decide, trivial, fun H12 e12 => ⟨_, rfl, iteF ?_⟩⟩
      have ec12 := ec11.trans e12
      have X12 := Xc.same ec12
      have hrb := X12.rb
      rw [hbk2] at hrb
      refine ⟨_, rfl, p, C, dx2, _, _, rfl, X12.ob, T'.cl, T'.nB, at_book, _, rfl, _, rfl, len2, fun m1 nm1 => ⟨len2, fun b1 nb1 => ⟨_, rfl, len2, fun m2 nm2 => ⟨len2, fun b2 nb2 => ⟨len2, fun bl nbl => ?_⟩⟩⟩⟩⟩
      have u1 := same_new (o := .tup [.int c, .int 1]) nm1
      have u2 := same_new (o := .tup [.str "sent", .ref m1]) nb1
      have u3 := same_new (o := .tup [.int c, .int 2]) nm2
      have u4 := same_new (o := .tup [.str "sent", .ref m2]) nb2
      have u5 := same_new (o := .lst [.ref b1, .ref b2]) nbl
      have G1 := (((u2.trans u3).trans u4).trans u5) _ _ (upd_same (H := H12) (a := m1) (o := .tup [.int c, .int 1]))
      have G2 := ((u3.trans u4).trans u5) _ _ (upd_same (H := upd H12 m1 (.tup [.int c, .int 1])) (a := b1) (o := .tup [.str "sent", .ref m1]))
      have G3 := (u4.trans u5) _ _ (upd_same (H := upd (upd H12 m1 (.tup [.int c, .int 1])) b1 (.tup [.str "sent", .ref m1])) (a := m2) (o := .tup [.int c, .int 2]))
      have G4 := u5 _ _ (upd_same (H := upd (upd (upd H12 m1 (.tup [.int c, .int 1])) b1 (.tup [.str "sent", .ref m1])) m2 (.tup [.int c, .int 2])) (a := b2) (o := .tup [.str "sent", .ref m2]))
      have G5 : (upd (upd (upd (upd (upd H12 m1 (.tup [.int c, .int 1])) b1 (.tup [.str "sent", .ref m1])) m2 (.tup [.int c, .int 2])) b2 (.tup [.str "sent", .ref m2])) bl (.lst [.ref b1, .ref b2])) bl = some (.lst [.ref b1, .ref b2]) := upd_same
      have u15 := (((u1.trans u2).trans u3).trans u4).trans u5
      generalize upd (upd (upd (upd (upd H12 m1 (.tup [.int c, .int 1])) b1 (.tup [.str "sent", .ref m1])) m2 (.tup [.int c, .int 2])) b2 (.tup [.str "sent", .ref m2])) bl (.lst [.ref b1, .ref b2]) = H13 at G1 G2 G3 G4 G5 u15
      have ec13 := ec12.trans u15
      have bsl := reps_len hbs
      refine ⟨qb, bl, bs, _, rfl, rfl, ec13 _ _ hqbj, G5, big _ (by show bs.length + 2 ≤ 1000000; omega), fun bn nbn => ?_⟩
      have v1 := same_new (o := .lst (bs ++ [.ref b1, .ref b2])) nbn
      have ec14 := ec13.trans v1
      refine ⟨_, _, .list (got.map (bookD "got") ++ [⟨c, o.clock.set c 1, .cut⟩, ⟨c, o.clock.set c 2, .pay 0 o.coins⟩].map (bookD "sent")), rfl, ?_, ?_, ?_, ?_, fun H' _ => k H'⟩
      · simp only [RepD]
        exact ⟨lb2, _, rfl, SqL.of ((u15.trans v1) _ _ X12.hb), RepDs.same (u15.trans v1) _ _ hrb⟩
      · simp only [RepD]
        refine ⟨bn, _, rfl, SqL.of upd_same, reps_append (RepDs.same ec14 _ _ (by rw [← hbk]; exact hbsc)) ?_⟩
        have sk1 : (o.clock.set c 1).getD c 0 = 1 := setk 1
        have sk2 : (o.clock.set c 2).getD c 0 = 2 := setk 2
        simp only [List.map_cons, List.map_nil, bookD, nameD, nmD, nameN, RepDs, RepD, sk1, sk2]
        exact ⟨_, _, rfl, ⟨b1, _, rfl, SqT.of (v1 _ _ G2), _, _, rfl, rfl, _, _, rfl, ⟨m1, _, rfl, SqT.of (v1 _ _ G1), _, _, rfl, rfl, _, _, rfl, rfl, rfl⟩, rfl⟩, _, _, rfl, ⟨b2, _, rfl, SqT.of (v1 _ _ G4), _, _, rfl, rfl, _, _, rfl, ⟨m2, _, rfl, SqT.of (v1 _ _ G3), _, _, rfl, rfl, _, _, rfl, rfl, rfl⟩, rfl⟩, rfl⟩
      · simp only [PyData.depth, depth_append]
        have h1 := depth_book (how := "got") got
        have h2 := depth_book (how := "sent") [⟨c, o.clock.set c 1, .cut⟩, ⟨c, o.clock.set c 2, .pay 0 o.coins⟩]
        omega
      · simp only [wideD]
        refine ⟨?_, wide_append (wide_book _) (wide_book _)⟩
        rw [List.length_append, List.length_map, List.length_map]
        show got.length + 2 ≤ 1000
        omega
end
end Of

end

section
set_option Elab.async false
set_option linter.all false
set_option maxRecDepth 100000
set_option maxHeartbeats 4000000
seal L2.PE L2.PT L2.PW L2.PA L2.PS L2.PSs L2.PG L2.PGs L2.PI L3.PTs L2.PO L2.CallR L2.OpR L2.IxR L2.MtR L2.PSet L2.SlR
namespace Of
open PySem L2 L3 L4 L5
theorem gone_snoc : ∀ (ls g : List Let) (l : Let), gone g (ls ++ [l]) = if l ∈ gone g ls then gone g ls else gone g ls ++ [l]
  | [], g, l => rfl
  | x :: ls, g, l => by
    simp only [List.cons_append, gone]
    exact gone_snoc ls _ l
theorem gone_len : ∀ (ls g : List Let), (gone g ls).length ≤ g.length + ls.length
  | [], g => Nat.le_refl _
  | x :: ls, g => by
    simp only [gone]
    refine Nat.le_trans (gone_len ls _) ?_
    split
    · simp only [List.length_cons]; omega
    · simp only [List.length_cons, List.length_append, List.length_nil]; omega
theorem any_let {g : List Let} {l : Let} : (g.map letD).any (fun y => PyData.eqv y (letD l)) = decide (l ∈ g) := by
  rw [Bool.eq_iff_iff, List.any_map, List.any_eq_true, decide_eq_true_eq]
  constructor
  · rintro ⟨x, hx, h⟩
    have : x = l := of_decide_eq_true ((eqv_let x l) ▸ h)
    exact this ▸ hx
  · intro h
    refine ⟨l, h, ?_⟩
    show PyData.eqv (letD l) (letD l) = true
    rw [eqv_let]; simp
theorem ans_get {K : PySem.W.Frag} {H : Hp} {q : Addr} : ∀ {an : List (List Let)} {ys : List V} {i : Nat} {ns : List Let}, AnsAt K H q an ys → an[i]? = some ns → ∃ b xs, ys[i]? = some (.ref b) ∧ b ≠ q ∧ H b = some (.lst xs) ∧ RepDs K H (ns.map nameD) xs
  | [], ys, i, ns, h, e => by simp at e
  | m :: an, ys, 0, ns, h, e => by
    obtain ⟨b, xs, r, rfl, hb, h1, h2, h3⟩ := h
    have : m = ns := by simpa using e
    subst this
    exact ⟨b, xs, rfl, hb, h1, h2⟩
  | m :: an, ys, i + 1, ns, h, e => by
    obtain ⟨b, xs, r, rfl, hb, h1, h2, h3⟩ := h
    obtain ⟨b', xs', g1, g2⟩ := ans_get (i := i) h3 (by simpa using e)
    exact ⟨b', xs', by simpa using g1, g2⟩
theorem sumF_congr {f g : Let → Int} : ∀ {ls : List Let}, (∀ l ∈ ls, f l = g l) → sumF f ls = sumF g ls
  | [], _ => rfl
  | l :: ls, h => by simp only [sumF]; rw [h l List.mem_cons_self, sumF_congr fun x hx => h x (List.mem_cons_of_mem _ hx)]
def paid (l : Let) : Int := match l.w with
  | .pay _ m => m
  | .cut => 0
theorem paid_for {c : Nat} {l : Let} (h : okPay c l.w) : coinsFor (c : Int) l.w = paid l := by
  unfold paid
  cases e : l.w with
  | cut => rfl
  | pay t m => rw [e] at h; exact if_pos h.1
theorem paid_nn {c : Nat} {l : Let} (h : okPay c l.w) : 0 ≤ paid l := by
  unfold paid
  cases e : l.w with
  | cut => exact Int.le_refl _
  | pay t m => rw [e] at h; exact h.2
theorem sumF_nn {f : Let → Int} : ∀ {ls : List Let}, (∀ l ∈ ls, 0 ≤ f l) → 0 ≤ sumF f ls
  | [], _ => Int.le_refl _
  | l :: ls, h => by
    simp only [sumF]
    have h1 := h l List.mem_cons_self
    have h2 := sumF_nn (f := f) (ls := ls) fun x hx => h x (List.mem_cons_of_mem _ hx)
    omega
def spEnded (K : PySem.W.Frag) (C : Addr) : Sp := fun vs H Q _ => ∃ (p qr qc qf : Addr) (c : Nat) (o : Off) (row got : List Let) (found : List (List Let)) (rs ys : List V), vs = [.ref p, .ref qr, .ref qc, .ref qf] ∧ OffAt K C H p o ∧ SqL K H qr rs ∧ RepDs K H (row.map letD) rs ∧ H qc = some (.lst (nums o.clock)) ∧ H qf = some (.lst ys) ∧ AnsAt K H qf found ys ∧
  found.flatten = got ∧ got.Nodup ∧ (∀ x, x ∈ got ↔ x ∈ row) ∧ (∀ l ∈ row, okPay c l.w) ∧ o.num = (c : Int) ∧ o.coins = sumF (fun l => coinsFor (c : Int) l.w) got ∧ o.book = got.map (bookD "got") ∧ o.kept.length = cutsN got ∧ o.clock.length = c + 1 ∧ o.clock.getD c 0 = 0 ∧ c ≤ 3 ∧ row.length ≤ 80 ∧ ∀ H', Q (.bl true) H'
section
variable {P : Program} {w : World} {K : PySem.W.Frag} {mg : Str → Option Value} {base : Heap} {C fN fT fC fR fF fO fE fS fW : Addr}
theorem oEn : ownB ["_law_one", "_law_row", "_law_clock", "_law_found", "_law_coins", "_law_gone", "_law_letter", "_law_book", "_law_told", "_law_cuts"] (defScope sEnded) = true := by decide +kernel
theorem scEn : FnScope ["_law_one", "_law_row", "_law_clock", "_law_found", "_law_coins", "_law_gone", "_law_letter", "_law_book", "_law_told", "_law_cuts"] ["_law_one", "_law_row", "_law_clock", "_law_found"] (defScope sEnded) := ⟨rfl, rfl, rfl, by decide +kernel, rfl, by decide +kernel, by decide +kernel⟩
theorem ok_ended {f : Addr} {fd fdE fdS fdW : FuncData} (F : Fun K "_law_ended" "_law_ended" sEnded f fd) (T : Bts mg) (T' : Txt K mg C fN fT fC fR fF fO)
    (mE : mg "_law_sends" = some (.ref fE)) (FE : Fun K "_law_sends" "_law_sends" sSends fE fdE) (bE : Binds K fdE ["_law_one", "_law_clock", "_law_coins", "_law_book"] []) (GE : FnOk P w K mg base CX0 11 fE fdE ["_law_one", "_law_clock", "_law_coins", "_law_book"] (spSends K C))
    (mS : mg "_law_so" = some (.ref fS)) (FS : Fun K "_law_so" "_law_so" sSo fS fdS) (bS : Binds K fdS ["_law_found", "_law_meant"] []) (GS : FnOk P w K mg base CX0 10 fS fdS ["_law_found", "_law_meant"] (spSo K 10))
    (mW : mg "_law_whole" = some (.ref fW)) (FW : Fun K "_law_whole" "_law_whole" sWhole fW fdW) (bW : Binds K fdW ["_law_found"] []) : FnOk P w K mg base CX0 12 f fd ["_law_one", "_law_row", "_law_clock", "_law_found"] (spEnded K C) := by
  have GW : FnOk P w K mg base CX0 1 fW fdW ["_law_found"] (spWhole K) := ok_whole FW T
  refine okB (body := [stm sEnded 0, stm sEnded 1, stm sEnded 2, stm sEnded 3, stm sEnded 4, stm sEnded 5, stm sEnded 6, stm sEnded 7, stm sEnded 8, stm sEnded 9, stm sEnded 10]) F scEn (fun vs H Q E h => ?_) (by kernel_rfl) (fun cdv A outer s H vs Q E hr h => ?_)
  · obtain ⟨p, qr, qc, qf, c, o, row, got, found, rs, ys, rfl, _⟩ := h
    rfl
  · obtain ⟨p, qr, qc, qf, c, o, row, got, found, rs, ys, rfl, O, hqr, hrs, hqc, hqf, hys, hgot, hgn, hgm, hok, hnum, hcoin, hbk, hkp, hcl, hc0, hc3, hrow, k⟩ := h
    have hrS := hr.mono (by decide : 10 ≤ 11)
    have hrW := hr.mono (by decide : 1 ≤ 11)
    obtain ⟨dx, cl, lb, lt, lk, bks, ts, ks, X⟩ := O.x
    have hrl : rs.length = row.length := by rw [reps_len hrs, List.length_map]
    obtain ⟨gon, gom⟩ := gone_spec row [] List.nodup_nil
    have hperm : got.Perm (gone [] row) := same_perm hgn gon fun x => by rw [hgm, gom]; simp
    have hsum : o.coins = sumF paid (gone [] row) := by
      rw [hcoin, sumF_congr (g := paid) fun l hl => paid_for (hok l ((hgm l).mp hl)), sumF_perm hperm]
    have hcut : o.kept.length = cutsN (gone [] row) := by rw [hkp, cutsN_perm hperm]
    have hgl : got.length ≤ 80 := by
      have := hperm.length_eq
      have := gone_len row []
      simp at this; omega
    have hcnn : 0 ≤ o.coins := by
      rw [hsum]
      exact sumF_nn fun l hl => paid_nn (hok l (by rcases (gom l).mp hl with z | z <;> first | exact z | cases z))
    refine ⟨_, (pss_cons (oS oEn 4 pe_int)
      (pss_cons (oS oEn 5 (pe_lst pa_nil))
      (pss_cons (ps_for PassesOwn.never rfl (pi_list (oV oEn 1)) (oT oEn 6)
        (pss_one (ps_if (pt_cmpR (op_notInD (n := 10) (room_in hr)) (oV oEn 6) (oV oEn 5) (by rfl))
          (pss_cons (ps_expr (mApp (oV oEn 5) (oV oEn 6)))
          (pss_one (ps_if (pt_cmpR op_eq (iX (ixT K) (iX (ixT K) (oV oEn 6) pe_int) pe_int) pe_str (nomark _))
            (pss_one (oS oEn 4 (pe_op op_add (oV oEn 4) (iX (ixT K) (iX (ixT K) (oV oEn 6) pe_int) pe_int))))
            pss_nil)))
          pss_nil)))
      (pss_cons (oS oEn 7 (pe_lst pa_nil))
      (pss_cons (ps_for PassesOwn.never rfl (pi_list (oV oEn 3)) (oT oEn 8)
        (pss_one (oS oEn 7 (pe_op op_cat (oV oEn 7) (eC [] [] rfl (pi_list (oV oEn 8)) (fun _ _ _ _ _ => pts_nil) (fun _ _ _ _ _ => (pe_tup (aC pe_str (aC (sV 0) pa_nil)))))))))
      (pss_cons (oC oEn 9 [] [] rfl (pi_list (oV oEn 5)) (fun _ _ _ _ _ => (pts_one (pt_cmpR op_eq (iX (ixT K) (iX (ixT K) (sV 0) pe_int) pe_int) pe_str (nomark _)))) (fun _ _ _ _ _ => (sV 0)))
      (pss_cons (ps_if (PW.pt (pw_or (pt_not (pt_val (cF GW hrW mW FW.kp bW .nil pass0 (aC (pe_fld (oV oEn 0) rfl) pa_nil)))) (pw_or1 (pt_cmpR op_ne (pe_fld (oV oEn 0) rfl) (oV oEn 4) (nomark _)))))
        (pss_one (ps_ret pe_bl))
        pss_nil)
      (pss_cons (ps_if (PW.pt (pw_or (pt_not (pt_val (cB call_isiT T.isinstance boot_isi (aC (pe_fld (oV oEn 0) rfl) (aC (nT T.tuple boot_tup) pa_nil))))) (pw_or1 (pt_not (pt_val (cF GS hrS mS FS.kp bS .nil pass0 (aC (pe_fld (oV oEn 0) rfl) (aC (cT call_tuple_of T.tuple boot_tup (aC (oV oEn 2) pa_nil)) pa_nil))))))))
        (pss_one (ps_ret pe_bl))
        pss_nil)
      (pss_cons (ps_if (PW.pt (pw_or (pt_not (pt_val (cB call_isiL T.isinstance boot_isi (aC (pe_fld (oV oEn 0) rfl) (aC (nT T.list boot_lst) pa_nil))))) (pw_or1 (pt_not (pt_val (cF GS hrS mS FS.kp bS .nil pass0 (aC (pe_fld (oV oEn 0) rfl) (aC (oV oEn 7) pa_nil))))))))
        (pss_one (ps_ret pe_bl))
        pss_nil)
      (pss_cons (ps_if (PW.pt (pw_or (pt_not (pt_val (cB call_isiL T.isinstance boot_isi (aC (pe_fld (oV oEn 0) rfl) (aC (nT T.list boot_lst) pa_nil))))) (pw_or1 (pt_cmpR op_ne (cB (call_len_seq (X := _)) T.len PySem.boot_len (aC (pe_fld (oV oEn 0) rfl) pa_nil)) (cB (call_len_seq (X := _)) T.len PySem.boot_len (aC (oV oEn 9) pa_nil)) (nomark _)))))
        (pss_one (ps_ret pe_bl))
        pss_nil)
      (pss_one (ps_ret (cF GE hr mE FE.kp bE .nil pass0 (aC (oV oEn 0) (aC (cT call_list_of T.list boot_lst (aC (oV oEn 2) pa_nil)) (aC (oV oEn 4) (aC (oV oEn 7) pa_nil))))))))))))))))), ?_⟩
    refine ⟨len0, fun qg nqg => ?_⟩
    have sg := same_new (o := .lst []) nqg
    refine ⟨_, rfl, qr, rfl, ⟨_, sg.seq hqr⟩, for_list (K := K) (a := qr) (xs := rs) (fun i σ Hc => ∃ (v : Option V) (xs : List V), σ = [some (.ref p), some (.ref qr), some (.ref qc), some (.ref qf), some (.int (sumF paid (gone [] (row.take i)))), some (.ref qg), v, none, none, none] ∧ Same H Hc ∧ Hc qg = some (.lst xs) ∧ RepDs K Hc ((gone [] (row.take i)).map letD) xs)
      ⟨none, [], rfl, sg, upd_same, rfl⟩ (fun i σ Hc _ ⟨v, xs, _, e, _⟩ => e.seq hqr) ?_ ?_⟩
    · rintro i y σ Hc hi ⟨v, xs, rfl, e, hqg, hxs⟩
      have hi' : i < row.length := by have := (List.getElem?_eq_some_iff.mp hi).1; omega
      obtain ⟨x', hx', rx⟩ := reps_get hrs (i := i) (d := letD row[i]) (by rw [List.getElem?_map, List.getElem?_eq_getElem hi']; rfl)
      rw [hi] at hx'
      cases hx'
      have etk : gone [] (row.take (i + 1)) = if row[i] ∈ gone [] (row.take i) then gone [] (row.take i) else gone [] (row.take i) ++ [row[i]] := by
        rw [← gone_snoc]; congr 1; rw [List.take_succ, List.getElem?_eq_getElem hi']; rfl
      have hgl' := gone_len (row.take i) []
      rw [List.length_take] at hgl'
      simp only [List.length_nil, Nat.zero_add] at hgl'
      rw [etk]
      generalize gone [] (row.take i) = g at hxs hgl' ⊢
      generalize row[i] = l at rx ⊢
      have rxc := RepD.same e _ _ rx
      have xl := reps_len hxs
      rw [List.length_map] at xl
      obtain ⟨b, rfl, La⟩ := letAt_iff.mp rxc
      refine ⟨_, rfl, _, rfl, letD l, g.map letD, rxc, ⟨qg, xs, rfl, SqL.of hqg, hxs⟩, lay_letter l, lay_letters g, (by have := depth_let l; exact Nat.le_trans (Nat.min_le_right _ _) (by omega)), _, rfl, ?_⟩
      show if (!(g.map letD).any fun y => PyData.eqv y (letD l)) = true then _ else _
      rw [any_let]
      by_cases hl : l ∈ g
      · rw [decide_eq_true hl, if_pos hl]
        exact iteF ⟨_, xs, rfl, e, hqg, hxs⟩
      · rw [decide_eq_false hl, if_neg hl]
        refine iteT ⟨_, rfl, .inl ⟨rfl, _, SqL.of hqg⟩, _, rfl, qg, _, _, rfl, rfl, hqg, small1000 (by omega), ?_⟩
        have i1 := imm_lst (ys := xs ++ [.ref b]) hqg
        have hx1 : RepDs K (upd Hc qg (.lst (xs ++ [.ref b]))) ((g ++ [l]).map letD) (xs ++ [.ref b]) := by
          rw [List.map_append]
          exact RepDs.imm i1 _ _ (by rw [← List.map_append]; exact noList_lets _) (reps_append hxs (reps_one rxc))
        have e1 : Same H (upd Hc qg (.lst (xs ++ [.ref b]))) := same_upd e nqg
        obtain ⟨bb, cc, L1, L2, L3⟩ := La.imm i1
        cases hw : l.w with
        | cut =>
          rw [hw] at L3
          have hp : sumF paid (g ++ [l]) = sumF paid g := by rw [sumF_append]; simp only [sumF, paid, hw]; omega
          refine ⟨_, rfl, b, _, 2, _, rfl, rfl, L1, rfl, cc, _, 0, _, rfl, rfl, (show SqT K _ cc [.str "cut"] from L3), rfl, rfl, _, rfl, ?_⟩
          rw [show decide (V.str "cut" = V.str "pay") = false by decide +kernel]
          exact iteF ⟨_, xs ++ [.ref b], by rw [hp]; rfl, e1, upd_same, hx1⟩
        | pay t m =>
          rw [hw] at L3
          have hp : sumF paid (g ++ [l]) = sumF paid g + m := by rw [sumF_append]; simp only [sumF, paid, hw]; omega
          have L3 : SqT K (upd Hc qg (.lst (xs ++ [.ref b]))) cc [.str "pay", .int t, .int m] := L3
          refine ⟨_, rfl, b, _, 2, _, rfl, rfl, L1, rfl, cc, _, 0, _, rfl, rfl, L3, rfl, rfl, _, rfl, ?_⟩
          rw [show decide (V.str "pay" = V.str "pay") = true by decide +kernel]
          refine iteT ⟨_, rfl, _, rfl, b, _, 2, _, rfl, rfl, L1, rfl, cc, _, 2, _, rfl, rfl, L3, rfl, _, _, rfl, rfl, _, xs ++ [.ref b], by rw [hp]; rfl, e1, upd_same, hx1⟩
    · rintro σ Hg ⟨v, xg, rfl, eg, hqg, hxg⟩
      rw [hrl, List.take_length] at hxg ⊢
      rw [← hsum]
      refine ⟨len0, fun qb0 nqb0 => ?_⟩
      have sb := same_new (o := .lst []) nqb0
      have e0 := eg.trans sb
      have hqg0 := sb _ _ hqg
      have hxg0 := RepDs.same sb _ _ hxg
      have hqf0 := e0 _ _ hqf
      have hys0 : AnsAt K (upd Hg qb0 (.lst [])) qf found ys := AnsAt.mono (fun b xs _ h => e0 _ _ h) e0.imm hys
      have hqb00 : (upd Hg qb0 (.lst [])) qb0 = some (.lst []) := upd_same
      generalize upd Hg qb0 (.lst []) = H0 at e0 hqg0 hxg0 hqf0 hys0 hqb00
      clear sb eg hqg hxg nqb0
      have yl := hys.len
      have hfl : ∀ i, ((found.take i).flatten).length ≤ 80 := fun i => by
        refine Nat.le_trans ?_ hgl
        rw [← hgot]
        conv => rhs; rw [← List.take_append_drop i found, List.flatten_append, List.length_append]
        omega
      refine ⟨_, rfl, qf, rfl, ⟨_, SqL.of hqf0⟩, for_list (K := K) (a := qf) (xs := ys) (fun i σ Hc => ∃ (v8 : Option V) (qb : Addr) (bs : List V), σ = [some (.ref p), some (.ref qr), some (.ref qc), some (.ref qf), some (.int o.coins), some (.ref qg), v, some (.ref qb), v8, none] ∧ Same H0 Hc ∧ Hc qb = some (.lst bs) ∧ RepDs K Hc (((found.take i).flatten).map (bookD "got")) bs)
        ⟨none, qb0, [], rfl, Same.refl _, hqb00, rfl⟩ (fun i σ Hc _ ⟨v8, qb, bs, _, e, _⟩ => SqL.of (e _ _ hqf0)) ?_ ?_⟩
      · rintro i y σ Hc hi ⟨v8, qb, bs, rfl, e, hqb, hbs⟩
        have hi' : i < found.length := by have := (List.getElem?_eq_some_iff.mp hi).1; omega
        obtain ⟨b, zs, g1, g2, g3, g4⟩ := ans_get hys0 (List.getElem?_eq_getElem hi')
        rw [hi] at g1
        cases g1
        have etk : (found.take (i + 1)).flatten = (found.take i).flatten ++ found[i] := by rw [take_snoc (List.getElem?_eq_getElem hi'), List.flatten_append, List.flatten_cons, List.flatten_nil, List.append_nil]
        have hl1 := hfl (i + 1)
        rw [etk, List.length_append] at hl1
        rw [etk]
        generalize found[i] = ns at g4 hl1 ⊢
        generalize (found.take i).flatten = pre at hbs hl1 ⊢
        have bl := reps_len hbs
        rw [List.length_map] at bl
        have zl := reps_len g4
        rw [List.length_map] at zl
        have hbc := e _ _ g3
        have hzc := RepDs.same e _ _ g4
        refine ⟨_, rfl, _, rfl, b, rfl, ⟨_, SqL.of hbc⟩, comp_list (xs := zs) (fun D j us H2 => Same Hc H2 ∧ H2 D = some (.lst us) ∧ RepDs K H2 ((ns.take j).map (bookD "got")) us)
          (fun D hD => ⟨same_new hD, upd_same, rfl⟩) (fun D j us H2 hD hj h => ⟨h.2.1, SqL.of (h.1 _ _ hbc)⟩) (fun D j x us H2 hD hj ⟨f1, f2, f3⟩ => ?_) (fun D us H2 hD ⟨f1, f2, f3⟩ => ?_)⟩
        · have hj' : j < ns.length := by have := (List.getElem?_eq_some_iff.mp hj).1; omega
          obtain ⟨x', hx', rx⟩ := reps_get hzc (i := j) (d := nameD ns[j]) (by rw [List.getElem?_map, List.getElem?_eq_getElem hj']; rfl)
          rw [hj] at hx'
          cases hx'
          have ul := reps_len f3
          rw [List.length_map, List.length_take] at ul
          refine ⟨_, rfl, len2, fun t nt => ?_⟩
          have s1 := same_new (o := .tup [.str "got", x]) nt
          have hD1 := s1 _ _ f2
          refine ⟨hD1, small1000 (by omega), same_upd (f1.trans s1) hD, upd_same, ?_⟩
          have i1 := imm_lst (ys := us ++ [.ref t]) hD1
          rw [List.take_succ, List.getElem?_eq_getElem hj', Option.toList_some, List.map_append]
          refine RepDs.imm i1 _ _ (by rw [← List.map_append]; exact noList_book _) (reps_append (RepDs.same s1 _ _ f3) ?_)
          rw [List.map_singleton]
          refine reps_one ?_
          unfold bookD
          simp only [RepD, RepDs]
          exact ⟨t, _, rfl, SqT.of upd_same, _, _, rfl, rfl, _, _, rfl, RepD.same (f1.trans s1) _ _ rx, rfl⟩
        · rw [zl, List.take_length] at f3
          have ul := reps_len f3
          rw [List.length_map] at ul
          refine ⟨qb, D, bs, us, rfl, rfl, f1 _ _ hqb, f2, big _ (by omega), fun qn nqn => ?_⟩
          have s2 := same_new (o := .lst (bs ++ us)) nqn
          refine ⟨_, qn, bs ++ us, rfl, (e.trans f1).trans s2, upd_same, ?_⟩
          rw [List.map_append]
          exact RepDs.same s2 _ _ (reps_append (RepDs.same f1 _ _ hbs) f3)
      · rintro σ Hb ⟨v8, qb, bs, rfl, eb, hqb, hbs⟩
        rw [yl, List.take_length, hgot] at hbs
        have hqgb := eb _ _ hqg0
        have hxgb := RepDs.same eb _ _ hxg0
        have xgl := reps_len hxgb
        rw [List.length_map] at xgl
        have gl := gone_len row []
        simp only [List.length_nil, Nat.zero_add] at gl
        refine ⟨_, rfl, qg, rfl, ⟨_, SqL.of hqgb⟩, comp_list (xs := xg) (fun D j us H2 => Same Hb H2 ∧ H2 D = some (.lst us) ∧ us.length = cutsN ((gone [] row).take j))
          (fun D hD => ⟨same_new hD, upd_same, rfl⟩) (fun D j us H2 hD hj h => ⟨h.2.1, SqL.of (h.1 _ _ hqgb)⟩) (fun D j x us H2 hD hj ⟨f1, f2, f3⟩ => ?_) (fun qk us H2 hD ⟨f1, f2, f3⟩ => ?_)⟩
        · have hj' : j < (gone [] row).length := by have := (List.getElem?_eq_some_iff.mp hj).1; omega
          obtain ⟨x', hx', rx⟩ := reps_get hxgb (i := j) (d := letD (gone [] row)[j]) (by rw [List.getElem?_map, List.getElem?_eq_getElem hj']; rfl)
          rw [hj] at hx'
          cases hx'
          have etk : (gone [] row).take (j + 1) = (gone [] row).take j ++ [(gone [] row)[j]] := by rw [List.take_succ, List.getElem?_eq_getElem hj']; rfl
          have hcj : cutsN ((gone [] row).take j) ≤ j := Nat.le_trans (List.length_filter_le _ _) (by rw [List.length_take]; omega)
          rw [etk, cutsN_append, cutsN_one]
          generalize (gone [] row)[j] = l at rx ⊢
          obtain ⟨b, rfl, La⟩ := letAt_iff.mp rx
          obtain ⟨bb, cc, L1, L2, L3⟩ := La.imm f1.imm
          cases hw : l.w with
          | cut =>
            rw [hw] at L3
            refine ⟨_, rfl, b, _, 2, _, rfl, rfl, L1, rfl, cc, _, 0, _, rfl, rfl, (show SqT K _ cc [.str "cut"] from L3), rfl, rfl, _, rfl, ?_⟩
            rw [show decide (V.str "cut" = V.str "cut") = true by decide +kernel]
            exact iteT ⟨_, rfl, f2, small1000 (by omega), same_upd f1 hD, upd_same, by rw [List.length_append, f3, if_pos rfl]; rfl⟩
          | pay t m =>
            rw [hw] at L3
            refine ⟨_, rfl, b, _, 2, _, rfl, rfl, L1, rfl, cc, _, 0, _, rfl, rfl, (show SqT K _ cc [.str "pay", .int t, .int m] from L3), rfl, rfl, _, rfl, ?_⟩
            rw [show decide (V.str "pay" = V.str "cut") = false by decide +kernel]
            exact iteF ⟨f1, f2, by rw [f3, if_neg (by intro z; cases z)]; rfl⟩
        · rw [xgl, List.take_length] at f3
          have e2 := (e0.trans eb).trans f1
          have X2 := X.same e2
          have hbs2 := RepDs.same f1 _ _ hbs
          have hqb2 := f1 _ _ hqb
          have hqc2 := e2 _ _ hqc
          refine ⟨_, rfl, p, C, dx, _, _, rfl, X2.ob, T'.cl, T'.nC, at_coins, _, rfl, _, rfl, iteF ?_⟩
          refine ⟨_, rfl, p, C, dx, _, _, rfl, X2.ob, T'.cl, T'.nC, at_coins, _, rfl, rfl, _, rfl, ?_⟩
          rw [show (!decide (V.int o.coins = V.int o.coins)) = false by rw [decide_eq_true rfl]; rfl]
          refine iteF ⟨_, rfl, p, C, dx, _, _, rfl, X2.ob, T'.cl, T'.nK, at_clock, cl, _, _, _, rfl, X2.ck, kit_tuple, _, rfl, iteF ?_⟩
          refine ⟨_, rfl, p, C, dx, _, _, rfl, X2.ob, T'.cl, T'.nK, at_clock, _, rfl, qc, _, rfl, .inl ⟨SqL.of hqc2, fun tc ntc => ?_⟩⟩
          have s3 := same_new (o := .tup (nums o.clock)) ntc
          refine ⟨_, _, .tuple (intD o.clock), rfl, rep_clock (s3.sqT X2.ck), rep_clock (SqT.of upd_same), depth_clock _, wide_clock (by omega), fun H4 e4 => ⟨_, rfl, iteF ?_⟩⟩
          have e24 := s3.trans e4
          have X4 := X2.same e24
          refine ⟨_, rfl, p, C, dx, _, _, rfl, X4.ob, T'.cl, T'.nB, at_book, lb, _, _, _, rfl, SqL.of X4.hb, kit_list, _, rfl, iteF ?_⟩
          have hrb := X4.rb
          rw [hbk] at hrb
          refine ⟨_, rfl, p, C, dx, _, _, rfl, X4.ob, T'.cl, T'.nB, at_book, _, rfl, _, _, .list (got.map (bookD "got")), rfl, ⟨lb, _, rfl, SqL.of X4.hb, hrb⟩, ⟨qb, _, rfl, SqL.of (e24 _ _ hqb2), RepDs.same e24 _ _ hbs2⟩, ?_, ?_, fun H5 e5 => ⟨_, rfl, iteF ?_⟩⟩
          · simp only [PyData.depth]
            have := depth_book (how := "got") got
            omega
          · simp only [wideD]
            exact ⟨by rw [List.length_map]; omega, wide_book _⟩
          have e25 := e24.trans e5
          have X5 := X2.same e25
          have kl := reps_len X.rk
          refine ⟨_, rfl, p, C, dx, _, _, rfl, X5.ob, T'.cl, T'.nE, at_kept, lk, _, _, _, rfl, SqL.of X5.hk, kit_list, _, rfl, iteF ?_⟩
          refine ⟨_, rfl, p, C, dx, _, _, rfl, X5.ob, T'.cl, T'.nE, at_kept, lk, _, rfl, .inl (SqL.of X5.hk), _, rfl, qk, _, rfl, .inl (SqL.of (e25 _ _ f2)), rfl, _, rfl, ?_⟩
          rw [show (!decide (V.int ((ks.length : Nat) : Int) = V.int ((us.length : Nat) : Int))) = false by rw [kl, f3, hcut]; simp]
          refine iteF ⟨_, rfl, _, rfl, qc, _, rfl, .inl (SqL.of (e25 _ _ hqc2)), fun qn nqn => ?_⟩
          have s6 := same_new (o := .lst (nums o.clock)) nqn
          have X6 := X5.same s6
          have hqb5 := e25 _ _ hqb2
          refine ⟨_, rfl, _, rfl, p, qn, qb, c, o, got, bs, rfl, X6.at_, upd_same, fun z => ?_, s6 _ _ hqb5, (fun z => by rw [z] at hqb5; rw [hqb5] at nqn; cases nqn), ?_, hbk, hnum, hcl, hc0, hcnn, by omega, ?_, by omega, k⟩
          · rw [X6.ob, refs_flds] at z
            rcases z with z | z | z
            · rw [z, X5.hb] at nqn; cases nqn
            · rw [z, X5.ht] at nqn; cases nqn
            · rw [z, X5.hk] at nqn; cases nqn
          · rw [hbk]
            exact RepDs.same (e25.trans s6) _ _ hbs2
          · rw [hcut]
            have := List.length_filter_le (fun l : Let => decide (l.w = .cut)) (gone [] row)
            unfold cutsN; omega
end
end Of

end

section
set_option Elab.async false
set_option linter.all false
set_option maxRecDepth 100000
set_option maxHeartbeats 4000000
seal L2.PE L2.PT L2.PW L2.PA L2.PS L2.PSs L2.PG L2.PGs L2.PI L3.PTs L2.PO L2.CallR L2.OpR L2.IxR L2.MtR L2.PSet L2.SlR
namespace Of
open PySem L2 L3 L4 L5
theorem cM {X : Cx} {CX : CXT} {k : Nat} {f C : Addr} {fd : FuncData} {ps : List Str} {sp : Sp} {ds : List Value} {dvs : List V} {E : XK} {x : Str} {p pos : Pos} {e : Expr} {es : List Expr} {t : TA}
    (M : Mk X.K C f) (F : FnOk X.prog X.w X.K X.mg X.base CX k f fd ps sp) (hr : Room (k + 1) X.A) (hm : X.mg x = some (.ref C)) (hb : Binds X.K fd ps ds) (hd : Vals dvs ds) (hx : Passes CX X E) (ha : PA X (e :: es) t) (hg : glB X.env.scope x = true := by kernel_rfl)
    (h1 : isStar e = false := by rfl) (h2 : noStars es = true := by rfl) : PE X (.Call (.Name x p) (e :: es) [] pos) (tMake C sp dvs E t) :=
  pe_make M F hr (gl_of hg).1 hm hb hd hx ha (gl_of hg).2.2 (star_cons h1) (back_any h2)
theorem made_same {C p dx : Addr} {H H' : Hp} (n1 : H p = none) (n2 : H dx = none) (x : SameX p (upd (upd H dx (.own p)) p (.ins C dx [])) H') : Same H H' := fun b u hb => by
  have e1 : b ≠ p := fun z => by rw [z, n1] at hb; cases hb
  have e2 : b ≠ dx := fun z => by rw [z, n2] at hb; cases hb
  exact x.keep b u ((upd_ne e1).trans ((upd_ne e2).trans hb)) e1
theorem andT_pure {t u : TT} {σ : L2.St} {H : Hp} {Q : Bool → Hp → Prop} (b1 b2 : Bool) (h1 : ∀ Q : Bool → Hp → Prop, Q b1 H → t σ H Q) (h2 : ∀ Q : Bool → Hp → Prop, Q b2 H → u σ H Q) (q : Q (b1 && b2) H) : tAnd t u σ H Q := by
  refine h1 _ ?_
  cases b1 with
  | true => exact iteT (h2 _ q)
  | false => exact iteF q
theorem seqIf_and {t u : TT} {A B R : TS} {D : Ends} {σ : L2.St} {H : Hp} (b1 b2 : Bool) (h1 : ∀ Q : Bool → Hp → Prop, Q b1 H → t σ H Q) (h2 : ∀ Q : Bool → Hp → Prop, Q b2 H → u σ H Q) (q : if (b1 && b2) = true then A { D with nx := R D } σ H else B { D with nx := R D } σ H) : tSeq (tIfS (tAnd t u) A B) R D σ H :=
  andT_pure b1 b2 h1 h2 q
theorem cut41 {ns : List Int} : ∃ cs : List Int, cutV (nums ns) (some 1) (some 41) = nums cs ∧ cs.length ≤ 40 := by
  refine ⟨(ns.drop (HT.sIx (nums ns).length 0 (some 1))).take (HT.sIx (nums ns).length (nums ns).length (some 41) - HT.sIx (nums ns).length 0 (some 1)), ?_, ?_⟩
  · unfold cutV nums
    rw [List.map_take, List.map_drop]
  · have h1 : HT.sIx (nums ns).length 0 (some 1) = min 1 (nums ns).length := HT.sIx_nat _ _ 1
    have h2 : HT.sIx (nums ns).length (nums ns).length (some 41) = min 41 (nums ns).length := HT.sIx_nat _ _ 41
    rw [List.length_take, List.length_drop, h1, h2]
    omega
def spLaw (K : PySem.W.Frag) : Sp := fun vs H Q _ => ∃ (a : Addr) (ns : List Int), vs = [.ref a] ∧ SqL K H a (nums ns) ∧ ns.length ≤ 63 ∧ ∀ H', Q (.bl true) H'
theorem drain_len : ∀ (k : Nat) (o : Off), (drain k o).1.length ≤ k
  | 0, o => Nat.le_refl _
  | k + 1, o => by
    cases hf : firstR o.tray o.clock with
    | none => simp [drain, hf]
    | some i =>
      cases hl : o.tray[i]? with
      | none => simp [drain, hf, hl]
      | some l =>
        have := drain_len k (handed o i l)
        simp only [drain, hf, hl, List.length_cons]
        omega
theorem tookAll_get : ∀ (row : List Let) (o : Off) (k : Nat) (l : Let), row[k]? = some l → (tookAll o row).1[k]? = some (took (tookAll o (row.take k)).2 l).1
  | [], o, k, l, h => by simp at h
  | x :: row, o, 0, l, h => by
    have : x = l := by simpa using h
    subst this; rfl
  | x :: row, o, k + 1, l, h => by
    have := tookAll_get row (took o x).2 k l (by simpa using h)
    simpa [tookAll] using this
theorem tookAll_one : ∀ (ls : List Let) (o : Off), (tookAll o ls).1.length = ls.length
  | [], o => rfl
  | l :: ls, o => by simp only [tookAll, List.length_cons, tookAll_one ls]
theorem depth_nm (l : Let) : (nameD l).depth ≤ 5 := by unfold nameD nmD; simp [PyData.depth, PyData.depthAll]
theorem lay_nm (l : Let) : (nameD l).canLay0 = true := by unfold nameD nmD; simp [PyData.canLay0, PyData.canLayAll0]
theorem nm_at {K : PySem.W.Frag} {H : Hp} {l : Let} {v : V} (h : RepD K H (nameD l) v) : ∃ a, v = .ref a ∧ SqT K H a [.int l.s, .int (nameN l)] := by
  simp only [nameD, nmD, RepD, RepDs] at h
  obtain ⟨a, xs, rfl, h, x1, r1, rfl, rfl, x2, r2, rfl, rfl, rfl⟩ := h
  exact ⟨a, rfl, h⟩
theorem cntS_zero {u : Nat} : ∀ {ls : List Let}, (∀ l ∈ ls, l.s ≠ u) → cntS u ls = 0 := fun {ls} h => by
  unfold cntS
  rw [List.length_eq_zero_iff, List.filter_eq_nil_iff]
  intro l hl
  simpa using h l hl
section
variable {P : Program} {w : World} {K : PySem.W.Frag} {mg : Str → Option Value} {base : Heap} {C fN fT fC fR fF fO fA fS fQ fB fG fI fE : Addr}
theorem oLL : ownB ["_law_script", "_law_count", "_law_cells", "_law_row", "_law_one", "_law_found", "_law_tray", "_law_clock", "_law_k", "_law_letter", "_law_due", "_law_j", "_law_name"] (defScope sLaw) = true := by decide +kernel
theorem scLL : FnScope ["_law_script", "_law_count", "_law_cells", "_law_row", "_law_one", "_law_found", "_law_tray", "_law_clock", "_law_k", "_law_letter", "_law_due", "_law_j", "_law_name"] ["_law_script"] (defScope sLaw) := ⟨rfl, rfl, rfl, by decide +kernel, rfl, by decide +kernel, by decide +kernel⟩
theorem ok_law {f f0 : Addr} {fd fdA fdS fdQ fdB fdG fdI fdE fd0 : FuncData} (F : Fun K "law" "law" sLaw f fd) (T : Bts mg) (T' : Txt K mg C fN fT fC fR fF fO)
    (mA : mg "_law_at" = some (.ref fA)) (FA : Fun K "_law_at" "_law_at" sAt fA fdA) (bA : Binds K fdA ["_law_script", "_law_k"] [])
    (mS : mg "_law_sent" = some (.ref fS)) (FS : Fun K "_law_sent" "_law_sent" sSentL fS fdS) (bS : Binds K fdS ["_law_cells", "_law_count"] []) (mx : mg "max" = none)
    (mR : mg "_law_roads" = some (.ref fQ)) (FR : Fun K "_law_roads" "_law_roads" sRoads fQ fdQ) (bR : Binds K fdQ ["_law_letters", "_law_cells"] [])
    (mB : mg "taken_by" = some (.ref fB)) (FB : Fun K "taken_by" "taken_by" sTaken fB fdB) (bB : Binds K fdB ["office", "letters"] []) (GB : FnOk P w K mg base CX0 5 fB fdB ["office", "letters"] (spTaken K C))
    (mG : mg "_law_given" = some (.ref fG)) (FG : Fun K "_law_given" "_law_given" sGiven fG fdG) (bG : Binds K fdG ["_law_tray", "_law_clock"] []) (GG : FnOk P w K mg base CX0 2 fG fdG ["_law_tray", "_law_clock"] (spGiven K))
    (mI : mg "_law_is_name" = some (.ref fI)) (FI : Fun K "_law_is_name" "_law_is_name" sIsName fI fdI) (bI : Binds K fdI ["_law_found", "_law_count"] []) (GI : FnOk P w K mg base CX0 2 fI fdI ["_law_found", "_law_count"] (spIsName K))
    (mE : mg "_law_ended" = some (.ref fE)) (FE : Fun K "_law_ended" "_law_ended" sEnded fE fdE) (bE : Binds K fdE ["_law_one", "_law_row", "_law_clock", "_law_found"] []) (GE : FnOk P w K mg base CX0 12 fE fdE ["_law_one", "_law_row", "_law_clock", "_law_found"] (spEnded K C))
    (M : Mk K C f0) (b0 : Binds K fd0 ["self", "number", "count", "coins"] []) (G0 : FnOk P w K mg base CX0 1 f0 fd0 ["self", "number", "count", "coins"] (spInit K C)) :
    FnOk P w K mg base CX0 13 f fd ["_law_script"] (spLaw K) := by
  have GA : FnOk P w K mg base CX0 1 fA fdA ["_law_script", "_law_k"] (spAt K) := ok_at FA T
  have GN : FnOk P w K mg base CX0 1 fS fdS ["_law_cells", "_law_count"] (spSentL K) := ok_sentL FS T mx
  have GR : FnOk P w K mg base CX0 1 fQ fdQ ["_law_letters", "_law_cells"] (spRoads K) := ok_roads FR T
  refine okB (N := ["_law_script", "_law_count", "_law_cells", "_law_row", "_law_one", "_law_found", "_law_tray", "_law_clock", "_law_k", "_law_letter", "_law_due", "_law_j", "_law_name"]) (body := [stm sLaw 0, stm sLaw 1, stm sLaw 2, stm sLaw 3, stm sLaw 4, stm sLaw 5, stm sLaw 6, stm sLaw 7, stm sLaw 8, stm sLaw 9, stm sLaw 10]) F scLL (fun vs H Q E h => ?_) (by kernel_rfl) (fun cdv A outer s H vs Q E hr h => ?_)
  · obtain ⟨a, ns, rfl, _⟩ := h
    rfl
  · obtain ⟨a, ns, rfl, ha, hns, k⟩ := h
    have hr1 := hr.mono (by decide : 1 ≤ 12)
    have hr2 := hr.mono (by decide : 2 ≤ 12)
    have hr5 := hr.mono (by decide : 5 ≤ 12)
    refine ⟨_, (pss_cons (oS oLL 1 (pe_op op_add pe_int (pe_op op_mod (pe_op op_mod (pe_op op_mul (cF GA hr1 mA FA.kp bA .nil pass0 (aC (oV oLL 0) (aC pe_int pa_nil))) pe_int) pe_int) pe_int)))
      (pss_cons (oS oLL 2 (pe_slice sl_list (oV oLL 0) (po_some pe_int) (po_some pe_int)))
      (pss_cons (oS oLL 3 (cF GR hr1 mR FR.kp bR .nil pass0 (aC (cF GN hr1 mS FS.kp bS .nil pass0 (aC (oV oLL 2) (aC (oV oLL 1) pa_nil))) (aC (oV oLL 2) pa_nil))))
      (pss_cons (oS oLL 4 (cM M G0 hr2 T'.office b0 .nil pass0 (aC (oV oLL 1) (aC (pe_op op_add (oV oLL 1) pe_int) (aC pe_int pa_nil)))))
      (pss_cons (oS oLL 5 (cF GB hr5 mB FB.kp bB .nil pass0 (aC (oV oLL 4) (aC (cT call_list_of T.list boot_lst (aC (oV oLL 3) pa_nil)) pa_nil))))
      (pss_cons (ps_if (PW.pt (pw_or (pt_not (pt_val (cB call_isiL T.isinstance boot_isi (aC (oV oLL 5) (aC (nT T.list boot_lst) pa_nil))))) (pw_or1 (pt_cmpR op_ne (cB (call_len_seq (X := _)) T.len PySem.boot_len (aC (oV oLL 5) pa_nil)) (cB (call_len_seq (X := _)) T.len PySem.boot_len (aC (oV oLL 3) pa_nil)) (nomark _)))))
        (pss_one (ps_ret pe_bl))
        pss_nil)
      (pss_cons (oS oLL 6 (pe_lst pa_nil))
      (pss_cons (oS oLL 7 (pe_op op_rep (pe_lst (aC pe_int pa_nil)) (pe_op op_add (oV oLL 1) pe_int)))
      (pss_cons (ps_for PassesOwn.never rfl (rng1 T.range (aC (cB (call_len_seq (X := _)) T.len PySem.boot_len (aC (oV oLL 3) pa_nil)) pa_nil)) (oT oLL 8)
        (pss_cons (oS oLL 9 (iX (ixL K) (oV oLL 3) (oV oLL 8)))
        (pss_cons (ps_if (PW.pt (pw_and (pt_cmpR op_gt (iX (ixT K) (iX (ixT K) (oV oLL 9) pe_int) (iX (ixT K) (oV oLL 9) pe_int)) (iX (ixL K) (oV oLL 7) (iX (ixT K) (oV oLL 9) pe_int)) (nomark _)) (pw_and1 (pt_cmpR (op_notInD (n := 10) (room_in hr)) (oV oLL 9) (oV oLL 6) (by rfl)))))
          (pss_one (ps_expr (mApp (oV oLL 6) (oV oLL 9))))
          pss_nil)
        (pss_cons (oS oLL 10 (cF GG hr2 mG FG.kp bG .nil pass0 (aC (oV oLL 6) (aC (oV oLL 7) pa_nil))))
        (pss_cons (ps_if (PW.pt (pw_or (pt_not (pt_val (cB call_isiL T.isinstance boot_isi (aC (iX (ixL K) (oV oLL 5) (oV oLL 8)) (aC (nT T.list boot_lst) pa_nil))))) (pw_or1 (pt_cmpR op_ne (cB (call_len_seq (X := _)) T.len PySem.boot_len (aC (iX (ixL K) (oV oLL 5) (oV oLL 8)) pa_nil)) (cB (call_len_seq (X := _)) T.len PySem.boot_len (aC (oV oLL 10) pa_nil)) (nomark _)))))
          (pss_one (ps_ret pe_bl))
          pss_nil)
        (pss_one (ps_for PassesOwn.never rfl (rng1 T.range (aC (cB (call_len_seq (X := _)) T.len PySem.boot_len (aC (oV oLL 10) pa_nil)) pa_nil)) (oT oLL 11)
          (pss_cons (oS oLL 12 (iX (ixL K) (iX (ixL K) (oV oLL 5) (oV oLL 8)) (oV oLL 11)))
          (pss_one (ps_if (PW.pt (pw_or (pt_not (pt_val (cF GI hr2 mI FI.kp bI .nil pass0 (aC (oV oLL 12) (aC (oV oLL 1) pa_nil))))) (pw_or1 (pt_cmpR (op_neD (n := 10) (room_data hr)) (oV oLL 12) (iX (ixL K) (oV oLL 10) (oV oLL 11)) (nomark _)))))
            (pss_one (ps_ret pe_bl))
            pss_nil))))))))))
      (pss_cons (ps_if (PW.pt (pw_or (pt_not (pt_val (cB call_isiL T.isinstance boot_isi (aC (pe_fld (oV oLL 4) rfl) (aC (nT T.list boot_lst) pa_nil))))) (pw_or1 (pt_cmpR op_gt (cB (call_len_seq (X := _)) T.len PySem.boot_len (aC (pe_fld (oV oLL 4) rfl) pa_nil)) pe_int (nomark _)))))
        (pss_one (ps_ret pe_bl))
        pss_nil)
      (pss_one (ps_ret (cF GE hr mE FE.kp bE .nil pass0 (aC (oV oLL 4) (aC (oV oLL 3) (aC (oV oLL 7) (aC (oV oLL 5) pa_nil))))))))))))))))), ?_⟩
    refine ⟨_, rfl, a, ns, 0, rfl, ha, by decide, _, _, rfl, rfl, cmul (by decide) (by decide), _, _, rfl, rfl, (by show (0 : Int) < 1051; decide), _, _, rfl, rfl, (by show (0 : Int) < 3; decide), _, _, rfl, rfl, ?_⟩
    dsimp only
    obtain ⟨c, hc⟩ : ∃ c : Nat, 1 + cell ns 0 * 48271 % 1051 % 3 = (c : Int) := Int.eq_ofNat_of_zero_le (by have := Int.emod_nonneg (cell ns 0 * 48271 % 1051) (by decide : (3 : Int) ≠ 0); omega)
    have hc1 : 1 ≤ c := by have := Int.emod_nonneg (cell ns 0 * 48271 % 1051) (by decide : (3 : Int) ≠ 0); omega
    have hc3 : c ≤ 3 := by have := Int.emod_lt_of_pos (cell ns 0 * 48271 % 1051) (by decide : (0 : Int) < 3); omega
    rw [hc]
    obtain ⟨cs, hcs, hcsl⟩ := cut41 (ns := ns)
    refine ⟨_, rfl, _, rfl, _, rfl, a, _, rfl, ha, fun qe nqe => ?_⟩
    rw [hcs]
    have s1 := same_new (o := .lst (nums cs)) nqe
    have hqe : (upd H qe (.lst (nums cs))) qe = some (.lst (nums cs)) := upd_same
    generalize upd H qe (.lst (nums cs)) = H1 at hqe
    refine ⟨_, rfl, _, rfl, qe, cs, c, rfl, SqL.of hqe, hc1, hc3, hcsl, fun ql xl ls H2 e2 nql hql hxl ML hokl hlen => ?_⟩
    refine ⟨_, rfl, ql, qe, cs, ls, xl, rfl, SqL.of hql, hxl, SqL.of (e2 _ _ hqe), hlen, hcsl, fun qr rs row H3 e3 nqr hqr hrs hmem hrl => ?_⟩
    clear e2 e3 hql hxl hqe s1 nqe hcs nql nqr
    refine ⟨_, rfl, _, rfl, _, _, rfl, rfl, fun p dx np ndx hne => ⟨p, dx, c, 0, c + 1, rfl, upd_same, by omega, by omega, fun H4 O4 x4 => ⟨rfl, ?_⟩⟩⟩
    have e4 := made_same np ndx x4
    have hqr4 := e4 _ _ hqr
    have hrs4 := RepDs.same e4 _ _ hrs
    clear x4 np ndx hne hqr hrs e4
    have rlen : rs.length = row.length := by rw [reps_len hrs4, List.length_map]
    have hrow80 : row.length ≤ 80 := by omega
    generalize hoo : (⟨(c : Int), 0, List.replicate (c + 1) 0, [], [], []⟩ : Off) = oo at O4
    have T0 : Taken (c + 1) ls [] oo oo := by
      have h0 : ∀ v, (List.replicate (c + 1) (0 : Int)).getD v 0 = 0 := fun v => by
        rw [List.getD_eq_getElem?_getD, List.getElem?_replicate]; split <;> rfl
      rw [← hoo]
      refine ⟨(fun _ h => nomatch h), List.nodup_nil, by simp, fun u => by dsimp only; rw [h0]; simp [cntS], fun l hl => ?_, (fun _ h => nomatch h), List.nodup_nil, rfl, by simp [sumF], by simp, by simp [cutsN]⟩
      dsimp only
      rw [h0]
      obtain ⟨j, hj⟩ := List.getElem?_of_mem hl
      have := ML.num j l hj
      constructor
      · intro z; omega
      · intro z; cases z
    have f0' : firstR oo.tray oo.clock = none := by rw [← hoo]; rfl
    have hrowm : ∀ l ∈ row, l ∈ ls := fun l hl => (hmem l).mp hl
    have hfit : ∀ l ∈ row, Fit (c + 1) l := fun l hl => ML.fit l (hrowm l hl)
    have hnum0 : oo.num = (c : Int) ∧ oo.coins = 0 ∧ oo.book = [] ∧ oo.kept = [] ∧ oo.tray = [] ∧ oo.clock = List.replicate (c + 1) 0 := by rw [← hoo]; exact ⟨rfl, rfl, rfl, rfl, rfl, rfl⟩
    obtain ⟨hn0, hco0, hb0, hk0, ht0, hcl0⟩ := hnum0
    refine ⟨_, rfl, _, rfl, qr, _, rfl, .inl (SqL.of hqr4), fun qh nh => ?_⟩
    have s5 := same_new (o := .lst rs) nh
    refine ⟨p, qh, c + 1, oo, row, rs, rfl, O4.same s5, SqL.of upd_same, RepDs.same s5 _ _ hrs4, hfit, by rw [hcl0]; simp, by omega, (fun _ h => by rw [ht0] at h; cases h), (by rw [hb0, ht0]; simp only [List.length_nil]; omega), (by rw [hk0, ht0]; simp only [List.length_nil]; omega), fun qf ys H5 O5 nqf hqf hys hfr nrf x5 => ?_⟩
    obtain ⟨dx4, cl4, lb4, lt4, lk4, bs4, ts4, ks4, X4⟩ := (O4.same s5).x
    have hqr5 := x5.lst X4.ob (s5 _ _ hqr4)
    have hrs5 := RepDs.imm (x5.imm X4.ob) _ _ (noList_lets _) (RepDs.same s5 _ _ hrs4)
    clear x5 X4 s5 hqr4 hrs4 O4 nh hfr nrf nqf
    obtain ⟨TA, TB, TC⟩ := T0.all ML row hrowm f0'
    rw [List.nil_append] at TA TB
    have hall : ∀ l ∈ ls, l ∈ (tookAll oo row).1.flatten ∨ l ∈ (tookAll oo row).2.tray := fun l hl => TB l (.inr (.inr ((hmem l).mpr hl)))
    have hempty := TA.empty ML hall TC
    have ylen : ys.length = row.length := by rw [hys.len, tookAll_one]
    obtain ⟨dx5, cl5, lb5, lt5, lk5, bs5, ts5, ks5, X5⟩ := O5.x
    refine ⟨_, rfl, qf, _, _, _, rfl, SqL.of hqf, kit_list, _, rfl, iteF ?_⟩
    refine ⟨_, rfl, qf, _, rfl, .inl (SqL.of hqf), _, rfl, qr, _, rfl, .inl (SqL.of hqr5), rfl, _, rfl, ?_⟩
    rw [show (!decide (V.int ((ys.length : Nat) : Int) = V.int ((rs.length : Nat) : Int))) = false by rw [ylen, rlen]; simp]
    refine iteF ⟨len0, fun qt nqt => ?_⟩
    have s6 := same_new (o := .lst []) nqt
    refine ⟨len1, fun z nz => ⟨_, rfl, _, _, rfl, rfl, z, ((c : Int) + 1), _, rfl, rfl, upd_same, by omega, by omega, big _ (by show 1 * ((c : Int) + 1).toNat ≤ 1000000; omega), fun qc nqc => ?_⟩⟩
    have s7 := same_new (o := .lst [.int 0]) nz
    have er : (List.replicate ((c : Int) + 1).toNat [V.int 0]).flatten = nums (List.replicate (c + 1) 0) := by rw [show ((c : Int) + 1).toNat = c + 1 by omega, rep0]
    rw [er]
    have s8 := same_new (o := .lst (nums (List.replicate (c + 1) 0))) nqc
    have s58 := (s6.trans s7).trans s8
    have nqt5 : H5 qt = none := nqt
    have nqc5 : H5 qc = none := (s6.trans s7).free nqc
    have ntc : qt ≠ qc := fun y => by rw [← y, s7 _ _ upd_same] at nqc; cases nqc
    have hqt8 : (upd (upd (upd H5 qt (.lst [])) z (.lst [.int 0])) qc (.lst (nums (List.replicate (c + 1) 0)))) qt = some (.lst []) := (s7.trans s8) _ _ upd_same
    have hqc8 : (upd (upd (upd H5 qt (.lst [])) z (.lst [.int 0])) qc (.lst (nums (List.replicate (c + 1) 0)))) qc = some (.lst (nums (List.replicate (c + 1) 0))) := upd_same
    generalize upd (upd (upd H5 qt (.lst [])) z (.lst [.int 0])) qc (.lst (nums (List.replicate (c + 1) 0))) = H8 at s58 hqt8 hqc8
    clear s6 s7 s8 nz nqt nqc er
    refine ⟨_, rfl, qr, _, rfl, .inl (SqL.of (s58 _ _ hqr5)), _, rfl, by omega, by omega, for_range (n := (rs.length : Int).toNat) (lo := 0) (fun i σ Hc => ∃ (v8 v9 v10 v11 v12 : Option V) (ts : List V), σ = [some (.ref a), some (.int c), some (.ref qe), some (.ref qr), some (.ref p), some (.ref qf), some (.ref qt), some (.ref qc), v8, v9, v10, v11, v12] ∧ Same H5 Hc ∧ Hc qt = some (.lst ts) ∧ RepDs K Hc ((tookAll oo (row.take i)).2.tray.map letD) ts ∧ Hc qc = some (.lst (nums (tookAll oo (row.take i)).2.clock)))
      ⟨none, none, none, none, none, [], rfl, s58, hqt8, by rw [List.take_zero]; show RepDs K H8 (oo.tray.map letD) []; rw [ht0]; rfl, by rw [List.take_zero]; show H8 qc = some (.lst (nums oo.clock)); rw [hcl0]; exact hqc8⟩ ?_ ?_⟩
    · rintro i σ Hc hi ⟨v8, v9, v10, v11, v12, ts, rfl, e, hqt, hts, hqc⟩
      have hi' : i < row.length := by omega
      obtain ⟨y, hy, ry⟩ := reps_get hrs5 (i := i) (d := letD row[i]) (by rw [List.getElem?_map, List.getElem?_eq_getElem hi']; rfl)
      have gy : atI rs (0 + (i : Int)) = some y := by rw [Int.zero_add]; exact atI_nat hy
      obtain ⟨TA', TB', TC'⟩ := T0.all ML (row.take i) (fun l hl => hrowm l (List.mem_of_mem_take hl)) f0'
      rw [List.nil_append] at TA'
      have hkin := tookAll_kin (n := c + 1) (row.take i) (o := oo) (by rw [hcl0]; simp) (fun _ h => by rw [ht0] at h; cases h) (fun l hl => hfit l (List.mem_of_mem_take hl))
      have hb := hkin.bk
      rw [hb0, ht0, List.length_take] at hb
      simp only [List.length_nil, Nat.zero_add] at hb
      have hgetf := tookAll_get row oo i row[i] (List.getElem?_eq_getElem hi')
      have esnoc : tookAll oo (row.take (i + 1)) = ((tookAll oo (row.take i)).1 ++ [(took (tookAll oo (row.take i)).2 row[i]).1], (took (tookAll oo (row.take i)).2 row[i]).2) := by
        rw [← tookAll_snoc]; congr 1; rw [List.take_succ, List.getElem?_eq_getElem hi']; rfl
      have hlm := hrowm row[i] (List.getElem_mem hi')
      have hlf := hfit row[i] (List.getElem_mem hi')
      rw [esnoc]
      generalize row[i] = l at ry hgetf hlm hlf ⊢
      generalize (tookAll oo (row.take i)).2 = ok at hts hqc TA' hkin hb hgetf ⊢
      generalize (tookAll oo (row.take i)).1.flatten = gt at TA'
      obtain ⟨tk1, tk2, tk3⟩ := TA'.took ML hlm
      have hgv := given_drain (put ok l).tray.length (put ok l)
      obtain ⟨pt1, pt2, pt3⟩ := TA'.put ML hlm
      have hpf : ∀ x ∈ (put ok l).tray, Fit (c + 1) x := fun x hx => ML.fit x (pt1.tm x hx).1
      have hpl : (put ok l).tray.length ≤ ok.tray.length + 1 := by unfold put; split <;> simp
      have hpc : (put ok l).clock = ok.clock := by unfold put; split <;> rfl
      have rcy := RepD.same e _ _ ry
      obtain ⟨b, rfl, La⟩ := letAt_iff.mp rcy
      obtain ⟨bb, cc, L1, L2, L3⟩ := id La
      have tl := reps_len hts
      rw [List.length_map] at tl
      have hcl' : ok.clock.length = c + 1 := hkin.cl
      refine ⟨_, rfl, _, rfl, qr, _, _, _, rfl, rfl, SqL.of (e _ _ hqr5), gy, ?_⟩
      dsimp only [gName]
      refine seqIf_and (decide (ok.clock.getD l.s 0 < l.st.getD l.s 0)) (!decide (l ∈ ok.tray)) (fun Q q => ⟨_, rfl, b, _, 1, _, rfl, rfl, L1, rfl, _, rfl, b, _, 0, _, rfl, rfl, L1, rfl, bb, _, _, _, rfl, rfl, L2, atI_nat (get_nums (by rw [hlf.2]; exact hlf.1)), _, rfl, _, rfl, b, _, 0, _, rfl, rfl, L1, rfl, qc, _, _, _, rfl, rfl, SqL.of hqc, atI_nat (get_nums (by rw [hcl']; exact hlf.1)), _, _, rfl, rfl, _, rfl, q⟩) (fun Q q => ⟨_, rfl, _, rfl, letD l, ok.tray.map letD, rcy, ⟨qt, ts, rfl, SqL.of hqt, hts⟩, lay_letter l, lay_letters _, (by have := depth_let l; exact Nat.le_trans (Nat.min_le_right _ _) (by omega)), _, rfl, by show Q (!(ok.tray.map letD).any fun y => PyData.eqv y (letD l)) Hc; rw [any_let]; exact q⟩) ?_
      have hnew : (decide (ok.clock.getD l.s 0 < l.st.getD l.s 0) && !decide (l ∈ ok.tray)) = newB ok l := by
        rw [Bool.eq_iff_iff, TA'.new ML hlm, Bool.and_eq_true, decide_eq_true_eq, Bool.not_eq_true', decide_eq_false_iff_not]
        refine and_congr ?_ Iff.rfl
        rw [← TA'.lo l hlm]
        show _ ↔ ¬ l.st.getD l.s 0 ≤ _
        omega
      rw [hnew]
      refine both (fun σ' H' => ∃ ts', σ' = [some (V.ref a), some (.int c), some (.ref qe), some (.ref qr), some (.ref p), some (.ref qf), some (.ref qt), some (.ref qc), some (.int (0 + (i : Int))), some (.ref b), v10, v11, v12] ∧ Same H5 H' ∧ H' qt = some (.lst ts') ∧ RepDs K H' ((put ok l).tray.map letD) ts' ∧ H' qc = some (.lst (nums (put ok l).clock))) ?_ ?_ ?_
      · rintro σ' H' ⟨ts', rfl, e', hqt', hts', hqc'⟩
        refine ⟨_, rfl, _, rfl, qt, qc, ts', (put ok l).tray, (put ok l).clock, c + 1, rfl, hqt', hts', hqc', ntc, hpf, by rw [hpc]; exact hcl', by omega, pt1.tn, by omega, fun qd xs ts2 H9 kp nqd hqd hxs hqt9 hts9 hqc9 => ?_⟩
        rw [hgv] at hxs hts9 hqc9
        have e9 : Same H5 H9 := fun u v hu => kp u v (e' u v hu) (fun y => by rw [y, nqt5] at hu; cases hu) (fun y => by rw [y, nqc5] at hu; cases hu)
        obtain ⟨fb, fx, fg, fne, fh, fr⟩ := ans_get hys hgetf
        have gk : atI ys (0 + (i : Int)) = some (.ref fb) := by rw [Int.zero_add]; exact atI_nat fg
        have hfb9 := e9 _ _ fh
        have hfr9 := RepDs.same e9 _ _ fr
        have hqf9 := e9 _ _ hqf
        have fl := reps_len fr
        have xl' := reps_len hxs
        rw [List.length_map] at fl xl'
        have hxs : RepDs K H9 ((took ok l).1.map nameD) xs := hxs
        have xl' : xs.length = (took ok l).1.length := xl'
        refine ⟨_, rfl, _, rfl, qf, _, _, _, rfl, rfl, SqL.of hqf9, gk, fb, _, _, _, rfl, SqL.of hfb9, kit_list, _, rfl, iteF ?_⟩
        refine ⟨_, rfl, _, rfl, qf, _, _, _, rfl, rfl, SqL.of hqf9, gk, fb, _, rfl, .inl (SqL.of hfb9), _, rfl, qd, _, rfl, .inl (SqL.of hqd), rfl, _, rfl, ?_⟩
        rw [show (!decide (V.int ((fx.length : Nat) : Int) = V.int ((xs.length : Nat) : Int))) = false by rw [fl, xl']; simp]
        refine iteF ⟨_, rfl, qd, _, rfl, .inl (SqL.of hqd), _, rfl, by omega, by
          have : xs.length ≤ 1000000 := by
            have := (show ((took ok l).1).length ≤ (put ok l).tray.length from drain_len _ _)
            omega
          omega, for_range (n := (xs.length : Int).toNat) (lo := 0) (fun j σ' Hc' => ∃ u11 u12, Hc' = H9 ∧ σ' = [some (V.ref a), some (.int c), some (.ref qe), some (.ref qr), some (.ref p), some (.ref qf), some (.ref qt), some (.ref qc), some (.int (0 + (i : Int))), some (.ref b), some (.ref qd), u11, u12]) ⟨_, _, rfl, rfl⟩ ?_ ?_⟩
        · rintro j σ' Hc' hj ⟨u11, u12, ee, rfl⟩
          cases ee
          have hj' : j < (took ok l).1.length := by omega
          obtain ⟨n1, hn1, rn1⟩ := reps_get hfr9 (i := j) (d := nameD (took ok l).1[j]) (by rw [List.getElem?_map, List.getElem?_eq_getElem hj']; rfl)
          obtain ⟨n2, hn2, rn2⟩ := reps_get hxs (i := j) (d := nameD (took ok l).1[j]) (by rw [List.getElem?_map, List.getElem?_eq_getElem hj']; rfl)
          have hmm : (took ok l).1[j] ∈ ls := tk1.gm _ (List.mem_append_right _ (List.getElem_mem hj'))
          generalize (took ok l).1[j] = m at rn1 rn2 hmm
          obtain ⟨a1, rfl, A1⟩ := nm_at rn1
          have g1 : atI fx (0 + (j : Int)) = some (.ref a1) := by rw [Int.zero_add]; exact atI_nat hn1
          have g2 : atI xs (0 + (j : Int)) = some n2 := by rw [Int.zero_add]; exact atI_nat hn2
          obtain ⟨jj, hjj⟩ := List.getElem?_of_mem hmm
          have hnm := ML.num jj m hjj
          have hms := (hokl m hmm).1
          refine ⟨_, rfl, _, rfl, qf, _, _, _, rfl, rfl, SqL.of hqf9, gk, _, rfl, fb, _, _, _, rfl, rfl, SqL.of hfb9, g1, ?_⟩
          refine ⟨_, rfl, _, rfl, a1, m.s, nameN m, c, rfl, A1, by omega, by omega, by omega, _, rfl, iteF ?_⟩
          have hE : PyData.eqv (nameD m) (nameD m) = true := PySem.SeqAt.eqv_refl _ (lay_nm m)
          refine ⟨_, rfl, _, rfl, _, rfl, qd, _, _, _, rfl, rfl, SqL.of hqd, g2, nameD m, nameD m, rn1, rn2, lay_nm m, lay_nm m, (by have := depth_nm m; rw [Nat.min_self]; omega), false, by rw [hE]; rfl, iteF ?_⟩
          exact ⟨_, _, rfl, rfl⟩
        · rintro σ' Hc' ⟨u11, u12, ee, rfl⟩
          cases ee
          exact ⟨_, _, _, _, _, ts2, rfl, e9, hqt9, hts9, hqc9⟩
      · intro hb2 tail
        refine ⟨_, rfl, .inl ⟨rfl, _, SqL.of hqt⟩, _, rfl, qt, _, _, rfl, rfl, hqt, small1000 (by omega), ?_⟩
        have i1 := imm_lst (ys := ts ++ [.ref b]) hqt
        have hp : put ok l = { ok with tray := ok.tray ++ [l] } := by unfold put; rw [if_pos hb2]
        refine tail _ _ ⟨ts ++ [.ref b], rfl, same_upd e nqt5, upd_same, ?_, (upd_ne ntc.symm).trans (by rw [hpc]; exact hqc)⟩
        rw [hp]
        show RepDs K _ ((ok.tray ++ [l]).map letD) _
        rw [List.map_append]
        exact RepDs.imm i1 _ _ (by rw [← List.map_append]; exact noList_lets _) (reps_append hts (reps_one rcy))
      · intro hb2
        have hp : put ok l = ok := by unfold put; rw [if_neg (by rw [hb2]; exact Bool.false_ne_true)]
        rw [hp]
        exact ⟨ts, rfl, e, hqt, hts, hqc⟩
    · rintro σ Hc ⟨v8, v9, v10, v11, v12, ts, rfl, e, hqt, hts, hqc⟩
      have hrn : (rs.length : Int).toNat = row.length := by omega
      rw [hrn, List.take_length] at hts hqc
      have Xc := X5.same e
      have htl := reps_len X5.rt
      rw [List.length_map, hempty] at htl
      refine ⟨_, rfl, p, C, dx5, _, _, rfl, Xc.ob, T'.cl, T'.nT, at_tray, lt5, _, _, _, rfl, SqL.of Xc.ht, kit_list, _, rfl, iteF ?_⟩
      refine ⟨_, rfl, p, C, dx5, _, _, rfl, Xc.ob, T'.cl, T'.nT, at_tray, lt5, _, rfl, .inl (SqL.of Xc.ht), _, _, rfl, rfl, _, rfl, ?_⟩
      rw [htl]
      refine iteF ?_
      have hgsn : ∀ l ∈ (tookAll oo row).1.flatten, l.s ≠ c := fun l hl => by have := (hokl l (TA.gm l hl)).1; omega
      refine ⟨_, rfl, _, rfl, _, rfl, _, rfl, p, qr, qc, qf, c, (tookAll oo row).2, row, (tookAll oo row).1.flatten, (tookAll oo row).1, rs, ys, rfl, Xc.at_, SqL.of (e _ _ hqr5), RepDs.same e _ _ hrs5, hqc, e _ _ hqf, AnsAt.mono (fun b xs _ h => e _ _ h) e.imm hys, rfl, TA.gn, fun x => ?_, fun l hl => (hokl l (hrowm l hl)).2, TA.nu.trans hn0, ?_, ?_, ?_, TA.ck, ?_, hc3, hrow80, k⟩
      · constructor
        · intro hx; exact (hmem x).mpr (TA.gm x hx)
        · intro hx
          rcases hall x (hrowm x hx) with z | z
          · exact z
          · rw [hempty] at z; cases z
      · rw [TA.co, hco0, hn0]; omega
      · rw [TA.bk, hb0]; rfl
      · rw [TA.kp, hk0]; simp
      · rw [TA.cl, cntS_zero hgsn]; rfl
end
end Of

end

set_option Elab.async false
set_option linter.all false
set_option maxRecDepth 100000
set_option maxHeartbeats 4000000
namespace Of
open PySem L2 L3 L4 L5
theorem excCls_of {K : PySem.W.Frag} {C D : Addr} {cd : ClassData} (q : PySem.W.clsIn K D = some cd) (t : PySem.W.typeIn K (.ref D) = some (.type "type")) (u : PySem.W.subIn K (.ref C) (.ref D) = some true) (b : PySem.W.subIn K (.ref D) (.type "BaseException") = some true) : excCls K C D = true := by
  unfold excCls PySem.W.kitCls
  rw [b]
  simp only [q, t, u, Option.isSome_some, Bool.true_and, beq_self_eq_true, if_true]
theorem all_mk {l : PySem.W.OpenLaw} {w : World} {K : PySem.W.Frag} {h : Heap} {mg : Str → Option Value} {fa C CP CE fNm fTh fCo fRe fFi fCf fSb fSn fIn fPy fCu fTk fSd fNw fHd fWr fSo fLW fLA fLI fLN fLR fLY fLG fLE fLS fTb fLw : Addr} {cdP cdE : ClassData} (X : K.In h) (G : h.Ns mainGlobals mg) (hfa : mg "law" = some (.ref fa))
    {odNm anNm odTh anTh odCo anCo odRe anRe odFi anFi odCf anCf odSb anSb odSn anSn odIn anIn odPy anPy odCu anCu odTk anTk odSd anSd odNw anNw odHd anHd odWr anWr odSo anSo odLW anLW odLA anLA odLI anLI odLN anLN odLR anLR odLY anLY odLG anLG odLE anLE odLS anLS odTb anTb odLw anLw : Option Addr} {slNm slTh slCo slRe slFi slCf slSb slSn slIn slPy slCu slTk slSd slNw slHd slWr slSo slLW slLA slLI slLN slLR slLY slLG slLE slLS slTb slLw : Array (Option Value)} {ocNm kVNm dcNm pmNm cdNm ctNm ocTh kVTh dcTh pmTh cdTh ctTh ocCo kVCo dcCo pmCo cdCo ctCo ocRe kVRe dcRe pmRe cdRe ctRe ocFi kVFi dcFi pmFi cdFi ctFi ocCf kVCf dcCf pmCf cdCf ctCf ocSb kVSb dcSb pmSb cdSb ctSb ocSn kVSn dcSn pmSn cdSn ctSn ocIn kVIn dcIn pmIn cdIn ctIn ocPy kVPy dcPy pmPy cdPy ctPy ocCu kVCu dcCu pmCu cdCu ctCu ocTk kVTk dcTk pmTk cdTk ctTk ocSd kVSd dcSd pmSd cdSd ctSd ocNw kVNw dcNw pmNw cdNw ctNw ocHd kVHd dcHd pmHd cdHd ctHd ocWr kVWr dcWr pmWr cdWr ctWr ocSo kVSo dcSo pmSo cdSo ctSo ocLW kVLW dcLW pmLW cdLW ctLW ocLA kVLA dcLA pmLA cdLA ctLA ocLI kVLI dcLI pmLI cdLI ctLI ocLN kVLN dcLN pmLN cdLN ctLN ocLR kVLR dcLR pmLR cdLR ctLR ocLY kVLY dcLY pmLY cdLY ctLY ocLG kVLG dcLG pmLG cdLG ctLG ocLE kVLE dcLE pmLE cdLE ctLE ocLS kVLS dcLS pmLS cdLS ctLS ocTb kVTb dcTb pmTb cdTb ctTb ocLw kVLw dcLw pmLw cdLw ctLw : Value}
    (aC : PySem.W.nsIn K mainGlobals "Office" = some (some (.ref C)))
    (aNm : PySem.W.nsIn K mainGlobals "name_of" = some (some (.ref fNm))) (lNm : K.lookup fNm = some ⟨ocNm, odNm, .func (PySem.W.fnOf "name_of" "name_of" (defArgs sName) (defBody sName) (defScope sName) .none kVNm dcNm pmNm anNm cdNm ctNm), slNm⟩) (cNm : PySem.W.codeIn K cdNm "name_of" = true) (kNm : PySem.W.keepIn K (.ref fNm) = true)
    (aTh : PySem.W.nsIn K mainGlobals "is_there" = some (some (.ref fTh))) (lTh : K.lookup fTh = some ⟨ocTh, odTh, .func (PySem.W.fnOf "is_there" "is_there" (defArgs sThere) (defBody sThere) (defScope sThere) .none kVTh dcTh pmTh anTh cdTh ctTh), slTh⟩) (cTh : PySem.W.codeIn K cdTh "is_there" = true) (kTh : PySem.W.keepIn K (.ref fTh) = true)
    (aCo : PySem.W.nsIn K mainGlobals "counted" = some (some (.ref fCo))) (lCo : K.lookup fCo = some ⟨ocCo, odCo, .func (PySem.W.fnOf "counted" "counted" (defArgs sCounted) (defBody sCounted) (defScope sCounted) .none kVCo dcCo pmCo anCo cdCo ctCo), slCo⟩) (cCo : PySem.W.codeIn K cdCo "counted" = true) (kCo : PySem.W.keepIn K (.ref fCo) = true)
    (aRe : PySem.W.nsIn K mainGlobals "ready" = some (some (.ref fRe))) (lRe : K.lookup fRe = some ⟨ocRe, odRe, .func (PySem.W.fnOf "ready" "ready" (defArgs sReady) (defBody sReady) (defScope sReady) .none kVRe dcRe pmRe anRe cdRe ctRe), slRe⟩) (cRe : PySem.W.codeIn K cdRe "ready" = true) (kRe : PySem.W.keepIn K (.ref fRe) = true)
    (aFi : PySem.W.nsIn K mainGlobals "first_ready" = some (some (.ref fFi))) (lFi : K.lookup fFi = some ⟨ocFi, odFi, .func (PySem.W.fnOf "first_ready" "first_ready" (defArgs sFirst) (defBody sFirst) (defScope sFirst) .none kVFi dcFi pmFi anFi cdFi ctFi), slFi⟩) (cFi : PySem.W.codeIn K cdFi "first_ready" = true) (kFi : PySem.W.keepIn K (.ref fFi) = true)
    (aCf : PySem.W.nsIn K mainGlobals "coins_for" = some (some (.ref fCf))) (lCf : K.lookup fCf = some ⟨ocCf, odCf, .func (PySem.W.fnOf "coins_for" "coins_for" (defArgs sCoins) (defBody sCoins) (defScope sCoins) .none kVCf dcCf pmCf anCf cdCf ctCf), slCf⟩) (cCf : PySem.W.codeIn K cdCf "coins_for" = true) (kCf : PySem.W.keepIn K (.ref fCf) = true)
    (aSb : PySem.W.nsIn K mainGlobals "sent_by" = some (some (.ref fSb))) (lSb : K.lookup fSb = some ⟨ocSb, odSb, .func (PySem.W.fnOf "sent_by" "sent_by" (defArgs sSentBy) (defBody sSentBy) (defScope sSentBy) .none kVSb dcSb pmSb anSb cdSb ctSb), slSb⟩) (cSb : PySem.W.codeIn K cdSb "sent_by" = true) (kSb : PySem.W.keepIn K (.ref fSb) = true)
    (aSn : PySem.W.nsIn K mainGlobals "sent_or_none" = some (some (.ref fSn))) (lSn : K.lookup fSn = some ⟨ocSn, odSn, .func (PySem.W.fnOf "sent_or_none" "sent_or_none" (defArgs sSentOr) (defBody sSentOr) (defScope sSentOr) .none kVSn dcSn pmSn anSn cdSn ctSn), slSn⟩) (cSn : PySem.W.codeIn K cdSn "sent_or_none" = true) (kSn : PySem.W.keepIn K (.ref fSn) = true)
    (aIn : PySem.W.findIn K (.ref C) "__init__" = some (some (.ref fIn))) (iIn : PySem.W.isFn K (.ref fIn) = true) (lIn : K.lookup fIn = some ⟨ocIn, odIn, .func (PySem.W.fnOf "__init__" "Office.__init__" (defArgs sInit) (defBody sInit) (defScope sInit) .none kVIn dcIn pmIn anIn cdIn ctIn), slIn⟩) (cIn : PySem.W.codeIn K cdIn "Office.__init__" = true) (kIn : PySem.W.keepIn K (.ref fIn) = true)
    (aPy : PySem.W.findIn K (.ref C) "pay" = some (some (.ref fPy))) (iPy : PySem.W.isFn K (.ref fPy) = true) (lPy : K.lookup fPy = some ⟨ocPy, odPy, .func (PySem.W.fnOf "pay" "Office.pay" (defArgs sPay) (defBody sPay) (defScope sPay) .none kVPy dcPy pmPy anPy cdPy ctPy), slPy⟩) (cPy : PySem.W.codeIn K cdPy "Office.pay" = true) (kPy : PySem.W.keepIn K (.ref fPy) = true)
    (aCu : PySem.W.findIn K (.ref C) "cut" = some (some (.ref fCu))) (iCu : PySem.W.isFn K (.ref fCu) = true) (lCu : K.lookup fCu = some ⟨ocCu, odCu, .func (PySem.W.fnOf "cut" "Office.cut" (defArgs sCut) (defBody sCut) (defScope sCut) .none kVCu dcCu pmCu anCu cdCu ctCu), slCu⟩) (cCu : PySem.W.codeIn K cdCu "Office.cut" = true) (kCu : PySem.W.keepIn K (.ref fCu) = true)
    (aTk : PySem.W.findIn K (.ref C) "take" = some (some (.ref fTk))) (iTk : PySem.W.isFn K (.ref fTk) = true) (lTk : K.lookup fTk = some ⟨ocTk, odTk, .func (PySem.W.fnOf "take" "Office.take" (defArgs sTake) (defBody sTake) (defScope sTake) .none kVTk dcTk pmTk anTk cdTk ctTk), slTk⟩) (cTk : PySem.W.codeIn K cdTk "Office.take" = true) (kTk : PySem.W.keepIn K (.ref fTk) = true)
    (aSd : PySem.W.findIn K (.ref C) "send" = some (some (.ref fSd))) (iSd : PySem.W.isFn K (.ref fSd) = true) (lSd : K.lookup fSd = some ⟨ocSd, odSd, .func (PySem.W.fnOf "send" "Office.send" (defArgs sSend) (defBody sSend) (defScope sSend) .none kVSd dcSd pmSd anSd cdSd ctSd), slSd⟩) (cSd : PySem.W.codeIn K cdSd "Office.send" = true) (kSd : PySem.W.keepIn K (.ref fSd) = true)
    (aNw : PySem.W.findIn K (.ref C) "is_new" = some (some (.ref fNw))) (iNw : PySem.W.isFn K (.ref fNw) = true) (lNw : K.lookup fNw = some ⟨ocNw, odNw, .func (PySem.W.fnOf "is_new" "Office.is_new" (defArgs sIsNew) (defBody sIsNew) (defScope sIsNew) .none kVNw dcNw pmNw anNw cdNw ctNw), slNw⟩) (cNw : PySem.W.codeIn K cdNw "Office.is_new" = true) (kNw : PySem.W.keepIn K (.ref fNw) = true)
    (aHd : PySem.W.findIn K (.ref C) "hand_over" = some (some (.ref fHd))) (iHd : PySem.W.isFn K (.ref fHd) = true) (lHd : K.lookup fHd = some ⟨ocHd, odHd, .func (PySem.W.fnOf "hand_over" "Office.hand_over" (defArgs sHand) (defBody sHand) (defScope sHand) .none kVHd dcHd pmHd anHd cdHd ctHd), slHd⟩) (cHd : PySem.W.codeIn K cdHd "Office.hand_over" = true) (kHd : PySem.W.keepIn K (.ref fHd) = true)
    (aWr : PySem.W.findIn K (.ref C) "write_in_book" = some (some (.ref fWr))) (iWr : PySem.W.isFn K (.ref fWr) = true) (lWr : K.lookup fWr = some ⟨ocWr, odWr, .func (PySem.W.fnOf "write_in_book" "Office.write_in_book" (defArgs sWrite) (defBody sWrite) (defScope sWrite) .none kVWr dcWr pmWr anWr cdWr ctWr), slWr⟩) (cWr : PySem.W.codeIn K cdWr "Office.write_in_book" = true) (kWr : PySem.W.keepIn K (.ref fWr) = true)
    (aSo : PySem.W.nsIn K mainGlobals "_law_so" = some (some (.ref fSo))) (lSo : K.lookup fSo = some ⟨ocSo, odSo, .func (PySem.W.fnOf "_law_so" "_law_so" (defArgs sSo) (defBody sSo) (defScope sSo) .none kVSo dcSo pmSo anSo cdSo ctSo), slSo⟩) (cSo : PySem.W.codeIn K cdSo "_law_so" = true) (kSo : PySem.W.keepIn K (.ref fSo) = true)
    (aLW : PySem.W.nsIn K mainGlobals "_law_whole" = some (some (.ref fLW))) (lLW : K.lookup fLW = some ⟨ocLW, odLW, .func (PySem.W.fnOf "_law_whole" "_law_whole" (defArgs sWhole) (defBody sWhole) (defScope sWhole) .none kVLW dcLW pmLW anLW cdLW ctLW), slLW⟩) (cLW : PySem.W.codeIn K cdLW "_law_whole" = true) (kLW : PySem.W.keepIn K (.ref fLW) = true)
    (aLA : PySem.W.nsIn K mainGlobals "_law_at" = some (some (.ref fLA))) (lLA : K.lookup fLA = some ⟨ocLA, odLA, .func (PySem.W.fnOf "_law_at" "_law_at" (defArgs sAt) (defBody sAt) (defScope sAt) .none kVLA dcLA pmLA anLA cdLA ctLA), slLA⟩) (cLA : PySem.W.codeIn K cdLA "_law_at" = true) (kLA : PySem.W.keepIn K (.ref fLA) = true)
    (aLI : PySem.W.nsIn K mainGlobals "_law_is_name" = some (some (.ref fLI))) (lLI : K.lookup fLI = some ⟨ocLI, odLI, .func (PySem.W.fnOf "_law_is_name" "_law_is_name" (defArgs sIsName) (defBody sIsName) (defScope sIsName) .none kVLI dcLI pmLI anLI cdLI ctLI), slLI⟩) (cLI : PySem.W.codeIn K cdLI "_law_is_name" = true) (kLI : PySem.W.keepIn K (.ref fLI) = true)
    (aLN : PySem.W.nsIn K mainGlobals "_law_sent" = some (some (.ref fLN))) (lLN : K.lookup fLN = some ⟨ocLN, odLN, .func (PySem.W.fnOf "_law_sent" "_law_sent" (defArgs sSentL) (defBody sSentL) (defScope sSentL) .none kVLN dcLN pmLN anLN cdLN ctLN), slLN⟩) (cLN : PySem.W.codeIn K cdLN "_law_sent" = true) (kLN : PySem.W.keepIn K (.ref fLN) = true)
    (aLR : PySem.W.nsIn K mainGlobals "_law_roads" = some (some (.ref fLR))) (lLR : K.lookup fLR = some ⟨ocLR, odLR, .func (PySem.W.fnOf "_law_roads" "_law_roads" (defArgs sRoads) (defBody sRoads) (defScope sRoads) .none kVLR dcLR pmLR anLR cdLR ctLR), slLR⟩) (cLR : PySem.W.codeIn K cdLR "_law_roads" = true) (kLR : PySem.W.keepIn K (.ref fLR) = true)
    (aLY : PySem.W.nsIn K mainGlobals "_law_is_ready" = some (some (.ref fLY))) (lLY : K.lookup fLY = some ⟨ocLY, odLY, .func (PySem.W.fnOf "_law_is_ready" "_law_is_ready" (defArgs sIsReady) (defBody sIsReady) (defScope sIsReady) .none kVLY dcLY pmLY anLY cdLY ctLY), slLY⟩) (cLY : PySem.W.codeIn K cdLY "_law_is_ready" = true) (kLY : PySem.W.keepIn K (.ref fLY) = true)
    (aLG : PySem.W.nsIn K mainGlobals "_law_given" = some (some (.ref fLG))) (lLG : K.lookup fLG = some ⟨ocLG, odLG, .func (PySem.W.fnOf "_law_given" "_law_given" (defArgs sGiven) (defBody sGiven) (defScope sGiven) .none kVLG dcLG pmLG anLG cdLG ctLG), slLG⟩) (cLG : PySem.W.codeIn K cdLG "_law_given" = true) (kLG : PySem.W.keepIn K (.ref fLG) = true)
    (aLE : PySem.W.nsIn K mainGlobals "_law_ended" = some (some (.ref fLE))) (lLE : K.lookup fLE = some ⟨ocLE, odLE, .func (PySem.W.fnOf "_law_ended" "_law_ended" (defArgs sEnded) (defBody sEnded) (defScope sEnded) .none kVLE dcLE pmLE anLE cdLE ctLE), slLE⟩) (cLE : PySem.W.codeIn K cdLE "_law_ended" = true) (kLE : PySem.W.keepIn K (.ref fLE) = true)
    (aLS : PySem.W.nsIn K mainGlobals "_law_sends" = some (some (.ref fLS))) (lLS : K.lookup fLS = some ⟨ocLS, odLS, .func (PySem.W.fnOf "_law_sends" "_law_sends" (defArgs sSends) (defBody sSends) (defScope sSends) .none kVLS dcLS pmLS anLS cdLS ctLS), slLS⟩) (cLS : PySem.W.codeIn K cdLS "_law_sends" = true) (kLS : PySem.W.keepIn K (.ref fLS) = true)
    (aTb : PySem.W.nsIn K mainGlobals "taken_by" = some (some (.ref fTb))) (lTb : K.lookup fTb = some ⟨ocTb, odTb, .func (PySem.W.fnOf "taken_by" "taken_by" (defArgs sTaken) (defBody sTaken) (defScope sTaken) .none kVTb dcTb pmTb anTb cdTb ctTb), slTb⟩) (cTb : PySem.W.codeIn K cdTb "taken_by" = true) (kTb : PySem.W.keepIn K (.ref fTb) = true)
    (aLw : PySem.W.nsIn K mainGlobals "law" = some (some (.ref fLw))) (lLw : K.lookup fLw = some ⟨ocLw, odLw, .func (PySem.W.fnOf "law" "law" (defArgs sLaw) (defBody sLaw) (defScope sLaw) .none kVLw dcLw pmLw anLw cdLw ctLw), slLw⟩) (cLw : PySem.W.codeIn K cdLw "law" = true) (kLw : PySem.W.keepIn K (.ref fLw) = true)
    (pg : PySem.W.plainGet K C Str.empty = true) (hd : PySem.W.hasDictIn K C = true) (po : PySem.W.plainOver K C = true) (sa : PySem.W.findIn K (.ref C) "__setattr__" = some (some (.builtin "object.__setattr__"))) (mk : PySem.W.makesIn K C = true) (kc : PySem.W.keepIn K (.ref C) = true)
    (nN : PySem.W.findIn K (.ref C) "number" = some none)
    (nC : PySem.W.findIn K (.ref C) "coins" = some none)
    (nK : PySem.W.findIn K (.ref C) "clock" = some none)
    (nB : PySem.W.findIn K (.ref C) "book" = some none)
    (nT : PySem.W.findIn K (.ref C) "tray" = some none)
    (nE : PySem.W.findIn K (.ref C) "kept" = some none)
    (z_len : PySem.W.nsIn K mainGlobals "len" = some none)
    (z_range : PySem.W.nsIn K mainGlobals "range" = some none)
    (z_all : PySem.W.nsIn K mainGlobals "all" = some none)
    (z_max : PySem.W.nsIn K mainGlobals "max" = some none)
    (z_isinstance : PySem.W.nsIn K mainGlobals "isinstance" = some none)
    (z_int : PySem.W.nsIn K mainGlobals "int" = some none)
    (z_bool : PySem.W.nsIn K mainGlobals "bool" = some none)
    (z_tuple : PySem.W.nsIn K mainGlobals "tuple" = some none)
    (z_list : PySem.W.nsIn K mainGlobals "list" = some none)
    (z_str : PySem.W.nsIn K mainGlobals "str" = some none)
    (z_dict : PySem.W.nsIn K mainGlobals "dict" = some none)
    (xCP : PySem.W.nsIn K mainGlobals "Poor" = some (some (.ref CP)))
    (xCE : PySem.W.nsIn K mainGlobals "PostError" = some (some (.ref CE)))
    (eP : PySem.W.excIn K CP [.type "ValueError", .type "Exception", .type "BaseException", .type "object"] "ValueError.__new__" = true)
    (qP : PySem.W.clsIn K CP = some cdP) (tP : PySem.W.typeIn K (.ref CP) = some (.type "type")) (uP : PySem.W.subIn K (.ref CP) (.ref CP) = some true) (vP : PySem.W.subIn K (.ref CP) (.type "BaseException") = some true)
    (qE : PySem.W.clsIn K CE = some cdE) (tE : PySem.W.typeIn K (.ref CE) = some (.type "type")) (uE : PySem.W.subIn K (.ref CP) (.ref CE) = some true) (vE : PySem.W.subIn K (.ref CE) (.type "BaseException") = some true)
    : ∃ fd : FuncData, (∀ (s : Shared) (v : Value), BindsTo s fd ⟨[v], []⟩ [("_law_script", v)]) ∧ ∀ base : Heap, K.In base → base.Ns mainGlobals mg → FnOk l.prog w K mg base CX0 13 fa fd ["_law_script"] (spLaw K) := by
  have e := hfa.symm.trans (PySem.W.mg_of X G aLw)
  cases e
  have T : Txt K mg C fNm fTh fCo fRe fFi fCf := ⟨⟨pg, hd, po, sa⟩, nN, nC, nK, nB, nT, nE, (PySem.W.mg_of X G aC), (PySem.W.mg_of X G aNm), (PySem.W.mg_of X G aTh), (PySem.W.mg_of X G aCo), (PySem.W.mg_of X G aRe), (PySem.W.mg_of X G aFi), (PySem.W.mg_of X G aCf), PySem.W.mg_none_of X G z_len, PySem.W.mg_none_of X G z_range, PySem.W.mg_none_of X G z_all⟩
  have B : Bts mg := ⟨PySem.W.mg_none_of X G z_len, PySem.W.mg_none_of X G z_range, PySem.W.mg_none_of X G z_isinstance, PySem.W.mg_none_of X G z_int, PySem.W.mg_none_of X G z_bool, PySem.W.mg_none_of X G z_tuple, PySem.W.mg_none_of X G z_list, PySem.W.mg_none_of X G z_str, PySem.W.mg_none_of X G z_dict⟩
  have S : Sxt mg fSo := ⟨(PySem.W.mg_of X G aSo), PySem.W.mg_none_of X G z_isinstance, PySem.W.mg_none_of X G z_bool, PySem.W.mg_none_of X G z_int, PySem.W.mg_none_of X G z_str, PySem.W.mg_none_of X G z_dict, PySem.W.mg_none_of X G z_tuple, PySem.W.mg_none_of X G z_list, PySem.W.mg_none_of X G z_len, PySem.W.mg_none_of X G z_range⟩
  have Z : Exs K mg CP CE := ⟨(PySem.W.mg_of X G xCP), (PySem.W.mg_of X G xCE), ⟨eP⟩, excCls_of qP tP uP vP, excCls_of qE tE uE vE⟩
  have FNm := fun_mk (st := sName) lNm cNm kNm
  have FTh := fun_mk (st := sThere) lTh cTh kTh
  have FCo := fun_mk (st := sCounted) lCo cCo kCo
  have FRe := fun_mk (st := sReady) lRe cRe kRe
  have FFi := fun_mk (st := sFirst) lFi cFi kFi
  have FCf := fun_mk (st := sCoins) lCf cCf kCf
  have FSb := fun_mk (st := sSentBy) lSb cSb kSb
  have FSn := fun_mk (st := sSentOr) lSn cSn kSn
  have FIn := fun_mk (st := sInit) lIn cIn kIn
  have FPy := fun_mk (st := sPay) lPy cPy kPy
  have FCu := fun_mk (st := sCut) lCu cCu kCu
  have FTk := fun_mk (st := sTake) lTk cTk kTk
  have FSd := fun_mk (st := sSend) lSd cSd kSd
  have FNw := fun_mk (st := sIsNew) lNw cNw kNw
  have FHd := fun_mk (st := sHand) lHd cHd kHd
  have FWr := fun_mk (st := sWrite) lWr cWr kWr
  have FSo := fun_mk (st := sSo) lSo cSo kSo
  have FLW := fun_mk (st := sWhole) lLW cLW kLW
  have FLA := fun_mk (st := sAt) lLA cLA kLA
  have FLI := fun_mk (st := sIsName) lLI cLI kLI
  have FLN := fun_mk (st := sSentL) lLN cLN kLN
  have FLR := fun_mk (st := sRoads) lLR cLR kLR
  have FLY := fun_mk (st := sIsReady) lLY cLY kLY
  have FLG := fun_mk (st := sGiven) lLG cLG kLG
  have FLE := fun_mk (st := sEnded) lLE cLE kLE
  have FLS := fun_mk (st := sSends) lLS cLS kLS
  have FTb := fun_mk (st := sTaken) lTb cTb kTb
  have FLw := fun_mk (st := sLaw) lLw cLw kLw
  have bNm := FNm.binds (ps := ["letter"]) fun _ _ _ _ _ _ us hl => match us, hl with | [_], _ => rfl
  have bTh := FTh.binds (ps := ["name", "clock"]) fun _ _ _ _ _ _ us hl => match us, hl with | [_, _], _ => rfl
  have bCo := FCo.binds (ps := ["clock", "sender"]) fun _ _ _ _ _ _ us hl => match us, hl with | [_, _], _ => rfl
  have bRe := FRe.binds (ps := ["letter", "clock"]) fun _ _ _ _ _ _ us hl => match us, hl with | [_, _], _ => rfl
  have bFi := FFi.binds (ps := ["tray", "clock"]) fun _ _ _ _ _ _ us hl => match us, hl with | [_, _], _ => rfl
  have bCf := FCf.binds (ps := ["number", "what"]) fun _ _ _ _ _ _ us hl => match us, hl with | [_, _], _ => rfl
  have bSb := FSb.binds (ps := ["office", "whats"]) fun _ _ _ _ _ _ us hl => match us, hl with | [_, _], _ => rfl
  have bSn := FSn.binds (ps := ["office", "what"]) fun _ _ _ _ _ _ us hl => match us, hl with | [_, _], _ => rfl
  have bIn := FIn.binds (ps := ["self", "number", "count", "coins"]) fun _ _ _ _ _ _ us hl => match us, hl with | [_, _, _, _], _ => rfl
  have bPy := FPy.binds (ps := ["self", "to", "many"]) fun _ _ _ _ _ _ us hl => match us, hl with | [_, _, _], _ => rfl
  have bCu := FCu.binds (ps := ["self"]) fun _ _ _ _ _ _ us hl => match us, hl with | [_], _ => rfl
  have bTk := FTk.binds (ps := ["self", "letter"]) fun _ _ _ _ _ _ us hl => match us, hl with | [_, _], _ => rfl
  have bSd := FSd.binds (ps := ["self", "what"]) fun _ _ _ _ _ _ us hl => match us, hl with | [_, _], _ => rfl
  have bNw := FNw.binds (ps := ["self", "letter"]) fun _ _ _ _ _ _ us hl => match us, hl with | [_, _], _ => rfl
  have bHd := FHd.binds (ps := ["self", "place"]) fun _ _ _ _ _ _ us hl => match us, hl with | [_, _], _ => rfl
  have bWr := FWr.binds (ps := ["self", "how", "letter"]) fun _ _ _ _ _ _ us hl => match us, hl with | [_, _, _], _ => rfl
  have bSo := FSo.binds (ps := ["_law_found", "_law_meant"]) fun _ _ _ _ _ _ us hl => match us, hl with | [_, _], _ => rfl
  have bLW := FLW.binds (ps := ["_law_found"]) fun _ _ _ _ _ _ us hl => match us, hl with | [_], _ => rfl
  have bLA := FLA.binds (ps := ["_law_script", "_law_k"]) fun _ _ _ _ _ _ us hl => match us, hl with | [_, _], _ => rfl
  have bLI := FLI.binds (ps := ["_law_found", "_law_count"]) fun _ _ _ _ _ _ us hl => match us, hl with | [_, _], _ => rfl
  have bLN := FLN.binds (ps := ["_law_cells", "_law_count"]) fun _ _ _ _ _ _ us hl => match us, hl with | [_, _], _ => rfl
  have bLR := FLR.binds (ps := ["_law_letters", "_law_cells"]) fun _ _ _ _ _ _ us hl => match us, hl with | [_, _], _ => rfl
  have bLY := FLY.binds (ps := ["_law_letter", "_law_clock"]) fun _ _ _ _ _ _ us hl => match us, hl with | [_, _], _ => rfl
  have bLG := FLG.binds (ps := ["_law_tray", "_law_clock"]) fun _ _ _ _ _ _ us hl => match us, hl with | [_, _], _ => rfl
  have bLE := FLE.binds (ps := ["_law_one", "_law_row", "_law_clock", "_law_found"]) fun _ _ _ _ _ _ us hl => match us, hl with | [_, _, _, _], _ => rfl
  have bLS := FLS.binds (ps := ["_law_one", "_law_clock", "_law_coins", "_law_book"]) fun _ _ _ _ _ _ us hl => match us, hl with | [_, _, _, _], _ => rfl
  have bTb := FTb.binds (ps := ["office", "letters"]) fun _ _ _ _ _ _ us hl => match us, hl with | [_, _], _ => rfl
  have mPy : Meth K C "pay" fPy := ⟨aPy, iPy, kPy⟩
  have mCu : Meth K C "cut" fCu := ⟨aCu, iCu, kCu⟩
  have mSd : Meth K C "send" fSd := ⟨aSd, iSd, kSd⟩
  have mTk : Meth K C "take" fTk := ⟨aTk, iTk, kTk⟩
  have mNw : Meth K C "is_new" fNw := ⟨aNw, iNw, kNw⟩
  have mHd : Meth K C "hand_over" fHd := ⟨aHd, iHd, kHd⟩
  have mWr : Meth K C "write_in_book" fWr := ⟨aWr, iWr, kWr⟩
  refine ⟨PySem.W.fnOf "law" "law" (defArgs sLaw) (defBody sLaw) (defScope sLaw) .none kVLw dcLw pmLw anLw cdLw ctLw, fun s v => .of_eq rfl, fun base _ _ => ?_⟩
  have GT := ok_take (P := l.prog) (w := w) (base := base) FTk T bNw mNw (ok_isnew FNw T FNm bNm FTh bTh) bHd mHd (ok_hand FHd T FNm bNm FCo bCo FCf bCf FWr bWr mWr) FFi bFi (ok_first FFi T FRe bRe)
  have GSd := ok_send (P := l.prog) (w := w) (base := base) FSd T FNm bNm FCo bCo FWr bWr mWr
  have GCu := ok_cut (P := l.prog) (w := w) (base := base) FCu T bSd mSd GSd
  have GPy := ok_pay (P := l.prog) (w := w) (base := base) FPy T Z bSd mSd GSd
  have GSn := ok_sentor (P := l.prog) (w := w) (base := base) FSn T Z bCu mCu GCu bPy mPy GPy
  have GSb := ok_sentby (P := l.prog) (w := w) (base := base) FSb (PySem.W.mg_of X G aSn) FSn bSn GSn
  have GSo := ok_so (P := l.prog) (w := w) (base := base) FSo S bSo 9
  have GTb := ok_taken (P := l.prog) (w := w) (base := base) FTb T bTk mTk GT
  have GLI := ok_isname (P := l.prog) (w := w) (base := base) FLI B (PySem.W.mg_of X G aLW) FLW bLW
  have GLG := ok_given (P := l.prog) (w := w) (base := base) FLG B (PySem.W.mg_of X G aLY) FLY bLY
  have GLS := ok_sends (P := l.prog) (w := w) (base := base) FLS B T (PySem.W.mg_of X G aSb) FSb bSb GSb (PySem.W.mg_of X G aSo) FSo bSo GSo
  have GLE := ok_ended (P := l.prog) (w := w) (base := base) FLE B T (PySem.W.mg_of X G aLS) FLS bLS GLS (PySem.W.mg_of X G aSo) FSo bSo GSo (PySem.W.mg_of X G aLW) FLW bLW
  exact ok_law FLw B T (PySem.W.mg_of X G aLA) FLA bLA (PySem.W.mg_of X G aLN) FLN bLN (PySem.W.mg_none_of X G z_max) (PySem.W.mg_of X G aLR) FLR bLR (PySem.W.mg_of X G aTb) FTb bTb GTb (PySem.W.mg_of X G aLG) FLG bLG GLG (PySem.W.mg_of X G aLI) FLI bLI GLI (PySem.W.mg_of X G aLE) FLE bLE GLE ⟨mk, aIn, iIn, kc⟩ bIn (ok_init FIn T)
theorem walk {l : PySem.W.OpenLaw} {q : Program} {loose : List Str} {XP : (Str → Option Value) → Heap → Prop} {YP : World → Heap → Prop} {d : DefRec} {K : Params → PySem.W.Frag} (hn : l.most = some 63) (hdf : d.params.defaults = [])
    (hY : ∀ (w : World) (h : Heap), YP w h → (K w.params).In h)
    (F : ∀ (w : World) (mg : Str → Option Value) (fa : Addr) (h : Heap), (K w.params).In h → h.Ns mainGlobals mg → mg d.name = some (.ref fa) →
      ∃ fd : FuncData, (∀ (s : Shared) (u : Value), BindsTo s fd ⟨[u], []⟩ [("_law_script", u)]) ∧ ∀ base : Heap, (K w.params).In base → base.Ns mainGlobals mg → FnOk l.prog w (K w.params) mg base CX0 13 fa fd ["_law_script"] (spLaw (K w.params))) :
    PySem.W.WalkO q loose XP YP l.row.toRowW d [] (fun f vs => PySem.call f vs) :=
  L2.walk_of (n := 63) (k := 13) (x := "_law_script") (CX := fun _ => CX0) (sp := fun w => spLaw (K w.params)) hn (by decide) hdf ⟨rfl, by decide, by decide⟩ hY F (fun _ _ a ns hl _ hS => ⟨a, ns, rfl, hS, hl, fun _ => rfl⟩) fun _ _ _ _ _ z => z
end Of
open PySem PySem.W PyProof.Rows
set_option maxRecDepth 100000 in
set_option maxHeartbeats 0 in
theorem PySem.Challenge.cw_postbooks_k14_whole_tray_holds : PySem.Challenge.rw_postbooks_k14_whole_tray.Holds := by
  w_on; o_law; k_head; (case hw => w_witness2)
  k_fill
  refine Of.walk (l := PySem.Challenge.rw_postbooks_k14_whole_tray) rfl rfl (fun w h Y => PySem.W.kIn_of Y) ?F
  case F =>
    intro w mg fa h KX G hmg
    refine' Of.all_mk KX G hmg ?aC ?aNm ?lNm ?cNm ?kNm ?aTh ?lTh ?cTh ?kTh ?aCo ?lCo ?cCo ?kCo ?aRe ?lRe ?cRe ?kRe ?aFi ?lFi ?cFi ?kFi ?aCf ?lCf ?cCf ?kCf ?aSb ?lSb ?cSb ?kSb ?aSn ?lSn ?cSn ?kSn ?aIn ?iIn ?lIn ?cIn ?kIn ?aPy ?iPy ?lPy ?cPy ?kPy ?aCu ?iCu ?lCu ?cCu ?kCu ?aTk ?iTk ?lTk ?cTk ?kTk ?aSd ?iSd ?lSd ?cSd ?kSd ?aNw ?iNw ?lNw ?cNw ?kNw ?aHd ?iHd ?lHd ?cHd ?kHd ?aWr ?iWr ?lWr ?cWr ?kWr ?aSo ?lSo ?cSo ?kSo ?aLW ?lLW ?cLW ?kLW ?aLA ?lLA ?cLA ?kLA ?aLI ?lLI ?cLI ?kLI ?aLN ?lLN ?cLN ?kLN ?aLR ?lLR ?cLR ?kLR ?aLY ?lLY ?cLY ?kLY ?aLG ?lLG ?cLG ?kLG ?aLE ?lLE ?cLE ?kLE ?aLS ?lLS ?cLS ?kLS ?aTb ?lTb ?cTb ?kTb ?aLw ?lLw ?cLw ?kLw ?pg ?hd ?po ?sa ?mk ?kc ?nN ?nC ?nK ?nB ?nT ?nE ?z_len ?z_range ?z_all ?z_max ?z_isinstance ?z_int ?z_bool ?z_tuple ?z_list ?z_str ?z_dict ?xCP ?xCE ?eP ?qP ?tP ?uP ?vP ?qE ?tE ?uE ?vE
    (case aC => k_is)
    (case aNm => k_is)
    (case lNm => k_is)
    (case cNm => k_is)
    (case kNm => k_is)
    (case aTh => k_is)
    (case lTh => k_is)
    (case cTh => k_is)
    (case kTh => k_is)
    (case aCo => k_is)
    (case lCo => k_is)
    (case cCo => k_is)
    (case kCo => k_is)
    (case aRe => k_is)
    (case lRe => k_is)
    (case cRe => k_is)
    (case kRe => k_is)
    (case aFi => k_is)
    (case lFi => k_is)
    (case cFi => k_is)
    (case kFi => k_is)
    (case aCf => k_is)
    (case lCf => k_is)
    (case cCf => k_is)
    (case kCf => k_is)
    (case aSb => k_is)
    (case lSb => k_is)
    (case cSb => k_is)
    (case kSb => k_is)
    (case aSn => k_is)
    (case lSn => k_is)
    (case cSn => k_is)
    (case kSn => k_is)
    (case aIn => k_is)
    (case iIn => k_is)
    (case lIn => k_is)
    (case cIn => k_is)
    (case kIn => k_is)
    (case aPy => k_is)
    (case iPy => k_is)
    (case lPy => k_is)
    (case cPy => k_is)
    (case kPy => k_is)
    (case aCu => k_is)
    (case iCu => k_is)
    (case lCu => k_is)
    (case cCu => k_is)
    (case kCu => k_is)
    (case aTk => k_is)
    (case iTk => k_is)
    (case lTk => k_is)
    (case cTk => k_is)
    (case kTk => k_is)
    (case aSd => k_is)
    (case iSd => k_is)
    (case lSd => k_is)
    (case cSd => k_is)
    (case kSd => k_is)
    (case aNw => k_is)
    (case iNw => k_is)
    (case lNw => k_is)
    (case cNw => k_is)
    (case kNw => k_is)
    (case aHd => k_is)
    (case iHd => k_is)
    (case lHd => k_is)
    (case cHd => k_is)
    (case kHd => k_is)
    (case aWr => k_is)
    (case iWr => k_is)
    (case lWr => k_is)
    (case cWr => k_is)
    (case kWr => k_is)
    (case aSo => k_is)
    (case lSo => k_is)
    (case cSo => k_is)
    (case kSo => k_is)
    (case aLW => k_is)
    (case lLW => k_is)
    (case cLW => k_is)
    (case kLW => k_is)
    (case aLA => k_is)
    (case lLA => k_is)
    (case cLA => k_is)
    (case kLA => k_is)
    (case aLI => k_is)
    (case lLI => k_is)
    (case cLI => k_is)
    (case kLI => k_is)
    (case aLN => k_is)
    (case lLN => k_is)
    (case cLN => k_is)
    (case kLN => k_is)
    (case aLR => k_is)
    (case lLR => k_is)
    (case cLR => k_is)
    (case kLR => k_is)
    (case aLY => k_is)
    (case lLY => k_is)
    (case cLY => k_is)
    (case kLY => k_is)
    (case aLG => k_is)
    (case lLG => k_is)
    (case cLG => k_is)
    (case kLG => k_is)
    (case aLE => k_is)
    (case lLE => k_is)
    (case cLE => k_is)
    (case kLE => k_is)
    (case aLS => k_is)
    (case lLS => k_is)
    (case cLS => k_is)
    (case kLS => k_is)
    (case aTb => k_is)
    (case lTb => k_is)
    (case cTb => k_is)
    (case kTb => k_is)
    (case aLw => k_is)
    (case lLw => k_is)
    (case cLw => k_is)
    (case kLw => k_is)
    (case pg => k_is)
    (case hd => k_is)
    (case po => k_is)
    (case sa => k_is)
    (case mk => k_is)
    (case kc => k_is)
    (case nN => k_is)
    (case nC => k_is)
    (case nK => k_is)
    (case nB => k_is)
    (case nT => k_is)
    (case nE => k_is)
    (case z_len => k_is)
    (case z_range => k_is)
    (case z_all => k_is)
    (case z_max => k_is)
    (case z_isinstance => k_is)
    (case z_int => k_is)
    (case z_bool => k_is)
    (case z_tuple => k_is)
    (case z_list => k_is)
    (case z_str => k_is)
    (case z_dict => k_is)
    (case xCP => k_is)
    (case xCE => k_is)
    (case eP => k_exc)
    (case qP => k_is)
    (case tP => k_is)
    (case uP => k_is)
    (case vP => k_is)
    (case qE => k_is)
    (case tE => k_is)
    (case uE => k_is)
    (case vE => k_is)
#print axioms PySem.Challenge.cw_postbooks_k14_whole_tray_holds
