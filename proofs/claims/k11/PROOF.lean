import PyProof.Rows.All
import Wide.All
import OpenK.AllK
import Wide.FinOn
import Lean
import PyProof.EqAt
import PyProof.EqKinds
import PyProof.TupleCall
import PyProof.P3In
import PyProof.NeData
import PyProof.ConsumeWalk
import PyProof.CompFree
import PySem.Challenge.RW_postbooks_k11_letters_on_lines
set_option Elab.async false
set_option linter.all false
set_option maxRecDepth 100000
/-! THE HAND LAYER, for ints, bools, texts, own classes, LISTS and tuples (index, slices, in, append, pop ..), calls, loops. Paste it whole ahead of your own text; what your proof does not reach may be deleted. -/
namespace L2
open PySem PySem.Spec PyProof.Rows

/-- a key: an int or a str -/
abbrev Key := Sum Int Str
def keyIs : Key → Value → Bool
  | .inl k, v => Value.isInt k v
  | .inr x, v => Value.isStrOf x v
def keyH (w : World) : Key → Int
  | .inl k => hashInt k
  | .inr x => hashStr w x
theorem keyIs_shape : ∀ {k : Key} {v : Value}, keyIs k v = true → (∃ i t, k = Sum.inl i ∧ v = Value.int i t) ∨ (∃ x t, k = Sum.inr x ∧ v = Value.str x t)
  | .inl i, v, h => by
    obtain ⟨t, e⟩ := Value.isInt_shape (k := i) (v := v) h
    exact .inl ⟨i, t, rfl, e⟩
  | .inr x, v, h => by
    obtain ⟨t, e⟩ := Value.isStrOf_shape (x := x) (v := v) h
    exact .inr ⟨x, t, rfl, e⟩
theorem key_ll (a b : Int) : decide ((Sum.inl a : Key) = Sum.inl b) = (a == b) := by
  by_cases e : a = b
  · subst e; simp
  · have h : ¬ (Sum.inl a : Key) = Sum.inl b := fun q => e (Sum.inl.inj q)
    rw [decide_eq_false h]
    exact (beq_eq_false_iff_ne.mpr e).symm
theorem key_rr (a b : Str) : decide ((Sum.inr a : Key) = Sum.inr b) = decide (a = b) := by
  by_cases e : a = b
  · subst e; simp
  · have h : ¬ (Sum.inr a : Key) = Sum.inr b := fun q => e (Sum.inr.inj q)
    rw [decide_eq_false h, decide_eq_false e]
theorem key_lr (a : Int) (b : Str) : decide ((Sum.inl a : Key) = Sum.inr b) = false := decide_eq_false (fun q => nomatch q)
theorem key_rl (a : Str) (b : Int) : decide ((Sum.inr a : Key) = Sum.inl b) = false := decide_eq_false (fun q => nomatch q)

def mixKind (prog : Program) (w : World) : PySem.KeyKind prog w Key where
  is := keyIs
  hash := keyH w
  inj := fun v a b ha hb => by
    rcases keyIs_shape ha with ⟨i, t, rfl, rfl⟩ | ⟨x, t, rfl, rfl⟩
    · rcases keyIs_shape hb with ⟨j, u, rfl, e⟩ | ⟨y, u, rfl, e⟩
      · injection e with e1 _; rw [e1]
      · exact nomatch e
    · rcases keyIs_shape hb with ⟨j, u, rfl, e⟩ | ⟨y, u, rfl, e⟩
      · exact nomatch e
      · injection e with e1 _; rw [e1]
  byValue := fun k v h => by
    rcases keyIs_shape h with ⟨i, t, rfl, rfl⟩ | ⟨x, t, rfl, rfl⟩ <;> rfl
  pyHash := fun hv h => by
    rcases keyIs_shape hv with ⟨i, t, rfl, rfl⟩ | ⟨x, t, rfl, rfl⟩
    · exact wpAny_pyHash_int h
    · exact wpAny_pyHash_str h
  eqBool := fun hu hv h => by
    rcases keyIs_shape hu with ⟨i, t, rfl, rfl⟩ | ⟨x, t, rfl, rfl⟩
    · rcases keyIs_shape hv with ⟨j, u, rfl, rfl⟩ | ⟨y, u, rfl, rfl⟩
      · rw [key_ll] at h; exact wpAny_eqBool_int h
      · rw [key_lr] at h; exact SeqAt.EqAt.int_str i t y u _ _ _ _ h
    · rcases keyIs_shape hv with ⟨j, u, rfl, rfl⟩ | ⟨y, u, rfl, rfl⟩
      · rw [key_rl] at h; exact SeqAt.EqAt.str_int x t j u _ _ _ _ h
      · rw [key_rr] at h; exact wpAny_eqBool_str h
  «strs» := fun k x t v h => by
    rcases keyIs_shape h with ⟨i, u, rfl, e⟩ | ⟨y, u, rfl, e⟩
    · exact nomatch e
    · injection e with e1 _
      subst e1
      cases v <;> rfl

end L2

namespace L2
open PySem PySem.Spec PyProof.Rows

/-- a value, without the heap -/
inductive V where
  | non | bl (b : Bool) | int (i : Int) | str (x : Str) | byt (b : Array UInt8) | flt (b : UInt64) | ref (a : Addr) | ty (n : String)
  deriving DecidableEq

def RelV : V → Value → Prop
  | .non, u => u = Value.none
  | .bl b, u => u = Value.bool b
  | .int i, u => ∃ t, u = Value.int i t
  | .str x, u => ∃ t, u = Value.str x t
  | .byt b, u => ∃ t, u = Value.bytes b t
  | .flt b, u => ∃ t, u = Value.float b t
  | .ref a, u => u = Value.ref a
  | .ty n, u => u = Value.type n

abbrev Vals : List V → List Value → Prop := Paired RelV
theorem Vals.length {xs : List V} {us : List Value} (r : Vals xs us) : xs.length = us.length := Paired.length r
theorem Vals.get : ∀ {xs : List V} {us : List Value} {i : Nat} {x : V}, Vals xs us → xs[i]? = some x → ∃ u, us[i]? = some u ∧ RelV x u
  | _, _, _, _, .nil, e => by simp at e
  | _, _, 0, _, .cons r _, e => by simp at e; subst e; exact ⟨_, rfl, r⟩
  | _, _, i + 1, x, .cons _ t, e => by
    obtain ⟨u, h1, h2⟩ := Vals.get (i := i) (x := x) t (by simpa using e)
    exact ⟨u, by simpa using h1, h2⟩
theorem Vals.set {x : V} {u : Value} (r : RelV x u) : ∀ {xs : List V} {us : List Value} (i : Nat), Vals xs us → Vals (xs.set i x) (us.set i u)
  | _, _, _, .nil => .nil
  | _, _, 0, .cons _ t => .cons r t
  | _, _, i + 1, .cons q t => .cons q (Vals.set r i t)
theorem Vals.append : ∀ {xs ys : List V} {us ws : List Value}, Vals xs us → Vals ys ws → Vals (xs ++ ys) (us ++ ws)
  | _, _, _, _, .nil, s => s
  | _, _, _, _, .cons r t, s => .cons r (Vals.append t s)
theorem Vals.take : ∀ {xs : List V} {us : List Value} (n : Nat), Vals xs us → Vals (xs.take n) (us.take n)
  | _, _, 0, _ => .nil
  | _, _, _ + 1, .nil => .nil
  | _, _, n + 1, .cons r t => .cons r (Vals.take n t)
theorem Vals.drop : ∀ {xs : List V} {us : List Value} (n : Nat), Vals xs us → Vals (xs.drop n) (us.drop n)
  | _, _, 0, r => r
  | _, _, _ + 1, .nil => .nil
  | _, _, n + 1, .cons _ t => Vals.drop n t
def RelO : Option V → Option Value → Prop
  | some v, some u => RelV v u
  | none, none => True
  | _, _ => False
def KV {κ : Type} : List (κ × V) → List (κ × Value) → Prop := Paired fun (p : κ × V) (q : κ × Value) => p.1 = q.1 ∧ RelV p.2 q.2

/-- a key of a dict (00_mix): an int or a text -/
def kV : Key → V
  | .inl i => .int i
  | .inr x => .str x

/-- what stands at a tracked address -/
inductive HO where
  /-- a list -/
  | lst (xs : List V)
  /-- a tuple (never changes) -/
  | tup (xs : List V)
  /-- a dict whose keys are ints and texts; one whose keys are tuples of ints and texts (the empty one is both) -/
  | dK (kvs : List (Key × V)) | dT (kvs : List (List Key × V))
  /-- a set of ints: its members, its size -/
  | set (S : Int → Bool) (n : Nat)
  /-- an instance of the class at C, its dict at dx, its attributes -/
  | ins (C dx : Addr) (fs : List (Str × V))
  /-- the dict of the instance at x -/
  | own (x : Addr)
  /-- the dict of an exception -/
  | xd (fs : List (Str × V))
  /-- a bound method, f of x -/
  | met (f x : Addr)
  /-- a range object lo, lo + 1, .. below hi -/
  | rng (lo hi : Int)
  /-- a thing that is known to the object (the script; a dict while a loop walks it): read, never written while it is so -/
  | frz (o : Obj) (u : HO)
  /-- a code object's table -/
  | tbl (ps : Array Value)
  /-- any other thing, by what is true of its one object (a def of one's own: SetO a S n := HO.ext fun h => ..) -/
  | ext (φ : Heap → Prop)

abbrev Hp := Addr → Option HO
def upd (H : Hp) (a : Addr) (o : HO) : Hp := fun b => if b = a then some o else H b
theorem upd_same {H : Hp} {a : Addr} {o : HO} : upd H a o a = some o := by unfold upd; rw [if_pos rfl]
theorem upd_ne {H : Hp} {a b : Addr} {o : HO} (h : b ≠ a) : upd H a o b = H b := by unfold upd; rw [if_neg h]
theorem upd_upd {H : Hp} {a : Addr} {o u : HO} : upd (upd H a o) a u = upd H a u := by
  funext b; unfold upd; split <;> rfl
theorem ne_of_none {H : Hp} {a b : Addr} {o : HO} (h : H a = some o) (h' : H b = none) : a ≠ b := by
  intro e; subst e; rw [h] at h'; cases h'

section
variable (P : Program) (w : World)
def ObjOk (H : Hp) (h : Heap) (a : Addr) : HO → Prop
  | .lst xs => xs.length ≤ sizeLine ∧ ∃ (its : List Value) (n : Nat), Vals xs its ∧ h.get? a = some { cls := .type "list", data := .seq its.toArray n }
  | .tup xs => xs.length ≤ sizeLine ∧ ∃ its : List Value, Vals xs its ∧ IsTup h a its.toArray
  | .dK kvs => kvs.length ≤ sizeLine ∧ (a == sysModules) = false ∧ ∃ vs, KV kvs vs ∧ h.DictOf (mixKind P w) a vs
  | .dT kvs => kvs.length ≤ sizeLine ∧ (a == sysModules) = false ∧ ∃ xs : List (List Key × Addr × Value),
      Paired (fun (p : List Key × V) (q : List Key × Addr × Value) => p.1 = q.1 ∧ H q.2.1 = some (.tup (p.1.map kV)) ∧ RelV p.2 q.2.2) kvs xs ∧
      ∃ o es ep, h.get? a = some o ∧ o.ExactDict ∧ o.data = .dict es ep ∧ es.toList = xs.map (entryOfKey (tupleKind (mixKind P w))) ∧ (xs.map (·.1)).Nodup
  | .set S n => h.SetOf (intKind P w) a S n
  | .ins C dx fs => H dx = some (.own a) ∧ fs.length ≤ 1000 ∧ dx ≠ a ∧ h.get? a = some (PySem.W.instObj C dx) ∧
      ∃ mA, h.Ns1 dx mA ∧ (∀ f, RelO (fs.lookup f) (mA f)) ∧ PySem.Within mA (fs.map (·.1))
  | .own _ => ∃ o, h.get? a = some o
  | .xd fs => ∃ mA, h.Ns1 a mA ∧ ∀ f, RelO (fs.lookup f) (mA f)
  | .rng lo hi => ∃ t u v, h.get? a = some { cls := .type "range", data := .fields #[.int lo t, .int hi u, .int 1 v] }
  | .frz o u => h.get? a = some o ∧ ObjOk H h a u
  | .tbl ps => h.get? a = some { cls := .none, data := .fields ps }
  | .met f x => h.get? a = some (PySem.W.methodObj (.ref f) (.ref x))
  | .ext φ => φ h ∧ (∃ o, h.get? a = some o) ∧ ∀ h1 h2 : Heap, φ h1 → (∀ o, h1.get? a = some o → h2.get? a = some o) → φ h2
/-- the abstract heap is held -/
def HOk (H : Hp) (h : Heap) : Prop := ∀ a o, H a = some o → ObjOk P w H h a o
end

section
variable {P : Program} {w : World} {H H' : Hp} {h h' : Heap} {a : Addr} {o : HO}
theorem ObjOk.lt (x : ObjOk P w H h a o) : a < h.objs.size := by
  cases o with
  | lst xs => obtain ⟨_, _, _, _, e⟩ := x; exact Heap.lt_size e
  | tup xs => obtain ⟨_, _, _, p⟩ := x; exact p.lt
  | dK kvs => obtain ⟨_, _, _, _, o, _, _, e, _⟩ := x; exact Heap.lt_size e
  | dT kvs => obtain ⟨_, _, _, _, o, _, _, e, _⟩ := x; exact Heap.lt_size e
  | set S n => obtain ⟨o, _, _, _, e, _⟩ := x; exact Heap.lt_size e
  | ins C dx fs => obtain ⟨_, _, _, e, _⟩ := x; exact Heap.lt_size e
  | own y => obtain ⟨_, e⟩ := x; exact Heap.lt_size e
  | xd fs => obtain ⟨_, ⟨_, _, _, e, _⟩, _⟩ := x; exact Heap.lt_size e
  | rng lo hi => obtain ⟨_, _, _, e⟩ := x; exact Heap.lt_size e
  | frz ob u => obtain ⟨e, _⟩ := x; exact Heap.lt_size e
  | tbl ps => exact Heap.lt_size (show h.get? a = some _ from x)
  | met f y => exact Heap.lt_size (show h.get? a = some _ from x)
  | ext φ => obtain ⟨_, ⟨_, e⟩, _⟩ := x; exact Heap.lt_size e
theorem Paired.mapP {α β : Type} {F G : α → β → Prop} : ∀ {l₁ : List α} {l₂ : List β}, Paired F l₁ l₂ → (∀ a b, F a b → G a b) → Paired G l₁ l₂
  | _, _, .nil, _ => .nil
  | _, _, .cons r t, f => .cons (f _ _ r) (Paired.mapP t f)
/-- what an object's description leans on: its own object, its own dict, the tuples -/
theorem ObjOk.stay (x : ObjOk P w H h a o) (k : ∀ b u, (b = a ∨ H b = some (.own a)) → h.get? b = some u → h'.get? b = some u)
    (ho : ∀ b, H b = some (.own a) → H' b = some (.own a)) (ht : ∀ b xs, H b = some (.tup xs) → H' b = some (.tup xs)) : ObjOk P w H' h' a o := by
  induction o with
  | lst xs => obtain ⟨z, its, n, r, e⟩ := x; exact ⟨z, its, n, r, k _ _ (.inl rfl) e⟩
  | tup xs => obtain ⟨z, its, r, ob, e, c⟩ := x; exact ⟨z, its, r, ob, k _ _ (.inl rfl) e, c⟩
  | dK kvs => obtain ⟨z, y, vs, r, ob, es, ep, e, c⟩ := x; exact ⟨z, y, vs, r, ob, es, ep, k _ _ (.inl rfl) e, c⟩
  | dT kvs =>
    obtain ⟨z, y, xs, r, ob, es, ep, e, c⟩ := x
    exact ⟨z, y, xs, Paired.mapP r fun p q z => ⟨z.1, ht _ _ z.2.1, z.2.2⟩, ob, es, ep, k _ _ (.inl rfl) e, c⟩
  | set S n => obtain ⟨ob, es, ep, t, e, c⟩ := x; exact ⟨ob, es, ep, t, k _ _ (.inl rfl) e, c⟩
  | ins C dx fs =>
    obtain ⟨d, z, ne, e, mA, ⟨od, es, ep, e2, c⟩, r⟩ := x
    exact ⟨ho _ d, z, ne, k _ _ (.inl rfl) e, mA, ⟨od, es, ep, k _ _ (.inr d) e2, c⟩, r⟩
  | own y => obtain ⟨ob, e⟩ := x; exact ⟨ob, k _ _ (.inl rfl) e⟩
  | xd fs => obtain ⟨mA, ⟨od, es, ep, e, c⟩, r⟩ := x; exact ⟨mA, ⟨od, es, ep, k _ _ (.inl rfl) e, c⟩, r⟩
  | rng lo hi => obtain ⟨t, u, v, e⟩ := x; exact ⟨t, u, v, k _ _ (.inl rfl) e⟩
  | frz ob u ih => obtain ⟨e, q⟩ := x; exact ⟨k _ _ (.inl rfl) e, ih q⟩
  | tbl ps =>
    have e : h.get? a = some { cls := .none, data := .fields ps } := x
    show h'.get? a = some { cls := .none, data := .fields ps }
    exact k a _ (.inl rfl) e
  | met f y =>
    have e : h.get? a = some (PySem.W.methodObj (.ref f) (.ref y)) := x
    show h'.get? a = some (PySem.W.methodObj (.ref f) (.ref y))
    exact k a _ (.inl rfl) e
  | ext φ => obtain ⟨p, ⟨o, e⟩, st⟩ := x; exact ⟨st _ _ p fun o q => k _ _ (.inl rfl) q, ⟨o, k _ _ (.inl rfl) e⟩, st⟩
theorem HOk.lt (x : HOk P w H h) (e : H a = some o) : a < h.objs.size := (x a o e).lt
theorem HOk.fresh (x : HOk P w H h) (e : h.objs.size ≤ a) : H a = none := by
  cases q : H a with
  | none => rfl
  | some u => exact absurd (Nat.lt_of_lt_of_le (x.lt q) e) (Nat.lt_irrefl _)
/-- every object of the heap is kept -/
theorem HOk.kept (x : HOk P w H h) (k : ∀ b u, h.get? b = some u → h'.get? b = some u) : HOk P w H h' := fun a o e =>
  (x a o e).stay (fun b u _ q => k b u q) (fun _ q => q) fun _ _ q => q
/-- a new object is laid and tracked -/
theorem HOk.laid (x : HOk P w H h) (k : ∀ b u, h.get? b = some u → h'.get? b = some u) (hp : h.objs.size ≤ a) (new : ObjOk P w (upd H a o) h' a o) : HOk P w (upd H a o) h' := fun b u e => by
  have hn := x.fresh hp
  by_cases hb : b = a
  · subst hb; rw [upd_same] at e; cases e; exact new
  · rw [upd_ne hb] at e
    exact (x b u e).stay (fun c v _ q => k c v q) (fun c q => by rw [upd_ne (ne_of_none q hn)]; exact q) fun c xs q => by rw [upd_ne (ne_of_none q hn)]; exact q
end

/-- what may be read as u: it is u, or a known u -/
def Rd (H : Hp) (a : Addr) (u : HO) : Prop := H a = some u ∨ ∃ o, H a = some (.frz o u)
theorem Rd.ok {P : Program} {w : World} {H : Hp} {h : Heap} {a : Addr} {u : HO} (r : Rd H a u) (x : HOk P w H h) : ObjOk P w H h a u := by
  rcases r with r | ⟨o, r⟩
  · exact x a u r
  · obtain ⟨_, q⟩ := x a _ r
    exact q
/-- what may be written -/
def Mut : Option HO → Prop
  | some (.lst _) => True
  | some (.dK _) => True
  | some (.dT _) => True
  | some (.set _ _) => True
  | some (.ins _ _ _) => True
  | some (.ext _) => True
  | _ => False
section
variable {P : Program} {w : World} {H : Hp} {h h' : Heap} {x e : Addr} {o' : HO}
/-- the object at e is changed: x itself, or the dict of the instance x -/
theorem HOk.write (ok : HOk P w H h) (mu : Mut (H x)) (he : e = x ∨ H e = some (.own x)) (k : ∀ b u, b ≠ e → h.get? b = some u → h'.get? b = some u) (heo : ∃ u, h'.get? e = some u)
    (new : ObjOk P w (upd H x o') h' x o') : HOk P w (upd H x o') h' := fun b u q => by
  have nown : ∀ c y, H c = some (.own y) → c ≠ x := fun c y r z => by subst z; rw [r] at mu; exact mu
  have ntup : ∀ c xs, H c = some (.tup xs) → c ≠ x := fun c xs r z => by subst z; rw [r] at mu; exact mu
  by_cases hb : b = x
  · subst hb; rw [upd_same] at q; cases q; exact new
  · rw [upd_ne hb] at q
    by_cases hbe : b = e
    · have q' : H b = some (.own x) := by
        rcases he with z | z
        · exact absurd (hbe.trans z) hb
        · rw [hbe]; exact z
      rw [q] at q'; cases q'
      obtain ⟨v, hv⟩ := heo
      exact ⟨v, by rw [hbe]; exact hv⟩
    · refine (ok b u q).stay (fun c v hc r => k c v ?_ r) (fun c r => by rw [upd_ne (nown c b r)]; exact r) fun c xs r => by rw [upd_ne (ntup c xs r)]; exact r
      rcases hc with rfl | hc
      · exact hbe
      · rintro rfl
        rcases he with z | z
        · exact nown c b hc z
        · rw [hc] at z; cases z; exact hb rfl
end

/-! ### kept unless tracked; of the frames at fs (the callers') the slots may change (an exception that passes writes there); of the records at ex (iterators) nothing is said -/
structure Un (fs ex : List Addr) (H H' : Hp) (h h' : Heap) : Prop where
  keep : ∀ b o, h.get? b = some o → H b = none → b ∉ fs → b ∉ ex → h'.get? b = some o
  slot : ∀ b o, h.get? b = some o → H b = none → b ∈ fs → b ∉ ex → ∃ sl, h'.get? b = some { o with slots := sl }
  free : ∀ b o, h.get? b = some o → H b = none → b ∉ ex → H' b = none
  there : ∀ b o, h.get? b = some o → b ∉ ex → ∃ o', h'.get? b = some o'
  tups : ∀ b xs, H b = some (.tup xs) → H' b = some (.tup xs)
  frzs : ∀ b o u, H b = some (.frz o u) → H' b = some (.frz o u)
  tbls : ∀ b ps, H b = some (.tbl ps) → ∃ more, H' b = some (.tbl (ps ++ more))
section
variable {fs fs' ex ex' : List Addr} {H H1 H2 : Hp} {h h1 h2 h' : Heap} {a x e : Addr} {o : HO}
theorem Un.any (u : Un fs ex H H1 h h1) {b : Addr} {ob : Obj} (q : h.get? b = some ob) (n : H b = none) (hx : b ∉ ex) : ∃ sl, h1.get? b = some { ob with slots := sl } := by
  by_cases hb : b ∈ fs
  · exact u.slot b ob q n hb hx
  · exact ⟨ob.slots, u.keep b ob q n hb hx⟩
theorem Un.kept (k : ∀ b u, h.get? b = some u → h'.get? b = some u) : Un fs ex H H h h' :=
  ⟨fun b ob q _ _ _ => k b ob q, fun b ob q _ _ _ => ⟨ob.slots, k b ob q⟩, fun _ _ _ n _ => n, fun b ob q _ => ⟨ob, k b ob q⟩, fun _ _ q => q, fun _ _ _ q => q, fun _ ps q => ⟨#[], by rw [q]; simp⟩⟩
theorem Un.refl : Un fs ex H H h h := Un.kept fun _ _ q => q
theorem Un.laid (k : ∀ b u, h.get? b = some u → h'.get? b = some u) (hp : h.objs.size ≤ a) (hn : H a = none) : Un fs ex H (upd H a o) h h' where
  keep := fun b u q _ _ _ => k b u q
  slot := fun b u q _ _ _ => ⟨u.slots, k b u q⟩
  free := fun b u q n _ => by rw [upd_ne (Nat.ne_of_lt (Nat.lt_of_lt_of_le (Heap.lt_size q) hp))]; exact n
  there := fun b u q _ => ⟨u, k b u q⟩
  tups := fun b xs q => by rw [upd_ne (ne_of_none q hn)]; exact q
  frzs := fun b u xs q => by rw [upd_ne (ne_of_none q hn)]; exact q
  tbls := fun b ps q => ⟨#[], by rw [upd_ne (ne_of_none q hn), q]; simp⟩
theorem Un.write (mu : Mut (H x)) (he : e = x ∨ H e = some (.own x)) (k : ∀ b u, b ≠ e → h.get? b = some u → h'.get? b = some u) (heo : ∃ u, h'.get? e = some u) : Un fs ex H (upd H x o) h h' := by
  have hx : ∀ b, H b = none → b ≠ x := fun b n z => by subst z; rw [n] at mu; exact mu
  have hb : ∀ b, H b = none → b ≠ e := fun b n z => by
    subst z
    rcases he with r | r
    · exact hx b n r
    · rw [n] at r; cases r
  have hm : ∀ b u, H b = some u → ¬ Mut (some u) → b ≠ x := fun b u q nm z => by subst z; rw [q] at mu; exact nm mu
  refine ⟨fun b u q n _ _ => k b u (hb b n) q, fun b u q n _ _ => ⟨u.slots, k b u (hb b n) q⟩, fun b u q n _ => by rw [upd_ne (hx b n)]; exact n, fun b u q _ => ?_,
    fun b xs q => by rw [upd_ne (hm b _ q fun z => z)]; exact q, fun b u xs q => by rw [upd_ne (hm b _ q fun z => z)]; exact q, fun b ps q => ⟨#[], by rw [upd_ne (hm b _ q fun z => z), q]; simp⟩⟩
  by_cases hbe : b = e
  · subst hbe; exact heo
  · exact ⟨u, k b u hbe q⟩
end

/-! ### the heap without what is tracked -/
def trk (h : Heap) (H : Hp) : List Addr := (List.range h.objs.size).filter fun a => (H a).isSome
def hidT (h : Heap) (H : Hp) : Heap := PySem.W.hideAll h (trk h H)
theorem hidT_size (h : Heap) (H : Hp) : (hidT h H).objs.size = h.objs.size := PySem.W.hideAll_size _ _
theorem hidT_get {h : Heap} {H : Hp} {b : Addr} {o : Obj} (e : h.get? b = some o) (n : H b = none) : (hidT h H).get? b = some o :=
  PySem.W.hideAll_get _ e fun hm => by
    have q : (H b).isSome = true := (List.mem_filter.mp hm).2
    rw [n] at q; simp at q
theorem of_hidT {h : Heap} {H : Hp} {b : Addr} {o : Obj} (e : (hidT h H).get? b = some o) : h.get? b = some o ∧ H b = none := by
  have e' : h.get? b = some o := PySem.W.of_hideAll (trk h H) e
  refine ⟨e', ?_⟩
  cases q : H b with
  | none => rfl
  | some x =>
    have hm : b ∈ trk h H := List.mem_filter.mpr ⟨List.mem_range.mpr (Heap.lt_size e'), by simp [q]⟩
    have z : (hidT h H).get? b = none := PySem.W.hideAll_none (trk h H) hm
    rw [z] at e; cases e

/-! ### OpenK's ledger, filled with every new object but one -/
def allNews (g h : Heap) (L : Addr) : List (Addr × Obj) := (List.range h.objs.size).filterMap fun a => if a = L ∨ (g.get? a).isSome = true then none else (h.get? a).map fun o => (a, o)
def rest (g h : Heap) (L d : Addr) : List (Addr × Obj) := (allNews g h L).filter fun p => decide (p.1 ≠ d)
end L2

namespace L2
open PySem PySem.Spec PyProof.Rows

/-- the module's facts, over the base: the heap at the law's entry without what is tracked there -/
structure Mod (K : PySem.W.Frag) (mg : Str → Option Value) (base : Heap) : Prop where
  kin : K.In base
  glob : base.Ns mainGlobals mg
  blt : ∃ mb, base.Ns builtinsNs mb ∧ ∀ x : Str, x ≠ "__name__" → mb x = bootBuiltins x
  nolimit : base.NoLimit

/-- the context: a def's body (or a comprehension's block) running. base: fixed through the whole law; s₀, H₀: the entry; outer: the frames whose slots others may change (a def's callers); stack: all frames that run;
   ex: iterators that were made ahead of the entry and are walked here (a comprehension's); fn: the names whose cells were made at the entry (a def: all; a comprehension's block: its own); calm: not within an except suite; pn: pins that every state bears; xe: what is wanted of an exception that leaves the code -/
structure Cx where
  prog : Program
  w : World
  K : PySem.W.Frag
  mg : Str → Option Value
  base : Heap
  A : Around
  N : List Str
  s₀ : Shared
  H₀ : Hp
  env : Env
  outer : List Env
  stack : List Env
  ex : List Addr
  fn : Str → Bool
  calm : Bool
  pn : List (Addr × Obj)
  xe : Value → Shared → Prop
/-- the callers' frames -/
def frs (l : List Env) : List Addr := l.filterMap (·.frame)
abbrev Cx.fs (X : Cx) : List Addr := frs X.outer

def Vis (sc : Scope) (x : Str) : Prop := sc.names.lookup x = some .local ∨ sc.names.lookup x = some .cell ∨ sc.names.lookup x = some .free
def Loc (sc : Scope) (x : Str) : Prop := sc.names.lookup x = some .local ∨ sc.names.lookup x = some .cell
def Look (env : Env) (h : Heap) (m : Str → Option Value) (x : Str) (u : Value) : Prop :=
  (env.kindOf x = some .local ∧ m x = some u) ∨ ((env.kindOf x = some .cell ∨ env.kindOf x = some .free) ∧ ∃ c, env.cells.lookup x = some c ∧ h.IsCell c (some u))

structure Cx.Ok (X : Cx) : Prop where
  mod : Mod X.K X.mg X.base
  kind : X.env.scope.kind = .function
  glob : X.env.globals = mainGlobals
  blt : X.env.builtins = builtinsNs
  above : X.s₀.heap.objs.size ≤ X.env.locals
  inj : ∀ x y c, X.env.cells.lookup x = some c → X.env.cells.lookup y = some c → x = y
  has : ∀ x, (X.env.kindOf x = some .cell ∨ X.env.kindOf x = some .free) → ∃ c, X.env.cells.lookup x = some c
  cab : ∀ x c, X.fn x = true → X.env.cells.lookup x = some c → X.s₀.heap.objs.size ≤ c
  hd : X.calm = true → X.A.handled = none
  frames : X.A.frames = some X.stack
  stk : X.stack = X.outer ∨ (X.stack = X.env :: X.outer ∧ X.env.frame = some X.env.locals)
  exf : ∀ b ∈ X.ex, b ≠ X.env.locals ∧ ∀ x c, X.env.cells.lookup x = some c → c ≠ b
  bs : ∀ b o, X.base.get? b = some o → X.s₀.heap.get? b = some o ∧ X.H₀ b = none
  bsz : X.base.objs.size ≤ X.s₀.heap.objs.size
  noex : ∀ b o, X.base.get? b = some o → b ∉ X.ex
  exfs : ∀ b ∈ X.ex, b ∉ X.fs
  funs : X.s₀.heap.FunFrames X.base X.outer
  frf : ∀ b ∈ X.fs, X.H₀ b = none

structure Inv (X : Cx) (pins : List (Addr × Obj)) (σ : List (Option V)) (H : Hp) (s : Shared) : Prop where
  ok : X.Ok
  os : s.os = X.s₀.os
  bare : AllBare s.gens
  base : Un X.fs X.ex X.H₀ H X.s₀.heap s.heap
  loc : ∃ m, s.heap.Ns X.env.locals m ∧ ∀ (i : Nat) (x : Str) (v : V), X.N[i]? = some x → σ[i]? = some (some v) → Vis X.env.scope x → ∃ u, RelV v u ∧ Look X.env s.heap m x u
  cell : ∀ x c, X.env.cells.lookup x = some c → ∃ v, s.heap.IsCell c v
  free : H X.env.locals = none
  freeC : ∀ x c, X.env.cells.lookup x = some c → H c = none
  pin : ∀ p ∈ X.pn ++ pins, s.heap.get? p.1 = some p.2 ∧ H p.1 = none ∧ p.1 ≠ X.env.locals ∧ p.1 ∉ X.fs ∧ ∀ v, p.2.data ≠ .cell v
  hok : HOk X.prog X.w H s.heap
  len : σ.length = X.N.length

section
variable {X : Cx} {pins : List (Addr × Obj)} {σ : List (Option V)} {H H' : Hp} {s : Shared} {h' : Heap}

theorem Cx.Ok.nofr (ok : X.Ok) {b : Addr} {o : Obj} (e : X.base.get? b = some o) : b ∉ X.fs := fun hb => by
  have := (ok.funs.mem hb).1
  rw [e] at this; cases this
theorem Inv.bs (I : Inv X pins σ H s) : ∀ b o, X.base.get? b = some o → s.heap.get? b = some o ∧ H b = none := fun b o e =>
  ⟨I.base.keep b o (I.ok.bs b o e).1 (I.ok.bs b o e).2 (I.ok.nofr e) (I.ok.noex b o e), I.base.free b o (I.ok.bs b o e).1 (I.ok.bs b o e).2 (I.ok.noex b o e)⟩
theorem Inv.bk (I : Inv X pins σ H s) : ∀ b o, X.base.get? b = some o → s.heap.get? b = some o := fun b o e => (I.bs b o e).1
theorem Inv.mod (I : Inv X pins σ H s) : Mod X.K X.mg X.base := I.ok.mod
theorem Inv.kIn (I : Inv X pins σ H s) : X.K.In s.heap := I.ok.mod.kin.keeps I.bk
theorem Inv.lt (I : Inv X pins σ H s) : X.env.locals < s.heap.objs.size := let ⟨_, hn, _⟩ := I.loc; hn.lt
theorem Inv.sz (I : Inv X pins σ H s) : X.s₀.heap.objs.size ≤ s.heap.objs.size := Nat.le_trans I.ok.above (Nat.le_of_lt I.lt)
theorem Inv.nofs (I : Inv X pins σ H s) {a : Addr} (h : s.heap.objs.size ≤ a) : a ∉ X.fs := fun hb => by
  obtain ⟨_, o, ho, _⟩ := I.ok.funs.mem hb
  exact absurd (Nat.lt_of_lt_of_le (Heap.lt_size ho) (Nat.le_trans I.sz h)) (Nat.lt_irrefl _)
theorem Inv.cne (I : Inv X pins σ H s) : ∀ x c, X.env.cells.lookup x = some c → c ≠ X.env.locals := fun x c e z => by
  obtain ⟨v, o, ho, hd⟩ := I.cell x c e
  obtain ⟨m, ⟨o', es, ep, ho', hd', _⟩, _⟩ := I.loc
  rw [z, ho'] at ho; cases ho; rw [hd'] at hd; cases hd
theorem Inv.funs (I : Inv X pins σ H s) : s.heap.FunFrames X.base X.outer := by
  have all : ∀ (l : List Env), (∀ b ∈ frs l, b ∈ X.fs) → X.s₀.heap.FunFrames X.base l → s.heap.FunFrames X.base l := by
    intro l
    induction l with
    | nil => intro _ _; trivial
    | cons env r ih =>
      intro hs hl
      obtain ⟨hk, ⟨L, o, hf, hn, ho, hd⟩, hr⟩ := hl
      have hL : L ∈ X.fs := hs L (by unfold frs; rw [List.filterMap_cons, hf]; exact List.mem_cons_self)
      obtain ⟨sl, e⟩ := I.base.slot L o ho (I.ok.frf L hL) hL fun z => I.ok.exfs L z hL
      exact ⟨hk, ⟨L, _, hf, hn, e, hd⟩, ih (fun b hb => hs b (by unfold frs; rw [List.filterMap_cons, hf]; exact List.mem_cons_of_mem _ hb)) hr⟩
  exact all X.outer (fun _ hb => hb) I.ok.funs

/-- the frames that run, for a call -/
theorem Inv.stack (I : Inv X pins σ H s) : s.heap.FunFrames X.base X.stack := by
  rcases I.ok.stk with e | ⟨e, hf⟩
  · rw [e]; exact I.funs
  · rw [e]
    obtain ⟨m, hn, _⟩ := I.loc
    refine .cons (by rw [I.ok.kind]; decide) hf hn ?_ I.funs
    exact Heap.get?_none_of_le (Nat.le_trans I.ok.bsz I.ok.above)
theorem Inv.stkSub (I : Inv X pins σ H s) : ∀ b ∈ frs X.stack, b ∈ X.env.locals :: X.fs := fun b hb => by
  rcases I.ok.stk with e | ⟨e, hf⟩
  · rw [e] at hb; exact List.mem_cons_of_mem _ hb
  · rw [e] at hb
    unfold frs at hb
    rw [List.filterMap_cons, hf] at hb
    exact hb
theorem Inv.stkFree (I : Inv X pins σ H s) : ∀ b ∈ frs X.stack, H b = none := fun b hb => by
  rcases List.mem_cons.mp (I.stkSub b hb) with e | hb
  · rw [e]; exact I.free
  · obtain ⟨_, o, ho, _⟩ := I.ok.funs.mem hb
    exact I.base.free b o ho (I.ok.frf b hb) fun z => I.ok.exfs b z hb

/-- THE STEP: the untracked objects but the frame and the records at ch are kept (the callers' frames up to slots), the frame's map is kept, the new abstract heap is held -/
theorem Inv.step {g' : Array GenState} {t' : Nat} {d' : Drawn} {ch : List Addr} (I : Inv X pins σ H s)
    (hch : ∀ b ∈ ch, (b ∈ X.ex ∨ X.s₀.heap.objs.size ≤ b) ∧ b ≠ X.env.locals ∧ (∀ x c, X.env.cells.lookup x = some c → c ≠ b) ∧ ∀ p ∈ X.pn ++ pins, p.1 ≠ b)
    (keep : ∀ b o, b ≠ X.env.locals → b ∉ X.fs → b ∉ ch → s.heap.get? b = some o → H b = none → h'.get? b = some o)
    (slot : ∀ b o, b ≠ X.env.locals → b ∈ X.fs → b ∉ ch → s.heap.get? b = some o → H b = none → ∃ sl, h'.get? b = some { o with slots := sl }) (free : ∀ b o, b ∉ ch → s.heap.get? b = some o → H b = none → H' b = none)
    (there : ∀ b o, b ∉ ch → s.heap.get? b = some o → ∃ o', h'.get? b = some o')
    (tups : ∀ b xs, H b = some (.tup xs) → H' b = some (.tup xs)) (frzs : ∀ b o u, H b = some (.frz o u) → H' b = some (.frz o u)) (tbls : ∀ b ps, H b = some (.tbl ps) → ∃ more, H' b = some (.tbl (ps ++ more)))
    (ns : ∀ m, s.heap.Ns X.env.locals m → h'.Ns X.env.locals m) (hok : HOk X.prog X.w H' h') (hg : AllBare g') :
    Inv X pins σ H' { s with heap := h', gens := g', drawn := d', toks := t' } := by
  have neL : ∀ b o, X.s₀.heap.get? b = some o → b ≠ X.env.locals := fun b o e => Nat.ne_of_lt (Nat.lt_of_lt_of_le (Heap.lt_size e) I.ok.above)
  have neC : ∀ b o, X.s₀.heap.get? b = some o → b ∉ X.ex → b ∉ ch := fun b o e hx hb => by
    rcases (hch b hb).1 with z | z
    · exact hx z
    · exact absurd (Nat.lt_of_lt_of_le (Heap.lt_size e) z) (Nat.lt_irrefl _)
  have cellK : ∀ x c, X.env.cells.lookup x = some c → ∀ v, s.heap.IsCell c v → h'.IsCell c v := fun x c e v ⟨o, ho, hd⟩ => by
    have nch : c ∉ ch := fun z => (hch c z).2.2.1 x c e rfl
    by_cases hc : c ∈ X.fs
    · obtain ⟨sl, q⟩ := slot c o (I.cne x c e) hc nch ho (I.freeC x c e)
      exact ⟨_, q, hd⟩
    · exact ⟨o, keep c o (I.cne x c e) hc nch ho (I.freeC x c e), hd⟩
  refine ⟨I.ok, I.os, hg, ⟨fun b o e n hb hx => ?_, fun b o e n hb hx => ?_, fun b o e n hx => ?_, fun b o e hx => ?_, fun b xs e => tups b xs (I.base.tups b xs e), fun b o xs e => frzs b o xs (I.base.frzs b o xs e), fun b ps e => ?_⟩, ?_, fun x c e => ?_, ?_, fun x c e => ?_, fun p hp => ?_, hok, I.len⟩
  · exact keep b o (neL b o e) hb (neC b o e hx) (I.base.keep b o e n hb hx) (I.base.free b o e n hx)
  · obtain ⟨sl, e1⟩ := I.base.slot b o e n hb hx
    obtain ⟨sl', e2⟩ := slot b _ (neL b o e) hb (neC b o e hx) e1 (I.base.free b o e n hx)
    exact ⟨sl', e2⟩
  · obtain ⟨o', e1⟩ := I.base.there b o e hx
    exact free b o' (neC b o e hx) e1 (I.base.free b o e n hx)
  · obtain ⟨o', e1⟩ := I.base.there b o e hx
    exact there b o' (neC b o e hx) e1
  · obtain ⟨m1, e1⟩ := I.base.tbls b ps e
    obtain ⟨m2, e2⟩ := tbls b _ e1
    exact ⟨m1 ++ m2, by rw [e2, Array.append_assoc]⟩
  · obtain ⟨m, hn, hl⟩ := I.loc
    refine ⟨m, ns m hn, fun i x v e1 e2 e3 => ?_⟩
    obtain ⟨u, r, l⟩ := hl i x v e1 e2 e3
    refine ⟨u, r, ?_⟩
    rcases l with l | ⟨k, c, e, z⟩
    · exact .inl l
    · exact .inr ⟨k, c, e, cellK x c e _ z⟩
  · obtain ⟨v, z⟩ := I.cell x c e
    exact ⟨v, cellK x c e v z⟩
  · obtain ⟨m, ⟨o, _, _, ho, _⟩, _⟩ := I.loc
    exact free _ o (fun z => (hch _ z).2.1 rfl) ho I.free
  · obtain ⟨v, o, ho, hd⟩ := I.cell x c e
    exact free c o (fun z => (hch c z).2.2.1 x c e rfl) ho (I.freeC x c e)
  · obtain ⟨e, n, ne, nf, d⟩ := I.pin p hp
    have nch : p.1 ∉ ch := fun z => (hch p.1 z).2.2.2 p hp rfl
    exact ⟨keep p.1 p.2 ne nf nch e n, free p.1 p.2 nch e n, ne, nf, d⟩
/-- .. where the frame's own object is kept too -/
theorem Inv.un {t' : Nat} (I : Inv X pins σ H s) (u : Un X.fs [] H H' s.heap h') (hok : HOk X.prog X.w H' h') : Inv X pins σ H' { s with heap := h', toks := t' } := by
  obtain ⟨m, ⟨o, es, ep, ho, r⟩, _⟩ := id I.loc
  obtain ⟨sl, hL⟩ := u.any ho I.free (by simp)
  exact I.step (g' := s.gens) (d' := s.drawn) (ch := []) (fun _ z => nomatch z) (fun b o _ hb _ e n => u.keep b o e n hb (by simp)) (fun b o _ hb _ e n => u.slot b o e n hb (by simp)) (fun b o _ e n => u.free b o e n (by simp)) (fun b o _ e => u.there b o e (by simp)) u.tups u.frzs u.tbls (fun m' hm => by
    obtain ⟨o', es', ep', ho', r'⟩ := hm
    rw [ho] at ho'; cases ho'
    exact ⟨_, es', ep', hL, r'⟩) hok I.bare
/-- behind a call (or a comprehension's block): the slots of this frame may have changed too, the records at ch may have turned -/
theorem Inv.call {g' : Array GenState} {t' : Nat} {d' : Drawn} {ch : List Addr} (I : Inv X pins σ H s) (u : Un (frs X.stack) ch H H' s.heap h') (hok : HOk X.prog X.w H' h') (hg : AllBare g')
    (hch : ∀ b ∈ ch, (b ∈ X.ex ∨ X.s₀.heap.objs.size ≤ b) ∧ b ≠ X.env.locals ∧ (∀ x c, X.env.cells.lookup x = some c → c ≠ b) ∧ ∀ p ∈ X.pn ++ pins, p.1 ≠ b) :
    Inv X pins σ H' { s with heap := h', gens := g', drawn := d', toks := t' } := by
  obtain ⟨m, ⟨o, es, ep, ho, r⟩, _⟩ := id I.loc
  obtain ⟨sl, hL⟩ := u.any ho I.free fun z => (hch _ z).2.1 rfl
  exact I.step (ch := ch) hch (fun b o hL hb hc e n => u.keep b o e n (fun z => (List.mem_cons.mp (I.stkSub b z)).elim hL hb) hc) (fun b o _ _ hc e n => u.any e n hc) (fun b o hc e n => u.free b o e n hc) (fun b o hc e => u.there b o e hc) u.tups u.frzs u.tbls (fun m' hm => by
    obtain ⟨o', es', ep', ho', r'⟩ := hm
    rw [ho] at ho'; cases ho'
    exact ⟨_, es', ep', hL, r'⟩) hok hg
/-- an untracked record of ours (an iterator) has turned -/
theorem Inv.turned {t' : Nat} {it : Addr} (I : Inv X pins σ H s) (k : ∀ b o, b ≠ it → s.heap.get? b = some o → h'.get? b = some o) (hn : H it = none) (hL : it ≠ X.env.locals)
    (h1 : it ∈ X.ex ∨ X.s₀.heap.objs.size ≤ it) (h2 : ∀ x c, X.env.cells.lookup x = some c → c ≠ it) (h3 : ∀ p ∈ X.pn ++ pins, p.1 ≠ it) : Inv X pins σ H { s with heap := h', toks := t' } := by
  have nit : ∀ b u, H b = some u → b ≠ it := fun b u e z => by rw [z, hn] at e; cases e
  refine I.step (g' := s.gens) (d' := s.drawn) (ch := [it]) (fun b hb => ?_) (fun b o _ _ hc e _ => k b o (fun z => hc (by simp [z])) e) (fun b o _ _ hc e _ => ⟨o.slots, k b o (fun z => hc (by simp [z])) e⟩) (fun _ _ _ _ n => n)
    (fun b o hc e => ⟨o, k b o (fun z => hc (by simp [z])) e⟩) (fun _ _ e => e) (fun _ _ _ e => e) (fun b ps e => ⟨#[], by rw [e]; simp⟩) (fun m hm => ?_) (fun b u e => ?_) I.bare
  · have e : b = it := by simpa using hb
    subst e
    exact ⟨h1, hL, h2, h3⟩
  · obtain ⟨o, es, ep, ho, r⟩ := hm
    exact ⟨o, es, ep, k _ o (Ne.symm hL) ho, r⟩
  · refine (I.hok b u e).stay (fun c v hc q => k c v ?_ q) (fun _ q => q) fun _ _ q => q
    rcases hc with z | z
    · rw [z]; exact nit b u e
    · exact nit c _ z
theorem Inv.tok (I : Inv X pins σ H s) (t : Nat) : Inv X pins σ H { s with toks := t } := I.un (h' := s.heap) (t' := t) Un.refl I.hok
/-- all objects kept -/
theorem Inv.kept {t' : Nat} (I : Inv X pins σ H s) (k : ∀ b u, s.heap.get? b = some u → h'.get? b = some u) : Inv X pins σ H { s with heap := h', toks := t' } := I.un (Un.kept k) (I.hok.kept k)
/-- a new object laid and tracked -/
theorem Inv.laid {a : Addr} {o : HO} {t' : Nat} (I : Inv X pins σ H s) (k : ∀ b u, s.heap.get? b = some u → h'.get? b = some u) (hp : s.heap.objs.size ≤ a) (new : ObjOk X.prog X.w (upd H a o) h' a o) :
    Inv X pins σ (upd H a o) { s with heap := h', toks := t' } := I.un (Un.laid k hp (I.hok.fresh hp)) (I.hok.laid k hp new)
/-- an object written -/
theorem Inv.write {x e : Addr} {o : HO} {t' : Nat} (I : Inv X pins σ H s) (mu : Mut (H x)) (he : e = x ∨ H e = some (.own x)) (k : ∀ b u, b ≠ e → s.heap.get? b = some u → h'.get? b = some u) (heo : ∃ u, h'.get? e = some u)
    (new : ObjOk X.prog X.w (upd H x o) h' x o) : Inv X pins σ (upd H x o) { s with heap := h', toks := t' } := I.un (Un.write mu he k heo) (I.hok.write mu he k heo new)
theorem Inv.pins_of {pins' : List (Addr × Obj)} (I : Inv X pins σ H s) (h : ∀ p ∈ pins', s.heap.get? p.1 = some p.2 ∧ H p.1 = none ∧ p.1 ≠ X.env.locals ∧ p.1 ∉ X.fs ∧ ∀ v, p.2.data ≠ .cell v) : Inv X pins' σ H s :=
  ⟨I.ok, I.os, I.bare, I.base, I.loc, I.cell, I.free, I.freeC, fun p hp => (List.mem_append.mp hp).elim (fun z => I.pin p (List.mem_append_left _ z)) (h p), I.hok, I.len⟩

theorem nodup_ix {N : List Str} (hN : N.Nodup) {i j : Nat} {x : Str} (a : N[i]? = some x) (b : N[j]? = some x) : i = j := by
  obtain ⟨h1, e1⟩ := List.getElem?_eq_some_iff.mp a
  obtain ⟨h2, e2⟩ := List.getElem?_eq_some_iff.mp b
  exact (List.getElem_inj hN).mp (e1.trans e2.symm)

/-- a name is stored; what changed -/
theorem store_ok2 {M : Model} {A : Around} {E : Value → Shared → Prop} {i : Nat} {x : Str} {v : V} {u : Value} {Q : Unit → Shared → Prop} (I : Inv X pins σ H s) (hN : X.N.Nodup) (hi : X.N[i]? = some x) (hx : Loc X.env.scope x) (r : RelV v u)
    (h : ∀ s', Inv X pins (σ.set i (some v)) H s' → (∃ a, Heap.SameBut a s.heap s'.heap ∧ (a = X.env.locals ∨ X.env.cells.lookup x = some a)) → Q () s') (hf : X.fn x = true ∨ X.env.scope.names.lookup x = some .local := by first | exact .inl rfl | exact .inr rfl | assumption) : wpAny M A (storeName X.env x u) Q E s := by
  obtain ⟨m, hn, hl⟩ := id I.loc
  have hcls : (X.env.scope.kind == .class || (X.env.scope.kind == .module && X.env.locals != X.env.globals)) = false := by rw [I.ok.kind]; rfl
  have hiσ : i < σ.length := by rw [I.len]; exact (List.getElem?_eq_some_iff.mp hi).1
  have cne := I.cne
  have tracked : ∀ {a : Addr} {h' : Heap}, (∃ o, s.heap.get? a = some o ∧ H a = none) → Heap.SameBut a s.heap h' → HOk X.prog X.w H h' := fun {a h'} ha hs b ob e => by
    obtain ⟨_, _, hfree⟩ := ha
    refine (I.hok b ob e).stay (fun c w' hc q => (hs.2 c ?_).trans q) (fun _ q => q) fun _ _ q => q
    rintro rfl
    rcases hc with rfl | hc
    · rw [hfree] at e; cases e
    · rw [hfree] at hc; cases hc
  rcases hx with hk | hk
  · refine wpAny_storeName_local hk hn (fun h' hn' hs => ?_) hcls
    obtain ⟨oL, _, _, hoL, _⟩ := id hn
    refine h _ ⟨I.ok, I.os, I.bare, ⟨fun b o e n hb hx => ?_, fun b o e n hb hx => ?_, I.base.free, fun b o e hx => ?_, I.base.tups, I.base.frzs, I.base.tbls⟩, ⟨_, hn', fun j y v' e1 e2 e3 => ?_⟩, fun y c e => ?_, I.free, I.freeC, fun p hp => ?_, tracked ⟨oL, hoL, I.free⟩ hs, by simpa using I.len⟩ ⟨_, hs, .inl rfl⟩
    · exact (hs.2 b (Nat.ne_of_lt (Nat.lt_of_lt_of_le (Heap.lt_size e) I.ok.above))).trans (I.base.keep b o e n hb hx)
    · obtain ⟨sl, e1⟩ := I.base.slot b o e n hb hx
      exact ⟨sl, (hs.2 b (Nat.ne_of_lt (Nat.lt_of_lt_of_le (Heap.lt_size e) I.ok.above))).trans e1⟩
    · obtain ⟨o', e1⟩ := I.base.there b o e hx
      exact ⟨o', (hs.2 b (Nat.ne_of_lt (Nat.lt_of_lt_of_le (Heap.lt_size e) I.ok.above))).trans e1⟩
    · by_cases hj : j = i
      · subst hj
        rw [hi] at e1; cases e1
        rw [List.getElem?_set_self hiσ] at e2
        cases e2
        exact ⟨u, r, .inl ⟨hk, by simp⟩⟩
      · rw [List.getElem?_set_ne (Ne.symm hj)] at e2
        obtain ⟨u', r', q⟩ := hl j y v' e1 e2 e3
        refine ⟨u', r', ?_⟩
        rcases q with ⟨k, e⟩ | ⟨k, c, e, z⟩
        · refine .inl ⟨k, ?_⟩
          have : y ≠ x := fun e => hj (nodup_ix hN e1 (e ▸ hi))
          simp [this, e]
        · exact .inr ⟨k, c, e, z.sameBut hs (cne y c e)⟩
    · obtain ⟨w', z⟩ := I.cell y c e
      exact ⟨w', z.sameBut hs (cne y c e)⟩
    · obtain ⟨e, n, ne, nf, d⟩ := I.pin p hp
      exact ⟨(hs.2 p.1 ne).trans e, n, ne, nf, d⟩
  · have hfn : X.fn x = true := by
      rcases hf with z | z
      · exact z
      · rw [z] at hk; cases hk
    obtain ⟨c, hc⟩ := I.ok.has x (.inl hk)
    obtain ⟨w', z⟩ := I.cell x c hc
    refine wpAny_storeName_cell I.ok.kind hk hc z (fun h' hc' hs => ?_)
    obtain ⟨oc, hoc, hocd⟩ := id z
    refine h { s with heap := h' } ⟨I.ok, I.os, I.bare, ⟨fun b o e n hb hx => ?_, fun b o e n hb hx => ?_, I.base.free, fun b o e hx => ?_, I.base.tups, I.base.frzs, I.base.tbls⟩, ⟨m, hn.sameBut hs (Ne.symm (cne x c hc)), fun j y v' e1 e2 e3 => ?_⟩, fun y c' e => ?_, I.free, I.freeC, fun p hp => ?_, tracked ⟨oc, hoc, I.freeC x c hc⟩ hs, by simpa using I.len⟩ ⟨c, hs, .inr hc⟩
    · exact (hs.2 b (Nat.ne_of_lt (Nat.lt_of_lt_of_le (Heap.lt_size e) (I.ok.cab x c hfn hc)))).trans (I.base.keep b o e n hb hx)
    · obtain ⟨sl, e1⟩ := I.base.slot b o e n hb hx
      exact ⟨sl, (hs.2 b (Nat.ne_of_lt (Nat.lt_of_lt_of_le (Heap.lt_size e) (I.ok.cab x c hfn hc)))).trans e1⟩
    · obtain ⟨o', e1⟩ := I.base.there b o e hx
      exact ⟨o', (hs.2 b (Nat.ne_of_lt (Nat.lt_of_lt_of_le (Heap.lt_size e) (I.ok.cab x c hfn hc)))).trans e1⟩
    · by_cases hj : j = i
      · subst hj
        rw [hi] at e1; cases e1
        rw [List.getElem?_set_self hiσ] at e2
        cases e2
        exact ⟨u, r, .inr ⟨.inl hk, c, hc, hc'⟩⟩
      · rw [List.getElem?_set_ne (Ne.symm hj)] at e2
        obtain ⟨u', r', q⟩ := hl j y v' e1 e2 e3
        refine ⟨u', r', ?_⟩
        rcases q with q | ⟨k, c', e, z'⟩
        · exact .inl q
        · refine .inr ⟨k, c', e, z'.sameBut hs ?_⟩
          rintro rfl
          exact hj (nodup_ix hN e1 (I.ok.inj _ _ _ e hc ▸ hi))
    · by_cases hcc : c' = c
      · subst hcc; exact ⟨_, hc'⟩
      · obtain ⟨w2, z2⟩ := I.cell y c' e
        exact ⟨w2, z2.sameBut hs hcc⟩
    · obtain ⟨e, n, ne, nf, d⟩ := I.pin p hp
      refine ⟨(hs.2 p.1 ?_).trans e, n, ne, nf, d⟩
      intro q
      rw [q, hoc] at e
      have q' : oc = p.2 := Option.some.inj e
      exact d w' (by rw [← q']; exact hocd)
theorem store_ok {M : Model} {A : Around} {E : Value → Shared → Prop} {i : Nat} {x : Str} {v : V} {u : Value} {Q : Unit → Shared → Prop} (I : Inv X pins σ H s) (hN : X.N.Nodup) (hi : X.N[i]? = some x) (hx : Loc X.env.scope x) (r : RelV v u)
    (h : ∀ s', Inv X pins (σ.set i (some v)) H s' → Q () s') (hf : X.fn x = true ∨ X.env.scope.names.lookup x = some .local := by first | exact .inl rfl | exact .inr rfl | assumption) : wpAny M A (storeName X.env x u) Q E s :=
  store_ok2 I hN hi hx r (fun s' I' _ => h s' I') hf
/-- behind a call or a block, the state as it is -/
theorem Inv.call' {s' : Shared} {ch : List Addr} (I : Inv X pins σ H s) (ho : s'.os = s.os) (u : Un (frs X.stack) ch H H' s.heap s'.heap) (hok : HOk X.prog X.w H' s'.heap) (hg : AllBare s'.gens)
    (hch : ∀ b ∈ ch, (b ∈ X.ex ∨ X.s₀.heap.objs.size ≤ b) ∧ b ≠ X.env.locals ∧ (∀ x c, X.env.cells.lookup x = some c → c ≠ b) ∧ ∀ p ∈ X.pn ++ pins, p.1 ≠ b) : Inv X pins σ H' s' := by
  obtain ⟨h', g', d', t', o'⟩ := s'
  have e : o' = s.os := ho
  subst e
  exact I.call (g' := g') (t' := t') (d' := d') u hok hg hch
end

/-! ### the judgements -/
/-- an exception: its class, its own dict's address (where it has one), the abstract heap behind it -/
abbrev XK := Value → Option Addr → Hp → Prop
abbrev St := List (Option V)
abbrev VK := V → Hp → Prop
/-- an expression's reading; a test's; an argument list's -/
abbrev TE := St → Hp → VK → Prop
abbrev TT := St → Hp → (Bool → Hp → Prop) → Prop
abbrev TA := St → Hp → (List V → Hp → Prop) → Prop
/-- what is wanted behind a statement -/
structure Ends where
  nx : St → Hp → Prop
  rt : VK
  bk : St → Hp → Prop := fun _ _ => False
  ct : St → Hp → Prop := fun _ _ => False
abbrev TS := Ends → St → Hp → Prop

def EP (X : Cx) (pins : List (Addr × Obj)) (σ : St) (Q : VK) (u : Value) (s' : Shared) : Prop := ∃ v H', Inv X pins σ H' s' ∧ RelV v u ∧ Q v H'
def TP (X : Cx) (pins : List (Addr × Obj)) (σ : St) (Q : Bool → Hp → Prop) (b : Bool) (s' : Shared) : Prop := ∃ H', Inv X pins σ H' s' ∧ Q b H'
def AP (X : Cx) (pins : List (Addr × Obj)) (σ : St) (Q : List V → Hp → Prop) (us : List Value) (s' : Shared) : Prop := ∃ vs H', Inv X pins σ H' s' ∧ Vals vs us ∧ Q vs H'
def SP (X : Cx) (pins : List (Addr × Obj)) (D : Ends) (f : Flow) (s' : Shared) : Prop :=
  match f with
  | .next => ∃ σ' H', Inv X pins σ' H' s' ∧ D.nx σ' H'
  | .brk => ∃ σ' H', Inv X pins σ' H' s' ∧ D.bk σ' H'
  | .cont => ∃ σ' H', Inv X pins σ' H' s' ∧ D.ct σ' H'
  | .ret u => ∃ v σ' H', Inv X pins σ' H' s' ∧ RelV v u ∧ D.rt v H'

def PE (X : Cx) (e : Expr) (t : TE) : Prop :=
  ∀ (pins : List (Addr × Obj)) (s : Shared) (σ : St) (H : Hp) (Q : VK), Inv X pins σ H s → t σ H Q → wpAny (model X.prog X.w) X.A (eval e X.env) (EP X pins σ Q) X.xe s
def PT (X : Cx) (e : Expr) (t : TT) : Prop :=
  ∀ (pins : List (Addr × Obj)) (s : Shared) (σ : St) (H : Hp) (Q : Bool → Hp → Prop), Inv X pins σ H s → t σ H Q → wpAny (model X.prog X.w) X.A (isTrue e X.env (eval e X.env)) (TP X pins σ Q) X.xe s
/-- a test whatever its 'whole' is (and, or) -/
def PW (X : Cx) (e : Expr) (t : TT) : Prop :=
  ∀ (whole : Sem Value) (pins : List (Addr × Obj)) (s : Shared) (σ : St) (H : Hp) (Q : Bool → Hp → Prop), Inv X pins σ H s → t σ H Q → wpAny (model X.prog X.w) X.A (isTrue e X.env whole) (TP X pins σ Q) X.xe s
theorem PW.pt {X : Cx} {e : Expr} {t : TT} (h : PW X e t) : PT X e t := h _
/-- an argument list (no star), from the left -/
def PA (X : Cx) (es : List Expr) (t : TA) : Prop :=
  ∀ (pos : Pos) (pins : List (Addr × Obj)) (s : Shared) (σ : St) (H : Hp) (Q : List V → Hp → Prop), Inv X pins σ H s → t σ H Q → wpAny (model X.prog X.w) X.A (spliced (backTo pos (starEach es X.env))) (AP X pins σ Q) X.xe s
def PS (X : Cx) (st : Stmt) (t : TS) : Prop :=
  ∀ (pins : List (Addr × Obj)) (s : Shared) (σ : St) (H : Hp) (D : Ends), Inv X pins σ H s → t D σ H → wpAny (model X.prog X.w) X.A (exec st X.env) (SP X pins D) X.xe s
def PSs (X : Cx) (st : List Stmt) (t : TS) : Prop :=
  ∀ (pins : List (Addr × Obj)) (s : Shared) (σ : St) (H : Hp) (D : Ends), Inv X pins σ H s → t D σ H → wpAny (model X.prog X.w) X.A (execs st X.env) (SP X pins D) X.xe s
/-- weaken the end -/
theorem thn {α : Type} {t : Sem α} {Q Q' : α → Shared → Prop} {M : Model} {A : Around} {E : Value → Shared → Prop} {s : Shared} (h : wpAny M A t Q E s) (hQ : ∀ a s, Q a s → Q' a s) : wpAny M A t Q' E s := wpAny_mono h hQ fun _ _ x => x
end L2

namespace L2
open PySem PySem.Spec PyProof.Rows
section
variable {X : Cx}

/-! ### names and constants -/
inductive tVar (i : Nat) (σ : St) (H : Hp) (Q : VK) : Prop where
  | mk (v : _) (h1 : σ[i]? = some (some v)) (h2 : Q v H) : tVar i σ H Q
def tC (v : V) : TE := fun _ H Q => Q v H
theorem pe_var {i : Nat} {x : Str} {pos : Pos} (hN : X.N[i]? = some x) (hv : Vis X.env.scope x) (hd : (x == ("__debug__" : Str)) = false := by decide) (hcd : (x == ("__classdict__" : Str)) = false := by decide) : PE X (.Name x pos) (tVar i) := by
  intro pins s σ H Q I h
  obtain ⟨v, e, h⟩ := h
  obtain ⟨m, hn, hl⟩ := I.loc
  obtain ⟨u, r, l⟩ := hl i x v hN e hv
  have fin : EP X pins σ Q u s := ⟨v, H, I, r, h⟩
  rcases l with ⟨hk, hm⟩ | ⟨hk, c, hc, hcell⟩
  · exact wpAny_Name (wpAny_loadName_local I.ok.kind hk hn hm fin) hd
  · rcases hk with hk | hk
    · exact wpAny_Name (wpAny_loadName_cell I.ok.kind hk hc hcell fin) hd
    · exact wpAny_Name (wpAny_loadName_free I.ok.kind hk hc hcell fin hcd) hd
theorem pe_int {i j pos} : PE X (.Constant (.int i) j pos) (tC (.int i)) := fun _ _ _ H _ I h => wpAny_Constant_int ⟨.int i, H, I.tok _, ⟨_, rfl⟩, h⟩
theorem pe_bl {b j pos} : PE X (.Constant (.bool b) j pos) (tC (.bl b)) := fun _ _ _ H _ I h => Constant_bool ⟨.bl b, H, I, rfl, h⟩
theorem pe_str {x j pos} : PE X (.Constant (.str x) j pos) (tC (.str x)) := fun _ _ _ H _ I h => Calls.Constant_str ⟨.str x, H, I.tok _, ⟨_, rfl⟩, h⟩

/-- a global name of the def -/
def Gl (X : Cx) (x : Str) : Prop := X.env.kindOf x = some .globalImplicit
theorem ld_glob {E : Value → Shared → Prop} {pins : List (Addr × Obj)} {s : Shared} {σ : St} {H : Hp} {x : Str} {u : Value} {pos : Pos} {Q : Value → Shared → Prop} (I : Inv X pins σ H s) (hg : Gl X x) (hm : X.mg x = some u) (h : Q u s)
    (hd : (x == ("__debug__" : Str)) = false := by decide) : wpAny (model X.prog X.w) X.A (eval (.Name x pos) X.env) Q E s :=
  Calls.Name_function_global I.ok.kind hg (Calls.loadGlobal_global (by rw [I.ok.glob]; exact I.mod.glob.keeps I.bk) hm h) hd
theorem ld_blt {E : Value → Shared → Prop} {pins : List (Addr × Obj)} {s : Shared} {σ : St} {H : Hp} {x : Str} {u : Value} {pos : Pos} {Q : Value → Shared → Prop} (I : Inv X pins σ H s) (hg : Gl X x) (hm : X.mg x = none) (hv : bootBuiltins x = some u) (h : Q u s)
    (hn : x ≠ "__name__" := by decide) (hd : (x == ("__debug__" : Str)) = false := by decide) : wpAny (model X.prog X.w) X.A (eval (.Name x pos) X.env) Q E s := by
  obtain ⟨mb, h1, h2⟩ := I.mod.blt
  exact Calls.Name_function_global I.ok.kind hg (Calls.loadGlobal_builtin (by rw [I.ok.glob]; exact I.mod.glob.keeps I.bk) hm (by rw [I.ok.blt]; exact h1.keeps I.bk) ((h2 x hn).trans hv) h) hd
/-- a module's constant, a class, a function, as a value -/
theorem pe_glob {x : Str} {v : V} {u : Value} {pos : Pos} (hg : Gl X x) (hm : X.mg x = some u) (r : RelV v u) (hd : (x == ("__debug__" : Str)) = false := by decide) : PE X (.Name x pos) (tC v) :=
  fun _ _ _ H _ I h => ld_glob I hg hm ⟨v, H, I, r, h⟩ hd
theorem pe_bltn {x : Str} {v : V} {u : Value} {pos : Pos} (hg : Gl X x) (hm : X.mg x = none) (hv : bootBuiltins x = some u) (r : RelV v u) (hn : x ≠ "__name__" := by decide) (hd : (x == ("__debug__" : Str)) = false := by decide) : PE X (.Name x pos) (tC v) :=
  fun _ _ _ H _ I h => ld_blt I hg hm hv ⟨v, H, I, r, h⟩ hn hd

/-! ### arithmetic -/
variable {a b : Expr} {ta tb : TE} {pos : Pos}
/-! ### comparisons -/
/-- a comparison as a value, as a test -/
inductive tB_ (Q : Bool → Hp → Prop) (x : V) (H1 : Hp) : Prop where
  | mk (c : _) (h1 : x = .bl c) (h2 : Q c H1) : tB_ Q x H1
def tB (t : TE) : TT := fun σ H Q => t σ H fun x H1 => tB_ Q x H1
/-- an expression whose value is a bool, as a test -/
theorem pt_val {e : Expr} {t : TE} (h : PE X e t) (he : ∀ whole, isTrue e X.env whole = (do let v ← whole; standAt e.pos; holding [v] (truthy v)) := by intro _; rfl) : PT X e (tB t) := by
  intro pins s σ H Q I hw
  refine isTrue_plain (thn (h pins s σ H _ I hw) fun v s1 ⟨x, H1, I1, r1, q1⟩ => ?_) (he _)
  obtain ⟨d, rfl, q⟩ := q1
  cases r1
  exact wpAny_truthy_bool ⟨H1, I1, q⟩

/-! ### and, or, not -/
variable {tA tB' : TT} {rest : List Expr}
def tAnd (t u : TT) : TT := fun σ H Q => t σ H fun c H1 => if c = true then u σ H1 Q else Q false H1
def tOr (t u : TT) : TT := fun σ H Q => t σ H fun c H1 => if c = true then Q true H1 else u σ H1 Q
def tNot (t : TT) : TT := fun σ H Q => t σ H fun c H1 => Q (!c) H1
theorem pw_and1 (ha : PT X a tA) : PW X (.BoolOp .And [a] pos) tA := by
  intro wh pins s σ H Q I h
  refine isTrue_and (thn (ha pins s σ H Q I h) fun c s1 e => ?_)
  cases c with
  | true => exact isTrue_and_nil e
  | false => exact e
theorem pw_or1 (ha : PT X a tA) : PW X (.BoolOp .Or [a] pos) tA := by
  intro wh pins s σ H Q I h
  refine isTrue_or (thn (ha pins s σ H Q I h) fun c s1 e => ?_)
  cases c with
  | false => exact isTrue_or_nil e
  | true => exact e
theorem pw_and (ha : PT X a tA) (hb : PW X (.BoolOp .And (b :: rest) pos) tB') : PW X (.BoolOp .And (a :: b :: rest) pos) (tAnd tA tB') := by
  intro wh pins s σ H Q I h
  refine isTrue_and (thn (ha pins s σ H _ I h) fun c s1 ⟨H1, I1, q1⟩ => ?_)
  cases c with
  | true => exact hb wh pins s1 σ H1 Q I1 q1
  | false => exact ⟨H1, I1, q1⟩
theorem pw_or (ha : PT X a tA) (hb : PW X (.BoolOp .Or (b :: rest) pos) tB') : PW X (.BoolOp .Or (a :: b :: rest) pos) (tOr tA tB') := by
  intro wh pins s σ H Q I h
  refine isTrue_or (thn (ha pins s σ H _ I h) fun c s1 ⟨H1, I1, q1⟩ => ?_)
  cases c with
  | true => exact ⟨H1, I1, q1⟩
  | false => exact hb wh pins s1 σ H1 Q I1 q1
theorem pt_not (ha : PT X a tA) : PT X (.UnaryOp .Not a pos) (tNot tA) := by
  intro pins s σ H Q I h
  exact isTrue_not (ha pins s σ H (fun c H1 => Q (!c) H1) I h)
/-- .. as values (bools) -/
inductive tAndV_ (tb : TE) (σ : St) (Q : VK) (x : V) (H1 : Hp) : Prop where
  | mk (c : _) (h1 : x = .bl c) (h2 : if c = true then tb σ H1 Q else Q (.bl false) H1) : tAndV_ tb σ Q x H1
def tAndV (ta tb : TE) : TE := fun σ H Q => ta σ H fun x H1 => tAndV_ tb σ Q x H1
inductive tOrV_ (tb : TE) (σ : St) (Q : VK) (x : V) (H1 : Hp) : Prop where
  | mk (c : _) (h1 : x = .bl c) (h2 : if c = true then Q (.bl true) H1 else tb σ H1 Q) : tOrV_ tb σ Q x H1
def tOrV (ta tb : TE) : TE := fun σ H Q => ta σ H fun x H1 => tOrV_ tb σ Q x H1
inductive tNotV_ (Q : VK) (x : V) (H1 : Hp) : Prop where
  | mk (c : _) (h1 : x = .bl c) (h2 : Q (.bl (!c)) H1) : tNotV_ Q x H1
def tNotV (ta : TE) : TE := fun σ H Q => ta σ H fun x H1 => tNotV_ Q x H1
theorem pe_one {op} {t : TE} (h : PE X a t) : PE X (.BoolOp op [a] pos) t := fun pins s σ H Q I hw => BoolOp_one (h pins s σ H Q I hw)
theorem pe_and (ha : PE X a ta) (hb : PE X (.BoolOp .And (b :: rest) pos) tb) : PE X (.BoolOp .And (a :: b :: rest) pos) (tAndV ta tb) := by
  intro pins s σ H Q I h
  refine BoolOp_and (thn (ha pins s σ H _ I h) fun v s1 ⟨x, H1, I1, r1, q1⟩ => ?_)
  obtain ⟨c, rfl, q1⟩ := q1
  cases r1
  refine wpAny_truthy_bool ?_
  cases c with
  | true => exact hb pins s1 σ H1 Q I1 q1
  | false => exact ⟨.bl false, H1, I1, rfl, q1⟩
theorem pe_or (ha : PE X a ta) (hb : PE X (.BoolOp .Or (b :: rest) pos) tb) : PE X (.BoolOp .Or (a :: b :: rest) pos) (tOrV ta tb) := by
  intro pins s σ H Q I h
  refine BoolOp_or (thn (ha pins s σ H _ I h) fun v s1 ⟨x, H1, I1, r1, q1⟩ => ?_)
  obtain ⟨c, rfl, q1⟩ := q1
  cases r1
  refine wpAny_truthy_bool ?_
  cases c with
  | false => exact hb pins s1 σ H1 Q I1 q1
  | true => exact ⟨.bl true, H1, I1, rfl, q1⟩
theorem pe_not (ha : PE X a ta) : PE X (.UnaryOp .Not a pos) (tNotV ta) := by
  intro pins s σ H Q I h
  refine UnaryOp_ (thn (ha pins s σ H _ I h) fun v s1 ⟨x, H1, I1, r1, q1⟩ => ?_)
  obtain ⟨c, rfl, q1⟩ := q1
  cases r1
  exact not_of (wpAny_truthy_bool ⟨.bl (!c), H1, I1, rfl, q1⟩)
end
end L2

namespace L2
open PySem PySem.Spec PyProof.Rows

/-! ### a list, a tuple that is read: tracked, frozen, or an object of the module -/
def SqL (K : PySem.W.Frag) (H : Hp) (a : Addr) (xs : List V) : Prop :=
  Rd H a (.lst xs) ∨
    ∃ (o : Obj) (its : Array Value) (n : Nat), K.lookup a = some o ∧ o.cls = .type "list" ∧ o.dict = none ∧ o.data = .seq its n ∧ its.size ≤ sizeLine ∧ Vals xs its.toList
def SqT (K : PySem.W.Frag) (H : Hp) (a : Addr) (xs : List V) : Prop :=
  Rd H a (.tup xs) ∨
    ∃ (o : Obj) (its : Array Value) (n : Nat), K.lookup a = some o ∧ o.cls = .type "tuple" ∧ o.data = .seq its n ∧ its.size ≤ sizeLine ∧ Vals xs its.toList
def absV : Value → Option V
  | .none => some .non
  | .bool b => some (.bl b)
  | .int i _ => some (.int i)
  | .str x _ => some (.str x)
  | .bytes b _ => some (.byt b)
  | .float b _ => some (.flt b)
  | .ref a => some (.ref a)
  | .type n => some (.ty n)
  | _ => none
theorem RelV.abs {x : V} {u : Value} (r : RelV x u) : absV u = some x := by
  cases x with
  | non => cases r; rfl
  | bl _ => cases r; rfl
  | int _ => obtain ⟨t, rfl⟩ := r; rfl
  | str _ => obtain ⟨t, rfl⟩ := r; rfl
  | byt _ => obtain ⟨t, rfl⟩ := r; rfl
  | flt _ => obtain ⟨t, rfl⟩ := r; rfl
  | ref _ => cases r; rfl
  | ty _ => cases r; rfl
theorem RelV.inj {x y : V} {u : Value} (r : RelV x u) (q : RelV y u) : x = y := Option.some.inj (r.abs.symm.trans q.abs)
theorem Vals.inj : ∀ {xs ys : List V} {us : List Value}, Vals xs us → Vals ys us → xs = ys
  | _, _, _, .nil, .nil => rfl
  | _, _, _, .cons r t, .cons r' t' => by rw [r.inj r', Vals.inj t t']
section
variable {X : Cx} {pins : List (Addr × Obj)} {σ : St} {H : Hp} {s : Shared} {a : Addr} {xs ys : List V}
theorem SqL.of {K : PySem.W.Frag} (h : H a = some (.lst xs)) : SqL K H a xs := .inl (.inl h)
theorem SqT.of {K : PySem.W.Frag} (h : H a = some (.tup xs)) : SqT K H a xs := .inl (.inl h)
theorem Inv.list (I : Inv X pins σ H s) (h : SqL X.K H a xs) : ∃ its : List Value, Vals xs its ∧ PlainL s.heap a its.toArray ∧ xs.length ≤ sizeLine := by
  rcases h with h | ⟨o, its, n, hk, hc, hd, hs, hz, r⟩
  · obtain ⟨z, its, n, r, e⟩ := h.ok I.hok
    exact ⟨its, r, ⟨_, n, e, rfl, rfl, rfl⟩, z⟩
  · refine ⟨its.toList, r, ⟨o, n, I.kIn a o hk, hc, hd, by simpa using hs⟩, ?_⟩
    have e := r.length
    simp only [Array.length_toList] at e
    omega
theorem Inv.tuple (I : Inv X pins σ H s) (h : SqT X.K H a xs) : ∃ its : List Value, Vals xs its ∧ IsTup s.heap a its.toArray ∧ xs.length ≤ sizeLine := by
  rcases h with h | ⟨o, its, n, hk, hc, hs, hz, r⟩
  · obtain ⟨z, its, r, p⟩ := h.ok I.hok
    exact ⟨its, r, p, z⟩
  · refine ⟨its.toList, r, ⟨o, I.kIn a o hk, hc, n, by simpa using hs⟩, ?_⟩
    have e := r.length
    simp only [Array.length_toList] at e
    omega
theorem Inv.list_inj (I : Inv X pins σ H s) (h : SqL X.K H a xs) (h' : SqL X.K H a ys) : xs = ys := by
  obtain ⟨its, r, ⟨o, n, e, _, _, d⟩, _⟩ := I.list h
  obtain ⟨its', r', ⟨o', n', e', _, _, d'⟩, _⟩ := I.list h'
  rw [e] at e'; cases e'
  rw [d] at d'
  injection d' with d1 _
  have : its = its' := by simpa using congrArg Array.toList d1
  subst this
  exact r.inj r'
theorem Inv.tuple_inj (I : Inv X pins σ H s) (h : SqT X.K H a xs) (h' : SqT X.K H a ys) : xs = ys := by
  obtain ⟨its, r, ⟨o, e, _, n, d⟩, _⟩ := I.tuple h
  obtain ⟨its', r', ⟨o', e', _, n', d'⟩, _⟩ := I.tuple h'
  rw [e] at e'; cases e'
  rw [d] at d'
  injection d' with d1 _
  have : its = its' := by simpa using congrArg Array.toList d1
  subst this
  exact r.inj r'
end

/-! ### another wish about exceptions -/
abbrev Cx.wish (X : Cx) (E : Value → Shared → Prop) : Cx := { X with xe := E }
/-- no exception leaves -/
abbrev Cx.nox (X : Cx) : Cx := X.wish fun _ _ => False
theorem Cx.Ok.wish {X : Cx} (ok : X.Ok) (E : Value → Shared → Prop) : (X.wish E).Ok :=
  ⟨ok.mod, ok.kind, ok.glob, ok.blt, ok.above, ok.inj, ok.has, ok.cab, ok.hd, ok.frames, ok.stk, ok.exf, ok.bs, ok.bsz, ok.noex, ok.exfs, ok.funs, ok.frf⟩
theorem Cx.Ok.unwish {X : Cx} {E : Value → Shared → Prop} (ok : (X.wish E).Ok) : X.Ok :=
  ⟨ok.mod, ok.kind, ok.glob, ok.blt, ok.above, ok.inj, ok.has, ok.cab, ok.hd, ok.frames, ok.stk, ok.exf, ok.bs, ok.bsz, ok.noex, ok.exfs, ok.funs, ok.frf⟩
section
variable {X : Cx} {pins : List (Addr × Obj)} {σ : St} {H : Hp} {s : Shared} {E : Value → Shared → Prop}
theorem Inv.wish (I : Inv X pins σ H s) (E : Value → Shared → Prop) : Inv (X.wish E) pins σ H s := ⟨I.ok.wish E, I.os, I.bare, I.base, I.loc, I.cell, I.free, I.freeC, I.pin, I.hok, I.len⟩
theorem Inv.unwish (I : Inv (X.wish E) pins σ H s) : Inv X pins σ H s := ⟨I.ok.unwish, I.os, I.bare, I.base, I.loc, I.cell, I.free, I.freeC, I.pin, I.hok, I.len⟩
theorem SP.unwish {D : Ends} {f : Flow} {s' : Shared} (h : SP (X.wish E) pins D f s') : SP X pins D f s' := by
  cases f with
  | next => obtain ⟨σ', H', I, q⟩ := h; exact ⟨σ', H', I.unwish, q⟩
  | brk => obtain ⟨σ', H', I, q⟩ := h; exact ⟨σ', H', I.unwish, q⟩
  | cont => obtain ⟨σ', H', I, q⟩ := h; exact ⟨σ', H', I.unwish, q⟩
  | ret u => obtain ⟨v, σ', H', I, r, q⟩ := h; exact ⟨v, σ', H', I.unwish, r, q⟩
theorem PSs.nox {st : List Stmt} {t : TS} (h : PSs X.nox st t) : PSs X st t := fun pins s σ H D I hw =>
  wpAny_mono (h pins s σ H D (I.wish _) hw) (fun _ _ q => q.unwish) fun _ _ z => False.elim z
end

/-! ### blocks and small statements -/
section
variable {X : Cx} {st : Stmt} {rest : List Stmt} {t u : TS} {e : Expr} {te : TE} {pos : Pos}
def tNext : TS := fun D σ H => D.nx σ H
def tSeq (t u : TS) : TS := fun D σ H => t { D with nx := u D } σ H
theorem pss_nil : PSs X [] tNext := fun _ _ σ H _ I h => wpAny_execs_nil ⟨σ, H, I, h⟩
theorem pss_cons (h1 : PS X st t) (h2 : PSs X rest u) : PSs X (st :: rest) (tSeq t u) := by
  intro pins s σ H D I h
  refine wpAny_execs_cons (thn (h1 pins s σ H { D with nx := u D } I h) fun f s1 q => ?_)
  cases f with
  | next =>
    obtain ⟨σ', H', I', q⟩ := q
    exact h2 pins s1 σ' H' D I' q
  | ret v => exact q
  | brk => exact q
  | cont => exact q
theorem pss_one (h1 : PS X st t) : PSs X [st] t := by
  intro pins s σ H D I h
  refine wpAny_execs_cons (thn (h1 pins s σ H D I h) fun f s1 q => ?_)
  cases f with
  | next => exact wpAny_execs_nil q
  | ret v => exact q
  | brk => exact q
  | cont => exact q
/-- in a def's body nothing is shown -/
theorem Inv.quiet {pins : List (Addr × Obj)} {σ : St} {H : Hp} {s : Shared} (I : Inv X pins σ H s) : interactive X.env = false := by simp [interactive, I.ok.kind]
/-- an expression whose value is dropped -/
def tDrop (te : TE) : TS := fun D σ H => te σ H fun _ H1 => D.nx σ H1
theorem ps_expr (he : PE X e te) (hs : swapsWith e none pos.line X.env = pure false := by rfl) : PS X (.Expr e pos) (tDrop te) := by
  intro pins s σ H D I h
  exact wpAny_Expr_any (thn (he pins s σ H _ I h) fun v s1 ⟨x, H1, I1, r1, q1⟩ => ⟨σ, H1, I1, q1⟩) I.quiet hs
def tRet (te : TE) : TS := fun D σ H => te σ H D.rt
theorem ps_ret (he : PE X e te) : PS X (.Return (some e) pos) (tRet te) := by
  intro pins s σ H D I h
  exact wpAny_Return_some (thn (he pins s σ H _ I h) fun v s1 ⟨x, H1, I1, r1, q1⟩ => ⟨x, σ, H1, I1, r1, q1⟩)
def tIfS (c : TT) (t u : TS) : TS := fun D σ H => c σ H fun b H1 => if b = true then t D σ H1 else u D σ H1
theorem ps_if {c : Expr} {a b : List Stmt} {tc : TT} (hc : PT X c tc) (ha : PSs X a t) (hb : PSs X b u) : PS X (.If c a b pos) (tIfS tc t u) := by
  intro pins s σ H D I h
  refine wpAny_If (thn (hc pins s σ H _ I h) fun d s1 ⟨H1, I1, q1⟩ => ?_)
  cases d with
  | true => exact ha pins s1 σ H1 D I1 q1
  | false => exact hb pins s1 σ H1 D I1 q1
end

/-! ### targets -/
abbrev TG := V → St → Hp → (St → Hp → Prop) → Prop
abbrev TGs := List V → St → Hp → (St → Hp → Prop) → Prop
def PG (X : Cx) (target : Expr) (t : TG) : Prop :=
  ∀ (pins : List (Addr × Obj)) (s : Shared) (σ : St) (H : Hp) (v : V) (u : Value) (Q : St → Hp → Prop), Inv X pins σ H s → RelV v u → t v σ H Q →
    wpAny (model X.prog X.w) X.A (assign target X.env u) (fun _ s' => ∃ σ' H', Inv X pins σ' H' s' ∧ Q σ' H') X.xe s
/-- several targets, one after another -/
def PGs (X : Cx) (ts : List Expr) (t : TGs) : Prop :=
  ∀ (pins : List (Addr × Obj)) (s : Shared) (σ : St) (H : Hp) (vs : List V) (us : List Value) (Q : St → Hp → Prop), Inv X pins σ H s → Vals vs us → t vs σ H Q →
    wpAny (model X.prog X.w) X.A (assignInOrder ((assignEach ts X.env).map (·.2)) us) (fun _ s' => ∃ σ' H', Inv X pins σ' H' s' ∧ Q σ' H') X.xe s
/-- o[i] = v, by values -/
abbrev TSet := V → V → V → Hp → (Hp → Prop) → Prop
def PSet (X : Cx) (t : TSet) : Prop :=
  ∀ (pins : List (Addr × Obj)) (s : Shared) (σ : St) (H : Hp) (o i v : V) (ov iv u : Value) (Q : Hp → Prop), Inv X pins σ H s → RelV o ov → RelV i iv → RelV v u → t o i v H Q →
    wpAny (model X.prog X.w) X.A (setItem ov iv u) (fun _ s' => ∃ H', Inv X pins σ H' s' ∧ Q H') X.xe s
section
variable {X : Cx} {pos : Pos}
def gName (i : Nat) : TG := fun v σ H Q => Q (σ.set i (some v)) H
theorem pg_name {i : Nat} {x : Str} (hN : X.N.Nodup) (hi : X.N[i]? = some x) (hx : Loc X.env.scope x) (hf : X.fn x = true ∨ X.env.scope.names.lookup x = some .local := by first | exact .inl rfl | exact .inr rfl | assumption) : PG X (.Name x pos) (gName i) := by
  intro pins s σ H v u Q I r h
  exact wpAny_assign_Name (store_ok I hN hi hx r (fun s' I' => ⟨_, H, I', h⟩) hf)
/-- o[i] = .. -/
def gSub (to ti : TE) (t : TSet) : TG := fun v σ H Q => to σ H fun o H1 => ti σ H1 fun i H2 => t o i v H2 fun H3 => Q σ H3
theorem pg_sub {o i : Expr} {to ti : TE} {t : TSet} (ho : PE X o to) (hi : PE X i ti) (hs : PSet X t)
    (ha : ∀ v, assign (.Subscript o i pos) X.env v = (do
      let ov ← holding [v] (eval o X.env)
      let iv ← holding [v, ov] (eval i X.env)
      standAt pos
      holding [v, ov, iv] (setItem ov iv v)
      release [v, ov, iv] []) := by intro _; rfl) : PG X (.Subscript o i pos) (gSub to ti t) := by
  intro pins s σ H v u Q I r h
  rw [ha]
  refine wpAny_bind (wpAny_holding (thn (ho pins s σ H _ I h) fun ov s1 ⟨x, H1, I1, r1, q1⟩ => ?_))
  refine wpAny_bind (wpAny_holding (thn (hi pins s1 σ H1 _ I1 q1) fun iv s2 ⟨y, H2, I2, r2, q2⟩ => ?_))
  refine wpAny_bind (wpAny_standAt (wpAny_bind (wpAny_holding (thn (hs pins s2 σ H2 x y v ov iv u _ I2 r1 r2 r q2) fun _ s3 ⟨H3, I3, q3⟩ => ?_))))
  exact wpAny_release ⟨σ, H3, I3, q3⟩
/-- target = value -/
def tAsg (te : TE) (g : TG) : TS := fun D σ H => te σ H fun x H1 => g x σ H1 D.nx
theorem ps_asg {tg e : Expr} {te : TE} {g : TG} (he : PE X e te) (hg : PG X tg g) (hs : swapsWithSole [tg] e pos.line X.env = pure false := by rfl) (hw : swappedStores [tg] e X.env = pure none := by rfl)
    (h1 : (assignEach [tg] X.env).map (·.2) = [assign tg X.env] := by rfl) : PS X (.Assign [tg] e pos) (tAsg te g) := by
  intro pins s σ H D I h
  refine wpAny_Assign_stores (thn (he pins s σ H _ I h) fun v s1 ⟨x, H1, I1, r1, q1⟩ => ?_) hs hw
  rw [h1]
  exact thn (hg pins s1 σ H1 x v _ I1 r1 q1) fun _ s2 q => q
/-- name = value -/
theorem ps_set {i : Nat} {x : Str} {e : Expr} {te : TE} {pos' : Pos} (hN : X.N.Nodup) (hi : X.N[i]? = some x) (hx : Loc X.env.scope x) (he : PE X e te) (hs : swapsWith e (some (.Name x pos')) pos.line X.env = pure false := by rfl) (hf : X.fn x = true ∨ X.env.scope.names.lookup x = some .local := by first | exact .inl rfl | exact .inr rfl | assumption) :
    PS X (.Assign [.Name x pos'] e pos) (tAsg te (gName i)) := by
  intro pins s σ H D I h
  refine wpAny_Assign_Name (thn (he pins s σ H _ I h) fun v s1 ⟨y, H1, I1, r1, q1⟩ => ?_) hs
  exact store_ok I1 hN hi hx r1 (fun s2 I2 => ⟨_, H1, I2, q1⟩) hf
end

/-! ### while -/
section
variable {X : Cx} {pos : Pos}
/-- the invariant W with its measure -/
def tWhile (c : TT) (tb : TS) : TS := fun D σ H => ∃ W : Nat → St → Hp → Prop, (∃ m, W m σ H) ∧ ∀ m σ H, W m σ H →
  c σ H fun b H1 => if b = true then ∃ N : St → Hp → Prop, (∀ σ' H', N σ' H' → ∃ m', m' < m ∧ W m' σ' H') ∧ tb { D with nx := N, ct := N, bk := D.nx } σ H1 else D.nx σ H1
theorem ps_while {c : Expr} {body : List Stmt} {tc : TT} {tb : TS} (hp : PassesOwn (model X.prog X.w) X.A X.env X.xe) (hc : PT X c tc) (hb : PSs X body tb) : PS X (.While c body [] pos) (tWhile tc tb) := by
  intro pins s σ H D I h
  obtain ⟨W, ⟨m0, w0⟩, turn⟩ := h
  refine wpAny_While (codeAny_whileLoop (fun n s' => ∃ σ' H', Inv X pins σ' H' s' ∧ W n σ' H') ?_ m0 ⟨σ, H, I, w0⟩)
  rintro n s1 ⟨σ1, H1, I1, w1⟩
  refine wpAny_passesOwn hp (thn (hc pins s1 σ1 H1 _ I1 (turn n σ1 H1 w1)) fun b s2 ⟨H2, I2, q2⟩ => ?_)
  cases b with
  | true =>
    obtain ⟨N, hN, q2⟩ := q2
    rw [if_pos rfl]
    refine wpAny_passesOwn hp (thn (hb pins s2 σ1 H2 _ I2 q2) fun f s3 q3 => ?_)
    cases f with
    | next =>
      obtain ⟨σ3, H3, I3, n3⟩ := q3
      obtain ⟨m', hm, w3⟩ := hN σ3 H3 n3
      exact ⟨m', hm, σ3, H3, I3, w3⟩
    | cont =>
      obtain ⟨σ3, H3, I3, n3⟩ := q3
      obtain ⟨m', hm, w3⟩ := hN σ3 H3 n3
      exact ⟨m', hm, σ3, H3, I3, w3⟩
    | brk => exact q3
    | ret v => exact q3
  | false =>
    rw [if_neg Bool.false_ne_true]
    exact wpAny_execs_nil ⟨σ1, H2, I2, q2⟩
end

/-! ### what a loop or a comprehension walks -/
/-- at turn i: it yields x (the heap may grow), or it stops -/
structure It where
  go : Nat → Hp → Prop
  yld : Nat → Hp → V → Hp → Prop
  stop : Nat → Hp → Prop
/-- the iterator's own objects may turn: they are not the frame's, not pinned, younger than the entry (or a comprehension's own) -/
def FpOk (X : Cx) (pins : List (Addr × Obj)) (H : Hp) (b : Addr) : Prop :=
  H b = none ∧ b ≠ X.env.locals ∧ b ∉ X.fs ∧ (b ∈ X.ex ∨ X.s₀.heap.objs.size ≤ b) ∧ (∀ x c, X.env.cells.lookup x = some c → c ≠ b) ∧ ∀ p ∈ X.pn ++ pins, p.1 ≠ b
theorem Inv.fpOk {X : Cx} {pins : List (Addr × Obj)} {σ : St} {H H' : Hp} {s : Shared} {b : Addr} (I : Inv X pins σ H s) (hb : s.heap.objs.size ≤ b) (hn : H' b = none) : FpOk X pins H' b := by
  refine ⟨hn, Nat.ne_of_gt (Nat.lt_of_lt_of_le I.lt hb), I.nofs hb, .inr (Nat.le_trans I.sz hb), fun x c e z => ?_, fun p hp z => ?_⟩
  · obtain ⟨v, q⟩ := I.cell x c e
    exact absurd (Nat.lt_of_lt_of_le q.lt (by rw [z]; exact hb)) (Nat.lt_irrefl _)
  · exact absurd (Nat.lt_of_lt_of_le (Heap.lt_size (I.pin p hp).1) (by rw [z]; exact hb)) (Nat.lt_irrefl _)
structure Turn (P : Program) (w : World) (K : PySem.W.Frag) (tg : Expr) (J : It) (fp : List Addr) (it : Addr) (tn : Nat → Heap → Prop) : Prop where
  mem : it ∈ fp
  obj : ∀ i h, tn i h → ∀ b ∈ fp, ∃ o, h.get? b = some o ∧ ∀ v, o.data ≠ .cell v
  keep : ∀ i h h', tn i h → (∀ b ∈ fp, ∀ o, h.get? b = some o → h'.get? b = some o) → tn i h'
  item : ∀ (X : Cx), X.prog = P → X.w = w → X.K = K → X.calm = true → ∀ (i : Nat) (pins : List (Addr × Obj)) (s : Shared) (σ : St) (H : Hp) (E : Value → Shared → Prop), Inv X pins σ H s → (∀ b ∈ fp, FpOk X pins H b) → tn i s.heap → J.go i H →
    wpAny (model P w) X.A (pyNext (.ref it)) (fun r s1 => ∃ u, r = some u ∧
      wpAny (model P w) X.A (letOwnedTupleGo tg (.ref it) u) (fun _ s2 => ∃ x H', Inv X pins σ H' s2 ∧ RelV x u ∧ J.yld i H x H' ∧ tn (i + 1) s2.heap ∧ ∀ b ∈ fp, H' b = none) E s1) E s
  done : ∀ (X : Cx), X.prog = P → X.w = w → X.K = K → X.calm = true → ∀ (i : Nat) (pins : List (Addr × Obj)) (s : Shared) (σ : St) (H : Hp) (E : Value → Shared → Prop), Inv X pins σ H s → (∀ b ∈ fp, FpOk X pins H b) → tn i s.heap → J.stop i H →
    wpAny (model P w) X.A (pyNext (.ref it)) (fun r s1 => r = none ∧ Inv X pins σ H s1) E s
  self : ∀ (A : Around) (i : Nat) (s : Shared) (Q : Value → Shared → Prop) (E : Value → Shared → Prop), tn i s.heap → Q (.ref it) s → wpAny (model P w) A (pyIter (.ref it)) Q E s
abbrev TI := St → Hp → (It → Hp → Prop) → Prop
/-- an iterator has come -/
def PIE (X : Cx) (pins : List (Addr × Obj)) (σ : St) (tg : Expr) (R : It → Hp → Prop) (itv : Value) (s2 : Shared) : Prop :=
  ∃ (it : Addr) (fp : List Addr) (tn : Nat → Heap → Prop) (J : It) (H' : Hp), itv = .ref it ∧ Inv X pins σ H' s2 ∧ Turn X.prog X.w X.K tg J fp it tn ∧ tn 0 s2.heap ∧ (∀ b ∈ fp, FpOk X pins H' b) ∧ R J H'
def PI (X : Cx) (tg iter : Expr) (wi : TI) : Prop :=
  ∀ (pins : List (Addr × Obj)) (s : Shared) (σ : St) (H : Hp) (R : It → Hp → Prop), Inv X pins σ H s → wi σ H R →
    wpAny (model X.prog X.w) X.A (eval iter X.env) (fun v s1 => wpAny (model X.prog X.w) X.A (pyIter v) (PIE X pins σ tg R) X.xe s1) X.xe s

/-- the step ahead of the store is nothing for an iterator that keeps no tuple -/
theorem go_of {M : Model} {A : Around} {E : Value → Shared → Prop} {s : Shared} {tg : Expr} {it : Addr} {u : Value} {o : Obj} {n : String} {vs : Array Value} {Q : Unit → Shared → Prop} (ho : s.heap.get? it = some o) (hc : o.cls = .type n) (hd : o.data = .fields vs)
    (hn : ["enumerate", "zip", "dict_itemiterator", "dict_reverseitemiterator", "odict_iterator", "itertools.zip_longest", "itertools.pairwise"].contains n = false) (hQ : Q () s) : wpAny M A (letOwnedTupleGo tg (.ref it) u) Q E s := by
  unfold letOwnedTupleGo
  cases tg <;> first
    | exact wpAny_pure hQ
    | (cases u <;> first
        | exact wpAny_pure hQ
        | (refine wpAny_bind (wpAny_load ho ?_)
           rw [hc, hd]
           show wpAny M A (if (["enumerate", "zip", "dict_itemiterator", "dict_reverseitemiterator", "odict_iterator", "itertools.zip_longest", "itertools.pairwise"].contains n && vs[0]? == some (rawInt _)) = true then _ else _) Q E s
           rw [if_neg (by intro h; rw [hn, Bool.false_and] at h; cases h)]
           exact wpAny_pure hQ))

/-- the list at a, as it stands at each turn (a loop may append to it) -/
def Itl (K : PySem.W.Frag) (a : Addr) : It :=
  ⟨fun i H => ∃ xs x, SqL K H a xs ∧ xs[i]? = some x, fun i H x H' => H' = H ∧ ∀ xs, SqL K H a xs → xs[i]? = some x, fun i H => ∃ xs, SqL K H a xs ∧ xs.length ≤ i⟩
def Itt (K : PySem.W.Frag) (a : Addr) : It :=
  ⟨fun i H => ∃ xs x, SqT K H a xs ∧ xs[i]? = some x, fun i H x H' => H' = H ∧ ∀ xs, SqT K H a xs → xs[i]? = some x, fun i H => ∃ xs, SqT K H a xs ∧ xs.length ≤ i⟩
/-- lo, lo + 1, .. (n of them) -/
def Itr (lo : Int) (n : Nat) : It := ⟨fun i _ => i < n, fun i H x H' => H' = H ∧ x = .int (lo + i), fun i _ => n ≤ i⟩
theorem turn_list {P : Program} {w : World} {K : PySem.W.Frag} {tg : Expr} (a it : Addr) : Turn P w K tg (Itl K a) [it] it (fun i h => h.IsListIter it a i) where
  mem := by simp
  obj := fun i h st b hb => by
    have e : b = it := by simpa using hb
    subst e
    obtain ⟨o, e, c, d⟩ := st
    exact ⟨o, e, fun v z => by rw [d] at z; cases z⟩
  keep := fun i h h' st k => st.at fun o e => k it (by simp) o e
  item := by
    intro X hP hw hK hc i pins s σ H E I hf st hg
    subst hP hw hK
    obtain ⟨xs, x, hq, hx⟩ := hg
    obtain ⟨its, rv, p, hz⟩ := I.list hq
    obtain ⟨u, hu, ru⟩ := rv.get hx
    obtain ⟨f0, f1, f2, f3, f4, f5⟩ := hf it (by simp)
    refine wpAny_pyNext_list_item st p.isList (x := u) (by simpa using hu) fun h' st' sb => ?_
    have I1 : Inv X pins σ H { s with heap := h' } := I.turned (t' := s.toks) (fun b o hb e => (sb.2 b hb).trans e) f0 f1 f3 f4 f5
    obtain ⟨o, e, c, d⟩ := id st'
    exact ⟨u, rfl, go_of (s := { s with heap := h' }) e c d (by decide) ⟨x, H, I1, ru, ⟨rfl, fun ys hy => by rw [I.list_inj hy hq]; exact hx⟩, st', fun b hb => (hf b hb).1⟩⟩
  done := by
    intro X hP hw hK hc i pins s σ H E I hf st hg
    subst hP hw hK
    obtain ⟨xs, hq, hx⟩ := hg
    obtain ⟨its, rv, p, hz⟩ := I.list hq
    obtain ⟨f0, f1, f2, f3, f4, f5⟩ := hf it (by simp)
    have hl := rv.length
    exact wpAny_pyNext_list_end (I.ok.hd hc) st p.isList (by simp; omega) fun h' eb => ⟨rfl, I.turned (t' := s.toks) (fun b o hb e => eb b o hb e) f0 f1 f3 f4 f5⟩
  self := fun _ _ _ _ _ st h => wpAny_pyIter_listiter st h
theorem turn_tuple {P : Program} {w : World} {K : PySem.W.Frag} {tg : Expr} (a it : Addr) : Turn P w K tg (Itt K a) [it] it (fun i h => h.IsTupleIter it a i) where
  mem := by simp
  obj := fun i h st b hb => by
    have e : b = it := by simpa using hb
    subst e
    obtain ⟨o, e, c, d⟩ := st
    exact ⟨o, e, fun v z => by rw [d] at z; cases z⟩
  keep := fun i h h' st k => st.at fun o e => k it (by simp) o e
  item := by
    intro X hP hw hK hc i pins s σ H E I hf st hg
    subst hP hw hK
    obtain ⟨xs, x, hq, hx⟩ := hg
    obtain ⟨its, rv, p, hz⟩ := I.tuple hq
    obtain ⟨u, hu, ru⟩ := rv.get hx
    obtain ⟨f0, f1, f2, f3, f4, f5⟩ := hf it (by simp)
    refine wpAny_pyNext_tuple_item st (show s.heap.IsTuple a its.toArray from p) (x := u) (by simpa using hu) fun h' st' sb => ?_
    have I1 : Inv X pins σ H { s with heap := h' } := I.turned (t' := s.toks) (fun b o hb e => (sb.2 b hb).trans e) f0 f1 f3 f4 f5
    obtain ⟨o, e, c, d⟩ := id st'
    exact ⟨u, rfl, go_of (s := { s with heap := h' }) e c d (by decide) ⟨x, H, I1, ru, ⟨rfl, fun ys hy => by rw [I.tuple_inj hy hq]; exact hx⟩, st', fun b hb => (hf b hb).1⟩⟩
  done := by
    intro X hP hw hK hc i pins s σ H E I hf st hg
    subst hP hw hK
    obtain ⟨xs, hq, hx⟩ := hg
    obtain ⟨its, rv, p, hz⟩ := I.tuple hq
    obtain ⟨f0, f1, f2, f3, f4, f5⟩ := hf it (by simp)
    have hl := rv.length
    exact wpAny_pyNext_tuple_end (I.ok.hd hc) st (show s.heap.IsTuple a its.toArray from p) (by simp; omega) fun h' eb => ⟨rfl, I.turned (t' := s.toks) (fun b o hb e => eb b o hb e) f0 f1 f3 f4 f5⟩
  self := fun _ _ _ _ _ st h => wpAny_pyIter_tupleiter st h
theorem turn_range {P : Program} {w : World} {K : PySem.W.Frag} {tg : Expr} (it : Addr) (lo : Int) (n : Nat) : Turn P w K tg (Itr lo n) [it] it (fun i h => IsRangeIter h it (lo + (i : Nat) * 1) ((n : Int) - (i : Nat)) 1) where
  mem := by simp
  obj := fun i h st b hb => by
    have e : b = it := by simpa using hb
    subst e
    exact ⟨_, st, fun v z => by
      have z' : Data.fields _ = Data.cell v := z
      cases z'⟩
  keep := fun i h h' st k => k it (by simp) _ st
  item := by
    intro X hP hw hK hc i pins s σ H E I hf st hg
    subst hP hw hK
    obtain ⟨f0, f1, f2, f3, f4, f5⟩ := hf it (by simp)
    have W := Walks.range (prog := X.prog) (w := X.w) (I.ok.hd hc) it lo 1 n
    refine W.item i s _ _ hg st fun v h' tk hv st' kk => ?_
    obtain ⟨t, rfl⟩ := hv
    have I1 : Inv X pins σ H { s with heap := h', toks := tk } := I.turned (fun b o hb e => kk b o (by simpa using hb) e) f0 f1 f3 f4 f5
    refine ⟨_, rfl, go_of (s := { s with heap := h', toks := tk }) (n := "range_iterator") st' rfl rfl (by decide) ⟨.int (lo + i), H, I1, ⟨t, ?_⟩, ⟨rfl, rfl⟩, st', fun b hb => (hf b hb).1⟩⟩
    rw [Int.mul_one]
  done := by
    intro X hP hw hK hc i pins s σ H E I hf st hg
    subst hP hw hK
    obtain ⟨f0, f1, f2, f3, f4, f5⟩ := hf it (by simp)
    exact wpAny_pyNext_range_end (I.ok.hd hc) st (by have : n ≤ i := hg; omega) fun h' eb => ⟨rfl, I.turned (t' := s.toks) (fun b o hb e => eb b o hb e) f0 f1 f3 f4 f5⟩
  self := fun _ _ _ _ _ st h => wpAny_pyIter_rangeiter st h
end L2

namespace L2
open PySem PySem.Spec PyProof.Rows
section
variable {X : Cx} {tg : Expr}
inductive iList_ (K : PySem.W.Frag) (R : It → Hp → Prop) (x : V) (H1 : Hp) : Prop where
  | mk (a : _) (h1 : x = .ref a) (h2 : (∃ xs, SqL K H1 a xs)) (h3 : R (Itl K a) H1) : iList_ K R x H1
def iList (K : PySem.W.Frag) (tl : TE) : TI := fun σ H R => tl σ H fun x H1 => iList_ K R x H1
inductive iTup_ (K : PySem.W.Frag) (R : It → Hp → Prop) (x : V) (H1 : Hp) : Prop where
  | mk (a : _) (h1 : x = .ref a) (h2 : (∃ xs, SqT K H1 a xs)) (h3 : R (Itt K a) H1) : iTup_ K R x H1
def iTup (K : PySem.W.Frag) (tl : TE) : TI := fun σ H R => tl σ H fun x H1 => iTup_ K R x H1
theorem pi_list {l : Expr} {tl : TE} (hl : PE X l tl) : PI X tg l (iList X.K tl) := by
  intro pins s σ H R I h
  refine thn (hl pins s σ H _ I h) fun v s1 ⟨x, H1, I1, r1, q1⟩ => ?_
  obtain ⟨a, e, ⟨xs, hq⟩, q⟩ := q1
  subst e
  cases r1
  obtain ⟨its, rv, p, hz⟩ := I1.list hq
  refine wpAny_pyIter_list p.isList ?_
  refine ⟨s1.heap.objs.size, [s1.heap.objs.size], _, _, H1, rfl, I1.kept (t' := s1.toks) fun b o e => Heap.get?_push_of_some _ e, turn_list a _, ⟨_, Heap.get?_push_size _ rfl, rfl, rfl⟩, fun b hb => ?_, q⟩
  have e : b = s1.heap.objs.size := by simpa using hb
  subst e
  exact I1.fpOk (Nat.le_refl _) (I1.hok.fresh (Nat.le_refl _))
theorem pi_tup {l : Expr} {tl : TE} (hl : PE X l tl) : PI X tg l (iTup X.K tl) := by
  intro pins s σ H R I h
  refine thn (hl pins s σ H _ I h) fun v s1 ⟨x, H1, I1, r1, q1⟩ => ?_
  obtain ⟨a, e, ⟨xs, hq⟩, q⟩ := q1
  subst e
  cases r1
  obtain ⟨its, rv, p, hz⟩ := I1.tuple hq
  refine wpAny_pyIter_tuple (show s1.heap.IsTuple a its.toArray from p) ?_
  refine ⟨s1.heap.objs.size, [s1.heap.objs.size], _, _, H1, rfl, I1.kept (t' := s1.toks) fun b o e => Heap.get?_push_of_some _ e, turn_tuple a _, ⟨_, Heap.get?_push_size _ rfl, rfl, rfl⟩, fun b hb => ?_, q⟩
  have e : b = s1.heap.objs.size := by simpa using hb
  subst e
  exact I1.fpOk (Nat.le_refl _) (I1.hok.fresh (Nat.le_refl _))
/-- a range object just made, walked -/
theorem range_it {pins : List (Addr × Obj)} {σ : St} {H : Hp} {s : Shared} {R : It → Hp → Prop} {E : Value → Shared → Prop} {lo hi : Int} {t u v : Tok} {tk : Nat} (I : Inv X pins σ H s) (h1 : -(2 ^ 62) ≤ lo) (h2 : lo < 2 ^ 62) (h3 : -(2 ^ 62) ≤ hi) (h4 : hi < 2 ^ 62)
    (q : R (Itr lo (hi - lo).toNat) H) : wpAny (model X.prog X.w) X.A (pyIter (.ref s.heap.objs.size)) (PIE X pins σ tg R) E { s with heap := s.heap.push { cls := .type "range", data := .fields #[.int lo t, .int hi u, .int 1 v] }, toks := tk } := by
  refine wpAny_pyIter_range (IsRange.new ..) (small_one h1 h2 h3 h4) ?_
  have I1 : Inv X pins σ H { s with heap := s.heap.push { cls := .type "range", data := .fields #[.int lo t, .int hi u, .int 1 v] }, toks := tk } := I.kept fun b o e => Heap.get?_push_of_some _ e
  refine ⟨(s.heap.push { cls := .type "range", data := .fields #[.int lo t, .int hi u, .int 1 v] }).objs.size, [(s.heap.push { cls := .type "range", data := .fields #[.int lo t, .int hi u, .int 1 v] }).objs.size], _, _, H, rfl,
    I1.kept (t' := tk) fun b o e => Heap.get?_push_of_some _ e, turn_range _ lo (hi - lo).toNat, ?_, fun b hb => ?_, q⟩
  · have e1 : lo + ((0 : Nat) : Int) * 1 = lo := by simp
    have e2 : (((hi - lo).toNat : Nat) : Int) - ((0 : Nat) : Int) = Builtin.Range.rangeSize lo hi 1 := by rw [rangeSize_one]; split <;> omega
    show IsRangeIter _ _ (lo + ((0 : Nat) : Int) * 1) ((((hi - lo).toNat : Nat) : Int) - ((0 : Nat) : Int)) 1
    rw [e1, e2]
    exact Heap.get?_push_size _ rfl
  · have e : b = (s.heap.push { cls := .type "range", data := .fields #[.int lo t, .int hi u, .int 1 v] }).objs.size := by simpa using hb
    subst e
    exact I1.fpOk (Nat.le_refl _) (I1.hok.fresh (Nat.le_refl _))
inductive iRng1_ (R : It → Hp → Prop) (vs : List V) (H1 : Hp) : Prop where
  | mk (j : Int) (h1 : vs = [.int j]) (h2 : -(2 ^ 62) ≤ j) (h3 : j < 2 ^ 62) (h4 : R (Itr 0 j.toNat) H1) : iRng1_ R vs H1
def iRng1 (ta : TA) : TI := fun σ H R => ta σ H fun vs H1 => iRng1_ R vs H1
theorem pi_range1 {a : Expr} {ta : TA} {p pos : Pos} (hg : Gl X "range") (hm : X.mg "range" = none) (ha : PA X [a] ta) (hs : starEach [a] X.env = [(false, eval a X.env)] := by rfl) : PI X tg (.Call (.Name "range" p) [a] [] pos) (iRng1 ta) := by
  intro pins s σ H R I h
  refine Call_ (ld_blt I hg hm boot_range (PyProof.Rows.callWith_type1 (thn (ha pos pins s σ H _ I h) fun us s1 ⟨vs, H1, I1, r1, q1⟩ => ?_) hs rfl))
  obtain ⟨j, e, q1, q2, q⟩ := q1
  subst e
  cases r1 with
  | cons r rr =>
    cases rr
    obtain ⟨t, rfl⟩ := r
    exact call_range_1 (range_it I1 (by omega) (by omega) q1 q2 (by simpa using q))
/-! ### for -/
/-- W: the invariant by the turn and a measure; N: what the body is to reach -/
inductive tFor_ (g : TG) (tb : TS) (D : Ends) (σ : St) (J : It) (H1 : Hp) : Prop where
  | mk (W : Nat → Nat → St → Hp → Prop) (h1 : (∃ m, W 0 m σ H1)) (h2 : ∀ i m σ H, W i m σ H →
  (J.stop i H ∧ D.nx σ H) ∨ (J.go i H ∧ ∃ N : St → Hp → Prop, (∀ σ' H', N σ' H' → ∃ m', m' < m ∧ W (i + 1) m' σ' H') ∧ ∀ x H', J.yld i H x H' → g x σ H' fun σ2 H2 => tb { D with nx := N, ct := N, bk := D.nx } σ2 H2)) : tFor_ g tb D σ J H1
def tFor (wi : TI) (g : TG) (tb : TS) : TS := fun D σ H => wi σ H fun J H1 => tFor_ g tb D σ J H1
/-- the records at fp as they stand -/
def pinsAt (fp : List Addr) (h : Heap) : List (Addr × Obj) := fp.filterMap fun b => (h.get? b).map fun o => (b, o)
theorem mem_pinsAt {fp : List Addr} {h : Heap} {b : Addr} {o : Obj} (hb : b ∈ fp) (e : h.get? b = some o) : (b, o) ∈ pinsAt fp h := List.mem_filterMap.mpr ⟨b, hb, by rw [e]; rfl⟩
theorem of_pinsAt {fp : List Addr} {h : Heap} {p : Addr × Obj} (hp : p ∈ pinsAt fp h) : p.1 ∈ fp ∧ h.get? p.1 = some p.2 := by
  obtain ⟨b, hb, e⟩ := List.mem_filterMap.mp hp
  cases q : h.get? b with
  | none => rw [q] at e; cases e
  | some o =>
    rw [q] at e
    have e' : (b, o) = p := Option.some.inj e
    subst e'
    exact ⟨hb, q⟩
theorem Inv.pinned {pins : List (Addr × Obj)} {σ : St} {H : Hp} {s : Shared} {fp : List Addr} (I : Inv X pins σ H s) (hf : ∀ b ∈ fp, FpOk X pins H b) (ho : ∀ b ∈ fp, ∃ o, s.heap.get? b = some o ∧ ∀ v, o.data ≠ .cell v) : Inv X (pins ++ pinsAt fp s.heap) σ H s :=
  I.pins_of fun p hp => (List.mem_append.mp hp).elim (fun z => I.pin p (List.mem_append_right _ z)) fun z => by
    obtain ⟨hb, e⟩ := of_pinsAt z
    obtain ⟨f0, f1, f2, _⟩ := hf p.1 hb
    obtain ⟨o, e', d⟩ := ho p.1 hb
    rw [e] at e'; cases e'
    exact ⟨e, f0, f1, f2, d⟩
theorem Inv.unpinned {pins pl : List (Addr × Obj)} {σ : St} {H : Hp} {s : Shared} (I : Inv X (pins ++ pl) σ H s) : Inv X pins σ H s := I.pins_of fun p hp => I.pin p (List.mem_append_right _ (List.mem_append_left _ hp))
theorem ps_for {iter : Expr} {body : List Stmt} {wi : TI} {g : TG} {tb : TS} {pos : Pos} (hp : PassesOwn (model X.prog X.w) X.A X.env X.xe) (hc : X.calm = true) (hi : PI X tg iter wi) (hg : PG X tg g) (hb : PSs X body tb)
    (hs : ∀ x, foldedSetIterable iter X.env x = pure x := by intro _; rfl) : PS X (.For tg iter body [] pos) (tFor wi g tb) := by
  intro pins s σ H D I h
  refine wpAny_For (thn (hi pins s σ H _ I h) fun v s1 h1 => thn h1 fun itv s2 h2 => ?_) hs
  obtain ⟨it, fp, tn, J, H2, e, I2, T, st2, f2, W, ⟨m0, w0⟩, turn⟩ := h2
  subst e
  -- what stays true of the iterator's objects through the loop
  have stat : ∀ {H' : Hp}, (∀ b ∈ fp, H' b = none) → ∀ b ∈ fp, FpOk X pins H' b := fun hn b hb => ⟨hn b hb, (f2 b hb).2⟩
  refine codeAny_forLoop_any (fun n s' => ∃ i σ' H', Inv X pins σ' H' s' ∧ tn i s'.heap ∧ (∀ b ∈ fp, H' b = none) ∧ W i n σ' H') ?_ m0 ⟨0, σ, H2, I2, st2, fun b hb => (f2 b hb).1, w0⟩
  rintro n s3 ⟨i, σ3, H3, I3, st3, fr3, w3⟩
  rcases turn i n σ3 H3 w3 with ⟨stop, qn⟩ | ⟨go, N, hN, step⟩
  · refine wpAny_passesOwn hp (thn (T.done X rfl rfl rfl hc i pins s3 σ3 H3 X.xe I3 (stat fr3) st3 stop) fun r s4 ⟨hr, I4⟩ => ?_)
    subst hr
    exact wpAny_execs_nil ⟨σ3, H3, I4, qn⟩
  · refine wpAny_passesOwn hp (thn (T.item X rfl rfl rfl hc i pins s3 σ3 H3 X.xe I3 (stat fr3) st3 go) fun r s4 ⟨u, hr, h4⟩ => ?_)
    subst hr
    refine wpAny_passesOwn hp (thn h4 fun _ s5 ⟨x, H5, I5, r5, y5, st5, fr5⟩ => ?_)
    have I5' := I5.pinned (stat fr5) (T.obj _ _ st5)
    refine wpAny_passesOwn hp (thn (hg _ s5 σ3 H5 x u _ I5' r5 (step x H5 y5)) fun _ s6 ⟨σ6, H6, I6, q6⟩ => ?_)
    refine wpAny_passesOwn hp (thn (hb _ s6 σ6 H6 _ I6 q6) fun f s7 q7 => ?_)
    have again : ∀ {σ7 : St} {H7 : Hp}, Inv X (pins ++ pinsAt fp s5.heap) σ7 H7 s7 → N σ7 H7 → ∃ m, m < n ∧ ∃ i σ' H', Inv X pins σ' H' s7 ∧ tn i s7.heap ∧ (∀ b ∈ fp, H' b = none) ∧ W i m σ' H' := fun {σ7 H7} I7 n7 => by
      obtain ⟨m', hm, w7⟩ := hN σ7 H7 n7
      refine ⟨m', hm, i + 1, σ7, H7, I7.unpinned, T.keep _ _ _ st5 fun b hb o e => (I7.pin (b, o) (List.mem_append_right _ (List.mem_append_right _ (mem_pinsAt hb e)))).1, fun b hb => ?_, w7⟩
      obtain ⟨o, e, d⟩ := T.obj _ _ st5 b hb
      exact (I7.pin (b, o) (List.mem_append_right _ (List.mem_append_right _ (mem_pinsAt hb e)))).2.1
    cases f with
    | next => obtain ⟨σ7, H7, I7, n7⟩ := q7; exact again I7 n7
    | cont => obtain ⟨σ7, H7, I7, n7⟩ := q7; exact again I7 n7
    | brk => obtain ⟨σ7, H7, I7, q7⟩ := q7; exact ⟨σ7, H7, I7.unpinned, q7⟩
    | ret v => obtain ⟨x7, σ7, H7, I7, r7, q7⟩ := q7; exact ⟨x7, σ7, H7, I7.unpinned, r7, q7⟩
end

/-! ### the forms one uses -/
/-- over a list that the body leaves as it is -/
theorem for_list {K : PySem.W.Frag} {a : Addr} {xs : List V} {g : TG} {tb : TS} {D : Ends} {σ : St} {H : Hp} (Pv : Nat → St → Hp → Prop) (h0 : Pv 0 σ H) (hl : ∀ i σ H, i ≤ xs.length → Pv i σ H → SqL K H a xs)
    (hs : ∀ i x σ H, xs[i]? = some x → Pv i σ H → g x σ H fun σ2 H2 => tb { D with nx := Pv (i + 1), ct := Pv (i + 1), bk := D.nx } σ2 H2) (hd : ∀ σ H, Pv xs.length σ H → D.nx σ H) :
    tFor_ g tb D σ (Itl K a) H := by
  refine ⟨fun i m σ H => m = xs.length - i ∧ i ≤ xs.length ∧ Pv i σ H, ⟨xs.length, by simp, Nat.zero_le _, h0⟩, ?_⟩
  rintro i m σ H ⟨rfl, hi, p⟩
  have q := hl i σ H hi p
  by_cases hlt : i < xs.length
  · refine .inr ⟨⟨xs, xs[i], q, by simp [hlt]⟩, Pv (i + 1), fun σ' H' p' => ⟨xs.length - (i + 1), by omega, rfl, hlt, p'⟩, fun x H' y => ?_⟩
    obtain ⟨e, y⟩ := y
    subst e
    exact hs i x σ _ (y xs q) p
  · have e : i = xs.length := by omega
    subst e
    exact .inl ⟨⟨xs, q, Nat.le_refl _⟩, hd σ H p⟩
theorem for_tup {K : PySem.W.Frag} {a : Addr} {xs : List V} {g : TG} {tb : TS} {D : Ends} {σ : St} {H : Hp} (Pv : Nat → St → Hp → Prop) (h0 : Pv 0 σ H) (hl : ∀ i σ H, i ≤ xs.length → Pv i σ H → SqT K H a xs)
    (hs : ∀ i x σ H, xs[i]? = some x → Pv i σ H → g x σ H fun σ2 H2 => tb { D with nx := Pv (i + 1), ct := Pv (i + 1), bk := D.nx } σ2 H2) (hd : ∀ σ H, Pv xs.length σ H → D.nx σ H) :
    tFor_ g tb D σ (Itt K a) H := by
  refine ⟨fun i m σ H => m = xs.length - i ∧ i ≤ xs.length ∧ Pv i σ H, ⟨xs.length, by simp, Nat.zero_le _, h0⟩, ?_⟩
  rintro i m σ H ⟨rfl, hi, p⟩
  have q := hl i σ H hi p
  by_cases hlt : i < xs.length
  · refine .inr ⟨⟨xs, xs[i], q, by simp [hlt]⟩, Pv (i + 1), fun σ' H' p' => ⟨xs.length - (i + 1), by omega, rfl, hlt, p'⟩, fun x H' y => ?_⟩
    obtain ⟨e, y⟩ := y
    subst e
    exact hs i x σ _ (y xs q) p
  · have e : i = xs.length := by omega
    subst e
    exact .inl ⟨⟨xs, q, Nat.le_refl _⟩, hd σ H p⟩
theorem for_range {lo : Int} {n : Nat} {g : TG} {tb : TS} {D : Ends} {σ : St} {H : Hp} (Pv : Nat → St → Hp → Prop) (h0 : Pv 0 σ H)
    (hs : ∀ i σ H, i < n → Pv i σ H → g (.int (lo + i)) σ H fun σ2 H2 => tb { D with nx := Pv (i + 1), ct := Pv (i + 1), bk := D.nx } σ2 H2) (hd : ∀ σ H, Pv n σ H → D.nx σ H) :
    tFor_ g tb D σ (Itr lo n) H := by
  refine ⟨fun i m σ H => m = n - i ∧ i ≤ n ∧ Pv i σ H, ⟨n, by simp, Nat.zero_le _, h0⟩, ?_⟩
  rintro i m σ H ⟨rfl, hi, p⟩
  by_cases hlt : i < n
  · refine .inr ⟨hlt, Pv (i + 1), fun σ' H' p' => ⟨n - (i + 1), by omega, rfl, hlt, p'⟩, fun x H' y => ?_⟩
    obtain ⟨e, y⟩ := y
    subst e y
    exact hs i σ _ hlt p
  · have e : i = n := by omega
    subst e
    exact .inl ⟨Nat.le_refl _, hd σ H p⟩
/-- while, by a word and a measure of the state -/
theorem while_by {c : TT} {tb : TS} {D : Ends} {σ : St} {H : Hp} (Pv : St → Hp → Prop) (μ : St → Hp → Nat) (h0 : Pv σ H)
    (hs : ∀ σ H, Pv σ H → c σ H fun b H1 => if b = true then tb { D with nx := fun σ' H' => Pv σ' H' ∧ μ σ' H' < μ σ H, ct := fun σ' H' => Pv σ' H' ∧ μ σ' H' < μ σ H, bk := D.nx } σ H1 else D.nx σ H1)
    (mono : ∀ σ H Q Q', (∀ b H1, Q b H1 → Q' b H1) → c σ H Q → c σ H Q') : tWhile c tb D σ H := by
  refine ⟨fun m σ H => m = μ σ H ∧ Pv σ H, ⟨_, rfl, h0⟩, ?_⟩
  rintro m σ H ⟨rfl, p⟩
  refine mono σ H _ _ (fun b H1 q => ?_) (hs σ H p)
  cases b with
  | true => exact ⟨_, fun σ' H' ⟨p', l⟩ => ⟨_, l, rfl, p'⟩, q⟩
  | false => exact q
end L2

namespace L2
open PySem PySem.Spec PyProof.Rows

abbrev R2 := V → V → Hp → VK → Prop
/-- a two-place operation on values: f is binaryOp op, inplaceOp op or compareOp op -/
def OpR (X : Cx) (f : Value → Value → Sem Value) (r : R2) : Prop :=
  ∀ (pins : List (Addr × Obj)) (s : Shared) (σ : St) (H : Hp) (x y : V) (v u : Value) (Q : VK), Inv X pins σ H s → RelV x v → RelV y u → r x y H Q →
    wpAny (model X.prog X.w) X.A (f v u) (EP X pins σ Q) X.xe s
/-- a call of a value that is known (a builtin, a type) with values -/
def CallR (X : Cx) (f : Value) (r : List V → Hp → VK → Prop) : Prop :=
  ∀ (pins : List (Addr × Obj)) (s : Shared) (σ : St) (H : Hp) (xs : List V) (us : List Value) (Q : VK), Inv X pins σ H s → Vals xs us → r xs H Q →
    wpAny (model X.prog X.w) X.A (call f us) (EP X pins σ Q) X.xe s
def tOp (r : R2) (ta tb : TE) : TE := fun σ H Q => ta σ H fun x H1 => tb σ H1 fun y H2 => r x y H2 Q
/-- ints in, under C, and a value out -/
inductive rI (C : Int → Int → Prop) (g : Int → Int → V) (x : V) (y : V) (H : Hp) (Q : VK) : Prop where
  | mk (i : _) (j : _) (h1 : x = .int i) (h2 : y = .int j) (h3 : C i j) (h4 : Q (g i j) H) : rI C g x y H Q
inductive rI0 (g : Int → Int → V) (x : V) (y : V) (H : Hp) (Q : VK) : Prop where
  | mk (i : _) (j : _) (h1 : x = .int i) (h2 : y = .int j) (h3 : Q (g i j) H) : rI0 g x y H Q
section
variable {X : Cx} {a b c : Expr} {ta tb tc : TE} {pos : Pos}

theorem binT (ha : PE X a ta) (hb : PE X b tb) {pins : List (Addr × Obj)} {s : Shared} {σ : St} {H : Hp} {R : V → V → Hp → Prop} (I : Inv X pins σ H s)
    (h : ta σ H fun x H1 => tb σ H1 fun y H2 => R x y H2) {Q : Value → Shared → Prop} {f : Value → Value → Sem Value}
    (hf : ∀ v u s2 x y H2, Inv X pins σ H2 s2 → RelV x v → RelV y u → R x y H2 → wpAny (model X.prog X.w) X.A (f v u) Q X.xe s2) :
    wpAny (model X.prog X.w) X.A (eval a X.env) (fun v s₁ => wpAny (model X.prog X.w) X.A (eval b X.env) (fun u s₂ => wpAny (model X.prog X.w) X.A (f v u) Q X.xe s₂) X.xe s₁) X.xe s := by
  refine thn (ha pins s σ H _ I h) fun v s1 ⟨x, H1, I1, r1, q1⟩ => ?_
  refine thn (hb pins s1 σ H1 _ I1 q1) fun u s2 ⟨y, H2, I2, r2, q2⟩ => ?_
  exact hf v u s2 x y H2 I2 r1 r2 q2

theorem pe_op {op : Operator} {r : R2} (ho : OpR X (binaryOp op) r) (ha : PE X a ta) (hb : PE X b tb) : PE X (.BinOp a op b pos) (tOp r ta tb) := by
  intro pins s σ H Q I h
  exact wpAny_BinOp (binT ha hb I h fun v u s2 x y H2 I2 rx ry q => ho pins s2 σ H2 x y v u Q I2 rx ry q)
/-! ### ints -/
theorem opI {f : Value → Value → Sem Value} {C : Int → Int → Prop} {g : Int → Int → Int}
    (rule : ∀ (i j : Int) (t u : Tok) (s : Shared) (Q : Value → Shared → Prop) (E : Value → Shared → Prop), C i j → Q (.int (g i j) s.toks) { s with toks := s.toks + 1 } → wpAny (model X.prog X.w) X.A (f (.int i t) (.int j u)) Q E s) :
    OpR X f (rI C fun i j => .int (g i j)) := by
  intro pins s σ H x y v u Q I rx ry h
  obtain ⟨i, j, rfl, rfl, hc, q⟩ := h
  obtain ⟨t, rfl⟩ := rx
  obtain ⟨t', rfl⟩ := ry
  exact rule i j t t' s _ _ hc ⟨.int (g i j), H, I.tok _, ⟨_, rfl⟩, q⟩
theorem opI0 {f : Value → Value → Sem Value} {g : Int → Int → Int}
    (rule : ∀ (i j : Int) (t u : Tok) (s : Shared) (Q : Value → Shared → Prop) (E : Value → Shared → Prop), Q (.int (g i j) s.toks) { s with toks := s.toks + 1 } → wpAny (model X.prog X.w) X.A (f (.int i t) (.int j u)) Q E s) :
    OpR X f (rI0 fun i j => .int (g i j)) := by
  intro pins s σ H x y v u Q I rx ry h
  obtain ⟨i, j, rfl, rfl, q⟩ := h
  obtain ⟨t, rfl⟩ := rx
  obtain ⟨t', rfl⟩ := ry
  exact rule i j t t' s _ _ ⟨.int (g i j), H, I.tok _, ⟨_, rfl⟩, q⟩
theorem opB0 {f : Value → Value → Sem Value} {g : Int → Int → Bool}
    (rule : ∀ (i j : Int) (t u : Tok) (s : Shared) (Q : Value → Shared → Prop) (E : Value → Shared → Prop), Q (.bool (g i j)) s → wpAny (model X.prog X.w) X.A (f (.int i t) (.int j u)) Q E s) :
    OpR X f (rI0 fun i j => .bl (g i j)) := by
  intro pins s σ H x y v u Q I rx ry h
  obtain ⟨i, j, rfl, rfl, q⟩ := h
  obtain ⟨t, rfl⟩ := rx
  obtain ⟨t', rfl⟩ := ry
  exact rule i j t t' s _ _ ⟨.bl (g i j), H, I, rfl, q⟩

def CDiv (i j : Int) : Prop := 0 < j ∧ j < 1073741824
def CMul (i j : Int) : Prop := (-(2 ^ 64) < i ∧ i < 2 ^ 64) ∨ (-(2 ^ 64) < j ∧ j < 2 ^ 64)
theorem CMul.ok {i j : Int} (h : CMul i j) : IntMulOk i j := by
  rcases h with ⟨h1, h2⟩ | ⟨h1, h2⟩
  · exact .of_left (intBits_le_64 h1 h2)
  · exact .of_right (intBits_le_64 h1 h2)
theorem op_add : OpR X (binaryOp .Add) (rI0 fun i j => .int (i + j)) := opI0 fun _ _ _ _ _ _ _ q => add_int q
theorem op_sub : OpR X (binaryOp .Sub) (rI0 fun i j => .int (i - j)) := opI0 fun _ _ _ _ _ _ _ q => sub_int q
theorem op_mul : OpR X (binaryOp .Mult) (rI CMul fun i j => .int (i * j)) := opI fun _ _ _ _ _ _ _ hc q => mul_int q hc.ok
/-- // by a positive divisor -/
theorem op_fdiv : OpR X (binaryOp .FloorDiv) (rI CDiv fun i j => .int (i / j)) := opI fun i j _ _ _ _ _ hc q => by
  have h1 : (0 : Int) < j := hc.1
  have h2 : j < 1073741824 := hc.2
  exact floordiv_int (by omega) (by rw [Int.fdiv_eq_ediv_of_nonneg i (by omega)]; exact q) (.inl (PyProof.noPylong_small (by omega)))
/-- % by a positive divisor of any size -/
theorem op_mod : OpR X (binaryOp .Mod) (rI (fun _ j => 0 < j) fun i j => .int (i % j)) := opI fun i j _ _ _ _ _ hc q => by
  have h1 : (0 : Int) < j := hc
  exact mod_int' (by omega) (by rw [Int.fmod_eq_emod_of_nonneg i (by omega)]; exact q)
/-! ### bools among ints: n += (a < b) -/
end

/-! ### comparisons -/
/-- the scalars that == tells apart as data does -/
def scal : V → V → Bool
  | .non, .non => true | .non, .int _ => true | .int _, .non => true | .non, .bl _ => true | .bl _, .non => true | .non, .str _ => true | .str _, .non => true
  | .int _, .int _ => true | .bl _, .bl _ => true | .str _, .str _ => true | .byt _, .byt _ => true
  | .int _, .str _ => true | .str _, .int _ => true | .bl _, .str _ => true | .str _, .bl _ => true
  | _, _ => false
inductive rEq (x : V) (y : V) (H : Hp) (Q : VK) : Prop where
  | mk (h1 : scal x y = true) (h2 : Q (.bl (decide (x = y))) H) : rEq x y H Q
inductive rNe (x : V) (y : V) (H : Hp) (Q : VK) : Prop where
  | mk (h1 : scal x y = true) (h2 : Q (.bl (!decide (x = y))) H) : rNe x y H Q

theorem dec_int {i j : Int} : decide (V.int i = V.int j) = (i == j) := by
  rw [Bool.eq_iff_iff]
  simp
theorem dec_bl {i j : Bool} : decide (V.bl i = V.bl j) = (i == j) := by
  rw [Bool.eq_iff_iff]
  simp
theorem dec_str {i j : Str} : decide (V.str i = V.str j) = (i == j) := by
  rw [Bool.eq_iff_iff]
  simp
theorem dec_byt {i j : Array UInt8} : decide (V.byt i = V.byt j) = (i.toList == j.toList) := by
  rw [Bool.eq_iff_iff]
  cases i
  cases j
  simp

section
variable {X : Cx} {a b c : Expr} {ta tb tc : TE} {pos : Pos}
theorem fin_bl {pins : List (Addr × Obj)} {σ : St} {H : Hp} {s : Shared} {Q : VK} {k k' : Bool} (I : Inv X pins σ H s) (q : Q (.bl k) H) (e : k = k') : EP X pins σ Q (.bool k') s := by
  subst e
  exact ⟨.bl k, H, I, rfl, q⟩
theorem op_eq : OpR X (compareOp .Eq) rEq := by
  intro pins s σ H x y v u Q I rx ry h
  obtain ⟨hs, q⟩ := h
  cases x with
  | non =>
    cases rx
    cases y with
    | non => cases ry; exact PySem.EqNone.eq_none_none (fin_bl I q (by simp))
    | bl j => cases ry; exact PySem.EqNone.eq_none_bool (fin_bl I q (by simp))
    | int j => obtain ⟨t', rfl⟩ := ry; exact PySem.EqNone.eq_none_int (fin_bl I q (by simp))
    | str j => obtain ⟨t', rfl⟩ := ry; exact PySem.EqNone.eq_none_str (fin_bl I q (by simp))
    | _ => exact absurd (show false = true from hs) Bool.false_ne_true
  | bl i =>
    cases rx
    cases y with
    | non => cases ry; exact PySem.EqNone.eq_bool_none (fin_bl I q (by simp))
    | bl j => cases ry; exact eq_bool (fin_bl I q dec_bl)
    | str j => obtain ⟨t', rfl⟩ := ry; exact PySem.EqMixed.eq_bool_str (fin_bl I q (by simp))
    | _ => exact absurd (show false = true from hs) Bool.false_ne_true
  | int i =>
    obtain ⟨t, rfl⟩ := rx
    cases y with
    | non => cases ry; exact PySem.EqNone.eq_int_none (fin_bl I q (by simp))
    | int j => obtain ⟨t', rfl⟩ := ry; exact eq_int (fin_bl I q dec_int)
    | str j => obtain ⟨t', rfl⟩ := ry; exact PySem.EqMixed.eq_int_str (fin_bl I q (by simp))
    | _ => exact absurd (show false = true from hs) Bool.false_ne_true
  | str i =>
    obtain ⟨t, rfl⟩ := rx
    cases y with
    | non => cases ry; exact PySem.EqNone.eq_str_none (fin_bl I q (by simp))
    | bl j => cases ry; exact PySem.EqMixed.eq_str_bool (fin_bl I q (by simp))
    | int j => obtain ⟨t', rfl⟩ := ry; exact PySem.EqMixed.eq_str_int (fin_bl I q (by simp))
    | str j => obtain ⟨t', rfl⟩ := ry; exact eq_str (fin_bl I q dec_str)
    | _ => exact absurd (show false = true from hs) Bool.false_ne_true
  | byt i =>
    obtain ⟨t, rfl⟩ := rx
    cases y with
    | byt j => obtain ⟨t', rfl⟩ := ry; exact PySem.W.eq_bytes (fin_bl I q dec_byt)
    | _ => exact absurd (show false = true from hs) Bool.false_ne_true
  | _ => cases y <;> exact absurd (show false = true from hs) Bool.false_ne_true
theorem op_ne : OpR X (compareOp .NotEq) rNe := by
  intro pins s σ H x y v u Q I rx ry h
  obtain ⟨hs, q⟩ := h
  cases x with
  | non =>
    cases rx
    cases y with
    | non => cases ry; exact PySem.EqNone.ne_none_none (fin_bl I q (by simp))
    | bl j => cases ry; exact PySem.EqNone.ne_none_bool (fin_bl I q (by simp))
    | int j => obtain ⟨t', rfl⟩ := ry; exact PySem.EqNone.ne_none_int (fin_bl I q (by simp))
    | str j => obtain ⟨t', rfl⟩ := ry; exact PySem.EqNone.ne_none_str (fin_bl I q (by simp))
    | _ => exact absurd (show false = true from hs) Bool.false_ne_true
  | bl i =>
    cases rx
    cases y with
    | non => cases ry; exact PySem.EqNone.ne_bool_none (fin_bl I q (by simp))
    | bl j => cases ry; exact ne_bool (fin_bl I q (congrArg not dec_bl))
    | str j => obtain ⟨t', rfl⟩ := ry; exact PySem.EqMixed.ne_bool_str (fin_bl I q (by simp))
    | _ => exact absurd (show false = true from hs) Bool.false_ne_true
  | int i =>
    obtain ⟨t, rfl⟩ := rx
    cases y with
    | non => cases ry; exact PySem.EqNone.ne_int_none (fin_bl I q (by simp))
    | int j => obtain ⟨t', rfl⟩ := ry; exact ne_int (fin_bl I q (congrArg not dec_int))
    | str j => obtain ⟨t', rfl⟩ := ry; exact PySem.EqMixed.ne_int_str (fin_bl I q (by simp))
    | _ => exact absurd (show false = true from hs) Bool.false_ne_true
  | str i =>
    obtain ⟨t, rfl⟩ := rx
    cases y with
    | non => cases ry; exact PySem.EqNone.ne_str_none (fin_bl I q (by simp))
    | bl j => cases ry; exact PySem.EqMixed.ne_str_bool (fin_bl I q (by simp))
    | int j => obtain ⟨t', rfl⟩ := ry; exact PySem.EqMixed.ne_str_int (fin_bl I q (by simp))
    | str j => obtain ⟨t', rfl⟩ := ry; exact ne_str (fin_bl I q (congrArg not dec_str))
    | _ => exact absurd (show false = true from hs) Bool.false_ne_true
  | byt i =>
    obtain ⟨t, rfl⟩ := rx
    cases y with
    | byt j => obtain ⟨t', rfl⟩ := ry; exact PySem.W.ne_bytes (fin_bl I q (congrArg not dec_byt))
    | _ => exact absurd (show false = true from hs) Bool.false_ne_true
  | _ => cases y <;> exact absurd (show false = true from hs) Bool.false_ne_true

theorem op_lt : OpR X (compareOp .Lt) (rI0 fun i j => .bl (decide (i < j))) := opB0 fun _ _ _ _ _ _ _ q => lt_int q
theorem op_le : OpR X (compareOp .LtE) (rI0 fun i j => .bl (decide (i ≤ j))) := opB0 fun _ _ _ _ _ _ _ q => le_int q
theorem op_gt : OpR X (compareOp .Gt) (rI0 fun i j => .bl (decide (j < i))) := opB0 fun _ _ _ _ _ _ _ q => gt_int q
theorem op_ge : OpR X (compareOp .GtE) (rI0 fun i j => .bl (decide (j ≤ i))) := opB0 fun _ _ _ _ _ _ _ q => ge_int q
/-- the one string within the other -/
theorem op_in_str : OpR X (compareOp .In) (fun x y H Q => ∃ i j, x = .str i ∧ y = .str j ∧ Q (.bl (!(Builtin.Str.occurrences j i 0 j.length 1).isEmpty)) H) := by
  intro pins s σ H x y v u Q I rx ry h
  obtain ⟨i, j, rfl, rfl, q⟩ := h
  obtain ⟨t, rfl⟩ := rx
  obtain ⟨t', rfl⟩ := ry
  exact in_str (fin_bl I q rfl)

theorem nomark (b : Expr) {op : CmpOp} (h : op ≠ .In := by decide) (h2 : op ≠ .NotIn := by decide) : behindInMarks op b = false := by
  have e1 : (op == CmpOp.In) = false := by cases op <;> first | rfl | exact absurd rfl h
  have e2 : (op == CmpOp.NotIn) = false := by cases op <;> first | rfl | exact absurd rfl h2
  cases b <;> simp [behindInMarks, e1, e2]
/-- a comparison as a value; hm: nomark b, or (for in, not in) by with_unfolding_all rfl -/
theorem pe_cmpR {op : CmpOp} {r : R2} (ho : OpR X (compareOp op) r) (ha : PE X a ta) (hb : PE X b tb) (hm : behindInMarks op b = false) : PE X (.Compare a [op] [b] pos) (tOp r ta tb) := by
  intro pins s σ H Q I h
  exact wpAny_Compare1 (binT ha hb I h fun v u s2 x y H2 I2 rx ry q => ho pins s2 σ H2 x y v u Q I2 rx ry q) hm
/-- a reading of a value as a test -/
inductive tTest_ (Q : Bool → Hp → Prop) (x : V) (H' : Hp) : Prop where
  | mk (k : _) (h1 : x = .bl k) (h2 : Q k H') : tTest_ Q x H'
def tTest (t : TE) : TT := fun σ H Q => t σ H fun x H' => tTest_ Q x H'
theorem pt_cmpR {op : CmpOp} {r : R2} (ho : OpR X (compareOp op) r) (ha : PE X a ta) (hb : PE X b tb) (hm : behindInMarks op b = false) : PT X (.Compare a [op] [b] pos) (tTest (tOp r ta tb)) := by
  intro pins s σ H Q I h
  refine wpAny_isTrue_Compare1 (thn (ha pins s σ H _ I h) fun v s1 ⟨x, H1, I1, r1, q1⟩ => thn (hb pins s1 σ H1 _ I1 q1) fun u s2 ⟨y, H2, I2, r2, q2⟩ =>
    thn (ho pins s2 σ H2 x y v u _ I2 r1 r2 q2) fun c s3 ⟨z, H3, I3, r3, k, e, q3⟩ => ?_) hm
  subst e
  cases r3
  exact wpAny_truthy_bool ⟨H3, I3, q3⟩
/-- a op1 b op2 c -/
def tChain (r r' : R2) (ta tb tc : TE) : TE := fun σ H Q => ta σ H fun x H1 => tb σ H1 fun y H2 => r x y H2 fun z H3 => ∃ k, z = .bl k ∧
  (if k = true then tc σ H3 fun w' H4 => r' y w' H4 Q else Q (.bl false) H3)
theorem pe_chain {op op' : CmpOp} {r r' : R2} (ho : OpR X (compareOp op) r) (ho' : OpR X (compareOp op') r') (ha : PE X a ta) (hb : PE X b tb) (hc : PE X c tc)
    (hm : lastMarks [op, op'] [b, c] = false := by with_unfolding_all rfl) : PE X (.Compare a [op, op'] [b, c] pos) (tChain r r' ta tb tc) := by
  intro pins s σ H Q I h
  refine Compare_chain (thn (ha pins s σ H _ I h) fun v s1 ⟨x, H1, I1, r1, q1⟩ => chain_link (thn (hb pins s1 σ H1 _ I1 q1) fun u s2 ⟨y, H2, I2, r2, q2⟩ =>
    thn (ho pins s2 σ H2 x y v u _ I2 r1 r2 q2) fun d s3 ⟨z, H3, I3, r3, k, e, q3⟩ => ?_)) hm
  subst e
  cases r3
  refine wpAny_truthy_bool ?_
  cases k with
  | false => exact ite_ff ⟨.bl false, H3, I3, rfl, q3⟩
  | true => exact ite_tt (chain_last (thn (hc pins s3 σ H3 _ I3 q3) fun w' s4 ⟨z', H4, I4, r4, q4⟩ => ho' pins s4 σ H4 y z' u w' Q I4 r2 r4 q4))
/-! ### truth -/
theorem line63 : (sizeLine : Nat) < 2 ^ 63 := by rw [sizeLine_eq]; decide
/-! ### strs and bytes -/
theorem op_add_str : OpR X (binaryOp .Add) (fun x y H Q => ∃ i j, x = .str i ∧ y = .str j ∧ i.length + j.length ≤ sizeLine ∧ Q (.str (i ++ j)) H) := by
  intro pins s σ H x y v u Q I rx ry h
  obtain ⟨i, j, rfl, rfl, hz, q⟩ := h
  obtain ⟨t, rfl⟩ := rx
  obtain ⟨t', rfl⟩ := ry
  exact add_str (fun t' tk => ⟨.str (i ++ j), H, I.tok _, ⟨_, rfl⟩, q⟩) hz
/-! ### scalar builtins, by CallR -/
theorem vals1 {x : V} {us : List Value} (r : Vals [x] us) : ∃ u, us = [u] ∧ RelV x u := by
  cases r with
  | cons r1 r2 => cases r2; exact ⟨_, rfl, r1⟩
theorem vals2 {x y : V} {us : List Value} (r : Vals [x, y] us) : ∃ u w', us = [u, w'] ∧ RelV x u ∧ RelV y w' := by
  cases r with
  | cons r1 r2 =>
    cases r2 with
    | cons r3 r4 => cases r4; exact ⟨_, _, rfl, r1, r3⟩
theorem call_min2 (hc : X.calm = true) : CallR X (.builtin "min") (fun xs H Q => ∃ i j, xs = [.int i, .int j] ∧ Q (.int (if j < i then j else i)) H) := by
  intro pins s σ H xs us Q I r h
  obtain ⟨i, j, rfl, q⟩ := h
  obtain ⟨u, w', rfl, ⟨t, rfl⟩, ⟨t', rfl⟩⟩ := vals2 r
  refine min_two_ints (I.ok.hd hc) fun h' tk k => ⟨_, H, I.kept k, ?_, q⟩
  by_cases hj : j < i
  · rw [if_pos hj, if_pos hj]; exact ⟨_, rfl⟩
  · rw [if_neg hj, if_neg hj]; exact ⟨_, rfl⟩
theorem call_int1 : CallR X (.type "int") (fun xs H Q => (∃ i, xs = [.int i] ∧ Q (.int i) H) ∨ ∃ k, xs = [.bl k] ∧ Q (.int (if k then 1 else 0)) H) := by
  intro pins s σ H xs us Q I r h
  rcases h with ⟨i, rfl, q⟩ | ⟨k, rfl, q⟩
  · obtain ⟨u, rfl, t, rfl⟩ := vals1 r
    exact call_int_int ⟨.int i, H, I, ⟨_, rfl⟩, q⟩
  · obtain ⟨u, rfl, r1⟩ := vals1 r
    cases r1
    exact call_int_bool ⟨.int (if k then 1 else 0), H, I.tok _, ⟨_, rfl⟩, q⟩
theorem call_str_int : CallR X (.type "str") (fun xs H Q => ∃ i, xs = [.int i] ∧ i.natAbs.log2 < 1920 ∧ Q (.str (toString i)) H) := by
  intro pins s σ H xs us Q I r h
  obtain ⟨i, rfl, hz, q⟩ := h
  obtain ⟨u, rfl, t, rfl⟩ := vals1 r
  exact PySem.P.str_of_int hz ⟨.str _, H, I.tok _, ⟨_, rfl⟩, q⟩
end
end L2

namespace L2
open PySem PySem.Spec PyProof.Rows

/-! ### an instance, its attributes a map -/
structure ObjM (h : Heap) (x dx C : Addr) (mA : Str → Option Value) : Prop where
  obj : h.get? x = some (PySem.W.instObj C dx)
  ns : h.Ns1 dx mA
  ne : dx ≠ x

theorem lookIn_ns {h : Heap} {dx : Addr} {mA : Str → Option Value} (n : h.Ns1 dx mA) : ∃ od, h.get? dx = some od ∧ ∀ name, PySem.W.lookIn name od = some (mA name) := by
  obtain ⟨o, es, ep, ho, hd, hk, _, hm⟩ := n
  refine ⟨o, ho, fun name => ?_⟩
  have e := hm name
  unfold nsFind findBy at e
  rw [← Array.find?_toList] at e
  unfold PySem.W.lookIn
  rw [hd]
  dsimp only
  split
  · rename_i y q
    rw [q] at e
    exact congrArg some e
  · rename_i q
    rw [q] at e
    have a : es.toList.any (·.refKey) = false := by
      rw [List.any_eq_false]
      intro y hy
      obtain ⟨z, t, hkey⟩ := hk y (Array.mem_toList_iff.mp hy)
      simp [DictEntry.refKey, hkey]
    have a' : ¬ es.toList.any (·.refKey) = true := by rw [a]; exact Bool.false_ne_true
    rw [if_neg a']
    exact congrArg some e

theorem ObjM.look {h : Heap} {x dx C : Addr} {mA : Str → Option Value} (I : ObjM h x dx C mA) : ∃ od, PySem.W.InstAt h x (PySem.W.instObj C dx) C (some od) ∧ ∀ name, PySem.W.lookIn name od = some (mA name) :=
  let ⟨od, ho, hl⟩ := lookIn_ns I.ns
  ⟨od, ⟨I.obj, rfl, rfl, ho⟩, hl⟩

section
variable {prog : Program} {w : World} {A : Around} {E : Value → Shared → Prop} {s : Shared} {K : PySem.W.Frag} {x dx C f : Addr} {mA : Str → Option Value} {name : Str} {v : Value}

end

/-! ### the attributes as a list of pairs -/
section
variable {P : Program} {w : World} {H H' : Hp} {h h' : Heap} {a C dx : Addr} {fs fs' : List (Str × V)}
theorem ins_get (hok : HOk P w H h) (e : H a = some (.ins C dx fs)) : ∃ mA, ObjM h a dx C mA ∧ (∀ f, RelO (fs.lookup f) (mA f)) ∧ PySem.Within mA (fs.map (·.1)) ∧ fs.length ≤ 1000 ∧ H dx = some (.own a) := by
  obtain ⟨d, z, ne, ob, mA, n, r, q⟩ := (show ObjOk P w H h a (.ins C dx fs) from hok a _ e)
  exact ⟨mA, ⟨ob, n, ne⟩, r, q, z, d⟩
end

/-! ### what of the text a class must have -/
structure Cls (K : PySem.W.Frag) (C : Addr) : Prop where
  pg : PySem.W.plainGet K C Str.empty = true
  hd : PySem.W.hasDictIn K C = true
  po : PySem.W.plainOver K C = true
  sa : PySem.W.findIn K (.ref C) "__setattr__" = some (some (.builtin "object.__setattr__"))
theorem Cls.get {K : PySem.W.Frag} {C : Addr} (c : Cls K C) (f : Str) : PySem.W.plainGet K C f = true := c.pg
section
variable {X : Cx} {pins : List (Addr × Obj)} {σ : St} {H : Hp} {s : Shared} {a C dx : Addr} {fs : List (Str × V)} {f : Str} {v : V} {A : Around} {E : Value → Shared → Prop}

end

/-! ### readings and rules -/
section
variable {X : Cx} {o e value : Expr} {f : Str} {pos pos' tpos : Pos} {ta tv : TE}
end

/-! ### isinstance -/
section
variable {X : Cx} {pins : List (Addr × Obj)} {σ : St} {H : Hp} {s : Shared} {A : Around} {E : Value → Shared → Prop} {Q : Value → Shared → Prop} {c : Value} {b : Bool}
/-- the type of a value, as the fragment's deciders take it; for an instance its class -/
inductive TyOf (K : PySem.W.Frag) (H : Hp) : V → Value → Prop where
  | non : TyOf K H .non (.type "NoneType")
  | bl (x : Bool) : TyOf K H (.bl x) (.type "bool")
  | int (i : Int) : TyOf K H (.int i) (.type "int")
  | str (x : Str) : TyOf K H (.str x) (.type "str")
  | flt (x : UInt64) : TyOf K H (.flt x) (.type "float")
  | lst {a : Addr} {xs : List V} (e : H a = some (.lst xs)) : TyOf K H (.ref a) (.type "list")
  | frz {a : Addr} {o : Obj} {xs : List V} (e : H a = some (.frz o (.lst xs))) : TyOf K H (.ref a) (.type "list")
  | tup {a : Addr} {xs : List V} (e : H a = some (.tup xs)) : TyOf K H (.ref a) (.type "tuple")
  | dK {a : Addr} {kvs : List (Key × V)} (e : H a = some (.dK kvs)) : TyOf K H (.ref a) (.type "dict")
  | dT {a : Addr} {kvs : List (List Key × V)} (e : H a = some (.dT kvs)) : TyOf K H (.ref a) (.type "dict")
  | ins {a C dx : Addr} {fs : List (Str × V)} (e : H a = some (.ins C dx fs)) (cl : Cls K C) (ha : PySem.W.findIn K (.ref C) "__class__" = some (some (.builtin "object.__class__")))
      (hn : PySem.W.specialIn K (.builtin "object.__class__") "__get__" = some (some (.builtin "getset_descriptor.__get__"))) (htk : PySem.W.takesIn K (.builtin "object.__class__") = some true)
      (hm : PySem.W.mroIn K C (.type "object") = some true) : TyOf K H (.ref a) (.ref C)
/-- isinstance(x, c) for one class c, a built-in or an own one: kitOne's answer -/
theorem isinst_ok {x : V} {u t : Value} (I : Inv X pins σ H s) (rx : RelV x u) (ty : TyOf X.K H x t) (e : PySem.W.kitOne X.K t c = some b) (h : ∀ tk, Q (.bool b) { s with toks := tk }) :
    wpAny (model X.prog X.w) A (call (.builtin "isinstance") [u, c]) Q E s := by
  cases ty with
  | non => cases (show u = Value.none from rx); exact PySem.W.kia_one PySem.W.kitx_none I.kIn True.intro e (fun z => nomatch z) h
  | bl y => cases (show u = Value.bool y from rx); exact PySem.W.kia_one PySem.W.kitx_bool I.kIn True.intro e (fun z => nomatch z) h
  | int i => obtain ⟨t, q⟩ := (show ∃ t, u = Value.int i t from rx); cases q; exact PySem.W.kia_one PySem.W.kitx_int I.kIn True.intro e (fun z => nomatch z) h
  | str y => obtain ⟨t, q⟩ := (show ∃ t, u = Value.str y t from rx); cases q; exact PySem.W.kia_one PySem.W.kitx_str I.kIn True.intro e (fun z => nomatch z) h
  | flt y => obtain ⟨t, q⟩ := (show ∃ t, u = Value.float y t from rx); cases q; exact PySem.W.kia_one PySem.W.kitx_float I.kIn True.intro e (fun z => nomatch z) h
  | @lst a xs ea =>
    cases (show u = Value.ref a from rx)
    obtain ⟨_, _, n, _, h1⟩ := (show ObjOk X.prog X.w H s.heap a (.lst xs) from I.hok a _ ea)
    exact PySem.W.kia_one PySem.W.kitx_list I.kIn ⟨_, h1, rfl⟩ e (fun z => nomatch z) h
  | @frz a ob xs ea =>
    cases (show u = Value.ref a from rx)
    obtain ⟨_, _, _, n, _, h1⟩ := (show ObjOk X.prog X.w H s.heap a (.frz ob (.lst xs)) from I.hok a _ ea)
    exact PySem.W.kia_one PySem.W.kitx_list I.kIn ⟨_, h1, rfl⟩ e (fun z => nomatch z) h
  | @tup a xs ea =>
    cases (show u = Value.ref a from rx)
    obtain ⟨_, _, _, p⟩ := (show ObjOk X.prog X.w H s.heap a (.tup xs) from I.hok a _ ea)
    obtain ⟨o, h1, h2, _⟩ := p
    exact PySem.W.kia_one PySem.W.kitx_tuple I.kIn ⟨o, h1, h2⟩ e (fun z => nomatch z) h
  | @dK a kvs ea =>
    cases (show u = Value.ref a from rx)
    obtain ⟨_, _, vs, _, p⟩ := (show ObjOk X.prog X.w H s.heap a (.dK kvs) from I.hok a _ ea)
    obtain ⟨o, es, ep, h1, h2, _⟩ := p
    exact PySem.W.kia_one PySem.W.kitx_dict I.kIn ⟨o, h1, h2.1⟩ e (fun z => nomatch z) h
  | @dT a kvs ea =>
    cases (show u = Value.ref a from rx)
    obtain ⟨_, _, xs, _, o, es, ep, h1, h2, _⟩ := (show ObjOk X.prog X.w H s.heap a (.dT kvs) from I.hok a _ ea)
    exact PySem.W.kia_one PySem.W.kitx_dict I.kIn ⟨o, h1, h2.1⟩ e (fun z => nomatch z) h
  | @ins a C dx fs ea cl ha hn htk hm =>
    cases (show u = Value.ref a from rx)
    obtain ⟨mA, O, _⟩ := ins_get I.hok ea
    obtain ⟨od, J, _⟩ := O.look
    exact PySem.W.kia_one (PySem.W.kitx_own (cl.get _) cl.hd ha hn htk hm) I.kIn J e (fun z => nomatch z) h
end
end L2

namespace L2
open PySem PySem.Spec PyProof.Rows

/-! ### room -/
structure Room (k : Nat) (A : Around) : Prop where
  hd : A.handled = none
  dp : A.depth + 3 * k + 5 < recursionLimit
  un : A.units + 16 * k + 200 < cLine
theorem Room.mono {j k : Nat} {A : Around} (r : Room k A) (h : j ≤ k) : Room j A := ⟨r.hd, by have := r.dp; omega, by have := r.un; omega⟩
theorem Room.deeper {k : Nat} {A : Around} (r : Room (k + 1) A) (env : Env) : Room k (A.deeper env) :=
  ⟨r.hd, by have := r.dp; show A.depth + 1 + 3 * k + 5 < _; omega, by have := r.un; show A.units + 3 + 16 * k + 200 < _; omega⟩
theorem Room.depth {k : Nat} {A : Around} (r : Room k A) : A.depth < recursionLimit := by have := r.dp; omega
theorem Room.units {k : Nat} {A : Around} (r : Room k A) : A.units + 64 < cLine := by have := r.un; omega
/-! ### argument lists and displays -/
def tNil : TA := fun _ H Q => Q [] H
def tCons (ta : TE) (tr : TA) : TA := fun σ H Q => ta σ H fun x H1 => tr σ H1 fun xs H2 => Q (x :: xs) H2
section
variable {X : Cx} {e : Expr} {es : List Expr} {te : TE} {t : TA} {pos : Pos}
theorem pa_nil : PA X [] tNil := fun _ _ _ _ H Q I h => Calls.spliced_nil ⟨[], H, I, .nil, h⟩
theorem pa_cons (ha : PE X e te) (hr : PA X es t) (hs : starEach (e :: es) X.env = (false, eval e X.env) :: starEach es X.env := by rfl) : PA X (e :: es) (tCons te t) := by
  intro pos pins s σ H Q I h
  rw [hs]
  show wpAny _ _ (spliced ((false, eval e X.env) :: backTo pos (starEach es X.env))) _ _ s
  refine Calls.spliced_cons (thn (ha pins s σ H _ I h) fun u s1 ⟨x, H1, I1, r1, q1⟩ => ?_)
  exact thn (hr pos pins s1 σ H1 _ I1 q1) fun us s2 ⟨xs, H2, I2, r2, q2⟩ => ⟨x :: xs, H2, I2, .cons r1 r2, q2⟩

/-- a tuple, a list of written items -/
inductive tTup_ (Q : VK) (xs : List V) (H1 : Hp) : Prop where
  | mk (h1 : xs.length ≤ sizeLine) (h2 : ∀ p, H1 p = none → Q (.ref p) (upd H1 p (.tup xs))) : tTup_ Q xs H1
def tTup (t : TA) : TE := fun σ H Q => t σ H fun xs H1 => tTup_ Q xs H1
inductive tLst_ (Q : VK) (xs : List V) (H1 : Hp) : Prop where
  | mk (h1 : xs.length ≤ sizeLine) (h2 : ∀ p, H1 p = none → Q (.ref p) (upd H1 p (.lst xs))) : tLst_ Q xs H1
def tLst (t : TA) : TE := fun σ H Q => t σ H fun xs H1 => tLst_ Q xs H1
theorem pe_tup {x1} (h : PA X es t) : PE X (.Tuple es x1 pos) (tTup t) := by
  intro pins s σ H Q I hq
  refine wpAny_Tuple_spliced (thn (h pos pins s σ H _ I hq) fun us s1 ⟨xs, H1, I1, r, z, q⟩ => ⟨by rw [← r.length]; exact z, ?_⟩)
  have hf : H1 s1.heap.objs.size = none := I1.hok.fresh (Nat.le_refl _)
  refine ⟨.ref s1.heap.objs.size, upd H1 s1.heap.objs.size (.tup xs), I1.laid (t' := s1.toks) (fun b u e => Heap.get?_push_of_some _ e) (Nat.le_refl _) ?_, rfl, q _ hf⟩
  exact ⟨z, us, r, ⟨_, Heap.get?_push_size _ rfl, rfl, _, rfl⟩⟩
theorem pe_lst (h : PA X es t) : PE X (.List es pos) (tLst t) := by
  intro pins s σ H Q I hq
  refine wpAny_List_spliced (thn (h pos pins s σ H _ I hq) fun us s1 ⟨xs, H1, I1, r, z, q⟩ => ⟨by rw [← r.length]; exact z, ?_⟩)
  have hf : H1 s1.heap.objs.size = none := I1.hok.fresh (Nat.le_refl _)
  refine ⟨.ref s1.heap.objs.size, upd H1 s1.heap.objs.size (.lst xs), I1.laid (t' := s1.toks) (fun b u e => Heap.get?_push_of_some _ e) (Nat.le_refl _) ?_, rfl, q _ hf⟩
  exact ⟨z, us, 0, r, Heap.get?_push_size _ rfl⟩
end

/-! ### what a def promises -/
/-- a def's promise: the bound arguments in the parameters' order, the heap, the wanted end, the wanted exception -/
abbrev Sp := List V → Hp → VK → XK → Prop
/-- how an exception lies behind a call (file 08 gives it): the callers' frames, abstract heap and state ahead of the call, the wish, the exception, the state -/
abbrev CXT := List Env → Hp → Shared → XK → Value → Shared → Prop

/-- the state at a call -/
structure Env0 (P : Program) (w : World) (K : PySem.W.Frag) (mg : Str → Option Value) (base : Heap) (A : Around) (outer : List Env) (s : Shared) (H : Hp) : Prop where
  frames : A.frames = some outer
  mod : Mod K mg base
  bs : ∀ b o, base.get? b = some o → s.heap.get? b = some o ∧ H b = none
  bsz : base.objs.size ≤ s.heap.objs.size
  funs : s.heap.FunFrames base outer
  frf : ∀ b ∈ frs outer, H b = none
  hok : HOk P w H s.heap
  bare : AllBare s.gens
/-- a call's end -/
def CE (outer : List Env) (P : Program) (w : World) (H : Hp) (s : Shared) (Q : VK) (u : Value) (s' : Shared) : Prop :=
  ∃ v H', s'.os = s.os ∧ AllBare s'.gens ∧ Un (frs outer) [] H H' s.heap s'.heap ∧ HOk P w H' s'.heap ∧ RelV v u ∧ Q v H'
def CR (CX : CXT) (outer : List Env) (P : Program) (w : World) (H : Hp) (s : Shared) (Q : VK) (E : XK) (r : Result) (s' : Shared) : Prop :=
  match r with
  | .ok (.ret u) => CE outer P w H s Q u s'
  | .ok _ => False
  | .error e => CX outer H s E e s'
structure FnOk (P : Program) (w : World) (K : PySem.W.Frag) (mg : Str → Option Value) (base : Heap) (CX : CXT) (k : Nat) (f : Addr) (fd : FuncData) (ps : List Str) (sp : Sp) : Prop where
  len : ∀ vs H Q E, sp vs H Q E → vs.length = ps.length
  run : ∀ (A : Around) (outer : List Env) (s : Shared) (H : Hp) (args : Args) (us : List Value) (vs : List V) (Q : VK) (E : XK), Room k A → Env0 P w K mg base A outer s H → BindsTo s fd args (ps.zip us) → Vals vs us → sp vs H Q E →
    codeAny (model P w) A (.call (.ref f) args) (CR CX outer P w H s Q E) s
section
variable {X : Cx} {pins : List (Addr × Obj)} {σ : St} {H : Hp} {s s' : Shared}
/-- from a body: what a callee wants -/
theorem Inv.env0 (I : Inv X pins σ H s) : Env0 X.prog X.w X.K X.mg X.base X.A X.stack s H :=
  ⟨I.ok.frames, I.ok.mod, I.bs, Nat.le_trans I.ok.bsz I.sz, I.stack, I.stkFree, I.hok, I.bare⟩
/-- behind a call -/
theorem Inv.after {Q : VK} {u : Value} (I : Inv X pins σ H s) (h : CE X.stack X.prog X.w H s Q u s') : EP X pins σ Q u s' := by
  obtain ⟨v, H', os, bare, un, hok, r, q⟩ := h
  obtain ⟨hh, g, d, t, os'⟩ := s'
  obtain rfl : os' = s.os := os
  exact ⟨v, H', I.call (h' := hh) (g' := g) (d' := d) (t' := t) (ch := []) un hok bare (fun b z => absurd z (by simp)), r, q⟩
end

/-! ### calls -/
/-- f(..): the written arguments, then the defaults dvs; E: what is wanted of an exception -/
def tCall (sp : Sp) (dvs : List V) (E : XK) (t : TA) : TE := fun σ H Q => t σ H fun vs H1 => sp (vs ++ dvs) H1 Q E
/-- how the parameters are bound: us the positional arguments, kw the keywords' values by name, ds the defaults that fill up -/
def Binds (K : PySem.W.Frag) (fd : FuncData) (ps : List Str) (ds : List Value) : Prop :=
  ∀ (s : Shared) (us : List Value), K.In s.heap → (us ++ ds).length = ps.length → BindsTo s fd ⟨us, []⟩ (ps.zip (us ++ ds))
/-- every parameter is given -/
theorem Binds.all {K : PySem.W.Frag} {fd : FuncData} {ps : List Str} (h : ∀ us : List Value, us.length = ps.length → bindArgs fd ⟨us, []⟩ = pure (ps.zip us)) : Binds K fd ps [] := fun s us _ hl => by
  rw [List.append_nil] at hl ⊢
  exact .of_eq (h us hl)

/-- an exception of a callee reaches what this body wants of exceptions -/
def Passes (CX : CXT) (X : Cx) (E : XK) : Prop := ∀ (pins : List (Addr × Obj)) (σ : St) (H : Hp) (s : Shared) (e : Value) (s' : Shared), Inv X pins σ H s → CX X.stack H s E e s' → X.xe e s'

section
variable {X : Cx} {CX : CXT} {k : Nat} {f C : Addr} {fd : FuncData} {ps : List Str} {sp : Sp} {dvs : List V} {ds : List Value} {E : XK} {x m : Str} {p pos apos : Pos} {e o : Expr} {es : List Expr} {ta : TE} {t : TA}

/-- the callee runs -/
theorem run_fn {pins : List (Addr × Obj)} {σ : St} {H : Hp} {s : Shared} {Q : VK} {us : List Value} {vs : List V} (F : FnOk X.prog X.w X.K X.mg X.base CX k f fd ps sp) (hr : Room k X.A) (hb : Binds X.K fd ps ds) (hd : Vals dvs ds) (hx : Passes CX X E)
    (I : Inv X pins σ H s) (r : Vals vs us) (h : sp (vs ++ dvs) H Q E) : wpAny (model X.prog X.w) X.A (call (.ref f) us) (EP X pins σ Q) X.xe s := by
  have r2 : Vals (vs ++ dvs) (us ++ ds) := r.append hd
  have hl : (us ++ ds).length = ps.length := by rw [← r2.length]; exact F.len _ _ _ _ h
  refine wpAny_call (codeAny_mono (F.run X.A X.stack s H ⟨us, []⟩ (us ++ ds) (vs ++ dvs) Q E hr I.env0 (hb s us I.kIn hl) r2 h) fun r s' hq => ?_)
  cases r with
  | error e => exact hx pins σ H s e s' I hq
  | ok fl =>
    cases fl with
    | ret u => exact I.after hq
    | next => exact False.elim hq
    | brk => exact False.elim hq
    | cont => exact False.elim hq

theorem pe_call (F : FnOk X.prog X.w X.K X.mg X.base CX k f fd ps sp) (hr : Room k X.A) (hg : Gl X x) (hm : X.mg x = some (.ref f)) (hk : PySem.W.keepIn X.K (.ref f) = true) (hb : Binds X.K fd ps ds) (hd : Vals dvs ds) (hx : Passes CX X E)
    (ha : PA X (e :: es) t) (hdb : (x == ("__debug__" : Str)) = false := by decide) (he : starEach (e :: es) X.env = (false, eval e X.env) :: starEach es X.env := by rfl) (hpl : (backTo pos (starEach es X.env)).any (·.1) = false := by rfl) :
    PE X (.Call (.Name x p) (e :: es) [] pos) (tCall sp dvs E t) := by
  intro pins s σ H Q I h
  refine wpAny_Call_Name_kw (ld_glob I hg hm ?_ hdb)
  refine PySem.W.callWith_K (h₀ := X.base) I.ok.mod.kin hk (thn (ha pos pins s σ H _ I h) fun us s1 ⟨vs, H1, I1, r, q⟩ => ⟨I1.kIn, ?_⟩) he hpl
  exact run_fn F hr hb hd hx I1 r q
end

/-! ### keywords -/
section
variable {X : Cx} {CX : CXT} {k : Nat} {f C : Addr} {fd : FuncData} {ps ks : List Str} {sp : Sp} {E : XK} {x m : Str} {p pos apos kpos : Pos} {e o : Expr} {es : List Expr} {kws : List Keyword} {te ta : TE} {t tk : TA} {nm : Option Str}
variable {g : List Value → List Value → List Value} {gV : List V → List V → List V}
end

/-! ### a def's body keeps its promise -/
/-- names: the parameters first -/
structure FnScope (N P : List Str) (sc : Scope) : Prop where
  kind : sc.kind = .function
  co : sc.isCoroutine = false
  gen : sc.isGenerator = false
  nd : N.Nodup
  pre : N.take P.length = P
  par : ∀ x ∈ P, sc.names.lookup x = some .local ∨ sc.names.lookup x = some .cell
  nofree : ∀ y ∈ sc.names, y.2 ≠ .free

theorem bindL_out {kindOf : Str → Option NameKind} {x : Str} : ∀ {binds : List (Str × Value)} {m : Str → Option Value}, (∀ v, (x, v) ∉ binds) → bindL kindOf binds m x = m x
  | [], _, _ => rfl
  | (n, v) :: r, m, h => by
    unfold bindL
    rw [bindL_out fun w hw => h w (List.mem_cons_of_mem _ hw)]
    split
    · have : x ≠ n := by rintro rfl; exact h v List.mem_cons_self
      simp [this]
    · rfl
theorem bindC_out {kindOf : Str → Option NameKind} {x : Str} : ∀ {binds : List (Str × Value)} {m : Str → Option Value}, (∀ v, (x, v) ∉ binds) → bindC kindOf binds m x = m x
  | [], _, _ => rfl
  | (n, v) :: r, m, h => by
    unfold bindC
    rw [bindC_out fun w hw => h w (List.mem_cons_of_mem _ hw)]
    split
    · rfl
    · have : x ≠ n := by rintro rfl; exact h v List.mem_cons_self
      simp [this]
theorem bindL_get {kindOf : Str → Option NameKind} {x : Str} {v : Value} : ∀ {P : List Str} {vs : List Value} {i : Nat} {m : Str → Option Value}, P.Nodup → P[i]? = some x → vs[i]? = some v → kindOf x = some .local →
    bindL kindOf (P.zip vs) m x = some v
  | [], _, _, _, _, h, _, _ => by simp at h
  | _ :: _, [], _, _, _, _, h, _ => by simp at h
  | p :: P, w :: vs, 0, m, nd, h1, h2, hk => by
    simp at h1 h2; subst h1; subst h2
    show bindL kindOf ((p, w) :: P.zip vs) m p = _
    unfold bindL
    rw [bindL_out fun v hv => (List.nodup_cons.mp nd).1 (List.of_mem_zip hv).1, if_pos hk]
    simp
  | p :: P, w :: vs, i + 1, m, nd, h1, h2, hk => by
    show bindL kindOf ((p, w) :: P.zip vs) m x = _
    unfold bindL
    exact bindL_get (i := i) (List.nodup_cons.mp nd).2 (by simpa using h1) (by simpa using h2) hk
theorem bindC_get {kindOf : Str → Option NameKind} {x : Str} {v : Value} : ∀ {P : List Str} {vs : List Value} {i : Nat} {m : Str → Option Value}, P.Nodup → P[i]? = some x → vs[i]? = some v → kindOf x ≠ some .local →
    bindC kindOf (P.zip vs) m x = some v
  | [], _, _, _, _, h, _, _ => by simp at h
  | _ :: _, [], _, _, _, _, h, _ => by simp at h
  | p :: P, w :: vs, 0, m, nd, h1, h2, hk => by
    simp at h1 h2; subst h1; subst h2
    show bindC kindOf ((p, w) :: P.zip vs) m p = _
    unfold bindC
    rw [bindC_out fun v hv => (List.nodup_cons.mp nd).1 (List.of_mem_zip hv).1, if_neg hk]
    simp
  | p :: P, w :: vs, i + 1, m, nd, h1, h2, hk => by
    show bindC kindOf ((p, w) :: P.zip vs) m x = _
    unfold bindC
    exact bindC_get (i := i) (List.nodup_cons.mp nd).2 (by simpa using h1) (by simpa using h2) hk

/-- the names' values at the entry -/
def start (N : List Str) (vs : List V) : St := vs.map some ++ List.replicate (N.length - vs.length) none

/-- the context of a def's body, at its entry; an exception leaves the frame, then lies as CX says -/
def cxOf (CX : CXT) (P : Program) (w : World) (K : PySem.W.Frag) (mg : Str → Option Value) (base : Heap) (N : List Str) (qual : Str) (scope : Scope) (f : Addr) (cd : Value) (A : Around) (outer : List Env) (s : Shared) (H : Hp) (E : XK) : Cx where
  prog := P
  w := w
  K := K
  mg := mg
  base := base
  A := A.deeper (envOfC qual scope s.heap.objs.size f cd)
  N := N
  s₀ := s
  H₀ := H
  env := envOfC qual scope s.heap.objs.size f cd
  outer := outer
  stack := envOfC qual scope s.heap.objs.size f cd :: outer
  ex := []
  calm := true
  fn := fun _ => true
  pn := []
  xe := fun e s' => wpAny (model P w) (A.deeper (envOfC qual scope s.heap.objs.size f cd)) (leaving (envOfC qual scope s.heap.objs.size f cd) e) (fun _ s'' => CX outer H s E e s'') (fun e' s'' => CX outer H s E e' s'') s'

theorem cell_has {sc : Scope} {n : Nat} {x : Str} (h : sc.names.lookup x = some .cell) : ∃ c, (cellsFrom n sc.names []).lookup x = some c := by
  have q := PySem.W.cellsFrom_some sc.names n [] (.inl h)
  exact Option.isSome_iff_exists.mp q

theorem inv_start {CX : CXT} {P : Program} {w : World} {K : PySem.W.Frag} {mg : Str → Option Value} {base : Heap} {N ps : List Str} {qual : Str} {scope : Scope} {f : Addr} {cd : Value} {A : Around} {outer : List Env} {s s1 : Shared} {H : Hp} {E : XK} {us : List Value} {vs : List V}
    (S : FnScope N ps scope) (hd : A.handled = none) (e0 : Env0 P w K mg base A outer s H) (hl : vs.length = ps.length) (r : Vals vs us)
    (x : InCallC s s.heap.objs.size (bindL (envOfC qual scope s.heap.objs.size f cd).kindOf (ps.zip us) fun _ => none) (cellsFrom (s.heap.objs.size + 1) scope.names []) (bindC (envOfC qual scope s.heap.objs.size f cd).kindOf (ps.zip us) fun _ => none) s1) :
    Inv (cxOf CX P w K mg base N qual scope f cd A outer s H E) [] (start N vs) H s1 := by
  have hpl : ps.length ≤ N.length := by have := congrArg List.length S.pre; rw [List.length_take] at this; omega
  obtain ⟨h1, tk, rfl, hk⟩ := x.done
  have noA : ∀ b : Addr, b ∉ (cxOf CX P w K mg base N qual scope f cd A outer s H E).ex := fun b z => absurd (show b ∈ ([] : List Addr) from z) (by simp)
  refine ⟨⟨e0.mod, S.kind, rfl, rfl, Nat.le_refl _, fun y z c h1 h2 => ?_, fun y hy => ?_, fun y c _ h => ?_, fun _ => hd, Around.frames_deeper e0.frames, .inr ⟨rfl, rfl⟩, fun b z => absurd z (noA b), e0.bs, e0.bsz, fun b _ _ => noA b, fun b z => absurd z (noA b), e0.funs, e0.frf⟩,
    rfl, e0.bare, Un.kept hk, ⟨_, x.toInCall.ns, fun i y v h1 h2 h3 => ?_⟩, fun y c h => ⟨_, x.cell y c h⟩, e0.hok.fresh (Nat.le_refl _), fun y c h => ?_, fun p hp => absurd (show p ∈ ([] : List (Addr × Obj)) from hp) (by simp), e0.hok.kept hk, ?_⟩
  · exact name_of_addr x.apart (PySem.mem_of_lookup h1) (PySem.mem_of_lookup h2)
  · have hy : scope.names.lookup y = some .cell ∨ scope.names.lookup y = some .free := hy
    rcases hy with hy | hy
    · exact cell_has hy
    · exact absurd rfl (S.nofree _ (PySem.mem_of_lookup hy))
  · exact Nat.le_of_lt (x.above y c (PySem.mem_of_lookup h))
  · have hi : i < vs.length := by
      unfold start at h2
      by_cases hi : i < vs.length
      · exact hi
      · rw [List.getElem?_append_right (by simpa using hi)] at h2
        rw [List.getElem?_replicate] at h2
        split at h2 <;> cases h2
    have ha : vs[i]? = some v := by
      unfold start at h2
      rw [List.getElem?_append_left (by simpa using hi), List.getElem?_map] at h2
      cases e : vs[i]? with
      | none => rw [e] at h2; cases h2
      | some a => rw [e] at h2; cases h2; rfl
    obtain ⟨u, hu, rv⟩ := r.get ha
    have hp : ps[i]? = some y := by
      rw [← S.pre, List.getElem?_take_of_lt (by omega)]; exact h1
    have ndP : ps.Nodup := by rw [← S.pre]; exact S.nd.sublist (List.take_sublist _ _)
    refine ⟨u, rv, ?_⟩
    rcases S.par y (List.mem_of_getElem? hp) with k | k
    · exact .inl ⟨k, bindL_get ndP hp hu k⟩
    · obtain ⟨c, e⟩ := cell_has (n := s.heap.objs.size + 1) k
      refine .inr ⟨.inl k, c, e, ?_⟩
      have q := x.cell y c e
      rw [bindC_get ndP hp hu (by show scope.names.lookup y ≠ _; rw [k]; decide)] at q
      exact q
  · exact e0.hok.fresh (Nat.le_of_lt (x.above y c (PySem.mem_of_lookup h)))
  · unfold start
    show _ = N.length
    rw [List.length_append, List.length_map, List.length_replicate]
    omega

/-- THE RULE: a def (or a method) of the text, by its body. The body's reading t is chosen for each entry; it is run at the parameters' values -/
theorem fn_of {CX : CXT} {P : Program} {w : World} {K : PySem.W.Frag} {mg : Str → Option Value} {base : Heap} {k : Nat} {f : Addr} {name qual : Str} {params : Arguments} {body : List Stmt} {scope : Scope} {dV kV doc pm cdv ct oc : Value} {an od : Option Addr}
    {osl : Array (Option Value)} {N ps : List Str} {sp : Sp} (lk : K.lookup f = some ⟨oc, od, .func (PySem.W.fnOf name qual params body scope dV kV doc pm an cdv ct), osl⟩) (hcd : PySem.W.codeIn K cdv qual = true) (S : FnScope N ps scope)
    (len : ∀ vs H Q E, sp vs H Q E → vs.length = ps.length)
    (hbody : ∀ (A : Around) (outer : List Env) (s : Shared) (H : Hp) (vs : List V) (Q : VK) (E : XK), Room k (A.deeper (envOfC qual scope s.heap.objs.size f cdv)) → sp vs H Q E →
      ∃ t, PSs (cxOf CX P w K mg base N qual scope f cdv A outer s H E) body t ∧ t { nx := fun _ H' => Q .non H', rt := Q } (start N vs) H) :
    FnOk P w K mg base CX (k + 1) f (PySem.W.fnOf name qual params body scope dV kV doc pm an cdv ct) ps sp := by
  refine ⟨len, fun A outer s H args us vs Q E hr e0 hb r hsp => ?_⟩
  have hl := len _ _ _ _ hsp
  have KX : K.In s.heap := e0.mod.kin.keeps fun b o e => (e0.bs b o e).1
  have lim : s.heap.NoLimit := e0.mod.nolimit.keeps fun b o e => (e0.bs b o e).1
  have hkind : ∀ y ∈ ps.zip us, scope.names.lookup y.1 = some .local ∨ (scope.names.lookup y.1 = some .cell ∧ ((cellsFrom (s.heap.objs.size + 1) scope.names []).lookup y.1).isSome = true) := fun ⟨n, v⟩ hy => by
    rcases S.par n (List.of_mem_zip hy).1 with q | q
    · exact .inl q
    · exact .inr ⟨q, PySem.W.cellsFrom_some _ _ _ (.inl q)⟩
  refine codeAny_call_function hr.depth (KX _ _ lk) rfl S.co S.gen rfl (PySem.W.codeRec_of KX hcd) (hb _ _ _ _ ?_)
  refine wpAny_newFunctionEnv_cells S.kind hkind fun env he s1 x => ?_
  subst he
  refine ⟨lim.keeps x.toInCall.keep, codeAny_func ?_⟩
  obtain ⟨t, ht, hq⟩ := hbody A outer s H vs Q E (hr.deeper _) hsp
  have I : Inv (cxOf CX P w K mg base N qual scope f cdv A outer s H E) [] (start N vs) H s1 := inv_start S hr.hd e0 hl r x
  refine wpAny_mono (ht [] s1 (start N vs) H _ I hq) (fun fl s' hs => ?_) fun e s' hs => hs
  have fin : ∀ {σ' : St} {H' : Hp} {v : V} {u : Value}, Inv (cxOf CX P w K mg base N qual scope f cdv A outer s H E) [] σ' H' s' → RelV v u → Q v H' → CE outer P w H s Q u s' :=
    fun {σ' H' v u} J rv q => ⟨v, H', J.os, J.bare, J.base, J.hok, rv, q⟩
  cases fl with
  | ret u =>
    obtain ⟨v, σ', H', J, rv, q⟩ := hs
    exact fin J rv q
  | next =>
    obtain ⟨σ', H', J, q⟩ := hs
    exact fin (v := V.non) (u := Value.none) J rfl q
  | brk =>
    obtain ⟨_, _, _, q⟩ := hs
    exact False.elim q
  | cont =>
    obtain ⟨_, _, _, q⟩ := hs
    exact False.elim q
end L2

namespace L2
open PySem PySem.Spec PyProof.Rows
section
variable {X : Cx} {x : Str} {p pos : Pos} {e : Expr} {es : List Expr} {t : TA} {id T : String} {r : List V → Hp → VK → Prop}

def tCB (r : List V → Hp → VK → Prop) (t : TA) : TE := fun σ H Q => t σ H fun vs H1 => r vs H1 Q
/-- f(e, ..), f a built-in function -/
theorem pe_callB (hc : CallR X (.builtin id) r) (hg : Gl X x) (hm : X.mg x = none) (hv : bootBuiltins x = some (.builtin id)) (ha : PA X (e :: es) t) (hn : x ≠ "__name__" := by decide) (hdb : (x == ("__debug__" : Str)) = false := by decide)
    (he : starEach (e :: es) X.env = (false, eval e X.env) :: starEach es X.env := by rfl) (hpl : (backTo pos (starEach es X.env)).any (·.1) = false := by rfl) : PE X (.Call (.Name x p) (e :: es) [] pos) (tCB r t) := by
  intro pins s σ H Q I h
  refine wpAny_Call_Name_kw (ld_blt I hg hm hv ?_ hn hdb)
  exact PyProof.Rows.callWith_builtin1 (thn (ha pos pins s σ H _ I h) fun us s1 ⟨vs, H1, I1, r1, q1⟩ => hc pins s1 σ H1 vs us Q I1 r1 q1) he hpl
/-- T(e, ..), T a built-in type -/
theorem pe_callTy (hc : CallR X (.type T) r) (hg : Gl X x) (hm : X.mg x = none) (hv : bootBuiltins x = some (.type T)) (ha : PA X (e :: es) t) (hn : x ≠ "__name__" := by decide) (hdb : (x == ("__debug__" : Str)) = false := by decide)
    (he : starEach (e :: es) X.env = (false, eval e X.env) :: starEach es X.env := by rfl) (hpl : (backTo pos (starEach es X.env)).any (·.1) = false := by rfl) : PE X (.Call (.Name x p) (e :: es) [] pos) (tCB r t) := by
  intro pins s σ H Q I h
  refine wpAny_Call_Name_kw (ld_blt I hg hm hv ?_ hn hdb)
  exact PyProof.Rows.callWith_type1 (thn (ha pos pins s σ H _ I h) fun us s1 ⟨vs, H1, I1, r1, q1⟩ => hc pins s1 σ H1 vs us Q I1 r1 q1) he hpl
end
end L2

namespace HT
open PySem PyProof.Rows

section
open PySem.SeqAt
open PySem.AutoSeq1 (wpAny_loadPart')
open PySem.MeetsSeq PySem.MeetsSeq2 PySem.MeetsSeq3

end

section
variable {prog : Program} {w : World} {A : Around} {E : Value → Shared → Prop} {s : Shared}

/-! ### t[a:b], not the whole -/
/-- a slice's bound as a place among n (d where it is left out) -/
def sIx (n d : Nat) : Option Int → Nat
  | none => d
  | some v => if v < 0 then (v + (n : Int)).toNat else min v.toNat n
theorem sIx_none (n d : Nat) : sIx n d none = d := rfl
theorem sIx_nat (n d k : Nat) : sIx n d (some (k : Int)) = min k n := by
  show (if (k : Int) < 0 then ((k : Int) + (n : Int)).toNat else min (k : Int).toNat n) = min k n
  rw [if_neg (by omega), Int.toNat_natCast]
end
end HT

namespace L2
open PySem PySem.Spec PyProof.Rows

/-! ### the parts of a slice -/
abbrev TO := St → Hp → (Option Int → Hp → Prop) → Prop
/-- a slice's part (left out, or an int) -/
def PO (X : Cx) (e : Option Expr) (t : TO) : Prop :=
  ∀ (pins : List (Addr × Obj)) (s : Shared) (σ : St) (H : Hp) (Q : Option Int → Hp → Prop), Inv X pins σ H s → t σ H Q →
    wpAny (model X.prog X.w) X.A (evalPart e X.env) (fun u s' => ∃ o H', Inv X pins σ H' s' ∧ IsPart u o ∧ Q o H') X.xe s
def tNoPart : TO := fun _ H Q => Q none H
inductive tPart_ (Q : Option Int → Hp → Prop) (x : V) (H1 : Hp) : Prop where
  | mk (i : _) (h1 : x = .int i) (h2 : Q (some i) H1) : tPart_ Q x H1
def tPart (t : TE) : TO := fun σ H Q => t σ H fun x H1 => tPart_ Q x H1

section
variable {X : Cx} {e : Expr} {te : TE} {lo hi : Option Expr} {tl th : TO} {pos p2 : Pos}

theorem po_none : PO X none tNoPart := by
  intro pins s σ H Q I h
  rw [evalPart_none]
  exact wpAny_pure ⟨none, H, I, .none, h⟩
theorem po_some (h : PE X e te) : PO X (some e) (tPart te) := by
  intro pins s σ H Q I hw
  rw [evalPart_some]
  refine thn (h pins s σ H _ I hw) fun u s1 ⟨x, H1, I1, r1, q1⟩ => ?_
  obtain ⟨i, rfl, q⟩ := q1
  obtain ⟨t, rfl⟩ := r1
  exact ⟨some i, H1, I1, .int i t, q⟩

/-- what a slice of a value is, by values: the slice object stands at sl -/
def SlR (X : Cx) (r : V → Option Int → Option Int → Hp → VK → Prop) : Prop :=
  ∀ (pins : List (Addr × Obj)) (s : Shared) (σ : St) (H : Hp) (x : V) (v vl vu : Value) (lo hi : Option Int) (sl : Addr) (Q : VK), Inv X pins σ H s → RelV x v → s.heap.IsSliceOf sl vl vu .none → IsPart vl lo → IsPart vu hi → r x lo hi H Q →
    ∃ T id, typeLookup (.type T) "__getitem__" = pure (some (.builtin id)) ∧ s.TypeIs v T ∧ wpAny (model X.prog X.w) X.A (getItem v (.ref sl)) (EP X pins σ Q) X.xe s
def tSl (r : V → Option Int → Option Int → Hp → VK → Prop) (te : TE) (tl th : TO) : TE := fun σ H Q => te σ H fun x H1 => tl σ H1 fun l H2 => th σ H2 fun u H3 => r x l u H3 Q
/-- a[lo:hi], any a -/
theorem pe_slice {r : V → Option Int → Option Int → Hp → VK → Prop} (hr : SlR X r) (he : PE X e te) (hl : PO X lo tl) (hu : PO X hi th) : PE X (.Subscript e (.Slice lo hi none p2) pos) (tSl r te tl th) := by
  intro pins s σ H Q I h
  refine Subscript_ (thn (he pins s σ H _ I h) fun v s1 ⟨x, H1, I1, r1, q1⟩ => ?_)
  refine wpAny_Slice (thn (hl pins s1 σ H1 _ I1 q1) fun vl s2 ⟨l, H2, I2, pl, q2⟩ => thn (hu pins s2 σ H2 _ I2 q2) fun vu s3 ⟨u, H3, I3, pu, q3⟩ => ?_)
  rw [evalPart_none]
  refine wpAny_pure ?_
  have I4 : Inv X pins σ H3 { s3 with heap := s3.heap.push { cls := .type "slice", data := .fields #[vl, vu, .none] } } := I3.kept (t' := s3.toks) fun b ob q => Heap.get?_push_of_some _ q
  obtain ⟨T, id, hT, ht, hg⟩ := hr pins { s3 with heap := s3.heap.push { cls := .type "slice", data := .fields #[vl, vu, .none] } } σ H3 x v vl vu l u s3.heap.objs.size Q I4 r1 (Heap.IsSliceOf.new ..) pl pu q3
  show wpAny (model X.prog X.w) X.A (subscriptTail e (.Slice lo hi none p2) v (.ref s3.heap.objs.size)) (EP X pins σ Q) X.xe { s3 with heap := s3.heap.push { cls := .type "slice", data := .fields #[vl, vu, .none] } }
  exact tail_any (ops := [.ref s3.heap.objs.size, v]) ht hT hg (by with_unfolding_all rfl)

/-- the items of xs[lo:hi] -/
def cutV (xs : List V) (lo hi : Option Int) : List V := (xs.drop (HT.sIx xs.length 0 lo)).take (HT.sIx xs.length xs.length hi - HT.sIx xs.length 0 lo)
theorem cutV_length (xs : List V) (lo hi : Option Int) : (cutV xs lo hi).length ≤ xs.length := by
  unfold cutV
  rw [List.length_take, List.length_drop]
  omega
/-! ### t < u, t + u -/
end
end L2

namespace L2
open PySem PySem.Spec PyProof.Rows

/-! ### places -/
/-- the place that an index of any sign means -/
def ixN (n : Nat) (i : Int) : Option Nat := if 0 ≤ i then (if i < n then some i.toNat else none) else if -(n : Int) ≤ i then some (i + n).toNat else none
def atI {α : Type} (xs : List α) (i : Int) : Option α := (ixN xs.length i).bind fun j => xs[j]?
theorem ixN_seq {n : Nat} {i : Int} {j : Nat} (h : ixN n i = some j) : seqIndex? i n = some j ∧ j < n ∧ -(n : Int) ≤ i ∧ i < n := by
  unfold ixN at h
  by_cases h0 : 0 ≤ i
  · rw [if_pos h0] at h
    by_cases h1 : i < n
    · rw [if_pos h1] at h
      have e : i.toNat = j := Option.some.inj h
      exact ⟨by rw [seqIndex_of h0 h1, e], by omega, by omega, h1⟩
    · rw [if_neg h1] at h; cases h
  · rw [if_neg h0] at h
    by_cases h1 : -(n : Int) ≤ i
    · rw [if_pos h1] at h
      have e : (i + n).toNat = j := Option.some.inj h
      exact ⟨by rw [seqIndex_neg (by omega) h1, e], by omega, h1, by omega⟩
    · rw [if_neg h1] at h; cases h
theorem atI_get {α : Type} {xs : List α} {i : Int} {v : α} (h : atI xs i = some v) : ∃ j, seqIndex? i xs.length = some j ∧ xs[j]? = some v ∧ j < xs.length ∧ -(xs.length : Int) ≤ i ∧ i < xs.length := by
  unfold atI at h
  cases e : ixN xs.length i with
  | none => rw [e] at h; cases h
  | some j =>
    rw [e] at h
    obtain ⟨h1, h2, h3, h4⟩ := ixN_seq e
    exact ⟨j, h1, h, h2, h3, h4⟩
theorem atI_nat {α : Type} {xs : List α} {j : Nat} {v : α} (h : xs[j]? = some v) : atI xs (j : Int) = some v := by
  have hj : j < xs.length := (List.getElem?_eq_some_iff.mp h).1
  have e : ixN xs.length (j : Int) = some j := by
    unfold ixN
    rw [if_pos (by omega), if_pos (by omega)]; simp
  unfold atI; rw [e]; exact h
/-! ### what may be subscripted -/
/-- what stands as an index of a plain subscript -/
def PlainIx (b : Expr) : Prop := ∀ o i, subscripted b false o i = operate [o, i] (getItem o i)
/-- a subscript by values -/
def IxR (X : Cx) (r : R2) : Prop :=
  ∀ (value slice : Expr) (pins : List (Addr × Obj)) (s : Shared) (σ : St) (H : Hp) (x y : V) (v u : Value) (Q : VK), Inv X pins σ H s → RelV x v → RelV y u → r x y H Q →
    subscripted slice false v u = operate [v, u] (getItem v u) → wpAny (model X.prog X.w) X.A (subscriptTail value slice v u) (EP X pins σ Q) X.xe s
/-- a call of a builtin's method by values: the receiver, the arguments -/
def MtR (X : Cx) (id : String) (r : V → List V → Hp → VK → Prop) : Prop :=
  ∀ (pins : List (Addr × Obj)) (s : Shared) (σ : St) (H : Hp) (x : V) (xs : List V) (v : Value) (us : List Value) (Q : VK), Inv X pins σ H s → RelV x v → Vals xs us → r x xs H Q →
    wpAny (model X.prog X.w) X.A (call (.builtin id) (v :: us)) (EP X pins σ Q) X.xe s
section
variable {X : Cx} {a b : Expr} {ta tb : TE} {pos : Pos}
/-- a[b] -/
theorem pe_ix {r : R2} (hr : IxR X r) (ha : PE X a ta) (hb : PE X b tb) (hs : PlainIx b) : PE X (.Subscript a b pos) (tOp r ta tb) := by
  intro pins s σ H Q I h
  exact Subscript_ (binT ha hb I h fun v u s2 x y H2 I2 rx ry q => hr a b pins s2 σ H2 x y v u Q I2 rx ry q (hs _ _))

inductive rIxL (K : PySem.W.Frag) (x : V) (y : V) (H : Hp) (Q : VK) : Prop where
  | mk (p : _) (xs : _) (i : _) (v : _) (h1 : x = .ref p) (h2 : y = .int i) (h3 : SqL K H p xs) (h4 : atI xs i = some v) (h5 : Q v H) : rIxL K x y H Q
inductive rIxT (K : PySem.W.Frag) (x : V) (y : V) (H : Hp) (Q : VK) : Prop where
  | mk (p : _) (xs : _) (i : _) (v : _) (h1 : x = .ref p) (h2 : y = .int i) (h3 : SqT K H p xs) (h4 : atI xs i = some v) (h5 : Q v H) : rIxT K x y H Q
def rIxS : R2 := fun x y H Q => ∃ z i c, x = .str z ∧ y = .int i ∧ z.length ≤ sizeLine ∧ atI z.cps.toList i = some c ∧ Q (.str ⟨#[c]⟩) H
theorem ix_list : IxR X (rIxL X.K) := by
  intro value slice pins s σ H x y v u Q I rx ry h hs
  obtain ⟨p, xs, i, z, rfl, rfl, hq, he, q⟩ := h
  cases rx
  obtain ⟨t, rfl⟩ := ry
  obtain ⟨its, r, pl, hz⟩ := I.list hq
  obtain ⟨j, h1, h2, h3, h4, h5⟩ := atI_get he
  obtain ⟨w, ew, rw'⟩ := r.get h2
  have hl := r.length
  have hn := line63
  have fin : EP X pins σ Q w s := ⟨z, H, I, rw', q⟩
  by_cases h0 : 0 ≤ i
  · have hj : i.toNat = j := by
      rw [seqIndex_of h0 h5] at h1
      exact Option.some.inj h1
    exact item_listR pl.isList h0 (by omega) (by rw [hj]; simpa using ew) fin hs
  · have hj : (i + (its.toArray.size : Int)).toNat = j := by
      rw [seqIndex_neg (by omega) h4] at h1
      rw [List.size_toArray, ← hl]
      exact Option.some.inj h1
    exact subscriptTail_builtinR (x := w) pl.isList.typeIs slot_list_getitem.lookup
      (wpAny_getItem_list_neg (Q := fun r s' => r = w ∧ EP X pins σ Q r s') pl.isList (by omega) (by rw [List.size_toArray] <;> omega) (by omega) (by rw [hj]; simpa using ew) ⟨rfl, fin⟩) hs
theorem ix_tup : IxR X (rIxT X.K) := by
  intro value slice pins s σ H x y v u Q I rx ry h hs
  obtain ⟨p, xs, i, z, rfl, rfl, hq, he, q⟩ := h
  cases rx
  obtain ⟨t, rfl⟩ := ry
  obtain ⟨its, r, pl, hz⟩ := I.tuple hq
  obtain ⟨j, h1, h2, h3, h4, h5⟩ := atI_get he
  obtain ⟨w, ew, rw'⟩ := r.get h2
  have hl := r.length
  have hn := line63
  have fin : EP X pins σ Q w s := ⟨z, H, I, rw', q⟩
  exact subscriptTail_builtinR (x := w) pl.typeIs slot_tuple_getitem.lookup
    (getItem_tuple (j := j) (Q := fun r s' => r = w ∧ EP X pins σ Q r s') pl (by omega) (by omega) (by rw [List.size_toArray, ← hl]; exact h1) (by simpa using ew) ⟨rfl, fin⟩) hs
theorem ix_str : IxR X rIxS := by
  intro value slice pins s σ H x y v u Q I rx ry h hs
  obtain ⟨z, i, c, rfl, rfl, hz, he, q⟩ := h
  obtain ⟨t, rfl⟩ := rx
  obtain ⟨t', rfl⟩ := ry
  obtain ⟨j, h1, h2, h3, h4, h5⟩ := atI_get he
  have hl : z.cps.toList.length = z.length := by simp [Str.length]
  rw [hl] at h1 h4 h5
  have hn := line63
  exact tail_any (typeIs_str s z t) slot_str_getitem.lookup (getItem_str (c := c) (by
    have e1 : decide (i < -(2 ^ 63 : Int)) = false := decide_eq_false (by omega)
    have e2 : decide (i ≥ 2 ^ 63) = false := decide_eq_false (by omega)
    rw [e1, e2, Bool.or_false]) (by rw [h1]; simpa using h2) ⟨.str ⟨#[c]⟩, H, I.tok _, ⟨_, rfl⟩, q⟩) hs
/-! ### xs[i] = v, any sign -/
/-- the list's object behind a store -/
theorem mapSeq_set (its : List Value) (n j : Nat) (u : Value) : Obj.mapSeq (·.setIfInBounds j u) { cls := .type "list", data := .seq its.toArray n } = { cls := .type "list", data := .seq (its.set j u).toArray n } := by
  simp [Obj.mapSeq]
theorem Inv.lst {pins : List (Addr × Obj)} {σ : St} {H : Hp} {s : Shared} {p : Addr} {xs : List V} (I : Inv X pins σ H s) (h : H p = some (.lst xs)) :
    ∃ (its : List Value) (n : Nat), Vals xs its ∧ s.heap.get? p = some { cls := .type "list", data := .seq its.toArray n } ∧ xs.length ≤ sizeLine := by
  obtain ⟨z, its, n, r, e⟩ := I.hok p _ h
  exact ⟨its, n, r, e, z⟩
/-- the list at p is written by an update of its object -/
theorem Inv.lstUpd {pins : List (Addr × Obj)} {σ : St} {H : Hp} {s : Shared} {p : Addr} {xs ys : List V} {its its' : List Value} {n n' : Nat} {f : Obj → Obj} (I : Inv X pins σ H s) (h : H p = some (.lst xs))
    (ho : s.heap.get? p = some { cls := .type "list", data := .seq its.toArray n }) (hf : f { cls := .type "list", data := .seq its.toArray n } = { cls := .type "list", data := .seq its'.toArray n' }) (r : Vals ys its') (hz : ys.length ≤ sizeLine) (t : Nat) :
    Inv X pins σ (upd H p (.lst ys)) { s with heap := s.heap.update p f, toks := t } := by
  have e : (s.heap.update p f).get? p = some { cls := .type "list", data := .seq its'.toArray n' } := by
    rw [Heap.get?_update_self f ho (by rw [hf] <;> rfl), hf]
  refine I.write (x := p) (e := p) (by rw [h]; trivial) (.inl rfl) (fun b u hb q => (Heap.get?_update_other _ _ (Ne.symm hb)).trans q) ⟨_, e⟩ ?_
  exact ⟨hz, its', n', r, e⟩
inductive rSetL (o : V) (i : V) (v : V) (H : Hp) (Q : (Hp → Prop)) : Prop where
  | mk (p : _) (xs : _) (k : _) (j : _) (h1 : o = .ref p) (h2 : i = .int k) (h3 : H p = some (.lst xs)) (h4 : ixN xs.length k = some j) (h5 : Q (upd H p (.lst (xs.set j v)))) : rSetL o i v H Q
theorem set_list : PSet X rSetL := by
  intro pins s σ H o i v ov iv u Q I ro ri rv h
  obtain ⟨p, xs, k, j, rfl, rfl, hp, hj, q⟩ := h
  cases ro
  obtain ⟨t, rfl⟩ := ri
  obtain ⟨its, n, r, ho, hz⟩ := I.lst hp
  obtain ⟨h1, h2, h3, h4⟩ := ixN_seq hj
  have hl := r.length
  have hn := line63
  have I' : Inv X pins σ (upd H p (.lst (xs.set j v))) { s with heap := s.heap.update p (Obj.mapSeq (·.setIfInBounds j u)) } :=
    I.lstUpd hp ho (mapSeq_set its n j u) (r.set rv j) (by rw [List.length_set]; exact hz) s.toks
  by_cases h0 : 0 ≤ k
  · have hk : k.toNat = j := by
      rw [seqIndex_of h0 h4] at h1
      exact Option.some.inj h1
    exact PySem.W.ki_setAt ho h0 (by omega) (by rw [List.size_toArray, ← hl]; exact h4) (by rw [hk]; exact ⟨_, I', q⟩)
  · have hk : (k + (its.toArray.size : Int)).toNat = j := by
      rw [seqIndex_neg (by omega) h3] at h1
      rw [List.size_toArray, ← hl]
      exact Option.some.inj h1
    exact PySem.W.ki_setBack ho (by omega) (by rw [List.size_toArray, ← hl]; exact h3) (by omega) (by rw [hk]; exact ⟨_, I', q⟩)

/-! ### slices -/
theorem slice_bounds (lo hi : Option Int) (n : Nat) : (sliceBounds lo hi none n).1 = ((HT.sIx n 0 lo : Nat) : Int) ∧ (sliceBounds lo hi none n).2.1 = ((HT.sIx n n hi : Nat) : Int) ∧ (sliceBounds lo hi none n).2.2 = 1 := by
  refine ⟨?_, ?_, rfl⟩
  · cases lo with
    | none => simp [sliceBounds, HT.sIx]
    | some i =>
      simp only [sliceBounds, HT.sIx, Option.getD_none, show (1 : Int) > 0 by decide, if_true]
      by_cases h : i < 0
      · simp only [h, if_true] <;> omega
      · simp only [h, if_false] <;> omega
  · cases hi with
    | none => simp [sliceBounds, HT.sIx]
    | some i =>
      simp only [sliceBounds, HT.sIx, Option.getD_none, show (1 : Int) > 0 by decide, if_true]
      by_cases h : i < 0
      · simp only [h, if_true] <;> omega
      · simp only [h, if_false] <;> omega
theorem slicePick_cut (its : List Value) (lo hi : Option Int) : slicePick its.toArray lo hi none = ((its.drop (HT.sIx its.length 0 lo)).take (HT.sIx its.length its.length hi - HT.sIx its.length 0 lo)).toArray := by
  obtain ⟨h1, h2, h3⟩ := slice_bounds lo hi its.toArray.size
  unfold slicePick
  rw [h1, h2, h3]
  simp only [sliceRange_one, pick_run, List.size_toArray] <;> rfl
/-- xs[lo:hi] of a list: a new list -/
inductive rSlL (K : PySem.W.Frag) (x : V) (lo : Option Int) (hi : Option Int) (H : Hp) (Q : VK) : Prop where
  | mk (a : _) (xs : _) (h1 : x = .ref a) (h2 : SqL K H a xs) (h3 : ∀ p, H p = none → Q (.ref p) (upd H p (.lst (cutV xs lo hi)))) : rSlL K x lo hi H Q
theorem sl_list : SlR X (rSlL X.K) := by
  intro pins s σ H x v vl vu lo hi sl Q I rx hs pl pu h
  obtain ⟨a, xs, rfl, hx, q⟩ := h
  cases rx
  obtain ⟨its, r, ht, hz⟩ := I.list hx
  have hlen := r.length
  refine ⟨"list", _, slot_list_getitem.lookup, ht.isList.typeIs, ?_⟩
  refine wpAny_getItem_list_slice ht.isList hs pl pu .none (by simp) ?_ (by rw [List.size_toArray] <;> omega)
  rw [slicePick_cut, ← hlen]
  refine ⟨.ref s.heap.objs.size, _, I.laid (t' := s.toks) (o := .lst (cutV xs lo hi)) (fun b ob q => Heap.get?_push_of_some _ q) (Nat.le_refl _) ?_, rfl, q _ (I.hok.fresh (Nat.le_refl _))⟩
  exact ⟨Nat.le_trans (cutV_length xs lo hi) hz, _, 0, (r.drop (HT.sIx xs.length 0 lo)).take (HT.sIx xs.length xs.length hi - HT.sIx xs.length 0 lo), Heap.get?_push_size _ rfl⟩

/-! ### in, not in: flat items -/
/-! ### len, list(x), tuple(x) of any list or tuple that is read -/
inductive rLenS (K : PySem.W.Frag) (xs : List V) (H : Hp) (Q : VK) : Prop where
  | mk (p) (ys) (h1 : xs = [.ref p]) (h2 : SqL K H p ys ∨ SqT K H p ys) (h3 : Q (.int (ys.length : Nat)) H) : rLenS K xs H Q
theorem call_len_seq : CallR X (.builtin "len") (rLenS X.K) := by
  intro pins s σ H xs us Q I r h
  obtain ⟨p, ys, rfl, hq, q⟩ := h
  obtain ⟨u, rfl, rx⟩ := vals1 r
  cases rx
  have hn := line63
  rcases hq with hq | hq
  · obtain ⟨its, r', pl, hz⟩ := I.list hq
    have hlen := r'.length
    exact Calls.call_len_list pl.isList (by simp only [List.size_toArray] <;> omega) ⟨.int ys.length, H, I.tok _, ⟨s.toks + 1, by rw [List.size_toArray, hlen]⟩, q⟩
  · obtain ⟨its, r', pl, hz⟩ := I.tuple hq
    have hlen := r'.length
    exact len_tuple pl (by simp only [List.size_toArray] <;> omega) ⟨.int ys.length, H, I.tok _, ⟨s.toks + 1, by rw [List.size_toArray, hlen]⟩, q⟩
theorem call_tuple_of : CallR X (.type "tuple") (fun xs H Q => ∃ p ys, xs = [.ref p] ∧ ((SqL X.K H p ys ∧ ∀ l, H l = none → Q (.ref l) (upd H l (.tup ys))) ∨ (SqT X.K H p ys ∧ Q (.ref p) H))) := by
  intro pins s σ H xs us Q I r h
  obtain ⟨p, ys, rfl, h⟩ := h
  obtain ⟨u, rfl, rx⟩ := vals1 r
  cases rx
  rcases h with ⟨hq, q⟩ | ⟨hq, q⟩
  · obtain ⟨its, r', pl, hz⟩ := I.list hq
    have hlen := r'.length
    refine call_tuple_list pl.isList (fun h' kp => ?_) (by simp only [List.size_toArray] <;> omega)
    have I1 : Inv X pins σ H { s with heap := h' } := I.kept (t' := s.toks) kp
    have I2 : Inv X pins σ (upd H h'.objs.size (.tup ys)) { s with heap := h'.push { cls := .type "tuple", data := .seq its.toArray } } :=
      I1.laid (t' := s.toks) (fun b o e => Heap.get?_push_of_some _ e) (Nat.le_refl _) (show ObjOk X.prog X.w _ _ _ (.tup ys) from ⟨hz, its, r', IsTup.new _ _⟩)
    exact ⟨.ref h'.objs.size, _, I2, rfl, q _ (I1.hok.fresh (Nat.le_refl _))⟩
  · obtain ⟨its, r', pl, hz⟩ := I.tuple hq
    exact call_tuple_same pl ⟨.ref p, H, I, rfl, q⟩

/-! ### the call of a builtin's method: o.m(..) -/
/-- the value is of that builtin type -/
def tyV (K : PySem.W.Frag) (T : String) (x : V) (H : Hp) : Prop := match x with
  | .str _ => T = "str"
  | .int _ => T = "int"
  | .ref p => (T = "list" ∧ ∃ xs, SqL K H p xs) ∨ (T = "tuple" ∧ ∃ o, K.lookup p = some o ∧ o.cls = .type "tuple" ∧ o.dict = none) ∨
      (T = "dict" ∧ ((∃ kvs, H p = some (.dK kvs)) ∨ ∃ kvs, H p = some (.dT kvs))) ∨ (T = "set" ∧ ∃ S n, H p = some (.set S n))
  | _ => False
theorem tyV_is {pins : List (Addr × Obj)} {σ : St} {H : Hp} {s : Shared} {T : String} {x : V} {v : Value} (I : Inv X pins σ H s) (r : RelV x v) (ty : tyV X.K T x H) :
    s.TypeIs v T ∧ ∀ a, v = .ref a → ∃ ob, s.heap.get? a = some ob ∧ ob.dict = none := by
  cases x with
  | str z =>
    obtain ⟨t, rfl⟩ := r
    cases (show T = "str" from ty)
    exact ⟨typeIs_str s z t, fun _ e => nomatch e⟩
  | int i =>
    obtain ⟨t, rfl⟩ := r
    cases (show T = "int" from ty)
    exact ⟨typeIs_int s i t, fun _ e => nomatch e⟩
  | ref p =>
    cases r
    rcases ty with ⟨rfl, xs, hq⟩ | ⟨rfl, o, hk, hc, hd⟩ | ⟨rfl, hk⟩ | ⟨rfl, S, n, hk⟩
    · obtain ⟨its, _, pl, _⟩ := I.list hq
      refine ⟨pl.isList.typeIs, fun a e => ?_⟩
      cases e
      obtain ⟨o, n, e, c, hd, _⟩ := pl
      exact ⟨o, e, hd⟩
    · refine ⟨⟨o, I.kIn p o hk, hc⟩, fun a e => ?_⟩
      cases e
      exact ⟨o, I.kIn _ o hk, hd⟩
    · have z : ∃ o, s.heap.get? p = some o ∧ o.ExactDict := by
        rcases hk with ⟨kvs, hk⟩ | ⟨kvs, hk⟩
        · obtain ⟨_, _, _, _, o, _, _, e, ex, _⟩ := I.hok p _ hk
          exact ⟨o, e, ex⟩
        · obtain ⟨_, _, _, _, o, _, _, e, ex, _⟩ := I.hok p _ hk
          exact ⟨o, e, ex⟩
      obtain ⟨o, e, ex⟩ := z
      refine ⟨⟨o, e, ex.1⟩, fun a e2 => ?_⟩
      cases e2
      exact ⟨o, e, ex.2.1⟩
    · obtain ⟨o, _, _, _, e, ex, _⟩ := I.hok p _ hk
      refine ⟨⟨o, e, ex.1⟩, fun a e2 => ?_⟩
      cases e2
      exact ⟨o, e, ex.2.1⟩
  | _ => exact False.elim ty
inductive tBM_ (K : PySem.W.Frag) (T : String) (r : V → List V → Hp → VK → Prop) (t : TA) (σ : St) (Q : VK) (x : V) (H1 : Hp) : Prop where
  | mk (h1 : tyV K T x H1) (h2 : t σ H1 fun xs H2 => r x xs H2 Q) : tBM_ K T r t σ Q x H1
def tBM (K : PySem.W.Frag) (T : String) (r : V → List V → Hp → VK → Prop) (to : TE) (t : TA) : TE := fun σ H Q => to σ H fun x H1 => tBM_ K T r t σ Q x H1
variable {o e : Expr} {es : List Expr} {to : TE} {t : TA} {name : Str} {apos cpos : Pos} {T id : String} {r : V → List V → Hp → VK → Prop}
theorem pe_bm (pa : PlainAttrs T) (slot : Slot T name id) (hty : typeOf (.builtin id) = pure (.type "method_descriptor")) (hm : MtR X id r) (ho : PE X o to) (ha : PA X (e :: es) t)
    (hbase : attributeBase o name X.env (eval o X.env) = eval o X.env := by rfl)
    (hfew : ((backTo cpos (starEach (e :: es) X.env)).all (fun x => !x.1) && (backToKw cpos (keywordEach [] X.env)).all (fun x => x.1.isSome)
      && decide ((e :: es).length + ([] : List Keyword).length + (if ([] : List Keyword).isEmpty then 0 else 1) < 30)) = true := by rfl)
    (hline : (apos.endLine == cpos.line) = true := by rfl) (hs : starEach (e :: es) X.env = (false, eval e X.env) :: starEach es X.env := by rfl) (hplain : (backTo cpos (starEach es X.env)).any (·.1) = false := by rfl) :
    PE X (.Call (.Attribute o name apos) (e :: es) [] cpos) (tBM X.K T r to t) := by
  intro pins s σ H Q I h
  refine wpAny_Call_method_late hbase hfew hline rfl (thn (ho pins s σ H _ I h) fun v s1 ⟨x, H1, I1, r1, ty, q1⟩ => ?_)
  obtain ⟨h1, h2⟩ := tyV_is I1 r1 ty
  refine ⟨T, id, pa, slot, hty, h1, h2, ?_⟩
  have hA := ha cpos pins s1 σ H1 _ I1 q1
  rw [hs] at hA ⊢
  refine Calls.callWith_builtin (by show (false || (backTo cpos (starEach es X.env)).any (·.1)) = false; rw [hplain] <;> rfl) (Calls.evalArgs_plain ?_)
  exact thn hA fun us s2 ⟨vs, H2, I2, r2, q2⟩ => hm pins s2 σ H2 x vs v us Q I2 r1 r2 q2
/- xs.append(e), list.index on a module's tuple .. are MtR facts of 06m -/
end
end L2

namespace L2
open PySem PySem.Spec PyProof.Rows

def MtM (X : Cx) (id : String) (r : V → List V → Hp → VK → Prop) : Prop :=
  ∀ (pins : List (Addr × Obj)) (s : Shared) (σ : St) (H : Hp) (x : V) (xs : List V) (v : Value) (us : List Value) (Q : VK), Inv X pins σ H s → RelV x v → Vals xs us → r x xs H Q →
    wpAny (model X.prog X.w) X.A (call (.builtin id) (v :: us)) (EP X pins σ Q) X.xe s

/-! ### lists of values -/
theorem Vals.one : ∀ {x : V} {us : List Value}, Vals [x] us → ∃ u, us = [u] ∧ RelV x u
  | _, _, .cons r .nil => ⟨_, rfl, r⟩
section
variable {X : Cx} {pins : List (Addr × Obj)} {σ : St} {H : Hp} {s : Shared} {l b : Addr} {xs ys zs : List V}

/-! ### the two steps: a tracked list is rewritten, a new list is laid -/
theorem Inv.lset {its its' : List Value} {n : Nat} {f : Array Value → Array Value} {t' : Nat} (I : Inv X pins σ H s) (hH : H l = some (.lst xs))
    (e : s.heap.get? l = some { cls := .type "list", data := .seq its.toArray n }) (hf : f its.toArray = its'.toArray) (hv : Vals ys its') (hz : ys.length ≤ sizeLine) :
    Inv X pins σ (upd H l (.lst ys)) { s with heap := s.heap.update l (Obj.mapSeq f), toks := t' } := by
  have q := PySem.IsL.update e f
  rw [hf] at q
  refine I.write (x := l) (e := l) (by rw [hH]; exact trivial) (.inl rfl) (fun b' u hb hu => (Heap.get?_update_other s.heap (Obj.mapSeq f) (Ne.symm hb)).trans hu) ⟨_, q⟩ ?_
  exact ⟨hz, its', _, hv, q⟩
theorem Inv.lnew {its : List Value} {t' : Nat} (I : Inv X pins σ H s) (hv : Vals ys its) (hz : ys.length ≤ sizeLine) :
    Inv X pins σ (upd H s.heap.objs.size (.lst ys)) { s with heap := s.heap.push { cls := .type "list", data := .seq its.toArray }, toks := t' } :=
  I.laid (fun _ _ q => Heap.get?_push_of_some _ q) (Nat.le_refl _) ⟨hz, its, 0, hv, Heap.get?_push_size _ rfl⟩
theorem Inv.fresh (I : Inv X pins σ H s) : H s.heap.objs.size = none := I.hok.fresh (Nat.le_refl _)
theorem Inv.lstM (I : Inv X pins σ H s) (hH : H l = some (.lst xs)) : xs.length ≤ sizeLine ∧ ∃ (its : List Value) (n : Nat), Vals xs its ∧ xs.length = its.length ∧ s.heap.get? l = some { cls := .type "list", data := .seq its.toArray n } := by
  obtain ⟨z, its, n, r, e⟩ := I.hok l _ hH
  exact ⟨z, its, n, r, r.length, e⟩

theorem notLongL {n : Nat} (h : n ≤ sizeLine) : Builtin.List.listTooLong n = false := by
  unfold Builtin.List.listTooLong
  exact decide_eq_false (by omega)
end

section
variable {X : Cx}

/-! ### methods -/
inductive rAppend (x : V) (vs : List V) (H : Hp) (Q : VK) : Prop where
  | mk (l : _) (xs : _) (y : _) (h1 : x = .ref l) (h2 : vs = [y]) (h3 : H l = some (.lst xs)) (h4 : xs.length < sizeLine) (h5 : Q .non (upd H l (.lst (xs ++ [y])))) : rAppend x vs H Q
theorem mt_append : MtM X "list.append" rAppend := by
  intro pins s σ H x vs v us Q I rx rv h
  obtain ⟨l, xs, y, rfl, rfl, hH, hz, q⟩ := h
  cases rx
  obtain ⟨u, rfl, ru⟩ := rv.one
  obtain ⟨z, its, n, r, hl, e⟩ := I.lstM hH
  refine call_meets F.slot_list_append ⟨_, e, rfl⟩ F.entry_list_append (F.args_list_append_2 _ _) (PySem.list_append l its.toArray n u (by rw [List.size_toArray]; omega)) ⟨e, ?_⟩
  refine ⟨.non, _, I.lset (its' := its ++ [u]) hH e (by simp) (r.append (.cons ru .nil)) ?_, rfl, q⟩
  rw [List.length_append, List.length_singleton]
  omega

inductive rExtend (x : V) (vs : List V) (H : Hp) (Q : VK) : Prop where
  | mk (l : _) (b : _) (xs : _) (zs : _) (h1 : x = .ref l) (h2 : vs = [.ref b]) (h3 : H l = some (.lst xs)) (h4 : H b = some (.lst zs)) (h5 : xs.length + zs.length ≤ sizeLine) (h6 : Q .non (upd H l (.lst (xs ++ zs)))) : rExtend x vs H Q
theorem mt_extend : MtM X "list.extend" rExtend := by
  intro pins s σ H x vs v us Q I rx rv h
  obtain ⟨l, b, xs, zs, rfl, rfl, hH, hB, hz, q⟩ := h
  cases rx
  obtain ⟨u, rfl, ru⟩ := rv.one
  cases ru
  obtain ⟨z, its, n, r, hl, e⟩ := I.lstM hH
  obtain ⟨z2, its2, n2, r2, hl2, e2⟩ := I.lstM hB
  have hsz : its.toArray.size + its2.toArray.size ≤ sizeLine := by rw [List.size_toArray, List.size_toArray]; omega
  have hlong : ¬ (!its.toArray.isEmpty && Builtin.List.listTooLong (its.toArray.size + its2.toArray.size)) = true := by
    rw [notLongL hsz, Bool.and_false]
    exact Bool.false_ne_true
  refine call_meets F.slot_list_extend ⟨_, e, rfl⟩ F.entry_list_extend (F.args_list_extend_2 _ _)
    (AutoSeq1.list_extend_list_list_0 l its.toArray n b its2.toArray n2 hlong (by rw [List.size_toArray]; omega) (by omega)) ⟨e, e2, ?_⟩
  refine ⟨.non, _, I.lset (its' := its ++ its2) hH e (by simp) (r.append r2) ?_, rfl, q⟩
  rw [List.length_append]
  omega

/-! ### list + list, list += list, list * int -/
inductive rCat (x : V) (y : V) (H : Hp) (Q : VK) : Prop where
  | mk (l : _) (b : _) (xs : _) (zs : _) (h1 : x = .ref l) (h2 : y = .ref b) (h3 : H l = some (.lst xs)) (h4 : H b = some (.lst zs)) (h5 : xs.length + zs.length ≤ sizeLine) (h6 : ∀ p, H p = none → Q (.ref p) (upd H p (.lst (xs ++ zs)))) : rCat x y H Q
theorem op_cat : OpR X (binaryOp .Add) rCat := by
  intro pins s σ H x y v u Q I rx ry h
  obtain ⟨l, b, xs, zs, rfl, rfl, hH, hB, hz, q⟩ := h
  cases rx
  cases ry
  obtain ⟨z, its, n, r, hl, e⟩ := I.lstM hH
  obtain ⟨z2, its2, n2, r2, hl2, e2⟩ := I.lstM hB
  refine PySem.P.add_list e e2 ?_ (by rw [List.size_toArray, List.size_toArray]; omega)
  have ea : its.toArray ++ its2.toArray = (its ++ its2).toArray := by simp
  rw [ea]
  exact ⟨.ref _, _, I.lnew (t' := s.toks) (r.append r2) (by rw [List.length_append]; omega), rfl, q _ I.fresh⟩
/-! ### del xs[i] -/
end

/-! ### xs[a:b] = ys -/
section
variable {prog : Program} {w : World} {A : Around} {E : Value → Shared → Prop} {s : Shared}
theorem bounds_run {a c n : Nat} (hac : a ≤ c) (hc : c ≤ n) : sliceBounds (some (a : Int)) (some (c : Int)) none n = ((a : Int), (c : Int), 1) := by
  simp only [sliceBounds, Option.getD_none]
  have h1 : ¬ ((a : Int) < 0) := by omega
  have h2 : ¬ ((c : Int) < 0) := by omega
  simp only [h1, h2, if_false, show (1 : Int) > 0 by decide, if_true]
  congr 1
  · omega
  · congr 1; omega
set_option maxRecDepth 100000 in
/-- list.__setitem__ with a slice of step one and another list -/
theorem setItem_slice {l b sl : Addr} {items new : Array Value} {n n2 : Nat} {vl vu : Value} {a c : Nat} {Q : Unit → Shared → Prop}
    (e : s.heap.get? l = some { cls := .type "list", data := .seq items n }) (e2 : s.heap.get? b = some { cls := .type "list", data := .seq new n2 }) (hne : l ≠ b)
    (hs : s.heap.IsSliceOf sl vl vu .none) (pl : IsPart vl (some (a : Int))) (pu : IsPart vu (some (c : Int))) (hac : a ≤ c) (hc : c ≤ items.size)
    (hsz : items.size + new.size ≤ sizeLine) (h : Q () { s with heap := s.heap.update l (Obj.mapSeq fun xs => xs.extract 0 a ++ new ++ xs.extract c xs.size) }) :
    wpAny (model prog w) A (setItem (.ref l) (.ref sl) (.ref b)) Q E s := by
  have hl : s.heap.IsList l items := PySem.IsL.isList e
  have hb : s.heap.IsList b new := PySem.IsL.isList e2
  obtain ⟨os, hos, hcs, hds⟩ := id hs
  have hTs : s.TypeIs (.ref sl) "slice" := ⟨os, hos, hcs⟩
  have hstep : ¬ ((rawPart none == rawInt 0) = true) := Bool.false_ne_true
  have hsame : Builtin.List.listSameRef (.ref l) (.ref b) = false := by
    unfold Builtin.List.listSameRef
    exact beq_eq_false_iff_ne.mpr hne
  have hmax : (max (a : Int) (c : Int)).toNat = c := by omega
  have hz' : ((fun xs : Array Value => xs.extract 0 a ++ new ++ xs.extract c xs.size) items).size ≤ sizeLine + 1 := by
    simp only [Array.size_append, Array.size_extract]
    omega
  unfold setItem
  try with_reducible refine wpAny_holding ?_
  first | refine wpAny_bind (wpAny_pure ?_) | skip
  refine wpAny_bind (wpAny_sequenceKey hl.typeIs (by decide) ?_)
  refine wpAny_bind (wpAny_callSpecial?_slot (name := Str.ofString "__setitem__") hl.typeIs slot_list_setitem
    (wpAny_call_entry slot_list_setitem hl.typeIs entry_list_setitem ?_ (args_list_setitem _ _ _)))
  show wpAny _ _ (Builtin.List.listSubscript? (.ref sl) >>= _) _ _ s
  refine wpAny_bind ?_
  unfold Builtin.List.listSubscript?
  refine wpAny_bind (wpAny_specialOf hTs slice_no_index ?_)
  simp only [Option.isNone_none, if_true]
  refine wpAny_pure ?_
  show wpAny _ _ (typeOf (.ref sl) >>= _) _ _ s
  refine wpAny_bind (wpAny_typeOf hTs ?_)
  first
    | rw [if_neg (by decide)]
    | refine PySem.W.KFB.if_not (by decide) ?_
  rw [listSliceParts_eq]
  refine wpAny_bind (wpAny_bind (wpAny_field hos hds (x := .none) rfl (wpAny_bind (wpAny_listPart .none ?_))))
  rw [if_neg hstep]
  refine wpAny_bind (wpAny_field hos hds (x := vl) rfl (wpAny_bind (wpAny_listPart pl ?_)))
  refine wpAny_bind (wpAny_field hos hds (x := vu) rfl (wpAny_bind (wpAny_listPart pu (wpAny_pure ?_))))
  first
    | simp only [hsame, Bool.false_eq_true, if_false]
    | refine PySem.W.KFB.if_not hsame ?_
    | (dsimp only
       rw [if_neg (by rw [hsame]; exact Bool.false_ne_true)])
  refine wpAny_bind (m := Builtin.List.listAllItems (.ref b) "must assign iterable to extended slice") ?_
  unfold Builtin.List.listAllItems
  refine wpAny_bind (wpAny_typeOf hb.typeIs ?_)
  first
    | refine PySem.W.KFB.if_so (by decide) ?_
    | rw [if_pos (by decide)]
    | simp only [beq_self_eq_true, Bool.true_or, if_true]
  unfold Builtin.List.listItems
  refine wpAny_bind (wpAny_seqItems e2 rfl (wpAny_pure ?_))
  refine wpAny_bind (wpAny_bind (wpAny_seqItems e rfl (wpAny_pure ?_)))
  refine wpAny_bind (wpAny_of_eq ((sliceIndices_raw (some (a : Int)) (some (c : Int)) none items.size (by simp)).trans (congrArg (pure : Int × Int × Int → Sem (Int × Int × Int)) (bounds_run hac hc))) ?_)
  show wpAny _ _ (if ((1 : Int) == 1) = true then _ else _) _ _ s
  rw [if_pos (by decide)]
  refine wpAny_bind (wpAny_rule ?_)
  first
    | simp only [notLongL hsz, Bool.false_eq_true, if_false]
    | refine PySem.W.KFB.if_not (notLongL hsz) ?_
  first | refine wpAny_bind (wpAny_pure ?_) | skip
  show wpAny _ _ (updateSeq l (fun xs => xs.extract 0 ((a : Int)).toNat ++ new ++ xs.extract (max (a : Int) (c : Int)).toNat xs.size) >>= _) _ _ s
  rw [hmax, Int.toNat_natCast]
  refine wpAny_bind (wpAny_updateSeq (hz := Nat.le_trans (Nat.le_add_right _ _) hsz) (_hz' := hz') e rfl ?_)
  refine wpAny_bind (wpAny_letGo ?_)
  first
    | exact wpAny_bind (wpAny_pure (wpAny_pure ⟨.none, rfl, wpAny_pure h⟩))
    | exact wpAny_pure ⟨.none, rfl, wpAny_pure h⟩
end

section
variable {X : Cx}
end
end L2

namespace Att
open PySem PySem.W PySem.Calls PyProof.Rows

/-! ### the script -/
theorem ints_of_wellAll {P : Params} {h : Heap} : ∀ (ns : List Int) (vs : List Value), WellAll P h vs (ns.map WData.int) → IntsAre vs ns := by
  intro ns
  induction ns with
  | nil =>
    intro vs w
    rw [List.map_nil] at w
    cases w
    exact .nil
  | cons n ns ih =>
    intro vs w
    rw [List.map_cons] at w
    cases w with
    | cons a b =>
      cases a
      exact .cons _ _ (ih _ b)

theorem script_of {l : OpenLaw} {n : Nat} (hn : l.most = some n) {P : Params} {h : Heap} {args : List WData} {vals : List Value}
    (hpre : l.row.toRowW.claim.pre args = true) (hwl : WellAll P h vals args) :
    ∃ a vs ns, vals = [Value.ref a] ∧ args = [WData.list (ns.map WData.int)] ∧ h.get? a = some { cls := .type "list", data := .seq vs.toArray } ∧ IntsAre vs ns ∧ ns.length ≤ n := by
  have hsh : WShape.hasAll [] args [.list .int] = true := (pre_splitW hpre).1
  have hc : l.pre.holds [] { args := args } = true := (pre_splitW hpre).2
  obtain ⟨d, r, rfl, h1, h2⟩ := hasAllW_cons hsh
  obtain rfl := hasAllW_nil h2
  obtain ⟨xs, rfl, h3⟩ := hasW_list h1
  obtain ⟨ns, rfl⟩ := items_int h3
  have hlen : ns.length ≤ n := by
    unfold OpenLaw.pre at hc
    have h4 : (WTm.not (.lt (.lit (.int (n : Int))) (.len (.arg 0)))).holds [] { args := [.list (ns.map .int)] } = true := by
      have h4 := (holds_andW hc).1
      rw [hn] at h4
      exact h4
    have h5 := condW_of h4 (w_not (w_lt w_lit (w_len_list (w_arg rfl))))
    rw [List.length_map] at h5
    refine Nat.le_of_not_lt fun q => ?_
    have q' : (n : Int) < ((ns.length : Nat) : Int) := by omega
    first
      | (rw [decide_eq_true q'] at h5; exact absurd h5 (by decide))
      | (simp at h5; omega)
  cases hwl with
  | cons w1 w2 =>
    cases w2
    cases w1 with
    | list ho hall => exact ⟨_, _, ns, rfl, rfl, ho, ints_of_wellAll ns _ hall, hlen⟩

theorem post_true (l : OpenLaw) (args : List WData) : l.row.toRowW.claim.post args (.bool true) args = true :=
  postW_of (r := l.row.toRowW) (X := (true == true))
    (show WShape.has [] (.bool true) .bool = true by first | rfl | decide | simp [WShape.has, WShape.arms, WShape.armsAll])
    (show (WTm.eq .res (.lit (.bool true))).value [] { args := args, res := some (.bool true), after := args } = some (.bool (true == true)) from w_eq_bool (w_res rfl) w_lit) rfl

/-! ### the attachment: holds_open's last premise (the goal 'hc' behind k_head) from a wpAny of the law's body -/
/-- the same from a codeAny of the CALL (for a layer whose function contracts speak of calls) -/
theorem attach_call {l : OpenLaw} {n : Nat} {q : Program} {loose : List Str} {XP : (Str → Option Value) → Heap → Prop} {YP : World → Heap → Prop} {d : DefRec}
    (hn : l.most = some n) (hdf : d.params.defaults = [])
    (call : ∀ (w : World) (s₀ s₁ : Shared) (mg mb : Str → Option Value) (fa : Addr) (o : Obj) (pm cd doc : Value) (a : Addr) (vs : List Value) (ns : List Int),
      Ground q loose [] XP w s₀ mg mb s₁.heap → YP w s₁.heap →
      s₁.heap.get? fa = some o → o.data = .func (docDef d.name d.params d.body d.scope pm cd doc) → s₁.heap.CodeRec cd d.name → mg d.name = some (.ref fa) →
      s₁.heap.get? a = some { cls := .type "list", data := .seq vs.toArray } → IntsAre vs ns → ns.length ≤ n → s₁.gens = #[] →
      codeAny (model l.prog w) callerA (.call (.ref fa) ⟨[.ref a], []⟩) (fun r s' => r = .ok (.ret (.bool true)) ∧ OldK s₁.heap s'.heap ∧ s'.os = s₁.os ∧ AllBare s'.gens) s₁) :
    WalkO q loose XP YP l.row.toRowW d [] (fun f vs => PySem.call f vs) := by
  intro w s₀ s₁ mg mb G Y fa o pm cd doc dV kV ho hd hcd hD hmg hg args vals as hpre hlay hrd hwl hlo
  obtain rfl : dV = .none := Dflts.none hD hdf
  obtain rfl : kV = .none := Dflts.noKw hD
  obtain ⟨a, vs, ns, rfl, rfl, hobj, hints, hlen⟩ := script_of hn hpre hwl
  refine enter_call (codeAny_mono (call w s₀ s₁ mg mb fa o pm cd doc a vs ns G Y ho (fd_plain hd) hcd hmg hobj hints hlen hg) fun r s' hq => ?_)
  obtain ⟨rfl, h2, h3, h4⟩ := hq
  exact ⟨.inl ⟨.bool true, .bool true, [], rfl, fun _ => rfl, .bool true, post_true l _, fun _ => ⟨List.Pairwise.nil, fun _ hm => (nomatch hm)⟩⟩, h2, h3, h4⟩

/-! ### rules over ANY heap (no ledger) from facts about the written part K: the library's own take a ledger (News) for what they write -/
section
variable {prog : Program} {w : World} {A : Around} {E : Value → Shared → Prop} {s : Shared} {K : Frag}

/-! the whole heap as the ledger: makes every rule that writes through a ledger a rule over any heap -/
end
end Att

namespace L2
open PySem PySem.Spec PyProof.Rows

theorem vals_ints : ∀ {vs : List Value} {ns : List Int}, IntsAre vs ns → Vals (ns.map V.int) vs
  | _, _, .nil => .nil
  | _, _, .cons n t h => .cons ⟨t, rfl⟩ (vals_ints h)

/-- nothing is tracked but the script, known to the object (or it is an object of the module) -/
def Only (H : Hp) : Prop := ∀ b, H b = none ∨ ∃ o xs, H b = some (.frz o (.lst xs))

/-- THE HEAD: the law's promise, at the heap behind the top. F, the promise of the law's def, may use that base is part of the heap (so K.In base, base.Ns mainGlobals mg stand in Mod) -/
theorem law_call {P : Program} {w : World} {K : PySem.W.Frag} {mg mb : Str → Option Value} {CX : CXT} {k : Nat} {fa a : Addr} {fd : FuncData} {x : Str} {sp : Sp} {s₁ : Shared} {vs : List Value} {ns : List Int}
    (KX : K.In s₁.heap) (hns : s₁.heap.Ns mainGlobals mg) (hb : s₁.heap.Ns builtinsNs mb) (hbb : ∀ x : Str, x ≠ "__name__" → mb x = bootBuiltins x) (hlim : s₁.heap.NoLimit) (hg : s₁.gens = #[])
    (ha : s₁.heap.get? a = some { cls := .type "list", data := .seq vs.toArray }) (hi : IntsAre vs ns) (hl : ns.length ≤ sizeLine) (hr : Room k callerA)
    (F : ∀ base : Heap, K.In base → base.Ns mainGlobals mg → FnOk P w K mg base CX k fa fd [x] sp) (hbind : ∀ (s : Shared) (u : Value), BindsTo s fd ⟨[u], []⟩ [(x, u)])
    (hsp : ∀ H : Hp, Only H → SqL K H a (ns.map V.int) → sp [.ref a] H (fun v _ => v = .bl true) fun _ _ _ => False)
    (hCX : ∀ H e s', CX [] H s₁ (fun _ _ _ => False) e s' → False) :
    codeAny (model P w) callerA (.call (.ref fa) ⟨[.ref a], []⟩) (fun r s' => r = .ok (.ret (.bool true)) ∧ OldK s₁.heap s'.heap ∧ s'.os = s₁.os ∧ AllBare s'.gens) s₁ := by
  have rv := vals_ints hi
  have lenV := hi.length
  -- from an abstract heap in which nothing but the script may be tracked
  have core : ∀ H : Hp, Only H → SqL K H a (ns.map V.int) → HOk P w H s₁.heap → (∀ b, H b ≠ none → b = a) → (H a ≠ none → K.lookup a = none) →
      codeAny (model P w) callerA (.call (.ref fa) ⟨[.ref a], []⟩) (fun r s' => r = .ok (.ret (.bool true)) ∧ OldK s₁.heap s'.heap ∧ s'.os = s₁.os ∧ AllBare s'.gens) s₁ := by
    intro H hO hS hok hA hK
    have base_of : ∀ {b : Addr} {o : Obj}, s₁.heap.get? b = some o → H b = none → (hidT s₁.heap H).get? b = some o := fun e n => hidT_get e n
    have noA : ∀ {b : Addr} {o : Obj} {es : Array DictEntry} {ep : Nat}, s₁.heap.get? b = some o → o.data = .dict es ep → H b = none := fun {b o es ep} e d => by
      cases q : H b with
      | none => rfl
      | some u =>
        have e' : b = a := hA b (by rw [q]; simp)
        subst e'
        rw [ha] at e; cases e
        have d' : Data.seq vs.toArray _ = Data.dict es ep := d
        cases d'
    have nsK : ∀ {b : Addr} {m : Str → Option Value}, s₁.heap.Ns b m → (hidT s₁.heap H).Ns b m := fun {b m} ⟨o, es, ep, e, d, r⟩ => ⟨o, es, ep, base_of e (noA e d), d, r⟩
    have hKb : K.In (hidT s₁.heap H) := fun b o e => base_of (KX b o e) (by
      cases q : H b with
      | none => rfl
      | some u =>
        have e' : b = a := hA b (by rw [q]; simp)
        subst e'
        rw [hK (by rw [q]; simp)] at e; cases e)
    have hM : Mod K mg (hidT s₁.heap H) := ⟨hKb, nsK hns, ⟨mb, nsK hb, hbb⟩, let ⟨mc, h1, h2⟩ := hlim; ⟨mc, nsK h1, h2⟩⟩
    have e0 : Env0 P w K mg (hidT s₁.heap H) callerA [] s₁ H := ⟨rfl, hM, fun b o e => of_hidT e, Nat.le_of_eq (hidT_size _ _), trivial, fun b hb => absurd (show b ∈ ([] : List Addr) from hb) (by simp), hok, .of_eq hg⟩
    refine codeAny_mono ((F _ hKb (nsK hns)).run callerA [] s₁ H ⟨[.ref a], []⟩ [.ref a] [.ref a] _ _ hr e0 (hbind s₁ (.ref a)) (.cons rfl .nil) (hsp H hO hS)) fun r s' h => ?_
    cases r with
    | error e => exact (hCX H e s' h).elim
    | ok fl =>
      cases fl with
      | next => exact False.elim h
      | brk => exact False.elim h
      | cont => exact False.elim h
      | ret u =>
        obtain ⟨v, H', os, bare, un, hok', r', q⟩ := h
        have q' : v = .bl true := q
        subst q'
        obtain rfl : u = Value.bool true := r'
        refine ⟨rfl, OldK.of_keep fun b o e => ?_, os, bare⟩
        cases q : H b with
        | none => exact un.keep b o e q (by intro z; exact absurd (show b ∈ ([] : List Addr) from z) (by simp)) (by simp)
        | some u =>
          rcases hO b with z | ⟨ob, xs, z⟩
          · rw [q] at z; cases z
          · have z2 := un.frzs b ob _ z
            obtain ⟨e1, _⟩ := hok b _ z
            obtain ⟨e2, _⟩ := hok' b _ z2
            rw [e] at e1; cases e1
            exact e2
  cases hk : K.lookup a with
  | some o =>
    -- the script is one of the module's own objects
    have e := KX a o hk
    rw [ha] at e
    cases e
    refine core (fun _ => none) (fun _ => .inl rfl) (.inr ⟨_, vs.toArray, _, hk, rfl, rfl, rfl, by rw [List.size_toArray, lenV]; exact hl, by simpa using rv⟩) (fun b u z => by have z' : (none : Option HO) = some u := z; cases z') (fun b z => absurd rfl z) fun z => absurd rfl z
  | none =>
    refine core (fun b => if b = a then some (.frz { cls := .type "list", data := .seq vs.toArray } (.lst (ns.map V.int))) else none) (fun b => ?_) (.inl (.inr ⟨{ cls := .type "list", data := .seq vs.toArray }, if_pos rfl⟩)) (fun b u z => ?_) (fun b z => ?_) fun _ => hk
    · by_cases hb : b = a
      · exact .inr ⟨_, _, if_pos hb⟩
      · exact .inl (if_neg hb)
    · by_cases hb : b = a
      · have z' := (if_pos hb).symm.trans z
        cases z'
        subst hb
        exact ⟨ha, by rw [List.length_map]; exact hl, vs, _, rv, ha⟩
      · have z' := (if_neg hb).symm.trans z
        cases z'
    · by_cases hb : b = a
      · exact hb
      · exact absurd (if_neg hb) z
end L2

namespace L2
open PySem PySem.Spec PyProof.Rows

/-- the goal that k_head leaves (case hc), from the law's promise. F gives the function object fd (K's own) once, then the promise over every base -/
theorem walk_of {l : PySem.W.OpenLaw} {n k : Nat} {q : Program} {loose : List Str} {XP : (Str → Option Value) → Heap → Prop} {YP : World → Heap → Prop} {d : DefRec} {K : Params → PySem.W.Frag} {CX : World → CXT} {sp : World → Sp} {x : Str}
    (hn : l.most = some n) (hn2 : n ≤ sizeLine) (hdf : d.params.defaults = []) (hr : Room k callerA)
    (hY : ∀ (w : World) (h : Heap), YP w h → (K w.params).In h)
    (F : ∀ (w : World) (mg : Str → Option Value) (fa : Addr) (h : Heap), (K w.params).In h → h.Ns mainGlobals mg → mg d.name = some (.ref fa) →
      ∃ fd : FuncData, (∀ (s : Shared) (u : Value), BindsTo s fd ⟨[u], []⟩ [(x, u)]) ∧
        ∀ base : Heap, (K w.params).In base → base.Ns mainGlobals mg → FnOk l.prog w (K w.params) mg base (CX w) k fa fd [x] (sp w))
    (hsp : ∀ (w : World) (H : Hp) (a : Addr) (ns : List Int), ns.length ≤ n → Only H → SqL (K w.params) H a (ns.map V.int) → sp w [.ref a] H (fun v _ => v = .bl true) fun _ _ _ => False)
    (hCX : ∀ (w : World) (H : Hp) (s : Shared) (e : Value) (s' : Shared), CX w [] H s (fun _ _ _ => False) e s' → False) :
    PySem.W.WalkO q loose XP YP l.row.toRowW d [] (fun f vs => PySem.call f vs) := by
  refine Att.attach_call hn hdf fun w s₀ s₁ mg mb fa o pm cd doc a vs ns G Y ho hd hcd hmg hobj hints hlen hg => ?_
  have KX := hY w _ Y
  obtain ⟨fd, hb, hF⟩ := F w mg fa _ KX G.T.g hmg
  exact law_call KX G.T.g G.T.b G.T.builtins G.T.nolimit hg hobj hints (Nat.le_trans hlen hn2) hr hF hb (fun H hO hS => hsp w H a ns hlen hO hS) fun H e s' => hCX w H s₁ e s'
end L2

/- THE LAST THEOREM (shape; LID, My.* are yours):
   My.Adr: a structure of the addresses that your layer names (classes, functions); My.Txt K t: a structure (Prop) of the equations over K;
   My.txt_mk : {K} {implicit addresses ..} (e1 : nsIn K mainGlobals "law" = some (some (.ref f))) (e2 : K.lookup f = some ⟨oc, od, .func (fnOf "law" "law" params body scope dV kV doc pm an cdv ct), sl⟩) (e3 : codeIn K cdv "law" = true) .. : ∃ t, My.Txt K t

set_option maxRecDepth 100000 in
set_option maxHeartbeats 0 in
theorem PySem.Challenge.cw_LID_holds : PySem.Challenge.rw_LID.Holds := by
  w_on; o_law; k_head; (case hw => w_witness2)
  k_fill
  refine L2.walk_of (l := PySem.Challenge.rw_LID) (n := 63) (k := 40) (x := "script") (CX := fun w => ..) (sp := fun _ => My.sp_law) rfl (by decide) rfl ⟨rfl, by decide, by decide⟩ (fun w h Y => PySem.W.kIn_of Y) ?F ?S ?C
  case F =>
    intro w mg fa h KX G hmg
    have T : ∃ t, My.Txt (L2.KOf KX) t := by
      dsimp only [L2.KOf]                          -- K must stand as «<heap const> w.params» for k_is
      refine' My.txt_mk ?e1 ?e2 ?e3 ..
      (case e1 => PySem.W.k_is)                    -- in the order: a name -> its address -> its object -> its parts
      (case e2 => PySem.W.k_is)
      ..
    obtain ⟨t, T⟩ := T
    have e0 := hmg.symm.trans (PySem.W.mg_of KX G T.law)
    cases e0                                       -- fa is the law's own address
    exact ⟨_, fun s u => .of_eq rfl, fun base kb nb => My.law_fn T kb nb⟩     -- if «.of_eq rfl» comes too early: refine' ⟨_, ?b, fun base kb nb => My.law_fn T kb nb⟩; exact fun s u => .of_eq rfl
  case S => exact fun w H a ns hl hO hS => ..
  case C => exact ..
(the tactic k_is has no namespace: write k_is) -/

/-! SHORT WORDS over the layer: a def of the text, its body, what a loop and a test want. -/
namespace L2
open PySem PySem.Spec PyProof.Rows

/-! ### the text by places -/
def defArgs (s : Stmt) : Arguments := match s with
  | .FunctionDef _ a _ _ _ _ _ _ _ _ => a
  | _ => { posonlyargs := [], args := [], vararg := none, kwonlyargs := [], kw_defaults := [], kwarg := none, defaults := [] }
def defBody (s : Stmt) : List Stmt := match s with
  | .FunctionDef _ _ b _ _ _ _ _ _ _ => b
  | _ => []
def defScope (s : Stmt) : Scope := match s with
  | .FunctionDef _ _ _ _ _ _ sc _ _ _ => sc
  | _ => { kind := .function, names := [], isGenerator := false, isCoroutine := false }

/-! ### no exception leaves a def -/
abbrev CX0 : CXT := fun _ _ _ _ _ _ => False
abbrev E0 : XK := fun _ _ _ => False
theorem pass0 {X : Cx} : Passes CX0 X E0 := fun _ _ _ _ _ _ _ h => h.elim

/-! ### a def (or method) of the text as it stands behind the top -/
structure Fun (K : PySem.W.Frag) (x qual : Str) (st : Stmt) (f : Addr) (fd : FuncData) : Prop where
  ex : ∃ (oc : Value) (od : Option Addr) (kV doc pm : Value) (an : Option Addr) (cdv ct : Value) (osl : Array (Option Value)),
    fd = PySem.W.fnOf x qual (defArgs st) (defBody st) (defScope st) .none kV doc pm an cdv ct ∧ K.lookup f = some ⟨oc, od, .func fd, osl⟩ ∧ PySem.W.codeIn K cdv qual = true
  kp : PySem.W.keepIn K (.ref f) = true
section
variable {P : Program} {w : World} {K : PySem.W.Frag} {mg : Str → Option Value} {base : Heap}
/-- THE RULE for a def: its body as a term of rules, and the reading of that term -/
theorem Fun.ok {x qual : Str} {st : Stmt} {f : Addr} {fd : FuncData} {N ps : List Str} {k : Nat} {sp : Sp} (F : Fun K x qual st f fd) (S : FnScope N ps (defScope st)) (len : ∀ vs H Q E, sp vs H Q E → vs.length = ps.length)
    (hbody : ∀ (cdv : Value) (A : Around) (outer : List Env) (s : Shared) (H : Hp) (vs : List V) (Q : VK) (E : XK), Room k (A.deeper (envOfC qual (defScope st) s.heap.objs.size f cdv)) → sp vs H Q E →
      ∃ t, PSs (cxOf CX0 P w K mg base N qual (defScope st) f cdv A outer s H E).nox (defBody st) t ∧ t { nx := fun _ H' => Q .non H', rt := Q } (start N vs) H) : FnOk P w K mg base CX0 (k + 1) f fd ps sp := by
  obtain ⟨oc, od, kV, doc, pm, an, cdv, ct, osl, rfl, lk, hcd⟩ := F.ex
  refine fn_of lk hcd S len fun A outer s H vs Q E hr hsp => ?_
  obtain ⟨t, h, q⟩ := hbody cdv A outer s H vs Q E hr hsp
  exact ⟨t, h.nox, q⟩
/-- how its arguments bind (no defaults): h is «fun _ _ _ _ _ _ us hl => match us, hl with | [_, _], _ => rfl», one _ a parameter -/
theorem Fun.binds {x qual : Str} {st : Stmt} {f : Addr} {fd : FuncData} {ps : List Str} (F : Fun K x qual st f fd)
    (h : ∀ (kV doc pm : Value) (an : Option Addr) (cdv ct : Value) (us : List Value), us.length = ps.length → bindArgs (PySem.W.fnOf x qual (defArgs st) (defBody st) (defScope st) .none kV doc pm an cdv ct) ⟨us, []⟩ = pure (ps.zip us)) : Binds K fd ps [] := by
  obtain ⟨oc, od, kV, doc, pm, an, cdv, ct, osl, rfl, lk, hcd⟩ := F.ex
  exact .all (h kV doc pm an cdv ct)
theorem fun_mk {x qual : Str} {st : Stmt} {f : Addr} {oc : Value} {od an : Option Addr} {osl : Array (Option Value)} {kV doc pm cdv ct : Value} (l : K.lookup f = some ⟨oc, od, .func (PySem.W.fnOf x qual (defArgs st) (defBody st) (defScope st) .none kV doc pm an cdv ct), osl⟩)
    (c : PySem.W.codeIn K cdv qual = true) (k : PySem.W.keepIn K (.ref f) = true) : Fun K x qual st f (PySem.W.fnOf x qual (defArgs st) (defBody st) (defScope st) .none kV doc pm an cdv ct) := ⟨⟨oc, od, kV, doc, pm, an, cdv, ct, osl, rfl, l, c⟩, k⟩
end
/-! ### expressions in short: the name that stands in the i-th slot -/
section
variable {X : Cx}
end

/-! ### tests -/
theorem iteF {A B : Prop} (h : B) : if false = true then A else B := by
  rw [if_neg Bool.false_ne_true]
  exact h
theorem iteT {A B : Prop} (h : A) : if true = true then A else B := by
  rw [if_pos rfl]
  exact h
theorem ite2 {c A B : Prop} [Decidable c] (h1 : c → A) (h2 : ¬ c → B) : if c then A else B := by
  by_cases h : c
  · rw [if_pos h]
    exact h1 h
  · rw [if_neg h]
    exact h2 h
theorem iteNS {c A B : Prop} [Decidable c] (hc : c) (h : B) : if (!decide c) = true then A else B := by
  rw [decide_eq_true hc]
  exact iteF h

/-! ### heaps -/
/-- all that was tracked is as it was -/
def Same (H H' : Hp) : Prop := ∀ b o, H b = some o → H' b = some o
theorem Same.refl (H : Hp) : Same H H := fun _ _ h => h
theorem Same.trans {H H1 H2 : Hp} (a : Same H H1) (b : Same H1 H2) : Same H H2 := fun c o h => b c o (a c o h)
theorem Same.free {H H' : Hp} (e : Same H H') {l : Addr} (h : H' l = Option.none) : H l = Option.none := by
  cases q : H l with
  | none => rfl
  | some o =>
    rw [e l o q] at h
    cases h
theorem Same.seq {K : PySem.W.Frag} {H H' : Hp} {a : Addr} {xs : List V} (e : Same H H') (h : SqL K H a xs) : SqL K H' a xs := by
  rcases h with (h | ⟨o, h⟩) | h
  · exact .inl (.inl (e _ _ h))
  · exact .inl (.inr ⟨o, e _ _ h⟩)
  · exact .inr h

end L2

set_option Elab.async false
set_option linter.all false
set_option maxRecDepth 100000
set_option maxHeartbeats 4000000
namespace L3
open PySem PySem.Spec L2
open PyProof.Rows hiding St

/-! ### a comprehension -/
theorem thnE {α : Type} {t : Sem α} {Q Q' : α → Shared → Prop} {M : Model} {A : Around} {E : Value → Shared → Prop} {s : Shared} (h : wpAny M A t Q (fun _ _ => False) s) (hQ : ∀ a s, Q a s → Q' a s) : wpAny M A t Q' E s :=
  wpAny_mono h hQ fun _ _ x => x.elim

theorem closure_of (env : Env) : ∀ (l : List (Str × NameKind)) (acc : List (Str × Addr)), (∀ x ∈ l, x.2 = .free → ∃ c, env.cells.lookup x.1 = some c) → (∀ x c, acc.lookup x = some c → env.cells.lookup x = some c) →
    ∃ cl, (forIn l acc fun (x : Str × NameKind) (r : List (Str × Addr)) => if (x.2 == NameKind.free) = true then do let a ← cellOf env x.1; pure (ForInStep.yield ((x.1, a) :: r)) else pure (ForInStep.yield r) : Sem (List (Str × Addr))) = pure cl ∧
      (∀ x c, cl.lookup x = some c → env.cells.lookup x = some c) ∧ (∀ x, (∃ c, acc.lookup x = some c) → ∃ c, cl.lookup x = some c) ∧ ∀ x, (x, NameKind.free) ∈ l → ∃ c, cl.lookup x = some c
  | [], acc, _, h2 => ⟨acc, rfl, h2, fun _ h => h, fun _ h => nomatch h⟩
  | (n, k) :: r, acc, h1, h2 => by
    rw [List.forIn_cons]
    by_cases hk : k = .free
    · subst hk
      obtain ⟨c, hc⟩ := h1 (n, .free) List.mem_cons_self rfl
      obtain ⟨cl, e, p1, p2, p3⟩ := closure_of env r ((n, c) :: acc) (fun x hx => h1 x (List.mem_cons_of_mem _ hx)) (fun x d hd => by
        rw [List.lookup_cons] at hd
        cases hx : x == n with
        | true => rw [hx] at hd; cases hd; rw [eq_of_beq hx]; exact hc
        | false => rw [hx] at hd; exact h2 x d hd)
      refine ⟨cl, ?_, p1, fun x hx => ?_, fun x hx => ?_⟩
      · rw [if_pos (by rfl)]
        unfold cellOf
        dsimp only
        rw [hc]
        exact e
      · refine p2 x ?_
        obtain ⟨d, hd⟩ := hx
        rw [List.lookup_cons]
        cases hx : x == n with
        | true => exact ⟨c, rfl⟩
        | false => exact ⟨d, hd⟩
      · rcases List.mem_cons.mp hx with z | z
        · cases z
          exact p2 n ⟨c, by rw [List.lookup_cons]; simp⟩
        · exact p3 x z
    · have hb : (k == NameKind.free) = false := by simpa using hk
      obtain ⟨cl, e, p1, p2, p3⟩ := closure_of env r acc (fun x hx => h1 x (List.mem_cons_of_mem _ hx)) h2
      refine ⟨cl, ?_, p1, p2, fun x hx => ?_⟩
      · rw [if_neg (by simp [hb])]
        exact e
      · rcases List.mem_cons.mp hx with z | z
        · cases z; exact absurd rfl hk
        · exact p3 x z

theorem closureFor_of {scope : Scope} {env : Env} (h : ∀ x ∈ scope.names, x.2 = .free → ∃ c, env.cells.lookup x.1 = some c) :
    ∃ cl, closureFor scope env = pure cl ∧ (∀ x c, cl.lookup x = some c → env.cells.lookup x = some c) ∧ ∀ x, (x, NameKind.free) ∈ scope.names → ∃ c, cl.lookup x = some c := by
  obtain ⟨cl, e, p1, _, p3⟩ := closure_of env scope.names [] h (fun x c z => by cases z)
  refine ⟨cl, ?_, p1, p3⟩
  have e2 : closureFor scope env = ((forIn scope.names [] fun (x : Str × NameKind) (r : List (Str × Addr)) => if (x.2 == NameKind.free) = true then do let a ← cellOf env x.1; pure (ForInStep.yield ((x.1, a) :: r)) else pure (ForInStep.yield r)) : Sem (List (Str × Addr))) >>= pure := by
    unfold closureFor
    rfl
  rw [e2, e]
  rfl

/-- the tests of a comprehension -/
def PTs (X : Cx) (ifs : List Expr) (t : TT) : Prop :=
  ∀ (pins : List (Addr × Obj)) (s : Shared) (σ : St) (H : Hp) (Q : Bool → Hp → Prop), Inv X pins σ H s → t σ H Q →
    wpAny (model X.prog X.w) X.A (forIn ifs true fun c r => if r = true then do let ok ← isTrue c X.env (eval c X.env); pure (ForInStep.yield ok) else pure (ForInStep.yield r)) (TP X pins σ Q) X.xe s
def tYes : TT := fun _ H Q => Q true H
theorem pts_nil {X : Cx} : PTs X [] tYes := fun _ _ _ H _ I h => wpAny_tests_nil ⟨H, I, h⟩
/-- the block of a comprehension, as a context of its own -/
def blk (X : Cx) (scope : Scope) (N : List Str) (cl : List (Str × Addr)) (fp : List Addr) (s₂ : Shared) (H₂ : Hp) (C : Addr) : Cx where
  prog := X.prog
  w := X.w
  K := X.K
  mg := X.mg
  base := X.base
  A := X.A
  N := N
  s₀ := s₂
  H₀ := H₂
  env := compEnvC scope cl C X.env
  outer := X.stack
  stack := X.stack
  ex := fp
  fn := fun _ => false
  calm := X.calm
  pn := []
  xe := fun _ _ => False

theorem relabel_mem {scope : Scope} {env : Env} {x : Str} {k : NameKind} (h : (relabel scope env).names.lookup x = some k) : (k = .cell ∧ (x, NameKind.free) ∈ scope.names) ∨ (x, k) ∈ scope.names := by
  obtain ⟨⟨n, k0⟩, hm, e⟩ := List.mem_map.mp (show (x, k) ∈ scope.names.map _ from PySem.mem_of_lookup h)
  dsimp only at e
  split at e
  · rename_i hc
    cases e
    have hf : k0 = .free := by
      have := (Bool.and_eq_true _ _).mp ((Bool.and_eq_true _ _).mp hc).1
      simpa using this.1
    subst hf
    exact .inl ⟨rfl, hm⟩
  · cases e
    exact .inr hm

theorem relabel_free {env : Env} : ∀ {names : List (Str × NameKind)} {x : Str}, names.lookup x = some .free →
    (names.map fun (n, k) => if (k == NameKind.free && env.scope.kind == .function && env.kindOf n == some .cell) then (n, NameKind.cell) else (n, k)).lookup x = some .cell ∨
    (names.map fun (n, k) => if (k == NameKind.free && env.scope.kind == .function && env.kindOf n == some .cell) then (n, NameKind.cell) else (n, k)).lookup x = some .free
  | [], _, h => by simp at h
  | (n, k) :: r, x, h => by
    have ih := @relabel_free env r x
    simp only [List.map_cons]
    cases hx : x == n with
    | true =>
      simp only [List.lookup_cons, hx] at h
      cases h
      split
      · left; simp [List.lookup_cons, hx]
      · right; simp [List.lookup_cons, hx]
    | false =>
      simp only [List.lookup_cons, hx] at h
      by_cases hc : (k == NameKind.free && env.scope.kind == .function && env.kindOf n == some .cell) = true
      · rw [if_pos hc]; simp only [List.lookup_cons, hx]; exact ih h
      · rw [if_neg hc]; simp only [List.lookup_cons, hx]; exact ih h

/-- what a comprehension's scope is: fsc the scope around it, N the names there, x the target, caps the names that it takes from around, at the places ks -/
def cscopeB (fsc : Scope) (N : List Str) (scope : Scope) (x : Str) (ks : List Nat) (caps : List Str) : Bool :=
  (scope.kind == .function) && scope.names.all (fun y => y.2 != .cell) && scope.names.all (fun y => y.2 != .local || scope.names.lookup y.1 == some .local) && (scope.names.lookup x == some .local) &&
    scope.names.all (fun y => y.2 != .free || fsc.names.lookup y.1 == some .cell || fsc.names.lookup y.1 == some .free) && decide ((x :: caps).Nodup) && (ks.length == caps.length) &&
    (ks.zip caps).all fun p => N[p.1]? == some p.2 && scope.names.lookup p.2 == some .free
structure CScope (X : Cx) (scope : Scope) (x : Str) (ks : List Nat) (caps : List Str) : Prop where
  kind : scope.kind = .function
  nocell : ∀ y ∈ scope.names, y.2 ≠ .cell
  names : ∀ y ∈ scope.names, y.2 = .local → scope.names.lookup y.1 = some .local
  tgt : scope.names.lookup x = some .local
  frees : ∀ y ∈ scope.names, y.2 = .free → X.env.kindOf y.1 = some .cell ∨ X.env.kindOf y.1 = some .free
  nd : (x :: caps).Nodup
  len : ks.length = caps.length
  at_ : ∀ (j : Nat) (k : Nat) (y : Str), ks[j]? = some k → caps[j]? = some y → X.N[k]? = some y ∧ scope.names.lookup y = some .free
theorem CScope.of {X : Cx} {scope : Scope} {x : Str} {ks : List Nat} {caps : List Str} (h : cscopeB X.env.scope X.N scope x ks caps = true) : CScope X scope x ks caps := by
  unfold cscopeB at h
  simp only [Bool.and_eq_true, List.all_eq_true] at h
  obtain ⟨⟨⟨⟨⟨⟨⟨h1, h2⟩, h3⟩, h4⟩, h5⟩, h6⟩, h7⟩, h8⟩ := h
  refine ⟨by simpa using h1, fun y hy => by simpa using h2 y hy, fun y hy e => ?_, by simpa using h4, fun y hy e => ?_, of_decide_eq_true h6, by simpa using h7, fun j k y e1 e2 => ?_⟩
  · have := h3 y hy
    rw [e] at this
    simpa using this
  · have := h5 y hy
    rw [e] at this
    have t2 : X.env.scope.names.lookup y.1 = some .cell ∨ X.env.scope.names.lookup y.1 = some .free := by simpa using this
    exact t2
  · have hm : (k, y) ∈ ks.zip caps := by
      refine List.mem_of_getElem? (i := j) ?_
      rw [List.getElem?_zip_eq_some]
      exact ⟨e1, e2⟩
    have := h8 (k, y) hm
    simpa using this

section
variable {X : Cx} {scope : Scope} {x : Str} {ks : List Nat} {caps : List Str} {cl : List (Str × Addr)} {fp : List Addr} {s₂ : Shared} {H₂ : Hp} {C : Addr} {pins : List (Addr × Obj)} {σ : St}

theorem blk_ok (S : CScope X scope x ks caps) (I : Inv X pins σ H₂ s₂) (hC : s₂.heap.objs.size ≤ C) (hfp : ∀ b ∈ fp, FpOk X pins H₂ b) (hlt : ∀ b ∈ fp, b < s₂.heap.objs.size)
    (p1 : ∀ x c, cl.lookup x = some c → X.env.cells.lookup x = some c) (p3 : ∀ x, (x, NameKind.free) ∈ scope.names → ∃ c, cl.lookup x = some c) : (blk X scope (x :: caps) cl fp s₂ H₂ C).Ok where
  mod := I.ok.mod
  kind := S.kind
  glob := I.ok.glob
  blt := I.ok.blt
  above := hC
  inj := fun y z c e1 e2 => I.ok.inj y z c (p1 _ _ e1) (p1 _ _ e2)
  has := fun y hy => by
    have hy : (relabel scope X.env).names.lookup y = some .cell ∨ (relabel scope X.env).names.lookup y = some .free := hy
    rcases hy with hy | hy
    · rcases relabel_mem hy with ⟨_, m⟩ | m
      · exact p3 y m
      · exact absurd rfl (S.nocell _ m)
    · rcases relabel_mem hy with ⟨z, _⟩ | m
      · cases z
      · exact p3 y m
  cab := fun y c h => by cases h
  hd := I.ok.hd
  frames := I.ok.frames
  stk := .inl rfl
  exf := fun b hb => ⟨Nat.ne_of_lt (Nat.lt_of_lt_of_le (hlt b hb) hC), fun y c e => (hfp b hb).2.2.2.2.1 y c (p1 y c e)⟩
  bs := I.bs
  bsz := Nat.le_trans I.ok.bsz I.sz
  noex := fun b o e hb => by
    rcases (hfp b hb).2.2.2.1 with z | z
    · exact I.ok.noex b o e z
    · exact absurd (Nat.lt_of_lt_of_le (Heap.lt_size (I.ok.bs b o e).1) z) (Nat.lt_irrefl _)
  exfs := fun b hb z => by
    rcases List.mem_cons.mp (I.stkSub b z) with e | e
    · exact (hfp b hb).2.1 e
    · exact (hfp b hb).2.2.1 e
  funs := I.stack
  frf := I.stkFree

theorem blk_inv (S : CScope X scope x ks caps) (I : Inv X pins σ H₂ s₂) (hfp : ∀ b ∈ fp, FpOk X pins H₂ b) (hlt : ∀ b ∈ fp, b < s₂.heap.objs.size)
    (p1 : ∀ x c, cl.lookup x = some c → X.env.cells.lookup x = some c) (p3 : ∀ x, (x, NameKind.free) ∈ scope.names → ∃ c, cl.lookup x = some c)
    {h₁ : Heap} {tk : Nat} {m : Str → Option Value} (hC : s₂.heap.objs.size < C) (old : ∀ b o, s₂.heap.get? b = some o → h₁.get? b = some o) (hacc : ∃ n, h₁.get? s₂.heap.objs.size = some { cls := .type "list", data := .seq ([] : List Value).toArray n }) (hns : h₁.Ns C m) :
    Inv (blk X scope (x :: caps) cl fp s₂ H₂ C) [] (none :: ks.map fun k => σ.getD k none) (upd H₂ s₂.heap.objs.size (.lst [])) { s₂ with heap := h₁, toks := tk } := by
  refine ⟨blk_ok S I (Nat.le_of_lt hC) hfp hlt p1 p3, rfl, I.bare, Un.laid old (Nat.le_refl _) I.fresh, ⟨m, hns, fun i y v e1 e2 e3 => ?_⟩, fun y c e => ?_, ?_, fun y c e => ?_, fun p hp => absurd (show p ∈ ([] : List (Addr × Obj)) from hp) (by simp), ?_, ?_⟩
  · cases i with
    | zero => simp at e2
    | succ j =>
      have e1' : caps[j]? = some y := by simpa [blk] using e1
      have e2' : (ks.map fun k => σ.getD k none)[j]? = some (some v) := by simpa using e2
      rw [List.getElem?_map] at e2'
      cases hk : ks[j]? with
      | none => rw [hk] at e2'; cases e2'
      | some k =>
        rw [hk] at e2'
        have e2'' : σ.getD k none = some v := by simpa using e2'
        have hσ : σ[k]? = some (some v) := by
          rw [List.getD_eq_getElem?_getD] at e2''
          cases hz : σ[k]? with
          | none => rw [hz] at e2''; cases e2''
          | some z => rw [hz] at e2''; rw [show z = some v from e2'']
        obtain ⟨hN, hf⟩ := S.at_ j k y hk e1'
        have hv := S.frees (y, .free) (PySem.mem_of_lookup hf) rfl
        obtain ⟨m', _, hl⟩ := I.loc
        obtain ⟨u, ru, lk⟩ := hl k y v hN hσ (by rcases hv with z | z; exact .inr (.inl z); exact .inr (.inr z))
        refine ⟨u, ru, ?_⟩
        rcases lk with ⟨kl, _⟩ | ⟨_, c, hc, ic⟩
        · rcases hv with z | z <;> (rw [show X.env.kindOf y = some .local from kl] at z; cases z)
        · obtain ⟨c', hc'⟩ := p3 y (PySem.mem_of_lookup hf)
          have : c' = c := by have := p1 y c' hc'; rw [hc] at this; exact (Option.some.inj this).symm
          subst this
          refine .inr ⟨relabel_free (env := X.env) hf, c', hc', ?_⟩
          obtain ⟨o, ho, hd⟩ := ic
          exact ⟨o, old _ _ ho, hd⟩
  · obtain ⟨v, o, ho, hd⟩ := I.cell y c (p1 y c e)
    exact ⟨v, o, old _ _ ho, hd⟩
  · show upd H₂ s₂.heap.objs.size (.lst []) C = none
    rw [upd_ne (Nat.ne_of_gt hC)]
    exact I.hok.fresh (Nat.le_of_lt hC)
  · obtain ⟨v, z⟩ := I.cell y c (p1 y c e)
    show upd H₂ s₂.heap.objs.size (.lst []) c = none
    rw [upd_ne (Nat.ne_of_lt z.lt)]
    exact I.freeC y c (p1 y c e)
  · obtain ⟨n, hn⟩ := hacc
    exact I.hok.laid old (Nat.le_refl _) ⟨Nat.zero_le _, [], n, .nil, hn⟩
  · show (none :: ks.map fun k => σ.getD k none).length = (x :: caps).length
    simp [S.len]
end

/-- the reading of the walk: W by the turn, a measure, what was gathered, the heap -/
def tCompW (J : It) (tt : TT) (te : TE) (cv : List (Option V)) (Q : VK) (H1 : Hp) : Prop :=
  ∀ D, H1 D = none → ∃ W : Nat → Nat → List V → Hp → Prop, (∃ m, W 0 m [] (upd H1 D (.lst []))) ∧ ∀ i m ys H, W i m ys H → H D = some (.lst ys) ∧
    ((J.stop i H ∧ Q (.ref D) H) ∨ (J.go i H ∧ ∃ N : List V → Hp → Prop, (∀ ys' H', N ys' H' → ∃ m', m' < m ∧ W (i + 1) m' ys' H') ∧ ∀ x H', J.yld i H x H' → tt (some x :: cv) H' fun b H2 => if b = true then
      te (some x :: cv) H2 (fun y H3 => H3 D = some (.lst ys) ∧ ys.length < sizeLine ∧ N (ys ++ [y]) (upd H3 D (.lst (ys ++ [y])))) else N ys H2))

/-- what may turn unseen behind a comprehension: its own names' record -/
structure Gone (X : Cx) (pins : List (Addr × Obj)) (H : Hp) (C : Addr) : Prop where
  free : H C = none
  loc : C ≠ X.env.locals
  ex : C ∈ X.ex ∨ X.s₀.heap.objs.size ≤ C
  cells : ∀ x c, X.env.cells.lookup x = some c → c ≠ C
  pins : ∀ p ∈ X.pn ++ pins, p.1 ≠ C
theorem Gone.inv {X : Cx} {pins : List (Addr × Obj)} {σ : St} {H : Hp} {C : Addr} {s : Shared} {h' : Heap} (G : Gone X pins H C) (I : Inv X pins σ H s) (sb : Heap.SameBut C s.heap h') : Inv X pins σ H { s with heap := h' } :=
  I.turned (t' := s.toks) (fun b o hb e => (sb.2 b hb).trans e) G.free G.loc G.ex G.cells G.pins

theorem comp_core {X : Cx} {elt iter : Expr} {x : Str} {px pos p2 : Pos} {ifs : List Expr} {scope : Scope} {ks : List Nat} {caps : List Str} {wi : TI} {tt : TT} {te : TE} {use : Option (Value → Sem Unit)} {Qr : Value → Shared → Prop} {R : VK}
    (hc : X.calm = true) (S : CScope X scope x ks caps) (hi : PI X (.Name x px) iter wi)
    (ht : ∀ cl fp s₂ H₂ C, PTs (blk X scope (x :: caps) cl fp s₂ H₂ C) ifs tt) (he : ∀ cl fp s₂ H₂ C, PE (blk X scope (x :: caps) cl fp s₂ H₂ C) elt te)
    (hs : ∀ v, foldedSetIterable iter X.env v = pure v)
    {pins : List (Addr × Obj)} {s : Shared} {σ : St} {H : Hp} (I : Inv X pins σ H s) (h : wi σ H fun J H1 => tCompW J tt te (ks.map fun k => σ.getD k none) R H1)
    (fin0 : use = none → ∀ D H' s', Inv X pins σ H' s' → R (.ref D) H' → Qr (.ref D) s')
    (fin1 : ∀ u, use = some u → ∀ D H' s' C, Inv X pins σ H' s' → R (.ref D) H' → Gone X pins H' C → (∃ m, s'.heap.Ns C m) →
      wpAny (model X.prog X.w) X.A (u (.ref D)) (fun _ s'' => ∃ m, s''.heap.Ns C m ∧ ∀ h', Heap.SameBut C s''.heap h' → Qr .none { s'' with heap := h' }) X.xe s') :
    wpAny (model X.prog X.w) X.A (comprehension (.ListComp elt [⟨.Name x px, iter, ifs, 0⟩] scope pos) scope X.env p2 (newList []) false (eval iter X.env) use) Qr X.xe s := by
  obtain ⟨cl, hclos, p1, p3⟩ := closureFor_of (scope := scope) (env := X.env) fun y hy hf => I.ok.has y.1 (S.frees y hy hf)
  refine wpAny_comprehension_free rfl hs hclos S.kind S.names (thn (hi pins s σ H _ I h) fun v s1 h1 => thn h1 fun itv s2 h2 => ?_)
  obtain ⟨it, fp, tn, J, H2, e, I2, T, st2, f2, rd⟩ := h2
  subst e
  have hlt : ∀ b ∈ fp, b < s2.heap.objs.size := fun b hb => by
    obtain ⟨o, ho, _⟩ := T.obj _ _ st2 b hb
    exact Heap.lt_size ho
  obtain ⟨W, ⟨m0, w0⟩, turn⟩ := rd s2.heap.objs.size I2.fresh
  refine wpAny_newObj_type (wpAny_newFunctionEnv S.nocell (by intro y hy; simp at hy) (fun h₁ hns₁ hsb₁ => ?_) S.kind)
  dsimp only at hns₁ hsb₁ ⊢
  generalize hH2 : s2.heap.push { cls := .type "list", dict := none, data := .seq ([] : List Value).toArray } = G2 at hns₁ hsb₁ ⊢
  have hC : G2.objs.size = s2.heap.objs.size + 1 := by rw [← hH2, Heap.size_push]
  have hDC : s2.heap.objs.size ≠ G2.objs.size := by rw [hC]; exact Nat.ne_of_lt (Nat.lt_succ_self _)
  have hCl : s2.heap.objs.size < G2.objs.size := by rw [hC]; exact Nat.lt_succ_self _
  have old : ∀ b o, s2.heap.get? b = some o → h₁.get? b = some o := fun b o e => hsb₁.extBut b o (Nat.ne_of_lt (Nat.lt_trans (Heap.lt_size e) hCl)) (Heap.get?_push_of_some _ (hH2 ▸ Heap.get?_push_of_some _ e))
  have hacc : ∃ n, h₁.get? s2.heap.objs.size = some { cls := .type "list", data := .seq ([] : List Value).toArray n } := ⟨_, hsb₁.extBut _ _ hDC (Heap.get?_push_of_some _ (hH2 ▸ Heap.get?_push_size _ rfl))⟩
  have I3 := blk_inv (cl := cl) (tk := s2.toks + ([] : List (Str × Value)).length) S I2 f2 hlt p1 p3 hCl old hacc hns₁
  have st3 : tn 0 h₁ := T.keep _ _ _ st2 fun b _ o e => old b o e
  have f3 : ∀ b ∈ fp, upd H2 s2.heap.objs.size (.lst []) b = none := fun b hb => by
    rw [upd_ne (Nat.ne_of_lt (hlt b hb))]
    exact (f2 b hb).1
  -- a state of the block is a state of the context around it
  have back : ∀ {σ' : St} {H' : Hp} {s' : Shared} {pl : List (Addr × Obj)}, Inv (blk X scope (x :: caps) cl fp s2 H2 G2.objs.size) pl σ' H' s' → Inv X pins σ H' s' ∧ Gone X pins H' G2.objs.size := fun {σ' H' s' pl} J' => by
    refine ⟨I2.call' (ch := fp) J'.os J'.base J'.hok J'.bare fun b hb => ⟨(f2 b hb).2.2.2.1, (f2 b hb).2.1, (f2 b hb).2.2.2.2.1, (f2 b hb).2.2.2.2.2⟩, J'.free, Nat.ne_of_gt (Nat.lt_trans I2.lt hCl), .inr (Nat.le_trans I2.sz (Nat.le_of_lt hCl)), fun y c e z => ?_, fun p hp z => ?_⟩
    · obtain ⟨v, q⟩ := I2.cell y c e
      exact absurd (Nat.lt_trans q.lt (z ▸ hCl)) (Nat.lt_irrefl _)
    · exact absurd (Nat.lt_trans (Heap.lt_size (I2.pin p hp).1) (z ▸ hCl)) (Nat.lt_irrefl _)
  -- the loop
  have loop : ∀ s₃ : Shared, s₃ = { s2 with heap := h₁, toks := s2.toks + ([] : List (Str × Value)).length } →
      codeAny (model X.prog X.w) X.A (.compLoop (.ListComp elt [⟨.Name x px, iter, ifs, 0⟩] scope pos) 0 (.ref it) (.ref s2.heap.objs.size) (compEnvC scope cl G2.objs.size X.env))
        (compPost (model X.prog X.w) X.A X.xe use Qr (.ref s2.heap.objs.size) G2.objs.size) s₃ := by
    rintro s₃ rfl
    have stat : ∀ {H' : Hp}, (∀ b ∈ fp, H' b = none) → ∀ b ∈ fp, FpOk (blk X scope (x :: caps) cl fp s2 H2 G2.objs.size) [] H' b := fun hn b hb =>
      ⟨hn b hb, Nat.ne_of_lt (Nat.lt_trans (hlt b hb) hCl), fun z => by
        rcases List.mem_cons.mp (I2.stkSub b z) with e | e
        · exact (f2 b hb).2.1 e
        · exact (f2 b hb).2.2.1 e, .inl hb, fun y c e => (f2 b hb).2.2.2.2.1 y c (p1 y c e), fun p hp => absurd (show p ∈ ([] : List (Addr × Obj)) from hp) (by simp)⟩
    refine codeAny_compLoop_tests (fun n s' => ∃ i v0 ys H', Inv (blk X scope (x :: caps) cl fp s2 H2 G2.objs.size) [] (v0 :: ks.map fun k => σ.getD k none) H' s' ∧ tn i s'.heap ∧ (∀ b ∈ fp, H' b = none) ∧ W i n ys H') ?_ m0
      ⟨0, none, [], _, I3, st3, f3, w0⟩
    rintro n s4 ⟨i, v0, ys, H4, I4, st4, fr4, w4⟩
    obtain ⟨hD, hh⟩ := turn i n ys H4 w4
    rcases hh with ⟨stop, qn⟩ | ⟨go, N, hN, step⟩
    · refine thn (T.done (blk X scope (x :: caps) cl fp s2 H2 G2.objs.size) rfl rfl rfl hc i [] s4 _ H4 _ I4 (stat fr4) st4 stop) fun r s5 ⟨hr, I5⟩ => ?_
      subst hr
      obtain ⟨J5, g5⟩ := back I5
      obtain ⟨m5, hn5, _⟩ := I5.loc
      cases use with
      | none => exact ⟨m5, hn5, fun h' sb => fin0 rfl _ H4 _ (g5.inv J5 sb) qn⟩
      | some u => exact fin1 u rfl _ H4 s5 _ J5 qn g5 ⟨m5, hn5⟩
    · refine thn (T.item (blk X scope (x :: caps) cl fp s2 H2 G2.objs.size) rfl rfl rfl hc i [] s4 _ H4 (notedBy (model X.prog X.w) X.A (compEnvC scope cl G2.objs.size X.env) fun e s' => compPost (model X.prog X.w) X.A X.xe use Qr (.ref s2.heap.objs.size) G2.objs.size (.error e) s') I4 (stat fr4) st4 go) fun r s5 ⟨u, hr, h5⟩ => ?_
      subst hr
      show wpAny _ _ (letOwnedTupleGo (.Name x px) (.ref it) u >>= fun _ => assign (.Name x px) (compEnvC scope cl G2.objs.size X.env) u) _ _ s5
      refine wpAny_bind (thn h5 fun _ s6 ⟨y6, H6, I6, r6, yl6, st6, fr6⟩ => ?_)
      have I6' := I6.pinned (stat fr6) (T.obj _ _ st6)
      refine thnE (pg_name (X := blk X scope (x :: caps) cl fp s2 H2 G2.objs.size) (i := 0) S.nd rfl (.inl (lookup_relabel_local S.tgt)) (.inr (lookup_relabel_local S.tgt)) _ s6 _ H6 y6 u (fun σ' H' => σ' = some y6 :: (ks.map fun k => σ.getD k none) ∧ H' = H6) I6' r6 ⟨rfl, rfl⟩) fun _ s7 ⟨σ7, H7, I7, e7, e7'⟩ => ?_
      subst e7 e7'
      have again : ∀ {σ' : St} {H' : Hp} {s' : Shared}, Inv (blk X scope (x :: caps) cl fp s2 H2 G2.objs.size) ([] ++ pinsAt fp s6.heap) σ' H' s' → tn (i + 1) s'.heap ∧ ∀ b ∈ fp, H' b = none := fun {σ' H' s'} J' => by
        refine ⟨T.keep _ _ _ st6 fun b hb o e => (J'.pin (b, o) (List.mem_append_right _ (List.mem_append_right _ (mem_pinsAt hb e)))).1, fun b hb => ?_⟩
        obtain ⟨o, e, d⟩ := T.obj _ _ st6 b hb
        exact (J'.pin (b, o) (List.mem_append_right _ (List.mem_append_right _ (mem_pinsAt hb e)))).2.1
      refine thnE (ht cl fp s2 H2 G2.objs.size _ s7 _ H7 _ I7 (step y6 H7 yl6)) fun b s8 ⟨H8, I8, q8⟩ => ?_
      cases b with
      | false =>
        rw [if_neg Bool.false_ne_true] at q8
        obtain ⟨m', hm, w8⟩ := hN _ _ q8
        rw [if_neg Bool.false_ne_true]
        obtain ⟨a1, a2⟩ := again I8
        exact ⟨m', hm, i + 1, _, ys, H8, I8.unpinned, a1, a2, w8⟩
      | true =>
        rw [if_pos rfl] at q8
        rw [if_pos rfl]
        refine thnE (he cl fp s2 H2 G2.objs.size _ s8 _ H8 _ I8 q8) fun yv s9 ⟨y9, H9, I9, r9, hD9, hz9, n9⟩ => ?_
        obtain ⟨m', hm, w9⟩ := hN _ _ n9
        refine thnE (mt_append (X := blk X scope (x :: caps) cl fp s2 H2 G2.objs.size) _ s9 _ H9 (.ref s2.heap.objs.size) [y9] (.ref s2.heap.objs.size) [yv] (fun _ H' => H' = upd H9 s2.heap.objs.size (.lst (ys ++ [y9]))) I9 rfl (.cons r9 .nil) ⟨_, ys, y9, rfl, rfl, hD9, hz9, rfl⟩) fun _ s10 ⟨_, H10, I10, _, e10⟩ => ?_
        subst e10
        obtain ⟨a1, a2⟩ := again I10
        exact ⟨m', hm, i + 1, _, _, _, I10.unpinned, a1, a2, w9⟩
  exact codeAny_compStart_list (loop _ rfl) (T.self _ _ _ _ _ st3 (loop _ rfl))

/-- [elt for x in iter if ..] -/
def tComp (wi : TI) (ks : List Nat) (tt : TT) (te : TE) : TE := fun σ H Q => wi σ H fun J H1 => tCompW J tt te (ks.map fun k => σ.getD k none) Q H1
theorem pe_comp {X : Cx} {elt iter : Expr} {x : Str} {px pos : Pos} {ifs : List Expr} {scope : Scope} {wi : TI} {tt : TT} {te : TE} (ks : List Nat) (caps : List Str)
    (hc : X.calm = true) (hS : cscopeB X.env.scope X.N scope x ks caps = true) (hi : PI X (.Name x px) iter wi)
    (ht : ∀ cl fp s₂ H₂ C, PTs (blk X scope (x :: caps) cl fp s₂ H₂ C) ifs tt) (he : ∀ cl fp s₂ H₂ C, PE (blk X scope (x :: caps) cl fp s₂ H₂ C) elt te)
    (hs : ∀ v, foldedSetIterable iter X.env v = pure v := by intro _; rfl) : PE X (.ListComp elt [⟨.Name x px, iter, ifs, 0⟩] scope pos) (tComp wi ks tt te) := by
  intro pins s σ H Q I h
  rw [eval_ListComp]
  exact comp_core (use := none) (R := Q) hc (CScope.of hS) hi ht he hs I h (fun _ D H' s' I' q => ⟨.ref D, H', I', rfl, q⟩) fun u e => by cases e
/-! ### the forms one uses: Pv D i ys H by the new list D, the turn, what is gathered, the heap (D is in it) -/
theorem comp_list {K : PySem.W.Frag} {a : Addr} {xs : List V} {tt : TT} {te : TE} {cv : List (Option V)} {Q : VK} {H1 : Hp} (Pv : Addr → Nat → List V → Hp → Prop) (h0 : ∀ D, H1 D = none → Pv D 0 [] (upd H1 D (.lst [])))
    (hl : ∀ D i ys H, H1 D = none → i ≤ xs.length → Pv D i ys H → H D = some (.lst ys) ∧ SqL K H a xs)
    (hs : ∀ D i x ys H, H1 D = none → xs[i]? = some x → Pv D i ys H → tt (some x :: cv) H fun b H2 => if b = true then te (some x :: cv) H2 (fun y H3 => H3 D = some (.lst ys) ∧ ys.length < sizeLine ∧ Pv D (i + 1) (ys ++ [y]) (upd H3 D (.lst (ys ++ [y])))) else Pv D (i + 1) ys H2)
    (hd : ∀ D ys H, H1 D = none → Pv D xs.length ys H → Q (.ref D) H) : tCompW (Itl K a) tt te cv Q H1 := fun D hD => by
  refine ⟨fun i m ys H => m = xs.length - i ∧ i ≤ xs.length ∧ Pv D i ys H, ⟨xs.length, by simp, Nat.zero_le _, h0 D hD⟩, ?_⟩
  rintro i m ys H ⟨rfl, hi, p⟩
  obtain ⟨q1, q2⟩ := hl D i ys H hD hi p
  refine ⟨q1, ?_⟩
  by_cases hlt : i < xs.length
  · refine .inr ⟨⟨xs, xs[i], q2, by simp [hlt]⟩, Pv D (i + 1), fun ys' H' p' => ⟨xs.length - (i + 1), by omega, rfl, hlt, p'⟩, fun x H' y => ?_⟩
    obtain ⟨e, y⟩ := y
    subst e
    exact hs D i x ys _ hD (y xs q2) p
  · have e : i = xs.length := by omega
    subst e
    exact .inl ⟨⟨xs, q2, Nat.le_refl _⟩, hd D ys H hD p⟩
theorem comp_tup {K : PySem.W.Frag} {a : Addr} {xs : List V} {tt : TT} {te : TE} {cv : List (Option V)} {Q : VK} {H1 : Hp} (Pv : Addr → Nat → List V → Hp → Prop) (h0 : ∀ D, H1 D = none → Pv D 0 [] (upd H1 D (.lst [])))
    (hl : ∀ D i ys H, H1 D = none → i ≤ xs.length → Pv D i ys H → H D = some (.lst ys) ∧ SqT K H a xs)
    (hs : ∀ D i x ys H, H1 D = none → xs[i]? = some x → Pv D i ys H → tt (some x :: cv) H fun b H2 => if b = true then te (some x :: cv) H2 (fun y H3 => H3 D = some (.lst ys) ∧ ys.length < sizeLine ∧ Pv D (i + 1) (ys ++ [y]) (upd H3 D (.lst (ys ++ [y])))) else Pv D (i + 1) ys H2)
    (hd : ∀ D ys H, H1 D = none → Pv D xs.length ys H → Q (.ref D) H) : tCompW (Itt K a) tt te cv Q H1 := fun D hD => by
  refine ⟨fun i m ys H => m = xs.length - i ∧ i ≤ xs.length ∧ Pv D i ys H, ⟨xs.length, by simp, Nat.zero_le _, h0 D hD⟩, ?_⟩
  rintro i m ys H ⟨rfl, hi, p⟩
  obtain ⟨q1, q2⟩ := hl D i ys H hD hi p
  refine ⟨q1, ?_⟩
  by_cases hlt : i < xs.length
  · refine .inr ⟨⟨xs, xs[i], q2, by simp [hlt]⟩, Pv D (i + 1), fun ys' H' p' => ⟨xs.length - (i + 1), by omega, rfl, hlt, p'⟩, fun x H' y => ?_⟩
    obtain ⟨e, y⟩ := y
    subst e
    exact hs D i x ys _ hD (y xs q2) p
  · have e : i = xs.length := by omega
    subst e
    exact .inl ⟨⟨xs, q2, Nat.le_refl _⟩, hd D ys H hD p⟩
end L3

set_option Elab.async false
set_option linter.all false
set_option maxRecDepth 100000
set_option maxHeartbeats 4000000
namespace L3
open PySem PySem.Spec L2
open PyProof.Rows hiding St

/-! ### data: what a value stands for, over the abstract heap -/
mutual
def RepD (K : PySem.W.Frag) (H : Hp) : PyData → V → Prop
  | .none, v => v = .non
  | .bool b, v => v = .bl b
  | .int i, v => v = .int i
  | .str x, v => v = .str x
  | .tuple ds, v => ∃ a xs, v = .ref a ∧ SqT K H a xs ∧ RepDs K H ds xs
  | .list ds, v => ∃ a xs, v = .ref a ∧ SqL K H a xs ∧ RepDs K H ds xs
  | .dict _, _ => False
def RepDs (K : PySem.W.Frag) (H : Hp) : List PyData → List V → Prop
  | [], xs => xs = []
  | d :: ds, xs => ∃ x r, xs = x :: r ∧ RepD K H d x ∧ RepDs K H ds r
end

section
variable {X : Cx} {pins : List (Addr × Obj)} {σ : St} {H : Hp} {s : Shared}
mutual
theorem RepD.reads (I : Inv X pins σ H s) : ∀ (d : PyData) (v : V) (u : Value), RepD X.K H d v → RelV v u → ∃ as, Reads s.heap u d as
  | .none, v, u, h, r => by
    have h : v = .non := by simpa only [RepD] using h
    subst h; cases r; exact ⟨_, .none⟩
  | .bool b, v, u, h, r => by
    have h : v = .bl b := by simpa only [RepD] using h
    subst h; cases r; exact ⟨_, .bool b⟩
  | .int i, v, u, h, r => by
    have h : v = .int i := by simpa only [RepD] using h
    subst h; obtain ⟨t, rfl⟩ := r; exact ⟨_, .int i t⟩
  | .str x, v, u, h, r => by
    have h : v = .str x := by simpa only [RepD] using h
    subst h; obtain ⟨t, rfl⟩ := r; exact ⟨_, .str x t⟩
  | .tuple ds, v, u, h, r => by
    obtain ⟨a, xs, rfl, q, rs⟩ : ∃ a xs, v = .ref a ∧ SqT X.K H a xs ∧ RepDs X.K H ds xs := by simpa only [RepD] using h
    cases r
    obtain ⟨its, rv, ⟨o, ho, hc, n, hd⟩, _⟩ := I.tuple q
    obtain ⟨as, ra⟩ := RepDs.reads I ds xs its rs rv
    exact ⟨_, .tuple ho hc hd (by simpa using ra)⟩
  | .list ds, v, u, h, r => by
    obtain ⟨a, xs, rfl, q, rs⟩ : ∃ a xs, v = .ref a ∧ SqL X.K H a xs ∧ RepDs X.K H ds xs := by simpa only [RepD] using h
    cases r
    obtain ⟨its, rv, p, _⟩ := I.list q
    obtain ⟨o, ho, hc, n, hd⟩ := p.isList
    obtain ⟨as, ra⟩ := RepDs.reads I ds xs its rs rv
    exact ⟨_, .list ho hc hd (by simpa using ra)⟩
  | .dict _, v, u, h, r => by
    have h : False := by simpa only [RepD] using h
    exact h.elim
theorem RepDs.reads (I : Inv X pins σ H s) : ∀ (ds : List PyData) (xs : List V) (us : List Value), RepDs X.K H ds xs → Vals xs us → ∃ as, ReadsAll s.heap us ds as
  | [], xs, us, h, r => by
    have h : xs = [] := by simpa only [RepDs] using h
    subst h; cases r; exact ⟨_, .nil⟩
  | d :: ds, xs, us, h, r => by
    obtain ⟨x, r', rfl, h1, h2⟩ : ∃ x r, xs = x :: r ∧ RepD X.K H d x ∧ RepDs X.K H ds r := by simpa only [RepDs] using h
    cases r with
    | cons p q =>
      obtain ⟨as, ra⟩ := RepD.reads I d _ _ h1 p
      obtain ⟨bs, rb⟩ := RepDs.reads I ds _ _ h2 q
      exact ⟨_, .cons ra rb⟩
end

/-- what never changes -/
structure Imm (H H' : Hp) : Prop where
  tup : ∀ b xs, H b = some (.tup xs) → H' b = some (.tup xs)
  frz : ∀ b o u, H b = some (.frz o u) → H' b = some (.frz o u)
theorem _root_.L2.Same.imm {H H' : Hp} (e : Same H H') : Imm H H' := ⟨fun _ _ h => e _ _ h, fun _ _ _ h => e _ _ h⟩
theorem Imm.sqT {K : PySem.W.Frag} {H H' : Hp} (e : Imm H H') {a : Addr} {xs : List V} (h : SqT K H a xs) : SqT K H' a xs := by
  rcases h with (h | ⟨o, h⟩) | h
  · exact .inl (.inl (e.tup _ _ h))
  · exact .inl (.inr ⟨o, e.frz _ _ _ h⟩)
  · exact .inr h
theorem _root_.L2.Same.sqT {K : PySem.W.Frag} {H H' : Hp} (e : Same H H') {a : Addr} {xs : List V} (h : SqT K H a xs) : SqT K H' a xs := e.imm.sqT h
/-- a new object laid -/
theorem same_new {H : Hp} {p : Addr} {o : HO} (h : H p = none) : Same H (upd H p o) := fun b u e => by rw [upd_ne (ne_of_none e h)]; exact e
/-! data without a list in it -/
/-! ### == and != of data -/
def rEqD (K : PySem.W.Frag) (n : Nat) : R2 := fun x y H Q => ∃ d d', RepD K H d x ∧ RepD K H d' y ∧ d.canLay0 = true ∧ d'.canLay0 = true ∧ min d.depth d'.depth ≤ n ∧ Q (.bl (PyData.eqv d d')) H
def rNeD (K : PySem.W.Frag) (n : Nat) : R2 := fun x y H Q => ∃ d d', RepD K H d x ∧ RepD K H d' y ∧ d.canLay0 = true ∧ d'.canLay0 = true ∧ min d.depth d'.depth ≤ n ∧ Q (.bl (!PyData.eqv d d')) H
theorem op_eqD {n : Nat} (hu : X.A.units + n < cLine) : OpR X (compareOp .Eq) (rEqD X.K n) := by
  intro pins s σ H x y v u Q I rx ry h
  obtain ⟨d, d', h1, h2, c1, c2, hd, q⟩ := h
  obtain ⟨as, ra⟩ := RepD.reads I d x v h1 rx
  obtain ⟨bs, rb⟩ := RepD.reads I d' y u h2 ry
  exact SeqAt.compareEq_reads ra rb c1 c2 (by omega) ⟨.bl _, H, I, rfl, q⟩
theorem op_neD {n : Nat} (hu : X.A.units + n < cLine) : OpR X (compareOp .NotEq) (rNeD X.K n) := by
  intro pins s σ H x y v u Q I rx ry h
  obtain ⟨d, d', h1, h2, c1, c2, hd, q⟩ := h
  obtain ⟨as, ra⟩ := RepD.reads I d x v h1 rx
  obtain ⟨bs, rb⟩ := RepD.reads I d' y u h2 ry
  exact SeqAt.compareNe_reads ra rb c1 c2 (by omega) ⟨.bl _, H, I, rfl, q⟩
/-! ### all(list of bools), isinstance -/
theorem truth_bools {P : Program} {w : World} {A : Around} {bs : List Bool} {its : List Value} (hv : Vals (bs.map V.bl) its) :
    TruthOf P w A (fun i v => its.toArray[i]? = some v) (fun i => bs.getD i false) := by
  intro i v s Q E hP hQ
  have hP' : its[i]? = some v := by simpa using hP
  have hl : (bs.map V.bl).length = its.length := hv.length
  have hi : i < its.length := (List.getElem?_eq_some_iff.mp hP').1
  have hi' : i < bs.length := by rw [List.length_map] at hl; omega
  obtain ⟨u, hu, ru⟩ := hv.get (i := i) (x := .bl (bs.getD i false)) (by simp [List.getElem?_map, List.getD_eq_getElem?_getD, List.getElem?_eq_getElem hi'])
  rw [hP'] at hu
  cases hu
  cases ru
  exact wpAny_truthy_bool hQ
theorem all_range {bs : List Bool} : (List.range bs.length).all (fun i => bs.getD i false) = bs.all id := by
  rw [Bool.eq_iff_iff]
  simp only [List.all_eq_true, List.mem_range, id]
  constructor
  · intro h b hb
    obtain ⟨i, hi, rfl⟩ := List.mem_iff_getElem.mp hb
    have := h i hi
    simpa [List.getD_eq_getElem?_getD, List.getElem?_eq_getElem hi] using this
  · intro h i hi
    have := h bs[i] (List.getElem_mem hi)
    simpa [List.getD_eq_getElem?_getD, List.getElem?_eq_getElem hi] using this
theorem boot_all : bootBuiltins "all" = some (.builtin "all") := by decide +kernel
theorem boot_isi : bootBuiltins "isinstance" = some (.builtin "isinstance") := by decide +kernel
theorem boot_tup : bootBuiltins "tuple" = some (.type "tuple") := by decide +kernel
theorem boot_bl : bootBuiltins "bool" = some (.type "bool") := by decide +kernel
theorem boot_lst : bootBuiltins "list" = some (.type "list") := by decide +kernel
theorem boot_it : bootBuiltins "int" = some (.type "int") := by decide +kernel
theorem call_all (hc : X.calm = true) : CallR X (.builtin "all") (fun xs H Q => ∃ (p : Addr) (bs : List Bool), xs = [.ref p] ∧ SqL X.K H p (bs.map V.bl) ∧ Q (.bl (bs.all id)) H) := by
  intro pins s σ H xs us Q I r h
  obtain ⟨p, bs, rfl, hq, q⟩ := h
  obtain ⟨u, rfl, rx⟩ := vals1 r
  cases rx
  obtain ⟨its, rv, pl, hz⟩ := I.list hq
  have hlen := rv.length
  rw [List.length_map] at hlen
  obtain ⟨op, hop, _⟩ := pl.isList
  refine call_all_walk (wpAny_pyIter_list pl.isList ?_)
  refine ⟨s.heap.objs.size, _, _, _, _, _, fun i => bs.getD i false, rfl, Walks.list (A := X.A.in1) (show X.A.in1.handled = none from I.ok.hd hc) s.heap.objs.size p (Nat.ne_of_lt (Heap.lt_size hop)) its.toArray, ⟨⟨_, Heap.get?_push_size _ rfl, rfl, rfl⟩, by obtain ⟨o, ho, hh⟩ := pl.isList; exact ⟨o, Heap.get?_push_of_some _ ho, hh⟩⟩, truth_bools rv, fun h' tk kk => ?_⟩
  refine ⟨.bl _, H, I.kept (t' := tk) (h' := h') fun b o e => kk b o (by simp; exact Nat.ne_of_lt (Heap.lt_size e)) (Heap.get?_push_of_some _ e), ?_, q⟩
  rw [List.size_toArray, ← hlen, all_range]
  exact rfl
theorem ixT {X : Cx} (K : PySem.W.Frag) (h : X.K = K := by rfl) : IxR X (rIxT K) := h ▸ ix_tup
theorem ixL {X : Cx} (K : PySem.W.Frag) (h : X.K = K := by rfl) : IxR X (rIxL K) := h ▸ ix_list
theorem room_data {k : Nat} {A : Around} (hr : Room k A) : A.units + 10 < cLine := by have := hr.units; omega
theorem same_upd {H H' : Hp} {p : Addr} {o : HO} (e : Same H H') (h : H p = none) : Same H (upd H' p o) := fun b u z => by rw [upd_ne (ne_of_none z h)]; exact e b u z
end
end L3

set_option Elab.async false
set_option linter.all false
set_option maxRecDepth 100000
set_option maxHeartbeats 4000000
namespace L3
open PySem PySem.Spec L2
open PyProof.Rows hiding St
section
variable {X : Cx}
/-- isinstance(x, T), T one class -/
theorem call_isi : CallR X (.builtin "isinstance") (fun xs H Q => ∃ x T t b, xs = [x, .ty T] ∧ TyOf X.K H x t ∧ PySem.W.kitOne X.K t (.type T) = some b ∧ Q (.bl b) H) := by
  intro pins s σ H xs us Q I r h
  obtain ⟨x, T, t, b, rfl, ty, e, q⟩ := h
  obtain ⟨u, v, rfl, ru, rv⟩ := vals2 r
  obtain rfl : v = Value.type T := rv
  exact isinst_ok I ru ty e fun tk => ⟨.bl b, H, I.tok tk, rfl, q⟩
theorem kit_int {K : PySem.W.Frag} : PySem.W.kitOne K (.type "int") (.type "int") = some true := rfl
end
end L3

set_option Elab.async false
set_option linter.all false
set_option maxRecDepth 100000
set_option maxHeartbeats 4000000
namespace L3
open PySem PySem.Spec L2
open PyProof.Rows hiding St

/-! ### the layer's rules, with what they ask of names checked by one run of the kernel -/
def seenB (N : List Str) (sc : Scope) : Bool := N.all fun x => (sc.names.lookup x == some .local || sc.names.lookup x == some .cell || sc.names.lookup x == some .free) && !(x == ("__debug__" : Str)) && !(x == ("__classdict__" : Str))
def ownB (N : List Str) (sc : Scope) : Bool := seenB N sc && decide N.Nodup && N.all fun x => sc.names.lookup x == some .local || sc.names.lookup x == some .cell
/-- the names of a context can be read -/
structure Seen (X : Cx) : Prop where
  vis : ∀ (i : Nat) x, X.N[i]? = some x → Vis X.env.scope x ∧ (x == ("__debug__" : Str)) = false ∧ (x == ("__classdict__" : Str)) = false
/-- .. and stored -/
structure Own (X : Cx) : Prop extends Seen X where
  nd : X.N.Nodup
  loc : ∀ (i : Nat) x, X.N[i]? = some x → Loc X.env.scope x
theorem Seen.of {X : Cx} (h : seenB X.N X.env.scope = true) : Seen X := ⟨fun i x e => by
  have := List.all_eq_true.mp h x (List.mem_of_getElem? e)
  simp only [Bool.and_eq_true, Bool.or_eq_true, beq_iff_eq, Bool.not_eq_true'] at this
  obtain ⟨⟨h1, h2⟩, h3⟩ := this
  refine ⟨?_, h2, h3⟩
  rcases h1 with (h | h) | h
  · exact .inl h
  · exact .inr (.inl h)
  · exact .inr (.inr h)⟩
theorem Own.of {X : Cx} (h : ownB X.N X.env.scope = true) : Own X := by
  unfold ownB at h
  rw [Bool.and_eq_true, Bool.and_eq_true] at h
  refine ⟨Seen.of h.1.1, of_decide_eq_true h.1.2, fun i x e => ?_⟩
  have := List.all_eq_true.mp h.2 x (List.mem_of_getElem? e)
  simp only [Bool.or_eq_true, beq_iff_eq] at this
  exact this

/-! ### plain arguments -/
def isStar : Expr → Bool
  | .Starred _ _ => true
  | _ => false
def isSlc : Expr → Bool
  | .Slice _ _ _ _ => true
  | _ => false
def isComp : Expr → Bool
  | .ListComp _ _ _ _ => true
  | .SetComp _ _ _ _ => true
  | .DictComp _ _ _ _ _ => true
  | _ => false
def noStars : List Expr → Bool
  | [] => true
  | e :: es => !isStar e && noStars es
theorem star_cons {e : Expr} {es : List Expr} {env : Env} (h : isStar e = false) : starEach (e :: es) env = (false, eval e env) :: starEach es env := by
  cases e <;> first | rfl | cases h
theorem back_any {pos : Pos} {env : Env} : ∀ {es : List Expr}, noStars es = true → (backTo pos (starEach es env)).any (·.1) = false
  | [], _ => rfl
  | e :: es, h => by
    simp only [noStars, Bool.and_eq_true, Bool.not_eq_true'] at h
    rw [star_cons h.1]
    show (false || (backTo pos (starEach es env)).any (·.1)) = false
    rw [back_any h.2]
    rfl
theorem back_all {pos : Pos} {env : Env} : ∀ {es : List Expr}, noStars es = true → (backTo pos (starEach es env)).all (fun x => !x.1) = true
  | [], _ => rfl
  | e :: es, h => by
    simp only [noStars, Bool.and_eq_true, Bool.not_eq_true'] at h
    rw [star_cons h.1]
    show (!false && (backTo pos (starEach es env)).all (fun x => !x.1)) = true
    rw [back_all h.2]
    rfl
theorem swaps_no {e : Expr} {t : Option Expr} {l : Nat} {env : Env} (h : isComp e = false) : swapsWith e t l env = pure false := by
  cases e <;> first | rfl | cases h
theorem plain_ix {b : Expr} (h : isSlc b = false) : PlainIx b := by
  intro o i
  cases b <;> first | rfl | cases h
theorem few_of {pos : Pos} {env : Env} {e : Expr} {es : List Expr} (h : noStars (e :: es) = true) (hl : (e :: es).length < 20) :
    ((backTo pos (starEach (e :: es) env)).all (fun x => !x.1) && (backToKw pos (keywordEach [] env)).all (fun x => x.1.isSome)
      && decide ((e :: es).length + ([] : List Keyword).length + (if ([] : List Keyword).isEmpty then 0 else 1) < 30)) = true := by
  rw [back_all h]
  simp only [Bool.true_and, Bool.and_eq_true]
  refine ⟨rfl, decide_eq_true ?_⟩
  simp only [List.length_cons, List.length_nil, List.isEmpty_nil, if_true] at hl ⊢
  omega

section
variable {X : Cx}
theorem Seen.v (S : Seen X) (i : Nat) {x : Str} {pos : Pos} (hN : X.N[i]? = some x := by rfl) : PE X (.Name x pos) (tVar i) := pe_var hN (S.vis i x hN).1 (S.vis i x hN).2.1 (S.vis i x hN).2.2
theorem Own.v (S : Own X) (i : Nat) {x : Str} {pos : Pos} (hN : X.N[i]? = some x := by rfl) : PE X (.Name x pos) (tVar i) := S.toSeen.v i hN
theorem Own.set (S : Own X) (i : Nat) {x : Str} {e : Expr} {te : TE} {pos pos' : Pos} (he : PE X e te) (hN : X.N[i]? = some x := by rfl) (hs : isComp e = false := by rfl) (hf : X.fn x = true := by rfl) :
    PS X (.Assign [.Name x pos'] e pos) (tAsg te (gName i)) := ps_set S.nd hN (S.loc i x hN) he (swaps_no hs) (.inl hf)
theorem Own.tg (S : Own X) (i : Nat) {x : Str} {pos : Pos} (hN : X.N[i]? = some x := by rfl) (hf : X.fn x = true := by rfl) : PG X (.Name x pos) (gName i) := pg_name S.nd hN (S.loc i x hN) (.inl hf)

def glB (sc : Scope) (x : Str) : Bool := (sc.names.lookup x == some .globalImplicit) && !(x == ("__name__" : Str)) && !(x == ("__debug__" : Str))
theorem gl_of {x : Str} (h : glB X.env.scope x = true) : Gl X x ∧ x ≠ "__name__" ∧ (x == ("__debug__" : Str)) = false := by
  unfold glB at h
  simp only [Bool.and_eq_true, beq_iff_eq, Bool.not_eq_true'] at h
  refine ⟨h.1.1, fun e => ?_, h.2⟩
  have := h.1.2
  rw [e] at this
  simp at this
theorem cB {x : Str} {p pos : Pos} {e : Expr} {es : List Expr} {t : TA} {id : String} {r : List V → Hp → VK → Prop} (hc : CallR X (.builtin id) r) (hm : X.mg x = none) (hv : bootBuiltins x = some (.builtin id)) (ha : PA X (e :: es) t) (hg : glB X.env.scope x = true := by kernel_rfl)
    (h1 : isStar e = false := by rfl) (h2 : noStars es = true := by rfl) : PE X (.Call (.Name x p) (e :: es) [] pos) (tCB r t) :=
  pe_callB hc (gl_of hg).1 hm hv ha (gl_of hg).2.1 (gl_of hg).2.2 (star_cons h1) (back_any h2)
theorem cT {x : Str} {p pos : Pos} {e : Expr} {es : List Expr} {t : TA} {T : String} {r : List V → Hp → VK → Prop} (hc : CallR X (.type T) r) (hm : X.mg x = none) (hv : bootBuiltins x = some (.type T)) (ha : PA X (e :: es) t) (hg : glB X.env.scope x = true := by kernel_rfl)
    (h1 : isStar e = false := by rfl) (h2 : noStars es = true := by rfl) : PE X (.Call (.Name x p) (e :: es) [] pos) (tCB r t) :=
  pe_callTy hc (gl_of hg).1 hm hv ha (gl_of hg).2.1 (gl_of hg).2.2 (star_cons h1) (back_any h2)
/-- a def of the text, called -/
theorem cF {CX : CXT} {k : Nat} {f : Addr} {fd : FuncData} {ps : List Str} {sp : Sp} {ds : List Value} {dvs : List V} {E : XK} {x : Str} {p pos : Pos} {e : Expr} {es : List Expr} {t : TA}
    (F : FnOk X.prog X.w X.K X.mg X.base CX k f fd ps sp) (hr : Room k X.A) (hm : X.mg x = some (.ref f)) (hk : PySem.W.keepIn X.K (.ref f) = true) (hb : Binds X.K fd ps ds) (hd : Vals dvs ds) (hx : Passes CX X E) (ha : PA X (e :: es) t) (hg : glB X.env.scope x = true := by kernel_rfl)
    (h1 : isStar e = false := by rfl) (h2 : noStars es = true := by rfl) : PE X (.Call (.Name x p) (e :: es) [] pos) (tCall sp dvs E t) :=
  pe_call F hr (gl_of hg).1 hm hk hb hd hx ha (gl_of hg).2.2 (star_cons h1) (back_any h2)
/-- a built-in class by its name -/
theorem nT {x : Str} {T : String} {pos : Pos} (hm : X.mg x = none) (hv : bootBuiltins x = some (.type T)) (hg : glB X.env.scope x = true := by kernel_rfl) : PE X (.Name x pos) (tC (.ty T)) :=
  pe_bltn (gl_of hg).1 hm hv (v := .ty T) rfl (gl_of hg).2.1 (gl_of hg).2.2
theorem rng1 {tg a : Expr} {ta : TA} {p pos : Pos} (hm : X.mg "range" = none) (ha : PA X [a] ta) (hg : glB X.env.scope "range" = true := by kernel_rfl) (h1 : isStar a = false := by rfl) : PI X tg (.Call (.Name "range" p) [a] [] pos) (iRng1 ta) :=
  pi_range1 (gl_of hg).1 hm ha (star_cons h1)
theorem aC {e : Expr} {es : List Expr} {te : TE} {t : TA} (ha : PE X e te) (hr : PA X es t) (h1 : isStar e = false := by rfl) : PA X (e :: es) (tCons te t) := pa_cons ha hr (star_cons h1)
theorem iX {r : R2} {a b : Expr} {ta tb : TE} {pos : Pos} (hr : IxR X r) (ha : PE X a ta) (hb : PE X b tb) (h1 : isSlc b = false := by rfl) : PE X (.Subscript a b pos) (tOp r ta tb) := pe_ix hr ha hb (plain_ix h1)
theorem bM {o e : Expr} {es : List Expr} {to : TE} {t : TA} {name : Str} {apos cpos : Pos} {T id : String} {r : V → List V → Hp → VK → Prop} (pa : PlainAttrs T) (slot : Slot T name id) (hty : typeOf (.builtin id) = pure (.type "method_descriptor")) (hm : MtR X id r) (ho : PE X o to) (ha : PA X (e :: es) t)
    (hbase : attributeBase o name X.env (eval o X.env) = eval o X.env := by rfl) (h1 : noStars (e :: es) = true := by rfl) (hl : (e :: es).length < 20 := by decide)
    (hline : (apos.endLine == cpos.line) = true := by rfl) : PE X (.Call (.Attribute o name apos) (e :: es) [] cpos) (tBM X.K T r to t) := by
  have h2 : isStar e = false ∧ noStars es = true := by simpa [noStars] using h1
  exact pe_bm pa slot hty hm ho ha hbase (few_of h1 hl) hline (star_cons h2.1) (back_any h2.2)
/-- xs.append(e) -/
theorem mApp {o e : Expr} {to te : TE} {apos cpos : Pos} (ho : PE X o to) (ha : PE X e te) (hbase : attributeBase o "append" X.env (eval o X.env) = eval o X.env := by rfl) (h1 : isStar e = false := by rfl) (hline : (apos.endLine == cpos.line) = true := by rfl) :
    PE X (.Call (.Attribute o "append" apos) [e] [] cpos) (tBM X.K "list" rAppend to (tCons te tNil)) :=
  bM PySem.F.plainAttrs_list PySem.F.slot_list_append PySem.F.type_list_append mt_append ho (aC ha pa_nil h1) hbase (by simp [noStars, h1]) (by show 1 < 20; decide) hline
/-- the same from the check itself -/
theorem oV (B : ownB X.N X.env.scope = true) (i : Nat) {x : Str} {pos : Pos} (hN : X.N[i]? = some x := by rfl) : PE X (.Name x pos) (tVar i) := (Own.of B).v i hN
theorem oS (B : ownB X.N X.env.scope = true) (i : Nat) {x : Str} {e : Expr} {te : TE} {pos pos' : Pos} (he : PE X e te) (hN : X.N[i]? = some x := by rfl) (hs : isComp e = false := by rfl) (hf : X.fn x = true := by rfl) :
    PS X (.Assign [.Name x pos'] e pos) (tAsg te (gName i)) := (Own.of B).set i he hN hs hf
theorem oT (B : ownB X.N X.env.scope = true) (i : Nat) {x : Str} {pos : Pos} (hN : X.N[i]? = some x := by rfl) (hf : X.fn x = true := by rfl) : PG X (.Name x pos) (gName i) := (Own.of B).tg i hN hf
theorem sV (i : Nat) {x : Str} {pos : Pos} (hN : X.N[i]? = some x := by rfl) (B : seenB X.N X.env.scope = true := by kernel_rfl) : PE X (.Name x pos) (tVar i) := (Seen.of B).v i hN
/-- [.. for ..] -/
theorem eC {elt iter : Expr} {x : Str} {px pos : Pos} {ifs : List Expr} {scope : Scope} {wi : TI} {tt : TT} {te : TE} (ks : List Nat) (caps : List Str)
    (hc : X.calm = true) (hi : PI X (.Name x px) iter wi)
    (ht : ∀ cl fp s₂ H₂ C, PTs (blk X scope (x :: caps) cl fp s₂ H₂ C) ifs tt) (he : ∀ cl fp s₂ H₂ C, PE (blk X scope (x :: caps) cl fp s₂ H₂ C) elt te) (hS : cscopeB X.env.scope X.N scope x ks caps = true := by kernel_rfl)
    (hs : ∀ v, foldedSetIterable iter X.env v = pure v := by intro _; rfl) : PE X (.ListComp elt [⟨.Name x px, iter, ifs, 0⟩] scope pos) (tComp wi ks tt te) := pe_comp ks caps hc hS hi ht he hs
end
/-- a def, its body written as a list of its statements -/
theorem okB {P : Program} {w : World} {K : PySem.W.Frag} {mg : Str → Option Value} {base : Heap} {x qual : Str} {st : Stmt} {f : Addr} {fd : FuncData} {N ps : List Str} {k : Nat} {sp : Sp} {body : List Stmt} (F : Fun K x qual st f fd) (S : FnScope N ps (defScope st)) (len : ∀ vs H Q E, sp vs H Q E → vs.length = ps.length)
    (hb : defBody st = body)
    (hbody : ∀ (cdv : Value) (A : Around) (outer : List Env) (s : Shared) (H : Hp) (vs : List V) (Q : VK) (E : XK), Room k (A.deeper (envOfC qual (defScope st) s.heap.objs.size f cdv)) → sp vs H Q E →
      ∃ t, PSs (cxOf CX0 P w K mg base N qual (defScope st) f cdv A outer s H E).nox body t ∧ t { nx := fun _ H' => Q .non H', rt := Q } (L2.start N vs) H) : FnOk P w K mg base CX0 (k + 1) f fd ps sp :=
  F.ok S len fun cdv A outer s H vs Q E hr h => by rw [hb]; exact hbody cdv A outer s H vs Q E hr h
/-! ### the rest of the program under names -/
/-- the i-th statement of a def's body -/
def stm (st : Stmt) (i : Nat) : Stmt := (defBody st).getD i (.Pass ⟨0, 0, 0, 0⟩)
end L3

set_option Elab.async false
set_option linter.all false
set_option maxRecDepth 100000
set_option maxHeartbeats 4000000
namespace L3
open PySem PySem.Spec L2
open PyProof.Rows hiding St

/-! ### t + u, t * k -/
section
variable {X : Cx}
end
end L3

set_option Elab.async false
set_option linter.all false
set_option maxRecDepth 100000
set_option maxHeartbeats 4000000
namespace L3
open PySem PySem.Spec L2
open PyProof.Rows hiding St
section
variable {X : Cx}
/-- isinstance(a tuple, T), isinstance(a list, T) -/
theorem call_isiT : CallR X (.builtin "isinstance") (fun xs H Q => ∃ a ys T b, xs = [.ref a, .ty T] ∧ SqT X.K H a ys ∧ PySem.W.kitOne X.K (.type "tuple") (.type T) = some b ∧ Q (.bl b) H) := by
  intro pins s σ H xs us Q I r h
  obtain ⟨a, ys, T, b, rfl, hq, e, q⟩ := h
  obtain ⟨u, v, rfl, ru, rv⟩ := vals2 r
  obtain rfl : v = Value.type T := rv
  cases ru
  obtain ⟨its, _, ⟨o, h1, h2, _⟩, _⟩ := I.tuple hq
  exact PySem.W.kia_one PySem.W.kitx_tuple I.kIn ⟨o, h1, h2⟩ e (fun z => nomatch z) fun tk => ⟨.bl b, H, I.tok tk, rfl, q⟩
theorem call_isiL : CallR X (.builtin "isinstance") (fun xs H Q => ∃ a ys T b, xs = [.ref a, .ty T] ∧ SqL X.K H a ys ∧ PySem.W.kitOne X.K (.type "list") (.type T) = some b ∧ Q (.bl b) H) := by
  intro pins s σ H xs us Q I r h
  obtain ⟨a, ys, T, b, rfl, hq, e, q⟩ := h
  obtain ⟨u, v, rfl, ru, rv⟩ := vals2 r
  obtain rfl : v = Value.type T := rv
  cases ru
  obtain ⟨its, _, p, _⟩ := I.list hq
  obtain ⟨o, h1, h2, _⟩ := p.isList
  exact PySem.W.kia_one PySem.W.kitx_list I.kIn ⟨o, h1, h2⟩ e (fun z => nomatch z) fun tk => ⟨.bl b, H, I.tok tk, rfl, q⟩
theorem kit_int_bool {K : PySem.W.Frag} : PySem.W.kitOne K (.type "int") (.type "bool") = some false := by kernel_rfl
theorem kit_tuple {K : PySem.W.Frag} : PySem.W.kitOne K (.type "tuple") (.type "tuple") = some true := rfl
theorem kit_list {K : PySem.W.Frag} : PySem.W.kitOne K (.type "list") (.type "list") = some true := rfl
end
end L3

set_option Elab.async false
set_option linter.all false
set_option maxRecDepth 100000
set_option maxHeartbeats 4000000
namespace L3
open PySem PySem.Spec L2
open PyProof.Rows hiding St
section
variable {X : Cx}
end
end L3

set_option Elab.async false
set_option linter.all false
set_option maxRecDepth 100000
set_option maxHeartbeats 4000000
namespace L3
open PySem PySem.Spec L2
/-! ### rules that name the module's fragment itself -/
section
variable {X : Cx} (K : PySem.W.Frag)
end
end L3

set_option Elab.async false
set_option linter.all false
set_option maxRecDepth 100000
set_option maxHeartbeats 4000000
namespace Of
open PySem L2 L3
/-! ### the mirror: letters, offices -/
inductive What where
  | pay (to many : Int)
  | cut
  deriving DecidableEq
structure Let where
  s : Nat
  st : List Int
  w : What
  deriving DecidableEq
def whatD : What → PyData
  | .pay t m => .tuple [.str "pay", .int t, .int m]
  | .cut => .tuple [.str "cut"]
def intD (ns : List Int) : List PyData := ns.map .int
def letD (l : Let) : PyData := .tuple [.int l.s, .tuple (intD l.st), whatD l.w]
/-! ### values -/
abbrev nums (ns : List Int) : List V := ns.map V.int
theorem get_nums {ns : List Int} {i : Nat} (h : i < ns.length) : (nums ns)[i]? = some (.int (ns.getD i 0)) := by
  simp [nums, List.getElem?_map, List.getD_eq_getElem?_getD, List.getElem?_eq_getElem h]
theorem reps_ints {K : PySem.W.Frag} {H : Hp} : ∀ {ns : List Int} {xs : List V}, RepDs K H (intD ns) xs ↔ xs = nums ns
  | [], xs => by simp only [intD, List.map_nil, RepDs]
  | n :: ns, xs => by
    simp only [intD, List.map_cons, RepDs, RepD]
    constructor
    · rintro ⟨x, r, rfl, rfl, h⟩
      rw [reps_ints.mp h]
    · rintro rfl
      exact ⟨_, _, rfl, rfl, reps_ints.mpr rfl⟩
def WhatAt (K : PySem.W.Frag) (H : Hp) (c : Addr) : What → Prop
  | .pay t m => SqT K H c [.str "pay", .int t, .int m]
  | .cut => SqT K H c [.str "cut"]
def LetAt (K : PySem.W.Frag) (H : Hp) (a : Addr) (l : Let) : Prop := ∃ b c, SqT K H a [.int l.s, .ref b, .ref c] ∧ SqT K H b (nums l.st) ∧ WhatAt K H c l.w
theorem letAt_iff {K : PySem.W.Frag} {H : Hp} {l : Let} {v : V} : RepD K H (letD l) v ↔ ∃ a, v = .ref a ∧ LetAt K H a l := by
  constructor
  · intro h
    simp only [letD, RepD, RepDs] at h
    obtain ⟨a, xs, rfl, h1, x1, r1, rfl, rfl, x2, r2, rfl, ⟨b, ys, rfl, h2, h3⟩, x3, r3, rfl, h4, rfl⟩ := h
    rw [reps_ints.mp h3] at h2
    cases hw : l.w with
    | pay t m =>
      rw [hw] at h4
      simp only [whatD, RepD, RepDs] at h4
      obtain ⟨c, zs, rfl, h5, y1, q1, rfl, rfl, y2, q2, rfl, rfl, y3, q3, rfl, rfl, rfl⟩ := h4
      exact ⟨a, rfl, b, c, h1, h2, by rw [hw]; exact h5⟩
    | cut =>
      rw [hw] at h4
      simp only [whatD, RepD, RepDs] at h4
      obtain ⟨c, zs, rfl, h5, y1, q1, rfl, rfl, rfl⟩ := h4
      exact ⟨a, rfl, b, c, h1, h2, by rw [hw]; exact h5⟩
  · rintro ⟨a, rfl, b, c, h1, h2, h3⟩
    simp only [letD, RepD, RepDs]
    refine ⟨a, _, rfl, h1, _, _, rfl, rfl, _, _, rfl, ⟨b, _, rfl, h2, reps_ints.mpr rfl⟩, _, _, rfl, ?_, rfl⟩
    cases hw : l.w with
    | pay t m =>
      rw [hw] at h3
      simp only [whatD, RepD, RepDs]
      exact ⟨c, _, rfl, h3, _, _, rfl, rfl, _, _, rfl, rfl, _, _, rfl, rfl, rfl⟩
    | cut =>
      rw [hw] at h3
      simp only [whatD, RepD, RepDs]
      exact ⟨c, _, rfl, h3, _, _, rfl, rfl, rfl⟩
theorem WhatAt.imm {K : PySem.W.Frag} {H H' : Hp} {c : Addr} (e : Imm H H') : ∀ {w : What}, WhatAt K H c w → WhatAt K H' c w
  | .pay _ _, h => e.sqT (show SqT K H c _ from h)
  | .cut, h => e.sqT (show SqT K H c _ from h)
theorem LetAt.imm {K : PySem.W.Frag} {H H' : Hp} {a : Addr} {l : Let} (e : Imm H H') : LetAt K H a l → LetAt K H' a l
  | ⟨b, c, h1, h2, h3⟩ => ⟨b, c, e.sqT h1, e.sqT h2, h3.imm e⟩
theorem reps_one {K : PySem.W.Frag} {H : Hp} {d : PyData} {v : V} (h : RepD K H d v) : RepDs K H [d] [v] := by
  simp only [RepDs]
  exact ⟨v, [], rfl, h, rfl⟩
theorem reps_len {K : PySem.W.Frag} {H : Hp} : ∀ {ds : List PyData} {xs : List V}, RepDs K H ds xs → xs.length = ds.length
  | [], xs, h => by
    have : xs = [] := by simpa only [RepDs] using h
    subst this; rfl
  | d :: ds, xs, h => by
    obtain ⟨x, r, rfl, a, b⟩ : ∃ x r, xs = x :: r ∧ RepD K H d x ∧ RepDs K H ds r := by simpa only [RepDs] using h
    simp only [List.length_cons, reps_len b]
theorem reps_get {K : PySem.W.Frag} {H : Hp} : ∀ {ds : List PyData} {xs : List V} {i : Nat} {d : PyData}, RepDs K H ds xs → ds[i]? = some d → ∃ x, xs[i]? = some x ∧ RepD K H d x
  | [], xs, i, d, h, e => by simp at e
  | d' :: ds, xs, i, d, h, e => by
    obtain ⟨x, r, rfl, a, b⟩ : ∃ x r, xs = x :: r ∧ RepD K H d' x ∧ RepDs K H ds r := by simpa only [RepDs] using h
    cases i with
    | zero => simp at e; subst e; exact ⟨x, rfl, a⟩
    | succ j =>
      obtain ⟨y, h1, h2⟩ := reps_get b (by simpa using e)
      exact ⟨y, by simpa using h1, h2⟩
/-! ### an office as it stands -/
section
variable {n c c' : Int} {cl lb lt lk x : Addr}
end
end Of

set_option Elab.async false
set_option linter.all false
set_option maxRecDepth 100000
set_option maxHeartbeats 4000000
namespace L4
open PySem PySem.Spec L2 L3
open PyProof.Rows hiding St

/-! ### an exception in flight: B holds all that was there when it was raised, but the frames -/
structure UnB (fs : List Addr) (H H' : Hp) (h B : Heap) : Prop where
  keep : ∀ b o, h.get? b = some o → H b = none → b ∉ fs → B.get? b = some o
  free : ∀ b o, h.get? b = some o → H b = none → H' b = none
  there : ∀ b o, h.get? b = some o → b ∉ fs → ∃ o', B.get? b = some o'
  tups : ∀ b xs, H b = some (.tup xs) → H' b = some (.tup xs)
  frzs : ∀ b o u, H b = some (.frz o u) → H' b = some (.frz o u)
  tbls : ∀ b ps, H b = some (.tbl ps) → ∃ more, H' b = some (.tbl (ps ++ more))
def SlF (fs : List Addr) (h h' : Heap) : Prop := ∀ b ∈ fs, ∀ o, h.get? b = some o → ∃ sl, h'.get? b = some { o with slots := sl }
def NoF (fs : List Addr) (h : Heap) : Prop := ∀ b ∈ fs, ∀ o, h.get? b = some o → ∀ vs, o.data ≠ .fields vs
theorem UnB.un {fs : List Addr} {H H' : Hp} {h B h' : Heap} (u : UnB fs H H' h B) (st : B.StaysIn h') (sl : SlF fs h h') : Un fs [] H H' h h' where
  keep := fun b o e n hb _ => st b o (u.keep b o e n hb)
  slot := fun b o e n hb _ => sl b hb o e
  free := fun b o e n _ => u.free b o e n
  there := fun b o e _ => by
    by_cases hb : b ∈ fs
    · obtain ⟨s, q⟩ := sl b hb o e
      exact ⟨_, q⟩
    · obtain ⟨o', q⟩ := u.there b o e hb
      exact ⟨o', st _ _ q⟩
  tups := u.tups
  frzs := u.frzs
  tbls := u.tbls
theorem SlF.up {fs : List Addr} {h h1 h2 : Heap} (x : SlF fs h h1) (n : NoF fs h) (u : h1.UpToSlots h2) : SlF fs h h2 := fun b hb o e => by
  obtain ⟨sl, q⟩ := x b hb o e
  obtain ⟨sl', q'⟩ := u b _ q (n b hb o e)
  exact ⟨sl', q'⟩
theorem noF_of {base h : Heap} {l : List Env} (f : h.FunFrames base l) : NoF (frs l) h := fun b hb o e vs => by
  obtain ⟨_, o', ho', hd⟩ := f.mem hb
  rw [e] at ho'
  cases ho'
  exact hd vs

/-- how an own exception lies behind a call -/
def CX1 (P : Program) (w : World) : CXT := fun outer H s E e s' =>
  ∃ (a C : Addr) (a0 : Value) (B : Heap) (H' : Hp), e = .ref a ∧ s'.os = s.os ∧ AllBare s'.gens ∧ Heap.FlyingW B outer a (.ref C) a0 s'.heap ∧ UnB (frs outer) H H' s.heap B ∧ SlF (frs outer) s.heap s'.heap ∧ HOk P w H' B ∧ E (.ref C) none H'
section
variable {X : Cx} {pins : List (Addr × Obj)} {σ : St} {H H' : Hp} {s : Shared} {B : Heap}
abbrev hidF (X : Cx) (s : Shared) : Heap := PySem.W.hideAll s.heap (frs X.stack)
theorem hid_stays : (hidF X s).StaysIn s.heap := fun _ _ q => PySem.W.of_hideAll _ q
theorem hid_frames (I : Inv X pins σ H s) : s.heap.FunFrames (hidF X s) X.stack := PySem.W.funFrames_hide I.stack fun env he a hf => List.mem_filterMap.mpr ⟨env, he, hf⟩
theorem hid_ok (I : Inv X pins σ H s) : HOk X.prog X.w H (hidF X s) := fun a o e => (I.hok a o e).stay (fun b u hb q => PySem.W.hideAll_get _ q fun m => by
  have z := I.stkFree b m
  rcases hb with rfl | hb
  · rw [e] at z; cases z
  · rw [hb] at z; cases z) (fun _ q => q) fun _ _ q => q
theorem not_stk (I : Inv X pins σ H s) {b : Addr} {o : Obj} (e : X.s₀.heap.get? b = some o) (hb : b ∉ X.fs) : b ∉ frs X.stack := fun m => by
  rcases List.mem_cons.mp (I.stkSub b m) with z | z
  · exact absurd z (Nat.ne_of_lt (Nat.lt_of_lt_of_le (Heap.lt_size e) I.ok.above))
  · exact hb z
theorem onB (I : Inv X pins σ H s) (hex : X.ex = []) (u : UnB (frs X.stack) H H' s.heap B) : UnB X.fs X.H₀ H' X.s₀.heap B := by
  have nx : ∀ b : Addr, b ∉ X.ex := fun b z => by rw [hex] at z; cases z
  refine ⟨fun b o e n hb => u.keep b o (I.base.keep b o e n hb (nx b)) (I.base.free b o e n (nx b)) (not_stk I e hb), fun b o e n => ?_, fun b o e hb => ?_, fun b xs e => u.tups b xs (I.base.tups b xs e), fun b o xs e => u.frzs b o xs (I.base.frzs b o xs e), fun b ps e => ?_⟩
  · obtain ⟨o', e'⟩ := I.base.there b o e (nx b)
    exact u.free b o' e' (I.base.free b o e n (nx b))
  · obtain ⟨o', e'⟩ := I.base.there b o e (nx b)
    exact u.there b o' e' (not_stk I e hb)
  · obtain ⟨m1, e1⟩ := I.base.tbls b ps e
    obtain ⟨m2, e2⟩ := u.tbls b _ e1
    exact ⟨m1 ++ m2, by rw [e2, Array.append_assoc]⟩
theorem hid_un (I : Inv X pins σ H s) : UnB (frs X.stack) H H s.heap (hidF X s) :=
  ⟨fun b o e _ hb => PySem.W.hideAll_get _ e hb, fun _ _ _ n => n, fun b o e hb => ⟨o, PySem.W.hideAll_get _ e hb⟩, fun _ _ e => e, fun _ _ _ e => e, fun b ps e => ⟨#[], by rw [e]; simp⟩⟩
theorem base_slots (I : Inv X pins σ H s) (hex : X.ex = []) : SlF X.fs X.s₀.heap s.heap := fun b hb o e => I.base.slot b o e (I.ok.frf b hb) hb (by rw [hex]; simp)
theorem SlF.trans {fs gs : List Addr} {h h1 h2 : Heap} (x : SlF fs h h1) (y : SlF gs h1 h2) (s : ∀ b ∈ fs, b ∈ gs) : SlF fs h h2 := fun b hb o e => by
  obtain ⟨sl, q⟩ := x b hb o e
  obtain ⟨sl', q'⟩ := y b (s b hb) _ q
  exact ⟨sl', q'⟩
end

/-! ### raising, and letting pass -/
def Throws (X : Cx) (C : Addr) (W : Hp → Prop) : Prop := ∀ (pins : List (Addr × Obj)) (σ : St) (H : Hp) (s : Shared) (h' : Heap) (e : Addr) (vs : List Value), Inv X pins σ H s → Heap.MadeExcOf s.heap h' e (.ref C) vs → W H → X.xe (.ref e) { s with heap := h' }
section
variable {P : Program} {w : World} {K : PySem.W.Frag} {mg : Str → Option Value} {base : Heap} {N : List Str} {qual : Str} {scope : Scope} {f : Addr} {cd : Value} {A : Around} {outer : List Env} {s0 : Shared} {H0 : Hp} {E : XK} {C : Addr}
theorem throws_cx : Throws (cxOf (CX1 P w) P w K mg base N qual scope f cd A outer s0 H0 E) C (fun H => E (.ref C) none H) := by
  intro pins σ H s h' e vs I hx q
  refine wpAny_leaves_madeW (base := hidF _ s) (h := s.heap) I.ok.frames rfl hid_stays (hid_frames I) hx fun h'' t x1 x2 x3 x4 => ?_
  refine ⟨e, C, .ref t, hidF _ s, H, rfl, I.os, I.bare, x1, onB I rfl (hid_un I), ?_, hid_ok I, q⟩
  exact SlF.up (base_slots I rfl) (noF_of I.ok.funs) ((Heap.UpToSlots.of_keeps hx.keeps).trans x4)
theorem pass1 : Passes (CX1 P w) (cxOf (CX1 P w) P w K mg base N qual scope f cd A outer s0 H0 E) E := by
  rintro pins σ H s e s' I ⟨a, C, a0, B, H', rfl, os, bare, fl, un, sl, hok, q⟩
  refine wpAny_leaves_onW I.ok.frames rfl fl fun h'' x1 x2 => ?_
  refine ⟨a, C, a0, B, H', rfl, os.trans I.os, bare, x1, onB I rfl un, ?_, hok, q⟩
  exact SlF.up (SlF.trans (base_slots I rfl) sl fun b hb => List.mem_filterMap.mpr (by
    obtain ⟨env, he, hf⟩ := List.mem_filterMap.mp hb
    exact ⟨env, List.mem_cons_of_mem _ he, hf⟩)) (noF_of I.ok.funs) x2
end
theorem pass10 {P : Program} {w : World} {X : Cx} : Passes (CX1 P w) X E0 := fun _ _ _ _ _ _ _ ⟨_, _, _, _, _, _, _, _, _, _, _, _, q⟩ => q.elim

/-! ### the class of an exception, in the text's own part of the heap -/
def excCls (K : PySem.W.Frag) (C D : Addr) : Bool := PySem.W.kitCls K (.ref C) (.ref D) == some true && PySem.W.subIn K (.ref D) (.type "BaseException") == some true
structure ExcOf (K : PySem.W.Frag) (C : Addr) : Prop where
  ok : PySem.W.excIn K C [.type "ValueError", .type "Exception", .type "BaseException", .type "object"] "ValueError.__new__" = true
theorem ExcOf.obj {K : PySem.W.Frag} {C : Addr} {h : Heap} (O : ExcOf K C) (X : K.In h) : ∃ bm N nm q bs hdct sn sub ab col dd k0 k1 k2 k3 k5 mN, h.get? C = some (excClassObj nm q C N bs bm hdct sn sub ab col dd k0 k1 k2 k3 k5 "ValueError.__new__") ∧ h.Ns N mN ∧ mN "__init__" = none ∧
    OwnTail h [.type "ValueError", .type "Exception", .type "BaseException", .type "object"] bm := by
  have z := O.ok
  unfold PySem.W.excIn at z
  split at z
  next dd cd sl ho =>
    split at z
    next C' bm k0 k1 k2 k3 n k5 hm hs =>
      simp only [Bool.and_eq_true, beq_iff_eq, Bool.not_eq_true'] at z
      obtain ⟨⟨⟨⟨⟨e1, e2⟩, hdel⟩, tl⟩, ok⟩, ni⟩ := z
      subst e1 e2
      obtain ⟨nm, bs, mro, ns, qn, hd, sn, sub, ab, col, del⟩ := cd
      obtain ⟨l⟩ := sl
      simp only at hm hs hdel ok ni
      subst hm hdel hs
      exact ⟨bm, ns, nm, qn, bs, hd, sn, sub, ab, col, dd, k0, k1, k2, k3, k5, _, X _ _ ho, .of_isNs (PySem.W.isNs_of_in X ok), PySem.W.nsMap_none_of_in X ok ni, PySem.W.tail_of_in X tl⟩
    next => cases z
  next => cases z

section
variable {X : Cx} {C : Addr}
def tRaise (W : Hp → Prop) (ta : TA) : TS := fun _ σ H => ta σ H fun vs H1 => vs.length ≤ sizeLine ∧ W H1
/-- raise C(e, ..) -/
theorem ps_raise {W : Hp → Prop} {x : Str} {np cpos pos : Pos} {e : Expr} {es : List Expr} {ta : TA} (hx : Throws X C W) (O : ExcOf X.K C) (hc : X.calm = true) (hm : X.mg x = some (.ref C)) (ha : PA X (e :: es) ta) (hg : glB X.env.scope x = true := by kernel_rfl)
    (h1 : isStar e = false := by rfl) (h2 : noStars es = true := by rfl) : PS X (.Raise (some (.Call (.Name x np) (e :: es) [] cpos)) none pos) (tRaise W ta) := by
  intro pins s σ H D I h
  obtain ⟨bm, N, nm, q, bs, hdct, sn, sub, ab, col, dd, k0, k1, k2, k3, k5, mN, hC, hN, hni, T⟩ := O.obj I.ok.mod.kin
  have st : starEach (e :: es) X.env = (false, eval e X.env) :: starEach es X.env := star_cons h1
  refine wpAny_Raise_call_subT (C := C) (nm := nm) (q := q) (N := N) (bs := bs) (bm := bm) (hdct := hdct) (sn := sn) (sub := sub) (ab := ab) (col := col) (dd := dd) (k0 := k0) (k1 := k1) (k2 := k2) (k3 := k3) (k5 := k5)
    PySem.F.excBase_ValueError (mN := mN) (T.hasType PySem.F.excBase_ValueError.hasBase) (I.ok.hd hc) (back_any (by simp [noStars, h1, h2])) hni (ld_glob I (gl_of hg).1 hm ⟨rfl, ?_⟩ (gl_of hg).2.2)
  have hh := ha cpos pins s σ H _ I h
  rw [st] at hh ⊢
  exact Calls.evalArgs_plain (wpAny_mono hh (fun vs s₂ ⟨xs, H1, I1, r, hl, w⟩ => ⟨rfl, by rw [← r.length]; exact hl, I1.bk _ _ hC, hN.keeps I1.bk, T.keeps I1.bk, fun h' e' hm' => hx pins σ H1 s₂ h' e' vs I1 hm' w⟩) fun _ _ y => y)
end

/-! ### except -/
theorem exc_match {K : PySem.W.Frag} {M : Model} {A : Around} {E : Value → Shared → Prop} {s : Shared} {e C D : Addr} {oe : Obj} {Q : Bool → Shared → Prop} (X : K.In s.heap) (he : s.heap.get? e = some oe) (hc : oe.cls = .ref C) (k : excCls K C D = true)
    (hq : Q true s) : wpAny M A (excMatches (.ref e) (.ref D)) Q E s := by
  obtain ⟨h, g, d, t, os⟩ := s
  unfold excCls at k
  rw [Bool.and_eq_true, beq_iff_eq, beq_iff_eq] at k
  obtain ⟨k1, k2, k3⟩ := PySem.W.kit_cls (M := M) X k.1
  have k4 := PySem.W.looks_subIn (M := M) X k.2
  have f := tc_notTuple
  unfold excMatches isExcClass isInstance
  repeat (first | (with_reducible refine wpAny_loadPart_at he ?_; rw [hc]) | with_reducible refine k1.at ?_ | with_reducible refine k2.at ?_ | with_reducible refine k3.at ?_ | with_reducible refine k4.at ?_ | wp_step)
  exact hq

section
variable {X : Cx}
/-- the body of a try -/
abbrev tryX (X : Cx) (pn : List (Addr × Obj)) (Ex : St → XK) : Cx := { X with pn := X.pn ++ pn, xe := fun e s' => ∃ pins σ H s, Inv X (pn ++ pins) σ H s ∧ CX1 X.prog X.w X.stack H s (Ex σ) e s' }
/-- an except suite -/
abbrev hush (X : Cx) (v : Value) : Cx := { X with A := X.A.mark (some v), calm := false, xe := fun _ _ => False }
section
variable {pins pn : List (Addr × Obj)} {Ex : St → XK} {σ : St} {H : Hp} {s : Shared} {v : Value}
theorem inv_try (I : Inv X (pn ++ pins) σ H s) : Inv (tryX X pn Ex) pins σ H s :=
  ⟨⟨I.ok.mod, I.ok.kind, I.ok.glob, I.ok.blt, I.ok.above, I.ok.inj, I.ok.has, I.ok.cab, I.ok.hd, I.ok.frames, I.ok.stk, I.ok.exf, I.ok.bs, I.ok.bsz, I.ok.noex, I.ok.exfs, I.ok.funs, I.ok.frf⟩, I.os, I.bare, I.base, I.loc, I.cell, I.free, I.freeC, fun p hp => I.pin p (by rw [← List.append_assoc]; exact hp), I.hok, I.len⟩
theorem of_try (I : Inv (tryX X pn Ex) pins σ H s) : Inv X (pn ++ pins) σ H s :=
  ⟨⟨I.ok.mod, I.ok.kind, I.ok.glob, I.ok.blt, I.ok.above, I.ok.inj, I.ok.has, I.ok.cab, I.ok.hd, I.ok.frames, I.ok.stk, I.ok.exf, I.ok.bs, I.ok.bsz, I.ok.noex, I.ok.exfs, I.ok.funs, I.ok.frf⟩, I.os, I.bare, I.base, I.loc, I.cell, I.free, I.freeC, fun p hp => I.pin p (by rw [← List.append_assoc] at hp; exact hp), I.hok, I.len⟩
theorem inv_hush (I : Inv X pins σ H s) : Inv (hush X v) pins σ H s :=
  ⟨⟨I.ok.mod, I.ok.kind, I.ok.glob, I.ok.blt, I.ok.above, I.ok.inj, I.ok.has, I.ok.cab, (fun z => by cases z), I.ok.frames, I.ok.stk, I.ok.exf, I.ok.bs, I.ok.bsz, I.ok.noex, I.ok.exfs, I.ok.funs, I.ok.frf⟩, I.os, I.bare, I.base, I.loc, I.cell, I.free, I.freeC, I.pin, I.hok, I.len⟩
theorem of_hush (hd : X.calm = true → X.A.handled = none) (I : Inv (hush X v) pins σ H s) : Inv X pins σ H s :=
  ⟨⟨I.ok.mod, I.ok.kind, I.ok.glob, I.ok.blt, I.ok.above, I.ok.inj, I.ok.has, I.ok.cab, hd, I.ok.frames, I.ok.stk, I.ok.exf, I.ok.bs, I.ok.bsz, I.ok.noex, I.ok.exfs, I.ok.funs, I.ok.frf⟩, I.os, I.bare, I.base, I.loc, I.cell, I.free, I.freeC, I.pin, I.hok, I.len⟩
theorem sp_try {D : Ends} {f : Flow} (h : SP (tryX X pn Ex) [] D f s) : SP X pn D f s := by
  have g : ∀ {σ H}, Inv (tryX X pn Ex) [] σ H s → Inv X pn σ H s := fun {σ H} I => by
    have := of_try I
    rwa [List.append_nil] at this
  cases f with
  | next => obtain ⟨σ, H, I, q⟩ := h; exact ⟨σ, H, g I, q⟩
  | brk => obtain ⟨σ, H, I, q⟩ := h; exact ⟨σ, H, g I, q⟩
  | cont => obtain ⟨σ, H, I, q⟩ := h; exact ⟨σ, H, g I, q⟩
  | ret u => obtain ⟨v, σ, H, I, r, q⟩ := h; exact ⟨v, σ, H, g I, r, q⟩
theorem sp_hush {D : Ends} {f : Flow} (hd : X.calm = true → X.A.handled = none) (h : SP (hush X v) pins D f s) : SP X pins D f s := by
  cases f with
  | next => obtain ⟨σ, H, I, q⟩ := h; exact ⟨σ, H, of_hush hd I, q⟩
  | brk => obtain ⟨σ, H, I, q⟩ := h; exact ⟨σ, H, of_hush hd I, q⟩
  | cont => obtain ⟨σ, H, I, q⟩ := h; exact ⟨σ, H, of_hush hd I, q⟩
  | ret u => obtain ⟨v, σ, H, I, r, q⟩ := h; exact ⟨v, σ, H, of_hush hd I, r, q⟩
end
/-- try: .. except D: .. -/
def tTry (K : PySem.W.Frag) (D : Addr) (tb : (St → XK) → TS) (th : TS) : TS := fun d σ H => tb (fun σ' c _ H' => ∃ C, c = .ref C ∧ excCls K C D = true ∧ th d σ' H') d σ H
theorem ps_try {body suite : List Stmt} {b₀ : Stmt} {x : Str} {D : Addr} {np hpos pos : Pos} {tb : (St → XK) → TS} {th : TS} (hm : X.mg x = some (.ref D)) (hb : ∀ pn Ex, PSs (tryX X pn Ex) body (tb Ex)) (hh : ∀ v, PSs (hush X v) (b₀ :: suite) th)
    (hst : X.stack = X.env :: X.outer := by rfl) (hfr : X.env.frame = some X.env.locals := by rfl) (hg : glB X.env.scope x = true := by kernel_rfl) :
    PS X (.Try body [.ExceptHandler (some (.Name x np)) none (b₀ :: suite) hpos] [] [] pos) (tTry X.K D tb th) := by
  intro pins s σ H d I h
  refine wpAny_Try_except ?_
  refine wpAny_mono (hb pins _ [] s σ H d (inv_try (by rw [List.append_nil]; exact I)) h) (fun f s1 q => ?_) fun e s' q => ?_
  · have q := sp_try q
    cases f with
    | next => exact wpAny_execs_nil q
    | brk => exact q
    | cont => exact q
    | ret u => exact q
  · obtain ⟨pins', σ', H1, s1, I1, a, C, a0, B, H', rfl, os, bare, fl, un, sl, hok, C', hC', mt, ht⟩ := q
    cases hC'
    have hf : X.A.frames = some (X.env :: X.outer) := by rw [← hst]; exact I.ok.frames
    have nf := noF_of I1.stack
    rw [hst] at fl
    have at_ : ∀ {h' : Heap}, Heap.FlyingW B (X.env :: X.outer) a (.ref C) a0 h' → s'.heap.UpToSlots h' → Inv X pins σ' H' { s' with heap := h' } := fun {h'} f u => by
      have J : Inv X (pins ++ pins') σ' H' { s' with heap := h' } := I1.call' (ch := []) os (un.un f.1 (sl.up nf u)) (hok.kept f.1) bare (fun _ z => nomatch z)
      exact J.pins_of fun p hp => J.pin p (List.mem_append_right _ (List.mem_append_left _ hp))
    refine wpAny_looks_onW hf hfr fl fun h4 fl4 up4 => wpAny_landsW fl4 fun h5 fl5 up5 => ?_
    have I5 := at_ fl5 (up4.trans up5)
    obtain ⟨ob, hob, hobc⟩ := fl5.there
    refine wpAny_handleBy_cons (codeAny_handlers_test (ld_glob (X := hush X (.ref a)) (inv_hush I5) (gl_of hg).1 hm ?_ (gl_of hg).2.2)) (by intro q; cases q)
    refine exc_match I5.kIn hob hobc mt (codeAny_handlers_suite (lands_againW fl5 fun h6 fl6 up6 => ?_))
    have I6 := at_ fl6 ((up4.trans up5).trans up6)
    exact wpAny_mono (hh (.ref a) pins _ σ' H' d (inv_hush I6) ht) (fun f s2 q => sp_hush I.ok.hd q) fun _ _ z => z.elim
end

/-! ### calls within a try -/
def PassesS (CX : CXT) (X : Cx) (Ex : St → XK) : Prop := ∀ (pins : List (Addr × Obj)) (σ : St) (H : Hp) (s : Shared) (e : Value) (s' : Shared), Inv X pins σ H s → CX X.stack H s (Ex σ) e s' → X.xe e s'
theorem passS {X : Cx} {pn : List (Addr × Obj)} {Ex : St → XK} : PassesS (CX1 X.prog X.w) (tryX X pn Ex) Ex := fun pins σ H s _ _ I h => ⟨pins, σ, H, s, of_try I, h⟩
section
variable {X : Cx} {CX : CXT} {k : Nat} {f C : Addr} {fd : FuncData} {ps : List Str} {sp : Sp} {dvs : List V} {ds : List Value} {Ex : St → XK} {x m : Str} {p pos apos : Pos} {e o : Expr} {es : List Expr} {ta : TE} {t : TA}
theorem run_fnX {pins : List (Addr × Obj)} {σ : St} {H : Hp} {s : Shared} {Q : VK} {us : List Value} {vs : List V} (F : FnOk X.prog X.w X.K X.mg X.base CX k f fd ps sp) (hr : Room k X.A) (hb : Binds X.K fd ps ds) (hd : Vals dvs ds) (hx : PassesS CX X Ex)
    (I : Inv X pins σ H s) (r : Vals vs us) (h : sp (vs ++ dvs) H Q (Ex σ)) : wpAny (model X.prog X.w) X.A (call (.ref f) us) (EP X pins σ Q) X.xe s := by
  have r2 : Vals (vs ++ dvs) (us ++ ds) := r.append hd
  have hl : (us ++ ds).length = ps.length := by rw [← r2.length]; exact F.len _ _ _ _ h
  refine wpAny_call (codeAny_mono (F.run X.A X.stack s H ⟨us, []⟩ (us ++ ds) (vs ++ dvs) Q (Ex σ) hr I.env0 (hb s us I.kIn hl) r2 h) fun r s' hq => ?_)
  cases r with
  | error e => exact hx pins σ H s e s' I hq
  | ok fl =>
    cases fl with
    | ret u => exact I.after hq
    | next => exact False.elim hq
    | brk => exact False.elim hq
    | cont => exact False.elim hq
def tCallX (sp : Sp) (dvs : List V) (Ex : St → XK) (t : TA) : TE := fun σ H Q => t σ H fun vs H1 => sp (vs ++ dvs) H1 Q (Ex σ)
theorem cFX (F : FnOk X.prog X.w X.K X.mg X.base CX k f fd ps sp) (hr : Room k X.A) (hm : X.mg x = some (.ref f)) (hk : PySem.W.keepIn X.K (.ref f) = true) (hb : Binds X.K fd ps ds) (hd : Vals dvs ds) (hx : PassesS CX X Ex) (ha : PA X (e :: es) t) (hg : glB X.env.scope x = true := by kernel_rfl)
    (h1 : isStar e = false := by rfl) (h2 : noStars es = true := by rfl) : PE X (.Call (.Name x p) (e :: es) [] pos) (tCallX sp dvs Ex t) := by
  intro pins s σ H Q I h
  refine wpAny_Call_Name_kw (ld_glob I (gl_of hg).1 hm ?_ (gl_of hg).2.2)
  refine PySem.W.callWith_K (h₀ := X.base) I.ok.mod.kin hk (thn (ha pos pins s σ H _ I h) fun us s1 ⟨vs, H1, I1, r, q⟩ => ⟨I1.kIn, ?_⟩) (star_cons h1) (back_any h2)
  exact run_fnX F hr hb hd hx I1 r q
end
/-- a def that lets exceptions out, its body written as a list of its statements -/
theorem okB1 {P : Program} {w : World} {K : PySem.W.Frag} {mg : Str → Option Value} {base : Heap} {x qual : Str} {st : Stmt} {f : Addr} {fd : FuncData} {N ps : List Str} {k : Nat} {sp : Sp} {body : List Stmt} (F : Fun K x qual st f fd) (S : FnScope N ps (defScope st)) (len : ∀ vs H Q E, sp vs H Q E → vs.length = ps.length)
    (hb : defBody st = body)
    (hbody : ∀ (cdv : Value) (A : Around) (outer : List Env) (s : Shared) (H : Hp) (vs : List V) (Q : VK) (E : XK), Room k (A.deeper (envOfC qual (defScope st) s.heap.objs.size f cdv)) → sp vs H Q E →
      ∃ t, PSs (cxOf (CX1 P w) P w K mg base N qual (defScope st) f cdv A outer s H E) body t ∧ t { nx := fun _ H' => Q .non H', rt := Q } (L2.start N vs) H) : FnOk P w K mg base (CX1 P w) (k + 1) f fd ps sp := by
  obtain ⟨oc, od, kV, doc, pm, an, cdv, ct, osl, rfl, lk, hcd⟩ := F.ex
  refine fn_of lk hcd S len fun A outer s H vs Q E hr hsp => ?_
  rw [hb]
  exact hbody cdv A outer s H vs Q E hr hsp
theorem PS.nox {X : Cx} {st : Stmt} {t : TS} (h : PS X.nox st t) : PS X st t := fun pins s σ H D I hw =>
  wpAny_mono (h pins s σ H D (I.wish _) hw) (fun _ _ q => q.unwish) fun _ _ z => False.elim z
end L4

set_option Elab.async false
set_option linter.all false
set_option maxRecDepth 100000
set_option maxHeartbeats 4000000
namespace L4
open PySem PySem.Spec L2 L3
open PyProof.Rows hiding St

/-! ### except D as e -/
section
variable {X : Cx} {pins : List (Addr × Obj)} {σ : St} {H : Hp} {s : Shared}
/-- a name goes -/
theorem gone_ok {M : Model} {A : Around} {E : Value → Shared → Prop} {i : Nat} {x : Str} {pos : Pos} {Q : Unit → Shared → Prop} (I : Inv X pins σ H s) (hN : X.N.Nodup) (hi : X.N[i]? = some x) (hk : X.env.scope.names.lookup x = some .local)
    (h : ∀ s', Inv X pins (σ.set i none) H s' → Q () s') : wpAny M A (do bindName X.env x .none; unbindBehindTheSuite X.env x pos) Q E s := by
  obtain ⟨m, hn, hl⟩ := id I.loc
  have hcls : (X.env.scope.kind == .class || (X.env.scope.kind == .module && X.env.locals != X.env.globals)) = false := by rw [I.ok.kind]; rfl
  have old : ∀ {b : Addr} {o : Obj}, X.s₀.heap.get? b = some o → b ≠ X.env.locals := fun e => Nat.ne_of_lt (Nat.lt_of_lt_of_le (Heap.lt_size e) I.ok.above)
  refine wpAny_nameGoes_keeps hk hn hcls (fun h' v hn' hs => ?_)
  have base : Un X.fs X.ex X.H₀ H X.s₀.heap h' := by
    refine ⟨fun b o e n hb hx => (hs.2 b (old e)).trans (I.base.keep b o e n hb hx), fun b o e n hb hx => ?_, I.base.free, fun b o e hx => ?_, I.base.tups, I.base.frzs, I.base.tbls⟩
    · obtain ⟨sl, e1⟩ := I.base.slot b o e n hb hx
      exact ⟨sl, (hs.2 b (old e)).trans e1⟩
    · obtain ⟨o', e1⟩ := I.base.there b o e hx
      exact ⟨o', (hs.2 b (old e)).trans e1⟩
  have hok : HOk X.prog X.w H h' := fun b ob e => (I.hok b ob e).stay (fun c w' hc q => (hs.2 c (fun z => by
    subst z
    have f := I.free
    rcases hc with hc | hc
    · rw [hc, e] at f; cases f
    · rw [hc] at f; cases f)).trans q) (fun _ q => q) fun _ _ q => q
  refine h _ ⟨I.ok, I.os, I.bare, base, ⟨_, hn', fun j y v' e1 e2 e3 => ?_⟩, fun y c e => ?_, I.free, I.freeC, fun p hp => ?_, hok, by rw [List.length_set]; exact I.len⟩
  · by_cases hj : j = i
    · subst hj
      have hjl : j < σ.length := by
        have := (List.getElem?_eq_some_iff.mp e2).1
        rwa [List.length_set] at this
      rw [List.getElem?_set_self hjl] at e2
      cases e2
    · rw [List.getElem?_set_ne (Ne.symm hj)] at e2
      obtain ⟨u', r', q⟩ := hl j y v' e1 e2 e3
      refine ⟨u', r', ?_⟩
      rcases q with ⟨k, e⟩ | ⟨k, c, e, z⟩
      · refine .inl ⟨k, ?_⟩
        have : y ≠ x := fun e => hj (nodup_ix hN e1 (e ▸ hi))
        simp [this, e]
      · exact .inr ⟨k, c, e, z.sameBut hs (I.cne y c e)⟩
  · obtain ⟨w', z⟩ := I.cell y c e
    exact ⟨w', z.sameBut hs (I.cne y c e)⟩
  · obtain ⟨e, n, ne, nf, d⟩ := I.pin p hp
    exact ⟨(hs.2 p.1 ne).trans e, n, ne, nf, d⟩
end
/-- a suite that has the exception at a in hand -/
abbrev hushE (X : Cx) (a : Addr) (oe : Obj) : Cx := { X with A := X.A.mark (some (.ref a)), calm := false, pn := X.pn ++ [(a, oe)], xe := fun _ _ => False }
section
variable {X : Cx}
section
variable {pins : List (Addr × Obj)} {σ : St} {H : Hp} {s : Shared} {a : Addr} {oe : Obj}
theorem inv_hushE (I : Inv X pins σ H s) (h1 : s.heap.get? a = some oe) (h2 : H a = none) (h3 : a ≠ X.env.locals) (h4 : a ∉ X.fs) (h5 : ∀ v, oe.data ≠ .cell v) : Inv (hushE X a oe) pins σ H s :=
  ⟨⟨I.ok.mod, I.ok.kind, I.ok.glob, I.ok.blt, I.ok.above, I.ok.inj, I.ok.has, I.ok.cab, (fun z => by cases z), I.ok.frames, I.ok.stk, I.ok.exf, I.ok.bs, I.ok.bsz, I.ok.noex, I.ok.exfs, I.ok.funs, I.ok.frf⟩, I.os, I.bare, I.base, I.loc, I.cell, I.free, I.freeC, (fun p hp => by
    rcases List.mem_append.mp hp with hp | hp
    · rcases List.mem_append.mp hp with hp | hp
      · exact I.pin p (List.mem_append_left _ hp)
      · have : p = (a, oe) := by simpa using hp
        subst this
        exact ⟨h1, h2, h3, h4, h5⟩
    · exact I.pin p (List.mem_append_right _ hp)), I.hok, I.len⟩
theorem of_hushE (hd : X.calm = true → X.A.handled = none) (I : Inv (hushE X a oe) pins σ H s) : Inv X pins σ H s :=
  ⟨⟨I.ok.mod, I.ok.kind, I.ok.glob, I.ok.blt, I.ok.above, I.ok.inj, I.ok.has, I.ok.cab, hd, I.ok.frames, I.ok.stk, I.ok.exf, I.ok.bs, I.ok.bsz, I.ok.noex, I.ok.exfs, I.ok.funs, I.ok.frf⟩, I.os, I.bare, I.base, I.loc, I.cell, I.free, I.freeC, (fun p hp => I.pin p (by
    rcases List.mem_append.mp hp with hp | hp
    · exact List.mem_append_left _ (List.mem_append_left _ hp)
    · exact List.mem_append_right _ hp)), I.hok, I.len⟩
end
theorem objOk_there {P : Program} {w : World} {H : Hp} {h : Heap} {a : Addr} {o : HO} (x : ObjOk P w H h a o) : ∃ ob, h.get? a = some ob := by
  cases o with
  | lst xs => obtain ⟨_, _, _, _, e⟩ := x; exact ⟨_, e⟩
  | tup xs => obtain ⟨_, _, _, _, e, _⟩ := x; exact ⟨_, e⟩
  | dK kvs => obtain ⟨_, _, _, _, o, _, _, e, _⟩ := x; exact ⟨_, e⟩
  | dT kvs => obtain ⟨_, _, _, _, o, _, _, e, _⟩ := x; exact ⟨_, e⟩
  | set S n => obtain ⟨o, _, _, _, e, _⟩ := x; exact ⟨_, e⟩
  | ins C dx fs => obtain ⟨_, _, _, e, _⟩ := x; exact ⟨_, e⟩
  | own y => obtain ⟨_, e⟩ := x; exact ⟨_, e⟩
  | xd fs => obtain ⟨_, ⟨_, _, _, e, _⟩, _⟩ := x; exact ⟨_, e⟩
  | rng lo hi => obtain ⟨_, _, _, e⟩ := x; exact ⟨_, e⟩
  | frz ob u => obtain ⟨e, _⟩ := x; exact ⟨_, e⟩
  | tbl ps => exact ⟨_, (show h.get? a = some _ from x)⟩
  | met f y => exact ⟨_, (show h.get? a = some _ from x)⟩
  | ext φ => obtain ⟨_, ⟨_, e⟩, _⟩ := x; exact ⟨_, e⟩
/-- what is wanted behind a suite, ahead of the going of the name -/
def goes (d : Ends) (i : Nat) : Ends := { nx := fun σ H => d.nx (σ.set i none) H, rt := d.rt, bk := fun σ H => d.bk (σ.set i none) H, ct := fun σ H => d.ct (σ.set i none) H }
def tTryAs (K : PySem.W.Frag) (D : Addr) (i : Nat) (tb : (St → XK) → TS) (th : Addr → Obj → TS) : TS := fun d σ H => tb (fun σ' c _ H' => ∃ C, c = .ref C ∧ excCls K C D = true ∧ ∀ a oe vs, oe.cls = .ref C → oe.data = .fields vs → th a oe (goes d i) (σ'.set i (some (.ref a))) H') d σ H
theorem ps_tryAs {body suite : List Stmt} {b₀ : Stmt} {x n : Str} {D : Addr} {np hpos pos : Pos} {tb : (St → XK) → TS} {th : Addr → Obj → TS} (B : ownB X.N X.env.scope = true) (i : Nat) (hm : X.mg x = some (.ref D)) (hb : ∀ pn Ex, PSs (tryX X pn Ex) body (tb Ex)) (hh : ∀ a oe, PSs (hushE X a oe) (b₀ :: suite) (th a oe))
    (hi : X.N[i]? = some n := by rfl) (hst : X.stack = X.env :: X.outer := by rfl) (hfr : X.env.frame = some X.env.locals := by rfl) (hg : glB X.env.scope x = true := by kernel_rfl) (hk : (X.env.scope.names.lookup n == some .local) = true := by kernel_rfl) :
    PS X (.Try body [.ExceptHandler (some (.Name x np)) (some n) (b₀ :: suite) hpos] [] [] pos) (tTryAs X.K D i tb th) := by
  intro pins s σ H d I h
  refine wpAny_Try_except ?_
  refine wpAny_mono (hb pins _ [] s σ H d (inv_try (by rw [List.append_nil]; exact I)) h) (fun f s1 q => ?_) fun e s' q => ?_
  · have q := sp_try q
    cases f with
    | next => exact wpAny_execs_nil q
    | brk => exact q
    | cont => exact q
    | ret u => exact q
  · obtain ⟨pins', σ', H1, s1, I1, a, C, a0, Bh, H', rfl, os, bare, fl, un, sl, hok, C', hC', mt, ht⟩ := q
    cases hC'
    have hf : X.A.frames = some (X.env :: X.outer) := by rw [← hst]; exact I.ok.frames
    have nf := noF_of I1.stack
    rw [hst] at fl
    have at_ : ∀ {h' : Heap}, Heap.FlyingW Bh (X.env :: X.outer) a (.ref C) a0 h' → s'.heap.UpToSlots h' → Inv X pins σ' H' { s' with heap := h' } := fun {h'} f u => by
      have J : Inv X (pins ++ pins') σ' H' { s' with heap := h' } := I1.call' (ch := []) os (un.un f.1 (sl.up nf u)) (hok.kept f.1) bare (fun _ z => nomatch z)
      exact J.pins_of fun p hp => J.pin p (List.mem_append_right _ (List.mem_append_left _ hp))
    refine wpAny_looks_onW hf hfr fl fun h4 fl4 up4 => wpAny_landsW fl4 fun h5 fl5 up5 => ?_
    have I5 := at_ fl5 (up4.trans up5)
    obtain ⟨ob, hob, hobc⟩ := fl5.there
    refine wpAny_handleBy_cons (codeAny_handlers_test (ld_glob (X := hush X (.ref a)) (inv_hush I5) (gl_of hg).1 hm ?_ (gl_of hg).2.2)) (by intro q; cases q)
    refine exc_match I5.kIn hob hobc mt (codeAny_handlers_suite_as (lands_againW fl5 fun h6 fl6 up6 => ?_))
    have I6 := at_ fl6 ((up4.trans up5).trans up6)
    obtain ⟨oe, vs, hoe, hoec, hoed, _⟩ := fl6.first
    have nfr : a ∉ frs (X.env :: X.outer) := fun z => by
      obtain ⟨_, o', ho', hd'⟩ := fl6.2.2.1.mem z
      rw [hoe] at ho'
      cases ho'
      exact hd' _ hoed
    have nloc : a ≠ X.env.locals := fun z => nfr (List.mem_filterMap.mpr ⟨X.env, List.mem_cons_self, by rw [hfr, z]⟩)
    have nfs : a ∉ X.fs := fun z => nfr (by
      obtain ⟨env, he, hf'⟩ := List.mem_filterMap.mp z
      exact List.mem_filterMap.mpr ⟨env, List.mem_cons_of_mem _ he, hf'⟩)
    have na : H' a = none := by
      cases q : H' a with
      | none => rfl
      | some u =>
        obtain ⟨ob', e'⟩ := objOk_there (hok a u q)
        rw [fl6.2.1] at e'
        cases e'
    have hkl := beq_iff_eq.mp hk
    have IE := inv_hushE I6 hoe na nloc nfs (fun v z => by rw [hoed] at z; cases z)
    refine store_ok (X := hushE X a oe) (v := .ref a) (u := .ref a) IE (Own.of B).nd hi (.inl hkl) rfl (fun s7 I7 => ?_) (.inr hkl)
    refine wpAny_mono (hh a oe pins s7 _ H' (goes d i) I7 (ht a oe vs hoec hoed)) (fun f s8 q => ?_) fun _ _ z => z.elim
    cases f with
    | next => obtain ⟨σ8, H8, I8, q⟩ := q; exact gone_ok (of_hushE I.ok.hd I8) (Own.of B).nd hi hkl fun s9 I9 => ⟨_, _, I9, q⟩
    | brk => obtain ⟨σ8, H8, I8, q⟩ := q; exact gone_ok (of_hushE I.ok.hd I8) (Own.of B).nd hi hkl fun s9 I9 => ⟨_, _, I9, q⟩
    | cont => obtain ⟨σ8, H8, I8, q⟩ := q; exact gone_ok (of_hushE I.ok.hd I8) (Own.of B).nd hi hkl fun s9 I9 => ⟨_, _, I9, q⟩
    | ret u => obtain ⟨v, σ8, H8, I8, r, q⟩ := q; exact gone_ok (of_hushE I.ok.hd I8) (Own.of B).nd hi hkl fun s9 I9 => ⟨v, _, _, I9, r, q⟩
end
end L4

set_option Elab.async false
set_option linter.all false
set_option maxRecDepth 100000
set_option maxHeartbeats 4000000
namespace L4
open PySem PySem.Spec L2 L3
open PyProof.Rows hiding St
/-- what is asked of an exception's class for isinstance -/
structure ExcAt (K : PySem.W.Frag) (C : Addr) : Prop where
  cls : (PySem.W.clsIn K C).isSome = true
  ga : PySem.W.findIn K (.ref C) "__getattribute__" = some (some (.builtin "BaseException.__getattribute__"))
  noga : PySem.W.findIn K (.ref C) "__getattr__" = some none
  ca : PySem.W.findIn K (.ref C) "__class__" = some (some (.builtin "object.__class__"))
  sub : PySem.W.subIn K (.ref C) (.type "object") = some true
  base : PySem.W.subIn K (.ref C) (.type "BaseException") = some true
section
variable {prog : Program} {w : World} {A : Around} {E : Value → Shared → Prop} {h : Heap} {g : Array GenState} {d : Drawn} {t : Nat} {os : OsState} {a C : Addr} {o : Obj} {K : PySem.W.Frag}
theorem xclass_get {R : Result → Shared → Prop} (X : K.In h) (Z : ExcAt K C) (hx : h.get? a = some o) (hc : o.cls = .ref C) (hq : R (.ok (.ret (.ref C))) ⟨h, g, d, t, os⟩) :
    codeAny (model prog w) A (.call (.builtin "getset_descriptor.__get__") ⟨[.builtin "object.__class__", .ref a, .ref C], []⟩) R ⟨h, g, d, t, os⟩ := by
  have hT5 : (⟨h, g, d, t, os⟩ : Shared).TypeIs (.builtin "object.__class__") "getset_descriptor" := F.typeOf_object_class
  have L : PySem.W.Looks (model prog w) h (isSubtype (.ref C) (.type (".".intercalate ("object.__class__".cutAt '.').dropLast))) true := by rw [F.owner_object_class]; exact PySem.W.looks_subIn X Z.sub
  refine codeAny_call_builtin F.slot_gs_get.plain F.entry_gs_get (F.slot_gs_get.check _ _ _ _ _ _ _ _ hT5 (F.args_gs_get _ _ _) ?_)
  repeat (any_goals (first | assumption | (with_reducible refine wpAny_loadPart_at hx ?_; rw [hc]) | with_reducible refine L.at ?_ | wp_step))
  refine ⟨Code.quiet_builtin _ (by decide +kernel), codeAny_builtin F.entry_object_class ?_⟩
  repeat (any_goals (first | assumption | (with_reducible refine wpAny_loadPart_at hx ?_; rw [hc]) | wp_step))
theorem xclass_entry {tk : Tok} {Q : Fin → Shared → Prop} (X : K.In h) (Z : ExcAt K C) (hx : h.get? a = some o) (hc : o.cls = .ref C) (hq : Q (.done (.ret (.ref C))) ⟨h, g, d, t, os⟩) :
    wpAny (model prog w) A (Builtin.«object.__getattribute__» ⟨[.ref a, .str "__class__" tk], []⟩) Q E ⟨h, g, d, t, os⟩ := by
  have hT5 : (⟨h, g, d, t, os⟩ : Shared).TypeIs (.builtin "object.__class__") "getset_descriptor" := F.typeOf_object_class
  have L := PySem.W.looks_findIn (M := model prog w) X Z.ca
  have f5 := F.typeOf_object_class
  have f6 := F.slot_gs_get.lookup
  have f7 := F.slot_gs_set.lookup
  repeat (any_goals (first | assumption | (with_reducible refine wpAny_loadPart_at hx ?_; rw [hc]) | with_reducible refine L.at ?_ | wp_step))
  refine xclass_get X Z hx hc ?_
  repeat (any_goals (first | assumption | wp_step))
theorem xclass_check {M : Model} {nameV : Value} {Q : Unit → Shared → Prop} (X : K.In h) (Z : ExcAt K C) (hx : h.get? a = some o) (hc : o.cls = .ref C) (hq : Q () ⟨h, g, d, t, os⟩) :
    wpAny M A (checkBuiltinCall "BaseException.__getattribute__" ⟨[.ref a, nameV], []⟩) Q E ⟨h, g, d, t, os⟩ := by
  have L := PySem.W.looks_subIn (M := M) X Z.base
  have k1 : builtinKind "BaseException.__getattribute__" = some .slot := by decide +kernel
  have k2 : splitId "BaseException.__getattribute__" = some ("BaseException", "__getattribute__") := by decide +kernel
  have k3 := F.args_bexc_ga (.ref a) nameV
  simp only [checkBuiltinCall, k1, k2]
  refine wpAny_bind ?_
  unfold isInstance
  repeat (first | (with_reducible refine wpAny_loadPart_at hx ?_; rw [hc]) | with_reducible refine L.at ?_ | wp_step)
  exact hq
theorem xclass_call {tk : Tok} {R : Result → Shared → Prop} (X : K.In h) (Z : ExcAt K C) (hx : h.get? a = some o) (hc : o.cls = .ref C) (hq : R (.ok (.ret (.ref C))) ⟨h, g, d, t, os⟩) :
    codeAny (model prog w) A (.call (.builtin "BaseException.__getattribute__") ⟨[.ref a, .str "__class__" tk], []⟩) R ⟨h, g, d, t, os⟩ :=
  codeAny_call_builtin F.attr_ValueError.ga.plain F.entry_bexc_ga (xclass_check X Z hx hc (xclass_entry X Z hx hc hq))
theorem xclass_by {tk : Tok} {Q : Value → Shared → Prop} (X : K.In h) (Z : ExcAt K C) (hx : h.get? a = some o) (hc : o.cls = .ref C) (hq : Q (.ref C) ⟨h, g, d, t, os⟩) : wpAny (model prog w) A (getAttrBy (.ref a) (.str "__class__" tk) false) Q E ⟨h, g, d, t, os⟩ := by
  have L1 := PySem.W.looks_findIn (M := model prog w) X Z.ga
  have L2 := PySem.W.looks_findIn (M := model prog w) X Z.noga
  have f3 := F.attr_ValueError.ga.bind (.ref a)
  have hx2 : (Value.builtin "BaseException.__getattribute__" == Value.builtin "object.__getattribute__") = false := by decide +kernel
  have hx1 : (onTheHeap (Value.ref C) && Value.builtin "BaseException.__getattribute__" == Value.builtin "object.__getattribute__") = false := by rw [hx2]; rfl
  have hx0 : (false && onTheHeap (Value.builtin "BaseException.__getattribute__")) = false := rfl
  repeat (any_goals (first | assumption | (with_reducible refine wpAny_loadPart_at hx ?_; rw [hc]) | with_reducible refine L1.at ?_ | with_reducible refine L2.at ?_ | wp_step))
  refine xclass_call X Z hx hc ?_
  repeat (any_goals (first | assumption | wp_step))
theorem xclass_attr {Q : Option Value → Shared → Prop} (X : K.In h) (Z : ExcAt K C) (hx : h.get? a = some o) (hc : o.cls = .ref C) (hq : Q (some (.ref C)) ⟨h, g, d, t + 1, os⟩) : wpAny (model prog w) A (getAttr? (.ref a) "__class__") Q E ⟨h, g, d, t, os⟩ := by
  unfold getAttr? getAttrBy?
  repeat (any_goals (first | assumption | with_reducible apply xclass_by X Z hx hc | wp_step))
end
theorem kitx_exc {K : PySem.W.Frag} {a C : Addr} {o : Obj} (Z : ExcAt K C) (hc : o.cls = .ref C) : PySem.W.KitX K (.ref a) (.ref C) (fun h => h.get? a = some o) where
  ty := fun M h _ p => hc ▸ (PySem.W.Looks.ld p).andThen .now
  it := fun M h X _ => by
    obtain ⟨cd, hcd⟩ := Option.isSome_iff_exists.mp Z.cls
    unfold PySem.W.clsIn at hcd
    split at hcd
    · next ho =>
      intro A' Q' E' s' k q
      unfold isType loadHead
      exact wpAny_bind (wpAny_loadPart (k _ _ (X _ _ ho)) (wpAny_pure q))
    · cases hcd
  ne := fun h tp dd its n sl X htp => by
    obtain ⟨cd, hcd⟩ := Option.isSome_iff_exists.mp Z.cls
    refine Bool.eq_false_iff.mpr fun q => ?_
    have e : C = tp := Value.ref.inj (beq_iff_eq.mp q)
    subst e
    unfold PySem.W.clsIn at hcd
    split at hcd
    · next ho =>
      have := X _ _ ho
      rw [htp] at this
      cases this
    · cases hcd
  ca := fun {_ _ _ _ _ s} X p k => by
    obtain ⟨h, g, d, t, os⟩ := s
    exact xclass_attr X Z p hc k
theorem call_isiX {X : Cx} (a : Addr) (oe : Obj) : CallR (hushE X a oe) (.builtin "isinstance") (fun xs H Q => ∃ C D b, oe.cls = .ref C ∧ ExcAt X.K C ∧ xs = [.ref a, .ref D] ∧ PySem.W.kitOne X.K (.ref C) (.ref D) = some b ∧ Q (.bl b) H) := by
  intro pins s σ H xs us Q I r h
  obtain ⟨C, D, b, hc, Z, rfl, e, q⟩ := h
  obtain ⟨u, v, rfl, ru, rv⟩ := vals2 r
  cases (show u = Value.ref a from ru)
  cases (show v = Value.ref D from rv)
  have hp := (I.pin (a, oe) (List.mem_append_left _ (List.mem_append_right _ (List.mem_singleton.mpr rfl)))).1
  exact PySem.W.kia_one (kitx_exc Z hc) I.kIn hp e (fun z => nomatch z) fun tk => ⟨.bl b, H, I.tok tk, rfl, q⟩
/-- a class of the text by its name -/
theorem nC {X : Cx} {x : Str} {C : Addr} {pos : Pos} (hm : X.mg x = some (.ref C)) (hg : glB X.env.scope x = true := by kernel_rfl) : PE X (.Name x pos) (tC (.ref C)) := pe_glob (gl_of hg).1 hm rfl (gl_of hg).2.2
end L4

set_option Elab.async false
set_option linter.all false
set_option maxRecDepth 100000
set_option maxHeartbeats 4000000
namespace L5
open PySem PySem.Spec L2 L3
open PyProof.Rows hiding St
open PySem.SeqAt PySem.MeetsSeq
open PySem.AutoSeq1 (wpAny_loadPart')
/-! ### xs.remove(x), xs of data -/
section
variable {X : Cx}
/-! ### xs.insert(i, x) -/
end
end L5

set_option Elab.async false
set_option linter.all false
set_option maxRecDepth 100000
set_option maxHeartbeats 4000000
namespace L6
open PySem PySem.Spec L2 L3
open PyProof.Rows hiding St
section
variable {X : Cx} {e st : Expr} {te ts : TE} {pos p2 : Pos}
def repS (i : Str) (n : Nat) : Str := ⟨(List.replicate n i.cps).foldl (· ++ ·) #[]⟩
theorem call_intT : CallR X (.type "int") (fun xs H Q => ∃ (x : Str) (n : Int), xs = [.str x] ∧ PySem.intText? x = some n ∧ x.length ≤ 640 ∧ Q (.int n) H) := by
  intro pins s σ H xs us Q I r h
  obtain ⟨x, n, rfl, hn, hl, q⟩ := h
  obtain ⟨u, rfl, t, rfl⟩ := vals1 r
  exact PySem.W.KIN.call_text hn hl ⟨.int n, H, I.tok _, ⟨_, rfl⟩, q⟩
end
end L6

set_option Elab.async false
set_option linter.all false
set_option maxRecDepth 100000
set_option maxHeartbeats 4000000
namespace Tx
open PySem
/-! ### texts as lists of their codes -/
abbrev S (l : List Nat) : Str := ⟨l.toArray⟩
abbrev cd (x : Str) : List Nat := x.cps.toList
theorem S_cd (x : Str) : S (cd x) = x := by
  obtain ⟨a⟩ := x
  obtain ⟨l⟩ := a
  rfl
theorem S_len (l : List Nat) : (S l).length = l.length := by simp [Str.length]
theorem cd_app (a b : Str) : cd (a ++ b) = cd a ++ cd b := by
  show (a ++ b).cps.toList = a.cps.toList ++ b.cps.toList
  rw [Str.cps_append, Array.toList_append]
theorem S_app (a b : List Nat) : S a ++ S b = S (a ++ b) := by
  rw [← S_cd (S a ++ S b), cd_app]
theorem S_inj {a b : List Nat} (h : S a = S b) : a = b := by
  have := congrArg cd h
  exact this
/-! ### figures -/
def dg (n : Nat) : List Nat := if n < 10 then [48 + n] else dg (n / 10) ++ [48 + n % 10]
termination_by n
decreasing_by omega
theorem dg_lt {n : Nat} (h : n < 10) : dg n = [48 + n] := by rw [dg, if_pos h]
theorem dg_ge {n : Nat} (h : 10 ≤ n) : dg n = dg (n / 10) ++ [48 + n % 10] := by
  conv => lhs; rw [dg, if_neg (by omega)]
theorem digit_code : ∀ m : Nat, m < 10 → (Nat.digitChar m).toNat = 48 + m := by decide
theorem digits_dg (n : Nat) : (Nat.toDigits 10 n).map Char.toNat = dg n := by
  induction n using Nat.strongRecOn with
  | _ n ih =>
    by_cases h : n < 10
    · rw [Nat.toDigits_of_lt_base h, dg_lt h, List.map_cons, List.map_nil, digit_code n h]
    · rw [Nat.toDigits_of_base_le (by decide) (by omega), dg_ge (by omega), List.map_append, ih (n / 10) (by omega), List.map_cons, List.map_nil, digit_code _ (Nat.mod_lt _ (by decide))]
theorem str_dg (n : Nat) : Str.ofString (toString (n : Int)) = S (dg n) := by
  rw [Str.ofString_eq_toList]
  show (⟨(((Nat.repr n).toList).map Char.toNat).toArray⟩ : Str) = S (dg n)
  rw [Nat.toList_repr, digits_dg]
def val (l : List Nat) : Nat := l.foldl (fun a c => a * 10 + (c - 48)) 0
theorem val_snoc (l : List Nat) (c : Nat) : val (l ++ [c]) = val l * 10 + (c - 48) := by simp [val]
theorem val_dg (n : Nat) : val (dg n) = n := by
  induction n using Nat.strongRecOn with
  | _ n ih =>
    by_cases h : n < 10
    · rw [dg_lt h]; simp [val]
    · rw [dg_ge (by omega), val_snoc, ih (n / 10) (by omega)]; omega
def isD (c : Nat) : Bool := decide (48 ≤ c) && decide (c ≤ 57)
theorem isD_iff {c : Nat} : isD c = true ↔ 48 ≤ c ∧ c ≤ 57 := by simp [isD]
theorem dg_isD (n : Nat) : (dg n).all isD = true := by
  induction n using Nat.strongRecOn with
  | _ n ih =>
    by_cases h : n < 10
    · rw [dg_lt h]; simp [isD]; omega
    · rw [dg_ge (by omega), List.all_append, ih (n / 10) (by omega)]; simp [isD]; omega
theorem dg_ne (n : Nat) : dg n ≠ [] := by
  by_cases h : n < 10
  · rw [dg_lt h]; simp
  · rw [dg_ge (by omega)]; simp
theorem dg_head (n : Nat) (h0 : 0 < n) : (dg n).head? ≠ some 48 := by
  induction n using Nat.strongRecOn with
  | _ n ih =>
    by_cases h : n < 10
    · rw [dg_lt h]; simp; omega
    · have := ih (n / 10) (by omega) (by omega)
      rw [dg_ge (by omega), List.head?_append]
      cases e : dg (n / 10) with
      | nil => exact absurd e (dg_ne _)
      | cons c r => rw [e] at this; simpa using this
theorem dg_len {k : Nat} : ∀ {n : Nat}, n < 10 ^ (k + 1) → (dg n).length ≤ k + 1 := by
  induction k with
  | zero => intro n h; rw [dg_lt (by omega)]; simp
  | succ k ih =>
    intro n h
    by_cases h' : n < 10
    · rw [dg_lt h']; simp
    · have : (dg (n / 10)).length ≤ k + 1 := ih (by rw [Nat.pow_succ] at h; omega)
      rw [dg_ge (by omega)]; simp; omega
theorem dg_free {c : Nat} (h : isD c = false) (n : Nat) : c ∉ dg n := fun m => by
  have := List.all_eq_true.mp (dg_isD n) c m
  rw [h] at this; cases this
def isNum (l : List Nat) : Bool := !(l == []) && l.all isD && (l == [48] || l.head? != some 48)
theorem isNum_dg (n : Nat) : isNum (dg n) = true := by
  unfold isNum
  rw [dg_isD]
  cases n with
  | zero => rw [dg_lt (by decide)]; decide
  | succ m =>
    have h1 := dg_ne (m + 1)
    have h2 := dg_head (m + 1) (by omega)
    simp [h1, h2]
def num (l : List Nat) : Option Nat := if isNum l = true then some (val l) else none
theorem num_dg (n : Nat) : num (dg n) = some n := by unfold num; rw [if_pos (isNum_dg n), val_dg]
/-! ### cut at a sign, put together with one -/
def splitL (c : Nat) : List Nat → List (List Nat)
  | [] => [[]]
  | x :: r => if x = c then [] :: splitL c r else match splitL c r with
    | [] => [[x]]
    | p :: ps => (x :: p) :: ps
def joinL (c : Nat) : List (List Nat) → List Nat
  | [] => []
  | [p] => p
  | p :: q :: r => p ++ c :: joinL c (q :: r)
theorem splitL_free {c : Nat} : ∀ {l : List Nat}, c ∉ l → splitL c l = [l]
  | [], _ => rfl
  | x :: r, h => by
    have h1 : x ≠ c := fun e => h (by rw [e]; exact List.mem_cons_self)
    have h2 := splitL_free (c := c) (l := r) fun m => h (List.mem_cons_of_mem _ m)
    simp only [splitL, if_neg h1, h2]
theorem splitL_app {c : Nat} {r : List Nat} : ∀ {l : List Nat}, c ∉ l → splitL c (l ++ c :: r) = l :: splitL c r
  | [], _ => by simp [splitL]
  | x :: l, h => by
    have h1 : x ≠ c := fun e => h (by rw [e]; exact List.mem_cons_self)
    have h2 := splitL_app (c := c) (r := r) (l := l) fun m => h (List.mem_cons_of_mem _ m)
    simp only [List.cons_append, splitL, if_neg h1, h2]
theorem splitL_join {c : Nat} : ∀ {ps : List (List Nat)}, ps ≠ [] → (∀ p ∈ ps, c ∉ p) → splitL c (joinL c ps) = ps
  | [], h, _ => absurd rfl h
  | [p], _, h => splitL_free (h p List.mem_cons_self)
  | p :: q :: r, _, h => by
    rw [joinL, splitL_app (h p List.mem_cons_self), splitL_join (by simp) fun x m => h x (List.mem_cons_of_mem _ m)]
theorem cd_join (c : Nat) : ∀ ts : List Str, cd (Str.join (S [c]) ts) = joinL c (ts.map cd)
  | [] => rfl
  | [x] => rfl
  | x :: y :: r => by
    have ih := cd_join c (y :: r)
    show cd (x ++ S [c] ++ Str.join (S [c]) (y :: r)) = _
    rw [cd_app, cd_app, ih]
    show (cd x ++ [c]) ++ _ = cd x ++ c :: _
    rw [List.append_assoc]
    rfl
theorem glued_S (c : Nat) (ls : List (List Nat)) : Txt.join (S [c]) (ls.map S) = S (joinL c ls) := by
  show Builtin.Str.glued (S [c]) (ls.map S) = _
  rw [StrLaws.glued_eq_join, ← S_cd (Str.join _ _), cd_join, List.map_map]
  have : (cd ∘ S) = id := rfl
  rw [this, List.map_id]
theorem split_eq (x : Str) (c : Nat) : Txt.split x ⟨#[c]⟩ = (splitL c (cd x)).map S := by
  have h1 := StrLaws.join_split x ⟨#[c]⟩
  have h2 := StrLaws.split_free x c
  have h3 := PyProof.Rows.split_pos x ⟨#[c]⟩
  generalize Txt.split x ⟨#[c]⟩ = ps at h1 h2 h3
  have e : splitL c (cd x) = ps.map cd := by
    rw [← h1, cd_join c ps]
    refine splitL_join (fun z => ?_) fun p hp => ?_
    · rw [List.map_eq_nil_iff] at z; rw [z] at h3; simp at h3
    · obtain ⟨y, hy, rfl⟩ := List.mem_map.mp hp
      exact h2 y hy
  rw [e, List.map_map]
  have : (S ∘ cd) = id := funext S_cd
  rw [this, List.map_id]
theorem splitL_len {c : Nat} : ∀ l : List Nat, (splitL c l).length ≤ l.length + 1
  | [] => by simp [splitL]
  | x :: r => by
    have := splitL_len (c := c) r
    unfold splitL
    split
    · simp; omega
    · split
      · simp
      · rename_i h; rw [h] at this; simp at this ⊢; omega
theorem splitL_part {c : Nat} : ∀ {l p : List Nat}, p ∈ splitL c l → p.length ≤ l.length
  | [], p, h => by simp [splitL] at h; simp [h]
  | x :: r, p, h => by
    unfold splitL at h
    split at h
    · rcases List.mem_cons.mp h with rfl | h
      · simp
      · have := splitL_part h; simp; omega
    · split at h
      · simp at h; subst h; simp
      · rename_i q qs e
        rcases List.mem_cons.mp h with rfl | h
        · have : q ∈ splitL c r := by rw [e]; exact List.mem_cons_self
          have := splitL_part this; simp; omega
        · have : p ∈ splitL c r := by rw [e]; exact List.mem_cons_of_mem _ h
          have := splitL_part this; simp; omega
/-! ### the ten figures -/
abbrev FIG : Str := "0123456789"
theorem fig_cd : cd FIG = [48, 49, 50, 51, 52, 53, 54, 55, 56, 57] := by decide +kernel
theorem fig_in (c : Nat) : (!(Builtin.Str.occurrences FIG ⟨#[c]⟩ 0 FIG.length 1).isEmpty) = isD c := by
  rw [StrLaws.found_one, Bool.eq_iff_iff, decide_eq_true_eq, isD_iff]
  show c ∈ cd FIG ↔ _
  rw [fig_cd]
  simp
  omega
theorem fig_at : ∀ k : Nat, k < 10 → Builtin.Str.occurrences FIG ⟨#[48 + k]⟩ 0 FIG.length 1 = [k] := by decide +kernel
theorem fig_ix {c : Nat} (h : isD c = true) : Builtin.Str.occurrences FIG ⟨#[c]⟩ 0 FIG.length 1 = [c - 48] := by
  have := isD_iff.mp h
  have := fig_at (c - 48) (by omega)
  rwa [show 48 + (c - 48) = c by omega] at this
theorem fig_get : ∀ k : Nat, k < 10 → (cd FIG)[k]? = some (48 + k) := by decide +kernel
end Tx

set_option Elab.async false
set_option linter.all false
set_option maxRecDepth 100000
set_option maxHeartbeats 4000000
namespace Of
open PySem L2 L3
def top (i : Nat) : Stmt := PySem.Challenge.pw_postbooks_k11_letters_on_lines.main.body.getD i (.Pass ⟨0, 0, 0, 0⟩)
abbrev sShown : Stmt := top 7
abbrev sWordsOf : Stmt := top 8
abbrev sFiguresOf : Stmt := top 9
abbrev sRead : Stmt := top 10
abbrev sWhatIn : Stmt := top 11
abbrev sNumberIn : Stmt := top 12
abbrev sIsNumber : Stmt := top 13
abbrev sIsStamped : Stmt := top 14
abbrev sIsForOthers : Stmt := top 15
abbrev sWhole : Stmt := top 17
abbrev sIsWhat : Stmt := top 18
abbrev sAreLetters : Stmt := top 19
abbrev sDrawnLetterL : Stmt := top 20
abbrev sWrittenL : Stmt := top 21
abbrev sBadL : Stmt := top 22
abbrev sLaw : Stmt := top 23
end Of

section
set_option Elab.async false
set_option linter.all false
set_option maxRecDepth 100000
set_option maxHeartbeats 4000000
seal L2.PE L2.PT L2.PW L2.PA L2.PS L2.PSs L2.PG L2.PGs L2.PI L3.PTs L2.PO L2.CallR L2.OpR L2.IxR L2.MtR L2.PSet L2.SlR
namespace Of
open PySem L2 L3 L4
/-- the names that the top leaves to Python -/
structure Bts (mg : Str → Option Value) : Prop where
  len : mg "len" = none
  range : mg "range" = none
  isinstance : mg "isinstance" = none
  int : mg "int" = none
  bool : mg "bool" = none
  tuple : mg "tuple" = none
  list : mg "list" = none
  str : mg "str" = none
  dict : mg "dict" = none
theorem boot_st : bootBuiltins "str" = some (.type "str") := by decide +kernel
def spWhole (K : PySem.W.Frag) : Sp := fun vs H Q _ => ∃ i : Int, vs = [.int i] ∧ Q (.bl true) H
def okWhat (s n : Int) : What → Prop
  | .pay t m => 0 ≤ m ∧ 0 ≤ t ∧ t < n ∧ t ≠ s
  | .cut => True
def spIsWhat (K : PySem.W.Frag) : Sp := fun vs H Q _ => ∃ (c : Addr) (wh : What) (s n : Int), vs = [.ref c, .int s, .int n] ∧ WhatAt K H c wh ∧ okWhat s n wh ∧ Q (.bl true) H
def okLet (n : Nat) (l : Let) : Prop := l.s < n ∧ l.st.length = n ∧ (∀ x ∈ l.st, 0 ≤ x) ∧ okWhat l.s n l.w
def spAreLetters (K : PySem.W.Frag) : Sp := fun vs H Q _ => ∃ (a : Addr) (xs : List V) (ls : List Let) (n : Nat), vs = [.ref a, .int n] ∧ SqL K H a xs ∧ RepDs K H (ls.map letD) xs ∧ (∀ l ∈ ls, okLet n l) ∧ Q (.bl true) H
theorem ki_str {K : PySem.W.Frag} : PySem.W.kitOne K (.type "str") (.type "str") = some true := by kernel_rfl
theorem cmul {i j : Int} (h1 : -(2 ^ 64) < j) (h2 : j < 2 ^ 64) : CMul i j := .inr ⟨h1, h2⟩
section
variable {P : Program} {w : World} {K : PySem.W.Frag} {mg : Str → Option Value} {base : Heap} {fW fA fI : Addr}
theorem oLW : ownB ["_law_found"] (defScope sWhole) = true := by decide +kernel
theorem scLW : FnScope ["_law_found"] ["_law_found"] (defScope sWhole) := ⟨rfl, rfl, rfl, by decide +kernel, rfl, by decide +kernel, by decide +kernel⟩
theorem ok_whole {f : Addr} {fd : FuncData} (F : Fun K "_law_whole" "_law_whole" sWhole f fd) (T : Bts mg) : FnOk P w K mg base CX0 1 f fd ["_law_found"] (spWhole K) := by
  refine okB (body := [stm sWhole 0]) F scLW (fun vs H Q E h => ?_) (by kernel_rfl) (fun cdv A outer s H vs Q E hr h => ?_)
  · obtain ⟨i, rfl, _⟩ := h
    rfl
  · obtain ⟨i, rfl, q⟩ := h
    refine ⟨_, (pss_one (ps_ret (pe_and (cB call_isi T.isinstance boot_isi (aC (oV oLW 0) (aC (nT T.int boot_it) pa_nil))) (pe_one (pe_not (cB call_isi T.isinstance boot_isi (aC (oV oLW 0) (aC (nT T.bool boot_bl) pa_nil)))))))), ?_⟩
    refine ⟨_, rfl, _, _, _, _, rfl, TyOf.int _, kit_int, _, rfl, ?_⟩
    refine ⟨_, rfl, _, _, _, _, rfl, TyOf.int _, kit_int_bool, _, rfl, q⟩
theorem oIw : ownB ["_law_what", "_law_sender", "_law_count"] (defScope sIsWhat) = true := by decide +kernel
theorem scIw : FnScope ["_law_what", "_law_sender", "_law_count"] ["_law_what", "_law_sender", "_law_count"] (defScope sIsWhat) := ⟨rfl, rfl, rfl, by decide +kernel, rfl, by decide +kernel, by decide +kernel⟩
theorem ok_iswhat {f : Addr} {fd fdW : FuncData} (F : Fun K "_law_is_what" "_law_is_what" sIsWhat f fd) (T : Bts mg) (mW : mg "_law_whole" = some (.ref fW)) (FW : Fun K "_law_whole" "_law_whole" sWhole fW fdW) (bW : Binds K fdW ["_law_found"] []) : FnOk P w K mg base CX0 2 f fd ["_law_what", "_law_sender", "_law_count"] (spIsWhat K) := by
  have GW : FnOk P w K mg base CX0 1 fW fdW ["_law_found"] (spWhole K) := ok_whole FW T
  refine okB (body := [stm sIsWhat 0, stm sIsWhat 1, stm sIsWhat 2, stm sIsWhat 3, stm sIsWhat 4]) F scIw (fun vs H Q E h => ?_) (by kernel_rfl) (fun cdv A outer s H vs Q E hr h => ?_)
  · obtain ⟨c, wh, s, n, rfl, _⟩ := h
    rfl
  · obtain ⟨c, wh, s, n, rfl, W, ok, q⟩ := h
    have hrW := hr
    refine ⟨_, (pss_cons (ps_if (PW.pt (pw_or (pt_not (pt_val (cB call_isiT T.isinstance boot_isi (aC (oV oIw 0) (aC (nT T.tuple boot_tup) pa_nil))))) (pw_or (pt_cmpR op_eq (cB (call_len_seq (X := _)) T.len PySem.boot_len (aC (oV oIw 0) pa_nil)) pe_int (nomark _)) (pw_or1 (pt_not (pt_val (cB call_isi T.isinstance boot_isi (aC (iX (ixT K) (oV oIw 0) pe_int) (aC (nT T.str boot_st) pa_nil)))))))))
        (pss_one (ps_ret pe_bl))
        pss_nil)
      (pss_cons (ps_if (pt_cmpR op_eq (iX (ixT K) (oV oIw 0) pe_int) pe_str (nomark _))
        (pss_one (ps_ret (pe_cmpR op_eq (cB (call_len_seq (X := _)) T.len PySem.boot_len (aC (oV oIw 0) pa_nil)) pe_int (nomark _))))
        pss_nil)
      (pss_cons (ps_if (PW.pt (pw_or (pt_cmpR op_ne (iX (ixT K) (oV oIw 0) pe_int) pe_str (nomark _)) (pw_or1 (pt_cmpR op_ne (cB (call_len_seq (X := _)) T.len PySem.boot_len (aC (oV oIw 0) pa_nil)) pe_int (nomark _)))))
        (pss_one (ps_ret pe_bl))
        pss_nil)
      (pss_cons (ps_if (PW.pt (pw_or (pt_not (pt_val (cF GW hrW mW FW.kp bW .nil pass0 (aC (iX (ixT K) (oV oIw 0) pe_int) pa_nil)))) (pw_or (pt_not (pt_val (cF GW hrW mW FW.kp bW .nil pass0 (aC (iX (ixT K) (oV oIw 0) pe_int) pa_nil)))) (pw_or1 (pt_cmpR op_lt (iX (ixT K) (oV oIw 0) pe_int) pe_int (nomark _))))))
        (pss_one (ps_ret pe_bl))
        pss_nil)
      (pss_one (ps_ret (pe_and (pe_chain op_le op_lt pe_int (iX (ixT K) (oV oIw 0) pe_int) (oV oIw 2)) (pe_one (pe_cmpR op_ne (iX (ixT K) (oV oIw 0) pe_int) (oV oIw 1) (nomark _)))))))))), ?_⟩
    cases wh with
    | cut =>
      have W : SqT K H c [.str "cut"] := W
      refine ⟨_, rfl, c, _, _, _, rfl, W, kit_tuple, _, rfl, iteF ?_⟩
      refine ⟨_, rfl, c, _, rfl, .inr W, rfl, _, rfl, iteF ?_⟩
      refine ⟨_, rfl, c, _, 0, _, rfl, rfl, W, rfl, _, _, _, _, rfl, TyOf.str _, ki_str, _, rfl, iteF ?_⟩
      refine ⟨_, rfl, c, _, 0, _, rfl, rfl, W, rfl, rfl, _, rfl, iteT ?_⟩
      exact ⟨_, rfl, c, _, rfl, .inr W, rfl, q⟩
    | pay t m =>
      have W : SqT K H c [.str "pay", .int t, .int m] := W
      obtain ⟨o1, o2, o3, o4⟩ := ok
      refine ⟨_, rfl, c, _, _, _, rfl, W, kit_tuple, _, rfl, iteF ?_⟩
      refine ⟨_, rfl, c, _, rfl, .inr W, rfl, _, rfl, iteF ?_⟩
      refine ⟨_, rfl, c, _, 0, _, rfl, rfl, W, rfl, _, _, _, _, rfl, TyOf.str _, ki_str, _, rfl, iteF ?_⟩
      refine ⟨_, rfl, c, _, 0, _, rfl, rfl, W, rfl, rfl, _, rfl, ?_⟩
      rw [show decide (V.str "pay" = V.str "cut") = false by decide +kernel]
      refine iteF ⟨_, rfl, c, _, 0, _, rfl, rfl, W, rfl, rfl, _, rfl, ?_⟩
      rw [show (!decide (V.str "pay" = V.str "pay")) = false by decide +kernel]
      refine iteF ⟨_, rfl, c, _, rfl, .inr W, rfl, _, rfl, iteF ?_⟩
      refine ⟨_, rfl, c, _, 1, _, rfl, rfl, W, rfl, _, rfl, _, rfl, iteF ?_⟩
      refine ⟨_, rfl, c, _, 2, _, rfl, rfl, W, rfl, _, rfl, _, rfl, iteF ?_⟩
      refine ⟨_, rfl, c, _, 2, _, rfl, rfl, W, rfl, _, _, rfl, rfl, _, rfl, ?_⟩
      rw [decide_eq_false (by omega : ¬ m < 0)]
      refine iteF ⟨_, rfl, c, _, 1, _, rfl, rfl, W, rfl, _, _, rfl, rfl, _, rfl, ?_⟩
      rw [decide_eq_true o2]
      refine iteT ⟨_, rfl, _, _, rfl, rfl, _, rfl, ?_⟩
      rw [decide_eq_true o3]
      refine iteT ⟨_, rfl, c, _, 1, _, rfl, rfl, W, rfl, _, rfl, rfl, ?_⟩
      rw [show (!decide (V.int t = V.int s)) = true by rw [decide_eq_false (fun z => o4 (V.int.inj z))]; rfl]
      exact q
theorem oAl : ownB ["_law_found", "_law_count", "_law_letter", "_law_number"] (defScope sAreLetters) = true := by decide +kernel
theorem scAl : FnScope ["_law_found", "_law_count", "_law_letter", "_law_number"] ["_law_found", "_law_count"] (defScope sAreLetters) := ⟨rfl, rfl, rfl, by decide +kernel, rfl, by decide +kernel, by decide +kernel⟩
theorem ok_areletters {f : Addr} {fd fdW fdI : FuncData} (F : Fun K "_law_are_letters" "_law_are_letters" sAreLetters f fd) (T : Bts mg) (mW : mg "_law_whole" = some (.ref fW)) (FW : Fun K "_law_whole" "_law_whole" sWhole fW fdW) (bW : Binds K fdW ["_law_found"] [])
    (mI : mg "_law_is_what" = some (.ref fI)) (FI : Fun K "_law_is_what" "_law_is_what" sIsWhat fI fdI) (bI : Binds K fdI ["_law_what", "_law_sender", "_law_count"] []) : FnOk P w K mg base CX0 3 f fd ["_law_found", "_law_count"] (spAreLetters K) := by
  have GW : FnOk P w K mg base CX0 1 fW fdW ["_law_found"] (spWhole K) := ok_whole FW T
  have GI : FnOk P w K mg base CX0 2 fI fdI ["_law_what", "_law_sender", "_law_count"] (spIsWhat K) := ok_iswhat FI T mW FW bW
  refine okB (body := [stm sAreLetters 0, stm sAreLetters 1, stm sAreLetters 2]) F scAl (fun vs H Q E h => ?_) (by kernel_rfl) (fun cdv A outer s H vs Q E hr h => ?_)
  · obtain ⟨a, xs, ls, n, rfl, _⟩ := h
    rfl
  · obtain ⟨a, xs, ls, n, rfl, ha, hx, ok, q⟩ := h
    have hrW := hr.mono (by decide : 1 ≤ 2)
    have hlen : xs.length = ls.length := by rw [reps_len hx, List.length_map]
    refine ⟨_, (pss_cons (ps_if (pt_not (pt_val (cB call_isiL T.isinstance boot_isi (aC (oV oAl 0) (aC (nT T.list boot_lst) pa_nil)))))
        (pss_one (ps_ret pe_bl))
        pss_nil)
      (pss_cons (ps_for PassesOwn.never rfl (pi_list (oV oAl 0)) (oT oAl 2)
        (pss_cons (ps_if (PW.pt (pw_or (pt_not (pt_val (cB call_isiT T.isinstance boot_isi (aC (oV oAl 2) (aC (nT T.tuple boot_tup) pa_nil))))) (pw_or (pt_cmpR op_ne (cB (call_len_seq (X := _)) T.len PySem.boot_len (aC (oV oAl 2) pa_nil)) pe_int (nomark _)) (pw_or1 (pt_not (pt_val (cF GW hrW mW FW.kp bW .nil pass0 (aC (iX (ixT K) (oV oAl 2) pe_int) pa_nil))))))))
          (pss_one (ps_ret pe_bl))
          pss_nil)
        (pss_cons (ps_if (PW.pt (pw_or (pt_cmpR op_lt (iX (ixT K) (oV oAl 2) pe_int) pe_int (nomark _)) (pw_or (pt_cmpR op_ge (iX (ixT K) (oV oAl 2) pe_int) (oV oAl 1) (nomark _)) (pw_or1 (pt_not (pt_val (cB call_isiT T.isinstance boot_isi (aC (iX (ixT K) (oV oAl 2) pe_int) (aC (nT T.tuple boot_tup) pa_nil)))))))))
          (pss_one (ps_ret pe_bl))
          pss_nil)
        (pss_cons (ps_if (PW.pt (pw_or (pt_cmpR op_ne (cB (call_len_seq (X := _)) T.len PySem.boot_len (aC (iX (ixT K) (oV oAl 2) pe_int) pa_nil)) (oV oAl 1) (nomark _)) (pw_or1 (pt_not (pt_val (cF GI hr mI FI.kp bI .nil pass0 (aC (iX (ixT K) (oV oAl 2) pe_int) (aC (iX (ixT K) (oV oAl 2) pe_int) (aC (oV oAl 1) pa_nil)))))))))
          (pss_one (ps_ret pe_bl))
          pss_nil)
        (pss_one (ps_for PassesOwn.never rfl (pi_tup (iX (ixT K) (oV oAl 2) pe_int)) (oT oAl 3)
          (pss_one (ps_if (PW.pt (pw_or (pt_not (pt_val (cF GW hrW mW FW.kp bW .nil pass0 (aC (oV oAl 3) pa_nil)))) (pw_or1 (pt_cmpR op_lt (oV oAl 3) pe_int (nomark _)))))
            (pss_one (ps_ret pe_bl))
            pss_nil))))))))
      (pss_one (ps_ret pe_bl)))), ?_⟩
    refine ⟨_, rfl, a, _, _, _, rfl, ha, kit_list, _, rfl, iteF ?_⟩
    refine ⟨_, rfl, a, rfl, ⟨_, ha⟩, for_list (K := K) (a := a) (xs := xs) (fun i σ Hc => ∃ u v, Hc = H ∧ σ = [some (.ref a), some (.int n), u, v]) ⟨none, none, rfl, rfl⟩ (fun i σ Hc _ ⟨u, v, e, _⟩ => by rw [e]; exact ha) ?_ ?_⟩
    · rintro i y σ Hc hi ⟨u, v, e, rfl⟩
      cases e
      have hi' : i < ls.length := by have := (List.getElem?_eq_some_iff.mp hi).1; omega
      obtain ⟨x', hx', rx⟩ := reps_get hx (i := i) (d := letD ls[i]) (by rw [List.getElem?_map, List.getElem?_eq_getElem hi']; rfl)
      rw [hi] at hx'
      cases hx'
      obtain ⟨o1, o2, o3, o4⟩ := ok ls[i] (List.getElem_mem hi')
      generalize hl : ls[i] = l at o1 o2 o3 o4 rx
      obtain ⟨d, rfl, b, c, L1, L2, L3⟩ := letAt_iff.mp rx
      refine ⟨_, rfl, d, _, _, _, rfl, L1, kit_tuple, _, rfl, iteF ?_⟩
      refine ⟨_, rfl, d, _, rfl, .inr L1, rfl, _, rfl, iteF ?_⟩
      refine ⟨_, rfl, d, _, 0, _, rfl, rfl, L1, rfl, _, rfl, _, rfl, iteF ?_⟩
      refine ⟨_, rfl, d, _, 0, _, rfl, rfl, L1, rfl, _, _, rfl, rfl, _, rfl, ?_⟩
      rw [decide_eq_false (by omega : ¬ (l.s : Int) < 0)]
      refine iteF ⟨_, rfl, d, _, 0, _, rfl, rfl, L1, rfl, _, rfl, _, _, rfl, rfl, _, rfl, ?_⟩
      rw [decide_eq_false (by omega : ¬ (n : Int) ≤ (l.s : Int))]
      refine iteF ⟨_, rfl, d, _, 1, _, rfl, rfl, L1, rfl, b, _, _, _, rfl, L2, kit_tuple, _, rfl, iteF ?_⟩
      refine ⟨_, rfl, d, _, 1, _, rfl, rfl, L1, rfl, b, _, rfl, .inr L2, _, rfl, rfl, _, rfl, ?_⟩
      rw [show (!decide (V.int ((nums l.st).length : Int) = V.int (n : Int))) = false by rw [List.length_map, o2]; simp]
      refine iteF ⟨_, rfl, d, _, 2, _, rfl, rfl, L1, rfl, _, rfl, d, _, 0, _, rfl, rfl, L1, rfl, _, rfl, c, l.w, l.s, n, rfl, L3, o4, _, rfl, iteF ?_⟩
      refine ⟨_, rfl, d, _, 1, _, rfl, rfl, L1, rfl, b, rfl, ⟨_, L2⟩, for_tup (K := K) (a := b) (xs := nums l.st) (fun j σ Hc => ∃ v, Hc = H ∧ σ = [some (.ref a), some (.int n), some (.ref d), v]) ⟨v, rfl, rfl⟩ (fun j σ Hc _ ⟨v, e, _⟩ => by rw [e]; exact L2) ?_ ?_⟩
      · rintro j y σ Hc hj ⟨v, rfl, rfl⟩
        have hj' : j < l.st.length := by have := (List.getElem?_eq_some_iff.mp hj).1; rwa [List.length_map] at this
        rw [get_nums hj'] at hj
        cases hj
        have o5 : 0 ≤ l.st.getD j 0 := by
          rw [List.getD_eq_getElem?_getD, List.getElem?_eq_getElem hj']
          exact o3 _ (List.getElem_mem hj')
        refine ⟨_, rfl, _, rfl, _, rfl, iteF ?_⟩
        refine ⟨_, rfl, _, _, rfl, rfl, _, rfl, ?_⟩
        rw [decide_eq_false (by omega : ¬ l.st.getD j 0 < 0)]
        exact iteF ⟨_, rfl, rfl⟩
      · rintro σ Hc ⟨v, rfl, rfl⟩
        exact ⟨_, _, rfl, rfl⟩
    · rintro σ Hc ⟨u, v, rfl, rfl⟩
      exact q
end
end Of

end

set_option Elab.async false
set_option linter.all false
set_option maxRecDepth 100000
set_option maxHeartbeats 4000000
namespace Of
open PySem L2 L3 Tx
/-! ### lines -/
def cutC : List Nat := [99, 117, 116]
def payC : List Nat := [112, 97, 121]
def whatL : What → List (List Nat)
  | .cut => [cutC]
  | .pay t m => [payC, dg t.toNat, dg m.toNat]
def stampL (st : List Int) : List Nat := joinL 46 (st.map fun x => dg x.toNat)
def wordsL (l : Let) : List (List Nat) := dg l.s :: stampL l.st :: whatL l.w
def lineL (l : Let) : List Nat := joinL 32 (wordsL l)
def nums? : List (List Nat) → Option (List Nat)
  | [] => some []
  | p :: ps => match num p with
    | none => none
    | some n => match nums? ps with
      | none => none
      | some ns => some (n :: ns)
def what? (ws : List (List Nat)) : Option What := if ws = [cutC] then some .cut else match ws with
  | [a, b, c] => if a = payC then (match num b with
    | none => none
    | some t => match num c with
      | none => none
      | some m => some (.pay t m)) else none
  | _ => none
def stampedB (s : Nat) (st : List Int) : Bool := decide (2 ≤ st.length) && (decide (s < st.length) && decide (1 ≤ st.getD s 0))
def othersB (s n : Int) : What → Bool
  | .cut => true
  | .pay t _ => !decide (t = s) && decide (t < n)
def read4 (s : Nat) (ns : List Nat) (w : What) : Option Let := if stampedB s (ns.map Int.ofNat) = true then (if othersB s ns.length w = true then some ⟨s, ns.map Int.ofNat, w⟩ else none) else none
def read3 (s : Nat) (ns : List Nat) (ws : List (List Nat)) : Option Let := match what? ws with
  | none => none
  | some w => read4 s ns w
def read2 (s : Nat) (b : List Nat) (ws : List (List Nat)) : Option Let := match nums? (splitL 46 b) with
  | none => none
  | some ns => read3 s ns ws
def read1 (a b : List Nat) (ws : List (List Nat)) : Option Let := match num a with
  | none => none
  | some s => read2 s b ws
def readW : List (List Nat) → Option Let
  | a :: b :: c :: r => read1 a b (c :: r)
  | _ => none
def readL (l : List Nat) : Option Let := readW (splitL 32 l)
/-- a letter that a line can tell -/
structure GoodL (l : Let) : Prop where
  two : 2 ≤ l.st.length
  most : l.st.length ≤ 12
  s : l.s < l.st.length
  one : 1 ≤ l.st.getD l.s 0
  st : ∀ x ∈ l.st, 0 ≤ x ∧ x < 10 ^ 90
  w : okWhat l.s l.st.length l.w
  big : ∀ t m, l.w = .pay t m → t < 10 ^ 90 ∧ m < 10 ^ 90
theorem mem_joinL {c d : Nat} : ∀ {ps : List (List Nat)}, c ∈ joinL d ps → c = d ∨ ∃ p ∈ ps, c ∈ p
  | [], h => by simp [joinL] at h
  | [p], h => .inr ⟨p, List.mem_cons_self, h⟩
  | p :: q :: r, h => by
    rw [joinL] at h
    rcases List.mem_append.mp h with h | h
    · exact .inr ⟨p, List.mem_cons_self, h⟩
    · rcases List.mem_cons.mp h with h | h
      · exact .inl h
      · rcases mem_joinL h with h | ⟨x, hx, h⟩
        · exact .inl h
        · exact .inr ⟨x, List.mem_cons_of_mem _ hx, h⟩
theorem joinL_len {c B : Nat} : ∀ {ps : List (List Nat)}, (∀ p ∈ ps, p.length ≤ B) → (joinL c ps).length ≤ ps.length * (B + 1)
  | [], _ => by simp [joinL]
  | [p], h => by
    have := h p List.mem_cons_self
    simp [joinL]; omega
  | p :: q :: r, h => by
    have h1 := h p List.mem_cons_self
    have h2 := joinL_len (c := c) (B := B) (ps := q :: r) fun x hx => h x (List.mem_cons_of_mem _ hx)
    rw [joinL, List.length_append, List.length_cons, List.length_cons (as := q :: r), Nat.succ_mul]
    omega
theorem stamp_free (st : List Int) : 32 ∉ stampL st := fun h => by
  rcases mem_joinL h with h | ⟨p, hp, h⟩
  · cases h
  · obtain ⟨x, _, rfl⟩ := List.mem_map.mp hp
    exact dg_free (by decide) _ h
theorem what_free : ∀ {w : What}, ∀ p ∈ whatL w, 32 ∉ p
  | .cut, p, h => by simp [whatL] at h; subst h; decide
  | .pay t m, p, h => by
    simp only [whatL, List.mem_cons, List.not_mem_nil, or_false] at h
    rcases h with rfl | rfl | rfl
    · decide
    · exact dg_free (by decide) _
    · exact dg_free (by decide) _
theorem split_line (l : Let) : splitL 32 (lineL l) = wordsL l := by
  refine splitL_join (by simp [wordsL]) fun p hp => ?_
  unfold wordsL at hp
  rcases List.mem_cons.mp hp with rfl | hp
  · exact dg_free (by decide) _
  · rcases List.mem_cons.mp hp with rfl | hp
    · exact stamp_free _
    · exact what_free p hp
theorem split_stamp {st : List Int} (h : st ≠ []) : splitL 46 (stampL st) = st.map fun x => dg x.toNat := by
  refine splitL_join (by simpa using h) fun p hp => ?_
  obtain ⟨x, _, rfl⟩ := List.mem_map.mp hp
  exact dg_free (by decide) _
theorem nums_dg : ∀ st : List Int, nums? (st.map fun x => dg x.toNat) = some (st.map Int.toNat)
  | [] => rfl
  | x :: st => by simp only [List.map_cons, nums?, num_dg, nums_dg st]
theorem what_L {s n : Int} : ∀ {w : What}, okWhat s n w → what? (whatL w) = some w
  | .cut, _ => by simp [what?, whatL]
  | .pay t m, ⟨h1, h2, _, _⟩ => by
    have : (Int.toNat t : Int) = t := Int.toNat_of_nonneg h2
    have : (Int.toNat m : Int) = m := Int.toNat_of_nonneg h1
    simp [what?, whatL, num_dg, *]
theorem ints_back : ∀ {st : List Int}, (∀ x ∈ st, 0 ≤ x) → (st.map Int.toNat).map Int.ofNat = st
  | [], _ => rfl
  | x :: st, h => by
    rw [List.map_cons, List.map_cons, ints_back fun y hy => h y (List.mem_cons_of_mem _ hy)]
    congr 1
    exact Int.toNat_of_nonneg (h x List.mem_cons_self)
theorem read_line {l : Let} (G : GoodL l) : readL (lineL l) = some l := by
  have hb := ints_back fun x hx => (G.st x hx).1
  have hw : othersB l.s l.st.length l.w = true := by
    have := G.w
    cases e : l.w with
    | cut => rfl
    | pay t m =>
      rw [e] at this
      obtain ⟨_, _, h3, h4⟩ := this
      simp [othersB, h3, h4]
  have hne : whatL l.w ≠ [] := by cases l.w <;> simp [whatL]
  unfold readL
  rw [split_line]
  unfold wordsL
  cases e : whatL l.w with
  | nil => exact absurd e hne
  | cons c r =>
    show read1 (dg l.s) (stampL l.st) (c :: r) = some l
    unfold read1
    rw [num_dg]
    show read2 l.s (stampL l.st) (c :: r) = some l
    unfold read2
    rw [split_stamp (fun z => by have := G.two; rw [z] at this; simp at this), nums_dg]
    show read3 l.s (l.st.map Int.toNat) (c :: r) = some l
    unfold read3
    rw [← e, what_L G.w]
    show read4 l.s (l.st.map Int.toNat) l.w = some l
    unfold read4
    rw [hb, List.length_map, hw, if_pos rfl, if_pos]
    unfold stampedB
    rw [decide_eq_true G.two, decide_eq_true G.s, decide_eq_true G.one]
    rfl
theorem num_len {n : Nat} (h : n < 10 ^ 90) : (dg n).length ≤ 90 := dg_len (k := 89) h
theorem stamp_len {l : Let} (G : GoodL l) : (stampL l.st).length ≤ 1092 := by
  have h := joinL_len (c := 46) (B := 90) (ps := l.st.map fun x => dg x.toNat) fun p hp => by
    obtain ⟨x, hx, rfl⟩ := List.mem_map.mp hp
    have := G.st x hx
    exact num_len (by omega)
  rw [List.length_map] at h
  have := G.most
  show (joinL 46 _).length ≤ 1092
  omega
theorem words_len {l : Let} (G : GoodL l) : ∀ p ∈ wordsL l, p.length ≤ 1092 := fun p hp => by
  unfold wordsL at hp
  rcases List.mem_cons.mp hp with rfl | hp
  · have := G.s
    have := G.most
    have : (dg l.s).length ≤ 90 := num_len (by omega)
    omega
  · rcases List.mem_cons.mp hp with rfl | hp
    · exact stamp_len G
    · cases e : l.w with
      | cut =>
        rw [e] at hp
        simp [whatL] at hp
        subst hp
        decide
      | pay t m =>
        rw [e] at hp
        obtain ⟨b1, b2⟩ := G.big t m e
        simp only [whatL, List.mem_cons, List.not_mem_nil, or_false] at hp
        rcases hp with rfl | rfl | rfl
        · decide
        · have := num_len (n := t.toNat) (by omega); omega
        · have := num_len (n := m.toNat) (by omega); omega
theorem words_many (l : Let) : (wordsL l).length ≤ 5 := by
  unfold wordsL
  cases l.w <;> simp [whatL]
theorem line_len {l : Let} (G : GoodL l) : (lineL l).length ≤ 5465 := by
  have h := joinL_len (c := 32) (words_len G)
  have h2 := words_many l
  have : (wordsL l).length * (1092 + 1) ≤ 5 * (1092 + 1) := Nat.mul_le_mul_right _ h2
  show (joinL 32 _).length ≤ _
  omega
/-! ### bad lines -/
def bads : List Str := ["", "0", "0 1.0", "0 1.0 cut ", " 0 1.0 cut", "0  1.0 cut", "0 1.0 Cut", "0 1.0 cuts", "0 0.1 cut", "2 1.1 cut", "00 1.0 cut", "0 01.0 cut", "0 1. cut", "0 1.0. cut", "-0 1.0 cut", "0 1.-1 cut", "a 1.0 cut", "0 1,0 cut", "0 1.0 pay 1", "0 1.0 pay 1 2 3", "0 1.0 pay 0 5", "0 1.0 pay 2 5", "0 1.0 pay 1 05", "0 1.0 pay 1 -5", "0 1.0 pay 1 ", "0 1.0 pay  5", "0 1.0 pay x 5", "0 1.0 cut 1 5", "0 1.0 pay 01 5", "0 1 cut"]
theorem bad_none : ∀ z ∈ bads, readL (cd z) = none ∧ z.length ≤ 100 := by decide +kernel
end Of

set_option Elab.async false
set_option linter.all false
set_option maxRecDepth 100000
set_option maxHeartbeats 4000000
namespace L10
open PySem PySem.Spec L2 L3 L4
open PyProof.Rows hiding St
/-! ### an exception out of a comprehension -/
def AtW (B : Heap) (l : List Env) (e : Addr) (cls a0 fl : Value) (h : Heap) : Prop := B.StaysIn h ∧ B.get? e = none ∧ h.FunFrames B l ∧ h.TracedAtW B e cls a0 fl
theorem ff_but {B h h' : Heap} {C : Addr} (sb : Heap.SameBut C h h') : ∀ {l : List Env}, h.FunFrames B l → (∀ b ∈ frs l, b ≠ C) → h'.FunFrames B l
  | [], _, _ => trivial
  | env :: l, ⟨hk, ⟨L, o, hf, hn, ho, hd⟩, hr⟩, ne => by
    have nL : L ≠ C := ne L (List.mem_filterMap.mpr ⟨env, List.mem_cons_self, hf⟩)
    refine ⟨hk, ⟨L, o, hf, hn, (sb.2 L nL).trans ho, hd⟩, ff_but sb hr fun b hb => ne b ?_⟩
    obtain ⟨e, he, q⟩ := List.mem_filterMap.mp hb
    exact List.mem_filterMap.mpr ⟨e, List.mem_cons_of_mem _ he, q⟩
section
variable {M : Model} {A : Around} {E : Value → Shared → Prop} {s : Shared} {B : Heap} {env : Env} {outer l : List Env} {L e : Addr} {cls a0 fl : Value}
theorem note_same {env' : Env} {x : Value} (h : env'.frame = env.frame) : noteFrame x env' = noteFrame x env := by
  unfold noteFrame PySem.frameOf
  rw [h]
theorem ref_ne (T : Addr) : (Value.ref T != Value.none) = true := by simp
theorem ref_nn (T : Addr) : ¬ (Value.ref T == Value.none) = true := by simp
/-- the mark of the flight is set anew -/
theorem flight_at {f : Option Addr} {Q : Unit → Shared → Prop} (x : AtW B l e cls a0 fl s.heap) (hQ : ∀ h' fl', AtW B l e cls a0 fl' h' → s.heap.UpToSlots h' → Q () { s with heap := h' }) : wpAny M A (setFlight (.ref e) f) Q E s := by
  obtain ⟨k1, k2, k3, oe, vs, T, oT, ts, ge, gc, gd, g1, gn, gT, gt, gtd, g3⟩ := x
  have z3 : 3 < ts.size := (Array.getElem?_eq_some_iff.mp g3).1
  have oth : ∀ b, b ≠ T → (s.heap.update T (Obj.mapFields (·.setIfInBounds 3 (f.elim Value.none fun g => rawInt g)))).get? b = s.heap.get? b := fun b hb => Heap.get?_update_other _ _ (Ne.symm hb)
  have nr : ∀ b o, s.heap.get? b = some o → (∀ ws, o.data ≠ .fields ws) → b ≠ T := fun b o hb hn q => by
    rw [q, gt] at hb; cases hb; exact hn ts gtd
  unfold setFlight
  refine wpAny_bind (wpAny_field ge gd g1 ?_)
  rw [if_pos (ref_ne T)]
  refine wpAny_setField gt gtd z3 (hQ _ (f.elim Value.none fun g => rawInt g) ⟨fun b o hb => (oth b fun q => by rw [q, gn] at hb; cases hb).trans (k1 b o hb), k2, k3.of_keeps fun b o hb hn => ⟨o, (oth b (nr b o hb hn)).trans hb, rfl⟩, ?_⟩ fun b o hb hn => ⟨o.slots, (oth b (nr b o hb hn)).trans hb⟩)
  exact ⟨oe, vs, T, _, _, (oth e (Ne.symm gT)).trans ge, gc, gd, g1, gn, gT, Heap.get?_update_self _ gt (Obj.isFreed_of_fields (Obj.data_mapFields gtd _)), Obj.data_mapFields gtd _, by simp [z3]⟩
/-- it leaves the frame, whatever its mark -/
theorem leaves_at {Q : Unit → Shared → Prop} (hfr : A.frames = some (env :: outer)) (hf : env.frame = some L) (x : AtW B (env :: outer) e cls a0 fl s.heap)
    (hQ : ∀ h', Heap.FlyingW B outer e cls a0 h' → s.heap.UpToSlots h' → Q () { s with heap := h' }) : wpAny M A (leaving env (.ref e)) Q E s := by
  have fin : ∀ (h1 : Heap) (fl' : Value), AtW B (env :: outer) e cls a0 fl' h1 → s.heap.UpToSlots h1 → wpAny M A (setFlight (.ref e) none) Q E { s with heap := h1 } := fun h1 fl' y up => by
    obtain ⟨k1, k2, k3, k4⟩ := y
    exact wpAny_setFlight_noneW k1 k3 k4 fun h' j1 j2 j3 j4 => hQ h' ⟨j1, k2, j2.2.2, j3⟩ (up.trans fun b o hb hn => ⟨o.slots, j4 b o hb hn⟩)
  obtain ⟨k1, k2, k3, oe, vs, T, oT, ts, ge, ⟨gc, g0⟩, gd, g1, gn, gT, gt, gtd, g3⟩ := id x
  subst gc
  unfold leaving noteFrame
  simp only [hf]
  refine wpAny_bind (wpAny_bind (wpAny_field ge gd g1 ?_))
  rw [if_pos (ref_ne T)]
  refine wpAny_bind (wpAny_field gt gtd g3 ?_)
  by_cases hL : (fl == rawInt L) = true
  · rw [if_pos hL]
    exact wpAny_pure (fin s.heap fl x (Heap.UpToSlots.refl _))
  · rw [if_neg hL]
    refine wpAny_bind (wpAny_setField gt gtd (Array.getElem?_eq_some_iff.mp g3).1 ?_)
    have oth : ∀ b, b ≠ T → (s.heap.update T (Obj.mapFields (·.setIfInBounds 3 Value.none))).get? b = s.heap.get? b := fun b hb => Heap.get?_update_other _ _ (Ne.symm hb)
    have nr : ∀ b o, s.heap.get? b = some o → (∀ ws, o.data ≠ .fields ws) → b ≠ T := fun b o hb hn q => by
      rw [q, gt] at hb; cases hb; exact hn ts gtd
    refine wpAny_entryW hfr (k3.of_keeps fun b o hb hn => ⟨o, (oth b (nr b o hb hn)).trans hb, rfl⟩) hf ((oth e (Ne.symm gT)).trans ge) (fun b o hb => (oth b fun q => by rw [q, gn] at hb; cases hb).trans (k1 b o hb)) k2 gd (Array.getElem?_eq_some_iff.mp g1).1 g0 fun h' ⟨x1, x2, x3, x4⟩ => ?_
    exact fin h' _ ⟨x1, k2, x2, x3⟩ fun b o hb hn => x4 b o ((oth b (nr b o hb hn)).trans hb) hn
end
/-- how it lies, seen from the entry of the def -/
def PassC (X : Cx) (E : XK) : Prop := ∀ (a C : Addr) (a0 fl : Value) (B : Heap) (H' : Hp) (s' : Shared), X.Ok → s'.os = X.s₀.os → AllBare s'.gens → AtW B X.stack a (.ref C) a0 fl s'.heap → UnB X.fs X.H₀ H' X.s₀.heap B → SlF X.fs X.s₀.heap s'.heap → HOk X.prog X.w H' B → E (.ref C) none H' → X.xe (.ref a) s'
theorem passC1 {P : Program} {w : World} {K : PySem.W.Frag} {mg : Str → Option Value} {base : Heap} {N : List Str} {qual : Str} {scope : Scope} {f : Addr} {cd : Value} {A : Around} {outer : List Env} {s0 : Shared} {H0 : Hp} {E : XK} : PassC (cxOf (CX1 P w) P w K mg base N qual scope f cd A outer s0 H0 E) E := by
  intro a C a0 fl B H' s' ok os bare at_ un sl hok q
  refine leaves_at ok.frames rfl at_ fun h'' x1 x2 => ?_
  exact ⟨a, C, a0, B, H', rfl, os, bare, x1, un, SlF.up sl (noF_of ok.funs) x2, hok, q⟩
section
variable {X : Cx} {E : XK} {pins : List (Addr × Obj)} {σ : St} {H1 : Hp} {s1 s9 : Shared} {C : Addr} {m : Str → Option Value} {cenv : Env} {e : Value} {use : Option (Value → Sem Unit)} {Qr : Value → Shared → Prop} {D : Value}
theorem comp_err (PC : PassC X E) (hex : X.ex = []) (hst : X.stack = X.env :: X.outer) (hfr : X.env.frame = some X.env.locals) (J1 : Inv X pins σ H1 s1) (hCn : H1 C = none) (hCs : X.s₀.heap.objs.size ≤ C) (hCl : C ∉ frs X.stack) (hn : s1.heap.Ns C m) (hcf : cenv.frame = X.env.frame)
    (h : CX1 X.prog X.w X.stack H1 s1 E e s9) : notedBy (model X.prog X.w) X.A cenv (fun e s' => compPost (model X.prog X.w) X.A X.xe use Qr D C (.error e) s') e s9 := by
  obtain ⟨a, Cc, a0, B, H', rfl, os, bare, fl, un, sl, hok, q⟩ := h
  obtain ⟨oC, es, ep, hoC, hdC, rC⟩ := id hn
  have hBC : B.get? C = some oC := un.keep C oC hoC hCn hCl
  have hst' : (PySem.W.hideAll B [C]).StaysIn B := fun b o e => PySem.W.of_hideAll _ e
  have fl' := PySem.W.flyingW_base hst' fl
  rw [hst] at fl'
  show wpAny _ X.A (noteFrame (.ref a) cenv) _ _ s9
  rw [note_same hcf]
  refine wpAny_looks_onW (by rw [← hst]; exact J1.ok.frames) hfr fl' fun h4 fl4 up4 => ?_
  have n9 : s9.heap.Ns C m := ⟨oC, es, ep, fl.1 C oC hBC, hdC, rC⟩
  have n4 : h4.Ns C m := up4.ns n9
  have post : ∃ m, h4.Ns C m ∧ ∀ h', Heap.SameBut C h4 h' → ∀ cenv : Env, cenv.locals = C → wpAny (model X.prog X.w) X.A (PySem.passOn "comprehension.variables-let-go" (.ref a) cenv : Sem Value) (fun _ _ => False) X.xe { s9 with heap := h' } := by
    refine ⟨m, n4, fun h5 sb ce _ => ?_⟩
    obtain ⟨k1, k2, k3, oe, vs, T, oT, ts, ge, gc, gd, g1, gn, gT, gt, gtd, g3⟩ := fl4
    obtain ⟨o4, es4, ep4, ho4, hd4, _⟩ := n4
    have nC : ∀ {b : Addr} {o : Obj} {ws : Array Value}, h4.get? b = some o → o.data = .fields ws → b ≠ C := fun hb hd z => by
      rw [z, ho4] at hb; cases hb; rw [hd4] at hd; cases hd
    have hsub : ∀ b ∈ frs (X.env :: X.outer), b ≠ C := fun b hb z => hCl (by rw [hst, ← z]; exact hb)
    have ge5 := (sb.2 a (nC ge gd)).trans ge
    have a5 : AtW (PySem.W.hideAll B [C]) (X.env :: X.outer) a (.ref Cc) a0 (rawInt X.env.locals) h5 := by
      refine ⟨fun b o e => (sb.2 b fun z => ?_).trans (k1 b o e), k2, ff_but sb k3 hsub, oe, vs, T, oT, ts, ge5, gc, gd, g1, gn, gT, (sb.2 T (nC gt gtd)).trans gt, gtd, g3⟩
      rw [z, PySem.W.hideAll_none [C] (List.mem_singleton.mpr rfl)] at e
      cases e
    have old : ∀ {b : Addr} {o : Obj}, X.s₀.heap.get? b = some o → b ≠ C := fun e => Nat.ne_of_lt (Nat.lt_of_lt_of_le (Heap.lt_size e) hCs)
    have unB := onB J1 hex un
    have un' : UnB X.fs X.H₀ H' X.s₀.heap (PySem.W.hideAll B [C]) := ⟨fun b o e n hb => PySem.W.hideAll_get _ (unB.keep b o e n hb) (by simpa using old e), unB.free, fun b o e hb => by
      obtain ⟨o', q'⟩ := unB.there b o e hb
      exact ⟨o', PySem.W.hideAll_get _ q' (by simpa using old e)⟩, unB.tups, unB.frzs, unB.tbls⟩
    have hCn' : H' C = none := un.free C oC hoC hCn
    have hok' : HOk X.prog X.w H' (PySem.W.hideAll B [C]) := fun b o e => (hok b o e).stay (fun c u hc q => PySem.W.hideAll_get _ q (by
      intro z
      have z : c = C := by simpa using z
      rcases hc with hc | hc
      · rw [← hc, z, hCn'] at e; cases e
      · rw [z, hCn'] at hc; cases hc)) (fun _ q => q) fun _ _ q => q
    have sl5 : SlF X.fs X.s₀.heap h5 := fun b hb o e => by
      obtain ⟨sl', q'⟩ := (SlF.up (SlF.trans (base_slots J1 hex) sl fun b hb => by
        rw [hst]
        obtain ⟨en, he, hf⟩ := List.mem_filterMap.mp hb
        exact List.mem_filterMap.mpr ⟨en, List.mem_cons_of_mem _ he, hf⟩) (noF_of J1.ok.funs) up4) b hb o e
      exact ⟨sl', (sb.2 b (old e)).trans q'⟩
    unfold PySem.passOn
    refine wpAny_bind (wpAny_field ge5 gd g1 ?_)
    rw [if_neg (ref_nn T)]
    have step : wpAny (model X.prog X.w) X.A (setFlight (.ref a) ce.frame) (fun _ s'' => wpAny (model X.prog X.w) X.A (throw (Value.ref a) : Sem Value) (fun _ _ => False) X.xe s'') X.xe { s9 with heap := h5 } :=
      flight_at (s := { s9 with heap := h5 }) a5 fun h6 fl6 a6 up6 => wpAny_throw (PC a Cc a0 fl6 _ H' { s9 with heap := h6 } J1.ok (os.trans J1.os) bare (by rw [hst]; exact a6) un' (SlF.up sl5 (noF_of J1.ok.funs) up6) hok' q)
    first
      | exact wpAny_bind (wpAny_pure (wpAny_bind step))
      | exact wpAny_bind step
  cases use with
  | none => exact post
  | some u => exact post
end
/-- the block of a comprehension out of which an exception may come -/
def blkX (X : Cx) (scope : Scope) (N : List Str) (cl : List (Str × Addr)) (fp : List Addr) (s₂ : Shared) (H₂ : Hp) (C : Addr) (E : XK) : Cx :=
  (blk X scope N cl fp s₂ H₂ C).wish fun e s' => ∃ pins σ H s, Inv (blk X scope N cl fp s₂ H₂ C) pins σ H s ∧ CX1 X.prog X.w X.stack H s E e s'
theorem passB {X : Cx} {scope : Scope} {N : List Str} {cl : List (Str × Addr)} {fp : List Addr} {s₂ : Shared} {H₂ : Hp} {C : Addr} {E : XK} : Passes (CX1 X.prog X.w) (blkX X scope N cl fp s₂ H₂ C E) E :=
  fun pins σ H s e s' I h => ⟨pins, σ, H, s, Inv.unwish I, h⟩
theorem comp_coreX {X : Cx} {elt iter : Expr} {x : Str} {px pos p2 : Pos} {scope : Scope} {ks : List Nat} {caps : List Str} {wi : TI} {te : TE} {R : VK} {E : XK} {Qr : Value → Shared → Prop}
    (PC : PassC X E) (hex : X.ex = []) (hst : X.stack = X.env :: X.outer) (hfr : X.env.frame = some X.env.locals) (hc : X.calm = true) (S : CScope X scope x ks caps) (hi : PI X (.Name x px) iter wi)
    (he : ∀ cl fp s₂ H₂ C, PE (blkX X scope (x :: caps) cl fp s₂ H₂ C E) elt te)
    (hs : ∀ v, foldedSetIterable iter X.env v = pure v)
    {pins : List (Addr × Obj)} {s : Shared} {σ : St} {H : Hp} (I : Inv X pins σ H s) (h : wi σ H fun J H1 => tCompW J tYes te (ks.map fun k => σ.getD k none) R H1)
    (fin0 : ∀ D H' s', Inv X pins σ H' s' → R (.ref D) H' → Qr (.ref D) s') :
    wpAny (model X.prog X.w) X.A (comprehension (.ListComp elt [⟨.Name x px, iter, [], 0⟩] scope pos) scope X.env p2 (newList []) false (eval iter X.env) none) Qr X.xe s := by
  obtain ⟨cl, hclos, p1, p3⟩ := closureFor_of (scope := scope) (env := X.env) fun y hy hf => I.ok.has y.1 (S.frees y hy hf)
  refine wpAny_comprehension_free rfl hs hclos S.kind S.names (thn (hi pins s σ H _ I h) fun v s1 h1 => thn h1 fun itv s2 h2 => ?_)
  obtain ⟨it, fp, tn, J, H2, e, I2, T, st2, f2, rd⟩ := h2
  subst e
  have hlt : ∀ b ∈ fp, b < s2.heap.objs.size := fun b hb => by
    obtain ⟨o, ho, _⟩ := T.obj _ _ st2 b hb
    exact Heap.lt_size ho
  obtain ⟨W, ⟨m0, w0⟩, turn⟩ := rd s2.heap.objs.size I2.fresh
  refine wpAny_newObj_type (wpAny_newFunctionEnv S.nocell (by intro y hy; simp at hy) (fun h₁ hns₁ hsb₁ => ?_) S.kind)
  dsimp only at hns₁ hsb₁ ⊢
  generalize hH2 : s2.heap.push { cls := .type "list", dict := none, data := .seq ([] : List Value).toArray } = G2 at hns₁ hsb₁ ⊢
  have hC : G2.objs.size = s2.heap.objs.size + 1 := by rw [← hH2, Heap.size_push]
  have hDC : s2.heap.objs.size ≠ G2.objs.size := by rw [hC]; exact Nat.ne_of_lt (Nat.lt_succ_self _)
  have hCl : s2.heap.objs.size < G2.objs.size := by rw [hC]; exact Nat.lt_succ_self _
  have old : ∀ b o, s2.heap.get? b = some o → h₁.get? b = some o := fun b o e => hsb₁.extBut b o (Nat.ne_of_lt (Nat.lt_trans (Heap.lt_size e) hCl)) (Heap.get?_push_of_some _ (hH2 ▸ Heap.get?_push_of_some _ e))
  have hacc : ∃ n, h₁.get? s2.heap.objs.size = some { cls := .type "list", data := .seq ([] : List Value).toArray n } := ⟨_, hsb₁.extBut _ _ hDC (Heap.get?_push_of_some _ (hH2 ▸ Heap.get?_push_size _ rfl))⟩
  have I3 := blk_inv (cl := cl) (tk := s2.toks + ([] : List (Str × Value)).length) S I2 f2 hlt p1 p3 hCl old hacc hns₁
  have st3 : tn 0 h₁ := T.keep _ _ _ st2 fun b _ o e => old b o e
  have f3 : ∀ b ∈ fp, upd H2 s2.heap.objs.size (.lst []) b = none := fun b hb => by
    rw [upd_ne (Nat.ne_of_lt (hlt b hb))]
    exact (f2 b hb).1
  have hCstk : G2.objs.size ∉ frs X.stack := fun z => by
    rcases List.mem_cons.mp (I2.stkSub _ z) with e | e
    · exact absurd (Nat.lt_trans I2.lt hCl) (by rw [← e]; exact Nat.lt_irrefl _)
    · exact I2.nofs (Nat.le_of_lt hCl) e
  -- a state of the block is a state of the context around it
  have back : ∀ {σ' : St} {H' : Hp} {s' : Shared} {pl : List (Addr × Obj)}, Inv (blk X scope (x :: caps) cl fp s2 H2 G2.objs.size) pl σ' H' s' → Inv X pins σ H' s' ∧ Gone X pins H' G2.objs.size := fun {σ' H' s' pl} J' => by
    refine ⟨I2.call' (ch := fp) J'.os J'.base J'.hok J'.bare fun b hb => ⟨(f2 b hb).2.2.2.1, (f2 b hb).2.1, (f2 b hb).2.2.2.2.1, (f2 b hb).2.2.2.2.2⟩, J'.free, Nat.ne_of_gt (Nat.lt_trans I2.lt hCl), .inr (Nat.le_trans I2.sz (Nat.le_of_lt hCl)), fun y c e z => ?_, fun p hp z => ?_⟩
    · obtain ⟨v, q⟩ := I2.cell y c e
      exact absurd (Nat.lt_trans q.lt (z ▸ hCl)) (Nat.lt_irrefl _)
    · exact absurd (Nat.lt_trans (Heap.lt_size (I2.pin p hp).1) (z ▸ hCl)) (Nat.lt_irrefl _)
  -- the loop
  have loop : ∀ s₃ : Shared, s₃ = { s2 with heap := h₁, toks := s2.toks + ([] : List (Str × Value)).length } →
      codeAny (model X.prog X.w) X.A (.compLoop (.ListComp elt [⟨.Name x px, iter, [], 0⟩] scope pos) 0 (.ref it) (.ref s2.heap.objs.size) (compEnvC scope cl G2.objs.size X.env))
        (compPost (model X.prog X.w) X.A X.xe none Qr (.ref s2.heap.objs.size) G2.objs.size) s₃ := by
    rintro s₃ rfl
    have stat : ∀ {H' : Hp}, (∀ b ∈ fp, H' b = none) → ∀ b ∈ fp, FpOk (blk X scope (x :: caps) cl fp s2 H2 G2.objs.size) [] H' b := fun hn b hb =>
      ⟨hn b hb, Nat.ne_of_lt (Nat.lt_trans (hlt b hb) hCl), fun z => by
        rcases List.mem_cons.mp (I2.stkSub b z) with e | e
        · exact (f2 b hb).2.1 e
        · exact (f2 b hb).2.2.1 e, .inl hb, fun y c e => (f2 b hb).2.2.2.2.1 y c (p1 y c e), fun p hp => absurd (show p ∈ ([] : List (Addr × Obj)) from hp) (by simp)⟩
    refine codeAny_compLoop_tests (fun n s' => ∃ i v0 ys H', Inv (blk X scope (x :: caps) cl fp s2 H2 G2.objs.size) [] (v0 :: ks.map fun k => σ.getD k none) H' s' ∧ tn i s'.heap ∧ (∀ b ∈ fp, H' b = none) ∧ W i n ys H') ?_ m0
      ⟨0, none, [], _, I3, st3, f3, w0⟩
    rintro n s4 ⟨i, v0, ys, H4, I4, st4, fr4, w4⟩
    obtain ⟨hD, hh⟩ := turn i n ys H4 w4
    rcases hh with ⟨stop, qn⟩ | ⟨go, N, hN, step⟩
    · refine thn (T.done (blk X scope (x :: caps) cl fp s2 H2 G2.objs.size) rfl rfl rfl hc i [] s4 _ H4 _ I4 (stat fr4) st4 stop) fun r s5 ⟨hr, I5⟩ => ?_
      subst hr
      obtain ⟨J5, g5⟩ := back I5
      obtain ⟨m5, hn5, _⟩ := I5.loc
      exact ⟨m5, hn5, fun h' sb => fin0 _ H4 _ (g5.inv J5 sb) qn⟩
    · refine thn (T.item (blk X scope (x :: caps) cl fp s2 H2 G2.objs.size) rfl rfl rfl hc i [] s4 _ H4 (notedBy (model X.prog X.w) X.A (compEnvC scope cl G2.objs.size X.env) fun e s' => compPost (model X.prog X.w) X.A X.xe none Qr (.ref s2.heap.objs.size) G2.objs.size (.error e) s') I4 (stat fr4) st4 go) fun r s5 ⟨u, hr, h5⟩ => ?_
      subst hr
      show wpAny _ _ (letOwnedTupleGo (.Name x px) (.ref it) u >>= fun _ => assign (.Name x px) (compEnvC scope cl G2.objs.size X.env) u) _ _ s5
      refine wpAny_bind (thn h5 fun _ s6 ⟨y6, H6, I6, r6, yl6, st6, fr6⟩ => ?_)
      have I6' := I6.pinned (stat fr6) (T.obj _ _ st6)
      refine thnE (pg_name (X := blk X scope (x :: caps) cl fp s2 H2 G2.objs.size) (i := 0) S.nd rfl (.inl (lookup_relabel_local S.tgt)) (.inr (lookup_relabel_local S.tgt)) _ s6 _ H6 y6 u (fun σ' H' => σ' = some y6 :: (ks.map fun k => σ.getD k none) ∧ H' = H6) I6' r6 ⟨rfl, rfl⟩) fun _ s7 ⟨σ7, H7, I7, e7, e7'⟩ => ?_
      subst e7 e7'
      have again : ∀ {σ' : St} {H' : Hp} {s' : Shared}, Inv (blk X scope (x :: caps) cl fp s2 H2 G2.objs.size) ([] ++ pinsAt fp s6.heap) σ' H' s' → tn (i + 1) s'.heap ∧ ∀ b ∈ fp, H' b = none := fun {σ' H' s'} J' => by
        refine ⟨T.keep _ _ _ st6 fun b hb o e => (J'.pin (b, o) (List.mem_append_right _ (List.mem_append_right _ (mem_pinsAt hb e)))).1, fun b hb => ?_⟩
        obtain ⟨o, e, d⟩ := T.obj _ _ st6 b hb
        exact (J'.pin (b, o) (List.mem_append_right _ (List.mem_append_right _ (mem_pinsAt hb e)))).2.1
      refine thnE (pts_nil (X := blk X scope (x :: caps) cl fp s2 H2 G2.objs.size) _ s7 _ H7 _ I7 (step y6 H7 yl6)) fun b s8 ⟨H8, I8, q8⟩ => ?_
      cases b with
      | false =>
        rw [if_neg Bool.false_ne_true] at q8
        obtain ⟨m', hm, w8⟩ := hN _ _ q8
        rw [if_neg Bool.false_ne_true]
        obtain ⟨a1, a2⟩ := again I8
        exact ⟨m', hm, i + 1, _, ys, H8, I8.unpinned, a1, a2, w8⟩
      | true =>
        rw [if_pos rfl] at q8
        rw [if_pos rfl]
        refine wpAny_mono (he cl fp s2 H2 G2.objs.size _ s8 _ H8 _ (I8.wish _) q8) (fun yv s9 ⟨y9, H9, I9', r9, hD9, hz9, n9⟩ => ?_) fun ev s9 hx => ?_
        · have I9 := Inv.unwish I9'
          obtain ⟨m', hm, w9⟩ := hN _ _ n9
          refine thnE (mt_append (X := blk X scope (x :: caps) cl fp s2 H2 G2.objs.size) _ s9 _ H9 (.ref s2.heap.objs.size) [y9] (.ref s2.heap.objs.size) [yv] (fun _ H' => H' = upd H9 s2.heap.objs.size (.lst (ys ++ [y9]))) I9 rfl (.cons r9 .nil) ⟨_, ys, y9, rfl, rfl, hD9, hz9, rfl⟩) fun _ s10 ⟨_, H10, I10, _, e10⟩ => ?_
          subst e10
          obtain ⟨a1, a2⟩ := again I10
          exact ⟨m', hm, i + 1, _, _, _, I10.unpinned, a1, a2, w9⟩
        · obtain ⟨pl, σ', H', s', I', cx⟩ := hx
          obtain ⟨J', g'⟩ := back I'
          obtain ⟨m', hn', _⟩ := I'.loc
          exact comp_err PC hex hst hfr J' g'.free (Nat.le_trans I2.sz (Nat.le_of_lt hCl)) hCstk hn' rfl cx
  exact codeAny_compStart_list (loop _ rfl) (T.self _ _ _ _ _ st3 (loop _ rfl))
/-- [elt for x in iter], elt may raise -/
theorem pe_compX {X : Cx} {elt iter : Expr} {x : Str} {px pos : Pos} {scope : Scope} {wi : TI} {te : TE} {E : XK} (ks : List Nat) (caps : List Str) (PC : PassC X E)
    (hi : PI X (.Name x px) iter wi) (he : ∀ cl fp s₂ H₂ C, PE (blkX X scope (x :: caps) cl fp s₂ H₂ C E) elt te) (hS : cscopeB X.env.scope X.N scope x ks caps = true := by kernel_rfl)
    (hc : X.calm = true := by rfl) (hex : X.ex = [] := by rfl) (hst : X.stack = X.env :: X.outer := by rfl) (hfr : X.env.frame = some X.env.locals := by rfl)
    (hs : ∀ v, foldedSetIterable iter X.env v = pure v := by intro _; rfl) : PE X (.ListComp elt [⟨.Name x px, iter, [], 0⟩] scope pos) (tComp wi ks tYes te) := by
  intro pins s σ H Q I h
  rw [eval_ListComp]
  exact comp_coreX (R := Q) PC hex hst hfr hc (CScope.of hS) hi he hs I h (fun D H' s' I' q => ⟨.ref D, H', I', rfl, q⟩)
end L10

set_option Elab.async false
set_option linter.all false
set_option maxRecDepth 100000
set_option maxHeartbeats 4000000
namespace L10
open PySem PySem.Spec L2 L3
open PyProof.Rows hiding St
/-! ### a text, sign by sign -/
def Its (x : Str) : It := ⟨fun i _ => i < x.cps.size, fun i H v H' => H' = H ∧ ∃ c, x.cps[i]? = some c ∧ v = .str ⟨#[c]⟩, fun i _ => i = x.cps.size⟩
theorem go_str {M : Model} {A : Around} {E : Value → Shared → Prop} {s : Shared} {tg : Expr} {it : Addr} {z : Str} {t : Tok} {Q : Unit → Shared → Prop} (hQ : Q () s) : wpAny M A (letOwnedTupleGo tg (.ref it) (.str z t)) Q E s := by
  unfold letOwnedTupleGo
  cases tg <;> exact wpAny_pure hQ
theorem walks_str {P : Program} {w : World} {A : Around} {ty : String} (hty : ty = "str_ascii_iterator" ∨ ty = "str_iterator") (hh : A.handled = none) (it : Addr) (x : Str) (t : Tok) :
    Walks P w A it [it] [it] x.cps.size (SignAt x) (fun i h => h.IsStrIter it ty x t i) := by
  rcases hty with rfl | rfl
  · exact Walks.strAscii hh it x t
  · exact Walks.strWide hh it x t
theorem turn_str {P : Program} {w : World} {K : PySem.W.Frag} {tg : Expr} {ty : String} (hty : ty = "str_ascii_iterator" ∨ ty = "str_iterator") (it : Addr) (x : Str) (t : Tok) : Turn P w K tg (Its x) [it] it (fun i h => h.IsStrIter it ty x t i) where
  mem := by simp
  obj := fun i h st b hb => by
    have e : b = it := by simpa using hb
    subst e
    obtain ⟨o, e, _, d⟩ := st
    exact ⟨o, e, fun v z => by rw [d] at z; cases z⟩
  keep := fun i h h' st k => by
    obtain ⟨o, e, r⟩ := st
    exact ⟨o, k it (by simp) o e, r⟩
  item := by
    intro X hP hw hK hc i pins s σ H E I hf st hg
    subst hP hw hK
    obtain ⟨f0, f1, f2, f3, f4, f5⟩ := hf it (by simp)
    refine (walks_str hty (I.ok.hd hc) it x t).item i s _ _ hg st fun v h' tk hv st' kk => ?_
    obtain ⟨c, u, hcc, rfl⟩ := hv
    have I1 : Inv X pins σ H { s with heap := h', toks := tk } := I.turned (fun b o hb e => kk b o (by simpa using hb) e) f0 f1 f3 f4 f5
    exact ⟨_, rfl, go_str ⟨.str ⟨#[c]⟩, H, I1, ⟨u, rfl⟩, ⟨rfl, c, hcc, rfl⟩, st', fun b hb => (hf b hb).1⟩⟩
  done := by
    intro X hP hw hK hc i pins s σ H E I hf st hg
    subst hP hw hK
    obtain ⟨f0, f1, f2, f3, f4, f5⟩ := hf it (by simp)
    have e : i = x.cps.size := hg
    subst e
    exact (walks_str hty (I.ok.hd hc) it x t).done s _ _ st fun h' tk kk => ⟨rfl, I.turned (fun b o hb e => kk b o (by simpa using hb) e) f0 f1 f3 f4 f5⟩
  self := fun A i s Q E st h => by
    rcases hty with rfl | rfl
    · exact wpAny_pyIter_striter_ascii st h
    · exact wpAny_pyIter_striter_wide st h
section
variable {X : Cx} {tg : Expr}
inductive iStr_ (R : It → Hp → Prop) (x : V) (H1 : Hp) : Prop where
  | mk (z : Str) (h1 : x = .str z) (h2 : R (Its z) H1) : iStr_ R x H1
def iStr (tl : TE) : TI := fun σ H R => tl σ H fun x H1 => iStr_ R x H1
theorem pi_str {l : Expr} {tl : TE} (hl : PE X l tl) : PI X tg l (iStr tl) := by
  intro pins s σ H R I h
  refine thn (hl pins s σ H _ I h) fun v s1 ⟨x, H1, I1, r1, q1⟩ => ?_
  obtain ⟨z, e, q⟩ := q1
  subst e
  obtain ⟨t, rfl⟩ := r1
  have fin : ∀ (ty : String) (o : Obj), (ty = "str_ascii_iterator" ∨ ty = "str_iterator") → (s1.heap.push o).IsStrIter s1.heap.objs.size ty z t 0 → PIE X pins σ tg R (.ref s1.heap.objs.size) { s1 with heap := s1.heap.push o } := fun ty o hty st => by
    refine ⟨s1.heap.objs.size, [s1.heap.objs.size], _, _, H1, rfl, I1.kept (t' := s1.toks) fun b o e => Heap.get?_push_of_some _ e, turn_str hty _ z t, st, fun b hb => ?_, q⟩
    have e : b = s1.heap.objs.size := by simpa using hb
    subst e
    exact I1.fpOk (Nat.le_refl _) (I1.hok.fresh (Nat.le_refl _))
  cases ha : z.cps.all (· < 128)
  · exact wpAny_pyIter_wide ha (fin "str_iterator" _ (.inr rfl) ⟨_, Heap.get?_push_size _ rfl, rfl, rfl⟩)
  · exact wpAny_pyIter_ascii ha (fin "str_ascii_iterator" _ (.inl rfl) ⟨_, Heap.get?_push_size _ rfl, rfl, rfl⟩)
end
theorem for_str {z : Str} {g : TG} {tb : TS} {D : Ends} {σ : L2.St} {H : Hp} (Pv : Nat → L2.St → Hp → Prop) (h0 : Pv 0 σ H)
    (hs : ∀ i c σ H, (Tx.cd z)[i]? = some c → Pv i σ H → g (.str ⟨#[c]⟩) σ H fun σ2 H2 => tb { D with nx := Pv (i + 1), ct := Pv (i + 1), bk := D.nx } σ2 H2) (hd : ∀ σ H, Pv z.cps.size σ H → D.nx σ H) :
    tFor_ g tb D σ (Its z) H := by
  refine ⟨fun i m σ H => m = z.cps.size - i ∧ i ≤ z.cps.size ∧ Pv i σ H, ⟨z.cps.size, by simp, Nat.zero_le _, h0⟩, ?_⟩
  rintro i m σ H ⟨rfl, hi, p⟩
  by_cases hlt : i < z.cps.size
  · refine .inr ⟨hlt, Pv (i + 1), fun σ' H' p' => ⟨z.cps.size - (i + 1), by omega, rfl, hlt, p'⟩, fun x H' y => ?_⟩
    obtain ⟨e, c, hc, rfl⟩ := y
    subst e
    exact hs i c σ _ (by simpa using hc) p
  · have e : i = z.cps.size := by omega
    subst e
    exact .inl ⟨rfl, hd σ H p⟩
theorem comp_str {z : Str} {tt : TT} {te : TE} {cv : List (Option V)} {Q : VK} {H1 : Hp} (Pv : Addr → Nat → List V → Hp → Prop) (h0 : ∀ D, H1 D = none → Pv D 0 [] (upd H1 D (.lst [])))
    (hl : ∀ D i ys H, H1 D = none → i ≤ z.cps.size → Pv D i ys H → H D = some (.lst ys))
    (hs : ∀ D i c ys H, H1 D = none → (Tx.cd z)[i]? = some c → Pv D i ys H → tt (some (.str ⟨#[c]⟩) :: cv) H fun b H2 => if b = true then te (some (.str ⟨#[c]⟩) :: cv) H2 (fun y H3 => H3 D = some (.lst ys) ∧ ys.length < sizeLine ∧ Pv D (i + 1) (ys ++ [y]) (upd H3 D (.lst (ys ++ [y])))) else Pv D (i + 1) ys H2)
    (hd : ∀ D ys H, H1 D = none → Pv D z.cps.size ys H → Q (.ref D) H) : tCompW (Its z) tt te cv Q H1 := fun D hD => by
  refine ⟨fun i m ys H => m = z.cps.size - i ∧ i ≤ z.cps.size ∧ Pv D i ys H, ⟨z.cps.size, by simp, Nat.zero_le _, h0 D hD⟩, ?_⟩
  rintro i m ys H ⟨rfl, hi, p⟩
  refine ⟨hl D i ys H hD hi p, ?_⟩
  by_cases hlt : i < z.cps.size
  · refine .inr ⟨hlt, Pv D (i + 1), fun ys' H' p' => ⟨z.cps.size - (i + 1), by omega, rfl, hlt, p'⟩, fun x H' y => ?_⟩
    obtain ⟨e, c, hc, rfl⟩ := y
    subst e
    exact hs D i c ys _ hD (by simpa using hc) p
  · have e : i = z.cps.size := by omega
    subst e
    exact .inl ⟨rfl, hd D ys H hD p⟩
/-! ### methods of texts -/
theorem strs_of : ∀ {ys : List Str} {its : List Value}, Vals (ys.map V.str) its → StrsAre its ys
  | [], its, r => by
    cases r
    exact .nil
  | y :: ys, its, r => by
    cases r with
    | cons a b =>
      obtain ⟨t, rfl⟩ := a
      exact .cons y t (strs_of b)
theorem vals_strs : ∀ l : List (Str × Tok), Vals ((l.map (·.1)).map V.str) (strValues l)
  | [] => .nil
  | (x, t) :: l => .cons ⟨t, rfl⟩ (vals_strs l)
inductive rJoin (K : PySem.W.Frag) (x : V) (vs : List V) (H : Hp) (Q : VK) : Prop where
  | mk (z : Str) (l : Addr) (ys : List Str) (h1 : x = .str z) (h2 : vs = [.ref l]) (h3 : SqL K H l (ys.map V.str)) (h4 : (ys.map (·.length)).sum + ys.length * z.length ≤ 16777216) (h5 : Q (.str (Txt.join z ys)) H) : rJoin K x vs H Q
inductive rSplit (x : V) (vs : List V) (H : Hp) (Q : VK) : Prop where
  | mk (z y : Str) (h1 : x = .str z) (h2 : vs = [.str y]) (h3 : (y.length == 0) = false) (h4 : z.length + 2 ≤ sizeLine) (h5 : ∀ l, H l = none → Q (.ref l) (upd H l (.lst ((Txt.split z y).map V.str)))) : rSplit x vs H Q
inductive rIndex (x : V) (vs : List V) (H : Hp) (Q : VK) : Prop where
  | mk (z y : Str) (i : Nat) (r : List Nat) (h1 : x = .str z) (h2 : vs = [.str y]) (h3 : Builtin.Str.occurrences z y 0 z.length 1 = i :: r) (h4 : Q (.int i) H) : rIndex x vs H Q
section
variable {X : Cx}
theorem mt_join : MtR X "str.join" (rJoin X.K) := by
  intro pins s σ H x vs v us Q I rx rv h
  obtain ⟨z, l, ys, rfl, rfl, hl, hz, q⟩ := h
  obtain ⟨t, rfl⟩ := rx
  obtain ⟨u, rfl, ru⟩ := rv.one
  cases ru
  obtain ⟨its, r, p, _⟩ := I.list hl
  exact join_list p.isList (by simpa using strs_of r) hz fun t' k => ⟨.str _, H, I.tok k, ⟨t', rfl⟩, q⟩
theorem mt_index : MtR X "str.index" rIndex := by
  intro pins s σ H x vs v us Q I rx rv h
  obtain ⟨z, y, i, r, rfl, rfl, ho, q⟩ := h
  obtain ⟨t, rfl⟩ := rx
  obtain ⟨u, rfl, t', rfl⟩ := rv.one
  exact SC.index ho ⟨.int i, H, I.tok _, ⟨_, rfl⟩, q⟩
theorem mt_split : MtR X "str.split" rSplit := by
  intro pins s σ H x vs v us Q I rx rv h
  obtain ⟨z, y, rfl, rfl, hy, hz, q⟩ := h
  obtain ⟨t, rfl⟩ := rx
  obtain ⟨u, rfl, t', rfl⟩ := rv.one
  have hle := split_le z y
  have lay : ∀ (l : List (Str × Tok)) (k : Nat), l.map (·.1) = Txt.split z y → EP X pins σ Q (.ref s.heap.objs.size) { s with toks := k, heap := s.heap.push { cls := .type "list", data := .seq (strValues l).toArray } } := fun l k e => by
    refine ⟨.ref s.heap.objs.size, _, I.laid (t' := k) (o := .lst ((Txt.split z y).map V.str)) (fun b ob q => Heap.get?_push_of_some _ q) (Nat.le_refl _) ?_, rfl, q _ (I.hok.fresh (Nat.le_refl _))⟩
    refine ⟨by rw [List.length_map]; omega, strValues l, _, ?_, Heap.get?_push_size _ rfl⟩
    rw [← e]
    exact vals_strs l
  unfold Txt.split at lay hle
  cases h1 : (decide (z.length < y.length) || decide (Builtin.Str.strKind z < Builtin.Str.strKind y))
  · rw [h1] at lay hle
    rw [if_neg Bool.false_ne_true] at lay hle
    cases hf : (Builtin.Str.occurrences z y 0 z.length (z.length + 1)).isEmpty
    · rw [hf] at lay hle
      rw [if_neg Bool.false_ne_true] at lay hle
      refine call_meets F.slot_str_split (typeIs_str _ _ _) F.entry_str_split (F.args_str_split_2 _ _) (meets_str_split_sep z y t t' h1 hy hf (by omega) (by omega)) ?_
      have := lay (numbered s.toks (Builtin.Str.partsBetween z (Builtin.Str.occurrences z y 0 z.length (z.length + 1)) y.length)) (s.toks + (Builtin.Str.partsBetween z (Builtin.Str.occurrences z y 0 z.length (z.length + 1)) y.length).length) (numbered_texts _ _)
      rw [← strsFrom_eq] at this
      exact this
    · rw [hf] at lay
      rw [if_pos rfl] at lay
      exact call_meets F.slot_str_split (typeIs_str _ _ _) F.entry_str_split (F.args_str_split_2 _ _) (meets_str_split_not_found z y t t' h1 hy hf) (lay [(z, t)] s.toks rfl)
  · rw [h1] at lay
    rw [if_pos rfl] at lay
    exact call_meets F.slot_str_split (typeIs_str _ _ _) F.entry_str_split (F.args_str_split_2 _ _) (meets_str_split_cannot_occur z y t t' h1) (lay [(z, t)] s.toks rfl)
theorem extM : MtR X "list.extend" rExtend := mt_extend
/-- s.join(l), s.split(t), s.index(t) -/
theorem mJoin (K : PySem.W.Frag) {o e : Expr} {to te : TE} {apos cpos : Pos} (ho : PE X o to) (ha : PE X e te) (h : X.K = K := by rfl) (hbase : attributeBase o "join" X.env (eval o X.env) = eval o X.env := by rfl) (h1 : isStar e = false := by rfl) (hline : (apos.endLine == cpos.line) = true := by rfl) :
    PE X (.Call (.Attribute o "join" apos) [e] [] cpos) (tBM K "str" (rJoin K) to (tCons te tNil)) := by
  subst h
  exact bM PySem.F.plainAttrs_str PySem.F.slot_str_join PySem.F.type_str_join mt_join ho (aC ha pa_nil h1) hbase (by simp [noStars, h1]) (by show 1 < 20; decide) hline
theorem mSplit (K : PySem.W.Frag) {o e : Expr} {to te : TE} {apos cpos : Pos} (ho : PE X o to) (ha : PE X e te) (h : X.K = K := by rfl) (hbase : attributeBase o "split" X.env (eval o X.env) = eval o X.env := by rfl) (h1 : isStar e = false := by rfl) (hline : (apos.endLine == cpos.line) = true := by rfl) :
    PE X (.Call (.Attribute o "split" apos) [e] [] cpos) (tBM K "str" rSplit to (tCons te tNil)) := by
  subst h
  exact bM PySem.F.plainAttrs_str PySem.F.slot_str_split PySem.F.type_str_split mt_split ho (aC ha pa_nil h1) hbase (by simp [noStars, h1]) (by show 1 < 20; decide) hline
theorem mIndex (K : PySem.W.Frag) {o e : Expr} {to te : TE} {apos cpos : Pos} (ho : PE X o to) (ha : PE X e te) (h : X.K = K := by rfl) (hbase : attributeBase o "index" X.env (eval o X.env) = eval o X.env := by rfl) (h1 : isStar e = false := by rfl) (hline : (apos.endLine == cpos.line) = true := by rfl) :
    PE X (.Call (.Attribute o "index" apos) [e] [] cpos) (tBM K "str" rIndex to (tCons te tNil)) := by
  subst h
  exact bM PySem.F.plainAttrs_str PySem.F.slot_str_index PySem.F.type_str_index mt_index ho (aC ha pa_nil h1) hbase (by simp [noStars, h1]) (by show 1 < 20; decide) hline
/-- a text of the top by its name -/
theorem nS {x z : Str} {u : Tok} {pos : Pos} (hm : X.mg x = some (.str z u)) (hg : glB X.env.scope x = true := by kernel_rfl) : PE X (.Name x pos) (tC (.str z)) := pe_glob (gl_of hg).1 hm ⟨u, rfl⟩ (gl_of hg).2.2
/-! ### "0" * 70 -/
theorem op_mul70 : OpR X (binaryOp .Mult) (fun x y H Q => x = .str "0" ∧ y = .int 70 ∧ Q (.str (L6.repS "0" 70)) H) := by
  intro pins s σ H x y v u Q I rx ry h
  obtain ⟨rfl, rfl, q⟩ := h
  obtain ⟨t, rfl⟩ := rx
  obtain ⟨t', rfl⟩ := ry
  refine PySem.P.mul_str (by decide +kernel) (fun _ _ => by decide +kernel) (fun _ _ => by decide +kernel) ?_
  rw [if_neg (by decide), if_neg (by decide +kernel)]
  exact ⟨by decide +kernel, .str (L6.repS "0" 70), H, I.tok _, ⟨_, rfl⟩, q⟩
theorem big70 : PySem.intText? (("1" : Str) ++ L6.repS "0" 70) = some (10 ^ 70) := by decide +kernel
end
end L10

section
set_option Elab.async false
set_option linter.all false
set_option maxRecDepth 100000
set_option maxHeartbeats 4000000
seal L2.PE L2.PT L2.PW L2.PA L2.PS L2.PSs L2.PG L2.PGs L2.PI L3.PTs L2.PO L2.CallR L2.OpR L2.IxR L2.MtR L2.PSet L2.SlR
namespace Of
open PySem L2 L3 L4 Tx
/-! ### letters written -/
theorem ten : (0 : Int) < 10 := by decide
theorem ln {n : Nat} (h : n ≤ 100000) : n ≤ sizeLine := Nat.le_trans h (by decide +kernel)
theorem figlen : FIG.length ≤ sizeLine := by decide +kernel
theorem fig_atI (n : Nat) : atI (cd FIG) ((n : Int) % 10) = some (48 + n % 10) := by
  rw [show ((n : Int) % 10) = ((n % 10 : Nat) : Int) by omega]
  exact atI_nat (fig_get _ (Nat.mod_lt _ (by decide)))
theorem S_cons (c : Nat) (l : List Nat) : (⟨#[c]⟩ : Str) ++ S l = S (c :: l) := S_app [c] l
theorem cut_S : ("cut" : Str) = S cutC := by decide +kernel
theorem pay_S : ("pay" : Str) = S payC := by decide +kernel
theorem dot_S : ("." : Str) = S [46] := by decide +kernel
theorem sp_S : (" " : Str) = S [32] := by decide +kernel
theorem nat_int {x : Int} (h : 0 ≤ x) : [V.int x] = [V.int (x.toNat : Nat)] := by rw [Int.toNat_of_nonneg h]
/-- a text of codes, as a value -/
abbrev vS (l : List Nat) : V := .str (S l)
def okBig : What → Prop
  | .pay t m => 0 ≤ t ∧ t < 10 ^ 90 ∧ 0 ≤ m ∧ m < 10 ^ 90
  | .cut => True
theorem GoodL.okBig {l : Let} (G : GoodL l) : okBig l.w := by
  have h1 := G.w
  have h2 := G.big
  cases e : l.w with
  | cut => trivial
  | pay t m =>
    rw [e] at h1
    obtain ⟨a, b, _⟩ := h1
    obtain ⟨c, d⟩ := h2 t m e
    exact ⟨b, c, a, d⟩
def spFig (K : PySem.W.Frag) : Sp := fun vs H Q _ => ∃ n : Nat, vs = [.int n] ∧ n < 10 ^ 90 ∧ Q (vS (dg n)) H
def spWords (K : PySem.W.Frag) : Sp := fun vs H Q _ => ∃ (c : Addr) (w : What), vs = [.ref c] ∧ WhatAt K H c w ∧ okBig w ∧ ∀ (p : Addr) (H' : Hp), Same H H' → H' p = some (.lst ((whatL w).map vS)) → Q (.ref p) H'
def spShown (K : PySem.W.Frag) : Sp := fun vs H Q _ => ∃ (a : Addr) (l : Let), vs = [.ref a] ∧ LetAt K H a l ∧ GoodL l ∧ ∀ H' : Hp, Same H H' → Q (vS (lineL l)) H'
section
variable {P : Program} {w : World} {K : PySem.W.Frag} {mg : Str → Option Value} {base : Heap} {fF fW fI fN CL CE CP CN : Addr} {tk : Tok}
theorem oFg : ownB ["number", "text"] (defScope sFiguresOf) = true := by decide +kernel
theorem scFg : FnScope ["number", "text"] ["number"] (defScope sFiguresOf) := ⟨rfl, rfl, rfl, by decide +kernel, rfl, by decide +kernel, by decide +kernel⟩
theorem ok_figures {f : Addr} {fd : FuncData} (F : Fun K "figures_of" "figures_of" sFiguresOf f fd) (mFig : mg "FIGURES" = some (.str FIG tk)) : FnOk P w K mg base CX0 1 f fd ["number"] (spFig K) := by
  refine okB (body := [stm sFiguresOf 0, stm sFiguresOf 1, stm sFiguresOf 2]) F scFg (fun vs H Q E h => ?_) (by kernel_rfl) (fun cdv A outer s H vs Q E hr h => ?_)
  · obtain ⟨n, rfl, _⟩ := h
    rfl
  · obtain ⟨n, rfl, hn, q⟩ := h
    have hl := num_len hn
    refine ⟨_, (pss_cons (oS oFg 1 (iX ix_str (L10.nS mFig) (pe_op op_mod (oV oFg 0) pe_int)))
      (pss_cons (ps_while PassesOwn.never (pt_cmpR op_ge (oV oFg 0) pe_int (nomark _))
        (pss_cons (oS oFg 0 (pe_op op_fdiv (oV oFg 0) pe_int))
        (pss_one (oS oFg 1 (pe_op op_add_str (iX ix_str (L10.nS mFig) (pe_op op_mod (oV oFg 0) pe_int)) (oV oFg 1))))))
      (pss_one (ps_ret (oV oFg 1))))), ?_⟩
    refine ⟨_, rfl, _, _, rfl, rfl, ten, _, _, _, rfl, rfl, figlen, fig_atI n, ?_⟩
    show tWhile _ _ _ _ _
    refine while_by (fun σ Hc => ∃ (m : Nat) (suf : List Nat), Hc = H ∧ σ = [some (.int m), some (vS ((48 + m % 10) :: suf))] ∧ dg n = dg m ++ suf) (fun σ _ => match σ with | some (.int m) :: _ => m.toNat | _ => 0) ⟨n, [], rfl, rfl, by simp⟩ ?_ ?_
    · rintro σ Hc ⟨m, suf, rfl, rfl, hd⟩
      have hsuf : suf.length ≤ 90 := by
        have := congrArg List.length hd
        rw [List.length_append] at this
        omega
      refine ⟨_, rfl, _, _, rfl, rfl, _, rfl, ?_⟩
      by_cases hm : (10 : Int) ≤ (m : Int)
      · rw [decide_eq_true hm]
        have e : ((m : Int) / 10) = ((m / 10 : Nat) : Int) := by omega
        refine iteT ⟨_, rfl, _, _, rfl, rfl, ⟨by decide, by decide⟩, ?_⟩
        rw [e]
        refine ⟨_, rfl, _, _, rfl, rfl, ten, _, _, _, rfl, rfl, figlen, fig_atI (m / 10), _, rfl, _, _, rfl, rfl, ?_, ?_⟩
        · rw [S_len]
          exact ln (by show 1 + (suf.length + 1) ≤ 100000; omega)
        · refine ⟨⟨m / 10, (48 + m % 10) :: suf, rfl, ?_, ?_⟩, ?_⟩
          · rw [S_cons]
            rfl
          · rw [hd, dg_ge (n := m) (by omega), List.append_assoc]
            rfl
          · show ((m / 10 : Nat) : Int).toNat < (m : Int).toNat
            omega
      · rw [decide_eq_false hm]
        refine iteF ⟨_, rfl, ?_⟩
        have e : 48 + m % 10 = 48 + m := by omega
        rw [hd, dg_lt (by omega), ← e] at q
        exact q
    · intro σ Hc Q1 Q2 hq hc
      obtain ⟨v, e1, i, j, e2, e3, k, e4, q'⟩ := hc
      exact ⟨v, e1, i, j, e2, e3, k, e4, hq _ _ q'⟩
theorem oWo : ownB ["what"] (defScope sWordsOf) = true := by decide +kernel
theorem scWo : FnScope ["what"] ["what"] (defScope sWordsOf) := ⟨rfl, rfl, rfl, by decide +kernel, rfl, by decide +kernel, by decide +kernel⟩
theorem ok_words {f : Addr} {fd fdF : FuncData} (F : Fun K "words_of" "words_of" sWordsOf f fd) (mF : mg "figures_of" = some (.ref fF)) (FF : Fun K "figures_of" "figures_of" sFiguresOf fF fdF) (bF : Binds K fdF ["number"] []) (mFig : mg "FIGURES" = some (.str FIG tk)) : FnOk P w K mg base CX0 2 f fd ["what"] (spWords K) := by
  have GF : FnOk P w K mg base CX0 1 fF fdF ["number"] (spFig K) := ok_figures FF mFig
  refine okB (body := [stm sWordsOf 0, stm sWordsOf 1]) F scWo (fun vs H Q E h => ?_) (by kernel_rfl) (fun cdv A outer s H vs Q E hr h => ?_)
  · obtain ⟨c, wh, rfl, _⟩ := h
    rfl
  · obtain ⟨c, wh, rfl, W, ok, q⟩ := h
    refine ⟨_, (pss_cons (ps_if (pt_cmpR op_eq (iX (ixT K) (oV oWo 0) pe_int) pe_str (nomark _))
        (pss_one (ps_ret (pe_lst (aC pe_str pa_nil))))
        pss_nil)
      (pss_one (ps_ret (pe_lst (aC pe_str (aC (cF GF hr mF FF.kp bF .nil pass0 (aC (iX (ixT K) (oV oWo 0) pe_int) pa_nil)) (aC (cF GF hr mF FF.kp bF .nil pass0 (aC (iX (ixT K) (oV oWo 0) pe_int) pa_nil)) pa_nil))))))), ?_⟩
    cases wh with
    | cut =>
      have W : SqT K H c [.str "cut"] := W
      refine ⟨_, rfl, c, _, 0, _, rfl, rfl, W, rfl, rfl, _, rfl, iteT ?_⟩
      exact ⟨ln (by show 1 ≤ 100000; decide), fun p hp => q p _ (same_new hp) (by rw [upd_same, cut_S]; rfl)⟩
    | pay t m =>
      have W : SqT K H c [.str "pay", .int t, .int m] := W
      obtain ⟨t0, t1, m0, m1⟩ := ok
      refine ⟨_, rfl, c, _, 0, _, rfl, rfl, W, rfl, rfl, _, rfl, ?_⟩
      rw [show decide (V.str "pay" = V.str "cut") = false by decide +kernel]
      refine iteF ⟨_, rfl, c, _, 1, _, rfl, rfl, W, rfl, t.toNat, nat_int t0, by omega, ?_⟩
      refine ⟨_, rfl, c, _, 2, _, rfl, rfl, W, rfl, m.toNat, nat_int m0, by omega, ?_⟩
      exact ⟨ln (by show 3 ≤ 100000; decide), fun p hp => q p _ (same_new hp) (by rw [upd_same, pay_S]; rfl)⟩
theorem oSh : ownB ["letter", "stamp"] (defScope sShown) = true := by decide +kernel
theorem scSh : FnScope ["letter", "stamp"] ["letter"] (defScope sShown) := ⟨rfl, rfl, rfl, by decide +kernel, rfl, by decide +kernel, by decide +kernel⟩
theorem sum_len (B : Nat) : ∀ ls : List (List Nat), (∀ l ∈ ls, l.length ≤ B) → ((ls.map S).map (·.length)).sum ≤ ls.length * B
  | [], _ => by simp
  | l :: ls, h => by
    have h1 := h l List.mem_cons_self
    have h2 := sum_len B ls fun x hx => h x (List.mem_cons_of_mem _ hx)
    rw [List.map_cons, List.map_cons, List.sum_cons, List.length_cons, S_len, Nat.succ_mul]
    omega
theorem ok_shown {f : Addr} {fd fdF fdW : FuncData} (F : Fun K "shown" "shown" sShown f fd) (mF : mg "figures_of" = some (.ref fF)) (FF : Fun K "figures_of" "figures_of" sFiguresOf fF fdF) (bF : Binds K fdF ["number"] [])
    (mW : mg "words_of" = some (.ref fW)) (FW : Fun K "words_of" "words_of" sWordsOf fW fdW) (bW : Binds K fdW ["what"] []) (mFig : mg "FIGURES" = some (.str FIG tk)) : FnOk P w K mg base CX0 3 f fd ["letter"] (spShown K) := by
  have GF : FnOk P w K mg base CX0 1 fF fdF ["number"] (spFig K) := ok_figures FF mFig
  have GW : FnOk P w K mg base CX0 2 fW fdW ["what"] (spWords K) := ok_words FW mF FF bF mFig
  refine okB (body := [stm sShown 0, stm sShown 1]) F scSh (fun vs H Q E h => ?_) (by kernel_rfl) (fun cdv A outer s H vs Q E hr h => ?_)
  · obtain ⟨a, l, rfl, _⟩ := h
    rfl
  · obtain ⟨a, l, rfl, ⟨b, c, L1, L2, L3⟩, G, q⟩ := h
    have hrF := hr.mono (by decide : 1 ≤ 2)
    have hst := G.st
    have hmost := G.most
    have hs := G.s
    refine ⟨_, (pss_cons (oS oSh 1 (L10.mJoin K pe_str (eC [] [] rfl (pi_tup (iX (ixT K) (oV oSh 0) pe_int)) (fun _ _ _ _ _ => pts_nil) (fun _ _ _ _ _ => (cF GF hrF mF FF.kp bF .nil pass0 (aC (sV 0) pa_nil))))))
      (pss_one (ps_ret (L10.mJoin K pe_str (pe_op op_cat (pe_lst (aC (cF GF hrF mF FF.kp bF .nil pass0 (aC (iX (ixT K) (oV oSh 0) pe_int) pa_nil)) (aC (oV oSh 1) pa_nil))) (cF GW hr mW FW.kp bW .nil pass0 (aC (iX (ixT K) (oV oSh 0) pe_int) pa_nil))))))), ?_⟩
    refine ⟨rfl, _, rfl, a, _, 1, _, rfl, rfl, L1, rfl, b, rfl, ⟨_, L2⟩, comp_tup (K := K) (a := b) (xs := nums l.st) (fun D i ys Hc => ys = ((l.st.take i).map fun x => vS (dg x.toNat)) ∧ Hc = upd H D (.lst ys)) (fun D hD => ⟨rfl, rfl⟩) (fun D i ys Hc hD _ ⟨_, e⟩ => ⟨by rw [e]; exact upd_same, by rw [e]; exact (same_new hD).sqT L2⟩) ?_ ?_⟩
    · rintro D i x ys Hc hD hi ⟨rfl, rfl⟩
      have hi' : i < l.st.length := by have := (List.getElem?_eq_some_iff.mp hi).1; rwa [List.length_map] at this
      rw [get_nums hi'] at hi
      cases hi
      have hm := List.getElem_mem hi'
      have hv : l.st.getD i 0 = l.st[i] := by rw [List.getD_eq_getElem?_getD, List.getElem?_eq_getElem hi']; rfl
      obtain ⟨x0, x1⟩ := hst _ hm
      rw [hv]
      refine ⟨_, rfl, l.st[i].toNat, nat_int x0, by omega, upd_same, ?_, ?_, ?_⟩
      · rw [List.length_map, List.length_take]
        exact ln (by omega)
      · rw [List.take_succ_eq_append_getElem hi', List.map_append]
        rfl
      · rw [upd_upd]
    · rintro D ys Hc hD ⟨rfl, rfl⟩
      rw [List.length_map, List.take_length]
      have sD := same_new (o := .lst (l.st.map fun x => vS (dg x.toNat))) hD
      refine ⟨_, D, (l.st.map fun x => dg x.toNat).map S, rfl, rfl, ?_, ?_, ?_⟩
      · rw [List.map_map, List.map_map]
        exact SqL.of upd_same
      · have := sum_len 90 (l.st.map fun x => dg x.toNat) fun p hp => by
          obtain ⟨x, hx, rfl⟩ := List.mem_map.mp hp
          have := hst x hx
          exact num_len (by omega)
        rw [List.length_map] at this
        rw [List.length_map, List.length_map, show (("." : Str)).length = 1 by decide +kernel]
        omega
      · rw [dot_S, glued_S]
        have L1' := sD.sqT L1
        refine ⟨rfl, _, rfl, a, _, 0, _, rfl, rfl, L1', rfl, l.s, rfl, by omega, _, rfl, ln (by show 2 ≤ 100000; decide), fun p hp => ?_⟩
        have sp := same_new (o := .lst [vS (dg l.s), vS (stampL l.st)]) hp
        refine ⟨_, rfl, a, _, 2, _, rfl, rfl, sp.sqT L1', rfl, c, l.w, rfl, (L3.imm sD.imm).imm sp.imm, G.okBig, fun p2 H2 s2 e2 => ?_⟩
        refine ⟨p, p2, _, _, rfl, rfl, s2 _ _ upd_same, e2, ?_, fun p3 h3 => ?_⟩
        · have := words_many l
          unfold wordsL at this
          rw [List.length_map]
          exact ln (by show 2 + (whatL l.w).length ≤ 100000; simp at this; omega)
        · refine ⟨_, p3, (wordsL l).map S, rfl, rfl, ?_, ?_, ?_⟩
          · rw [List.map_map]
            exact SqL.of upd_same
          · have h1 := sum_len 1092 (wordsL l) (words_len G)
            have h2 := words_many l
            have h4 : (wordsL l).length * 1092 ≤ 5 * 1092 := Nat.mul_le_mul_right _ h2
            rw [List.length_map, show ((" " : Str)).length = 1 by decide +kernel]
            omega
          · rw [sp_S, glued_S]
            exact q _ (((sD.trans sp).trans s2).trans (same_new h3))
end
end Of

end

section
set_option Elab.async false
set_option linter.all false
set_option maxRecDepth 100000
set_option maxHeartbeats 4000000
seal L2.PE L2.PT L2.PW L2.PA L2.PS L2.PSs L2.PG L2.PGs L2.PI L3.PTs L2.PO L2.CallR L2.OpR L2.IxR L2.MtR L2.PSet L2.SlR
namespace Of
open PySem L2 L3 L4 Tx
/-! ### letters read -/
/-- the classes of the refusals -/
structure Exl (K : PySem.W.Frag) (mg : Str → Option Value) (CL : Addr) : Prop where
  nolet : mg "NoLetter" = some (.ref CL)
  oL : ExcOf K CL
def asc (l : List Nat) : Prop := ∀ c ∈ l, c < 128
def spIsNum (K : PySem.W.Frag) : Sp := fun vs H Q _ => ∃ z : Str, vs = [.str z] ∧ z.length ≤ 10000 ∧ ∀ H' : Hp, Same H H' → Q (.bl (isNum (cd z))) H'
def spNum (K : PySem.W.Frag) (CL : Addr) : Sp := fun vs H Q E => ∃ z : Str, vs = [.str z] ∧ z.length ≤ 10000 ∧ (∀ n : Nat, num (cd z) = some n → ∀ H' : Hp, Same H H' → Q (.int n) H') ∧ (num (cd z) = none → ∀ H' : Hp, Same H H' → E (.ref CL) none H')
def spWhatIn (K : PySem.W.Frag) (CL : Addr) : Sp := fun vs H Q E => ∃ (a : Addr) (ws : List (List Nat)), vs = [.ref a] ∧ SqL K H a (ws.map vS) ∧ ws ≠ [] ∧ (∀ l ∈ ws, l.length ≤ 10000 ∧ asc l) ∧
  (∀ wh : What, what? ws = some wh → ∀ (c : Addr) (H' : Hp), Same H H' → WhatAt K H' c wh → Q (.ref c) H') ∧ (what? ws = none → ∀ H' : Hp, Same H H' → E (.ref CL) none H')
def spStamped (K : PySem.W.Frag) : Sp := fun vs H Q _ => ∃ (s : Nat) (b : Addr) (st : List Int), vs = [.int s, .ref b] ∧ SqT K H b (nums st) ∧ Q (.bl (stampedB s st)) H
def spOthers (K : PySem.W.Frag) : Sp := fun vs H Q _ => ∃ (c : Addr) (wh : What) (s n : Int), vs = [.ref c, .int s, .int n] ∧ WhatAt K H c wh ∧ Q (.bl (othersB s n wh)) H
def spRead (K : PySem.W.Frag) (CL : Addr) : Sp := fun vs H Q E => ∃ z : Str, vs = [.str z] ∧ z.length ≤ 10000 ∧ asc (cd z) ∧
  (∀ l : Let, readL (cd z) = some l → ∀ (a : Addr) (H' : Hp), Same H H' → LetAt K H' a l → Q (.ref a) H') ∧ (readL (cd z) = none → ∀ H' : Hp, Same H H' → E (.ref CL) none H')
theorem dec_S {z : Str} {l : List Nat} : decide (V.str z = V.str (S l)) = decide (cd z = l) := by
  rw [decide_eq_decide]
  constructor
  · intro h
    have h : z = S l := V.str.inj h
    rw [h]
  · intro h
    rw [← h, S_cd]
theorem empty_S : ("" : Str) = S [] := by decide +kernel
theorem zero_S : ("0" : Str) = S [48] := by decide +kernel
theorem one_S (c : Nat) : decide (V.str ⟨#[c]⟩ = V.str (S [48])) = decide (c = 48) := by
  have := dec_S (z := ⟨#[c]⟩) (l := [48])
  rw [this, decide_eq_decide]
  show [c] = [48] ↔ c = 48
  simp
theorem cd_len (z : Str) : (cd z).length = z.length := by simp [Str.length]
theorem strs_data : ∀ {K : PySem.W.Frag} {H : Hp} (ws : List (List Nat)), RepDs K H (ws.map fun l => .str (S l)) (ws.map vS)
  | _, _, [] => by simp only [List.map_nil, RepDs]
  | _, _, l :: ws => by
    simp only [List.map_cons, RepDs, RepD]
    exact ⟨_, _, rfl, rfl, strs_data ws⟩
theorem strs_lay : ∀ {ws : List (List Nat)}, (∀ l ∈ ws, asc l) → PyData.canLayAll0 (ws.map fun l => .str (S l)) = true
  | [], _ => rfl
  | l :: ws, h => by
    rw [List.map_cons]
    show (PyData.strOk (S l) && PyData.canLayAll0 _) = true
    rw [strs_lay fun x hx => h x (List.mem_cons_of_mem _ hx), Bool.and_true]
    unfold PyData.strOk
    have := h l List.mem_cons_self
    simp only [List.all_toArray, List.all_eq_true, decide_eq_true_eq]
    intro c hc
    have := this c hc
    omega
theorem strs_depth (ws : List (List Nat)) : PyData.depthAll (ws.map fun l => .str (S l)) = 0 := by
  induction ws with
  | nil => rfl
  | cons l ws ih =>
    rw [List.map_cons]
    show max (PyData.depth (.str (S l))) (PyData.depthAll _) = 0
    rw [ih]
    rfl
theorem eqv_cut (ws : List (List Nat)) : PyData.eqv (.list (ws.map fun l => .str (S l))) (.list [.str "cut"]) = decide (ws = [cutC]) := by
  rw [cut_S]
  cases ws with
  | nil => rfl
  | cons l r =>
    cases r with
    | nil =>
      show ((S l == S cutC) && true) = decide ([l] = [cutC])
      rw [Bool.and_true, Bool.eq_iff_iff, beq_iff_eq, decide_eq_true_eq]
      exact ⟨fun h => by rw [S_inj h], fun h => by rw [(List.cons.inj h).1]⟩
    | cons m r =>
      show ((S l == S cutC) && false) = decide (l :: m :: r = [cutC])
      rw [Bool.and_false, decide_eq_false]
      intro h
      have := congrArg List.length h
      simp at this
section
variable {P : Program} {w : World} {K : PySem.W.Frag} {mg : Str → Option Value} {base : Heap} {fF fW fI fN CL CE CP CN : Addr} {tk : Tok}
theorem oIn : ownB ["text"] (defScope sIsNumber) = true := by decide +kernel
theorem scIn : FnScope ["text"] ["text"] (defScope sIsNumber) := ⟨rfl, rfl, rfl, by decide +kernel, rfl, by decide +kernel, by decide +kernel⟩
theorem ok_isnum {f : Addr} {fd : FuncData} (F : Fun K "is_number" "is_number" sIsNumber f fd) (mFig : mg "FIGURES" = some (.str FIG tk)) (mAll : mg "all" = none) : FnOk P w K mg base CX0 1 f fd ["text"] (spIsNum K) := by
  refine okB (body := [stm sIsNumber 0, stm sIsNumber 1]) F scIn (fun vs H Q E h => ?_) (by kernel_rfl) (fun cdv A outer s H vs Q E hr h => ?_)
  · obtain ⟨z, rfl, _⟩ := h
    rfl
  · obtain ⟨z, rfl, hz, q⟩ := h
    have hlen := cd_len z
    refine ⟨_, (pss_cons (ps_if (PW.pt (pw_or (pt_cmpR op_eq (oV oIn 0) pe_str (nomark _)) (pw_or1 (pt_not (pt_val (cB (call_all rfl) mAll boot_all (aC (eC [] [] rfl (L10.pi_str (oV oIn 0)) (fun _ _ _ _ _ => pts_nil) (fun _ _ _ _ _ => (pe_cmpR op_in_str (sV 0) (L10.nS mFig) (by rfl)))) pa_nil)))))))
        (pss_one (ps_ret pe_bl))
        pss_nil)
      (pss_one (ps_ret (pe_or (pe_cmpR op_eq (oV oIn 0) pe_str (nomark _)) (pe_one (pe_cmpR op_ne (iX ix_str (oV oIn 0) pe_int) pe_str (nomark _))))))), ?_⟩
    refine ⟨_, rfl, rfl, _, rfl, ?_⟩
    rw [empty_S, dec_S]
    cases hcd : cd z with
    | nil =>
      rw [hcd] at q
      exact iteT (iteT (q H (Same.refl H)))
    | cons c r =>
      rw [hcd] at q
      refine iteF ⟨_, rfl, _, rfl, L10.comp_str (fun D i ys Hc => ys = (((cd z).take i).map fun c => V.bl (isD c)) ∧ Hc = upd H D (.lst ys)) (fun D hD => ⟨rfl, rfl⟩) (fun D i ys Hc hD _ ⟨_, e⟩ => by rw [e]; exact upd_same) ?_ ?_⟩
      · rintro D i d ys Hc hD hi ⟨rfl, rfl⟩
        have hi' := (List.getElem?_eq_some_iff.mp hi).1
        refine ⟨_, rfl, _, _, rfl, rfl, ?_⟩
        rw [fig_in]
        refine ⟨upd_same, ?_, ?_, ?_⟩
        · rw [List.length_map, List.length_take]
          exact ln (by omega)
        · rw [List.take_succ, hi, List.map_append]
          rfl
        · rw [upd_upd]
      · rintro D ys Hc hD ⟨rfl, rfl⟩
        have e : ((cd z).take z.cps.size).map (fun c => V.bl (isD c)) = ((cd z).map isD).map V.bl := by
          rw [List.take_of_length_le (by simp), List.map_map]
          rfl
        have sD := same_new (o := .lst (((cd z).take z.cps.size).map fun c => V.bl (isD c))) hD
        have hSq : SqL K (upd H D (.lst (((cd z).take z.cps.size).map fun c => V.bl (isD c)))) D (((cd z).map isD).map V.bl) := by
          rw [← e]
          exact SqL.of upd_same
        generalize upd H D (.lst (((cd z).take z.cps.size).map fun c => V.bl (isD c))) = Hd at sD hSq
        refine ⟨D, (cd z).map isD, rfl, hSq, _, rfl, ?_⟩
        rw [List.all_map, hcd]
        show if (!(c :: r).all isD) = true then _ else _
        cases hall : (c :: r).all isD with
        | false =>
          refine iteT ?_
          have := q _ sD
          rw [show isNum (c :: r) = false by unfold isNum; rw [hall]; simp] at this
          exact this
        | true =>
          refine iteF ⟨_, rfl, rfl, _, rfl, ?_⟩
          rw [zero_S, dec_S, hcd]
          have hq := q _ sD
          have hN : isNum (c :: r) = (decide (c :: r = [48]) || !decide (c = 48)) := by
            unfold isNum
            rw [hall]
            by_cases h1 : c = 48
            · subst h1
              cases r <;> simp
            · simp [h1]
          rw [hN] at hq
          cases h0 : decide (c :: r = [48]) with
          | true =>
            rw [h0] at hq
            exact iteT hq
          | false =>
            rw [h0] at hq
            refine iteF ⟨_, rfl, _, 0, c, rfl, rfl, ln (by omega), atI_nat (j := 0) (by rw [show z.cps.toList = c :: r from hcd]; rfl), rfl, ?_⟩
            rw [one_S]
            exact hq
theorem oNi : ownB ["text", "number", "figure"] (defScope sNumberIn) = true := by decide +kernel
theorem scNi : FnScope ["text", "number", "figure"] ["text"] (defScope sNumberIn) := ⟨rfl, rfl, rfl, by decide +kernel, rfl, by decide +kernel, by decide +kernel⟩
theorem val_take {l : List Nat} {i c : Nat} (h : l[i]? = some c) : val (l.take (i + 1)) = val (l.take i) * 10 + (c - 48) := by
  rw [List.take_succ, h]
  exact val_snoc _ _
theorem ok_num {f : Addr} {fd fdI : FuncData} (F : Fun K "number_in" "number_in" sNumberIn f fd) (Z : Exl K mg CL) (mI : mg "is_number" = some (.ref fI)) (FI : Fun K "is_number" "is_number" sIsNumber fI fdI) (bI : Binds K fdI ["text"] []) (mFig : mg "FIGURES" = some (.str FIG tk)) (mAll : mg "all" = none) :
    FnOk P w K mg base (CX1 P w) 2 f fd ["text"] (spNum K CL) := by
  have GI : FnOk P w K mg base CX0 1 fI fdI ["text"] (spIsNum K) := ok_isnum FI mFig mAll
  refine okB1 (body := [stm sNumberIn 0, stm sNumberIn 1, stm sNumberIn 2, stm sNumberIn 3]) F scNi (fun vs H Q E h => ?_) (by kernel_rfl) (fun cdv A outer s H vs Q E hr h => ?_)
  · obtain ⟨z, rfl, _⟩ := h
    rfl
  · obtain ⟨z, rfl, hz, kQ, kE⟩ := h
    refine ⟨_, (pss_cons (ps_if (pt_not (pt_val (cF GI hr mI FI.kp bI .nil pass0 (aC (oV oNi 0) pa_nil))))
        (pss_one (ps_raise throws_cx Z.oL rfl Z.nolet (aC pe_str pa_nil)))
        pss_nil)
      (pss_cons (oS oNi 1 pe_int)
      (pss_cons (PS.nox (ps_for PassesOwn.never rfl (L10.pi_str (oV oNi 0)) (oT oNi 2)
        (pss_one (oS oNi 1 (pe_op op_add (pe_op op_mul (oV oNi 1) pe_int) (L10.mIndex K (L10.nS mFig) (oV oNi 2)))))))
      (pss_one (ps_ret (oV oNi 1)))))), ?_⟩
    refine ⟨_, rfl, z, rfl, hz, fun H1 s1 => ⟨_, rfl, ?_⟩⟩
    cases hN : isNum (cd z) with
    | false =>
      refine iteT ⟨ln (by show 1 ≤ 100000; decide), kE ?_ H1 s1⟩
      unfold num
      rw [hN]
      rfl
    | true =>
      have hall : ∀ c ∈ cd z, isD c = true := fun c hc => by
        unfold isNum at hN
        simp only [Bool.and_eq_true] at hN
        exact List.all_eq_true.mp hN.1.2 c hc
      refine iteF ?_
      refine ⟨_, rfl, _, rfl, L10.for_str (z := z) (fun i σ Hc => ∃ u, Hc = H1 ∧ σ = [some (.str z), some (.int (val ((cd z).take i) : Nat)), u]) ⟨none, rfl, rfl⟩ ?_ ?_⟩
      · rintro i c σ Hc hc ⟨u, rfl, rfl⟩
        refine ⟨_, rfl, _, _, rfl, rfl, cmul (by decide) (by decide), rfl, _, rfl, _, _, _, _, rfl, rfl, fig_ix (hall c (List.mem_of_getElem? hc)), _, _, rfl, rfl, some (.str ⟨#[c]⟩), rfl, ?_⟩
        rw [val_take hc]
        push_cast
        rfl
      · rintro σ Hc ⟨u, rfl, rfl⟩
        refine ⟨_, rfl, ?_⟩
        rw [List.take_of_length_le (by simp)]
        refine kQ _ ?_ _ s1
        unfold num
        rw [hN]
        rfl
theorem oWi : ownB ["words"] (defScope sWhatIn) = true := by decide +kernel
theorem scWi : FnScope ["words"] ["words"] (defScope sWhatIn) := ⟨rfl, rfl, rfl, by decide +kernel, rfl, by decide +kernel, by decide +kernel⟩
theorem ok_whatin {f : Addr} {fd fdN : FuncData} (F : Fun K "what_in" "what_in" sWhatIn f fd) (T : Bts mg) (Z : Exl K mg CL) (mN : mg "number_in" = some (.ref fN)) (FN : Fun K "number_in" "number_in" sNumberIn fN fdN) (bN : Binds K fdN ["text"] []) (GN : FnOk P w K mg base (CX1 P w) 2 fN fdN ["text"] (spNum K CL)) :
    FnOk P w K mg base (CX1 P w) 3 f fd ["words"] (spWhatIn K CL) := by
  refine okB1 (body := [stm sWhatIn 0, stm sWhatIn 1, stm sWhatIn 2]) F scWi (fun vs H Q E h => ?_) (by kernel_rfl) (fun cdv A outer s H vs Q E hr h => ?_)
  · obtain ⟨a, ws, rfl, _⟩ := h
    rfl
  · obtain ⟨a, ws, rfl, ha, hne, hok, kQ, kE⟩ := h
    refine ⟨_, (pss_cons (ps_if (pt_cmpR (op_eqD (n := 10) (room_data hr)) (oV oWi 0) (pe_lst (aC pe_str pa_nil)) (nomark _))
        (pss_one (ps_ret (pe_tup (aC pe_str pa_nil))))
        pss_nil)
      (pss_cons (ps_if (PW.pt (pw_and (pt_cmpR op_eq (iX (ixL K) (oV oWi 0) pe_int) pe_str (nomark _)) (pw_and1 (pt_cmpR op_eq (cB (call_len_seq (X := _)) T.len PySem.boot_len (aC (oV oWi 0) pa_nil)) pe_int (nomark _)))))
        (pss_one (ps_ret (pe_tup (aC pe_str (aC (cF GN hr mN FN.kp bN .nil pass1 (aC (iX (ixL K) (oV oWi 0) pe_int) pa_nil)) (aC (cF GN hr mN FN.kp bN .nil pass1 (aC (iX (ixL K) (oV oWi 0) pe_int) pa_nil)) pa_nil))))))
        pss_nil)
      (pss_one (ps_raise throws_cx Z.oL rfl Z.nolet (aC pe_str pa_nil))))), ?_⟩
    refine ⟨_, rfl, ln (by show 1 ≤ 100000; decide), fun p hp => ?_⟩
    have sp := same_new (o := .lst [.str "cut"]) hp
    have ha1 := sp.seq ha
    refine ⟨.list (ws.map fun l => .str (S l)), .list [.str "cut"], ?_, ?_, strs_lay fun l hl => (hok l hl).2, by decide +kernel, ?_, _, rfl, ?_⟩
    · simp only [RepD]
      exact ⟨a, _, rfl, ha1, strs_data ws⟩
    · simp only [RepD, RepDs]
      exact ⟨p, _, rfl, SqL.of upd_same, _, _, rfl, rfl, rfl⟩
    · show min (PyData.depthAll _ + 1) (PyData.depthAll _ + 1) ≤ 10
      rw [strs_depth]
      exact Nat.le_trans (Nat.min_le_left _ _) (by decide)
    rw [eqv_cut]
    by_cases hc : ws = [cutC]
    · rw [decide_eq_true hc]
      refine iteT ⟨ln (by show 1 ≤ 100000; decide), fun c hcn => ?_⟩
      exact kQ .cut (by unfold what?; rw [if_pos hc]) c _ (sp.trans (same_new hcn)) (SqT.of upd_same)
    · rw [decide_eq_false hc]
      refine iteF ?_
      cases ws with
      | nil => exact absurd rfl hne
      | cons w0 r =>
        refine ⟨_, rfl, a, _, 0, vS w0, rfl, rfl, ha1, atI_nat (j := 0) rfl, rfl, _, rfl, ?_⟩
        rw [pay_S, dec_S]
        show if decide (w0 = payC) = true then _ else _
        by_cases h0 : w0 = payC
        · rw [decide_eq_true h0]
          refine iteT ⟨_, rfl, a, _, rfl, .inl ha1, rfl, _, rfl, ?_⟩
          by_cases h3 : (w0 :: r).length = 3
          · match r, h3 with
            | [w1, w2], _ =>
              subst h0
              refine iteT ⟨_, rfl, a, _, 1, vS w1, rfl, rfl, ha1, rfl, S w1, rfl, ?_, fun n1 e1 H1 s1 => ?_, fun e1 H1 s1 => ?_⟩
              · rw [S_len]
                exact (hok w1 (by simp)).1
              · refine ⟨_, rfl, a, _, 2, vS w2, rfl, rfl, s1.seq ha1, rfl, S w2, rfl, ?_, fun n2 e2 H2 s2 => ?_, fun e2 H2 s2 => ?_⟩
                · rw [S_len]
                  exact (hok w2 (by simp)).1
                · refine ⟨ln (by show 3 ≤ 100000; decide), fun c hcn => kQ (.pay n1 n2) ?_ c _ (((sp.trans s1).trans s2).trans (same_new hcn)) (SqT.of upd_same)⟩
                  unfold what?
                  rw [if_neg hc]
                  show (if payC = payC then _ else _) = _
                  rw [if_pos rfl, show num w1 = some n1 from e1]
                  show (match num w2 with | none => none | some m => some (What.pay n1 m)) = _
                  rw [show num w2 = some n2 from e2]
                · refine kE ?_ _ ((sp.trans s1).trans s2)
                  unfold what?
                  rw [if_neg hc]
                  show (if payC = payC then _ else _) = _
                  rw [if_pos rfl, show num w1 = some n1 from e1]
                  show (match num w2 with | none => none | some m => some (What.pay n1 m)) = _
                  rw [show num w2 = none from e2]
              · refine kE ?_ _ (sp.trans s1)
                unfold what?
                rw [if_neg hc]
                show (if payC = payC then _ else _) = _
                rw [if_pos rfl, show num w1 = none from e1]
          · rw [show decide (V.int (((w0 :: r).map vS).length : Nat) = V.int 3) = false by
              rw [List.length_map]
              refine decide_eq_false fun z => h3 ?_
              have := V.int.inj z
              omega]
            refine iteF ⟨ln (by show 1 ≤ 100000; decide), kE ?_ _ sp⟩
            unfold what?
            rw [if_neg hc]
            match r, h3 with
            | [], _ => rfl
            | [_], _ => rfl
            | [_, _], h => exact absurd rfl h
            | _ :: _ :: _ :: _, _ => rfl
        · rw [decide_eq_false h0]
          refine iteF ⟨ln (by show 1 ≤ 100000; decide), kE ?_ _ sp⟩
          unfold what?
          rw [if_neg hc]
          match r with
          | [] => rfl
          | [_] => rfl
          | [_, _] =>
            show (if w0 = payC then _ else _) = _
            rw [if_neg h0]
          | _ :: _ :: _ :: _ => rfl
theorem oIs : ownB ["sender", "stamp"] (defScope sIsStamped) = true := by decide +kernel
theorem scIs : FnScope ["sender", "stamp"] ["sender", "stamp"] (defScope sIsStamped) := ⟨rfl, rfl, rfl, by decide +kernel, rfl, by decide +kernel, by decide +kernel⟩
theorem ok_stamped {f : Addr} {fd : FuncData} (F : Fun K "is_stamped" "is_stamped" sIsStamped f fd) (T : Bts mg) : FnOk P w K mg base CX0 1 f fd ["sender", "stamp"] (spStamped K) := by
  refine okB (body := [stm sIsStamped 0]) F scIs (fun vs H Q E h => ?_) (by kernel_rfl) (fun cdv A outer s H vs Q E hr h => ?_)
  · obtain ⟨s', b, st, rfl, _⟩ := h
    rfl
  · obtain ⟨s', b, st, rfl, hb, q⟩ := h
    refine ⟨_, (pss_one (ps_ret (pe_and (pe_cmpR op_ge (cB (call_len_seq (X := _)) T.len PySem.boot_len (aC (oV oIs 1) pa_nil)) pe_int (nomark _)) (pe_and (pe_cmpR op_lt (oV oIs 0) (cB (call_len_seq (X := _)) T.len PySem.boot_len (aC (oV oIs 1) pa_nil)) (nomark _)) (pe_one (pe_cmpR op_ge (iX (ixT K) (oV oIs 1) (oV oIs 0)) pe_int (nomark _))))))), ?_⟩
    refine ⟨_, rfl, b, _, rfl, .inr hb, _, _, rfl, rfl, _, rfl, ?_⟩
    unfold stampedB at q
    rw [show decide ((2 : Int) ≤ ((nums st).length : Nat)) = decide (2 ≤ st.length) by rw [List.length_map, decide_eq_decide]; omega]
    cases h2 : decide (2 ≤ st.length) with
    | false => rw [h2] at q; exact iteF q
    | true =>
      rw [h2, Bool.true_and] at q
      refine iteT ⟨_, rfl, _, rfl, b, _, rfl, .inr hb, _, _, rfl, rfl, _, rfl, ?_⟩
      rw [show decide ((s' : Int) < ((nums st).length : Nat)) = decide (s' < st.length) by rw [List.length_map, decide_eq_decide]; omega]
      cases h3 : decide (s' < st.length) with
      | false => rw [h3] at q; exact iteF q
      | true =>
        rw [h3, Bool.true_and] at q
        refine iteT ⟨_, rfl, _, rfl, b, _, _, _, rfl, rfl, hb, atI_nat (get_nums (of_decide_eq_true h3)), _, _, rfl, rfl, ?_⟩
        exact q
theorem oIo : ownB ["what", "sender", "count"] (defScope sIsForOthers) = true := by decide +kernel
theorem scIo : FnScope ["what", "sender", "count"] ["what", "sender", "count"] (defScope sIsForOthers) := ⟨rfl, rfl, rfl, by decide +kernel, rfl, by decide +kernel, by decide +kernel⟩
theorem ok_others {f : Addr} {fd : FuncData} (F : Fun K "is_for_others" "is_for_others" sIsForOthers f fd) : FnOk P w K mg base CX0 1 f fd ["what", "sender", "count"] (spOthers K) := by
  refine okB (body := [stm sIsForOthers 0]) F scIo (fun vs H Q E h => ?_) (by kernel_rfl) (fun cdv A outer s H vs Q E hr h => ?_)
  · obtain ⟨c, wh, s', n, rfl, _⟩ := h
    rfl
  · obtain ⟨c, wh, s', n, rfl, W, q⟩ := h
    refine ⟨_, (pss_one (ps_ret (pe_or (pe_cmpR op_eq (iX (ixT K) (oV oIo 0) pe_int) pe_str (nomark _)) (pe_one (pe_and (pe_cmpR op_ne (iX (ixT K) (oV oIo 0) pe_int) (oV oIo 1) (nomark _)) (pe_one (pe_cmpR op_lt (iX (ixT K) (oV oIo 0) pe_int) (oV oIo 2) (nomark _)))))))), ?_⟩
    cases wh with
    | cut =>
      have W : SqT K H c [.str "cut"] := W
      exact ⟨_, rfl, c, _, 0, _, rfl, rfl, W, rfl, rfl, _, rfl, iteT q⟩
    | pay t m =>
      have W : SqT K H c [.str "pay", .int t, .int m] := W
      refine ⟨_, rfl, c, _, 0, _, rfl, rfl, W, rfl, rfl, _, rfl, ?_⟩
      rw [show decide (V.str "pay" = V.str "cut") = false by decide +kernel]
      refine iteF ⟨_, rfl, c, _, 1, _, rfl, rfl, W, rfl, _, rfl, rfl, _, rfl, ?_⟩
      have q : Q (.bl (!decide (t = s') && decide (t < n))) H := q
      rw [show decide (V.int t = V.int s') = decide (t = s') by rw [decide_eq_decide]; exact ⟨V.int.inj, fun h => by rw [h]⟩]
      cases ht : decide (t = s') with
      | true => rw [ht] at q; exact iteF q
      | false =>
        rw [ht] at q
        exact iteT ⟨_, rfl, c, _, 1, _, rfl, rfl, W, rfl, _, rfl, _, _, rfl, rfl, q⟩
end
end Of

end

section
set_option Elab.async false
set_option linter.all false
set_option maxRecDepth 100000
set_option maxHeartbeats 4000000
seal L2.PE L2.PT L2.PW L2.PA L2.PS L2.PSs L2.PG L2.PGs L2.PI L3.PTs L2.PO L2.CallR L2.OpR L2.IxR L2.MtR L2.PSet L2.SlR
namespace Of
open PySem L2 L3 L4 Tx
section
variable {P : Program} {w : World} {K : PySem.W.Frag} {mg : Str → Option Value} {base : Heap} {fF fW fI fN CL CE CP CN : Addr} {tk : Tok}
theorem mem_join_of {c x : Nat} : ∀ {ps : List (List Nat)} {p : List Nat}, p ∈ ps → x ∈ p → x ∈ joinL c ps
  | [q], p, hp, hx => by
    rw [List.mem_singleton.mp hp] at hx
    exact hx
  | q :: r :: ps, p, hp, hx => by
    rw [joinL]
    rcases List.mem_cons.mp hp with rfl | hp
    · exact List.mem_append_left _ hx
    · exact List.mem_append_right _ (List.mem_cons_of_mem _ (mem_join_of hp hx))
theorem asc_split {c : Nat} {l : List Nat} (h : asc l) : ∀ p ∈ splitL c l, asc p := fun p hp x hx => by
  have hm := StrLaws.join_split (S l) ⟨#[c]⟩
  have := cd_join c (Txt.split (S l) ⟨#[c]⟩)
  rw [hm, split_eq, List.map_map] at this
  have e : (cd ∘ S) = id := rfl
  rw [e, List.map_id] at this
  exact h x (by rw [show l = cd (S l) from rfl, this]; exact mem_join_of hp hx)
theorem oRd : ownB ["line", "parts", "sender", "stamp", "what"] (defScope sRead) = true := by decide +kernel
theorem scRd : FnScope ["line", "parts", "sender", "stamp", "what"] ["line"] (defScope sRead) := ⟨rfl, rfl, rfl, by decide +kernel, rfl, by decide +kernel, by decide +kernel⟩
theorem readW_short : ∀ ws : List (List Nat), ws.length < 3 → readW ws = none
  | [], _ => rfl
  | [_], _ => rfl
  | [_, _], _ => rfl
  | a :: b :: c :: r, h => by
    have : r.length + 3 < 3 := h
    omega
theorem long_ws : ∀ ws : List (List Nat), ¬ ws.length < 3 → ∃ a b c r, ws = a :: b :: c :: r
  | [], h => absurd (by simp) h
  | [_], h => absurd (by simp) h
  | [_, _], h => absurd (by simp) h
  | a :: b :: c :: r, _ => ⟨a, b, c, r, rfl⟩
theorem cut2 (x y : V) (xs : List V) : cutV (x :: y :: xs) (some 2) none = xs := by
  unfold cutV
  rw [HT.sIx_none, show HT.sIx (x :: y :: xs).length 0 (some 2) = min 2 (x :: y :: xs).length from HT.sIx_nat _ _ 2, show min 2 (x :: y :: xs).length = 2 by simp only [List.length_cons]; omega]
  show List.take _ xs = xs
  exact List.take_of_length_le (by simp only [List.length_cons]; omega)
theorem nums_none {ps : List (List Nat)} : ∀ {i : Nat} {p : List Nat}, ps[i]? = some p → num p = none → nums? ps = none := by
  induction ps with
  | nil => intro i p h; simp at h
  | cons q ps ih =>
    intro i p h hn
    cases i with
    | zero =>
      simp at h
      subst h
      simp only [nums?, hn]
    | succ j =>
      have := ih (i := j) (p := p) (by simpa using h) hn
      simp only [nums?, this]
      cases num q <;> rfl
theorem nums_some {ps : List (List Nat)} : ∀ (f : Nat → Nat), (∀ i p, ps[i]? = some p → num p = some (f i)) → nums? ps = some ((List.range ps.length).map f) := by
  induction ps with
  | nil => intro f _; rfl
  | cons q ps ih =>
    intro f h
    have h0 := h 0 q (by simp)
    have h1 := ih (fun i => f (i + 1)) fun i p e => h (i + 1) p (by simpa using e)
    simp only [nums?, h0, h1, List.length_cons, List.range_succ_eq_map, List.map_cons, List.map_map]
    rfl
theorem ok_read {f fI' fO : Addr} {fd fdN fdW fdI fdO : FuncData} (F : Fun K "read" "read" sRead f fd) (T : Bts mg) (Z : Exl K mg CL) (mN : mg "number_in" = some (.ref fN)) (FN : Fun K "number_in" "number_in" sNumberIn fN fdN) (bN : Binds K fdN ["text"] []) (GN : FnOk P w K mg base (CX1 P w) 2 fN fdN ["text"] (spNum K CL))
    (mW : mg "what_in" = some (.ref fW)) (FW : Fun K "what_in" "what_in" sWhatIn fW fdW) (bW : Binds K fdW ["words"] []) (mI : mg "is_stamped" = some (.ref fI')) (FI : Fun K "is_stamped" "is_stamped" sIsStamped fI' fdI) (bI : Binds K fdI ["sender", "stamp"] [])
    (mO : mg "is_for_others" = some (.ref fO)) (FO : Fun K "is_for_others" "is_for_others" sIsForOthers fO fdO) (bO : Binds K fdO ["what", "sender", "count"] []) : FnOk P w K mg base (CX1 P w) 4 f fd ["line"] (spRead K CL) := by
  have GW : FnOk P w K mg base (CX1 P w) 3 fW fdW ["words"] (spWhatIn K CL) := ok_whatin FW T Z mN FN bN GN
  have GI : FnOk P w K mg base CX0 1 fI' fdI ["sender", "stamp"] (spStamped K) := ok_stamped FI T
  have GO : FnOk P w K mg base CX0 1 fO fdO ["what", "sender", "count"] (spOthers K) := ok_others FO
  refine okB1 (body := [stm sRead 0, stm sRead 1, stm sRead 2, stm sRead 3, stm sRead 4, stm sRead 5, stm sRead 6, stm sRead 7]) F scRd (fun vs H Q E h => ?_) (by kernel_rfl) (fun cdv A outer s H vs Q E hr h => ?_)
  · obtain ⟨z, rfl, _⟩ := h
    rfl
  · obtain ⟨z, rfl, hz, ha, kQ, kE⟩ := h
    have hrN := hr.mono (by decide : 2 ≤ 3)
    have hr1 := hr.mono (by decide : 1 ≤ 3)
    have hlen := cd_len z
    refine ⟨_, (pss_cons (oS oRd 1 (L10.mSplit K (oV oRd 0) pe_str))
      (pss_cons (ps_if (pt_cmpR op_lt (cB (call_len_seq (X := _)) T.len PySem.boot_len (aC (oV oRd 1) pa_nil)) pe_int (nomark _))
        (pss_one (ps_raise throws_cx Z.oL rfl Z.nolet (aC pe_str pa_nil)))
        pss_nil)
      (pss_cons (oS oRd 2 (cF GN hrN mN FN.kp bN .nil pass1 (aC (iX (ixL K) (oV oRd 1) pe_int) pa_nil)))
      (pss_cons (oS oRd 3 (cT call_tuple_of T.tuple boot_tup (aC (L10.pe_compX [] [] L10.passC1 (pi_list (L10.mSplit K (iX (ixL K) (oV oRd 1) pe_int) pe_str)) (fun _ _ _ _ _ => (cF GN hrN mN FN.kp bN .nil L10.passB (aC (sV 0) pa_nil)))) pa_nil)))
      (pss_cons (oS oRd 4 (cF GW hr mW FW.kp bW .nil pass1 (aC (pe_slice sl_list (oV oRd 1) (po_some pe_int) po_none) pa_nil)))
      (pss_cons (ps_if (pt_not (pt_val (cF GI hr1 mI FI.kp bI .nil pass0 (aC (oV oRd 2) (aC (oV oRd 3) pa_nil)))))
        (pss_one (ps_raise throws_cx Z.oL rfl Z.nolet (aC pe_str pa_nil)))
        pss_nil)
      (pss_cons (ps_if (pt_not (pt_val (cF GO hr1 mO FO.kp bO .nil pass0 (aC (oV oRd 4) (aC (oV oRd 2) (aC (cB (call_len_seq (X := _)) T.len PySem.boot_len (aC (oV oRd 3) pa_nil)) pa_nil))))))
        (pss_one (ps_raise throws_cx Z.oL rfl Z.nolet (aC pe_str pa_nil)))
        pss_nil)
      (pss_one (ps_ret (pe_tup (aC (oV oRd 2) (aC (oV oRd 3) (aC (oV oRd 4) pa_nil))))))))))))), ?_⟩
    refine ⟨_, rfl, rfl, z, " ", rfl, rfl, by decide +kernel, ?_, fun p hp => ?_⟩
    · have : (10002 : Nat) ≤ sizeLine := by decide +kernel
      omega
    have hsp : Txt.split z " " = (splitL 32 (cd z)).map S := by
      rw [sp_S]
      exact split_eq z 32
    rw [hsp, List.map_map]
    have hq : (V.str ∘ S) = vS := rfl
    rw [hq]
    have hasc := asc_split (c := 32) ha
    have hlens : ∀ x ∈ splitL 32 (cd z), x.length ≤ 10000 := fun x hx => by
      have := splitL_part hx
      omega
    have hmany : (splitL 32 (cd z)).length ≤ 10001 := by
      have := splitL_len (c := 32) (cd z)
      omega
    unfold readL at kQ kE
    generalize splitL 32 (cd z) = ws at kQ kE hasc hlens hmany
    have s1 := same_new (o := .lst (ws.map vS)) hp
    have hP : SqL K (upd H p (.lst (ws.map vS))) p (ws.map vS) := SqL.of upd_same
    refine ⟨_, rfl, p, _, rfl, .inl hP, _, _, rfl, rfl, _, rfl, ?_⟩
    by_cases h3 : ws.length < 3
    · rw [show decide (((ws.map vS).length : Int) < 3) = true by rw [List.length_map]; exact decide_eq_true (by omega)]
      refine iteT ⟨ln (by show 1 ≤ 100000; decide), kE (readW_short ws h3) _ s1⟩
    · rw [show decide (((ws.map vS).length : Int) < 3) = false by rw [List.length_map]; exact decide_eq_false (by omega)]
      refine iteF ?_
      obtain ⟨a, b, c, r, rfl⟩ := long_ws ws h3
      have kQ : ∀ l : Let, read1 a b (c :: r) = some l → ∀ (a : Addr) (H' : Hp), Same H H' → LetAt K H' a l → Q (.ref a) H' := kQ
      have kE : read1 a b (c :: r) = none → ∀ H' : Hp, Same H H' → E (.ref CL) none H' := kE
      generalize hH1 : upd H p (.lst ((a :: b :: c :: r).map vS)) = H1 at s1 hP
      refine ⟨_, rfl, p, _, 0, vS a, rfl, rfl, hP, atI_nat (j := 0) rfl, S a, rfl, by rw [S_len]; exact hlens a (by simp), fun n ea H2 s2 => ?_, fun ea H2 s2 => ?_⟩
      rotate_left
      · refine kE ?_ _ (s1.trans s2)
        unfold read1
        rw [show num a = none from ea]
      have ea : num a = some n := ea
      have kQ2 : ∀ l : Let, read2 n b (c :: r) = some l → ∀ (a : Addr) (H' : Hp), Same H H' → LetAt K H' a l → Q (.ref a) H' := fun l hl => kQ l (by unfold read1; rw [ea]; exact hl)
      have kE2 : read2 n b (c :: r) = none → ∀ H' : Hp, Same H H' → E (.ref CL) none H' := fun hl => kE (by unfold read1; rw [ea]; exact hl)
      clear kQ kE
      have s12 := s1.trans s2
      have hP2 := s2.seq hP
      refine ⟨_, rfl, p, _, 1, vS b, rfl, rfl, hP2, atI_nat (j := 1) rfl, rfl, S b, ".", rfl, rfl, by decide +kernel, ?_, fun p4 hp4 => ?_⟩
      · have : (10002 : Nat) ≤ sizeLine := by decide +kernel
        have := hlens b (by simp)
        rw [S_len]
        omega
      have hsd : Txt.split (S b) "." = (splitL 46 b).map S := by
        rw [dot_S]
        exact split_eq (S b) 46
      rw [hsd, List.map_map, hq]
      have hlb : ∀ x ∈ splitL 46 b, x.length ≤ 10000 := fun x hx => by
        have := splitL_part hx
        have := hlens b (by simp)
        omega
      have hmb : (splitL 46 b).length ≤ 10001 := by
        have := splitL_len (c := 46) b
        have := hlens b (by simp)
        omega
      unfold read2 at kQ2 kE2
      generalize splitL 46 b = qs at kQ2 kE2 hlb hmb
      have s4 := same_new (o := .lst (qs.map vS)) hp4
      have hP4 : SqL K (upd H2 p4 (.lst (qs.map vS))) p4 (qs.map vS) := SqL.of upd_same
      generalize upd H2 p4 (.lst (qs.map vS)) = H4 at s4 hP4
      have s14 := s12.trans s4
      refine ⟨p4, rfl, ⟨_, hP4⟩, comp_list (K := K) (a := p4) (xs := qs.map vS) (fun D i ys Hc => ∃ ns : List Nat, ys = ns.map (fun n => V.int (n : Nat)) ∧ ns.length = i ∧ (∀ (j m : Nat), ns[j]? = some m → ∃ x, qs[j]? = some x ∧ num x = some m) ∧ Same H4 Hc ∧ Hc D = some (.lst ys)) (fun D hD => ⟨[], rfl, rfl, (fun j m h => by simp at h), same_new hD, upd_same⟩) (fun D i ys Hc hD _ ⟨ns, _, _, _, sc, hd⟩ => ⟨hd, sc.seq hP4⟩) ?_ ?_⟩
      · rintro D i x ys Hc hD hi ⟨ns, rfl, hni, hns, sc, hd⟩
        rw [List.getElem?_map] at hi
        obtain ⟨y, hy, rfl⟩ := Option.map_eq_some_iff.mp hi
        have hil := (List.getElem?_eq_some_iff.mp hy).1
        refine ⟨_, rfl, S y, rfl, by rw [S_len]; exact hlb y (List.mem_of_getElem? hy), fun m em H5 s5 => ?_, fun em H5 s5 => ?_⟩
        · refine ⟨s5 _ _ hd, ?_, ns ++ [m], ?_, ?_, ?_, ?_, upd_same⟩
          · rw [List.length_map]
            exact ln (by omega)
          · rw [List.map_append]
            rfl
          · rw [List.length_append, hni]
            rfl
          · intro j k hk
            by_cases hj : j < ns.length
            · rw [List.getElem?_append_left hj] at hk
              exact hns j k hk
            · rw [List.getElem?_append_right (by omega)] at hk
              have e0 : j - ns.length = 0 := by
                cases h0 : j - ns.length with
                | zero => rfl
                | succ q => rw [h0] at hk; simp at hk
              rw [e0] at hk
              have hm : m = k := by simpa using hk
              subst hm
              exact ⟨y, by rw [show j = i by omega]; exact hy, em⟩
          · intro b' o' h'
            have hne : b' ≠ D := fun z => by rw [z, hD] at h'; cases h'
            rw [upd_ne hne]
            exact s5 _ _ (sc _ _ h')
        · refine kE2 ?_ _ ((s14.trans sc).trans s5)
          rw [nums_none hy (show num y = none from em)]
      · rintro D ys Hc hD ⟨ns, rfl, hni, hns, sc, hd⟩
        rw [List.length_map] at hni
        have hnums : nums? qs = some ns := by
          have := nums_some (ps := qs) (fun i => ns.getD i 0) fun i x hx => by
            have hi := (List.getElem?_eq_some_iff.mp hx).1
            have hi' : i < ns.length := by omega
            obtain ⟨y, hy, hm⟩ := hns i ns[i] (List.getElem?_eq_getElem hi')
            rw [hx] at hy
            cases hy
            rw [hm, List.getD_eq_getElem?_getD, List.getElem?_eq_getElem hi']
            rfl
          rw [this]
          congr 1
          apply List.ext_getElem
          · rw [List.length_map, List.length_range, hni]
          · intro i h1 h2
            rw [List.getElem_map, List.getElem_range, List.getD_eq_getElem?_getD, List.getElem?_eq_getElem h2]
            rfl
        have kQ3 : ∀ l : Let, read3 n ns (c :: r) = some l → ∀ (a : Addr) (H' : Hp), Same H H' → LetAt K H' a l → Q (.ref a) H' := fun l hl => kQ2 l (by rw [hnums]; exact hl)
        have kE3 : read3 n ns (c :: r) = none → ∀ H' : Hp, Same H H' → E (.ref CL) none H' := fun hl => kE2 (by rw [hnums]; exact hl)
        clear kQ2 kE2
        refine ⟨D, _, rfl, .inl ⟨SqL.of hd, fun t ht => ?_⟩⟩
        have s5 := same_new (o := .tup (ns.map fun n => V.int (n : Nat))) ht
        have s15 := (s14.trans sc).trans s5
        have hst : SqT K (upd Hc t (.tup (ns.map fun n => V.int (n : Nat)))) t (nums (ns.map Int.ofNat)) := by
          rw [show nums (ns.map Int.ofNat) = ns.map fun n => V.int (n : Nat) from List.map_map ..]
          exact SqT.of upd_same
        have hP5 : SqL K (upd Hc t (.tup (ns.map fun n => V.int (n : Nat)))) p ((a :: b :: c :: r).map vS) := ((s4.trans sc).trans s5).seq hP2
        generalize upd Hc t (.tup (ns.map fun n => V.int (n : Nat))) = H5 at s15 hst hP5
        refine ⟨_, rfl, _, rfl, p, _, rfl, hP5, fun p6 hp6 => ?_⟩
        have hcut : cutV ((a :: b :: c :: r).map vS) (some 2) none = (c :: r).map vS := cut2 _ _ _
        rw [hcut]
        have s6 := same_new (o := .lst ((c :: r).map vS)) hp6
        refine ⟨p6, c :: r, rfl, SqL.of upd_same, by simp, fun l hl => ⟨hlens l (List.mem_cons_of_mem _ (List.mem_cons_of_mem _ hl)), hasc l (List.mem_cons_of_mem _ (List.mem_cons_of_mem _ hl))⟩, fun wh ew cw H7 s7 hW => ?_, fun ew H7 s7 => ?_⟩
        rotate_left
        · refine kE3 ?_ _ ((s15.trans s6).trans s7)
          unfold read3
          rw [ew]
        have kQ4 : ∀ l : Let, read4 n ns wh = some l → ∀ (a : Addr) (H' : Hp), Same H H' → LetAt K H' a l → Q (.ref a) H' := fun l hl => kQ3 l (by unfold read3; rw [ew]; exact hl)
        have kE4 : read4 n ns wh = none → ∀ H' : Hp, Same H H' → E (.ref CL) none H' := fun hl => kE3 (by unfold read3; rw [ew]; exact hl)
        clear kQ3 kE3
        have s17 := (s15.trans s6).trans s7
        have hst7 := (s6.trans s7).sqT hst
        refine ⟨_, rfl, _, rfl, n, t, _, rfl, hst7, _, rfl, ?_⟩
        unfold read4 at kQ4 kE4
        cases h1 : stampedB n (ns.map Int.ofNat) with
        | false =>
          refine iteT ⟨ln (by show 1 ≤ 100000; decide), kE4 ?_ _ s17⟩
          rw [h1]
          rfl
        | true =>
          rw [h1, if_pos rfl] at kQ4 kE4
          refine iteF ⟨_, rfl, _, rfl, _, rfl, t, _, rfl, .inr hst7, cw, wh, n, _, rfl, hW, _, rfl, ?_⟩
          rw [show (((nums (ns.map Int.ofNat)).length : Nat) : Int) = (ns.length : Int) by rw [List.length_map, List.length_map]]
          cases h2 : othersB n ns.length wh with
          | false =>
            refine iteT ⟨ln (by show 1 ≤ 100000; decide), kE4 ?_ _ s17⟩
            rw [h2]
            rfl
          | true =>
            refine iteF ⟨_, rfl, _, rfl, _, rfl, ln (by show 3 ≤ 100000; decide), fun pl hpl => ?_⟩
            have s8 := same_new (o := .tup [V.int n, .ref t, .ref cw]) hpl
            exact kQ4 ⟨n, ns.map Int.ofNat, wh⟩ (by rw [h2]; rfl) pl _ (s17.trans s8) ⟨t, cw, SqT.of upd_same, s8.sqT hst7, hW.imm s8.imm⟩
end
end Of

end

section
set_option Elab.async false
set_option linter.all false
set_option maxRecDepth 100000
set_option maxHeartbeats 4000000
seal L2.PE L2.PT L2.PW L2.PA L2.PS L2.PSs L2.PG L2.PGs L2.PI L3.PTs L2.PO L2.CallR L2.OpR L2.IxR L2.MtR L2.PSet L2.SlR
namespace Of
open PySem L2 L3 L4 Tx
/-! ### letters drawn -/
theorem both {b : Bool} {D : Ends} {t : TS} {σ : L2.St} {H : Hp} (Pd : L2.St → Hp → Prop) (tail : ∀ σ' H', Pd σ' H' → D.nx σ' H') (h1 : b = true → (∀ σ' H', Pd σ' H' → D.nx σ' H') → t D σ H) (h2 : b = false → Pd σ H) : if b = true then t D σ H else D.nx σ H := by
  cases b with
  | true => rw [if_pos rfl]; exact h1 rfl tail
  | false => rw [if_neg Bool.false_ne_true]; exact tail σ H (h2 rfl)
theorem shift {n u r : Int} (h1 : 0 ≤ u) (h2 : u < n) (h3 : 0 ≤ r) (h4 : r < n - 1) : 0 ≤ (u + 1 + r) % n ∧ (u + 1 + r) % n < n ∧ (u + 1 + r) % n ≠ u := by
  have e1 := Int.emod_nonneg (u + 1 + r) (by omega : n ≠ 0)
  have e2 := Int.emod_lt_of_pos (u + 1 + r) (by omega : 0 < n)
  refine ⟨e1, e2, fun e => ?_⟩
  by_cases h : u + 1 + r < n
  · rw [Int.emod_eq_of_lt (by omega) h] at e; omega
  · have : (u + 1 + r) % n = u + 1 + r - n := by
      rw [← Int.emod_eq_of_lt (a := u + 1 + r - n) (b := n) (by omega) (by omega)]
      exact (Int.sub_emod_right (u + 1 + r) n).symm
    omega
abbrev cnts : List Int := [2, 3, 4, 5, 2, 3, 4, 12]
abbrev tms : List Int := [1, 48271, 1000003, 7, 12345678901]
abbrev mosts : List Int := [1000000000000, 1000000000039, 1000000000061, 1000000000063, 1000000000091]
theorem cnts_ok : ∀ j : Nat, j < 8 → ∃ n : Nat, cnts.getD j 0 = (n : Int) ∧ 2 ≤ n ∧ n ≤ 12 := fun j h => by
  have : ∀ j : Nat, j < 8 → cnts.getD j 0 = ((cnts.getD j 0).toNat : Int) ∧ 2 ≤ (cnts.getD j 0).toNat ∧ (cnts.getD j 0).toNat ≤ 12 := by decide
  exact ⟨_, this j h⟩
theorem tms_ok : ∀ j : Nat, j < 5 → -(2 ^ 64) < tms.getD j 0 ∧ tms.getD j 0 < 2 ^ 64 := by decide
theorem mosts_ok : ∀ j : Nat, j < 5 → 0 < mosts.getD j 0 ∧ mosts.getD j 0 ≤ 1000000000091 := by decide
theorem ix5 (i : Nat) {ns : List Int} (h : ns.length = 5) : atI (nums ns) ((0 + (i : Int)) % 5) = some (.int (ns.getD (i % 5) 0)) := by
  rw [show ((0 + (i : Int)) % 5) = ((i % 5 : Nat) : Int) by omega]
  exact atI_nat (get_nums (by omega))
theorem ixN_nat {n k : Nat} (h : k < n) : ixN n (k : Int) = some k := by
  unfold ixN
  rw [if_pos (by omega)]
  simp [h]
theorem nums_set (ns : List Int) (k : Nat) (x : Int) : (nums ns).set k (.int x) = nums (ns.set k x) := by simp [nums]
theorem mem_set_or {ns : List Int} {k : Nat} {x y : Int} (h : y ∈ ns.set k x) : y ∈ ns ∨ y = x := List.mem_or_eq_of_mem_set h
def spDrawn (K : PySem.W.Frag) : Sp := fun vs H Q _ => ∃ x : Int, vs = [.int x] ∧ ∀ (a : Addr) (l : Let) (H' : Hp), GoodL l → Same H H' → LetAt K H' a l → Q (.ref a) H'
section
variable {P : Program} {w : World} {K : PySem.W.Frag} {mg : Str → Option Value} {base : Heap} {fF fW fI fN CL CE CP CN : Addr} {tk : Tok}
theorem oDl : ownB ["_law_cell", "_law_count", "_law_sender", "_law_stamp", "_law_k", "_law_times", "_law_most", "_law_what", "_law_to"] (defScope sDrawnLetterL) = true := by decide +kernel
theorem scDl : FnScope ["_law_cell", "_law_count", "_law_sender", "_law_stamp", "_law_k", "_law_times", "_law_most", "_law_what", "_law_to"] ["_law_cell"] (defScope sDrawnLetterL) := ⟨rfl, rfl, rfl, by decide +kernel, rfl, by decide +kernel, by decide +kernel⟩
theorem ok_drawn {f : Addr} {fd : FuncData} (F : Fun K "_law_drawn_letter" "_law_drawn_letter" sDrawnLetterL f fd) (T : Bts mg) : FnOk P w K mg base CX0 1 f fd ["_law_cell"] (spDrawn K) := by
  refine okB (body := [stm sDrawnLetterL 0, stm sDrawnLetterL 1, stm sDrawnLetterL 2, stm sDrawnLetterL 3, stm sDrawnLetterL 4, stm sDrawnLetterL 5, stm sDrawnLetterL 6, stm sDrawnLetterL 7]) F scDl (fun vs H Q E h => ?_) (by kernel_rfl) (fun cdv A outer s H vs Q E hr h => ?_)
  · obtain ⟨x, rfl, _⟩ := h
    rfl
  · obtain ⟨x, rfl, q⟩ := h
    refine ⟨_, (pss_cons (oS oDl 1 (iX (ixL K) (pe_lst (aC pe_int (aC pe_int (aC pe_int (aC pe_int (aC pe_int (aC pe_int (aC pe_int (aC pe_int pa_nil))))))))) (pe_op op_mod (pe_op op_mod (pe_op op_mul (oV oDl 0) pe_int) pe_int) pe_int)))
      (pss_cons (oS oDl 2 (pe_op op_mod (pe_op op_mod (pe_op op_mul (oV oDl 0) pe_int) pe_int) (oV oDl 1)))
      (pss_cons (oS oDl 3 (pe_lst pa_nil))
      (pss_cons (ps_for PassesOwn.never rfl (rng1 T.range (aC (oV oDl 1) pa_nil)) (oT oDl 4)
        (pss_cons (oS oDl 5 (iX (ixL K) (pe_lst (aC pe_int (aC pe_int (aC pe_int (aC pe_int (aC pe_int pa_nil)))))) (pe_op op_mod (oV oDl 4) pe_int)))
        (pss_cons (oS oDl 6 (pe_lst (aC pe_int (aC pe_int (aC pe_int (aC pe_int (aC pe_int pa_nil)))))))
        (pss_cons (ps_expr (mApp (oV oDl 3) (pe_op op_mod (pe_op op_add (pe_op op_mul (oV oDl 0) (oV oDl 5)) (pe_op op_fdiv (oV oDl 4) pe_int)) (iX (ixL K) (oV oDl 6) (pe_op op_mod (oV oDl 4) pe_int)))))
        (pss_one (ps_if (pt_cmpR op_eq (pe_op op_mod (pe_op op_mod (pe_op op_mul (pe_op op_add (oV oDl 0) (oV oDl 4)) pe_int) pe_int) pe_int) pe_int (nomark _))
          (pss_one (ps_asg (pe_op op_mul (iX (ixL K) (oV oDl 3) (oV oDl 4)) (cT L6.call_intT T.int boot_it (aC (pe_op op_add_str pe_str (pe_op L10.op_mul70 pe_str pe_int)) pa_nil))) (pg_sub (oV oDl 3) (oV oDl 4) set_list)))
          pss_nil))))))
      (pss_cons (ps_asg (pe_op op_add (iX (ixL K) (oV oDl 3) (oV oDl 2)) pe_int) (pg_sub (oV oDl 3) (oV oDl 2) set_list))
      (pss_cons (oS oDl 7 (pe_tup (aC pe_str pa_nil)))
      (pss_cons (ps_if (pt_cmpR op_gt (pe_op op_mod (pe_op op_mod (pe_op op_mul (oV oDl 0) pe_int) pe_int) pe_int) pe_int (nomark _))
        (pss_cons (oS oDl 8 (pe_op op_mod (pe_op op_add (pe_op op_add (oV oDl 2) pe_int) (pe_op op_mod (pe_op op_mod (pe_op op_mul (oV oDl 0) pe_int) pe_int) (pe_op op_sub (oV oDl 1) pe_int))) (oV oDl 1)))
        (pss_one (oS oDl 7 (pe_tup (aC pe_str (aC (oV oDl 8) (aC (pe_op op_mod (oV oDl 0) (cT L6.call_intT T.int boot_it (aC (pe_op op_add_str pe_str (pe_op L10.op_mul70 pe_str pe_int)) pa_nil))) pa_nil)))))))
        pss_nil)
      (pss_one (ps_ret (pe_tup (aC (oV oDl 2) (aC (cT call_tuple_of T.tuple boot_tup (aC (oV oDl 3) pa_nil)) (aC (oV oDl 7) pa_nil))))))))))))), ?_⟩
    refine ⟨ln (by show 8 ≤ 100000; decide), fun p0 np0 => ?_⟩
    have s0 := same_new (o := .lst (nums cnts)) np0
    obtain ⟨j, hj⟩ := Int.eq_ofNat_of_zero_le (Int.emod_nonneg (x * 48271 % 1013) (by decide : (8 : Int) ≠ 0))
    have hj8 : j < 8 := by have := Int.emod_lt_of_pos (x * 48271 % 1013) (by decide : (0 : Int) < 8); omega
    obtain ⟨n, hn, hn2, hn12⟩ := cnts_ok j hj8
    have hnp : (0 : Int) < (n : Int) := by omega
    refine ⟨_, rfl, _, _, rfl, rfl, cmul (by decide) (by decide), _, _, rfl, rfl, (by show (0 : Int) < 1013; decide), _, _, rfl, rfl, (by show (0 : Int) < 8; decide), p0, _, _, .int n, rfl, rfl, SqL.of (xs := nums cnts) upd_same, ?_, ?_⟩
    · rw [hj, ← hn]
      exact atI_nat (get_nums (show j < cnts.length from hj8))
    refine ⟨_, rfl, _, _, rfl, rfl, cmul (by decide) (by decide), _, _, rfl, rfl, (by show (0 : Int) < 1009; decide), _, rfl, _, _, rfl, rfl, hnp, ?_⟩
    obtain ⟨d, hd⟩ := Int.eq_ofNat_of_zero_le (Int.emod_nonneg (x * 48271 % 1009) (show (n : Int) ≠ 0 by omega))
    have hdn : d < n := by have := Int.emod_lt_of_pos (x * 48271 % 1009) hnp; omega
    dsimp only
    rw [hd]
    refine ⟨ln (by show 0 ≤ 100000; decide), fun p np => ?_⟩
    have s1 := s0.trans (same_new (o := .lst []) np)
    have np' : H p = none := s0.free np
    refine ⟨_, rfl, (n : Int), rfl, by omega, by omega, for_range (n := (n : Int).toNat) (fun i σ Hc => ∃ (st : List Int) (u4 u5 u6 : Option V), σ = [some (.int x), some (.int n), some (.int d), some (.ref p), u4, u5, u6, none, none] ∧ Same H Hc ∧ Hc p = some (.lst (nums st)) ∧ st.length = i ∧ ∀ y ∈ st, 0 ≤ y ∧ y < 10 ^ 89)
      ⟨[], none, none, none, rfl, s1, upd_same, rfl, fun _ h => nomatch h⟩ ?_ ?_⟩
    · rintro i σ Hc hi ⟨st, u4, u5, u6, rfl, e1, e2, e3, e4⟩
      have hi : i < n := by omega
      have hi5 : i % 5 < 5 := Nat.mod_lt _ (by decide)
      obtain ⟨t1, t2⟩ := tms_ok _ hi5
      obtain ⟨m1, m2⟩ := mosts_ok _ hi5
      refine ⟨ln (by show 5 ≤ 100000; decide), fun p1 np1 => ?_⟩
      have f1 := same_new (o := .lst (nums tms)) np1
      refine ⟨_, rfl, _, _, rfl, rfl, (by show (0 : Int) < 5; decide), p1, _, _, _, rfl, rfl, SqL.of (xs := nums tms) upd_same, ix5 i rfl, ?_⟩
      refine ⟨ln (by show 5 ≤ 100000; decide), fun p2 np2 => ?_⟩
      have f2 := f1.trans (same_new (o := .lst (nums mosts)) np2)
      have g2 := e1.trans f2
      have h2 := f2 _ _ e2
      have hm : SqL K (upd (upd Hc p1 (.lst (nums tms))) p2 (.lst (nums mosts))) p2 (nums mosts) := SqL.of upd_same
      generalize hHc : upd (upd Hc p1 (.lst (nums tms))) p2 (.lst (nums mosts)) = Hd
      rw [hHc] at g2 h2 hm
      have hHc' : upd (upd Hc p1 (.lst [.int 1, .int 48271, .int 1000003, .int 7, .int 12345678901])) p2 (.lst [.int 1000000000000, .int 1000000000039, .int 1000000000061, .int 1000000000063, .int 1000000000091]) = Hd := hHc
      rw [hHc']
      refine ⟨_, rfl, .inl ⟨rfl, _, SqL.of h2⟩, _, rfl, _, rfl, _, _, rfl, rfl, cmul t1 t2, _, rfl, _, _, rfl, rfl, ⟨by decide, by decide⟩, _, _, rfl, rfl, _, rfl, _, rfl, _, _, rfl, rfl, (by show (0 : Int) < 5; decide), p2, _, _, _, rfl, rfl, hm, ix5 i rfl, _, _, rfl, rfl, m1, p, _, _, rfl, rfl, h2, ?_, ?_⟩
      · rw [List.length_map, e3]
        exact Nat.lt_of_lt_of_le (show i < 100000 by omega) (ln (Nat.le_refl _))
      have v1 := Int.emod_nonneg (x * tms.getD (i % 5) 0 + (0 + (i : Int)) / 5) (show mosts.getD (i % 5) 0 ≠ 0 by omega)
      have v2 := Int.emod_lt_of_pos (x * tms.getD (i % 5) 0 + (0 + (i : Int)) / 5) m1
      generalize (x * tms.getD (i % 5) 0 + (0 + (i : Int)) / 5) % mosts.getD (i % 5) 0 = v at v1 v2
      have e5 : (nums st ++ [V.int v]) = nums (st ++ [v]) := by simp [nums]
      rw [e5]
      have g3 : Same H (upd Hd p (.lst (nums (st ++ [v])))) := same_upd g2 np'
      have h3 : upd Hd p (.lst (nums (st ++ [v]))) p = some (.lst (nums (st ++ [v]))) := upd_same
      generalize upd Hd p (.lst (nums (st ++ [v]))) = He at g3 h3
      refine ⟨_, rfl, _, rfl, _, _, rfl, rfl, _, _, rfl, rfl, cmul (by decide) (by decide), _, _, rfl, rfl, (by show (0 : Int) < 1087; decide), _, _, rfl, rfl, (by show (0 : Int) < 4; decide), rfl, _, rfl, ?_⟩
      have bnd : ∀ y ∈ st ++ [v], 0 ≤ y ∧ y < 10 ^ 89 := fun y hy => by
        rcases List.mem_append.mp hy with h | h
        · exact e4 y h
        · have h : y = v := by simpa using h
          rw [h]
          exact ⟨v1, by omega⟩
      refine both (fun σ' H' => ∃ (st : List Int) (u4 u5 u6 : Option V), σ' = [some (.int x), some (.int n), some (.int d), some (.ref p), u4, u5, u6, none, none] ∧ Same H H' ∧ H' p = some (.lst (nums st)) ∧ st.length = i + 1 ∧ ∀ y ∈ st, 0 ≤ y ∧ y < 10 ^ 89) (fun σ' H' h => h) ?_ ?_
      · intro _ tail
        have hget : (nums (st ++ [v]))[i]? = some (.int v) := by
          rw [get_nums (by simp [e3])]
          simp [List.getD_eq_getElem?_getD, ← e3]
        refine ⟨_, rfl, _, rfl, p, _, _, .int v, rfl, rfl, SqL.of h3, by rw [Int.zero_add]; exact atI_nat hget, rfl, rfl, _, _, rfl, rfl, by decide +kernel, _, _, rfl, L10.big70, by decide +kernel, _, _, rfl, rfl, .inl ⟨by omega, by omega⟩, _, rfl, _, rfl, p, _, _, i, rfl, rfl, h3, by rw [Int.zero_add, List.length_map]; exact ixN_nat (by simp [e3]), ?_⟩
        refine tail _ _ ⟨(st ++ [v]).set i (v * 10 ^ 70), _, _, _, rfl, same_upd g3 np', ?_, ?_, ?_⟩
        · rw [upd_same, nums_set]
        · rw [List.length_set]
          simp [e3]
        · intro y hy
          rcases mem_set_or hy with h | h
          · exact bnd y h
          · rw [h]
            constructor
            · exact Int.mul_nonneg v1 (by decide)
            · have h1 : v * 10 ^ 70 ≤ 1000000000091 * 10 ^ 70 := Int.mul_le_mul_of_nonneg_right (by omega) (by decide)
              exact Int.lt_of_le_of_lt h1 (by decide)
      · intro _
        exact ⟨st ++ [v], _, _, _, rfl, g3, h3, by simp [e3], bnd⟩
    · rintro σ Hc ⟨st, u4, u5, u6, rfl, e1, e2, e3, e4⟩
      have e3 : st.length = n := by omega
      have hd' : d < st.length := by omega
      have hv := e4 (st.getD d 0) (by rw [List.getD_eq_getElem?_getD, List.getElem?_eq_getElem hd']; exact List.getElem_mem hd')
      refine ⟨_, rfl, _, rfl, p, _, _, .int (st.getD d 0), rfl, rfl, SqL.of e2, atI_nat (get_nums hd'), _, _, rfl, rfl, _, rfl, _, rfl, p, _, _, d, rfl, rfl, e2, by rw [List.length_map]; exact ixN_nat hd', ?_⟩
      rw [nums_set]
      have g3 : Same H (upd Hc p (.lst (nums (st.set d (st.getD d 0 + 1))))) := same_upd e1 np'
      have h3 : upd Hc p (.lst (nums (st.set d (st.getD d 0 + 1)))) p = some (.lst (nums (st.set d (st.getD d 0 + 1)))) := upd_same
      generalize upd Hc p (.lst (nums (st.set d (st.getD d 0 + 1)))) = He at g3 h3
      have good : ∀ wh : What, okWhat d n wh → (∀ t m, wh = .pay t m → t < 10 ^ 90 ∧ m < 10 ^ 90) → GoodL ⟨d, st.set d (st.getD d 0 + 1), wh⟩ := fun wh h1 h2 => by
        have hl : (st.set d (st.getD d 0 + 1)).length = n := by rw [List.length_set, e3]
        refine ⟨by show 2 ≤ (st.set d _).length; omega, by show (st.set d _).length ≤ 12; omega, by show d < (st.set d _).length; omega, ?_, ?_, ?_, h2⟩
        · show 1 ≤ (st.set d (st.getD d 0 + 1)).getD d 0
          rw [List.getD_eq_getElem?_getD, List.getElem?_set_self hd']
          show 1 ≤ st.getD d 0 + 1
          omega
        · intro y hy
          rcases mem_set_or hy with h | h
          · have := e4 y h
            omega
          · omega
        · show okWhat d ((st.set d _).length : Nat) wh
          rw [hl]
          exact h1
      refine ⟨ln (by show 1 ≤ 100000; decide), fun c nc => ?_⟩
      have g4 := g3.trans (same_new (o := .tup [.str "cut"]) nc)
      have h4 := (same_new (o := .tup [.str "cut"]) nc) _ _ h3
      have W4 : WhatAt K (upd He c (.tup [.str "cut"])) c .cut := SqT.of upd_same
      generalize upd He c (.tup [.str "cut"]) = Hf at g4 h4 W4
      refine ⟨_, rfl, _, _, rfl, rfl, cmul (by decide) (by decide), _, _, rfl, rfl, (by show (0 : Int) < 1019; decide), _, _, rfl, rfl, (by show (0 : Int) < 3; decide), _, _, rfl, rfl, _, rfl, ?_⟩
      refine both (fun σ' H' => ∃ (c : Addr) (wh : What) (u4 u5 u6 u8 : Option V), σ' = [some (.int x), some (.int n), some (.int d), some (.ref p), u4, u5, u6, some (.ref c), u8] ∧ Same H H' ∧ H' p = some (.lst (nums (st.set d (st.getD d 0 + 1)))) ∧ WhatAt K H' c wh ∧ okWhat d n wh ∧ ∀ t m, wh = .pay t m → t < 10 ^ 90 ∧ m < 10 ^ 90) ?_ ?_ ?_
      · rintro σ' H' ⟨c, wh, u4, u5, u6, u8, rfl, g5, h5, W5, ok, big⟩
        refine ⟨_, rfl, _, rfl, p, _, rfl, .inl ⟨SqL.of h5, fun t nt => ?_⟩⟩
        have st1 := same_new (o := .tup (nums (st.set d (st.getD d 0 + 1)))) nt
        have T5 : SqT K (upd H' t (.tup (nums (st.set d (st.getD d 0 + 1))))) t (nums (st.set d (st.getD d 0 + 1))) := SqT.of upd_same
        generalize upd H' t (.tup (nums (st.set d (st.getD d 0 + 1)))) = H6 at st1 T5
        refine ⟨_, rfl, ln (by show 3 ≤ 100000; decide), fun a na => ?_⟩
        have st2 := same_new (o := .tup [.int d, .ref t, .ref c]) na
        exact q a _ _ (good wh ok big) ((g5.trans st1).trans st2) ⟨t, c, SqT.of upd_same, st2.sqT T5, (W5.imm st1.imm).imm st2.imm⟩
      · intro _ tail
        refine ⟨_, rfl, _, _, rfl, rfl, _, rfl, _, _, rfl, rfl, cmul (by decide) (by decide), _, _, rfl, rfl, (by show (0 : Int) < 1021; decide), _, rfl, _, _, rfl, rfl, _, _, rfl, rfl, (by show (0 : Int) < (n : Int) - 1; omega), _, _, rfl, rfl, _, rfl, _, _, rfl, rfl, hnp, ?_⟩
        have hsh := shift (n := (n : Int)) (u := (d : Int)) (r := x * 48271 % 1021 % ((n : Int) - 1)) (by omega) (by omega) (Int.emod_nonneg _ (by omega)) (Int.emod_lt_of_pos _ (by omega))
        dsimp only
        generalize ((d : Int) + 1 + x * 48271 % 1021 % ((n : Int) - 1)) % (n : Int) = t at hsh
        refine ⟨_, rfl, _, rfl, rfl, rfl, _, _, rfl, rfl, by decide +kernel, _, _, rfl, L10.big70, by decide +kernel, _, _, rfl, rfl, (by show (0 : Int) < 10 ^ 70; decide), ln (by show 3 ≤ 100000; decide), fun c2 nc2 => ?_⟩
        have m0 := Int.emod_nonneg x (by decide : ((10 : Int) ^ 70) ≠ 0)
        have m1 := Int.emod_lt_of_pos x (by decide : (0 : Int) < 10 ^ 70)
        generalize x % 10 ^ 70 = m at m0 m1
        refine tail _ _ ⟨c2, .pay t m, _, _, _, _, rfl, g4.trans (same_new nc2), (same_new nc2) _ _ h4, SqT.of upd_same, ⟨m0, hsh.1, hsh.2.1, hsh.2.2⟩, fun t' m' e => ?_⟩
        cases e
        exact ⟨by omega, by omega⟩
      · intro _
        exact ⟨c, .cut, _, _, _, _, rfl, g4, h4, W4, trivial, fun t m e => nomatch e⟩
end
end Of

end

section
set_option Elab.async false
set_option linter.all false
set_option maxRecDepth 100000
set_option maxHeartbeats 4000000
seal L2.PE L2.PT L2.PW L2.PA L2.PS L2.PSs L2.PG L2.PGs L2.PI L3.PTs L2.PO L2.CallR L2.OpR L2.IxR L2.MtR L2.PSet L2.SlR
namespace Of
open PySem L2 L3 L4 Tx
/-! ### lines written by the law, bad lines -/
theorem log_ok {x : Int} (h0 : 0 ≤ x) (h : x < 10 ^ 90) : x.natAbs.log2 < 1920 := by
  by_cases hz : x.natAbs = 0
  · rw [hz]
    decide
  · rw [Nat.log2_lt hz]
    have : x.natAbs < 10 ^ 90 := by omega
    exact Nat.lt_of_lt_of_le this (by decide +kernel)
theorem str_S {x : Int} (h0 : 0 ≤ x) : (Str.ofString (toString x)) = S (dg x.toNat) := by
  have := str_dg x.toNat
  rwa [Int.toNat_of_nonneg h0] at this
theorem joinL_snoc (c : Nat) (p : List Nat) : ∀ ps : List (List Nat), joinL c (ps ++ [p]) = if ps = [] then p else joinL c ps ++ c :: p
  | [] => rfl
  | [q] => rfl
  | q :: r :: ps => by
    have := joinL_snoc c p (r :: ps)
    rw [if_neg (by simp)] at this ⊢
    show joinL c (q :: r :: (ps ++ [p])) = _
    rw [joinL]
    show q ++ c :: joinL c ((r :: ps) ++ [p]) = _
    rw [this]
    simp [joinL]
/-- the line as far as the i-th number of the stamp -/
def preL (l : Let) (i : Nat) : List Nat := dg l.s ++ 32 :: joinL 46 ((l.st.take i).map fun x => dg x.toNat)
theorem pre_len {l : Let} (G : GoodL l) (i : Nat) : (preL l i).length ≤ 1200 := by
  have h1 := G.s
  have h2 := G.most
  have h3 : (dg l.s).length ≤ 90 := num_len (by omega)
  have h := joinL_len (c := 46) (B := 90) (ps := (l.st.take i).map fun x => dg x.toNat) fun p hp => by
    obtain ⟨x, hx, rfl⟩ := List.mem_map.mp hp
    have := G.st x (List.mem_of_mem_take hx)
    exact num_len (by omega)
  rw [List.length_map, List.length_take] at h
  unfold preL
  rw [List.length_append, List.length_cons]
  omega
theorem pre_succ {l : Let} {i : Nat} (h : i < l.st.length) : preL l (i + 1) = preL l i ++ (if i = 0 then [] else [46]) ++ dg (l.st.getD i 0).toNat := by
  unfold preL
  have e : l.st.getD i 0 = l.st[i] := by rw [List.getD_eq_getElem?_getD, List.getElem?_eq_getElem h]; rfl
  rw [List.take_succ_eq_append_getElem h, List.map_append]
  show dg l.s ++ 32 :: joinL 46 (_ ++ [dg l.st[i].toNat]) = _
  rw [joinL_snoc, e]
  by_cases h0 : i = 0
  · subst h0
    simp [joinL]
  · rw [if_neg h0, if_neg]
    · simp
    · intro z
      have := congrArg List.length z
      rw [List.length_map, List.length_take] at this
      have : min i l.st.length = 0 := this
      omega
theorem pre_end (l : Let) : preL l l.st.length = dg l.s ++ 32 :: stampL l.st := by
  unfold preL stampL
  rw [List.take_length]
theorem spcut_S : (" cut" : Str) = S (32 :: cutC) := by decide +kernel
theorem sppay_S : (" pay " : Str) = S (32 :: payC ++ [32]) := by decide +kernel
def spWritten (K : PySem.W.Frag) : Sp := fun vs H Q _ => ∃ (a : Addr) (l : Let), vs = [.ref a] ∧ LetAt K H a l ∧ GoodL l ∧ Q (vS (lineL l)) H
def spBad (K : PySem.W.Frag) : Sp := fun vs H Q _ => ∃ x : Int, vs = [.int x] ∧ ∀ (z : Str) (H' : Hp), z ∈ bads → Same H H' → Q (.str z) H'
section
variable {P : Program} {w : World} {K : PySem.W.Frag} {mg : Str → Option Value} {base : Heap} {fF fW fI fN CL CE CP CN : Addr} {tk : Tok}
theorem oWt : ownB ["_law_letter", "_law_line", "_law_k"] (defScope sWrittenL) = true := by decide +kernel
theorem scWt : FnScope ["_law_letter", "_law_line", "_law_k"] ["_law_letter"] (defScope sWrittenL) := ⟨rfl, rfl, rfl, by decide +kernel, rfl, by decide +kernel, by decide +kernel⟩
theorem ok_written {f : Addr} {fd : FuncData} (F : Fun K "_law_written" "_law_written" sWrittenL f fd) (T : Bts mg) : FnOk P w K mg base CX0 1 f fd ["_law_letter"] (spWritten K) := by
  refine okB (body := [stm sWrittenL 0, stm sWrittenL 1, stm sWrittenL 2, stm sWrittenL 3]) F scWt (fun vs H Q E h => ?_) (by kernel_rfl) (fun cdv A outer s H vs Q E hr h => ?_)
  · obtain ⟨a, l, rfl, _⟩ := h
    rfl
  · obtain ⟨a, l, rfl, ⟨b, c, L1, L2, L3⟩, G, q⟩ := h
    have hs := G.s
    have hmost := G.most
    have hst := G.st
    have ho := G.okBig
    refine ⟨_, (pss_cons (oS oWt 1 (pe_op op_add_str (cT call_str_int T.str boot_st (aC (iX (ixT K) (oV oWt 0) pe_int) pa_nil)) pe_str))
      (pss_cons (ps_for PassesOwn.never rfl (rng1 T.range (aC (cB (call_len_seq (X := _)) T.len PySem.boot_len (aC (iX (ixT K) (oV oWt 0) pe_int) pa_nil)) pa_nil)) (oT oWt 2)
        (pss_cons (ps_if (pt_cmpR op_gt (oV oWt 2) pe_int (nomark _))
          (pss_one (oS oWt 1 (pe_op op_add_str (oV oWt 1) pe_str)))
          pss_nil)
        (pss_one (oS oWt 1 (pe_op op_add_str (oV oWt 1) (cT call_str_int T.str boot_st (aC (iX (ixT K) (iX (ixT K) (oV oWt 0) pe_int) (oV oWt 2)) pa_nil)))))))
      (pss_cons (ps_if (pt_cmpR op_eq (iX (ixT K) (iX (ixT K) (oV oWt 0) pe_int) pe_int) pe_str (nomark _))
        (pss_one (ps_ret (pe_op op_add_str (oV oWt 1) pe_str)))
        pss_nil)
      (pss_one (ps_ret (pe_op op_add_str (pe_op op_add_str (pe_op op_add_str (pe_op op_add_str (oV oWt 1) pe_str) (cT call_str_int T.str boot_st (aC (iX (ixT K) (iX (ixT K) (oV oWt 0) pe_int) pe_int) pa_nil))) pe_str) (cT call_str_int T.str boot_st (aC (iX (ixT K) (iX (ixT K) (oV oWt 0) pe_int) pe_int) pa_nil)))))))), ?_⟩
    refine ⟨_, rfl, a, _, 0, _, rfl, rfl, L1, rfl, _, rfl, log_ok (by omega) (by omega), _, _, rfl, rfl, ?_, ?_⟩
    · rw [str_S (by omega), S_len]
      have : (dg (l.s : Int).toNat).length ≤ 90 := num_len (by omega)
      exact ln (by show _ + 1 ≤ 100000; omega)
    have e0 : Str.ofString (toString (l.s : Int)) ++ (" " : Str) = S (preL l 0) := by
      rw [str_S (by omega), sp_S, S_app]
      rfl
    rw [e0]
    refine ⟨_, rfl, a, _, 1, _, rfl, rfl, L1, rfl, b, _, rfl, .inr L2, _, rfl, ?_, ?_, for_range (n := (((nums l.st).length : Nat) : Int).toNat) (fun i σ Hc => ∃ u : Option V, Hc = H ∧ σ = [some (.ref a), some (vS (preL l i)), u]) ⟨none, rfl, rfl⟩ ?_ ?_⟩
    · omega
    · rw [List.length_map]
      omega
    · rintro i σ Hc hi ⟨u, rfl, rfl⟩
      have hi : i < l.st.length := by rw [List.length_map] at hi; omega
      have hpl := pre_len G i
      have hx := hst (l.st.getD i 0) (by rw [List.getD_eq_getElem?_getD, List.getElem?_eq_getElem hi]; exact List.getElem_mem hi)
      have hxl : (dg (l.st.getD i 0).toNat).length ≤ 90 := num_len (by omega)
      have hix : atI (nums l.st) (0 + (i : Int)) = some (.int (l.st.getD i 0)) := by rw [Int.zero_add]; exact atI_nat (get_nums hi)
      refine ⟨_, rfl, _, _, rfl, rfl, _, rfl, ite2 (fun h => ?_) (fun h => ?_)⟩
      · have h0 : i ≠ 0 := by
          intro z
          subst z
          simp at h
        refine ⟨_, rfl, _, _, rfl, rfl, ?_, ?_⟩
        · rw [S_len]
          exact ln (by show _ + 1 ≤ 100000; omega)
        refine ⟨_, rfl, _, rfl, a, _, 1, _, rfl, rfl, L1, rfl, _, rfl, b, _, _, _, rfl, rfl, L2, hix, _, rfl, log_ok hx.1 (by omega), _, _, rfl, rfl, ?_, some (.int (0 + (i : Int))), rfl, ?_⟩
        · rw [str_S hx.1, dot_S, S_app, S_len, S_len, List.length_append]
          exact ln (by show _ + 1 + _ ≤ 100000; omega)
        · rw [str_S hx.1, dot_S, S_app, S_app, pre_succ hi, if_neg h0]
          rfl
      · have h0 : i = 0 := by
          have : ¬ (0 : Int) < 0 + (i : Int) := fun z => h (decide_eq_true z)
          omega
        refine ⟨_, rfl, _, rfl, a, _, 1, _, rfl, rfl, L1, rfl, _, rfl, b, _, _, _, rfl, rfl, L2, hix, _, rfl, log_ok hx.1 (by omega), _, _, rfl, rfl, ?_, some (.int (0 + (i : Int))), rfl, ?_⟩
        · rw [str_S hx.1, S_len, S_len]
          exact ln (by omega)
        · rw [str_S hx.1, S_app, pre_succ hi, if_pos h0, List.append_nil]
          rfl
    · rintro σ Hc ⟨u, rfl, rfl⟩
      have e1 : (((nums l.st).length : Nat) : Int).toNat = l.st.length := by rw [List.length_map]; omega
      rw [e1]
      have hpl := pre_len G l.st.length
      cases hw : l.w with
      | cut =>
        rw [hw] at L3
        have W : SqT K Hc c [.str "cut"] := L3
        refine ⟨_, rfl, a, _, 2, _, rfl, rfl, L1, rfl, c, _, 0, _, rfl, rfl, W, rfl, rfl, _, rfl, iteT ⟨_, rfl, _, _, rfl, rfl, ?_, ?_⟩⟩
        · rw [S_len]
          exact ln (by show _ + 4 ≤ 100000; omega)
        · rw [spcut_S, S_app, pre_end]
          have : lineL l = dg l.s ++ 32 :: stampL l.st ++ 32 :: cutC := by
            unfold lineL wordsL
            rw [hw]
            simp [whatL, joinL]
          rw [this] at q
          exact q
      | pay t m =>
        rw [hw] at L3 ho
        obtain ⟨t0, t1, m0, m1⟩ := ho
        have W : SqT K Hc c [.str "pay", .int t, .int m] := L3
        have htl : (dg t.toNat).length ≤ 90 := num_len (by omega)
        have hml : (dg m.toNat).length ≤ 90 := num_len (by omega)
        refine ⟨_, rfl, a, _, 2, _, rfl, rfl, L1, rfl, c, _, 0, _, rfl, rfl, W, rfl, rfl, _, rfl, ?_⟩
        rw [show decide (V.str "pay" = V.str "cut") = false by decide +kernel]
        refine iteF ⟨_, rfl, _, _, rfl, rfl, ?_, ?_⟩
        · rw [S_len]
          exact ln (by show _ + 5 ≤ 100000; omega)
        rw [sppay_S, S_app]
        refine ⟨_, rfl, a, _, 2, _, rfl, rfl, L1, rfl, c, _, 1, _, rfl, rfl, W, rfl, _, rfl, log_ok t0 t1, _, _, rfl, rfl, ?_, ?_⟩
        · rw [str_S t0, S_len, S_len, List.length_append]
          exact ln (by show _ + 5 + _ ≤ 100000; omega)
        rw [str_S t0, S_app]
        refine ⟨_, _, rfl, rfl, ?_, ?_⟩
        · rw [S_len, List.length_append, List.length_append]
          exact ln (by show _ + 5 + _ + 1 ≤ 100000; omega)
        rw [sp_S, S_app]
        refine ⟨_, rfl, a, _, 2, _, rfl, rfl, L1, rfl, c, _, 2, _, rfl, rfl, W, rfl, _, rfl, log_ok m0 m1, _, _, rfl, rfl, ?_, ?_⟩
        · rw [str_S m0, S_len, S_len, List.length_append, List.length_append, List.length_append]
          exact ln (by show _ + 5 + _ + 1 + _ ≤ 100000; omega)
        · rw [str_S m0, S_app, pre_end]
          have : lineL l = dg l.s ++ 32 :: stampL l.st ++ (32 :: payC ++ [32]) ++ dg t.toNat ++ [32] ++ dg m.toNat := by
            unfold lineL wordsL
            rw [hw]
            simp [whatL, joinL]
          rw [this] at q
          exact q
theorem oBd : ownB ["_law_cell", "_law_lines"] (defScope sBadL) = true := by decide +kernel
theorem scBd : FnScope ["_law_cell", "_law_lines"] ["_law_cell"] (defScope sBadL) := ⟨rfl, rfl, rfl, by decide +kernel, rfl, by decide +kernel, by decide +kernel⟩
theorem ok_bad {f : Addr} {fd : FuncData} (F : Fun K "_law_bad" "_law_bad" sBadL f fd) (T : Bts mg) : FnOk P w K mg base CX0 1 f fd ["_law_cell"] (spBad K) := by
  refine okB (body := [stm sBadL 0, stm sBadL 1, stm sBadL 2, stm sBadL 3, stm sBadL 4, stm sBadL 5]) F scBd (fun vs H Q E h => ?_) (by kernel_rfl) (fun cdv A outer s H vs Q E hr h => ?_)
  · obtain ⟨x, rfl, _⟩ := h
    rfl
  · obtain ⟨x, rfl, q⟩ := h
    refine ⟨_, (pss_cons (oS oBd 1 (pe_lst (aC pe_str (aC pe_str (aC pe_str (aC pe_str (aC pe_str (aC pe_str (aC pe_str (aC pe_str pa_nil))))))))))
      (pss_cons (ps_expr (bM PySem.F.plainAttrs_list PySem.F.slot_list_extend PySem.F.type_list_extend L10.extM (oV oBd 1) (aC (pe_lst (aC pe_str (aC pe_str (aC pe_str (aC pe_str (aC pe_str (aC pe_str pa_nil))))))) pa_nil)))
      (pss_cons (ps_expr (bM PySem.F.plainAttrs_list PySem.F.slot_list_extend PySem.F.type_list_extend L10.extM (oV oBd 1) (aC (pe_lst (aC pe_str (aC pe_str (aC pe_str (aC pe_str (aC pe_str (aC pe_str pa_nil))))))) pa_nil)))
      (pss_cons (ps_expr (bM PySem.F.plainAttrs_list PySem.F.slot_list_extend PySem.F.type_list_extend L10.extM (oV oBd 1) (aC (pe_lst (aC pe_str (aC pe_str (aC pe_str (aC pe_str (aC pe_str pa_nil)))))) pa_nil)))
      (pss_cons (ps_expr (bM PySem.F.plainAttrs_list PySem.F.slot_list_extend PySem.F.type_list_extend L10.extM (oV oBd 1) (aC (pe_lst (aC pe_str (aC pe_str (aC pe_str (aC pe_str (aC pe_str pa_nil)))))) pa_nil)))
      (pss_one (ps_ret (iX (ixL K) (oV oBd 1) (pe_op op_mod (pe_op op_mod (pe_op op_mul (oV oBd 0) pe_int) pe_int) (cB (call_len_seq (X := _)) T.len PySem.boot_len (aC (oV oBd 1) pa_nil))))))))))), ?_⟩
    refine ⟨ln (by show 8 ≤ 100000; decide), fun p np => ?_⟩
    have s0 : Same H (upd H p (.lst [V.str "", V.str "0", V.str "0 1.0", V.str "0 1.0 cut ", V.str " 0 1.0 cut", V.str "0  1.0 cut", V.str "0 1.0 Cut", V.str "0 1.0 cuts"])) := same_new np
    have h0 : upd H p (.lst [V.str "", V.str "0", V.str "0 1.0", V.str "0 1.0 cut ", V.str " 0 1.0 cut", V.str "0  1.0 cut", V.str "0 1.0 Cut", V.str "0 1.0 cuts"]) p = some (.lst [V.str "", V.str "0", V.str "0 1.0", V.str "0 1.0 cut ", V.str " 0 1.0 cut", V.str "0  1.0 cut", V.str "0 1.0 Cut", V.str "0 1.0 cuts"]) := upd_same
    generalize upd H p (.lst [V.str "", V.str "0", V.str "0 1.0", V.str "0 1.0 cut ", V.str " 0 1.0 cut", V.str "0  1.0 cut", V.str "0 1.0 Cut", V.str "0 1.0 cuts"]) = H0 at s0 h0
    refine ⟨_, rfl, .inl ⟨rfl, _, SqL.of h0⟩, ln (by show 6 ≤ 100000; decide), fun q0 nq0 => ?_⟩
    have t0 : Same H0 (upd H0 q0 (.lst [V.str "0 0.1 cut", V.str "2 1.1 cut", V.str "00 1.0 cut", V.str "0 01.0 cut", V.str "0 1. cut", V.str "0 1.0. cut"])) := same_new nq0
    have j0 := t0 _ _ h0
    have u0 := s0.trans t0
    refine ⟨p, q0, _, _, rfl, rfl, j0, upd_same, ln (by show 8 + 6 ≤ 100000; decide), ?_⟩
    have h1 : upd (upd H0 q0 (.lst [V.str "0 0.1 cut", V.str "2 1.1 cut", V.str "00 1.0 cut", V.str "0 01.0 cut", V.str "0 1. cut", V.str "0 1.0. cut"])) p (.lst ([V.str "", V.str "0", V.str "0 1.0", V.str "0 1.0 cut ", V.str " 0 1.0 cut", V.str "0  1.0 cut", V.str "0 1.0 Cut", V.str "0 1.0 cuts"] ++ [V.str "0 0.1 cut", V.str "2 1.1 cut", V.str "00 1.0 cut", V.str "0 01.0 cut", V.str "0 1. cut", V.str "0 1.0. cut"])) p = some (.lst ([V.str "", V.str "0", V.str "0 1.0", V.str "0 1.0 cut ", V.str " 0 1.0 cut", V.str "0  1.0 cut", V.str "0 1.0 Cut", V.str "0 1.0 cuts"] ++ [V.str "0 0.1 cut", V.str "2 1.1 cut", V.str "00 1.0 cut", V.str "0 01.0 cut", V.str "0 1. cut", V.str "0 1.0. cut"])) := upd_same
    have s1 := same_upd (p := p) (o := (.lst ([V.str "", V.str "0", V.str "0 1.0", V.str "0 1.0 cut ", V.str " 0 1.0 cut", V.str "0  1.0 cut", V.str "0 1.0 Cut", V.str "0 1.0 cuts"] ++ [V.str "0 0.1 cut", V.str "2 1.1 cut", V.str "00 1.0 cut", V.str "0 01.0 cut", V.str "0 1. cut", V.str "0 1.0. cut"]))) u0 np
    generalize upd (upd H0 q0 (.lst [V.str "0 0.1 cut", V.str "2 1.1 cut", V.str "00 1.0 cut", V.str "0 01.0 cut", V.str "0 1. cut", V.str "0 1.0. cut"])) p (.lst ([V.str "", V.str "0", V.str "0 1.0", V.str "0 1.0 cut ", V.str " 0 1.0 cut", V.str "0  1.0 cut", V.str "0 1.0 Cut", V.str "0 1.0 cuts"] ++ [V.str "0 0.1 cut", V.str "2 1.1 cut", V.str "00 1.0 cut", V.str "0 01.0 cut", V.str "0 1. cut", V.str "0 1.0. cut"])) = H1 at h1 s1
    refine ⟨_, rfl, .inl ⟨rfl, _, SqL.of h1⟩, ln (by show 6 ≤ 100000; decide), fun q1 nq1 => ?_⟩
    have t1 : Same H1 (upd H1 q1 (.lst [V.str "-0 1.0 cut", V.str "0 1.-1 cut", V.str "a 1.0 cut", V.str "0 1,0 cut", V.str "0 1.0 pay 1", V.str "0 1.0 pay 1 2 3"])) := same_new nq1
    have j1 := t1 _ _ h1
    have u1 := s1.trans t1
    refine ⟨p, q1, _, _, rfl, rfl, j1, upd_same, ln (by show 14 + 6 ≤ 100000; decide), ?_⟩
    have h2 : upd (upd H1 q1 (.lst [V.str "-0 1.0 cut", V.str "0 1.-1 cut", V.str "a 1.0 cut", V.str "0 1,0 cut", V.str "0 1.0 pay 1", V.str "0 1.0 pay 1 2 3"])) p (.lst (([V.str "", V.str "0", V.str "0 1.0", V.str "0 1.0 cut ", V.str " 0 1.0 cut", V.str "0  1.0 cut", V.str "0 1.0 Cut", V.str "0 1.0 cuts"] ++ [V.str "0 0.1 cut", V.str "2 1.1 cut", V.str "00 1.0 cut", V.str "0 01.0 cut", V.str "0 1. cut", V.str "0 1.0. cut"]) ++ [V.str "-0 1.0 cut", V.str "0 1.-1 cut", V.str "a 1.0 cut", V.str "0 1,0 cut", V.str "0 1.0 pay 1", V.str "0 1.0 pay 1 2 3"])) p = some (.lst (([V.str "", V.str "0", V.str "0 1.0", V.str "0 1.0 cut ", V.str " 0 1.0 cut", V.str "0  1.0 cut", V.str "0 1.0 Cut", V.str "0 1.0 cuts"] ++ [V.str "0 0.1 cut", V.str "2 1.1 cut", V.str "00 1.0 cut", V.str "0 01.0 cut", V.str "0 1. cut", V.str "0 1.0. cut"]) ++ [V.str "-0 1.0 cut", V.str "0 1.-1 cut", V.str "a 1.0 cut", V.str "0 1,0 cut", V.str "0 1.0 pay 1", V.str "0 1.0 pay 1 2 3"])) := upd_same
    have s2 := same_upd (p := p) (o := (.lst (([V.str "", V.str "0", V.str "0 1.0", V.str "0 1.0 cut ", V.str " 0 1.0 cut", V.str "0  1.0 cut", V.str "0 1.0 Cut", V.str "0 1.0 cuts"] ++ [V.str "0 0.1 cut", V.str "2 1.1 cut", V.str "00 1.0 cut", V.str "0 01.0 cut", V.str "0 1. cut", V.str "0 1.0. cut"]) ++ [V.str "-0 1.0 cut", V.str "0 1.-1 cut", V.str "a 1.0 cut", V.str "0 1,0 cut", V.str "0 1.0 pay 1", V.str "0 1.0 pay 1 2 3"]))) u1 np
    generalize upd (upd H1 q1 (.lst [V.str "-0 1.0 cut", V.str "0 1.-1 cut", V.str "a 1.0 cut", V.str "0 1,0 cut", V.str "0 1.0 pay 1", V.str "0 1.0 pay 1 2 3"])) p (.lst (([V.str "", V.str "0", V.str "0 1.0", V.str "0 1.0 cut ", V.str " 0 1.0 cut", V.str "0  1.0 cut", V.str "0 1.0 Cut", V.str "0 1.0 cuts"] ++ [V.str "0 0.1 cut", V.str "2 1.1 cut", V.str "00 1.0 cut", V.str "0 01.0 cut", V.str "0 1. cut", V.str "0 1.0. cut"]) ++ [V.str "-0 1.0 cut", V.str "0 1.-1 cut", V.str "a 1.0 cut", V.str "0 1,0 cut", V.str "0 1.0 pay 1", V.str "0 1.0 pay 1 2 3"])) = H2 at h2 s2
    refine ⟨_, rfl, .inl ⟨rfl, _, SqL.of h2⟩, ln (by show 5 ≤ 100000; decide), fun q2 nq2 => ?_⟩
    have t2 : Same H2 (upd H2 q2 (.lst [V.str "0 1.0 pay 0 5", V.str "0 1.0 pay 2 5", V.str "0 1.0 pay 1 05", V.str "0 1.0 pay 1 -5", V.str "0 1.0 pay 1 "])) := same_new nq2
    have j2 := t2 _ _ h2
    have u2 := s2.trans t2
    refine ⟨p, q2, _, _, rfl, rfl, j2, upd_same, ln (by show 20 + 5 ≤ 100000; decide), ?_⟩
    have h3 : upd (upd H2 q2 (.lst [V.str "0 1.0 pay 0 5", V.str "0 1.0 pay 2 5", V.str "0 1.0 pay 1 05", V.str "0 1.0 pay 1 -5", V.str "0 1.0 pay 1 "])) p (.lst ((([V.str "", V.str "0", V.str "0 1.0", V.str "0 1.0 cut ", V.str " 0 1.0 cut", V.str "0  1.0 cut", V.str "0 1.0 Cut", V.str "0 1.0 cuts"] ++ [V.str "0 0.1 cut", V.str "2 1.1 cut", V.str "00 1.0 cut", V.str "0 01.0 cut", V.str "0 1. cut", V.str "0 1.0. cut"]) ++ [V.str "-0 1.0 cut", V.str "0 1.-1 cut", V.str "a 1.0 cut", V.str "0 1,0 cut", V.str "0 1.0 pay 1", V.str "0 1.0 pay 1 2 3"]) ++ [V.str "0 1.0 pay 0 5", V.str "0 1.0 pay 2 5", V.str "0 1.0 pay 1 05", V.str "0 1.0 pay 1 -5", V.str "0 1.0 pay 1 "])) p = some (.lst ((([V.str "", V.str "0", V.str "0 1.0", V.str "0 1.0 cut ", V.str " 0 1.0 cut", V.str "0  1.0 cut", V.str "0 1.0 Cut", V.str "0 1.0 cuts"] ++ [V.str "0 0.1 cut", V.str "2 1.1 cut", V.str "00 1.0 cut", V.str "0 01.0 cut", V.str "0 1. cut", V.str "0 1.0. cut"]) ++ [V.str "-0 1.0 cut", V.str "0 1.-1 cut", V.str "a 1.0 cut", V.str "0 1,0 cut", V.str "0 1.0 pay 1", V.str "0 1.0 pay 1 2 3"]) ++ [V.str "0 1.0 pay 0 5", V.str "0 1.0 pay 2 5", V.str "0 1.0 pay 1 05", V.str "0 1.0 pay 1 -5", V.str "0 1.0 pay 1 "])) := upd_same
    have s3 := same_upd (p := p) (o := (.lst ((([V.str "", V.str "0", V.str "0 1.0", V.str "0 1.0 cut ", V.str " 0 1.0 cut", V.str "0  1.0 cut", V.str "0 1.0 Cut", V.str "0 1.0 cuts"] ++ [V.str "0 0.1 cut", V.str "2 1.1 cut", V.str "00 1.0 cut", V.str "0 01.0 cut", V.str "0 1. cut", V.str "0 1.0. cut"]) ++ [V.str "-0 1.0 cut", V.str "0 1.-1 cut", V.str "a 1.0 cut", V.str "0 1,0 cut", V.str "0 1.0 pay 1", V.str "0 1.0 pay 1 2 3"]) ++ [V.str "0 1.0 pay 0 5", V.str "0 1.0 pay 2 5", V.str "0 1.0 pay 1 05", V.str "0 1.0 pay 1 -5", V.str "0 1.0 pay 1 "]))) u2 np
    generalize upd (upd H2 q2 (.lst [V.str "0 1.0 pay 0 5", V.str "0 1.0 pay 2 5", V.str "0 1.0 pay 1 05", V.str "0 1.0 pay 1 -5", V.str "0 1.0 pay 1 "])) p (.lst ((([V.str "", V.str "0", V.str "0 1.0", V.str "0 1.0 cut ", V.str " 0 1.0 cut", V.str "0  1.0 cut", V.str "0 1.0 Cut", V.str "0 1.0 cuts"] ++ [V.str "0 0.1 cut", V.str "2 1.1 cut", V.str "00 1.0 cut", V.str "0 01.0 cut", V.str "0 1. cut", V.str "0 1.0. cut"]) ++ [V.str "-0 1.0 cut", V.str "0 1.-1 cut", V.str "a 1.0 cut", V.str "0 1,0 cut", V.str "0 1.0 pay 1", V.str "0 1.0 pay 1 2 3"]) ++ [V.str "0 1.0 pay 0 5", V.str "0 1.0 pay 2 5", V.str "0 1.0 pay 1 05", V.str "0 1.0 pay 1 -5", V.str "0 1.0 pay 1 "])) = H3 at h3 s3
    refine ⟨_, rfl, .inl ⟨rfl, _, SqL.of h3⟩, ln (by show 5 ≤ 100000; decide), fun q3 nq3 => ?_⟩
    have t3 : Same H3 (upd H3 q3 (.lst [V.str "0 1.0 pay  5", V.str "0 1.0 pay x 5", V.str "0 1.0 cut 1 5", V.str "0 1.0 pay 01 5", V.str "0 1 cut"])) := same_new nq3
    have j3 := t3 _ _ h3
    have u3 := s3.trans t3
    refine ⟨p, q3, _, _, rfl, rfl, j3, upd_same, ln (by show 25 + 5 ≤ 100000; decide), ?_⟩
    have h4 : upd (upd H3 q3 (.lst [V.str "0 1.0 pay  5", V.str "0 1.0 pay x 5", V.str "0 1.0 cut 1 5", V.str "0 1.0 pay 01 5", V.str "0 1 cut"])) p (.lst (((([V.str "", V.str "0", V.str "0 1.0", V.str "0 1.0 cut ", V.str " 0 1.0 cut", V.str "0  1.0 cut", V.str "0 1.0 Cut", V.str "0 1.0 cuts"] ++ [V.str "0 0.1 cut", V.str "2 1.1 cut", V.str "00 1.0 cut", V.str "0 01.0 cut", V.str "0 1. cut", V.str "0 1.0. cut"]) ++ [V.str "-0 1.0 cut", V.str "0 1.-1 cut", V.str "a 1.0 cut", V.str "0 1,0 cut", V.str "0 1.0 pay 1", V.str "0 1.0 pay 1 2 3"]) ++ [V.str "0 1.0 pay 0 5", V.str "0 1.0 pay 2 5", V.str "0 1.0 pay 1 05", V.str "0 1.0 pay 1 -5", V.str "0 1.0 pay 1 "]) ++ [V.str "0 1.0 pay  5", V.str "0 1.0 pay x 5", V.str "0 1.0 cut 1 5", V.str "0 1.0 pay 01 5", V.str "0 1 cut"])) p = some (.lst (((([V.str "", V.str "0", V.str "0 1.0", V.str "0 1.0 cut ", V.str " 0 1.0 cut", V.str "0  1.0 cut", V.str "0 1.0 Cut", V.str "0 1.0 cuts"] ++ [V.str "0 0.1 cut", V.str "2 1.1 cut", V.str "00 1.0 cut", V.str "0 01.0 cut", V.str "0 1. cut", V.str "0 1.0. cut"]) ++ [V.str "-0 1.0 cut", V.str "0 1.-1 cut", V.str "a 1.0 cut", V.str "0 1,0 cut", V.str "0 1.0 pay 1", V.str "0 1.0 pay 1 2 3"]) ++ [V.str "0 1.0 pay 0 5", V.str "0 1.0 pay 2 5", V.str "0 1.0 pay 1 05", V.str "0 1.0 pay 1 -5", V.str "0 1.0 pay 1 "]) ++ [V.str "0 1.0 pay  5", V.str "0 1.0 pay x 5", V.str "0 1.0 cut 1 5", V.str "0 1.0 pay 01 5", V.str "0 1 cut"])) := upd_same
    have s4 := same_upd (p := p) (o := (.lst (((([V.str "", V.str "0", V.str "0 1.0", V.str "0 1.0 cut ", V.str " 0 1.0 cut", V.str "0  1.0 cut", V.str "0 1.0 Cut", V.str "0 1.0 cuts"] ++ [V.str "0 0.1 cut", V.str "2 1.1 cut", V.str "00 1.0 cut", V.str "0 01.0 cut", V.str "0 1. cut", V.str "0 1.0. cut"]) ++ [V.str "-0 1.0 cut", V.str "0 1.-1 cut", V.str "a 1.0 cut", V.str "0 1,0 cut", V.str "0 1.0 pay 1", V.str "0 1.0 pay 1 2 3"]) ++ [V.str "0 1.0 pay 0 5", V.str "0 1.0 pay 2 5", V.str "0 1.0 pay 1 05", V.str "0 1.0 pay 1 -5", V.str "0 1.0 pay 1 "]) ++ [V.str "0 1.0 pay  5", V.str "0 1.0 pay x 5", V.str "0 1.0 cut 1 5", V.str "0 1.0 pay 01 5", V.str "0 1 cut"]))) u3 np
    generalize upd (upd H3 q3 (.lst [V.str "0 1.0 pay  5", V.str "0 1.0 pay x 5", V.str "0 1.0 cut 1 5", V.str "0 1.0 pay 01 5", V.str "0 1 cut"])) p (.lst (((([V.str "", V.str "0", V.str "0 1.0", V.str "0 1.0 cut ", V.str " 0 1.0 cut", V.str "0  1.0 cut", V.str "0 1.0 Cut", V.str "0 1.0 cuts"] ++ [V.str "0 0.1 cut", V.str "2 1.1 cut", V.str "00 1.0 cut", V.str "0 01.0 cut", V.str "0 1. cut", V.str "0 1.0. cut"]) ++ [V.str "-0 1.0 cut", V.str "0 1.-1 cut", V.str "a 1.0 cut", V.str "0 1,0 cut", V.str "0 1.0 pay 1", V.str "0 1.0 pay 1 2 3"]) ++ [V.str "0 1.0 pay 0 5", V.str "0 1.0 pay 2 5", V.str "0 1.0 pay 1 05", V.str "0 1.0 pay 1 -5", V.str "0 1.0 pay 1 "]) ++ [V.str "0 1.0 pay  5", V.str "0 1.0 pay x 5", V.str "0 1.0 cut 1 5", V.str "0 1.0 pay 01 5", V.str "0 1 cut"])) = H4 at h4 s4
    obtain ⟨j, hj⟩ := Int.eq_ofNat_of_zero_le (Int.emod_nonneg (x * 48271 % 1031) (by decide : (30 : Int) ≠ 0))
    have hj30 : j < 30 := by have := Int.emod_lt_of_pos (x * 48271 % 1031) (by decide : (0 : Int) < 30); omega
    have hb : bads[j]? = some (bads[j]'hj30) := List.getElem?_eq_getElem (show j < bads.length from hj30)
    refine ⟨_, rfl, _, rfl, _, _, rfl, rfl, cmul (by decide) (by decide), _, _, rfl, rfl, (by show (0 : Int) < 1031; decide), _, rfl, p, _, rfl, .inl (SqL.of h4), _, _, rfl, rfl, (by show (0 : Int) < 30; decide), p, _, _, .str (bads[j]'hj30), rfl, rfl, SqL.of h4, ?_, ?_⟩
    · show atI (bads.map V.str) (x * 48271 % 1031 % 30) = _
      rw [hj]
      refine atI_nat ?_
      rw [List.getElem?_map, hb]
      rfl
    · exact q _ _ (List.getElem_mem _) s4
end
end Of

end

set_option Elab.async false
set_option linter.all false
set_option maxRecDepth 100000
set_option maxHeartbeats 4000000
namespace Of
open PySem L2 L3 L4 Tx
/-! ### the law -/
theorem call_isiXT {X : Cx} (a : Addr) (oe : Obj) : CallR (hushE X a oe) (.builtin "isinstance") (fun xs H Q => ∃ C T b, oe.cls = .ref C ∧ ExcAt X.K C ∧ xs = [.ref a, .ty T] ∧ PySem.W.kitOne X.K (.ref C) (.type T) = some b ∧ Q (.bl b) H) := by
  intro pins s σ H xs us Q I r h
  obtain ⟨C, T, b, hc, Z, rfl, e, q⟩ := h
  obtain ⟨u, v, rfl, ru, rv⟩ := vals2 r
  cases (show u = Value.ref a from ru)
  cases (show v = Value.type T from rv)
  have hp := (I.pin (a, oe) (List.mem_append_left _ (List.mem_append_right _ (List.mem_singleton.mpr rfl)))).1
  exact PySem.W.kia_one (kitx_exc Z hc) I.kIn hp e (fun z => nomatch z) fun tk => ⟨.bl b, H, I.tok tk, rfl, q⟩
theorem boot_min : bootBuiltins "min" = some (.builtin "min") := by decide +kernel
theorem boot_ve : bootBuiltins "ValueError" = some (.type "ValueError") := by decide +kernel
/-- the classes of the refusals, as the law asks for them -/
structure Exq (K : PySem.W.Frag) (mg : Str → Option Value) (CL CE CP CN : Addr) : Prop extends Exl K mg CL where
  post : mg "PostError" = some (.ref CE)
  poor : mg "Poor" = some (.ref CP)
  nocut : mg "NoCut" = some (.ref CN)
  ll : excCls K CL CL = true
  le : excCls K CL CE = true
  ex : ExcAt K CL
  nP : PySem.W.kitOne K (.ref CL) (.ref CP) = some false
  nN : PySem.W.kitOne K (.ref CL) (.ref CN) = some false
  vE : PySem.W.kitOne K (.ref CL) (.type "ValueError") = some true
theorem depth_ints : ∀ ns : List Int, PyData.depthAll (intD ns) = 0
  | [] => rfl
  | n :: ns => by
    have := depth_ints ns
    simp only [intD, List.map_cons, PyData.depthAll, PyData.depth] at this ⊢
    rw [this]
    rfl
theorem depth_let (l : Let) : (letD l).depth ≤ 10 := by
  unfold letD
  cases l.w <;> simp [whatD, PyData.depth, PyData.depthAll, depth_ints]
theorem lay_ints : ∀ ns : List Int, PyData.canLayAll0 (intD ns) = true
  | [] => rfl
  | n :: ns => by
    have := lay_ints ns
    simp only [intD, List.map_cons, PyData.canLayAll0, PyData.canLay0, Bool.true_and] at this ⊢
    exact this
theorem lay_let (l : Let) : (letD l).canLay0 = true := by
  unfold letD
  have := lay_ints l.st
  cases l.w with
  | cut =>
    simp only [whatD, PyData.canLay0, PyData.canLayAll0, this, Bool.true_and, Bool.and_true]
    decide +kernel
  | pay t m =>
    simp only [whatD, PyData.canLay0, PyData.canLayAll0, this, Bool.true_and, Bool.and_true]
    decide +kernel
theorem dg_asc (n : Nat) : asc (dg n) := fun c hc => by
  have := isD_iff.mp (List.all_eq_true.mp (dg_isD n) c hc)
  omega
theorem line_asc (l : Let) : asc (lineL l) := fun c hc => by
  rcases mem_joinL hc with h | ⟨p, hp, h⟩
  · omega
  · unfold wordsL at hp
    rcases List.mem_cons.mp hp with rfl | hp
    · exact dg_asc _ c h
    · rcases List.mem_cons.mp hp with rfl | hp
      · rcases mem_joinL h with h | ⟨q, hq, h⟩
        · omega
        · obtain ⟨x, _, rfl⟩ := List.mem_map.mp hq
          exact dg_asc _ c h
      · cases e : l.w with
        | cut =>
          rw [e] at hp
          simp [whatL] at hp
          subst hp
          have : ∀ c ∈ cutC, c < 128 := by decide
          exact this c h
        | pay t m =>
          rw [e] at hp
          simp only [whatL, List.mem_cons, List.not_mem_nil, or_false] at hp
          rcases hp with rfl | rfl | rfl
          · have : ∀ c ∈ payC, c < 128 := by decide
            exact this c h
          · exact dg_asc _ c h
          · exact dg_asc _ c h
theorem bad_asc : ∀ z ∈ bads, ∀ c ∈ cd z, c < 128 := by decide +kernel
def spLaw (K : PySem.W.Frag) : Sp := fun vs H Q _ => ∃ (a : Addr) (ns : List Int), vs = [.ref a] ∧ SqL K H a (nums ns) ∧ ns.length ≤ 63 ∧ ∀ H', Q (.bl true) H'
end Of

section
set_option Elab.async false
set_option linter.all false
set_option maxRecDepth 100000
set_option maxHeartbeats 4000000
seal L2.PE L2.PT L2.PW L2.PA L2.PS L2.PSs L2.PG L2.PGs L2.PI L3.PTs L2.PO L2.CallR L2.OpR L2.IxR L2.MtR L2.PSet L2.SlR
namespace Of
open PySem L2 L3 L4 Tx
section
variable {P : Program} {w : World} {K : PySem.W.Frag} {mg : Str → Option Value} {base : Heap} {fF fW fI fN CL CE CP CN : Addr} {tk : Tok}
theorem oLw : ownB ["_law_script", "_law_k", "_law_cell", "_law_letter", "_law_line", "_law_found", "_law_back", "_law_refused", "_law_just_so", "e"] (defScope sLaw) = true := by decide +kernel
theorem scLw : FnScope ["_law_script", "_law_k", "_law_cell", "_law_letter", "_law_line", "_law_found", "_law_back", "_law_refused", "_law_just_so", "e"] ["_law_script"] (defScope sLaw) := ⟨rfl, rfl, rfl, by decide +kernel, rfl, by decide +kernel, by decide +kernel⟩
theorem ok_law {f fD fWt fS fR fL fB : Addr} {fd fdD fdWt fdS fdR fdL fdB : FuncData} (F : Fun K "law" "law" sLaw f fd) (T : Bts mg) (mMin : mg "min" = none) (mVE : mg "ValueError" = none) (Z : Exq K mg CL CE CP CN)
    (mD : mg "_law_drawn_letter" = some (.ref fD)) (FD : Fun K "_law_drawn_letter" "_law_drawn_letter" sDrawnLetterL fD fdD) (bD : Binds K fdD ["_law_cell"] []) (mWt : mg "_law_written" = some (.ref fWt)) (FWt : Fun K "_law_written" "_law_written" sWrittenL fWt fdWt) (bWt : Binds K fdWt ["_law_letter"] [])
    (mS : mg "shown" = some (.ref fS)) (FS : Fun K "shown" "shown" sShown fS fdS) (bS : Binds K fdS ["letter"] []) (GS : FnOk P w K mg base CX0 3 fS fdS ["letter"] (spShown K)) (mR : mg "read" = some (.ref fR)) (FR : Fun K "read" "read" sRead fR fdR) (bR : Binds K fdR ["line"] []) (GR : FnOk P w K mg base (CX1 P w) 4 fR fdR ["line"] (spRead K CL))
    (mL : mg "_law_are_letters" = some (.ref fL)) (FL : Fun K "_law_are_letters" "_law_are_letters" sAreLetters fL fdL) (bL : Binds K fdL ["_law_found", "_law_count"] []) (GL : FnOk P w K mg base CX0 3 fL fdL ["_law_found", "_law_count"] (spAreLetters K)) (mB : mg "_law_bad" = some (.ref fB)) (FB : Fun K "_law_bad" "_law_bad" sBadL fB fdB) (bB : Binds K fdB ["_law_cell"] []) :
    FnOk P w K mg base CX0 12 f fd ["_law_script"] (spLaw K) := by
  have GD : FnOk P w K mg base CX0 1 fD fdD ["_law_cell"] (spDrawn K) := ok_drawn FD T
  have GWt : FnOk P w K mg base CX0 1 fWt fdWt ["_law_letter"] (spWritten K) := ok_written FWt T
  have GB : FnOk P w K mg base CX0 1 fB fdB ["_law_cell"] (spBad K) := ok_bad FB T
  refine okB (body := [stm sLaw 0, stm sLaw 1]) F scLw (fun vs H Q E h => ?_) (by kernel_rfl) (fun cdv A outer s H vs Q E hr h => ?_)
  · obtain ⟨a, ns, rfl, _⟩ := h
    rfl
  · obtain ⟨a, ns, rfl, hS, hn, q⟩ := h
    have hrD := hr.mono (by decide : 1 ≤ 11)
    have hrS := hr.mono (by decide : 3 ≤ 11)
    have hrR := hr.mono (by decide : 4 ≤ 11)
    refine ⟨_, (pss_cons (ps_for PassesOwn.never rfl (rng1 T.range (aC (cB (call_min2 rfl) mMin boot_min (aC pe_int (aC (cB (call_len_seq (X := _)) T.len PySem.boot_len (aC (oV oLw 0) pa_nil)) pa_nil))) pa_nil)) (oT oLw 1)
        (pss_cons (oS oLw 2 (pe_op op_add (iX (ixL K) (oV oLw 0) (oV oLw 1)) (pe_op op_mul pe_int (oV oLw 1))))
        (pss_cons (oS oLw 3 (cF GD hrD mD FD.kp bD .nil pass0 (aC (oV oLw 2) pa_nil)))
        (pss_cons (oS oLw 4 (cF GWt hrD mWt FWt.kp bWt .nil pass0 (aC (oV oLw 3) pa_nil)))
        (pss_cons (oS oLw 5 (cF GS hrS mS FS.kp bS .nil pass0 (aC (oV oLw 3) pa_nil)))
        (pss_cons (ps_if (PW.pt (pw_or (pt_not (pt_val (cB call_isi T.isinstance boot_isi (aC (oV oLw 5) (aC (nT T.str boot_st) pa_nil))))) (pw_or1 (pt_cmpR op_ne (oV oLw 5) (oV oLw 4) (nomark _)))))
          (pss_one (ps_ret pe_bl))
          pss_nil)
        (pss_cons (oS oLw 6 (cF GR hrR mR FR.kp bR .nil pass10 (aC (oV oLw 4) pa_nil)))
        (pss_cons (ps_if (PW.pt (pw_or (pt_not (pt_val (cF GL hrS mL FL.kp bL .nil pass0 (aC (pe_lst (aC (oV oLw 6) pa_nil)) (aC (cB (call_len_seq (X := _)) T.len PySem.boot_len (aC (iX (ixT K) (oV oLw 3) pe_int) pa_nil)) pa_nil))))) (pw_or1 (pt_cmpR (op_neD (n := 10) (room_data hr)) (oV oLw 6) (oV oLw 3) (nomark _)))))
          (pss_one (ps_ret pe_bl))
          pss_nil)
        (pss_cons (oS oLw 7 pe_int)
        (pss_cons (ps_try Z.nolet (fun pn Ex => (pss_one (ps_expr (cFX GR hrR mR FR.kp bR .nil passS (aC (cF GB hrD mB FB.kp bB .nil pass0 (aC (oV oLw 2) pa_nil)) pa_nil)))))
          (fun v => (pss_one (oS oLw 7 pe_int))))
        (pss_cons (ps_tryAs oLw 9 Z.post (fun pn Ex => (pss_one (ps_expr (cFX GR hrR mR FR.kp bR .nil passS (aC (cF GB hrD mB FB.kp bB .nil pass0 (aC (oV oLw 2) pa_nil)) pa_nil)))))
          (fun a oe => (pss_cons (oS oLw 8 (pe_and (pe_not (cB (call_isiX a oe) T.isinstance boot_isi (aC (oV oLw 9) (aC (nC Z.poor) pa_nil)))) (pe_one (pe_not (cB (call_isiX a oe) T.isinstance boot_isi (aC (oV oLw 9) (aC (nC Z.nocut) pa_nil)))))))
          (pss_one (oS oLw 7 (pe_op op_add (oV oLw 7) (cT call_int1 T.int boot_it (aC (pe_and (cB (call_isiXT a oe) T.isinstance boot_isi (aC (oV oLw 9) (aC (nT mVE boot_ve) pa_nil))) (pe_one (oV oLw 8))) pa_nil))))))))
        (pss_one (ps_if (pt_cmpR op_ne (oV oLw 7) pe_int (nomark _))
          (pss_one (ps_ret pe_bl))
          pss_nil)))))))))))))
      (pss_one (ps_ret pe_bl))), ?_⟩
    have hm : (if (((nums ns).length : Nat) : Int) < 150 then (((nums ns).length : Nat) : Int) else 150) = (ns.length : Int) := by
      rw [List.length_map, if_pos (by omega)]
    refine ⟨_, rfl, a, _, rfl, .inl hS, _, _, rfl, _, rfl, ?_, ?_, for_range (n := (if (((nums ns).length : Nat) : Int) < 150 then (((nums ns).length : Nat) : Int) else 150).toNat) (fun i σ Hc => ∃ u1 u2 u3 u4 u5 u6 u7 u8 u9 : Option V, σ = [some (.ref a), u1, u2, u3, u4, u5, u6, u7, u8, u9] ∧ Same H Hc)
      ⟨none, none, none, none, none, none, none, none, none, rfl, Same.refl H⟩ ?_ ?_⟩
    · rw [hm]
      omega
    · rw [hm]
      omega
    · rintro i σ Hc hi ⟨u1, u2, u3, u4, u5, u6, u7, u8, u9, rfl, sc⟩
      have hi : i < ns.length := by rw [hm] at hi; omega
      have hix : atI (nums ns) (0 + (i : Int)) = some (.int (ns.getD i 0)) := by rw [Int.zero_add]; exact atI_nat (get_nums hi)
      refine ⟨_, rfl, _, rfl, a, _, _, _, rfl, rfl, sc.seq hS, hix, _, rfl, _, _, rfl, rfl, .inl ⟨by decide, by decide⟩, _, _, rfl, rfl, ?_⟩
      dsimp only
      generalize ns.getD i 0 + 11 * (0 + (i : Int)) = x
      refine ⟨_, rfl, x, rfl, fun la l H1 G s1 L => ?_⟩
      refine ⟨_, rfl, la, l, rfl, L, G, ?_⟩
      refine ⟨_, rfl, la, l, rfl, L, G, fun H2 s2 => ?_⟩
      have L2 := L.imm s2.imm
      refine ⟨_, rfl, _, _, _, _, rfl, TyOf.str _, ki_str, _, rfl, iteF ?_⟩
      refine ⟨_, rfl, _, rfl, rfl, _, rfl, iteNS rfl ?_⟩
      refine ⟨_, rfl, S (lineL l), rfl, ?_, line_asc l, fun l' e lb H3 s3 B3 => ?_, fun e => ?_⟩
      · rw [S_len]
        have := line_len G
        omega
      rotate_left
      · have : readL (lineL l) = none := e
        rw [read_line G] at this
        cases this
      have hll : l' = l := by
        have : readL (lineL l) = some l' := e
        rw [read_line G] at this
        exact (Option.some.inj this).symm
      subst hll
      have L3 := L2.imm s3.imm
      refine ⟨_, rfl, ln (by show 1 ≤ 100000; decide), fun pb hpb => ?_⟩
      have s4 := same_new (o := .lst [V.ref lb]) hpb
      have h4 : SqL K (upd H3 pb (.lst [V.ref lb])) pb [V.ref lb] := SqL.of upd_same
      generalize upd H3 pb (.lst [V.ref lb]) = H4 at s4 h4
      have L4 := L3.imm s4.imm
      have B4 := B3.imm s4.imm
      obtain ⟨b, c, M1, M2, M3⟩ := id L4
      refine ⟨_, rfl, la, _, 1, _, rfl, rfl, M1, rfl, b, _, rfl, .inr M2, pb, _, [l'], (nums l'.st).length, rfl, h4, ?_, ?_, _, rfl, iteF ?_⟩
      · exact reps_one (letAt_iff.mpr ⟨lb, rfl, B4⟩)
      · intro l0 hl0
        have hl0 : l0 = l' := by simpa using hl0
        subst hl0
        rw [List.length_map]
        exact ⟨G.s, rfl, fun x hx => (G.st x hx).1, G.w⟩
      refine ⟨_, rfl, _, rfl, letD l', letD l', letAt_iff.mpr ⟨lb, rfl, B4⟩, letAt_iff.mpr ⟨la, rfl, L4⟩, lay_let _, lay_let _, Nat.le_trans (Nat.min_le_left _ _) (depth_let _), _, rfl, ?_⟩
      rw [SeqAt.eqv_refl _ (lay_let _)]
      refine iteF ?_
      have t4 := (((sc.trans s1).trans s2).trans s3).trans s4
      refine ⟨_, rfl, x, rfl, fun z H5 hz s5 => ⟨z, rfl, ?_, bad_asc z hz, fun l0 e => ?_, fun _ H6 s6 => ⟨CL, rfl, Z.ll, ?_⟩⟩⟩
      · have := (bad_none z hz).2
        omega
      · rw [(bad_none z hz).1] at e
        cases e
      refine ⟨_, rfl, x, rfl, fun z' H7 hz' s7 => ⟨z', rfl, ?_, bad_asc z' hz', fun l0 e => ?_, fun _ H8 s8 => ⟨CL, rfl, Z.le, fun ea oe vs hcls hdat => ?_⟩⟩⟩
      · have := (bad_none z' hz').2
        omega
      · rw [(bad_none z' hz').1] at e
        cases e
      refine ⟨_, rfl, CL, CP, false, hcls, Z.ex, rfl, Z.nP, _, rfl, _, rfl, iteT ?_⟩
      refine ⟨_, rfl, CL, CN, false, hcls, Z.ex, rfl, Z.nN, _, rfl, ?_⟩
      refine ⟨_, rfl, _, rfl, CL, "ValueError", true, hcls, Z.ex, rfl, Z.vE, _, rfl, iteT ?_⟩
      refine ⟨_, rfl, .inr ⟨_, rfl, _, _, rfl, rfl, ?_⟩⟩
      refine ⟨_, rfl, rfl, _, rfl, iteNS rfl ?_⟩
      exact ⟨_, _, _, _, _, _, _, _, _, rfl, (((t4.trans s5).trans s6).trans s7).trans s8⟩
    · rintro σ Hc ⟨u1, u2, u3, u4, u5, u6, u7, u8, u9, rfl, sc⟩
      exact q _
end
end Of

end

set_option Elab.async false
set_option linter.all false
set_option maxRecDepth 100000
set_option maxHeartbeats 4000000
namespace Of
open PySem L2 L3 L4 Tx
theorem excCls_of {K : PySem.W.Frag} {C D : Addr} {cd : ClassData} (q : PySem.W.clsIn K D = some cd) (t : PySem.W.typeIn K (.ref D) = some (.type "type")) (u : PySem.W.subIn K (.ref C) (.ref D) = some true) (b : PySem.W.subIn K (.ref D) (.type "BaseException") = some true) : excCls K C D = true := by
  unfold excCls PySem.W.kitCls
  rw [b]
  simp only [q, t, u, Option.isSome_some, Bool.true_and, beq_self_eq_true, if_true]
theorem len_1 {α : Type} {us : List α} (h : us.length = 1) : ∃ x0, us = [x0] := by
  match us, h with
  | [x0], _ => exact ⟨x0, rfl⟩
theorem len_2 {α : Type} {us : List α} (h : us.length = 2) : ∃ x0 x1, us = [x0, x1] := by
  match us, h with
  | [x0, x1], _ => exact ⟨x0, x1, rfl⟩
theorem len_3 {α : Type} {us : List α} (h : us.length = 3) : ∃ x0 x1 x2, us = [x0, x1, x2] := by
  match us, h with
  | [x0, x1, x2], _ => exact ⟨x0, x1, x2, rfl⟩
theorem all_mk {l : PySem.W.OpenLaw} {w : World} {K : PySem.W.Frag} {h : Heap} {mg : Str → Option Value} {fa CP CE CN CL fSh fWo fFg fRd fWi fNi fIn fIs fIo fLW fLI fLL fLD fLt fLB fLw : Addr} {cdL cdE : ClassData} {tk : Tok} (X : K.In h) (G : h.Ns mainGlobals mg) (hfa : mg "law" = some (.ref fa))
    {odSh anSh odWo anWo odFg anFg odRd anRd odWi anWi odNi anNi odIn anIn odIs anIs odIo anIo odLW anLW odLI anLI odLL anLL odLD anLD odLt anLt odLB anLB odLw anLw : Option Addr} {slSh slWo slFg slRd slWi slNi slIn slIs slIo slLW slLI slLL slLD slLt slLB slLw : Array (Option Value)} {ocSh kVSh dcSh pmSh cdSh ctSh ocWo kVWo dcWo pmWo cdWo ctWo ocFg kVFg dcFg pmFg cdFg ctFg ocRd kVRd dcRd pmRd cdRd ctRd ocWi kVWi dcWi pmWi cdWi ctWi ocNi kVNi dcNi pmNi cdNi ctNi ocIn kVIn dcIn pmIn cdIn ctIn ocIs kVIs dcIs pmIs cdIs ctIs ocIo kVIo dcIo pmIo cdIo ctIo ocLW kVLW dcLW pmLW cdLW ctLW ocLI kVLI dcLI pmLI cdLI ctLI ocLL kVLL dcLL pmLL cdLL ctLL ocLD kVLD dcLD pmLD cdLD ctLD ocLt kVLt dcLt pmLt cdLt ctLt ocLB kVLB dcLB pmLB cdLB ctLB ocLw kVLw dcLw pmLw cdLw ctLw : Value}
    (aSh : PySem.W.nsIn K mainGlobals "shown" = some (some (.ref fSh))) (lSh : K.lookup fSh = some ⟨ocSh, odSh, .func (PySem.W.fnOf "shown" "shown" (defArgs sShown) (defBody sShown) (defScope sShown) .none kVSh dcSh pmSh anSh cdSh ctSh), slSh⟩) (cSh : PySem.W.codeIn K cdSh "shown" = true) (kSh : PySem.W.keepIn K (.ref fSh) = true)
    (aWo : PySem.W.nsIn K mainGlobals "words_of" = some (some (.ref fWo))) (lWo : K.lookup fWo = some ⟨ocWo, odWo, .func (PySem.W.fnOf "words_of" "words_of" (defArgs sWordsOf) (defBody sWordsOf) (defScope sWordsOf) .none kVWo dcWo pmWo anWo cdWo ctWo), slWo⟩) (cWo : PySem.W.codeIn K cdWo "words_of" = true) (kWo : PySem.W.keepIn K (.ref fWo) = true)
    (aFg : PySem.W.nsIn K mainGlobals "figures_of" = some (some (.ref fFg))) (lFg : K.lookup fFg = some ⟨ocFg, odFg, .func (PySem.W.fnOf "figures_of" "figures_of" (defArgs sFiguresOf) (defBody sFiguresOf) (defScope sFiguresOf) .none kVFg dcFg pmFg anFg cdFg ctFg), slFg⟩) (cFg : PySem.W.codeIn K cdFg "figures_of" = true) (kFg : PySem.W.keepIn K (.ref fFg) = true)
    (aRd : PySem.W.nsIn K mainGlobals "read" = some (some (.ref fRd))) (lRd : K.lookup fRd = some ⟨ocRd, odRd, .func (PySem.W.fnOf "read" "read" (defArgs sRead) (defBody sRead) (defScope sRead) .none kVRd dcRd pmRd anRd cdRd ctRd), slRd⟩) (cRd : PySem.W.codeIn K cdRd "read" = true) (kRd : PySem.W.keepIn K (.ref fRd) = true)
    (aWi : PySem.W.nsIn K mainGlobals "what_in" = some (some (.ref fWi))) (lWi : K.lookup fWi = some ⟨ocWi, odWi, .func (PySem.W.fnOf "what_in" "what_in" (defArgs sWhatIn) (defBody sWhatIn) (defScope sWhatIn) .none kVWi dcWi pmWi anWi cdWi ctWi), slWi⟩) (cWi : PySem.W.codeIn K cdWi "what_in" = true) (kWi : PySem.W.keepIn K (.ref fWi) = true)
    (aNi : PySem.W.nsIn K mainGlobals "number_in" = some (some (.ref fNi))) (lNi : K.lookup fNi = some ⟨ocNi, odNi, .func (PySem.W.fnOf "number_in" "number_in" (defArgs sNumberIn) (defBody sNumberIn) (defScope sNumberIn) .none kVNi dcNi pmNi anNi cdNi ctNi), slNi⟩) (cNi : PySem.W.codeIn K cdNi "number_in" = true) (kNi : PySem.W.keepIn K (.ref fNi) = true)
    (aIn : PySem.W.nsIn K mainGlobals "is_number" = some (some (.ref fIn))) (lIn : K.lookup fIn = some ⟨ocIn, odIn, .func (PySem.W.fnOf "is_number" "is_number" (defArgs sIsNumber) (defBody sIsNumber) (defScope sIsNumber) .none kVIn dcIn pmIn anIn cdIn ctIn), slIn⟩) (cIn : PySem.W.codeIn K cdIn "is_number" = true) (kIn : PySem.W.keepIn K (.ref fIn) = true)
    (aIs : PySem.W.nsIn K mainGlobals "is_stamped" = some (some (.ref fIs))) (lIs : K.lookup fIs = some ⟨ocIs, odIs, .func (PySem.W.fnOf "is_stamped" "is_stamped" (defArgs sIsStamped) (defBody sIsStamped) (defScope sIsStamped) .none kVIs dcIs pmIs anIs cdIs ctIs), slIs⟩) (cIs : PySem.W.codeIn K cdIs "is_stamped" = true) (kIs : PySem.W.keepIn K (.ref fIs) = true)
    (aIo : PySem.W.nsIn K mainGlobals "is_for_others" = some (some (.ref fIo))) (lIo : K.lookup fIo = some ⟨ocIo, odIo, .func (PySem.W.fnOf "is_for_others" "is_for_others" (defArgs sIsForOthers) (defBody sIsForOthers) (defScope sIsForOthers) .none kVIo dcIo pmIo anIo cdIo ctIo), slIo⟩) (cIo : PySem.W.codeIn K cdIo "is_for_others" = true) (kIo : PySem.W.keepIn K (.ref fIo) = true)
    (aLW : PySem.W.nsIn K mainGlobals "_law_whole" = some (some (.ref fLW))) (lLW : K.lookup fLW = some ⟨ocLW, odLW, .func (PySem.W.fnOf "_law_whole" "_law_whole" (defArgs sWhole) (defBody sWhole) (defScope sWhole) .none kVLW dcLW pmLW anLW cdLW ctLW), slLW⟩) (cLW : PySem.W.codeIn K cdLW "_law_whole" = true) (kLW : PySem.W.keepIn K (.ref fLW) = true)
    (aLI : PySem.W.nsIn K mainGlobals "_law_is_what" = some (some (.ref fLI))) (lLI : K.lookup fLI = some ⟨ocLI, odLI, .func (PySem.W.fnOf "_law_is_what" "_law_is_what" (defArgs sIsWhat) (defBody sIsWhat) (defScope sIsWhat) .none kVLI dcLI pmLI anLI cdLI ctLI), slLI⟩) (cLI : PySem.W.codeIn K cdLI "_law_is_what" = true) (kLI : PySem.W.keepIn K (.ref fLI) = true)
    (aLL : PySem.W.nsIn K mainGlobals "_law_are_letters" = some (some (.ref fLL))) (lLL : K.lookup fLL = some ⟨ocLL, odLL, .func (PySem.W.fnOf "_law_are_letters" "_law_are_letters" (defArgs sAreLetters) (defBody sAreLetters) (defScope sAreLetters) .none kVLL dcLL pmLL anLL cdLL ctLL), slLL⟩) (cLL : PySem.W.codeIn K cdLL "_law_are_letters" = true) (kLL : PySem.W.keepIn K (.ref fLL) = true)
    (aLD : PySem.W.nsIn K mainGlobals "_law_drawn_letter" = some (some (.ref fLD))) (lLD : K.lookup fLD = some ⟨ocLD, odLD, .func (PySem.W.fnOf "_law_drawn_letter" "_law_drawn_letter" (defArgs sDrawnLetterL) (defBody sDrawnLetterL) (defScope sDrawnLetterL) .none kVLD dcLD pmLD anLD cdLD ctLD), slLD⟩) (cLD : PySem.W.codeIn K cdLD "_law_drawn_letter" = true) (kLD : PySem.W.keepIn K (.ref fLD) = true)
    (aLt : PySem.W.nsIn K mainGlobals "_law_written" = some (some (.ref fLt))) (lLt : K.lookup fLt = some ⟨ocLt, odLt, .func (PySem.W.fnOf "_law_written" "_law_written" (defArgs sWrittenL) (defBody sWrittenL) (defScope sWrittenL) .none kVLt dcLt pmLt anLt cdLt ctLt), slLt⟩) (cLt : PySem.W.codeIn K cdLt "_law_written" = true) (kLt : PySem.W.keepIn K (.ref fLt) = true)
    (aLB : PySem.W.nsIn K mainGlobals "_law_bad" = some (some (.ref fLB))) (lLB : K.lookup fLB = some ⟨ocLB, odLB, .func (PySem.W.fnOf "_law_bad" "_law_bad" (defArgs sBadL) (defBody sBadL) (defScope sBadL) .none kVLB dcLB pmLB anLB cdLB ctLB), slLB⟩) (cLB : PySem.W.codeIn K cdLB "_law_bad" = true) (kLB : PySem.W.keepIn K (.ref fLB) = true)
    (aLw : PySem.W.nsIn K mainGlobals "law" = some (some (.ref fLw))) (lLw : K.lookup fLw = some ⟨ocLw, odLw, .func (PySem.W.fnOf "law" "law" (defArgs sLaw) (defBody sLaw) (defScope sLaw) .none kVLw dcLw pmLw anLw cdLw ctLw), slLw⟩) (cLw : PySem.W.codeIn K cdLw "law" = true) (kLw : PySem.W.keepIn K (.ref fLw) = true)
    (aFI : PySem.W.nsIn K mainGlobals "FIGURES" = some (some (.str "0123456789" tk)))
    (z_len : PySem.W.nsIn K mainGlobals "len" = some none)
    (z_range : PySem.W.nsIn K mainGlobals "range" = some none)
    (z_all : PySem.W.nsIn K mainGlobals "all" = some none)
    (z_isinstance : PySem.W.nsIn K mainGlobals "isinstance" = some none)
    (z_int : PySem.W.nsIn K mainGlobals "int" = some none)
    (z_bool : PySem.W.nsIn K mainGlobals "bool" = some none)
    (z_tuple : PySem.W.nsIn K mainGlobals "tuple" = some none)
    (z_list : PySem.W.nsIn K mainGlobals "list" = some none)
    (z_str : PySem.W.nsIn K mainGlobals "str" = some none)
    (z_dict : PySem.W.nsIn K mainGlobals "dict" = some none)
    (z_min : PySem.W.nsIn K mainGlobals "min" = some none)
    (z_ValueError : PySem.W.nsIn K mainGlobals "ValueError" = some none)
    (xCP : PySem.W.nsIn K mainGlobals "Poor" = some (some (.ref CP)))
    (xCE : PySem.W.nsIn K mainGlobals "PostError" = some (some (.ref CE)))
    (xCN : PySem.W.nsIn K mainGlobals "NoCut" = some (some (.ref CN)))
    (xCL : PySem.W.nsIn K mainGlobals "NoLetter" = some (some (.ref CL)))
    (eL : PySem.W.excIn K CL [.type "ValueError", .type "Exception", .type "BaseException", .type "object"] "ValueError.__new__" = true)
    (qL : PySem.W.clsIn K CL = some cdL) (tL : PySem.W.typeIn K (.ref CL) = some (.type "type")) (uL : PySem.W.subIn K (.ref CL) (.ref CL) = some true) (vL : PySem.W.subIn K (.ref CL) (.type "BaseException") = some true)
    (qE : PySem.W.clsIn K CE = some cdE) (tE : PySem.W.typeIn K (.ref CE) = some (.type "type")) (uE : PySem.W.subIn K (.ref CL) (.ref CE) = some true) (vE : PySem.W.subIn K (.ref CE) (.type "BaseException") = some true)
    (g1 : PySem.W.findIn K (.ref CL) "__getattribute__" = some (some (.builtin "BaseException.__getattribute__"))) (g2 : PySem.W.findIn K (.ref CL) "__getattr__" = some none) (g3 : PySem.W.findIn K (.ref CL) "__class__" = some (some (.builtin "object.__class__"))) (g4 : PySem.W.subIn K (.ref CL) (.type "object") = some true)
    (w1 : PySem.W.kitOne K (.ref CL) (.ref CP) = some false) (w2 : PySem.W.kitOne K (.ref CL) (.ref CN) = some false) (w3 : PySem.W.kitOne K (.ref CL) (.type "ValueError") = some true)
    : ∃ fd : FuncData, (∀ (s : Shared) (v : Value), BindsTo s fd ⟨[v], []⟩ [("_law_script", v)]) ∧ ∀ base : Heap, K.In base → base.Ns mainGlobals mg → FnOk l.prog w K mg base CX0 12 fa fd ["_law_script"] (spLaw K) := by
  have e := hfa.symm.trans (PySem.W.mg_of X G aLw)
  cases e
  have B : Bts mg := ⟨(PySem.W.mg_none_of X G z_len), (PySem.W.mg_none_of X G z_range), (PySem.W.mg_none_of X G z_isinstance), (PySem.W.mg_none_of X G z_int), (PySem.W.mg_none_of X G z_bool), (PySem.W.mg_none_of X G z_tuple), (PySem.W.mg_none_of X G z_list), (PySem.W.mg_none_of X G z_str), (PySem.W.mg_none_of X G z_dict)⟩
  have mFig : mg "FIGURES" = some (.str FIG tk) := (PySem.W.mg_of X G aFI)
  have Zl : Exl K mg CL := ⟨(PySem.W.mg_of X G xCL), ⟨eL⟩⟩
  have Z : Exq K mg CL CE CP CN := ⟨Zl, (PySem.W.mg_of X G xCE), (PySem.W.mg_of X G xCP), (PySem.W.mg_of X G xCN), excCls_of qL tL uL vL, excCls_of qE tE uE vE, ⟨by rw [qL]; rfl, g1, g2, g3, g4, vL⟩, w1, w2, w3⟩
  have FSh := fun_mk (st := sShown) lSh cSh kSh
  have FWo := fun_mk (st := sWordsOf) lWo cWo kWo
  have FFg := fun_mk (st := sFiguresOf) lFg cFg kFg
  have FRd := fun_mk (st := sRead) lRd cRd kRd
  have FWi := fun_mk (st := sWhatIn) lWi cWi kWi
  have FNi := fun_mk (st := sNumberIn) lNi cNi kNi
  have FIn := fun_mk (st := sIsNumber) lIn cIn kIn
  have FIs := fun_mk (st := sIsStamped) lIs cIs kIs
  have FIo := fun_mk (st := sIsForOthers) lIo cIo kIo
  have FLW := fun_mk (st := sWhole) lLW cLW kLW
  have FLI := fun_mk (st := sIsWhat) lLI cLI kLI
  have FLL := fun_mk (st := sAreLetters) lLL cLL kLL
  have FLD := fun_mk (st := sDrawnLetterL) lLD cLD kLD
  have FLt := fun_mk (st := sWrittenL) lLt cLt kLt
  have FLB := fun_mk (st := sBadL) lLB cLB kLB
  have FLw := fun_mk (st := sLaw) lLw cLw kLw
  have bSh := FSh.binds (ps := ["letter"]) fun _ _ _ _ _ _ us hl => by obtain ⟨_, rfl⟩ := len_1 hl; rfl
  have bWo := FWo.binds (ps := ["what"]) fun _ _ _ _ _ _ us hl => by obtain ⟨_, rfl⟩ := len_1 hl; rfl
  have bFg := FFg.binds (ps := ["number"]) fun _ _ _ _ _ _ us hl => by obtain ⟨_, rfl⟩ := len_1 hl; rfl
  have bRd := FRd.binds (ps := ["line"]) fun _ _ _ _ _ _ us hl => by obtain ⟨_, rfl⟩ := len_1 hl; rfl
  have bWi := FWi.binds (ps := ["words"]) fun _ _ _ _ _ _ us hl => by obtain ⟨_, rfl⟩ := len_1 hl; rfl
  have bNi := FNi.binds (ps := ["text"]) fun _ _ _ _ _ _ us hl => by obtain ⟨_, rfl⟩ := len_1 hl; rfl
  have bIn := FIn.binds (ps := ["text"]) fun _ _ _ _ _ _ us hl => by obtain ⟨_, rfl⟩ := len_1 hl; rfl
  have bIs := FIs.binds (ps := ["sender", "stamp"]) fun _ _ _ _ _ _ us hl => by obtain ⟨_, _, rfl⟩ := len_2 hl; rfl
  have bIo := FIo.binds (ps := ["what", "sender", "count"]) fun _ _ _ _ _ _ us hl => by obtain ⟨_, _, _, rfl⟩ := len_3 hl; rfl
  have bLW := FLW.binds (ps := ["_law_found"]) fun _ _ _ _ _ _ us hl => by obtain ⟨_, rfl⟩ := len_1 hl; rfl
  have bLI := FLI.binds (ps := ["_law_what", "_law_sender", "_law_count"]) fun _ _ _ _ _ _ us hl => by obtain ⟨_, _, _, rfl⟩ := len_3 hl; rfl
  have bLL := FLL.binds (ps := ["_law_found", "_law_count"]) fun _ _ _ _ _ _ us hl => by obtain ⟨_, _, rfl⟩ := len_2 hl; rfl
  have bLD := FLD.binds (ps := ["_law_cell"]) fun _ _ _ _ _ _ us hl => by obtain ⟨_, rfl⟩ := len_1 hl; rfl
  have bLt := FLt.binds (ps := ["_law_letter"]) fun _ _ _ _ _ _ us hl => by obtain ⟨_, rfl⟩ := len_1 hl; rfl
  have bLB := FLB.binds (ps := ["_law_cell"]) fun _ _ _ _ _ _ us hl => by obtain ⟨_, rfl⟩ := len_1 hl; rfl
  refine ⟨PySem.W.fnOf "law" "law" (defArgs sLaw) (defBody sLaw) (defScope sLaw) .none kVLw dcLw pmLw anLw cdLw ctLw, fun s v => .of_eq rfl, fun base _ _ => ?_⟩
  have GN := ok_num (P := l.prog) (w := w) (base := base) FNi Zl (PySem.W.mg_of X G aIn) FIn bIn mFig (PySem.W.mg_none_of X G z_all)
  have GR := ok_read (P := l.prog) (w := w) (base := base) FRd B Zl (PySem.W.mg_of X G aNi) FNi bNi GN (PySem.W.mg_of X G aWi) FWi bWi (PySem.W.mg_of X G aIs) FIs bIs (PySem.W.mg_of X G aIo) FIo bIo
  have GS := ok_shown (P := l.prog) (w := w) (base := base) FSh (PySem.W.mg_of X G aFg) FFg bFg (PySem.W.mg_of X G aWo) FWo bWo mFig
  have GL := ok_areletters (P := l.prog) (w := w) (base := base) FLL B (PySem.W.mg_of X G aLW) FLW bLW (PySem.W.mg_of X G aLI) FLI bLI
  exact ok_law FLw B (PySem.W.mg_none_of X G z_min) (PySem.W.mg_none_of X G z_ValueError) Z (PySem.W.mg_of X G aLD) FLD bLD (PySem.W.mg_of X G aLt) FLt bLt (PySem.W.mg_of X G aSh) FSh bSh GS (PySem.W.mg_of X G aRd) FRd bRd GR (PySem.W.mg_of X G aLL) FLL bLL GL (PySem.W.mg_of X G aLB) FLB bLB
theorem walk {l : PySem.W.OpenLaw} {q : Program} {loose : List Str} {XP : (Str → Option Value) → Heap → Prop} {YP : World → Heap → Prop} {d : DefRec} {K : Params → PySem.W.Frag} (hn : l.most = some 63) (hdf : d.params.defaults = [])
    (hY : ∀ (w : World) (h : Heap), YP w h → (K w.params).In h)
    (F : ∀ (w : World) (mg : Str → Option Value) (fa : Addr) (h : Heap), (K w.params).In h → h.Ns mainGlobals mg → mg d.name = some (.ref fa) →
      ∃ fd : FuncData, (∀ (s : Shared) (u : Value), BindsTo s fd ⟨[u], []⟩ [("_law_script", u)]) ∧ ∀ base : Heap, (K w.params).In base → base.Ns mainGlobals mg → FnOk l.prog w (K w.params) mg base CX0 12 fa fd ["_law_script"] (spLaw (K w.params))) :
    PySem.W.WalkO q loose XP YP l.row.toRowW d [] (fun f vs => PySem.call f vs) :=
  L2.walk_of (n := 63) (k := 12) (x := "_law_script") (CX := fun _ => CX0) (sp := fun w => spLaw (K w.params)) hn (by decide) hdf ⟨rfl, by decide, by decide⟩ hY F (fun _ _ a ns hl _ hS => ⟨a, ns, rfl, hS, hl, fun _ => rfl⟩) fun _ _ _ _ _ z => z
end Of
open PySem PySem.W PyProof.Rows
set_option maxRecDepth 100000 in
set_option maxHeartbeats 0 in
theorem PySem.Challenge.cw_postbooks_k11_letters_on_lines_holds : PySem.Challenge.rw_postbooks_k11_letters_on_lines.Holds := by
  w_on; o_law; k_head; (case hw => w_witness2)
  k_fill
  refine Of.walk (l := PySem.Challenge.rw_postbooks_k11_letters_on_lines) rfl rfl (fun w h Y => PySem.W.kIn_of Y) ?F
  case F =>
    intro w mg fa h KX G hmg
    refine' Of.all_mk KX G hmg ?aSh ?lSh ?cSh ?kSh ?aWo ?lWo ?cWo ?kWo ?aFg ?lFg ?cFg ?kFg ?aRd ?lRd ?cRd ?kRd ?aWi ?lWi ?cWi ?kWi ?aNi ?lNi ?cNi ?kNi ?aIn ?lIn ?cIn ?kIn ?aIs ?lIs ?cIs ?kIs ?aIo ?lIo ?cIo ?kIo ?aLW ?lLW ?cLW ?kLW ?aLI ?lLI ?cLI ?kLI ?aLL ?lLL ?cLL ?kLL ?aLD ?lLD ?cLD ?kLD ?aLt ?lLt ?cLt ?kLt ?aLB ?lLB ?cLB ?kLB ?aLw ?lLw ?cLw ?kLw ?aFI ?z_len ?z_range ?z_all ?z_isinstance ?z_int ?z_bool ?z_tuple ?z_list ?z_str ?z_dict ?z_min ?z_ValueError ?xCP ?xCE ?xCN ?xCL ?eL ?qL ?tL ?uL ?vL ?qE ?tE ?uE ?vE ?g1 ?g2 ?g3 ?g4 ?w1 ?w2 ?w3
    (case aSh => k_is)
    (case lSh => k_is)
    (case cSh => k_is)
    (case kSh => k_is)
    (case aWo => k_is)
    (case lWo => k_is)
    (case cWo => k_is)
    (case kWo => k_is)
    (case aFg => k_is)
    (case lFg => k_is)
    (case cFg => k_is)
    (case kFg => k_is)
    (case aRd => k_is)
    (case lRd => k_is)
    (case cRd => k_is)
    (case kRd => k_is)
    (case aWi => k_is)
    (case lWi => k_is)
    (case cWi => k_is)
    (case kWi => k_is)
    (case aNi => k_is)
    (case lNi => k_is)
    (case cNi => k_is)
    (case kNi => k_is)
    (case aIn => k_is)
    (case lIn => k_is)
    (case cIn => k_is)
    (case kIn => k_is)
    (case aIs => k_is)
    (case lIs => k_is)
    (case cIs => k_is)
    (case kIs => k_is)
    (case aIo => k_is)
    (case lIo => k_is)
    (case cIo => k_is)
    (case kIo => k_is)
    (case aLW => k_is)
    (case lLW => k_is)
    (case cLW => k_is)
    (case kLW => k_is)
    (case aLI => k_is)
    (case lLI => k_is)
    (case cLI => k_is)
    (case kLI => k_is)
    (case aLL => k_is)
    (case lLL => k_is)
    (case cLL => k_is)
    (case kLL => k_is)
    (case aLD => k_is)
    (case lLD => k_is)
    (case cLD => k_is)
    (case kLD => k_is)
    (case aLt => k_is)
    (case lLt => k_is)
    (case cLt => k_is)
    (case kLt => k_is)
    (case aLB => k_is)
    (case lLB => k_is)
    (case cLB => k_is)
    (case kLB => k_is)
    (case aLw => k_is)
    (case lLw => k_is)
    (case cLw => k_is)
    (case kLw => k_is)
    (case aFI => k_is)
    (case z_len => k_is)
    (case z_range => k_is)
    (case z_all => k_is)
    (case z_isinstance => k_is)
    (case z_int => k_is)
    (case z_bool => k_is)
    (case z_tuple => k_is)
    (case z_list => k_is)
    (case z_str => k_is)
    (case z_dict => k_is)
    (case z_min => k_is)
    (case z_ValueError => k_is)
    (case xCP => k_is)
    (case xCE => k_is)
    (case xCN => k_is)
    (case xCL => k_is)
    (case eL => k_exc)
    (case qL => k_is)
    (case tL => k_is)
    (case uL => k_is)
    (case vL => k_is)
    (case qE => k_is)
    (case tE => k_is)
    (case uE => k_is)
    (case vE => k_is)
    (case g1 => k_is)
    (case g2 => k_is)
    (case g3 => k_is)
    (case g4 => k_is)
    (case w1 => kit_is)
    (case w2 => kit_is)
    (case w3 => kit_is)
#print axioms PySem.Challenge.cw_postbooks_k11_letters_on_lines_holds

