import PyProof.Rows.All
import Wide.All
import OpenK.AllK
import Wide.FinOn
import Lean
import PyProof.EqAt
import PyProof.EqKinds
import PyProof.TupleCall
import PyProof.P3In
import PyProof.NeData
import PyProof.ConsumeWalk
import PyProof.CompFree
import PyProof.FactsAll.tuple_2
import KE.KRevSl
import KE.KIntText
import PyProof.EnumFor
import PyProof.EnumMake
import PyProof.EnumStmt
import PyProof.Rows.EnumRows
import PySem.Challenge.RW_postbooks_k12_under_way
set_option Elab.async false
set_option linter.all false
set_option maxRecDepth 100000
namespace L2
open PySem PySem.Spec PyProof.Rows
abbrev Key := Sum Int Str
def keyIs : Key → Value → Bool
 | .inl k, v => Value.isInt k v
 | .inr x, v => Value.isStrOf x v
def keyH (w : World) : Key → Int
 | .inl k => hashInt k
 | .inr x => hashStr w x
theorem xY0 : ∀ {k : Key} {v : Value}, keyIs k v = true → (∃ i t, k = Sum.inl i ∧ v = Value.int i t) ∨ (∃ x t, k = Sum.inr x ∧ v = Value.str x t)
 | .inl i, v, h => by
  obtain ⟨t, e⟩ := Value.isInt_shape (k := i) (v := v) h
  exact .inl ⟨i, t, rfl, e⟩
 | .inr x, v, h => by
  obtain ⟨t, e⟩ := Value.isStrOf_shape (x := x) (v := v) h
  exact .inr ⟨x, t, rfl, e⟩
theorem key_ll (a b : Int) : decide ((Sum.inl a : Key) = Sum.inl b) = (a == b) := by
 by_cases e : a = b
 ·subst e; simp
 ·have h : ¬ (Sum.inl a : Key) = Sum.inl b := fun q => e (Sum.inl.inj q)
  rw [decide_eq_false h]
  exact (beq_eq_false_iff_ne.mpr e).symm
theorem key_rr (a b : Str) : decide ((Sum.inr a : Key) = Sum.inr b) = decide (a = b) := by
 by_cases e : a = b
 ·subst e; simp
 ·have h : ¬ (Sum.inr a : Key) = Sum.inr b := fun q => e (Sum.inr.inj q)
  rw [decide_eq_false h, decide_eq_false e]
theorem key_lr (a : Int) (b : Str) : decide ((Sum.inl a : Key) = Sum.inr b) = false := decide_eq_false (fun q => nomatch q)
theorem key_rl (a : Str) (b : Int) : decide ((Sum.inr a : Key) = Sum.inl b) = false := decide_eq_false (fun q => nomatch q)
def mixKind (prog : Program) (w : World) : PySem.KeyKind prog w Key where
 is := keyIs
 hash := keyH w
 inj := fun v a b ha hb => by
  rcases xY0 ha with ⟨i, t, rfl, rfl⟩ | ⟨x, t, rfl, rfl⟩
  ·rcases xY0 hb with ⟨j, u, rfl, e⟩ | ⟨y, u, rfl, e⟩
   ·injection e with e1 _; rw [e1]
   ·exact nomatch e
  ·rcases xY0 hb with ⟨j, u, rfl, e⟩ | ⟨y, u, rfl, e⟩
   ·exact nomatch e
   ·injection e with e1 _; rw [e1]
 byValue := fun k v h => by
  rcases xY0 h with ⟨i, t, rfl, rfl⟩ | ⟨x, t, rfl, rfl⟩ <;> rfl
 pyHash := fun hv h => by
  rcases xY0 hv with ⟨i, t, rfl, rfl⟩ | ⟨x, t, rfl, rfl⟩
  ·exact wpAny_pyHash_int h
  ·exact wpAny_pyHash_str h
 eqBool := fun hu hv h => by
  rcases xY0 hu with ⟨i, t, rfl, rfl⟩ | ⟨x, t, rfl, rfl⟩
  ·rcases xY0 hv with ⟨j, u, rfl, rfl⟩ | ⟨y, u, rfl, rfl⟩
   ·rw [key_ll] at h; exact wpAny_eqBool_int h
   ·rw [key_lr] at h; exact SeqAt.EqAt.int_str i t y u _ _ _ _ h
  ·rcases xY0 hv with ⟨j, u, rfl, rfl⟩ | ⟨y, u, rfl, rfl⟩
   ·rw [key_rl] at h; exact SeqAt.EqAt.str_int x t j u _ _ _ _ h
   ·rw [key_rr] at h; exact wpAny_eqBool_str h
 «strs» := fun k x t v h => by
  rcases xY0 h with ⟨i, u, rfl, e⟩ | ⟨y, u, rfl, e⟩
  ·exact nomatch e
  ·injection e with e1 _
   subst e1
   cases v <;> rfl
end L2
namespace L2
open PySem PySem.Spec PyProof.Rows
inductive V where
 | non | bl (b : Bool) | int (i : Int) | str (x : Str) | byt (b : Array UInt8) | flt (b : UInt64) | ref (a : Addr) | ty (n : String)
 deriving DecidableEq
def RelV : V → Value → Prop
 | .non, u => u = Value.none
 | .bl b, u => u = Value.bool b
 | .int i, u => ∃ t, u = Value.int i t
 | .str x, u => ∃ t, u = Value.str x t
 | .byt b, u => ∃ t, u = Value.bytes b t
 | .flt b, u => ∃ t, u = Value.float b t
 | .ref a, u => u = Value.ref a
 | .ty n, u => u = Value.type n
abbrev Vals : List V → List Value → Prop := Paired RelV
theorem Vals.length {xs : List V} {us : List Value} (r : Vals xs us) : xs.length = us.length := Paired.length r
theorem Vals.get : ∀ {xs : List V} {us : List Value} {i : Nat} {x : V}, Vals xs us → xs[i]? = some x → ∃ u, us[i]? = some u ∧ RelV x u
 | _, _, _, _, .nil, e => by simp at e
 | _, _, 0, _, .cons r _, e => by simp at e; subst e; exact ⟨_, rfl, r⟩
 | _, _, i + 1, x, .cons _ t, e => by
  obtain ⟨u, h1, h2⟩ := Vals.get (i := i) (x := x) t (by simpa using e)
  exact ⟨u, by simpa using h1, h2⟩
theorem Vals.append : ∀ {xs ys : List V} {us ws : List Value}, Vals xs us → Vals ys ws → Vals (xs ++ ys) (us ++ ws)
 | _, _, _, _, .nil, s => s
 | _, _, _, _, .cons r t, s => .cons r (Vals.append t s)
theorem Vals.take : ∀ {xs : List V} {us : List Value} (n : Nat), Vals xs us → Vals (xs.take n) (us.take n)
 | _, _, 0, _ => .nil
 | _, _, _ + 1, .nil => .nil
 | _, _, n + 1, .cons r t => .cons r (Vals.take n t)
theorem Vals.drop : ∀ {xs : List V} {us : List Value} (n : Nat), Vals xs us → Vals (xs.drop n) (us.drop n)
 | _, _, 0, r => r
 | _, _, _ + 1, .nil => .nil
 | _, _, n + 1, .cons _ t => Vals.drop n t
def RelO : Option V → Option Value → Prop
 | some v, some u => RelV v u
 | none, none => True
 | _, _ => False
def KV {κ : Type} : List (κ × V) → List (κ × Value) → Prop := Paired fun (p : κ × V) (q : κ × Value) => p.1 = q.1 ∧ RelV p.2 q.2
def kV : Key → V
 | .inl i => .int i
 | .inr x => .str x
inductive HO where
 | lst (xs : List V)
 | tup (xs : List V)
 | dK (kvs : List (Key × V)) | dT (kvs : List (List Key × V))
 | set (S : Int → Bool) (n : Nat)
 | ins (C dx : Addr) (fs : List (Str × V))
 | own (x : Addr)
 | xd (fs : List (Str × V))
 | met (f x : Addr)
 | rng (lo hi : Int)
 | frz (o : Obj) (u : HO)
 | tbl (ps : Array Value)
 | ext (φ : Heap → Prop)
abbrev Hp := Addr → Option HO
def upd (H : Hp) (a : Addr) (o : HO) : Hp := fun b => if b = a then some o else H b
theorem xU9 {H : Hp} {a : Addr} {o : HO} : upd H a o a = some o := by unfold upd; rw [if_pos rfl]
theorem xU2 {H : Hp} {a b : Addr} {o : HO} (h : b ≠ a) : upd H a o b = H b := by unfold upd; rw [if_neg h]
theorem ne_of {H : Hp} {a b : Addr} {o u : HO} (h : H a = some o) (h' : H b = some u) (d : o ≠ u) : a ≠ b := by
 intro e; subst e; rw [h] at h'; exact d (Option.some.inj h')
theorem yV8 {H : Hp} {a b : Addr} {o : HO} (h : H a = some o) (h' : H b = none) : a ≠ b := by
 intro e; subst e; rw [h] at h'; cases h'
section
variable (P : Program) (w : World)
def yY5 (H : Hp) (h : Heap) (a : Addr) : HO → Prop
 | .lst xs => xs.length ≤ sizeLine ∧ ∃ (its : List Value) (n : Nat), Vals xs its ∧ h.get? a = some { cls := .type "list", data := .seq its.toArray n }
 | .tup xs => xs.length ≤ sizeLine ∧ ∃ its : List Value, Vals xs its ∧ IsTup h a its.toArray
 | .dK kvs => kvs.length ≤ sizeLine ∧ (a == sysModules) = false ∧ ∃ vs, KV kvs vs ∧ h.DictOf (mixKind P w) a vs
 | .dT kvs => kvs.length ≤ sizeLine ∧ (a == sysModules) = false ∧ ∃ xs : List (List Key × Addr × Value),
   Paired (fun (p : List Key × V) (q : List Key × Addr × Value) => p.1 = q.1 ∧ H q.2.1 = some (.tup (p.1.map kV)) ∧ RelV p.2 q.2.2) kvs xs ∧
   ∃ o es ep, h.get? a = some o ∧ o.ExactDict ∧ o.data = .dict es ep ∧ es.toList = xs.map (entryOfKey (tupleKind (mixKind P w))) ∧ (xs.map (·.1)).Nodup
 | .set S n => h.SetOf (intKind P w) a S n
 | .ins C dx fs => H dx = some (.own a) ∧ fs.length ≤ 1000 ∧ dx ≠ a ∧ h.get? a = some (PySem.W.instObj C dx) ∧
   ∃ mA, h.Ns1 dx mA ∧ (∀ f, RelO (fs.lookup f) (mA f)) ∧ PySem.Within mA (fs.map (·.1))
 | .own _ => ∃ o, h.get? a = some o
 | .xd fs => ∃ mA, h.Ns1 a mA ∧ ∀ f, RelO (fs.lookup f) (mA f)
 | .rng lo hi => ∃ t u v, h.get? a = some { cls := .type "range", data := .fields #[.int lo t, .int hi u, .int 1 v] }
 | .frz o u => h.get? a = some o ∧ yY5 H h a u
 | .tbl ps => h.get? a = some { cls := .none, data := .fields ps }
 | .met f x => h.get? a = some (PySem.W.methodObj (.ref f) (.ref x))
 | .ext φ => φ h ∧ (∃ o, h.get? a = some o) ∧ ∀ h1 h2 : Heap, φ h1 → (∀ o, h1.get? a = some o → h2.get? a = some o) → φ h2
def HOk (H : Hp) (h : Heap) : Prop := ∀ a o, H a = some o → yY5 P w H h a o
end
section
variable {P : Program} {w : World} {H H' : Hp} {h h' : Heap} {a : Addr} {o : HO}
theorem yY5.lt (x : yY5 P w H h a o) : a < h.objs.size := by
 cases o with
 | lst xs => obtain ⟨_, _, _, _, e⟩ := x; exact Heap.lt_size e
 | tup xs => obtain ⟨_, _, _, p⟩ := x; exact p.lt
 | dK kvs => obtain ⟨_, _, _, _, o, _, _, e, _⟩ := x; exact Heap.lt_size e
 | dT kvs => obtain ⟨_, _, _, _, o, _, _, e, _⟩ := x; exact Heap.lt_size e
 | set S n => obtain ⟨o, _, _, _, e, _⟩ := x; exact Heap.lt_size e
 | ins C dx fs => obtain ⟨_, _, _, e, _⟩ := x; exact Heap.lt_size e
 | own y => obtain ⟨_, e⟩ := x; exact Heap.lt_size e
 | xd fs => obtain ⟨_, ⟨_, _, _, e, _⟩, _⟩ := x; exact Heap.lt_size e
 | rng lo hi => obtain ⟨_, _, _, e⟩ := x; exact Heap.lt_size e
 | frz ob u => obtain ⟨e, _⟩ := x; exact Heap.lt_size e
 | tbl ps => exact Heap.lt_size (show h.get? a = some _ from x)
 | met f y => exact Heap.lt_size (show h.get? a = some _ from x)
 | ext φ => obtain ⟨_, ⟨_, e⟩, _⟩ := x; exact Heap.lt_size e
theorem Paired.mapP {α β : Type} {F G : α → β → Prop} : ∀ {l₁ : List α} {l₂ : List β}, Paired F l₁ l₂ → (∀ a b, F a b → G a b) → Paired G l₁ l₂
 | _, _, .nil, _ => .nil
 | _, _, .cons r t, f => .cons (f _ _ r) (Paired.mapP t f)
theorem yY5.stay (x : yY5 P w H h a o) (k : ∀ b u, (b = a ∨ H b = some (.own a)) → h.get? b = some u → h'.get? b = some u)
  (ho : ∀ b, H b = some (.own a) → H' b = some (.own a)) (ht : ∀ b xs, H b = some (.tup xs) → H' b = some (.tup xs)) : yY5 P w H' h' a o := by
 induction o with
 | lst xs => obtain ⟨z, its, n, r, e⟩ := x; exact ⟨z, its, n, r, k _ _ (.inl rfl) e⟩
 | tup xs => obtain ⟨z, its, r, ob, e, c⟩ := x; exact ⟨z, its, r, ob, k _ _ (.inl rfl) e, c⟩
 | dK kvs => obtain ⟨z, y, vs, r, ob, es, ep, e, c⟩ := x; exact ⟨z, y, vs, r, ob, es, ep, k _ _ (.inl rfl) e, c⟩
 | dT kvs =>
  obtain ⟨z, y, xs, r, ob, es, ep, e, c⟩ := x
  exact ⟨z, y, xs, Paired.mapP r fun p q z => ⟨z.1, ht _ _ z.2.1, z.2.2⟩, ob, es, ep, k _ _ (.inl rfl) e, c⟩
 | set S n => obtain ⟨ob, es, ep, t, e, c⟩ := x; exact ⟨ob, es, ep, t, k _ _ (.inl rfl) e, c⟩
 | ins C dx fs =>
  obtain ⟨d, z, ne, e, mA, ⟨od, es, ep, e2, c⟩, r⟩ := x
  exact ⟨ho _ d, z, ne, k _ _ (.inl rfl) e, mA, ⟨od, es, ep, k _ _ (.inr d) e2, c⟩, r⟩
 | own y => obtain ⟨ob, e⟩ := x; exact ⟨ob, k _ _ (.inl rfl) e⟩
 | xd fs => obtain ⟨mA, ⟨od, es, ep, e, c⟩, r⟩ := x; exact ⟨mA, ⟨od, es, ep, k _ _ (.inl rfl) e, c⟩, r⟩
 | rng lo hi => obtain ⟨t, u, v, e⟩ := x; exact ⟨t, u, v, k _ _ (.inl rfl) e⟩
 | frz ob u ih => obtain ⟨e, q⟩ := x; exact ⟨k _ _ (.inl rfl) e, ih q⟩
 | tbl ps =>
  have e : h.get? a = some { cls := .none, data := .fields ps } := x
  show h'.get? a = some { cls := .none, data := .fields ps }
  exact k a _ (.inl rfl) e
 | met f y =>
  have e : h.get? a = some (PySem.W.methodObj (.ref f) (.ref y)) := x
  show h'.get? a = some (PySem.W.methodObj (.ref f) (.ref y))
  exact k a _ (.inl rfl) e
 | ext φ => obtain ⟨p, ⟨o, e⟩, st⟩ := x; exact ⟨st _ _ p fun o q => k _ _ (.inl rfl) q, ⟨o, k _ _ (.inl rfl) e⟩, st⟩
theorem HOk.lt (x : HOk P w H h) (e : H a = some o) : a < h.objs.size := (x a o e).lt
theorem HOk.fresh (x : HOk P w H h) (e : h.objs.size ≤ a) : H a = none := by
 cases q : H a with
 | none => rfl
 | some u => exact absurd (Nat.lt_of_lt_of_le (x.lt q) e) (Nat.lt_irrefl _)
theorem HOk.kept (x : HOk P w H h) (k : ∀ b u, h.get? b = some u → h'.get? b = some u) : HOk P w H h' := fun a o e =>
 (x a o e).stay (fun b u _ q => k b u q) (fun _ q => q) fun _ _ q => q
theorem HOk.laid (x : HOk P w H h) (k : ∀ b u, h.get? b = some u → h'.get? b = some u) (hp : h.objs.size ≤ a) (new : yY5 P w (upd H a o) h' a o) : HOk P w (upd H a o) h' := fun b u e => by
 have hn := x.fresh hp
 by_cases hb : b = a
 ·subst hb; rw [xU9] at e; cases e; exact new
 ·rw [xU2 hb] at e
  exact (x b u e).stay (fun c v _ q => k c v q) (fun c q => by rw [xU2 (yV8 q hn)]; exact q) fun c xs q => by rw [xU2 (yV8 q hn)]; exact q
end
def Rd (H : Hp) (a : Addr) (u : HO) : Prop := H a = some u ∨ ∃ o, H a = some (.frz o u)
theorem Rd.ok {P : Program} {w : World} {H : Hp} {h : Heap} {a : Addr} {u : HO} (r : Rd H a u) (x : HOk P w H h) : yY5 P w H h a u := by
 rcases r with r | ⟨o, r⟩
 ·exact x a u r
 ·obtain ⟨_, q⟩ := x a _ r
  exact q
def Mut : Option HO → Prop
 | some (.lst _) => True
 | some (.dK _) => True
 | some (.dT _) => True
 | some (.set _ _) => True
 | some (.ins _ _ _) => True
 | some (.ext _) => True
 | _ => False
section
variable {P : Program} {w : World} {H : Hp} {h h' : Heap} {x e : Addr} {o' : HO}
theorem HOk.write (ok : HOk P w H h) (mu : Mut (H x)) (he : e = x ∨ H e = some (.own x)) (k : ∀ b u, b ≠ e → h.get? b = some u → h'.get? b = some u) (heo : ∃ u, h'.get? e = some u)
  (new : yY5 P w (upd H x o') h' x o') : HOk P w (upd H x o') h' := fun b u q => by
 have nown : ∀ c y, H c = some (.own y) → c ≠ x := fun c y r z => by subst z; rw [r] at mu; exact mu
 have ntup : ∀ c xs, H c = some (.tup xs) → c ≠ x := fun c xs r z => by subst z; rw [r] at mu; exact mu
 by_cases hb : b = x
 ·subst hb; rw [xU9] at q; cases q; exact new
 ·rw [xU2 hb] at q
  by_cases hbe : b = e
  ·have q' : H b = some (.own x) := by
    rcases he with z | z
    ·exact absurd (hbe.trans z) hb
    ·rw [hbe]; exact z
   rw [q] at q'; cases q'
   obtain ⟨v, hv⟩ := heo
   exact ⟨v, by rw [hbe]; exact hv⟩
  ·refine (ok b u q).stay (fun c v hc r => k c v ?_ r) (fun c r => by rw [xU2 (nown c b r)]; exact r) fun c xs r => by rw [xU2 (ntup c xs r)]; exact r
   rcases hc with rfl | hc
   ·exact hbe
   ·rintro rfl
    rcases he with z | z
    ·exact nown c b hc z
    ·rw [hc] at z; cases z; exact hb rfl
end
structure Un (fs ex : List Addr) (H H' : Hp) (h h' : Heap) : Prop where
 keep : ∀ b o, h.get? b = some o → H b = none → b ∉ fs → b ∉ ex → h'.get? b = some o
 slot : ∀ b o, h.get? b = some o → H b = none → b ∈ fs → b ∉ ex → ∃ sl, h'.get? b = some { o with slots := sl }
 free : ∀ b o, h.get? b = some o → H b = none → b ∉ ex → H' b = none
 there : ∀ b o, h.get? b = some o → b ∉ ex → ∃ o', h'.get? b = some o'
 tups : ∀ b xs, H b = some (.tup xs) → H' b = some (.tup xs)
 frzs : ∀ b o u, H b = some (.frz o u) → H' b = some (.frz o u)
 tbls : ∀ b ps, H b = some (.tbl ps) → ∃ more, H' b = some (.tbl (ps ++ more))
section
variable {fs fs' ex ex' : List Addr} {H H1 H2 : Hp} {h h1 h2 h' : Heap} {a x e : Addr} {o : HO}
theorem Un.any (u : Un fs ex H H1 h h1) {b : Addr} {ob : Obj} (q : h.get? b = some ob) (n : H b = none) (hx : b ∉ ex) : ∃ sl, h1.get? b = some { ob with slots := sl } := by
 by_cases hb : b ∈ fs
 ·exact u.slot b ob q n hb hx
 ·exact ⟨ob.slots, u.keep b ob q n hb hx⟩
theorem Un.kept (k : ∀ b u, h.get? b = some u → h'.get? b = some u) : Un fs ex H H h h' :=
 ⟨fun b ob q _ _ _ => k b ob q, fun b ob q _ _ _ => ⟨ob.slots, k b ob q⟩, fun _ _ _ n _ => n, fun b ob q _ => ⟨ob, k b ob q⟩, fun _ _ q => q, fun _ _ _ q => q, fun _ ps q => ⟨#[], by rw [q]; simp⟩⟩
theorem Un.refl : Un fs ex H H h h := Un.kept fun _ _ q => q
theorem Un.laid (k : ∀ b u, h.get? b = some u → h'.get? b = some u) (hp : h.objs.size ≤ a) (hn : H a = none) : Un fs ex H (upd H a o) h h' where
 keep := fun b u q _ _ _ => k b u q
 slot := fun b u q _ _ _ => ⟨u.slots, k b u q⟩
 free := fun b u q n _ => by rw [xU2 (Nat.ne_of_lt (Nat.lt_of_lt_of_le (Heap.lt_size q) hp))]; exact n
 there := fun b u q _ => ⟨u, k b u q⟩
 tups := fun b xs q => by rw [xU2 (yV8 q hn)]; exact q
 frzs := fun b u xs q => by rw [xU2 (yV8 q hn)]; exact q
 tbls := fun b ps q => ⟨#[], by rw [xU2 (yV8 q hn), q]; simp⟩
theorem Un.write (mu : Mut (H x)) (he : e = x ∨ H e = some (.own x)) (k : ∀ b u, b ≠ e → h.get? b = some u → h'.get? b = some u) (heo : ∃ u, h'.get? e = some u) : Un fs ex H (upd H x o) h h' := by
 have hx : ∀ b, H b = none → b ≠ x := fun b n z => by subst z; rw [n] at mu; exact mu
 have hb : ∀ b, H b = none → b ≠ e := fun b n z => by
  subst z
  rcases he with r | r
  ·exact hx b n r
  ·rw [n] at r; cases r
 have hm : ∀ b u, H b = some u → ¬ Mut (some u) → b ≠ x := fun b u q nm z => by subst z; rw [q] at mu; exact nm mu
 refine ⟨fun b u q n _ _ => k b u (hb b n) q, fun b u q n _ _ => ⟨u.slots, k b u (hb b n) q⟩, fun b u q n _ => by rw [xU2 (hx b n)]; exact n, fun b u q _ => ?_,
  fun b xs q => by rw [xU2 (hm b _ q fun z => z)]; exact q, fun b u xs q => by rw [xU2 (hm b _ q fun z => z)]; exact q, fun b ps q => ⟨#[], by rw [xU2 (hm b _ q fun z => z), q]; simp⟩⟩
 by_cases hbe : b = e
 ·subst hbe; exact heo
 ·exact ⟨u, k b u hbe q⟩
end
def trk (h : Heap) (H : Hp) : List Addr := (List.range h.objs.size).filter fun a => (H a).isSome
def hidT (h : Heap) (H : Hp) : Heap := PySem.W.hideAll h (trk h H)
theorem hidT_size (h : Heap) (H : Hp) : (hidT h H).objs.size = h.objs.size := PySem.W.hideAll_size _ _
theorem hidT_get {h : Heap} {H : Hp} {b : Addr} {o : Obj} (e : h.get? b = some o) (n : H b = none) : (hidT h H).get? b = some o :=
 PySem.W.hideAll_get _ e fun hm => by
  have q : (H b).isSome = true := (List.mem_filter.mp hm).2
  rw [n] at q; simp at q
theorem of_hidT {h : Heap} {H : Hp} {b : Addr} {o : Obj} (e : (hidT h H).get? b = some o) : h.get? b = some o ∧ H b = none := by
 have e' : h.get? b = some o := PySem.W.of_hideAll (trk h H) e
 refine ⟨e', ?_⟩
 cases q : H b with
 | none => rfl
 | some x =>
  have hm : b ∈ trk h H := List.mem_filter.mpr ⟨List.mem_range.mpr (Heap.lt_size e'), by simp [q]⟩
  have z : (hidT h H).get? b = none := PySem.W.hideAll_none (trk h H) hm
  rw [z] at e; cases e
def allNews (g h : Heap) (L : Addr) : List (Addr × Obj) := (List.range h.objs.size).filterMap fun a => if a = L ∨ (g.get? a).isSome = true then none else (h.get? a).map fun o => (a, o)
def rest (g h : Heap) (L d : Addr) : List (Addr × Obj) := (allNews g h L).filter fun p => decide (p.1 ≠ d)
end L2
namespace L2
open PySem PySem.Spec PyProof.Rows
structure Mod (K : PySem.W.Frag) (mg : Str → Option Value) (base : Heap) : Prop where
 kin : K.In base
 glob : base.Ns mainGlobals mg
 blt : ∃ mb, base.Ns builtinsNs mb ∧ ∀ x : Str, x ≠ "__name__" → mb x = bootBuiltins x
 nolimit : base.NoLimit
structure Cx where
 prog : Program
 w : World
 K : PySem.W.Frag
 mg : Str → Option Value
 base : Heap
 A : Around
 N : List Str
 s₀ : Shared
 H₀ : Hp
 env : Env
 outer : List Env
 stack : List Env
 ex : List Addr
 fn : Str → Bool
 calm : Bool
 pn : List (Addr × Obj)
 xe : Value → Shared → Prop
def frs (l : List Env) : List Addr := l.filterMap (·.frame)
abbrev Cx.fs (X : Cx) : List Addr := frs X.outer
def Vis (sc : Scope) (x : Str) : Prop := sc.names.lookup x = some .local ∨ sc.names.lookup x = some .cell ∨ sc.names.lookup x = some .free
def Loc (sc : Scope) (x : Str) : Prop := sc.names.lookup x = some .local ∨ sc.names.lookup x = some .cell
def Look (env : Env) (h : Heap) (m : Str → Option Value) (x : Str) (u : Value) : Prop :=
 (env.kindOf x = some .local ∧ m x = some u) ∨ ((env.kindOf x = some .cell ∨ env.kindOf x = some .free) ∧ ∃ c, env.cells.lookup x = some c ∧ h.IsCell c (some u))
structure Cx.Ok (X : Cx) : Prop where
 mod : Mod X.K X.mg X.base
 kind : X.env.scope.kind = .function
 glob : X.env.globals = mainGlobals
 blt : X.env.builtins = builtinsNs
 above : X.s₀.heap.objs.size ≤ X.env.locals
 inj : ∀ x y c, X.env.cells.lookup x = some c → X.env.cells.lookup y = some c → x = y
 has : ∀ x, (X.env.kindOf x = some .cell ∨ X.env.kindOf x = some .free) → ∃ c, X.env.cells.lookup x = some c
 cab : ∀ x c, X.fn x = true → X.env.cells.lookup x = some c → X.s₀.heap.objs.size ≤ c
 hd : X.calm = true → X.A.handled = none
 frames : X.A.frames = some X.stack
 stk : X.stack = X.outer ∨ (X.stack = X.env :: X.outer ∧ X.env.frame = some X.env.locals)
 exf : ∀ b ∈ X.ex, b ≠ X.env.locals ∧ ∀ x c, X.env.cells.lookup x = some c → c ≠ b
 bs : ∀ b o, X.base.get? b = some o → X.s₀.heap.get? b = some o ∧ X.H₀ b = none
 bsz : X.base.objs.size ≤ X.s₀.heap.objs.size
 noex : ∀ b o, X.base.get? b = some o → b ∉ X.ex
 exfs : ∀ b ∈ X.ex, b ∉ X.fs
 funs : X.s₀.heap.FunFrames X.base X.outer
 frf : ∀ b ∈ X.fs, X.H₀ b = none
structure Inv (X : Cx) (pins : List (Addr × Obj)) (σ : List (Option V)) (H : Hp) (s : Shared) : Prop where
 ok : X.Ok
 os : s.os = X.s₀.os
 bare : AllBare s.gens
 base : Un X.fs X.ex X.H₀ H X.s₀.heap s.heap
 loc : ∃ m, s.heap.Ns X.env.locals m ∧ ∀ (i : Nat) (x : Str) (v : V), X.N[i]? = some x → σ[i]? = some (some v) → Vis X.env.scope x → ∃ u, RelV v u ∧ Look X.env s.heap m x u
 cell : ∀ x c, X.env.cells.lookup x = some c → ∃ v, s.heap.IsCell c v
 free : H X.env.locals = none
 freeC : ∀ x c, X.env.cells.lookup x = some c → H c = none
 pin : ∀ p ∈ X.pn ++ pins, s.heap.get? p.1 = some p.2 ∧ H p.1 = none ∧ p.1 ≠ X.env.locals ∧ p.1 ∉ X.fs ∧ ∀ v, p.2.data ≠ .cell v
 hok : HOk X.prog X.w H s.heap
 len : σ.length = X.N.length
section
variable {X : Cx} {pins : List (Addr × Obj)} {σ : List (Option V)} {H H' : Hp} {s : Shared} {h' : Heap}
theorem Cx.Ok.nofr (ok : X.Ok) {b : Addr} {o : Obj} (e : X.base.get? b = some o) : b ∉ X.fs := fun hb => by
 have := (ok.funs.mem hb).1
 rw [e] at this; cases this
theorem Inv.bs (I : Inv X pins σ H s) : ∀ b o, X.base.get? b = some o → s.heap.get? b = some o ∧ H b = none := fun b o e =>
 ⟨I.base.keep b o (I.ok.bs b o e).1 (I.ok.bs b o e).2 (I.ok.nofr e) (I.ok.noex b o e), I.base.free b o (I.ok.bs b o e).1 (I.ok.bs b o e).2 (I.ok.noex b o e)⟩
theorem Inv.bk (I : Inv X pins σ H s) : ∀ b o, X.base.get? b = some o → s.heap.get? b = some o := fun b o e => (I.bs b o e).1
theorem Inv.mod (I : Inv X pins σ H s) : Mod X.K X.mg X.base := I.ok.mod
theorem Inv.kIn (I : Inv X pins σ H s) : X.K.In s.heap := I.ok.mod.kin.keeps I.bk
theorem Inv.lt (I : Inv X pins σ H s) : X.env.locals < s.heap.objs.size := let ⟨_, hn, _⟩ := I.loc; hn.lt
theorem Inv.sz (I : Inv X pins σ H s) : X.s₀.heap.objs.size ≤ s.heap.objs.size := Nat.le_trans I.ok.above (Nat.le_of_lt I.lt)
theorem Inv.nofs (I : Inv X pins σ H s) {a : Addr} (h : s.heap.objs.size ≤ a) : a ∉ X.fs := fun hb => by
 obtain ⟨_, o, ho, _⟩ := I.ok.funs.mem hb
 exact absurd (Nat.lt_of_lt_of_le (Heap.lt_size ho) (Nat.le_trans I.sz h)) (Nat.lt_irrefl _)
theorem Inv.cne (I : Inv X pins σ H s) : ∀ x c, X.env.cells.lookup x = some c → c ≠ X.env.locals := fun x c e z => by
 obtain ⟨v, o, ho, hd⟩ := I.cell x c e
 obtain ⟨m, ⟨o', es, ep, ho', hd', _⟩, _⟩ := I.loc
 rw [z, ho'] at ho; cases ho; rw [hd'] at hd; cases hd
theorem Inv.funs (I : Inv X pins σ H s) : s.heap.FunFrames X.base X.outer := by
 have all : ∀ (l : List Env), (∀ b ∈ frs l, b ∈ X.fs) → X.s₀.heap.FunFrames X.base l → s.heap.FunFrames X.base l := by
  intro l
  induction l with
  | nil => intro _ _; trivial
  | cons env r ih =>
   intro hs hl
   obtain ⟨hk, ⟨L, o, hf, hn, ho, hd⟩, hr⟩ := hl
   have hL : L ∈ X.fs := hs L (by unfold frs; rw [List.filterMap_cons, hf]; exact List.mem_cons_self)
   obtain ⟨sl, e⟩ := I.base.slot L o ho (I.ok.frf L hL) hL fun z => I.ok.exfs L z hL
   exact ⟨hk, ⟨L, _, hf, hn, e, hd⟩, ih (fun b hb => hs b (by unfold frs; rw [List.filterMap_cons, hf]; exact List.mem_cons_of_mem _ hb)) hr⟩
 exact all X.outer (fun _ hb => hb) I.ok.funs
theorem Inv.stack (I : Inv X pins σ H s) : s.heap.FunFrames X.base X.stack := by
 rcases I.ok.stk with e | ⟨e, hf⟩
 ·rw [e]; exact I.funs
 ·rw [e]
  obtain ⟨m, hn, _⟩ := I.loc
  refine .cons (by rw [I.ok.kind]; decide) hf hn ?_ I.funs
  exact Heap.get?_none_of_le (Nat.le_trans I.ok.bsz I.ok.above)
theorem Inv.stkSub (I : Inv X pins σ H s) : ∀ b ∈ frs X.stack, b ∈ X.env.locals :: X.fs := fun b hb => by
 rcases I.ok.stk with e | ⟨e, hf⟩
 ·rw [e] at hb; exact List.mem_cons_of_mem _ hb
 ·rw [e] at hb
  unfold frs at hb
  rw [List.filterMap_cons, hf] at hb
  exact hb
theorem Inv.stkFree (I : Inv X pins σ H s) : ∀ b ∈ frs X.stack, H b = none := fun b hb => by
 rcases List.mem_cons.mp (I.stkSub b hb) with e | hb
 ·rw [e]; exact I.free
 ·obtain ⟨_, o, ho, _⟩ := I.ok.funs.mem hb
  exact I.base.free b o ho (I.ok.frf b hb) fun z => I.ok.exfs b z hb
theorem Inv.step {g' : Array GenState} {t' : Nat} {d' : Drawn} {ch : List Addr} (I : Inv X pins σ H s)
  (hch : ∀ b ∈ ch, (b ∈ X.ex ∨ X.s₀.heap.objs.size ≤ b) ∧ b ≠ X.env.locals ∧ (∀ x c, X.env.cells.lookup x = some c → c ≠ b) ∧ ∀ p ∈ X.pn ++ pins, p.1 ≠ b)
  (keep : ∀ b o, b ≠ X.env.locals → b ∉ X.fs → b ∉ ch → s.heap.get? b = some o → H b = none → h'.get? b = some o)
  (slot : ∀ b o, b ≠ X.env.locals → b ∈ X.fs → b ∉ ch → s.heap.get? b = some o → H b = none → ∃ sl, h'.get? b = some { o with slots := sl }) (free : ∀ b o, b ∉ ch → s.heap.get? b = some o → H b = none → H' b = none)
  (there : ∀ b o, b ∉ ch → s.heap.get? b = some o → ∃ o', h'.get? b = some o')
  (tups : ∀ b xs, H b = some (.tup xs) → H' b = some (.tup xs)) (frzs : ∀ b o u, H b = some (.frz o u) → H' b = some (.frz o u)) (tbls : ∀ b ps, H b = some (.tbl ps) → ∃ more, H' b = some (.tbl (ps ++ more)))
  (ns : ∀ m, s.heap.Ns X.env.locals m → h'.Ns X.env.locals m) (hok : HOk X.prog X.w H' h') (hg : AllBare g') :
  Inv X pins σ H' { s with heap := h', gens := g', drawn := d', toks := t' } := by
 have neL : ∀ b o, X.s₀.heap.get? b = some o → b ≠ X.env.locals := fun b o e => Nat.ne_of_lt (Nat.lt_of_lt_of_le (Heap.lt_size e) I.ok.above)
 have neC : ∀ b o, X.s₀.heap.get? b = some o → b ∉ X.ex → b ∉ ch := fun b o e hx hb => by
  rcases (hch b hb).1 with z | z
  ·exact hx z
  ·exact absurd (Nat.lt_of_lt_of_le (Heap.lt_size e) z) (Nat.lt_irrefl _)
 have cellK : ∀ x c, X.env.cells.lookup x = some c → ∀ v, s.heap.IsCell c v → h'.IsCell c v := fun x c e v ⟨o, ho, hd⟩ => by
  have nch : c ∉ ch := fun z => (hch c z).2.2.1 x c e rfl
  by_cases hc : c ∈ X.fs
  ·obtain ⟨sl, q⟩ := slot c o (I.cne x c e) hc nch ho (I.freeC x c e)
   exact ⟨_, q, hd⟩
  ·exact ⟨o, keep c o (I.cne x c e) hc nch ho (I.freeC x c e), hd⟩
 refine ⟨I.ok, I.os, hg, ⟨fun b o e n hb hx => ?_, fun b o e n hb hx => ?_, fun b o e n hx => ?_, fun b o e hx => ?_, fun b xs e => tups b xs (I.base.tups b xs e), fun b o xs e => frzs b o xs (I.base.frzs b o xs e), fun b ps e => ?_⟩, ?_, fun x c e => ?_, ?_, fun x c e => ?_, fun p hp => ?_, hok, I.len⟩
 ·exact keep b o (neL b o e) hb (neC b o e hx) (I.base.keep b o e n hb hx) (I.base.free b o e n hx)
 ·obtain ⟨sl, e1⟩ := I.base.slot b o e n hb hx
  obtain ⟨sl', e2⟩ := slot b _ (neL b o e) hb (neC b o e hx) e1 (I.base.free b o e n hx)
  exact ⟨sl', e2⟩
 ·obtain ⟨o', e1⟩ := I.base.there b o e hx
  exact free b o' (neC b o e hx) e1 (I.base.free b o e n hx)
 ·obtain ⟨o', e1⟩ := I.base.there b o e hx
  exact there b o' (neC b o e hx) e1
 ·obtain ⟨m1, e1⟩ := I.base.tbls b ps e
  obtain ⟨m2, e2⟩ := tbls b _ e1
  exact ⟨m1 ++ m2, by rw [e2, Array.append_assoc]⟩
 ·obtain ⟨m, hn, hl⟩ := I.loc
  refine ⟨m, ns m hn, fun i x v e1 e2 e3 => ?_⟩
  obtain ⟨u, r, l⟩ := hl i x v e1 e2 e3
  refine ⟨u, r, ?_⟩
  rcases l with l | ⟨k, c, e, z⟩
  ·exact .inl l
  ·exact .inr ⟨k, c, e, cellK x c e _ z⟩
 ·obtain ⟨v, z⟩ := I.cell x c e
  exact ⟨v, cellK x c e v z⟩
 ·obtain ⟨m, ⟨o, _, _, ho, _⟩, _⟩ := I.loc
  exact free _ o (fun z => (hch _ z).2.1 rfl) ho I.free
 ·obtain ⟨v, o, ho, hd⟩ := I.cell x c e
  exact free c o (fun z => (hch c z).2.2.1 x c e rfl) ho (I.freeC x c e)
 ·obtain ⟨e, n, ne, nf, d⟩ := I.pin p hp
  have nch : p.1 ∉ ch := fun z => (hch p.1 z).2.2.2 p hp rfl
  exact ⟨keep p.1 p.2 ne nf nch e n, free p.1 p.2 nch e n, ne, nf, d⟩
theorem Inv.un {t' : Nat} (I : Inv X pins σ H s) (u : Un X.fs [] H H' s.heap h') (hok : HOk X.prog X.w H' h') : Inv X pins σ H' { s with heap := h', toks := t' } := by
 obtain ⟨m, ⟨o, es, ep, ho, r⟩, _⟩ := id I.loc
 obtain ⟨sl, hL⟩ := u.any ho I.free (by simp)
 exact I.step (g' := s.gens) (d' := s.drawn) (ch := []) (fun _ z => nomatch z) (fun b o _ hb _ e n => u.keep b o e n hb (by simp)) (fun b o _ hb _ e n => u.slot b o e n hb (by simp)) (fun b o _ e n => u.free b o e n (by simp)) (fun b o _ e => u.there b o e (by simp)) u.tups u.frzs u.tbls (fun m' hm => by
  obtain ⟨o', es', ep', ho', r'⟩ := hm
  rw [ho] at ho'; cases ho'
  exact ⟨_, es', ep', hL, r'⟩) hok I.bare
theorem Inv.call {g' : Array GenState} {t' : Nat} {d' : Drawn} {ch : List Addr} (I : Inv X pins σ H s) (u : Un (frs X.stack) ch H H' s.heap h') (hok : HOk X.prog X.w H' h') (hg : AllBare g')
  (hch : ∀ b ∈ ch, (b ∈ X.ex ∨ X.s₀.heap.objs.size ≤ b) ∧ b ≠ X.env.locals ∧ (∀ x c, X.env.cells.lookup x = some c → c ≠ b) ∧ ∀ p ∈ X.pn ++ pins, p.1 ≠ b) :
  Inv X pins σ H' { s with heap := h', gens := g', drawn := d', toks := t' } := by
 obtain ⟨m, ⟨o, es, ep, ho, r⟩, _⟩ := id I.loc
 obtain ⟨sl, hL⟩ := u.any ho I.free fun z => (hch _ z).2.1 rfl
 exact I.step (ch := ch) hch (fun b o hL hb hc e n => u.keep b o e n (fun z => (List.mem_cons.mp (I.stkSub b z)).elim hL hb) hc) (fun b o _ _ hc e n => u.any e n hc) (fun b o hc e n => u.free b o e n hc) (fun b o hc e => u.there b o e hc) u.tups u.frzs u.tbls (fun m' hm => by
  obtain ⟨o', es', ep', ho', r'⟩ := hm
  rw [ho] at ho'; cases ho'
  exact ⟨_, es', ep', hL, r'⟩) hok hg
theorem Inv.turned {t' : Nat} {it : Addr} (I : Inv X pins σ H s) (k : ∀ b o, b ≠ it → s.heap.get? b = some o → h'.get? b = some o) (hn : H it = none) (hL : it ≠ X.env.locals)
  (h1 : it ∈ X.ex ∨ X.s₀.heap.objs.size ≤ it) (h2 : ∀ x c, X.env.cells.lookup x = some c → c ≠ it) (h3 : ∀ p ∈ X.pn ++ pins, p.1 ≠ it) : Inv X pins σ H { s with heap := h', toks := t' } := by
 have nit : ∀ b u, H b = some u → b ≠ it := fun b u e z => by rw [z, hn] at e; cases e
 refine I.step (g' := s.gens) (d' := s.drawn) (ch := [it]) (fun b hb => ?_) (fun b o _ _ hc e _ => k b o (fun z => hc (by simp [z])) e) (fun b o _ _ hc e _ => ⟨o.slots, k b o (fun z => hc (by simp [z])) e⟩) (fun _ _ _ _ n => n)
  (fun b o hc e => ⟨o, k b o (fun z => hc (by simp [z])) e⟩) (fun _ _ e => e) (fun _ _ _ e => e) (fun b ps e => ⟨#[], by rw [e]; simp⟩) (fun m hm => ?_) (fun b u e => ?_) I.bare
 ·have e : b = it := by simpa using hb
  subst e
  exact ⟨h1, hL, h2, h3⟩
 ·obtain ⟨o, es, ep, ho, r⟩ := hm
  exact ⟨o, es, ep, k _ o (Ne.symm hL) ho, r⟩
 ·refine (I.hok b u e).stay (fun c v hc q => k c v ?_ q) (fun _ q => q) fun _ _ q => q
  rcases hc with z | z
  ·rw [z]; exact nit b u e
  ·exact nit c _ z
theorem Inv.tok (I : Inv X pins σ H s) (t : Nat) : Inv X pins σ H { s with toks := t } := I.un (h' := s.heap) (t' := t) Un.refl I.hok
theorem Inv.kept {t' : Nat} (I : Inv X pins σ H s) (k : ∀ b u, s.heap.get? b = some u → h'.get? b = some u) : Inv X pins σ H { s with heap := h', toks := t' } := I.un (Un.kept k) (I.hok.kept k)
theorem Inv.laid {a : Addr} {o : HO} {t' : Nat} (I : Inv X pins σ H s) (k : ∀ b u, s.heap.get? b = some u → h'.get? b = some u) (hp : s.heap.objs.size ≤ a) (new : yY5 X.prog X.w (upd H a o) h' a o) :
  Inv X pins σ (upd H a o) { s with heap := h', toks := t' } := I.un (Un.laid k hp (I.hok.fresh hp)) (I.hok.laid k hp new)
theorem Inv.write {x e : Addr} {o : HO} {t' : Nat} (I : Inv X pins σ H s) (mu : Mut (H x)) (he : e = x ∨ H e = some (.own x)) (k : ∀ b u, b ≠ e → s.heap.get? b = some u → h'.get? b = some u) (heo : ∃ u, h'.get? e = some u)
  (new : yY5 X.prog X.w (upd H x o) h' x o) : Inv X pins σ (upd H x o) { s with heap := h', toks := t' } := I.un (Un.write mu he k heo) (I.hok.write mu he k heo new)
theorem Inv.pins_of {pins' : List (Addr × Obj)} (I : Inv X pins σ H s) (h : ∀ p ∈ pins', s.heap.get? p.1 = some p.2 ∧ H p.1 = none ∧ p.1 ≠ X.env.locals ∧ p.1 ∉ X.fs ∧ ∀ v, p.2.data ≠ .cell v) : Inv X pins' σ H s :=
 ⟨I.ok, I.os, I.bare, I.base, I.loc, I.cell, I.free, I.freeC, fun p hp => (List.mem_append.mp hp).elim (fun z => I.pin p (List.mem_append_left _ z)) (h p), I.hok, I.len⟩
theorem nodup_ix {N : List Str} (hN : N.Nodup) {i j : Nat} {x : Str} (a : N[i]? = some x) (b : N[j]? = some x) : i = j := by
 obtain ⟨h1, e1⟩ := List.getElem?_eq_some_iff.mp a
 obtain ⟨h2, e2⟩ := List.getElem?_eq_some_iff.mp b
 exact (List.getElem_inj hN).mp (e1.trans e2.symm)
theorem store_ok2 {M : Model} {A : Around} {E : Value → Shared → Prop} {i : Nat} {x : Str} {v : V} {u : Value} {Q : Unit → Shared → Prop} (I : Inv X pins σ H s) (hN : X.N.Nodup) (hi : X.N[i]? = some x) (hx : Loc X.env.scope x) (r : RelV v u)
  (h : ∀ s', Inv X pins (σ.set i (some v)) H s' → (∃ a, Heap.SameBut a s.heap s'.heap ∧ (a = X.env.locals ∨ X.env.cells.lookup x = some a)) → Q () s') (hf : X.fn x = true ∨ X.env.scope.names.lookup x = some .local := by first | exact .inl rfl | exact .inr rfl | assumption) : wpAny M A (storeName X.env x u) Q E s := by
 obtain ⟨m, hn, hl⟩ := id I.loc
 have hcls : (X.env.scope.kind == .class || (X.env.scope.kind == .module && X.env.locals != X.env.globals)) = false := by rw [I.ok.kind]; rfl
 have hiσ : i < σ.length := by rw [I.len]; exact (List.getElem?_eq_some_iff.mp hi).1
 have cne := I.cne
 have tracked : ∀ {a : Addr} {h' : Heap}, (∃ o, s.heap.get? a = some o ∧ H a = none) → Heap.SameBut a s.heap h' → HOk X.prog X.w H h' := fun {a h'} ha hs b ob e => by
  obtain ⟨_, _, hfree⟩ := ha
  refine (I.hok b ob e).stay (fun c w' hc q => (hs.2 c ?_).trans q) (fun _ q => q) fun _ _ q => q
  rintro rfl
  rcases hc with rfl | hc
  ·rw [hfree] at e; cases e
  ·rw [hfree] at hc; cases hc
 rcases hx with hk | hk
 ·refine wpAny_storeName_local hk hn (fun h' hn' hs => ?_) hcls
  obtain ⟨oL, _, _, hoL, _⟩ := id hn
  refine h _ ⟨I.ok, I.os, I.bare, ⟨fun b o e n hb hx => ?_, fun b o e n hb hx => ?_, I.base.free, fun b o e hx => ?_, I.base.tups, I.base.frzs, I.base.tbls⟩, ⟨_, hn', fun j y v' e1 e2 e3 => ?_⟩, fun y c e => ?_, I.free, I.freeC, fun p hp => ?_, tracked ⟨oL, hoL, I.free⟩ hs, by simpa using I.len⟩ ⟨_, hs, .inl rfl⟩
  ·exact (hs.2 b (Nat.ne_of_lt (Nat.lt_of_lt_of_le (Heap.lt_size e) I.ok.above))).trans (I.base.keep b o e n hb hx)
  ·obtain ⟨sl, e1⟩ := I.base.slot b o e n hb hx
   exact ⟨sl, (hs.2 b (Nat.ne_of_lt (Nat.lt_of_lt_of_le (Heap.lt_size e) I.ok.above))).trans e1⟩
  ·obtain ⟨o', e1⟩ := I.base.there b o e hx
   exact ⟨o', (hs.2 b (Nat.ne_of_lt (Nat.lt_of_lt_of_le (Heap.lt_size e) I.ok.above))).trans e1⟩
  ·by_cases hj : j = i
   ·subst hj
    rw [hi] at e1; cases e1
    rw [List.getElem?_set_self hiσ] at e2
    cases e2
    exact ⟨u, r, .inl ⟨hk, by simp⟩⟩
   ·rw [List.getElem?_set_ne (Ne.symm hj)] at e2
    obtain ⟨u', r', q⟩ := hl j y v' e1 e2 e3
    refine ⟨u', r', ?_⟩
    rcases q with ⟨k, e⟩ | ⟨k, c, e, z⟩
    ·refine .inl ⟨k, ?_⟩
     have : y ≠ x := fun e => hj (nodup_ix hN e1 (e ▸ hi))
     simp [this, e]
    ·exact .inr ⟨k, c, e, z.sameBut hs (cne y c e)⟩
  ·obtain ⟨w', z⟩ := I.cell y c e
   exact ⟨w', z.sameBut hs (cne y c e)⟩
  ·obtain ⟨e, n, ne, nf, d⟩ := I.pin p hp
   exact ⟨(hs.2 p.1 ne).trans e, n, ne, nf, d⟩
 ·have hfn : X.fn x = true := by
   rcases hf with z | z
   ·exact z
   ·rw [z] at hk; cases hk
  obtain ⟨c, hc⟩ := I.ok.has x (.inl hk)
  obtain ⟨w', z⟩ := I.cell x c hc
  refine wpAny_storeName_cell I.ok.kind hk hc z (fun h' hc' hs => ?_)
  obtain ⟨oc, hoc, hocd⟩ := id z
  refine h { s with heap := h' } ⟨I.ok, I.os, I.bare, ⟨fun b o e n hb hx => ?_, fun b o e n hb hx => ?_, I.base.free, fun b o e hx => ?_, I.base.tups, I.base.frzs, I.base.tbls⟩, ⟨m, hn.sameBut hs (Ne.symm (cne x c hc)), fun j y v' e1 e2 e3 => ?_⟩, fun y c' e => ?_, I.free, I.freeC, fun p hp => ?_, tracked ⟨oc, hoc, I.freeC x c hc⟩ hs, by simpa using I.len⟩ ⟨c, hs, .inr hc⟩
  ·exact (hs.2 b (Nat.ne_of_lt (Nat.lt_of_lt_of_le (Heap.lt_size e) (I.ok.cab x c hfn hc)))).trans (I.base.keep b o e n hb hx)
  ·obtain ⟨sl, e1⟩ := I.base.slot b o e n hb hx
   exact ⟨sl, (hs.2 b (Nat.ne_of_lt (Nat.lt_of_lt_of_le (Heap.lt_size e) (I.ok.cab x c hfn hc)))).trans e1⟩
  ·obtain ⟨o', e1⟩ := I.base.there b o e hx
   exact ⟨o', (hs.2 b (Nat.ne_of_lt (Nat.lt_of_lt_of_le (Heap.lt_size e) (I.ok.cab x c hfn hc)))).trans e1⟩
  ·by_cases hj : j = i
   ·subst hj
    rw [hi] at e1; cases e1
    rw [List.getElem?_set_self hiσ] at e2
    cases e2
    exact ⟨u, r, .inr ⟨.inl hk, c, hc, hc'⟩⟩
   ·rw [List.getElem?_set_ne (Ne.symm hj)] at e2
    obtain ⟨u', r', q⟩ := hl j y v' e1 e2 e3
    refine ⟨u', r', ?_⟩
    rcases q with q | ⟨k, c', e, z'⟩
    ·exact .inl q
    ·refine .inr ⟨k, c', e, z'.sameBut hs ?_⟩
     rintro rfl
     exact hj (nodup_ix hN e1 (I.ok.inj _ _ _ e hc ▸ hi))
  ·by_cases hcc : c' = c
   ·subst hcc; exact ⟨_, hc'⟩
   ·obtain ⟨w2, z2⟩ := I.cell y c' e
    exact ⟨w2, z2.sameBut hs hcc⟩
  ·obtain ⟨e, n, ne, nf, d⟩ := I.pin p hp
   refine ⟨(hs.2 p.1 ?_).trans e, n, ne, nf, d⟩
   intro q
   rw [q, hoc] at e
   have q' : oc = p.2 := Option.some.inj e
   exact d w' (by rw [← q']; exact hocd)
theorem store_ok {M : Model} {A : Around} {E : Value → Shared → Prop} {i : Nat} {x : Str} {v : V} {u : Value} {Q : Unit → Shared → Prop} (I : Inv X pins σ H s) (hN : X.N.Nodup) (hi : X.N[i]? = some x) (hx : Loc X.env.scope x) (r : RelV v u)
  (h : ∀ s', Inv X pins (σ.set i (some v)) H s' → Q () s') (hf : X.fn x = true ∨ X.env.scope.names.lookup x = some .local := by first | exact .inl rfl | exact .inr rfl | assumption) : wpAny M A (storeName X.env x u) Q E s :=
 store_ok2 I hN hi hx r (fun s' I' _ => h s' I') hf
theorem Inv.call' {s' : Shared} {ch : List Addr} (I : Inv X pins σ H s) (ho : s'.os = s.os) (u : Un (frs X.stack) ch H H' s.heap s'.heap) (hok : HOk X.prog X.w H' s'.heap) (hg : AllBare s'.gens)
  (hch : ∀ b ∈ ch, (b ∈ X.ex ∨ X.s₀.heap.objs.size ≤ b) ∧ b ≠ X.env.locals ∧ (∀ x c, X.env.cells.lookup x = some c → c ≠ b) ∧ ∀ p ∈ X.pn ++ pins, p.1 ≠ b) : Inv X pins σ H' s' := by
 obtain ⟨h', g', d', t', o'⟩ := s'
 have e : o' = s.os := ho
 subst e
 exact I.call (g' := g') (t' := t') (d' := d') u hok hg hch
end
abbrev XK := Value → Option Addr → Hp → Prop
abbrev St := List (Option V)
abbrev VK := V → Hp → Prop
abbrev TE := St → Hp → VK → Prop
abbrev TT := St → Hp → (Bool → Hp → Prop) → Prop
abbrev TA := St → Hp → (List V → Hp → Prop) → Prop
structure Ends where
 nx : St → Hp → Prop
 rt : VK
 bk : St → Hp → Prop := fun _ _ => False
 ct : St → Hp → Prop := fun _ _ => False
abbrev TS := Ends → St → Hp → Prop
def EP (X : Cx) (pins : List (Addr × Obj)) (σ : St) (Q : VK) (u : Value) (s' : Shared) : Prop := ∃ v H', Inv X pins σ H' s' ∧ RelV v u ∧ Q v H'
def TP (X : Cx) (pins : List (Addr × Obj)) (σ : St) (Q : Bool → Hp → Prop) (b : Bool) (s' : Shared) : Prop := ∃ H', Inv X pins σ H' s' ∧ Q b H'
def AP (X : Cx) (pins : List (Addr × Obj)) (σ : St) (Q : List V → Hp → Prop) (us : List Value) (s' : Shared) : Prop := ∃ vs H', Inv X pins σ H' s' ∧ Vals vs us ∧ Q vs H'
def SP (X : Cx) (pins : List (Addr × Obj)) (D : Ends) (f : Flow) (s' : Shared) : Prop :=
 match f with
 | .next => ∃ σ' H', Inv X pins σ' H' s' ∧ D.nx σ' H'
 | .brk => ∃ σ' H', Inv X pins σ' H' s' ∧ D.bk σ' H'
 | .cont => ∃ σ' H', Inv X pins σ' H' s' ∧ D.ct σ' H'
 | .ret u => ∃ v σ' H', Inv X pins σ' H' s' ∧ RelV v u ∧ D.rt v H'
def PE (X : Cx) (e : Expr) (t : TE) : Prop :=
 ∀ (pins : List (Addr × Obj)) (s : Shared) (σ : St) (H : Hp) (Q : VK), Inv X pins σ H s → t σ H Q → wpAny (model X.prog X.w) X.A (eval e X.env) (EP X pins σ Q) X.xe s
def PT (X : Cx) (e : Expr) (t : TT) : Prop :=
 ∀ (pins : List (Addr × Obj)) (s : Shared) (σ : St) (H : Hp) (Q : Bool → Hp → Prop), Inv X pins σ H s → t σ H Q → wpAny (model X.prog X.w) X.A (isTrue e X.env (eval e X.env)) (TP X pins σ Q) X.xe s
def PW (X : Cx) (e : Expr) (t : TT) : Prop :=
 ∀ (whole : Sem Value) (pins : List (Addr × Obj)) (s : Shared) (σ : St) (H : Hp) (Q : Bool → Hp → Prop), Inv X pins σ H s → t σ H Q → wpAny (model X.prog X.w) X.A (isTrue e X.env whole) (TP X pins σ Q) X.xe s
theorem PW.pt {X : Cx} {e : Expr} {t : TT} (h : PW X e t) : PT X e t := h _
def PA (X : Cx) (es : List Expr) (t : TA) : Prop :=
 ∀ (pos : Pos) (pins : List (Addr × Obj)) (s : Shared) (σ : St) (H : Hp) (Q : List V → Hp → Prop), Inv X pins σ H s → t σ H Q → wpAny (model X.prog X.w) X.A (spliced (backTo pos (starEach es X.env))) (AP X pins σ Q) X.xe s
def PS (X : Cx) (st : Stmt) (t : TS) : Prop :=
 ∀ (pins : List (Addr × Obj)) (s : Shared) (σ : St) (H : Hp) (D : Ends), Inv X pins σ H s → t D σ H → wpAny (model X.prog X.w) X.A (exec st X.env) (SP X pins D) X.xe s
def PSs (X : Cx) (st : List Stmt) (t : TS) : Prop :=
 ∀ (pins : List (Addr × Obj)) (s : Shared) (σ : St) (H : Hp) (D : Ends), Inv X pins σ H s → t D σ H → wpAny (model X.prog X.w) X.A (execs st X.env) (SP X pins D) X.xe s
theorem thn {α : Type} {t : Sem α} {Q Q' : α → Shared → Prop} {M : Model} {A : Around} {E : Value → Shared → Prop} {s : Shared} (h : wpAny M A t Q E s) (hQ : ∀ a s, Q a s → Q' a s) : wpAny M A t Q' E s := wpAny_mono h hQ fun _ _ x => x
end L2
namespace L2
open PySem PySem.Spec PyProof.Rows
section
variable {X : Cx}
inductive tVar (i : Nat) (σ : St) (H : Hp) (Q : VK) : Prop where
 | mk (v : _) (h1 : σ[i]? = some (some v)) (h2 : Q v H) : tVar i σ H Q
def tC (v : V) : TE := fun _ H Q => Q v H
theorem pe_var {i : Nat} {x : Str} {pos : Pos} (hN : X.N[i]? = some x) (hv : Vis X.env.scope x) (hd : (x == ("__debug__" : Str)) = false := by decide) (hcd : (x == ("__classdict__" : Str)) = false := by decide) : PE X (.Name x pos) (tVar i) := by
 intro pins s σ H Q I h
 obtain ⟨v, e, h⟩ := h
 obtain ⟨m, hn, hl⟩ := I.loc
 obtain ⟨u, r, l⟩ := hl i x v hN e hv
 have fin : EP X pins σ Q u s := ⟨v, H, I, r, h⟩
 rcases l with ⟨hk, hm⟩ | ⟨hk, c, hc, hcell⟩
 ·exact wpAny_Name (wpAny_loadName_local I.ok.kind hk hn hm fin) hd
 ·rcases hk with hk | hk
  ·exact wpAny_Name (wpAny_loadName_cell I.ok.kind hk hc hcell fin) hd
  ·exact wpAny_Name (wpAny_loadName_free I.ok.kind hk hc hcell fin hcd) hd
theorem xU5 {i j pos} : PE X (.Constant (.int i) j pos) (tC (.int i)) := fun _ _ _ H _ I h => wpAny_Constant_int ⟨.int i, H, I.tok _, ⟨_, rfl⟩, h⟩
theorem xY1 {b j pos} : PE X (.Constant (.bool b) j pos) (tC (.bl b)) := fun _ _ _ H _ I h => Constant_bool ⟨.bl b, H, I, rfl, h⟩
theorem yZ1 {j pos} : PE X (.Constant .none j pos) (tC .non) := fun _ _ _ H _ I h => Constant_none ⟨.non, H, I, rfl, h⟩
theorem xY8 {x j pos} : PE X (.Constant (.str x) j pos) (tC (.str x)) := fun _ _ _ H _ I h => Calls.Constant_str ⟨.str x, H, I.tok _, ⟨_, rfl⟩, h⟩
def Gl (X : Cx) (x : Str) : Prop := X.env.kindOf x = some .globalImplicit
theorem vU2 {E : Value → Shared → Prop} {pins : List (Addr × Obj)} {s : Shared} {σ : St} {H : Hp} {x : Str} {u : Value} {pos : Pos} {Q : Value → Shared → Prop} (I : Inv X pins σ H s) (hg : Gl X x) (hm : X.mg x = some u) (h : Q u s)
  (hd : (x == ("__debug__" : Str)) = false := by decide) : wpAny (model X.prog X.w) X.A (eval (.Name x pos) X.env) Q E s :=
 Calls.Name_function_global I.ok.kind hg (Calls.loadGlobal_global (by rw [I.ok.glob]; exact I.mod.glob.keeps I.bk) hm h) hd
theorem ld_blt {E : Value → Shared → Prop} {pins : List (Addr × Obj)} {s : Shared} {σ : St} {H : Hp} {x : Str} {u : Value} {pos : Pos} {Q : Value → Shared → Prop} (I : Inv X pins σ H s) (hg : Gl X x) (hm : X.mg x = none) (hv : bootBuiltins x = some u) (h : Q u s)
  (hn : x ≠ "__name__" := by decide) (hd : (x == ("__debug__" : Str)) = false := by decide) : wpAny (model X.prog X.w) X.A (eval (.Name x pos) X.env) Q E s := by
 obtain ⟨mb, h1, h2⟩ := I.mod.blt
 exact Calls.Name_function_global I.ok.kind hg (Calls.loadGlobal_builtin (by rw [I.ok.glob]; exact I.mod.glob.keeps I.bk) hm (by rw [I.ok.blt]; exact h1.keeps I.bk) ((h2 x hn).trans hv) h) hd
theorem pe_glob {x : Str} {v : V} {u : Value} {pos : Pos} (hg : Gl X x) (hm : X.mg x = some u) (r : RelV v u) (hd : (x == ("__debug__" : Str)) = false := by decide) : PE X (.Name x pos) (tC v) :=
 fun _ _ _ H _ I h => vU2 I hg hm ⟨v, H, I, r, h⟩ hd
theorem pe_bltn {x : Str} {v : V} {u : Value} {pos : Pos} (hg : Gl X x) (hm : X.mg x = none) (hv : bootBuiltins x = some u) (r : RelV v u) (hn : x ≠ "__name__" := by decide) (hd : (x == ("__debug__" : Str)) = false := by decide) : PE X (.Name x pos) (tC v) :=
 fun _ _ _ H _ I h => ld_blt I hg hm hv ⟨v, H, I, r, h⟩ hn hd
variable {a b : Expr} {ta tb : TE} {pos : Pos}
inductive tB_ (Q : Bool → Hp → Prop) (x : V) (H1 : Hp) : Prop where
 | mk (c : _) (h1 : x = .bl c) (h2 : Q c H1) : tB_ Q x H1
def tB (t : TE) : TT := fun σ H Q => t σ H fun x H1 => tB_ Q x H1
theorem xW8 {e : Expr} {t : TE} (h : PE X e t) (he : ∀ whole, isTrue e X.env whole = (do let v ← whole; standAt e.pos; holding [v] (truthy v)) := by intro _; rfl) : PT X e (tB t) := by
 intro pins s σ H Q I hw
 refine isTrue_plain (thn (h pins s σ H _ I hw) fun v s1 ⟨x, H1, I1, r1, q1⟩ => ?_) (he _)
 obtain ⟨d, rfl, q⟩ := q1
 cases r1
 exact wpAny_truthy_bool ⟨H1, I1, q⟩
variable {tA tB' : TT} {rest : List Expr}
def tAnd (t u : TT) : TT := fun σ H Q => t σ H fun c H1 => if c = true then u σ H1 Q else Q false H1
def tOr (t u : TT) : TT := fun σ H Q => t σ H fun c H1 => if c = true then Q true H1 else u σ H1 Q
def tNot (t : TT) : TT := fun σ H Q => t σ H fun c H1 => Q (!c) H1
theorem pw_and1 (ha : PT X a tA) : PW X (.BoolOp .And [a] pos) tA := by
 intro wh pins s σ H Q I h
 refine isTrue_and (thn (ha pins s σ H Q I h) fun c s1 e => ?_)
 cases c with
 | true => exact isTrue_and_nil e
 | false => exact e
theorem xZ1 (ha : PT X a tA) : PW X (.BoolOp .Or [a] pos) tA := by
 intro wh pins s σ H Q I h
 refine isTrue_or (thn (ha pins s σ H Q I h) fun c s1 e => ?_)
 cases c with
 | false => exact isTrue_or_nil e
 | true => exact e
theorem pw_and (ha : PT X a tA) (hb : PW X (.BoolOp .And (b :: rest) pos) tB') : PW X (.BoolOp .And (a :: b :: rest) pos) (tAnd tA tB') := by
 intro wh pins s σ H Q I h
 refine isTrue_and (thn (ha pins s σ H _ I h) fun c s1 ⟨H1, I1, q1⟩ => ?_)
 cases c with
 | true => exact hb wh pins s1 σ H1 Q I1 q1
 | false => exact ⟨H1, I1, q1⟩
theorem xQ1 (ha : PT X a tA) (hb : PW X (.BoolOp .Or (b :: rest) pos) tB') : PW X (.BoolOp .Or (a :: b :: rest) pos) (tOr tA tB') := by
 intro wh pins s σ H Q I h
 refine isTrue_or (thn (ha pins s σ H _ I h) fun c s1 ⟨H1, I1, q1⟩ => ?_)
 cases c with
 | true => exact ⟨H1, I1, q1⟩
 | false => exact hb wh pins s1 σ H1 Q I1 q1
theorem xW0 (ha : PT X a tA) : PT X (.UnaryOp .Not a pos) (tNot tA) := by
 intro pins s σ H Q I h
 exact isTrue_not (ha pins s σ H (fun c H1 => Q (!c) H1) I h)
inductive tAndV_ (tb : TE) (σ : St) (Q : VK) (x : V) (H1 : Hp) : Prop where
 | mk (c : _) (h1 : x = .bl c) (h2 : if c = true then tb σ H1 Q else Q (.bl false) H1) : tAndV_ tb σ Q x H1
def tAndV (ta tb : TE) : TE := fun σ H Q => ta σ H fun x H1 => tAndV_ tb σ Q x H1
inductive tNotV_ (Q : VK) (x : V) (H1 : Hp) : Prop where
 | mk (c : _) (h1 : x = .bl c) (h2 : Q (.bl (!c)) H1) : tNotV_ Q x H1
def tNotV (ta : TE) : TE := fun σ H Q => ta σ H fun x H1 => tNotV_ Q x H1
theorem vX6 {op} {t : TE} (h : PE X a t) : PE X (.BoolOp op [a] pos) t := fun pins s σ H Q I hw => BoolOp_one (h pins s σ H Q I hw)
theorem vV5 (ha : PE X a ta) (hb : PE X (.BoolOp .And (b :: rest) pos) tb) : PE X (.BoolOp .And (a :: b :: rest) pos) (tAndV ta tb) := by
 intro pins s σ H Q I h
 refine BoolOp_and (thn (ha pins s σ H _ I h) fun v s1 ⟨x, H1, I1, r1, q1⟩ => ?_)
 obtain ⟨c, rfl, q1⟩ := q1
 cases r1
 refine wpAny_truthy_bool ?_
 cases c with
 | true => exact hb pins s1 σ H1 Q I1 q1
 | false => exact ⟨.bl false, H1, I1, rfl, q1⟩
theorem pe_not (ha : PE X a ta) : PE X (.UnaryOp .Not a pos) (tNotV ta) := by
 intro pins s σ H Q I h
 refine UnaryOp_ (thn (ha pins s σ H _ I h) fun v s1 ⟨x, H1, I1, r1, q1⟩ => ?_)
 obtain ⟨c, rfl, q1⟩ := q1
 cases r1
 exact not_of (wpAny_truthy_bool ⟨.bl (!c), H1, I1, rfl, q1⟩)
end
end L2
namespace L2
open PySem PySem.Spec PyProof.Rows
def SqL (K : PySem.W.Frag) (H : Hp) (a : Addr) (xs : List V) : Prop :=
 Rd H a (.lst xs) ∨
  ∃ (o : Obj) (its : Array Value) (n : Nat), K.lookup a = some o ∧ o.cls = .type "list" ∧ o.dict = none ∧ o.data = .seq its n ∧ its.size ≤ sizeLine ∧ Vals xs its.toList
def SqT (K : PySem.W.Frag) (H : Hp) (a : Addr) (xs : List V) : Prop :=
 Rd H a (.tup xs) ∨
  ∃ (o : Obj) (its : Array Value) (n : Nat), K.lookup a = some o ∧ o.cls = .type "tuple" ∧ o.data = .seq its n ∧ its.size ≤ sizeLine ∧ Vals xs its.toList
def absV : Value → Option V
 | .none => some .non
 | .bool b => some (.bl b)
 | .int i _ => some (.int i)
 | .str x _ => some (.str x)
 | .bytes b _ => some (.byt b)
 | .float b _ => some (.flt b)
 | .ref a => some (.ref a)
 | .type n => some (.ty n)
 | _ => none
theorem RelV.abs {x : V} {u : Value} (r : RelV x u) : absV u = some x := by
 cases x with
 | non => cases r; rfl
 | bl _ => cases r; rfl
 | int _ => obtain ⟨t, rfl⟩ := r; rfl
 | str _ => obtain ⟨t, rfl⟩ := r; rfl
 | byt _ => obtain ⟨t, rfl⟩ := r; rfl
 | flt _ => obtain ⟨t, rfl⟩ := r; rfl
 | ref _ => cases r; rfl
 | ty _ => cases r; rfl
theorem RelV.inj {x y : V} {u : Value} (r : RelV x u) (q : RelV y u) : x = y := Option.some.inj (r.abs.symm.trans q.abs)
theorem Vals.inj : ∀ {xs ys : List V} {us : List Value}, Vals xs us → Vals ys us → xs = ys
 | _, _, _, .nil, .nil => rfl
 | _, _, _, .cons r t, .cons r' t' => by rw [r.inj r', Vals.inj t t']
section
variable {X : Cx} {pins : List (Addr × Obj)} {σ : St} {H : Hp} {s : Shared} {a : Addr} {xs ys : List V}
theorem SqL.of {K : PySem.W.Frag} (h : H a = some (.lst xs)) : SqL K H a xs := .inl (.inl h)
theorem SqT.of {K : PySem.W.Frag} (h : H a = some (.tup xs)) : SqT K H a xs := .inl (.inl h)
theorem Inv.list (I : Inv X pins σ H s) (h : SqL X.K H a xs) : ∃ its : List Value, Vals xs its ∧ PlainL s.heap a its.toArray ∧ xs.length ≤ sizeLine := by
 rcases h with h | ⟨o, its, n, hk, hc, hd, hs, hz, r⟩
 ·obtain ⟨z, its, n, r, e⟩ := h.ok I.hok
  exact ⟨its, r, ⟨_, n, e, rfl, rfl, rfl⟩, z⟩
 ·refine ⟨its.toList, r, ⟨o, n, I.kIn a o hk, hc, hd, by simpa using hs⟩, ?_⟩
  have e := r.length
  simp only [Array.length_toList] at e
  omega
theorem Inv.tuple (I : Inv X pins σ H s) (h : SqT X.K H a xs) : ∃ its : List Value, Vals xs its ∧ IsTup s.heap a its.toArray ∧ xs.length ≤ sizeLine := by
 rcases h with h | ⟨o, its, n, hk, hc, hs, hz, r⟩
 ·obtain ⟨z, its, r, p⟩ := h.ok I.hok
  exact ⟨its, r, p, z⟩
 ·refine ⟨its.toList, r, ⟨o, I.kIn a o hk, hc, n, by simpa using hs⟩, ?_⟩
  have e := r.length
  simp only [Array.length_toList] at e
  omega
theorem Inv.list_inj (I : Inv X pins σ H s) (h : SqL X.K H a xs) (h' : SqL X.K H a ys) : xs = ys := by
 obtain ⟨its, r, ⟨o, n, e, _, _, d⟩, _⟩ := I.list h
 obtain ⟨its', r', ⟨o', n', e', _, _, d'⟩, _⟩ := I.list h'
 rw [e] at e'; cases e'
 rw [d] at d'
 injection d' with d1 _
 have : its = its' := by simpa using congrArg Array.toList d1
 subst this
 exact r.inj r'
theorem Inv.tuple_inj (I : Inv X pins σ H s) (h : SqT X.K H a xs) (h' : SqT X.K H a ys) : xs = ys := by
 obtain ⟨its, r, ⟨o, e, _, n, d⟩, _⟩ := I.tuple h
 obtain ⟨its', r', ⟨o', e', _, n', d'⟩, _⟩ := I.tuple h'
 rw [e] at e'; cases e'
 rw [d] at d'
 injection d' with d1 _
 have : its = its' := by simpa using congrArg Array.toList d1
 subst this
 exact r.inj r'
end
abbrev Cx.wish (X : Cx) (E : Value → Shared → Prop) : Cx := { X with xe := E }
abbrev Cx.nox (X : Cx) : Cx := X.wish fun _ _ => False
theorem Cx.Ok.wish {X : Cx} (ok : X.Ok) (E : Value → Shared → Prop) : (X.wish E).Ok :=
 ⟨ok.mod, ok.kind, ok.glob, ok.blt, ok.above, ok.inj, ok.has, ok.cab, ok.hd, ok.frames, ok.stk, ok.exf, ok.bs, ok.bsz, ok.noex, ok.exfs, ok.funs, ok.frf⟩
theorem Cx.Ok.unwish {X : Cx} {E : Value → Shared → Prop} (ok : (X.wish E).Ok) : X.Ok :=
 ⟨ok.mod, ok.kind, ok.glob, ok.blt, ok.above, ok.inj, ok.has, ok.cab, ok.hd, ok.frames, ok.stk, ok.exf, ok.bs, ok.bsz, ok.noex, ok.exfs, ok.funs, ok.frf⟩
section
variable {X : Cx} {pins : List (Addr × Obj)} {σ : St} {H : Hp} {s : Shared} {E : Value → Shared → Prop}
theorem Inv.wish (I : Inv X pins σ H s) (E : Value → Shared → Prop) : Inv (X.wish E) pins σ H s := ⟨I.ok.wish E, I.os, I.bare, I.base, I.loc, I.cell, I.free, I.freeC, I.pin, I.hok, I.len⟩
theorem Inv.unwish (I : Inv (X.wish E) pins σ H s) : Inv X pins σ H s := ⟨I.ok.unwish, I.os, I.bare, I.base, I.loc, I.cell, I.free, I.freeC, I.pin, I.hok, I.len⟩
theorem SP.unwish {D : Ends} {f : Flow} {s' : Shared} (h : SP (X.wish E) pins D f s') : SP X pins D f s' := by
 cases f with
 | next => obtain ⟨σ', H', I, q⟩ := h; exact ⟨σ', H', I.unwish, q⟩
 | brk => obtain ⟨σ', H', I, q⟩ := h; exact ⟨σ', H', I.unwish, q⟩
 | cont => obtain ⟨σ', H', I, q⟩ := h; exact ⟨σ', H', I.unwish, q⟩
 | ret u => obtain ⟨v, σ', H', I, r, q⟩ := h; exact ⟨v, σ', H', I.unwish, r, q⟩
theorem PSs.nox {st : List Stmt} {t : TS} (h : PSs X.nox st t) : PSs X st t := fun pins s σ H D I hw =>
 wpAny_mono (h pins s σ H D (I.wish _) hw) (fun _ _ q => q.unwish) fun _ _ z => False.elim z
end
section
variable {X : Cx} {st : Stmt} {rest : List Stmt} {t u : TS} {e : Expr} {te : TE} {pos : Pos}
def tNext : TS := fun D σ H => D.nx σ H
def tSeq (t u : TS) : TS := fun D σ H => t { D with nx := u D } σ H
theorem xV8 : PSs X [] tNext := fun _ _ σ H _ I h => wpAny_execs_nil ⟨σ, H, I, h⟩
theorem xU8 (h1 : PS X st t) (h2 : PSs X rest u) : PSs X (st :: rest) (tSeq t u) := by
 intro pins s σ H D I h
 refine wpAny_execs_cons (thn (h1 pins s σ H { D with nx := u D } I h) fun f s1 q => ?_)
 cases f with
 | next =>
  obtain ⟨σ', H', I', q⟩ := q
  exact h2 pins s1 σ' H' D I' q
 | ret v => exact q
 | brk => exact q
 | cont => exact q
theorem xU6 (h1 : PS X st t) : PSs X [st] t := by
 intro pins s σ H D I h
 refine wpAny_execs_cons (thn (h1 pins s σ H D I h) fun f s1 q => ?_)
 cases f with
 | next => exact wpAny_execs_nil q
 | ret v => exact q
 | brk => exact q
 | cont => exact q
theorem Inv.quiet {pins : List (Addr × Obj)} {σ : St} {H : Hp} {s : Shared} (I : Inv X pins σ H s) : interactive X.env = false := by simp [interactive, I.ok.kind]
def tDrop (te : TE) : TS := fun D σ H => te σ H fun _ H1 => D.nx σ H1
theorem xQ9 (he : PE X e te) (hs : swapsWith e none pos.line X.env = pure false := by rfl) : PS X (.Expr e pos) (tDrop te) := by
 intro pins s σ H D I h
 exact wpAny_Expr_any (thn (he pins s σ H _ I h) fun v s1 ⟨x, H1, I1, r1, q1⟩ => ⟨σ, H1, I1, q1⟩) I.quiet hs
def tRet (te : TE) : TS := fun D σ H => te σ H D.rt
theorem xU1 (he : PE X e te) : PS X (.Return (some e) pos) (tRet te) := by
 intro pins s σ H D I h
 exact wpAny_Return_some (thn (he pins s σ H _ I h) fun v s1 ⟨x, H1, I1, r1, q1⟩ => ⟨x, σ, H1, I1, r1, q1⟩)
def tIfS (c : TT) (t u : TS) : TS := fun D σ H => c σ H fun b H1 => if b = true then t D σ H1 else u D σ H1
theorem xW4 {c : Expr} {a b : List Stmt} {tc : TT} (hc : PT X c tc) (ha : PSs X a t) (hb : PSs X b u) : PS X (.If c a b pos) (tIfS tc t u) := by
 intro pins s σ H D I h
 refine wpAny_If (thn (hc pins s σ H _ I h) fun d s1 ⟨H1, I1, q1⟩ => ?_)
 cases d with
 | true => exact ha pins s1 σ H1 D I1 q1
 | false => exact hb pins s1 σ H1 D I1 q1
def tNever : TS := fun _ _ _ => False
theorem ps_never : PS X st tNever := fun _ _ _ _ _ _ h => h.elim
end
abbrev TG := V → St → Hp → (St → Hp → Prop) → Prop
abbrev TGs := List V → St → Hp → (St → Hp → Prop) → Prop
def PG (X : Cx) (target : Expr) (t : TG) : Prop :=
 ∀ (pins : List (Addr × Obj)) (s : Shared) (σ : St) (H : Hp) (v : V) (u : Value) (Q : St → Hp → Prop), Inv X pins σ H s → RelV v u → t v σ H Q →
  wpAny (model X.prog X.w) X.A (assign target X.env u) (fun _ s' => ∃ σ' H', Inv X pins σ' H' s' ∧ Q σ' H') X.xe s
def PGs (X : Cx) (ts : List Expr) (t : TGs) : Prop :=
 ∀ (pins : List (Addr × Obj)) (s : Shared) (σ : St) (H : Hp) (vs : List V) (us : List Value) (Q : St → Hp → Prop), Inv X pins σ H s → Vals vs us → t vs σ H Q →
  wpAny (model X.prog X.w) X.A (assignInOrder ((assignEach ts X.env).map (·.2)) us) (fun _ s' => ∃ σ' H', Inv X pins σ' H' s' ∧ Q σ' H') X.xe s
abbrev TSet := V → V → V → Hp → (Hp → Prop) → Prop
def PSet (X : Cx) (t : TSet) : Prop :=
 ∀ (pins : List (Addr × Obj)) (s : Shared) (σ : St) (H : Hp) (o i v : V) (ov iv u : Value) (Q : Hp → Prop), Inv X pins σ H s → RelV o ov → RelV i iv → RelV v u → t o i v H Q →
  wpAny (model X.prog X.w) X.A (setItem ov iv u) (fun _ s' => ∃ H', Inv X pins σ H' s' ∧ Q H') X.xe s
section
variable {X : Cx} {pos : Pos}
def yQ8 (i : Nat) : TG := fun v σ H Q => Q (σ.set i (some v)) H
theorem pg_name {i : Nat} {x : Str} (hN : X.N.Nodup) (hi : X.N[i]? = some x) (hx : Loc X.env.scope x) (hf : X.fn x = true ∨ X.env.scope.names.lookup x = some .local := by first | exact .inl rfl | exact .inr rfl | assumption) : PG X (.Name x pos) (yQ8 i) := by
 intro pins s σ H v u Q I r h
 exact wpAny_assign_Name (store_ok I hN hi hx r (fun s' I' => ⟨_, H, I', h⟩) hf)
inductive gNil (vs : List V) (σ : St) (H : Hp) (Q : St → Hp → Prop) : Prop where
 | mk (h1 : vs = []) (h2 : Q σ H) : gNil vs σ H Q
inductive gCons (t : TG) (u : TGs) (vs : List V) (σ : St) (H : Hp) (Q : St → Hp → Prop) : Prop where
 | mk (v : _) (r : _) (h1 : vs = v :: r) (h2 : t v σ H fun σ' H' => u r σ' H' Q) : gCons t u vs σ H Q
theorem pgs_nil : PGs X [] gNil := by
 intro pins s σ H vs us Q I r h
 obtain ⟨e, h⟩ := h
 subst e
 cases r
 exact assignInOrder_nil ⟨σ, H, I, h⟩
theorem pgs_cons {e : Expr} {es : List Expr} {t : TG} {u : TGs} (h1 : PG X e t) (h2 : PGs X es u)
  (hs : (assignEach (e :: es) X.env).map (·.2) = assign e X.env :: (assignEach es X.env).map (·.2) := by rfl) : PGs X (e :: es) (gCons t u) := by
 intro pins s σ H vs us Q I r h
 obtain ⟨v, vr, e1, h⟩ := h
 subst e1
 cases r with
 | cons r rr =>
  rw [hs]
  refine assignInOrder_cons (thn (h1 pins s σ H _ _ _ I r h) fun _ s1 ⟨σ1, H1, I1, q1⟩ => ?_)
  exact h2 pins s1 σ1 H1 _ _ Q I1 rr q1
inductive gTup (K : PySem.W.Frag) (n : Nat) (t : TGs) (v : V) (σ : St) (H : Hp) (Q : St → Hp → Prop) : Prop where
 | mk (a : _) (xs : _) (h1 : v = .ref a) (h2 : SqT K H a xs) (h3 : xs.length = n) (h4 : t xs σ H Q) : gTup K n t v σ H Q
theorem pg_tup {es : List Expr} {k : Nat} {t : TGs} {n : Nat} (hc : X.calm = true) (h : PGs X es t)
  (hn : (assignEach es X.env).length = n := by rfl) (hst : (assignEach es X.env).findIdx? (·.1) = none := by rfl) : PG X (.Tuple es k pos) (gTup X.K n t) := by
 intro pins s σ H v u Q I r hw
 obtain ⟨a, xs, e1, hq, hl, hw⟩ := hw
 subst e1
 cases r
 obtain ⟨its, rv, ht, hz⟩ := I.tuple hq
 refine assign_Tuple_tuple (I.ok.hd hc) ht (by simp [hn, ← hl, rv.length]) hst fun h' hx => ?_
 have I1 : Inv X pins σ H { s with heap := h' } := I.kept (t' := s.toks) fun b o e => hx b o (Nat.ne_of_lt (Heap.lt_size e)) e
 exact h pins _ σ H xs _ Q I1 (by simpa using rv) hw
def tAsg (te : TE) (g : TG) : TS := fun D σ H => te σ H fun x H1 => g x σ H1 D.nx
theorem ps_set {i : Nat} {x : Str} {e : Expr} {te : TE} {pos' : Pos} (hN : X.N.Nodup) (hi : X.N[i]? = some x) (hx : Loc X.env.scope x) (he : PE X e te) (hs : swapsWith e (some (.Name x pos')) pos.line X.env = pure false := by rfl) (hf : X.fn x = true ∨ X.env.scope.names.lookup x = some .local := by first | exact .inl rfl | exact .inr rfl | assumption) :
  PS X (.Assign [.Name x pos'] e pos) (tAsg te (yQ8 i)) := by
 intro pins s σ H D I h
 refine wpAny_Assign_Name (thn (he pins s σ H _ I h) fun v s1 ⟨y, H1, I1, r1, q1⟩ => ?_) hs
 exact store_ok I1 hN hi hx r1 (fun s2 I2 => ⟨_, H1, I2, q1⟩) hf
end
section
variable {X : Cx} {pos : Pos}
def tWhile (c : TT) (tb : TS) : TS := fun D σ H => ∃ W : Nat → St → Hp → Prop, (∃ m, W m σ H) ∧ ∀ m σ H, W m σ H →
 c σ H fun b H1 => if b = true then ∃ N : St → Hp → Prop, (∀ σ' H', N σ' H' → ∃ m', m' < m ∧ W m' σ' H') ∧ tb { D with nx := N, ct := N, bk := D.nx } σ H1 else D.nx σ H1
theorem ps_while {c : Expr} {body : List Stmt} {tc : TT} {tb : TS} (hp : PassesOwn (model X.prog X.w) X.A X.env X.xe) (hc : PT X c tc) (hb : PSs X body tb) : PS X (.While c body [] pos) (tWhile tc tb) := by
 intro pins s σ H D I h
 obtain ⟨W, ⟨m0, w0⟩, turn⟩ := h
 refine wpAny_While (codeAny_whileLoop (fun n s' => ∃ σ' H', Inv X pins σ' H' s' ∧ W n σ' H') ?_ m0 ⟨σ, H, I, w0⟩)
 rintro n s1 ⟨σ1, H1, I1, w1⟩
 refine wpAny_passesOwn hp (thn (hc pins s1 σ1 H1 _ I1 (turn n σ1 H1 w1)) fun b s2 ⟨H2, I2, q2⟩ => ?_)
 cases b with
 | true =>
  obtain ⟨N, hN, q2⟩ := q2
  rw [if_pos rfl]
  refine wpAny_passesOwn hp (thn (hb pins s2 σ1 H2 _ I2 q2) fun f s3 q3 => ?_)
  cases f with
  | next =>
   obtain ⟨σ3, H3, I3, n3⟩ := q3
   obtain ⟨m', hm, w3⟩ := hN σ3 H3 n3
   exact ⟨m', hm, σ3, H3, I3, w3⟩
  | cont =>
   obtain ⟨σ3, H3, I3, n3⟩ := q3
   obtain ⟨m', hm, w3⟩ := hN σ3 H3 n3
   exact ⟨m', hm, σ3, H3, I3, w3⟩
  | brk => exact q3
  | ret v => exact q3
 | false =>
  rw [if_neg Bool.false_ne_true]
  exact wpAny_execs_nil ⟨σ1, H2, I2, q2⟩
end
structure It where
 go : Nat → Hp → Prop
 yld : Nat → Hp → V → Hp → Prop
 stop : Nat → Hp → Prop
def FpOk (X : Cx) (pins : List (Addr × Obj)) (H : Hp) (b : Addr) : Prop :=
 H b = none ∧ b ≠ X.env.locals ∧ b ∉ X.fs ∧ (b ∈ X.ex ∨ X.s₀.heap.objs.size ≤ b) ∧ (∀ x c, X.env.cells.lookup x = some c → c ≠ b) ∧ ∀ p ∈ X.pn ++ pins, p.1 ≠ b
theorem Inv.fpOk {X : Cx} {pins : List (Addr × Obj)} {σ : St} {H H' : Hp} {s : Shared} {b : Addr} (I : Inv X pins σ H s) (hb : s.heap.objs.size ≤ b) (hn : H' b = none) : FpOk X pins H' b := by
 refine ⟨hn, Nat.ne_of_gt (Nat.lt_of_lt_of_le I.lt hb), I.nofs hb, .inr (Nat.le_trans I.sz hb), fun x c e z => ?_, fun p hp z => ?_⟩
 ·obtain ⟨v, q⟩ := I.cell x c e
  exact absurd (Nat.lt_of_lt_of_le q.lt (by rw [z]; exact hb)) (Nat.lt_irrefl _)
 ·exact absurd (Nat.lt_of_lt_of_le (Heap.lt_size (I.pin p hp).1) (by rw [z]; exact hb)) (Nat.lt_irrefl _)
structure Turn (P : Program) (w : World) (K : PySem.W.Frag) (tg : Expr) (J : It) (fp : List Addr) (it : Addr) (tn : Nat → Heap → Prop) : Prop where
 mem : it ∈ fp
 obj : ∀ i h, tn i h → ∀ b ∈ fp, ∃ o, h.get? b = some o ∧ ∀ v, o.data ≠ .cell v
 keep : ∀ i h h', tn i h → (∀ b ∈ fp, ∀ o, h.get? b = some o → h'.get? b = some o) → tn i h'
 item : ∀ (X : Cx), X.prog = P → X.w = w → X.K = K → X.calm = true → ∀ (i : Nat) (pins : List (Addr × Obj)) (s : Shared) (σ : St) (H : Hp) (E : Value → Shared → Prop), Inv X pins σ H s → (∀ b ∈ fp, FpOk X pins H b) → tn i s.heap → J.go i H →
  wpAny (model P w) X.A (pyNext (.ref it)) (fun r s1 => ∃ u, r = some u ∧
   wpAny (model P w) X.A (letOwnedTupleGo tg (.ref it) u) (fun _ s2 => ∃ x H', Inv X pins σ H' s2 ∧ RelV x u ∧ J.yld i H x H' ∧ tn (i + 1) s2.heap ∧ ∀ b ∈ fp, H' b = none) E s1) E s
 done : ∀ (X : Cx), X.prog = P → X.w = w → X.K = K → X.calm = true → ∀ (i : Nat) (pins : List (Addr × Obj)) (s : Shared) (σ : St) (H : Hp) (E : Value → Shared → Prop), Inv X pins σ H s → (∀ b ∈ fp, FpOk X pins H b) → tn i s.heap → J.stop i H →
  wpAny (model P w) X.A (pyNext (.ref it)) (fun r s1 => r = none ∧ Inv X pins σ H s1) E s
 self : ∀ (A : Around) (i : Nat) (s : Shared) (Q : Value → Shared → Prop) (E : Value → Shared → Prop), tn i s.heap → Q (.ref it) s → wpAny (model P w) A (pyIter (.ref it)) Q E s
abbrev TI := St → Hp → (It → Hp → Prop) → Prop
def PIE (X : Cx) (pins : List (Addr × Obj)) (σ : St) (tg : Expr) (R : It → Hp → Prop) (itv : Value) (s2 : Shared) : Prop :=
 ∃ (it : Addr) (fp : List Addr) (tn : Nat → Heap → Prop) (J : It) (H' : Hp), itv = .ref it ∧ Inv X pins σ H' s2 ∧ Turn X.prog X.w X.K tg J fp it tn ∧ tn 0 s2.heap ∧ (∀ b ∈ fp, FpOk X pins H' b) ∧ R J H'
def PI (X : Cx) (tg iter : Expr) (wi : TI) : Prop :=
 ∀ (pins : List (Addr × Obj)) (s : Shared) (σ : St) (H : Hp) (R : It → Hp → Prop), Inv X pins σ H s → wi σ H R →
  wpAny (model X.prog X.w) X.A (eval iter X.env) (fun v s1 => wpAny (model X.prog X.w) X.A (pyIter v) (PIE X pins σ tg R) X.xe s1) X.xe s
theorem go_of {M : Model} {A : Around} {E : Value → Shared → Prop} {s : Shared} {tg : Expr} {it : Addr} {u : Value} {o : Obj} {n : String} {vs : Array Value} {Q : Unit → Shared → Prop} (ho : s.heap.get? it = some o) (hc : o.cls = .type n) (hd : o.data = .fields vs)
    (hn : ["enumerate", "zip", "dict_itemiterator", "dict_reverseitemiterator", "odict_iterator", "itertools.zip_longest", "itertools.pairwise"].contains n = false) (hQ : Q () s) : wpAny M A (letOwnedTupleGo tg (.ref it) u) Q E s := by
  unfold letOwnedTupleGo
  cases tg <;> first
    | exact wpAny_pure hQ
    | (cases u <;> first
        | exact wpAny_pure hQ
        | (refine wpAny_bind (wpAny_load ho ?_)
           rw [hc, hd]
           show wpAny M A (if (["enumerate", "zip", "dict_itemiterator", "dict_reverseitemiterator", "odict_iterator", "itertools.zip_longest", "itertools.pairwise"].contains n && vs[0]? == some (rawInt _)) = true then _ else _) Q E s
           rw [if_neg (by intro h; rw [hn, Bool.false_and] at h; cases h)]
           exact wpAny_pure hQ))
def Itl (K : PySem.W.Frag) (a : Addr) : It :=
 ⟨fun i H => ∃ xs x, SqL K H a xs ∧ xs[i]? = some x, fun i H x H' => H' = H ∧ ∀ xs, SqL K H a xs → xs[i]? = some x, fun i H => ∃ xs, SqL K H a xs ∧ xs.length ≤ i⟩
def Itt (K : PySem.W.Frag) (a : Addr) : It :=
 ⟨fun i H => ∃ xs x, SqT K H a xs ∧ xs[i]? = some x, fun i H x H' => H' = H ∧ ∀ xs, SqT K H a xs → xs[i]? = some x, fun i H => ∃ xs, SqT K H a xs ∧ xs.length ≤ i⟩
def Itr (lo : Int) (n : Nat) : It := ⟨fun i _ => i < n, fun i H x H' => H' = H ∧ x = .int (lo + i), fun i _ => n ≤ i⟩
theorem turn_list {P : Program} {w : World} {K : PySem.W.Frag} {tg : Expr} (a it : Addr) : Turn P w K tg (Itl K a) [it] it (fun i h => h.IsListIter it a i) where
 mem := by simp
 obj := fun i h st b hb => by
  have e : b = it := by simpa using hb
  subst e
  obtain ⟨o, e, c, d⟩ := st
  exact ⟨o, e, fun v z => by rw [d] at z; cases z⟩
 keep := fun i h h' st k => st.at fun o e => k it (by simp) o e
 item := by
  intro X hP hw hK hc i pins s σ H E I hf st hg
  subst hP hw hK
  obtain ⟨xs, x, hq, hx⟩ := hg
  obtain ⟨its, rv, p, hz⟩ := I.list hq
  obtain ⟨u, hu, ru⟩ := rv.get hx
  obtain ⟨f0, f1, f2, f3, f4, f5⟩ := hf it (by simp)
  refine wpAny_pyNext_list_item st p.isList (x := u) (by simpa using hu) fun h' st' sb => ?_
  have I1 : Inv X pins σ H { s with heap := h' } := I.turned (t' := s.toks) (fun b o hb e => (sb.2 b hb).trans e) f0 f1 f3 f4 f5
  obtain ⟨o, e, c, d⟩ := id st'
  exact ⟨u, rfl, go_of (s := { s with heap := h' }) e c d (by decide) ⟨x, H, I1, ru, ⟨rfl, fun ys hy => by rw [I.list_inj hy hq]; exact hx⟩, st', fun b hb => (hf b hb).1⟩⟩
 done := by
  intro X hP hw hK hc i pins s σ H E I hf st hg
  subst hP hw hK
  obtain ⟨xs, hq, hx⟩ := hg
  obtain ⟨its, rv, p, hz⟩ := I.list hq
  obtain ⟨f0, f1, f2, f3, f4, f5⟩ := hf it (by simp)
  have hl := rv.length
  exact wpAny_pyNext_list_end (I.ok.hd hc) st p.isList (by simp; omega) fun h' eb => ⟨rfl, I.turned (t' := s.toks) (fun b o hb e => eb b o hb e) f0 f1 f3 f4 f5⟩
 self := fun _ _ _ _ _ st h => wpAny_pyIter_listiter st h
theorem turn_tuple {P : Program} {w : World} {K : PySem.W.Frag} {tg : Expr} (a it : Addr) : Turn P w K tg (Itt K a) [it] it (fun i h => h.IsTupleIter it a i) where
 mem := by simp
 obj := fun i h st b hb => by
  have e : b = it := by simpa using hb
  subst e
  obtain ⟨o, e, c, d⟩ := st
  exact ⟨o, e, fun v z => by rw [d] at z; cases z⟩
 keep := fun i h h' st k => st.at fun o e => k it (by simp) o e
 item := by
  intro X hP hw hK hc i pins s σ H E I hf st hg
  subst hP hw hK
  obtain ⟨xs, x, hq, hx⟩ := hg
  obtain ⟨its, rv, p, hz⟩ := I.tuple hq
  obtain ⟨u, hu, ru⟩ := rv.get hx
  obtain ⟨f0, f1, f2, f3, f4, f5⟩ := hf it (by simp)
  refine wpAny_pyNext_tuple_item st (show s.heap.IsTuple a its.toArray from p) (x := u) (by simpa using hu) fun h' st' sb => ?_
  have I1 : Inv X pins σ H { s with heap := h' } := I.turned (t' := s.toks) (fun b o hb e => (sb.2 b hb).trans e) f0 f1 f3 f4 f5
  obtain ⟨o, e, c, d⟩ := id st'
  exact ⟨u, rfl, go_of (s := { s with heap := h' }) e c d (by decide) ⟨x, H, I1, ru, ⟨rfl, fun ys hy => by rw [I.tuple_inj hy hq]; exact hx⟩, st', fun b hb => (hf b hb).1⟩⟩
 done := by
  intro X hP hw hK hc i pins s σ H E I hf st hg
  subst hP hw hK
  obtain ⟨xs, hq, hx⟩ := hg
  obtain ⟨its, rv, p, hz⟩ := I.tuple hq
  obtain ⟨f0, f1, f2, f3, f4, f5⟩ := hf it (by simp)
  have hl := rv.length
  exact wpAny_pyNext_tuple_end (I.ok.hd hc) st (show s.heap.IsTuple a its.toArray from p) (by simp; omega) fun h' eb => ⟨rfl, I.turned (t' := s.toks) (fun b o hb e => eb b o hb e) f0 f1 f3 f4 f5⟩
 self := fun _ _ _ _ _ st h => wpAny_pyIter_tupleiter st h
theorem turn_range {P : Program} {w : World} {K : PySem.W.Frag} {tg : Expr} (it : Addr) (lo : Int) (n : Nat) : Turn P w K tg (Itr lo n) [it] it (fun i h => IsRangeIter h it (lo + (i : Nat) * 1) ((n : Int) - (i : Nat)) 1) where
 mem := by simp
 obj := fun i h st b hb => by
  have e : b = it := by simpa using hb
  subst e
  exact ⟨_, st, fun v z => by
   have z' : Data.fields _ = Data.cell v := z
   cases z'⟩
 keep := fun i h h' st k => k it (by simp) _ st
 item := by
  intro X hP hw hK hc i pins s σ H E I hf st hg
  subst hP hw hK
  obtain ⟨f0, f1, f2, f3, f4, f5⟩ := hf it (by simp)
  have W := Walks.range (prog := X.prog) (w := X.w) (I.ok.hd hc) it lo 1 n
  refine W.item i s _ _ hg st fun v h' tk hv st' kk => ?_
  obtain ⟨t, rfl⟩ := hv
  have I1 : Inv X pins σ H { s with heap := h', toks := tk } := I.turned (fun b o hb e => kk b o (by simpa using hb) e) f0 f1 f3 f4 f5
  refine ⟨_, rfl, go_of (s := { s with heap := h', toks := tk }) (n := "range_iterator") st' rfl rfl (by decide) ⟨.int (lo + i), H, I1, ⟨t, ?_⟩, ⟨rfl, rfl⟩, st', fun b hb => (hf b hb).1⟩⟩
  rw [Int.mul_one]
 done := by
  intro X hP hw hK hc i pins s σ H E I hf st hg
  subst hP hw hK
  obtain ⟨f0, f1, f2, f3, f4, f5⟩ := hf it (by simp)
  exact wpAny_pyNext_range_end (I.ok.hd hc) st (by have : n ≤ i := hg; omega) fun h' eb => ⟨rfl, I.turned (t' := s.toks) (fun b o hb e => eb b o hb e) f0 f1 f3 f4 f5⟩
 self := fun _ _ _ _ _ st h => wpAny_pyIter_rangeiter st h
end L2
namespace L2
open PySem PySem.Spec PyProof.Rows
section
variable {X : Cx} {tg : Expr}
inductive iList_ (K : PySem.W.Frag) (R : It → Hp → Prop) (x : V) (H1 : Hp) : Prop where
 | mk (a : _) (h1 : x = .ref a) (h2 : (∃ xs, SqL K H1 a xs)) (h3 : R (Itl K a) H1) : iList_ K R x H1
def iList (K : PySem.W.Frag) (tl : TE) : TI := fun σ H R => tl σ H fun x H1 => iList_ K R x H1
inductive iTup_ (K : PySem.W.Frag) (R : It → Hp → Prop) (x : V) (H1 : Hp) : Prop where
 | mk (a : _) (h1 : x = .ref a) (h2 : (∃ xs, SqT K H1 a xs)) (h3 : R (Itt K a) H1) : iTup_ K R x H1
def iTup (K : PySem.W.Frag) (tl : TE) : TI := fun σ H R => tl σ H fun x H1 => iTup_ K R x H1
theorem xY2 {l : Expr} {tl : TE} (hl : PE X l tl) : PI X tg l (iList X.K tl) := by
 intro pins s σ H R I h
 refine thn (hl pins s σ H _ I h) fun v s1 ⟨x, H1, I1, r1, q1⟩ => ?_
 obtain ⟨a, e, ⟨xs, hq⟩, q⟩ := q1
 subst e
 cases r1
 obtain ⟨its, rv, p, hz⟩ := I1.list hq
 refine wpAny_pyIter_list p.isList ?_
 refine ⟨s1.heap.objs.size, [s1.heap.objs.size], _, _, H1, rfl, I1.kept (t' := s1.toks) fun b o e => Heap.get?_push_of_some _ e, turn_list a _, ⟨_, Heap.get?_push_size _ rfl, rfl, rfl⟩, fun b hb => ?_, q⟩
 have e : b = s1.heap.objs.size := by simpa using hb
 subst e
 exact I1.fpOk (Nat.le_refl _) (I1.hok.fresh (Nat.le_refl _))
theorem pi_tup {l : Expr} {tl : TE} (hl : PE X l tl) : PI X tg l (iTup X.K tl) := by
 intro pins s σ H R I h
 refine thn (hl pins s σ H _ I h) fun v s1 ⟨x, H1, I1, r1, q1⟩ => ?_
 obtain ⟨a, e, ⟨xs, hq⟩, q⟩ := q1
 subst e
 cases r1
 obtain ⟨its, rv, p, hz⟩ := I1.tuple hq
 refine wpAny_pyIter_tuple (show s1.heap.IsTuple a its.toArray from p) ?_
 refine ⟨s1.heap.objs.size, [s1.heap.objs.size], _, _, H1, rfl, I1.kept (t' := s1.toks) fun b o e => Heap.get?_push_of_some _ e, turn_tuple a _, ⟨_, Heap.get?_push_size _ rfl, rfl, rfl⟩, fun b hb => ?_, q⟩
 have e : b = s1.heap.objs.size := by simpa using hb
 subst e
 exact I1.fpOk (Nat.le_refl _) (I1.hok.fresh (Nat.le_refl _))
theorem range_it {pins : List (Addr × Obj)} {σ : St} {H : Hp} {s : Shared} {R : It → Hp → Prop} {E : Value → Shared → Prop} {lo hi : Int} {t u v : Tok} {tk : Nat} (I : Inv X pins σ H s) (h1 : -(2 ^ 62) ≤ lo) (h2 : lo < 2 ^ 62) (h3 : -(2 ^ 62) ≤ hi) (h4 : hi < 2 ^ 62)
  (q : R (Itr lo (hi - lo).toNat) H) : wpAny (model X.prog X.w) X.A (pyIter (.ref s.heap.objs.size)) (PIE X pins σ tg R) E { s with heap := s.heap.push { cls := .type "range", data := .fields #[.int lo t, .int hi u, .int 1 v] }, toks := tk } := by
 refine wpAny_pyIter_range (IsRange.new ..) (small_one h1 h2 h3 h4) ?_
 have I1 : Inv X pins σ H { s with heap := s.heap.push { cls := .type "range", data := .fields #[.int lo t, .int hi u, .int 1 v] }, toks := tk } := I.kept fun b o e => Heap.get?_push_of_some _ e
 refine ⟨(s.heap.push { cls := .type "range", data := .fields #[.int lo t, .int hi u, .int 1 v] }).objs.size, [(s.heap.push { cls := .type "range", data := .fields #[.int lo t, .int hi u, .int 1 v] }).objs.size], _, _, H, rfl,
  I1.kept (t' := tk) fun b o e => Heap.get?_push_of_some _ e, turn_range _ lo (hi - lo).toNat, ?_, fun b hb => ?_, q⟩
 ·have e1 : lo + ((0 : Nat) : Int) * 1 = lo := by simp
  have e2 : (((hi - lo).toNat : Nat) : Int) - ((0 : Nat) : Int) = Builtin.Range.rangeSize lo hi 1 := by rw [rangeSize_one]; split <;> omega
  show IsRangeIter _ _ (lo + ((0 : Nat) : Int) * 1) ((((hi - lo).toNat : Nat) : Int) - ((0 : Nat) : Int)) 1
  rw [e1, e2]
  exact Heap.get?_push_size _ rfl
 ·have e : b = (s.heap.push { cls := .type "range", data := .fields #[.int lo t, .int hi u, .int 1 v] }).objs.size := by simpa using hb
  subst e
  exact I1.fpOk (Nat.le_refl _) (I1.hok.fresh (Nat.le_refl _))
inductive iRng1_ (R : It → Hp → Prop) (vs : List V) (H1 : Hp) : Prop where
 | mk (j : Int) (h1 : vs = [.int j]) (h2 : -(2 ^ 62) ≤ j) (h3 : j < 2 ^ 62) (h4 : R (Itr 0 j.toNat) H1) : iRng1_ R vs H1
def iRng1 (ta : TA) : TI := fun σ H R => ta σ H fun vs H1 => iRng1_ R vs H1
theorem pi_range1 {a : Expr} {ta : TA} {p pos : Pos} (hg : Gl X "range") (hm : X.mg "range" = none) (ha : PA X [a] ta) (hs : starEach [a] X.env = [(false, eval a X.env)] := by rfl) : PI X tg (.Call (.Name "range" p) [a] [] pos) (iRng1 ta) := by
 intro pins s σ H R I h
 refine Call_ (ld_blt I hg hm boot_range (PyProof.Rows.callWith_type1 (thn (ha pos pins s σ H _ I h) fun us s1 ⟨vs, H1, I1, r1, q1⟩ => ?_) hs rfl))
 obtain ⟨j, e, q1, q2, q⟩ := q1
 subst e
 cases r1 with
 | cons r rr =>
  cases rr
  obtain ⟨t, rfl⟩ := r
  exact call_range_1 (range_it I1 (by omega) (by omega) q1 q2 (by simpa using q))
inductive tFor_ (g : TG) (tb : TS) (D : Ends) (σ : St) (J : It) (H1 : Hp) : Prop where
 | mk (W : Nat → Nat → St → Hp → Prop) (h1 : (∃ m, W 0 m σ H1)) (h2 : ∀ i m σ H, W i m σ H →
 (J.stop i H ∧ D.nx σ H) ∨ (J.go i H ∧ ∃ N : St → Hp → Prop, (∀ σ' H', N σ' H' → ∃ m', m' < m ∧ W (i + 1) m' σ' H') ∧ ∀ x H', J.yld i H x H' → g x σ H' fun σ2 H2 => tb { D with nx := N, ct := N, bk := D.nx } σ2 H2)) : tFor_ g tb D σ J H1
def tFor (wi : TI) (g : TG) (tb : TS) : TS := fun D σ H => wi σ H fun J H1 => tFor_ g tb D σ J H1
def pinsAt (fp : List Addr) (h : Heap) : List (Addr × Obj) := fp.filterMap fun b => (h.get? b).map fun o => (b, o)
theorem xQ4 {fp : List Addr} {h : Heap} {b : Addr} {o : Obj} (hb : b ∈ fp) (e : h.get? b = some o) : (b, o) ∈ pinsAt fp h := List.mem_filterMap.mpr ⟨b, hb, by rw [e]; rfl⟩
theorem of_pinsAt {fp : List Addr} {h : Heap} {p : Addr × Obj} (hp : p ∈ pinsAt fp h) : p.1 ∈ fp ∧ h.get? p.1 = some p.2 := by
 obtain ⟨b, hb, e⟩ := List.mem_filterMap.mp hp
 cases q : h.get? b with
 | none => rw [q] at e; cases e
 | some o =>
  rw [q] at e
  have e' : (b, o) = p := Option.some.inj e
  subst e'
  exact ⟨hb, q⟩
theorem Inv.pinned {pins : List (Addr × Obj)} {σ : St} {H : Hp} {s : Shared} {fp : List Addr} (I : Inv X pins σ H s) (hf : ∀ b ∈ fp, FpOk X pins H b) (ho : ∀ b ∈ fp, ∃ o, s.heap.get? b = some o ∧ ∀ v, o.data ≠ .cell v) : Inv X (pins ++ pinsAt fp s.heap) σ H s :=
 I.pins_of fun p hp => (List.mem_append.mp hp).elim (fun z => I.pin p (List.mem_append_right _ z)) fun z => by
  obtain ⟨hb, e⟩ := of_pinsAt z
  obtain ⟨f0, f1, f2, _⟩ := hf p.1 hb
  obtain ⟨o, e', d⟩ := ho p.1 hb
  rw [e] at e'; cases e'
  exact ⟨e, f0, f1, f2, d⟩
theorem Inv.unpinned {pins pl : List (Addr × Obj)} {σ : St} {H : Hp} {s : Shared} (I : Inv X (pins ++ pl) σ H s) : Inv X pins σ H s := I.pins_of fun p hp => I.pin p (List.mem_append_right _ (List.mem_append_left _ hp))
theorem xQ0 {iter : Expr} {body : List Stmt} {wi : TI} {g : TG} {tb : TS} {pos : Pos} (hp : PassesOwn (model X.prog X.w) X.A X.env X.xe) (hc : X.calm = true) (hi : PI X tg iter wi) (hg : PG X tg g) (hb : PSs X body tb)
  (hs : ∀ x, foldedSetIterable iter X.env x = pure x := by intro _; rfl) : PS X (.For tg iter body [] pos) (tFor wi g tb) := by
 intro pins s σ H D I h
 refine wpAny_For (thn (hi pins s σ H _ I h) fun v s1 h1 => thn h1 fun itv s2 h2 => ?_) hs
 obtain ⟨it, fp, tn, J, H2, e, I2, T, st2, f2, W, ⟨m0, w0⟩, turn⟩ := h2
 subst e
 have stat : ∀ {H' : Hp}, (∀ b ∈ fp, H' b = none) → ∀ b ∈ fp, FpOk X pins H' b := fun hn b hb => ⟨hn b hb, (f2 b hb).2⟩
 refine codeAny_forLoop_any (fun n s' => ∃ i σ' H', Inv X pins σ' H' s' ∧ tn i s'.heap ∧ (∀ b ∈ fp, H' b = none) ∧ W i n σ' H') ?_ m0 ⟨0, σ, H2, I2, st2, fun b hb => (f2 b hb).1, w0⟩
 rintro n s3 ⟨i, σ3, H3, I3, st3, fr3, w3⟩
 rcases turn i n σ3 H3 w3 with ⟨stop, qn⟩ | ⟨go, N, hN, step⟩
 ·refine wpAny_passesOwn hp (thn (T.done X rfl rfl rfl hc i pins s3 σ3 H3 X.xe I3 (stat fr3) st3 stop) fun r s4 ⟨hr, I4⟩ => ?_)
  subst hr
  exact wpAny_execs_nil ⟨σ3, H3, I4, qn⟩
 ·refine wpAny_passesOwn hp (thn (T.item X rfl rfl rfl hc i pins s3 σ3 H3 X.xe I3 (stat fr3) st3 go) fun r s4 ⟨u, hr, h4⟩ => ?_)
  subst hr
  refine wpAny_passesOwn hp (thn h4 fun _ s5 ⟨x, H5, I5, r5, y5, st5, fr5⟩ => ?_)
  have I5' := I5.pinned (stat fr5) (T.obj _ _ st5)
  refine wpAny_passesOwn hp (thn (hg _ s5 σ3 H5 x u _ I5' r5 (step x H5 y5)) fun _ s6 ⟨σ6, H6, I6, q6⟩ => ?_)
  refine wpAny_passesOwn hp (thn (hb _ s6 σ6 H6 _ I6 q6) fun f s7 q7 => ?_)
  have again : ∀ {σ7 : St} {H7 : Hp}, Inv X (pins ++ pinsAt fp s5.heap) σ7 H7 s7 → N σ7 H7 → ∃ m, m < n ∧ ∃ i σ' H', Inv X pins σ' H' s7 ∧ tn i s7.heap ∧ (∀ b ∈ fp, H' b = none) ∧ W i m σ' H' := fun {σ7 H7} I7 n7 => by
   obtain ⟨m', hm, w7⟩ := hN σ7 H7 n7
   refine ⟨m', hm, i + 1, σ7, H7, I7.unpinned, T.keep _ _ _ st5 fun b hb o e => (I7.pin (b, o) (List.mem_append_right _ (List.mem_append_right _ (xQ4 hb e)))).1, fun b hb => ?_, w7⟩
   obtain ⟨o, e, d⟩ := T.obj _ _ st5 b hb
   exact (I7.pin (b, o) (List.mem_append_right _ (List.mem_append_right _ (xQ4 hb e)))).2.1
  cases f with
  | next => obtain ⟨σ7, H7, I7, n7⟩ := q7; exact again I7 n7
  | cont => obtain ⟨σ7, H7, I7, n7⟩ := q7; exact again I7 n7
  | brk => obtain ⟨σ7, H7, I7, q7⟩ := q7; exact ⟨σ7, H7, I7.unpinned, q7⟩
  | ret v => obtain ⟨x7, σ7, H7, I7, r7, q7⟩ := q7; exact ⟨x7, σ7, H7, I7.unpinned, r7, q7⟩
end
theorem yU7 {K : PySem.W.Frag} {a : Addr} {xs : List V} {g : TG} {tb : TS} {D : Ends} {σ : St} {H : Hp} (Pv : Nat → St → Hp → Prop) (h0 : Pv 0 σ H) (hl : ∀ i σ H, i ≤ xs.length → Pv i σ H → SqL K H a xs)
  (hs : ∀ i x σ H, xs[i]? = some x → Pv i σ H → g x σ H fun σ2 H2 => tb { D with nx := Pv (i + 1), ct := Pv (i + 1), bk := D.nx } σ2 H2) (hd : ∀ σ H, Pv xs.length σ H → D.nx σ H) :
  tFor_ g tb D σ (Itl K a) H := by
 refine ⟨fun i m σ H => m = xs.length - i ∧ i ≤ xs.length ∧ Pv i σ H, ⟨xs.length, by simp, Nat.zero_le _, h0⟩, ?_⟩
 rintro i m σ H ⟨rfl, hi, p⟩
 have q := hl i σ H hi p
 by_cases hlt : i < xs.length
 ·refine .inr ⟨⟨xs, xs[i], q, by simp [hlt]⟩, Pv (i + 1), fun σ' H' p' => ⟨xs.length - (i + 1), by omega, rfl, hlt, p'⟩, fun x H' y => ?_⟩
  obtain ⟨e, y⟩ := y
  subst e
  exact hs i x σ _ (y xs q) p
 ·have e : i = xs.length := by omega
  subst e
  exact .inl ⟨⟨xs, q, Nat.le_refl _⟩, hd σ H p⟩
theorem for_tup {K : PySem.W.Frag} {a : Addr} {xs : List V} {g : TG} {tb : TS} {D : Ends} {σ : St} {H : Hp} (Pv : Nat → St → Hp → Prop) (h0 : Pv 0 σ H) (hl : ∀ i σ H, i ≤ xs.length → Pv i σ H → SqT K H a xs)
  (hs : ∀ i x σ H, xs[i]? = some x → Pv i σ H → g x σ H fun σ2 H2 => tb { D with nx := Pv (i + 1), ct := Pv (i + 1), bk := D.nx } σ2 H2) (hd : ∀ σ H, Pv xs.length σ H → D.nx σ H) :
  tFor_ g tb D σ (Itt K a) H := by
 refine ⟨fun i m σ H => m = xs.length - i ∧ i ≤ xs.length ∧ Pv i σ H, ⟨xs.length, by simp, Nat.zero_le _, h0⟩, ?_⟩
 rintro i m σ H ⟨rfl, hi, p⟩
 have q := hl i σ H hi p
 by_cases hlt : i < xs.length
 ·refine .inr ⟨⟨xs, xs[i], q, by simp [hlt]⟩, Pv (i + 1), fun σ' H' p' => ⟨xs.length - (i + 1), by omega, rfl, hlt, p'⟩, fun x H' y => ?_⟩
  obtain ⟨e, y⟩ := y
  subst e
  exact hs i x σ _ (y xs q) p
 ·have e : i = xs.length := by omega
  subst e
  exact .inl ⟨⟨xs, q, Nat.le_refl _⟩, hd σ H p⟩
theorem yY8 {lo : Int} {n : Nat} {g : TG} {tb : TS} {D : Ends} {σ : St} {H : Hp} (Pv : Nat → St → Hp → Prop) (h0 : Pv 0 σ H)
  (hs : ∀ i σ H, i < n → Pv i σ H → g (.int (lo + i)) σ H fun σ2 H2 => tb { D with nx := Pv (i + 1), ct := Pv (i + 1), bk := D.nx } σ2 H2) (hd : ∀ σ H, Pv n σ H → D.nx σ H) :
  tFor_ g tb D σ (Itr lo n) H := by
 refine ⟨fun i m σ H => m = n - i ∧ i ≤ n ∧ Pv i σ H, ⟨n, by simp, Nat.zero_le _, h0⟩, ?_⟩
 rintro i m σ H ⟨rfl, hi, p⟩
 by_cases hlt : i < n
 ·refine .inr ⟨hlt, Pv (i + 1), fun σ' H' p' => ⟨n - (i + 1), by omega, rfl, hlt, p'⟩, fun x H' y => ?_⟩
  obtain ⟨e, y⟩ := y
  subst e y
  exact hs i σ _ hlt p
 ·have e : i = n := by omega
  subst e
  exact .inl ⟨Nat.le_refl _, hd σ H p⟩
end L2
namespace L2
open PySem PySem.Spec PyProof.Rows
abbrev R2 := V → V → Hp → VK → Prop
def OpR (X : Cx) (f : Value → Value → Sem Value) (r : R2) : Prop :=
 ∀ (pins : List (Addr × Obj)) (s : Shared) (σ : St) (H : Hp) (x y : V) (v u : Value) (Q : VK), Inv X pins σ H s → RelV x v → RelV y u → r x y H Q →
  wpAny (model X.prog X.w) X.A (f v u) (EP X pins σ Q) X.xe s
def UnR (X : Cx) (f : Value → Sem Value) (r : V → Hp → VK → Prop) : Prop :=
 ∀ (pins : List (Addr × Obj)) (s : Shared) (σ : St) (H : Hp) (x : V) (v : Value) (Q : VK), Inv X pins σ H s → RelV x v → r x H Q →
  wpAny (model X.prog X.w) X.A (f v) (EP X pins σ Q) X.xe s
def CallR (X : Cx) (f : Value) (r : List V → Hp → VK → Prop) : Prop :=
 ∀ (pins : List (Addr × Obj)) (s : Shared) (σ : St) (H : Hp) (xs : List V) (us : List Value) (Q : VK), Inv X pins σ H s → Vals xs us → r xs H Q →
  wpAny (model X.prog X.w) X.A (call f us) (EP X pins σ Q) X.xe s
def tOp (r : R2) (ta tb : TE) : TE := fun σ H Q => ta σ H fun x H1 => tb σ H1 fun y H2 => r x y H2 Q
def tUn (r : V → Hp → VK → Prop) (ta : TE) : TE := fun σ H Q => ta σ H fun x H1 => r x H1 Q
inductive rI (C : Int → Int → Prop) (g : Int → Int → V) (x : V) (y : V) (H : Hp) (Q : VK) : Prop where
 | mk (i : _) (j : _) (h1 : x = .int i) (h2 : y = .int j) (h3 : C i j) (h4 : Q (g i j) H) : rI C g x y H Q
inductive rI0 (g : Int → Int → V) (x : V) (y : V) (H : Hp) (Q : VK) : Prop where
 | mk (i : _) (j : _) (h1 : x = .int i) (h2 : y = .int j) (h3 : Q (g i j) H) : rI0 g x y H Q
inductive rU (g : Int → V) (x : V) (H : Hp) (Q : VK) : Prop where
 | mk (i : _) (h1 : x = .int i) (h2 : Q (g i) H) : rU g x H Q
section
variable {X : Cx} {a b c : Expr} {ta tb tc : TE} {pos : Pos}
theorem binT (ha : PE X a ta) (hb : PE X b tb) {pins : List (Addr × Obj)} {s : Shared} {σ : St} {H : Hp} {R : V → V → Hp → Prop} (I : Inv X pins σ H s)
  (h : ta σ H fun x H1 => tb σ H1 fun y H2 => R x y H2) {Q : Value → Shared → Prop} {f : Value → Value → Sem Value}
  (hf : ∀ v u s2 x y H2, Inv X pins σ H2 s2 → RelV x v → RelV y u → R x y H2 → wpAny (model X.prog X.w) X.A (f v u) Q X.xe s2) :
  wpAny (model X.prog X.w) X.A (eval a X.env) (fun v s₁ => wpAny (model X.prog X.w) X.A (eval b X.env) (fun u s₂ => wpAny (model X.prog X.w) X.A (f v u) Q X.xe s₂) X.xe s₁) X.xe s := by
 refine thn (ha pins s σ H _ I h) fun v s1 ⟨x, H1, I1, r1, q1⟩ => ?_
 refine thn (hb pins s1 σ H1 _ I1 q1) fun u s2 ⟨y, H2, I2, r2, q2⟩ => ?_
 exact hf v u s2 x y H2 I2 r1 r2 q2
theorem xV2 {op : Operator} {r : R2} (ho : OpR X (binaryOp op) r) (ha : PE X a ta) (hb : PE X b tb) : PE X (.BinOp a op b pos) (tOp r ta tb) := by
 intro pins s σ H Q I h
 exact wpAny_BinOp (binT ha hb I h fun v u s2 x y H2 I2 rx ry q => ho pins s2 σ H2 x y v u Q I2 rx ry q)
theorem pe_un {op : UnaryOp} {r : V → Hp → VK → Prop} (ho : UnR X (unaryOp op) r) (ha : PE X a ta) : PE X (.UnaryOp op a pos) (tUn r ta) := by
 intro pins s σ H Q I h
 exact UnaryOp_ (thn (ha pins s σ H _ I h) fun v s1 ⟨x, H1, I1, r1, q1⟩ => ho pins s1 σ H1 x v Q I1 r1 q1)
theorem opI {f : Value → Value → Sem Value} {C : Int → Int → Prop} {g : Int → Int → Int}
  (rule : ∀ (i j : Int) (t u : Tok) (s : Shared) (Q : Value → Shared → Prop) (E : Value → Shared → Prop), C i j → Q (.int (g i j) s.toks) { s with toks := s.toks + 1 } → wpAny (model X.prog X.w) X.A (f (.int i t) (.int j u)) Q E s) :
  OpR X f (rI C fun i j => .int (g i j)) := by
 intro pins s σ H x y v u Q I rx ry h
 obtain ⟨i, j, rfl, rfl, hc, q⟩ := h
 obtain ⟨t, rfl⟩ := rx
 obtain ⟨t', rfl⟩ := ry
 exact rule i j t t' s _ _ hc ⟨.int (g i j), H, I.tok _, ⟨_, rfl⟩, q⟩
theorem opI0 {f : Value → Value → Sem Value} {g : Int → Int → Int}
  (rule : ∀ (i j : Int) (t u : Tok) (s : Shared) (Q : Value → Shared → Prop) (E : Value → Shared → Prop), Q (.int (g i j) s.toks) { s with toks := s.toks + 1 } → wpAny (model X.prog X.w) X.A (f (.int i t) (.int j u)) Q E s) :
  OpR X f (rI0 fun i j => .int (g i j)) := by
 intro pins s σ H x y v u Q I rx ry h
 obtain ⟨i, j, rfl, rfl, q⟩ := h
 obtain ⟨t, rfl⟩ := rx
 obtain ⟨t', rfl⟩ := ry
 exact rule i j t t' s _ _ ⟨.int (g i j), H, I.tok _, ⟨_, rfl⟩, q⟩
theorem opB0 {f : Value → Value → Sem Value} {g : Int → Int → Bool}
  (rule : ∀ (i j : Int) (t u : Tok) (s : Shared) (Q : Value → Shared → Prop) (E : Value → Shared → Prop), Q (.bool (g i j)) s → wpAny (model X.prog X.w) X.A (f (.int i t) (.int j u)) Q E s) :
  OpR X f (rI0 fun i j => .bl (g i j)) := by
 intro pins s σ H x y v u Q I rx ry h
 obtain ⟨i, j, rfl, rfl, q⟩ := h
 obtain ⟨t, rfl⟩ := rx
 obtain ⟨t', rfl⟩ := ry
 exact rule i j t t' s _ _ ⟨.bl (g i j), H, I, rfl, q⟩
def CMul (i j : Int) : Prop := (-(2 ^ 64) < i ∧ i < 2 ^ 64) ∨ (-(2 ^ 64) < j ∧ j < 2 ^ 64)
theorem CMul.ok {i j : Int} (h : CMul i j) : IntMulOk i j := by
 rcases h with ⟨h1, h2⟩ | ⟨h1, h2⟩
 ·exact .of_left (intBits_le_64 h1 h2)
 ·exact .of_right (intBits_le_64 h1 h2)
theorem yU1 : OpR X (binaryOp .Add) (rI0 fun i j => .int (i + j)) := opI0 fun _ _ _ _ _ _ _ q => add_int q
theorem op_sub : OpR X (binaryOp .Sub) (rI0 fun i j => .int (i - j)) := opI0 fun _ _ _ _ _ _ _ q => sub_int q
theorem yV4 : OpR X (binaryOp .Mult) (rI CMul fun i j => .int (i * j)) := opI fun _ _ _ _ _ _ _ hc q => mul_int q hc.ok
theorem xX1 : OpR X (binaryOp .Mod) (rI (fun _ j => 0 < j) fun i j => .int (i % j)) := opI fun i j _ _ _ _ _ hc q => by
 have h1 : (0 : Int) < j := hc
 exact mod_int' (by omega) (by rw [Int.fmod_eq_emod_of_nonneg i (by omega)]; exact q)
theorem unI {f : Value → Sem Value} {g : Int → Int}
  (rule : ∀ (i : Int) (t : Tok) (s : Shared) (Q : Value → Shared → Prop) (E : Value → Shared → Prop), Q (.int (g i) s.toks) { s with toks := s.toks + 1 } → wpAny (model X.prog X.w) X.A (f (.int i t)) Q E s) :
  UnR X f (rU fun i => .int (g i)) := by
 intro pins s σ H x v Q I rx h
 obtain ⟨i, rfl, q⟩ := h
 obtain ⟨t, rfl⟩ := rx
 exact rule i t s _ _ ⟨.int (g i), H, I.tok _, ⟨_, rfl⟩, q⟩
theorem un_neg : UnR X (unaryOp .USub) (rU fun i => .int (-i)) := unI fun _ _ _ _ _ q => neg_int q
end
def scal : V → V → Bool
 | .non, .non => true | .non, .int _ => true | .int _, .non => true | .non, .bl _ => true | .bl _, .non => true | .non, .str _ => true | .str _, .non => true
 | .int _, .int _ => true | .bl _, .bl _ => true | .str _, .str _ => true | .byt _, .byt _ => true
 | .int _, .str _ => true | .str _, .int _ => true | .bl _, .str _ => true | .str _, .bl _ => true
 | _, _ => false
inductive rEq (x : V) (y : V) (H : Hp) (Q : VK) : Prop where
 | mk (h1 : scal x y = true) (h2 : Q (.bl (decide (x = y))) H) : rEq x y H Q
inductive rNe (x : V) (y : V) (H : Hp) (Q : VK) : Prop where
 | mk (h1 : scal x y = true) (h2 : Q (.bl (!decide (x = y))) H) : rNe x y H Q
theorem dec_int {i j : Int} : decide (V.int i = V.int j) = (i == j) := by
 rw [Bool.eq_iff_iff]
 simp
theorem dec_bl {i j : Bool} : decide (V.bl i = V.bl j) = (i == j) := by
 rw [Bool.eq_iff_iff]
 simp
theorem dec_str {i j : Str} : decide (V.str i = V.str j) = (i == j) := by
 rw [Bool.eq_iff_iff]
 simp
theorem dec_byt {i j : Array UInt8} : decide (V.byt i = V.byt j) = (i.toList == j.toList) := by
 rw [Bool.eq_iff_iff]
 cases i
 cases j
 simp
section
variable {X : Cx} {a b c : Expr} {ta tb tc : TE} {pos : Pos}
theorem xX4 {pins : List (Addr × Obj)} {σ : St} {H : Hp} {s : Shared} {Q : VK} {k k' : Bool} (I : Inv X pins σ H s) (q : Q (.bl k) H) (e : k = k') : EP X pins σ Q (.bool k') s := by
 subst e
 exact ⟨.bl k, H, I, rfl, q⟩
theorem yX0 : OpR X (compareOp .Eq) rEq := by
 intro pins s σ H x y v u Q I rx ry h
 obtain ⟨hs, q⟩ := h
 cases x with
 | non =>
  cases rx
  cases y with
  | non => cases ry; exact PySem.EqNone.eq_none_none (xX4 I q (by simp))
  | bl j => cases ry; exact PySem.EqNone.eq_none_bool (xX4 I q (by simp))
  | int j => obtain ⟨t', rfl⟩ := ry; exact PySem.EqNone.eq_none_int (xX4 I q (by simp))
  | str j => obtain ⟨t', rfl⟩ := ry; exact PySem.EqNone.eq_none_str (xX4 I q (by simp))
  | _ => exact absurd (show false = true from hs) Bool.false_ne_true
 | bl i =>
  cases rx
  cases y with
  | non => cases ry; exact PySem.EqNone.eq_bool_none (xX4 I q (by simp))
  | bl j => cases ry; exact eq_bool (xX4 I q dec_bl)
  | str j => obtain ⟨t', rfl⟩ := ry; exact PySem.EqMixed.eq_bool_str (xX4 I q (by simp))
  | _ => exact absurd (show false = true from hs) Bool.false_ne_true
 | int i =>
  obtain ⟨t, rfl⟩ := rx
  cases y with
  | non => cases ry; exact PySem.EqNone.eq_int_none (xX4 I q (by simp))
  | int j => obtain ⟨t', rfl⟩ := ry; exact eq_int (xX4 I q dec_int)
  | str j => obtain ⟨t', rfl⟩ := ry; exact PySem.EqMixed.eq_int_str (xX4 I q (by simp))
  | _ => exact absurd (show false = true from hs) Bool.false_ne_true
 | str i =>
  obtain ⟨t, rfl⟩ := rx
  cases y with
  | non => cases ry; exact PySem.EqNone.eq_str_none (xX4 I q (by simp))
  | bl j => cases ry; exact PySem.EqMixed.eq_str_bool (xX4 I q (by simp))
  | int j => obtain ⟨t', rfl⟩ := ry; exact PySem.EqMixed.eq_str_int (xX4 I q (by simp))
  | str j => obtain ⟨t', rfl⟩ := ry; exact eq_str (xX4 I q dec_str)
  | _ => exact absurd (show false = true from hs) Bool.false_ne_true
 | byt i =>
  obtain ⟨t, rfl⟩ := rx
  cases y with
  | byt j => obtain ⟨t', rfl⟩ := ry; exact PySem.W.eq_bytes (xX4 I q dec_byt)
  | _ => exact absurd (show false = true from hs) Bool.false_ne_true
 | _ => cases y <;> exact absurd (show false = true from hs) Bool.false_ne_true
theorem yX1 : OpR X (compareOp .NotEq) rNe := by
 intro pins s σ H x y v u Q I rx ry h
 obtain ⟨hs, q⟩ := h
 cases x with
 | non =>
  cases rx
  cases y with
  | non => cases ry; exact PySem.EqNone.ne_none_none (xX4 I q (by simp))
  | bl j => cases ry; exact PySem.EqNone.ne_none_bool (xX4 I q (by simp))
  | int j => obtain ⟨t', rfl⟩ := ry; exact PySem.EqNone.ne_none_int (xX4 I q (by simp))
  | str j => obtain ⟨t', rfl⟩ := ry; exact PySem.EqNone.ne_none_str (xX4 I q (by simp))
  | _ => exact absurd (show false = true from hs) Bool.false_ne_true
 | bl i =>
  cases rx
  cases y with
  | non => cases ry; exact PySem.EqNone.ne_bool_none (xX4 I q (by simp))
  | bl j => cases ry; exact ne_bool (xX4 I q (congrArg not dec_bl))
  | str j => obtain ⟨t', rfl⟩ := ry; exact PySem.EqMixed.ne_bool_str (xX4 I q (by simp))
  | _ => exact absurd (show false = true from hs) Bool.false_ne_true
 | int i =>
  obtain ⟨t, rfl⟩ := rx
  cases y with
  | non => cases ry; exact PySem.EqNone.ne_int_none (xX4 I q (by simp))
  | int j => obtain ⟨t', rfl⟩ := ry; exact ne_int (xX4 I q (congrArg not dec_int))
  | str j => obtain ⟨t', rfl⟩ := ry; exact PySem.EqMixed.ne_int_str (xX4 I q (by simp))
  | _ => exact absurd (show false = true from hs) Bool.false_ne_true
 | str i =>
  obtain ⟨t, rfl⟩ := rx
  cases y with
  | non => cases ry; exact PySem.EqNone.ne_str_none (xX4 I q (by simp))
  | bl j => cases ry; exact PySem.EqMixed.ne_str_bool (xX4 I q (by simp))
  | int j => obtain ⟨t', rfl⟩ := ry; exact PySem.EqMixed.ne_str_int (xX4 I q (by simp))
  | str j => obtain ⟨t', rfl⟩ := ry; exact ne_str (xX4 I q (congrArg not dec_str))
  | _ => exact absurd (show false = true from hs) Bool.false_ne_true
 | byt i =>
  obtain ⟨t, rfl⟩ := rx
  cases y with
  | byt j => obtain ⟨t', rfl⟩ := ry; exact PySem.W.ne_bytes (xX4 I q (congrArg not dec_byt))
  | _ => exact absurd (show false = true from hs) Bool.false_ne_true
 | _ => cases y <;> exact absurd (show false = true from hs) Bool.false_ne_true
theorem op_lt : OpR X (compareOp .Lt) (rI0 fun i j => .bl (decide (i < j))) := opB0 fun _ _ _ _ _ _ _ q => lt_int q
theorem op_le : OpR X (compareOp .LtE) (rI0 fun i j => .bl (decide (i ≤ j))) := opB0 fun _ _ _ _ _ _ _ q => le_int q
theorem op_gt : OpR X (compareOp .Gt) (rI0 fun i j => .bl (decide (j < i))) := opB0 fun _ _ _ _ _ _ _ q => gt_int q
theorem op_ge : OpR X (compareOp .GtE) (rI0 fun i j => .bl (decide (j ≤ i))) := opB0 fun _ _ _ _ _ _ _ q => ge_int q
theorem op_isN : OpR X (compareOp .Is) (fun x y H Q => y = .non ∧ Q (.bl (decide (x = .non))) H) := by
 intro pins s σ H x y v u Q I rx ry h
 obtain ⟨rfl, q⟩ := h
 cases ry
 refine is_none_gen (xX4 I q ?_)
 cases x <;> first
  | (cases rx; rfl)
  | (obtain ⟨t, rfl⟩ := rx; rfl)
theorem op_notN : OpR X (compareOp .IsNot) (fun x y H Q => y = .non ∧ Q (.bl (!decide (x = .non))) H) := by
 intro pins s σ H x y v u Q I rx ry h
 obtain ⟨rfl, q⟩ := h
 cases ry
 refine isnot_none_gen (xX4 I q ?_)
 cases x <;> first
  | (cases rx; rfl)
  | (obtain ⟨t, rfl⟩ := rx; rfl)
theorem xV5 (b : Expr) {op : CmpOp} (h : op ≠ .In := by decide) (h2 : op ≠ .NotIn := by decide) : behindInMarks op b = false := by
 have e1 : (op == CmpOp.In) = false := by cases op <;> first | rfl | exact absurd rfl h
 have e2 : (op == CmpOp.NotIn) = false := by cases op <;> first | rfl | exact absurd rfl h2
 cases b <;> simp [behindInMarks, e1, e2]
theorem yW4 {op : CmpOp} {r : R2} (ho : OpR X (compareOp op) r) (ha : PE X a ta) (hb : PE X b tb) (hm : behindInMarks op b = false) : PE X (.Compare a [op] [b] pos) (tOp r ta tb) := by
 intro pins s σ H Q I h
 exact wpAny_Compare1 (binT ha hb I h fun v u s2 x y H2 I2 rx ry q => ho pins s2 σ H2 x y v u Q I2 rx ry q) hm
inductive tTest_ (Q : Bool → Hp → Prop) (x : V) (H' : Hp) : Prop where
 | mk (k : _) (h1 : x = .bl k) (h2 : Q k H') : tTest_ Q x H'
def tTest (t : TE) : TT := fun σ H Q => t σ H fun x H' => tTest_ Q x H'
theorem xV7 {op : CmpOp} {r : R2} (ho : OpR X (compareOp op) r) (ha : PE X a ta) (hb : PE X b tb) (hm : behindInMarks op b = false) : PT X (.Compare a [op] [b] pos) (tTest (tOp r ta tb)) := by
 intro pins s σ H Q I h
 refine wpAny_isTrue_Compare1 (thn (ha pins s σ H _ I h) fun v s1 ⟨x, H1, I1, r1, q1⟩ => thn (hb pins s1 σ H1 _ I1 q1) fun u s2 ⟨y, H2, I2, r2, q2⟩ =>
  thn (ho pins s2 σ H2 x y v u _ I2 r1 r2 q2) fun c s3 ⟨z, H3, I3, r3, k, e, q3⟩ => ?_) hm
 subst e
 cases r3
 exact wpAny_truthy_bool ⟨H3, I3, q3⟩
def tChain (r r' : R2) (ta tb tc : TE) : TE := fun σ H Q => ta σ H fun x H1 => tb σ H1 fun y H2 => r x y H2 fun z H3 => ∃ k, z = .bl k ∧
 (if k = true then tc σ H3 fun w' H4 => r' y w' H4 Q else Q (.bl false) H3)
theorem pe_chain {op op' : CmpOp} {r r' : R2} (ho : OpR X (compareOp op) r) (ho' : OpR X (compareOp op') r') (ha : PE X a ta) (hb : PE X b tb) (hc : PE X c tc)
  (hm : lastMarks [op, op'] [b, c] = false := by with_unfolding_all rfl) : PE X (.Compare a [op, op'] [b, c] pos) (tChain r r' ta tb tc) := by
 intro pins s σ H Q I h
 refine Compare_chain (thn (ha pins s σ H _ I h) fun v s1 ⟨x, H1, I1, r1, q1⟩ => chain_link (thn (hb pins s1 σ H1 _ I1 q1) fun u s2 ⟨y, H2, I2, r2, q2⟩ =>
  thn (ho pins s2 σ H2 x y v u _ I2 r1 r2 q2) fun d s3 ⟨z, H3, I3, r3, k, e, q3⟩ => ?_)) hm
 subst e
 cases r3
 refine wpAny_truthy_bool ?_
 cases k with
 | false => exact ite_ff ⟨.bl false, H3, I3, rfl, q3⟩
 | true => exact ite_tt (chain_last (thn (hc pins s3 σ H3 _ I3 q3) fun w' s4 ⟨z', H4, I4, r4, q4⟩ => ho' pins s4 σ H4 y z' u w' Q I4 r2 r4 q4))
theorem pt_chain {op op' : CmpOp} {r r' : R2} (ho : OpR X (compareOp op) r) (ho' : OpR X (compareOp op') r') (ha : PE X a ta) (hb : PE X b tb) (hc : PE X c tc)
  (hm : lastMarks [op, op'] [b, c] = false := by with_unfolding_all rfl) : PT X (.Compare a [op, op'] [b, c] pos) (tTest (tChain r r' ta tb tc)) := by
 intro pins s σ H Q I h
 refine isTrue_chain (thn (ha pins s σ H _ I h) fun v s1 ⟨x, H1, I1, r1, q1⟩ => test_link (thn (hb pins s1 σ H1 _ I1 q1) fun u s2 ⟨y, H2, I2, r2, q2⟩ =>
  thn (ho pins s2 σ H2 x y v u _ I2 r1 r2 q2) fun d s3 ⟨z, H3, I3, r3, k, e, q3⟩ => ?_)) hm
 subst e
 cases r3
 refine wpAny_truthy_bool ?_
 cases k with
 | false =>
  obtain ⟨k', e', q'⟩ := q3
  cases e'
  exact ite_ff ⟨H3, I3, q'⟩
 | true =>
  refine ite_tt (test_last (thn (hc pins s3 σ H3 _ I3 q3) fun w' s4 ⟨z', H4, I4, r4, q4⟩ => thn (ho' pins s4 σ H4 y z' u w' _ I4 r2 r4 q4) fun d' s5 ⟨z2, H5, I5, r5, k2, e2, q5⟩ => ?_))
  subst e2
  cases r5
  exact wpAny_truthy_bool ⟨H5, I5, q5⟩
theorem line63 : (sizeLine : Nat) < 2 ^ 63 := by rw [sizeLine_eq]; decide
theorem op_add_str : OpR X (binaryOp .Add) (fun x y H Q => ∃ i j, x = .str i ∧ y = .str j ∧ i.length + j.length ≤ sizeLine ∧ Q (.str (i ++ j)) H) := by
 intro pins s σ H x y v u Q I rx ry h
 obtain ⟨i, j, rfl, rfl, hz, q⟩ := h
 obtain ⟨t, rfl⟩ := rx
 obtain ⟨t', rfl⟩ := ry
 exact add_str (fun t' tk => ⟨.str (i ++ j), H, I.tok _, ⟨_, rfl⟩, q⟩) hz
theorem vals1 {x : V} {us : List Value} (r : Vals [x] us) : ∃ u, us = [u] ∧ RelV x u := by
 cases r with
 | cons r1 r2 => cases r2; exact ⟨_, rfl, r1⟩
theorem vals2 {x y : V} {us : List Value} (r : Vals [x, y] us) : ∃ u w', us = [u, w'] ∧ RelV x u ∧ RelV y w' := by
 cases r with
 | cons r1 r2 =>
  cases r2 with
  | cons r3 r4 => cases r4; exact ⟨_, _, rfl, r1, r3⟩
theorem call_int1 : CallR X (.type "int") (fun xs H Q => (∃ i, xs = [.int i] ∧ Q (.int i) H) ∨ ∃ k, xs = [.bl k] ∧ Q (.int (if k then 1 else 0)) H) := by
 intro pins s σ H xs us Q I r h
 rcases h with ⟨i, rfl, q⟩ | ⟨k, rfl, q⟩
 ·obtain ⟨u, rfl, t, rfl⟩ := vals1 r
  exact call_int_int ⟨.int i, H, I, ⟨_, rfl⟩, q⟩
 ·obtain ⟨u, rfl, r1⟩ := vals1 r
  cases r1
  exact call_int_bool ⟨.int (if k then 1 else 0), H, I.tok _, ⟨_, rfl⟩, q⟩
end
end L2
namespace L2
open PySem PySem.Spec PyProof.Rows
structure ObjM (h : Heap) (x dx C : Addr) (mA : Str → Option Value) : Prop where
 obj : h.get? x = some (PySem.W.instObj C dx)
 ns : h.Ns1 dx mA
 ne : dx ≠ x
theorem lookIn_ns {h : Heap} {dx : Addr} {mA : Str → Option Value} (n : h.Ns1 dx mA) : ∃ od, h.get? dx = some od ∧ ∀ name, PySem.W.lookIn name od = some (mA name) := by
 obtain ⟨o, es, ep, ho, hd, hk, _, hm⟩ := n
 refine ⟨o, ho, fun name => ?_⟩
 have e := hm name
 unfold nsFind findBy at e
 rw [← Array.find?_toList] at e
 unfold PySem.W.lookIn
 rw [hd]
 dsimp only
 split
 ·rename_i y q
  rw [q] at e
  exact congrArg some e
 ·rename_i q
  rw [q] at e
  have a : es.toList.any (·.refKey) = false := by
   rw [List.any_eq_false]
   intro y hy
   obtain ⟨z, t, hkey⟩ := hk y (Array.mem_toList_iff.mp hy)
   simp [DictEntry.refKey, hkey]
  have a' : ¬ es.toList.any (·.refKey) = true := by rw [a]; exact Bool.false_ne_true
  rw [if_neg a']
  exact congrArg some e
theorem ObjM.look {h : Heap} {x dx C : Addr} {mA : Str → Option Value} (I : ObjM h x dx C mA) : ∃ od, PySem.W.InstAt h x (PySem.W.instObj C dx) C (some od) ∧ ∀ name, PySem.W.lookIn name od = some (mA name) :=
 let ⟨od, ho, hl⟩ := lookIn_ns I.ns
 ⟨od, ⟨I.obj, rfl, rfl, ho⟩, hl⟩
section
variable {prog : Program} {w : World} {A : Around} {E : Value → Shared → Prop} {s : Shared} {K : PySem.W.Frag} {x dx C f : Addr} {mA : Str → Option Value} {name : Str} {v : Value}
theorem get_map {expr : Bool} {Q : Value → Shared → Prop} (X : K.In s.heap) (I : ObjM s.heap x dx C mA) (hg : PySem.W.plainGet K C name = true) (hh : PySem.W.hasDictIn K C = true)
  (ha : PySem.W.findIn K (.ref C) name = some none) (hv : mA name = some v) (hv' : PySem.W.handedIn v = true) (h : Q v { s with toks := s.toks + 1 }) :
  wpAny (model prog w) A (getAttr (.ref x) name expr) Q E s := by
 obtain ⟨od, J, hl⟩ := I.look
 exact PySem.W.get_value X J (PySem.W.plainGet_of hg).1 (PySem.W.findObj_own hh ha rfl (by rw [hl, hv])) hv' h
theorem get_meth {pl : Sem Bool} {Q : Value × List Value → Shared → Prop} (X : K.In s.heap) (I : ObjM s.heap x dx C mA) (hg : PySem.W.plainGet K C name = true)
  (hf : PySem.W.findIn K (.ref C) name = some (some (.ref f))) (ht : PySem.W.isFn K (.ref f) = true) (hv : mA name = none) (h : Q (.ref f, [.ref x]) s) :
  wpAny (model prog w) A (getMethod (.ref x) name pl) Q E s := by
 obtain ⟨od, J, hl⟩ := I.look
 exact PySem.W.method_fn X J (PySem.W.plainGet_of hg).1 (PySem.W.plainGet_of hg).2 hf (beq_iff_eq.mp ht) (by show (PySem.W.lookIn name od).map (·.isSome) = some false; rw [hl, hv]; rfl) h
theorem set_map {ns : List Str} {Q : Unit → Shared → Prop} (X : K.In s.heap) (I : ObjM s.heap x dx C mA)
  (hs : PySem.W.findIn K (.ref C) "__setattr__" = some (some (.builtin "object.__setattr__"))) (hp : PySem.W.plainOver K C = true) (ht : PySem.W.takerIn K C name = some none) (hh : PySem.W.hasDictIn K C = true)
  (hw : PySem.Within mA ns) (hsz : ns.length ≤ sizeLine)
  (h : ∀ h', ObjM h' x dx C (fun y => if y = name then some v else mA y) → Heap.SameBut dx s.heap h' → Q () { s with heap := h', toks := s.toks + 2 }) :
  wpAny (model prog w) A (setAttr (.ref x) name v) Q E s := by
 obtain ⟨od, J, hl⟩ := I.look
 refine PySem.W.set_plain X J hs (PySem.W.osa_open (s := { s with toks := s.toks + 1 }) (r := none) X J hp ht fun b => ?_)
 obtain ⟨cd, hc, hd'⟩ := PySem.W.any_some hh
 have hx : s.heap.get? x = some ⟨.ref C, some dx, .plain, #[]⟩ := I.obj
 refine wpAny_bind (wpAny_pure (wpAny_bind (wpAny_bind (wpAny_loadPart hx (wpAny_bind (PySem.W.Looks.here (s := { s with toks := s.toks + 1 }) (PySem.W.looks_clsIn X hc) ?_))))))
 rw [hd']
 refine wpAny_pure (a := some dx) (wpAny_bind (wpAny_pure (wpAny_bind ?_)))
 refine wpAny_nsSet1 (s := { s with toks := s.toks + 1 }) I.ns fun h' hn2 hs2 => ?_
 obtain ⟨oD, esD, epD, hoD, hdD, hcD⟩ := hn2.count (PySem.Within.cons name v hw)
 refine wpAny_bind (wpAny_lookBehind hoD (by rw [hdD]; exact pastItsLine_dict (Nat.le_trans hcD (by rw [List.length_cons]; omega))) ?_)
 exact wpAny_pure (h _ ⟨(hs2.2 _ (Ne.symm I.ne)).trans I.obj, hn2, I.ne⟩ hs2)
theorem make_map {R : Result → Shared → Prop} {vs : List Value} {kw : List (Str × Value)} (X : K.In s.heap) (hm : PySem.W.makesIn K C = true)
  (hi : PySem.W.findIn K (.ref C) "__init__" = some (some (.ref f))) (hf : PySem.W.typeIn K (.ref f) = some (.type "function"))
  (h : codeAny (model prog w) (A.under (.builtin "type.__call__" ⟨.ref C :: vs, kw⟩)) (.call (.ref f) ⟨.ref (s.heap.objs.size + 1) :: vs, kw⟩) (PySem.W.InitBack (s.heap.objs.size + 1) R)
   { s with heap := (s.heap.push PySem.W.emptyDict).push (PySem.W.instObj C s.heap.objs.size) }) :
  codeAny (model prog w) A (.call (.ref C) ⟨vs, kw⟩) R s := by
 obtain ⟨hh, g, d, t, os⟩ := s
 exact PySem.W.make_core (PySem.W.makes_of X hm) (PySem.W.looks_findIn X hi) (fun self => PySem.W.bind_fn X self hf) (.inl rfl) h
end
def putF (f : Str) (v : V) : List (Str × V) → List (Str × V)
 | [] => [(f, v)]
 | (g, x) :: r => if g = f then (g, v) :: r else (g, x) :: putF f v r
theorem lookup_putF (f g : Str) (v : V) : ∀ fs : List (Str × V), (putF f v fs).lookup g = if g = f then some v else fs.lookup g
 | [] => by
  show List.lookup g [(f, v)] = _
  by_cases h : g = f
  ·have hb : (g == f) = true := beq_iff_eq.mpr h
   simp only [List.lookup, hb, if_pos h]
  ·have hb : (g == f) = false := beq_eq_false_iff_ne.mpr h
   simp only [List.lookup, hb, if_neg h]
 | (k, x) :: r => by
  have ih := lookup_putF f g v r
  rw [show putF f v ((k, x) :: r) = (if k = f then (k, v) :: r else (k, x) :: putF f v r) from rfl]
  by_cases hk : k = f
  ·rw [if_pos hk]
   by_cases h : g = k
   ·have hb : (g == k) = true := beq_iff_eq.mpr h
    simp only [List.lookup, hb, if_pos (h.trans hk)]
   ·have hb : (g == k) = false := beq_eq_false_iff_ne.mpr h
    simp only [List.lookup, hb, if_neg (fun e : g = f => h (e.trans hk.symm))]
  ·rw [if_neg hk]
   by_cases h : g = k
   ·have hb : (g == k) = true := beq_iff_eq.mpr h
    simp only [List.lookup, hb, if_neg (fun e : g = f => hk (h.symm.trans e))]
   ·have hb : (g == k) = false := beq_eq_false_iff_ne.mpr h
    simp only [List.lookup, hb]
    exact ih
theorem keys_putF (f : Str) (v : V) : ∀ fs : List (Str × V), f ∈ (putF f v fs).map (·.1) ∧ ∀ g, g ∈ fs.map (·.1) → g ∈ (putF f v fs).map (·.1)
 | [] => ⟨by simp [putF], fun g h => by simp at h⟩
 | (k, x) :: r => by
  obtain ⟨i1, i2⟩ := keys_putF f v r
  rw [show putF f v ((k, x) :: r) = (if k = f then (k, v) :: r else (k, x) :: putF f v r) from rfl]
  by_cases hk : k = f
  ·rw [if_pos hk]
   subst hk
   exact ⟨by simp, fun g h => by simpa using h⟩
  ·rw [if_neg hk]
   refine ⟨?_, fun g h => ?_⟩
   ·rw [List.map_cons]
    exact List.mem_cons_of_mem _ i1
   ·rw [List.map_cons] at h ⊢
    rcases List.mem_cons.mp h with e | e
    ·exact List.mem_cons.mpr (.inl e)
    ·exact List.mem_cons_of_mem _ (i2 g e)
theorem vU3 (f : Str) (v : V) : ∀ fs : List (Str × V), (putF f v fs).length ≤ fs.length + 1
 | [] => by simp [putF]
 | (k, x) :: r => by
  have ih := vU3 f v r
  rw [show putF f v ((k, x) :: r) = (if k = f then (k, v) :: r else (k, x) :: putF f v r) from rfl]
  by_cases hk : k = f
  ·rw [if_pos hk, List.length_cons, List.length_cons]; omega
  ·rw [if_neg hk, List.length_cons, List.length_cons]; omega
theorem RelO.some_of {v : V} {o : Option Value} (r : RelO (some v) o) : ∃ u, o = some u ∧ RelV v u := by
 cases o with
 | none => exact (show False from r).elim
 | some u => exact ⟨u, rfl, r⟩
theorem RelO.none_of {o : Option Value} (r : RelO none o) : o = none := by
 cases o with
 | none => rfl
 | some u => exact (show False from r).elim
theorem handed_of {v : V} {u : Value} (r : RelV v u) : PySem.W.handedIn u = true := by
 cases v with
 | non => cases (show u = Value.none from r); rfl
 | bl b => cases (show u = Value.bool b from r); rfl
 | int i => obtain ⟨t, e⟩ := (show ∃ t, u = Value.int i t from r); cases e; rfl
 | str x => obtain ⟨t, e⟩ := (show ∃ t, u = Value.str x t from r); cases e; rfl
 | byt b => obtain ⟨t, e⟩ := (show ∃ t, u = Value.bytes b t from r); cases e; rfl
 | flt b => obtain ⟨t, e⟩ := (show ∃ t, u = Value.float b t from r); cases e; rfl
 | ref a => cases (show u = Value.ref a from r); rfl
 | ty n => cases (show u = Value.type n from r); rfl
section
variable {P : Program} {w : World} {H H' : Hp} {h h' : Heap} {a C dx : Addr} {fs fs' : List (Str × V)}
theorem ins_get (hok : HOk P w H h) (e : H a = some (.ins C dx fs)) : ∃ mA, ObjM h a dx C mA ∧ (∀ f, RelO (fs.lookup f) (mA f)) ∧ PySem.Within mA (fs.map (·.1)) ∧ fs.length ≤ 1000 ∧ H dx = some (.own a) := by
 obtain ⟨d, z, ne, ob, mA, n, r, q⟩ := (show yY5 P w H h a (.ins C dx fs) from hok a _ e)
 exact ⟨mA, ⟨ob, n, ne⟩, r, q, z, d⟩
end
structure Cls (K : PySem.W.Frag) (C : Addr) : Prop where
 pg : PySem.W.plainGet K C Str.empty = true
 hd : PySem.W.hasDictIn K C = true
 po : PySem.W.plainOver K C = true
 sa : PySem.W.findIn K (.ref C) "__setattr__" = some (some (.builtin "object.__setattr__"))
theorem Cls.get {K : PySem.W.Frag} {C : Addr} (c : Cls K C) (f : Str) : PySem.W.plainGet K C f = true := c.pg
def yV1 (K : PySem.W.Frag) (C : Addr) (f : Str) : Prop := PySem.W.findIn K (.ref C) f = some none
theorem yV1.taker {K : PySem.W.Frag} {C : Addr} {f : Str} (n : yV1 K C f) : PySem.W.takerIn K C f = some none := by
 unfold PySem.W.takerIn
 rw [show PySem.W.findIn K (.ref C) f = some none from n]
 rfl
structure Meth (K : PySem.W.Frag) (C : Addr) (m : Str) (f : Addr) : Prop where
 at_ : PySem.W.findIn K (.ref C) m = some (some (.ref f))
 fn : PySem.W.isFn K (.ref f) = true
 kp : PySem.W.keepIn K (.ref f) = true
section
variable {X : Cx} {pins : List (Addr × Obj)} {σ : St} {H : Hp} {s : Shared} {a C dx : Addr} {fs : List (Str × V)} {f : Str} {v : V} {A : Around} {E : Value → Shared → Prop}
theorem getattr_ok {b : Bool} {Q : Value → Shared → Prop} (I : Inv X pins σ H s) (e : H a = some (.ins C dx fs)) (c : Cls X.K C) (n : yV1 X.K C f) (l : fs.lookup f = some v)
  (h : ∀ u s', Inv X pins σ H s' → RelV v u → Q u s') : wpAny (model X.prog X.w) A (getAttr (.ref a) f b) Q E s := by
 obtain ⟨mA, O, r, _, _, _⟩ := ins_get I.hok e
 obtain ⟨u, hu, ru⟩ := RelO.some_of (v := v) (o := mA f) (by rw [← l]; exact r f)
 exact get_map I.kIn O (c.get f) c.hd n hu (handed_of ru) (h u _ (I.tok _) ru)
theorem vW4 {m : Str} {g : Addr} {pl : Sem Bool} {Q : Value × List Value → Shared → Prop} (I : Inv X pins σ H s) (e : H a = some (.ins C dx fs)) (c : Cls X.K C) (k : Meth X.K C m g) (l : fs.lookup m = none)
  (h : Q (.ref g, [.ref a]) s) : wpAny (model X.prog X.w) A (getMethod (.ref a) m pl) Q E s := by
 obtain ⟨mA, O, r, _, _, _⟩ := ins_get I.hok e
 have hn : mA m = none := RelO.none_of (by rw [← l]; exact r m)
 exact get_meth I.kIn O (c.get m) k.at_ k.fn hn h
theorem setattr_ok {y : V} {u : Value} {Q : Unit → Shared → Prop} (I : Inv X pins σ H s) (e : H a = some (.ins C dx fs)) (c : Cls X.K C) (n : yV1 X.K C f) (hl : fs.length < 1000) (ry : RelV y u)
  (h : ∀ s', Inv X pins σ (upd H a (.ins C dx (putF f y fs))) s' → Q () s') : wpAny (model X.prog X.w) A (setAttr (.ref a) f u) Q E s := by
 obtain ⟨mA, O, r, wi, _, ho⟩ := ins_get I.hok e
 have hz : (fs.map (·.1)).length ≤ sizeLine := by rw [List.length_map, sizeLine_eq]; omega
 refine set_map I.kIn O c.sa c.po n.taker c.hd wi hz fun h' O' sb => h _ ?_
 have hd : ∃ o, h'.get? dx = some o := let ⟨o, _, _, e', _⟩ := O'.ns; ⟨o, e'⟩
 refine I.write (x := a) (e := dx) (by rw [e]; exact True.intro) (.inr ho) (fun b q hb z => (sb.2 b hb).trans z) hd ?_
 refine ⟨by rw [xU2 O.ne]; exact ho, ?_, O.ne, O'.obj, _, O'.ns, fun g => ?_, fun g hg => ?_⟩
 ·have := vU3 f y fs; omega
 ·show RelO ((putF f y fs).lookup g) (if g = f then some u else mA g)
  rw [lookup_putF]
  by_cases q : g = f
  ·rw [if_pos q, if_pos q]; exact ry
  ·rw [if_neg q, if_neg q]; exact r g
 ·by_cases q : g = f
  ·rw [q]; exact (keys_putF f y fs).1
  ·refine (keys_putF f y fs).2 g (wi g fun z => hg ?_)
   show (if g = f then some u else mA g) = none
   rw [if_neg q]; exact z
theorem Inv.made (I : Inv X pins σ H s) : Inv X pins σ (upd (upd H s.heap.objs.size (.own (s.heap.objs.size + 1))) (s.heap.objs.size + 1) (.ins C s.heap.objs.size []))
  { s with heap := (s.heap.push PySem.W.emptyDict).push (PySem.W.instObj C s.heap.objs.size) } := by
 have e1 : (s.heap.push PySem.W.emptyDict).get? s.heap.objs.size = some PySem.W.emptyDict := Heap.get?_push_size s.heap rfl
 have e2 : ((s.heap.push PySem.W.emptyDict).push (PySem.W.instObj C s.heap.objs.size)).get? (s.heap.objs.size + 1) = some (PySem.W.instObj C s.heap.objs.size) := by
  have := Heap.get?_push_size (s.heap.push PySem.W.emptyDict) (o := PySem.W.instObj C s.heap.objs.size) rfl
  rwa [Heap.size_push] at this
 have e3 : (s.heap.push PySem.W.emptyDict).Ns s.heap.objs.size (fun _ => none) := ⟨PySem.W.emptyDict, #[], _, e1, rfl, (fun e he => absurd he (by simp)), fun _ => rfl⟩
 have I1 := I.laid (a := s.heap.objs.size) (o := .own (s.heap.objs.size + 1)) (h' := s.heap.push PySem.W.emptyDict) (t' := s.toks) (fun b u q => Heap.get?_push_of_some _ q) (Nat.le_refl _) ⟨_, e1⟩
 refine I1.laid (a := s.heap.objs.size + 1) (o := .ins C s.heap.objs.size []) (t' := s.toks) (fun b u q => Heap.get?_push_of_some _ q) (Nat.le_of_eq (Heap.size_push _ _)) ?_
 have ne : s.heap.objs.size ≠ s.heap.objs.size + 1 := Nat.ne_of_lt (Nat.lt_succ_self _)
 refine ⟨by rw [xU2 ne, xU9], Nat.zero_le _, ne, e2, fun _ => none, (Heap.Ns1.of_empty e3).at fun o q => Heap.get?_push_of_some _ q, fun _ => True.intro, fun y hy => absurd rfl hy⟩
theorem attr_of {prog : Program} {w : World} {env : Env} {e : Expr} {f : Str} {pos : Pos} {s : Shared} {Q : Value → Shared → Prop} (hb : attributeBase e f env (eval e env) = eval e env)
  (h : wpAny (model prog w) A (eval e env) (fun o s₁ => wpAny (model prog w) A (getAttr o f true) Q E s₁) E s) : wpAny (model prog w) A (eval (.Attribute e f pos) env) Q E s :=
 Attribute_any_ h (by rw [arm_eval_Attribute, hb])
end
inductive tFld_ (K : PySem.W.Frag) (f : Str) (Q : VK) (x : V) (H1 : Hp) : Prop where
 | mk (a : _) (C : _) (dx : _) (fs : _) (v : _) (h1 : x = .ref a) (h2 : H1 a = some (.ins C dx fs)) (h3 : Cls K C) (h4 : yV1 K C f) (h5 : fs.lookup f = some v) (h6 : Q v H1) : tFld_ K f Q x H1
def tFld (K : PySem.W.Frag) (ta : TE) (f : Str) : TE := fun σ H Q => ta σ H fun x H1 => tFld_ K f Q x H1
inductive sFld_ (K : PySem.W.Frag) (f : Str) (D : Ends) (σ : St) (y : V) (x : V) (H2 : Hp) : Prop where
 | mk (a : _) (C : _) (dx : _) (fs : _) (h1 : x = .ref a) (h2 : H2 a = some (.ins C dx fs)) (h3 : Cls K C) (h4 : yV1 K C f) (h5 : fs.length < 1000) (h6 : D.nx σ (upd H2 a (.ins C dx (putF f y fs)))) : sFld_ K f D σ y x H2
def sFld (K : PySem.W.Frag) (ta tv : TE) (f : Str) : TS := fun D σ H => tv σ H fun y H1 => ta σ H1 fun x H2 => sFld_ K f D σ y x H2
section
variable {X : Cx} {o e value : Expr} {f : Str} {pos pos' tpos : Pos} {ta tv : TE}
theorem xX9 (he : PE X e ta) (hb : attributeBase e f X.env (eval e X.env) = eval e X.env) : PE X (.Attribute e f pos) (tFld X.K ta f) := by
 intro pins s σ H Q I h
 refine attr_of hb (thn (he pins s σ H _ I h) fun u s1 ⟨x, H1, I1, rx, a, C, dx, fs, v, ex, ea, c, n, l, q⟩ => ?_)
 subst ex
 obtain rfl : u = Value.ref a := rx
 exact getattr_ok I1 ea c n l fun u' s2 I2 ru => ⟨v, H1, I2, ru, q⟩
theorem yU2 (ha : PE X o ta) (hv : PE X value tv) (hs : swapsWith value (some (.Attribute o f pos')) pos.line X.env = pure false) : PS X (.Assign [.Attribute o f pos'] value pos) (sFld X.K ta tv f) := by
 intro pins s σ H D I h
 refine plainObj_wpAny_Assign_Attribute (thn (hv pins s σ H _ I h) fun u s1 ⟨y, H1, I1, ry, q⟩ => thn (ha pins s1 σ H1 _ I1 q) fun ov s2 ⟨x, H2, I2, rx, a, C, dx, fs, ex, ea, c, n, l, q2⟩ => ?_) hs
 subst ex
 obtain rfl : ov = Value.ref a := rx
 exact setattr_ok I2 ea c n l ry fun s3 I3 => ⟨σ, _, I3, q2⟩
end
section
variable {X : Cx} {pins : List (Addr × Obj)} {σ : St} {H : Hp} {s : Shared} {A : Around} {E : Value → Shared → Prop} {Q : Value → Shared → Prop} {c : Value} {b : Bool}
inductive TyOf (K : PySem.W.Frag) (H : Hp) : V → Value → Prop where
 | non : TyOf K H .non (.type "NoneType")
 | bl (x : Bool) : TyOf K H (.bl x) (.type "bool")
 | int (i : Int) : TyOf K H (.int i) (.type "int")
 | str (x : Str) : TyOf K H (.str x) (.type "str")
 | flt (x : UInt64) : TyOf K H (.flt x) (.type "float")
 | lst {a : Addr} {xs : List V} (e : H a = some (.lst xs)) : TyOf K H (.ref a) (.type "list")
 | frz {a : Addr} {o : Obj} {xs : List V} (e : H a = some (.frz o (.lst xs))) : TyOf K H (.ref a) (.type "list")
 | tup {a : Addr} {xs : List V} (e : H a = some (.tup xs)) : TyOf K H (.ref a) (.type "tuple")
 | dK {a : Addr} {kvs : List (Key × V)} (e : H a = some (.dK kvs)) : TyOf K H (.ref a) (.type "dict")
 | dT {a : Addr} {kvs : List (List Key × V)} (e : H a = some (.dT kvs)) : TyOf K H (.ref a) (.type "dict")
 | ins {a C dx : Addr} {fs : List (Str × V)} (e : H a = some (.ins C dx fs)) (cl : Cls K C) (ha : PySem.W.findIn K (.ref C) "__class__" = some (some (.builtin "object.__class__")))
   (hn : PySem.W.specialIn K (.builtin "object.__class__") "__get__" = some (some (.builtin "getset_descriptor.__get__"))) (htk : PySem.W.takesIn K (.builtin "object.__class__") = some true)
   (hm : PySem.W.mroIn K C (.type "object") = some true) : TyOf K H (.ref a) (.ref C)
theorem isinst_ok {x : V} {u t : Value} (I : Inv X pins σ H s) (rx : RelV x u) (ty : TyOf X.K H x t) (e : PySem.W.kitOne X.K t c = some b) (h : ∀ tk, Q (.bool b) { s with toks := tk }) :
  wpAny (model X.prog X.w) A (call (.builtin "isinstance") [u, c]) Q E s := by
 cases ty with
 | non => cases (show u = Value.none from rx); exact PySem.W.kia_one PySem.W.kitx_none I.kIn True.intro e (fun z => nomatch z) h
 | bl y => cases (show u = Value.bool y from rx); exact PySem.W.kia_one PySem.W.kitx_bool I.kIn True.intro e (fun z => nomatch z) h
 | int i => obtain ⟨t, q⟩ := (show ∃ t, u = Value.int i t from rx); cases q; exact PySem.W.kia_one PySem.W.kitx_int I.kIn True.intro e (fun z => nomatch z) h
 | str y => obtain ⟨t, q⟩ := (show ∃ t, u = Value.str y t from rx); cases q; exact PySem.W.kia_one PySem.W.kitx_str I.kIn True.intro e (fun z => nomatch z) h
 | flt y => obtain ⟨t, q⟩ := (show ∃ t, u = Value.float y t from rx); cases q; exact PySem.W.kia_one PySem.W.kitx_float I.kIn True.intro e (fun z => nomatch z) h
 | @lst a xs ea =>
  cases (show u = Value.ref a from rx)
  obtain ⟨_, _, n, _, h1⟩ := (show yY5 X.prog X.w H s.heap a (.lst xs) from I.hok a _ ea)
  exact PySem.W.kia_one PySem.W.kitx_list I.kIn ⟨_, h1, rfl⟩ e (fun z => nomatch z) h
 | @frz a ob xs ea =>
  cases (show u = Value.ref a from rx)
  obtain ⟨_, _, _, n, _, h1⟩ := (show yY5 X.prog X.w H s.heap a (.frz ob (.lst xs)) from I.hok a _ ea)
  exact PySem.W.kia_one PySem.W.kitx_list I.kIn ⟨_, h1, rfl⟩ e (fun z => nomatch z) h
 | @tup a xs ea =>
  cases (show u = Value.ref a from rx)
  obtain ⟨_, _, _, p⟩ := (show yY5 X.prog X.w H s.heap a (.tup xs) from I.hok a _ ea)
  obtain ⟨o, h1, h2, _⟩ := p
  exact PySem.W.kia_one PySem.W.kitx_tuple I.kIn ⟨o, h1, h2⟩ e (fun z => nomatch z) h
 | @dK a kvs ea =>
  cases (show u = Value.ref a from rx)
  obtain ⟨_, _, vs, _, p⟩ := (show yY5 X.prog X.w H s.heap a (.dK kvs) from I.hok a _ ea)
  obtain ⟨o, es, ep, h1, h2, _⟩ := p
  exact PySem.W.kia_one PySem.W.kitx_dict I.kIn ⟨o, h1, h2.1⟩ e (fun z => nomatch z) h
 | @dT a kvs ea =>
  cases (show u = Value.ref a from rx)
  obtain ⟨_, _, xs, _, o, es, ep, h1, h2, _⟩ := (show yY5 X.prog X.w H s.heap a (.dT kvs) from I.hok a _ ea)
  exact PySem.W.kia_one PySem.W.kitx_dict I.kIn ⟨o, h1, h2.1⟩ e (fun z => nomatch z) h
 | @ins a C dx fs ea cl ha hn htk hm =>
  cases (show u = Value.ref a from rx)
  obtain ⟨mA, O, _⟩ := ins_get I.hok ea
  obtain ⟨od, J, _⟩ := O.look
  exact PySem.W.kia_one (PySem.W.kitx_own (cl.get _) cl.hd ha hn htk hm) I.kIn J e (fun z => nomatch z) h
end
end L2
namespace L2
open PySem PySem.Spec PyProof.Rows
structure Room (k : Nat) (A : Around) : Prop where
 hd : A.handled = none
 dp : A.depth + 3 * k + 5 < recursionLimit
 un : A.units + 16 * k + 200 < cLine
theorem Room.mono {j k : Nat} {A : Around} (r : Room k A) (h : j ≤ k) : Room j A := ⟨r.hd, by have := r.dp; omega, by have := r.un; omega⟩
theorem Room.deeper {k : Nat} {A : Around} (r : Room (k + 1) A) (env : Env) : Room k (A.deeper env) :=
 ⟨r.hd, by have := r.dp; show A.depth + 1 + 3 * k + 5 < _; omega, by have := r.un; show A.units + 3 + 16 * k + 200 < _; omega⟩
theorem make_depth {A : Around} {C : Addr} {us : List Value} {kw : List (Str × Value)} : (A.under (.builtin "type.__call__" ⟨.ref C :: us, kw⟩)).depth = A.depth + 1 := by
 first | rfl | simp [Around.under, Code.weight, Code.isCreation, Code.isGuard, Code.isCaller, Code.frames, Code.isFrame, guardIds]
theorem make_units {A : Around} {C : Addr} {us : List Value} {kw : List (Str × Value)} : (A.under (.builtin "type.__call__" ⟨.ref C :: us, kw⟩)).units = A.units + 1 := by
 first | rfl | simp [Around.under, Code.cUnits, Code.frames, Code.isFrame]
theorem Room.make {k : Nat} {A : Around} (r : Room (k + 1) A) (C : Addr) (us : List Value) (kw : List (Str × Value)) : Room k (A.under (.builtin "type.__call__" ⟨.ref C :: us, kw⟩)) :=
 ⟨r.hd, by have := r.dp; rw [make_depth]; omega, by have := r.un; rw [make_units]; omega⟩
theorem Room.depth {k : Nat} {A : Around} (r : Room k A) : A.depth < recursionLimit := by have := r.dp; omega
theorem Room.units {k : Nat} {A : Around} (r : Room k A) : A.units + 64 < cLine := by have := r.un; omega
def tNil : TA := fun _ H Q => Q [] H
def tCons (ta : TE) (tr : TA) : TA := fun σ H Q => ta σ H fun x H1 => tr σ H1 fun xs H2 => Q (x :: xs) H2
section
variable {X : Cx} {e : Expr} {es : List Expr} {te : TE} {t : TA} {pos : Pos}
theorem xU7 : PA X [] tNil := fun _ _ _ _ H Q I h => Calls.spliced_nil ⟨[], H, I, .nil, h⟩
theorem pa_cons (ha : PE X e te) (hr : PA X es t) (hs : starEach (e :: es) X.env = (false, eval e X.env) :: starEach es X.env := by rfl) : PA X (e :: es) (tCons te t) := by
 intro pos pins s σ H Q I h
 rw [hs]
 show wpAny _ _ (spliced ((false, eval e X.env) :: backTo pos (starEach es X.env))) _ _ s
 refine Calls.spliced_cons (thn (ha pins s σ H _ I h) fun u s1 ⟨x, H1, I1, r1, q1⟩ => ?_)
 exact thn (hr pos pins s1 σ H1 _ I1 q1) fun us s2 ⟨xs, H2, I2, r2, q2⟩ => ⟨x :: xs, H2, I2, .cons r1 r2, q2⟩
inductive tTup_ (Q : VK) (xs : List V) (H1 : Hp) : Prop where
 | mk (h1 : xs.length ≤ sizeLine) (h2 : ∀ p, H1 p = none → Q (.ref p) (upd H1 p (.tup xs))) : tTup_ Q xs H1
def tTup (t : TA) : TE := fun σ H Q => t σ H fun xs H1 => tTup_ Q xs H1
inductive tLst_ (Q : VK) (xs : List V) (H1 : Hp) : Prop where
 | mk (h1 : xs.length ≤ sizeLine) (h2 : ∀ p, H1 p = none → Q (.ref p) (upd H1 p (.lst xs))) : tLst_ Q xs H1
def tLst (t : TA) : TE := fun σ H Q => t σ H fun xs H1 => tLst_ Q xs H1
theorem xZ6 {x1} (h : PA X es t) : PE X (.Tuple es x1 pos) (tTup t) := by
 intro pins s σ H Q I hq
 refine wpAny_Tuple_spliced (thn (h pos pins s σ H _ I hq) fun us s1 ⟨xs, H1, I1, r, z, q⟩ => ⟨by rw [← r.length]; exact z, ?_⟩)
 have hf : H1 s1.heap.objs.size = none := I1.hok.fresh (Nat.le_refl _)
 refine ⟨.ref s1.heap.objs.size, upd H1 s1.heap.objs.size (.tup xs), I1.laid (t' := s1.toks) (fun b u e => Heap.get?_push_of_some _ e) (Nat.le_refl _) ?_, rfl, q _ hf⟩
 exact ⟨z, us, r, ⟨_, Heap.get?_push_size _ rfl, rfl, _, rfl⟩⟩
theorem xQ8 (h : PA X es t) : PE X (.List es pos) (tLst t) := by
 intro pins s σ H Q I hq
 refine wpAny_List_spliced (thn (h pos pins s σ H _ I hq) fun us s1 ⟨xs, H1, I1, r, z, q⟩ => ⟨by rw [← r.length]; exact z, ?_⟩)
 have hf : H1 s1.heap.objs.size = none := I1.hok.fresh (Nat.le_refl _)
 refine ⟨.ref s1.heap.objs.size, upd H1 s1.heap.objs.size (.lst xs), I1.laid (t' := s1.toks) (fun b u e => Heap.get?_push_of_some _ e) (Nat.le_refl _) ?_, rfl, q _ hf⟩
 exact ⟨z, us, 0, r, Heap.get?_push_size _ rfl⟩
end
abbrev Sp := List V → Hp → VK → XK → Prop
abbrev CXT := List Env → Hp → Shared → XK → Value → Shared → Prop
structure Env0 (P : Program) (w : World) (K : PySem.W.Frag) (mg : Str → Option Value) (base : Heap) (A : Around) (outer : List Env) (s : Shared) (H : Hp) : Prop where
 frames : A.frames = some outer
 mod : Mod K mg base
 bs : ∀ b o, base.get? b = some o → s.heap.get? b = some o ∧ H b = none
 bsz : base.objs.size ≤ s.heap.objs.size
 funs : s.heap.FunFrames base outer
 frf : ∀ b ∈ frs outer, H b = none
 hok : HOk P w H s.heap
 bare : AllBare s.gens
def CE (outer : List Env) (P : Program) (w : World) (H : Hp) (s : Shared) (Q : VK) (u : Value) (s' : Shared) : Prop :=
 ∃ v H', s'.os = s.os ∧ AllBare s'.gens ∧ Un (frs outer) [] H H' s.heap s'.heap ∧ HOk P w H' s'.heap ∧ RelV v u ∧ Q v H'
def CR (CX : CXT) (outer : List Env) (P : Program) (w : World) (H : Hp) (s : Shared) (Q : VK) (E : XK) (r : Result) (s' : Shared) : Prop :=
 match r with
 | .ok (.ret u) => CE outer P w H s Q u s'
 | .ok _ => False
 | .error e => CX outer H s E e s'
structure FnOk (P : Program) (w : World) (K : PySem.W.Frag) (mg : Str → Option Value) (base : Heap) (CX : CXT) (k : Nat) (f : Addr) (fd : FuncData) (ps : List Str) (sp : Sp) : Prop where
 len : ∀ vs H Q E, sp vs H Q E → vs.length = ps.length
 run : ∀ (A : Around) (outer : List Env) (s : Shared) (H : Hp) (args : Args) (us : List Value) (vs : List V) (Q : VK) (E : XK), Room k A → Env0 P w K mg base A outer s H → BindsTo s fd args (ps.zip us) → Vals vs us → sp vs H Q E →
  codeAny (model P w) A (.call (.ref f) args) (CR CX outer P w H s Q E) s
theorem Env0.make {P : Program} {w : World} {K : PySem.W.Frag} {mg : Str → Option Value} {base : Heap} {A : Around} {outer : List Env} {s : Shared} {H : Hp} (e : Env0 P w K mg base A outer s H) (C : Addr) (us : List Value) (kw : List (Str × Value)) :
  Env0 P w K mg base (A.under (.builtin "type.__call__" ⟨.ref C :: us, kw⟩)) outer s H := ⟨by first | exact e.frames | (simpa [Around.under, Code.envs, Code.isFrame, pushEnvs] using e.frames), e.mod, e.bs, e.bsz, e.funs, e.frf, e.hok, e.bare⟩
section
variable {X : Cx} {pins : List (Addr × Obj)} {σ : St} {H : Hp} {s s' : Shared}
theorem Inv.env0 (I : Inv X pins σ H s) : Env0 X.prog X.w X.K X.mg X.base X.A X.stack s H :=
 ⟨I.ok.frames, I.ok.mod, I.bs, Nat.le_trans I.ok.bsz I.sz, I.stack, I.stkFree, I.hok, I.bare⟩
theorem Inv.after {Q : VK} {u : Value} (I : Inv X pins σ H s) (h : CE X.stack X.prog X.w H s Q u s') : EP X pins σ Q u s' := by
 obtain ⟨v, H', os, bare, un, hok, r, q⟩ := h
 obtain ⟨hh, g, d, t, os'⟩ := s'
 obtain rfl : os' = s.os := os
 exact ⟨v, H', I.call (h' := hh) (g' := g) (d' := d) (t' := t) (ch := []) un hok bare (fun b z => absurd z (by simp)), r, q⟩
end
def tCall (sp : Sp) (dvs : List V) (E : XK) (t : TA) : TE := fun σ H Q => t σ H fun vs H1 => sp (vs ++ dvs) H1 Q E
inductive tMeth_ (C : Addr) (m : Str) (sp : Sp) (dvs : List V) (E : XK) (t : TA) (σ : St) (Q : VK) (x : V) (H1 : Hp) : Prop where
 | mk (a : _) (dx : _) (fs : _) (h1 : x = .ref a) (h2 : H1 a = some (.ins C dx fs)) (h3 : fs.lookup m = none) (h4 : t σ H1 fun vs H2 => sp (x :: (vs ++ dvs)) H2 Q E) : tMeth_ C m sp dvs E t σ Q x H1
def tMeth (C : Addr) (m : Str) (sp : Sp) (dvs : List V) (E : XK) (ta : TE) (t : TA) : TE := fun σ H Q => ta σ H fun x H1 => tMeth_ C m sp dvs E t σ Q x H1
def tMake (C : Addr) (sp : Sp) (dvs : List V) (E : XK) (t : TA) : TE := fun σ H Q => t σ H fun vs H1 => ∀ x dx, H1 x = none → H1 dx = none → dx ≠ x →
 sp (.ref x :: (vs ++ dvs)) (upd (upd H1 dx (.own x)) x (.ins C dx [])) (fun v H2 => v = .non ∧ Q (.ref x) H2) E
def Binds (K : PySem.W.Frag) (fd : FuncData) (ps : List Str) (ds : List Value) : Prop :=
 ∀ (s : Shared) (us : List Value), K.In s.heap → (us ++ ds).length = ps.length → BindsTo s fd ⟨us, []⟩ (ps.zip (us ++ ds))
theorem Binds.all {K : PySem.W.Frag} {fd : FuncData} {ps : List Str} (h : ∀ us : List Value, us.length = ps.length → bindArgs fd ⟨us, []⟩ = pure (ps.zip us)) : Binds K fd ps [] := fun s us _ hl => by
 rw [List.append_nil] at hl ⊢
 exact .of_eq (h us hl)
def vU9 (CX : CXT) (X : Cx) (E : XK) : Prop := ∀ (pins : List (Addr × Obj)) (σ : St) (H : Hp) (s : Shared) (e : Value) (s' : Shared), Inv X pins σ H s → CX X.stack H s E e s' → X.xe e s'
section
variable {X : Cx} {CX : CXT} {k : Nat} {f C : Addr} {fd : FuncData} {ps : List Str} {sp : Sp} {dvs : List V} {ds : List Value} {E : XK} {x m : Str} {p pos apos : Pos} {e o : Expr} {es : List Expr} {ta : TE} {t : TA}
theorem run_fn {pins : List (Addr × Obj)} {σ : St} {H : Hp} {s : Shared} {Q : VK} {us : List Value} {vs : List V} (F : FnOk X.prog X.w X.K X.mg X.base CX k f fd ps sp) (hr : Room k X.A) (hb : Binds X.K fd ps ds) (hd : Vals dvs ds) (hx : vU9 CX X E)
  (I : Inv X pins σ H s) (r : Vals vs us) (h : sp (vs ++ dvs) H Q E) : wpAny (model X.prog X.w) X.A (call (.ref f) us) (EP X pins σ Q) X.xe s := by
 have r2 : Vals (vs ++ dvs) (us ++ ds) := r.append hd
 have hl : (us ++ ds).length = ps.length := by rw [← r2.length]; exact F.len _ _ _ _ h
 refine wpAny_call (codeAny_mono (F.run X.A X.stack s H ⟨us, []⟩ (us ++ ds) (vs ++ dvs) Q E hr I.env0 (hb s us I.kIn hl) r2 h) fun r s' hq => ?_)
 cases r with
 | error e => exact hx pins σ H s e s' I hq
 | ok fl =>
  cases fl with
  | ret u => exact I.after hq
  | next => exact False.elim hq
  | brk => exact False.elim hq
  | cont => exact False.elim hq
theorem pe_call (F : FnOk X.prog X.w X.K X.mg X.base CX k f fd ps sp) (hr : Room k X.A) (hg : Gl X x) (hm : X.mg x = some (.ref f)) (hk : PySem.W.keepIn X.K (.ref f) = true) (hb : Binds X.K fd ps ds) (hd : Vals dvs ds) (hx : vU9 CX X E)
  (ha : PA X (e :: es) t) (hdb : (x == ("__debug__" : Str)) = false := by decide) (he : starEach (e :: es) X.env = (false, eval e X.env) :: starEach es X.env := by rfl) (hpl : (backTo pos (starEach es X.env)).any (·.1) = false := by rfl) :
  PE X (.Call (.Name x p) (e :: es) [] pos) (tCall sp dvs E t) := by
 intro pins s σ H Q I h
 refine wpAny_Call_Name_kw (vU2 I hg hm ?_ hdb)
 refine PySem.W.callWith_K (h₀ := X.base) I.ok.mod.kin hk (thn (ha pos pins s σ H _ I h) fun us s1 ⟨vs, H1, I1, r, q⟩ => ⟨I1.kIn, ?_⟩) he hpl
 exact run_fn F hr hb hd hx I1 r q
theorem yU9 {pl : Sem Bool} (he : PE X o ta) (c : Cls X.K C) (hm : Meth X.K C m f) (F : FnOk X.prog X.w X.K X.mg X.base CX k f fd ps sp) (hr : Room k X.A) (hb : Binds X.K fd ps ds) (hd : Vals dvs ds) (hx : vU9 CX X E) (ha : PA X (e :: es) t)
  (hst : starEach (e :: es) X.env = (false, eval e X.env) :: starEach es X.env := by rfl) (hpl : (backTo pos (starEach es X.env)).any (·.1) = false := by rfl)
  (ht : eval (.Call (.Attribute o m apos) (e :: es) [] pos) X.env = (do
   let ov ← eval o X.env
   standAt apos.atName
   let (f, first) ← holding [ov] (getMethod ov m pl)
   callWith pos f first (backTo pos (starEach (e :: es) X.env)) (backToKw pos (keywordEach [] X.env))) := by rfl) :
  PE X (.Call (.Attribute o m apos) (e :: es) [] pos) (tMeth C m sp dvs E ta t) := by
 intro pins s σ H Q I h
 refine PySem.W.methodCall_KW (pl := pl) (thn (he pins s σ H _ I h) fun u s1 ⟨x, H1, I1, rx, a, dx, fs, ex, ea, l, q⟩ => ?_) ht
 subst ex
 obtain rfl : u = Value.ref a := rx
 refine vW4 I1 ea c hm l ?_
 refine PySem.W.callWith_K (first := [.ref a]) (h₀ := X.base) I.ok.mod.kin hm.kp (thn (ha pos pins s1 σ H1 _ I1 q) fun us s2 ⟨vs, H2, I2, r, q2⟩ => ⟨I2.kIn, ?_⟩) hst hpl
 exact run_fn (us := .ref a :: us) (vs := .ref a :: vs) F hr hb hd hx I2 (.cons rfl r) q2
theorem pe_meth0 {pl : Sem Bool} (he : PE X o ta) (c : Cls X.K C) (hm : Meth X.K C m f) (F : FnOk X.prog X.w X.K X.mg X.base CX k f fd ps sp) (hr : Room k X.A) (hb : Binds X.K fd ps ds) (hd : Vals dvs ds) (hx : vU9 CX X E)
  (ht : eval (.Call (.Attribute o m apos) [] [] pos) X.env = (do
   let ov ← eval o X.env
   standAt apos.atName
   let (f, first) ← holding [ov] (getMethod ov m pl)
   callWith pos f first (backTo pos (starEach [] X.env)) (backToKw pos (keywordEach [] X.env))) := by rfl) :
  PE X (.Call (.Attribute o m apos) [] [] pos) (tMeth C m sp dvs E ta tNil) := by
 intro pins s σ H Q I h
 refine PySem.W.methodCall_KW (pl := pl) (thn (he pins s σ H _ I h) fun u s1 ⟨x, H1, I1, rx, a, dx, fs, ex, ea, l, q⟩ => ?_) ht
 subst ex
 obtain rfl : u = Value.ref a := rx
 refine vW4 I1 ea c hm l ?_
 exact PySem.W.callWith_K0 (first := [.ref a]) I1.kIn hm.kp (run_fn (us := [.ref a]) (vs := [.ref a]) F hr hb hd hx I1 (.cons rfl .nil) q)
structure Mk (K : PySem.W.Frag) (C f : Addr) : Prop where
 makes : PySem.W.makesIn K C = true
 init : PySem.W.findIn K (.ref C) "__init__" = some (some (.ref f))
 fn : PySem.W.isFn K (.ref f) = true
 kp : PySem.W.keepIn K (.ref C) = true
theorem run_make {pins : List (Addr × Obj)} {σ : St} {H : Hp} {s : Shared} {Q : VK} {us : List Value} {vs : List V} (M : Mk X.K C f) (F : FnOk X.prog X.w X.K X.mg X.base CX k f fd ps sp) (hr : Room (k + 1) X.A) (hb : Binds X.K fd ps ds) (hd : Vals dvs ds)
  (hx : vU9 CX X E) (I : Inv X pins σ H s) (r : Vals vs us)
  (h : ∀ x dx, H x = none → H dx = none → dx ≠ x → sp (.ref x :: (vs ++ dvs)) (upd (upd H dx (.own x)) x (.ins C dx [])) (fun v H2 => v = .non ∧ Q (.ref x) H2) E) :
  wpAny (model X.prog X.w) X.A (call (.ref C) us) (EP X pins σ Q) X.xe s := by
 have hq := h (s.heap.objs.size + 1) s.heap.objs.size (I.hok.fresh (Nat.le_succ _)) (I.hok.fresh (Nat.le_refl _)) (Nat.ne_of_lt (Nat.lt_succ_self _))
 have I2 := Inv.made (C := C) I
 have r2 : Vals (V.ref (s.heap.objs.size + 1) :: (vs ++ dvs)) (Value.ref (s.heap.objs.size + 1) :: (us ++ ds)) := .cons rfl (r.append hd)
 have hl : (Value.ref (s.heap.objs.size + 1) :: us ++ ds).length = ps.length := by
  have e := r2.length
  rw [F.len _ _ _ _ hq] at e
  exact e.symm
 refine wpAny_call (make_map (f := f) I.kIn M.makes M.init (beq_iff_eq.mp M.fn) (codeAny_mono (F.run _ X.stack _ _ ⟨Value.ref (s.heap.objs.size + 1) :: us, []⟩ (Value.ref (s.heap.objs.size + 1) :: (us ++ ds)) _ _ E (hr.make C us [])
  (I2.env0.make C us []) (hb _ (Value.ref (s.heap.objs.size + 1) :: us) I2.kIn hl) r2 hq) fun r s' hq' => ?_))
 cases r with
 | error e => exact hx pins σ _ _ e s' I2 hq'
 | ok fl =>
  cases fl with
  | ret u =>
   obtain ⟨v, H', I3, rv, ev, q3⟩ := I2.after hq'
   subst ev
   exact ⟨rv, ⟨V.ref (s.heap.objs.size + 1), H', I3, rfl, q3⟩⟩
  | next => exact False.elim hq'
  | brk => exact False.elim hq'
  | cont => exact False.elim hq'
theorem pe_make (M : Mk X.K C f) (F : FnOk X.prog X.w X.K X.mg X.base CX k f fd ps sp) (hr : Room (k + 1) X.A) (hg : Gl X x) (hm : X.mg x = some (.ref C)) (hb : Binds X.K fd ps ds) (hd : Vals dvs ds) (hx : vU9 CX X E)
  (ha : PA X (e :: es) t) (hdb : (x == ("__debug__" : Str)) = false := by decide) (he : starEach (e :: es) X.env = (false, eval e X.env) :: starEach es X.env := by rfl) (hpl : (backTo pos (starEach es X.env)).any (·.1) = false := by rfl) :
  PE X (.Call (.Name x p) (e :: es) [] pos) (tMake C sp dvs E t) := by
 intro pins s σ H Q I h
 refine wpAny_Call_Name_kw (vU2 I hg hm ?_ hdb)
 refine PySem.W.callWith_K (h₀ := X.base) I.ok.mod.kin M.kp (thn (ha pos pins s σ H _ I h) fun us s1 ⟨vs, H1, I1, r, q⟩ => ⟨I1.kIn, ?_⟩) he hpl
 exact run_make M F hr hb hd hx I1 r q
end
section
variable {X : Cx} {CX : CXT} {k : Nat} {f C : Addr} {fd : FuncData} {ps ks : List Str} {sp : Sp} {E : XK} {x m : Str} {p pos apos kpos : Pos} {e o : Expr} {es : List Expr} {kws : List Keyword} {te ta : TE} {t tk : TA} {nm : Option Str}
variable {g : List Value → List Value → List Value} {gV : List V → List V → List V}
end
structure FnScope (N P : List Str) (sc : Scope) : Prop where
 kind : sc.kind = .function
 co : sc.isCoroutine = false
 gen : sc.isGenerator = false
 nd : N.Nodup
 pre : N.take P.length = P
 par : ∀ x ∈ P, sc.names.lookup x = some .local ∨ sc.names.lookup x = some .cell
 nofree : ∀ y ∈ sc.names, y.2 ≠ .free
theorem bindL_out {kindOf : Str → Option NameKind} {x : Str} : ∀ {binds : List (Str × Value)} {m : Str → Option Value}, (∀ v, (x, v) ∉ binds) → bindL kindOf binds m x = m x
 | [], _, _ => rfl
 | (n, v) :: r, m, h => by
  unfold bindL
  rw [bindL_out fun w hw => h w (List.mem_cons_of_mem _ hw)]
  split
  ·have : x ≠ n := by rintro rfl; exact h v List.mem_cons_self
   simp [this]
  ·rfl
theorem bindC_out {kindOf : Str → Option NameKind} {x : Str} : ∀ {binds : List (Str × Value)} {m : Str → Option Value}, (∀ v, (x, v) ∉ binds) → bindC kindOf binds m x = m x
 | [], _, _ => rfl
 | (n, v) :: r, m, h => by
  unfold bindC
  rw [bindC_out fun w hw => h w (List.mem_cons_of_mem _ hw)]
  split
  ·rfl
  ·have : x ≠ n := by rintro rfl; exact h v List.mem_cons_self
   simp [this]
theorem bindL_get {kindOf : Str → Option NameKind} {x : Str} {v : Value} : ∀ {P : List Str} {vs : List Value} {i : Nat} {m : Str → Option Value}, P.Nodup → P[i]? = some x → vs[i]? = some v → kindOf x = some .local →
  bindL kindOf (P.zip vs) m x = some v
 | [], _, _, _, _, h, _, _ => by simp at h
 | _ :: _, [], _, _, _, _, h, _ => by simp at h
 | p :: P, w :: vs, 0, m, nd, h1, h2, hk => by
  simp at h1 h2; subst h1; subst h2
  show bindL kindOf ((p, w) :: P.zip vs) m p = _
  unfold bindL
  rw [bindL_out fun v hv => (List.nodup_cons.mp nd).1 (List.of_mem_zip hv).1, if_pos hk]
  simp
 | p :: P, w :: vs, i + 1, m, nd, h1, h2, hk => by
  show bindL kindOf ((p, w) :: P.zip vs) m x = _
  unfold bindL
  exact bindL_get (i := i) (List.nodup_cons.mp nd).2 (by simpa using h1) (by simpa using h2) hk
theorem bindC_get {kindOf : Str → Option NameKind} {x : Str} {v : Value} : ∀ {P : List Str} {vs : List Value} {i : Nat} {m : Str → Option Value}, P.Nodup → P[i]? = some x → vs[i]? = some v → kindOf x ≠ some .local →
  bindC kindOf (P.zip vs) m x = some v
 | [], _, _, _, _, h, _, _ => by simp at h
 | _ :: _, [], _, _, _, _, h, _ => by simp at h
 | p :: P, w :: vs, 0, m, nd, h1, h2, hk => by
  simp at h1 h2; subst h1; subst h2
  show bindC kindOf ((p, w) :: P.zip vs) m p = _
  unfold bindC
  rw [bindC_out fun v hv => (List.nodup_cons.mp nd).1 (List.of_mem_zip hv).1, if_neg hk]
  simp
 | p :: P, w :: vs, i + 1, m, nd, h1, h2, hk => by
  show bindC kindOf ((p, w) :: P.zip vs) m x = _
  unfold bindC
  exact bindC_get (i := i) (List.nodup_cons.mp nd).2 (by simpa using h1) (by simpa using h2) hk
def start (N : List Str) (vs : List V) : St := vs.map some ++ List.replicate (N.length - vs.length) none
def cxOf (CX : CXT) (P : Program) (w : World) (K : PySem.W.Frag) (mg : Str → Option Value) (base : Heap) (N : List Str) (qual : Str) (scope : Scope) (f : Addr) (cd : Value) (A : Around) (outer : List Env) (s : Shared) (H : Hp) (E : XK) : Cx where
 prog := P
 w := w
 K := K
 mg := mg
 base := base
 A := A.deeper (envOfC qual scope s.heap.objs.size f cd)
 N := N
 s₀ := s
 H₀ := H
 env := envOfC qual scope s.heap.objs.size f cd
 outer := outer
 stack := envOfC qual scope s.heap.objs.size f cd :: outer
 ex := []
 calm := true
 fn := fun _ => true
 pn := []
 xe := fun e s' => wpAny (model P w) (A.deeper (envOfC qual scope s.heap.objs.size f cd)) (leaving (envOfC qual scope s.heap.objs.size f cd) e) (fun _ s'' => CX outer H s E e s'') (fun e' s'' => CX outer H s E e' s'') s'
theorem cell_has {sc : Scope} {n : Nat} {x : Str} (h : sc.names.lookup x = some .cell) : ∃ c, (cellsFrom n sc.names []).lookup x = some c := by
 have q := PySem.W.cellsFrom_some sc.names n [] (.inl h)
 exact Option.isSome_iff_exists.mp q
theorem inv_start {CX : CXT} {P : Program} {w : World} {K : PySem.W.Frag} {mg : Str → Option Value} {base : Heap} {N ps : List Str} {qual : Str} {scope : Scope} {f : Addr} {cd : Value} {A : Around} {outer : List Env} {s s1 : Shared} {H : Hp} {E : XK} {us : List Value} {vs : List V}
  (S : FnScope N ps scope) (hd : A.handled = none) (e0 : Env0 P w K mg base A outer s H) (hl : vs.length = ps.length) (r : Vals vs us)
  (x : InCallC s s.heap.objs.size (bindL (envOfC qual scope s.heap.objs.size f cd).kindOf (ps.zip us) fun _ => none) (cellsFrom (s.heap.objs.size + 1) scope.names []) (bindC (envOfC qual scope s.heap.objs.size f cd).kindOf (ps.zip us) fun _ => none) s1) :
  Inv (cxOf CX P w K mg base N qual scope f cd A outer s H E) [] (start N vs) H s1 := by
 have hpl : ps.length ≤ N.length := by have := congrArg List.length S.pre; rw [List.length_take] at this; omega
 obtain ⟨h1, tk, rfl, hk⟩ := x.done
 have noA : ∀ b : Addr, b ∉ (cxOf CX P w K mg base N qual scope f cd A outer s H E).ex := fun b z => absurd (show b ∈ ([] : List Addr) from z) (by simp)
 refine ⟨⟨e0.mod, S.kind, rfl, rfl, Nat.le_refl _, fun y z c h1 h2 => ?_, fun y hy => ?_, fun y c _ h => ?_, fun _ => hd, Around.frames_deeper e0.frames, .inr ⟨rfl, rfl⟩, fun b z => absurd z (noA b), e0.bs, e0.bsz, fun b _ _ => noA b, fun b z => absurd z (noA b), e0.funs, e0.frf⟩,
  rfl, e0.bare, Un.kept hk, ⟨_, x.toInCall.ns, fun i y v h1 h2 h3 => ?_⟩, fun y c h => ⟨_, x.cell y c h⟩, e0.hok.fresh (Nat.le_refl _), fun y c h => ?_, fun p hp => absurd (show p ∈ ([] : List (Addr × Obj)) from hp) (by simp), e0.hok.kept hk, ?_⟩
 ·exact name_of_addr x.apart (PySem.mem_of_lookup h1) (PySem.mem_of_lookup h2)
 ·have hy : scope.names.lookup y = some .cell ∨ scope.names.lookup y = some .free := hy
  rcases hy with hy | hy
  ·exact cell_has hy
  ·exact absurd rfl (S.nofree _ (PySem.mem_of_lookup hy))
 ·exact Nat.le_of_lt (x.above y c (PySem.mem_of_lookup h))
 ·have hi : i < vs.length := by
   unfold start at h2
   by_cases hi : i < vs.length
   ·exact hi
   ·rw [List.getElem?_append_right (by simpa using hi)] at h2
    rw [List.getElem?_replicate] at h2
    split at h2 <;> cases h2
  have ha : vs[i]? = some v := by
   unfold start at h2
   rw [List.getElem?_append_left (by simpa using hi), List.getElem?_map] at h2
   cases e : vs[i]? with
   | none => rw [e] at h2; cases h2
   | some a => rw [e] at h2; cases h2; rfl
  obtain ⟨u, hu, rv⟩ := r.get ha
  have hp : ps[i]? = some y := by
   rw [← S.pre, List.getElem?_take_of_lt (by omega)]; exact h1
  have ndP : ps.Nodup := by rw [← S.pre]; exact S.nd.sublist (List.take_sublist _ _)
  refine ⟨u, rv, ?_⟩
  rcases S.par y (List.mem_of_getElem? hp) with k | k
  ·exact .inl ⟨k, bindL_get ndP hp hu k⟩
  ·obtain ⟨c, e⟩ := cell_has (n := s.heap.objs.size + 1) k
   refine .inr ⟨.inl k, c, e, ?_⟩
   have q := x.cell y c e
   rw [bindC_get ndP hp hu (by show scope.names.lookup y ≠ _; rw [k]; decide)] at q
   exact q
 ·exact e0.hok.fresh (Nat.le_of_lt (x.above y c (PySem.mem_of_lookup h)))
 ·unfold start
  show _ = N.length
  rw [List.length_append, List.length_map, List.length_replicate]
  omega
theorem fn_of {CX : CXT} {P : Program} {w : World} {K : PySem.W.Frag} {mg : Str → Option Value} {base : Heap} {k : Nat} {f : Addr} {name qual : Str} {params : Arguments} {body : List Stmt} {scope : Scope} {dV kV doc pm cdv ct oc : Value} {an od : Option Addr}
  {osl : Array (Option Value)} {N ps : List Str} {sp : Sp} (lk : K.lookup f = some ⟨oc, od, .func (PySem.W.fnOf name qual params body scope dV kV doc pm an cdv ct), osl⟩) (hcd : PySem.W.codeIn K cdv qual = true) (S : FnScope N ps scope)
  (len : ∀ vs H Q E, sp vs H Q E → vs.length = ps.length)
  (hbody : ∀ (A : Around) (outer : List Env) (s : Shared) (H : Hp) (vs : List V) (Q : VK) (E : XK), Room k (A.deeper (envOfC qual scope s.heap.objs.size f cdv)) → sp vs H Q E →
   ∃ t, PSs (cxOf CX P w K mg base N qual scope f cdv A outer s H E) body t ∧ t { nx := fun _ H' => Q .non H', rt := Q } (start N vs) H) :
  FnOk P w K mg base CX (k + 1) f (PySem.W.fnOf name qual params body scope dV kV doc pm an cdv ct) ps sp := by
 refine ⟨len, fun A outer s H args us vs Q E hr e0 hb r hsp => ?_⟩
 have hl := len _ _ _ _ hsp
 have KX : K.In s.heap := e0.mod.kin.keeps fun b o e => (e0.bs b o e).1
 have lim : s.heap.NoLimit := e0.mod.nolimit.keeps fun b o e => (e0.bs b o e).1
 have hkind : ∀ y ∈ ps.zip us, scope.names.lookup y.1 = some .local ∨ (scope.names.lookup y.1 = some .cell ∧ ((cellsFrom (s.heap.objs.size + 1) scope.names []).lookup y.1).isSome = true) := fun ⟨n, v⟩ hy => by
  rcases S.par n (List.of_mem_zip hy).1 with q | q
  ·exact .inl q
  ·exact .inr ⟨q, PySem.W.cellsFrom_some _ _ _ (.inl q)⟩
 refine codeAny_call_function hr.depth (KX _ _ lk) rfl S.co S.gen rfl (PySem.W.codeRec_of KX hcd) (hb _ _ _ _ ?_)
 refine wpAny_newFunctionEnv_cells S.kind hkind fun env he s1 x => ?_
 subst he
 refine ⟨lim.keeps x.toInCall.keep, codeAny_func ?_⟩
 obtain ⟨t, ht, hq⟩ := hbody A outer s H vs Q E (hr.deeper _) hsp
 have I : Inv (cxOf CX P w K mg base N qual scope f cdv A outer s H E) [] (start N vs) H s1 := inv_start S hr.hd e0 hl r x
 refine wpAny_mono (ht [] s1 (start N vs) H _ I hq) (fun fl s' hs => ?_) fun e s' hs => hs
 have fin : ∀ {σ' : St} {H' : Hp} {v : V} {u : Value}, Inv (cxOf CX P w K mg base N qual scope f cdv A outer s H E) [] σ' H' s' → RelV v u → Q v H' → CE outer P w H s Q u s' :=
  fun {σ' H' v u} J rv q => ⟨v, H', J.os, J.bare, J.base, J.hok, rv, q⟩
 cases fl with
 | ret u =>
  obtain ⟨v, σ', H', J, rv, q⟩ := hs
  exact fin J rv q
 | next =>
  obtain ⟨σ', H', J, q⟩ := hs
  exact fin (v := V.non) (u := Value.none) J rfl q
 | brk =>
  obtain ⟨_, _, _, q⟩ := hs
  exact False.elim q
 | cont =>
  obtain ⟨_, _, _, q⟩ := hs
  exact False.elim q
end L2
namespace L2
open PySem PySem.Spec PyProof.Rows
section
variable {X : Cx} {x : Str} {p pos : Pos} {e : Expr} {es : List Expr} {t : TA} {id T : String} {r : List V → Hp → VK → Prop}
def tCB (r : List V → Hp → VK → Prop) (t : TA) : TE := fun σ H Q => t σ H fun vs H1 => r vs H1 Q
theorem pe_callB (hc : CallR X (.builtin id) r) (hg : Gl X x) (hm : X.mg x = none) (hv : bootBuiltins x = some (.builtin id)) (ha : PA X (e :: es) t) (hn : x ≠ "__name__" := by decide) (hdb : (x == ("__debug__" : Str)) = false := by decide)
  (he : starEach (e :: es) X.env = (false, eval e X.env) :: starEach es X.env := by rfl) (hpl : (backTo pos (starEach es X.env)).any (·.1) = false := by rfl) : PE X (.Call (.Name x p) (e :: es) [] pos) (tCB r t) := by
 intro pins s σ H Q I h
 refine wpAny_Call_Name_kw (ld_blt I hg hm hv ?_ hn hdb)
 exact PyProof.Rows.callWith_builtin1 (thn (ha pos pins s σ H _ I h) fun us s1 ⟨vs, H1, I1, r1, q1⟩ => hc pins s1 σ H1 vs us Q I1 r1 q1) he hpl
theorem pe_callTy (hc : CallR X (.type T) r) (hg : Gl X x) (hm : X.mg x = none) (hv : bootBuiltins x = some (.type T)) (ha : PA X (e :: es) t) (hn : x ≠ "__name__" := by decide) (hdb : (x == ("__debug__" : Str)) = false := by decide)
  (he : starEach (e :: es) X.env = (false, eval e X.env) :: starEach es X.env := by rfl) (hpl : (backTo pos (starEach es X.env)).any (·.1) = false := by rfl) : PE X (.Call (.Name x p) (e :: es) [] pos) (tCB r t) := by
 intro pins s σ H Q I h
 refine wpAny_Call_Name_kw (ld_blt I hg hm hv ?_ hn hdb)
 exact PyProof.Rows.callWith_type1 (thn (ha pos pins s σ H _ I h) fun us s1 ⟨vs, H1, I1, r1, q1⟩ => hc pins s1 σ H1 vs us Q I1 r1 q1) he hpl
end
end L2
namespace HT
open PySem PyProof.Rows
section
open PySem.SeqAt
open PySem.AutoSeq1 (wpAny_loadPart')
open PySem.MeetsSeq PySem.MeetsSeq2 PySem.MeetsSeq3
end
section
variable {prog : Program} {w : World} {A : Around} {E : Value → Shared → Prop} {s : Shared}
theorem cat_tup {t b : Addr} {vs ws : List Value} {Q : Value → Shared → Prop} (ht : IsTup s.heap t vs.toArray) (hb : IsTup s.heap b ws.toArray) (hv : vs ≠ [])
  (h1 : ws = [] → Q (.ref t) s) (h2 : ws ≠ [] → Q (.ref s.heap.objs.size) { s with heap := s.heap.push { cls := .type "tuple", data := .seq (vs ++ ws).toArray } })
  (hsz : vs.length + ws.length ≤ sizeLine) : wpAny (model prog w) A (binaryOp .Add (.ref t) (.ref b)) Q E s := by
 obtain ⟨⟨cls, dd, data, sl⟩, ho, hc, n, hd⟩ := id ht
 obtain ⟨⟨cls2, dd2, data2, sl2⟩, ho2, hc2, n2, hd2⟩ := id hb
 simp only at hc hd hc2 hd2
 subst hc hd hc2 hd2
 have e : vs.toArray ++ ws.toArray = (vs ++ ws).toArray := by simp
 by_cases hw : ws = []
 ·exact concat_meets ⟨_, ho, rfl⟩ ⟨_, ho2, rfl⟩ noFill_tuple_add seq_tuple_add PySem.F.slot_tuple_add PySem.F.entry_tuple_add (PySem.F.args_tuple_add_2 _ _)
   (tuple_addW1 t b vs.toArray ws.toArray n n2 dd dd2 sl sl2 (by simpa using hv) (by simp [hw])) ⟨ho, ho2, h1 hw⟩
 ·refine concat_meets ⟨_, ho, rfl⟩ ⟨_, ho2, rfl⟩ noFill_tuple_add seq_tuple_add PySem.F.slot_tuple_add PySem.F.entry_tuple_add (PySem.F.args_tuple_add_2 _ _)
   (tuple_addW2 t b vs.toArray ws.toArray n n2 dd dd2 sl sl2 (by simpa using hv) (by simpa using hw) (by rw [List.size_toArray, List.size_toArray]; exact hsz)) ⟨ho, ho2, ?_⟩
  rw [e]
  exact h2 hw
def sIx (n d : Nat) : Option Int → Nat
 | none => d
 | some v => if v < 0 then (v + (n : Int)).toNat else min v.toNat n
theorem sIx_none (n d : Nat) : sIx n d none = d := rfl
theorem sIx_nat (n d k : Nat) : sIx n d (some (k : Int)) = min k n := by
 show (if (k : Int) < 0 then ((k : Int) + (n : Int)).toNat else min (k : Int).toNat n) = min k n
 rw [if_neg (by omega), Int.toNat_natCast]
theorem sIx_le (n d : Nat) (hd : d ≤ n) (o : Option Int) : sIx n d o ≤ n := by
 cases o with
 | none => exact hd
 | some v =>
  show (if v < 0 then (v + (n : Int)).toNat else min v.toNat n) ≤ n
  by_cases hv : v < 0
  ·rw [if_pos hv]; omega
  ·rw [if_neg hv]; exact Nat.min_le_right _ _
theorem clip_eq (v : Int) (n d : Nat) : (if v < 0 then max (v + (n : Int)) 0 else min v (n : Int)) = ((sIx n d (some v) : Nat) : Int) := by
 show (if v < 0 then max (v + (n : Int)) 0 else min v (n : Int)) = (((if v < 0 then (v + (n : Int)).toNat else min v.toNat n) : Nat) : Int)
 by_cases hv : v < 0
 ·simp only [if_pos hv]; omega
 ·simp only [if_neg hv]; omega
theorem adjust_gen (lo hi : Option Int) (n : Nat) : Builtin.Slice.sliceAdjust lo hi 1 (n : Int) = (((sIx n 0 lo : Nat) : Int), ((sIx n n hi : Nat) : Int)) := by
 have h1 : ¬ ((1 : Int) < 0) := by omega
 unfold Builtin.Slice.sliceAdjust
 simp only [h1, if_false]
 refine Prod.ext ?_ ?_
 ·cases lo with
  | none => rfl
  | some v => exact clip_eq v n 0
 ·cases hi with
  | none => rfl
  | some v => exact clip_eq v n n
theorem places_gen (i j : Nat) : Builtin.Slice.slicePlaces (i : Int) (j : Int) 1 = j - i := by
 unfold Builtin.Slice.slicePlaces
 have h1 : (1 : Int) > 0 := by omega
 simp only [h1, if_true, Int.ediv_one]
 split <;> omega
theorem slicePart_ {v : Value} {o : Option Int} {Q : Option Int → Shared → Prop} (p : IsPart v o) (h : Q o s) : wpAny (model prog w) A (Builtin.Slice.slicePartIndex v) Q E s := by
 cases p with
 | none => exact slicePart_none h
 | int i t => exact slicePart_int h
theorem vX1 {sl : Addr} {vl vu : Value} {lo hi : Option Int} {n : Nat} {Q : Int × Int × Nat → Shared → Prop} (hs : s.heap.IsSliceOf sl vl vu .none) (pl : IsPart vl lo) (pu : IsPart vu hi)
  (h : Q (((sIx n 0 lo : Nat) : Int), 1, sIx n n hi - sIx n 0 lo) s) : wpAny (model prog w) A (Builtin.Slice.sliceApplied (.ref sl) (pure (n : Int))) Q E s := by
 obtain ⟨os, hos, hcs, hds⟩ := id hs
 unfold Builtin.Slice.sliceApplied Builtin.Slice.sliceFields
 refine wpAny_bind (wpAny_bind (wpAny_field hos hds (x := vl) rfl (wpAny_bind (wpAny_field hos hds (x := vu) rfl (wpAny_bind (wpAny_field hos hds (x := .none) rfl (wpAny_pure ?_)))))))
 refine wpAny_bind (slicePart_none ?_)
 show wpAny _ _ (if ((1 : Int) == 0) = true then _ else _) _ _ s
 rw [if_neg (by decide)]
 refine wpAny_bind (slicePart_ pl (wpAny_bind (slicePart_ pu (wpAny_bind (wpAny_pure ?_)))))
 show wpAny _ _ (match Builtin.Slice.sliceAdjust lo hi 1 (n : Int) with | (lo, hi) => pure (lo, (1 : Int), Builtin.Slice.slicePlaces lo hi 1)) _ _ s
 rw [adjust_gen lo hi n]
 show wpAny _ _ (pure (((sIx n 0 lo : Nat) : Int), (1 : Int), Builtin.Slice.slicePlaces ((sIx n 0 lo : Nat) : Int) ((sIx n n hi : Nat) : Int) 1)) _ _ s
 rw [places_gen]
 exact wpAny_pure h
theorem pick_gen (xs : Array Value) (i k : Nat) : ((List.range k).filterMap fun (m : Nat) => xs[((i : Int) + (m : Int) * 1).toNat]?).toArray = ((xs.toList.drop i).take k).toArray := by
 have e : (fun (m : Nat) => xs[((i : Int) + (m : Int) * 1).toNat]?) = fun m => xs[i + m]? := by
  funext m
  have : ((i : Int) + (m : Int) * 1).toNat = i + m := by omega
  rw [this]
 rw [e]
 have := pick_run xs i k
 rw [List.filterMap_map] at this
 have e2 : ((fun x => xs[x]?) ∘ fun x => i + x) = fun m => xs[i + m]? := rfl
 rw [e2] at this
 rw [this]
theorem getItem_tuple_cut {t sl : Addr} {items : Array Value} {vl vu : Value} {lo hi : Option Int} {Q : Value → Shared → Prop} (ht : IsTup s.heap t items) (hs : s.heap.IsSliceOf sl vl vu .none) (pl : IsPart vl lo) (pu : IsPart vu hi)
  (hw : ¬ (sIx items.size 0 lo = 0 ∧ sIx items.size items.size hi = items.size))
  (h : Q (.ref s.heap.objs.size) { s with heap := s.heap.push { cls := .type "tuple", data := .seq ((items.toList.drop (sIx items.size 0 lo)).take (sIx items.size items.size hi - sIx items.size 0 lo)).toArray } })
  (hsz : items.size ≤ sizeLine) : wpAny (model prog w) A (getItem (.ref t) (.ref sl)) Q E s := by
 have htake : sizeOk (.seq ((items.toList.drop (sIx items.size 0 lo)).take (sIx items.size items.size hi - sIx items.size 0 lo)).toArray) := by
  show ((items.toList.drop (sIx items.size 0 lo)).take (sIx items.size items.size hi - sIx items.size 0 lo)).toArray.size ≤ sizeLine
  rw [List.size_toArray, List.length_take, List.length_drop, Array.length_toList]
  omega
 have hj : sIx items.size items.size hi ≤ items.size := sIx_le _ _ (Nat.le_refl _) hi
 obtain ⟨os, hos, hcs, hds⟩ := id hs
 have hTs : s.TypeIs (.ref sl) "slice" := ⟨os, hos, hcs⟩
 unfold getItem
 try with_reducible refine wpAny_holding ?_
 first | refine wpAny_bind (wpAny_pure ?_) | skip
 refine wpAny_bind (wpAny_sequenceKey ht.typeIs (by decide) ?_)
 refine wpAny_bind (wpAny_callSpecial?_slot (name := Str.ofString "__getitem__") ht.typeIs PyProof.Rows.slot_tuple_getitem
  (wpAny_call_entry PyProof.Rows.slot_tuple_getitem ht.typeIs entry_tuple_getitem ?_ (args_tuple_getitem _ _)))
 show wpAny _ _ (Builtin.Tuple.tupleItemsOf (.ref t) >>= _) _ _ s
 refine wpAny_bind (tupleItemsOf_ ht ?_)
 refine wpAny_bind (wpAny_typeOf hTs ?_)
 rw [if_pos (by decide)]
 refine wpAny_bind (vX1 hs pl pu ?_)
 have hno : ¬ ((((sIx items.size 0 lo : Nat) : Int) == 0 && (1 : Int) == 1 && (sIx items.size items.size hi - sIx items.size 0 lo) == items.size) = true) := by
  intro q
  rw [Bool.and_eq_true, Bool.and_eq_true] at q
  have q1 : ((sIx items.size 0 lo : Nat) : Int) = 0 := eq_of_beq q.1.1
  have q2 : sIx items.size items.size hi - sIx items.size 0 lo = items.size := eq_of_beq q.2
  exact hw ⟨by omega, by omega⟩
 show wpAny _ _ (if (((sIx items.size 0 lo : Nat) : Int) == 0 && (1 : Int) == 1 && (sIx items.size items.size hi - sIx items.size 0 lo) == items.size) = true then _ else _) _ _ s
 rw [if_neg hno, pick_gen]
 first
  | exact wpAny_bind (m := Builtin.Tuple.tupleExact _) (wpAny_newObj_type (wpAny_pure ⟨_, rfl, wpAny_pure h⟩) htake)
  | exact wpAny_bind (m := Builtin.Tuple.tupleExact _) (wpAny_newObj_type (wpAny_bind (wpAny_pure (wpAny_pure ⟨_, rfl, wpAny_pure h⟩))) htake)
  | exact wpAny_bind (wpAny_bind (m := Builtin.Tuple.tupleExact _) (wpAny_newObj_type (wpAny_pure (wpAny_pure ⟨_, rfl, wpAny_pure h⟩)) htake))
  | exact wpAny_bind (wpAny_bind (m := Builtin.Tuple.tupleExact _) (wpAny_newObj_type (wpAny_pure ⟨_, rfl, wpAny_pure h⟩) htake))
end
end HT
namespace L2
open PySem PySem.Spec PyProof.Rows
abbrev TO := St → Hp → (Option Int → Hp → Prop) → Prop
def PO (X : Cx) (e : Option Expr) (t : TO) : Prop :=
 ∀ (pins : List (Addr × Obj)) (s : Shared) (σ : St) (H : Hp) (Q : Option Int → Hp → Prop), Inv X pins σ H s → t σ H Q →
  wpAny (model X.prog X.w) X.A (evalPart e X.env) (fun u s' => ∃ o H', Inv X pins σ H' s' ∧ IsPart u o ∧ Q o H') X.xe s
def tNoPart : TO := fun _ H Q => Q none H
inductive tPart_ (Q : Option Int → Hp → Prop) (x : V) (H1 : Hp) : Prop where
 | mk (i : _) (h1 : x = .int i) (h2 : Q (some i) H1) : tPart_ Q x H1
def tPart (t : TE) : TO := fun σ H Q => t σ H fun x H1 => tPart_ Q x H1
section
variable {X : Cx} {e : Expr} {te : TE} {lo hi : Option Expr} {tl th : TO} {pos p2 : Pos}
theorem po_none : PO X none tNoPart := by
 intro pins s σ H Q I h
 rw [evalPart_none]
 exact wpAny_pure ⟨none, H, I, .none, h⟩
theorem vU5 (h : PE X e te) : PO X (some e) (tPart te) := by
 intro pins s σ H Q I hw
 rw [evalPart_some]
 refine thn (h pins s σ H _ I hw) fun u s1 ⟨x, H1, I1, r1, q1⟩ => ?_
 obtain ⟨i, rfl, q⟩ := q1
 obtain ⟨t, rfl⟩ := r1
 exact ⟨some i, H1, I1, .int i t, q⟩
def SlR (X : Cx) (r : V → Option Int → Option Int → Hp → VK → Prop) : Prop :=
 ∀ (pins : List (Addr × Obj)) (s : Shared) (σ : St) (H : Hp) (x : V) (v vl vu : Value) (lo hi : Option Int) (sl : Addr) (Q : VK), Inv X pins σ H s → RelV x v → s.heap.IsSliceOf sl vl vu .none → IsPart vl lo → IsPart vu hi → r x lo hi H Q →
  ∃ T id, typeLookup (.type T) "__getitem__" = pure (some (.builtin id)) ∧ s.TypeIs v T ∧ wpAny (model X.prog X.w) X.A (getItem v (.ref sl)) (EP X pins σ Q) X.xe s
def tSl (r : V → Option Int → Option Int → Hp → VK → Prop) (te : TE) (tl th : TO) : TE := fun σ H Q => te σ H fun x H1 => tl σ H1 fun l H2 => th σ H2 fun u H3 => r x l u H3 Q
theorem yQ7 {r : V → Option Int → Option Int → Hp → VK → Prop} (hr : SlR X r) (he : PE X e te) (hl : PO X lo tl) (hu : PO X hi th) : PE X (.Subscript e (.Slice lo hi none p2) pos) (tSl r te tl th) := by
 intro pins s σ H Q I h
 refine Subscript_ (thn (he pins s σ H _ I h) fun v s1 ⟨x, H1, I1, r1, q1⟩ => ?_)
 refine wpAny_Slice (thn (hl pins s1 σ H1 _ I1 q1) fun vl s2 ⟨l, H2, I2, pl, q2⟩ => thn (hu pins s2 σ H2 _ I2 q2) fun vu s3 ⟨u, H3, I3, pu, q3⟩ => ?_)
 rw [evalPart_none]
 refine wpAny_pure ?_
 have I4 : Inv X pins σ H3 { s3 with heap := s3.heap.push { cls := .type "slice", data := .fields #[vl, vu, .none] } } := I3.kept (t' := s3.toks) fun b ob q => Heap.get?_push_of_some _ q
 obtain ⟨T, id, hT, ht, hg⟩ := hr pins { s3 with heap := s3.heap.push { cls := .type "slice", data := .fields #[vl, vu, .none] } } σ H3 x v vl vu l u s3.heap.objs.size Q I4 r1 (Heap.IsSliceOf.new ..) pl pu q3
 show wpAny (model X.prog X.w) X.A (subscriptTail e (.Slice lo hi none p2) v (.ref s3.heap.objs.size)) (EP X pins σ Q) X.xe { s3 with heap := s3.heap.push { cls := .type "slice", data := .fields #[vl, vu, .none] } }
 exact tail_any (ops := [.ref s3.heap.objs.size, v]) ht hT hg (by with_unfolding_all rfl)
def cutV (xs : List V) (lo hi : Option Int) : List V := (xs.drop (HT.sIx xs.length 0 lo)).take (HT.sIx xs.length xs.length hi - HT.sIx xs.length 0 lo)
theorem yY0 (xs : List V) (lo hi : Option Int) : (cutV xs lo hi).length ≤ xs.length := by
 unfold cutV
 rw [List.length_take, List.length_drop]
 omega
inductive rSlT (K : PySem.W.Frag) (x : V) (lo : Option Int) (hi : Option Int) (H : Hp) (Q : VK) : Prop where
 | mk (a : _) (xs : _) (h1 : x = .ref a) (h2 : SqT K H a xs) (h3 : ¬ (HT.sIx xs.length 0 lo = 0 ∧ HT.sIx xs.length xs.length hi = xs.length)) (h4 : ∀ p, H p = none → Q (.ref p) (upd H p (.tup (cutV xs lo hi)))) : rSlT K x lo hi H Q
theorem sl_tup : SlR X (rSlT X.K) := by
 intro pins s σ H x v vl vu lo hi sl Q I rx hs pl pu h
 obtain ⟨a, xs, rfl, hx, hw, q⟩ := h
 cases rx
 obtain ⟨its, r, ht, hz⟩ := I.tuple hx
 have hlen : its.toArray.size = xs.length := by rw [List.size_toArray]; exact r.length.symm
 refine ⟨"tuple", _, PyProof.Rows.slot_tuple_getitem.lookup, ht.typeIs, ?_⟩
 refine HT.getItem_tuple_cut ht hs pl pu (by rw [hlen]; exact hw) ?_ (by rw [hlen]; exact hz)
 rw [hlen]
 refine ⟨.ref s.heap.objs.size, _, I.laid (t' := s.toks) (o := .tup (cutV xs lo hi)) (fun b ob q => Heap.get?_push_of_some _ q) (Nat.le_refl _) ?_, rfl, q _ (I.hok.fresh (Nat.le_refl _))⟩
 exact ⟨Nat.le_trans (yY0 xs lo hi) hz, _, (r.drop (HT.sIx xs.length 0 lo)).take (HT.sIx xs.length xs.length hi - HT.sIx xs.length 0 lo), IsTup.new _ _⟩
def rCatT (K : PySem.W.Frag) : R2 := fun x y H Q => ∃ a b xs ys, x = .ref a ∧ y = .ref b ∧ SqT K H a xs ∧ SqT K H b ys ∧ xs ≠ [] ∧ xs.length + ys.length ≤ sizeLine ∧
 (ys = [] → Q (.ref a) H) ∧ (ys ≠ [] → ∀ p, H p = none → Q (.ref p) (upd H p (.tup (xs ++ ys))))
theorem Vals.nil_iff {xs : List V} {us : List Value} (r : Vals xs us) : us = [] ↔ xs = [] := by
 cases r with
 | nil => simp
 | cons _ _ => simp
theorem op_catT : OpR X (binaryOp .Add) (rCatT X.K) := by
 intro pins s σ H x y v u Q I rx ry h
 obtain ⟨a, b, xs, ys, rfl, rfl, ha, hb, hx, hz, q1, q2⟩ := h
 cases rx
 cases ry
 obtain ⟨its, r1, p1, _⟩ := I.tuple ha
 obtain ⟨its2, r2, p2, _⟩ := I.tuple hb
 refine HT.cat_tup p1 p2 (fun z => hx (r1.nil_iff.mp z)) (fun z => ⟨.ref a, H, I, rfl, q1 (r2.nil_iff.mp z)⟩) (fun z => ?_) (by rw [← r1.length, ← r2.length]; exact hz)
 refine ⟨.ref s.heap.objs.size, _, I.laid (t' := s.toks) (o := .tup (xs ++ ys)) (fun b ob q => Heap.get?_push_of_some _ q) (Nat.le_refl _) ?_, rfl, q2 (fun w => z (r2.nil_iff.mpr w)) _ (I.hok.fresh (Nat.le_refl _))⟩
 exact ⟨by rw [List.length_append]; exact hz, _, r1.append r2, IsTup.new _ _⟩
end
end L2
namespace L2
open PySem PySem.Spec PyProof.Rows
def ixN (n : Nat) (i : Int) : Option Nat := if 0 ≤ i then (if i < n then some i.toNat else none) else if -(n : Int) ≤ i then some (i + n).toNat else none
def atI {α : Type} (xs : List α) (i : Int) : Option α := (ixN xs.length i).bind fun j => xs[j]?
theorem ixN_seq {n : Nat} {i : Int} {j : Nat} (h : ixN n i = some j) : seqIndex? i n = some j ∧ j < n ∧ -(n : Int) ≤ i ∧ i < n := by
 unfold ixN at h
 by_cases h0 : 0 ≤ i
 ·rw [if_pos h0] at h
  by_cases h1 : i < n
  ·rw [if_pos h1] at h
   have e : i.toNat = j := Option.some.inj h
   exact ⟨by rw [seqIndex_of h0 h1, e], by omega, by omega, h1⟩
  ·rw [if_neg h1] at h; cases h
 ·rw [if_neg h0] at h
  by_cases h1 : -(n : Int) ≤ i
  ·rw [if_pos h1] at h
   have e : (i + n).toNat = j := Option.some.inj h
   exact ⟨by rw [seqIndex_neg (by omega) h1, e], by omega, h1, by omega⟩
  ·rw [if_neg h1] at h; cases h
theorem atI_get {α : Type} {xs : List α} {i : Int} {v : α} (h : atI xs i = some v) : ∃ j, seqIndex? i xs.length = some j ∧ xs[j]? = some v ∧ j < xs.length ∧ -(xs.length : Int) ≤ i ∧ i < xs.length := by
 unfold atI at h
 cases e : ixN xs.length i with
 | none => rw [e] at h; cases h
 | some j =>
  rw [e] at h
  obtain ⟨h1, h2, h3, h4⟩ := ixN_seq e
  exact ⟨j, h1, h, h2, h3, h4⟩
theorem xW7 {α : Type} {xs : List α} {j : Nat} {v : α} (h : xs[j]? = some v) : atI xs (j : Int) = some v := by
 have hj : j < xs.length := (List.getElem?_eq_some_iff.mp h).1
 have e : ixN xs.length (j : Int) = some j := by
  unfold ixN
  rw [if_pos (by omega), if_pos (by omega)]; simp
 unfold atI; rw [e]; exact h
def PlainIx (b : Expr) : Prop := ∀ o i, subscripted b false o i = operate [o, i] (getItem o i)
def IxR (X : Cx) (r : R2) : Prop :=
 ∀ (value slice : Expr) (pins : List (Addr × Obj)) (s : Shared) (σ : St) (H : Hp) (x y : V) (v u : Value) (Q : VK), Inv X pins σ H s → RelV x v → RelV y u → r x y H Q →
  subscripted slice false v u = operate [v, u] (getItem v u) → wpAny (model X.prog X.w) X.A (subscriptTail value slice v u) (EP X pins σ Q) X.xe s
def MtR (X : Cx) (id : String) (r : V → List V → Hp → VK → Prop) : Prop :=
 ∀ (pins : List (Addr × Obj)) (s : Shared) (σ : St) (H : Hp) (x : V) (xs : List V) (v : Value) (us : List Value) (Q : VK), Inv X pins σ H s → RelV x v → Vals xs us → r x xs H Q →
  wpAny (model X.prog X.w) X.A (call (.builtin id) (v :: us)) (EP X pins σ Q) X.xe s
section
variable {X : Cx} {a b : Expr} {ta tb : TE} {pos : Pos}
theorem IxR.or {r r' : R2} (h : IxR X r) (h' : IxR X r') : IxR X (fun x y H Q => r x y H Q ∨ r' x y H Q) := by
 intro value slice pins s σ H x y v u Q I rx ry q hs
 rcases q with q | q
 ·exact h value slice pins s σ H x y v u Q I rx ry q hs
 ·exact h' value slice pins s σ H x y v u Q I rx ry q hs
theorem pe_ix {r : R2} (hr : IxR X r) (ha : PE X a ta) (hb : PE X b tb) (hs : PlainIx b) : PE X (.Subscript a b pos) (tOp r ta tb) := by
 intro pins s σ H Q I h
 exact Subscript_ (binT ha hb I h fun v u s2 x y H2 I2 rx ry q => hr a b pins s2 σ H2 x y v u Q I2 rx ry q (hs _ _))
inductive rIxL (K : PySem.W.Frag) (x : V) (y : V) (H : Hp) (Q : VK) : Prop where
 | mk (p : _) (xs : _) (i : _) (v : _) (h1 : x = .ref p) (h2 : y = .int i) (h3 : SqL K H p xs) (h4 : atI xs i = some v) (h5 : Q v H) : rIxL K x y H Q
inductive rIxT (K : PySem.W.Frag) (x : V) (y : V) (H : Hp) (Q : VK) : Prop where
 | mk (p : _) (xs : _) (i : _) (v : _) (h1 : x = .ref p) (h2 : y = .int i) (h3 : SqT K H p xs) (h4 : atI xs i = some v) (h5 : Q v H) : rIxT K x y H Q
theorem ix_list : IxR X (rIxL X.K) := by
 intro value slice pins s σ H x y v u Q I rx ry h hs
 obtain ⟨p, xs, i, z, rfl, rfl, hq, he, q⟩ := h
 cases rx
 obtain ⟨t, rfl⟩ := ry
 obtain ⟨its, r, pl, hz⟩ := I.list hq
 obtain ⟨j, h1, h2, h3, h4, h5⟩ := atI_get he
 obtain ⟨w, ew, rw'⟩ := r.get h2
 have hl := r.length
 have hn := line63
 have fin : EP X pins σ Q w s := ⟨z, H, I, rw', q⟩
 by_cases h0 : 0 ≤ i
 ·have hj : i.toNat = j := by
   rw [seqIndex_of h0 h5] at h1
   exact Option.some.inj h1
  exact item_listR pl.isList h0 (by omega) (by rw [hj]; simpa using ew) fin hs
 ·have hj : (i + (its.toArray.size : Int)).toNat = j := by
   rw [seqIndex_neg (by omega) h4] at h1
   rw [List.size_toArray, ← hl]
   exact Option.some.inj h1
  exact subscriptTail_builtinR (x := w) pl.isList.typeIs slot_list_getitem.lookup
   (wpAny_getItem_list_neg (Q := fun r s' => r = w ∧ EP X pins σ Q r s') pl.isList (by omega) (by rw [List.size_toArray] <;> omega) (by omega) (by rw [hj]; simpa using ew) ⟨rfl, fin⟩) hs
theorem ix_tup : IxR X (rIxT X.K) := by
 intro value slice pins s σ H x y v u Q I rx ry h hs
 obtain ⟨p, xs, i, z, rfl, rfl, hq, he, q⟩ := h
 cases rx
 obtain ⟨t, rfl⟩ := ry
 obtain ⟨its, r, pl, hz⟩ := I.tuple hq
 obtain ⟨j, h1, h2, h3, h4, h5⟩ := atI_get he
 obtain ⟨w, ew, rw'⟩ := r.get h2
 have hl := r.length
 have hn := line63
 have fin : EP X pins σ Q w s := ⟨z, H, I, rw', q⟩
 exact subscriptTail_builtinR (x := w) pl.typeIs slot_tuple_getitem.lookup
  (getItem_tuple (j := j) (Q := fun r s' => r = w ∧ EP X pins σ Q r s') pl (by omega) (by omega) (by rw [List.size_toArray, ← hl]; exact h1) (by simpa using ew) ⟨rfl, fin⟩) hs
theorem slice_bounds (lo hi : Option Int) (n : Nat) : (sliceBounds lo hi none n).1 = ((HT.sIx n 0 lo : Nat) : Int) ∧ (sliceBounds lo hi none n).2.1 = ((HT.sIx n n hi : Nat) : Int) ∧ (sliceBounds lo hi none n).2.2 = 1 := by
 refine ⟨?_, ?_, rfl⟩
 ·cases lo with
  | none => simp [sliceBounds, HT.sIx]
  | some i =>
   simp only [sliceBounds, HT.sIx, Option.getD_none, show (1 : Int) > 0 by decide, if_true]
   by_cases h : i < 0
   ·simp only [h, if_true] <;> omega
   ·simp only [h, if_false] <;> omega
 ·cases hi with
  | none => simp [sliceBounds, HT.sIx]
  | some i =>
   simp only [sliceBounds, HT.sIx, Option.getD_none, show (1 : Int) > 0 by decide, if_true]
   by_cases h : i < 0
   ·simp only [h, if_true] <;> omega
   ·simp only [h, if_false] <;> omega
theorem slicePick_cut (its : List Value) (lo hi : Option Int) : slicePick its.toArray lo hi none = ((its.drop (HT.sIx its.length 0 lo)).take (HT.sIx its.length its.length hi - HT.sIx its.length 0 lo)).toArray := by
 obtain ⟨h1, h2, h3⟩ := slice_bounds lo hi its.toArray.size
 unfold slicePick
 rw [h1, h2, h3]
 simp only [sliceRange_one, pick_run, List.size_toArray] <;> rfl
inductive rSlL (K : PySem.W.Frag) (x : V) (lo : Option Int) (hi : Option Int) (H : Hp) (Q : VK) : Prop where
 | mk (a : _) (xs : _) (h1 : x = .ref a) (h2 : SqL K H a xs) (h3 : ∀ p, H p = none → Q (.ref p) (upd H p (.lst (cutV xs lo hi)))) : rSlL K x lo hi H Q
theorem sl_list : SlR X (rSlL X.K) := by
 intro pins s σ H x v vl vu lo hi sl Q I rx hs pl pu h
 obtain ⟨a, xs, rfl, hx, q⟩ := h
 cases rx
 obtain ⟨its, r, ht, hz⟩ := I.list hx
 have hlen := r.length
 refine ⟨"list", _, slot_list_getitem.lookup, ht.isList.typeIs, ?_⟩
 refine wpAny_getItem_list_slice ht.isList hs pl pu .none (by simp) ?_ (by rw [List.size_toArray] <;> omega)
 rw [slicePick_cut, ← hlen]
 refine ⟨.ref s.heap.objs.size, _, I.laid (t' := s.toks) (o := .lst (cutV xs lo hi)) (fun b ob q => Heap.get?_push_of_some _ q) (Nat.le_refl _) ?_, rfl, q _ (I.hok.fresh (Nat.le_refl _))⟩
 exact ⟨Nat.le_trans (yY0 xs lo hi) hz, _, 0, (r.drop (HT.sIx xs.length 0 lo)).take (HT.sIx xs.length xs.length hi - HT.sIx xs.length 0 lo), Heap.get?_push_size _ rfl⟩
inductive rLenS (K : PySem.W.Frag) (xs : List V) (H : Hp) (Q : VK) : Prop where
 | mk (p) (ys) (h1 : xs = [.ref p]) (h2 : SqL K H p ys ∨ SqT K H p ys) (h3 : Q (.int (ys.length : Nat)) H) : rLenS K xs H Q
theorem xV9 : CallR X (.builtin "len") (rLenS X.K) := by
 intro pins s σ H xs us Q I r h
 obtain ⟨p, ys, rfl, hq, q⟩ := h
 obtain ⟨u, rfl, rx⟩ := vals1 r
 cases rx
 have hn := line63
 rcases hq with hq | hq
 ·obtain ⟨its, r', pl, hz⟩ := I.list hq
  have hlen := r'.length
  exact Calls.call_len_list pl.isList (by simp only [List.size_toArray] <;> omega) ⟨.int ys.length, H, I.tok _, ⟨s.toks + 1, by rw [List.size_toArray, hlen]⟩, q⟩
 ·obtain ⟨its, r', pl, hz⟩ := I.tuple hq
  have hlen := r'.length
  exact len_tuple pl (by simp only [List.size_toArray] <;> omega) ⟨.int ys.length, H, I.tok _, ⟨s.toks + 1, by rw [List.size_toArray, hlen]⟩, q⟩
theorem xZ4 : CallR X (.type "list") (fun xs H Q => ∃ p ys, xs = [.ref p] ∧ (SqL X.K H p ys ∨ SqT X.K H p ys) ∧ ∀ l, H l = none → Q (.ref l) (upd H l (.lst ys))) := by
 intro pins s σ H xs us Q I r h
 obtain ⟨p, ys, rfl, hq, q⟩ := h
 obtain ⟨u, rfl, rx⟩ := vals1 r
 cases rx
 have fin : ∀ (its : List Value), Vals ys its → ys.length ≤ sizeLine → ∀ (h' : Heap) (c' : Nat), (∀ b o', s.heap.get? b = some o' → h'.get? b = some o') →
   h'.get? s.heap.objs.size = some { cls := .type "list", dict := none, data := .seq its.toArray c', slots := #[] } → EP X pins σ Q (.ref s.heap.objs.size) { s with heap := h' } := fun its r' hz h' c' kp e =>
  ⟨.ref s.heap.objs.size, _, I.laid (t' := s.toks) kp (Nat.le_refl _) (show yY5 X.prog X.w _ h' _ (.lst ys) from ⟨hz, its, c', r', e⟩), rfl, q _ (I.hok.fresh (Nat.le_refl _))⟩
 rcases hq with hq | hq
 ·obtain ⟨its, r', pl, hz⟩ := I.list hq
  have hlen := r'.length
  obtain ⟨o, ho, hc, n, hd⟩ := pl.isList
  exact call_list_seq p (.inl rfl) ho hc hd (fun h' c' kp e => fin its r' hz h' c' kp e) (by simp only [List.size_toArray] <;> omega)
 ·obtain ⟨its, r', pl, hz⟩ := I.tuple hq
  have hlen := r'.length
  obtain ⟨o, ho, hc, n, hd⟩ := pl
  exact call_list_seq p (.inr rfl) ho hc hd (fun h' c' kp e => fin its r' hz h' c' kp e) (by simp only [List.size_toArray] <;> omega)
def tyV (K : PySem.W.Frag) (T : String) (x : V) (H : Hp) : Prop := match x with
 | .str _ => T = "str"
 | .int _ => T = "int"
 | .ref p => (T = "list" ∧ ∃ xs, SqL K H p xs) ∨ (T = "tuple" ∧ ∃ o, K.lookup p = some o ∧ o.cls = .type "tuple" ∧ o.dict = none) ∨
   (T = "dict" ∧ ((∃ kvs, H p = some (.dK kvs)) ∨ ∃ kvs, H p = some (.dT kvs))) ∨ (T = "set" ∧ ∃ S n, H p = some (.set S n))
 | _ => False
theorem tyV_is {pins : List (Addr × Obj)} {σ : St} {H : Hp} {s : Shared} {T : String} {x : V} {v : Value} (I : Inv X pins σ H s) (r : RelV x v) (ty : tyV X.K T x H) :
  s.TypeIs v T ∧ ∀ a, v = .ref a → ∃ ob, s.heap.get? a = some ob ∧ ob.dict = none := by
 cases x with
 | str z =>
  obtain ⟨t, rfl⟩ := r
  cases (show T = "str" from ty)
  exact ⟨typeIs_str s z t, fun _ e => nomatch e⟩
 | int i =>
  obtain ⟨t, rfl⟩ := r
  cases (show T = "int" from ty)
  exact ⟨typeIs_int s i t, fun _ e => nomatch e⟩
 | ref p =>
  cases r
  rcases ty with ⟨rfl, xs, hq⟩ | ⟨rfl, o, hk, hc, hd⟩ | ⟨rfl, hk⟩ | ⟨rfl, S, n, hk⟩
  ·obtain ⟨its, _, pl, _⟩ := I.list hq
   refine ⟨pl.isList.typeIs, fun a e => ?_⟩
   cases e
   obtain ⟨o, n, e, c, hd, _⟩ := pl
   exact ⟨o, e, hd⟩
  ·refine ⟨⟨o, I.kIn p o hk, hc⟩, fun a e => ?_⟩
   cases e
   exact ⟨o, I.kIn _ o hk, hd⟩
  ·have z : ∃ o, s.heap.get? p = some o ∧ o.ExactDict := by
    rcases hk with ⟨kvs, hk⟩ | ⟨kvs, hk⟩
    ·obtain ⟨_, _, _, _, o, _, _, e, ex, _⟩ := I.hok p _ hk
     exact ⟨o, e, ex⟩
    ·obtain ⟨_, _, _, _, o, _, _, e, ex, _⟩ := I.hok p _ hk
     exact ⟨o, e, ex⟩
   obtain ⟨o, e, ex⟩ := z
   refine ⟨⟨o, e, ex.1⟩, fun a e2 => ?_⟩
   cases e2
   exact ⟨o, e, ex.2.1⟩
  ·obtain ⟨o, _, _, _, e, ex, _⟩ := I.hok p _ hk
   refine ⟨⟨o, e, ex.1⟩, fun a e2 => ?_⟩
   cases e2
   exact ⟨o, e, ex.2.1⟩
 | _ => exact False.elim ty
inductive tBM_ (K : PySem.W.Frag) (T : String) (r : V → List V → Hp → VK → Prop) (t : TA) (σ : St) (Q : VK) (x : V) (H1 : Hp) : Prop where
 | mk (h1 : tyV K T x H1) (h2 : t σ H1 fun xs H2 => r x xs H2 Q) : tBM_ K T r t σ Q x H1
def tBM (K : PySem.W.Frag) (T : String) (r : V → List V → Hp → VK → Prop) (to : TE) (t : TA) : TE := fun σ H Q => to σ H fun x H1 => tBM_ K T r t σ Q x H1
variable {o e : Expr} {es : List Expr} {to : TE} {t : TA} {name : Str} {apos cpos : Pos} {T id : String} {r : V → List V → Hp → VK → Prop}
theorem pe_bm (pa : PlainAttrs T) (slot : Slot T name id) (hty : typeOf (.builtin id) = pure (.type "method_descriptor")) (hm : MtR X id r) (ho : PE X o to) (ha : PA X (e :: es) t)
  (hbase : attributeBase o name X.env (eval o X.env) = eval o X.env := by rfl)
  (hfew : ((backTo cpos (starEach (e :: es) X.env)).all (fun x => !x.1) && (backToKw cpos (keywordEach [] X.env)).all (fun x => x.1.isSome)
   && decide ((e :: es).length + ([] : List Keyword).length + (if ([] : List Keyword).isEmpty then 0 else 1) < 30)) = true := by rfl)
  (hline : (apos.endLine == cpos.line) = true := by rfl) (hs : starEach (e :: es) X.env = (false, eval e X.env) :: starEach es X.env := by rfl) (hplain : (backTo cpos (starEach es X.env)).any (·.1) = false := by rfl) :
  PE X (.Call (.Attribute o name apos) (e :: es) [] cpos) (tBM X.K T r to t) := by
 intro pins s σ H Q I h
 refine wpAny_Call_method_late hbase hfew hline rfl (thn (ho pins s σ H _ I h) fun v s1 ⟨x, H1, I1, r1, ty, q1⟩ => ?_)
 obtain ⟨h1, h2⟩ := tyV_is I1 r1 ty
 refine ⟨T, id, pa, slot, hty, h1, h2, ?_⟩
 have hA := ha cpos pins s1 σ H1 _ I1 q1
 rw [hs] at hA ⊢
 refine Calls.callWith_builtin (by show (false || (backTo cpos (starEach es X.env)).any (·.1)) = false; rw [hplain] <;> rfl) (Calls.evalArgs_plain ?_)
 exact thn hA fun us s2 ⟨vs, H2, I2, r2, q2⟩ => hm pins s2 σ H2 x vs v us Q I2 r1 r2 q2
end
end L2
namespace L2
open PySem PySem.Spec PyProof.Rows
def MtM (X : Cx) (id : String) (r : V → List V → Hp → VK → Prop) : Prop :=
 ∀ (pins : List (Addr × Obj)) (s : Shared) (σ : St) (H : Hp) (x : V) (xs : List V) (v : Value) (us : List Value) (Q : VK), Inv X pins σ H s → RelV x v → Vals xs us → r x xs H Q →
  wpAny (model X.prog X.w) X.A (call (.builtin id) (v :: us)) (EP X pins σ Q) X.xe s
theorem Vals.one : ∀ {x : V} {us : List Value}, Vals [x] us → ∃ u, us = [u] ∧ RelV x u
 | _, _, .cons r .nil => ⟨_, rfl, r⟩
theorem Vals.reverse {xs : List V} {us : List Value} (h : Vals xs us) : Vals xs.reverse us.reverse := by
 induction h with
 | nil => exact .nil
 | cons r t ih => rw [List.reverse_cons, List.reverse_cons]; exact Vals.append ih (.cons r .nil)
theorem Vals.rep {xs : List V} {us : List Value} (h : Vals xs us) : ∀ k : Nat, Vals (List.replicate k xs).flatten (List.replicate k us).flatten
 | 0 => .nil
 | k + 1 => by
  rw [List.replicate_succ, List.replicate_succ, List.flatten_cons, List.flatten_cons]
  exact Vals.append h (Vals.rep h k)
theorem foldl_rep (its : List Value) : ∀ (k : Nat) (acc : List Value),
  List.foldl (fun x1 x2 => x1 ++ x2) acc.toArray (List.replicate k its.toArray) = (acc ++ (List.replicate k its).flatten).toArray
 | 0, acc => by simp
 | k + 1, acc => by
  have e : acc.toArray ++ its.toArray = (acc ++ its).toArray := by simp
  have e2 : (acc ++ its) ++ (List.replicate k its).flatten = acc ++ (List.replicate (k + 1) its).flatten := by
   rw [List.replicate_succ, List.flatten_cons, List.append_assoc]
  rw [← e2, ← foldl_rep its k (acc ++ its), ← e, List.replicate_succ, List.foldl_cons]
section
variable {X : Cx} {pins : List (Addr × Obj)} {σ : St} {H : Hp} {s : Shared} {l b : Addr} {xs ys zs : List V}
theorem Inv.lset {its its' : List Value} {n : Nat} {f : Array Value → Array Value} {t' : Nat} (I : Inv X pins σ H s) (hH : H l = some (.lst xs))
  (e : s.heap.get? l = some { cls := .type "list", data := .seq its.toArray n }) (hf : f its.toArray = its'.toArray) (hv : Vals ys its') (hz : ys.length ≤ sizeLine) :
  Inv X pins σ (upd H l (.lst ys)) { s with heap := s.heap.update l (Obj.mapSeq f), toks := t' } := by
 have q := PySem.IsL.update e f
 rw [hf] at q
 refine I.write (x := l) (e := l) (by rw [hH]; exact trivial) (.inl rfl) (fun b' u hb hu => (Heap.get?_update_other s.heap (Obj.mapSeq f) (Ne.symm hb)).trans hu) ⟨_, q⟩ ?_
 exact ⟨hz, its', _, hv, q⟩
theorem Inv.lnew {its : List Value} {t' : Nat} (I : Inv X pins σ H s) (hv : Vals ys its) (hz : ys.length ≤ sizeLine) :
  Inv X pins σ (upd H s.heap.objs.size (.lst ys)) { s with heap := s.heap.push { cls := .type "list", data := .seq its.toArray }, toks := t' } :=
 I.laid (fun _ _ q => Heap.get?_push_of_some _ q) (Nat.le_refl _) ⟨hz, its, 0, hv, Heap.get?_push_size _ rfl⟩
theorem Inv.fresh (I : Inv X pins σ H s) : H s.heap.objs.size = none := I.hok.fresh (Nat.le_refl _)
theorem Inv.lstM (I : Inv X pins σ H s) (hH : H l = some (.lst xs)) : xs.length ≤ sizeLine ∧ ∃ (its : List Value) (n : Nat), Vals xs its ∧ xs.length = its.length ∧ s.heap.get? l = some { cls := .type "list", data := .seq its.toArray n } := by
 obtain ⟨z, its, n, r, e⟩ := I.hok l _ hH
 exact ⟨z, its, n, r, r.length, e⟩
theorem notLongL {n : Nat} (h : n ≤ sizeLine) : Builtin.List.listTooLong n = false := by
 unfold Builtin.List.listTooLong
 exact decide_eq_false (by omega)
end
section
variable {X : Cx}
inductive rAppend (x : V) (vs : List V) (H : Hp) (Q : VK) : Prop where
 | mk (l : _) (xs : _) (y : _) (h1 : x = .ref l) (h2 : vs = [y]) (h3 : H l = some (.lst xs)) (h4 : xs.length < sizeLine) (h5 : Q .non (upd H l (.lst (xs ++ [y])))) : rAppend x vs H Q
theorem vV4 : MtM X "list.append" rAppend := by
 intro pins s σ H x vs v us Q I rx rv h
 obtain ⟨l, xs, y, rfl, rfl, hH, hz, q⟩ := h
 cases rx
 obtain ⟨u, rfl, ru⟩ := rv.one
 obtain ⟨z, its, n, r, hl, e⟩ := I.lstM hH
 refine call_meets F.slot_list_append ⟨_, e, rfl⟩ F.entry_list_append (F.args_list_append_2 _ _) (PySem.list_append l its.toArray n u (by rw [List.size_toArray]; omega)) ⟨e, ?_⟩
 refine ⟨.non, _, I.lset (its' := its ++ [u]) hH e (by simp) (r.append (.cons ru .nil)) ?_, rfl, q⟩
 rw [List.length_append, List.length_singleton]
 omega
inductive rExtend (x : V) (vs : List V) (H : Hp) (Q : VK) : Prop where
 | mk (l : _) (b : _) (xs : _) (zs : _) (h1 : x = .ref l) (h2 : vs = [.ref b]) (h3 : H l = some (.lst xs)) (h4 : H b = some (.lst zs)) (h5 : xs.length + zs.length ≤ sizeLine) (h6 : Q .non (upd H l (.lst (xs ++ zs)))) : rExtend x vs H Q
theorem mt_extend : MtM X "list.extend" rExtend := by
 intro pins s σ H x vs v us Q I rx rv h
 obtain ⟨l, b, xs, zs, rfl, rfl, hH, hB, hz, q⟩ := h
 cases rx
 obtain ⟨u, rfl, ru⟩ := rv.one
 cases ru
 obtain ⟨z, its, n, r, hl, e⟩ := I.lstM hH
 obtain ⟨z2, its2, n2, r2, hl2, e2⟩ := I.lstM hB
 have hsz : its.toArray.size + its2.toArray.size ≤ sizeLine := by rw [List.size_toArray, List.size_toArray]; omega
 have hlong : ¬ (!its.toArray.isEmpty && Builtin.List.listTooLong (its.toArray.size + its2.toArray.size)) = true := by
  rw [notLongL hsz, Bool.and_false]
  exact Bool.false_ne_true
 refine call_meets F.slot_list_extend ⟨_, e, rfl⟩ F.entry_list_extend (F.args_list_extend_2 _ _)
  (AutoSeq1.list_extend_list_list_0 l its.toArray n b its2.toArray n2 hlong (by rw [List.size_toArray]; omega) (by omega)) ⟨e, e2, ?_⟩
 refine ⟨.non, _, I.lset (its' := its ++ its2) hH e (by simp) (r.append r2) ?_, rfl, q⟩
 rw [List.length_append]
 omega
inductive rCat (x : V) (y : V) (H : Hp) (Q : VK) : Prop where
 | mk (l : _) (b : _) (xs : _) (zs : _) (h1 : x = .ref l) (h2 : y = .ref b) (h3 : H l = some (.lst xs)) (h4 : H b = some (.lst zs)) (h5 : xs.length + zs.length ≤ sizeLine) (h6 : ∀ p, H p = none → Q (.ref p) (upd H p (.lst (xs ++ zs)))) : rCat x y H Q
theorem op_cat : OpR X (binaryOp .Add) rCat := by
 intro pins s σ H x y v u Q I rx ry h
 obtain ⟨l, b, xs, zs, rfl, rfl, hH, hB, hz, q⟩ := h
 cases rx
 cases ry
 obtain ⟨z, its, n, r, hl, e⟩ := I.lstM hH
 obtain ⟨z2, its2, n2, r2, hl2, e2⟩ := I.lstM hB
 refine PySem.P.add_list e e2 ?_ (by rw [List.size_toArray, List.size_toArray]; omega)
 have ea : its.toArray ++ its2.toArray = (its ++ its2).toArray := by simp
 rw [ea]
 exact ⟨.ref _, _, I.lnew (t' := s.toks) (r.append r2) (by rw [List.length_append]; omega), rfl, q _ I.fresh⟩
theorem len_rep {α : Type} (xs : List α) (k : Nat) : (List.replicate k xs).flatten.length = k * xs.length := by
 induction k with
 | zero => simp
 | succ k ih => rw [List.replicate_succ, List.flatten_cons, List.length_append, ih, Nat.succ_mul, Nat.add_comm]
end
section
variable {prog : Program} {w : World} {A : Around} {E : Value → Shared → Prop} {s : Shared}
theorem bounds_run {a c n : Nat} (hac : a ≤ c) (hc : c ≤ n) : sliceBounds (some (a : Int)) (some (c : Int)) none n = ((a : Int), (c : Int), 1) := by
 simp only [sliceBounds, Option.getD_none]
 have h1 : ¬ ((a : Int) < 0) := by omega
 have h2 : ¬ ((c : Int) < 0) := by omega
 simp only [h1, h2, if_false, show (1 : Int) > 0 by decide, if_true]
 congr 1
 ·omega
 ·congr 1; omega
set_option maxRecDepth 100000 in
theorem setItem_slice {l b sl : Addr} {items new : Array Value} {n n2 : Nat} {vl vu : Value} {a c : Nat} {Q : Unit → Shared → Prop}
    (e : s.heap.get? l = some { cls := .type "list", data := .seq items n }) (e2 : s.heap.get? b = some { cls := .type "list", data := .seq new n2 }) (hne : l ≠ b)
    (hs : s.heap.IsSliceOf sl vl vu .none) (pl : IsPart vl (some (a : Int))) (pu : IsPart vu (some (c : Int))) (hac : a ≤ c) (hc : c ≤ items.size)
    (hsz : items.size + new.size ≤ sizeLine) (h : Q () { s with heap := s.heap.update l (Obj.mapSeq fun xs => xs.extract 0 a ++ new ++ xs.extract c xs.size) }) :
    wpAny (model prog w) A (setItem (.ref l) (.ref sl) (.ref b)) Q E s := by
  have hl : s.heap.IsList l items := PySem.IsL.isList e
  have hb : s.heap.IsList b new := PySem.IsL.isList e2
  obtain ⟨os, hos, hcs, hds⟩ := id hs
  have hTs : s.TypeIs (.ref sl) "slice" := ⟨os, hos, hcs⟩
  have hstep : ¬ ((rawPart none == rawInt 0) = true) := Bool.false_ne_true
  have hsame : Builtin.List.listSameRef (.ref l) (.ref b) = false := by
    unfold Builtin.List.listSameRef
    exact beq_eq_false_iff_ne.mpr hne
  have hmax : (max (a : Int) (c : Int)).toNat = c := by omega
  have hz' : ((fun xs : Array Value => xs.extract 0 a ++ new ++ xs.extract c xs.size) items).size ≤ sizeLine + 1 := by
    simp only [Array.size_append, Array.size_extract]
    omega
  unfold setItem
  try with_reducible refine wpAny_holding ?_
  first | refine wpAny_bind (wpAny_pure ?_) | skip
  refine wpAny_bind (wpAny_sequenceKey hl.typeIs (by decide) ?_)
  refine wpAny_bind (wpAny_callSpecial?_slot (name := Str.ofString "__setitem__") hl.typeIs slot_list_setitem
    (wpAny_call_entry slot_list_setitem hl.typeIs entry_list_setitem ?_ (args_list_setitem _ _ _)))
  show wpAny _ _ (Builtin.List.listSubscript? (.ref sl) >>= _) _ _ s
  refine wpAny_bind ?_
  unfold Builtin.List.listSubscript?
  refine wpAny_bind (wpAny_specialOf hTs slice_no_index ?_)
  simp only [Option.isNone_none, if_true]
  refine wpAny_pure ?_
  show wpAny _ _ (typeOf (.ref sl) >>= _) _ _ s
  refine wpAny_bind (wpAny_typeOf hTs ?_)
  first
    | rw [if_neg (by decide)]
    | refine PySem.W.KFB.if_not (by decide) ?_
  rw [listSliceParts_eq]
  refine wpAny_bind (wpAny_bind (wpAny_field hos hds (x := .none) rfl (wpAny_bind (wpAny_listPart .none ?_))))
  rw [if_neg hstep]
  refine wpAny_bind (wpAny_field hos hds (x := vl) rfl (wpAny_bind (wpAny_listPart pl ?_)))
  refine wpAny_bind (wpAny_field hos hds (x := vu) rfl (wpAny_bind (wpAny_listPart pu (wpAny_pure ?_))))
  first
    | simp only [hsame, Bool.false_eq_true, if_false]
    | refine PySem.W.KFB.if_not hsame ?_
    | (dsimp only
       rw [if_neg (by rw [hsame]; exact Bool.false_ne_true)])
  refine wpAny_bind (m := Builtin.List.listAllItems (.ref b) "must assign iterable to extended slice") ?_
  unfold Builtin.List.listAllItems
  refine wpAny_bind (wpAny_typeOf hb.typeIs ?_)
  first
    | refine PySem.W.KFB.if_so (by decide) ?_
    | rw [if_pos (by decide)]
    | simp only [beq_self_eq_true, Bool.true_or, if_true]
  unfold Builtin.List.listItems
  refine wpAny_bind (wpAny_seqItems e2 rfl (wpAny_pure ?_))
  refine wpAny_bind (wpAny_bind (wpAny_seqItems e rfl (wpAny_pure ?_)))
  refine wpAny_bind (wpAny_of_eq ((sliceIndices_raw (some (a : Int)) (some (c : Int)) none items.size (by simp)).trans (congrArg (pure : Int × Int × Int → Sem (Int × Int × Int)) (bounds_run hac hc))) ?_)
  show wpAny _ _ (if ((1 : Int) == 1) = true then _ else _) _ _ s
  rw [if_pos (by decide)]
  refine wpAny_bind (wpAny_rule ?_)
  first
    | simp only [notLongL hsz, Bool.false_eq_true, if_false]
    | refine PySem.W.KFB.if_not (notLongL hsz) ?_
  first | refine wpAny_bind (wpAny_pure ?_) | skip
  show wpAny _ _ (updateSeq l (fun xs => xs.extract 0 ((a : Int)).toNat ++ new ++ xs.extract (max (a : Int) (c : Int)).toNat xs.size) >>= _) _ _ s
  rw [hmax, Int.toNat_natCast]
  refine wpAny_bind (wpAny_updateSeq (hz := Nat.le_trans (Nat.le_add_right _ _) hsz) (_hz' := hz') e rfl ?_)
  refine wpAny_bind (wpAny_letGo ?_)
  first
    | exact wpAny_bind (wpAny_pure (wpAny_pure ⟨.none, rfl, wpAny_pure h⟩))
    | exact wpAny_pure ⟨.none, rfl, wpAny_pure h⟩
end
section
variable {X : Cx}
end
end L2
namespace Att
open PySem PySem.W PySem.Calls PyProof.Rows
theorem ints_of_wellAll {P : Params} {h : Heap} : ∀ (ns : List Int) (vs : List Value), WellAll P h vs (ns.map WData.int) → IntsAre vs ns := by
 intro ns
 induction ns with
 | nil =>
  intro vs w
  rw [List.map_nil] at w
  cases w
  exact .nil
 | cons n ns ih =>
  intro vs w
  rw [List.map_cons] at w
  cases w with
  | cons a b =>
   cases a
   exact .cons _ _ (ih _ b)
theorem script_of {l : OpenLaw} {n : Nat} (hn : l.most = some n) {P : Params} {h : Heap} {args : List WData} {vals : List Value}
  (hpre : l.row.toRowW.claim.pre args = true) (hwl : WellAll P h vals args) :
  ∃ a vs ns, vals = [Value.ref a] ∧ args = [WData.list (ns.map WData.int)] ∧ h.get? a = some { cls := .type "list", data := .seq vs.toArray } ∧ IntsAre vs ns ∧ ns.length ≤ n := by
 have hsh : WShape.hasAll [] args [.list .int] = true := (pre_splitW hpre).1
 have hc : l.pre.holds [] { args := args } = true := (pre_splitW hpre).2
 obtain ⟨d, r, rfl, h1, h2⟩ := hasAllW_cons hsh
 obtain rfl := hasAllW_nil h2
 obtain ⟨xs, rfl, h3⟩ := hasW_list h1
 obtain ⟨ns, rfl⟩ := items_int h3
 have hlen : ns.length ≤ n := by
  unfold OpenLaw.pre at hc
  have h4 : (WTm.not (.lt (.lit (.int (n : Int))) (.len (.arg 0)))).holds [] { args := [.list (ns.map .int)] } = true := by
   have h4 := (holds_andW hc).1
   rw [hn] at h4
   exact h4
  have h5 := condW_of h4 (w_not (w_lt w_lit (w_len_list (w_arg rfl))))
  rw [List.length_map] at h5
  refine Nat.le_of_not_lt fun q => ?_
  have q' : (n : Int) < ((ns.length : Nat) : Int) := by omega
  first
   | (rw [decide_eq_true q'] at h5; exact absurd h5 (by decide))
   | (simp at h5; omega)
 cases hwl with
 | cons w1 w2 =>
  cases w2
  cases w1 with
  | list ho hall => exact ⟨_, _, ns, rfl, rfl, ho, ints_of_wellAll ns _ hall, hlen⟩
theorem post_true (l : OpenLaw) (args : List WData) : l.row.toRowW.claim.post args (.bool true) args = true :=
 postW_of (r := l.row.toRowW) (X := (true == true))
  (show WShape.has [] (.bool true) .bool = true by first | rfl | decide | simp [WShape.has, WShape.arms, WShape.armsAll])
  (show (WTm.eq .res (.lit (.bool true))).value [] { args := args, res := some (.bool true), after := args } = some (.bool (true == true)) from w_eq_bool (w_res rfl) w_lit) rfl
theorem attach_call {l : OpenLaw} {n : Nat} {q : Program} {loose : List Str} {XP : (Str → Option Value) → Heap → Prop} {YP : World → Heap → Prop} {d : DefRec}
  (hn : l.most = some n) (hdf : d.params.defaults = [])
  (call : ∀ (w : World) (s₀ s₁ : Shared) (mg mb : Str → Option Value) (fa : Addr) (o : Obj) (pm cd doc : Value) (a : Addr) (vs : List Value) (ns : List Int),
   Ground q loose [] XP w s₀ mg mb s₁.heap → YP w s₁.heap →
   s₁.heap.get? fa = some o → o.data = .func (docDef d.name d.params d.body d.scope pm cd doc) → s₁.heap.CodeRec cd d.name → mg d.name = some (.ref fa) →
   s₁.heap.get? a = some { cls := .type "list", data := .seq vs.toArray } → IntsAre vs ns → ns.length ≤ n → s₁.gens = #[] →
   codeAny (model l.prog w) callerA (.call (.ref fa) ⟨[.ref a], []⟩) (fun r s' => r = .ok (.ret (.bool true)) ∧ OldK s₁.heap s'.heap ∧ s'.os = s₁.os ∧ AllBare s'.gens) s₁) :
  WalkO q loose XP YP l.row.toRowW d [] (fun f vs => PySem.call f vs) := by
 intro w s₀ s₁ mg mb G Y fa o pm cd doc dV kV ho hd hcd hD hmg hg args vals as hpre hlay hrd hwl hlo
 obtain rfl : dV = .none := Dflts.none hD hdf
 obtain rfl : kV = .none := Dflts.noKw hD
 obtain ⟨a, vs, ns, rfl, rfl, hobj, hints, hlen⟩ := script_of hn hpre hwl
 refine enter_call (codeAny_mono (call w s₀ s₁ mg mb fa o pm cd doc a vs ns G Y ho (fd_plain hd) hcd hmg hobj hints hlen hg) fun r s' hq => ?_)
 obtain ⟨rfl, h2, h3, h4⟩ := hq
 exact ⟨.inl ⟨.bool true, .bool true, [], rfl, fun _ => rfl, .bool true, post_true l _, fun _ => ⟨List.Pairwise.nil, fun _ hm => (nomatch hm)⟩⟩, h2, h3, h4⟩
section
variable {prog : Program} {w : World} {A : Around} {E : Value → Shared → Prop} {s : Shared} {K : Frag}
end
end Att
namespace L2
open PySem PySem.Spec PyProof.Rows
theorem vals_ints : ∀ {vs : List Value} {ns : List Int}, IntsAre vs ns → Vals (ns.map V.int) vs
 | _, _, .nil => .nil
 | _, _, .cons n t h => .cons ⟨t, rfl⟩ (vals_ints h)
def Only (H : Hp) : Prop := ∀ b, H b = none ∨ ∃ o xs, H b = some (.frz o (.lst xs))
theorem law_call {P : Program} {w : World} {K : PySem.W.Frag} {mg mb : Str → Option Value} {CX : CXT} {k : Nat} {fa a : Addr} {fd : FuncData} {x : Str} {sp : Sp} {s₁ : Shared} {vs : List Value} {ns : List Int}
  (KX : K.In s₁.heap) (hns : s₁.heap.Ns mainGlobals mg) (hb : s₁.heap.Ns builtinsNs mb) (hbb : ∀ x : Str, x ≠ "__name__" → mb x = bootBuiltins x) (hlim : s₁.heap.NoLimit) (hg : s₁.gens = #[])
  (ha : s₁.heap.get? a = some { cls := .type "list", data := .seq vs.toArray }) (hi : IntsAre vs ns) (hl : ns.length ≤ sizeLine) (hr : Room k callerA)
  (F : ∀ base : Heap, K.In base → base.Ns mainGlobals mg → FnOk P w K mg base CX k fa fd [x] sp) (hbind : ∀ (s : Shared) (u : Value), BindsTo s fd ⟨[u], []⟩ [(x, u)])
  (hsp : ∀ H : Hp, Only H → SqL K H a (ns.map V.int) → sp [.ref a] H (fun v _ => v = .bl true) fun _ _ _ => False)
  (hCX : ∀ H e s', CX [] H s₁ (fun _ _ _ => False) e s' → False) :
  codeAny (model P w) callerA (.call (.ref fa) ⟨[.ref a], []⟩) (fun r s' => r = .ok (.ret (.bool true)) ∧ OldK s₁.heap s'.heap ∧ s'.os = s₁.os ∧ AllBare s'.gens) s₁ := by
 have rv := vals_ints hi
 have lenV := hi.length
 have core : ∀ H : Hp, Only H → SqL K H a (ns.map V.int) → HOk P w H s₁.heap → (∀ b, H b ≠ none → b = a) → (H a ≠ none → K.lookup a = none) →
   codeAny (model P w) callerA (.call (.ref fa) ⟨[.ref a], []⟩) (fun r s' => r = .ok (.ret (.bool true)) ∧ OldK s₁.heap s'.heap ∧ s'.os = s₁.os ∧ AllBare s'.gens) s₁ := by
  intro H hO hS hok hA hK
  have base_of : ∀ {b : Addr} {o : Obj}, s₁.heap.get? b = some o → H b = none → (hidT s₁.heap H).get? b = some o := fun e n => hidT_get e n
  have noA : ∀ {b : Addr} {o : Obj} {es : Array DictEntry} {ep : Nat}, s₁.heap.get? b = some o → o.data = .dict es ep → H b = none := fun {b o es ep} e d => by
   cases q : H b with
   | none => rfl
   | some u =>
    have e' : b = a := hA b (by rw [q]; simp)
    subst e'
    rw [ha] at e; cases e
    have d' : Data.seq vs.toArray _ = Data.dict es ep := d
    cases d'
  have nsK : ∀ {b : Addr} {m : Str → Option Value}, s₁.heap.Ns b m → (hidT s₁.heap H).Ns b m := fun {b m} ⟨o, es, ep, e, d, r⟩ => ⟨o, es, ep, base_of e (noA e d), d, r⟩
  have hKb : K.In (hidT s₁.heap H) := fun b o e => base_of (KX b o e) (by
   cases q : H b with
   | none => rfl
   | some u =>
    have e' : b = a := hA b (by rw [q]; simp)
    subst e'
    rw [hK (by rw [q]; simp)] at e; cases e)
  have hM : Mod K mg (hidT s₁.heap H) := ⟨hKb, nsK hns, ⟨mb, nsK hb, hbb⟩, let ⟨mc, h1, h2⟩ := hlim; ⟨mc, nsK h1, h2⟩⟩
  have e0 : Env0 P w K mg (hidT s₁.heap H) callerA [] s₁ H := ⟨rfl, hM, fun b o e => of_hidT e, Nat.le_of_eq (hidT_size _ _), trivial, fun b hb => absurd (show b ∈ ([] : List Addr) from hb) (by simp), hok, .of_eq hg⟩
  refine codeAny_mono ((F _ hKb (nsK hns)).run callerA [] s₁ H ⟨[.ref a], []⟩ [.ref a] [.ref a] _ _ hr e0 (hbind s₁ (.ref a)) (.cons rfl .nil) (hsp H hO hS)) fun r s' h => ?_
  cases r with
  | error e => exact (hCX H e s' h).elim
  | ok fl =>
   cases fl with
   | next => exact False.elim h
   | brk => exact False.elim h
   | cont => exact False.elim h
   | ret u =>
    obtain ⟨v, H', os, bare, un, hok', r', q⟩ := h
    have q' : v = .bl true := q
    subst q'
    obtain rfl : u = Value.bool true := r'
    refine ⟨rfl, OldK.of_keep fun b o e => ?_, os, bare⟩
    cases q : H b with
    | none => exact un.keep b o e q (by intro z; exact absurd (show b ∈ ([] : List Addr) from z) (by simp)) (by simp)
    | some u =>
     rcases hO b with z | ⟨ob, xs, z⟩
     ·rw [q] at z; cases z
     ·have z2 := un.frzs b ob _ z
      obtain ⟨e1, _⟩ := hok b _ z
      obtain ⟨e2, _⟩ := hok' b _ z2
      rw [e] at e1; cases e1
      exact e2
 cases hk : K.lookup a with
 | some o =>
  have e := KX a o hk
  rw [ha] at e
  cases e
  refine core (fun _ => none) (fun _ => .inl rfl) (.inr ⟨_, vs.toArray, _, hk, rfl, rfl, rfl, by rw [List.size_toArray, lenV]; exact hl, by simpa using rv⟩) (fun b u z => by have z' : (none : Option HO) = some u := z; cases z') (fun b z => absurd rfl z) fun z => absurd rfl z
 | none =>
  refine core (fun b => if b = a then some (.frz { cls := .type "list", data := .seq vs.toArray } (.lst (ns.map V.int))) else none) (fun b => ?_) (.inl (.inr ⟨{ cls := .type "list", data := .seq vs.toArray }, if_pos rfl⟩)) (fun b u z => ?_) (fun b z => ?_) fun _ => hk
  ·by_cases hb : b = a
   ·exact .inr ⟨_, _, if_pos hb⟩
   ·exact .inl (if_neg hb)
  ·by_cases hb : b = a
   ·have z' := (if_pos hb).symm.trans z
    cases z'
    subst hb
    exact ⟨ha, by rw [List.length_map]; exact hl, vs, _, rv, ha⟩
   ·have z' := (if_neg hb).symm.trans z
    cases z'
  ·by_cases hb : b = a
   ·exact hb
   ·exact absurd (if_neg hb) z
end L2
namespace L2
open PySem PySem.Spec PyProof.Rows
theorem walk_of {l : PySem.W.OpenLaw} {n k : Nat} {q : Program} {loose : List Str} {XP : (Str → Option Value) → Heap → Prop} {YP : World → Heap → Prop} {d : DefRec} {K : Params → PySem.W.Frag} {CX : World → CXT} {sp : World → Sp} {x : Str}
  (hn : l.most = some n) (hn2 : n ≤ sizeLine) (hdf : d.params.defaults = []) (hr : Room k callerA)
  (hY : ∀ (w : World) (h : Heap), YP w h → (K w.params).In h)
  (F : ∀ (w : World) (mg : Str → Option Value) (fa : Addr) (h : Heap), (K w.params).In h → h.Ns mainGlobals mg → mg d.name = some (.ref fa) →
   ∃ fd : FuncData, (∀ (s : Shared) (u : Value), BindsTo s fd ⟨[u], []⟩ [(x, u)]) ∧
    ∀ base : Heap, (K w.params).In base → base.Ns mainGlobals mg → FnOk l.prog w (K w.params) mg base (CX w) k fa fd [x] (sp w))
  (hsp : ∀ (w : World) (H : Hp) (a : Addr) (ns : List Int), ns.length ≤ n → Only H → SqL (K w.params) H a (ns.map V.int) → sp w [.ref a] H (fun v _ => v = .bl true) fun _ _ _ => False)
  (hCX : ∀ (w : World) (H : Hp) (s : Shared) (e : Value) (s' : Shared), CX w [] H s (fun _ _ _ => False) e s' → False) :
  PySem.W.WalkO q loose XP YP l.row.toRowW d [] (fun f vs => PySem.call f vs) := by
 refine Att.attach_call hn hdf fun w s₀ s₁ mg mb fa o pm cd doc a vs ns G Y ho hd hcd hmg hobj hints hlen hg => ?_
 have KX := hY w _ Y
 obtain ⟨fd, hb, hF⟩ := F w mg fa _ KX G.T.g hmg
 exact law_call KX G.T.g G.T.b G.T.builtins G.T.nolimit hg hobj hints (Nat.le_trans hlen hn2) hr hF hb (fun H hO hS => hsp w H a ns hlen hO hS) fun H e s' => hCX w H s₁ e s'
end L2
namespace L2
open PySem PySem.Spec PyProof.Rows
def inClass (s : Stmt) (j : Nat) : Stmt := match s with
 | .ClassDef _ _ _ body _ _ _ _ _ _ _ => body.getD j (.Pass ⟨0, 0, 0, 0⟩)
 | _ => .Pass ⟨0, 0, 0, 0⟩
def defArgs (s : Stmt) : Arguments := match s with
 | .FunctionDef _ a _ _ _ _ _ _ _ _ => a
 | _ => { posonlyargs := [], args := [], vararg := none, kwonlyargs := [], kw_defaults := [], kwarg := none, defaults := [] }
def defBody (s : Stmt) : List Stmt := match s with
 | .FunctionDef _ _ b _ _ _ _ _ _ _ => b
 | _ => []
def defScope (s : Stmt) : Scope := match s with
 | .FunctionDef _ _ _ _ _ _ sc _ _ _ => sc
 | _ => { kind := .function, names := [], isGenerator := false, isCoroutine := false }
abbrev CX0 : CXT := fun _ _ _ _ _ _ => False
abbrev E0 : XK := fun _ _ _ => False
theorem xV1 {X : Cx} : vU9 CX0 X E0 := fun _ _ _ _ _ _ _ h => h.elim
structure Fun (K : PySem.W.Frag) (x qual : Str) (st : Stmt) (f : Addr) (fd : FuncData) : Prop where
 ex : ∃ (oc : Value) (od : Option Addr) (kV doc pm : Value) (an : Option Addr) (cdv ct : Value) (osl : Array (Option Value)),
  fd = PySem.W.fnOf x qual (defArgs st) (defBody st) (defScope st) .none kV doc pm an cdv ct ∧ K.lookup f = some ⟨oc, od, .func fd, osl⟩ ∧ PySem.W.codeIn K cdv qual = true
 kp : PySem.W.keepIn K (.ref f) = true
section
variable {P : Program} {w : World} {K : PySem.W.Frag} {mg : Str → Option Value} {base : Heap}
theorem Fun.ok {x qual : Str} {st : Stmt} {f : Addr} {fd : FuncData} {N ps : List Str} {k : Nat} {sp : Sp} (F : Fun K x qual st f fd) (S : FnScope N ps (defScope st)) (len : ∀ vs H Q E, sp vs H Q E → vs.length = ps.length)
  (hbody : ∀ (cdv : Value) (A : Around) (outer : List Env) (s : Shared) (H : Hp) (vs : List V) (Q : VK) (E : XK), Room k (A.deeper (envOfC qual (defScope st) s.heap.objs.size f cdv)) → sp vs H Q E →
   ∃ t, PSs (cxOf CX0 P w K mg base N qual (defScope st) f cdv A outer s H E).nox (defBody st) t ∧ t { nx := fun _ H' => Q .non H', rt := Q } (start N vs) H) : FnOk P w K mg base CX0 (k + 1) f fd ps sp := by
 obtain ⟨oc, od, kV, doc, pm, an, cdv, ct, osl, rfl, lk, hcd⟩ := F.ex
 refine fn_of lk hcd S len fun A outer s H vs Q E hr hsp => ?_
 obtain ⟨t, h, q⟩ := hbody cdv A outer s H vs Q E hr hsp
 exact ⟨t, h.nox, q⟩
theorem Fun.binds {x qual : Str} {st : Stmt} {f : Addr} {fd : FuncData} {ps : List Str} (F : Fun K x qual st f fd)
  (h : ∀ (kV doc pm : Value) (an : Option Addr) (cdv ct : Value) (us : List Value), us.length = ps.length → bindArgs (PySem.W.fnOf x qual (defArgs st) (defBody st) (defScope st) .none kV doc pm an cdv ct) ⟨us, []⟩ = pure (ps.zip us)) : Binds K fd ps [] := by
 obtain ⟨oc, od, kV, doc, pm, an, cdv, ct, osl, rfl, lk, hcd⟩ := F.ex
 exact .all (h kV doc pm an cdv ct)
theorem fun_mk {x qual : Str} {st : Stmt} {f : Addr} {oc : Value} {od an : Option Addr} {osl : Array (Option Value)} {kV doc pm cdv ct : Value} (l : K.lookup f = some ⟨oc, od, .func (PySem.W.fnOf x qual (defArgs st) (defBody st) (defScope st) .none kV doc pm an cdv ct), osl⟩)
  (c : PySem.W.codeIn K cdv qual = true) (k : PySem.W.keepIn K (.ref f) = true) : Fun K x qual st f (PySem.W.fnOf x qual (defArgs st) (defBody st) (defScope st) .none kV doc pm an cdv ct) := ⟨⟨oc, od, kV, doc, pm, an, cdv, ct, osl, rfl, l, c⟩, k⟩
end
theorem xV0 {n : Nat} (h : n ≤ 1000) : n < sizeLine := Nat.lt_of_le_of_lt h (by decide)
section
variable {X : Cx}
end
theorem iteF {A B : Prop} (h : B) : if false = true then A else B := by
 rw [if_neg Bool.false_ne_true]
 exact h
theorem iteT {A B : Prop} (h : A) : if true = true then A else B := by
 rw [if_pos rfl]
 exact h
theorem ite2 {c A B : Prop} [Decidable c] (h1 : c → A) (h2 : ¬ c → B) : if c then A else B := by
 by_cases h : c
 ·rw [if_pos h]
  exact h1 h
 ·rw [if_neg h]
  exact h2 h
theorem iteNS {c A B : Prop} [Decidable c] (hc : c) (h : B) : if (!decide c) = true then A else B := by
 rw [decide_eq_true hc]
 exact iteF h
def Same (H H' : Hp) : Prop := ∀ b o, H b = some o → H' b = some o
theorem Same.refl (H : Hp) : Same H H := fun _ _ h => h
theorem Same.trans {H H1 H2 : Hp} (a : Same H H1) (b : Same H1 H2) : Same H H2 := fun c o h => b c o (a c o h)
theorem Same.free {H H' : Hp} (e : Same H H') {l : Addr} (h : H' l = Option.none) : H l = Option.none := by
 cases q : H l with
 | none => rfl
 | some o =>
  rw [e l o q] at h
  cases h
theorem Same.seq {K : PySem.W.Frag} {H H' : Hp} {a : Addr} {xs : List V} (e : Same H H') (h : SqL K H a xs) : SqL K H' a xs := by
 rcases h with (h | ⟨o, h⟩) | h
 ·exact .inl (.inl (e _ _ h))
 ·exact .inl (.inr ⟨o, e _ _ h⟩)
 ·exact .inr h
end L2
set_option maxHeartbeats 4000000
namespace L3
open PySem PySem.Spec L2
open PyProof.Rows hiding St
theorem thnE {α : Type} {t : Sem α} {Q Q' : α → Shared → Prop} {M : Model} {A : Around} {E : Value → Shared → Prop} {s : Shared} (h : wpAny M A t Q (fun _ _ => False) s) (hQ : ∀ a s, Q a s → Q' a s) : wpAny M A t Q' E s :=
 wpAny_mono h hQ fun _ _ x => x.elim
theorem vW2 (env : Env) : ∀ (l : List (Str × NameKind)) (acc : List (Str × Addr)), (∀ x ∈ l, x.2 = .free → ∃ c, env.cells.lookup x.1 = some c) → (∀ x c, acc.lookup x = some c → env.cells.lookup x = some c) →
  ∃ cl, (forIn l acc fun (x : Str × NameKind) (r : List (Str × Addr)) => if (x.2 == NameKind.free) = true then do let a ← cellOf env x.1; pure (ForInStep.yield ((x.1, a) :: r)) else pure (ForInStep.yield r) : Sem (List (Str × Addr))) = pure cl ∧
   (∀ x c, cl.lookup x = some c → env.cells.lookup x = some c) ∧ (∀ x, (∃ c, acc.lookup x = some c) → ∃ c, cl.lookup x = some c) ∧ ∀ x, (x, NameKind.free) ∈ l → ∃ c, cl.lookup x = some c
 | [], acc, _, h2 => ⟨acc, rfl, h2, fun _ h => h, fun _ h => nomatch h⟩
 | (n, k) :: r, acc, h1, h2 => by
  rw [List.forIn_cons]
  by_cases hk : k = .free
  ·subst hk
   obtain ⟨c, hc⟩ := h1 (n, .free) List.mem_cons_self rfl
   obtain ⟨cl, e, p1, p2, p3⟩ := vW2 env r ((n, c) :: acc) (fun x hx => h1 x (List.mem_cons_of_mem _ hx)) (fun x d hd => by
    rw [List.lookup_cons] at hd
    cases hx : x == n with
    | true => rw [hx] at hd; cases hd; rw [eq_of_beq hx]; exact hc
    | false => rw [hx] at hd; exact h2 x d hd)
   refine ⟨cl, ?_, p1, fun x hx => ?_, fun x hx => ?_⟩
   ·rw [if_pos (by rfl)]
    unfold cellOf
    dsimp only
    rw [hc]
    exact e
   ·refine p2 x ?_
    obtain ⟨d, hd⟩ := hx
    rw [List.lookup_cons]
    cases hx : x == n with
    | true => exact ⟨c, rfl⟩
    | false => exact ⟨d, hd⟩
   ·rcases List.mem_cons.mp hx with z | z
    ·cases z
     exact p2 n ⟨c, by rw [List.lookup_cons]; simp⟩
    ·exact p3 x z
  ·have hb : (k == NameKind.free) = false := by simpa using hk
   obtain ⟨cl, e, p1, p2, p3⟩ := vW2 env r acc (fun x hx => h1 x (List.mem_cons_of_mem _ hx)) h2
   refine ⟨cl, ?_, p1, p2, fun x hx => ?_⟩
   ·rw [if_neg (by simp [hb])]
    exact e
   ·rcases List.mem_cons.mp hx with z | z
    ·cases z; exact absurd rfl hk
    ·exact p3 x z
theorem yZ7 {scope : Scope} {env : Env} (h : ∀ x ∈ scope.names, x.2 = .free → ∃ c, env.cells.lookup x.1 = some c) :
  ∃ cl, closureFor scope env = pure cl ∧ (∀ x c, cl.lookup x = some c → env.cells.lookup x = some c) ∧ ∀ x, (x, NameKind.free) ∈ scope.names → ∃ c, cl.lookup x = some c := by
 obtain ⟨cl, e, p1, _, p3⟩ := vW2 env scope.names [] h (fun x c z => by cases z)
 refine ⟨cl, ?_, p1, p3⟩
 have e2 : closureFor scope env = ((forIn scope.names [] fun (x : Str × NameKind) (r : List (Str × Addr)) => if (x.2 == NameKind.free) = true then do let a ← cellOf env x.1; pure (ForInStep.yield ((x.1, a) :: r)) else pure (ForInStep.yield r)) : Sem (List (Str × Addr))) >>= pure := by
  unfold closureFor
  rfl
 rw [e2, e]
 rfl
def PTs (X : Cx) (ifs : List Expr) (t : TT) : Prop :=
 ∀ (pins : List (Addr × Obj)) (s : Shared) (σ : St) (H : Hp) (Q : Bool → Hp → Prop), Inv X pins σ H s → t σ H Q →
  wpAny (model X.prog X.w) X.A (forIn ifs true fun c r => if r = true then do let ok ← isTrue c X.env (eval c X.env); pure (ForInStep.yield ok) else pure (ForInStep.yield r)) (TP X pins σ Q) X.xe s
def tYes : TT := fun _ H Q => Q true H
theorem yZ2 {X : Cx} : PTs X [] tYes := fun _ _ _ H _ I h => wpAny_tests_nil ⟨H, I, h⟩
theorem vU6 {X : Cx} {c : Expr} {t : TT} (hc : PT X c t) : PTs X [c] t := fun pins s σ H Q I h => wpAny_tests_one (hc pins s σ H Q I h)
def blk (X : Cx) (scope : Scope) (N : List Str) (cl : List (Str × Addr)) (fp : List Addr) (s₂ : Shared) (H₂ : Hp) (C : Addr) : Cx where
 prog := X.prog
 w := X.w
 K := X.K
 mg := X.mg
 base := X.base
 A := X.A
 N := N
 s₀ := s₂
 H₀ := H₂
 env := compEnvC scope cl C X.env
 outer := X.stack
 stack := X.stack
 ex := fp
 fn := fun _ => false
 calm := X.calm
 pn := []
 xe := fun _ _ => False
theorem yY2 {scope : Scope} {env : Env} {x : Str} {k : NameKind} (h : (relabel scope env).names.lookup x = some k) : (k = .cell ∧ (x, NameKind.free) ∈ scope.names) ∨ (x, k) ∈ scope.names := by
 obtain ⟨⟨n, k0⟩, hm, e⟩ := List.mem_map.mp (show (x, k) ∈ scope.names.map _ from PySem.mem_of_lookup h)
 dsimp only at e
 split at e
 ·rename_i hc
  cases e
  have hf : k0 = .free := by
   have := (Bool.and_eq_true _ _).mp ((Bool.and_eq_true _ _).mp hc).1
   simpa using this.1
  subst hf
  exact .inl ⟨rfl, hm⟩
 ·cases e
  exact .inr hm
theorem yZ3 {env : Env} : ∀ {names : List (Str × NameKind)} {x : Str}, names.lookup x = some .free →
  (names.map fun (n, k) => if (k == NameKind.free && env.scope.kind == .function && env.kindOf n == some .cell) then (n, NameKind.cell) else (n, k)).lookup x = some .cell ∨
  (names.map fun (n, k) => if (k == NameKind.free && env.scope.kind == .function && env.kindOf n == some .cell) then (n, NameKind.cell) else (n, k)).lookup x = some .free
 | [], _, h => by simp at h
 | (n, k) :: r, x, h => by
  have ih := @yZ3 env r x
  simp only [List.map_cons]
  cases hx : x == n with
  | true =>
   simp only [List.lookup_cons, hx] at h
   cases h
   split
   ·left; simp [List.lookup_cons, hx]
   ·right; simp [List.lookup_cons, hx]
  | false =>
   simp only [List.lookup_cons, hx] at h
   by_cases hc : (k == NameKind.free && env.scope.kind == .function && env.kindOf n == some .cell) = true
   ·rw [if_pos hc]; simp only [List.lookup_cons, hx]; exact ih h
   ·rw [if_neg hc]; simp only [List.lookup_cons, hx]; exact ih h
def vV9 (fsc : Scope) (N : List Str) (scope : Scope) (x : Str) (ks : List Nat) (caps : List Str) : Bool :=
 (scope.kind == .function) && scope.names.all (fun y => y.2 != .cell) && scope.names.all (fun y => y.2 != .local || scope.names.lookup y.1 == some .local) && (scope.names.lookup x == some .local) &&
  scope.names.all (fun y => y.2 != .free || fsc.names.lookup y.1 == some .cell || fsc.names.lookup y.1 == some .free) && decide ((x :: caps).Nodup) && (ks.length == caps.length) &&
  (ks.zip caps).all fun p => N[p.1]? == some p.2 && scope.names.lookup p.2 == some .free
structure CScope (X : Cx) (scope : Scope) (x : Str) (ks : List Nat) (caps : List Str) : Prop where
 kind : scope.kind = .function
 nocell : ∀ y ∈ scope.names, y.2 ≠ .cell
 names : ∀ y ∈ scope.names, y.2 = .local → scope.names.lookup y.1 = some .local
 tgt : scope.names.lookup x = some .local
 frees : ∀ y ∈ scope.names, y.2 = .free → X.env.kindOf y.1 = some .cell ∨ X.env.kindOf y.1 = some .free
 nd : (x :: caps).Nodup
 len : ks.length = caps.length
 at_ : ∀ (j : Nat) (k : Nat) (y : Str), ks[j]? = some k → caps[j]? = some y → X.N[k]? = some y ∧ scope.names.lookup y = some .free
theorem CScope.of {X : Cx} {scope : Scope} {x : Str} {ks : List Nat} {caps : List Str} (h : vV9 X.env.scope X.N scope x ks caps = true) : CScope X scope x ks caps := by
 unfold vV9 at h
 simp only [Bool.and_eq_true, List.all_eq_true] at h
 obtain ⟨⟨⟨⟨⟨⟨⟨h1, h2⟩, h3⟩, h4⟩, h5⟩, h6⟩, h7⟩, h8⟩ := h
 refine ⟨by simpa using h1, fun y hy => by simpa using h2 y hy, fun y hy e => ?_, by simpa using h4, fun y hy e => ?_, of_decide_eq_true h6, by simpa using h7, fun j k y e1 e2 => ?_⟩
 ·have := h3 y hy
  rw [e] at this
  simpa using this
 ·have := h5 y hy
  rw [e] at this
  have t2 : X.env.scope.names.lookup y.1 = some .cell ∨ X.env.scope.names.lookup y.1 = some .free := by simpa using this
  exact t2
 ·have hm : (k, y) ∈ ks.zip caps := by
   refine List.mem_of_getElem? (i := j) ?_
   rw [List.getElem?_zip_eq_some]
   exact ⟨e1, e2⟩
  have := h8 (k, y) hm
  simpa using this
section
variable {X : Cx} {scope : Scope} {x : Str} {ks : List Nat} {caps : List Str} {cl : List (Str × Addr)} {fp : List Addr} {s₂ : Shared} {H₂ : Hp} {C : Addr} {pins : List (Addr × Obj)} {σ : St}
theorem blk_ok (S : CScope X scope x ks caps) (I : Inv X pins σ H₂ s₂) (hC : s₂.heap.objs.size ≤ C) (hfp : ∀ b ∈ fp, FpOk X pins H₂ b) (hlt : ∀ b ∈ fp, b < s₂.heap.objs.size)
  (p1 : ∀ x c, cl.lookup x = some c → X.env.cells.lookup x = some c) (p3 : ∀ x, (x, NameKind.free) ∈ scope.names → ∃ c, cl.lookup x = some c) : (blk X scope (x :: caps) cl fp s₂ H₂ C).Ok where
 mod := I.ok.mod
 kind := S.kind
 glob := I.ok.glob
 blt := I.ok.blt
 above := hC
 inj := fun y z c e1 e2 => I.ok.inj y z c (p1 _ _ e1) (p1 _ _ e2)
 has := fun y hy => by
  have hy : (relabel scope X.env).names.lookup y = some .cell ∨ (relabel scope X.env).names.lookup y = some .free := hy
  rcases hy with hy | hy
  ·rcases yY2 hy with ⟨_, m⟩ | m
   ·exact p3 y m
   ·exact absurd rfl (S.nocell _ m)
  ·rcases yY2 hy with ⟨z, _⟩ | m
   ·cases z
   ·exact p3 y m
 cab := fun y c h => by cases h
 hd := I.ok.hd
 frames := I.ok.frames
 stk := .inl rfl
 exf := fun b hb => ⟨Nat.ne_of_lt (Nat.lt_of_lt_of_le (hlt b hb) hC), fun y c e => (hfp b hb).2.2.2.2.1 y c (p1 y c e)⟩
 bs := I.bs
 bsz := Nat.le_trans I.ok.bsz I.sz
 noex := fun b o e hb => by
  rcases (hfp b hb).2.2.2.1 with z | z
  ·exact I.ok.noex b o e z
  ·exact absurd (Nat.lt_of_lt_of_le (Heap.lt_size (I.ok.bs b o e).1) z) (Nat.lt_irrefl _)
 exfs := fun b hb z => by
  rcases List.mem_cons.mp (I.stkSub b z) with e | e
  ·exact (hfp b hb).2.1 e
  ·exact (hfp b hb).2.2.1 e
 funs := I.stack
 frf := I.stkFree
theorem blk_inv (S : CScope X scope x ks caps) (I : Inv X pins σ H₂ s₂) (hfp : ∀ b ∈ fp, FpOk X pins H₂ b) (hlt : ∀ b ∈ fp, b < s₂.heap.objs.size)
  (p1 : ∀ x c, cl.lookup x = some c → X.env.cells.lookup x = some c) (p3 : ∀ x, (x, NameKind.free) ∈ scope.names → ∃ c, cl.lookup x = some c)
  {h₁ : Heap} {tk : Nat} {m : Str → Option Value} (hC : s₂.heap.objs.size < C) (old : ∀ b o, s₂.heap.get? b = some o → h₁.get? b = some o) (hacc : ∃ n, h₁.get? s₂.heap.objs.size = some { cls := .type "list", data := .seq ([] : List Value).toArray n }) (hns : h₁.Ns C m) :
  Inv (blk X scope (x :: caps) cl fp s₂ H₂ C) [] (none :: ks.map fun k => σ.getD k none) (upd H₂ s₂.heap.objs.size (.lst [])) { s₂ with heap := h₁, toks := tk } := by
 refine ⟨blk_ok S I (Nat.le_of_lt hC) hfp hlt p1 p3, rfl, I.bare, Un.laid old (Nat.le_refl _) I.fresh, ⟨m, hns, fun i y v e1 e2 e3 => ?_⟩, fun y c e => ?_, ?_, fun y c e => ?_, fun p hp => absurd (show p ∈ ([] : List (Addr × Obj)) from hp) (by simp), ?_, ?_⟩
 ·cases i with
  | zero => simp at e2
  | succ j =>
   have e1' : caps[j]? = some y := by simpa [blk] using e1
   have e2' : (ks.map fun k => σ.getD k none)[j]? = some (some v) := by simpa using e2
   rw [List.getElem?_map] at e2'
   cases hk : ks[j]? with
   | none => rw [hk] at e2'; cases e2'
   | some k =>
    rw [hk] at e2'
    have e2'' : σ.getD k none = some v := by simpa using e2'
    have hσ : σ[k]? = some (some v) := by
     rw [List.getD_eq_getElem?_getD] at e2''
     cases hz : σ[k]? with
     | none => rw [hz] at e2''; cases e2''
     | some z => rw [hz] at e2''; rw [show z = some v from e2'']
    obtain ⟨hN, hf⟩ := S.at_ j k y hk e1'
    have hv := S.frees (y, .free) (PySem.mem_of_lookup hf) rfl
    obtain ⟨m', _, hl⟩ := I.loc
    obtain ⟨u, ru, lk⟩ := hl k y v hN hσ (by rcases hv with z | z; exact .inr (.inl z); exact .inr (.inr z))
    refine ⟨u, ru, ?_⟩
    rcases lk with ⟨kl, _⟩ | ⟨_, c, hc, ic⟩
    ·rcases hv with z | z <;> (rw [show X.env.kindOf y = some .local from kl] at z; cases z)
    ·obtain ⟨c', hc'⟩ := p3 y (PySem.mem_of_lookup hf)
     have : c' = c := by have := p1 y c' hc'; rw [hc] at this; exact (Option.some.inj this).symm
     subst this
     refine .inr ⟨yZ3 (env := X.env) hf, c', hc', ?_⟩
     obtain ⟨o, ho, hd⟩ := ic
     exact ⟨o, old _ _ ho, hd⟩
 ·obtain ⟨v, o, ho, hd⟩ := I.cell y c (p1 y c e)
  exact ⟨v, o, old _ _ ho, hd⟩
 ·show upd H₂ s₂.heap.objs.size (.lst []) C = none
  rw [xU2 (Nat.ne_of_gt hC)]
  exact I.hok.fresh (Nat.le_of_lt hC)
 ·obtain ⟨v, z⟩ := I.cell y c (p1 y c e)
  show upd H₂ s₂.heap.objs.size (.lst []) c = none
  rw [xU2 (Nat.ne_of_lt z.lt)]
  exact I.freeC y c (p1 y c e)
 ·obtain ⟨n, hn⟩ := hacc
  exact I.hok.laid old (Nat.le_refl _) ⟨Nat.zero_le _, [], n, .nil, hn⟩
 ·show (none :: ks.map fun k => σ.getD k none).length = (x :: caps).length
  simp [S.len]
end
def tCompW (J : It) (tt : TT) (te : TE) (cv : List (Option V)) (Q : VK) (H1 : Hp) : Prop :=
 ∀ D, H1 D = none → ∃ W : Nat → Nat → List V → Hp → Prop, (∃ m, W 0 m [] (upd H1 D (.lst []))) ∧ ∀ i m ys H, W i m ys H → H D = some (.lst ys) ∧
  ((J.stop i H ∧ Q (.ref D) H) ∨ (J.go i H ∧ ∃ N : List V → Hp → Prop, (∀ ys' H', N ys' H' → ∃ m', m' < m ∧ W (i + 1) m' ys' H') ∧ ∀ x H', J.yld i H x H' → tt (some x :: cv) H' fun b H2 => if b = true then
   te (some x :: cv) H2 (fun y H3 => H3 D = some (.lst ys) ∧ ys.length < sizeLine ∧ N (ys ++ [y]) (upd H3 D (.lst (ys ++ [y])))) else N ys H2))
structure Gone (X : Cx) (pins : List (Addr × Obj)) (H : Hp) (C : Addr) : Prop where
 free : H C = none
 loc : C ≠ X.env.locals
 ex : C ∈ X.ex ∨ X.s₀.heap.objs.size ≤ C
 cells : ∀ x c, X.env.cells.lookup x = some c → c ≠ C
 pins : ∀ p ∈ X.pn ++ pins, p.1 ≠ C
theorem Gone.inv {X : Cx} {pins : List (Addr × Obj)} {σ : St} {H : Hp} {C : Addr} {s : Shared} {h' : Heap} (G : Gone X pins H C) (I : Inv X pins σ H s) (sb : Heap.SameBut C s.heap h') : Inv X pins σ H { s with heap := h' } :=
 I.turned (t' := s.toks) (fun b o hb e => (sb.2 b hb).trans e) G.free G.loc G.ex G.cells G.pins
theorem comp_core {X : Cx} {elt iter : Expr} {x : Str} {px pos p2 : Pos} {ifs : List Expr} {scope : Scope} {ks : List Nat} {caps : List Str} {wi : TI} {tt : TT} {te : TE} {use : Option (Value → Sem Unit)} {Qr : Value → Shared → Prop} {R : VK}
  (hc : X.calm = true) (S : CScope X scope x ks caps) (hi : PI X (.Name x px) iter wi)
  (ht : ∀ cl fp s₂ H₂ C, PTs (blk X scope (x :: caps) cl fp s₂ H₂ C) ifs tt) (he : ∀ cl fp s₂ H₂ C, PE (blk X scope (x :: caps) cl fp s₂ H₂ C) elt te)
  (hs : ∀ v, foldedSetIterable iter X.env v = pure v)
  {pins : List (Addr × Obj)} {s : Shared} {σ : St} {H : Hp} (I : Inv X pins σ H s) (h : wi σ H fun J H1 => tCompW J tt te (ks.map fun k => σ.getD k none) R H1)
  (fin0 : use = none → ∀ D H' s', Inv X pins σ H' s' → R (.ref D) H' → Qr (.ref D) s')
  (fin1 : ∀ u, use = some u → ∀ D H' s' C, Inv X pins σ H' s' → R (.ref D) H' → Gone X pins H' C → (∃ m, s'.heap.Ns C m) →
   wpAny (model X.prog X.w) X.A (u (.ref D)) (fun _ s'' => ∃ m, s''.heap.Ns C m ∧ ∀ h', Heap.SameBut C s''.heap h' → Qr .none { s'' with heap := h' }) X.xe s') :
  wpAny (model X.prog X.w) X.A (comprehension (.ListComp elt [⟨.Name x px, iter, ifs, 0⟩] scope pos) scope X.env p2 (newList []) false (eval iter X.env) use) Qr X.xe s := by
 obtain ⟨cl, hclos, p1, p3⟩ := yZ7 (scope := scope) (env := X.env) fun y hy hf => I.ok.has y.1 (S.frees y hy hf)
 refine wpAny_comprehension_free rfl hs hclos S.kind S.names (thn (hi pins s σ H _ I h) fun v s1 h1 => thn h1 fun itv s2 h2 => ?_)
 obtain ⟨it, fp, tn, J, H2, e, I2, T, st2, f2, rd⟩ := h2
 subst e
 have hlt : ∀ b ∈ fp, b < s2.heap.objs.size := fun b hb => by
  obtain ⟨o, ho, _⟩ := T.obj _ _ st2 b hb
  exact Heap.lt_size ho
 obtain ⟨W, ⟨m0, w0⟩, turn⟩ := rd s2.heap.objs.size I2.fresh
 refine wpAny_newObj_type (wpAny_newFunctionEnv S.nocell (by intro y hy; simp at hy) (fun h₁ hns₁ hsb₁ => ?_) S.kind)
 dsimp only at hns₁ hsb₁ ⊢
 generalize hH2 : s2.heap.push { cls := .type "list", dict := none, data := .seq ([] : List Value).toArray } = G2 at hns₁ hsb₁ ⊢
 have hC : G2.objs.size = s2.heap.objs.size + 1 := by rw [← hH2, Heap.size_push]
 have hDC : s2.heap.objs.size ≠ G2.objs.size := by rw [hC]; exact Nat.ne_of_lt (Nat.lt_succ_self _)
 have hCl : s2.heap.objs.size < G2.objs.size := by rw [hC]; exact Nat.lt_succ_self _
 have old : ∀ b o, s2.heap.get? b = some o → h₁.get? b = some o := fun b o e => hsb₁.extBut b o (Nat.ne_of_lt (Nat.lt_trans (Heap.lt_size e) hCl)) (Heap.get?_push_of_some _ (hH2 ▸ Heap.get?_push_of_some _ e))
 have hacc : ∃ n, h₁.get? s2.heap.objs.size = some { cls := .type "list", data := .seq ([] : List Value).toArray n } := ⟨_, hsb₁.extBut _ _ hDC (Heap.get?_push_of_some _ (hH2 ▸ Heap.get?_push_size _ rfl))⟩
 have I3 := blk_inv (cl := cl) (tk := s2.toks + ([] : List (Str × Value)).length) S I2 f2 hlt p1 p3 hCl old hacc hns₁
 have st3 : tn 0 h₁ := T.keep _ _ _ st2 fun b _ o e => old b o e
 have f3 : ∀ b ∈ fp, upd H2 s2.heap.objs.size (.lst []) b = none := fun b hb => by
  rw [xU2 (Nat.ne_of_lt (hlt b hb))]
  exact (f2 b hb).1
 have back : ∀ {σ' : St} {H' : Hp} {s' : Shared} {pl : List (Addr × Obj)}, Inv (blk X scope (x :: caps) cl fp s2 H2 G2.objs.size) pl σ' H' s' → Inv X pins σ H' s' ∧ Gone X pins H' G2.objs.size := fun {σ' H' s' pl} J' => by
  refine ⟨I2.call' (ch := fp) J'.os J'.base J'.hok J'.bare fun b hb => ⟨(f2 b hb).2.2.2.1, (f2 b hb).2.1, (f2 b hb).2.2.2.2.1, (f2 b hb).2.2.2.2.2⟩, J'.free, Nat.ne_of_gt (Nat.lt_trans I2.lt hCl), .inr (Nat.le_trans I2.sz (Nat.le_of_lt hCl)), fun y c e z => ?_, fun p hp z => ?_⟩
  ·obtain ⟨v, q⟩ := I2.cell y c e
   exact absurd (Nat.lt_trans q.lt (z ▸ hCl)) (Nat.lt_irrefl _)
  ·exact absurd (Nat.lt_trans (Heap.lt_size (I2.pin p hp).1) (z ▸ hCl)) (Nat.lt_irrefl _)
 have loop : ∀ s₃ : Shared, s₃ = { s2 with heap := h₁, toks := s2.toks + ([] : List (Str × Value)).length } →
   codeAny (model X.prog X.w) X.A (.compLoop (.ListComp elt [⟨.Name x px, iter, ifs, 0⟩] scope pos) 0 (.ref it) (.ref s2.heap.objs.size) (compEnvC scope cl G2.objs.size X.env))
    (compPost (model X.prog X.w) X.A X.xe use Qr (.ref s2.heap.objs.size) G2.objs.size) s₃ := by
  rintro s₃ rfl
  have stat : ∀ {H' : Hp}, (∀ b ∈ fp, H' b = none) → ∀ b ∈ fp, FpOk (blk X scope (x :: caps) cl fp s2 H2 G2.objs.size) [] H' b := fun hn b hb =>
   ⟨hn b hb, Nat.ne_of_lt (Nat.lt_trans (hlt b hb) hCl), fun z => by
    rcases List.mem_cons.mp (I2.stkSub b z) with e | e
    ·exact (f2 b hb).2.1 e
    ·exact (f2 b hb).2.2.1 e, .inl hb, fun y c e => (f2 b hb).2.2.2.2.1 y c (p1 y c e), fun p hp => absurd (show p ∈ ([] : List (Addr × Obj)) from hp) (by simp)⟩
  refine codeAny_compLoop_tests (fun n s' => ∃ i v0 ys H', Inv (blk X scope (x :: caps) cl fp s2 H2 G2.objs.size) [] (v0 :: ks.map fun k => σ.getD k none) H' s' ∧ tn i s'.heap ∧ (∀ b ∈ fp, H' b = none) ∧ W i n ys H') ?_ m0
   ⟨0, none, [], _, I3, st3, f3, w0⟩
  rintro n s4 ⟨i, v0, ys, H4, I4, st4, fr4, w4⟩
  obtain ⟨hD, hh⟩ := turn i n ys H4 w4
  rcases hh with ⟨stop, qn⟩ | ⟨go, N, hN, step⟩
  ·refine thn (T.done (blk X scope (x :: caps) cl fp s2 H2 G2.objs.size) rfl rfl rfl hc i [] s4 _ H4 _ I4 (stat fr4) st4 stop) fun r s5 ⟨hr, I5⟩ => ?_
   subst hr
   obtain ⟨J5, g5⟩ := back I5
   obtain ⟨m5, hn5, _⟩ := I5.loc
   cases use with
   | none => exact ⟨m5, hn5, fun h' sb => fin0 rfl _ H4 _ (g5.inv J5 sb) qn⟩
   | some u => exact fin1 u rfl _ H4 s5 _ J5 qn g5 ⟨m5, hn5⟩
  ·refine thn (T.item (blk X scope (x :: caps) cl fp s2 H2 G2.objs.size) rfl rfl rfl hc i [] s4 _ H4 (notedBy (model X.prog X.w) X.A (compEnvC scope cl G2.objs.size X.env) fun e s' => compPost (model X.prog X.w) X.A X.xe use Qr (.ref s2.heap.objs.size) G2.objs.size (.error e) s') I4 (stat fr4) st4 go) fun r s5 ⟨u, hr, h5⟩ => ?_
   subst hr
   show wpAny _ _ (letOwnedTupleGo (.Name x px) (.ref it) u >>= fun _ => assign (.Name x px) (compEnvC scope cl G2.objs.size X.env) u) _ _ s5
   refine wpAny_bind (thn h5 fun _ s6 ⟨y6, H6, I6, r6, yl6, st6, fr6⟩ => ?_)
   have I6' := I6.pinned (stat fr6) (T.obj _ _ st6)
   refine thnE (pg_name (X := blk X scope (x :: caps) cl fp s2 H2 G2.objs.size) (i := 0) S.nd rfl (.inl (lookup_relabel_local S.tgt)) (.inr (lookup_relabel_local S.tgt)) _ s6 _ H6 y6 u (fun σ' H' => σ' = some y6 :: (ks.map fun k => σ.getD k none) ∧ H' = H6) I6' r6 ⟨rfl, rfl⟩) fun _ s7 ⟨σ7, H7, I7, e7, e7'⟩ => ?_
   subst e7 e7'
   have again : ∀ {σ' : St} {H' : Hp} {s' : Shared}, Inv (blk X scope (x :: caps) cl fp s2 H2 G2.objs.size) ([] ++ pinsAt fp s6.heap) σ' H' s' → tn (i + 1) s'.heap ∧ ∀ b ∈ fp, H' b = none := fun {σ' H' s'} J' => by
    refine ⟨T.keep _ _ _ st6 fun b hb o e => (J'.pin (b, o) (List.mem_append_right _ (List.mem_append_right _ (xQ4 hb e)))).1, fun b hb => ?_⟩
    obtain ⟨o, e, d⟩ := T.obj _ _ st6 b hb
    exact (J'.pin (b, o) (List.mem_append_right _ (List.mem_append_right _ (xQ4 hb e)))).2.1
   refine thnE (ht cl fp s2 H2 G2.objs.size _ s7 _ H7 _ I7 (step y6 H7 yl6)) fun b s8 ⟨H8, I8, q8⟩ => ?_
   cases b with
   | false =>
    rw [if_neg Bool.false_ne_true] at q8
    obtain ⟨m', hm, w8⟩ := hN _ _ q8
    rw [if_neg Bool.false_ne_true]
    obtain ⟨a1, a2⟩ := again I8
    exact ⟨m', hm, i + 1, _, ys, H8, I8.unpinned, a1, a2, w8⟩
   | true =>
    rw [if_pos rfl] at q8
    rw [if_pos rfl]
    refine thnE (he cl fp s2 H2 G2.objs.size _ s8 _ H8 _ I8 q8) fun yv s9 ⟨y9, H9, I9, r9, hD9, hz9, n9⟩ => ?_
    obtain ⟨m', hm, w9⟩ := hN _ _ n9
    refine thnE (vV4 (X := blk X scope (x :: caps) cl fp s2 H2 G2.objs.size) _ s9 _ H9 (.ref s2.heap.objs.size) [y9] (.ref s2.heap.objs.size) [yv] (fun _ H' => H' = upd H9 s2.heap.objs.size (.lst (ys ++ [y9]))) I9 rfl (.cons r9 .nil) ⟨_, ys, y9, rfl, rfl, hD9, hz9, rfl⟩) fun _ s10 ⟨_, H10, I10, _, e10⟩ => ?_
    subst e10
    obtain ⟨a1, a2⟩ := again I10
    exact ⟨m', hm, i + 1, _, _, _, I10.unpinned, a1, a2, w9⟩
 exact codeAny_compStart_list (loop _ rfl) (T.self _ _ _ _ _ st3 (loop _ rfl))
def tComp (wi : TI) (ks : List Nat) (tt : TT) (te : TE) : TE := fun σ H Q => wi σ H fun J H1 => tCompW J tt te (ks.map fun k => σ.getD k none) Q H1
theorem pe_comp {X : Cx} {elt iter : Expr} {x : Str} {px pos : Pos} {ifs : List Expr} {scope : Scope} {wi : TI} {tt : TT} {te : TE} (ks : List Nat) (caps : List Str)
  (hc : X.calm = true) (hS : vV9 X.env.scope X.N scope x ks caps = true) (hi : PI X (.Name x px) iter wi)
  (ht : ∀ cl fp s₂ H₂ C, PTs (blk X scope (x :: caps) cl fp s₂ H₂ C) ifs tt) (he : ∀ cl fp s₂ H₂ C, PE (blk X scope (x :: caps) cl fp s₂ H₂ C) elt te)
  (hs : ∀ v, foldedSetIterable iter X.env v = pure v := by intro _; rfl) : PE X (.ListComp elt [⟨.Name x px, iter, ifs, 0⟩] scope pos) (tComp wi ks tt te) := by
 intro pins s σ H Q I h
 rw [eval_ListComp]
 exact comp_core (use := none) (R := Q) hc (CScope.of hS) hi ht he hs I h (fun _ D H' s' I' q => ⟨.ref D, H', I', rfl, q⟩) fun u e => by cases e
theorem ps_setc {X : Cx} {elt iter : Expr} {x y : Str} {px py pos spos : Pos} {ifs : List Expr} {scope : Scope} {wi : TI} {tt : TT} {te : TE} {i : Nat} (ks : List Nat) (caps : List Str)
  (hN : X.N.Nodup) (hi' : X.N[i]? = some y) (hy : X.env.scope.names.lookup y = some .local)
  (hc : X.calm = true) (hS : vV9 X.env.scope X.N scope x ks caps = true) (hi : PI X (.Name x px) iter wi)
  (ht : ∀ cl fp s₂ H₂ C, PTs (blk X scope (x :: caps) cl fp s₂ H₂ C) ifs tt) (he : ∀ cl fp s₂ H₂ C, PE (blk X scope (x :: caps) cl fp s₂ H₂ C) elt te)
  (hsw : swapsWith (.ListComp elt [⟨.Name x px, iter, ifs, 0⟩] scope pos) (some (.Name y py)) spos.line X.env = pure true)
  (hs : ∀ v, foldedSetIterable iter X.env v = pure v := by intro _; rfl) : PS X (.Assign [.Name y py] (.ListComp elt [⟨.Name x px, iter, ifs, 0⟩] scope pos) spos) (tAsg (tComp wi ks tt te) (yQ8 i)) := by
 intro pins s σ H D I h
 rw [exec_Assign_Name_used _ _ _ _ hsw]
 refine wpAny_bind (wpAny_standAt (wpAny_bind ?_))
 show wpAny _ X.A (do let _ ← comprehension (.ListComp elt [⟨.Name x px, iter, ifs, 0⟩] scope pos) scope X.env _ (newList []) false (eval iter X.env) (some (assign (.Name y py) X.env))) _ _ s
 refine wpAny_bind (thn (comp_core (use := some (assign (.Name y py) X.env)) (Qr := fun _ s' => SP X pins D .next s') (R := fun v H' => yQ8 i v σ H' D.nx) hc (CScope.of hS) hi ht he hs I h (fun e => by cases e) fun u e D' H' s' C I' q G ⟨m, hn⟩ => ?_) fun _ s' q => wpAny_pure (wpAny_pure q))
 cases e
 refine wpAny_assign_Name (store_ok2 I' hN hi' (.inl hy) (v := .ref D') (show RelV (.ref D') (.ref D') from rfl) (fun s'' I'' ⟨a, sb, ha⟩ => ?_) (.inr hy))
 have hCa : C ≠ a := by
  rcases ha with z | z
  ·rw [z]; exact G.loc
  ·exact Ne.symm (G.cells _ _ z)
 exact ⟨m, hn.sameBut sb hCa, fun h' sb' => ⟨_, H', G.inv I'' sb', q⟩⟩
theorem yV2 {K : PySem.W.Frag} {a : Addr} {xs : List V} {tt : TT} {te : TE} {cv : List (Option V)} {Q : VK} {H1 : Hp} (Pv : Addr → Nat → List V → Hp → Prop) (h0 : ∀ D, H1 D = none → Pv D 0 [] (upd H1 D (.lst [])))
  (hl : ∀ D i ys H, H1 D = none → i ≤ xs.length → Pv D i ys H → H D = some (.lst ys) ∧ SqL K H a xs)
  (hs : ∀ D i x ys H, H1 D = none → xs[i]? = some x → Pv D i ys H → tt (some x :: cv) H fun b H2 => if b = true then te (some x :: cv) H2 (fun y H3 => H3 D = some (.lst ys) ∧ ys.length < sizeLine ∧ Pv D (i + 1) (ys ++ [y]) (upd H3 D (.lst (ys ++ [y])))) else Pv D (i + 1) ys H2)
  (hd : ∀ D ys H, H1 D = none → Pv D xs.length ys H → Q (.ref D) H) : tCompW (Itl K a) tt te cv Q H1 := fun D hD => by
 refine ⟨fun i m ys H => m = xs.length - i ∧ i ≤ xs.length ∧ Pv D i ys H, ⟨xs.length, by simp, Nat.zero_le _, h0 D hD⟩, ?_⟩
 rintro i m ys H ⟨rfl, hi, p⟩
 obtain ⟨q1, q2⟩ := hl D i ys H hD hi p
 refine ⟨q1, ?_⟩
 by_cases hlt : i < xs.length
 ·refine .inr ⟨⟨xs, xs[i], q2, by simp [hlt]⟩, Pv D (i + 1), fun ys' H' p' => ⟨xs.length - (i + 1), by omega, rfl, hlt, p'⟩, fun x H' y => ?_⟩
  obtain ⟨e, y⟩ := y
  subst e
  exact hs D i x ys _ hD (y xs q2) p
 ·have e : i = xs.length := by omega
  subst e
  exact .inl ⟨⟨xs, q2, Nat.le_refl _⟩, hd D ys H hD p⟩
theorem yW5 {lo : Int} {n : Nat} {tt : TT} {te : TE} {cv : List (Option V)} {Q : VK} {H1 : Hp} (Pv : Addr → Nat → List V → Hp → Prop) (h0 : ∀ D, H1 D = none → Pv D 0 [] (upd H1 D (.lst [])))
  (hl : ∀ D i ys H, H1 D = none → i ≤ n → Pv D i ys H → H D = some (.lst ys))
  (hs : ∀ D i ys H, H1 D = none → i < n → Pv D i ys H → tt (some (.int (lo + i)) :: cv) H fun b H2 => if b = true then te (some (.int (lo + i)) :: cv) H2 (fun y H3 => H3 D = some (.lst ys) ∧ ys.length < sizeLine ∧ Pv D (i + 1) (ys ++ [y]) (upd H3 D (.lst (ys ++ [y])))) else Pv D (i + 1) ys H2)
  (hd : ∀ D ys H, H1 D = none → Pv D n ys H → Q (.ref D) H) : tCompW (Itr lo n) tt te cv Q H1 := fun D hD => by
 refine ⟨fun i m ys H => m = n - i ∧ i ≤ n ∧ Pv D i ys H, ⟨n, by simp, Nat.zero_le _, h0 D hD⟩, ?_⟩
 rintro i m ys H ⟨rfl, hi, p⟩
 refine ⟨hl D i ys H hD hi p, ?_⟩
 by_cases hlt : i < n
 ·refine .inr ⟨hlt, Pv D (i + 1), fun ys' H' p' => ⟨n - (i + 1), by omega, rfl, hlt, p'⟩, fun x H' y => ?_⟩
  obtain ⟨e, y⟩ := y
  subst e y
  exact hs D i ys _ hD hlt p
 ·have e : i = n := by omega
  subst e
  exact .inl ⟨Nat.le_refl _, hd D ys H hD p⟩
end L3
namespace L3
open PySem PySem.Spec L2
open PyProof.Rows hiding St
mutual
def RepD (K : PySem.W.Frag) (H : Hp) : PyData → V → Prop
 | .none, v => v = .non
 | .bool b, v => v = .bl b
 | .int i, v => v = .int i
 | .str x, v => v = .str x
 | .tuple ds, v => ∃ a xs, v = .ref a ∧ SqT K H a xs ∧ xU3 K H ds xs
 | .list ds, v => ∃ a xs, v = .ref a ∧ SqL K H a xs ∧ xU3 K H ds xs
 | .dict _, _ => False
def xU3 (K : PySem.W.Frag) (H : Hp) : List PyData → List V → Prop
 | [], xs => xs = []
 | d :: ds, xs => ∃ x r, xs = x :: r ∧ RepD K H d x ∧ xU3 K H ds r
end
section
variable {X : Cx} {pins : List (Addr × Obj)} {σ : St} {H : Hp} {s : Shared}
mutual
theorem RepD.reads (I : Inv X pins σ H s) : ∀ (d : PyData) (v : V) (u : Value), RepD X.K H d v → RelV v u → ∃ as, Reads s.heap u d as
 | .none, v, u, h, r => by
  have h : v = .non := by simpa only [RepD] using h
  subst h; cases r; exact ⟨_, .none⟩
 | .bool b, v, u, h, r => by
  have h : v = .bl b := by simpa only [RepD] using h
  subst h; cases r; exact ⟨_, .bool b⟩
 | .int i, v, u, h, r => by
  have h : v = .int i := by simpa only [RepD] using h
  subst h; obtain ⟨t, rfl⟩ := r; exact ⟨_, .int i t⟩
 | .str x, v, u, h, r => by
  have h : v = .str x := by simpa only [RepD] using h
  subst h; obtain ⟨t, rfl⟩ := r; exact ⟨_, .str x t⟩
 | .tuple ds, v, u, h, r => by
  obtain ⟨a, xs, rfl, q, rs⟩ : ∃ a xs, v = .ref a ∧ SqT X.K H a xs ∧ xU3 X.K H ds xs := by simpa only [RepD] using h
  cases r
  obtain ⟨its, rv, ⟨o, ho, hc, n, hd⟩, _⟩ := I.tuple q
  obtain ⟨as, ra⟩ := xU3.reads I ds xs its rs rv
  exact ⟨_, .tuple ho hc hd (by simpa using ra)⟩
 | .list ds, v, u, h, r => by
  obtain ⟨a, xs, rfl, q, rs⟩ : ∃ a xs, v = .ref a ∧ SqL X.K H a xs ∧ xU3 X.K H ds xs := by simpa only [RepD] using h
  cases r
  obtain ⟨its, rv, p, _⟩ := I.list q
  obtain ⟨o, ho, hc, n, hd⟩ := p.isList
  obtain ⟨as, ra⟩ := xU3.reads I ds xs its rs rv
  exact ⟨_, .list ho hc hd (by simpa using ra)⟩
 | .dict _, v, u, h, r => by
  have h : False := by simpa only [RepD] using h
  exact h.elim
theorem xU3.reads (I : Inv X pins σ H s) : ∀ (ds : List PyData) (xs : List V) (us : List Value), xU3 X.K H ds xs → Vals xs us → ∃ as, ReadsAll s.heap us ds as
 | [], xs, us, h, r => by
  have h : xs = [] := by simpa only [xU3] using h
  subst h; cases r; exact ⟨_, .nil⟩
 | d :: ds, xs, us, h, r => by
  obtain ⟨x, r', rfl, h1, h2⟩ : ∃ x r, xs = x :: r ∧ RepD X.K H d x ∧ xU3 X.K H ds r := by simpa only [xU3] using h
  cases r with
  | cons p q =>
   obtain ⟨as, ra⟩ := RepD.reads I d _ _ h1 p
   obtain ⟨bs, rb⟩ := xU3.reads I ds _ _ h2 q
   exact ⟨_, .cons ra rb⟩
end
structure Imm (H H' : Hp) : Prop where
 tup : ∀ b xs, H b = some (.tup xs) → H' b = some (.tup xs)
 frz : ∀ b o u, H b = some (.frz o u) → H' b = some (.frz o u)
theorem _root_.L2.Same.imm {H H' : Hp} (e : Same H H') : Imm H H' := ⟨fun _ _ h => e _ _ h, fun _ _ _ h => e _ _ h⟩
theorem Imm.sqT {K : PySem.W.Frag} {H H' : Hp} (e : Imm H H') {a : Addr} {xs : List V} (h : SqT K H a xs) : SqT K H' a xs := by
 rcases h with (h | ⟨o, h⟩) | h
 ·exact .inl (.inl (e.tup _ _ h))
 ·exact .inl (.inr ⟨o, e.frz _ _ _ h⟩)
 ·exact .inr h
theorem _root_.L2.Same.sqT {K : PySem.W.Frag} {H H' : Hp} (e : Same H H') {a : Addr} {xs : List V} (h : SqT K H a xs) : SqT K H' a xs := e.imm.sqT h
theorem xU4 {H : Hp} {p : Addr} {o : HO} (h : H p = none) : Same H (upd H p o) := fun b u e => by rw [xU2 (yV8 e h)]; exact e
theorem xX5 {H : Hp} {p : Addr} {xs ys : List V} (h : H p = some (.lst xs)) : Imm H (upd H p (.lst ys)) :=
 ⟨fun b zs e => by rw [xU2 (ne_of e h (by intro z; cases z))]; exact e, fun b o u e => by rw [xU2 (ne_of e h (by intro z; cases z))]; exact e⟩
theorem vW5 {H : Hp} {p C dx C' dx' : Addr} {fs gs : List (Str × V)} (h : H p = some (.ins C dx fs)) : Imm H (upd H p (.ins C' dx' gs)) :=
 ⟨fun b zs e => by rw [xU2 (ne_of e h (by intro z; cases z))]; exact e, fun b o u e => by rw [xU2 (ne_of e h (by intro z; cases z))]; exact e⟩
mutual
def yZ6 : PyData → Bool
 | .none | .bool _ | .int _ | .str _ => true
 | .tuple ds => xW1 ds
 | _ => false
def xW1 : List PyData → Bool
 | [] => true
 | d :: ds => yZ6 d && xW1 ds
end
mutual
theorem RepD.imm {K : PySem.W.Frag} {H H' : Hp} (e : Imm H H') : ∀ (d : PyData) (v : V), yZ6 d = true → RepD K H d v → RepD K H' d v
 | .none, v, _, h => by simpa only [RepD] using h
 | .bool b, v, _, h => by simpa only [RepD] using h
 | .int i, v, _, h => by simpa only [RepD] using h
 | .str x, v, _, h => by simpa only [RepD] using h
 | .tuple ds, v, n, h => by
  obtain ⟨a, xs, rfl, q, rs⟩ : ∃ a xs, v = .ref a ∧ SqT K H a xs ∧ xU3 K H ds xs := by simpa only [RepD] using h
  simp only [RepD]
  exact ⟨a, xs, rfl, e.sqT q, xU3.imm e ds xs (by simpa only [yZ6] using n) rs⟩
 | .list ds, v, n, h => by simp [yZ6] at n
 | .dict _, v, n, h => by simp [yZ6] at n
theorem xU3.imm {K : PySem.W.Frag} {H H' : Hp} (e : Imm H H') : ∀ (ds : List PyData) (xs : List V), xW1 ds = true → xU3 K H ds xs → xU3 K H' ds xs
 | [], xs, _, h => by simpa only [xU3] using h
 | d :: ds, xs, n, h => by
  obtain ⟨x, r', rfl, h1, h2⟩ : ∃ x r, xs = x :: r ∧ RepD K H d x ∧ xU3 K H ds r := by simpa only [xU3] using h
  simp only [xW1, Bool.and_eq_true] at n
  simp only [xU3]
  exact ⟨x, r', rfl, RepD.imm e d x n.1 h1, xU3.imm e ds r' n.2 h2⟩
end
mutual
theorem RepD.same {K : PySem.W.Frag} {H H' : Hp} (e : Same H H') : ∀ (d : PyData) (v : V), RepD K H d v → RepD K H' d v
 | .none, v, h => by simpa only [RepD] using h
 | .bool b, v, h => by simpa only [RepD] using h
 | .int i, v, h => by simpa only [RepD] using h
 | .str x, v, h => by simpa only [RepD] using h
 | .tuple ds, v, h => by
  obtain ⟨a, xs, rfl, q, rs⟩ : ∃ a xs, v = .ref a ∧ SqT K H a xs ∧ xU3 K H ds xs := by simpa only [RepD] using h
  simp only [RepD]
  exact ⟨a, xs, rfl, e.sqT q, xU3.same e ds xs rs⟩
 | .list ds, v, h => by
  obtain ⟨a, xs, rfl, q, rs⟩ : ∃ a xs, v = .ref a ∧ SqL K H a xs ∧ xU3 K H ds xs := by simpa only [RepD] using h
  simp only [RepD]
  exact ⟨a, xs, rfl, e.seq q, xU3.same e ds xs rs⟩
 | .dict _, v, h => by
  have h : False := by simpa only [RepD] using h
  exact h.elim
theorem xU3.same {K : PySem.W.Frag} {H H' : Hp} (e : Same H H') : ∀ (ds : List PyData) (xs : List V), xU3 K H ds xs → xU3 K H' ds xs
 | [], xs, h => by simpa only [xU3] using h
 | d :: ds, xs, h => by
  obtain ⟨x, r', rfl, h1, h2⟩ : ∃ x r, xs = x :: r ∧ RepD K H d x ∧ xU3 K H ds r := by simpa only [xU3] using h
  simp only [xU3]
  exact ⟨x, r', rfl, RepD.same e d x h1, xU3.same e ds r' h2⟩
end
def rEqD (K : PySem.W.Frag) (n : Nat) : R2 := fun x y H Q => ∃ d d', RepD K H d x ∧ RepD K H d' y ∧ d.canLay0 = true ∧ d'.canLay0 = true ∧ min d.depth d'.depth ≤ n ∧ Q (.bl (PyData.eqv d d')) H
def rNeD (K : PySem.W.Frag) (n : Nat) : R2 := fun x y H Q => ∃ d d', RepD K H d x ∧ RepD K H d' y ∧ d.canLay0 = true ∧ d'.canLay0 = true ∧ min d.depth d'.depth ≤ n ∧ Q (.bl (!PyData.eqv d d')) H
theorem op_eqD {n : Nat} (hu : X.A.units + n < cLine) : OpR X (compareOp .Eq) (rEqD X.K n) := by
 intro pins s σ H x y v u Q I rx ry h
 obtain ⟨d, d', h1, h2, c1, c2, hd, q⟩ := h
 obtain ⟨as, ra⟩ := RepD.reads I d x v h1 rx
 obtain ⟨bs, rb⟩ := RepD.reads I d' y u h2 ry
 exact SeqAt.compareEq_reads ra rb c1 c2 (by omega) ⟨.bl _, H, I, rfl, q⟩
theorem op_neD {n : Nat} (hu : X.A.units + n < cLine) : OpR X (compareOp .NotEq) (rNeD X.K n) := by
 intro pins s σ H x y v u Q I rx ry h
 obtain ⟨d, d', h1, h2, c1, c2, hd, q⟩ := h
 obtain ⟨as, ra⟩ := RepD.reads I d x v h1 rx
 obtain ⟨bs, rb⟩ := RepD.reads I d' y u h2 ry
 exact SeqAt.compareNe_reads ra rb c1 c2 (by omega) ⟨.bl _, H, I, rfl, q⟩
def rInD (K : PySem.W.Frag) (n : Nat) (neg : Bool) : R2 := fun x y H Q => ∃ d ds, RepD K H d x ∧ RepD K H (.list ds) y ∧ d.canLay0 = true ∧ PyData.canLayAll0 ds = true ∧ min (PyData.depthAll ds) d.depth ≤ n ∧
 Q (.bl (if neg then !ds.any fun y => PyData.eqv y d else ds.any fun y => PyData.eqv y d)) H
theorem op_inD {n : Nat} (hu : X.A.units + 1 + n < cLine) : OpR X (compareOp .In) (rInD X.K n false) := by
 intro pins s σ H x y v u Q I rx ry h
 obtain ⟨d, ds, h1, h2, c1, c2, hd, q⟩ := h
 obtain ⟨as, ra⟩ := RepD.reads I d x v h1 rx
 obtain ⟨bs, rb⟩ := RepD.reads I _ y u h2 ry
 exact SeqAt.in_list_reads rb ra c2 c1 (by omega) ⟨.bl _, H, I, rfl, q⟩
theorem op_notInD {n : Nat} (hu : X.A.units + 1 + n < cLine) : OpR X (compareOp .NotIn) (rInD X.K n true) := by
 intro pins s σ H x y v u Q I rx ry h
 obtain ⟨d, ds, h1, h2, c1, c2, hd, q⟩ := h
 obtain ⟨as, ra⟩ := RepD.reads I d x v h1 rx
 obtain ⟨bs, rb⟩ := RepD.reads I _ y u h2 ry
 exact SeqAt.notIn_list_reads rb ra c2 c1 (by omega) ⟨.bl _, H, I, rfl, q⟩
theorem truth_bools {P : Program} {w : World} {A : Around} {bs : List Bool} {its : List Value} (hv : Vals (bs.map V.bl) its) :
  TruthOf P w A (fun i v => its.toArray[i]? = some v) (fun i => bs.getD i false) := by
 intro i v s Q E hP hQ
 have hP' : its[i]? = some v := by simpa using hP
 have hl : (bs.map V.bl).length = its.length := hv.length
 have hi : i < its.length := (List.getElem?_eq_some_iff.mp hP').1
 have hi' : i < bs.length := by rw [List.length_map] at hl; omega
 obtain ⟨u, hu, ru⟩ := hv.get (i := i) (x := .bl (bs.getD i false)) (by simp [List.getElem?_map, List.getD_eq_getElem?_getD, List.getElem?_eq_getElem hi'])
 rw [hP'] at hu
 cases hu
 cases ru
 exact wpAny_truthy_bool hQ
theorem all_range {bs : List Bool} : (List.range bs.length).all (fun i => bs.getD i false) = bs.all id := by
 rw [Bool.eq_iff_iff]
 simp only [List.all_eq_true, List.mem_range, id]
 constructor
 ·intro h b hb
  obtain ⟨i, hi, rfl⟩ := List.mem_iff_getElem.mp hb
  have := h i hi
  simpa [List.getD_eq_getElem?_getD, List.getElem?_eq_getElem hi] using this
 ·intro h i hi
  have := h bs[i] (List.getElem_mem hi)
  simpa [List.getD_eq_getElem?_getD, List.getElem?_eq_getElem hi] using this
theorem boot_all : bootBuiltins "all" = some (.builtin "all") := by decide +kernel
theorem xV3 : bootBuiltins "isinstance" = some (.builtin "isinstance") := by decide +kernel
theorem yU4 : bootBuiltins "tuple" = some (.type "tuple") := by decide +kernel
theorem boot_bl : bootBuiltins "bool" = some (.type "bool") := by decide +kernel
theorem xY5 : bootBuiltins "list" = some (.type "list") := by decide +kernel
theorem boot_it : bootBuiltins "int" = some (.type "int") := by decide +kernel
theorem call_all (hc : X.calm = true) : CallR X (.builtin "all") (fun xs H Q => ∃ (p : Addr) (bs : List Bool), xs = [.ref p] ∧ SqL X.K H p (bs.map V.bl) ∧ Q (.bl (bs.all id)) H) := by
 intro pins s σ H xs us Q I r h
 obtain ⟨p, bs, rfl, hq, q⟩ := h
 obtain ⟨u, rfl, rx⟩ := vals1 r
 cases rx
 obtain ⟨its, rv, pl, hz⟩ := I.list hq
 have hlen := rv.length
 rw [List.length_map] at hlen
 obtain ⟨op, hop, _⟩ := pl.isList
 refine call_all_walk (wpAny_pyIter_list pl.isList ?_)
 refine ⟨s.heap.objs.size, _, _, _, _, _, fun i => bs.getD i false, rfl, Walks.list (A := X.A.in1) (show X.A.in1.handled = none from I.ok.hd hc) s.heap.objs.size p (Nat.ne_of_lt (Heap.lt_size hop)) its.toArray, ⟨⟨_, Heap.get?_push_size _ rfl, rfl, rfl⟩, by obtain ⟨o, ho, hh⟩ := pl.isList; exact ⟨o, Heap.get?_push_of_some _ ho, hh⟩⟩, truth_bools rv, fun h' tk kk => ?_⟩
 refine ⟨.bl _, H, I.kept (t' := tk) (h' := h') fun b o e => kk b o (by simp; exact Nat.ne_of_lt (Heap.lt_size e)) (Heap.get?_push_of_some _ e), ?_, q⟩
 rw [List.size_toArray, ← hlen, all_range]
 exact rfl
theorem ixT {X : Cx} (K : PySem.W.Frag) (h : X.K = K := by rfl) : IxR X (rIxT K) := h ▸ ix_tup
theorem ixL {X : Cx} (K : PySem.W.Frag) (h : X.K = K := by rfl) : IxR X (rIxL K) := h ▸ ix_list
theorem vV6 {k : Nat} {A : Around} (hr : Room k A) : A.units + 10 < cLine := by have := hr.units; omega
theorem room_in {k : Nat} {A : Around} (hr : Room k A) : A.units + 1 + 10 < cLine := by have := hr.units; omega
theorem xW2 {H H' : Hp} {p : Addr} {o : HO} (e : Same H H') (h : H p = none) : Same H (upd H' p o) := fun b u z => by rw [xU2 (yV8 z h)]; exact e b u z
end
end L3
namespace L3
open PySem PySem.Spec L2
open PyProof.Rows hiding St
section
variable {X : Cx}
theorem yX8 : CallR X (.builtin "isinstance") (fun xs H Q => ∃ x T t b, xs = [x, .ty T] ∧ TyOf X.K H x t ∧ PySem.W.kitOne X.K t (.type T) = some b ∧ Q (.bl b) H) := by
 intro pins s σ H xs us Q I r h
 obtain ⟨x, T, t, b, rfl, ty, e, q⟩ := h
 obtain ⟨u, v, rfl, ru, rv⟩ := vals2 r
 obtain rfl : v = Value.type T := rv
 exact isinst_ok I ru ty e fun tk => ⟨.bl b, H, I.tok tk, rfl, q⟩
theorem kit_bool {K : PySem.W.Frag} : PySem.W.kitOne K (.type "bool") (.type "bool") = some true := rfl
theorem kit_int {K : PySem.W.Frag} : PySem.W.kitOne K (.type "int") (.type "int") = some true := rfl
end
end L3
namespace L3
open PySem PySem.Spec L2
open PyProof.Rows hiding St
def seenB (N : List Str) (sc : Scope) : Bool := N.all fun x => (sc.names.lookup x == some .local || sc.names.lookup x == some .cell || sc.names.lookup x == some .free) && !(x == ("__debug__" : Str)) && !(x == ("__classdict__" : Str))
def ownB (N : List Str) (sc : Scope) : Bool := seenB N sc && decide N.Nodup && N.all fun x => sc.names.lookup x == some .local || sc.names.lookup x == some .cell
structure Seen (X : Cx) : Prop where
 vis : ∀ (i : Nat) x, X.N[i]? = some x → Vis X.env.scope x ∧ (x == ("__debug__" : Str)) = false ∧ (x == ("__classdict__" : Str)) = false
structure Own (X : Cx) : Prop extends Seen X where
 nd : X.N.Nodup
 loc : ∀ (i : Nat) x, X.N[i]? = some x → Loc X.env.scope x
theorem Seen.of {X : Cx} (h : seenB X.N X.env.scope = true) : Seen X := ⟨fun i x e => by
 have := List.all_eq_true.mp h x (List.mem_of_getElem? e)
 simp only [Bool.and_eq_true, Bool.or_eq_true, beq_iff_eq, Bool.not_eq_true'] at this
 obtain ⟨⟨h1, h2⟩, h3⟩ := this
 refine ⟨?_, h2, h3⟩
 rcases h1 with (h | h) | h
 ·exact .inl h
 ·exact .inr (.inl h)
 ·exact .inr (.inr h)⟩
theorem Own.of {X : Cx} (h : ownB X.N X.env.scope = true) : Own X := by
 unfold ownB at h
 rw [Bool.and_eq_true, Bool.and_eq_true] at h
 refine ⟨Seen.of h.1.1, of_decide_eq_true h.1.2, fun i x e => ?_⟩
 have := List.all_eq_true.mp h.2 x (List.mem_of_getElem? e)
 simp only [Bool.or_eq_true, beq_iff_eq] at this
 exact this
def isStar : Expr → Bool
 | .Starred _ _ => true
 | _ => false
def isSlc : Expr → Bool
 | .Slice _ _ _ _ => true
 | _ => false
def isComp : Expr → Bool
 | .ListComp _ _ _ _ => true
 | .SetComp _ _ _ _ => true
 | .DictComp _ _ _ _ _ => true
 | _ => false
def xZ7 : List Expr → Bool
 | [] => true
 | e :: es => !isStar e && xZ7 es
theorem xY4 {e : Expr} {es : List Expr} {env : Env} (h : isStar e = false) : starEach (e :: es) env = (false, eval e env) :: starEach es env := by
 cases e <;> first | rfl | cases h
theorem yW8 {pos : Pos} {env : Env} : ∀ {es : List Expr}, xZ7 es = true → (backTo pos (starEach es env)).any (·.1) = false
 | [], _ => rfl
 | e :: es, h => by
  simp only [xZ7, Bool.and_eq_true, Bool.not_eq_true'] at h
  rw [xY4 h.1]
  show (false || (backTo pos (starEach es env)).any (·.1)) = false
  rw [yW8 h.2]
  rfl
theorem back_all {pos : Pos} {env : Env} : ∀ {es : List Expr}, xZ7 es = true → (backTo pos (starEach es env)).all (fun x => !x.1) = true
 | [], _ => rfl
 | e :: es, h => by
  simp only [xZ7, Bool.and_eq_true, Bool.not_eq_true'] at h
  rw [xY4 h.1]
  show (!false && (backTo pos (starEach es env)).all (fun x => !x.1)) = true
  rw [back_all h.2]
  rfl
theorem swaps_no {e : Expr} {t : Option Expr} {l : Nat} {env : Env} (h : isComp e = false) : swapsWith e t l env = pure false := by
 cases e <;> first | rfl | cases h
theorem plain_ix {b : Expr} (h : isSlc b = false) : PlainIx b := by
 intro o i
 cases b <;> first | rfl | cases h
theorem few_of {pos : Pos} {env : Env} {e : Expr} {es : List Expr} (h : xZ7 (e :: es) = true) (hl : (e :: es).length < 20) :
  ((backTo pos (starEach (e :: es) env)).all (fun x => !x.1) && (backToKw pos (keywordEach [] env)).all (fun x => x.1.isSome)
   && decide ((e :: es).length + ([] : List Keyword).length + (if ([] : List Keyword).isEmpty then 0 else 1) < 30)) = true := by
 rw [back_all h]
 simp only [Bool.true_and, Bool.and_eq_true]
 refine ⟨rfl, decide_eq_true ?_⟩
 simp only [List.length_cons, List.length_nil, List.isEmpty_nil, if_true] at hl ⊢
 omega
section
variable {X : Cx}
theorem Seen.v (S : Seen X) (i : Nat) {x : Str} {pos : Pos} (hN : X.N[i]? = some x := by rfl) : PE X (.Name x pos) (tVar i) := pe_var hN (S.vis i x hN).1 (S.vis i x hN).2.1 (S.vis i x hN).2.2
theorem Own.v (S : Own X) (i : Nat) {x : Str} {pos : Pos} (hN : X.N[i]? = some x := by rfl) : PE X (.Name x pos) (tVar i) := S.toSeen.v i hN
theorem Own.set (S : Own X) (i : Nat) {x : Str} {e : Expr} {te : TE} {pos pos' : Pos} (he : PE X e te) (hN : X.N[i]? = some x := by rfl) (hs : isComp e = false := by rfl) (hf : X.fn x = true := by rfl) :
  PS X (.Assign [.Name x pos'] e pos) (tAsg te (yQ8 i)) := ps_set S.nd hN (S.loc i x hN) he (swaps_no hs) (.inl hf)
theorem Own.tg (S : Own X) (i : Nat) {x : Str} {pos : Pos} (hN : X.N[i]? = some x := by rfl) (hf : X.fn x = true := by rfl) : PG X (.Name x pos) (yQ8 i) := pg_name S.nd hN (S.loc i x hN) (.inl hf)
def glB (sc : Scope) (x : Str) : Bool := (sc.names.lookup x == some .globalImplicit) && !(x == ("__name__" : Str)) && !(x == ("__debug__" : Str))
theorem yV0 {x : Str} (h : glB X.env.scope x = true) : Gl X x ∧ x ≠ "__name__" ∧ (x == ("__debug__" : Str)) = false := by
 unfold glB at h
 simp only [Bool.and_eq_true, beq_iff_eq, Bool.not_eq_true'] at h
 refine ⟨h.1.1, fun e => ?_, h.2⟩
 have := h.1.2
 rw [e] at this
 simp at this
theorem cB {x : Str} {p pos : Pos} {e : Expr} {es : List Expr} {t : TA} {id : String} {r : List V → Hp → VK → Prop} (hc : CallR X (.builtin id) r) (hm : X.mg x = none) (hv : bootBuiltins x = some (.builtin id)) (ha : PA X (e :: es) t) (hg : glB X.env.scope x = true := by kernel_rfl)
  (h1 : isStar e = false := by rfl) (h2 : xZ7 es = true := by rfl) : PE X (.Call (.Name x p) (e :: es) [] pos) (tCB r t) :=
 pe_callB hc (yV0 hg).1 hm hv ha (yV0 hg).2.1 (yV0 hg).2.2 (xY4 h1) (yW8 h2)
theorem cT {x : Str} {p pos : Pos} {e : Expr} {es : List Expr} {t : TA} {T : String} {r : List V → Hp → VK → Prop} (hc : CallR X (.type T) r) (hm : X.mg x = none) (hv : bootBuiltins x = some (.type T)) (ha : PA X (e :: es) t) (hg : glB X.env.scope x = true := by kernel_rfl)
  (h1 : isStar e = false := by rfl) (h2 : xZ7 es = true := by rfl) : PE X (.Call (.Name x p) (e :: es) [] pos) (tCB r t) :=
 pe_callTy hc (yV0 hg).1 hm hv ha (yV0 hg).2.1 (yV0 hg).2.2 (xY4 h1) (yW8 h2)
theorem cF {CX : CXT} {k : Nat} {f : Addr} {fd : FuncData} {ps : List Str} {sp : Sp} {ds : List Value} {dvs : List V} {E : XK} {x : Str} {p pos : Pos} {e : Expr} {es : List Expr} {t : TA}
  (F : FnOk X.prog X.w X.K X.mg X.base CX k f fd ps sp) (hr : Room k X.A) (hm : X.mg x = some (.ref f)) (hk : PySem.W.keepIn X.K (.ref f) = true) (hb : Binds X.K fd ps ds) (hd : Vals dvs ds) (hx : vU9 CX X E) (ha : PA X (e :: es) t) (hg : glB X.env.scope x = true := by kernel_rfl)
  (h1 : isStar e = false := by rfl) (h2 : xZ7 es = true := by rfl) : PE X (.Call (.Name x p) (e :: es) [] pos) (tCall sp dvs E t) :=
 pe_call F hr (yV0 hg).1 hm hk hb hd hx ha (yV0 hg).2.2 (xY4 h1) (yW8 h2)
theorem nT {x : Str} {T : String} {pos : Pos} (hm : X.mg x = none) (hv : bootBuiltins x = some (.type T)) (hg : glB X.env.scope x = true := by kernel_rfl) : PE X (.Name x pos) (tC (.ty T)) :=
 pe_bltn (yV0 hg).1 hm hv (v := .ty T) rfl (yV0 hg).2.1 (yV0 hg).2.2
theorem rng1 {tg a : Expr} {ta : TA} {p pos : Pos} (hm : X.mg "range" = none) (ha : PA X [a] ta) (hg : glB X.env.scope "range" = true := by kernel_rfl) (h1 : isStar a = false := by rfl) : PI X tg (.Call (.Name "range" p) [a] [] pos) (iRng1 ta) :=
 pi_range1 (yV0 hg).1 hm ha (xY4 h1)
theorem aC {e : Expr} {es : List Expr} {te : TE} {t : TA} (ha : PE X e te) (hr : PA X es t) (h1 : isStar e = false := by rfl) : PA X (e :: es) (tCons te t) := pa_cons ha hr (xY4 h1)
theorem iX {r : R2} {a b : Expr} {ta tb : TE} {pos : Pos} (hr : IxR X r) (ha : PE X a ta) (hb : PE X b tb) (h1 : isSlc b = false := by rfl) : PE X (.Subscript a b pos) (tOp r ta tb) := pe_ix hr ha hb (plain_ix h1)
theorem bM {o e : Expr} {es : List Expr} {to : TE} {t : TA} {name : Str} {apos cpos : Pos} {T id : String} {r : V → List V → Hp → VK → Prop} (pa : PlainAttrs T) (slot : Slot T name id) (hty : typeOf (.builtin id) = pure (.type "method_descriptor")) (hm : MtR X id r) (ho : PE X o to) (ha : PA X (e :: es) t)
  (hbase : attributeBase o name X.env (eval o X.env) = eval o X.env := by rfl) (h1 : xZ7 (e :: es) = true := by rfl) (hl : (e :: es).length < 20 := by decide)
  (hline : (apos.endLine == cpos.line) = true := by rfl) : PE X (.Call (.Attribute o name apos) (e :: es) [] cpos) (tBM X.K T r to t) := by
 have h2 : isStar e = false ∧ xZ7 es = true := by simpa [xZ7] using h1
 exact pe_bm pa slot hty hm ho ha hbase (few_of h1 hl) hline (xY4 h2.1) (yW8 h2.2)
theorem mApp {o e : Expr} {to te : TE} {apos cpos : Pos} (ho : PE X o to) (ha : PE X e te) (hbase : attributeBase o "append" X.env (eval o X.env) = eval o X.env := by rfl) (h1 : isStar e = false := by rfl) (hline : (apos.endLine == cpos.line) = true := by rfl) :
  PE X (.Call (.Attribute o "append" apos) [e] [] cpos) (tBM X.K "list" rAppend to (tCons te tNil)) :=
 bM PySem.F.plainAttrs_list PySem.F.slot_list_append PySem.F.type_list_append vV4 ho (aC ha xU7 h1) hbase (by simp [xZ7, h1]) (by show 1 < 20; decide) hline
theorem oV (B : ownB X.N X.env.scope = true) (i : Nat) {x : Str} {pos : Pos} (hN : X.N[i]? = some x := by rfl) : PE X (.Name x pos) (tVar i) := (Own.of B).v i hN
theorem oS (B : ownB X.N X.env.scope = true) (i : Nat) {x : Str} {e : Expr} {te : TE} {pos pos' : Pos} (he : PE X e te) (hN : X.N[i]? = some x := by rfl) (hs : isComp e = false := by rfl) (hf : X.fn x = true := by rfl) :
  PS X (.Assign [.Name x pos'] e pos) (tAsg te (yQ8 i)) := (Own.of B).set i he hN hs hf
theorem oT (B : ownB X.N X.env.scope = true) (i : Nat) {x : Str} {pos : Pos} (hN : X.N[i]? = some x := by rfl) (hf : X.fn x = true := by rfl) : PG X (.Name x pos) (yQ8 i) := (Own.of B).tg i hN hf
theorem sV (i : Nat) {x : Str} {pos : Pos} (hN : X.N[i]? = some x := by rfl) (B : seenB X.N X.env.scope = true := by kernel_rfl) : PE X (.Name x pos) (tVar i) := (Seen.of B).v i hN
theorem oC {elt iter : Expr} {x y : Str} {px py pos spos : Pos} {ifs : List Expr} {scope : Scope} {wi : TI} {tt : TT} {te : TE} (B : ownB X.N X.env.scope = true) (i : Nat) (ks : List Nat) (caps : List Str)
  (hc : X.calm = true) (hi : PI X (.Name x px) iter wi)
  (ht : ∀ cl fp s₂ H₂ C, PTs (blk X scope (x :: caps) cl fp s₂ H₂ C) ifs tt) (he : ∀ cl fp s₂ H₂ C, PE (blk X scope (x :: caps) cl fp s₂ H₂ C) elt te) (hN : X.N[i]? = some y := by rfl)
  (hy : (X.env.scope.names.lookup y == some .local) = true := by kernel_rfl) (hS : vV9 X.env.scope X.N scope x ks caps = true := by kernel_rfl)
  (hsw : swapsWith (.ListComp elt [⟨.Name x px, iter, ifs, 0⟩] scope pos) (some (.Name y py)) spos.line X.env = pure true := by kernel_rfl)
  (hs : ∀ v, foldedSetIterable iter X.env v = pure v := by intro _; rfl) : PS X (.Assign [.Name y py] (.ListComp elt [⟨.Name x px, iter, ifs, 0⟩] scope pos) spos) (tAsg (tComp wi ks tt te) (yQ8 i)) :=
 ps_setc ks caps (Own.of B).nd hN (beq_iff_eq.mp hy) hc hS hi ht he hsw hs
theorem eC {elt iter : Expr} {x : Str} {px pos : Pos} {ifs : List Expr} {scope : Scope} {wi : TI} {tt : TT} {te : TE} (ks : List Nat) (caps : List Str)
  (hc : X.calm = true) (hi : PI X (.Name x px) iter wi)
  (ht : ∀ cl fp s₂ H₂ C, PTs (blk X scope (x :: caps) cl fp s₂ H₂ C) ifs tt) (he : ∀ cl fp s₂ H₂ C, PE (blk X scope (x :: caps) cl fp s₂ H₂ C) elt te) (hS : vV9 X.env.scope X.N scope x ks caps = true := by kernel_rfl)
  (hs : ∀ v, foldedSetIterable iter X.env v = pure v := by intro _; rfl) : PE X (.ListComp elt [⟨.Name x px, iter, ifs, 0⟩] scope pos) (tComp wi ks tt te) := pe_comp ks caps hc hS hi ht he hs
end
theorem okB {P : Program} {w : World} {K : PySem.W.Frag} {mg : Str → Option Value} {base : Heap} {x qual : Str} {st : Stmt} {f : Addr} {fd : FuncData} {N ps : List Str} {k : Nat} {sp : Sp} {body : List Stmt} (F : Fun K x qual st f fd) (S : FnScope N ps (defScope st)) (len : ∀ vs H Q E, sp vs H Q E → vs.length = ps.length)
  (hb : defBody st = body)
  (hbody : ∀ (cdv : Value) (A : Around) (outer : List Env) (s : Shared) (H : Hp) (vs : List V) (Q : VK) (E : XK), Room k (A.deeper (envOfC qual (defScope st) s.heap.objs.size f cdv)) → sp vs H Q E →
   ∃ t, PSs (cxOf CX0 P w K mg base N qual (defScope st) f cdv A outer s H E).nox body t ∧ t { nx := fun _ H' => Q .non H', rt := Q } (L2.start N vs) H) : FnOk P w K mg base CX0 (k + 1) f fd ps sp :=
 F.ok S len fun cdv A outer s H vs Q E hr h => by rw [hb]; exact hbody cdv A outer s H vs Q E hr h
theorem cut2 {a1 a2 : TS} {D : Ends} {σ : L2.St} {H : Hp} (h : let r1 := a2; tSeq a1 r1 D σ H) : tSeq a1 a2 D σ H := h
theorem cut3 {a1 a2 a3 : TS} {D : Ends} {σ : L2.St} {H : Hp} (h : let r2 := a3; let r1 := tSeq a2 r2; tSeq a1 r1 D σ H) : tSeq a1 (tSeq a2 a3) D σ H := h
theorem cut4 {a1 a2 a3 a4 : TS} {D : Ends} {σ : L2.St} {H : Hp} (h : let r3 := a4; let r2 := tSeq a3 r3; let r1 := tSeq a2 r2; tSeq a1 r1 D σ H) : tSeq a1 (tSeq a2 (tSeq a3 a4)) D σ H := h
theorem cut5 {a1 a2 a3 a4 a5 : TS} {D : Ends} {σ : L2.St} {H : Hp} (h : let r4 := a5; let r3 := tSeq a4 r4; let r2 := tSeq a3 r3; let r1 := tSeq a2 r2; tSeq a1 r1 D σ H) : tSeq a1 (tSeq a2 (tSeq a3 (tSeq a4 a5))) D σ H := h
theorem cut6 {a1 a2 a3 a4 a5 a6 : TS} {D : Ends} {σ : L2.St} {H : Hp} (h : let r5 := a6; let r4 := tSeq a5 r5; let r3 := tSeq a4 r4; let r2 := tSeq a3 r3; let r1 := tSeq a2 r2; tSeq a1 r1 D σ H) : tSeq a1 (tSeq a2 (tSeq a3 (tSeq a4 (tSeq a5 a6)))) D σ H := h
def stm (st : Stmt) (i : Nat) : Stmt := (defBody st).getD i (.Pass ⟨0, 0, 0, 0⟩)
end L3
namespace L3
open PySem PySem.Spec L2
open PyProof.Rows hiding St
section
variable {X : Cx}
def rCatG (K : PySem.W.Frag) : R2 := fun x y H Q => ∃ a b xs ys, x = .ref a ∧ y = .ref b ∧ SqT K H a xs ∧ SqT K H b ys ∧ xs.length + ys.length ≤ sizeLine ∧ ∀ p H', Same H H' → SqT K H' p (xs ++ ys) → Q (.ref p) H'
theorem op_catG : OpR X (binaryOp .Add) (rCatG X.K) := by
 intro pins s σ H x y v u Q I rx ry h
 obtain ⟨a, b, xs, ys, rfl, rfl, ha, hb, hz, q⟩ := h
 by_cases hx : xs = []
 ·subst hx
  cases rx
  cases ry
  obtain ⟨its, r1, p1, _⟩ := I.tuple ha
  obtain ⟨its2, r2, p2, _⟩ := I.tuple hb
  obtain ⟨⟨cls, dd, data, sl⟩, ho, hc, n, hd⟩ := id p1
  obtain ⟨⟨cls2, dd2, data2, sl2⟩, ho2, hc2, n2, hd2⟩ := id p2
  simp only at hc hd hc2 hd2
  subst hc hd hc2 hd2
  have e : its = [] := r1.nil_iff.mpr rfl
  exact concat_meets ⟨_, ho, rfl⟩ ⟨_, ho2, rfl⟩ noFill_tuple_add seq_tuple_add PySem.F.slot_tuple_add PySem.F.entry_tuple_add (PySem.F.args_tuple_add_2 _ _)
   (tuple_addW0 a b its.toArray its2.toArray n n2 dd dd2 sl sl2 (by simp [e])) ⟨ho, ho2, ⟨.ref b, H, I, rfl, q b H (Same.refl H) hb⟩⟩
 ·refine op_catT pins s σ H _ _ _ _ Q I rx ry ⟨a, b, xs, ys, rfl, rfl, ha, hb, hx, hz, fun z => ?_, fun z p hp => q p _ (xU4 hp) (SqT.of xU9)⟩
  subst z
  exact q a H (Same.refl H) (by rw [List.append_nil]; exact ha)
theorem vX0 : fillsNumberSlot (.type "tuple") "mul" = pure false :=
 PySem.fillsNumberSlot_seq (id := "tuple.__mul__") (r := some (.builtin "tuple.__rmul__")) PySem.F.slot_tuple_mul.lookup (by decide +kernel) PySem.F.slot_tuple_rmul.lookup (by decide +kernel)
theorem repeat_tuple : seqRepeat? (.type "tuple") = pure (some (.builtin "tuple.__mul__")) := by
 unfold seqRepeat?
 rw [PySem.seqSlot_of (T := "tuple") (name := "__mul__") (id := "tuple.__mul__") PySem.F.slot_tuple_mul.lookup (by decide +kernel), PySem.seqSlot_of (T := "tuple") (name := "__rmul__") (id := "tuple.__rmul__") PySem.F.slot_tuple_rmul.lookup (by decide +kernel)]
 rfl
theorem rmul_int_tuple (a : Int) (t : Tok) (l : Addr) (items : Array Value) (n : Nat) (dd : Option Addr) (sl : Array (Option Value)) :
  Meets (Builtin.«int.__rmul__» ⟨[.int a t, .ref l], []⟩) (fun _ R s => s.heap.get? l = some { cls := .type "tuple", dict := dd, data := .seq items n, slots := sl } ∧ R (.ok (.ret Value.notImplemented)) s) :=
 .of_wp fun prog w A R s h => by obtain ⟨hp, g, d, tk, os⟩ := s; obtain ⟨hl, h⟩ := h; wp_walk; exact ⟨_, rfl, h⟩
theorem mul_tuple_int (l : Addr) (items : Array Value) (n : Nat) (dd : Option Addr) (sl : Array (Option Value)) (x : Int) (u : Tok) (hc0 : ¬ (decide (x < -(2 ^ 63)) || decide (x ≥ 2 ^ 63)) = true) (hc1 : ¬ (items.isEmpty || x == 1) = true) (hc2 : ¬ (decide (x ≤ 0) || items.isEmpty) = true)
  (hc3 : ¬ (items.size : Int) * x > (2 ^ 63 - 1) / 8) (hc4 : ¬ Builtin.Tuple.tupleTooMany (items.size * x) = true) (hsz : (List.foldl (fun x1 x2 => x1 ++ x2) #[] (List.replicate x.toNat items)).size ≤ sizeLine) :
  Meets (Builtin.«tuple.__mul__» ⟨[.ref l, .int x u], []⟩) (fun _ R s => s.heap.get? l = some { cls := .type "tuple", dict := dd, data := .seq items n, slots := sl } ∧ R (.ok (.ret (Value.ref s.heap.objs.size))) { s with heap := s.heap.push { cls := Value.type "tuple", data := Data.seq (List.foldl (fun x1 x2 => x1 ++ x2) #[] (List.replicate x.toNat items)) }, toks := s.toks }) :=
 .of_wp fun prog w A R s h => by
  obtain ⟨hp, g, d, tk, os⟩ := s; obtain ⟨hl, h⟩ := h
  wp_walk; refine wpAny_ite_false (decide_eq_false hc0) ?_
  wp_walk; refine wpAny_ite_false (decide_eq_false hc3) ?_
  wp_walk; exact ⟨_, rfl, h⟩
def rRepT (K : PySem.W.Frag) : R2 := fun x y H Q => ∃ a k xs, x = .ref a ∧ y = .int k ∧ SqT K H a xs ∧ xs ≠ [] ∧ 2 ≤ k ∧ k < 1000 ∧ xs.length ≤ 1000 ∧ ∀ p, H p = none → Q (.ref p) (upd H p (.tup (List.replicate k.toNat xs).flatten))
theorem op_repT : OpR X (binaryOp .Mult) (rRepT X.K) := by
 intro pins s σ H x y v u Q I rx ry h
 obtain ⟨a, k, xs, rfl, rfl, ha, hx, h2, hk, hl, q⟩ := h
 cases rx
 obtain ⟨t, rfl⟩ := ry
 obtain ⟨its, r, p, _⟩ := I.tuple ha
 have hlen := r.length
 have hne : its ≠ [] := fun z => hx (r.nil_iff.mp z)
 obtain ⟨⟨cls, dd, data, sl⟩, ho, hc, n, hd⟩ := id p
 simp only at hc hd
 subst hc hd
 have hnew : List.foldl (fun x1 x2 => x1 ++ x2) #[] (List.replicate k.toNat its.toArray) = (List.replicate k.toNat its).flatten.toArray := by
  have := foldl_rep its k.toNat []
  rw [List.nil_append] at this
  exact this
 have hb : (its.length : Int) * k ≤ 1000000 := by
  have h1 : (its.length : Int) ≤ 1000 := by omega
  have h3 : k ≤ 1000 := by omega
  exact Int.le_trans (Int.mul_le_mul h1 h3 (by omega) (by omega)) (by decide)
 have hnat : k.toNat * its.length ≤ 1000000 := by
  have h1 : its.length ≤ 1000 := by omega
  have h3 : k.toNat ≤ 1000 := by omega
  exact Nat.le_trans (Nat.mul_le_mul h3 h1) (by decide)
 have hempty : its.toArray.isEmpty = false := by
  cases its with
  | nil => exact absurd rfl hne
  | cons _ _ => rfl
 refine wpAny_binaryOp_repeat_ref (T := "tuple") (U := "int") (by decide) ⟨_, ho, rfl⟩ (fun s' => typeIs_int s' k t) vX0 PySem.F.fills_int_mul PySem.F.slot_int_rmul repeat_tuple PySem.F.slot_int_index.lookup
  (call_meets PySem.F.slot_int_rmul (typeIs_int s k t) PySem.F.entry_int_rmul (PySem.F.args_int_rmul_2 _ _) (rmul_int_tuple k t a its.toArray n dd sl)
   ⟨ho, rfl, ⟨_, ho, rfl⟩, call_meets PySem.F.slot_tuple_mul ⟨_, ho, rfl⟩ PySem.F.entry_tuple_mul (PySem.F.args_tuple_mul_2 _ _) (mul_tuple_int a its.toArray n dd sl k t ?_ ?_ ?_ ?_ ?_ ?_) ⟨ho, ?_⟩⟩)
 ·simp; omega
 ·rw [hempty]; simp; omega
 ·rw [hempty]; simp; omega
 ·rw [List.size_toArray]; omega
 ·rw [List.size_toArray]; unfold Builtin.Tuple.tupleTooMany; simp only [decide_eq_true_eq]; rw [sizeLine_eq]; omega
 ·rw [hnew, List.size_toArray, len_rep, sizeLine_eq]; omega
 ·rw [hnew]
  refine ⟨.ref s.heap.objs.size, _, I.laid (t' := s.toks) (o := .tup (List.replicate k.toNat xs).flatten) (fun b ob q => Heap.get?_push_of_some _ q) (Nat.le_refl _) ?_, rfl, q _ (I.hok.fresh (Nat.le_refl _))⟩
  exact ⟨by rw [len_rep, sizeLine_eq, hlen]; omega, _, r.rep k.toNat, IsTup.new _ _⟩
end
end L3
namespace L3
open PySem PySem.Spec L2
open PyProof.Rows hiding St
section
variable {X : Cx}
theorem yU5 : CallR X (.builtin "isinstance") (fun xs H Q => ∃ a ys T b, xs = [.ref a, .ty T] ∧ SqT X.K H a ys ∧ PySem.W.kitOne X.K (.type "tuple") (.type T) = some b ∧ Q (.bl b) H) := by
 intro pins s σ H xs us Q I r h
 obtain ⟨a, ys, T, b, rfl, hq, e, q⟩ := h
 obtain ⟨u, v, rfl, ru, rv⟩ := vals2 r
 obtain rfl : v = Value.type T := rv
 cases ru
 obtain ⟨its, _, ⟨o, h1, h2, _⟩, _⟩ := I.tuple hq
 exact PySem.W.kia_one PySem.W.kitx_tuple I.kIn ⟨o, h1, h2⟩ e (fun z => nomatch z) fun tk => ⟨.bl b, H, I.tok tk, rfl, q⟩
theorem yW2 : CallR X (.builtin "isinstance") (fun xs H Q => ∃ a ys T b, xs = [.ref a, .ty T] ∧ SqL X.K H a ys ∧ PySem.W.kitOne X.K (.type "list") (.type T) = some b ∧ Q (.bl b) H) := by
 intro pins s σ H xs us Q I r h
 obtain ⟨a, ys, T, b, rfl, hq, e, q⟩ := h
 obtain ⟨u, v, rfl, ru, rv⟩ := vals2 r
 obtain rfl : v = Value.type T := rv
 cases ru
 obtain ⟨its, _, p, _⟩ := I.list hq
 obtain ⟨o, h1, h2, _⟩ := p.isList
 exact PySem.W.kia_one PySem.W.kitx_list I.kIn ⟨o, h1, h2⟩ e (fun z => nomatch z) fun tk => ⟨.bl b, H, I.tok tk, rfl, q⟩
theorem yQ9 {K : PySem.W.Frag} : PySem.W.kitOne K (.type "int") (.type "bool") = some false := by kernel_rfl
theorem yU8 {K : PySem.W.Frag} : PySem.W.kitOne K (.type "tuple") (.type "tuple") = some true := rfl
theorem yQ4 {K : PySem.W.Frag} : PySem.W.kitOne K (.type "list") (.type "list") = some true := rfl
end
end L3
namespace L3
open PySem PySem.Spec L2
open PyProof.Rows hiding St
section
variable {X : Cx}
def tyD : PyData → String
 | .none => "NoneType"
 | .bool _ => "bool"
 | .int _ => "int"
 | .str _ => "str"
 | .tuple _ => "tuple"
 | .list _ => "list"
 | .dict _ => "dict"
theorem xZ9 : CallR X (.builtin "isinstance") (fun xs H Q => ∃ x T d b, xs = [x, .ty T] ∧ RepD X.K H d x ∧ PySem.W.kitOne X.K (.type (tyD d)) (.type T) = some b ∧ Q (.bl b) H) := by
 intro pins s σ H xs us Q I r h
 obtain ⟨x, T, d, b, rfl, rd, e, q⟩ := h
 cases d with
 | none => simp only [RepD] at rd; subst rd; exact yX8 pins s σ H _ us Q I r ⟨_, T, _, b, rfl, .non, e, q⟩
 | bool y => simp only [RepD] at rd; subst rd; exact yX8 pins s σ H _ us Q I r ⟨_, T, _, b, rfl, .bl y, e, q⟩
 | int y => simp only [RepD] at rd; subst rd; exact yX8 pins s σ H _ us Q I r ⟨_, T, _, b, rfl, .int y, e, q⟩
 | str y => simp only [RepD] at rd; subst rd; exact yX8 pins s σ H _ us Q I r ⟨_, T, _, b, rfl, .str y, e, q⟩
 | tuple ds =>
  obtain ⟨a, ys, rfl, h1, _⟩ : ∃ a xs, x = .ref a ∧ SqT X.K H a xs ∧ xU3 X.K H ds xs := by simpa only [RepD] using rd
  exact yU5 pins s σ H _ us Q I r ⟨a, ys, T, b, rfl, h1, e, q⟩
 | list ds =>
  obtain ⟨a, ys, rfl, h1, _⟩ : ∃ a xs, x = .ref a ∧ SqL X.K H a xs ∧ xU3 X.K H ds xs := by simpa only [RepD] using rd
  exact yW2 pins s σ H _ us Q I r ⟨a, ys, T, b, rfl, h1, e, q⟩
 | dict _ => simp only [RepD] at rd
theorem tys {a b : String} {its : List Value} (r : Vals [.ty a, .ty b] its) : its = [.type a, .type b] := by
 obtain ⟨u, v, rfl, ru, rv⟩ := vals2 r
 cases (show u = Value.type a from ru)
 cases (show v = Value.type b from rv)
 rfl
theorem call_isiD2 : CallR X (.builtin "isinstance") (fun xs H Q => ∃ x tp T U d b, xs = [x, .ref tp] ∧ SqT X.K H tp [.ty T, .ty U] ∧ RepD X.K H d x ∧ (tyD d = "list" ∨ tyD d = "tuple") ∧ PySem.W.kitAny X.K (.type (tyD d)) [.type T, .type U] = some b ∧ Q (.bl b) H) := by
 intro pins s σ H xs us Q I r h
 obtain ⟨x, tp, T, U, d, b, rfl, ht, rd, hty, e, q⟩ := h
 obtain ⟨u, v, rfl, ru, rv⟩ := vals2 r
 obtain rfl : v = Value.ref tp := rv
 obtain ⟨its, rv', ⟨o, h1, h2, n, h3⟩, _⟩ := I.tuple ht
 have := tys rv'
 subst this
 have h1' : s.heap.get? tp = some ⟨.type "tuple", o.dict, .seq [Value.type T, .type U].toArray n, o.slots⟩ := by
  rw [h1]; obtain ⟨oc, od, oa, os⟩ := o
  cases h2; cases h3; rfl
 cases d with
 | none => simp [tyD] at hty
 | bool y => simp [tyD] at hty
 | int y => simp [tyD] at hty
 | str y => simp [tyD] at hty
 | dict _ => simp only [RepD] at rd
 | tuple ds =>
  obtain ⟨a, ys, rfl, g1, _⟩ : ∃ a xs, x = .ref a ∧ SqT X.K H a xs ∧ xU3 X.K H ds xs := by simpa only [RepD] using rd
  cases ru
  obtain ⟨its', _, ⟨o', k1, k2, _⟩, _⟩ := I.tuple g1
  exact PySem.W.kia_tup PySem.W.kitx_tuple I.kIn ⟨o', k1, k2⟩ h1' e (fun z => nomatch z) fun tk => ⟨.bl b, H, I.tok tk, rfl, q⟩
 | list ds =>
  obtain ⟨a, ys, rfl, g1, _⟩ : ∃ a xs, x = .ref a ∧ SqL X.K H a xs ∧ xU3 X.K H ds xs := by simpa only [RepD] using rd
  cases ru
  obtain ⟨its', _, p, _⟩ := I.list g1
  obtain ⟨o', k1, k2, _⟩ := p.isList
  exact PySem.W.kia_tup PySem.W.kitx_list I.kIn ⟨o', k1, k2⟩ h1' e (fun z => nomatch z) fun tk => ⟨.bl b, H, I.tok tk, rfl, q⟩
def rIxD (K : PySem.W.Frag) : R2 := fun x y H Q => rIxL K x y H Q ∨ rIxT K x y H Q
theorem ixD (K : PySem.W.Frag) (h : X.K = K := by rfl) : IxR X (rIxD K) := IxR.or (ixL K h) (ixT K h)
end
end L3
namespace Of
open PySem L2 L3
inductive What where
 | pay (to many : Int)
 | cut
 deriving DecidableEq
structure Let where
 s : Nat
 st : List Int
 w : What
 deriving DecidableEq
def whatD : What → PyData
 | .pay t m => .tuple [.str "pay", .int t, .int m]
 | .cut => .tuple [.str "cut"]
def intD (ns : List Int) : List PyData := ns.map .int
def xV4 (l : Let) : Int := l.st.getD l.s 0
def nmD (s : Nat) (n : Int) : PyData := .tuple [.int s, .int n]
def xW6 (l : Let) : PyData := nmD l.s (xV4 l)
def letD (l : Let) : PyData := .tuple [.int l.s, .tuple (intD l.st), whatD l.w]
structure Off where
 num : Int
 coins : Int
 clock : List Int
 book : List PyData
 tray : List Let
 kept : List PyData
def inc (cs : List Int) (s : Nat) : List Int := cs.set s (cs.getD s 0 + 1)
def xQ2 (s : Nat) (ss cs : List Int) : Bool := decide (ss.getD s 0 = cs.getD s 0 + 1) && (((List.range cs.length).filter fun k => decide (k ≠ s)).map fun k => decide (ss.getD k 0 ≤ cs.getD k 0)).all id
def xZ0 (ls : List Let) (cs : List Int) : Option Nat := ls.findIdx? fun l => xQ2 l.s l.st cs
def xY9 (n : Int) : What → Int
 | .pay t m => if t = n then m else 0
 | .cut => 0
def vU1 (l : Let) (coins : Int) (cs : List Int) : PyData := .tuple [xW6 l, .int coins, .tuple (intD cs)]
def bookD (how : Str) (l : Let) : PyData := .tuple [.str how, xW6 l]
def vU8 (o : Off) (how : Str) (l : Let) : Off := { o with book := o.book ++ [bookD how l], kept := if l.w = .cut then o.kept ++ [vU1 l o.coins o.clock] else o.kept }
def xW3 (o : Off) (i : Nat) (l : Let) : Off := vU8 { o with tray := o.tray.eraseIdx i, clock := inc o.clock l.s, coins := o.coins + xY9 o.num l.w } "got" l
def newB (o : Off) (l : Let) : Bool := !decide (xV4 l ≤ o.clock.getD l.s 0) && !(o.tray.any fun m => PyData.eqv (xW6 m) (xW6 l))
def drain : Nat → Off → List Let × Off
 | 0, o => ([], o)
 | k + 1, o => match xZ0 o.tray o.clock with
  | none => ([], o)
  | some i => match o.tray[i]? with
   | none => ([], o)
   | some l => ((l :: (drain k (xW3 o i l)).1), (drain k (xW3 o i l)).2)
def put (o : Off) (l : Let) : Off := if newB o l then { o with tray := o.tray ++ [l] } else o
def took (o : Off) (l : Let) : List Let × Off := drain (put o l).tray.length (put o l)
abbrev nums (ns : List Int) : List V := ns.map V.int
theorem xZ2 {ns : List Int} {i : Nat} (h : i < ns.length) : (nums ns)[i]? = some (.int (ns.getD i 0)) := by
 simp [nums, List.getElem?_map, List.getD_eq_getElem?_getD, List.getElem?_eq_getElem h]
theorem yV5 {K : PySem.W.Frag} {H : Hp} : ∀ {ns : List Int} {xs : List V}, xU3 K H (intD ns) xs ↔ xs = nums ns
 | [], xs => by simp only [intD, List.map_nil, xU3]
 | n :: ns, xs => by
  simp only [intD, List.map_cons, xU3, RepD]
  constructor
  ·rintro ⟨x, r, rfl, rfl, h⟩
   rw [yV5.mp h]
  ·rintro rfl
   exact ⟨_, _, rfl, rfl, yV5.mpr rfl⟩
def vV1 (K : PySem.W.Frag) (H : Hp) (c : Addr) : What → Prop
 | .pay t m => SqT K H c [.str "pay", .int t, .int m]
 | .cut => SqT K H c [.str "cut"]
def yZ5 (K : PySem.W.Frag) (H : Hp) (a : Addr) (l : Let) : Prop := ∃ b c, SqT K H a [.int l.s, .ref b, .ref c] ∧ SqT K H b (nums l.st) ∧ vV1 K H c l.w
theorem xQ6 {K : PySem.W.Frag} {H : Hp} {l : Let} {v : V} : RepD K H (letD l) v ↔ ∃ a, v = .ref a ∧ yZ5 K H a l := by
 constructor
 ·intro h
  simp only [letD, RepD, xU3] at h
  obtain ⟨a, xs, rfl, h1, x1, r1, rfl, rfl, x2, r2, rfl, ⟨b, ys, rfl, h2, h3⟩, x3, r3, rfl, h4, rfl⟩ := h
  rw [yV5.mp h3] at h2
  cases hw : l.w with
  | pay t m =>
   rw [hw] at h4
   simp only [whatD, RepD, xU3] at h4
   obtain ⟨c, zs, rfl, h5, y1, q1, rfl, rfl, y2, q2, rfl, rfl, y3, q3, rfl, rfl, rfl⟩ := h4
   exact ⟨a, rfl, b, c, h1, h2, by rw [hw]; exact h5⟩
  | cut =>
   rw [hw] at h4
   simp only [whatD, RepD, xU3] at h4
   obtain ⟨c, zs, rfl, h5, y1, q1, rfl, rfl, rfl⟩ := h4
   exact ⟨a, rfl, b, c, h1, h2, by rw [hw]; exact h5⟩
 ·rintro ⟨a, rfl, b, c, h1, h2, h3⟩
  simp only [letD, RepD, xU3]
  refine ⟨a, _, rfl, h1, _, _, rfl, rfl, _, _, rfl, ⟨b, _, rfl, h2, yV5.mpr rfl⟩, _, _, rfl, ?_, rfl⟩
  cases hw : l.w with
  | pay t m =>
   rw [hw] at h3
   simp only [whatD, RepD, xU3]
   exact ⟨c, _, rfl, h3, _, _, rfl, rfl, _, _, rfl, rfl, _, _, rfl, rfl, rfl⟩
  | cut =>
   rw [hw] at h3
   simp only [whatD, RepD, xU3]
   exact ⟨c, _, rfl, h3, _, _, rfl, rfl, rfl⟩
theorem vV1.imm {K : PySem.W.Frag} {H H' : Hp} {c : Addr} (e : Imm H H') : ∀ {w : What}, vV1 K H c w → vV1 K H' c w
 | .pay _ _, h => e.sqT (show SqT K H c _ from h)
 | .cut, h => e.sqT (show SqT K H c _ from h)
theorem yZ5.imm {K : PySem.W.Frag} {H H' : Hp} {a : Addr} {l : Let} (e : Imm H H') : yZ5 K H a l → yZ5 K H' a l
 | ⟨b, c, h1, h2, h3⟩ => ⟨b, c, e.sqT h1, e.sqT h2, h3.imm e⟩
theorem vU4 : ∀ ns : List Int, xW1 (intD ns) = true
 | [] => rfl
 | _ :: ns => by simp only [intD, List.map_cons, xW1, yZ6, Bool.true_and]; exact vU4 ns
theorem noList_let (l : Let) : yZ6 (letD l) = true := by
 simp only [letD, yZ6, xW1, Bool.true_and, Bool.and_true, vU4]
 cases l.w <;> rfl
theorem yY1 (l : Let) : yZ6 (xW6 l) = true := rfl
theorem xX8 : ∀ ls : List Let, xW1 (ls.map letD) = true
 | [] => rfl
 | l :: ls => by simp only [List.map_cons, xW1, noList_let, Bool.true_and]; exact xX8 ls
theorem xY7 {K : PySem.W.Frag} {H : Hp} : ∀ {ds es : List PyData} {xs ys : List V}, xU3 K H ds xs → xU3 K H es ys → xU3 K H (ds ++ es) (xs ++ ys)
 | [], es, xs, ys, h1, h2 => by
  have : xs = [] := by simpa only [xU3] using h1
  subst this; exact h2
 | d :: ds, es, xs, ys, h1, h2 => by
  obtain ⟨x, r, rfl, a, b⟩ : ∃ x r, xs = x :: r ∧ RepD K H d x ∧ xU3 K H ds r := by simpa only [xU3] using h1
  simp only [List.cons_append, xU3]
  exact ⟨x, r ++ ys, rfl, a, xY7 b h2⟩
theorem yW9 {K : PySem.W.Frag} {H : Hp} {d : PyData} {v : V} (h : RepD K H d v) : xU3 K H [d] [v] := by
 simp only [xU3]
 exact ⟨v, [], rfl, h, rfl⟩
theorem xW5 {K : PySem.W.Frag} {H : Hp} : ∀ {ds : List PyData} {xs : List V}, xU3 K H ds xs → xs.length = ds.length
 | [], xs, h => by
  have : xs = [] := by simpa only [xU3] using h
  subst this; rfl
 | d :: ds, xs, h => by
  obtain ⟨x, r, rfl, a, b⟩ : ∃ x r, xs = x :: r ∧ RepD K H d x ∧ xU3 K H ds r := by simpa only [xU3] using h
  simp only [List.length_cons, xW5 b]
theorem xY6 {K : PySem.W.Frag} {H : Hp} : ∀ {ds : List PyData} {xs : List V} {i : Nat} {d : PyData}, xU3 K H ds xs → ds[i]? = some d → ∃ x, xs[i]? = some x ∧ RepD K H d x
 | [], xs, i, d, h, e => by simp at e
 | d' :: ds, xs, i, d, h, e => by
  obtain ⟨x, r, rfl, a, b⟩ : ∃ x r, xs = x :: r ∧ RepD K H d' x ∧ xU3 K H ds r := by simpa only [xU3] using h
  cases i with
  | zero => simp at e; subst e; exact ⟨x, rfl, a⟩
  | succ j =>
   obtain ⟨y, h1, h2⟩ := xY6 b (by simpa using e)
   exact ⟨y, by simpa using h1, h2⟩
theorem reps_erase {K : PySem.W.Frag} {H : Hp} : ∀ {ds : List PyData} {xs : List V} (i : Nat), xU3 K H ds xs → xU3 K H (ds.eraseIdx i) (xs.eraseIdx i)
 | [], xs, i, h => by
  have : xs = [] := by simpa only [xU3] using h
  subst this; simpa only [List.eraseIdx_nil] using h
 | d' :: ds, xs, i, h => by
  obtain ⟨x, r, rfl, a, b⟩ : ∃ x r, xs = x :: r ∧ RepD K H d' x ∧ xU3 K H ds r := by simpa only [xU3] using h
  cases i with
  | zero => exact b
  | succ j =>
   simp only [List.eraseIdx_cons_succ, xU3]
   exact ⟨x, _, rfl, a, reps_erase j b⟩
def flds (n c : Int) (cl lb lt lk : Addr) : List (Str × V) := [("number", .int n), ("coins", .int c), ("clock", .ref cl), ("book", .ref lb), ("tray", .ref lt), ("kept", .ref lk)]
structure OffAt (K : PySem.W.Frag) (C : Addr) (H : Hp) (p : Addr) (o : Off) : Prop where
 ex : ∃ dx cl lb lt lk bs ts ks, H p = some (.ins C dx (flds o.num o.coins cl lb lt lk)) ∧ SqT K H cl (nums o.clock) ∧ H lb = some (.lst bs) ∧ xU3 K H o.book bs ∧ H lt = some (.lst ts) ∧ xU3 K H (o.tray.map letD) ts ∧ H lk = some (.lst ks) ∧ xU3 K H o.kept ks
 nb : xW1 o.book = true
 nk : xW1 o.kept = true
def Refs : Option HO → Addr → Prop
 | some (.ins _ _ fs), b => fs.lookup ("book" : Str) = some (.ref b) ∨ fs.lookup ("tray" : Str) = some (.ref b) ∨ fs.lookup ("kept" : Str) = some (.ref b)
 | _, _ => False
structure SameX (p : Addr) (H H' : Hp) : Prop where
 keep : ∀ b o, H b = some o → b ≠ p → H' b = some o
 refs : ∀ b, Refs (H' p) b → Refs (H p) b ∨ H b = none
 here : ∃ u, H p = some u
theorem SameX.free {p : Addr} {H H' : Hp} (e : SameX p H H') (h' : ∃ u, H' p = some u) {b : Addr} (h : H' b = none) : H b = none := by
 cases q : H b with
 | none => rfl
 | some u =>
  by_cases hb : b = p
  ·obtain ⟨u', hu⟩ := h'
   rw [hb, hu] at h; cases h
  ·rw [e.keep b u q hb] at h; cases h
theorem SameX.trans {p : Addr} {H H1 H2 : Hp} (a : SameX p H H1) (b : SameX p H1 H2) : SameX p H H2 :=
 ⟨fun c o h n => b.keep c o (a.keep c o h n) n, fun c h => (b.refs c h).elim (a.refs c) fun z => .inr (a.free b.here z), a.here⟩
theorem xQ3 {p : Addr} {H H' : Hp} {u : HO} (hp : H p = some u) (e : Same H H') : SameX p H H' :=
 ⟨fun c o h _ => e c o h, fun c h => .inl (by rw [e p u hp] at h; rw [hp]; exact h), ⟨u, hp⟩⟩
theorem OffAt.same {K : PySem.W.Frag} {C : Addr} {H H' : Hp} {p : Addr} {o : Off} (e : Same H H') (h : OffAt K C H p o) : OffAt K C H' p o := by
 obtain ⟨⟨dx, cl, lb, lt, lk, bs, ts, ks, h1, h2, h3, h4, h5, h6, h7, h8⟩, nb, nk⟩ := h
 exact ⟨⟨dx, cl, lb, lt, lk, bs, ts, ks, e _ _ h1, e.sqT h2, e _ _ h3, xU3.same e _ _ h4, e _ _ h5, xU3.same e _ _ h6, e _ _ h7, xU3.same e _ _ h8⟩, nb, nk⟩
theorem putF_eq {f : Str} {u v : V} {r : List (Str × V)} : putF f v ((f, u) :: r) = (f, v) :: r := by
 show (if f = f then _ else _) = _
 rw [if_pos rfl]
theorem xW9 {f g : Str} {u v : V} {r : List (Str × V)} (h : ¬ g = f) : putF f v ((g, u) :: r) = (g, u) :: putF f v r := by
 show (if g = f then _ else _) = _
 rw [if_neg h]
theorem ne1 : ¬ (("number" : Str) = "coins") := by decide +kernel
theorem ne2 : ¬ (("number" : Str) = "clock") := by decide +kernel
theorem ne3 : ¬ (("number" : Str) = "book") := by decide +kernel
theorem ne4 : ¬ (("number" : Str) = "tray") := by decide +kernel
theorem ne5 : ¬ (("number" : Str) = "kept") := by decide +kernel
theorem ne6 : ¬ (("coins" : Str) = "clock") := by decide +kernel
theorem ne7 : ¬ (("coins" : Str) = "book") := by decide +kernel
theorem ne8 : ¬ (("coins" : Str) = "tray") := by decide +kernel
theorem ne9 : ¬ (("coins" : Str) = "kept") := by decide +kernel
theorem ne10 : ¬ (("clock" : Str) = "book") := by decide +kernel
theorem ne11 : ¬ (("clock" : Str) = "tray") := by decide +kernel
theorem ne12 : ¬ (("clock" : Str) = "kept") := by decide +kernel
theorem ne13 : ¬ (("book" : Str) = "tray") := by decide +kernel
theorem ne14 : ¬ (("book" : Str) = "kept") := by decide +kernel
theorem ne15 : ¬ (("tray" : Str) = "kept") := by decide +kernel
section
variable {n c c' : Int} {cl lb lt lk x : Addr}
theorem put_coins : putF "coins" (.int c') (flds n c cl lb lt lk) = flds n c' cl lb lt lk := by unfold flds; rw [xW9 ne1, putF_eq]
theorem put_clock : putF "clock" (.ref x) (flds n c cl lb lt lk) = flds n c x lb lt lk := by unfold flds; rw [xW9 ne2, xW9 ne6, putF_eq]
theorem put_book : putF "book" (.ref x) (flds n c cl lb lt lk) = flds n c cl x lt lk := by unfold flds; rw [xW9 ne3, xW9 ne7, xW9 ne10, putF_eq]
theorem put_tray : putF "tray" (.ref x) (flds n c cl lb lt lk) = flds n c cl lb x lk := by unfold flds; rw [xW9 ne4, xW9 ne8, xW9 ne11, xW9 ne13, putF_eq]
theorem put_kept : putF "kept" (.ref x) (flds n c cl lb lt lk) = flds n c cl lb lt x := by unfold flds; rw [xW9 ne5, xW9 ne9, xW9 ne12, xW9 ne14, xW9 ne15, putF_eq]
theorem put_all : putF "kept" (.ref lk) (putF "tray" (.ref lt) (putF "book" (.ref lb) (putF "clock" (.ref cl) (putF "coins" (.int c) (putF "number" (.int n) []))))) = flds n c cl lb lt lk := by
 show putF "kept" _ (putF "tray" _ (putF "book" _ (putF "clock" _ (putF "coins" _ [(("number" : Str), V.int n)])))) = _
 rw [xW9 ne1]
 show putF "kept" _ (putF "tray" _ (putF "book" _ (putF "clock" _ [(("number" : Str), V.int n), ("coins", V.int c)]))) = _
 rw [xW9 ne2, xW9 ne6]
 show putF "kept" _ (putF "tray" _ (putF "book" _ [(("number" : Str), V.int n), ("coins", V.int c), ("clock", V.ref cl)])) = _
 rw [xW9 ne3, xW9 ne7, xW9 ne10]
 show putF "kept" _ (putF "tray" _ [(("number" : Str), V.int n), ("coins", V.int c), ("clock", V.ref cl), ("book", V.ref lb)]) = _
 rw [xW9 ne4, xW9 ne8, xW9 ne11, xW9 ne13]
 show putF "kept" _ [(("number" : Str), V.int n), ("coins", V.int c), ("clock", V.ref cl), ("book", V.ref lb), ("tray", V.ref lt)] = _
 rw [xW9 ne5, xW9 ne9, xW9 ne12, xW9 ne14, xW9 ne15]
 rfl
theorem at_number : (flds n c cl lb lt lk).lookup ("number" : Str) = some (V.int n) := by kernel_rfl
theorem at_coins : (flds n c cl lb lt lk).lookup ("coins" : Str) = some (V.int c) := by kernel_rfl
theorem yW7 : (flds n c cl lb lt lk).lookup ("clock" : Str) = some (V.ref cl) := by kernel_rfl
theorem at_book : (flds n c cl lb lt lk).lookup ("book" : Str) = some (V.ref lb) := by kernel_rfl
theorem yX5 : (flds n c cl lb lt lk).lookup ("tray" : Str) = some (V.ref lt) := by kernel_rfl
theorem at_kept : (flds n c cl lb lt lk).lookup ("kept" : Str) = some (V.ref lk) := by kernel_rfl
theorem xX2 {C dx b : Addr} : Refs (some (.ins C dx (flds n c cl lb lt lk))) b ↔ b = lb ∨ b = lt ∨ b = lk := by
 show ((flds n c cl lb lt lk).lookup ("book" : Str) = some (.ref b) ∨ (flds n c cl lb lt lk).lookup ("tray" : Str) = some (.ref b) ∨ (flds n c cl lb lt lk).lookup ("kept" : Str) = some (.ref b)) ↔ _
 rw [at_book, yX5, at_kept]
 constructor
 ·rintro (h | h | h)
  ·injection h with h; injection h with h; exact .inl h.symm
  ·injection h with h; injection h with h; exact .inr (.inl h.symm)
  ·injection h with h; injection h with h; exact .inr (.inr h.symm)
 ·rintro (rfl | rfl | rfl)
  ·exact .inl rfl
  ·exact .inr (.inl rfl)
  ·exact .inr (.inr rfl)
theorem sx_set {C dx p : Addr} {H H4 : Hp} {n' c2 : Int} {cl' lb' lt' lk' : Addr} (e : SameX p H H4) (h : H4 p = some (.ins C dx (flds n c cl lb lt lk))) (h1 : lb' = lb ∨ H lb' = none) (h2 : lt' = lt ∨ H lt' = none) (h3 : lk' = lk ∨ H lk' = none) :
  SameX p H (upd H4 p (.ins C dx (flds n' c2 cl' lb' lt' lk'))) := by
 refine ⟨fun b v hb nb => by rw [xU2 nb]; exact e.keep b v hb nb, fun b hb => ?_, e.here⟩
 rw [xU9, xX2] at hb
 have old : ∀ x, x = lb ∨ x = lt ∨ x = lk → Refs (H p) x ∨ H x = none := fun x hx => e.refs x (by rw [h, xX2]; exact hx)
 rcases hb with rfl | rfl | rfl
 ·rcases h1 with z | z
  ·exact old _ (.inl z)
  ·exact .inr z
 ·rcases h2 with z | z
  ·exact old _ (.inr (.inl z))
  ·exact .inr z
 ·rcases h3 with z | z
  ·exact old _ (.inr (.inr z))
  ·exact .inr z
end
end Of
namespace Of
open PySem L2 L3
def top (i : Nat) : Stmt := PySem.Challenge.pw_postbooks_k12_under_way.main.body.getD i (.Pass ⟨0, 0, 0, 0⟩)
abbrev sName : Stmt := top 1
abbrev sThere : Stmt := top 2
abbrev sCounted : Stmt := top 3
abbrev sReady : Stmt := top 4
abbrev sStates : Stmt := top 11
abbrev sStateIn : Stmt := top 12
abbrev sUnderWay : Stmt := top 13
abbrev sIsThereAt : Stmt := top 14
abbrev sIsSent : Stmt := top 15
abbrev sOfficesWithout : Stmt := top 16
abbrev sThrough : Stmt := top 17
abbrev sPlaceKept : Stmt := top 18
abbrev sInit : Stmt := inClass (top 20) 0
abbrev sPay : Stmt := inClass (top 20) 1
abbrev sCut : Stmt := inClass (top 20) 2
abbrev sTake : Stmt := inClass (top 20) 3
abbrev sSend : Stmt := inClass (top 20) 4
abbrev sIsNew : Stmt := inClass (top 20) 5
abbrev sHand : Stmt := inClass (top 20) 6
abbrev sWrite : Stmt := inClass (top 20) 7
abbrev sFirst : Stmt := top 21
abbrev sCoins : Stmt := top 22
abbrev sSentOr : Stmt := top 23
abbrev sTaken : Stmt := top 24
abbrev cInit : Stmt := inClass (top 26) 0
abbrev cDo : Stmt := inClass (top 26) 1
abbrev cAns : Stmt := inClass (top 26) 2
abbrev cSent : Stmt := inClass (top 26) 3
abbrev cCarr : Stmt := inClass (top 26) 4
abbrev vX3 : Stmt := inClass (top 26) 5
abbrev sCourse : Stmt := top 27
abbrev sLettersOf : Stmt := top 28
abbrev sEventsOf : Stmt := top 29
abbrev sKeptOf : Stmt := top 30
abbrev sSo : Stmt := top 32
abbrev sWhole : Stmt := top 33
abbrev sAt : Stmt := top 34
abbrev sIsName : Stmt := top 35
abbrev sAreEvents : Stmt := top 36
abbrev sIsWhat : Stmt := top 37
abbrev sAreLetters : Stmt := top 38
abbrev sCalled : Stmt := top 39
abbrev sDeedOf : Stmt := top 40
abbrev sDrawn : Stmt := top 41
abbrev sEndedL : Stmt := top 42
abbrev sAreStatesL : Stmt := top 43
abbrev sAheadOfL : Stmt := top 44
abbrev sIsWayL : Stmt := top 45
abbrev sOneCutL : Stmt := top 46
abbrev sLaw : Stmt := top 47
end Of
section
seal L2.PE L2.PT L2.PW L2.PA L2.PS L2.PSs L2.PG L2.PGs L2.PI L3.PTs L2.PO L2.CallR L2.OpR L2.IxR L2.MtR L2.PSet L2.SlR
namespace Of
open PySem L2 L3
theorem len2 {a b : V} : [a, b].length ≤ sizeLine := by show 2 ≤ sizeLine; decide
theorem len1 {a : V} : [a].length ≤ sizeLine := by show 1 ≤ sizeLine; decide
theorem len0 : ([] : List V).length ≤ sizeLine := by show 0 ≤ sizeLine; decide
theorem len3 {a b c : V} : [a, b, c].length ≤ sizeLine := by show 3 ≤ sizeLine; decide
structure Txt (K : PySem.W.Frag) (mg : Str → Option Value) (C fN fT fC fR fF fO : Addr) : Prop where
 cl : Cls K C
 nN : yV1 K C "number"
 nC : yV1 K C "coins"
 nK : yV1 K C "clock"
 nB : yV1 K C "book"
 nT : yV1 K C "tray"
 nE : yV1 K C "kept"
 office : mg "Office" = some (.ref C)
 name_of : mg "name_of" = some (.ref fN)
 is_there : mg "is_there" = some (.ref fT)
 counted : mg "counted" = some (.ref fC)
 ready : mg "ready" = some (.ref fR)
 first_ready : mg "first_ready" = some (.ref fF)
 coins_for : mg "coins_for" = some (.ref fO)
 len : mg "len" = none
 range : mg "range" = none
 all : mg "all" = none
def yQ1 (K : PySem.W.Frag) : Sp := fun vs H Q _ => ∃ (a : Addr) (l : Let), vs = [.ref a] ∧ yZ5 K H a l ∧ l.s < l.st.length ∧ ∀ p, H p = none → Q (.ref p) (upd H p (.tup [.int l.s, .int (xV4 l)]))
def spThere (K : PySem.W.Frag) : Sp := fun vs H Q _ => ∃ (n c : Addr) (s : Nat) (m : Int) (cs : List Int), vs = [.ref n, .ref c] ∧ SqT K H n [.int s, .int m] ∧ SqT K H c (nums cs) ∧ s < cs.length ∧ Q (.bl (decide (m ≤ cs.getD s 0))) H
def spCounted (K : PySem.W.Frag) : Sp := fun vs H Q _ => ∃ (c : Addr) (s : Nat) (cs : List Int), vs = [.ref c, .int s] ∧ SqT K H c (nums cs) ∧ s < cs.length ∧ cs.length ≤ 1000 ∧ ∀ p H', Same H H' → SqT K H' p (nums (inc cs s)) → Q (.ref p) H'
def spReady (K : PySem.W.Frag) : Sp := fun vs H Q _ => ∃ (a c : Addr) (l : Let) (cs : List Int), vs = [.ref a, .ref c] ∧ yZ5 K H a l ∧ SqT K H c (nums cs) ∧ l.s < cs.length ∧ l.st.length = cs.length ∧ cs.length ≤ 1000 ∧ ∀ H', Same H H' → Q (.bl (xQ2 l.s l.st cs)) H'
def spCoins (K : PySem.W.Frag) : Sp := fun vs H Q _ => ∃ (n : Int) (c : Addr) (w : What), vs = [.int n, .ref c] ∧ vV1 K H c w ∧ Q (.int (xY9 n w)) H
def optV : Option Nat → V
 | none => .non
 | some i => .int i
def spFirst (K : PySem.W.Frag) : Sp := fun vs H Q _ => ∃ (a c : Addr) (ts : List V) (ls : List Let) (cs : List Int), vs = [.ref a, .ref c] ∧ SqL K H a ts ∧ xU3 K H (ls.map letD) ts ∧ SqT K H c (nums cs) ∧ cs.length ≤ 1000 ∧ ls.length ≤ 1000 ∧
 (∀ l ∈ ls, l.s < cs.length ∧ l.st.length = cs.length) ∧ ∀ H', Same H H' → Q (optV (xZ0 ls cs)) H'
section
variable {P : Program} {w : World} {K : PySem.W.Frag} {mg : Str → Option Value} {base : Heap} {C fN fT fC fR fF fO : Addr}
theorem oN : ownB ["letter", "sender", "stamp"] (defScope sName) = true := by decide +kernel
theorem scN : FnScope ["letter", "sender", "stamp"] ["letter"] (defScope sName) := ⟨rfl, rfl, rfl, by decide +kernel, rfl, by decide +kernel, by decide +kernel⟩
theorem vW7 {f : Addr} {fd : FuncData} (F : Fun K "name_of" "name_of" sName f fd) : FnOk P w K mg base CX0 1 f fd ["letter"] (yQ1 K) := by
 refine okB (body := [stm sName 0, stm sName 1, stm sName 2]) F scN (fun vs H Q E h => ?_) (by kernel_rfl) (fun cdv A outer s0 H vs Q E hr h => ?_)
 ·obtain ⟨a, l, rfl, _⟩ := h
  rfl
 ·obtain ⟨a, l, rfl, ⟨b, c, h1, h2, h4⟩, h3, q⟩ := h
  refine ⟨_, (xU8 (oS oN 1 (iX (ixT K) (oV oN 0) xU5))
   (xU8 (oS oN 2 (iX (ixT K) (oV oN 0) xU5))
   (xU6 (xU1 (xZ6 (aC (oV oN 1) (aC (iX (ixT K) (oV oN 2) (oV oN 1)) xU7))))))), ?_⟩
  refine cut3 ?_
  intro rr2 rr1
  refine ⟨_, rfl, a, _, 0, _, rfl, rfl, h1, rfl, _, rfl, a, _, 1, _, rfl, rfl, h1, rfl, ?_⟩
  exact ⟨_, rfl, _, rfl, _, rfl, b, _, _, _, rfl, rfl, h2, xW7 (xZ2 h3), len2, q⟩
theorem oTh : ownB ["name", "clock"] (defScope sThere) = true := by decide +kernel
theorem scT : FnScope ["name", "clock"] ["name", "clock"] (defScope sThere) := ⟨rfl, rfl, rfl, by decide +kernel, rfl, by decide +kernel, by decide +kernel⟩
theorem ok_there {f : Addr} {fd : FuncData} (F : Fun K "is_there" "is_there" sThere f fd) : FnOk P w K mg base CX0 1 f fd ["name", "clock"] (spThere K) := by
 refine okB (body := [stm sThere 0]) F scT (fun vs H Q E h => ?_) (by kernel_rfl) (fun cdv A outer s0 H vs Q E hr h => ?_)
 ·obtain ⟨n, c, s, m, cs, rfl, _⟩ := h
  rfl
 ·obtain ⟨n, c, s, m, cs, rfl, h1, h2, h3, q⟩ := h
  refine ⟨_, (xU6 (xU1 (yW4 op_ge (iX (ixT K) (oV oTh 1) (iX (ixT K) (oV oTh 0) xU5)) (iX (ixT K) (oV oTh 0) xU5) (xV5 _)))), ?_⟩
  exact ⟨_, rfl, _, rfl, n, _, 0, _, rfl, rfl, h1, rfl, c, _, (s : Int), _, rfl, rfl, h2, xW7 (xZ2 h3), _, rfl, n, _, 1, _, rfl, rfl, h1, rfl, _, _, rfl, rfl, q⟩
theorem cut_lo {xs : List V} {s : Nat} (h : s ≤ xs.length) : cutV xs none (some (s : Int)) = xs.take s := by
 unfold cutV
 rw [HT.sIx_nat, HT.sIx_none]
 simp [Nat.min_eq_left h]
theorem cut_hi {xs : List V} {s : Nat} (h : s ≤ xs.length) : cutV xs (some (s : Int)) none = xs.drop s := by
 unfold cutV
 rw [HT.sIx_nat, HT.sIx_none, Nat.min_eq_left h]
 exact List.take_of_length_le (by rw [List.length_drop]; omega)
theorem inc_split {cs : List Int} {s : Nat} (h : s < cs.length) : (nums cs).take s ++ [V.int (cs.getD s 0 + 1)] ++ (nums cs).drop (s + 1) = nums (inc cs s) := by
 unfold inc nums
 rw [← List.map_take, ← List.map_drop, List.set_eq_take_append_cons_drop, if_pos h]
 simp
theorem oCt : ownB ["clock", "sender"] (defScope sCounted) = true := by decide +kernel
theorem scC : FnScope ["clock", "sender"] ["clock", "sender"] (defScope sCounted) := ⟨rfl, rfl, rfl, by decide +kernel, rfl, by decide +kernel, by decide +kernel⟩
theorem ok_counted {f : Addr} {fd : FuncData} (F : Fun K "counted" "counted" sCounted f fd) : FnOk P w K mg base CX0 1 f fd ["clock", "sender"] (spCounted K) := by
 refine okB (body := [stm sCounted 0]) F scC (fun vs H Q E h => ?_) (by kernel_rfl) (fun cdv A outer s0 H vs Q E hr h => ?_)
 ·obtain ⟨c, s, cs, rfl, _⟩ := h
  rfl
 ·obtain ⟨c, s, cs, rfl, h1, h2, h3, q⟩ := h
  refine ⟨_, (xU6 (xU1 (xV2 op_catG (xV2 op_catG (yQ7 sl_tup (oV oCt 0) po_none (vU5 (oV oCt 1))) (xZ6 (aC (xV2 yU1 (iX (ixT K) (oV oCt 0) (oV oCt 1)) xU5) xU7))) (yQ7 sl_tup (oV oCt 0) (vU5 (xV2 yU1 (oV oCt 1) xU5)) po_none)))), ?_⟩
  have hl : (nums cs).length = cs.length := List.length_map ..
  have big : ∀ n, n ≤ 3000 → n ≤ sizeLine := fun n hn => Nat.le_trans hn (by decide)
  refine ⟨_, rfl, _, rfl, _, rfl, c, _, rfl, h1, ?_, fun p1 n1 => ?_⟩
  ·rw [HT.sIx_nat, HT.sIx_none]; omega
  have s1 := xU4 (o := .tup (cutV (nums cs) none (some (s : Int)))) n1
  refine ⟨_, rfl, _, rfl, c, _, (s : Int), _, rfl, rfl, s1.sqT h1, xW7 (xZ2 h2), _, _, rfl, rfl, len1, fun p2 n2 => ?_⟩
  have s2 := xU4 (o := .tup [V.int (cs.getD s 0 + 1)]) n2
  have n12 : p1 ≠ p2 := fun e => by rw [← e, xU9] at n2; cases n2
  refine ⟨p1, p2, _, _, rfl, rfl, SqT.of ((xU2 n12).trans xU9), SqT.of xU9, ?_, fun p3 H3 e3 h5 => ?_⟩
  ·rw [cut_lo (by omega)]; simp only [List.length_take, List.length_singleton]; exact big _ (by omega)
  have s3 : Same H H3 := (s1.trans s2).trans e3
  refine ⟨_, rfl, _, rfl, _, _, rfl, rfl, _, rfl, c, _, rfl, s3.sqT h1, ?_, fun p4 n4 => ?_⟩
  ·rw [show ((s : Int) + 1) = ((s + 1 : Nat) : Int) by omega, HT.sIx_nat, HT.sIx_none]; omega
  have s4 := xU4 (o := .tup (cutV (nums cs) (some ((s : Int) + 1)) none)) n4
  refine ⟨p3, p4, _, _, rfl, rfl, s4.sqT h5, SqT.of xU9, ?_, fun p5 H5 e5 h6 => q p5 H5 ((s3.trans s4).trans e5) ?_⟩
  ·rw [cut_lo (by omega), show ((s : Int) + 1) = ((s + 1 : Nat) : Int) by omega, cut_hi (by omega)]
   simp only [List.length_append, List.length_take, List.length_singleton, List.length_drop]
   exact big _ (by omega)
  ·rw [cut_lo (by omega), show ((s : Int) + 1) = ((s + 1 : Nat) : Int) by omega, cut_hi (by omega), inc_split h2] at h6
   exact h6
end
end Of
end
section
seal L2.PE L2.PT L2.PW L2.PA L2.PS L2.PSs L2.PG L2.PGs L2.PI L3.PTs L2.PO L2.CallR L2.OpR L2.IxR L2.MtR L2.PSet L2.SlR
namespace Of
open PySem L2 L3
section
variable {P : Program} {w : World} {K : PySem.W.Frag} {mg : Str → Option Value} {base : Heap} {C fN fT fC fR fF fO : Addr}
theorem oR : ownB ["letter", "clock", "sender", "stamp", "others"] (defScope sReady) = true := by decide +kernel
theorem scR : FnScope ["letter", "clock", "sender", "stamp", "others"] ["letter", "clock"] (defScope sReady) := ⟨rfl, rfl, rfl, by decide +kernel, rfl, by decide +kernel, by decide +kernel⟩
theorem ok_ready {f : Addr} {fd : FuncData} (F : Fun K "ready" "ready" sReady f fd) (T : Txt K mg C fN fT fC fR fF fO) : FnOk P w K mg base CX0 1 f fd ["letter", "clock"] (spReady K) := by
 refine okB (body := [stm sReady 0, stm sReady 1, stm sReady 2, stm sReady 3, stm sReady 4]) F scR (fun vs H Q E h => ?_) (by kernel_rfl) (fun cdv A outer s0 H vs Q E hr h => ?_)
 ·obtain ⟨a, c, l, cs, rfl, _⟩ := h
  rfl
 ·obtain ⟨a, c, ⟨s, ss, lw⟩, cs, rfl, ⟨b, v, hA, hB, _⟩, hC, hs, hl, hz, q⟩ := h
  dsimp only at hA hB hs hl q
  refine ⟨_, (xU8 (oS oR 2 (iX (ixT K) (oV oR 0) xU5))
   (xU8 (oS oR 3 (iX (ixT K) (oV oR 0) xU5))
   (xU8 (xW4 (xV7 yX1 (iX (ixT K) (oV oR 3) (oV oR 2)) (xV2 yU1 (iX (ixT K) (oV oR 1) (oV oR 2)) xU5) (xV5 _))
    (xU6 (xU1 xY1))
    xV8)
   (xU8 (oC oR 4 [2] ["sender"] rfl (rng1 T.range (aC (cB (xV9 (X := _)) T.len PySem.boot_len (aC (oV oR 1) xU7)) xU7)) (fun _ _ _ _ _ => (vU6 (xV7 yX1 (sV 0) (sV 1) (xV5 _)))) (fun _ _ _ _ _ => (sV 0)))
   (xU6 (xU1 (cB (call_all rfl) T.all boot_all (aC (eC [1, 3] ["clock", "stamp"] rfl (xY2 (oV oR 4)) (fun _ _ _ _ _ => yZ2) (fun _ _ _ _ _ => (yW4 op_le (iX (ixT K) (sV 2) (sV 0)) (iX (ixT K) (sV 1) (sV 0)) (xV5 _)))) xU7)))))))), ?_⟩
  refine cut5 ?_
  intro rr4 rr3 rr2 rr1
  refine ⟨_, rfl, a, _, 0, _, rfl, rfl, hA, rfl, _, rfl, a, _, 1, _, rfl, rfl, hA, rfl, ?_⟩
  refine ⟨_, rfl, _, rfl, b, _, (s : Int), _, rfl, rfl, hB, xW7 (xZ2 (by omega)), _, rfl, _, rfl, c, _, (s : Int), _, rfl, rfl, hC, xW7 (xZ2 hs), _, _, rfl, rfl, rfl, _, rfl, ?_⟩
  by_cases e : ss.getD s 0 = cs.getD s 0 + 1
  ·rw [show (!decide (V.int (ss.getD s 0) = V.int (cs.getD s 0 + 1))) = false by rw [e]; simp]
   refine iteF ?_
   refine ⟨_, rfl, c, _, rfl, .inr hC, _, rfl, by omega, by rw [List.length_map]; omega, yW5 (fun D i ys H2 => Same H H2 ∧ H2 D = some (.lst ys) ∧ ys = ((List.range i).filter fun k => decide (k ≠ s)).map fun k => V.int ((k : Nat) : Int))
    (fun D hD => ⟨xU4 hD, xU9, rfl⟩) (fun D i ys H2 _ _ h => h.2.1) (fun D i ys H2 hD hi ⟨e1, e2, e3⟩ => ?_) (fun D ys H2 hD ⟨e1, e2, e3⟩ => ?_)⟩
   ·refine ⟨_, rfl, _, rfl, rfl, _, rfl, ?_⟩
    by_cases e4 : i = s
    ·rw [show (!decide (V.int (0 + (i : Int)) = V.int (s : Int))) = false by simp [e4]]
     refine iteF ⟨e1, e2, ?_⟩
     rw [List.range_succ, List.filter_append, e3]
     simp [e4]
    ·rw [show (!decide (V.int (0 + (i : Int)) = V.int (s : Int))) = true by simp; omega]
     refine iteT ⟨_, rfl, e2, ?_, xW2 e1 hD, xU9, ?_⟩
     ·rw [e3, List.length_map]
      have := List.length_filter_le (fun k => decide (k ≠ s)) (List.range i)
      rw [List.length_range] at this
      rw [List.length_map] at hi
      exact xV0 (by omega)
     ·rw [List.range_succ, List.filter_append, e3]
      simp [e4]
   ·have hn : ((nums cs).length : Int).toNat = cs.length := by rw [List.length_map]; omega
    rw [hn] at e3
    refine ⟨_, rfl, D, rfl, ⟨_, SqL.of e2⟩, yV2 (xs := ys) (fun D2 i zs H3 => Same H2 H3 ∧ H3 D2 = some (.lst zs) ∧ zs = ((((List.range cs.length).filter fun k => decide (k ≠ s)).take i).map fun k => decide (ss.getD k 0 ≤ cs.getD k 0)).map V.bl)
     (fun D2 hD2 => ⟨xU4 hD2, xU9, rfl⟩) (fun D2 i zs H3 _ _ h => ⟨h.2.1, SqL.of (h.1 _ _ e2)⟩) (fun D2 i x zs H3 hD2 hx ⟨f1, f2, f3⟩ => ?_) (fun D2 zs H3 hD2 ⟨f1, f2, f3⟩ => ?_)⟩
    ·rw [e3, List.getElem?_map] at hx
     cases hk : ((List.range cs.length).filter fun k => decide (k ≠ s))[i]? with
     | none => rw [hk] at hx; cases hx
     | some k =>
      rw [hk] at hx
      have hx : x = V.int ((k : Nat) : Int) := (Option.some.inj hx).symm
      subst hx
      have hkm : k < cs.length := List.mem_range.mp (List.mem_filter.mp (List.mem_of_getElem? hk)).1
      refine ⟨_, rfl, _, rfl, b, _, (k : Int), _, rfl, rfl, f1.sqT (e1.sqT hB), xW7 (xZ2 (by omega)), _, rfl, _, rfl, c, _, (k : Int), _, rfl, rfl, f1.sqT (e1.sqT hC), xW7 (xZ2 hkm), _, _, rfl, rfl, f2, ?_, xW2 f1 hD2, xU9, ?_⟩
      ·rw [f3, List.length_map, List.length_map, List.length_take]
       have := List.length_filter_le (fun k => decide (k ≠ s)) (List.range cs.length)
       rw [List.length_range] at this
       exact xV0 (by omega)
      ·rw [List.take_succ, hk, f3]
       simp
    ·refine ⟨D2, _, rfl, SqL.of (by rw [f2, f3]), ?_⟩
     have hy : ys.length = ((List.range cs.length).filter fun k => decide (k ≠ s)).length := by rw [e3, List.length_map]
     rw [hy, List.take_length]
     have : xQ2 s ss cs = (((List.range cs.length).filter fun k => decide (k ≠ s)).map fun k => decide (ss.getD k 0 ≤ cs.getD k 0)).all id := by
      unfold xQ2; rw [decide_eq_true e, Bool.true_and]
     rw [this] at q
     exact q H3 (e1.trans f1)
  ·rw [show (!decide (V.int (ss.getD s 0) = V.int (cs.getD s 0 + 1))) = true by rw [decide_eq_false (fun z => e (V.int.inj z))]; rfl]
   refine iteT ?_
   have : xQ2 s ss cs = false := by unfold xQ2; rw [decide_eq_false e]; rfl
   rw [this] at q
   exact q H (Same.refl H)
theorem oCo : ownB ["number", "what"] (defScope sCoins) = true := by decide +kernel
theorem scO : FnScope ["number", "what"] ["number", "what"] (defScope sCoins) := ⟨rfl, rfl, rfl, by decide +kernel, rfl, by decide +kernel, by decide +kernel⟩
theorem dec_i (x y : Int) : decide (V.int x = V.int y) = decide (x = y) := dec_int.trans (by rw [Bool.beq_eq_decide_eq])
theorem ok_coins {f : Addr} {fd : FuncData} (F : Fun K "coins_for" "coins_for" sCoins f fd) : FnOk P w K mg base CX0 1 f fd ["number", "what"] (spCoins K) := by
 refine okB (body := [stm sCoins 0, stm sCoins 1]) F scO (fun vs H Q E h => ?_) (by kernel_rfl) (fun cdv A outer s0 H vs Q E hr h => ?_)
 ·obtain ⟨n, c, w, rfl, _⟩ := h
  rfl
 ·obtain ⟨n, c, wh, rfl, h1, q⟩ := h
  refine ⟨_, (xU8 (xW4 (PW.pt (pw_and (xV7 yX0 (iX (ixT K) (oV oCo 1) xU5) xY8 (xV5 _)) (pw_and1 (xV7 yX0 (iX (ixT K) (oV oCo 1) xU5) (oV oCo 0) (xV5 _)))))
    (xU6 (xU1 (iX (ixT K) (oV oCo 1) xU5)))
    xV8)
   (xU6 (xU1 xU5))), ?_⟩
  refine cut2 ?_
  intro rr1
  cases wh with
  | pay t m =>
   have h1 : SqT K H c [.str "pay", .int t, .int m] := h1
   refine ⟨_, rfl, c, _, 0, _, rfl, rfl, h1, rfl, rfl, _, rfl, ?_⟩
   rw [show decide (V.str "pay" = V.str "pay") = true from decide_eq_true rfl]
   refine iteT ⟨_, rfl, c, _, 1, _, rfl, rfl, h1, rfl, _, rfl, rfl, _, rfl, ?_⟩
   rw [dec_i]
   refine ite2 (fun h => ?_) (fun h => ?_)
   ·refine ⟨_, rfl, c, _, 2, _, rfl, rfl, h1, rfl, ?_⟩
    have : xY9 n (.pay t m) = m := if_pos (by simpa using h)
    rw [this] at q
    exact q
   ·have : xY9 n (.pay t m) = 0 := if_neg (by simpa using h)
    rw [this] at q
    exact q
  | cut =>
   have h1 : SqT K H c [.str "cut"] := h1
   refine ⟨_, rfl, c, _, 0, _, rfl, rfl, h1, rfl, rfl, _, rfl, ?_⟩
   rw [show decide (V.str "cut" = V.str "pay") = false by decide +kernel]
   exact iteF (iteF q)
theorem oFr : ownB ["tray", "clock", "place"] (defScope sFirst) = true := by decide +kernel
theorem scF : FnScope ["tray", "clock", "place"] ["tray", "clock"] (defScope sFirst) := ⟨rfl, rfl, rfl, by decide +kernel, rfl, by decide +kernel, by decide +kernel⟩
theorem ok_first {f : Addr} {fd fdR : FuncData} (F : Fun K "first_ready" "first_ready" sFirst f fd) (T : Txt K mg C fN fT fC fR fF fO) (FR : Fun K "ready" "ready" sReady fR fdR) (bR : Binds K fdR ["letter", "clock"] []) : FnOk P w K mg base CX0 2 f fd ["tray", "clock"] (spFirst K) := by
 have GR : FnOk P w K mg base CX0 1 fR fdR ["letter", "clock"] (spReady K) := ok_ready FR T
 refine okB (body := [stm sFirst 0, stm sFirst 1]) F scF (fun vs H Q E h => ?_) (by kernel_rfl) (fun cdv A outer s0 H vs Q E hr h => ?_)
 ·obtain ⟨a, c, ts, ls, cs, rfl, _⟩ := h
  rfl
 ·obtain ⟨a, c, ts, ls, cs, rfl, h1, h2, h3, h4, h5, h6, q⟩ := h
  refine ⟨_, (xU8 (xQ0 PassesOwn.never rfl (rng1 T.range (aC (cB (xV9 (X := _)) T.len PySem.boot_len (aC (oV oFr 0) xU7)) xU7)) (oT oFr 2)
    (xU6 (xW4 (xW8 (cF GR hr T.ready FR.kp bR .nil xV1 (aC (iX (ixL K) (oV oFr 0) (oV oFr 2)) (aC (oV oFr 1) xU7))))
     (xU6 (xU1 (oV oFr 2)))
     xV8)))
   (xU6 (xU1 yZ1))), ?_⟩
  refine cut2 ?_
  intro rr1
  have hlen : ts.length = ls.length := by rw [xW5 h2, List.length_map]
  refine ⟨_, rfl, a, _, rfl, .inl h1, _, rfl, by omega, by omega, yY8 (n := ((ts.length : Nat) : Int).toNat) (fun i σ H2 => ∃ v, σ = [some (.ref a), some (.ref c), v] ∧ Same H H2 ∧ ∀ l ∈ ls.take i, xQ2 l.s l.st cs = false)
   ⟨none, rfl, Same.refl H, fun _ h => by simp at h⟩ ?_ ?_⟩
  ·rintro i σ H2 hi ⟨v, rfl, e1, e2⟩
   have hi' : i < ls.length := by omega
   have hget : (ls.map letD)[i]? = some (letD ls[i]) := by rw [List.getElem?_map, List.getElem?_eq_getElem hi']; rfl
   obtain ⟨x, hx, rx⟩ := xY6 h2 hget
   obtain ⟨b, rfl, L⟩ := xQ6.mp rx
   obtain ⟨g1, g2⟩ := h6 ls[i] (List.getElem_mem hi')
   refine ⟨_, rfl, _, rfl, a, _, _, _, rfl, rfl, e1.seq h1, by rw [Int.zero_add]; exact xW7 hx, _, rfl, b, c, ls[i], cs, rfl, L.imm e1.imm, e1.sqT h3, g1, g2, h4, fun H3 e3 => ⟨_, rfl, ?_⟩⟩
   cases hr : xQ2 ls[i].s ls[i].st cs with
   | true =>
    refine iteT ⟨_, rfl, ?_⟩
    have hf : xZ0 ls cs = some i := by
     unfold xZ0
     rw [List.findIdx?_eq_some_iff_getElem]
     refine ⟨hi', hr, fun j hj => ?_⟩
     have := e2 ls[j] (List.mem_take_iff_getElem.mpr ⟨j, by omega, rfl⟩)
     rw [this]; simp
    have q' := q H3 (e1.trans e3)
    rw [hf] at q'
    simpa [optV] using q'
   | false =>
    refine iteF ⟨_, rfl, e1.trans e3, fun l hl => ?_⟩
    rw [List.take_succ, List.getElem?_eq_getElem hi'] at hl
    rcases List.mem_append.mp hl with z | z
    ·exact e2 l z
    ·have : l = ls[i] := by simpa using z
     rw [this]; exact hr
  ·rintro σ H2 ⟨v, rfl, e1, e2⟩
   have hf : xZ0 ls cs = none := by
    unfold xZ0
    rw [List.findIdx?_eq_none_iff]
    intro l hl
    exact e2 l (by rw [show ((ts.length : Nat) : Int).toNat = ls.length by omega, List.take_length]; exact hl)
   have q' := q H2 e1
   rw [hf] at q'
   exact q'
end
end Of
end
namespace Of
open PySem L2 L3
structure OffX (K : PySem.W.Frag) (C : Addr) (H : Hp) (p : Addr) (o : Off) (dx cl lb lt lk : Addr) (bs ts ks : List V) : Prop where
 ob : H p = some (.ins C dx (flds o.num o.coins cl lb lt lk))
 ck : SqT K H cl (nums o.clock)
 hb : H lb = some (.lst bs)
 rb : xU3 K H o.book bs
 ht : H lt = some (.lst ts)
 rt : xU3 K H (o.tray.map letD) ts
 hk : H lk = some (.lst ks)
 rk : xU3 K H o.kept ks
 nb : xW1 o.book = true
 nk : xW1 o.kept = true
section
variable {K : PySem.W.Frag} {C : Addr} {H H4 H' : Hp} {p : Addr} {o : Off} {dx cl lb lt lk q : Addr} {bs ts ks xs : List V}
theorem OffAt.x (h : OffAt K C H p o) : ∃ dx cl lb lt lk bs ts ks, OffX K C H p o dx cl lb lt lk bs ts ks := by
 obtain ⟨⟨dx, cl, lb, lt, lk, bs, ts, ks, h1, h2, h3, h4, h5, h6, h7, h8⟩, nb, nk⟩ := h
 exact ⟨dx, cl, lb, lt, lk, bs, ts, ks, h1, h2, h3, h4, h5, h6, h7, h8, nb, nk⟩
theorem OffX.at_ (h : OffX K C H p o dx cl lb lt lk bs ts ks) : OffAt K C H p o := ⟨⟨dx, cl, lb, lt, lk, bs, ts, ks, h.ob, h.ck, h.hb, h.rb, h.ht, h.rt, h.hk, h.rk⟩, h.nb, h.nk⟩
theorem OffX.same (h : OffX K C H p o dx cl lb lt lk bs ts ks) (e : Same H H') : OffX K C H' p o dx cl lb lt lk bs ts ks :=
 ⟨e _ _ h.ob, e.sqT h.ck, e _ _ h.hb, xU3.same e _ _ h.rb, e _ _ h.ht, xU3.same e _ _ h.rt, e _ _ h.hk, xU3.same e _ _ h.rk, h.nb, h.nk⟩
theorem lst_ne {u : List V} {c d : Addr} {fs : List (Str × V)} (h1 : H q = some (.lst u)) (h2 : H p = some (.ins c d fs)) : q ≠ p := ne_of h1 h2 (by intro z; cases z)
theorem xQ5 {b : Addr} {u : List V} {fs gs : List (Str × V)} (hp : H p = some (.ins C dx fs)) (h : H b = some (.lst u)) : (upd H p (.ins C dx gs)) b = some (.lst u) := (xU2 (lst_ne h hp)).trans h
theorem OffX.setCoins (h : OffX K C H p o dx cl lb lt lk bs ts ks) (c : Int) : OffX K C (upd H p (.ins C dx (putF "coins" (.int c) (flds o.num o.coins cl lb lt lk)))) p { o with coins := c } dx cl lb lt lk bs ts ks :=
 have e := vW5 (C' := C) (dx' := dx) (gs := putF "coins" (.int c) (flds o.num o.coins cl lb lt lk)) h.ob
 ⟨by rw [xU9, put_coins], e.sqT h.ck, xQ5 h.ob h.hb, xU3.imm e _ _ h.nb h.rb, xQ5 h.ob h.ht, xU3.imm e _ _ (xX8 _) h.rt, xQ5 h.ob h.hk, xU3.imm e _ _ h.nk h.rk, h.nb, h.nk⟩
theorem OffX.setClock (h : OffX K C H p o dx cl lb lt lk bs ts ks) {cs : List Int} (hc : SqT K H q (nums cs)) : OffX K C (upd H p (.ins C dx (putF "clock" (.ref q) (flds o.num o.coins cl lb lt lk)))) p { o with clock := cs } dx q lb lt lk bs ts ks :=
 have e := vW5 (C' := C) (dx' := dx) (gs := putF "clock" (.ref q) (flds o.num o.coins cl lb lt lk)) h.ob
 ⟨by rw [xU9, put_clock], e.sqT hc, xQ5 h.ob h.hb, xU3.imm e _ _ h.nb h.rb, xQ5 h.ob h.ht, xU3.imm e _ _ (xX8 _) h.rt, xQ5 h.ob h.hk, xU3.imm e _ _ h.nk h.rk, h.nb, h.nk⟩
theorem OffX.setBook (h : OffX K C H p o dx cl lb lt lk bs ts ks) {ds : List PyData} (hq : H q = some (.lst xs)) (rq : xU3 K H ds xs) (nq : xW1 ds = true) : OffX K C (upd H p (.ins C dx (putF "book" (.ref q) (flds o.num o.coins cl lb lt lk)))) p { o with book := ds } dx cl q lt lk xs ts ks :=
 have e := vW5 (C' := C) (dx' := dx) (gs := putF "book" (.ref q) (flds o.num o.coins cl lb lt lk)) h.ob
 ⟨by rw [xU9, put_book], e.sqT h.ck, xQ5 h.ob hq, xU3.imm e _ _ nq rq, xQ5 h.ob h.ht, xU3.imm e _ _ (xX8 _) h.rt, xQ5 h.ob h.hk, xU3.imm e _ _ h.nk h.rk, nq, h.nk⟩
theorem OffX.setTray (h : OffX K C H p o dx cl lb lt lk bs ts ks) {ls : List Let} (hq : H q = some (.lst xs)) (rq : xU3 K H (ls.map letD) xs) : OffX K C (upd H p (.ins C dx (putF "tray" (.ref q) (flds o.num o.coins cl lb lt lk)))) p { o with tray := ls } dx cl lb q lk bs xs ks :=
 have e := vW5 (C' := C) (dx' := dx) (gs := putF "tray" (.ref q) (flds o.num o.coins cl lb lt lk)) h.ob
 ⟨by rw [xU9, put_tray], e.sqT h.ck, xQ5 h.ob h.hb, xU3.imm e _ _ h.nb h.rb, xQ5 h.ob hq, xU3.imm e _ _ (xX8 _) rq, xQ5 h.ob h.hk, xU3.imm e _ _ h.nk h.rk, h.nb, h.nk⟩
theorem OffX.setKept (h : OffX K C H p o dx cl lb lt lk bs ts ks) {ds : List PyData} (hq : H q = some (.lst xs)) (rq : xU3 K H ds xs) (nq : xW1 ds = true) : OffX K C (upd H p (.ins C dx (putF "kept" (.ref q) (flds o.num o.coins cl lb lt lk)))) p { o with kept := ds } dx cl lb lt q bs ts xs :=
 have e := vW5 (C' := C) (dx' := dx) (gs := putF "kept" (.ref q) (flds o.num o.coins cl lb lt lk)) h.ob
 ⟨by rw [xU9, put_kept], e.sqT h.ck, xQ5 h.ob h.hb, xU3.imm e _ _ h.nb h.rb, xQ5 h.ob h.ht, xU3.imm e _ _ (xX8 _) h.rt, xQ5 h.ob hq, xU3.imm e _ _ nq rq, h.nb, nq⟩
theorem SameX.imm {fs : List (Str × V)} (e : SameX p H H') (hp : H p = some (.ins C dx fs)) : Imm H H' :=
 ⟨fun b xs h => e.keep b _ h (ne_of h hp (by intro z; cases z)), fun b u v h => e.keep b _ h (ne_of h hp (by intro z; cases z))⟩
theorem SameX.lst {fs : List (Str × V)} {b : Addr} (e : SameX p H H') (hp : H p = some (.ins C dx fs)) (h : H b = some (.lst xs)) : H' b = some (.lst xs) := e.keep b _ h (lst_ne h hp)
theorem sx_coins (h : OffX K C H4 p o dx cl lb lt lk bs ts ks) (e : SameX p H H4) {c : Int} : SameX p H (upd H4 p (.ins C dx (putF "coins" (.int c) (flds o.num o.coins cl lb lt lk)))) := by rw [put_coins]; exact sx_set e h.ob (.inl rfl) (.inl rfl) (.inl rfl)
theorem sx_clock (h : OffX K C H4 p o dx cl lb lt lk bs ts ks) (e : SameX p H H4) : SameX p H (upd H4 p (.ins C dx (putF "clock" (.ref q) (flds o.num o.coins cl lb lt lk)))) := by rw [put_clock]; exact sx_set e h.ob (.inl rfl) (.inl rfl) (.inl rfl)
theorem sx_book (h : OffX K C H4 p o dx cl lb lt lk bs ts ks) (e : SameX p H H4) (hq : H q = none) : SameX p H (upd H4 p (.ins C dx (putF "book" (.ref q) (flds o.num o.coins cl lb lt lk)))) := by rw [put_book]; exact sx_set e h.ob (.inr hq) (.inl rfl) (.inl rfl)
theorem sx_tray (h : OffX K C H4 p o dx cl lb lt lk bs ts ks) (e : SameX p H H4) (hq : H q = none) : SameX p H (upd H4 p (.ins C dx (putF "tray" (.ref q) (flds o.num o.coins cl lb lt lk)))) := by rw [put_tray]; exact sx_set e h.ob (.inl rfl) (.inr hq) (.inl rfl)
theorem sx_kept (h : OffX K C H4 p o dx cl lb lt lk bs ts ks) (e : SameX p H H4) (hq : H q = none) : SameX p H (upd H4 p (.ins C dx (putF "kept" (.ref q) (flds o.num o.coins cl lb lt lk)))) := by rw [put_kept]; exact sx_set e h.ob (.inl rfl) (.inl rfl) (.inr hq)
theorem OffX.other (h : OffX K C H p o dx cl lb lt lk bs ts ks) {b : Addr} {ys : List V} (hb : H b = some (.lst xs)) (n1 : b ≠ lb) (n2 : b ≠ lt) (n3 : b ≠ lk) : OffX K C (upd H b (.lst ys)) p o dx cl lb lt lk bs ts ks :=
 have e := xX5 (ys := ys) hb
 ⟨(xU2 (lst_ne hb h.ob).symm).trans h.ob, e.sqT h.ck, (xU2 n1.symm).trans h.hb, xU3.imm e _ _ h.nb h.rb, (xU2 n2.symm).trans h.ht, xU3.imm e _ _ (xX8 _) h.rt, (xU2 n3.symm).trans h.hk, xU3.imm e _ _ h.nk h.rk, h.nb, h.nk⟩
theorem SameX.seq {fs : List (Str × V)} {b : Addr} (e : SameX p H H') (hp : H p = some (.ins C dx fs)) (h : SqL K H b xs) : SqL K H' b xs := by
 rcases h with (h | ⟨u, h⟩) | h
 ·exact .inl (.inl (e.lst hp h))
 ·exact .inl (.inr ⟨u, (e.imm hp).frz _ _ _ h⟩)
 ·exact .inr h
end
def All2 {α : Type} (R : α → V → Prop) : List α → List V → Prop
 | [], xs => xs = []
 | a :: as, xs => ∃ x r, xs = x :: r ∧ R a x ∧ All2 R as r
section
variable {α : Type} {R R' : α → V → Prop}
theorem All2.mono (h : ∀ a x, R a x → R' a x) : ∀ {as : List α} {xs : List V}, All2 R as xs → All2 R' as xs
 | [], _, e => e
 | a :: as, _, ⟨x, r, e, h1, h2⟩ => ⟨x, r, e, h a x h1, h2.mono h⟩
theorem All2.append : ∀ {as bs : List α} {xs ys : List V}, All2 R as xs → All2 R bs ys → All2 R (as ++ bs) (xs ++ ys)
 | [], bs, xs, ys, e, h => by
  have : xs = [] := e
  subst this; exact h
 | a :: as, bs, _, ys, ⟨x, r, e, h1, h2⟩, h => by subst e; exact ⟨x, r ++ ys, rfl, h1, h2.append h⟩
theorem All2.one {a : α} {x : V} (h : R a x) : All2 R [a] [x] := ⟨x, [], rfl, h, rfl⟩
theorem All2.len : ∀ {as : List α} {xs : List V}, All2 R as xs → xs.length = as.length
 | [], xs, e => by
  have : xs = [] := e
  subst this; rfl
 | a :: as, _, ⟨x, r, e, h1, h2⟩ => by subst e; simp only [List.length_cons, h2.len]
theorem All2.get : ∀ {as : List α} {xs : List V} {i : Nat} {a : α}, All2 R as xs → as[i]? = some a → ∃ x, xs[i]? = some x ∧ R a x
 | [], xs, i, a, h, e => by simp at e
 | b :: as, _, i, a, ⟨x, r, e, h1, h2⟩, g => by
  subst e
  cases i with
  | zero => simp at g; subst g; exact ⟨x, rfl, h1⟩
  | succ j =>
   obtain ⟨y, g1, g2⟩ := h2.get (i := j) (by simpa using g)
   exact ⟨y, by simpa using g1, g2⟩
theorem All2.reps {K : PySem.W.Frag} {H : Hp} {f : α → PyData} (h : ∀ a x, R a x → RepD K H (f a) x) : ∀ {as : List α} {xs : List V}, All2 R as xs → xU3 K H (as.map f) xs
 | [], xs, e => e
 | a :: as, _, ⟨x, r, e, h1, h2⟩ => by
  subst e
  simp only [List.map_cons, xU3]
  exact ⟨x, r, rfl, h a x h1, h2.reps h⟩
end
def NmV (H : Hp) (l : Let) (v : V) : Prop := ∃ b, v = .ref b ∧ H b = some (.tup [.int l.s, .int (xV4 l)])
theorem NmV.imm {H H' : Hp} (e : Imm H H') {l : Let} {v : V} : NmV H l v → NmV H' l v
 | ⟨b, e1, h⟩ => ⟨b, e1, e.tup _ _ h⟩
theorem NmVs.imm {H H' : Hp} (e : Imm H H') {ls : List Let} {xs : List V} (h : All2 (NmV H) ls xs) : All2 (NmV H') ls xs := h.mono fun _ _ => NmV.imm e
theorem NmV.rep {K : PySem.W.Frag} {H : Hp} {l : Let} {v : V} : NmV H l v → RepD K H (xW6 l) v
 | ⟨b, e, h⟩ => by
  subst e
  simp only [xW6, nmD, RepD, xU3]
  exact ⟨b, _, rfl, SqT.of h, _, _, rfl, rfl, _, _, rfl, rfl, rfl⟩
theorem NmVs.reps {K : PySem.W.Frag} {H : Hp} {ls : List Let} {xs : List V} (h : All2 (NmV H) ls xs) : xU3 K H (ls.map xW6) xs := All2.reps (f := xW6) (fun _ _ q => NmV.rep q) h
def Fit (n : Nat) (l : Let) : Prop := l.s < n ∧ l.st.length = n
structure Fine (n k : Nat) (o : Off) : Prop where
 cl : o.clock.length = n
 n1 : n ≤ 1000
 tr : ∀ l ∈ o.tray, Fit n l
 nt : o.tray.length ≤ k
 nb : o.book.length ≤ 10 * k
 nk : o.kept.length ≤ 10 * k
def spInit (K : PySem.W.Frag) (C : Addr) : Sp := fun vs H Q _ => ∃ (p dx : Addr) (num coins : Int) (n : Nat), vs = [.ref p, .int num, .int n, .int coins] ∧ H p = some (.ins C dx []) ∧ 2 ≤ n ∧ n < 1000 ∧
 ∀ H', OffAt K C H' p ⟨num, coins, List.replicate n 0, [], [], []⟩ → SameX p H H' → Q .non H'
def spWrite (K : PySem.W.Frag) (C : Addr) : Sp := fun vs H Q _ => ∃ (p a : Addr) (how : Str) (o : Off) (l : Let), vs = [.ref p, .str how, .ref a] ∧ OffAt K C H p o ∧ yZ5 K H a l ∧ l.s < l.st.length ∧ o.book.length ≤ 100000 ∧ o.kept.length ≤ 100000 ∧
 ∀ H', OffAt K C H' p (vU8 o how l) → SameX p H H' → Q .non H'
def spNew (K : PySem.W.Frag) (C : Addr) : Sp := fun vs H Q _ => ∃ (p a : Addr) (o : Off) (l : Let), vs = [.ref p, .ref a] ∧ OffAt K C H p o ∧ yZ5 K H a l ∧ l.s < l.st.length ∧ l.s < o.clock.length ∧ o.tray.length ≤ 1000 ∧ (∀ m ∈ o.tray, m.s < m.st.length) ∧
 ∀ H', Same H H' → Q (.bl (newB o l)) H'
def spHand (K : PySem.W.Frag) (C : Addr) : Sp := fun vs H Q _ => ∃ (p : Addr) (i n : Nat) (o : Off) (l : Let), vs = [.ref p, .int i] ∧ OffAt K C H p o ∧ o.tray[i]? = some l ∧ Fine n 1000 o ∧
 ∀ r H', OffAt K C H' p (xW3 o i l) → NmV H' l r → SameX p H H' → Q r H'
def spTake (K : PySem.W.Frag) (C : Addr) : Sp := fun vs H Q _ => ∃ (p a : Addr) (n : Nat) (o : Off) (l : Let), vs = [.ref p, .ref a] ∧ OffAt K C H p o ∧ yZ5 K H a l ∧ Fit n l ∧ Fine n 900 o ∧
 ∀ (ln : Addr) (xs : List V) (H' : Hp), OffAt K C H' p (took o l).2 → H ln = none → H' ln = some (.lst xs) → All2 (NmV H') (took o l).1 xs → ¬ Refs (H' p) ln → SameX p H H' → Q (.ref ln) H'
theorem name_rep {K : PySem.W.Frag} {H : Hp} {q : Addr} {l : Let} (h : SqT K H q [.int l.s, .int (xV4 l)]) : RepD K H (xW6 l) (.ref q) := by
 simp only [xW6, nmD, RepD, xU3]
 exact ⟨q, _, rfl, h, _, _, rfl, rfl, _, _, rfl, rfl, rfl⟩
end Of
section
seal L2.PE L2.PT L2.PW L2.PA L2.PS L2.PSs L2.PG L2.PGs L2.PI L3.PTs L2.PO L2.CallR L2.OpR L2.IxR L2.MtR L2.PSet L2.SlR
namespace Of
open PySem L2 L3
section
variable {P : Program} {w : World} {K : PySem.W.Frag} {mg : Str → Option Value} {base : Heap} {C fN fT fC fR fF fO : Addr}
theorem few6 {n c : Int} {cl lb lt lk : Addr} : (flds n c cl lb lt lk).length < 1000 := by show 6 < 1000; decide
theorem big (n : Nat) (h : n ≤ 1000000) : n ≤ sizeLine := Nat.le_trans h (by decide)
theorem pl {f : Str} {v : V} {fs : List (Str × V)} {n : Nat} (h : fs.length ≤ n) : (putF f v fs).length ≤ n + 1 := Nat.le_trans (vU3 _ _ _) (Nat.succ_le_succ h)
theorem oI : ownB ["self", "number", "count", "coins"] (defScope sInit) = true := by decide +kernel
theorem scI : FnScope ["self", "number", "count", "coins"] ["self", "number", "count", "coins"] (defScope sInit) := ⟨rfl, rfl, rfl, by decide +kernel, rfl, by decide +kernel, by decide +kernel⟩
theorem rep0 (n : Nat) : (List.replicate n [V.int 0]).flatten = nums (List.replicate n 0) := by
 induction n with
 | zero => rfl
 | succ n ih => rw [List.replicate_succ, List.flatten_cons, ih]; rfl
theorem ok_init {f : Addr} {fd : FuncData} (F : Fun K "__init__" "Office.__init__" sInit f fd) (T : Txt K mg C fN fT fC fR fF fO) : FnOk P w K mg base CX0 1 f fd ["self", "number", "count", "coins"] (spInit K C) := by
 refine okB (body := [stm sInit 0, stm sInit 1, stm sInit 2, stm sInit 3, stm sInit 4, stm sInit 5]) F scI (fun vs H Q E h => ?_) (by kernel_rfl) (fun cdv A outer s0 H vs Q E hr h => ?_)
 ·obtain ⟨p, dx, num, coins, n, rfl, _⟩ := h
  rfl
 ·obtain ⟨p, dx, num, coins, n, rfl, hp, hn2, hn, k⟩ := h
  refine ⟨_, (xU8 (yU2 (oV oI 0) (oV oI 1) rfl)
   (xU8 (yU2 (oV oI 0) (oV oI 3) rfl)
   (xU8 (yU2 (oV oI 0) (xV2 op_repT (xZ6 (aC xU5 xU7)) (oV oI 2)) rfl)
   (xU8 (yU2 (oV oI 0) (xQ8 xU7) rfl)
   (xU8 (yU2 (oV oI 0) (xQ8 xU7) rfl)
   (xU6 (yU2 (oV oI 0) (xQ8 xU7) rfl))))))), ?_⟩
  refine cut6 ?_
  intro rr5 rr4 rr3 rr2 rr1
  refine ⟨_, rfl, _, rfl, p, C, dx, _, rfl, hp, T.cl, T.nN, (by show 0 < 1000; decide), ?_⟩
  refine ⟨_, rfl, _, rfl, p, C, dx, _, rfl, xU9, T.cl, T.nC, (by show 1 < 1000; decide), ?_⟩
  refine ⟨len1, fun pz nz => ?_⟩
  have npz : p ≠ pz := fun e => by rw [← e, xU9] at nz; cases nz
  refine ⟨_, rfl, pz, (n : Int), _, rfl, rfl, SqT.of xU9, by simp, by omega, by omega, by show 1 ≤ 1000; decide, fun pc nc => ?_⟩
  have npc : p ≠ pc := fun e => by rw [← e, xU2 npz, xU9] at nc; cases nc
  refine ⟨_, rfl, p, C, dx, _, rfl, (xU2 npc).trans ((xU2 npz).trans xU9), T.cl, T.nK, (Nat.lt_of_le_of_lt (pl (pl (Nat.le_refl 0))) (by decide)), ?_⟩
  refine ⟨len0, fun pb nb => ?_⟩
  have npb : p ≠ pb := fun e => by rw [← e, xU9] at nb; cases nb
  refine ⟨_, rfl, p, C, dx, _, rfl, (xU2 npb).trans xU9, T.cl, T.nB, (Nat.lt_of_le_of_lt (pl (pl (pl (Nat.le_refl 0)))) (by decide)), ?_⟩
  refine ⟨len0, fun pt nt => ?_⟩
  have npt : p ≠ pt := fun e => by rw [← e, xU9] at nt; cases nt
  refine ⟨_, rfl, p, C, dx, _, rfl, (xU2 npt).trans xU9, T.cl, T.nT, (Nat.lt_of_le_of_lt (pl (pl (pl (pl (Nat.le_refl 0))))) (by decide)), ?_⟩
  refine ⟨len0, fun pk nk => ?_⟩
  have npk : p ≠ pk := fun e => by rw [← e, xU9] at nk; cases nk
  refine ⟨_, rfl, p, C, dx, _, rfl, (xU2 npk).trans xU9, T.cl, T.nE, (Nat.lt_of_le_of_lt (pl (pl (pl (pl (pl (Nat.le_refl 0)))))) (by decide)), ?_⟩
  have nbc : pb ≠ pc := fun e => by rw [e, xU2 npc.symm, xU9] at nb; cases nb
  have ntc : pt ≠ pc := fun e => by rw [e, xU2 npc.symm, xU2 nbc.symm, xU2 npc.symm, xU9] at nt; cases nt
  have ntb : pt ≠ pb := fun e => by rw [e, xU2 npb.symm, xU9] at nt; cases nt
  have nkc : pk ≠ pc := fun e => by rw [e, xU2 npc.symm, xU2 ntc.symm, xU2 npc.symm, xU2 nbc.symm, xU2 npc.symm, xU9] at nk; cases nk
  have nkb : pk ≠ pb := fun e => by rw [e, xU2 npb.symm, xU2 ntb.symm, xU2 npb.symm, xU9] at nk; cases nk
  have nkt : pk ≠ pt := fun e => by rw [e, xU2 npt.symm, xU9] at nk; cases nk
  refine k _ ⟨⟨dx, pc, pb, pt, pk, [], [], [], ?_, ?_, ?_, rfl, ?_, rfl, ?_, rfl⟩, rfl, rfl⟩ ?_
  ·rw [xU9, put_all]
  ·refine SqT.of ?_
   rw [xU2 npc.symm, xU2 nkc.symm, xU2 npc.symm, xU2 ntc.symm, xU2 npc.symm, xU2 nbc.symm, xU2 npc.symm, xU9, Int.toNat_natCast, rep0]
  ·rw [xU2 npb.symm, xU2 nkb.symm, xU2 npb.symm, xU2 ntb.symm, xU2 npb.symm, xU9]
  ·rw [xU2 npt.symm, xU2 nkt.symm, xU2 npt.symm, xU9]
  ·rw [xU2 npk.symm, xU9]
  ·have hx : ∃ u, H p = some u := ⟨_, hp⟩
   have z1 : ∀ {o : HO} {b : Addr}, (upd H p o) b = none → H b = none := fun {o b} z => by
    by_cases hb : b = p
    ·rw [hb, xU9] at z; cases z
    ·rw [xU2 hb] at z; exact z
   have z2 : ∀ {G : Hp} {q b : Addr} {o : HO}, (upd G q o) b = none → G b = none := fun {G q b o} z => by
    by_cases hb : b = q
    ·rw [hb, xU9] at z; cases z
    ·rw [xU2 hb] at z; exact z
   have fb : H pb = none := z1 (z2 (z2 (z2 (z2 nb))))
   have ft : H pt = none := z1 (z2 (z2 (z2 (z2 (z2 (z2 nt))))))
   have fk : H pk = none := z1 (z2 (z2 (z2 (z2 (z2 (z2 (z2 (z2 nk))))))))
   refine ⟨fun b u hb nbp => ?_, fun b hb => ?_, hx⟩
   ·have nb1 : b ≠ pb := fun e => by rw [e, fb] at hb; cases hb
    have nt1 : b ≠ pt := fun e => by rw [e, ft] at hb; cases hb
    have nk1 : b ≠ pk := fun e => by rw [e, fk] at hb; cases hb
    have nz1 : b ≠ pz := fun e => by rw [e, z1 (z2 nz)] at hb; cases hb
    have nc1 : b ≠ pc := fun e => by rw [e, z1 (z2 (z2 nc))] at hb; cases hb
    rw [xU2 nbp, xU2 nk1, xU2 nbp, xU2 nt1, xU2 nbp, xU2 nb1, xU2 nbp, xU2 nc1, xU2 nz1, xU2 nbp, xU2 nbp]
    exact hb
   ·rw [xU9, put_all, xX2] at hb
    rcases hb with rfl | rfl | rfl
    ·exact .inr fb
    ·exact .inr ft
    ·exact .inr fk
theorem oW : ownB ["self", "how", "letter", "name"] (defScope sWrite) = true := by decide +kernel
theorem scW : FnScope ["self", "how", "letter", "name"] ["self", "how", "letter"] (defScope sWrite) := ⟨rfl, rfl, rfl, by decide +kernel, rfl, by decide +kernel, by decide +kernel⟩
theorem ok_write {f : Addr} {fd fdN : FuncData} (F : Fun K "write_in_book" "Office.write_in_book" sWrite f fd) (T : Txt K mg C fN fT fC fR fF fO) (FN : Fun K "name_of" "name_of" sName fN fdN) (bN : Binds K fdN ["letter"] []) : FnOk P w K mg base CX0 2 f fd ["self", "how", "letter"] (spWrite K C) := by
 have GN : FnOk P w K mg base CX0 1 fN fdN ["letter"] (yQ1 K) := vW7 FN
 refine okB (body := [stm sWrite 0, stm sWrite 1, stm sWrite 2]) F scW (fun vs H Q E h => ?_) (by kernel_rfl) (fun cdv A outer s0 H vs Q E hr h => ?_)
 ·obtain ⟨p, a, how, o, l, rfl, _⟩ := h
  rfl
 ·obtain ⟨p, a, how, o, l, rfl, O, L, hl, b1, b2, k⟩ := h
  have hrN := hr
  obtain ⟨dx, cl, lb, lt, lk, bs, ts, ks, X⟩ := O.x
  refine ⟨_, (xU8 (oS oW 3 (cF GN hrN T.name_of FN.kp bN .nil xV1 (aC (oV oW 2) xU7)))
   (xU8 (yU2 (oV oW 0) (xV2 op_cat (xX9 (oV oW 0) rfl) (xQ8 (aC (xZ6 (aC (oV oW 1) (aC (oV oW 3) xU7))) xU7))) rfl)
   (xU6 (xW4 (xV7 yX0 (iX (ixT K) (iX (ixT K) (oV oW 2) xU5) xU5) xY8 (xV5 _))
    (xU6 (yU2 (oV oW 0) (xV2 op_cat (xX9 (oV oW 0) rfl) (xQ8 (aC (xZ6 (aC (oV oW 3) (aC (xX9 (oV oW 0) rfl) (aC (xX9 (oV oW 0) rfl) xU7)))) xU7))) rfl))
    xV8)))), ?_⟩
  refine cut3 ?_
  intro rr2 rr1
  refine ⟨_, rfl, a, l, rfl, L, hl, fun pn nn => ?_⟩
  have s1 := xU4 (o := .tup [.int l.s, .int (xV4 l)]) nn
  have X1 := X.same s1
  refine ⟨_, rfl, p, C, dx, _, _, rfl, X1.ob, T.cl, T.nB, at_book, _, rfl, _, rfl, len2, fun pt nt => ⟨len1, fun pl nl => ?_⟩⟩
  have s2 := xU4 (o := .tup [.str how, .ref pn]) nt
  have s3 := xU4 (o := .lst [.ref pt]) nl
  have X3 := (X1.same s2).same s3
  have lenb : bs.length = o.book.length := xW5 X.rb
  refine ⟨lb, pl, _, _, rfl, rfl, X3.hb, xU9, by rw [List.length_singleton]; exact big _ (by omega), fun pb nb => ?_⟩
  have s4 := xU4 (o := .lst (bs ++ [.ref pt])) nb
  have X4 := X3.same s4
  refine ⟨_, rfl, p, C, dx, _, rfl, X4.ob, T.cl, T.nB, few6, ?_⟩
  have hpn : SqT K (upd H pn (.tup [.int l.s, .int (xV4 l)])) pn [.int l.s, .int (xV4 l)] := SqT.of xU9
  have hname : RepD K (upd H pn (.tup [.int l.s, .int (xV4 l)])) (xW6 l) (.ref pn) := name_rep hpn
  have hbk : RepD K (upd (upd H pn (.tup [.int l.s, .int (xV4 l)])) pt (.tup [.str how, .ref pn])) (bookD how l) (.ref pt) := by
   simp only [bookD, RepD, xU3]
   exact ⟨pt, _, rfl, SqT.of xU9, _, _, rfl, rfl, _, _, rfl, RepD.same s2 _ _ hname, rfl⟩
  have nbook : xW1 (o.book ++ [bookD how l]) = true := by
   have : ∀ ds : List PyData, xW1 ds = true → xW1 (ds ++ [bookD how l]) = true := by
    intro ds
    induction ds with
    | nil => intro _; rfl
    | cons d ds ih =>
     intro h
     simp only [xW1, Bool.and_eq_true, List.cons_append] at h ⊢
     exact ⟨h.1, ih h.2⟩
   exact this _ X.nb
  have X5 := X4.setBook (q := pb) (xs := bs ++ [.ref pt]) (ds := o.book ++ [bookD how l]) xU9 (xU3.same s4 _ _ (xY7 X3.rb (yW9 (RepD.same s3 _ _ hbk)))) nbook
  have sx5 := sx_book (q := pb) X4 (xQ3 X.ob (((s1.trans s2).trans s3).trans s4)) (((s1.trans s2).trans s3).free nb)
  have i5 := sx5.imm X.ob
  obtain ⟨b, c, g1, g2, g3⟩ := L.imm i5
  cases hw : l.w with
  | pay tt mm =>
   rw [hw] at g3
   have g3 : SqT K _ c [.str "pay", .int tt, .int mm] := g3
   refine ⟨_, rfl, a, _, 2, _, rfl, rfl, g1, rfl, c, _, 0, _, rfl, rfl, g3, rfl, rfl, _, rfl, ?_⟩
   rw [show decide (V.str "pay" = V.str "cut") = false by decide +kernel]
   refine iteF ?_
   have e : vU8 o how l = { o with book := o.book ++ [bookD how l] } := by unfold vU8; rw [hw, if_neg (by intro z; cases z)]
   exact k _ (by rw [e]; exact X5.at_) sx5
  | cut =>
   rw [hw] at g3
   have g3 : SqT K _ c [.str "cut"] := g3
   refine ⟨_, rfl, a, _, 2, _, rfl, rfl, g1, rfl, c, _, 0, _, rfl, rfl, g3, rfl, rfl, _, rfl, ?_⟩
   rw [show decide (V.str "cut" = V.str "cut") = true from decide_eq_true rfl]
   refine iteT ?_
   have lenk : ks.length = o.kept.length := xW5 X.rk
   refine ⟨_, rfl, p, C, dx, _, _, rfl, X5.ob, T.cl, T.nE, at_kept, _, rfl, _, rfl, p, C, dx, _, _, rfl, X5.ob, T.cl, T.nC, at_coins, _, rfl, p, C, dx, _, _, rfl, X5.ob, T.cl, T.nK, yW7, len3, fun pt2 nt2 => ⟨len1, fun pl2 nl2 => ?_⟩⟩
   have s6 := xU4 (o := .tup [.ref pn, .int o.coins, .ref cl]) nt2
   have s7 := xU4 (o := .lst [.ref pt2]) nl2
   have X7 := (X5.same s6).same s7
   refine ⟨lk, pl2, _, _, rfl, rfl, X7.hk, xU9, by rw [List.length_singleton]; exact big _ (by omega), fun pk nk => ?_⟩
   have s8 := xU4 (o := .lst (ks ++ [.ref pt2])) nk
   have X8 := X7.same s8
   refine ⟨_, rfl, p, C, dx, _, rfl, X8.ob, T.cl, T.nE, few6, ?_⟩
   have hname6 := RepD.same s6 _ _ (RepD.imm (vW5 (C' := C) (dx' := dx) (gs := putF "book" (.ref pb) (flds o.num o.coins cl lb lt lk)) X4.ob) _ _ (yY1 l) (RepD.same s4 _ _ (RepD.same s3 _ _ (RepD.same s2 _ _ hname))))
   have hkp : RepD K (upd (upd (upd (upd (upd (upd H pn (.tup [.int l.s, .int (xV4 l)])) pt (.tup [.str how, .ref pn])) pl (.lst [.ref pt])) pb (.lst (bs ++ [.ref pt]))) p (.ins C dx (putF "book" (.ref pb) (flds o.num o.coins cl lb lt lk)))) pt2 (.tup [.ref pn, .int o.coins, .ref cl])) (vU1 l o.coins o.clock) (.ref pt2) := by
    simp only [vU1, RepD, xU3]
    exact ⟨pt2, _, rfl, SqT.of xU9, _, _, rfl, hname6, _, _, rfl, rfl, _, _, rfl, ⟨cl, _, rfl, s6.sqT X5.ck, yV5.mpr rfl⟩, rfl⟩
   have nkept : xW1 (o.kept ++ [vU1 l o.coins o.clock]) = true := by
    have h0 : yZ6 (vU1 l o.coins o.clock) = true := by simp only [vU1, yZ6, xW1, yY1, vU4, Bool.and_true]
    have : ∀ ds : List PyData, xW1 ds = true → xW1 (ds ++ [vU1 l o.coins o.clock]) = true := by
     intro ds
     induction ds with
     | nil => intro _; simp only [List.nil_append, xW1, h0, Bool.and_true]
     | cons d ds ih =>
      intro h
      simp only [xW1, Bool.and_eq_true, List.cons_append] at h ⊢
      exact ⟨h.1, ih h.2⟩
    exact this _ X.nk
   have X9 := X8.setKept (q := pk) (xs := ks ++ [.ref pt2]) (ds := o.kept ++ [vU1 l o.coins o.clock]) xU9 (xU3.same s8 _ _ (xY7 X7.rk (yW9 (RepD.same s7 _ _ hkp)))) nkept
   have e : vU8 o how l = { o with book := o.book ++ [bookD how l], kept := o.kept ++ [vU1 l o.coins o.clock] } := by unfold vU8; rw [hw, if_pos rfl]
   exact k _ (by rw [e]; exact X9.at_) (sx_kept X8 (sx5.trans (xQ3 X5.ob ((s6.trans s7).trans s8))) (sx5.free ⟨_, X5.ob⟩ ((s6.trans s7).free nk)))
end
end Of
end
section
seal L2.PE L2.PT L2.PW L2.PA L2.PS L2.PSs L2.PG L2.PGs L2.PI L3.PTs L2.PO L2.CallR L2.OpR L2.IxR L2.MtR L2.PSet L2.SlR
namespace Of
open PySem L2 L3
section
variable {P : Program} {w : World} {K : PySem.W.Frag} {mg : Str → Option Value} {base : Heap} {C fN fT fC fR fF fO : Addr}
theorem no_isnew {n c : Int} {cl lb lt lk : Addr} : (flds n c cl lb lt lk).lookup ("is_new" : Str) = none := by kernel_rfl
theorem no_hand {n c : Int} {cl lb lt lk : Addr} : (flds n c cl lb lt lk).lookup ("hand_over" : Str) = none := by kernel_rfl
theorem no_write {n c : Int} {cl lb lt lk : Addr} : (flds n c cl lb lt lk).lookup ("write_in_book" : Str) = none := by kernel_rfl
theorem no_take {n c : Int} {cl lb lt lk : Addr} : (flds n c cl lb lt lk).lookup ("take" : Str) = none := by kernel_rfl
theorem vX5 : ∀ ls : List Let, xW1 (ls.map xW6) = true
 | [] => rfl
 | l :: ls => by simp only [List.map_cons, xW1, yY1, Bool.true_and]; exact vX5 ls
theorem lay_names : ∀ ls : List Let, PyData.canLayAll0 (ls.map xW6) = true
 | [] => rfl
 | l :: ls => by simp only [List.map_cons, PyData.canLayAll0, lay_names ls, Bool.and_true]; rfl
theorem yW6 (l : Let) : (xW6 l).depth ≤ 10 := by simp [xW6, nmD, PyData.depth, PyData.depthAll]
theorem oNw : ownB ["self", "letter", "name"] (defScope sIsNew) = true := by decide +kernel
theorem scNw : FnScope ["self", "letter", "name"] ["self", "letter"] (defScope sIsNew) := ⟨rfl, rfl, rfl, by decide +kernel, rfl, by decide +kernel, by decide +kernel⟩
theorem ok_isnew {f : Addr} {fd fdN fdT : FuncData} (F : Fun K "is_new" "Office.is_new" sIsNew f fd) (T : Txt K mg C fN fT fC fR fF fO) (FN : Fun K "name_of" "name_of" sName fN fdN) (bN : Binds K fdN ["letter"] [])
  (FT : Fun K "is_there" "is_there" sThere fT fdT) (bT : Binds K fdT ["name", "clock"] []) : FnOk P w K mg base CX0 2 f fd ["self", "letter"] (spNew K C) := by
 have GN : FnOk P w K mg base CX0 1 fN fdN ["letter"] (yQ1 K) := vW7 FN
 have GT : FnOk P w K mg base CX0 1 fT fdT ["name", "clock"] (spThere K) := ok_there FT
 refine okB (body := [stm sIsNew 0, stm sIsNew 1]) F scNw (fun vs H Q E h => ?_) (by kernel_rfl) (fun cdv A outer s0 H vs Q E hr h => ?_)
 ·obtain ⟨p, a, o, l, rfl, _⟩ := h
  rfl
 ·obtain ⟨p, a, o, l, rfl, O, L, hl, hs, ht, hm, q⟩ := h
  have hrN := hr
  obtain ⟨dx, cl, lb, lt, lk, bs, ts, ks, X⟩ := O.x
  refine ⟨_, (xU8 (oS oNw 2 (cF GN hrN T.name_of FN.kp bN .nil xV1 (aC (oV oNw 1) xU7)))
   (xU6 (xU1 (vV5 (pe_not (cF GT hrN T.is_there FT.kp bT .nil xV1 (aC (oV oNw 2) (aC (xX9 (oV oNw 0) rfl) xU7)))) (vX6 (yW4 (op_notInD (n := 10) (room_in hr)) (oV oNw 2) (eC [] [] rfl (xY2 (xX9 (oV oNw 0) rfl)) (fun _ _ _ _ _ => yZ2) (fun _ _ _ _ _ => (cF GN hrN T.name_of FN.kp bN .nil xV1 (aC (sV 0) xU7)))) (by rfl))))))), ?_⟩
  refine cut2 ?_
  intro rr1
  refine ⟨_, rfl, a, l, rfl, L, hl, fun pn nn => ?_⟩
  have s1 := xU4 (o := .tup [.int l.s, .int (xV4 l)]) nn
  have X1 := X.same s1
  refine ⟨_, rfl, _, rfl, p, C, dx, _, _, rfl, X1.ob, T.cl, T.nK, yW7, pn, cl, l.s, _, _, rfl, SqT.of xU9, X1.ck, hs, _, rfl, _, rfl, ?_⟩
  cases hb : decide (xV4 l ≤ o.clock.getD l.s 0) with
  | true =>
   refine iteF ?_
   have : newB o l = false := by unfold newB; rw [hb]; rfl
   rw [this] at q
   exact q _ s1
  | false =>
   refine iteT ?_
   have hlen : ts.length = o.tray.length := by rw [xW5 X.rt, List.length_map]
   refine ⟨_, rfl, _, rfl, p, C, dx, _, _, rfl, X1.ob, T.cl, T.nT, yX5, lt, rfl, ⟨_, SqL.of X1.ht⟩, yV2 (xs := ts) (fun D i ys H3 => Same (upd H pn (.tup [.int l.s, .int (xV4 l)])) H3 ∧ H3 D = some (.lst ys) ∧ xU3 K H3 ((o.tray.take i).map xW6) ys)
    (fun D hD => ⟨xU4 hD, xU9, rfl⟩) (fun D i ys H3 _ _ h => ⟨h.2.1, SqL.of (h.1 _ _ X1.ht)⟩) (fun D i x ys H3 hD hx h => ?_) (fun D ys H3 hD h => ?_)⟩
   ·obtain ⟨f1, f2, f3⟩ := h
    have hi : i < o.tray.length := by have := (List.getElem?_eq_some_iff.mp hx).1; omega
    have hget : (o.tray.map letD)[i]? = some (letD o.tray[i]) := by rw [List.getElem?_map, List.getElem?_eq_getElem hi]; rfl
    obtain ⟨x', hx', rx⟩ := xY6 X1.rt hget
    rw [hx] at hx'
    cases hx'
    obtain ⟨b, rfl, Lb⟩ := xQ6.mp rx
    refine ⟨_, rfl, b, o.tray[i], rfl, Lb.imm f1.imm, hm _ (List.getElem_mem hi), fun q1 nq => ?_⟩
    have nqD : D ≠ q1 := fun e => by rw [← e, f2] at nq; cases nq
    have hD4 : (upd H3 q1 (.tup [.int o.tray[i].s, .int (xV4 o.tray[i])])) D = some (.lst ys) := (xU2 nqD).trans f2
    have hylen : ys.length = (o.tray.take i).length := by rw [xW5 f3, List.length_map]
    refine ⟨hD4, ?_, xW2 (f1.trans (xU4 nq)) hD, xU9, ?_⟩
    ·rw [hylen, List.length_take]; exact xV0 (by omega)
    ·rw [List.take_succ, List.getElem?_eq_getElem hi]
     simp only [Option.toList_some, List.map_append, List.map_cons, List.map_nil]
     have e4 := xX5 (ys := ys ++ [.ref q1]) hD4
     refine xY7 (xU3.imm e4 _ _ (vX5 _) (xU3.same (xU4 nq) _ _ f3)) (yW9 (RepD.imm e4 _ _ (yY1 _) (name_rep (SqT.of xU9))))
   ·obtain ⟨f1, f2, f3⟩ := h
    rw [hlen, List.take_length] at f3
    refine ⟨xW6 l, o.tray.map xW6, RepD.same f1 _ _ (name_rep (SqT.of xU9)), ?_, rfl, lay_names _, Nat.le_trans (Nat.min_le_right _ _) (yW6 l), ?_⟩
    ·simp only [RepD]
     exact ⟨D, ys, rfl, SqL.of f2, f3⟩
    ·have : newB o l = !(o.tray.map xW6).any fun y => PyData.eqv y (xW6 l) := by unfold newB; rw [hb, List.any_map]; rfl
     rw [this] at q
     exact q _ (s1.trans f1)
theorem erase_map (ls : List Let) (i : Nat) : (ls.eraseIdx i).map letD = (ls.map letD).eraseIdx i := by
 rw [List.eraseIdx_eq_take_drop_succ, List.eraseIdx_eq_take_drop_succ, List.map_append, List.map_take, List.map_drop]
theorem cut_cat {xs : List V} {i : Nat} (h : i < xs.length) : cutV xs none (some (i : Int)) ++ cutV xs (some ((i : Int) + 1)) none = xs.eraseIdx i := by
 rw [cut_lo (by omega), show ((i : Int) + 1) = ((i + 1 : Nat) : Int) by omega, cut_hi (by omega), List.eraseIdx_eq_take_drop_succ]
theorem oHd : ownB ["self", "place", "letter"] (defScope sHand) = true := by decide +kernel
theorem scHd : FnScope ["self", "place", "letter"] ["self", "place"] (defScope sHand) := ⟨rfl, rfl, rfl, by decide +kernel, rfl, by decide +kernel, by decide +kernel⟩
theorem ok_hand {f fW : Addr} {fd fdN fdC fdO fdW : FuncData} (F : Fun K "hand_over" "Office.hand_over" sHand f fd) (T : Txt K mg C fN fT fC fR fF fO) (FN : Fun K "name_of" "name_of" sName fN fdN) (bN : Binds K fdN ["letter"] [])
  (FC : Fun K "counted" "counted" sCounted fC fdC) (bC : Binds K fdC ["clock", "sender"] []) (FO : Fun K "coins_for" "coins_for" sCoins fO fdO) (bO : Binds K fdO ["number", "what"] [])
  (FW : Fun K "write_in_book" "Office.write_in_book" sWrite fW fdW) (bW : Binds K fdW ["self", "how", "letter"] []) (mW : Meth K C "write_in_book" fW) : FnOk P w K mg base CX0 3 f fd ["self", "place"] (spHand K C) := by
 have GN : FnOk P w K mg base CX0 1 fN fdN ["letter"] (yQ1 K) := vW7 FN
 have GC : FnOk P w K mg base CX0 1 fC fdC ["clock", "sender"] (spCounted K) := ok_counted FC
 have GO : FnOk P w K mg base CX0 1 fO fdO ["number", "what"] (spCoins K) := ok_coins FO
 have GW : FnOk P w K mg base CX0 2 fW fdW ["self", "how", "letter"] (spWrite K C) := ok_write FW T FN bN
 refine okB (body := [stm sHand 0, stm sHand 1, stm sHand 2, stm sHand 3, stm sHand 4, stm sHand 5]) F scHd (fun vs H Q E h => ?_) (by kernel_rfl) (fun cdv A outer s0 H vs Q E hr h => ?_)
 ·obtain ⟨p, i, n, o, l, rfl, _⟩ := h
  rfl
 ·obtain ⟨p, i, n, o, l, rfl, O, hget, Fn, k⟩ := h
  have hrN := hr.mono (by decide : 1 ≤ 2)
  obtain ⟨dx, cl, lb, lt, lk, bs, ts, ks, X⟩ := O.x
  have hi : i < o.tray.length := (List.getElem?_eq_some_iff.mp hget).1
  obtain ⟨hs, hst⟩ := Fn.tr l (List.mem_of_getElem? hget)
  have hlen : ts.length = o.tray.length := by rw [xW5 X.rt, List.length_map]
  obtain ⟨x, hx, rx⟩ := xY6 X.rt (i := i) (d := letD l) (by rw [List.getElem?_map, hget]; rfl)
  obtain ⟨b, rfl, L⟩ := xQ6.mp rx
  have hcl := Fn.cl
  have hn1 := Fn.n1
  have hnt := Fn.nt
  have hnb := Fn.nb
  have hnk := Fn.nk
  refine ⟨_, (xU8 (oS oHd 2 (iX (ixL K) (xX9 (oV oHd 0) rfl) (oV oHd 1)))
   (xU8 (yU2 (oV oHd 0) (xV2 op_cat (yQ7 sl_list (xX9 (oV oHd 0) rfl) po_none (vU5 (oV oHd 1))) (yQ7 sl_list (xX9 (oV oHd 0) rfl) (vU5 (xV2 yU1 (oV oHd 1) xU5)) po_none)) rfl)
   (xU8 (yU2 (oV oHd 0) (cF GC hrN T.counted FC.kp bC .nil xV1 (aC (xX9 (oV oHd 0) rfl) (aC (iX (ixT K) (oV oHd 2) xU5) xU7))) rfl)
   (xU8 (yU2 (oV oHd 0) (xV2 yU1 (xX9 (oV oHd 0) rfl) (cF GO hrN T.coins_for FO.kp bO .nil xV1 (aC (xX9 (oV oHd 0) rfl) (aC (iX (ixT K) (oV oHd 2) xU5) xU7)))) rfl)
   (xU8 (xQ9 (yU9 (oV oHd 0) T.cl mW GW hr bW .nil xV1 (aC xY8 (aC (oV oHd 2) xU7))))
   (xU6 (xU1 (cF GN hrN T.name_of FN.kp bN .nil xV1 (aC (oV oHd 2) xU7))))))))), ?_⟩
  refine cut6 ?_
  intro rr5 rr4 rr3 rr2 rr1
  refine ⟨_, rfl, p, C, dx, _, _, rfl, X.ob, T.cl, T.nT, yX5, _, rfl, lt, _, _, _, rfl, rfl, SqL.of X.ht, xW7 hx, ?_⟩
  refine ⟨_, rfl, p, C, dx, _, _, rfl, X.ob, T.cl, T.nT, yX5, _, rfl, _, rfl, lt, _, rfl, SqL.of X.ht, fun p1 n1 => ?_⟩
  have s1 := xU4 (o := .lst (cutV ts none (some (i : Int)))) n1
  have X1 := X.same s1
  refine ⟨_, rfl, p, C, dx, _, _, rfl, X1.ob, T.cl, T.nT, yX5, _, rfl, _, _, rfl, rfl, _, rfl, lt, _, rfl, SqL.of X1.ht, fun p2 n2 => ?_⟩
  have s2 := xU4 (o := .lst (cutV ts (some ((i : Int) + 1)) none)) n2
  have X2 := X1.same s2
  have n12 : p1 ≠ p2 := fun e => by rw [← e, xU9] at n2; cases n2
  refine ⟨p1, p2, _, _, rfl, rfl, (xU2 n12).trans xU9, xU9, ?_, fun p3 n3 => ?_⟩
  ·have a1 := yY0 ts none (some (i : Int))
   have a2 := yY0 ts (some ((i : Int) + 1)) none
   exact big _ (by omega)
  have s3 := xU4 (o := .lst (cutV ts none (some (i : Int)) ++ cutV ts (some ((i : Int) + 1)) none)) n3
  have X3 := X2.same s3
  refine ⟨_, rfl, p, C, dx, _, rfl, X3.ob, T.cl, T.nT, few6, ?_⟩
  have rr := reps_erase i X3.rt
  rw [← erase_map, ← cut_cat (show i < ts.length by omega)] at rr
  have X4 := X3.setTray (q := p3) (xs := cutV ts none (some (i : Int)) ++ cutV ts (some ((i : Int) + 1)) none) (ls := o.tray.eraseIdx i) xU9 rr
  have x4 := sx_tray (q := p3) X3 (xQ3 X.ob ((s1.trans s2).trans s3)) ((s1.trans s2).free n3)
  obtain ⟨b1, c1, g1, g2, g3⟩ := L.imm (x4.imm X.ob)
  refine ⟨_, rfl, p, C, dx, _, _, rfl, X4.ob, T.cl, T.nK, yW7, _, rfl, b, _, 0, _, rfl, rfl, g1, rfl, cl, l.s, o.clock, rfl, X4.ck, by omega, by omega, fun q5 H5 e5 h5 => ?_⟩
  have X5 := X4.same e5
  refine ⟨_, rfl, p, C, dx, _, rfl, X5.ob, T.cl, T.nK, few6, ?_⟩
  have X6 := X5.setClock h5
  have x6 := sx_clock (q := q5) X5 (x4.trans (xQ3 X4.ob e5))
  obtain ⟨b2, c2, k1, k2, k3⟩ := L.imm (x6.imm X.ob)
  refine ⟨_, rfl, p, C, dx, _, _, rfl, X6.ob, T.cl, T.nC, at_coins, _, rfl, p, C, dx, _, _, rfl, X6.ob, T.cl, T.nN, at_number, _, rfl, b, _, 2, _, rfl, rfl, k1, rfl, _, c2, l.w, rfl, k3, _, _, rfl, rfl, _, rfl, p, C, dx, _, rfl, X6.ob, T.cl, T.nC, few6, ?_⟩
  have X7 := X6.setCoins (o.coins + xY9 o.num l.w)
  have x7 := sx_coins (c := o.coins + xY9 o.num l.w) X6 x6
  refine ⟨_, rfl, p, dx, _, rfl, X7.ob, no_write, _, rfl, p, b, "got", _, l, rfl, X7.at_, L.imm (x7.imm X.ob), by omega, by show o.book.length ≤ 100000; omega, by show o.kept.length ≤ 100000; omega, fun H8 O8 x8 => ?_⟩
  have x8' : SameX p H H8 := x7.trans x8
  refine ⟨_, rfl, b, l, rfl, L.imm (x8'.imm X.ob), by omega, fun pn nn => ?_⟩
  obtain ⟨dx8, cl8, lb8, lt8, lk8, bs8, ts8, ks8, X8⟩ := O8.x
  exact k (.ref pn) _ (O8.same (xU4 nn)) ⟨pn, rfl, xU9⟩ (x8'.trans (xQ3 X8.ob (xU4 nn)))
end
end Of
end
section
seal L2.PE L2.PT L2.PW L2.PA L2.PS L2.PSs L2.PG L2.PGs L2.PI L3.PTs L2.PO L2.CallR L2.OpR L2.IxR L2.MtR L2.PSet L2.SlR
namespace Of
open PySem L2 L3
section
variable {P : Program} {w : World} {K : PySem.W.Frag} {mg : Str → Option Value} {base : Heap} {C fN fT fC fR fF fO : Addr}
def TakeW (K : PySem.W.Frag) (C : Addr) (H : Hp) (p a ln : Addr) (n : Nat) (o : Off) (l : Let) : Nat → L2.St → Hp → Prop := fun m σ Hc =>
 ∃ (oc : Off) (dn : List Let) (xs : List V), σ = [some (.ref p), some (.ref a), some (.ref ln), some (optV (xZ0 oc.tray oc.clock))] ∧ OffAt K C Hc p oc ∧ Hc ln = some (.lst xs) ∧ All2 (NmV Hc) dn xs ∧ SameX p H Hc ∧ ¬ Refs (Hc p) ln ∧
  m = oc.tray.length ∧ oc.clock.length = n ∧ (∀ l ∈ oc.tray, Fit n l) ∧ dn.length + oc.tray.length = (put o l).tray.length ∧ oc.book.length ≤ o.book.length + dn.length ∧ oc.kept.length ≤ o.kept.length + dn.length ∧ took o l = (dn ++ (drain m oc).1, (drain m oc).2)
theorem oTk : ownB ["self", "letter", "names", "place"] (defScope sTake) = true := by decide +kernel
theorem scTk : FnScope ["self", "letter", "names", "place"] ["self", "letter"] (defScope sTake) := ⟨rfl, rfl, rfl, by decide +kernel, rfl, by decide +kernel, by decide +kernel⟩
theorem ok_take {f fI fH : Addr} {fd fdI fdH fdF : FuncData} (F : Fun K "take" "Office.take" sTake f fd) (T : Txt K mg C fN fT fC fR fF fO)
  (bI : Binds K fdI ["self", "letter"] []) (mI : Meth K C "is_new" fI) (GI : FnOk P w K mg base CX0 2 fI fdI ["self", "letter"] (spNew K C))
  (bH : Binds K fdH ["self", "place"] []) (mH : Meth K C "hand_over" fH) (GH : FnOk P w K mg base CX0 3 fH fdH ["self", "place"] (spHand K C))
  (FF : Fun K "first_ready" "first_ready" sFirst fF fdF) (bF : Binds K fdF ["tray", "clock"] []) (GF : FnOk P w K mg base CX0 2 fF fdF ["tray", "clock"] (spFirst K)) : FnOk P w K mg base CX0 4 f fd ["self", "letter"] (spTake K C) := by
 refine okB (body := [stm sTake 0, stm sTake 1, stm sTake 2, stm sTake 3, stm sTake 4]) F scTk (fun vs H Q E h => ?_) (by kernel_rfl) (fun cdv A outer s0 H vs Q E hr h => ?_)
 ·obtain ⟨p, a, n, o, l, rfl, _⟩ := h
  rfl
 ·obtain ⟨p, a, n, o, l, rfl, O, L, ⟨hs, hst⟩, Fn, k⟩ := h
  have hrF := hr.mono (by decide : 2 ≤ 3)
  obtain ⟨dx0, cl0, lb0, lt0, lk0, bs0, ts0, ks0, X⟩ := O.x
  have hcl := Fn.cl
  have fn1 := Fn.n1
  have hnt := Fn.nt
  have hnb := Fn.nb
  have hnk := Fn.nk
  have hlen : ts0.length = o.tray.length := by rw [xW5 X.rt, List.length_map]
  refine ⟨_, (xU8 (xW4 (xW8 (yU9 (oV oTk 0) T.cl mI GI hrF bI .nil xV1 (aC (oV oTk 1) xU7)))
    (xU6 (yU2 (oV oTk 0) (xV2 op_cat (xX9 (oV oTk 0) rfl) (xQ8 (aC (oV oTk 1) xU7))) rfl))
    xV8)
   (xU8 (oS oTk 2 (xQ8 xU7))
   (xU8 (oS oTk 3 (cF GF hrF T.first_ready FF.kp bF .nil xV1 (aC (xX9 (oV oTk 0) rfl) (aC (xX9 (oV oTk 0) rfl) xU7))))
   (xU8 (ps_while PassesOwn.never (xV7 op_notN (oV oTk 3) yZ1 (xV5 _))
    (xU8 (xQ9 (mApp (oV oTk 2) (yU9 (oV oTk 0) T.cl mH GH hr bH .nil xV1 (aC (oV oTk 3) xU7))))
    (xU6 (oS oTk 3 (cF GF hrF T.first_ready FF.kp bF .nil xV1 (aC (xX9 (oV oTk 0) rfl) (aC (xX9 (oV oTk 0) rfl) xU7)))))))
   (xU6 (xU1 (oV oTk 2))))))), ?_⟩
  refine cut5 ?_
  intro rr4 rr3 rr2 rr1
  refine ⟨_, rfl, p, dx0, _, rfl, X.ob, no_isnew, _, rfl, p, a, o, l, rfl, O, L, by omega, by omega, by omega, fun m hm => by have := Fn.tr m hm; unfold Fit at this; omega, fun H1 e1 => ⟨_, rfl, ?_⟩⟩
  have X1 := X.same e1
  cases hnew : newB o l with
  | true =>
   refine iteT ?_
   refine ⟨_, rfl, p, C, dx0, _, _, rfl, X1.ob, T.cl, T.nT, yX5, _, rfl, len1, fun pl nl => ?_⟩
   have s2 := xU4 (o := .lst [.ref a]) nl
   have X2 := X1.same s2
   refine ⟨lt0, pl, _, _, rfl, rfl, X2.ht, xU9, by rw [List.length_singleton]; exact big _ (by omega), fun pt nt => ?_⟩
   have s3 := xU4 (o := .lst (ts0 ++ [.ref a])) nt
   have X3 := X2.same s3
   refine ⟨_, rfl, p, C, dx0, _, rfl, X3.ob, T.cl, T.nT, few6, ?_⟩
   have hput : put o l = { o with tray := o.tray ++ [l] } := by unfold put; rw [hnew]; rfl
   have La : RepD K H (letD l) (.ref a) := xQ6.mpr ⟨a, rfl, L⟩
   have X4 := X3.setTray (q := pt) (xs := ts0 ++ [.ref a]) (ls := o.tray ++ [l]) xU9 (by rw [List.map_append]; exact xY7 X3.rt (yW9 (RepD.same s3 _ _ (RepD.same s2 _ _ (RepD.same e1 _ _ La)))))
   have Oa := X4.at_
   rw [← hput] at Oa
   have sxa := sx_tray (q := pt) X3 (xQ3 X.ob ((e1.trans s2).trans s3)) ((e1.trans s2).free nt)
   have fcl : (put o l).clock.length = n := by rw [hput]; exact hcl
   have ffit : ∀ m ∈ (put o l).tray, Fit n m := by
    rw [hput]; intro m hm
    rcases List.mem_append.mp hm with z | z
    ·exact Fn.tr m z
    ·have : m = l := by simpa using z
     rw [this]; exact ⟨hs, hst⟩
   have flen : (put o l).tray.length ≤ 901 := by rw [hput]; simp only [List.length_append, List.length_singleton]; omega
   have fbook : (put o l).book = o.book := by rw [hput]
   have fkept : (put o l).kept = o.kept := by rw [hput]
   obtain ⟨dx, cl, lb, lt, lk, bs, ts, ks, Xa⟩ := Oa.x
   refine ⟨len0, fun ln nn => ?_⟩
   have sn := xU4 (o := .lst []) nn
   have Xn := Xa.same sn
   have nH : H ln = none := sxa.free ⟨_, Xa.ob⟩ nn
   refine ⟨_, rfl, p, C, dx, _, _, rfl, Xn.ob, T.cl, T.nT, yX5, _, rfl, p, C, dx, _, _, rfl, Xn.ob, T.cl, T.nK, yW7, lt, cl, ts, _, _, rfl, SqL.of Xn.ht, Xn.rt, Xn.ck, by omega, by omega, fun m hm => by rw [fcl]; exact ffit m hm, fun H2 e2 => ?_⟩
   have nr : ¬ Refs ((upd _ ln (.lst [])) p) ln := fun z => by
    rw [Xn.ob, xX2] at z
    rcases z with z | z | z
    ·rw [z, Xa.hb] at nn; cases nn
    ·rw [z, Xa.ht] at nn; cases nn
    ·rw [z, Xa.hk] at nn; cases nn
   refine ⟨TakeW K C H p a ln n o l, ⟨(put o l).tray.length, put o l, [], [], rfl, (Oa.same sn).same e2, e2 _ _ xU9, rfl, (sxa.trans (xQ3 Xa.ob sn)).trans (xQ3 Xn.ob e2), by rw [e2 _ _ Xn.ob]; rw [Xn.ob] at nr; exact nr, rfl, fcl, ffit, by simp, by rw [fbook]; simp, by rw [fkept]; simp, by simp [took]⟩, ?_⟩
   rintro m σ Hc ⟨oc, dn, xs, rfl, Oc, hln, hxs, sxc, nrc, rfl, ccl, cfit, clen, cbook, ckept, ctook⟩
   refine ⟨_, rfl, rfl, _, rfl, ?_⟩
   obtain ⟨dxc, clc, lbc, ltc, lkc, bsc, tsc, ksc, Xc⟩ := Oc.x
   have xlen : xs.length = dn.length := hxs.len
   cases hf : xZ0 oc.tray oc.clock with
   | none =>
    rw [show (!decide (optV none = V.non)) = false from rfl]
    refine iteF ?_
    have e1' : (drain oc.tray.length oc).1 = [] := by
     cases hk : oc.tray.length with
     | zero => rfl
     | succ j => simp only [drain, hf]
    have e2' : (drain oc.tray.length oc).2 = oc := by
     cases hk : oc.tray.length with
     | zero => rfl
     | succ j => simp only [drain, hf]
    refine ⟨_, rfl, k ln xs Hc (by rw [ctook, e2']; exact Oc) nH hln (by rw [ctook, e1', List.append_nil]; exact hxs) nrc sxc⟩
   | some i =>
    rw [show (!decide (optV (some i) = V.non)) = true from rfl]
    refine iteT ?_
    have hfi := hf
    unfold xZ0 at hfi
    rw [List.findIdx?_eq_some_iff_getElem] at hfi
    obtain ⟨hi, _, _⟩ := hfi
    have hget : oc.tray[i]? = some oc.tray[i] := List.getElem?_eq_getElem hi
    obtain ⟨k0, hk0⟩ : ∃ k0, oc.tray.length = k0 + 1 := ⟨oc.tray.length - 1, by omega⟩
    have hdr : drain oc.tray.length oc = (oc.tray[i] :: (drain k0 (xW3 oc i oc.tray[i])).1, (drain k0 (xW3 oc i oc.tray[i])).2) := by
     rw [hk0]; simp only [drain, hf, hget]
    have htl : (xW3 oc i oc.tray[i]).tray.length = k0 := by
     show (oc.tray.eraseIdx i).length = k0
     rw [List.length_eraseIdx_of_lt hi]; omega
    refine ⟨fun σ' H' => ∃ m', m' < oc.tray.length ∧ TakeW K C H p a ln n o l m' σ' H', fun σ' H' h => h, ?_⟩
    refine ⟨_, rfl, .inl ⟨rfl, _, SqL.of hln⟩, _, rfl, p, dxc, _, rfl, Xc.ob, no_hand, _, rfl, p, i, n, oc, oc.tray[i], rfl, Oc, hget, ⟨ccl, fn1, cfit, by omega, by omega, by omega⟩, fun r H3 O3 rr x3 => ?_⟩
    have hln3 : H3 ln = some (.lst xs) := x3.lst Xc.ob hln
    refine ⟨ln, _, _, rfl, rfl, hln3, by exact xV0 (by omega), ?_⟩
    obtain ⟨dx3, cl3, lb3, lt3, lk3, bs3, ts3, ks3, X3⟩ := O3.x
    have nlp : p ≠ ln := (lst_ne hln3 X3.ob).symm
    have i4 := xX5 (ys := xs ++ [r]) hln3
    have nr3 : ¬ Refs (H3 p) ln := fun z => (x3.refs ln z).elim nrc (fun z => by rw [hln] at z; cases z)
    rw [X3.ob, xX2] at nr3
    have X4 := X3.other (b := ln) (ys := xs ++ [r]) hln3 (fun e => nr3 (.inl e)) (fun e => nr3 (.inr (.inl e))) (fun e => nr3 (.inr (.inr e)))
    have h3cl : (xW3 oc i oc.tray[i]).clock.length = n := by
     show (inc oc.clock _).length = n
     unfold inc; rw [List.length_set]; exact ccl
    have h3fit : ∀ m ∈ (xW3 oc i oc.tray[i]).tray, Fit n m := fun m hm => cfit m (List.mem_of_mem_eraseIdx hm)
    refine ⟨_, rfl, p, C, dx3, _, _, rfl, X4.ob, T.cl, T.nT, yX5, _, rfl, p, C, dx3, _, _, rfl, X4.ob, T.cl, T.nK, yW7, lt3, cl3, ts3, _, _, rfl, SqL.of X4.ht, X4.rt, X4.ck, by omega, by omega, fun m hm => by rw [h3cl]; exact h3fit m hm, fun H5 e5 => ?_⟩
    have sx4 : SameX p H (upd H3 ln (.lst (xs ++ [r]))) := by
     have z := sxc.trans x3
     refine ⟨fun b u hb nb => ?_, fun b hb => ?_, z.here⟩
     ·have : b ≠ ln := fun e => by rw [e, nH] at hb; cases hb
      rw [xU2 this]; exact z.keep b u hb nb
     ·rw [xU2 nlp] at hb; exact z.refs b hb
    refine ⟨k0, by omega, xW3 oc i oc.tray[i], dn ++ [oc.tray[i]], xs ++ [r], rfl, (X4.same e5).at_, e5 _ _ xU9, ?_, sx4.trans (xQ3 X4.ob e5), ?_, htl.symm, h3cl, h3fit, ?_, ?_, ?_, ?_⟩
    ·exact NmVs.imm e5.imm (NmVs.imm i4 ((NmVs.imm (x3.imm Xc.ob) hxs).append (All2.one rr)))
    ·rw [e5 _ _ X4.ob, xX2]; exact nr3
    ·rw [List.length_append, List.length_singleton, htl]; omega
    ·show (oc.book ++ [_]).length ≤ _
     simp only [List.length_append, List.length_singleton]; omega
    ·show (if _ then _ else _ : List PyData).length ≤ _
     split
     ·simp only [List.length_append, List.length_singleton]
      show oc.kept.length + 1 ≤ _
      omega
     ·simp only [List.length_append, List.length_singleton]
      show oc.kept.length ≤ _
      omega
    ·rw [ctook, hdr, List.append_assoc]; rfl
  | false =>
   refine iteF ?_
   have hput : put o l = o := by unfold put; rw [hnew]; rfl
   have Oa : OffAt K C H1 p (put o l) := by rw [hput]; exact X1.at_
   have sxa := xQ3 X.ob e1
   have fcl : (put o l).clock.length = n := by rw [hput]; exact hcl
   have ffit : ∀ m ∈ (put o l).tray, Fit n m := by rw [hput]; exact Fn.tr
   have flen : (put o l).tray.length ≤ 901 := by rw [hput]; omega
   have fbook : (put o l).book = o.book := by rw [hput]
   have fkept : (put o l).kept = o.kept := by rw [hput]
   obtain ⟨dx, cl, lb, lt, lk, bs, ts, ks, Xa⟩ := Oa.x
   refine ⟨len0, fun ln nn => ?_⟩
   have sn := xU4 (o := .lst []) nn
   have Xn := Xa.same sn
   have nH : H ln = none := sxa.free ⟨_, Xa.ob⟩ nn
   refine ⟨_, rfl, p, C, dx, _, _, rfl, Xn.ob, T.cl, T.nT, yX5, _, rfl, p, C, dx, _, _, rfl, Xn.ob, T.cl, T.nK, yW7, lt, cl, ts, _, _, rfl, SqL.of Xn.ht, Xn.rt, Xn.ck, by omega, by omega, fun m hm => by rw [fcl]; exact ffit m hm, fun H2 e2 => ?_⟩
   have nr : ¬ Refs ((upd _ ln (.lst [])) p) ln := fun z => by
    rw [Xn.ob, xX2] at z
    rcases z with z | z | z
    ·rw [z, Xa.hb] at nn; cases nn
    ·rw [z, Xa.ht] at nn; cases nn
    ·rw [z, Xa.hk] at nn; cases nn
   refine ⟨TakeW K C H p a ln n o l, ⟨(put o l).tray.length, put o l, [], [], rfl, (Oa.same sn).same e2, e2 _ _ xU9, rfl, (sxa.trans (xQ3 Xa.ob sn)).trans (xQ3 Xn.ob e2), by rw [e2 _ _ Xn.ob]; rw [Xn.ob] at nr; exact nr, rfl, fcl, ffit, by simp, by rw [fbook]; simp, by rw [fkept]; simp, by simp [took]⟩, ?_⟩
   rintro m σ Hc ⟨oc, dn, xs, rfl, Oc, hln, hxs, sxc, nrc, rfl, ccl, cfit, clen, cbook, ckept, ctook⟩
   refine ⟨_, rfl, rfl, _, rfl, ?_⟩
   obtain ⟨dxc, clc, lbc, ltc, lkc, bsc, tsc, ksc, Xc⟩ := Oc.x
   have xlen : xs.length = dn.length := hxs.len
   cases hf : xZ0 oc.tray oc.clock with
   | none =>
    rw [show (!decide (optV none = V.non)) = false from rfl]
    refine iteF ?_
    have e1' : (drain oc.tray.length oc).1 = [] := by
     cases hk : oc.tray.length with
     | zero => rfl
     | succ j => simp only [drain, hf]
    have e2' : (drain oc.tray.length oc).2 = oc := by
     cases hk : oc.tray.length with
     | zero => rfl
     | succ j => simp only [drain, hf]
    refine ⟨_, rfl, k ln xs Hc (by rw [ctook, e2']; exact Oc) nH hln (by rw [ctook, e1', List.append_nil]; exact hxs) nrc sxc⟩
   | some i =>
    rw [show (!decide (optV (some i) = V.non)) = true from rfl]
    refine iteT ?_
    have hfi := hf
    unfold xZ0 at hfi
    rw [List.findIdx?_eq_some_iff_getElem] at hfi
    obtain ⟨hi, _, _⟩ := hfi
    have hget : oc.tray[i]? = some oc.tray[i] := List.getElem?_eq_getElem hi
    obtain ⟨k0, hk0⟩ : ∃ k0, oc.tray.length = k0 + 1 := ⟨oc.tray.length - 1, by omega⟩
    have hdr : drain oc.tray.length oc = (oc.tray[i] :: (drain k0 (xW3 oc i oc.tray[i])).1, (drain k0 (xW3 oc i oc.tray[i])).2) := by
     rw [hk0]; simp only [drain, hf, hget]
    have htl : (xW3 oc i oc.tray[i]).tray.length = k0 := by
     show (oc.tray.eraseIdx i).length = k0
     rw [List.length_eraseIdx_of_lt hi]; omega
    refine ⟨fun σ' H' => ∃ m', m' < oc.tray.length ∧ TakeW K C H p a ln n o l m' σ' H', fun σ' H' h => h, ?_⟩
    refine ⟨_, rfl, .inl ⟨rfl, _, SqL.of hln⟩, _, rfl, p, dxc, _, rfl, Xc.ob, no_hand, _, rfl, p, i, n, oc, oc.tray[i], rfl, Oc, hget, ⟨ccl, fn1, cfit, by omega, by omega, by omega⟩, fun r H3 O3 rr x3 => ?_⟩
    have hln3 : H3 ln = some (.lst xs) := x3.lst Xc.ob hln
    refine ⟨ln, _, _, rfl, rfl, hln3, by exact xV0 (by omega), ?_⟩
    obtain ⟨dx3, cl3, lb3, lt3, lk3, bs3, ts3, ks3, X3⟩ := O3.x
    have nlp : p ≠ ln := (lst_ne hln3 X3.ob).symm
    have i4 := xX5 (ys := xs ++ [r]) hln3
    have nr3 : ¬ Refs (H3 p) ln := fun z => (x3.refs ln z).elim nrc (fun z => by rw [hln] at z; cases z)
    rw [X3.ob, xX2] at nr3
    have X4 := X3.other (b := ln) (ys := xs ++ [r]) hln3 (fun e => nr3 (.inl e)) (fun e => nr3 (.inr (.inl e))) (fun e => nr3 (.inr (.inr e)))
    have h3cl : (xW3 oc i oc.tray[i]).clock.length = n := by
     show (inc oc.clock _).length = n
     unfold inc; rw [List.length_set]; exact ccl
    have h3fit : ∀ m ∈ (xW3 oc i oc.tray[i]).tray, Fit n m := fun m hm => cfit m (List.mem_of_mem_eraseIdx hm)
    refine ⟨_, rfl, p, C, dx3, _, _, rfl, X4.ob, T.cl, T.nT, yX5, _, rfl, p, C, dx3, _, _, rfl, X4.ob, T.cl, T.nK, yW7, lt3, cl3, ts3, _, _, rfl, SqL.of X4.ht, X4.rt, X4.ck, by omega, by omega, fun m hm => by rw [h3cl]; exact h3fit m hm, fun H5 e5 => ?_⟩
    have sx4 : SameX p H (upd H3 ln (.lst (xs ++ [r]))) := by
     have z := sxc.trans x3
     refine ⟨fun b u hb nb => ?_, fun b hb => ?_, z.here⟩
     ·have : b ≠ ln := fun e => by rw [e, nH] at hb; cases hb
      rw [xU2 this]; exact z.keep b u hb nb
     ·rw [xU2 nlp] at hb; exact z.refs b hb
    refine ⟨k0, by omega, xW3 oc i oc.tray[i], dn ++ [oc.tray[i]], xs ++ [r], rfl, (X4.same e5).at_, e5 _ _ xU9, ?_, sx4.trans (xQ3 X4.ob e5), ?_, htl.symm, h3cl, h3fit, ?_, ?_, ?_, ?_⟩
    ·exact NmVs.imm e5.imm (NmVs.imm i4 ((NmVs.imm (x3.imm Xc.ob) hxs).append (All2.one rr)))
    ·rw [e5 _ _ X4.ob, xX2]; exact nr3
    ·rw [List.length_append, List.length_singleton, htl]; omega
    ·show (oc.book ++ [_]).length ≤ _
     simp only [List.length_append, List.length_singleton]; omega
    ·show (if _ then _ else _ : List PyData).length ≤ _
     split
     ·simp only [List.length_append, List.length_singleton]
      show oc.kept.length + 1 ≤ _
      omega
     ·simp only [List.length_append, List.length_singleton]
      show oc.kept.length ≤ _
      omega
    ·rw [ctook, hdr, List.append_assoc]; rfl
end
end Of
end
section
seal L2.PE L2.PT L2.PW L2.PA L2.PS L2.PSs L2.PG L2.PGs L2.PI L3.PTs L2.PO L2.CallR L2.OpR L2.IxR L2.MtR L2.PSet L2.SlR
namespace Of
open PySem L2 L3
def xU0 (o : Off) : List Let → List (List Let) × Off
 | [] => ([], o)
 | l :: ls => ((took o l).1 :: (xU0 (took o l).2 ls).1, (xU0 (took o l).2 ls).2)
theorem yZ4 : ∀ (ls : List Let) (o : Off) (l : Let), xU0 o (ls ++ [l]) = ((xU0 o ls).1 ++ [(took (xU0 o ls).2 l).1], (took (xU0 o ls).2 l).2)
 | [], o, l => rfl
 | m :: ls, o, l => by
  simp only [List.cons_append, xU0, yZ4 ls (took o m).2 l]
structure Kin (n : Nat) (o o' : Off) (d : Nat) : Prop where
 cl : o'.clock.length = n
 fit : ∀ l ∈ o'.tray, Fit n l
 bk : o'.book.length + o'.tray.length ≤ o.book.length + o.tray.length + d
 kp : o'.kept.length + o'.tray.length ≤ o.kept.length + o.tray.length + d
 num : o'.num = o.num
theorem handed_kin {n : Nat} {o : Off} {i : Nat} {l : Let} (cl : o.clock.length = n) (fit : ∀ l ∈ o.tray, Fit n l) (hi : o.tray[i]? = some l) : Kin n o (xW3 o i l) 0 := by
 have hi' : i < o.tray.length := (List.getElem?_eq_some_iff.mp hi).1
 have hl : (o.tray.eraseIdx i).length + 1 = o.tray.length := by rw [List.length_eraseIdx_of_lt hi']; omega
 refine ⟨by show (inc o.clock _).length = n; unfold inc; rw [List.length_set]; exact cl, fun m hm => fit m (List.mem_of_mem_eraseIdx hm), ?_, ?_, rfl⟩
 ·show (o.book ++ [_]).length + (o.tray.eraseIdx i).length ≤ _
  simp only [List.length_append, List.length_singleton]; omega
 ·show (if _ then _ else _ : List PyData).length + (o.tray.eraseIdx i).length ≤ _
  split
  ·simp only [List.length_append, List.length_singleton]
   show o.kept.length + 1 + (o.tray.eraseIdx i).length ≤ _
   omega
  ·show o.kept.length + (o.tray.eraseIdx i).length ≤ _
   omega
theorem drain_kin {n : Nat} : ∀ (k : Nat) {o : Off}, o.clock.length = n → (∀ l ∈ o.tray, Fit n l) → Kin n o (drain k o).2 0
 | 0, o, cl, fit => ⟨cl, fit, by simp [drain], by simp [drain], rfl⟩
 | k + 1, o, cl, fit => by
  cases hf : xZ0 o.tray o.clock with
  | none => simp only [drain, hf]; exact ⟨cl, fit, by omega, by omega, rfl⟩
  | some i =>
   cases hg : o.tray[i]? with
   | none => simp only [drain, hf, hg]; exact ⟨cl, fit, by omega, by omega, rfl⟩
   | some l =>
    simp only [drain, hf, hg]
    have h1 := handed_kin cl fit hg
    have h2 := drain_kin k h1.cl h1.fit
    exact ⟨h2.cl, h2.fit, by have := h1.bk; have := h2.bk; omega, by have := h1.kp; have := h2.kp; omega, h2.num.trans h1.num⟩
theorem took_kin {n : Nat} {o : Off} {l : Let} (cl : o.clock.length = n) (fit : ∀ l ∈ o.tray, Fit n l) (hl : Fit n l) : Kin n o (took o l).2 1 := by
 have hp : (put o l).clock.length = n ∧ (∀ m ∈ (put o l).tray, Fit n m) ∧ (put o l).book = o.book ∧ (put o l).kept = o.kept ∧ (put o l).tray.length ≤ o.tray.length + 1 ∧ (put o l).num = o.num := by
  unfold put
  split
  ·refine ⟨cl, fun m hm => ?_, rfl, rfl, by simp, rfl⟩
   rcases List.mem_append.mp hm with z | z
   ·exact fit m z
   ·have : m = l := by simpa using z
    rw [this]; exact hl
  ·exact ⟨cl, fit, rfl, rfl, by omega, rfl⟩
 obtain ⟨h1, h2, h3, h4, h5, h6⟩ := hp
 have h := drain_kin (put o l).tray.length h1 h2
 exact ⟨h.cl, h.fit, by have := h.bk; rw [h3] at this; unfold took; omega, by have := h.kp; rw [h4] at this; unfold took; omega, h.num.trans h6⟩
theorem tookAll_kin {n : Nat} : ∀ (ls : List Let) {o : Off}, o.clock.length = n → (∀ l ∈ o.tray, Fit n l) → (∀ l ∈ ls, Fit n l) → Kin n o (xU0 o ls).2 ls.length
 | [], o, cl, fit, _ => ⟨cl, fit, by simp [xU0], by simp [xU0], rfl⟩
 | l :: ls, o, cl, fit, hls => by
  have h1 := took_kin cl fit (hls l List.mem_cons_self)
  have h2 := tookAll_kin ls h1.cl h1.fit (fun m hm => hls m (List.mem_cons_of_mem _ hm))
  refine ⟨h2.cl, h2.fit, ?_, ?_, h2.num.trans h1.num⟩
  ·have := h1.bk; have := h2.bk; simp only [xU0, List.length_cons]; omega
  ·have := h1.kp; have := h2.kp; simp only [xU0, List.length_cons]; omega
def yX4 (K : PySem.W.Frag) (H : Hp) (q : Addr) : List (List Let) → List V → Prop
 | [], ys => ys = []
 | ns :: an, ys => ∃ b xs r, ys = .ref b :: r ∧ b ≠ q ∧ H b = some (.lst xs) ∧ All2 (NmV H) ns xs ∧ yX4 K H q an r
theorem yX4.mono {K : PySem.W.Frag} {H H' : Hp} {q : Addr} (e1 : ∀ b xs, b ≠ q → H b = some (.lst xs) → H' b = some (.lst xs)) (e2 : Imm H H') : ∀ {an : List (List Let)} {ys : List V}, yX4 K H q an ys → yX4 K H' q an ys
 | [], _, h => h
 | ns :: an, ys, h => by
  obtain ⟨b, xs, r, rfl, hb, h1, h2, h3⟩ := h
  exact ⟨b, xs, r, rfl, hb, e1 b xs hb h1, NmVs.imm e2 h2, yX4.mono e1 e2 h3⟩
theorem yX4.snoc {K : PySem.W.Frag} {H : Hp} {q b : Addr} {ns : List Let} {xs : List V} (hb : b ≠ q) (h1 : H b = some (.lst xs)) (h2 : All2 (NmV H) ns xs) : ∀ {an : List (List Let)} {ys : List V}, yX4 K H q an ys → yX4 K H q (an ++ [ns]) (ys ++ [.ref b])
 | [], ys, h => by
  have : ys = [] := h
  subst this
  exact ⟨b, xs, [], rfl, hb, h1, h2, rfl⟩
 | ms :: an, ys, h => by
  obtain ⟨b', xs', r, rfl, hb', g1, g2, g3⟩ := h
  exact ⟨b', xs', r ++ [.ref b], rfl, hb', g1, g2, yX4.snoc hb h1 h2 g3⟩
theorem yX4.len {K : PySem.W.Frag} {H : Hp} {q : Addr} : ∀ {an : List (List Let)} {ys : List V}, yX4 K H q an ys → ys.length = an.length
 | [], ys, h => by
  have : ys = [] := h
  subst this; rfl
 | ms :: an, ys, h => by
  obtain ⟨b', xs', r, rfl, hb', g1, g2, g3⟩ := h
  simp only [List.length_cons, yX4.len g3]
def spTaken (K : PySem.W.Frag) (C : Addr) : Sp := fun vs H Q _ => ∃ (p la : Addr) (n : Nat) (o : Off) (ls : List Let) (xs : List V), vs = [.ref p, .ref la] ∧ OffAt K C H p o ∧ SqL K H la xs ∧ xU3 K H (ls.map letD) xs ∧ (∀ l ∈ ls, Fit n l) ∧
 o.clock.length = n ∧ n ≤ 1000 ∧ (∀ l ∈ o.tray, Fit n l) ∧ o.book.length + o.tray.length + ls.length ≤ 800 ∧ o.kept.length + o.tray.length + ls.length ≤ 800 ∧
 ∀ (q : Addr) (ys : List V) (H' : Hp), OffAt K C H' p (xU0 o ls).2 → H q = none → H' q = some (.lst ys) → yX4 K H' q (xU0 o ls).1 ys → (∀ b, V.ref b ∈ ys → H b = none) → ¬ Refs (H' p) q → SameX p H H' → Q (.ref q) H'
section
variable {P : Program} {w : World} {K : PySem.W.Frag} {mg : Str → Option Value} {base : Heap} {C fN fT fC fR fF fO : Addr}
theorem oTb : ownB ["office", "letters", "answers", "letter"] (defScope sTaken) = true := by decide +kernel
theorem scTb : FnScope ["office", "letters", "answers", "letter"] ["office", "letters"] (defScope sTaken) := ⟨rfl, rfl, rfl, by decide +kernel, rfl, by decide +kernel, by decide +kernel⟩
theorem ok_taken {f fT' : Addr} {fd fdT : FuncData} (F : Fun K "taken_by" "taken_by" sTaken f fd) (T : Txt K mg C fN fT fC fR fF fO) (bT : Binds K fdT ["self", "letter"] []) (mT : Meth K C "take" fT') (GT : FnOk P w K mg base CX0 4 fT' fdT ["self", "letter"] (spTake K C)) :
  FnOk P w K mg base CX0 5 f fd ["office", "letters"] (spTaken K C) := by
 refine okB (body := [stm sTaken 0, stm sTaken 1, stm sTaken 2]) F scTb (fun vs H Q E h => ?_) (by kernel_rfl) (fun cdv A outer s0 H vs Q E hr h => ?_)
 ·obtain ⟨p, la, n, o, ls, xs, rfl, _⟩ := h
  rfl
 ·obtain ⟨p, la, n, o, ls, xs, rfl, O, hla, hxs, hfit, hcl, hn1, htf, hb, hk, k⟩ := h
  obtain ⟨dx0, cl0, lb0, lt0, lk0, bs0, ts0, ks0, X⟩ := O.x
  have hlen : xs.length = ls.length := by rw [xW5 hxs, List.length_map]
  refine ⟨_, (xU8 (oS oTb 2 (xQ8 xU7))
   (xU8 (xQ0 PassesOwn.never rfl (xY2 (oV oTb 1)) (oT oTb 3)
    (xU6 (xQ9 (mApp (oV oTb 2) (yU9 (oV oTb 0) T.cl mT GT hr bT .nil xV1 (aC (oV oTb 3) xU7))))))
   (xU6 (xU1 (oV oTb 2))))), ?_⟩
  refine cut3 ?_
  intro rr2 rr1
  refine ⟨len0, fun q nq => ?_⟩
  have sq := xU4 (o := .lst []) nq
  have Xq := X.same sq
  have nr : ¬ Refs ((upd H q (.lst [])) p) q := fun z => by
   rw [Xq.ob, xX2] at z
   rcases z with z | z | z
   ·rw [z, X.hb] at nq; cases nq
   ·rw [z, X.ht] at nq; cases nq
   ·rw [z, X.hk] at nq; cases nq
  have hlq : ∀ Hc, SameX p H Hc → Hc q = Hc q → SqL K Hc la xs := fun Hc sx _ => sx.seq X.ob hla
  refine ⟨_, rfl, la, rfl, ⟨_, sq.seq hla⟩, yU7 (K := K) (a := la) (xs := xs) (fun i σ Hc => ∃ (v : Option V) (ys : List V), σ = [some (.ref p), some (.ref la), some (.ref q), v] ∧ OffAt K C Hc p (xU0 o (ls.take i)).2 ∧ Hc q = some (.lst ys) ∧ yX4 K Hc q (xU0 o (ls.take i)).1 ys ∧ (∀ b, V.ref b ∈ ys → H b = none) ∧ ¬ Refs (Hc p) q ∧ SameX p H Hc)
   ⟨none, [], rfl, O.same sq, xU9, rfl, (fun _ h => nomatch h), nr, xQ3 X.ob sq⟩ (fun i σ Hc _ ⟨v, ys, _, _, _, _, _, _, sx⟩ => sx.seq X.ob hla) ?_ ?_⟩
  ·rintro i y σ Hc hi ⟨v, ys, rfl, Oc, hq, ha, hfr, nrc, sx⟩
   have hi' : i < ls.length := by have := (List.getElem?_eq_some_iff.mp hi).1; omega
   obtain ⟨x', hx', rx⟩ := xY6 hxs (i := i) (d := letD ls[i]) (by rw [List.getElem?_map, List.getElem?_eq_getElem hi']; rfl)
   rw [hi] at hx'
   cases hx'
   obtain ⟨b, rfl, L⟩ := xQ6.mp rx
   obtain ⟨dxc, clc, lbc, ltc, lkc, bsc, tsc, ksc, Xc⟩ := Oc.x
   have kn := tookAll_kin (n := n) (ls.take i) hcl htf (fun l hl => hfit l (List.mem_of_mem_take hl))
   have kb := kn.bk
   have kk := kn.kp
   rw [List.length_take] at kb kk
   refine ⟨_, rfl, .inl ⟨rfl, _, SqL.of hq⟩, _, rfl, p, dxc, _, rfl, Xc.ob, no_take, _, rfl, p, b, n, _, ls[i], rfl, Oc, L.imm (sx.imm X.ob), hfit _ (List.getElem_mem hi'), ⟨kn.cl, hn1, kn.fit, by omega, by omega, by omega⟩, fun ln zs H3 O3 nln hln hzs nr3 x3 => ?_⟩
   have hq3 : H3 q = some (.lst ys) := x3.lst Xc.ob hq
   have nlq : ln ≠ q := fun e => by rw [e, hq] at nln; cases nln
   obtain ⟨dx3, cl3, lb3, lt3, lk3, bs3, ts3, ks3, X3⟩ := O3.x
   have alen := ha.len
   have tlen : (xU0 o (ls.take i)).1.length = (ls.take i).length := by
    have : ∀ (ms : List Let) (o : Off), (xU0 o ms).1.length = ms.length := by
     intro ms
     induction ms with
     | nil => intro o; rfl
     | cons m ms ih => intro o; simp only [xU0, List.length_cons, ih]
    exact this _ _
   rw [List.length_take] at tlen
   refine ⟨q, _, _, rfl, rfl, hq3, by exact xV0 (by omega), ?_⟩
   have nrq : ¬ Refs (H3 p) q := fun z => (x3.refs q z).elim nrc (fun z => by rw [hq] at z; cases z)
   rw [X3.ob, xX2] at nrq
   have X4 := X3.other (b := q) (ys := ys ++ [.ref ln]) hq3 (fun e => nrq (.inl e)) (fun e => nrq (.inr (.inl e))) (fun e => nrq (.inr (.inr e)))
   have nqp : p ≠ q := (lst_ne hq3 X3.ob).symm
   have i4 := xX5 (ys := ys ++ [.ref ln]) hq3
   have etake : ls.take (i + 1) = ls.take i ++ [ls[i]] := by rw [List.take_succ, List.getElem?_eq_getElem hi']; rfl
   refine ⟨_, ys ++ [.ref ln], rfl, by rw [etake, yZ4]; exact X4.at_, xU9, ?_, ?_, ?_, ?_⟩
   ·rw [etake, yZ4]
    refine yX4.snoc nlq ((xU2 nlq).trans hln) (NmVs.imm i4 hzs) (yX4.mono (fun b zs hb h => (xU2 hb).trans h) i4 (yX4.mono (fun b zs hb h => x3.lst Xc.ob h) (x3.imm Xc.ob) ha))
   ·intro b' hb'
    rcases List.mem_append.mp hb' with z | z
    ·exact hfr b' z
    ·have : b' = ln := by simpa using z
     rw [this]; exact sx.free ⟨_, Xc.ob⟩ nln
   ·rw [xU2 nqp, X3.ob, xX2]; exact nrq
   ·have z := sx.trans x3
    refine ⟨fun b' u hb' nb' => ?_, fun b' hb' => ?_, z.here⟩
    ·have : b' ≠ q := fun e => by rw [e, nq] at hb'; cases hb'
     rw [xU2 this]; exact z.keep b' u hb' nb'
    ·rw [xU2 nqp] at hb'; exact z.refs b' hb'
  ·rintro σ Hc ⟨v, ys, rfl, Oc, hq, ha, hfr, nrc, sx⟩
   rw [hlen, List.take_length] at Oc ha
   exact ⟨_, rfl, k q ys Hc Oc nq hq ha hfr nrc sx⟩
end
end Of
end
section
seal L2.PE L2.PT L2.PW L2.PA L2.PS L2.PSs L2.PG L2.PGs L2.PI L3.PTs L2.PO L2.CallR L2.OpR L2.IxR L2.MtR L2.PSet L2.SlR
namespace Of
open PySem L2 L3
def xX3 (o : Off) (i : Nat) (w : What) : Let := ⟨i, inc o.clock i, w⟩
def yX7 (o : Off) (i : Nat) (w : What) : Off := vU8 { o with clock := inc o.clock i } "sent" (xX3 o i w)
structure Sends (i n : Nat) (o : Off) : Prop where
 num : o.num = (i : Int)
 lt : i < n
 cl : o.clock.length = n
 n1 : n ≤ 1000
 nb : o.book.length ≤ 90000
 nk : o.kept.length ≤ 90000
def spSend (K : PySem.W.Frag) (C : Addr) : Sp := fun vs H Q _ => ∃ (p c : Addr) (i n : Nat) (o : Off) (w : What), vs = [.ref p, .ref c] ∧ OffAt K C H p o ∧ vV1 K H c w ∧ Sends i n o ∧
 ∀ (la : Addr) (H' : Hp), OffAt K C H' p (yX7 o i w) → yZ5 K H' la (xX3 o i w) → SameX p H H' → Q (.ref la) H'
def spCut (K : PySem.W.Frag) (C : Addr) : Sp := fun vs H Q _ => ∃ (p : Addr) (i n : Nat) (o : Off), vs = [.ref p] ∧ OffAt K C H p o ∧ Sends i n o ∧
 ∀ (la : Addr) (H' : Hp), OffAt K C H' p (yX7 o i .cut) → yZ5 K H' la (xX3 o i .cut) → SameX p H H' → Q (.ref la) H'
theorem no_send {n c : Int} {cl lb lt lk : Addr} : (flds n c cl lb lt lk).lookup ("send" : Str) = none := by kernel_rfl
section
variable {P : Program} {w : World} {K : PySem.W.Frag} {mg : Str → Option Value} {base : Heap} {C fN fT fC fR fF fO : Addr}
theorem oSd : ownB ["self", "what", "letter"] (defScope sSend) = true := by decide +kernel
theorem scSd : FnScope ["self", "what", "letter"] ["self", "what"] (defScope sSend) := ⟨rfl, rfl, rfl, by decide +kernel, rfl, by decide +kernel, by decide +kernel⟩
theorem ok_send {f fW : Addr} {fd fdN fdC fdW : FuncData} (F : Fun K "send" "Office.send" sSend f fd) (T : Txt K mg C fN fT fC fR fF fO) (FN : Fun K "name_of" "name_of" sName fN fdN) (bN : Binds K fdN ["letter"] [])
  (FC : Fun K "counted" "counted" sCounted fC fdC) (bC : Binds K fdC ["clock", "sender"] [])
  (FW : Fun K "write_in_book" "Office.write_in_book" sWrite fW fdW) (bW : Binds K fdW ["self", "how", "letter"] []) (mW : Meth K C "write_in_book" fW) : FnOk P w K mg base CX0 3 f fd ["self", "what"] (spSend K C) := by
 have GC : FnOk P w K mg base CX0 1 fC fdC ["clock", "sender"] (spCounted K) := ok_counted FC
 have GW : FnOk P w K mg base CX0 2 fW fdW ["self", "how", "letter"] (spWrite K C) := ok_write FW T FN bN
 refine okB (body := [stm sSend 0, stm sSend 1, stm sSend 2, stm sSend 3]) F scSd (fun vs H Q E h => ?_) (by kernel_rfl) (fun cdv A outer s0 H vs Q E hr h => ?_)
 ·obtain ⟨p, c, i, n, o, w, rfl, _⟩ := h
  rfl
 ·obtain ⟨p, c, i, n, o, wh, rfl, O, W, S, k⟩ := h
  have hrN := hr.mono (by decide : 1 ≤ 2)
  obtain ⟨dx, cl, lb, lt, lk, bs, ts, ks, X⟩ := O.x
  have hnum := S.num
  have hlt := S.lt
  have hcl := S.cl
  have hn1 := S.n1
  have hnb := S.nb
  have hnk := S.nk
  refine ⟨_, (xU8 (yU2 (oV oSd 0) (cF GC hrN T.counted FC.kp bC .nil xV1 (aC (xX9 (oV oSd 0) rfl) (aC (xX9 (oV oSd 0) rfl) xU7))) rfl)
   (xU8 (oS oSd 2 (xZ6 (aC (xX9 (oV oSd 0) rfl) (aC (xX9 (oV oSd 0) rfl) (aC (oV oSd 1) xU7)))))
   (xU8 (xQ9 (yU9 (oV oSd 0) T.cl mW GW hr bW .nil xV1 (aC xY8 (aC (oV oSd 2) xU7))))
   (xU6 (xU1 (oV oSd 2)))))), ?_⟩
  refine cut4 ?_
  intro rr3 rr2 rr1
  refine ⟨_, rfl, p, C, dx, _, _, rfl, X.ob, T.cl, T.nK, yW7, _, rfl, p, C, dx, _, _, rfl, X.ob, T.cl, T.nN, at_number, cl, i, o.clock, by rw [hnum]; rfl, X.ck, by omega, by omega, fun q5 H5 e5 h5 => ?_⟩
  have X5 := X.same e5
  refine ⟨_, rfl, p, C, dx, _, rfl, X5.ob, T.cl, T.nK, few6, ?_⟩
  have X6 := X5.setClock h5
  have x6 := sx_clock (q := q5) X5 (xQ3 X.ob e5)
  refine ⟨_, rfl, p, C, dx, _, _, rfl, X6.ob, T.cl, T.nN, at_number, _, rfl, p, C, dx, _, _, rfl, X6.ob, T.cl, T.nK, yW7, _, rfl, len3, fun la nla => ?_⟩
  have s7 := xU4 (o := .tup [.int o.num, .ref q5, .ref c]) nla
  have X7 := X6.same s7
  have x7 := x6.trans (xQ3 X6.ob s7)
  have La : yZ5 K _ la (xX3 o i wh) := ⟨q5, c, by rw [show (xX3 o i wh).s = i from rfl, ← hnum]; exact SqT.of xU9, X7.ck, W.imm (x7.imm X.ob)⟩
  refine ⟨_, rfl, p, dx, _, rfl, X7.ob, no_write, _, rfl, p, la, "sent", _, xX3 o i wh, rfl, X7.at_, La, ?_, by show o.book.length ≤ 100000; omega, by show o.kept.length ≤ 100000; omega, fun H8 O8 x8 => ?_⟩
  ·show i < (inc o.clock i).length
   unfold inc; rw [List.length_set]; omega
  exact ⟨_, rfl, k la H8 O8 (La.imm (x8.imm X7.ob)) (x7.trans x8)⟩
theorem oCu : ownB ["self"] (defScope sCut) = true := by decide +kernel
theorem scCu : FnScope ["self"] ["self"] (defScope sCut) := ⟨rfl, rfl, rfl, by decide +kernel, rfl, by decide +kernel, by decide +kernel⟩
theorem ok_cut {f fS : Addr} {fd fdS : FuncData} (F : Fun K "cut" "Office.cut" sCut f fd) (T : Txt K mg C fN fT fC fR fF fO) (bS : Binds K fdS ["self", "what"] []) (mS : Meth K C "send" fS) (GS : FnOk P w K mg base CX0 3 fS fdS ["self", "what"] (spSend K C)) :
  FnOk P w K mg base CX0 4 f fd ["self"] (spCut K C) := by
 refine okB (body := [stm sCut 0]) F scCu (fun vs H Q E h => ?_) (by kernel_rfl) (fun cdv A outer s0 H vs Q E hr h => ?_)
 ·obtain ⟨p, i, n, o, rfl, _⟩ := h
  rfl
 ·obtain ⟨p, i, n, o, rfl, O, S, k⟩ := h
  obtain ⟨dx, cl, lb, lt, lk, bs, ts, ks, X⟩ := O.x
  refine ⟨_, (xU6 (xU1 (yU9 (oV oCu 0) T.cl mS GS hr bS .nil xV1 (aC (xZ6 (aC xY8 xU7)) xU7)))), ?_⟩
  refine ⟨_, rfl, p, dx, _, rfl, X.ob, no_send, len1, fun c nc => ?_⟩
  have s1 := xU4 (o := .tup [.str "cut"]) nc
  refine ⟨p, c, i, n, o, .cut, rfl, O.same s1, SqT.of xU9, S, fun la H' O' L' x' => k la H' O' L' ((xQ3 X.ob s1).trans x')⟩
end
end Of
end
namespace L4
open PySem PySem.Spec L2 L3
open PyProof.Rows hiding St
structure UnB (fs : List Addr) (H H' : Hp) (h B : Heap) : Prop where
 keep : ∀ b o, h.get? b = some o → H b = none → b ∉ fs → B.get? b = some o
 free : ∀ b o, h.get? b = some o → H b = none → H' b = none
 there : ∀ b o, h.get? b = some o → b ∉ fs → ∃ o', B.get? b = some o'
 tups : ∀ b xs, H b = some (.tup xs) → H' b = some (.tup xs)
 frzs : ∀ b o u, H b = some (.frz o u) → H' b = some (.frz o u)
 tbls : ∀ b ps, H b = some (.tbl ps) → ∃ more, H' b = some (.tbl (ps ++ more))
def SlF (fs : List Addr) (h h' : Heap) : Prop := ∀ b ∈ fs, ∀ o, h.get? b = some o → ∃ sl, h'.get? b = some { o with slots := sl }
def NoF (fs : List Addr) (h : Heap) : Prop := ∀ b ∈ fs, ∀ o, h.get? b = some o → ∀ vs, o.data ≠ .fields vs
theorem UnB.un {fs : List Addr} {H H' : Hp} {h B h' : Heap} (u : UnB fs H H' h B) (st : B.StaysIn h') (sl : SlF fs h h') : Un fs [] H H' h h' where
 keep := fun b o e n hb _ => st b o (u.keep b o e n hb)
 slot := fun b o e n hb _ => sl b hb o e
 free := fun b o e n _ => u.free b o e n
 there := fun b o e _ => by
  by_cases hb : b ∈ fs
  ·obtain ⟨s, q⟩ := sl b hb o e
   exact ⟨_, q⟩
  ·obtain ⟨o', q⟩ := u.there b o e hb
   exact ⟨o', st _ _ q⟩
 tups := u.tups
 frzs := u.frzs
 tbls := u.tbls
theorem SlF.up {fs : List Addr} {h h1 h2 : Heap} (x : SlF fs h h1) (n : NoF fs h) (u : h1.UpToSlots h2) : SlF fs h h2 := fun b hb o e => by
 obtain ⟨sl, q⟩ := x b hb o e
 obtain ⟨sl', q'⟩ := u b _ q (n b hb o e)
 exact ⟨sl', q'⟩
theorem noF_of {base h : Heap} {l : List Env} (f : h.FunFrames base l) : NoF (frs l) h := fun b hb o e vs => by
 obtain ⟨_, o', ho', hd⟩ := f.mem hb
 rw [e] at ho'
 cases ho'
 exact hd vs
def CX1 (P : Program) (w : World) : CXT := fun outer H s E e s' =>
 ∃ (a C : Addr) (a0 : Value) (B : Heap) (H' : Hp), e = .ref a ∧ s'.os = s.os ∧ AllBare s'.gens ∧ Heap.FlyingW B outer a (.ref C) a0 s'.heap ∧ UnB (frs outer) H H' s.heap B ∧ SlF (frs outer) s.heap s'.heap ∧ HOk P w H' B ∧ E (.ref C) none H'
section
variable {X : Cx} {pins : List (Addr × Obj)} {σ : St} {H H' : Hp} {s : Shared} {B : Heap}
abbrev hidF (X : Cx) (s : Shared) : Heap := PySem.W.hideAll s.heap (frs X.stack)
theorem hid_stays : (hidF X s).StaysIn s.heap := fun _ _ q => PySem.W.of_hideAll _ q
theorem hid_frames (I : Inv X pins σ H s) : s.heap.FunFrames (hidF X s) X.stack := PySem.W.funFrames_hide I.stack fun env he a hf => List.mem_filterMap.mpr ⟨env, he, hf⟩
theorem hid_ok (I : Inv X pins σ H s) : HOk X.prog X.w H (hidF X s) := fun a o e => (I.hok a o e).stay (fun b u hb q => PySem.W.hideAll_get _ q fun m => by
 have z := I.stkFree b m
 rcases hb with rfl | hb
 ·rw [e] at z; cases z
 ·rw [hb] at z; cases z) (fun _ q => q) fun _ _ q => q
theorem not_stk (I : Inv X pins σ H s) {b : Addr} {o : Obj} (e : X.s₀.heap.get? b = some o) (hb : b ∉ X.fs) : b ∉ frs X.stack := fun m => by
 rcases List.mem_cons.mp (I.stkSub b m) with z | z
 ·exact absurd z (Nat.ne_of_lt (Nat.lt_of_lt_of_le (Heap.lt_size e) I.ok.above))
 ·exact hb z
theorem onB (I : Inv X pins σ H s) (hex : X.ex = []) (u : UnB (frs X.stack) H H' s.heap B) : UnB X.fs X.H₀ H' X.s₀.heap B := by
 have nx : ∀ b : Addr, b ∉ X.ex := fun b z => by rw [hex] at z; cases z
 refine ⟨fun b o e n hb => u.keep b o (I.base.keep b o e n hb (nx b)) (I.base.free b o e n (nx b)) (not_stk I e hb), fun b o e n => ?_, fun b o e hb => ?_, fun b xs e => u.tups b xs (I.base.tups b xs e), fun b o xs e => u.frzs b o xs (I.base.frzs b o xs e), fun b ps e => ?_⟩
 ·obtain ⟨o', e'⟩ := I.base.there b o e (nx b)
  exact u.free b o' e' (I.base.free b o e n (nx b))
 ·obtain ⟨o', e'⟩ := I.base.there b o e (nx b)
  exact u.there b o' e' (not_stk I e hb)
 ·obtain ⟨m1, e1⟩ := I.base.tbls b ps e
  obtain ⟨m2, e2⟩ := u.tbls b _ e1
  exact ⟨m1 ++ m2, by rw [e2, Array.append_assoc]⟩
theorem hid_un (I : Inv X pins σ H s) : UnB (frs X.stack) H H s.heap (hidF X s) :=
 ⟨fun b o e _ hb => PySem.W.hideAll_get _ e hb, fun _ _ _ n => n, fun b o e hb => ⟨o, PySem.W.hideAll_get _ e hb⟩, fun _ _ e => e, fun _ _ _ e => e, fun b ps e => ⟨#[], by rw [e]; simp⟩⟩
theorem base_slots (I : Inv X pins σ H s) (hex : X.ex = []) : SlF X.fs X.s₀.heap s.heap := fun b hb o e => I.base.slot b o e (I.ok.frf b hb) hb (by rw [hex]; simp)
theorem SlF.trans {fs gs : List Addr} {h h1 h2 : Heap} (x : SlF fs h h1) (y : SlF gs h1 h2) (s : ∀ b ∈ fs, b ∈ gs) : SlF fs h h2 := fun b hb o e => by
 obtain ⟨sl, q⟩ := x b hb o e
 obtain ⟨sl', q'⟩ := y b (s b hb) _ q
 exact ⟨sl', q'⟩
end
def Throws (X : Cx) (C : Addr) (W : Hp → Prop) : Prop := ∀ (pins : List (Addr × Obj)) (σ : St) (H : Hp) (s : Shared) (h' : Heap) (e : Addr) (vs : List Value), Inv X pins σ H s → Heap.MadeExcOf s.heap h' e (.ref C) vs → W H → X.xe (.ref e) { s with heap := h' }
section
variable {P : Program} {w : World} {K : PySem.W.Frag} {mg : Str → Option Value} {base : Heap} {N : List Str} {qual : Str} {scope : Scope} {f : Addr} {cd : Value} {A : Around} {outer : List Env} {s0 : Shared} {H0 : Hp} {E : XK} {C : Addr}
theorem throws_cx : Throws (cxOf (CX1 P w) P w K mg base N qual scope f cd A outer s0 H0 E) C (fun H => E (.ref C) none H) := by
 intro pins σ H s h' e vs I hx q
 refine wpAny_leaves_madeW (base := hidF _ s) (h := s.heap) I.ok.frames rfl hid_stays (hid_frames I) hx fun h'' t x1 x2 x3 x4 => ?_
 refine ⟨e, C, .ref t, hidF _ s, H, rfl, I.os, I.bare, x1, onB I rfl (hid_un I), ?_, hid_ok I, q⟩
 exact SlF.up (base_slots I rfl) (noF_of I.ok.funs) ((Heap.UpToSlots.of_keeps hx.keeps).trans x4)
end
def yQ0 (K : PySem.W.Frag) (C D : Addr) : Bool := PySem.W.kitCls K (.ref C) (.ref D) == some true && PySem.W.subIn K (.ref D) (.type "BaseException") == some true
structure ExcOf (K : PySem.W.Frag) (C : Addr) : Prop where
 ok : PySem.W.excIn K C [.type "ValueError", .type "Exception", .type "BaseException", .type "object"] "ValueError.__new__" = true
theorem ExcOf.obj {K : PySem.W.Frag} {C : Addr} {h : Heap} (O : ExcOf K C) (X : K.In h) : ∃ bm N nm q bs hdct sn sub ab col dd k0 k1 k2 k3 k5 mN, h.get? C = some (excClassObj nm q C N bs bm hdct sn sub ab col dd k0 k1 k2 k3 k5 "ValueError.__new__") ∧ h.Ns N mN ∧ mN "__init__" = none ∧
  OwnTail h [.type "ValueError", .type "Exception", .type "BaseException", .type "object"] bm := by
 have z := O.ok
 unfold PySem.W.excIn at z
 split at z
 next dd cd sl ho =>
  split at z
  next C' bm k0 k1 k2 k3 n k5 hm hs =>
   simp only [Bool.and_eq_true, beq_iff_eq, Bool.not_eq_true'] at z
   obtain ⟨⟨⟨⟨⟨e1, e2⟩, hdel⟩, tl⟩, ok⟩, ni⟩ := z
   subst e1 e2
   obtain ⟨nm, bs, mro, ns, qn, hd, sn, sub, ab, col, del⟩ := cd
   obtain ⟨l⟩ := sl
   simp only at hm hs hdel ok ni
   subst hm hdel hs
   exact ⟨bm, ns, nm, qn, bs, hd, sn, sub, ab, col, dd, k0, k1, k2, k3, k5, _, X _ _ ho, .of_isNs (PySem.W.isNs_of_in X ok), PySem.W.nsMap_none_of_in X ok ni, PySem.W.tail_of_in X tl⟩
  next => cases z
 next => cases z
section
variable {X : Cx} {C : Addr}
def tRaise (W : Hp → Prop) (ta : TA) : TS := fun _ σ H => ta σ H fun vs H1 => vs.length ≤ sizeLine ∧ W H1
theorem ps_raise {W : Hp → Prop} {x : Str} {np cpos pos : Pos} {e : Expr} {es : List Expr} {ta : TA} (hx : Throws X C W) (O : ExcOf X.K C) (hc : X.calm = true) (hm : X.mg x = some (.ref C)) (ha : PA X (e :: es) ta) (hg : glB X.env.scope x = true := by kernel_rfl)
  (h1 : isStar e = false := by rfl) (h2 : xZ7 es = true := by rfl) : PS X (.Raise (some (.Call (.Name x np) (e :: es) [] cpos)) none pos) (tRaise W ta) := by
 intro pins s σ H D I h
 obtain ⟨bm, N, nm, q, bs, hdct, sn, sub, ab, col, dd, k0, k1, k2, k3, k5, mN, hC, hN, hni, T⟩ := O.obj I.ok.mod.kin
 have st : starEach (e :: es) X.env = (false, eval e X.env) :: starEach es X.env := xY4 h1
 refine wpAny_Raise_call_subT (C := C) (nm := nm) (q := q) (N := N) (bs := bs) (bm := bm) (hdct := hdct) (sn := sn) (sub := sub) (ab := ab) (col := col) (dd := dd) (k0 := k0) (k1 := k1) (k2 := k2) (k3 := k3) (k5 := k5)
  PySem.F.excBase_ValueError (mN := mN) (T.hasType PySem.F.excBase_ValueError.hasBase) (I.ok.hd hc) (yW8 (by simp [xZ7, h1, h2])) hni (vU2 I (yV0 hg).1 hm ⟨rfl, ?_⟩ (yV0 hg).2.2)
 have hh := ha cpos pins s σ H _ I h
 rw [st] at hh ⊢
 exact Calls.evalArgs_plain (wpAny_mono hh (fun vs s₂ ⟨xs, H1, I1, r, hl, w⟩ => ⟨rfl, by rw [← r.length]; exact hl, I1.bk _ _ hC, hN.keeps I1.bk, T.keeps I1.bk, fun h' e' hm' => hx pins σ H1 s₂ h' e' vs I1 hm' w⟩) fun _ _ y => y)
end
theorem exc_match {K : PySem.W.Frag} {M : Model} {A : Around} {E : Value → Shared → Prop} {s : Shared} {e C D : Addr} {oe : Obj} {Q : Bool → Shared → Prop} (X : K.In s.heap) (he : s.heap.get? e = some oe) (hc : oe.cls = .ref C) (k : yQ0 K C D = true)
  (hq : Q true s) : wpAny M A (excMatches (.ref e) (.ref D)) Q E s := by
 obtain ⟨h, g, d, t, os⟩ := s
 unfold yQ0 at k
 rw [Bool.and_eq_true, beq_iff_eq, beq_iff_eq] at k
 obtain ⟨k1, k2, k3⟩ := PySem.W.kit_cls (M := M) X k.1
 have k4 := PySem.W.looks_subIn (M := M) X k.2
 have f := tc_notTuple
 unfold excMatches isExcClass isInstance
 repeat (first | (with_reducible refine wpAny_loadPart_at he ?_; rw [hc]) | with_reducible refine k1.at ?_ | with_reducible refine k2.at ?_ | with_reducible refine k3.at ?_ | with_reducible refine k4.at ?_ | wp_step)
 exact hq
section
variable {X : Cx}
abbrev tryX (X : Cx) (pn : List (Addr × Obj)) (Ex : St → XK) : Cx := { X with pn := X.pn ++ pn, xe := fun e s' => ∃ pins σ H s, Inv X (pn ++ pins) σ H s ∧ CX1 X.prog X.w X.stack H s (Ex σ) e s' }
abbrev hush (X : Cx) (v : Value) : Cx := { X with A := X.A.mark (some v), calm := false, xe := fun _ _ => False }
section
variable {pins pn : List (Addr × Obj)} {Ex : St → XK} {σ : St} {H : Hp} {s : Shared} {v : Value}
theorem inv_try (I : Inv X (pn ++ pins) σ H s) : Inv (tryX X pn Ex) pins σ H s :=
 ⟨⟨I.ok.mod, I.ok.kind, I.ok.glob, I.ok.blt, I.ok.above, I.ok.inj, I.ok.has, I.ok.cab, I.ok.hd, I.ok.frames, I.ok.stk, I.ok.exf, I.ok.bs, I.ok.bsz, I.ok.noex, I.ok.exfs, I.ok.funs, I.ok.frf⟩, I.os, I.bare, I.base, I.loc, I.cell, I.free, I.freeC, fun p hp => I.pin p (by rw [← List.append_assoc]; exact hp), I.hok, I.len⟩
theorem of_try (I : Inv (tryX X pn Ex) pins σ H s) : Inv X (pn ++ pins) σ H s :=
 ⟨⟨I.ok.mod, I.ok.kind, I.ok.glob, I.ok.blt, I.ok.above, I.ok.inj, I.ok.has, I.ok.cab, I.ok.hd, I.ok.frames, I.ok.stk, I.ok.exf, I.ok.bs, I.ok.bsz, I.ok.noex, I.ok.exfs, I.ok.funs, I.ok.frf⟩, I.os, I.bare, I.base, I.loc, I.cell, I.free, I.freeC, fun p hp => I.pin p (by rw [← List.append_assoc] at hp; exact hp), I.hok, I.len⟩
theorem inv_hush (I : Inv X pins σ H s) : Inv (hush X v) pins σ H s :=
 ⟨⟨I.ok.mod, I.ok.kind, I.ok.glob, I.ok.blt, I.ok.above, I.ok.inj, I.ok.has, I.ok.cab, (fun z => by cases z), I.ok.frames, I.ok.stk, I.ok.exf, I.ok.bs, I.ok.bsz, I.ok.noex, I.ok.exfs, I.ok.funs, I.ok.frf⟩, I.os, I.bare, I.base, I.loc, I.cell, I.free, I.freeC, I.pin, I.hok, I.len⟩
theorem of_hush (hd : X.calm = true → X.A.handled = none) (I : Inv (hush X v) pins σ H s) : Inv X pins σ H s :=
 ⟨⟨I.ok.mod, I.ok.kind, I.ok.glob, I.ok.blt, I.ok.above, I.ok.inj, I.ok.has, I.ok.cab, hd, I.ok.frames, I.ok.stk, I.ok.exf, I.ok.bs, I.ok.bsz, I.ok.noex, I.ok.exfs, I.ok.funs, I.ok.frf⟩, I.os, I.bare, I.base, I.loc, I.cell, I.free, I.freeC, I.pin, I.hok, I.len⟩
theorem sp_try {D : Ends} {f : Flow} (h : SP (tryX X pn Ex) [] D f s) : SP X pn D f s := by
 have g : ∀ {σ H}, Inv (tryX X pn Ex) [] σ H s → Inv X pn σ H s := fun {σ H} I => by
  have := of_try I
  rwa [List.append_nil] at this
 cases f with
 | next => obtain ⟨σ, H, I, q⟩ := h; exact ⟨σ, H, g I, q⟩
 | brk => obtain ⟨σ, H, I, q⟩ := h; exact ⟨σ, H, g I, q⟩
 | cont => obtain ⟨σ, H, I, q⟩ := h; exact ⟨σ, H, g I, q⟩
 | ret u => obtain ⟨v, σ, H, I, r, q⟩ := h; exact ⟨v, σ, H, g I, r, q⟩
theorem sp_hush {D : Ends} {f : Flow} (hd : X.calm = true → X.A.handled = none) (h : SP (hush X v) pins D f s) : SP X pins D f s := by
 cases f with
 | next => obtain ⟨σ, H, I, q⟩ := h; exact ⟨σ, H, of_hush hd I, q⟩
 | brk => obtain ⟨σ, H, I, q⟩ := h; exact ⟨σ, H, of_hush hd I, q⟩
 | cont => obtain ⟨σ, H, I, q⟩ := h; exact ⟨σ, H, of_hush hd I, q⟩
 | ret u => obtain ⟨v, σ, H, I, r, q⟩ := h; exact ⟨v, σ, H, of_hush hd I, r, q⟩
end
def tTry (K : PySem.W.Frag) (D : Addr) (tb : (St → XK) → TS) (th : TS) : TS := fun d σ H => tb (fun σ' c _ H' => ∃ C, c = .ref C ∧ yQ0 K C D = true ∧ th d σ' H') d σ H
theorem ps_try {body suite : List Stmt} {b₀ : Stmt} {x : Str} {D : Addr} {np hpos pos : Pos} {tb : (St → XK) → TS} {th : TS} (hm : X.mg x = some (.ref D)) (hb : ∀ pn Ex, PSs (tryX X pn Ex) body (tb Ex)) (hh : ∀ v, PSs (hush X v) (b₀ :: suite) th)
  (hst : X.stack = X.env :: X.outer := by rfl) (hfr : X.env.frame = some X.env.locals := by rfl) (hg : glB X.env.scope x = true := by kernel_rfl) :
  PS X (.Try body [.ExceptHandler (some (.Name x np)) none (b₀ :: suite) hpos] [] [] pos) (tTry X.K D tb th) := by
 intro pins s σ H d I h
 refine wpAny_Try_except ?_
 refine wpAny_mono (hb pins _ [] s σ H d (inv_try (by rw [List.append_nil]; exact I)) h) (fun f s1 q => ?_) fun e s' q => ?_
 ·have q := sp_try q
  cases f with
  | next => exact wpAny_execs_nil q
  | brk => exact q
  | cont => exact q
  | ret u => exact q
 ·obtain ⟨pins', σ', H1, s1, I1, a, C, a0, B, H', rfl, os, bare, fl, un, sl, hok, C', hC', mt, ht⟩ := q
  cases hC'
  have hf : X.A.frames = some (X.env :: X.outer) := by rw [← hst]; exact I.ok.frames
  have nf := noF_of I1.stack
  rw [hst] at fl
  have at_ : ∀ {h' : Heap}, Heap.FlyingW B (X.env :: X.outer) a (.ref C) a0 h' → s'.heap.UpToSlots h' → Inv X pins σ' H' { s' with heap := h' } := fun {h'} f u => by
   have J : Inv X (pins ++ pins') σ' H' { s' with heap := h' } := I1.call' (ch := []) os (un.un f.1 (sl.up nf u)) (hok.kept f.1) bare (fun _ z => nomatch z)
   exact J.pins_of fun p hp => J.pin p (List.mem_append_right _ (List.mem_append_left _ hp))
  refine wpAny_looks_onW hf hfr fl fun h4 fl4 up4 => wpAny_landsW fl4 fun h5 fl5 up5 => ?_
  have I5 := at_ fl5 (up4.trans up5)
  obtain ⟨ob, hob, hobc⟩ := fl5.there
  refine wpAny_handleBy_cons (codeAny_handlers_test (vU2 (X := hush X (.ref a)) (inv_hush I5) (yV0 hg).1 hm ?_ (yV0 hg).2.2)) (by intro q; cases q)
  refine exc_match I5.kIn hob hobc mt (codeAny_handlers_suite (lands_againW fl5 fun h6 fl6 up6 => ?_))
  have I6 := at_ fl6 ((up4.trans up5).trans up6)
  exact wpAny_mono (hh (.ref a) pins _ σ' H' d (inv_hush I6) ht) (fun f s2 q => sp_hush I.ok.hd q) fun _ _ z => z.elim
end
def PassesS (CX : CXT) (X : Cx) (Ex : St → XK) : Prop := ∀ (pins : List (Addr × Obj)) (σ : St) (H : Hp) (s : Shared) (e : Value) (s' : Shared), Inv X pins σ H s → CX X.stack H s (Ex σ) e s' → X.xe e s'
theorem passS {X : Cx} {pn : List (Addr × Obj)} {Ex : St → XK} : PassesS (CX1 X.prog X.w) (tryX X pn Ex) Ex := fun pins σ H s _ _ I h => ⟨pins, σ, H, s, of_try I, h⟩
section
variable {X : Cx} {CX : CXT} {k : Nat} {f C : Addr} {fd : FuncData} {ps : List Str} {sp : Sp} {dvs : List V} {ds : List Value} {Ex : St → XK} {x m : Str} {p pos apos : Pos} {e o : Expr} {es : List Expr} {ta : TE} {t : TA}
theorem run_fnX {pins : List (Addr × Obj)} {σ : St} {H : Hp} {s : Shared} {Q : VK} {us : List Value} {vs : List V} (F : FnOk X.prog X.w X.K X.mg X.base CX k f fd ps sp) (hr : Room k X.A) (hb : Binds X.K fd ps ds) (hd : Vals dvs ds) (hx : PassesS CX X Ex)
  (I : Inv X pins σ H s) (r : Vals vs us) (h : sp (vs ++ dvs) H Q (Ex σ)) : wpAny (model X.prog X.w) X.A (call (.ref f) us) (EP X pins σ Q) X.xe s := by
 have r2 : Vals (vs ++ dvs) (us ++ ds) := r.append hd
 have hl : (us ++ ds).length = ps.length := by rw [← r2.length]; exact F.len _ _ _ _ h
 refine wpAny_call (codeAny_mono (F.run X.A X.stack s H ⟨us, []⟩ (us ++ ds) (vs ++ dvs) Q (Ex σ) hr I.env0 (hb s us I.kIn hl) r2 h) fun r s' hq => ?_)
 cases r with
 | error e => exact hx pins σ H s e s' I hq
 | ok fl =>
  cases fl with
  | ret u => exact I.after hq
  | next => exact False.elim hq
  | brk => exact False.elim hq
  | cont => exact False.elim hq
def tMethX (C : Addr) (m : Str) (sp : Sp) (dvs : List V) (Ex : St → XK) (ta : TE) (t : TA) : TE := fun σ H Q => ta σ H fun x H1 => ∃ a dx fs, x = .ref a ∧ H1 a = some (.ins C dx fs) ∧ fs.lookup m = none ∧
 t σ H1 fun vs H2 => sp (x :: (vs ++ dvs)) H2 Q (Ex σ)
def tCallX (sp : Sp) (dvs : List V) (Ex : St → XK) (t : TA) : TE := fun σ H Q => t σ H fun vs H1 => sp (vs ++ dvs) H1 Q (Ex σ)
theorem pe_methX {pl : Sem Bool} (he : PE X o ta) (c : Cls X.K C) (hm : Meth X.K C m f) (F : FnOk X.prog X.w X.K X.mg X.base CX k f fd ps sp) (hr : Room k X.A) (hb : Binds X.K fd ps ds) (hd : Vals dvs ds) (hx : PassesS CX X Ex) (ha : PA X (e :: es) t)
  (h1 : isStar e = false := by rfl) (h2 : xZ7 es = true := by rfl)
  (ht : eval (.Call (.Attribute o m apos) (e :: es) [] pos) X.env = (do
   let ov ← eval o X.env
   standAt apos.atName
   let (f, first) ← holding [ov] (getMethod ov m pl)
   callWith pos f first (backTo pos (starEach (e :: es) X.env)) (backToKw pos (keywordEach [] X.env))) := by rfl) :
  PE X (.Call (.Attribute o m apos) (e :: es) [] pos) (tMethX C m sp dvs Ex ta t) := by
 intro pins s σ H Q I h
 refine PySem.W.methodCall_KW (pl := pl) (thn (he pins s σ H _ I h) fun u s1 ⟨x, H1, I1, rx, a, dx, fs, ex, ea, l, q⟩ => ?_) ht
 subst ex
 obtain rfl : u = Value.ref a := rx
 refine vW4 I1 ea c hm l ?_
 refine PySem.W.callWith_K (first := [.ref a]) (h₀ := X.base) I.ok.mod.kin hm.kp (thn (ha pos pins s1 σ H1 _ I1 q) fun us s2 ⟨vs, H2, I2, r, q2⟩ => ⟨I2.kIn, ?_⟩) (xY4 h1) (yW8 h2)
 exact run_fnX (us := .ref a :: us) (vs := .ref a :: vs) F hr hb hd hx I2 (.cons rfl r) q2
theorem cFX (F : FnOk X.prog X.w X.K X.mg X.base CX k f fd ps sp) (hr : Room k X.A) (hm : X.mg x = some (.ref f)) (hk : PySem.W.keepIn X.K (.ref f) = true) (hb : Binds X.K fd ps ds) (hd : Vals dvs ds) (hx : PassesS CX X Ex) (ha : PA X (e :: es) t) (hg : glB X.env.scope x = true := by kernel_rfl)
  (h1 : isStar e = false := by rfl) (h2 : xZ7 es = true := by rfl) : PE X (.Call (.Name x p) (e :: es) [] pos) (tCallX sp dvs Ex t) := by
 intro pins s σ H Q I h
 refine wpAny_Call_Name_kw (vU2 I (yV0 hg).1 hm ?_ (yV0 hg).2.2)
 refine PySem.W.callWith_K (h₀ := X.base) I.ok.mod.kin hk (thn (ha pos pins s σ H _ I h) fun us s1 ⟨vs, H1, I1, r, q⟩ => ⟨I1.kIn, ?_⟩) (xY4 h1) (yW8 h2)
 exact run_fnX F hr hb hd hx I1 r q
end
theorem okB1 {P : Program} {w : World} {K : PySem.W.Frag} {mg : Str → Option Value} {base : Heap} {x qual : Str} {st : Stmt} {f : Addr} {fd : FuncData} {N ps : List Str} {k : Nat} {sp : Sp} {body : List Stmt} (F : Fun K x qual st f fd) (S : FnScope N ps (defScope st)) (len : ∀ vs H Q E, sp vs H Q E → vs.length = ps.length)
  (hb : defBody st = body)
  (hbody : ∀ (cdv : Value) (A : Around) (outer : List Env) (s : Shared) (H : Hp) (vs : List V) (Q : VK) (E : XK), Room k (A.deeper (envOfC qual (defScope st) s.heap.objs.size f cdv)) → sp vs H Q E →
   ∃ t, PSs (cxOf (CX1 P w) P w K mg base N qual (defScope st) f cdv A outer s H E) body t ∧ t { nx := fun _ H' => Q .non H', rt := Q } (L2.start N vs) H) : FnOk P w K mg base (CX1 P w) (k + 1) f fd ps sp := by
 obtain ⟨oc, od, kV, doc, pm, an, cdv, ct, osl, rfl, lk, hcd⟩ := F.ex
 refine fn_of lk hcd S len fun A outer s H vs Q E hr hsp => ?_
 rw [hb]
 exact hbody cdv A outer s H vs Q E hr hsp
theorem PS.nox {X : Cx} {st : Stmt} {t : TS} (h : PS X.nox st t) : PS X st t := fun pins s σ H D I hw =>
 wpAny_mono (h pins s σ H D (I.wish _) hw) (fun _ _ q => q.unwish) fun _ _ z => False.elim z
end L4
namespace L4
open PySem PySem.Spec L2 L3
open PyProof.Rows hiding St
section
variable {X : Cx} {pins : List (Addr × Obj)} {σ : St} {H : Hp} {s : Shared}
theorem gone_ok {M : Model} {A : Around} {E : Value → Shared → Prop} {i : Nat} {x : Str} {pos : Pos} {Q : Unit → Shared → Prop} (I : Inv X pins σ H s) (hN : X.N.Nodup) (hi : X.N[i]? = some x) (hk : X.env.scope.names.lookup x = some .local)
  (h : ∀ s', Inv X pins (σ.set i none) H s' → Q () s') : wpAny M A (do bindName X.env x .none; unbindBehindTheSuite X.env x pos) Q E s := by
 obtain ⟨m, hn, hl⟩ := id I.loc
 have hcls : (X.env.scope.kind == .class || (X.env.scope.kind == .module && X.env.locals != X.env.globals)) = false := by rw [I.ok.kind]; rfl
 have old : ∀ {b : Addr} {o : Obj}, X.s₀.heap.get? b = some o → b ≠ X.env.locals := fun e => Nat.ne_of_lt (Nat.lt_of_lt_of_le (Heap.lt_size e) I.ok.above)
 refine wpAny_nameGoes_keeps hk hn hcls (fun h' v hn' hs => ?_)
 have base : Un X.fs X.ex X.H₀ H X.s₀.heap h' := by
  refine ⟨fun b o e n hb hx => (hs.2 b (old e)).trans (I.base.keep b o e n hb hx), fun b o e n hb hx => ?_, I.base.free, fun b o e hx => ?_, I.base.tups, I.base.frzs, I.base.tbls⟩
  ·obtain ⟨sl, e1⟩ := I.base.slot b o e n hb hx
   exact ⟨sl, (hs.2 b (old e)).trans e1⟩
  ·obtain ⟨o', e1⟩ := I.base.there b o e hx
   exact ⟨o', (hs.2 b (old e)).trans e1⟩
 have hok : HOk X.prog X.w H h' := fun b ob e => (I.hok b ob e).stay (fun c w' hc q => (hs.2 c (fun z => by
  subst z
  have f := I.free
  rcases hc with hc | hc
  ·rw [hc, e] at f; cases f
  ·rw [hc] at f; cases f)).trans q) (fun _ q => q) fun _ _ q => q
 refine h _ ⟨I.ok, I.os, I.bare, base, ⟨_, hn', fun j y v' e1 e2 e3 => ?_⟩, fun y c e => ?_, I.free, I.freeC, fun p hp => ?_, hok, by rw [List.length_set]; exact I.len⟩
 ·by_cases hj : j = i
  ·subst hj
   have hjl : j < σ.length := by
    have := (List.getElem?_eq_some_iff.mp e2).1
    rwa [List.length_set] at this
   rw [List.getElem?_set_self hjl] at e2
   cases e2
  ·rw [List.getElem?_set_ne (Ne.symm hj)] at e2
   obtain ⟨u', r', q⟩ := hl j y v' e1 e2 e3
   refine ⟨u', r', ?_⟩
   rcases q with ⟨k, e⟩ | ⟨k, c, e, z⟩
   ·refine .inl ⟨k, ?_⟩
    have : y ≠ x := fun e => hj (nodup_ix hN e1 (e ▸ hi))
    simp [this, e]
   ·exact .inr ⟨k, c, e, z.sameBut hs (I.cne y c e)⟩
 ·obtain ⟨w', z⟩ := I.cell y c e
  exact ⟨w', z.sameBut hs (I.cne y c e)⟩
 ·obtain ⟨e, n, ne, nf, d⟩ := I.pin p hp
  exact ⟨(hs.2 p.1 ne).trans e, n, ne, nf, d⟩
end
abbrev hushE (X : Cx) (a : Addr) (oe : Obj) : Cx := { X with A := X.A.mark (some (.ref a)), calm := false, pn := X.pn ++ [(a, oe)], xe := fun _ _ => False }
section
variable {X : Cx}
section
variable {pins : List (Addr × Obj)} {σ : St} {H : Hp} {s : Shared} {a : Addr} {oe : Obj}
theorem inv_hushE (I : Inv X pins σ H s) (h1 : s.heap.get? a = some oe) (h2 : H a = none) (h3 : a ≠ X.env.locals) (h4 : a ∉ X.fs) (h5 : ∀ v, oe.data ≠ .cell v) : Inv (hushE X a oe) pins σ H s :=
 ⟨⟨I.ok.mod, I.ok.kind, I.ok.glob, I.ok.blt, I.ok.above, I.ok.inj, I.ok.has, I.ok.cab, (fun z => by cases z), I.ok.frames, I.ok.stk, I.ok.exf, I.ok.bs, I.ok.bsz, I.ok.noex, I.ok.exfs, I.ok.funs, I.ok.frf⟩, I.os, I.bare, I.base, I.loc, I.cell, I.free, I.freeC, (fun p hp => by
  rcases List.mem_append.mp hp with hp | hp
  ·rcases List.mem_append.mp hp with hp | hp
   ·exact I.pin p (List.mem_append_left _ hp)
   ·have : p = (a, oe) := by simpa using hp
    subst this
    exact ⟨h1, h2, h3, h4, h5⟩
  ·exact I.pin p (List.mem_append_right _ hp)), I.hok, I.len⟩
theorem of_hushE (hd : X.calm = true → X.A.handled = none) (I : Inv (hushE X a oe) pins σ H s) : Inv X pins σ H s :=
 ⟨⟨I.ok.mod, I.ok.kind, I.ok.glob, I.ok.blt, I.ok.above, I.ok.inj, I.ok.has, I.ok.cab, hd, I.ok.frames, I.ok.stk, I.ok.exf, I.ok.bs, I.ok.bsz, I.ok.noex, I.ok.exfs, I.ok.funs, I.ok.frf⟩, I.os, I.bare, I.base, I.loc, I.cell, I.free, I.freeC, (fun p hp => I.pin p (by
  rcases List.mem_append.mp hp with hp | hp
  ·exact List.mem_append_left _ (List.mem_append_left _ hp)
  ·exact List.mem_append_right _ hp)), I.hok, I.len⟩
end
theorem objOk_there {P : Program} {w : World} {H : Hp} {h : Heap} {a : Addr} {o : HO} (x : yY5 P w H h a o) : ∃ ob, h.get? a = some ob := by
 cases o with
 | lst xs => obtain ⟨_, _, _, _, e⟩ := x; exact ⟨_, e⟩
 | tup xs => obtain ⟨_, _, _, _, e, _⟩ := x; exact ⟨_, e⟩
 | dK kvs => obtain ⟨_, _, _, _, o, _, _, e, _⟩ := x; exact ⟨_, e⟩
 | dT kvs => obtain ⟨_, _, _, _, o, _, _, e, _⟩ := x; exact ⟨_, e⟩
 | set S n => obtain ⟨o, _, _, _, e, _⟩ := x; exact ⟨_, e⟩
 | ins C dx fs => obtain ⟨_, _, _, e, _⟩ := x; exact ⟨_, e⟩
 | own y => obtain ⟨_, e⟩ := x; exact ⟨_, e⟩
 | xd fs => obtain ⟨_, ⟨_, _, _, e, _⟩, _⟩ := x; exact ⟨_, e⟩
 | rng lo hi => obtain ⟨_, _, _, e⟩ := x; exact ⟨_, e⟩
 | frz ob u => obtain ⟨e, _⟩ := x; exact ⟨_, e⟩
 | tbl ps => exact ⟨_, (show h.get? a = some _ from x)⟩
 | met f y => exact ⟨_, (show h.get? a = some _ from x)⟩
 | ext φ => obtain ⟨_, ⟨_, e⟩, _⟩ := x; exact ⟨_, e⟩
def goes (d : Ends) (i : Nat) : Ends := { nx := fun σ H => d.nx (σ.set i none) H, rt := d.rt, bk := fun σ H => d.bk (σ.set i none) H, ct := fun σ H => d.ct (σ.set i none) H }
def tTryAs (K : PySem.W.Frag) (D : Addr) (i : Nat) (tb : (St → XK) → TS) (th : Addr → Obj → TS) : TS := fun d σ H => tb (fun σ' c _ H' => ∃ C, c = .ref C ∧ yQ0 K C D = true ∧ ∀ a oe vs, oe.cls = .ref C → oe.data = .fields vs → th a oe (goes d i) (σ'.set i (some (.ref a))) H') d σ H
theorem ps_tryAs {body suite : List Stmt} {b₀ : Stmt} {x n : Str} {D : Addr} {np hpos pos : Pos} {tb : (St → XK) → TS} {th : Addr → Obj → TS} (B : ownB X.N X.env.scope = true) (i : Nat) (hm : X.mg x = some (.ref D)) (hb : ∀ pn Ex, PSs (tryX X pn Ex) body (tb Ex)) (hh : ∀ a oe, PSs (hushE X a oe) (b₀ :: suite) (th a oe))
  (hi : X.N[i]? = some n := by rfl) (hst : X.stack = X.env :: X.outer := by rfl) (hfr : X.env.frame = some X.env.locals := by rfl) (hg : glB X.env.scope x = true := by kernel_rfl) (hk : (X.env.scope.names.lookup n == some .local) = true := by kernel_rfl) :
  PS X (.Try body [.ExceptHandler (some (.Name x np)) (some n) (b₀ :: suite) hpos] [] [] pos) (tTryAs X.K D i tb th) := by
 intro pins s σ H d I h
 refine wpAny_Try_except ?_
 refine wpAny_mono (hb pins _ [] s σ H d (inv_try (by rw [List.append_nil]; exact I)) h) (fun f s1 q => ?_) fun e s' q => ?_
 ·have q := sp_try q
  cases f with
  | next => exact wpAny_execs_nil q
  | brk => exact q
  | cont => exact q
  | ret u => exact q
 ·obtain ⟨pins', σ', H1, s1, I1, a, C, a0, Bh, H', rfl, os, bare, fl, un, sl, hok, C', hC', mt, ht⟩ := q
  cases hC'
  have hf : X.A.frames = some (X.env :: X.outer) := by rw [← hst]; exact I.ok.frames
  have nf := noF_of I1.stack
  rw [hst] at fl
  have at_ : ∀ {h' : Heap}, Heap.FlyingW Bh (X.env :: X.outer) a (.ref C) a0 h' → s'.heap.UpToSlots h' → Inv X pins σ' H' { s' with heap := h' } := fun {h'} f u => by
   have J : Inv X (pins ++ pins') σ' H' { s' with heap := h' } := I1.call' (ch := []) os (un.un f.1 (sl.up nf u)) (hok.kept f.1) bare (fun _ z => nomatch z)
   exact J.pins_of fun p hp => J.pin p (List.mem_append_right _ (List.mem_append_left _ hp))
  refine wpAny_looks_onW hf hfr fl fun h4 fl4 up4 => wpAny_landsW fl4 fun h5 fl5 up5 => ?_
  have I5 := at_ fl5 (up4.trans up5)
  obtain ⟨ob, hob, hobc⟩ := fl5.there
  refine wpAny_handleBy_cons (codeAny_handlers_test (vU2 (X := hush X (.ref a)) (inv_hush I5) (yV0 hg).1 hm ?_ (yV0 hg).2.2)) (by intro q; cases q)
  refine exc_match I5.kIn hob hobc mt (codeAny_handlers_suite_as (lands_againW fl5 fun h6 fl6 up6 => ?_))
  have I6 := at_ fl6 ((up4.trans up5).trans up6)
  obtain ⟨oe, vs, hoe, hoec, hoed, _⟩ := fl6.first
  have nfr : a ∉ frs (X.env :: X.outer) := fun z => by
   obtain ⟨_, o', ho', hd'⟩ := fl6.2.2.1.mem z
   rw [hoe] at ho'
   cases ho'
   exact hd' _ hoed
  have nloc : a ≠ X.env.locals := fun z => nfr (List.mem_filterMap.mpr ⟨X.env, List.mem_cons_self, by rw [hfr, z]⟩)
  have nfs : a ∉ X.fs := fun z => nfr (by
   obtain ⟨env, he, hf'⟩ := List.mem_filterMap.mp z
   exact List.mem_filterMap.mpr ⟨env, List.mem_cons_of_mem _ he, hf'⟩)
  have na : H' a = none := by
   cases q : H' a with
   | none => rfl
   | some u =>
    obtain ⟨ob', e'⟩ := objOk_there (hok a u q)
    rw [fl6.2.1] at e'
    cases e'
  have hkl := beq_iff_eq.mp hk
  have IE := inv_hushE I6 hoe na nloc nfs (fun v z => by rw [hoed] at z; cases z)
  refine store_ok (X := hushE X a oe) (v := .ref a) (u := .ref a) IE (Own.of B).nd hi (.inl hkl) rfl (fun s7 I7 => ?_) (.inr hkl)
  refine wpAny_mono (hh a oe pins s7 _ H' (goes d i) I7 (ht a oe vs hoec hoed)) (fun f s8 q => ?_) fun _ _ z => z.elim
  cases f with
  | next => obtain ⟨σ8, H8, I8, q⟩ := q; exact gone_ok (of_hushE I.ok.hd I8) (Own.of B).nd hi hkl fun s9 I9 => ⟨_, _, I9, q⟩
  | brk => obtain ⟨σ8, H8, I8, q⟩ := q; exact gone_ok (of_hushE I.ok.hd I8) (Own.of B).nd hi hkl fun s9 I9 => ⟨_, _, I9, q⟩
  | cont => obtain ⟨σ8, H8, I8, q⟩ := q; exact gone_ok (of_hushE I.ok.hd I8) (Own.of B).nd hi hkl fun s9 I9 => ⟨_, _, I9, q⟩
  | ret u => obtain ⟨v, σ8, H8, I8, r, q⟩ := q; exact gone_ok (of_hushE I.ok.hd I8) (Own.of B).nd hi hkl fun s9 I9 => ⟨v, _, _, I9, r, q⟩
end
end L4
namespace L4
open PySem PySem.Spec L2 L3
open PyProof.Rows hiding St
structure ExcAt (K : PySem.W.Frag) (C : Addr) : Prop where
 cls : (PySem.W.clsIn K C).isSome = true
 ga : PySem.W.findIn K (.ref C) "__getattribute__" = some (some (.builtin "BaseException.__getattribute__"))
 noga : PySem.W.findIn K (.ref C) "__getattr__" = some none
 ca : PySem.W.findIn K (.ref C) "__class__" = some (some (.builtin "object.__class__"))
 sub : PySem.W.subIn K (.ref C) (.type "object") = some true
 base : PySem.W.subIn K (.ref C) (.type "BaseException") = some true
section
variable {prog : Program} {w : World} {A : Around} {E : Value → Shared → Prop} {h : Heap} {g : Array GenState} {d : Drawn} {t : Nat} {os : OsState} {a C : Addr} {o : Obj} {K : PySem.W.Frag}
theorem xclass_get {R : Result → Shared → Prop} (X : K.In h) (Z : ExcAt K C) (hx : h.get? a = some o) (hc : o.cls = .ref C) (hq : R (.ok (.ret (.ref C))) ⟨h, g, d, t, os⟩) :
  codeAny (model prog w) A (.call (.builtin "getset_descriptor.__get__") ⟨[.builtin "object.__class__", .ref a, .ref C], []⟩) R ⟨h, g, d, t, os⟩ := by
 have hT5 : (⟨h, g, d, t, os⟩ : Shared).TypeIs (.builtin "object.__class__") "getset_descriptor" := F.typeOf_object_class
 have L : PySem.W.Looks (model prog w) h (isSubtype (.ref C) (.type (".".intercalate ("object.__class__".cutAt '.').dropLast))) true := by rw [F.owner_object_class]; exact PySem.W.looks_subIn X Z.sub
 refine codeAny_call_builtin F.slot_gs_get.plain F.entry_gs_get (F.slot_gs_get.check _ _ _ _ _ _ _ _ hT5 (F.args_gs_get _ _ _) ?_)
 repeat (any_goals (first | assumption | (with_reducible refine wpAny_loadPart_at hx ?_; rw [hc]) | with_reducible refine L.at ?_ | wp_step))
 refine ⟨Code.quiet_builtin _ (by decide +kernel), codeAny_builtin F.entry_object_class ?_⟩
 repeat (any_goals (first | assumption | (with_reducible refine wpAny_loadPart_at hx ?_; rw [hc]) | wp_step))
theorem xclass_entry {tk : Tok} {Q : Fin → Shared → Prop} (X : K.In h) (Z : ExcAt K C) (hx : h.get? a = some o) (hc : o.cls = .ref C) (hq : Q (.done (.ret (.ref C))) ⟨h, g, d, t, os⟩) :
  wpAny (model prog w) A (Builtin.«object.__getattribute__» ⟨[.ref a, .str "__class__" tk], []⟩) Q E ⟨h, g, d, t, os⟩ := by
 have hT5 : (⟨h, g, d, t, os⟩ : Shared).TypeIs (.builtin "object.__class__") "getset_descriptor" := F.typeOf_object_class
 have L := PySem.W.looks_findIn (M := model prog w) X Z.ca
 have f5 := F.typeOf_object_class
 have f6 := F.slot_gs_get.lookup
 have f7 := F.slot_gs_set.lookup
 repeat (any_goals (first | assumption | (with_reducible refine wpAny_loadPart_at hx ?_; rw [hc]) | with_reducible refine L.at ?_ | wp_step))
 refine xclass_get X Z hx hc ?_
 repeat (any_goals (first | assumption | wp_step))
theorem xclass_check {M : Model} {nameV : Value} {Q : Unit → Shared → Prop} (X : K.In h) (Z : ExcAt K C) (hx : h.get? a = some o) (hc : o.cls = .ref C) (hq : Q () ⟨h, g, d, t, os⟩) :
  wpAny M A (checkBuiltinCall "BaseException.__getattribute__" ⟨[.ref a, nameV], []⟩) Q E ⟨h, g, d, t, os⟩ := by
 have L := PySem.W.looks_subIn (M := M) X Z.base
 have k1 : builtinKind "BaseException.__getattribute__" = some .slot := by decide +kernel
 have k2 : splitId "BaseException.__getattribute__" = some ("BaseException", "__getattribute__") := by decide +kernel
 have k3 := F.args_bexc_ga (.ref a) nameV
 simp only [checkBuiltinCall, k1, k2]
 refine wpAny_bind ?_
 unfold isInstance
 repeat (first | (with_reducible refine wpAny_loadPart_at hx ?_; rw [hc]) | with_reducible refine L.at ?_ | wp_step)
 exact hq
theorem xclass_call {tk : Tok} {R : Result → Shared → Prop} (X : K.In h) (Z : ExcAt K C) (hx : h.get? a = some o) (hc : o.cls = .ref C) (hq : R (.ok (.ret (.ref C))) ⟨h, g, d, t, os⟩) :
  codeAny (model prog w) A (.call (.builtin "BaseException.__getattribute__") ⟨[.ref a, .str "__class__" tk], []⟩) R ⟨h, g, d, t, os⟩ :=
 codeAny_call_builtin F.attr_ValueError.ga.plain F.entry_bexc_ga (xclass_check X Z hx hc (xclass_entry X Z hx hc hq))
theorem xclass_by {tk : Tok} {Q : Value → Shared → Prop} (X : K.In h) (Z : ExcAt K C) (hx : h.get? a = some o) (hc : o.cls = .ref C) (hq : Q (.ref C) ⟨h, g, d, t, os⟩) : wpAny (model prog w) A (getAttrBy (.ref a) (.str "__class__" tk) false) Q E ⟨h, g, d, t, os⟩ := by
 have L1 := PySem.W.looks_findIn (M := model prog w) X Z.ga
 have L2 := PySem.W.looks_findIn (M := model prog w) X Z.noga
 have f3 := F.attr_ValueError.ga.bind (.ref a)
 have hx2 : (Value.builtin "BaseException.__getattribute__" == Value.builtin "object.__getattribute__") = false := by decide +kernel
 have hx1 : (onTheHeap (Value.ref C) && Value.builtin "BaseException.__getattribute__" == Value.builtin "object.__getattribute__") = false := by rw [hx2]; rfl
 have hx0 : (false && onTheHeap (Value.builtin "BaseException.__getattribute__")) = false := rfl
 repeat (any_goals (first | assumption | (with_reducible refine wpAny_loadPart_at hx ?_; rw [hc]) | with_reducible refine L1.at ?_ | with_reducible refine L2.at ?_ | wp_step))
 refine xclass_call X Z hx hc ?_
 repeat (any_goals (first | assumption | wp_step))
theorem xclass_attr {Q : Option Value → Shared → Prop} (X : K.In h) (Z : ExcAt K C) (hx : h.get? a = some o) (hc : o.cls = .ref C) (hq : Q (some (.ref C)) ⟨h, g, d, t + 1, os⟩) : wpAny (model prog w) A (getAttr? (.ref a) "__class__") Q E ⟨h, g, d, t, os⟩ := by
 unfold getAttr? getAttrBy?
 repeat (any_goals (first | assumption | with_reducible apply xclass_by X Z hx hc | wp_step))
end
theorem kitx_exc {K : PySem.W.Frag} {a C : Addr} {o : Obj} (Z : ExcAt K C) (hc : o.cls = .ref C) : PySem.W.KitX K (.ref a) (.ref C) (fun h => h.get? a = some o) where
 ty := fun M h _ p => hc ▸ (PySem.W.Looks.ld p).andThen .now
 it := fun M h X _ => by
  obtain ⟨cd, hcd⟩ := Option.isSome_iff_exists.mp Z.cls
  unfold PySem.W.clsIn at hcd
  split at hcd
  ·next ho =>
   intro A' Q' E' s' k q
   unfold isType loadHead
   exact wpAny_bind (wpAny_loadPart (k _ _ (X _ _ ho)) (wpAny_pure q))
  ·cases hcd
 ne := fun h tp dd its n sl X htp => by
  obtain ⟨cd, hcd⟩ := Option.isSome_iff_exists.mp Z.cls
  refine Bool.eq_false_iff.mpr fun q => ?_
  have e : C = tp := Value.ref.inj (beq_iff_eq.mp q)
  subst e
  unfold PySem.W.clsIn at hcd
  split at hcd
  ·next ho =>
   have := X _ _ ho
   rw [htp] at this
   cases this
  ·cases hcd
 ca := fun {_ _ _ _ _ s} X p k => by
  obtain ⟨h, g, d, t, os⟩ := s
  exact xclass_attr X Z p hc k
theorem call_isiX {X : Cx} (a : Addr) (oe : Obj) : CallR (hushE X a oe) (.builtin "isinstance") (fun xs H Q => ∃ C D b, oe.cls = .ref C ∧ ExcAt X.K C ∧ xs = [.ref a, .ref D] ∧ PySem.W.kitOne X.K (.ref C) (.ref D) = some b ∧ Q (.bl b) H) := by
 intro pins s σ H xs us Q I r h
 obtain ⟨C, D, b, hc, Z, rfl, e, q⟩ := h
 obtain ⟨u, v, rfl, ru, rv⟩ := vals2 r
 cases (show u = Value.ref a from ru)
 cases (show v = Value.ref D from rv)
 have hp := (I.pin (a, oe) (List.mem_append_left _ (List.mem_append_right _ (List.mem_singleton.mpr rfl)))).1
 exact PySem.W.kia_one (kitx_exc Z hc) I.kIn hp e (fun z => nomatch z) fun tk => ⟨.bl b, H, I.tok tk, rfl, q⟩
theorem nC {X : Cx} {x : Str} {C : Addr} {pos : Pos} (hm : X.mg x = some (.ref C)) (hg : glB X.env.scope x = true := by kernel_rfl) : PE X (.Name x pos) (tC (.ref C)) := pe_glob (yV0 hg).1 hm rfl (yV0 hg).2.2
end L4
section
seal L2.PE L2.PT L2.PW L2.PA L2.PS L2.PSs L2.PG L2.PGs L2.PI L3.PTs L2.PO L2.CallR L2.OpR L2.IxR L2.MtR L2.PSet L2.SlR
namespace Of
open PySem L2 L3 L4
def canPay (o : Off) : What → Bool
 | .pay _ m => decide (m ≤ o.coins)
 | .cut => true
def payO (o : Off) : What → Off
 | .pay _ m => { o with coins := o.coins - m }
 | .cut => o
structure Exs (K : PySem.W.Frag) (mg : Str → Option Value) (CP CE : Addr) : Prop where
 poor : mg "Poor" = some (.ref CP)
 post : mg "PostError" = some (.ref CE)
 oP : ExcOf K CP
 pp : yQ0 K CP CP = true
 pe : yQ0 K CP CE = true
def spPay (K : PySem.W.Frag) (C CP : Addr) : Sp := fun vs H Q E => ∃ (p : Addr) (i n : Nat) (o : Off) (to many : Int), vs = [.ref p, .int to, .int many] ∧ OffAt K C H p o ∧ Sends i n o ∧
 (o.coins < many → E (.ref CP) none H) ∧ (many ≤ o.coins → ∀ (la : Addr) (H' : Hp), OffAt K C H' p (yX7 { o with coins := o.coins - many } i (.pay to many)) → yZ5 K H' la (xX3 o i (.pay to many)) → SameX p H H' → Q (.ref la) H')
def spSentOr (K : PySem.W.Frag) (C : Addr) : Sp := fun vs H Q _ => ∃ (p c : Addr) (i n : Nat) (o : Off) (wh : What), vs = [.ref p, .ref c] ∧ OffAt K C H p o ∧ vV1 K H c wh ∧ Sends i n o ∧
 (canPay o wh = true → ∀ (la : Addr) (H' : Hp), OffAt K C H' p (yX7 (payO o wh) i wh) → yZ5 K H' la (xX3 o i wh) → SameX p H H' → Q (.ref la) H') ∧ (canPay o wh = false → Q .non H)
theorem no_pay {n c : Int} {cl lb lt lk : Addr} : (flds n c cl lb lt lk).lookup ("pay" : Str) = none := by kernel_rfl
theorem no_cut {n c : Int} {cl lb lt lk : Addr} : (flds n c cl lb lt lk).lookup ("cut" : Str) = none := by kernel_rfl
section
variable {P : Program} {w : World} {K : PySem.W.Frag} {mg : Str → Option Value} {base : Heap} {C fN fT fC fR fF fO CP CE : Addr}
theorem oPy : ownB ["self", "to", "many"] (defScope sPay) = true := by decide +kernel
theorem scPy : FnScope ["self", "to", "many"] ["self", "to", "many"] (defScope sPay) := ⟨rfl, rfl, rfl, by decide +kernel, rfl, by decide +kernel, by decide +kernel⟩
theorem ok_pay {f fS : Addr} {fd fdS : FuncData} (F : Fun K "pay" "Office.pay" sPay f fd) (T : Txt K mg C fN fT fC fR fF fO) (Z : Exs K mg CP CE) (bS : Binds K fdS ["self", "what"] []) (mS : Meth K C "send" fS) (GS : FnOk P w K mg base CX0 3 fS fdS ["self", "what"] (spSend K C)) :
  FnOk P w K mg base (CX1 P w) 4 f fd ["self", "to", "many"] (spPay K C CP) := by
 refine okB1 (body := [stm sPay 0, stm sPay 1, stm sPay 2]) F scPy (fun vs H Q E h => ?_) (by kernel_rfl) (fun cdv A outer s0 H vs Q E hr h => ?_)
 ·obtain ⟨p, i, n, o, to, many, rfl, _⟩ := h
  rfl
 ·obtain ⟨p, i, n, o, to, many, rfl, O, S, kE, kQ⟩ := h
  obtain ⟨dx, cl, lb, lt, lk, bs, ts, ks, X⟩ := O.x
  refine ⟨_, (xU8 (xW4 (xV7 op_lt (xX9 (oV oPy 0) rfl) (oV oPy 2) (xV5 _)) (xU6 (ps_raise throws_cx Z.oP rfl Z.poor (aC xY8 xU7))) xV8)
   (xU8 (yU2 (oV oPy 0) (xV2 op_sub (xX9 (oV oPy 0) rfl) (oV oPy 2)) rfl)
   (xU6 (xU1 (yU9 (oV oPy 0) T.cl mS GS hr bS .nil xV1 (aC (xZ6 (aC xY8 (aC (oV oPy 1) (aC (oV oPy 2) xU7)))) xU7)))))), ?_⟩
  refine ⟨_, rfl, p, C, dx, _, _, rfl, X.ob, T.cl, T.nC, at_coins, _, rfl, _, _, rfl, rfl, _, rfl, ite2 (fun hlt => ?_) (fun hge => ?_)⟩
  ·exact ⟨len1, kE (of_decide_eq_true hlt)⟩
  ·have hge : many ≤ o.coins := by
    have : ¬ o.coins < many := fun z => hge (decide_eq_true z)
    omega
   refine ⟨_, rfl, p, C, dx, _, _, rfl, X.ob, T.cl, T.nC, at_coins, _, rfl, _, _, rfl, rfl, _, rfl, p, C, dx, _, rfl, X.ob, T.cl, T.nC, few6, ?_⟩
   have X1 := X.setCoins (o.coins - many)
   have x1 := sx_coins (c := o.coins - many) X (xQ3 X.ob (Same.refl H))
   refine ⟨_, rfl, p, dx, _, rfl, X1.ob, no_send, _, rfl, _, rfl, len3, fun c nc => ?_⟩
   have s2 := xU4 (o := .tup [.str "pay", .int to, .int many]) nc
   exact ⟨p, c, i, n, _, .pay to many, rfl, X1.at_.same s2, SqT.of xU9, ⟨S.num, S.lt, S.cl, S.n1, S.nb, S.nk⟩, fun la H' O' L' x' => kQ hge la H' O' L' ((x1.trans (xQ3 X1.ob s2)).trans x')⟩
theorem oSn : ownB ["office", "what"] (defScope sSentOr) = true := by decide +kernel
theorem scSn : FnScope ["office", "what"] ["office", "what"] (defScope sSentOr) := ⟨rfl, rfl, rfl, by decide +kernel, rfl, by decide +kernel, by decide +kernel⟩
theorem ok_sentor {f fC' fP : Addr} {fd fdC fdP : FuncData} (F : Fun K "sent_or_none" "sent_or_none" sSentOr f fd) (T : Txt K mg C fN fT fC fR fF fO) (Z : Exs K mg CP CE) (bC : Binds K fdC ["self"] []) (mC : Meth K C "cut" fC') (GC : FnOk P w K mg base CX0 4 fC' fdC ["self"] (spCut K C))
  (bP : Binds K fdP ["self", "to", "many"] []) (mP : Meth K C "pay" fP) (GP : FnOk P w K mg base (CX1 P w) 4 fP fdP ["self", "to", "many"] (spPay K C CP)) : FnOk P w K mg base CX0 5 f fd ["office", "what"] (spSentOr K C) := by
 refine okB (body := [stm sSentOr 0, stm sSentOr 1]) F scSn (fun vs H Q E h => ?_) (by kernel_rfl) (fun cdv A outer s0 H vs Q E hr h => ?_)
 ·obtain ⟨p, c, i, n, o, wh, rfl, _⟩ := h
  rfl
 ·obtain ⟨p, c, i, n, o, wh, rfl, O, W, S, kY, kN⟩ := h
  obtain ⟨dx, cl, lb, lt, lk, bs, ts, ks, X⟩ := O.x
  refine ⟨_, (xU8 (xW4 (xV7 yX0 (iX (ixT K) (oV oSn 1) xU5) xY8 (xV5 _)) (xU6 (xU1 (pe_meth0 (oV oSn 0) T.cl mC GC hr bC .nil xV1))) xV8)
   (xU6 (ps_try Z.poor (fun pn Ex => xU6 (xU1 (pe_methX (oV oSn 0) T.cl mP GP hr bP .nil passS (aC (iX (ixT K) (oV oSn 1) xU5) (aC (iX (ixT K) (oV oSn 1) xU5) xU7))))) (fun v => xU6 (xU1 yZ1))))), ?_⟩
  refine cut2 ?_
  intro rr1
  cases wh with
  | cut =>
   refine ⟨_, rfl, c, _, 0, _, rfl, rfl, (show SqT K H c [.str "cut"] from W), rfl, rfl, _, rfl, ?_⟩
   refine iteT ⟨_, rfl, p, dx, _, rfl, X.ob, no_cut, p, i, n, o, rfl, O, S, fun la H' O' L' x' => kY rfl la H' O' L' x'⟩
  | pay to many =>
   have W : SqT K H c [.str "pay", .int to, .int many] := W
   refine ⟨_, rfl, c, _, 0, _, rfl, rfl, W, rfl, rfl, _, rfl, ?_⟩
   rw [show decide (V.str "pay" = V.str "cut") = false by decide +kernel]
   refine iteF ⟨_, rfl, p, dx, _, rfl, X.ob, no_pay, _, rfl, c, _, 1, _, rfl, rfl, W, rfl, _, rfl, c, _, 2, _, rfl, rfl, W, rfl, p, i, n, o, to, many, rfl, O, S, fun hlt => ?_, fun hge la H' O' L' x' => ?_⟩
   ·exact ⟨CP, rfl, Z.pp, kN (decide_eq_false (by omega))⟩
   ·exact kY (decide_eq_true hge) la H' O' L' x'
end
end Of
end
section
seal L2.PE L2.PT L2.PW L2.PA L2.PS L2.PSs L2.PG L2.PGs L2.PI L3.PTs L2.PO L2.CallR L2.OpR L2.IxR L2.MtR L2.PSet L2.SlR
namespace Of
open PySem L2 L3 L4
def sent1 (i : Nat) (o : Off) (w : What) : Option Let × Off := if canPay o w = true then (some (xX3 o i w), yX7 (payO o w) i w) else (none, o)
theorem payO_book (o : Off) (w : What) : (payO o w).book = o.book ∧ (payO o w).kept = o.kept ∧ (payO o w).clock = o.clock ∧ (payO o w).num = o.num ∧ (payO o w).tray = o.tray := by cases w <;> exact ⟨rfl, rfl, rfl, rfl, rfl⟩
end Of
end
namespace L5
open PySem PySem.Spec L2 L3
open PyProof.Rows hiding St
open PySem.SeqAt PySem.MeetsSeq
open PySem.AutoSeq1 (wpAny_loadPart')
section
variable {X : Cx}
def insV {α : Type} (xs : List α) (i : Nat) (x : α) : List α := xs.take i ++ x :: xs.drop i
def rInsert : V → List V → Hp → VK → Prop := fun x vs H Q => ∃ l xs i y, x = .ref l ∧ vs = [.int i, y] ∧ H l = some (.lst xs) ∧ 0 ≤ i ∧ i ≤ (xs.length : Int) ∧ xs.length < 1000 ∧ Q .non (upd H l (.lst (insV xs i.toNat y)))
theorem mt_insert : MtR X "list.insert" rInsert := by
 intro pins s σ H x vs v us Q I rx rv h
 obtain ⟨l, xs, i, y, rfl, rfl, hH, h0, h1, hz, q⟩ := h
 cases rx
 obtain ⟨u1, u2, rfl, r1, r2⟩ := vals2 rv
 obtain ⟨t, rfl⟩ := (show ∃ t, u1 = Value.int i t from r1)
 obtain ⟨z, its, k, r, hl, e⟩ := I.lstM hH
 have hfit : ¬ (!Builtin.List.listFitsIndex i) = true := by rw [fitsIndex_both (by omega) (by omega)]; decide
 refine call_meets F.slot_list_insert ⟨_, e, rfl⟩ F.entry_list_insert (F.args_list_insert_3 _ _ _) (PySem.AutoSeq1.list_insert_list_int_val_1 l its.toArray k i t u2 hfit (by rw [List.size_toArray]; omega)) ⟨e, ?_⟩
 refine ⟨.non, _, I.lset (its' := insV its i.toNat u2) hH e ?_ ?_ ?_, rfl, q⟩
 ·dsimp only
  rw [if_neg (by omega), List.size_toArray, Nat.min_eq_left (by omega)]
  unfold insV
  apply Array.toList_inj.mp
  simp
  exact List.take_of_length_le (by simp)
 ·exact (r.take i.toNat).append (.cons r2 (r.drop i.toNat))
 ·unfold insV
  rw [List.length_append, List.length_cons, List.length_take, List.length_drop]
  have : (1000 : Nat) ≤ sizeLine := by decide
  omega
end
end L5
namespace L6
open PySem PySem.Spec L2 L3
open PyProof.Rows hiding St
section
variable {X : Cx} {e st : Expr} {te ts : TE} {pos p2 : Pos}
def tRev (K : PySem.W.Frag) (te ts : TE) : TE := fun σ H Q => te σ H fun x H1 => ts σ H1 fun y H2 => y = .int (-1) ∧ ∃ a xs, x = .ref a ∧ SqL K H2 a xs ∧ ∀ p, H2 p = none → Q (.ref p) (upd H2 p (.lst xs.reverse))
theorem pe_rev (he : PE X e te) (hs : PE X st ts) : PE X (.Subscript e (.Slice none none (some st) p2) pos) (tRev X.K te ts) := by
 intro pins s σ H Q I h
 refine Subscript_ (thn (he pins s σ H _ I h) fun v s1 ⟨x, H1, I1, r1, q1⟩ => ?_)
 refine wpAny_Slice ?_
 rw [evalPart_none]
 refine wpAny_pure ?_
 refine wpAny_pure ?_
 rw [evalPart_some]
 refine thn (hs pins s1 σ H1 _ I1 q1) fun vk s3 ⟨y, H3, I3, ry, ey, a, xs, ex, hx, q⟩ => ?_
 subst ey
 subst ex
 obtain ⟨t, rfl⟩ := ry
 cases r1
 have I4 : Inv X pins σ H3 { s3 with heap := s3.heap.push { cls := .type "slice", data := .fields #[.none, .none, .int (-1) t] } } := I3.kept (t' := s3.toks) fun b ob q => Heap.get?_push_of_some _ q
 obtain ⟨its, r, ht, hz⟩ := I4.list hx
 have hlen := r.length
 show wpAny (model X.prog X.w) X.A (subscriptTail e (.Slice none none (some st) p2) (.ref a) (.ref s3.heap.objs.size)) (EP X pins σ Q) X.xe _
 refine tail_any (ops := [.ref a, .ref s3.heap.objs.size]) ht.isList.typeIs slot_list_getitem.lookup ?_ (by with_unfolding_all rfl)
 refine wpAny_getItem_list_slice ht.isList (Heap.IsSliceOf.new ..) .none .none (.int (-1) t) (by simp) ?_ (by rw [List.size_toArray]; omega)
 rw [PySem.W.krv_pick]
 refine ⟨.ref (s3.heap.push { cls := .type "slice", data := .fields #[.none, .none, .int (-1) t] }).objs.size, _, I4.laid (t' := s3.toks) (o := .lst xs.reverse) (fun b ob q => Heap.get?_push_of_some _ q) (Nat.le_refl _) ?_, rfl, q _ (I4.hok.fresh (Nat.le_refl _))⟩
 exact ⟨by rw [List.length_reverse]; exact hz, _, 0, r.reverse, Heap.get?_push_size _ rfl⟩
def repS (i : Str) (n : Nat) : Str := ⟨(List.replicate n i.cps).foldl (· ++ ·) #[]⟩
theorem op_mulS : OpR X (binaryOp .Mult) (fun x y H Q => x = .str "0" ∧ y = .int 20 ∧ Q (.str (repS "0" 20)) H) := by
 intro pins s σ H x y v u Q I rx ry h
 obtain ⟨rfl, rfl, q⟩ := h
 obtain ⟨t, rfl⟩ := rx
 obtain ⟨t', rfl⟩ := ry
 refine PySem.P.mul_str (by decide +kernel) (fun _ _ => by decide +kernel) (fun _ _ => by decide +kernel) ?_
 rw [if_neg (by decide), if_neg (by decide +kernel)]
 exact ⟨by decide +kernel, .str (repS "0" 20), H, I.tok _, ⟨_, rfl⟩, q⟩
theorem call_intT : CallR X (.type "int") (fun xs H Q => ∃ (x : Str) (n : Int), xs = [.str x] ∧ PySem.intText? x = some n ∧ x.length ≤ 640 ∧ Q (.int n) H) := by
 intro pins s σ H xs us Q I r h
 obtain ⟨x, n, rfl, hn, hl, q⟩ := h
 obtain ⟨u, rfl, t, rfl⟩ := vals1 r
 exact PySem.W.KIN.call_text hn hl ⟨.int n, H, I.tok _, ⟨_, rfl⟩, q⟩
theorem big20 : PySem.intText? (("1" : Str) ++ repS "0" 20) = some 100000000000000000000 := by decide +kernel
end
end L6
namespace L2
open PySem PySem.Spec PyProof.Rows
end L2
namespace L2
open PySem PySem.Spec PyProof.Rows
end L2
namespace L2
open PySem PySem.Spec PyProof.Rows
end L2
namespace L2
open PySem PySem.Spec PyProof.Rows
end L2
namespace L2
open PySem PySem.Spec PyProof.Rows
end L2
namespace L2
open PySem PySem.Spec PyProof.Rows
end L2
namespace L2
open PySem PySem.Spec PyProof.Rows
end L2
namespace L2
open PySem PySem.Spec PyProof.Rows
end L2
namespace L2
open PySem PySem.Spec PyProof.Rows
end L2
namespace L2
open PySem PySem.Spec PyProof.Rows
end L2
namespace L2
open PySem PySem.Spec PyProof.Rows
section
variable {κ : Type} [DecidableEq κ]
end
section
variable {P : Program} {w : World} {H : Hp} {h : Heap} {a : Addr}
end
section
variable {X : Cx} {pins : List (Addr × Obj)} {σ : St} {H : Hp} {s : Shared} {a : Addr} {y v : V} {u r : Value} {o : Option V} {A : Around} {E : Value → Shared → Prop}
end
section
variable {X : Cx} {pins : List (Addr × Obj)} {σ : St} {H : Hp} {s : Shared} {a : Addr} {kvs : List (Key × V)} {k : Key} {u : Value} {A : Around} {E : Value → Shared → Prop}
end
section
variable {X : Cx} {o i e value : Expr} {pos pos' tpos : Pos} {td ty tv : TE}
end
section
variable {X : Cx} {pos : Pos}
end
section
variable {X : Cx} {pins : List (Addr × Obj)} {σ : St} {H : Hp} {s : Shared} {a : Addr} {y d : V} {u r : Value} {o : Option V} {A : Around} {E : Value → Shared → Prop}
end
section
variable {X : Cx} {o e f : Expr} {apos cpos : Pos} {td ty tx : TE}
end
section
variable {X : Cx} {pins : List (Addr × Obj)} {σ : St} {H : Hp} {s : Shared} {a : Addr} {kvs : List (Key × V)} {A : Around} {E : Value → Shared → Prop}
end
section
variable {X : Cx} {pins : List (Addr × Obj)} {σ : St} {H : Hp} {s : Shared} {a : Addr} {y : V} {u : Value} {A : Around} {E : Value → Shared → Prop}
end
end L2
namespace Att
open PySem PySem.W PySem.Calls PyProof.Rows
end Att
namespace L2
open PySem PySem.Spec PyProof.Rows
end L2
namespace L2
open PySem PySem.Spec PyProof.Rows
end L2
namespace L2
open PySem PySem.Spec PyProof.Rows
section
variable {X : Cx}
end
section
variable {κ : Type} [DecidableEq κ]
end
end L2
namespace L7
open PySem PySem.Spec L2 L3
open PyProof.Rows hiding St
section
variable {X : Cx}
end
end L7
namespace L8
open PySem PySem.Spec L2 L3
section
variable {X : Cx}
theorem fldK (K : PySem.W.Frag) {e : Expr} {f : Str} {ta : TE} {pos : Pos} (he : PE X e ta) (hb : attributeBase e f X.env (eval e X.env) = eval e X.env) (h : X.K = K := by rfl) : PE X (.Attribute e f pos) (tFld K ta f) := h ▸ xX9 he hb
end
end L8
namespace L11
open PySem PySem.Spec L2 L3
open PyProof.Rows hiding St
def Ite (K : PySem.W.Frag) (a : Addr) : It :=
 ⟨fun i H => ∃ xs x, SqL K H a xs ∧ xs[i]? = some x, fun i H x H' => ∃ p y, x = .ref p ∧ H p = none ∧ H' = upd H p (.tup [.int i, y]) ∧ ∀ xs, SqL K H a xs → xs[i]? = some y, fun i H => ∃ xs, SqL K H a xs ∧ xs.length ≤ i⟩
theorem live {h : Heap} {a : Addr} {o : Obj} (e : h.get? a = some o) : o.isFreed = false := (Heap.get?_some_iff.mp e).2
theorem turned2 {X : Cx} {pins : List (Addr × Obj)} {σ : L2.St} {H : Hp} {s : Shared} {h' : Heap} {a b : Addr} {oa ob oa' ob' : Obj} (I : Inv X pins σ H s) (fa : FpOk X pins H a) (fb : FpOk X pins H b) (ne : a ≠ b) (ea : s.heap.get? a = some oa) (eb : s.heap.get? b = some ob)
  (ea' : h'.get? a = some oa') (eb' : h'.get? b = some ob') (k : ∀ c o, c ≠ a → c ≠ b → s.heap.get? c = some o → h'.get? c = some o) :
  ∃ h2 : Heap, Inv X pins σ H { s with heap := h2 } ∧ h2.objs.size = s.heap.objs.size ∧ ∀ c o, h2.get? c = some o → h'.get? c = some o := by
 have I1 : Inv X pins σ H { s with heap := s.heap.update a fun _ => oa' } := I.turned (t' := s.toks) (fun c o hc e => (Heap.get?_update_other _ _ (Ne.symm hc)).trans e) fa.1 fa.2.1 fa.2.2.2.1 fa.2.2.2.2.1 fa.2.2.2.2.2
 have I2 : Inv X pins σ H { s with heap := (s.heap.update a fun _ => oa').update b fun _ => ob' } := I1.turned (t' := s.toks) (fun c o hc e => (Heap.get?_update_other _ _ (Ne.symm hc)).trans e) fb.1 fb.2.1 fb.2.2.2.1 fb.2.2.2.2.1 fb.2.2.2.2.2
 refine ⟨_, I2, by rw [Heap.size_update, Heap.size_update], fun c o e => ?_⟩
 by_cases hb : c = b
 ·subst hb
  rw [Heap.get?_update_self (o := ob) _ (by rw [Heap.get?_update_other _ _ ne]; exact eb) (live eb')] at e
  cases e; exact eb'
 ·rw [Heap.get?_update_other _ _ (Ne.symm hb)] at e
  by_cases ha : c = a
  ·subst ha
   rw [Heap.get?_update_self _ ea (live ea')] at e
   cases e; exact ea'
  ·rw [Heap.get?_update_other _ _ (Ne.symm ha)] at e
   exact k c o ha hb e
theorem turn_enum {P : Program} {w : World} {K : PySem.W.Frag} {es : List Expr} {kt : Nat} {pt : Pos} (a e it : Addr) (hei : e ≠ it) : Turn P w K (.Tuple es kt pt) (Ite K a) [e, it] e (fun i h => (∃ old, IsEnum h e it (i : Int) old) ∧ h.IsListIter it a i) where
 mem := by simp
 obj := fun i h st b hb => by
  obtain ⟨⟨old, h1⟩, o, h2, c, d⟩ := st
  have hb : b = e ∨ b = it := by simpa using hb
  rcases hb with z | z
  ·subst z
   exact ⟨_, h1, fun v z => by
    have z' : Data.fields _ = Data.cell v := z
    cases z'⟩
  ·subst z
   exact ⟨o, h2, fun v z => by rw [d] at z; cases z⟩
 keep := fun i h h' ⟨⟨old, h1⟩, h2⟩ k => ⟨⟨old, k e (by simp) _ h1⟩, h2.at fun o q => k it (by simp) o q⟩
 item := by
  intro X hP hw hK hc i pins s σ H E I hf ⟨⟨old, st⟩, si⟩ hg
  subst hP hw hK
  obtain ⟨xs, x, hq, hx⟩ := hg
  obtain ⟨its, rv, p, hz⟩ := I.list hq
  obtain ⟨u, hu, ru⟩ := rv.get hx
  have fe := hf e (by simp)
  have fi := hf it (by simp)
  obtain ⟨oi, hoi, _⟩ := id si
  refine wpAny_pyNext_enum_item st si p.isList (x := u) (by simpa using hu) hei fun h' so si' ht hsz hk => ?_
  refine ⟨.ref s.heap.objs.size, rfl, ?_⟩
  refine wpAny_letOwnedTupleGo_enum (s := { s with heap := h', toks := s.toks + 1 }) so fun h2 so2 sb => ?_
  have sb : Heap.SameBut e h' h2 := sb
  have nle : e < s.heap.objs.size := Heap.lt_size st
  have nli : it < s.heap.objs.size := Heap.lt_size hoi
  have ht2 : h2.get? s.heap.objs.size = some { cls := .type "tuple", data := .seq #[.int i s.toks, u] } := (sb.2 _ (Nat.ne_of_gt nle)).trans ht
  obtain ⟨oi', hoi', ci, di⟩ := id si'
  have hoi2 : h2.get? it = some oi' := (sb.2 _ (Ne.symm hei)).trans hoi'
  obtain ⟨h3, I3, hs3, hk3⟩ := turned2 (h' := h2) I fe fi hei st hoi so2 hoi2 fun c o z1 z2 q => (sb.2 c z1).trans (hk c o z1 z2 q)
  have hfr : H s.heap.objs.size = none := I.hok.fresh (Nat.le_refl _)
  have I4 := I3.laid (t' := s.toks + 1) (a := s.heap.objs.size) (o := .tup [.int i, x]) hk3 (by show h3.objs.size ≤ _; rw [hs3]; exact Nat.le_refl _) ⟨by show 2 ≤ sizeLine; decide, [.int i s.toks, u], .cons ⟨_, rfl⟩ (.cons ru .nil), ⟨_, ht2, rfl, _, rfl⟩⟩
  refine ⟨.ref s.heap.objs.size, _, I4, rfl, ⟨_, x, rfl, hfr, rfl, fun ys hy => by rw [I.list_inj hy hq]; exact hx⟩, ⟨⟨u, ?_⟩, ⟨oi', hoi2, ci, di⟩⟩, fun b hb => ?_⟩
  ·have : ((i + 1 : Nat) : Int) = (i : Int) + 1 := by omega
   rw [this]; exact so2
  ·have hb : b = e ∨ b = it := by simpa using hb
   have hlt : b < s.heap.objs.size := by rcases hb with z | z <;> (rw [z]; assumption)
   rw [xU2 (Nat.ne_of_lt hlt)]
   rcases hb with z | z
   ·rw [z]; exact fe.1
   ·rw [z]; exact fi.1
 done := by
  intro X hP hw hK hc i pins s σ H E I hf ⟨⟨old, st⟩, si⟩ hg
  subst hP hw hK
  obtain ⟨xs, hq, hx⟩ := hg
  obtain ⟨its, rv, p, hz⟩ := I.list hq
  obtain ⟨f0, f1, f2, f3, f4, f5⟩ := hf it (by simp)
  have hl := rv.length
  exact wpAny_pyNext_enum_end (I.ok.hd hc) st si p.isList (by simp; omega) fun h' eb => ⟨rfl, I.turned (t' := s.toks) (fun b o hb q => eb b o hb q) f0 f1 f3 f4 f5⟩
 self := fun _ _ _ _ _ ⟨⟨_, st⟩, _⟩ h => wpAny_pyIter_enum st h
inductive iEnum_ (K : PySem.W.Frag) (R : It → Hp → Prop) (vs : List V) (H1 : Hp) : Prop where
 | mk (a : Addr) (h1 : vs = [.ref a]) (h2 : ∃ xs, SqL K H1 a xs) (h3 : R (Ite K a) H1) : iEnum_ K R vs H1
def iEnum (K : PySem.W.Frag) (ta : TA) : TI := fun σ H R => ta σ H fun vs H1 => iEnum_ K R vs H1
theorem pi_enum {X : Cx} {es : List Expr} {kt : Nat} {pt : Pos} {a : Expr} {ta : TA} {p pos : Pos} (hg : Gl X "enumerate") (hm : X.mg "enumerate" = none) (ha : PA X [a] ta) (hs : starEach [a] X.env = [(false, eval a X.env)]) : PI X (.Tuple es kt pt) (.Call (.Name "enumerate" p) [a] [] pos) (iEnum X.K ta) := by
 intro pins s σ H R I h
 refine Call_ (ld_blt I hg hm PyProof.Rows.boot_enumerate (PyProof.Rows.callWith_type1 (thn (ha pos pins s σ H _ I h) fun us s1 ⟨vs, H1, I1, r1, q1⟩ => ?_) hs rfl))
 obtain ⟨l, e, ⟨xs, hq⟩, q⟩ := q1
 subst e
 cases r1 with
 | cons r rr =>
  cases rr
  cases r
  obtain ⟨its, rv, pl, hz⟩ := I1.list hq
  refine call_enumerate_list pl.isList fun h' he hi hsz hk => ?_
  refine wpAny_pyIter_enum (s := { s1 with heap := h' }) he ?_
  refine ⟨_, [s1.heap.objs.size + 1, s1.heap.objs.size], _, _, H1, rfl, I1.kept (t' := s1.toks) hk, turn_enum l _ _ (Nat.ne_of_gt (Nat.lt_succ_self _)), ⟨⟨.none, he⟩, hi⟩, fun b hb => ?_, q⟩
  have hb : b = s1.heap.objs.size + 1 ∨ b = s1.heap.objs.size := by simpa using hb
  have hle : s1.heap.objs.size ≤ b := by rcases hb with z | z <;> (rw [z]; omega)
  exact I1.fpOk hle (I1.hok.fresh hle)
theorem enm {X : Cx} (K : PySem.W.Frag) {es : List Expr} {kt : Nat} {pt : Pos} {a : Expr} {ta : TA} {p pos : Pos} (hm : X.mg "enumerate" = none) (ha : PA X [a] ta) (hg : glB X.env.scope "enumerate" = true := by kernel_rfl) (h1 : isStar a = false := by rfl) (h : X.K = K := by rfl) : PI X (.Tuple es kt pt) (.Call (.Name "enumerate" p) [a] [] pos) (iEnum K ta) :=
 h ▸ pi_enum (yV0 hg).1 hm ha (xY4 h1)
theorem for_enum {K : PySem.W.Frag} {a : Addr} {xs : List V} {g : TG} {tb : TS} {D : Ends} {σ : L2.St} {H : Hp} (Pv : Nat → L2.St → Hp → Prop) (h0 : Pv 0 σ H) (hl : ∀ i σ H, i ≤ xs.length → Pv i σ H → SqL K H a xs)
  (hs : ∀ (i : Nat) x p σ H, xs[i]? = some x → Pv i σ H → H p = none → g (.ref p) σ (upd H p (.tup [.int i, x])) fun σ2 H2 => tb { D with nx := Pv (i + 1), ct := Pv (i + 1), bk := D.nx } σ2 H2) (hd : ∀ σ H, Pv xs.length σ H → D.nx σ H) : tFor_ g tb D σ (Ite K a) H := by
 refine ⟨fun i m σ H => (m = xs.length - i ∧ i ≤ xs.length) ∧ Pv i σ H, ⟨xs.length, ⟨by simp, Nat.zero_le _⟩, h0⟩, ?_⟩
 rintro i m σ H ⟨⟨rfl, hi⟩, p⟩
 have q := hl i σ H hi p
 rcases Nat.lt_or_ge i xs.length with lt | ge
 ·refine .inr ⟨⟨xs, xs[i], q, by simp [lt]⟩, Pv (i + 1), fun σ' H' p' => ⟨xs.length - (i + 1), by omega, ⟨rfl, lt⟩, p'⟩, ?_⟩
  rintro x H' ⟨t, y, rfl, nt, rfl, hy⟩
  exact hs i y t σ H (hy xs q) p nt
 ·have e : i = xs.length := by omega
  subst e
  exact .inl ⟨⟨xs, q, Nat.le_refl _⟩, hd σ H p⟩
section
variable {prog : Program} {w : World} {A : Around} {R : Result → Shared → Prop} {s : Shared}
theorem loop2 {elt target iter : Expr} {ifs : List Expr} {scope : Scope} {pos : Pos} {it acc : Value} {env : Env} (J : Nat → Shared → Prop)
  (turn : ∀ n s, J n s → wpAny (model prog w) A (pyNext it) (fun r s1 => (r = none ∧ R (.ok .next) s1) ∨ ∃ v, r = some v ∧ wpAny (model prog w) A (letOwnedTupleGo target it v) (fun _ s0 => wpAny (model prog w) A (assign target env v) (fun _ s2 =>
   wpAny (model prog w) A (forIn ifs true fun c r => if r = true then do let ok ← isTrue c env (eval c env); pure (ForInStep.yield ok) else pure (ForInStep.yield r)) (fun ok s3 =>
    (ok = false ∧ ∃ m, m < n ∧ J m s3) ∨ (ok = true ∧ wpAny (model prog w) A (eval elt env) (fun x s4 => wpAny (model prog w) A (call (.builtin "list.append") [acc, x]) (fun _ s5 => ∃ m, m < n ∧ J m s5)
     (notedBy (model prog w) A env fun e s' => R (.error e) s') s4) (notedBy (model prog w) A env fun e s' => R (.error e) s') s3)) (notedBy (model prog w) A env fun e s' => R (.error e) s') s2) (notedBy (model prog w) A env fun e s' => R (.error e) s') s0) (notedBy (model prog w) A env fun e s' => R (.error e) s') s1) (notedBy (model prog w) A env fun e s' => R (.error e) s') s)
  (n : Nat) (h : J n s) : codeAny (model prog w) A (.compLoop (.ListComp elt [⟨target, iter, ifs, 0⟩] scope pos) 0 it acc env) R s := by
 refine codeAny_loop rfl J (fun n s hJ => ?_) n h
 refine wpAny_noted (m := compTurn (.ListComp elt [⟨target, iter, ifs, 0⟩] scope pos) 0 it acc env) ?_
 rw [compTurn_list]
 refine wpAny_bind (wpAny_standAt (wpAny_bind (thn (turn n s hJ) fun r s1 h1 => ?_)))
 rcases h1 with ⟨rfl, h1⟩ | ⟨v, rfl, h1⟩
 ·exact wpAny_pure h1
 ·refine wpAny_bind (thn h1 fun _ s0 h0 => wpAny_bind (thn h0 fun _ s2 h2 => wpAny_bind (thn h2 fun ok s3 h3 => ?_)))
  rcases h3 with ⟨rfl, h3⟩ | ⟨rfl, h3⟩
  ·exact wpAny_pure ⟨rfl, h3⟩
  ·exact wpAny_bind (wpAny_bind (thn h3 fun x s4 h4 => wpAny_bind (thn h4 fun _ s5 h5 => wpAny_pure (wpAny_pure ⟨rfl, h5⟩))))
end
def cscope2B (fsc : Scope) (N : List Str) (scope : Scope) (x x' : Str) (ks : List Nat) (caps : List Str) : Bool :=
 (scope.kind == .function) && scope.names.all (fun y => y.2 != .cell) && scope.names.all (fun y => y.2 != .local || scope.names.lookup y.1 == some .local) && (scope.names.lookup x == some .local) && (scope.names.lookup x' == some .local) &&
  scope.names.all (fun y => y.2 != .free || fsc.names.lookup y.1 == some .cell || fsc.names.lookup y.1 == some .free) && decide ((x :: x' :: caps).Nodup) && (ks.length == caps.length) &&
  (ks.zip caps).all fun p => N[p.1]? == some p.2 && scope.names.lookup p.2 == some .free
structure CScope2 (X : Cx) (scope : Scope) (x x' : Str) (ks : List Nat) (caps : List Str) : Prop where
 kind : scope.kind = .function
 nocell : ∀ y ∈ scope.names, y.2 ≠ .cell
 names : ∀ y ∈ scope.names, y.2 = .local → scope.names.lookup y.1 = some .local
 tgt : scope.names.lookup x = some .local
 tgt' : scope.names.lookup x' = some .local
 frees : ∀ y ∈ scope.names, y.2 = .free → X.env.kindOf y.1 = some .cell ∨ X.env.kindOf y.1 = some .free
 nd : (x :: x' :: caps).Nodup
 len : ks.length = caps.length
 at_ : ∀ (j : Nat) (k : Nat) (y : Str), ks[j]? = some k → caps[j]? = some y → X.N[k]? = some y ∧ scope.names.lookup y = some .free
theorem CScope2.of {X : Cx} {scope : Scope} {x x' : Str} {ks : List Nat} {caps : List Str} (h : cscope2B X.env.scope X.N scope x x' ks caps = true) : CScope2 X scope x x' ks caps := by
 unfold cscope2B at h
 simp only [Bool.and_eq_true, List.all_eq_true] at h
 obtain ⟨⟨⟨⟨⟨⟨⟨⟨h1, h2⟩, h3⟩, h4⟩, h4'⟩, h5⟩, h6⟩, h7⟩, h8⟩ := h
 refine ⟨by simpa using h1, fun y hy => by simpa using h2 y hy, fun y hy e => ?_, by simpa using h4, by simpa using h4', fun y hy e => ?_, of_decide_eq_true h6, by simpa using h7, fun j k y e1 e2 => ?_⟩
 ·have := h3 y hy
  rw [e] at this
  simpa using this
 ·have := h5 y hy
  rw [e] at this
  have t2 : X.env.scope.names.lookup y.1 = some .cell ∨ X.env.scope.names.lookup y.1 = some .free := by simpa using this
  exact t2
 ·have hm : (k, y) ∈ ks.zip caps := by
   refine List.mem_of_getElem? (i := j) ?_
   rw [List.getElem?_zip_eq_some]
   exact ⟨e1, e2⟩
  have := h8 (k, y) hm
  simpa using this
section
variable {X : Cx} {scope : Scope} {x x' : Str} {ks : List Nat} {caps : List Str} {cl : List (Str × Addr)} {fp : List Addr} {s₂ : Shared} {H₂ : Hp} {C : Addr} {pins : List (Addr × Obj)} {σ : St}
theorem blk_ok2 (S : CScope2 X scope x x' ks caps) (I : Inv X pins σ H₂ s₂) (hC : s₂.heap.objs.size ≤ C) (hfp : ∀ b ∈ fp, FpOk X pins H₂ b) (hlt : ∀ b ∈ fp, b < s₂.heap.objs.size)
  (p1 : ∀ x c, cl.lookup x = some c → X.env.cells.lookup x = some c) (p3 : ∀ x, (x, NameKind.free) ∈ scope.names → ∃ c, cl.lookup x = some c) : (blk X scope (x :: x' :: caps) cl fp s₂ H₂ C).Ok where
 mod := I.ok.mod
 kind := S.kind
 glob := I.ok.glob
 blt := I.ok.blt
 above := hC
 inj := fun y z c e1 e2 => I.ok.inj y z c (p1 _ _ e1) (p1 _ _ e2)
 has := fun y hy => by
  have hy : (relabel scope X.env).names.lookup y = some .cell ∨ (relabel scope X.env).names.lookup y = some .free := hy
  rcases hy with hy | hy
  ·rcases yY2 hy with ⟨_, m⟩ | m
   ·exact p3 y m
   ·exact absurd rfl (S.nocell _ m)
  ·rcases yY2 hy with ⟨z, _⟩ | m
   ·cases z
   ·exact p3 y m
 cab := fun y c h => by cases h
 hd := I.ok.hd
 frames := I.ok.frames
 stk := .inl rfl
 exf := fun b hb => ⟨Nat.ne_of_lt (Nat.lt_of_lt_of_le (hlt b hb) hC), fun y c e => (hfp b hb).2.2.2.2.1 y c (p1 y c e)⟩
 bs := I.bs
 bsz := Nat.le_trans I.ok.bsz I.sz
 noex := fun b o e hb => by
  rcases (hfp b hb).2.2.2.1 with z | z
  ·exact I.ok.noex b o e z
  ·exact absurd (Nat.lt_of_lt_of_le (Heap.lt_size (I.ok.bs b o e).1) z) (Nat.lt_irrefl _)
 exfs := fun b hb z => by
  rcases List.mem_cons.mp (I.stkSub b z) with e | e
  ·exact (hfp b hb).2.1 e
  ·exact (hfp b hb).2.2.1 e
 funs := I.stack
 frf := I.stkFree
theorem blk_inv2 (S : CScope2 X scope x x' ks caps) (I : Inv X pins σ H₂ s₂) (hfp : ∀ b ∈ fp, FpOk X pins H₂ b) (hlt : ∀ b ∈ fp, b < s₂.heap.objs.size)
  (p1 : ∀ x c, cl.lookup x = some c → X.env.cells.lookup x = some c) (p3 : ∀ x, (x, NameKind.free) ∈ scope.names → ∃ c, cl.lookup x = some c)
  {h₁ : Heap} {tk : Nat} {m : Str → Option Value} (hC : s₂.heap.objs.size < C) (old : ∀ b o, s₂.heap.get? b = some o → h₁.get? b = some o) (hacc : ∃ n, h₁.get? s₂.heap.objs.size = some { cls := .type "list", data := .seq ([] : List Value).toArray n }) (hns : h₁.Ns C m) :
  Inv (blk X scope (x :: x' :: caps) cl fp s₂ H₂ C) [] (none :: none :: ks.map fun k => σ.getD k none) (upd H₂ s₂.heap.objs.size (.lst [])) { s₂ with heap := h₁, toks := tk } := by
 refine ⟨blk_ok2 S I (Nat.le_of_lt hC) hfp hlt p1 p3, rfl, I.bare, Un.laid old (Nat.le_refl _) I.fresh, ⟨m, hns, fun i y v e1 e2 e3 => ?_⟩, fun y c e => ?_, ?_, fun y c e => ?_, fun p hp => absurd (show p ∈ ([] : List (Addr × Obj)) from hp) (by simp), ?_, ?_⟩
 ·cases i with
  | zero => simp at e2
  | succ i =>
  cases i with
  | zero => simp at e2
  | succ j =>
   have e1' : caps[j]? = some y := by simpa [blk] using e1
   have e2' : (ks.map fun k => σ.getD k none)[j]? = some (some v) := by simpa using e2
   rw [List.getElem?_map] at e2'
   cases hk : ks[j]? with
   | none => rw [hk] at e2'; cases e2'
   | some k =>
    rw [hk] at e2'
    have e2'' : σ.getD k none = some v := by simpa using e2'
    have hσ : σ[k]? = some (some v) := by
     rw [List.getD_eq_getElem?_getD] at e2''
     cases hz : σ[k]? with
     | none => rw [hz] at e2''; cases e2''
     | some z => rw [hz] at e2''; rw [show z = some v from e2'']
    obtain ⟨hN, hf⟩ := S.at_ j k y hk e1'
    have hv := S.frees (y, .free) (PySem.mem_of_lookup hf) rfl
    obtain ⟨m', _, hl⟩ := I.loc
    obtain ⟨u, ru, lk⟩ := hl k y v hN hσ (by rcases hv with z | z; exact .inr (.inl z); exact .inr (.inr z))
    refine ⟨u, ru, ?_⟩
    rcases lk with ⟨kl, _⟩ | ⟨_, c, hc, ic⟩
    ·rcases hv with z | z <;> (rw [show X.env.kindOf y = some .local from kl] at z; cases z)
    ·obtain ⟨c', hc'⟩ := p3 y (PySem.mem_of_lookup hf)
     have : c' = c := by have := p1 y c' hc'; rw [hc] at this; exact (Option.some.inj this).symm
     subst this
     refine .inr ⟨yZ3 (env := X.env) hf, c', hc', ?_⟩
     obtain ⟨o, ho, hd⟩ := ic
     exact ⟨o, old _ _ ho, hd⟩
 ·obtain ⟨v, o, ho, hd⟩ := I.cell y c (p1 y c e)
  exact ⟨v, o, old _ _ ho, hd⟩
 ·show upd H₂ s₂.heap.objs.size (.lst []) C = none
  rw [xU2 (Nat.ne_of_gt hC)]
  exact I.hok.fresh (Nat.le_of_lt hC)
 ·obtain ⟨v, z⟩ := I.cell y c (p1 y c e)
  show upd H₂ s₂.heap.objs.size (.lst []) c = none
  rw [xU2 (Nat.ne_of_lt z.lt)]
  exact I.freeC y c (p1 y c e)
 ·obtain ⟨n, hn⟩ := hacc
  exact I.hok.laid old (Nat.le_refl _) ⟨Nat.zero_le _, [], n, .nil, hn⟩
 ·show (none :: none :: ks.map fun k => σ.getD k none).length = (x :: x' :: caps).length
  simp [S.len]
end
def tCompW2 (K : PySem.W.Frag) (J : It) (tt : TT) (te : TE) (cv : List (Option V)) (Q : VK) (H1 : Hp) : Prop :=
 ∀ D, H1 D = none → ∃ W : Nat → Nat → List V → Hp → Prop, (∃ m, W 0 m [] (upd H1 D (.lst []))) ∧ ∀ i m ys H, W i m ys H → H D = some (.lst ys) ∧
  ((J.stop i H ∧ Q (.ref D) H) ∨ (J.go i H ∧ ∃ N : List V → Hp → Prop, (∀ ys' H', N ys' H' → ∃ m', m' < m ∧ W (i + 1) m' ys' H') ∧ ∀ x H', J.yld i H x H' → ∃ p a b, x = .ref p ∧ SqT K H' p [a, b] ∧ tt (some a :: some b :: cv) H' fun bb H2 => if bb = true then
   te (some a :: some b :: cv) H2 (fun y H3 => H3 D = some (.lst ys) ∧ ys.length < sizeLine ∧ N (ys ++ [y]) (upd H3 D (.lst (ys ++ [y])))) else N ys H2))
theorem comp_core2 {X : Cx} {elt iter : Expr} {x x' : Str} {kt : Nat} {px px' pt pos p2 : Pos} {ifs : List Expr} {scope : Scope} {ks : List Nat} {caps : List Str} {wi : TI} {tt : TT} {te : TE} {use : Option (Value → Sem Unit)} {Qr : Value → Shared → Prop} {R : VK}
  (hc : X.calm = true) (S : CScope2 X scope x x' ks caps) (hi : PI X (.Tuple [.Name x px, .Name x' px'] kt pt) iter wi)
  (ht : ∀ cl fp s₂ H₂ C, PTs (blk X scope (x :: x' :: caps) cl fp s₂ H₂ C) ifs tt) (he : ∀ cl fp s₂ H₂ C, PE (blk X scope (x :: x' :: caps) cl fp s₂ H₂ C) elt te)
  (hs : ∀ v, foldedSetIterable iter X.env v = pure v)
  {pins : List (Addr × Obj)} {s : Shared} {σ : St} {H : Hp} (I : Inv X pins σ H s) (h : wi σ H fun J H1 => tCompW2 X.K J tt te (ks.map fun k => σ.getD k none) R H1)
  (fin0 : use = none → ∀ D H' s', Inv X pins σ H' s' → R (.ref D) H' → Qr (.ref D) s')
  (fin1 : ∀ u, use = some u → ∀ D H' s' C, Inv X pins σ H' s' → R (.ref D) H' → Gone X pins H' C → (∃ m, s'.heap.Ns C m) →
   wpAny (model X.prog X.w) X.A (u (.ref D)) (fun _ s'' => ∃ m, s''.heap.Ns C m ∧ ∀ h', Heap.SameBut C s''.heap h' → Qr .none { s'' with heap := h' }) X.xe s') :
  wpAny (model X.prog X.w) X.A (comprehension (.ListComp elt [⟨(.Tuple [.Name x px, .Name x' px'] kt pt), iter, ifs, 0⟩] scope pos) scope X.env p2 (newList []) false (eval iter X.env) use) Qr X.xe s := by
 obtain ⟨cl, hclos, p1, p3⟩ := yZ7 (scope := scope) (env := X.env) fun y hy hf => I.ok.has y.1 (S.frees y hy hf)
 refine wpAny_comprehension_free rfl hs hclos S.kind S.names (thn (hi pins s σ H _ I h) fun v s1 h1 => thn h1 fun itv s2 h2 => ?_)
 obtain ⟨it, fp, tn, J, H2, e, I2, T, st2, f2, rd⟩ := h2
 subst e
 have hlt : ∀ b ∈ fp, b < s2.heap.objs.size := fun b hb => by
  obtain ⟨o, ho, _⟩ := T.obj _ _ st2 b hb
  exact Heap.lt_size ho
 obtain ⟨W, ⟨m0, w0⟩, turn⟩ := rd s2.heap.objs.size I2.fresh
 refine wpAny_newObj_type (wpAny_newFunctionEnv S.nocell (by intro y hy; simp at hy) (fun h₁ hns₁ hsb₁ => ?_) S.kind)
 dsimp only at hns₁ hsb₁ ⊢
 generalize hH2 : s2.heap.push { cls := .type "list", dict := none, data := .seq ([] : List Value).toArray } = G2 at hns₁ hsb₁ ⊢
 have hC : G2.objs.size = s2.heap.objs.size + 1 := by rw [← hH2, Heap.size_push]
 have hDC : s2.heap.objs.size ≠ G2.objs.size := by rw [hC]; exact Nat.ne_of_lt (Nat.lt_succ_self _)
 have hCl : s2.heap.objs.size < G2.objs.size := by rw [hC]; exact Nat.lt_succ_self _
 have old : ∀ b o, s2.heap.get? b = some o → h₁.get? b = some o := fun b o e => hsb₁.extBut b o (Nat.ne_of_lt (Nat.lt_trans (Heap.lt_size e) hCl)) (Heap.get?_push_of_some _ (hH2 ▸ Heap.get?_push_of_some _ e))
 have hacc : ∃ n, h₁.get? s2.heap.objs.size = some { cls := .type "list", data := .seq ([] : List Value).toArray n } := ⟨_, hsb₁.extBut _ _ hDC (Heap.get?_push_of_some _ (hH2 ▸ Heap.get?_push_size _ rfl))⟩
 have I3 := blk_inv2 (cl := cl) (tk := s2.toks + ([] : List (Str × Value)).length) S I2 f2 hlt p1 p3 hCl old hacc hns₁
 have st3 : tn 0 h₁ := T.keep _ _ _ st2 fun b _ o e => old b o e
 have f3 : ∀ b ∈ fp, upd H2 s2.heap.objs.size (.lst []) b = none := fun b hb => by
  rw [xU2 (Nat.ne_of_lt (hlt b hb))]
  exact (f2 b hb).1
 have back : ∀ {σ' : St} {H' : Hp} {s' : Shared} {pl : List (Addr × Obj)}, Inv (blk X scope (x :: x' :: caps) cl fp s2 H2 G2.objs.size) pl σ' H' s' → Inv X pins σ H' s' ∧ Gone X pins H' G2.objs.size := fun {σ' H' s' pl} J' => by
  refine ⟨I2.call' (ch := fp) J'.os J'.base J'.hok J'.bare fun b hb => ⟨(f2 b hb).2.2.2.1, (f2 b hb).2.1, (f2 b hb).2.2.2.2.1, (f2 b hb).2.2.2.2.2⟩, J'.free, Nat.ne_of_gt (Nat.lt_trans I2.lt hCl), .inr (Nat.le_trans I2.sz (Nat.le_of_lt hCl)), fun y c e z => ?_, fun p hp z => ?_⟩
  ·obtain ⟨v, q⟩ := I2.cell y c e
   exact absurd (Nat.lt_trans q.lt (z ▸ hCl)) (Nat.lt_irrefl _)
  ·exact absurd (Nat.lt_trans (Heap.lt_size (I2.pin p hp).1) (z ▸ hCl)) (Nat.lt_irrefl _)
 have loop : ∀ s₃ : Shared, s₃ = { s2 with heap := h₁, toks := s2.toks + ([] : List (Str × Value)).length } →
   codeAny (model X.prog X.w) X.A (.compLoop (.ListComp elt [⟨(.Tuple [.Name x px, .Name x' px'] kt pt), iter, ifs, 0⟩] scope pos) 0 (.ref it) (.ref s2.heap.objs.size) (compEnvC scope cl G2.objs.size X.env))
    (compPost (model X.prog X.w) X.A X.xe use Qr (.ref s2.heap.objs.size) G2.objs.size) s₃ := by
  rintro s₃ rfl
  have stat : ∀ {H' : Hp}, (∀ b ∈ fp, H' b = none) → ∀ b ∈ fp, FpOk (blk X scope (x :: x' :: caps) cl fp s2 H2 G2.objs.size) [] H' b := fun hn b hb =>
   ⟨hn b hb, Nat.ne_of_lt (Nat.lt_trans (hlt b hb) hCl), fun z => by
    rcases List.mem_cons.mp (I2.stkSub b z) with e | e
    ·exact (f2 b hb).2.1 e
    ·exact (f2 b hb).2.2.1 e, .inl hb, fun y c e => (f2 b hb).2.2.2.2.1 y c (p1 y c e), fun p hp => absurd (show p ∈ ([] : List (Addr × Obj)) from hp) (by simp)⟩
  refine loop2 (fun n s' => ∃ i v0 v1 ys H', Inv (blk X scope (x :: x' :: caps) cl fp s2 H2 G2.objs.size) [] (v0 :: v1 :: ks.map fun k => σ.getD k none) H' s' ∧ tn i s'.heap ∧ (∀ b ∈ fp, H' b = none) ∧ W i n ys H') ?_ m0
   ⟨0, none, none, [], _, I3, st3, f3, w0⟩
  rintro n s4 ⟨i, v0, v1, ys, H4, I4, st4, fr4, w4⟩
  obtain ⟨hD, hh⟩ := turn i n ys H4 w4
  rcases hh with ⟨stop, qn⟩ | ⟨go, N, hN, step⟩
  ·refine thn (T.done (blk X scope (x :: x' :: caps) cl fp s2 H2 G2.objs.size) rfl rfl rfl hc i [] s4 _ H4 _ I4 (stat fr4) st4 stop) fun r s5 ⟨hr, I5⟩ => ?_
   refine .inl ⟨hr, ?_⟩
   obtain ⟨J5, g5⟩ := back I5
   obtain ⟨m5, hn5, _⟩ := I5.loc
   cases use with
   | none => exact ⟨m5, hn5, fun h' sb => fin0 rfl _ H4 _ (g5.inv J5 sb) qn⟩
   | some u => exact fin1 u rfl _ H4 s5 _ J5 qn g5 ⟨m5, hn5⟩
  ·refine thn (T.item (blk X scope (x :: x' :: caps) cl fp s2 H2 G2.objs.size) rfl rfl rfl hc i [] s4 _ H4 (notedBy (model X.prog X.w) X.A (compEnvC scope cl G2.objs.size X.env) fun e s' => compPost (model X.prog X.w) X.A X.xe use Qr (.ref s2.heap.objs.size) G2.objs.size (.error e) s') I4 (stat fr4) st4 go) fun r s5 ⟨u, hr, h5⟩ => ?_
   refine .inr ⟨u, hr, ?_⟩
   refine thn h5 fun _ s6 ⟨y6, H6, I6, r6, yl6, st6, fr6⟩ => ?_
   have I6' := I6.pinned (stat fr6) (T.obj _ _ st6)
   obtain ⟨pp, ya, yb, ey, sq6, step6⟩ := step y6 H6 yl6
   have G0 : PG (blk X scope (x :: x' :: caps) cl fp s2 H2 G2.objs.size) (.Name x px) (yQ8 0) := pg_name S.nd rfl (.inl (lookup_relabel_local S.tgt)) (.inr (lookup_relabel_local S.tgt))
   have G1 : PG (blk X scope (x :: x' :: caps) cl fp s2 H2 G2.objs.size) (.Name x' px') (yQ8 1) := pg_name S.nd rfl (.inl (lookup_relabel_local S.tgt')) (.inr (lookup_relabel_local S.tgt'))
   have GP : PG (blk X scope (x :: x' :: caps) cl fp s2 H2 G2.objs.size) (.Tuple [.Name x px, .Name x' px'] kt pt) (gTup X.K 2 (gCons (yQ8 0) (gCons (yQ8 1) gNil))) := pg_tup (X := blk X scope (x :: x' :: caps) cl fp s2 H2 G2.objs.size) hc (pgs_cons G0 (pgs_cons G1 pgs_nil))
   refine thnE (GP _ s6 _ H6 y6 u (fun σ' H' => σ' = some ya :: some yb :: (ks.map fun k => σ.getD k none) ∧ H' = H6) I6' r6 ⟨pp, [ya, yb], ey, sq6, rfl, ya, [yb], rfl, yb, [], rfl, rfl, rfl, rfl⟩) fun _ s7 ⟨σ7, H7, I7, e7, e7'⟩ => ?_
   subst e7 e7'
   have again : ∀ {σ' : St} {H' : Hp} {s' : Shared}, Inv (blk X scope (x :: x' :: caps) cl fp s2 H2 G2.objs.size) ([] ++ pinsAt fp s6.heap) σ' H' s' → tn (i + 1) s'.heap ∧ ∀ b ∈ fp, H' b = none := fun {σ' H' s'} J' => by
    refine ⟨T.keep _ _ _ st6 fun b hb o e => (J'.pin (b, o) (List.mem_append_right _ (List.mem_append_right _ (xQ4 hb e)))).1, fun b hb => ?_⟩
    obtain ⟨o, e, d⟩ := T.obj _ _ st6 b hb
    exact (J'.pin (b, o) (List.mem_append_right _ (List.mem_append_right _ (xQ4 hb e)))).2.1
   refine thnE (ht cl fp s2 H2 G2.objs.size _ s7 _ H7 _ I7 step6) fun b s8 ⟨H8, I8, q8⟩ => ?_
   cases b with
   | false =>
    rw [if_neg Bool.false_ne_true] at q8
    obtain ⟨m', hm, w8⟩ := hN _ _ q8
    obtain ⟨a1, a2⟩ := again I8
    exact .inl ⟨rfl, m', hm, i + 1, _, _, ys, H8, I8.unpinned, a1, a2, w8⟩
   | true =>
    rw [if_pos rfl] at q8
    refine .inr ⟨rfl, ?_⟩
    refine thnE (he cl fp s2 H2 G2.objs.size _ s8 _ H8 _ I8 q8) fun yv s9 ⟨y9, H9, I9, r9, hD9, hz9, n9⟩ => ?_
    obtain ⟨m', hm, w9⟩ := hN _ _ n9
    refine thnE (vV4 (X := blk X scope (x :: x' :: caps) cl fp s2 H2 G2.objs.size) _ s9 _ H9 (.ref s2.heap.objs.size) [y9] (.ref s2.heap.objs.size) [yv] (fun _ H' => H' = upd H9 s2.heap.objs.size (.lst (ys ++ [y9]))) I9 rfl (.cons r9 .nil) ⟨_, ys, y9, rfl, rfl, hD9, hz9, rfl⟩) fun _ s10 ⟨_, H10, I10, _, e10⟩ => ?_
    subst e10
    obtain ⟨a1, a2⟩ := again I10
    exact ⟨m', hm, i + 1, _, _, _, _, I10.unpinned, a1, a2, w9⟩
 exact codeAny_compStart_list (loop _ rfl) (T.self _ _ _ _ _ st3 (loop _ rfl))
def tComp2 (K : PySem.W.Frag) (wi : TI) (ks : List Nat) (tt : TT) (te : TE) : TE := fun σ H Q => wi σ H fun J H1 => tCompW2 K J tt te (ks.map fun k => σ.getD k none) Q H1
theorem ps_setc2 {X : Cx} {elt iter : Expr} {x x' y : Str} {kt : Nat} {px px' pt py pos spos : Pos} {ifs : List Expr} {scope : Scope} {wi : TI} {tt : TT} {te : TE} {i : Nat} (ks : List Nat) (caps : List Str)
  (hN : X.N.Nodup) (hi' : X.N[i]? = some y) (hy : X.env.scope.names.lookup y = some .local)
  (hc : X.calm = true) (hS : cscope2B X.env.scope X.N scope x x' ks caps = true) (hi : PI X (.Tuple [.Name x px, .Name x' px'] kt pt) iter wi)
  (ht : ∀ cl fp s₂ H₂ C, PTs (blk X scope (x :: x' :: caps) cl fp s₂ H₂ C) ifs tt) (he : ∀ cl fp s₂ H₂ C, PE (blk X scope (x :: x' :: caps) cl fp s₂ H₂ C) elt te)
  (hsw : swapsWith (.ListComp elt [⟨(.Tuple [.Name x px, .Name x' px'] kt pt), iter, ifs, 0⟩] scope pos) (some (.Name y py)) spos.line X.env = pure true)
  (hs : ∀ v, foldedSetIterable iter X.env v = pure v := by intro _; rfl) : PS X (.Assign [.Name y py] (.ListComp elt [⟨(.Tuple [.Name x px, .Name x' px'] kt pt), iter, ifs, 0⟩] scope pos) spos) (tAsg (tComp2 X.K wi ks tt te) (yQ8 i)) := by
 intro pins s σ H D I h
 rw [exec_Assign_Name_used _ _ _ _ hsw]
 refine wpAny_bind (wpAny_standAt (wpAny_bind ?_))
 show wpAny _ X.A (do let _ ← comprehension (.ListComp elt [⟨(.Tuple [.Name x px, .Name x' px'] kt pt), iter, ifs, 0⟩] scope pos) scope X.env _ (newList []) false (eval iter X.env) (some (assign (.Name y py) X.env))) _ _ s
 refine wpAny_bind (thn (comp_core2 (use := some (assign (.Name y py) X.env)) (Qr := fun _ s' => SP X pins D .next s') (R := fun v H' => yQ8 i v σ H' D.nx) hc (CScope2.of hS) hi ht he hs I h (fun e => by cases e) fun u e D' H' s' C I' q G ⟨m, hn⟩ => ?_) fun _ s' q => wpAny_pure (wpAny_pure q))
 cases e
 refine wpAny_assign_Name (store_ok2 I' hN hi' (.inl hy) (v := .ref D') (show RelV (.ref D') (.ref D') from rfl) (fun s'' I'' ⟨a, sb, ha⟩ => ?_) (.inr hy))
 have hCa : C ≠ a := by
  rcases ha with z | z
  ·rw [z]; exact G.loc
  ·exact Ne.symm (G.cells _ _ z)
 exact ⟨m, hn.sameBut sb hCa, fun h' sb' => ⟨_, H', G.inv I'' sb', q⟩⟩
theorem comp_enum {K : PySem.W.Frag} {a : Addr} {xs : List V} {tt : TT} {te : TE} {cv : List (Option V)} {Q : VK} {H1 : Hp} (Pv : Addr → Nat → List V → Hp → Prop) (h0 : ∀ D, H1 D = none → Pv D 0 [] (upd H1 D (.lst [])))
  (hl : ∀ D i ys H, H1 D = none → i ≤ xs.length → Pv D i ys H → H D = some (.lst ys) ∧ SqL K H a xs)
  (hs : ∀ D (i : Nat) x p ys H, H1 D = none → xs[i]? = some x → Pv D i ys H → H p = none → tt (some (.int i) :: some x :: cv) (upd H p (.tup [.int i, x])) fun b H2 => if b = true then te (some (.int i) :: some x :: cv) H2 (fun y H3 => H3 D = some (.lst ys) ∧ ys.length < sizeLine ∧ Pv D (i + 1) (ys ++ [y]) (upd H3 D (.lst (ys ++ [y])))) else Pv D (i + 1) ys H2)
  (hd : ∀ D ys H, H1 D = none → Pv D xs.length ys H → Q (.ref D) H) : tCompW2 K (Ite K a) tt te cv Q H1 := fun D hD => by
 refine ⟨fun i m ys H => (m = xs.length - i ∧ i ≤ xs.length) ∧ Pv D i ys H, ⟨xs.length, ⟨by simp, Nat.zero_le _⟩, h0 D hD⟩, ?_⟩
 rintro i m ys H ⟨⟨rfl, hi⟩, p⟩
 obtain ⟨q1, q2⟩ := hl D i ys H hD hi p
 refine ⟨q1, ?_⟩
 rcases Nat.lt_or_ge i xs.length with lt | ge
 ·refine .inr ⟨⟨xs, xs[i], q2, by simp [lt]⟩, Pv D (i + 1), fun ys' H' p' => ⟨xs.length - (i + 1), by omega, ⟨rfl, lt⟩, p'⟩, ?_⟩
  rintro x H' ⟨t, y, rfl, nt, rfl, hy⟩
  exact ⟨t, .int i, y, rfl, SqT.of xU9, hs D i y t ys H hD (hy xs q2) p nt⟩
 ·have e : i = xs.length := by omega
  subst e
  exact .inl ⟨⟨xs, q2, Nat.le_refl _⟩, hd D ys H hD p⟩
section
variable {X : Cx}
theorem oC2 {elt iter : Expr} {x x' y : Str} {kt : Nat} {px px' pt py pos spos : Pos} {ifs : List Expr} {scope : Scope} {wi : TI} {tt : TT} {te : TE} (K : PySem.W.Frag) (B : ownB X.N X.env.scope = true) (i : Nat) (ks : List Nat) (caps : List Str)
  (hc : X.calm = true) (hi : PI X (.Tuple [.Name x px, .Name x' px'] kt pt) iter wi)
  (ht : ∀ cl fp s₂ H₂ C, PTs (blk X scope (x :: x' :: caps) cl fp s₂ H₂ C) ifs tt) (he : ∀ cl fp s₂ H₂ C, PE (blk X scope (x :: x' :: caps) cl fp s₂ H₂ C) elt te) (hN : X.N[i]? = some y := by rfl)
  (hy : (X.env.scope.names.lookup y == some .local) = true := by kernel_rfl) (hS : cscope2B X.env.scope X.N scope x x' ks caps = true := by kernel_rfl)
  (hsw : swapsWith (.ListComp elt [⟨.Tuple [.Name x px, .Name x' px'] kt pt, iter, ifs, 0⟩] scope pos) (some (.Name y py)) spos.line X.env = pure true := by kernel_rfl)
  (hs : ∀ v, foldedSetIterable iter X.env v = pure v := by intro _; rfl) (h : X.K = K := by rfl) : PS X (.Assign [.Name y py] (.ListComp elt [⟨.Tuple [.Name x px, .Name x' px'] kt pt, iter, ifs, 0⟩] scope pos) spos) (tAsg (tComp2 K wi ks tt te) (yQ8 i)) :=
 h ▸ ps_setc2 ks caps (Own.of B).nd hN (beq_iff_eq.mp hy) hc hS hi ht he hsw hs
theorem oSc (B : ownB X.N X.env.scope = true) (i : Nat) {x : Str} {e : Expr} {te : TE} {pos pos' : Pos} (he : PE X e te) (hN : X.N[i]? = some x := by rfl) (hs : swapsWith e (some (.Name x pos')) pos.line X.env = pure false := by kernel_rfl) (hf : X.fn x = true := by rfl) :
  PS X (.Assign [.Name x pos'] e pos) (tAsg te (yQ8 i)) := ps_set (Own.of B).nd hN ((Own.of B).loc i x hN) he hs (.inl hf)
end
end L11
namespace L8
open PySem PySem.Spec L2 L3
section
variable {X : Cx}
theorem neK (K : PySem.W.Frag) (hu : X.A.units + 10 < cLine) (h : X.K = K := by rfl) : OpR X (compareOp .NotEq) (rNeD K 10) := h ▸ op_neD hu
theorem notInK (K : PySem.W.Frag) (hu : X.A.units + 1 + 10 < cLine) (h : X.K = K := by rfl) : OpR X (compareOp .NotIn) (rInD K 10 true) := h ▸ op_notInD hu
end
end L8
namespace L10
open PySem PySem.Spec L2 L3 L4
open PyProof.Rows hiding St
def AtW (B : Heap) (l : List Env) (e : Addr) (cls a0 fl : Value) (h : Heap) : Prop := B.StaysIn h ∧ B.get? e = none ∧ h.FunFrames B l ∧ h.TracedAtW B e cls a0 fl
theorem ff_but {B h h' : Heap} {C : Addr} (sb : Heap.SameBut C h h') : ∀ {l : List Env}, h.FunFrames B l → (∀ b ∈ frs l, b ≠ C) → h'.FunFrames B l
 | [], _, _ => trivial
 | env :: l, ⟨hk, ⟨L, o, hf, hn, ho, hd⟩, hr⟩, ne => by
  have nL : L ≠ C := ne L (List.mem_filterMap.mpr ⟨env, List.mem_cons_self, hf⟩)
  refine ⟨hk, ⟨L, o, hf, hn, (sb.2 L nL).trans ho, hd⟩, ff_but sb hr fun b hb => ne b ?_⟩
  obtain ⟨e, he, q⟩ := List.mem_filterMap.mp hb
  exact List.mem_filterMap.mpr ⟨e, List.mem_cons_of_mem _ he, q⟩
section
variable {M : Model} {A : Around} {E : Value → Shared → Prop} {s : Shared} {B : Heap} {env : Env} {outer l : List Env} {L e : Addr} {cls a0 fl : Value}
theorem note_same {env' : Env} {x : Value} (h : env'.frame = env.frame) : noteFrame x env' = noteFrame x env := by
 unfold noteFrame PySem.frameOf
 rw [h]
theorem ref_ne (T : Addr) : (Value.ref T != Value.none) = true := by simp
theorem ref_nn (T : Addr) : ¬ (Value.ref T == Value.none) = true := by simp
theorem flight_at {f : Option Addr} {Q : Unit → Shared → Prop} (x : AtW B l e cls a0 fl s.heap) (hQ : ∀ h' fl', AtW B l e cls a0 fl' h' → s.heap.UpToSlots h' → Q () { s with heap := h' }) : wpAny M A (setFlight (.ref e) f) Q E s := by
 obtain ⟨k1, k2, k3, oe, vs, T, oT, ts, ge, gc, gd, g1, gn, gT, gt, gtd, g3⟩ := x
 have z3 : 3 < ts.size := (Array.getElem?_eq_some_iff.mp g3).1
 have oth : ∀ b, b ≠ T → (s.heap.update T (Obj.mapFields (·.setIfInBounds 3 (f.elim Value.none fun g => rawInt g)))).get? b = s.heap.get? b := fun b hb => Heap.get?_update_other _ _ (Ne.symm hb)
 have nr : ∀ b o, s.heap.get? b = some o → (∀ ws, o.data ≠ .fields ws) → b ≠ T := fun b o hb hn q => by
  rw [q, gt] at hb; cases hb; exact hn ts gtd
 unfold setFlight
 refine wpAny_bind (wpAny_field ge gd g1 ?_)
 rw [if_pos (ref_ne T)]
 refine wpAny_setField gt gtd z3 (hQ _ (f.elim Value.none fun g => rawInt g) ⟨fun b o hb => (oth b fun q => by rw [q, gn] at hb; cases hb).trans (k1 b o hb), k2, k3.of_keeps fun b o hb hn => ⟨o, (oth b (nr b o hb hn)).trans hb, rfl⟩, ?_⟩ fun b o hb hn => ⟨o.slots, (oth b (nr b o hb hn)).trans hb⟩)
 exact ⟨oe, vs, T, _, _, (oth e (Ne.symm gT)).trans ge, gc, gd, g1, gn, gT, Heap.get?_update_self _ gt (Obj.isFreed_of_fields (Obj.data_mapFields gtd _)), Obj.data_mapFields gtd _, by simp [z3]⟩
theorem leaves_at {Q : Unit → Shared → Prop} (hfr : A.frames = some (env :: outer)) (hf : env.frame = some L) (x : AtW B (env :: outer) e cls a0 fl s.heap)
  (hQ : ∀ h', Heap.FlyingW B outer e cls a0 h' → s.heap.UpToSlots h' → Q () { s with heap := h' }) : wpAny M A (leaving env (.ref e)) Q E s := by
 have fin : ∀ (h1 : Heap) (fl' : Value), AtW B (env :: outer) e cls a0 fl' h1 → s.heap.UpToSlots h1 → wpAny M A (setFlight (.ref e) none) Q E { s with heap := h1 } := fun h1 fl' y up => by
  obtain ⟨k1, k2, k3, k4⟩ := y
  exact wpAny_setFlight_noneW k1 k3 k4 fun h' j1 j2 j3 j4 => hQ h' ⟨j1, k2, j2.2.2, j3⟩ (up.trans fun b o hb hn => ⟨o.slots, j4 b o hb hn⟩)
 obtain ⟨k1, k2, k3, oe, vs, T, oT, ts, ge, ⟨gc, g0⟩, gd, g1, gn, gT, gt, gtd, g3⟩ := id x
 subst gc
 unfold leaving noteFrame
 simp only [hf]
 refine wpAny_bind (wpAny_bind (wpAny_field ge gd g1 ?_))
 rw [if_pos (ref_ne T)]
 refine wpAny_bind (wpAny_field gt gtd g3 ?_)
 by_cases hL : (fl == rawInt L) = true
 ·rw [if_pos hL]
  exact wpAny_pure (fin s.heap fl x (Heap.UpToSlots.refl _))
 ·rw [if_neg hL]
  refine wpAny_bind (wpAny_setField gt gtd (Array.getElem?_eq_some_iff.mp g3).1 ?_)
  have oth : ∀ b, b ≠ T → (s.heap.update T (Obj.mapFields (·.setIfInBounds 3 Value.none))).get? b = s.heap.get? b := fun b hb => Heap.get?_update_other _ _ (Ne.symm hb)
  have nr : ∀ b o, s.heap.get? b = some o → (∀ ws, o.data ≠ .fields ws) → b ≠ T := fun b o hb hn q => by
   rw [q, gt] at hb; cases hb; exact hn ts gtd
  refine wpAny_entryW hfr (k3.of_keeps fun b o hb hn => ⟨o, (oth b (nr b o hb hn)).trans hb, rfl⟩) hf ((oth e (Ne.symm gT)).trans ge) (fun b o hb => (oth b fun q => by rw [q, gn] at hb; cases hb).trans (k1 b o hb)) k2 gd (Array.getElem?_eq_some_iff.mp g1).1 g0 fun h' ⟨x1, x2, x3, x4⟩ => ?_
  exact fin h' _ ⟨x1, k2, x2, x3⟩ fun b o hb hn => x4 b o ((oth b (nr b o hb hn)).trans hb) hn
end
def PassC (X : Cx) (E : XK) : Prop := ∀ (a C : Addr) (a0 fl : Value) (B : Heap) (H' : Hp) (s' : Shared), X.Ok → s'.os = X.s₀.os → AllBare s'.gens → AtW B X.stack a (.ref C) a0 fl s'.heap → UnB X.fs X.H₀ H' X.s₀.heap B → SlF X.fs X.s₀.heap s'.heap → HOk X.prog X.w H' B → E (.ref C) none H' → X.xe (.ref a) s'
theorem passC1 {P : Program} {w : World} {K : PySem.W.Frag} {mg : Str → Option Value} {base : Heap} {N : List Str} {qual : Str} {scope : Scope} {f : Addr} {cd : Value} {A : Around} {outer : List Env} {s0 : Shared} {H0 : Hp} {E : XK} : PassC (cxOf (CX1 P w) P w K mg base N qual scope f cd A outer s0 H0 E) E := by
 intro a C a0 fl B H' s' ok os bare at_ un sl hok q
 refine leaves_at ok.frames rfl at_ fun h'' x1 x2 => ?_
 exact ⟨a, C, a0, B, H', rfl, os, bare, x1, un, SlF.up sl (noF_of ok.funs) x2, hok, q⟩
section
variable {X : Cx} {E : XK} {pins : List (Addr × Obj)} {σ : St} {H1 : Hp} {s1 s9 : Shared} {C : Addr} {m : Str → Option Value} {cenv : Env} {e : Value} {use : Option (Value → Sem Unit)} {Qr : Value → Shared → Prop} {D : Value}
theorem comp_err (PC : PassC X E) (hex : X.ex = []) (hst : X.stack = X.env :: X.outer) (hfr : X.env.frame = some X.env.locals) (J1 : Inv X pins σ H1 s1) (hCn : H1 C = none) (hCs : X.s₀.heap.objs.size ≤ C) (hCl : C ∉ frs X.stack) (hn : s1.heap.Ns C m) (hcf : cenv.frame = X.env.frame)
  (h : CX1 X.prog X.w X.stack H1 s1 E e s9) : notedBy (model X.prog X.w) X.A cenv (fun e s' => compPost (model X.prog X.w) X.A X.xe use Qr D C (.error e) s') e s9 := by
 obtain ⟨a, Cc, a0, B, H', rfl, os, bare, fl, un, sl, hok, q⟩ := h
 obtain ⟨oC, es, ep, hoC, hdC, rC⟩ := id hn
 have hBC : B.get? C = some oC := un.keep C oC hoC hCn hCl
 have hst' : (PySem.W.hideAll B [C]).StaysIn B := fun b o e => PySem.W.of_hideAll _ e
 have fl' := PySem.W.flyingW_base hst' fl
 rw [hst] at fl'
 show wpAny _ X.A (noteFrame (.ref a) cenv) _ _ s9
 rw [note_same hcf]
 refine wpAny_looks_onW (by rw [← hst]; exact J1.ok.frames) hfr fl' fun h4 fl4 up4 => ?_
 have n9 : s9.heap.Ns C m := ⟨oC, es, ep, fl.1 C oC hBC, hdC, rC⟩
 have n4 : h4.Ns C m := up4.ns n9
 have post : ∃ m, h4.Ns C m ∧ ∀ h', Heap.SameBut C h4 h' → ∀ cenv : Env, cenv.locals = C → wpAny (model X.prog X.w) X.A (PySem.passOn "comprehension.variables-let-go" (.ref a) cenv : Sem Value) (fun _ _ => False) X.xe { s9 with heap := h' } := by
  refine ⟨m, n4, fun h5 sb ce _ => ?_⟩
  obtain ⟨k1, k2, k3, oe, vs, T, oT, ts, ge, gc, gd, g1, gn, gT, gt, gtd, g3⟩ := fl4
  obtain ⟨o4, es4, ep4, ho4, hd4, _⟩ := n4
  have nC : ∀ {b : Addr} {o : Obj} {ws : Array Value}, h4.get? b = some o → o.data = .fields ws → b ≠ C := fun hb hd z => by
   rw [z, ho4] at hb; cases hb; rw [hd4] at hd; cases hd
  have hsub : ∀ b ∈ frs (X.env :: X.outer), b ≠ C := fun b hb z => hCl (by rw [hst, ← z]; exact hb)
  have ge5 := (sb.2 a (nC ge gd)).trans ge
  have a5 : AtW (PySem.W.hideAll B [C]) (X.env :: X.outer) a (.ref Cc) a0 (rawInt X.env.locals) h5 := by
   refine ⟨fun b o e => (sb.2 b fun z => ?_).trans (k1 b o e), k2, ff_but sb k3 hsub, oe, vs, T, oT, ts, ge5, gc, gd, g1, gn, gT, (sb.2 T (nC gt gtd)).trans gt, gtd, g3⟩
   rw [z, PySem.W.hideAll_none [C] (List.mem_singleton.mpr rfl)] at e
   cases e
  have old : ∀ {b : Addr} {o : Obj}, X.s₀.heap.get? b = some o → b ≠ C := fun e => Nat.ne_of_lt (Nat.lt_of_lt_of_le (Heap.lt_size e) hCs)
  have unB := onB J1 hex un
  have un' : UnB X.fs X.H₀ H' X.s₀.heap (PySem.W.hideAll B [C]) := ⟨fun b o e n hb => PySem.W.hideAll_get _ (unB.keep b o e n hb) (by simpa using old e), unB.free, fun b o e hb => by
   obtain ⟨o', q'⟩ := unB.there b o e hb
   exact ⟨o', PySem.W.hideAll_get _ q' (by simpa using old e)⟩, unB.tups, unB.frzs, unB.tbls⟩
  have hCn' : H' C = none := un.free C oC hoC hCn
  have hok' : HOk X.prog X.w H' (PySem.W.hideAll B [C]) := fun b o e => (hok b o e).stay (fun c u hc q => PySem.W.hideAll_get _ q (by
   intro z
   have z : c = C := by simpa using z
   rcases hc with hc | hc
   ·rw [← hc, z, hCn'] at e; cases e
   ·rw [z, hCn'] at hc; cases hc)) (fun _ q => q) fun _ _ q => q
  have sl5 : SlF X.fs X.s₀.heap h5 := fun b hb o e => by
   obtain ⟨sl', q'⟩ := (SlF.up (SlF.trans (base_slots J1 hex) sl fun b hb => by
    rw [hst]
    obtain ⟨en, he, hf⟩ := List.mem_filterMap.mp hb
    exact List.mem_filterMap.mpr ⟨en, List.mem_cons_of_mem _ he, hf⟩) (noF_of J1.ok.funs) up4) b hb o e
   exact ⟨sl', (sb.2 b (old e)).trans q'⟩
  unfold PySem.passOn
  refine wpAny_bind (wpAny_field ge5 gd g1 ?_)
  rw [if_neg (ref_nn T)]
  have step : wpAny (model X.prog X.w) X.A (setFlight (.ref a) ce.frame) (fun _ s'' => wpAny (model X.prog X.w) X.A (throw (Value.ref a) : Sem Value) (fun _ _ => False) X.xe s'') X.xe { s9 with heap := h5 } :=
   flight_at (s := { s9 with heap := h5 }) a5 fun h6 fl6 a6 up6 => wpAny_throw (PC a Cc a0 fl6 _ H' { s9 with heap := h6 } J1.ok (os.trans J1.os) bare (by rw [hst]; exact a6) un' (SlF.up sl5 (noF_of J1.ok.funs) up6) hok' q)
  first
   | exact wpAny_bind (wpAny_pure (wpAny_bind step))
   | exact wpAny_bind step
 cases use with
 | none => exact post
 | some u => exact post
end
def blkX (X : Cx) (scope : Scope) (N : List Str) (cl : List (Str × Addr)) (fp : List Addr) (s₂ : Shared) (H₂ : Hp) (C : Addr) (E : XK) : Cx :=
 (blk X scope N cl fp s₂ H₂ C).wish fun e s' => ∃ pins σ H s, Inv (blk X scope N cl fp s₂ H₂ C) pins σ H s ∧ CX1 X.prog X.w X.stack H s E e s'
theorem passB {X : Cx} {scope : Scope} {N : List Str} {cl : List (Str × Addr)} {fp : List Addr} {s₂ : Shared} {H₂ : Hp} {C : Addr} {E : XK} : vU9 (CX1 X.prog X.w) (blkX X scope N cl fp s₂ H₂ C E) E :=
 fun pins σ H s e s' I h => ⟨pins, σ, H, s, Inv.unwish I, h⟩
theorem comp_coreX {X : Cx} {elt iter : Expr} {x : Str} {px pos p2 : Pos} {scope : Scope} {ks : List Nat} {caps : List Str} {wi : TI} {te : TE} {R : VK} {E : XK} {Qr : Value → Shared → Prop}
  (PC : PassC X E) (hex : X.ex = []) (hst : X.stack = X.env :: X.outer) (hfr : X.env.frame = some X.env.locals) (hc : X.calm = true) (S : CScope X scope x ks caps) (hi : PI X (.Name x px) iter wi)
  (he : ∀ cl fp s₂ H₂ C, PE (blkX X scope (x :: caps) cl fp s₂ H₂ C E) elt te)
  (hs : ∀ v, foldedSetIterable iter X.env v = pure v)
  {pins : List (Addr × Obj)} {s : Shared} {σ : St} {H : Hp} (I : Inv X pins σ H s) (h : wi σ H fun J H1 => tCompW J tYes te (ks.map fun k => σ.getD k none) R H1)
  (fin0 : ∀ D H' s', Inv X pins σ H' s' → R (.ref D) H' → Qr (.ref D) s') :
  wpAny (model X.prog X.w) X.A (comprehension (.ListComp elt [⟨.Name x px, iter, [], 0⟩] scope pos) scope X.env p2 (newList []) false (eval iter X.env) none) Qr X.xe s := by
 obtain ⟨cl, hclos, p1, p3⟩ := yZ7 (scope := scope) (env := X.env) fun y hy hf => I.ok.has y.1 (S.frees y hy hf)
 refine wpAny_comprehension_free rfl hs hclos S.kind S.names (thn (hi pins s σ H _ I h) fun v s1 h1 => thn h1 fun itv s2 h2 => ?_)
 obtain ⟨it, fp, tn, J, H2, e, I2, T, st2, f2, rd⟩ := h2
 subst e
 have hlt : ∀ b ∈ fp, b < s2.heap.objs.size := fun b hb => by
  obtain ⟨o, ho, _⟩ := T.obj _ _ st2 b hb
  exact Heap.lt_size ho
 obtain ⟨W, ⟨m0, w0⟩, turn⟩ := rd s2.heap.objs.size I2.fresh
 refine wpAny_newObj_type (wpAny_newFunctionEnv S.nocell (by intro y hy; simp at hy) (fun h₁ hns₁ hsb₁ => ?_) S.kind)
 dsimp only at hns₁ hsb₁ ⊢
 generalize hH2 : s2.heap.push { cls := .type "list", dict := none, data := .seq ([] : List Value).toArray } = G2 at hns₁ hsb₁ ⊢
 have hC : G2.objs.size = s2.heap.objs.size + 1 := by rw [← hH2, Heap.size_push]
 have hDC : s2.heap.objs.size ≠ G2.objs.size := by rw [hC]; exact Nat.ne_of_lt (Nat.lt_succ_self _)
 have hCl : s2.heap.objs.size < G2.objs.size := by rw [hC]; exact Nat.lt_succ_self _
 have old : ∀ b o, s2.heap.get? b = some o → h₁.get? b = some o := fun b o e => hsb₁.extBut b o (Nat.ne_of_lt (Nat.lt_trans (Heap.lt_size e) hCl)) (Heap.get?_push_of_some _ (hH2 ▸ Heap.get?_push_of_some _ e))
 have hacc : ∃ n, h₁.get? s2.heap.objs.size = some { cls := .type "list", data := .seq ([] : List Value).toArray n } := ⟨_, hsb₁.extBut _ _ hDC (Heap.get?_push_of_some _ (hH2 ▸ Heap.get?_push_size _ rfl))⟩
 have I3 := blk_inv (cl := cl) (tk := s2.toks + ([] : List (Str × Value)).length) S I2 f2 hlt p1 p3 hCl old hacc hns₁
 have st3 : tn 0 h₁ := T.keep _ _ _ st2 fun b _ o e => old b o e
 have f3 : ∀ b ∈ fp, upd H2 s2.heap.objs.size (.lst []) b = none := fun b hb => by
  rw [xU2 (Nat.ne_of_lt (hlt b hb))]
  exact (f2 b hb).1
 have hCstk : G2.objs.size ∉ frs X.stack := fun z => by
  rcases List.mem_cons.mp (I2.stkSub _ z) with e | e
  ·exact absurd (Nat.lt_trans I2.lt hCl) (by rw [← e]; exact Nat.lt_irrefl _)
  ·exact I2.nofs (Nat.le_of_lt hCl) e
 have back : ∀ {σ' : St} {H' : Hp} {s' : Shared} {pl : List (Addr × Obj)}, Inv (blk X scope (x :: caps) cl fp s2 H2 G2.objs.size) pl σ' H' s' → Inv X pins σ H' s' ∧ Gone X pins H' G2.objs.size := fun {σ' H' s' pl} J' => by
  refine ⟨I2.call' (ch := fp) J'.os J'.base J'.hok J'.bare fun b hb => ⟨(f2 b hb).2.2.2.1, (f2 b hb).2.1, (f2 b hb).2.2.2.2.1, (f2 b hb).2.2.2.2.2⟩, J'.free, Nat.ne_of_gt (Nat.lt_trans I2.lt hCl), .inr (Nat.le_trans I2.sz (Nat.le_of_lt hCl)), fun y c e z => ?_, fun p hp z => ?_⟩
  ·obtain ⟨v, q⟩ := I2.cell y c e
   exact absurd (Nat.lt_trans q.lt (z ▸ hCl)) (Nat.lt_irrefl _)
  ·exact absurd (Nat.lt_trans (Heap.lt_size (I2.pin p hp).1) (z ▸ hCl)) (Nat.lt_irrefl _)
 have loop : ∀ s₃ : Shared, s₃ = { s2 with heap := h₁, toks := s2.toks + ([] : List (Str × Value)).length } →
   codeAny (model X.prog X.w) X.A (.compLoop (.ListComp elt [⟨.Name x px, iter, [], 0⟩] scope pos) 0 (.ref it) (.ref s2.heap.objs.size) (compEnvC scope cl G2.objs.size X.env))
    (compPost (model X.prog X.w) X.A X.xe none Qr (.ref s2.heap.objs.size) G2.objs.size) s₃ := by
  rintro s₃ rfl
  have stat : ∀ {H' : Hp}, (∀ b ∈ fp, H' b = none) → ∀ b ∈ fp, FpOk (blk X scope (x :: caps) cl fp s2 H2 G2.objs.size) [] H' b := fun hn b hb =>
   ⟨hn b hb, Nat.ne_of_lt (Nat.lt_trans (hlt b hb) hCl), fun z => by
    rcases List.mem_cons.mp (I2.stkSub b z) with e | e
    ·exact (f2 b hb).2.1 e
    ·exact (f2 b hb).2.2.1 e, .inl hb, fun y c e => (f2 b hb).2.2.2.2.1 y c (p1 y c e), fun p hp => absurd (show p ∈ ([] : List (Addr × Obj)) from hp) (by simp)⟩
  refine codeAny_compLoop_tests (fun n s' => ∃ i v0 ys H', Inv (blk X scope (x :: caps) cl fp s2 H2 G2.objs.size) [] (v0 :: ks.map fun k => σ.getD k none) H' s' ∧ tn i s'.heap ∧ (∀ b ∈ fp, H' b = none) ∧ W i n ys H') ?_ m0
   ⟨0, none, [], _, I3, st3, f3, w0⟩
  rintro n s4 ⟨i, v0, ys, H4, I4, st4, fr4, w4⟩
  obtain ⟨hD, hh⟩ := turn i n ys H4 w4
  rcases hh with ⟨stop, qn⟩ | ⟨go, N, hN, step⟩
  ·refine thn (T.done (blk X scope (x :: caps) cl fp s2 H2 G2.objs.size) rfl rfl rfl hc i [] s4 _ H4 _ I4 (stat fr4) st4 stop) fun r s5 ⟨hr, I5⟩ => ?_
   subst hr
   obtain ⟨J5, g5⟩ := back I5
   obtain ⟨m5, hn5, _⟩ := I5.loc
   exact ⟨m5, hn5, fun h' sb => fin0 _ H4 _ (g5.inv J5 sb) qn⟩
  ·refine thn (T.item (blk X scope (x :: caps) cl fp s2 H2 G2.objs.size) rfl rfl rfl hc i [] s4 _ H4 (notedBy (model X.prog X.w) X.A (compEnvC scope cl G2.objs.size X.env) fun e s' => compPost (model X.prog X.w) X.A X.xe none Qr (.ref s2.heap.objs.size) G2.objs.size (.error e) s') I4 (stat fr4) st4 go) fun r s5 ⟨u, hr, h5⟩ => ?_
   subst hr
   show wpAny _ _ (letOwnedTupleGo (.Name x px) (.ref it) u >>= fun _ => assign (.Name x px) (compEnvC scope cl G2.objs.size X.env) u) _ _ s5
   refine wpAny_bind (thn h5 fun _ s6 ⟨y6, H6, I6, r6, yl6, st6, fr6⟩ => ?_)
   have I6' := I6.pinned (stat fr6) (T.obj _ _ st6)
   refine thnE (pg_name (X := blk X scope (x :: caps) cl fp s2 H2 G2.objs.size) (i := 0) S.nd rfl (.inl (lookup_relabel_local S.tgt)) (.inr (lookup_relabel_local S.tgt)) _ s6 _ H6 y6 u (fun σ' H' => σ' = some y6 :: (ks.map fun k => σ.getD k none) ∧ H' = H6) I6' r6 ⟨rfl, rfl⟩) fun _ s7 ⟨σ7, H7, I7, e7, e7'⟩ => ?_
   subst e7 e7'
   have again : ∀ {σ' : St} {H' : Hp} {s' : Shared}, Inv (blk X scope (x :: caps) cl fp s2 H2 G2.objs.size) ([] ++ pinsAt fp s6.heap) σ' H' s' → tn (i + 1) s'.heap ∧ ∀ b ∈ fp, H' b = none := fun {σ' H' s'} J' => by
    refine ⟨T.keep _ _ _ st6 fun b hb o e => (J'.pin (b, o) (List.mem_append_right _ (List.mem_append_right _ (xQ4 hb e)))).1, fun b hb => ?_⟩
    obtain ⟨o, e, d⟩ := T.obj _ _ st6 b hb
    exact (J'.pin (b, o) (List.mem_append_right _ (List.mem_append_right _ (xQ4 hb e)))).2.1
   refine thnE (yZ2 (X := blk X scope (x :: caps) cl fp s2 H2 G2.objs.size) _ s7 _ H7 _ I7 (step y6 H7 yl6)) fun b s8 ⟨H8, I8, q8⟩ => ?_
   cases b with
   | false =>
    rw [if_neg Bool.false_ne_true] at q8
    obtain ⟨m', hm, w8⟩ := hN _ _ q8
    rw [if_neg Bool.false_ne_true]
    obtain ⟨a1, a2⟩ := again I8
    exact ⟨m', hm, i + 1, _, ys, H8, I8.unpinned, a1, a2, w8⟩
   | true =>
    rw [if_pos rfl] at q8
    rw [if_pos rfl]
    refine wpAny_mono (he cl fp s2 H2 G2.objs.size _ s8 _ H8 _ (I8.wish _) q8) (fun yv s9 ⟨y9, H9, I9', r9, hD9, hz9, n9⟩ => ?_) fun ev s9 hx => ?_
    ·have I9 := Inv.unwish I9'
     obtain ⟨m', hm, w9⟩ := hN _ _ n9
     refine thnE (vV4 (X := blk X scope (x :: caps) cl fp s2 H2 G2.objs.size) _ s9 _ H9 (.ref s2.heap.objs.size) [y9] (.ref s2.heap.objs.size) [yv] (fun _ H' => H' = upd H9 s2.heap.objs.size (.lst (ys ++ [y9]))) I9 rfl (.cons r9 .nil) ⟨_, ys, y9, rfl, rfl, hD9, hz9, rfl⟩) fun _ s10 ⟨_, H10, I10, _, e10⟩ => ?_
     subst e10
     obtain ⟨a1, a2⟩ := again I10
     exact ⟨m', hm, i + 1, _, _, _, I10.unpinned, a1, a2, w9⟩
    ·obtain ⟨pl, σ', H', s', I', cx⟩ := hx
     obtain ⟨J', g'⟩ := back I'
     obtain ⟨m', hn', _⟩ := I'.loc
     exact comp_err PC hex hst hfr J' g'.free (Nat.le_trans I2.sz (Nat.le_of_lt hCl)) hCstk hn' rfl cx
 exact codeAny_compStart_list (loop _ rfl) (T.self _ _ _ _ _ st3 (loop _ rfl))
theorem pe_compX {X : Cx} {elt iter : Expr} {x : Str} {px pos : Pos} {scope : Scope} {wi : TI} {te : TE} {E : XK} (ks : List Nat) (caps : List Str) (PC : PassC X E)
  (hi : PI X (.Name x px) iter wi) (he : ∀ cl fp s₂ H₂ C, PE (blkX X scope (x :: caps) cl fp s₂ H₂ C E) elt te) (hS : vV9 X.env.scope X.N scope x ks caps = true := by kernel_rfl)
  (hc : X.calm = true := by rfl) (hex : X.ex = [] := by rfl) (hst : X.stack = X.env :: X.outer := by rfl) (hfr : X.env.frame = some X.env.locals := by rfl)
  (hs : ∀ v, foldedSetIterable iter X.env v = pure v := by intro _; rfl) : PE X (.ListComp elt [⟨.Name x px, iter, [], 0⟩] scope pos) (tComp wi ks tYes te) := by
 intro pins s σ H Q I h
 rw [eval_ListComp]
 exact comp_coreX (R := Q) PC hex hst hfr hc (CScope.of hS) hi he hs I h (fun D H' s' I' q => ⟨.ref D, H', I', rfl, q⟩)
end L10
section
seal L2.PE L2.PT L2.PW L2.PA L2.PS L2.PSs L2.PG L2.PGs L2.PI L3.PTs L2.PO L2.CallR L2.OpR L2.IxR L2.MtR L2.PSet L2.SlR
namespace Of
open PySem L2 L3 L4
structure Bts (mg : Str → Option Value) : Prop where
 len : mg "len" = none
 range : mg "range" = none
 isinstance : mg "isinstance" = none
 int : mg "int" = none
 bool : mg "bool" = none
 tuple : mg "tuple" = none
 list : mg "list" = none
 str : mg "str" = none
 dict : mg "dict" = none
theorem boot_st : bootBuiltins "str" = some (.type "str") := by decide +kernel
def cell (ns : List Int) (k : Int) : Int := if k < (ns.length : Int) then ns.getD k.toNat 0 else 0
def vU7 (K : PySem.W.Frag) : Sp := fun vs H Q _ => ∃ i : Int, vs = [.int i] ∧ Q (.bl true) H
def spAt (K : PySem.W.Frag) : Sp := fun vs H Q _ => ∃ (a : Addr) (ns : List Int) (k : Int), vs = [.ref a, .int k] ∧ SqL K H a (nums ns) ∧ 0 ≤ k ∧ Q (.int (cell ns k)) H
def okWhat (s n : Int) : What → Prop
 | .pay t m => 0 ≤ m ∧ 0 ≤ t ∧ t < n ∧ t ≠ s
 | .cut => True
def spIsWhat (K : PySem.W.Frag) : Sp := fun vs H Q _ => ∃ (c : Addr) (wh : What) (s n : Int), vs = [.ref c, .int s, .int n] ∧ vV1 K H c wh ∧ okWhat s n wh ∧ Q (.bl true) H
def okLet (n : Nat) (l : Let) : Prop := l.s < n ∧ l.st.length = n ∧ (∀ x ∈ l.st, 0 ≤ x) ∧ okWhat l.s n l.w
def vX8 (K : PySem.W.Frag) : Sp := fun vs H Q _ => ∃ (a : Addr) (xs : List V) (ls : List Let) (n : Nat), vs = [.ref a, .int n] ∧ SqL K H a xs ∧ xU3 K H (ls.map letD) xs ∧ (∀ l ∈ ls, okLet n l) ∧ Q (.bl true) H
theorem ki_str {K : PySem.W.Frag} : PySem.W.kitOne K (.type "str") (.type "str") = some true := by kernel_rfl
theorem cmul {i j : Int} (h1 : -(2 ^ 64) < j) (h2 : j < 2 ^ 64) : CMul i j := .inr ⟨h1, h2⟩
section
variable {P : Program} {w : World} {K : PySem.W.Frag} {mg : Str → Option Value} {base : Heap} {fW fA fI : Addr}
theorem oLW : ownB ["_law_found"] (defScope sWhole) = true := by decide +kernel
theorem scLW : FnScope ["_law_found"] ["_law_found"] (defScope sWhole) := ⟨rfl, rfl, rfl, by decide +kernel, rfl, by decide +kernel, by decide +kernel⟩
theorem yQ6 {f : Addr} {fd : FuncData} (F : Fun K "_law_whole" "_law_whole" sWhole f fd) (T : Bts mg) : FnOk P w K mg base CX0 1 f fd ["_law_found"] (vU7 K) := by
 refine okB (body := [stm sWhole 0]) F scLW (fun vs H Q E h => ?_) (by kernel_rfl) (fun cdv A outer s H vs Q E hr h => ?_)
 ·obtain ⟨i, rfl, _⟩ := h
  rfl
 ·obtain ⟨i, rfl, q⟩ := h
  refine ⟨_, (xU6 (xU1 (vV5 (cB yX8 T.isinstance xV3 (aC (oV oLW 0) (aC (nT T.int boot_it) xU7))) (vX6 (pe_not (cB yX8 T.isinstance xV3 (aC (oV oLW 0) (aC (nT T.bool boot_bl) xU7)))))))), ?_⟩
  refine ⟨_, rfl, _, _, _, _, rfl, TyOf.int _, kit_int, _, rfl, ?_⟩
  refine ⟨_, rfl, _, _, _, _, rfl, TyOf.int _, yQ9, _, rfl, q⟩
theorem oLA : ownB ["_law_script", "_law_k"] (defScope sAt) = true := by decide +kernel
theorem scLA : FnScope ["_law_script", "_law_k"] ["_law_script", "_law_k"] (defScope sAt) := ⟨rfl, rfl, rfl, by decide +kernel, rfl, by decide +kernel, by decide +kernel⟩
theorem ok_at {f : Addr} {fd : FuncData} (F : Fun K "_law_at" "_law_at" sAt f fd) (T : Bts mg) : FnOk P w K mg base CX0 1 f fd ["_law_script", "_law_k"] (spAt K) := by
 refine okB (body := [stm sAt 0, stm sAt 1]) F scLA (fun vs H Q E h => ?_) (by kernel_rfl) (fun cdv A outer s H vs Q E hr h => ?_)
 ·obtain ⟨a, ns, k, rfl, _⟩ := h
  rfl
 ·obtain ⟨a, ns, k, rfl, hS, hk, q⟩ := h
  refine ⟨_, (xU8 (xW4 (xV7 op_lt (oV oLA 1) (cB (xV9 (X := _)) T.len PySem.boot_len (aC (oV oLA 0) xU7)) (xV5 _))
    (xU6 (xU1 (iX (ixL K) (oV oLA 0) (oV oLA 1))))
    xV8)
   (xU6 (xU1 xU5))), ?_⟩
  refine cut2 ?_
  intro rr1
  refine ⟨_, rfl, _, rfl, a, _, rfl, .inl hS, _, _, rfl, rfl, _, rfl, ?_⟩
  refine ite2 (fun h => ?_) (fun h => ?_)
  ·have h : k < (ns.length : Int) := by simpa [nums] using h
   refine ⟨_, rfl, _, rfl, a, _, k, .int (ns.getD k.toNat 0), rfl, rfl, hS, ?_, ?_⟩
   ·obtain ⟨n, rfl⟩ := Int.eq_ofNat_of_zero_le hk
    exact xW7 (xZ2 (by simpa using h))
   ·have : cell ns k = ns.getD k.toNat 0 := if_pos h
    rw [this] at q
    exact q
  ·have h : ¬ k < (ns.length : Int) := by simpa [nums] using h
   have : cell ns k = 0 := if_neg h
   rw [this] at q
   exact q
end
end Of
end
section
seal L2.PE L2.PT L2.PW L2.PA L2.PS L2.PSs L2.PG L2.PGs L2.PI L3.PTs L2.PO L2.CallR L2.OpR L2.IxR L2.MtR L2.PSet L2.SlR
namespace Of
open PySem L2 L3 L4
section
variable {P : Program} {w : World} {K : PySem.W.Frag} {mg : Str → Option Value} {base : Heap} {fW fA fI : Addr}
theorem oIw : ownB ["_law_what", "_law_sender", "_law_count"] (defScope sIsWhat) = true := by decide +kernel
theorem scIw : FnScope ["_law_what", "_law_sender", "_law_count"] ["_law_what", "_law_sender", "_law_count"] (defScope sIsWhat) := ⟨rfl, rfl, rfl, by decide +kernel, rfl, by decide +kernel, by decide +kernel⟩
theorem ok_iswhat {f : Addr} {fd fdW : FuncData} (F : Fun K "_law_is_what" "_law_is_what" sIsWhat f fd) (T : Bts mg) (mW : mg "_law_whole" = some (.ref fW)) (FW : Fun K "_law_whole" "_law_whole" sWhole fW fdW) (bW : Binds K fdW ["_law_found"] []) : FnOk P w K mg base CX0 2 f fd ["_law_what", "_law_sender", "_law_count"] (spIsWhat K) := by
 have GW : FnOk P w K mg base CX0 1 fW fdW ["_law_found"] (vU7 K) := yQ6 FW T
 refine okB (body := [stm sIsWhat 0, stm sIsWhat 1, stm sIsWhat 2, stm sIsWhat 3, stm sIsWhat 4]) F scIw (fun vs H Q E h => ?_) (by kernel_rfl) (fun cdv A outer s H vs Q E hr h => ?_)
 ·obtain ⟨c, wh, s, n, rfl, _⟩ := h
  rfl
 ·obtain ⟨c, wh, s, n, rfl, W, ok, q⟩ := h
  have hrW := hr
  refine ⟨_, (xU8 (xW4 (PW.pt (xQ1 (xW0 (xW8 (cB yU5 T.isinstance xV3 (aC (oV oIw 0) (aC (nT T.tuple yU4) xU7))))) (xQ1 (xV7 yX0 (cB (xV9 (X := _)) T.len PySem.boot_len (aC (oV oIw 0) xU7)) xU5 (xV5 _)) (xZ1 (xW0 (xW8 (cB yX8 T.isinstance xV3 (aC (iX (ixT K) (oV oIw 0) xU5) (aC (nT T.str boot_st) xU7)))))))))
    (xU6 (xU1 xY1))
    xV8)
   (xU8 (xW4 (xV7 yX0 (iX (ixT K) (oV oIw 0) xU5) xY8 (xV5 _))
    (xU6 (xU1 (yW4 yX0 (cB (xV9 (X := _)) T.len PySem.boot_len (aC (oV oIw 0) xU7)) xU5 (xV5 _))))
    xV8)
   (xU8 (xW4 (PW.pt (xQ1 (xV7 yX1 (iX (ixT K) (oV oIw 0) xU5) xY8 (xV5 _)) (xZ1 (xV7 yX1 (cB (xV9 (X := _)) T.len PySem.boot_len (aC (oV oIw 0) xU7)) xU5 (xV5 _)))))
    (xU6 (xU1 xY1))
    xV8)
   (xU8 (xW4 (PW.pt (xQ1 (xW0 (xW8 (cF GW hrW mW FW.kp bW .nil xV1 (aC (iX (ixT K) (oV oIw 0) xU5) xU7)))) (xQ1 (xW0 (xW8 (cF GW hrW mW FW.kp bW .nil xV1 (aC (iX (ixT K) (oV oIw 0) xU5) xU7)))) (xZ1 (xV7 op_lt (iX (ixT K) (oV oIw 0) xU5) xU5 (xV5 _))))))
    (xU6 (xU1 xY1))
    xV8)
   (xU6 (xU1 (vV5 (pe_chain op_le op_lt xU5 (iX (ixT K) (oV oIw 0) xU5) (oV oIw 2)) (vX6 (yW4 yX1 (iX (ixT K) (oV oIw 0) xU5) (oV oIw 1) (xV5 _)))))))))), ?_⟩
  refine cut5 ?_
  intro rr4 rr3 rr2 rr1
  cases wh with
  | cut =>
   have W : SqT K H c [.str "cut"] := W
   refine ⟨_, rfl, c, _, _, _, rfl, W, yU8, _, rfl, iteF ?_⟩
   refine ⟨_, rfl, c, _, rfl, .inr W, rfl, _, rfl, iteF ?_⟩
   refine ⟨_, rfl, c, _, 0, _, rfl, rfl, W, rfl, _, _, _, _, rfl, TyOf.str _, ki_str, _, rfl, iteF ?_⟩
   refine ⟨_, rfl, c, _, 0, _, rfl, rfl, W, rfl, rfl, _, rfl, iteT ?_⟩
   exact ⟨_, rfl, c, _, rfl, .inr W, rfl, q⟩
  | pay t m =>
   have W : SqT K H c [.str "pay", .int t, .int m] := W
   obtain ⟨o1, o2, o3, o4⟩ := ok
   refine ⟨_, rfl, c, _, _, _, rfl, W, yU8, _, rfl, iteF ?_⟩
   refine ⟨_, rfl, c, _, rfl, .inr W, rfl, _, rfl, iteF ?_⟩
   refine ⟨_, rfl, c, _, 0, _, rfl, rfl, W, rfl, _, _, _, _, rfl, TyOf.str _, ki_str, _, rfl, iteF ?_⟩
   refine ⟨_, rfl, c, _, 0, _, rfl, rfl, W, rfl, rfl, _, rfl, ?_⟩
   rw [show decide (V.str "pay" = V.str "cut") = false by decide +kernel]
   refine iteF ⟨_, rfl, c, _, 0, _, rfl, rfl, W, rfl, rfl, _, rfl, ?_⟩
   rw [show (!decide (V.str "pay" = V.str "pay")) = false by decide +kernel]
   refine iteF ⟨_, rfl, c, _, rfl, .inr W, rfl, _, rfl, iteF ?_⟩
   refine ⟨_, rfl, c, _, 1, _, rfl, rfl, W, rfl, _, rfl, _, rfl, iteF ?_⟩
   refine ⟨_, rfl, c, _, 2, _, rfl, rfl, W, rfl, _, rfl, _, rfl, iteF ?_⟩
   refine ⟨_, rfl, c, _, 2, _, rfl, rfl, W, rfl, _, _, rfl, rfl, _, rfl, ?_⟩
   rw [decide_eq_false (by omega : ¬ m < 0)]
   refine iteF ⟨_, rfl, c, _, 1, _, rfl, rfl, W, rfl, _, _, rfl, rfl, _, rfl, ?_⟩
   rw [decide_eq_true o2]
   refine iteT ⟨_, rfl, _, _, rfl, rfl, _, rfl, ?_⟩
   rw [decide_eq_true o3]
   refine iteT ⟨_, rfl, c, _, 1, _, rfl, rfl, W, rfl, _, rfl, rfl, ?_⟩
   rw [show (!decide (V.int t = V.int s)) = true by rw [decide_eq_false (fun z => o4 (V.int.inj z))]; rfl]
   exact q
theorem oAl : ownB ["_law_found", "_law_count", "_law_letter", "_law_number"] (defScope sAreLetters) = true := by decide +kernel
theorem scAl : FnScope ["_law_found", "_law_count", "_law_letter", "_law_number"] ["_law_found", "_law_count"] (defScope sAreLetters) := ⟨rfl, rfl, rfl, by decide +kernel, rfl, by decide +kernel, by decide +kernel⟩
theorem ok_areletters {f : Addr} {fd fdW fdI : FuncData} (F : Fun K "_law_are_letters" "_law_are_letters" sAreLetters f fd) (T : Bts mg) (mW : mg "_law_whole" = some (.ref fW)) (FW : Fun K "_law_whole" "_law_whole" sWhole fW fdW) (bW : Binds K fdW ["_law_found"] [])
  (mI : mg "_law_is_what" = some (.ref fI)) (FI : Fun K "_law_is_what" "_law_is_what" sIsWhat fI fdI) (bI : Binds K fdI ["_law_what", "_law_sender", "_law_count"] []) : FnOk P w K mg base CX0 3 f fd ["_law_found", "_law_count"] (vX8 K) := by
 have GW : FnOk P w K mg base CX0 1 fW fdW ["_law_found"] (vU7 K) := yQ6 FW T
 have GI : FnOk P w K mg base CX0 2 fI fdI ["_law_what", "_law_sender", "_law_count"] (spIsWhat K) := ok_iswhat FI T mW FW bW
 refine okB (body := [stm sAreLetters 0, stm sAreLetters 1, stm sAreLetters 2]) F scAl (fun vs H Q E h => ?_) (by kernel_rfl) (fun cdv A outer s H vs Q E hr h => ?_)
 ·obtain ⟨a, xs, ls, n, rfl, _⟩ := h
  rfl
 ·obtain ⟨a, xs, ls, n, rfl, ha, hx, ok, q⟩ := h
  have hrW := hr.mono (by decide : 1 ≤ 2)
  have hlen : xs.length = ls.length := by rw [xW5 hx, List.length_map]
  refine ⟨_, (xU8 (xW4 (xW0 (xW8 (cB yW2 T.isinstance xV3 (aC (oV oAl 0) (aC (nT T.list xY5) xU7)))))
    (xU6 (xU1 xY1))
    xV8)
   (xU8 (xQ0 PassesOwn.never rfl (xY2 (oV oAl 0)) (oT oAl 2)
    (xU8 (xW4 (PW.pt (xQ1 (xW0 (xW8 (cB yU5 T.isinstance xV3 (aC (oV oAl 2) (aC (nT T.tuple yU4) xU7))))) (xQ1 (xV7 yX1 (cB (xV9 (X := _)) T.len PySem.boot_len (aC (oV oAl 2) xU7)) xU5 (xV5 _)) (xZ1 (xW0 (xW8 (cF GW hrW mW FW.kp bW .nil xV1 (aC (iX (ixT K) (oV oAl 2) xU5) xU7))))))))
     (xU6 (xU1 xY1))
     xV8)
    (xU8 (xW4 (PW.pt (xQ1 (xV7 op_lt (iX (ixT K) (oV oAl 2) xU5) xU5 (xV5 _)) (xQ1 (xV7 op_ge (iX (ixT K) (oV oAl 2) xU5) (oV oAl 1) (xV5 _)) (xZ1 (xW0 (xW8 (cB yU5 T.isinstance xV3 (aC (iX (ixT K) (oV oAl 2) xU5) (aC (nT T.tuple yU4) xU7)))))))))
     (xU6 (xU1 xY1))
     xV8)
    (xU8 (xW4 (PW.pt (xQ1 (xV7 yX1 (cB (xV9 (X := _)) T.len PySem.boot_len (aC (iX (ixT K) (oV oAl 2) xU5) xU7)) (oV oAl 1) (xV5 _)) (xZ1 (xW0 (xW8 (cF GI hr mI FI.kp bI .nil xV1 (aC (iX (ixT K) (oV oAl 2) xU5) (aC (iX (ixT K) (oV oAl 2) xU5) (aC (oV oAl 1) xU7)))))))))
     (xU6 (xU1 xY1))
     xV8)
    (xU6 (xQ0 PassesOwn.never rfl (pi_tup (iX (ixT K) (oV oAl 2) xU5)) (oT oAl 3)
     (xU6 (xW4 (PW.pt (xQ1 (xW0 (xW8 (cF GW hrW mW FW.kp bW .nil xV1 (aC (oV oAl 3) xU7)))) (xZ1 (xV7 op_lt (oV oAl 3) xU5 (xV5 _)))))
      (xU6 (xU1 xY1))
      xV8))))))))
   (xU6 (xU1 xY1)))), ?_⟩
  refine cut3 ?_
  intro rr2 rr1
  refine ⟨_, rfl, a, _, _, _, rfl, ha, yQ4, _, rfl, iteF ?_⟩
  refine ⟨_, rfl, a, rfl, ⟨_, ha⟩, yU7 (K := K) (a := a) (xs := xs) (fun i σ Hc => ∃ u v, Hc = H ∧ σ = [some (.ref a), some (.int n), u, v]) ⟨none, none, rfl, rfl⟩ (fun i σ Hc _ ⟨u, v, e, _⟩ => by rw [e]; exact ha) ?_ ?_⟩
  ·rintro i y σ Hc hi ⟨u, v, e, rfl⟩
   cases e
   have hi' : i < ls.length := by have := (List.getElem?_eq_some_iff.mp hi).1; omega
   obtain ⟨x', hx', rx⟩ := xY6 hx (i := i) (d := letD ls[i]) (by rw [List.getElem?_map, List.getElem?_eq_getElem hi']; rfl)
   rw [hi] at hx'
   cases hx'
   obtain ⟨o1, o2, o3, o4⟩ := ok ls[i] (List.getElem_mem hi')
   generalize hl : ls[i] = l at o1 o2 o3 o4 rx
   obtain ⟨d, rfl, b, c, L1, L2, L3⟩ := xQ6.mp rx
   refine ⟨_, rfl, d, _, _, _, rfl, L1, yU8, _, rfl, iteF ?_⟩
   refine ⟨_, rfl, d, _, rfl, .inr L1, rfl, _, rfl, iteF ?_⟩
   refine ⟨_, rfl, d, _, 0, _, rfl, rfl, L1, rfl, _, rfl, _, rfl, iteF ?_⟩
   refine ⟨_, rfl, d, _, 0, _, rfl, rfl, L1, rfl, _, _, rfl, rfl, _, rfl, ?_⟩
   rw [decide_eq_false (by omega : ¬ (l.s : Int) < 0)]
   refine iteF ⟨_, rfl, d, _, 0, _, rfl, rfl, L1, rfl, _, rfl, _, _, rfl, rfl, _, rfl, ?_⟩
   rw [decide_eq_false (by omega : ¬ (n : Int) ≤ (l.s : Int))]
   refine iteF ⟨_, rfl, d, _, 1, _, rfl, rfl, L1, rfl, b, _, _, _, rfl, L2, yU8, _, rfl, iteF ?_⟩
   refine ⟨_, rfl, d, _, 1, _, rfl, rfl, L1, rfl, b, _, rfl, .inr L2, _, rfl, rfl, _, rfl, ?_⟩
   rw [show (!decide (V.int ((nums l.st).length : Int) = V.int (n : Int))) = false by rw [List.length_map, o2]; simp]
   refine iteF ⟨_, rfl, d, _, 2, _, rfl, rfl, L1, rfl, _, rfl, d, _, 0, _, rfl, rfl, L1, rfl, _, rfl, c, l.w, l.s, n, rfl, L3, o4, _, rfl, iteF ?_⟩
   refine ⟨_, rfl, d, _, 1, _, rfl, rfl, L1, rfl, b, rfl, ⟨_, L2⟩, for_tup (K := K) (a := b) (xs := nums l.st) (fun j σ Hc => ∃ v, Hc = H ∧ σ = [some (.ref a), some (.int n), some (.ref d), v]) ⟨v, rfl, rfl⟩ (fun j σ Hc _ ⟨v, e, _⟩ => by rw [e]; exact L2) ?_ ?_⟩
   ·rintro j y σ Hc hj ⟨v, rfl, rfl⟩
    have hj' : j < l.st.length := by have := (List.getElem?_eq_some_iff.mp hj).1; rwa [List.length_map] at this
    rw [xZ2 hj'] at hj
    cases hj
    have o5 : 0 ≤ l.st.getD j 0 := by
     rw [List.getD_eq_getElem?_getD, List.getElem?_eq_getElem hj']
     exact o3 _ (List.getElem_mem hj')
    refine ⟨_, rfl, _, rfl, _, rfl, iteF ?_⟩
    refine ⟨_, rfl, _, _, rfl, rfl, _, rfl, ?_⟩
    rw [decide_eq_false (by omega : ¬ l.st.getD j 0 < 0)]
    exact iteF ⟨_, rfl, rfl⟩
   ·rintro σ Hc ⟨v, rfl, rfl⟩
    exact ⟨_, _, rfl, rfl⟩
  ·rintro σ Hc ⟨u, v, rfl, rfl⟩
   exact q
end
end Of
end
namespace Of
open PySem PySem.Spec L2 L3
theorem eqv_nm (s t : Nat) (x y : Int) : PyData.eqv (nmD s x) (nmD t y) = (decide (s = t) && decide (x = y)) := by
 unfold nmD
 simp only [PyData.eqv, PyData.eqvAll]
 rw [Bool.eq_iff_iff]
 simp only [Bool.and_eq_true, beq_iff_eq, decide_eq_true_eq, and_true]
 constructor <;> rintro ⟨h1, h2⟩ <;> refine ⟨?_, ?_⟩ <;> first | omega | exact h2 | exact h2.1
def cntS (u : Nat) (ls : List Let) : Nat := (ls.filter fun l => decide (l.s = u)).length
theorem xZ5 {u : Nat} {a b : List Let} : cntS u (a ++ b) = cntS u a + cntS u b := by simp [cntS]
theorem yZ8 {u : Nat} {l : Let} : cntS u [l] = if l.s = u then 1 else 0 := by
 unfold cntS
 by_cases h : l.s = u <;> simp [h]
theorem xX7 {α : Type} {ls : List α} {j : Nat} {l : α} (h : ls[j]? = some l) : ls.take (j + 1) = ls.take j ++ [l] := by rw [List.take_succ, h]; rfl
theorem yY7 {u : Nat} {ls : List Let} {j : Nat} : ∀ d, cntS u (ls.take j) ≤ cntS u (ls.take (j + d))
 | 0 => Nat.le_refl _
 | d + 1 => by
  refine Nat.le_trans (yY7 d) ?_
  cases h : ls[j + d]? with
  | none => rw [show j + (d + 1) = j + d + 1 by omega, List.take_succ, h]; simp
  | some l => rw [show j + (d + 1) = j + d + 1 by omega, xX7 h, xZ5]; omega
structure Mail (n : Nat) (ls : List Let) : Prop where
 fit : ∀ l ∈ ls, Fit n l
 num : ∀ j l, ls[j]? = some l → xV4 l = (cntS l.s (ls.take j) : Int) + 1
 cause : ∀ j l u, ls[j]? = some l → u ≠ l.s → l.st.getD u 0 ≤ (cntS u (ls.take j) : Int)
theorem Mail.lt {n : Nat} {ls : List Let} (M : Mail n ls) {j j' : Nat} {l l' : Let} (h : ls[j]? = some l) (h' : ls[j']? = some l') (hs : l.s = l'.s) (hj : j < j') : xV4 l < xV4 l' := by
 rw [M.num j l h, M.num j' l' h', ← hs]
 have h1 := @yY7 l.s ls (j + 1) (j' - (j + 1))
 rw [show j + 1 + (j' - (j + 1)) = j' by omega, xX7 h, xZ5, yZ8, if_pos rfl] at h1
 omega
theorem Mail.inj {n : Nat} {ls : List Let} (M : Mail n ls) {l l' : Let} (h : l ∈ ls) (h' : l' ∈ ls) (hs : l.s = l'.s) (hn : xV4 l = xV4 l') : l = l' := by
 obtain ⟨j, hj⟩ := List.getElem?_of_mem h
 obtain ⟨j', hj'⟩ := List.getElem?_of_mem h'
 rcases Nat.lt_trichotomy j j' with z | z | z
 ·have := M.lt hj hj' hs z; omega
 ·subst z; rw [hj] at hj'; exact Option.some.inj hj'
 ·have := M.lt hj' hj hs.symm z; omega
def sumF (f : Let → Int) : List Let → Int
 | [] => 0
 | l :: ls => f l + sumF f ls
theorem yU0 {f : Let → Int} : ∀ {a b : List Let}, sumF f (a ++ b) = sumF f a + sumF f b
 | [], b => by simp [sumF]
 | l :: a, b => by simp only [List.cons_append, sumF, yU0 (a := a)]; omega
theorem yX9 {cs : List Int} {s u : Nat} (h : s < cs.length) : (inc cs s).getD u 0 = cs.getD u 0 + if s = u then 1 else 0 := by
 unfold inc
 rw [List.getD_eq_getElem?_getD, List.getD_eq_getElem?_getD]
 by_cases hu : s = u
 ·subst hu
  rw [List.getElem?_set_self h, if_pos rfl, List.getD_eq_getElem?_getD]
  rfl
 ·rw [List.getElem?_set_ne hu, if_neg hu, ← List.getD_eq_getElem?_getD]; omega
theorem ready_own {s : Nat} {ss cs : List Int} (h : xQ2 s ss cs = true) : ss.getD s 0 = cs.getD s 0 + 1 := by
 unfold xQ2 at h
 rw [Bool.and_eq_true] at h
 exact of_decide_eq_true h.1
theorem yQ3 {ls : List Let} {cs : List Int} {i : Nat} (h : xZ0 ls cs = some i) : ∃ l, ls[i]? = some l ∧ xQ2 l.s l.st cs = true := by
 unfold xZ0 at h
 obtain ⟨hlt, hp, _⟩ := List.findIdx?_eq_some_iff_getElem.mp h
 exact ⟨ls[i], List.getElem?_eq_getElem hlt, hp⟩
theorem Mail.nil {n : Nat} : Mail n [] := ⟨(fun _ h => nomatch h), (fun j l h => by simp at h), (fun j l u h => by simp at h)⟩
theorem Mail.snoc {n : Nat} {ls : List Let} {l : Let} (M : Mail n ls) (hf : Fit n l) (h1 : xV4 l = (cntS l.s ls : Int) + 1) (h2 : ∀ u, u ≠ l.s → l.st.getD u 0 ≤ (cntS u ls : Int)) : Mail n (ls ++ [l]) := by
 have cases_ : ∀ j x, (ls ++ [l])[j]? = some x → (ls[j]? = some x ∧ (ls ++ [l]).take j = ls.take j) ∨ (x = l ∧ (ls ++ [l]).take j = ls) := fun j x h => by
  by_cases hj : j < ls.length
  ·rw [List.getElem?_append_left hj] at h
   exact .inl ⟨h, List.take_append_of_le_length (by omega)⟩
  ·rw [List.getElem?_append_right (by omega)] at h
   have hj0 : j - ls.length = 0 := by
    have := (List.getElem?_eq_some_iff.mp h).1
    simp at this; omega
   rw [hj0] at h
   refine .inr ⟨by simpa using h.symm, ?_⟩
   have : j = ls.length := by omega
   rw [this]; simp
 refine ⟨fun x hx => ?_, fun j x h => ?_, fun j x u h hu => ?_⟩
 ·rcases List.mem_append.mp hx with z | z
  ·exact M.fit x z
  ·have : x = l := by simpa using z
   rw [this]; exact hf
 ·rcases cases_ j x h with ⟨z, e⟩ | ⟨rfl, e⟩
  ·rw [e]; exact M.num j x z
  ·rw [e]; exact h1
 ·rcases cases_ j x h with ⟨z, e⟩ | ⟨rfl, e⟩
  ·rw [e]; exact M.cause j x u z hu
  ·rw [e]; exact h2 u hu
theorem getD_set {α : Type} {xs : List α} {i u : Nat} {x d : α} (h : i < xs.length) : (xs.set i x).getD u d = if i = u then x else xs.getD u d := by
 rw [List.getD_eq_getElem?_getD]
 by_cases e : i = u
 ·subst e; rw [List.getElem?_set_self h, if_pos rfl]; rfl
 ·rw [List.getElem?_set_ne e, if_neg e, ← List.getD_eq_getElem?_getD]
end Of
namespace Of
open PySem PySem.Spec L2 L3 L4
structure Know (n : Nat) (ls got : List Let) (o : Off) : Prop where
 gm : ∀ l ∈ got, l ∈ ls
 gn : got.Nodup
 ck : o.clock.length = n
 cl : ∀ u, o.clock.getD u 0 = (cntS u got : Int)
 lo : ∀ l ∈ ls, xV4 l ≤ o.clock.getD l.s 0 ↔ l ∈ got
 tm : ∀ l ∈ o.tray, l ∈ ls ∧ l ∉ got
 tn : o.tray.Nodup
theorem Know.hand {n : Nat} {ls got : List Let} {o : Off} {i : Nat} {l : Let} (M : Mail n ls) (T : Know n ls got o) (hi : o.tray[i]? = some l) (hr : xQ2 l.s l.st o.clock = true) : Know n ls (got ++ [l]) (xW3 o i l) := by
 have hm := T.tm l (List.mem_of_getElem? hi)
 have hs : l.s < o.clock.length := by rw [T.ck]; exact (M.fit l hm.1).1
 have hn : xV4 l = o.clock.getD l.s 0 + 1 := ready_own hr
 have hc : (xW3 o i l).clock = inc o.clock l.s := rfl
 have ht : (xW3 o i l).tray = o.tray.eraseIdx i := rfl
 have hil : i < o.tray.length := (List.getElem?_eq_some_iff.mp hi).1
 refine ⟨fun x hx => ?_, ?_, by rw [hc]; unfold inc; rw [List.length_set]; exact T.ck, fun u => ?_, fun x hx => ?_, fun x hx => ?_, ?_⟩
 ·rcases List.mem_append.mp hx with z | z
  ·exact T.gm x z
  ·have : x = l := by simpa using z
   rw [this]; exact hm.1
 ·rw [List.nodup_append]
  refine ⟨T.gn, by simp, fun a ha b hb => ?_⟩
  have : b = l := by simpa using hb
  subst this
  exact fun e => hm.2 (e ▸ ha)
 ·rw [hc, yX9 hs, T.cl, xZ5, yZ8]
  split <;> simp
 ·rw [hc, yX9 hs]
  by_cases hxs : l.s = x.s
  ·rw [if_pos hxs, ← hxs]
   constructor
   ·intro h
    by_cases hle : xV4 x ≤ o.clock.getD l.s 0
    ·exact List.mem_append_left _ ((T.lo x hx).mp (by rw [← hxs]; exact hle))
    ·have : x = l := M.inj hx hm.1 hxs.symm (by omega)
     rw [this]; simp
   ·intro h
    rcases List.mem_append.mp h with z | z
    ·have := (T.lo x hx).mpr z
     rw [← hxs] at this; omega
    ·have : x = l := by simpa using z
     rw [this]; omega
  ·rw [if_neg hxs, Int.add_zero]
   rw [T.lo x hx]
   constructor
   ·exact fun h => List.mem_append_left _ h
   ·intro h
    rcases List.mem_append.mp h with z | z
    ·exact z
    ·have : x = l := by simpa using z
     exact absurd (by rw [this]) hxs
 ·rw [ht] at hx
  have hxt := List.mem_of_mem_eraseIdx hx
  refine ⟨(T.tm x hxt).1, fun z => ?_⟩
  rcases List.mem_append.mp z with z | z
  ·exact (T.tm x hxt).2 z
  ·have : x = l := by simpa using z
   subst this
   obtain ⟨k, hk⟩ := List.getElem?_of_mem hx
   rw [List.getElem?_eraseIdx] at hk
   have nd := T.tn
   rw [List.nodup_iff_pairwise_ne, List.pairwise_iff_getElem] at nd
   split at hk
   ·next hlt =>
    have hk' := List.getElem?_eq_some_iff.mp hk
    have hi' := List.getElem?_eq_some_iff.mp hi
    exact nd k i hk'.1 hi'.1 hlt (by rw [hk'.2, hi'.2])
   ·next hge =>
    have hk' := List.getElem?_eq_some_iff.mp hk
    have hi' := List.getElem?_eq_some_iff.mp hi
    exact nd i (k + 1) hi'.1 hk'.1 (by omega) (by rw [hk'.2, hi'.2])
 ·rw [ht]; exact T.tn.sublist (List.eraseIdx_sublist _ _)
theorem Know.drain {n : Nat} {ls : List Let} (M : Mail n ls) : ∀ (k : Nat) {got : List Let} {o : Off}, Know n ls got o →
  Know n ls (got ++ (drain k o).1) (drain k o).2 ∧ (∀ x, x ∈ got ∨ x ∈ o.tray → x ∈ got ++ (drain k o).1 ∨ x ∈ (drain k o).2.tray) ∧ (o.tray.length ≤ k → xZ0 (drain k o).2.tray (drain k o).2.clock = none)
 | 0, got, o, T => by
  refine ⟨by simpa [Of.drain] using T, fun x hx => by simpa [Of.drain] using hx, fun h => ?_⟩
  have : o.tray = [] := List.length_eq_zero_iff.mp (by omega)
  simp [Of.drain, this, xZ0]
 | k + 1, got, o, T => by
  cases hf : xZ0 o.tray o.clock with
  | none => simp only [Of.drain, hf]; exact ⟨by simpa using T, fun x hx => by simpa using hx, fun _ => by first | exact hf | trivial⟩
  | some i =>
   obtain ⟨l, hl, hr⟩ := yQ3 hf
   simp only [Of.drain, hf, hl]
   obtain ⟨h1, h2, h3⟩ := Know.drain M k (T.hand M hl hr)
   rw [List.append_assoc] at h1 h2
   refine ⟨h1, fun x hx => h2 x ?_, fun hk => h3 ?_⟩
   ·rcases hx with z | z
    ·exact .inl (List.mem_append_left _ z)
    ·by_cases e : x = l
     ·exact .inl (by rw [e]; simp)
     ·refine .inr ?_
      show x ∈ o.tray.eraseIdx i
      obtain ⟨j, hj⟩ := List.getElem?_of_mem z
      have hji : j ≠ i := fun q => by rw [q, hl] at hj; exact e (Option.some.inj hj).symm
      by_cases hlt : j < i
      ·exact List.mem_of_getElem? (i := j) (by rw [List.getElem?_eraseIdx, if_pos hlt]; exact hj)
      ·exact List.mem_of_getElem? (i := j - 1) (by rw [List.getElem?_eraseIdx, if_neg (by omega), show j - 1 + 1 = j by omega]; exact hj)
   ·show (o.tray.eraseIdx i).length ≤ k
    have := (List.getElem?_eq_some_iff.mp hl).1
    rw [List.length_eraseIdx_of_lt this]; omega
theorem Know.new {n : Nat} {ls got : List Let} {o : Off} {l : Let} (M : Mail n ls) (T : Know n ls got o) (hl : l ∈ ls) : newB o l = true ↔ l ∉ got ∧ l ∉ o.tray := by
 unfold newB
 rw [Bool.and_eq_true, Bool.not_eq_true', Bool.not_eq_true', decide_eq_false_iff_not, T.lo l hl]
 refine and_congr Iff.rfl ?_
 rw [List.any_eq_false]
 constructor
 ·intro h z
  refine h l z ?_
  unfold xW6; rw [eqv_nm]; simp
 ·intro h x hx
  unfold xW6
  rw [eqv_nm, Bool.and_eq_true, decide_eq_true_eq, decide_eq_true_eq]
  rintro ⟨h1, h2⟩
  exact h (M.inj (T.tm x hx).1 hl h1 h2 ▸ hx)
theorem Know.put {n : Nat} {ls got : List Let} {o : Off} {l : Let} (M : Mail n ls) (T : Know n ls got o) (hl : l ∈ ls) : Know n ls got (put o l) ∧ (l ∈ got ∨ l ∈ (put o l).tray) ∧ ∀ x ∈ o.tray, x ∈ (put o l).tray := by
 unfold Of.put
 by_cases h : newB o l = true
 ·rw [if_pos h]
  have h' := (T.new M hl).mp h
  refine ⟨⟨T.gm, T.gn, T.ck, T.cl, T.lo, fun x hx => ?_, ?_⟩, .inr (by simp), fun x hx => List.mem_append_left _ hx⟩
  ·rcases List.mem_append.mp hx with z | z
   ·exact T.tm x z
   ·have : x = l := by simpa using z
    rw [this]; exact ⟨hl, h'.1⟩
  ·show (o.tray ++ [l]).Nodup
   rw [List.nodup_append]
   refine ⟨T.tn, by simp, fun a ha b hb => ?_⟩
   have : b = l := by simpa using hb
   subst this
   exact fun e => h'.2 (e ▸ ha)
 ·rw [if_neg h]
  refine ⟨T, ?_, fun x hx => hx⟩
  by_cases h1 : l ∈ got
  ·exact .inl h1
  ·refine .inr (Classical.byContradiction fun h2 => h ((T.new M hl).mpr ⟨h1, h2⟩))
theorem Know.took {n : Nat} {ls got : List Let} {o : Off} {l : Let} (M : Mail n ls) (T : Know n ls got o) (hl : l ∈ ls) : Know n ls (got ++ (took o l).1) (took o l).2 ∧ (∀ x, (x ∈ got ∨ x ∈ o.tray ∨ x = l) → x ∈ got ++ (took o l).1 ∨ x ∈ (took o l).2.tray) ∧
  xZ0 (took o l).2.tray (took o l).2.clock = none := by
 obtain ⟨h1, h2, h3⟩ := T.put M hl
 obtain ⟨g1, g2, g3⟩ := Know.drain M (Of.put o l).tray.length h1
 refine ⟨g1, fun x hx => g2 x ?_, g3 (Nat.le_refl _)⟩
 rcases hx with z | z | z
 ·exact .inl z
 ·exact .inr (h3 x z)
 ·rw [z]; exact h2
theorem vW9 {α : Type} [DecidableEq α] : ∀ {a b : List α}, a.Nodup → (∀ x ∈ a, x ∈ b) → a.length ≤ b.length
 | [], b, _, _ => Nat.zero_le _
 | x :: a, b, h, hs => by
  have hx := hs x List.mem_cons_self
  have := vW9 (a := a) (b := b.erase x) (List.nodup_cons.mp h).2 fun y hy => (List.mem_erase_of_ne (fun e => (List.nodup_cons.mp h).1 (by rw [← e]; exact hy))).mpr (hs y (List.mem_cons_of_mem _ hy))
  rw [List.length_erase_of_mem hx] at this
  have := List.length_pos_of_mem hx
  rw [List.length_cons]; omega
theorem yZ9 {u : Nat} {a b : List Let} (h : a.Nodup) (hs : ∀ x ∈ a, x ∈ b) : cntS u a ≤ cntS u b := by
 unfold cntS
 refine vW9 (h.filter _) fun x hx => ?_
 rw [List.mem_filter] at hx ⊢
 exact ⟨hs x hx.1, hx.2⟩
theorem Mail.nodup {n : Nat} {ls : List Let} (M : Mail n ls) : ls.Nodup := by
 rw [List.nodup_iff_pairwise_ne, List.pairwise_iff_getElem]
 intro i j hi hj hij e
 have := M.lt (List.getElem?_eq_getElem hi) (List.getElem?_eq_getElem hj) (by rw [e]) hij
 rw [e] at this
 omega
theorem drain_book : ∀ (k : Nat) (o : Off), (drain k o).2.book.length = o.book.length + (drain k o).1.length ∧ (drain k o).2.kept.length ≤ o.kept.length + (drain k o).1.length ∧ (drain k o).2.num = o.num
 | 0, o => ⟨by simp [drain], by simp [drain], rfl⟩
 | k + 1, o => by
  cases hf : xZ0 o.tray o.clock with
  | none => simp [drain, hf]
  | some i =>
   cases hl : o.tray[i]? with
   | none => simp [drain, hf, hl]
   | some l =>
    obtain ⟨h1, h2, h3⟩ := drain_book k (xW3 o i l)
    have b1 : (xW3 o i l).book.length = o.book.length + 1 := by show (o.book ++ [_]).length = _; rw [List.length_append]; rfl
    have b2 : (xW3 o i l).kept.length ≤ o.kept.length + 1 := by
     show (if l.w = .cut then o.kept ++ [_] else o.kept : List PyData).length ≤ _
     split
     ·rw [List.length_append]; exact Nat.le_refl _
     ·omega
    simp only [drain, hf, hl, List.length_cons]
    exact ⟨by omega, by omega, h3⟩
theorem took_book (o : Off) (l : Let) : (took o l).2.book.length = o.book.length + (took o l).1.length ∧ (took o l).2.kept.length ≤ o.kept.length + (took o l).1.length ∧ (took o l).2.num = o.num := by
 have h := drain_book (put o l).tray.length (put o l)
 have e : (put o l).book = o.book ∧ (put o l).kept = o.kept ∧ (put o l).num = o.num := by unfold put; split <;> exact ⟨rfl, rfl, rfl⟩
 unfold took
 rw [e.1, e.2.1, e.2.2] at h
 exact h
theorem yW1 : ∀ (ls : List Let) (o : Off), (xU0 o ls).2.book.length = o.book.length + (xU0 o ls).1.flatten.length ∧ (xU0 o ls).2.kept.length ≤ o.kept.length + (xU0 o ls).1.flatten.length ∧ (xU0 o ls).2.num = o.num
 | [], o => by simp [xU0]
 | l :: ls, o => by
  obtain ⟨h1, h2, h3⟩ := took_book o l
  obtain ⟨g1, g2, g3⟩ := yW1 ls (took o l).2
  simp only [xU0, List.flatten_cons, List.length_append]
  exact ⟨by omega, by omega, g3.trans h3⟩
inductive Deed where
 | pay (who : Nat) (to many : Int)
 | cut (who : Nat)
 | carry (which : Int) (to : Nat)
 | bring (to : Nat)
inductive Ans where
 | no
 | name (l : Let)
 | names (ls : List Let)
structure Ev where
 sent : Bool
 u : Nat
 l : Let
structure Crs where
 offs : List Off
 lets : List Let
 evs : List Ev
 ans : List Ans
def vW6 : Off := ⟨0, 0, [], [], [], []⟩
def Crs.off (c : Crs) (u : Nat) : Off := c.offs.getD u vW6
def yX6 : Deed → PyData
 | .pay w t m => .tuple [.str "pay", .int w, .int t, .int m]
 | .cut w => .tuple [.str "cut", .int w]
 | .carry k t => .tuple [.str "carry", .int k, .int t]
 | .bring t => .tuple [.str "bring", .int t]
def evD (e : Ev) : PyData := .tuple [.str (if e.sent = true then "sent" else "got"), .int e.u, xW6 e.l]
def yY3 (c : Crs) (w : Nat) (x : What) : Ans × Crs := match (sent1 w (c.off w) x).1 with
 | some l => (.name l, { c with offs := c.offs.set w (sent1 w (c.off w) x).2, lets := c.lets ++ [l], evs := c.evs ++ [⟨true, w, l⟩] })
 | none => (.no, c)
def xZ8 (c : Crs) (t : Nat) (ls : List Let) : Ans × Crs := (.names (xU0 (c.off t) ls).1.flatten, { c with offs := c.offs.set t (xU0 (c.off t) ls).2, evs := c.evs ++ (xU0 (c.off t) ls).1.flatten.map fun l => ⟨false, t, l⟩ })
def yU6 (c : Crs) (k : Int) : Option Let := if 0 ≤ k then c.lets[k.toNat]? else none
def answer (c : Crs) : Deed → Ans × Crs
 | .pay w t m => yY3 c w (.pay t m)
 | .cut w => yY3 c w .cut
 | .carry k t => match yU6 c k with
  | some l => xZ8 c t [l]
  | none => (.no, c)
 | .bring t => xZ8 c t c.lets.reverse
def doC (c : Crs) (d : Deed) : Crs := { (answer c d).2 with ans := (answer c d).2.ans ++ [(answer c d).1] }
def runC (c : Crs) (ds : List Deed) : Crs := ds.foldl doC c
theorem runC_snoc {c : Crs} {ds : List Deed} {d : Deed} : runC c (ds ++ [d]) = doC (runC c ds) d := by unfold runC; rw [List.foldl_append]; rfl
structure OffW (n u : Nat) (ls : List Let) (o : Off) : Prop where
 ex : ∃ kn, Know n ls kn o ∧ (∀ l ∈ ls, l.s = u → l ∈ kn) ∧ o.book.length = kn.length ∧ o.kept.length ≤ kn.length
 num : o.num = (u : Int)
 tr : ∀ l ∈ o.tray, l.s ≠ u
structure Wd (n : Nat) (c : Crs) : Prop where
 ml : Mail n c.lets
 ln : c.offs.length = n
 of : ∀ u, u < n → OffW n u c.lets (c.off u)
theorem OffW.sizes {n u : Nat} {ls : List Let} {o : Off} (h : OffW n u ls o) (M : Mail n ls) : o.clock.length = n ∧ o.book.length ≤ ls.length ∧ o.kept.length ≤ ls.length ∧ o.tray.length ≤ ls.length ∧ o.book.length + o.tray.length ≤ ls.length ∧ o.kept.length + o.tray.length ≤ ls.length ∧ ∀ l ∈ o.tray, Fit n l := by
 obtain ⟨⟨kn, K, h1, h2, h3⟩, _, _⟩ := h
 have hk : (kn ++ o.tray).Nodup := by
  rw [List.nodup_append]
  exact ⟨K.gn, K.tn, fun a ha b hb e => (K.tm b hb).2 (e ▸ ha)⟩
 have hl := vW9 hk fun x hx => by
  rcases List.mem_append.mp hx with z | z
  ·exact K.gm x z
  ·exact (K.tm x z).1
 rw [List.length_append] at hl
 exact ⟨K.ck, by omega, by omega, by omega, by omega, by omega, fun l hl => M.fit l (K.tm l hl).1⟩
theorem yW3 {c : Crs} {w u : Nat} {o : Off} (h : w < c.offs.length) : (c.offs.set w o).getD u vW6 = if w = u then o else c.off u := getD_set h
theorem Wd.bring {n t : Nat} {c : Crs} {ls : List Let} (h : Wd n c) (ht : t < n) (hs : ∀ l ∈ ls, l ∈ c.lets) : Wd n (xZ8 c t ls).2 := by
 refine ⟨h.ml, by show (c.offs.set _ _).length = n; rw [List.length_set]; exact h.ln, fun u hu => ?_⟩
 show OffW n u c.lets ((c.offs.set t (xU0 (c.off t) ls).2).getD u vW6)
 rw [yW3 (by rw [h.ln]; exact ht)]
 by_cases e : t = u
 ·subst e
  rw [if_pos rfl]
  obtain ⟨⟨kn, K, h1, h2, h3⟩, hn, htr⟩ := h.of t hu
  obtain ⟨b1, b2, b3⟩ := yW1 ls (c.off t)
  have key : ∀ (ls : List Let) {kn : List Let} {o : Off}, Know n c.lets kn o → (∀ l ∈ ls, l ∈ c.lets) → (∀ l ∈ c.lets, l.s = t → l ∈ kn) → Know n c.lets (kn ++ (xU0 o ls).1.flatten) (xU0 o ls).2 := by
   intro ls
   induction ls with
   | nil => intro kn o K _ _; simpa [xU0] using K
   | cons l ls ih =>
    intro kn o K hs hk
    obtain ⟨g1, g2, g3⟩ := K.took h.ml (hs l List.mem_cons_self)
    have := ih g1 (fun x hx => hs x (List.mem_cons_of_mem _ hx)) (fun x hx e => List.mem_append_left _ (hk x hx e))
    simp only [xU0, List.flatten_cons]
    rw [List.append_assoc] at this
    exact this
  have K2 := key ls K hs h1
  refine ⟨⟨_, K2, fun l hl e => List.mem_append_left _ (h1 l hl e), by rw [b1, h2, List.length_append], by rw [List.length_append]; omega⟩, b3.trans hn, fun l hl e => ?_⟩
  exact (K2.tm l hl).2 (List.mem_append_left _ (h1 l (K2.tm l hl).1 e))
 ·rw [if_neg e]
  exact h.of u hu
theorem Wd.send {n w : Nat} {c : Crs} {x : What} (h : Wd n c) (hw : w < n) : Wd n (yY3 c w x).2 := by
 unfold yY3
 by_cases hc : canPay (c.off w) x = true
 ·have e : sent1 w (c.off w) x = (some (xX3 (c.off w) w x), yX7 (payO (c.off w) x) w x) := if_pos hc
  rw [e]
  dsimp only
  obtain ⟨⟨kn, K, h1, h2, h3⟩, hn, htr⟩ := h.of w hw
  have hwl : w < (c.off w).clock.length := by rw [K.ck]; exact hw
  have hI : ∀ v, (inc (c.off w).clock w).getD v 0 = (c.off w).clock.getD v 0 + if w = v then 1 else 0 := fun v => yX9 hwl
  have hsame : cntS w kn = cntS w c.lets := by
   refine Nat.le_antisymm (yZ9 K.gn K.gm) ?_
   unfold cntS
   refine vW9 (h.ml.nodup.filter _) fun y hy => ?_
   rw [List.mem_filter] at hy ⊢
   exact ⟨h1 y hy.1 (of_decide_eq_true hy.2), hy.2⟩
  have hname : xV4 (xX3 (c.off w) w x) = (cntS w c.lets : Int) + 1 := by
   show (inc (c.off w).clock w).getD w 0 = _
   rw [hI, if_pos rfl, K.cl, hsame]
  have hM : Mail n (c.lets ++ [xX3 (c.off w) w x]) := by
   refine h.ml.snoc ⟨hw, by show (inc _ _).length = n; unfold inc; rw [List.length_set]; exact K.ck⟩ hname fun u hu => ?_
   show (inc (c.off w).clock w).getD u 0 ≤ _
   rw [hI, if_neg (fun e => hu e.symm), K.cl]
   have := yZ9 (u := u) K.gn K.gm
   omega
  have hnew : xX3 (c.off w) w x ∉ c.lets := fun z => by
   obtain ⟨j, hj⟩ := List.getElem?_of_mem z
   have h1 := h.ml.num j _ hj
   have h2 := @yY7 w c.lets j (c.lets.length - j)
   have h3 := (List.getElem?_eq_some_iff.mp hj).1
   rw [show j + (c.lets.length - j) = c.lets.length by omega, List.take_length] at h2
   have h4 := @yY7 w c.lets (j + 1) (c.lets.length - (j + 1))
   rw [show j + 1 + (c.lets.length - (j + 1)) = c.lets.length by omega, List.take_length, xX7 hj, xZ5, yZ8, if_pos (show (xX3 (c.off w) w x).s = w from rfl)] at h4
   rw [hname] at h1
   have : (xX3 (c.off w) w x).s = w := rfl
   rw [this] at h1
   omega
  refine ⟨hM, by rw [List.length_set]; exact h.ln, fun u hu => ?_⟩
  show OffW n u _ ((c.offs.set w _).getD u vW6)
  rw [yW3 (by rw [h.ln]; exact hw)]
  by_cases eu : w = u
  ·subst eu
   rw [if_pos rfl]
   obtain ⟨p1, p2, p3, p4, p5⟩ := payO_book (c.off w) x
   have ec : (yX7 (payO (c.off w) x) w x).clock = inc (c.off w).clock w := by show inc (payO (c.off w) x).clock w = _; rw [p3]
   have et : (yX7 (payO (c.off w) x) w x).tray = (c.off w).tray := p5
   have eb : (yX7 (payO (c.off w) x) w x).book.length = (c.off w).book.length + 1 := by show ((payO (c.off w) x).book ++ [_]).length = _; rw [List.length_append, p1]; rfl
   have ek : (yX7 (payO (c.off w) x) w x).kept.length ≤ (c.off w).kept.length + 1 := by
    show (if x = .cut then (payO (c.off w) x).kept ++ [_] else (payO (c.off w) x).kept : List PyData).length ≤ _
    split
    ·rw [List.length_append, p2]; exact Nat.le_refl _
    ·rw [p2]; omega
   refine ⟨⟨kn ++ [xX3 (c.off w) w x], ⟨fun l hl => ?_, ?_, ?_, fun v => ?_, fun l hl => ?_, fun l hl => ?_, ?_⟩, fun l hl e => ?_, by rw [eb, h2, List.length_append]; rfl, by rw [List.length_append]; show _ ≤ kn.length + 1; omega⟩, p4.trans hn, fun l hl => htr l (by rw [et] at hl; exact hl)⟩
   ·rcases List.mem_append.mp hl with z | z
    ·exact List.mem_append_left _ (K.gm l z)
    ·exact List.mem_append_right _ z
   ·rw [List.nodup_append]
    refine ⟨K.gn, by simp, fun a ha b hb e => ?_⟩
    have : b = xX3 (c.off w) w x := by simpa using hb
    rw [e, this] at ha
    exact hnew (K.gm _ ha)
   ·rw [ec]; unfold inc; rw [List.length_set]; exact K.ck
   ·rw [ec, hI, K.cl, xZ5, yZ8]
    show _ = ((cntS v kn + if w = v then 1 else 0 : Nat) : Int)
    split <;> simp
   ·rw [ec, hI]
    rcases List.mem_append.mp hl with z | z
    ·have hle := K.lo l z
     have nl : l ≠ xX3 (c.off w) w x := fun e => hnew (e ▸ z)
     by_cases es : w = l.s
     ·rw [if_pos es]
      have hin := h1 l z es.symm
      have := hle.mpr hin
      exact ⟨fun _ => List.mem_append_left _ hin, fun _ => by omega⟩
     ·rw [if_neg es, Int.add_zero, hle]
      constructor
      ·exact fun q => List.mem_append_left _ q
      ·intro q
       rcases List.mem_append.mp q with q | q
       ·exact q
       ·exact absurd (by simpa using q) nl
    ·have : l = xX3 (c.off w) w x := by simpa using z
     subst this
     refine ⟨fun _ => List.mem_append_right _ z, fun _ => ?_⟩
     rw [hname]
     show _ ≤ (c.off w).clock.getD w 0 + if w = w then 1 else 0
     rw [if_pos rfl, K.cl, hsame]; omega
   ·rw [et] at hl
    obtain ⟨q1, q2⟩ := K.tm l hl
    refine ⟨List.mem_append_left _ q1, fun q => ?_⟩
    rcases List.mem_append.mp q with q | q
    ·exact q2 q
    ·exact hnew ((show l = xX3 (c.off w) w x by simpa using q) ▸ q1)
   ·rw [et]; exact K.tn
   ·rcases List.mem_append.mp hl with z | z
    ·exact List.mem_append_left _ (h1 l z e)
    ·exact List.mem_append_right _ z
  ·rw [if_neg eu]
   obtain ⟨⟨kn', K', g1, g2, g3⟩, hn', htr'⟩ := h.of u hu
   refine ⟨⟨kn', ⟨fun l hl => List.mem_append_left _ (K'.gm l hl), K'.gn, K'.ck, K'.cl, fun l hl => ?_, fun l hl => ⟨List.mem_append_left _ (K'.tm l hl).1, (K'.tm l hl).2⟩, K'.tn⟩, fun l hl e => ?_, g2, g3⟩, hn', htr'⟩
   ·rcases List.mem_append.mp hl with z | z
    ·exact K'.lo l z
    ·have : l = xX3 (c.off w) w x := by simpa using z
     subst this
     constructor
     ·intro q
      rw [hname] at q
      have q : (cntS w c.lets : Int) + 1 ≤ (c.off u).clock.getD w 0 := q
      rw [K'.cl] at q
      have := yZ9 (u := w) K'.gn K'.gm
      omega
     ·intro q; exact absurd (K'.gm _ q) hnew
   ·rcases List.mem_append.mp hl with z | z
    ·exact g1 l z e
    ·have : l = xX3 (c.off w) w x := by simpa using z
     rw [this] at e
     exact absurd e eu
 ·have e : sent1 w (c.off w) x = (none, c.off w) := if_neg hc
  rw [e]
  exact h
def xQ7 (n : Nat) : Deed → Prop
 | .pay w t m => w < n ∧ okWhat w n (.pay t m)
 | .cut w => w < n
 | .carry _ t => t < n
 | .bring t => t < n
theorem Wd.deed {n : Nat} {c : Crs} {d : Deed} (h : Wd n c) (hd : xQ7 n d) : Wd n (answer c d).2 := by
 cases d with
 | pay w t m => exact h.send hd.1
 | cut w => exact h.send hd
 | carry k t =>
  cases e : yU6 c k with
  | none => simp only [answer, e]; exact h
  | some l =>
   simp only [answer, e]
   refine h.bring hd fun x hx => ?_
   have : x = l := by simpa using hx
   subst this
   unfold yU6 at e
   split at e
   ·exact List.mem_of_getElem? e
   ·cases e
 | bring t => exact h.bring hd fun x hx => List.mem_reverse.mp hx
theorem Wd.do {n : Nat} {c : Crs} {d : Deed} (h : Wd n c) (hd : xQ7 n d) : Wd n (doC c d) := let g := h.deed hd; ⟨g.ml, g.ln, g.of⟩
end Of
namespace Of
open PySem L2 L3 L4
structure Adr where
 q : Addr
 dx : Addr
 lo : Addr
 ll : Addr
 le : Addr
 la : Addr
 ps : List Addr
def cfl (lo ll le la : Addr) : List (Str × V) := [("offices", .ref lo), ("letters", .ref ll), ("events", .ref le), ("answers", .ref la)]
def Adr.own (A : Adr) (b : Addr) : Prop := b ∈ A.ps ∨ b = A.ll ∨ b = A.le ∨ b = A.la
def Adr.lists (A : Adr) (b : Addr) : Prop := b = A.lo ∨ b = A.ll ∨ b = A.le ∨ b = A.la
def AnsV (K : PySem.W.Frag) (H : Hp) (A : Adr) : Ans → V → Prop
 | .no, v => v = .non
 | .name l, v => NmV H l v
 | .names ls, v => ∃ b xs, v = .ref b ∧ ¬ A.own b ∧ H b = some (.lst xs) ∧ All2 (NmV H) ls xs
def AnsL (K : PySem.W.Frag) (H : Hp) (A : Adr) : List Ans → List V → Prop
 | [], ys => ys = []
 | a :: as, ys => ∃ y r, ys = y :: r ∧ AnsV K H A a y ∧ AnsL K H A as r
def Out (A : Adr) (H H' : Hp) : Prop := ∀ b o, H b = some o → ¬ A.own b → H' b = some o
theorem Out.refl {A : Adr} {H : Hp} : Out A H H := fun _ _ h _ => h
theorem Out.trans {A : Adr} {H H1 H2 : Hp} (a : Out A H H1) (b : Out A H1 H2) : Out A H H2 := fun c o h n => b c o (a c o h n) n
theorem yV7 {A : Adr} {H H' : Hp} (e : Same H H') : Out A H H' := fun c o h _ => e c o h
section
variable {K : PySem.W.Frag} {C CC : Addr} {H H' : Hp} {A : Adr} {c : Crs} {xl xe xa : List V} {p : Addr}
theorem AnsV.out (o : Out A H H') (im : Imm H H') : ∀ {a : Ans} {v : V}, AnsV K H A a v → AnsV K H' A a v
 | .no, v, h => h
 | .name l, v, h => NmV.imm im h
 | .names ls, v, ⟨b, xs, e, n, h1, h2⟩ => ⟨b, xs, e, n, o _ _ h1 n, NmVs.imm im h2⟩
theorem AnsL.out (o : Out A H H') (im : Imm H H') : ∀ {as : List Ans} {ys : List V}, AnsL K H A as ys → AnsL K H' A as ys
 | [], _, h => h
 | a :: as, ys, ⟨y, r, e, h1, h2⟩ => ⟨y, r, e, h1.out o im, AnsL.out o im h2⟩
theorem AnsL.snoc {a : Ans} {v : V} (h : AnsV K H A a v) : ∀ {as : List Ans} {ys : List V}, AnsL K H A as ys → AnsL K H A (as ++ [a]) (ys ++ [v])
 | [], ys, e => by
  have : ys = [] := e
  subst this
  exact ⟨v, [], rfl, h, rfl⟩
 | b :: as, ys, ⟨y, r, e, h1, h2⟩ => by subst e; exact ⟨y, r ++ [v], rfl, h1, AnsL.snoc h h2⟩
theorem AnsL.len : ∀ {as : List Ans} {ys : List V}, AnsL K H A as ys → ys.length = as.length
 | [], ys, e => by
  have : ys = [] := e
  subst this; rfl
 | b :: as, ys, ⟨y, r, e, h1, h2⟩ => by subst e; simp only [List.length_cons, AnsL.len h2]
theorem OffAt.keep {o : Off} (h : OffAt K C H p o) (im : Imm H H') (hp : ∀ u, H p = some u → H' p = some u) (hl : ∀ b xs, Refs (H p) b → H b = some (.lst xs) → H' b = some (.lst xs)) : OffAt K C H' p o := by
 obtain ⟨⟨dx, cl, lb, lt, lk, bs, ts, ks, h1, h2, h3, h4, h5, h6, h7, h8⟩, nb, nk⟩ := h
 have r : ∀ b, b = lb ∨ b = lt ∨ b = lk → Refs (H p) b := fun b hb => by rw [h1, xX2]; exact hb
 exact ⟨⟨dx, cl, lb, lt, lk, bs, ts, ks, hp _ h1, im.sqT h2, hl _ _ (r _ (.inl rfl)) h3, xU3.imm im _ _ nb h4, hl _ _ (r _ (.inr (.inl rfl))) h5, xU3.imm im _ _ (xX8 _) h6, hl _ _ (r _ (.inr (.inr rfl))) h7, xU3.imm im _ _ nk h8⟩, nb, nk⟩
theorem OffAt.ins {o : Off} (h : OffAt K C H p o) : ∃ dx fs, H p = some (.ins C dx fs) ∧ fs.length = 6 := by
 obtain ⟨⟨dx, cl, lb, lt, lk, bs, ts, ks, h1, _⟩, _, _⟩ := h
 exact ⟨dx, _, h1, rfl⟩
def EvV (H : Hp) (e : Ev) (v : V) : Prop := ∃ b c, v = .ref b ∧ H b = some (.tup [.str (if e.sent = true then "sent" else "got"), .int e.u, .ref c]) ∧ H c = some (.tup [.int e.l.s, .int (xV4 e.l)])
theorem EvV.imm {H H' : Hp} (im : Imm H H') {e : Ev} {v : V} : EvV H e v → EvV H' e v
 | ⟨b, c, e1, h1, h2⟩ => ⟨b, c, e1, im.tup _ _ h1, im.tup _ _ h2⟩
theorem EvVs.imm {H H' : Hp} (im : Imm H H') {es : List Ev} {xs : List V} (h : All2 (EvV H) es xs) : All2 (EvV H') es xs := h.mono fun _ _ => EvV.imm im
theorem EvV.rep {K : PySem.W.Frag} {H : Hp} {e : Ev} {v : V} : EvV H e v → RepD K H (evD e) v
 | ⟨b, c, e1, h1, h2⟩ => by
  subst e1
  unfold evD xW6 nmD
  simp only [RepD, xU3]
  exact ⟨b, _, rfl, SqT.of h1, _, _, rfl, rfl, _, _, rfl, rfl, _, _, rfl, ⟨c, _, rfl, SqT.of h2, _, _, rfl, rfl, _, _, rfl, rfl, rfl⟩, rfl⟩
theorem EvVs.reps {K : PySem.W.Frag} {H : Hp} {es : List Ev} {xs : List V} (h : All2 (EvV H) es xs) : xU3 K H (es.map evD) xs := All2.reps (f := evD) (fun _ _ q => EvV.rep q) h
structure CrsX (K : PySem.W.Frag) (C CC : Addr) (H : Hp) (A : Adr) (c : Crs) (xl xe xa : List V) : Prop where
 ob : H A.q = some (.ins CC A.dx (cfl A.lo A.ll A.le A.la))
 ho : H A.lo = some (.lst (A.ps.map V.ref))
 nd : A.ps.Nodup
 pl : A.ps.length = c.offs.length
 hl : H A.ll = some (.lst xl)
 rl : xU3 K H (c.lets.map letD) xl
 he : H A.le = some (.lst xe)
 re : All2 (EvV H) c.evs xe
 ha : H A.la = some (.lst xa)
 ra : AnsL K H A c.ans xa
 of : ∀ (u : Nat) p, A.ps[u]? = some p → OffAt K C H p (c.off u)
 nr : ∀ p ∈ A.ps, ∀ b, Refs (H p) b → ¬ A.lists b
 n1 : A.lo ≠ A.ll
 n2 : A.lo ≠ A.le
 n3 : A.lo ≠ A.la
 n4 : A.ll ≠ A.le
 n5 : A.ll ≠ A.la
 n6 : A.le ≠ A.la
theorem CrsX.ofM (h : CrsX K C CC H A c xl xe xa) {p : Addr} (hp : p ∈ A.ps) : ∃ u, A.ps[u]? = some p ∧ OffAt K C H p (c.off u) := by
 obtain ⟨u, hu⟩ := List.getElem?_of_mem hp
 exact ⟨u, hu, h.of u p hu⟩
theorem CrsX.nq (h : CrsX K C CC H A c xl xe xa) : A.q ∉ A.ps := fun z => by
 obtain ⟨u, _, o⟩ := h.ofM z
 obtain ⟨dx, fs, e, l⟩ := o.ins
 rw [h.ob] at e
 injection e with e
 injection e with _ _ e
 rw [← e] at l
 exact absurd l (by show ¬ 4 = 6; decide)
theorem CrsX.np (h : CrsX K C CC H A c xl xe xa) {b : Addr} {ys : List V} (hb : H b = some (.lst ys)) : b ∉ A.ps := fun z => by
 obtain ⟨u, _, o⟩ := h.ofM z
 obtain ⟨dx, fs, e, l⟩ := o.ins
 rw [hb] at e; cases e
theorem CrsX.nql (h : CrsX K C CC H A c xl xe xa) : ¬ A.own A.q := fun z => by
 rcases z with z | z | z | z
 ·exact h.nq z
 ·have := h.hl; rw [← z, h.ob] at this; cases this
 ·have := h.he; rw [← z, h.ob] at this; cases this
 ·have := h.ha; rw [← z, h.ob] at this; cases this
theorem CrsX.nlo (h : CrsX K C CC H A c xl xe xa) : ¬ A.own A.lo := fun z => by
 rcases z with z | z | z | z
 ·exact h.np h.ho z
 ·exact h.n1 z
 ·exact h.n2 z
 ·exact h.n3 z
theorem CrsX.own (h : CrsX K C CC H A c xl xe xa) {b : Addr} (ho : A.own b) : ∃ o, H b = some o := by
 rcases ho with z | z | z | z
 ·obtain ⟨u, _, o⟩ := h.ofM z
  obtain ⟨dx, fs, e, l⟩ := o.ins
  exact ⟨_, e⟩
 ·exact ⟨_, by rw [z]; exact h.hl⟩
 ·exact ⟨_, by rw [z]; exact h.he⟩
 ·exact ⟨_, by rw [z]; exact h.ha⟩
theorem CrsX.fresh (h : CrsX K C CC H A c xl xe xa) {b : Addr} (hb : H b = none) : ¬ A.own b := fun z => by
 obtain ⟨o, e⟩ := h.own z
 rw [hb] at e; cases e
theorem CrsX.same (h : CrsX K C CC H A c xl xe xa) (e : Same H H') : CrsX K C CC H' A c xl xe xa :=
 ⟨e _ _ h.ob, e _ _ h.ho, h.nd, h.pl, e _ _ h.hl, xU3.same e _ _ h.rl, e _ _ h.he, EvVs.imm e.imm h.re, e _ _ h.ha, h.ra.out (yV7 e) e.imm, fun u p hu => (h.of u p hu).same e,
  fun p hp b hb => by
   obtain ⟨u, hu, o⟩ := h.ofM hp
   obtain ⟨dx, fs, e1, l⟩ := o.ins
   refine h.nr p hp b ?_
   rw [e _ _ e1] at hb
   rw [e1]; exact hb, h.n1, h.n2, h.n3, h.n4, h.n5, h.n6⟩
theorem CrsX.office (h : CrsX K C CC H A c xl xe xa) {u : Nat} {o : Off} (hu : A.ps[u]? = some p) (x : SameX p H H') (O : OffAt K C H' p o) : CrsX K C CC H' A { c with offs := c.offs.set u o } xl xe xa ∧ Out A H H' := by
 obtain ⟨dx, fs, e1, l⟩ := (h.of u p hu).ins
 have hp : p ∈ A.ps := List.mem_of_getElem? hu
 have out : Out A H H' := fun b ob hb nb => x.keep b ob hb fun e => nb (.inl (e ▸ hp))
 have im := x.imm e1
 have hul : u < c.offs.length := by rw [← h.pl]; exact (List.getElem?_eq_some_iff.mp hu).1
 have hn : ∀ v p', A.ps[v]? = some p' → p' = p → v = u := fun v p' hv e => by
  subst e
  have nd := h.nd
  rw [List.nodup_iff_pairwise_ne, List.pairwise_iff_getElem] at nd
  have hv' := List.getElem?_eq_some_iff.mp hv
  have hu' := List.getElem?_eq_some_iff.mp hu
  rcases Nat.lt_trichotomy v u with z | z | z
  ·exact absurd (hv'.2.trans hu'.2.symm) (nd v u hv'.1 hu'.1 z)
  ·exact z
  ·exact absurd (hu'.2.trans hv'.2.symm) (nd u v hu'.1 hv'.1 z)
 refine ⟨⟨out _ _ h.ob h.nql, out _ _ h.ho h.nlo, h.nd, by rw [List.length_set]; exact h.pl, x.lst e1 h.hl, xU3.imm im _ _ (xX8 _) h.rl, x.lst e1 h.he, EvVs.imm im h.re, x.lst e1 h.ha, h.ra.out out im, fun v p' hv => ?_, fun p' hp' b hb => ?_, h.n1, h.n2, h.n3, h.n4, h.n5, h.n6⟩, out⟩
 ·show OffAt K C H' p' ((c.offs.set u o).getD v vW6)
  rw [yW3 hul]
  by_cases e : u = v
  ·subst e
   rw [if_pos rfl]
   rw [hu] at hv
   cases hv
   exact O
  ·rw [if_neg e]
   have ne : p' ≠ p := fun z => e (hn v p' hv z).symm
   exact (h.of v p' hv).keep im (fun w hw => x.keep _ _ hw ne) fun b xs _ hb => x.lst e1 hb
 ·by_cases e : p' = p
  ·subst e
   rcases x.refs b hb with z | z
   ·exact h.nr p' hp' b z
   ·rintro (q | q | q | q)
    ·rw [q, h.ho] at z; cases z
    ·rw [q, h.hl] at z; cases z
    ·rw [q, h.he] at z; cases z
    ·rw [q, h.ha] at z; cases z
  ·obtain ⟨v, hv, o'⟩ := h.ofM hp'
   obtain ⟨dx', fs', e', l'⟩ := o'.ins
   refine h.nr p' hp' b ?_
   rw [x.keep _ _ e' e] at hb
   rw [e']; exact hb
theorem CrsX.lst (h : CrsX K C CC H A c xl xe xa) {b : Addr} {xs ys : List V} (hb : H b = some (.lst xs)) (hw : A.lists b) : (∀ (u : Nat) p, A.ps[u]? = some p → OffAt K C (upd H b (.lst ys)) p (c.off u)) ∧ (∀ p ∈ A.ps, ∀ d, Refs ((upd H b (.lst ys)) p) d → ¬ A.lists d) ∧ (upd H b (.lst ys)) A.q = H A.q := by
 have nb := h.np hb
 refine ⟨fun u p hu => ?_, fun p hp d hd => ?_, xU2 fun e => ?_⟩
 ·have hp := List.mem_of_getElem? hu
  have ne : p ≠ b := fun e => nb (e ▸ hp)
  refine (h.of u p hu).keep (xX5 hb) (fun w hw => (xU2 ne).trans hw) fun d zs hd hz => ?_
  refine (xU2 fun e => h.nr p hp d hd ?_).trans hz
  rw [e]; exact hw
 ·have ne : p ≠ b := fun e => nb (e ▸ hp)
  rw [xU2 ne] at hd
  exact h.nr p hp d hd
 ·rw [← e, h.ob] at hb; cases hb
theorem out_own {b : Addr} {o : HO} (h : A.own b) : Out A H (upd H b o) := fun d ob hd nd => (xU2 fun e => nd (by rw [e]; exact h)).trans hd
theorem CrsX.letter (h : CrsX K C CC H A c xl xe xa) {l : Let} {v : V} (hv : RepD K H (letD l) v) : CrsX K C CC (upd H A.ll (.lst (xl ++ [v]))) A { c with lets := c.lets ++ [l] } (xl ++ [v]) xe xa ∧ Out A H (upd H A.ll (.lst (xl ++ [v]))) := by
 have out : Out A H (upd H A.ll (.lst (xl ++ [v]))) := out_own (.inr (.inl rfl))
 have im := xX5 (ys := xl ++ [v]) h.hl
 obtain ⟨g1, g2, g3⟩ := h.lst (ys := xl ++ [v]) h.hl (.inr (.inl rfl))
 refine ⟨⟨g3.trans h.ob, (xU2 h.n1).trans h.ho, h.nd, h.pl, xU9, ?_, (xU2 h.n4.symm).trans h.he, EvVs.imm im h.re, (xU2 h.n5.symm).trans h.ha, h.ra.out out im, g1, g2, h.n1, h.n2, h.n3, h.n4, h.n5, h.n6⟩, out⟩
 rw [List.map_append, List.map_singleton]
 exact xU3.imm im _ _ (by rw [← List.map_singleton, ← List.map_append]; exact xX8 _) (xY7 h.rl (yW9 hv))
theorem CrsX.events (h : CrsX K C CC H A c xl xe xa) {es : List Ev} {vs : List V} (hv : All2 (EvV H) es vs) : CrsX K C CC (upd H A.le (.lst (xe ++ vs))) A { c with evs := c.evs ++ es } xl (xe ++ vs) xa ∧ Out A H (upd H A.le (.lst (xe ++ vs))) := by
 have out : Out A H (upd H A.le (.lst (xe ++ vs))) := out_own (.inr (.inr (.inl rfl)))
 have im := xX5 (ys := xe ++ vs) h.he
 obtain ⟨g1, g2, g3⟩ := h.lst (ys := xe ++ vs) h.he (.inr (.inr (.inl rfl)))
 refine ⟨⟨g3.trans h.ob, (xU2 h.n2).trans h.ho, h.nd, h.pl, (xU2 h.n4).trans h.hl, xU3.imm im _ _ (xX8 _) h.rl, xU9, ?_, (xU2 h.n6.symm).trans h.ha, h.ra.out out im, g1, g2, h.n1, h.n2, h.n3, h.n4, h.n5, h.n6⟩, out⟩
 exact EvVs.imm im (h.re.append hv)
theorem CrsX.answer (h : CrsX K C CC H A c xl xe xa) {a : Ans} {v : V} (hv : AnsV K H A a v) : CrsX K C CC (upd H A.la (.lst (xa ++ [v]))) A { c with ans := c.ans ++ [a] } xl xe (xa ++ [v]) ∧ Out A H (upd H A.la (.lst (xa ++ [v]))) := by
 have out : Out A H (upd H A.la (.lst (xa ++ [v]))) := out_own (.inr (.inr (.inr rfl)))
 have im := xX5 (ys := xa ++ [v]) h.ha
 obtain ⟨g1, g2, g3⟩ := h.lst (ys := xa ++ [v]) h.ha (.inr (.inr (.inr rfl)))
 exact ⟨⟨g3.trans h.ob, (xU2 h.n3).trans h.ho, h.nd, h.pl, (xU2 h.n5).trans h.hl, xU3.imm im _ _ (xX8 _) h.rl, (xU2 h.n6).trans h.he, EvVs.imm im h.re, xU9, AnsL.snoc (hv.out out im) (h.ra.out out im), g1, g2, h.n1, h.n2, h.n3, h.n4, h.n5, h.n6⟩, out⟩
theorem CrsX.imm (h : CrsX K C CC H A c xl xe xa) (o : Out A H H') : Imm H H' := by
 have no : ∀ b x, H b = some x → (∀ ys, x ≠ .lst ys) → (∀ C dx fs, x ≠ .ins C dx fs) → ¬ A.own b := fun b x hb n1 n2 z => by
  rcases z with z | z | z | z
  ·obtain ⟨u, _, o⟩ := h.ofM z
   obtain ⟨dx, fs, e, l⟩ := o.ins
   rw [hb] at e
   exact n2 _ _ _ (Option.some.inj e)
  ·rw [z, h.hl] at hb; exact n1 _ (Option.some.inj hb).symm
  ·rw [z, h.he] at hb; exact n1 _ (Option.some.inj hb).symm
  ·rw [z, h.ha] at hb; exact n1 _ (Option.some.inj hb).symm
 exact ⟨fun b xs hb => o b _ hb (no b _ hb (fun _ z => by cases z) (fun _ _ _ z => by cases z)), fun b u v hb => o b _ hb (no b _ hb (fun _ z => by cases z) (fun _ _ _ z => by cases z))⟩
end
theorem extM {X : Cx} : MtR X "list.extend" rExtend := mt_extend
structure Mod (n k : Nat) (c : Crs) : Prop where
 wd : Wd n c
 n1 : n ≤ 1000
 kl : c.lets.length ≤ k
 ke : c.evs.length ≤ 1000 * k
 ka : c.ans.length ≤ k
end Of
section
seal L2.PE L2.PT L2.PW L2.PA L2.PS L2.PSs L2.PG L2.PGs L2.PI L3.PTs L2.PO L2.CallR L2.OpR L2.IxR L2.MtR L2.PSet L2.SlR
namespace Of
open PySem L2 L3 L4 L6
structure CTx (K : PySem.W.Frag) (mg : Str → Option Value) (CC : Addr) : Prop where
 cl : Cls K CC
 nO : yV1 K CC "offices"
 nL : yV1 K CC "letters"
 nV : yV1 K CC "events"
 nA : yV1 K CC "answers"
 course : mg "Course" = some (.ref CC)
section
variable {lo ll le la : Addr}
theorem vW1 : (cfl lo ll le la).lookup ("offices" : Str) = some (V.ref lo) := by kernel_rfl
theorem yY6 : (cfl lo ll le la).lookup ("letters" : Str) = some (V.ref ll) := by kernel_rfl
theorem at_events : (cfl lo ll le la).lookup ("events" : Str) = some (V.ref le) := by kernel_rfl
theorem at_answers : (cfl lo ll le la).lookup ("answers" : Str) = some (V.ref la) := by kernel_rfl
theorem no_m1 : (cfl lo ll le la).lookup ("letter_sent" : Str) = none := by kernel_rfl
theorem no_m2 : (cfl lo ll le la).lookup ("letters_brought" : Str) = none := by kernel_rfl
theorem no_m3 : (cfl lo ll le la).lookup ("letter_carried" : Str) = none := by kernel_rfl
theorem no_m4 : (cfl lo ll le la).lookup ("answer_to" : Str) = none := by kernel_rfl
theorem no_m5 : (cfl lo ll le la).lookup ("do" : Str) = none := by kernel_rfl
end
def After (K : PySem.W.Frag) (C CC : Addr) (H : Hp) (A : Adr) (xa : List V) (r : Ans × Crs) (Q : VK) : Prop :=
 ∀ (v : V) (H' : Hp) (xl xe : List V), CrsX K C CC H' A r.2 xl xe xa → AnsV K H' A r.1 v → Out A H H' → Q v H'
def spCSent (K : PySem.W.Frag) (C CC : Addr) : Sp := fun vs H Q _ => ∃ (A : Adr) (c : Crs) (xl xe xa : List V) (n k u : Nat) (cw : Addr) (x : What), vs = [.ref A.q, .int u, .ref cw] ∧ CrsX K C CC H A c xl xe xa ∧ vV1 K H cw x ∧ Mod n k c ∧ k ≤ 200 ∧ u < n ∧ After K C CC H A xa (yY3 c u x) Q
def spCBring (K : PySem.W.Frag) (C CC : Addr) : Sp := fun vs H Q _ => ∃ (A : Adr) (c : Crs) (xl xe xa : List V) (n k t : Nat) (b : Addr) (ls : List Let) (xs : List V), vs = [.ref A.q, .int t, .ref b] ∧ CrsX K C CC H A c xl xe xa ∧ SqL K H b xs ∧ xU3 K H (ls.map letD) xs ∧ (∀ l ∈ ls, l ∈ c.lets) ∧ ls.length ≤ 200 ∧ Mod n k c ∧ k ≤ 200 ∧ t < n ∧ After K C CC H A xa (xZ8 c t ls) Q
theorem Mod.off {n k u : Nat} {c : Crs} (h : Mod n k c) (hu : u < n) : (c.off u).num = (u : Int) ∧ (c.off u).clock.length = n ∧ (c.off u).book.length ≤ k ∧ (c.off u).kept.length ≤ k ∧ (c.off u).book.length + (c.off u).tray.length ≤ k ∧ (c.off u).kept.length + (c.off u).tray.length ≤ k ∧ ∀ l ∈ (c.off u).tray, Fit n l := by
 have o := h.wd.of u hu
 obtain ⟨h1, h2, h3, h4, h5, h6, h7⟩ := o.sizes h.wd.ml
 have := h.kl
 exact ⟨o.num, h1, by omega, by omega, by omega, by omega, h7⟩
theorem CrsX.at_ {K : PySem.W.Frag} {C CC : Addr} {H : Hp} {A : Adr} {c : Crs} {xl xe xa : List V} {n u : Nat} (h : CrsX K C CC H A c xl xe xa) (W : Wd n c) (hu : u < n) : ∃ p, A.ps[u]? = some p ∧ (A.ps.map V.ref)[u]? = some (.ref p) ∧ OffAt K C H p (c.off u) := by
 have hl : u < A.ps.length := by rw [h.pl, W.ln]; exact hu
 exact ⟨A.ps[u], List.getElem?_eq_getElem hl, by rw [List.getElem?_map, List.getElem?_eq_getElem hl]; rfl, h.of u _ (List.getElem?_eq_getElem hl)⟩
def cutH (H : Hp) (q : Addr) : Hp := fun b => if b = q then none else H b
theorem vX4 {H : Hp} {q b : Addr} (h : b ≠ q) : cutH H q b = H b := if_neg h
theorem cut_eq {H : Hp} {q : Addr} : cutH H q q = none := if_pos rfl
theorem cut_same {H : Hp} {q b : Addr} {o : HO} (h : cutH H q b = some o) : H b = some o := by
 unfold cutH at h
 split at h
 ·cases h
 ·exact h
theorem ans_cut {K : PySem.W.Frag} {H : Hp} {q q' : Addr} (im : Imm H (cutH H q)) : ∀ {an : List (List Let)} {ys : List V}, (∀ b, V.ref b ∈ ys → b ≠ q) → yX4 K H q' an ys → yX4 K (cutH H q) q' an ys
 | [], _, _, h => h
 | ns :: an, ys, hf, h => by
  obtain ⟨b, xs, r, rfl, hb, h1, h2, h3⟩ := h
  exact ⟨b, xs, r, rfl, hb, by rw [vX4 (hf b List.mem_cons_self)]; exact h1, NmVs.imm im h2, ans_cut im (fun b' hb' => hf b' (List.mem_cons_of_mem _ hb')) h3⟩
theorem ans_get {K : PySem.W.Frag} {H : Hp} {q : Addr} : ∀ {an : List (List Let)} {ys : List V} {i : Nat} {ns : List Let}, yX4 K H q an ys → an[i]? = some ns → ∃ b xs, ys[i]? = some (.ref b) ∧ b ≠ q ∧ H b = some (.lst xs) ∧ All2 (NmV H) ns xs
 | [], ys, i, ns, h, e => by simp at e
 | m :: an, ys, 0, ns, h, e => by
  obtain ⟨b, xs, r, rfl, hb, h1, h2, h3⟩ := h
  have : m = ns := by simpa using e
  subst this
  exact ⟨b, xs, rfl, hb, h1, h2⟩
 | m :: an, ys, i + 1, ns, h, e => by
  obtain ⟨b, xs, r, rfl, hb, h1, h2, h3⟩ := h
  obtain ⟨b', xs', g1, g2⟩ := ans_get (i := i) h3 (by simpa using e)
  exact ⟨b', xs', by simpa using g1, g2⟩
section
variable {P : Program} {w : World} {K : PySem.W.Frag} {mg : Str → Option Value} {base : Heap} {C CC fN fT fC fR fF fO fSn fTb fM1 fM2 : Addr}
theorem oCs : ownB ["self", "who", "what", "letter", "name"] (defScope cSent) = true := by decide +kernel
theorem scCs : FnScope ["self", "who", "what", "letter", "name"] ["self", "who", "what"] (defScope cSent) := ⟨rfl, rfl, rfl, by decide +kernel, rfl, by decide +kernel, by decide +kernel⟩
theorem ok_csent {f fS : Addr} {fd fdS fdN : FuncData} (F : Fun K "letter_sent" "Course.letter_sent" cSent f fd) (T : Txt K mg C fN fT fC fR fF fO) (CT : CTx K mg CC)
  (mS : mg "sent_or_none" = some (.ref fS)) (FS : Fun K "sent_or_none" "sent_or_none" sSentOr fS fdS) (bS : Binds K fdS ["office", "what"] []) (GS : FnOk P w K mg base CX0 5 fS fdS ["office", "what"] (spSentOr K C))
  (FN : Fun K "name_of" "name_of" sName fN fdN) (bN : Binds K fdN ["letter"] []) : FnOk P w K mg base CX0 6 f fd ["self", "who", "what"] (spCSent K C CC) := by
 have GN : FnOk P w K mg base CX0 1 fN fdN ["letter"] (yQ1 K) := vW7 FN
 refine okB (body := [stm cSent 0, stm cSent 1, stm cSent 2, stm cSent 3, stm cSent 4, stm cSent 5]) F scCs (fun vs H Q E h => ?_) (by kernel_rfl) (fun cdv A' outer s0 H vs Q E hr h => ?_)
 ·obtain ⟨A, c, xl, xe, xa, n, k, u, cw, x, rfl, _⟩ := h
  rfl
 ·obtain ⟨A, c, xl, xe, xa, n, k, u, cw, x, rfl, X, W, M, hk, hu, fin⟩ := h
  have hr5 := hr.mono (by decide : 5 ≤ 5)
  have hr1 := hr.mono (by decide : 1 ≤ 5)
  obtain ⟨p, hp, hpv, O⟩ := X.at_ M.wd hu
  obtain ⟨s1, s2, s3, s4, s5, s6, s7⟩ := M.off hu
  refine ⟨_, (xU8 (oS oCs 3 (cF GS hr5 mS FS.kp bS .nil xV1 (aC (iX (ixL K) (xX9 (oV oCs 0) rfl) (oV oCs 1)) (aC (oV oCs 2) xU7))))
   (xU8 (xW4 (xV7 op_isN (oV oCs 3) yZ1 (xV5 _))
    (xU6 (xU1 yZ1))
    xV8)
   (xU8 (oS oCs 4 (cF GN hr1 T.name_of FN.kp bN .nil xV1 (aC (oV oCs 3) xU7)))
   (xU8 (xQ9 (mApp (xX9 (oV oCs 0) rfl) (oV oCs 3)))
   (xU8 (xQ9 (mApp (xX9 (oV oCs 0) rfl) (xZ6 (aC xY8 (aC (oV oCs 1) (aC (oV oCs 4) xU7))))))
   (xU6 (xU1 (oV oCs 4)))))))), ?_⟩
  refine cut6 ?_
  intro rr5 rr4 rr3 rr2 rr1
  refine ⟨_, rfl, A.q, CC, A.dx, _, _, rfl, X.ob, CT.cl, CT.nO, vW1, _, rfl, A.lo, _, (u : Int), .ref p, rfl, rfl, SqL.of X.ho, xW7 hpv, _, rfl, p, cw, u, n, c.off u, x, rfl, O, W, ⟨s1, hu, s2, M.n1, by omega, by omega⟩, fun hc la H1 O1 L1 x1 => ?_, fun hc => ?_⟩
  ·have e : yY3 c u x = (.name (xX3 (c.off u) u x), { c with offs := c.offs.set u (yX7 (payO (c.off u) x) u x), lets := c.lets ++ [xX3 (c.off u) u x], evs := c.evs ++ [⟨true, u, xX3 (c.off u) u x⟩] }) := by
    unfold yY3 sent1
    rw [if_pos hc]
   rw [e] at fin
   have hfit : (xX3 (c.off u) u x).s < (xX3 (c.off u) u x).st.length := by show u < (inc _ _).length; unfold inc; rw [List.length_set, s2]; exact hu
   generalize xX3 (c.off u) u x = l at fin L1 hfit
   generalize yX7 (payO (c.off u) x) u x = o' at fin O1
   obtain ⟨X1, o1⟩ := X.office hp x1 O1
   refine ⟨_, rfl, rfl, _, rfl, iteF ?_⟩
   refine ⟨_, rfl, la, l, rfl, L1, hfit, fun pn nn => ?_⟩
   have sn := xU4 (o := .tup [.int l.s, .int (xV4 l)]) nn
   have X2 := X1.same sn
   have hnm : (upd H1 pn (.tup [.int l.s, .int (xV4 l)])) pn = some (.tup [.int l.s, .int (xV4 l)]) := xU9
   have o2 : Out A H (upd H1 pn (.tup [.int l.s, .int (xV4 l)])) := o1.trans (yV7 sn)
   have L2 := L1.imm sn.imm
   generalize upd H1 pn (.tup [.int l.s, .int (xV4 l)]) = H2 at X2 hnm o2 L2
   have kl := xW5 X2.rl
   have ke := X2.re.len
   rw [List.length_map] at kl
   have kl : xl.length = c.lets.length := kl
   have ke : xe.length = c.evs.length := ke
   have := M.kl
   have := M.ke
   refine ⟨_, rfl, A.q, CC, A.dx, _, _, rfl, X2.ob, CT.cl, CT.nL, yY6, .inl ⟨rfl, _, SqL.of X2.hl⟩, _, rfl, A.ll, xl, .ref la, rfl, rfl, X2.hl, Nat.lt_of_le_of_lt (show xl.length ≤ 1000000 by omega) (by decide), ?_⟩
   obtain ⟨X3, o3⟩ := X2.letter (xQ6.mpr ⟨la, rfl, L2⟩)
   have im3 := X2.imm o3
   have hnm3 := im3.tup _ _ hnm
   have o3 := o2.trans o3
   generalize upd H2 A.ll (.lst (xl ++ [.ref la])) = H3 at X3 o3 hnm3
   refine ⟨_, rfl, A.q, CC, A.dx, _, _, rfl, X3.ob, CT.cl, CT.nV, at_events, .inl ⟨rfl, _, SqL.of X3.he⟩, _, rfl, _, rfl, len3, fun pe npe => ?_⟩
   have s4 := xU4 (o := .tup [.str "sent", .int u, .ref pn]) npe
   have X4 := X3.same s4
   have hev : EvV (upd H3 pe (.tup [.str "sent", .int u, .ref pn])) ⟨true, u, l⟩ (.ref pe) := ⟨pe, pn, rfl, xU9, s4 _ _ hnm3⟩
   refine ⟨A.le, xe, .ref pe, rfl, rfl, X4.he, Nat.lt_of_le_of_lt (show xe.length ≤ 1000000 by omega) (by decide), ?_⟩
   obtain ⟨X5, o5⟩ := X4.events (es := [⟨true, u, l⟩]) (vs := [.ref pe]) (All2.one hev)
   have hnm5 := (X4.imm o5).tup _ _ (s4 _ _ hnm3)
   exact ⟨_, rfl, fin _ _ _ _ X5 ⟨pn, rfl, hnm5⟩ ((o3.trans (yV7 s4)).trans o5)⟩
  ·have e : yY3 c u x = (.no, c) := by
    unfold yY3 sent1
    rw [if_neg (by rw [hc]; decide)]
   rw [e] at fin
   exact ⟨_, rfl, rfl, _, rfl, iteT (fin _ _ _ _ X rfl Out.refl)⟩
theorem oCb : ownB ["self", "to", "letters", "names", "answer"] (defScope vX3) = true := by decide +kernel
theorem scCb : FnScope ["self", "to", "letters", "names", "answer"] ["self", "to", "letters"] (defScope vX3) := ⟨rfl, rfl, rfl, by decide +kernel, rfl, by decide +kernel, by decide +kernel⟩
theorem ok_cbring {f fT' : Addr} {fd fdT : FuncData} (F : Fun K "letters_brought" "Course.letters_brought" vX3 f fd) (CT : CTx K mg CC)
  (mT : mg "taken_by" = some (.ref fT')) (FT : Fun K "taken_by" "taken_by" sTaken fT' fdT) (bT : Binds K fdT ["office", "letters"] []) (GT : FnOk P w K mg base CX0 5 fT' fdT ["office", "letters"] (spTaken K C)) : FnOk P w K mg base CX0 6 f fd ["self", "to", "letters"] (spCBring K C CC) := by
 refine okB (body := [stm vX3 0, stm vX3 1, stm vX3 2, stm vX3 3]) F scCb (fun vs H Q E h => ?_) (by kernel_rfl) (fun cdv A' outer s0 H vs Q E hr h => ?_)
 ·obtain ⟨A, c, xl, xe, xa, n, k, t, b, ls, xs, rfl, _⟩ := h
  rfl
 ·obtain ⟨A, c, xl, xe, xa, n, k, t, b, ls, xs, rfl, X, hb, hxs, hin, hls, M, hk, ht, fin⟩ := h
  have hr5 := hr.mono (by decide : 5 ≤ 5)
  refine ⟨_, (xU8 (oS oCb 3 (xQ8 xU7))
   (xU8 (xQ0 PassesOwn.never rfl (xY2 (cF GT hr5 mT FT.kp bT .nil xV1 (aC (iX (ixL K) (xX9 (oV oCb 0) rfl) (oV oCb 1)) (aC (oV oCb 2) xU7)))) (oT oCb 4)
    (xU6 (xQ9 (bM PySem.F.plainAttrs_list PySem.F.slot_list_extend PySem.F.type_list_extend extM (oV oCb 3) (aC (oV oCb 4) xU7)))))
   (xU8 (xQ9 (bM PySem.F.plainAttrs_list PySem.F.slot_list_extend PySem.F.type_list_extend extM (xX9 (oV oCb 0) rfl) (aC (eC [1] ["to"] rfl (xY2 (oV oCb 3)) (fun _ _ _ _ _ => yZ2) (fun _ _ _ _ _ => (xZ6 (aC xY8 (aC (sV 1) (aC (sV 0) xU7)))))) xU7)))
   (xU6 (xU1 (oV oCb 3)))))), ?_⟩
  refine cut4 ?_
  intro rr3 rr2 rr1
  refine ⟨len0, fun q nq => ?_⟩
  have sq := xU4 (o := .lst []) nq
  have X1 := X.same sq
  have nown := X.fresh nq
  have hb1 := sq.seq hb
  have hxs1 := xU3.same sq _ _ hxs
  have o1 : Out A H (upd H q (.lst [])) := yV7 sq
  have hq1 : (upd H q (.lst [])) q = some (.lst []) := xU9
  generalize eH1 : upd H q (.lst []) = H1 at X1 hb1 hxs1 o1 hq1
  replace eH1 := eH1.symm
  obtain ⟨p, hp, hpv, O⟩ := X1.at_ M.wd ht
  obtain ⟨s1, s2, s3, s4, s5, s6, s7⟩ := M.off ht
  have hkl := M.kl
  refine ⟨_, rfl, A.q, CC, A.dx, _, _, rfl, X1.ob, CT.cl, CT.nO, vW1, _, rfl, A.lo, _, (t : Int), .ref p, rfl, rfl, SqL.of X1.ho, xW7 hpv, _, rfl, p, b, n, c.off t, ls, xs, rfl, O, hb1, hxs1, fun l hl => M.wd.ml.fit l (hin l hl), s2, M.n1, s7, by omega, by omega, fun qa ys H2 O2 nqa hqa ha hfr nrq x2 => ?_⟩
  have hWb := M.wd.bring (ls := ls) ht hin
  have hG : (xU0 (c.off t) ls).1.flatten.length ≤ 200 := by
   have h1 := ((hWb.of t ht).sizes hWb.ml).2.1
   have h2 : (xZ8 c t ls).2.off t = (xU0 (c.off t) ls).2 := by
    show (c.offs.set t _).getD t vW6 = _
    rw [yW3 (by rw [M.wd.ln]; exact ht), if_pos rfl]
   rw [h2, (yW1 ls (c.off t)).1] at h1
   have h1 : _ ≤ c.lets.length := h1
   omega
  have hp0 : H p = H1 p := by
   by_cases e : p = q
   ·have := (X.at_ M.wd ht)
    obtain ⟨p', g1, g2, g3⟩ := this
    rw [hp] at g1
    cases g1
    obtain ⟨dx, fs, g4, _⟩ := g3.ins
    rw [e, nq] at g4; cases g4
   ·rw [eH1, xU2 e]
  have npq : p ≠ q := fun e => by
   rw [e, nq, hq1] at hp0; cases hp0
  have nrf : ¬ Refs (H1 p) q := fun z => by
   rw [← hp0] at z
   obtain ⟨p', g1, g2, g3⟩ := X.at_ M.wd ht
   rw [hp] at g1
   cases g1
   obtain ⟨dx0, cl0, lb0, lt0, lk0, bs0, ts0, ks0, X0⟩ := g3.x
   rw [X0.ob, xX2] at z
   rcases z with z | z | z
   ·rw [z, X0.hb] at nq; cases nq
   ·rw [z, X0.ht] at nq; cases nq
   ·rw [z, X0.hk] at nq; cases nq
  obtain ⟨dx2, fs2, e2, _⟩ := O2.ins
  obtain ⟨dx1, fs1, e1, _⟩ := O.ins
  have hq2 : H2 q = some (.lst []) := x2.lst e1 hq1
  have xc : SameX p H (cutH H2 q) := by
   refine ⟨fun b' o hb' nb' => ?_, fun b' hb' => ?_, ⟨_, hp0.trans e1⟩⟩
   ·have hbq : b' ≠ q := fun e => by rw [e, nq] at hb'; cases hb'
    rw [vX4 hbq]
    refine x2.keep b' o ?_ nb'
    rw [eH1, xU2 hbq]; exact hb'
   ·rw [vX4 npq] at hb'
    rcases x2.refs b' hb' with z | z
    ·left; rw [hp0]; exact z
    ·right
     by_cases e : b' = q
     ·rw [e, hq1] at z; cases z
     ·rw [eH1, xU2 e] at z; exact z
  have imc : Imm H2 (cutH H2 q) := ⟨fun b' xs' hb' => by rw [vX4 (fun e => by rw [e, hq2] at hb'; cases hb')]; exact hb', fun b' u' v' hb' => by rw [vX4 (fun e => by rw [e, hq2] at hb'; cases hb')]; exact hb'⟩
  have Oc : OffAt K C (cutH H2 q) p (xU0 (c.off t) ls).2 := O2.keep imc (fun u' hu' => by rw [vX4 npq]; exact hu') fun b' xs' hr' hb' => by
   rw [vX4 (fun e => by rw [e] at hr'; exact (x2.refs q hr').elim (fun z => nrf z) (fun z => by rw [hq1] at z; cases z))]
   exact hb'
  obtain ⟨Xc, oc⟩ := X.office hp xc Oc
  have nqaq : qa ≠ q := fun e => by rw [e, hq1] at nqa; cases nqa
  have hqac : (cutH H2 q) qa = some (.lst ys) := by rw [vX4 nqaq]; exact hqa
  have hac : yX4 K (cutH H2 q) qa (xU0 (c.off t) ls).1 ys := ans_cut imc (fun b' hb' e => by have := hfr b' hb'; rw [e, hq1] at this; cases this) ha
  have hlen := ha.len
  have hq2' := hq2
  generalize hcut : cutH H2 q = Hk at xc imc Oc Xc oc hqac hac
  have nkq : Hk q = none := by rw [← hcut]; exact cut_eq
  have sk : Same Hk H2 := fun b' o hb' => by rw [← hcut] at hb'; exact cut_same hb'
  clear hcut
  generalize hfl : (xU0 (c.off t) ls).1 = found at ha hac hG hlen
  have hfin : After K C CC H A xa (.names found.flatten, { c with offs := c.offs.set t (xU0 (c.off t) ls).2, evs := c.evs ++ found.flatten.map fun l => ⟨false, t, l⟩ }) Q := by
   rw [← hfl]; exact fin
  clear fin
  generalize (xU0 (c.off t) ls).2 = o' at Xc hfin
  refine ⟨_, rfl, ⟨_, SqL.of hqa⟩, yU7 (K := K) (a := qa) (xs := ys) (fun i σ Hc => ∃ (v : Option V) (zs : List V), σ = [some (.ref A.q), some (.int t), some (.ref b), some (.ref q), v] ∧ Same Hk Hc ∧ Hc q = some (.lst zs) ∧ All2 (NmV Hc) (found.take i).flatten zs)
   ⟨none, [], rfl, sk, hq2, rfl⟩ (fun i σ Hc _ ⟨v, zs, _, e, _⟩ => SqL.of (e _ _ hqac)) ?_ ?_⟩
  ·rintro i y σ Hc hi ⟨v, zs, rfl, e, hqc, hzs⟩
   have hi' : i < found.length := by have := (List.getElem?_eq_some_iff.mp hi).1; omega
   obtain ⟨b1, us, g1, g2, g3, g4⟩ := ans_get hac (List.getElem?_eq_getElem hi')
   rw [hi] at g1
   cases g1
   have etk : (found.take (i + 1)).flatten = (found.take i).flatten ++ found[i] := by rw [xX7 (List.getElem?_eq_getElem hi'), List.flatten_append, List.flatten_cons, List.flatten_nil, List.append_nil]
   have hl1 : ((found.take (i + 1)).flatten).length ≤ 200 := by
    refine Nat.le_trans ?_ hG
    conv => rhs; rw [← List.take_append_drop (i + 1) found, List.flatten_append, List.length_append]
    omega
   rw [etk, List.length_append] at hl1
   rw [etk]
   generalize found[i] = ns at g4 hl1 ⊢
   generalize (found.take i).flatten = pre at hzs hl1 ⊢
   have z1 := hzs.len
   have z2 := g4.len
   refine ⟨_, rfl, .inl ⟨rfl, _, SqL.of hqc⟩, _, rfl, q, b1, zs, us, rfl, rfl, hqc, e _ _ g3, big _ (by omega), _, zs ++ us, rfl, xW2 e nkq, xU9, ?_⟩
   exact NmVs.imm (xX5 hqc) (hzs.append (NmVs.imm e.imm g4))
  ·rintro σ Hn ⟨v, zs, rfl, en, hqn, hzs⟩
   rw [hlen, List.take_length] at hzs
   have Xn := Xc.same en
   have on : Out A H Hn := oc.trans (yV7 en)
   generalize found.flatten = G at hzs hG hfin
   have zl := hzs.len
   refine ⟨_, rfl, A.q, CC, A.dx, _, _, rfl, Xn.ob, CT.cl, CT.nV, at_events, .inl ⟨rfl, _, SqL.of Xn.he⟩, _, rfl, q, rfl, ⟨_, SqL.of hqn⟩, yV2 (xs := zs) (fun D j us H3 => Same Hn H3 ∧ H3 D = some (.lst us) ∧ All2 (EvV H3) ((G.take j).map fun l => ⟨false, t, l⟩) us)
    (fun D hD => ⟨xU4 hD, xU9, rfl⟩) (fun D j us H3 hD hj h => ⟨h.2.1, SqL.of (h.1 _ _ hqn)⟩) (fun D j x us H3 hD hj ⟨f1, f2, f3⟩ => ?_) (fun D us H3 hD ⟨f1, f2, f3⟩ => ?_)⟩
   ·have hj' : j < G.length := by have := (List.getElem?_eq_some_iff.mp hj).1; omega
    obtain ⟨x', hx', bn, rfl, rx⟩ := hzs.get (i := j) (List.getElem?_eq_getElem hj')
    rw [hj] at hx'
    cases hx'
    have ul := f3.len
    rw [List.length_map, List.length_take] at ul
    refine ⟨_, rfl, _, rfl, len3, fun pt nt => ?_⟩
    have s1 := xU4 (o := .tup [.str "got", .int t, .ref bn]) nt
    have hD1 := s1 _ _ f2
    refine ⟨hD1, xV0 (by omega), xW2 (f1.trans s1) hD, xU9, ?_⟩
    have i1 := xX5 (ys := us ++ [.ref pt]) hD1
    rw [List.take_succ, List.getElem?_eq_getElem hj', Option.toList_some, List.map_append]
    refine EvVs.imm i1 ((EvVs.imm s1.imm f3).append (All2.one ⟨pt, bn, rfl, xU9, (f1.trans s1) _ _ rx⟩))
   ·rw [zl, List.take_length] at f3
    have ul := f3.len
    rw [List.length_map] at ul
    have X3 := Xn.same f1
    have xel := X3.re.len
    have xel : xe.length = c.evs.length := xel
    have := M.ke
    refine ⟨A.le, D, xe, us, rfl, rfl, X3.he, f2, big _ (by omega), ?_⟩
    obtain ⟨X4, o4⟩ := X3.events (es := G.map fun l => ⟨false, t, l⟩) (vs := us) f3
    have im4 := X3.imm o4
    have hqown : ¬ A.own q := nown
    exact ⟨_, rfl, hfin _ _ _ _ X4 ⟨q, zs, rfl, hqown, o4 _ _ (f1 _ _ hqn) hqown, NmVs.imm im4 (NmVs.imm f1.imm hzs)⟩ ((on.trans (yV7 f1)).trans o4)⟩
end
end Of
end
section
seal L2.PE L2.PT L2.PW L2.PA L2.PS L2.PSs L2.PG L2.PGs L2.PI L3.PTs L2.PO L2.CallR L2.OpR L2.IxR L2.MtR L2.PSet L2.SlR
namespace Of
open PySem L2 L3 L4 L6
def DeedAt (K : PySem.W.Frag) (H : Hp) (b : Addr) : Deed → Prop
 | .pay w t m => SqT K H b [.str "pay", .int w, .int t, .int m]
 | .cut w => SqT K H b [.str "cut", .int w]
 | .carry k t => SqT K H b [.str "carry", .int k, .int t]
 | .bring t => SqT K H b [.str "bring", .int t]
theorem yQ2 {K : PySem.W.Frag} {H : Hp} {d : Deed} {v : V} : RepD K H (yX6 d) v ↔ ∃ b, v = .ref b ∧ DeedAt K H b d := by
 cases d with
 | pay u t m =>
  simp only [yX6, RepD, xU3]
  constructor
  ·rintro ⟨c, zs, rfl, h, y1, q1, rfl, rfl, y2, q2, rfl, rfl, y3, q3, rfl, rfl, y4, q4, rfl, rfl, rfl⟩
   exact ⟨c, rfl, h⟩
  ·rintro ⟨c, rfl, h⟩
   exact ⟨c, _, rfl, h, _, _, rfl, rfl, _, _, rfl, rfl, _, _, rfl, rfl, _, _, rfl, rfl, rfl⟩
 | carry u t =>
  simp only [yX6, RepD, xU3]
  constructor
  ·rintro ⟨c, zs, rfl, h, y1, q1, rfl, rfl, y2, q2, rfl, rfl, y3, q3, rfl, rfl, rfl⟩
   exact ⟨c, rfl, h⟩
  ·rintro ⟨c, rfl, h⟩
   exact ⟨c, _, rfl, h, _, _, rfl, rfl, _, _, rfl, rfl, _, _, rfl, rfl, rfl⟩
 | cut u =>
  simp only [yX6, RepD, xU3]
  constructor
  ·rintro ⟨c, zs, rfl, h, y1, q1, rfl, rfl, y2, q2, rfl, rfl, rfl⟩
   exact ⟨c, rfl, h⟩
  ·rintro ⟨c, rfl, h⟩
   exact ⟨c, _, rfl, h, _, _, rfl, rfl, _, _, rfl, rfl, rfl⟩
 | bring u =>
  simp only [yX6, RepD, xU3]
  constructor
  ·rintro ⟨c, zs, rfl, h, y1, q1, rfl, rfl, y2, q2, rfl, rfl, rfl⟩
   exact ⟨c, rfl, h⟩
  ·rintro ⟨c, rfl, h⟩
   exact ⟨c, _, rfl, h, _, _, rfl, rfl, _, _, rfl, rfl, rfl⟩
theorem yW0 : ∀ ds : List Deed, xW1 (ds.map yX6) = true
 | [] => rfl
 | d :: ds => by
  have : yZ6 (yX6 d) = true := by cases d <;> rfl
  simp only [List.map_cons, xW1, this, Bool.true_and]; exact yW0 ds
theorem reps_rev {K : PySem.W.Frag} {H : Hp} : ∀ {ds : List PyData} {xs : List V}, xU3 K H ds xs → xU3 K H ds.reverse xs.reverse
 | [], xs, h => by
  have : xs = [] := by simpa only [xU3] using h
  subst this; simpa only [List.reverse_nil] using h
 | d :: ds, xs, h => by
  obtain ⟨x, r, rfl, a, b⟩ : ∃ x r, xs = x :: r ∧ RepD K H d x ∧ xU3 K H ds r := by simpa only [xU3] using h
  rw [List.reverse_cons, List.reverse_cons]
  exact xY7 (reps_rev b) (yW9 a)
def spCCarry (K : PySem.W.Frag) (C CC : Addr) : Sp := fun vs H Q _ => ∃ (A : Adr) (c : Crs) (xl xe xa : List V) (n k t : Nat) (i : Int), vs = [.ref A.q, .int i, .int t] ∧ CrsX K C CC H A c xl xe xa ∧ Mod n k c ∧ k ≤ 200 ∧ t < n ∧ After K C CC H A xa (answer c (.carry i t)) Q
def spCAns (K : PySem.W.Frag) (C CC : Addr) : Sp := fun vs H Q _ => ∃ (A : Adr) (c : Crs) (xl xe xa : List V) (n k : Nat) (b : Addr) (d : Deed), vs = [.ref A.q, .ref b] ∧ CrsX K C CC H A c xl xe xa ∧ DeedAt K H b d ∧ xQ7 n d ∧ Mod n k c ∧ k ≤ 200 ∧ After K C CC H A xa (answer c d) Q
def spCDo (K : PySem.W.Frag) (C CC : Addr) : Sp := fun vs H Q _ => ∃ (A : Adr) (c : Crs) (xl xe xa : List V) (n k : Nat) (b : Addr) (d : Deed), vs = [.ref A.q, .ref b] ∧ CrsX K C CC H A c xl xe xa ∧ DeedAt K H b d ∧ xQ7 n d ∧ Mod n k c ∧ k ≤ 200 ∧
 ∀ (H' : Hp) (xl xe xa : List V), CrsX K C CC H' A (doC c d) xl xe xa → Out A H H' → Q .non H'
section
variable {P : Program} {w : World} {K : PySem.W.Frag} {mg : Str → Option Value} {base : Heap} {C CC : Addr}
theorem oCc : ownB ["self", "which", "to"] (defScope cCarr) = true := by decide +kernel
theorem scCc : FnScope ["self", "which", "to"] ["self", "which", "to"] (defScope cCarr) := ⟨rfl, rfl, rfl, by decide +kernel, rfl, by decide +kernel, by decide +kernel⟩
theorem ok_ccarry {f fB : Addr} {fd fdB : FuncData} (F : Fun K "letter_carried" "Course.letter_carried" cCarr f fd) (CT : CTx K mg CC) (hlen : mg "len" = none)
  (bB : Binds K fdB ["self", "to", "letters"] []) (mB : Meth K CC "letters_brought" fB) (GB : FnOk P w K mg base CX0 6 fB fdB ["self", "to", "letters"] (spCBring K C CC)) : FnOk P w K mg base CX0 7 f fd ["self", "which", "to"] (spCCarry K C CC) := by
 refine okB (body := [stm cCarr 0, stm cCarr 1]) F scCc (fun vs H Q E h => ?_) (by kernel_rfl) (fun cdv A' outer s0 H vs Q E hr h => ?_)
 ·obtain ⟨A, c, xl, xe, xa, n, k, t, i, rfl, _⟩ := h
  rfl
 ·obtain ⟨A, c, xl, xe, xa, n, k, t, i, rfl, X, M, hk, ht, fin⟩ := h
  have kl := xW5 X.rl
  rw [List.length_map] at kl
  refine ⟨_, (xU8 (xW4 (pt_chain op_le op_lt xU5 (oV oCc 1) (cB (xV9 (X := _)) hlen PySem.boot_len (aC (xX9 (oV oCc 0) rfl) xU7)))
    (xU6 (xU1 (yU9 (oV oCc 0) CT.cl mB GB hr bB .nil xV1 (aC (oV oCc 2) (aC (xQ8 (aC (iX (ixL K) (xX9 (oV oCc 0) rfl) (oV oCc 1)) xU7)) xU7)))))
    xV8)
   (xU6 (xU1 yZ1))), ?_⟩
  refine cut2 ?_
  intro rr1
  have no : yU6 c i = none → After K C CC H A xa (.no, c) Q := fun e => by
   have : answer c (.carry i t) = (.no, c) := by simp only [answer, e]
   rw [← this]; exact fin
  refine ⟨_, rfl, _, _, rfl, rfl, _, rfl, ite2 (fun h0 => ?_) (fun h0 => ?_)⟩
  ·have h0 : 0 ≤ i := of_decide_eq_true h0
   refine ⟨_, rfl, A.q, CC, A.dx, _, _, rfl, X.ob, CT.cl, CT.nL, yY6, A.ll, _, rfl, .inl (SqL.of X.hl), _, _, rfl, rfl, _, rfl, ite2 (fun h1 => ?_) (fun h1 => ?_)⟩
   ·have h1 : i < (xl.length : Int) := of_decide_eq_true h1
    obtain ⟨j, rfl⟩ := Int.eq_ofNat_of_zero_le h0
    have hj : j < c.lets.length := by omega
    obtain ⟨x, hx, rx⟩ := xY6 X.rl (i := j) (d := letD c.lets[j]) (by rw [List.getElem?_map, List.getElem?_eq_getElem hj]; rfl)
    have ec : yU6 c (j : Int) = some c.lets[j] := by
     unfold yU6
     rw [if_pos h0, Int.toNat_natCast, List.getElem?_eq_getElem hj]
    have ea : answer c (.carry j t) = xZ8 c t [c.lets[j]] := by simp only [answer, ec]
    rw [ea] at fin
    refine ⟨_, rfl, A.q, A.dx, _, rfl, X.ob, no_m2, _, rfl, _, rfl, A.q, CC, A.dx, _, _, rfl, X.ob, CT.cl, CT.nL, yY6, _, rfl, A.ll, _, (j : Int), x, rfl, rfl, SqL.of X.hl, xW7 hx, len1, fun pl npl => ?_⟩
    have s1 := xU4 (o := .lst [x]) npl
    refine ⟨A, c, xl, xe, xa, n, k, t, pl, [c.lets[j]], [x], rfl, X.same s1, SqL.of xU9, yW9 (RepD.same s1 _ _ rx), fun l hl => ?_, by show 1 ≤ 200; decide, M, hk, ht, fun v H' xl' xe' X' a' o' => fin v H' xl' xe' X' a' ((yV7 s1).trans o')⟩
    have : l = c.lets[j] := by simpa using hl
    rw [this]; exact List.getElem_mem hj
   ·have h1 : ¬ i < (xl.length : Int) := fun z => h1 (decide_eq_true z)
    refine no ?_ _ _ _ _ X rfl Out.refl
    unfold yU6
    rw [if_pos h0]
    exact List.getElem?_eq_none (by omega)
  ·have h0 : ¬ 0 ≤ i := fun z => h0 (decide_eq_true z)
   refine ⟨_, rfl, iteF (no ?_ _ _ _ _ X rfl Out.refl)⟩
   unfold yU6
   rw [if_neg h0]
theorem oCa : ownB ["self", "deed"] (defScope cAns) = true := by decide +kernel
theorem scCa : FnScope ["self", "deed"] ["self", "deed"] (defScope cAns) := ⟨rfl, rfl, rfl, by decide +kernel, rfl, by decide +kernel, by decide +kernel⟩
theorem ok_cans {f fB fS fC : Addr} {fd fdB fdS fdC : FuncData} (F : Fun K "answer_to" "Course.answer_to" cAns f fd) (CT : CTx K mg CC)
  (bB : Binds K fdB ["self", "to", "letters"] []) (mB : Meth K CC "letters_brought" fB) (GB : FnOk P w K mg base CX0 6 fB fdB ["self", "to", "letters"] (spCBring K C CC))
  (bS : Binds K fdS ["self", "who", "what"] []) (mS : Meth K CC "letter_sent" fS) (GS : FnOk P w K mg base CX0 6 fS fdS ["self", "who", "what"] (spCSent K C CC))
  (bC : Binds K fdC ["self", "which", "to"] []) (mC : Meth K CC "letter_carried" fC) (GC : FnOk P w K mg base CX0 7 fC fdC ["self", "which", "to"] (spCCarry K C CC)) : FnOk P w K mg base CX0 8 f fd ["self", "deed"] (spCAns K C CC) := by
 refine okB (body := [stm cAns 0, stm cAns 1, stm cAns 2, stm cAns 3]) F scCa (fun vs H Q E h => ?_) (by kernel_rfl) (fun cdv A' outer s0 H vs Q E hr h => ?_)
 ·obtain ⟨A, c, xl, xe, xa, n, k, b, d, rfl, _⟩ := h
  rfl
 ·obtain ⟨A, c, xl, xe, xa, n, k, b, d, rfl, X, D, ok, M, hk, fin⟩ := h
  have hr6 := hr.mono (by decide : 6 ≤ 7)
  refine ⟨_, (xU8 (xW4 (xV7 yX0 (iX (ixT K) (oV oCa 1) xU5) xY8 (xV5 _))
    (xU6 (xU1 (yU9 (oV oCa 0) CT.cl mS GS hr6 bS .nil xV1 (aC (iX (ixT K) (oV oCa 1) xU5) (aC (xZ6 (aC xY8 (aC (iX (ixT K) (oV oCa 1) xU5) (aC (iX (ixT K) (oV oCa 1) xU5) xU7)))) xU7)))))
    xV8)
   (xU8 (xW4 (xV7 yX0 (iX (ixT K) (oV oCa 1) xU5) xY8 (xV5 _))
    (xU6 (xU1 (yU9 (oV oCa 0) CT.cl mS GS hr6 bS .nil xV1 (aC (iX (ixT K) (oV oCa 1) xU5) (aC (xZ6 (aC xY8 xU7)) xU7)))))
    xV8)
   (xU8 (xW4 (xV7 yX0 (iX (ixT K) (oV oCa 1) xU5) xY8 (xV5 _))
    (xU6 (xU1 (yU9 (oV oCa 0) CT.cl mC GC hr bC .nil xV1 (aC (iX (ixT K) (oV oCa 1) xU5) (aC (iX (ixT K) (oV oCa 1) xU5) xU7)))))
    xV8)
   (xU6 (xU1 (yU9 (oV oCa 0) CT.cl mB GB hr6 bB .nil xV1 (aC (iX (ixT K) (oV oCa 1) xU5) (aC (L6.pe_rev (xX9 (oV oCa 0) rfl) (pe_un un_neg xU5)) xU7)))))))), ?_⟩
  refine cut4 ?_
  intro rr3 rr2 rr1
  cases d with
  | pay u t m =>
   have D : SqT K H b [.str "pay", .int u, .int t, .int m] := D
   refine ⟨_, rfl, b, _, 0, _, rfl, rfl, D, rfl, rfl, _, rfl, iteT ?_⟩
   refine ⟨_, rfl, A.q, A.dx, _, rfl, X.ob, no_m1, _, rfl, b, _, 1, _, rfl, rfl, D, rfl, _, rfl, b, _, 2, _, rfl, rfl, D, rfl, _, rfl, b, _, 3, _, rfl, rfl, D, rfl, len3, fun cw ncw => ?_⟩
   have s1 := xU4 (o := .tup [.str "pay", .int t, .int m]) ncw
   exact ⟨A, c, xl, xe, xa, n, k, u, cw, .pay t m, rfl, X.same s1, (show SqT K _ cw _ from SqT.of xU9), M, hk, ok.1, fun v H' xl' xe' X' a' o' => fin v H' xl' xe' X' a' ((yV7 s1).trans o')⟩
  | cut u =>
   have D : SqT K H b [.str "cut", .int u] := D
   refine ⟨_, rfl, b, _, 0, _, rfl, rfl, D, rfl, rfl, _, rfl, ?_⟩
   rw [show decide (V.str "cut" = V.str "pay") = false by decide +kernel]
   refine iteF ⟨_, rfl, b, _, 0, _, rfl, rfl, D, rfl, rfl, _, rfl, iteT ?_⟩
   refine ⟨_, rfl, A.q, A.dx, _, rfl, X.ob, no_m1, _, rfl, b, _, 1, _, rfl, rfl, D, rfl, len1, fun cw ncw => ?_⟩
   have s1 := xU4 (o := .tup [.str "cut"]) ncw
   exact ⟨A, c, xl, xe, xa, n, k, u, cw, .cut, rfl, X.same s1, (show SqT K _ cw _ from SqT.of xU9), M, hk, ok, fun v H' xl' xe' X' a' o' => fin v H' xl' xe' X' a' ((yV7 s1).trans o')⟩
  | carry i t =>
   have D : SqT K H b [.str "carry", .int i, .int t] := D
   refine ⟨_, rfl, b, _, 0, _, rfl, rfl, D, rfl, rfl, _, rfl, ?_⟩
   rw [show decide (V.str "carry" = V.str "pay") = false by decide +kernel]
   refine iteF ⟨_, rfl, b, _, 0, _, rfl, rfl, D, rfl, rfl, _, rfl, ?_⟩
   rw [show decide (V.str "carry" = V.str "cut") = false by decide +kernel]
   refine iteF ⟨_, rfl, b, _, 0, _, rfl, rfl, D, rfl, rfl, _, rfl, iteT ?_⟩
   exact ⟨_, rfl, A.q, A.dx, _, rfl, X.ob, no_m3, _, rfl, b, _, 1, _, rfl, rfl, D, rfl, _, rfl, b, _, 2, _, rfl, rfl, D, rfl, A, c, xl, xe, xa, n, k, t, i, rfl, X, M, hk, ok, fin⟩
  | bring t =>
   have D : SqT K H b [.str "bring", .int t] := D
   refine ⟨_, rfl, b, _, 0, _, rfl, rfl, D, rfl, rfl, _, rfl, ?_⟩
   rw [show decide (V.str "bring" = V.str "pay") = false by decide +kernel]
   refine iteF ⟨_, rfl, b, _, 0, _, rfl, rfl, D, rfl, rfl, _, rfl, ?_⟩
   rw [show decide (V.str "bring" = V.str "cut") = false by decide +kernel]
   refine iteF ⟨_, rfl, b, _, 0, _, rfl, rfl, D, rfl, rfl, _, rfl, ?_⟩
   rw [show decide (V.str "bring" = V.str "carry") = false by decide +kernel]
   refine iteF ⟨_, rfl, A.q, A.dx, _, rfl, X.ob, no_m2, _, rfl, b, _, 1, _, rfl, rfl, D, rfl, _, rfl, A.q, CC, A.dx, _, _, rfl, X.ob, CT.cl, CT.nL, yY6, _, rfl, rfl, A.ll, _, rfl, SqL.of X.hl, fun pl npl => ?_⟩
   have s1 := xU4 (o := .lst xl.reverse) npl
   have hrv : xU3 K (upd H pl (.lst xl.reverse)) (c.lets.reverse.map letD) xl.reverse := by
    rw [List.map_reverse]
    exact xU3.same s1 _ _ (reps_rev X.rl)
   have := M.kl
   exact ⟨A, c, xl, xe, xa, n, k, t, pl, c.lets.reverse, xl.reverse, rfl, X.same s1, SqL.of xU9, hrv, fun l hl => List.mem_reverse.mp hl, by rw [List.length_reverse]; omega, M, hk, ok, fun v H' xl' xe' X' a' o' => fin v H' xl' xe' X' a' ((yV7 s1).trans o')⟩
theorem oCd : ownB ["self", "deed"] (defScope cDo) = true := by decide +kernel
theorem scCd : FnScope ["self", "deed"] ["self", "deed"] (defScope cDo) := ⟨rfl, rfl, rfl, by decide +kernel, rfl, by decide +kernel, by decide +kernel⟩
theorem ok_cdo {f fA : Addr} {fd fdA : FuncData} (F : Fun K "do" "Course.do" cDo f fd) (CT : CTx K mg CC)
  (bA : Binds K fdA ["self", "deed"] []) (mA : Meth K CC "answer_to" fA) (GA : FnOk P w K mg base CX0 8 fA fdA ["self", "deed"] (spCAns K C CC)) : FnOk P w K mg base CX0 9 f fd ["self", "deed"] (spCDo K C CC) := by
 refine okB (body := [stm cDo 0]) F scCd (fun vs H Q E h => ?_) (by kernel_rfl) (fun cdv A' outer s0 H vs Q E hr h => ?_)
 ·obtain ⟨A, c, xl, xe, xa, n, k, b, d, rfl, _⟩ := h
  rfl
 ·obtain ⟨A, c, xl, xe, xa, n, k, b, d, rfl, X, D, ok, M, hk, fin⟩ := h
  refine ⟨_, (xU6 (xQ9 (mApp (xX9 (oV oCd 0) rfl) (yU9 (oV oCd 0) CT.cl mA GA hr bA .nil xV1 (aC (oV oCd 1) xU7))))), ?_⟩
  have := M.ka
  have al := X.ra.len
  refine ⟨_, rfl, A.q, CC, A.dx, _, _, rfl, X.ob, CT.cl, CT.nA, at_answers, .inl ⟨rfl, _, SqL.of X.ha⟩, _, rfl, A.q, A.dx, _, rfl, X.ob, no_m4, _, rfl, A, c, xl, xe, xa, n, k, b, d, rfl, X, D, ok, M, hk, fun v H' xl' xe' X' a' o' => ?_⟩
  refine ⟨A.la, xa, v, rfl, rfl, X'.ha, xV0 (by omega), ?_⟩
  obtain ⟨X2, o2⟩ := X'.answer a'
  exact fin _ _ _ _ X2 (o'.trans o2)
end
end Of
end
section
seal L2.PE L2.PT L2.PW L2.PA L2.PS L2.PSs L2.PG L2.PGs L2.PI L3.PTs L2.PO L2.CallR L2.OpR L2.IxR L2.MtR L2.PSet L2.SlR
namespace Of
open PySem L2 L3 L4 L6
open PyProof.Rows (envOfC)
theorem cM {X : Cx} {CX : CXT} {k : Nat} {f C : Addr} {fd : FuncData} {ps : List Str} {sp : Sp} {ds : List Value} {dvs : List V} {E : XK} {x : Str} {p pos : Pos} {e : Expr} {es : List Expr} {t : TA}
  (M : Mk X.K C f) (F : FnOk X.prog X.w X.K X.mg X.base CX k f fd ps sp) (hr : Room (k + 1) X.A) (hm : X.mg x = some (.ref C)) (hb : Binds X.K fd ps ds) (hd : Vals dvs ds) (hx : vU9 CX X E) (ha : PA X (e :: es) t) (hg : glB X.env.scope x = true := by kernel_rfl)
  (h1 : isStar e = false := by rfl) (h2 : xZ7 es = true := by rfl) : PE X (.Call (.Name x p) (e :: es) [] pos) (tMake C sp dvs E t) :=
 pe_make M F hr (yV0 hg).1 hm hb hd hx ha (yV0 hg).2.2 (xY4 h1) (yW8 h2)
theorem made_same {C p dx : Addr} {H H' : Hp} (n1 : H p = none) (n2 : H dx = none) (x : SameX p (upd (upd H dx (.own p)) p (.ins C dx [])) H') : Same H H' := fun b u hb => by
 have e1 : b ≠ p := fun z => by rw [z, n1] at hb; cases hb
 have e2 : b ≠ dx := fun z => by rw [z, n2] at hb; cases hb
 exact x.keep b u ((xU2 e1).trans ((xU2 e2).trans hb)) e1
def off0 (n : Nat) (coins : Int) (u : Nat) : Off := ⟨u, coins, List.replicate n 0, [], [], []⟩
def start (n : Nat) (coins : Int) : Crs := ⟨(List.range n).map (off0 n coins), [], [], []⟩
theorem yX2 {n u : Nat} {coins : Int} (h : u < n) : (start n coins).off u = off0 n coins u := by
 unfold Crs.off start
 dsimp only
 rw [List.getD_eq_getElem?_getD, List.getElem?_map, List.getElem?_range h]; rfl
theorem start_wd {n : Nat} {coins : Int} : Wd n (start n coins) := by
 refine ⟨Mail.nil, by simp [start], fun u hu => ?_⟩
 rw [yX2 hu]
 have h0 : ∀ v, (List.replicate n (0 : Int)).getD v 0 = 0 := fun v => by
  rw [List.getD_eq_getElem?_getD, List.getElem?_replicate]; split <;> rfl
 exact ⟨⟨[], ⟨(fun _ h => nomatch h), List.nodup_nil, by simp [off0], fun v => by show (List.replicate n (0 : Int)).getD v 0 = _; rw [h0]; rfl, (fun _ h => nomatch h), (fun _ h => nomatch h), List.nodup_nil⟩, (fun _ h => nomatch h), rfl, Nat.le_refl _⟩, rfl, fun _ h => nomatch h⟩
theorem start_mod {n : Nat} {coins : Int} (h : n ≤ 1000) : Mod n 0 (start n coins) := ⟨start_wd, h, Nat.le_refl _, Nat.le_refl _, Nat.le_refl _⟩
theorem bring_len {n t : Nat} {c : Crs} {ls : List Let} (h : Wd n c) (ht : t < n) (hin : ∀ l ∈ ls, l ∈ c.lets) : (xU0 (c.off t) ls).1.flatten.length ≤ c.lets.length := by
 have hWb := h.bring (ls := ls) ht hin
 have h1 := ((hWb.of t ht).sizes hWb.ml).2.1
 have h2 : (xZ8 c t ls).2.off t = (xU0 (c.off t) ls).2 := by
  show (c.offs.set t _).getD t vW6 = _
  rw [yW3 (by rw [h.ln]; exact ht), if_pos rfl]
 rw [h2, (yW1 ls (c.off t)).1] at h1
 have h1 : _ ≤ c.lets.length := h1
 omega
theorem bring_mod {n k t : Nat} {c : Crs} {ls : List Let} (M : Mod n k c) (hk : k ≤ 200) (ht : t < n) (hin : ∀ l ∈ ls, l ∈ c.lets) : (xZ8 c t ls).2.evs.length ≤ 1000 * (k + 1) ∧ (xZ8 c t ls).2.lets.length ≤ k + 1 ∧ (xZ8 c t ls).2.ans = c.ans := by
 have h := bring_len M.wd ht hin
 have h1 := M.kl
 have h2 := M.ke
 refine ⟨?_, by show c.lets.length ≤ k + 1; omega, rfl⟩
 show (c.evs ++ _).length ≤ _
 rw [List.length_append, List.length_map]; omega
theorem send_mod {n k u : Nat} {c : Crs} {x : What} (M : Mod n k c) : (yY3 c u x).2.evs.length ≤ 1000 * (k + 1) ∧ (yY3 c u x).2.lets.length ≤ k + 1 ∧ (yY3 c u x).2.ans = c.ans := by
 have h1 := M.kl
 have h2 := M.ke
 unfold yY3
 split
 ·refine ⟨?_, ?_, rfl⟩
  ·show (c.evs ++ _).length ≤ _
   rw [List.length_append]; show c.evs.length + 1 ≤ _; omega
  ·show (c.lets ++ _).length ≤ _
   rw [List.length_append]; show c.lets.length + 1 ≤ _; omega
 ·exact ⟨by show c.evs.length ≤ _; omega, by show c.lets.length ≤ _; omega, rfl⟩
theorem Mod.do {n k : Nat} {c : Crs} {d : Deed} (M : Mod n k c) (hk : k ≤ 200) (ok : xQ7 n d) : Mod n (k + 1) (doC c d) := by
 have key : (answer c d).2.evs.length ≤ 1000 * (k + 1) ∧ (answer c d).2.lets.length ≤ k + 1 ∧ (answer c d).2.ans = c.ans := by
  have h1 := M.kl
  have h2 := M.ke
  cases d with
  | pay u t m => exact send_mod M
  | cut u => exact send_mod M
  | bring t => exact bring_mod M hk ok fun l hl => List.mem_reverse.mp hl
  | carry i t =>
   cases e : yU6 c i with
   | none =>
    simp only [answer, e]
    exact ⟨by omega, by omega, trivial⟩
   | some l =>
    simp only [answer, e]
    refine bring_mod M hk ok fun x hx => ?_
    have : x = l := by simpa using hx
    subst this
    unfold yU6 at e
    split at e
    ·exact List.mem_of_getElem? e
    ·cases e
 refine ⟨M.wd.do ok, M.n1, key.2.1, key.1, ?_⟩
 show ((answer c d).2.ans ++ [_]).length ≤ _
 rw [key.2.2, List.length_append]
 have := M.ka
 show c.ans.length + 1 ≤ _
 omega
theorem Mod.run {n : Nat} : ∀ {ds : List Deed} {k : Nat} {c : Crs}, Mod n k c → (∀ d ∈ ds, xQ7 n d) → k + ds.length ≤ 200 → Mod n (k + ds.length) (runC c ds)
 | [], k, c, M, _, _ => M
 | d :: ds, k, c, M, ok, h => by
  rw [List.length_cons] at h ⊢
  have := Mod.run (ds := ds) (M.do (by omega) (ok d List.mem_cons_self)) (fun x hx => ok x (List.mem_cons_of_mem _ hx)) (by omega)
  rw [show k + (ds.length + 1) = k + 1 + ds.length by omega]
  exact this
def Kp (q : Addr) (H H' : Hp) : Prop := ∀ b o, H b = some o → b ≠ q → H' b = some o
theorem Kp.trans {q : Addr} {H H1 H2 : Hp} (a : Kp q H H1) (b : Kp q H1 H2) : Kp q H H2 := fun c o h n => b c o (a c o h n) n
theorem Kp.imm {q C dx : Addr} {fs : List (Str × V)} {H H' : Hp} (a : Kp q H H') (hq : H q = some (.ins C dx fs)) : Imm H H' :=
 ⟨fun b xs hb => a b _ hb (fun e => by rw [e, hq] at hb; cases hb), fun b u v hb => a b _ hb (fun e => by rw [e, hq] at hb; cases hb)⟩
theorem fld_step {q CC dx l : Addr} {H1 : Hp} {fs gs : List (Str × V)} (hq : H1 q = some (.ins CC dx fs)) (nl : H1 l = none) : Kp q H1 (upd (upd H1 l (.lst [])) q (.ins CC dx gs)) ∧ (upd (upd H1 l (.lst [])) q (.ins CC dx gs)) q = some (.ins CC dx gs) ∧ (upd (upd H1 l (.lst [])) q (.ins CC dx gs)) l = some (.lst []) ∧ l ≠ q := by
 have e : l ≠ q := fun z => by rw [z, hq] at nl; cases nl
 refine ⟨fun b o hb nb => ?_, xU9, (xU2 e).trans xU9, e⟩
 rw [xU2 nb, xU2 (fun z => by rw [z, nl] at hb; cases hb)]
 exact hb
theorem c1 : ¬ (("offices" : Str) = "letters") := by decide +kernel
theorem c2 : ¬ (("offices" : Str) = "events") := by decide +kernel
theorem c3 : ¬ (("offices" : Str) = "answers") := by decide +kernel
theorem c4 : ¬ (("letters" : Str) = "events") := by decide +kernel
theorem c5 : ¬ (("letters" : Str) = "answers") := by decide +kernel
theorem c6 : ¬ (("events" : Str) = "answers") := by decide +kernel
theorem put_c {lo ll le la : Addr} : putF "answers" (.ref la) (putF "events" (.ref le) (putF "letters" (.ref ll) (putF "offices" (.ref lo) []))) = cfl lo ll le la := by
 show putF "answers" _ (putF "events" _ (putF "letters" _ [(("offices" : Str), V.ref lo)])) = _
 rw [xW9 c1]
 show putF "answers" _ (putF "events" _ [(("offices" : Str), V.ref lo), ("letters", V.ref ll)]) = _
 rw [xW9 c2, xW9 c4]
 show putF "answers" _ [(("offices" : Str), V.ref lo), ("letters", V.ref ll), ("events", V.ref le)] = _
 rw [xW9 c3, xW9 c5, xW9 c6]
 rfl
def spCInit (K : PySem.W.Frag) (C CC : Addr) : Sp := fun vs H Q _ => ∃ (q dx : Addr) (n : Nat) (coins : Int), vs = [.ref q, .int n, .int coins] ∧ H q = some (.ins CC dx []) ∧ 2 ≤ n ∧ n < 1000 ∧
 ∀ (A : Adr) (H' : Hp), A.q = q → CrsX K C CC H' A (start n coins) [] [] [] → (∀ b, A.own b → H b = none) → Kp q H H' → Q .non H'
def spCourse (K : PySem.W.Frag) (C CC : Addr) : Sp := fun vs H Q _ => ∃ (n : Nat) (coins : Int) (b : Addr) (ds : List Deed) (xs : List V), vs = [.int n, .int coins, .ref b] ∧ SqL K H b xs ∧ xU3 K H (ds.map yX6) xs ∧ (∀ d ∈ ds, xQ7 n d) ∧ ds.length ≤ 200 ∧ 2 ≤ n ∧ n < 1000 ∧
 ∀ (A : Adr) (H' : Hp) (xl xe xa : List V), CrsX K C CC H' A (runC (start n coins) ds) xl xe xa → (∀ b, A.own b → H b = none) → Same H H' → Q (.ref A.q) H'
section
variable {P : Program} {w : World} {K : PySem.W.Frag} {mg : Str → Option Value} {base : Heap} {C CC fN fT fC fR fF fO : Addr}
theorem oCi : ownB ["self", "count", "coins"] (defScope cInit) = true := by decide +kernel
theorem scCi : FnScope ["self", "count", "coins"] ["self", "count", "coins"] (defScope cInit) := ⟨rfl, rfl, rfl, by decide +kernel, rfl, by decide +kernel, by decide +kernel⟩
theorem ok_cinit {f f0 : Addr} {fd fd0 : FuncData} (F : Fun K "__init__" "Course.__init__" cInit f fd) (T : Txt K mg C fN fT fC fR fF fO) (CT : CTx K mg CC)
  (M : Mk K C f0) (b0 : Binds K fd0 ["self", "number", "count", "coins"] []) (G0 : FnOk P w K mg base CX0 1 f0 fd0 ["self", "number", "count", "coins"] (spInit K C)) : FnOk P w K mg base CX0 3 f fd ["self", "count", "coins"] (spCInit K C CC) := by
 refine okB (body := [stm cInit 0, stm cInit 1, stm cInit 2, stm cInit 3]) F scCi (fun vs H Q E h => ?_) (by kernel_rfl) (fun cdv A' outer s0 H vs Q E hr h => ?_)
 ·obtain ⟨q, dx, n, coins, rfl, _⟩ := h
  rfl
 ·obtain ⟨q, dx, n, coins, rfl, hq, hn2, hn, fin⟩ := h
  refine ⟨_, (xU8 (yU2 (oV oCi 0) (eC [2, 1] ["coins", "count"] rfl (rng1 T.range (aC (oV oCi 1) xU7)) (fun _ _ _ _ _ => yZ2) (fun _ _ _ _ _ => (cM M G0 hr T.office b0 .nil xV1 (aC (sV 0) (aC (sV 2) (aC (sV 1) xU7)))))) rfl)
   (xU8 (yU2 (oV oCi 0) (xQ8 xU7) rfl)
   (xU8 (yU2 (oV oCi 0) (xQ8 xU7) rfl)
   (xU6 (yU2 (oV oCi 0) (xQ8 xU7) rfl))))), ?_⟩
  refine cut4 ?_
  intro rr3 rr2 rr1
  refine ⟨_, rfl, (n : Int), rfl, by omega, by omega, yW5 (n := n) (lo := 0) (fun D i ys H2 => ∃ ps : List Addr, ys = ps.map V.ref ∧ ps.length = i ∧ ps.Nodup ∧ (∀ (u : Nat) p, ps[u]? = some p → OffAt K C H2 p (off0 n coins u) ∧ H p = none ∧ ¬ Refs (H2 p) D) ∧ Same H H2 ∧ H2 D = some (.lst ys))
   (fun D hD => ⟨[], rfl, rfl, List.nodup_nil, fun u p h => by simp at h, xU4 hD, xU9⟩) (fun D i ys H2 hD hi ⟨ps, h1, h2, h3, h4, h5, h6⟩ => h6) (fun D i ys H2 hD hi ⟨ps, h1, h2, h3, h4, h5, h6⟩ => ?_) (fun lo ys H1 hD ⟨ps, h1, h2, h3, h4, h5, h6⟩ => ?_)⟩
  ·refine ⟨_, rfl, _, rfl, _, rfl, fun p dxp np ndx hne => ⟨p, dxp, _, coins, n, rfl, xU9, hn2, hn, fun H3 O3 x3 => ⟨rfl, ?_⟩⟩⟩
   have s3 := made_same np ndx x3
   have hD3 := s3 _ _ h6
   have npD : p ≠ D := fun e => by rw [e, h6] at np; cases np
   have yl : ys.length = i := by rw [h1, List.length_map, h2]
   refine ⟨hD3, xV0 (by omega), ps ++ [p], by rw [h1, List.map_append]; rfl, by rw [List.length_append, h2]; rfl, ?_, fun u p' hu => ?_, xW2 (h5.trans s3) hD, xU9⟩
   ·rw [List.nodup_append]
    refine ⟨h3, by simp, fun a ha b hb e => ?_⟩
    have hb : b = p := by simpa using hb
    obtain ⟨j, hj⟩ := List.getElem?_of_mem ha
    obtain ⟨dx', fs', e', _⟩ := (h4 j a hj).1.ins
    rw [e, hb, np] at e'; cases e'
   ·have nrD : ¬ Refs (H3 p) D := fun z => by
     rcases x3.refs D z with z | z
     ·rw [xU9] at z
      have z : (([] : List (Str × V)).lookup ("book" : Str) = some (.ref D) ∨ ([] : List (Str × V)).lookup ("tray" : Str) = some (.ref D) ∨ ([] : List (Str × V)).lookup ("kept" : Str) = some (.ref D)) := z
      rcases z with z | z | z <;> cases z
     ·have nDd : D ≠ dxp := fun e => by rw [← e, h6] at ndx; cases ndx
      rw [xU2 npD.symm, xU2 nDd, h6] at z; cases z
    have kD : ∀ p' o', OffAt K C H3 p' o' → ¬ Refs (H3 p') D → OffAt K C (upd H3 D (.lst (ys ++ [.ref p]))) p' o' ∧ ¬ Refs ((upd H3 D (.lst (ys ++ [.ref p]))) p') D := fun p' o' O' nr' => by
     obtain ⟨dx', fs', e', _⟩ := O'.ins
     have ne' : p' ≠ D := fun e => by rw [e, hD3] at e'; cases e'
     refine ⟨O'.keep (xX5 hD3) (fun u hu => (xU2 ne').trans hu) fun b xs hb hx => (xU2 fun e => nr' (by rw [← e]; exact hb)).trans hx, ?_⟩
     rw [xU2 ne']; exact nr'
    by_cases hlt : u < ps.length
    ·rw [List.getElem?_append_left hlt] at hu
     obtain ⟨g1, g2, g3⟩ := h4 u p' hu
     have g1' := g1.same s3
     obtain ⟨dx', fs', e', _⟩ := g1.ins
     have g3' : ¬ Refs (H3 p') D := by rw [s3 _ _ e', ← e']; exact g3
     exact ⟨(kD p' _ g1' g3').1, g2, (kD p' _ g1' g3').2⟩
    ·rw [List.getElem?_append_right (by omega)] at hu
     have hu0 : u - ps.length = 0 := by
      have := (List.getElem?_eq_some_iff.mp hu).1
      simp at this; omega
     rw [hu0] at hu
     have hpp : p = p' := by simpa using hu
     subst hpp
     have hui : u = i := by omega
     subst hui
     have O3 : OffAt K C H3 p (off0 n coins u) := by
      have e0 : off0 n coins u = ⟨0 + (u : Int), coins, List.replicate n 0, [], [], []⟩ := by rw [Int.zero_add]; rfl
      rw [e0]; exact O3
     exact ⟨(kD p _ O3 nrD).1, Same.free h5 np, (kD p _ O3 nrD).2⟩
  ·have hq1 := h5 _ _ hq
   have nql : q ≠ lo := fun e => by rw [← e, hq] at hD; cases hD
   refine ⟨_, rfl, q, CC, dx, _, rfl, hq1, CT.cl, CT.nO, (by show 0 < 1000; decide), ?_⟩
   have kq : Kp q H1 (upd H1 q (.ins CC dx (putF "offices" (.ref lo) []))) := fun b o hb nb => (xU2 nb).trans hb
   have hq2 : (upd H1 q (.ins CC dx (putF "offices" (.ref lo) []))) q = some (.ins CC dx (putF "offices" (.ref lo) [])) := xU9
   generalize upd H1 q (.ins CC dx (putF "offices" (.ref lo) [])) = H2 at kq hq2
   refine ⟨len0, fun ll nll => ⟨_, rfl, q, CC, dx, _, rfl, (xU2 fun e => by rw [← e, hq2] at nll; cases nll).trans hq2, CT.cl, CT.nL, (Nat.lt_of_le_of_lt (pl (Nat.le_refl 0)) (by decide)), ?_⟩⟩
   obtain ⟨k3, hq3, hl3, nlq⟩ := fld_step (gs := putF "letters" (.ref ll) (putF "offices" (.ref lo) [])) hq2 nll
   generalize upd (upd H2 ll (.lst [])) q (.ins CC dx (putF "letters" (.ref ll) (putF "offices" (.ref lo) []))) = H3 at k3 hq3 hl3
   refine ⟨len0, fun le nle => ⟨_, rfl, q, CC, dx, _, rfl, (xU2 fun e => by rw [← e, hq3] at nle; cases nle).trans hq3, CT.cl, CT.nV, (Nat.lt_of_le_of_lt (pl (pl (Nat.le_refl 0))) (by decide)), ?_⟩⟩
   obtain ⟨k4, hq4, hl4, neq⟩ := fld_step (gs := putF "events" (.ref le) (putF "letters" (.ref ll) (putF "offices" (.ref lo) []))) hq3 nle
   generalize upd (upd H3 le (.lst [])) q (.ins CC dx (putF "events" (.ref le) (putF "letters" (.ref ll) (putF "offices" (.ref lo) [])))) = H4 at k4 hq4 hl4
   refine ⟨len0, fun la nla => ⟨_, rfl, q, CC, dx, _, rfl, (xU2 fun e => by rw [← e, hq4] at nla; cases nla).trans hq4, CT.cl, CT.nA, (Nat.lt_of_le_of_lt (pl (pl (pl (Nat.le_refl 0)))) (by decide)), ?_⟩⟩
   obtain ⟨k5, hq5, hl5, naq⟩ := fld_step (gs := putF "answers" (.ref la) (putF "events" (.ref le) (putF "letters" (.ref ll) (putF "offices" (.ref lo) [])))) hq4 nla
   rw [put_c] at k5 hq5 hl5 ⊢
   generalize upd (upd H4 la (.lst [])) q (.ins CC dx (cfl lo ll le la)) = H5 at k5 hq5 hl5
   have hlo2 := kq _ _ h6 nql.symm
   have hlo3 := k3 _ _ hlo2 nql.symm
   have hlo4 := k4 _ _ hlo3 nql.symm
   have hll4 := k4 _ _ hl3 nlq
   have k25 := (k3.trans k4).trans k5
   have k15 := kq.trans k25
   have kH1 : Kp q H H1 := fun b o hb _ => h5 b o hb
   have kall : Kp q H H5 := kH1.trans k15
   have none_of : ∀ {Hx : Hp} {b : Addr}, Kp q H1 Hx → Hx b = none → b ≠ q → H1 b = none := fun {Hx b} kx hb nb => by
    cases e : H1 b with
    | none => rfl
    | some o => rw [kx _ _ e nb] at hb; cases hb
   have nl1 : H1 ll = none := none_of kq nll nlq
   have ne1 : H1 le = none := none_of (kq.trans k3) nle neq
   have na1 : H1 la = none := none_of ((kq.trans k3).trans k4) nla naq
   have hpl : ps.length = n := h2
   refine fin ⟨q, dx, lo, ll, le, la, ps⟩ H5 rfl ⟨hq5, k15 _ _ (h1 ▸ h6) nql.symm, h3, by show ps.length = (start n coins).offs.length; simp [start, hpl], k5 _ _ hll4 nlq, rfl, k5 _ _ hl4 neq, rfl, hl5, rfl, fun u p hu => ?_, fun p hp b hb => ?_, fun e => ?_, fun e => ?_, fun e => ?_, fun e => ?_, fun e => ?_, fun e => ?_⟩ (fun b hb => ?_) kall
   ·have hu' : u < n := by have : u < ps.length := (List.getElem?_eq_some_iff.mp hu).1; omega
    rw [yX2 hu']
    obtain ⟨g1, g2, g3⟩ := h4 u p hu
    have npq : p ≠ q := fun e => by rw [e, hq] at g2; cases g2
    exact g1.keep (k15.imm hq1) (fun o ho => k15 _ _ ho npq) fun b xs _ hb => k15 _ _ hb fun e => by rw [e, hq1] at hb; cases hb
   ·obtain ⟨u, hu⟩ := List.getElem?_of_mem hp
    obtain ⟨g1, g2, g3⟩ := h4 u p hu
    have npq : p ≠ q := fun e => by rw [e, hq] at g2; cases g2
    obtain ⟨dx0, cl0, lb0, lt0, lk0, bs0, ts0, ks0, X0⟩ := g1.x
    have hb1 : Refs (H1 p) b := by rw [k15 _ _ X0.ob npq] at hb; rw [X0.ob]; exact hb
    have hsome : H1 b ≠ none := fun z => by
     rw [X0.ob, xX2] at hb1
     rcases hb1 with e | e | e
     ·rw [e, X0.hb] at z; cases z
     ·rw [e, X0.ht] at z; cases z
     ·rw [e, X0.hk] at z; cases z
    rintro (e | e | e | e)
    ·rw [e] at hb1; exact g3 hb1
    ·exact hsome (by rw [e]; exact nl1)
    ·exact hsome (by rw [e]; exact ne1)
    ·exact hsome (by rw [e]; exact na1)
   ·have e : lo = ll := e
    rw [e, nl1] at h6; cases h6
   ·have e : lo = le := e
    rw [e, ne1] at h6; cases h6
   ·have e : lo = la := e
    rw [e, na1] at h6; cases h6
   ·have e : ll = le := e
    rw [e, nle] at hl3; cases hl3
   ·have e : ll = la := e
    rw [e, nla] at hll4; cases hll4
   ·have e : le = la := e
    rw [e, nla] at hl4; cases hl4
   ·have back : ∀ {b : Addr}, H1 b = none → H b = none := fun {b} z => Same.free h5 z
    rcases hb with e | e | e | e
    ·obtain ⟨u, hu⟩ := List.getElem?_of_mem e
     exact (h4 u b hu).2.1
    ·rw [e]; exact back nl1
    ·rw [e]; exact back ne1
    ·rw [e]; exact back na1
theorem oCq : ownB ["count", "coins", "deeds", "course", "deed"] (defScope sCourse) = true := by decide +kernel
theorem scCq : FnScope ["count", "coins", "deeds", "course", "deed"] ["count", "coins", "deeds"] (defScope sCourse) := ⟨rfl, rfl, rfl, by decide +kernel, rfl, by decide +kernel, by decide +kernel⟩
theorem ok_course {f fI fD : Addr} {fd fdI fdD : FuncData} (F : Fun K "course_of" "course_of" sCourse f fd) (CT : CTx K mg CC)
  (M : Mk K CC fI) (bI : Binds K fdI ["self", "count", "coins"] []) (GI : FnOk P w K mg base CX0 3 fI fdI ["self", "count", "coins"] (spCInit K C CC))
  (bD : Binds K fdD ["self", "deed"] []) (mD : Meth K CC "do" fD) (GD : FnOk P w K mg base CX0 9 fD fdD ["self", "deed"] (spCDo K C CC)) : FnOk P w K mg base CX0 10 f fd ["count", "coins", "deeds"] (spCourse K C CC) := by
 refine okB (body := [stm sCourse 0, stm sCourse 1, stm sCourse 2]) F scCq (fun vs H Q E h => ?_) (by kernel_rfl) (fun cdv A' outer s0 H vs Q E hr h => ?_)
 ·obtain ⟨n, coins, b, ds, xs, rfl, _⟩ := h
  rfl
 ·obtain ⟨n, coins, b, ds, xs, rfl, hb, hxs, ok, hl, n2, n3, fin⟩ := h
  have hr4 := hr.mono (by decide : 4 ≤ 9)
  have xlen := xW5 hxs
  rw [List.length_map] at xlen
  refine ⟨_, (xU8 (oS oCq 3 (cM M GI hr4 CT.course bI .nil xV1 (aC (oV oCq 0) (aC (oV oCq 1) xU7))))
   (xU8 (xQ0 PassesOwn.never rfl (xY2 (oV oCq 2)) (oT oCq 4)
    (xU6 (xQ9 (yU9 (oV oCq 3) CT.cl mD GD hr bD .nil xV1 (aC (oV oCq 4) xU7)))))
   (xU6 (xU1 (oV oCq 3))))), ?_⟩
  refine cut3 ?_
  intro rr2 rr1
  refine ⟨_, rfl, _, rfl, fun q dx nq ndx hne => ⟨q, dx, n, coins, rfl, xU9, n2, n3, fun A H1 eq X1 fr kp => ⟨rfl, ?_⟩⟩⟩
  subst eq
  have s1 : Same H H1 := fun b' o hb' => by
   have e1 : b' ≠ A.q := fun e => by rw [e, nq] at hb'; cases hb'
   have e2 : b' ≠ dx := fun e => by rw [e, ndx] at hb'; cases hb'
   exact kp b' o ((xU2 e1).trans ((xU2 e2).trans hb')) e1
  have fr1 : ∀ b', A.own b' → H b' = none := fun b' hb' => by
   have z := fr b' hb'
   by_cases e1 : b' = A.q
   ·rw [e1, xU9] at z; cases z
   ·rw [xU2 e1] at z
    by_cases e2 : b' = dx
    ·rw [e2]; exact ndx
    ·rw [xU2 e2] at z; exact z
  have step : ∀ {Hc Hd : Hp}, Same H Hc → Out A Hc Hd → Same H Hd := fun {Hc Hd} e o b' ob hb' => o b' ob (e b' ob hb') fun z => by rw [fr1 b' z] at hb'; cases hb'
  refine ⟨_, rfl, b, rfl, ⟨_, s1.seq hb⟩, yU7 (K := K) (a := b) (xs := xs) (fun i σ Hc => ∃ (v : Option V) (xl xe xa : List V), σ = [some (.int n), some (.int coins), some (.ref b), some (.ref A.q), v] ∧ CrsX K C CC Hc A (runC (start n coins) (ds.take i)) xl xe xa ∧ Same H Hc)
   ⟨none, [], [], [], rfl, X1, s1⟩ (fun i σ Hc _ ⟨v, xl, xe, xa, _, _, e⟩ => e.seq hb) ?_ ?_⟩
  ·rintro i y σ Hc hi ⟨v, xl, xe, xa, rfl, Xc, e⟩
   have hi' : i < ds.length := by have := (List.getElem?_eq_some_iff.mp hi).1; omega
   obtain ⟨x', hx', rx⟩ := xY6 hxs (i := i) (d := yX6 ds[i]) (by rw [List.getElem?_map, List.getElem?_eq_getElem hi']; rfl)
   rw [hi] at hx'
   cases hx'
   obtain ⟨bd, rfl, D⟩ := yQ2.mp (RepD.same e _ _ rx)
   have Md := Mod.run (ds := ds.take i) (start_mod (coins := coins) (Nat.le_of_lt n3)) (fun d hd => ok d (List.mem_of_mem_take hd)) (by rw [List.length_take]; omega)
   have etk : ds.take (i + 1) = ds.take i ++ [ds[i]] := xX7 (List.getElem?_eq_getElem hi')
   refine ⟨_, rfl, A.q, A.dx, _, rfl, Xc.ob, no_m5, _, rfl, A, _, xl, xe, xa, n, _, bd, ds[i], rfl, Xc, D, ok _ (List.getElem_mem hi'), Md, by rw [List.length_take]; omega, fun H' xl' xe' xa' X' o' => ?_⟩
   exact ⟨_, xl', xe', xa', rfl, by rw [etk, runC_snoc]; exact X', step e o'⟩
  ·rintro σ Hc ⟨v, xl, xe, xa, rfl, Xc, e⟩
   rw [xlen, List.take_length] at Xc
   exact ⟨_, rfl, fin A Hc xl xe xa Xc fr1 e⟩
end
end Of
end
section
seal L2.PE L2.PT L2.PW L2.PA L2.PS L2.PSs L2.PG L2.PGs L2.PI L3.PTs L2.PO L2.CallR L2.OpR L2.IxR L2.MtR L2.PSet L2.SlR
namespace Of
open PySem L2 L3 L4 L6
def spEventsOf (K : PySem.W.Frag) : Sp := fun vs H Q _ => ∃ (n : Nat) (coins : Int) (b : Addr) (ds : List Deed) (xs : List V), vs = [.int n, .int coins, .ref b] ∧ SqL K H b xs ∧ xU3 K H (ds.map yX6) xs ∧ (∀ d ∈ ds, xQ7 n d) ∧ ds.length ≤ 200 ∧ 2 ≤ n ∧ n < 1000 ∧
 ∀ (l : Addr) (ys : List V) (H' : Hp), H' l = some (.lst ys) → All2 (EvV H') (runC (start n coins) ds).evs ys → Same H H' → Q (.ref l) H'
section
variable {P : Program} {w : World} {K : PySem.W.Frag} {mg : Str → Option Value} {base : Heap} {C CC : Addr}
theorem oCe : ownB ["count", "coins", "deeds"] (defScope sEventsOf) = true := by decide +kernel
theorem scCe : FnScope ["count", "coins", "deeds"] ["count", "coins", "deeds"] (defScope sEventsOf) := ⟨rfl, rfl, rfl, by decide +kernel, rfl, by decide +kernel, by decide +kernel⟩
theorem ok_events_of {f fO' : Addr} {fd fdO : FuncData} (F : Fun K "events_of" "events_of" sEventsOf f fd) (CT : CTx K mg CC)
  (mO : mg "course_of" = some (.ref fO')) (FO : Fun K "course_of" "course_of" sCourse fO' fdO) (bO : Binds K fdO ["count", "coins", "deeds"] []) (GO : FnOk P w K mg base CX0 10 fO' fdO ["count", "coins", "deeds"] (spCourse K C CC)) : FnOk P w K mg base CX0 11 f fd ["count", "coins", "deeds"] (spEventsOf K) := by
 refine okB (body := [stm sEventsOf 0]) F scCe (fun vs H Q E h => ?_) (by kernel_rfl) (fun cdv A' outer s0 H vs Q E hr h => ?_)
 ·obtain ⟨n, coins, b, ds, xs, rfl, _⟩ := h
  rfl
 ·obtain ⟨n, coins, b, ds, xs, rfl, hb, hxs, ok, hl, n2, n3, fin⟩ := h
  refine ⟨_, (xU6 (xU1 (xX9 (cF GO hr mO FO.kp bO .nil xV1 (aC (oV oCe 0) (aC (oV oCe 1) (aC (oV oCe 2) xU7)))) rfl))), ?_⟩
  refine ⟨_, rfl, _, rfl, _, rfl, n, coins, b, ds, xs, rfl, hb, hxs, ok, hl, n2, n3, fun A H' xl xe xa X fr e => ?_⟩
  exact ⟨A.q, CC, A.dx, _, _, rfl, X.ob, CT.cl, CT.nV, at_events, fin A.le xe H' X.he X.re e⟩
end
end Of
end
section
seal L2.PE L2.PT L2.PW L2.PA L2.PS L2.PSs L2.PG L2.PGs L2.PI L3.PTs L2.PO L2.CallR L2.OpR L2.IxR L2.MtR L2.PSet L2.SlR
namespace Of
open PySem L2 L3 L4 L6
def spLettersOf (K : PySem.W.Frag) : Sp := fun vs H Q _ => ∃ (n : Nat) (coins : Int) (b : Addr) (ds : List Deed) (xs : List V), vs = [.int n, .int coins, .ref b] ∧ SqL K H b xs ∧ xU3 K H (ds.map yX6) xs ∧ (∀ d ∈ ds, xQ7 n d) ∧ ds.length ≤ 200 ∧ 2 ≤ n ∧ n < 1000 ∧
 ∀ (l : Addr) (ys : List V) (H' : Hp), H' l = some (.lst ys) → xU3 K H' ((runC (start n coins) ds).lets.map letD) ys → Same H H' → Q (.ref l) H'
section
variable {P : Program} {w : World} {K : PySem.W.Frag} {mg : Str → Option Value} {base : Heap} {C CC : Addr}
theorem oCl : ownB ["count", "coins", "deeds"] (defScope sLettersOf) = true := by decide +kernel
theorem scCl : FnScope ["count", "coins", "deeds"] ["count", "coins", "deeds"] (defScope sLettersOf) := ⟨rfl, rfl, rfl, by decide +kernel, rfl, by decide +kernel, by decide +kernel⟩
theorem ok_letters_of {f fO' : Addr} {fd fdO : FuncData} (F : Fun K "letters_of" "letters_of" sLettersOf f fd) (CT : CTx K mg CC)
  (mO : mg "course_of" = some (.ref fO')) (FO : Fun K "course_of" "course_of" sCourse fO' fdO) (bO : Binds K fdO ["count", "coins", "deeds"] []) (GO : FnOk P w K mg base CX0 10 fO' fdO ["count", "coins", "deeds"] (spCourse K C CC)) : FnOk P w K mg base CX0 11 f fd ["count", "coins", "deeds"] (spLettersOf K) := by
 refine okB (body := [stm sLettersOf 0]) F scCl (fun vs H Q E h => ?_) (by kernel_rfl) (fun cdv A' outer s0 H vs Q E hr h => ?_)
 ·obtain ⟨n, coins, b, ds, xs, rfl, _⟩ := h
  rfl
 ·obtain ⟨n, coins, b, ds, xs, rfl, hb, hxs, ok, hl, n2, n3, fin⟩ := h
  refine ⟨_, (xU6 (xU1 (xX9 (cF GO hr mO FO.kp bO .nil xV1 (aC (oV oCl 0) (aC (oV oCl 1) (aC (oV oCl 2) xU7)))) rfl))), ?_⟩
  refine ⟨_, rfl, _, rfl, _, rfl, n, coins, b, ds, xs, rfl, hb, hxs, ok, hl, n2, n3, fun A H' xl xe xa X fr e => ?_⟩
  exact ⟨A.q, CC, A.dx, _, _, rfl, X.ob, CT.cl, CT.nL, yY6, fin A.ll xl H' X.hl X.rl e⟩
end
end Of
end
namespace Of
open PySem PySem.Spec L2 L3 L4
def xV6 (es : List Ev) : List Let := (es.filter fun e => e.sent).map fun e => e.l
def yX3 (R : List (List Int)) (e : Ev) : List (List Int) := R.set e.u (inc (R.getD e.u []) e.l.s)
def yV9 (R : List (List Int)) (es : List Ev) : List (List Int) := es.foldl yX3 R
def xY3 (n : Nat) : List (List Int) := List.replicate n (List.replicate n 0)
structure Ok (n : Nat) (R : List (List Int)) (S : List Let) (e : Ev) : Prop where
 u : e.u < n
 rd : xQ2 e.l.s e.l.st (R.getD e.u []) = true
 fit : Fit n e.l
 st : e.sent = true → e.l.s = e.u ∧ e.l.st = inc (R.getD e.u []) e.l.s
 gt : e.sent = false → e.l.s ≠ e.u ∧ e.l ∈ S
def Good (n : Nat) : List (List Int) → List Let → List Ev → Prop
 | _, _, [] => True
 | R, S, e :: es => Ok n R S e ∧ Good n (yX3 R e) (S ++ xV6 [e]) es
theorem xZ3 {a b : List Ev} : xV6 (a ++ b) = xV6 a ++ xV6 b := by simp [xV6]
theorem yY4 {e : Ev} {b : List Ev} : xV6 (e :: b) = xV6 [e] ++ xV6 b := by rw [← xZ3]; rfl
theorem Good.append {n : Nat} : ∀ {a b : List Ev} {R : List (List Int)} {S : List Let}, Good n R S a → Good n (yV9 R a) (S ++ xV6 a) b → Good n R S (a ++ b)
 | [], b, R, S, _, h => by simpa [yV9, xV6] using h
 | e :: a, b, R, S, ⟨h1, h2⟩, h => ⟨h1, Good.append h2 (by rw [List.append_assoc, ← yY4]; exact h)⟩
theorem Good.at_ {n : Nat} : ∀ {es : List Ev} {R : List (List Int)} {S : List Let} {i : Nat} {e : Ev}, Good n R S es → es[i]? = some e → Ok n (yV9 R (es.take i)) (S ++ xV6 (es.take i)) e
 | [], R, S, i, e, _, h => by simp at h
 | x :: es, R, S, 0, e, ⟨h1, _⟩, h => by
  have : x = e := by simpa using h
  subst this
  simpa [yV9, xV6] using h1
 | x :: es, R, S, i + 1, e, ⟨_, h2⟩, h => by
  have := Good.at_ h2 (i := i) (by simpa using h)
  rw [List.append_assoc, ← yY4] at this
  exact this
theorem vX7 {a b : List Ev} {R : List (List Int)} : yV9 R (a ++ b) = yV9 (yV9 R a) b := by unfold yV9; rw [List.foldl_append]
theorem rowsF_len {es : List Ev} : ∀ {R : List (List Int)}, (yV9 R es).length = R.length := by
 induction es with
 | nil => intro R; rfl
 | cons e es ih => intro R; show (yV9 (yX3 R e) es).length = _; rw [ih]; unfold yX3; rw [List.length_set]
def Walk : List Int → List Let → List Int → Prop
 | cs, [], cs' => cs = cs'
 | cs, l :: ls, cs' => xQ2 l.s l.st cs = true ∧ Walk (inc cs l.s) ls cs'
theorem Walk.append : ∀ {a b : List Let} {x y z : List Int}, Walk x a y → Walk y b z → Walk x (a ++ b) z
 | [], b, x, y, z, h1, h2 => by cases h1; exact h2
 | l :: a, b, x, y, z, ⟨h1, h2⟩, h3 => ⟨h1, Walk.append h2 h3⟩
theorem drain_walk : ∀ (k : Nat) (o : Off), Walk o.clock (drain k o).1 (drain k o).2.clock
 | 0, o => rfl
 | k + 1, o => by
  cases hf : xZ0 o.tray o.clock with
  | none => simp only [drain, hf]; exact rfl
  | some i =>
   obtain ⟨l, hl, hr⟩ := yQ3 hf
   simp only [drain, hf, hl]
   exact ⟨hr, drain_walk k (xW3 o i l)⟩
theorem took_walk (o : Off) (l : Let) : Walk o.clock (took o l).1 (took o l).2.clock := by
 have := drain_walk (put o l).tray.length (put o l)
 have e : (put o l).clock = o.clock := by unfold put; split <;> rfl
 rw [e] at this
 exact this
theorem vW0 : ∀ (ls : List Let) (o : Off), Walk o.clock (xU0 o ls).1.flatten (xU0 o ls).2.clock
 | [], o => rfl
 | l :: ls, o => by
  simp only [xU0, List.flatten_cons]
  exact (took_walk o l).append (vW0 ls _)
theorem Know.row {n : Nat} {ls : List Let} (M : Mail n ls) : ∀ (row : List Let) {kn : List Let} {o : Off}, Know n ls kn o → (∀ l ∈ row, l ∈ ls) → Know n ls (kn ++ (xU0 o row).1.flatten) (xU0 o row).2
 | [], kn, o, K, _ => by simpa [xU0] using K
 | l :: row, kn, o, K, hs => by
  obtain ⟨g1, g2, g3⟩ := K.took M (hs l List.mem_cons_self)
  have := Know.row M row g1 (fun x hx => hs x (List.mem_cons_of_mem _ hx))
  simp only [xU0, List.flatten_cons]
  rw [List.append_assoc] at this
  exact this
structure Rep (n : Nat) (c : Crs) : Prop where
 ls : c.lets = xV6 c.evs
 rw_ : ∀ u, u < n → (yV9 (xY3 n) c.evs).getD u [] = (c.off u).clock
 ok : Good n (xY3 n) [] c.evs
 wh : ∀ l ∈ c.lets, okLet n l
theorem vV7 {n u t : Nat} {R : List (List Int)} {l : Let} {b : Bool} (h : R.length = n) (ht : t < n) : (yX3 R ⟨b, t, l⟩).getD u [] = if t = u then inc (R.getD t []) l.s else R.getD u [] := by
 unfold yX3
 rw [getD_set (by rw [h]; exact ht)]
theorem walk_rows {n t : Nat} (ht : t < n) : ∀ {ls : List Let} {R : List (List Int)} {cs cs' : List Int}, R.length = n → R.getD t [] = cs → Walk cs ls cs' →
  (∀ u, (yV9 R (ls.map fun l => ⟨false, t, l⟩)).getD u [] = if t = u then cs' else R.getD u [])
 | [], R, cs, cs', hR, hr, h => fun u => by
  cases h
  show R.getD u [] = _
  split
  ·next e => rw [← e]; exact hr
  ·rfl
 | l :: ls, R, cs, cs', hR, hr, ⟨h1, h2⟩ => fun u => by
  show (yV9 (yX3 R ⟨false, t, l⟩) (ls.map fun l => ⟨false, t, l⟩)).getD u [] = _
  rw [walk_rows ht (R := yX3 R ⟨false, t, l⟩) (cs := inc cs l.s) (by unfold yX3; rw [List.length_set]; exact hR) (by rw [vV7 hR ht, if_pos rfl, hr]) h2 u, vV7 hR ht]
  split <;> rfl
theorem walk_good {n t : Nat} (ht : t < n) {S : List Let} : ∀ {ls : List Let} {R : List (List Int)} {cs cs' : List Int}, R.length = n → R.getD t [] = cs → Walk cs ls cs' → (∀ l ∈ ls, l ∈ S ∧ l.s ≠ t ∧ Fit n l) → Good n R S (ls.map fun l => ⟨false, t, l⟩)
 | [], R, cs, cs', _, _, _, _ => trivial
 | l :: ls, R, cs, cs', hR, hr, ⟨h1, h2⟩, hm => by
  have hl := hm l List.mem_cons_self
  refine ⟨⟨ht, by show xQ2 l.s l.st (R.getD t []) = true; rw [hr]; exact h1, hl.2.2, (fun z => by cases z), fun _ => ⟨hl.2.1, hl.1⟩⟩, ?_⟩
  have e : xV6 [⟨false, t, l⟩] = [] := rfl
  rw [e, List.append_nil]
  exact walk_good ht (cs := inc cs l.s) (by unfold yX3; rw [List.length_set]; exact hR) (by rw [vV7 hR ht, if_pos rfl, hr]) h2 (fun x hx => hm x (List.mem_cons_of_mem _ hx))
theorem sentIn_got {t : Nat} : ∀ {ls : List Let}, xV6 (ls.map fun l => ⟨false, t, l⟩) = []
 | [] => rfl
 | l :: ls => by rw [List.map_cons, yY4, sentIn_got]; rfl
theorem rows0_len {n : Nat} : (xY3 n).length = n := List.length_replicate
theorem bring_flat {n t : Nat} {c : Crs} {ls : List Let} (W : Wd n c) (ht : t < n) (hs : ∀ l ∈ ls, l ∈ c.lets) : ∀ l ∈ (xU0 (c.off t) ls).1.flatten, l ∈ c.lets ∧ l.s ≠ t ∧ Fit n l := fun l hl => by
 obtain ⟨⟨kn, K, h1, h2, h3⟩, hn, htr⟩ := W.of t ht
 have K2 := K.row W.ml ls hs
 have hm := K2.gm l (List.mem_append_right _ hl)
 refine ⟨hm, fun e => ?_, W.ml.fit l hm⟩
 have nd := K2.gn
 rw [List.nodup_append] at nd
 exact nd.2.2 l (h1 l hm e) l hl rfl
theorem Rep.bring {n t : Nat} {c : Crs} {ls : List Let} (W : Wd n c) (r : Rep n c) (ht : t < n) (hs : ∀ l ∈ ls, l ∈ c.lets) : Rep n (xZ8 c t ls).2 := by
 have hR : (yV9 (xY3 n) c.evs).length = n := by rw [rowsF_len, rows0_len]
 have hw := vW0 ls (c.off t)
 have hf := bring_flat W ht hs
 unfold xZ8
 dsimp only
 generalize (xU0 (c.off t) ls).1.flatten = fl at hw hf
 generalize (xU0 (c.off t) ls).2 = o' at hw
 refine ⟨?_, fun u hu => ?_, ?_, r.wh⟩
 ·show c.lets = xV6 (c.evs ++ _)
  rw [xZ3, sentIn_got, List.append_nil]; exact r.ls
 ·show (yV9 (xY3 n) (c.evs ++ _)).getD u [] = ((c.offs.set t o').getD u vW6).clock
  rw [vX7, walk_rows ht hR (r.rw_ t ht) hw u, yW3 (by rw [W.ln]; exact ht)]
  by_cases e : t = u
  ·rw [if_pos e, if_pos e]
  ·rw [if_neg e, if_neg e]; exact r.rw_ u hu
 ·show Good n (xY3 n) [] (c.evs ++ _)
  refine r.ok.append ?_
  rw [List.nil_append, ← r.ls]
  exact walk_good ht hR (r.rw_ t ht) hw hf
theorem ready_inc {w : Nat} {cs : List Int} (h : w < cs.length) : xQ2 w (inc cs w) cs = true := by
 unfold xQ2
 rw [Bool.and_eq_true, decide_eq_true_eq, List.all_eq_true]
 refine ⟨by rw [yX9 h, if_pos rfl], fun b hb => ?_⟩
 obtain ⟨k, hk, rfl⟩ := List.mem_map.mp hb
 have hks : k ≠ w := of_decide_eq_true (List.mem_filter.mp hk).2
 refine decide_eq_true ?_
 rw [yX9 h, if_neg (fun e => hks e.symm)]; omega
theorem Rep.send {n w : Nat} {c : Crs} {x : What} (W : Wd n c) (r : Rep n c) (hw : w < n) (ok : okWhat w n x) : Rep n (yY3 c w x).2 := by
 unfold yY3
 by_cases hc : canPay (c.off w) x = true
 ·have e : sent1 w (c.off w) x = (some (xX3 (c.off w) w x), yX7 (payO (c.off w) x) w x) := if_pos hc
  rw [e]
  dsimp only
  have hR : (yV9 (xY3 n) c.evs).length = n := by rw [rowsF_len, rows0_len]
  obtain ⟨⟨kn, K, h1, h2, h3⟩, hn, htr⟩ := W.of w hw
  have hwl : w < (c.off w).clock.length := by rw [K.ck]; exact hw
  have hil : (inc (c.off w).clock w).length = n := by unfold inc; rw [List.length_set]; exact K.ck
  refine ⟨?_, fun u hu => ?_, ?_, fun l hl => ?_⟩
  ·show c.lets ++ _ = xV6 (c.evs ++ _)
   rw [xZ3, ← r.ls]; rfl
  ·show (yV9 (xY3 n) (c.evs ++ [_])).getD u [] = ((c.offs.set w (yX7 (payO (c.off w) x) w x)).getD u vW6).clock
   rw [vX7]
   show (yX3 (yV9 (xY3 n) c.evs) _).getD u [] = _
   rw [vV7 hR hw, yW3 (by rw [W.ln]; exact hw), r.rw_ w hw]
   by_cases e : w = u
   ·rw [if_pos e, if_pos e]
    obtain ⟨p1, p2, p3, p4, p5⟩ := payO_book (c.off w) x
    show inc (c.off w).clock w = inc (payO (c.off w) x).clock w
    rw [p3]
   ·rw [if_neg e, if_neg e]; exact r.rw_ u hu
  ·show Good n (xY3 n) [] (c.evs ++ [_])
   refine r.ok.append ⟨⟨hw, ?_, ⟨hw, hil⟩, fun _ => ⟨rfl, ?_⟩, (fun z => by cases z)⟩, trivial⟩
   ·show xQ2 w (inc (c.off w).clock w) ((yV9 (xY3 n) c.evs).getD w []) = true
    rw [r.rw_ w hw]; exact ready_inc hwl
   ·show inc (c.off w).clock w = inc ((yV9 (xY3 n) c.evs).getD w []) w
    rw [r.rw_ w hw]
  ·rcases List.mem_append.mp hl with z | z
   ·exact r.wh l z
   ·have : l = xX3 (c.off w) w x := by simpa using z
    subst this
    refine ⟨hw, hil, fun y hy => ?_, ok⟩
    obtain ⟨i, hi, ey⟩ := List.getElem_of_mem (show y ∈ inc (c.off w).clock w from hy)
    have := yX9 (cs := (c.off w).clock) (s := w) (u := i) hwl
    rw [List.getD_eq_getElem?_getD, List.getElem?_eq_getElem hi, Option.getD_some, ey, K.cl] at this
    rw [this]
    split <;> omega
 ·have e : sent1 w (c.off w) x = (none, c.off w) := if_neg hc
  rw [e]
  exact r
theorem Rep.deed {n : Nat} {c : Crs} {d : Deed} (W : Wd n c) (r : Rep n c) (hd : xQ7 n d) : Rep n (answer c d).2 := by
 cases d with
 | pay w t m => exact r.send W hd.1 hd.2
 | cut w => exact r.send W hd trivial
 | carry k t =>
  cases e : yU6 c k with
  | none => simp only [answer, e]; exact r
  | some l =>
   simp only [answer, e]
   refine r.bring W hd fun x hx => ?_
   have : x = l := by simpa using hx
   subst this
   unfold yU6 at e
   split at e
   ·exact List.mem_of_getElem? e
   ·cases e
 | bring t => exact r.bring W hd fun x hx => List.mem_reverse.mp hx
theorem Rep.start {n : Nat} {coins : Int} : Rep n (start n coins) := by
 refine ⟨rfl, fun u hu => ?_, trivial, fun _ h => nomatch h⟩
 show (xY3 n).getD u [] = _
 rw [yX2 hu]
 unfold xY3
 rw [List.getD_eq_getElem?_getD, List.getElem?_replicate, if_pos hu]; rfl
theorem Rep.run {n : Nat} : ∀ {ds : List Deed} {c : Crs}, Wd n c → Rep n c → (∀ d ∈ ds, xQ7 n d) → Wd n (runC c ds) ∧ Rep n (runC c ds)
 | [], c, W, r, _ => ⟨W, r⟩
 | d :: ds, c, W, r, ok => by
  have g := r.deed W (ok d List.mem_cons_self)
  exact Rep.run (ds := ds) (W.do (ok d List.mem_cons_self)) ⟨g.ls, g.rw_, g.ok, g.wh⟩ fun x hx => ok x (List.mem_cons_of_mem _ hx)
end Of
namespace Of
open PySem PySem.Spec L2 L3 L4
def knOf (u : Nat) (es : List Ev) : List Let := (es.filter fun e => decide (e.u = u)).map fun e => e.l
theorem xX0 {u : Nat} {a b : List Ev} : knOf u (a ++ b) = knOf u a ++ knOf u b := by simp [knOf]
theorem yV6 {u : Nat} {e : Ev} : knOf u [e] = if e.u = u then [e.l] else [] := by
 by_cases h : e.u = u <;> simp [knOf, h]
def ghost (u : Nat) (cs : List Int) (tr : List Let) : Off := ⟨u, 0, cs, [], tr, []⟩
structure KW (n : Nat) (R : List (List Int)) (S : List Let) (kn : Nat → List Let) : Prop where
 ml : Mail n S
 rl : R.length = n
 kw : ∀ u, u < n → Know n S (kn u) (ghost u (R.getD u []) [])
 ow : ∀ u, u < n → ∀ l ∈ S, l.s = u → l ∈ kn u
theorem KW.start {n : Nat} : KW n (xY3 n) [] (fun u => knOf u []) := by
 refine ⟨Mail.nil, rows0_len, fun u hu => ?_, (fun u hu l hl => nomatch hl)⟩
 have h0 : (xY3 n).getD u [] = List.replicate n 0 := by
  unfold xY3
  rw [List.getD_eq_getElem?_getD, List.getElem?_replicate, if_pos hu]; rfl
 rw [h0]
 refine ⟨(fun l hl => nomatch hl), List.nodup_nil, List.length_replicate, fun v => ?_, (fun l hl => nomatch hl), (fun l hl => nomatch hl), List.nodup_nil⟩
 show (List.replicate n (0 : Int)).getD v 0 = _
 rw [List.getD_eq_getElem?_getD, List.getElem?_replicate]; split <;> rfl
theorem Know.got {n u : Nat} {S kn : List Let} {cs : List Int} {l : Let} (M : Mail n S) (K : Know n S kn (ghost u cs [])) (hl : l ∈ S) (hr : xQ2 l.s l.st cs = true) : l ∉ kn ∧ Know n S (kn ++ [l]) (ghost u (inc cs l.s) []) := by
 have hn : xV4 l = cs.getD l.s 0 + 1 := ready_own hr
 have hnk : l ∉ kn := fun z => by
  have := (K.lo l hl).mpr z
  have : xV4 l ≤ cs.getD l.s 0 := this
  omega
 refine ⟨hnk, ?_⟩
 have K1 : Know n S kn (ghost u cs [l]) := ⟨K.gm, K.gn, K.ck, K.cl, K.lo, fun x hx => by
  have : x = l := by simpa [ghost] using hx
  rw [this]; exact ⟨hl, hnk⟩, by simp [ghost]⟩
 have := Know.hand (i := 0) (l := l) M K1 rfl hr
 exact ⟨this.gm, this.gn, this.ck, this.cl, this.lo, (fun x hx => nomatch hx), List.nodup_nil⟩
theorem KW.got {n : Nat} {R : List (List Int)} {S : List Let} {kn : Nat → List Let} {e : Ev} (W : KW n R S kn) (o : Ok n R S e) (hs : e.sent = false) : KW n (yX3 R e) S (fun u => kn u ++ knOf u [e]) := by
 refine ⟨W.ml, by unfold yX3; rw [List.length_set]; exact W.rl, fun u hu => ?_, fun u hu l hl hls => List.mem_append_left _ (W.ow u hu l hl hls)⟩
 have er : (yX3 R e).getD u [] = if e.u = u then inc (R.getD e.u []) e.l.s else R.getD u [] := by
  unfold yX3
  rw [getD_set (by rw [W.rl]; exact o.u)]
 rw [er, yV6]
 by_cases h : e.u = u
 ·rw [if_pos h, if_pos h]
  subst h
  exact ((W.kw e.u hu).got W.ml (o.gt hs).2 o.rd).2
 ·rw [if_neg h, if_neg h, List.append_nil]
  exact W.kw u hu
theorem KW.sent {n : Nat} {R : List (List Int)} {S : List Let} {kn : Nat → List Let} {e : Ev} (W : KW n R S kn) (o : Ok n R S e) (hs : e.sent = true) : KW n (yX3 R e) (S ++ [e.l]) (fun u => kn u ++ knOf u [e]) := by
 obtain ⟨ho, hst⟩ := o.st hs
 have K := W.kw e.u o.u
 have hwl : e.u < (R.getD e.u []).length := by rw [show (R.getD e.u []).length = n from K.ck]; exact o.u
 rw [ho] at hst
 have hI : ∀ v, e.l.st.getD v 0 = (R.getD e.u []).getD v 0 + if e.u = v then 1 else 0 := fun v => by rw [hst]; exact yX9 hwl
 have hcl : ∀ v, (R.getD e.u []).getD v 0 = (cntS v (kn e.u) : Int) := K.cl
 have hsame : cntS e.u (kn e.u) = cntS e.u S := by
  refine Nat.le_antisymm (yZ9 K.gn K.gm) ?_
  unfold cntS
  refine vW9 (W.ml.nodup.filter _) fun y hy => ?_
  rw [List.mem_filter] at hy ⊢
  exact ⟨W.ow e.u o.u y hy.1 (of_decide_eq_true hy.2), hy.2⟩
 have hname : xV4 e.l = (cntS e.u S : Int) + 1 := by
  unfold xV4
  rw [ho, hI, if_pos rfl, hcl, hsame]
 have hM : Mail n (S ++ [e.l]) := by
  refine W.ml.snoc o.fit (by rw [ho]; exact hname) fun v hv => ?_
  rw [hI, if_neg (fun z => hv (by rw [ho]; exact z.symm)), hcl]
  have := yZ9 (u := v) K.gn K.gm
  omega
 have hnew : e.l ∉ S := fun z => by
  obtain ⟨j, hj⟩ := List.getElem?_of_mem z
  have h1 := W.ml.num j _ hj
  have h4 := @yY7 e.u S (j + 1) (S.length - (j + 1))
  have h3 := (List.getElem?_eq_some_iff.mp hj).1
  rw [show j + 1 + (S.length - (j + 1)) = S.length by omega, List.take_length, xX7 hj, xZ5, yZ8, if_pos ho] at h4
  rw [hname, ho] at h1
  omega
 refine ⟨hM, by unfold yX3; rw [List.length_set]; exact W.rl, fun u hu => ?_, fun u hu l hl hls => ?_⟩
 ·have er : (yX3 R e).getD u [] = if e.u = u then inc (R.getD e.u []) e.l.s else R.getD u [] := by
   unfold yX3
   rw [getD_set (by rw [W.rl]; exact o.u)]
  rw [er, yV6]
  by_cases h : e.u = u
  ·subst h
   rw [if_pos rfl, if_pos rfl, ho]
   refine ⟨fun l hl => ?_, ?_, ?_, fun v => ?_, fun l hl => ?_, (fun l hl => nomatch hl), List.nodup_nil⟩
   ·rcases List.mem_append.mp hl with z | z
    ·exact List.mem_append_left _ (K.gm l z)
    ·exact List.mem_append_right _ z
   ·rw [List.nodup_append]
    refine ⟨K.gn, by simp, fun a ha b hb e' => ?_⟩
    have : b = e.l := by simpa using hb
    rw [e', this] at ha
    exact hnew (K.gm _ ha)
   ·show (inc (R.getD e.u []) e.u).length = n
    unfold inc; rw [List.length_set]; exact K.ck
   ·show (inc (R.getD e.u []) e.u).getD v 0 = _
    rw [← hst, hI, hcl, xZ5, yZ8, ho]
    split <;> simp
   ·show xV4 l ≤ (inc (R.getD e.u []) e.u).getD l.s 0 ↔ _
    rw [← hst, hI]
    rcases List.mem_append.mp hl with z | z
    ·have hle : xV4 l ≤ (R.getD e.u []).getD l.s 0 ↔ l ∈ kn e.u := K.lo l z
     have nl : l ≠ e.l := fun e' => hnew (e' ▸ z)
     by_cases es : e.u = l.s
     ·rw [if_pos es]
      have hin := W.ow e.u hu l z es.symm
      have := hle.mpr hin
      exact ⟨fun _ => List.mem_append_left _ hin, fun _ => by omega⟩
     ·rw [if_neg es, Int.add_zero, hle]
      constructor
      ·exact fun q => List.mem_append_left _ q
      ·intro q
       rcases List.mem_append.mp q with q | q
       ·exact q
       ·exact absurd (by simpa using q) nl
    ·have : l = e.l := by simpa using z
     subst this
     refine ⟨fun _ => List.mem_append_right _ z, fun _ => ?_⟩
     rw [hname, ho, if_pos rfl, hcl, hsame]; omega
  ·rw [if_neg h, if_neg h, List.append_nil]
   have K' := W.kw u hu
   refine ⟨fun l hl => List.mem_append_left _ (K'.gm l hl), K'.gn, K'.ck, K'.cl, fun l hl => ?_, (fun l hl => nomatch hl), List.nodup_nil⟩
   rcases List.mem_append.mp hl with z | z
   ·exact K'.lo l z
   ·have : l = e.l := by simpa using z
    subst this
    constructor
    ·intro q
     have q : xV4 e.l ≤ (R.getD u []).getD e.l.s 0 := q
     have hc' : (R.getD u []).getD e.l.s 0 = (cntS e.l.s (kn u) : Int) := K'.cl e.l.s
     rw [hname, hc', ho] at q
     have := yZ9 (u := e.u) K'.gn K'.gm
     omega
    ·intro q; exact absurd (K'.gm _ q) hnew
 ·rw [yV6]
  rcases List.mem_append.mp hl with z | z
  ·exact List.mem_append_left _ (W.ow u hu l z hls)
  ·have : l = e.l := by simpa using z
   subst this
   rw [if_pos (by rw [← ho]; exact hls)]
   exact List.mem_append_right _ (by simp)
theorem KW.step {n : Nat} {R : List (List Int)} {S : List Let} {es : List Ev} {e : Ev} (W : KW n R S (fun u => knOf u es)) (o : Ok n R S e) : KW n (yX3 R e) (S ++ xV6 [e]) (fun u => knOf u (es ++ [e])) := by
 have ek : (fun u => knOf u (es ++ [e])) = fun u => knOf u es ++ knOf u [e] := by funext u; exact xX0
 rw [ek]
 cases hs : e.sent with
 | true =>
  have : xV6 [e] = [e.l] := by unfold xV6; simp [hs]
  rw [this]
  exact W.sent o hs
 | false =>
  have : xV6 [e] = [] := by unfold xV6; simp [hs]
  rw [this, List.append_nil]
  exact W.got o hs
theorem KW.run {n : Nat} : ∀ {b a : List Ev} {R : List (List Int)} {S : List Let}, KW n R S (fun u => knOf u a) → Good n R S b → KW n (yV9 R b) (S ++ xV6 b) (fun u => knOf u (a ++ b))
 | [], a, R, S, W, _ => by simpa [yV9, xV6] using W
 | e :: b, a, R, S, W, ⟨h1, h2⟩ => by
  have := KW.run (a := a ++ [e]) (W.step h1) h2
  rw [List.append_assoc, ← yY4, List.append_assoc] at this
  exact this
theorem KW.at_ {n : Nat} {es : List Ev} (g : Good n (xY3 n) [] es) (i : Nat) : KW n (yV9 (xY3 n) (es.take i)) (xV6 (es.take i)) (fun u => knOf u (es.take i)) := by
 have gi : Good n (xY3 n) [] (es.take i) := by
  have : ∀ {a b : List Ev} {R : List (List Int)} {S : List Let}, Good n R S (a ++ b) → Good n R S a := by
   intro a
   induction a with
   | nil => intro b R S _; trivial
   | cons x a ih => intro b R S h; exact ⟨h.1, ih h.2⟩
  exact this (b := es.drop i) (by rw [List.take_append_drop]; exact g)
 have := KW.run (a := []) KW.start gi
 simpa using this
end Of
section
seal L2.PE L2.PT L2.PW L2.PA L2.PS L2.PSs L2.PG L2.PGs L2.PI L3.PTs L2.PO L2.CallR L2.OpR L2.IxR L2.MtR L2.PSet L2.SlR
namespace Of
open PySem L2 L3 L4 L6 L7
abbrev kk (l : Let) : List Key := [.inl (l.s : Int), .inl (xV4 l)]
theorem any_names {kn : List Let} {l : Let} (h : ∀ x ∈ kn, ¬ (x.s = l.s ∧ xV4 x = xV4 l)) : ((kn.map xW6).any fun y => PyData.eqv y (xW6 l)) = false := by
 rw [List.any_eq_false]
 intro y hy
 obtain ⟨x, hx, rfl⟩ := List.mem_map.mp hy
 unfold xW6
 rw [eqv_nm, Bool.and_eq_true, decide_eq_true_eq, decide_eq_true_eq]
 exact h x hx
theorem any_name {kn : List Let} {l : Let} (h : l ∈ kn) : ((kn.map xW6).any fun y => PyData.eqv y (xW6 l)) = true := by
 rw [List.any_eq_true]
 refine ⟨xW6 l, List.mem_map.mpr ⟨l, h, rfl⟩, ?_⟩
 unfold xW6
 rw [eqv_nm]; simp
theorem rep_names {K : PySem.W.Frag} {H : Hp} {r : Addr} {ys : List V} {ls : List Let} (hr : H r = some (.lst ys)) (h : All2 (NmV H) ls ys) : RepD K H (.list (ls.map xW6)) (.ref r) := by
 simp only [RepD]
 exact ⟨r, ys, rfl, SqL.of hr, NmVs.reps h⟩
theorem kn_len {u i : Nat} {es : List Ev} : (knOf u (es.take i)).length ≤ es.length := by
 unfold knOf
 rw [List.length_map]
 refine Nat.le_trans (List.length_filter_le _ _) ?_
 rw [List.length_take]; omega
end Of
end
section
seal L2.PE L2.PT L2.PW L2.PA L2.PS L2.PSs L2.PG L2.PGs L2.PI L3.PTs L2.PO L2.CallR L2.OpR L2.IxR L2.MtR L2.PSet L2.SlR
namespace Of
open PySem L2 L3 L4 L6
theorem both {b : Bool} {D : Ends} {t : TS} {σ : L2.St} {H : Hp} (Pd : L2.St → Hp → Prop) (tail : ∀ σ' H', Pd σ' H' → D.nx σ' H') (h1 : b = true → (∀ σ' H', Pd σ' H' → D.nx σ' H') → t D σ H) (h2 : b = false → Pd σ H) : if b = true then t D σ H else tNext D σ H := by
 cases b with
 | true => rw [if_pos rfl]; exact h1 rfl tail
 | false => rw [if_neg Bool.false_ne_true]; exact tail σ H (h2 rfl)
def spIsName (K : PySem.W.Frag) : Sp := fun vs H Q _ => ∃ (b : Addr) (s m c : Int), vs = [.ref b, .int c] ∧ SqT K H b [.int s, .int m] ∧ 0 ≤ s ∧ s < c ∧ 0 < m ∧ Q (.bl true) H
def okEv (n : Nat) (e : Ev) : Prop := e.u < n ∧ e.l.s < n ∧ 0 < xV4 e.l
def EvAt (K : PySem.W.Frag) (H : Hp) (b : Addr) (e : Ev) : Prop := ∃ c, SqT K H b [.str (if e.sent = true then "sent" else "got"), .int e.u, .ref c] ∧ SqT K H c [.int e.l.s, .int (xV4 e.l)]
theorem evAt_iff {K : PySem.W.Frag} {H : Hp} {e : Ev} {v : V} : RepD K H (evD e) v ↔ ∃ b, v = .ref b ∧ EvAt K H b e := by
 unfold evD xW6 nmD EvAt
 simp only [RepD, xU3]
 constructor
 ·rintro ⟨a, zs, rfl, h, y1, q1, rfl, rfl, y2, q2, rfl, rfl, y3, q3, rfl, ⟨c, ws, rfl, g, z1, r1, rfl, rfl, z2, r2, rfl, rfl, rfl⟩, rfl⟩
  exact ⟨a, rfl, c, h, g⟩
 ·rintro ⟨a, rfl, c, h, g⟩
  exact ⟨a, _, rfl, h, _, _, rfl, rfl, _, _, rfl, rfl, _, _, rfl, ⟨c, _, rfl, g, _, _, rfl, rfl, _, _, rfl, rfl, rfl⟩, rfl⟩
def spAreEvents (K : PySem.W.Frag) : Sp := fun vs H Q _ => ∃ (a : Addr) (xs : List V) (es : List Ev) (n : Nat), vs = [.ref a, .int n] ∧ SqL K H a xs ∧ xU3 K H (es.map evD) xs ∧ (∀ e ∈ es, okEv n e) ∧ Q (.bl true) H
def nnDeed : Deed → Prop
 | .carry i _ => 0 ≤ i
 | _ => True
def spDeedOf (K : PySem.W.Frag) : Sp := fun vs H Q _ => ∃ (x : Int) (k n : Nat), vs = [.int x, .int k, .int n] ∧ 2 ≤ n ∧ k ≤ 1000 ∧ ∀ (b : Addr) (d : Deed) (H' : Hp), xQ7 n d → nnDeed d → Same H H' → DeedAt K H' b d → Q (.ref b) H'
def spDrawn (K : PySem.W.Frag) : Sp := fun vs H Q _ => ∃ (a : Addr) (ns : List Int) (n : Nat), vs = [.ref a, .int n] ∧ SqL K H a (nums ns) ∧ 2 ≤ n ∧ ns.length ≤ 200 ∧
 ∀ (l : Addr) (ds : List Deed) (xs : List V) (H' : Hp), ds.length = ns.length → (∀ d ∈ ds, xQ7 n d) → (∀ d ∈ ds, nnDeed d) → H l = none → H' l = some (.lst xs) → xU3 K H' (ds.map yX6) xs → Same H H' → Q (.ref l) H'
theorem len4 {a b c d : V} : [a, b, c, d].length ≤ sizeLine := by show 4 ≤ sizeLine; decide
theorem cmulL {i j : Int} (h1 : -(2 ^ 64) < i) (h2 : i < 2 ^ 64) : CMul i j := .inl ⟨h1, h2⟩
theorem shift {n u r : Int} (h1 : 0 ≤ u) (h2 : u < n) (h3 : 0 ≤ r) (h4 : r < n - 1) : 0 ≤ (u + 1 + r) % n ∧ (u + 1 + r) % n < n ∧ (u + 1 + r) % n ≠ u := by
 have e1 := Int.emod_nonneg (u + 1 + r) (by omega : n ≠ 0)
 have e2 := Int.emod_lt_of_pos (u + 1 + r) (by omega : 0 < n)
 refine ⟨e1, e2, fun e => ?_⟩
 by_cases h : u + 1 + r < n
 ·rw [Int.emod_eq_of_lt (by omega) h] at e; omega
 ·have : (u + 1 + r) % n = u + 1 + r - n := by
   rw [← Int.emod_eq_of_lt (a := u + 1 + r - n) (b := n) (by omega) (by omega)]
   exact (Int.sub_emod_right (u + 1 + r) n).symm
  omega
section
variable {P : Program} {w : World} {K : PySem.W.Frag} {mg : Str → Option Value} {base : Heap} {fW fI : Addr}
theorem oLI : ownB ["_law_found", "_law_count"] (defScope sIsName) = true := by decide +kernel
theorem scLI : FnScope ["_law_found", "_law_count"] ["_law_found", "_law_count"] (defScope sIsName) := ⟨rfl, rfl, rfl, by decide +kernel, rfl, by decide +kernel, by decide +kernel⟩
theorem ok_isname {f : Addr} {fd fdW : FuncData} (F : Fun K "_law_is_name" "_law_is_name" sIsName f fd) (L : Bts mg) (mW : mg "_law_whole" = some (.ref fW)) (FW : Fun K "_law_whole" "_law_whole" sWhole fW fdW) (bW : Binds K fdW ["_law_found"] []) : FnOk P w K mg base CX0 2 f fd ["_law_found", "_law_count"] (spIsName K) := by
 have GW : FnOk P w K mg base CX0 1 fW fdW ["_law_found"] (vU7 K) := yQ6 FW L
 refine okB (body := [stm sIsName 0, stm sIsName 1, stm sIsName 2]) F scLI (fun vs H Q E h => ?_) (by kernel_rfl) (fun cdv A outer s H vs Q E hr h => ?_)
 ·obtain ⟨b, s, m, c, rfl, _⟩ := h
  rfl
 ·obtain ⟨b, s, m, c, rfl, hb, h0, h1, h2, q⟩ := h
  have hrW := hr
  refine ⟨_, (xU8 (xW4 (PW.pt (xQ1 (xW0 (xW8 (cB yU5 L.isinstance xV3 (aC (oV oLI 0) (aC (nT L.tuple yU4) xU7))))) (xZ1 (xV7 yX1 (cB (xV9 (X := _)) L.len PySem.boot_len (aC (oV oLI 0) xU7)) xU5 (xV5 _)))))
    (xU6 (xU1 xY1))
    xV8)
   (xU8 (xW4 (PW.pt (xQ1 (xW0 (xW8 (cF GW hrW mW FW.kp bW .nil xV1 (aC (iX (ixT K) (oV oLI 0) xU5) xU7)))) (xZ1 (xW0 (xW8 (cF GW hrW mW FW.kp bW .nil xV1 (aC (iX (ixT K) (oV oLI 0) xU5) xU7)))))))
    (xU6 (xU1 xY1))
    xV8)
   (xU6 (xU1 (vV5 (pe_chain op_le op_lt xU5 (iX (ixT K) (oV oLI 0) xU5) (oV oLI 1)) (vX6 (yW4 op_gt (iX (ixT K) (oV oLI 0) xU5) xU5 (xV5 _)))))))), ?_⟩
  refine cut3 ?_
  intro rr2 rr1
  refine ⟨_, rfl, b, _, _, _, rfl, hb, yU8, _, rfl, ?_⟩
  refine iteF ?_
  refine ⟨_, rfl, b, _, rfl, .inr hb, rfl, _, rfl, ?_⟩
  refine iteNS rfl ?_
  refine ⟨_, rfl, b, _, 0, _, rfl, rfl, hb, rfl, _, rfl, _, rfl, ?_⟩
  refine iteF ?_
  refine ⟨_, rfl, b, _, 1, _, rfl, rfl, hb, rfl, _, rfl, _, rfl, ?_⟩
  refine iteF ?_
  refine ⟨_, rfl, b, _, 0, _, rfl, rfl, hb, rfl, _, _, rfl, rfl, _, rfl, ?_⟩
  rw [decide_eq_true h0]
  refine iteT ⟨_, rfl, _, _, rfl, rfl, _, rfl, ?_⟩
  rw [decide_eq_true h1]
  refine iteT ⟨_, rfl, b, _, 1, _, rfl, rfl, hb, rfl, _, _, rfl, rfl, ?_⟩
  show Q (V.bl (decide (0 < m))) H
  rw [decide_eq_true h2]
  exact q
theorem oAe : ownB ["_law_found", "_law_count", "_law_event"] (defScope sAreEvents) = true := by decide +kernel
theorem scAe : FnScope ["_law_found", "_law_count", "_law_event"] ["_law_found", "_law_count"] (defScope sAreEvents) := ⟨rfl, rfl, rfl, by decide +kernel, rfl, by decide +kernel, by decide +kernel⟩
theorem ok_areevents {f : Addr} {fd fdW fdI : FuncData} (F : Fun K "_law_are_events" "_law_are_events" sAreEvents f fd) (T : Bts mg) (mW : mg "_law_whole" = some (.ref fW)) (FW : Fun K "_law_whole" "_law_whole" sWhole fW fdW) (bW : Binds K fdW ["_law_found"] [])
  (mI : mg "_law_is_name" = some (.ref fI)) (FI : Fun K "_law_is_name" "_law_is_name" sIsName fI fdI) (bI : Binds K fdI ["_law_found", "_law_count"] []) : FnOk P w K mg base CX0 3 f fd ["_law_found", "_law_count"] (spAreEvents K) := by
 have GW : FnOk P w K mg base CX0 1 fW fdW ["_law_found"] (vU7 K) := yQ6 FW T
 have GI : FnOk P w K mg base CX0 2 fI fdI ["_law_found", "_law_count"] (spIsName K) := ok_isname FI T mW FW bW
 refine okB (body := [stm sAreEvents 0, stm sAreEvents 1, stm sAreEvents 2]) F scAe (fun vs H Q E h => ?_) (by kernel_rfl) (fun cdv A outer s H vs Q E hr h => ?_)
 ·obtain ⟨a, xs, es, n, rfl, _⟩ := h
  rfl
 ·obtain ⟨a, xs, es, n, rfl, ha, hx, ok, q⟩ := h
  have hr1 := hr.mono (by decide : 1 ≤ 2)
  have hlen : xs.length = es.length := by rw [xW5 hx, List.length_map]
  refine ⟨_, (xU8 (xW4 (xW0 (xW8 (cB yW2 T.isinstance xV3 (aC (oV oAe 0) (aC (nT T.list xY5) xU7)))))
    (xU6 (xU1 xY1))
    xV8)
   (xU8 (xQ0 PassesOwn.never rfl (xY2 (oV oAe 0)) (oT oAe 2)
    (xU8 (xW4 (PW.pt (xQ1 (xW0 (xW8 (cB yU5 T.isinstance xV3 (aC (oV oAe 2) (aC (nT T.tuple yU4) xU7))))) (xQ1 (xV7 yX1 (cB (xV9 (X := _)) T.len PySem.boot_len (aC (oV oAe 2) xU7)) xU5 (xV5 _)) (xZ1 (xW0 (xW8 (cB yX8 T.isinstance xV3 (aC (iX (ixT K) (oV oAe 2) xU5) (aC (nT T.str boot_st) xU7)))))))))
     (xU6 (xU1 xY1))
     xV8)
    (xU8 (xW4 (PW.pt (xQ1 (xW0 (xW8 (cF GW hr1 mW FW.kp bW .nil xV1 (aC (iX (ixT K) (oV oAe 2) xU5) xU7)))) (xQ1 (xV7 op_lt (iX (ixT K) (oV oAe 2) xU5) xU5 (xV5 _)) (xZ1 (xV7 op_ge (iX (ixT K) (oV oAe 2) xU5) (oV oAe 1) (xV5 _))))))
     (xU6 (xU1 xY1))
     xV8)
    (xU6 (xW4 (PW.pt (xQ1 (xW0 (xW8 (cF GI hr mI FI.kp bI .nil xV1 (aC (iX (ixT K) (oV oAe 2) xU5) (aC (oV oAe 1) xU7))))) (xZ1 (PW.pt (pw_and (xV7 yX1 (iX (ixT K) (oV oAe 2) xU5) xY8 (xV5 _)) (pw_and1 (xV7 yX1 (iX (ixT K) (oV oAe 2) xU5) xY8 (xV5 _))))))))
     (xU6 (xU1 xY1))
     xV8)))))
   (xU6 (xU1 xY1)))), ?_⟩
  refine cut3 ?_
  intro rr2 rr1
  refine ⟨_, rfl, a, _, _, _, rfl, ha, yQ4, _, rfl, iteF ?_⟩
  refine ⟨_, rfl, a, rfl, ⟨_, ha⟩, yU7 (K := K) (a := a) (xs := xs) (fun i σ Hc => ∃ u, Hc = H ∧ σ = [some (.ref a), some (.int n), u]) ⟨none, rfl, rfl⟩ (fun i σ Hc _ ⟨u, e, _⟩ => by rw [e]; exact ha) ?_ ?_⟩
  ·rintro i y σ Hc hi ⟨u, e, rfl⟩
   cases e
   have hi' : i < es.length := by have := (List.getElem?_eq_some_iff.mp hi).1; omega
   obtain ⟨x', hx', rx⟩ := xY6 hx (i := i) (d := evD es[i]) (by rw [List.getElem?_map, List.getElem?_eq_getElem hi']; rfl)
   rw [hi] at hx'
   cases hx'
   obtain ⟨o1, o2, o3⟩ := ok es[i] (List.getElem_mem hi')
   generalize es[i] = e at o1 o2 o3 rx
   obtain ⟨d, rfl, c, L1, L2⟩ := evAt_iff.mp rx
   refine ⟨_, rfl, d, _, _, _, rfl, L1, yU8, _, rfl, iteF ?_⟩
   refine ⟨_, rfl, d, _, rfl, .inr L1, rfl, _, rfl, iteF ?_⟩
   refine ⟨_, rfl, d, _, 0, _, rfl, rfl, L1, rfl, _, _, _, _, rfl, TyOf.str _, ki_str, _, rfl, iteF ?_⟩
   refine ⟨_, rfl, d, _, 1, _, rfl, rfl, L1, rfl, _, rfl, _, rfl, iteF ?_⟩
   refine ⟨_, rfl, d, _, 1, _, rfl, rfl, L1, rfl, _, _, rfl, rfl, _, rfl, ?_⟩
   rw [decide_eq_false (by omega : ¬ (e.u : Int) < 0)]
   refine iteF ⟨_, rfl, d, _, 1, _, rfl, rfl, L1, rfl, _, rfl, _, _, rfl, rfl, _, rfl, ?_⟩
   rw [decide_eq_false (by omega : ¬ (n : Int) ≤ (e.u : Int))]
   refine iteF ⟨_, rfl, d, _, 2, _, rfl, rfl, L1, rfl, _, rfl, c, e.l.s, xV4 e.l, n, rfl, L2, by omega, by omega, o3, _, rfl, iteF ?_⟩
   cases hs : e.sent with
   | true =>
    rw [hs] at L1
    have L1 : SqT K H d [.str "sent", .int e.u, .ref c] := L1
    refine ⟨_, rfl, d, _, 0, _, rfl, rfl, L1, rfl, rfl, _, rfl, ?_⟩
    rw [show (!decide (V.str "sent" = V.str "sent")) = false by decide +kernel]
    exact iteF ⟨_, rfl, rfl⟩
   | false =>
    rw [hs] at L1
    have L1 : SqT K H d [.str "got", .int e.u, .ref c] := L1
    refine ⟨_, rfl, d, _, 0, _, rfl, rfl, L1, rfl, rfl, _, rfl, ?_⟩
    rw [show (!decide (V.str "got" = V.str "sent")) = true by decide +kernel]
    refine iteT ⟨_, rfl, d, _, 0, _, rfl, rfl, L1, rfl, rfl, _, rfl, ?_⟩
    rw [show (!decide (V.str "got" = V.str "got")) = false by decide +kernel]
    exact iteF ⟨_, rfl, rfl⟩
  ·rintro σ Hc ⟨u, rfl, rfl⟩
   exact q
theorem oDo : ownB ["_law_cell", "_law_k", "_law_count", "_law_way", "_law_who", "_law_to", "_law_many", "_law_which"] (defScope sDeedOf) = true := by decide +kernel
theorem scDo : FnScope ["_law_cell", "_law_k", "_law_count", "_law_way", "_law_who", "_law_to", "_law_many", "_law_which"] ["_law_cell", "_law_k", "_law_count"] (defScope sDeedOf) := ⟨rfl, rfl, rfl, by decide +kernel, rfl, by decide +kernel, by decide +kernel⟩
theorem ok_deedof {f : Addr} {fd : FuncData} (F : Fun K "_law_deed_of" "_law_deed_of" sDeedOf f fd) (T : Bts mg) : FnOk P w K mg base CX0 1 f fd ["_law_cell", "_law_k", "_law_count"] (spDeedOf K) := by
 refine okB (body := [stm sDeedOf 0, stm sDeedOf 1, stm sDeedOf 2, stm sDeedOf 3, stm sDeedOf 4, stm sDeedOf 5]) F scDo (fun vs H Q E h => ?_) (by kernel_rfl) (fun cdv A outer s H vs Q E hr h => ?_)
 ·obtain ⟨x, k, n, rfl, _⟩ := h
  rfl
 ·obtain ⟨x, k, n, rfl, n2, k2, fin⟩ := h
  have hn0 : (n : Int) ≠ 0 := by omega
  have hnp : (0 : Int) < (n : Int) := by omega
  refine ⟨_, (xU8 (oS oDo 3 (xV2 xX1 (xV2 xX1 (xV2 yV4 (oV oDo 0) xU5) xU5) xU5))
   (xU8 (oS oDo 4 (xV2 xX1 (xV2 xX1 (xV2 yV4 (xV2 yU1 (oV oDo 0) (oV oDo 1)) xU5) xU5) (oV oDo 2)))
   (xU8 (xW4 (xV7 op_lt (oV oDo 3) xU5 (xV5 _))
    (xU8 (oS oDo 5 (xV2 xX1 (xV2 yU1 (xV2 yU1 (oV oDo 4) xU5) (xV2 xX1 (xV2 xX1 (xV2 yV4 (oV oDo 0) xU5) xU5) (xV2 op_sub (oV oDo 2) xU5))) (oV oDo 2)))
    (xU8 (oS oDo 6 (xV2 xX1 (xV2 xX1 (xV2 yV4 (oV oDo 0) xU5) xU5) xU5))
    (xU8 (xW4 (xV7 yX0 (xV2 xX1 (xV2 xX1 (xV2 yV4 (oV oDo 0) xU5) xU5) xU5) xU5 (xV5 _))
     (xU6 (oS oDo 6 (iX (ixL K) (xQ8 (aC xU5 (aC (xV2 xX1 (oV oDo 0) (cT L6.call_intT T.int boot_it (aC (xV2 op_add_str xY8 (xV2 L6.op_mulS xY8 xU5)) xU7))) (aC xU5 xU7)))) (xV2 xX1 (xV2 xX1 (xV2 yV4 (oV oDo 0) xU5) xU5) xU5))))
     xV8)
    (xU6 (xU1 (xZ6 (aC xY8 (aC (oV oDo 4) (aC (oV oDo 5) (aC (oV oDo 6) xU7))))))))))
    xV8)
   (xU8 (xW4 (xV7 yX0 (oV oDo 3) xU5 (xV5 _))
    (xU6 (xU1 (xZ6 (aC xY8 (aC (oV oDo 4) xU7)))))
    xV8)
   (xU8 (xW4 (xV7 op_lt (oV oDo 3) xU5 (xV5 _))
    (xU8 (oS oDo 7 (xV2 xX1 (xV2 xX1 (xV2 yV4 (xV2 yU1 (oV oDo 0) (xV2 yV4 xU5 (oV oDo 1))) xU5) xU5) (xV2 yU1 (oV oDo 1) xU5)))
    (xU6 (xU1 (xZ6 (aC xY8 (aC (oV oDo 7) (aC (xV2 xX1 (xV2 xX1 (xV2 yV4 (xV2 yU1 (oV oDo 0) (oV oDo 1)) xU5) xU5) (oV oDo 2)) xU7)))))))
    xV8)
   (xU6 (xU1 (xZ6 (aC xY8 (aC (oV oDo 4) xU7)))))))))), ?_⟩
  refine cut6 ?_
  intro rr5 rr4 rr3 rr2 rr1
  refine ⟨_, rfl, _, _, rfl, rfl, cmul (by decide) (by decide), _, _, rfl, rfl, (by show (0 : Int) < 1009; decide), _, _, rfl, rfl, (by show (0 : Int) < 8; decide), ?_⟩
  dsimp only
  generalize x * 48271 % 1009 % 8 = way
  refine ⟨_, rfl, _, rfl, _, _, rfl, rfl, _, _, rfl, rfl, cmul (by decide) (by decide), _, _, rfl, rfl, (by show (0 : Int) < 1013; decide), _, rfl, _, _, rfl, rfl, hnp, ?_⟩
  dsimp only
  obtain ⟨u, hu⟩ := Int.eq_ofNat_of_zero_le (Int.emod_nonneg ((x + (k : Int)) * 48271 % 1013) hn0)
  have hun : u < n := by have := Int.emod_lt_of_pos ((x + (k : Int)) * 48271 % 1013) hnp; omega
  rw [hu]
  refine ⟨_, rfl, _, _, rfl, rfl, _, rfl, ite2 (fun h => ?_) (fun h => ?_)⟩
  ·refine ⟨_, rfl, _, _, rfl, rfl, _, rfl, _, _, rfl, rfl, cmul (by decide) (by decide), _, _, rfl, rfl, (by show (0 : Int) < 1033; decide), _, rfl, _, _, rfl, rfl, _, _, rfl, rfl, (by show (0 : Int) < (n : Int) - 1; omega), _, _, rfl, rfl, _, rfl, _, _, rfl, rfl, hnp, ?_⟩
   dsimp only
   have hsh := shift (n := (n : Int)) (u := (u : Int)) (r := x * 48271 % 1033 % ((n : Int) - 1)) (by omega) (by omega) (Int.emod_nonneg _ (by omega)) (Int.emod_lt_of_pos _ (by omega))
   obtain ⟨t, ht⟩ := Int.eq_ofNat_of_zero_le hsh.1
   rw [ht] at hsh ⊢
   refine ⟨_, rfl, _, _, rfl, rfl, cmul (by decide) (by decide), _, _, rfl, rfl, (by show (0 : Int) < 1019; decide), _, _, rfl, rfl, (by show (0 : Int) < 7; decide), ?_⟩
   dsimp only
   have hm := Int.emod_nonneg (x * 48271 % 1019) (by decide : (7 : Int) ≠ 0)
   generalize x * 48271 % 1019 % 7 = m0 at hm
   refine ⟨_, rfl, _, _, rfl, rfl, cmul (by decide) (by decide), _, _, rfl, rfl, (by show (0 : Int) < 1087; decide), _, _, rfl, rfl, (by show (0 : Int) < 12; decide), rfl, _, rfl, ?_⟩
   refine both (fun σ' H' => ∃ m : Int, σ' = [some (.int x), some (.int k), some (.int n), some (.int way), some (.int u), some (.int t), some (.int m), none] ∧ Same H H' ∧ 0 ≤ m) ?_ ?_ ?_
   ·rintro σ' H' ⟨m, rfl, e, hm⟩
    refine ⟨_, rfl, _, rfl, _, rfl, len4, fun b nb => ?_⟩
    exact fin b (.pay u t m) _ ⟨hun, hm, by omega, by omega, hsh.2.2⟩ trivial (e.trans (xU4 nb)) (SqT.of xU9)
   ·intro _ tail
    refine ⟨_, rfl, rfl, rfl, _, _, rfl, rfl, by decide +kernel, _, _, rfl, L6.big20, by decide +kernel, _, _, rfl, rfl, (by show (0 : Int) < 100000000000000000000; decide), len3, fun b nb => ?_⟩
    have h0 := Int.emod_nonneg (x * 48271 % 1091) (by decide : (3 : Int) ≠ 0)
    have h1 := Int.emod_lt_of_pos (x * 48271 % 1091) (by decide : (0 : Int) < 3)
    obtain ⟨r, er⟩ := Int.eq_ofNat_of_zero_le h0
    have hm2 := Int.emod_nonneg x (by decide : (100000000000000000000 : Int) ≠ 0)
    obtain ⟨m, hmr, hm⟩ : ∃ m : Int, ([V.int 25, .int (x % 100000000000000000000), .int 100] : List V)[r]? = some (.int m) ∧ 0 ≤ m := by
     have : r = 0 ∨ r = 1 ∨ r = 2 := by omega
     rcases this with e | e | e <;> subst e
     ·exact ⟨25, rfl, by decide⟩
     ·exact ⟨_, rfl, hm2⟩
     ·exact ⟨100, rfl, by decide⟩
    refine ⟨_, rfl, _, _, rfl, rfl, cmul (by decide) (by decide), _, _, rfl, rfl, (by show (0 : Int) < 1091; decide), _, _, rfl, rfl, (by show (0 : Int) < 3; decide), b, _, _, .int m, rfl, rfl, SqL.of xU9, ?_, ?_⟩
    ·rw [er]; exact xW7 hmr
    ·exact tail _ _ ⟨m, rfl, xU4 nb, hm⟩
   ·intro _
    exact ⟨m0, rfl, Same.refl _, hm⟩
  ·refine ⟨_, rfl, rfl, _, rfl, ite2 (fun h => ?_) (fun h => ?_)⟩
   ·refine ⟨_, rfl, len2, fun b nb => ?_⟩
    exact fin b (.cut u) _ hun trivial (xU4 nb) (SqT.of xU9)
   ·refine ⟨_, rfl, _, _, rfl, rfl, _, rfl, ite2 (fun h => ?_) (fun h => ?_)⟩
    ·refine ⟨_, rfl, _, rfl, _, _, rfl, rfl, cmul (by omega) (by omega), _, _, rfl, rfl, _, _, rfl, rfl, cmul (by decide) (by decide), _, _, rfl, rfl, (by show (0 : Int) < 1021; decide), _, rfl, _, _, rfl, rfl, _, _, rfl, rfl, (by show (0 : Int) < (k : Int) + 1; omega), ?_⟩
     dsimp only
     have hw := Int.emod_nonneg ((x + 3 * (k : Int)) * 48271 % 1021) (by omega : ((k : Int) + 1) ≠ 0)
     generalize (x + 3 * (k : Int)) * 48271 % 1021 % ((k : Int) + 1) = wh at hw
     refine ⟨_, rfl, _, rfl, _, rfl, _, _, rfl, rfl, _, _, rfl, rfl, cmul (by decide) (by decide), _, _, rfl, rfl, (by show (0 : Int) < 1031; decide), _, rfl, _, _, rfl, rfl, hnp, ?_⟩
     dsimp only
     obtain ⟨t, ht⟩ := Int.eq_ofNat_of_zero_le (Int.emod_nonneg ((x + (k : Int)) * 48271 % 1031) hn0)
     have htn : t < n := by have := Int.emod_lt_of_pos ((x + (k : Int)) * 48271 % 1031) hnp; omega
     rw [ht]
     refine ⟨len3, fun b nb => ?_⟩
     exact fin b (.carry wh t) _ htn hw (xU4 nb) (SqT.of xU9)
    ·refine ⟨_, rfl, len2, fun b nb => ?_⟩
     exact fin b (.bring u) _ hun trivial (xU4 nb) (SqT.of xU9)
theorem oDr : ownB ["_law_cells", "_law_count", "_law_deeds", "_law_k"] (defScope sDrawn) = true := by decide +kernel
theorem scDr : FnScope ["_law_cells", "_law_count", "_law_deeds", "_law_k"] ["_law_cells", "_law_count"] (defScope sDrawn) := ⟨rfl, rfl, rfl, by decide +kernel, rfl, by decide +kernel, by decide +kernel⟩
theorem ok_drawn {f fD : Addr} {fd fdD : FuncData} (F : Fun K "_law_drawn" "_law_drawn" sDrawn f fd) (T : Bts mg) (mD : mg "_law_deed_of" = some (.ref fD)) (FD : Fun K "_law_deed_of" "_law_deed_of" sDeedOf fD fdD) (bD : Binds K fdD ["_law_cell", "_law_k", "_law_count"] []) : FnOk P w K mg base CX0 2 f fd ["_law_cells", "_law_count"] (spDrawn K) := by
 have GD : FnOk P w K mg base CX0 1 fD fdD ["_law_cell", "_law_k", "_law_count"] (spDeedOf K) := ok_deedof FD T
 refine okB (body := [stm sDrawn 0, stm sDrawn 1, stm sDrawn 2]) F scDr (fun vs H Q E h => ?_) (by kernel_rfl) (fun cdv A outer s H vs Q E hr h => ?_)
 ·obtain ⟨a, ns, n, rfl, _⟩ := h
  rfl
 ·obtain ⟨a, ns, n, rfl, ha, n2, hl, fin⟩ := h
  refine ⟨_, (xU8 (oS oDr 2 (xQ8 xU7))
   (xU8 (xQ0 PassesOwn.never rfl (rng1 T.range (aC (cB (xV9 (X := _)) T.len PySem.boot_len (aC (oV oDr 0) xU7)) xU7)) (oT oDr 3)
    (xU6 (xQ9 (mApp (oV oDr 2) (cF GD hr mD FD.kp bD .nil xV1 (aC (xV2 yU1 (iX (ixL K) (oV oDr 0) (oV oDr 3)) (xV2 yV4 xU5 (oV oDr 3))) (aC (oV oDr 3) (aC (oV oDr 1) xU7))))))))
   (xU6 (xU1 (oV oDr 2))))), ?_⟩
  refine cut3 ?_
  intro rr2 rr1
  refine ⟨len0, fun l nl => ?_⟩
  have s0 := xU4 (o := .lst []) nl
  have hlen : (nums ns).length = ns.length := List.length_map ..
  refine ⟨_, rfl, a, _, rfl, .inl (s0.seq ha), _, rfl, by omega, by rw [hlen]; omega, yY8 (n := (((nums ns).length : Nat) : Int).toNat) (lo := 0) (fun i σ Hc => ∃ (v : Option V) (ds : List Deed) (xs : List V), σ = [some (.ref a), some (.int n), some (.ref l), v] ∧ ds.length = i ∧ (∀ d ∈ ds, xQ7 n d) ∧ (∀ d ∈ ds, nnDeed d) ∧ Hc l = some (.lst xs) ∧ xU3 K Hc (ds.map yX6) xs ∧ Same H Hc)
   ⟨none, [], [], rfl, rfl, (fun _ h => nomatch h), (fun _ h => nomatch h), xU9, rfl, s0⟩ ?_ ?_⟩
  ·rintro i σ Hc hi ⟨v, ds, xs, rfl, hd, ok, nn, hlc, hxs, e⟩
   have hi' : i < ns.length := by
    have : i < (nums ns).length := by simpa using hi
    omega
   have xl := xW5 hxs
   rw [List.length_map] at xl
   refine ⟨_, rfl, .inl ⟨rfl, _, SqL.of hlc⟩, _, rfl, _, rfl, a, _, ((i : Nat) : Int), .int (ns.getD i 0), rfl, by rw [Int.zero_add], e.seq ha, xW7 (xZ2 hi'), _, rfl, _, _, rfl, rfl, cmulL (by decide) (by decide), _, _, rfl, rfl, _, rfl, _, rfl, ns.getD i 0 + 5 * (i : Int), i, n, (by rw [Int.zero_add]; rfl), n2, by omega, fun b d H1 okd nnd e1 D => ?_⟩
   refine ⟨l, xs, .ref b, rfl, rfl, e1 _ _ hlc, xV0 (by omega), _, ds ++ [d], xs ++ [.ref b], rfl, by rw [List.length_append, hd]; rfl, fun x hx => ?_, fun x hx => ?_, xU9, ?_, xW2 (e.trans e1) nl⟩
   ·rcases List.mem_append.mp hx with z | z
    ·exact ok x z
    ·have : x = d := by simpa using z
     rw [this]; exact okd
   ·rcases List.mem_append.mp hx with z | z
    ·exact nn x z
    ·have : x = d := by simpa using z
     rw [this]; exact nnd
   ·rw [List.map_append, List.map_singleton]
    exact xU3.imm (xX5 (e1 _ _ hlc)) _ _ (by rw [← List.map_singleton, ← List.map_append]; exact yW0 _) (xY7 (xU3.same e1 _ _ hxs) (yW9 (yQ2.mpr ⟨b, rfl, D⟩)))
  ·rintro σ Hc ⟨v, ds, xs, rfl, hd, ok, nn, hlc, hxs, e⟩
   refine ⟨_, rfl, fin l ds xs Hc ?_ ok nn nl hlc hxs e⟩
   rw [hd, Int.toNat_natCast, hlen]
end
end Of
end
namespace Of
open PySem PySem.Spec L2 L3 L4
def val (u : Nat) (l : Let) : Int := match l.w with
 | .cut => 0
 | .pay t m => if l.s = u then -m else if t = (u : Int) then m else 0
structure Coin (n : Nat) (c0 : Int) (c : Crs) : Prop where
 eq : ∀ u, u < n → (c.off u).coins = c0 + sumF (val u) (knOf u c.evs)
 nn : ∀ u, u < n → 0 ≤ (c.off u).coins
theorem drain_coins : ∀ (k : Nat) (o : Off), (drain k o).2.coins = o.coins + sumF (fun l => xY9 o.num l.w) (drain k o).1 ∧ (drain k o).2.num = o.num
 | 0, o => by simp [drain, sumF]
 | k + 1, o => by
  cases hf : xZ0 o.tray o.clock with
  | none => simp [drain, hf, sumF]
  | some i =>
   obtain ⟨l, hl, hr⟩ := yQ3 hf
   simp only [drain, hf, hl]
   obtain ⟨h1, h2⟩ := drain_coins k (xW3 o i l)
   have e1 : (xW3 o i l).coins = o.coins + xY9 o.num l.w := by unfold xW3 vU8; rfl
   have e2 : (xW3 o i l).num = o.num := by unfold xW3 vU8; rfl
   rw [h1, h2, e1, e2]
   simp only [sumF]
   exact ⟨by omega, trivial⟩
theorem took_coins (o : Off) (l : Let) : (took o l).2.coins = o.coins + sumF (fun l => xY9 o.num l.w) (took o l).1 ∧ (took o l).2.num = o.num := by
 have := drain_coins (put o l).tray.length (put o l)
 have e : (put o l).coins = o.coins ∧ (put o l).num = o.num := by unfold put; split <;> exact ⟨rfl, rfl⟩
 rw [e.1, e.2] at this
 exact this
theorem vV8 : ∀ (ls : List Let) (o : Off), (xU0 o ls).2.coins = o.coins + sumF (fun l => xY9 o.num l.w) (xU0 o ls).1.flatten
 | [], o => by simp [xU0, sumF]
 | l :: ls, o => by
  have h1 := took_coins o l
  have h2 := vV8 ls (took o l).2
  simp only [xU0, List.flatten_cons]
  rw [h2, h1.1, h1.2, yU0]; omega
theorem sumF_congr {f g : Let → Int} : ∀ {ls : List Let}, (∀ l ∈ ls, f l = g l) → sumF f ls = sumF g ls
 | [], _ => rfl
 | l :: ls, h => by
  simp only [sumF]
  rw [h l List.mem_cons_self, sumF_congr fun x hx => h x (List.mem_cons_of_mem _ hx)]
theorem sumF_nn {f : Let → Int} : ∀ {ls : List Let}, (∀ l ∈ ls, 0 ≤ f l) → 0 ≤ sumF f ls
 | [], _ => Int.le_refl _
 | l :: ls, h => by
  simp only [sumF]
  have h1 := h l List.mem_cons_self
  have h2 := sumF_nn fun x hx => h x (List.mem_cons_of_mem _ hx)
  omega
theorem kn_got {u t : Nat} : ∀ {ls : List Let}, knOf u (ls.map fun l => (⟨false, t, l⟩ : Ev)) = if t = u then ls else []
 | [] => by simp [knOf]
 | l :: ls => by
  have := @kn_got u t ls
  rw [List.map_cons, show (⟨false, t, l⟩ : Ev) :: (ls.map fun l => (⟨false, t, l⟩ : Ev)) = [⟨false, t, l⟩] ++ (ls.map fun l => (⟨false, t, l⟩ : Ev)) from rfl, xX0, this, yV6]
  by_cases e : t = u
  ·rw [if_pos e, if_pos e, if_pos e]; rfl
  ·rw [if_neg e, if_neg e, if_neg e]; rfl
theorem Coin.bring {n t : Nat} {c0 : Int} {c : Crs} {ls : List Let} (C : Coin n c0 c) (W : Wd n c) (R' : Rep n (xZ8 c t ls).2) (ht : t < n) : Coin n c0 (xZ8 c t ls).2 := by
 have hev : ∀ l ∈ (xU0 (c.off t) ls).1.flatten, l.s ≠ t ∧ l ∈ c.lets := fun l hl => by
  have hm : (⟨false, t, l⟩ : Ev) ∈ (xZ8 c t ls).2.evs := List.mem_append_right _ (List.mem_map.mpr ⟨l, hl, rfl⟩)
  obtain ⟨i, hi⟩ := List.getElem?_of_mem hm
  have o := R'.ok.at_ hi
  refine ⟨(o.gt rfl).1, ?_⟩
  have h2 := (o.gt rfl).2
  rw [List.nil_append] at h2
  have : (xZ8 c t ls).2.lets = c.lets := rfl
  rw [← this, R'.ls]
  have ht' := List.take_append_drop i (xZ8 c t ls).2.evs
  rw [← ht', xZ3]
  exact List.mem_append_left _ h2
 have hco := vV8 ls (c.off t)
 have hnum : (c.off t).num = (t : Int) := (W.of t ht).num
 have hwh : ∀ l ∈ c.lets, okLet n l := R'.wh
 have off_eq : ∀ u, (xZ8 c t ls).2.off u = if t = u then (xU0 (c.off t) ls).2 else c.off u := fun u => by
  show (c.offs.set t (xU0 (c.off t) ls).2).getD u vW6 = _
  exact yW3 (by rw [W.ln]; exact ht)
 have kn_eq : ∀ u, knOf u (xZ8 c t ls).2.evs = knOf u c.evs ++ if t = u then (xU0 (c.off t) ls).1.flatten else [] := fun u => by
  show knOf u (c.evs ++ _) = _
  rw [xX0, kn_got]
 have vals : sumF (val t) (xU0 (c.off t) ls).1.flatten = sumF (fun l => xY9 (c.off t).num l.w) (xU0 (c.off t) ls).1.flatten := by
  refine sumF_congr fun l hl => ?_
  unfold val xY9
  rw [hnum]
  cases l.w with
  | cut => rfl
  | pay t' m => dsimp only; rw [if_neg (hev l hl).1]
 refine ⟨fun u hu => ?_, fun u hu => ?_⟩
 ·rw [off_eq, kn_eq]
  by_cases e : t = u
  ·subst e
   rw [if_pos rfl, if_pos rfl, yU0, hco, C.eq t hu, vals]; omega
  ·rw [if_neg e, if_neg e, List.append_nil]; exact C.eq u hu
 ·rw [off_eq]
  by_cases e : t = u
  ·subst e
   rw [if_pos rfl, hco]
   have h1 := C.nn t hu
   have h2 : 0 ≤ sumF (fun l => xY9 (c.off t).num l.w) (xU0 (c.off t) ls).1.flatten := sumF_nn fun l hl => by
    have := (hwh l (hev l hl).2).2.2.2
    revert this
    unfold xY9 okWhat
    cases l.w with
    | cut => intro _; exact Int.le_refl _
    | pay t' m =>
     intro h
     have h : 0 ≤ m ∧ 0 ≤ t' ∧ t' < (n : Int) ∧ t' ≠ (l.s : Int) := h
     show 0 ≤ if t' = (c.off t).num then m else 0
     split
     ·exact h.1
     ·exact Int.le_refl _
   omega
  ·rw [if_neg e]; exact C.nn u hu
theorem Coin.send {n w : Nat} {c0 : Int} {c : Crs} {x : What} (C : Coin n c0 c) (W : Wd n c) (hw : w < n) (hx : okWhat w n x) : Coin n c0 (yY3 c w x).2 := by
 unfold yY3 sent1
 by_cases hc : canPay (c.off w) x = true
 ·rw [if_pos hc]
  dsimp only
  have oc : (yX7 (payO (c.off w) x) w x).coins = (payO (c.off w) x).coins := by unfold yX7 vU8; rfl
  have off_eq : ∀ u, ((⟨c.offs.set w (yX7 (payO (c.off w) x) w x), c.lets ++ [xX3 (c.off w) w x], c.evs ++ [⟨true, w, xX3 (c.off w) w x⟩], c.ans⟩ : Crs)).off u = if w = u then yX7 (payO (c.off w) x) w x else c.off u := fun u => by
   show (c.offs.set w _).getD u vW6 = _
   exact yW3 (by rw [W.ln]; exact hw)
  have hv : val w (xX3 (c.off w) w x) = (payO (c.off w) x).coins - (c.off w).coins := by
   unfold val xX3 payO
   cases x with
   | cut => dsimp only; omega
   | pay t m => dsimp only; rw [if_pos rfl]; omega
  refine ⟨fun u hu => ?_, fun u hu => ?_⟩
  ·rw [off_eq]
   show _ = c0 + sumF (val u) (knOf u (c.evs ++ [⟨true, w, xX3 (c.off w) w x⟩]))
   rw [xX0, yV6]
   by_cases e : w = u
   ·subst e
    rw [if_pos rfl, if_pos rfl, yU0, oc]
    have := C.eq w hu
    simp only [sumF]
    rw [hv]; omega
   ·rw [if_neg e, if_neg e, List.append_nil]; exact C.eq u hu
  ·rw [off_eq]
   by_cases e : w = u
   ·subst e
    rw [if_pos rfl, oc]
    have h1 := C.nn w hu
    unfold payO
    cases x with
    | cut => exact h1
    | pay t m =>
     have : m ≤ (c.off w).coins := of_decide_eq_true hc
     show 0 ≤ (c.off w).coins - m
     omega
   ·rw [if_neg e]; exact C.nn u hu
 ·rw [if_neg hc]; exact C
theorem Coin.deed {n : Nat} {c0 : Int} {c : Crs} {d : Deed} (C : Coin n c0 c) (W : Wd n c) (R : Rep n c) (hd : xQ7 n d) : Coin n c0 (answer c d).2 := by
 have R' := R.deed W hd
 cases d with
 | pay w t m => exact C.send W hd.1 hd.2
 | cut w => exact C.send W hd trivial
 | carry k t =>
  cases e : yU6 c k with
  | none => simp only [answer, e]; exact C
  | some l =>
   simp only [answer, e] at R' ⊢
   exact C.bring W R' hd
 | bring t => exact C.bring W R' hd
theorem Coin.start {n : Nat} {c0 : Int} (h : 0 ≤ c0) : Coin n c0 (start n c0) := by
 refine ⟨fun u hu => ?_, fun u hu => ?_⟩
 ·rw [yX2 hu]
  show c0 = c0 + sumF (val u) (knOf u [])
  simp [knOf, sumF]
 ·rw [yX2 hu]; exact h
def tot (f : Nat → Int) : Nat → Int
 | 0 => 0
 | k + 1 => tot f k + f k
theorem tot_add {f g : Nat → Int} : ∀ {k : Nat}, tot (fun u => f u + g u) k = tot f k + tot g k
 | 0 => rfl
 | k + 1 => by simp only [tot]; rw [tot_add]; omega
theorem tot_const {x : Int} : ∀ {k : Nat}, tot (fun _ => x) k = (k : Int) * x
 | 0 => by simp [tot]
 | k + 1 => by simp only [tot]; rw [tot_const, Int.natCast_succ, Int.add_mul, Int.one_mul]
theorem tot_ind {x : Int} {a : Int} : ∀ {k : Nat}, tot (fun u => if a = (u : Int) then x else 0) k = if 0 ≤ a ∧ a < (k : Int) then x else 0
 | 0 => by
  simp only [tot]
  rw [if_neg (by omega)]
 | k + 1 => by
  simp only [tot]
  rw [tot_ind]
  by_cases h : a = (k : Int)
  ·rw [if_pos h, if_neg (by omega), if_pos (by omega)]; omega
  ·rw [if_neg h]
   by_cases h2 : 0 ≤ a ∧ a < (k : Int)
   ·rw [if_pos h2, if_pos (by omega)]; omega
   ·rw [if_neg h2, if_neg (by omega)]; rfl
end Of
namespace Of
open PySem PySem.Spec L2 L3 L4
end Of
namespace Of
open PySem PySem.Spec L2 L3 L4
def clk (n : Nat) (p : List Let) : List Int := (List.range n).map fun s => (cntS s p : Int)
theorem clk_len {n : Nat} {p : List Let} : (clk n p).length = n := by unfold clk; rw [List.length_map, List.length_range]
theorem clk_get {n s : Nat} {p : List Let} (h : s < n) : (clk n p).getD s 0 = (cntS s p : Int) := by
 unfold clk
 rw [List.getD_eq_getElem?_getD, List.getElem?_map, List.getElem?_range h]; rfl
theorem clk_of {n : Nat} {p : List Let} {cs : List Int} (h : cs.length = n) (h2 : ∀ s, s < n → cs.getD s 0 = (cntS s p : Int)) : cs = clk n p := by
 refine List.ext_getElem (by rw [h, clk_len]) fun s h1 h3 => ?_
 have e1 := h2 s (by omega)
 have e2 := clk_get (n := n) (p := p) (s := s) (by omega)
 rw [List.getD_eq_getElem?_getD, List.getElem?_eq_getElem h1] at e1
 rw [List.getD_eq_getElem?_getD, List.getElem?_eq_getElem h3] at e2
 exact (show cs[s] = _ from e1).trans (show (clk n p)[s] = _ from e2).symm
theorem inc_clk {n : Nat} {p : List Let} {l : Let} (h : l.s < n) : inc (clk n p) l.s = clk n (p ++ [l]) := by
 refine clk_of (by unfold inc; rw [List.length_set, clk_len]) fun s hs => ?_
 rw [yX9 (by rw [clk_len]; exact h), clk_get hs, xZ5, yZ8]
 split <;> simp
def kps (n : Nat) (c0 : Int) (u : Nat) : List Let → List Let → List PyData
 | _, [] => []
 | pre, l :: ls => (if l.w = .cut then [vU1 l (c0 + sumF (val u) (pre ++ [l])) (clk n (pre ++ [l]))] else []) ++ kps n c0 u (pre ++ [l]) ls
theorem yQ5 {n u : Nat} {c0 : Int} : ∀ {a b pre : List Let}, kps n c0 u pre (a ++ b) = kps n c0 u pre a ++ kps n c0 u (pre ++ a) b
 | [], b, pre => by simp [kps]
 | l :: a, b, pre => by
  simp only [List.cons_append, kps]
  rw [yQ5, List.append_assoc, List.append_assoc]; rfl
theorem val_got {u : Nat} {l : Let} (h : l.s ≠ u) : val u l = xY9 (u : Int) l.w := by
 unfold val xY9
 cases l.w with
 | cut => rfl
 | pay t' m => dsimp only; rw [if_neg h]
theorem drain_kept {n u : Nat} {c0 : Int} : ∀ (k : Nat) (o : Off) (pre : List Let), o.num = (u : Int) → o.coins = c0 + sumF (val u) pre → o.clock = clk n pre → (∀ l ∈ (drain k o).1, l.s ≠ u ∧ l.s < n) →
  (drain k o).2.kept = o.kept ++ kps n c0 u pre (drain k o).1 ∧ (drain k o).2.coins = c0 + sumF (val u) (pre ++ (drain k o).1) ∧ (drain k o).2.clock = clk n (pre ++ (drain k o).1) ∧ (drain k o).2.num = (u : Int)
 | 0, o, pre, h1, h2, h3, _ => by simp [drain, kps, h1, h2, h3]
 | k + 1, o, pre, h1, h2, h3, h4 => by
  cases hf : xZ0 o.tray o.clock with
  | none =>
   simp only [drain, hf]
   simp [kps, h1, h2, h3]
  | some i =>
   obtain ⟨l, hl, hr⟩ := yQ3 hf
   simp only [drain, hf, hl] at h4 ⊢
   obtain ⟨g1, g2⟩ := h4 l List.mem_cons_self
   have e1 : (xW3 o i l).coins = c0 + sumF (val u) (pre ++ [l]) := by
    have : (xW3 o i l).coins = o.coins + xY9 o.num l.w := by unfold xW3 vU8; rfl
    rw [this, h1, h2, yU0, ← val_got g1]; simp only [sumF]; omega
   have e2 : (xW3 o i l).clock = clk n (pre ++ [l]) := by
    have : (xW3 o i l).clock = inc o.clock l.s := by unfold xW3 vU8; rfl
    rw [this, h3, inc_clk g2]
   have e3 : (xW3 o i l).num = (u : Int) := by
    have : (xW3 o i l).num = o.num := by unfold xW3 vU8; rfl
    rw [this, h1]
   have e4 : (xW3 o i l).kept = o.kept ++ (if l.w = .cut then [vU1 l (c0 + sumF (val u) (pre ++ [l])) (clk n (pre ++ [l]))] else []) := by
    have q1 : o.coins + xY9 o.num l.w = c0 + sumF (val u) (pre ++ [l]) := e1
    have q2 : inc o.clock l.s = clk n (pre ++ [l]) := e2
    unfold xW3 vU8
    dsimp only
    rw [q1, q2]
    split <;> simp
   obtain ⟨r1, r2, r3, r4⟩ := drain_kept k (xW3 o i l) (pre ++ [l]) e3 e1 e2 fun x hx => h4 x (List.mem_cons_of_mem _ hx)
   rw [r1, r2, r3, r4, e4]
   simp only [kps, List.append_assoc, List.singleton_append, true_and, and_self]
theorem took_kept {n u : Nat} {c0 : Int} (o : Off) (l : Let) (pre : List Let) (h1 : o.num = (u : Int)) (h2 : o.coins = c0 + sumF (val u) pre) (h3 : o.clock = clk n pre) (h4 : ∀ x ∈ (took o l).1, x.s ≠ u ∧ x.s < n) :
  (took o l).2.kept = o.kept ++ kps n c0 u pre (took o l).1 ∧ (took o l).2.coins = c0 + sumF (val u) (pre ++ (took o l).1) ∧ (took o l).2.clock = clk n (pre ++ (took o l).1) ∧ (took o l).2.num = (u : Int) := by
 have e : (put o l).coins = o.coins ∧ (put o l).num = o.num ∧ (put o l).clock = o.clock ∧ (put o l).kept = o.kept := by unfold put; split <;> exact ⟨rfl, rfl, rfl, rfl⟩
 have := drain_kept (n := n) (u := u) (c0 := c0) (put o l).tray.length (put o l) pre (e.2.1.trans h1) (e.1.trans h2) (e.2.2.1.trans h3) h4
 rw [e.2.2.2] at this
 exact this
theorem vX9 {n u : Nat} {c0 : Int} : ∀ (ls : List Let) (o : Off) (pre : List Let), o.num = (u : Int) → o.coins = c0 + sumF (val u) pre → o.clock = clk n pre → (∀ x ∈ (xU0 o ls).1.flatten, x.s ≠ u ∧ x.s < n) →
  (xU0 o ls).2.kept = o.kept ++ kps n c0 u pre (xU0 o ls).1.flatten
 | [], o, pre, _, _, _, _ => by simp [xU0, kps]
 | l :: ls, o, pre, h1, h2, h3, h4 => by
  simp only [xU0, List.flatten_cons] at h4 ⊢
  obtain ⟨g1, g2, g3, g4⟩ := took_kept o l pre h1 h2 h3 fun x hx => h4 x (List.mem_append_left _ hx)
  rw [vX9 ls (took o l).2 (pre ++ (took o l).1) g4 g2 g3 fun x hx => h4 x (List.mem_append_right _ hx), g1, yQ5, List.append_assoc]
def KpI (n : Nat) (c0 : Int) (c : Crs) : Prop := ∀ u, u < n → (c.off u).kept = kps n c0 u [] (knOf u c.evs)
theorem clock_clk {n u : Nat} {c : Crs} (R : Rep n c) (hu : u < n) : (c.off u).clock = clk n (knOf u c.evs) := by
 have W' := KW.at_ R.ok c.evs.length
 rw [List.take_length] at W'
 have K := W'.kw u hu
 have l1 : ((yV9 (xY3 n) c.evs).getD u []).length = n := K.ck
 have g1 : ∀ s, ((yV9 (xY3 n) c.evs).getD u []).getD s 0 = (cntS s (knOf u c.evs) : Int) := K.cl
 rw [R.rw_ u hu] at l1 g1
 exact clk_of l1 fun s _ => g1 s
theorem bring_evs {n t : Nat} {c : Crs} {ls : List Let} (R' : Rep n (xZ8 c t ls).2) : ∀ l ∈ (xU0 (c.off t) ls).1.flatten, l.s ≠ t ∧ l.s < n := fun l hl => by
 have hm : (⟨false, t, l⟩ : Ev) ∈ (xZ8 c t ls).2.evs := List.mem_append_right _ (List.mem_map.mpr ⟨l, hl, rfl⟩)
 obtain ⟨i, hi⟩ := List.getElem?_of_mem hm
 have o := R'.ok.at_ hi
 exact ⟨(o.gt rfl).1, o.fit.1⟩
theorem KpI.bring {n t : Nat} {c0 : Int} {c : Crs} {ls : List Let} (P : KpI n c0 c) (C : Coin n c0 c) (W : Wd n c) (R : Rep n c) (R' : Rep n (xZ8 c t ls).2) (ht : t < n) : KpI n c0 (xZ8 c t ls).2 := fun u hu => by
 have off_eq : (xZ8 c t ls).2.off u = if t = u then (xU0 (c.off t) ls).2 else c.off u := by
  show (c.offs.set t (xU0 (c.off t) ls).2).getD u vW6 = _
  exact yW3 (by rw [W.ln]; exact ht)
 have kn_eq : knOf u (xZ8 c t ls).2.evs = knOf u c.evs ++ if t = u then (xU0 (c.off t) ls).1.flatten else [] := by
  show knOf u (c.evs ++ _) = _
  rw [xX0, kn_got]
 rw [off_eq, kn_eq]
 by_cases e : t = u
 ·subst e
  rw [if_pos rfl, if_pos rfl, yQ5, List.nil_append, ← P t hu]
  exact vX9 ls (c.off t) _ (W.of t ht).num (C.eq t ht) (clock_clk R ht) (bring_evs R')
 ·rw [if_neg e, if_neg e, List.append_nil]; exact P u hu
theorem KpI.send {n w : Nat} {c0 : Int} {c : Crs} {x : What} (P : KpI n c0 c) (C : Coin n c0 c) (W : Wd n c) (R : Rep n c) (hw : w < n) : KpI n c0 (yY3 c w x).2 := by
 unfold yY3 sent1
 by_cases hc : canPay (c.off w) x = true
 ·rw [if_pos hc]
  dsimp only
  intro u hu
  have off_eq : ((⟨c.offs.set w (yX7 (payO (c.off w) x) w x), c.lets ++ [xX3 (c.off w) w x], c.evs ++ [⟨true, w, xX3 (c.off w) w x⟩], c.ans⟩ : Crs)).off u = if w = u then yX7 (payO (c.off w) x) w x else c.off u := by
   show (c.offs.set w _).getD u vW6 = _
   exact yW3 (by rw [W.ln]; exact hw)
  have kn_eq : knOf u (c.evs ++ [⟨true, w, xX3 (c.off w) w x⟩]) = knOf u c.evs ++ if w = u then [xX3 (c.off w) w x] else [] := by rw [xX0, yV6]
  rw [off_eq]
  show _ = kps n c0 u [] (knOf u (c.evs ++ [⟨true, w, xX3 (c.off w) w x⟩]))
  rw [kn_eq]
  by_cases e : w = u
  ·subst e
   rw [if_pos rfl, if_pos rfl, yQ5, List.nil_append, ← P w hu]
   have hk : (payO (c.off w) x).kept = (c.off w).kept ∧ (payO (c.off w) x).clock = (c.off w).clock := by unfold payO; cases x <;> exact ⟨rfl, rfl⟩
   have hl : xX3 (payO (c.off w) x) w x = xX3 (c.off w) w x := by unfold xX3; rw [hk.2]
   have q1 : inc (c.off w).clock w = clk n (knOf w c.evs ++ [xX3 (c.off w) w x]) := by
    rw [clock_clk R hu]
    exact inc_clk (l := xX3 (c.off w) w x) hw
   unfold yX7 vU8
   dsimp only
   rw [hl, hk.1, hk.2, q1]
   simp only [kps, List.append_nil]
   have hxw : (xX3 (c.off w) w x).w = x := rfl
   rw [hxw]
   by_cases hcut : x = .cut
   ·subst hcut
    rw [if_pos rfl, if_pos rfl]
    have q2 : (payO (c.off w) .cut).coins = c0 + sumF (val w) (knOf w c.evs ++ [xX3 (c.off w) w .cut]) := by
     rw [yU0, show sumF (val w) [xX3 (c.off w) w .cut] = 0 from rfl]
     have := C.eq w hu
     show (c.off w).coins = _
     omega
    rw [q2]
   ·rw [if_neg hcut, if_neg hcut, List.append_nil]
  ·rw [if_neg e, if_neg e, List.append_nil]; exact P u hu
 ·rw [if_neg hc]; exact P
theorem KpI.deed {n : Nat} {c0 : Int} {c : Crs} {d : Deed} (P : KpI n c0 c) (C : Coin n c0 c) (W : Wd n c) (R : Rep n c) (hd : xQ7 n d) : KpI n c0 (answer c d).2 := by
 have R' := R.deed W hd
 cases d with
 | pay w t m => exact P.send C W R hd.1
 | cut w => exact P.send C W R hd
 | carry k t =>
  cases e : yU6 c k with
  | none => simp only [answer, e]; exact P
  | some l =>
   simp only [answer, e] at R' ⊢
   exact P.bring C W R R' hd
 | bring t => exact P.bring C W R R' hd
theorem KpI.run {n : Nat} {c0 : Int} : ∀ {ds : List Deed} {c : Crs}, Wd n c → Rep n c → Coin n c0 c → KpI n c0 c → (∀ d ∈ ds, xQ7 n d) → KpI n c0 (runC c ds)
 | [], c, W, R, C, P, _ => P
 | d :: ds, c, W, R, C, P, ok => by
  have hd := ok d List.mem_cons_self
  have g := R.deed W hd
  have C' := C.deed W R hd
  have P' := P.deed C W R hd
  exact KpI.run (ds := ds) (c := doC c d) (W.do hd) ⟨g.ls, g.rw_, g.ok, g.wh⟩ ⟨C'.eq, C'.nn⟩ P' fun x hx => ok x (List.mem_cons_of_mem _ hx)
theorem KpI.start {n : Nat} {c0 : Int} : KpI n c0 (start n c0) := fun u hu => by
 rw [yX2 hu]; rfl
end Of
namespace Of
open PySem PySem.Spec L2 L3 L4
theorem nodup_ix {α : Type} {L : List α} (hn : L.Nodup) {i j : Nat} {x : α} (h1 : L[i]? = some x) (h2 : L[j]? = some x) : i = j := by
 obtain ⟨h1, e1⟩ := List.getElem?_eq_some_iff.mp h1
 obtain ⟨h2, e2⟩ := List.getElem?_eq_some_iff.mp h2
 exact (List.getElem_inj hn).mp (e1.trans e2.symm)
theorem ix_mid {α : Type} {a b : List α} {m : α} : (a ++ m :: b)[a.length]? = some m := by simp
theorem kn_at {u : Nat} {es : List Ev} {i : Nat} {e : Ev} (hi : es[i]? = some e) (hu : e.u = u) : knOf u es = knOf u (es.take i) ++ e.l :: knOf u (es.drop (i + 1)) := by
 have h1 : es = es.take i ++ ([e] ++ es.drop (i + 1)) := by
  obtain ⟨h, rfl⟩ := List.getElem?_eq_some_iff.mp hi
  rw [List.singleton_append, List.getElem_cons_drop, List.take_append_drop]
 conv => lhs; rw [h1]
 rw [xX0, xX0, yV6, if_pos hu]; rfl
theorem kn_pos {u : Nat} {es : List Ev} {x : Let} (h : x ∈ knOf u es) : ∃ (i : Nat) (e : Ev), es[i]? = some e ∧ e.u = u ∧ e.l = x := by
 unfold knOf at h
 obtain ⟨e, he, rfl⟩ := List.mem_map.mp h
 rw [List.mem_filter] at he
 obtain ⟨i, hi⟩ := List.getElem?_of_mem he.1
 exact ⟨i, e, hi, of_decide_eq_true he.2, rfl⟩
theorem vV3 {n u : Nat} {es : List Ev} (g : Good n (xY3 n) [] es) (hu : u < n) : (knOf u es).Nodup ∧ ∀ x ∈ knOf u es, x ∈ xV6 es := by
 have W := KW.at_ g es.length
 rw [List.take_length] at W
 have K := W.kw u hu
 exact ⟨K.gn, K.gm⟩
def upto (m : Let) (L : List Let) : List Let := L.takeWhile (fun x => decide (x ≠ m)) ++ [m]
theorem vW8 {m : Let} : ∀ {L : List Let}, m ∈ L → ∃ b, L = L.takeWhile (fun x => decide (x ≠ m)) ++ m :: b
 | [], h => nomatch h
 | y :: L, h => by
  by_cases e : y = m
  ·subst e
   exact ⟨L, by simp⟩
  ·rcases List.mem_cons.mp h with z | z
   ·exact absurd z.symm e
   ·obtain ⟨b, hb⟩ := vW8 z
    refine ⟨b, ?_⟩
    rw [List.takeWhile_cons, if_pos (by simpa using e), List.cons_append, ← hb]
theorem upto_take {n u : Nat} {es : List Ev} {m : Let} (g : Good n (xY3 n) [] es) (hu : u < n) {i : Nat} {e : Ev} (hi : es[i]? = some e) (eu : e.u = u) (el : e.l = m) : upto m (knOf u es) = knOf u (es.take (i + 1)) := by
 have hdec := kn_at hi eu
 rw [el] at hdec
 obtain ⟨nu, _⟩ := vV3 g hu
 obtain ⟨b, hb⟩ := vW8 (m := m) (L := knOf u es) (by rw [hdec]; exact List.mem_append_right _ List.mem_cons_self)
 have g1 : (knOf u es)[((knOf u es).takeWhile (fun x => decide (x ≠ m))).length]? = some m := by
  conv => lhs; lhs; rw [hb]
  exact ix_mid
 have g2 : (knOf u es)[(knOf u (es.take i)).length]? = some m := by
  conv => lhs; lhs; rw [hdec]
  exact ix_mid
 have e1 := nodup_ix nu g1 g2
 have h1 : (knOf u es).take ((knOf u es).takeWhile (fun x => decide (x ≠ m))).length = (knOf u es).takeWhile (fun x => decide (x ≠ m)) := by
  conv => lhs; rhs; rw [hb]
  rw [List.take_left']; rfl
 have h2 : (knOf u es).take (knOf u (es.take i)).length = knOf u (es.take i) := by
  conv => lhs; rhs; rw [hdec]
  rw [List.take_left']; rfl
 unfold upto
 rw [← h1, e1, h2, xX7 hi, xX0, yV6, if_pos eu, el]
theorem pre_iff {n u i : Nat} {es : List Ev} {l : Let} (g : Good n (xY3 n) [] es) (hu : u < n) (hl : l ∈ xV6 es) : xV4 l ≤ (cntS l.s (knOf u (es.take i)) : Int) ↔ l ∈ knOf u (es.take i) := by
 have W := KW.at_ g i
 have K := W.kw u hu
 have hcl : ∀ v, ((yV9 (xY3 n) (es.take i)).getD u []).getD v 0 = (cntS v (knOf u (es.take i)) : Int) := K.cl
 have hlo : ∀ l ∈ xV6 (es.take i), (xV4 l ≤ ((yV9 (xY3 n) (es.take i)).getD u []).getD l.s 0 ↔ l ∈ knOf u (es.take i)) := K.lo
 by_cases h : l ∈ xV6 (es.take i)
 ·rw [← hcl]; exact hlo l h
 ·have hno : l ∉ knOf u (es.take i) := fun z => h (K.gm l z)
  refine ⟨fun z => ?_, fun z => absurd z hno⟩
  have M := (KW.at_ g es.length).ml
  rw [List.take_length] at M
  have hls : xV6 es = xV6 (es.take i) ++ xV6 (es.drop i) := by rw [← xZ3, List.take_append_drop]
  rw [hls] at hl
  rcases List.mem_append.mp hl with y | y
  ·exact absurd y h
  ·obtain ⟨k, hk⟩ := List.getElem?_of_mem y
   have hj : (xV6 es)[(xV6 (es.take i)).length + k]? = some l := by
    rw [hls, List.getElem?_append_right (by omega), Nat.add_sub_cancel_left]; exact hk
   have h3 := M.num _ _ hj
   have h4 := @yY7 l.s (xV6 es) (xV6 (es.take i)).length k
   rw [show (xV6 es).take (xV6 (es.take i)).length = xV6 (es.take i) by rw [hls, List.take_left']; rfl] at h4
   have h5 := yZ9 (u := l.s) K.gn K.gm
   omega
def way (m : Let) (es : List Ev) (l : Let) : Int := match l.w with
 | .cut => 0
 | .pay t q => if l ∈ upto m (knOf l.s es) ∧ ¬ l ∈ upto m (knOf t.toNat es) then q else 0
theorem upto_sub {n u : Nat} {es : List Ev} {m : Let} (g : Good n (xY3 n) [] es) (hu : u < n) (hm : m ∈ knOf u es) : (upto m (knOf u es)).Nodup ∧ ∀ x ∈ upto m (knOf u es), x ∈ xV6 es := by
 obtain ⟨i, e, hi, eu, el⟩ := kn_pos hm
 rw [upto_take g hu hi eu el]
 have K := (KW.at_ g (i + 1)).kw u hu
 refine ⟨K.gn, fun x hx => ?_⟩
 have := K.gm x hx
 rw [← List.take_append_drop (i + 1) es, xZ3]
 exact List.mem_append_left _ this
end Of
namespace Of
open PySem PySem.Spec L2 L3 L4
def kpD (x : Let × Int × List Int) : PyData := vU1 x.1 x.2.1 x.2.2
def kpE (n : Nat) (c0 : Int) (u : Nat) : List Let → List Let → List (Let × Int × List Int)
 | _, [] => []
 | pre, l :: ls => (if l.w = .cut then [(l, c0 + sumF (val u) (pre ++ [l]), clk n (pre ++ [l]))] else []) ++ kpE n c0 u (pre ++ [l]) ls
theorem kps_E {n u : Nat} {c0 : Int} : ∀ (ls pre : List Let), kps n c0 u pre ls = (kpE n c0 u pre ls).map kpD
 | [], pre => rfl
 | l :: ls, pre => by
  simp only [kps, kpE]
  rw [List.map_append, kps_E ls]
  by_cases h : l.w = .cut
  ·rw [if_pos h, if_pos h]; rfl
  ·rw [if_neg h, if_neg h]; rfl
theorem kpE_append {n u : Nat} {c0 : Int} : ∀ {a b pre : List Let}, kpE n c0 u pre (a ++ b) = kpE n c0 u pre a ++ kpE n c0 u (pre ++ a) b
 | [], b, pre => by simp [kpE]
 | l :: a, b, pre => by
  simp only [List.cons_append, kpE]
  rw [kpE_append, List.append_assoc, List.append_assoc]; rfl
theorem kpE_mem {n u : Nat} {c0 : Int} : ∀ {ls pre : List Let} {x : Let × Int × List Int}, x ∈ kpE n c0 u pre ls → x.1 ∈ ls
 | [], pre, x, h => nomatch h
 | l :: ls, pre, x, h => by
  simp only [kpE] at h
  rcases List.mem_append.mp h with z | z
  ·by_cases hc : l.w = .cut
   ·rw [if_pos hc] at z
    have : x = (l, c0 + sumF (val u) (pre ++ [l]), clk n (pre ++ [l])) := by simpa using z
    rw [this]; exact List.mem_cons_self
   ·rw [if_neg hc] at z; exact nomatch z
  ·exact List.mem_cons_of_mem _ (kpE_mem z)
theorem kpE_at {n u : Nat} {c0 : Int} {m : Let} {L a b : List Let} (h : L = a ++ m :: b) (hw : m.w = .cut) : kpE n c0 u [] L = kpE n c0 u [] a ++ (m, c0 + sumF (val u) (a ++ [m]), clk n (a ++ [m])) :: kpE n c0 u (a ++ [m]) b := by
 subst h
 rw [kpE_append]
 simp only [kpE, List.nil_append]
 rw [if_pos hw]; rfl
def KAt (m : Let) (x : Int × List Int) (es : List (Let × Int × List Int)) : Prop := ∃ a b, es = a ++ (m, x) :: b ∧ ∀ y ∈ a, ¬ (y.1.s = m.s ∧ xV4 y.1 = xV4 m)
def stO (n : Nat) (c0 : Int) (m : Let) (es : List Ev) (u : Nat) : Int × List Int := (c0 + sumF (val u) (upto m (knOf u es)), clk n (upto m (knOf u es)))
theorem kp_at {n u : Nat} {c0 : Int} {es : List Ev} {m : Let} (g : Good n (xY3 n) [] es) (hu : u < n) (hm : m ∈ knOf u es) (hw : m.w = .cut) : KAt m (stO n c0 m es u) (kpE n c0 u [] (knOf u es)) := by
 obtain ⟨b, hb⟩ := vW8 hm
 unfold stO upto
 generalize (knOf u es).takeWhile (fun x => decide (x ≠ m)) = a at hb ⊢
 refine ⟨kpE n c0 u [] a, kpE n c0 u (a ++ [m]) b, kpE_at hb hw, fun y hy ⟨z1, z2⟩ => ?_⟩
 have hy := kpE_mem hy
 obtain ⟨nu, mu⟩ := vV3 g hu
 have M := (KW.at_ g es.length).ml
 rw [List.take_length] at M
 have e : y.1 = m := M.inj (mu _ (by rw [hb]; exact List.mem_append_left _ hy)) (mu _ hm) z1 z2
 rw [hb, List.nodup_append] at nu
 exact nu.2.2 _ hy _ List.mem_cons_self e
def sts (n : Nat) (c0 : Int) (m : Let) (es : List Ev) : List (Int × List Int) := (List.range n).map (stO n c0 m es)
theorem sts_len {n : Nat} {c0 : Int} {m : Let} {es : List Ev} : (sts n c0 m es).length = n := by unfold sts; rw [List.length_map, List.length_range]
theorem sts_get {n u : Nat} {c0 : Int} {m : Let} {es : List Ev} (h : u < n) : (sts n c0 m es)[u]? = some (stO n c0 m es u) := by
 unfold sts; rw [List.getElem?_map, List.getElem?_range h]; rfl
theorem sts_getD {n u : Nat} {c0 : Int} {m : Let} {es : List Ev} (h : u < n) : (sts n c0 m es).getD u (0, []) = stO n c0 m es u := by
 rw [List.getD_eq_getElem?_getD, sts_get h]; rfl
theorem sts_mem {n : Nat} {c0 : Int} {m : Let} {es : List Ev} : ∀ x ∈ sts n c0 m es, x.2.length = n := fun x hx => by
 unfold sts at hx
 obtain ⟨u, _, rfl⟩ := List.mem_map.mp hx
 exact clk_len
theorem upto_iff {n u : Nat} {c0 : Int} {es : List Ev} {m l : Let} (g : Good n (xY3 n) [] es) (hu : u < n) (hm : m ∈ knOf u es) (hl : l ∈ xV6 es) (hs : l.s < n) : xV4 l ≤ ((sts n c0 m es).getD u (0, [])).2.getD l.s 0 ↔ l ∈ upto m (knOf u es) := by
 rw [sts_getD hu]
 show xV4 l ≤ (clk n (upto m (knOf u es))).getD l.s 0 ↔ _
 rw [clk_get hs]
 obtain ⟨i, e, hi, eu, el⟩ := kn_pos hm
 rw [upto_take g hu hi eu el]
 exact pre_iff g hu hl
end Of
namespace Of
open PySem PySem.Spec L2 L3 L4
def fsts (m : Let) : List Ev → List Ev → List Ev
 | _, [] => []
 | a, e :: b => (if m ∈ knOf e.u a then [] else [e]) ++ fsts m (a ++ [e]) b
def rsts (m : Let) : List Ev → List Ev → List Ev
 | _, [] => []
 | a, e :: b => (if m ∈ knOf e.u a then [e] else []) ++ rsts m (a ++ [e]) b
theorem fsts_append {m : Let} : ∀ {b c a : List Ev}, fsts m a (b ++ c) = fsts m a b ++ fsts m (a ++ b) c
 | [], c, a => by simp [fsts]
 | e :: b, c, a => by
  simp only [List.cons_append, fsts]
  rw [fsts_append, List.append_assoc, List.append_assoc]; rfl
theorem rsts_append {m : Let} : ∀ {b c a : List Ev}, rsts m a (b ++ c) = rsts m a b ++ rsts m (a ++ b) c
 | [], c, a => by simp [rsts]
 | e :: b, c, a => by
  simp only [List.cons_append, rsts]
  rw [rsts_append, List.append_assoc, List.append_assoc]; rfl
theorem fsts_snoc {m : Let} {es : List Ev} {i : Nat} {e : Ev} (h : es[i]? = some e) : fsts m [] (es.take (i + 1)) = fsts m [] (es.take i) ++ (if m ∈ knOf e.u (es.take i) then [] else [e]) := by
 rw [xX7 h, fsts_append]
 simp [fsts]
theorem rsts_snoc {m : Let} {es : List Ev} {i : Nat} {e : Ev} (h : es[i]? = some e) : rsts m [] (es.take (i + 1)) = rsts m [] (es.take i) ++ (if m ∈ knOf e.u (es.take i) then [e] else []) := by
 rw [xX7 h, rsts_append]
 simp [rsts]
theorem upto_cons {m x : Let} {L : List Let} (h : x ≠ m) : upto m (x :: L) = x :: upto m L := by
 unfold upto
 rw [List.takeWhile_cons, if_pos (by simpa using h)]; rfl
theorem upto_self {m : Let} {L : List Let} : upto m (m :: L) = [m] := by
 unfold upto
 rw [List.takeWhile_cons, if_neg (by simp)]; rfl
theorem good_u {n : Nat} {es : List Ev} (g : Good n (xY3 n) [] es) : ∀ e ∈ es, e.u < n := fun e he => by
 obtain ⟨i, hi⟩ := List.getElem?_of_mem he
 exact (g.at_ hi).u
theorem no_kn {m : Let} {u : Nat} : m ∉ knOf u [] := by simp [knOf]
theorem sent_at {es : List Ev} {l : Let} (h : l ∈ xV6 es) : ∃ (j : Nat) (e : Ev), es[j]? = some e ∧ e.sent = true ∧ e.l = l := by
 unfold xV6 at h
 obtain ⟨e, he, rfl⟩ := List.mem_map.mp h
 rw [List.mem_filter] at he
 obtain ⟨j, hj⟩ := List.getElem?_of_mem he.1
 exact ⟨j, e, hj, he.2, rfl⟩
theorem ev_count {n : Nat} : ∀ {es : List Ev}, (∀ e ∈ es, e.u < n) → (es.length : Int) = tot (fun u => ((knOf u es).length : Int)) n
 | [], _ => by
  have : (fun u : Nat => ((knOf u []).length : Int)) = fun _ => (0 : Int) := rfl
  rw [this, tot_const]; simp
 | e :: es, h => by
  have he := h e List.mem_cons_self
  have : (fun u : Nat => ((knOf u (e :: es)).length : Int)) = fun u : Nat => (if ((e.u : Nat) : Int) = (u : Int) then (1 : Int) else 0) + ((knOf u es).length : Int) := by
   funext u
   have hb : knOf u (e :: es) = knOf u [e] ++ knOf u es := by rw [← xX0]; rfl
   rw [hb, yV6, List.length_append]
   by_cases hu : e.u = u
   ·rw [if_pos hu, if_pos (by omega)]; simp
   ·rw [if_neg hu, if_neg (by omega)]; simp
  rw [this, tot_add, tot_ind, if_pos (by omega), ← ev_count fun x hx => h x (List.mem_cons_of_mem _ hx), List.length_cons]
  omega
theorem tot_le {f g : Nat → Int} : ∀ {k : Nat}, (∀ u, u < k → f u ≤ g u) → tot f k ≤ tot g k
 | 0, _ => Int.le_refl _
 | k + 1, h => by
  have h1 := tot_le (k := k) fun u hu => h u (by omega)
  have h2 := h k (by omega)
  simp only [tot]; omega
theorem ev_bound {n : Nat} {es : List Ev} (g : Good n (xY3 n) [] es) : (es.length : Int) ≤ (n : Int) * ((xV6 es).length : Int) := by
 rw [ev_count (good_u g)]
 refine Int.le_trans (tot_le (g := fun _ => ((xV6 es).length : Int)) fun u hu => ?_) (by rw [tot_const]; exact Int.le_refl _)
 obtain ⟨h1, h2⟩ := vV3 g hu
 have := vW9 h1 h2
 omega
theorem cut_len_ {m : Let} : ∀ {b a : List Ev}, (fsts m a b).length + (rsts m a b).length = b.length
 | [], a => rfl
 | e :: b, a => by
  have := cut_len_ (m := m) (b := b) (a := a ++ [e])
  simp only [fsts, rsts, List.length_append, List.length_cons]
  by_cases hm : m ∈ knOf e.u a
  ·rw [if_pos hm, if_pos hm]; simp only [List.length_nil, List.length_cons]; omega
  ·rw [if_neg hm, if_neg hm]; simp only [List.length_nil, List.length_cons]; omega
end Of
namespace Of
open PySem PySem.Spec L2 L3 L4
def wo (n : Nat) (m : Let) (es : List Ev) (l : Let) : List Nat := (List.range n).filter fun u => decide (l ∉ upto m (knOf u es))
def woV (ss : List (Int × List Int)) (l : Let) : List Nat := (List.range ss.length).filter fun u => !decide (xV4 l ≤ (ss.getD u (0, [])).2.getD l.s 0)
theorem wo_eq {n : Nat} {c0 : Int} {m l : Let} {es : List Ev} (g : Good n (xY3 n) [] es) (hm : ∀ u, u < n → m ∈ knOf u es) (hl : l ∈ xV6 es) (hs : l.s < n) : woV (sts n c0 m es) l = wo n m es l := by
 unfold woV wo
 rw [sts_len]
 refine List.filter_congr fun u hu => ?_
 have hu := List.mem_range.mp hu
 rw [← decide_not, decide_eq_decide]
 exact not_congr (upto_iff (c0 := c0) g hu (hm u hu) hl hs)
def due (n : Nat) (m : Let) (es : List Ev) (ls : List Let) : List (Let × List Nat) := ((ls.filter fun l => decide (l ∈ upto m (knOf l.s es))).map fun l => (l, wo n m es l)).filter fun p => !p.2.isEmpty
def dueV (ss : List (Int × List Int)) (ls : List Let) : List (Let × List Nat) := ((ls.filter fun l => decide (xV4 l ≤ (ss.getD l.s (0, [])).2.getD l.s 0)).map fun l => (l, woV ss l)).filter fun p => !p.2.isEmpty
theorem due_eq {n : Nat} {c0 : Int} {m : Let} {es : List Ev} (g : Good n (xY3 n) [] es) (hm : ∀ u, u < n → m ∈ knOf u es) : ∀ {ls : List Let}, (∀ l ∈ ls, l ∈ xV6 es ∧ l.s < n) → dueV (sts n c0 m es) ls = due n m es ls := fun {ls} h => by
 unfold dueV due
 have h1 : (ls.filter fun l => decide (xV4 l ≤ ((sts n c0 m es).getD l.s (0, [])).2.getD l.s 0)) = ls.filter fun l => decide (l ∈ upto m (knOf l.s es)) := by
  refine List.filter_congr fun l hl => ?_
  obtain ⟨a, b⟩ := h l hl
  rw [decide_eq_decide]
  exact upto_iff (c0 := c0) g b (hm _ b) a b
 rw [h1]
 congr 1
 refine List.map_congr_left fun l hl => ?_
 obtain ⟨a, b⟩ := h l (List.mem_filter.mp hl).1
 rw [wo_eq g hm a b]
end Of
section
seal L2.PE L2.PT L2.PW L2.PA L2.PS L2.PSs L2.PG L2.PGs L2.PI L3.PTs L2.PO L2.CallR L2.OpR L2.IxR L2.MtR L2.PSet L2.SlR
namespace Of
open PySem L2 L3
theorem boot_str : bootBuiltins "str" = some (.type "str") := by decide +kernel
theorem boot_dct : bootBuiltins "dict" = some (.type "dict") := by decide +kernel
structure Sxt (mg : Str → Option Value) (f : Addr) : Prop where
 so : mg "_law_so" = some (.ref f)
 isinstance : mg "isinstance" = none
 bool : mg "bool" = none
 int : mg "int" = none
 str : mg "str" = none
 dict : mg "dict" = none
 tuple : mg "tuple" = none
 list : mg "list" = none
 len : mg "len" = none
 range : mg "range" = none
theorem ks_bool {K : PySem.W.Frag} : PySem.W.kitOne K (.type "str") (.type "bool") = some false := by kernel_rfl
theorem ks_int {K : PySem.W.Frag} : PySem.W.kitOne K (.type "str") (.type "int") = some false := by kernel_rfl
theorem ks_str {K : PySem.W.Frag} : PySem.W.kitOne K (.type "str") (.type "str") = some true := by kernel_rfl
theorem kt_bool {K : PySem.W.Frag} : PySem.W.kitOne K (.type "tuple") (.type "bool") = some false := by kernel_rfl
theorem kt_int {K : PySem.W.Frag} : PySem.W.kitOne K (.type "tuple") (.type "int") = some false := by kernel_rfl
theorem kt_str {K : PySem.W.Frag} : PySem.W.kitOne K (.type "tuple") (.type "str") = some false := by kernel_rfl
theorem kt_dict {K : PySem.W.Frag} : PySem.W.kitOne K (.type "tuple") (.type "dict") = some false := by kernel_rfl
theorem kt_tuple {K : PySem.W.Frag} : PySem.W.kitOne K (.type "tuple") (.type "tuple") = some true := by kernel_rfl
theorem kt_list {K : PySem.W.Frag} : PySem.W.kitOne K (.type "tuple") (.type "list") = some false := by kernel_rfl
theorem kl_bool {K : PySem.W.Frag} : PySem.W.kitOne K (.type "list") (.type "bool") = some false := by kernel_rfl
theorem kl_int {K : PySem.W.Frag} : PySem.W.kitOne K (.type "list") (.type "int") = some false := by kernel_rfl
theorem kl_str {K : PySem.W.Frag} : PySem.W.kitOne K (.type "list") (.type "str") = some false := by kernel_rfl
theorem kl_dict {K : PySem.W.Frag} : PySem.W.kitOne K (.type "list") (.type "dict") = some false := by kernel_rfl
theorem kl_tuple {K : PySem.W.Frag} : PySem.W.kitOne K (.type "list") (.type "tuple") = some false := by kernel_rfl
theorem kl_list {K : PySem.W.Frag} : PySem.W.kitOne K (.type "list") (.type "list") = some true := by kernel_rfl
theorem kt_any {K : PySem.W.Frag} : PySem.W.kitAny K (.type "tuple") [.type "list", .type "tuple"] = some true := by kernel_rfl
theorem kl_any {K : PySem.W.Frag} : PySem.W.kitAny K (.type "list") [.type "list", .type "tuple"] = some true := by kernel_rfl
mutual
def vX2 (n : Nat) : PyData → Prop
 | .tuple ds => ds.length ≤ n ∧ yU3 n ds
 | .list ds => ds.length ≤ n ∧ yU3 n ds
 | _ => True
def yU3 (n : Nat) : List PyData → Prop
 | [] => True
 | d :: ds => vX2 n d ∧ yU3 n ds
end
theorem vV0 {n : Nat} : ∀ {ds : List PyData} {i : Nat} {d : PyData}, yU3 n ds → ds[i]? = some d → vX2 n d
 | [], i, d, _, e => by simp at e
 | x :: ds, 0, d, h, e => by
  have : x = d := by simpa using e
  subst this; simp only [yU3] at h; exact h.1
 | x :: ds, i + 1, d, h, e => by
  simp only [yU3] at h
  exact vV0 (i := i) h.2 (by simpa using e)
theorem depth_get : ∀ {ds : List PyData} {i : Nat} {d : PyData}, ds[i]? = some d → d.depth ≤ PyData.depthAll ds
 | [], i, d, e => by simp at e
 | x :: ds, 0, d, e => by
  have : x = d := by simpa using e
  subst this; simp only [PyData.depthAll]; exact Nat.le_max_left _ _
 | x :: ds, i + 1, d, e => by
  simp only [PyData.depthAll]
  exact Nat.le_trans (depth_get (i := i) (by simpa using e)) (Nat.le_max_right _ _)
def spSo (K : PySem.W.Frag) (n : Nat) : Sp := fun vs H Q _ => ∃ (x y : V) (d : PyData), vs = [x, y] ∧ RepD K H d x ∧ RepD K H d y ∧ d.depth < n ∧ vX2 1000 d ∧ ∀ H', Same H H' → Q (.bl true) H'
section
variable {P : Program} {w : World} {K : PySem.W.Frag} {mg : Str → Option Value} {base : Heap}
theorem oSo : ownB ["_law_found", "_law_meant", "_law_k"] (defScope sSo) = true := by decide +kernel
theorem scSo : FnScope ["_law_found", "_law_meant", "_law_k"] ["_law_found", "_law_meant"] (defScope sSo) := ⟨rfl, rfl, rfl, by decide +kernel, rfl, by decide +kernel, by decide +kernel⟩
theorem so_zero {f : Addr} {fd : FuncData} (F : Fun K "_law_so" "_law_so" sSo f fd) : FnOk P w K mg base CX0 0 f fd ["_law_found", "_law_meant"] (spSo K 0) :=
 ⟨fun vs H Q E ⟨_, _, _, _, _, _, h, _⟩ => absurd h (Nat.not_lt_zero _), fun _ _ _ _ _ _ _ _ _ _ _ _ _ ⟨_, _, _, _, _, _, h, _⟩ => absurd h (Nat.not_lt_zero _)⟩
theorem ok_so1 {f : Addr} {fd : FuncData} {n : Nat} (F : Fun K "_law_so" "_law_so" sSo f fd) (S : Sxt mg f) (bSo : Binds K fd ["_law_found", "_law_meant"] []) (GSo : FnOk P w K mg base CX0 n f fd ["_law_found", "_law_meant"] (spSo K n)) :
  FnOk P w K mg base CX0 (n + 1) f fd ["_law_found", "_law_meant"] (spSo K (n + 1)) := by
 refine okB (body := [stm sSo 0, stm sSo 1, stm sSo 2, stm sSo 3, stm sSo 4, stm sSo 5, stm sSo 6, stm sSo 7, stm sSo 8, stm sSo 9]) F scSo (fun vs H Q E h => ?_) (by kernel_rfl) (fun cdv A outer s H vs Q E hr h => ?_)
 ·obtain ⟨x, y, d, rfl, _⟩ := h
  rfl
 ·obtain ⟨x, y, d, rfl, rx, ry, hd, hw, k⟩ := h
  refine ⟨_, (xU8 (xW4 (xV7 op_isN (oV oSo 1) yZ1 (xV5 _)) (xU6 (xU1 (yW4 op_isN (oV oSo 0) yZ1 (xV5 _)))) xV8)
   (xU8 (xW4 (xW8 (cB xZ9 S.isinstance xV3 (aC (oV oSo 1) (aC (nT S.bool boot_bl) xU7)))) (xU6 (xU1 (vV5 (cB xZ9 S.isinstance xV3 (aC (oV oSo 0) (aC (nT S.bool boot_bl) xU7))) (vX6 (yW4 yX0 (oV oSo 0) (oV oSo 1) (xV5 _)))))) xV8)
   (xU8 (xW4 (xW8 (cB xZ9 S.isinstance xV3 (aC (oV oSo 1) (aC (nT S.int boot_it) xU7)))) (xU6 (xU1 (vV5 (cB xZ9 S.isinstance xV3 (aC (oV oSo 0) (aC (nT S.int boot_it) xU7))) (vV5 (pe_not (cB xZ9 S.isinstance xV3 (aC (oV oSo 0) (aC (nT S.bool boot_bl) xU7)))) (vX6 (yW4 yX0 (oV oSo 0) (oV oSo 1) (xV5 _))))))) xV8)
   (xU8 (xW4 (xW8 (cB xZ9 S.isinstance xV3 (aC (oV oSo 1) (aC (nT S.str boot_str) xU7)))) (xU6 (xU1 (vV5 (cB xZ9 S.isinstance xV3 (aC (oV oSo 0) (aC (nT S.str boot_str) xU7))) (vX6 (yW4 yX0 (oV oSo 0) (oV oSo 1) (xV5 _)))))) xV8)
   (xU8 (xW4 (xW8 (cB xZ9 S.isinstance xV3 (aC (oV oSo 1) (aC (nT S.dict boot_dct) xU7)))) (xU6 ps_never) xV8)
   (xU8 (xW4 (xV7 yX1 (cB xZ9 S.isinstance xV3 (aC (oV oSo 1) (aC (nT S.tuple yU4) xU7))) (cB xZ9 S.isinstance xV3 (aC (oV oSo 0) (aC (nT S.tuple yU4) xU7))) (xV5 _)) (xU6 (xU1 xY1)) xV8)
   (xU8 (xW4 (PW.pt (xQ1 (xV7 yX1 (cB xZ9 S.isinstance xV3 (aC (oV oSo 1) (aC (nT S.list xY5) xU7))) (cB xZ9 S.isinstance xV3 (aC (oV oSo 0) (aC (nT S.list xY5) xU7))) (xV5 _)) (xZ1 (xW0 (xW8 (cB call_isiD2 S.isinstance xV3 (aC (oV oSo 1) (aC (xZ6 (aC (nT S.list xY5) (aC (nT S.tuple yU4) xU7))) xU7))))))))
    (xU6 (xU1 xY1)) xV8)
   (xU8 (xW4 (xV7 yX1 (cB (xV9 (X := _)) S.len PySem.boot_len (aC (oV oSo 0) xU7)) (cB (xV9 (X := _)) S.len PySem.boot_len (aC (oV oSo 1) xU7)) (xV5 _)) (xU6 (xU1 xY1)) xV8)
   (xU8 (xQ0 PassesOwn.never rfl (rng1 S.range (aC (cB (xV9 (X := _)) S.len PySem.boot_len (aC (oV oSo 1) xU7)) xU7)) (oT oSo 2)
    (xU6 (xW4 (xW0 (xW8 (cF GSo hr S.so F.kp bSo .nil xV1 (aC (iX (ixD K) (oV oSo 0) (oV oSo 2)) (aC (iX (ixD K) (oV oSo 1) (oV oSo 2)) xU7))))) (xU6 (xU1 xY1)) xV8)))
   (xU6 (xU1 xY1))))))))))), ?_⟩
  have hnn : ∀ {v : V}, v ≠ .non → ∀ {A B : Prop}, B → (if decide (v = V.non) = true then A else B) := fun hv _ _ h => by rw [if_neg (by simpa using hv)]; exact h
  have fin : ∀ {v : V}, Q (.bl (decide (v = v))) H := fun {v} => by rw [decide_eq_true rfl]; exact k H (Same.refl H)
  cases d with
  | dict _ => simp only [RepD] at rx
  | none =>
   simp only [RepD] at rx ry
   subst rx ry
   refine ⟨_, rfl, rfl, _, rfl, ?_⟩
   refine ite2 (fun _ => ?_) (fun h => absurd (decide_eq_true rfl) h)
   exact ⟨_, rfl, rfl, fin⟩
  | bool b =>
   have rx' := rx
   have ry' := ry
   simp only [RepD] at rx ry
   subst rx ry
   refine ⟨_, rfl, rfl, _, rfl, hnn (by intro z; cases z) ?_⟩
   refine ⟨_, rfl, _, _, _, _, rfl, ry', kit_bool, _, rfl, iteT ?_⟩
   refine ⟨_, rfl, _, _, _, _, rfl, rx', kit_bool, _, rfl, ?_⟩
   exact ⟨_, rfl, _, rfl, rfl, fin⟩
  | int i =>
   have rx' := rx
   have ry' := ry
   simp only [RepD] at rx ry
   subst rx ry
   refine ⟨_, rfl, rfl, _, rfl, hnn (by intro z; cases z) ?_⟩
   refine ⟨_, rfl, _, _, _, _, rfl, ry', yQ9, _, rfl, iteF ?_⟩
   refine ⟨_, rfl, _, _, _, _, rfl, ry', kit_int, _, rfl, iteT ?_⟩
   refine ⟨_, rfl, _, _, _, _, rfl, rx', kit_int, _, rfl, ?_⟩
   refine ⟨_, rfl, _, _, _, _, rfl, rx', yQ9, _, rfl, _, rfl, ?_⟩
   exact ⟨_, rfl, _, rfl, rfl, fin⟩
  | str z =>
   have rx' := rx
   have ry' := ry
   simp only [RepD] at rx ry
   subst rx ry
   refine ⟨_, rfl, rfl, _, rfl, hnn (by intro z; cases z) ?_⟩
   refine ⟨_, rfl, _, _, _, _, rfl, ry', ks_bool, _, rfl, iteF ?_⟩
   refine ⟨_, rfl, _, _, _, _, rfl, ry', ks_int, _, rfl, iteF ?_⟩
   refine ⟨_, rfl, _, _, _, _, rfl, ry', ks_str, _, rfl, iteT ?_⟩
   refine ⟨_, rfl, _, _, _, _, rfl, rx', ks_str, _, rfl, ?_⟩
   exact ⟨_, rfl, _, rfl, rfl, fin⟩
  | tuple ds =>
   have rx' := rx
   have ry' := ry
   obtain ⟨a, xs, rfl, ha, hxs⟩ : ∃ a xs, x = .ref a ∧ SqT K H a xs ∧ xU3 K H ds xs := by simpa only [RepD] using rx
   obtain ⟨b, ys, rfl, hb, hys⟩ : ∃ a xs, y = .ref a ∧ SqT K H a xs ∧ xU3 K H ds xs := by simpa only [RepD] using ry
   simp only [vX2] at hw
   simp only [PyData.depth] at hd
   have hlx : xs.length = ds.length := xW5 hxs
   have hly : ys.length = ds.length := xW5 hys
   refine ⟨_, rfl, rfl, _, rfl, hnn (by intro z; cases z) ?_⟩
   refine ⟨_, rfl, _, _, _, _, rfl, ry', kt_bool, _, rfl, iteF ?_⟩
   refine ⟨_, rfl, _, _, _, _, rfl, ry', kt_int, _, rfl, iteF ?_⟩
   refine ⟨_, rfl, _, _, _, _, rfl, ry', kt_str, _, rfl, iteF ?_⟩
   refine ⟨_, rfl, _, _, _, _, rfl, ry', kt_dict, _, rfl, iteF ?_⟩
   refine ⟨_, rfl, _, _, _, _, rfl, ry', kt_tuple, _, rfl, _, _, _, _, rfl, rx', kt_tuple, rfl, _, rfl, iteNS rfl ?_⟩
   refine ⟨_, rfl, _, _, _, _, rfl, ry', kt_list, _, rfl, _, _, _, _, rfl, rx', kt_list, rfl, _, rfl, iteNS rfl ?_⟩
   refine ⟨_, rfl, (by show 2 ≤ sizeLine; decide), fun tp ntp => ?_⟩
   have s1 := xU4 (o := .tup [.ty "list", .ty "tuple"]) ntp
   refine ⟨_, tp, _, _, _, _, rfl, SqT.of xU9, RepD.same s1 _ _ ry', .inr rfl, kt_any, _, rfl, iteF ?_⟩
   refine ⟨_, rfl, a, xs, rfl, .inr (s1.sqT ha), _, rfl, b, ys, rfl, .inr (s1.sqT hb), rfl, _, rfl, iteNS (by rw [hlx, hly]) ?_⟩
   refine ⟨_, rfl, b, ys, rfl, .inr (s1.sqT hb), _, rfl, by omega, by omega, yY8 (n := ((ys.length : Nat) : Int).toNat) (fun i σ H2 => ∃ v, σ = [some (.ref a), some (.ref b), v] ∧ Same H H2) ⟨none, rfl, s1⟩ ?_ ?_⟩
   ·rintro i σ H2 hi ⟨v, rfl, e2⟩
    have hi' : i < ds.length := by omega
    obtain ⟨x', hx1, hx2⟩ := xY6 hxs (i := i) (d := ds[i]) (List.getElem?_eq_getElem hi')
    obtain ⟨y', hy1, hy2⟩ := xY6 hys (i := i) (d := ds[i]) (List.getElem?_eq_getElem hi')
    have hdi := depth_get (List.getElem?_eq_getElem hi')
    refine ⟨_, rfl, _, rfl, .inr ⟨a, xs, _, x', rfl, rfl, e2.sqT ha, by rw [Int.zero_add]; exact xW7 hx1, _, rfl, _, rfl, .inr ⟨b, ys, _, y', rfl, rfl, e2.sqT hb, by rw [Int.zero_add]; exact xW7 hy1, x', y', ds[i], rfl, RepD.same e2 _ _ hx2, RepD.same e2 _ _ hy2, by omega, vV0 hw.2 (List.getElem?_eq_getElem hi'), fun H3 e3 => ⟨_, rfl, iteF ?_⟩⟩⟩⟩
    exact ⟨_, rfl, e2.trans e3⟩
   ·rintro σ H2 ⟨v, rfl, e2⟩
    exact k H2 e2
  | list ds =>
   have rx' := rx
   have ry' := ry
   obtain ⟨a, xs, rfl, ha, hxs⟩ : ∃ a xs, x = .ref a ∧ SqL K H a xs ∧ xU3 K H ds xs := by simpa only [RepD] using rx
   obtain ⟨b, ys, rfl, hb, hys⟩ : ∃ a xs, y = .ref a ∧ SqL K H a xs ∧ xU3 K H ds xs := by simpa only [RepD] using ry
   simp only [vX2] at hw
   simp only [PyData.depth] at hd
   have hlx : xs.length = ds.length := xW5 hxs
   have hly : ys.length = ds.length := xW5 hys
   refine ⟨_, rfl, rfl, _, rfl, hnn (by intro z; cases z) ?_⟩
   refine ⟨_, rfl, _, _, _, _, rfl, ry', kl_bool, _, rfl, iteF ?_⟩
   refine ⟨_, rfl, _, _, _, _, rfl, ry', kl_int, _, rfl, iteF ?_⟩
   refine ⟨_, rfl, _, _, _, _, rfl, ry', kl_str, _, rfl, iteF ?_⟩
   refine ⟨_, rfl, _, _, _, _, rfl, ry', kl_dict, _, rfl, iteF ?_⟩
   refine ⟨_, rfl, _, _, _, _, rfl, ry', kl_tuple, _, rfl, _, _, _, _, rfl, rx', kl_tuple, rfl, _, rfl, iteNS rfl ?_⟩
   refine ⟨_, rfl, _, _, _, _, rfl, ry', kl_list, _, rfl, _, _, _, _, rfl, rx', kl_list, rfl, _, rfl, iteNS rfl ?_⟩
   refine ⟨_, rfl, (by show 2 ≤ sizeLine; decide), fun tp ntp => ?_⟩
   have s1 := xU4 (o := .tup [.ty "list", .ty "tuple"]) ntp
   refine ⟨_, tp, _, _, _, _, rfl, SqT.of xU9, RepD.same s1 _ _ ry', .inl rfl, kl_any, _, rfl, iteF ?_⟩
   refine ⟨_, rfl, a, xs, rfl, .inl (s1.seq ha), _, rfl, b, ys, rfl, .inl (s1.seq hb), rfl, _, rfl, iteNS (by rw [hlx, hly]) ?_⟩
   refine ⟨_, rfl, b, ys, rfl, .inl (s1.seq hb), _, rfl, by omega, by omega, yY8 (n := ((ys.length : Nat) : Int).toNat) (fun i σ H2 => ∃ v, σ = [some (.ref a), some (.ref b), v] ∧ Same H H2) ⟨none, rfl, s1⟩ ?_ ?_⟩
   ·rintro i σ H2 hi ⟨v, rfl, e2⟩
    have hi' : i < ds.length := by omega
    obtain ⟨x', hx1, hx2⟩ := xY6 hxs (i := i) (d := ds[i]) (List.getElem?_eq_getElem hi')
    obtain ⟨y', hy1, hy2⟩ := xY6 hys (i := i) (d := ds[i]) (List.getElem?_eq_getElem hi')
    have hdi := depth_get (List.getElem?_eq_getElem hi')
    refine ⟨_, rfl, _, rfl, .inl ⟨a, xs, _, x', rfl, rfl, e2.seq ha, by rw [Int.zero_add]; exact xW7 hx1, _, rfl, _, rfl, .inl ⟨b, ys, _, y', rfl, rfl, e2.seq hb, by rw [Int.zero_add]; exact xW7 hy1, x', y', ds[i], rfl, RepD.same e2 _ _ hx2, RepD.same e2 _ _ hy2, by omega, vV0 hw.2 (List.getElem?_eq_getElem hi'), fun H3 e3 => ⟨_, rfl, iteF ?_⟩⟩⟩⟩
    exact ⟨_, rfl, e2.trans e3⟩
   ·rintro σ H2 ⟨v, rfl, e2⟩
    exact k H2 e2
theorem ok_so {f : Addr} {fd : FuncData} (F : Fun K "_law_so" "_law_so" sSo f fd) (S : Sxt mg f) (bSo : Binds K fd ["_law_found", "_law_meant"] []) : ∀ n : Nat, FnOk P w K mg base CX0 (n + 1) f fd ["_law_found", "_law_meant"] (spSo K (n + 1))
 | 0 => ok_so1 F S bSo (so_zero F)
 | n + 1 => ok_so1 F S bSo (ok_so F S bSo n)
end
end Of
end
section
seal L2.PE L2.PT L2.PW L2.PA L2.PS L2.PSs L2.PG L2.PGs L2.PI L3.PTs L2.PO L2.CallR L2.OpR L2.IxR L2.MtR L2.PSet L2.SlR
namespace Of
open PySem L2 L3 L4 L6 L7
theorem vU0 {b : Bool} {A B : Prop} (h : b = true) (a : A) : if b = true then A else B := by rw [if_pos h]; exact a
theorem yY9 {b : Bool} {A B : Prop} (h : b = false) (a : B) : if b = true then A else B := by rw [if_neg (by rw [h]; exact Bool.false_ne_true)]; exact a
theorem kept_iff {K : PySem.W.Frag} {H : Hp} {x : Let × Int × List Int} {v : V} : RepD K H (kpD x) v → ∃ a y cl, v = .ref a ∧ SqT K H a [y, .int x.2.1, .ref cl] ∧ RepD K H (xW6 x.1) y ∧ SqT K H cl (nums x.2.2) := by
 intro h
 unfold kpD vU1 at h
 rw [RepD] at h
 obtain ⟨a, xs, rfl, h1, h2⟩ := h
 simp only [xU3] at h2
 obtain ⟨x1, r1, rfl, q1, x2, r2, rfl, q2, x3, r3, rfl, q3, rfl⟩ := h2
 simp only [RepD] at q2 q3
 obtain ⟨b, ys, rfl, h2, h3⟩ := q3
 rw [yV5.mp h3] at h2
 subst q2
 exact ⟨a, x1, b, rfl, h1, q1, h2⟩
def StsV (K : PySem.W.Frag) (H : Hp) (x : Int × List Int) (v : V) : Prop := ∃ p cl, v = .ref p ∧ H p = some (.tup [.int x.1, .ref cl]) ∧ SqT K H cl (nums x.2)
theorem StsV.imm {K : PySem.W.Frag} {H H' : Hp} (im : Imm H H') {x : Int × List Int} {v : V} : StsV K H x v → StsV K H' x v
 | ⟨b, cl, e, h1, h2⟩ => ⟨b, cl, e, im.tup _ _ h1, im.sqT h2⟩
theorem StsVs.imm {K : PySem.W.Frag} {H H' : Hp} (im : Imm H H') {ss : List (Int × List Int)} {us : List V} (h : All2 (StsV K H) ss us) : All2 (StsV K H') ss us := h.mono fun _ _ => StsV.imm im
def spThereAt (K : PySem.W.Frag) : Sp := fun vs H Q _ => ∃ (a c : Addr) (l : Let) (ss : List (Int × List Int)) (us : List V) (u : Nat) (x : Int × List Int), vs = [.ref a, .ref c, .int u] ∧ yZ5 K H a l ∧ l.s < l.st.length ∧ SqL K H c us ∧ All2 (StsV K H) ss us ∧ ss[u]? = some x ∧ l.s < x.2.length ∧ ∀ H', Same H H' → Q (.bl (decide (xV4 l ≤ x.2.getD l.s 0))) H'
def spIsSent (K : PySem.W.Frag) : Sp := fun vs H Q _ => ∃ (a c : Addr) (l : Let) (ss : List (Int × List Int)) (us : List V) (x : Int × List Int), vs = [.ref a, .ref c] ∧ yZ5 K H a l ∧ l.s < l.st.length ∧ SqL K H c us ∧ All2 (StsV K H) ss us ∧ ss[l.s]? = some x ∧ l.s < x.2.length ∧ ∀ H', Same H H' → Q (.bl (decide (xV4 l ≤ x.2.getD l.s 0))) H'
def KpV (K : PySem.W.Frag) (H : Hp) (o : Off) (v : V) : Prop := ∃ lk ks, v = .ref lk ∧ H lk = some (.lst ks) ∧ xU3 K H o.kept ks
theorem KpV.same {K : PySem.W.Frag} {H H' : Hp} (e : Same H H') {o : Off} {v : V} : KpV K H o v → KpV K H' o v
 | ⟨lk, ks, e1, h1, h2⟩ => ⟨lk, ks, e1, e _ _ h1, xU3.same e _ _ h2⟩
def spKeptOf (K : PySem.W.Frag) : Sp := fun vs H Q _ => ∃ (n : Nat) (coins : Int) (b : Addr) (ds : List Deed) (xs : List V), vs = [.int n, .int coins, .ref b] ∧ SqL K H b xs ∧ xU3 K H (ds.map yX6) xs ∧ (∀ d ∈ ds, xQ7 n d) ∧ ds.length ≤ 200 ∧ 2 ≤ n ∧ n < 1000 ∧
 ∀ (l : Addr) (ys : List V) (H' : Hp), H' l = some (.lst ys) → All2 (KpV K H') (runC (start n coins) ds).offs ys → Same H H' → Q (.ref l) H'
structure Exk (K : PySem.W.Frag) (mg : Str → Option Value) (CN CE CP CL : Addr) : Prop where
 nocut : mg "NoCut" = some (.ref CN)
 post : mg "PostError" = some (.ref CE)
 poor : mg "Poor" = some (.ref CP)
 nolet : mg "NoLetter" = some (.ref CL)
 oN : ExcOf K CN
 nn : yQ0 K CN CN = true
 ne : yQ0 K CN CE = true
 ex : ExcAt K CN
 nP : PySem.W.kitOne K (.ref CN) (.ref CP) = some false
 nL : PySem.W.kitOne K (.ref CN) (.ref CL) = some false
def KpO (m : Let) : Option (Int × List Int) → List (Let × Int × List Int) → Prop
 | some x, es => KAt m x es
 | none, es => ∀ y ∈ es, ¬ (y.1.s = m.s ∧ xV4 y.1 = xV4 m)
theorem kat_ix {m : Let} {x : Int × List Int} {es : List (Let × Int × List Int)} {i : Nat} (h : KAt m x es) (hi : i < es.length) (hq : es[i].1.s = m.s ∧ xV4 es[i].1 = xV4 m) (hp : ∀ (j : Nat) e, j < i → es[j]? = some e → ¬ (e.1.s = m.s ∧ xV4 e.1 = xV4 m)) : es[i] = (m, x) := by
 obtain ⟨a, b, e, ha⟩ := h
 have hm : es[a.length]? = some (m, x) := by rw [e]; simp
 rcases Nat.lt_trichotomy i a.length with z | z | z
 ·exfalso
  have : es[i]? = a[i]? := by rw [e, List.getElem?_append_left z]
  rw [List.getElem?_eq_getElem hi] at this
  exact ha _ (List.mem_of_getElem? this.symm) hq
 ·subst z
  rw [List.getElem?_eq_getElem hi] at hm
  exact Option.some.inj hm
 ·exact absurd ⟨rfl, rfl⟩ (hp _ _ z hm)
def KpAtO (K : PySem.W.Frag) (H : Hp) (m : Let) (x : Option (Int × List Int)) (v : V) : Prop := ∃ lk ks es, v = .ref lk ∧ H lk = some (.lst ks) ∧ xU3 K H (es.map kpD) ks ∧ KpO m x es
theorem KpAtO.same {K : PySem.W.Frag} {H H' : Hp} (e : Same H H') {m : Let} {x : Option (Int × List Int)} {v : V} : KpAtO K H m x v → KpAtO K H' m x v
 | ⟨lk, ks, es, e1, h1, h2, h3⟩ => ⟨lk, ks, es, e1, e _ _ h1, xU3.same e _ _ h2, h3⟩
def spStateX (K : PySem.W.Frag) (CN : Addr) : Sp := fun vs H Q E => ∃ (v : V) (b : Addr) (m : Let) (x : Option (Int × List Int)), vs = [v, .ref b] ∧ KpAtO K H m x v ∧ H b = some (.tup [.int m.s, .int (xV4 m)]) ∧ (∀ z, x = some z → ∀ y H', Same H H' → StsV K H' z y → Q y H') ∧ (x = none → ∀ H', Same H H' → E (.ref CN) none H')
def spStatesX (K : PySem.W.Frag) (CN : Addr) : Sp := fun vs H Q E => ∃ (la b : Addr) (ys : List V) (m : Let) (os : List (Option (Int × List Int))), vs = [.ref la, .ref b] ∧ SqL K H la ys ∧ All2 (KpAtO K H m) os ys ∧ os.length ≤ 1000 ∧ H b = some (.tup [.int m.s, .int (xV4 m)]) ∧ (∀ ss : List (Int × List Int), os = ss.map some → ∀ D us H', Same H H' → H' D = some (.lst us) → All2 (StsV K H') ss us → Q (.ref D) H') ∧ (none ∈ os → ∀ H', Same H H' → E (.ref CN) none H')
section
variable {P : Program} {w : World} {K : PySem.W.Frag} {mg : Str → Option Value} {base : Heap} {C CC fN fT fC fR fF fO fSi fTa fSe fOw CN CE CP CL : Addr}
theorem oSi : ownB ["kept", "name", "one"] (defScope sStateIn) = true := by decide +kernel
theorem scSi : FnScope ["kept", "name", "one"] ["kept", "name"] (defScope sStateIn) := ⟨rfl, rfl, rfl, by decide +kernel, rfl, by decide +kernel, by decide +kernel⟩
theorem ok_state_in {f : Addr} {fd : FuncData} (F : Fun K "state_in" "state_in" sStateIn f fd) (Z : Exk K mg CN CE CP CL) : FnOk P w K mg base (CX1 P w) 1 f fd ["kept", "name"] (spStateX K CN) := by
 refine okB1 (body := [stm sStateIn 0, stm sStateIn 1]) F scSi (fun vs H Q E h => ?_) (by kernel_rfl) (fun cdv A0 outer s0 H vs Q E hr h => ?_)
 ·obtain ⟨v, b, m, x, rfl, _⟩ := h
  rfl
 ·obtain ⟨v, b, m, x, rfl, ⟨lk, ks, es, rfl, h1, h2, h3⟩, h5, kQ, kE⟩ := h
  refine ⟨_, (xU8 (PS.nox (xQ0 PassesOwn.never rfl (xY2 (oV oSi 0)) (oT oSi 2)
    (xU6 (xW4 (xV7 (op_eqD (n := 10) (vV6 hr)) (iX (ixT K) (oV oSi 2) xU5) (oV oSi 1) (xV5 _))
     (xU6 (xU1 (xZ6 (aC (iX (ixT K) (oV oSi 2) xU5) (aC (iX (ixT K) (oV oSi 2) xU5) xU7)))))
     xV8))))
   (xU6 (ps_raise throws_cx Z.oN rfl Z.nocut (aC xY8 xU7)))), ?_⟩
  have hl := xW5 h2
  rw [List.length_map] at hl
  refine ⟨_, rfl, lk, rfl, ⟨_, SqL.of h1⟩, yU7 (K := K) (a := lk) (xs := ks) (fun i σ Hc => ∃ (w9 : Option V), σ = [some (.ref lk), some (.ref b), w9] ∧ Hc = H ∧ ∀ (j : Nat) e, j < i → es[j]? = some e → ¬ (e.1.s = m.s ∧ xV4 e.1 = xV4 m)) ⟨none, rfl, rfl, fun j e hj => absurd hj (Nat.not_lt_zero _)⟩ (fun i σ Hc _ h => by obtain ⟨_, _, e, _⟩ := h; rw [e]; exact SqL.of h1) ?_ ?_⟩
  ·rintro i y σ Hc hi ⟨w9, rfl, rfl, hp⟩
   have hi' : i < es.length := by have := (List.getElem?_eq_some_iff.mp hi).1; omega
   obtain ⟨y', gy, ry⟩ := xY6 h2 (i := i) (d := kpD es[i]) (by rw [List.getElem?_map, List.getElem?_eq_getElem hi']; rfl)
   rw [hi] at gy
   cases gy
   obtain ⟨p, z, cl, rfl, q1, q2, q3⟩ := kept_iff ry
   refine ⟨_, rfl, p, _, 0, _, rfl, rfl, q1, rfl, _, rfl, xW6 es[i].1, xW6 m, q2, NmV.rep ⟨b, rfl, h5⟩, rfl, rfl, Nat.le_trans (Nat.min_le_right _ _) (yW6 m), _, rfl, ?_⟩
   by_cases hq : es[i].1.s = m.s ∧ xV4 es[i].1 = xV4 m
   ·cases x with
    | none => exact absurd hq (h3 _ (List.getElem_mem hi'))
    | some x =>
     have ei := kat_ix h3 hi' hq hp
     clear hq hp
     rw [ei] at q1 q3 ⊢
     refine vU0 (by unfold xW6; rw [eqv_nm]; simp) ?_
     refine ⟨_, rfl, p, _, 1, _, rfl, rfl, q1, rfl, _, rfl, p, _, 2, _, rfl, rfl, q1, rfl, len2, fun t nt => ?_⟩
     have s1 := xU4 (o := .tup [.int x.1, .ref cl]) nt
     exact kQ _ rfl _ _ s1 ⟨t, cl, rfl, xU9, s1.sqT q3⟩
   ·refine yY9 ?_ ⟨_, rfl, rfl, fun j e hj he => ?_⟩
    ·unfold xW6
     rw [eqv_nm, Bool.and_eq_false_iff]
     by_cases hs : es[i].1.s = m.s
     ·exact .inr (decide_eq_false fun z2 => hq ⟨hs, z2⟩)
     ·exact .inl (decide_eq_false hs)
    ·rcases Nat.lt_or_ge j i with z | z
     ·exact hp j e z he
     ·have : j = i := by omega
      subst this
      rw [List.getElem?_eq_getElem hi'] at he
      cases he
      exact hq
  ·rintro σ Hc ⟨w9, rfl, rfl, hp⟩
   rw [hl] at hp
   refine ⟨len1, kE ?_ _ (Same.refl _)⟩
   cases x with
   | none => rfl
   | some x =>
    obtain ⟨a, b', e, _⟩ := h3
    exact absurd ⟨rfl, rfl⟩ (hp a.length (m, x) (by rw [e]; simp) (by rw [e]; simp))
theorem oSt : ownB ["all_kept", "name"] (defScope sStates) = true := by decide +kernel
theorem scSt : FnScope ["all_kept", "name"] ["all_kept", "name"] (defScope sStates) := ⟨rfl, rfl, rfl, by decide +kernel, rfl, by decide +kernel, by decide +kernel⟩
theorem ok_states {f : Addr} {fd fdS : FuncData} (F : Fun K "states" "states" sStates f fd) (Z : Exk K mg CN CE CP CL) (mSi : mg "state_in" = some (.ref fSi)) (FSi : Fun K "state_in" "state_in" sStateIn fSi fdS) (bSi : Binds K fdS ["kept", "name"] []) : FnOk P w K mg base (CX1 P w) 2 f fd ["all_kept", "name"] (spStatesX K CN) := by
 have GSi : FnOk P w K mg base (CX1 P w) 1 fSi fdS ["kept", "name"] (spStateX K CN) := ok_state_in FSi Z
 refine okB1 (body := [stm sStates 0]) F scSt (fun vs H Q E h => ?_) (by kernel_rfl) (fun cdv A0 outer s0 H vs Q E hr h => ?_)
 ·obtain ⟨la, b, ys, m, os, rfl, _⟩ := h
  rfl
 ·obtain ⟨la, b, ys, m, os, rfl, h1, h2, h3, h5, kQ, kE⟩ := h
  refine ⟨_, (xU6 (xU1 (L10.pe_compX [1] ["name"] L10.passC1 (xY2 (oV oSt 0)) (fun _ _ _ _ _ => (cF GSi hr mSi FSi.kp bSi .nil L10.passB (aC (sV 0) (aC (sV 1) xU7))))))), ?_⟩
  have hl := h2.len
  refine ⟨_, rfl, la, rfl, ⟨_, h1⟩, yV2 (xs := ys) (fun D j us H2 => ∃ ss : List (Int × List Int), os.take j = ss.map some ∧ Same H H2 ∧ H2 D = some (.lst us) ∧ All2 (StsV K H2) ss us)
   (fun D hD => ⟨[], rfl, xU4 hD, xU9, rfl⟩) (fun D j us H2 hD hj ⟨ss, h0, h⟩ => ⟨h.2.1, h.1.seq h1⟩) (fun D j x us H2 hD hj h => ?_) (fun D us H2 hD h => ?_)⟩
  ·obtain ⟨ss, f0, f1, f2, f3⟩ := h
   have hj' : j < os.length := by have := (List.getElem?_eq_some_iff.mp hj).1; omega
   obtain ⟨x', gx, rx⟩ := h2.get (List.getElem?_eq_getElem hj')
   rw [hj] at gx
   cases gx
   have ul := f3.len
   have sl : ss.length ≤ os.length := by
    have := congrArg List.length f0
    rw [List.length_take, List.length_map] at this
    omega
   refine ⟨_, rfl, _, rfl, x, b, m, os[j], rfl, rx.same f1, f1 _ _ h5, fun z hz y H3 e3 hy => ?_, fun hz H3 e3 => ?_⟩
   ·have hD3 := e3 _ _ f2
    refine ⟨hD3, xV0 (by omega), ss ++ [z], ?_, xW2 (f1.trans e3) hD, xU9, StsVs.imm (xX5 hD3) (All2.append (StsVs.imm e3.imm f3) (All2.one hy))⟩
    rw [xX7 (List.getElem?_eq_getElem hj'), f0, hz, List.map_append]
    rfl
   ·exact kE (hz ▸ List.getElem_mem hj') H3 (f1.trans e3)
  ·obtain ⟨ss, f0, f1, f2, f3⟩ := h
   rw [hl, List.take_length] at f0
   exact kQ ss f0 D us H2 f1 f2 f3
theorem oTa : ownB ["letter", "cut", "office"] (defScope sIsThereAt) = true := by decide +kernel
theorem scTa : FnScope ["letter", "cut", "office"] ["letter", "cut", "office"] (defScope sIsThereAt) := ⟨rfl, rfl, rfl, by decide +kernel, rfl, by decide +kernel, by decide +kernel⟩
theorem ok_there_at {f : Addr} {fd fdN fdT : FuncData} (F : Fun K "is_there_at" "is_there_at" sIsThereAt f fd) (mN : mg "name_of" = some (.ref fN)) (FN : Fun K "name_of" "name_of" sName fN fdN) (bN : Binds K fdN ["letter"] []) (mT : mg "is_there" = some (.ref fT)) (FT : Fun K "is_there" "is_there" sThere fT fdT) (bT : Binds K fdT ["name", "clock"] []) : FnOk P w K mg base CX0 2 f fd ["letter", "cut", "office"] (spThereAt K) := by
 have GN : FnOk P w K mg base CX0 1 fN fdN ["letter"] (yQ1 K) := vW7 FN
 have GT : FnOk P w K mg base CX0 1 fT fdT ["name", "clock"] (spThere K) := ok_there FT
 refine okB (body := [stm sIsThereAt 0]) F scTa (fun vs H Q E h => ?_) (by kernel_rfl) (fun cdv A0 outer s0 H vs Q E hr h => ?_)
 ·obtain ⟨a, c, l, ss, us, u, x, rfl, _⟩ := h
  rfl
 ·obtain ⟨a, c, l, ss, us, u, x, rfl, hl, hll, hc, hu, hx, hxl, fin⟩ := h
  have hr1 := hr
  refine ⟨_, (xU6 (xU1 (cF GT hr1 mT FT.kp bT .nil xV1 (aC (cF GN hr1 mN FN.kp bN .nil xV1 (aC (oV oTa 0) xU7)) (aC (iX (ixT K) (iX (ixL K) (oV oTa 1) (oV oTa 2)) xU5) xU7))))), ?_⟩
  obtain ⟨v, gv, p, cl, rfl, q1, q2⟩ := hu.get hx
  refine ⟨_, rfl, a, l, rfl, hl, hll, fun t nt => ?_⟩
  have s1 := xU4 (o := .tup [.int l.s, .int (xV4 l)]) nt
  exact ⟨_, rfl, _, rfl, c, _, _, .ref p, rfl, rfl, s1.seq hc, xW7 gv, p, _, 1, _, rfl, rfl, SqT.of (s1 _ _ q1), rfl, t, cl, l.s, xV4 l, x.2, rfl, SqT.of xU9, s1.sqT q2, hxl, fin _ s1⟩
theorem oSe : ownB ["letter", "cut"] (defScope sIsSent) = true := by decide +kernel
theorem scSe : FnScope ["letter", "cut"] ["letter", "cut"] (defScope sIsSent) := ⟨rfl, rfl, rfl, by decide +kernel, rfl, by decide +kernel, by decide +kernel⟩
theorem ok_is_sent {f : Addr} {fd fdN fdT fdTa : FuncData} (F : Fun K "is_sent" "is_sent" sIsSent f fd) (mN : mg "name_of" = some (.ref fN)) (FN : Fun K "name_of" "name_of" sName fN fdN) (bN : Binds K fdN ["letter"] []) (mT : mg "is_there" = some (.ref fT)) (FT : Fun K "is_there" "is_there" sThere fT fdT) (bT : Binds K fdT ["name", "clock"] []) (mTa : mg "is_there_at" = some (.ref fTa)) (FTa : Fun K "is_there_at" "is_there_at" sIsThereAt fTa fdTa) (bTa : Binds K fdTa ["letter", "cut", "office"] []) : FnOk P w K mg base CX0 3 f fd ["letter", "cut"] (spIsSent K) := by
 have GTa : FnOk P w K mg base CX0 2 fTa fdTa ["letter", "cut", "office"] (spThereAt K) := ok_there_at FTa mN FN bN mT FT bT
 refine okB (body := [stm sIsSent 0]) F scSe (fun vs H Q E h => ?_) (by kernel_rfl) (fun cdv A0 outer s0 H vs Q E hr h => ?_)
 ·obtain ⟨a, c, l, ss, us, x, rfl, _⟩ := h
  rfl
 ·obtain ⟨a, c, l, ss, us, x, rfl, hl, hll, hc, hu, hx, hxl, fin⟩ := h
  have hrT := hr
  refine ⟨_, (xU6 (xU1 (cF GTa hrT mTa FTa.kp bTa .nil xV1 (aC (oV oSe 0) (aC (oV oSe 1) (aC (iX (ixT K) (oV oSe 0) xU5) xU7)))))), ?_⟩
  obtain ⟨b, wc, L1, L2, L3⟩ := hl
  exact ⟨_, rfl, _, rfl, _, rfl, a, _, 0, _, rfl, rfl, L1, rfl, a, c, l, ss, us, l.s, x, rfl, ⟨b, wc, L1, L2, L3⟩, hll, hc, hu, hx, hxl, fin⟩
theorem oKo : ownB ["count", "coins", "deeds"] (defScope sKeptOf) = true := by decide +kernel
theorem scKo : FnScope ["count", "coins", "deeds"] ["count", "coins", "deeds"] (defScope sKeptOf) := ⟨rfl, rfl, rfl, by decide +kernel, rfl, by decide +kernel, by decide +kernel⟩
theorem ok_kept_of {f fO' : Addr} {fd fdO : FuncData} (F : Fun K "kept_of" "kept_of" sKeptOf f fd) (T : Txt K mg C fN fT fC fR fF fO) (CT : CTx K mg CC)
  (mO : mg "course_of" = some (.ref fO')) (FO : Fun K "course_of" "course_of" sCourse fO' fdO) (bO : Binds K fdO ["count", "coins", "deeds"] []) (GO : FnOk P w K mg base CX0 10 fO' fdO ["count", "coins", "deeds"] (spCourse K C CC)) : FnOk P w K mg base CX0 11 f fd ["count", "coins", "deeds"] (spKeptOf K) := by
 refine okB (body := [stm sKeptOf 0]) F scKo (fun vs H Q E h => ?_) (by kernel_rfl) (fun cdv A' outer s0 H vs Q E hr h => ?_)
 ·obtain ⟨n, coins, b, ds, xs, rfl, _⟩ := h
  rfl
 ·obtain ⟨n, coins, b, ds, xs, rfl, hb, hxs, ok, hl, n2, n3, fin⟩ := h
  refine ⟨_, (xU6 (xU1 (eC [] [] rfl (xY2 (xX9 (cF GO hr mO FO.kp bO .nil xV1 (aC (oV oKo 0) (aC (oV oKo 1) (aC (oV oKo 2) xU7)))) rfl)) (fun _ _ _ _ _ => yZ2) (fun _ _ _ _ _ => (L8.fldK K (sV 0) rfl))))), ?_⟩
  refine ⟨_, rfl, _, rfl, _, rfl, n, coins, b, ds, xs, rfl, hb, hxs, ok, hl, n2, n3, fun A H' xl xe xa X fr e => ?_⟩
  refine ⟨A.q, CC, A.dx, _, _, rfl, X.ob, CT.cl, CT.nO, vW1, ?_⟩
  have hno := (Mod.run (ds := ds) (start_mod (coins := coins) (Nat.le_of_lt n3)) ok (by omega)).wd.ln
  generalize runC (start n coins) ds = c at X fin hno
  have pl := X.pl
  have hno : c.offs.length = n := hno
  refine ⟨A.lo, rfl, ⟨_, SqL.of X.ho⟩, yV2 (xs := A.ps.map V.ref) (fun D j us H2 => Same H' H2 ∧ H2 D = some (.lst us) ∧ All2 (KpV K H') (c.offs.take j) us)
   (fun D hD => ⟨xU4 hD, xU9, rfl⟩) (fun D j us H2 hD hj h => ⟨h.2.1, SqL.of (h.1 _ _ X.ho)⟩) (fun D j x us H2 hD hj h => ?_) (fun D us H2 hD h => ?_)⟩
  ·obtain ⟨f1, f2, f3⟩ := h
   have hj' : j < A.ps.length := by have := (List.getElem?_eq_some_iff.mp hj).1; rwa [List.length_map] at this
   have hjo : j < c.offs.length := by omega
   rw [List.getElem?_map, List.getElem?_eq_getElem hj'] at hj
   cases hj
   have O := X.of j _ (List.getElem?_eq_getElem hj')
   have eo : c.off j = c.offs[j] := by
    unfold Crs.off
    rw [List.getD_eq_getElem?_getD, List.getElem?_eq_getElem hjo]; rfl
   rw [eo] at O
   have etk : c.offs.take (j + 1) = c.offs.take j ++ [c.offs[j]] := xX7 (List.getElem?_eq_getElem hjo)
   rw [etk]
   generalize c.offs[j] = o at O
   have ul := f3.len
   rw [List.length_take] at ul
   obtain ⟨dx, cl, lb, lt, lk, bs, ts, ks, Y⟩ := O.x
   refine ⟨_, rfl, A.ps[j], C, dx, _, _, rfl, f1 _ _ Y.ob, T.cl, T.nE, at_kept, ?_⟩
   exact ⟨f2, Nat.lt_of_le_of_lt (show us.length ≤ 1000000 by have := n3; omega) (by decide), xW2 f1 hD, xU9, All2.append f3 (All2.one ⟨lk, ks, rfl, Y.hk, Y.rk⟩)⟩
  ·obtain ⟨f1, f2, f3⟩ := h
   rw [List.length_map, pl, List.take_length] at f3
   exact fin D us H2 f2 (f3.mono fun _ _ => KpV.same f1) (e.trans f1)
end
end Of
end
section
seal L2.PE L2.PT L2.PW L2.PA L2.PS L2.PSs L2.PG L2.PGs L2.PI L3.PTs L2.PO L2.CallR L2.OpR L2.IxR L2.MtR L2.PSet L2.SlR
namespace Of
open PySem L2 L3 L4 L6 L7
def pix (m : Let) (u : Nat) (es : List Ev) : Nat := es.findIdx fun e => decide (e.u = u ∧ e.l = m)
theorem pix_at {m : Let} {u : Nat} {es : List Ev} (h : m ∈ knOf u es) : ∃ e, es[pix m u es]? = some e ∧ e.u = u ∧ e.l = m := by
 obtain ⟨i, e, hi, hu, hl⟩ := kn_pos h
 have hlt : pix m u es < es.length := List.findIdx_lt_length_of_exists ⟨e, List.mem_of_getElem? hi, by simp [hu, hl]⟩
 refine ⟨es[pix m u es], List.getElem?_eq_getElem hlt, ?_⟩
 have := List.findIdx_getElem (w := hlt)
 exact of_decide_eq_true this
theorem pix_not {m : Let} {u i : Nat} {es : List Ev} {e : Ev} (hi : i < pix m u es) (he : es[i]? = some e) : ¬ (e.u = u ∧ e.l = m) := by
 have := List.not_of_lt_findIdx hi
 obtain ⟨h, rfl⟩ := List.getElem?_eq_some_iff.mp he
 simpa using this
theorem pix_iff {m : Let} {u i : Nat} {es : List Ev} (h : m ∈ knOf u es) : i ≤ pix m u es ↔ m ∉ knOf u (es.take i) := by
 constructor
 ·intro hi hm
  obtain ⟨j, e, hj, hu, hl⟩ := kn_pos hm
  have lj := (List.getElem?_eq_some_iff.mp hj).1
  rw [List.length_take] at lj
  rw [List.getElem?_take, if_pos (by omega)] at hj
  exact pix_not (by omega) hj ⟨hu, hl⟩
 ·intro hm
  rcases Nat.lt_or_ge (pix m u es) i with z | z
  ·exfalso
   apply hm
   obtain ⟨e, he, hu, hl⟩ := pix_at h
   unfold knOf
   refine List.mem_map.mpr ⟨e, List.mem_filter.mpr ⟨?_, by simp [hu]⟩, hl⟩
   refine List.mem_of_getElem? (i := pix m u es) ?_
   rw [List.getElem?_take, if_pos z]; exact he
  ·exact z
theorem pix_lt {m : Let} {u : Nat} {es : List Ev} (h : m ∈ knOf u es) : pix m u es < es.length := by
 obtain ⟨e, he, _⟩ := pix_at h
 exact (List.getElem?_eq_some_iff.mp he).1
def Uni (m : Let) (es : List Ev) : Prop := ∀ e ∈ es, e.l.s = m.s → xV4 e.l = xV4 m → e.l = m
theorem uni_eq {m : Let} {es : List Ev} {e : Ev} (U : Uni m es) (he : e ∈ es) : PyData.eqv (xW6 e.l) (xW6 m) = decide (e.l = m) := by
 unfold xW6
 rw [eqv_nm]
 by_cases h : e.l = m
 ·rw [h]; simp
 ·rw [decide_eq_false h, Bool.and_eq_false_iff]
  by_cases hs : e.l.s = m.s
  ·exact .inr (decide_eq_false fun z => h (U e he hs z))
  ·exact .inl (decide_eq_false hs)
theorem pix_here {m : Let} {u : Nat} {es : List Ev} {e : Ev} (h : es[pix m u es]? = some e) : e.u = u ∧ e.l = m := by
 obtain ⟨hlt, rfl⟩ := List.getElem?_eq_some_iff.mp h
 exact of_decide_eq_true (List.findIdx_getElem (w := hlt))
theorem kn_in {m : Let} {u i : Nat} {es : List Ev} {e : Ev} (h : es[i]? = some e) (hu : e.u = u) (hl : e.l = m) : m ∈ knOf u es := by
 unfold knOf
 exact List.mem_map.mpr ⟨e, List.mem_filter.mpr ⟨List.mem_of_getElem? h, by simp [hu]⟩, hl⟩
def spPlaceX (K : PySem.W.Frag) (CN : Addr) : Sp := fun vs H Q E => ∃ (le b : Addr) (es : List Ev) (xe : List V) (u : Nat) (m : Let), vs = [.ref le, .ref b, .int u] ∧ SqL K H le xe ∧ All2 (EvV H) es xe ∧ H b = some (.tup [.int m.s, .int (xV4 m)]) ∧ Uni m es ∧ (m ∈ knOf u es → ∀ H', Same H H' → Q (.int (pix m u es : Nat)) H') ∧ (m ∉ knOf u es → ∀ H', Same H H' → E (.ref CN) none H')
def spThroughX (K : PySem.W.Frag) (CN : Addr) : Sp := fun vs H Q E => ∃ (le b : Addr) (es : List Ev) (xe : List V) (n : Nat) (m : Let), vs = [.ref le, .ref b, .int n] ∧ SqL K H le xe ∧ All2 (EvV H) es xe ∧ H b = some (.tup [.int m.s, .int (xV4 m)]) ∧ Uni m es ∧ (∀ e ∈ es, e.u < n) ∧ n ≤ 1000 ∧ es.length ≤ 1000 ∧ ((∀ u, u < n → m ∈ knOf u es) → ∀ p H', Same H H' → Q (.ref p) H') ∧ ((∃ u, u < n ∧ m ∉ knOf u es) → ∀ H', Same H H' → E (.ref CN) none H')
section
variable {P : Program} {w : World} {K : PySem.W.Frag} {mg : Str → Option Value} {base : Heap} {fPk CN CE CP CL : Addr}
theorem oPk : ownB ["events", "name", "office", "place", "event"] (defScope sPlaceKept) = true := by decide +kernel
theorem scPk : FnScope ["events", "name", "office", "place", "event"] ["events", "name", "office"] (defScope sPlaceKept) := ⟨rfl, rfl, rfl, by decide +kernel, rfl, by decide +kernel, by decide +kernel⟩
theorem ok_place {f : Addr} {fd : FuncData} (F : Fun K "place_kept" "place_kept" sPlaceKept f fd) (Z : Exk K mg CN CE CP CL) (hen : mg "enumerate" = none) : FnOk P w K mg base (CX1 P w) 1 f fd ["events", "name", "office"] (spPlaceX K CN) := by
 refine okB1 (body := [stm sPlaceKept 0, stm sPlaceKept 1]) F scPk (fun vs H Q E h => ?_) (by kernel_rfl) (fun cdv A0 outer s0 H vs Q E hr h => ?_)
 ·obtain ⟨le, b, es, xe, u, m, rfl, _⟩ := h
  rfl
 ·obtain ⟨le, b, es, xe, u, m, rfl, hle, hxe, hb, U, kQ, kE⟩ := h
  refine ⟨_, (xU8 (PS.nox (xQ0 PassesOwn.never rfl (L11.enm K hen (aC (oV oPk 0) xU7)) (pg_tup rfl (pgs_cons (oT oPk 3) (pgs_cons (oT oPk 4) pgs_nil)))
    (xU6 (xW4 (PW.pt (pw_and (xV7 yX0 (iX (ixT K) (oV oPk 4) xU5) (oV oPk 2) (xV5 _)) (pw_and1 (xV7 (op_eqD (n := 10) (vV6 hr)) (iX (ixT K) (oV oPk 4) xU5) (oV oPk 1) (xV5 _)))))
     (xU6 (xU1 (oV oPk 3)))
     xV8))))
   (xU6 (ps_raise throws_cx Z.oN rfl Z.nocut (aC xY8 xU7)))), ?_⟩
  have xl := hxe.len
  refine ⟨_, rfl, le, rfl, ⟨_, hle⟩, L11.for_enum (K := K) (a := le) (xs := xe) (fun i σ Hc => ∃ (v3 v4 : Option V), σ = [some (.ref le), some (.ref b), some (.int u), v3, v4] ∧ Same H Hc ∧ i ≤ pix m u es) ⟨none, none, rfl, Same.refl H, Nat.zero_le _⟩ (fun i σ Hc _ h => by obtain ⟨_, _, _, e, _⟩ := h; exact e.seq hle) ?_ ?_⟩
  ·rintro i y p σ Hc hi ⟨v3, v4, rfl, e, hip⟩ np
   have hi' : i < es.length := by have := (List.getElem?_eq_some_iff.mp hi).1; omega
   have gi := List.getElem?_eq_getElem hi'
   obtain ⟨x', hx', be, ce, ex, L1, L2⟩ := hxe.get gi
   rw [hi] at hx'
   cases hx'
   subst ex
   have s1 := xU4 (o := .tup [.int (i : Int), .ref be]) np
   have e1 := e.trans s1
   have hlast : i = pix m u es → es[i].u = u ∧ es[i].l = m := fun z => by
    exact pix_here (es := es) (z ▸ gi)
   have hnot : i < pix m u es → ¬ (es[i].u = u ∧ es[i].l = m) := fun z => pix_not z gi
   have hq := uni_eq U (List.getElem_mem hi')
   have hin := fun hu hl => kn_in (m := m) (u := u) gi hu hl
   generalize es[i] = ev at L1 L2 hlast hnot hq hin
   have L1 := e1 _ _ L1
   have L2 := e1 _ _ L2
   refine ⟨p, _, rfl, SqT.of xU9, rfl, _, _, rfl, _, _, rfl, rfl, ?_⟩
   refine ⟨_, rfl, be, _, 1, _, rfl, rfl, SqT.of L1, rfl, _, rfl, rfl, _, rfl, ?_⟩
   by_cases hu : ev.u = u
   ·refine vU0 (decide_eq_true (by rw [hu])) ?_
    refine ⟨_, rfl, be, _, 2, _, rfl, rfl, SqT.of L1, rfl, _, rfl, xW6 ev.l, xW6 m, NmV.rep ⟨ce, rfl, L2⟩, NmV.rep ⟨b, rfl, e1 _ _ hb⟩, rfl, rfl, Nat.le_trans (Nat.min_le_right _ _) (yW6 m), _, rfl, ?_⟩
    by_cases hl : ev.l = m
    ·refine vU0 (by rw [hq]; exact decide_eq_true hl) ?_
     have ei : i = pix m u es := by
      rcases Nat.lt_or_ge i (pix m u es) with z | z
      ·exact absurd ⟨hu, hl⟩ (hnot z)
      ·omega
     refine ⟨_, rfl, ?_⟩
     rw [ei] at e1 ⊢
     exact kQ (hin hu hl) _ e1
    ·refine yY9 (by rw [hq]; exact decide_eq_false hl) ?_
     refine ⟨_, _, rfl, e1, ?_⟩
     rcases Nat.lt_or_ge i (pix m u es) with z | z
     ·exact z
     ·exact absurd (hlast (by omega)).2 hl
   ·refine yY9 (decide_eq_false fun z => hu (by have := V.int.inj z; omega)) ?_
    refine iteF ⟨_, _, rfl, e1, ?_⟩
    rcases Nat.lt_or_ge i (pix m u es) with z | z
    ·exact z
    ·exact absurd (hlast (by omega)).1 hu
  ·rintro σ Hc ⟨v3, v4, rfl, e, hip⟩
   rw [xl] at hip
   exact ⟨len1, kE (fun hm => by have := pix_lt hm; omega) _ e⟩
theorem oThr : ownB ["events", "name", "count", "lasts", "first", "others"] (defScope sThrough) = true := by decide +kernel
theorem scThr : FnScope ["events", "name", "count", "lasts", "first", "others"] ["events", "name", "count"] (defScope sThrough) := ⟨rfl, rfl, rfl, by decide +kernel, rfl, by decide +kernel, by decide +kernel⟩
theorem lasts_get {m : Let} {n u : Nat} {es : List Ev} (h : u < n) : ((List.range n).map fun u => V.int (pix m u es : Nat))[u]? = some (.int (pix m u es : Nat)) := by
 rw [List.getElem?_map, List.getElem?_range h]; rfl
theorem ok_through {f : Addr} {fd fdP : FuncData} (F : Fun K "through" "through" sThrough f fd) (Z : Exk K mg CN CE CP CL) (hen : mg "enumerate" = none) (hrg : mg "range" = none) (hln : mg "len" = none) (mPk : mg "place_kept" = some (.ref fPk)) (FPk : Fun K "place_kept" "place_kept" sPlaceKept fPk fdP) (bPk : Binds K fdP ["events", "name", "office"] []) : FnOk P w K mg base (CX1 P w) 2 f fd ["events", "name", "count"] (spThroughX K CN) := by
 have GPk : FnOk P w K mg base (CX1 P w) 1 fPk fdP ["events", "name", "office"] (spPlaceX K CN) := ok_place FPk Z hen
 refine okB1 (body := [stm sThrough 0, stm sThrough 1, stm sThrough 2, stm sThrough 3]) F scThr (fun vs H Q E h => ?_) (by kernel_rfl) (fun cdv A0 outer s0 H vs Q E hr h => ?_)
 ·obtain ⟨le, b, es, xe, n, m, rfl, _⟩ := h
  rfl
 ·obtain ⟨le, b, es, xe, n, m, rfl, hle, hxe, hb, U, hun, hn, hel, kQ, kE⟩ := h
  refine ⟨_, (xU8 (L11.oSc oThr 3 (L10.pe_compX [0, 1] ["events", "name"] L10.passC1 (rng1 hrg (aC (oV oThr 2) xU7)) (fun _ _ _ _ _ => (cF GPk hr mPk FPk.kp bPk .nil L10.passB (aC (sV 1) (aC (sV 2) (aC (sV 0) xU7)))))))
   (xU8 (L11.oC2 K oThr 4 [3] ["lasts"] rfl (L11.enm K hen (aC (oV oThr 0) xU7)) (fun _ _ _ _ _ => (vU6 (xV7 op_le (sV 0) (iX (ixL K) (sV 2) (iX (ixT K) (sV 1) xU5)) (xV5 _)))) (fun _ _ _ _ _ => (sV 1)))
   (xU8 (L11.oC2 K oThr 5 [3] ["lasts"] rfl (L11.enm K hen (aC (oV oThr 0) xU7)) (fun _ _ _ _ _ => (vU6 (xV7 op_gt (sV 0) (iX (ixL K) (sV 2) (iX (ixT K) (sV 1) xU5)) (xV5 _)))) (fun _ _ _ _ _ => (sV 1)))
   (xU6 (xU1 (xZ6 (aC (xV2 op_cat (oV oThr 4) (oV oThr 5)) (aC (cB (xV9 (X := _)) hln PySem.boot_len (aC (oV oThr 4) xU7)) xU7)))))))), ?_⟩
  have xl := hxe.len
  refine ⟨_, rfl, (n : Int), rfl, by omega, by omega, yW5 (n := ((n : Nat) : Int).toNat) (lo := 0) (fun D i ys H2 => Same H H2 ∧ H2 D = some (.lst ys) ∧ (∀ u, u < i → m ∈ knOf u es) ∧ ys = (List.range i).map fun u => V.int (pix m u es : Nat))
   (fun D hD => ⟨xU4 hD, xU9, fun u hu => absurd hu (Nat.not_lt_zero _), rfl⟩) (fun D i ys H2 hD _ h => h.2.1) (fun D i ys H2 hD hi h => ?_) (fun ls ys H2 hD h => ?_)⟩
  ·obtain ⟨f1, f2, hk, f3⟩ := h
   have hi' : i < n := by simpa using hi
   rw [show ((0 : Int) + (i : Int)) = (i : Int) from Int.zero_add _]
   refine ⟨_, rfl, _, rfl, _, rfl, le, b, es, xe, i, m, rfl, f1.seq hle, EvVs.imm f1.imm hxe, f1 _ _ hb, U, fun hmi H3 e3 => ?_, fun hmi H3 e3 => kE ⟨i, hi', hmi⟩ H3 (f1.trans e3)⟩
   refine ⟨e3 _ _ f2, xV0 (by rw [f3, List.length_map, List.length_range]; omega), xW2 (f1.trans e3) hD, xU9, fun u hu => ?_, ?_⟩
   ·rcases Nat.lt_or_ge u i with z | z
    ·exact hk u z
    ·rw [show u = i by omega]; exact hmi
   rw [f3, List.range_succ, List.map_append]; rfl
  ·obtain ⟨e1, hls, hm, f3⟩ := h
   rw [Int.toNat_natCast] at f3 hm
   subst f3
   refine ⟨_, rfl, le, rfl, ⟨_, e1.seq hle⟩, L11.comp_enum (xs := xe) (fun D j us HH => Same H2 HH ∧ HH D = some (.lst us) ∧ All2 (EvV HH) (fsts m [] (es.take j)) us)
   (fun D hD => ⟨xU4 hD, xU9, rfl⟩) (fun D j us HH hD hj h => ⟨h.2.1, (e1.trans h.1).seq hle⟩) (fun D j x p us HH hD hj h np => ?_) (fun DD us H3 hD h => ?_)⟩
   ·obtain ⟨f1, f2, f3⟩ := h
    have hj' : j < es.length := by have := (List.getElem?_eq_some_iff.mp hj).1; omega
    have gj := List.getElem?_eq_getElem hj'
    obtain ⟨x', hx', be, ce, ex, L1, L2⟩ := hxe.get gj
    rw [hj] at hx'
    cases hx'
    subst ex
    have hu := hun _ (List.getElem_mem hj')
    have hiff := pix_iff (i := j) (hm _ hu)
    have hsn := fsts_snoc (m := m) gj
    have fl := f3.len
    have f4 : (fsts m [] (es.take j)).length ≤ es.length := by
     have := cut_len_ (m := m) (b := es.take j) (a := [])
     rw [List.length_take] at this; omega
    generalize es[j] = ev at L1 L2 hu hiff hsn
    have s1 := xU4 (o := .tup [.int (j : Int), .ref be]) np
    have e1 := e1.trans (f1.trans s1)
    have L1' := e1 _ _ L1
    have L2' := e1 _ _ L2
    have hls := (f1.trans s1) _ _ hls
    refine ⟨_, rfl, _, rfl, _, rfl, be, _, 1, _, rfl, rfl, SqT.of L1', rfl, ls, _, _, .int (pix m ev.u es : Nat), rfl, rfl, SqL.of hls, xW7 (lasts_get hu), _, _, rfl, rfl, _, rfl, ?_⟩
    have nD : D ≠ p := fun z => by rw [← z, f2] at np; cases np
    have f2' := s1 _ _ f2
    rw [hsn]
    by_cases hc : m ∈ knOf ev.u (es.take j)
    ·have : ¬ j ≤ pix m ev.u es := fun z => hiff.mp z hc
     rw [if_pos hc]
     refine yY9 (decide_eq_false (by omega)) ⟨f1.trans s1, f2', ?_⟩
     rw [List.append_nil]; exact EvVs.imm s1.imm f3
    ·have : j ≤ pix m ev.u es := hiff.mpr hc
     rw [if_neg hc]
     refine vU0 (decide_eq_true (by omega)) ?_
     refine ⟨_, rfl, f2', xV0 (by omega), xW2 (f1.trans s1) hD, xU9, ?_⟩
     exact EvVs.imm (xX5 f2') (All2.append (EvVs.imm s1.imm f3) (All2.one ⟨be, ce, rfl, L1', L2'⟩))
   ·obtain ⟨f1, hfi, hfe⟩ := h
    rw [xl, List.take_length] at hfe
    have e3 := e1.trans f1
    have hls3 := f1 _ _ hls
    refine ⟨_, rfl, le, rfl, ⟨_, e3.seq hle⟩, L11.comp_enum (xs := xe) (fun D j us HH => Same H3 HH ∧ HH D = some (.lst us) ∧ All2 (EvV HH) (rsts m [] (es.take j)) us)
   (fun D hD => ⟨xU4 hD, xU9, rfl⟩) (fun D j us HH hD hj h => ⟨h.2.1, (e3.trans h.1).seq hle⟩) (fun D j x p us HH hD hj h np => ?_) (fun D5 us5 H5 hD5 h => ?_)⟩
    ·obtain ⟨f1, f2, f3⟩ := h
     have hj' : j < es.length := by have := (List.getElem?_eq_some_iff.mp hj).1; omega
     have gj := List.getElem?_eq_getElem hj'
     obtain ⟨x', hx', be, ce, ex, L1, L2⟩ := hxe.get gj
     rw [hj] at hx'
     cases hx'
     subst ex
     have hu := hun _ (List.getElem_mem hj')
     have hiff := pix_iff (i := j) (hm _ hu)
     have hsn := rsts_snoc (m := m) gj
     have fl := f3.len
     have f4 : (rsts m [] (es.take j)).length ≤ es.length := by
      have := cut_len_ (m := m) (b := es.take j) (a := [])
      rw [List.length_take] at this; omega
     generalize es[j] = ev at L1 L2 hu hiff hsn
     have s1 := xU4 (o := .tup [.int (j : Int), .ref be]) np
     have e1 := e3.trans (f1.trans s1)
     have L1' := e1 _ _ L1
     have L2' := e1 _ _ L2
     have hls := (f1.trans s1) _ _ hls3
     refine ⟨_, rfl, _, rfl, _, rfl, be, _, 1, _, rfl, rfl, SqT.of L1', rfl, ls, _, _, .int (pix m ev.u es : Nat), rfl, rfl, SqL.of hls, xW7 (lasts_get hu), _, _, rfl, rfl, _, rfl, ?_⟩
     have nD : D ≠ p := fun z => by rw [← z, f2] at np; cases np
     have f2' := s1 _ _ f2
     rw [hsn]
     by_cases hc : m ∈ knOf ev.u (es.take j)
     ·have : ¬ j ≤ pix m ev.u es := fun z => hiff.mp z hc
      rw [if_pos hc]
      refine vU0 (decide_eq_true (by omega)) ?_
      refine ⟨_, rfl, f2', xV0 (by omega), xW2 (f1.trans s1) hD, xU9, ?_⟩
      exact EvVs.imm (xX5 f2') (All2.append (EvVs.imm s1.imm f3) (All2.one ⟨be, ce, rfl, L1', L2'⟩))
     ·have : j ≤ pix m ev.u es := hiff.mpr hc
      rw [if_neg hc]
      refine yY9 (decide_eq_false (by omega)) ⟨f1.trans s1, f2', ?_⟩
      rw [List.append_nil]; exact EvVs.imm s1.imm f3
    ·obtain ⟨g1, hro, hre⟩ := h
     rw [xl, List.take_length] at hre
     have hfi5 := g1 _ _ hfi
     have hfe5 := EvVs.imm g1.imm hfe
     have fl := hfe.len
     have rl := hre.len
     have cl := cut_len_ (m := m) (b := es) (a := [])
     refine ⟨_, rfl, _, rfl, DD, D5, _, _, rfl, rfl, hfi5, hro, ?_, fun l nl => ?_⟩
     ·exact Nat.le_of_lt (xV0 (by omega))
     have s6 := xU4 (o := .lst (us ++ us5)) nl
     refine ⟨_, rfl, DD, _, rfl, .inl (SqL.of (s6 _ _ hfi5)), len2, fun p np => ?_⟩
     have s7 := xU4 (o := .tup [.ref l, .int (us.length : Nat)]) np
     exact kQ hm p _ (((e3.trans g1).trans s6).trans s7)
end
end Of
end
section
seal L2.PE L2.PT L2.PW L2.PA L2.PS L2.PSs L2.PG L2.PGs L2.PI L3.PTs L2.PO L2.CallR L2.OpR L2.IxR L2.MtR L2.PSet L2.SlR
namespace Of
open PySem L2 L3 L4 L5 L6 L7
def spLaw (K : PySem.W.Frag) : Sp := fun vs H Q _ => ∃ (a : Addr) (ns : List Int), vs = [.ref a] ∧ SqL K H a (nums ns) ∧ ns.length ≤ 63 ∧ ∀ H', Q (.bl true) H'
theorem count8 {r : Nat} (h : r < 8) : ∃ n : Nat, ([V.int 2, .int 3, .int 4, .int 2, .int 3, .int 4, .int 2, .int 12] : List V)[r]? = some (.int (n : Int)) ∧ 2 ≤ n ∧ n ≤ 12 := by
 match r, h with
 | 0, _ => exact ⟨2, rfl, by decide, by decide⟩
 | 1, _ => exact ⟨3, rfl, by decide, by decide⟩
 | 2, _ => exact ⟨4, rfl, by decide, by decide⟩
 | 3, _ => exact ⟨2, rfl, by decide, by decide⟩
 | 4, _ => exact ⟨3, rfl, by decide, by decide⟩
 | 5, _ => exact ⟨4, rfl, by decide, by decide⟩
 | 6, _ => exact ⟨2, rfl, by decide, by decide⟩
 | 7, _ => exact ⟨12, rfl, by decide, by decide⟩
theorem cut_len {ns : List Int} {i j : Int} (h : ns.length ≤ 63) : ∃ cs : List Int, cutV (nums ns) (some i) (some j) = nums cs ∧ cs.length ≤ 63 := by
 refine ⟨(ns.drop (HT.sIx (nums ns).length 0 (some i))).take (HT.sIx (nums ns).length (nums ns).length (some j) - HT.sIx (nums ns).length 0 (some i)), ?_, ?_⟩
 ·unfold cutV nums
  rw [List.map_take, List.map_drop]
 ·rw [List.length_take, List.length_drop]
  omega
theorem vW3 : ∀ ns : List Int, PyData.depthAll (intD ns) ≤ 1
 | [] => by decide
 | n :: ns => by
  simp only [intD, List.map_cons, PyData.depthAll]
  refine Nat.max_le.mpr ⟨?_, vW3 ns⟩
  simp [PyData.depth]
theorem reps_take {K : PySem.W.Frag} {H : Hp} : ∀ {ds : List PyData} {xs : List V} (i : Nat), xU3 K H ds xs → xU3 K H (ds.take i) (xs.take i)
 | ds, xs, 0, _ => by simp only [List.take_zero, xU3]
 | [], xs, i + 1, h => by
  have : xs = [] := by simpa only [xU3] using h
  subst this; simp only [List.take_nil, xU3]
 | d :: ds, xs, i + 1, h => by
  obtain ⟨x, r, rfl, a, b⟩ : ∃ x r, xs = x :: r ∧ RepD K H d x ∧ xU3 K H ds r := by simpa only [xU3] using h
  simp only [List.take_succ_cons, xU3]
  exact ⟨x, _, rfl, a, reps_take i b⟩
theorem reps_drop {K : PySem.W.Frag} {H : Hp} : ∀ {ds : List PyData} {xs : List V} (i : Nat), xU3 K H ds xs → xU3 K H (ds.drop i) (xs.drop i)
 | ds, xs, 0, h => by simpa only [List.drop_zero] using h
 | [], xs, i + 1, h => by
  have : xs = [] := by simpa only [xU3] using h
  subst this; simp only [List.drop_nil, xU3]
 | d :: ds, xs, i + 1, h => by
  obtain ⟨x, r, rfl, a, b⟩ : ∃ x r, xs = x :: r ∧ RepD K H d x ∧ xU3 K H ds r := by simpa only [xU3] using h
  simp only [List.drop_succ_cons]
  exact reps_drop i b
theorem reps_ins {K : PySem.W.Frag} {H : Hp} {ds : List PyData} {xs : List V} {d : PyData} {x : V} (i : Nat) (h : xU3 K H ds xs) (h1 : RepD K H d x) : xU3 K H (insV ds i d) (insV xs i x) := by
 unfold insV
 refine xY7 (reps_take i h) ?_
 simp only [xU3]
 exact ⟨x, _, rfl, h1, reps_drop i h⟩
theorem ins_map {α β : Type} {f : α → β} {xs : List α} {i : Nat} {x : α} : (insV xs i x).map f = insV (xs.map f) i (f x) := by
 unfold insV
 rw [List.map_append, List.map_cons, List.map_take, List.map_drop]
theorem mem_ins {α : Type} {xs : List α} {i : Nat} {x y : α} : y ∈ insV xs i x ↔ y = x ∨ y ∈ xs := by
 unfold insV
 have h : y ∈ xs ↔ y ∈ xs.take i ∨ y ∈ xs.drop i := by rw [← List.mem_append, List.take_append_drop]
 rw [List.mem_append, List.mem_cons, h]
 constructor
 ·rintro (z | z | z)
  ·exact .inr (.inl z)
  ·exact .inl z
  ·exact .inr (.inr z)
 ·rintro (z | z | z)
  ·exact .inr (.inl z)
  ·exact .inl z
  ·exact .inr (.inr z)
theorem ins_len {α : Type} {xs : List α} {i : Nat} {x : α} : (insV xs i x).length = xs.length + 1 := by
 unfold insV
 rw [List.length_append, List.length_cons, List.length_take, List.length_drop]
 omega
def brn (n : Nat) (z : Int) (k : Nat) : Nat := (((k : Int) + z) % (n : Int)).toNat
theorem brn_lt {n k : Nat} {z : Int} (h : 0 < n) : brn n z k < n := by
 have h1 := Int.emod_nonneg ((k : Int) + z) (show (n : Int) ≠ 0 by omega)
 have h2 := Int.emod_lt_of_pos ((k : Int) + z) (show 0 < (n : Int) by omega)
 unfold brn; omega
def spEnded (K : PySem.W.Frag) : Sp := fun vs H Q _ => ∃ (a : Addr) (ns : List Int) (n : Nat), vs = [.ref a, .int n] ∧ SqL K H a (nums ns) ∧ ns.length ≤ 63 ∧ 2 ≤ n ∧ n ≤ 12 ∧
 ∀ (l : Addr) (ds : List Deed) (xs : List V) (H' : Hp), ds.length ≤ 76 → (∀ d ∈ ds, xQ7 n d) → (∃ (pre : List Deed) (z : Int), ds = pre ++ ((List.range n).map (brn n z)).map Deed.bring) → H' l = some (.lst xs) → xU3 K H' (ds.map yX6) xs → Same H H' → Q (.ref l) H'
section
variable {P : Program} {w : World} {K : PySem.W.Frag} {mg : Str → Option Value} {base : Heap} {fA fD fE fX fN fWk fW fS fEo fEn : Addr}
theorem oEd : ownB ["_law_script", "_law_count", "_law_deeds", "_law_spot", "_law_k"] (defScope sEndedL) = true := by decide +kernel
theorem scEd : FnScope ["_law_script", "_law_count", "_law_deeds", "_law_spot", "_law_k"] ["_law_script", "_law_count"] (defScope sEndedL) := ⟨rfl, rfl, rfl, by decide +kernel, rfl, by decide +kernel, by decide +kernel⟩
theorem ok_ended {f : Addr} {fd fdA fdD : FuncData} (F : Fun K "_law_ended" "_law_ended" sEndedL f fd) (T : Bts mg) (mA : mg "_law_at" = some (.ref fA)) (FA : Fun K "_law_at" "_law_at" sAt fA fdA) (bA : Binds K fdA ["_law_script", "_law_k"] [])
  (mD : mg "_law_drawn" = some (.ref fD)) (FD : Fun K "_law_drawn" "_law_drawn" sDrawn fD fdD) (bD : Binds K fdD ["_law_cells", "_law_count"] []) (GD : FnOk P w K mg base CX0 2 fD fdD ["_law_cells", "_law_count"] (spDrawn K)) : FnOk P w K mg base CX0 3 f fd ["_law_script", "_law_count"] (spEnded K) := by
 have GA : FnOk P w K mg base CX0 1 fA fdA ["_law_script", "_law_k"] (spAt K) := ok_at FA T
 refine okB (body := [stm sEndedL 0, stm sEndedL 1, stm sEndedL 2, stm sEndedL 3, stm sEndedL 4]) F scEd (fun vs H Q E h => ?_) (by kernel_rfl) (fun cdv A0 outer s0 H vs Q E hr h => ?_)
 ·obtain ⟨a, ns, n, rfl, _⟩ := h
  rfl
 ·obtain ⟨a, ns, n, rfl, ha, hns, n2, n12, fin⟩ := h
  have hr1 := hr.mono (by decide : 1 ≤ 2)
  obtain ⟨cs, hcs, hcsl⟩ := cut_len (ns := ns) (i := 2) (j := 22) hns
  refine ⟨_, (xU8 (oS oEd 2 (cF GD hr mD FD.kp bD .nil xV1 (aC (yQ7 sl_list (oV oEd 0) (vU5 xU5) (vU5 xU5)) (aC (oV oEd 1) xU7))))
   (xU8 (oS oEd 3 (xV2 xX1 (xV2 xX1 (xV2 yV4 (cF GA hr1 mA FA.kp bA .nil xV1 (aC (oV oEd 0) (aC xU5 xU7))) xU5) xU5) (xV2 yU1 (cB (xV9 (X := _)) T.len PySem.boot_len (aC (oV oEd 2) xU7)) xU5)))
   (xU8 (xQ9 (pe_bm PySem.F.plainAttrs_list PySem.F.slot_list_insert PySem.F.type_list_insert mt_insert (oV oEd 2) (aC (oV oEd 3) (aC (xZ6 (aC xY8 (aC (xV2 xX1 (xV2 xX1 (xV2 yV4 (cF GA hr1 mA FA.kp bA .nil xV1 (aC (oV oEd 0) (aC xU5 xU7))) xU5) xU5) (oV oEd 1)) xU7))) xU7))))
   (xU8 (xQ0 PassesOwn.never rfl (rng1 T.range (aC (oV oEd 1) xU7)) (oT oEd 4)
    (xU6 (xQ9 (mApp (oV oEd 2) (xZ6 (aC xY8 (aC (xV2 xX1 (xV2 yU1 (oV oEd 4) (cF GA hr1 mA FA.kp bA .nil xV1 (aC (oV oEd 0) (aC xU5 xU7)))) (oV oEd 1)) xU7)))))))
   (xU6 (xU1 (oV oEd 2))))))), ?_⟩
  refine cut5 ?_
  intro rr4 rr3 rr2 rr1
  refine ⟨_, rfl, _, rfl, _, rfl, a, _, rfl, ha, fun qe nqe => ?_⟩
  rw [hcs]
  have s0 := xU4 (o := .lst (nums cs)) nqe
  refine ⟨_, rfl, qe, cs, n, rfl, SqL.of xU9, n2, by omega, fun ld ds xd H1 hdl ok _ nld hld hxd e1 => ?_⟩
  have e01 := s0.trans e1
  have nld0 : H ld = none := s0.free nld
  clear s0 e1 nld
  have xl := xW5 hxd
  rw [List.length_map] at xl
  have g0 := Int.emod_nonneg (cell ns 0 * 48271 % 1039) (show ((xd.length : Nat) : Int) + 1 ≠ 0 by omega)
  have g1 := Int.emod_lt_of_pos (cell ns 0 * 48271 % 1039) (show 0 < ((xd.length : Nat) : Int) + 1 by omega)
  have w0 := Int.emod_nonneg (cell ns 1 * 48271 % 1049) (show ((n : Nat) : Int) ≠ 0 by omega)
  have w1 := Int.emod_lt_of_pos (cell ns 1 * 48271 % 1049) (show 0 < ((n : Nat) : Int) by omega)
  refine ⟨_, rfl, a, ns, 0, rfl, e01.seq ha, by decide, _, _, rfl, rfl, cmul (by decide) (by decide), _, _, rfl, rfl, (by show (0 : Int) < 1039; decide), _, rfl, ld, _, rfl, .inl (SqL.of hld), _, _, rfl, rfl, _, _, rfl, rfl, (by show (0 : Int) < ((xd.length : Nat) : Int) + 1; omega), ?_⟩
  dsimp only
  generalize cell ns 0 * 48271 % 1039 % (((xd.length : Nat) : Int) + 1) = sp at g0 g1
  refine ⟨_, rfl, .inl ⟨rfl, _, SqL.of hld⟩, _, rfl, _, rfl, a, ns, 1, rfl, e01.seq ha, by decide, _, _, rfl, rfl, cmul (by decide) (by decide), _, _, rfl, rfl, (by show (0 : Int) < 1049; decide), _, rfl, _, _, rfl, rfl, (by show (0 : Int) < ((n : Nat) : Int); omega), len2, fun pt npt => ?_⟩
  dsimp only at npt ⊢
  obtain ⟨wc, hwc⟩ := Int.eq_ofNat_of_zero_le w0
  rw [hwc] at w1 ⊢
  have s2 := xU4 (o := .tup [.str "cut", .int (wc : Int)]) npt
  have hpt : (upd H1 pt (.tup [.str "cut", .int (wc : Int)])) pt = some (.tup [.str "cut", .int (wc : Int)]) := xU9
  have e2 := e01.trans s2
  have hld2 := s2 _ _ hld
  have hxd2 := xU3.same s2 _ _ hxd
  generalize upd H1 pt (.tup [.str "cut", .int (wc : Int)]) = H2 at hpt e2 hld2 hxd2 ⊢
  refine ⟨ld, xd, sp, .ref pt, rfl, rfl, hld2, g0, by omega, by omega, ?_⟩
  have e3 : Same H (upd H2 ld (.lst (insV xd sp.toNat (.ref pt)))) := xW2 e2 nld0
  have i3 := xX5 (ys := insV xd sp.toNat (.ref pt)) hld2
  have hx3 : xU3 K (upd H2 ld (.lst (insV xd sp.toNat (.ref pt)))) ((insV ds sp.toNat (.cut wc)).map yX6) (insV xd sp.toNat (.ref pt)) := by
   refine xU3.imm i3 _ _ (yW0 _) ?_
   rw [ins_map]
   exact reps_ins _ hxd2 (yQ2.mpr ⟨pt, rfl, SqT.of hpt⟩)
  have hld3 : (upd H2 ld (.lst (insV xd sp.toNat (.ref pt)))) ld = some (.lst (insV xd sp.toNat (.ref pt))) := xU9
  have ok3 : ∀ d ∈ insV ds sp.toNat (.cut wc), xQ7 n d := fun d hd => by
   rcases mem_ins.mp hd with z | z
   ·subst z; show wc < n; omega
   ·exact ok d z
  have pl : (insV ds sp.toNat (Deed.cut wc)).length = ds.length + 1 := ins_len
  generalize upd H2 ld (.lst (insV xd sp.toNat (.ref pt))) = H3 at e3 hx3 hld3 ⊢
  generalize insV ds sp.toNat (Deed.cut wc) = pre at hx3 ok3 pl
  generalize insV xd sp.toNat (.ref pt) = x3 at hx3 hld3
  clear e2 hld2 hxd2 hpt s2 npt e01 hld hxd i3 ok
  refine ⟨_, rfl, (n : Int), rfl, by omega, by omega, yY8 (n := ((n : Nat) : Int).toNat) (lo := 0) (fun i σ Hc => ∃ (v : Option V) (xs : List V), σ = [some (.ref a), some (.int n), some (.ref ld), some (.int sp), v] ∧ Hc ld = some (.lst xs) ∧ xU3 K Hc ((pre ++ ((List.range i).map (brn n (cell ns 1))).map Deed.bring).map yX6) xs ∧ Same H Hc)
   ⟨none, x3, rfl, hld3, by simpa using hx3, e3⟩ ?_ ?_⟩
  ·rintro i σ Hc hi ⟨v, xs, rfl, hlc, hxs, e⟩
   have hi' : i < n := by simpa using hi
   rw [show ((0 : Int) + (i : Int)) = (i : Int) from Int.zero_add _]
   have xsl := xW5 hxs
   rw [List.length_map, List.length_append, List.length_map, List.length_map, List.length_range] at xsl
   refine ⟨_, rfl, .inl ⟨rfl, _, SqL.of hlc⟩, _, rfl, _, rfl, a, ns, 1, rfl, e.seq ha, by decide, _, _, rfl, rfl, _, rfl, _, _, rfl, rfl, (by show (0 : Int) < ((n : Nat) : Int); omega), len2, fun pt npt => ?_⟩
   dsimp only at npt ⊢
   have hb : ((i : Int) + cell ns 1) % (n : Int) = ((brn n (cell ns 1) i : Nat) : Int) := by
    unfold brn
    rw [Int.toNat_of_nonneg (Int.emod_nonneg _ (by omega))]
   rw [hb]
   have s4 := xU4 (o := .tup [.str "bring", .int ((brn n (cell ns 1) i : Nat) : Int)]) npt
   have hpt : (upd Hc pt (.tup [.str "bring", .int ((brn n (cell ns 1) i : Nat) : Int)])) pt = some (.tup [.str "bring", .int ((brn n (cell ns 1) i : Nat) : Int)]) := xU9
   generalize upd Hc pt (.tup [.str "bring", .int ((brn n (cell ns 1) i : Nat) : Int)]) = H4 at s4 hpt ⊢
   refine ⟨ld, xs, .ref pt, rfl, rfl, s4 _ _ hlc, xV0 (by omega), _, xs ++ [.ref pt], rfl, xU9, ?_, xW2 (e.trans s4) nld0⟩
   refine xU3.imm (xX5 (s4 _ _ hlc)) _ _ (yW0 _) ?_
   rw [show (pre ++ ((List.range (i + 1)).map (brn n (cell ns 1))).map Deed.bring).map yX6 = (pre ++ ((List.range i).map (brn n (cell ns 1))).map Deed.bring).map yX6 ++ [yX6 (.bring (brn n (cell ns 1) i))] by rw [List.range_succ]; simp]
   exact xY7 (xU3.same s4 _ _ hxs) (yW9 (yQ2.mpr ⟨pt, rfl, SqT.of hpt⟩))
  ·rintro σ Hc ⟨v, xs, rfl, hlc, hxs, e⟩
   rw [Int.toNat_natCast] at hxs
   refine ⟨_, rfl, fin ld _ xs Hc ?_ (fun d hd => ?_) ⟨pre, cell ns 1, rfl⟩ hlc hxs e⟩
   ·rw [List.length_append, List.length_map, List.length_map, List.length_range]; omega
   ·rcases List.mem_append.mp hd with z | z
    ·exact ok3 d z
    ·obtain ⟨t, ht, rfl⟩ := List.mem_map.mp z
     obtain ⟨k, _, rfl⟩ := List.mem_map.mp ht
     exact brn_lt (by omega)
end
def spAreStates (K : PySem.W.Frag) : Sp := fun vs H Q _ => ∃ (c : Addr) (us : List V) (ss : List (Int × List Int)) (n : Nat), vs = [.ref c, .int n] ∧ SqL K H c us ∧ All2 (StsV K H) ss us ∧ ss.length = n ∧ (∀ x ∈ ss, x.2.length = n) ∧ Q (.bl true) H
section
variable {P : Program} {w : World} {K : PySem.W.Frag} {mg : Str → Option Value} {base : Heap} {fA fD fE fX fN fWk fW fS fEo fEn fC : Addr}
theorem oCw : ownB ["_law_letter"] (defScope sCalled) = true := by decide +kernel
theorem scCw : FnScope ["_law_letter"] ["_law_letter"] (defScope sCalled) := ⟨rfl, rfl, rfl, by decide +kernel, rfl, by decide +kernel, by decide +kernel⟩
theorem ok_called {f : Addr} {fd : FuncData} (F : Fun K "_law_called" "_law_called" sCalled f fd) : FnOk P w K mg base CX0 1 f fd ["_law_letter"] (yQ1 K) := by
 refine okB (body := [stm sCalled 0]) F scCw (fun vs H Q E h => ?_) (by kernel_rfl) (fun cdv A outer s0 H vs Q E hr h => ?_)
 ·obtain ⟨a, l, rfl, _⟩ := h
  rfl
 ·obtain ⟨a, l, rfl, ⟨b, c, h1, h2, _⟩, h3, q⟩ := h
  refine ⟨_, (xU6 (xU1 (xZ6 (aC (iX (ixT K) (oV oCw 0) xU5) (aC (iX (ixT K) (iX (ixT K) (oV oCw 0) xU5) (iX (ixT K) (oV oCw 0) xU5)) xU7))))), ?_⟩
  exact ⟨_, rfl, a, _, 0, _, rfl, rfl, h1, rfl, _, rfl, a, _, 1, _, rfl, rfl, h1, rfl, _, rfl, a, _, 0, _, rfl, rfl, h1, rfl, b, _, (l.s : Int), _, rfl, rfl, h2, xW7 (xZ2 h3), len2, q⟩
theorem oAs : ownB ["_law_found", "_law_count", "_law_one", "_law_number"] (defScope sAreStatesL) = true := by decide +kernel
theorem scAs : FnScope ["_law_found", "_law_count", "_law_one", "_law_number"] ["_law_found", "_law_count"] (defScope sAreStatesL) := ⟨rfl, rfl, rfl, by decide +kernel, rfl, by decide +kernel, by decide +kernel⟩
theorem ok_are_states {f : Addr} {fd fdW : FuncData} (F : Fun K "_law_are_states" "_law_are_states" sAreStatesL f fd) (T : Bts mg) (mW : mg "_law_whole" = some (.ref fW)) (FW : Fun K "_law_whole" "_law_whole" sWhole fW fdW) (bW : Binds K fdW ["_law_found"] []) : FnOk P w K mg base CX0 2 f fd ["_law_found", "_law_count"] (spAreStates K) := by
 have GW : FnOk P w K mg base CX0 1 fW fdW ["_law_found"] (vU7 K) := yQ6 FW T
 refine okB (body := [stm sAreStatesL 0, stm sAreStatesL 1, stm sAreStatesL 2]) F scAs (fun vs H Q E h => ?_) (by kernel_rfl) (fun cdv A0 outer s0 H vs Q E hr h => ?_)
 ·obtain ⟨c, us, ss, n, rfl, _⟩ := h
  rfl
 ·obtain ⟨c, us, ss, n, rfl, hc, hu, hn, hx, fin⟩ := h
  have hr1 := hr
  refine ⟨_, (xU8 (xW4 (PW.pt (xQ1 (xW0 (xW8 (cB yW2 T.isinstance xV3 (aC (oV oAs 0) (aC (nT T.list xY5) xU7))))) (xZ1 (xV7 yX1 (cB (xV9 (X := _)) T.len PySem.boot_len (aC (oV oAs 0) xU7)) (oV oAs 1) (xV5 _)))))
    (xU6 (xU1 xY1))
    xV8)
   (xU8 (xQ0 PassesOwn.never rfl (xY2 (oV oAs 0)) (oT oAs 2)
    (xU8 (xW4 (PW.pt (xQ1 (xW0 (xW8 (cB yU5 T.isinstance xV3 (aC (oV oAs 2) (aC (nT T.tuple yU4) xU7))))) (xQ1 (xV7 yX1 (cB (xV9 (X := _)) T.len PySem.boot_len (aC (oV oAs 2) xU7)) xU5 (xV5 _)) (xZ1 (xW0 (xW8 (cF GW hr1 mW FW.kp bW .nil xV1 (aC (iX (ixT K) (oV oAs 2) xU5) xU7))))))))
     (xU6 (xU1 xY1))
     xV8)
    (xU8 (xW4 (PW.pt (xQ1 (xW0 (xW8 (cB yU5 T.isinstance xV3 (aC (iX (ixT K) (oV oAs 2) xU5) (aC (nT T.tuple yU4) xU7))))) (xZ1 (xV7 yX1 (cB (xV9 (X := _)) T.len PySem.boot_len (aC (iX (ixT K) (oV oAs 2) xU5) xU7)) (oV oAs 1) (xV5 _)))))
     (xU6 (xU1 xY1))
     xV8)
    (xU6 (xQ0 PassesOwn.never rfl (pi_tup (iX (ixT K) (oV oAs 2) xU5)) (oT oAs 3)
     (xU6 (xW4 (xW0 (xW8 (cF GW hr1 mW FW.kp bW .nil xV1 (aC (oV oAs 3) xU7))))
      (xU6 (xU1 xY1))
      xV8)))))))
   (xU6 (xU1 xY1)))), ?_⟩
  have ul := hu.len
  refine ⟨_, rfl, c, _, _, _, rfl, hc, yQ4, _, rfl, iteF ?_⟩
  refine ⟨_, rfl, c, _, rfl, .inl hc, _, rfl, rfl, _, rfl, ?_⟩
  refine yY9 (by rw [decide_eq_true (show V.int ((us.length : Nat) : Int) = V.int ((n : Nat) : Int) by rw [ul, hn])]; rfl) ?_
  refine ⟨_, rfl, c, rfl, ⟨_, hc⟩, yU7 (K := K) (a := c) (xs := us) (fun i σ Hc => ∃ (v2 v3 : Option V), σ = [some (.ref c), some (.int n), v2, v3] ∧ Hc = H) ⟨none, none, rfl, rfl⟩ (fun i σ Hc _ h => by obtain ⟨_, _, _, e⟩ := h; rw [e]; exact hc) ?_ ?_⟩
  ·rintro i y σ Hc hi ⟨v2, v3, rfl, rfl⟩
   have hi' : i < ss.length := by have := (List.getElem?_eq_some_iff.mp hi).1; omega
   obtain ⟨y', gy, p, cl, ey, q1, q2⟩ := hu.get (List.getElem?_eq_getElem hi')
   rw [hi] at gy
   cases gy
   subst ey
   have hxl := hx _ (List.getElem_mem hi')
   generalize ss[i] = x at q1 q2 hxl
   have q1 : SqT K Hc p [.int x.1, .ref cl] := SqT.of q1
   refine ⟨_, rfl, p, _, _, _, rfl, q1, yU8, _, rfl, iteF ?_⟩
   refine ⟨_, rfl, p, _, rfl, .inr q1, rfl, _, rfl, ?_⟩
   refine iteNS rfl ?_
   refine ⟨_, rfl, p, _, 0, _, rfl, rfl, q1, rfl, _, rfl, _, rfl, iteF ?_⟩
   refine ⟨_, rfl, p, _, 1, _, rfl, rfl, q1, rfl, cl, _, _, _, rfl, q2, yU8, _, rfl, iteF ?_⟩
   refine ⟨_, rfl, p, _, 1, _, rfl, rfl, q1, rfl, cl, _, rfl, .inr q2, _, rfl, rfl, _, rfl, ?_⟩
   refine yY9 (by rw [decide_eq_true (show V.int (((nums x.2).length : Nat) : Int) = V.int ((n : Nat) : Int) by rw [List.length_map, hxl])]; rfl) ?_
   refine ⟨_, rfl, p, _, 1, _, rfl, rfl, q1, rfl, cl, rfl, ⟨_, q2⟩, for_tup (K := K) (a := cl) (xs := nums x.2) (fun j σ H2 => ∃ (v3 : Option V), σ = [some (.ref c), some (.int n), some (.ref p), v3] ∧ H2 = Hc) ⟨v3, rfl, rfl⟩ (fun j σ H2 _ h => by obtain ⟨_, _, e⟩ := h; rw [e]; exact q2) ?_ ?_⟩
   ·rintro j z σ H2 hj ⟨v3, rfl, rfl⟩
    have hj' : j < x.2.length := by have := (List.getElem?_eq_some_iff.mp hj).1; rwa [List.length_map] at this
    rw [xZ2 hj'] at hj
    cases hj
    exact ⟨_, rfl, _, rfl, _, rfl, iteF ⟨_, rfl, rfl⟩⟩
   ·rintro σ H2 ⟨v3, rfl, rfl⟩
    exact ⟨_, _, rfl, rfl⟩
  ·rintro σ Hc ⟨v2, v3, rfl, rfl⟩
   exact fin
end
end Of
end
section
seal L2.PE L2.PT L2.PW L2.PA L2.PS L2.PSs L2.PG L2.PGs L2.PI L3.PTs L2.PO L2.CallR L2.OpR L2.IxR L2.MtR L2.PSet L2.SlR
namespace Of
open PySem L2 L3 L4 L5 L6 L7
def nz (l : List Nat) : List Int := l.map fun u => ((u : Nat) : Int)
theorem nz_len {l : List Nat} : (nums (nz l)).length = l.length := by unfold nums nz; rw [List.length_map, List.length_map]
theorem flt_t {p : Nat → Bool} {i : Nat} (h : p i = true) : nums (nz ((List.range (i + 1)).filter p)) = nums (nz ((List.range i).filter p)) ++ [.int ((i : Nat) : Int)] := by
 rw [List.range_succ, List.filter_append, List.filter_cons_of_pos h]
 unfold nums nz
 rw [List.map_append, List.map_append]; rfl
theorem flt_f {p : Nat → Bool} {i : Nat} (h : p i = false) : (List.range (i + 1)).filter p = (List.range i).filter p := by
 rw [List.range_succ, List.filter_append, List.filter_cons_of_neg (by rw [h]; exact Bool.false_ne_true), List.filter_nil, List.append_nil]
theorem flt_len {p : Nat → Bool} {i : Nat} : ((List.range i).filter p).length ≤ i := Nat.le_trans (List.length_filter_le _ _) (by rw [List.length_range]; exact Nat.le_refl _)
def duD (p : Let × List Nat) : PyData := .tuple [xW6 p.1, .list (intD (nz p.2))]
def PuV (H : Hp) (p : Let × List Nat) (v : V) : Prop := ∃ t c r, v = .ref t ∧ H t = some (.tup [.ref c, .ref r]) ∧ H c = some (.tup [.int p.1.s, .int (xV4 p.1)]) ∧ H r = some (.lst (nums (nz p.2)))
def DuV (X : Addr) (H : Hp) (p : Let × List Nat) (v : V) : Prop := ∃ t c r, v = .ref t ∧ H t = some (.tup [.ref c, .ref r]) ∧ H c = some (.tup [.int p.1.s, .int (xV4 p.1)]) ∧ H r = some (.lst (nums (nz p.2))) ∧ r ≠ X
theorem DuV.pu {X : Addr} {H : Hp} {p : Let × List Nat} {v : V} : DuV X H p v → PuV H p v
 | ⟨t, c, r, e, h1, h2, h3, _⟩ => ⟨t, c, r, e, h1, h2, h3⟩
theorem PuV.same {H H' : Hp} (e : Same H H') {p : Let × List Nat} {v : V} : PuV H p v → PuV H' p v
 | ⟨t, c, r, e0, h1, h2, h3⟩ => ⟨t, c, r, e0, e _ _ h1, e _ _ h2, e _ _ h3⟩
theorem DuV.same {X : Addr} {H H' : Hp} (e : Same H H') {p : Let × List Nat} {v : V} : DuV X H p v → DuV X H' p v
 | ⟨t, c, r, e0, h1, h2, h3, h4⟩ => ⟨t, c, r, e0, e _ _ h1, e _ _ h2, e _ _ h3, h4⟩
theorem DuV.put {X : Addr} {H : Hp} {ys zs : List V} (hX : H X = some (.lst ys)) {p : Let × List Nat} {v : V} : DuV X H p v → DuV X (upd H X (.lst zs)) p v
 | ⟨t, c, r, e0, h1, h2, h3, h4⟩ => ⟨t, c, r, e0, (xX5 hX).tup _ _ h1, (xX5 hX).tup _ _ h2, (xU2 h4).trans h3, h4⟩
theorem PuV.rep {K : PySem.W.Frag} {H : Hp} {p : Let × List Nat} {v : V} : PuV H p v → RepD K H (duD p) v
 | ⟨t, c, r, e0, h1, h2, h3⟩ => by
  have h2 : RepD K H (xW6 p.1) (.ref c) := NmV.rep ⟨c, rfl, h2⟩
  unfold duD
  simp only [RepD, xU3]
  exact ⟨t, _, e0, SqT.of h1, _, _, rfl, h2, _, _, rfl, ⟨r, _, rfl, SqL.of h3, yV5.mpr rfl⟩, rfl⟩
theorem DuVs.same {X : Addr} {H H' : Hp} (e : Same H H') {ps : List (Let × List Nat)} {vs : List V} (h : All2 (DuV X H) ps vs) : All2 (DuV X H') ps vs := h.mono fun _ _ => DuV.same e
theorem DuVs.put {X : Addr} {H : Hp} {ys zs : List V} (hX : H X = some (.lst ys)) {ps : List (Let × List Nat)} {vs : List V} (h : All2 (DuV X H) ps vs) : All2 (DuV X (upd H X (.lst zs))) ps vs := h.mono fun _ _ => DuV.put hX
def LtV (K : PySem.W.Frag) (H : Hp) (l : Let) (v : V) : Prop := ∃ a, v = .ref a ∧ yZ5 K H a l
theorem LtVs.imm {K : PySem.W.Frag} {H H' : Hp} (im : Imm H H') {ls : List Let} {xs : List V} (h : All2 (LtV K H) ls xs) : All2 (LtV K H') ls xs := h.mono fun _ _ ⟨a, e, q⟩ => ⟨a, e, q.imm im⟩
theorem LtVs.of {K : PySem.W.Frag} {H : Hp} : ∀ {ls : List Let} {xs : List V}, xU3 K H (ls.map letD) xs → All2 (LtV K H) ls xs
 | [], xs, h => by
  have h : xs = [] := by simpa only [List.map_nil, xU3] using h
  exact h
 | l :: ls, xs, h => by
  obtain ⟨x, r, e, h1, h2⟩ : ∃ x r, xs = x :: r ∧ RepD K H (letD l) x ∧ xU3 K H (ls.map letD) r := by simpa only [List.map_cons, xU3] using h
  exact ⟨x, r, e, xQ6.mp h1, LtVs.of h2⟩
def sntB (ss : List (Int × List Int)) (l : Let) : Bool := decide (xV4 l ≤ (ss.getD l.s (0, [])).2.getD l.s 0)
theorem getD_at {ss : List (Int × List Int)} {i : Nat} (h : i < ss.length) : ss.getD i (0, []) = ss[i] := by
 rw [List.getD_eq_getElem?_getD, List.getElem?_eq_getElem h]; rfl
theorem eqv_nil {xs : List Int} : PyData.eqv (.list (intD xs)) (.list []) = xs.isEmpty := by
 cases xs <;> simp [PyData.eqv, intD, PyData.eqvAll]
theorem lay_ints' : ∀ ns : List Int, PyData.canLayAll0 (intD ns) = true
 | [] => rfl
 | n :: ns => by
  show PyData.canLayAll0 (.int n :: intD ns) = true
  simp only [PyData.canLayAll0, PyData.canLay0, Bool.true_and]
  exact lay_ints' ns
def spWithout (K : PySem.W.Frag) : Sp := fun vs H Q _ => ∃ (a c : Addr) (l : Let) (ss : List (Int × List Int)) (us : List V), vs = [.ref a, .ref c] ∧ yZ5 K H a l ∧ l.s < l.st.length ∧ SqL K H c us ∧ All2 (StsV K H) ss us ∧ (∀ x ∈ ss, l.s < x.2.length) ∧ ss.length ≤ 1000 ∧ ∀ D H', Same H H' → H D = none → H' D = some (.lst (nums (nz (woV ss l)))) → Q (.ref D) H'
def spUnderWay (K : PySem.W.Frag) : Sp := fun vs H Q _ => ∃ (la c : Addr) (ls : List Let) (xs : List V) (ss : List (Int × List Int)) (us : List V), vs = [.ref la, .ref c] ∧ SqL K H la xs ∧ xU3 K H (ls.map letD) xs ∧ (∀ l ∈ ls, okLet ss.length l) ∧ ls.length ≤ 1000 ∧ SqL K H c us ∧ All2 (StsV K H) ss us ∧ (∀ x ∈ ss, x.2.length = ss.length) ∧ ss.length ≤ 1000 ∧ ∀ D ps H', Same H H' → H' D = some (.lst ps) → All2 (PuV H') (dueV ss ls) ps → Q (.ref D) H'
section
variable {P : Program} {w : World} {K : PySem.W.Frag} {mg : Str → Option Value} {base : Heap} {fN fT fTa fSe fWo : Addr}
theorem oWo : ownB ["letter", "cut"] (defScope sOfficesWithout) = true := by decide +kernel
theorem scWo : FnScope ["letter", "cut"] ["letter", "cut"] (defScope sOfficesWithout) := ⟨rfl, rfl, rfl, by decide +kernel, rfl, by decide +kernel, by decide +kernel⟩
theorem ok_without {f : Addr} {fd fdN fdT fdTa : FuncData} (F : Fun K "offices_without" "offices_without" sOfficesWithout f fd) (hrg : mg "range" = none) (hln : mg "len" = none) (mN : mg "name_of" = some (.ref fN)) (FN : Fun K "name_of" "name_of" sName fN fdN) (bN : Binds K fdN ["letter"] []) (mT : mg "is_there" = some (.ref fT)) (FT : Fun K "is_there" "is_there" sThere fT fdT) (bT : Binds K fdT ["name", "clock"] []) (mTa : mg "is_there_at" = some (.ref fTa)) (FTa : Fun K "is_there_at" "is_there_at" sIsThereAt fTa fdTa) (bTa : Binds K fdTa ["letter", "cut", "office"] []) : FnOk P w K mg base CX0 3 f fd ["letter", "cut"] (spWithout K) := by
 have GTa : FnOk P w K mg base CX0 2 fTa fdTa ["letter", "cut", "office"] (spThereAt K) := ok_there_at FTa mN FN bN mT FT bT
 refine okB (body := [stm sOfficesWithout 0]) F scWo (fun vs H Q E h => ?_) (by kernel_rfl) (fun cdv A0 outer s0 H vs Q E hr h => ?_)
 ·obtain ⟨a, c, l, ss, us, rfl, _⟩ := h
  rfl
 ·obtain ⟨a, c, l, ss, us, rfl, hl, hll, hc, hu, hx, hn, fin⟩ := h
  have hrT := hr
  refine ⟨_, (xU6 (xU1 (eC [1, 0] ["cut", "letter"] rfl (rng1 hrg (aC (cB (xV9 (X := _)) hln PySem.boot_len (aC (oV oWo 1) xU7)) xU7)) (fun _ _ _ _ _ => (vU6 (xW0 (xW8 (cF GTa hrT mTa FTa.kp bTa .nil xV1 (aC (sV 2) (aC (sV 1) (aC (sV 0) xU7)))))))) (fun _ _ _ _ _ => (sV 0))))), ?_⟩
  have ul := hu.len
  refine ⟨_, rfl, c, _, rfl, .inl hc, _, rfl, by omega, by omega, yW5 (n := ((us.length : Nat) : Int).toNat) (lo := 0) (fun D i ys H2 => Same H H2 ∧ H2 D = some (.lst ys) ∧ ys = nums (nz ((List.range i).filter fun u => !decide (xV4 l ≤ (ss.getD u (0, [])).2.getD l.s 0))))
   (fun D hD => ⟨xU4 hD, xU9, rfl⟩) (fun D i ys H2 hD _ h => h.2.1) (fun D i ys H2 hD hi h => ?_) (fun D ys H2 hD h => ?_)⟩
  ·obtain ⟨f1, f2, f3⟩ := h
   have hi' : i < ss.length := by rw [Int.toNat_natCast] at hi; omega
   have gx := List.getElem?_eq_getElem hi'
   have hxl := hx _ (List.getElem_mem hi')
   have yl : ys.length ≤ 1000 := by
    rw [f3, nz_len]
    exact Nat.le_trans flt_len (by omega)
   rw [show ((0 : Int) + (i : Int)) = (i : Int) from Int.zero_add _]
   refine ⟨_, rfl, _, rfl, _, rfl, a, c, l, ss, us, i, ss[i], rfl, hl.imm f1.imm, hll, f1.seq hc, StsVs.imm f1.imm hu, gx, hxl, fun H3 e3 => ⟨_, rfl, ?_⟩⟩
   by_cases z : xV4 l ≤ ss[i].2.getD l.s 0
   ·refine yY9 (by rw [decide_eq_true z]; rfl) ⟨f1.trans e3, e3 _ _ f2, ?_⟩
    rw [f3, flt_f (by rw [getD_at hi', decide_eq_true z]; rfl)]
   ·refine vU0 (by rw [decide_eq_false z]; rfl) ⟨_, rfl, e3 _ _ f2, xV0 (by omega), xW2 (f1.trans e3) hD, xU9, ?_⟩
    rw [f3, flt_t (by rw [getD_at hi', decide_eq_false z]; rfl)]
  ·obtain ⟨f1, f2, f3⟩ := h
   rw [Int.toNat_natCast, ul] at f3
   refine fin D H2 f1 hD ?_
   rw [f2, f3]; rfl
theorem oUy : ownB ["letters", "cut", "sent", "pairs"] (defScope sUnderWay) = true := by decide +kernel
theorem scUy : FnScope ["letters", "cut", "sent", "pairs"] ["letters", "cut"] (defScope sUnderWay) := ⟨rfl, rfl, rfl, by decide +kernel, rfl, by decide +kernel, by decide +kernel⟩
theorem ok_underway {f : Addr} {fd fdN fdT fdTa fdSe fdWo : FuncData} (F : Fun K "under_way" "under_way" sUnderWay f fd) (hrg : mg "range" = none) (hln : mg "len" = none) (mN : mg "name_of" = some (.ref fN)) (FN : Fun K "name_of" "name_of" sName fN fdN) (bN : Binds K fdN ["letter"] []) (mT : mg "is_there" = some (.ref fT)) (FT : Fun K "is_there" "is_there" sThere fT fdT) (bT : Binds K fdT ["name", "clock"] []) (mTa : mg "is_there_at" = some (.ref fTa)) (FTa : Fun K "is_there_at" "is_there_at" sIsThereAt fTa fdTa) (bTa : Binds K fdTa ["letter", "cut", "office"] []) (mSe : mg "is_sent" = some (.ref fSe)) (FSe : Fun K "is_sent" "is_sent" sIsSent fSe fdSe) (bSe : Binds K fdSe ["letter", "cut"] []) (mWo : mg "offices_without" = some (.ref fWo)) (FWo : Fun K "offices_without" "offices_without" sOfficesWithout fWo fdWo) (bWo : Binds K fdWo ["letter", "cut"] []) : FnOk P w K mg base CX0 4 f fd ["letters", "cut"] (spUnderWay K) := by
 have GN : FnOk P w K mg base CX0 1 fN fdN ["letter"] (yQ1 K) := vW7 FN
 have GSe : FnOk P w K mg base CX0 3 fSe fdSe ["letter", "cut"] (spIsSent K) := ok_is_sent FSe mN FN bN mT FT bT mTa FTa bTa
 have GWo : FnOk P w K mg base CX0 3 fWo fdWo ["letter", "cut"] (spWithout K) := ok_without FWo hrg hln mN FN bN mT FT bT mTa FTa bTa
 refine okB (body := [stm sUnderWay 0, stm sUnderWay 1, stm sUnderWay 2]) F scUy (fun vs H Q E h => ?_) (by kernel_rfl) (fun cdv A0 outer s0 H vs Q E hr h => ?_)
 ·obtain ⟨la, c, ls, xs, ss, us, rfl, _⟩ := h
  rfl
 ·obtain ⟨la, c, ls, xs, ss, us, rfl, h1, h2, ok, hn, hc, hu, hx, hs, fin⟩ := h
  have hr3 := hr
  have hr1 := hr.mono (by decide : 1 ≤ 3)
  refine ⟨_, (xU8 (oC oUy 2 [1] ["cut"] rfl (xY2 (oV oUy 0)) (fun _ _ _ _ _ => (vU6 (xW8 (cF GSe hr3 mSe FSe.kp bSe .nil xV1 (aC (sV 0) (aC (sV 1) xU7)))))) (fun _ _ _ _ _ => (sV 0)))
   (xU8 (oC oUy 3 [1] ["cut"] rfl (xY2 (oV oUy 2)) (fun _ _ _ _ _ => yZ2) (fun _ _ _ _ _ => (xZ6 (aC (cF GN hr1 mN FN.kp bN .nil xV1 (aC (sV 0) xU7)) (aC (cF GWo hr3 mWo FWo.kp bWo .nil xV1 (aC (sV 0) (aC (sV 1) xU7))) xU7)))))
   (xU6 (xU1 (eC [] [] rfl (xY2 (oV oUy 3)) (fun _ _ _ _ _ => (vU6 (xV7 (L8.neK K (vV6 hr)) (iX (ixT K) (sV 0) xU5) (xQ8 xU7) (xV5 _)))) (fun _ _ _ _ _ => (sV 0))))))), ?_⟩
  have hl := xW5 h2
  rw [List.length_map] at hl
  have h2 := LtVs.of h2
  refine ⟨_, rfl, la, rfl, ⟨_, h1⟩, yV2 (xs := xs) (fun D j zs H2 => Same H H2 ∧ H2 D = some (.lst zs) ∧ All2 (LtV K H2) ((ls.take j).filter (sntB ss)) zs)
   (fun D hD => ⟨xU4 hD, xU9, rfl⟩) (fun D j zs H2 hD hj h => ⟨h.2.1, h.1.seq h1⟩) (fun D j x zs H2 hD hj h => ?_) (fun lq zq H2 hD h => ?_)⟩
  ·obtain ⟨f1, f2, f3⟩ := h
   have hj' : j < ls.length := by have := (List.getElem?_eq_some_iff.mp hj).1; omega
   obtain ⟨x', gx, a, ex, La⟩ := h2.get (List.getElem?_eq_getElem hj')
   rw [hj] at gx
   cases gx
   subst ex
   have zl := f3.len
   have zl2 : ((ls.take j).filter (sntB ss)).length ≤ 1000 := Nat.le_trans (List.length_filter_le _ _) (by rw [List.length_take]; omega)
   obtain ⟨o1, o2, o3, o4⟩ := ok _ (List.getElem_mem hj')
   rw [xX7 (List.getElem?_eq_getElem hj'), List.filter_append]
   generalize ls[j] = l at La o1 o2
   have La := La.imm f1.imm
   have gs := List.getElem?_eq_getElem o1
   have hxl := hx _ (List.getElem_mem o1)
   refine ⟨_, rfl, _, rfl, a, c, l, ss, us, ss[l.s], rfl, La, by omega, f1.seq hc, StsVs.imm f1.imm hu, gs, by omega, fun H3 e3 => ⟨_, rfl, ?_⟩⟩
   by_cases z : xV4 l ≤ ss[l.s].2.getD l.s 0
   ·refine vU0 (decide_eq_true z) ⟨_, rfl, e3 _ _ f2, xV0 (by omega), xW2 (f1.trans e3) hD, xU9, ?_⟩
    rw [List.filter_cons_of_pos (by unfold sntB; rw [getD_at o1]; exact decide_eq_true z)]
    exact LtVs.imm (xX5 (e3 _ _ f2)) (All2.append (LtVs.imm e3.imm f3) (All2.one ⟨a, rfl, La.imm e3.imm⟩))
   ·refine yY9 (decide_eq_false z) ⟨f1.trans e3, e3 _ _ f2, ?_⟩
    rw [List.filter_cons_of_neg (by unfold sntB; rw [getD_at o1, decide_eq_false z]; exact Bool.false_ne_true), List.filter_nil, List.append_nil]
    exact LtVs.imm e3.imm f3
  ·obtain ⟨e2, hq, hzq⟩ := h
   rw [hl, List.take_length] at hzq
   have fin : ∀ D ps H', Same H H' → H' D = some (.lst ps) → All2 (PuV H') (((ls.filter (sntB ss)).map fun l => (l, woV ss l)).filter fun p => !p.2.isEmpty) ps → Q (.ref D) H' := fin
   have okq : ∀ l ∈ ls.filter (sntB ss), okLet ss.length l := fun l hl => ok l (List.mem_filter.mp hl).1
   have hnq : (ls.filter (sntB ss)).length ≤ 1000 := Nat.le_trans (List.length_filter_le _ _) hn
   generalize ls.filter (sntB ss) = qs at hzq fin okq hnq
   have zql := hzq.len
   refine ⟨_, rfl, lq, rfl, ⟨_, SqL.of hq⟩, yV2 (xs := zq) (fun D j zs H3 => Same H2 H3 ∧ H3 D = some (.lst zs) ∧ All2 (DuV D H3) ((qs.take j).map fun l => (l, woV ss l)) zs)
    (fun D hD => ⟨xU4 hD, xU9, rfl⟩) (fun D j zs H3 hD hj h => ⟨h.2.1, SqL.of (h.1 _ _ hq)⟩) (fun D j x zs H3 hD hj h => ?_) (fun lp zp H3 hD h => ?_)⟩
   ·obtain ⟨f1, f2, f3⟩ := h
    have hj' : j < qs.length := by have := (List.getElem?_eq_some_iff.mp hj).1; omega
    obtain ⟨x', gx, a, ex, La⟩ := hzq.get (List.getElem?_eq_getElem hj')
    rw [hj] at gx
    cases gx
    subst ex
    have zl := f3.len
    rw [List.length_map, List.length_take] at zl
    obtain ⟨o1, o2, o3, o4⟩ := okq _ (List.getElem_mem hj')
    rw [xX7 (List.getElem?_eq_getElem hj'), List.map_append]
    generalize qs[j] = l at La o1 o2
    have e3 := e2.trans f1
    have La := La.imm f1.imm
    refine ⟨_, rfl, a, l, rfl, La, by omega, fun t nt => ?_⟩
    have s1 := xU4 (o := .tup [.int l.s, .int (xV4 l)]) nt
    refine ⟨_, rfl, _, rfl, a, c, l, ss, us, rfl, La.imm s1.imm, by omega, (e3.trans s1).seq hc, StsVs.imm (e3.trans s1).imm hu, (fun x hx' => by have := hx x hx'; omega), hs, fun r H4 e4 nr hr4 => ?_⟩
    refine ⟨len2, fun pt npt => ?_⟩
    have s2 := xU4 (o := .tup [.ref t, .ref r]) npt
    have hD5 := s2 _ _ (e4 _ _ (s1 _ _ f2))
    have rD : r ≠ D := fun z => by rw [z, s1 _ _ f2] at nr; cases nr
    refine ⟨hD5, xV0 (by omega), xW2 (((f1.trans s1).trans e4).trans s2) hD, xU9, DuVs.put hD5 (All2.append (DuVs.same ((s1.trans e4).trans s2) f3) (All2.one ⟨pt, t, r, rfl, xU9, s2 _ _ (e4 _ _ xU9), s2 _ _ hr4, rD⟩))⟩
   ·obtain ⟨f1, hp, hzp⟩ := h
    rw [zql, List.take_length] at hzp
    have e3 := e2.trans f1
    have hnp : (qs.map fun l => (l, woV ss l)).length ≤ 1000 := by rw [List.length_map]; exact hnq
    have zpl := hzp.len
    generalize (qs.map fun l => (l, woV ss l)) = ps at hzp fin hnp zpl
    refine ⟨_, rfl, lp, rfl, ⟨_, SqL.of hp⟩, yV2 (xs := zp) (fun D j zs H4 => Same H3 H4 ∧ H4 D = some (.lst zs) ∧ All2 (DuV D H4) ((ps.take j).filter fun p => !p.2.isEmpty) zs)
     (fun D hD => ⟨xU4 hD, xU9, rfl⟩) (fun D j zs H4 hD hj h => ⟨h.2.1, SqL.of (h.1 _ _ hp)⟩) (fun D j x zs H4 hD hj h => ?_) (fun D zs H4 hD h => ?_)⟩
    ·obtain ⟨g1, g2, g3⟩ := h
     have hj' : j < ps.length := by have := (List.getElem?_eq_some_iff.mp hj).1; omega
     obtain ⟨x', gx, t, ct, r, ex, L1, L2, L3, L4⟩ := hzp.get (List.getElem?_eq_getElem hj')
     rw [hj] at gx
     cases gx
     subst ex
     have rD : r ≠ D := fun z => by rw [← z, L3] at hD; cases hD
     have zl := g3.len
     have zl2 : ((ps.take j).filter fun p => !p.2.isEmpty).length ≤ 1000 := Nat.le_trans (List.length_filter_le _ _) (by rw [List.length_take]; omega)
     rw [xX7 (List.getElem?_eq_getElem hj'), List.filter_append]
     generalize ps[j] = p at L1 L2 L3
     refine ⟨_, rfl, t, _, 1, _, rfl, rfl, SqT.of (g1 _ _ L1), rfl, len0, fun z nz' => ?_⟩
     have s1 := xU4 (o := .lst []) nz'
     have g4 := g1.trans s1
     refine ⟨.list (intD (nz p.2)), .list [], ?_, ?_, ?_, rfl, ?_, _, rfl, ?_⟩
     ·simp only [RepD]
      exact ⟨r, _, rfl, SqL.of (g4 _ _ L3), yV5.mpr rfl⟩
     ·simp only [RepD, xU3]
      exact ⟨z, _, rfl, SqL.of xU9, rfl⟩
     ·simp only [PyData.canLay0]; exact lay_ints' _
     ·exact Nat.le_trans (Nat.min_le_right _ _) (by decide)
     rw [eqv_nil]
     have he : (nz p.2).isEmpty = p.2.isEmpty := by unfold nz; rw [List.isEmpty_map]
     rw [he]
     have hD5 := s1 _ _ g2
     cases hb : p.2.isEmpty with
     | true =>
      refine yY9 rfl ⟨g4, hD5, ?_⟩
      rw [List.filter_cons_of_neg (by rw [hb]; exact Bool.false_ne_true), List.filter_nil, List.append_nil]
      exact DuVs.same s1 g3
     | false =>
      refine vU0 rfl ⟨_, rfl, hD5, xV0 (by omega), xW2 g4 hD, xU9, ?_⟩
      rw [List.filter_cons_of_pos (by rw [hb]; rfl)]
      exact DuVs.put hD5 (All2.append (DuVs.same s1 g3) (All2.one ⟨t, ct, r, rfl, g4 _ _ L1, g4 _ _ L2, g4 _ _ L3, rD⟩))
    ·obtain ⟨g1, g2, g3⟩ := h
     rw [zpl, List.take_length] at g3
     exact fin D zs H4 (e3.trans g1) g2 (g3.mono fun _ _ => DuV.pu)
end
end Of
end
section
seal L2.PE L2.PT L2.PW L2.PA L2.PS L2.PSs L2.PG L2.PGs L2.PI L3.PTs L2.PO L2.CallR L2.OpR L2.IxR L2.MtR L2.PSet L2.SlR
namespace Of
open PySem L2 L3 L4 L5 L6 L7
theorem upto_mid {m : Let} : ∀ {a b : List Let}, m ∉ a → upto m (a ++ m :: b) = a ++ [m]
 | [], b, _ => upto_self
 | x :: a, b, h => by
  rw [List.cons_append, upto_cons (fun z => h (by rw [z]; exact List.mem_cons_self)), upto_mid fun z => h (List.mem_cons_of_mem _ z)]; rfl
def spAhead (K : PySem.W.Frag) : Sp := fun vs H Q _ => ∃ (le b : Addr) (es : List Ev) (xe : List V) (u : Nat) (m : Let), vs = [.ref le, .int u, .ref b] ∧ SqL K H le xe ∧ All2 (EvV H) es xe ∧ H b = some (.tup [.int m.s, .int (xV4 m)]) ∧ Uni m es ∧ es.length ≤ 1000 ∧ (m ∈ knOf u es → ∀ D ys H', Same H H' → H D = none → H' D = some (.lst ys) → All2 (NmV H') (upto m (knOf u es)) ys → Q (.ref D) H') ∧ (m ∉ knOf u es → ∀ H', Same H H' → Q .non H')
section
variable {P : Program} {w : World} {K : PySem.W.Frag} {mg : Str → Option Value} {base : Heap} {fW fI fSo : Addr}
theorem oAh : ownB ["_law_events", "_law_own", "_law_name", "_law_found", "_law_event"] (defScope sAheadOfL) = true := by decide +kernel
theorem scAh : FnScope ["_law_events", "_law_own", "_law_name", "_law_found", "_law_event"] ["_law_events", "_law_own", "_law_name"] (defScope sAheadOfL) := ⟨rfl, rfl, rfl, by decide +kernel, rfl, by decide +kernel, by decide +kernel⟩
theorem ok_ahead {f : Addr} {fd : FuncData} (F : Fun K "_law_ahead_of" "_law_ahead_of" sAheadOfL f fd) : FnOk P w K mg base CX0 1 f fd ["_law_events", "_law_own", "_law_name"] (spAhead K) := by
 refine okB (body := [stm sAheadOfL 0, stm sAheadOfL 1, stm sAheadOfL 2]) F scAh (fun vs H Q E h => ?_) (by kernel_rfl) (fun cdv A0 outer s0 H vs Q E hr h => ?_)
 ·obtain ⟨le, b, es, xe, u, m, rfl, _⟩ := h
  rfl
 ·obtain ⟨le, b, es, xe, u, m, rfl, hle, hxe, hb, U, hel, kQ, kN⟩ := h
  refine ⟨_, (xU8 (oS oAh 3 (xQ8 xU7))
   (xU8 (xQ0 PassesOwn.never rfl (xY2 (oV oAh 0)) (oT oAh 4)
    (xU6 (xW4 (xV7 yX0 (iX (ixT K) (oV oAh 4) xU5) (oV oAh 1) (xV5 _))
     (xU8 (xQ9 (mApp (oV oAh 3) (iX (ixT K) (oV oAh 4) xU5)))
     (xU6 (xW4 (xV7 (op_eqD (n := 10) (vV6 hr)) (iX (ixT K) (oV oAh 4) xU5) (oV oAh 2) (xV5 _))
      (xU6 (xU1 (oV oAh 3)))
      xV8)))
     xV8)))
   (xU6 (xU1 yZ1)))), ?_⟩
  have xl := hxe.len
  refine ⟨len0, fun lf nf => ?_⟩
  have s1 := xU4 (o := .lst []) nf
  refine ⟨_, rfl, le, rfl, ⟨_, s1.seq hle⟩, yU7 (K := K) (a := le) (xs := xe) (fun i σ Hc => ∃ (v4 : Option V) (ys : List V), σ = [some (.ref le), some (.int u), some (.ref b), some (.ref lf), v4] ∧ Same H Hc ∧ Hc lf = some (.lst ys) ∧ All2 (NmV Hc) (knOf u (es.take i)) ys ∧ m ∉ knOf u (es.take i)) ⟨none, [], rfl, s1, xU9, rfl, no_kn⟩ (fun i σ Hc _ h => by obtain ⟨_, _, _, e, _⟩ := h; exact e.seq hle) ?_ ?_⟩
  ·rintro i y σ Hc hi ⟨v4, ys, rfl, e, hlf, hys, hno⟩
   have hi' : i < es.length := by have := (List.getElem?_eq_some_iff.mp hi).1; omega
   have gi := List.getElem?_eq_getElem hi'
   obtain ⟨x', hx', be, ce, ex, L1, L2⟩ := hxe.get gi
   rw [hi] at hx'
   cases hx'
   subst ex
   have hq := uni_eq U (List.getElem_mem hi')
   have hat := fun hu => kn_at (u := u) gi hu
   have hin := fun hu hl => kn_in (m := m) (u := u) gi hu hl
   have yl := hys.len
   have kl := kn_len (u := u) (i := i) (es := es)
   rw [xX7 gi, xX0, yV6]
   generalize es[i] = ev at L1 L2 hq hat hin
   have L1 := e _ _ L1
   have L2 := e _ _ L2
   refine ⟨_, rfl, be, _, 1, _, rfl, rfl, SqT.of L1, rfl, _, rfl, rfl, _, rfl, ?_⟩
   by_cases hu : ev.u = u
   ·refine vU0 (decide_eq_true (by rw [hu])) ?_
    rw [if_pos hu]
    refine ⟨_, rfl, .inl ⟨rfl, _, SqL.of hlf⟩, _, rfl, be, _, 2, _, rfl, rfl, SqT.of L1, rfl, lf, ys, .ref ce, rfl, rfl, hlf, xV0 (by omega), ?_⟩
    have i5 := xX5 (ys := ys ++ [.ref ce]) hlf
    have e5 := xW2 (o := .lst (ys ++ [.ref ce])) e nf
    have hys5 : All2 (NmV (upd Hc lf (.lst (ys ++ [.ref ce])))) (knOf u (es.take i) ++ [ev.l]) (ys ++ [.ref ce]) := NmVs.imm i5 (All2.append hys (All2.one ⟨ce, rfl, L2⟩))
    refine ⟨_, rfl, be, _, 2, _, rfl, rfl, SqT.of (i5.tup _ _ L1), rfl, _, rfl, xW6 ev.l, xW6 m, NmV.rep ⟨ce, rfl, i5.tup _ _ L2⟩, NmV.rep ⟨b, rfl, e5 _ _ hb⟩, rfl, rfl, Nat.le_trans (Nat.min_le_right _ _) (yW6 m), _, rfl, ?_⟩
    by_cases hl : ev.l = m
    ·refine vU0 (by rw [hq]; exact decide_eq_true hl) ?_
     refine ⟨_, rfl, kQ (hin hu hl) lf (ys ++ [.ref ce]) _ e5 nf xU9 ?_⟩
     rw [hat hu, hl, upto_mid hno, ← hl]
     exact hys5
    ·refine yY9 (by rw [hq]; exact decide_eq_false hl) ?_
     refine ⟨some (.ref be), ys ++ [.ref ce], rfl, e5, xU9, hys5, fun z => ?_⟩
     rcases List.mem_append.mp z with z | z
     ·exact hno z
     ·exact hl (by simpa using z : m = ev.l).symm
   ·refine yY9 (decide_eq_false fun z => hu (by have := V.int.inj z; omega)) ?_
    rw [if_neg hu, List.append_nil]
    exact ⟨some (.ref be), ys, rfl, e, hlf, hys, hno⟩
  ·rintro σ Hc ⟨v4, ys, rfl, e, hlf, hys, hno⟩
   rw [xl, List.take_length] at hno
   exact kN hno Hc e
end
theorem depth_du (p : Let × List Nat) : (duD p).depth < 8 := by
 have := vW3 (nz p.2)
 simp only [duD, xW6, nmD, PyData.depth, PyData.depthAll]
 omega
theorem wide_ints : ∀ xs : List Int, yU3 1000 (intD xs)
 | [] => trivial
 | x :: xs => ⟨trivial, wide_ints xs⟩
theorem wide_du {p : Let × List Nat} (h : p.2.length ≤ 1000) : vX2 1000 (duD p) := by
 have := wide_ints (nz p.2)
 simp only [duD, xW6, nmD, vX2, yU3]
 exact ⟨by show 2 ≤ 1000; decide, ⟨by show 2 ≤ 1000; decide, trivial, trivial, trivial⟩, ⟨by unfold nz intD; rw [List.length_map, List.length_map]; exact h, this⟩, trivial⟩
def spIsWay (K : PySem.W.Frag) : Sp := fun vs H Q _ => ∃ (lf ld : Addr) (xs ys : List V) (ps : List (Let × List Nat)) (n : Nat), vs = [.ref lf, .ref ld, .int n] ∧ SqL K H lf xs ∧ All2 (PuV H) ps xs ∧ SqL K H ld ys ∧ All2 (PuV H) ps ys ∧ (∀ p ∈ ps, p.1.s < n ∧ 0 < xV4 p.1 ∧ p.2.length ≤ 1000) ∧ ps.length ≤ 1000 ∧ ∀ H', Same H H' → Q (.bl true) H'
section
variable {P : Program} {w : World} {K : PySem.W.Frag} {mg : Str → Option Value} {base : Heap} {fW fI fSo : Addr}
theorem oIwy : ownB ["_law_found", "_law_due", "_law_count", "_law_k", "_law_own"] (defScope sIsWayL) = true := by decide +kernel
theorem scIwy : FnScope ["_law_found", "_law_due", "_law_count", "_law_k", "_law_own"] ["_law_found", "_law_due", "_law_count"] (defScope sIsWayL) := ⟨rfl, rfl, rfl, by decide +kernel, rfl, by decide +kernel, by decide +kernel⟩
theorem ok_is_way {f : Addr} {fd fdW fdI fdSo : FuncData} (F : Fun K "_law_is_way" "_law_is_way" sIsWayL f fd) (T : Bts mg) (mW : mg "_law_whole" = some (.ref fW)) (FW : Fun K "_law_whole" "_law_whole" sWhole fW fdW) (bW : Binds K fdW ["_law_found"] []) (mI : mg "_law_is_name" = some (.ref fI)) (FI : Fun K "_law_is_name" "_law_is_name" sIsName fI fdI) (bI : Binds K fdI ["_law_found", "_law_count"] [])
  (mSo : mg "_law_so" = some (.ref fSo)) (FSo : Fun K "_law_so" "_law_so" sSo fSo fdSo) (bSo : Binds K fdSo ["_law_found", "_law_meant"] []) (GSo : FnOk P w K mg base CX0 8 fSo fdSo ["_law_found", "_law_meant"] (spSo K 8)) : FnOk P w K mg base CX0 9 f fd ["_law_found", "_law_due", "_law_count"] (spIsWay K) := by
 have GW : FnOk P w K mg base CX0 1 fW fdW ["_law_found"] (vU7 K) := yQ6 FW T
 have GI : FnOk P w K mg base CX0 2 fI fdI ["_law_found", "_law_count"] (spIsName K) := ok_isname FI T mW FW bW
 refine okB (body := [stm sIsWayL 0, stm sIsWayL 1, stm sIsWayL 2]) F scIwy (fun vs H Q E h => ?_) (by kernel_rfl) (fun cdv A0 outer s0 H vs Q E hr h => ?_)
 ·obtain ⟨lf, ld, xs, ys, ps, n, rfl, _⟩ := h
  rfl
 ·obtain ⟨lf, ld, xs, ys, ps, n, rfl, hf, hxs, hd, hys, ok, hn, fin⟩ := h
  have hr1 := hr.mono (by decide : 1 ≤ 8)
  have hr2 := hr.mono (by decide : 2 ≤ 8)
  refine ⟨_, (xU8 (xW4 (PW.pt (xQ1 (xW0 (xW8 (cB yW2 T.isinstance xV3 (aC (oV oIwy 0) (aC (nT T.list xY5) xU7))))) (xZ1 (xV7 yX1 (cB (xV9 (X := _)) T.len PySem.boot_len (aC (oV oIwy 0) xU7)) (cB (xV9 (X := _)) T.len PySem.boot_len (aC (oV oIwy 1) xU7)) (xV5 _)))))
    (xU6 (xU1 xY1))
    xV8)
   (xU8 (xQ0 PassesOwn.never rfl (rng1 T.range (aC (cB (xV9 (X := _)) T.len PySem.boot_len (aC (oV oIwy 1) xU7)) xU7)) (oT oIwy 3)
    (xU8 (xW4 (PW.pt (xQ1 (xW0 (xW8 (cB yU5 T.isinstance xV3 (aC (iX (ixL K) (oV oIwy 0) (oV oIwy 3)) (aC (nT T.tuple yU4) xU7))))) (xZ1 (xV7 yX1 (cB (xV9 (X := _)) T.len PySem.boot_len (aC (iX (ixL K) (oV oIwy 0) (oV oIwy 3)) xU7)) xU5 (xV5 _)))))
     (xU6 (xU1 xY1))
     xV8)
    (xU8 (xW4 (PW.pt (xQ1 (xW0 (xW8 (cF GI hr2 mI FI.kp bI .nil xV1 (aC (iX (ixT K) (iX (ixL K) (oV oIwy 0) (oV oIwy 3)) xU5) (aC (oV oIwy 2) xU7))))) (xZ1 (xW0 (xW8 (cB yW2 T.isinstance xV3 (aC (iX (ixT K) (iX (ixL K) (oV oIwy 0) (oV oIwy 3)) xU5) (aC (nT T.list xY5) xU7))))))))
     (xU6 (xU1 xY1))
     xV8)
    (xU8 (xQ0 PassesOwn.never rfl (xY2 (iX (ixT K) (iX (ixL K) (oV oIwy 0) (oV oIwy 3)) xU5)) (oT oIwy 4)
     (xU6 (xW4 (xW0 (xW8 (cF GW hr1 mW FW.kp bW .nil xV1 (aC (oV oIwy 4) xU7))))
      (xU6 (xU1 xY1))
      xV8)))
    (xU6 (xW4 (xW0 (xW8 (cF GSo hr mSo FSo.kp bSo .nil xV1 (aC (iX (ixL K) (oV oIwy 0) (oV oIwy 3)) (aC (iX (ixL K) (oV oIwy 1) (oV oIwy 3)) xU7)))))
     (xU6 (xU1 xY1))
     xV8))))))
   (xU6 (xU1 xY1)))), ?_⟩
  have xl := hxs.len
  have yl := hys.len
  refine ⟨_, rfl, lf, _, _, _, rfl, hf, yQ4, _, rfl, iteF ?_⟩
  refine ⟨_, rfl, lf, _, rfl, .inl hf, _, rfl, ld, _, rfl, .inl hd, rfl, _, rfl, ?_⟩
  refine yY9 (by rw [decide_eq_true (show V.int ((xs.length : Nat) : Int) = V.int ((ys.length : Nat) : Int) by rw [xl, yl])]; rfl) ?_
  refine ⟨_, rfl, ld, _, rfl, .inl hd, _, rfl, by omega, by omega, yY8 (n := ((ys.length : Nat) : Int).toNat) (lo := 0) (fun i σ Hc => ∃ (v3 v4 : Option V), σ = [some (.ref lf), some (.ref ld), some (.int n), v3, v4] ∧ Same H Hc) ⟨none, none, rfl, Same.refl H⟩ ?_ ?_⟩
  ·rintro i σ Hc hi ⟨v3, v4, rfl, e⟩
   have hi' : i < ps.length := by rw [Int.toNat_natCast] at hi; omega
   have gp := List.getElem?_eq_getElem hi'
   obtain ⟨x, gx, hx⟩ := hxs.get gp
   obtain ⟨y, gy, hy⟩ := hys.get gp
   obtain ⟨o1, o2, o3⟩ := ok _ (List.getElem_mem hi')
   have hx := PuV.same e hx
   have hy := PuV.same e hy
   have hf' := e.seq hf
   have hd' := e.seq hd
   rw [show ((0 : Int) + (i : Int)) = (i : Int) from Int.zero_add _]
   generalize ps[i] = p at hx hy o1 o2 o3
   obtain ⟨t, c, r, rfl, q1, q2, q3⟩ := id hx
   have q1 : SqT K Hc t [.ref c, .ref r] := SqT.of q1
   have q2 : SqT K Hc c [.int p.1.s, .int (xV4 p.1)] := SqT.of q2
   have q3 : SqL K Hc r (nums (nz p.2)) := SqL.of q3
   refine ⟨_, rfl, _, rfl, lf, _, _, .ref t, rfl, rfl, hf', xW7 gx, t, _, _, _, rfl, q1, yU8, _, rfl, iteF ?_⟩
   refine ⟨_, rfl, _, rfl, lf, _, _, .ref t, rfl, rfl, hf', xW7 gx, t, _, rfl, .inr q1, rfl, _, rfl, ?_⟩
   refine iteNS rfl ?_
   refine ⟨_, rfl, _, rfl, lf, _, _, .ref t, rfl, rfl, hf', xW7 gx, t, _, 0, _, rfl, rfl, q1, rfl, _, rfl, c, _, _, _, rfl, q2, Int.natCast_nonneg _, by omega, o2, _, rfl, iteF ?_⟩
   refine ⟨_, rfl, _, rfl, lf, _, _, .ref t, rfl, rfl, hf', xW7 gx, t, _, 1, _, rfl, rfl, q1, rfl, r, _, _, _, rfl, q3, yQ4, _, rfl, iteF ?_⟩
   refine ⟨_, rfl, _, rfl, lf, _, _, .ref t, rfl, rfl, hf', xW7 gx, t, _, 1, _, rfl, rfl, q1, rfl, r, rfl, ⟨_, q3⟩, yU7 (K := K) (a := r) (xs := nums (nz p.2)) (fun j σ H2 => ∃ (v4 : Option V), σ = [some (.ref lf), some (.ref ld), some (.int n), some (.int (i : Int)), v4] ∧ H2 = Hc) ⟨v4, rfl, rfl⟩ (fun j σ H2 _ h => by obtain ⟨_, _, e⟩ := h; rw [e]; exact q3) ?_ ?_⟩
   ·rintro j z σ H2 hj ⟨v4, rfl, rfl⟩
    have hj' : j < (nz p.2).length := by have := (List.getElem?_eq_some_iff.mp hj).1; rwa [List.length_map] at this
    rw [xZ2 hj'] at hj
    cases hj
    exact ⟨_, rfl, _, rfl, _, rfl, iteF ⟨_, rfl, rfl⟩⟩
   ·rintro σ H2 ⟨v4, rfl, rfl⟩
    refine ⟨_, rfl, _, rfl, lf, _, _, .ref t, rfl, rfl, hf', xW7 gx, _, rfl, _, rfl, ld, _, _, y, rfl, rfl, hd', xW7 gy, .ref t, y, duD p, rfl, PuV.rep hx, PuV.rep hy, depth_du p, wide_du o3, fun H3 e3 => ⟨_, rfl, iteF ?_⟩⟩
    exact ⟨_, _, rfl, e.trans e3⟩
  ·rintro σ Hc ⟨v3, v4, rfl, e⟩
   exact fin _ e
end
end Of
end
section
seal L2.PE L2.PT L2.PW L2.PA L2.PS L2.PSs L2.PG L2.PGs L2.PI L3.PTs L2.PO L2.CallR L2.OpR L2.IxR L2.MtR L2.PSet L2.SlR
namespace Of
open PySem L2 L3 L4 L5 L6 L7
theorem all2_of {α : Type} {R : α → V → Prop} : ∀ {as : List α} {xs : List V}, xs.length = as.length → (∀ (i : Nat) a x, as[i]? = some a → xs[i]? = some x → R a x) → All2 R as xs
 | [], xs, h, _ => by
  have : xs = [] := List.eq_nil_of_length_eq_zero h
  exact this
 | a :: as, [], h, _ => by simp at h
 | a :: as, x :: xs, h, k => ⟨x, xs, rfl, k 0 a x rfl rfl, all2_of (by simpa using h) fun i a' x' h1 h2 => k (i + 1) a' x' (by simpa using h1) (by simpa using h2)⟩
theorem depth_evs : ∀ X : List Ev, PyData.depthAll (X.map evD) ≤ 3
 | [] => by decide
 | e :: X => by
  simp only [List.map_cons, PyData.depthAll]
  refine Nat.max_le.mpr ⟨?_, depth_evs X⟩
  simp [evD, xW6, nmD, PyData.depth, PyData.depthAll]
theorem wide_evs : ∀ X : List Ev, yU3 1000 (X.map evD)
 | [] => trivial
 | e :: X => by
  simp only [List.map_cons, yU3]
  refine ⟨?_, wide_evs X⟩
  simp only [evD, xW6, nmD, vX2, yU3]
  exact ⟨by show 3 ≤ 1000; decide, trivial, trivial, ⟨by show 2 ≤ 1000; decide, trivial, trivial, trivial⟩, trivial⟩
theorem ev_sent {n : Nat} {es : List Ev} (g : Good n (xY3 n) [] es) : ∀ e ∈ es, e.l ∈ xV6 es := fun e he => by
 refine (vV3 g (good_u g e he)).2 e.l ?_
 unfold knOf
 exact List.mem_map.mpr ⟨e, List.mem_filter.mpr ⟨he, by simp⟩, rfl⟩
theorem mail_of {n : Nat} {es : List Ev} (g : Good n (xY3 n) [] es) : Mail n (xV6 es) := by
 have M := (KW.at_ g es.length).ml
 rw [List.take_length] at M
 exact M
def ksOf (n : Nat) (c0 : Int) (es : List Ev) : List (List (Let × Int × List Int)) := (List.range n).map fun u => kpE n c0 u [] (knOf u es)
theorem ks_len {n : Nat} {c0 : Int} {es : List Ev} : (ksOf n c0 es).length = n := by unfold ksOf; rw [List.length_map, List.length_range]
theorem ks_get {n u : Nat} {c0 : Int} {es : List Ev} (h : u < n) : (ksOf n c0 es)[u]? = some (kpE n c0 u [] (knOf u es)) := by
 unfold ksOf; rw [List.getElem?_map, List.getElem?_range h]; rfl
def KpW (K : PySem.W.Frag) (H : Hp) (k : List (Let × Int × List Int)) (v : V) : Prop := ∃ lk ks, v = .ref lk ∧ H lk = some (.lst ks) ∧ xU3 K H (k.map kpD) ks
theorem KpW.same {K : PySem.W.Frag} {H H' : Hp} (e : Same H H') {k : List (Let × Int × List Int)} {v : V} : KpW K H k v → KpW K H' k v
 | ⟨lk, ks, e1, h1, h2⟩ => ⟨lk, ks, e1, e _ _ h1, xU3.same e _ _ h2⟩
def osOf (n : Nat) (c0 : Int) (m : Let) (es : List Ev) : List (Option (Int × List Int)) := (List.range n).map fun u => if m ∈ knOf u es then some (stO n c0 m es u) else none
theorem os_len {n : Nat} {c0 : Int} {m : Let} {es : List Ev} : (osOf n c0 m es).length = n := by unfold osOf; rw [List.length_map, List.length_range]
theorem kp_o {n u : Nat} {c0 : Int} {m : Let} {es : List Ev} (g : Good n (xY3 n) [] es) (hu : u < n) (hs : m ∈ xV6 es) (hw : m.w = .cut) : KpO m (if m ∈ knOf u es then some (stO n c0 m es u) else none) (kpE n c0 u [] (knOf u es)) := by
 by_cases h : m ∈ knOf u es
 ·rw [if_pos h]; exact kp_at g hu h hw
 ·rw [if_neg h]
  rintro y hy ⟨z1, z2⟩
  have hy := kpE_mem hy
  exact h ((mail_of g).inj ((vV3 g hu).2 _ hy) hs z1 z2 ▸ hy)
theorem os_at {K : PySem.W.Frag} {H : Hp} {n : Nat} {c0 : Int} {m : Let} {es : List Ev} {ys : List V} (g : Good n (xY3 n) [] es) (hs : m ∈ xV6 es) (hw : m.w = .cut) (h : All2 (KpW K H) (ksOf n c0 es) ys) : All2 (KpAtO K H m) (osOf n c0 m es) ys := by
 have yl := h.len
 rw [ks_len] at yl
 refine all2_of (by rw [os_len, yl]) fun i x v hx hv => ?_
 have hi : i < n := by have := (List.getElem?_eq_some_iff.mp hv).1; omega
 unfold osOf at hx
 rw [List.getElem?_map, List.getElem?_range hi] at hx
 cases hx
 obtain ⟨v', gv, lk, ks, e, h1, h2⟩ := h.get (ks_get hi)
 rw [hv] at gv
 cases gv
 exact ⟨lk, ks, _, e, h1, h2, kp_o g hi hs hw⟩
theorem os_all {n : Nat} {c0 : Int} {m : Let} {es : List Ev} (hm : ∀ u, u < n → m ∈ knOf u es) {ss : List (Int × List Int)} (h : osOf n c0 m es = ss.map some) : ss = sts n c0 m es := by
 have h2 : osOf n c0 m es = (sts n c0 m es).map some := by
  unfold osOf sts
  rw [List.map_map]
  refine List.map_congr_left fun u hu => ?_
  rw [if_pos (hm u (List.mem_range.mp hu))]; rfl
 rw [h2] at h
 exact ((List.map_inj_right fun _ _ => Option.some.inj).mp h).symm
theorem os_none {n u : Nat} {c0 : Int} {m : Let} {es : List Ev} (hu : u < n) (h : m ∉ knOf u es) : none ∈ osOf n c0 m es := by
 unfold osOf
 exact List.mem_map.mpr ⟨u, List.mem_range.mpr hu, by rw [if_neg h]⟩
theorem os_some {n : Nat} {c0 : Int} {m : Let} {es : List Ev} (hm : ∀ u, u < n → m ∈ knOf u es) : none ∉ osOf n c0 m es := fun h => by
 unfold osOf at h
 obtain ⟨u, hu, e⟩ := List.mem_map.mp h
 rw [if_pos (hm u (List.mem_range.mp hu))] at e
 cases e
def haD (ks : List (List (Let × Int × List Int))) (es : List Ev) : PyData := .list [.list (ks.map fun k => .list (k.map kpD)), .list (es.map evD)]
theorem rep_ha {K : PySem.W.Frag} {H : Hp} {lz a b : Addr} {xk xe : List V} {ks : List (List (Let × Int × List Int))} {es : List Ev} (hz : H lz = some (.lst [.ref a, .ref b])) (ha : SqL K H a xk) (hb : SqL K H b xe) (h1 : All2 (KpW K H) ks xk) (h2 : All2 (EvV H) es xe) : RepD K H (haD ks es) (.ref lz) := by
 have h1 : xU3 K H (ks.map fun k => .list (k.map kpD)) xk := All2.reps (f := fun k => PyData.list (k.map kpD)) (fun k v ⟨lk, kv, e, q1, q2⟩ => by simp only [RepD]; exact ⟨lk, kv, e, SqL.of q1, q2⟩) h1
 have h2 : xU3 K H (es.map evD) xe := EvVs.reps h2
 unfold haD
 simp only [RepD, xU3]
 exact ⟨lz, _, rfl, SqL.of hz, _, _, rfl, ⟨a, xk, rfl, ha, h1⟩, _, _, rfl, ⟨b, xe, rfl, hb, h2⟩, rfl⟩
theorem depth_kp : ∀ k : List (Let × Int × List Int), PyData.depthAll (k.map kpD) ≤ 3
 | [] => by decide
 | x :: k => by
  simp only [List.map_cons, PyData.depthAll]
  refine Nat.max_le.mpr ⟨?_, depth_kp k⟩
  have := vW3 x.2.2
  simp only [kpD, vU1, xW6, nmD, PyData.depth, PyData.depthAll]
  omega
theorem depth_kps : ∀ ks : List (List (Let × Int × List Int)), PyData.depthAll (ks.map fun k => .list (k.map kpD)) ≤ 4
 | [] => by decide
 | k :: ks => by
  simp only [List.map_cons, PyData.depthAll]
  refine Nat.max_le.mpr ⟨?_, depth_kps ks⟩
  have := depth_kp k
  simp only [PyData.depth]
  omega
theorem depth_ha {ks : List (List (Let × Int × List Int))} {es : List Ev} : (haD ks es).depth < 8 := by
 have := depth_kps ks
 have := depth_evs es
 simp only [haD, PyData.depth, PyData.depthAll]
 omega
theorem kpE_clk {n u : Nat} {c0 : Int} : ∀ {ls pre : List Let} {x : Let × Int × List Int}, x ∈ kpE n c0 u pre ls → x.2.2.length = n
 | [], pre, x, h => nomatch h
 | l :: ls, pre, x, h => by
  simp only [kpE] at h
  rcases List.mem_append.mp h with z | z
  ·by_cases hc : l.w = .cut
   ·rw [if_pos hc] at z
    have : x = (l, c0 + sumF (val u) (pre ++ [l]), clk n (pre ++ [l])) := by simpa using z
    rw [this]; exact clk_len
   ·rw [if_neg hc] at z; exact nomatch z
  ·exact kpE_clk z
theorem kpE_len {n u : Nat} {c0 : Int} : ∀ {ls pre : List Let}, (kpE n c0 u pre ls).length ≤ ls.length
 | [], pre => Nat.le_refl _
 | l :: ls, pre => by
  simp only [kpE, List.length_append, List.length_cons]
  have := kpE_len (n := n) (u := u) (c0 := c0) (ls := ls) (pre := pre ++ [l])
  split
  ·simp only [List.length_cons, List.length_nil]; omega
  ·simp only [List.length_nil]; omega
theorem wide_kp : ∀ {k : List (Let × Int × List Int)}, (∀ x ∈ k, x.2.2.length ≤ 1000) → yU3 1000 (k.map kpD)
 | [], _ => trivial
 | x :: k, h => by
  simp only [List.map_cons, yU3]
  refine ⟨?_, wide_kp fun y hy => h y (List.mem_cons_of_mem _ hy)⟩
  have h1 := h x List.mem_cons_self
  have h2 := wide_ints x.2.2
  simp only [kpD, vU1, xW6, nmD, vX2, yU3]
  exact ⟨by show 3 ≤ 1000; decide, ⟨by show 2 ≤ 1000; decide, trivial, trivial, trivial⟩, trivial, ⟨by unfold intD; rw [List.length_map]; exact h1, h2⟩, trivial⟩
theorem wide_kps : ∀ {ks : List (List (Let × Int × List Int))}, (∀ k ∈ ks, k.length ≤ 1000 ∧ ∀ x ∈ k, x.2.2.length ≤ 1000) → yU3 1000 (ks.map fun k => .list (k.map kpD))
 | [], _ => trivial
 | k :: ks, h => by
  simp only [List.map_cons, yU3]
  refine ⟨?_, wide_kps fun y hy => h y (List.mem_cons_of_mem _ hy)⟩
  obtain ⟨h1, h2⟩ := h k List.mem_cons_self
  have h2 := wide_kp h2
  simp only [vX2]
  exact ⟨by rw [List.length_map]; exact h1, h2⟩
theorem wide_ha {n : Nat} {c0 : Int} {es : List Ev} (hn : n ≤ 1000) (he : es.length ≤ 1000) : vX2 1000 (haD (ksOf n c0 es) es) := by
 have h1 : yU3 1000 ((ksOf n c0 es).map fun k => .list (k.map kpD)) := wide_kps fun k hk => by
  unfold ksOf at hk
  obtain ⟨u, hu, rfl⟩ := List.mem_map.mp hk
  refine ⟨Nat.le_trans kpE_len ?_, fun x hx => by rw [kpE_clk hx]; exact hn⟩
  have := kn_len (u := u) (i := es.length) (es := es)
  rw [List.take_length] at this
  omega
 have h2 := wide_evs es
 simp only [haD, vX2, yU3]
 exact ⟨by show 2 ≤ 1000; decide, ⟨by rw [List.length_map, ks_len]; exact hn, h1⟩, ⟨by rw [List.length_map]; exact he, h2⟩, trivial⟩
def ahD (m : Let) (es : List Ev) (k : Nat) : PyData := if m ∈ knOf k es then .list ((upto m (knOf k es)).map xW6) else .none
def AhV (X : Addr) (H : Hp) (m : Let) (es : List Ev) (k : Nat) (v : V) : Prop := (m ∈ knOf k es ∧ ∃ D ys, v = .ref D ∧ H D = some (.lst ys) ∧ All2 (NmV H) (upto m (knOf k es)) ys ∧ D ≠ X) ∨ (m ∉ knOf k es ∧ v = .non)
theorem AhVs.same {X : Addr} {H H' : Hp} {m : Let} {es : List Ev} (e : Same H H') {ks : List Nat} {vs : List V} (h : All2 (AhV X H m es) ks vs) : All2 (AhV X H' m es) ks vs := h.mono fun _ _ q => by
 rcases q with ⟨h1, D, ys, e1, h2, h3, h4⟩ | ⟨h1, e1⟩
 ·exact .inl ⟨h1, D, ys, e1, e _ _ h2, NmVs.imm e.imm h3, h4⟩
 ·exact .inr ⟨h1, e1⟩
theorem AhVs.put {X : Addr} {H : Hp} {m : Let} {es : List Ev} {zs ws : List V} (hX : H X = some (.lst zs)) {ks : List Nat} {vs : List V} (h : All2 (AhV X H m es) ks vs) : All2 (AhV X (upd H X (.lst ws)) m es) ks vs := h.mono fun _ _ q => by
 rcases q with ⟨h1, D, ys, e1, h2, h3, h4⟩ | ⟨h1, e1⟩
 ·exact .inl ⟨h1, D, ys, e1, (xU2 h4).trans h2, NmVs.imm (xX5 hX) h3, h4⟩
 ·exact .inr ⟨h1, e1⟩
theorem AhV.rep {K : PySem.W.Frag} {X : Addr} {H : Hp} {m : Let} {es : List Ev} {k : Nat} {v : V} (h : AhV X H m es k v) : RepD K H (ahD m es k) v := by
 unfold ahD
 rcases h with ⟨h1, D, ys, rfl, h2, h3, h4⟩ | ⟨h1, rfl⟩
 ·rw [if_pos h1]; exact rep_names h2 h3
 ·rw [if_neg h1]; simp only [RepD]
theorem lay_nms : ∀ ls : List Let, PyData.canLayAll0 (ls.map xW6) = true
 | [] => rfl
 | l :: ls => by
  simp only [List.map_cons, PyData.canLayAll0, lay_nms ls, Bool.and_true]
  simp [xW6, nmD, PyData.canLay0, PyData.canLayAll0]
theorem lay_ah {m : Let} {es : List Ev} : ∀ ks : List Nat, PyData.canLayAll0 (ks.map (ahD m es)) = true
 | [] => rfl
 | k :: ks => by
  simp only [List.map_cons, PyData.canLayAll0, lay_ah ks, Bool.and_true]
  unfold ahD
  split
  ·simp only [PyData.canLay0]; exact lay_nms _
  ·rfl
theorem any_non {m : Let} {es : List Ev} {n u : Nat} (hu : u < n) (h : m ∉ knOf u es) : (((List.range n).map (ahD m es)).any fun y => PyData.eqv y .none) = true := by
 rw [List.any_eq_true]
 refine ⟨.none, List.mem_map.mpr ⟨u, List.mem_range.mpr hu, by unfold ahD; rw [if_neg h]⟩, ?_⟩
 simp [PyData.eqv]
theorem any_not {m : Let} {es : List Ev} {n : Nat} (h : ∀ u, u < n → m ∈ knOf u es) : (((List.range n).map (ahD m es)).any fun y => PyData.eqv y .none) = false := by
 rw [List.any_eq_false]
 intro y hy
 obtain ⟨u, hu, rfl⟩ := List.mem_map.mp hy
 unfold ahD
 rw [if_pos (h u (List.mem_range.mp hu))]
 simp [PyData.eqv]
theorem any_up {n : Nat} {m l : Let} {es : List Ev} {u : Nat} (g : Good n (xY3 n) [] es) (hu : u < n) (hm : m ∈ knOf u es) (hl : l ∈ xV6 es) : (((upto m (knOf u es)).map xW6).any fun y => PyData.eqv y (xW6 l)) = decide (l ∈ upto m (knOf u es)) := by
 by_cases h : l ∈ upto m (knOf u es)
 ·rw [decide_eq_true h]; exact any_name h
 ·rw [decide_eq_false h]
  exact any_names fun x hx ⟨z1, z2⟩ => h ((mail_of g).inj ((upto_sub g hu hm).2 x hx) hl z1 z2 ▸ hx)
theorem due_snoc {n : Nat} {m l : Let} {es : List Ev} {ls : List Let} : due n m es (ls ++ [l]) = due n m es ls ++ if l ∈ upto m (knOf l.s es) then (if (wo n m es l).isEmpty = true then [] else [(l, wo n m es l)]) else [] := by
 unfold due
 rw [List.filter_append, List.map_append, List.filter_append]
 congr 1
 by_cases h : l ∈ upto m (knOf l.s es)
 ·rw [if_pos h, List.filter_cons_of_pos (p := fun l => decide (l ∈ upto m (knOf l.s es))) (decide_eq_true h), List.filter_nil, List.map_cons, List.map_nil]
  cases hb : (wo n m es l).isEmpty with
  | true => rw [if_pos rfl, List.filter_cons_of_neg (p := fun p : Let × List Nat => !p.2.isEmpty) (by rw [hb]; exact Bool.false_ne_true), List.filter_nil]
  | false => rw [if_neg Bool.false_ne_true, List.filter_cons_of_pos (p := fun p : Let × List Nat => !p.2.isEmpty) (by rw [hb]; rfl), List.filter_nil]
 ·rw [if_neg h, List.filter_cons_of_neg (p := fun l => decide (l ∈ upto m (knOf l.s es))) (by rw [decide_eq_false h]; exact Bool.false_ne_true), List.filter_nil, List.map_nil, List.filter_nil]
theorem due_len {n : Nat} {m : Let} {es : List Ev} {ls : List Let} : (due n m es ls).length ≤ ls.length := by
 unfold due
 refine Nat.le_trans (List.length_filter_le _ _) ?_
 rw [List.length_map]
 exact List.length_filter_le _ _
theorem due_ok {n : Nat} {m : Let} {es : List Ev} {ls : List Let} : ∀ p ∈ due n m es ls, p.1 ∈ ls ∧ p.2.length ≤ n := fun p hp => by
 unfold due at hp
 obtain ⟨l, hl, rfl⟩ := List.mem_map.mp (List.mem_filter.mp hp).1
 exact ⟨(List.mem_filter.mp hl).1, by unfold wo; exact flt_len⟩
def spOneCut (K : PySem.W.Frag) : Sp := fun vs H Q _ => ∃ (ll le lk b : Addr) (es : List Ev) (xe xl xk : List V) (n : Nat) (m : Let) (c0 : Int), vs = [.ref ll, .ref le, .ref lk, .ref b] ∧ SqL K H ll xl ∧ xU3 K H ((xV6 es).map letD) xl ∧ SqL K H le xe ∧ All2 (EvV H) es xe ∧ SqL K H lk xk ∧ All2 (KpW K H) (ksOf n c0 es) xk ∧ Good n (xY3 n) [] es ∧ (∀ l ∈ xV6 es, okLet n l) ∧ (xV6 es).length ≤ 1000 ∧ es.length ≤ 1000 ∧ n ≤ 1000 ∧ (∀ e ∈ es, okEv n e) ∧ m ∈ xV6 es ∧ m.w = .cut ∧ H b = some (.tup [.int m.s, .int (xV4 m)]) ∧ ∀ H', Same H H' → Q (.bl true) H'
section
variable {P : Program} {w : World} {K : PySem.W.Frag} {mg : Str → Option Value} {base : Heap} {fSo fTh fSt fAh fAs fC fIw fUw fW CN CE CP CL : Addr}
theorem oOc : ownB ["_law_letters", "_law_events", "_law_kept", "_law_name", "_law_count", "_law_ahead", "_law_refused", "_law_found", "_law_handed", "e", "_law_due", "_law_letter", "_law_one", "_law_row"] (defScope sOneCutL) = true := by decide +kernel
theorem scOc : FnScope ["_law_letters", "_law_events", "_law_kept", "_law_name", "_law_count", "_law_ahead", "_law_refused", "_law_found", "_law_handed", "e", "_law_due", "_law_letter", "_law_one", "_law_row"] ["_law_letters", "_law_events", "_law_kept", "_law_name"] (defScope sOneCutL) := ⟨rfl, rfl, rfl, by decide +kernel, rfl, by decide +kernel, by decide +kernel⟩
theorem ok_one_cut {f : Addr} {fd fdSo fdSt fdTh fdAh fdAs fdC fdIw fdUw : FuncData} (F : Fun K "_law_one_cut" "_law_one_cut" sOneCutL f fd) (T : Bts mg) (Z : Exk K mg CN CE CP CL)
  (mSo : mg "_law_so" = some (.ref fSo)) (FSo : Fun K "_law_so" "_law_so" sSo fSo fdSo) (bSo : Binds K fdSo ["_law_found", "_law_meant"] []) (GSo : FnOk P w K mg base CX0 8 fSo fdSo ["_law_found", "_law_meant"] (spSo K 8))
  (mSt : mg "states" = some (.ref fSt)) (FSt : Fun K "states" "states" sStates fSt fdSt) (bSt : Binds K fdSt ["all_kept", "name"] []) (GSt : FnOk P w K mg base (CX1 P w) 2 fSt fdSt ["all_kept", "name"] (spStatesX K CN))
  (mTh : mg "through" = some (.ref fTh)) (FTh : Fun K "through" "through" sThrough fTh fdTh) (bTh : Binds K fdTh ["events", "name", "count"] []) (GTh : FnOk P w K mg base (CX1 P w) 2 fTh fdTh ["events", "name", "count"] (spThroughX K CN))
  (mAh : mg "_law_ahead_of" = some (.ref fAh)) (FAh : Fun K "_law_ahead_of" "_law_ahead_of" sAheadOfL fAh fdAh) (bAh : Binds K fdAh ["_law_events", "_law_own", "_law_name"] [])
  (mAs : mg "_law_are_states" = some (.ref fAs)) (FAs : Fun K "_law_are_states" "_law_are_states" sAreStatesL fAs fdAs) (bAs : Binds K fdAs ["_law_found", "_law_count"] []) (GAs : FnOk P w K mg base CX0 2 fAs fdAs ["_law_found", "_law_count"] (spAreStates K))
  (mC : mg "_law_called" = some (.ref fC)) (FC : Fun K "_law_called" "_law_called" sCalled fC fdC) (bC : Binds K fdC ["_law_letter"] [])
  (mIw : mg "_law_is_way" = some (.ref fIw)) (FIw : Fun K "_law_is_way" "_law_is_way" sIsWayL fIw fdIw) (bIw : Binds K fdIw ["_law_found", "_law_due", "_law_count"] []) (GIw : FnOk P w K mg base CX0 9 fIw fdIw ["_law_found", "_law_due", "_law_count"] (spIsWay K))
  (mUw : mg "under_way" = some (.ref fUw)) (FUw : Fun K "under_way" "under_way" sUnderWay fUw fdUw) (bUw : Binds K fdUw ["letters", "cut"] []) (GUw : FnOk P w K mg base CX0 4 fUw fdUw ["letters", "cut"] (spUnderWay K)) : FnOk P w K mg base CX0 10 f fd ["_law_letters", "_law_events", "_law_kept", "_law_name"] (spOneCut K) := by
 have GAh : FnOk P w K mg base CX0 1 fAh fdAh ["_law_events", "_law_own", "_law_name"] (spAhead K) := ok_ahead FAh
 have GC : FnOk P w K mg base CX0 1 fC fdC ["_law_letter"] (yQ1 K) := ok_called FC
 refine okB (body := [stm sOneCutL 0, stm sOneCutL 1, stm sOneCutL 2, stm sOneCutL 3, stm sOneCutL 4, stm sOneCutL 5, stm sOneCutL 6, stm sOneCutL 7, stm sOneCutL 8, stm sOneCutL 9, stm sOneCutL 10, stm sOneCutL 11, stm sOneCutL 12]) F scOc (fun vs H Q E h => ?_) (by kernel_rfl) (fun cdv A0 outer s0 H vs Q E hr h => ?_)
 ·obtain ⟨ll, le, lk, b, es, xe, xl, xk, n, m, c0, rfl, _⟩ := h
  rfl
 ·obtain ⟨ll, le, lk, b, es, xe, xl, xk, n, m, c0, rfl, hll, hxl, hle, hxe, hlk, hxk, g, wh, hsl, hel, hn, hok, hm, hw, hb, fin⟩ := h
  have hr1 := hr.mono (by decide : 1 ≤ 9)
  have hr2 := hr.mono (by decide : 2 ≤ 9)
  have hr4 := hr.mono (by decide : 4 ≤ 9)
  have hr8 := hr.mono (by decide : 8 ≤ 9)
  refine ⟨_, (xU8 (oS oOc 4 (cB (xV9 (X := _)) T.len PySem.boot_len (aC (oV oOc 2) xU7)))
   (xU8 (L11.oSc oOc 5 (eC [1, 3] ["_law_events", "_law_name"] rfl (rng1 T.range (aC (oV oOc 4) xU7)) (fun _ _ _ _ _ => yZ2) (fun _ _ _ _ _ => (cF GAh hr1 mAh FAh.kp bAh .nil xV1 (aC (sV 1) (aC (sV 0) (aC (sV 2) xU7)))))))
   (xU8 (oS oOc 6 xU5)
   (xU8 (oS oOc 7 yZ1)
   (xU8 (oS oOc 8 (xQ8 (aC (cT xZ4 T.list xY5 (aC (oV oOc 2) xU7)) (aC (cT xZ4 T.list xY5 (aC (oV oOc 1) xU7)) xU7))))
   (xU8 (ps_try Z.nocut (fun pn Ex => (xU6 (oS oOc 7 (cFX GSt hr2 mSt FSt.kp bSt .nil passS (aC (iX (ixL K) (oV oOc 8) xU5) (aC (oV oOc 3) xU7))))))
    (fun v => (xU6 (oS oOc 6 (xV2 yU1 (oV oOc 6) xU5)))))
   (xU8 (ps_tryAs oOc 9 Z.post (fun pn Ex => (xU6 (xQ9 (cFX GTh hr2 mTh FTh.kp bTh .nil passS (aC (iX (ixL K) (oV oOc 8) xU5) (aC (oV oOc 3) (aC (oV oOc 4) xU7)))))))
    (fun a oe => (xU6 (oS oOc 6 (xV2 yU1 (oV oOc 6) (xV2 yV4 xU5 (cT call_int1 T.int boot_it (aC (vV5 (pe_not (cB (call_isiX a oe) T.isinstance xV3 (aC (oV oOc 9) (aC (nC Z.poor) xU7)))) (vX6 (pe_not (cB (call_isiX a oe) T.isinstance xV3 (aC (oV oOc 9) (aC (nC Z.nolet) xU7)))))) xU7))))))))
   (xU8 (xW4 (xW0 (xW8 (cF GSo hr8 mSo FSo.kp bSo .nil xV1 (aC (oV oOc 8) (aC (xQ8 (aC (oV oOc 2) (aC (oV oOc 1) xU7))) xU7)))))
    (xU6 (xU1 xY1))
    xV8)
   (xU8 (xW4 (xV7 (op_inD (n := 10) (room_in hr)) yZ1 (oV oOc 5) (by rfl))
    (xU6 (xU1 (yW4 yX0 (oV oOc 6) xU5 (xV5 _))))
    xV8)
   (xU8 (xW4 (PW.pt (xQ1 (xV7 op_gt (oV oOc 6) xU5 (xV5 _)) (xZ1 (xW0 (xW8 (cF GAs hr2 mAs FAs.kp bAs .nil xV1 (aC (oV oOc 7) (aC (oV oOc 4) xU7))))))))
    (xU6 (xU1 xY1))
    xV8)
   (xU8 (oS oOc 10 (xQ8 xU7))
   (xU8 (xQ0 PassesOwn.never rfl (xY2 (oV oOc 0)) (oT oOc 11)
    (xU8 (oS oOc 12 (cF GC hr1 mC FC.kp bC .nil xV1 (aC (oV oOc 11) xU7)))
    (xU6 (xW4 (xV7 (op_inD (n := 10) (room_in hr)) (oV oOc 12) (iX (ixL K) (oV oOc 5) (iX (ixT K) (oV oOc 12) xU5)) (by rfl))
     (xU8 (oC oOc 13 [5, 12] ["_law_ahead", "_law_one"] rfl (rng1 T.range (aC (oV oOc 4) xU7)) (fun _ _ _ _ _ => (vU6 (xV7 (L8.notInK K (room_in hr)) (sV 2) (iX (ixL K) (sV 1) (sV 0)) (by rfl)))) (fun _ _ _ _ _ => (sV 0)))
     (xU6 (xW4 (xV7 op_gt (cB (xV9 (X := _)) T.len PySem.boot_len (aC (oV oOc 13) xU7)) xU5 (xV5 _))
      (xU6 (xQ9 (mApp (oV oOc 10) (xZ6 (aC (oV oOc 12) (aC (oV oOc 13) xU7))))))
      xV8)))
     xV8))))
   (xU6 (xU1 (cF GIw hr mIw FIw.kp bIw .nil xV1 (aC (cF GUw hr4 mUw FUw.kp bUw .nil xV1 (aC (cT xZ4 T.list xY5 (aC (oV oOc 0) xU7)) (aC (cT xZ4 T.list xY5 (aC (oV oOc 7) xU7)) xU7))) (aC (oV oOc 10) (aC (oV oOc 4) xU7)))))))))))))))))), ?_⟩
  have U : Uni m es := fun e he z1 z2 => (mail_of g).inj (ev_sent g e he) hm z1 z2
  have kl : xk.length = n := by rw [hxk.len, ks_len]
  refine ⟨_, rfl, lk, _, rfl, .inl hlk, ?_⟩
  rw [kl]
  refine ⟨_, rfl, (n : Int), rfl, by omega, by omega, yW5 (n := ((n : Nat) : Int).toNat) (lo := 0) (fun D i ys H2 => Same H H2 ∧ H2 D = some (.lst ys) ∧ All2 (AhV D H2 m es) (List.range i) ys)
   (fun D hD => ⟨xU4 hD, xU9, rfl⟩) (fun D i ys H2 hD _ h => h.2.1) (fun D i ys H2 hD hi h => ?_) (fun la za H1 nla h => ?_)⟩
  ·obtain ⟨f1, f2, f3⟩ := h
   have hi' : i < n := by simpa using hi
   have yl := f3.len
   rw [List.length_range] at yl
   rw [show ((0 : Int) + (i : Int)) = (i : Int) from Int.zero_add _]
   refine ⟨_, rfl, _, rfl, _, rfl, le, b, es, xe, i, m, rfl, f1.seq hle, EvVs.imm f1.imm hxe, f1 _ _ hb, U, hel, fun hmi D' ys' H3 e3 nD' hD' hys' => ?_, fun hmi H3 e3 => ?_⟩
   ·have hD3 := e3 _ _ f2
    have ne : D' ≠ D := fun z => by rw [z, f2] at nD'; cases nD'
    refine ⟨hD3, xV0 (by omega), xW2 (f1.trans e3) hD, xU9, ?_⟩
    rw [List.range_succ]
    exact All2.append (AhVs.put hD3 (AhVs.same e3 f3)) (All2.one (.inl ⟨hmi, D', ys', rfl, (xU2 ne).trans hD', NmVs.imm (xX5 hD3) hys', ne⟩))
   ·have hD3 := e3 _ _ f2
    refine ⟨hD3, xV0 (by omega), xW2 (f1.trans e3) hD, xU9, ?_⟩
    rw [List.range_succ]
    exact All2.append (AhVs.put hD3 (AhVs.same e3 f3)) (All2.one (.inr ⟨hmi, rfl⟩))
  ·obtain ⟨e1, hla, hza⟩ := h
   rw [Int.toNat_natCast] at hza
   clear nla
   refine ⟨_, rfl, lk, _, rfl, .inl (e1.seq hlk), fun h0 nh0 => ?_⟩
   have s2 := xU4 (o := .lst xk) nh0
   refine ⟨_, rfl, le, _, rfl, .inl ((e1.trans s2).seq hle), fun h1 nh1 => ?_⟩
   have s3 := xU4 (o := .lst xe) nh1
   refine ⟨len2, fun lh nlh => ?_⟩
   have s4 := xU4 (o := .lst [.ref h0, .ref h1]) nlh
   have s14 := (s2.trans s3).trans s4
   have e4 := e1.trans s14
   have hh0 := s4 _ _ (s3 _ _ (xU9 (H := H1) (a := h0) (o := .lst xk)))
   have hh1 := s4 _ _ (xU9 (H := upd H1 h0 (.lst xk)) (a := h1) (o := .lst xe))
   have hlh : (upd (upd (upd H1 h0 (.lst xk)) h1 (.lst xe)) lh (.lst [.ref h0, .ref h1])) lh = some (.lst [.ref h0, .ref h1]) := xU9
   have hla4 := s14 _ _ hla
   have hza4 := AhVs.same s14 hza
   generalize upd (upd (upd H1 h0 (.lst xk)) h1 (.lst xe)) lh (.lst [.ref h0, .ref h1]) = H4 at e4 hh0 hh1 hlh hla4 hza4 ⊢
   clear s2 s3 s4 s14 nh0 nh1 nlh hla hza e1
   have hzr4 : xU3 K H4 ((List.range n).map (ahD m es)) za := All2.reps (f := ahD m es) (fun _ _ q => AhV.rep q) hza4
   have hos := os_at (K := K) (c0 := c0) g hm hw (hxk.mono fun _ _ => KpW.same e4)
   by_cases hall : ∀ u, u < n → m ∈ knOf u es
   ·refine ⟨_, rfl, lh, _, 0, _, rfl, rfl, SqL.of hlh, rfl, _, rfl, h0, b, xk, m, osOf n c0 m es, rfl, SqL.of hh0, hos, by rw [os_len]; omega, e4 _ _ hb, fun ss hss D us H5 e5 hD hus => ?_, fun hno => absurd hno (os_some hall)⟩
    have ess := os_all hall hss
    subst ess
    clear hss hos
    refine ⟨_, rfl, lh, _, 1, _, rfl, rfl, SqL.of (e5 _ _ hlh), rfl, _, rfl, _, rfl, h1, b, es, xe, n, m, rfl, SqL.of (e5 _ _ hh1), EvVs.imm (e4.trans e5).imm hxe, (e4.trans e5) _ _ hb, U, good_u g, hn, hel, fun _ p H6 e6 => ?_, fun ⟨u, hu, hnu⟩ => absurd (hall u hu) hnu⟩
    have e46 := e5.trans e6
    refine ⟨_, rfl, _, rfl, _, rfl, len2, fun lz nlz => ?_⟩
    have s7 := xU4 (o := .lst [.ref lk, .ref le]) nlz
    have e67 := e46.trans s7
    refine ⟨.ref lh, .ref lz, haD (ksOf n c0 es) es, rfl, rep_ha (e67 _ _ hlh) (SqL.of (e67 _ _ hh0)) (SqL.of (e67 _ _ hh1)) (hxk.mono fun _ _ => KpW.same (e4.trans e67)) (EvVs.imm (e4.trans e67).imm hxe), rep_ha xU9 ((e4.trans e67).seq hlk) ((e4.trans e67).seq hle) (hxk.mono fun _ _ => KpW.same (e4.trans e67)) (EvVs.imm (e4.trans e67).imm hxe), depth_ha, wide_ha hn hel, fun H7 e7 => ⟨_, rfl, iteF ?_⟩⟩
    have e47 := e67.trans e7
    have s67 := s7.trans e7
    clear s7 e67 nlz
    refine ⟨_, rfl, .none, (List.range n).map (ahD m es), by simp only [RepD], by simp only [RepD]; exact ⟨la, za, rfl, SqL.of (e47 _ _ hla4), xU3.same e47 _ _ hzr4⟩, rfl, lay_ah _, Nat.le_trans (Nat.min_le_right _ _) (by decide), _, rfl, ?_⟩
    refine yY9 (any_not hall) ?_
    refine ⟨_, rfl, _, _, rfl, rfl, _, rfl, ?_⟩
    refine yY9 (by decide) ?_
    have e57 : Same H5 H7 := e6.trans s67
    have hD := e57 _ _ hD
    have hus := StsVs.imm e57.imm hus
    refine ⟨_, rfl, _, rfl, D, us, sts n c0 m es, n, rfl, SqL.of hD, hus, sts_len, sts_mem, _, rfl, iteF ?_⟩
    have e07 := e4.trans e47
    have hla := e47 _ _ hla4
    have hza := AhVs.same e47 hza4
    clear e4 e5 e6 e7 s67 e46 e47 e57 hla4 hza4 hzr4 hh0 hh1
    refine ⟨len0, fun ld nld => ?_⟩
    have s8 := xU4 (o := .lst []) nld
    have hxll := xW5 hxl
    rw [List.length_map] at hxll
    refine ⟨_, rfl, ll, rfl, ⟨_, (e07.trans s8).seq hll⟩, yU7 (K := K) (a := ll) (xs := xl) (fun i σ Hc => ∃ (v11 v12 v13 : Option V) (ys : List V), σ = [some (.ref ll), some (.ref le), some (.ref lk), some (.ref b), some (.int n), some (.ref la), some (.int 0), some (.ref D), some (.ref lh), none, some (.ref ld), v11, v12, v13] ∧ Same H7 Hc ∧ Hc ld = some (.lst ys) ∧ All2 (DuV ld Hc) (due n m es ((xV6 es).take i)) ys)
     ⟨none, none, none, [], rfl, s8, xU9, rfl⟩ (fun i σ Hc _ h => by obtain ⟨_, _, _, _, _, e, _⟩ := h; exact (e07.trans e).seq hll) ?_ ?_⟩
    ·rintro i y σ Hc hi ⟨v11, v12, v13, ys, rfl, e, hld, hys⟩
     have hi' : i < (xV6 es).length := by have := (List.getElem?_eq_some_iff.mp hi).1; omega
     obtain ⟨y', gy, ry⟩ := xY6 hxl (i := i) (d := letD (xV6 es)[i]) (by rw [List.getElem?_map, List.getElem?_eq_getElem hi']; rfl)
     rw [hi] at gy
     cases gy
     obtain ⟨al, rfl, La⟩ := xQ6.mp ry
     have hmem := List.getElem_mem hi'
     obtain ⟨o1, o2, o3, o4⟩ := wh _ hmem
     have yl := hys.len
     have dl := due_len (n := n) (m := m) (es := es) (ls := (xV6 es).take i)
     rw [List.length_take] at dl
     rw [xX7 (List.getElem?_eq_getElem hi'), due_snoc]
     generalize (xV6 es)[i] = l at La hmem o1 o2
     have La := La.imm (e07.trans e).imm
     refine ⟨_, rfl, al, l, rfl, La, by omega, fun p np => ?_⟩
     have s1 := xU4 (o := .tup [.int l.s, .int (xV4 l)]) np
     have e9 := e.trans s1
     have hp9 : (upd Hc p (.tup [.int l.s, .int (xV4 l)])) p = some (.tup [.int l.s, .int (xV4 l)]) := xU9
     have hld9 := s1 _ _ hld
     have hys9 := DuVs.same s1 hys
     generalize upd Hc p (.tup [.int l.s, .int (xV4 l)]) = H9 at e9 hp9 hld9 hys9 ⊢
     clear s1 e hld hys np La
     have hza9 := AhVs.same e9 hza
     have hla9 := e9 _ _ hla
     obtain ⟨v, gv, hv⟩ := hza9.get (List.getElem?_range o1)
     have hms := hall _ o1
     obtain ⟨_, D', zs, rfl, hD', hzs, _⟩ := hv.resolve_right fun z => z.1 hms
     refine ⟨_, rfl, _, rfl, _, rfl, p, _, 0, _, rfl, rfl, SqT.of hp9, rfl, la, _, _, .ref D', rfl, rfl, SqL.of hla9, xW7 gv, xW6 l, (upto m (knOf l.s es)).map xW6, NmV.rep ⟨p, rfl, hp9⟩, rep_names hD' hzs, by simp [xW6, nmD, PyData.canLay0, PyData.canLayAll0], lay_nms _, Nat.le_trans (Nat.min_le_right _ _) (yW6 l), _, rfl, ?_⟩
     by_cases hup : l ∈ upto m (knOf l.s es)
     ·refine vU0 (any_name hup) ?_
      rw [if_pos hup]
      refine ⟨_, rfl, (n : Int), rfl, by omega, by omega, yW5 (n := ((n : Nat) : Int).toNat) (lo := 0) (fun D i ys H2 => Same H9 H2 ∧ H2 D = some (.lst ys) ∧ ys = nums (nz ((List.range i).filter fun u => decide (l ∉ upto m (knOf u es)))))
       (fun D hD => ⟨xU4 hD, xU9, rfl⟩) (fun D i ys H2 hD _ h => h.2.1) (fun D k ws H2 hD hk h => ?_) (fun lr ws H2 nlr h => ?_)⟩
      ·obtain ⟨f1, f2, f3⟩ := h
       have hk' : k < n := by simpa using hk
       have wl : ws.length ≤ 1000 := by
        rw [f3, nz_len]
        exact Nat.le_trans flt_len (by omega)
       rw [show ((0 : Int) + (k : Int)) = (k : Int) from Int.zero_add _]
       obtain ⟨v, gk, hv⟩ := (AhVs.same f1 hza9).get (List.getElem?_range hk')
       have hmk := hall _ hk'
       obtain ⟨_, Dk, zk, rfl, hDk, hzk, _⟩ := hv.resolve_right fun z => z.1 hmk
       have hany := any_up (l := l) g hk' hmk hmem
       refine ⟨_, rfl, _, rfl, _, rfl, la, _, _, .ref Dk, rfl, rfl, SqL.of (f1 _ _ hla9), xW7 gk, xW6 l, (upto m (knOf k es)).map xW6, NmV.rep ⟨p, rfl, f1 _ _ hp9⟩, rep_names hDk hzk, by simp [xW6, nmD, PyData.canLay0, PyData.canLayAll0], lay_nms _, Nat.le_trans (Nat.min_le_right _ _) (yW6 l), _, rfl, ?_⟩
       by_cases hq : l ∈ upto m (knOf k es)
       ·refine yY9 (show (!_) = false by rw [hany, decide_eq_true hq]; rfl) ⟨f1, f2, ?_⟩
        rw [f3, flt_f (decide_eq_false fun z => z hq)]
       ·refine vU0 (show (!_) = true by rw [hany, decide_eq_false hq]; rfl) ⟨_, rfl, f2, xV0 (by omega), xW2 f1 hD, xU9, ?_⟩
        rw [f3, flt_t (decide_eq_true hq)]
      ·obtain ⟨f1, f2, f3⟩ := h
       rw [Int.toNat_natCast] at f3
       have f3 : ws = nums (nz (wo n m es l)) := f3
       subst f3
       have hld2 := f1 _ _ hld9
       have hys2 := DuVs.same f1 hys9
       have rD : lr ≠ ld := fun z => by rw [z, hld9] at nlr; cases nlr
       refine ⟨_, rfl, lr, _, rfl, .inl (SqL.of f2), _, _, rfl, rfl, _, rfl, ?_⟩
       cases hb : (wo n m es l).isEmpty with
       | true =>
        refine yY9 (decide_eq_false ?_) ?_
        ·rw [nz_len, List.isEmpty_iff.mp hb]; simp
        ·rw [if_pos rfl, List.append_nil]
         exact ⟨some (.ref al), some (.ref p), some (.ref lr), ys, rfl, e9.trans f1, hld2, hys2⟩
       | false =>
        have hpos : 0 < (wo n m es l).length := by
         rcases Nat.eq_zero_or_pos (wo n m es l).length with z | z
         ·rw [List.eq_nil_of_length_eq_zero z] at hb; cases hb
         ·exact z
        refine vU0 (decide_eq_true ?_) ?_
        ·rw [nz_len]; omega
        ·rw [if_neg Bool.false_ne_true]
         refine ⟨_, rfl, .inl ⟨rfl, _, SqL.of hld2⟩, _, rfl, _, rfl, len2, fun pt npt => ?_⟩
         have s2 := xU4 (o := .tup [.ref p, .ref lr]) npt
         have hld3 := s2 _ _ hld2
         refine ⟨ld, ys, .ref pt, rfl, rfl, hld3, xV0 (by omega), ?_⟩
         exact ⟨some (.ref al), some (.ref p), some (.ref lr), ys ++ [.ref pt], rfl, xW2 ((e9.trans f1).trans s2) nld, xU9, DuVs.put hld3 (All2.append (DuVs.same s2 hys2) (All2.one ⟨pt, p, lr, rfl, xU9, s2 _ _ (f1 _ _ hp9), s2 _ _ f2, rD⟩))⟩
     ·refine yY9 (any_names fun x hx ⟨z1, z2⟩ => hup ((mail_of g).inj ((upto_sub g o1 hms).2 x hx) hmem z1 z2 ▸ hx)) ?_
      rw [if_neg hup, List.append_nil]
      exact ⟨some (.ref al), some (.ref p), v13, ys, rfl, e9, hld9, hys9⟩
    ·rintro σ Hc ⟨v11, v12, v13, ys, rfl, e, hld, hys⟩
     rw [hxll, List.take_length] at hys
     have e0 := e07.trans e
     refine ⟨_, rfl, ll, _, rfl, .inl (e0.seq hll), fun l1 n1 => ?_⟩
     have t1 := xU4 (o := .lst xl) n1
     refine ⟨_, rfl, D, _, rfl, .inl (SqL.of (t1 _ _ (e _ _ hD))), fun l2 n2 => ?_⟩
     have t2 := xU4 (o := .lst us) n2
     refine ⟨l1, l2, xV6 es, xl, sts n c0 m es, us, rfl, SqL.of (t2 _ _ xU9), xU3.same ((e0.trans t1).trans t2) _ _ hxl, (fun l hl => by rw [sts_len]; exact wh l hl), hsl, SqL.of xU9, StsVs.imm ((e.trans t1).trans t2).imm hus, (fun x hx => by rw [sts_len]; exact sts_mem x hx), by rw [sts_len]; omega, fun Df ps Hf ef hf hps => ?_⟩
     rw [due_eq g hall fun l hl => ⟨hl, (wh l hl).1⟩] at hps
     have tf := (t1.trans t2).trans ef
     refine ⟨_, rfl, _, rfl, Df, ld, ps, ys, due n m es (xV6 es), n, rfl, SqL.of hf, hps, SqL.of (tf _ _ hld), hys.mono fun _ _ q => PuV.same tf (DuV.pu q), fun q hq => ?_, Nat.le_trans due_len hsl, fun H' e' => fin _ ((e0.trans tf).trans e')⟩
     obtain ⟨q1, q2⟩ := due_ok q hq
     obtain ⟨j, ev, hj, _, hl⟩ := sent_at q1
     have := (hok ev (List.mem_of_getElem? hj)).2.2
     rw [hl] at this
     exact ⟨(wh _ q1).1, this, by omega⟩
   ·obtain ⟨u, hu, hnu⟩ : ∃ u, u < n ∧ m ∉ knOf u es := by
     refine Classical.byContradiction fun z => hall fun u hu => Classical.byContradiction fun y => z ⟨u, hu, y⟩
    refine ⟨_, rfl, lh, _, 0, _, rfl, rfl, SqL.of hlh, rfl, _, rfl, h0, b, xk, m, osOf n c0 m es, rfl, SqL.of hh0, hos, by rw [os_len]; omega, e4 _ _ hb, fun ss hss => ?_, fun _ H5 e5 => ⟨CN, rfl, Z.nn, ?_⟩⟩
    ·exfalso
     have := os_none (c0 := c0) hu hnu
     rw [hss] at this
     obtain ⟨_, _, z⟩ := List.mem_map.mp this
     cases z
    refine ⟨_, rfl, _, _, rfl, rfl, ?_⟩
    refine ⟨_, rfl, lh, _, 1, _, rfl, rfl, SqL.of (e5 _ _ hlh), rfl, _, rfl, _, rfl, h1, b, es, xe, n, m, rfl, SqL.of (e5 _ _ hh1), EvVs.imm (e4.trans e5).imm hxe, (e4.trans e5) _ _ hb, U, good_u g, hn, hel, fun hal => absurd hal hall, fun _ H6 e6 => ⟨CN, rfl, Z.ne, fun ea oe vs hcls hdat => ?_⟩⟩
    have e46 := e5.trans e6
    refine ⟨_, rfl, _, rfl, CN, CP, false, hcls, Z.ex, rfl, Z.nP, _, rfl, _, rfl, iteT ?_⟩
    refine ⟨_, rfl, CN, CL, false, hcls, Z.ex, rfl, Z.nL, _, rfl, .inr ⟨_, rfl, _, _, rfl, rfl, .inl ⟨by decide, by decide⟩, _, _, rfl, rfl, ?_⟩⟩
    refine ⟨_, rfl, _, rfl, _, rfl, len2, fun lz nlz => ?_⟩
    have s7 := xU4 (o := .lst [.ref lk, .ref le]) nlz
    have e67 := e46.trans s7
    refine ⟨.ref lh, .ref lz, haD (ksOf n c0 es) es, rfl, rep_ha (e67 _ _ hlh) (SqL.of (e67 _ _ hh0)) (SqL.of (e67 _ _ hh1)) (hxk.mono fun _ _ => KpW.same (e4.trans e67)) (EvVs.imm (e4.trans e67).imm hxe), rep_ha xU9 ((e4.trans e67).seq hlk) ((e4.trans e67).seq hle) (hxk.mono fun _ _ => KpW.same (e4.trans e67)) (EvVs.imm (e4.trans e67).imm hxe), depth_ha, wide_ha hn hel, fun H7 e7 => ⟨_, rfl, iteF ?_⟩⟩
    have e47 := e67.trans e7
    have s67 := s7.trans e7
    clear s7 e67 nlz
    refine ⟨_, rfl, .none, (List.range n).map (ahD m es), by simp only [RepD], by simp only [RepD]; exact ⟨la, za, rfl, SqL.of (e47 _ _ hla4), xU3.same e47 _ _ hzr4⟩, rfl, lay_ah _, Nat.le_trans (Nat.min_le_right _ _) (by decide), _, rfl, ?_⟩
    refine vU0 (any_non hu hnu) ?_
    refine ⟨_, rfl, rfl, ?_⟩
    exact fin _ (e4.trans e47)
end
end Of
end
section
seal L2.PE L2.PT L2.PW L2.PA L2.PS L2.PSs L2.PG L2.PGs L2.PI L3.PTs L2.PO L2.CallR L2.OpR L2.IxR L2.MtR L2.PSet L2.SlR
namespace Of
open PySem L2 L3 L4 L5 L6 L7
theorem cut_take (xs : List V) (j : Int) : ∃ q, cutV xs none (some j) = xs.take q := ⟨HT.sIx xs.length xs.length (some j) - HT.sIx xs.length 0 none, by
 unfold cutV
 show (xs.drop 0).take _ = _
 rw [List.drop_zero]⟩
theorem kept_ws {K : PySem.W.Frag} {H : Hp} {n : Nat} {c0 : Int} {c : Crs} {ys : List V} (hn : c.offs.length = n) (hk : KpI n c0 c) (h : All2 (KpV K H) c.offs ys) : All2 (KpW K H) (ksOf n c0 c.evs) ys := by
 have yl := h.len
 refine all2_of (by rw [ks_len, yl, hn]) fun i x v hx hv => ?_
 have hi : i < n := by have := (List.getElem?_eq_some_iff.mp hv).1; omega
 rw [ks_get hi] at hx
 cases hx
 have hio : i < c.offs.length := by omega
 obtain ⟨v', gv, lk, ks, e, h1, h2⟩ := h.get (List.getElem?_eq_getElem hio)
 rw [hv] at gv
 cases gv
 have eo : c.off i = c.offs[i] := by
  unfold Crs.off
  rw [List.getD_eq_getElem?_getD, List.getElem?_eq_getElem hio]; rfl
 rw [← eo, hk i hi, kps_E] at h2
 exact ⟨lk, ks, e, h1, h2⟩
section
variable {P : Program} {w : World} {K : PySem.W.Frag} {mg : Str → Option Value} {base : Heap} {fA fX fE fL fC fLo fEo fKo fOc : Addr}
theorem oLL : ownB ["_law_script", "_law_count", "_law_coins", "_law_deeds", "_law_letters", "_law_events", "_law_kept", "_law_letter"] (defScope sLaw) = true := by decide +kernel
theorem scLL : FnScope ["_law_script", "_law_count", "_law_coins", "_law_deeds", "_law_letters", "_law_events", "_law_kept", "_law_letter"] ["_law_script"] (defScope sLaw) := ⟨rfl, rfl, rfl, by decide +kernel, rfl, by decide +kernel, by decide +kernel⟩
theorem ok_law {f : Addr} {fd fdA fdX fdE fdL fdEo fdLo fdKo fdC fdOc : FuncData} (F : Fun K "law" "law" sLaw f fd) (T : Bts mg)
  (mA : mg "_law_at" = some (.ref fA)) (FA : Fun K "_law_at" "_law_at" sAt fA fdA) (bA : Binds K fdA ["_law_script", "_law_k"] [])
  (mX : mg "_law_ended" = some (.ref fX)) (FX : Fun K "_law_ended" "_law_ended" sEndedL fX fdX) (bX : Binds K fdX ["_law_script", "_law_count"] []) (GX : FnOk P w K mg base CX0 3 fX fdX ["_law_script", "_law_count"] (spEnded K))
  (mL : mg "_law_are_letters" = some (.ref fL)) (FL : Fun K "_law_are_letters" "_law_are_letters" sAreLetters fL fdL) (bL : Binds K fdL ["_law_found", "_law_count"] []) (GL : FnOk P w K mg base CX0 3 fL fdL ["_law_found", "_law_count"] (vX8 K))
  (mE : mg "_law_are_events" = some (.ref fE)) (FE : Fun K "_law_are_events" "_law_are_events" sAreEvents fE fdE) (bE : Binds K fdE ["_law_found", "_law_count"] []) (GE : FnOk P w K mg base CX0 3 fE fdE ["_law_found", "_law_count"] (spAreEvents K))
  (mC : mg "_law_called" = some (.ref fC)) (FC : Fun K "_law_called" "_law_called" sCalled fC fdC) (bC : Binds K fdC ["_law_letter"] [])
  (mLo : mg "letters_of" = some (.ref fLo)) (FLo : Fun K "letters_of" "letters_of" sLettersOf fLo fdLo) (bLo : Binds K fdLo ["count", "coins", "deeds"] []) (GLo : FnOk P w K mg base CX0 11 fLo fdLo ["count", "coins", "deeds"] (spLettersOf K))
  (mEo : mg "events_of" = some (.ref fEo)) (FEo : Fun K "events_of" "events_of" sEventsOf fEo fdEo) (bEo : Binds K fdEo ["count", "coins", "deeds"] []) (GEo : FnOk P w K mg base CX0 11 fEo fdEo ["count", "coins", "deeds"] (spEventsOf K))
  (mKo : mg "kept_of" = some (.ref fKo)) (FKo : Fun K "kept_of" "kept_of" sKeptOf fKo fdKo) (bKo : Binds K fdKo ["count", "coins", "deeds"] []) (GKo : FnOk P w K mg base CX0 11 fKo fdKo ["count", "coins", "deeds"] (spKeptOf K))
  (mOc : mg "_law_one_cut" = some (.ref fOc)) (FOc : Fun K "_law_one_cut" "_law_one_cut" sOneCutL fOc fdOc) (bOc : Binds K fdOc ["_law_letters", "_law_events", "_law_kept", "_law_name"] []) (GOc : FnOk P w K mg base CX0 10 fOc fdOc ["_law_letters", "_law_events", "_law_kept", "_law_name"] (spOneCut K)) :
  FnOk P w K mg base CX0 12 f fd ["_law_script"] (spLaw K) := by
 have GA : FnOk P w K mg base CX0 1 fA fdA ["_law_script", "_law_k"] (spAt K) := ok_at FA T
 have GC : FnOk P w K mg base CX0 1 fC fdC ["_law_letter"] (yQ1 K) := ok_called FC
 refine okB (N := ["_law_script", "_law_count", "_law_coins", "_law_deeds", "_law_letters", "_law_events", "_law_kept", "_law_letter"]) (body := [stm sLaw 0, stm sLaw 1, stm sLaw 2, stm sLaw 3, stm sLaw 4, stm sLaw 5, stm sLaw 6, stm sLaw 7, stm sLaw 8, stm sLaw 9, stm sLaw 10, stm sLaw 11]) F scLL (fun vs H Q E h => ?_) (by kernel_rfl) (fun cdv A0 outer s H vs Q E hr h => ?_)
 ·obtain ⟨a, ns, rfl, _⟩ := h
  rfl
 ·obtain ⟨a, ns, rfl, ha, hns, k⟩ := h
  have hr1 := hr.mono (by decide : 1 ≤ 11)
  have hr3 := hr.mono (by decide : 3 ≤ 11)
  have hr10 := hr.mono (by decide : 10 ≤ 11)
  refine ⟨_, (xU8 (oS oLL 1 (iX (ixL K) (xQ8 (aC xU5 (aC xU5 (aC xU5 (aC xU5 (aC xU5 (aC xU5 (aC xU5 (aC xU5 xU7))))))))) (xV2 xX1 (xV2 xX1 (xV2 yV4 (cF GA hr1 mA FA.kp bA .nil xV1 (aC (oV oLL 0) (aC xU5 xU7))) xU5) xU5) xU5)))
   (xU8 (oS oLL 2 (xV2 xX1 (xV2 xX1 (xV2 yV4 (cF GA hr1 mA FA.kp bA .nil xV1 (aC (oV oLL 0) (aC xU5 xU7))) xU5) xU5) xU5))
   (xU8 (xW4 (xV7 yX0 (xV2 xX1 (xV2 xX1 (xV2 yV4 (cF GA hr1 mA FA.kp bA .nil xV1 (aC (oV oLL 0) (aC xU5 xU7))) xU5) xU5) xU5) xU5 (xV5 _))
    (xU6 (oS oLL 2 (xV2 yU1 (oV oLL 2) xU5)))
    xV8)
   (xU8 (oS oLL 3 (cF GX hr3 mX FX.kp bX .nil xV1 (aC (oV oLL 0) (aC (oV oLL 1) xU7))))
   (xU8 (oS oLL 3 (yQ7 sl_list (oV oLL 3) po_none (vU5 (xV2 op_sub (cB (xV9 (X := _)) T.len PySem.boot_len (aC (oV oLL 3) xU7)) (xV2 xX1 (xV2 xX1 (xV2 yV4 (cF GA hr1 mA FA.kp bA .nil xV1 (aC (oV oLL 0) (aC xU5 xU7))) xU5) xU5) (xV2 yU1 (oV oLL 1) xU5))))))
   (xU8 (oS oLL 4 (cF GLo hr mLo FLo.kp bLo .nil xV1 (aC (oV oLL 1) (aC (oV oLL 2) (aC (cT xZ4 T.list xY5 (aC (oV oLL 3) xU7)) xU7)))))
   (xU8 (oS oLL 5 (cF GEo hr mEo FEo.kp bEo .nil xV1 (aC (oV oLL 1) (aC (oV oLL 2) (aC (cT xZ4 T.list xY5 (aC (oV oLL 3) xU7)) xU7)))))
   (xU8 (oS oLL 6 (cF GKo hr mKo FKo.kp bKo .nil xV1 (aC (oV oLL 1) (aC (oV oLL 2) (aC (cT xZ4 T.list xY5 (aC (oV oLL 3) xU7)) xU7)))))
   (xU8 (xW4 (PW.pt (xQ1 (xW0 (xW8 (cF GL hr3 mL FL.kp bL .nil xV1 (aC (oV oLL 4) (aC (oV oLL 1) xU7))))) (xZ1 (xW0 (xW8 (cF GE hr3 mE FE.kp bE .nil xV1 (aC (oV oLL 5) (aC (oV oLL 1) xU7))))))))
    (xU6 (xU1 xY1))
    xV8)
   (xU8 (xW4 (PW.pt (xQ1 (xW0 (xW8 (cB yW2 T.isinstance xV3 (aC (oV oLL 6) (aC (nT T.list xY5) xU7))))) (xZ1 (xV7 yX1 (cB (xV9 (X := _)) T.len PySem.boot_len (aC (oV oLL 6) xU7)) (oV oLL 1) (xV5 _)))))
    (xU6 (xU1 xY1))
    xV8)
   (xU8 (xQ0 PassesOwn.never rfl (xY2 (oV oLL 4)) (oT oLL 7)
    (xU6 (xW4 (xV7 yX0 (iX (ixT K) (iX (ixT K) (oV oLL 7) xU5) xU5) xY8 (xV5 _))
     (xU6 (xW4 (xW0 (xW8 (cF GOc hr10 mOc FOc.kp bOc .nil xV1 (aC (oV oLL 4) (aC (oV oLL 5) (aC (oV oLL 6) (aC (cF GC hr1 mC FC.kp bC .nil xV1 (aC (oV oLL 7) xU7)) xU7)))))))
      (xU6 (xU1 xY1))
      xV8))
     xV8)))
   (xU6 (xU1 xY1))))))))))))), ?_⟩
  refine ⟨by show 8 ≤ sizeLine; decide, fun l8 n8 => ?_⟩
  have s1 := xU4 (o := .lst [.int 2, .int 3, .int 4, .int 2, .int 3, .int 4, .int 2, .int 12]) n8
  have hr8 : (cell ns 0 * 48271 % 1061 % 8).toNat < 8 := by have := Int.emod_lt_of_pos (cell ns 0 * 48271 % 1061) (by decide : (0 : Int) < 8); have := Int.emod_nonneg (cell ns 0 * 48271 % 1061) (by decide : (8 : Int) ≠ 0); omega
  obtain ⟨n, hn, hn2, hn12⟩ := count8 hr8
  refine ⟨_, rfl, a, ns, 0, rfl, s1.seq ha, by decide, _, _, rfl, rfl, cmul (by decide) (by decide), _, _, rfl, rfl, (by show (0 : Int) < 1061; decide), _, _, rfl, rfl, (by show (0 : Int) < 8; decide), l8, _, _, .int (n : Int), rfl, rfl, SqL.of xU9, ?_, ?_⟩
  ·have h0 := Int.emod_nonneg (cell ns 0 * 48271 % 1061) (by decide : (8 : Int) ≠ 0)
   obtain ⟨r, er⟩ := Int.eq_ofNat_of_zero_le h0
   rw [er] at hn ⊢
   exact xW7 hn
  have ha1 := s1.seq ha
  generalize upd H l8 (.lst [.int 2, .int 3, .int 4, .int 2, .int 3, .int 4, .int 2, .int 12]) = H1 at ha1
  clear s1 n8 hn hr8
  refine ⟨_, rfl, a, ns, 1, rfl, ha1, by decide, _, _, rfl, rfl, cmul (by decide) (by decide), _, _, rfl, rfl, (by show (0 : Int) < 1051; decide), _, _, rfl, rfl, (by show (0 : Int) < 30; decide), ?_⟩
  dsimp only
  have hco0 := Int.emod_nonneg (cell ns 1 * 48271 % 1051) (by decide : (30 : Int) ≠ 0)
  generalize cell ns 1 * 48271 % 1051 % 30 = co0 at hco0
  refine ⟨_, rfl, a, ns, 1, rfl, ha1, by decide, _, _, rfl, rfl, cmul (by decide) (by decide), _, _, rfl, rfl, (by show (0 : Int) < 1069; decide), _, _, rfl, rfl, (by show (0 : Int) < 8; decide), rfl, _, rfl, ?_⟩
  refine both (fun σ' H' => ∃ co : Int, 0 ≤ co ∧ σ' = [some (.ref a), some (.int n), some (.int co), none, none, none, none, none] ∧ H' = H1) ?_ (fun _ tail => ⟨_, rfl, _, _, rfl, rfl, tail _ _ ⟨_, (by omega), rfl, rfl⟩⟩) (fun _ => ⟨co0, hco0, rfl, rfl⟩)
  rintro σ' H' ⟨co, hco, rfl, rfl⟩
  refine ⟨_, rfl, _, rfl, a, ns, n, rfl, ha1, hns, hn2, hn12, fun ld0 ds0 xd0 H2 hds0 ok0 _ hld0 hxd0 e2 => ?_⟩
  have ha2 := e2.seq ha1
  refine ⟨_, rfl, _, rfl, ld0, _, rfl, .inl (SqL.of hld0), _, rfl, a, ns, 0, rfl, ha2, by decide, _, _, rfl, rfl, cmul (by decide) (by decide), _, _, rfl, rfl, (by show (0 : Int) < 1063; decide), _, rfl, _, _, rfl, rfl, _, _, rfl, rfl, (by show (0 : Int) < (n : Int) + 1; omega), _, _, rfl, rfl, _, rfl, ld0, _, rfl, SqL.of hld0, fun ld nld => ?_⟩
  dsimp only
  generalize ((xd0.length : Nat) : Int) - cell ns 0 * 48271 % 1063 % ((n : Int) + 1) = jj
  obtain ⟨q, hq⟩ := cut_take xd0 jj
  rw [hq]
  have s3 := xU4 (o := .lst (xd0.take q)) nld
  have hld : (upd H2 ld (.lst (xd0.take q))) ld = some (.lst (xd0.take q)) := xU9
  have hxd : xU3 K (upd H2 ld (.lst (xd0.take q))) ((ds0.take q).map yX6) (xd0.take q) := by
   rw [List.map_take]
   exact reps_take q (xU3.same s3 _ _ hxd0)
  have ok : ∀ d ∈ ds0.take q, xQ7 n d := fun d hd => ok0 d (List.mem_of_mem_take hd)
  have hds' : (ds0.take q).length ≤ 76 := by rw [List.length_take]; omega
  generalize upd H2 ld (.lst (xd0.take q)) = H3 at hld hxd
  generalize ds0.take q = ds at hxd ok hds'
  generalize xd0.take q = xd at hld hxd
  clear s3 hq nld e2 ha1 ha2 hld0 hxd0 ok0 hds0
  have hds : ds.length ≤ 200 := by omega
  obtain ⟨W, R⟩ := Rep.run (start_wd (n := n) (coins := co)) Rep.start ok
  have M := Mod.run (start_mod (n := n) (coins := co) (by omega)) ok (by omega)
  have hno : (runC (start n co) ds).offs.length = n := M.wd.ln
  have KP := KpI.run (start_wd (n := n) (coins := co)) Rep.start (Coin.start hco) KpI.start ok
  refine ⟨_, rfl, _, rfl, _, rfl, ld, _, rfl, .inl (SqL.of hld), fun l0 nl0 => ?_⟩
  have s3 := xU4 (o := .lst xd) nl0
  refine ⟨n, co, l0, ds, xd, rfl, SqL.of xU9, xU3.same s3 _ _ hxd, ok, hds, hn2, by omega, fun ll xl H4 hll hxl e4 => ?_⟩
  have e34 := s3.trans e4
  have hld4 := e34 _ _ hld
  have hxd4 := xU3.same e34 _ _ hxd
  clear s3 e4 e34 hld hxd nl0
  refine ⟨_, rfl, _, rfl, _, rfl, ld, _, rfl, .inl (SqL.of hld4), fun l1 nl1 => ?_⟩
  have s4 := xU4 (o := .lst xd) nl1
  refine ⟨n, co, l1, ds, xd, rfl, SqL.of xU9, xU3.same s4 _ _ hxd4, ok, hds, hn2, by omega, fun le xe H5 hle hxe e5 => ?_⟩
  have e45 := s4.trans e5
  have hld5 := e45 _ _ hld4
  have hxd5 := xU3.same e45 _ _ hxd4
  have hll5 := e45 _ _ hll
  have hxl5 := xU3.same e45 _ _ hxl
  clear s4 e5 e45 hld4 hxd4 hll hxl nl1
  refine ⟨_, rfl, _, rfl, _, rfl, ld, _, rfl, .inl (SqL.of hld5), fun l2 nl2 => ?_⟩
  have s5 := xU4 (o := .lst xd) nl2
  refine ⟨n, co, l2, ds, xd, rfl, SqL.of xU9, xU3.same s5 _ _ hxd5, ok, hds, hn2, by omega, fun lk xk H7 hlk hxk e6 => ?_⟩
  have e56 := s5.trans e6
  have hll7 := e56 _ _ hll5
  have hxl7 := xU3.same e56 _ _ hxl5
  have hle7 := e56 _ _ hle
  have hxe7 := EvVs.imm e56.imm hxe
  clear s5 e6 e56 hld5 hxd5 hll5 hxl5 hle hxe nl2
  have hkl := M.kl
  have hke := M.ke
  rw [Nat.zero_add] at hkl hke
  have hevs : ∀ e ∈ (runC (start n co) ds).evs, okEv n e := fun e he => by
   obtain ⟨i, hi⟩ := List.getElem?_of_mem he
   have o := R.ok.at_ hi
   refine ⟨o.u, o.fit.1, ?_⟩
   have hl : e.l ∈ (runC (start n co) ds).lets := by
    rw [R.ls]
    cases hs : e.sent with
    | true =>
     unfold xV6
     exact List.mem_map.mpr ⟨e, List.mem_filter.mpr ⟨he, hs⟩, rfl⟩
    | false =>
     have := (o.gt hs).2
     rw [List.nil_append] at this
     unfold xV6 at this ⊢
     obtain ⟨x, hx, ex⟩ := List.mem_map.mp this
     rw [List.mem_filter] at hx
     exact List.mem_map.mpr ⟨x, List.mem_filter.mpr ⟨List.mem_of_mem_take hx.1, hx.2⟩, ex⟩
   obtain ⟨j, hj⟩ := List.getElem?_of_mem hl
   have := W.ml.num j _ hj
   omega
  generalize runC (start n co) ds = c at *
  have xll := xW5 hxl7
  rw [List.length_map] at xll
  have hls := R.ls
  have wh : ∀ l ∈ xV6 c.evs, okLet n l := by rw [← hls]; exact R.wh
  have hxs7 : xU3 K H7 ((xV6 c.evs).map letD) xl := by rw [← hls]; exact hxl7
  have hsl : (xV6 c.evs).length ≤ 76 := by rw [← hls]; omega
  have hbd := ev_bound R.ok
  have hes : c.evs.length ≤ 1000 := by
   have h2 : ((n : Nat) : Int) * ((xV6 c.evs).length : Int) ≤ 12 * 76 := Int.mul_le_mul (by omega) (by omega) (by omega) (by omega)
   omega
  have hkw : All2 (KpW K H7) (ksOf n co c.evs) xk := kept_ws hno KP hxk
  have xkl : xk.length = n := by rw [hxk.len, hno]
  refine ⟨_, rfl, _, rfl, ll, xl, _, n, rfl, SqL.of hll7, hxl7, R.wh, _, rfl, iteF ?_⟩
  refine ⟨_, rfl, _, rfl, le, xe, _, n, rfl, SqL.of hle7, EvVs.reps hxe7, hevs, _, rfl, iteF ?_⟩
  refine ⟨_, rfl, lk, _, _, _, rfl, SqL.of hlk, yQ4, _, rfl, iteF ?_⟩
  refine ⟨_, rfl, lk, _, rfl, .inl (SqL.of hlk), _, rfl, rfl, _, rfl, ?_⟩
  refine yY9 (by rw [decide_eq_true (show V.int ((xk.length : Nat) : Int) = V.int ((n : Nat) : Int) by rw [xkl])]; rfl) ?_
  refine ⟨_, rfl, ll, rfl, ⟨_, SqL.of hll7⟩, yU7 (K := K) (a := ll) (xs := xl) (fun i σ Hc => ∃ (v7 : Option V), σ = [some (.ref a), some (.int n), some (.int co), some (.ref ld), some (.ref ll), some (.ref le), some (.ref lk), v7] ∧ Same H7 Hc) ⟨none, rfl, Same.refl H7⟩ (fun i σ Hc _ h => by obtain ⟨_, _, e⟩ := h; exact SqL.of (e _ _ hll7)) ?_ ?_⟩
  ·rintro i y σ Hc hi ⟨v7, rfl, e⟩
   have hi' : i < c.lets.length := by have := (List.getElem?_eq_some_iff.mp hi).1; omega
   obtain ⟨y', gy, ry⟩ := xY6 hxl7 (i := i) (d := letD c.lets[i]) (by rw [List.getElem?_map, List.getElem?_eq_getElem hi']; rfl)
   rw [hi] at gy
   cases gy
   obtain ⟨al, rfl, La⟩ := xQ6.mp ry
   have hmem := List.getElem_mem hi'
   generalize c.lets[i] = m at La hmem
   have La := La.imm e.imm
   obtain ⟨b1, wc, L1, L2, L3⟩ := id La
   obtain ⟨o1, o2, o3, o4⟩ := R.wh m hmem
   cases hw : m.w with
   | pay t q =>
    rw [hw] at L3
    have L3 : SqT K Hc wc [.str "pay", .int t, .int q] := L3
    refine ⟨_, rfl, al, _, 2, _, rfl, rfl, L1, rfl, wc, _, 0, _, rfl, rfl, L3, rfl, rfl, _, rfl, ?_⟩
    exact yY9 (by decide +kernel) ⟨some (.ref al), rfl, e⟩
   | cut =>
    rw [hw] at L3
    have L3 : SqT K Hc wc [.str "cut"] := L3
    refine ⟨_, rfl, al, _, 2, _, rfl, rfl, L1, rfl, wc, _, 0, _, rfl, rfl, L3, rfl, rfl, _, rfl, ?_⟩
    refine vU0 (by decide +kernel) ?_
    refine ⟨_, rfl, _, rfl, _, rfl, _, rfl, al, m, rfl, La, by omega, fun p np => ?_⟩
    have s1 := xU4 (o := .tup [.int m.s, .int (xV4 m)]) np
    have e1 := e.trans s1
    refine ⟨ll, le, lk, p, c.evs, xe, xl, xk, n, m, co, rfl, SqL.of (e1 _ _ hll7), xU3.same e1 _ _ hxs7, SqL.of (e1 _ _ hle7), EvVs.imm e1.imm hxe7, SqL.of (e1 _ _ hlk), hkw.mono fun _ _ => KpW.same e1, R.ok, wh, by omega, hes, by omega, hevs, by rw [← hls]; exact hmem, hw, xU9, fun H10 e10 => ⟨_, rfl, iteF ?_⟩⟩
    exact ⟨some (.ref al), rfl, e1.trans e10⟩
  ·rintro σ Hc ⟨v7, rfl, e⟩
   exact k _
end
end Of
end
namespace Hd
open PySem PySem.W
noncomputable abbrev seenAt (p q : Program) (loose : List Str) (Xt : Shared → Bool) {α : Type} (Yf : Shared → α) (w : World) (s1 : Shared) :=
 ((staticsOk (importedModules p.main.body) (boot_heap w.params) s1.heap && namesBound p s1.heap && gensDone s1 && laidKept (boot_heap w.params) s1.heap), openSeen q loose (importedModules p.main.body) Xt true s1, Yf s1)
abbrev cB (p : Program) (env : Env) : Code := .body (behindTheImports p) env
theorem left_T {p q : Program} {loose : List Str} {Xt : Shared → Bool} {α : Type} {Yf : Shared → α} {Ya : World → α} {N n k0 m₀ : Nat} {ann : Option Value} {env : Env} {Sa : World → OsState → Shared} {Sb : World → OsState → SharedT} {q0 posA posB posE : Pos}
  (open_ : ∀ w : World, (fencedOpening treeTable p w N).map (fun s => (s.heap, s.gens, s.drawn, s.toks)) = some (boot_heap w.params, Array.mk [], boot_drawn, boot_toks))
  (size : ∀ w : World, ((boot_heap w.params).isNs mainGlobals && (Array.mk [] : Array GenState).size == 0, (boot_heap w.params).objs.size, (boot_heap w.params).nsMap mainGlobals "__annotations__") = (true, m₀, ann))
  (pre : ∀ w : World, (fun os => topGo treeTable p w m₀ ann k0 ⟨boot_heap w.params, Array.mk [], boot_drawn, boot_toks, os⟩ (topStub p)) = fun os => some (Sa w os, ⟨denote treeTable (cB p env), cB p env, posA, [topFrame q0]⟩))
  (blk : ∀ w : World, (fun os => segRun treeTable p w m₀ ann 1 1 (Sa w os) (blockOf (behindTheImports p) env (cB p env) posA [topFrame q0])) = fun os => some (.next, (Sb w os).abs, cB p env, posB))
  (h : ∀ w : World, (fun os => (segRunT treeTable p w m₀ ann 1 n (Sb w os) (piecesOf (behindTheImports p) env (cB p env) posB [topFrame q0])).map fun r => (r.1, r.2.2.1, r.2.2.2, (topRun treeTable p w m₀ ann 2 r.2.1.abs ⟨doneF .next, cB p env, posE, [topFrame q0]⟩).map (seenAt p q loose Xt Yf w))) =
   fun os => some (.next, cB p env, posE, some (true, openGood q loose, Ya w)))
  (le : Nat.ble (k0 + (1 + (n + 2))) N = true) : LeftO p q loose Xt Yf Ya N := fun w => by
 obtain ⟨⟨hh, gs, d, k, os⟩, e, e'⟩ := Option.map_eq_some_iff.mp (open_ w)
 obtain ⟨rfl, rfl, rfl, rfl⟩ : hh = boot_heap w.params ∧ gs = Array.mk [] ∧ d = boot_drawn ∧ k = boot_toks := by simpa using e'
 obtain ⟨y1, y2, y3⟩ : _ ∧ _ ∧ _ := by simpa only [Prod.mk.injEq] using size w
 obtain ⟨⟨f, s', c', p'⟩, hr, ho⟩ := Option.map_eq_some_iff.mp (congrFun (h w) os)
 simp only [Prod.mk.injEq] at ho
 obtain ⟨rfl, rfl, rfl, h4⟩ := ho
 obtain ⟨s1, ht, hl⟩ := Option.map_eq_some_iff.mp h4
 obtain ⟨l1, l2, l3⟩ : _ ∧ (_ ∧ _) := by simpa only [Prod.mk.injEq] using hl
 have r0 := piece_app (rest := []) (segRun_of hr) (piece_nil ht)
 rw [List.append_nil] at r0
 have r1 := go_top (congrFun (pre w) os) (piece_block (congrFun (blk w) os) r0)
 have r := topRun_mono (N - (k0 + (1 + (n + 2)))) _ _ _ _ r1
 rw [show k0 + (1 + (n + 2)) + (N - (k0 + (1 + (n + 2)))) = N by have := Nat.le_of_ble_eq_true le; omega] at r
 have t : topFrom treeTable p w N ⟨boot_heap w.params, Array.mk [], boot_drawn, boot_toks, os⟩ = some s1 := by
  unfold topFrom
  dsimp only
  rw [y1, y2, y3, r]
  show (match staticsOk (importedModules p.main.body) (boot_heap w.params) s1.heap && namesBound p s1.heap && gensDone s1 && laidKept (boot_heap w.params) s1.heap with | true => _ | false => _) = _
  rw [l1]
 unfold openEnds
 rw [e]
 show Option.map _ (topFrom treeTable p w N _) = _
 rw [t]
 exact congrArg Option.some (Prod.ext l2 l3)
end Hd
namespace Hd
open PySem PySem.W L2 L3
def de (P : Params) (x : Str) (t : Nat) (v : Value) : DictEntry := ⟨PyData.keyHash P x, .str x t, v⟩
abbrev PR : Program := PySem.Challenge.pw_postbooks_k12_under_way
def fo (st : Stmt) (x q : Str) (pm : Value) (c : Nat) : Obj := { cls := .type "function", data := .func (fnOf x q (defArgs st) (defBody st) (defScope st) .none .none .none pm none (.ref c) .none) }
def KX : Params → Frag := fun P =>
 [(nat_lit 2, { cls := .none, data := .dict #[] }),
 (nat_lit 3, { cls := .type "dict", data := .dict #[de P "__name__" 165 (.str "law_postbooks_k12_under_way" 593), de P "__doc__" 166 (.none), de P "__package__" 167 (.none), de P "__loader__" 168 (.builtin "__main__.__loader__#opaque"), de P "__spec__" 169 (.none), de P "__annotations__" 170 (.ref 6), de P "__builtins__" 171 (.ref 4), de P "__file__" 173 (.str "/claim/cut.py" 172), de P "__cached__" 174 (.none), de P "name_of" 197 (.ref 21), de P "is_there" 205 (.ref 28), de P "counted" 213 (.ref 35), de P "ready" 219 (.ref 40), de P "PostError" 239 (.ref 50), de P "Poor" 255 (.ref 63), de P "NoCut" 271 (.ref 75), de P "NoLetter" 287 (.ref 87), de P "states" 295 (.ref 94), de P "state_in" 304 (.ref 101), de P "under_way" 310 (.ref 106), de P "is_there_at" 319 (.ref 113), de P "is_sent" 327 (.ref 120), de P "offices_without" 333 (.ref 125), de P "through" 339 (.ref 130), de P "place_kept" 350 (.ref 137), de P "Office" 448 (.ref 201), de P "first_ready" 457 (.ref 212), de P "coins_for" 465 (.ref 219), de P "sent_or_none" 473 (.ref 226), de P "taken_by" 483 (.ref 233), de P "Course" 557 (.ref 281), de P "course_of" 568 (.ref 292), de P "letters_of" 577 (.ref 299), de P "events_of" 586 (.ref 306), de P "kept_of" 592 (.ref 311), de P "_law_so" 603 (.ref 318), de P "_law_whole" 610 (.ref 325), de P "_law_at" 618 (.ref 332), de P "_law_is_name" 626 (.ref 339), de P "_law_are_events" 635 (.ref 346), de P "_law_is_what" 644 (.ref 353), de P "_law_are_letters" 654 (.ref 360), de P "_law_called" 661 (.ref 367), de P "_law_deed_of" 675 (.ref 374), de P "_law_drawn" 685 (.ref 381), de P "_law_ended" 696 (.ref 388), de P "_law_are_states" 706 (.ref 395), de P "_law_ahead_of" 717 (.ref 402), de P "_law_is_way" 728 (.ref 409), de P "_law_one_cut" 734 (.ref 414), de P "law" 748 (.ref 421)] 51 }),
 (nat_lit 20, { cls := .type "code", data := .fields #[.str "name_of" 189, .str "name_of" 190, .str "/claim/cut.py" 191, .int 2 0, .int 1 0, .int 0 0, .int 0 0, .int 3 0, .ref 15, .bool true, .int 181 0, .ref 16, .none, .ref 17, .ref 18, .ref 19, .int 195 0, .int 2 0, .str "/claim/cut.py" 196] }),
 (nat_lit 21, fo (Of.top 1) "name_of" "name_of" (.str "postbooks.clocks" 187) 20),
 (nat_lit 27, { cls := .type "code", data := .fields #[.str "is_there" 198, .str "is_there" 199, .str "/claim/cut.py" 200, .int 6 0, .int 2 0, .int 0 0, .int 0 0, .int 3 0, .ref 22, .bool true, .int 181 0, .ref 23, .none, .ref 24, .ref 25, .ref 26, .int 203 0, .int 6 0, .str "/claim/cut.py" 204] }),
 (nat_lit 28, fo (Of.top 2) "is_there" "is_there" (.str "postbooks.clocks" 187) 27),
 (nat_lit 34, { cls := .type "code", data := .fields #[.str "counted" 206, .str "counted" 207, .str "/claim/cut.py" 208, .int 8 0, .int 2 0, .int 0 0, .int 0 0, .int 3 0, .ref 29, .bool true, .int 181 0, .ref 30, .none, .ref 31, .ref 32, .ref 33, .int 211 0, .int 8 0, .str "/claim/cut.py" 212] }),
 (nat_lit 35, fo (Of.top 3) "counted" "counted" (.str "postbooks.clocks" 187) 34),
 (nat_lit 39, { cls := .type "code", data := .fields #[.str "ready" 214, .str "ready" 215, .str "/claim/cut.py" 216, .int 10 0, .int 2 0, .int 0 0, .int 0 0, .int 3 0, .ref 36, .bool true, .int 181 0, .ref 37, .none, .none, .none, .ref 38, .int 217 0, .int 10 0, .str "/claim/cut.py" 218] }),
 (nat_lit 40, fo (Of.top 4) "ready" "ready" (.str "postbooks.clocks" 187) 39),
 (nat_lit 49, { cls := .type "dict", data := .dict #[de P "__module__" 229 (.str "postbooks.errors" 220), de P "__firstlineno__" 233 (.int 18 232), de P "__static_attributes__" 234 (.ref 48), de P "__weakref__" 236 (.ref 51), de P "__doc__" 237 (.none)] 3 }),
 (nat_lit 50, { cls := .type "type", data := .cls { name := "PostError", bases := [.type "ValueError"], mro := [.ref 50, .type "ValueError", .type "Exception", .type "BaseException", .type "object"], ns := 49, qualname := "PostError", subclasses := [.ref 63, .ref 75, .ref 87] }, slots := #[some (.ref 41), none, some (.str "PostError" 222), some (.str "PostError" 230), some (.builtin "ValueError.__new__"), some (.bool true)] }),
 (nat_lit 51, { cls := .type "getset_descriptor", data := .fields #[.str "__weakref__" 235, .ref 50, .builtin "ExceptionGroup.__weakref__", .none] }),
 (nat_lit 62, { cls := .type "dict", data := .dict #[de P "__module__" 247 (.str "postbooks.errors" 220), de P "__firstlineno__" 251 (.int 20 250), de P "__static_attributes__" 252 (.ref 61), de P "__doc__" 253 (.none)] 2 }),
 (nat_lit 63, { cls := .type "type", data := .cls { name := "Poor", bases := [.ref 50], mro := [.ref 63, .ref 50, .type "ValueError", .type "Exception", .type "BaseException", .type "object"], ns := 62, qualname := "Poor" }, slots := #[some (.ref 54), none, some (.str "Poor" 240), some (.str "Poor" 248), some (.builtin "ValueError.__new__"), some (.bool true)] }),
 (nat_lit 74, { cls := .type "dict", data := .dict #[de P "__module__" 263 (.str "postbooks.errors" 220), de P "__firstlineno__" 267 (.int 22 266), de P "__static_attributes__" 268 (.ref 73), de P "__doc__" 269 (.none)] 2 }),
 (nat_lit 75, { cls := .type "type", data := .cls { name := "NoCut", bases := [.ref 50], mro := [.ref 75, .ref 50, .type "ValueError", .type "Exception", .type "BaseException", .type "object"], ns := 74, qualname := "NoCut" }, slots := #[some (.ref 66), none, some (.str "NoCut" 256), some (.str "NoCut" 264), some (.builtin "ValueError.__new__"), some (.bool true)] }),
 (nat_lit 86, { cls := .type "dict", data := .dict #[de P "__module__" 279 (.str "postbooks.errors" 220), de P "__firstlineno__" 283 (.int 24 282), de P "__static_attributes__" 284 (.ref 85), de P "__doc__" 285 (.none)] 2 }),
 (nat_lit 87, { cls := .type "type", data := .cls { name := "NoLetter", bases := [.ref 50], mro := [.ref 87, .ref 50, .type "ValueError", .type "Exception", .type "BaseException", .type "object"], ns := 86, qualname := "NoLetter" }, slots := #[some (.ref 78), none, some (.str "NoLetter" 272), some (.str "NoLetter" 280), some (.builtin "ValueError.__new__"), some (.bool true)] }),
 (nat_lit 93, { cls := .type "code", data := .fields #[.str "states" 290, .str "states" 291, .str "/claim/cut.py" 292, .int 27 0, .int 2 0, .int 0 0, .int 0 0, .int 3 0, .ref 90, .bool true, .int 181 0, .ref 91, .none, .none, .none, .ref 92, .int 293 0, .int 27 0, .str "/claim/cut.py" 294] }),
 (nat_lit 94, fo (Of.top 11) "states" "states" (.str "postbooks.cuts" 288) 93),
 (nat_lit 100, { cls := .type "code", data := .fields #[.str "state_in" 296, .str "state_in" 297, .str "/claim/cut.py" 298, .int 29 0, .int 2 0, .int 0 0, .int 0 0, .int 3 0, .ref 95, .bool true, .int 181 0, .ref 96, .none, .ref 97, .ref 98, .ref 99, .int 302 0, .int 29 0, .str "/claim/cut.py" 303] }),
 (nat_lit 101, fo (Of.top 12) "state_in" "state_in" (.str "postbooks.cuts" 288) 100),
 (nat_lit 105, { cls := .type "code", data := .fields #[.str "under_way" 305, .str "under_way" 306, .str "/claim/cut.py" 307, .int 34 0, .int 2 0, .int 0 0, .int 0 0, .int 3 0, .ref 102, .bool true, .int 181 0, .ref 103, .none, .none, .none, .ref 104, .int 308 0, .int 34 0, .str "/claim/cut.py" 309] }),
 (nat_lit 106, fo (Of.top 13) "under_way" "under_way" (.str "postbooks.cuts" 288) 105),
 (nat_lit 112, { cls := .type "code", data := .fields #[.str "is_there_at" 311, .str "is_there_at" 312, .str "/claim/cut.py" 313, .int 38 0, .int 3 0, .int 0 0, .int 0 0, .int 3 0, .ref 107, .bool true, .int 181 0, .ref 108, .none, .ref 109, .ref 110, .ref 111, .int 317 0, .int 38 0, .str "/claim/cut.py" 318] }),
 (nat_lit 113, fo (Of.top 14) "is_there_at" "is_there_at" (.str "postbooks.cuts" 288) 112),
 (nat_lit 119, { cls := .type "code", data := .fields #[.str "is_sent" 320, .str "is_sent" 321, .str "/claim/cut.py" 322, .int 40 0, .int 2 0, .int 0 0, .int 0 0, .int 3 0, .ref 114, .bool true, .int 181 0, .ref 115, .none, .ref 116, .ref 117, .ref 118, .int 325 0, .int 40 0, .str "/claim/cut.py" 326] }),
 (nat_lit 120, fo (Of.top 15) "is_sent" "is_sent" (.str "postbooks.cuts" 288) 119),
 (nat_lit 124, { cls := .type "code", data := .fields #[.str "offices_without" 328, .str "offices_without" 329, .str "/claim/cut.py" 330, .int 42 0, .int 2 0, .int 0 0, .int 0 0, .int 3 0, .ref 121, .bool true, .int 181 0, .ref 122, .none, .none, .none, .ref 123, .int 331 0, .int 42 0, .str "/claim/cut.py" 332] }),
 (nat_lit 125, fo (Of.top 16) "offices_without" "offices_without" (.str "postbooks.cuts" 288) 124),
 (nat_lit 129, { cls := .type "code", data := .fields #[.str "through" 334, .str "through" 335, .str "/claim/cut.py" 336, .int 44 0, .int 3 0, .int 0 0, .int 0 0, .int 3 0, .ref 126, .bool true, .int 181 0, .ref 127, .none, .none, .none, .ref 128, .int 337 0, .int 44 0, .str "/claim/cut.py" 338] }),
 (nat_lit 130, fo (Of.top 17) "through" "through" (.str "postbooks.cuts" 288) 129),
 (nat_lit 136, { cls := .type "code", data := .fields #[.str "place_kept" 340, .str "place_kept" 341, .str "/claim/cut.py" 342, .int 49 0, .int 3 0, .int 0 0, .int 0 0, .int 3 0, .ref 131, .bool true, .int 181 0, .ref 132, .none, .ref 133, .ref 134, .ref 135, .int 348 0, .int 49 0, .str "/claim/cut.py" 349] }),
 (nat_lit 137, fo (Of.top 18) "place_kept" "place_kept" (.str "postbooks.cuts" 288) 136),
 (nat_lit 150, { cls := .type "code", data := .fields #[.str "__init__" 365, .str "Office.__init__" 366, .str "/claim/cut.py" 367, .int 57 0, .int 4 0, .int 0 0, .int 0 0, .int 3 0, .ref 145, .bool true, .int 181 0, .ref 146, .none, .ref 147, .ref 148, .ref 149, .int 372 0, .int 57 0, .str "/claim/cut.py" 373] }),
 (nat_lit 151, fo (L2.inClass (Of.top 20) 0) "__init__" "Office.__init__" (.str "postbooks.office" 351) 150),
 (nat_lit 157, { cls := .type "code", data := .fields #[.str "pay" 375, .str "Office.pay" 376, .str "/claim/cut.py" 377, .int 65 0, .int 3 0, .int 0 0, .int 0 0, .int 3 0, .ref 152, .bool true, .int 181 0, .ref 153, .none, .ref 154, .ref 155, .ref 156, .int 381 0, .int 65 0, .str "/claim/cut.py" 382] }),
 (nat_lit 158, fo (L2.inClass (Of.top 20) 1) "pay" "Office.pay" (.str "postbooks.office" 351) 157),
 (nat_lit 164, { cls := .type "code", data := .fields #[.str "cut" 384, .str "Office.cut" 385, .str "/claim/cut.py" 386, .int 71 0, .int 1 0, .int 0 0, .int 0 0, .int 3 0, .ref 159, .bool true, .int 181 0, .ref 160, .none, .ref 161, .ref 162, .ref 163, .int 388 0, .int 71 0, .str "/claim/cut.py" 389] }),
 (nat_lit 165, fo (L2.inClass (Of.top 20) 2) "cut" "Office.cut" (.str "postbooks.office" 351) 164),
 (nat_lit 171, { cls := .type "code", data := .fields #[.str "take" 391, .str "Office.take" 392, .str "/claim/cut.py" 393, .int 74 0, .int 2 0, .int 0 0, .int 0 0, .int 3 0, .ref 166, .bool true, .int 181 0, .ref 167, .none, .ref 168, .ref 169, .ref 170, .int 398 0, .int 74 0, .str "/claim/cut.py" 399] }),
 (nat_lit 172, fo (L2.inClass (Of.top 20) 3) "take" "Office.take" (.str "postbooks.office" 351) 171),
 (nat_lit 178, { cls := .type "code", data := .fields #[.str "send" 401, .str "Office.send" 402, .str "/claim/cut.py" 403, .int 84 0, .int 2 0, .int 0 0, .int 0 0, .int 3 0, .ref 173, .bool true, .int 181 0, .ref 174, .none, .ref 175, .ref 176, .ref 177, .int 407 0, .int 84 0, .str "/claim/cut.py" 408] }),
 (nat_lit 179, fo (L2.inClass (Of.top 20) 4) "send" "Office.send" (.str "postbooks.office" 351) 178),
 (nat_lit 183, { cls := .type "code", data := .fields #[.str "is_new" 410, .str "Office.is_new" 411, .str "/claim/cut.py" 412, .int 90 0, .int 2 0, .int 0 0, .int 0 0, .int 3 0, .ref 180, .bool true, .int 181 0, .ref 181, .none, .none, .none, .ref 182, .int 413 0, .int 90 0, .str "/claim/cut.py" 414] }),
 (nat_lit 184, fo (L2.inClass (Of.top 20) 5) "is_new" "Office.is_new" (.str "postbooks.office" 351) 183),
 (nat_lit 190, { cls := .type "code", data := .fields #[.str "hand_over" 416, .str "Office.hand_over" 417, .str "/claim/cut.py" 418, .int 94 0, .int 2 0, .int 0 0, .int 0 0, .int 3 0, .ref 185, .bool true, .int 181 0, .ref 186, .none, .ref 187, .ref 188, .ref 189, .int 422 0, .int 94 0, .str "/claim/cut.py" 423] }),
 (nat_lit 191, fo (L2.inClass (Of.top 20) 6) "hand_over" "Office.hand_over" (.str "postbooks.office" 351) 190),
 (nat_lit 197, { cls := .type "code", data := .fields #[.str "write_in_book" 425, .str "Office.write_in_book" 426, .str "/claim/cut.py" 427, .int 102 0, .int 3 0, .int 0 0, .int 0 0, .int 3 0, .ref 192, .bool true, .int 181 0, .ref 193, .none, .ref 194, .ref 195, .ref 196, .int 432 0, .int 102 0, .str "/claim/cut.py" 433] }),
 (nat_lit 198, fo (L2.inClass (Of.top 20) 7) "write_in_book" "Office.write_in_book" (.str "postbooks.office" 351) 197),
 (nat_lit 200, { cls := .type "dict", data := .dict #[de P "__module__" 360 (.str "postbooks.office" 351), de P "__firstlineno__" 364 (.int 55 363), de P "__init__" 374 (.ref 151), de P "pay" 383 (.ref 158), de P "cut" 390 (.ref 165), de P "take" 400 (.ref 172), de P "send" 409 (.ref 179), de P "is_new" 415 (.ref 184), de P "hand_over" 424 (.ref 191), de P "write_in_book" 434 (.ref 198), de P "__static_attributes__" 441 (.ref 199), de P "__dict__" 443 (.ref 202), de P "__weakref__" 445 (.ref 203), de P "__doc__" 446 (.none)] 4 }),
 (nat_lit 201, { cls := .type "type", data := .cls { name := "Office", bases := [.type "object"], mro := [.ref 201, .type "object"], ns := 200, qualname := "Office" }, slots := #[none, none, some (.str "Office" 353), some (.str "Office" 361), some (.builtin "object.__new__"), some (.bool true)] }),
 (nat_lit 202, { cls := .type "getset_descriptor", data := .fields #[.str "__dict__" 442, .ref 201, .builtin "function.__dict__", .builtin "function.__dict__#set"] }),
 (nat_lit 203, { cls := .type "getset_descriptor", data := .fields #[.str "__weakref__" 444, .ref 201, .builtin "ExceptionGroup.__weakref__", .none] }),
 (nat_lit 211, { cls := .type "code", data := .fields #[.str "first_ready" 449, .str "first_ready" 450, .str "/claim/cut.py" 451, .int 107 0, .int 2 0, .int 0 0, .int 0 0, .int 3 0, .ref 206, .bool true, .int 181 0, .ref 207, .none, .ref 208, .ref 209, .ref 210, .int 455 0, .int 107 0, .str "/claim/cut.py" 456] }),
 (nat_lit 212, fo (Of.top 21) "first_ready" "first_ready" (.str "postbooks.office" 351) 211),
 (nat_lit 218, { cls := .type "code", data := .fields #[.str "coins_for" 458, .str "coins_for" 459, .str "/claim/cut.py" 460, .int 112 0, .int 2 0, .int 0 0, .int 0 0, .int 3 0, .ref 213, .bool true, .int 181 0, .ref 214, .none, .ref 215, .ref 216, .ref 217, .int 463 0, .int 112 0, .str "/claim/cut.py" 464] }),
 (nat_lit 219, fo (Of.top 22) "coins_for" "coins_for" (.str "postbooks.office" 351) 218),
 (nat_lit 225, { cls := .type "code", data := .fields #[.str "sent_or_none" 466, .str "sent_or_none" 467, .str "/claim/cut.py" 468, .int 116 0, .int 2 0, .int 0 0, .int 0 0, .int 3 0, .ref 220, .bool true, .int 181 0, .ref 221, .none, .ref 222, .ref 223, .ref 224, .int 471 0, .int 116 0, .str "/claim/cut.py" 472] }),
 (nat_lit 226, fo (Of.top 23) "sent_or_none" "sent_or_none" (.str "postbooks.office" 351) 225),
 (nat_lit 232, { cls := .type "code", data := .fields #[.str "taken_by" 474, .str "taken_by" 475, .str "/claim/cut.py" 476, .int 123 0, .int 2 0, .int 0 0, .int 0 0, .int 3 0, .ref 227, .bool true, .int 181 0, .ref 228, .none, .ref 229, .ref 230, .ref 231, .int 481 0, .int 123 0, .str "/claim/cut.py" 482] }),
 (nat_lit 233, fo (Of.top 24) "taken_by" "taken_by" (.str "postbooks.office" 351) 232),
 (nat_lit 244, { cls := .type "code", data := .fields #[.str "__init__" 498, .str "Course.__init__" 499, .str "/claim/cut.py" 500, .int 131 0, .int 3 0, .int 0 0, .int 0 0, .int 3 0, .ref 241, .bool true, .int 181 0, .ref 242, .none, .none, .none, .ref 243, .int 501 0, .int 131 0, .str "/claim/cut.py" 502] }),
 (nat_lit 245, fo (L2.inClass (Of.top 26) 0) "__init__" "Course.__init__" (.str "postbooks.story" 484) 244),
 (nat_lit 251, { cls := .type "code", data := .fields #[.str "do" 504, .str "Course.do" 505, .str "/claim/cut.py" 506, .int 137 0, .int 2 0, .int 0 0, .int 0 0, .int 3 0, .ref 246, .bool true, .int 181 0, .ref 247, .none, .ref 248, .ref 249, .ref 250, .int 509 0, .int 137 0, .str "/claim/cut.py" 510] }),
 (nat_lit 252, fo (L2.inClass (Of.top 26) 1) "do" "Course.do" (.str "postbooks.story" 484) 251),
 (nat_lit 258, { cls := .type "code", data := .fields #[.str "answer_to" 512, .str "Course.answer_to" 513, .str "/claim/cut.py" 514, .int 140 0, .int 2 0, .int 0 0, .int 0 0, .int 3 0, .ref 253, .bool true, .int 181 0, .ref 254, .none, .ref 255, .ref 256, .ref 257, .int 517 0, .int 140 0, .str "/claim/cut.py" 518] }),
 (nat_lit 259, fo (L2.inClass (Of.top 26) 2) "answer_to" "Course.answer_to" (.str "postbooks.story" 484) 258),
 (nat_lit 265, { cls := .type "code", data := .fields #[.str "letter_sent" 520, .str "Course.letter_sent" 521, .str "/claim/cut.py" 522, .int 149 0, .int 3 0, .int 0 0, .int 0 0, .int 3 0, .ref 260, .bool true, .int 181 0, .ref 261, .none, .ref 262, .ref 263, .ref 264, .int 528 0, .int 149 0, .str "/claim/cut.py" 529] }),
 (nat_lit 266, fo (L2.inClass (Of.top 26) 3) "letter_sent" "Course.letter_sent" (.str "postbooks.story" 484) 265),
 (nat_lit 272, { cls := .type "code", data := .fields #[.str "letter_carried" 531, .str "Course.letter_carried" 532, .str "/claim/cut.py" 533, .int 158 0, .int 3 0, .int 0 0, .int 0 0, .int 3 0, .ref 267, .bool true, .int 181 0, .ref 268, .none, .ref 269, .ref 270, .ref 271, .int 537 0, .int 158 0, .str "/claim/cut.py" 538] }),
 (nat_lit 273, fo (L2.inClass (Of.top 26) 4) "letter_carried" "Course.letter_carried" (.str "postbooks.story" 484) 272),
 (nat_lit 277, { cls := .type "code", data := .fields #[.str "letters_brought" 540, .str "Course.letters_brought" 541, .str "/claim/cut.py" 542, .int 163 0, .int 3 0, .int 0 0, .int 0 0, .int 3 0, .ref 274, .bool true, .int 181 0, .ref 275, .none, .none, .none, .ref 276, .int 543 0, .int 163 0, .str "/claim/cut.py" 544] }),
 (nat_lit 278, fo (L2.inClass (Of.top 26) 5) "letters_brought" "Course.letters_brought" (.str "postbooks.story" 484) 277),
 (nat_lit 280, { cls := .type "dict", data := .dict #[de P "__module__" 493 (.str "postbooks.story" 484), de P "__firstlineno__" 497 (.int 129 496), de P "__init__" 503 (.ref 245), de P "do" 511 (.ref 252), de P "answer_to" 519 (.ref 259), de P "letter_sent" 530 (.ref 266), de P "letter_carried" 539 (.ref 273), de P "letters_brought" 545 (.ref 278), de P "__static_attributes__" 550 (.ref 279), de P "__dict__" 552 (.ref 282), de P "__weakref__" 554 (.ref 283), de P "__doc__" 555 (.none)] 4 }),
 (nat_lit 281, { cls := .type "type", data := .cls { name := "Course", bases := [.type "object"], mro := [.ref 281, .type "object"], ns := 280, qualname := "Course" }, slots := #[none, none, some (.str "Course" 486), some (.str "Course" 494), some (.builtin "object.__new__"), some (.bool true)] }),
 (nat_lit 282, { cls := .type "getset_descriptor", data := .fields #[.str "__dict__" 551, .ref 281, .builtin "function.__dict__", .builtin "function.__dict__#set"] }),
 (nat_lit 283, { cls := .type "getset_descriptor", data := .fields #[.str "__weakref__" 553, .ref 281, .builtin "ExceptionGroup.__weakref__", .none] }),
 (nat_lit 291, { cls := .type "code", data := .fields #[.str "course_of" 558, .str "course_of" 559, .str "/claim/cut.py" 560, .int 169 0, .int 3 0, .int 0 0, .int 0 0, .int 3 0, .ref 286, .bool true, .int 181 0, .ref 287, .none, .ref 288, .ref 289, .ref 290, .int 566 0, .int 169 0, .str "/claim/cut.py" 567] }),
 (nat_lit 292, fo (Of.top 27) "course_of" "course_of" (.str "postbooks.story" 484) 291),
 (nat_lit 298, { cls := .type "code", data := .fields #[.str "letters_of" 569, .str "letters_of" 570, .str "/claim/cut.py" 571, .int 174 0, .int 3 0, .int 0 0, .int 0 0, .int 3 0, .ref 293, .bool true, .int 181 0, .ref 294, .none, .ref 295, .ref 296, .ref 297, .int 575 0, .int 174 0, .str "/claim/cut.py" 576] }),
 (nat_lit 299, fo (Of.top 28) "letters_of" "letters_of" (.str "postbooks.story" 484) 298),
 (nat_lit 305, { cls := .type "code", data := .fields #[.str "events_of" 578, .str "events_of" 579, .str "/claim/cut.py" 580, .int 176 0, .int 3 0, .int 0 0, .int 0 0, .int 3 0, .ref 300, .bool true, .int 181 0, .ref 301, .none, .ref 302, .ref 303, .ref 304, .int 584 0, .int 176 0, .str "/claim/cut.py" 585] }),
 (nat_lit 306, fo (Of.top 29) "events_of" "events_of" (.str "postbooks.story" 484) 305),
 (nat_lit 310, { cls := .type "code", data := .fields #[.str "kept_of" 587, .str "kept_of" 588, .str "/claim/cut.py" 589, .int 178 0, .int 3 0, .int 0 0, .int 0 0, .int 3 0, .ref 307, .bool true, .int 181 0, .ref 308, .none, .none, .none, .ref 309, .int 590 0, .int 178 0, .str "/claim/cut.py" 591] }),
 (nat_lit 311, fo (Of.top 30) "kept_of" "kept_of" (.str "postbooks.story" 484) 310),
 (nat_lit 317, { cls := .type "code", data := .fields #[.str "_law_so" 595, .str "_law_so" 596, .str "/claim/cut.py" 597, .int 181 0, .int 2 0, .int 0 0, .int 0 0, .int 3 0, .ref 312, .bool true, .int 181 0, .ref 313, .none, .ref 314, .ref 315, .ref 316, .int 601 0, .int 181 0, .str "/claim/cut.py" 602] }),
 (nat_lit 318, fo (Of.top 32) "_law_so" "_law_so" (.str "law_postbooks_k12_under_way" 593) 317),
 (nat_lit 324, { cls := .type "code", data := .fields #[.str "_law_whole" 604, .str "_law_whole" 605, .str "/claim/cut.py" 606, .int 202 0, .int 1 0, .int 0 0, .int 0 0, .int 3 0, .ref 319, .bool true, .int 181 0, .ref 320, .none, .ref 321, .ref 322, .ref 323, .int 608 0, .int 202 0, .str "/claim/cut.py" 609] }),
 (nat_lit 325, fo (Of.top 33) "_law_whole" "_law_whole" (.str "law_postbooks_k12_under_way" 593) 324),
 (nat_lit 331, { cls := .type "code", data := .fields #[.str "_law_at" 611, .str "_law_at" 612, .str "/claim/cut.py" 613, .int 204 0, .int 2 0, .int 0 0, .int 0 0, .int 3 0, .ref 326, .bool true, .int 181 0, .ref 327, .none, .ref 328, .ref 329, .ref 330, .int 616 0, .int 204 0, .str "/claim/cut.py" 617] }),
 (nat_lit 332, fo (Of.top 34) "_law_at" "_law_at" (.str "law_postbooks_k12_under_way" 593) 331),
 (nat_lit 338, { cls := .type "code", data := .fields #[.str "_law_is_name" 619, .str "_law_is_name" 620, .str "/claim/cut.py" 621, .int 208 0, .int 2 0, .int 0 0, .int 0 0, .int 3 0, .ref 333, .bool true, .int 181 0, .ref 334, .none, .ref 335, .ref 336, .ref 337, .int 624 0, .int 208 0, .str "/claim/cut.py" 625] }),
 (nat_lit 339, fo (Of.top 35) "_law_is_name" "_law_is_name" (.str "law_postbooks_k12_under_way" 593) 338),
 (nat_lit 345, { cls := .type "code", data := .fields #[.str "_law_are_events" 627, .str "_law_are_events" 628, .str "/claim/cut.py" 629, .int 214 0, .int 2 0, .int 0 0, .int 0 0, .int 3 0, .ref 340, .bool true, .int 181 0, .ref 341, .none, .ref 342, .ref 343, .ref 344, .int 633 0, .int 214 0, .str "/claim/cut.py" 634] }),
 (nat_lit 346, fo (Of.top 36) "_law_are_events" "_law_are_events" (.str "law_postbooks_k12_under_way" 593) 345),
 (nat_lit 352, { cls := .type "code", data := .fields #[.str "_law_is_what" 636, .str "_law_is_what" 637, .str "/claim/cut.py" 638, .int 225 0, .int 3 0, .int 0 0, .int 0 0, .int 3 0, .ref 347, .bool true, .int 181 0, .ref 348, .none, .ref 349, .ref 350, .ref 351, .int 642 0, .int 225 0, .str "/claim/cut.py" 643] }),
 (nat_lit 353, fo (Of.top 37) "_law_is_what" "_law_is_what" (.str "law_postbooks_k12_under_way" 593) 352),
 (nat_lit 359, { cls := .type "code", data := .fields #[.str "_law_are_letters" 645, .str "_law_are_letters" 646, .str "/claim/cut.py" 647, .int 235 0, .int 2 0, .int 0 0, .int 0 0, .int 3 0, .ref 354, .bool true, .int 181 0, .ref 355, .none, .ref 356, .ref 357, .ref 358, .int 652 0, .int 235 0, .str "/claim/cut.py" 653] }),
 (nat_lit 360, fo (Of.top 38) "_law_are_letters" "_law_are_letters" (.str "law_postbooks_k12_under_way" 593) 359),
 (nat_lit 366, { cls := .type "code", data := .fields #[.str "_law_called" 655, .str "_law_called" 656, .str "/claim/cut.py" 657, .int 249 0, .int 1 0, .int 0 0, .int 0 0, .int 3 0, .ref 361, .bool true, .int 181 0, .ref 362, .none, .ref 363, .ref 364, .ref 365, .int 659 0, .int 249 0, .str "/claim/cut.py" 660] }),
 (nat_lit 367, fo (Of.top 39) "_law_called" "_law_called" (.str "law_postbooks_k12_under_way" 593) 366),
 (nat_lit 373, { cls := .type "code", data := .fields #[.str "_law_deed_of" 662, .str "_law_deed_of" 663, .str "/claim/cut.py" 664, .int 251 0, .int 3 0, .int 0 0, .int 0 0, .int 3 0, .ref 368, .bool true, .int 181 0, .ref 369, .none, .ref 370, .ref 371, .ref 372, .int 673 0, .int 251 0, .str "/claim/cut.py" 674] }),
 (nat_lit 374, fo (Of.top 40) "_law_deed_of" "_law_deed_of" (.str "law_postbooks_k12_under_way" 593) 373),
 (nat_lit 380, { cls := .type "code", data := .fields #[.str "_law_drawn" 676, .str "_law_drawn" 677, .str "/claim/cut.py" 678, .int 266 0, .int 2 0, .int 0 0, .int 0 0, .int 3 0, .ref 375, .bool true, .int 181 0, .ref 376, .none, .ref 377, .ref 378, .ref 379, .int 683 0, .int 266 0, .str "/claim/cut.py" 684] }),
 (nat_lit 381, fo (Of.top 41) "_law_drawn" "_law_drawn" (.str "law_postbooks_k12_under_way" 593) 380),
 (nat_lit 387, { cls := .type "code", data := .fields #[.str "_law_ended" 686, .str "_law_ended" 687, .str "/claim/cut.py" 688, .int 271 0, .int 2 0, .int 0 0, .int 0 0, .int 3 0, .ref 382, .bool true, .int 181 0, .ref 383, .none, .ref 384, .ref 385, .ref 386, .int 694 0, .int 271 0, .str "/claim/cut.py" 695] }),
 (nat_lit 388, fo (Of.top 42) "_law_ended" "_law_ended" (.str "law_postbooks_k12_under_way" 593) 387),
 (nat_lit 394, { cls := .type "code", data := .fields #[.str "_law_are_states" 697, .str "_law_are_states" 698, .str "/claim/cut.py" 699, .int 278 0, .int 2 0, .int 0 0, .int 0 0, .int 3 0, .ref 389, .bool true, .int 181 0, .ref 390, .none, .ref 391, .ref 392, .ref 393, .int 704 0, .int 278 0, .str "/claim/cut.py" 705] }),
 (nat_lit 395, fo (Of.top 43) "_law_are_states" "_law_are_states" (.str "law_postbooks_k12_under_way" 593) 394),
 (nat_lit 401, { cls := .type "code", data := .fields #[.str "_law_ahead_of" 707, .str "_law_ahead_of" 708, .str "/claim/cut.py" 709, .int 290 0, .int 3 0, .int 0 0, .int 0 0, .int 3 0, .ref 396, .bool true, .int 181 0, .ref 397, .none, .ref 398, .ref 399, .ref 400, .int 715 0, .int 290 0, .str "/claim/cut.py" 716] }),
 (nat_lit 402, fo (Of.top 44) "_law_ahead_of" "_law_ahead_of" (.str "law_postbooks_k12_under_way" 593) 401),
 (nat_lit 408, { cls := .type "code", data := .fields #[.str "_law_is_way" 718, .str "_law_is_way" 719, .str "/claim/cut.py" 720, .int 298 0, .int 3 0, .int 0 0, .int 0 0, .int 3 0, .ref 403, .bool true, .int 181 0, .ref 404, .none, .ref 405, .ref 406, .ref 407, .int 726 0, .int 298 0, .str "/claim/cut.py" 727] }),
 (nat_lit 409, fo (Of.top 45) "_law_is_way" "_law_is_way" (.str "law_postbooks_k12_under_way" 593) 408),
 (nat_lit 413, { cls := .type "code", data := .fields #[.str "_law_one_cut" 729, .str "_law_one_cut" 730, .str "/claim/cut.py" 731, .int 312 0, .int 4 0, .int 0 0, .int 0 0, .int 3 0, .ref 410, .bool true, .int 181 0, .ref 411, .none, .none, .none, .ref 412, .int 732 0, .int 312 0, .str "/claim/cut.py" 733] }),
 (nat_lit 414, fo (Of.top 46) "_law_one_cut" "_law_one_cut" (.str "law_postbooks_k12_under_way" 593) 413),
 (nat_lit 420, { cls := .type "code", data := .fields #[.str "law" 735, .str "law" 736, .str "/claim/cut.py" 737, .int 340 0, .int 1 0, .int 0 0, .int 0 0, .int 3 0, .ref 415, .bool true, .int 181 0, .ref 416, .none, .ref 417, .ref 418, .ref 419, .int 746 0, .int 340 0, .str "/claim/cut.py" 747] }),
 (nat_lit 421, fo (Of.top 47) "law" "law" (.str "law_postbooks_k12_under_way" 593) 420)]
abbrev AS : List Addr := [2, 3, 20, 21, 27, 28, 34, 35, 39, 40, 49, 50, 51, 62, 63, 74, 75, 86, 87, 93, 94, 100, 101, 105, 106, 112, 113, 119, 120, 124, 125, 129, 130, 136, 137, 150, 151, 157, 158, 164, 165, 171, 172, 178, 179, 183, 184, 190, 191, 197, 198, 200, 201, 202, 203, 211, 212, 218, 219, 225, 226, 232, 233, 244, 245, 251, 252, 258, 259, 265, 266, 272, 273, 277, 278, 280, 281, 282, 283, 291, 292, 298, 299, 305, 306, 310, 311, 317, 318, 324, 325, 331, 332, 338, 339, 345, 346, 352, 353, 359, 360, 366, 367, 373, 374, 380, 381, 387, 388, 394, 395, 401, 402, 408, 409, 413, 414, 420, 421]
abbrev EV : Env := { scope := PR.main.scope, locals := mainNs, globals := mainNs, cells := [], code := .ref 13, frame := some 14 }
noncomputable def ob0 (P : Params) : Obj := boot_o_0 P
noncomputable def ob1 (P : Params) : Obj := boot_o_1 P
noncomputable def ob2 (P : Params) : Obj := boot_o_2 P
noncomputable def ob3 (P : Params) : Obj := boot_o_3 P
noncomputable def ob4 (P : Params) : Obj := boot_o_4 P
noncomputable def ob5 (P : Params) : Obj := boot_o_5 P
noncomputable def ob6 (P : Params) : Obj := boot_o_6 P
noncomputable def ob7 (P : Params) : Obj := boot_o_7 P
noncomputable def ob8 (P : Params) : Obj := boot_o_8 P
noncomputable def ob9 (P : Params) : Obj := boot_o_9 P
noncomputable def ob10 (P : Params) : Obj := boot_o_10 P
def ob11 (P : Params) : Obj := ({ cls := .type "tuple", data := .seq #[] } : Obj)
def ob12 (P : Params) : Obj := ({ cls := .none, data := .fields #[] } : Obj)
def ob13 (P : Params) : Obj := ({ cls := .type "code", data := .fields #[.str "<module>" 182, .str "<module>" 183, .str "/claim/cut.py" 184, .int 1 0, .int 0 0, .int 0 0, .int 0 0, .int 0 0, .ref 11, .bool false, .int 181 0, .ref 12, .none, .none, .none, .none, .int 185 0, .int 1 0, .str "/claim/cut.py" 186] } : Obj)
def ob14 (P : Params) : Obj := ({ cls := .type "frame", slots := #[some (.ref 13), some (.ref 3), some (.ref 3), none, some (.str "__main__" 164), none, some (.ref 0)] } : Obj)
noncomputable def hA (P : Params) : Heap := { objs := Array.mk [ob0 P, ob1 P, ob2 P, ob3 P, ob4 P, ob5 P, ob6 P, ob7 P, ob8 P, ob9 P, ob10 P, ob11 P, ob12 P, ob13 P, ob14 P] }
noncomputable def tB (P : Params) : BT := .node (ob0 P) (.node (ob1 P) (.node (ob3 P) (.node (ob7 P) (BT.nil) (BT.nil)) (.node (ob11 P) (BT.nil) (BT.nil))) (.node (ob5 P) (.node (ob9 P) (BT.nil) (BT.nil)) (.node (ob13 P) (BT.nil) (BT.nil)))) (.node (ob2 P) (.node (ob4 P) (.node (ob8 P) (BT.nil) (BT.nil)) (.node (ob12 P) (BT.nil) (BT.nil))) (.node (ob6 P) (.node (ob10 P) (BT.nil) (BT.nil)) (.node (ob14 P) (BT.nil) (BT.nil))))
noncomputable abbrev SA (w : World) (os : OsState) : Shared := { heap := hA w.params, toks := 187, os := os }
noncomputable abbrev SB (w : World) (os : OsState) : SharedT := { tree := tB w.params, n := 15, life := { }, gens := Array.mk [], drawn := { }, toks := 187, os := os }
abbrev Q : Program := view PR [1, 2, 3, 4, 6, 7, 8, 9, 11, 12, 13, 14, 15, 16, 17, 18, 20, 21, 22, 23, 24, 26, 27, 28, 29, 30, 32, 33, 34, 35, 36, 37, 38, 39, 40, 41, 42, 43, 44, 45, 46, 47]
noncomputable abbrev XT : Shared → Bool := fun s => xlAt Q [] s && recOk (RowW.records PySem.Challenge.rw_postbooks_k12_under_way.row.toRowW) s
abbrev YF (s : Shared) : List (Option Obj) := AS.map s.heap.get?
abbrev YA (w : World) : List (Option Obj) := (KX w.params).map fun p => some p.2
theorem size : ∀ w : World, ((boot_heap w.params).isNs mainGlobals && (Array.mk [] : Array GenState).size == 0, (boot_heap w.params).objs.size, (boot_heap w.params).nsMap mainGlobals "__annotations__") = (true, 11, some (.ref 6)) := fun w => by kernel_rfl
theorem pre : ∀ w : World, (fun os => topGo treeTable PR w 11 (some (.ref 6)) 12 ⟨boot_heap w.params, Array.mk [], boot_drawn, boot_toks, os⟩ (topStub PR)) = fun os => some (SA w os, ⟨denote treeTable (Hd.cB PR EV), Hd.cB PR EV, ⟨0, 0, 0, 0⟩, [topFrame ⟨0, 0, 0, 0⟩]⟩) := fun w => by kernel_rfl
theorem blk : ∀ w : World, (fun os => segRun treeTable PR w 11 (some (.ref 6)) 1 1 (SA w os) (blockOf (behindTheImports PR) EV (Hd.cB PR EV) ⟨0, 0, 0, 0⟩ [topFrame ⟨0, 0, 0, 0⟩])) = fun os => some (.next, (SB w os).abs, Hd.cB PR EV, ⟨0, 0, 0, 0⟩) := fun w => by kernel_rfl
theorem run : ∀ w : World, (fun os => (segRunT treeTable PR w 11 (some (.ref 6)) 1 2810 (SB w os) (piecesOf (behindTheImports PR) EV (Hd.cB PR EV) ⟨0, 0, 0, 0⟩ [topFrame ⟨0, 0, 0, 0⟩])).map fun r => (r.1, r.2.2.1, r.2.2.2, (topRun treeTable PR w 11 (some (.ref 6)) 2 r.2.1.abs ⟨doneF .next, Hd.cB PR EV, ⟨340, 0, 358, 15⟩, [topFrame ⟨0, 0, 0, 0⟩]⟩).map (seenAt PR Q [] XT (fun s => AS.map s.heap.get?) w))) =
      fun os => some (.next, Hd.cB PR EV, ⟨340, 0, 358, 15⟩, some (true, openGood Q [], (KX w.params).map fun p => some p.2)) := by
  intro w
  unfold seenAt openSeen openGood XT Q SB tB ob0 ob1 ob2 ob3 ob4 ob5 ob6 ob7 ob8 ob9 ob10 ob11 ob12 ob13 ob14 EV Hd.cB
  rewrite [PySem.W.Fast.te5923862056798008813, PySem.W.Fast.te5160383126252970620, PySem.W.Fast.te3399658132070893891, PySem.W.Fast.te5991557255702980513, PySem.W.Fast.te10880121769531294198, PySem.W.Fast.te821141287760084731, PySem.W.Fast.te7409074990110511671, PySem.W.Fast.te13664370479719496447, PySem.W.Fast.te14722251495701143533, PySem.W.Fast.te10994771534591457954, PySem.W.Fast.te2368527892694137696, PySem.W.Fast.te479339242167458305, PySem.W.Fast.te16090120013241838585, PySem.W.Fast.te3247288618530077131, PySem.W.Fast.te2386780881361962483, PySem.W.Fast.te11698064438423848299, PySem.W.Fast.te7317090234206586261, PySem.W.Fast.te7369524293546568484, PySem.W.Fast.te14082659384304107361, PySem.W.Fast.te14364793385576792824, PySem.W.Fast.te10110043849684766642]
  kernel_rfl
theorem left : LeftO PySem.Challenge.rw_postbooks_k12_under_way.row.prog Q [] XT YF YA 5744 :=
 show LeftO PR Q [] XT YF YA 5744 from
 left_T (boot_open rfl rfl fun _ => rfl) size pre blk run rfl
end Hd
namespace Of
open PySem L2 L3 L4 L6 L7
theorem vV2 {K : PySem.W.Frag} {C D : Addr} (q : (PySem.W.clsIn K D).isSome = true) (t : PySem.W.typeIn K (.ref D) = some (.type "type")) (u : PySem.W.subIn K (.ref C) (.ref D) = some true) (b : PySem.W.subIn K (.ref D) (.type "BaseException") = some true) : yQ0 K C D = true := by
 obtain ⟨cd, q⟩ := Option.isSome_iff_exists.mp q
 unfold yQ0 PySem.W.kitCls
 rw [b]
 simp only [q, t, u, Option.isSome_some, Bool.true_and, beq_self_eq_true, if_true]
theorem xX6 (K : PySem.W.Frag) (st : Stmt) (x q : Str) (pm : Value) (c f : Nat) (l : List.lookup f K = some (Hd.fo st x q pm c)) (c' : PySem.W.codeIn K (.ref c) q = true) (k : PySem.W.keepIn K (.ref f) = true) : Fun K x q st f (PySem.W.fnOf x q (defArgs st) (defBody st) (defScope st) .none .none .none pm none (.ref c) .none) := fun_mk (st := st) l c' k
theorem len_1 {α : Type} {us : List α} (h : us.length = 1) : ∃ x0, us = [x0] := by
 match us, h with
 | [x0], _ => exact ⟨x0, rfl⟩
theorem yV3 {α : Type} {us : List α} (h : us.length = 2) : ∃ x0 x1, us = [x0, x1] := by
 match us, h with
 | [x0, x1], _ => exact ⟨x0, x1, rfl⟩
theorem yZ0 {α : Type} {us : List α} (h : us.length = 3) : ∃ x0 x1 x2, us = [x0, x1, x2] := by
 match us, h with
 | [x0, x1, x2], _ => exact ⟨x0, x1, x2, rfl⟩
theorem len_4 {α : Type} {us : List α} (h : us.length = 4) : ∃ x0 x1 x2 x3, us = [x0, x1, x2, x3] := by
 match us, h with
 | [x0, x1, x2, x3], _ => exact ⟨x0, x1, x2, x3, rfl⟩
theorem all_mk {l : PySem.W.OpenLaw} {w : World} {h : Heap} {mg : Str → Option Value} {fa : Addr} (X : (Hd.KX w.params).In h) (G : h.Ns mainGlobals mg) (hfa : mg "law" = some (.ref fa)) : ∃ fd : FuncData, (∀ (s : Shared) (v : Value), BindsTo s fd ⟨[v], []⟩ [("_law_script", v)]) ∧ ∀ base : Heap, (Hd.KX w.params).In base → base.Ns mainGlobals mg → FnOk l.prog w (Hd.KX w.params) mg base CX0 12 fa fd ["_law_script"] (spLaw (Hd.KX w.params)) := by
 have g1 : ∀ (n : Str) (v : Addr), PySem.W.nsIn (Hd.KX w.params) mainGlobals n = some (some (.ref v)) → mg n = some (.ref v) := fun _ _ => PySem.W.mg_of X G
 have g0 : ∀ n : Str, PySem.W.nsIn (Hd.KX w.params) mainGlobals n = some none → mg n = none := fun _ => PySem.W.mg_none_of X G
 have e := hfa.symm.trans (g1 "law" 421 (by kernel_rfl))
 cases e
 have nA : ∀ (C : Addr) (x : Str), PySem.W.findIn (Hd.KX w.params) (.ref C) x = some none → yV1 (Hd.KX w.params) C x := fun _ _ h => h
 have T : Txt (Hd.KX w.params) mg 201 21 28 35 40 212 219 := ⟨⟨by kernel_rfl, by kernel_rfl, by kernel_rfl, by kernel_rfl⟩, nA _ _ (by kernel_rfl), nA _ _ (by kernel_rfl), nA _ _ (by kernel_rfl), nA _ _ (by kernel_rfl), nA _ _ (by kernel_rfl), nA _ _ (by kernel_rfl), g1 "Office" 201 (by kernel_rfl), g1 "name_of" 21 (by kernel_rfl), g1 "is_there" 28 (by kernel_rfl), g1 "counted" 35 (by kernel_rfl), g1 "ready" 40 (by kernel_rfl), g1 "first_ready" 212 (by kernel_rfl), g1 "coins_for" 219 (by kernel_rfl), g0 "len" (by kernel_rfl), g0 "range" (by kernel_rfl), g0 "all" (by kernel_rfl)⟩
 have CT : CTx (Hd.KX w.params) mg 281 := ⟨⟨by kernel_rfl, by kernel_rfl, by kernel_rfl, by kernel_rfl⟩, nA _ _ (by kernel_rfl), nA _ _ (by kernel_rfl), nA _ _ (by kernel_rfl), nA _ _ (by kernel_rfl), g1 "Course" 281 (by kernel_rfl)⟩
 have B : Bts mg := ⟨g0 "len" (by kernel_rfl), g0 "range" (by kernel_rfl), g0 "isinstance" (by kernel_rfl), g0 "int" (by kernel_rfl), g0 "bool" (by kernel_rfl), g0 "tuple" (by kernel_rfl), g0 "list" (by kernel_rfl), g0 "str" (by kernel_rfl), g0 "dict" (by kernel_rfl)⟩
 have S : Sxt mg 318 := ⟨g1 "_law_so" 318 (by kernel_rfl), g0 "isinstance" (by kernel_rfl), g0 "bool" (by kernel_rfl), g0 "int" (by kernel_rfl), g0 "str" (by kernel_rfl), g0 "dict" (by kernel_rfl), g0 "tuple" (by kernel_rfl), g0 "list" (by kernel_rfl), g0 "len" (by kernel_rfl), g0 "range" (by kernel_rfl)⟩
 have Z : Exs (Hd.KX w.params) mg 63 50 := ⟨g1 "Poor" 63 (by kernel_rfl), g1 "PostError" 50 (by kernel_rfl), ⟨by kernel_rfl⟩, vV2 (by kernel_rfl) (by kernel_rfl) (by kernel_rfl) (by kernel_rfl), vV2 (by kernel_rfl) (by kernel_rfl) (by kernel_rfl) (by kernel_rfl)⟩
 have FNm := xX6 (Hd.KX w.params) sName "name_of" "name_of" (.str "postbooks.clocks" 187) 20 21 (by kernel_rfl) (by kernel_rfl) (by kernel_rfl)
 have FTh := xX6 (Hd.KX w.params) sThere "is_there" "is_there" (.str "postbooks.clocks" 187) 27 28 (by kernel_rfl) (by kernel_rfl) (by kernel_rfl)
 have FCo := xX6 (Hd.KX w.params) sCounted "counted" "counted" (.str "postbooks.clocks" 187) 34 35 (by kernel_rfl) (by kernel_rfl) (by kernel_rfl)
 have FRe := xX6 (Hd.KX w.params) sReady "ready" "ready" (.str "postbooks.clocks" 187) 39 40 (by kernel_rfl) (by kernel_rfl) (by kernel_rfl)
 have FFi := xX6 (Hd.KX w.params) sFirst "first_ready" "first_ready" (.str "postbooks.office" 351) 211 212 (by kernel_rfl) (by kernel_rfl) (by kernel_rfl)
 have FCf := xX6 (Hd.KX w.params) sCoins "coins_for" "coins_for" (.str "postbooks.office" 351) 218 219 (by kernel_rfl) (by kernel_rfl) (by kernel_rfl)
 have FSn := xX6 (Hd.KX w.params) sSentOr "sent_or_none" "sent_or_none" (.str "postbooks.office" 351) 225 226 (by kernel_rfl) (by kernel_rfl) (by kernel_rfl)
 have FIn := xX6 (Hd.KX w.params) sInit "__init__" "Office.__init__" (.str "postbooks.office" 351) 150 151 (by kernel_rfl) (by kernel_rfl) (by kernel_rfl)
 have FPy := xX6 (Hd.KX w.params) sPay "pay" "Office.pay" (.str "postbooks.office" 351) 157 158 (by kernel_rfl) (by kernel_rfl) (by kernel_rfl)
 have FCu := xX6 (Hd.KX w.params) sCut "cut" "Office.cut" (.str "postbooks.office" 351) 164 165 (by kernel_rfl) (by kernel_rfl) (by kernel_rfl)
 have FTk := xX6 (Hd.KX w.params) sTake "take" "Office.take" (.str "postbooks.office" 351) 171 172 (by kernel_rfl) (by kernel_rfl) (by kernel_rfl)
 have FSd := xX6 (Hd.KX w.params) sSend "send" "Office.send" (.str "postbooks.office" 351) 178 179 (by kernel_rfl) (by kernel_rfl) (by kernel_rfl)
 have FNw := xX6 (Hd.KX w.params) sIsNew "is_new" "Office.is_new" (.str "postbooks.office" 351) 183 184 (by kernel_rfl) (by kernel_rfl) (by kernel_rfl)
 have FHd := xX6 (Hd.KX w.params) sHand "hand_over" "Office.hand_over" (.str "postbooks.office" 351) 190 191 (by kernel_rfl) (by kernel_rfl) (by kernel_rfl)
 have FWr := xX6 (Hd.KX w.params) sWrite "write_in_book" "Office.write_in_book" (.str "postbooks.office" 351) 197 198 (by kernel_rfl) (by kernel_rfl) (by kernel_rfl)
 have FTb := xX6 (Hd.KX w.params) sTaken "taken_by" "taken_by" (.str "postbooks.office" 351) 232 233 (by kernel_rfl) (by kernel_rfl) (by kernel_rfl)
 have FCi := xX6 (Hd.KX w.params) cInit "__init__" "Course.__init__" (.str "postbooks.story" 484) 244 245 (by kernel_rfl) (by kernel_rfl) (by kernel_rfl)
 have FCd := xX6 (Hd.KX w.params) cDo "do" "Course.do" (.str "postbooks.story" 484) 251 252 (by kernel_rfl) (by kernel_rfl) (by kernel_rfl)
 have FCa := xX6 (Hd.KX w.params) cAns "answer_to" "Course.answer_to" (.str "postbooks.story" 484) 258 259 (by kernel_rfl) (by kernel_rfl) (by kernel_rfl)
 have FCs := xX6 (Hd.KX w.params) cSent "letter_sent" "Course.letter_sent" (.str "postbooks.story" 484) 265 266 (by kernel_rfl) (by kernel_rfl) (by kernel_rfl)
 have FCc := xX6 (Hd.KX w.params) cCarr "letter_carried" "Course.letter_carried" (.str "postbooks.story" 484) 272 273 (by kernel_rfl) (by kernel_rfl) (by kernel_rfl)
 have FCb := xX6 (Hd.KX w.params) vX3 "letters_brought" "Course.letters_brought" (.str "postbooks.story" 484) 277 278 (by kernel_rfl) (by kernel_rfl) (by kernel_rfl)
 have FOo := xX6 (Hd.KX w.params) sCourse "course_of" "course_of" (.str "postbooks.story" 484) 291 292 (by kernel_rfl) (by kernel_rfl) (by kernel_rfl)
 have FSi := xX6 (Hd.KX w.params) sStateIn "state_in" "state_in" (.str "postbooks.cuts" 288) 100 101 (by kernel_rfl) (by kernel_rfl) (by kernel_rfl)
 have FSs := xX6 (Hd.KX w.params) sStates "states" "states" (.str "postbooks.cuts" 288) 93 94 (by kernel_rfl) (by kernel_rfl) (by kernel_rfl)
 have FUw := xX6 (Hd.KX w.params) sUnderWay "under_way" "under_way" (.str "postbooks.cuts" 288) 105 106 (by kernel_rfl) (by kernel_rfl) (by kernel_rfl)
 have FTa := xX6 (Hd.KX w.params) sIsThereAt "is_there_at" "is_there_at" (.str "postbooks.cuts" 288) 112 113 (by kernel_rfl) (by kernel_rfl) (by kernel_rfl)
 have FSe := xX6 (Hd.KX w.params) sIsSent "is_sent" "is_sent" (.str "postbooks.cuts" 288) 119 120 (by kernel_rfl) (by kernel_rfl) (by kernel_rfl)
 have FWo := xX6 (Hd.KX w.params) sOfficesWithout "offices_without" "offices_without" (.str "postbooks.cuts" 288) 124 125 (by kernel_rfl) (by kernel_rfl) (by kernel_rfl)
 have FPk := xX6 (Hd.KX w.params) sPlaceKept "place_kept" "place_kept" (.str "postbooks.cuts" 288) 136 137 (by kernel_rfl) (by kernel_rfl) (by kernel_rfl)
 have FTr := xX6 (Hd.KX w.params) sThrough "through" "through" (.str "postbooks.cuts" 288) 129 130 (by kernel_rfl) (by kernel_rfl) (by kernel_rfl)
 have FOl := xX6 (Hd.KX w.params) sLettersOf "letters_of" "letters_of" (.str "postbooks.story" 484) 298 299 (by kernel_rfl) (by kernel_rfl) (by kernel_rfl)
 have FOe := xX6 (Hd.KX w.params) sEventsOf "events_of" "events_of" (.str "postbooks.story" 484) 305 306 (by kernel_rfl) (by kernel_rfl) (by kernel_rfl)
 have FOk := xX6 (Hd.KX w.params) sKeptOf "kept_of" "kept_of" (.str "postbooks.story" 484) 310 311 (by kernel_rfl) (by kernel_rfl) (by kernel_rfl)
 have FSo := xX6 (Hd.KX w.params) sSo "_law_so" "_law_so" (.str "law_postbooks_k12_under_way" 593) 317 318 (by kernel_rfl) (by kernel_rfl) (by kernel_rfl)
 have FLW := xX6 (Hd.KX w.params) sWhole "_law_whole" "_law_whole" (.str "law_postbooks_k12_under_way" 593) 324 325 (by kernel_rfl) (by kernel_rfl) (by kernel_rfl)
 have FLA := xX6 (Hd.KX w.params) sAt "_law_at" "_law_at" (.str "law_postbooks_k12_under_way" 593) 331 332 (by kernel_rfl) (by kernel_rfl) (by kernel_rfl)
 have FLI := xX6 (Hd.KX w.params) sIsName "_law_is_name" "_law_is_name" (.str "law_postbooks_k12_under_way" 593) 338 339 (by kernel_rfl) (by kernel_rfl) (by kernel_rfl)
 have FLE := xX6 (Hd.KX w.params) sAreEvents "_law_are_events" "_law_are_events" (.str "law_postbooks_k12_under_way" 593) 345 346 (by kernel_rfl) (by kernel_rfl) (by kernel_rfl)
 have FLH := xX6 (Hd.KX w.params) sIsWhat "_law_is_what" "_law_is_what" (.str "law_postbooks_k12_under_way" 593) 352 353 (by kernel_rfl) (by kernel_rfl) (by kernel_rfl)
 have FLL := xX6 (Hd.KX w.params) sAreLetters "_law_are_letters" "_law_are_letters" (.str "law_postbooks_k12_under_way" 593) 359 360 (by kernel_rfl) (by kernel_rfl) (by kernel_rfl)
 have FLC := xX6 (Hd.KX w.params) sCalled "_law_called" "_law_called" (.str "law_postbooks_k12_under_way" 593) 366 367 (by kernel_rfl) (by kernel_rfl) (by kernel_rfl)
 have FLO := xX6 (Hd.KX w.params) sDeedOf "_law_deed_of" "_law_deed_of" (.str "law_postbooks_k12_under_way" 593) 373 374 (by kernel_rfl) (by kernel_rfl) (by kernel_rfl)
 have FLD := xX6 (Hd.KX w.params) sDrawn "_law_drawn" "_law_drawn" (.str "law_postbooks_k12_under_way" 593) 380 381 (by kernel_rfl) (by kernel_rfl) (by kernel_rfl)
 have FLX := xX6 (Hd.KX w.params) sEndedL "_law_ended" "_law_ended" (.str "law_postbooks_k12_under_way" 593) 387 388 (by kernel_rfl) (by kernel_rfl) (by kernel_rfl)
 have FLs := xX6 (Hd.KX w.params) sAreStatesL "_law_are_states" "_law_are_states" (.str "law_postbooks_k12_under_way" 593) 394 395 (by kernel_rfl) (by kernel_rfl) (by kernel_rfl)
 have FAh := xX6 (Hd.KX w.params) sAheadOfL "_law_ahead_of" "_law_ahead_of" (.str "law_postbooks_k12_under_way" 593) 401 402 (by kernel_rfl) (by kernel_rfl) (by kernel_rfl)
 have FIw := xX6 (Hd.KX w.params) sIsWayL "_law_is_way" "_law_is_way" (.str "law_postbooks_k12_under_way" 593) 408 409 (by kernel_rfl) (by kernel_rfl) (by kernel_rfl)
 have FOc := xX6 (Hd.KX w.params) sOneCutL "_law_one_cut" "_law_one_cut" (.str "law_postbooks_k12_under_way" 593) 413 414 (by kernel_rfl) (by kernel_rfl) (by kernel_rfl)
 have FLw := xX6 (Hd.KX w.params) sLaw "law" "law" (.str "law_postbooks_k12_under_way" 593) 420 421 (by kernel_rfl) (by kernel_rfl) (by kernel_rfl)
 have bNm := FNm.binds (ps := ["letter"]) fun _ _ _ _ _ _ us hl => by obtain ⟨_, rfl⟩ := len_1 hl; rfl
 have bTh := FTh.binds (ps := ["name", "clock"]) fun _ _ _ _ _ _ us hl => by obtain ⟨_, _, rfl⟩ := yV3 hl; rfl
 have bCo := FCo.binds (ps := ["clock", "sender"]) fun _ _ _ _ _ _ us hl => by obtain ⟨_, _, rfl⟩ := yV3 hl; rfl
 have bRe := FRe.binds (ps := ["letter", "clock"]) fun _ _ _ _ _ _ us hl => by obtain ⟨_, _, rfl⟩ := yV3 hl; rfl
 have bFi := FFi.binds (ps := ["tray", "clock"]) fun _ _ _ _ _ _ us hl => by obtain ⟨_, _, rfl⟩ := yV3 hl; rfl
 have bCf := FCf.binds (ps := ["number", "what"]) fun _ _ _ _ _ _ us hl => by obtain ⟨_, _, rfl⟩ := yV3 hl; rfl
 have bSn := FSn.binds (ps := ["office", "what"]) fun _ _ _ _ _ _ us hl => by obtain ⟨_, _, rfl⟩ := yV3 hl; rfl
 have bIn := FIn.binds (ps := ["self", "number", "count", "coins"]) fun _ _ _ _ _ _ us hl => by obtain ⟨_, _, _, _, rfl⟩ := len_4 hl; rfl
 have bPy := FPy.binds (ps := ["self", "to", "many"]) fun _ _ _ _ _ _ us hl => by obtain ⟨_, _, _, rfl⟩ := yZ0 hl; rfl
 have bCu := FCu.binds (ps := ["self"]) fun _ _ _ _ _ _ us hl => by obtain ⟨_, rfl⟩ := len_1 hl; rfl
 have bTk := FTk.binds (ps := ["self", "letter"]) fun _ _ _ _ _ _ us hl => by obtain ⟨_, _, rfl⟩ := yV3 hl; rfl
 have bSd := FSd.binds (ps := ["self", "what"]) fun _ _ _ _ _ _ us hl => by obtain ⟨_, _, rfl⟩ := yV3 hl; rfl
 have bNw := FNw.binds (ps := ["self", "letter"]) fun _ _ _ _ _ _ us hl => by obtain ⟨_, _, rfl⟩ := yV3 hl; rfl
 have bHd := FHd.binds (ps := ["self", "place"]) fun _ _ _ _ _ _ us hl => by obtain ⟨_, _, rfl⟩ := yV3 hl; rfl
 have bWr := FWr.binds (ps := ["self", "how", "letter"]) fun _ _ _ _ _ _ us hl => by obtain ⟨_, _, _, rfl⟩ := yZ0 hl; rfl
 have bTb := FTb.binds (ps := ["office", "letters"]) fun _ _ _ _ _ _ us hl => by obtain ⟨_, _, rfl⟩ := yV3 hl; rfl
 have bCi := FCi.binds (ps := ["self", "count", "coins"]) fun _ _ _ _ _ _ us hl => by obtain ⟨_, _, _, rfl⟩ := yZ0 hl; rfl
 have bCd := FCd.binds (ps := ["self", "deed"]) fun _ _ _ _ _ _ us hl => by obtain ⟨_, _, rfl⟩ := yV3 hl; rfl
 have bCa := FCa.binds (ps := ["self", "deed"]) fun _ _ _ _ _ _ us hl => by obtain ⟨_, _, rfl⟩ := yV3 hl; rfl
 have bCs := FCs.binds (ps := ["self", "who", "what"]) fun _ _ _ _ _ _ us hl => by obtain ⟨_, _, _, rfl⟩ := yZ0 hl; rfl
 have bCc := FCc.binds (ps := ["self", "which", "to"]) fun _ _ _ _ _ _ us hl => by obtain ⟨_, _, _, rfl⟩ := yZ0 hl; rfl
 have bCb := FCb.binds (ps := ["self", "to", "letters"]) fun _ _ _ _ _ _ us hl => by obtain ⟨_, _, _, rfl⟩ := yZ0 hl; rfl
 have bOo := FOo.binds (ps := ["count", "coins", "deeds"]) fun _ _ _ _ _ _ us hl => by obtain ⟨_, _, _, rfl⟩ := yZ0 hl; rfl
 have bSi := FSi.binds (ps := ["kept", "name"]) fun _ _ _ _ _ _ us hl => by obtain ⟨_, _, rfl⟩ := yV3 hl; rfl
 have bSs := FSs.binds (ps := ["all_kept", "name"]) fun _ _ _ _ _ _ us hl => by obtain ⟨_, _, rfl⟩ := yV3 hl; rfl
 have bUw := FUw.binds (ps := ["letters", "cut"]) fun _ _ _ _ _ _ us hl => by obtain ⟨_, _, rfl⟩ := yV3 hl; rfl
 have bTa := FTa.binds (ps := ["letter", "cut", "office"]) fun _ _ _ _ _ _ us hl => by obtain ⟨_, _, _, rfl⟩ := yZ0 hl; rfl
 have bSe := FSe.binds (ps := ["letter", "cut"]) fun _ _ _ _ _ _ us hl => by obtain ⟨_, _, rfl⟩ := yV3 hl; rfl
 have bWo := FWo.binds (ps := ["letter", "cut"]) fun _ _ _ _ _ _ us hl => by obtain ⟨_, _, rfl⟩ := yV3 hl; rfl
 have bPk := FPk.binds (ps := ["events", "name", "office"]) fun _ _ _ _ _ _ us hl => by obtain ⟨_, _, _, rfl⟩ := yZ0 hl; rfl
 have bTr := FTr.binds (ps := ["events", "name", "count"]) fun _ _ _ _ _ _ us hl => by obtain ⟨_, _, _, rfl⟩ := yZ0 hl; rfl
 have bOl := FOl.binds (ps := ["count", "coins", "deeds"]) fun _ _ _ _ _ _ us hl => by obtain ⟨_, _, _, rfl⟩ := yZ0 hl; rfl
 have bOe := FOe.binds (ps := ["count", "coins", "deeds"]) fun _ _ _ _ _ _ us hl => by obtain ⟨_, _, _, rfl⟩ := yZ0 hl; rfl
 have bOk := FOk.binds (ps := ["count", "coins", "deeds"]) fun _ _ _ _ _ _ us hl => by obtain ⟨_, _, _, rfl⟩ := yZ0 hl; rfl
 have bSo := FSo.binds (ps := ["_law_found", "_law_meant"]) fun _ _ _ _ _ _ us hl => by obtain ⟨_, _, rfl⟩ := yV3 hl; rfl
 have bLW := FLW.binds (ps := ["_law_found"]) fun _ _ _ _ _ _ us hl => by obtain ⟨_, rfl⟩ := len_1 hl; rfl
 have bLA := FLA.binds (ps := ["_law_script", "_law_k"]) fun _ _ _ _ _ _ us hl => by obtain ⟨_, _, rfl⟩ := yV3 hl; rfl
 have bLI := FLI.binds (ps := ["_law_found", "_law_count"]) fun _ _ _ _ _ _ us hl => by obtain ⟨_, _, rfl⟩ := yV3 hl; rfl
 have bLE := FLE.binds (ps := ["_law_found", "_law_count"]) fun _ _ _ _ _ _ us hl => by obtain ⟨_, _, rfl⟩ := yV3 hl; rfl
 have bLH := FLH.binds (ps := ["_law_what", "_law_sender", "_law_count"]) fun _ _ _ _ _ _ us hl => by obtain ⟨_, _, _, rfl⟩ := yZ0 hl; rfl
 have bLL := FLL.binds (ps := ["_law_found", "_law_count"]) fun _ _ _ _ _ _ us hl => by obtain ⟨_, _, rfl⟩ := yV3 hl; rfl
 have bLC := FLC.binds (ps := ["_law_letter"]) fun _ _ _ _ _ _ us hl => by obtain ⟨_, rfl⟩ := len_1 hl; rfl
 have bLO := FLO.binds (ps := ["_law_cell", "_law_k", "_law_count"]) fun _ _ _ _ _ _ us hl => by obtain ⟨_, _, _, rfl⟩ := yZ0 hl; rfl
 have bLD := FLD.binds (ps := ["_law_cells", "_law_count"]) fun _ _ _ _ _ _ us hl => by obtain ⟨_, _, rfl⟩ := yV3 hl; rfl
 have bLX := FLX.binds (ps := ["_law_script", "_law_count"]) fun _ _ _ _ _ _ us hl => by obtain ⟨_, _, rfl⟩ := yV3 hl; rfl
 have bLs := FLs.binds (ps := ["_law_found", "_law_count"]) fun _ _ _ _ _ _ us hl => by obtain ⟨_, _, rfl⟩ := yV3 hl; rfl
 have bAh := FAh.binds (ps := ["_law_events", "_law_own", "_law_name"]) fun _ _ _ _ _ _ us hl => by obtain ⟨_, _, _, rfl⟩ := yZ0 hl; rfl
 have bIw := FIw.binds (ps := ["_law_found", "_law_due", "_law_count"]) fun _ _ _ _ _ _ us hl => by obtain ⟨_, _, _, rfl⟩ := yZ0 hl; rfl
 have bOc := FOc.binds (ps := ["_law_letters", "_law_events", "_law_kept", "_law_name"]) fun _ _ _ _ _ _ us hl => by obtain ⟨_, _, _, _, rfl⟩ := len_4 hl; rfl
 have mNm := g1 "name_of" 21 (by kernel_rfl)
 have mTh := g1 "is_there" 28 (by kernel_rfl)
 have mCo := g1 "counted" 35 (by kernel_rfl)
 have mRe := g1 "ready" 40 (by kernel_rfl)
 have mFi := g1 "first_ready" 212 (by kernel_rfl)
 have mCf := g1 "coins_for" 219 (by kernel_rfl)
 have mSn := g1 "sent_or_none" 226 (by kernel_rfl)
 have mPy : Meth (Hd.KX w.params) 201 "pay" 158 := ⟨by kernel_rfl, by kernel_rfl, by kernel_rfl⟩
 have mCu : Meth (Hd.KX w.params) 201 "cut" 165 := ⟨by kernel_rfl, by kernel_rfl, by kernel_rfl⟩
 have mTk : Meth (Hd.KX w.params) 201 "take" 172 := ⟨by kernel_rfl, by kernel_rfl, by kernel_rfl⟩
 have mSd : Meth (Hd.KX w.params) 201 "send" 179 := ⟨by kernel_rfl, by kernel_rfl, by kernel_rfl⟩
 have mNw : Meth (Hd.KX w.params) 201 "is_new" 184 := ⟨by kernel_rfl, by kernel_rfl, by kernel_rfl⟩
 have mHd : Meth (Hd.KX w.params) 201 "hand_over" 191 := ⟨by kernel_rfl, by kernel_rfl, by kernel_rfl⟩
 have mWr : Meth (Hd.KX w.params) 201 "write_in_book" 198 := ⟨by kernel_rfl, by kernel_rfl, by kernel_rfl⟩
 have mTb := g1 "taken_by" 233 (by kernel_rfl)
 have mCd : Meth (Hd.KX w.params) 281 "do" 252 := ⟨by kernel_rfl, by kernel_rfl, by kernel_rfl⟩
 have mCa : Meth (Hd.KX w.params) 281 "answer_to" 259 := ⟨by kernel_rfl, by kernel_rfl, by kernel_rfl⟩
 have mCs : Meth (Hd.KX w.params) 281 "letter_sent" 266 := ⟨by kernel_rfl, by kernel_rfl, by kernel_rfl⟩
 have mCc : Meth (Hd.KX w.params) 281 "letter_carried" 273 := ⟨by kernel_rfl, by kernel_rfl, by kernel_rfl⟩
 have mCb : Meth (Hd.KX w.params) 281 "letters_brought" 278 := ⟨by kernel_rfl, by kernel_rfl, by kernel_rfl⟩
 have mOo := g1 "course_of" 292 (by kernel_rfl)
 have mSi := g1 "state_in" 101 (by kernel_rfl)
 have mSs := g1 "states" 94 (by kernel_rfl)
 have mUw := g1 "under_way" 106 (by kernel_rfl)
 have mTa := g1 "is_there_at" 113 (by kernel_rfl)
 have mSe := g1 "is_sent" 120 (by kernel_rfl)
 have mWo := g1 "offices_without" 125 (by kernel_rfl)
 have mPk := g1 "place_kept" 137 (by kernel_rfl)
 have mTr := g1 "through" 130 (by kernel_rfl)
 have mOl := g1 "letters_of" 299 (by kernel_rfl)
 have mOe := g1 "events_of" 306 (by kernel_rfl)
 have mOk := g1 "kept_of" 311 (by kernel_rfl)
 have mSo := g1 "_law_so" 318 (by kernel_rfl)
 have mLW := g1 "_law_whole" 325 (by kernel_rfl)
 have mLA := g1 "_law_at" 332 (by kernel_rfl)
 have mLI := g1 "_law_is_name" 339 (by kernel_rfl)
 have mLE := g1 "_law_are_events" 346 (by kernel_rfl)
 have mLH := g1 "_law_is_what" 353 (by kernel_rfl)
 have mLL := g1 "_law_are_letters" 360 (by kernel_rfl)
 have mLC := g1 "_law_called" 367 (by kernel_rfl)
 have mLO := g1 "_law_deed_of" 374 (by kernel_rfl)
 have mLD := g1 "_law_drawn" 381 (by kernel_rfl)
 have mLX := g1 "_law_ended" 388 (by kernel_rfl)
 have mLs := g1 "_law_are_states" 395 (by kernel_rfl)
 have mAh := g1 "_law_ahead_of" 402 (by kernel_rfl)
 have mIw := g1 "_law_is_way" 409 (by kernel_rfl)
 have mOc := g1 "_law_one_cut" 414 (by kernel_rfl)
 have mLw := g1 "law" 421 (by kernel_rfl)
 refine ⟨PySem.W.fnOf "law" "law" (defArgs sLaw) (defBody sLaw) (defScope sLaw) .none .none .none (.str "law_postbooks_k12_under_way" 593) none (.ref 420) .none, fun s v => .of_eq rfl, fun base _ _ => ?_⟩
 have GT := ok_take (P := l.prog) (w := w) (base := base) FTk T bNw mNw (ok_isnew FNw T FNm bNm FTh bTh) bHd mHd (ok_hand FHd T FNm bNm FCo bCo FCf bCf FWr bWr mWr) FFi bFi (ok_first FFi T FRe bRe)
 have GSd := ok_send (P := l.prog) (w := w) (base := base) FSd T FNm bNm FCo bCo FWr bWr mWr
 have GCu := ok_cut (P := l.prog) (w := w) (base := base) FCu T bSd mSd GSd
 have GPy := ok_pay (P := l.prog) (w := w) (base := base) FPy T Z bSd mSd GSd
 have GSn := ok_sentor (P := l.prog) (w := w) (base := base) FSn T Z bCu mCu GCu bPy mPy GPy
 have GTb := ok_taken (P := l.prog) (w := w) (base := base) FTb T bTk mTk GT
 have GCs := ok_csent (P := l.prog) (w := w) (base := base) FCs T CT mSn FSn bSn GSn FNm bNm
 have GCb := ok_cbring (P := l.prog) (w := w) (base := base) FCb CT mTb FTb bTb GTb
 have GCc := ok_ccarry (P := l.prog) (w := w) (base := base) FCc CT (g0 "len" (by kernel_rfl)) bCb mCb GCb
 have GCa := ok_cans (P := l.prog) (w := w) (base := base) FCa CT bCb mCb GCb bCs mCs GCs bCc mCc GCc
 have GCd := ok_cdo (P := l.prog) (w := w) (base := base) FCd CT bCa mCa GCa
 have GCi := ok_cinit (P := l.prog) (w := w) (base := base) FCi T CT ⟨by kernel_rfl, by kernel_rfl, by kernel_rfl, by kernel_rfl⟩ bIn (ok_init FIn T)
 have GOo := ok_course (P := l.prog) (w := w) (base := base) FOo CT ⟨by kernel_rfl, by kernel_rfl, by kernel_rfl, by kernel_rfl⟩ bCi GCi bCd mCd GCd
 have ZK : Exk (Hd.KX w.params) mg 75 50 63 87 := ⟨g1 "NoCut" 75 (by kernel_rfl), g1 "PostError" 50 (by kernel_rfl), g1 "Poor" 63 (by kernel_rfl), g1 "NoLetter" 87 (by kernel_rfl), ⟨by kernel_rfl⟩, vV2 (by kernel_rfl) (by kernel_rfl) (by kernel_rfl) (by kernel_rfl), vV2 (by kernel_rfl) (by kernel_rfl) (by kernel_rfl) (by kernel_rfl), ⟨by kernel_rfl, by kernel_rfl, by kernel_rfl, by kernel_rfl, by kernel_rfl, by kernel_rfl⟩, by kernel_rfl, by kernel_rfl⟩
 have GLE := ok_areevents (P := l.prog) (w := w) (base := base) FLE B mLW FLW bLW mLI FLI bLI
 have GLL := ok_areletters (P := l.prog) (w := w) (base := base) FLL B mLW FLW bLW mLH FLH bLH
 have GLD := ok_drawn (P := l.prog) (w := w) (base := base) FLD B mLO FLO bLO
 have GLX := ok_ended (P := l.prog) (w := w) (base := base) FLX B mLA FLA bLA mLD FLD bLD GLD
 have GSo := ok_so (P := l.prog) (w := w) (base := base) FSo S bSo 7
 have GSt := ok_states (P := l.prog) (w := w) (base := base) FSs ZK mSi FSi bSi
 have GTr := ok_through (P := l.prog) (w := w) (base := base) FTr ZK (g0 "enumerate" (by kernel_rfl)) (g0 "range" (by kernel_rfl)) (g0 "len" (by kernel_rfl)) mPk FPk bPk
 have GUw := ok_underway (P := l.prog) (w := w) (base := base) FUw (g0 "range" (by kernel_rfl)) (g0 "len" (by kernel_rfl)) mNm FNm bNm mTh FTh bTh mTa FTa bTa mSe FSe bSe mWo FWo bWo
 have GIw := ok_is_way (P := l.prog) (w := w) (base := base) FIw B mLW FLW bLW mLI FLI bLI mSo FSo bSo GSo
 have GOc := ok_one_cut (P := l.prog) (w := w) (base := base) FOc B ZK mSo FSo bSo GSo mSs FSs bSs GSt mTr FTr bTr GTr mAh FAh bAh mLs FLs bLs (ok_are_states FLs B mLW FLW bLW) mLC FLC bLC mIw FIw bIw GIw mUw FUw bUw GUw
 exact ok_law FLw B mLA FLA bLA mLX FLX bLX GLX mLL FLL bLL GLL mLE FLE bLE GLE mLC FLC bLC mOl FOl bOl (ok_letters_of FOl CT mOo FOo bOo GOo) mOe FOe bOe (ok_events_of FOe CT mOo FOo bOo GOo) mOk FOk bOk (ok_kept_of FOk T CT mOo FOo bOo GOo) mOc FOc bOc GOc
theorem walk {l : PySem.W.OpenLaw} {q : Program} {loose : List Str} {XP : (Str → Option Value) → Heap → Prop} {YP : World → Heap → Prop} {d : DefRec} {K : Params → PySem.W.Frag} (hn : l.most = some 63) (hdf : d.params.defaults = [])
  (hY : ∀ (w : World) (h : Heap), YP w h → (K w.params).In h)
  (F : ∀ (w : World) (mg : Str → Option Value) (fa : Addr) (h : Heap), (K w.params).In h → h.Ns mainGlobals mg → mg d.name = some (.ref fa) →
   ∃ fd : FuncData, (∀ (s : Shared) (u : Value), BindsTo s fd ⟨[u], []⟩ [("_law_script", u)]) ∧ ∀ base : Heap, (K w.params).In base → base.Ns mainGlobals mg → FnOk l.prog w (K w.params) mg base CX0 12 fa fd ["_law_script"] (spLaw (K w.params))) :
  PySem.W.WalkO q loose XP YP l.row.toRowW d [] (fun f vs => PySem.call f vs) :=
 L2.walk_of (n := 63) (k := 12) (x := "_law_script") (CX := fun _ => CX0) (sp := fun w => spLaw (K w.params)) hn (by decide) hdf ⟨rfl, by decide, by decide⟩ hY F (fun _ _ a ns hl _ hS => ⟨a, ns, rfl, hS, hl, fun _ => rfl⟩) fun _ _ _ _ _ z => z
end Of
open PySem PySem.W PyProof.Rows
set_option maxRecDepth 100000 in
set_option maxHeartbeats 0 in
theorem PySem.Challenge.cw_postbooks_k12_under_way_holds : PySem.Challenge.rw_postbooks_k12_under_way.Holds := by
 w_on; o_law
 refine PySem.W.holds_open (q := Hd.Q) (loose := []) (Xt := Hd.XT) (XP := XL Hd.Q []) (Yf := Hd.YF) (Ya := Hd.YA) (YP := InK Hd.KX) (N := 5744) Hd.left (InK.of fun _ => by kernel_rfl) InK.keeps (fun s e => xl_of s (Bool.and_eq_true_iff.mp e).1) XL.keeps (by rfl) (by rfl) (by rfl) (fun s e => recFacts_of (Bool.and_eq_true_iff.mp e).2) (by rfl) (by first | assumption | decide +kernel) (by decide +kernel) ⟨rfl, rfl, rfl, rfl, rfl, by decide +kernel⟩ ?hw ?hc
 case hw => w_witness2
 k_fill
 exact Of.walk (l := PySem.Challenge.rw_postbooks_k12_under_way) (K := Hd.KX) rfl rfl (fun w h Y => Y) fun w mg fa h KX G hmg => Of.all_mk KX G hmg
#print axioms PySem.Challenge.cw_postbooks_k12_under_way_holds
