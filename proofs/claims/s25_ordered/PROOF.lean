import PyProof.Rows.All
import Wide.All
import OpenK.AllK
import Wide.FinOn
import PyProof.EqAt
import PyProof.EqKinds
import PyProof.TupleCall
import KE.BitLaws
import Open.SpecLaws
import KE.OsHead
import KE.OsGo
import PyProof.StationsW
import PyProof.ExcBaseAll.Exception
import KE.KLam
import PyProof.SliceList
import KE.KNestM
import KE.KSortKeySt
import PySem.Challenge.RW_doubletables_s25_ordered
set_option bootstrap.genMatcherCode false
set_option compiler.extract_closed false
set_option genSizeOf false
set_option genInjectivity false
set_option Elab.async false
set_option linter.all false
set_option maxRecDepth 100000
theorem xc {p : Prop} (h : p := by first | exact .inl rfl | exact .inr rfl | assumption) : p := h
theorem qH {p : Prop} (h : p := by decide) : p := h
theorem zB {p : Prop} (h : p := by intro _; rfl) : p := h
theorem qj {p : Prop} (h : p := by rfl) : p := h
theorem WJ {p : Prop} (h : p := by first | exact Or.inl rfl | exact Or.inr (Or.inl rfl) | exact Or.inr (Or.inr rfl)) : p := h
theorem Qo {p : Prop} (h : p := by first | exact Or.inl rfl | exact Or.inr rfl) : p := h
theorem j9 {p : Prop} (h : p := by first | exact .inl rfl | exact .inr rfl) : p := h
namespace L2
open PySem PySem.Spec PyProof.Rows
noncomputable abbrev Key := Sum Int Str
noncomputable def Ys : Key -> Value -> Bool
 | .inl k, v => Value.isInt k v
 | .inr x, v => Value.isStrOf x v
noncomputable def UQ (w : World) : Key -> Int
 | .inl k => hashInt k
 | .inr x => hashStr w x
theorem qK : ∀ {k : Key} {v : Value}, Ys k v = true -> (∃ i t, k = Sum.inl i /\ v = Value.int i t) \/ (∃ x t, k = Sum.inr x /\ v = Value.str x t)
 | .inl i, v, h => by
  obtain ⟨t, e⟩ := Value.isInt_shape (k := i) (v := v) h
  exact .inl ⟨i, t, rfl, e⟩
 | .inr x, v, h => by
  obtain ⟨t, e⟩ := Value.isStrOf_shape (x := x) (v := v) h
  exact .inr ⟨x, t, rfl, e⟩
theorem XX (a b : Int) : decide ((Sum.inl a : Key) = Sum.inl b) = (a == b) := by
 by_cases e : a = b
 ·subst e; simp
 ·have h : ¬ (Sum.inl a : Key) = Sum.inl b := fun q => e (Sum.inl.inj q)
  rw [decide_eq_false h]
  exact (beq_eq_false_iff_ne.mpr e).symm
theorem Yy (a b : Str) : decide ((Sum.inr a : Key) = Sum.inr b) = decide (a = b) := by
 by_cases e : a = b
 ·subst e; simp
 ·have h : ¬ (Sum.inr a : Key) = Sum.inr b := fun q => e (Sum.inr.inj q)
  rw [decide_eq_false h, decide_eq_false e]
theorem YU (a : Int) (b : Str) : decide ((Sum.inl a : Key) = Sum.inr b) = false := decide_eq_false (fun q => nomatch q)
theorem Xb (a : Str) (b : Int) : decide ((Sum.inr a : Key) = Sum.inl b) = false := decide_eq_false (fun q => nomatch q)
noncomputable def Q9 (prog : Program) (w : World) : PySem.KeyKind prog w Key where
 is := Ys
 hash := UQ w
 inj := fun v a b ha hb => by
  rcases qK ha with ⟨i, t, rfl, rfl⟩ | ⟨x, t, rfl, rfl⟩
  ·rcases qK hb with ⟨j, u, rfl, e⟩ | ⟨y, u, rfl, e⟩
   ·injection e with e1 _; rw [e1]
   ·exact nomatch e
  ·rcases qK hb with ⟨j, u, rfl, e⟩ | ⟨y, u, rfl, e⟩
   ·exact nomatch e
   ·injection e with e1 _; rw [e1]
 byValue := fun k v h => by
  rcases qK h with ⟨i, t, rfl, rfl⟩ | ⟨x, t, rfl, rfl⟩ <;> rfl
 pyHash := fun hv h => by
  rcases qK hv with ⟨i, t, rfl, rfl⟩ | ⟨x, t, rfl, rfl⟩
  ·exact wpAny_pyHash_int h
  ·exact wpAny_pyHash_str h
 eqBool := fun hu hv h => by
  rcases qK hu with ⟨i, t, rfl, rfl⟩ | ⟨x, t, rfl, rfl⟩
  ·rcases qK hv with ⟨j, u, rfl, rfl⟩ | ⟨y, u, rfl, rfl⟩
   ·rw [XX] at h; exact wpAny_eqBool_int h
   ·rw [YU] at h; exact SeqAt.EqAt.int_str i t y u _ _ _ _ h
  ·rcases qK hv with ⟨j, u, rfl, rfl⟩ | ⟨y, u, rfl, rfl⟩
   ·rw [Xb] at h; exact SeqAt.EqAt.str_int x t j u _ _ _ _ h
   ·rw [Yy] at h; exact wpAny_eqBool_str h
 «strs» := fun k x t v h => by
  rcases qK h with ⟨i, u, rfl, e⟩ | ⟨y, u, rfl, e⟩
  ·exact nomatch e
  ·injection e with e1 _
   subst e1
   cases v <;> rfl
set_option genInjectivity true in
inductive V where
 | non | bl (b : Bool) | int (i : Int) | str (x : Str) | byt (b : Array UInt8) | flt (b : UInt64) | ref (a : Addr) | ty (n : String)
 deriving DecidableEq
noncomputable def RelV : V -> Value -> Prop
 | .non, u => u = Value.none
 | .bl b, u => u = Value.bool b
 | .int i, u => ∃ t, u = Value.int i t
 | .str x, u => ∃ t, u = Value.str x t
 | .byt b, u => ∃ t, u = Value.bytes b t
 | .flt b, u => ∃ t, u = Value.float b t
 | .ref a, u => u = Value.ref a
 | .ty n, u => u = Value.type n
noncomputable abbrev Vals : List V -> List Value -> Prop := Paired RelV
theorem Vals.length {xs : List V} {us : List Value} (r : Vals xs us) : xs.length = us.length := Paired.length r
theorem Vals.get : ∀ {xs : List V} {us : List Value} {i : Nat} {x : V}, Vals xs us -> xs[i]? = some x -> ∃ u, us[i]? = some u /\ RelV x u
 | _, _, _, _, .nil, e => by simp at e
 | _, _, 0, _, .cons r _, e => by simp at e; subst e; exact ⟨_, rfl, r⟩
 | _, _, i + 1, x, .cons _ t, e => by
  obtain ⟨u, h1, h2⟩ := Vals.get (i := i) (x := x) t (by simpa using e)
  exact ⟨u, by simpa using h1, h2⟩
theorem Vals.append : ∀ {xs ys : List V} {us ws : List Value}, Vals xs us -> Vals ys ws -> Vals (xs ++ ys) (us ++ ws)
 | _, _, _, _, .nil, s => s
 | _, _, _, _, .cons r t, s => .cons r (Vals.append t s)
theorem Vals.none_of : ∀ {xs : List V} {us : List Value} {i : Nat}, Vals xs us -> xs[i]? = none -> us[i]? = none := fun {xs us i} r e => by
 have h1 := r.length
 have h2 : xs.length <= i := List.getElem?_eq_none_iff.mp e
 exact List.getElem?_eq_none_iff.mpr (by lia)
noncomputable def UC : Option V -> Option Value -> Prop
 | some v, some u => RelV v u
 | none, none => True
 | _, _ => False
noncomputable def KV {κ : Type} : List (κ × V) -> List (κ × Value) -> Prop := Paired fun (p : κ × V) (q : κ × Value) => p.1 = q.1 /\ RelV p.2 q.2
noncomputable def kV : Key -> V
 | .inl i => .int i
 | .inr x => .str x
inductive HO where
 /-- a list -/
 | lst (xs : List V)
 /-- a tuple (never changes) -/
 | tup (xs : List V)
 /-- a dict whose keys are ints and texts; one whose keys are tuples of ints and texts (the empty one is both) -/
 | dK (kvs : List (Key × V)) | dT (kvs : List (List Key × V))
 /-- a set of ints: its members, its size -/
 | set (S : Int -> Bool) (n : Nat)
 /-- an instance of the class at C, its dict at dx, its attributes -/
 | ins (C dx : Addr) (fs : List (Str × V))
 /-- the dict of the instance at x -/
 | own (x : Addr)
 /-- the dict of an exception -/
 | xd (fs : List (Str × V))
 /-- a bound method, f of x -/
 | met (f x : Addr)
 /-- a range object lo, lo + 1, .. below hi -/
 | rng (lo hi : Int)
 /-- a thing that is known to the object (the script; a dict while a loop walks it): read, never written while it is so -/
 | frz (o : Obj) (u : HO)
 /-- a code object's table -/
 | tbl (ps : Array Value)
 /-- any other thing, by what is true of its one object (a def of one's own: SetO a S n := HO.ext fun h => ..) -/
 | ext (φ : Heap -> Prop)
noncomputable abbrev Hp := Addr -> Option HO
noncomputable def upd (H : Hp) (a : Addr) (o : HO) : Hp := fun b => if b = a then some o else H b
theorem qo {H : Hp} {a : Addr} {o : HO} : upd H a o a = some o := by unfold upd; rw [if_pos rfl]
theorem qe {H : Hp} {a b : Addr} {o : HO} (h : b ≠ a) : upd H a o b = H b := by unfold upd; rw [if_neg h]
theorem qp {H : Hp} {a b : Addr} {o : HO} (h : H a = some o) (h' : H b = none) : a ≠ b := by
 intro e; subst e; rw [h] at h'; cases h'
section
variable (P : Program) (w : World)
noncomputable def vI (H : Hp) (h : Heap) (a : Addr) : HO -> Prop
 | .lst xs => xs.length <= sizeLine /\ ∃ (its : List Value) (n : Nat), Vals xs its /\ h.get? a = some { cls := .type "list", data := .seq its.toArray n }
 | .tup xs => xs.length <= sizeLine /\ ∃ its : List Value, Vals xs its /\ IsTup h a its.toArray
 | .dK kvs => kvs.length <= sizeLine /\ (a == sysModules) = false /\ ∃ vs, KV kvs vs /\ h.DictOf (Q9 P w) a vs
 | .dT kvs => kvs.length <= sizeLine /\ (a == sysModules) = false /\ ∃ xs : List (List Key × Addr × Value),
   Paired (fun (p : List Key × V) (q : List Key × Addr × Value) => p.1 = q.1 /\ H q.2.1 = some (.tup (p.1.map kV)) /\ RelV p.2 q.2.2) kvs xs /\
   ∃ o es ep, h.get? a = some o /\ o.ExactDict /\ o.data = .dict es ep /\ es.toList = xs.map (entryOfKey (tupleKind (Q9 P w))) /\ (xs.map (·.1)).Nodup
 | .set S n => h.SetOf (intKind P w) a S n
 | .ins C dx fs => H dx = some (.own a) /\ fs.length <= 1000 /\ dx ≠ a /\ h.get? a = some (PySem.W.instObj C dx) /\
   ∃ mA, h.Ns1 dx mA /\ (∀ f, UC (fs.lookup f) (mA f)) /\ PySem.Within mA (fs.map (·.1))
 | .own _ => ∃ o, h.get? a = some o
 | .xd fs => ∃ mA, h.Ns1 a mA /\ ∀ f, UC (fs.lookup f) (mA f)
 | .rng lo hi => ∃ t u v, h.get? a = some { cls := .type "range", data := .fields #[.int lo t, .int hi u, .int 1 v] }
 | .frz o u => h.get? a = some o /\ vI H h a u
 | .tbl ps => h.get? a = some { cls := .none, data := .fields ps }
 | .met f x => h.get? a = some (PySem.W.methodObj (.ref f) (.ref x))
 | .ext φ => φ h /\ (∃ o, h.get? a = some o) /\ ∀ h1 h2 : Heap, φ h1 -> (∀ o, h1.get? a = some o -> h2.get? a = some o) -> φ h2
noncomputable def HOk (H : Hp) (h : Heap) : Prop := ∀ a o, H a = some o -> vI P w H h a o
end
section
variable {P : Program} {w : World} {H H' : Hp} {h h' : Heap} {a : Addr} {o : HO}
theorem vI.lt (x : vI P w H h a o) : a < h.objs.size := by
 cases o with
 | lst xs => obtain ⟨_, _, _, _, e⟩ := x; exact Heap.lt_size e
 | tup xs => obtain ⟨_, _, _, p⟩ := x; exact p.lt
 | dK kvs => obtain ⟨_, _, _, _, o, _, _, e, _⟩ := x; exact Heap.lt_size e
 | dT kvs => obtain ⟨_, _, _, _, o, _, _, e, _⟩ := x; exact Heap.lt_size e
 | set S n => obtain ⟨o, _, _, _, e, _⟩ := x; exact Heap.lt_size e
 | ins C dx fs => obtain ⟨_, _, _, e, _⟩ := x; exact Heap.lt_size e
 | own y => obtain ⟨_, e⟩ := x; exact Heap.lt_size e
 | xd fs => obtain ⟨_, ⟨_, _, _, e, _⟩, _⟩ := x; exact Heap.lt_size e
 | rng lo hi => obtain ⟨_, _, _, e⟩ := x; exact Heap.lt_size e
 | frz ob u => obtain ⟨e, _⟩ := x; exact Heap.lt_size e
 | tbl ps => exact Heap.lt_size (show h.get? a = some _ from x)
 | met f y => exact Heap.lt_size (show h.get? a = some _ from x)
 | ext φ => obtain ⟨_, ⟨_, e⟩, _⟩ := x; exact Heap.lt_size e
theorem Paired.UA {α β : Type} {F G : α -> β -> Prop} : ∀ {l₁ : List α} {l₂ : List β}, Paired F l₁ l₂ -> (∀ a b, F a b -> G a b) -> Paired G l₁ l₂
 | _, _, .nil, _ => .nil
 | _, _, .cons r t, f => .cons (f _ _ r) (Paired.UA t f)
theorem vI.xO (x : vI P w H h a o) (k : ∀ b u, (b = a \/ H b = some (.own a)) -> h.get? b = some u -> h'.get? b = some u)
  (ho : ∀ b, H b = some (.own a) -> H' b = some (.own a)) (ht : ∀ b xs, H b = some (.tup xs) -> H' b = some (.tup xs)) : vI P w H' h' a o := by
 induction o with
 | lst xs => obtain ⟨z, its, n, r, e⟩ := x; exact ⟨z, its, n, r, k _ _ (.inl rfl) e⟩
 | tup xs => obtain ⟨z, its, r, ob, e, c⟩ := x; exact ⟨z, its, r, ob, k _ _ (.inl rfl) e, c⟩
 | dK kvs => obtain ⟨z, y, vs, r, ob, es, ep, e, c⟩ := x; exact ⟨z, y, vs, r, ob, es, ep, k _ _ (.inl rfl) e, c⟩
 | dT kvs =>
  obtain ⟨z, y, xs, r, ob, es, ep, e, c⟩ := x
  exact ⟨z, y, xs, Paired.UA r fun p q z => ⟨z.1, ht _ _ z.2.1, z.2.2⟩, ob, es, ep, k _ _ (.inl rfl) e, c⟩
 | set S n => obtain ⟨ob, es, ep, t, e, c⟩ := x; exact ⟨ob, es, ep, t, k _ _ (.inl rfl) e, c⟩
 | ins C dx fs =>
  obtain ⟨d, z, ne, e, mA, ⟨od, es, ep, e2, c⟩, r⟩ := x
  exact ⟨ho _ d, z, ne, k _ _ (.inl rfl) e, mA, ⟨od, es, ep, k _ _ (.inr d) e2, c⟩, r⟩
 | own y => obtain ⟨ob, e⟩ := x; exact ⟨ob, k _ _ (.inl rfl) e⟩
 | xd fs => obtain ⟨mA, ⟨od, es, ep, e, c⟩, r⟩ := x; exact ⟨mA, ⟨od, es, ep, k _ _ (.inl rfl) e, c⟩, r⟩
 | rng lo hi => obtain ⟨t, u, v, e⟩ := x; exact ⟨t, u, v, k _ _ (.inl rfl) e⟩
 | frz ob u ih => obtain ⟨e, q⟩ := x; exact ⟨k _ _ (.inl rfl) e, ih q⟩
 | tbl ps =>
  have e : h.get? a = some { cls := .none, data := .fields ps } := x
  show h'.get? a = some { cls := .none, data := .fields ps }
  exact k a _ (.inl rfl) e
 | met f y =>
  have e : h.get? a = some (PySem.W.methodObj (.ref f) (.ref y)) := x
  show h'.get? a = some (PySem.W.methodObj (.ref f) (.ref y))
  exact k a _ (.inl rfl) e
 | ext φ => obtain ⟨p, ⟨o, e⟩, st⟩ := x; exact ⟨st _ _ p fun o q => k _ _ (.inl rfl) q, ⟨o, k _ _ (.inl rfl) e⟩, st⟩
theorem HOk.lt (x : HOk P w H h) (e : H a = some o) : a < h.objs.size := (x a o e).lt
theorem HOk.fresh (x : HOk P w H h) (e : h.objs.size <= a) : H a = none := by
 cases q : H a with
 | none => rfl
 | some u => exact absurd (Nat.lt_of_lt_of_le (x.lt q) e) (Nat.lt_irrefl _)
theorem HOk.kept (x : HOk P w H h) (k : ∀ b u, h.get? b = some u -> h'.get? b = some u) : HOk P w H h' := fun a o e =>
 (x a o e).xO (fun b u _ q => k b u q) (fun _ q => q) fun _ _ q => q
theorem HOk.laid (x : HOk P w H h) (k : ∀ b u, h.get? b = some u -> h'.get? b = some u) (hp : h.objs.size <= a) (new : vI P w (upd H a o) h' a o) : HOk P w (upd H a o) h' := fun b u e => by
 have hn := x.fresh hp
 by_cases hb : b = a
 ·subst hb; rw [qo] at e; cases e; exact new
 ·rw [qe hb] at e
  exact (x b u e).xO (fun c v _ q => k c v q) (fun c q => by rw [qe (qp q hn)]; exact q) fun c xs q => by rw [qe (qp q hn)]; exact q
end
noncomputable def Rd (H : Hp) (a : Addr) (u : HO) : Prop := H a = some u \/ ∃ o, H a = some (.frz o u)
theorem Rd.of {H : Hp} {a : Addr} {u : HO} (h : H a = some u) : Rd H a u := .inl h
theorem Rd.ok {P : Program} {w : World} {H : Hp} {h : Heap} {a : Addr} {u : HO} (r : Rd H a u) (x : HOk P w H h) : vI P w H h a u := by
 rcases r with r | ⟨o, r⟩
 ·exact x a u r
 ·obtain ⟨_, q⟩ := x a _ r
  exact q
noncomputable def Mut : Option HO -> Prop
 | some (.lst _) => True
 | some (.dK _) => True
 | some (.dT _) => True
 | some (.set _ _) => True
 | some (.ins _ _ _) => True
 | some (.ext _) => True
 | _ => False
section
variable {P : Program} {w : World} {H : Hp} {h h' : Heap} {x e : Addr} {o' : HO}
theorem HOk.write (ok : HOk P w H h) (mu : Mut (H x)) (he : e = x \/ H e = some (.own x)) (k : ∀ b u, b ≠ e -> h.get? b = some u -> h'.get? b = some u) (heo : ∃ u, h'.get? e = some u)
  (new : vI P w (upd H x o') h' x o') : HOk P w (upd H x o') h' := fun b u q => by
 have nown : ∀ c y, H c = some (.own y) -> c ≠ x := fun c y r z => by subst z; rw [r] at mu; exact mu
 have ntup : ∀ c xs, H c = some (.tup xs) -> c ≠ x := fun c xs r z => by subst z; rw [r] at mu; exact mu
 by_cases hb : b = x
 ·subst hb; rw [qo] at q; cases q; exact new
 ·rw [qe hb] at q
  by_cases hbe : b = e
  ·have q' : H b = some (.own x) := by
    rcases he with z | z
    ·exact absurd (hbe.trans z) hb
    ·rw [hbe]; exact z
   rw [q] at q'; cases q'
   obtain ⟨v, hv⟩ := heo
   exact ⟨v, by rw [hbe]; exact hv⟩
  ·refine (ok b u q).xO (fun c v hc r => k c v ?_ r) (fun c r => by rw [qe (nown c b r)]; exact r) fun c xs r => by rw [qe (ntup c xs r)]; exact r
   rcases hc with rfl | hc
   ·exact hbe
   ·rintro rfl
    rcases he with z | z
    ·exact nown c b hc z
    ·rw [hc] at z; cases z; exact hb rfl
end
structure Un (fs ex : List Addr) (H H' : Hp) (h h' : Heap) : Prop where
 keep : ∀ b o, h.get? b = some o -> H b = none -> b ∉ fs -> b ∉ ex -> h'.get? b = some o
 slot : ∀ b o, h.get? b = some o -> H b = none -> b ∈ fs -> b ∉ ex -> ∃ sl, h'.get? b = some { o with slots := sl }
 free : ∀ b o, h.get? b = some o -> H b = none -> b ∉ ex -> H' b = none
 there : ∀ b o, h.get? b = some o -> b ∉ ex -> ∃ o', h'.get? b = some o'
 tups : ∀ b xs, H b = some (.tup xs) -> H' b = some (.tup xs)
 frzs : ∀ b o u, H b = some (.frz o u) -> H' b = some (.frz o u)
 tbls : ∀ b ps, H b = some (.tbl ps) -> ∃ more, H' b = some (.tbl (ps ++ more))
section
variable {fs fs' ex ex' : List Addr} {H H1 H2 : Hp} {h h1 h2 h' : Heap} {a x e : Addr} {o : HO}
theorem Un.any (u : Un fs ex H H1 h h1) {b : Addr} {ob : Obj} (q : h.get? b = some ob) (n : H b = none) (hx : b ∉ ex) : ∃ sl, h1.get? b = some { ob with slots := sl } := by
 by_cases hb : b ∈ fs
 ·exact u.slot b ob q n hb hx
 ·exact ⟨ob.slots, u.keep b ob q n hb hx⟩
theorem Un.kept (k : ∀ b u, h.get? b = some u -> h'.get? b = some u) : Un fs ex H H h h' :=
 ⟨fun b ob q _ _ _ => k b ob q, fun b ob q _ _ _ => ⟨ob.slots, k b ob q⟩, fun _ _ _ n _ => n, fun b ob q _ => ⟨ob, k b ob q⟩, fun _ _ q => q, fun _ _ _ q => q, fun _ ps q => ⟨#[], by rw [q]; simp⟩⟩
theorem Un.refl : Un fs ex H H h h := Un.kept fun _ _ q => q
theorem Un.laid (k : ∀ b u, h.get? b = some u -> h'.get? b = some u) (hp : h.objs.size <= a) (hn : H a = none) : Un fs ex H (upd H a o) h h' where
 keep := fun b u q _ _ _ => k b u q
 slot := fun b u q _ _ _ => ⟨u.slots, k b u q⟩
 free := fun b u q n _ => by rw [qe (Nat.ne_of_lt (Nat.lt_of_lt_of_le (Heap.lt_size q) hp))]; exact n
 there := fun b u q _ => ⟨u, k b u q⟩
 tups := fun b xs q => by rw [qe (qp q hn)]; exact q
 frzs := fun b u xs q => by rw [qe (qp q hn)]; exact q
 tbls := fun b ps q => ⟨#[], by rw [qe (qp q hn), q]; simp⟩
theorem Un.write (mu : Mut (H x)) (he : e = x \/ H e = some (.own x)) (k : ∀ b u, b ≠ e -> h.get? b = some u -> h'.get? b = some u) (heo : ∃ u, h'.get? e = some u) : Un fs ex H (upd H x o) h h' := by
 have hx : ∀ b, H b = none -> b ≠ x := fun b n z => by subst z; rw [n] at mu; exact mu
 have hb : ∀ b, H b = none -> b ≠ e := fun b n z => by
  subst z
  rcases he with r | r
  ·exact hx b n r
  ·rw [n] at r; cases r
 have hm : ∀ b u, H b = some u -> ¬ Mut (some u) -> b ≠ x := fun b u q nm z => by subst z; rw [q] at mu; exact nm mu
 refine ⟨fun b u q n _ _ => k b u (hb b n) q, fun b u q n _ _ => ⟨u.slots, k b u (hb b n) q⟩, fun b u q n _ => by rw [qe (hx b n)]; exact n, fun b u q _ => ?_,
  fun b xs q => by rw [qe (hm b _ q fun z => z)]; exact q, fun b u xs q => by rw [qe (hm b _ q fun z => z)]; exact q, fun b ps q => ⟨#[], by rw [qe (hm b _ q fun z => z), q]; simp⟩⟩
 by_cases hbe : b = e
 ·subst hbe; exact heo
 ·exact ⟨u, k b u hbe q⟩
end
noncomputable def trk (h : Heap) (H : Hp) : List Addr := (List.range h.objs.size).filter fun a => (H a).isSome
noncomputable def xo (h : Heap) (H : Hp) : Heap := PySem.W.hideAll h (trk h H)
theorem Vx (h : Heap) (H : Hp) : (xo h H).objs.size = h.objs.size := PySem.W.hideAll_size _ _
theorem WO {h : Heap} {H : Hp} {b : Addr} {o : Obj} (e : h.get? b = some o) (n : H b = none) : (xo h H).get? b = some o :=
 PySem.W.hideAll_get _ e fun hm => by
  have q : (H b).isSome = true := (List.mem_filter.mp hm).2
  rw [n] at q; simp at q
theorem Zx {h : Heap} {H : Hp} {b : Addr} {o : Obj} (e : (xo h H).get? b = some o) : h.get? b = some o /\ H b = none := by
 have e' : h.get? b = some o := PySem.W.of_hideAll (trk h H) e
 refine ⟨e', ?_⟩
 cases q : H b with
 | none => rfl
 | some x =>
  have hm : b ∈ trk h H := List.mem_filter.mpr ⟨List.mem_range.mpr (Heap.lt_size e'), by simp [q]⟩
  have z : (xo h H).get? b = none := PySem.W.hideAll_none (trk h H) hm
  rw [z] at e; cases e
structure Mod (K : PySem.W.Frag) (mg : Str -> Option Value) (base : Heap) : Prop where
 kin : K.In base
 glob : base.Ns mainGlobals mg
 blt : ∃ mb, base.Ns builtinsNs mb /\ ∀ x : Str, x ≠ "__name__" -> mb x = bootBuiltins x
 nolimit : base.NoLimit
structure Cx where
 prog : Program
 w : World
 K : PySem.W.Frag
 mg : Str -> Option Value
 base : Heap
 A : Around
 N : List Str
 s_0 : Shared
 H_0 : Hp
 env : Env
 outer : List Env
 stack : List Env
 ex : List Addr
 fn : Str -> Bool
 calm : Bool
 pn : List (Addr × Obj)
 xe : Value -> Shared -> Prop
noncomputable def frs (l : List Env) : List Addr := l.filterMap (·.frame)
noncomputable abbrev Cx.fs (X : Cx) : List Addr := frs X.outer
noncomputable def Vis (sc : Scope) (x : Str) : Prop := sc.names.lookup x = some .local \/ sc.names.lookup x = some .cell \/ sc.names.lookup x = some .free
noncomputable def Loc (sc : Scope) (x : Str) : Prop := sc.names.lookup x = some .local \/ sc.names.lookup x = some .cell
noncomputable def Look (env : Env) (h : Heap) (m : Str -> Option Value) (x : Str) (u : Value) : Prop :=
 (env.kindOf x = some .local /\ m x = some u) \/ ((env.kindOf x = some .cell \/ env.kindOf x = some .free) /\ ∃ c, env.cells.lookup x = some c /\ h.IsCell c (some u))
structure Cx.Ok (X : Cx) : Prop where
 mod : Mod X.K X.mg X.base
 kind : X.env.scope.kind = .function
 glob : X.env.globals = mainGlobals
 blt : X.env.builtins = builtinsNs
 above : X.s_0.heap.objs.size <= X.env.locals
 inj : ∀ x y c, X.env.cells.lookup x = some c -> X.env.cells.lookup y = some c -> x = y
 has : ∀ x, (X.env.kindOf x = some .cell \/ X.env.kindOf x = some .free) -> ∃ c, X.env.cells.lookup x = some c
 cab : ∀ x c, X.fn x = true -> X.env.cells.lookup x = some c -> X.s_0.heap.objs.size <= c
 hd : X.calm = true -> X.A.handled = none
 frames : X.A.frames = some X.stack
 stk : X.stack = X.outer \/ (X.stack = X.env :: X.outer /\ X.env.frame = some X.env.locals)
 exf : ∀ b ∈ X.ex, b ≠ X.env.locals /\ ∀ x c, X.env.cells.lookup x = some c -> c ≠ b
 bs : ∀ b o, X.base.get? b = some o -> X.s_0.heap.get? b = some o /\ X.H_0 b = none
 bsz : X.base.objs.size <= X.s_0.heap.objs.size
 noex : ∀ b o, X.base.get? b = some o -> b ∉ X.ex
 exfs : ∀ b ∈ X.ex, b ∉ X.fs
 zo : X.s_0.heap.FunFrames X.base X.outer
 frf : ∀ b ∈ X.fs, X.H_0 b = none
structure Inv (X : Cx) (pins : List (Addr × Obj)) (σ : List (Option V)) (H : Hp) (s : Shared) : Prop where
 ok : X.Ok
 os : s.os = X.s_0.os
 bare : AllBare s.gens
 base : Un X.fs X.ex X.H_0 H X.s_0.heap s.heap
 loc : ∃ m, s.heap.Ns X.env.locals m /\ ∀ (i : Nat) (x : Str) (v : V), X.N[i]? = some x -> σ[i]? = some (some v) -> Vis X.env.scope x -> ∃ u, RelV v u /\ Look X.env s.heap m x u
 cell : ∀ x c, X.env.cells.lookup x = some c -> ∃ v, s.heap.IsCell c v
 free : H X.env.locals = none
 freeC : ∀ x c, X.env.cells.lookup x = some c -> H c = none
 pin : ∀ p ∈ X.pn ++ pins, s.heap.get? p.1 = some p.2 /\ H p.1 = none /\ p.1 ≠ X.env.locals /\ p.1 ∉ X.fs /\ ∀ v, p.2.data ≠ .cell v
 hok : HOk X.prog X.w H s.heap
 len : σ.length = X.N.length
section
variable {X : Cx} {pins : List (Addr × Obj)} {σ : List (Option V)} {H H' : Hp} {s : Shared} {h' : Heap}
theorem Cx.Ok.U7 (ok : X.Ok) {b : Addr} {o : Obj} (e : X.base.get? b = some o) : b ∉ X.fs := fun hb => by
 have := (ok.zo.mem hb).1
 rw [e] at this; cases this
theorem Inv.bs (I : Inv X pins σ H s) : ∀ b o, X.base.get? b = some o -> s.heap.get? b = some o /\ H b = none := fun b o e =>
 ⟨I.base.keep b o (I.ok.bs b o e).1 (I.ok.bs b o e).2 (I.ok.U7 e) (I.ok.noex b o e), I.base.free b o (I.ok.bs b o e).1 (I.ok.bs b o e).2 (I.ok.noex b o e)⟩
theorem Inv.bk (I : Inv X pins σ H s) : ∀ b o, X.base.get? b = some o -> s.heap.get? b = some o := fun b o e => (I.bs b o e).1
theorem Inv.mod (I : Inv X pins σ H s) : Mod X.K X.mg X.base := I.ok.mod
theorem Inv.kIn (I : Inv X pins σ H s) : X.K.In s.heap := I.ok.mod.kin.keeps I.bk
theorem Inv.nolimit (I : Inv X pins σ H s) : s.heap.NoLimit := I.ok.mod.nolimit.keeps I.bk
theorem Inv.lt (I : Inv X pins σ H s) : X.env.locals < s.heap.objs.size := let ⟨_, hn, _⟩ := I.loc; hn.lt
theorem Inv.sz (I : Inv X pins σ H s) : X.s_0.heap.objs.size <= s.heap.objs.size := Nat.le_trans I.ok.above (Nat.le_of_lt I.lt)
theorem Inv.YF (I : Inv X pins σ H s) {a : Addr} (h : s.heap.objs.size <= a) : a ∉ X.fs := fun hb => by
 obtain ⟨_, o, ho, _⟩ := I.ok.zo.mem hb
 exact absurd (Nat.lt_of_lt_of_le (Heap.lt_size ho) (Nat.le_trans I.sz h)) (Nat.lt_irrefl _)
theorem Inv.cne (I : Inv X pins σ H s) : ∀ x c, X.env.cells.lookup x = some c -> c ≠ X.env.locals := fun x c e z => by
 obtain ⟨v, o, ho, hd⟩ := I.cell x c e
 obtain ⟨m, ⟨o', es, ep, ho', hd', _⟩, _⟩ := I.loc
 rw [z, ho'] at ho; cases ho; rw [hd'] at hd; cases hd
theorem Inv.zo (I : Inv X pins σ H s) : s.heap.FunFrames X.base X.outer := by
 have all : ∀ (l : List Env), (∀ b ∈ frs l, b ∈ X.fs) -> X.s_0.heap.FunFrames X.base l -> s.heap.FunFrames X.base l := by
  intro l
  induction l with
  | nil => intro _ _; trivial
  | cons env r ih =>
   intro hs hl
   obtain ⟨hk, ⟨L, o, hf, hn, ho, hd⟩, hr⟩ := hl
   have hL : L ∈ X.fs := hs L (by unfold frs; rw [List.filterMap_cons, hf]; exact List.mem_cons_self)
   obtain ⟨sl, e⟩ := I.base.slot L o ho (I.ok.frf L hL) hL fun z => I.ok.exfs L z hL
   exact ⟨hk, ⟨L, _, hf, hn, e, hd⟩, ih (fun b hb => hs b (by unfold frs; rw [List.filterMap_cons, hf]; exact List.mem_cons_of_mem _ hb)) hr⟩
 exact all X.outer (fun _ hb => hb) I.ok.zo
theorem Inv.stack (I : Inv X pins σ H s) : s.heap.FunFrames X.base X.stack := by
 rcases I.ok.stk with e | ⟨e, hf⟩
 ·rw [e]; exact I.zo
 ·rw [e]
  obtain ⟨m, hn, _⟩ := I.loc
  refine .cons (by rw [I.ok.kind]; decide) hf hn ?_ I.zo
  exact Heap.get?_none_of_le (Nat.le_trans I.ok.bsz I.ok.above)
theorem Inv.vQ (I : Inv X pins σ H s) : ∀ b ∈ frs X.stack, b ∈ X.env.locals :: X.fs := fun b hb => by
 rcases I.ok.stk with e | ⟨e, hf⟩
 ·rw [e] at hb; exact List.mem_cons_of_mem _ hb
 ·rw [e] at hb
  unfold frs at hb
  rw [List.filterMap_cons, hf] at hb
  exact hb
theorem Inv.yF (I : Inv X pins σ H s) : ∀ b ∈ frs X.stack, H b = none := fun b hb => by
 rcases List.mem_cons.mp (I.vQ b hb) with e | hb
 ·rw [e]; exact I.free
 ·obtain ⟨_, o, ho, _⟩ := I.ok.zo.mem hb
  exact I.base.free b o ho (I.ok.frf b hb) fun z => I.ok.exfs b z hb
theorem Inv.step {g' : Array GenState} {t' : Nat} {d' : Drawn} {ch : List Addr} (I : Inv X pins σ H s)
  (hch : ∀ b ∈ ch, (b ∈ X.ex \/ X.s_0.heap.objs.size <= b) /\ b ≠ X.env.locals /\ (∀ x c, X.env.cells.lookup x = some c -> c ≠ b) /\ ∀ p ∈ X.pn ++ pins, p.1 ≠ b)
  (keep : ∀ b o, b ≠ X.env.locals -> b ∉ X.fs -> b ∉ ch -> s.heap.get? b = some o -> H b = none -> h'.get? b = some o)
  (slot : ∀ b o, b ≠ X.env.locals -> b ∈ X.fs -> b ∉ ch -> s.heap.get? b = some o -> H b = none -> ∃ sl, h'.get? b = some { o with slots := sl }) (free : ∀ b o, b ∉ ch -> s.heap.get? b = some o -> H b = none -> H' b = none)
  (there : ∀ b o, b ∉ ch -> s.heap.get? b = some o -> ∃ o', h'.get? b = some o')
  (tups : ∀ b xs, H b = some (.tup xs) -> H' b = some (.tup xs)) (frzs : ∀ b o u, H b = some (.frz o u) -> H' b = some (.frz o u)) (tbls : ∀ b ps, H b = some (.tbl ps) -> ∃ more, H' b = some (.tbl (ps ++ more)))
  (ns : ∀ m, s.heap.Ns X.env.locals m -> h'.Ns X.env.locals m) (hok : HOk X.prog X.w H' h') (hg : AllBare g') :
  Inv X pins σ H' { s with heap := h', gens := g', drawn := d', toks := t' } := by
 have neL : ∀ b o, X.s_0.heap.get? b = some o -> b ≠ X.env.locals := fun b o e => Nat.ne_of_lt (Nat.lt_of_lt_of_le (Heap.lt_size e) I.ok.above)
 have neC : ∀ b o, X.s_0.heap.get? b = some o -> b ∉ X.ex -> b ∉ ch := fun b o e hx hb => by
  rcases (hch b hb).1 with z | z
  ·exact hx z
  ·exact absurd (Nat.lt_of_lt_of_le (Heap.lt_size e) z) (Nat.lt_irrefl _)
 have cellK : ∀ x c, X.env.cells.lookup x = some c -> ∀ v, s.heap.IsCell c v -> h'.IsCell c v := fun x c e v ⟨o, ho, hd⟩ => by
  have nch : c ∉ ch := fun z => (hch c z).2.2.1 x c e rfl
  by_cases hc : c ∈ X.fs
  ·obtain ⟨sl, q⟩ := slot c o (I.cne x c e) hc nch ho (I.freeC x c e)
   exact ⟨_, q, hd⟩
  ·exact ⟨o, keep c o (I.cne x c e) hc nch ho (I.freeC x c e), hd⟩
 refine ⟨I.ok, I.os, hg, ⟨fun b o e n hb hx => ?_, fun b o e n hb hx => ?_, fun b o e n hx => ?_, fun b o e hx => ?_, fun b xs e => tups b xs (I.base.tups b xs e), fun b o xs e => frzs b o xs (I.base.frzs b o xs e), fun b ps e => ?_⟩, ?_, fun x c e => ?_, ?_, fun x c e => ?_, fun p hp => ?_, hok, I.len⟩
 ·exact keep b o (neL b o e) hb (neC b o e hx) (I.base.keep b o e n hb hx) (I.base.free b o e n hx)
 ·obtain ⟨sl, e1⟩ := I.base.slot b o e n hb hx
  obtain ⟨sl', e2⟩ := slot b _ (neL b o e) hb (neC b o e hx) e1 (I.base.free b o e n hx)
  exact ⟨sl', e2⟩
 ·obtain ⟨o', e1⟩ := I.base.there b o e hx
  exact free b o' (neC b o e hx) e1 (I.base.free b o e n hx)
 ·obtain ⟨o', e1⟩ := I.base.there b o e hx
  exact there b o' (neC b o e hx) e1
 ·obtain ⟨m1, e1⟩ := I.base.tbls b ps e
  obtain ⟨m2, e2⟩ := tbls b _ e1
  exact ⟨m1 ++ m2, by rw [e2, Array.append_assoc]⟩
 ·obtain ⟨m, hn, hl⟩ := I.loc
  refine ⟨m, ns m hn, fun i x v e1 e2 e3 => ?_⟩
  obtain ⟨u, r, l⟩ := hl i x v e1 e2 e3
  refine ⟨u, r, ?_⟩
  rcases l with l | ⟨k, c, e, z⟩
  ·exact .inl l
  ·exact .inr ⟨k, c, e, cellK x c e _ z⟩
 ·obtain ⟨v, z⟩ := I.cell x c e
  exact ⟨v, cellK x c e v z⟩
 ·obtain ⟨m, ⟨o, _, _, ho, _⟩, _⟩ := I.loc
  exact free _ o (fun z => (hch _ z).2.1 rfl) ho I.free
 ·obtain ⟨v, o, ho, hd⟩ := I.cell x c e
  exact free c o (fun z => (hch c z).2.2.1 x c e rfl) ho (I.freeC x c e)
 ·obtain ⟨e, n, ne, nf, d⟩ := I.pin p hp
  have nch : p.1 ∉ ch := fun z => (hch p.1 z).2.2.2 p hp rfl
  exact ⟨keep p.1 p.2 ne nf nch e n, free p.1 p.2 nch e n, ne, nf, d⟩
theorem Inv.un {t' : Nat} (I : Inv X pins σ H s) (u : Un X.fs [] H H' s.heap h') (hok : HOk X.prog X.w H' h') : Inv X pins σ H' { s with heap := h', toks := t' } := by
 obtain ⟨m, ⟨o, es, ep, ho, r⟩, _⟩ := id I.loc
 obtain ⟨sl, hL⟩ := u.any ho I.free (by simp)
 exact I.step (g' := s.gens) (d' := s.drawn) (ch := []) (fun _ z => nomatch z) (fun b o _ hb _ e n => u.keep b o e n hb (by simp)) (fun b o _ hb _ e n => u.slot b o e n hb (by simp)) (fun b o _ e n => u.free b o e n (by simp)) (fun b o _ e => u.there b o e (by simp)) u.tups u.frzs u.tbls (fun m' hm => by
  obtain ⟨o', es', ep', ho', r'⟩ := hm
  rw [ho] at ho'; cases ho'
  exact ⟨_, es', ep', hL, r'⟩) hok I.bare
theorem Inv.call {g' : Array GenState} {t' : Nat} {d' : Drawn} {ch : List Addr} (I : Inv X pins σ H s) (u : Un (frs X.stack) ch H H' s.heap h') (hok : HOk X.prog X.w H' h') (hg : AllBare g')
  (hch : ∀ b ∈ ch, (b ∈ X.ex \/ X.s_0.heap.objs.size <= b) /\ b ≠ X.env.locals /\ (∀ x c, X.env.cells.lookup x = some c -> c ≠ b) /\ ∀ p ∈ X.pn ++ pins, p.1 ≠ b) :
  Inv X pins σ H' { s with heap := h', gens := g', drawn := d', toks := t' } := by
 obtain ⟨m, ⟨o, es, ep, ho, r⟩, _⟩ := id I.loc
 obtain ⟨sl, hL⟩ := u.any ho I.free fun z => (hch _ z).2.1 rfl
 exact I.step (ch := ch) hch (fun b o hL hb hc e n => u.keep b o e n (fun z => (List.mem_cons.mp (I.vQ b z)).elim hL hb) hc) (fun b o _ _ hc e n => u.any e n hc) (fun b o hc e n => u.free b o e n hc) (fun b o hc e => u.there b o e hc) u.tups u.frzs u.tbls (fun m' hm => by
  obtain ⟨o', es', ep', ho', r'⟩ := hm
  rw [ho] at ho'; cases ho'
  exact ⟨_, es', ep', hL, r'⟩) hok hg
theorem Inv.turned {t' : Nat} {it : Addr} (I : Inv X pins σ H s) (k : ∀ b o, b ≠ it -> s.heap.get? b = some o -> h'.get? b = some o) (hn : H it = none) (hL : it ≠ X.env.locals)
  (h1 : it ∈ X.ex \/ X.s_0.heap.objs.size <= it) (h2 : ∀ x c, X.env.cells.lookup x = some c -> c ≠ it) (h3 : ∀ p ∈ X.pn ++ pins, p.1 ≠ it) : Inv X pins σ H { s with heap := h', toks := t' } := by
 have nit : ∀ b u, H b = some u -> b ≠ it := fun b u e z => by rw [z, hn] at e; cases e
 refine I.step (g' := s.gens) (d' := s.drawn) (ch := [it]) (fun b hb => ?_) (fun b o _ _ hc e _ => k b o (fun z => hc (by simp [z])) e) (fun b o _ _ hc e _ => ⟨o.slots, k b o (fun z => hc (by simp [z])) e⟩) (fun _ _ _ _ n => n)
  (fun b o hc e => ⟨o, k b o (fun z => hc (by simp [z])) e⟩) (fun _ _ e => e) (fun _ _ _ e => e) (fun b ps e => ⟨#[], by rw [e]; simp⟩) (fun m hm => ?_) (fun b u e => ?_) I.bare
 ·have e : b = it := by simpa using hb
  subst e
  exact ⟨h1, hL, h2, h3⟩
 ·obtain ⟨o, es, ep, ho, r⟩ := hm
  exact ⟨o, es, ep, k _ o (Ne.symm hL) ho, r⟩
 ·refine (I.hok b u e).xO (fun c v hc q => k c v ?_ q) (fun _ q => q) fun _ _ q => q
  rcases hc with z | z
  ·rw [z]; exact nit b u e
  ·exact nit c _ z
theorem Inv.tok (I : Inv X pins σ H s) (t : Nat) : Inv X pins σ H { s with toks := t } := I.un (h' := s.heap) (t' := t) Un.refl I.hok
theorem Inv.kept {t' : Nat} (I : Inv X pins σ H s) (k : ∀ b u, s.heap.get? b = some u -> h'.get? b = some u) : Inv X pins σ H { s with heap := h', toks := t' } := I.un (Un.kept k) (I.hok.kept k)
theorem Inv.laid {a : Addr} {o : HO} {t' : Nat} (I : Inv X pins σ H s) (k : ∀ b u, s.heap.get? b = some u -> h'.get? b = some u) (hp : s.heap.objs.size <= a) (new : vI X.prog X.w (upd H a o) h' a o) :
  Inv X pins σ (upd H a o) { s with heap := h', toks := t' } := I.un (Un.laid k hp (I.hok.fresh hp)) (I.hok.laid k hp new)
theorem Inv.write {x e : Addr} {o : HO} {t' : Nat} (I : Inv X pins σ H s) (mu : Mut (H x)) (he : e = x \/ H e = some (.own x)) (k : ∀ b u, b ≠ e -> s.heap.get? b = some u -> h'.get? b = some u) (heo : ∃ u, h'.get? e = some u)
  (new : vI X.prog X.w (upd H x o) h' x o) : Inv X pins σ (upd H x o) { s with heap := h', toks := t' } := I.un (Un.write mu he k heo) (I.hok.write mu he k heo new)
theorem Inv.weak {σ' : List (Option V)} (I : Inv X pins σ H s) (hl : σ'.length = σ.length) (w : ∀ (i : Nat) v, σ'[i]? = some (some v) -> σ[i]? = some (some v)) : Inv X pins σ' H s :=
 ⟨I.ok, I.os, I.bare, I.base, let ⟨m, hn, hl'⟩ := I.loc; ⟨m, hn, fun i x v e1 e2 e3 => hl' i x v e1 (w i v e2) e3⟩, I.cell, I.free, I.freeC, I.pin, I.hok, hl.trans I.len⟩
theorem Inv.yC {pins' : List (Addr × Obj)} (I : Inv X pins σ H s) (h : ∀ p ∈ pins', s.heap.get? p.1 = some p.2 /\ H p.1 = none /\ p.1 ≠ X.env.locals /\ p.1 ∉ X.fs /\ ∀ v, p.2.data ≠ .cell v) : Inv X pins' σ H s :=
 ⟨I.ok, I.os, I.bare, I.base, I.loc, I.cell, I.free, I.freeC, fun p hp => (List.mem_append.mp hp).elim (fun z => I.pin p (List.mem_append_left _ z)) (h p), I.hok, I.len⟩
theorem xC {N : List Str} (hN : N.Nodup) {i j : Nat} {x : Str} (a : N[i]? = some x) (b : N[j]? = some x) : i = j := by
 obtain ⟨h1, e1⟩ := List.getElem?_eq_some_iff.mp a
 obtain ⟨h2, e2⟩ := List.getElem?_eq_some_iff.mp b
 exact (List.getElem_inj hN).mp (e1.trans e2.symm)
theorem VI {M : Model} {A : Around} {E : Value -> Shared -> Prop} {i : Nat} {x : Str} {v : V} {u : Value} {Q : Unit -> Shared -> Prop} (I : Inv X pins σ H s) (hN : X.N.Nodup) (hi : X.N[i]? = some x) (hx : Loc X.env.scope x) (r : RelV v u)
  (h : ∀ s', Inv X pins (σ.set i (some v)) H s' -> (∃ a, Heap.SameBut a s.heap s'.heap /\ (a = X.env.locals \/ X.env.cells.lookup x = some a)) -> Q () s') (hf : autoParam (X.fn x = true \/ X.env.scope.names.lookup x = some .local) xc._auto_1) : wpAny M A (storeName X.env x u) Q E s := by
 obtain ⟨m, hn, hl⟩ := id I.loc
 have hcls : (X.env.scope.kind == .class || (X.env.scope.kind == .module && X.env.locals != X.env.globals)) = false := by rw [I.ok.kind]; rfl
 have hiσ : i < σ.length := by rw [I.len]; exact (List.getElem?_eq_some_iff.mp hi).1
 have cne := I.cne
 have tracked : ∀ {a : Addr} {h' : Heap}, (∃ o, s.heap.get? a = some o /\ H a = none) -> Heap.SameBut a s.heap h' -> HOk X.prog X.w H h' := fun {a h'} ha hs b ob e => by
  obtain ⟨_, _, hfree⟩ := ha
  refine (I.hok b ob e).xO (fun c w' hc q => (hs.2 c ?_).trans q) (fun _ q => q) fun _ _ q => q
  rintro rfl
  rcases hc with rfl | hc
  ·rw [hfree] at e; cases e
  ·rw [hfree] at hc; cases hc
 rcases hx with hk | hk
 ·refine wpAny_storeName_local hk hn (fun h' hn' hs => ?_) hcls
  obtain ⟨oL, _, _, hoL, _⟩ := id hn
  refine h _ ⟨I.ok, I.os, I.bare, ⟨fun b o e n hb hx => ?_, fun b o e n hb hx => ?_, I.base.free, fun b o e hx => ?_, I.base.tups, I.base.frzs, I.base.tbls⟩, ⟨_, hn', fun j y v' e1 e2 e3 => ?_⟩, fun y c e => ?_, I.free, I.freeC, fun p hp => ?_, tracked ⟨oL, hoL, I.free⟩ hs, by simpa using I.len⟩ ⟨_, hs, .inl rfl⟩
  ·exact (hs.2 b (Nat.ne_of_lt (Nat.lt_of_lt_of_le (Heap.lt_size e) I.ok.above))).trans (I.base.keep b o e n hb hx)
  ·obtain ⟨sl, e1⟩ := I.base.slot b o e n hb hx
   exact ⟨sl, (hs.2 b (Nat.ne_of_lt (Nat.lt_of_lt_of_le (Heap.lt_size e) I.ok.above))).trans e1⟩
  ·obtain ⟨o', e1⟩ := I.base.there b o e hx
   exact ⟨o', (hs.2 b (Nat.ne_of_lt (Nat.lt_of_lt_of_le (Heap.lt_size e) I.ok.above))).trans e1⟩
  ·by_cases hj : j = i
   ·subst hj
    rw [hi] at e1; cases e1
    rw [List.getElem?_set_self hiσ] at e2
    cases e2
    exact ⟨u, r, .inl ⟨hk, by simp⟩⟩
   ·rw [List.getElem?_set_ne (Ne.symm hj)] at e2
    obtain ⟨u', r', q⟩ := hl j y v' e1 e2 e3
    refine ⟨u', r', ?_⟩
    rcases q with ⟨k, e⟩ | ⟨k, c, e, z⟩
    ·refine .inl ⟨k, ?_⟩
     have : y ≠ x := fun e => hj (xC hN e1 (e ▸ hi))
     simp [this, e]
    ·exact .inr ⟨k, c, e, z.sameBut hs (cne y c e)⟩
  ·obtain ⟨w', z⟩ := I.cell y c e
   exact ⟨w', z.sameBut hs (cne y c e)⟩
  ·obtain ⟨e, n, ne, nf, d⟩ := I.pin p hp
   exact ⟨(hs.2 p.1 ne).trans e, n, ne, nf, d⟩
 ·have hfn : X.fn x = true := by
   rcases hf with z | z
   ·exact z
   ·rw [z] at hk; cases hk
  obtain ⟨c, hc⟩ := I.ok.has x (.inl hk)
  obtain ⟨w', z⟩ := I.cell x c hc
  refine wpAny_storeName_cell I.ok.kind hk hc z (fun h' hc' hs => ?_)
  obtain ⟨oc, hoc, hocd⟩ := id z
  refine h { s with heap := h' } ⟨I.ok, I.os, I.bare, ⟨fun b o e n hb hx => ?_, fun b o e n hb hx => ?_, I.base.free, fun b o e hx => ?_, I.base.tups, I.base.frzs, I.base.tbls⟩, ⟨m, hn.sameBut hs (Ne.symm (cne x c hc)), fun j y v' e1 e2 e3 => ?_⟩, fun y c' e => ?_, I.free, I.freeC, fun p hp => ?_, tracked ⟨oc, hoc, I.freeC x c hc⟩ hs, by simpa using I.len⟩ ⟨c, hs, .inr hc⟩
  ·exact (hs.2 b (Nat.ne_of_lt (Nat.lt_of_lt_of_le (Heap.lt_size e) (I.ok.cab x c hfn hc)))).trans (I.base.keep b o e n hb hx)
  ·obtain ⟨sl, e1⟩ := I.base.slot b o e n hb hx
   exact ⟨sl, (hs.2 b (Nat.ne_of_lt (Nat.lt_of_lt_of_le (Heap.lt_size e) (I.ok.cab x c hfn hc)))).trans e1⟩
  ·obtain ⟨o', e1⟩ := I.base.there b o e hx
   exact ⟨o', (hs.2 b (Nat.ne_of_lt (Nat.lt_of_lt_of_le (Heap.lt_size e) (I.ok.cab x c hfn hc)))).trans e1⟩
  ·by_cases hj : j = i
   ·subst hj
    rw [hi] at e1; cases e1
    rw [List.getElem?_set_self hiσ] at e2
    cases e2
    exact ⟨u, r, .inr ⟨.inl hk, c, hc, hc'⟩⟩
   ·rw [List.getElem?_set_ne (Ne.symm hj)] at e2
    obtain ⟨u', r', q⟩ := hl j y v' e1 e2 e3
    refine ⟨u', r', ?_⟩
    rcases q with q | ⟨k, c', e, z'⟩
    ·exact .inl q
    ·refine .inr ⟨k, c', e, z'.sameBut hs ?_⟩
     rintro rfl
     exact hj (xC hN e1 (I.ok.inj _ _ _ e hc ▸ hi))
  ·by_cases hcc : c' = c
   ·subst hcc; exact ⟨_, hc'⟩
   ·obtain ⟨w2, z2⟩ := I.cell y c' e
    exact ⟨w2, z2.sameBut hs hcc⟩
  ·obtain ⟨e, n, ne, nf, d⟩ := I.pin p hp
   refine ⟨(hs.2 p.1 ?_).trans e, n, ne, nf, d⟩
   intro q
   rw [q, hoc] at e
   have q' : oc = p.2 := Option.some.inj e
   exact d w' (by rw [<- q']; exact hocd)
theorem jd {M : Model} {A : Around} {E : Value -> Shared -> Prop} {i : Nat} {x : Str} {v : V} {u : Value} {Q : Unit -> Shared -> Prop} (I : Inv X pins σ H s) (hN : X.N.Nodup) (hi : X.N[i]? = some x) (hx : Loc X.env.scope x) (r : RelV v u)
  (h : ∀ s', Inv X pins (σ.set i (some v)) H s' -> Q () s') (hf : autoParam (X.fn x = true \/ X.env.scope.names.lookup x = some .local) xc._auto_1) : wpAny M A (storeName X.env x u) Q E s :=
 VI I hN hi hx r (fun s' I' _ => h s' I') hf
theorem Inv.VY {s' : Shared} {ch : List Addr} (I : Inv X pins σ H s) (ho : s'.os = s.os) (u : Un (frs X.stack) ch H H' s.heap s'.heap) (hok : HOk X.prog X.w H' s'.heap) (hg : AllBare s'.gens)
  (hch : ∀ b ∈ ch, (b ∈ X.ex \/ X.s_0.heap.objs.size <= b) /\ b ≠ X.env.locals /\ (∀ x c, X.env.cells.lookup x = some c -> c ≠ b) /\ ∀ p ∈ X.pn ++ pins, p.1 ≠ b) : Inv X pins σ H' s' := by
 obtain ⟨h', g', d', t', o'⟩ := s'
 have e : o' = s.os := ho
 subst e
 exact I.call (g' := g') (t' := t') (d' := d') u hok hg hch
end
noncomputable abbrev XK := Value -> Option Addr -> Hp -> Prop
noncomputable abbrev St := List (Option V)
noncomputable abbrev VK := V -> Hp -> Prop
noncomputable abbrev TE := St -> Hp -> VK -> Prop
noncomputable abbrev TT := St -> Hp -> (Bool -> Hp -> Prop) -> Prop
noncomputable abbrev TA := St -> Hp -> (List V -> Hp -> Prop) -> Prop
structure Ends where
 nx : St -> Hp -> Prop
 rt : VK
 bk : St -> Hp -> Prop := fun _ _ => False
 ct : St -> Hp -> Prop := fun _ _ => False
noncomputable abbrev TS := Ends -> St -> Hp -> Prop
noncomputable def EP (X : Cx) (pins : List (Addr × Obj)) (σ : St) (Q : VK) (u : Value) (s' : Shared) : Prop := ∃ v H', Inv X pins σ H' s' /\ RelV v u /\ Q v H'
noncomputable def TP (X : Cx) (pins : List (Addr × Obj)) (σ : St) (Q : Bool -> Hp -> Prop) (b : Bool) (s' : Shared) : Prop := ∃ H', Inv X pins σ H' s' /\ Q b H'
noncomputable def AP (X : Cx) (pins : List (Addr × Obj)) (σ : St) (Q : List V -> Hp -> Prop) (us : List Value) (s' : Shared) : Prop := ∃ vs H', Inv X pins σ H' s' /\ Vals vs us /\ Q vs H'
noncomputable def SP (X : Cx) (pins : List (Addr × Obj)) (D : Ends) (f : Flow) (s' : Shared) : Prop :=
 match f with
 | .next => ∃ σ' H', Inv X pins σ' H' s' /\ D.nx σ' H'
 | .brk => ∃ σ' H', Inv X pins σ' H' s' /\ D.bk σ' H'
 | .cont => ∃ σ' H', Inv X pins σ' H' s' /\ D.ct σ' H'
 | .ret u => ∃ v σ' H', Inv X pins σ' H' s' /\ RelV v u /\ D.rt v H'
noncomputable def PE (X : Cx) (e : Expr) (t : TE) : Prop :=
 ∀ (pins : List (Addr × Obj)) (s : Shared) (σ : St) (H : Hp) (Q : VK), Inv X pins σ H s -> t σ H Q -> wpAny (model X.prog X.w) X.A (eval e X.env) (EP X pins σ Q) X.xe s
noncomputable def PT (X : Cx) (e : Expr) (t : TT) : Prop :=
 ∀ (pins : List (Addr × Obj)) (s : Shared) (σ : St) (H : Hp) (Q : Bool -> Hp -> Prop), Inv X pins σ H s -> t σ H Q -> wpAny (model X.prog X.w) X.A (isTrue e X.env (eval e X.env)) (TP X pins σ Q) X.xe s
noncomputable def PW (X : Cx) (e : Expr) (t : TT) : Prop :=
 ∀ (whole : Sem Value) (pins : List (Addr × Obj)) (s : Shared) (σ : St) (H : Hp) (Q : Bool -> Hp -> Prop), Inv X pins σ H s -> t σ H Q -> wpAny (model X.prog X.w) X.A (isTrue e X.env whole) (TP X pins σ Q) X.xe s
theorem PW.pt {X : Cx} {e : Expr} {t : TT} (h : PW X e t) : PT X e t := h _
noncomputable def PA (X : Cx) (es : List Expr) (t : TA) : Prop :=
 ∀ (pos : Pos) (pins : List (Addr × Obj)) (s : Shared) (σ : St) (H : Hp) (Q : List V -> Hp -> Prop), Inv X pins σ H s -> t σ H Q -> wpAny (model X.prog X.w) X.A (spliced (backTo pos (starEach es X.env))) (AP X pins σ Q) X.xe s
noncomputable def PS (X : Cx) (st : Stmt) (t : TS) : Prop :=
 ∀ (pins : List (Addr × Obj)) (s : Shared) (σ : St) (H : Hp) (D : Ends), Inv X pins σ H s -> t D σ H -> wpAny (model X.prog X.w) X.A (exec st X.env) (SP X pins D) X.xe s
noncomputable def PSs (X : Cx) (st : List Stmt) (t : TS) : Prop :=
 ∀ (pins : List (Addr × Obj)) (s : Shared) (σ : St) (H : Hp) (D : Ends), Inv X pins σ H s -> t D σ H -> wpAny (model X.prog X.w) X.A (execs st X.env) (SP X pins D) X.xe s
theorem thn {α : Type} {t : Sem α} {Q Q' : α -> Shared -> Prop} {M : Model} {A : Around} {E : Value -> Shared -> Prop} {s : Shared} (h : wpAny M A t Q E s) (hQ : ∀ a s, Q a s -> Q' a s) : wpAny M A t Q' E s := wpAny_mono h hQ fun _ _ x => x
section
variable {X : Cx}
noncomputable def X8 (i : Nat) : TE := fun σ H Q => ∃ v, σ[i]? = some (some v) /\ Q v H
noncomputable def tC (v : V) : TE := fun _ H Q => Q v H
theorem uI {i : Nat} {x : Str} {pos : Pos} (hN : X.N[i]? = some x) (hv : Vis X.env.scope x) (hd : autoParam ((x == ("__debug__" : Str)) = false) qH._auto_1) (hcd : autoParam ((x == ("__classdict__" : Str)) = false) qH._auto_1) : PE X (.Name x pos) (X8 i) := by
 intro pins s σ H Q I h
 obtain ⟨v, e, h⟩ := h
 obtain ⟨m, hn, hl⟩ := I.loc
 obtain ⟨u, r, l⟩ := hl i x v hN e hv
 have fin : EP X pins σ Q u s := ⟨v, H, I, r, h⟩
 rcases l with ⟨hk, hm⟩ | ⟨hk, c, hc, hcell⟩
 ·exact wpAny_Name (wpAny_loadName_local I.ok.kind hk hn hm fin) hd
 ·rcases hk with hk | hk
  ·exact wpAny_Name (wpAny_loadName_cell I.ok.kind hk hc hcell fin) hd
  ·exact wpAny_Name (wpAny_loadName_free I.ok.kind hk hc hcell fin hcd) hd
theorem Qe {i j pos} : PE X (.Constant (.int i) j pos) (tC (.int i)) := fun _ _ _ H _ I h => wpAny_Constant_int ⟨.int i, H, I.tok _, ⟨_, rfl⟩, h⟩
noncomputable def Gl (X : Cx) (x : Str) : Prop := X.env.kindOf x = some .globalImplicit
theorem zJ {E : Value -> Shared -> Prop} {pins : List (Addr × Obj)} {s : Shared} {σ : St} {H : Hp} {x : Str} {u : Value} {pos : Pos} {Q : Value -> Shared -> Prop} (I : Inv X pins σ H s) (hg : Gl X x) (hm : X.mg x = some u) (h : Q u s)
  (hd : autoParam ((x == ("__debug__" : Str)) = false) qH._auto_1) : wpAny (model X.prog X.w) X.A (eval (.Name x pos) X.env) Q E s :=
 Calls.Name_function_global I.ok.kind hg (Calls.loadGlobal_global (by rw [I.ok.glob]; exact I.mod.glob.keeps I.bk) hm h) hd
theorem z6 {E : Value -> Shared -> Prop} {pins : List (Addr × Obj)} {s : Shared} {σ : St} {H : Hp} {x : Str} {u : Value} {pos : Pos} {Q : Value -> Shared -> Prop} (I : Inv X pins σ H s) (hg : Gl X x) (hm : X.mg x = none) (hv : bootBuiltins x = some u) (h : Q u s)
  (hn : autoParam (x ≠ "__name__") qH._auto_1) (hd : autoParam ((x == ("__debug__" : Str)) = false) qH._auto_1) : wpAny (model X.prog X.w) X.A (eval (.Name x pos) X.env) Q E s := by
 obtain ⟨mb, h1, h2⟩ := I.mod.blt
 exact Calls.Name_function_global I.ok.kind hg (Calls.loadGlobal_builtin (by rw [I.ok.glob]; exact I.mod.glob.keeps I.bk) hm (by rw [I.ok.blt]; exact h1.keeps I.bk) ((h2 x hn).trans hv) h) hd
theorem ZW {x : Str} {v : V} {u : Value} {pos : Pos} (hg : Gl X x) (hm : X.mg x = some u) (r : RelV v u) (hd : autoParam ((x == ("__debug__" : Str)) = false) qH._auto_1) : PE X (.Name x pos) (tC v) :=
 fun _ _ _ H _ I h => zJ I hg hm ⟨v, H, I, r, h⟩ hd
variable {a b : Expr} {ta tb : TE} {pos : Pos}
noncomputable def tB (t : TE) : TT := fun σ H Q => t σ H fun x H1 => ∃ c, x = .bl c /\ Q c H1
theorem YT {e : Expr} {t : TE} (h : PE X e t) (he : autoParam (∀ whole, isTrue e X.env whole = (do let v <- whole; standAt e.pos; holding [v] (truthy v))) zB._auto_1) : PT X e (tB t) := by
 intro pins s σ H Q I hw
 refine isTrue_plain (thn (h pins s σ H _ I hw) fun v s1 ⟨x, H1, I1, r1, q1⟩ => ?_) (he _)
 obtain ⟨d, rfl, q⟩ := q1
 cases r1
 exact wpAny_truthy_bool ⟨H1, I1, q⟩
variable {tA tB' : TT} {rest : List Expr}
noncomputable def tOr (t u : TT) : TT := fun σ H Q => t σ H fun c H1 => if c = true then Q true H1 else u σ H1 Q
noncomputable def UT (t : TT) : TT := fun σ H Q => t σ H fun c H1 => Q (!c) H1
theorem Xo (ha : PT X a tA) : PW X (.BoolOp .Or [a] pos) tA := by
 intro wh pins s σ H Q I h
 refine isTrue_or (thn (ha pins s σ H Q I h) fun c s1 e => ?_)
 cases c with
 | false => exact isTrue_or_nil e
 | true => exact e
theorem UK (ha : PT X a tA) (hb : PW X (.BoolOp .Or (b :: rest) pos) tB') : PW X (.BoolOp .Or (a :: b :: rest) pos) (tOr tA tB') := by
 intro wh pins s σ H Q I h
 refine isTrue_or (thn (ha pins s σ H _ I h) fun c s1 ⟨H1, I1, q1⟩ => ?_)
 cases c with
 | true => exact ⟨H1, I1, q1⟩
 | false => exact hb wh pins s1 σ H1 Q I1 q1
theorem XA (ha : PT X a tA) : PT X (.UnaryOp .Not a pos) (UT tA) := by
 intro pins s σ H Q I h
 exact isTrue_not (ha pins s σ H (fun c H1 => Q (!c) H1) I h)
noncomputable def tIf (t : TT) (ta tb : TE) : TE := fun σ H Q => t σ H fun c H1 => if c = true then ta σ H1 Q else tb σ H1 Q
theorem Wm {c : Expr} (hc : PT X c tA) (ha : PE X a ta) (hb : PE X b tb) : PE X (.IfExp c a b pos) (tIf tA ta tb) := by
 intro pins s σ H Q I h
 refine wpAny_IfExp (thn (hc pins s σ H _ I h) fun d s1 ⟨H1, I1, q1⟩ => ?_)
 cases d with
 | true => exact ha pins s1 σ H1 Q I1 q1
 | false => exact hb pins s1 σ H1 Q I1 q1
end
noncomputable def SqL (K : PySem.W.Frag) (H : Hp) (a : Addr) (xs : List V) : Prop :=
 Rd H a (.lst xs) \/
  ∃ (o : Obj) (its : Array Value) (n : Nat), K.lookup a = some o /\ o.cls = .type "list" /\ o.dict = none /\ o.data = .seq its n /\ its.size <= sizeLine /\ Vals xs its.toList
noncomputable def SqT (K : PySem.W.Frag) (H : Hp) (a : Addr) (xs : List V) : Prop :=
 Rd H a (.tup xs) \/
  ∃ (o : Obj) (its : Array Value) (n : Nat), K.lookup a = some o /\ o.cls = .type "tuple" /\ o.data = .seq its n /\ its.size <= sizeLine /\ Vals xs its.toList
noncomputable def UY : Value -> Option V
 | .none => some .non
 | .bool b => some (.bl b)
 | .int i _ => some (.int i)
 | .str x _ => some (.str x)
 | .bytes b _ => some (.byt b)
 | .float b _ => some (.flt b)
 | .ref a => some (.ref a)
 | .type n => some (.ty n)
 | _ => none
theorem RelV.abs {x : V} {u : Value} (r : RelV x u) : UY u = some x := by
 cases x with
 | non => cases r; rfl
 | bl _ => cases r; rfl
 | int _ => obtain ⟨t, rfl⟩ := r; rfl
 | str _ => obtain ⟨t, rfl⟩ := r; rfl
 | byt _ => obtain ⟨t, rfl⟩ := r; rfl
 | flt _ => obtain ⟨t, rfl⟩ := r; rfl
 | ref _ => cases r; rfl
 | ty _ => cases r; rfl
theorem RelV.inj {x y : V} {u : Value} (r : RelV x u) (q : RelV y u) : x = y := Option.some.inj (r.abs.symm.trans q.abs)
theorem Vals.inj : ∀ {xs ys : List V} {us : List Value}, Vals xs us -> Vals ys us -> xs = ys
 | _, _, _, .nil, .nil => rfl
 | _, _, _, .cons r t, .cons r' t' => by rw [r.inj r', Vals.inj t t']
section
variable {X : Cx} {pins : List (Addr × Obj)} {σ : St} {H : Hp} {s : Shared} {a : Addr} {xs ys : List V}
theorem SqL.of {K : PySem.W.Frag} (h : H a = some (.lst xs)) : SqL K H a xs := .inl (.inl h)
theorem SqT.of {K : PySem.W.Frag} (h : H a = some (.tup xs)) : SqT K H a xs := .inl (.inl h)
theorem Inv.list (I : Inv X pins σ H s) (h : SqL X.K H a xs) : ∃ its : List Value, Vals xs its /\ PlainL s.heap a its.toArray /\ xs.length <= sizeLine := by
 rcases h with h | ⟨o, its, n, hk, hc, hd, hs, hz, r⟩
 ·obtain ⟨z, its, n, r, e⟩ := h.ok I.hok
  exact ⟨its, r, ⟨_, n, e, rfl, rfl, rfl⟩, z⟩
 ·refine ⟨its.toList, r, ⟨o, n, I.kIn a o hk, hc, hd, by simpa using hs⟩, ?_⟩
  have e := r.length
  simp only [Array.length_toList] at e
  lia
theorem Inv.tuple (I : Inv X pins σ H s) (h : SqT X.K H a xs) : ∃ its : List Value, Vals xs its /\ IsTup s.heap a its.toArray /\ xs.length <= sizeLine := by
 rcases h with h | ⟨o, its, n, hk, hc, hs, hz, r⟩
 ·obtain ⟨z, its, r, p⟩ := h.ok I.hok
  exact ⟨its, r, p, z⟩
 ·refine ⟨its.toList, r, ⟨o, I.kIn a o hk, hc, n, by simpa using hs⟩, ?_⟩
  have e := r.length
  simp only [Array.length_toList] at e
  lia
theorem Inv.xq (I : Inv X pins σ H s) (h : SqL X.K H a xs) (h' : SqL X.K H a ys) : xs = ys := by
 obtain ⟨its, r, ⟨o, n, e, _, _, d⟩, _⟩ := I.list h
 obtain ⟨its', r', ⟨o', n', e', _, _, d'⟩, _⟩ := I.list h'
 rw [e] at e'; cases e'
 rw [d] at d'
 injection d' with d1 _
 have : its = its' := by simpa using congrArg Array.toList d1
 subst this
 exact r.inj r'
end
noncomputable abbrev Cx.wU (X : Cx) (E : Value -> Shared -> Prop) : Cx := { X with xe := E }
theorem Cx.Ok.wU {X : Cx} (ok : X.Ok) (E : Value -> Shared -> Prop) : (X.wU E).Ok :=
 ⟨ok.mod, ok.kind, ok.glob, ok.blt, ok.above, ok.inj, ok.has, ok.cab, ok.hd, ok.frames, ok.stk, ok.exf, ok.bs, ok.bsz, ok.noex, ok.exfs, ok.zo, ok.frf⟩
theorem Cx.Ok.vK {X : Cx} {E : Value -> Shared -> Prop} (ok : (X.wU E).Ok) : X.Ok :=
 ⟨ok.mod, ok.kind, ok.glob, ok.blt, ok.above, ok.inj, ok.has, ok.cab, ok.hd, ok.frames, ok.stk, ok.exf, ok.bs, ok.bsz, ok.noex, ok.exfs, ok.zo, ok.frf⟩
section
variable {X : Cx} {pins : List (Addr × Obj)} {σ : St} {H : Hp} {s : Shared} {E : Value -> Shared -> Prop}
theorem Inv.wU (I : Inv X pins σ H s) (E : Value -> Shared -> Prop) : Inv (X.wU E) pins σ H s := ⟨I.ok.wU E, I.os, I.bare, I.base, I.loc, I.cell, I.free, I.freeC, I.pin, I.hok, I.len⟩
theorem Inv.vK (I : Inv (X.wU E) pins σ H s) : Inv X pins σ H s := ⟨I.ok.vK, I.os, I.bare, I.base, I.loc, I.cell, I.free, I.freeC, I.pin, I.hok, I.len⟩
theorem SP.vK {D : Ends} {f : Flow} {s' : Shared} (h : SP (X.wU E) pins D f s') : SP X pins D f s' := by
 cases f with
 | next => obtain ⟨σ', H', I, q⟩ := h; exact ⟨σ', H', I.vK, q⟩
 | brk => obtain ⟨σ', H', I, q⟩ := h; exact ⟨σ', H', I.vK, q⟩
 | cont => obtain ⟨σ', H', I, q⟩ := h; exact ⟨σ', H', I.vK, q⟩
 | ret u => obtain ⟨v, σ', H', I, r, q⟩ := h; exact ⟨v, σ', H', I.vK, r, q⟩
end
section
variable {X : Cx} {st : Stmt} {rest : List Stmt} {t u : TS} {e : Expr} {te : TE} {pos : Pos}
noncomputable def Uz : TS := fun D σ H => D.nx σ H
noncomputable def Zp (t u : TS) : TS := fun D σ H => t { D with nx := u D } σ H
theorem ZT : PSs X [] Uz := fun _ _ σ H _ I h => wpAny_execs_nil ⟨σ, H, I, h⟩
theorem wu (h1 : PS X st t) (h2 : PSs X rest u) : PSs X (st :: rest) (Zp t u) := by
 intro pins s σ H D I h
 refine wpAny_execs_cons (thn (h1 pins s σ H { D with nx := u D } I h) fun f s1 q => ?_)
 cases f with
 | next =>
  obtain ⟨σ', H', I', q⟩ := q
  exact h2 pins s1 σ' H' D I' q
 | ret v => exact q
 | brk => exact q
 | cont => exact q
theorem wG (h1 : PS X st t) : PSs X [st] t := by
 intro pins s σ H D I h
 refine wpAny_execs_cons (thn (h1 pins s σ H D I h) fun f s1 q => ?_)
 cases f with
 | next => exact wpAny_execs_nil q
 | ret v => exact q
 | brk => exact q
 | cont => exact q
theorem Inv.quiet {pins : List (Addr × Obj)} {σ : St} {H : Hp} {s : Shared} (I : Inv X pins σ H s) : interactive X.env = false := by simp [interactive, I.ok.kind]
noncomputable def UJ (te : TE) : TS := fun D σ H => te σ H fun _ H1 => D.nx σ H1
theorem Q0 (he : PE X e te) (hs : autoParam (swapsWith e none pos.line X.env = pure false) qj._auto_1) : PS X (.Expr e pos) (UJ te) := by
 intro pins s σ H D I h
 exact wpAny_Expr_any (thn (he pins s σ H _ I h) fun v s1 ⟨x, H1, I1, r1, q1⟩ => ⟨σ, H1, I1, q1⟩) I.quiet hs
noncomputable def YZ (te : TE) : TS := fun D σ H => te σ H D.rt
theorem z8 (he : PE X e te) : PS X (.Return (some e) pos) (YZ te) := by
 intro pins s σ H D I h
 exact wpAny_Return_some (thn (he pins s σ H _ I h) fun v s1 ⟨x, H1, I1, r1, q1⟩ => ⟨x, σ, H1, I1, r1, q1⟩)
noncomputable def U4 (c : TT) (t u : TS) : TS := fun D σ H => c σ H fun b H1 => if b = true then t D σ H1 else u D σ H1
theorem Uy {c : Expr} {a b : List Stmt} {tc : TT} (hc : PT X c tc) (ha : PSs X a t) (hb : PSs X b u) : PS X (.If c a b pos) (U4 tc t u) := by
 intro pins s σ H D I h
 refine wpAny_If (thn (hc pins s σ H _ I h) fun d s1 ⟨H1, I1, q1⟩ => ?_)
 cases d with
 | true => exact ha pins s1 σ H1 D I1 q1
 | false => exact hb pins s1 σ H1 D I1 q1
end
noncomputable abbrev TG := V -> St -> Hp -> (St -> Hp -> Prop) -> Prop
noncomputable abbrev TGs := List V -> St -> Hp -> (St -> Hp -> Prop) -> Prop
noncomputable def PG (X : Cx) (target : Expr) (t : TG) : Prop :=
 ∀ (pins : List (Addr × Obj)) (s : Shared) (σ : St) (H : Hp) (v : V) (u : Value) (Q : St -> Hp -> Prop), Inv X pins σ H s -> RelV v u -> t v σ H Q ->
  wpAny (model X.prog X.w) X.A (assign target X.env u) (fun _ s' => ∃ σ' H', Inv X pins σ' H' s' /\ Q σ' H') X.xe s
noncomputable def PGs (X : Cx) (ts : List Expr) (t : TGs) : Prop :=
 ∀ (pins : List (Addr × Obj)) (s : Shared) (σ : St) (H : Hp) (vs : List V) (us : List Value) (Q : St -> Hp -> Prop), Inv X pins σ H s -> Vals vs us -> t vs σ H Q ->
  wpAny (model X.prog X.w) X.A (assignInOrder ((assignEach ts X.env).map (·.2)) us) (fun _ s' => ∃ σ' H', Inv X pins σ' H' s' /\ Q σ' H') X.xe s
section
variable {X : Cx} {pos : Pos}
noncomputable def vz (i : Nat) : TG := fun v σ H Q => Q (σ.set i (some v)) H
theorem Zg {i : Nat} {x : Str} (hN : X.N.Nodup) (hi : X.N[i]? = some x) (hx : Loc X.env.scope x) (hf : autoParam (X.fn x = true \/ X.env.scope.names.lookup x = some .local) xc._auto_1) : PG X (.Name x pos) (vz i) := by
 intro pins s σ H v u Q I r h
 exact wpAny_assign_Name (jd I hN hi hx r (fun s' I' => ⟨_, H, I', h⟩) hf)
noncomputable def Yf : TGs := fun vs σ H Q => vs = [] /\ Q σ H
noncomputable def yW (t : TG) (u : TGs) : TGs := fun vs σ H Q => ∃ v r, vs = v :: r /\ t v σ H fun σ' H' => u r σ' H' Q
theorem Yh : PGs X [] Yf := by
 intro pins s σ H vs us Q I r h
 obtain ⟨e, h⟩ := h
 subst e
 cases r
 exact assignInOrder_nil ⟨σ, H, I, h⟩
theorem jD {e : Expr} {es : List Expr} {t : TG} {u : TGs} (h1 : PG X e t) (h2 : PGs X es u)
  (hs : autoParam ((assignEach (e :: es) X.env).map (·.2) = assign e X.env :: (assignEach es X.env).map (·.2)) qj._auto_1) : PGs X (e :: es) (yW t u) := by
 intro pins s σ H vs us Q I r h
 obtain ⟨v, vr, e1, h⟩ := h
 subst e1
 cases r with
 | cons r rr =>
  rw [hs]
  refine assignInOrder_cons (thn (h1 pins s σ H _ _ _ I r h) fun _ s1 ⟨σ1, H1, I1, q1⟩ => ?_)
  exact h2 pins s1 σ1 H1 _ _ Q I1 rr q1
noncomputable def Zq (K : PySem.W.Frag) (n : Nat) (t : TGs) : TG := fun v σ H Q => ∃ a xs, v = .ref a /\ SqT K H a xs /\ xs.length = n /\ t xs σ H Q
theorem Y7 {es : List Expr} {k : Nat} {t : TGs} {n : Nat} (hc : X.calm = true) (h : PGs X es t)
  (hn : autoParam ((assignEach es X.env).length = n) qj._auto_1) (hst : autoParam ((assignEach es X.env).findIdx? (·.1) = none) qj._auto_1) : PG X (.Tuple es k pos) (Zq X.K n t) := by
 intro pins s σ H v u Q I r hw
 obtain ⟨a, xs, e1, hq, hl, hw⟩ := hw
 subst e1
 cases r
 obtain ⟨its, rv, ht, hz⟩ := I.tuple hq
 refine assign_Tuple_tuple (I.ok.hd hc) ht (by simp [hn, <- hl, rv.length]) hst fun h' hx => ?_
 have I1 : Inv X pins σ H { s with heap := h' } := I.kept (t' := s.toks) fun b o e => hx b o (Nat.ne_of_lt (Heap.lt_size e)) e
 exact h pins _ σ H xs _ Q I1 (by simpa using rv) hw
noncomputable def Wd (te : TE) (g : TG) : TS := fun D σ H => te σ H fun x H1 => g x σ H1 D.nx
theorem uT {i : Nat} {x : Str} {e : Expr} {te : TE} {pos' : Pos} (hN : X.N.Nodup) (hi : X.N[i]? = some x) (hx : Loc X.env.scope x) (he : PE X e te) (hs : autoParam (swapsWith e (some (.Name x pos')) pos.line X.env = pure false) qj._auto_1) (hf : autoParam (X.fn x = true \/ X.env.scope.names.lookup x = some .local) xc._auto_1) :
  PS X (.Assign [.Name x pos'] e pos) (Wd te (vz i)) := by
 intro pins s σ H D I h
 refine wpAny_Assign_Name (thn (he pins s σ H _ I h) fun v s1 ⟨y, H1, I1, r1, q1⟩ => ?_) hs
 exact jd I1 hN hi hx r1 (fun s2 I2 => ⟨_, H1, I2, q1⟩) hf
end
structure It where
 go : Nat -> Hp -> Prop
 yld : Nat -> Hp -> V -> Hp -> Prop
 stop : Nat -> Hp -> Prop
noncomputable def wJ (X : Cx) (pins : List (Addr × Obj)) (H : Hp) (b : Addr) : Prop :=
 H b = none /\ b ≠ X.env.locals /\ b ∉ X.fs /\ (b ∈ X.ex \/ X.s_0.heap.objs.size <= b) /\ (∀ x c, X.env.cells.lookup x = some c -> c ≠ b) /\ ∀ p ∈ X.pn ++ pins, p.1 ≠ b
theorem Inv.QC {X : Cx} {pins : List (Addr × Obj)} {σ : St} {H H' : Hp} {s : Shared} {b : Addr} (I : Inv X pins σ H s) (hb : s.heap.objs.size <= b) (hn : H' b = none) : wJ X pins H' b := by
 refine ⟨hn, Nat.ne_of_gt (Nat.lt_of_lt_of_le I.lt hb), I.YF hb, .inr (Nat.le_trans I.sz hb), fun x c e z => ?_, fun p hp z => ?_⟩
 ·obtain ⟨v, q⟩ := I.cell x c e
  exact absurd (Nat.lt_of_lt_of_le q.lt (by rw [z]; exact hb)) (Nat.lt_irrefl _)
 ·exact absurd (Nat.lt_of_lt_of_le (Heap.lt_size (I.pin p hp).1) (by rw [z]; exact hb)) (Nat.lt_irrefl _)
structure Turn (P : Program) (w : World) (K : PySem.W.Frag) (tg : Expr) (J : It) (fp : List Addr) (it : Addr) (tn : Nat -> Heap -> Prop) : Prop where
 mem : it ∈ fp
 obj : ∀ i h, tn i h -> ∀ b ∈ fp, ∃ o, h.get? b = some o /\ ∀ v, o.data ≠ .cell v
 keep : ∀ i h h', tn i h -> (∀ b ∈ fp, ∀ o, h.get? b = some o -> h'.get? b = some o) -> tn i h'
 item : ∀ (X : Cx), X.prog = P -> X.w = w -> X.K = K -> X.calm = true -> ∀ (i : Nat) (pins : List (Addr × Obj)) (s : Shared) (σ : St) (H : Hp) (E : Value -> Shared -> Prop), Inv X pins σ H s -> (∀ b ∈ fp, wJ X pins H b) -> tn i s.heap -> J.go i H ->
  wpAny (model P w) X.A (pyNext (.ref it)) (fun r s1 => ∃ u, r = some u /\
   wpAny (model P w) X.A (letOwnedTupleGo tg (.ref it) u) (fun _ s2 => ∃ x H', Inv X pins σ H' s2 /\ RelV x u /\ J.yld i H x H' /\ tn (i + 1) s2.heap /\ ∀ b ∈ fp, H' b = none) E s1) E s
 done : ∀ (X : Cx), X.prog = P -> X.w = w -> X.K = K -> X.calm = true -> ∀ (i : Nat) (pins : List (Addr × Obj)) (s : Shared) (σ : St) (H : Hp) (E : Value -> Shared -> Prop), Inv X pins σ H s -> (∀ b ∈ fp, wJ X pins H b) -> tn i s.heap -> J.stop i H ->
  wpAny (model P w) X.A (pyNext (.ref it)) (fun r s1 => r = none /\ Inv X pins σ H s1) E s
 self : ∀ (A : Around) (i : Nat) (s : Shared) (Q : Value -> Shared -> Prop) (E : Value -> Shared -> Prop), tn i s.heap -> Q (.ref it) s -> wpAny (model P w) A (pyIter (.ref it)) Q E s
noncomputable abbrev TI := St -> Hp -> (It -> Hp -> Prop) -> Prop
noncomputable def PIE (X : Cx) (pins : List (Addr × Obj)) (σ : St) (tg : Expr) (R : It -> Hp -> Prop) (itv : Value) (s2 : Shared) : Prop :=
 ∃ (it : Addr) (fp : List Addr) (tn : Nat -> Heap -> Prop) (J : It) (H' : Hp), itv = .ref it /\ Inv X pins σ H' s2 /\ Turn X.prog X.w X.K tg J fp it tn /\ tn 0 s2.heap /\ (∀ b ∈ fp, wJ X pins H' b) /\ R J H'
noncomputable def PI (X : Cx) (tg iter : Expr) (wi : TI) : Prop :=
 ∀ (pins : List (Addr × Obj)) (s : Shared) (σ : St) (H : Hp) (R : It -> Hp -> Prop), Inv X pins σ H s -> wi σ H R ->
  wpAny (model X.prog X.w) X.A (eval iter X.env) (fun v s1 => wpAny (model X.prog X.w) X.A (pyIter v) (PIE X pins σ tg R) X.xe s1) X.xe s
theorem WZ {M : Model} {A : Around} {E : Value -> Shared -> Prop} {s : Shared} {tg : Expr} {it : Addr} {u : Value} {o : Obj} {n : String} {vs : Array Value} {Q : Unit -> Shared -> Prop} (ho : s.heap.get? it = some o) (hc : o.cls = .type n) (hd : o.data = .fields vs)
    (hn : ["enumerate", "zip", "dict_itemiterator", "dict_reverseitemiterator", "odict_iterator", "itertools.zip_longest", "itertools.pairwise"].contains n = false) (hQ : Q () s) : wpAny M A (letOwnedTupleGo tg (.ref it) u) Q E s := by
  unfold letOwnedTupleGo
  cases tg <;> first
    | exact wpAny_pure hQ
    | (cases u <;> first
        | exact wpAny_pure hQ
        | (refine wpAny_bind (wpAny_load ho ?_)
           rw [hc, hd]
           show wpAny M A (if (["enumerate", "zip", "dict_itemiterator", "dict_reverseitemiterator", "odict_iterator", "itertools.zip_longest", "itertools.pairwise"].contains n && vs[0]? == some (rawInt _)) = true then _ else _) Q E s
           rw [if_neg (by intro h; rw [hn, Bool.false_and] at h; cases h)]
           exact wpAny_pure hQ))
noncomputable def Itl (K : PySem.W.Frag) (a : Addr) : It :=
 ⟨fun i H => ∃ xs x, SqL K H a xs /\ xs[i]? = some x, fun i H x H' => H' = H /\ ∀ xs, SqL K H a xs -> xs[i]? = some x, fun i H => ∃ xs, SqL K H a xs /\ xs.length <= i⟩
noncomputable def Itr (lo : Int) (n : Nat) : It := ⟨fun i _ => i < n, fun i H x H' => H' = H /\ x = .int (lo + i), fun i _ => n <= i⟩
theorem VC {P : Program} {w : World} {K : PySem.W.Frag} {tg : Expr} (a it : Addr) : Turn P w K tg (Itl K a) [it] it (fun i h => h.IsListIter it a i) where
 mem := by simp
 obj := fun i h st b hb => by
  have e : b = it := by simpa using hb
  subst e
  obtain ⟨o, e, c, d⟩ := st
  exact ⟨o, e, fun v z => by rw [d] at z; cases z⟩
 keep := fun i h h' st k => st.at fun o e => k it (by simp) o e
 item := by
  intro X hP hw hK hc i pins s σ H E I hf st hg
  subst hP hw hK
  obtain ⟨xs, x, hq, hx⟩ := hg
  obtain ⟨its, rv, p, hz⟩ := I.list hq
  obtain ⟨u, hu, ru⟩ := rv.get hx
  obtain ⟨f0, f1, f2, f3, f4, f5⟩ := hf it (by simp)
  refine wpAny_pyNext_list_item st p.isList (x := u) (by simpa using hu) fun h' st' sb => ?_
  have I1 : Inv X pins σ H { s with heap := h' } := I.turned (t' := s.toks) (fun b o hb e => (sb.2 b hb).trans e) f0 f1 f3 f4 f5
  obtain ⟨o, e, c, d⟩ := id st'
  exact ⟨u, rfl, WZ (s := { s with heap := h' }) e c d (by decide) ⟨x, H, I1, ru, ⟨rfl, fun ys hy => by rw [I.xq hy hq]; exact hx⟩, st', fun b hb => (hf b hb).1⟩⟩
 done := by
  intro X hP hw hK hc i pins s σ H E I hf st hg
  subst hP hw hK
  obtain ⟨xs, hq, hx⟩ := hg
  obtain ⟨its, rv, p, hz⟩ := I.list hq
  obtain ⟨f0, f1, f2, f3, f4, f5⟩ := hf it (by simp)
  have hl := rv.length
  exact wpAny_pyNext_list_end (I.ok.hd hc) st p.isList (by simp; lia) fun h' eb => ⟨rfl, I.turned (t' := s.toks) (fun b o hb e => eb b o hb e) f0 f1 f3 f4 f5⟩
 self := fun _ _ _ _ _ st h => wpAny_pyIter_listiter st h
theorem Qt {P : Program} {w : World} {K : PySem.W.Frag} {tg : Expr} (it : Addr) (lo : Int) (n : Nat) : Turn P w K tg (Itr lo n) [it] it (fun i h => IsRangeIter h it (lo + (i : Nat) * 1) ((n : Int) - (i : Nat)) 1) where
 mem := by simp
 obj := fun i h st b hb => by
  have e : b = it := by simpa using hb
  subst e
  exact ⟨_, st, fun v z => by
   have z' : Data.fields _ = Data.cell v := z
   cases z'⟩
 keep := fun i h h' st k => k it (by simp) _ st
 item := by
  intro X hP hw hK hc i pins s σ H E I hf st hg
  subst hP hw hK
  obtain ⟨f0, f1, f2, f3, f4, f5⟩ := hf it (by simp)
  have W := Walks.range (prog := X.prog) (w := X.w) (I.ok.hd hc) it lo 1 n
  refine W.item i s _ _ hg st fun v h' tk hv st' kk => ?_
  obtain ⟨t, rfl⟩ := hv
  have I1 : Inv X pins σ H { s with heap := h', toks := tk } := I.turned (fun b o hb e => kk b o (by simpa using hb) e) f0 f1 f3 f4 f5
  refine ⟨_, rfl, WZ (s := { s with heap := h', toks := tk }) (n := "range_iterator") st' rfl rfl (by decide) ⟨.int (lo + i), H, I1, ⟨t, ?_⟩, ⟨rfl, rfl⟩, st', fun b hb => (hf b hb).1⟩⟩
  rw [Int.mul_one]
 done := by
  intro X hP hw hK hc i pins s σ H E I hf st hg
  subst hP hw hK
  obtain ⟨f0, f1, f2, f3, f4, f5⟩ := hf it (by simp)
  exact wpAny_pyNext_range_end (I.ok.hd hc) st (by have : n <= i := hg; lia) fun h' eb => ⟨rfl, I.turned (t' := s.toks) (fun b o hb e => eb b o hb e) f0 f1 f3 f4 f5⟩
 self := fun _ _ _ _ _ st h => wpAny_pyIter_rangeiter st h
section
variable {X : Cx} {tg : Expr}
noncomputable def Uu (K : PySem.W.Frag) (tl : TE) : TI := fun σ H R => tl σ H fun x H1 => ∃ a, x = .ref a /\ (∃ xs, SqL K H1 a xs) /\ R (Itl K a) H1
theorem Yj {l : Expr} {tl : TE} (hl : PE X l tl) : PI X tg l (Uu X.K tl) := by
 intro pins s σ H R I h
 refine thn (hl pins s σ H _ I h) fun v s1 ⟨x, H1, I1, r1, q1⟩ => ?_
 obtain ⟨a, e, ⟨xs, hq⟩, q⟩ := q1
 subst e
 cases r1
 obtain ⟨its, rv, p, hz⟩ := I1.list hq
 refine wpAny_pyIter_list p.isList ?_
 refine ⟨s1.heap.objs.size, [s1.heap.objs.size], _, _, H1, rfl, I1.kept (t' := s1.toks) fun b o e => Heap.get?_push_of_some _ e, VC a _, ⟨_, Heap.get?_push_size _ rfl, rfl, rfl⟩, fun b hb => ?_, q⟩
 have e : b = s1.heap.objs.size := by simpa using hb
 subst e
 exact I1.QC (Nat.le_refl _) (I1.hok.fresh (Nat.le_refl _))
theorem Wk {pins : List (Addr × Obj)} {σ : St} {H : Hp} {s : Shared} {R : It -> Hp -> Prop} {E : Value -> Shared -> Prop} {lo hi : Int} {t u v : Tok} {tk : Nat} (I : Inv X pins σ H s) (h1 : -(2 ^ 62) <= lo) (h2 : lo < 2 ^ 62) (h3 : -(2 ^ 62) <= hi) (h4 : hi < 2 ^ 62)
  (q : R (Itr lo (hi - lo).toNat) H) : wpAny (model X.prog X.w) X.A (pyIter (.ref s.heap.objs.size)) (PIE X pins σ tg R) E { s with heap := s.heap.push { cls := .type "range", data := .fields #[.int lo t, .int hi u, .int 1 v] }, toks := tk } := by
 refine wpAny_pyIter_range (IsRange.new ..) (small_one h1 h2 h3 h4) ?_
 have I1 : Inv X pins σ H { s with heap := s.heap.push { cls := .type "range", data := .fields #[.int lo t, .int hi u, .int 1 v] }, toks := tk } := I.kept fun b o e => Heap.get?_push_of_some _ e
 refine ⟨(s.heap.push { cls := .type "range", data := .fields #[.int lo t, .int hi u, .int 1 v] }).objs.size, [(s.heap.push { cls := .type "range", data := .fields #[.int lo t, .int hi u, .int 1 v] }).objs.size], _, _, H, rfl,
  I1.kept (t' := tk) fun b o e => Heap.get?_push_of_some _ e, Qt _ lo (hi - lo).toNat, ?_, fun b hb => ?_, q⟩
 ·have e1 : lo + ((0 : Nat) : Int) * 1 = lo := by simp
  have e2 : (((hi - lo).toNat : Nat) : Int) - ((0 : Nat) : Int) = Builtin.Range.rangeSize lo hi 1 := by rw [rangeSize_one]; split <;> lia
  show IsRangeIter _ _ (lo + ((0 : Nat) : Int) * 1) ((((hi - lo).toNat : Nat) : Int) - ((0 : Nat) : Int)) 1
  rw [e1, e2]
  exact Heap.get?_push_size _ rfl
 ·have e : b = (s.heap.push { cls := .type "range", data := .fields #[.int lo t, .int hi u, .int 1 v] }).objs.size := by simpa using hb
  subst e
  exact I1.QC (Nat.le_refl _) (I1.hok.fresh (Nat.le_refl _))
noncomputable def Ue (ta : TA) : TI := fun σ H R => ta σ H fun vs H1 => ∃ j : Int, vs = [.int j] /\ -(2 ^ 62) <= j /\ j < 2 ^ 62 /\ R (Itr 0 j.toNat) H1
theorem Vv {a : Expr} {ta : TA} {p pos : Pos} (hg : Gl X "range") (hm : X.mg "range" = none) (ha : PA X [a] ta) (hs : autoParam (starEach [a] X.env = [(false, eval a X.env)]) qj._auto_1) : PI X tg (.Call (.Name "range" p) [a] [] pos) (Ue ta) := by
 intro pins s σ H R I h
 refine Call_ (z6 I hg hm boot_range (PyProof.Rows.callWith_type1 (thn (ha pos pins s σ H _ I h) fun us s1 ⟨vs, H1, I1, r1, q1⟩ => ?_) hs rfl))
 obtain ⟨j, e, q1, q2, q⟩ := q1
 subst e
 cases r1 with
 | cons r rr =>
  cases rr
  obtain ⟨t, rfl⟩ := r
  exact call_range_1 (Wk I1 (by lia) (by lia) q1 q2 (by simpa using q))
noncomputable def UR (wi : TI) (g : TG) (tb : TS) : TS := fun D σ H => wi σ H fun J H1 => ∃ W : Nat -> Nat -> St -> Hp -> Prop, (∃ m, W 0 m σ H1) /\ ∀ i m σ H, W i m σ H ->
 (J.stop i H /\ D.nx σ H) \/ (J.go i H /\ ∃ N : St -> Hp -> Prop, (∀ σ' H', N σ' H' -> ∃ m', m' < m /\ W (i + 1) m' σ' H') /\ ∀ x H', J.yld i H x H' -> g x σ H' fun σ2 H2 => tb { D with nx := N, ct := N, bk := D.nx } σ2 H2)
noncomputable def xK (fp : List Addr) (h : Heap) : List (Addr × Obj) := fp.filterMap fun b => (h.get? b).map fun o => (b, o)
theorem zC {fp : List Addr} {h : Heap} {b : Addr} {o : Obj} (hb : b ∈ fp) (e : h.get? b = some o) : (b, o) ∈ xK fp h := List.mem_filterMap.mpr ⟨b, hb, by rw [e]; rfl⟩
theorem Vf {fp : List Addr} {h : Heap} {p : Addr × Obj} (hp : p ∈ xK fp h) : p.1 ∈ fp /\ h.get? p.1 = some p.2 := by
 obtain ⟨b, hb, e⟩ := List.mem_filterMap.mp hp
 cases q : h.get? b with
 | none => rw [q] at e; cases e
 | some o =>
  rw [q] at e
  have e' : (b, o) = p := Option.some.inj e
  subst e'
  exact ⟨hb, q⟩
theorem Inv.pinned {pins : List (Addr × Obj)} {σ : St} {H : Hp} {s : Shared} {fp : List Addr} (I : Inv X pins σ H s) (hf : ∀ b ∈ fp, wJ X pins H b) (ho : ∀ b ∈ fp, ∃ o, s.heap.get? b = some o /\ ∀ v, o.data ≠ .cell v) : Inv X (pins ++ xK fp s.heap) σ H s :=
 I.yC fun p hp => (List.mem_append.mp hp).elim (fun z => I.pin p (List.mem_append_right _ z)) fun z => by
  obtain ⟨hb, e⟩ := Vf z
  obtain ⟨f0, f1, f2, _⟩ := hf p.1 hb
  obtain ⟨o, e', d⟩ := ho p.1 hb
  rw [e] at e'; cases e'
  exact ⟨e, f0, f1, f2, d⟩
theorem Inv.wm {pins pl : List (Addr × Obj)} {σ : St} {H : Hp} {s : Shared} (I : Inv X (pins ++ pl) σ H s) : Inv X pins σ H s := I.yC fun p hp => I.pin p (List.mem_append_right _ (List.mem_append_left _ hp))
theorem WD {iter : Expr} {body : List Stmt} {wi : TI} {g : TG} {tb : TS} {pos : Pos} (hp : PassesOwn (model X.prog X.w) X.A X.env X.xe) (hc : X.calm = true) (hi : PI X tg iter wi) (hg : PG X tg g) (hb : PSs X body tb)
  (hs : autoParam (∀ x, foldedSetIterable iter X.env x = pure x) zB._auto_1) : PS X (.For tg iter body [] pos) (UR wi g tb) := by
 intro pins s σ H D I h
 refine wpAny_For (thn (hi pins s σ H _ I h) fun v s1 h1 => thn h1 fun itv s2 h2 => ?_) hs
 obtain ⟨it, fp, tn, J, H2, e, I2, T, st2, f2, W, ⟨m0, w0⟩, turn⟩ := h2
 subst e
 -- what stays true of the iterator's objects through the loop
 have stat : ∀ {H' : Hp}, (∀ b ∈ fp, H' b = none) -> ∀ b ∈ fp, wJ X pins H' b := fun hn b hb => ⟨hn b hb, (f2 b hb).2⟩
 refine codeAny_forLoop_any (fun n s' => ∃ i σ' H', Inv X pins σ' H' s' /\ tn i s'.heap /\ (∀ b ∈ fp, H' b = none) /\ W i n σ' H') ?_ m0 ⟨0, σ, H2, I2, st2, fun b hb => (f2 b hb).1, w0⟩
 rintro n s3 ⟨i, σ3, H3, I3, st3, fr3, w3⟩
 rcases turn i n σ3 H3 w3 with ⟨stop, qn⟩ | ⟨go, N, hN, step⟩
 ·refine wpAny_passesOwn hp (thn (T.done X rfl rfl rfl hc i pins s3 σ3 H3 X.xe I3 (stat fr3) st3 stop) fun r s4 ⟨hr, I4⟩ => ?_)
  subst hr
  exact wpAny_execs_nil ⟨σ3, H3, I4, qn⟩
 ·refine wpAny_passesOwn hp (thn (T.item X rfl rfl rfl hc i pins s3 σ3 H3 X.xe I3 (stat fr3) st3 go) fun r s4 ⟨u, hr, h4⟩ => ?_)
  subst hr
  refine wpAny_passesOwn hp (thn h4 fun _ s5 ⟨x, H5, I5, r5, y5, st5, fr5⟩ => ?_)
  have I5' := I5.pinned (stat fr5) (T.obj _ _ st5)
  refine wpAny_passesOwn hp (thn (hg _ s5 σ3 H5 x u _ I5' r5 (step x H5 y5)) fun _ s6 ⟨σ6, H6, I6, q6⟩ => ?_)
  refine wpAny_passesOwn hp (thn (hb _ s6 σ6 H6 _ I6 q6) fun f s7 q7 => ?_)
  have again : ∀ {σ7 : St} {H7 : Hp}, Inv X (pins ++ xK fp s5.heap) σ7 H7 s7 -> N σ7 H7 -> ∃ m, m < n /\ ∃ i σ' H', Inv X pins σ' H' s7 /\ tn i s7.heap /\ (∀ b ∈ fp, H' b = none) /\ W i m σ' H' := fun {σ7 H7} I7 n7 => by
   obtain ⟨m', hm, w7⟩ := hN σ7 H7 n7
   refine ⟨m', hm, i + 1, σ7, H7, I7.wm, T.keep _ _ _ st5 fun b hb o e => (I7.pin (b, o) (List.mem_append_right _ (List.mem_append_right _ (zC hb e)))).1, fun b hb => ?_, w7⟩
   obtain ⟨o, e, d⟩ := T.obj _ _ st5 b hb
   exact (I7.pin (b, o) (List.mem_append_right _ (List.mem_append_right _ (zC hb e)))).2.1
  cases f with
  | next => obtain ⟨σ7, H7, I7, n7⟩ := q7; exact again I7 n7
  | cont => obtain ⟨σ7, H7, I7, n7⟩ := q7; exact again I7 n7
  | brk => obtain ⟨σ7, H7, I7, q7⟩ := q7; exact ⟨σ7, H7, I7.wm, q7⟩
  | ret v => obtain ⟨x7, σ7, H7, I7, r7, q7⟩ := q7; exact ⟨x7, σ7, H7, I7.wm, r7, q7⟩
end
noncomputable abbrev R2 := V -> V -> Hp -> VK -> Prop
noncomputable def OpR (X : Cx) (f : Value -> Value -> Sem Value) (r : R2) : Prop :=
 ∀ (pins : List (Addr × Obj)) (s : Shared) (σ : St) (H : Hp) (x y : V) (v u : Value) (Q : VK), Inv X pins σ H s -> RelV x v -> RelV y u -> r x y H Q ->
  wpAny (model X.prog X.w) X.A (f v u) (EP X pins σ Q) X.xe s
noncomputable def UnR (X : Cx) (f : Value -> Sem Value) (r : V -> Hp -> VK -> Prop) : Prop :=
 ∀ (pins : List (Addr × Obj)) (s : Shared) (σ : St) (H : Hp) (x : V) (v : Value) (Q : VK), Inv X pins σ H s -> RelV x v -> r x H Q ->
  wpAny (model X.prog X.w) X.A (f v) (EP X pins σ Q) X.xe s
noncomputable def Yu (X : Cx) (f : Value) (r : List V -> Hp -> VK -> Prop) : Prop :=
 ∀ (pins : List (Addr × Obj)) (s : Shared) (σ : St) (H : Hp) (xs : List V) (us : List Value) (Q : VK), Inv X pins σ H s -> Vals xs us -> r xs H Q ->
  wpAny (model X.prog X.w) X.A (call f us) (EP X pins σ Q) X.xe s
noncomputable def tOp (r : R2) (ta tb : TE) : TE := fun σ H Q => ta σ H fun x H1 => tb σ H1 fun y H2 => r x y H2 Q
noncomputable def tUn (r : V -> Hp -> VK -> Prop) (ta : TE) : TE := fun σ H Q => ta σ H fun x H1 => r x H1 Q
noncomputable def rI (C : Int -> Int -> Prop) (g : Int -> Int -> V) : R2 := fun x y H Q => ∃ i j, x = .int i /\ y = .int j /\ C i j /\ Q (g i j) H
noncomputable def rI0 (g : Int -> Int -> V) : R2 := fun x y H Q => ∃ i j, x = .int i /\ y = .int j /\ Q (g i j) H
noncomputable def rU (g : Int -> V) : V -> Hp -> VK -> Prop := fun x H Q => ∃ i, x = .int i /\ Q (g i) H
section
variable {X : Cx} {a b c : Expr} {ta tb tc : TE} {pos : Pos}
theorem Xg (ha : PE X a ta) (hb : PE X b tb) {pins : List (Addr × Obj)} {s : Shared} {σ : St} {H : Hp} {R : V -> V -> Hp -> Prop} (I : Inv X pins σ H s)
  (h : ta σ H fun x H1 => tb σ H1 fun y H2 => R x y H2) {Q : Value -> Shared -> Prop} {f : Value -> Value -> Sem Value}
  (hf : ∀ v u s2 x y H2, Inv X pins σ H2 s2 -> RelV x v -> RelV y u -> R x y H2 -> wpAny (model X.prog X.w) X.A (f v u) Q X.xe s2) :
  wpAny (model X.prog X.w) X.A (eval a X.env) (fun v s₁ => wpAny (model X.prog X.w) X.A (eval b X.env) (fun u s₂ => wpAny (model X.prog X.w) X.A (f v u) Q X.xe s₂) X.xe s₁) X.xe s := by
 refine thn (ha pins s σ H _ I h) fun v s1 ⟨x, H1, I1, r1, q1⟩ => ?_
 refine thn (hb pins s1 σ H1 _ I1 q1) fun u s2 ⟨y, H2, I2, r2, q2⟩ => ?_
 exact hf v u s2 x y H2 I2 r1 r2 q2
theorem Ym {op : Operator} {r : R2} (ho : OpR X (binaryOp op) r) (ha : PE X a ta) (hb : PE X b tb) : PE X (.BinOp a op b pos) (tOp r ta tb) := by
 intro pins s σ H Q I h
 exact wpAny_BinOp (Xg ha hb I h fun v u s2 x y H2 I2 rx ry q => ho pins s2 σ H2 x y v u Q I2 rx ry q)
theorem Yp {op : UnaryOp} {r : V -> Hp -> VK -> Prop} (ho : UnR X (unaryOp op) r) (ha : PE X a ta) : PE X (.UnaryOp op a pos) (tUn r ta) := by
 intro pins s σ H Q I h
 exact UnaryOp_ (thn (ha pins s σ H _ I h) fun v s1 ⟨x, H1, I1, r1, q1⟩ => ho pins s1 σ H1 x v Q I1 r1 q1)
theorem opI {f : Value -> Value -> Sem Value} {C : Int -> Int -> Prop} {g : Int -> Int -> Int}
  (rule : ∀ (i j : Int) (t u : Tok) (s : Shared) (Q : Value -> Shared -> Prop) (E : Value -> Shared -> Prop), C i j -> Q (.int (g i j) s.toks) { s with toks := s.toks + 1 } -> wpAny (model X.prog X.w) X.A (f (.int i t) (.int j u)) Q E s) :
  OpR X f (rI C fun i j => .int (g i j)) := by
 intro pins s σ H x y v u Q I rx ry h
 obtain ⟨i, j, rfl, rfl, hc, q⟩ := h
 obtain ⟨t, rfl⟩ := rx
 obtain ⟨t', rfl⟩ := ry
 exact rule i j t t' s _ _ hc ⟨.int (g i j), H, I.tok _, ⟨_, rfl⟩, q⟩
theorem Y5 {f : Value -> Value -> Sem Value} {g : Int -> Int -> Int}
  (rule : ∀ (i j : Int) (t u : Tok) (s : Shared) (Q : Value -> Shared -> Prop) (E : Value -> Shared -> Prop), Q (.int (g i j) s.toks) { s with toks := s.toks + 1 } -> wpAny (model X.prog X.w) X.A (f (.int i t) (.int j u)) Q E s) :
  OpR X f (rI0 fun i j => .int (g i j)) := by
 intro pins s σ H x y v u Q I rx ry h
 obtain ⟨i, j, rfl, rfl, q⟩ := h
 obtain ⟨t, rfl⟩ := rx
 obtain ⟨t', rfl⟩ := ry
 exact rule i j t t' s _ _ ⟨.int (g i j), H, I.tok _, ⟨_, rfl⟩, q⟩
theorem Uv {f : Value -> Value -> Sem Value} {g : Int -> Int -> Bool}
  (rule : ∀ (i j : Int) (t u : Tok) (s : Shared) (Q : Value -> Shared -> Prop) (E : Value -> Shared -> Prop), Q (.bool (g i j)) s -> wpAny (model X.prog X.w) X.A (f (.int i t) (.int j u)) Q E s) :
  OpR X f (rI0 fun i j => .bl (g i j)) := by
 intro pins s σ H x y v u Q I rx ry h
 obtain ⟨i, j, rfl, rfl, q⟩ := h
 obtain ⟨t, rfl⟩ := rx
 obtain ⟨t', rfl⟩ := ry
 exact rule i j t t' s _ _ ⟨.bl (g i j), H, I, rfl, q⟩
theorem QD (k : Nat) : (0 : Int) <= 2 ^ k := by
 rw [two_pow_cast]
 exact Int.natCast_nonneg _
theorem Yx : OpR X (binaryOp .Add) (rI0 fun i j => .int (i + j)) := Y5 fun _ _ _ _ _ _ _ q => add_int q
theorem Xn : OpR X (binaryOp .Sub) (rI0 fun i j => .int (i - j)) := Y5 fun _ _ _ _ _ _ _ q => sub_int q
theorem XO : OpR X (binaryOp .RShift) (rI (fun _ j => 0 <= j) fun i j => .int (i / 2 ^ j.toNat)) := opI fun i j _ _ _ _ _ hc q =>
 rshift_int hc (by rw [Int.fdiv_eq_ediv_of_nonneg i (QD _)]; exact q)
theorem Xa : OpR X (binaryOp .BitAnd) (rI0 fun i j => .int (Builtin.bitAnd i j)) := Y5 fun _ _ _ _ _ _ _ q => and_int q
theorem unI {f : Value -> Sem Value} {g : Int -> Int}
  (rule : ∀ (i : Int) (t : Tok) (s : Shared) (Q : Value -> Shared -> Prop) (E : Value -> Shared -> Prop), Q (.int (g i) s.toks) { s with toks := s.toks + 1 } -> wpAny (model X.prog X.w) X.A (f (.int i t)) Q E s) :
  UnR X f (rU fun i => .int (g i)) := by
 intro pins s σ H x v Q I rx h
 obtain ⟨i, rfl, q⟩ := h
 obtain ⟨t, rfl⟩ := rx
 exact rule i t s _ _ ⟨.int (g i), H, I.tok _, ⟨_, rfl⟩, q⟩
theorem WY : UnR X (unaryOp .USub) (rU fun i => .int (-i)) := unI fun _ _ _ _ _ q => neg_int q
end
noncomputable def Wf : V -> V -> Bool
 | .non, .non => true | .non, .int _ => true | .int _, .non => true | .non, .bl _ => true | .bl _, .non => true | .non, .str _ => true | .str _, .non => true
 | .int _, .int _ => true | .bl _, .bl _ => true | .str _, .str _ => true | .byt _, .byt _ => true
 | .int _, .str _ => true | .str _, .int _ => true | .bl _, .str _ => true | .str _, .bl _ => true
 | _, _ => false
noncomputable def rEq : R2 := fun x y H Q => Wf x y = true /\ Q (.bl (decide (x = y))) H
noncomputable def rNe : R2 := fun x y H Q => Wf x y = true /\ Q (.bl (!decide (x = y))) H
theorem yK {i j : Int} : decide (V.int i = V.int j) = (i == j) := by
 rw [Bool.eq_iff_iff]
 simp
theorem uR {i j : Bool} : decide (V.bl i = V.bl j) = (i == j) := by
 rw [Bool.eq_iff_iff]
 simp
theorem QW {i j : Str} : decide (V.str i = V.str j) = (i == j) := by
 rw [Bool.eq_iff_iff]
 simp
theorem QM {i j : Array UInt8} : decide (V.byt i = V.byt j) = (i.toList == j.toList) := by
 rw [Bool.eq_iff_iff]
 cases i
 cases j
 simp
section
variable {X : Cx} {a b c : Expr} {ta tb tc : TE} {pos : Pos}
theorem qz {pins : List (Addr × Obj)} {σ : St} {H : Hp} {s : Shared} {Q : VK} {k k' : Bool} (I : Inv X pins σ H s) (q : Q (.bl k) H) (e : k = k') : EP X pins σ Q (.bool k') s := by
 subst e
 exact ⟨.bl k, H, I, rfl, q⟩
theorem X4 : OpR X (compareOp .Eq) rEq := by
 intro pins s σ H x y v u Q I rx ry h
 obtain ⟨hs, q⟩ := h
 cases x with
 | non =>
  cases rx
  cases y with
  | non => cases ry; exact PySem.EqNone.eq_none_none (qz I q (by simp))
  | bl j => cases ry; exact PySem.EqNone.eq_none_bool (qz I q (by simp))
  | int j => obtain ⟨t', rfl⟩ := ry; exact PySem.EqNone.eq_none_int (qz I q (by simp))
  | str j => obtain ⟨t', rfl⟩ := ry; exact PySem.EqNone.eq_none_str (qz I q (by simp))
  | _ => exact absurd (show false = true from hs) Bool.false_ne_true
 | bl i =>
  cases rx
  cases y with
  | non => cases ry; exact PySem.EqNone.eq_bool_none (qz I q (by simp))
  | bl j => cases ry; exact eq_bool (qz I q uR)
  | str j => obtain ⟨t', rfl⟩ := ry; exact PySem.EqMixed.eq_bool_str (qz I q (by simp))
  | _ => exact absurd (show false = true from hs) Bool.false_ne_true
 | int i =>
  obtain ⟨t, rfl⟩ := rx
  cases y with
  | non => cases ry; exact PySem.EqNone.eq_int_none (qz I q (by simp))
  | int j => obtain ⟨t', rfl⟩ := ry; exact eq_int (qz I q yK)
  | str j => obtain ⟨t', rfl⟩ := ry; exact PySem.EqMixed.eq_int_str (qz I q (by simp))
  | _ => exact absurd (show false = true from hs) Bool.false_ne_true
 | str i =>
  obtain ⟨t, rfl⟩ := rx
  cases y with
  | non => cases ry; exact PySem.EqNone.eq_str_none (qz I q (by simp))
  | bl j => cases ry; exact PySem.EqMixed.eq_str_bool (qz I q (by simp))
  | int j => obtain ⟨t', rfl⟩ := ry; exact PySem.EqMixed.eq_str_int (qz I q (by simp))
  | str j => obtain ⟨t', rfl⟩ := ry; exact eq_str (qz I q QW)
  | _ => exact absurd (show false = true from hs) Bool.false_ne_true
 | byt i =>
  obtain ⟨t, rfl⟩ := rx
  cases y with
  | byt j => obtain ⟨t', rfl⟩ := ry; exact PySem.W.eq_bytes (qz I q QM)
  | _ => exact absurd (show false = true from hs) Bool.false_ne_true
 | _ => cases y <;> exact absurd (show false = true from hs) Bool.false_ne_true
theorem UG : OpR X (compareOp .NotEq) rNe := by
 intro pins s σ H x y v u Q I rx ry h
 obtain ⟨hs, q⟩ := h
 cases x with
 | non =>
  cases rx
  cases y with
  | non => cases ry; exact PySem.EqNone.ne_none_none (qz I q (by simp))
  | bl j => cases ry; exact PySem.EqNone.ne_none_bool (qz I q (by simp))
  | int j => obtain ⟨t', rfl⟩ := ry; exact PySem.EqNone.ne_none_int (qz I q (by simp))
  | str j => obtain ⟨t', rfl⟩ := ry; exact PySem.EqNone.ne_none_str (qz I q (by simp))
  | _ => exact absurd (show false = true from hs) Bool.false_ne_true
 | bl i =>
  cases rx
  cases y with
  | non => cases ry; exact PySem.EqNone.ne_bool_none (qz I q (by simp))
  | bl j => cases ry; exact ne_bool (qz I q (congrArg not uR))
  | str j => obtain ⟨t', rfl⟩ := ry; exact PySem.EqMixed.ne_bool_str (qz I q (by simp))
  | _ => exact absurd (show false = true from hs) Bool.false_ne_true
 | int i =>
  obtain ⟨t, rfl⟩ := rx
  cases y with
  | non => cases ry; exact PySem.EqNone.ne_int_none (qz I q (by simp))
  | int j => obtain ⟨t', rfl⟩ := ry; exact ne_int (qz I q (congrArg not yK))
  | str j => obtain ⟨t', rfl⟩ := ry; exact PySem.EqMixed.ne_int_str (qz I q (by simp))
  | _ => exact absurd (show false = true from hs) Bool.false_ne_true
 | str i =>
  obtain ⟨t, rfl⟩ := rx
  cases y with
  | non => cases ry; exact PySem.EqNone.ne_str_none (qz I q (by simp))
  | bl j => cases ry; exact PySem.EqMixed.ne_str_bool (qz I q (by simp))
  | int j => obtain ⟨t', rfl⟩ := ry; exact PySem.EqMixed.ne_str_int (qz I q (by simp))
  | str j => obtain ⟨t', rfl⟩ := ry; exact ne_str (qz I q (congrArg not QW))
  | _ => exact absurd (show false = true from hs) Bool.false_ne_true
 | byt i =>
  obtain ⟨t, rfl⟩ := rx
  cases y with
  | byt j => obtain ⟨t', rfl⟩ := ry; exact PySem.W.ne_bytes (qz I q (congrArg not QM))
  | _ => exact absurd (show false = true from hs) Bool.false_ne_true
 | _ => cases y <;> exact absurd (show false = true from hs) Bool.false_ne_true
theorem Yl : OpR X (compareOp .Lt) (rI0 fun i j => .bl (decide (i < j))) := Uv fun _ _ _ _ _ _ _ q => lt_int q
theorem UE : OpR X (compareOp .Gt) (rI0 fun i j => .bl (decide (j < i))) := Uv fun _ _ _ _ _ _ _ q => gt_int q
theorem OpR.or {f : Value -> Value -> Sem Value} {r r' : R2} (h : OpR X f r) (h' : OpR X f r') : OpR X f (fun x y H Q => r x y H Q \/ r' x y H Q) := by
 intro pins s σ H x y v u Q I rx ry q
 rcases q with q | q
 ·exact h pins s σ H x y v u Q I rx ry q
 ·exact h' pins s σ H x y v u Q I rx ry q
theorem yV (b : Expr) {op : CmpOp} (h : autoParam (op ≠ .In) qH._auto_1) (h2 : autoParam (op ≠ .NotIn) qH._auto_1) : behindInMarks op b = false := by
 have e1 : (op == CmpOp.In) = false := by cases op <;> first | rfl | exact absurd rfl h
 have e2 : (op == CmpOp.NotIn) = false := by cases op <;> first | rfl | exact absurd rfl h2
 cases b <;> simp [behindInMarks, e1, e2]
theorem Z4 {op : CmpOp} {r : R2} (ho : OpR X (compareOp op) r) (ha : PE X a ta) (hb : PE X b tb) (hm : behindInMarks op b = false) : PE X (.Compare a [op] [b] pos) (tOp r ta tb) := by
 intro pins s σ H Q I h
 exact wpAny_Compare1 (Xg ha hb I h fun v u s2 x y H2 I2 rx ry q => ho pins s2 σ H2 x y v u Q I2 rx ry q) hm
noncomputable def X2 (t : TE) : TT := fun σ H Q => t σ H fun x H' => ∃ k, x = .bl k /\ Q k H'
theorem ZL {op : CmpOp} {r : R2} (ho : OpR X (compareOp op) r) (ha : PE X a ta) (hb : PE X b tb) (hm : behindInMarks op b = false) : PT X (.Compare a [op] [b] pos) (X2 (tOp r ta tb)) := by
 intro pins s σ H Q I h
 refine wpAny_isTrue_Compare1 (thn (ha pins s σ H _ I h) fun v s1 ⟨x, H1, I1, r1, q1⟩ => thn (hb pins s1 σ H1 _ I1 q1) fun u s2 ⟨y, H2, I2, r2, q2⟩ =>
  thn (ho pins s2 σ H2 x y v u _ I2 r1 r2 q2) fun c s3 ⟨z, H3, I3, r3, k, e, q3⟩ => ?_) hm
 subst e
 cases r3
 exact wpAny_truthy_bool ⟨H3, I3, q3⟩
theorem Qx : (sizeLine : Nat) < 2 ^ 63 := by rw [sizeLine_eq]; decide
theorem vals1 {x : V} {us : List Value} (r : Vals [x] us) : ∃ u, us = [u] /\ RelV x u := by
 cases r with
 | cons r1 r2 => cases r2; exact ⟨_, rfl, r1⟩
end
structure qZ (k : Nat) (A : Around) : Prop where
 hd : A.handled = none
 dp : A.depth + 3 * k + 5 < recursionLimit
 un : A.units + 16 * k + 200 < cLine
theorem qZ.mono {j k : Nat} {A : Around} (r : qZ k A) (h : j <= k) : qZ j A := ⟨r.hd, by have := r.dp; lia, by have := r.un; lia⟩
theorem qZ.deeper {k : Nat} {A : Around} (r : qZ (k + 1) A) (env : Env) : qZ k (A.deeper env) :=
 ⟨r.hd, by have := r.dp; show A.depth + 1 + 3 * k + 5 < _; lia, by have := r.un; show A.units + 3 + 16 * k + 200 < _; lia⟩
theorem qZ.in1 {k : Nat} {A : Around} (r : qZ (k + 1) A) : qZ k A.in1 :=
 ⟨r.hd, by have := r.dp; show A.depth + 3 * k + 5 < _; lia, by have := r.un; show A.units + 1 + 16 * k + 200 < _; lia⟩
theorem qZ.depth {k : Nat} {A : Around} (r : qZ k A) : A.depth < recursionLimit := by have := r.dp; lia
theorem qZ.units {k : Nat} {A : Around} (r : qZ k A) : A.units + 64 < cLine := by have := r.un; lia
noncomputable def YY : TA := fun _ H Q => Q [] H
noncomputable def W5 (ta : TE) (tr : TA) : TA := fun σ H Q => ta σ H fun x H1 => tr σ H1 fun xs H2 => Q (x :: xs) H2
section
variable {X : Cx} {e : Expr} {es : List Expr} {te : TE} {t : TA} {pos : Pos}
theorem wH : PA X [] YY := fun _ _ _ _ H Q I h => Calls.spliced_nil ⟨[], H, I, .nil, h⟩
theorem vA (ha : PE X e te) (hr : PA X es t) (hs : autoParam (starEach (e :: es) X.env = (false, eval e X.env) :: starEach es X.env) qj._auto_1) : PA X (e :: es) (W5 te t) := by
 intro pos pins s σ H Q I h
 rw [hs]
 show wpAny _ _ (spliced ((false, eval e X.env) :: backTo pos (starEach es X.env))) _ _ s
 refine Calls.spliced_cons (thn (ha pins s σ H _ I h) fun u s1 ⟨x, H1, I1, r1, q1⟩ => ?_)
 exact thn (hr pos pins s1 σ H1 _ I1 q1) fun us s2 ⟨xs, H2, I2, r2, q2⟩ => ⟨x :: xs, H2, I2, .cons r1 r2, q2⟩
noncomputable def Ux (t : TA) : TE := fun σ H Q => t σ H fun xs H1 => xs.length <= sizeLine /\ ∀ p, H1 p = none -> Q (.ref p) (upd H1 p (.lst xs))
theorem u6 (h : PA X es t) : PE X (.List es pos) (Ux t) := by
 intro pins s σ H Q I hq
 refine wpAny_List_spliced (thn (h pos pins s σ H _ I hq) fun us s1 ⟨xs, H1, I1, r, z, q⟩ => ⟨by rw [<- r.length]; exact z, ?_⟩)
 have hf : H1 s1.heap.objs.size = none := I1.hok.fresh (Nat.le_refl _)
 refine ⟨.ref s1.heap.objs.size, upd H1 s1.heap.objs.size (.lst xs), I1.laid (t' := s1.toks) (fun b u e => Heap.get?_push_of_some _ e) (Nat.le_refl _) ?_, rfl, q _ hf⟩
 exact ⟨z, us, 0, r, Heap.get?_push_size _ rfl⟩
end
noncomputable abbrev Sp := List V -> Hp -> VK -> XK -> Prop
noncomputable abbrev CXT := List Env -> Hp -> Shared -> XK -> Value -> Shared -> Prop
structure uQ (P : Program) (w : World) (K : PySem.W.Frag) (mg : Str -> Option Value) (base : Heap) (A : Around) (outer : List Env) (s : Shared) (H : Hp) : Prop where
 frames : A.frames = some outer
 mod : Mod K mg base
 bs : ∀ b o, base.get? b = some o -> s.heap.get? b = some o /\ H b = none
 bsz : base.objs.size <= s.heap.objs.size
 zo : s.heap.FunFrames base outer
 frf : ∀ b ∈ frs outer, H b = none
 hok : HOk P w H s.heap
 bare : AllBare s.gens
noncomputable def CE (outer : List Env) (P : Program) (w : World) (H : Hp) (s : Shared) (Q : VK) (u : Value) (s' : Shared) : Prop :=
 ∃ v H', s'.os = s.os /\ AllBare s'.gens /\ Un (frs outer) [] H H' s.heap s'.heap /\ HOk P w H' s'.heap /\ RelV v u /\ Q v H'
noncomputable def CR (CX : CXT) (outer : List Env) (P : Program) (w : World) (H : Hp) (s : Shared) (Q : VK) (E : XK) (r : Result) (s' : Shared) : Prop :=
 match r with
 | .ok (.ret u) => CE outer P w H s Q u s'
 | .ok _ => False
 | .error e => CX outer H s E e s'
structure wL (P : Program) (w : World) (K : PySem.W.Frag) (mg : Str -> Option Value) (base : Heap) (CX : CXT) (k : Nat) (f : Addr) (fd : FuncData) (ps : List Str) (sp : Sp) : Prop where
 len : ∀ vs H Q E, sp vs H Q E -> vs.length = ps.length
 run : ∀ (A : Around) (outer : List Env) (s : Shared) (H : Hp) (args : Args) (us : List Value) (vs : List V) (Q : VK) (E : XK), qZ k A -> uQ P w K mg base A outer s H -> BindsTo s fd args (ps.zip us) -> Vals vs us -> sp vs H Q E ->
  codeAny (model P w) A (.call (.ref f) args) (CR CX outer P w H s Q E) s
theorem wL.imp {P : Program} {w : World} {K : PySem.W.Frag} {mg : Str -> Option Value} {base : Heap} {CX : CXT} {k : Nat} {f : Addr} {fd : FuncData} {ps : List Str} {sp sp' : Sp} (F : wL P w K mg base CX k f fd ps sp)
  (h : ∀ vs H Q E, sp' vs H Q E -> sp vs H Q E) : wL P w K mg base CX k f fd ps sp' :=
 ⟨fun vs H Q E q => F.len vs H Q E (h _ _ _ _ q), fun A outer s H args us vs Q E hr he hb hv hs => F.run A outer s H args us vs Q E hr he hb hv (h _ _ _ _ hs)⟩
section
variable {X : Cx} {pins : List (Addr × Obj)} {σ : St} {H : Hp} {s s' : Shared}
theorem Inv.Xj (I : Inv X pins σ H s) : uQ X.prog X.w X.K X.mg X.base X.A X.stack s H :=
 ⟨I.ok.frames, I.ok.mod, I.bs, Nat.le_trans I.ok.bsz I.sz, I.stack, I.yF, I.hok, I.bare⟩
theorem Inv.after {Q : VK} {u : Value} (I : Inv X pins σ H s) (h : CE X.stack X.prog X.w H s Q u s') : EP X pins σ Q u s' := by
 obtain ⟨v, H', os, bare, un, hok, r, q⟩ := h
 obtain ⟨hh, g, d, t, os'⟩ := s'
 obtain rfl : os' = s.os := os
 exact ⟨v, H', I.call (h' := hh) (g' := g) (d' := d) (t' := t) (ch := []) un hok bare (fun b z => absurd z (by simp)), r, q⟩
end
noncomputable def uh (sp : Sp) (dvs : List V) (E : XK) (t : TA) : TE := fun σ H Q => t σ H fun vs H1 => sp (vs ++ dvs) H1 Q E
noncomputable def Binds (K : PySem.W.Frag) (fd : FuncData) (ps : List Str) (ds : List Value) : Prop :=
 ∀ (s : Shared) (us : List Value), K.In s.heap -> (us ++ ds).length = ps.length -> BindsTo s fd ⟨us, []⟩ (ps.zip (us ++ ds))
theorem Binds.all {K : PySem.W.Frag} {fd : FuncData} {ps : List Str} (h : ∀ us : List Value, us.length = ps.length -> bindArgs fd ⟨us, []⟩ = pure (ps.zip us)) : Binds K fd ps [] := fun s us _ hl => by
 rw [List.append_nil] at hl ⊢
 exact .of_eq (h us hl)
noncomputable def Passes (CX : CXT) (X : Cx) (E : XK) : Prop := ∀ (pins : List (Addr × Obj)) (σ : St) (H : Hp) (s : Shared) (e : Value) (s' : Shared), Inv X pins σ H s -> CX X.stack H s E e s' -> X.xe e s'
section
variable {X : Cx} {CX : CXT} {k : Nat} {f C : Addr} {fd : FuncData} {ps : List Str} {sp : Sp} {dvs : List V} {ds : List Value} {E : XK} {x m : Str} {p pos apos : Pos} {e o : Expr} {es : List Expr} {ta : TE} {t : TA}
theorem Y1 {pins : List (Addr × Obj)} {σ : St} {H : Hp} {s : Shared} {Q : VK} {us : List Value} {vs : List V} (F : wL X.prog X.w X.K X.mg X.base CX k f fd ps sp) (hr : qZ k X.A) (hb : Binds X.K fd ps ds) (hd : Vals dvs ds) (hx : Passes CX X E)
  (I : Inv X pins σ H s) (r : Vals vs us) (h : sp (vs ++ dvs) H Q E) : wpAny (model X.prog X.w) X.A (call (.ref f) us) (EP X pins σ Q) X.xe s := by
 have r2 : Vals (vs ++ dvs) (us ++ ds) := r.append hd
 have hl : (us ++ ds).length = ps.length := by rw [<- r2.length]; exact F.len _ _ _ _ h
 refine wpAny_call (codeAny_mono (F.run X.A X.stack s H ⟨us, []⟩ (us ++ ds) (vs ++ dvs) Q E hr I.Xj (hb s us I.kIn hl) r2 h) fun r s' hq => ?_)
 cases r with
 | error e => exact hx pins σ H s e s' I hq
 | ok fl =>
  cases fl with
  | ret u => exact I.after hq
  | next => exact False.elim hq
  | brk => exact False.elim hq
  | cont => exact False.elim hq
theorem uC (F : wL X.prog X.w X.K X.mg X.base CX k f fd ps sp) (hr : qZ k X.A) (hg : Gl X x) (hm : X.mg x = some (.ref f)) (hk : PySem.W.keepIn X.K (.ref f) = true) (hb : Binds X.K fd ps ds) (hd : Vals dvs ds) (hx : Passes CX X E)
  (ha : PA X (e :: es) t) (hdb : autoParam ((x == ("__debug__" : Str)) = false) qH._auto_1) (he : autoParam (starEach (e :: es) X.env = (false, eval e X.env) :: starEach es X.env) qj._auto_1) (hpl : autoParam ((backTo pos (starEach es X.env)).any (·.1) = false) qj._auto_1) :
  PE X (.Call (.Name x p) (e :: es) [] pos) (uh sp dvs E t) := by
 intro pins s σ H Q I h
 refine wpAny_Call_Name_kw (zJ I hg hm ?_ hdb)
 refine PySem.W.callWith_K (h₀ := X.base) I.ok.mod.kin hk (thn (ha pos pins s σ H _ I h) fun us s1 ⟨vs, H1, I1, r, q⟩ => ⟨I1.kIn, ?_⟩) he hpl
 exact Y1 F hr hb hd hx I1 r q
end
structure qr (N P : List Str) (sc : Scope) : Prop where
 kind : sc.kind = .function
 co : sc.isCoroutine = false
 gen : sc.isGenerator = false
 nd : N.Nodup
 pre : N.take P.length = P
 par : ∀ x ∈ P, sc.names.lookup x = some .local \/ sc.names.lookup x = some .cell
 nofree : ∀ y ∈ sc.names, y.2 ≠ .free
theorem uq {kindOf : Str -> Option NameKind} {x : Str} : ∀ {binds : List (Str × Value)} {m : Str -> Option Value}, (∀ v, (x, v) ∉ binds) -> bindL kindOf binds m x = m x
 | [], _, _ => rfl
 | (n, v) :: r, m, h => by
  unfold bindL
  rw [uq fun w hw => h w (List.mem_cons_of_mem _ hw)]
  split
  ·have : x ≠ n := by rintro rfl; exact h v List.mem_cons_self
   simp [this]
  ·rfl
theorem uf {kindOf : Str -> Option NameKind} {x : Str} : ∀ {binds : List (Str × Value)} {m : Str -> Option Value}, (∀ v, (x, v) ∉ binds) -> bindC kindOf binds m x = m x
 | [], _, _ => rfl
 | (n, v) :: r, m, h => by
  unfold bindC
  rw [uf fun w hw => h w (List.mem_cons_of_mem _ hw)]
  split
  ·rfl
  ·have : x ≠ n := by rintro rfl; exact h v List.mem_cons_self
   simp [this]
theorem ue {kindOf : Str -> Option NameKind} {x : Str} {v : Value} : ∀ {P : List Str} {vs : List Value} {i : Nat} {m : Str -> Option Value}, P.Nodup -> P[i]? = some x -> vs[i]? = some v -> kindOf x = some .local ->
  bindL kindOf (P.zip vs) m x = some v
 | [], _, _, _, _, h, _, _ => by simp at h
 | _ :: _, [], _, _, _, _, h, _ => by simp at h
 | p :: P, w :: vs, 0, m, nd, h1, h2, hk => by
  simp at h1 h2; subst h1; subst h2
  show bindL kindOf ((p, w) :: P.zip vs) m p = _
  unfold bindL
  rw [uq fun v hv => (List.nodup_cons.mp nd).1 (List.of_mem_zip hv).1, if_pos hk]
  simp
 | p :: P, w :: vs, i + 1, m, nd, h1, h2, hk => by
  show bindL kindOf ((p, w) :: P.zip vs) m x = _
  unfold bindL
  exact ue (i := i) (List.nodup_cons.mp nd).2 (by simpa using h1) (by simpa using h2) hk
theorem ud {kindOf : Str -> Option NameKind} {x : Str} {v : Value} : ∀ {P : List Str} {vs : List Value} {i : Nat} {m : Str -> Option Value}, P.Nodup -> P[i]? = some x -> vs[i]? = some v -> kindOf x ≠ some .local ->
  bindC kindOf (P.zip vs) m x = some v
 | [], _, _, _, _, h, _, _ => by simp at h
 | _ :: _, [], _, _, _, _, h, _ => by simp at h
 | p :: P, w :: vs, 0, m, nd, h1, h2, hk => by
  simp at h1 h2; subst h1; subst h2
  show bindC kindOf ((p, w) :: P.zip vs) m p = _
  unfold bindC
  rw [uf fun v hv => (List.nodup_cons.mp nd).1 (List.of_mem_zip hv).1, if_neg hk]
  simp
 | p :: P, w :: vs, i + 1, m, nd, h1, h2, hk => by
  show bindC kindOf ((p, w) :: P.zip vs) m x = _
  unfold bindC
  exact ud (i := i) (List.nodup_cons.mp nd).2 (by simpa using h1) (by simpa using h2) hk
noncomputable def start (N : List Str) (vs : List V) : St := vs.map some ++ List.replicate (N.length - vs.length) none
noncomputable def we (CX : CXT) (P : Program) (w : World) (K : PySem.W.Frag) (mg : Str -> Option Value) (base : Heap) (N : List Str) (qual : Str) (scope : Scope) (f : Addr) (cd : Value) (A : Around) (outer : List Env) (s : Shared) (H : Hp) (E : XK) : Cx where
 prog := P
 w := w
 K := K
 mg := mg
 base := base
 A := A.deeper (envOfC qual scope s.heap.objs.size f cd)
 N := N
 s_0 := s
 H_0 := H
 env := envOfC qual scope s.heap.objs.size f cd
 outer := outer
 stack := envOfC qual scope s.heap.objs.size f cd :: outer
 ex := []
 calm := true
 fn := fun _ => true
 pn := []
 xe := fun e s' => wpAny (model P w) (A.deeper (envOfC qual scope s.heap.objs.size f cd)) (leaving (envOfC qual scope s.heap.objs.size f cd) e) (fun _ s'' => CX outer H s E e s'') (fun e' s'' => CX outer H s E e' s'') s'
theorem jM {sc : Scope} {n : Nat} {x : Str} (h : sc.names.lookup x = some .cell) : ∃ c, (cellsFrom n sc.names []).lookup x = some c := by
 have q := PySem.W.cellsFrom_some sc.names n [] (.inl h)
 exact Option.isSome_iff_exists.mp q
theorem ui {CX : CXT} {P : Program} {w : World} {K : PySem.W.Frag} {mg : Str -> Option Value} {base : Heap} {N ps : List Str} {qual : Str} {scope : Scope} {f : Addr} {cd : Value} {A : Around} {outer : List Env} {s s1 : Shared} {H : Hp} {E : XK} {us : List Value} {vs : List V}
  (S : qr N ps scope) (hd : A.handled = none) (e0 : uQ P w K mg base A outer s H) (hl : vs.length = ps.length) (r : Vals vs us)
  (x : InCallC s s.heap.objs.size (bindL (envOfC qual scope s.heap.objs.size f cd).kindOf (ps.zip us) fun _ => none) (cellsFrom (s.heap.objs.size + 1) scope.names []) (bindC (envOfC qual scope s.heap.objs.size f cd).kindOf (ps.zip us) fun _ => none) s1) :
  Inv (we CX P w K mg base N qual scope f cd A outer s H E) [] (start N vs) H s1 := by
 have hpl : ps.length <= N.length := by have := congrArg List.length S.pre; rw [List.length_take] at this; lia
 obtain ⟨h1, tk, rfl, hk⟩ := x.done
 have noA : ∀ b : Addr, b ∉ (we CX P w K mg base N qual scope f cd A outer s H E).ex := fun b z => absurd (show b ∈ ([] : List Addr) from z) (by simp)
 refine ⟨⟨e0.mod, S.kind, rfl, rfl, Nat.le_refl _, fun y z c h1 h2 => ?_, fun y hy => ?_, fun y c _ h => ?_, fun _ => hd, Around.frames_deeper e0.frames, .inr ⟨rfl, rfl⟩, fun b z => absurd z (noA b), e0.bs, e0.bsz, fun b _ _ => noA b, fun b z => absurd z (noA b), e0.zo, e0.frf⟩,
  rfl, e0.bare, Un.kept hk, ⟨_, x.toInCall.ns, fun i y v h1 h2 h3 => ?_⟩, fun y c h => ⟨_, x.cell y c h⟩, e0.hok.fresh (Nat.le_refl _), fun y c h => ?_, fun p hp => absurd (show p ∈ ([] : List (Addr × Obj)) from hp) (by simp), e0.hok.kept hk, ?_⟩
 ·exact name_of_addr x.apart (PySem.mem_of_lookup h1) (PySem.mem_of_lookup h2)
 ·have hy : scope.names.lookup y = some .cell \/ scope.names.lookup y = some .free := hy
  rcases hy with hy | hy
  ·exact jM hy
  ·exact absurd rfl (S.nofree _ (PySem.mem_of_lookup hy))
 ·exact Nat.le_of_lt (x.above y c (PySem.mem_of_lookup h))
 ·have hi : i < vs.length := by
   unfold start at h2
   by_cases hi : i < vs.length
   ·exact hi
   ·rw [List.getElem?_append_right (by simpa using hi)] at h2
    rw [List.getElem?_replicate] at h2
    split at h2 <;> cases h2
  have ha : vs[i]? = some v := by
   unfold start at h2
   rw [List.getElem?_append_left (by simpa using hi), List.getElem?_map] at h2
   cases e : vs[i]? with
   | none => rw [e] at h2; cases h2
   | some a => rw [e] at h2; cases h2; rfl
  obtain ⟨u, hu, rv⟩ := r.get ha
  have hp : ps[i]? = some y := by
   rw [<- S.pre, List.getElem?_take_of_lt (by lia)]; exact h1
  have ndP : ps.Nodup := by rw [<- S.pre]; exact S.nd.sublist (List.take_sublist _ _)
  refine ⟨u, rv, ?_⟩
  rcases S.par y (List.mem_of_getElem? hp) with k | k
  ·exact .inl ⟨k, ue ndP hp hu k⟩
  ·obtain ⟨c, e⟩ := jM (n := s.heap.objs.size + 1) k
   refine .inr ⟨.inl k, c, e, ?_⟩
   have q := x.cell y c e
   rw [ud ndP hp hu (by show scope.names.lookup y ≠ _; rw [k]; decide)] at q
   exact q
 ·exact e0.hok.fresh (Nat.le_of_lt (x.above y c (PySem.mem_of_lookup h)))
 ·unfold start
  show _ = N.length
  rw [List.length_append, List.length_map, List.length_replicate]
  lia
theorem uj {CX : CXT} {P : Program} {w : World} {K : PySem.W.Frag} {mg : Str -> Option Value} {base : Heap} {k : Nat} {f : Addr} {name qual : Str} {params : Arguments} {body : List Stmt} {scope : Scope} {dV kV doc pm cdv ct oc : Value} {an od : Option Addr}
  {osl : Array (Option Value)} {N ps : List Str} {sp : Sp} (lk : K.lookup f = some ⟨oc, od, .func (PySem.W.fnOf name qual params body scope dV kV doc pm an cdv ct), osl⟩) (hcd : PySem.W.codeIn K cdv qual = true) (S : qr N ps scope)
  (len : ∀ vs H Q E, sp vs H Q E -> vs.length = ps.length)
  (hbody : ∀ (A : Around) (outer : List Env) (s : Shared) (H : Hp) (vs : List V) (Q : VK) (E : XK), qZ k (A.deeper (envOfC qual scope s.heap.objs.size f cdv)) -> sp vs H Q E ->
   ∃ t, PSs (we CX P w K mg base N qual scope f cdv A outer s H E) body t /\ t { nx := fun _ H' => Q .non H', rt := Q } (start N vs) H) :
  wL P w K mg base CX (k + 1) f (PySem.W.fnOf name qual params body scope dV kV doc pm an cdv ct) ps sp := by
 refine ⟨len, fun A outer s H args us vs Q E hr e0 hb r hsp => ?_⟩
 have hl := len _ _ _ _ hsp
 have KX : K.In s.heap := e0.mod.kin.keeps fun b o e => (e0.bs b o e).1
 have lim : s.heap.NoLimit := e0.mod.nolimit.keeps fun b o e => (e0.bs b o e).1
 have hkind : ∀ y ∈ ps.zip us, scope.names.lookup y.1 = some .local \/ (scope.names.lookup y.1 = some .cell /\ ((cellsFrom (s.heap.objs.size + 1) scope.names []).lookup y.1).isSome = true) := fun ⟨n, v⟩ hy => by
  rcases S.par n (List.of_mem_zip hy).1 with q | q
  ·exact .inl q
  ·exact .inr ⟨q, PySem.W.cellsFrom_some _ _ _ (.inl q)⟩
 refine codeAny_call_function hr.depth (KX _ _ lk) rfl S.co S.gen rfl (PySem.W.codeRec_of KX hcd) (hb _ _ _ _ ?_)
 refine wpAny_newFunctionEnv_cells S.kind hkind fun env he s1 x => ?_
 subst he
 refine ⟨lim.keeps x.toInCall.keep, codeAny_func ?_⟩
 obtain ⟨t, ht, hq⟩ := hbody A outer s H vs Q E (hr.deeper _) hsp
 have I : Inv (we CX P w K mg base N qual scope f cdv A outer s H E) [] (start N vs) H s1 := ui S hr.hd e0 hl r x
 refine wpAny_mono (ht [] s1 (start N vs) H _ I hq) (fun fl s' hs => ?_) fun e s' hs => hs
 have fin : ∀ {σ' : St} {H' : Hp} {v : V} {u : Value}, Inv (we CX P w K mg base N qual scope f cdv A outer s H E) [] σ' H' s' -> RelV v u -> Q v H' -> CE outer P w H s Q u s' :=
  fun {σ' H' v u} J rv q => ⟨v, H', J.os, J.bare, J.base, J.hok, rv, q⟩
 cases fl with
 | ret u =>
  obtain ⟨v, σ', H', J, rv, q⟩ := hs
  exact fin J rv q
 | next =>
  obtain ⟨σ', H', J, q⟩ := hs
  exact fin (v := V.non) (u := Value.none) J rfl q
 | brk =>
  obtain ⟨_, _, _, q⟩ := hs
  exact False.elim q
 | cont =>
  obtain ⟨_, _, _, q⟩ := hs
  exact False.elim q
section
variable {X : Cx} {x : Str} {p pos : Pos} {e : Expr} {es : List Expr} {t : TA} {id T : String} {r : List V -> Hp -> VK -> Prop}
noncomputable def tCB (r : List V -> Hp -> VK -> Prop) (t : TA) : TE := fun σ H Q => t σ H fun vs H1 => r vs H1 Q
theorem w6 (hc : Yu X (.builtin id) r) (hg : Gl X x) (hm : X.mg x = none) (hv : bootBuiltins x = some (.builtin id)) (ha : PA X (e :: es) t) (hn : autoParam (x ≠ "__name__") qH._auto_1) (hdb : autoParam ((x == ("__debug__" : Str)) = false) qH._auto_1)
  (he : autoParam (starEach (e :: es) X.env = (false, eval e X.env) :: starEach es X.env) qj._auto_1) (hpl : autoParam ((backTo pos (starEach es X.env)).any (·.1) = false) qj._auto_1) : PE X (.Call (.Name x p) (e :: es) [] pos) (tCB r t) := by
 intro pins s σ H Q I h
 refine wpAny_Call_Name_kw (z6 I hg hm hv ?_ hn hdb)
 exact PyProof.Rows.callWith_builtin1 (thn (ha pos pins s σ H _ I h) fun us s1 ⟨vs, H1, I1, r1, q1⟩ => hc pins s1 σ H1 vs us Q I1 r1 q1) he hpl
end
noncomputable abbrev TO := St -> Hp -> (Option Int -> Hp -> Prop) -> Prop
noncomputable def PO (X : Cx) (e : Option Expr) (t : TO) : Prop :=
 ∀ (pins : List (Addr × Obj)) (s : Shared) (σ : St) (H : Hp) (Q : Option Int -> Hp -> Prop), Inv X pins σ H s -> t σ H Q ->
  wpAny (model X.prog X.w) X.A (evalPart e X.env) (fun u s' => ∃ o H', Inv X pins σ H' s' /\ IsPart u o /\ Q o H') X.xe s
noncomputable def Zz : TO := fun _ H Q => Q none H
noncomputable def UM (t : TE) : TO := fun σ H Q => t σ H fun x H1 => ∃ i, x = .int i /\ Q (some i) H1
section
variable {X : Cx} {e : Expr} {te : TE} {lo hi : Option Expr} {tl th : TO} {pos p2 : Pos}
theorem Yg : PO X none Zz := by
 intro pins s σ H Q I h
 rw [evalPart_none]
 exact wpAny_pure ⟨none, H, I, .none, h⟩
theorem ZE (h : PE X e te) : PO X (some e) (UM te) := by
 intro pins s σ H Q I hw
 rw [evalPart_some]
 refine thn (h pins s σ H _ I hw) fun u s1 ⟨x, H1, I1, r1, q1⟩ => ?_
 obtain ⟨i, rfl, q⟩ := q1
 obtain ⟨t, rfl⟩ := r1
 exact ⟨some i, H1, I1, .int i t, q⟩
end
noncomputable def ixN (n : Nat) (i : Int) : Option Nat := if 0 <= i then (if i < n then some i.toNat else none) else if -(n : Int) <= i then some (i + n).toNat else none
noncomputable def atI {α : Type} (xs : List α) (i : Int) : Option α := (ixN xs.length i).bind fun j => xs[j]?
theorem Zm {n : Nat} {i : Int} {j : Nat} (h : ixN n i = some j) : seqIndex? i n = some j /\ j < n /\ -(n : Int) <= i /\ i < n := by
 unfold ixN at h
 by_cases h0 : 0 <= i
 ·rw [if_pos h0] at h
  by_cases h1 : i < n
  ·rw [if_pos h1] at h
   have e : i.toNat = j := Option.some.inj h
   exact ⟨by rw [seqIndex_of h0 h1, e], by lia, by lia, h1⟩
  ·rw [if_neg h1] at h; cases h
 ·rw [if_neg h0] at h
  by_cases h1 : -(n : Int) <= i
  ·rw [if_pos h1] at h
   have e : (i + n).toNat = j := Option.some.inj h
   exact ⟨by rw [seqIndex_neg (by lia) h1, e], by lia, h1, by lia⟩
  ·rw [if_neg h1] at h; cases h
theorem Q4 {α : Type} {xs : List α} {i : Int} {v : α} (h : atI xs i = some v) : ∃ j, seqIndex? i xs.length = some j /\ xs[j]? = some v /\ j < xs.length /\ -(xs.length : Int) <= i /\ i < xs.length := by
 unfold atI at h
 cases e : ixN xs.length i with
 | none => rw [e] at h; cases h
 | some j =>
  rw [e] at h
  obtain ⟨h1, h2, h3, h4⟩ := Zm e
  exact ⟨j, h1, h, h2, h3, h4⟩
noncomputable def QN (b : Expr) : Prop := ∀ o i, subscripted b false o i = operate [o, i] (getItem o i)
noncomputable def IxR (X : Cx) (r : R2) : Prop :=
 ∀ (value slice : Expr) (pins : List (Addr × Obj)) (s : Shared) (σ : St) (H : Hp) (x y : V) (v u : Value) (Q : VK), Inv X pins σ H s -> RelV x v -> RelV y u -> r x y H Q ->
  subscripted slice false v u = operate [v, u] (getItem v u) -> wpAny (model X.prog X.w) X.A (subscriptTail value slice v u) (EP X pins σ Q) X.xe s
noncomputable def MtR (X : Cx) (id : String) (r : V -> List V -> Hp -> VK -> Prop) : Prop :=
 ∀ (pins : List (Addr × Obj)) (s : Shared) (σ : St) (H : Hp) (x : V) (xs : List V) (v : Value) (us : List Value) (Q : VK), Inv X pins σ H s -> RelV x v -> Vals xs us -> r x xs H Q ->
  wpAny (model X.prog X.w) X.A (call (.builtin id) (v :: us)) (EP X pins σ Q) X.xe s
section
variable {X : Cx} {a b : Expr} {ta tb : TE} {pos : Pos}
theorem IxR.or {r r' : R2} (h : IxR X r) (h' : IxR X r') : IxR X (fun x y H Q => r x y H Q \/ r' x y H Q) := by
 intro value slice pins s σ H x y v u Q I rx ry q hs
 rcases q with q | q
 ·exact h value slice pins s σ H x y v u Q I rx ry q hs
 ·exact h' value slice pins s σ H x y v u Q I rx ry q hs
theorem Ul {r : R2} (hr : IxR X r) (ha : PE X a ta) (hb : PE X b tb) (hs : QN b) : PE X (.Subscript a b pos) (tOp r ta tb) := by
 intro pins s σ H Q I h
 exact Subscript_ (Xg ha hb I h fun v u s2 x y H2 I2 rx ry q => hr a b pins s2 σ H2 x y v u Q I2 rx ry q (hs _ _))
noncomputable def UB (K : PySem.W.Frag) : R2 := fun x y H Q => ∃ p xs i v, x = .ref p /\ y = .int i /\ SqL K H p xs /\ atI xs i = some v /\ Q v H
noncomputable def Uq (K : PySem.W.Frag) : R2 := fun x y H Q => ∃ p xs i v, x = .ref p /\ y = .int i /\ SqT K H p xs /\ atI xs i = some v /\ Q v H
theorem Ya : IxR X (UB X.K) := by
 intro value slice pins s σ H x y v u Q I rx ry h hs
 obtain ⟨p, xs, i, z, rfl, rfl, hq, he, q⟩ := h
 cases rx
 obtain ⟨t, rfl⟩ := ry
 obtain ⟨its, r, pl, hz⟩ := I.list hq
 obtain ⟨j, h1, h2, h3, h4, h5⟩ := Q4 he
 obtain ⟨w, ew, rw'⟩ := r.get h2
 have hl := r.length
 have hn := Qx
 have fin : EP X pins σ Q w s := ⟨z, H, I, rw', q⟩
 by_cases h0 : 0 <= i
 ·have hj : i.toNat = j := by
   rw [seqIndex_of h0 h5] at h1
   exact Option.some.inj h1
  exact item_listR pl.isList h0 (by lia) (by rw [hj]; simpa using ew) fin hs
 ·have hj : (i + (its.toArray.size : Int)).toNat = j := by
   rw [seqIndex_neg (by lia) h4] at h1
   rw [List.size_toArray, <- hl]
   exact Option.some.inj h1
  exact subscriptTail_builtinR (x := w) pl.isList.typeIs slot_list_getitem.lookup
   (wpAny_getItem_list_neg (Q := fun r s' => r = w /\ EP X pins σ Q r s') pl.isList (by lia) (by rw [List.size_toArray] <;> lia) (by lia) (by rw [hj]; simpa using ew) ⟨rfl, fin⟩) hs
theorem XG : IxR X (Uq X.K) := by
 intro value slice pins s σ H x y v u Q I rx ry h hs
 obtain ⟨p, xs, i, z, rfl, rfl, hq, he, q⟩ := h
 cases rx
 obtain ⟨t, rfl⟩ := ry
 obtain ⟨its, r, pl, hz⟩ := I.tuple hq
 obtain ⟨j, h1, h2, h3, h4, h5⟩ := Q4 he
 obtain ⟨w, ew, rw'⟩ := r.get h2
 have hl := r.length
 have hn := Qx
 have fin : EP X pins σ Q w s := ⟨z, H, I, rw', q⟩
 exact subscriptTail_builtinR (x := w) pl.typeIs slot_tuple_getitem.lookup
  (getItem_tuple (j := j) (Q := fun r s' => r = w /\ EP X pins σ Q r s') pl (by lia) (by lia) (by rw [List.size_toArray, <- hl]; exact h1) (by simpa using ew) ⟨rfl, fin⟩) hs
theorem vy : Yu X (.builtin "len") (fun xs H Q => ∃ p ys, xs = [.ref p] /\ (SqL X.K H p ys \/ SqT X.K H p ys) /\ Q (.int ys.length) H) := by
 intro pins s σ H xs us Q I r h
 obtain ⟨p, ys, rfl, hq, q⟩ := h
 obtain ⟨u, rfl, rx⟩ := vals1 r
 cases rx
 have hn := Qx
 rcases hq with hq | hq
 ·obtain ⟨its, r', pl, hz⟩ := I.list hq
  have hlen := r'.length
  exact Calls.call_len_list pl.isList (by simp only [List.size_toArray] <;> lia) ⟨.int ys.length, H, I.tok _, ⟨s.toks + 1, by rw [List.size_toArray, hlen]⟩, q⟩
 ·obtain ⟨its, r', pl, hz⟩ := I.tuple hq
  have hlen := r'.length
  exact len_tuple pl (by simp only [List.size_toArray] <;> lia) ⟨.int ys.length, H, I.tok _, ⟨s.toks + 1, by rw [List.size_toArray, hlen]⟩, q⟩
noncomputable def tyV (K : PySem.W.Frag) (T : String) (x : V) (H : Hp) : Prop := match x with
 | .str _ => T = "str"
 | .int _ => T = "int"
 | .ref p => (T = "list" /\ ∃ xs, SqL K H p xs) \/ (T = "tuple" /\ ∃ o, K.lookup p = some o /\ o.cls = .type "tuple" /\ o.dict = none) \/
   (T = "dict" /\ ((∃ kvs, H p = some (.dK kvs)) \/ ∃ kvs, H p = some (.dT kvs))) \/ (T = "set" /\ ∃ S n, H p = some (.set S n))
 | _ => False
theorem XU {pins : List (Addr × Obj)} {σ : St} {H : Hp} {s : Shared} {T : String} {x : V} {v : Value} (I : Inv X pins σ H s) (r : RelV x v) (ty : tyV X.K T x H) :
  s.TypeIs v T /\ ∀ a, v = .ref a -> ∃ ob, s.heap.get? a = some ob /\ ob.dict = none := by
 cases x with
 | str z =>
  obtain ⟨t, rfl⟩ := r
  cases (show T = "str" from ty)
  exact ⟨typeIs_str s z t, fun _ e => nomatch e⟩
 | int i =>
  obtain ⟨t, rfl⟩ := r
  cases (show T = "int" from ty)
  exact ⟨typeIs_int s i t, fun _ e => nomatch e⟩
 | ref p =>
  cases r
  rcases ty with ⟨rfl, xs, hq⟩ | ⟨rfl, o, hk, hc, hd⟩ | ⟨rfl, hk⟩ | ⟨rfl, S, n, hk⟩
  ·obtain ⟨its, _, pl, _⟩ := I.list hq
   refine ⟨pl.isList.typeIs, fun a e => ?_⟩
   cases e
   obtain ⟨o, n, e, c, hd, _⟩ := pl
   exact ⟨o, e, hd⟩
  ·refine ⟨⟨o, I.kIn p o hk, hc⟩, fun a e => ?_⟩
   cases e
   exact ⟨o, I.kIn _ o hk, hd⟩
  ·have z : ∃ o, s.heap.get? p = some o /\ o.ExactDict := by
    rcases hk with ⟨kvs, hk⟩ | ⟨kvs, hk⟩
    ·obtain ⟨_, _, _, _, o, _, _, e, ex, _⟩ := I.hok p _ hk
     exact ⟨o, e, ex⟩
    ·obtain ⟨_, _, _, _, o, _, _, e, ex, _⟩ := I.hok p _ hk
     exact ⟨o, e, ex⟩
   obtain ⟨o, e, ex⟩ := z
   refine ⟨⟨o, e, ex.1⟩, fun a e2 => ?_⟩
   cases e2
   exact ⟨o, e, ex.2.1⟩
  ·obtain ⟨o, _, _, _, e, ex, _⟩ := I.hok p _ hk
   refine ⟨⟨o, e, ex.1⟩, fun a e2 => ?_⟩
   cases e2
   exact ⟨o, e, ex.2.1⟩
 | _ => exact False.elim ty
noncomputable def tBM (K : PySem.W.Frag) (T : String) (r : V -> List V -> Hp -> VK -> Prop) (to : TE) (t : TA) : TE := fun σ H Q => to σ H fun x H1 => tyV K T x H1 /\ t σ H1 fun xs H2 => r x xs H2 Q
variable {o e : Expr} {es : List Expr} {to : TE} {t : TA} {name : Str} {apos cpos : Pos} {T id : String} {r : V -> List V -> Hp -> VK -> Prop}
theorem X3 (pa : PlainAttrs T) (slot : Slot T name id) (hty : typeOf (.builtin id) = pure (.type "method_descriptor")) (hm : MtR X id r) (ho : PE X o to) (ha : PA X (e :: es) t)
  (hbase : autoParam (attributeBase o name X.env (eval o X.env) = eval o X.env) qj._auto_1)
  (hfew : ((backTo cpos (starEach (e :: es) X.env)).all (fun x => !x.1) && (backToKw cpos (keywordEach [] X.env)).all (fun x => x.1.isSome)
   && decide ((e :: es).length + ([] : List Keyword).length + (if ([] : List Keyword).isEmpty then 0 else 1) < 30)) = true := by rfl)
  (hline : autoParam ((apos.endLine == cpos.line) = true) qj._auto_1) (hs : autoParam (starEach (e :: es) X.env = (false, eval e X.env) :: starEach es X.env) qj._auto_1) (hplain : autoParam ((backTo cpos (starEach es X.env)).any (·.1) = false) qj._auto_1) :
  PE X (.Call (.Attribute o name apos) (e :: es) [] cpos) (tBM X.K T r to t) := by
 intro pins s σ H Q I h
 refine wpAny_Call_method_late hbase hfew hline rfl (thn (ho pins s σ H _ I h) fun v s1 ⟨x, H1, I1, r1, ty, q1⟩ => ?_)
 obtain ⟨h1, h2⟩ := XU I1 r1 ty
 refine ⟨T, id, pa, slot, hty, h1, h2, ?_⟩
 have hA := ha cpos pins s1 σ H1 _ I1 q1
 rw [hs] at hA ⊢
 refine Calls.callWith_builtin (by show (false || (backTo cpos (starEach es X.env)).any (·.1)) = false; rw [hplain] <;> rfl) (Calls.evalArgs_plain ?_)
 exact thn hA fun us s2 ⟨vs, H2, I2, r2, q2⟩ => hm pins s2 σ H2 x vs v us Q I2 r1 r2 q2
end
noncomputable def MtM (X : Cx) (id : String) (r : V -> List V -> Hp -> VK -> Prop) : Prop :=
 ∀ (pins : List (Addr × Obj)) (s : Shared) (σ : St) (H : Hp) (x : V) (xs : List V) (v : Value) (us : List Value) (Q : VK), Inv X pins σ H s -> RelV x v -> Vals xs us -> r x xs H Q ->
  wpAny (model X.prog X.w) X.A (call (.builtin id) (v :: us)) (EP X pins σ Q) X.xe s
theorem Vals.one : ∀ {x : V} {us : List Value}, Vals [x] us -> ∃ u, us = [u] /\ RelV x u
 | _, _, .cons r .nil => ⟨_, rfl, r⟩
theorem Vals.rep {xs : List V} {us : List Value} (h : Vals xs us) : ∀ k : Nat, Vals (List.replicate k xs).flatten (List.replicate k us).flatten
 | 0 => .nil
 | k + 1 => by
  rw [List.replicate_succ, List.replicate_succ, List.flatten_cons, List.flatten_cons]
  exact Vals.append h (Vals.rep h k)
theorem foldl_rep (its : List Value) : ∀ (k : Nat) (acc : List Value),
  List.foldl (fun x1 x2 => x1 ++ x2) acc.toArray (List.replicate k its.toArray) = (acc ++ (List.replicate k its).flatten).toArray
 | 0, acc => by simp
 | k + 1, acc => by
  have e : acc.toArray ++ its.toArray = (acc ++ its).toArray := by simp
  have e2 : (acc ++ its) ++ (List.replicate k its).flatten = acc ++ (List.replicate (k + 1) its).flatten := by
   rw [List.replicate_succ, List.flatten_cons, List.append_assoc]
  rw [<- e2, <- foldl_rep its k (acc ++ its), <- e, List.replicate_succ, List.foldl_cons]
section
variable {X : Cx} {pins : List (Addr × Obj)} {σ : St} {H : Hp} {s : Shared} {l b : Addr} {xs ys zs : List V}
theorem Inv.YJ {its its' : List Value} {n : Nat} {f : Array Value -> Array Value} {t' : Nat} (I : Inv X pins σ H s) (hH : H l = some (.lst xs))
  (e : s.heap.get? l = some { cls := .type "list", data := .seq its.toArray n }) (hf : f its.toArray = its'.toArray) (hv : Vals ys its') (hz : ys.length <= sizeLine) :
  Inv X pins σ (upd H l (.lst ys)) { s with heap := s.heap.update l (Obj.mapSeq f), toks := t' } := by
 have q := PySem.IsL.update e f
 rw [hf] at q
 refine I.write (x := l) (e := l) (by rw [hH]; exact trivial) (.inl rfl) (fun b' u hb hu => (Heap.get?_update_other s.heap (Obj.mapSeq f) (Ne.symm hb)).trans hu) ⟨_, q⟩ ?_
 exact ⟨hz, its', _, hv, q⟩
theorem Inv.Z1 {its : List Value} {t' : Nat} (I : Inv X pins σ H s) (hv : Vals ys its) (hz : ys.length <= sizeLine) :
  Inv X pins σ (upd H s.heap.objs.size (.lst ys)) { s with heap := s.heap.push { cls := .type "list", data := .seq its.toArray }, toks := t' } :=
 I.laid (fun _ _ q => Heap.get?_push_of_some _ q) (Nat.le_refl _) ⟨hz, its, 0, hv, Heap.get?_push_size _ rfl⟩
theorem Inv.fresh (I : Inv X pins σ H s) : H s.heap.objs.size = none := I.hok.fresh (Nat.le_refl _)
theorem Inv.Qu (I : Inv X pins σ H s) (hH : H l = some (.lst xs)) : xs.length <= sizeLine /\ ∃ (its : List Value) (n : Nat), Vals xs its /\ xs.length = its.length /\ s.heap.get? l = some { cls := .type "list", data := .seq its.toArray n } := by
 obtain ⟨z, its, n, r, e⟩ := I.hok l _ hH
 exact ⟨z, its, n, r, r.length, e⟩
theorem yX {n : Nat} (h : n <= sizeLine) : Builtin.List.listTooLong n = false := by
 unfold Builtin.List.listTooLong
 exact decide_eq_false (by lia)
end
section
variable {X : Cx}
noncomputable def Z5 : V -> List V -> Hp -> VK -> Prop := fun x vs H Q => ∃ l xs y, x = .ref l /\ vs = [y] /\ H l = some (.lst xs) /\ xs.length < sizeLine /\ Q .non (upd H l (.lst (xs ++ [y])))
theorem XZ : MtM X "list.append" Z5 := by
 intro pins s σ H x vs v us Q I rx rv h
 obtain ⟨l, xs, y, rfl, rfl, hH, hz, q⟩ := h
 cases rx
 obtain ⟨u, rfl, ru⟩ := rv.one
 obtain ⟨z, its, n, r, hl, e⟩ := I.Qu hH
 refine call_meets F.slot_list_append ⟨_, e, rfl⟩ F.entry_list_append (F.args_list_append_2 _ _) (PySem.list_append l its.toArray n u (by rw [List.size_toArray]; lia)) ⟨e, ?_⟩
 refine ⟨.non, _, I.YJ (its' := its ++ [u]) hH e (by simp) (r.append (.cons ru .nil)) ?_, rfl, q⟩
 rw [List.length_append, List.length_singleton]
 lia
noncomputable def ZP : V -> List V -> Hp -> VK -> Prop := fun x vs H Q => ∃ l b xs zs, x = .ref l /\ vs = [.ref b] /\ H l = some (.lst xs) /\ H b = some (.lst zs) /\ xs.length + zs.length <= sizeLine /\ Q .non (upd H l (.lst (xs ++ zs)))
theorem X0 : MtM X "list.extend" ZP := by
 intro pins s σ H x vs v us Q I rx rv h
 obtain ⟨l, b, xs, zs, rfl, rfl, hH, hB, hz, q⟩ := h
 cases rx
 obtain ⟨u, rfl, ru⟩ := rv.one
 cases ru
 obtain ⟨z, its, n, r, hl, e⟩ := I.Qu hH
 obtain ⟨z2, its2, n2, r2, hl2, e2⟩ := I.Qu hB
 have hsz : its.toArray.size + its2.toArray.size <= sizeLine := by rw [List.size_toArray, List.size_toArray]; lia
 have hlong : ¬ (!its.toArray.isEmpty && Builtin.List.listTooLong (its.toArray.size + its2.toArray.size)) = true := by
  rw [yX hsz, Bool.and_false]
  exact Bool.false_ne_true
 refine call_meets F.slot_list_extend ⟨_, e, rfl⟩ F.entry_list_extend (F.args_list_extend_2 _ _)
  (AutoSeq1.list_extend_list_list_0 l its.toArray n b its2.toArray n2 hlong (by rw [List.size_toArray]; lia) (by lia)) ⟨e, e2, ?_⟩
 refine ⟨.non, _, I.YJ (its' := its ++ its2) hH e (by simp) (r.append r2) ?_, rfl, q⟩
 rw [List.length_append]
 lia
noncomputable def Uc : R2 := fun x y H Q => ∃ l b xs zs, x = .ref l /\ y = .ref b /\ H l = some (.lst xs) /\ H b = some (.lst zs) /\ xs.length + zs.length <= sizeLine /\ ∀ p, H p = none -> Q (.ref p) (upd H p (.lst (xs ++ zs)))
theorem Xk : OpR X (binaryOp .Add) Uc := by
 intro pins s σ H x y v u Q I rx ry h
 obtain ⟨l, b, xs, zs, rfl, rfl, hH, hB, hz, q⟩ := h
 cases rx
 cases ry
 obtain ⟨z, its, n, r, hl, e⟩ := I.Qu hH
 obtain ⟨z2, its2, n2, r2, hl2, e2⟩ := I.Qu hB
 refine PySem.P.add_list e e2 ?_ (by rw [List.size_toArray, List.size_toArray]; lia)
 have ea : its.toArray ++ its2.toArray = (its ++ its2).toArray := by simp
 rw [ea]
 exact ⟨.ref _, _, I.Z1 (t' := s.toks) (r.append r2) (by rw [List.length_append]; lia), rfl, q _ I.fresh⟩
noncomputable def Uo : R2 := fun x y H Q => ∃ l k xs, x = .ref l /\ y = .int k /\ H l = some (.lst xs) /\ -(2 ^ 63) <= k /\ k < 2 ^ 63 /\ xs.length * k.toNat <= sizeLine /\
 ∀ p, H p = none -> Q (.ref p) (upd H p (.lst (List.replicate k.toNat xs).flatten))
theorem len_rep {α : Type} (xs : List α) (k : Nat) : (List.replicate k xs).flatten.length = k * xs.length := by
 induction k with
 | zero => simp
 | succ k ih => rw [List.replicate_succ, List.flatten_cons, List.length_append, ih, Nat.succ_mul, Nat.add_comm]
theorem YN : OpR X (binaryOp .Mult) Uo := by
 intro pins s σ H x y v u Q I rx ry h
 obtain ⟨l, k, xs, rfl, rfl, hH, h1, h2, hz, q⟩ := h
 cases rx
 obtain ⟨t, rfl⟩ := ry
 obtain ⟨z, its, n, r, hl, e⟩ := I.Qu hH
 have hlen : its.toArray.size * k.toNat <= sizeLine := by rw [List.size_toArray, <- hl]; exact hz
 have hcap : ¬ its.toArray.size * k.toNat > (2 ^ 63 - 1) / 8 := by
  have : (sizeLine : Nat) <= (2 ^ 63 - 1) / 8 := by decide
  lia
 have hfit : ¬ (!Builtin.List.listFitsIndex k) = true := by
  rw [fitsIndex_both h1 h2]
  exact Bool.false_ne_true
 have hlong : ¬ Builtin.List.listTooLong (its.toArray.size * k.toNat) = true := by
  rw [yX hlen]
  exact Bool.false_ne_true
 have hnew : List.foldl (fun x1 x2 => x1 ++ x2) #[] (List.replicate (if its.toArray.isEmpty = true then 0 else k.toNat) its.toArray) = (List.replicate k.toNat its).flatten.toArray := by
  have f0 : ∀ m : Nat, List.foldl (fun x1 x2 => x1 ++ x2) #[] (List.replicate m its.toArray) = (List.replicate m its).flatten.toArray := fun m => by
   have := foldl_rep its m []
   rw [List.nil_append] at this
   exact this
  rw [f0]
  cases its with
  | nil => simp
  | cons a r' => rw [if_neg (by simp)]
 refine wpAny_binaryOp_repeat_ref (T := "list") (U := "int") (by decide) ⟨_, e, rfl⟩ (fun s' => typeIs_int s' k t) noFill_list_mul F.fills_int_mul F.slot_int_rmul repeat_list F.slot_int_index.lookup
  (call_meets F.slot_int_rmul (typeIs_int s k t) F.entry_int_rmul (F.args_int_rmul_2 _ _) (int___rmul___int_list k t l its.toArray n)
   ⟨e, rfl, ⟨_, e, rfl⟩, call_meets F.slot_list_mul ⟨_, e, rfl⟩ F.entry_list_mul (F.args_list_mul_2 _ _) (AutoListH.list___mul___list_int_3 l its.toArray n k t hfit hcap hlong) ⟨e, ?_⟩⟩)
 rw [hnew]
 exact ⟨.ref _, _, I.Z1 (t' := s.toks) (r.rep k.toNat) (by rw [len_rep, Nat.mul_comm]; exact hz), rfl, q _ I.fresh⟩
end
theorem Vals.UW {a : Addr} {us : List Value} (r : Vals [V.ref a] us) : us = [Value.ref a] := by
 cases r with
 | cons r t =>
  cases t
  cases r
  rfl
mutual
inductive Dp (K : PySem.W.Frag) (H : Hp) : V -> PyData -> Prop
 | non : Dp K H .non .none
 | bl (b : Bool) : Dp K H (.bl b) (.bool b)
 | int (i : Int) : Dp K H (.int i) (.int i)
 | str (x : Str) : Dp K H (.str x) (.str x)
 | lst {a : Addr} {xs : List V} {ds : List PyData} : SqL K H a xs -> xE K H xs ds -> Dp K H (.ref a) (.list ds)
 | tup {a : Addr} {xs : List V} {ds : List PyData} : SqT K H a xs -> xE K H xs ds -> Dp K H (.ref a) (.tuple ds)
inductive xE (K : PySem.W.Frag) (H : Hp) : List V -> List PyData -> Prop
 | nil : xE K H [] []
 | cons {v : V} {vs : List V} {d : PyData} {ds : List PyData} : Dp K H v d -> xE K H vs ds -> xE K H (v :: vs) (d :: ds)
end
section
variable {X : Cx} {pins : List (Addr × Obj)} {σ : St} {H : Hp} {s : Shared}
mutual
theorem Dp.reads (I : Inv X pins σ H s) : ∀ (d : PyData) (v : V) (u : Value), Dp X.K H v d -> RelV v u -> ∃ as, Reads s.heap u d as
 | .none, _, _, h, r => by
  cases h
  cases r
  exact ⟨_, Reads.none⟩
 | .bool b, _, _, h, r => by
  cases h
  cases r
  exact ⟨_, Reads.bool b⟩
 | .int i, _, _, h, r => by
  cases h
  obtain ⟨t, rfl⟩ := r
  exact ⟨_, Reads.int i t⟩
 | .str x, _, _, h, r => by
  cases h
  obtain ⟨t, rfl⟩ := r
  exact ⟨_, Reads.str x t⟩
 | .list ds, _, _, h, r => by
  cases h with
  | lst hs ha =>
   cases r
   obtain ⟨its, rv, ⟨o, n, ho, hc, _, hd⟩, _⟩ := I.list hs
   obtain ⟨as, hr⟩ := Dp.readsAll I ds _ its ha rv
   exact ⟨_, Reads.list ho hc hd hr⟩
 | .tuple ds, _, _, h, r => by
  cases h with
  | tup hs ha =>
   cases r
   obtain ⟨its, rv, ⟨o, ho, hc, n, hd⟩, _⟩ := I.tuple hs
   obtain ⟨as, hr⟩ := Dp.readsAll I ds _ its ha rv
   exact ⟨_, Reads.tuple ho hc hd hr⟩
 | .dict _, _, _, h, _ => by cases h
theorem Dp.readsAll (I : Inv X pins σ H s) : ∀ (ds : List PyData) (vs : List V) (us : List Value), xE X.K H vs ds -> Vals vs us -> ∃ as, ReadsAll s.heap us ds as
 | [], _, _, h, r => by
  cases h
  cases r
  exact ⟨_, ReadsAll.nil⟩
 | d :: ds, _, _, h, r => by
  cases h with
  | cons h1 h2 =>
   cases r with
   | cons r1 r2 =>
    obtain ⟨as, q1⟩ := Dp.reads I d _ _ h1 r1
    obtain ⟨bs, q2⟩ := Dp.readsAll I ds _ _ h2 r2
    exact ⟨_, ReadsAll.cons q1 q2⟩
end
end
section
variable {X : Cx}
noncomputable def XQ (K : PySem.W.Frag) : R2 := fun x y H Q => ∃ d e, Dp K H x d /\ Dp K H y e /\ SeqAt.shaped d = true /\ SeqAt.shaped e = true /\ Q (.bl (PyData.eqv d e)) H
noncomputable def YV (K : PySem.W.Frag) : R2 := fun x y H Q => ∃ d e, Dp K H x d /\ Dp K H y e /\ SeqAt.shaped d = true /\ SeqAt.shaped e = true /\ Q (.bl (!PyData.eqv d e)) H
theorem Xx (hu : X.A.units + 64 < cLine) : OpR X (compareOp .Eq) (XQ X.K) := by
 intro pins s σ H x y v u Q I rx ry h
 obtain ⟨d, e, hd, he, sd, se, q⟩ := h
 obtain ⟨as, r1⟩ := Dp.reads I d x v hd rx
 obtain ⟨bs, r2⟩ := Dp.reads I e y u he ry
 exact SeqAt.compareEq_shaped r1 r2 sd se hu ⟨.bl _, H, I, rfl, q⟩
theorem Y8 (hu : X.A.units + 64 < cLine) : OpR X (compareOp .NotEq) (YV X.K) := by
 intro pins s σ H x y v u Q I rx ry h
 obtain ⟨d, e, hd, he, sd, se, q⟩ := h
 obtain ⟨as, r1⟩ := Dp.reads I d x v hd rx
 obtain ⟨bs, r2⟩ := Dp.reads I e y u he ry
 exact SeqAt.compareNe_shaped r1 r2 sd se hu ⟨.bl _, H, I, rfl, q⟩
end
noncomputable abbrev Za (h : Heap) (c : Addr) (v : Option Value) : Prop := h.IsCell c v
noncomputable def U2 (scope sc : Scope) : Scope :=
 { scope with names := scope.names.map fun (n, k) => if (k == .free && sc.kind == .function && sc.names.lookup n == some .cell) then (n, .cell) else (n, k) }
noncomputable def qi (cells : List (Str × Addr)) : List (Str × NameKind) -> List (Str × Addr) -> List (Str × Addr)
 | [], acc => acc
 | (n, k) :: r, acc => if k == .free then qi cells r ((n, (cells.lookup n).getD 0) :: acc) else qi cells r acc
theorem zH (env : Env) (f : Str × NameKind -> List (Str × Addr) -> Sem (ForInStep (List (Str × Addr))))
  (hf : ∀ n k c, f (n, k) c = if k == .free then (do let a <- cellOf env n; pure (.yield ((n, a) :: c))) else pure (.yield c)) :
  ∀ (names : List (Str × NameKind)) (acc : List (Str × Addr)), (∀ y ∈ names, y.2 = .free -> ∃ c, env.cells.lookup y.1 = some c) -> forIn names acc f = pure (qi env.cells names acc)
 | [], acc, _ => by rw [List.forIn_nil]; rfl
 | (n, k) :: r, acc, h => by
  rw [List.forIn_cons, hf]
  have ih := fun acc => zH env f hf r acc fun y hy => h y (List.mem_cons_of_mem _ hy)
  unfold qi
  by_cases hk : (k == NameKind.free) = true
  ·rw [if_pos hk, if_pos hk]
   obtain ⟨c, hc⟩ := h (n, k) List.mem_cons_self (by simpa using hk)
   have e : cellOf env n = pure c := by unfold cellOf; rw [hc]
   rw [e]
   have e2 : (env.cells.lookup n).getD 0 = c := by rw [hc]; rfl
   rw [e2]
   exact ih _
  ·rw [if_neg hk, if_neg hk]
   exact ih _
theorem zv {scope : Scope} {env : Env} (h : ∀ y ∈ scope.names, y.2 = .free -> ∃ c, env.cells.lookup y.1 = some c) : closureFor scope env = pure (qi env.cells scope.names []) := by
 simp only [closureFor]
 rw [zH env _ (fun n k c => rfl) scope.names [] h]
 rfl
theorem mem_lookup {α : Type} : ∀ {l : List (Str × α)} {n : Str} {c : α}, (n, c) ∈ l -> ∃ c', l.lookup n = some c'
 | (k, v) :: r, n, c, h => by
  rw [List.lookup_cons]
  cases hb : n == k with
  | true => exact ⟨_, rfl⟩
  | false =>
   rcases List.mem_cons.mp h with e | h
   ·cases e; simp at hb
   ·exact mem_lookup h
theorem vo {cells : List (Str × Addr)} : ∀ {names : List (Str × NameKind)} {acc : List (Str × Addr)} {n : Str} {c : Addr}, (n, c) ∈ qi cells names acc -> (n, c) ∈ acc \/ ((n, .free) ∈ names /\ c = (cells.lookup n).getD 0)
 | [], _, _, _, h => .inl h
 | (m, k) :: r, acc, n, c, h => by
  unfold qi at h
  split at h
  ·rename_i hk
   have hk : k = .free := by simpa using hk
   rcases vo h with h | ⟨h1, h2⟩
   ·rcases List.mem_cons.mp h with e | h
    ·cases e; exact .inr ⟨hk ▸ List.mem_cons_self, rfl⟩
    ·exact .inl h
   ·exact .inr ⟨List.mem_cons_of_mem _ h1, h2⟩
  ·rcases vo h with h | ⟨h1, h2⟩
   ·exact .inl h
   ·exact .inr ⟨List.mem_cons_of_mem _ h1, h2⟩
theorem za {cells : List (Str × Addr)} : ∀ {names : List (Str × NameKind)} {acc : List (Str × Addr)} {p : Str × Addr}, p ∈ acc -> p ∈ qi cells names acc
 | [], _, _, h => h
 | (m, k) :: r, acc, p, h => by
  unfold qi
  split
  ·exact za (List.mem_cons_of_mem _ h)
  ·exact za h
theorem vH {cells : List (Str × Addr)} : ∀ {names : List (Str × NameKind)} {acc : List (Str × Addr)} {n : Str}, (n, .free) ∈ names -> (n, (cells.lookup n).getD 0) ∈ qi cells names acc
 | (m, k) :: r, acc, n, h => by
  unfold qi
  rcases List.mem_cons.mp h with e | h
  ·cases e
   exact za List.mem_cons_self
  ·split
   ·exact vH h
   ·exact vH h
theorem wy : ∀ {names : List (Str × NameKind)} {h : Heap} {acc : List (Str × Addr)} {x : Str} {c : Addr}, (x, c) ∈ cellsFrom h.objs.size names acc ->
  (x, c) ∈ acc \/ ((x, .cell) ∈ names /\ h.objs.size <= c /\ Za (pushCells h names) c none)
 | [], _, _, _, _, h => .inl h
 | (n, k) :: r, h, acc, x, c, hm => by
  unfold cellsFrom at hm
  unfold pushCells
  split at hm
  ·rename_i hk
   rw [if_pos hk]
   have hk : k = .cell := by simpa using hk
   rw [<- Heap.size_push h { cls := .type "cell", data := .cell none }] at hm
   rcases wy hm with hm | ⟨h1, h2, h3⟩
   ·rcases List.mem_cons.mp hm with e | hm
    ·cases e
     exact .inr ⟨hk ▸ List.mem_cons_self, Nat.le_refl _, _, pushCells_keeps r _ _ _ (Heap.get?_push_size _ rfl), rfl⟩
    ·exact .inl hm
   ·rw [Heap.size_push] at h2
    exact .inr ⟨List.mem_cons_of_mem _ h1, Nat.le_of_succ_le h2, h3⟩
  ·rename_i hk
   rw [if_neg hk]
   rcases wy hm with hm | ⟨h1, h2, h3⟩
   ·exact .inl hm
   ·exact .inr ⟨List.mem_cons_of_mem _ h1, h2, h3⟩
theorem zi : ∀ {names : List (Str × NameKind)} {n : Nat} {acc : List (Str × Addr)} {p : Str × Addr}, p ∈ acc -> p ∈ cellsFrom n names acc
 | [], _, _, _, h => h
 | (m, k) :: r, n, acc, p, h => by
  unfold cellsFrom
  split
  ·exact zi (List.mem_cons_of_mem _ h)
  ·exact zi h
theorem yc : ∀ {names : List (Str × NameKind)} {n : Nat} {acc : List (Str × Addr)} {x : Str}, (x, .cell) ∈ names -> ∃ c, (x, c) ∈ cellsFrom n names acc
 | (m, k) :: r, n, acc, x, h => by
  unfold cellsFrom
  rcases List.mem_cons.mp h with e | h
  ·cases e
   exact ⟨n, zi List.mem_cons_self⟩
  ·split
   ·exact yc h
   ·exact yc h
theorem ye : ∀ {names : List (Str × NameKind)} {h : Heap} {acc : List (Str × Addr)} {x y : Str} {c : Addr}, (∀ p ∈ acc, p.2 < h.objs.size) -> (∀ x y c, (x, c) ∈ acc -> (y, c) ∈ acc -> x = y) ->
  (x, c) ∈ cellsFrom h.objs.size names acc -> (y, c) ∈ cellsFrom h.objs.size names acc -> x = y
 | [], _, _, _, _, _, _, hi, h1, h2 => hi _ _ _ h1 h2
 | (n, k) :: r, h, acc, x, y, c, hl, hi, h1, h2 => by
  unfold cellsFrom at h1 h2
  split at h1
  ·rename_i hk
   rw [if_pos hk] at h2
   rw [<- Heap.size_push h { cls := .type "cell", data := .cell none }] at h1 h2
   refine ye (h := h.push _) (fun p hp => ?_) (fun x y c a b => ?_) h1 h2
   ·rw [Heap.size_push]
    rcases List.mem_cons.mp hp with rfl | hp
    ·exact Nat.lt_succ_self _
    ·exact Nat.lt_succ_of_lt (hl p hp)
   ·rcases List.mem_cons.mp a with e | a <;> rcases List.mem_cons.mp b with e' | b
    ·cases e; cases e'; rfl
    ·cases e; exact absurd (hl _ b) (Nat.lt_irrefl _)
    ·cases e'; exact absurd (hl _ a) (Nat.lt_irrefl _)
    ·exact hi _ _ _ a b
  ·rename_i hk
   rw [if_neg hk] at h2
   exact ye hl hi h1 h2
theorem jA {M : Model} {A : Around} {E : Value -> Shared -> Prop} {s : Shared} {scope : Scope} {globals : Addr} {closure : List (Str × Addr)} {qual : Str} {func : Option Addr} {code : Value} {around : Env} {builtins : Addr} {Q : Env -> Shared -> Prop}
  (h : Q (newEnv scope s.heap.objs.size globals (cellsFrom (s.heap.objs.size + 1) scope.names closure) qual func code (some around) builtins)
   { s with heap := pushCells (s.heap.push { cls := .type "dict", data := .dict #[] }) scope.names }) :
  wpAny M A (newFunctionEnv scope globals closure [] qual func code (some around) builtins) Q E s := by
 simp only [newFunctionEnv, Option.isSome_some, if_true]
 refine wpAny_bind (wpAny_alloc ?_)
 refine wpAny_bind (wpAny_layCells _ (fun n k c => rfl) scope.names closure _ _ ?_)
 rw [show ({ s with heap := s.heap.push { cls := .type "dict", data := .dict #[] } } : Shared).heap.objs.size = s.heap.objs.size + 1 from Heap.size_push ..]
 rw [List.forIn_nil]
 exact wpAny_bind (wpAny_pure (wpAny_pure h))
theorem wV {sc : Scope} : ∀ {names : List (Str × NameKind)} {x : Str} {k : NameKind},
  (names.map fun (n, k) => if (k == NameKind.free && sc.kind == .function && sc.names.lookup n == some .cell) then (n, NameKind.cell) else (n, k)).lookup x = some k ->
  ∃ k', names.lookup x = some k' /\ (k = k' \/ (k' = .free /\ k = .cell))
 | [], _, _, h => by simp at h
 | (n, k₀) :: r, x, k, h => by
  have ih := @wV sc r x k
  have h' : List.lookup x ((if (k₀ == NameKind.free && sc.kind == .function && sc.names.lookup n == some .cell) = true then (n, NameKind.cell) else (n, k₀)) :: (r.map _)) = some k := h
  cases hx : x == n with
  | true =>
   simp only [List.lookup_cons, hx]
   by_cases hc : (k₀ == NameKind.free && sc.kind == .function && sc.names.lookup n == some .cell) = true
   ·rw [if_pos hc] at h'
    simp only [List.lookup_cons, hx] at h'
    cases h'
    simp only [Bool.and_eq_true, beq_iff_eq] at hc
    exact ⟨k₀, rfl, .inr ⟨hc.1.1, rfl⟩⟩
   ·rw [if_neg hc] at h'
    simp only [List.lookup_cons, hx] at h'
    cases h'
    exact ⟨_, rfl, .inl rfl⟩
  | false =>
   simp only [List.lookup_cons, hx]
   by_cases hc : (k₀ == NameKind.free && sc.kind == .function && sc.names.lookup n == some .cell) = true
   ·rw [if_pos hc] at h'
    simp only [List.lookup_cons, hx] at h'
    exact ih h'
   ·rw [if_neg hc] at h'
    simp only [List.lookup_cons, hx] at h'
    exact ih h'
structure Q3 (N : List Str) (sc scope : Scope) (own : List (Str × Nat)) : Prop where
 kind : scope.kind = .function
 uniq : ∀ y ∈ scope.names, scope.names.lookup y.1 = some y.2
 ix : ∀ p ∈ own, N[p.2]? = some p.1
 free : ∀ y ∈ scope.names, y.2 = .free -> sc.names.lookup y.1 = some .cell \/ sc.names.lookup y.1 = some .free
 own : ∀ y ∈ scope.names, y.2 = .local \/ y.2 = .cell -> y.1 ∈ own.map (·.1) \/ y.1 ∉ N
noncomputable def wipe (σ : St) : List Nat -> St
 | [] => σ
 | v :: vs => (wipe σ vs).set v none
theorem qL (σ : St) : ∀ vs : List Nat, (wipe σ vs).length = σ.length
 | [] => rfl
 | v :: vs => by unfold wipe; rw [List.length_set, qL σ vs]
theorem vn {σ : St} {i : Nat} {x : V} : ∀ {vs : List Nat}, (wipe σ vs)[i]? = some (some x) -> σ[i]? = some (some x) /\ i ∉ vs
 | [], h => ⟨h, by simp⟩
 | v :: vs, h => by
  unfold wipe at h
  by_cases hi : v = i
  ·subst hi
   by_cases hv : v < (wipe σ vs).length
   ·rw [List.getElem?_set_self hv] at h; cases h
   ·rw [List.getElem?_eq_none (by simpa using hv)] at h; cases h
  ·rw [List.getElem?_set_ne hi] at h
   obtain ⟨h1, h2⟩ := vn h
   exact ⟨h1, by simp only [List.mem_cons, not_or]; exact ⟨fun e => hi e.symm, h2⟩⟩
noncomputable abbrev Cx.blk (X : Cx) (s : Shared) (H : Hp) (scope : Scope) (cenv : Env) (fp : List Addr) : Cx := { X with s_0 := s, H_0 := H, env := cenv, outer := X.stack, ex := fp, fn := fun x => scope.names.lookup x == some .cell, pn := [], xe := fun _ _ => False }
section
variable {X : Cx} {pins : List (Addr × Obj)} {σ : St} {H : Hp} {s : Shared}
theorem jb {scope : Scope} {own : List (Str × Nat)} {fp : List Addr} (I : Inv X pins σ H s) (ok : Q3 X.N X.env.scope scope own) (hN : X.N.Nodup) (hfp : ∀ b ∈ fp, wJ X pins H b /\ b < s.heap.objs.size) :
  Inv (X.blk s H scope (compEnvC scope (cellsFrom (s.heap.objs.size + 1) scope.names (qi X.env.cells scope.names [])) s.heap.objs.size X.env) fp) [] (wipe σ (own.map (·.2))) H { s with heap := pushCells (s.heap.push { cls := .type "dict", data := .dict #[] }) scope.names } := by
 have hfree : ∀ y ∈ scope.names, y.2 = .free -> ∃ c, X.env.cells.lookup y.1 = some c := fun y hy e => by
  rcases ok.free y hy e with k | k
  ·exact I.ok.has _ (.inl k)
  ·exact I.ok.has _ (.inr k)
 generalize hcenv : compEnvC scope (cellsFrom (s.heap.objs.size + 1) scope.names (qi X.env.cells scope.names [])) s.heap.objs.size X.env = cenv
 have kp : ∀ b o, s.heap.get? b = some o -> (pushCells (s.heap.push { cls := .type "dict", data := .dict #[] }) scope.names).get? b = some o := fun b o e => pushCells_keeps _ _ _ _ (Heap.get?_push_of_some _ e)
 have hL : cenv.locals = s.heap.objs.size := by rw [<- hcenv]; rfl
 have hcl : cenv.cells = cellsFrom (s.heap.objs.size + 1) scope.names (qi X.env.cells scope.names []) := by rw [<- hcenv]; rfl
 have hsc : cenv.scope = U2 scope X.env.scope := by rw [<- hcenv]; rfl
 rw [<- Heap.size_push s.heap { cls := .type "dict", data := .dict #[] }] at hcl
 have cm : ∀ {y c}, (y, c) ∈ qi X.env.cells scope.names [] -> X.env.cells.lookup y = some c /\ c < s.heap.objs.size := fun {y c} hm => by
  rcases vo hm with hm | ⟨h1, rfl⟩
  ·cases hm
  ·obtain ⟨c, hc⟩ := hfree _ h1 rfl
   rw [hc]
   obtain ⟨w, z⟩ := I.cell _ _ hc
   exact ⟨rfl, z.lt⟩
 have mem : ∀ {y c}, cenv.cells.lookup y = some c -> (X.env.cells.lookup y = some c /\ c < s.heap.objs.size) \/ (s.heap.objs.size + 1 <= c /\ Za (pushCells (s.heap.push { cls := .type "dict", data := .dict #[] }) scope.names) c none) := fun {y c} e => by
  rw [hcl] at e
  rcases wy (PySem.mem_of_lookup e) with hm | ⟨_, h2, h3⟩
  ·exact .inl (cm hm)
  ·rw [Heap.size_push] at h2; exact .inr ⟨h2, h3⟩
 have look : ∀ {y}, scope.names.lookup y = some .free -> ∃ c, cenv.cells.lookup y = some c /\ X.env.cells.lookup y = some c := fun {y} hl => by
  have hy : (y, NameKind.free) ∈ scope.names := PySem.mem_of_lookup hl
  obtain ⟨c', e'⟩ := mem_lookup (zi (names := scope.names) (n := (s.heap.push { cls := .type "dict", data := .dict #[] }).objs.size) (vH (cells := X.env.cells) (acc := []) hy))
  rw [<- hcl] at e'
  refine ⟨c', e', ?_⟩
  rw [hcl] at e'
  rcases wy (PySem.mem_of_lookup e') with hm | ⟨h1, _, _⟩
  ·exact (cm hm).1
  ·have := ok.uniq _ h1
   rw [hl] at this; cases this
 have okB : (X.blk s H scope cenv fp).Ok := by
  refine ⟨I.ok.mod, by show cenv.scope.kind = _; rw [hsc]; exact ok.kind, by show cenv.globals = _; rw [<- hcenv]; exact I.ok.glob, by show cenv.builtins = _; rw [<- hcenv]; exact I.ok.blt, by show s.heap.objs.size <= cenv.locals; rw [hL]; exact Nat.le_refl _,
   fun y z c e1 e2 => ?_, fun y hy => ?_, fun y c z e => ?_, I.ok.hd, I.ok.frames, .inl rfl, fun b hb => ⟨?_, fun y c e z => ?_⟩, I.bs, Nat.le_trans I.ok.bsz I.sz, fun b o e hb => ?_, fun b hb z => ?_, I.stack, I.yF⟩
  ·have e1 : cenv.cells.lookup y = some c := e1
   have e2 : cenv.cells.lookup z = some c := e2
   rw [hcl] at e1 e2
   refine ye (fun p hp => ?_) (fun y z c a b => I.ok.inj y z c (cm a).1 (cm b).1) (PySem.mem_of_lookup e1) (PySem.mem_of_lookup e2)
   rw [Heap.size_push]
   exact Nat.lt_succ_of_lt (cm (y := p.1) (c := p.2) hp).2
  ·show ∃ c, cenv.cells.lookup y = some c
   have key : ∀ k, cenv.kindOf y = some k -> (k = .cell \/ k = .free) -> ∃ c, cenv.cells.lookup y = some c := fun k hk hk' => by
    unfold Env.kindOf at hk
    rw [hsc] at hk
    obtain ⟨k', e, r⟩ := wV hk
    have : k' = .cell \/ k' = .free := by
     rcases r with rfl | ⟨rfl, _⟩
     ·exact hk'
     ·exact .inr rfl
    rcases this with rfl | rfl
    ·obtain ⟨c, hm⟩ := yc (n := (s.heap.push { cls := .type "dict", data := .dict #[] }).objs.size) (acc := qi X.env.cells scope.names []) (PySem.mem_of_lookup e)
     obtain ⟨c', e'⟩ := mem_lookup hm
     exact ⟨c', by rw [hcl]; exact e'⟩
    ·obtain ⟨c, h1, _⟩ := look e
     exact ⟨c, h1⟩
   rcases hy with hy | hy
   ·exact key _ hy (.inl rfl)
   ·exact key _ hy (.inr rfl)
  ·have z : (scope.names.lookup y == some NameKind.cell) = true := z
   have z : scope.names.lookup y = some .cell := by simpa using z
   have e : cenv.cells.lookup y = some c := e
   rw [hcl] at e
   rcases wy (PySem.mem_of_lookup e) with hm | ⟨_, h2, _⟩
   ·rcases vo hm with hm | ⟨h1, _⟩
    ·cases hm
    ·have q := ok.uniq _ h1
     rw [z] at q; cases q
   ·rw [Heap.size_push] at h2
    exact Nat.le_of_succ_le h2
  ·show b ≠ cenv.locals
   rw [hL]; exact Nat.ne_of_lt (hfp b hb).2
  ·have e : cenv.cells.lookup y = some c := e
   rcases mem e with ⟨h1, _⟩ | ⟨h1, _⟩
   ·exact (hfp b hb).1.2.2.2.2.1 y c h1 z
   ·have h2 : s.heap.objs.size + 1 <= b := by rw [<- z]; exact h1
    exact absurd (Nat.lt_of_lt_of_le (hfp b hb).2 (Nat.le_of_succ_le h2)) (Nat.lt_irrefl _)
  ·rcases (hfp b hb).1.2.2.2.1 with z | z
   ·exact I.ok.noex b o e z
   ·exact absurd (Nat.lt_of_lt_of_le (Heap.lt_size e) (Nat.le_trans I.ok.bsz z)) (Nat.lt_irrefl _)
  ·rcases List.mem_cons.mp (I.vQ b z) with z | z
   ·exact (hfp b hb).1.2.1 z
   ·exact (hfp b hb).1.2.2.1 z
 refine ⟨okB, rfl, I.bare, Un.kept kp, ⟨fun _ => none, ?_, fun i y av e1 e2 e3 => ?_⟩, fun y c e => ?_, ?_, fun y c e => ?_, fun p hp => ?_, I.hok.kept kp, by rw [qL]; exact I.len⟩
 ·show Heap.Ns _ cenv.locals _
  rw [hL]
  exact Heap.Ns.keeps (Heap.Ns.new ..) fun b o e => pushCells_keeps _ _ _ _ e
 ·obtain ⟨e2, hne⟩ := vn e2
  have hfr : scope.names.lookup y = some .free /\ (cenv.kindOf y = some .cell \/ cenv.kindOf y = some .free) := by
   have key : ∀ k, cenv.scope.names.lookup y = some k -> k = .local \/ k = .cell \/ k = .free -> scope.names.lookup y = some .free /\ (cenv.kindOf y = some .cell \/ cenv.kindOf y = some .free) := fun k hk hk' => by
    have hk0 := hk
    rw [hsc] at hk
    obtain ⟨k', e, r⟩ := wV hk
    have no : ¬ (k' = .local \/ k' = .cell) := fun hh => by
     rcases ok.own _ (PySem.mem_of_lookup e) hh with e' | e'
     ·obtain ⟨p, hp, hpy⟩ := List.mem_map.mp e'
      have e3 := ok.ix p hp
      have : p.1 = y := hpy
      rw [this] at e3
      exact hne (List.mem_map.mpr ⟨p, hp, xC hN e3 e1⟩)
     ·exact e' (List.mem_of_getElem? e1)
    rcases r with rfl | ⟨rfl, rfl⟩
    ·rcases hk' with rfl | rfl | rfl
     ·exact absurd (.inl rfl) no
     ·exact absurd (.inr rfl) no
     ·exact ⟨e, .inr hk0⟩
    ·exact ⟨e, .inl hk0⟩
   have e3 : Vis cenv.scope y := e3
   rcases e3 with e3 | e3 | e3
   ·exact key _ e3 (.inl rfl)
   ·exact key _ e3 (.inr (.inl rfl))
   ·exact key _ e3 (.inr (.inr rfl))
  obtain ⟨m, hn, hl⟩ := I.loc
  have hvis : Vis X.env.scope y := (ok.free _ (PySem.mem_of_lookup hfr.1) rfl).elim (fun k => .inr (.inl k)) (fun k => .inr (.inr k))
  obtain ⟨w, r, q⟩ := hl i y av e1 e2 hvis
  refine ⟨w, r, .inr ⟨hfr.2, ?_⟩⟩
  obtain ⟨c, h1, h2⟩ := look hfr.1
  rcases q with ⟨k, _⟩ | ⟨_, c', e', z⟩
  ·have k : X.env.scope.names.lookup y = some .local := k
   rcases ok.free _ (PySem.mem_of_lookup hfr.1) rfl with k' | k' <;> rw [show X.env.scope.names.lookup y = _ from k'] at k <;> cases k
  ·rw [h2] at e'; cases e'
   exact ⟨c, h1, z.keeps kp⟩
 ·have e : cenv.cells.lookup y = some c := e
  rcases mem e with ⟨h1, _⟩ | ⟨_, z⟩
  ·obtain ⟨w, z⟩ := I.cell y c h1
   exact ⟨w, z.keeps kp⟩
  ·exact ⟨_, z⟩
 ·show H cenv.locals = none
  rw [hL]; exact I.hok.fresh (Nat.le_refl _)
 ·have e : cenv.cells.lookup y = some c := e
  rcases mem e with ⟨h1, _⟩ | ⟨h1, _⟩
  ·exact I.freeC y c h1
  ·exact I.hok.fresh (Nat.le_of_succ_le h1)
 ·exact absurd (show p ∈ ([] : List (Addr × Obj)) ++ [] from hp) (by simp)
theorem Xi {E : Value -> Shared -> Prop} {D : Addr} {xs : List V} {y : V} {v : Value} {Q : Value -> Shared -> Prop} (I : Inv X pins σ H s) (hD : H D = some (.lst xs)) (hz : xs.length < sizeLine) (r : RelV y v)
  (h : ∀ s', Inv X pins σ (upd H D (.lst (xs ++ [y]))) s' -> Q .none s') : wpAny (model X.prog X.w) X.A (call (.builtin "list.append") [.ref D, v]) Q E s := by
 obtain ⟨hz', its, n, ri, e⟩ := I.hok D _ hD
 have hl := ri.length
 refine append_at (hsz := by rw [List.size_toArray]; lia) e fun h' sb ho' => ?_
 refine h { s with heap := h' } (I.write (t' := s.toks) (by rw [hD]; trivial) (.inl rfl) (fun b u hb q => (sb.2 b hb).trans q) ⟨_, ho'⟩ ⟨by rw [List.length_append]; exact hz, its ++ [v], n + 1, ri.append (.cons r .nil), ?_⟩)
 rw [ho']
 simp
noncomputable def PTs (X : Cx) (ifs : List Expr) (t : TT) : Prop :=
 ∀ (pins : List (Addr × Obj)) (s : Shared) (σ : St) (H : Hp) (Q : Bool -> Hp -> Prop), Inv X pins σ H s -> t σ H Q ->
  wpAny (model X.prog X.w) X.A (forIn ifs true fun c r => if r = true then do let ok <- isTrue c X.env (eval c X.env); pure (ForInStep.yield ok) else pure (ForInStep.yield r)) (TP X pins σ Q) X.xe s
noncomputable def wO : TT := fun _ H Q => Q true H
theorem Ze : PTs X [] wO := fun _ _ _ H _ I h => wpAny_tests_nil ⟨H, I, h⟩
end
theorem YI {α : Type} {t : Sem α} {Q Q' : α -> Shared -> Prop} {M : Model} {A : Around} {E : Value -> Shared -> Prop} {s : Shared} (h : wpAny M A t Q (fun _ _ => False) s) (hQ : ∀ a s, Q a s -> Q' a s) : wpAny M A t Q' E s := wpAny_mono h hQ fun _ _ z => False.elim z
theorem ux {prog : Program} {w : World} {A : Around} {R : Result -> Shared -> Prop} {s : Shared} {elt target iter : Expr} {ifs : List Expr} {scope : Scope} {pos : Pos} {it acc : Value} {env : Env} (I : Nat -> Shared -> Prop)
  (turn : ∀ n s, I n s -> wpAny (model prog w) A (pyNext it) (fun r s₁ => match r with
   | none => R (.ok .next) s₁
   | some v => wpAny (model prog w) A (letOwnedTupleGo target it v) (fun _ s₁' => wpAny (model prog w) A (assign target env v) (fun _ s₂ =>
     wpAny (model prog w) A (forIn ifs true fun c r => if r = true then do let ok <- isTrue c env (eval c env); pure (ForInStep.yield ok) else pure (ForInStep.yield r)) (fun ok s₃ =>
      if ok = true then wpAny (model prog w) A (eval elt env) (fun x s₄ =>
       wpAny (model prog w) A (call (.builtin "list.append") [acc, x]) (fun _ s₅ => ∃ m, m < n /\ I m s₅) (notedBy (model prog w) A env fun e s' => R (.error e) s') s₄) (notedBy (model prog w) A env fun e s' => R (.error e) s') s₃
      else ∃ m, m < n /\ I m s₃) (notedBy (model prog w) A env fun e s' => R (.error e) s') s₂) (notedBy (model prog w) A env fun e s' => R (.error e) s') s₁') (notedBy (model prog w) A env fun e s' => R (.error e) s') s₁) (notedBy (model prog w) A env fun e s' => R (.error e) s') s)
  (n : Nat) (h : I n s) :
  codeAny (model prog w) A (.compLoop (.ListComp elt [⟨target, iter, ifs, 0⟩] scope pos) 0 it acc env) R s := by
 refine codeAny_loop rfl I (fun n s hI => ?_) n h
 show wpAny _ A ((compTurn (.ListComp elt [⟨target, iter, ifs, 0⟩] scope pos) 0 it acc env).onRaise (fun x => do noteFrame x env; theTreesLotGoes x)) _ _ s
 refine wpAny_noted ?_
 rw [compTurn_list]
 refine wpAny_bind (wpAny_standAt (wpAny_bind (wpAny_mono (turn n s hI) (fun r s₁ h₁ => ?_) fun _ _ h' => h')))
 cases r with
 | none => exact wpAny_pure h₁
 | some v =>
  refine wpAny_bind (wpAny_mono h₁ (fun _ s₁' h₁' => ?_) fun _ _ h' => h')
  refine wpAny_bind (wpAny_mono h₁' (fun _ s₂ h₂ => wpAny_bind (wpAny_mono h₂ (fun ok s₃ h₃ => ?_) fun _ _ h' => h')) fun _ _ h' => h')
  cases ok with
  | false => exact wpAny_pure ⟨rfl, h₃⟩
  | true =>
   exact wpAny_bind (wpAny_bind (wpAny_mono h₃ (fun x s₄ h₄ => wpAny_bind (wpAny_mono h₄ (fun _ s₅ h₅ => wpAny_pure (wpAny_pure ⟨rfl, h₅⟩)) fun _ _ h' => h')) fun _ _ h' => h'))
section
variable {X : Cx}
noncomputable def tLc (wi : TI) (g : TG) (tt : TT) (te : TE) (vs : List Nat) : TE := fun σ H Q => wi σ H fun J H1 => ∀ D, H1 D = none -> ∃ W : Nat -> Nat -> Hp -> Prop, (∃ m, W 0 m (upd H1 D (.lst []))) /\ ∀ i m H, W i m H ->
 (J.stop i H /\ Q (.ref D) H) \/ (J.go i H /\ ∃ Nx : Hp -> Prop, (∀ H', Nx H' -> ∃ m', m' < m /\ W (i + 1) m' H') /\ ∀ x H', J.yld i H x H' -> g x (wipe σ vs) H' fun σ2 H2 => wipe σ2 vs = wipe σ vs /\ tt σ2 H2 fun b H3 =>
  if b = true then te σ2 H3 fun y H4 => ∃ acc, H4 D = some (.lst acc) /\ acc.length < sizeLine /\ Nx (upd H4 D (.lst (acc ++ [y]))) else Nx H3)
end
noncomputable def jy (N : List Str) (sc scope : Scope) (own : List (Str × Nat)) : Bool :=
 (match scope.kind with | .function => true | _ => false) && (scope.names.all fun y => decide (scope.names.lookup y.1 = some y.2)) && (own.all fun p => decide (N[p.2]? = some p.1)) &&
  (scope.names.all fun y => match y.2 with
   | .free => (match sc.names.lookup y.1 with | some .cell => true | some .free => true | _ => false)
   | .local => decide (y.1 ∈ own.map (·.1)) || decide (y.1 ∉ N)
   | .cell => decide (y.1 ∈ own.map (·.1)) || decide (y.1 ∉ N)
   | _ => true)
theorem WW {N : List Str} {sc scope : Scope} {own : List (Str × Nat)} (h : jy N sc scope own = true) : Q3 N sc scope own := by
 unfold jy at h
 simp only [Bool.and_eq_true, List.all_eq_true, decide_eq_true_eq] at h
 obtain ⟨⟨⟨h1, h2⟩, h3⟩, h4⟩ := h
 refine ⟨?_, h2, h3, fun y hy e => ?_, fun y hy e => ?_⟩
 ·split at h1
  ·assumption
  ·cases h1
 ·have q := h4 y hy
  simp only [e] at q
  split at q <;> first | exact .inl (by assumption) | exact .inr (by assumption) | cases q
 ·have q := h4 y hy
  rcases e with e | e <;> (simp only [e, Bool.or_eq_true, decide_eq_true_eq] at q; exact q)
theorem w4 {σ : St} {i : Nat} : ∀ {vs : List Nat}, i ∉ vs -> (wipe σ vs)[i]? = σ[i]?
 | [], _ => rfl
 | v :: vs, h => by
  have h1 : v ≠ i := fun e => h (by rw [e]; exact List.mem_cons_self)
  have h2 : i ∉ vs := fun m => h (List.mem_cons_of_mem _ m)
  unfold wipe
  rw [List.getElem?_set_ne h1]
  exact w4 h2
section
variable {X : Cx} {pins : List (Addr × Obj)} {σ : St} {H : Hp} {s : Shared} {h' : Heap}
theorem Inv.ZM {t' : Nat} {ch : List Addr} (I : Inv X pins σ H s) (k : ∀ b o, b ∉ ch -> s.heap.get? b = some o -> h'.get? b = some o) (hf : ∀ b ∈ ch, wJ X pins H b) : Inv X pins σ H { s with heap := h', toks := t' } := by
 have nit : ∀ b u, H b = some u -> b ∉ ch := fun b u e z => by
  have q := (hf b z).1
  rw [q] at e; cases e
 refine I.step (g' := s.gens) (d' := s.drawn) (ch := ch) (fun b hb => ⟨(hf b hb).2.2.2.1, (hf b hb).2.1, (hf b hb).2.2.2.2.1, (hf b hb).2.2.2.2.2⟩) (fun b o _ _ hc e _ => k b o hc e) (fun b o _ _ hc e _ => ⟨o.slots, k b o hc e⟩)
  (fun _ _ _ _ n => n) (fun b o hc e => ⟨o, k b o hc e⟩) (fun _ _ e => e) (fun _ _ _ e => e) (fun b ps e => ⟨#[], by rw [e]; simp⟩) (fun m hm => ?_) (fun b u e => ?_) I.bare
 ·obtain ⟨o, es, ep, ho, r⟩ := hm
  exact ⟨o, es, ep, k _ o (fun z => (hf _ z).2.1 rfl) ho, r⟩
 ·refine (I.hok b u e).xO (fun c v hc q => k c v ?_ q) (fun _ q => q) fun _ _ q => q
  rcases hc with z | z
  ·rw [z]; exact nit b u e
  ·exact nit c _ z
theorem Inv.Vh {t' : Nat} {ch : List Addr} {T : Addr} {ob : HO} (I : Inv X pins σ H s) (k : ∀ b o, b ∉ ch -> s.heap.get? b = some o -> h'.get? b = some o) (hf : ∀ b ∈ ch, wJ X pins H b) (hT : s.heap.objs.size <= T)
  (new : vI X.prog X.w (upd H T ob) h' T ob) : Inv X pins σ (upd H T ob) { s with heap := h', toks := t' } := by
 have hn : H T = none := I.hok.fresh hT
 have nit : ∀ b u, H b = some u -> b ∉ ch := fun b u e z => by
  have q := (hf b z).1
  rw [q] at e; cases e
 refine I.step (g' := s.gens) (d' := s.drawn) (ch := ch) (fun b hb => ⟨(hf b hb).2.2.2.1, (hf b hb).2.1, (hf b hb).2.2.2.2.1, (hf b hb).2.2.2.2.2⟩) (fun b o _ _ hc e _ => k b o hc e) (fun b o _ _ hc e _ => ⟨o.slots, k b o hc e⟩)
  (fun b o _ e n => ?_) (fun b o hc e => ⟨o, k b o hc e⟩) (fun b xs e => ?_) (fun b o u e => ?_) (fun b ps e => ⟨#[], ?_⟩) (fun m hm => ?_) (fun b u e => ?_) I.bare
 ·rw [qe (Nat.ne_of_lt (Nat.lt_of_lt_of_le (Heap.lt_size e) hT))]; exact n
 ·rw [qe (qp e hn)]; exact e
 ·rw [qe (qp e hn)]; exact e
 ·rw [qe (qp e hn), e]; simp
 ·obtain ⟨o, es, ep, ho, r⟩ := hm
  exact ⟨o, es, ep, k _ o (fun z => (hf _ z).2.1 rfl) ho, r⟩
 ·by_cases hb : b = T
  ·subst hb
   rw [qo] at e
   cases e
   exact new
  ·rw [qe hb] at e
   refine (I.hok b u e).xO (fun c v hc q => k c v ?_ q) (fun c q => by rw [qe (qp q hn)]; exact q) fun c xs q => by rw [qe (qp q hn)]; exact q
   rcases hc with z | z
   ·rw [z]; exact nit b u e
   ·exact nit c _ z
end
section
variable {X : Cx}
theorem YM {tg : Expr} {pins : List (Addr × Obj)} {σ : St} {H : Hp} {s : Shared} {R : It -> Hp -> Prop} {J : It} {tn : Nat -> Heap -> Prop} {tk : Nat} (I : Inv X pins σ H s) (o : Obj)
  (T : Turn X.prog X.w X.K tg J [s.heap.objs.size] s.heap.objs.size tn) (st : tn 0 (s.heap.push o)) (q : R J H) : PIE X pins σ tg R (.ref s.heap.objs.size) { s with heap := s.heap.push o, toks := tk } := by
 refine ⟨s.heap.objs.size, [s.heap.objs.size], tn, J, H, rfl, I.kept fun b ob e => Heap.get?_push_of_some _ e, T, st, fun b hb => ?_, q⟩
 have e : b = s.heap.objs.size := by simpa using hb
 subst e
 exact I.QC (Nat.le_refl _) (I.hok.fresh (Nat.le_refl _))
end
noncomputable def Itc (lo c : Int) (n : Nat) : It := ⟨fun i _ => i < n, fun i H x H' => H' = H /\ x = .int (lo + (i : Nat) * c), fun i _ => n <= i⟩
theorem jQ {P : Program} {w : World} {K : PySem.W.Frag} {tg : Expr} (it : Addr) (lo c : Int) (n : Nat) : Turn P w K tg (Itc lo c n) [it] it (fun i h => IsRangeIter h it (lo + (i : Nat) * c) ((n : Int) - (i : Nat)) c) where
 mem := by simp
 obj := fun i h st b hb => by
  have e : b = it := by simpa using hb
  subst e
  exact ⟨_, st, fun v z => nomatch z⟩
 keep := fun i h h' st k => k it (by simp) _ st
 item := by
  intro X hP hw hK hc i pins s σ H E I hf st hg
  subst hP hw hK
  obtain ⟨f0, f1, f2, f3, f4, f5⟩ := hf it (by simp)
  have W := Walks.range (prog := X.prog) (w := X.w) (I.ok.hd hc) it lo c n
  refine W.item i s _ _ hg st fun v h' tk hv st' kk => ?_
  obtain ⟨t, rfl⟩ := hv
  have I1 : Inv X pins σ H { s with heap := h', toks := tk } := I.turned (fun b o hb e => kk b o (by simpa using hb) e) f0 f1 f3 f4 f5
  exact ⟨_, rfl, WZ (s := { s with heap := h', toks := tk }) (n := "range_iterator") st' rfl rfl (by decide) ⟨.int (lo + (i : Nat) * c), H, I1, ⟨t, rfl⟩, ⟨rfl, rfl⟩, st', fun b hb => (hf b hb).1⟩⟩
 done := by
  intro X hP hw hK hc i pins s σ H E I hf st hg
  subst hP hw hK
  obtain ⟨f0, f1, f2, f3, f4, f5⟩ := hf it (by simp)
  exact wpAny_pyNext_range_end (I.ok.hd hc) st (by have : n <= i := hg; lia) fun h' eb => ⟨rfl, I.turned (t' := s.toks) (fun b o hb e => eb b o hb e) f0 f1 f3 f4 f5⟩
 self := fun A i s Q E st h => wpAny_pyIter_rangeiter st h
noncomputable def RgC (i j c : Int) (n : Nat) : Prop := c ≠ 0 /\ c.natAbs < 1073741824 /\ Builtin.Range.small i j c = true /\ Builtin.Range.rangeSize i j c = n
theorem RgC.neg {i j : Int} (ha : -(2 ^ 62) <= i) (ha' : i < 2 ^ 62) (hb : -(2 ^ 62) <= j) (hb' : j < 2 ^ 62) : RgC i j (-1) (i - j).toNat :=
 ⟨by decide, by decide, PySem.W.small_down ha ha' hb hb', PySem.W.rangeSize_downNat i j⟩
noncomputable def Uh (ta : TA) : TI := fun σ H R => ta σ H fun vs H1 => ∃ (i j c : Int) (n : Nat), vs = [.int i, .int j, .int c] /\ RgC i j c n /\ R (Itc i c n) H1
section
variable {X : Cx} {tg : Expr}
theorem VN {a b c : Expr} {ta : TA} {p pos : Pos} (hg : Gl X "range") (hm : X.mg "range" = none) (ha : PA X [a, b, c] ta)
  (hs : autoParam (starEach [a, b, c] X.env = (false, eval a X.env) :: starEach [b, c] X.env) qj._auto_1) (hpl : autoParam ((backTo pos (starEach [b, c] X.env)).any (·.1) = false) qj._auto_1) :
  PI X tg (.Call (.Name "range" p) [a, b, c] [] pos) (Uh ta) := by
 intro pins s σ H R I h
 refine Call_ (z6 I hg hm boot_range (PyProof.Rows.callWith_type1 (thn (ha pos pins s σ H _ I h) fun us s1 ⟨vs, H1, I1, r1, q1⟩ => ?_) hs hpl))
 obtain ⟨i, j, k, n, e, ⟨c0, c1, c2, c3⟩, q⟩ := q1
 subst e
 cases r1 with
 | cons r rr =>
  cases rr with
  | cons r' rr =>
   cases rr with
   | cons r'' rr =>
    cases rr
    obtain ⟨t, rfl⟩ := r
    obtain ⟨t', rfl⟩ := r'
    obtain ⟨t'', rfl⟩ := r''
    refine call_range_3 c0 ?_ (.inl (PyProof.noPylong_small c1))
    refine wpAny_pyIter_range (IsRange.new ..) c2 ?_
    have I2 : Inv X pins σ H1 { s1 with heap := s1.heap.push { cls := .type "range", data := .fields #[.int i t, .int j t', .int k t''] } } := I1.kept (t' := s1.toks) fun b o e => Heap.get?_push_of_some _ e
    refine YM (tk := s1.toks) I2 _ (jQ _ i k n) ?_ q
    have e1 : i + ((0 : Nat) : Int) * k = i := by simp
    have e2 : (n : Int) - ((0 : Nat) : Int) = Builtin.Range.rangeSize i j k := by rw [c3]; simp
    show IsRangeIter _ _ (i + ((0 : Nat) : Int) * k) ((n : Int) - ((0 : Nat) : Int)) k
    rw [e1, e2]
    exact Heap.get?_push_size _ rfl
end
theorem VS : bootBuiltins "zip" = some (.type "zip") := by decide +kernel
noncomputable def Itz (K : PySem.W.Frag) (a b : Addr) : It :=
 ⟨fun i H => ∃ (xs ys : List V) (x y : V), SqL K H a xs /\ SqL K H b ys /\ xs[i]? = some x /\ ys[i]? = some y,
  fun i H v H' => ∃ T x y, v = .ref T /\ H T = none /\ H' = upd H T (.tup [x, y]) /\ (∀ xs, SqL K H a xs -> xs[i]? = some x) /\ ∀ ys, SqL K H b ys -> ys[i]? = some y,
  fun i H => ∃ xs ys : List V, SqL K H a xs /\ SqL K H b ys /\ (xs.length <= i \/ ys.length <= i)⟩
theorem Wx {P : Program} {w : World} {K : PySem.W.Frag} {elts : List Expr} {kk : Nat} {tpos : Pos} {a b z TI TO i1 i2 : Addr} (D : ZipApart z TI TO i1 i2 a b) :
  Turn P w K (.Tuple elts kk tpos) (Itz K a b) [z, TI, TO, i1, i2] z (fun i h => IsZip h z TI TO .none /\ IsPair h TI (.ref i1) (.ref i2) /\ (∃ x y, IsPair h TO x y) /\ h.IsListIter i1 a i /\ h.IsListIter i2 b i) where
 mem := by simp
 obj := fun i h st c hc => by
  obtain ⟨hz, hTI, ⟨x, y, hTO⟩, ⟨o1, e1, _, d1⟩, ⟨o2, e2, _, d2⟩⟩ := st
  have e' : c = z \/ c = TI \/ c = TO \/ c = i1 \/ c = i2 := by simpa using hc
  rcases e' with q | q | q | q | q
  ·rw [q]; exact ⟨_, hz, fun v q => nomatch q⟩
  ·rw [q]; exact ⟨_, hTI, fun v q => nomatch q⟩
  ·rw [q]; exact ⟨_, hTO, fun v q => nomatch q⟩
  ·rw [q]; exact ⟨o1, e1, fun v q => by rw [d1] at q; cases q⟩
  ·rw [q]; exact ⟨o2, e2, fun v q => by rw [d2] at q; cases q⟩
 keep := fun i h h' st k => by
  obtain ⟨hz, hTI, ⟨x, y, hTO⟩, h1, h2⟩ := st
  exact ⟨k z (by simp) _ hz, k TI (by simp) _ hTI, ⟨x, y, k TO (by simp) _ hTO⟩, h1.at fun o q => k i1 (by simp) o q, h2.at fun o q => k i2 (by simp) o q⟩
 item := by
  intro X hP hw hK hc i pins s σ H E I hf st hg
  subst hP hw hK
  obtain ⟨hz, hTI, ⟨x0, y0, hTO⟩, h1, h2⟩ := st
  obtain ⟨xs, ys, x, y, hqx, hqy, hx, hy⟩ := hg
  obtain ⟨its, rv, p, _⟩ := I.list hqx
  obtain ⟨its2, rv2, p2, _⟩ := I.list hqy
  obtain ⟨u, hu, ru⟩ := rv.get hx
  obtain ⟨u2, hu2, ru2⟩ := rv2.get hy
  have hzl : z < s.heap.objs.size := Heap.lt_size hz
  refine wpAny_pyNext_zip_item D hz hTI hTO h1 h2 p.isList p2.isList (x := u) (y := u2) (by simpa using hu) (by simpa using hu2) fun h' z' TO' h1' h2' hT hsz hk => ?_
  refine ⟨_, rfl, wpAny_letOwnedTupleGo_zip (s := { s with heap := h' }) z' fun h'' z'' sb => ?_⟩
  have hT2 : h''.get? s.heap.objs.size = some { cls := .type "tuple", data := .seq #[u, u2] } := (sb.2 _ (Nat.ne_of_gt hzl)).trans hT
  have new : vI X.prog X.w (upd H s.heap.objs.size (.tup [x, y])) h'' s.heap.objs.size (.tup [x, y]) :=
   ⟨by show 2 <= sizeLine; decide, [u, u2], .cons ru (.cons ru2 .nil), ⟨_, hT2, rfl, _, rfl⟩⟩
  have I1 : Inv X pins σ (upd H s.heap.objs.size (.tup [x, y])) { s with heap := h'' } :=
   I.Vh (t' := s.toks) (ch := [z, TI, TO, i1, i2]) (fun c o hb q => (sb.2 c (fun q' => hb (by simp [q']))).trans (hk c o (fun q' => hb (by simp [q'])) (fun q' => hb (by simp [q'])) (fun q' => hb (by simp [q'])) (fun q' => hb (by simp [q'])) q)) hf (Nat.le_refl _) new
  refine ⟨.ref s.heap.objs.size, _, I1, rfl, ⟨_, x, y, rfl, I.hok.fresh (Nat.le_refl _), rfl, fun l hl => by rw [I.xq hl hqx]; exact hx, fun l hl => by rw [I.xq hl hqy]; exact hy⟩, ⟨z'', ?_, ⟨u, u2, ?_⟩, ?_, ?_⟩, fun c hcm => ?_⟩
  ·exact (sb.2 _ D.TIz).trans (hk _ _ D.TIz D.TITO D.TIi1 D.TIi2 hTI)
  ·exact (sb.2 _ D.TOz).trans TO'
  ·exact h1'.at fun o q => (sb.2 _ D.i1z).trans q
  ·exact h2'.at fun o q => (sb.2 _ D.i2z).trans q
  ·have hlt : c < s.heap.objs.size := by
    have e' : c = z \/ c = TI \/ c = TO \/ c = i1 \/ c = i2 := by simpa using hcm
    rcases e' with q | q | q | q | q
    ·rw [q]; exact hzl
    ·rw [q]; exact Heap.lt_size hTI
    ·rw [q]; exact Heap.lt_size hTO
    ·rw [q]; obtain ⟨_, e1, _⟩ := h1; exact Heap.lt_size e1
    ·rw [q]; obtain ⟨_, e2, _⟩ := h2; exact Heap.lt_size e2
   rw [qe (Nat.ne_of_lt hlt)]
   exact (hf c hcm).1
 done := by
  intro X hP hw hK hc i pins s σ H E I hf st hg
  subst hP hw hK
  obtain ⟨hz, hTI, ⟨x0, y0, hTO⟩, h1, h2⟩ := st
  obtain ⟨xs, ys, hqx, hqy, hend⟩ := hg
  obtain ⟨its, rv, p, _⟩ := I.list hqx
  obtain ⟨its2, rv2, p2, _⟩ := I.list hqy
  have l1 := rv.length
  have l2 := rv2.length
  have he : its.toArray[i]? = none \/ its2.toArray[i]? = none := by
   rcases hend with q | q
   ·exact .inl (by simp; lia)
   ·exact .inr (by simp; lia)
  exact wpAny_pyNext_zip_end (I.ok.hd hc) D hz hTI hTO h1 h2 p.isList p2.isList he fun h' hk => ⟨rfl, I.ZM (t' := s.toks) (ch := [z, TI, TO, i1, i2]) (fun c o hb q =>
   hk c o (fun q' => hb (by simp [q'])) (fun q' => hb (by simp [q'])) (fun q' => hb (by simp [q'])) (fun q' => hb (by simp [q'])) q) hf⟩
 self := fun A i s Q E st h => wpAny_pyIter_zip st.1 h
noncomputable def V1 (K : PySem.W.Frag) (ta : TA) : TI := fun σ H R => ta σ H fun vs H1 => ∃ a b xs ys, vs = [.ref a, .ref b] /\ SqL K H1 a xs /\ SqL K H1 b ys /\ R (Itz K a b) H1
theorem XM {X : Cx} {e e2 : Expr} {ta : TA} {p pos tpos : Pos} {elts : List Expr} {kk : Nat} (hg : Gl X "zip") (hm : X.mg "zip" = none) (ha : PA X [e, e2] ta)
  (hs : autoParam (starEach [e, e2] X.env = (false, eval e X.env) :: starEach [e2] X.env) qj._auto_1) (hpl : autoParam ((backTo pos (starEach [e2] X.env)).any (·.1) = false) qj._auto_1) :
  PI X (.Tuple elts kk tpos) (.Call (.Name "zip" p) [e, e2] [] pos) (V1 X.K ta) := by
 intro pins s σ H R I h
 refine Call_ (z6 I hg hm VS (PyProof.Rows.callWith_type1 (thn (ha pos pins s σ H _ I h) fun us s1 ⟨vs, H1, I1, r1, q1⟩ => ?_) hs hpl))
 obtain ⟨a, b, xs, ys, ex, hqx, hqy, q⟩ := q1
 subst ex
 cases r1 with
 | cons r rr =>
  cases rr with
  | cons r' rr =>
   cases rr
   cases r
   cases r'
   obtain ⟨its, rv, p1, _⟩ := I1.list hqx
   obtain ⟨its2, rv2, p2, _⟩ := I1.list hqy
   have la : a < s1.heap.objs.size := p1.lt
   have lb : b < s1.heap.objs.size := p2.lt
   refine call_zip_2 p1.isList p2.isList fun h' hz hTI hTO h1 h2 hsz hk => wpAny_pyIter_zip hz ?_
   have I2 : Inv X pins σ H1 { s1 with heap := h' } := I1.kept (t' := s1.toks) hk
   refine ⟨s1.heap.objs.size + 4, [s1.heap.objs.size + 4, s1.heap.objs.size + 2, s1.heap.objs.size + 3, s1.heap.objs.size, s1.heap.objs.size + 1], _, _, H1, rfl, I2, Wx (PySem.W.ktu_apart s1.heap.objs.size a b la lb), ⟨hz, hTI, ⟨_, _, hTO⟩, h1, h2⟩, fun c hcm => ?_, q⟩
   have e' : c = s1.heap.objs.size + 4 \/ c = s1.heap.objs.size + 2 \/ c = s1.heap.objs.size + 3 \/ c = s1.heap.objs.size \/ c = s1.heap.objs.size + 1 := by simpa using hcm
   have hle : s1.heap.objs.size <= c := by
    rcases e' with z | z | z | z | z
    ·rw [z]; exact Nat.le_add_right _ _
    ·rw [z]; exact Nat.le_add_right _ _
    ·rw [z]; exact Nat.le_add_right _ _
    ·rw [z]; exact Nat.le_refl _
    ·rw [z]; exact Nat.le_add_right _ _
   exact I1.QC hle (I1.hok.fresh hle)
end L2
section 
namespace Bits
open PySem PyProof.Rows
theorem jx {x : Int} (k : Nat) (hx : 0 <= x) : Builtin.bitAnd x (2 ^ k - 1) = x % 2 ^ k := by
 obtain ⟨n, rfl⟩ := Int.eq_ofNat_of_zero_le hx
 have hp : 0 < 2 ^ k := Nat.two_pow_pos k
 rw [two_pow_cast]
 have e : ((2 ^ k : Nat) : Int) - 1 = ((2 ^ k - 1 : Nat) : Int) := by
  generalize (2 : Nat) ^ k = m at hp
  lia
 rw [e, bitAnd_pp (by lia) (by lia), Int.toNat_natCast, Int.toNat_natCast, Nat.and_two_pow_sub_one_eq_mod]
 first
  | rfl
  | exact Int.natCast_emod _ _
  | simp
end Bits
end 
section 
end 
section
set_option maxHeartbeats 2000000
namespace L2
open PySem PySem.Spec PyProof.Rows
open PySem.W (WData Codec OpenSpec Well WellAll ReadsW ReadsAllW)
mutual
/-- x stands for the datum d, lists and tuples all the way -/
inductive Dw (K : PySem.W.Frag) (H : Hp) : V -> WData -> Prop
 | non : Dw K H .non .none
 | bl (b : Bool) : Dw K H (.bl b) (.bool b)
 | int (i : Int) : Dw K H (.int i) (.int i)
 | str (x : Str) : Dw K H (.str x) (.str x)
 | byt (b : Array UInt8) : Dw K H (.byt b) (.bytes b.toList)
 | lst {a : Addr} {xs : List V} {ds : List WData} : SqL K H a xs -> vE K H xs ds -> Dw K H (.ref a) (.list ds)
 | tup {a : Addr} {xs : List V} {ds : List WData} : SqT K H a xs -> vE K H xs ds -> Dw K H (.ref a) (.tuple ds)
inductive vE (K : PySem.W.Frag) (H : Hp) : List V -> List WData -> Prop
 | nil : vE K H [] []
 | cons {v : V} {vs : List V} {d : WData} {ds : List WData} : Dw K H v d -> vE K H vs ds -> vE K H (v :: vs) (d :: ds)
end
theorem Q1 {K : PySem.W.Frag} {H : Hp} : ∀ ns : List Int, vE K H (ns.map V.int) (ns.map WData.int)
 | [] => .nil
 | n :: r => .cons (.int n) (Q1 r)
section
variable {P : Program} {w : World} {K : PySem.W.Frag} {H : Hp} {h : Heap} {R : PySem.W.WRecords} {cl : Str -> Option Addr}
theorem YX {a : Addr} {xs : List V} (hok : HOk P w H h) (KX : K.In h) (q : SqL K H a xs) : ∃ (its : List Value) (o : Obj) (n : Nat), Vals xs its /\ h.get? a = some o /\ o.cls = .type "list" /\ o.data = .seq its.toArray n := by
 rcases q with q | ⟨o, its, n, e, hc, _, hd, _, hv⟩
 ·obtain ⟨_, its, n, hv, e⟩ := (show vI P w H h a (.lst xs) from q.ok hok)
  exact ⟨its, _, n, hv, e, rfl, rfl⟩
 ·exact ⟨its.toList, o, n, hv, KX _ _ e, hc, by simp [hd]⟩
theorem XF {a : Addr} {xs : List V} (hok : HOk P w H h) (KX : K.In h) (q : SqT K H a xs) : ∃ (its : List Value) (o : Obj) (n : Nat), Vals xs its /\ h.get? a = some o /\ o.cls = .type "tuple" /\ o.data = .seq its.toArray n := by
 rcases q with q | ⟨o, its, n, e, hc, hd, _, hv⟩
 ·obtain ⟨_, its, hv, o, e, hc, n, hd⟩ := (show vI P w H h a (.tup xs) from q.ok hok)
  exact ⟨its, o, n, hv, e, hc, hd⟩
 ·exact ⟨its.toList, o, n, hv, KX _ _ e, hc, by simp [hd]⟩
mutual
theorem Dw.reads (hok : HOk P w H h) (KX : K.In h) : ∀ (d : WData) (v : V) (u : Value), Dw K H v d -> RelV v u -> ∃ as, ReadsW R cl h u d as
 | .none, _, _, x, r => by
  cases x
  cases r
  exact ⟨_, ReadsW.none⟩
 | .bool b, _, _, x, r => by
  cases x
  cases r
  exact ⟨_, ReadsW.bool b⟩
 | .int i, _, _, x, r => by
  cases x
  obtain ⟨t, rfl⟩ := r
  exact ⟨_, ReadsW.int i t⟩
 | .str s, _, _, x, r => by
  cases x
  obtain ⟨t, rfl⟩ := r
  exact ⟨_, ReadsW.str s t⟩
 | .bytes b, _, _, x, r => by
  cases x
  obtain ⟨t, rfl⟩ := r
  exact ⟨_, ReadsW.bytes _ t⟩
 | .list ds, _, _, x, r => by
  cases x with
  | lst hs ha =>
   cases r
   obtain ⟨its, o, n, rv, ho, hc, hd⟩ := YX hok KX hs
   obtain ⟨as, hr⟩ := Dw.readsAll hok KX ds _ its ha rv
   exact ⟨_, ReadsW.list ho hc hd hr⟩
 | .tuple ds, _, _, x, r => by
  cases x with
  | tup hs ha =>
   cases r
   obtain ⟨its, o, n, rv, ho, hc, hd⟩ := XF hok KX hs
   obtain ⟨as, hr⟩ := Dw.readsAll hok KX ds _ its ha rv
   exact ⟨_, ReadsW.tuple ho hc hd hr⟩
 | .float _, _, _, x, _ => by cases x
 | .dict _, _, _, x, _ => by cases x
 | .bytearray _, _, _, x, _ => by cases x
 | .set _, _, _, x, _ => by cases x
 | .frozenset _, _, _, x, _ => by cases x
 | .obj _ _, _, _, x, _ => by cases x
theorem Dw.readsAll (hok : HOk P w H h) (KX : K.In h) : ∀ (ds : List WData) (vs : List V) (us : List Value), vE K H vs ds -> Vals vs us -> ∃ as, ReadsAllW R cl h us ds as
 | [], _, _, x, r => by
  cases x
  cases r
  exact ⟨_, ReadsAllW.nil⟩
 | d :: ds, _, _, x, r => by
  cases x with
  | cons h1 h2 =>
   cases r with
   | cons r1 r2 =>
    obtain ⟨as, q1⟩ := Dw.reads hok KX d _ _ h1 r1
    obtain ⟨bs, q2⟩ := Dw.readsAll hok KX ds _ _ h2 r2
    exact ⟨_, ReadsAllW.cons q1 q2⟩
end
end
mutual
/-- data that a codec tells -/
noncomputable def plW : WData -> Bool
 | .none => true
 | .bool _ => true
 | .int _ => true
 | .str _ => true
 | .bytes _ => true
 | .list xs => yk xs
 | .tuple xs => yk xs
 | _ => false
noncomputable def yk : List WData -> Bool
 | [] => true
 | x :: r => plW x && yk r
end
theorem jS {α : Type} {f : α -> WData} (h : ∀ a, plW (f a) = true) : ∀ l : List α, yk (l.map f) = true
 | [] => rfl
 | x :: r => by
  show (plW (f x) && yk (r.map f)) = true
  rw [h x, jS h r] <;> rfl
theorem wR : ∀ (c : Codec) (a : c.denote), plW (c.enc a) = true
 | .unit, _ => rfl
 | .bool, _ => rfl
 | .int _ _, _ => rfl
 | .nat _ _, _ => rfl
 | .u8, _ => rfl
 | .bytes _ _, _ => rfl
 | .text _ _ _ _, _ => rfl
 | .list _ _ c, a => jS (fun x => wR c x) a
 | .pair c d, a => by
  show (plW (c.enc a.1) && (plW (d.enc a.2) && true)) = true
  rw [wR c a.1, wR d a.2] <;> rfl
 | .triple c d e, a => by
  show (plW (c.enc a.1) && (plW (d.enc a.2.1) && (plW (e.enc a.2.2) && true))) = true
  rw [wR c a.1, wR d a.2.1, wR e a.2.2] <;> rfl
 | .option c, none => rfl
 | .option c, some x => wR c x
theorem x6 : ∀ (cs : List Codec) (a : Codec.denoteAll cs), yk (Codec.encAll cs a) = true
 | [], _ => rfl
 | c :: cs, a => by
  show (plW (c.enc a.1) && yk (Codec.encAll cs a.2)) = true
  rw [wR c a.1, x6 cs a.2] <;> rfl
theorem zD : ∀ {xs : List WData} {d : WData}, d ∈ xs -> d.weight <= WData.weightAll xs
 | [], d, h => absurd h (by simp)
 | x :: r, d, h => by
  show d.weight <= x.weight + 1 + WData.weightAll r
  rcases List.mem_cons.mp h with e | m
  ·rw [e]
   lia
  ·have z := zD m
   lia
noncomputable def toV : Value -> V
 | .none => .non
 | .bool b => .bl b
 | .int i _ => .int i
 | .str x _ => .str x
 | .bytes b _ => .byt b
 | .ref a => .ref a
 | _ => .non
noncomputable def OkU (A : List Addr) : Value -> Prop
 | .none => True
 | .bool _ => True
 | .int _ _ => True
 | .str _ _ => True
 | .bytes _ _ => True
 | .ref a => a ∈ A
 | _ => False
theorem OkU.mono {A B : List Addr} (h : ∀ a ∈ A, a ∈ B) : ∀ {u : Value}, OkU A u -> OkU B u := fun {u} x => by
 cases u with
 | ref a => exact h a x
 | none => trivial
 | bool b => trivial
 | int i t => trivial
 | str s t => trivial
 | bytes b t => trivial
 | _ => exact False.elim x
theorem W3 {A : List Addr} {u : Value} (x : OkU A u) : RelV (toV u) u := by
 cases u with
 | ref a => rfl
 | none => rfl
 | bool b => rfl
 | int i t => exact ⟨t, rfl⟩
 | str s t => exact ⟨t, rfl⟩
 | bytes b t => exact ⟨t, rfl⟩
 | _ => exact False.elim x
theorem wq {A : List Addr} : ∀ {vs : List Value}, (∀ u ∈ vs, OkU A u) -> Vals (vs.map toV) vs
 | [], _ => .nil
 | u :: r, h => .cons (W3 (h u (List.mem_cons_self ..))) (wq fun x hx => h x (List.mem_cons_of_mem _ hx))
noncomputable def wI (h : Heap) (A : List Addr) (a : Addr) : Prop := ∃ vs : List Value, vs.length <= sizeLine /\ (∀ u ∈ vs, OkU A u) /\
 (h.get? a = some { cls := .type "list", data := .seq vs.toArray } \/ h.get? a = some { cls := .type "tuple", data := .seq vs.toArray })
theorem wI.mono {h : Heap} {A B : List Addr} {a : Addr} (k : ∀ a ∈ A, a ∈ B) (x : wI h A a) : wI h B a := by
 obtain ⟨vs, h1, h2, h3⟩ := x
 exact ⟨vs, h1, fun u hu => (h2 u hu).mono k, h3⟩
theorem wa {P : Params} {h : Heap} : ∀ {vs : List Value} {ds : List WData}, WellAll P h vs ds -> vs.length = ds.length
 | _, _, .nil => rfl
 | _, _, .cons _ b => by
  show _ + 1 = _ + 1
  rw [wa b]
theorem um {P : Params} {h : Heap} {v : Value} {ds : List WData} (x : Well P h v (.list ds)) : ∃ (a : Addr) (vs : List Value), v = .ref a /\ h.get? a = some { cls := .type "list", data := .seq vs.toArray } /\ WellAll P h vs ds := by
 cases x with
 | list ho hall => exact ⟨_, _, rfl, ho, hall⟩
theorem y3 {P : Params} {h : Heap} {v : Value} {ds : List WData} (x : Well P h v (.tuple ds)) : ∃ (a : Addr) (vs : List Value), v = .ref a /\ h.get? a = some { cls := .type "tuple", data := .seq vs.toArray } /\ WellAll P h vs ds := by
 cases x with
 | tuple ho hall => exact ⟨_, _, rfl, ho, hall⟩
theorem ub {P : Params} {h : Heap} {us : List Value} {d : WData} {ds : List WData} (x : WellAll P h us (d :: ds)) : ∃ (v : Value) (vs : List Value), us = v :: vs /\ Well P h v d /\ WellAll P h vs ds := by
 cases x with
 | cons a b => exact ⟨_, _, rfl, a, b⟩
theorem QS {n : Nat} (h : n <= 1048576) : n <= sizeLine := Nat.le_trans h (by decide)
section
variable {P : Params} {h : Heap}
mutual
theorem Wy : ∀ (d : WData) (v : Value), Well P h v d -> plW d = true -> d.weight <= 1048576 -> ∃ A : List Addr, OkU A v /\ ∀ a ∈ A, wI h A a
 | .none, _, x, _, _ => by
  cases x
  exact ⟨[], trivial, fun a m => absurd m (by simp)⟩
 | .bool b, _, x, _, _ => by
  cases x
  exact ⟨[], trivial, fun a m => absurd m (by simp)⟩
 | .int i, _, x, _, _ => by
  cases x
  exact ⟨[], trivial, fun a m => absurd m (by simp)⟩
 | .str s, _, x, _, _ => by
  cases x
  exact ⟨[], trivial, fun a m => absurd m (by simp)⟩
 | .bytes b, _, x, _, _ => by
  cases x
  exact ⟨[], trivial, fun a m => absurd m (by simp)⟩
 | .list ds, _, x, p, z => by
  obtain ⟨a, vs, rfl, ho, hall⟩ := um x
  have z2 : WData.weightAll ds <= 1048576 := z
  obtain ⟨A, h1, h2⟩ := zW ds _ hall p fun d hd => Nat.le_trans (zD hd) z2
  have k : ∀ b ∈ A, b ∈ a :: A := fun b hb => List.mem_cons_of_mem _ hb
  refine ⟨a :: A, List.mem_cons_self .., fun b hb => ?_⟩
  rcases List.mem_cons.mp hb with e | m
  ·rw [e]
   exact ⟨vs, QS (by rw [wa hall]; exact Nat.le_trans (PySem.W.length_le_weightAllW ds) z2), fun u hu => (h1 u hu).mono k, .inl ho⟩
  ·exact (h2 b m).mono k
 | .tuple ds, _, x, p, z => by
  obtain ⟨a, vs, rfl, ho, hall⟩ := y3 x
  have z2 : WData.weightAll ds <= 1048576 := z
  obtain ⟨A, h1, h2⟩ := zW ds _ hall p fun d hd => Nat.le_trans (zD hd) z2
  have k : ∀ b ∈ A, b ∈ a :: A := fun b hb => List.mem_cons_of_mem _ hb
  refine ⟨a :: A, List.mem_cons_self .., fun b hb => ?_⟩
  rcases List.mem_cons.mp hb with e | m
  ·rw [e]
   exact ⟨vs, QS (by rw [wa hall]; exact Nat.le_trans (PySem.W.length_le_weightAllW ds) z2), fun u hu => (h1 u hu).mono k, .inr ho⟩
  ·exact (h2 b m).mono k
 | .float _, _, _, p, _ => Bool.noConfusion (show false = true from p)
 | .dict _, _, _, p, _ => Bool.noConfusion (show false = true from p)
 | .bytearray _, _, _, p, _ => Bool.noConfusion (show false = true from p)
 | .set _, _, _, p, _ => Bool.noConfusion (show false = true from p)
 | .frozenset _, _, _, p, _ => Bool.noConfusion (show false = true from p)
 | .obj _ _, _, _, p, _ => Bool.noConfusion (show false = true from p)
theorem zW : ∀ (ds : List WData) (vs : List Value), WellAll P h vs ds -> yk ds = true -> (∀ d ∈ ds, d.weight <= 1048576) -> ∃ A : List Addr, (∀ u ∈ vs, OkU A u) /\ ∀ a ∈ A, wI h A a
 | [], _, x, _, _ => by
  cases x
  exact ⟨[], fun u m => absurd m (by simp), fun a m => absurd m (by simp)⟩
 | d :: ds, _, x, p, z => by
  obtain ⟨v, vs, rfl, x1, x2⟩ := ub x
  have q : plW d = true /\ yk ds = true := Bool.and_eq_true_iff.mp p
  obtain ⟨A, a1, a2⟩ := Wy d v x1 q.1 (z d (List.mem_cons_self ..))
  obtain ⟨B, b1, b2⟩ := zW ds vs x2 q.2 fun e he => z e (List.mem_cons_of_mem _ he)
  have kA : ∀ b ∈ A, b ∈ A ++ B := fun b hb => List.mem_append.mpr (.inl hb)
  have kB : ∀ b ∈ B, b ∈ A ++ B := fun b hb => List.mem_append.mpr (.inr hb)
  refine ⟨A ++ B, fun u hu => ?_, fun b hb => ?_⟩
  ·rcases List.mem_cons.mp hu with e | m
   ·rw [e]
    exact a1.mono kA
   ·exact (b1 u m).mono kB
  ·rcases List.mem_append.mp hb with m | m
   ·exact (a2 b m).mono kA
   ·exact (b2 b m).mono kB
end
end
noncomputable def Zu (o : Obj) : Option HO := match o.data with
 | .seq vs _ => if (o.cls == Value.type "list") = true then some (.frz o (.lst (vs.toList.map toV))) else some (.frz o (.tup (vs.toList.map toV)))
 | _ => none
noncomputable def wB (K : PySem.W.Frag) (h : Heap) (A : List Addr) : Hp := fun b => if b ∈ A then (if (K.lookup b).isNone = true then (h.get? b).bind Zu else none) else none
noncomputable def Yr (H : Hp) : Prop := ∀ b, H b = none \/ ∃ o u, H b = some (.frz o u)
theorem jl (vs : List Value) : Zu { cls := .type "list", data := .seq vs.toArray } = some (.frz { cls := .type "list", data := .seq vs.toArray } (.lst (vs.map toV))) := by
 show (if (Value.type "list" == Value.type "list") = true then some (HO.frz { cls := .type "list", data := .seq vs.toArray } (.lst (vs.toArray.toList.map toV))) else some (HO.frz { cls := .type "list", data := .seq vs.toArray } (.tup (vs.toArray.toList.map toV)))) = _
 rw [if_pos (beq_self_eq_true _)]
theorem u7 (vs : List Value) : Zu { cls := .type "tuple", data := .seq vs.toArray } = some (.frz { cls := .type "tuple", data := .seq vs.toArray } (.tup (vs.map toV))) := by
 show (if (Value.type "tuple" == Value.type "list") = true then some (HO.frz { cls := .type "tuple", data := .seq vs.toArray } (.lst (vs.toArray.toList.map toV))) else some (HO.frz { cls := .type "tuple", data := .seq vs.toArray } (.tup (vs.toArray.toList.map toV)))) = _
 rw [if_neg (by decide)]
section
variable {P : Program} {w : World} {K : PySem.W.Frag} {h : Heap} {A : List Addr}
theorem yA {b : Addr} {o : Obj} (hb : b ∈ A) (hk : K.lookup b = none) (e : h.get? b = some o) : wB K h A b = Zu o := by
 unfold wB
 rw [if_pos hb, hk, if_pos (show (none : Option Obj).isNone = true from rfl), e] <;> rfl
theorem Z9 {b : Addr} {u : HO} (q : wB K h A b = some u) : b ∈ A /\ K.lookup b = none := by
 unfold wB at q
 by_cases hb : b ∈ A
 ·rw [if_pos hb] at q
  cases hk : K.lookup b with
  | none => exact ⟨hb, rfl⟩
  | some o =>
   rw [hk, if_neg (by simp)] at q
   cases q
 ·rw [if_neg hb] at q
  cases q
theorem yD (ar : ∀ a ∈ A, wI h A a) {b : Addr} {u : HO} (q : wB K h A b = some u) : K.lookup b = none /\ ∃ vs : List Value, vs.length <= sizeLine /\ (∀ u ∈ vs, OkU A u) /\
    ((h.get? b = some { cls := .type "list", data := .seq vs.toArray } /\ u = .frz { cls := .type "list", data := .seq vs.toArray } (.lst (vs.map toV))) \/
     (h.get? b = some { cls := .type "tuple", data := .seq vs.toArray } /\ u = .frz { cls := .type "tuple", data := .seq vs.toArray } (.tup (vs.map toV)))) := by
  obtain ⟨hb, hk⟩ := Z9 q
  obtain ⟨vs, h1, h2, h3⟩ := ar b hb
  refine ⟨hk, vs, h1, h2, ?_⟩
  rcases h3 with e | e
  · rw [yA hb hk e, jl] at q
    exact .inl ⟨e, (Option.some.inj q).symm⟩
  · rw [yA hb hk e, u7] at q
    exact .inr ⟨e, (Option.some.inj q).symm⟩
theorem VU (ar : ∀ a ∈ A, wI h A a) : Yr (wB K h A) := fun b => by
 cases q : wB K h A b with
 | none => exact .inl rfl
 | some u =>
  obtain ⟨_, vs, _, _, ⟨_, e⟩ | ⟨_, e⟩⟩ := yD ar q
  ·exact .inr ⟨_, _, by rw [e]⟩
  ·exact .inr ⟨_, _, by rw [e]⟩
theorem ZS (ar : ∀ a ∈ A, wI h A a) : HOk P w (wB K h A) h := fun b u q => by
 obtain ⟨_, vs, h1, h2, ⟨e, rfl⟩ | ⟨e, rfl⟩⟩ := yD ar q
 ·exact ⟨e, by rw [List.length_map]; exact h1, vs, _, wq h2, e⟩
 ·exact ⟨e, by rw [List.length_map]; exact h1, vs, wq h2, _, e, rfl, _, rfl⟩
theorem yG {c c' : Value} {vs us : List Value} (e : (some { cls := c, data := .seq vs.toArray } : Option Obj) = some { cls := c', data := .seq us.toArray }) : c = c' /\ vs = us := by
 have e1 := Option.some.inj e
 have e2 : c = c' := congrArg Obj.cls e1
 have e3 : Data.seq vs.toArray = Data.seq us.toArray := congrArg Obj.data e1
 injection e3 with e4
 refine ⟨e2, ?_⟩
 have e5 := congrArg Array.toList e4
 simpa using e5
theorem Ja (KX : K.In h) (ar : ∀ a ∈ A, wI h A a) {a : Addr} {vs : List Value} (ha : a ∈ A) (e : h.get? a = some { cls := .type "list", data := .seq vs.toArray }) : (∀ u ∈ vs, OkU A u) /\ SqL K (wB K h A) a (vs.map toV) := by
 obtain ⟨us, h1, h2, h3⟩ := ar a ha
 have hu : us = vs := by
  rcases h3 with q | q
  ·rw [e] at q
   exact (yG q).2.symm
  ·rw [e] at q
   exact absurd (Value.type.inj (yG q).1) (by decide)
 subst hu
 refine ⟨h2, ?_⟩
 cases hk : K.lookup a with
 | none => exact .inl (.inr ⟨_, by rw [yA ha hk e, jl]⟩)
 | some o =>
  have e2 := KX a o hk
  rw [e] at e2
  obtain rfl := Option.some.inj e2
  exact .inr ⟨_, us.toArray, _, hk, rfl, rfl, rfl, by rw [List.size_toArray]; exact h1, by simpa using wq h2⟩
theorem UZ (KX : K.In h) (ar : ∀ a ∈ A, wI h A a) {a : Addr} {vs : List Value} (ha : a ∈ A) (e : h.get? a = some { cls := .type "tuple", data := .seq vs.toArray }) : (∀ u ∈ vs, OkU A u) /\ SqT K (wB K h A) a (vs.map toV) := by
 obtain ⟨us, h1, h2, h3⟩ := ar a ha
 have hu : us = vs := by
  rcases h3 with q | q
  ·rw [e] at q
   exact absurd (Value.type.inj (yG q).1) (by decide)
  ·rw [e] at q
   exact (yG q).2.symm
 subst hu
 refine ⟨h2, ?_⟩
 cases hk : K.lookup a with
 | none => exact .inl (.inr ⟨_, by rw [yA ha hk e, u7]⟩)
 | some o =>
  have e2 := KX a o hk
  rw [e] at e2
  obtain rfl := Option.some.inj e2
  exact .inr ⟨_, us.toArray, _, hk, rfl, rfl, by rw [List.size_toArray]; exact h1, by simpa using wq h2⟩
mutual
theorem YC {Pm : Params} (KX : K.In h) (ar : ∀ a ∈ A, wI h A a) : ∀ (d : WData) (v : Value), Well Pm h v d -> plW d = true -> OkU A v -> Dw K (wB K h A) (toV v) d
 | .none, _, x, _, _ => by
  cases x
  exact .non
 | .bool b, _, x, _, _ => by
  cases x
  exact .bl b
 | .int i, _, x, _, _ => by
  cases x
  exact .int i
 | .str s, _, x, _, _ => by
  cases x
  exact .str s
 | .bytes b, _, x, _, _ => by
  cases x
  have z := Dw.byt (K := K) (H := wB K h A) b.toArray
  exact z
 | .list ds, _, x, p, hu => by
  obtain ⟨a, vs, rfl, ho, hall⟩ := um x
  obtain ⟨h2, hs⟩ := Ja KX ar hu ho
  exact .lst hs (uG KX ar ds _ hall p h2)
 | .tuple ds, _, x, p, hu => by
  obtain ⟨a, vs, rfl, ho, hall⟩ := y3 x
  obtain ⟨h2, hs⟩ := UZ KX ar hu ho
  exact .tup hs (uG KX ar ds _ hall p h2)
 | .float _, _, _, p, _ => Bool.noConfusion (show false = true from p)
 | .dict _, _, _, p, _ => Bool.noConfusion (show false = true from p)
 | .bytearray _, _, _, p, _ => Bool.noConfusion (show false = true from p)
 | .set _, _, _, p, _ => Bool.noConfusion (show false = true from p)
 | .frozenset _, _, _, p, _ => Bool.noConfusion (show false = true from p)
 | .obj _ _, _, _, p, _ => Bool.noConfusion (show false = true from p)
theorem uG {Pm : Params} (KX : K.In h) (ar : ∀ a ∈ A, wI h A a) : ∀ (ds : List WData) (vs : List Value), WellAll Pm h vs ds -> yk ds = true -> (∀ u ∈ vs, OkU A u) -> vE K (wB K h A) (vs.map toV) ds
 | [], _, x, _, _ => by
  cases x
  exact .nil
 | d :: ds, _, x, p, hu => by
  obtain ⟨v, vs, rfl, x1, x2⟩ := ub x
  have q : plW d = true /\ yk ds = true := Bool.and_eq_true_iff.mp p
  exact .cons (YC KX ar d v x1 q.1 (hu _ (List.mem_cons_self ..))) (uG KX ar ds vs x2 q.2 fun u m => hu u (List.mem_cons_of_mem _ m))
end
end
theorem xi {ds : List WData} (h : WData.layableAll ds = true) : ∀ d ∈ ds, d.weight <= 1048576 := fun d hd =>
 (PySem.W.layableW_iff.mp (List.all_eq_true.mp h d hd)).2.2
theorem xy : ∀ (cs : List Codec) (a : Codec.denoteAll cs), (Codec.encAll cs a).length = cs.length
 | [], _ => rfl
 | c :: cs, a => by
  show (Codec.encAll cs a.2).length + 1 = cs.length + 1
  rw [xy cs a.2]
end L2
end
section
namespace L2
open PySem PySem.Spec PyProof.Rows
noncomputable def vh (s : Stmt) : Arguments := match s with
 | .FunctionDef _ a _ _ _ _ _ _ _ _ => a
 | _ => { posonlyargs := [], args := [], vararg := none, kwonlyargs := [], kw_defaults := [], kwarg := none, defaults := [] }
noncomputable def qE (s : Stmt) : List Stmt := match s with
 | .FunctionDef _ _ b _ _ _ _ _ _ _ => b
 | _ => []
noncomputable def qa (s : Stmt) : Scope := match s with
 | .FunctionDef _ _ _ _ _ _ sc _ _ _ => sc
 | _ => { kind := .function, names := [], isGenerator := false, isCoroutine := false }
structure Fun (K : PySem.W.Frag) (x qual : Str) (st : Stmt) (f : Addr) (fd : FuncData) : Prop where
 ex : ∃ (oc : Value) (od : Option Addr) (kV doc pm : Value) (an : Option Addr) (cdv ct : Value) (osl : Array (Option Value)),
  fd = PySem.W.fnOf x qual (vh st) (qE st) (qa st) .none kV doc pm an cdv ct /\ K.lookup f = some ⟨oc, od, .func fd, osl⟩ /\ PySem.W.codeIn K cdv qual = true
 kp : PySem.W.keepIn K (.ref f) = true
section
variable {P : Program} {w : World} {K : PySem.W.Frag} {mg : Str -> Option Value} {base : Heap}
theorem Fun.binds {x qual : Str} {st : Stmt} {f : Addr} {fd : FuncData} {ps : List Str} (F : Fun K x qual st f fd)
  (h : ∀ (kV doc pm : Value) (an : Option Addr) (cdv ct : Value) (us : List Value), us.length = ps.length -> bindArgs (PySem.W.fnOf x qual (vh st) (qE st) (qa st) .none kV doc pm an cdv ct) ⟨us, []⟩ = pure (ps.zip us)) : Binds K fd ps [] := by
 obtain ⟨oc, od, kV, doc, pm, an, cdv, ct, osl, rfl, lk, hcd⟩ := F.ex
 exact .all (h kV doc pm an cdv ct)
theorem vf {x qual : Str} {st : Stmt} {f : Addr} {oc : Value} {od an : Option Addr} {osl : Array (Option Value)} {kV doc pm cdv ct : Value} (l : K.lookup f = some ⟨oc, od, .func (PySem.W.fnOf x qual (vh st) (qE st) (qa st) .none kV doc pm an cdv ct), osl⟩)
  (c : PySem.W.codeIn K cdv qual = true) (k : PySem.W.keepIn K (.ref f) = true) : Fun K x qual st f (PySem.W.fnOf x qual (vh st) (qE st) (qa st) .none kV doc pm an cdv ct) := ⟨⟨oc, od, kV, doc, pm, an, cdv, ct, osl, rfl, l, c⟩, k⟩
end
noncomputable def qg (H H' : Hp) : Prop := ∀ b o, H b = some o -> H' b = some o
theorem qg.trans {H H1 H2 : Hp} (a : qg H H1) (b : qg H1 H2) : qg H H2 := fun c o h => b c o (a c o h)
theorem qg.free {H H' : Hp} (e : qg H H') {l : Addr} (h : H' l = Option.none) : H l = Option.none := by
 cases q : H l with
 | none => rfl
 | some o =>
  rw [e l o q] at h
  cases h
theorem qg.seq {K : PySem.W.Frag} {H H' : Hp} {a : Addr} {xs : List V} (e : qg H H') (h : SqL K H a xs) : SqL K H' a xs := by
 rcases h with (h | ⟨o, h⟩) | h
 ·exact .inl (.inl (e _ _ h))
 ·exact .inl (.inr ⟨o, e _ _ h⟩)
 ·exact .inr h
end L2
end
namespace L2
open PySem PySem.Spec PyProof.Rows
noncomputable def Rel (X : Cx) (pins : List (Addr × Obj)) (H : Hp) (b : Addr) : Prop :=
 H b ≠ none \/ (∃ o, X.s_0.heap.get? b = some o /\ b ∉ X.ex) \/ (∃ x, X.env.cells.lookup x = some b) \/ b = X.env.locals \/ ∃ p ∈ X.pn ++ pins, p.1 = b
theorem Vy {P : Program} {w : World} {H : Hp} {h : Heap} {a : Addr} {o : HO} (x : vI P w H h a o) : ∃ ob, h.get? a = some ob := by
 cases o with
 | lst xs => obtain ⟨_, _, _, _, e⟩ := x; exact ⟨_, e⟩
 | tup xs => obtain ⟨_, _, _, ob, p, _⟩ := x; exact ⟨ob, p⟩
 | dK kvs => obtain ⟨_, _, _, _, o, _, _, e, _⟩ := x; exact ⟨_, e⟩
 | dT kvs => obtain ⟨_, _, _, _, o, _, _, e, _⟩ := x; exact ⟨_, e⟩
 | set S n => obtain ⟨o, _, _, _, e, _⟩ := x; exact ⟨_, e⟩
 | ins C dx fs => obtain ⟨_, _, _, e, _⟩ := x; exact ⟨_, e⟩
 | own y => exact x
 | xd fs => obtain ⟨_, ⟨o, _, _, e, _⟩, _⟩ := x; exact ⟨_, e⟩
 | rng lo hi => obtain ⟨_, _, _, e⟩ := x; exact ⟨_, e⟩
 | frz ob u => exact ⟨_, x.1⟩
 | tbl ps => exact ⟨_, x⟩
 | met f y => exact ⟨_, x⟩
 | ext φ => exact x.2.1
section
variable {X : Cx} {pins : List (Addr × Obj)} {σ : St} {H H' : Hp} {s s' : Shared} {h' : Heap}
theorem yP (I : Inv X pins σ H s) {b : Addr} (r : Rel X pins H b) : ∃ o, s.heap.get? b = some o := by
 rcases r with r | ⟨o, e, hx⟩ | ⟨x, e⟩ | rfl | ⟨p, hp, rfl⟩
 ·cases q : H b with
  | none => exact absurd q r
  | some u => exact Vy (I.hok b u q)
 ·exact I.base.there b o e hx
 ·obtain ⟨v, o, ho, _⟩ := I.cell x b e
  exact ⟨o, ho⟩
 ·obtain ⟨m, ⟨o, _, _, ho, _⟩, _⟩ := I.loc
  exact ⟨o, ho⟩
 ·exact ⟨_, (I.pin p hp).1⟩
theorem jc (I : Inv X pins σ H s) {b : Addr} (h : b ∈ X.fs) : b ∈ frs X.stack := by
 rcases I.ok.stk with e | ⟨e, hf⟩
 ·rw [e]; exact h
 ·rw [e]; unfold frs; rw [List.filterMap_cons, hf]; exact List.mem_cons_of_mem _ h
theorem Vd {t' : Nat} (I : Inv X pins σ H s) (kp : ∀ b o, Rel X pins H b -> b ∉ frs X.stack -> s.heap.get? b = some o -> h'.get? b = some o)
  (sl : ∀ b o, b ∈ frs X.stack -> s.heap.get? b = some o -> ∃ sl, h'.get? b = some { o with slots := sl }) : Inv X pins σ H { s with heap := h', toks := t' } := by
 have any : ∀ b o, Rel X pins H b -> s.heap.get? b = some o -> ∃ sl, h'.get? b = some { o with slots := sl } := fun b o r e => by
  by_cases hb : b ∈ frs X.stack
  ·exact sl b o hb e
  ·exact ⟨o.slots, kp b o r hb e⟩
 have cellK : ∀ x c, X.env.cells.lookup x = some c -> ∀ v, s.heap.IsCell c v -> h'.IsCell c v := fun x c e v ⟨o, ho, hd⟩ => by
  obtain ⟨sl', q⟩ := any c o (.inr (.inr (.inl ⟨x, e⟩))) ho
  exact ⟨_, q, hd⟩
 refine ⟨I.ok, I.os, I.bare, ⟨fun b o e n hb hx => ?_, fun b o e n hb hx => ?_, I.base.free, fun b o e hx => ?_, I.base.tups, I.base.frzs, I.base.tbls⟩, ?_, fun x c e => ?_, I.free, I.freeC, fun p hp => ?_, fun b u e => ?_, I.len⟩
 ·have q := I.base.keep b o e n hb hx
  refine kp b o (.inr (.inl ⟨o, e, hx⟩)) (fun z => ?_) q
  rcases List.mem_cons.mp (I.vQ b z) with z | z
  ·exact absurd (Nat.lt_of_lt_of_le (Heap.lt_size e) I.ok.above) (by rw [z]; exact Nat.lt_irrefl _)
  ·exact hb z
 ·obtain ⟨s1, q⟩ := I.base.slot b o e n hb hx
  obtain ⟨s2, q2⟩ := sl b _ (jc I hb) q
  exact ⟨s2, q2⟩
 ·obtain ⟨o', q⟩ := I.base.there b o e hx
  obtain ⟨s2, q2⟩ := any b o' (.inr (.inl ⟨o, e, hx⟩)) q
  exact ⟨_, q2⟩
 ·obtain ⟨m, ⟨o, es, ep, ho, r⟩, hl⟩ := I.loc
  obtain ⟨s2, q2⟩ := any _ o (.inr (.inr (.inr (.inl rfl)))) ho
  refine ⟨m, ⟨_, es, ep, q2, r⟩, fun i x v e1 e2 e3 => ?_⟩
  obtain ⟨u, r, l⟩ := hl i x v e1 e2 e3
  refine ⟨u, r, ?_⟩
  rcases l with l | ⟨k, c, e, z⟩
  ·exact .inl l
  ·exact .inr ⟨k, c, e, cellK x c e _ z⟩
 ·obtain ⟨v, z⟩ := I.cell x c e
  exact ⟨v, cellK x c e v z⟩
 ·obtain ⟨e, n, ne, nf, d⟩ := I.pin p hp
  refine ⟨kp p.1 p.2 (.inr (.inr (.inr (.inr ⟨p, hp, rfl⟩)))) (fun z => ?_) e, n, ne, nf, d⟩
  rcases List.mem_cons.mp (I.vQ p.1 z) with z | z
  ·exact ne z
  ·exact nf z
 ·refine (I.hok b u e).xO (fun c w hc q => ?_) (fun _ q => q) fun _ _ q => q
  have hne : H c ≠ none := by
   rcases hc with z | z
   ·rw [z, e]; exact fun z => nomatch z
   ·rw [z]; exact fun z => nomatch z
  exact kp c w (.inl hne) (fun z => hne (I.yF c z)) q
end
noncomputable def Trd (h B : Heap) (e : Addr) (cls : Value) : Prop :=
 ∃ oe vs a0, h.get? e = some oe /\ oe.cls = cls /\ oe.data = .fields vs /\ vs[0]? = some a0 /\
  (vs[1]? = some .none \/ ∃ T oT ts f, vs[1]? = some (.ref T) /\ B.get? T = none /\ T ≠ e /\ h.get? T = some oT /\ oT.data = .fields ts /\ ts[3]? = some f)
noncomputable def V7 (h B : Heap) (e : Addr) (cls : Value) : Prop :=
 ∃ oe vs a0, h.get? e = some oe /\ oe.cls = cls /\ oe.data = .fields vs /\ vs[0]? = some a0 /\
  ∃ T oT ts f, vs[1]? = some (.ref T) /\ B.get? T = none /\ T ≠ e /\ h.get? T = some oT /\ oT.data = .fields ts /\ ts[3]? = some f
theorem V7.trd {h B : Heap} {e : Addr} {cls : Value} (x : V7 h B e cls) : Trd h B e cls := by
 obtain ⟨oe, vs, a0, h1, h2, h3, h4, r⟩ := x
 exact ⟨oe, vs, a0, h1, h2, h3, h4, .inr r⟩
noncomputable def Hand (B : Heap) (l : List Env) (e : Addr) (cls : Value) (h : Heap) : Prop := B.StaysIn h /\ B.get? e = none /\ h.FunFrames B l /\ Trd h B e cls
noncomputable def wD (B : Heap) (l : List Env) (e : Addr) (cls : Value) (h : Heap) : Prop := B.StaysIn h /\ B.get? e = none /\ h.FunFrames B l /\ V7 h B e cls
theorem wD.hand {B : Heap} {l : List Env} {e : Addr} {cls : Value} {h : Heap} (x : wD B l e cls h) : Hand B l e cls h := ⟨x.1, x.2.1, x.2.2.1, x.2.2.2.trd⟩
section
variable {M : Model} {A : Around} {E : Value -> Shared -> Prop} {s : Shared} {B : Heap} {env env' : Env} {outer : List Env} {L e : Addr} {cls : Value} {Q : Unit -> Shared -> Prop}
theorem wx (hfr : A.frames = some (env :: outer)) (hf : env.frame = some L) (hf' : env'.frame = some L) (x : Hand B (env :: outer) e cls s.heap)
  (h : ∀ h', wD B (env :: outer) e cls h' -> s.heap.UpToSlots h' -> Q () { s with heap := h' }) : wpAny M A (noteFrame (.ref e) env') Q E s := by
 have en : noteFrame (.ref e) env' = noteFrame (.ref e) env := by
  unfold noteFrame PySem.frameOf
  rw [hf, hf']
 rw [en]
 obtain ⟨kb, hen, hl, oe, vs, a0, he, hcls, hd, h0, r⟩ := x
 subst hcls
 have fin : ∀ h', Heap.NotedW B (env :: outer) e oe.cls a0 (rawInt L) s.heap h' -> Q () { s with heap := h' } := fun h' ⟨k1, k2, k3, k4⟩ => by
  obtain ⟨oe', vs', T, oT, ts, g1, g2, g3, g4, g5, g6, g7, g8, g9⟩ := k3
  exact h h' ⟨k1, hen, k2, oe', vs', a0, g1, g2.1, g3, g2.2, T, oT, ts, _, g4, g5, g6, g7, g8, g9⟩ k4
 rcases r with h1 | ⟨T, oT, ts, f, h1, hnT, hTe, hT, hdT, h3⟩
 ·unfold noteFrame
  simp only [hf]
  refine wpAny_bind (wpAny_field he hd h1 ?_)
  rw [if_neg (by decide)]
  exact wpAny_entryW hfr hl hf he kb hen hd (Array.getElem?_eq_some_iff.mp h1).1 h0 fin
 ·unfold noteFrame
  simp only [hf]
  refine wpAny_bind (wpAny_field he hd h1 ?_)
  rw [if_pos (show (Value.ref T != Value.none) = true from by simp)]
  refine wpAny_bind (wpAny_field hT hdT h3 ?_)
  by_cases hc : (f == rawInt L) = true
  ·rw [if_pos hc]
   exact wpAny_pure (h s.heap ⟨kb, hen, hl, oe, vs, a0, he, rfl, hd, h0, T, oT, ts, f, h1, hnT, hTe, hT, hdT, h3⟩ (.refl _))
  ·rw [if_neg hc]
   refine wpAny_bind (wpAny_setField hT hdT (Array.getElem?_eq_some_iff.mp h3).1 ?_)
   have other : ∀ b, b ≠ T -> (s.heap.update T (Obj.mapFields (·.setIfInBounds 3 Value.none))).get? b = s.heap.get? b := fun b hb => Heap.get?_update_other _ _ (Ne.symm hb)
   have noRecord : ∀ b o, s.heap.get? b = some o -> (∀ vs, o.data ≠ .fields vs) -> b ≠ T := fun b o hb hnf q => by
    rw [q, hT] at hb; injection hb with hb; subst hb; exact hnf ts hdT
   refine wpAny_entryW hfr (hl.of_keeps fun b o hb hnf => ⟨o, (other b (noRecord b o hb hnf)).trans hb, rfl⟩) hf ((other e (Ne.symm hTe)).trans he)
    (fun b o hbo => (other b fun q => by rw [q, hnT] at hbo; cases hbo).trans (kb b o hbo)) hen hd (Array.getElem?_eq_some_iff.mp h1).1 h0
    fun h' ⟨x1, x2, x3, x4⟩ => fin h' ⟨x1, x2, x3, fun b o hb hnf => x4 b o ((other b (noRecord b o hb hnf)).trans hb) hnf⟩
theorem vj {l : List Env} {fr : Option Addr} (x : wD B l e cls s.heap) (h : ∀ h', wD B l e cls h' -> s.heap.UpToSlots h' -> Q () { s with heap := h' }) : wpAny M A (setFlight (.ref e) fr) Q E s := by
 obtain ⟨kb, hen, hl, oe, vs, a0, he, hcls, hd, h0, T, oT, ts, f, h1, hnT, hTe, hT, hdT, h3⟩ := x
 have hsz : 3 < ts.size := (Array.getElem?_eq_some_iff.mp h3).1
 unfold setFlight
 refine wpAny_bind (wpAny_field he hd h1 ?_)
 rw [if_pos (show (Value.ref T != Value.none) = true from by simp)]
 refine wpAny_setField hT hdT hsz ?_
 have other : ∀ (v : Value) b, b ≠ T -> (s.heap.update T (Obj.mapFields (·.setIfInBounds 3 v))).get? b = s.heap.get? b := fun v b hb => Heap.get?_update_other _ _ (Ne.symm hb)
 have noRecord : ∀ b o, s.heap.get? b = some o -> (∀ vs, o.data ≠ .fields vs) -> b ≠ T := fun b o hb hnf q => by
  rw [q, hT] at hb; injection hb with hb; subst hb; exact hnf ts hdT
 refine h _ ⟨fun b o hbo => (other _ b fun q => by rw [q, hnT] at hbo; cases hbo).trans (kb b o hbo), hen, hl.of_keeps fun b o hb hnf => ⟨o, (other _ b (noRecord b o hb hnf)).trans hb, rfl⟩,
  oe, vs, a0, (other _ e (Ne.symm hTe)).trans he, hcls, hd, h0, T, _, _, fr.elim Value.none fun f => rawInt f, h1, hnT, hTe, Heap.get?_update_self _ hT (Obj.isFreed_of_fields (Obj.data_mapFields hdT _)), Obj.data_mapFields hdT _, Array.getElem?_setIfInBounds_self_of_lt hsz⟩ fun b o hb hn => ⟨o.slots, (other _ b (noRecord b o hb hn)).trans hb⟩
theorem zG {l : List Env} {Q : Value -> Shared -> Prop} (x : wD B l e cls s.heap) (h : ∀ T, Q (.ref T) s) : wpAny M A (field (.ref e) 1) Q E s := by
 obtain ⟨kb, hen, hl, oe, vs, a0, he, hcls, hd, h0, T, oT, ts, f, h1, _⟩ := x
 exact wpAny_field he hd h1 (h T)
end
noncomputable def Arr (X : Cx) (E : XK) (e : Value) (s' : Shared) : Prop :=
 ∃ (a : Addr) (cls : Value) (B : Heap) (H' : Hp) (pins : List (Addr × Obj)) (σ : St), e = .ref a /\ Inv X pins σ H' s' /\ Hand B X.stack a cls s'.heap /\
  (∀ b o, s'.heap.get? b = some o -> b ∉ frs X.stack -> Rel X pins H' b -> B.get? b = some o) /\ E cls none H'
noncomputable def CX1 (P : Program) (w : World) : CXT := fun outer H s E e s' =>
 ∃ (a : Addr) (cls : Value) (B : Heap) (H' : Hp), e = .ref a /\ s'.os = s.os /\ AllBare s'.gens /\ Un (frs outer) [] H H' s.heap s'.heap /\ HOk P w H' s'.heap /\ Hand B outer a cls s'.heap /\
  (∀ b o, s'.heap.get? b = some o -> b ∉ frs outer -> (H' b ≠ none \/ ∃ o', s.heap.get? b = some o') -> B.get? b = some o) /\ E cls none H'
theorem rebase {h base B : Heap} : ∀ {l : List Env}, h.FunFrames base l -> (∀ b ∈ frs l, B.get? b = none) -> h.FunFrames B l
 | [], _, _ => trivial
 | env :: r, ⟨hk, ⟨L, o, hf, _, ho, hd⟩, hr⟩, hB => by
  refine ⟨hk, ⟨L, o, hf, hB L ?_, ho, hd⟩, rebase hr fun b hb => hB b ?_⟩
  ·unfold frs; rw [List.filterMap_cons, hf]; exact List.mem_cons_self
  ·unfold frs; rw [List.filterMap_cons, hf]; exact List.mem_cons_of_mem _ hb
section
variable {X : Cx} {pins : List (Addr × Obj)} {σ : St} {H H' : Hp} {s s' : Shared} {E E' : XK} {e : Value}
theorem Xr (I : Inv X pins σ H s) (x : CX1 X.prog X.w X.stack H s E e s') : Arr X E e s' := by
 obtain ⟨a, cls, B, H', e1, ho, hg, un, hok, hd, kb, q⟩ := x
 have I' : Inv X pins σ H' s' := I.VY (ch := []) ho un hok hg fun b z => absurd z (by simp)
 refine ⟨a, cls, B, H', pins, σ, e1, I', hd, fun b o hb hf r => kb b o hb hf ?_, q⟩
 rcases r with r | r
 ·exact .inl r
 ·exact .inr (yP I (.inr r))
theorem VP {cls : Value} {a : Addr} {args : List Value} {h' : Heap} (I : Inv X pins σ H s) (m : Heap.MadeExcOf s.heap h' a cls args) (q : E cls none H) : Arr X E (.ref a) { s with heap := h' } := by
 have I' : Inv X pins σ H { s with heap := h' } := I.kept (t' := s.toks) m.keeps
 have hideN : ∀ b ∈ frs X.stack, (PySem.W.hideAll s.heap (frs X.stack)).get? b = none := fun b hb => PySem.W.hideAll_none _ hb
 refine ⟨a, cls, PySem.W.hideAll s.heap (frs X.stack), H, pins, σ, rfl, I', ⟨fun b o e => m.keeps b o (PySem.W.of_hideAll _ e), ?_, rebase I'.stack hideN, ?_⟩, fun b o hb hf r => ?_, q⟩
 ·cases z : (PySem.W.hideAll s.heap (frs X.stack)).get? a with
  | none => rfl
  | some o =>
   have := PySem.W.of_hideAll _ z
   rw [m.new] at this
   cases this
 ·obtain ⟨t, ht, _, _⟩ := m.there
  exact ⟨_, _, _, ht, rfl, rfl, rfl, .inl rfl⟩
 ·obtain ⟨o', ho'⟩ := yP I r
  have z := m.keeps b o' ho'
  have z2 : h'.get? b = some o := hb
  rw [z] at z2
  cases z2
  exact PySem.W.hideAll_get _ ho' hf
theorem qV {a : Addr} {cls : Value} {B : Heap} {h' : Heap} (I : Inv X pins σ H s) (hd : Hand B X.stack a cls s.heap) (kb : ∀ b o, s.heap.get? b = some o -> b ∉ frs X.stack -> Rel X pins H b -> B.get? b = some o)
  (hd' : Hand B X.stack a cls h') (up : s.heap.UpToSlots h') : Inv X pins σ H { s with heap := h' } /\ ∀ b o, h'.get? b = some o -> b ∉ frs X.stack -> Rel X pins H b -> B.get? b = some o := by
 refine ⟨Vd (t' := s.toks) I (fun b o r hf e => hd'.1 b o (kb b o e hf r)) fun b o hf e => ?_, fun b o hb hf r => ?_⟩
 ·obtain ⟨_, o', e', hn⟩ := hd.2.2.1.mem hf
  rw [e] at e'
  cases e'
  exact up b o e hn
 ·obtain ⟨o', e'⟩ := yP I r
  have z := hd'.1 b o' (kb b o' e' hf r)
  rw [hb] at z
  cases z
  exact kb b o e' hf r
end
noncomputable def Acc (X : Cx) (E : XK) : Prop := ∀ e s', Arr X E e s' -> X.xe e s'
theorem zc {X : Cx} {E : XK} (x : Acc X E) : Passes (CX1 X.prog X.w) X E := fun pins σ H s e s' I h => x e s' (Xr I h)
theorem yO {P : Program} {w : World} {K : PySem.W.Frag} {mg : Str -> Option Value} {base : Heap} {N : List Str} {qual : Str} {scope : Scope} {f : Addr} {cd : Value} {A : Around} {outer : List Env} {s : Shared} {H : Hp} {E : XK} :
  Acc (we (CX1 P w) P w K mg base N qual scope f cd A outer s H E) E := by
 intro e s1 x
 obtain ⟨a, cls, B, H', pins, σ, rfl, I, hd, kb, q⟩ := x
 show wpAny _ _ (leaving _ _) _ _ _
 unfold leaving
 refine wpAny_bind (wx (outer := outer) I.ok.frames rfl rfl hd fun h1 hd1 up1 => ?_)
 obtain ⟨I1, kb1⟩ := qV I hd kb hd1.hand up1
 refine vj hd1 fun h2 hd2 up2 => ?_
 obtain ⟨I2, kb2⟩ := qV I1 hd1.hand kb1 hd2.hand up2
 obtain ⟨g1, g2, ⟨_, _, g3⟩, g4⟩ := hd2.hand
 refine ⟨a, cls, B, H', rfl, I2.os, I2.bare, I2.base, I2.hok, ⟨g1, g2, g3, g4⟩, fun b o hb hf r => kb2 b o hb (fun z => ?_) ?_, q⟩
 ·rcases List.mem_cons.mp (I2.vQ b z) with z | z
  ·rcases r with r | ⟨o', r⟩
   ·exact r (by rw [z]; exact I2.free)
   ·exact absurd (Nat.lt_of_lt_of_le (Heap.lt_size r) I2.ok.above) (by rw [z]; exact Nat.lt_irrefl _)
  ·exact hf z
 ·rcases r with r | ⟨o', r⟩
  ·exact .inl r
  ·exact .inr (.inl ⟨o', r, fun z => nomatch z⟩)
noncomputable abbrev w1 : List Value := [.type "Exception", .type "BaseException", .type "object"]
noncomputable abbrev uL : String := "Exception.__new__"
noncomputable def ExcAt (h : Heap) (C : Addr) : Prop := ∃ N nm q bs hdct sn sub ab col dd k0 k1 k2 k3 k5 mN,
 h.get? C = some (excClassObj nm q C N bs w1 hdct sn sub ab col dd k0 k1 k2 k3 k5 uL) /\ h.Ns N mN /\ mN "__init__" = none
noncomputable def Yw (K : PySem.W.Frag) (C : Addr) : Prop := ∃ N nm q bs hdct sn sub ab col dd k0 k1 k2 k3 k5,
 K.lookup C = some (excClassObj nm q C N bs w1 hdct sn sub ab col dd k0 k1 k2 k3 k5 uL) /\ PySem.W.nsOkIn K N = true /\ PySem.W.nsIn K N "__init__" = some none
open Classical in
noncomputable def qC (K : PySem.W.Frag) (C : Addr) : Bool := decide (Yw K C)
theorem vW {K : PySem.W.Frag} {h : Heap} {C : Addr} (X : K.In h) (q : qC K C = true) : ExcAt h C := by
 obtain ⟨N, nm, qn, bs, hd, sn, sub, ab, col, dd, k0, k1, k2, k3, k5, look, hns, hini⟩ := (@decide_eq_true_iff (Yw K C) (Classical.propDecidable _)).mp q
 exact ⟨N, nm, qn, bs, hd, sn, sub, ab, col, dd, k0, k1, k2, k3, k5, _, X _ _ look, .of_isNs (PySem.W.isNs_of_in X hns), PySem.W.nsMap_none_of_in X hns hini⟩
section
variable {X : Cx} {E : XK}
noncomputable def Xv (E : XK) (C : Addr) : TS := fun _ _ H => E (.ref C) none H
theorem Wl {x : Str} {C : Addr} {np cpos pos : Pos} (hc : X.calm = true) (acc : Acc X E) (hg : Gl X x) (hm : X.mg x = some (.ref C)) (hC : qC X.K C = true) (hd : autoParam ((x == ("__debug__" : Str)) = false) qH._auto_1) :
  PS X (.Raise (some (.Call (.Name x np) [] [] cpos)) none pos) (Xv E C) := by
 intro pins s σ H D I h
 obtain ⟨N, nm, q, bs, hdct, sn, sub, ab, col, dd, k0, k1, k2, k3, k5, mN, hC, hN, hi⟩ := vW I.kIn hC
 refine wpAny_Raise_call_subT (bmB := w1) (C := C) (N := N) (mN := mN) (newId := uL) (nm := nm) (q := q) (bs := bs) (bm := w1) (hdct := hdct) (sn := sn) (sub := sub) (ab := ab) (col := col) (dd := dd) (k0 := k0) (k1 := k1) (k2 := k2) (k3 := k3) (k5 := k5) PySem.F.excBase_Exception (by decide) (I.ok.hd hc) rfl hi ?_
 refine zJ I hg hm ⟨rfl, PySem.evalArgs_none ⟨rfl, by show 0 <= sizeLine; decide, hC, hN, .base, fun h' e m => ?_⟩⟩ hd
 exact acc _ _ (VP I m h)
end
structure zO (sc ls : Scope) : Prop where
 kind : ls.kind = .function
 co : ls.isCoroutine = false
 gen : ls.isGenerator = false
 only : ∀ y ∈ ls.names, y.2 = .free \/ y.2 = .globalImplicit
 uniq : ∀ y ∈ ls.names, ls.names.lookup y.1 = some y.2
 free : ∀ y ∈ ls.names, y.2 = .free -> sc.names.lookup y.1 = some .cell
noncomputable abbrev vJ (X : Cx) (qual : Str) (ls : Scope) (f : Addr) (cd : Value) (s : Shared) : Env := PySem.W.envX qual ls s.heap.objs.size f cd (qi X.env.cells ls.names [])
noncomputable def xp (X Y : Cx) (qual : Str) (ls : Scope) (f : Addr) (cd : Value) (s : Shared) (H : Hp) (E : XK) : Cx where
 prog := X.prog
 w := X.w
 K := X.K
 mg := X.mg
 base := X.base
 A := Y.A.deeper (vJ X qual ls f cd s)
 N := X.N
 s_0 := s
 H_0 := H
 env := vJ X qual ls f cd s
 outer := Y.stack
 stack := vJ X qual ls f cd s :: Y.stack
 ex := []
 fn := fun _ => false
 calm := true
 pn := []
 xe := fun e s' => wpAny (model X.prog X.w) (Y.A.deeper (vJ X qual ls f cd s)) (leaving (vJ X qual ls f cd s) e) (fun _ s'' => CX1 X.prog X.w Y.stack H s E e s'') (fun e' s'' => CX1 X.prog X.w Y.stack H s E e' s'') s'
section
variable {X Y : Cx} {qual : Str} {ls : Scope} {f : Addr} {cd : Value} {s s1 : Shared} {H H1 : Hp} {E : XK} {pins : List (Addr × Obj)} {σ : St}
theorem wY (ok : X.Ok) (L : zO X.env.scope ls) {x : Str} {c : Addr} (h : (qi X.env.cells ls.names []).lookup x = some c) : (x, NameKind.free) ∈ ls.names /\ X.env.cells.lookup x = some c := by
 rcases vo (PySem.mem_of_lookup h) with z | ⟨z, rfl⟩
 ·cases z
 ·obtain ⟨c', e⟩ := ok.has x (.inl (L.free _ z rfl))
  exact ⟨z, by rw [e]; rfl⟩
theorem QX (ok : X.Ok) (L : zO X.env.scope ls) {x : Str} (h : (x, NameKind.free) ∈ ls.names) : ∃ c, (qi X.env.cells ls.names []).lookup x = some c /\ X.env.cells.lookup x = some c := by
 obtain ⟨c, e⟩ := mem_lookup (vH (cells := X.env.cells) (acc := []) h)
 exact ⟨c, e, (wY ok L e).2⟩
theorem Zn {h1 : Heap} {tk : Nat} (L : zO X.env.scope ls) (I1 : Inv X pins σ H1 s1) (hcell : ∀ x c v, X.env.cells.lookup x = some c -> s1.heap.IsCell c v -> s.heap.IsCell c v) (hfree : ∀ x c, X.env.cells.lookup x = some c -> H c = none)
  (hd : Y.A.handled = none) (e0 : uQ X.prog X.w X.K X.mg X.base Y.A Y.stack s H) (hns : h1.Ns s.heap.objs.size (fun _ => none)) (kp : ∀ b o, s.heap.get? b = some o -> h1.get? b = some o) :
  Inv (xp X Y qual ls f cd s H E) [] σ H { s with heap := h1, toks := tk } := by
 have noA : ∀ b : Addr, b ∉ (xp X Y qual ls f cd s H E).ex := fun b z => absurd (show b ∈ ([] : List Addr) from z) (by simp)
 refine ⟨⟨e0.mod, L.kind, rfl, rfl, Nat.le_refl _, fun y z c h1 h2 => ?_, fun y hy => ?_, fun y c z => Bool.noConfusion (show false = true from z), fun _ => hd, Around.frames_deeper e0.frames, .inr ⟨rfl, rfl⟩, fun b z => absurd z (noA b), e0.bs, e0.bsz, fun b _ _ => noA b, fun b z => absurd z (noA b), e0.zo, e0.frf⟩,
  rfl, e0.bare, Un.kept kp, ⟨_, hns, fun i y v h1 h2 h3 => ?_⟩, fun y c h => ?_, e0.hok.fresh (Nat.le_refl _), fun y c h => hfree y c (wY I1.ok L h).2, fun p hp => absurd (show p ∈ ([] : List (Addr × Obj)) from hp) (by simp), e0.hok.kept kp, I1.len⟩
 ·exact I1.ok.inj y z c (wY I1.ok L h1).2 (wY I1.ok L h2).2
 ·have hy : ls.names.lookup y = some .cell \/ ls.names.lookup y = some .free := hy
  rcases hy with hy | hy
  ·rcases L.only _ (PySem.mem_of_lookup hy) with z | z <;> cases z
  ·obtain ⟨c, e, _⟩ := QX I1.ok L (PySem.mem_of_lookup hy)
   exact ⟨c, e⟩
 ·have h3 : ls.names.lookup y = some .local \/ ls.names.lookup y = some .cell \/ ls.names.lookup y = some .free := h3
  have hfr : ls.names.lookup y = some .free := by
   rcases h3 with z | z | z
   ·rcases L.only _ (PySem.mem_of_lookup z) with q | q <;> cases q
   ·rcases L.only _ (PySem.mem_of_lookup z) with q | q <;> cases q
   ·exact z
  have hc := L.free _ (PySem.mem_of_lookup hfr) rfl
  obtain ⟨c, e1, e2⟩ := QX I1.ok L (PySem.mem_of_lookup hfr)
  obtain ⟨m, _, hl⟩ := I1.loc
  obtain ⟨u, r, l⟩ := hl i y v h1 h2 (.inr (.inl hc))
  refine ⟨u, r, .inr ⟨.inr hfr, c, e1, ?_⟩⟩
  rcases l with ⟨k, _⟩ | ⟨_, c', e', z⟩
  ·have k : X.env.scope.names.lookup y = some .local := k
   rw [show X.env.scope.names.lookup y = _ from hc] at k
   cases k
  ·rw [e2] at e'
   cases e'
   exact (hcell y c _ e2 z).keeps kp
 ·obtain ⟨_, e⟩ := wY I1.ok L h
  obtain ⟨v, z⟩ := I1.cell y c e
  exact ⟨v, (hcell y c v e z).keeps kp⟩
theorem Zb (L : zO X.env.scope ls) : Acc (xp X Y qual ls f cd s H E) E := by
 intro e s1 x
 obtain ⟨a, cls, B, H', pins, σ, rfl, I, hd, kb, q⟩ := x
 show wpAny _ _ (leaving _ _) _ _ _
 unfold leaving
 refine wpAny_bind (wx (outer := Y.stack) I.ok.frames rfl rfl hd fun h1 hd1 up1 => ?_)
 obtain ⟨I1, kb1⟩ := qV I hd kb hd1.hand up1
 refine vj hd1 fun h2 hd2 up2 => ?_
 obtain ⟨I2, kb2⟩ := qV I1 hd1.hand kb1 hd2.hand up2
 obtain ⟨g1, g2, ⟨_, _, g3⟩, g4⟩ := hd2.hand
 refine ⟨a, cls, B, H', rfl, I2.os, I2.bare, I2.base, I2.hok, ⟨g1, g2, g3, g4⟩, fun b o hb hf r => kb2 b o hb (fun z => ?_) ?_, q⟩
 ·rcases List.mem_cons.mp (I2.vQ b z) with z | z
  ·rcases r with r | ⟨o', r⟩
   ·exact r (by rw [z]; exact I2.free)
   ·exact absurd (Nat.lt_of_lt_of_le (Heap.lt_size r) I2.ok.above) (by rw [z]; exact Nat.lt_irrefl _)
  ·exact hf z
 ·rcases r with r | ⟨o', r⟩
  ·exact .inl r
  ·exact .inr (.inl ⟨o', r, fun z => nomatch z⟩)
end
structure QL (s : Shared) (H : Hp) (fr : List Addr) (f c : Addr) (qual : Str) (params : Arguments) (body : Expr) (ls : Scope) (clos : List (Str × Addr)) : Prop where
 obj : ∃ pm ctv, s.heap.get? f = some (PySem.W.kla_obj "<lambda>" qual params body ls clos pm c ctv)
 fN : H f = none
 fF : f ∉ fr
 code : ∃ oc vs t, s.heap.get? c = some oc /\ oc.data = .fields vs /\ vs[1]? = some (.str qual t)
 cN : H c = none
 cF : c ∉ fr
section
variable {X Y : Cx} {qual : Str} {params : Arguments} {body : Expr} {ls : Scope} {f c : Addr} {pins : List (Addr × Obj)} {σ1 : St} {E : XK} {tb : TE} {k i : Nat} {x : Str} {p pos : Pos}
theorem Z3 (I1 : Inv X pins σ1 Y.H_0 Y.s_0) (eP : Y.prog = X.prog) (ew : Y.w = X.w) (eK : Y.K = X.K) (em : Y.mg = X.mg) (eb : Y.base = X.base) (eo : Y.outer = X.stack) (ex : Y.ex = []) (hfn : ∀ y, X.fn y = true) (L : zO X.env.scope ls)
  (la : QL Y.s_0 Y.H_0 Y.fs f c qual params body ls (qi X.env.cells ls.names [])) (hr : qZ (k + 1) Y.A) (acc : Acc Y E)
  (hbind : ∀ pm ctv, bindArgs (PySem.W.kla_fn "<lambda>" qual params body ls (qi X.env.cells ls.names []) pm (.ref c) ctv) ⟨[], []⟩ = pure [])
  (hb : ∀ (s : Shared) (H : Hp), PE (xp X Y qual ls f (.ref c) s H E) body tb) (hx : Y.N[i]? = some x) (hv : Vis Y.env.scope x) (hdb : autoParam ((x == ("__debug__" : Str)) = false) qH._auto_1) (hcd : autoParam ((x == ("__classdict__" : Str)) = false) qH._auto_1) :
  PE Y (.Call (.Name x p) [] [] pos) (fun σ H Q => σ[i]? = some (some (.ref f)) /\ tb σ1 H Q) := by
 intro pins' s σ H Q I ⟨hσ, hq⟩
 refine wpAny_Call_Name_kw (thn (uI hx hv hdb hcd pins' s σ H (fun v H' => v = .ref f /\ H' = H) I ⟨_, hσ, rfl, rfl⟩) fun u s2 ⟨v, H2, I2, ru, ev, eH⟩ => ?_)
 subst ev eH
 cases (show u = Value.ref f from ru)
 have keep : ∀ b o, Y.s_0.heap.get? b = some o -> Y.H_0 b = none -> b ∉ Y.fs -> s2.heap.get? b = some o /\ H2 b = none := fun b o e n nf =>
  ⟨I2.base.keep b o e n nf (by rw [ex]; simp), I2.base.free b o e n (by rw [ex]; simp)⟩
 obtain ⟨⟨pm, ctv, ho⟩, fN, fF, ⟨oc, vs, t, hoc, hod, hov⟩, cN, cF⟩ := la
 have ho2 := (keep f _ ho fN fF).1
 have hoc2 := (keep c _ hoc cN cF).1
 have hcalm : Y.A.handled = none := hr.hd
 refine PySem.W.callWith_F0 ⟨_, _, _, _, ho2⟩ ?_
 have lim : s2.heap.NoLimit := I2.nolimit
 have cells : ∀ y d, X.env.cells.lookup y = some d -> d ∉ Y.fs := fun y d e hd => by
  have z : d ∈ X.env.locals :: X.fs := I1.vQ d (by rw [<- eo]; exact hd)
  rcases List.mem_cons.mp z with z | z
  ·exact I1.cne y d e z
  ·obtain ⟨_, o1, e1, _⟩ := I1.ok.zo.mem z
   exact absurd (Nat.lt_of_lt_of_le (Heap.lt_size e1) (I1.ok.cab y d (hfn y) e)) (Nat.lt_irrefl _)
 have hcell : ∀ y d v, X.env.cells.lookup y = some d -> Y.s_0.heap.IsCell d v -> s2.heap.IsCell d v := fun y d v e ⟨o, h1, h2⟩ => ⟨o, (keep d o h1 (I1.freeC y d e) (cells y d e)).1, h2⟩
 have hfree : ∀ y d, X.env.cells.lookup y = some d -> H2 d = none := fun y d e => by
  obtain ⟨v, o, h1, _⟩ := I1.cell y d e
  exact (keep d o h1 (I1.freeC y d e) (cells y d e)).2
 have e0 : uQ X.prog X.w X.K X.mg X.base Y.A Y.stack s2 H2 := by
  have := I2.Xj
  rw [eP, ew, eK, em, eb] at this
  exact this
 have body_ok : codeAny (model Y.prog Y.w) Y.A (.call (.ref f) ⟨[], []⟩) (CR (CX1 Y.prog Y.w) Y.stack Y.prog Y.w H2 s2 Q E) s2 := by
  refine PySem.W.kla_callFunE hr.depth ho2 rfl L.co L.gen rfl ⟨c, oc, vs, t, rfl, hoc2, hod, hov⟩ ?_
  rw [hbind]
  refine wpAny_pure (wpAny_newFunctionEnv (fun y hy z => ?_) (fun y hy => nomatch hy) (fun h1 hns hsb => ⟨lim.fresh _ hsb, PySem.W.kla_codeExpr ?_⟩) L.kind)
  ·rcases L.only y hy with q | q <;> (rw [q] at z; cases z)
  ·have kp : ∀ b o, s2.heap.get? b = some o -> h1.get? b = some o := fun b o e => (hsb.2 b (Nat.ne_of_lt (Heap.lt_size e))).trans (Heap.get?_push_of_some _ e)
   have I3 : Inv (xp X Y qual ls f (.ref c) s2 H2 E) [] σ1 H2 { s2 with heap := h1, toks := s2.toks + 0 } := Zn L I1 hcell hfree hcalm e0 hns kp
   rw [eP, ew]
   have q := hb s2 H2 [] _ σ1 H2 Q I3 hq
   refine wpAny_mono q (fun v s' ⟨vv, H', J, rv, qq⟩ => ?_) fun e s' hs => ?_
   ·exact ⟨vv, H', J.os, J.bare, J.base, J.hok, rv, qq⟩
   ·exact hs
 refine wpAny_call (codeAny_mono body_ok fun r s' hq => ?_)
 cases r with
 | error e => exact zc acc pins' σ H2 s2 e s' I2 hq
 | ok fl =>
  cases fl with
  | ret u => exact I2.after hq
  | next => exact False.elim hq
  | brk => exact False.elim hq
  | cont => exact False.elim hq
end
section
variable {M : Model} {A : Around} {E : Value -> Shared -> Prop} {s : Shared} {e C C' : Addr} {oe : Obj} {Q : Bool -> Shared -> Prop}
theorem Wg (hC : ExcAt s.heap C) (he : s.heap.get? e = some oe) (hcls : oe.cls = .ref C) (h : Q true s) : wpAny M A (excMatches (.ref e) (.ref C)) Q E s := by
 obtain ⟨N, nm, q, bs, hdct, sn, sub, ab, col, dd, k0, k1, k2, k3, k5, mN, hC, hN, hi⟩ := hC
 obtain ⟨hp, g, d, tk, os⟩ := s
 exact wpAny_excMatches_sub_self hC he hcls (by decide) h
theorem VJ (hC : ExcAt s.heap C) (hC' : ExcAt s.heap C') (he : s.heap.get? e = some oe) (hcls : oe.cls = .ref C) (hne : C ≠ C') (h : Q false s) : wpAny M A (excMatches (.ref e) (.ref C')) Q E s := by
 obtain ⟨N, nm, q, bs, hdct, sn, sub, ab, col, dd, k0, k1, k2, k3, k5, mN, hC, hN, hi⟩ := hC
 obtain ⟨N', nm', q', bs', hdct', sn', sub', ab', col', dd', k0', k1', k2', k3', k5', mN', hC', hN', hi'⟩ := hC'
 obtain ⟨hp, g, d, tk, os⟩ := s
 have c1 : (Value.ref C' :: w1).contains (.type "BaseException") = true := by
  rw [List.contains_cons, show w1.contains (.type "BaseException") = true by decide, Bool.or_true]
 have c2 : (Value.ref C :: w1).contains (.ref C') = false := by
  rw [List.contains_cons]
  have : (Value.ref C' == Value.ref C) = false := by
   rw [beq_eq_false_iff_ne]
   exact fun z => hne (Value.ref.inj z).symm
  rw [this]
  rfl
 have f := tc_notTuple
 unfold excMatches
 repeat (first | (with_reducible refine wpAny_loadPart_at he ?_; rw [hcls]) | with_reducible refine wpAny_loadPart_at hC' ?_ | with_reducible refine wpAny_loadPart_at hC ?_ | (with_reducible refine wpAny_isSubtype_exc hC' ?_; rw [c1]) | (with_reducible refine wpAny_isSubtype_exc hC ?_; rw [c2]) | wp_step)
 exact h
end
noncomputable abbrev Cx.marked (X : Cx) (e : Value) : Cx := { X with A := X.A.mark (some e), calm := false, xe := fun _ _ => False }
section
variable {X : Cx} {pins : List (Addr × Obj)} {σ : St} {H : Hp} {s : Shared}
theorem yU (I : Inv X pins σ H s) (e : Value) : Inv (X.marked e) pins σ H s :=
 ⟨⟨I.ok.mod, I.ok.kind, I.ok.glob, I.ok.blt, I.ok.above, I.ok.inj, I.ok.has, I.ok.cab, fun z => Bool.noConfusion (show false = true from z), I.ok.frames, I.ok.stk, I.ok.exf, I.ok.bs, I.ok.bsz, I.ok.noex, I.ok.exfs, I.ok.zo, I.ok.frf⟩, I.os, I.bare, I.base, I.loc, I.cell, I.free, I.freeC, I.pin, I.hok, I.len⟩
theorem vN {e : Value} (I : Inv (X.marked e) pins σ H s) (ok : X.Ok) : Inv X pins σ H s := ⟨ok, I.os, I.bare, I.base, I.loc, I.cell, I.free, I.freeC, I.pin, I.hok, I.len⟩
end
inductive Hs (X : Cx) : List ExceptHandler -> List (Addr × Int) -> Prop
 | nil : Hs X [] []
 | cons {x : Str} {C : Addr} {k : Int} {r : List ExceptHandler} {l : List (Addr × Int)} {np p1 p2 p3 p4 p5 : Pos} {j : Nat} : Gl X x -> X.mg x = some (.ref C) -> qC X.K C = true -> (x == ("__debug__" : Str)) = false -> Hs X r l ->
   Hs X (.ExceptHandler (some (.Name x np)) none [.Return (some (.List [.UnaryOp .USub (.Constant (.int k) j p1) p2] p3)) p4] p5 :: r) ((C, k) :: l)
section
variable {X : Cx} {pins : List (Addr × Obj)} {σ : St} {H : Hp} {s : Shared} {a C : Addr} {B : Heap} {D : Ends}
theorem ZD {hs : List ExceptHandler} {l : List (Addr × Int)} (h : Hs X hs l) : ∀ {s : Shared} {k : Int}, qC X.K C = true -> Inv X pins σ H s -> wD B X.stack a (.ref C) s.heap -> (∀ b o, s.heap.get? b = some o -> b ∉ frs X.stack -> Rel X pins H b -> B.get? b = some o) ->
  l.lookup C = some k -> (∀ p, H p = none -> D.rt (.ref p) (upd H p (.lst [.int (-k)]))) -> wpAny (model X.prog X.w) X.A (handleBy (.ref a) X.env hs) (SP X pins D) X.xe s := by
 induction h with
 | nil => intro s k _ _ _ _ hl; cases hl
 | @cons x C' k' r l np p1 p2 p3 p4 p5 j hg hm hC' hd _ ih =>
  intro s k hC I ha kb hl q
  have em := hC
  refine wpAny_handleBy_cons (codeAny_handlers_test ?_) (by intro z; cases z)
  have IM := yU I (.ref a)
  refine zJ (X := X.marked (.ref a)) IM hg hm ?_ hd
  obtain ⟨oe, vs, a0, he, hcls, hd', h0, rr⟩ := ha.2.2.2
  by_cases hcc : C = C'
  ·subst hcc
   have hk : k' = k := by
    rw [List.lookup_cons_self] at hl
    exact Option.some.inj hl
   subst hk
   refine Wg (vW I.kIn hC) he hcls ?_
   show codeAny _ _ _ _ _
   refine codeAny_handlers_suite (vj ha fun h2 ha2 up => ?_)
   obtain ⟨I2, kb2⟩ := qV I ha.hand kb ha2.hand up
   have IM2 := yU I2 (.ref a)
   have pe : PSs (X.marked (.ref a)) [.Return (some (.List [.UnaryOp .USub (.Constant (.int k') j p1) p2] p3)) p4] _ := wG (z8 (u6 (vA (Yp WY Qe) wH)))
   refine wpAny_mono (pe pins _ σ H D IM2 ⟨k', rfl, by show 1 <= sizeLine; decide, q⟩) (fun f s3 hs => ?_) fun _ _ z => z.elim
   cases f with
   | ret u =>
    obtain ⟨v, σ', H', J, rv, qq⟩ := hs
    exact ⟨v, σ', H', vN J I.ok, rv, qq⟩
   | next => obtain ⟨σ', H', J, qq⟩ := hs; exact ⟨σ', H', vN J I.ok, qq⟩
   | brk => obtain ⟨σ', H', J, qq⟩ := hs; exact ⟨σ', H', vN J I.ok, qq⟩
   | cont => obtain ⟨σ', H', J, qq⟩ := hs; exact ⟨σ', H', vN J I.ok, qq⟩
  ·refine VJ (vW I.kIn hC) (vW I.kIn hC') he hcls hcc ?_
   show wpAny _ _ _ _ _ _
   refine ih hC I ha kb ?_ q
   rw [List.lookup_cons] at hl
   rw [show (C == C') = false from beq_eq_false_iff_ne.mpr hcc] at hl
   exact hl
end
noncomputable def YA (K : PySem.W.Frag) (l : List (Addr × Int)) (rt : VK) : XK := fun c _ H => ∃ C k, c = .ref C /\ qC K C = true /\ l.lookup C = some k /\ ∀ p, H p = none -> rt (.ref p) (upd H p (.lst [.int (-k)]))
noncomputable abbrev Cx.V2 (X : Cx) (pins : List (Addr × Obj)) : Cx := { X with pn := X.pn ++ pins }
theorem WR {X : Cx} {pins : List (Addr × Obj)} {σ : St} {H : Hp} {s : Shared} (I : Inv X pins σ H s) : Inv (X.V2 pins) [] σ H s :=
 ⟨⟨I.ok.mod, I.ok.kind, I.ok.glob, I.ok.blt, I.ok.above, I.ok.inj, I.ok.has, I.ok.cab, I.ok.hd, I.ok.frames, I.ok.stk, I.ok.exf, I.ok.bs, I.ok.bsz, I.ok.noex, I.ok.exfs, I.ok.zo, I.ok.frf⟩, I.os, I.bare, I.base, I.loc, I.cell, I.free, I.freeC,
  fun p hp => I.pin p (by have z : p ∈ (X.pn ++ pins) ++ [] := hp; rwa [List.append_nil] at z), I.hok, I.len⟩
theorem vU {X : Cx} {pins pins' : List (Addr × Obj)} {σ : St} {H : Hp} {s : Shared} (I : Inv (X.V2 pins) pins' σ H s) (ok : X.Ok) : Inv X pins σ H s :=
 ⟨ok, I.os, I.bare, I.base, I.loc, I.cell, I.free, I.freeC, fun p hp => I.pin p (List.mem_append_left _ hp), I.hok, I.len⟩
theorem YE {X : Cx} {body : List Stmt} {h0 : ExceptHandler} {hs : List ExceptHandler} {l : List (Addr × Int)} {pos : Pos} {tb : Ends -> TS} {L : Addr} (hst : X.stack = X.env :: X.outer) (hfr : X.env.frame = some L) (hH : Hs X (h0 :: hs) l)
  (hb : ∀ (D : Ends) (pins : List (Addr × Obj)), PSs ((X.V2 pins).wU (Arr (X.V2 pins) (YA X.K l D.rt))) body (tb D)) : PS X (.Try body (h0 :: hs) [] [] pos) (fun D σ H => tb D D σ H) := by
 intro pins s σ H D I h
 refine wpAny_Try_except (wpAny_mono (hb D pins [] s σ H D ((WR I).wU _) h) (fun f s1 q => ?_) fun e s1 x => ?_)
 ·have q := q.vK
  cases f with
  | next => obtain ⟨σ', H', J, qq⟩ := q; exact wpAny_execs_nil ⟨σ', H', vU J I.ok, qq⟩
  | ret v => obtain ⟨v, σ', H', J, r, qq⟩ := q; exact ⟨v, σ', H', vU J I.ok, r, qq⟩
  | brk => obtain ⟨σ', H', J, qq⟩ := q; exact ⟨σ', H', vU J I.ok, qq⟩
  | cont => obtain ⟨σ', H', J, qq⟩ := q; exact ⟨σ', H', vU J I.ok, qq⟩
 ·obtain ⟨a, cls, B, H', pins', σ', rfl, J, hd, kb, C, k, rfl, hC, hl, q⟩ := x
  have hfrm : X.A.frames = some (X.env :: X.outer) := by rw [<- hst]; exact J.ok.frames
  have J := vU J I.ok
  have hd : Hand B X.stack a (.ref C) s1.heap := hd
  have kb : ∀ b o, s1.heap.get? b = some o -> b ∉ frs X.stack -> Rel X pins H' b -> B.get? b = some o := fun b o h1 h2 r => kb b o h1 h2 (by
   rcases r with r | r | r | r | ⟨p, hp, r⟩
   ·exact .inl r
   ·exact .inr (.inl r)
   ·exact .inr (.inr (.inl r))
   ·exact .inr (.inr (.inr (.inl r)))
   ·exact .inr (.inr (.inr (.inr ⟨p, List.mem_append_left _ hp, r⟩))))
  have hd0 := hd
  rw [hst] at hd0
  refine wx hfrm hfr hfr hd0 fun h1 hd1 up1 => ?_
  rw [<- hst] at hd1
  obtain ⟨I1, kb1⟩ := qV J hd kb hd1.hand up1
  refine vj hd1 fun h2 hd2 up2 => ?_
  obtain ⟨I2, kb2⟩ := qV I1 hd1.hand kb1 hd2.hand up2
  exact ZD hH hC I2 hd2 kb2 hl q
theorem jj {X : Cx} {pins : List (Addr × Obj)} {σ : St} {H : Hp} {s : Shared} {P : Addr} {ps more : Array Value} {h' : Heap} {tk : Nat} (I : Inv X pins σ H s) (hP : H P = some (.tbl ps)) (hx : Heap.ExtBut P s.heap h')
  (hP' : h'.get? P = some { cls := .none, data := .fields (ps ++ more) }) : Inv X pins σ (upd H P (.tbl (ps ++ more))) { s with heap := h', toks := tk } := by
 have ne : ∀ b, H b = none -> b ≠ P := fun b n z => by rw [z, hP] at n; cases n
 have ne2 : ∀ b u, H b = some u -> (∀ ps, u ≠ .tbl ps) -> b ≠ P := fun b u n q z => by rw [z, hP] at n; exact q ps (Option.some.inj n).symm
 refine I.un ⟨fun b o e n _ _ => hx b o (ne b n) e, fun b o e n _ _ => ⟨o.slots, hx b o (ne b n) e⟩, fun b o e n _ => by rw [qe (ne b n)]; exact n, fun b o e _ => ?_, fun b xs e => by rw [qe (ne2 b _ e fun _ z => nomatch z)]; exact e,
  fun b o u e => by rw [qe (ne2 b _ e fun _ z => nomatch z)]; exact e, fun b qs e => ?_⟩ fun b u e => ?_
 ·by_cases hb : b = P
  ·rw [hb]; exact ⟨_, hP'⟩
  ·exact ⟨o, hx b o hb e⟩
 ·by_cases hb : b = P
  ·subst hb
   rw [hP] at e
   cases e
   exact ⟨more, qo⟩
  ·exact ⟨#[], by rw [qe hb, e]; simp⟩
 ·by_cases hb : b = P
  ·subst hb
   rw [qo] at e
   cases e
   exact hP'
  ·rw [qe hb] at e
   refine (I.hok b u e).xO (fun c v hc q => ?_) (fun c q => ?_) fun c xs q => ?_
   ·refine hx c v ?_ q
    rcases hc with z | z
    ·rw [z]; exact hb
    ·exact ne2 c _ z fun _ z => nomatch z
   ·rw [qe (ne2 c _ q fun _ z => nomatch z)]; exact q
   ·rw [qe (ne2 c _ q fun _ z => nomatch z)]; exact q
theorem Xl {CX : CXT} {P : Program} {w : World} {K : PySem.W.Frag} {mg : Str -> Option Value} {base : Heap} {k : Nat} {f : Addr} {name qual : Str} {params : Arguments} {body : List Stmt} {scope : Scope} {dV kV doc pm cdv ct oc : Value} {an od : Option Addr}
  {osl : Array (Option Value)} {N ps : List Str} {A : Around} {outer : List Env} {s : Shared} {H : Hp} {args : Args} {us : List Value} {vs : List V} {Q : VK} {E : XK}
  (lk : K.lookup f = some ⟨oc, od, .func (PySem.W.fnOf name qual params body scope dV kV doc pm an cdv ct), osl⟩) (hcd : PySem.W.codeIn K cdv qual = true) (S : qr N ps scope) (hl : vs.length = ps.length) (hr : qZ (k + 1) A)
  (e0 : uQ P w K mg base A outer s H) (hb : BindsTo s (PySem.W.fnOf name qual params body scope dV kV doc pm an cdv ct) args (ps.zip us)) (r : Vals vs us)
  (hbody : ∃ t, PSs (we CX P w K mg base N qual scope f cdv A outer s H E) body t /\ t { nx := fun _ H' => Q .non H', rt := Q } (start N vs) H) :
  codeAny (model P w) A (.call (.ref f) args) (CR CX outer P w H s Q E) s := by
 have F := uj (P := P) (w := w) (mg := mg) (base := base) (CX := CX) (k := k) (sp := fun vs' H' Q' E' => vs'.length = ps.length /\ False) lk hcd S (fun _ _ _ _ z => z.1) fun _ _ _ _ _ _ _ _ z => z.2.elim
 have KX : K.In s.heap := e0.mod.kin.keeps fun b o e => (e0.bs b o e).1
 have lim : s.heap.NoLimit := e0.mod.nolimit.keeps fun b o e => (e0.bs b o e).1
 have hkind : ∀ y ∈ ps.zip us, scope.names.lookup y.1 = some .local \/ (scope.names.lookup y.1 = some .cell /\ ((cellsFrom (s.heap.objs.size + 1) scope.names []).lookup y.1).isSome = true) := fun ⟨n, v⟩ hy => by
  rcases S.par n (List.of_mem_zip hy).1 with q | q
  ·exact .inl q
  ·exact .inr ⟨q, PySem.W.cellsFrom_some _ _ _ (.inl q)⟩
 refine codeAny_call_function hr.depth (KX _ _ lk) rfl S.co S.gen rfl (PySem.W.codeRec_of KX hcd) (hb _ _ _ _ ?_)
 refine wpAny_newFunctionEnv_cells S.kind hkind fun env he s1 x => ?_
 subst he
 refine ⟨lim.keeps x.toInCall.keep, codeAny_func ?_⟩
 obtain ⟨t, ht, hq⟩ := hbody
 have I : Inv (we CX P w K mg base N qual scope f cdv A outer s H E) [] (start N vs) H s1 := ui S hr.hd e0 hl r x
 refine wpAny_mono (ht [] s1 (start N vs) H _ I hq) (fun fl s' hs => ?_) fun e s' hs => hs
 have fin : ∀ {σ' : St} {H' : Hp} {v : V} {u : Value}, Inv (we CX P w K mg base N qual scope f cdv A outer s H E) [] σ' H' s' -> RelV v u -> Q v H' -> CE outer P w H s Q u s' :=
  fun {σ' H' v u} J rv q => ⟨v, H', J.os, J.bare, J.base, J.hok, rv, q⟩
 cases fl with
 | ret u =>
  obtain ⟨v, σ', H', J, rv, q⟩ := hs
  exact fin J rv q
 | next =>
  obtain ⟨σ', H', J, q⟩ := hs
  exact fin (v := V.non) (u := Value.none) J rfl q
 | brk =>
  obtain ⟨_, _, _, q⟩ := hs
  exact False.elim q
 | cont =>
  obtain ⟨_, _, _, q⟩ := hs
  exact False.elim q
theorem xu {X : Cx} {E : XK} : Acc (X.wU (Arr X E)) E := fun e s' x => by
 obtain ⟨a, cls, B, H', pins, σ, e1, I, hd, kb, q⟩ := x
 exact ⟨a, cls, B, H', pins, σ, e1, I.vK, hd, kb, q⟩
structure qU (mg : Str -> Option Value) (base : Heap) (c P : Addr) : Prop where
 code : PySem.W.CodeHd base c P
 bm : ∃ bm ob, mg "__builtins__" = some (.ref bm) /\ bm ≠ builtinsNs /\ base.get? bm = some ob /\ ob.cls = .type "module" /\ ob.dict = some builtinsNs /\ ob.data = .plain
section
variable {X : Cx} {pins : List (Addr × Obj)} {σ : St} {H : Hp} {s : Shared} {c P : Addr} {params : Arguments} {body : Expr} {ls : Scope} {lpos : Pos} {E : Value -> Shared -> Prop} {Q : Value -> Shared -> Prop}
theorem WM (I : Inv X pins σ H s) (BL : qU X.mg X.base c P) (hc : X.env.code = .ref c) (hP : H P = some (.tbl #[])) (L : zO X.env.scope ls) (hdef : defaultsOf params X.env = ([], []))
  (h : ∀ (s1 : Shared) (more : Array Value) (f c' : Addr), Inv X pins σ (upd H P (.tbl more)) s1 -> QL s1 (upd H P (.tbl more)) (frs X.stack) f c' (X.env.qual ++ "<lambda>") params body ls (qi X.env.cells ls.names []) -> Q (.ref f) s1) :
  wpAny (model X.prog X.w) X.A (eval (.Lambda params body ls lpos) X.env) Q E s := by
 have hPo : s.heap.get? P = some (PySem.W.tabObj #[]) := I.hok P _ hP
 have hg := I.mod.glob.keeps I.bk
 obtain ⟨bm, ob, b1, b2, b3, b4, b5, b6⟩ := BL.bm
 have nP : ∀ b o, X.base.get? b = some o -> b ≠ P := fun b o e z => by
  have := (I.bs b o e).2
  rw [z, hP] at this
  cases this
 have hgP : mainGlobals ≠ P := by
  obtain ⟨o, es, ep, e, _⟩ := I.mod.glob
  exact nP _ o e
 have hbG : bm ≠ mainGlobals := fun z => by
  obtain ⟨o, es, ep, e, hd, _⟩ := I.mod.glob
  rw [z, e] at b3
  cases b3
  rw [hd] at b6
  cases b6
 have hclos : closureFor ls X.env = pure (qi X.env.cells ls.names []) := zv fun y hy e => I.ok.has _ (.inl (L.free y hy e))
 refine PySem.W.kla_eval hdef (PySem.W.kla_makeFunction (mg := X.mg) (P := P) hclos I.ok.glob hg hc (BL.code.keeps I.bk) hPo trivial rfl hgP ⟨bm, ob, b1, b2, hbG, nP bm ob b3, I.bk bm ob b3, b4, b5, b6⟩ fun c' ctv h' tk hx hge hlt hrec htb => ?_)
 have I1 := jj (tk := tk) I hP hx htb
 have hPlt : P < s.heap.objs.size := Heap.lt_size hPo
 obtain ⟨c2, oc, vs, t, e2, hoc, hd, hv⟩ := hrec
 cases e2
 have cN : upd H P (.tbl (#[] ++ #[rawInt lpos.line, rawInt lpos.col, .ref c'])) c' = none := by
  rw [qe (Nat.ne_of_gt (Nat.lt_of_lt_of_le hPlt hge))]
  exact I.hok.fresh hge
 have I2 := I1.kept (h' := h'.push (PySem.W.kla_obj "<lambda>" (X.env.qual ++ "<lambda>") params body ls (qi X.env.cells ls.names []) ((X.mg "__name__").getD .none) c' ctv)) (t' := tk) fun b o e => Heap.get?_push_of_some _ e
 have notF : ∀ b, s.heap.objs.size <= b -> b ∉ frs X.stack := fun b hb z => by
  rcases List.mem_cons.mp (I.vQ b z) with z | z
  ·exact absurd (Nat.lt_of_lt_of_le I.lt hb) (by rw [z]; exact Nat.lt_irrefl _)
  ·exact I.YF hb z
 exact h _ _ _ c' I2 ⟨⟨_, ctv, Heap.get?_push_size _ rfl⟩, I1.hok.fresh (Nat.le_refl _), notF _ (Nat.le_trans hge (Nat.le_of_lt hlt)), ⟨oc, vs, t, Heap.get?_push_of_some _ hoc, hd, hv⟩, cN, notF _ hge⟩
end
noncomputable def uZ (hs : List ExceptHandler) (q1 q2 q3 q4 q5 q6 q7 q8 q9 q10 : Pos) (j : Nat) : List Stmt :=
 [.Try [.Assign [.Name "told" q1] (.Call (.Name "work" q2) [] [] q3) q4] hs [] [] q5, .Return (some (.BinOp (.List [.Constant (.int 0) j q6] q7) .Add (.Name "told" q8) q9)) q10]
noncomputable def UU (Q : VK) : VK := fun v H => ∃ b zs, v = .ref b /\ H b = some (.lst zs) /\ zs.length + 1 <= sizeLine /\ ∀ q, H q = none -> ∀ p, upd H q (.lst [.int 0]) p = none -> Q (.ref p) (upd (upd H q (.lst [.int 0])) p (.lst (.int 0 :: zs)))
noncomputable def Yo (f : Addr) (Q : VK) : VK := fun v H => YZ (tOp Uc (Ux (W5 (tC (.int 0)) YY)) (X8 1)) { nx := fun _ H' => Q .non H', rt := Q } [some (.ref f), some v] H
theorem WG {f : Addr} {Q : VK} {v : V} {H : Hp} (h : UU Q v H) : Yo f Q v H := by
 obtain ⟨b, zs, rfl, hb, hz, q⟩ := h
 refine ⟨by show 1 <= sizeLine; decide, fun p hp => ⟨_, rfl, p, b, [.int 0], zs, rfl, rfl, qo, ?_, by show 1 + zs.length <= sizeLine; lia, q p hp⟩⟩
 rw [qe (qp hb hp)]
 exact hb
noncomputable def Ug (K : PySem.W.Frag) (l : List (Addr × Int)) (P : Addr) (tb : XK -> TE) : TE := fun σ H Q => H P = some (.tbl #[]) /\ ∀ more f, tb (YA K l Q) σ (upd H P (.tbl more)) (Yo f Q)
section
variable {X : Cx} {c P f2 : Addr} {params : Arguments} {body : Expr} {ls : Scope} {lpos p pos : Pos} {tb : XK -> TE} {k : Nat} {l : List (Addr × Int)} {E : XK}
 {args2 : Arguments} {sc2 : Scope} {dV kV doc pm cdv ct oc : Value} {an od : Option Addr} {osl : Array (Option Value)} {h0 : ExceptHandler} {hs : List ExceptHandler} {q1 q2 q3 q4 q5 q6 q7 q8 q9 q10 : Pos} {j : Nat}
theorem jF (BL : qU X.mg X.base c P) (hc : X.env.code = .ref c) (hfn : ∀ y, X.fn y = true) (hst : X.stack = X.env :: X.outer) (L : zO X.env.scope ls) (hdef : defaultsOf params X.env = ([], [])) (hr : qZ (k + 2) X.A)
  (hg : Gl X "answered") (hm : X.mg "answered" = some (.ref f2)) (hk : PySem.W.keepIn X.K (.ref f2) = true)
  (lk : X.K.lookup f2 = some ⟨oc, od, .func (PySem.W.fnOf "answered" "answered" args2 (uZ (h0 :: hs) q1 q2 q3 q4 q5 q6 q7 q8 q9 q10 j) sc2 dV kV doc pm an cdv ct), osl⟩) (hcd : PySem.W.codeIn X.K cdv "answered" = true)
  (S : qr ["work", "told"] ["work"] sc2) (hw : sc2.names.lookup ("work" : Str) = some .local) (ht : sc2.names.lookup ("told" : Str) = some .local)
  (hb2 : ∀ (s : Shared) (u : Value), BindsTo s (PySem.W.fnOf "answered" "answered" args2 (uZ (h0 :: hs) q1 q2 q3 q4 q5 q6 q7 q8 q9 q10 j) sc2 dV kV doc pm an cdv ct) ⟨[u], []⟩ ((["work"] : List Str).zip [u]))
  (hH : ∀ (s : Shared) (H : Hp), Hs (we (CX1 X.prog X.w) X.prog X.w X.K X.mg X.base ["work", "told"] "answered" sc2 f2 cdv X.A X.stack s H E) (h0 :: hs) l)
  (hbind : ∀ c' clos pm ctv, bindArgs (PySem.W.kla_fn "<lambda>" (X.env.qual ++ "<lambda>") params body ls clos pm (.ref c') ctv) ⟨[], []⟩ = pure [])
  (hE : Acc X E)
  (hb : ∀ (Y : Cx) (f : Addr) (cd : Value) (s : Shared) (H : Hp) (E' : XK), qZ k (Y.A.deeper (vJ X (X.env.qual ++ "<lambda>") ls f cd s)) -> PE (xp X Y (X.env.qual ++ "<lambda>") ls f cd s H E') body (tb E')) :
  PE X (.Call (.Name "answered" p) [.Lambda params body ls lpos] [] pos) (Ug X.K l P tb) := by
 intro pins s σ H Q I ⟨hP, h⟩
 refine wpAny_Call_Name_kw (zJ I hg hm ?_ (by decide))
 refine PySem.W.callWith_K (h₀ := X.base) I.ok.mod.kin hk ?_ rfl rfl
 refine Calls.spliced_cons (WM I BL hc hP L hdef fun s1 more f c' I1 la => Calls.spliced_nil ⟨I1.kIn, ?_⟩)
 have hr1 : qZ (k + 1 + 1) X.A := hr
 -- the def's body
 have body_ok : codeAny (model X.prog X.w) X.A (.call (.ref f2) ⟨[.ref f], []⟩) (CR (CX1 X.prog X.w) X.stack X.prog X.w (upd H P (.tbl more)) s1 Q E) s1 := by
  refine Xl (N := ["work", "told"]) (vs := [.ref f]) lk hcd S rfl hr1 I1.Xj (hb2 s1 (.ref f)) (.cons rfl .nil) ?_
  generalize hY : we (CX1 X.prog X.w) X.prog X.w X.K X.mg X.base ["work", "told"] "answered" sc2 f2 cdv X.A X.stack s1 (upd H P (.tbl more)) E = Y
  have hHs : Hs Y (h0 :: hs) l := by rw [<- hY]; exact hH s1 _
  have room : qZ (k + 1) Y.A := by rw [<- hY]; exact hr1.deeper _
  refine ⟨_, wu (YE (X := Y) (L := s1.heap.objs.size) (tb := fun D => Wd (fun σ' H' Q' => σ'[0]? = some (some (.ref f)) /\ tb (YA Y.K l D.rt) σ H' Q') (vz 1)) (by rw [<- hY]; rfl) (by rw [<- hY]; rfl) hHs fun D pins' => wG (uT (i := 1) (X := (Y.V2 pins').wU _) ?nd ?ni ?nl ?work ?sw ?fn)) (wG (z8 (Ym Xk (u6 (vA Qe wH)) (uI (i := 1) ?vi ?vv)))), ?_⟩
  case nd => subst hY; exact S.nd
  case ni => subst hY; rfl
  case nl => subst hY; exact .inl ht
  case sw => subst hY; rfl
  case fn => subst hY; exact .inl rfl
  case vi => subst hY; rfl
  case vv => subst hY; exact .inl ht
  case work =>
   subst hY
   exact Z3 (X := X) (k := k) I1 rfl rfl rfl rfl rfl rfl rfl hfn L la room xu (fun pm ctv => hbind c' _ pm ctv) (fun s' H' => hb _ f (.ref c') s' H' _ (room.deeper _)) rfl (.inl hw)
  ·subst hY
   exact ⟨rfl, h more f⟩
 refine wpAny_call (codeAny_mono body_ok fun r s' hq => ?_)
 cases r with
 | error e => exact zc hE pins σ _ s1 e s' I1 hq
 | ok fl =>
  cases fl with
  | ret u => exact I1.after hq
  | next => exact False.elim hq
  | brk => exact False.elim hq
  | cont => exact False.elim hq
end
end L2
namespace L2.Ir
open PySem
set_option genInjectivity true in
inductive D where
 | non | bl (b : Bool) | int (i : Int) | lst (xs : List D) | tup (xs : List D) | fn (x : Str) | obj (c : Str) (ns : List Str) (xs : List D)
noncomputable def D.sc : D -> Bool
 | .non => true
 | .bl _ => true
 | .int _ => true
 | _ => false
inductive Kd where
 | bo | sh | nw | fr
noncomputable def Kd.low : Kd -> Kd -> Kd
 | .bo, _ => .bo
 | _, .bo => .bo
 | .sh, _ => .sh
 | _, .sh => .sh
 | _, _ => .nw
set_option genInjectivity true in
inductive Rs (α : Type) where
 | ok (a : α) | er (c : Str) | no
noncomputable def Rs.bind {α β : Type} (x : Rs α) (f : α -> Rs β) : Rs β := match x with
 | .ok a => f a
 | .er c => .er c
 | .no => .no
@[simp] theorem Rs.vM {α β : Type} (a : α) (f : α -> Rs β) : (Rs.ok a).bind f = f a := rfl
inductive Sl where
 | un | val (d : D) (k : Bool) | own (ds : List D)
noncomputable abbrev Dl := List Sl
noncomputable abbrev DK := D × Kd
noncomputable abbrev RE := Dl -> Rs DK
noncomputable abbrev RA := Dl -> Rs (List DK)
noncomputable def qc (i : Nat) : RE := fun δ => match δ[i]? with
 | some (.val d k) => .ok (d, if k = true then .nw else .sh)
 | some (.own ds) => .ok (.lst ds, .bo)
 | _ => .no
noncomputable def rC (d : D) : RE := fun _ => .ok (d, .nw)
noncomputable def qF (f : DK -> DK -> Rs DK) (ra rb : RE) : RE := fun δ => (ra δ).bind fun x => (rb δ).bind fun y => f x y
noncomputable def rUn (f : DK -> Rs DK) (ra : RE) : RE := fun δ => (ra δ).bind f
noncomputable def kL (xs : List D) (k : Kd) : Kd := if xs.all D.sc = true then .fr else k
noncomputable abbrev LIM : Nat := 16777216
noncomputable def few (i : Int) : Prop := i.natAbs < 2 ^ 60000
noncomputable instance (i : Int) : Decidable (few i) := inferInstanceAs (Decidable (i.natAbs < 2 ^ 60000))
noncomputable def yp : DK -> DK -> Rs DK
 | (.int i, _), (.int j, _) => .ok (.int (i + j), .nw)
 | (.lst xs, k), (.lst ys, l) => if xs.length + ys.length <= LIM then .ok (.lst (xs ++ ys), kL (xs ++ ys) (k.low l)) else .no
 | _, _ => .no
noncomputable def Ui : DK -> DK -> Rs DK
 | (.int i, _), (.int j, _) => .ok (.int (i - j), .nw)
 | _, _ => .no
open Classical in
noncomputable def Qi : DK -> DK -> Rs DK
 | (.int i, _), (.int j, _) => if few i /\ few j then .ok (.int (i * j), .nw) else .no
 | (.lst xs, .fr), (.int j, _) => if (0 <= j /\ j < 1000000) /\ xs.length * j.toNat <= LIM then .ok (.lst (List.replicate j.toNat xs).flatten, kL (List.replicate j.toNat xs).flatten .nw) else .no
 | _, _ => .no
noncomputable def Vi : DK -> DK -> Rs DK
 | (.int i, _), (.int j, _) => if 0 <= j then .ok (.int (i / 2 ^ j.toNat), .nw) else .no
 | _, _ => .no
noncomputable def Uj (f : Int -> Int -> Int) : DK -> DK -> Rs DK
 | (.int i, _), (.int j, _) => .ok (.int (f i j), .nw)
 | _, _ => .no
noncomputable def xU (f : Int -> Int -> Bool) : DK -> DK -> Rs DK
 | (.int i, _), (.int j, _) => .ok (.bl (f i j), .nw)
 | _, _ => .no
noncomputable def intsOf : List D -> Option (List Int)
 | [] => some []
 | .int i :: r => (intsOf r).map (i :: ·)
 | _ => none
noncomputable def oEq (neg : Bool) : DK -> DK -> Rs DK
 | (.int i, _), (.int j, _) => .ok (.bl (if neg = true then !decide (i = j) else decide (i = j)), .nw)
 | (.bl i, _), (.bl j, _) => .ok (.bl (if neg = true then !decide (i = j) else decide (i = j)), .nw)
 | (.lst xs, _), (.lst ys, _) => match intsOf xs, intsOf ys with
  | some ns, some ms => .ok (.bl (if neg = true then !decide (ns = ms) else decide (ns = ms)), .nw)
  | _, _ => .no
 | _, _ => .no
noncomputable def YH : DK -> Rs DK
 | (.int i, _) => .ok (.int (-i), .nw)
 | _ => .no
noncomputable def y9 (n : Nat) (i : Int) : Option Nat := if 0 <= i then (if i < n then some i.toNat else none) else if -(n : Int) <= i then some (i + n).toNat else none
noncomputable def oIx : DK -> DK -> Rs DK
 | (.lst xs, k), (.int i, _) => match (y9 xs.length i).bind fun j => xs[j]? with
  | some d => .ok (d, k.low .nw)
  | none => .no
 | (.tup xs, k), (.int i, _) => match (y9 xs.length i).bind fun j => xs[j]? with
  | some d => .ok (d, k.low .nw)
  | none => .no
 | _, _ => .no
noncomputable def pick {α : Type} (xs : List α) (lo hi st : Option Int) : List α :=
 (sliceRange (sliceBounds lo hi st xs.length).1 (sliceBounds lo hi st xs.length).2.1 (sliceBounds lo hi st xs.length).2.2).filterMap (xs[·]?)
noncomputable abbrev RO := Dl -> Rs (Option Int)
noncomputable def yR : RO := fun _ => .ok none
noncomputable def zQ (r : RE) : RO := fun δ => (r δ).bind fun x => match x.1 with
 | .int i => .ok (some i)
 | _ => .no
noncomputable def y6 (ra : RE) (rl rh rs : RO) : RE := fun δ => (ra δ).bind fun x => (rl δ).bind fun lo => (rh δ).bind fun hi => (rs δ).bind fun st => match x.1 with
 | .lst xs => if st = some 0 then .no else .ok (.lst (pick xs lo hi st), kL (pick xs lo hi st) (x.2.low .nw))
 | _ => .no
noncomputable def qu : RA := fun _ => .ok []
noncomputable def qf (ra : RE) (rr : RA) : RA := fun δ => (ra δ).bind fun x => (rr δ).bind fun xs => .ok (x :: xs)
noncomputable def qw : List DK -> Kd
 | [] => .nw
 | x :: r => if x.1.sc = true then qw r else x.2.low (qw r)
noncomputable def zY (r : RA) : RE := fun δ => (r δ).bind fun xs => if xs.length <= LIM then .ok (.lst (xs.map (·.1)), kL (xs.map (·.1)) (qw xs)) else .no
noncomputable abbrev Fn := List D -> Rs (D × Bool)
noncomputable def kB (b : Bool) : Kd := if b = true then .fr else .nw
noncomputable def qm (g : Fn) (r : RA) : RE := fun δ => (r δ).bind fun xs => (g (xs.map (·.1))).bind fun y => .ok (y.1, kB y.2)
noncomputable def z4 (f : List DK -> Rs DK) (r : RA) : RE := fun δ => (r δ).bind f
noncomputable def yo : List DK -> Rs DK
 | [(.lst xs, _)] => .ok (.int xs.length, .nw)
 | [(.tup xs, _)] => .ok (.int xs.length, .nw)
 | _ => .no
noncomputable abbrev RT := Dl -> Rs Bool
noncomputable def tBl (r : RE) : RT := fun δ => (r δ).bind fun x => match x.1 with
 | .bl b => .ok b
 | _ => .no
noncomputable def Vj (a b : RT) : RT := fun δ => (a δ).bind fun x => if x = true then .ok true else b δ
noncomputable def jK (a : RT) : RT := fun δ => (a δ).bind fun x => .ok (!x)
noncomputable def VL (t : RT) (a b : RE) : RE := fun δ => (t δ).bind fun x => if x = true then a δ else b δ
noncomputable abbrev RI := Dl -> Rs (Bool × List DK)
noncomputable def Kd.safe : Kd -> Bool
 | .bo => false
 | _ => true
noncomputable def iOf (r : RE) : RI := fun δ => (r δ).bind fun x => match x.1 with
 | .lst xs => .ok (x.2.safe, xs.map fun d => (d, x.2.low .nw))
 | _ => .no
noncomputable def zU (r : RE) : RI := fun δ => (r δ).bind fun x => match x.1 with
 | .int i => if -1000000 < i /\ i < 1000000 then .ok (true, (List.range i.toNat).map fun (k : Nat) => (D.int k, .nw)) else .no
 | _ => .no
noncomputable def V1 (r q : RE) : RI := fun δ => (r δ).bind fun x => (q δ).bind fun y => match x.1, y.1 with
 | .lst xs, .lst ys => .ok (x.2.safe && y.2.safe, (xs.zip ys).map fun p => (.tup [p.1, p.2], x.2.low y.2))
 | _, _ => .no
inductive Tg where
 | one (i : Nat) | two (i j : Nat)
noncomputable def wt (x : DK) : Sl := .val x.1 (match x.2 with | .nw => true | .fr => true | _ => false)
noncomputable def put (i : Nat) (x : DK) (δ : Dl) : Option Dl := match x with
 | (d, .bo) => if d.sc = true then some (δ.set i (.val d true)) else none
 | (d, k) => some (δ.set i (wt (d, if d.sc = true then .nw else k)))
noncomputable def Tg.put : Tg -> DK -> Dl -> Option Dl
 | .one i, x, δ => Ir.put i x δ
 | .two i j, (.tup [a, b], k), δ => (Ir.put i (a, k) δ).bind (Ir.put j (b, k))
 | _, _, _ => none
inductive Out where
 | nx (δ : Dl) | rt (d : D) (k : Bool) | bk (δ : Dl) | ct (δ : Dl) | er (c : Str) | no
noncomputable abbrev RS := Dl -> Out
noncomputable def zV : RS := fun δ => .nx δ
noncomputable def Out.andThen (o : Out) (f : RS) : Out := match o with
 | .nx δ => f δ
 | o => o
noncomputable def wg (a b : RS) : RS := fun δ => (a δ).andThen b
noncomputable def frz : Sl -> Sl
 | .own ds => .val (.lst ds) true
 | x => x
noncomputable def freeze (δ : Dl) : Dl := δ.map frz
noncomputable def z0 (i : Nat) (r : RE) : RS := fun δ => match r δ with
 | .ok (.lst ds, .fr) => .nx (δ.set i (.own ds))
 | .ok (d, .bo) => if d.sc = true then .nx (δ.set i (.val d true)) else .nx ((freeze δ).set i (.val d false))
 | .ok (d, k) => .nx (δ.set i (wt (d, if d.sc = true then .nw else k)))
 | .er c => .er c
 | .no => .no
noncomputable def ve (r : RE) : RS := fun δ => match r δ with
 | .ok _ => .nx δ
 | .er c => .er c
 | .no => .no
noncomputable def sIf (t : RT) (a b : RS) : RS := fun δ => match t δ with
 | .ok x => if x = true then a δ else b δ
 | .er c => .er c
 | .no => .no
noncomputable def vS (r : RE) : RS := fun δ => match r (freeze δ) with
 | .ok (.lst ds, .fr) => .rt (.lst ds) true
 | .ok (d, .nw) => .rt d false
 | .ok (d, _) => if d.sc = true then .rt d false else .no
 | .er c => .er c
 | .no => .no
noncomputable def wc (c : Str) : RS := fun _ => .er c
noncomputable def turns (tg : Tg) (body : RS) : List DK -> RS
 | [], δ => .nx δ
 | x :: r, δ => match tg.put x δ with
  | none => .no
  | some δ1 => match body δ1 with
   | .nx δ2 => turns tg body r δ2
   | .ct δ2 => turns tg body r δ2
   | .bk δ2 => .nx δ2
   | o => o
noncomputable def Wc (tg : Tg) (src : RI) (body : RS) : RS := fun δ => match src δ with
 | .ok (true, xs) => turns tg body xs δ
 | .ok (false, _) => .no
 | .er c => .er c
 | .no => .no
noncomputable def uc (tg : Tg) (i : Nat) (body : RS) : RS := fun δ => Wc tg (iOf (qc i)) body (match δ[i]? with
 | some (.own ds) => δ.set i (.val (.lst ds) true)
 | _ => δ)
noncomputable def items (tg : Tg) (t : RT) (r : RE) (δ : Dl) : List DK -> Rs (List DK)
 | [] => .ok []
 | x :: xs => match tg.put x δ with
  | none => .no
  | some δ1 => (t δ1).bind fun b => if b = true then (r δ1).bind fun y => (items tg t r δ xs).bind fun ys => .ok (y :: ys) else items tg t r δ xs
noncomputable def wO : RT := fun _ => .ok true
noncomputable def clear (δ : Dl) : List Nat -> Dl
 | [] => δ
 | v :: vs => (clear δ vs).set v .un
noncomputable def vT (tg : Tg) (src : RI) (t : RT) (r : RE) (vs : List Nat) : RE := fun δ => (src δ).bind fun xs => if xs.2.length < LIM then (items tg t r (clear δ vs) xs.2).bind fun ys =>
 .ok (.lst (ys.map (·.1)), kL (ys.map (·.1)) (qw ys)) else .no
noncomputable def Tg.within : Tg -> List Nat -> Prop
 | .one i, vs => i ∈ vs
 | .two i j, vs => i ∈ vs /\ j ∈ vs
end L2.Ir
namespace L2.Ir
open PySem PySem.Spec PyProof.Rows
section
variable (mg : Str -> Option Value) (K : PySem.W.Frag)
mutual
/-- the value v stands for the datum d, all addresses within in G -/
inductive Rp (G : Addr -> Prop) (H : Hp) : V -> D -> Prop
 | non : Rp G H .non .non
 | bl (b : Bool) : Rp G H (.bl b) (.bl b)
 | int (i : Int) : Rp G H (.int i) (.int i)
 | fn {x : Str} {a : Addr} : mg x = some (.ref a) -> Rp G H (.ref a) (.fn x)
 | lst {a : Addr} {xs : List V} {ds : List D} : G a -> Rd H a (.lst xs) -> qd G H xs ds -> Rp G H (.ref a) (.lst ds)
 | lstK {a : Addr} {xs : List V} {ds : List D} : (∀ H', SqL K H' a xs) -> qd G H xs ds -> Rp G H (.ref a) (.lst ds)
 | tup {a : Addr} {xs : List V} {ds : List D} : G a -> Rd H a (.tup xs) -> qd G H xs ds -> Rp G H (.ref a) (.tup ds)
 | tupK {a : Addr} {xs : List V} {ds : List D} : (∀ H', SqT K H' a xs) -> qd G H xs ds -> Rp G H (.ref a) (.tup ds)
 | obj {a C dx : Addr} {c : Str} {ns : List Str} {xs : List V} {ds : List D} : G a -> mg c = some (.ref C) -> H a = some (.ins C dx (ns.zip xs)) -> ns.length = xs.length -> qd G H xs ds -> Rp G H (.ref a) (.obj c ns ds)
inductive qd (G : Addr -> Prop) (H : Hp) : List V -> List D -> Prop
 | nil : qd G H [] []
 | cons {v : V} {vs : List V} {d : D} {ds : List D} : Rp G H v d -> qd G H vs ds -> qd G H (v :: vs) (d :: ds)
end
end
section
variable {mg : Str -> Option Value} {K : PySem.W.Frag}
theorem W2 {H H' : Hp} {a : Addr} {u : HO} (h : Rd H a u) (k : ∀ o, H a = some o -> H' a = some o) : Rd H' a u := by
 rcases h with h | ⟨o, h⟩
 ·exact .inl (k _ h)
 ·exact .inr ⟨o, k _ h⟩
theorem uA {H : Hp} {a : Addr} {u : HO} (h : Rd H a u) : H a ≠ none := by
 rcases h with h | ⟨o, h⟩ <;> (rw [h]; exact fun z => nomatch z)
theorem Rp.ofL {G : Addr -> Prop} {H : Hp} {a : Addr} {xs : List V} {ds : List D} (s : SqL K H a xs) (g : H a ≠ none -> G a) (r : qd mg K G H xs ds) : Rp mg K G H (.ref a) (.lst ds) := by
 rcases s with s | s
 ·exact .lst (g (uA s)) s r
 ·exact .lstK (fun _ => .inr s) r
mutual
theorem Rp.mono {G G' : Addr -> Prop} {H H' : Hp} (k : ∀ a, G a -> G' a /\ ∀ o, H a = some o -> H' a = some o) : ∀ (d : D) (v : V), Rp mg K G H v d -> Rp mg K G' H' v d
 | .non, _, h => by cases h; exact .non
 | .bl b, _, h => by cases h; exact .bl b
 | .int i, _, h => by cases h; exact .int i
 | .fn x, _, h => by cases h with | fn e => exact .fn e
 | .lst ds, _, h => by
  cases h with
  | lst g s r => exact .lst (k _ g).1 (W2 s (k _ g).2) (qd.mono k ds _ r)
  | lstK s r => exact .lstK s (qd.mono k ds _ r)
 | .tup ds, _, h => by
  cases h with
  | tup g s r => exact .tup (k _ g).1 (W2 s (k _ g).2) (qd.mono k ds _ r)
  | tupK s r => exact .tupK s (qd.mono k ds _ r)
 | .obj c ns ds, _, h => by
  cases h with
  | obj g m s l r => exact .obj (k _ g).1 m ((k _ g).2 _ s) l (qd.mono k ds _ r)
theorem qd.mono {G G' : Addr -> Prop} {H H' : Hp} (k : ∀ a, G a -> G' a /\ ∀ o, H a = some o -> H' a = some o) : ∀ (ds : List D) (vs : List V), qd mg K G H vs ds -> qd mg K G' H' vs ds
 | [], _, h => by cases h; exact .nil
 | d :: ds, _, h => by cases h with | cons a b => exact .cons (Rp.mono k d _ a) (qd.mono k ds _ b)
end
mutual
/-- tracked addresses are there -/
theorem Rp.there {G : Addr -> Prop} {H : Hp} : ∀ (d : D) (v : V), Rp mg K G H v d -> Rp mg K (fun a => G a /\ H a ≠ none) H v d
 | .non, _, h => by cases h; exact .non
 | .bl b, _, h => by cases h; exact .bl b
 | .int i, _, h => by cases h; exact .int i
 | .fn x, _, h => by cases h with | fn e => exact .fn e
 | .lst ds, _, h => by
  cases h with
  | lst g s r => exact .lst ⟨g, uA s⟩ s (qd.there ds _ r)
  | lstK s r => exact .lstK s (qd.there ds _ r)
 | .tup ds, _, h => by
  cases h with
  | tup g s r => exact .tup ⟨g, uA s⟩ s (qd.there ds _ r)
  | tupK s r => exact .tupK s (qd.there ds _ r)
 | .obj c ns ds, _, h => by
  cases h with
  | obj g m s l r => exact .obj ⟨g, by rw [s]; exact fun z => nomatch z⟩ m s l (qd.there ds _ r)
theorem qd.there {G : Addr -> Prop} {H : Hp} : ∀ (ds : List D) (vs : List V), qd mg K G H vs ds -> qd mg K (fun a => G a /\ H a ≠ none) H vs ds
 | [], _, h => by cases h; exact .nil
 | d :: ds, _, h => by cases h with | cons a b => exact .cons (Rp.there d _ a) (qd.there ds _ b)
end
theorem Rp.weak {G G' : Addr -> Prop} {H : Hp} {v : V} {d : D} (h : Rp mg K G H v d) (k : ∀ a, G a -> G' a) : Rp mg K G' H v d := h.mono (fun a g => ⟨k a g, fun _ e => e⟩)
theorem Rp.same {G : Addr -> Prop} {H H' : Hp} {v : V} {d : D} (h : Rp mg K G H v d) (s : qg H H') : Rp mg K G H' v d := h.mono (fun a g => ⟨g, fun o e => s a o e⟩)
theorem qd.weak {G G' : Addr -> Prop} {H : Hp} {v : List V} {d : List D} (h : qd mg K G H v d) (k : ∀ a, G a -> G' a) : qd mg K G' H v d := h.mono (fun a g => ⟨k a g, fun _ e => e⟩)
theorem qd.same {G : Addr -> Prop} {H H' : Hp} {v : List V} {d : List D} (h : qd mg K G H v d) (s : qg H H') : qd mg K G H' v d := h.mono (fun a g => ⟨g, fun o e => s a o e⟩)
noncomputable def toV : D -> V
 | .non => .non
 | .bl b => .bl b
 | .int i => .int i
 | _ => .non
theorem Rp.vg {G : Addr -> Prop} {H : Hp} : ∀ {d : D}, d.sc = true -> Rp mg K G H (toV d) d
 | .non, _ => .non
 | .bl b, _ => .bl b
 | .int i, _ => .int i
 | .lst _, h => nomatch h
 | .tup _, h => nomatch h
 | .fn _, h => nomatch h
 | .obj _ _ _, h => nomatch h
theorem Rp.sc {G : Addr -> Prop} {H : Hp} {v : V} {d : D} (h : Rp mg K G H v d) (s : d.sc = true) : v = toV d := by
 cases h <;> first | rfl | cases s
theorem qd.vg {G : Addr -> Prop} {H : Hp} : ∀ {ds : List D}, ds.all D.sc = true -> qd mg K G H (ds.map toV) ds
 | [], _ => .nil
 | d :: ds, h => by
  rw [List.all_cons, Bool.and_eq_true] at h
  exact .cons (.vg h.1) (qd.vg h.2)
theorem qd.sc {G : Addr -> Prop} {H : Hp} : ∀ {vs : List V} {ds : List D}, qd mg K G H vs ds -> ds.all D.sc = true -> vs = ds.map toV
 | _, [], .nil, _ => rfl
 | _, d :: ds, .cons a b, h => by
  rw [List.all_cons, Bool.and_eq_true] at h
  rw [a.sc h.1, qd.sc b h.2]
  rfl
theorem qd.len {G : Addr -> Prop} {H : Hp} : ∀ {vs : List V} {ds : List D}, qd mg K G H vs ds -> vs.length = ds.length
 | _, _, .nil => rfl
 | _, _, .cons _ b => by rw [List.length_cons, List.length_cons, qd.len b]
theorem qd.get {G : Addr -> Prop} {H : Hp} : ∀ {vs : List V} {ds : List D} {i : Nat} {v : V}, qd mg K G H vs ds -> vs[i]? = some v -> ∃ d, ds[i]? = some d /\ Rp mg K G H v d
 | _, _, i, _, .nil, e => by simp at e
 | _, _, 0, _, .cons a _, e => by simp at e; subst e; exact ⟨_, rfl, a⟩
 | _, _, i + 1, v, .cons _ b, e => by
  obtain ⟨d, h1, h2⟩ := qd.get (i := i) (v := v) b (by simpa using e)
  exact ⟨d, by simpa using h1, h2⟩
theorem qd.getD {G : Addr -> Prop} {H : Hp} : ∀ {vs : List V} {ds : List D} {i : Nat} {d : D}, qd mg K G H vs ds -> ds[i]? = some d -> ∃ v, vs[i]? = some v /\ Rp mg K G H v d
 | _, _, i, _, .nil, e => by simp at e
 | _, _, 0, _, .cons a _, e => by simp at e; subst e; exact ⟨_, rfl, a⟩
 | _, _, i + 1, d, .cons _ b, e => by
  obtain ⟨v, h1, h2⟩ := qd.getD (i := i) (d := d) b (by simpa using e)
  exact ⟨v, by simpa using h1, h2⟩
theorem qd.append {G : Addr -> Prop} {H : Hp} : ∀ {vs us : List V} {ds es : List D}, qd mg K G H vs ds -> qd mg K G H us es -> qd mg K G H (vs ++ us) (ds ++ es)
 | _, _, _, _, .nil, h => h
 | _, _, _, _, .cons a b, h => .cons a (qd.append b h)
theorem qd.rep {G : Addr -> Prop} {H : Hp} {vs : List V} {ds : List D} (h : qd mg K G H vs ds) : ∀ n : Nat, qd mg K G H (List.replicate n vs).flatten (List.replicate n ds).flatten
 | 0 => .nil
 | n + 1 => by
  rw [List.replicate_succ, List.replicate_succ, List.flatten_cons, List.flatten_cons]
  exact h.append (qd.rep h n)
end
structure Bs where
 H0 : Hp
 P : Addr -> Prop
noncomputable def qA (B : Bs) (σ : St) (δ : Dl) (p : Addr) : Prop := B.P p \/ ∃ (i : Nat) (ds : List D), δ[i]? = some (.own ds) /\ σ[i]? = some (some (.ref p))
structure Rl (mg : Str -> Option Value) (K : PySem.W.Frag) (B : Bs) (H : Hp) (σ : St) (δ : Dl) : Prop where
 same : qg B.H0 H
 pd : ∀ p, B.P p -> H p ≠ none
 len : σ.length = δ.length
 val : ∀ (i : Nat) (d : D) (k : Bool), δ[i]? = some (.val d k) -> ∃ v, σ[i]? = some (some v) /\ Rp mg K (fun a => ¬ qA B σ δ a /\ (k = true -> B.H0 a = none)) H v d
 own : ∀ (i : Nat) (ds : List D), δ[i]? = some (.own ds) -> ds.all D.sc = true /\ ∃ p, σ[i]? = some (some (.ref p)) /\ B.H0 p = none /\ ¬ B.P p /\ H p = some (.lst (ds.map toV))
 apart : ∀ (i j : Nat) (p : Addr) (ds es : List D), δ[i]? = some (.own ds) -> δ[j]? = some (.own es) -> σ[i]? = some (some (.ref p)) -> σ[j]? = some (some (.ref p)) -> i = j
noncomputable def VR (mg : Str -> Option Value) (K : PySem.W.Frag) (B : Bs) (H H' : Hp) (σ : St) (δ : Dl) : Kd -> V -> D -> Prop
 | .bo, v, d => Rp mg K (fun a => ¬ B.P a) H' v d
 | .sh, v, d => Rp mg K (fun a => ¬ qA B σ δ a) H' v d
 | .nw, v, d => Rp mg K (fun a => ¬ qA B σ δ a /\ B.H0 a = none) H' v d
 | .fr, v, d => ∃ p ds, v = .ref p /\ d = .lst ds /\ ds.all D.sc = true /\ H p = none /\ H' p = some (.lst (ds.map toV))
section
variable {mg : Str -> Option Value} {K : PySem.W.Frag} {B : Bs} {H H1 H' H'' : Hp} {σ : St} {δ : Dl} {k l : Kd} {v : V} {d : D}
theorem qg.refl {H : Hp} : qg H H := fun _ _ e => e
theorem Rl.more (R : Rl mg K B H σ δ) (s : qg H H') : Rl mg K B H' σ δ :=
 ⟨R.same.trans s, fun p h => fun z => R.pd p h (s.free z), R.len, fun i d k e => let ⟨v, a, b⟩ := R.val i d k e; ⟨v, a, b.same s⟩, fun i ds e => let ⟨a, p, b, c, n, x⟩ := R.own i ds e; ⟨a, p, b, c, n, s _ _ x⟩, R.apart⟩
theorem Rl.owned (R : Rl mg K B H σ δ) {p : Addr} (h : qA B σ δ p) : H p ≠ none := by
 rcases h with h | ⟨i, ds, e, e2⟩
 ·exact R.pd p h
 ·obtain ⟨_, q, e3, _, _, e4⟩ := R.own i ds e
  rw [e2] at e3
  cases e3
  rw [e4]
  exact fun z => nomatch z
theorem Rl.fresh (R : Rl mg K B H σ δ) {p : Addr} (h : H p = none) : ¬ qA B σ δ p := fun o => R.owned o h
theorem VR.later (h : VR mg K B H H' σ δ k v d) (s : qg H' H'') : VR mg K B H H'' σ δ k v d := by
 cases k with
 | bo => exact Rp.same h s
 | sh => exact Rp.same h s
 | nw => exact Rp.same h s
 | fr => obtain ⟨p, ds, a, b, c, e, f⟩ := h; exact ⟨p, ds, a, b, c, e, s _ _ f⟩
theorem VR.yZ (h : VR mg K B H1 H' σ δ k v d) (s : qg H H1) : VR mg K B H H' σ δ k v d := by
 cases k with
 | bo => exact h
 | sh => exact h
 | nw => exact h
 | fr => obtain ⟨p, ds, a, b, c, e, f⟩ := h; exact ⟨p, ds, a, b, c, s.free e, f⟩
theorem VR.wo (R : Rl mg K B H σ δ) (h : VR mg K B H H' σ δ .fr v d) : VR mg K B H H' σ δ .nw v d := by
 obtain ⟨p, ds, rfl, rfl, c, e, f⟩ := h
 exact .lst ⟨R.fresh e, R.same.free e⟩ (.of f) (.vg c)
theorem VR.wk (h : VR mg K B H H' σ δ .nw v d) : VR mg K B H H' σ δ .sh v d := Rp.weak h fun _ g => g.1
theorem VR.xI (h : VR mg K B H H' σ δ .sh v d) : VR mg K B H H' σ δ .bo v d := Rp.weak h fun _ g z => g (.inl z)
theorem VR.bo' (R : Rl mg K B H σ δ) (h : VR mg K B H H' σ δ k v d) : VR mg K B H H' σ δ .bo v d := by
 cases k with
 | bo => exact h
 | sh => exact VR.xI h
 | nw => exact VR.xI (VR.wk h)
 | fr => exact VR.xI (VR.wk (VR.wo R h))
theorem VR.rp (R : Rl mg K B H σ δ) (h : VR mg K B H H' σ δ k v d) : Rp mg K (fun _ => True) H' v d := by
 exact Rp.weak (VR.bo' R h) fun _ _ => trivial
theorem VR.low (R : Rl mg K B H σ δ) (l : Kd) (h : VR mg K B H H' σ δ k v d) : VR mg K B H H' σ δ (k.low l) v d := by
 cases k <;> cases l <;> first | exact h | exact VR.bo' R h | exact VR.wo R h | exact VR.wk h | exact VR.wk (VR.wo R h)
theorem VR.Ut (R : Rl mg K B H σ δ) (l : Kd) (h : VR mg K B H H' σ δ k v d) : VR mg K B H H' σ δ (l.low k) v d := by
 cases k <;> cases l <;> first | exact h | exact VR.bo' R h | exact VR.wo R h | exact VR.wk h | exact VR.wk (VR.wo R h)
theorem VR.vg (k : Kd) (hk : k ≠ .fr) (s : d.sc = true) : VR mg K B H H' σ δ k (toV d) d := by
 cases k <;> first | exact Rp.vg s | exact absurd rfl hk
theorem VR.int (i : Int) : VR mg K B H H' σ δ .nw (.int i) (.int i) := Rp.int i
theorem VR.bl (b : Bool) : VR mg K B H H' σ δ .nw (.bl b) (.bl b) := Rp.bl b
noncomputable def Gk (B : Bs) (σ : St) (δ : Dl) : Kd -> Addr -> Prop
 | .bo, a => ¬ B.P a
 | .sh, a => ¬ qA B σ δ a
 | _, a => ¬ qA B σ δ a /\ B.H0 a = none
theorem VR.gk (hk : k ≠ .fr) : VR mg K B H H' σ δ k v d = Rp mg K (Gk B σ δ k) H' v d := by
 cases k <;> first | rfl | exact absurd rfl hk
theorem low_ne (k l : Kd) : k.low l ≠ .fr := by cases k <;> cases l <;> intro z <;> cases z
theorem VR.items {ds : List D} (R : Rl mg K B H σ δ) (h : VR mg K B H H' σ δ k v (.lst ds)) : ∃ a xs, v = .ref a /\ SqL K H' a xs /\ qd mg K (Gk B σ δ (k.low .nw)) H' xs ds := by
 have h2 := VR.low R .nw h
 rw [VR.gk (low_ne _ _)] at h2
 cases h2 with
 | lst g s r => exact ⟨_, _, rfl, .inl s, r⟩
 | lstK s r => exact ⟨_, _, rfl, s _, r⟩
theorem VR.V4 {ds : List D} (R : Rl mg K B H σ δ) (h : VR mg K B H H' σ δ k v (.tup ds)) : ∃ a xs, v = .ref a /\ SqT K H' a xs /\ qd mg K (Gk B σ δ (k.low .nw)) H' xs ds := by
 have h2 := VR.low R .nw h
 rw [VR.gk (low_ne _ _)] at h2
 cases h2 with
 | tup g s r => exact ⟨_, _, rfl, .inl s, r⟩
 | tupK s r => exact ⟨_, _, rfl, s _, r⟩
theorem VR.laid {p : Addr} {xs : List V} {ds : List D} (R : Rl mg K B H σ δ) (s : qg H H') (hp : H' p = none) (hk : k ≠ .fr) (h : qd mg K (Gk B σ δ k) H' xs ds) : VR mg K B H (upd H' p (.lst xs)) σ δ (kL ds k) (.ref p) (.lst ds) := by
 unfold kL
 split
 ·rename_i c
  refine ⟨p, ds, rfl, rfl, c, s.free hp, ?_⟩
  rw [qo, qd.sc h c]
 ·rw [VR.gk hk]
  have sm : qg H' (upd H' p (.lst xs)) := fun b o e => by rw [qe (qp e hp)]; exact e
  refine .lst ?_ (.of qo) (h.same sm)
  cases k with
  | bo => exact fun z => R.pd p z (s.free hp)
  | sh => exact R.fresh (s.free hp)
  | nw => exact ⟨R.fresh (s.free hp), R.same.free (s.free hp)⟩
  | fr => exact absurd rfl hk
theorem qQ {p : Addr} {o : HO} (hp : H p = none) : qg H (upd H p o) := fun b q e => by rw [qe (qp e hp)]; exact e
end
noncomputable def qh {α : Type} (mg : Str -> Option Value) (E : XK) (H : Hp) (o : Rs α) (k : α -> Prop) : Prop := match o with
 | .ok a => k a
 | .er c => ∀ C H', mg c = some (.ref C) -> qg H H' -> E (.ref C) none H'
 | .no => False
noncomputable def Fin (mg : Str -> Option Value) (K : PySem.W.Frag) (E : XK) (B : Bs) (H : Hp) (σ : St) (δ : Dl) (o : Rs DK) (Q : VK) : Prop :=
 qh mg E H o fun x => ∀ v H', qg H H' -> VR mg K B H H' σ δ x.2 v x.1 -> Q v H'
noncomputable def tE (mg : Str -> Option Value) (K : PySem.W.Frag) (E : XK) (r : RE) : TE := fun σ H Q => ∃ B δ, Rl mg K B H σ δ /\ Fin mg K E B H σ δ (r δ) Q
noncomputable def VT (mg : Str -> Option Value) (E : XK) (H : Hp) (o : Rs Bool) (Q : Bool -> Hp -> Prop) : Prop := qh mg E H o fun b => ∀ H', qg H H' -> Q b H'
noncomputable def tT (mg : Str -> Option Value) (K : PySem.W.Frag) (E : XK) (r : RT) : TT := fun σ H Q => ∃ B δ, Rl mg K B H σ δ /\ VT mg E H (r δ) Q
inductive VRs (mg : Str -> Option Value) (K : PySem.W.Frag) (B : Bs) (H H' : Hp) (σ : St) (δ : Dl) : List V -> List DK -> Prop
 | nil : VRs mg K B H H' σ δ [] []
 | cons {v : V} {vs : List V} {x : DK} {xs : List DK} : VR mg K B H H' σ δ x.2 v x.1 -> VRs mg K B H H' σ δ vs xs -> VRs mg K B H H' σ δ (v :: vs) (x :: xs)
noncomputable def FinA (mg : Str -> Option Value) (K : PySem.W.Frag) (E : XK) (B : Bs) (H : Hp) (σ : St) (δ : Dl) (o : Rs (List DK)) (Q : List V -> Hp -> Prop) : Prop :=
 qh mg E H o fun xs => ∀ vs H', qg H H' -> VRs mg K B H H' σ δ vs xs -> Q vs H'
noncomputable def tA (mg : Str -> Option Value) (K : PySem.W.Frag) (E : XK) (r : RA) : TA := fun σ H Q => ∃ B δ, Rl mg K B H σ δ /\ FinA mg K E B H σ δ (r δ) Q
section
variable {mg : Str -> Option Value} {K : PySem.W.Frag} {E : XK} {B : Bs} {H H1 H' H'' : Hp} {σ : St} {δ : Dl} {k l : Kd} {v : V} {d : D} {Q : VK}
theorem qh.bind {α β : Type} {x : Rs α} {f : α -> Rs β} {k : β -> Prop} (h : qh mg E H (x.bind f) k) : qh mg E H x fun a => qh mg E H (f a) k := by
 cases x with
 | ok a => exact h
 | er c => exact h
 | no => exact h
theorem qh.imp {α : Type} {x : Rs α} {k k' : α -> Prop} (h : qh mg E H x k) (i : ∀ a, k a -> k' a) : qh mg E H x k' := by
 cases x with
 | ok a => exact i a h
 | er c => exact h
 | no => exact h
theorem qh.more {α : Type} {x : Rs α} {k : α -> Prop} (h : qh mg E H x k) (s : qg H H') : qh mg E H' x k := by
 cases x with
 | ok a => exact h
 | er c => exact fun C H2 e s2 => h C H2 e (s.trans s2)
 | no => exact h
theorem Fin.more {o : Rs DK} (h : Fin mg K E B H σ δ o Q) (s : qg H H') : Fin mg K E B H' σ δ o Q :=
 qh.more (qh.imp h fun x q v H2 s2 r => q v H2 (s.trans s2) (r.yZ s)) s
theorem VT.more {o : Rs Bool} {Q : Bool -> Hp -> Prop} (h : VT mg E H o Q) (s : qg H H') : VT mg E H' o Q := qh.more (qh.imp h fun x q H2 s2 => q H2 (s.trans s2)) s
theorem VRs.yZ {vs : List V} {xs : List DK} (h : VRs mg K B H1 H' σ δ vs xs) (s : qg H H1) : VRs mg K B H H' σ δ vs xs := by
 induction h with
 | nil => exact .nil
 | cons a _ ih => exact .cons (a.yZ s) ih
theorem VRs.rp (R : Rl mg K B H σ δ) {vs : List V} {xs : List DK} (h : VRs mg K B H H' σ δ vs xs) : qd mg K (fun _ => True) H' vs (xs.map (·.1)) := by
 induction h with
 | nil => exact .nil
 | cons a _ ih => exact .cons (a.rp R) ih
theorem VR.Vg (R : Rl mg K B H σ δ) {x : DK} (h : VR mg K B H H' σ δ x.2 v x.1) (l : Kd) (s : x.1.sc = false -> ∃ m, l = x.2.low m \/ l = Kd.low m x.2) (hl : l ≠ .fr) : Rp mg K (Gk B σ δ l) H' v x.1 := by
 rw [<- VR.gk (H := H) hl]
 cases c : x.1.sc with
 | true =>
  have e := (h.rp R).sc c
  rw [e]
  exact VR.vg l hl c
 | false =>
  obtain ⟨m, e | e⟩ := s c
  ·rw [e]; exact VR.low R m h
  ·rw [e]; exact VR.Ut R m h
theorem zg (a b c : Kd) : (a.low b).low c = a.low (b.low c) := by cases a <;> cases b <;> cases c <;> rfl
theorem xa (a b : Kd) : a.low b = b.low a := by cases a <;> cases b <;> rfl
theorem vP : ∀ xs : List DK, qw xs ≠ .fr
 | [] => fun z => nomatch z
 | x :: r => by
  unfold qw
  split
  ·exact vP r
  ·exact low_ne _ _
theorem VRs.kinds (R : Rl mg K B H σ δ) : ∀ {vs : List V} {xs : List DK}, VRs mg K B H H' σ δ vs xs -> ∀ m : Kd, m ≠ .fr -> qd mg K (Gk B σ δ (m.low (qw xs))) H' vs (xs.map (·.1))
 | _, _, .nil, _, _ => .nil
 | _, _, @VRs.cons _ _ _ _ _ _ _ v vs x xs a b, m, hm => by
  refine .cons ?_ ?_
  ·refine VR.Vg R a _ (fun s => ?_) (low_ne _ _)
   unfold qw
   rw [if_neg (by rw [s]; decide), <- zg, xa m, zg]
   exact ⟨_, .inl rfl⟩
  ·unfold qw
   split
   ·exact VRs.kinds R b m hm
   ·rw [<- zg]
    exact VRs.kinds R b _ (low_ne _ _)
theorem VRs.YO (R : Rl mg K B H σ δ) {vs : List V} {xs : List DK} (h : VRs mg K B H H' σ δ vs xs) : qd mg K (Gk B σ δ (qw xs)) H' vs (xs.map (·.1)) := by
 have q := VRs.kinds R h .nw (fun z => nomatch z)
 have e : Kd.low .nw (qw xs) = qw xs := by
  have := vP xs
  cases h : qw xs <;> first | rfl | exact absurd h this
 rw [e] at q
 exact q
end
section
variable {X : Cx} {E : XK} {a b : Expr} {ra rb : RE} {pos : Pos}
theorem qR {e : Expr} {t t' : TE} (h : PE X e t) (i : ∀ σ H Q, t' σ H Q -> t σ H Q) : PE X e t' := fun pins s σ H Q I hw => h pins s σ H Q I (i σ H Q hw)
theorem uF {e : Expr} {t t' : TT} (h : PT X e t) (i : ∀ σ H Q, t' σ H Q -> t σ H Q) : PT X e t' := fun pins s σ H Q I hw => h pins s σ H Q I (i σ H Q hw)
theorem vC {e : Stmt} {t t' : TS} (h : PS X e t) (i : ∀ D σ H, t' D σ H -> t D σ H) : PS X e t' := fun pins s σ H D I hw => h pins s σ H D I (i D σ H hw)
noncomputable abbrev TEx (X : Cx) (E : XK) (r : RE) : TE := tE X.mg X.K E r
noncomputable abbrev TTx (X : Cx) (E : XK) (r : RT) : TT := tT X.mg X.K E r
noncomputable abbrev TAx (X : Cx) (E : XK) (r : RA) : TA := tA X.mg X.K E r
theorem Xq {i : Nat} {x : Str} (hN : X.N[i]? = some x) (hv : Vis X.env.scope x) (hd : autoParam ((x == ("__debug__" : Str)) = false) qH._auto_1) (hcd : autoParam ((x == ("__classdict__" : Str)) = false) qH._auto_1) : PE X (.Name x pos) (TEx X E (qc i)) := by
 refine qR (uI hN hv hd hcd) fun σ H Q ⟨B, δ, R, h⟩ => ?_
 unfold qc Fin at h
 cases hδ : δ[i]? with
 | none => rw [hδ] at h; exact h.elim
 | some s =>
  rw [hδ] at h
  cases s with
  | un => exact h.elim
  | val d k =>
   obtain ⟨v, e, q⟩ := R.val i d k hδ
   refine ⟨v, e, h v H qg.refl ?_⟩
   cases k with
   | true => exact Rp.weak q fun a g => ⟨g.1, g.2 rfl⟩
   | false => exact Rp.weak q fun a g => g.1
  | own ds =>
   obtain ⟨c, p, e, _, np, q⟩ := R.own i ds hδ
   exact ⟨.ref p, e, h (.ref p) H qg.refl (Rp.lst np (.of q) (.vg c))⟩
theorem zZ {i : Int} {j : Nat} : PE X (.Constant (.int i) j pos) (TEx X E (rC (.int i))) := qR Qe fun σ H Q ⟨B, δ, R, h⟩ => h (.int i) H qg.refl (VR.int i)
theorem uU {x : Str} {i : Int} (hg : Gl X x) (hm : ∃ t, X.mg x = some (.int i t)) (hd : autoParam ((x == ("__debug__" : Str)) = false) qH._auto_1) : PE X (.Name x pos) (TEx X E (rC (.int i))) := by
 obtain ⟨t, hm⟩ := hm
 exact qR (ZW (v := .int i) hg hm ⟨t, rfl⟩ hd) fun σ H Q ⟨B, δ, R, h⟩ => h (.int i) H qg.refl (VR.int i)
noncomputable def vR (X : Cx) (f : DK -> DK -> Rs DK) (rr : R2) : Prop := ∀ (B : Bs) (H H' : Hp) (σ : St) (δ : Dl) (x y : V) (dx dy : DK) (Q : VK) (E : XK), Rl X.mg X.K B H σ δ -> qg H H' -> VR X.mg X.K B H H' σ δ dx.2 x dx.1 -> VR X.mg X.K B H H' σ δ dy.2 y dy.1 ->
 Fin X.mg X.K E B H' σ δ (f dx dy) Q -> rr x y H' Q
theorem two {f : DK -> DK -> Rs DK} {rr : R2} (F : vR X f rr) {σ : St} {H : Hp} {Q : VK} (h : TEx X E (qF f ra rb) σ H Q) : tOp rr (TEx X E ra) (TEx X E rb) σ H Q := by
 obtain ⟨B, δ, R, h⟩ := h
 refine ⟨B, δ, R, qh.imp (qh.bind h) fun dx h1 v H1 s1 r1 => ?_⟩
 refine ⟨B, δ, R.more s1, ?_⟩
 refine qh.imp (qh.more (qh.bind h1) s1) fun dy h2 w H2 s2 r2 => ?_
 exact F B H H2 σ δ v w dx dy Q E R (s1.trans s2) (r1.later s2) (r2.yZ s1) (Fin.more h2 (s1.trans s2))
theorem w8 {op : Operator} {f : DK -> DK -> Rs DK} {rr : R2} (ho : OpR X (binaryOp op) rr) (F : vR X f rr) (ha : PE X a (TEx X E ra)) (hb : PE X b (TEx X E rb)) : PE X (.BinOp a op b pos) (TEx X E (qF f ra rb)) :=
 qR (Ym ho ha hb) fun _ _ _ h => two F h
theorem XI {op : CmpOp} {f : DK -> DK -> Rs DK} {rr : R2} (ho : OpR X (compareOp op) rr) (F : vR X f rr) (hm : behindInMarks op b = false) (ha : PE X a (TEx X E ra)) (hb : PE X b (TEx X E rb)) : PE X (.Compare a [op] [b] pos) (TEx X E (qF f ra rb)) :=
 qR (Z4 ho ha hb hm) fun _ _ _ h => two F h
theorem Q8 {r : RE} {σ : St} {H : Hp} {Q : Bool -> Hp -> Prop} (h : TTx X E (tBl r) σ H Q) : TEx X E r σ H fun x H' => ∃ k, x = .bl k /\ Q k H' := by
 obtain ⟨B, δ, R, h⟩ := h
 refine ⟨B, δ, R, ?_⟩
 unfold tBl VT at h
 refine qh.imp (qh.bind h) fun x h1 v H1 s1 r1 => ?_
 obtain ⟨d, k⟩ := x
 cases d with
 | bl b =>
  have e : v = toV (.bl b) := (r1.rp R).sc rfl
  exact ⟨b, e, h1 H1 s1⟩
 | non => exact h1.elim
 | int i => exact h1.elim
 | lst l => exact h1.elim
 | tup l => exact h1.elim
 | fn x => exact h1.elim
 | obj c ns l => exact h1.elim
theorem uH {op : CmpOp} {f : DK -> DK -> Rs DK} {rr : R2} (ho : OpR X (compareOp op) rr) (F : vR X f rr) (hm : behindInMarks op b = false) (ha : PE X a (TEx X E ra)) (hb : PE X b (TEx X E rb)) : PT X (.Compare a [op] [b] pos) (TTx X E (tBl (qF f ra rb))) :=
 uF (ZL ho ha hb hm) fun _ _ _ h => two F (Q8 h)
theorem Y0 {r : RE} (ha : PE X a (TEx X E r)) (he : autoParam (∀ whole, isTrue a X.env whole = (do let v <- whole; standAt a.pos; holding [v] (truthy v))) zB._auto_1) : PT X a (TTx X E (tBl r)) :=
 uF (YT ha he) fun _ _ _ h => Q8 h
theorem Xz {r : RT} (ha : PT X a (TTx X E r)) : PT X (.UnaryOp .Not a pos) (TTx X E (jK r)) := by
 refine uF (XA ha) fun σ H Q ⟨B, δ, R, h⟩ => ⟨B, δ, R, ?_⟩
 exact qh.imp (qh.bind h) fun x h1 H1 s1 => h1 H1 s1
theorem Yi {e : Expr} {t t' : TT} (h : PW X e t) (i : ∀ σ H Q, t' σ H Q -> t σ H Q) : PW X e t' := fun wh pins s σ H Q I hw => h wh pins s σ H Q I (i σ H Q hw)
theorem Y2 {r : RT} (ha : PT X a (TTx X E r)) : PW X (.BoolOp .Or [a] pos) (TTx X E r) := Xo ha
theorem Uw {rest : List Expr} {r q : RT} (ha : PT X a (TTx X E r)) (hb : PW X (.BoolOp .Or (b :: rest) pos) (TTx X E q)) : PW X (.BoolOp .Or (a :: b :: rest) pos) (TTx X E (Vj r q)) := by
 refine Yi (UK ha hb) fun σ H Q ⟨B, δ, R, h⟩ => ⟨B, δ, R, ?_⟩
 refine qh.imp (qh.bind h) fun x h1 H1 s1 => ?_
 cases x with
 | true => exact h1 H1 s1
 | false => exact ⟨B, δ, R.more s1, VT.more h1 s1⟩
theorem Zk {op : BoolOp} {es : List Expr} {r : RT} (h : PW X (.BoolOp op es pos) (TTx X E r)) : PT X (.BoolOp op es pos) (TTx X E r) := h.pt
theorem Us {c : Expr} {t : RT} (hc : PT X c (TTx X E t)) (ha : PE X a (TEx X E ra)) (hb : PE X b (TEx X E rb)) : PE X (.IfExp c a b pos) (TEx X E (VL t ra rb)) := by
 refine qR (Wm hc ha hb) fun σ H Q ⟨B, δ, R, h⟩ => ⟨B, δ, R, ?_⟩
 refine qh.imp (qh.bind h) fun x h1 H1 s1 => ?_
 cases x with
 | true => exact ⟨B, δ, R.more s1, Fin.more h1 s1⟩
 | false => exact ⟨B, δ, R.more s1, Fin.more h1 s1⟩
theorem qD : PA X [] (TAx X E qu) := fun pos pins s σ H Q I ⟨B, δ, R, h⟩ => wH pos pins s σ H Q I (h [] H qg.refl .nil)
theorem ZR {es : List Expr} {t t' : TA} (h : PA X es t) (i : ∀ σ H Q, t' σ H Q -> t σ H Q) : PA X es t' := fun pos pins s σ H Q I hw => h pos pins s σ H Q I (i σ H Q hw)
theorem qk {es : List Expr} {r : RE} {rr : RA} (ha : PE X a (TEx X E r)) (hr : PA X es (TAx X E rr)) (hs : autoParam (starEach (a :: es) X.env = (false, eval a X.env) :: starEach es X.env) qj._auto_1) : PA X (a :: es) (TAx X E (qf r rr)) := by
 refine ZR (vA ha hr hs) fun σ H Q ⟨B, δ, R, h⟩ => ⟨B, δ, R, ?_⟩
 refine qh.imp (qh.bind h) fun x h1 v H1 s1 r1 => ⟨B, δ, R.more s1, ?_⟩
 refine qh.imp (qh.more (qh.bind h1) s1) fun xs h2 vs H2 s2 r2 => ?_
 exact h2 (v :: vs) H2 (s1.trans s2) (.cons (r1.later s2) (r2.yZ s1))
theorem ua {r : RA} {σ : St} {H : Hp} {B : Bs} {δ : Dl} (R : Rl X.mg X.K B H σ δ) {Q : VK} {f : List DK -> Rs DK} {Q' : List V -> Hp -> Prop} (h : Fin X.mg X.K E B H σ δ ((r δ).bind f) Q)
  (i : ∀ xs vs H1, qg H H1 -> VRs X.mg X.K B H H1 σ δ vs xs -> Fin X.mg X.K E B H1 σ δ (f xs) Q -> Q' vs H1) : TAx X E r σ H Q' :=
 ⟨B, δ, R, qh.imp (qh.bind h) fun xs h1 vs H1 s1 r1 => i xs vs H1 s1 r1 (Fin.more h1 s1)⟩
theorem VRs.len {mg : Str -> Option Value} {K : PySem.W.Frag} {B : Bs} {H H' : Hp} {σ : St} {δ : Dl} {vs : List V} {xs : List DK} (h : VRs mg K B H H' σ δ vs xs) : vs.length = xs.length := by
 induction h with
 | nil => rfl
 | cons _ _ ih => rw [List.length_cons, List.length_cons, ih]
theorem uN {es : List Expr} {r : RA} (h : PA X es (TAx X E r)) : PE X (.List es pos) (TEx X E (zY r)) := by
 refine qR (u6 h) fun σ H Q ⟨B, δ, R, h⟩ => ?_
 refine ua R h fun xs vs H1 s1 r1 h1 => ?_
 by_cases hl : xs.length <= LIM
 ·rw [if_pos hl] at h1
  refine ⟨by rw [r1.len]; exact hl, fun p hp => ?_⟩
  refine h1 (.ref p) _ (qQ hp) ?_
  exact VR.laid (R.more s1) qg.refl hp (vP xs) (r1.YO R)
 ·rw [if_neg hl] at h1
  exact h1.elim
end
theorem jm {i : Int} (h : few i) : Builtin.Int.intBits i <= 60000 := by
 unfold Builtin.Int.intBits
 split
 ·exact Nat.zero_le _
 ·have hn : i.natAbs < 2 ^ 60000 := h
  have : i.natAbs.log2 < 60000 := by
   rcases Nat.eq_zero_or_pos i.natAbs with h0 | hp
   ·rw [h0, Nat.log2_zero]; exact Nat.zero_lt_of_lt (by exact (show 0 < 60000 by decide))
   ·exact (Nat.log2_lt (Nat.ne_of_gt hp)).mpr hn
  lia
theorem ZX {i j : Int} (h : few i) (h' : few j) : IntMulOk i j := by
 unfold IntMulOk
 have a := jm h
 have b := jm h'
 have c : Builtin.Int.intTooBig (Builtin.Int.intBits i + Builtin.Int.intBits j) = false := by
  unfold Builtin.Int.intTooBig
  refine decide_eq_false ?_
  have e : bitsLine = 134217728 := by decide
  lia
 rw [c]
 simp
section
variable {X : Cx}
theorem Zf : OpR X (binaryOp .Mult) (rI (fun i j => few i /\ few j) fun i j => .int (i * j)) := opI fun _ _ _ _ _ _ _ hc q => mul_int q (ZX hc.1 hc.2)
noncomputable def W0 (K : PySem.W.Frag) : R2 := fun x y H Q => ∃ l b xs zs, x = .ref l /\ y = .ref b /\ SqL K H l xs /\ SqL K H b zs /\ xs.length + zs.length <= sizeLine /\ ∀ p, H p = none -> Q (.ref p) (upd H p (.lst (xs ++ zs)))
theorem Zv : OpR X (binaryOp .Add) (W0 X.K) := by
 intro pins s σ H x y v u Q I rx ry h
 obtain ⟨l, b, xs, zs, rfl, rfl, hH, hB, hz, q⟩ := h
 cases rx
 cases ry
 obtain ⟨its, r, p1, z1⟩ := I.list hH
 obtain ⟨its2, r2, p2, z2⟩ := I.list hB
 have l1 := r.length
 have l2 := r2.length
 obtain ⟨⟨cls, dd, data, sl⟩, ho, hc, n, hd⟩ := id p1.isList
 obtain ⟨⟨cls2, dd2, data2, sl2⟩, ho2, hc2, n2, hd2⟩ := id p2.isList
 simp only at hc hd hc2 hd2
 subst hc hd hc2 hd2
 have e : its.toArray ++ its2.toArray = (its ++ its2).toArray := by simp
 refine concat_meets ⟨_, ho, rfl⟩ ⟨_, ho2, rfl⟩ noFill_list_add seq_list_add PySem.F.slot_list_add PySem.F.entry_list_add (PySem.F.args_list_add_2 _ _) (list_addW l b its.toArray its2.toArray n n2 dd dd2 sl sl2 (by rw [List.size_toArray, List.size_toArray]; lia)) ⟨ho, ho2, ?_⟩
 rw [e]
 exact ⟨.ref _, _, I.Z1 (t' := s.toks) (r.append r2) (by rw [List.length_append]; lia), rfl, q _ I.fresh⟩
theorem qI {mg : Str -> Option Value} {K : PySem.W.Frag} {B : Bs} {H H' : Hp} {σ : St} {δ : Dl} {k : Kd} {v : V} {i : Int} (R : Rl mg K B H σ δ) (h : VR mg K B H H' σ δ k v (.int i)) : v = .int i := (h.rp R).sc rfl
theorem Q5 {mg : Str -> Option Value} {K : PySem.W.Frag} {B : Bs} {H H' : Hp} {σ : St} {δ : Dl} {k : Kd} {v : V} {i : Bool} (R : Rl mg K B H σ δ) (h : VR mg K B H H' σ δ k v (.bl i)) : v = .bl i := (h.rp R).sc rfl
theorem uz : vR X yp (fun x y H Q => rI0 (fun i j => .int (i + j)) x y H Q \/ W0 X.K x y H Q) := by
 rintro B H H' σ δ x y ⟨dx, kx⟩ ⟨dy, ky⟩ Q E R s r1 r2 h
 cases dx with
 | int i =>
  cases dy with
  | int j => exact .inl ⟨i, j, qI R r1, qI R r2, h _ H' qg.refl (VR.int _)⟩
  | _ => exact h.elim
 | lst xs =>
  cases dy with
  | lst ys =>
   right
   obtain ⟨a, vs, rfl, q1, g1⟩ := VR.items R r1
   obtain ⟨b, us, rfl, q2, g2⟩ := VR.items R r2
   unfold yp at h
   dsimp only at h
   by_cases hl : xs.length + ys.length <= LIM
   ·rw [if_pos hl] at h
    refine ⟨a, b, vs, us, rfl, rfl, q1, q2, by rw [g1.len, g2.len]; exact hl, fun p hp => ?_⟩
    refine h _ _ (qQ hp) (VR.laid (R.more s) qg.refl hp (low_ne _ _) (qd.append ?_ ?_))
    ·refine g1.weak fun a g => ?_
     revert g
     cases kx <;> cases ky <;> first | exact fun g => g | exact fun g => g.1 | exact fun g z => g (.inl z) | exact fun g z => g.1 (.inl z)
    ·refine g2.weak fun a g => ?_
     revert g
     cases kx <;> cases ky <;> first | exact fun g => g | exact fun g => g.1 | exact fun g z => g (.inl z) | exact fun g z => g.1 (.inl z)
   ·rw [if_neg hl] at h
    exact h.elim
  | _ => exact h.elim
 | _ => exact h.elim
theorem yz : OpR X (binaryOp .Add) (fun x y H Q => rI0 (fun i j => .int (i + j)) x y H Q \/ W0 X.K x y H Q) := Yx.or Zv
theorem u5 {f : DK -> DK -> Rs DK} {g : Int -> Int -> V} {c : Int -> Int -> D} (hf : ∀ dx dy, f dx dy = match dx.1, dy.1 with | .int i, .int j => .ok (c i j, .nw) | _, _ => .no) (hg : ∀ i j, g i j = toV (c i j)) (hc : ∀ i j, (c i j).sc = true) : vR X f (rI0 g) := by
 rintro B H H' σ δ x y ⟨dx, kx⟩ ⟨dy, ky⟩ Q E R s r1 r2 h
 rw [hf] at h
 cases dx with
 | int i =>
  cases dy with
  | int j => exact ⟨i, j, qI R r1, qI R r2, by rw [hg]; exact h _ H' qg.refl (VR.vg _ (fun z => nomatch z) (hc i j))⟩
  | _ => exact h.elim
 | _ => exact h.elim
theorem Z0 {f : DK -> DK -> Rs DK} {C : Int -> Int -> Prop} {g : Int -> Int -> V} {c : Int -> Int -> D} (h1 : ∀ i j k l, C i j -> f (.int i, k) (.int j, l) = .ok (c i j, .nw)) (h2 : ∀ i j k l, ¬ C i j -> f (.int i, k) (.int j, l) = .no)
  (h3 : ∀ dx dy, (∀ i k, dx ≠ (.int i, k)) \/ (∀ i k, dy ≠ (.int i, k)) -> f dx dy = .no) (hg : ∀ i j, g i j = toV (c i j)) (hc : ∀ i j, (c i j).sc = true) : vR X f (rI C g) := by
 rintro B H H' σ δ x y ⟨dx, kx⟩ ⟨dy, ky⟩ Q E R s r1 r2 h
 by_cases ex : ∃ i, dx = .int i
 ·obtain ⟨i, rfl⟩ := ex
  by_cases ey : ∃ j, dy = .int j
  ·obtain ⟨j, rfl⟩ := ey
   by_cases cc : C i j
   ·rw [h1 i j _ _ cc] at h
    exact ⟨i, j, qI R r1, qI R r2, cc, by rw [hg]; exact h _ H' qg.refl (VR.vg _ (fun z => nomatch z) (hc i j))⟩
   ·rw [h2 i j _ _ cc] at h
    exact h.elim
  ·rw [h3 _ _ (.inr fun j k z => ey ⟨j, congrArg Prod.fst z⟩)] at h
   exact h.elim
 ·rw [h3 _ _ (.inl fun j k z => ex ⟨j, congrArg Prod.fst z⟩)] at h
  exact h.elim
theorem YW : vR X Ui (rI0 fun i j => .int (i - j)) := u5 (c := fun i j => .int (i - j)) (by rintro ⟨dx, kx⟩ ⟨dy, ky⟩; cases dx <;> cases dy <;> rfl) (fun _ _ => rfl) fun _ _ => rfl
theorem Xy (g : Int -> Int -> Int) : vR X (Uj g) (rI0 fun i j => .int (g i j)) := u5 (c := fun i j => .int (g i j)) (by rintro ⟨dx, kx⟩ ⟨dy, ky⟩; cases dx <;> cases dy <;> rfl) (fun _ _ => rfl) fun _ _ => rfl
theorem jU (g : Int -> Int -> Bool) : vR X (xU g) (rI0 fun i j => .bl (g i j)) := u5 (c := fun i j => .bl (g i j)) (by rintro ⟨dx, kx⟩ ⟨dy, ky⟩; cases dx <;> cases dy <;> rfl) (fun _ _ => rfl) fun _ _ => rfl
theorem XW : vR X Vi (rI (fun _ j => 0 <= j) fun i j => .int (i / 2 ^ j.toNat)) := Z0 (c := fun i j => .int (i / 2 ^ j.toNat)) (fun i j k l c => by unfold Vi; exact if_pos c) (fun i j k l c => by unfold Vi; exact if_neg c)
 (fun ⟨dx, kx⟩ ⟨dy, ky⟩ h => by cases dx <;> cases dy <;> first | rfl | (rcases h with h | h <;> exact absurd rfl (h _ _))) (fun _ _ => rfl) fun _ _ => rfl
theorem YG : vR X Qi (fun x y H Q => rI (fun i j => few i /\ few j) (fun i j => .int (i * j)) x y H Q \/ Uo x y H Q) := by
 rintro B H H' σ δ x y ⟨dx, kx⟩ ⟨dy, ky⟩ Q E R s r1 r2 h
 cases dx with
 | int i =>
  cases dy with
  | int j =>
   unfold Qi at h
   dsimp only at h
   by_cases c : few i /\ few j
   ·rw [if_pos c] at h
    exact .inl ⟨i, j, qI R r1, qI R r2, c, h _ H' qg.refl (VR.int _)⟩
   ·rw [if_neg c] at h
    exact h.elim
  | _ => exact h.elim
 | lst xs =>
  cases dy with
  | int j =>
   right
   unfold Qi at h
   cases kx with
   | fr =>
    obtain ⟨p, ds, rfl, e, c, _, hp⟩ := r1
    cases e
    dsimp only at h
    by_cases c2 : (0 <= j /\ j < 1000000) /\ xs.length * j.toNat <= LIM
    ·rw [if_pos c2] at h
     refine ⟨p, j, _, rfl, qI R r2, hp, by lia, by lia, by rw [List.length_map]; exact c2.2, fun q hq => ?_⟩
     refine h _ _ (qQ hq) (VR.laid (k := .nw) (R.more s) qg.refl hq (fun z => nomatch z) (qd.rep (.vg c) _))
    ·rw [if_neg c2] at h
     exact h.elim
   | _ => exact h.elim
  | _ => cases kx <;> exact False.elim h
 | _ => exact h.elim
end
noncomputable def RR (mg : Str -> Option Value) (K : PySem.W.Frag) (H H' : Hp) : Bool -> V -> D -> Prop
 | true, v, d => ∃ p ds, v = .ref p /\ d = .lst ds /\ ds.all D.sc = true /\ H p = none /\ H' p = some (.lst (ds.map toV))
 | false, v, d => Rp mg K (fun a => H a = none) H' v d
noncomputable def Frm (B : Bs) (σ : St) (δ : Dl) (H : Hp) (σ' : St) (δ' : Dl) (H' : Hp) : Prop := ∀ b o, H b = some o -> ¬ qA B σ δ b -> H' b = some o /\ ¬ qA B σ' δ' b
theorem Frm.refl {B : Bs} {σ : St} {δ : Dl} {H : Hp} : Frm B σ δ H σ δ H := fun _ _ e n => ⟨e, n⟩
theorem Frm.trans {B : Bs} {σ σ1 σ2 : St} {δ δ1 δ2 : Dl} {H H1 H2 : Hp} (a : Frm B σ δ H σ1 δ1 H1) (b : Frm B σ1 δ1 H1 σ2 δ2 H2) : Frm B σ δ H σ2 δ2 H2 := fun c o e n => b c o (a c o e n).1 (a c o e n).2
theorem Frm.grow {B : Bs} {σ : St} {δ : Dl} {H H' : Hp} (s : qg H H') : Frm B σ δ H σ δ H' := fun b o e n => ⟨s b o e, n⟩
noncomputable def wF (mg : Str -> Option Value) (K : PySem.W.Frag) (E : XK) (B : Bs) (H : Hp) (σ : St) (δ : Dl) (o : Out) (D : Ends) : Prop := match o with
 | .nx δ' => ∀ σ' H', Rl mg K B H' σ' δ' -> Frm B σ δ H σ' δ' H' -> D.nx σ' H'
 | .bk δ' => ∀ σ' H', Rl mg K B H' σ' δ' -> Frm B σ δ H σ' δ' H' -> D.bk σ' H'
 | .ct δ' => ∀ σ' H', Rl mg K B H' σ' δ' -> Frm B σ δ H σ' δ' H' -> D.ct σ' H'
 | .rt d k => ∀ v H', qg B.H0 H' -> RR mg K B.H0 H' k v d -> D.rt v H'
 | .er c => ∀ C H', mg c = some (.ref C) -> qg B.H0 H' -> E (.ref C) none H'
 | .no => False
noncomputable def tS (mg : Str -> Option Value) (K : PySem.W.Frag) (E : XK) (r : RS) : TS := fun D σ H => ∃ B δ, Rl mg K B H σ δ /\ wF mg K E B H σ δ (r δ) D
noncomputable abbrev TSx (X : Cx) (E : XK) (r : RS) : TS := tS X.mg X.K E r
section
variable {mg : Str -> Option Value} {K : PySem.W.Frag} {E : XK} {B : Bs} {H H1 H' : Hp} {σ σ1 : St} {δ δ1 : Dl} {v : V} {d : D} {i : Nat}
theorem wF.later {o : Out} {D : Ends} (h : wF mg K E B H σ δ o D) (f : Frm B σ δ H σ1 δ1 H1) : wF mg K E B H1 σ1 δ1 o D := by
 cases o with
 | nx δ' => exact fun σ' H' R f' => h σ' H' R (f.trans f')
 | bk δ' => exact fun σ' H' R f' => h σ' H' R (f.trans f')
 | ct δ' => exact fun σ' H' R f' => h σ' H' R (f.trans f')
 | rt d k => exact h
 | er c => exact h
 | no => exact h
theorem wZ {s : Sl} (hs : ∀ ds, s ≠ .own ds) {w : Option V} {p : Addr} (h : qA B (σ.set i w) (δ.set i s) p) : qA B σ δ p := by
 rcases h with h | ⟨j, ds, e1, e2⟩
 ·exact .inl h
 ·right
  by_cases hj : i = j
  ·subst hj
   by_cases hi : i < δ.length
   ·rw [List.getElem?_set_self hi] at e1
    exact absurd (Option.some.inj e1) (hs ds)
   ·rw [List.getElem?_eq_none (by rw [List.length_set]; lia)] at e1
    cases e1
  ·rw [List.getElem?_set_ne hj] at e1 e2
   exact ⟨j, ds, e1, e2⟩
theorem Rl.jY {k : Bool} (R : Rl mg K B H σ δ) (r : Rp mg K (fun a => ¬ qA B σ δ a /\ (k = true -> B.H0 a = none)) H v d) : Rl mg K B H (σ.set i (some v)) (δ.set i (.val d k)) := by
 have sub : ∀ a, ¬ qA B σ δ a -> ¬ qA B (σ.set i (some v)) (δ.set i (.val d k)) a := fun a n z => n (wZ (fun _ q => by cases q) z)
 refine ⟨R.same, R.pd, by rw [List.length_set, List.length_set]; exact R.len, fun j d' k' e => ?_, fun j ds e => ?_, fun j l p ds es e1 e2 e3 e4 => ?_⟩
 ·by_cases hj : i = j
  ·subst hj
   by_cases hi : i < δ.length
   ·rw [List.getElem?_set_self hi] at e
    cases e
    exact ⟨v, List.getElem?_set_self (by rw [R.len]; exact hi), r.weak fun a g => ⟨sub a g.1, g.2⟩⟩
   ·rw [List.getElem?_eq_none (by rw [List.length_set]; lia)] at e
    cases e
  ·rw [List.getElem?_set_ne hj] at e ⊢
   obtain ⟨w, h1, h2⟩ := R.val j d' k' e
   exact ⟨w, h1, h2.weak fun a g => ⟨sub a g.1, g.2⟩⟩
 ·by_cases hj : i = j
  ·subst hj
   by_cases hi : i < δ.length
   ·rw [List.getElem?_set_self hi] at e
    cases e
   ·rw [List.getElem?_eq_none (by rw [List.length_set]; lia)] at e
    cases e
  ·rw [List.getElem?_set_ne hj] at e ⊢
   exact R.own j ds e
 ·have ne : ∀ {j : Nat} {ds : List D}, (δ.set i (.val d k))[j]? = some (.own ds) -> i ≠ j := fun {j ds} e q => by
   subst q
   by_cases hi : i < δ.length
   ·rw [List.getElem?_set_self hi] at e
    cases e
   ·rw [List.getElem?_eq_none (by rw [List.length_set]; lia)] at e
    cases e
  have n1 := ne e1
  have n2 := ne e2
  rw [List.getElem?_set_ne n1] at e1 e3
  rw [List.getElem?_set_ne n2] at e2 e4
  exact R.apart j l p ds es e1 e2 e3 e4
theorem zt {k : Bool} : Frm B σ δ H (σ.set i (some v)) (δ.set i (.val d k)) H := fun b o e n => ⟨e, fun z => n (wZ (fun _ q => by cases q) z)⟩
theorem Rl.XN {p : Addr} {ds : List D} (R : Rl mg K B H σ δ) (s : qg H H') (hp : H p = none) (hp' : H' p = some (.lst (ds.map toV))) (c : ds.all D.sc = true) : Rl mg K B H' (σ.set i (some (.ref p))) (δ.set i (.own ds)) /\ Frm B σ δ H (σ.set i (some (.ref p))) (δ.set i (.own ds)) H' := by
 have get : ∀ {j : Nat} {x : Sl}, (δ.set i (.own ds))[j]? = some x -> (i = j /\ i < δ.length /\ x = .own ds) \/ (i ≠ j /\ δ[j]? = some x) := fun {j x} e => by
  by_cases hj : i = j
  ·subst hj
   by_cases hi : i < δ.length
   ·rw [List.getElem?_set_self hi] at e
    exact .inl ⟨rfl, hi, (Option.some.inj e).symm⟩
   ·rw [List.getElem?_eq_none (by rw [List.length_set]; lia)] at e
    cases e
  ·rw [List.getElem?_set_ne hj] at e
   exact .inr ⟨hj, e⟩
 have sub : ∀ a, H a ≠ none -> ¬ qA B σ δ a -> ¬ qA B (σ.set i (some (.ref p))) (δ.set i (.own ds)) a := fun a ha n z => by
  rcases z with z | ⟨j, es, e1, e2⟩
  ·exact n (.inl z)
  ·rcases get e1 with ⟨rfl, hi, _⟩ | ⟨hj, e1⟩
   ·rw [List.getElem?_set_self (by rw [R.len]; exact hi)] at e2
    cases e2
    exact ha hp
   ·rw [List.getElem?_set_ne hj] at e2
    exact n (.inr ⟨j, es, e1, e2⟩)
 have R' := R.more s
 refine ⟨⟨R'.same, R'.pd, by rw [List.length_set, List.length_set]; exact R.len, fun j d' k' e => ?_, fun j es e => ?_, fun j l q es fs e1 e2 e3 e4 => ?_⟩, fun b o e n => ⟨s b o e, sub b (by rw [e]; exact fun z => nomatch z) n⟩⟩
 ·rcases get e with ⟨_, _, z⟩ | ⟨hj, e⟩
  ·cases z
  ·obtain ⟨w, h1, h2⟩ := R.val j d' k' e
   rw [List.getElem?_set_ne hj]
   exact ⟨w, h1, (Rp.weak (Rp.there _ _ h2) fun a g => ⟨sub a g.2 g.1.1, g.1.2⟩).same s⟩
 ·rcases get e with ⟨rfl, hi, z⟩ | ⟨hj, e⟩
  ·cases z
   exact ⟨c, p, List.getElem?_set_self (by rw [R.len]; exact hi), R.same.free hp, fun z => R.pd p z hp, hp'⟩
  ·rw [List.getElem?_set_ne hj]
   exact R'.own j es e
 ·have pne : ∀ {j : Nat} {es : List D} {q : Addr}, δ[j]? = some (.own es) -> σ[j]? = some (some (.ref q)) -> q ≠ p := fun {j es q} e1 e2 z => by
   have := R.owned (.inr ⟨j, es, e1, e2⟩)
   rw [z] at this
   exact this hp
  rcases get e1 with ⟨h1, hi, _⟩ | ⟨h1, e1⟩
  ·rcases get e2 with ⟨h2, _, _⟩ | ⟨h2, e2⟩
   ·exact h1.symm.trans h2
   ·subst h1
    rw [List.getElem?_set_self (by rw [R.len]; exact hi)] at e3
    rw [List.getElem?_set_ne h2] at e4
    cases e3
    exact absurd rfl (pne e2 e4)
  ·rw [List.getElem?_set_ne h1] at e3
   rcases get e2 with ⟨h2, hi, _⟩ | ⟨h2, e2⟩
   ·subst h2
    rw [List.getElem?_set_self (by rw [R.len]; exact hi)] at e4
    cases e4
    exact absurd rfl (pne e1 e3)
   ·rw [List.getElem?_set_ne h2] at e4
    exact R.apart j l q es fs e1 e2 e3 e4
theorem yT {δ : Dl} {j : Nat} {x : Sl} (h : (freeze δ)[j]? = some x) : ∃ y, δ[j]? = some y /\ x = frz y := by
 unfold freeze at h
 rw [List.getElem?_map] at h
 cases e : δ[j]? with
 | none => rw [e] at h; cases h
 | some y => rw [e] at h; exact ⟨y, rfl, (Option.some.inj h).symm⟩
theorem zh {p : Addr} (h : qA B σ (freeze δ) p) : B.P p := by
 rcases h with h | ⟨j, ds, e, _⟩
 ·exact h
 ·obtain ⟨y, _, z⟩ := yT e
  cases y <;> cases z
theorem Rl.frz (R : Rl mg K B H σ δ) : Rl mg K B H σ (freeze δ) := by
 refine ⟨R.same, R.pd, by unfold freeze; rw [List.length_map]; exact R.len, fun j d k e => ?_, fun j ds e => ?_, fun j l p ds es e1 _ _ _ => ?_⟩
 ·obtain ⟨y, h, z⟩ := yT e
  cases y with
  | un => cases z
  | val d' k' =>
   cases z
   obtain ⟨w, h1, h2⟩ := R.val j _ _ h
   exact ⟨w, h1, h2.weak fun a g => ⟨fun z => g.1 (.inl (zh z)), g.2⟩⟩
  | own ds =>
   cases z
   obtain ⟨c, p, h1, h2, h3, h4⟩ := R.own j ds h
   exact ⟨.ref p, h1, .lst ⟨fun z => h3 (zh z), fun _ => h2⟩ (.of h4) (.vg c)⟩
 ·obtain ⟨y, _, z⟩ := yT e
  cases y <;> cases z
 ·obtain ⟨y, _, z⟩ := yT e1
  cases y <;> cases z
theorem ZC : Frm B σ δ H σ (freeze δ) H := fun b o e n => ⟨e, fun z => n (.inl (zh z))⟩
theorem Rl.U0 {ds : List D} (R : Rl mg K B H σ δ) (hδ : δ[i]? = some (.own ds)) : Rl mg K B H σ (δ.set i (.val (.lst ds) true)) /\ Frm B σ δ H σ (δ.set i (.val (.lst ds) true)) H := by
 obtain ⟨c, p, h1, h2, h3, h4⟩ := R.own i ds hδ
 have hi : i < σ.length := (List.getElem?_eq_some_iff.mp h1).1
 have e : σ.set i (some (.ref p)) = σ := by
  refine List.ext_getElem? fun j => ?_
  by_cases hj : i = j
  ·subst hj
   rw [List.getElem?_set_self hi, h1]
  ·rw [List.getElem?_set_ne hj]
 have sub : ∀ a, qA B σ (δ.set i (.val (.lst ds) true)) a -> qA B σ δ a := fun a z => by
  rw [<- e] at z
  exact wZ (fun _ q => by cases q) z
 have np : ¬ qA B σ (δ.set i (.val (.lst ds) true)) p := fun z => by
  rcases z with z | ⟨j, es, e1, e2⟩
  ·exact h3 z
  ·by_cases hj : i = j
   ·subst hj
    rw [List.getElem?_set_self (by rw [<- R.len]; exact hi)] at e1
    cases e1
   ·rw [List.getElem?_set_ne hj] at e1
    exact hj (R.apart i j p ds es hδ e1 h1 e2)
 refine ⟨⟨R.same, R.pd, by rw [List.length_set]; exact R.len, fun j d k q => ?_, fun j es q => ?_, fun j l q fs gs e1 e2 e3 e4 => ?_⟩, fun b o q n => ⟨q, fun z => n (sub b z)⟩⟩
 ·by_cases hj : i = j
  ·subst hj
   rw [List.getElem?_set_self (by rw [<- R.len]; exact hi)] at q
   cases q
   exact ⟨_, h1, .lst ⟨np, fun _ => h2⟩ (.of h4) (.vg c)⟩
  ·rw [List.getElem?_set_ne hj] at q
   obtain ⟨w, g1, g2⟩ := R.val j d k q
   exact ⟨w, g1, g2.weak fun a g => ⟨fun z => g.1 (sub a z), g.2⟩⟩
 ·by_cases hj : i = j
  ·subst hj
   rw [List.getElem?_set_self (by rw [<- R.len]; exact hi)] at q
   cases q
  ·rw [List.getElem?_set_ne hj] at q
   exact R.own j es q
 ·have get : ∀ {j : Nat} {es : List D}, (δ.set i (.val (.lst ds) true))[j]? = some (.own es) -> δ[j]? = some (.own es) := fun {j es} q => by
   by_cases hj : i = j
   ·subst hj
    rw [List.getElem?_set_self (by rw [<- R.len]; exact hi)] at q
    cases q
   ·rw [List.getElem?_set_ne hj] at q
    exact q
  exact R.apart j l q fs gs (get e1) (get e2) e3 e4
theorem VR.slot {k : Kd} (R : Rl mg K B H σ δ) (s : qg H H') (r : VR mg K B H H' σ δ k v d) (h : k ≠ .bo \/ d.sc = true) : ∃ d' b, wt (d, if d.sc = true then .nw else k) = .val d' b /\ d' = d /\ Rp mg K (fun a => ¬ qA B σ δ a /\ (b = true -> B.H0 a = none)) H' v d := by
 refine ⟨d, _, rfl, rfl, ?_⟩
 cases c : d.sc with
 | true =>
  have e := (r.rp R).sc c
  rw [e]
  exact Rp.vg c
 | false =>
  rw [if_neg (by decide)]
  rcases h with h | h
  ·cases k with
   | bo => exact absurd rfl h
   | sh => exact Rp.weak r fun a g => ⟨g, fun z => nomatch z⟩
   | nw => exact Rp.weak r fun a g => ⟨g.1, fun _ => g.2⟩
   | fr => exact Rp.weak (VR.wo R r) fun a g => ⟨g.1, fun _ => g.2⟩
  ·rw [c] at h
   cases h
end
structure Gd (X : Cx) (E : XK) : Prop where
 calm : X.calm = true
 nd : X.N.Nodup
 acc : Acc X E
 own : PassesOwn (model X.prog X.w) X.A X.env X.xe
theorem Qc {X : Cx} {E : XK} {L : Addr} (hst : X.stack = X.env :: X.outer) (hfr : X.env.frame = some L) : PassesOwn (model X.prog X.w) X.A X.env (Arr X E) := by
 intro e s1 x
 obtain ⟨a, cls, B, H', pins, σ, rfl, I, hd, kb, q⟩ := x
 have hfrm : X.A.frames = some (X.env :: X.outer) := by rw [<- hst]; exact I.ok.frames
 have hd0 := hd
 rw [hst] at hd0
 refine wx hfrm hfr hfr hd0 fun h1 hd1 up1 => ?_
 rw [<- hst] at hd1
 obtain ⟨I1, kb1⟩ := qV I hd kb hd1.hand up1
 unfold cameBackBy
 refine wpAny_bind (zG hd1 fun T => ?_)
 rw [if_neg (show ¬ ((Value.ref T == Value.none) = true) from by simp)]
 refine vj hd1 fun h2 hd2 up2 => ?_
 obtain ⟨I2, kb2⟩ := qV I1 hd1.hand kb1 hd2.hand up2
 exact ⟨a, cls, B, H', pins, σ, rfl, I2, hd2.hand, kb2, q⟩
section
variable {X : Cx} {E : XK} {pos : Pos}
theorem xf {st : List Stmt} {t t' : TS} (h : PSs X st t) (i : ∀ D σ H, t' D σ H -> t D σ H) : PSs X st t' := fun pins s σ H D I hw => h pins s σ H D I (i D σ H hw)
theorem uw : PSs X [] (TSx X E zV) := xf ZT fun D σ H ⟨B, δ, R, h⟩ => h σ H R Frm.refl
theorem YS {a b : RS} {D : Ends} {σ : St} {H : Hp} (h : TSx X E (wg a b) D σ H) : TSx X E a { D with nx := TSx X E b D } σ H := by
 obtain ⟨B, δ, R, h⟩ := h
 refine ⟨B, δ, R, ?_⟩
 unfold wg Out.andThen at h
 cases ha : a δ with
 | nx δ1 =>
  rw [ha] at h
  exact fun σ1 H1 R1 f1 => ⟨B, δ1, R1, wF.later h f1⟩
 | bk δ1 => rw [ha] at h; exact h
 | ct δ1 => rw [ha] at h; exact h
 | rt d k => rw [ha] at h; exact h
 | er c => rw [ha] at h; exact h
 | no => rw [ha] at h; exact h
theorem jP {st : Stmt} {rest : List Stmt} {a b : RS} (h1 : PS X st (TSx X E a)) (h2 : PSs X rest (TSx X E b)) : PSs X (st :: rest) (TSx X E (wg a b)) := xf (wu h1 h2) fun _ _ _ h => YS h
theorem qJ {st : Stmt} {a : RS} (h1 : PS X st (TSx X E a)) : PSs X [st] (TSx X E a) := wG h1
theorem jg {mg : Str -> Option Value} {K : PySem.W.Frag} {B : Bs} {H : Hp} {σ : St} {δ : Dl} {c : Str} (R : Rl mg K B H σ δ) (h : ∀ C H', mg c = some (.ref C) -> qg B.H0 H' -> E (.ref C) none H') : ∀ C H', mg c = some (.ref C) -> qg H H' -> E (.ref C) none H' := fun C H' e s => h C H' e (R.same.trans s)
theorem Q6 {e : Expr} {r : RE} (he : PE X e (TEx X E r)) (hs : autoParam (swapsWith e none pos.line X.env = pure false) qj._auto_1) : PS X (.Expr e pos) (TSx X E (ve r)) := by
 refine vC (Q0 he hs) fun D σ H ⟨B, δ, R, h⟩ => ⟨B, δ, R, ?_⟩
 unfold ve at h
 cases hr : r δ with
 | ok x => rw [hr] at h; exact fun v H' s _ => h σ H' (R.more s) (Frm.grow s)
 | er c => rw [hr] at h; exact jg R h
 | no => rw [hr] at h; exact h
theorem YL {i : Nat} {r : RE} {D : Ends} {σ : St} {H : Hp} (h : TSx X E (z0 i r) D σ H) : Wd (TEx X E r) (vz i) D σ H := by
 obtain ⟨B, δ, R, h⟩ := h
 refine ⟨B, δ, R, ?_⟩
 unfold z0 at h
 cases hr : r δ with
 | er c => rw [hr] at h; exact jg R h
 | no => rw [hr] at h; exact h
 | ok x =>
  rw [hr] at h
  obtain ⟨d, k⟩ := x
  intro v H' s vr
  have vr : VR X.mg X.K B H H' σ δ k v d := vr
  show D.nx (σ.set i (some v)) H'
  -- a value that is no list just made
  have plain : (k ≠ .bo \/ d.sc = true) -> wF X.mg X.K E B H σ δ (.nx (δ.set i (wt (d, if d.sc = true then .nw else k)))) D -> D.nx (σ.set i (some v)) H' := fun hk q => by
   obtain ⟨d', b, e, e2, rp⟩ := VR.slot R s vr hk
   subst e2
   rw [e] at q
   exact q _ _ ((R.more s).jY rp) ((Frm.grow s).trans zt)
  cases k with
  | fr =>
   obtain ⟨p, ds, rfl, rfl, c, e1, e2⟩ := vr
   have q := R.XN (i := i) s e1 e2 c
   exact h _ _ q.1 q.2
  | bo =>
   cases hsc : d.sc with
   | true =>
    refine plain (.inr hsc) ?_
    rw [if_pos hsc]
    cases d <;> first | exact h | cases hsc
   | false =>
    have h' : wF X.mg X.K E B H σ δ (.nx ((freeze δ).set i (.val d false))) D := by
     cases d <;> first | exact h | cases hsc
    refine h' _ _ ((R.more s).frz.jY ?_) ((Frm.grow s).trans (ZC.trans zt))
    exact Rp.weak vr fun a g => ⟨fun z => g (zh z), fun z => nomatch z⟩
  | sh =>
   refine plain (.inl fun z => nomatch z) ?_
   cases d <;> exact h
  | nw =>
   refine plain (.inl fun z => nomatch z) ?_
   cases d <;> exact h
theorem YQ {i : Nat} {x : Str} {e : Expr} {r : RE} {pos' : Pos} (g : Gd X E) (hi : X.N[i]? = some x) (hx : Loc X.env.scope x) (he : PE X e (TEx X E r)) (hs : autoParam (swapsWith e (some (.Name x pos')) pos.line X.env = pure false) qj._auto_1) (hf : autoParam (X.fn x = true \/ X.env.scope.names.lookup x = some .local) xc._auto_1) :
  PS X (.Assign [.Name x pos'] e pos) (TSx X E (z0 i r)) := vC (uT g.nd hi hx he hs hf) fun _ _ _ h => YL h
theorem WC {c : Expr} {a b : List Stmt} {t : RT} {ra rb : RS} (hc : PT X c (TTx X E t)) (ha : PSs X a (TSx X E ra)) (hb : PSs X b (TSx X E rb)) : PS X (.If c a b pos) (TSx X E (sIf t ra rb)) := by
 refine vC (Uy hc ha hb) fun D σ H ⟨B, δ, R, h⟩ => ⟨B, δ, R, ?_⟩
 unfold sIf at h
 cases hr : t δ with
 | er c => rw [hr] at h; exact jg R h
 | no => rw [hr] at h; exact h
 | ok x =>
  rw [hr] at h
  intro H1 s1
  cases x with
  | true => exact ⟨B, δ, R.more s1, wF.later h (Frm.grow s1)⟩
  | false => exact ⟨B, δ, R.more s1, wF.later h (Frm.grow s1)⟩
theorem wd {e : Expr} {r : RE} (he : PE X e (TEx X E r)) : PS X (.Return (some e) pos) (TSx X E (vS r)) := by
 refine vC (z8 he) fun D σ H ⟨B, δ, R, h⟩ => ⟨B, freeze δ, R.frz, ?_⟩
 unfold vS at h
 cases hr : r (freeze δ) with
 | er c => rw [hr] at h; exact jg R h
 | no => rw [hr] at h; exact h
 | ok x =>
  rw [hr] at h
  obtain ⟨d, k⟩ := x
  intro v H' s vr
  have vr : VR X.mg X.K B H H' σ (freeze δ) k v d := vr
  have same := R.same.trans s
  have Wf : d.sc = true -> RR X.mg X.K B.H0 H' false v d := fun c => by
   have e := (vr.rp R.frz).sc c
   rw [e]
   exact Rp.vg c
  cases k with
  | fr =>
   obtain ⟨p, ds, rfl, rfl, c, e1, e2⟩ := vr
   exact h _ H' same ⟨p, ds, rfl, rfl, c, R.same.free e1, e2⟩
  | nw =>
   have h' : wF X.mg X.K E B H σ δ (.rt d false) D := by cases d <;> exact h
   exact h' v H' same (Rp.weak vr fun a g => g.2)
  | sh =>
   have h' : wF X.mg X.K E B H σ δ (if d.sc = true then .rt d false else .no) D := by cases d <;> exact h
   cases c : d.sc with
   | true => rw [if_pos c] at h'; exact h' v H' same (Wf c)
   | false => rw [if_neg (by rw [c]; decide)] at h'; exact h'.elim
  | bo =>
   have h' : wF X.mg X.K E B H σ δ (if d.sc = true then .rt d false else .no) D := by cases d <;> exact h
   cases c : d.sc with
   | true => rw [if_pos c] at h'; exact h' v H' same (Wf c)
   | false => rw [if_neg (by rw [c]; decide)] at h'; exact h'.elim
theorem xj {x : Str} {C : Addr} {np cpos : Pos} (g : Gd X E) (hg : Gl X x) (hm : X.mg x = some (.ref C)) (hC : qC X.K C = true) (hd : autoParam ((x == ("__debug__" : Str)) = false) qH._auto_1) : PS X (.Raise (some (.Call (.Name x np) [] [] cpos)) none pos) (TSx X E (wc x)) :=
 vC (Wl g.calm g.acc hg hm hC hd) fun D σ H ⟨B, δ, R, h⟩ => h C H hm R.same
theorem Ye (n : Nat) (i : Int) : y9 n i = ixN n i := rfl
noncomputable def Kp (fl : Bool) (B B' : Bs) (σ : St) (δ : Dl) (H1 : Hp) (σ' : St) (δ' : Dl) (H2 : Hp) : Prop :=
 B'.H0 = B.H0 /\ (∀ b o, H1 b = some o -> ¬ qA B σ δ b -> H2 b = some o /\ ¬ qA B' σ' δ' b) /\ (fl = false -> qg H1 H2)
theorem Kp.of {B : Bs} {σ σ' : St} {δ δ' : Dl} {H1 H2 : Hp} (f : Frm B σ δ H1 σ' δ' H2) : Kp true B B σ δ H1 σ' δ' H2 := ⟨rfl, f, fun z => nomatch z⟩
noncomputable def Tg.sets : Tg -> St -> St -> Prop
 | .one i, σ, σ2 => ∃ v, σ2 = σ.set i (some v)
 | .two i j, σ, σ2 => ∃ v w, σ2 = (σ.set i (some v)).set j (some w)
noncomputable def Walks (X : Cx) (B : Bs) (H1 : Hp) (σ : St) (δ : Dl) (g : TG) (tg : Tg) (J : It) (fl : Bool) (xs : List DK) : Prop :=
 (∀ (B' : Bs) (i : Nat) (x : DK) (σ' : St) (δ' δ2 : Dl) (H2 : Hp), xs[i]? = some x -> Rl X.mg X.K B' H2 σ' δ' -> Kp fl B B' σ δ H1 σ' δ' H2 -> tg.put x δ' = some δ2 ->
  J.go i H2 /\ ∀ v H3, J.yld i H2 v H3 -> ∀ Q : St -> Hp -> Prop, (∀ σ2 H4, Rl X.mg X.K B' H4 σ2 δ2 -> Frm B' σ' δ' H2 σ2 δ2 H4 -> qg H2 H4 -> tg.sets σ' σ2 -> Q σ2 H4) -> g v σ' H3 Q) /\
 ∀ (B' : Bs) (i : Nat) (σ' : St) (δ' : Dl) (H2 : Hp), xs.length <= i -> Rl X.mg X.K B' H2 σ' δ' -> Kp fl B B' σ δ H1 σ' δ' H2 -> J.stop i H2
noncomputable def tI (X : Cx) (E : XK) (g : TG) (tg : Tg) (src : RI) : TI := fun σ H R => ∃ B δ, Rl X.mg X.K B H σ δ /\ qh X.mg E H (src δ) fun x => ∀ J H1, qg H H1 -> Walks X B H1 σ δ g tg J x.1 x.2 -> R J H1
theorem WI {tgE iter : Expr} {body : List Stmt} {g : TG} {tg : Tg} {src : RI} {rb : RS} (G : Gd X E) (hi : PI X tgE iter (tI X E g tg src)) (hg : PG X tgE g) (hb : PSs X body (TSx X E rb)) (hs : autoParam (∀ x, foldedSetIterable iter X.env x = pure x) zB._auto_1) :
  PS X (.For tgE iter body [] pos) (TSx X E (Wc tg src rb)) := by
 refine vC (WD G.own G.calm hi hg hb hs) fun D σ H ⟨B, δ, R, h⟩ => ⟨B, δ, R, ?_⟩
 unfold Wc at h
 cases hr : src δ with
 | er c => rw [hr] at h; exact jg R h
 | no => rw [hr] at h; exact h
 | ok x =>
  rw [hr] at h
  obtain ⟨fl, xs⟩ := x
  cases fl with
  | false => exact h.elim
  | true =>
   intro J H1 s1 W
   have h : wF X.mg X.K E B H σ δ (turns tg rb xs δ) D := h
   have h1 := wF.later h (Frm.grow (σ := σ) s1)
   refine ⟨fun i m σ' H' => m = xs.length - i /\ i <= xs.length /\ ∃ δ', Rl X.mg X.K B H' σ' δ' /\ Frm B σ δ H1 σ' δ' H' /\ wF X.mg X.K E B H' σ' δ' (turns tg rb (xs.drop i) δ') D, ⟨xs.length, by lia, Nat.zero_le _, δ, R.more s1, Frm.refl, h1⟩, ?_⟩
   rintro i m σ' H' ⟨rfl, hi, δ', R', f', h'⟩
   by_cases hlt : i < xs.length
   ·right
    have hx : xs[i]? = some xs[i] := List.getElem?_eq_getElem hlt
    rw [List.drop_eq_getElem_cons hlt] at h'
    unfold turns at h'
    cases hp : tg.put xs[i] δ' with
    | none => rw [hp] at h'; exact h'.elim
    | some δ2 =>
     rw [hp] at h'
     obtain ⟨go, yl⟩ := W.1 B i xs[i] σ' δ' δ2 H' hx R' (Kp.of f') hp
     refine ⟨go, fun σ2 H2 => i + 1 <= xs.length /\ ∃ δ3, Rl X.mg X.K B H2 σ2 δ3 /\ Frm B σ δ H1 σ2 δ3 H2 /\ wF X.mg X.K E B H2 σ2 δ3 (turns tg rb (xs.drop (i + 1)) δ3) D, fun σ2 H2 ⟨q1, δ3, q2, q3, q4⟩ => ⟨xs.length - (i + 1), by lia, rfl, q1, δ3, q2, q3, q4⟩, fun v H3 hy => ?_⟩
     refine yl v H3 hy _ fun σ2 H4 R2 f2 _ _ => ⟨B, δ2, R2, ?_⟩
     have f4 := f'.trans f2
     dsimp only at h'
     cases hb : rb δ2 with
     | nx δ3 => rw [hb] at h'; exact fun σ3 H5 R3 f3 => ⟨hlt, δ3, R3, f4.trans f3, wF.later h' (f2.trans f3)⟩
     | ct δ3 => rw [hb] at h'; exact fun σ3 H5 R3 f3 => ⟨hlt, δ3, R3, f4.trans f3, wF.later h' (f2.trans f3)⟩
     | bk δ3 => rw [hb] at h'; exact fun σ3 H5 R3 f3 => h' σ3 H5 R3 (f2.trans f3)
     | rt d k => rw [hb] at h'; exact h'
     | er c => rw [hb] at h'; exact h'
     | no => rw [hb] at h'; exact h'
   ·left
    have e : i = xs.length := by lia
    subst e
    rw [List.drop_length] at h'
    exact ⟨W.2 B _ σ' δ' H' (Nat.le_refl _) R' (Kp.of f'), h' σ' H' R' Frm.refl⟩
end
section
variable {mg : Str -> Option Value} {E : XK} {H : Hp} {α : Type} {d d' d2 : D} {k : α -> Prop}
theorem U1 {f : Int -> Rs α} (h : qh mg E H (match d with | .int i => f i | _ => .no) k) : ∃ i, d = .int i /\ qh mg E H (f i) k := by
 cases d with
 | int i => exact ⟨i, rfl, h⟩
 | _ => exact h.elim
theorem Um {f : List D -> List D -> Rs α} (h : qh mg E H (match d, d' with | .lst i, .lst j => f i j | _, _ => .no) k) : ∃ i j, d = .lst i /\ d' = .lst j /\ qh mg E H (f i j) k := by
 cases d with
 | lst i =>
  cases d' with
  | lst j => exact ⟨i, j, rfl, rfl, h⟩
  | _ => exact h.elim
 | _ => exact h.elim
theorem UO {f : Int -> Int -> Int -> Rs α} (h : qh mg E H (match d, d', d2 with | .int i, .int j, .int c => f i j c | _, _, _ => .no) k) : ∃ i j c, d = .int i /\ d' = .int j /\ d2 = .int c /\ qh mg E H (f i j c) k := by
 cases d with
 | int i =>
  cases d' with
  | int j =>
   cases d2 with
   | int c => exact ⟨i, j, c, rfl, rfl, rfl, h⟩
   | _ => exact h.elim
  | _ => exact h.elim
 | _ => exact h.elim
end
section
variable {mg : Str -> Option Value} {K : PySem.W.Frag} {B : Bs} {H H1 H2 H' : Hp} {σ σ' : St} {δ δ' δ2 : Dl} {v : V} {d : D} {i j : Nat} {k : Kd}
theorem yB {fl : Bool} {B' : Bs} (f : Kp fl B B' σ δ H1 σ' δ' H2) (hk : d.sc = true \/ k ≠ .bo) (r : Rp mg K (Gk B σ δ k) H1 v d) : Rp mg K (Gk B' σ' δ' k) H2 v d := by
 rcases hk with c | hk
 ·rw [r.sc c]
  exact Rp.vg c
 obtain ⟨f0, f2, f3⟩ := f
 refine Rp.mono (fun a g => ?_) d v (Rp.there _ _ r)
 obtain ⟨g, n⟩ := g
 have viaOwn : ¬ qA B σ δ a -> ¬ qA B' σ' δ' a /\ ∀ o, H1 a = some o -> H2 a = some o := fun no => by
  cases e : H1 a with
  | none => exact absurd e n
  | some o => exact ⟨(f2 a o e no).2, fun o' e' => by cases e'; exact (f2 a o e no).1⟩
 cases k with
 | bo => exact absurd rfl hk
 | sh => exact viaOwn g
 | nw => exact ⟨⟨(viaOwn g.1).1, by rw [f0]; exact g.2⟩, (viaOwn g.1).2⟩
 | fr => exact ⟨⟨(viaOwn g.1).1, by rw [f0]; exact g.2⟩, (viaOwn g.1).2⟩
theorem zX (h : put i (d, k) δ = some δ') : d.sc = true \/ k ≠ .bo := by
 cases k with
 | bo =>
  have h2 : (if d.sc = true then some (δ.set i (.val d true)) else none) = some δ' := h
  by_cases c : d.sc = true
  ·exact .inl c
  ·rw [if_neg c] at h2
   cases h2
 | sh => exact .inr fun z => nomatch z
 | nw => exact .inr fun z => nomatch z
 | fr => exact .inr fun z => nomatch z
theorem Wv (f : Frm B σ δ H1 σ' δ' H2) (hk : d.sc = true \/ k ≠ .bo) (r : Rp mg K (Gk B σ δ k) H1 v d) : Rp mg K (Gk B σ' δ' k) H2 v d := yB (Kp.of f) hk r
theorem xP (R : Rl mg K B H σ δ) (r : Rp mg K (Gk B σ δ k) H v d) (h : put i (d, k) δ = some δ') : Rl mg K B H (σ.set i (some v)) δ' /\ Frm B σ δ H (σ.set i (some v)) δ' H := by
 have fin : ∀ b : Bool, δ' = δ.set i (.val d b) -> Rp mg K (fun a => ¬ qA B σ δ a /\ (b = true -> B.H0 a = none)) H v d -> Rl mg K B H (σ.set i (some v)) δ' /\ Frm B σ δ H (σ.set i (some v)) δ' H := fun b e q => by
  rw [e]
  exact ⟨R.jY q, zt⟩
 cases c : d.sc with
 | true =>
  have e := r.sc c
  subst e
  refine fin true ?_ (Rp.vg c)
  cases k with
  | bo =>
   have h2 : (if d.sc = true then some (δ.set i (.val d true)) else none) = some δ' := h
   rw [if_pos c] at h2
   exact (Option.some.inj h2).symm
  | sh =>
   have h2 : some (δ.set i (wt (d, if d.sc = true then .nw else .sh))) = some δ' := h
   rw [if_pos c] at h2
   exact (Option.some.inj h2).symm
  | nw =>
   have h2 : some (δ.set i (wt (d, if d.sc = true then .nw else .nw))) = some δ' := h
   rw [if_pos c] at h2
   exact (Option.some.inj h2).symm
  | fr =>
   have h2 : some (δ.set i (wt (d, if d.sc = true then .nw else .fr))) = some δ' := h
   rw [if_pos c] at h2
   exact (Option.some.inj h2).symm
 | false =>
  have cn : ¬ (d.sc = true) := by rw [c]; decide
  cases k with
  | bo =>
   have h2 : (if d.sc = true then some (δ.set i (.val d true)) else none) = some δ' := h
   rw [if_neg cn] at h2
   cases h2
  | sh =>
   have h2 : some (δ.set i (wt (d, if d.sc = true then .nw else .sh))) = some δ' := h
   rw [if_neg cn] at h2
   exact fin false (Option.some.inj h2).symm (r.weak fun a g => ⟨g, fun z => nomatch z⟩)
  | nw =>
   have h2 : some (δ.set i (wt (d, if d.sc = true then .nw else .nw))) = some δ' := h
   rw [if_neg cn] at h2
   exact fin true (Option.some.inj h2).symm (r.weak fun a g => ⟨g.1, fun _ => g.2⟩)
  | fr =>
   have h2 : some (δ.set i (wt (d, if d.sc = true then .nw else .fr))) = some δ' := h
   rw [if_neg cn] at h2
   exact fin true (Option.some.inj h2).symm (r.weak fun a g => ⟨g.1, fun _ => g.2⟩)
end
section
variable {X : Cx} {E : XK} {pos : Pos} {tgE : Expr}
theorem zN {tg iter : Expr} {w w' : TI} (h : PI X tg iter w) (i : ∀ σ H R, w' σ H R -> w σ H R) : PI X tg iter w' := fun pins s σ H R I hw => h pins s σ H R I (i σ H R hw)
theorem uW {k : Kd} (h : k.safe = true) : k ≠ .bo := fun z => by rw [z] at h; cases h
theorem VD {k : Kd} (h : k ≠ .bo) : k.low .nw ≠ .bo := by cases k <;> first | exact absurd rfl h | exact fun z => nomatch z
theorem Wu {B : Bs} {σ : St} {δ : Dl} {k : Kd} {a : Addr} (h : k ≠ .bo) (g : Gk B σ δ k a) : ¬ qA B σ δ a := by
 cases k with
 | bo => exact absurd rfl h
 | sh => exact g
 | nw => exact g.1
 | fr => exact g.1
theorem zu {mg : Str -> Option Value} {K : PySem.W.Frag} {B : Bs} {H1 : Hp} {σ : St} {δ : Dl} {k : Kd} {v : V} {ds : List D} {fl : Bool} (hk : fl = true -> k ≠ .bo) (r : Rp mg K (Gk B σ δ k) H1 v (.lst ds)) : ∃ a vs, v = .ref a /\ SqL K H1 a vs /\ qd mg K (Gk B σ δ k) H1 vs ds /\
  ∀ (B' : Bs) (H2 : Hp) (σ' : St) (δ' : Dl), Kp fl B B' σ δ H1 σ' δ' H2 -> SqL K H2 a vs := by
 cases r with
 | lst g s q =>
  refine ⟨_, _, rfl, .inl s, q, fun B' H2 σ' δ' f => .inl (W2 s fun o e => ?_)⟩
  cases fl with
  | true => exact (f.2.1 _ o e (Wu (hk rfl) g)).1
  | false => exact f.2.2 rfl _ o e
 | lstK s q => exact ⟨_, _, rfl, s _, q, fun B' H2 _ _ _ => s H2⟩
theorem zm {i : Nat} {iter : Expr} {r : RE} (hl : PE X iter (TEx X E r)) : PI X tgE iter (tI X E (vz i) (.one i) (iOf r)) := by
 refine zN (Yj hl) fun σ H R ⟨B, δ, R0, h⟩ => ⟨B, δ, R0, ?_⟩
 refine qh.imp (qh.bind h) fun x h1 v H1 s1 vr => ?_
 obtain ⟨d, k⟩ := x
 have vr : VR X.mg X.K B H H1 σ δ k v d := vr
 cases d with
 | lst ds =>
  have h2 := h1
  have hk : k.safe = true -> k.low .nw ≠ .bo := fun z => VD (uW z)
  have rp := VR.low R0 .nw vr
  rw [VR.gk (low_ne _ _)] at rp
  obtain ⟨a, vs, rfl, sq, ra, st⟩ := zu (fl := k.safe) hk rp
  refine ⟨a, rfl, ⟨vs, sq⟩, h2 (Itl X.K a) H1 s1 ⟨fun B' n x σ' δ' δ2 H2 hx R' f hp => ?_, fun B' n σ' δ' H2 hn R' f => ⟨vs, st B' H2 σ' δ' f, by rw [ra.len]; simpa using hn⟩⟩⟩
  have sq2 := st B' H2 σ' δ' f
  rw [List.getElem?_map] at hx
  cases hd : ds[n]? with
  | none => rw [hd] at hx; cases hx
  | some d =>
   rw [hd] at hx
   cases hx
   obtain ⟨w, hw, rw'⟩ := ra.getD hd
   refine ⟨⟨vs, w, sq2, hw⟩, fun u H3 hy Q hQ => ?_⟩
   obtain ⟨rfl, hu⟩ := hy
   have e := hu vs sq2
   rw [hw] at e
   cases e
   have q := xP R' (yB f (zX (show put i (d, k.low .nw) δ' = some δ2 from hp)) rw') hp
   exact hQ _ _ q.1 q.2 qg.refl ⟨_, rfl⟩
 | _ => exact h1.elim
theorem Vc {i : Nat} {a : Expr} {r : RE} {p : Pos} (hg : Gl X "range") (hm : X.mg "range" = none) (ha : PE X a (TEx X E r)) (hs : autoParam (starEach [a] X.env = [(false, eval a X.env)]) qj._auto_1) : PI X tgE (.Call (.Name "range" p) [a] [] pos) (tI X E (vz i) (.one i) (zU r)) := by
 refine zN (Vv hg hm (vA ha wH hs) hs) fun σ H R ⟨B, δ, R0, h⟩ => ⟨B, δ, R0, ?_⟩
 refine qh.imp (qh.bind h) fun x h1 v H1 s1 vr => ?_
 obtain ⟨d, k⟩ := x
 have vr : VR X.mg X.K B H H1 σ δ k v d := vr
 obtain ⟨z, e, g9⟩ := U1 h1
 clear h1
 subst e
 by_cases c : -1000000 < z /\ z < 1000000
 ·rw [if_pos c] at g9
  have ev := qI R0 vr
  subst ev
  refine ⟨z, rfl, by lia, by lia, g9 _ H1 s1 ⟨fun B' n x σ' δ' δ2 H2 hx R' f hp => ?_, fun B' n σ' δ' H2 hn R' f => (show z.toNat <= n by rw [List.length_map, List.length_range] at hn; exact hn)⟩⟩
  rw [List.getElem?_map] at hx
  cases hd : (List.range z.toNat)[n]? with
  | none => rw [hd] at hx; cases hx
  | some m =>
   rw [hd] at hx
   cases hx
   obtain ⟨hlt, e⟩ := List.getElem?_eq_some_iff.mp hd
   rw [List.length_range] at hlt
   rw [List.getElem_range] at e
   subst e
   refine ⟨hlt, fun u H3 hy Q hQ => ?_⟩
   obtain ⟨rfl, rfl⟩ := hy
   have hp : put i (D.int (n : Nat), .nw) δ' = some δ2 := hp
   have q := xP (v := .int (0 + (n : Nat))) R' (by rw [Int.zero_add]; exact Rp.int _) hp
   exact hQ _ _ q.1 q.2 qg.refl ⟨_, rfl⟩
 ·rw [if_neg c] at g9
  exact g9.elim
theorem WL {K : PySem.W.Frag} {mg : Str -> Option Value} {B B' : Bs} {H1 H2 : Hp} {σ σ' : St} {δ δ' δ2 : Dl} {i j : Nat} {k : Kd} {x y : V} {dx dy : D} {T : Addr} {fl : Bool} (R' : Rl mg K B' H2 σ' δ') (f : Kp fl B B' σ δ H1 σ' δ' H2) (rx : Rp mg K (Gk B σ δ k) H1 x dx) (ry : Rp mg K (Gk B σ δ k) H1 y dy) (hT : H2 T = none)
  (hp : (Tg.two i j).put (.tup [dx, dy], k) δ' = some δ2) (Q : St -> Hp -> Prop) (hQ : ∀ σ2 H4, Rl mg K B' H4 σ2 δ2 -> Frm B' σ' δ' H2 σ2 δ2 H4 -> qg H2 H4 -> (Tg.two i j).sets σ' σ2 -> Q σ2 H4) :
  Zq K 2 (yW (vz i) (yW (vz j) Yf)) (.ref T) σ' (upd H2 T (.tup [x, y])) Q := by
 have s2 := qQ (o := .tup [x, y]) hT
 have hp : (put i (dx, k) δ').bind (put j (dy, k)) = some δ2 := hp
 cases h1 : put i (dx, k) δ' with
 | none => rw [h1] at hp; cases hp
 | some δ1 =>
  rw [h1] at hp
  have hp : put j (dy, k) δ1 = some δ2 := hp
  have q1 := xP (R'.more s2) ((yB f (zX h1) rx).same s2) h1
  have ry2 : Rp mg K (Gk B' (σ'.set i (some x)) δ1 k) (upd H2 T (.tup [x, y])) y dy := Wv q1.2 (zX hp) ((yB f (zX hp) ry).same s2)
  have q2 := xP q1.1 ry2 hp
  refine ⟨T, [x, y], rfl, SqT.of qo, rfl, x, [y], rfl, y, [], rfl, rfl, ?_⟩
  exact hQ _ _ q2.1 ((Frm.grow s2).trans (q1.2.trans q2.2)) s2 ⟨_, _, rfl⟩
theorem XH {i j : Nat} {e e2 : Expr} {r q : RE} {p tpos : Pos} {elts : List Expr} {kk : Nat} (hg : Gl X "zip") (hm : X.mg "zip" = none) (ha : PE X e (TEx X E r)) (hb : PE X e2 (TEx X E q))
  (hs : autoParam (starEach [e, e2] X.env = (false, eval e X.env) :: starEach [e2] X.env) qj._auto_1) (hs2 : autoParam (starEach [e2] X.env = (false, eval e2 X.env) :: starEach [] X.env) qj._auto_1) (hpl : autoParam ((backTo pos (starEach [e2] X.env)).any (·.1) = false) qj._auto_1) :
  PI X (.Tuple elts kk tpos) (.Call (.Name "zip" p) [e, e2] [] pos) (tI X E (Zq X.K 2 (yW (vz i) (yW (vz j) Yf))) (.two i j) (V1 r q)) := by
 refine zN (XM hg hm (vA ha (vA hb wH hs2) hs) hs hpl) fun σ H R ⟨B, δ, R0, h⟩ => ⟨B, δ, R0, ?_⟩
 refine qh.imp (qh.bind h) fun x h1 v H1 s1 vr => ⟨B, δ, R0.more s1, ?_⟩
 refine qh.imp (qh.more (qh.bind h1) s1) fun y h2 w H2 s2 vw => ?_
 obtain ⟨d, k⟩ := x
 obtain ⟨d', k'⟩ := y
 have vr : VR X.mg X.K B H H1 σ δ k v d := vr
 have vw : VR X.mg X.K B H1 H2 σ δ k' w d' := vw
 obtain ⟨xs, ys, e, e2, g9⟩ := Um h2
 clear h2
 subst e e2
 have h3 := g9
 have hkk : (k.safe && k'.safe) = true -> k.low k' ≠ .bo := fun z => by
  rw [Bool.and_eq_true] at z
  have hk := uW z.1
  have hk' := uW z.2
  cases k <;> cases k' <;> first | exact absurd rfl hk | exact absurd rfl hk' | exact fun z => nomatch z
 have rx := VR.low R0 k' (vr.later s2)
 have ry := VR.Ut (R0.more s1) k vw
 rw [VR.gk (low_ne _ _)] at rx ry
 obtain ⟨a, vs, rfl, sqa, ra, sta⟩ := zu (fl := k.safe && k'.safe) hkk rx
 obtain ⟨b, us, rfl, sqb, rb, stb⟩ := zu (fl := k.safe && k'.safe) hkk ry
 refine ⟨a, b, vs, us, rfl, sqa, sqb, h3 (Itz X.K a b) H2 (s1.trans s2) ⟨fun B' n x σ' δ' δ2 H3 hx R' f hp => ?_, fun B' n σ' δ' H3 hn R' f => ⟨vs, us, sta B' H3 σ' δ' f, stb B' H3 σ' δ' f, ?_⟩⟩⟩
 ·rw [List.getElem?_map] at hx
  cases hd : (xs.zip ys)[n]? with
  | none => rw [hd] at hx; cases hx
  | some pr =>
   rw [hd] at hx
   cases hx
   rw [List.getElem?_zip_eq_some] at hd
   obtain ⟨x, hx, rx'⟩ := ra.getD hd.1
   obtain ⟨y, hy, ry'⟩ := rb.getD hd.2
   have sa := sta B' H3 σ' δ' f
   have sb := stb B' H3 σ' δ' f
   refine ⟨⟨vs, us, x, y, sa, sb, hx, hy⟩, fun u H4 hyl Q hQ => ?_⟩
   obtain ⟨T, x2, y2, rfl, hT, rfl, e1, e2⟩ := hyl
   have e1 := e1 vs sa
   have e2 := e2 us sb
   rw [hx] at e1
   rw [hy] at e2
   cases e1
   cases e2
   exact WL R' f rx' ry' hT hp Q hQ
 ·rw [List.length_map, List.length_zip] at hn
  rw [ra.len, rb.len]
  lia
end
section
variable {X : Cx} {E : XK} {pos : Pos}
noncomputable def spD (mg : Str -> Option Value) (K : PySem.W.Frag) (n : Nat) (g : Fn) : Sp := fun vs H Q E => ∃ ds : List D, ds.length = n /\ qd mg K (fun _ => True) H vs ds /\ qh mg E H (g ds) fun y => ∀ v H', qg H H' -> RR mg K H H' y.2 v y.1 -> Q v H'
noncomputable def Fd (P : Program) (w : World) (K : PySem.W.Frag) (mg : Str -> Option Value) (base : Heap) (k : Nat) (x : Str) (n : Nat) (g : Fn) : Prop :=
 ∃ (f : Addr) (fd : FuncData) (ps : List Str), wL P w K mg base (CX1 P w) k f fd ps (spD mg K n g) /\ mg x = some (.ref f) /\ PySem.W.keepIn K (.ref f) = true /\ Binds K fd ps []
theorem ZV {r : RA} {g : Fn} {n : Nat} {σ : St} {H : Hp} {Q : VK} (hn : ∀ δ xs, r δ = .ok xs -> xs.length = n) (h : TEx X E (qm g r) σ H Q) : uh (spD X.mg X.K n g) [] E (TAx X E r) σ H Q := by
 obtain ⟨B, δ, R, h⟩ := h
 refine ⟨B, δ, R, ?_⟩
 have e : ∀ xs, r δ = .ok xs -> xs.length = n := fun xs => hn δ xs
 cases hr : r δ with
 | er c =>
  unfold qm at h
  rw [hr] at h
  exact h
 | no =>
  unfold qm at h
  rw [hr] at h
  exact h
 | ok xs =>
  unfold qm at h
  rw [hr] at h
  intro vs H1 s1 vrs
  refine ⟨xs.map (·.1), by rw [List.length_map]; exact e xs hr, by rw [List.append_nil]; exact vrs.rp R, ?_⟩
  refine qh.imp (qh.more (qh.bind h) s1) fun y q v H2 s2 rr => ?_
  refine q v H2 (s1.trans s2) ?_
  show VR _ _ _ _ _ _ _ (kB y.2) _ _
  have R1 := R.more s1
  cases hb : y.2 with
  | true =>
   rw [hb] at rr
   obtain ⟨p, ds, a, b, c, e1, e2⟩ := rr
   exact ⟨p, ds, a, b, c, s1.free e1, e2⟩
  | false =>
   rw [hb] at rr
   exact Rp.weak rr fun a g => ⟨R1.fresh g, R1.same.free g⟩
inductive Vs : RA -> Nat -> Prop
 | nil : Vs qu 0
 | cons {r : RE} {rr : RA} {n : Nat} : Vs rr n -> Vs (qf r rr) (n + 1)
theorem Vs.is {r : RA} {n : Nat} (h : Vs r n) : ∀ δ xs, r δ = .ok xs -> xs.length = n := by
 induction h with
 | nil => intro δ xs e; cases e; rfl
 | @cons r rr n _ ih =>
  intro δ xs e
  unfold qf at e
  cases h1 : r δ with
  | er c => rw [h1] at e; cases e
  | no => rw [h1] at e; cases e
  | ok x =>
   rw [h1] at e
   cases h2 : rr δ with
   | er c => rw [Rs.vM, h2] at e; cases e
   | no => rw [Rs.vM, h2] at e; cases e
   | ok ys =>
    rw [Rs.vM, h2] at e
    cases e
    rw [List.length_cons, ih δ ys h2]
theorem qM {x : Str} {p : Pos} {e : Expr} {es : List Expr} {r : RA} {g : Fn} {n k : Nat} (acc : Acc X E) (F : Fd X.prog X.w X.K X.mg X.base k x n g) (hr : qZ k X.A) (hg : Gl X x) (hn : Vs r n) (ha : PA X (e :: es) (TAx X E r))
  (hdb : autoParam ((x == ("__debug__" : Str)) = false) qH._auto_1) (he : autoParam (starEach (e :: es) X.env = (false, eval e X.env) :: starEach es X.env) qj._auto_1) (hpl : autoParam ((backTo pos (starEach es X.env)).any (·.1) = false) qj._auto_1) :
  PE X (.Call (.Name x p) (e :: es) [] pos) (TEx X E (qm g r)) := by
 obtain ⟨f, fd, ps, F, hm, hk, hb⟩ := F
 exact qR (uC F hr hg hm hk hb .nil (zc acc) ha hdb he hpl) fun σ H Q h => ZV hn.is h
noncomputable def Yk (X : Cx) (f : List DK -> Rs DK) (rr : List V -> Hp -> VK -> Prop) : Prop := ∀ (B : Bs) (H H' : Hp) (σ : St) (δ : Dl) (vs : List V) (xs : List DK) (Q : VK) (E : XK), Rl X.mg X.K B H σ δ -> qg H H' -> VRs X.mg X.K B H H' σ δ vs xs -> Fin X.mg X.K E B H' σ δ (f xs) Q -> rr vs H' Q
theorem xA {e : Expr} {r : RA} {f : List DK -> Rs DK} {rr : List V -> Hp -> VK -> Prop} (h : PE X e (tCB rr (TAx X E r))) (F : Yk X f rr) : PE X e (TEx X E (z4 f r)) :=
 qR h fun σ H Q ⟨B, δ, R, h⟩ => ua R h fun xs vs H1 s1 vrs h1 => F B H H1 σ δ vs xs Q E R s1 vrs h1
theorem ZO {mg : Str -> Option Value} {K : PySem.W.Frag} {B : Bs} {H H' : Hp} {σ : St} {δ : Dl} {vs : List V} {x : DK} (h : VRs mg K B H H' σ δ vs [x]) : ∃ v, vs = [v] /\ VR mg K B H H' σ δ x.2 v x.1 := by
 cases h with
 | cons a b => cases b; exact ⟨_, rfl, a⟩
theorem xB : Yk X yo (fun xs H Q => ∃ p ys, xs = [.ref p] /\ (SqL X.K H p ys \/ SqT X.K H p ys) /\ Q (.int ys.length) H) := by
 intro B H H' σ δ vs xs Q E R s vr h
 match xs, vr, h with
 | [(.lst l, k)], vr, h =>
  obtain ⟨v, rfl, r⟩ := ZO vr
  obtain ⟨a, us, rfl, q, g⟩ := VR.items R r
  exact ⟨a, us, rfl, .inl q, by rw [g.len]; exact h _ H' qg.refl (VR.int _)⟩
 | [(.tup l, k)], vr, h =>
  obtain ⟨v, rfl, r⟩ := ZO vr
  obtain ⟨a, us, rfl, q, g⟩ := VR.V4 R r
  exact ⟨a, us, rfl, .inr q, by rw [g.len]; exact h _ H' qg.refl (VR.int _)⟩
 | [], _, h => exact h.elim
 | [(.int _, _)], _, h => exact h.elim
 | [(.bl _, _)], _, h => exact h.elim
 | [(.non, _)], _, h => exact h.elim
 | [(.fn _, _)], _, h => exact h.elim
 | [(.obj _ _ _, _)], _, h => exact h.elim
 | (.lst _, _) :: _ :: _, _, h => exact h.elim
 | (.tup _, _) :: _ :: _, _, h => exact h.elim
 | (.int _, _) :: _ :: _, _, h => exact h.elim
 | (.bl _, _) :: _ :: _, _, h => exact h.elim
 | (.non, _) :: _ :: _, _, h => exact h.elim
 | (.fn _, _) :: _ :: _, _, h => exact h.elim
 | (.obj _ _ _, _) :: _ :: _, _, h => exact h.elim
end
section
variable {X : Cx} {E : XK} {pos : Pos}
theorem Vq {vs : List V} {us : List Value} (h : Vals vs us) (js : List Nat) : Vals (js.filterMap (vs[·]?)) (js.filterMap (us[·]?)) := by
 induction js with
 | nil => exact .nil
 | cons j js ih =>
  cases e : vs[j]? with
  | none => rw [List.filterMap_cons, List.filterMap_cons]; simp only [e, h.none_of e]; exact ih
  | some v =>
   obtain ⟨u, e2, r⟩ := h.get e
   rw [List.filterMap_cons, List.filterMap_cons]
   simp only [e, e2]
   exact .cons r ih
theorem ZF {mg : Str -> Option Value} {K : PySem.W.Frag} {G : Addr -> Prop} {H : Hp} {vs : List V} {ds : List D} (h : qd mg K G H vs ds) (js : List Nat) : qd mg K G H (js.filterMap (vs[·]?)) (js.filterMap (ds[·]?)) := by
 induction js with
 | nil => exact .nil
 | cons j js ih =>
  cases e : vs[j]? with
  | none =>
   have e2 : ds[j]? = none := by
    rw [List.getElem?_eq_none_iff] at e ⊢
    rw [<- h.len]
    exact e
   rw [List.filterMap_cons, List.filterMap_cons]; simp only [e, e2]; exact ih
  | some v =>
   obtain ⟨d, e2, r⟩ := h.get e
   rw [List.filterMap_cons, List.filterMap_cons]
   simp only [e, e2]
   exact .cons r ih
theorem Z2 {α : Type} (xs : List α) (lo hi st : Option Int) (h0 : st ≠ some 0) : (pick xs lo hi st).length <= xs.length := by
 have e : ∀ {β : Type} (f : α -> β) , ((pick xs lo hi st).map f) = pick (xs.map f) lo hi st := fun {β} f => by
  unfold pick
  rw [List.length_map, List.map_filterMap]
  congr 1
  funext j
  rw [List.getElem?_map]
 have q := PySem.slicePick_size_le (xs.map fun _ => Value.none).toArray lo hi st
 have e2 : (slicePick (xs.map fun _ => Value.none).toArray lo hi st).size = (pick xs lo hi st).length := by
  rw [<- List.length_map (f := fun _ => Value.none), e (fun _ => Value.none)]
  unfold slicePick pick
  simp
 rw [e2] at q
 simpa using q
noncomputable def Jc (K : PySem.W.Frag) : V -> Option Int -> Option Int -> Option Int -> Hp -> VK -> Prop := fun x lo hi st H Q => ∃ a xs, x = .ref a /\ SqL K H a xs /\ st ≠ some 0 /\ ∀ p, H p = none -> Q (.ref p) (upd H p (.lst (pick xs lo hi st)))
noncomputable def UP (K : PySem.W.Frag) (te : TE) (tl th ts : TO) : TE := fun σ H Q => te σ H fun x H1 => tl σ H1 fun l H2 => th σ H2 fun u H3 => ts σ H3 fun st H4 => Jc K x l u st H4 Q
theorem VO {e : Expr} {te : TE} {lo hi st : Option Expr} {tl th ts : TO} {p2 : Pos} (he : PE X e te) (hl : PO X lo tl) (hu : PO X hi th) (hst : PO X st ts) : PE X (.Subscript e (.Slice lo hi st p2) pos) (UP X.K te tl th ts) := by
 intro pins s σ H Q I h
 refine Subscript_ (thn (he pins s σ H _ I h) fun v s1 ⟨x, H1, I1, r1, q1⟩ => ?_)
 refine wpAny_Slice (thn (hl pins s1 σ H1 _ I1 q1) fun vl s2 ⟨l, H2, I2, pl, q2⟩ => thn (hu pins s2 σ H2 _ I2 q2) fun vu s3 ⟨u, H3, I3, pu, q3⟩ => thn (hst pins s3 σ H3 _ I3 q3) fun vk s4 ⟨k, H4, I4, pk, q4⟩ => ?_)
 have I5 : Inv X pins σ H4 { s4 with heap := s4.heap.push { cls := .type "slice", data := .fields #[vl, vu, vk] } } := I4.kept (t' := s4.toks) fun b ob q => Heap.get?_push_of_some _ q
 obtain ⟨a, xs, rfl, hx, h0, q⟩ := q4
 cases r1
 obtain ⟨its, r, ht, hz⟩ := I5.list hx
 have hlen := r.length
 show wpAny (model X.prog X.w) X.A (subscriptTail e (.Slice lo hi st p2) (.ref a) (.ref s4.heap.objs.size)) (EP X pins σ Q) X.xe { s4 with heap := s4.heap.push { cls := .type "slice", data := .fields #[vl, vu, vk] } }
 have tail : ∀ {Q' : Value -> Shared -> Prop} {s' : Shared}, s'.TypeIs (.ref a) "list" -> wpAny (model X.prog X.w) X.A (getItem (.ref a) (.ref s4.heap.objs.size)) Q' X.xe s' -> wpAny (model X.prog X.w) X.A (subscriptTail e (.Slice lo hi st p2) (.ref a) (.ref s4.heap.objs.size)) Q' X.xe s' := fun {Q' s'} ty hg => by
  cases st with
  | none => exact tail_any (ops := [.ref s4.heap.objs.size, .ref a]) ty slot_list_getitem.lookup hg (by with_unfolding_all rfl)
  | some z => exact tail_any (ops := [.ref a, .ref s4.heap.objs.size]) ty slot_list_getitem.lookup hg (by with_unfolding_all rfl)
 refine tail ht.isList.typeIs ?_
 refine wpAny_getItem_list_slice ht.isList (Heap.IsSliceOf.new ..) pl pu pk h0 ?_ (by rw [List.size_toArray]; lia)
 have e : slicePick its.toArray l u k = (pick its l u k).toArray := by
  unfold slicePick pick
  simp
 rw [e]
 have hv : Vals (pick xs l u k) (pick its l u k) := by
  unfold pick
  rw [hlen]
  exact Vq r _
 exact ⟨.ref _, _, I5.Z1 (t' := s4.toks) hv (Nat.le_trans (Z2 xs l u k h0) hz), rfl, q _ I5.fresh⟩
noncomputable def tO (mg : Str -> Option Value) (K : PySem.W.Frag) (E : XK) (r : RO) : TO := fun σ H Q => ∃ B δ, Rl mg K B H σ δ /\ qh mg E H (r δ) fun x => ∀ H', qg H H' -> Q x H'
noncomputable abbrev TOx (X : Cx) (E : XK) (r : RO) : TO := tO X.mg X.K E r
theorem QE {e : Option Expr} {t t' : TO} (h : PO X e t) (i : ∀ σ H Q, t' σ H Q -> t σ H Q) : PO X e t' := fun pins s σ H Q I hw => h pins s σ H Q I (i σ H Q hw)
theorem Zl : PO X none (TOx X E yR) := QE Yg fun σ H Q ⟨B, δ, R, h⟩ => h H qg.refl
theorem QI {e : Expr} {r : RE} (h : PE X e (TEx X E r)) : PO X (some e) (TOx X E (zQ r)) := by
 refine QE (ZE h) fun σ H Q ⟨B, δ, R, h⟩ => ⟨B, δ, R, ?_⟩
 refine qh.imp (qh.bind h) fun x h1 v H1 s1 vr => ?_
 obtain ⟨d, k⟩ := x
 have vr : VR X.mg X.K B H H1 σ δ k v d := vr
 cases d with
 | int i => exact ⟨i, qI R vr, h1 H1 s1⟩
 | _ => exact h1.elim
theorem W8 {e : Expr} {r : RE} {lo hi st : Option Expr} {rl rh rs : RO} {p2 : Pos} (he : PE X e (TEx X E r)) (hl : PO X lo (TOx X E rl)) (hu : PO X hi (TOx X E rh)) (hst : PO X st (TOx X E rs)) : PE X (.Subscript e (.Slice lo hi st p2) pos) (TEx X E (y6 r rl rh rs)) := by
 refine qR (VO he hl hu hst) fun σ H Q ⟨B, δ, R, h⟩ => ⟨B, δ, R, ?_⟩
 refine qh.imp (qh.bind h) fun x h1 v H1 s1 vr => ⟨B, δ, R.more s1, ?_⟩
 refine qh.imp (qh.more (qh.bind h1) s1) fun l h2 H2 s2 => ⟨B, δ, (R.more s1).more s2, ?_⟩
 refine qh.imp (qh.more (qh.bind h2) (s1.trans s2)) fun u h3 H3 s3 => ⟨B, δ, ((R.more s1).more s2).more s3, ?_⟩
 refine qh.imp (qh.more (qh.bind h3) ((s1.trans s2).trans s3)) fun k h4 H4 s4 => ?_
 have sA : qg H H4 := ((s1.trans s2).trans s3).trans s4
 obtain ⟨d, kd⟩ := x
 have vr : VR X.mg X.K B H H1 σ δ kd v d := vr
 cases d with
 | lst ds =>
  have h5 : Fin X.mg X.K E B H σ δ (if k = some 0 then .no else .ok (.lst (pick ds l u k), kL (pick ds l u k) (kd.low .nw))) Q := h4
  by_cases h0 : k = some 0
  ·rw [if_pos h0] at h5
   exact h5.elim
  ·rw [if_neg h0] at h5
   obtain ⟨a, us, rfl, q, g⟩ := VR.items R (vr.later (s2.trans (s3.trans s4)))
   refine ⟨a, us, rfl, q, h0, fun p hp => ?_⟩
   refine h5 _ _ (sA.trans (qQ hp)) ?_
   refine VR.laid R sA hp (low_ne _ _) ?_
   unfold pick
   rw [g.len]
   exact ZF g _
 | _ => exact h4.elim
theorem Ud : vR X oIx (fun x y H Q => UB X.K x y H Q \/ Uq X.K x y H Q) := by
 rintro B H H' σ δ x y ⟨dx, kx⟩ ⟨dy, ky⟩ Q E R s r1 r2 h
 have fin : ∀ {vs : List V} {ds : List D} {i : Int} {d : D}, qd X.mg X.K (Gk B σ δ (kx.low .nw)) H' vs ds -> (y9 ds.length i).bind (fun j => ds[j]?) = some d -> Fin X.mg X.K E B H' σ δ (.ok (d, kx.low .nw)) Q -> ∃ v, atI vs i = some v /\ Q v H' := fun {vs ds i d} g e q => by
  cases hj : y9 ds.length i with
  | none => rw [hj] at e; cases e
  | some j =>
   rw [hj] at e
   obtain ⟨v, e1, e2⟩ := g.getD (show ds[j]? = some d from e)
   refine ⟨v, ?_, q v H' qg.refl (by show VR _ _ _ _ _ _ _ (kx.low .nw) _ _; rw [VR.gk (low_ne _ _)]; exact e2)⟩
   unfold atI
   rw [g.len, <- Ye, hj]
   exact e1
 cases dx with
 | lst ds =>
  cases dy with
  | int i =>
   left
   obtain ⟨a, vs, rfl, q, g⟩ := VR.items R r1
   unfold oIx at h
   dsimp only at h
   cases e : (y9 ds.length i).bind (fun j => ds[j]?) with
   | none => rw [e] at h; exact h.elim
   | some d =>
    rw [e] at h
    obtain ⟨v, e1, e2⟩ := fin g e h
    exact ⟨a, vs, i, v, rfl, qI R r2, q, e1, e2⟩
  | _ => exact h.elim
 | tup ds =>
  cases dy with
  | int i =>
   right
   obtain ⟨a, vs, rfl, q, g⟩ := VR.V4 R r1
   unfold oIx at h
   dsimp only at h
   cases e : (y9 ds.length i).bind (fun j => ds[j]?) with
   | none => rw [e] at h; exact h.elim
   | some d =>
    rw [e] at h
    obtain ⟨v, e1, e2⟩ := fin g e h
    exact ⟨a, vs, i, v, rfl, qI R r2, q, e1, e2⟩
  | _ => exact h.elim
 | _ => exact h.elim
theorem jk {a b : Expr} {ra rb : RE} (ha : PE X a (TEx X E ra)) (hb : PE X b (TEx X E rb)) (hs : QN b) : PE X (.Subscript a b pos) (TEx X E (qF oIx ra rb)) :=
 qR (Ul (Ya.or XG) ha hb hs) fun _ _ _ h => two Ud h
noncomputable def Yn (X : Cx) (f : DK -> Rs DK) (rr : V -> Hp -> VK -> Prop) : Prop := ∀ (B : Bs) (H H' : Hp) (σ : St) (δ : Dl) (x : V) (dx : DK) (Q : VK) (E : XK), Rl X.mg X.K B H σ δ -> qg H H' -> VR X.mg X.K B H H' σ δ dx.2 x dx.1 -> Fin X.mg X.K E B H' σ δ (f dx) Q -> rr x H' Q
theorem one {f : DK -> Rs DK} {rr : V -> Hp -> VK -> Prop} {ra : RE} (F : Yn X f rr) {σ : St} {H : Hp} {Q : VK} (h : TEx X E (rUn f ra) σ H Q) : tUn rr (TEx X E ra) σ H Q := by
 obtain ⟨B, δ, R, h⟩ := h
 exact ⟨B, δ, R, qh.imp (qh.bind h) fun dx h1 v H1 s1 r1 => F B H H1 σ δ v dx Q E R s1 r1 (Fin.more h1 s1)⟩
theorem Xf : Yn X YH (rU fun i => .int (-i)) := by
 rintro B H H' σ δ x ⟨dx, kx⟩ Q E R s r1 h
 cases dx with
 | int i => exact ⟨i, qI R r1, h _ H' qg.refl (VR.int _)⟩
 | _ => exact h.elim
theorem XD {a : Expr} {ra : RE} (ha : PE X a (TEx X E ra)) : PE X (.UnaryOp .USub a pos) (TEx X E (rUn YH ra)) := qR (Yp WY ha) fun _ _ _ h => one Xf h
end
section
variable {X : Cx} {E : XK} {pos : Pos}
theorem vd : ∀ {ds : List D} {ns : List Int}, intsOf ds = some ns -> ds = ns.map D.int
 | [], ns, h => by cases h; rfl
 | .int i :: r, ns, h => by
  have h : (intsOf r).map (i :: ·) = some ns := h
  cases e : intsOf r with
  | none => rw [e] at h; cases h
  | some ms => rw [e] at h; cases h; rw [vd e]; rfl
 | .non :: _, _, h => nomatch h
 | .bl _ :: _, _, h => nomatch h
 | .lst _ :: _, _, h => nomatch h
 | .tup _ :: _, _, h => nomatch h
 | .fn _ :: _, _, h => nomatch h
 | .obj _ _ _ :: _, _, h => nomatch h
theorem ints_map : ∀ ns : List Int, intsOf (ns.map D.int) = some ns
 | [] => rfl
 | n :: r => by
  show (intsOf (r.map D.int)).map (n :: ·) = _
  rw [ints_map r]
  rfl
theorem yS : ∀ ns : List Int, (ns.map D.int).all D.sc = true
 | [] => rfl
 | _ :: r => yS r
theorem xF (ns : List Int) : (ns.map D.int).map toV = ns.map V.int := by
 rw [List.map_map]
 rfl
theorem wW : ∀ ns ms : List Int, PyData.eqvAll (ns.map PyData.int) (ms.map PyData.int) = decide (ns = ms)
 | [], [] => rfl
 | [], _ :: _ => rfl
 | _ :: _, [] => rfl
 | a :: r, b :: q => by
  show (PyData.eqv (.int a) (.int b) && PyData.eqvAll (r.map PyData.int) (q.map PyData.int)) = _
  rw [wW r q]
  show ((a == b) && _) = _
  by_cases h : a = b
  ·subst h; simp
  ·simp [h]
theorem zL {K : PySem.W.Frag} {H : Hp} : ∀ ns : List Int, xE K H (ns.map V.int) (ns.map PyData.int)
 | [] => .nil
 | n :: r => .cons (.int n) (zL r)
theorem lay_ints : ∀ ns : List Int, PyData.canLayAll0 (ns.map PyData.int) = true
 | [] => rfl
 | n :: r => by
  show (PyData.canLay0 (.int n) && PyData.canLayAll0 (r.map PyData.int)) = true
  rw [lay_ints r]
  rfl
theorem xb : ∀ ns : List Int, PyData.depthAll (ns.map PyData.int) <= 1
 | [] => Nat.zero_le _
 | n :: r => by
  show max (PyData.depth (.int n)) (PyData.depthAll (r.map PyData.int)) <= 1
  have a := xb r
  have b : PyData.depth (.int n) <= 1 := by first | exact Nat.le_refl _ | exact Nat.zero_le _
  lia
theorem shaped_ints (ns : List Int) : SeqAt.shaped (.list (ns.map PyData.int)) = true := by
 unfold SeqAt.shaped
 have a : PyData.canLay0 (.list (ns.map PyData.int)) = true := lay_ints ns
 have b : PyData.depth (.list (ns.map PyData.int)) <= 64 := by
  show PyData.depthAll (ns.map PyData.int) + 1 <= 64
  have := xb ns
  lia
 rw [a, decide_eq_true b]
 rfl
theorem yN {mg : Str -> Option Value} {K : PySem.W.Frag} {B : Bs} {H H' : Hp} {σ : St} {δ : Dl} {k : Kd} {v : V} {ns : List Int} (R : Rl mg K B H σ δ) (h : VR mg K B H H' σ δ k v (.lst (ns.map D.int))) : ∃ a, v = .ref a /\ SqL K H' a (ns.map V.int) := by
 obtain ⟨a, vs, rfl, q, g⟩ := VR.items R h
 have e := g.sc (yS ns)
 rw [xF] at e
 subst e
 exact ⟨a, rfl, q⟩
theorem X5 : vR X (oEq false) (fun x y H Q => rEq x y H Q \/ XQ X.K x y H Q) := by
 rintro B H H' σ δ x y ⟨dx, kx⟩ ⟨dy, ky⟩ Q E R s r1 r2 h
 cases dx with
 | int i =>
  cases dy with
  | int j =>
   left
   rw [qI R r1, qI R r2]
   refine ⟨rfl, ?_⟩
   rw [yK, Bool.beq_eq_decide_eq]
   exact h _ H' qg.refl (VR.bl _)
  | _ => exact h.elim
 | bl i =>
  cases dy with
  | bl j =>
   left
   rw [Q5 R r1, Q5 R r2]
   refine ⟨rfl, ?_⟩
   rw [uR, Bool.beq_eq_decide_eq]
   exact h _ H' qg.refl (VR.bl _)
  | _ => exact h.elim
 | lst xs =>
  cases dy with
  | lst ys =>
   right
   unfold oEq at h
   dsimp only at h
   cases e1 : intsOf xs with
   | none => rw [e1] at h; exact h.elim
   | some ns =>
    cases e2 : intsOf ys with
    | none => rw [e1, e2] at h; exact h.elim
    | some ms =>
     rw [e1, e2] at h
     have q1 := vd e1
     have q2 := vd e2
     subst q1 q2
     obtain ⟨a, rfl, s1⟩ := yN R r1
     obtain ⟨b, rfl, s2⟩ := yN R r2
     refine ⟨_, _, .lst s1 (zL ns), .lst s2 (zL ms), shaped_ints ns, shaped_ints ms, ?_⟩
     show Q (.bl (PyData.eqvAll _ _)) H'
     rw [wW]
     exact h _ H' qg.refl (VR.bl _)
  | _ => exact h.elim
 | _ => exact h.elim
theorem UI : vR X (oEq true) (fun x y H Q => rNe x y H Q \/ YV X.K x y H Q) := by
 rintro B H H' σ δ x y ⟨dx, kx⟩ ⟨dy, ky⟩ Q E R s r1 r2 h
 cases dx with
 | int i =>
  cases dy with
  | int j =>
   left
   rw [qI R r1, qI R r2]
   refine ⟨rfl, ?_⟩
   rw [yK, Bool.beq_eq_decide_eq]
   exact h _ H' qg.refl (VR.bl _)
  | _ => exact h.elim
 | bl i =>
  cases dy with
  | bl j =>
   left
   rw [Q5 R r1, Q5 R r2]
   refine ⟨rfl, ?_⟩
   rw [uR, Bool.beq_eq_decide_eq]
   exact h _ H' qg.refl (VR.bl _)
  | _ => exact h.elim
 | lst xs =>
  cases dy with
  | lst ys =>
   right
   unfold oEq at h
   dsimp only at h
   cases e1 : intsOf xs with
   | none => rw [e1] at h; exact h.elim
   | some ns =>
    cases e2 : intsOf ys with
    | none => rw [e1, e2] at h; exact h.elim
    | some ms =>
     rw [e1, e2] at h
     have q1 := vd e1
     have q2 := vd e2
     subst q1 q2
     obtain ⟨a, rfl, s1⟩ := yN R r1
     obtain ⟨b, rfl, s2⟩ := yN R r2
     refine ⟨_, _, .lst s1 (zL ns), .lst s2 (zL ms), shaped_ints ns, shaped_ints ms, ?_⟩
     show Q (.bl (!PyData.eqvAll _ _)) H'
     rw [wW]
     exact h _ H' qg.refl (VR.bl _)
  | _ => exact h.elim
 | _ => exact h.elim
theorem XJ (hu : X.A.units + 64 < cLine) : OpR X (compareOp .Eq) (fun x y H Q => rEq x y H Q \/ XQ X.K x y H Q) := X4.or (Xx hu)
theorem Xe (hu : X.A.units + 64 < cLine) : OpR X (compareOp .NotEq) (fun x y H Q => rNe x y H Q \/ YV X.K x y H Q) := UG.or (Y8 hu)
theorem uM : bootBuiltins "sorted" = some (.builtin "sorted") := by decide +kernel
theorem wA : bootBuiltins "len" = some (.builtin "len") := by decide +kernel
theorem W4 {a : Expr} {ta : TA} {p : Pos} (hg : Gl X "range") (hm : X.mg "range" = none) (ha : PA X [a] ta) (hs : autoParam (starEach [a] X.env = [(false, eval a X.env)]) qj._auto_1) :
  PE X (.Call (.Name "range" p) [a] [] pos) (fun σ H Q => ta σ H fun vs H1 => ∃ j : Int, vs = [.int j] /\ ∀ q, H1 q = none -> Q (.ref q) (upd H1 q (.rng 0 j))) := by
 intro pins s σ H Q I h
 refine Call_ (z6 I hg hm boot_range (PyProof.Rows.callWith_type1 (thn (ha pos pins s σ H _ I h) fun us s1 ⟨vs, H1, I1, r1, q1⟩ => ?_) hs rfl))
 obtain ⟨j, e, q⟩ := q1
 subst e
 cases r1 with
 | cons r rr =>
  cases rr
  obtain ⟨t, rfl⟩ := r
  refine call_range_1 ⟨.ref _, _, I1.laid (t' := s1.toks + 1 + 1) (o := .rng 0 j) (fun _ _ q => Heap.get?_push_of_some _ q) (Nat.le_refl _) ⟨_, _, _, Heap.get?_push_size _ rfl⟩, rfl, q _ I1.fresh⟩
end
end L2.Ir
set_option maxHeartbeats 4000000
namespace L2.Ir
open PySem PySem.Spec PyProof.Rows
theorem x5 {h h' B B' : Heap} : ∀ {l : List Env}, h.FunFrames B l -> (∀ b ∈ frs l, ∀ o, h.get? b = some o -> h'.get? b = some o) -> (∀ b ∈ frs l, B'.get? b = none) -> h'.FunFrames B' l
 | [], _, _, _ => trivial
 | env :: r, ⟨hk, ⟨L, o, hf, _, ho, hd⟩, hr⟩, k, hB => by
  have hL : L ∈ frs (env :: r) := by unfold frs; rw [List.filterMap_cons, hf]; exact List.mem_cons_self
  have sub : ∀ b ∈ frs r, b ∈ frs (env :: r) := fun b hb => by unfold frs; rw [List.filterMap_cons, hf]; exact List.mem_cons_of_mem _ hb
  exact ⟨hk, ⟨L, o, hf, hB L hL, k L hL o ho, hd⟩, x5 hr (fun b hb => k b (sub b hb)) fun b hb => hB b (sub b hb)⟩
theorem Xs {h : Heap} {C b : Addr} {o : Obj} (e : (PySem.W.hideAll h [C]).get? b = some o) : h.get? b = some o /\ b ≠ C := by
 refine ⟨PySem.W.of_hideAll _ e, fun z => ?_⟩
 have q : (PySem.W.hideAll h [C]).get? b = none := PySem.W.hideAll_none _ (by rw [z]; exact List.mem_singleton_self _)
 rw [q] at e
 cases e
theorem xm {h : Heap} {C b : Addr} (e : h.get? b = none) : (PySem.W.hideAll h [C]).get? b = none := by
 cases q : (PySem.W.hideAll h [C]).get? b with
 | none => rfl
 | some o =>
  have := (Xs q).1
  rw [e] at this
  cases this
theorem Vr {B h h' : Heap} {l : List Env} {e C : Addr} {cls : Value} {m : Str -> Option Value} (x : wD B l e cls h) (hC : h.Ns C m) (hf : C ∉ frs l) (sb : Heap.SameBut C h h') : wD (PySem.W.hideAll B [C]) l e cls h' := by
 obtain ⟨kb, hen, hl, oe, vs, a0, he, hcls, hd, h0, T, oT, ts, f, h1, hnT, hTe, hT, hdT, h3⟩ := x
 obtain ⟨oc, es, ep, hoc, hdc, _⟩ := hC
 have ne : ∀ {b : Addr} {o : Obj} {ws : Array Value}, h.get? b = some o -> o.data = .fields ws -> b ≠ C := fun {b o ws} e1 e2 z => by
  rw [z, hoc] at e1
  cases e1
  rw [hdc] at e2
  cases e2
 have keep : ∀ b o, b ≠ C -> h.get? b = some o -> h'.get? b = some o := fun b o n e1 => (sb.2 b n).trans e1
 refine ⟨fun b o e1 => keep b o (Xs e1).2 (kb b o (Xs e1).1), xm hen, x5 hl (fun b hb o e1 => keep b o (fun z => hf (by rw [<- z]; exact hb)) e1) (fun b hb => xm (hl.mem hb).1), oe, vs, a0, keep _ _ (ne he hd) he, hcls, hd, h0, T, oT, ts, f, h1, xm hnT, hTe, keep _ _ (ne hT hdT) hT, hdT, h3⟩
noncomputable abbrev uu (X : Cx) (E : XK) (s : Shared) (H : Hp) (scope : Scope) (cenv : Env) (fp : List Addr) : Cx := (X.blk s H scope cenv fp).wU (Arr (X.blk s H scope cenv fp) E)
section
variable {X : Cx} {E : XK}
theorem V9 {pins : List (Addr × Obj)} {s : Shared} {σ : St} {H : Hp} {Q : VK} {elt tg iter : Expr} {ifs : List Expr} {scope : Scope} {own : List (Str × Nat)} {pos pos' : Pos} {wi : TI} {g : TG} {tt : TT} {te : TE} {use : Option (Value -> Sem Unit)} {Qf : Value -> Shared -> Prop} {LF : Addr}
  (hc : X.calm = true) (hN : X.N.Nodup) (acc : Acc X E) (hst : X.stack = X.env :: X.outer) (hfr : X.env.frame = some LF) (I : Inv X pins σ H s) (hi : PI X tg iter wi) (ok : Q3 X.N X.env.scope scope own)
  (hg : ∀ (s : Shared) (H : Hp) (C : Addr) (cl : List (Str × Addr)) (fp : List Addr), PG (uu X E s H scope (compEnvC scope cl C X.env) fp) tg g) (ht : ∀ (s : Shared) (H : Hp) (C : Addr) (cl : List (Str × Addr)) (fp : List Addr), PTs (uu X E s H scope (compEnvC scope cl C X.env) fp) ifs tt)
  (he : ∀ (s : Shared) (H : Hp) (C : Addr) (cl : List (Str × Addr)) (fp : List Addr), PE (uu X E s H scope (compEnvC scope cl C X.env) fp) elt te) (hs : ∀ x, foldedSetIterable iter X.env x = pure x)
  (h : tLc wi g tt te (own.map (·.2)) σ H Q)
  (hRR : ∀ D C s' m H', Inv X pins σ H' s' -> Q (.ref D) H' -> s'.heap.Ns C m -> wJ X pins H' C -> compPost (model X.prog X.w) X.A X.xe use Qf (.ref D) C (.ok .next) s') :
  wpAny (model X.prog X.w) X.A (comprehension (.ListComp elt [⟨tg, iter, ifs, 0⟩] scope pos) scope X.env pos' (newList []) false (eval iter X.env) use) Qf X.xe s := by
 have hfree : ∀ y ∈ scope.names, y.2 = .free -> ∃ c, X.env.cells.lookup y.1 = some c := fun y hy e => by
  rcases ok.free y hy e with k | k
  ·exact I.ok.has _ (.inl k)
  ·exact I.ok.has _ (.inr k)
 refine wpAny_comprehension_free (use := use) rfl hs (zv hfree) ok.kind (fun y hy e => by rw [ok.uniq y hy, e])
  (thn (hi pins s σ H _ I h) fun xv s1 hx => thn hx fun itv s2 h2 => ?_)
 obtain ⟨it, fp, tn, J, H2, e, I2, T, st2, f2, q⟩ := h2
 subst e
 refine wpAny_newObj_type (jA ?_) (by show 0 <= sizeLine; decide)
 generalize hD : s2.heap.objs.size = D
 have hDn : H2 D = none := I2.hok.fresh (Nat.le_of_eq hD)
 obtain ⟨W, ⟨m0, w0⟩, turn⟩ := q D hDn
 generalize hs3 : ({ s2 with heap := s2.heap.push { cls := .type "list", data := .seq ([] : List Value).toArray } } : Shared) = s3
 have I3 : Inv X pins σ (upd H2 D (.lst [])) s3 := by
  rw [<- hs3]
  refine I2.laid (t' := s2.toks) (fun b o e => Heap.get?_push_of_some _ e) (Nat.le_of_eq hD) ⟨Nat.zero_le _, [], 0, .nil, ?_⟩
  rw [<- hD]
  exact Heap.get?_push_size _ rfl
 have h3 : s3.heap = s2.heap.push { cls := .type "list", data := .seq ([] : List Value).toArray } := by rw [<- hs3]
 have sz : ∀ b ∈ fp, b < s2.heap.objs.size := fun b hb => by
  obtain ⟨o, e, _⟩ := T.obj _ _ st2 b hb
  exact Heap.lt_size e
 have f3 : ∀ b ∈ fp, wJ X pins (upd H2 D (.lst [])) b /\ b < s3.heap.objs.size := fun b hb => by
  have hlt := sz b hb
  refine ⟨⟨?_, (f2 b hb).2⟩, by rw [h3, Heap.size_push]; exact Nat.lt_succ_of_lt hlt⟩
  rw [qe (by rw [<- hD]; exact Nat.ne_of_lt hlt)]
  exact (f2 b hb).1
 have st3 : tn 0 s3.heap := T.keep _ _ _ st2 fun b _ o e => by rw [h3]; exact Heap.get?_push_of_some _ e
 have I4 := jb I3 ok hN f3
 have pg := hg s3 (upd H2 D (.lst [])) s3.heap.objs.size (cellsFrom (s3.heap.objs.size + 1) scope.names (qi X.env.cells scope.names [])) fp
 have pt := ht s3 (upd H2 D (.lst [])) s3.heap.objs.size (cellsFrom (s3.heap.objs.size + 1) scope.names (qi X.env.cells scope.names [])) fp
 have pe := he s3 (upd H2 D (.lst [])) s3.heap.objs.size (cellsFrom (s3.heap.objs.size + 1) scope.names (qi X.env.cells scope.names [])) fp
 show codeAny _ _ (.compStart (.ListComp elt [⟨tg, iter, ifs, 0⟩] scope pos) 0 (.ref it) (.ref D) (compEnvC scope (cellsFrom (s3.heap.objs.size + 1) scope.names (qi X.env.cells scope.names [])) s3.heap.objs.size X.env)) (compPost (model X.prog X.w) X.A X.xe use Qf (.ref D) s3.heap.objs.size) { s3 with heap := pushCells (s3.heap.push { cls := .type "dict", data := .dict #[] }) scope.names }
 have nfp : ∀ b ∈ fp, (upd H2 D (.lst [])) b = none := fun b hb => (f3 b hb).1.1
 generalize hce : compEnvC scope (cellsFrom (s3.heap.objs.size + 1) scope.names (qi X.env.cells scope.names [])) s3.heap.objs.size X.env = ce at I4 pg pt pe ⊢
 have cL : ce.locals = s3.heap.objs.size := by subst hce; rfl
 have cF : ce.frame = some LF := by subst hce; exact hfr
 generalize hH3 : upd H2 D (.lst []) = H3 at I3 I4 pg pt pe w0 nfp f3
 generalize hs4 : ({ s3 with heap := pushCells (s3.heap.push { cls := .type "dict", data := .dict #[] }) scope.names } : Shared) = s4 at I4 ⊢
 have st4 : tn 0 s4.heap := T.keep _ _ _ st3 fun b _ o e => by rw [<- hs4]; exact pushCells_keeps _ _ _ _ (Heap.get?_push_of_some _ e)
 have stat : ∀ {σ' : St} {H' : Hp} {s' : Shared}, Inv (X.blk s3 H3 scope ce fp) [] σ' H' s' -> (∀ b ∈ fp, H' b = none) -> ∀ b ∈ fp, wJ (X.blk s3 H3 scope ce fp) [] H' b := fun {σ' H' s'} I' hn b hb =>
  ⟨hn b hb, (I'.ok.exf b hb).1, I'.ok.exfs b hb, .inl hb, fun x c e => (I'.ok.exf b hb).2 x c e, fun p hp => absurd (show p ∈ ([] : List (Addr × Obj)) ++ [] from hp) (by simp)⟩
 -- an exception out of the block
 have exc : ∀ (e : Value) (s5 : Shared), Arr (X.blk s3 H3 scope ce fp) E e s5 -> notedBy (model X.prog X.w) X.A ce (fun e s' => compPost (model X.prog X.w) X.A X.xe use Qf (.ref D) s3.heap.objs.size (.error e) s') e s5 := fun e s5 x => by
  obtain ⟨a, cls, Bh, H', pins', σ', rfl, I5, hd, kb, q⟩ := x
  have hfrm : X.A.frames = some (X.env :: X.outer) := by rw [<- hst]; exact I3.ok.frames
  have hd0 : Hand Bh (X.env :: X.outer) a cls s5.heap := by rw [<- hst]; exact hd
  refine wx hfrm hfr cF hd0 fun h1 hd1 up1 => ?_
  rw [<- hst] at hd1
  obtain ⟨I6, kb1⟩ := qV I5 hd kb hd1.hand up1
  obtain ⟨m, hn, _⟩ := I6.loc
  have hn : h1.Ns ce.locals m := hn
  rw [cL] at hn
  refine ⟨m, hn, fun h' sb cenv hcl => ?_⟩
  have nC : H' s3.heap.objs.size = none := by
   have z : H' ce.locals = none := I6.free
   rw [cL] at z
   exact z
  have fC : wJ X pins H' s3.heap.objs.size := I3.QC (Nat.le_refl _) nC
  have I7 : Inv X pins σ H' { s5 with heap := h1 } := I3.VY (ch := fp) I6.os I6.base I6.hok I6.bare fun b hb => ⟨(f3 b hb).1.2.2.2.1, (f3 b hb).1.2.1, (f3 b hb).1.2.2.2.2.1, (f3 b hb).1.2.2.2.2.2⟩
  obtain ⟨g0, g1, g2, g3, g4, g5⟩ := fC
  have I8 : Inv X pins σ H' { s5 with heap := h' } := I7.turned (t' := s5.toks) (fun b o hb e => (sb.2 b hb).trans e) g0 g1 g3 g4 g5
  have cf : s3.heap.objs.size ∉ frs X.stack := fun z => by
   rcases List.mem_cons.mp (I3.vQ _ z) with z | z
   ·exact g1 z
   ·exact g2 z
  have hd2 := Vr hd1 hn cf sb
  have relN : ∀ b, Rel X pins H' b -> b ≠ s3.heap.objs.size /\ Rel (X.blk s3 H3 scope ce fp) pins' H' b := fun b r => by
   have inS3 : (¬ H' b ≠ none) -> ∃ o, s3.heap.get? b = some o := fun hn' => by
    rcases r with r | r
    ·exact absurd r hn'
    ·exact yP I3 (.inr r)
   by_cases hb : H' b ≠ none
   ·exact ⟨fun z => hb (by rw [z]; exact nC), .inl hb⟩
   ·obtain ⟨o, eo⟩ := inS3 hb
    refine ⟨Nat.ne_of_lt (Heap.lt_size eo), .inr (.inl ⟨o, eo, fun hfp => ?_⟩)⟩
    obtain ⟨k0, k1, k2, k3, k4, k5⟩ := (f3 b hfp).1
    rcases r with r | ⟨o', e', nx⟩ | ⟨y, e'⟩ | e' | ⟨p, hp, e'⟩
    ·exact hb r
    ·rcases k3 with k3 | k3
     ·exact nx k3
     ·exact absurd (Nat.lt_of_lt_of_le (Heap.lt_size e') k3) (Nat.lt_irrefl _)
    ·exact k4 y b e' rfl
    ·exact k1 e'
    ·exact k5 p hp e'
  have kb2 : ∀ b o, h'.get? b = some o -> b ∉ frs X.stack -> Rel X pins H' b -> (PySem.W.hideAll Bh [s3.heap.objs.size]).get? b = some o := fun b o hb hf r => by
   obtain ⟨nb, r2⟩ := relN b r
   have e1 : h1.get? b = some o := (sb.2 b nb).symm.trans hb
   exact PySem.W.hideAll_get _ (kb1 b o e1 hf r2) (by simpa using nb)
  unfold PySem.passOn
  refine wpAny_bind (zG hd2 fun T => ?_)
  rw [if_neg (show ¬ ((Value.ref T == Value.none) = true) from by simp)]
  refine wpAny_bind (vj hd2 fun h3' hd3 up3 => wpAny_throw ?_)
  obtain ⟨I9, kb3⟩ := qV I8 hd2.hand kb2 hd3.hand up3
  exact acc _ _ ⟨a, cls, _, H', pins, σ, rfl, I9, hd3.hand, kb3, q⟩
 have thnX : ∀ {α : Type} {t : Sem α} {P P' : α -> Shared -> Prop} {s' : Shared}, wpAny (model X.prog X.w) X.A t P (Arr (X.blk s3 H3 scope ce fp) E) s' -> (∀ a s, P a s -> P' a s) -> wpAny (model X.prog X.w) X.A t P' (notedBy (model X.prog X.w) X.A ce (fun e s' => compPost (model X.prog X.w) X.A X.xe use Qf (.ref D) s3.heap.objs.size (.error e) s')) s' :=
  fun {α t P P' s'} h hP => wpAny_mono h hP exc
 have loop : codeAny (model X.prog X.w) X.A (.compLoop (.ListComp elt [⟨tg, iter, ifs, 0⟩] scope pos) 0 (.ref it) (.ref D) ce) (compPost (model X.prog X.w) X.A X.xe use Qf (.ref D) s3.heap.objs.size) s4 := by
  refine ux (fun n s' => ∃ i H', Inv (X.blk s3 H3 scope ce fp) [] (wipe σ (own.map (·.2))) H' s' /\ tn i s'.heap /\ (∀ b ∈ fp, H' b = none) /\ W i n H') ?_ m0 ⟨0, H3, I4, st4, nfp, w0⟩
  rintro n s5 ⟨i, H5, I5, st5, n5, w5⟩
  rcases turn i n H5 w5 with ⟨stop, qq⟩ | ⟨go, Nx, hNx, step⟩
  ·have td := T.done (X.blk s3 H3 scope ce fp) rfl rfl rfl hc i [] s5 _ H5 (fun _ _ => False) I5 (stat I5 n5) st5 stop
   refine YI td fun r s6 ⟨hr, I6⟩ => ?_
   subst hr
   have I7 : Inv X pins σ H5 s6 := I3.VY (ch := fp) I6.os I6.base I6.hok I6.bare fun b hb => ⟨(f3 b hb).1.2.2.2.1, (f3 b hb).1.2.1, (f3 b hb).1.2.2.2.2.1, (f3 b hb).1.2.2.2.2.2⟩
   have nC : H5 s3.heap.objs.size = none := by
    have z : H5 ce.locals = none := I6.free
    rw [cL] at z
    exact z
   obtain ⟨m, hn, _⟩ := I6.loc
   have hn : s6.heap.Ns ce.locals m := hn
   rw [cL] at hn
   exact hRR D s3.heap.objs.size s6 m H5 I7 qq hn (I3.QC (Nat.le_refl _) nC)
  ·have ti := T.item (X.blk s3 H3 scope ce fp) rfl rfl rfl hc i [] s5 _ H5 (fun _ _ => False) I5 (stat I5 n5) st5 go
   refine YI ti fun r s6 ⟨u, hr, h6⟩ => ?_
   subst hr
   refine YI h6 fun _ s7 ⟨x, H7, I7, r7, y7, st7, n7⟩ => ?_
   have I7' := (I7.pinned (stat I7 n7) (T.obj _ _ st7)).wU (Arr (X.blk s3 H3 scope ce fp) E)
   refine thnX (pg _ s7 _ H7 x u _ I7' r7 (step x H7 y7)) fun _ s8 ⟨σ8, H8, I8, hw8, q8⟩ => ?_
   refine thnX (pt _ s8 σ8 H8 _ I8 q8) fun b s9 ⟨H9, I9, q9⟩ => ?_
   have fin : ∀ {s' : Shared} {H' : Hp}, Inv (X.blk s3 H3 scope ce fp) ([] ++ xK fp s7.heap) σ8 H' s' -> Nx H' -> ∃ m, m < n /\ ∃ i H', Inv (X.blk s3 H3 scope ce fp) [] (wipe σ (own.map (·.2))) H' s' /\ tn i s'.heap /\ (∀ b ∈ fp, H' b = none) /\ W i m H' := fun {s' H'} I' nx => by
    obtain ⟨m', hm, w'⟩ := hNx H' nx
    have pin' : ∀ b ∈ fp, ∀ o, s7.heap.get? b = some o -> s'.heap.get? b = some o /\ H' b = none := fun b hb o e =>
     let z := I'.pin (b, o) (List.mem_append_right _ (List.mem_append_right _ (zC hb e)))
     ⟨z.1, z.2.1⟩
    have hl : (wipe σ (own.map (·.2))).length = σ8.length := by rw [<- hw8, qL]
    refine ⟨m', hm, i + 1, H', (I'.wm (pins := [])).weak hl (fun j v e => ?_), T.keep _ _ _ st7 fun b hb o e => (pin' b hb o e).1, fun b hb => ?_, w'⟩
    ·rw [<- hw8] at e
     exact (vn e).1
    ·obtain ⟨o, e, _⟩ := T.obj _ _ st7 b hb
     exact (pin' b hb o e).2
   cases b with
   | false =>
    simp only [Bool.false_eq_true, if_false] at q9 ⊢
    exact fin I9.vK q9
   | true =>
    simp only [if_true] at q9 ⊢
    refine thnX (pe _ s9 σ8 H9 _ I9 q9) fun z s10 ⟨yv, H10, I10, r10, acc, hD10, hz10, nx⟩ => ?_
    exact Xi (X := X.blk s3 H3 scope ce fp) I10.vK hD10 hz10 r10 fun s11 I11 => fin I11 nx
 exact codeAny_compStart_list loop (T.self X.A 0 _ _ _ st4 loop)
theorem Xt {elt tg iter : Expr} {ifs : List Expr} {scope : Scope} {own : List (Str × Nat)} {pos : Pos} {wi : TI} {g : TG} {tt : TT} {te : TE} {LF : Addr} (hc : X.calm = true) (hN : X.N.Nodup) (acc : Acc X E) (hst : X.stack = X.env :: X.outer) (hfr : X.env.frame = some LF) (hi : PI X tg iter wi) (ok : Q3 X.N X.env.scope scope own)
  (hg : ∀ (s : Shared) (H : Hp) (C : Addr) (cl : List (Str × Addr)) (fp : List Addr), PG (uu X E s H scope (compEnvC scope cl C X.env) fp) tg g) (ht : ∀ (s : Shared) (H : Hp) (C : Addr) (cl : List (Str × Addr)) (fp : List Addr), PTs (uu X E s H scope (compEnvC scope cl C X.env) fp) ifs tt)
  (he : ∀ (s : Shared) (H : Hp) (C : Addr) (cl : List (Str × Addr)) (fp : List Addr), PE (uu X E s H scope (compEnvC scope cl C X.env) fp) elt te) (hs : autoParam (∀ x, foldedSetIterable iter X.env x = pure x) zB._auto_1) :
  PE X (.ListComp elt [⟨tg, iter, ifs, 0⟩] scope pos) (tLc wi g tt te (own.map (·.2))) := by
 intro pins s σ H Q I h
 rw [eval_ListComp]
 refine V9 hc hN acc hst hfr I hi ok hg ht he hs h fun D C s' m H' I' q hn f => ⟨m, hn, fun h'' sb => ?_⟩
 obtain ⟨f0, f1, f2, f3, f4, f5⟩ := f
 exact ⟨.ref D, H', I'.turned (t' := s'.toks) (fun b o hb e => (sb.2 b hb).trans e) f0 f1 f3 f4 f5, rfl, q⟩
end
theorem uo (δ : Dl) : ∀ vs : List Nat, (clear δ vs).length = δ.length
 | [] => rfl
 | v :: vs => by show ((clear δ vs).set v .un).length = _; rw [List.length_set, uo δ vs]
theorem vm {δ : Dl} {i : Nat} {x : Sl} : ∀ {vs : List Nat}, (clear δ vs)[i]? = some x -> x = .un \/ (i ∉ vs /\ δ[i]? = some x)
 | [], h => .inr ⟨by simp, h⟩
 | v :: vs, h => by
  have h : ((clear δ vs).set v .un)[i]? = some x := h
  by_cases e : v = i
  ·subst e
   by_cases hl : v < (clear δ vs).length
   ·rw [List.getElem?_set_self hl] at h
    exact .inl (Option.some.inj h).symm
   ·rw [List.getElem?_eq_none (by rw [List.length_set]; lia)] at h
    cases h
  ·rw [List.getElem?_set_ne e] at h
   rcases vm h with z | ⟨z1, z2⟩
   ·exact .inl z
   ·exact .inr ⟨by simp [z1, Ne.symm e], z2⟩
section
variable {mg : Str -> Option Value} {K : PySem.W.Frag} {B : Bs} {H H1 H' H'' : Hp} {σ : St} {δ : Dl} {D0 : Addr} {vs : List Nat}
noncomputable def Bd (B : Bs) (σ : St) (δ : Dl) (vs : List Nat) (D0 : Addr) : Bs := ⟨B.H0, fun p => p = D0 \/ (qA B σ δ p /\ ¬ ∃ (i : Nat) (ds : List D), (clear δ vs)[i]? = some (.own ds) /\ (wipe σ vs)[i]? = some (some (.ref p)))⟩
theorem Wi {p : Addr} (h : ∃ (i : Nat) (ds : List D), (clear δ vs)[i]? = some (.own ds) /\ (wipe σ vs)[i]? = some (some (.ref p))) : qA B σ δ p := by
 obtain ⟨i, ds, e1, e2⟩ := h
 rcases vm e1 with z | ⟨_, z⟩
 ·cases z
 ·exact .inr ⟨i, ds, z, (vn e2).1⟩
theorem xG {p : Addr} : qA (Bd B σ δ vs D0) (wipe σ vs) (clear δ vs) p ↔ p = D0 \/ qA B σ δ p := by
 constructor
 ·rintro ((h | h) | h)
  ·exact .inl h
  ·exact .inr h.1
  ·exact .inr (Wi h)
 ·rintro (h | h)
  ·exact .inl (.inl h)
  ·by_cases c : ∃ (i : Nat) (ds : List D), (clear δ vs)[i]? = some (.own ds) /\ (wipe σ vs)[i]? = some (some (.ref p))
   ·exact .inr c
   ·exact .inl (.inr ⟨h, c⟩)
theorem Jd (R : Rl mg K B H σ δ) {p : Addr} (h : B.P p) : (Bd B σ δ vs D0).P p := by
 refine .inr ⟨.inl h, fun ⟨i, ds, e1, e2⟩ => ?_⟩
 rcases vm e1 with z | ⟨_, z⟩
 ·cases z
 ·obtain ⟨_, q, e3, _, np, _⟩ := R.own i ds z
  have := (vn e2).1
  rw [this] at e3
  cases e3
  exact np h
theorem Rl.blk (R : Rl mg K B H σ δ) (hD : H D0 = none) (o : HO) : Rl mg K (Bd B σ δ vs D0) (upd H D0 o) (wipe σ vs) (clear δ vs) := by
 have s := qQ (o := o) hD
 have hne : ∀ a, H a ≠ none -> a ≠ D0 := fun a ha z => ha (by rw [z]; exact hD)
 refine ⟨R.same.trans s, fun p hp => ?_, by rw [qL, uo]; exact R.len, fun i d k e => ?_, fun i ds e => ?_, fun i j p ds es e1 e2 e3 e4 => ?_⟩
 ·rcases hp with rfl | ⟨hp, _⟩
  ·rw [qo]; exact fun z => nomatch z
  ·exact fun z => R.owned hp (s.free z)
 ·rcases vm e with z | ⟨nv, z⟩
  ·cases z
  ·obtain ⟨v, e1, e2⟩ := R.val i d k z
   refine ⟨v, by rw [w4 nv]; exact e1, ?_⟩
   refine Rp.same (Rp.weak (Rp.there _ _ e2) fun a g => ⟨fun z => ?_, g.1.2⟩) s
   rcases xG.mp z with z | z
   ·exact hne a g.2 z
   ·exact g.1.1 z
 ·rcases vm e with z | ⟨nv, z⟩
  ·cases z
  ·obtain ⟨c, p, e1, e2, np, e3⟩ := R.own i ds z
   have hp : H p ≠ none := by rw [e3]; exact fun z => nomatch z
   refine ⟨c, p, by rw [w4 nv]; exact e1, e2, fun q => ?_, s _ _ e3⟩
   rcases q with q | ⟨_, q⟩
   ·exact hne p hp q
   ·exact q ⟨i, ds, e, by rw [w4 nv]; exact e1⟩
 ·rcases vm e1 with z | ⟨n1, z1⟩
  ·cases z
  ·rcases vm e2 with z | ⟨n2, z2⟩
   ·cases z
   ·exact R.apart i j p ds es z1 z2 (vn e3).1 (vn e4).1
theorem Rl.made {B' : Bs} {σ' : St} {δ' : Dl} (R : Rl mg K B' H σ' δ') (hP : B'.P D0) (h0 : B'.H0 D0 = none) (o : HO) : Rl mg K B' (upd H D0 o) σ' δ' := by
 refine ⟨fun b q e => ?_, fun p hp => ?_, R.len, fun i d k e => ?_, fun i ds e => ?_, R.apart⟩
 ·rw [qe (qp e h0)]
  exact R.same b q e
 ·by_cases c : p = D0
  ·rw [c, qo]; exact fun z => nomatch z
  ·rw [qe c]; exact R.pd p hp
 ·obtain ⟨v, e1, e2⟩ := R.val i d k e
  exact ⟨v, e1, e2.mono fun a g => ⟨g, fun q z => by rw [qe (fun w => g.1 (.inl (by rw [w]; exact hP)))]; exact z⟩⟩
 ·obtain ⟨c, p, e1, e2, np, e3⟩ := R.own i ds e
  exact ⟨c, p, e1, e2, np, by rw [qe (fun w => np (by rw [w]; exact hP))]; exact e3⟩
theorem Qd {k l : Kd} {a : Addr} (g : Gk B σ δ k a) : Gk B σ δ (k.low l) a := by
 cases k <;> cases l <;> first | exact g | exact g.1 | exact fun z => g (.inl z) | exact fun z => g.1 (.inl z)
inductive VAs (mg : Str -> Option Value) (K : PySem.W.Frag) (B : Bs) (σ : St) (δ : Dl) (H : Hp) : List V -> List DK -> Prop
 | nil : VAs mg K B σ δ H [] []
 | snoc {vs : List V} {xs : List DK} {v : V} {x : DK} : VAs mg K B σ δ H vs xs -> Rp mg K (Gk B σ δ (x.2.low .nw)) H v x.1 -> VAs mg K B σ δ H (vs ++ [v]) (xs ++ [x])
theorem VAs.to {vs : List V} {xs : List DK} (h : VAs mg K B σ δ H vs xs) (k : ∀ a, ¬ B.P a -> ∀ o, H a = some o -> H' a = some o) : VAs mg K B σ δ H' vs xs := by
 induction h with
 | nil => exact .nil
 | snoc _ r ih =>
  refine .snoc ih (r.mono fun a g => ⟨g, k a ?_⟩)
  have g2 := Qd (l := .bo) g
  rename_i x _
  revert g2
  cases x.2 <;> exact fun g => g
theorem VAs.len {vs : List V} {xs : List DK} (h : VAs mg K B σ δ H vs xs) : vs.length = xs.length := by
 induction h with
 | nil => rfl
 | snoc _ _ ih => rw [List.length_append, List.length_append, ih]; rfl
theorem VAs.sc {vs : List V} {xs : List DK} (h : VAs mg K B σ δ H vs xs) (c : (xs.map (·.1)).all D.sc = true) : vs = (xs.map (·.1)).map toV := by
 induction h with
 | nil => rfl
 | snoc _ r ih =>
  rw [List.map_append, List.all_append, Bool.and_eq_true] at c
  rw [ih c.1, List.map_append, List.map_append]
  have c2 := c.2
  simp at c2
  rw [r.sc c2]
  rfl
theorem yj : ∀ (xs : List DK) (x : DK), qw (xs ++ [x]) = if x.1.sc = true then qw xs else (qw xs).low x.2
 | [], x => by
  show qw [x] = _
  unfold qw
  split
  ·rfl
  ·show x.2.low .nw = Kd.low .nw x.2
   exact xa _ _
 | y :: r, x => by
  show qw (y :: (r ++ [x])) = _
  unfold qw
  rw [yj r x]
  split <;> split <;> first | rfl | (rw [zg])
theorem VAs.kinds {vs : List V} {xs : List DK} (h : VAs mg K B σ δ H vs xs) : qd mg K (Gk B σ δ (qw xs)) H vs (xs.map (·.1)) := by
 induction h with
 | nil => exact .nil
 | @snoc vs xs v x _ r ih =>
  rw [List.map_append, yj]
  cases c : x.1.sc with
  | true =>
   rw [if_pos rfl]
   refine ih.append (.cons ?_ .nil)
   rw [r.sc c]
   exact Rp.vg c
  | false =>
   rw [if_neg (by decide)]
   refine (ih.weak fun a g => Qd g).append (.cons (r.weak fun a g => ?_) .nil)
   rw [xa]
   have e : (x.2.low .nw).low (qw xs) = x.2.low (qw xs) := by
    have n := vP xs
    cases x.2 <;> cases h : qw xs <;> first | rfl | exact absurd h n
   rw [<- e]
   exact Qd g
end
inductive FAs (H : Hp) (D0 : Addr) (H' : Hp) : List V -> List DK -> Prop
 | nil : FAs H D0 H' [] []
 | snoc {vs : List V} {xs : List DK} {q : Addr} {ds : List D} : FAs H D0 H' vs xs -> q ≠ D0 -> H q = none -> V.ref q ∉ vs -> ds.all D.sc = true -> H' q = some (.lst (ds.map toV)) -> FAs H D0 H' (vs ++ [.ref q]) (xs ++ [(.lst ds, .fr)])
structure FA (H : Hp) (D0 : Addr) (H' : Hp) (vs : List V) (ys : List DK) : Prop where
 len : vs.length = ys.length
 all : (∀ y ∈ ys, y.2 = .fr) -> FAs H D0 H' vs ys
theorem FA.nil {H : Hp} {D0 : Addr} {H' : Hp} : FA H D0 H' [] [] := ⟨rfl, fun _ => .nil⟩
theorem FAs.to {H : Hp} {D0 : Addr} {H1 H2 : Hp} {vs : List V} {ys : List DK} (h : FAs H D0 H1 vs ys) (k : ∀ a, a ≠ D0 -> ∀ o, H1 a = some o -> H2 a = some o) : FAs H D0 H2 vs ys := by
 induction h with
 | nil => exact .nil
 | snoc _ a b c d e ih => exact .snoc ih a b c d (k _ a _ e)
theorem FA.to {H : Hp} {D0 : Addr} {H1 H2 : Hp} {vs : List V} {ys : List DK} (h : FA H D0 H1 vs ys) (k : ∀ a, a ≠ D0 -> ∀ o, H1 a = some o -> H2 a = some o) : FA H D0 H2 vs ys := ⟨h.len, fun z => (h.all z).to k⟩
theorem FAs.at_ {H : Hp} {D0 : Addr} {H1 : Hp} {vs : List V} {ys : List DK} (h : FAs H D0 H1 vs ys) {p : Addr} : V.ref p ∈ vs -> H1 p ≠ none := by
 induction h with
 | nil => intro z; cases z
 | snoc _ a b c d e ih =>
  intro z
  rcases List.mem_append.mp z with z | z
  ·exact ih z
  ·cases List.mem_singleton.mp z
   rw [e]
   exact fun z => nomatch z
theorem FA.snoc {mg : Str -> Option Value} {K : PySem.W.Frag} {B : Bs} {σ : St} {δ : Dl} {H : Hp} {D0 : Addr} {H1 H2 : Hp} {vs acc : List V} {ys : List DK} {y : DK} {w : V} (h : FA H D0 H1 vs ys) (s : qg H H1) (hD : H1 D0 = some (.lst acc)) (s2 : qg H1 H2) (vw : VR mg K B H1 H2 σ δ y.2 w y.1) : FA H D0 H2 (vs ++ [w]) (ys ++ [y]) := by
 refine ⟨by rw [List.length_append, List.length_append, h.len]; rfl, fun z => ?_⟩
 have hy := z y (List.mem_append_right _ (List.mem_singleton_self _))
 have h0 := h.all fun x hx => z x (List.mem_append_left _ hx)
 obtain ⟨d, k⟩ := y
 cases hy
 obtain ⟨p, ds, rfl, e, c, n1, n2⟩ := vw
 have e : d = .lst ds := e
 subst e
 exact .snoc (h0.to fun a _ o e => s2 a o e) (fun q => by rw [q, hD] at n1; cases n1) (s.free n1) (fun q => h0.at_ q n1) c n2
section
variable {X : Cx} {E : XK} {pos : Pos}
theorem xn {σ σ' : St} {i : Nat} {v : V} {vs : List Nat} (hi : i ∈ vs) : wipe (σ.set i (some v)) vs = wipe σ vs := by
 have gen : ∀ (vs : List Nat) (x : Option V), wipe (σ.set i x) vs = (if i ∈ vs then wipe σ vs else (wipe σ vs).set i x) := by
  intro vs
  induction vs with
  | nil => intro x; rfl
  | cons w r ih =>
   intro x
   show (wipe (σ.set i x) r).set w none = _
   rw [ih x]
   by_cases h1 : i ∈ r
   ·rw [if_pos h1, if_pos (List.mem_cons_of_mem _ h1)]
    rfl
   ·rw [if_neg h1]
    by_cases h2 : i = w
    ·subst h2
     rw [if_pos List.mem_cons_self, List.set_set]
     rfl
    ·rw [if_neg (by simp [h2, h1]), List.set_comm _ _ h2]
     rfl
 rw [gen vs (some v), if_pos hi]
theorem Vo {tg : Tg} {σ σ2 : St} {vs : List Nat} (h : tg.sets σ σ2) (hv : tg.within vs) : wipe σ2 vs = wipe σ vs := by
 cases tg with
 | one i => obtain ⟨v, rfl⟩ := h; exact xn (σ' := σ) hv
 | two i j =>
  obtain ⟨v, w, rfl⟩ := h
  rw [xn (σ' := σ) hv.2, xn (σ' := σ) hv.1]
theorem VF (σ : St) (vs : List Nat) : wipe (wipe σ vs) vs = wipe σ vs := by
 refine List.ext_getElem? fun i => ?_
 by_cases h : i ∈ vs
 ·by_cases hl : i < σ.length
  ·have a : ∀ τ : St, τ.length = σ.length -> (wipe τ vs)[i]? = some none := fun τ hτ => by
    have l : i < (wipe τ vs).length := by rw [qL, hτ]; exact hl
    cases e : (wipe τ vs)[i] with
    | none => rw [List.getElem?_eq_getElem l, e]
    | some x =>
     have := (vn (show (wipe τ vs)[i]? = some (some x) by rw [List.getElem?_eq_getElem l, e])).2
     exact absurd h this
   rw [a _ (qL σ vs), a _ rfl]
  ·rw [List.getElem?_eq_none (by rw [qL, qL]; lia), List.getElem?_eq_none (by rw [qL]; lia)]
 ·rw [w4 h]
theorem zK {i j : Nat} {x : DK} {δ δ' : Dl} (h : put i x δ = some δ') (n : i ≠ j) : δ'[j]? = δ[j]? := by
 obtain ⟨d, k⟩ := x
 have fin : ∀ s : Sl, δ' = δ.set i s -> δ'[j]? = δ[j]? := fun s e => by rw [e, List.getElem?_set_ne n]
 cases k with
 | bo =>
  have h2 : (if d.sc = true then some (δ.set i (.val d true)) else none) = some δ' := h
  by_cases c : d.sc = true
  ·rw [if_pos c] at h2; exact fin _ (Option.some.inj h2).symm
  ·rw [if_neg c] at h2; cases h2
 | sh => exact fin _ (Option.some.inj (show some (δ.set i (wt (d, if d.sc = true then .nw else .sh))) = some δ' from h)).symm
 | nw => exact fin _ (Option.some.inj (show some (δ.set i (wt (d, if d.sc = true then .nw else .nw))) = some δ' from h)).symm
 | fr => exact fin _ (Option.some.inj (show some (δ.set i (wt (d, if d.sc = true then .nw else .fr))) = some δ' from h)).symm
theorem Tg.zK {tg : Tg} {j : Nat} {x : DK} {δ δ' : Dl} {vs : List Nat} (h : tg.put x δ = some δ') (hv : tg.within vs) (n : j ∉ vs) : δ'[j]? = δ[j]? := by
 cases tg with
 | one i => exact Ir.zK (show Ir.put i x δ = some δ' from h) fun z => n (by rw [<- z]; exact hv)
 | two i k =>
  obtain ⟨d, kd⟩ := x
  have go : ∀ a b, d = .tup [a, b] -> δ'[j]? = δ[j]? := fun a b e => by
   subst e
   have h : (Ir.put i (a, kd) δ).bind (Ir.put k (b, kd)) = some δ' := h
   cases h1 : Ir.put i (a, kd) δ with
   | none => rw [h1] at h; cases h
   | some δ1 =>
    rw [h1] at h
    rw [Ir.zK (show Ir.put k (b, kd) δ1 = some δ' from h) fun z => n (by rw [<- z]; exact hv.2), Ir.zK h1 fun z => n (by rw [<- z]; exact hv.1)]
  cases d with
  | tup l =>
   match l, go, h with
   | [a, b], go, _ => exact go a b rfl
   | [], _, h => cases h
   | [_], _, h => cases h
   | _ :: _ :: _ :: _, _, h => cases h
  | _ => cases h
theorem Wo {tg : Tg} {j : Nat} {σ σ' : St} {vs : List Nat} (h : tg.sets σ σ') (hv : tg.within vs) (n : j ∉ vs) : σ'[j]? = σ[j]? := by
 cases tg with
 | one i => obtain ⟨v, rfl⟩ := h; rw [List.getElem?_set_ne fun z => n (by rw [<- z]; exact hv)]
 | two i k =>
  obtain ⟨v, w, rfl⟩ := h
  rw [List.getElem?_set_ne fun z => n (by rw [<- z]; exact hv.2), List.getElem?_set_ne fun z => n (by rw [<- z]; exact hv.1)]
theorem Zs {tg : Tg} {x : DK} {B' : Bs} {σ σ3 : St} {δ δ2 : Dl} {vs : List Nat} {a : Addr} (hp : tg.put x (clear δ vs) = some δ2) (st : tg.sets (wipe σ vs) σ3) (hv : tg.within vs) (h : qA B' (wipe σ vs) (clear δ vs) a) : qA B' σ3 δ2 a := by
 rcases h with h | ⟨j, ds, e1, e2⟩
 ·exact .inl h
 ·rcases vm e1 with z | ⟨n, _⟩
  ·cases z
  ·exact .inr ⟨j, ds, by rw [Tg.zK hp hv n]; exact e1, by rw [Wo st hv n]; exact e2⟩
theorem Wb {g : TG} {tg : Tg} {src : RI} {t : RT} {r : RE} {vs : List Nat} {σ : St} {H : Hp} {Q : VK} (hv : tg.within vs)
  (h : ∃ B δ, Rl X.mg X.K B H σ δ /\ qh X.mg E H (src δ) fun x => x.2.length < LIM /\ qh X.mg E H (items tg t r (clear δ vs) x.2) fun ys => ∀ D0 acc H', H D0 = none -> qg H H' -> H' D0 = some (.lst acc) -> (VAs X.mg X.K (Bd B σ δ vs D0) (wipe σ vs) (clear δ vs) H' acc ys /\ FA H D0 H' acc ys) -> Q (.ref D0) H') :
  tLc (tI X E g tg src) g (TTx X E t) (TEx X E r) vs σ H Q := by
 obtain ⟨B, δ, R, h⟩ := h
 refine ⟨B, δ, R, ?_⟩
 refine qh.imp h fun x h1 J H1 s1 W D0 hD => ?_
 obtain ⟨fl, xs⟩ := x
 have R1 := R.more s1
 have h0 : B.H0 D0 = none := R1.same.free hD
 have hDH : H D0 = none := s1.free hD
 have hP : (Bd B σ δ vs D0).P D0 := .inl rfl
 obtain ⟨c, h1⟩ := h1
 dsimp only at c h1
 refine ⟨fun i m H' => m = xs.length - i /\ i <= xs.length /\ Rl X.mg X.K (Bd B σ δ vs D0) H' (wipe σ vs) (clear δ vs) /\ qg H1 H' /\ ∃ acc ys, H' D0 = some (.lst acc) /\ (VAs X.mg X.K (Bd B σ δ vs D0) (wipe σ vs) (clear δ vs) H' acc ys /\ FA H D0 H' acc ys) /\ ys.length <= i /\
  qh X.mg E H1 (items tg t r (clear δ vs) (xs.drop i)) fun zs => ∀ D0 acc H', H D0 = none -> qg H H' -> H' D0 = some (.lst acc) -> (VAs X.mg X.K (Bd B σ δ vs D0) (wipe σ vs) (clear δ vs) H' acc (ys ++ zs) /\ FA H D0 H' acc (ys ++ zs)) -> Q (.ref D0) H', ⟨xs.length, by lia, Nat.zero_le _, R1.blk hD _, qQ hD, [], [], qo, ⟨.nil, FA.nil⟩, Nat.le_refl _, qh.more h1 s1⟩, ?_⟩
 rintro i m H2 ⟨rfl, hi, R2, s2, acc, ys, hacc, va, hys, h2⟩
 have kp : Kp fl B (Bd B σ δ vs D0) σ δ H1 (wipe σ vs) (clear δ vs) H2 := by
  refine ⟨rfl, fun b o e n => ⟨s2 b o e, fun z => ?_⟩, fun _ => s2⟩
  rcases xG.mp z with z | z
  ·rw [z, hD] at e
   cases e
  ·exact n z
 by_cases hlt : i < xs.length
 ·right
  have hx : xs[i]? = some xs[i] := List.getElem?_eq_getElem hlt
  rw [List.drop_eq_getElem_cons hlt] at h2
  unfold items at h2
  cases hp : tg.put xs[i] (clear δ vs) with
  | none => rw [hp] at h2; exact h2.elim
  | some δ2 =>
   rw [hp] at h2
   obtain ⟨go, yl⟩ := W.1 (Bd B σ δ vs D0) i xs[i] (wipe σ vs) (clear δ vs) δ2 H2 hx R2 kp hp
   refine ⟨go, fun H' => i + 1 <= xs.length /\ Rl X.mg X.K (Bd B σ δ vs D0) H' (wipe σ vs) (clear δ vs) /\ qg H1 H' /\ ∃ acc ys, H' D0 = some (.lst acc) /\ (VAs X.mg X.K (Bd B σ δ vs D0) (wipe σ vs) (clear δ vs) H' acc ys /\ FA H D0 H' acc ys) /\ ys.length <= i + 1 /\
    qh X.mg E H1 (items tg t r (clear δ vs) (xs.drop (i + 1))) fun zs => ∀ D0 acc H', H D0 = none -> qg H H' -> H' D0 = some (.lst acc) -> (VAs X.mg X.K (Bd B σ δ vs D0) (wipe σ vs) (clear δ vs) H' acc (ys ++ zs) /\ FA H D0 H' acc (ys ++ zs)) -> Q (.ref D0) H', fun H' q => ⟨xs.length - (i + 1), by lia, rfl, q.1, q.2⟩, fun v H3 hy => ?_⟩
   refine yl v H3 hy _ fun σ3 H4 R4 f4 s4 st4 => ⟨by rw [Vo st4 hv, VF], ?_⟩
   refine ⟨Bd B σ δ vs D0, δ2, R4, ?_⟩
   have h2 := qh.bind h2
   refine qh.imp (qh.more h2 (s2.trans s4)) fun b h3 H5 s5 => ?_
   have s45 := s4.trans s5
   have R5 : Rl X.mg X.K (Bd B σ δ vs D0) H5 (wipe σ vs) (clear δ vs) := R2.more s45
   cases b with
   | false =>
    simp only [Bool.false_eq_true, if_false] at h3 ⊢
    exact ⟨hlt, R5, s2.trans s45, acc, ys, s45 _ _ hacc, ⟨va.1.to fun a _ o e => s45 a o e, va.2.to fun a _ o e => s45 a o e⟩, by lia, h3⟩
   | true =>
    simp only [if_true] at h3 ⊢
    refine ⟨Bd B σ δ vs D0, δ2, R4.more s5, ?_⟩
    have h3 := qh.bind h3
    refine qh.imp (qh.more h3 (s2.trans s45)) fun y h4 w H6 s6 vw => ?_
    have s46 := s45.trans s6
    have hD6 : H6 D0 = some (.lst acc) := s46 _ _ hacc
    have hl := va.1.len
    refine ⟨acc, hD6, by have e : LIM = 16777216 := rfl; have e2 : (sizeLine : Nat) = 16777216 := rfl; lia, ?_⟩
    have R45 := R4.more s5
    have rw1 : Rp X.mg X.K (Gk (Bd B σ δ vs D0) (wipe σ vs) (clear δ vs) (y.2.low .nw)) H6 w y.1 := by
     have q := VR.low R45 .nw vw
     rw [VR.gk (low_ne _ _)] at q
     refine q.weak fun a g => ?_
     have nb : ¬ qA (Bd B σ δ vs D0) σ3 δ2 a -> ¬ qA (Bd B σ δ vs D0) (wipe σ vs) (clear δ vs) a := fun n z => n (Zs hp st4 hv z)
     revert g
     cases y.2.low .nw with
     | bo => exact fun g => g
     | sh => exact nb
     | nw => exact fun g => ⟨nb g.1, g.2⟩
     | fr => exact fun g => ⟨nb g.1, g.2⟩
    have keepD : ∀ a, ¬ (Bd B σ δ vs D0).P a -> ∀ o, H6 a = some o -> upd H6 D0 (.lst (acc ++ [w])) a = some o := fun a n o e => by
     rw [qe fun z => n (by rw [z]; exact hP)]
     exact e
    have va6 : VAs X.mg X.K (Bd B σ δ vs D0) (wipe σ vs) (clear δ vs) (upd H6 D0 (.lst (acc ++ [w]))) (acc ++ [w]) (ys ++ [y]) := (VAs.snoc (va.1.to fun a _ o e => s46 a o e) rw1).to keepD
    have fa6 : FA H D0 (upd H6 D0 (.lst (acc ++ [w]))) (acc ++ [w]) (ys ++ [y]) := (FA.snoc (va.2.to fun a _ o e => s45 a o e) (s1.trans (s2.trans s45)) (s45 _ _ hacc) s6 vw).to fun a n o e => by
     rw [qe n]
     exact e
    have s16 : qg H1 (upd H6 D0 (.lst (acc ++ [w]))) := fun b o e => by
     rw [qe (qp e hD)]
     exact s46 _ _ (s2 _ _ e)
    refine ⟨hlt, ((R2.more s46).made hP h0 _), s16, acc ++ [w], ys ++ [y], qo, ⟨va6, fa6⟩, by rw [List.length_append]; exact Nat.add_le_add_right hys 1, ?_⟩
    have h5 := qh.bind h4
    cases hi2 : items tg t r (clear δ vs) (xs.drop (i + 1)) with
    | er c2 =>
     rw [hi2] at h5
     exact h5
    | no => rw [hi2] at h5; exact h5
    | ok zs =>
     rw [hi2] at h5
     have h6 := h5
     intro D1 acc1 H7 q1 q2 q3 q4
     rw [List.append_assoc] at q4
     exact h6 D1 acc1 H7 q1 q2 q3 q4
 ·left
  have e : i = xs.length := by lia
  subst e
  rw [List.drop_length] at h2
  refine ⟨W.2 (Bd B σ δ vs D0) _ _ _ H2 (Nat.le_refl _) R2 kp, ?_⟩
  have h3 := h2 D0 acc H2 hDH (s1.trans s2) hacc
  rw [List.append_nil] at h3
  exact h3 va
theorem ZI {g : TG} {tg : Tg} {src : RI} {t : RT} {r : RE} {vs : List Nat} {σ : St} {H : Hp} {Q : VK} (hv : tg.within vs) (h : TEx X E (vT tg src t r vs) σ H Q) :
  tLc (tI X E g tg src) g (TTx X E t) (TEx X E r) vs σ H Q := by
 obtain ⟨B, δ, R, h⟩ := h
 refine Wb hv ⟨B, δ, R, qh.imp (qh.bind h) fun x h1 => ?_⟩
 by_cases c : x.2.length < LIM
 ·rw [if_pos c] at h1
  refine ⟨c, qh.imp (qh.bind h1) fun ys h3 D0 acc H2 hDH s hacc va => ?_⟩
  have h3 : Fin X.mg X.K E B H σ δ (.ok (.lst (ys.map (·.1)), kL (ys.map (·.1)) (qw ys))) Q := h3
  refine h3 (.ref D0) H2 s ?_
  show VR _ _ _ _ _ _ _ (kL _ _) _ _
  unfold kL
  split
  ·rename_i cs
   exact ⟨D0, _, rfl, rfl, cs, hDH, by rw [hacc, va.1.sc cs]⟩
  ·rw [VR.gk (vP ys)]
   have n1 := R.fresh hDH
   have n2 := R.same.free hDH
   refine .lst ?_ (.of hacc) (va.1.kinds.weak fun a g => ?_)
   ·have n3 := vP ys
    cases hk : qw ys with
    | bo => exact fun z => n1 (.inl z)
    | sh => exact n1
    | nw => exact ⟨n1, n2⟩
    | fr => exact absurd hk n3
   ·have nb : ¬ qA (Bd B σ δ vs D0) (wipe σ vs) (clear δ vs) a -> ¬ qA B σ δ a := fun n z => n (xG.mpr (.inr z))
    revert g
    cases qw ys with
    | bo => exact fun g z => g (Jd R z)
    | sh => exact nb
    | nw => exact fun g => ⟨nb g.1, g.2⟩
    | fr => exact fun g => ⟨nb g.1, g.2⟩
 ·rw [if_neg c] at h1
  exact h1.elim
theorem wN : PTs X [] (TTx X E wO) := fun pins s σ H Q I ⟨B, δ, R, h⟩ => Ze pins s σ H Q I (h H qg.refl)
theorem zI {elt tgE iter : Expr} {ifs : List Expr} {scope : Scope} {own : List (Str × Nat)} {g : TG} {tg : Tg} {src : RI} {t : RT} {r : RE} {LF : Addr} (hc : X.calm = true) (hN : X.N.Nodup) (acc : Acc X E) (hst : X.stack = X.env :: X.outer) (hfr : X.env.frame = some LF)
  (hi : PI X tgE iter (tI X E g tg src)) (ok : jy X.N X.env.scope scope own = true) (hv : tg.within (own.map (·.2)))
  (hg : ∀ (s : Shared) (H : Hp) (C : Addr) (cl : List (Str × Addr)) (fp : List Addr), PG (uu X E s H scope (compEnvC scope cl C X.env) fp) tgE g)
  (ht : ∀ (s : Shared) (H : Hp) (C : Addr) (cl : List (Str × Addr)) (fp : List Addr), PTs (uu X E s H scope (compEnvC scope cl C X.env) fp) ifs (TTx X E t))
  (he : ∀ (s : Shared) (H : Hp) (C : Addr) (cl : List (Str × Addr)) (fp : List Addr), PE (uu X E s H scope (compEnvC scope cl C X.env) fp) elt (TEx X E r)) (hs : autoParam (∀ x, foldedSetIterable iter X.env x = pure x) zB._auto_1) :
  PE X (.ListComp elt [⟨tgE, iter, ifs, 0⟩] scope pos) (TEx X E (vT tg src t r (own.map (·.2)))) :=
 qR (Xt hc hN acc hst hfr hi (WW ok) hg ht he hs) fun _ _ _ h => ZI hv h
end
noncomputable abbrev z5 (P : Program) (w : World) (K : PySem.W.Frag) (mg : Str -> Option Value) (base : Heap) (N : List Str) (qual : Str) (scope : Scope) (f : Addr) (cd : Value) (A : Around) (outer : List Env) (s : Shared) (H : Hp) (E : XK) : Cx :=
 (we (CX1 P w) P w K mg base N qual scope f cd A outer s H E).wU (Arr (we (CX1 P w) P w K mg base N qual scope f cd A outer s H E) E)
theorem uY {P : Program} {w : World} {K : PySem.W.Frag} {mg : Str -> Option Value} {base : Heap} {N : List Str} {qual : Str} {scope : Scope} {f : Addr} {cd : Value} {A : Around} {outer : List Env} {s : Shared} {H : Hp} {E : XK} (nd : N.Nodup) : Gd (z5 P w K mg base N qual scope f cd A outer s H E) E :=
 ⟨rfl, nd, xu, Qc (X := we (CX1 P w) P w K mg base N qual scope f cd A outer s H E) rfl rfl⟩
noncomputable def sl0 (N : List Str) (ds : List D) : Dl := ds.map (fun d => Sl.val d false) ++ List.replicate (N.length - ds.length) .un
noncomputable def res : Out -> Rs (D × Bool)
 | .rt d k => .ok (d, k)
 | .nx _ => .ok (.non, false)
 | .er c => .er c
 | _ => .no
theorem rl0 {mg : Str -> Option Value} {K : PySem.W.Frag} {H : Hp} {N : List Str} {vs : List V} {ds : List D} (r : qd mg K (fun _ => True) H vs ds) : Rl mg K ⟨H, fun _ => False⟩ H (start N vs) (sl0 N ds) := by
 have get : ∀ {i : Nat} {s : Sl}, (sl0 N ds)[i]? = some s -> (∃ d, ds[i]? = some d /\ s = .val d false) \/ s = .un := fun {i s} e => by
  unfold sl0 at e
  by_cases h : i < ds.length
  ·rw [List.getElem?_append_left (by rw [List.length_map]; exact h), List.getElem?_map, List.getElem?_eq_getElem h] at e
   exact .inl ⟨ds[i], List.getElem?_eq_getElem h, (Option.some.inj e).symm⟩
  ·rw [List.getElem?_append_right (by rw [List.length_map]; lia)] at e
   right
   have := List.mem_of_getElem? e
   exact (List.mem_replicate.mp this).2
 have own : ∀ {p : Addr}, ¬ qA ⟨H, fun _ => False⟩ (start N vs) (sl0 N ds) p := fun {p} h => by
  rcases h with h | ⟨i, es, e, _⟩
  ·exact h
  ·rcases get e with ⟨d, _, z⟩ | z <;> cases z
 refine ⟨qg.refl, fun _ h => h.elim, ?_, fun i d k e => ?_, fun i es e => ?_, fun i j p es fs e _ _ _ => ?_⟩
 ·unfold start sl0
  rw [List.length_append, List.length_append, List.length_map, List.length_map, List.length_replicate, List.length_replicate, r.len]
 ·rcases get e with ⟨d', hd, z⟩ | z
  ·cases z
   obtain ⟨v, hv, rp⟩ := r.getD hd
   refine ⟨v, ?_, rp.weak fun a _ => ⟨own, fun z => nomatch z⟩⟩
   have hl : i < vs.length := (List.getElem?_eq_some_iff.mp hv).1
   unfold start
   rw [List.getElem?_append_left (by rw [List.length_map]; exact hl), List.getElem?_map, hv]
   rfl
  ·cases z
 ·rcases get e with ⟨d, _, z⟩ | z <;> cases z
 ·rcases get e with ⟨d, _, z⟩ | z <;> cases z
section
variable {P : Program} {w : World} {K : PySem.W.Frag} {mg : Str -> Option Value} {base : Heap}
theorem zz {X : Cx} {E : XK} {st : List Stmt} {t : TS} (h : PSs (X.wU (Arr X E)) st t) (acc : Acc X E) : PSs X st t := fun pins s σ H D I hw =>
 wpAny_mono (h pins s σ H D (I.wU _) hw) (fun _ _ q => q.vK) fun e s' a => acc e s' a
theorem Ur {x : Str} {st : Stmt} {f : Addr} {fd : FuncData} {N ps : List Str} {k n : Nat} {g : Fn} {r : RS} (F : Fun K x x st f fd) (S : qr N ps (qa st)) (hm : mg x = some (.ref f)) (hb : Binds K fd ps []) (hn : ps.length = n)
  (body : ∀ (cdv : Value) (A : Around) (outer : List Env) (s : Shared) (H : Hp) (E : XK), qZ k (A.deeper (envOfC x (qa st) s.heap.objs.size f cdv)) ->
   PSs (z5 P w K mg base N x (qa st) f cdv A outer s H E) (qE st) (tS mg K E r))
  (hr : ∀ ds : List D, ds.length = n -> g ds = .no \/ res (r (sl0 N ds)) = g ds) : Fd P w K mg base (k + 1) x n g := by
 obtain ⟨oc, od, kV, doc, pm, an, cdv, ct, osl, rfl, lk, hcd⟩ := F.ex
 refine ⟨f, _, ps, uj lk hcd S ?_ fun A outer s H vs Q E hroom hsp => ?_, hm, F.kp, hb⟩
 ·rintro vs H Q E ⟨ds, hl, rp, _⟩
  rw [rp.len, hl, hn]
 ·obtain ⟨ds, hl, rp, h⟩ := hsp
  refine ⟨_, zz (body cdv A outer s H E hroom) yO, ⟨H, fun _ => False⟩, sl0 N ds, rl0 rp, ?_⟩
  rcases hr ds hl with e | e
  ·rw [e] at h
   exact h.elim
  ·rw [<- e] at h
   cases ho : r (sl0 N ds) with
   | rt d k => rw [ho] at h; exact fun v H' s rr => h v H' s rr
   | nx δ' => rw [ho] at h; exact fun σ' H' R _ => h .non H' R.same Rp.non
   | er c => rw [ho] at h; exact fun C H' e s => h C H' e s
   | bk δ' => rw [ho] at h; exact h.elim
   | ct δ' => rw [ho] at h; exact h.elim
   | no => rw [ho] at h; exact h.elim
end
end L2.Ir
namespace L2.Ir
open PySem PySem.Spec PyProof.Rows
open PySem.W (WData Codec OpenSpec Well WellAll ReadsW ReadsAllW)
noncomputable def Wh (l : List (Str × Int)) (o : Rs (D × Bool)) : Option (List D) := match o with
 | .ok (.lst zs, true) => some (.int 0 :: zs)
 | .er c => (l.lookup c).map fun k => [.int (-k)]
 | _ => none
structure VZ (mg : Str -> Option Value) (K : PySem.W.Frag) (l : List (Str × Int)) (la : List (Addr × Int)) : Prop where
 at_ : ∀ c C k, mg c = some (.ref C) -> l.lookup c = some k -> qC K C = true /\ la.lookup C = some k
theorem ZK {α β : Type} (f : α -> β) (xs : List α) : (xs.map f).length = xs.length := List.length_map f
mutual
noncomputable def ofW : WData -> D
 | .none => .non
 | .bool b => .bl b
 | .int i => .int i
 | .list xs => .lst (uD xs)
 | .tuple xs => .tup (uD xs)
 | _ => .non
noncomputable def uD : List WData -> List D
 | [] => []
 | x :: r => ofW x :: uD r
/-- numbers, truth values, lists and tuples of them -/
noncomputable def plD : WData -> Bool
 | .none => true
 | .bool _ => true
 | .int _ => true
 | .list xs => xV xs
 | .tuple xs => xV xs
 | _ => false
noncomputable def xV : List WData -> Bool
 | [] => true
 | x :: r => plD x && xV r
end
mutual
theorem UL {mg : Str -> Option Value} {K : PySem.W.Frag} {H : Hp} : ∀ (d : WData) (v : V), plD d = true -> Dw K H v d -> Rp mg K (fun _ => True) H v (ofW d)
 | .none, _, _, h => by cases h; exact .non
 | .bool b, _, _, h => by cases h; exact .bl b
 | .int i, _, _, h => by cases h; exact .int i
 | .list xs, _, p, h => by cases h with | lst s a => exact Rp.ofL s (fun _ => trivial) (xk xs _ p a)
 | .tuple xs, _, p, h => by
  cases h with
  | tup s a =>
   rcases s with s | s
   ·exact .tup trivial s (xk xs _ p a)
   ·exact .tupK (fun _ => .inr s) (xk xs _ p a)
 | .str _, _, p, _ => nomatch p
 | .bytes _, _, p, _ => nomatch p
 | .float _, _, p, _ => nomatch p
 | .dict _, _, p, _ => nomatch p
 | .bytearray _, _, p, _ => nomatch p
 | .set _, _, p, _ => nomatch p
 | .frozenset _, _, p, _ => nomatch p
 | .obj _ _, _, p, _ => nomatch p
theorem xk {mg : Str -> Option Value} {K : PySem.W.Frag} {H : Hp} : ∀ (ds : List WData) (vs : List V), xV ds = true -> vE K H vs ds -> qd mg K (fun _ => True) H vs (uD ds)
 | [], _, _, h => by cases h; exact .nil
 | d :: ds, _, p, h => by
  cases h with
  | cons a b =>
   have q : plD d = true /\ xV ds = true := Bool.and_eq_true_iff.mp p
   exact .cons (UL d _ q.1 a) (xk ds _ q.2 b)
end
theorem yd : ∀ ns : List Int, uD (ns.map WData.int) = ns.map D.int
 | [] => rfl
 | n :: r => by show D.int n :: uD (r.map WData.int) = _; rw [yd r]; rfl
theorem z3 : ∀ ns : List Int, xV (ns.map WData.int) = true
 | [] => rfl
 | n :: r => by show (true && xV (r.map WData.int)) = true; rw [z3 r]; rfl
mutual
theorem Dw.same {K : PySem.W.Frag} {H H' : Hp} (s : qg H H') : ∀ (d : WData) (v : V), Dw K H v d -> Dw K H' v d
 | .none, _, h => by cases h; exact .non
 | .bool b, _, h => by cases h; exact .bl b
 | .int i, _, h => by cases h; exact .int i
 | .str x, _, h => by cases h; exact .str x
 | .bytes b, _, h => by
  cases h with
  | byt b => exact .byt b
 | .list xs, _, h => by cases h with | lst q a => exact .lst (s.seq q) (vE.same s xs _ a)
 | .tuple xs, _, h => by
  cases h with
  | tup q a =>
   refine .tup ?_ (vE.same s xs _ a)
   rcases q with (q | ⟨o, q⟩) | q
   ·exact .inl (.inl (s _ _ q))
   ·exact .inl (.inr ⟨o, s _ _ q⟩)
   ·exact .inr q
 | .float _, _, h => by cases h
 | .dict _, _, h => by cases h
 | .bytearray _, _, h => by cases h
 | .set _, _, h => by cases h
 | .frozenset _, _, h => by cases h
 | .obj _ _, _, h => by cases h
theorem vE.same {K : PySem.W.Frag} {H H' : Hp} (s : qg H H') : ∀ (ds : List WData) (vs : List V), vE K H vs ds -> vE K H' vs ds
 | [], _, h => by cases h; exact .nil
 | d :: ds, _, h => by cases h with | cons a b => exact .cons (Dw.same s d _ a) (vE.same s ds _ b)
end
theorem jt {K : PySem.W.Frag} {x : Str} {c PT f : Addr} {oc : Value} {od : Option Addr} {fd : FuncData} {osl : Array (Option Value)} (h : PySem.W.tabIn K x = some (c, PT)) (hn : PySem.W.nsIn K mainGlobals x = some (some (.ref f))) (lk : K.lookup f = some ⟨oc, od, .func fd, osl⟩) : fd.code = .ref c := by
 unfold PySem.W.tabIn at h
 rw [hn] at h
 dsimp only at h
 rw [lk] at h
 dsimp only at h
 split at h
 ·rename_i c' e
  split at h
  ·split at h
   ·cases h
    exact e
   ·cases h
  ·cases h
 ·cases h
inductive Ww (P : Program) (w : World) (K : PySem.W.Frag) (mg : Str -> Option Value) (base : Heap) (st2 : Stmt) (la : List (Addr × Int)) : Prop
 | mk (f2 : Addr) (oc : Value) (od : Option Addr) (kV doc pm : Value) (an : Option Addr) (cdv ct : Value) (osl : Array (Option Value)) (h0 : ExceptHandler) (hs : List ExceptHandler) (q1 q2 q3 q4 q5 q6 q7 q8 q9 q10 : Pos) (j : Nat)
  (lk : K.lookup f2 = some ⟨oc, od, .func (PySem.W.fnOf "answered" "answered" (vh st2) (qE st2) (qa st2) .none kV doc pm an cdv ct), osl⟩) (cd : PySem.W.codeIn K cdv "answered" = true) (kp : PySem.W.keepIn K (.ref f2) = true) (hm : mg "answered" = some (.ref f2))
  (hb : qE st2 = uZ (h0 :: hs) q1 q2 q3 q4 q5 q6 q7 q8 q9 q10 j) (S : qr ["work", "told"] ["work"] (qa st2)) (hw : (qa st2).names.lookup ("work" : Str) = some .local) (ht : (qa st2).names.lookup ("told" : Str) = some .local)
  (bi : ∀ (s : Shared) (u : Value), BindsTo s (PySem.W.fnOf "answered" "answered" (vh st2) (qE st2) (qa st2) .none kV doc pm an cdv ct) ⟨[u], []⟩ ((["work"] : List Str).zip [u]))
  (hH : ∀ (A : Around) (outer : List Env) (s : Shared) (H : Hp) (E : XK), Hs (we (CX1 P w) P w K mg base ["work", "told"] "answered" (qa st2) f2 cdv A outer s H E) (h0 :: hs) la) : Ww P w K mg base st2 la
section
variable {X : Cx} {E : XK} {pos : Pos}
theorem xv (i : Nat) {x : Str} (hN : autoParam (X.N[i]? = some x) qj._auto_1) (hv : autoParam (Vis X.env.scope x) WJ._auto_1) (hd : autoParam ((x == ("__debug__" : Str)) = false) qH._auto_1)
  (hcd : autoParam ((x == ("__classdict__" : Str)) = false) qH._auto_1) : PE X (.Name x pos) (TEx X E (qc i)) := Xq hN hv hd hcd
theorem U3 (i : Nat) {x : Str} {e : Expr} {r : RE} {pos' : Pos} (g : Gd X E) (he : PE X e (TEx X E r)) (hi : autoParam (X.N[i]? = some x) qj._auto_1) (hx : autoParam (Loc X.env.scope x) Qo._auto_1) (hs : autoParam (swapsWith e (some (.Name x pos')) pos.line X.env = pure false) qj._auto_1)
  (hf : autoParam (X.fn x = true \/ X.env.scope.names.lookup x = some .local) j9._auto_1) : PS X (.Assign [.Name x pos'] e pos) (TSx X E (z0 i r)) := YQ g hi hx he hs hf
theorem pgn (i : Nat) {x : Str} (hN : X.N.Nodup) (hi : autoParam (X.N[i]? = some x) qj._auto_1) (hx : autoParam (Loc X.env.scope x) Qo._auto_1) (hf : autoParam (X.fn x = true \/ X.env.scope.names.lookup x = some .local) j9._auto_1) : PG X (.Name x pos) (vz i) := Zg hN hi hx hf
theorem pg2 {i j : Nat} {a b : Expr} {k : Nat} (hc : X.calm = true) (ha : PG X a (vz i)) (hb : PG X b (vz j)) (hn : autoParam ((assignEach [a, b] X.env).length = 2) qj._auto_1) (h1 : autoParam ((assignEach [a, b] X.env).map (·.2) = assign a X.env :: (assignEach [b] X.env).map (·.2)) qj._auto_1)
  (h2 : autoParam ((assignEach [b] X.env).map (·.2) = assign b X.env :: (assignEach [] X.env).map (·.2)) qj._auto_1) (hst : autoParam ((assignEach [a, b] X.env).findIdx? (·.1) = none) qj._auto_1) : PG X (.Tuple [a, b] k pos) (Zq X.K 2 (yW (vz i) (yW (vz j) Yf))) := Y7 hc (jD ha (jD hb Yh h2) h1) hn hst
theorem QK {tgE : Expr} {x : Str} {p : Pos} {body : List Stmt} {g : TG} {tg : Tg} {i : Nat} {rb : RS} (G : Gd X E) (hi : PI X tgE (.Name x p) (tI X E g tg (iOf (qc i)))) (hg : PG X tgE g) (hb : PSs X body (TSx X E rb)) : PS X (.For tgE (.Name x p) body [] pos) (TSx X E (uc tg i rb)) := by
 refine vC (WI G hi hg hb) fun D σ H ⟨B, δ, R, h⟩ => ?_
 unfold uc at h
 cases hδ : δ[i]? with
 | none => rw [hδ] at h; exact ⟨B, δ, R, h⟩
 | some s =>
  rw [hδ] at h
  cases s with
  | own ds =>
   have q := R.U0 hδ
   exact ⟨B, _, q.1, wF.later h q.2⟩
  | un => exact ⟨B, δ, R, h⟩
  | val d k => exact ⟨B, δ, R, h⟩
end
end L2.Ir
namespace Dm
theorem two_pow_pos (k : Nat) : 0 < 2 ^ k := Nat.two_pow_pos k
end Dm
set_option exponentiation.threshold 4000
namespace Dm
noncomputable def sg (x : Nat) : Nat := x / 2 ^ 63
noncomputable def sz (x : Nat) : Nat := x % 2 ^ 63
noncomputable def wh (x : Nat) : Nat := if sz x = x % 2 ^ 52 then x % 2 ^ 52 else x % 2 ^ 52 + 2 ^ 52
noncomputable def ex (x : Nat) : Nat := max (sz x / 2 ^ 52) 1 - 1
theorem vq (x : Nat) : Pv.exponent x = sz x / 2 ^ 52 := by
 unfold Pv.exponent sz
 omega
theorem jH (x : Nat) (h : x < 2 ^ 64) : Pv.isNeg x = decide (sg x = 1) := by
 unfold Pv.isNeg sg
 rw [Nat.testBit_eq_decide_div_mod_eq]
 congr 1
 have : x / 2 ^ 63 < 2 := by lia
 rw [Nat.mod_eq_of_lt this]
theorem yg (x : Nat) : sz x = x % 2 ^ 52 ↔ Pv.exponent x = 0 := by
 rw [vq]
 unfold sz
 lia
theorem YB (x : Nat) : Pv.mag x = wh x * 2 ^ ex x := by
 unfold Pv.mag wh ex
 by_cases h : Pv.exponent x = 0
 ·rw [if_pos h, if_pos ((yg x).mpr h)]
  rw [vq] at h
  rw [h]
  simp
 ·rw [if_neg h, if_neg (fun z => h ((yg x).mp z)), Nat.add_comm]
  rw [vq] at h ⊢
  rw [Nat.max_eq_left (by lia)]
theorem ja (x : Nat) : wh x = 0 ↔ sz x = 0 := by
 unfold wh sz
 split <;> lia
theorem zT (x : Nat) : Pv.mag x = 0 ↔ sz x = 0 := by
 rw [YB, Nat.mul_eq_zero, ja]
 constructor
 ·rintro (h | h)
  ·exact h
  ·exact absurd h (Nat.pos_iff_ne_zero.mp (two_pow_pos _))
 ·exact .inl
theorem Qb (x : Nat) : Pv.isFinite x = decide (sz x < 9218868437227405312) := by
 unfold Pv.isFinite
 rw [vq]
 have : sz x < 2 ^ 63 := by unfold sz; lia
 by_cases h : sz x < 9218868437227405312
 ·rw [decide_eq_true h]
  have : sz x / 2 ^ 52 < 2047 := by lia
  simp only [bne_iff_ne, ne_eq]
  lia
 ·rw [decide_eq_false h]
  have : sz x / 2 ^ 52 = 2047 := by lia
  rw [this]
  rfl
end Dm
set_option maxHeartbeats 2000000
namespace Dt
open PySem L2 L2.Ir
open Classical in
noncomputable def fn1 (P : Int -> Prop) (h : Int -> Rs (D × Bool)) : Fn
 | [.int x] => if P x then h x else .no
 | _ => .no
theorem yQ {P : Int -> Prop} {h : Int -> Rs (D × Bool)} {x : Int} (p : P x) : fn1 P h [.int x] = h x := by unfold fn1; exact if_pos p
theorem Qr {P : Int -> Prop} {h : Int -> Rs (D × Bool)} {r : RS} {N : List Str} (q : ∀ x, P x -> res (r (sl0 N [.int x])) = h x) : ∀ ds : List D, ds.length = 1 -> fn1 P h ds = .no \/ res (r (sl0 N ds)) = fn1 P h ds := by
 intro ds hl
 match ds, hl with
 | [.int x], _ =>
  by_cases p : P x
  ·right; rw [yQ p]; exact q x p
  ·left; unfold fn1; exact if_neg p
 | [.non], _ => exact .inl rfl
 | [.bl _], _ => exact .inl rfl
 | [.lst _], _ => exact .inl rfl
 | [.tup _], _ => exact .inl rfl
 | [.fn _], _ => exact .inl rfl
 | [.obj _ _ _], _ => exact .inl rfl
noncomputable def U64 (x : Int) : Prop := 0 <= x /\ x < 18446744073709551616
noncomputable instance (x : Int) : Decidable (U64 x) := inferInstanceAs (Decidable (0 <= x /\ x < 18446744073709551616))
noncomputable def Fi (x : Int) : Prop := U64 x /\ x % 9223372036854775808 < 9218868437227405312
noncomputable instance (x : Int) : Decidable (Fi x) := inferInstanceAs (Decidable (U64 x /\ x % 9223372036854775808 < 9218868437227405312))
noncomputable def iv (i : Int) : Rs (D × Bool) := .ok (.int i, false)
noncomputable def bv (b : Bool) : Rs (D × Bool) := .ok (.bl b, false)
noncomputable def qT : Fn := fn1 U64 fun x => iv (x % 9223372036854775808)
noncomputable def qY : Fn := fn1 U64 fun x => bv (decide (x % 9223372036854775808 < 9218868437227405312))
noncomputable def xS : List D -> Option (List Nat)
 | [] => some []
 | .lst l :: r => (xS r).map (l.length :: ·)
 | _ => none
noncomputable def qy : Fn
 | [.lst ss, .lst ls, .lst cs] => match intsOf ss, xS ls, intsOf cs with
  | some ns, some ks, some ms => if (ns.all fun n => decide (1 <= n /\ n <= 16)) = true /\ ((ks.zip ms).all fun p => decide ((p.1 : Int) = p.2)) = true then .ok (.non, false) else .er "WrongCount"
  | _, _, _ => .no
 | _ => .no
noncomputable def qv : Fn
 | [.lst xs] => match intsOf xs with
  | some ns => if ∀ n ∈ ns, U64 n then (if ∀ n ∈ ns, Fi n then .ok (.non, false) else .er "NotFinite") else .no
  | none => .no
 | _ => .no
noncomputable def qt : Fn
 | [.lst xs] => if xs.all D.sc = true /\ xs.length < LIM then .ok (.lst (.int xs.length :: xs), true) else .no
 | _ => .no
noncomputable def wb (a : PvCalls.Answer) : Rs (D × Bool) := match a with
 | .refused z => if z = -1 then .er "WrongCount" else if z = -2 then .er "NotFinite" else if z = -3 then .er "StepNotFinite" else if z = -4 then .er "NotAsTold" else .no
 | a => .ok (.lst ((TableNeutral.told a).tail.map D.int), true)
noncomputable abbrev wK (ns : List Int) : Prop := ∀ n ∈ ns, U64 n
noncomputable def nats (ns : List Int) : List Nat := ns.map Int.toNat
noncomputable def z9 : RS := (vS (qF (Uj Builtin.bitAnd) (qc 0) (qF Ui (rC (.int (9223372036854775808))) (rC (.int 1)))))
noncomputable def v7 : RS := (vS (qF (xU fun i j => decide (i < j)) (qm qT (qf (qc 0) qu)) (rC (.int (9218868437227405312)))))
noncomputable def vD : RS := (wg (uc (.one 3) 0 (sIf (Vj (tBl (qF (xU fun i j => decide (i < j)) (qc 3) (rC (.int 1)))) (tBl (qF (xU fun i j => decide (j < i)) (qc 3) (rC (.int (16)))))) (wc "WrongCount") zV)) (Wc (.two 4 5) (V1 (qc 1) (qc 2)) (sIf (tBl (qF (oEq true) (z4 yo (qf (qc 4) qu)) (qc 5))) (wc "WrongCount") zV)))
noncomputable def vB : RS := (uc (.one 1) 0 (sIf (jK (tBl (qm qY (qf (qc 1) qu)))) (wc "NotFinite") zV))
noncomputable def zP : RS := (vS (qF yp (zY (qf (z4 yo (qf (qc 0) qu)) qu)) (qc 0)))
noncomputable abbrev Hr (r : RS) (N : List Str) (n : Nat) (g : Fn) : Prop := ∀ ds : List D, ds.length = n -> g ds = .no \/ res (r (sl0 N ds)) = g ds
theorem VH (x : Int) (h : U64 x) : res (z9 (sl0 ["x"] [.int x])) = iv (x % 9223372036854775808) := by
 have e : Builtin.bitAnd x (2 ^ 63 - 1) = x % 2 ^ 63 := Bits.jx 63 h.1
 have e2 : Builtin.bitAnd x (9223372036854775808 - 1) = x % 9223372036854775808 := e
 show (Rs.ok (D.int (Builtin.bitAnd x (9223372036854775808 - 1)), false) : Rs (D × Bool)) = _
 rw [e2]
 rfl
theorem j7 : Hr z9 ["x"] 1 qT := Qr VH
theorem x9 {x : Int} (h : U64 x) : qT [.int x] = iv (x % 9223372036854775808) := yQ h
theorem jq (x : Int) (h : U64 x) : res (v7 (sl0 ["x"] [.int x])) = bv (decide (x % 9223372036854775808 < 9218868437227405312)) := by
 simp [v7, sl0, vS, freeze, frz, qF, qc, rC, qm, qf, qu, xU, res, bv, iv, Rs.bind, x9 h, kB]
theorem uS : Hr v7 ["x"] 1 qY := Qr jq
theorem yh {x : Int} (h : U64 x) : qY [.int x] = bv (decide (x % 9223372036854775808 < 9218868437227405312)) := yQ h
theorem v8 {tg : Tg} {body : RS} {c : Str} {good : DK -> Prop} {J : Dl -> Prop} : ∀ {xs : List DK}, (∀ x ∈ xs, ∀ δ, J δ -> ∃ δ1, tg.put x δ = some δ1 /\ (good x -> ∃ δ2, body δ1 = .nx δ2 /\ J δ2) /\ (¬ good x -> body δ1 = .er c)) ->
  ∀ δ, J δ -> ((∀ x ∈ xs, good x) -> ∃ δ', turns tg body xs δ = .nx δ' /\ J δ') /\ (¬ (∀ x ∈ xs, good x) -> turns tg body xs δ = .er c)
 | [], _, δ, j => ⟨fun _ => ⟨δ, rfl, j⟩, fun h => absurd (fun x hx => absurd hx (by simp)) h⟩
 | x :: r, st, δ, j => by
  obtain ⟨δ1, hp, h1, h2⟩ := st x (List.mem_cons_self) δ j
  have ih := v8 (xs := r) fun y hy => st y (List.mem_cons_of_mem _ hy)
  by_cases g : good x
  ·obtain ⟨δ2, hb, j2⟩ := h1 g
   obtain ⟨k1, k2⟩ := ih δ2 j2
   have e : turns tg body (x :: r) δ = turns tg body r δ2 := by
    show (match tg.put x δ with | none => _ | some δ1 => _) = _
    rw [hp]
    dsimp only
    rw [hb]
   rw [e]
   exact ⟨fun h => k1 fun y hy => h y (List.mem_cons_of_mem _ hy), fun h => k2 fun q => h fun y hy => by
    rcases List.mem_cons.mp hy with rfl | hy
    ·exact g
    ·exact q y hy⟩
  ·refine ⟨fun h => absurd (h x (List.mem_cons_self)) g, fun _ => ?_⟩
   show (match tg.put x δ with | none => _ | some δ1 => _) = _
   rw [hp]
   dsimp only
   rw [h2 g]
theorem QG : ∀ {ls : List D} {ks : List Nat}, xS ls = some ks -> ∃ xss : List (List D), ls = xss.map D.lst /\ ks = xss.map List.length
 | [], ks, h => by cases h; exact ⟨[], rfl, rfl⟩
 | .lst l :: r, ks, h => by
  have h : (xS r).map (l.length :: ·) = some ks := h
  cases e : xS r with
  | none => rw [e] at h; cases h
  | some q =>
   rw [e] at h
   cases h
   obtain ⟨xss, e1, e2⟩ := QG e
   exact ⟨l :: xss, by rw [e1]; rfl, by rw [e2]; rfl⟩
 | .non :: _, _, h => nomatch h
 | .bl _ :: _, _, h => nomatch h
 | .int _ :: _, _, h => nomatch h
 | .tup _ :: _, _, h => nomatch h
 | .fn _ :: _, _, h => nomatch h
 | .obj _ _ _ :: _, _, h => nomatch h
theorem jR : ∀ xss : List (List D), xS (xss.map D.lst) = some (xss.map List.length)
 | [] => rfl
 | x :: r => by show (xS (r.map D.lst)).map (x.length :: ·) = _; rw [jR r]; rfl
theorem Qa {α β γ δ : Type} (f : α -> γ) (g : β -> δ) : ∀ (xs : List α) (ys : List β), (xs.map f).zip (ys.map g) = (xs.zip ys).map fun p => (f p.1, g p.2)
 | [], _ => rfl
 | _ :: _, [] => rfl
 | x :: xs, y :: ys => by
  rw [List.map_cons, List.map_cons, List.zip_cons_cons, List.zip_cons_cons, List.map_cons, Qa f g xs ys]
theorem xt (ns ms : List Int) (xss : List (List D)) : res (vD (sl0 ["sizes", "lists", "counts", "size", "numbers", "count"] [.lst (ns.map .int), .lst (xss.map .lst), .lst (ms.map .int)])) =
  if (ns.all fun n => decide (1 <= n /\ n <= 16)) = true /\ (((xss.map List.length).zip ms).all fun p => decide ((p.1 : Int) = p.2)) = true then .ok (.non, false) else .er "WrongCount" := by
 have hs : sl0 ["sizes", "lists", "counts", "size", "numbers", "count"] [.lst (ns.map .int), .lst (xss.map .lst), .lst (ms.map .int)] = [.val (.lst (ns.map .int)) false, .val (.lst (xss.map .lst)) false, .val (.lst (ms.map .int)) false, .un, .un, .un] := rfl
 rw [hs]
 generalize hA : Sl.val (.lst (ns.map .int)) false = A
 generalize hB : Sl.val (.lst (xss.map .lst)) false = B
 generalize hC : Sl.val (.lst (ms.map .int)) false = C
 -- the sizes
 have L1 := v8 (tg := .one 3) (c := "WrongCount") (body := sIf (Vj (tBl (qF (xU fun i j => decide (i < j)) (qc 3) (rC (.int 1)))) (tBl (qF (xU fun i j => decide (j < i)) (qc 3) (rC (.int (16)))))) (wc "WrongCount") zV)
  (good := fun x => ∃ n, x.1 = .int n /\ 1 <= n /\ n <= 16) (J := fun δ => ∃ s : Sl, δ = [A, B, C, s, .un, .un]) (xs := (ns.map D.int).map fun d => (d, Kd.sh)) (by
   rintro x hx δ ⟨s, rfl⟩
   rw [List.map_map] at hx
   obtain ⟨n, _, rfl⟩ := List.mem_map.mp hx
   refine ⟨[A, B, C, .val (.int n) true, .un, .un], rfl, fun ⟨m, e, h1, h2⟩ => ⟨[A, B, C, .val (.int n) true, .un, .un], ?_, .val (.int n) true, rfl⟩, fun h => ?_⟩
   ·cases e
    have e1 : ¬ n < 1 := by lia
    have e2 : ¬ 16 < n := by lia
    simp [sIf, Vj, tBl, qF, qc, rC, xU, Rs.bind, zV, e1, e2]
   ·by_cases h1 : n < 1
    ·simp [sIf, Vj, tBl, qF, qc, rC, xU, Rs.bind, wc, h1]
    ·have h2 : 16 < n := by
      refine Int.not_le.mp fun q => h ⟨n, rfl, by lia, q⟩
     simp [sIf, Vj, tBl, qF, qc, rC, xU, Rs.bind, wc, h1, h2]) [A, B, C, .un, .un, .un] ⟨.un, rfl⟩
 have g1 : (∀ x ∈ (ns.map D.int).map fun d => (d, Kd.sh), ∃ n, x.1 = .int n /\ 1 <= n /\ n <= 16) ↔ (ns.all fun n => decide (1 <= n /\ n <= 16)) = true := by
  rw [List.all_eq_true]
  constructor
  ·intro h n hn
   obtain ⟨m, e, h1, h2⟩ := h (.int n, .sh) (by rw [List.map_map]; exact List.mem_map.mpr ⟨n, hn, rfl⟩)
   cases e
   exact decide_eq_true ⟨h1, h2⟩
  ·intro h x hx
   rw [List.map_map] at hx
   obtain ⟨n, hn, rfl⟩ := List.mem_map.mp hx
   have := of_decide_eq_true (h n hn)
   exact ⟨n, rfl, this.1, this.2⟩
 have f1 : ∀ rb, uc (.one 3) 0 rb [A, B, C, .un, .un, .un] = turns (.one 3) rb ((ns.map D.int).map fun d => (d, Kd.sh)) [A, B, C, .un, .un, .un] := fun rb => by rw [<- hA]; rfl
 unfold vD wg
 rw [f1]
 by_cases c1 : (ns.all fun n => decide (1 <= n /\ n <= 16)) = true
 ·obtain ⟨δ', e1, s, rfl⟩ := L1.1 (g1.mpr c1)
  rw [e1]
  dsimp only [Out.andThen]
  have f2 : ∀ rb, Wc (.two 4 5) (V1 (qc 1) (qc 2)) rb [A, B, C, s, .un, .un] = turns (.two 4 5) rb (((xss.map D.lst).zip (ms.map D.int)).map fun p => (.tup [p.1, p.2], Kd.sh)) [A, B, C, s, .un, .un] := fun rb => by rw [<- hB, <- hC]; rfl
  rw [f2, Qa, List.map_map]
  have L2 := v8 (tg := .two 4 5) (c := "WrongCount") (body := sIf (tBl (qF (oEq true) (z4 yo (qf (qc 4) qu)) (qc 5))) (wc "WrongCount") zV)
   (good := fun x => ∃ l m, x.1 = .tup [.lst l, .int m] /\ (l.length : Int) = m) (J := fun δ => ∃ s1 s2 : Sl, δ = [A, B, C, s, s1, s2]) (xs := (xss.zip ms).map ((fun p : D × D => (D.tup [p.1, p.2], Kd.sh)) ∘ fun p : List D × Int => (D.lst p.1, D.int p.2))) (by
    rintro x hx δ ⟨s1, s2, rfl⟩
    obtain ⟨⟨l, m⟩, hp, rfl⟩ := List.mem_map.mp hx
    refine ⟨[A, B, C, s, .val (.lst l) false, .val (.int m) true], rfl, fun ⟨l', m', e, h1⟩ => ⟨[A, B, C, s, .val (.lst l) false, .val (.int m) true], ?_, _, _, rfl⟩, fun h => ?_⟩
    ·cases e
     unfold sIf
     rw [show tBl (qF (oEq true) (z4 yo (qf (qc 4) qu)) (qc 5)) [A, B, C, s, .val (.lst l) false, .val (.int m) true] = .ok (!decide ((l.length : Int) = m)) from rfl, decide_eq_true h1]
     rfl
    ·have h1 : ¬ (l.length : Int) = m := fun q => h ⟨l, m, rfl, q⟩
     unfold sIf
     rw [show tBl (qF (oEq true) (z4 yo (qf (qc 4) qu)) (qc 5)) [A, B, C, s, .val (.lst l) false, .val (.int m) true] = .ok (!decide ((l.length : Int) = m)) from rfl, decide_eq_false h1]
     rfl) [A, B, C, s, .un, .un] ⟨.un, .un, rfl⟩
  have g2 : (∀ x ∈ (xss.zip ms).map ((fun p : D × D => (D.tup [p.1, p.2], Kd.sh)) ∘ fun p : List D × Int => (D.lst p.1, D.int p.2)), ∃ l m, x.1 = .tup [.lst l, .int m] /\ (l.length : Int) = m) ↔ (((xss.map List.length).zip ms).all fun p => decide ((p.1 : Int) = p.2)) = true := by
   have e : (xss.map List.length).zip ms = (xss.zip ms).map fun p => (p.1.length, p.2) := by
    have := Qa List.length (id : Int -> Int) xss ms
    rw [List.map_id] at this
    exact this
   rw [e, List.all_map, List.all_eq_true]
   constructor
   ·intro h p hp
    obtain ⟨l, m, e, h1⟩ := h _ (List.mem_map.mpr ⟨p, hp, rfl⟩)
    cases e
    exact decide_eq_true h1
   ·intro h x hx
    obtain ⟨p, hp, rfl⟩ := List.mem_map.mp hx
    exact ⟨p.1, p.2, rfl, of_decide_eq_true (h p hp)⟩
  by_cases c2 : (((xss.map List.length).zip ms).all fun p => decide ((p.1 : Int) = p.2)) = true
  ·obtain ⟨δ', e2, _⟩ := L2.1 (g2.mpr c2)
   rw [e2, if_pos ⟨c1, c2⟩]
   rfl
  ·rw [L2.2 (fun h => c2 (g2.mp h)), if_neg (fun h => c2 h.2)]
   rfl
 ·have e1 := L1.2 (fun h => c1 (g1.mp h))
  rw [e1, if_neg (fun h => c1 h.1)]
  rfl
theorem yw : Hr vD ["sizes", "lists", "counts", "size", "numbers", "count"] 3 qy := by
 intro ds hl
 match ds, hl with
 | [a, b, c], _ =>
  cases a with
  | lst ss =>
   cases b with
   | lst ls =>
    cases c with
    | lst cs =>
     show (match intsOf ss, xS ls, intsOf cs with | some ns, some ks, some ms => _ | _, _, _ => Rs.no) = .no \/ _ = (match intsOf ss, xS ls, intsOf cs with | some ns, some ks, some ms => _ | _, _, _ => Rs.no)
     cases e1 : intsOf ss with
     | none => exact .inl rfl
     | some ns =>
      cases e2 : xS ls with
      | none => exact .inl rfl
      | some ks =>
       cases e3 : intsOf cs with
       | none => exact .inl rfl
       | some ms =>
        right
        obtain ⟨xss, rfl, rfl⟩ := QG e2
        have h1 := vd e1
        have h3 := vd e3
        subst h1 h3
        exact xt ns ms xss
    | _ => exact .inl rfl
   | _ => exact .inl rfl
  | _ => exact .inl rfl
theorem xx (ns : List Int) (h : wK ns) : res (vB (sl0 ["numbers", "x"] [.lst (ns.map .int)])) = if ∀ n ∈ ns, Fi n then Rs.ok (D.non, false) else Rs.er "NotFinite" := by
 have hs : sl0 ["numbers", "x"] [.lst (ns.map .int)] = [.val (.lst (ns.map .int)) false, .un] := rfl
 rw [hs]
 generalize hA : Sl.val (.lst (ns.map .int)) false = A
 have L1 := v8 (tg := .one 1) (c := "NotFinite") (body := sIf (jK (tBl (qm qY (qf (qc 1) qu)))) (wc "NotFinite") zV)
  (good := fun x => ∃ n, x.1 = .int n /\ Fi n) (J := fun δ => ∃ s : Sl, δ = [A, s]) (xs := (ns.map D.int).map fun d => (d, Kd.sh)) (by
   rintro x hx δ ⟨s, rfl⟩
   rw [List.map_map] at hx
   obtain ⟨n, hn, rfl⟩ := List.mem_map.mp hx
   have hu := h n hn
   refine ⟨[A, .val (.int n) true], rfl, fun ⟨m, e, h1⟩ => ⟨[A, .val (.int n) true], ?_, _, rfl⟩, fun q => ?_⟩
   ·cases e
    simp [sIf, jK, tBl, qm, qf, qu, qc, Rs.bind, zV, yh hu, bv, h1.2]
   ·have h1 : ¬ n % 9223372036854775808 < 9218868437227405312 := fun z => q ⟨n, rfl, hu, z⟩
    simp [sIf, jK, tBl, qm, qf, qu, qc, Rs.bind, wc, yh hu, bv, h1]) [A, .un] ⟨.un, rfl⟩
 have g1 : (∀ x ∈ (ns.map D.int).map fun d => (d, Kd.sh), ∃ n, x.1 = .int n /\ Fi n) ↔ ∀ n ∈ ns, Fi n := by
  constructor
  ·intro q n hn
   obtain ⟨m, e, h1⟩ := q (.int n, .sh) (by rw [List.map_map]; exact List.mem_map.mpr ⟨n, hn, rfl⟩)
   cases e
   exact h1
  ·intro q x hx
   rw [List.map_map] at hx
   obtain ⟨n, hn, rfl⟩ := List.mem_map.mp hx
   exact ⟨n, rfl, q n hn⟩
 have f1 : ∀ rb, uc (.one 1) 0 rb [A, .un] = turns (.one 1) rb ((ns.map D.int).map fun d => (d, Kd.sh)) [A, .un] := fun rb => by rw [<- hA]; rfl
 unfold vB
 rw [f1]
 by_cases c : ∀ n ∈ ns, Fi n
 ·obtain ⟨δ', e, _⟩ := L1.1 (g1.mpr c)
  rw [e, if_pos c]
  rfl
 ·rw [L1.2 (fun q => c (g1.mp q)), if_neg c]
  rfl
theorem yr : Hr vB ["numbers", "x"] 1 qv := by
 intro ds hl
 match ds, hl with
 | [.lst xs], _ =>
  unfold qv
  dsimp only
  cases e : intsOf xs with
  | none => exact .inl rfl
  | some ns =>
   dsimp only
   by_cases c : ∀ n ∈ ns, U64 n
   ·right
    rw [if_pos c]
    have q := vd e
    subst q
    rw [xx ns c]
   ·left; exact if_neg c
 | [.non], _ => exact .inl rfl
 | [.bl _], _ => exact .inl rfl
 | [.int _], _ => exact .inl rfl
 | [.tup _], _ => exact .inl rfl
 | [.fn _], _ => exact .inl rfl
 | [.obj _ _ _], _ => exact .inl rfl
theorem xg {ns : List Int} (h : wK ns) : qv [.lst (ns.map .int)] = if ∀ n ∈ ns, Fi n then Rs.ok (D.non, false) else Rs.er "NotFinite" := by
 unfold qv
 dsimp only
 rw [ints_map]
 exact if_pos h
theorem xJ (ns ms : List Int) (xss : List (List D)) : qy [.lst (ns.map .int), .lst (xss.map .lst), .lst (ms.map .int)] =
  if (ns.all fun n => decide (1 <= n /\ n <= 16)) = true /\ (((xss.map List.length).zip ms).all fun p => decide ((p.1 : Int) = p.2)) = true then .ok (.non, false) else .er "WrongCount" := by
 unfold qy
 dsimp only
 rw [ints_map, jR, ints_map]
theorem yE {r : RE} {δ : Dl} {ds : List D} (h : r (freeze δ) = .ok (.lst ds, .fr)) : vS r δ = .rt (.lst ds) true := by unfold vS; rw [h]
theorem yI {r : RE} {δ : Dl} {d : D} (h : r (freeze δ) = .ok (d, .nw)) : vS r δ = .rt d false := by
 unfold vS
 rw [h]
 cases d <;> rfl
theorem yJ {r : RE} {δ : Dl} {c : Str} (h : r (freeze δ) = .er c) : vS r δ = .er c := by unfold vS; rw [h]
theorem QO {r : RE} {δ : Dl} {i : Nat} {d : D} (h : r δ = .ok (d, .nw)) : z0 i r δ = .nx (δ.set i (.val d true)) := by
 unfold z0
 rw [h]
 cases d <;> simp [wt]
theorem u9 {r : RE} {δ : Dl} {x : DK} (h : r δ = .ok x) : ve r δ = .nx δ := by unfold ve; rw [h]
theorem jw {r : RE} {δ : Dl} {c : Str} (h : r δ = .er c) : ve r δ = .er c := by unfold ve; rw [h]
theorem yL {a b : RS} {δ δ1 : Dl} (h : a δ = .nx δ1) : wg a b δ = b δ1 := by unfold wg; rw [h]; rfl
theorem QH {a b : RS} {δ : Dl} {c : Str} (h : a δ = .er c) : wg a b δ = .er c := by unfold wg; rw [h]; rfl
theorem WV {α β : Type} {p : α -> Option β} {h : α -> β} : ∀ {l : List α}, (∀ x ∈ l, p x = some (h x)) -> l.filterMap p = l.map h
 | [], _ => rfl
 | x :: r, k => by
  rw [List.filterMap_cons, k x (List.mem_cons_self), List.map_cons, WV fun y hy => k y (List.mem_cons_of_mem _ hy)]
theorem xX : Hr zP ["numbers"] 1 qt := by
 intro ds hl
 match ds, hl with
 | [.lst xs], _ =>
  unfold qt
  dsimp only
  by_cases c : xs.all D.sc = true /\ xs.length < LIM
  ·right
   rw [if_pos c]
   have hl2 : 1 + xs.length <= LIM := by have := c.2; lia
   have hl3 : (D.int xs.length :: xs).all D.sc = true := by rw [List.all_cons, c.1]; rfl
   have hx : vS (qF yp (zY (qf (z4 yo (qf (qc 0) qu)) qu)) (qc 0)) [.val (.lst xs) false] = .rt (.lst (.int xs.length :: xs)) true := by
    refine yE ?_
    show (if 1 + xs.length <= LIM then Rs.ok (D.lst ([D.int xs.length] ++ xs), kL ([D.int xs.length] ++ xs) (Kd.low .fr .sh)) else .no) = _
    rw [if_pos hl2]
    show Rs.ok (D.lst (D.int xs.length :: xs), kL (D.int xs.length :: xs) (Kd.low .fr .sh)) = _
    unfold kL
    rw [if_pos hl3]
   show res (vS _ _) = _
   rw [show sl0 ["numbers"] [.lst xs] = [.val (.lst xs) false] from rfl, hx]
   rfl
  ·left; exact if_neg c
 | [.non], _ => exact .inl rfl
 | [.bl _], _ => exact .inl rfl
 | [.int _], _ => exact .inl rfl
 | [.tup _], _ => exact .inl rfl
 | [.fn _], _ => exact .inl rfl
 | [.obj _ _ _], _ => exact .inl rfl
theorem zM {xs : List D} (h : xs.all D.sc = true) (hl : xs.length < LIM) : qt [.lst xs] = .ok (.lst (.int xs.length :: xs), true) := by
 unfold qt
 exact if_pos ⟨h, hl⟩
theorem qx {ra : RE} {rr : RA} {δ : Dl} {x : DK} {xs : List DK} (h : ra δ = .ok x) (h2 : rr δ = .ok xs) : qf ra rr δ = .ok (x :: xs) := by unfold qf; rw [h, h2]; rfl
theorem qN {δ : Dl} : qu δ = .ok [] := rfl
theorem uE {r : RA} {δ : Dl} {xs : List DK} (h : r δ = .ok xs) (hl : xs.length <= LIM) : zY r δ = .ok (.lst (xs.map (·.1)), kL (xs.map (·.1)) (qw xs)) := by
 unfold zY
 rw [h]
 exact if_pos hl
theorem vG {f : DK -> DK -> Rs DK} {ra rb : RE} {δ : Dl} {x y : DK} (h : ra δ = .ok x) (h2 : rb δ = .ok y) : qF f ra rb δ = f x y := by unfold qF; rw [h, h2]; rfl
theorem Xp {f : DK -> Rs DK} {ra : RE} {δ : Dl} {x : DK} (h : ra δ = .ok x) : rUn f ra δ = f x := by unfold rUn; rw [h]; rfl
theorem qS {g : Fn} {r : RA} {δ : Dl} {xs : List DK} (h : r δ = .ok xs) : qm g r δ = (g (xs.map (·.1))).bind fun y => .ok (y.1, kB y.2) := by unfold qm; rw [h]; rfl
theorem QQ {xs : List D} {k : Kd} (h : xs.all D.sc = true) : kL xs k = .fr := by unfold kL; exact if_pos h
theorem yS (ns : List Int) : (ns.map D.int).all D.sc = true := by
 rw [List.all_map, List.all_eq_true]
 intro x _
 rfl
theorem j6 {r : RE} {δ : Dl} {n : Nat} {k : Kd} (h : r δ = .ok (.int n, k)) (hn : n < 1000000) : zU r δ = .ok (true, (List.range n).map fun (k : Nat) => (D.int k, .nw)) := by
 unfold zU
 rw [h]
 rw [Rs.vM]
 dsimp only
 rw [if_pos (by lia), Int.toNat_natCast]
theorem Va {ra : RE} {rl rh rs : RO} {δ : Dl} {xs : List D} {k : Kd} {lo hi st : Option Int} (h : ra δ = .ok (.lst xs, k)) (hl : rl δ = .ok lo) (hh : rh δ = .ok hi) (hs : rs δ = .ok st) (h0 : st ≠ some 0) :
  y6 ra rl rh rs δ = .ok (.lst (pick xs lo hi st), kL (pick xs lo hi st) (k.low .nw)) := by
 unfold y6
 rw [h, hl, hh, hs]
 exact if_neg h0
theorem Y3 {x : Int} (k : Nat) (hk : k <= 60000) (h : x.natAbs < 2 ^ k) : few x := Nat.lt_of_lt_of_le h (Nat.pow_le_pow_right (by decide) hk)
theorem QT {x : Int} (h : U64 x) : few x := Y3 64 (by decide) (by obtain ⟨a, b⟩ := h; lia)
theorem Wn {i j : Int} {k l : Kd} (hi : few i) (hj : few j) : Qi (.int i, k) (.int j, l) = .ok (.int (i * j), .nw) := by
 unfold Qi
 exact if_pos ⟨hi, hj⟩
theorem Wa {m : Int} (h : U64 m) : (1 <= m /\ m <= 16) ↔ PvCalls.size m.toNat = true := by
 unfold PvCalls.size PvCalls.SIZE
 obtain ⟨a, b⟩ := h
 rw [Bool.and_eq_true, decide_eq_true_eq, decide_eq_true_eq]
 lia
theorem Q2 {x : Int} (h : U64 x) : Fi x ↔ Pv.isFinite x.toNat = true := by
 rw [Dm.Qb, decide_eq_true_eq]
 unfold Fi Dm.sz
 obtain ⟨a, b⟩ := h
 constructor
 ·rintro ⟨_, q⟩; lia
 ·intro q; exact ⟨⟨a, b⟩, by lia⟩
theorem ju {ns : List Int} (h : wK ns) : (∀ n ∈ ns, Fi n) ↔ (nats ns).all Pv.isFinite = true := by
 rw [List.all_eq_true]
 unfold nats
 constructor
 ·intro q x hx
  obtain ⟨n, hn, rfl⟩ := List.mem_map.mp hx
  exact (Q2 (h n hn)).mp (q n hn)
 ·intro q n hn
  exact (Q2 (h n hn)).mpr (q _ (List.mem_map.mpr ⟨n, hn, rfl⟩))
theorem wQ (ns : List Int) : (nats ns).length = ns.length := List.length_map _
theorem X1 {ns : List Int} (h : wK ns) (k : Nat) : (((nats ns).getD k 0 : Nat) : Int) = ns.getD k 0 := by
 unfold nats
 rw [List.getD_eq_getElem?_getD, List.getElem?_map, List.getD_eq_getElem?_getD]
 cases e : ns[k]? with
 | none => rfl
 | some x =>
  have := (h x (List.mem_of_getElem? e)).1
  show ((x.toNat : Nat) : Int) = x
  lia
theorem VB {ns : List Int} (h : wK ns) : (nats ns).map (fun (n : Nat) => (n : Int)) = ns := by
 unfold nats
 rw [List.map_map]
 conv => rhs; rw [<- List.map_id ns]
 refine List.map_congr_left fun n hn => ?_
 have := (h n hn).1
 show ((n.toNat : Nat) : Int) = n
 lia
theorem jT {α : Type} (rows : List (Nat × List Nat)) (x : Pv.Did α) (f : α -> PvCalls.Answer) : wb (PvCalls.given rows x f) =
  if PvCalls.fits rows = true then (if (rows.all fun r => r.2.all Pv.isFinite) = true then wb (match x with | .error e => .refused e | .ok y => f y) else .er "NotFinite") else .er "WrongCount" := by
 unfold PvCalls.given PvCalls.no
 cases h1 : PvCalls.fits rows with
 | false => rfl
 | true =>
  cases h2 : (rows.all fun r => r.2.all Pv.isFinite) with
  | false => rfl
  | true =>
   simp only [Bool.true_eq_false, if_false, if_true]
   cases x <;> rfl
theorem ji (c : PvCalls.Call) : wb (PvCalls.answer c) = if PvCalls.goes c = true then wb (PvCalls.reckon c) else .er "WrongCount" := by
 unfold PvCalls.answer PvCalls.no
 cases h : PvCalls.goes c with
 | false => rfl
 | true => rfl
noncomputable abbrev LL : List (Str × Int) := [("WrongCount", 1), ("NotFinite", 2), ("StepNotFinite", 3), ("NotAsTold", 4)]
noncomputable def Few : PvCalls.Answer -> Prop
 | .refused z => z = -1 \/ z = -2 \/ z = -3 \/ z = -4
 | .row l => l.length <= 1000
 | .number _ => True
 | .rows l k => l.length <= 1000 /\ k.length <= 1000
 | .lu x p _ => x.length <= 1000 /\ p.length <= 1000
 | .told _ l => l.length <= 100000
theorem WS {a : PvCalls.Answer} (h : Few a) : Wh LL (wb a) = some ((TableNeutral.told a).map D.int) := by
 cases a with
 | refused z => rcases h with rfl | rfl | rfl | rfl <;> rfl
 | number x => rfl
 | row l => rfl
 | rows l k => rfl
 | lu x p t => rfl
 | told e l => rfl
theorem V5 {a : PvCalls.Answer} (h : Few a) : ((TableNeutral.told a).map D.int).length <= LIM := by
 rw [List.length_map]
 show _ <= 16777216
 cases a with
 | refused z => exact Nat.le_of_ble_eq_true rfl
 | number x => exact Nat.le_of_ble_eq_true rfl
 | row l => simp only [TableNeutral.told, TableNeutral.rowN, TableNeutral.ints, List.length_cons, List.length_map]; have : l.length <= 1000 := h; lia
 | rows l k => simp only [TableNeutral.told, TableNeutral.rowN, TableNeutral.ints, List.length_cons, List.length_map, List.length_append]; have : l.length <= 1000 /\ k.length <= 1000 := h; lia
 | lu x p t => simp only [TableNeutral.told, TableNeutral.rowN, TableNeutral.ints, List.length_cons, List.length_map, List.length_append, List.length_nil]; have : x.length <= 1000 /\ p.length <= 1000 := h; lia
 | told e l => simp only [TableNeutral.told, TableNeutral.rowN, TableNeutral.ints, List.length_cons, List.length_map]; have : l.length <= 100000 := h; lia
theorem jL {z : Int} (h : U64 z) : TableNeutral.nat z = some z.toNat := by
 unfold TableNeutral.nat
 exact if_neg (by have := h.1; lia)
theorem xw : ∀ {ns : List Int}, wK ns -> ns.mapM TableNeutral.nat = some (nats ns)
 | [], _ => rfl
 | n :: r, h => by
  rw [List.mapM_cons, jL (h n (List.mem_cons_self)), xw fun x hx => h x (List.mem_cons_of_mem _ hx)]
  rfl
theorem XE {c : PvCalls.Call} (h : PvCalls.goes c = true -> Few (PvCalls.reckon c)) : Few (PvCalls.answer c) := by
 unfold PvCalls.answer PvCalls.no
 cases e : PvCalls.goes c with
 | false => exact .inl rfl
 | true => exact h e
theorem VQ {α : Type} {rows : List (Nat × List Nat)} {x : Pv.Did α} {f : α -> PvCalls.Answer} (h : match x with | .error e => Few (.refused e) | .ok y => Few (f y)) : Few (PvCalls.given rows x f) := by
 unfold PvCalls.given PvCalls.no
 split
 ·exact .inl rfl
 ·split
  ·exact .inr (.inl rfl)
  ·cases x with
   | error e => exact h
   | ok y => exact h
theorem Vu {m n : Nat} (hm : PvCalls.size m = true) (hn : PvCalls.size n = true) : m * n <= 1000 := by
 unfold PvCalls.size PvCalls.SIZE at hm hn
 rw [Bool.and_eq_true, decide_eq_true_eq, decide_eq_true_eq] at hm hn
 have : m * n <= 16 * 16 := Nat.mul_le_mul hm.2 hn.2
 lia
open PySem.W (Codec)
theorem W9 {z : Int} (h : Codec.inInt 0 18446744073709551615 z = true) : U64 z := by
 have := Codec.inInt_iff.mp h
 exact ⟨this.1, by lia⟩
theorem QP {ns : List Int} (h : ns.all (Codec.inInt 0 18446744073709551615) = true) : wK ns := fun n hn => W9 (List.all_eq_true.mp h n hn)
theorem xF (ns : List Int) : (ns.map D.int).map Ir.toV = ns.map V.int := by
 rw [List.map_map]
 rfl
theorem vX {K : PySem.W.Frag} {C N : Addr} {nm q bs hdct sn sub ab col dd k0 k1 k2 k3 k5} (l : K.lookup C = some (excClassObj nm q C N bs w1 hdct sn sub ab col dd k0 k1 k2 k3 k5 uL)) (h1 : PySem.W.nsOkIn K N = true) (h2 : PySem.W.nsIn K N "__init__" = some none) : qC K C = true := by
 exact (@decide_eq_true_iff (Yw K C) (Classical.propDecidable _)).mpr ⟨_, _, _, _, _, _, _, _, _, _, _, _, _, _, _, l, h1, h2⟩
theorem yH {K : PySem.W.Frag} {N : Addr} {oc od es n sl} (l : K.lookup N = some ⟨oc, od, .dict es n, sl⟩) (h : (es.toList.all fun e => match e.key with | .str _ _ => true | _ => false) = true) : PySem.W.nsOkIn K N = true := by
 unfold PySem.W.nsOkIn
 rw [l]
 show (es.all fun e => match e.key with | .str _ _ => true | _ => false) = true
 rw [<- Array.all_toList]
 exact h
theorem U6 {mg : Str -> Option Value} {K : PySem.W.Frag} {C1 C2 C3 C4 : Addr} (m1 : mg "WrongCount" = some (.ref C1)) (m2 : mg "NotFinite" = some (.ref C2)) (m3 : mg "StepNotFinite" = some (.ref C3)) (m4 : mg "NotAsTold" = some (.ref C4))
  (x1 : qC K C1 = true) (x2 : qC K C2 = true) (x3 : qC K C3 = true) (x4 : qC K C4 = true) (e2 : (C2 == C1) = false) (e3 : (C3 == C1) = false) (e4 : (C3 == C2) = false) (e5 : (C4 == C1) = false) (e6 : (C4 == C2) = false) (e7 : (C4 == C3) = false)
  {c : Str} {C : Addr} {k : Int} (hC : mg c = some (.ref C)) (hl : LL.lookup c = some k) : qC K C = true /\ List.lookup C [(C1, (1 : Int)), (C2, 2), (C3, 3), (C4, 4)] = some k := by
 have key : ∀ {x : Str} {D : Addr}, c = x -> mg x = some (.ref D) -> C = D := fun {x D} e m => by
  subst e
  rw [hC] at m
  cases m
  rfl
 unfold LL at hl
 rw [List.lookup_cons] at hl
 by_cases h1 : c = "WrongCount"
 ·have z := key h1 m1
  subst h1 z
  cases hl
  exact ⟨x1, by rw [List.lookup_cons, beq_self_eq_true]⟩
 rw [beq_eq_false_iff_ne.mpr h1, List.lookup_cons] at hl
 by_cases h2 : c = "NotFinite"
 ·have z := key h2 m2
  subst h2 z
  cases hl
  exact ⟨x2, by rw [List.lookup_cons, e2, List.lookup_cons, beq_self_eq_true]⟩
 rw [beq_eq_false_iff_ne.mpr h2, List.lookup_cons] at hl
 by_cases h3 : c = "StepNotFinite"
 ·have z := key h3 m3
  subst h3 z
  cases hl
  exact ⟨x3, by rw [List.lookup_cons, e3, List.lookup_cons, e4, List.lookup_cons, beq_self_eq_true]⟩
 rw [beq_eq_false_iff_ne.mpr h3, List.lookup_cons] at hl
 by_cases h4 : c = "NotAsTold"
 ·have z := key h4 m4
  subst h4 z
  cases hl
  exact ⟨x4, by rw [List.lookup_cons, e5, List.lookup_cons, e6, List.lookup_cons, e7, List.lookup_cons, beq_self_eq_true]⟩
 rw [beq_eq_false_iff_ne.mpr h4] at hl
 cases hl
theorem Xw {A B C : RA} {e : RE} {rest : RS} {δ : Dl} {va vb vc : List DK} {ss cs ns : List Int} {xss : List (List D)} {k : Kd}
  (hA : A δ = .ok va) (la : va.length <= LIM) (ea : va.map (·.1) = ss.map D.int) (hB : B δ = .ok vb) (lb : vb.length <= LIM) (eb : vb.map (·.1) = xss.map D.lst) (hC : C δ = .ok vc) (lc : vc.length <= LIM) (ec : vc.map (·.1) = cs.map D.int)
  (hE : e δ = .ok (.lst (ns.map .int), k)) (hn : wK ns) :
  res (wg (ve (qm qy (qf (zY A) (qf (zY B) (qf (zY C) qu))))) (wg (ve (qm qv (qf e qu))) rest) δ) =
   if (ss.all fun n => decide (1 <= n /\ n <= 16)) = true /\ (((xss.map List.length).zip cs).all fun p => decide ((p.1 : Int) = p.2)) = true then (if ∀ n ∈ ns, Fi n then res (rest δ) else .er "NotFinite") else .er "WrongCount" := by
 have h1 : qm qy (qf (zY A) (qf (zY B) (qf (zY C) qu))) δ = if (ss.all fun n => decide (1 <= n /\ n <= 16)) = true /\ (((xss.map List.length).zip cs).all fun p => decide ((p.1 : Int) = p.2)) = true then .ok (.non, .nw) else .er "WrongCount" := by
  rw [qS (qx (uE hA la) (qx (uE hB lb) (qx (uE hC lc) qN)))]
  show (qy [.lst (va.map (·.1)), .lst (vb.map (·.1)), .lst (vc.map (·.1))]).bind _ = _
  rw [ea, eb, ec, xJ]
  split <;> rfl
 by_cases c : (ss.all fun n => decide (1 <= n /\ n <= 16)) = true /\ (((xss.map List.length).zip cs).all fun p => decide ((p.1 : Int) = p.2)) = true
 ·rw [if_pos c] at h1 ⊢
  rw [yL (u9 h1)]
  have h2 : qm qv (qf e qu) δ = if ∀ n ∈ ns, Fi n then .ok (.non, .nw) else .er "NotFinite" := by
   rw [qS (qx hE qN)]
   show (qv [.lst (ns.map .int)]).bind _ = _
   rw [xg hn]
   split <;> rfl
  by_cases c2 : ∀ n ∈ ns, Fi n
  ·rw [if_pos c2] at h2 ⊢
   rw [yL (u9 h2)]
  ·rw [if_neg c2] at h2 ⊢
   rw [QH (jw h2)]
   rfl
 ·rw [if_neg c] at h1 ⊢
  rw [QH (jw h1)]
  rfl
noncomputable def Jb {α : Type} (x : Pv.Did α) (f : α -> PvCalls.Answer) : PvCalls.Answer := match x with
 | .error e => .refused e
 | .ok y => f y
theorem checked {α : Type} {p q : Prop} [Decidable p] [Decidable q] {c : PvCalls.Call} {rows : List (Nat × List Nat)} {x : Pv.Did α} {f : α -> PvCalls.Answer} {R : Rs (D × Bool)} 
  (h1 : p ↔ PvCalls.goes c = true /\ PvCalls.fits rows = true) (h2 : q ↔ (rows.all fun r => r.2.all Pv.isFinite) = true) (h3 : p -> q -> R = wb (Jb x f)) (hc : PvCalls.reckon c = PvCalls.given rows x f) :
  (if p then (if q then R else .er "NotFinite") else .er "WrongCount") = wb (PvCalls.answer c) := by
 rw [ji, hc, jT]
 by_cases a : p
 ·obtain ⟨g1, g2⟩ := h1.mp a
  rw [if_pos a, if_pos g1, if_pos g2]
  by_cases b : q
  ·rw [if_pos b, if_pos (h2.mp b), h3 a b]
   rfl
  ·rw [if_neg b, if_neg (fun z => b (h2.mpr z))]
 ·rw [if_neg a]
  by_cases g1 : PvCalls.goes c = true
  ·rw [if_pos g1, if_neg (fun z => a (h1.mpr ⟨g1, z⟩))]
  ·rw [if_neg g1]
theorem QR {m n : Int} {ns : List Int} (hm : U64 m) (hn : U64 n) : (ns.length : Int) = m * n ↔ (nats ns).length = m.toNat * n.toNat := by
 have e : m * n = ((m.toNat * n.toNat : Nat) : Int) := by
  have h1 : ((m.toNat : Nat) : Int) = m := Int.toNat_of_nonneg hm.1
  have h2 : ((n.toNat : Nat) : Int) = n := Int.toNat_of_nonneg hn.1
  rw [Int.natCast_mul, h1, h2]
 rw [e, wQ]
 lia
theorem jE {xs ys : List D} {k l : Kd} (h : xs.length + ys.length <= LIM) : yp (.lst xs, k) (.lst ys, l) = .ok (.lst (xs ++ ys), kL (xs ++ ys) (k.low l)) := if_pos h
theorem Wt {m : Int} (h : U64 m) : ∃ M : Nat, m = M := ⟨m.toNat, by have := h.1; lia⟩
theorem pick_run {α : Type} (xs : List α) (lo n : Nat) (hl : lo + n <= xs.length) (d : α) : pick xs (some (lo : Int)) (some ((lo + n : Nat) : Int)) none = (List.range n).map fun j => xs.getD (lo + j) d := by
 have hb : sliceBounds (some (lo : Int)) (some ((lo + n : Nat) : Int)) none xs.length = ((lo : Int), ((lo + n : Nat) : Int), 1) := by
  unfold sliceBounds
  simp only [Option.getD_none, if_pos (show (1 : Int) > 0 by decide)]
  refine Prod.ext ?_ (Prod.ext ?_ rfl)
  ·show max 0 (min (if (lo : Int) < 0 then (lo : Int) + xs.length else lo) xs.length) = (lo : Int)
   rw [if_neg (by lia)]
   lia
  ·show max 0 (min (if ((lo + n : Nat) : Int) < 0 then ((lo + n : Nat) : Int) + xs.length else ((lo + n : Nat) : Int)) xs.length) = ((lo + n : Nat) : Int)
   rw [if_neg (by lia)]
   lia
 unfold pick
 rw [hb]
 dsimp only
 by_cases hn : n = 0
 ·subst hn
  unfold sliceRange
  simp
 unfold sliceRange
 dsimp only
 have hc : ((((lo + n : Nat) : Int) - lo + 1 - 1) / 1).toNat = n := by
  rw [Int.ediv_one]
  lia
 rw [if_pos (by decide), if_pos (by lia), hc, List.filterMap_map]
 refine WV fun i hi => ?_
 have hi := List.mem_range.mp hi
 have e : ((lo : Int) + 1 * (i : Int)).toNat = lo + i := by lia
 show xs[((lo : Int) + 1 * (i : Int)).toNat]? = some (xs.getD (lo + i) d)
 rw [e, List.getD_eq_getElem?_getD, List.getElem?_eq_getElem (by lia)]
 rfl
theorem WH {r : RE} {δ : Dl} {i : Int} {k : Kd} (h : r δ = .ok (.int i, k)) : zQ r δ = .ok (some i) := by unfold zQ; rw [h]; rfl
theorem VA {α : Type} (l : List α) (d : α) : l = (List.range l.length).map fun k => l.getD k d := by
 refine List.ext_getElem? fun k => ?_
 rw [List.getElem?_map]
 by_cases h : k < l.length
 ·rw [List.getElem?_range h, List.getElem?_eq_getElem h]
  show _ = some (l.getD k d)
  rw [List.getD_eq_getElem?_getD, List.getElem?_eq_getElem h]
  rfl
 ·rw [List.getElem?_eq_none (by lia), List.getElem?_eq_none (by rw [List.length_range]; lia)]
  rfl
theorem Zo {i j : Int} {k l : Kd} (h1 : 0 <= j) : Vi (.int i, k) (.int j, l) = .ok (.int (i / 2 ^ j.toNat), .nw) := by
 unfold Vi
 exact if_pos h1
theorem WE {g : Fn} {a : RE} {δ : Dl} {x : DK} {y : D × Bool} (h : a δ = .ok x) (hg : g [x.1] = .ok y) : qm g (qf a qu) δ = .ok (y.1, kB y.2) := by rw [qS (qx h qN)]; show (g [x.1]).bind _ = _; rw [hg]; rfl
theorem Xu {r : RE} {δ : Dl} {b : Bool} {k : Kd} (h : r δ = .ok (.bl b, k)) : tBl r δ = .ok b := by unfold tBl; rw [h]; rfl
theorem Xd {t : RT} {a b : RE} {δ : Dl} (h : t δ = .ok true) : VL t a b δ = a δ := by unfold VL; rw [h]; rfl
theorem YD {t : RT} {a b : RE} {δ : Dl} (h : t δ = .ok false) : VL t a b δ = b δ := by unfold VL; rw [h]; rfl
theorem Wj {a b : Int} (h : a = b) : (Rs.ok (D.int a, Kd.nw) : Rs DK) = .ok (.int b, .nw) := by rw [h]
theorem W7 {a b : Nat} : decide ((a : Int) = (b : Int)) = decide (a = b) := decide_eq_decide.mpr (by lia)
noncomputable def vF : Fn := fn1 U64 fun x => iv (Dm.sg x.toNat)
noncomputable def zf : RS := (vS (qF Vi (qc 0) (rC (.int 63))))
theorem Vn (x : Int) (h : U64 x) : res (zf (sl0 ["x"] [.int x])) = iv (Dm.sg x.toNat) := by
 unfold zf
 rw [yI (d := .int (Dm.sg x.toNat)) ((vG (x := (.int x, .sh)) (y := (.int 63, .nw)) rfl rfl).trans ((Zo (by decide)).trans ?_))]
 ·rfl
 ·refine Wj ?_
  unfold Dm.sg
  obtain ⟨X, rfl⟩ := Wt h
  rw [Int.toNat_natCast, Int.natCast_ediv]
  rfl
theorem Qy : Hr zf ["x"] 1 vF := Qr Vn
theorem Vz {x : Int} (h : U64 x) : vF [.int x] = iv (Dm.sg x.toNat) := yQ h
theorem ur {ns : List Int} (h : wK ns) : ns.map D.int = (nats ns).map fun (n : Nat) => D.int n := by
 conv => lhs; rw [<- VB h]
 rw [List.map_map]
 rfl
theorem wC {ns : List Int} (h : wK ns) : ∀ v ∈ nats ns, v < 2 ^ 64 := fun v hv => by
 obtain ⟨x, hx, rfl⟩ := List.mem_map.mp hv
 obtain ⟨h1, h2⟩ := h x hx
 lia
theorem uO {xs : List D} {k l : Kd} {i : Nat} {d : D} (h : xs[i]? = some d) : oIx (.lst xs, k) (.int (i : Nat), l) = .ok (d, k.low .nw) := by
 have hi : i < xs.length := (List.getElem?_eq_some_iff.mp h).1
 have e : y9 xs.length (i : Nat) = some i := by
  unfold y9
  rw [if_pos (by lia), if_pos (by lia), Int.toNat_natCast]
 unfold oIx
 dsimp only
 rw [e]
 show (match xs[i]? with | some d => Rs.ok (d, k.low .nw) | none => .no) = _
 rw [h]
theorem V0 {l : List Nat} (k : Nat) : (l.map fun (n : Nat) => D.int n).getD k (.int 0) = .int (l.getD k 0 : Nat) := by
 rw [List.getD_eq_getElem?_getD, List.getElem?_map, List.getD_eq_getElem?_getD]
 cases l[k]? <;> rfl
theorem uk {l : List Nat} (h : ∀ v ∈ l, v < 2 ^ 64) (k : Nat) : l.getD k 0 < 2 ^ 64 := by
 rw [List.getD_eq_getElem?_getD]
 cases e : l[k]? with
 | none => decide
 | some x => exact h x (List.mem_of_getElem? e)
end Dt
set_option maxHeartbeats 4000000
set_option maxHeartbeats 2000000
namespace L2.Ir
open PySem
inductive Itm where
 | v (d : D) (k : Bool) | c (n : Nat)
inductive Cell where
 | lst (xs : List Itm) | ins (c : Str) (ns : List Str) (xs : List Itm)
structure MS where
 s : List (Option Itm)
 μ : List Cell
inductive zA where
 | nx (m : MS) | rt (x : Itm) (μ : List Cell) | bk (m : MS) | ct (m : MS) | er (c : Str) | no
noncomputable abbrev RM := MS -> zA
noncomputable def wj : Option Itm -> Sl
 | some (.v d k) => .val d k
 | _ => .un
noncomputable def vx (m : MS) : Dl := m.s.map wj
noncomputable def qG : DK -> Option Itm
 | (d, k) => if d.sc = true then some (.v d true) else match k with
  | .nw => some (.v d true)
  | .fr => some (.v d true)
  | .sh => some (.v d false)
  | _ => none
noncomputable abbrev IE := MS -> Rs Itm
noncomputable abbrev NE := MS -> Rs (List Itm)
noncomputable def ieV (i : Nat) : IE := fun m => match m.s[i]? with
 | some (some x) => .ok x
 | _ => .no
noncomputable def cellAt (m : MS) : Itm -> Option (Nat × Cell)
 | .c n => (m.μ[n]?).map fun x => (n, x)
 | _ => none
noncomputable def WX : NE := fun _ => .ok []
noncomputable def zA.andThen (o : zA) (f : RM) : zA := match o with
 | .nx m => f m
 | o => o
noncomputable def Qv (a b : RM) : RM := fun m => (a m).andThen b
noncomputable def mDo {α : Type} (x : Rs α) (f : α -> zA) : zA := match x with
 | .ok a => f a
 | .er c => .er c
 | .no => .no
noncomputable def Z8 (i : Nat) (e : NE) : RM := fun m => mDo (e m) fun xs => .nx ⟨m.s.set i (some (.c m.μ.length)), m.μ ++ [.lst xs]⟩
noncomputable def UD (e : IE) : RM := fun m => mDo (e m) fun x => .rt x m.μ
inductive XR where
 | ok (x : Itm) (μ : List Cell) | er (c : Str) | no
noncomputable abbrev Fm := List Itm -> List Cell -> XR
noncomputable def Tg.uv : Tg -> DK -> MS -> Option MS
 | .one i, x, m => (qG x).map fun y => ⟨m.s.set i (some y), m.μ⟩
 | .two i j, (.tup [a, b], k), m => (qG (a, k)).bind fun y => (qG (b, k)).map fun z => ⟨(m.s.set i (some y)).set j (some z), m.μ⟩
 | _, _, _ => none
noncomputable def vL (tg : Tg) (body : RM) : List DK -> RM
 | [], m => .nx m
 | x :: r, m => match tg.uv x m with
  | none => .no
  | some m1 => match body m1 with
   | .nx m2 => vL tg body r m2
   | .ct m2 => vL tg body r m2
   | .bk m2 => .nx m2
   | o => o
noncomputable abbrev MI := MS -> Rs (List DK)
noncomputable def XC (src : RI) : MI := fun m => (src (vx m)).bind fun x => if x.1 = true then .ok x.2 else .no
noncomputable def ZA (tg : Tg) (src : MI) (body : RM) : RM := fun m => mDo (src m) fun xs => vL tg body xs m
noncomputable def Y6 : zA -> XR
 | .rt x μ => .ok x μ
 | .nx m => .ok (.v .non true) m.μ
 | .er c => .er c
 | _ => .no
noncomputable def ms0 (N : List Str) (xs : List Itm) : List (Option Itm) := xs.map some ++ List.replicate (N.length - xs.length) none
noncomputable def zp (μ : List Cell) : Nat -> Itm -> Option D
 | _, .v d k => if d.sc = true \/ k = true then some d else none
 | 0, .c _ => none
 | f + 1, .c n => match μ[n]? with
  | some (.lst xs) => (xs.mapM (zp μ f)).map D.lst
  | some (.ins c ns xs) => (xs.mapM (zp μ f)).map (D.obj c ns)
  | none => none
noncomputable def V8 (μ : List Cell) (x : Itm) : Rs (D × Bool) := match zp μ 3 x with
 | some d => match x, d with
  | .c _, .lst ds => .ok (.lst ds, ds.all D.sc)
  | _, d => .ok (d, false)
 | none => .no
noncomputable def Zt : zA -> Rs (D × Bool)
 | .rt x μ => V8 μ x
 | .nx _ => .ok (.non, false)
 | .er c => .er c
 | _ => .no
noncomputable def it0 (ds : List D) : List Itm := ds.map fun d => .v d false
noncomputable def jr (i j c : Int) : Option (List Int) :=
 if (-1000000 < i /\ i < 1000000) /\ (-1000000 < j /\ j < 1000000) /\ (-1000000 < c /\ c < 1000000) then (if c = -1 then some ((List.range (i - j).toNat).map fun (k : Nat) => i - k)
  else if 0 < c /\ i = 0 then some ((List.range ((j + c - 1) / c).toNat).map fun (k : Nat) => k * c) else none) else none
noncomputable def zE (r q t : RE) : RI := fun δ => (r δ).bind fun x => (q δ).bind fun y => (t δ).bind fun z => match x.1, y.1, z.1 with
 | .int i, .int j, .int c => match jr i j c with
  | some l => .ok (true, l.map fun n => (D.int n, .nw))
  | none => .no
 | _, _, _ => .no
noncomputable def Yc (m : MS) : Option (Nat × Cell) -> D -> zA
 | some (n, .lst xs), .lst ds => if ds.all D.sc = true /\ xs.length + ds.length <= LIM then .nx ⟨m.s, m.μ.set n (.lst (xs ++ ds.map fun d => .v d true))⟩ else .no
 | _, _ => .no
noncomputable def yM (ec : IE) (r : RE) : RM := fun m => mDo (ec m) fun y => match cellAt m y with
 | some (n, .lst xs) => mDo (r (vx m)) fun x => Yc m (some (n, .lst xs)) x.1
 | _ => .no
end L2.Ir
namespace Gr
open PySem L2 L2.Ir Dt
noncomputable abbrev rD (r : List Nat) : D := .lst (r.map fun (n : Nat) => D.int n)
noncomputable abbrev tD (t : List (List Nat)) : D := .lst (t.map rD)
noncomputable abbrev R64 (r : List Nat) : Prop := ∀ v ∈ r, v < 2 ^ 64
noncomputable abbrev T64 (t : List (List Nat)) : Prop := ∀ r ∈ t, R64 r
noncomputable abbrev Wide (n : Nat) (t : List (List Nat)) : Prop := ∀ r ∈ t, r.length = n
noncomputable def erz {α : Type} (z : Int) : Rs α := if z = -4 then .er "NotAsTold" else .er "StepNotFinite"
noncomputable def dK {α : Type} (f : α -> DK) : Pv.Did α -> Rs DK
 | .ok a => .ok (f a)
 | .error z => erz z
noncomputable def dB {α : Type} (f : α -> D × Bool) : Pv.Did α -> Rs (D × Bool)
 | .ok a => .ok (f a)
 | .error z => erz z
noncomputable def dM {α β : Type} (f : α -> β) : Pv.Did α -> Rs β
 | .ok a => .ok (f a)
 | .error z => erz z
theorem xD {α β : Type} (z : Int) (f : α -> Rs β) : (erz z : Rs α).bind f = erz z := by
 unfold erz
 split <;> rfl
theorem wM (r : List Nat) : (r.map fun (n : Nat) => D.int n).all D.sc = true := by
 rw [List.all_map, List.all_eq_true]
 intro x _
 rfl
theorem zl {β γ : Type} (g : β -> γ) : ∀ l : List β, l.mapM (fun x => (Except.ok (g x) : Pv.Did γ)) = .ok (l.map g)
 | [] => rfl
 | x :: l => by rw [List.mapM_cons, zl g l]; rfl
theorem V6 {tg : Tg} {src : RI} {r : RE} {vs : List Nat} {δ : Dl} {b : Bool} {xs : List DK} (hsrc : src δ = .ok (b, xs)) (hl : xs.length < LIM) : vT tg src wO r vs δ = (items tg wO r (clear δ vs) xs).bind fun ys => .ok (.lst (ys.map (·.1)), kL (ys.map (·.1)) (qw ys)) := by
 unfold vT
 rw [hsrc, Rs.vM, if_pos hl]
theorem jO {β γ : Type} {tg : Tg} {r : RE} {δ : Dl} {enc : β -> DK} {f : β -> Pv.Did γ} {dec : γ -> DK} : ∀ {l : List β}, (∀ b ∈ l, ∃ δ1, tg.put (enc b) δ = some δ1 /\ r δ1 = dK dec (f b)) -> items tg wO r δ (l.map enc) = dM (fun ys => ys.map dec) (l.mapM f)
 | [], _ => rfl
 | b :: l, h => by
  obtain ⟨δ1, e1, e2⟩ := h b (List.mem_cons_self)
  have ih := jO fun x hx => h x (List.mem_cons_of_mem _ hx)
  show (match tg.put (enc b) δ with | none => _ | some δ1 => _) = _
  rw [e1]
  dsimp only
  show (Rs.ok true).bind _ = _
  rw [Rs.vM, if_pos rfl, e2, ih, List.mapM_cons]
  cases f b with
  | error z => exact xD z _
  | ok v =>
   show (dM (fun ys => ys.map dec) (l.mapM f)).bind _ = _
   cases l.mapM f with
   | error z => exact xD z _
   | ok q => rfl
theorem jC {β γ : Type} {tg : Tg} {src : RI} {r : RE} {vs : List Nat} {δ : Dl} {b : Bool} {enc : β -> DK} {f : β -> Pv.Did γ} {dec : γ -> DK} {l : List β} (hsrc : src δ = .ok (b, l.map enc)) (hl : l.length < LIM)
  (hi : ∀ x ∈ l, ∃ δ1, tg.put (enc x) (clear δ vs) = some δ1 /\ r δ1 = dK dec (f x)) : vT tg src wO r vs δ = dK (fun ys => (.lst (ys.map fun y => (dec y).1), kL (ys.map fun y => (dec y).1) (qw (ys.map dec)))) (l.mapM f) := by
 rw [V6 hsrc (by rw [List.length_map]; exact hl), jO hi]
 cases l.mapM f with
 | error z => exact xD z _
 | ok ys =>
  show Rs.ok (D.lst ((ys.map dec).map (·.1)), kL ((ys.map dec).map (·.1)) (qw (ys.map dec))) = _
  rw [List.map_map]
  rfl
theorem jn {β : Type} {tg : Tg} {src : RI} {r : RE} {vs : List Nat} {δ : Dl} {b : Bool} {enc : β -> DK} {f : β -> Pv.Did Nat} {k : Kd} {l : List β} (hsrc : src δ = .ok (b, l.map enc)) (hl : l.length < LIM)
  (hi : ∀ x ∈ l, ∃ δ1, tg.put (enc x) (clear δ vs) = some δ1 /\ r δ1 = dK (fun (n : Nat) => (D.int n, k)) (f x)) : vT tg src wO r vs δ = dK (fun ys => (rD ys, .fr)) (l.mapM f) := by
 rw [jC hsrc hl hi]
 cases l.mapM f with
 | error z => rfl
 | ok ys =>
  show Rs.ok (D.lst (ys.map fun (y : Nat) => D.int y), kL (ys.map fun (y : Nat) => D.int y) _) = _
  rw [QQ (wM ys)]
  rfl
theorem jv {k : Kd} (hk : k = .fr \/ k = .nw) : ∀ ys : List (List Nat), qw (ys.map fun r => (rD r, k)) = .nw
 | [] => rfl
 | y :: ys => by
  show (if (rD y).sc = true then _ else k.low (qw (ys.map fun r => (rD r, k)))) = _
  rw [if_neg (show ¬ ((rD y).sc = true) from Bool.false_ne_true), jv hk ys]
  rcases hk with rfl | rfl <;> rfl
noncomputable def kT (t : List (List Nat)) : Kd := if t = [] then .fr else .nw
theorem Zr (t : List (List Nat)) : kL (t.map rD) .nw = kT t := by
 unfold kT
 cases t with
 | nil => rfl
 | cons r t => rw [if_neg (fun z => nomatch z)]; exact if_neg (fun z => nomatch z)
theorem Ub {t : List (List Nat)} (h : 0 < t.length) : kT t = .nw := by
 unfold kT
 exact if_neg (fun z => by rw [z] at h; exact absurd h (Nat.lt_irrefl _))
theorem xl {β : Type} {tg : Tg} {src : RI} {r : RE} {vs : List Nat} {δ : Dl} {b : Bool} {enc : β -> DK} {f : β -> Pv.Did (List Nat)} {k : Kd} {l : List β} (hk : k = .fr \/ k = .nw) (hsrc : src δ = .ok (b, l.map enc)) (hl : l.length < LIM)
  (hi : ∀ x ∈ l, ∃ δ1, tg.put (enc x) (clear δ vs) = some δ1 /\ r δ1 = dK (fun r => (rD r, k)) (f x)) : vT tg src wO r vs δ = dK (fun t => (tD t, kT t)) (l.mapM f) := by
 rw [jC hsrc hl hi]
 cases l.mapM f with
 | error z => rfl
 | ok ys =>
  show Rs.ok (D.lst (ys.map fun y => rD y), kL (ys.map fun y => rD y) (qw (ys.map fun r => (rD r, k)))) = _
  rw [jv hk, Zr]
  rfl
theorem Y9 {r : RE} {δ : Dl} {α : Type} {f : α -> List D} {x : Pv.Did α} (hf : freeze δ = δ) (h : r δ = dK (fun a => (.lst (f a), .fr)) x) : res (vS r δ) = dB (fun a => (.lst (f a), true)) x := by
 cases x with
 | ok a => rw [yE (by rw [hf]; exact h)]; rfl
 | error z =>
  have h : r δ = erz z := h
  show _ = erz z
  unfold erz at h ⊢
  by_cases c : z = -4
  ·rw [if_pos c] at h ⊢; rw [yJ (by rw [hf]; exact h)]; rfl
  ·rw [if_neg c] at h ⊢; rw [yJ (by rw [hf]; exact h)]; rfl
theorem QV {r : RE} {δ : Dl} {x : Pv.Did (List (List Nat))} (hf : freeze δ = δ) (h : r δ = dK (fun t => (tD t, kT t)) x) (hne : ∀ t, x = .ok t -> 0 < t.length) : res (vS r δ) = dB (fun t => (tD t, false)) x := by
 cases x with
 | ok a =>
  have h : r δ = .ok (tD a, kT a) := h
  rw [Ub (hne a rfl)] at h
  rw [yI (by rw [hf]; exact h)]
  rfl
 | error z =>
  have h : r δ = erz z := h
  show _ = erz z
  unfold erz at h ⊢
  by_cases c : z = -4
  ·rw [if_pos c] at h ⊢; rw [yJ (by rw [hf]; exact h)]; rfl
  ·rw [if_neg c] at h ⊢; rw [yJ (by rw [hf]; exact h)]; rfl
theorem W6 {r : RE} {δ : Dl} {xs : List D} {k : Kd} (h : r δ = .ok (.lst xs, k)) : z4 yo (qf r qu) δ = .ok (.int (xs.length : Nat), .nw) := by
 unfold z4
 rw [qx h qN]
 rfl
theorem QF (r : List Nat) (j : Nat) (h : j < r.length) : (r.map fun (n : Nat) => D.int n)[j]? = some (.int (r.getD j 0 : Nat)) := by
 rw [List.getElem?_map, List.getElem?_eq_getElem h, List.getD_eq_getElem?_getD, List.getElem?_eq_getElem h]
 rfl
theorem QZ (t : List (List Nat)) (i : Nat) (h : i < t.length) : (t.map rD)[i]? = some (rD (t.getD i [])) := by
 rw [List.getElem?_map, List.getElem?_eq_getElem h, List.getD_eq_getElem?_getD, List.getElem?_eq_getElem h]
 rfl
noncomputable def vZ : RS := (vS (vT (.one 2) (iOf (qc 0)) wO (qF oIx (qc 2) (qc 1)) [2]))
noncomputable def qW : Fn := fun ds => res (vZ (sl0 ["grid", "j", "row"] ds))
theorem jh {t : List (List Nat)} {j : Nat} (hl : t.length < LIM) (h : ∀ r ∈ t, j < r.length) : qW [tD t, .int j] = .ok (rD (t.map fun r => r.getD j 0), true) := by
 show res (vZ [.val (tD t) false, .val (.int j) false, .un]) = _
 unfold vZ
 have hc := jn (tg := .one 2) (src := iOf (qc 0)) (r := qF oIx (qc 2) (qc 1)) (vs := [2]) (δ := [.val (tD t) false, .val (.int j) false, .un]) (b := true) (enc := fun r => (rD r, .sh)) (f := fun r => .ok (r.getD j 0)) (k := .sh) (l := t) (by
   show Rs.ok (true, (t.map rD).map fun d => (d, Kd.sh)) = _
   rw [List.map_map]
   rfl) hl (fun r hr => ⟨[.val (tD t) false, .val (.int j) false, .val (rD r) false], rfl, (vG (x := (rD r, .sh)) (y := (.int j, .sh)) rfl rfl).trans (uO (QF r j (h r hr)))⟩)
 rw [zl] at hc
 exact (Y9 (α := List Nat) (f := fun ys => ys.map fun (n : Nat) => D.int n) rfl hc)
noncomputable def vO : RS := (vS (vT (.one 1) (zU (z4 yo (qf (qF oIx (qc 0) (rC (.int 0))) qu))) wO (qm qW (qf (qc 0) (qf (qc 1) qu))) [1]))
noncomputable def qB : Fn := fun ds => res (vO (sl0 ["grid", "j"] ds))
theorem zR {t : List (List Nat)} {m n : Nat} (hm : t.length = m) (h0 : 0 < m) (hl : m < LIM) (h : Wide n t) (hn : 0 < n) (hn2 : n < 1000000) : qB [tD t] = .ok (tD ((List.range n).map fun j => t.map fun r => r.getD j 0), false) := by
 show res (vO [.val (tD t) false, .un]) = _
 unfold vO
 have hix : qF oIx (qc 0) (rC (.int 0)) [.val (tD t) false, .un] = .ok (rD (t.getD 0 []), .sh) := (vG (x := (tD t, .sh)) (y := (.int ((0 : Nat) : Int), .nw)) rfl rfl).trans (uO (QZ t 0 (by lia)))
 have hlen : (t.getD 0 []).length = n := by
  rw [List.getD_eq_getElem?_getD, List.getElem?_eq_getElem (by lia : 0 < t.length)]
  exact h _ (List.getElem_mem _)
 have hsrc : zU (z4 yo (qf (qF oIx (qc 0) (rC (.int 0))) qu)) [.val (tD t) false, .un] = .ok (true, (List.range n).map fun (k : Nat) => (D.int k, .nw)) := by
  refine j6 (k := .nw) ?_ hn2
  rw [W6 hix, List.length_map, hlen]
 have hc := xl (tg := .one 1) (r := qm qW (qf (qc 0) (qf (qc 1) qu))) (vs := [1]) (f := fun j => .ok (t.map fun r => r.getD j 0)) (.inl rfl) hsrc (by rw [List.length_range]; show n < 16777216; lia) (fun j hj => ⟨[.val (tD t) false, .val (.int j) true], rfl, by
  rw [qS (qx (x := (tD t, .sh)) rfl (qx (x := (.int j, .nw)) rfl qN))]
  show (qW [tD t, .int j]).bind _ = _
  rw [jh (by lia) (fun r hr => by rw [h r hr]; exact List.mem_range.mp hj)]
  rfl⟩)
 rw [zl] at hc
 exact QV rfl hc (fun t ht => by cases ht; rw [List.length_map, List.length_range]; exact hn)
noncomputable def zk : RS := (vS (vT (.one 2) (zE (rC (.int 0)) (z4 yo (qf (qc 0) qu)) (qc 1)) wO (y6 (qc 0) (zQ (qc 2)) (zQ (qF yp (qc 2) (qc 1))) yR) [2]))
noncomputable def vt : Fn := fun ds => res (zk (sl0 ["numbers", "n", "start"] ds))
theorem WU {m n : Nat} (hn : 0 < n) : (((m * n : Nat) : Int) + (n : Int) - 1) / (n : Int) = m := by
 have e : ((m * n : Nat) : Int) + (n : Int) - 1 = (n : Int) - 1 + (n : Int) * m := by
  rw [Int.natCast_mul, Int.mul_comm]
  lia
 rw [e, Int.add_mul_ediv_left _ _ (by lia), Int.ediv_eq_zero_of_lt (by lia) (by lia), Int.zero_add]
theorem ZG {m n : Nat} (hn : 0 < n) (h : m * n < 1000000) (h2 : n <= 1000) : jr 0 ((m * n : Nat) : Int) n = some ((List.range m).map fun (k : Nat) => (k : Int) * n) := by
 have c1 : (-1000000 < (0 : Int) /\ (0 : Int) < 1000000) /\ (-1000000 < ((m * n : Nat) : Int) /\ ((m * n : Nat) : Int) < 1000000) /\ (-1000000 < (n : Int) /\ (n : Int) < 1000000) := by
  generalize m * n = q at h
  lia
 unfold jr
 rw [if_pos c1, if_neg (by lia), if_pos ⟨by lia, rfl⟩, WU hn, Int.toNat_natCast]
theorem Qk {r q t : RE} {δ : Dl} {i j c : Int} {k1 k2 k3 : Kd} {l : List Int} (h1 : r δ = .ok (.int i, k1)) (h2 : q δ = .ok (.int j, k2)) (h3 : t δ = .ok (.int c, k3)) (h : jr i j c = some l) : zE r q t δ = .ok (true, l.map fun n => (D.int n, .nw)) := by
 unfold zE
 rw [h1, h2, h3, Rs.vM, Rs.vM, Rs.vM]
 dsimp only
 rw [h]
theorem Vw {a : List Nat} {m n : Nat} (ha : a.length = m * n) (hm : 0 < m) (hm2 : m <= 1000) (hn : 0 < n) (hn2 : n <= 1000) (hmn : m * n < 1000000) : vt [rD a, .int n] = .ok (tD (PvCalls.tableOf m n a), false) := by
 show res (zk [.val (rD a) false, .val (.int n) false, .un]) = _
 unfold zk
 have hsrc : zE (rC (.int 0)) (z4 yo (qf (qc 0) qu)) (qc 1) [.val (rD a) false, .val (.int n) false, .un] = .ok (true, (List.range m).map fun (k : Nat) => (D.int ((k * n : Nat) : Int), .nw)) := by
  refine (Qk (i := 0) (j := ((m * n : Nat) : Int)) (c := n) rfl ((W6 (r := qc 0) (k := .sh) rfl).trans (by rw [List.length_map, ha])) rfl (ZG hn hmn hn2)).trans ?_
  rw [List.map_map]
  have e : ((fun n => (D.int n, Kd.nw)) ∘ fun (k : Nat) => (k : Int) * n) = fun (k : Nat) => (D.int ((k * n : Nat) : Int), Kd.nw) := by
   funext k
   show (D.int ((k : Int) * n), Kd.nw) = _
   rw [Int.natCast_mul]
  rw [e]
 have hc := xl (tg := .one 2) (r := y6 (qc 0) (zQ (qc 2)) (zQ (qF yp (qc 2) (qc 1))) yR) (vs := [2]) (δ := [.val (rD a) false, .val (.int n) false, .un]) (f := fun i => .ok ((List.range n).map fun j => a.getD (n * i + j) 0)) (.inl rfl) hsrc (by rw [List.length_range]; show m < 16777216; lia) (fun i hi => ⟨[.val (rD a) false, .val (.int n) false, .val (.int ((i * n : Nat) : Int)) true], rfl, by
  have hi := List.mem_range.mp hi
  have hin : i * n + n <= m * n := by rw [<- Nat.succ_mul]; exact Nat.mul_le_mul_right _ hi
  have q := Va (ra := qc 0) (rl := zQ (qc 2)) (rh := zQ (qF yp (qc 2) (qc 1))) (rs := yR) (δ := [.val (rD a) false, .val (.int n) false, .val (.int ((i * n : Nat) : Int)) true]) (xs := a.map fun (n : Nat) => D.int n) (k := .sh) (lo := some ((i * n : Nat) : Int)) (hi := some ((i * n + n : Nat) : Int)) (st := none) rfl rfl (WH (k := .nw) ((vG (x := (.int ((i * n : Nat) : Int), .nw)) (y := (.int n, .sh)) rfl rfl).trans (Wj (by rw [Int.natCast_add])))) rfl (by intro z; cases z)
  rw [q, pick_run (a.map fun (n : Nat) => D.int n) (i * n) n (by rw [List.length_map, ha]; exact hin) (.int 0)]
  have e : ((List.range n).map fun j => (a.map fun (n : Nat) => D.int n).getD (i * n + j) (.int 0)) = ((List.range n).map fun j => a.getD (n * i + j) 0).map fun (n : Nat) => D.int n := by
   rw [List.map_map]
   refine List.map_congr_left fun j _ => ?_
   rw [V0, Nat.mul_comm i n]
   rfl
  rw [e, QQ (wM _)]
  rfl⟩)
 rw [zl] at hc
 exact QV rfl hc (fun t ht => by cases ht; rw [List.length_map, List.length_range]; exact hm)
theorem jN {β : Type} {tg : Tg} {body : RM} {enc : β -> DK} {b : β} {l : List β} {m m1 : MS} (hp : tg.uv (enc b) m = some m1) : vL tg body ((b :: l).map enc) m = (match body m1 with | .nx m2 => vL tg body (l.map enc) m2 | .ct m2 => vL tg body (l.map enc) m2 | .bk m2 => .nx m2 | o => o) := by
 show (match tg.uv (enc b) m with | none => _ | some m1 => _) = _
 rw [hp]
 all_goals rfl
theorem QU {a b : RM} {m m1 : MS} (h : a m = .nx m1) : Qv a b m = b m1 := by unfold Qv; rw [h]; rfl
theorem Zw {tg : Tg} {src : MI} {body : RM} {m : MS} {xs : List DK} (h : src m = .ok xs) : ZA tg src body m = vL tg body xs m := by unfold ZA mDo; rw [h]
theorem x8 (μ : List Cell) (f : Nat) : ∀ ds : List D, (ds.map fun d => Itm.v d true).mapM (zp μ f) = some ds
 | [] => rfl
 | d :: ds => by
  rw [List.map_cons, List.mapM_cons, x8 μ f ds]
  have e : zp μ f (.v d true) = some d := by
   cases f <;> exact if_pos (.inr rfl)
  rw [e]
  rfl
noncomputable def uy : RM := (Qv (Z8 1 WX) (Qv (ZA (.one 2) (XC (iOf (qc 0))) (yM (ieV 1) (qc 2))) (UD (ieV 1))))
noncomputable def wX : Fn := fun ds => Zt (uy ⟨ms0 ["grid", "numbers", "row"] (it0 ds), []⟩)
theorem zb {t : List (List Nat)} : ∀ {n : Nat}, Wide n t -> (PvCalls.flat t).length = t.length * n := fun {n} h => by
 unfold PvCalls.flat
 induction t with
 | nil => simp
 | cons r t ih =>
  rw [List.flatMap_cons, List.length_append, ih (fun x hx => h x (List.mem_cons_of_mem _ hx)), h r List.mem_cons_self, List.length_cons, Nat.succ_mul]
  lia
theorem XY {t : List (List Nat)} {n : Nat} (h : Wide n t) (hl : t.length * n <= 1000000) : wX [tD t] = .ok (rD (PvCalls.flat t), true) := by
 show Zt (uy ⟨[some (.v (tD t) false), none, none], []⟩) = _
 unfold uy
 rw [QU (show Z8 1 WX ⟨[some (.v (tD t) false), none, none], []⟩ = .nx ⟨[some (.v (tD t) false), some (.c 0), none], [.lst []]⟩ from rfl)]
 have hsrc : XC (iOf (qc 0)) ⟨[some (.v (tD t) false), some (.c 0), none], [.lst []]⟩ = .ok (t.map fun r => (rD r, .sh)) := by
  show Rs.ok ((t.map rD).map fun d => (d, Kd.sh)) = _
  rw [List.map_map]
  rfl
 have hb : ∀ s : List Nat, ∀ l : List (List Nat), (∀ x ∈ l, x ∈ t) -> s.length + l.length * n <= 1000000 -> ∀ u : Option Itm, ∃ u', vL (.one 2) (yM (ieV 1) (qc 2)) (l.map fun r => (rD r, Kd.sh)) ⟨[some (.v (tD t) false), some (.c 0), u], [.lst ((s.map fun (n : Nat) => D.int n).map fun d => .v d true)]⟩ = .nx ⟨[some (.v (tD t) false), some (.c 0), u'], [.lst (((s ++ PvCalls.flat l).map fun (n : Nat) => D.int n).map fun d => .v d true)]⟩ := by
  intro s l
  induction l generalizing s with
  | nil => intro _ _ u; exact ⟨u, by show zA.nx _ = _; rw [show PvCalls.flat [] = [] from rfl, List.append_nil]⟩
  | cons r l ih =>
   intro hx hs u
   have hr : r.length = n := h r (hx r List.mem_cons_self)
   rw [List.length_cons, Nat.succ_mul] at hs
   rw [jN (m1 := ⟨[some (.v (tD t) false), some (.c 0), some (.v (rD r) false)], [.lst ((s.map fun (n : Nat) => D.int n).map fun d => .v d true)]⟩) rfl]
   have hbody : yM (ieV 1) (qc 2) ⟨[some (.v (tD t) false), some (.c 0), some (.v (rD r) false)], [.lst ((s.map fun (n : Nat) => D.int n).map fun d => .v d true)]⟩ = .nx ⟨[some (.v (tD t) false), some (.c 0), some (.v (rD r) false)], [.lst (((s ++ r).map fun (n : Nat) => D.int n).map fun d => .v d true)]⟩ := by
    show (if (r.map fun (n : Nat) => D.int n).all D.sc = true /\ ((s.map fun (n : Nat) => D.int n).map fun d => Itm.v d true).length + (r.map fun (n : Nat) => D.int n).length <= LIM then _ else _) = _
    rw [if_pos ⟨wM r, by rw [List.length_map, List.length_map, List.length_map]; show _ <= 16777216; lia⟩]
    show zA.nx ⟨_, [Cell.lst (((s.map fun (n : Nat) => D.int n).map fun d => Itm.v d true) ++ ((r.map fun (n : Nat) => D.int n).map fun d => Itm.v d true))]⟩ = _
    rw [<- List.map_append, <- List.map_append]
   rw [hbody]
   obtain ⟨u', q⟩ := ih (s ++ r) (fun x hx' => hx x (List.mem_cons_of_mem _ hx')) (by rw [List.length_append]; lia) (some (.v (rD r) false))
   refine ⟨u', ?_⟩
   show vL _ _ _ _ = _
   rw [q, show PvCalls.flat (r :: l) = r ++ PvCalls.flat l from rfl, List.append_assoc]
 obtain ⟨u', q⟩ := hb [] t (fun _ h => h) (by simpa using hl) none
 rw [QU ((Zw hsrc).trans q), List.nil_append]
 show V8 [.lst (((PvCalls.flat t).map fun (n : Nat) => D.int n).map fun d => Itm.v d true)] (.c 0) = _
 have e : zp [.lst (((PvCalls.flat t).map fun (n : Nat) => D.int n).map fun d => Itm.v d true)] 3 (.c 0) = some (rD (PvCalls.flat t)) := by
  show (List.mapM (zp _ 2) _).map D.lst = _
  rw [x8]
  rfl
 unfold V8
 rw [e]
 show Rs.ok (rD (PvCalls.flat t), ((PvCalls.flat t).map fun (n : Nat) => D.int n).all D.sc) = _
 rw [wM]
noncomputable def v5 : RS := (vS (qm qt (qf (qm wX (qf (qc 0) qu)) qu)))
noncomputable def qX : Fn := fun ds => res (v5 (sl0 ["grid"] ds))
theorem je {t : List (List Nat)} {n : Nat} (h : Wide n t) (hl : t.length * n <= 1000000) : qX [tD t] = .ok (.lst (.int (PvCalls.flat t).length :: (PvCalls.flat t).map fun (n : Nat) => D.int n), true) := by
 show res (v5 [.val (tD t) false]) = _
 unfold v5
 have hfl : qm wX (qf (qc 0) qu) [.val (tD t) false] = .ok (rD (PvCalls.flat t), .fr) := by
  rw [qS (qx (x := (tD t, .sh)) rfl qN)]
  show (wX [tD t]).bind _ = _
  rw [XY h hl]
  rfl
 have hw : qm qt (qf (qm wX (qf (qc 0) qu)) qu) [.val (tD t) false] = .ok (.lst (.int (PvCalls.flat t).length :: (PvCalls.flat t).map fun (n : Nat) => D.int n), .fr) := by
  rw [qS (qx hfl qN)]
  show (qt [rD (PvCalls.flat t)]).bind _ = _
  rw [zM (wM _) (by rw [List.length_map, zb h]; show _ < 16777216; lia), List.length_map]
  rfl
 rw [yE hw]
 rfl
theorem getD_mem {α : Type} {l : List α} {i : Nat} (d : α) (h : i < l.length) : l.getD i d ∈ l := by
 rw [List.getD_eq_getElem?_getD, List.getElem?_eq_getElem h]
 exact List.getElem_mem h
theorem map_getD {α β : Type} {l : List α} {f : α -> β} {i : Nat} (d : α) (e : β) (h : i < l.length) : (l.map f).getD i e = f (l.getD i d) := by
 rw [List.getD_eq_getElem?_getD, List.getElem?_map, List.getElem?_eq_getElem h, List.getD_eq_getElem?_getD, List.getElem?_eq_getElem h]
 rfl
theorem range_getD {n j : Nat} (h : j < n) (d : Nat) : (List.range n).getD j d = j := by
 rw [List.getD_eq_getElem?_getD, List.getElem?_eq_getElem (by rw [List.length_range]; exact h), List.getElem_range]
 rfl
structure Tb (m n : Nat) (t : List (List Nat)) : Prop where
 len : t.length = m
 wide : Wide n t
 b64 : T64 t
theorem Tb.Yt {m n : Nat} {t : List (List Nat)} (h : Tb m n t) (i j : Nat) : Pv.Table.at_ t i j < 2 ^ 64 := by
 unfold Pv.Table.at_
 by_cases hi : i < t.length
 ·exact uk (h.b64 _ (getD_mem [] hi)) j
 ·have e : t.getD i [] = [] := by rw [List.getD_eq_getElem?_getD, List.getElem?_eq_none (by lia)]; rfl
  rw [e]
  exact (by decide : (0 : Nat) < 2 ^ 64)
theorem VX {m n : Nat} {f : Nat -> Nat -> Nat} (hf : ∀ i j, f i j < 2 ^ 64) : Tb m n (Pv.tableBy m n f) := by
 unfold Pv.tableBy
 refine ⟨by rw [List.length_map, List.length_range], fun r hr => ?_, fun r hr v hv => ?_⟩
 ·obtain ⟨i, _, rfl⟩ := List.mem_map.mp hr
  rw [List.length_map, List.length_range]
 ·obtain ⟨i, _, rfl⟩ := List.mem_map.mp hr
  obtain ⟨j, _, rfl⟩ := List.mem_map.mp hv
  exact hf i j
theorem xH {m n : Nat} {l : List Nat} (h : R64 l) : Tb m n (PvCalls.tableOf m n l) := VX fun i j => uk h _
noncomputable abbrev kOf (y : D × Bool) : Rs DK := .ok (y.1, kB y.2)
theorem call_K {g : Fn} {r : RA} {δ : Dl} {xs : List DK} (h : r δ = .ok xs) : qm g r δ = (g (xs.map (·.1))).bind kOf := qS h
theorem jJ {x y : Nat} (hx : x < y) (hy : y < 2 ^ 63) : Pv.mag x < Pv.mag y := by
 have sx : Dm.sz x = x := by unfold Dm.sz; lia
 have sy : Dm.sz y = y := by unfold Dm.sz; lia
 have ex := Dm.vq x
 have ey := Dm.vq y
 rw [sx] at ex
 rw [sy] at ey
 unfold Pv.mag
 rw [ex, ey]
 by_cases h0 : x / 2 ^ 52 = 0
 ·rw [if_pos h0]
  by_cases h1 : y / 2 ^ 52 = 0
  ·rw [if_pos h1]; lia
  ·rw [if_neg h1]
   have p : 1 <= 2 ^ (y / 2 ^ 52 - 1) := Nat.one_le_two_pow
   have q : (2 ^ 52 + y % 2 ^ 52) * 1 <= (2 ^ 52 + y % 2 ^ 52) * 2 ^ (y / 2 ^ 52 - 1) := Nat.mul_le_mul_left _ p
   have z := Nat.mod_lt x (show 0 < 2 ^ 52 by decide)
   lia
 ·rw [if_neg h0]
  have h1 : y / 2 ^ 52 ≠ 0 := by lia
  rw [if_neg h1]
  by_cases h2 : x / 2 ^ 52 = y / 2 ^ 52
  ·rw [<- h2]
   refine (Nat.mul_lt_mul_right (Nat.two_pow_pos _)).mpr ?_
   lia
  ·have hle : x / 2 ^ 52 < y / 2 ^ 52 := by lia
   obtain ⟨d, hd⟩ : ∃ d, y / 2 ^ 52 - 1 = (x / 2 ^ 52 - 1) + 1 + d := ⟨y / 2 ^ 52 - 1 - (x / 2 ^ 52), by lia⟩
   rw [hd, Nat.pow_add, Nat.pow_add]
   have z := Nat.mod_lt x (show 0 < 2 ^ 52 by decide)
   generalize hA : 2 ^ (x / 2 ^ 52 - 1) = A
   have hA0 : 0 < A := by rw [<- hA]; exact Nat.two_pow_pos _
   generalize hB : 2 ^ d = B
   have hB0 : 1 <= B := by rw [<- hB]; exact Nat.one_le_two_pow
   calc (2 ^ 52 + x % 2 ^ 52) * A < (2 ^ 52 * 2) * A := (Nat.mul_lt_mul_right hA0).mpr (by lia)
    _ = 2 ^ 52 * (A * 2 ^ 1 * 1) := by rw [Nat.mul_one, Nat.pow_one, Nat.mul_assoc, Nat.mul_comm 2 A]
    _ <= (2 ^ 52 + y % 2 ^ 52) * (A * 2 ^ 1 * B) := Nat.mul_le_mul (Nat.le_add_right _ _) (Nat.mul_le_mul_left _ hB0)
theorem YR {ra rb : RE} {δ : Dl} {xs ys : List D} (h1 : ra δ = .ok (.lst xs, .fr)) (h2 : rb δ = .ok (.lst ys, .fr)) (c1 : xs.all D.sc = true) (c2 : ys.all D.sc = true) (hl : xs.length + ys.length <= LIM) : qF yp ra rb δ = .ok (.lst (xs ++ ys), .fr) := by
 rw [vG h1 h2, jE hl, QQ (by rw [List.all_append, c1, c2]; rfl)]
theorem Q7 {t : List (List Nat)} {m n : Nat} (hm : t.length = m) : ((List.range n).map fun j => t.map fun r => r.getD j 0) = Pv.flipped m n t := by
 unfold Pv.flipped Pv.tableBy
 refine List.map_congr_left fun j _ => ?_
 refine List.ext_getElem (by rw [List.length_map, List.length_map, List.length_range, hm]) fun i h1 h2 => ?_
 rw [List.length_map] at h1
 rw [List.getElem_map, List.getElem_map, List.getElem_range]
 show _ = (t.getD i []).getD j 0
 rw [List.getD_eq_getElem?_getD (l := t), List.getElem?_eq_getElem h1]
 rfl
theorem ZY {t : List (List Nat)} {m n : Nat} (h : Tb m n t) : Tb n m (Pv.flipped m n t) := by
 rw [<- Q7 h.len]
 refine ⟨by rw [List.length_map, List.length_range], fun r hr => ?_, fun r hr v hv => ?_⟩
 ·obtain ⟨j, _, rfl⟩ := List.mem_map.mp hr
  rw [List.length_map]; exact h.len
 ·obtain ⟨j, _, rfl⟩ := List.mem_map.mp hr
  obtain ⟨q, hq, rfl⟩ := List.mem_map.mp hv
  rw [List.getD_eq_getElem?_getD]
  cases e : q[j]? with
  | none => show 0 < 2 ^ 64; decide
  | some v => exact h.b64 q hq v (List.mem_of_getElem? e)
noncomputable def rk (x : Nat) : Int := if Dm.sg x = 1 then -(Dm.sz x : Int) else Dm.sz x
noncomputable def zj : RS := (vS (VL (tBl (qF (oEq false) (qm vF (qf (qc 0) qu)) (rC (.int 1)))) (rUn YH (qm qT (qf (qc 0) qu))) (qm qT (qf (qc 0) qu))))
noncomputable def vp : Fn := fun ds => res (zj (sl0 ["x"] ds))
theorem Vb {x : Int} (h : U64 x) : vp [.int x] = iv (rk x.toNat) := by
 show res (zj [.val (.int x) false]) = _
 unfold zj
 have hw : qm qT (qf (qc 0) qu) [.val (.int x) false] = .ok (.int (Dm.sz x.toNat), .nw) := (WE (x := (.int x, .sh)) rfl (x9 h)).trans (Wj (by unfold Dm.sz; have := h.1; lia))
 have ht : tBl (qF (oEq false) (qm vF (qf (qc 0) qu)) (rC (.int 1))) [.val (.int x) false] = .ok (decide (Dm.sg x.toNat = 1)) := by
  refine Xu (k := .nw) ((vG (x := (.int (Dm.sg x.toNat), .nw)) (y := (.int 1, .nw)) (WE (x := (.int x, .sh)) rfl (Vz h)) rfl).trans ?_)
  show Rs.ok (D.bl (decide (((Dm.sg x.toNat : Nat) : Int) = ((1 : Nat) : Int))), Kd.nw) = _
  rw [W7]
 unfold rk
 by_cases c : Dm.sg x.toNat = 1
 ·rw [decide_eq_true c] at ht
  rw [if_pos c, yI (d := .int (-(Dm.sz x.toNat : Int))) ((Xd ht).trans ((Xp hw).trans rfl))]
  rfl
 ·rw [decide_eq_false c] at ht
  rw [if_neg c, yI (d := .int (Dm.sz x.toNat)) ((YD ht).trans hw)]
  rfl
end Gr
set_option maxHeartbeats 4000000
namespace L2
open PySem PySem.Spec PyProof.Rows
structure w9 (sc ls : Scope) (y : Str) : Prop where
 kind : ls.kind = .function
 co : ls.isCoroutine = false
 gen : ls.isGenerator = false
 only : ∀ z ∈ ls.names, z.2 = .free \/ z.2 = .globalImplicit \/ (z.1 = y /\ z.2 = .local)
 par : ls.names.lookup y = some .local
 free : ∀ z ∈ ls.names, z.2 = .free -> sc.names.lookup z.1 = some .cell
noncomputable def zw (X : Cx) (A : Around) (qual : Str) (ls : Scope) (y : Str) (f : Addr) (cd : Value) (s : Shared) (H : Hp) : Cx where
 prog := X.prog
 w := X.w
 K := X.K
 mg := X.mg
 base := X.base
 A := A.deeper (vJ X qual ls f cd s)
 N := X.N ++ [y]
 s_0 := s
 H_0 := H
 env := vJ X qual ls f cd s
 outer := X.stack
 stack := vJ X qual ls f cd s :: X.stack
 ex := []
 fn := fun _ => false
 calm := true
 pn := []
 xe := fun _ _ => False
section
variable {X : Cx} {A : Around} {qual : Str} {ls : Scope} {y : Str} {f : Addr} {cd : Value} {s : Shared} {H : Hp} {pins : List (Addr × Obj)} {σ : St}
theorem WK : Acc (zw X A qual ls y f cd s H) (fun _ _ _ => False) := fun e s' x => by
 obtain ⟨a, cls, B, H', pins, σ, e1, I, hd, kb, q⟩ := x
 exact q.elim
theorem wz (ok : X.Ok) (L : w9 X.env.scope ls y) {x : Str} {c : Addr} (h : (qi X.env.cells ls.names []).lookup x = some c) : (x, NameKind.free) ∈ ls.names /\ X.env.cells.lookup x = some c := by
 rcases vo (PySem.mem_of_lookup h) with z | ⟨z, rfl⟩
 ·cases z
 ·obtain ⟨c', e⟩ := ok.has x (.inl (L.free _ z rfl))
  exact ⟨z, by rw [e]; rfl⟩
theorem jf (ok : X.Ok) (L : w9 X.env.scope ls y) {x : Str} (h : (x, NameKind.free) ∈ ls.names) : ∃ c, (qi X.env.cells ls.names []).lookup x = some c /\ X.env.cells.lookup x = some c := by
 obtain ⟨c, e⟩ := mem_lookup (vH (cells := X.env.cells) (acc := []) h)
 exact ⟨c, e, (wz ok L e).2⟩
theorem VW {h1 : Heap} {tk : Nat} {v : V} {u : Value} (L : w9 X.env.scope ls y) (hy : y ∉ X.N) (I1 : Inv X pins σ H s) (hd : A.handled = none) (e0 : uQ X.prog X.w X.K X.mg X.base A X.stack s H) (rv : RelV v u)
  (hns : h1.Ns s.heap.objs.size (fun z => (([(y, u)] : List (Str × Value)).reverse).lookup z)) (kp : ∀ b o, s.heap.get? b = some o -> h1.get? b = some o) :
  Inv (zw X A qual ls y f cd s H) [] (σ ++ [some v]) H { s with heap := h1, toks := tk } := by
 have noA : ∀ b : Addr, b ∉ (zw X A qual ls y f cd s H).ex := fun b z => absurd (show b ∈ ([] : List Addr) from z) (by simp)
 refine ⟨⟨e0.mod, L.kind, rfl, rfl, Nat.le_refl _, fun y z c h1 h2 => ?_, fun y hy => ?_, fun y c z => Bool.noConfusion (show false = true from z), fun _ => hd, Around.frames_deeper e0.frames, .inr ⟨rfl, rfl⟩, fun b z => absurd z (noA b), e0.bs, e0.bsz, fun b _ _ => noA b, fun b z => absurd z (noA b), e0.zo, e0.frf⟩,
  rfl, e0.bare, Un.kept kp, ⟨_, hns, fun i x v' h1 h2 h3 => ?_⟩, fun y c h => ?_, e0.hok.fresh (Nat.le_refl _), fun y c h => I1.freeC y c (wz I1.ok L h).2, fun p hp => absurd (show p ∈ ([] : List (Addr × Obj)) from hp) (by simp), e0.hok.kept kp, ?_⟩
 ·exact I1.ok.inj y z c (wz I1.ok L h1).2 (wz I1.ok L h2).2
 ·have hy : ls.names.lookup y = some .cell \/ ls.names.lookup y = some .free := hy
  rcases hy with hy | hy
  ·rcases L.only _ (PySem.mem_of_lookup hy) with z | z | z
   ·cases z
   ·cases z
   ·cases z.2
  ·obtain ⟨c, e, _⟩ := jf I1.ok L (PySem.mem_of_lookup hy)
   exact ⟨c, e⟩
 ·have h1 : (X.N ++ [y])[i]? = some x := h1
  have h3 : ls.names.lookup x = some .local \/ ls.names.lookup x = some .cell \/ ls.names.lookup x = some .free := h3
  by_cases hi : i < X.N.length
  ·rw [List.getElem?_append_left hi] at h1
   rw [List.getElem?_append_left (by rw [I1.len]; exact hi)] at h2
   have xN : x ∈ X.N := List.mem_of_getElem? h1
   have hfr : ls.names.lookup x = some .free := by
    rcases h3 with z | z | z
    ·rcases L.only _ (PySem.mem_of_lookup z) with q | q | q
     ·cases q
     ·cases q
     ·exact absurd (q.1 ▸ xN) hy
    ·rcases L.only _ (PySem.mem_of_lookup z) with q | q | q
     ·cases q
     ·cases q
     ·cases q.2
    ·exact z
   have hc := L.free _ (PySem.mem_of_lookup hfr) rfl
   obtain ⟨c, e1, e2⟩ := jf I1.ok L (PySem.mem_of_lookup hfr)
   obtain ⟨m, _, hl⟩ := I1.loc
   obtain ⟨u', r, l⟩ := hl i x v' h1 h2 (.inr (.inl hc))
   refine ⟨u', r, .inr ⟨.inr hfr, c, e1, ?_⟩⟩
   rcases l with ⟨k, _⟩ | ⟨_, c', e', z⟩
   ·have k : X.env.scope.names.lookup x = some .local := k
    rw [show X.env.scope.names.lookup x = _ from hc] at k
    cases k
   ·rw [e2] at e'
    cases e'
    exact z.keeps kp
  ·have hi : X.N.length <= i := Nat.le_of_not_lt hi
   rw [List.getElem?_append_right hi] at h1
   rw [List.getElem?_append_right (by rw [I1.len]; exact hi), I1.len] at h2
   cases hj : i - X.N.length with
   | succ k => rw [hj] at h1; cases h1
   | zero =>
    rw [hj] at h1 h2
    have e1 : y = x := Option.some.inj h1
    have e2 : some v = some v' := Option.some.inj h2
    subst e1
    cases e2
    exact ⟨u, rv, .inl ⟨L.par, by show ([(y, u)] : List (Str × Value)).lookup y = some u; exact List.lookup_cons_self⟩⟩
 ·obtain ⟨_, e⟩ := wz I1.ok L h
  obtain ⟨v, z⟩ := I1.cell y c e
  exact ⟨v, z.keeps kp⟩
 ·show (σ ++ [some v]).length = (X.N ++ [y]).length
  rw [List.length_append, List.length_append, I1.len]
  rfl
theorem Vl {params : Arguments} {body : Expr} {c : Addr} {v : V} {u : Value} {tb : TE} {Q : VK} (L : w9 X.env.scope ls y) (hy : y ∉ X.N) (I : Inv X pins σ H s) (hd : A.handled = none) (hdp : A.depth < recursionLimit) (hfr : A.frames = X.A.frames)
  (la : QL s H (frs X.stack) f c qual params body ls (qi X.env.cells ls.names []))
  (hbind : ∀ pm ctv, bindArgs (PySem.W.kla_fn "<lambda>" qual params body ls (qi X.env.cells ls.names []) pm (.ref c) ctv) ⟨[u], []⟩ = pure [(y, u)])
  (hb : PE (zw X A qual ls y f (.ref c) s H) body tb) (rv : RelV v u) (hq : tb (σ ++ [some v]) H Q) : wpAny (model X.prog X.w) A (call (.ref f) [u]) (EP X pins σ Q) (fun _ _ => False) s := by
 obtain ⟨⟨pm, ctv, ho⟩, fN, fF, ⟨oc, vs, t, hoc, hod, hov⟩, cN, cF⟩ := la
 have lim : s.heap.NoLimit := I.nolimit
 have e0 : uQ X.prog X.w X.K X.mg X.base A X.stack s H := ⟨hfr.trans I.ok.frames, I.ok.mod, I.bs, Nat.le_trans I.ok.bsz I.sz, I.stack, I.yF, I.hok, I.bare⟩
 have body_ok : codeAny (model X.prog X.w) A (.call (.ref f) ⟨[u], []⟩) (fun r s' => match r with | .ok (.ret u) => CE X.stack X.prog X.w H s Q u s' | _ => False) s := by
  refine PySem.W.kla_callFunE hdp ho rfl L.co L.gen rfl ⟨c, oc, vs, t, rfl, hoc, hod, hov⟩ ?_
  rw [hbind]
  refine wpAny_pure (wpAny_newFunctionEnv (fun y hy z => ?_) (fun z hz => ?_) (fun h1 hns hsb => ⟨lim.fresh _ hsb, PySem.W.kla_codeExpr ?_⟩) L.kind)
  ·rcases L.only y hy with q | q | q
   ·rw [q] at z; cases z
   ·rw [q] at z; cases z
   ·rw [q.2] at z; cases z
  ·have e : z = (y, u) := List.mem_singleton.mp hz
   rw [e]
   exact L.par
  ·have kp : ∀ b o, s.heap.get? b = some o -> h1.get? b = some o := fun b o e => (hsb.2 b (Nat.ne_of_lt (Heap.lt_size e))).trans (Heap.get?_push_of_some _ e)
   have I3 : Inv (zw X A qual ls y f (.ref c) s H) [] (σ ++ [some v]) H { s with heap := h1, toks := s.toks + 1 } := VW L hy I hd e0 rv hns kp
   refine wpAny_mono (hb [] _ _ H Q I3 hq) (fun v s' ⟨vv, H', J, rv, qq⟩ => ?_) fun e s' hs => hs.elim
   exact ⟨vv, H', J.os, J.bare, J.base, J.hok, rv, qq⟩
 refine wpAny_call (codeAny_mono body_ok fun r s' hq => ?_)
 cases r with
 | error e => exact hq
 | ok fl =>
  cases fl with
  | ret u => exact I.after hq
  | next => exact False.elim hq
  | brk => exact False.elim hq
  | cont => exact False.elim hq
theorem Vp {a : Addr} {xs : List V} {its : List Value} {n : Nat} (I : Inv X pins σ H s) (F : wJ X pins H a) (hl : xs.length <= sizeLine) (r : Vals xs its) (ho : s.heap.get? a = some (seqObj "list" its.toArray n)) : Inv X pins σ (upd H a (.lst xs)) s := by
 obtain ⟨f0, f1, f2, f3, f4, f5⟩ := F
 have ne : ∀ b u, H b = some u -> b ≠ a := fun b u e z => by rw [z, f0] at e; cases e
 have q := I.step (h' := s.heap) (H' := upd H a (.lst xs)) (g' := s.gens) (t' := s.toks) (d' := s.drawn) (ch := [a]) (fun b hb => ?_) (fun b o _ _ _ e _ => e) (fun b o _ _ _ e _ => ⟨o.slots, e⟩) (fun b o hb e n => ?_) (fun b o _ e => ⟨o, e⟩)
  (fun b ys e => by rw [qe (ne b _ e)]; exact e) (fun b o u e => by rw [qe (ne b _ e)]; exact e) (fun b ps e => ⟨#[], by rw [qe (ne b _ e), e]; simp⟩) (fun m hm => hm) (fun b u e => ?_) I.bare
 ·exact q
 ·have e : b = a := by simpa using hb
  subst e
  exact ⟨f3, f1, f4, f5⟩
 ·rw [qe (fun z => hb (by simp [z]))]; exact n
 ·by_cases hb : b = a
  ·subst hb
   rw [qo] at e
   cases e
   exact ⟨hl, its, n, r, ho⟩
  ·rw [qe hb] at e
   refine (I.hok b u e).xO (fun c v hc q => q) (fun c q => ?_) fun c ys q => ?_
   ·rw [qe (ne c _ q)]; exact q
   ·rw [qe (ne c _ q)]; exact q
end
section
variable {prog : Program} {w : World} {A : Around} {E : Value -> Shared -> Prop} {s : Shared}
theorem ym {R : Result -> Shared -> Prop} {r : Addr} {a b c : Int} {t u v : Tok} {n : Nat} (hh : A.handled = none) (hr : IsRange s.heap r a b c t u v) (hsmall : Builtin.Range.small a b c = true) (hn : Builtin.Range.rangeSize a b c = n) (hlen : n <= 2 ^ 24) (S : Addr) (c₀ : Nat)
  (hS : s.heap.get? S = some { cls := .type "list", data := .seq #[] c₀ })
  (hR : ∀ h' tk acc' c', (∀ b o, b ≠ S -> s.heap.get? b = some o -> h'.get? b = some o) -> h'.get? S = some { cls := .type "list", dict := none, data := .seq acc' c', slots := #[] } ->
   ItemsOf (fun i v => ∃ t, v = .int (a + i * c) t) acc' n -> R (.ok (.ret (.ref S))) { s with heap := h', toks := tk }) : codeAny (model prog w) A (.builtin "list.__iadd__" ⟨[.ref S, .ref r], []⟩) R s := by
 refine codeAny_builtin F.entry_list_iadd ?_
 rw [Around.under_plainId F.plain_list_iadd _]
 show wpAny _ A.in1 (Builtin.List.listExtendWith (.ref S) (.ref r) (.ref S)) _ _ _
 exact wpAny_extend_range hh hr hsmall hn hlen S (.ref S) c₀ hS hR
theorem xQ {Q : List Value -> Shared -> Prop} {r : Addr} {a b c : Int} {t u v : Tok} {n : Nat} (hh : A.handled = none) (hr : IsRange s.heap r a b c t u v) (hsmall : Builtin.Range.small a b c = true) (hn : Builtin.Range.rangeSize a b c = n) (hlen : n <= 2 ^ 24)
  (hQ : ∀ h' tk acc', (∀ b o, s.heap.get? b = some o -> h'.get? b = some o) -> s.heap.objs.size < h'.objs.size -> ItemsOf (fun i v => ∃ t, v = .int (a + i * c) t) acc' n -> Q acc'.toList { s with heap := h', toks := tk }) : wpAny (model prog w) A (collect (.ref r)) Q E s := by
 unfold collect
 refine wpAny_bind (wpAny_runValue (codeAny_builtin F.entry_proto_collect ?_))
 rw [Around.under_plainId F.plain_proto_collect _]
 show wpAny _ A.in1 (newList [] >>= fun l => again (.builtin "list.__iadd__" ⟨[l, .ref r], []⟩)) _ _ s
 refine wpAny_bind (wpAny_newObj_type ?_)
 refine wpAny_pure ⟨plainId_quiet F.plain_list_iadd _, ym (s := { s with heap := s.heap.push { cls := .type "list", data := .seq ([] : List Value).toArray } }) hh (Heap.get?_push_of_some _ hr) hsmall hn hlen s.heap.objs.size 0 (Heap.get?_push_size _ rfl) fun h' tk acc' c' hk hS' hacc => ?_⟩
 show wpAny _ A (load s.heap.objs.size >>= _) _ _ _
 refine wpAny_bind (wpAny_load hS' ?_)
 exact wpAny_pure (hQ h' tk acc' (fun b o e => hk b o (Nat.ne_of_lt (Heap.lt_size e)) (Heap.get?_push_of_some _ e)) (Heap.lt_size hS') hacc)
end
noncomputable def xM (J : Shared -> Prop) (kS a : Addr) : Prop := ∀ (c : Addr) (s : Shared) (h' : Heap), (c = kS \/ c = a) -> Heap.SameBut c s.heap h' -> J s -> J { s with heap := h' }
section
variable {prog : Program} {w : World} {A : Around} {E : Value -> Shared -> Prop} {s : Shared} {a kS : Addr} {b : Bool} {vs : List Value} {kz : List Int} {keys : Array Value} {e e1 : Nat} {P : PySem.Fin -> Shared -> Prop} {J : Shared -> Prop} {f : Value}
theorem QJ {st : SortSt} (up : xM J kS a) (j : J s) (nk : s.heap.get? kS = some (seqObj "list" keys e)) (na : s.heap.get? a = some (seqObj "list" #[] e1)) (hka : kS ≠ a)
  (hk : IntsAre keys.toList kz) (hlen : kz.length = vs.length) (hZ : vs.length <= sizeLine) (hp : (arrOf st).Perm (keys.zip vs.toArray)) (hs : SortedTo (arrOf st) (arrOf st).size) (hfl : failedOf st = none)
  (hst : Stable intKind (arrOf st) (if b = true then (keys.zip vs.toArray).reverse else keys.zip vs.toArray))
  (h : ∀ s' out c, J s' -> s'.heap.get? a = some (seqObj "list" out c) -> KskOutSt b kz vs out.toList -> P (.done (.ret .none)) s') :
  wpAny (model prog w) A (ksk_tail a b e1 (.ref kS) st) P E s := by
 have hZ2 := hZ
 rw [sizeLine_eq] at hZ2
 have hsz : keys.size = vs.length := by
  have h1 := hk.length
  rw [Array.length_toList] at h1
  omega
 have hsz2 : (arrOf st).size = vs.length := by rw [hp.size_eq, Array.size_zip, hsz, List.size_toArray, Nat.min_self]
 have hout : (if b then ((arrOf st).map (·.2)).reverse else (arrOf st).map (·.2)).size = vs.length := by
  cases b with
  | false => simp only [Bool.false_eq_true, if_false, Array.size_map]; exact hsz2
  | true => simp only [if_true, Array.size_reverse, Array.size_map]; exact hsz2
 have s1 := Heap.SameBut.update s.heap kS (Obj.mapSeq fun _ => (#[] : Array Value))
 have na1 : (s.heap.update kS (Obj.mapSeq fun _ => (#[] : Array Value))).get? a = some (seqObj "list" #[] e1) := (s1.2 a hka.symm).trans na
 have s2 := Heap.SameBut.update (s.heap.update kS (Obj.mapSeq fun _ => (#[] : Array Value))) a (Obj.mapSeq fun _ => if b then ((arrOf st).map (·.2)).reverse else (arrOf st).map (·.2))
 have key : ∀ g : Array Value -> Array Value, ∃ c2, ((s.heap.update kS (Obj.mapSeq fun _ => (#[] : Array Value))).update a (Obj.mapSeq g)).get? a = some (seqObj "list" (g #[]) c2) := fun g => ⟨_, get?_update_seq na1 g⟩
 obtain ⟨c2, hc2⟩ := key fun _ => if b then ((arrOf st).map (·.2)).reverse else (arrOf st).map (·.2)
 unfold ksk_tail
 try dsimp only
 refine wpAny_bind (listUpdate_at nk rfl ?_ (by rw [hsz, sizeLine_eq]; omega) (Nat.zero_le _))
 refine wpAny_bind (wpAny_letGo ?_)
 refine wpAny_bind (seqEpoch_at na1 rfl ?_)
 refine wpAny_bind (listUpdate_at na1 rfl ?_ (Nat.zero_le _) (Nat.le_trans (Nat.le_of_eq hout) (by rw [sizeLine_eq]; omega)))
 rw [hfl]
 simp only [bne_self_eq_false, Bool.false_eq_true, if_false]
 exact wpAny_pure (h _ _ c2 (up a { s with heap := s.heap.update kS (Obj.mapSeq fun _ => (#[] : Array Value)) } _ (.inr rfl) s2 (up kS s _ (.inl rfl) s1 j)) hc2 (ksk_outSt hk hp hs hst))
theorem Y4 (up : xM J kS a) (j : J s) (nk : s.heap.get? kS = some (seqObj "list" keys e)) (na : s.heap.get? a = some (seqObj "list" #[] e1)) (hka : kS ≠ a)
  (hk : IntsAre keys.toList kz) (hlen : kz.length = vs.length) (hZ : vs.length <= sizeLine)
  (h : ∀ s' out c, J s' -> s'.heap.get? a = some (seqObj "list" out c) -> KskOutSt b kz vs out.toList -> P (.done (.ret .none)) s') :
  wpAny (model prog w) A (ksk_end a b vs.toArray e1 (.ref kS) keys) P E s := by
 have hZ2 := hZ
 rw [sizeLine_eq] at hZ2
 have hsz : keys.size = vs.length := by
  have h1 := hk.length
  rw [Array.length_toList] at h1
  omega
 have hzs : (keys.zip vs.toArray).size = vs.length := by rw [Array.size_zip, hsz, List.size_toArray, Nat.min_self]
 have step : ∀ t : Sem PySem.Fin, wpAny (model prog w) A t P E s -> wpAny (model prog w) A (if b = true then (do let _ <- rule "list.sort.reverse"; t) else t) P E s := by
  intro t ht
  split
  ·exact wpAny_bind (wpAny_rule ht)
  ·exact ht
 have hstart : (if b = true then (keys.zip vs.toArray).reverse else keys.zip vs.toArray).Perm (keys.zip vs.toArray) := by
  cases b with
  | false => exact Array.Perm.refl _
  | true => exact Array.perm_iff_toList_perm.mpr (by rw [if_pos rfl, Array.toList_reverse]; exact List.reverse_perm _)
 unfold ksk_end
 try dsimp only
 refine step _ ?_
 by_cases h2 : vs.toArray.size < 2
 ·rw [if_pos h2, if_pos h2]
  refine wpAny_bind (wpAny_pure ?_)
  rw [StateT.run_pure]
  refine wpAny_bind (wpAny_pure ?_)
  try dsimp only
  refine QJ (st := SortSt.mk' general' (if b = true then (keys.zip vs.toArray).reverse else keys.zip vs.toArray) #[] 7 none) up j nk na hka hk hlen hZ hstart ?_ rfl (Stable.refl _) h
  intro i j hij hj
  have hj2 : j < (if b = true then (keys.zip vs.toArray).reverse else keys.zip vs.toArray).size := hj
  rw [hstart.size_eq, hzs] at hj2
  rw [List.size_toArray] at h2
  have : i = j := by omega
  subst this
  exact Int.le_refl _
 ·rw [if_neg h2, if_neg h2]
  rw [List.size_toArray] at h2
  rw [ksk_kind hk (by rw [hsz]; omega)]
  refine wpAny_bind (wpAny_pure ?_)
  have hss : (if b = true then (keys.zip vs.toArray).reverse else keys.zip vs.toArray).size = vs.length := by rw [hstart.size_eq, hzs]
  refine wpAny_bind (wpAny_mono (wpS_sortRunsSt (κ := intKind) (a₀ := if b = true then (keys.zip vs.toArray).reverse else keys.zip vs.toArray)
   (st := SortSt.mk' oneType' (if b = true then (keys.zip vs.toArray).reverse else keys.zip vs.toArray) #[] 7 none)
   (Q := fun _ st' => (arrOf st').Perm (keys.zip vs.toArray) /\ failedOf st' = none /\ SortedTo (arrOf st') (arrOf st').size /\
    Stable intKind (arrOf st') (if b = true then (keys.zip vs.toArray).reverse else keys.zip vs.toArray))
   intKind_oneLt ((ksk_keysOfInt (ksk_intKeys hk)).perm hstart) ⟨Array.Perm.refl _, rfl, rfl⟩ rfl (Stable.refl _) (by rw [hss]; omega)
   fun st' a1 a2 a3 a4 => ⟨a1.trans hstart, a2, by rw [a1.size_eq]; exact sortedTo_of_int a3, a4⟩) ?_ fun _ _ e => e)
  rintro ⟨⟨⟩, st'⟩ s' ⟨rfl, hp, hf, hs, hst⟩
  try dsimp only
  exact QJ up j nk na hka hk hlen hZ hp hs hf hst h
noncomputable def V3 (prog : Program) (w : World) (A : Around) (J : Shared -> Prop) (kS a : Addr) (f : Value) (vs : List Value) (kz : List Int) : Prop := ∀ (i : Nat) (v : Value) (k : Int), vs[i]? = some v -> kz[i]? = some k -> ∀ (s' : Shared) (o1 o2 : Obj), J s' -> s'.heap.get? kS = some o1 -> s'.heap.get? a = some o2 -> (∀ v, o1.data ≠ .cell v) -> (∀ v, o2.data ≠ .cell v) ->
 wpAny (model prog w) A (call f [v]) (fun u s'' => (∃ t, u = .int k t) /\ J s'' /\ s''.heap.get? kS = some o1 /\ s''.heap.get? a = some o2) (fun _ _ => False) s'
theorem ZU (up : xM J kS a) (j : J s) (nk : s.heap.get? kS = some (seqObj "list" #[] 0)) (na : s.heap.get? a = some (seqObj "list" #[] e1)) (hka : kS ≠ a)
  (hlen : kz.length = vs.length) (hZ : vs.length <= sizeLine) (turn : V3 prog w A J kS a f vs kz)
  (h : ∀ s' out c, J s' -> s'.heap.get? a = some (seqObj "list" out c) -> KskOutSt b kz vs out.toList -> P (.done (.ret .none)) s') :
  wpAny (model prog w) A (ksk_rest a f b vs.toArray e1 (.ref kS)) P E s := by
 have hZ2 := hZ
 rw [sizeLine_eq] at hZ2
 unfold ksk_rest
 refine wpAny_bind (wpAny_rule ?_)
 first
  | rw [List.forIn_toArray]
  | (rw [<- Array.forIn_toList]; simp only [List.toList_toArray])
  | rw [<- Array.forIn_toList]
 refine wpAny_bind (ksk_fold (fun i s' => ∃ kA e, J s' /\ s'.heap.get? kS = some (seqObj "list" kA e) /\ s'.heap.get? a = some (seqObj "list" #[] e1) /\ IntsAre kA.toList (kz.take i)) vs 0 s
  ⟨#[], 0, j, nk, na, by simpa using IntsAre.nil⟩ ?step ?done)
 case step =>
  rintro j x s' hx ⟨kA, e, J', nk, na, hk⟩
  simp only [Nat.zero_add] at hk ⊢
  have hj : j < vs.length := (List.getElem?_eq_some_iff.mp hx).1
  obtain ⟨k, hkj⟩ : ∃ k, kz[j]? = some k := ⟨_, List.getElem?_eq_getElem (by omega)⟩
  have hz : kA.size <= vs.length := by
   have h1 := hk.length
   rw [Array.length_toList, List.length_take] at h1
   omega
  refine wpAny_bind (wpAny_attempt (wpAny_mono (turn j x k hx hkj s' _ _ J' nk na (fun v z => nomatch z) fun v z => nomatch z) (fun v s'' he => ?_) fun _ _ hF => hF.elim))
  obtain ⟨⟨t2, rfl⟩, J2, nk2, na2⟩ := he
  try dsimp only
  have s1 := Heap.SameBut.update s''.heap kS (Obj.mapSeq (·.push (.int k t2)))
  obtain ⟨c2, hc2⟩ : ∃ c2, (s''.heap.update kS (Obj.mapSeq (·.push (.int k t2)))).get? kS = some (seqObj "list" (kA.push (.int k t2)) c2) := ⟨_, get?_update_seq nk2 (·.push (.int k t2))⟩
  have ek : kz.take (j + 1) = kz.take j ++ [k] := by rw [List.take_add_one, hkj]; simp
  have ea : (kA.push (Value.int k t2)).toList = kA.toList ++ [Value.int k t2] := by simp
  refine wpAny_bind (listUpdate_at nk2 rfl ?_ (by rw [sizeLine_eq]; omega) (Nat.le_trans (Nat.le_of_eq (Array.size_push ..)) (by rw [sizeLine_eq]; omega)))
  exact wpAny_pure ⟨rfl, kA.push (.int k t2), c2, up kS s'' _ (.inl rfl) s1 J2, hc2, (s1.2 a hka.symm).trans na2, by rw [ea, ek]; exact ksk_snoc hk⟩
 case done =>
  rintro s' ⟨kA, e, J', nk, na, hk⟩
  have hk' : IntsAre kA.toList kz := by
   have e3 : kz.take (0 + vs.length) = kz := List.take_of_length_le (by omega)
   rw [e3] at hk
   exact hk
  try dsimp only
  refine wpAny_bind (listItems_at nk rfl ?_)
  exact Y4 up J' nk na hka hk' hlen hZ h
theorem Zh {n : Nat} (ho : s.heap.get? a = some (seqObj "list" vs.toArray n)) (up : xM J (s.heap.objs.size + 1) a) (j0 : ∀ h', (∀ b o, b ≠ a -> s.heap.get? b = some o -> h'.get? b = some o) -> J { s with heap := h' })
  (hlen : kz.length = vs.length) (hZ : vs.length <= sizeLine) (turn : V3 prog w A J (s.heap.objs.size + 1) a f vs kz)
  (h : ∀ s' out c, J s' -> s'.heap.get? a = some (seqObj "list" out c) -> KskOutSt b kz vs out.toList -> P (.done (.ret .none)) s') :
  wpAny (model prog w) A (ksk_tree a f b) P E s := by
 have hZ2 := hZ
 rw [sizeLine_eq] at hZ2
 have ha : a < s.heap.objs.size := Heap.lt_size ho
 have s1 := Heap.SameBut.update s.heap a (Obj.mapSeq fun _ => (#[] : Array Value))
 obtain ⟨e1, ho1⟩ : ∃ e1, (s.heap.update a (Obj.mapSeq fun _ => (#[] : Array Value))).get? a = some (seqObj "list" #[] e1) := ⟨_, get?_update_seq ho fun _ => #[]⟩
 have hkS : ((s.heap.update a (Obj.mapSeq fun _ => (#[] : Array Value))).push (seqObj "tuple" vs.toArray 0)).objs.size = s.heap.objs.size + 1 := by rw [size_push', Heap.size_update]
 unfold ksk_tree
 refine wpAny_bind (listItems_at ho rfl ?_)
 refine wpAny_bind (listUpdate_at ho rfl ?_ (by rw [List.size_toArray, sizeLine_eq]; omega) (Nat.zero_le _))
 refine wpAny_bind (seqEpoch_at ho1 rfl ?_)
 refine wpAny_bind (wpAny_newTuple ?_ (by show vs.length <= _; rw [sizeLine_eq]; omega))
 refine wpAny_bind (wpAny_newList ?_ (Nat.zero_le _))
 refine wpAny_holding ?_
 show wpAny _ _ (ksk_rest a f b vs.toArray e1 (.ref ((s.heap.update a (Obj.mapSeq fun _ => (#[] : Array Value))).push (seqObj "tuple" vs.toArray 0)).objs.size)) _ _ _
 rw [hkS]
 refine ZU (s := { s with heap := ((s.heap.update a (Obj.mapSeq fun _ => (#[] : Array Value))).push (seqObj "tuple" vs.toArray 0)).push (seqObj "list" #[] 0) }) (kS := s.heap.objs.size + 1)
  up (j0 _ fun b o hb e => ?_) ?_ ?_ (Nat.ne_of_gt (Nat.lt_succ_of_lt ha)) hlen hZ turn h
 ·exact Heap.get?_push_of_some _ (Heap.get?_push_of_some _ ((s1.2 b hb).trans e))
 ·rw [<- hkS]; exact Heap.get?_push_size _ rfl
 ·exact Heap.get?_push_of_some _ (Heap.get?_push_of_some _ ho1)
end
section
variable {prog : Program} {w : World} {A : Around} {E : Value -> Shared -> Prop} {s : Shared} {kz : List Int} {Q : Value -> Shared -> Prop} {J : Addr -> Addr -> Shared -> Prop} {q r : Addr} {n : Nat} {t u v : Tok}
theorem VM (hh : A.handled = none) (hr : IsRange s.heap r 0 n 1 t u v) (hn : n < 1000000) (hlen : kz.length = n)
  (j0 : ∀ (s' : Shared) (kS a : Addr), kS ≠ a -> s.heap.objs.size <= a -> s.heap.objs.size <= kS -> (∃ h' tk, s' = { s with heap := h', toks := tk } /\ ∀ b o, b ≠ a -> s.heap.get? b = some o -> h'.get? b = some o) -> J kS a s')
  (up : ∀ kS a, kS ≠ a -> s.heap.objs.size <= a -> s.heap.objs.size <= kS -> xM (J kS a) kS a)
  (turn : ∀ kS a vs, kS ≠ a -> s.heap.objs.size <= a -> s.heap.objs.size <= kS -> ItemsOf (fun i v => ∃ t, v = .int (0 + i * 1) t) (List.toArray vs) n -> V3 prog w A.in1.in1 (J kS a) kS a (.ref q) vs kz)
  (h : ∀ (kS a : Addr) (s' : Shared) (vs : List Value) out c, kS ≠ a -> s.heap.objs.size <= a -> J kS a s' -> s'.heap.get? a = some (seqObj "list" out c) -> ItemsOf (fun i v => ∃ t, v = .int (0 + i * 1) t) (List.toArray vs) n -> KskOutSt false kz vs out.toList -> Q (.ref a) s') :
  wpAny (model prog w) A (call (.builtin "sorted") [.ref r] [(Str.ofString "key", .ref q)]) Q E s := by
 refine call_function_entry_kw kind_sorted plain_sorted entry_sorted (ksk_s1 _ _) ?_
 unfold Builtin.«sorted»
 refine wpAny_bind (m := checkCount "sorted" 1 1 _) (wpAny_pure ?_)
 have hsm := PySem.small_one (a := 0) (b := n) (by omega) (by omega) (by omega) (by omega)
 refine wpAny_bind (xQ (A := A.in1) hh hr hsm (n := n) (by rw [PySem.rangeSize_one]; split <;> omega) (by omega) fun h1 tk acc hk hlt hi => ?_)
 have hl : acc.toList.length = n := by rw [Array.length_toList]; exact hi.1
 have hzz : acc.toList.length <= sizeLine := by rw [hl, sizeLine_eq]; omega
 refine wpAny_bind (wpAny_newList ?_ hzz)
 have hge : s.heap.objs.size <= h1.objs.size := Nat.le_of_lt hlt
 have hoL : (h1.push (seqObj "list" acc.toList.toArray 0)).get? h1.objs.size = some (seqObj "list" acc.toList.toArray 0) := Heap.get?_push_size _ rfl
 have hi' : ItemsOf (fun i v => ∃ t, v = .int (0 + i * 1) t) (List.toArray acc.toList) n := by rw [Array.toArray_toList]; exact hi
 have hsp : (h1.push (seqObj "list" acc.toList.toArray 0)).objs.size = h1.objs.size + 1 := size_push' ..
 refine wpAny_bind (wpAny_holding (wpAny_call_entry_kw slot_list_sort ⟨_, hoL, rfl⟩ entry_list_sort ?body (ksk_l1 _ _)))
 have hne : (h1.push (seqObj "list" acc.toList.toArray 0)).objs.size + 1 ≠ h1.objs.size := by rw [hsp]; omega
 have hle : s.heap.objs.size <= (h1.push (seqObj "list" acc.toList.toArray 0)).objs.size + 1 := by rw [hsp]; omega
 show wpAny (model prog w) A.in1.in1 (Builtin.«list.sort» ⟨[.ref h1.objs.size], [(Str.ofString "key", .ref q)]⟩) _ _ _
 rw [ksk_t1]
 refine Zh (s := { s with heap := h1.push (seqObj "list" acc.toList.toArray 0), toks := tk }) (kz := kz) (vs := acc.toList) (J := J ((h1.push (seqObj "list" acc.toList.toArray 0)).objs.size + 1) h1.objs.size) hoL (up _ _ hne hge hle)
  (fun h' k => j0 _ _ _ hne hge hle ⟨h', tk, rfl, fun b o hb e => k b o hb (Heap.get?_push_of_some _ (hk b o e))⟩) (by rw [hlen, hl]) hzz (turn _ _ _ hne hge hle hi') fun s' out c j hS ko => ⟨_, rfl, ?_⟩
 exact wpAny_pure ⟨_, rfl, h _ _ s' _ out c hne hge j hS hi' ko⟩
end
noncomputable def Wq (kz : List Int) (out : List Nat) : Prop := ∃ ps : List (Int × Nat), out = ps.map Prod.snd /\ ps.Pairwise (fun p q => p.1 <= q.1) /\ ∀ c, ps.filter (fun p => p.1 == c) = (kz.zip (List.range kz.length)).filter (fun p => p.1 == c)
theorem Z6 {kz : List Int} {vs out : List Value} (hi : ItemsOf (fun i v => ∃ t, v = .int (0 + i * 1) t) (List.toArray vs) kz.length) (k : KskOutSt false kz vs out) : ∃ ns : List Nat, Wq kz ns /\ Vals (ns.map fun (i : Nat) => V.int i) out /\ ns.length = kz.length := by
 obtain ⟨ps, hp, ho, hs, hst⟩ := k
 have len : vs.length = kz.length := by simpa using hi.1
 have at_ : ∀ (j : Nat) (v : Value), vs[j]? = some v -> ∃ t, v = .int (j : Int) t := fun j v e => by
  obtain ⟨t, h⟩ := hi.2 j v (by simpa using e)
  exact ⟨t, by rw [h]; congr 1; omega⟩
 have all : ∀ v ∈ vs, ∃ (j : Nat) (t : Tok), v = .int (j : Int) t := fun v hv => by
  obtain ⟨j, hj⟩ := List.getElem?_of_mem hv
  obtain ⟨t, h⟩ := at_ j v hj
  exact ⟨j, t, h⟩
 have er : vs.map (fun v => (numOf v).toNat) = List.range kz.length := by
  refine List.ext_getElem? fun j => ?_
  rw [List.getElem?_map]
  by_cases hj : j < kz.length
  ·rw [List.getElem?_range hj, List.getElem?_eq_getElem (by omega)]
   obtain ⟨t, h⟩ := at_ j _ (List.getElem?_eq_getElem (by omega))
   rw [h]
   rfl
  ·rw [List.getElem?_eq_none (by omega), List.getElem?_eq_none (by rw [List.length_range]; omega)]
   rfl
 have ez : (kz.zip vs).map (fun p => (p.1, (numOf p.2).toNat)) = kz.zip (List.range kz.length) := by
  rw [<- er, List.zip_map_right]
  exact List.map_congr_left fun _ _ => rfl
 refine ⟨ps.map fun p => (numOf p.2).toNat, ⟨ps.map fun p => (p.1, (numOf p.2).toNat), ?_, ?_, fun c => ?_⟩, ?_, ?_⟩
 ·rw [List.map_map]; rfl
 ·rw [List.pairwise_map]
  exact hs.imp fun {a b} h => by simpa using h
 ·rw [<- ez, List.filter_map, List.filter_map]
  have e : ∀ l : List (Int × Value), List.filter ((fun p : Int × Nat => p.1 == c) ∘ fun p : Int × Value => (p.1, (numOf p.2).toNat)) l = l.filter fun p => p.1 == c := fun l => List.filter_congr fun _ _ => rfl
  rw [e, e, hst c]
 ·have hm : ∀ p ∈ ps, ∃ (j : Nat) (t : Tok), p.2 = .int (j : Int) t := fun p hp' => all _ (List.of_mem_zip (hp.mem_iff.mp hp')).2
  rw [ho]
  clear hp ho hs hst
  induction ps with
  | nil => exact .nil
  | cons p r ih =>
   rw [List.map_cons, List.map_cons, List.map_cons]
   refine .cons ?_ (ih fun q hq => hm q (.tail _ hq))
   obtain ⟨j, t, e⟩ := hm p (.head _)
   rw [e]
   exact ⟨t, rfl⟩
 ·rw [List.length_map, hp.length_eq, List.length_zip, len, Nat.min_self]
section
variable {X : Cx} {pins : List (Addr × Obj)} {σ : St} {H : Hp} {s : Shared} {c P : Addr} {params : Arguments} {body : Expr} {ls : Scope} {lpos : Pos} {E : Value -> Shared -> Prop} {Q : Value -> Shared -> Prop} {y : Str}
theorem Ve (I : Inv X pins σ H s) (BL : qU X.mg X.base c P) (hc : X.env.code = .ref c) (hP : H P = some (.tbl #[])) (L : w9 X.env.scope ls y) (hdef : defaultsOf params X.env = ([], []))
  (h : ∀ (s1 : Shared) (more : Array Value) (f c' : Addr), Inv X pins σ (upd H P (.tbl more)) s1 -> QL s1 (upd H P (.tbl more)) (frs X.stack) f c' (X.env.qual ++ "<lambda>") params body ls (qi X.env.cells ls.names []) -> Q (.ref f) s1) :
  wpAny (model X.prog X.w) X.A (eval (.Lambda params body ls lpos) X.env) Q E s := by
 have hPo : s.heap.get? P = some (PySem.W.tabObj #[]) := I.hok P _ hP
 have hg := I.mod.glob.keeps I.bk
 obtain ⟨bm, ob, b1, b2, b3, b4, b5, b6⟩ := BL.bm
 have nP : ∀ b o, X.base.get? b = some o -> b ≠ P := fun b o e z => by
  have := (I.bs b o e).2
  rw [z, hP] at this
  cases this
 have hgP : mainGlobals ≠ P := by
  obtain ⟨o, es, ep, e, _⟩ := I.mod.glob
  exact nP _ o e
 have hbG : bm ≠ mainGlobals := fun z => by
  obtain ⟨o, es, ep, e, hd, _⟩ := I.mod.glob
  rw [z, e] at b3
  cases b3
  rw [hd] at b6
  cases b6
 have hclos : closureFor ls X.env = pure (qi X.env.cells ls.names []) := zv fun y hy e => I.ok.has _ (.inl (L.free y hy e))
 refine PySem.W.kla_eval hdef (PySem.W.kla_makeFunction (mg := X.mg) (P := P) hclos I.ok.glob hg hc (BL.code.keeps I.bk) hPo trivial rfl hgP ⟨bm, ob, b1, b2, hbG, nP bm ob b3, I.bk bm ob b3, b4, b5, b6⟩ fun c' ctv h' tk hx hge hlt hrec htb => ?_)
 have I1 := jj (tk := tk) I hP hx htb
 have hPlt : P < s.heap.objs.size := Heap.lt_size hPo
 obtain ⟨c2, oc, vs, t, e2, hoc, hd, hv⟩ := hrec
 cases e2
 have cN : upd H P (.tbl (#[] ++ #[rawInt lpos.line, rawInt lpos.col, .ref c'])) c' = none := by
  rw [qe (Nat.ne_of_gt (Nat.lt_of_lt_of_le hPlt hge))]
  exact I.hok.fresh hge
 have I2 := I1.kept (h' := h'.push (PySem.W.kla_obj "<lambda>" (X.env.qual ++ "<lambda>") params body ls (qi X.env.cells ls.names []) ((X.mg "__name__").getD .none) c' ctv)) (t' := tk) fun b o e => Heap.get?_push_of_some _ e
 have notF : ∀ b, s.heap.objs.size <= b -> b ∉ frs X.stack := fun b hb z => by
  rcases List.mem_cons.mp (I.vQ b z) with z | z
  ·exact absurd (Nat.lt_of_lt_of_le I.lt hb) (by rw [z]; exact Nat.lt_irrefl _)
  ·exact I.YF hb z
 exact h _ _ _ c' I2 ⟨⟨_, ctv, Heap.get?_push_size _ rfl⟩, I1.hok.fresh (Nat.le_refl _), notF _ (Nat.le_trans hge (Nat.le_of_lt hlt)), ⟨oc, vs, t, Heap.get?_push_of_some _ hoc, hd, hv⟩, cN, notF _ hge⟩
end
noncomputable def tSk (P : Addr) (ta tb : TE) : TE := fun σ H Q => ta σ H fun v H1 => ∃ (q : Addr) (n : Nat) (kz : List Int), v = .ref q /\ H1 q = some (.rng 0 n) /\ n < 1000000 /\ kz.length = n /\ H1 P = some (.tbl #[]) /\
 (∀ more H2 i k, qg (upd H1 P (.tbl more)) H2 -> kz[i]? = some k -> tb (σ ++ [some (.int (i : Nat))]) H2 fun v H3 => v = .int k /\ qg H2 H3) /\
 ∀ more H2 p (out : List Nat), qg (upd H1 P (.tbl more)) H2 -> H2 p = none -> Wq kz out -> Q (.ref p) (upd H2 p (.lst (out.map fun (i : Nat) => V.int i)))
section
variable {X : Cx} {c P : Addr} {params : Arguments} {body e : Expr} {ls : Scope} {lpos p pos kpos : Pos} {ta tb : TE} {k : Nat} {y : Str}
theorem Qm (BL : qU X.mg X.base c P) (hc : X.env.code = .ref c) (hst : X.stack = X.env :: X.outer) (hfr : X.env.frame = some X.env.locals) (L : w9 X.env.scope ls y) (hy : y ∉ X.N) (hdef : defaultsOf params X.env = ([], [])) (hr : qZ (k + 3) X.A) (hcalm : X.calm = true)
  (hg : Gl X "sorted") (hm : X.mg "sorted" = none) (he : PE X e ta)
  (hbind : ∀ (c' : Addr) (clos : List (Str × Addr)) (pm ctv u : Value), bindArgs (PySem.W.kla_fn "<lambda>" (X.env.qual ++ "<lambda>") params body ls clos pm (.ref c') ctv) ⟨[u], []⟩ = pure [(y, u)])
  (hb : ∀ (f : Addr) (cd : Value) (s : Shared) (H : Hp), qZ k (X.A.in1.in1.deeper (vJ X (X.env.qual ++ "<lambda>") ls f cd s)) -> PE (zw X X.A.in1.in1 (X.env.qual ++ "<lambda>") ls y f cd s H) body tb)
  (hs0 : autoParam (starEach [e] X.env = (false, eval e X.env) :: starEach [] X.env) qj._auto_1) (hs : autoParam (backTo pos (starEach [e] X.env) = (false, eval e X.env) :: backTo pos (starEach [] X.env)) qj._auto_1) (hpl : autoParam ((backTo pos (starEach [e] X.env)).any (·.1) = false) qj._auto_1) :
  PE X (.Call (.Name "sorted" p) [e] [⟨some "key", .Lambda params body ls lpos, kpos⟩] pos) (tSk P ta tb) := by
 intro pins s σ H Q I h
 refine wpAny_Call_Name_kw (z6 I hg hm Ir.uM ?_)
 have pa := (vA he wH hs0) pos pins s σ H (fun vs H1 => match vs with
  | [v] => ∃ (q : Addr) (n : Nat) (kz : List Int), v = .ref q /\ H1 q = some (.rng 0 n) /\ n < 1000000 /\ kz.length = n /\ H1 P = some (.tbl #[]) /\
   (∀ more H2 i k, qg (upd H1 P (.tbl more)) H2 -> kz[i]? = some k -> tb (σ ++ [some (.int (i : Nat))]) H2 fun v H3 => v = .int k /\ qg H2 H3) /\
   ∀ more H2 p (out : List Nat), qg (upd H1 P (.tbl more)) H2 -> H2 p = none -> Wq kz out -> Q (.ref p) (upd H2 p (.lst (out.map fun (i : Nat) => V.int i)))
  | _ => False) I h
 refine callWith_kw (thn pa fun us s1 ⟨vs, H1, I1, r1, q1⟩ => ?_) hs hpl
 match vs, r1, q1 with
 | [], _, q1 => exact q1.elim
 | _ :: _ :: _, _, q1 => exact q1.elim
 | [v], r1, q1 =>
  obtain ⟨q, n, kz, rfl, hq, hn, hlen, hP, hkey, hQ⟩ := q1
  rw [Vals.UW r1]
  refine kws_cons (Ve I1 BL hc hP L hdef fun s2 more f c' I2 la => kws_nil ?_)
  show wpAny _ _ (call (.builtin "sorted") [.ref q] [(Str.ofString "key", .ref f)]) _ _ s2
  generalize hH2 : upd H1 P (.tbl more) = H2 at I2 la
  have qP : q ≠ P := fun z => by rw [z, hP] at hq; cases hq
  have hq2 : H2 q = some (.rng 0 n) := by rw [<- hH2, qe qP]; exact hq
  obtain ⟨t, u, v, hrng⟩ := I2.hok q _ hq2
  have locF : X.env.locals ∈ frs X.stack := by rw [hst]; unfold frs; rw [List.filterMap_cons, hfr]; exact List.mem_cons_self
  obtain ⟨⟨pm, ctv, hfo⟩, fN, fF, ⟨oc, cvs, ct, hco, hcd, hcv⟩, cN, cF⟩ := la
  have fsF : ∀ b, b ∉ frs X.stack -> b ∉ X.fs := fun b hb z => hb (jc I2 z)
  have I2p : Inv X (pins ++ [(f, PySem.W.kla_obj "<lambda>" (X.env.qual ++ "<lambda>") params body ls (qi X.env.cells ls.names []) pm c' ctv), (c', oc)]) σ H2 s2 := I2.yC fun p hp => by
   rcases List.mem_append.mp hp with hp | hp
   ·exact I2.pin p (List.mem_append_right _ hp)
   ·rcases List.mem_cons.mp hp with rfl | hp
    ·exact ⟨hfo, fN, fun z => fF (by rw [show f = _ from z]; exact locF), fsF _ fF, fun v z => nomatch z⟩
    ·rw [List.mem_singleton.mp hp]
     exact ⟨hco, cN, fun z => cF (by rw [show c' = _ from z]; exact locF), fsF _ cF, fun v z => by rw [show oc.data = _ from z] at hcd; cases hcd⟩
  generalize hpn : pins ++ [(f, PySem.W.kla_obj "<lambda>" (X.env.qual ++ "<lambda>") params body ls (qi X.env.cells ls.names []) pm c' ctv), (c', oc)] = pins1 at I2p
  have mem1 : ∀ p, p = (f, PySem.W.kla_obj "<lambda>" (X.env.qual ++ "<lambda>") params body ls (qi X.env.cells ls.names []) pm c' ctv) \/ p = (c', oc) -> p ∈ pins1 := fun p hp => by
   rw [<- hpn]
   exact List.mem_append_right _ (by rcases hp with rfl | rfl <;> simp)
  have fresh : ∀ b, s2.heap.objs.size <= b -> wJ X pins1 H2 b := fun b hb => I2p.QC hb (I2.hok.fresh hb)
  have turned : ∀ {H' : Hp} {s' : Shared} {b : Addr} {h' : Heap} {tk : Nat}, Inv X pins1 σ H' s' -> wJ X pins1 H' b -> (∀ d o, d ≠ b -> s'.heap.get? d = some o -> h'.get? d = some o) -> Inv X pins1 σ H' { s' with heap := h', toks := tk } := fun {H' s' b h' tk} J F k => J.turned k F.1 F.2.1 F.2.2.2.1 F.2.2.2.2.1 F.2.2.2.2.2
  refine VM (kz := kz) (n := n) (J := fun kS a s' => ∃ H', Inv X pins1 σ H' s' /\ qg H2 H' /\ wJ X pins1 H' kS /\ wJ X pins1 H' a) (I2.ok.hd hcalm) hrng hn hlen ?j0 ?up ?turn ?fin
  case j0 =>
   rintro s' kS a hne hga hgk ⟨h', tk, rfl, k⟩
   exact ⟨H2, turned I2p (fresh a hga) k, fun _ _ e => e, fresh kS hgk, fresh a hga⟩
  case up =>
   rintro kS a hne hga hgk d s' h' hd sb ⟨H', J, sm, fk, fa⟩
   refine ⟨H', ?_, sm, fk, fa⟩
   rcases hd with rfl | rfl
   ·exact turned (tk := s'.toks) J fk fun b o hb e => (sb.2 b hb).trans e
   ·exact turned (tk := s'.toks) J fa fun b o hb e => (sb.2 b hb).trans e
  case turn =>
   rintro kS a vs hne hga hgk hi i v k hv hk s' o1 o2 ⟨H', J, sm, fk, fa⟩ e1 e2 d1 d2
   have J2 : Inv X (pins1 ++ [(kS, o1), (a, o2)]) σ H' s' := J.yC fun p hp => by
    rcases List.mem_append.mp hp with hp | hp
    ·exact J.pin p (List.mem_append_right _ hp)
    ·rcases List.mem_cons.mp hp with rfl | hp
     ·exact ⟨e1, fk.1, fk.2.1, fk.2.2.1, d1⟩
     ·rw [List.mem_singleton.mp hp]
      exact ⟨e2, fa.1, fa.2.1, fa.2.2.1, d2⟩
   have pf := J.pin _ (List.mem_append_right _ (mem1 _ (.inl rfl)))
   have pc := J.pin _ (List.mem_append_right _ (mem1 _ (.inr rfl)))
   obtain ⟨t', ev⟩ : ∃ t', v = .int ((i : Nat) : Int) t' := by
    obtain ⟨t', z⟩ := hi.2 i v (by simpa using hv)
    exact ⟨t', by rw [z]; congr 1; omega⟩
   refine wpAny_mono (Vl (A := X.A.in1.in1) (qual := X.env.qual ++ "<lambda>") (y := y) (v := .int (i : Nat)) (tb := tb) (Q := fun v H3 => v = .int k /\ qg H' H3) L hy J2 (I2.ok.hd hcalm) hr.depth rfl
    ⟨⟨pm, ctv, pf.1⟩, pf.2.1, fF, ⟨oc, cvs, ct, pc.1, hcd, hcv⟩, pc.2.1, cF⟩ (fun pm ctv => hbind c' _ pm ctv _) (hb f (.ref c') s' H' (hr.in1.in1.deeper _)) ⟨t', ev⟩ (hkey more H' i k (by rw [hH2]; exact sm) hk)) (fun u s'' ⟨vv, H3, J3, ru, ek, sm3⟩ => ?_) fun _ _ z => z
   subst ek
   have p1 := J3.pin (kS, o1) (List.mem_append_right _ (List.mem_append_right _ (.head _)))
   have p2 := J3.pin (a, o2) (List.mem_append_right _ (List.mem_append_right _ (.tail _ (.head _))))
   exact ⟨ru, ⟨H3, J3.wm, sm.trans sm3, ⟨p1.2.1, fk.2⟩, ⟨p2.2.1, fa.2⟩⟩, p1.1, p2.1⟩
  case fin =>
   rintro kS a s' vs out d hne hga ⟨H', J, sm, fk, fa⟩ ho hi ko
   rw [<- hlen] at hi
   obtain ⟨ns, st, hv, hl⟩ := Z6 hi ko
   have hz : (ns.map fun (i : Nat) => V.int i).length <= sizeLine := by rw [List.length_map, hl, hlen, sizeLine_eq]; omega
   have J2 := Vp (xs := ns.map fun (i : Nat) => V.int i) (its := out.toList) (n := d) J fa hz hv (by rw [Array.toArray_toList]; exact ho)
   rw [<- hpn] at J2
   exact ⟨.ref a, _, J2.wm, rfl, hQ more H' a ns (by rw [hH2]; exact sm) fa.1 st⟩
end
end L2
set_option maxHeartbeats 2000000
namespace L2.Ir
open PySem PySem.Spec PyProof.Rows
section
variable (mg : Str -> Option Value) (K : PySem.W.Frag) (Gl : Addr -> Prop) (κ : List Addr) (H : Hp)
noncomputable def ItR : V -> Itm -> Prop
 | w, .v d k => Rp mg K (fun a => a ∉ κ /\ (k = true -> Gl a)) H w d
 | w, .c n => ∃ p, κ[n]? = some p /\ w = .ref p
noncomputable def Its : List V -> List Itm -> Prop
 | [], [] => True
 | w :: vs, x :: xs => ItR mg K Gl κ H w x /\ Its vs xs
 | _, _ => False
noncomputable def jG (p : Addr) : Cell -> Prop
 | .lst xs => ∃ vs, H p = some (.lst vs) /\ Its mg K Gl κ H vs xs
 | .ins c ns xs => ∃ C dx vs, mg c = some (.ref C) /\ H p = some (.ins C dx (ns.zip vs)) /\ ns.length = vs.length /\ Its mg K Gl κ H vs xs
structure Mem (μ : List Cell) : Prop where
 nd : κ.Nodup
 len : κ.length = μ.length
 cel : ∀ (n : Nat) (p : Addr) (x : Cell), κ[n]? = some p -> μ[n]? = some x -> jG mg K Gl κ H p x
 gl : ∀ a : Addr, H a = none -> Gl a
structure MR (σ : St) (m : MS) : Prop where
 mem : Mem mg K Gl κ H m.μ
 len : σ.length = m.s.length
 sl : ∀ (i : Nat) (x : Itm), m.s[i]? = some (some x) -> ∃ w, σ[i]? = some (some w) /\ ItR mg K Gl κ H w x
end
structure Ext (κ : List Addr) (H : Hp) (κ' : List Addr) (H' : Hp) : Prop where
 pre : ∀ (n : Nat) (p : Addr), κ[n]? = some p -> κ'[n]? = some p
 old : ∀ p ∈ κ', p ∈ κ \/ H p = none
 keep : ∀ (a : Addr) (o : HO), H a = some o -> a ∉ κ -> H' a = some o
section
variable {mg : Str -> Option Value} {K : PySem.W.Frag} {Gl : Addr -> Prop} {κ κ' κ1 : List Addr} {H H' H1 : Hp} {μ : List Cell} {σ : St} {m : MS} {w : V} {x : Itm}
theorem Ext.same (s : qg H H') : Ext κ H κ H' := ⟨fun _ _ e => e, fun _ h => .inl h, fun a o e _ => s a o e⟩
theorem Ext.refl : Ext κ H κ H := Ext.same fun _ _ e => e
theorem Ext.trans (a : Ext κ H κ1 H1) (b : Ext κ1 H1 κ' H') : Ext κ H κ' H' := by
 refine ⟨fun n p e => b.pre n p (a.pre n p e), fun p h => ?_, fun c o e n => ?_⟩
 ·rcases b.old p h with h | h
  ·exact a.old p h
  ·by_cases c : p ∈ κ
   ·exact .inl c
   ·right
    cases e : H p with
    | none => rfl
    | some o =>
     have := a.keep p o e c
     rw [h] at this
     cases this
 ·refine b.keep c o (a.keep c o e n) fun z => ?_
  rcases a.old c z with q | q
  ·exact n q
  ·rw [e] at q
   cases q
theorem ItR.ext (e : Ext κ H κ' H') : ∀ {w : V} {x : Itm}, ItR mg K Gl κ H w x -> ItR mg K Gl κ' H' w x
 | w, .v d k, h => by
  refine Rp.mono (fun a g => ?_) d w (Rp.there _ _ h)
  obtain ⟨⟨g1, g2⟩, n⟩ := g
  refine ⟨⟨fun z => ?_, g2⟩, fun o q => e.keep a o q g1⟩
  rcases e.old a z with q | q
  ·exact g1 q
  ·exact n q
 | w, .c n, h => by
  obtain ⟨p, h1, h2⟩ := h
  exact ⟨p, e.pre n p h1, h2⟩
theorem Its.ext (e : Ext κ H κ' H') : ∀ {vs : List V} {xs : List Itm}, Its mg K Gl κ H vs xs -> Its mg K Gl κ' H' vs xs
 | [], [], _ => trivial
 | _ :: _, _ :: _, h => ⟨h.1.ext e, Its.ext e h.2⟩
 | [], _ :: _, h => h.elim
 | _ :: _, [], h => h.elim
theorem Its.len : ∀ {vs : List V} {xs : List Itm}, Its mg K Gl κ H vs xs -> vs.length = xs.length
 | [], [], _ => rfl
 | _ :: _, _ :: _, h => by rw [List.length_cons, List.length_cons, Its.len h.2]
 | [], _ :: _, h => h.elim
 | _ :: _, [], h => h.elim
theorem Its.get : ∀ {vs : List V} {xs : List Itm} {i : Nat} {x : Itm}, Its mg K Gl κ H vs xs -> xs[i]? = some x -> ∃ w, vs[i]? = some w /\ ItR mg K Gl κ H w x
 | [], [], _, _, _, e => by simp at e
 | w :: _, y :: _, 0, _, h, e => by simp at e; subst e; exact ⟨w, rfl, h.1⟩
 | _ :: _, _ :: _, i + 1, x, h, e => by
  obtain ⟨w, q1, q2⟩ := Its.get (i := i) (x := x) h.2 (by simpa using e)
  exact ⟨w, by simpa using q1, q2⟩
 | [], _ :: _, _, _, h, _ => h.elim
 | _ :: _, [], _, _, h, _ => h.elim
theorem Its.append : ∀ {vs us : List V} {xs ys : List Itm}, Its mg K Gl κ H vs xs -> Its mg K Gl κ H us ys -> Its mg K Gl κ H (vs ++ us) (xs ++ ys)
 | [], _, [], _, _, h => h
 | _ :: _, _, _ :: _, _, h, h2 => ⟨h.1, Its.append h.2 h2⟩
 | [], _, _ :: _, _, h, _ => h.elim
 | _ :: _, _, [], _, h, _ => h.elim
theorem Its.vals {k : Bool} : ∀ {vs : List V} {ds : List D}, qd mg K (fun a => a ∉ κ /\ (k = true -> Gl a)) H vs ds -> Its mg K Gl κ H vs (ds.map fun d => Itm.v d k)
 | _, _, .nil => trivial
 | _, _, .cons a b => ⟨a, Its.vals b⟩
theorem jG.some {p : Addr} {x : Cell} (h : jG mg K Gl κ H p x) : H p ≠ none := by
 cases x with
 | lst xs => obtain ⟨vs, e, _⟩ := h; rw [e]; exact fun z => nomatch z
 | ins c ns xs => obtain ⟨C, dx, vs, _, e, _⟩ := h; rw [e]; exact fun z => nomatch z
theorem Mem.at_ (M : Mem mg K Gl κ H μ) {p : Addr} (h : p ∈ κ) : H p ≠ none := by
 obtain ⟨n, hn, e⟩ := List.mem_iff_getElem.mp h
 have e1 : κ[n]? = .some p := by rw [List.getElem?_eq_getElem hn, e]
 have hm : n < μ.length := by rw [<- M.len]; exact hn
 exact (M.cel n p μ[n] e1 (List.getElem?_eq_getElem hm)).some
theorem jG.ext {p : Addr} {x : Cell} (e : Ext κ H κ' H') (hp : H' p = H p) (h : jG mg K Gl κ H p x) : jG mg K Gl κ' H' p x := by
 cases x with
 | lst xs => obtain ⟨vs, q, r⟩ := h; exact ⟨vs, hp.trans q, r.ext e⟩
 | ins c ns xs => obtain ⟨C, dx, vs, a, q, l, r⟩ := h; exact ⟨C, dx, vs, a, hp.trans q, l, r.ext e⟩
theorem Mem.more (M : Mem mg K Gl κ H μ) (s : qg H H') : Mem mg K Gl κ H' μ := by
 refine ⟨M.nd, M.len, fun n p x e1 e2 => ?_, fun a h => M.gl a (s.free h)⟩
 have q := M.cel n p x e1 e2
 refine q.ext (Ext.same s) ?_
 cases e : H p with
 | none => exact absurd e q.some
 | some o => exact s p o e
theorem MR.more (R : MR mg K Gl κ H σ m) (s : qg H H') : MR mg K Gl κ H' σ m :=
 ⟨R.mem.more s, R.len, fun i x e => let ⟨w, a, b⟩ := R.sl i x e; ⟨w, a, b.ext (Ext.same s)⟩⟩
theorem WB {α : Type} : ∀ {l : List α} {i j : Nat} {a : α}, l.Nodup -> l[i]? = some a -> l[j]? = some a -> i = j
 | [], i, _, _, _, h, _ => by simp at h
 | x :: l, 0, 0, _, _, _, _ => rfl
 | x :: l, 0, j + 1, a, n, h1, h2 => by
  simp at h1 h2
  subst h1
  rw [List.nodup_cons] at n
  exact absurd (List.mem_of_getElem? h2) n.1
 | x :: l, i + 1, 0, a, n, h1, h2 => by
  simp at h1 h2
  subst h2
  rw [List.nodup_cons] at n
  exact absurd (List.mem_of_getElem? h1) n.1
 | x :: l, i + 1, j + 1, a, n, h1, h2 => by
  simp at h1 h2
  rw [List.nodup_cons] at n
  rw [WB n.2 h1 h2]
theorem Mem.mut (M : Mem mg K Gl κ H μ) {n : Nat} {p : Addr} {o : HO} {x : Cell} (hn : κ[n]? = .some p) (hx : jG mg K Gl κ (upd H p o) p x) : Mem mg K Gl κ (upd H p o) (μ.set n x) /\ Ext κ H κ (upd H p o) := by
 have hp : p ∈ κ := List.mem_of_getElem? hn
 have ex : Ext κ H κ (upd H p o) := ⟨fun _ _ e => e, fun _ h => .inl h, fun a q e na => by
  rw [qe (fun z => na (by rw [z]; exact hp))]
  exact e⟩
 refine ⟨⟨M.nd, by rw [List.length_set]; exact M.len, fun k q y e1 e2 => ?_, fun a h => ?_⟩, ex⟩
 ·by_cases hk : n = k
  ·subst hk
   rw [hn] at e1
   cases e1
   have hlt : n < μ.length := by rw [<- M.len]; exact (List.getElem?_eq_some_iff.mp hn).1
   rw [List.getElem?_set_self hlt] at e2
   cases e2
   exact hx
  ·rw [List.getElem?_set_ne hk] at e2
   have hq : q ≠ p := fun z => by
    subst z
    exact hk (WB M.nd hn e1)
   exact (M.cel k q y e1 e2).ext ex (qe hq)
 ·by_cases ha : a = p
  ·rw [ha, qo] at h
   cases h
  ·rw [qe ha] at h
   exact M.gl a h
theorem Mem.new (M : Mem mg K Gl κ H μ) {p : Addr} {x : Cell} (s : qg H H') (hp : H p = none) (hx : jG mg K Gl (κ ++ [p]) H' p x) : Mem mg K Gl (κ ++ [p]) H' (μ ++ [x]) /\ Ext κ H (κ ++ [p]) H' := by
 have np : p ∉ κ := fun z => M.at_ z hp
 have ex : Ext κ H (κ ++ [p]) H' := by
  refine ⟨fun n q e => ?_, fun q h => ?_, fun a o e _ => s a o e⟩
  ·rw [List.getElem?_append_left (List.getElem?_eq_some_iff.mp e).1]
   exact e
  ·rcases List.mem_append.mp h with h | h
   ·exact .inl h
   ·right
    rw [List.mem_singleton.mp h]
    exact hp
 refine ⟨⟨?_, by rw [List.length_append, List.length_append, M.len]; rfl, fun n q y e1 e2 => ?_, fun a h => M.gl a (s.free h)⟩, ex⟩
 ·rw [List.nodup_append]
  refine ⟨M.nd, List.pairwise_singleton _ _, fun a ha b hb => ?_⟩
  rw [List.mem_singleton.mp hb]
  exact fun z => np (by rw [<- z]; exact ha)
 ·by_cases hn : n < κ.length
  ·rw [List.getElem?_append_left hn] at e1
   rw [List.getElem?_append_left (by rw [<- M.len]; exact hn)] at e2
   have q0 := M.cel n q y e1 e2
   refine q0.ext ex ?_
   cases e : H q with
   | none => exact absurd e q0.some
   | some o => exact s q o e
  ·rw [List.getElem?_append_right (by lia)] at e1
   rw [List.getElem?_append_right (by rw [<- M.len]; lia)] at e2
   have h0 : n - κ.length = 0 := by
    have := (List.getElem?_eq_some_iff.mp e1).1
    rw [List.length_singleton] at this
    lia
   rw [h0] at e1
   rw [<- M.len, h0] at e2
   cases e1
   cases e2
   exact hx
theorem MR.US (R : MR mg K Gl κ H σ m) {i : Nat} (hx : ItR mg K Gl κ H w x) : MR mg K Gl κ H (σ.set i (some w)) ⟨m.s.set i (some x), m.μ⟩ := by
 refine ⟨R.mem, by rw [List.length_set, List.length_set]; exact R.len, fun j y e => ?_⟩
 have e : (m.s.set i (some x))[j]? = some (some y) := e
 by_cases hj : i = j
 ·subst hj
  by_cases hi : i < m.s.length
  ·rw [List.getElem?_set_self hi] at e
   cases e
   exact ⟨w, List.getElem?_set_self (by rw [R.len]; exact hi), hx⟩
  ·rw [List.getElem?_eq_none (by rw [List.length_set]; lia)] at e
   cases e
 ·rw [List.getElem?_set_ne hj] at e ⊢
  exact R.sl j y e
theorem MR.after (R : MR mg K Gl κ H σ m) (e : Ext κ H κ' H') (M : Mem mg K Gl κ' H' μ) : MR mg K Gl κ' H' σ ⟨m.s, μ⟩ :=
 ⟨M, R.len, fun i x h => let ⟨w, a, b⟩ := R.sl i x h; ⟨w, a, b.ext e⟩⟩
theorem mapM_some {α β : Type} {f : α -> Option β} {x : α} {xs : List α} {ys : List β} (h : (x :: xs).mapM f = some ys) : ∃ y r, f x = some y /\ xs.mapM f = some r /\ ys = y :: r := by
 rw [List.mapM_cons] at h
 cases h1 : f x with
 | none => rw [h1] at h; cases h
 | some y =>
  rw [h1] at h
  cases h2 : xs.mapM f with
  | none => rw [h2] at h; cases h
  | some r => rw [h2] at h; exact ⟨y, r, rfl, rfl, (Option.some.inj h).symm⟩
theorem zS {G : Addr -> Prop} {g : Itm -> Option D} (hg : ∀ w x d, g x = some d -> ItR mg K Gl κ H w x -> Rp mg K G H w d) : ∀ {vs : List V} {xs : List Itm} {ds : List D}, Its mg K Gl κ H vs xs -> xs.mapM g = some ds -> qd mg K G H vs ds
 | [], [], ds, _, e => by cases e; exact .nil
 | w :: vs, x :: xs, ds, h, e => by
  obtain ⟨y, r, e1, e2, rfl⟩ := mapM_some e
  exact .cons (hg w x y e1 h.1) (zS hg h.2 e2)
 | [], _ :: _, _, h, _ => h.elim
 | _ :: _, [], _, h, _ => h.elim
open Classical in
noncomputable def y8 (Gl : Addr -> Prop) (κ : List Addr) (H : Hp) : Hp := fun a => if Gl a \/ a ∈ κ then none else H a
theorem j5 {a : Addr} (h : Gl a) : y8 Gl κ H a = none := by unfold y8; exact if_pos (.inl h)
theorem WQ {a : Addr} (hg : ∀ a, H a = none -> Gl a) (h : y8 Gl κ H a = none) (n : a ∉ κ) : Gl a := by
 unfold y8 at h
 by_cases c : Gl a \/ a ∈ κ
 ·exact c.elim id fun z => absurd z n
 ·rw [if_neg c] at h
  exact hg a h
theorem jX (e : Ext κ H κ' H') : qg (y8 Gl κ H) H' := fun a o h => by
 unfold y8 at h
 by_cases c : Gl a \/ a ∈ κ
 ·rw [if_pos c] at h
  cases h
 ·rw [if_neg c] at h
  exact e.keep a o h fun z => c (.inr z)
theorem yb (m : MS) (i : Nat) (ds : List D) : (vx m)[i]? ≠ some (.own ds) := fun e => by
 unfold vx at e
 rw [List.getElem?_map] at e
 cases hs : m.s[i]? with
 | none => rw [hs] at e; cases e
 | some o =>
  rw [hs] at e
  cases o with
  | none => cases e
  | some x => cases x <;> cases e
noncomputable abbrev B1 (Gl : Addr -> Prop) (κ : List Addr) (H : Hp) (κ' : List Addr) : Bs := ⟨y8 Gl κ H, fun a => a ∈ κ'⟩
theorem Qj {a : Addr} {κ0 : List Addr} {H0 : Hp} (h : qA (B1 Gl κ0 H0 κ) σ (vx m) a) : a ∈ κ := by
 rcases h with h | ⟨i, ds, e, _⟩
 ·exact h
 ·exact absurd e (yb m i ds)
theorem zF {κ0 : List Addr} {H0 : Hp} (e : Ext κ0 H0 κ H) (R : MR mg K Gl κ H σ m) : Rl mg K (B1 Gl κ0 H0 κ) H σ (vx m) := by
 refine ⟨jX e, fun p h => R.mem.at_ h, by unfold vx; rw [List.length_map]; exact R.len, fun i d k q => ?_, fun i ds q => absurd q (yb m i ds), fun i j p ds es q _ _ _ => absurd q (yb m i ds)⟩
 unfold vx at q
 rw [List.getElem?_map] at q
 cases hs : m.s[i]? with
 | none => rw [hs] at q; cases q
 | some o =>
  rw [hs] at q
  cases o with
  | none => cases q
  | some x =>
   cases x with
   | c n => cases q
   | v d' k' =>
    cases q
    obtain ⟨w, h1, h2⟩ := R.sl i _ hs
    exact ⟨w, h1, Rp.weak h2 fun a g => ⟨fun z => g.1 (Qj z), fun z => j5 (g.2 z)⟩⟩
end
noncomputable def vV (mg : Str -> Option Value) (K : PySem.W.Frag) (E : XK) (Gn : Addr -> Prop) (κ : List Addr) (H : Hp) (o : zA) (D : Ends) : Prop := match o with
 | .nx m => ∀ κ' σ' H', MR mg K Gn κ' H' σ' m -> Ext κ H κ' H' -> D.nx σ' H'
 | .bk m => ∀ κ' σ' H', MR mg K Gn κ' H' σ' m -> Ext κ H κ' H' -> D.bk σ' H'
 | .ct m => ∀ κ' σ' H', MR mg K Gn κ' H' σ' m -> Ext κ H κ' H' -> D.ct σ' H'
 | .rt x μ => ∀ w κ' H', Mem mg K Gn κ' H' μ -> ItR mg K Gn κ' H' w x -> Ext κ H κ' H' -> D.rt w H'
 | .er c => ∀ C H', mg c = some (.ref C) -> (∀ a o, H a = some o -> a ∉ κ -> H' a = some o) -> E (.ref C) none H'
 | .no => False
noncomputable def tM (mg : Str -> Option Value) (K : PySem.W.Frag) (E : XK) (r : RM) : TS := fun D σ H => ∃ Gn κ m, MR mg K Gn κ H σ m /\ vV mg K E Gn κ H (r m) D
noncomputable abbrev TMx (X : Cx) (E : XK) (r : RM) : TS := tM X.mg X.K E r
noncomputable def tIe (X : Cx) (E : XK) (e : IE) : TE := fun σ H Q => ∃ Gn κ m, MR X.mg X.K Gn κ H σ m /\ qh X.mg E H (e m) fun x => ∀ w H', qg H H' -> ItR X.mg X.K Gn κ H' w x -> Q w H'
noncomputable def tNe (X : Cx) (E : XK) (e : NE) : TE := fun σ H Q => ∃ Gn κ m, MR X.mg X.K Gn κ H σ m /\ qh X.mg E H (e m) fun xs => ∀ p vs H', H p = none -> qg H H' -> H' p = some (.lst vs) -> Its X.mg X.K Gn (κ ++ [p]) H' vs xs -> Q (.ref p) H'
section
variable {mg : Str -> Option Value} {K : PySem.W.Frag} {E : XK} {Gn : Addr -> Prop} {κ κ' κ1 : List Addr} {H H' H1 : Hp} {D : Ends} {o : zA}
theorem vV.later (h : vV mg K E Gn κ H o D) (e : Ext κ H κ1 H1) : vV mg K E Gn κ1 H1 o D := by
 cases o with
 | nx m => exact fun κ' σ' H' R f => h κ' σ' H' R (e.trans f)
 | bk m => exact fun κ' σ' H' R f => h κ' σ' H' R (e.trans f)
 | ct m => exact fun κ' σ' H' R f => h κ' σ' H' R (e.trans f)
 | rt x μ => exact fun w κ' H' M r f => h w κ' H' M r (e.trans f)
 | er c =>
  refine fun C H' hC k => h C H' hC fun a o q n => k a o (e.keep a o q n) fun z => ?_
  rcases e.old a z with y | y
  ·exact n y
  ·rw [q] at y
   cases y
 | no => exact h
theorem U9 {c : Str} (h : vV mg K E Gn κ H (.er c) D) : ∀ C H', mg c = some (.ref C) -> qg H H' -> E (.ref C) none H' := fun C H' e s => h C H' e fun a o q _ => s a o q
theorem vV.do_ {α : Type} {x : Rs α} {f : α -> zA} {k : α -> Prop} (h : vV mg K E Gn κ H (mDo x f) D) (i : ∀ a, x = .ok a -> vV mg K E Gn κ H (f a) D -> k a) : qh mg E H x k := by
 cases x with
 | ok a => exact i a rfl h
 | er c => exact U9 h
 | no => exact h
theorem Ext.upd {p : Addr} {o : HO} (hp : p ∈ κ) : Ext κ H κ (L2.upd H p o) := ⟨fun _ _ e => e, fun _ h => .inl h, fun a q e na => by
 rw [qe (fun z => na (by rw [z]; exact hp))]
 exact e⟩
theorem Zd {m : MS} {x : Itm} {n : Nat} {y : Cell} (h : cellAt m x = some (n, y)) : x = .c n /\ m.μ[n]? = some y := by
 cases x with
 | v d k => cases h
 | c k =>
  have h : (m.μ[k]?).map (fun x => (k, x)) = some (n, y) := h
  cases e : m.μ[k]? with
  | none => rw [e] at h; cases h
  | some z => rw [e] at h; cases h; exact ⟨rfl, e⟩
end
section
variable {X : Cx} {E : XK} {pos : Pos}
theorem X6 (i : Nat) {x : Str} (hN : autoParam (X.N[i]? = some x) qj._auto_1) (hv : autoParam (Vis X.env.scope x) WJ._auto_1) (hd : autoParam ((x == ("__debug__" : Str)) = false) qH._auto_1)
  (hcd : autoParam ((x == ("__classdict__" : Str)) = false) qH._auto_1) : PE X (.Name x pos) (tIe X E (ieV i)) := by
 refine qR (uI hN hv hd hcd) fun σ H Q ⟨Gn, κ, m, R, h⟩ => ?_
 unfold ieV at h
 cases hs : m.s[i]? with
 | none => rw [hs] at h; exact h.elim
 | some o =>
  rw [hs] at h
  cases o with
  | none => exact h.elim
  | some y =>
   obtain ⟨w, h1, h2⟩ := R.sl i y hs
   exact ⟨w, h1, h w H (fun _ _ e => e) h2⟩
theorem ne_nil : PE X (.List [] pos) (tNe X E WX) := by
 refine qR (u6 wH) fun σ H Q ⟨Gn, κ, m, R, h⟩ => ?_
 exact ⟨Nat.zero_le _, fun p hp => h p [] _ hp (qQ hp) qo trivial⟩
end
section
variable {X : Cx} {E : XK} {pos : Pos}
theorem ZJ {a b : RM} {D : Ends} {σ : St} {H : Hp} (h : TMx X E (Qv a b) D σ H) : TMx X E a { D with nx := TMx X E b D } σ H := by
 obtain ⟨Gn, κ, m, R, h⟩ := h
 refine ⟨Gn, κ, m, R, ?_⟩
 unfold Qv zA.andThen at h
 cases ha : a m with
 | nx m1 =>
  rw [ha] at h
  exact fun κ1 σ1 H1 R1 f1 => ⟨Gn, κ1, m1, R1, vV.later h f1⟩
 | bk m1 => rw [ha] at h; exact h
 | ct m1 => rw [ha] at h; exact h
 | rt x μ => rw [ha] at h; exact h
 | er c => rw [ha] at h; exact h
 | no => rw [ha] at h; exact h
theorem jB {st : Stmt} {rest : List Stmt} {a b : RM} (h1 : PS X st (TMx X E a)) (h2 : PSs X rest (TMx X E b)) : PSs X (st :: rest) (TMx X E (Qv a b)) := xf (wu h1 h2) fun _ _ _ h => ZJ h
theorem QY {st : Stmt} {a : RM} (h1 : PS X st (TMx X E a)) : PSs X [st] (TMx X E a) := wG h1
theorem ZN {i : Nat} {e : NE} {D : Ends} {σ : St} {H : Hp} (h : TMx X E (Z8 i e) D σ H) : Wd (tNe X E e) (vz i) D σ H := by
 obtain ⟨Gn, κ, m, R, h⟩ := h
 refine ⟨Gn, κ, m, R, vV.do_ h fun xs _ h1 p vs H' hp s hv hi => ?_⟩
 obtain ⟨M, ex⟩ := R.mem.new (x := .lst xs) s hp ⟨vs, hv, hi⟩
 refine h1 (κ ++ [p]) _ H' ((R.after ex M).US (m := ⟨m.s, m.μ ++ [.lst xs]⟩) (x := .c m.μ.length) ⟨p, ?_, rfl⟩) ex
 rw [<- R.mem.len, List.getElem?_append_right (Nat.le_refl _), Nat.sub_self]
 rfl
theorem Yz (i : Nat) {x : Str} {e : Expr} {ie : NE} {pos' : Pos} (g : Gd X E) (he : PE X e (tNe X E ie)) (hi : autoParam (X.N[i]? = some x) qj._auto_1) (hx : autoParam (Loc X.env.scope x) Qo._auto_1) (hs : autoParam (swapsWith e (some (.Name x pos')) pos.line X.env = pure false) qj._auto_1)
  (hf : autoParam (X.fn x = true \/ X.env.scope.names.lookup x = some .local) j9._auto_1) : PS X (.Assign [.Name x pos'] e pos) (TMx X E (Z8 i ie)) := vC (uT g.nd hi hx he hs hf) fun _ _ _ h => ZN h
theorem Xh {e : Expr} {ie : IE} (he : PE X e (tIe X E ie)) : PS X (.Return (some e) pos) (TMx X E (UD ie)) := by
 refine vC (z8 he) fun D σ H ⟨Gn, κ, m, R, h⟩ => ⟨Gn, κ, m, R, vV.do_ h fun x _ h1 w H' s hw => ?_⟩
 exact h1 w κ H' (R.more s).mem hw (Ext.same s)
end
noncomputable def Xm (X : Cx) (Gn : Addr -> Prop) (κ : List Addr) (H1 : Hp) (g : TG) (tg : Tg) (J : It) (xs : List DK) : Prop :=
 (∀ (i : Nat) (x : DK) (κ' : List Addr) (σ' : St) (m' m2 : MS) (H2 : Hp), xs[i]? = some x -> MR X.mg X.K Gn κ' H2 σ' m' -> Ext κ H1 κ' H2 -> tg.uv x m' = some m2 ->
  J.go i H2 /\ ∀ v H3, J.yld i H2 v H3 -> ∀ Q : St -> Hp -> Prop, (∀ σ2 H4, MR X.mg X.K Gn κ' H4 σ2 m2 -> qg H2 H4 -> Q σ2 H4) -> g v σ' H3 Q) /\
 ∀ (i : Nat) (κ' : List Addr) (σ' : St) (m' : MS) (H2 : Hp), xs.length <= i -> MR X.mg X.K Gn κ' H2 σ' m' -> Ext κ H1 κ' H2 -> J.stop i H2
noncomputable def tMI (X : Cx) (E : XK) (g : TG) (tg : Tg) (src : MI) : TI := fun σ H R => ∃ Gn κ m, MR X.mg X.K Gn κ H σ m /\ qh X.mg E H (src m) fun xs => ∀ J H1, qg H H1 -> Xm X Gn κ H1 g tg J xs -> R J H1
theorem zr {i : Nat} {x : DK} {y : Itm} {s : List (Option Itm)} (h : qG x = some y) : put i x (s.map wj) = some ((s.set i (some y)).map wj) := by
 obtain ⟨d, k⟩ := x
 unfold qG at h
 dsimp only at h
 rw [List.map_set]
 by_cases c : d.sc = true
 ·rw [if_pos c] at h
  cases h
  cases k with
  | bo => exact if_pos c
  | sh => show some ((s.map wj).set i (wt (d, if d.sc = true then .nw else .sh))) = _; rw [if_pos c]; rfl
  | nw => show some ((s.map wj).set i (wt (d, if d.sc = true then .nw else .nw))) = _; rw [if_pos c]; rfl
  | fr => show some ((s.map wj).set i (wt (d, if d.sc = true then .nw else .fr))) = _; rw [if_pos c]; rfl
 ·rw [if_neg c] at h
  cases k with
  | bo => cases h
  | sh => cases h; show some ((s.map wj).set i (wt (d, if d.sc = true then .nw else .sh))) = _; rw [if_neg c]; rfl
  | nw => cases h; show some ((s.map wj).set i (wt (d, if d.sc = true then .nw else .nw))) = _; rw [if_neg c]; rfl
  | fr => cases h; show some ((s.map wj).set i (wt (d, if d.sc = true then .nw else .fr))) = _; rw [if_neg c]; rfl
theorem VG {tg : Tg} {x : DK} {m m2 : MS} (h : tg.uv x m = some m2) : tg.put x (vx m) = some (vx m2) := by
 cases tg with
 | one i =>
  have h : (qG x).map (fun y => (⟨m.s.set i (some y), m.μ⟩ : MS)) = some m2 := h
  cases e : qG x with
  | none => rw [e] at h; cases h
  | some y => rw [e] at h; cases h; exact zr e
 | two i j =>
  obtain ⟨d, k⟩ := x
  match d, h with
  | .tup [a, b], h =>
   have h : (qG (a, k)).bind (fun y => (qG (b, k)).map fun z => (⟨(m.s.set i (some y)).set j (some z), m.μ⟩ : MS)) = some m2 := h
   cases e : qG (a, k) with
   | none => rw [e] at h; cases h
   | some y =>
    cases e2 : qG (b, k) with
    | none => rw [e, e2] at h; cases h
    | some z =>
     rw [e, e2] at h
     cases h
     show (put i (a, k) (m.s.map wj)).bind (put j (b, k)) = _
     rw [zr e]
     exact zr e2
theorem xr {x : DK} {n : Nat} (h : qG x = some (.c n)) : False := by
 obtain ⟨d, k⟩ := x
 unfold qG at h
 dsimp only at h
 by_cases c : d.sc = true
 ·rw [if_pos c] at h; cases h
 ·rw [if_neg c] at h
  cases k <;> cases h
theorem xh {s : List (Option Itm)} {i l n : Nat} {y : Itm} (h : (s.set i (some y))[l]? = some (some (.c n))) (hy : ∀ n, y ≠ .c n) : i ≠ l /\ s[l]? = some (some (.c n)) := by
 by_cases c : i = l
 ·subst c
  by_cases hi : i < s.length
  ·rw [List.getElem?_set_self hi] at h
   exact absurd (Option.some.inj (Option.some.inj h)) (hy n)
  ·rw [List.getElem?_eq_none (by rw [List.length_set]; lia)] at h
   cases h
 ·rw [List.getElem?_set_ne c] at h
  exact ⟨c, h⟩
theorem VE {tg : Tg} {x : DK} {m m2 : MS} {l n : Nat} {σ σ2 : St} (h : tg.uv x m = some m2) (st : tg.sets σ σ2) (e : m2.s[l]? = some (some (.c n))) : m.s[l]? = some (some (.c n)) /\ σ2[l]? = σ[l]? := by
 cases tg with
 | one i =>
  have h : (qG x).map (fun y => (⟨m.s.set i (some y), m.μ⟩ : MS)) = some m2 := h
  cases q : qG x with
  | none => rw [q] at h; cases h
  | some y =>
   rw [q] at h
   cases h
   obtain ⟨c, r⟩ := xh e (fun n z => by rw [z] at q; exact xr q)
   obtain ⟨v, rfl⟩ := st
   exact ⟨r, List.getElem?_set_ne c⟩
 | two i j =>
  obtain ⟨d, k⟩ := x
  match d, h with
  | .tup [a, b], h =>
   have h : (qG (a, k)).bind (fun y => (qG (b, k)).map fun z => (⟨(m.s.set i (some y)).set j (some z), m.μ⟩ : MS)) = some m2 := h
   cases q : qG (a, k) with
   | none => rw [q] at h; cases h
   | some y =>
    cases q2 : qG (b, k) with
    | none => rw [q, q2] at h; cases h
    | some z =>
     rw [q, q2] at h
     cases h
     obtain ⟨c2, r2⟩ := xh e (fun n w => by rw [w] at q2; exact xr q2)
     obtain ⟨c1, r1⟩ := xh r2 (fun n w => by rw [w] at q; exact xr q)
     obtain ⟨v, w, rfl⟩ := st
     exact ⟨r1, by rw [List.getElem?_set_ne c2, List.getElem?_set_ne c1]⟩
theorem Z7 {tg : Tg} {x : DK} {m m2 : MS} (h : tg.uv x m = some m2) : m2.μ = m.μ := by
 cases tg with
 | one i =>
  have h : (qG x).map (fun y => (⟨m.s.set i (some y), m.μ⟩ : MS)) = some m2 := h
  cases q : qG x with
  | none => rw [q] at h; cases h
  | some y => rw [q] at h; cases h; rfl
 | two i j =>
  obtain ⟨d, k⟩ := x
  match d, h with
  | .tup [a, b], h =>
   have h : (qG (a, k)).bind (fun y => (qG (b, k)).map fun z => (⟨(m.s.set i (some y)).set j (some z), m.μ⟩ : MS)) = some m2 := h
   cases q : qG (a, k) with
   | none => rw [q] at h; cases h
   | some y =>
    cases q2 : qG (b, k) with
    | none => rw [q, q2] at h; cases h
    | some z => rw [q, q2] at h; cases h; rfl
theorem Ws {mg : Str -> Option Value} {K : PySem.W.Frag} {Gn : Addr -> Prop} {κ κ' : List Addr} {H H2 H4 : Hp} {σ' σ2 : St} {m' m2 : MS} {tg : Tg} {x : DK} (hg : ∀ a, H a = none -> Gn a) (e : Ext κ H κ' H2) (R' : MR mg K Gn κ' H2 σ' m') (s : qg H2 H4) (R4 : Rl mg K (B1 Gn κ H κ') H4 σ2 (vx m2)) (st : tg.sets σ' σ2) (hp : tg.uv x m' = some m2) : MR mg K Gn κ' H4 σ2 m2 := by
 refine ⟨by rw [Z7 hp]; exact R'.mem.more s, ?_, fun l y q => ?_⟩
 ·have := R4.len
  unfold vx at this
  rw [List.length_map] at this
  exact this
 ·cases y with
  | c n =>
   obtain ⟨q1, q2⟩ := VE hp st q
   rw [q2]
   obtain ⟨w, g1, g2⟩ := R'.sl l _ q1
   exact ⟨w, g1, g2.ext (Ext.same s)⟩
  | v d k =>
   obtain ⟨w, g1, g2⟩ := R4.val l d k (by unfold vx; rw [List.getElem?_map, q]; rfl)
   refine ⟨w, g1, Rp.weak g2 fun a g => ?_⟩
   have n : a ∉ κ' := fun z => g.1 (.inl z)
   refine ⟨n, fun z => WQ hg (g.2 z) fun y => n ?_⟩
   obtain ⟨i, hi, w⟩ := List.mem_iff_getElem.mp y
   exact List.mem_of_getElem? (e.pre i a (by rw [List.getElem?_eq_getElem hi, w]))
section
variable {X : Cx} {E : XK} {pos : Pos}
theorem Up {tgE iter : Expr} {g : TG} {tg : Tg} {src : RI} (h : PI X tgE iter (tI X E g tg src)) : PI X tgE iter (tMI X E g tg (XC src)) := by
 refine zN h fun σ H R ⟨Gn, κ, m, R0, h⟩ => ⟨_, _, zF Ext.refl R0, ?_⟩
 refine qh.imp (qh.bind h) fun x h1 J H1 s1 W => ?_
 obtain ⟨fl, xs⟩ := x
 cases fl with
 | false => exact h1.elim
 | true =>
  refine h1 J H1 s1 ⟨fun i x κ' σ' m' m2 H2 hx R' e hp => ?_, fun i κ' σ' m' H2 hi R' e => ?_⟩
  ·have e0 : Ext κ H κ' H2 := (Ext.same s1).trans e
   have kp : Kp true (B1 Gn κ H κ) (B1 Gn κ H κ') σ (vx m) H1 σ' (vx m') H2 := ⟨rfl, fun b o q n => ⟨e.keep b o q fun z => n (.inl z), fun z => by
    rcases e.old b (Qj z) with y | y
    ·exact n (.inl y)
    ·rw [q] at y; cases y⟩, fun z => nomatch z⟩
   obtain ⟨go, yl⟩ := W.1 (B1 Gn κ H κ') i x σ' (vx m') (vx m2) H2 hx (zF e0 R') kp (VG hp)
   refine ⟨go, fun v H3 hy Q hQ => yl v H3 hy Q fun σ2 H4 R4 _ s4 st4 => hQ σ2 H4 (Ws R0.mem.gl e0 R' s4 R4 st4 hp) s4⟩
  ·have e0 : Ext κ H κ' H2 := (Ext.same s1).trans e
   have kp : Kp true (B1 Gn κ H κ) (B1 Gn κ H κ') σ (vx m) H1 σ' (vx m') H2 := ⟨rfl, fun b o q n => ⟨e.keep b o q fun z => n (.inl z), fun z => by
    rcases e.old b (Qj z) with y | y
    ·exact n (.inl y)
    ·rw [q] at y; cases y⟩, fun z => nomatch z⟩
   exact W.2 (B1 Gn κ H κ') i σ' (vx m') H2 hi (zF e0 R') kp
theorem XB {tgE iter : Expr} {body : List Stmt} {g : TG} {tg : Tg} {src : MI} {rb : RM} (G : Gd X E) (hi : PI X tgE iter (tMI X E g tg src)) (hg : PG X tgE g) (hb : PSs X body (TMx X E rb)) (hs : autoParam (∀ x, foldedSetIterable iter X.env x = pure x) zB._auto_1) :
  PS X (.For tgE iter body [] pos) (TMx X E (ZA tg src rb)) := by
 refine vC (WD G.own G.calm hi hg hb hs) fun D σ H ⟨Gn, κ, m, R, h⟩ => ⟨Gn, κ, m, R, vV.do_ h fun xs _ h0 J H1 s1 W => ?_⟩
 have h1 := vV.later h0 (Ext.same s1)
 refine ⟨fun i k σ' H' => k = xs.length - i /\ i <= xs.length /\ ∃ κ' m', MR X.mg X.K Gn κ' H' σ' m' /\ Ext κ H1 κ' H' /\ vV X.mg X.K E Gn κ' H' (vL tg rb (xs.drop i) m') D, ⟨xs.length, by lia, Nat.zero_le _, κ, m, R.more s1, Ext.refl, h1⟩, ?_⟩
 rintro i k σ' H' ⟨rfl, hi, κ', m', R', f', h'⟩
 by_cases hlt : i < xs.length
 ·right
  have hx : xs[i]? = some xs[i] := List.getElem?_eq_getElem hlt
  rw [List.drop_eq_getElem_cons hlt] at h'
  unfold vL at h'
  cases hp : tg.uv xs[i] m' with
  | none => rw [hp] at h'; exact h'.elim
  | some m2 =>
   rw [hp] at h'
   obtain ⟨go, yl⟩ := W.1 i xs[i] κ' σ' m' m2 H' hx R' f' hp
   refine ⟨go, fun σ2 H2 => i + 1 <= xs.length /\ ∃ κ2 m3, MR X.mg X.K Gn κ2 H2 σ2 m3 /\ Ext κ H1 κ2 H2 /\ vV X.mg X.K E Gn κ2 H2 (vL tg rb (xs.drop (i + 1)) m3) D, fun σ2 H2 ⟨q1, κ2, m3, q2, q3, q4⟩ => ⟨xs.length - (i + 1), by lia, rfl, q1, κ2, m3, q2, q3, q4⟩, fun v H3 hy => ?_⟩
   refine yl v H3 hy _ fun σ2 H4 R2 s4 => ⟨Gn, κ', m2, R2, ?_⟩
   have f4 := f'.trans (Ext.same s4)
   dsimp only at h'
   cases hb : rb m2 with
   | nx m3 => rw [hb] at h'; exact fun κ3 σ3 H5 R3 f3 => ⟨hlt, κ3, m3, R3, f4.trans f3, vV.later h' ((Ext.same s4).trans f3)⟩
   | ct m3 => rw [hb] at h'; exact fun κ3 σ3 H5 R3 f3 => ⟨hlt, κ3, m3, R3, f4.trans f3, vV.later h' ((Ext.same s4).trans f3)⟩
   | bk m3 => rw [hb] at h'; exact fun κ3 σ3 H5 R3 f3 => h' κ3 σ3 H5 R3 ((Ext.same s4).trans f3)
   | rt x μ => rw [hb] at h'; exact vV.later (o := .rt x μ) h' (Ext.same s4)
   | er c => rw [hb] at h'; exact vV.later (o := .er c) h' (Ext.same s4)
   | no => rw [hb] at h'; exact h'
 ·left
  have e : i = xs.length := by lia
  subst e
  rw [List.drop_length] at h'
  exact ⟨W.2 _ κ' σ' m' H' (Nat.le_refl _) R' f', h' κ' σ' H' R' Ext.refl⟩
end
noncomputable def YK (mg : Str -> Option Value) (K : PySem.W.Frag) (E : XK) (Gn : Addr -> Prop) (κ : List Addr) (H : Hp) (o : XR) (Q : VK) : Prop := match o with
 | .ok x μ => ∀ w κ' H', Mem mg K Gn κ' H' μ -> ItR mg K Gn κ' H' w x -> Ext κ H κ' H' -> Q w H'
 | .er c => ∀ C H', mg c = some (.ref C) -> (∀ a o, H a = some o -> a ∉ κ -> H' a = some o) -> E (.ref C) none H'
 | .no => False
noncomputable def spM (mg : Str -> Option Value) (K : PySem.W.Frag) (n : Nat) (g : Fm) : Sp := fun vs H Q E => ∃ Gn κ μ xs, xs.length = n /\ Mem mg K Gn κ H μ /\ Its mg K Gn κ H vs xs /\ YK mg K E Gn κ H (g xs μ) Q
theorem mr0 {mg : Str -> Option Value} {K : PySem.W.Frag} {Gn : Addr -> Prop} {κ : List Addr} {H : Hp} {N : List Str} {vs : List V} {xs : List Itm} {μ : List Cell} (M : Mem mg K Gn κ H μ) (r : Its mg K Gn κ H vs xs) : MR mg K Gn κ H (start N vs) ⟨ms0 N xs, μ⟩ := by
 refine ⟨M, ?_, fun i x e => ?_⟩
 ·unfold start ms0
  rw [List.length_append, List.length_append, List.length_map, List.length_map, List.length_replicate, List.length_replicate, r.len]
 ·have e : (ms0 N xs)[i]? = some (some x) := e
  unfold ms0 at e
  by_cases h : i < xs.length
  ·rw [List.getElem?_append_left (by rw [List.length_map]; exact h), List.getElem?_map, List.getElem?_eq_getElem h] at e
   have e2 : xs[i]? = some x := by rw [List.getElem?_eq_getElem h]; exact Option.some.inj e
   obtain ⟨w, h1, h2⟩ := r.get e2
   refine ⟨w, ?_, h2⟩
   have hl : i < vs.length := (List.getElem?_eq_some_iff.mp h1).1
   unfold start
   rw [List.getElem?_append_left (by rw [List.length_map]; exact hl), List.getElem?_map, h1]
   rfl
  ·rw [List.getElem?_append_right (by rw [List.length_map]; lia)] at e
   have := (List.mem_replicate.mp (List.mem_of_getElem? e)).2
   cases this
section
variable {P : Program} {w : World} {K : PySem.W.Frag} {mg : Str -> Option Value} {base : Heap}
theorem XS {x q : Str} {st : Stmt} {f : Addr} {fd : FuncData} {N ps : List Str} {k n : Nat} {r : RM} (F : Fun K x q st f fd) (S : qr N ps (qa st)) (hn : ps.length = n)
  (body : ∀ (cdv : Value) (A : Around) (outer : List Env) (s : Shared) (H : Hp) (E : XK), qZ k (A.deeper (envOfC q (qa st) s.heap.objs.size f cdv)) ->
   PSs (z5 P w K mg base N q (qa st) f cdv A outer s H E) (qE st) (tM mg K E r)) : wL P w K mg base (CX1 P w) (k + 1) f fd ps (spM mg K n fun xs μ => Y6 (r ⟨ms0 N xs, μ⟩)) := by
 obtain ⟨oc, od, kV, doc, pm, an, cdv, ct, osl, rfl, lk, hcd⟩ := F.ex
 refine uj lk hcd S ?_ fun A outer s H vs Q E hroom hsp => ?_
 ·rintro vs H Q E ⟨Gn, κ, μ, xs, hl, _, rp, _⟩
  rw [rp.len, hl, hn]
 ·obtain ⟨Gn, κ, μ, xs, hl, M, rp, h⟩ := hsp
  refine ⟨_, zz (body cdv A outer s H E hroom) yO, Gn, κ, ⟨ms0 N xs, μ⟩, mr0 M rp, ?_⟩
  have h : YK mg K E Gn κ H (Y6 (r ⟨ms0 N xs, μ⟩)) Q := h
  cases ho : r ⟨ms0 N xs, μ⟩ with
  | rt x μ' => rw [ho] at h; exact fun w κ' H' M' r' e => h w κ' H' M' r' e
  | nx m' => rw [ho] at h; exact fun κ' σ' H' R e => h .non κ' H' R.mem Rp.non e
  | er c => rw [ho] at h; exact fun C H' e s => h C H' e s
  | bk m' => rw [ho] at h; exact h.elim
  | ct m' => rw [ho] at h; exact h.elim
  | no => rw [ho] at h; exact h.elim
end
theorem u4 {mg : Str -> Option Value} {K : PySem.W.Frag} {Gn : Addr -> Prop} {κ : List Addr} {H : Hp} {μ : List Cell} (M : Mem mg K Gn κ H μ) (hk : ∀ p ∈ κ, Gn p) : ∀ (f : Nat) (w : V) (x : Itm) (d : D), zp μ f x = some d -> ItR mg K Gn κ H w x -> Rp mg K Gn H w d
 | f, w, .v d k, d', e, h => by
  have e : (if d.sc = true \/ k = true then some d else none) = some d' := by cases f <;> exact e
  by_cases c : d.sc = true \/ k = true
  ·rw [if_pos c] at e
   cases e
   rcases c with c | c
   ·rw [Rp.sc h c]
    exact Rp.vg c
   ·exact Rp.weak h fun a g => g.2 c
  ·rw [if_neg c] at e
   cases e
 | 0, w, .c n, d, e, h => by cases e
 | f + 1, w, .c n, d, e, h => by
  obtain ⟨p, hp, rfl⟩ := h
  have gp : Gn p := hk p (List.mem_of_getElem? hp)
  unfold zp at e
  cases hn : μ[n]? with
  | none => rw [hn] at e; cases e
  | some y =>
   rw [hn] at e
   have q := M.cel n p y hp hn
   cases y with
   | lst xs =>
    obtain ⟨vs, q1, q2⟩ := q
    cases hm : xs.mapM (zp μ f) with
    | none => dsimp only at e; rw [hm] at e; cases e
    | some ds =>
     dsimp only at e
     rw [hm] at e
     cases e
     exact .lst gp (.of q1) (zS (fun w x d e h => u4 M hk f w x d e h) q2 hm)
   | ins c ns xs =>
    obtain ⟨C, dx, vs, q0, q1, ql, q2⟩ := q
    cases hm : xs.mapM (zp μ f) with
    | none => dsimp only at e; rw [hm] at e; cases e
    | some ds =>
     dsimp only at e
     rw [hm] at e
     cases e
     exact .obj gp q0 q1 ql (zS (fun w x d e h => u4 M hk f w x d e h) q2 hm)
section
variable {P : Program} {w : World} {K : PySem.W.Frag} {mg : Str -> Option Value} {base : Heap}
theorem Xc {x : Str} {st : Stmt} {f : Addr} {fd : FuncData} {N ps : List Str} {k n : Nat} {r : RM} {g : Fn} (F : Fun K x x st f fd) (S : qr N ps (qa st)) (hm : mg x = some (.ref f)) (hb : Binds K fd ps []) (hn : ps.length = n)
  (body : ∀ (cdv : Value) (A : Around) (outer : List Env) (s : Shared) (H : Hp) (E : XK), qZ k (A.deeper (envOfC x (qa st) s.heap.objs.size f cdv)) ->
   PSs (z5 P w K mg base N x (qa st) f cdv A outer s H E) (qE st) (tM mg K E r)) (hg : ∀ ds, g ds = Zt (r ⟨ms0 N (it0 ds), []⟩)) : Fd P w K mg base (k + 1) x n g := by
 refine ⟨f, fd, ps, wL.imp (XS F S hn body) fun vs H Q E ⟨ds, hl, rp, h⟩ => ?_, hm, F.kp, hb⟩
 refine ⟨fun a => H a = none, [], [], it0 ds, by unfold it0; rw [List.length_map]; exact hl, ⟨List.nodup_nil, rfl, fun n p x e _ => (by simp at e), fun a e => e⟩, ?_, ?_⟩
 ·exact Its.vals (rp.weak fun a _ => ⟨(fun z => by cases z), fun z => by cases z⟩)
 rw [hg ds] at h
 show YK mg K E (fun a => H a = none) [] H (Y6 (r ⟨ms0 N (it0 ds), []⟩)) Q
 cases ho : r ⟨ms0 N (it0 ds), []⟩ with
 | bk m' => rw [ho] at h; exact h.elim
 | ct m' => rw [ho] at h; exact h.elim
 | no => rw [ho] at h; exact h.elim
 | er c => rw [ho] at h; exact fun C H' e s => h C H' e fun a o q => s a o q (fun z => nomatch z)
 | nx m' =>
  rw [ho] at h
  intro w κ' H' M' r' e
  have h : ∀ v H', qg H H' -> RR mg K H H' false v .non -> Q v H' := h
  cases r' with
  | non => exact h .non H' (fun a o q => e.keep a o q (fun z => nomatch z)) Rp.non
 | rt x μ' =>
  rw [ho] at h
  intro w κ' H' M' r' e
  have sm : qg H H' := fun a o q => e.keep a o q (fun z => nomatch z)
  have hk : ∀ p ∈ κ', H p = none := fun p hp => (e.old p hp).elim (fun z => nomatch z) id
  have h : qh mg E H (V8 μ' x) fun y => ∀ v H', qg H H' -> RR mg K H H' y.2 v y.1 -> Q v H' := h
  unfold V8 at h
  cases hv : zp μ' 3 x with
  | none => rw [hv] at h; exact h.elim
  | some d =>
   rw [hv] at h
   have rp2 := u4 (Gn := fun a => H a = none) M' hk 3 w x d hv r'
   cases x with
   | v d' k' =>
    have h : ∀ v H', qg H H' -> RR mg K H H' false v d -> Q v H' := by cases d <;> exact h
    exact h w H' sm rp2
   | c n' =>
    cases d with
    | lst ds' =>
     have h : ∀ v H', qg H H' -> RR mg K H H' (ds'.all D.sc) v (.lst ds') -> Q v H' := h
     refine h w H' sm ?_
     cases c : ds'.all D.sc with
     | false => exact rp2
     | true =>
      obtain ⟨p, hp, rfl⟩ := r'
      have e3 : (match μ'[n']? with
       | some (.lst xs) => (xs.mapM (zp μ' 2)).map D.lst
       | some (.ins c ns xs) => (xs.mapM (zp μ' 2)).map (D.obj c ns)
       | none => none) = some (.lst ds') := hv
      cases hn' : μ'[n']? with
      | none => rw [hn'] at e3; cases e3
      | some y =>
       rw [hn'] at e3
       cases y with
       | ins c ns xs =>
        dsimp only at e3
        cases hm' : xs.mapM (zp μ' 2) with
        | none => rw [hm'] at e3; cases e3
        | some es => rw [hm'] at e3; cases e3
       | lst xs =>
        dsimp only at e3
        cases hm' : xs.mapM (zp μ' 2) with
        | none => rw [hm'] at e3; cases e3
        | some es =>
         rw [hm'] at e3
         cases e3
         obtain ⟨vs', q1, q2⟩ := M'.cel n' p _ hp hn'
         have ra := zS (fun w x d e h => u4 M' hk 2 w x d e h) q2 hm'
         refine ⟨p, _, rfl, rfl, c, hk p (List.mem_of_getElem? hp), ?_⟩
         rw [q1, ra.sc c]
    | obj c ns ds' => exact h w H' sm rp2
    | non => exact h w H' sm rp2
    | bl b => exact h w H' sm rp2
    | int z => exact h w H' sm rp2
    | tup ts => exact h w H' sm rp2
    | fn y => exact h w H' sm rp2
end
end L2.Ir
set_option maxHeartbeats 4000000
namespace L2.Ir
open PySem PySem.Spec PyProof.Rows
theorem uK (l b : Addr) (us vs : Array Value) (n k : Nat) (dd : Option Addr) (sl : Array (Option Value)) (h0 : ¬(!us.isEmpty && Builtin.List.listTooLong (us.size + vs.size)) = true) (h1 : us.size <= sizeLine) (h2 : us.size + vs.size <= sizeLine + 1) :
  Meets (Builtin.«list.extend» ⟨[.ref l, .ref b], []⟩) (fun _ R s => s.heap.get? l = some { cls := .type "list", data := .seq us n } /\ s.heap.get? b = some ⟨.type "list", dd, .seq vs k, sl⟩ /\ R (.ok (.ret Value.none)) { s with heap := s.heap.update l (Obj.mapSeq fun x => x ++ vs) }) :=
 .of_wp fun prog w A R s q => by
  obtain ⟨hp, gs, dr, tk, os⟩ := s
  obtain ⟨ql, qb, q⟩ := q
  have i1 := AutoSeq1.idx_int
  have i2 := AutoSeq1.sub_tuple_tuple
  have i3 := AutoSeq1.sub_list_list
  have i4 := AutoSeq1.sub_tuple_list
  have i5 := AutoSeq1.sub_list_tuple
  have hz : (us ++ vs).size <= sizeLine + 1 := by
   rw [Array.size_append]
   exact h2
  wp_walk using (wpAny_updateSeq ql rfl (hz := h1) (_hz' := hz)), AutoSeq1.wpAny_loadPart' ql, AutoSeq1.wpAny_loadPart' qb
  exact ⟨_, rfl, q⟩
section
variable {X : Cx} {E : XK} {pos : Pos}
noncomputable def Yq (K : PySem.W.Frag) : V -> List V -> Hp -> VK -> Prop := fun x vs H Q => ∃ l b xs zs, x = .ref l /\ vs = [.ref b] /\ H l = some (.lst xs) /\ SqL K H b zs /\ xs.length + zs.length <= sizeLine /\ Q .non (upd H l (.lst (xs ++ zs)))
theorem Qz : MtM X "list.extend" (Yq X.K) := by
 intro pins s σ H x vs v us Q I rx rv h
 obtain ⟨l, b, xs, zs, rfl, rfl, hH, hB, hz, q⟩ := h
 cases rx
 obtain ⟨u, rfl, ru⟩ := rv.one
 cases ru
 obtain ⟨z1, ts, n, r1, hl, e1⟩ := I.Qu hH
 obtain ⟨ts2, r2, p2, z2⟩ := I.list hB
 obtain ⟨⟨cls, dd, data, sl⟩, e2, hc, n2, hd⟩ := id p2.isList
 simp only at hc hd
 subst hc hd
 have l2 := r2.length
 have hsz : ts.toArray.size + ts2.toArray.size <= sizeLine := by rw [List.size_toArray, List.size_toArray]; lia
 refine call_meets PySem.F.slot_list_extend ⟨_, e1, rfl⟩ PySem.F.entry_list_extend (PySem.F.args_list_extend_2 _ _) (uK l b ts.toArray ts2.toArray n n2 dd sl (by rw [yX hsz, Bool.and_false]; exact Bool.false_ne_true) (by rw [List.size_toArray]; lia) (by lia)) ⟨e1, e2, ?_⟩
 refine ⟨.non, _, I.YJ (its' := ts ++ ts2) hH e1 (by simp) (r1.append r2) ?_, rfl, q⟩
 rw [List.length_append]
 lia
theorem Vm {e : Expr} {ec : IE} {r : RE} (h : PE X e (tBM X.K "list" (Yq X.K) (tIe X E ec) (W5 (TEx X E r) YY))) (hsw : autoParam (swapsWith e none pos.line X.env = pure false) qj._auto_1) : PS X (.Expr e pos) (TMx X E (yM ec r)) := by
 refine vC (Q0 h hsw) fun D σ H ⟨Gn, κ, m, R, h⟩ => ⟨Gn, κ, m, R, vV.do_ h fun y _ h1 w H1 s1 hw => ?_⟩
 cases e : cellAt m y with
 | none => rw [e] at h1; exact h1.elim
 | some q =>
  obtain ⟨n, q⟩ := q
  obtain ⟨rfl, hn⟩ := Zd e
  rw [e] at h1
  cases q with
  | ins c' ns xs => exact h1.elim
  | lst xs =>
   obtain ⟨p, hp, rfl⟩ := hw
   obtain ⟨vs1, g1, g3⟩ := (R.more s1).mem.cel n p _ hp hn
   have Rv := zF (m := m) (Ext.refl (κ := κ) (H := H1)) (R.more s1)
   refine ⟨.inl ⟨rfl, _, SqL.of g1⟩, _, _, Rv, ?_⟩
   refine qh.more (vV.do_ h1 fun x _ h2 u H2 s2 vu => ?_) s1
   obtain ⟨dx, kx⟩ := x
   have s12 := s1.trans s2
   have R2 := R.more s12
   obtain ⟨vs, g1, g3⟩ := R2.mem.cel n p _ hp hn
   cases dx with
   | lst ds =>
    have h2 : vV X.mg X.K E Gn κ H (if ds.all Ir.D.sc = true /\ xs.length + ds.length <= LIM then .nx ⟨m.s, m.μ.set n (.lst (xs ++ ds.map fun d => .v d true))⟩ else .no) D := h2
    by_cases c : ds.all Ir.D.sc = true /\ xs.length + ds.length <= LIM
    ·rw [if_pos c] at h2
     obtain ⟨a, us, rfl, sq, ra⟩ := VR.items Rv vu
     have hus := ra.sc c.1
     refine ⟨p, a, vs, us, rfl, rfl, g1, sq, ?_, ?_⟩
     ·rw [g3.len, ra.len]; exact c.2
     have pk : p ∈ κ := List.mem_of_getElem? hp
     have ex : Ext κ H2 κ (upd H2 p (.lst (vs ++ us))) := Ext.upd pk
     obtain ⟨M, _⟩ := R2.mem.mut (x := .lst (xs ++ ds.map fun d => .v d true)) (o := .lst (vs ++ us)) hp ⟨_, qo, (g3.ext ex).append (by rw [hus]; exact Its.vals (qd.vg c.1))⟩
     exact h2 κ σ _ (R2.after ex M) ((Ext.same s12).trans ex)
    ·rw [if_neg c] at h2
     exact h2.elim
   | _ => exact h2.elim
theorem RgC.up {j c : Int} (hc : 0 < c) (hc2 : c < 1000000) (hj : -1000000 < j) (hj2 : j < 1000000) : RgC 0 j c ((j + c - 1) / c).toNat := by
 have fit : ∀ z : Int, -4000000 < z /\ z < 4000000 -> Builtin.Range.rangeFitsLong z = true := fun z h1 => by
  unfold Builtin.Range.rangeFitsLong
  simp
  lia
 have hsz : Builtin.Range.rangeSize 0 j c = (((j + c - 1) / c).toNat : Int) := by
  unfold Builtin.Range.rangeSize
  rw [if_pos (by lia)]
  by_cases h : 0 < j
  ·rw [if_pos h]
   have e : j + c - 1 = (j - 0 - 1) + c * 1 := by lia
   rw [e, Int.add_mul_ediv_left _ _ (by lia)]
   have : 0 <= (j - 0 - 1) / c := Int.ediv_nonneg (by lia) (by lia)
   lia
  ·rw [if_neg h]
   have : (j + c - 1) / c <= 0 := by
    have h3 : (j + c - 1) / c < 1 := by
     refine Int.ediv_lt_of_lt_mul hc ?_
     lia
    lia
   lia
 have hb : (((j + c - 1) / c).toNat : Int) <= 2000000 := by
  have : (j + c - 1) / c <= 2000000 := by
   by_cases h : 0 <= j + c - 1
   ·exact Int.le_trans (Int.ediv_le_self _ h) (by lia)
   ·have : (j + c - 1) / c < 0 := Int.ediv_neg_of_neg_of_pos (by lia) hc
    lia
  lia
 refine ⟨by lia, by lia, ?_, hsz⟩
 unfold Builtin.Range.small
 rw [hsz, fit 0 (by decide), fit j ⟨Int.lt_trans (by decide) hj, Int.lt_trans hj2 (by decide)⟩, fit c ⟨Int.lt_trans (by decide) hc, Int.lt_trans hc2 (by decide)⟩, fit _ (by lia), if_pos (by lia), fit (j + (c - 1)) (by lia)]
 simp
theorem Yd {i j c : Int} {l : List Int} (h : jr i j c = some l) : ∃ n, RgC i j c n /\ l.length = n /\ ∀ k : Nat, k < n -> l[k]? = some (i + k * c) := by
 unfold jr at h
 by_cases b : (-1000000 < i /\ i < 1000000) /\ (-1000000 < j /\ j < 1000000) /\ (-1000000 < c /\ c < 1000000)
 ·rw [if_pos b] at h
  by_cases c1 : c = -1
  ·rw [if_pos c1] at h
   cases h
   subst c1
   refine ⟨(i - j).toNat, RgC.neg (by lia) (by lia) (by lia) (by lia), by rw [List.length_map, List.length_range], fun k hk => ?_⟩
   rw [List.getElem?_map, List.getElem?_range hk]
   show some (i - (k : Int)) = some (i + (k : Int) * -1)
   congr 1
   lia
  ·rw [if_neg c1] at h
   by_cases c2 : 0 < c /\ i = 0
   ·rw [if_pos c2] at h
    cases h
    obtain ⟨c3, rfl⟩ := c2
    refine ⟨((j + c - 1) / c).toNat, RgC.up c3 (by lia) (by lia) (by lia), by rw [List.length_map, List.length_range], fun k hk => ?_⟩
    rw [List.getElem?_map, List.getElem?_range hk, Int.zero_add]
    rfl
   ·rw [if_neg c2] at h
    cases h
 ·rw [if_neg b] at h
  cases h
theorem Vt {i : Nat} {tgE a b c : Expr} {r q t : RE} {p : Pos} (hg : Gl X "range") (hm : X.mg "range" = none) (ha : PE X a (TEx X E r)) (hb : PE X b (TEx X E q)) (hc : PE X c (TEx X E t)) (hs : autoParam (starEach [a, b, c] X.env = (false, eval a X.env) :: starEach [b, c] X.env) qj._auto_1)
  (hs2 : autoParam (starEach [b, c] X.env = (false, eval b X.env) :: starEach [c] X.env) qj._auto_1) (hs3 : autoParam (starEach [c] X.env = (false, eval c X.env) :: starEach [] X.env) qj._auto_1) (hpl : autoParam ((backTo pos (starEach [b, c] X.env)).any (·.1) = false) qj._auto_1) :
  PI X tgE (.Call (.Name "range" p) [a, b, c] [] pos) (tI X E (vz i) (.one i) (zE r q t)) := by
 refine zN (VN hg hm (vA ha (vA hb (vA hc wH hs3) hs2) hs) hs hpl) fun σ H R ⟨B, δ, R0, h⟩ => ⟨B, δ, R0, ?_⟩
 refine qh.imp (qh.bind h) fun x h1 v H1 s1 vr => ⟨B, δ, R0.more s1, ?_⟩
 refine qh.imp (qh.more (qh.bind h1) s1) fun y h2 w H2 s2 vw => ⟨B, δ, (R0.more s1).more s2, ?_⟩
 refine qh.imp (qh.more (qh.more (qh.bind h2) s1) s2) fun z h3 u H3 s3 vu => ?_
 obtain ⟨d, k⟩ := x
 obtain ⟨d', k'⟩ := y
 obtain ⟨d2, k2⟩ := z
 have vr : VR X.mg X.K B H H1 σ δ k v d := vr
 have vw : VR X.mg X.K B H1 H2 σ δ k' w d' := vw
 have vu : VR X.mg X.K B H2 H3 σ δ k2 u d2 := vu
 have key : ∀ i1 j1 c1 : Int, d = .int i1 -> d' = .int j1 -> d2 = .int c1 -> ∃ (i j c : Int) (n : Nat), [v, w, u] = [.int i, .int j, .int c] /\ RgC i j c n /\ R (Itc i c n) H3 := fun i1 j1 c1 e1 e2 e3 => by
  subst e1 e2 e3
  have ev := qI R0 vr
  have ew := qI (R0.more s1) vw
  have eu := qI ((R0.more s1).more s2) vu
  subst ev ew eu
  have h3 : qh X.mg E H (match jr i1 j1 c1 with | some l => .ok (true, l.map fun n => (D.int n, Kd.nw)) | none => .no) fun x => ∀ J H1, qg H H1 -> Walks X B H1 σ δ (vz i) (.one i) J x.1 x.2 -> R J H1 := h3
  cases hr : jr i1 j1 c1 with
  | none => rw [hr] at h3; exact h3.elim
  | some l =>
   rw [hr] at h3
   obtain ⟨n, rg, hl, hk⟩ := Yd hr
   refine ⟨i1, j1, c1, n, rfl, rg, h3 _ H3 (s1.trans (s2.trans s3)) ⟨fun B' n' x σ' δ' δ2 H2 hx R' f hp => ?_, fun B' n' σ' δ' H2 hn R' f => (show n <= n' by rw [List.length_map, hl] at hn; exact hn)⟩⟩
   have hlt : n' < n := by
    have := (List.getElem?_eq_some_iff.mp hx).1
    rw [List.length_map, hl] at this
    exact this
   rw [List.getElem?_map, hk n' hlt] at hx
   cases hx
   refine ⟨hlt, fun u H3 hy Q hQ => ?_⟩
   obtain ⟨rfl, rfl⟩ := hy
   have hp : put i (D.int (i1 + (n' : Nat) * c1), .nw) δ' = some δ2 := hp
   have q := xP (v := .int (i1 + (n' : Nat) * c1)) R' (Rp.int _) hp
   exact hQ _ _ q.1 q.2 qg.refl ⟨_, rfl⟩
 obtain ⟨i1, j1, c1, e1, e2, e3, _⟩ := UO h3
 exact key i1 j1 c1 e1 e2 e3
end
section
variable {P : Program} {w : World} {K : PySem.W.Frag} {mg : Str -> Option Value} {base : Heap}
noncomputable abbrev QB (P : Program) (w : World) (K : PySem.W.Frag) (mg : Str -> Option Value) (base : Heap) (k : Nat) (N : List Str) (q : Str) (st : Stmt) (f : Addr) (t : XK -> TS) : Prop := ∀ (cdv : Value) (A : Around) (outer : List Env) (s : Shared) (H : Hp) (E : XK), qZ k (A.deeper (envOfC q (qa st) s.heap.objs.size f cdv)) -> N.Nodup -> Gd (z5 P w K mg base N q (qa st) f cdv A outer s H E) E -> PSs (z5 P w K mg base N q (qa st) f cdv A outer s H E) (qE st) (t E)
theorem fd2 {x : Str} {st : Stmt} {f : Addr} {fd : FuncData} {N ps : List Str} {k n : Nat} {g : Fn} {r : RS} (F : Fun K x x st f fd) (S : qr N ps (qa st)) (hm : mg x = some (.ref f)) (hb : Binds K fd ps []) (hn : ps.length = n) (body : QB P w K mg base k N x st f fun E => tS mg K E r)
  (hr : ∀ ds : List D, ds.length = n -> g ds = .no \/ res (r (sl0 N ds)) = g ds) : Fd P w K mg base (k + 1) x n g := Ur F S hm hb hn (fun cdv A outer s H E h => body cdv A outer s H E h S.nd (uY S.nd)) hr
theorem UN {x : Str} {st : Stmt} {f : Addr} {fd : FuncData} {N ps : List Str} {k n : Nat} {r : RM} {g : Fn} (F : Fun K x x st f fd) (S : qr N ps (qa st)) (hm : mg x = some (.ref f)) (hb : Binds K fd ps []) (hn : ps.length = n) (body : QB P w K mg base k N x st f fun E => tM mg K E r)
  (hg : ∀ ds, g ds = Zt (r ⟨ms0 N (it0 ds), []⟩)) : Fd P w K mg base (k + 1) x n g := Xc F S hm hb hn (fun cdv A outer s H E h => body cdv A outer s H E h S.nd (uY S.nd)) hg
end
end L2.Ir
namespace L2.Ir
open PySem PySem.Spec PyProof.Rows
open PySem.W (WData Codec OpenSpec Well WellAll ReadsW ReadsAllW)
section
variable {mg : Str -> Option Value} {K : PySem.W.Frag}
theorem jI {H : Hp} {PT a : Addr} {ps : Array Value} {u : HO} (hP : H PT = some (.tbl ps)) (h : Rd H a u) (n : ∀ qs, u ≠ .tbl qs) : a ≠ PT := fun z => by
 subst z
 rcases h with h | ⟨o, h⟩
 ·rw [hP] at h; exact n _ (Option.some.inj h).symm
 ·rw [hP] at h; cases h
mutual
/-- no address of a datum is that of a code's table -/
theorem Rp.apart {G : Addr -> Prop} {H : Hp} {PT : Addr} {ps : Array Value} (hP : H PT = some (.tbl ps)) : ∀ (d : D) (v : V), Rp mg K G H v d -> Rp mg K (fun a => G a /\ a ≠ PT) H v d
 | .non, _, h => by cases h; exact .non
 | .bl b, _, h => by cases h; exact .bl b
 | .int i, _, h => by cases h; exact .int i
 | .fn x, _, h => by cases h with | fn e => exact .fn e
 | .lst ds, _, h => by
  cases h with
  | lst g s r => exact .lst ⟨g, jI hP s fun _ z => nomatch z⟩ s (qd.apart hP ds _ r)
  | lstK s r => exact .lstK s (qd.apart hP ds _ r)
 | .tup ds, _, h => by
  cases h with
  | tup g s r => exact .tup ⟨g, jI hP s fun _ z => nomatch z⟩ s (qd.apart hP ds _ r)
  | tupK s r => exact .tupK s (qd.apart hP ds _ r)
 | .obj c ns ds, _, h => by
  cases h with
  | obj g m s l r => exact .obj ⟨g, fun z => by rw [z, hP] at s; cases s⟩ m s l (qd.apart hP ds _ r)
theorem qd.apart {G : Addr -> Prop} {H : Hp} {PT : Addr} {ps : Array Value} (hP : H PT = some (.tbl ps)) : ∀ (ds : List D) (vs : List V), qd mg K G H vs ds -> qd mg K (fun a => G a /\ a ≠ PT) H vs ds
 | [], _, h => by cases h; exact .nil
 | d :: ds, _, h => by cases h with | cons a b => exact .cons (Rp.apart hP d _ a) (qd.apart hP ds _ b)
end
theorem X7 {H0 H : Hp} {σ : St} {δ : Dl} (same : qg H0 H) (len : σ.length = δ.length) (val : ∀ (i : Nat) (d : D) (k : Bool), δ[i]? = some (.val d k) -> ∃ v, σ[i]? = some (some v) /\ Rp mg K (fun a => k = true -> H0 a = none) H v d)
  (no : ∀ (i : Nat) (es : List D), δ[i]? ≠ some (.own es)) : Rl mg K ⟨H0, fun _ => False⟩ H σ δ := by
 have own : ∀ {p : Addr}, ¬ qA ⟨H0, fun _ => False⟩ σ δ p := fun {p} h => by
  rcases h with h | ⟨i, es, e, _⟩
  ·exact h
  ·exact no i es e
 exact ⟨same, fun _ h => h.elim, len, fun i d k e => let ⟨v, h1, h2⟩ := val i d k e; ⟨v, h1, h2.weak fun a g => ⟨own, g⟩⟩, fun i ds e => absurd e (no i ds), fun i j p ds es e _ _ _ => absurd e (no i ds)⟩
theorem Yv {N : List Str} {ds : List D} {i : Nat} {s : Sl} (e : (sl0 N ds)[i]? = some s) : (∃ d, ds[i]? = some d /\ s = .val d false) \/ s = .un := by
 unfold sl0 at e
 by_cases h : i < ds.length
 ·rw [List.getElem?_append_left (by rw [List.length_map]; exact h), List.getElem?_map, List.getElem?_eq_getElem h] at e
  exact .inl ⟨ds[i], List.getElem?_eq_getElem h, (Option.some.inj e).symm⟩
 ·rw [List.getElem?_append_right (by rw [List.length_map]; lia)] at e
  exact .inr (List.mem_replicate.mp (List.mem_of_getElem? e)).2
end
section
variable {P : Program} {w : World} {K : PySem.W.Frag} {mg : Str -> Option Value} {base : Heap}
noncomputable def uV (mg : Str -> Option Value) (K : PySem.W.Frag) (g : Fn) (PT : Addr) : Sp := fun vs H Q _ => ∃ (ns kz : List Int), H PT = some (.tbl #[]) /\ qd mg K (fun _ => True) H vs [.lst (ns.map D.int)] /\ ns.length < 1000000 /\ kz.length = ns.length /\
 (∀ (i : Nat) (n k : Int), ns[i]? = some n -> kz[i]? = some k -> g [.int n] = .ok (.int k, false)) /\
 ∀ more H2 p (out : List Nat), qg (upd H PT (.tbl more)) H2 -> H2 p = none -> Wq kz out -> Q (.ref p) (upd H2 p (.lst (out.map fun (i : Nat) => V.int i)))
theorem XT {g : Fn} {ns : List Int} {i : Nat} {n k : Int} (h : ns[i]? = some n) (hg : g [.int n] = .ok (.int k, false)) : qm g (qf (qF oIx (qc 0) (qc 1)) qu) [.val (.lst (ns.map D.int)) false, .val (.int (i : Nat)) false] = .ok (.int k, .nw) := by
 have hi : i < ns.length := (List.getElem?_eq_some_iff.mp h).1
 have e1 : qF oIx (qc 0) (qc 1) [.val (.lst (ns.map D.int)) false, .val (.int (i : Nat)) false] = .ok (.int n, .sh) := by
  show oIx (.lst (ns.map D.int), .sh) (.int (i : Nat), .sh) = _
  have e : y9 (ns.map D.int).length (i : Nat) = some i := by
   unfold y9
   rw [if_pos (by lia), if_pos (by rw [List.length_map]; lia), Int.toNat_natCast]
  unfold oIx
  dsimp only
  rw [e]
  show (match (ns.map D.int)[i]? with | some d => Rs.ok (d, Kd.low .sh .nw) | none => Rs.no) = _
  rw [List.getElem?_map, h]
  rfl
 unfold qm qf
 rw [e1]
 show (g [.int n]).bind _ = _
 rw [hg]
 rfl
theorem ZH {x : Str} {st : Stmt} {f c PT : Addr} {fd : FuncData} {k : Nat} {g : Fn} {p p2 p3 p4 pos pos2 pos3 rpos lpos kpos : Pos} {params : Arguments} {body : Expr} {ls : Scope}
  (F : Fun K x x st f fd) (S : qr ["d"] ["d"] (qa st)) (htab : PySem.W.tabIn K x = some (c, PT)) (hns : PySem.W.nsIn K mainGlobals x = some (some (.ref f))) (BL : qU mg base c PT)
  (hbody : qE st = [.Return (some (.Call (.Name "sorted" p) [.Call (.Name "range" p2) [.Call (.Name "len" p3) [.Name "d" p4] [] pos3] [] pos2] [⟨some "key", .Lambda params body ls lpos, kpos⟩] pos)) rpos])
  (L : w9 (qa st) ls "i") (hd : (qa st).names.lookup ("d" : Str) = some .cell) (g1 : (qa st).names.lookup ("sorted" : Str) = some .globalImplicit) (g2 : (qa st).names.lookup ("range" : Str) = some .globalImplicit) (g3 : (qa st).names.lookup ("len" : Str) = some .globalImplicit)
  (m1 : mg "sorted" = none) (m2 : mg "range" = none) (m3 : mg "len" = none) (hdef : ∀ env : Env, defaultsOf params env = ([], []))
  (hbind : ∀ (q : Str) (c' : Addr) (clos : List (Str × Addr)) (pm ctv u : Value), bindArgs (PySem.W.kla_fn "<lambda>" q params body ls clos pm (.ref c') ctv) ⟨[u], []⟩ = pure [(("i" : Str), u)])
  (hcall : ∀ (cdv : Value) (A : Around) (outer : List Env) (s0 : Shared) (H0 : Hp) (E0 : XK) (A2 : Around) (q : Str) (f' : Addr) (cd : Value) (s : Shared) (H : Hp), qZ k (A2.deeper (vJ (we (CX1 P w) P w K mg base ["d"] x (qa st) f cdv A outer s0 H0 E0) q ls f' cd s)) ->
   PE (zw (we (CX1 P w) P w K mg base ["d"] x (qa st) f cdv A outer s0 H0 E0) A2 q ls "i" f' cd s H) body (tE mg K (fun _ _ _ => False) (qm g (qf (qF oIx (qc 0) (qc 1)) qu)))) :
  wL P w K mg base (CX1 P w) (k + 3 + 1) f fd ["d"] (uV mg K g PT) := by
 obtain ⟨oc, od, kV, doc, pm, an, cdv, ct, osl, rfl, lk, hcd⟩ := F.ex
 have hc : cdv = .ref c := jt htab hns lk
 refine uj lk hcd S ?_ fun A outer s H vs Q E hroom hsp => ?_
 ·rintro vs H Q E ⟨ns, kz, _, rp, _⟩
  exact rp.len
 ·obtain ⟨ns, kz, hP, rp, hn, hl, hk, hQ⟩ := hsp
  rw [hbody]
  refine ⟨_, wG (z8 (Qm (X := we (CX1 P w) P w K mg base ["d"] x (qa st) f cdv A outer s H E) (c := c) (P := PT) (k := k) (y := "i") (tb := tE mg K (fun _ _ _ => False) (qm g (qf (qF oIx (qc 0) (qc 1)) qu)))
   BL hc rfl rfl L (show ("i" : Str) ∉ (["d"] : List Str) by decide) (hdef _) hroom rfl g1 m1 (W4 g2 m2 (qk (xA (E := E) (w6 vy g3 m3 wA (qk (xv 0 (hv := .inr (.inl hd))) qD)) xB) qD)) (fun c' clos pm ctv u => hbind _ c' clos pm ctv u)
   (fun f' cd s' H' hr' => hcall _ _ _ _ _ _ _ _ f' cd s' H' hr'))), ?_⟩
  have hv : ∃ v, vs = [v] := by
   match vs, rp with
   | [v], _ => exact ⟨v, rfl⟩
   | [], h => exact absurd h.len (by simp)
   | _ :: _ :: _, h => exact absurd h.len (by simp)
  obtain ⟨v, rfl⟩ := hv
  refine ⟨⟨H, fun _ => False⟩, sl0 ["d"] [.lst (ns.map D.int)], rl0 rp, ?_⟩
  intro us H1 s1 vr
  obtain ⟨v1, rfl, vr1⟩ := ZO vr
  have e1 := qI (rl0 (N := ["d"]) rp) vr1
  subst e1
  refine ⟨_, rfl, fun q hq => ?_⟩
  have hP1 := s1 _ _ hP
  have hPq : PT ≠ q := qp hP1 hq
  refine ⟨q, ns.length, kz, rfl, by rw [qo, List.length_map], hn, hl, by rw [qe hPq]; exact hP1, fun more H2 i k sm hk' => ?_, fun more H2 p out sm hp st => ?_⟩
  ·have sH : ∀ a o, a ≠ PT -> H a = some o -> H2 a = some o := fun a o ha e => sm a o (by rw [qe ha, qe (qp (s1 a o e) hq)]; exact s1 a o e)
   have rp2 : qd mg K (fun _ => True) H2 [v] [.lst (ns.map D.int)] := qd.mono (fun a g => ⟨trivial, fun o e => sH a o g.2 e⟩) _ _ (qd.apart hP _ _ rp)
   have rp3 : qd mg K (fun _ => True) H2 [v, .int (i : Nat)] [.lst (ns.map D.int), .int (i : Nat)] := by
    cases rp2 with
    | cons a b => exact .cons a (.cons (.int _) .nil)
   obtain ⟨n, hni⟩ : ∃ n, ns[i]? = some n := ⟨_, List.getElem?_eq_getElem (by have := (List.getElem?_eq_some_iff.mp hk').1; lia)⟩
   refine ⟨⟨H2, fun _ => False⟩, sl0 ["d", "i"] [.lst (ns.map D.int), .int (i : Nat)], rl0 (N := ["d", "i"]) rp3, ?_⟩
   show Fin _ _ _ _ _ _ _ (qm g (qf (qF oIx (qc 0) (qc 1)) qu) [.val (.lst (ns.map D.int)) false, .val (.int (i : Nat)) false]) _
   rw [XT hni (hk i n k hni hk')]
   exact fun v' H3 s3 vr => ⟨qI (rl0 (N := ["d", "i"]) rp3) vr, s3⟩
  ·refine hQ more H2 p out (fun b o e => sm b o ?_) hp st
   by_cases hb : b = PT
   ·subst hb
    rw [qo] at e ⊢
    exact e
   ·rw [qe hb] at e ⊢
    rw [qe (qp (s1 b o e) hq)]
    exact s1 b o e
noncomputable def tT3 (mg : Str -> Option Value) (K : PySem.W.Frag) (E : XK) (PT : Addr) (g : Fn) (re1 re2 : RE) (r45 : RS) : TS :=
 Zp (tS mg K E (ve re1)) (Zp (tS mg K E (ve re2)) (Zp (Wd (uh (uV mg K g PT) [] E (tA mg K E (qf (qc 1) qu))) (vz 3)) (tS mg K E r45)))
noncomputable def rT3 (re1 re2 : RE) (gr : Fn) (r45 : RS) : RS := wg (ve re1) (wg (ve re2) (wg (z0 3 (qm gr (qf (qc 1) qu))) r45))
noncomputable def spT (mg : Str -> Option Value) (K : PySem.W.Frag) (PT : Addr) (gs : Fn) : Sp := fun vs H Q E => ∃ ds, ds.length = 3 /\ H PT = some (.tbl #[]) /\ qd mg K (fun _ => True) H vs ds /\ (match gs ds with
 | .ok (.lst zs, true) => ∀ H' p, H' p = some (.lst (zs.map toV)) -> Q (.ref p) H'
 | .er c => ∀ C H', mg c = some (.ref C) -> E (.ref C) none H'
 | _ => False)
noncomputable def Wz (g gr : Fn) : Prop := ∀ d, gr [d] = .no \/ ∃ (ns kz : List Int) (l : List Nat), d = .lst (ns.map D.int) /\ ns.length < 1000000 /\ kz.length = ns.length /\ (∀ (i : Nat) (n k : Int), ns[i]? = some n -> kz[i]? = some k -> g [.int n] = .ok (.int k, false)) /\
 (∀ out, Wq kz out -> out = l) /\ gr [d] = .ok (.lst (l.map fun (i : Nat) => D.int i), false)
theorem j8 {a b : RS} {δ δ1 : Dl} (h : a δ = .nx δ1) : wg a b δ = b δ1 := by unfold wg; rw [h]; rfl
theorem We {a b : RS} {δ : Dl} {c : Str} (h : a δ = .er c) : wg a b δ = .er c := by unfold wg; rw [h]; rfl
theorem jV {a b : RS} {δ : Dl} (h : a δ = .no) : wg a b δ = .no := by unfold wg; rw [h]; rfl
theorem WA {x : Str} {st : Stmt} {f PT : Addr} {fd : FuncData} {N ps : List Str} {k : Nat} {g gr gs : Fn} {re1 re2 : RE} {r45 : RS} (F : Fun K x x st f fd) (S : qr N ps (qa st)) (hps : ps.length = 3) (hN : 3 < N.length)
  (body : QB P w K mg base k N x st f fun E => tT3 mg K E PT g re1 re2 r45) (hrise : Wz g gr) (hgs : ∀ ds, gs ds = res (rT3 re1 re2 gr r45 (sl0 N ds))) : wL P w K mg base (CX1 P w) (k + 1) f fd ps (spT mg K PT gs) := by
 obtain ⟨oc, od, kV, doc, pm, an, cdv, ct, osl, rfl, lk, hcd⟩ := F.ex
 refine uj lk hcd S ?_ fun A outer s H vs Q E hroom hsp => ?_
 ·rintro vs H Q E ⟨ds, hl, _, rp, _⟩
  rw [rp.len, hl, hps]
 ·obtain ⟨ds, hl, hP, rp, h⟩ := hsp
  refine ⟨_, zz (body cdv A outer s H E hroom S.nd (uY S.nd)) yO, ?_⟩
  rw [hgs ds] at h
  have R0 : Rl mg K ⟨H, fun _ => False⟩ H (start N vs) (sl0 N ds) := rl0 rp
  unfold rT3 at h
  have dl : ∃ d1, ds[1]? = some d1 := ⟨_, List.getElem?_eq_getElem (by lia)⟩
  obtain ⟨d1, hd1⟩ := dl
  have sl1 : (sl0 N ds)[1]? = some (.val d1 false) := by
   unfold sl0
   rw [List.getElem?_append_left (by rw [List.length_map]; lia), List.getElem?_map, hd1]
   rfl
  have slen : (sl0 N ds).length = N.length := by
   unfold sl0
   rw [List.length_append, List.length_map, List.length_replicate]
   have : N.take ps.length = ps := S.pre
   lia
  have at_ := fun {i : Nat} {s : Sl} (e : (sl0 N ds)[i]? = some s) => Yv e
  refine ⟨⟨H, fun _ => False⟩, sl0 N ds, R0, ?_⟩
  generalize sl0 N ds = δ at *
  cases h1 : re1 δ with
  | no =>
   rw [jV (by unfold ve; rw [h1])] at h
   exact h.elim
  | er c =>
   have e1 : ve re1 δ = .er c := by unfold ve; rw [h1]
   rw [e1]
   rw [We e1] at h
   exact fun C H' hC _ => h C H' hC
  | ok y1 =>
   have e1 : ve re1 δ = .nx δ := by unfold ve; rw [h1]
   rw [e1]
   rw [j8 e1] at h
   intro σ1 H1 R1 _
   refine ⟨⟨H, fun _ => False⟩, δ, R1, ?_⟩
   cases h2 : re2 δ with
   | no =>
    rw [jV (by unfold ve; rw [h2])] at h
    exact h.elim
   | er c =>
    have e2 : ve re2 δ = .er c := by unfold ve; rw [h2]
    rw [e2]
    rw [We e2] at h
    exact fun C H' hC _ => h C H' hC
   | ok y2 =>
    have e2 : ve re2 δ = .nx δ := by unfold ve; rw [h2]
    rw [e2]
    rw [j8 e2] at h
    intro σ2 H2 R2 _
    refine ⟨⟨H, fun _ => False⟩, δ, R2, ?_⟩
    have ea : qf (qc 1) qu δ = .ok [(d1, .sh)] := by
     unfold qf qc
     rw [sl1]
     rfl
    rw [ea]
    intro us H3 s3 vr
    obtain ⟨v1, rfl, vr1⟩ := ZO vr
    rcases hrise d1 with er | ⟨ns, kz, l, rfl, hn, hlk, hk, huniq, er⟩
    ·have this : z0 3 (qm gr (qf (qc 1) qu)) δ = .no := by
      have e : qm gr (qf (qc 1) qu) δ = .no := by
       unfold qm
       rw [ea]
       show (gr [d1]).bind _ = _
       rw [er]
       rfl
      unfold z0
      rw [e]
     rw [jV this] at h
     exact h.elim
    ·have es : z0 3 (qm gr (qf (qc 1) qu)) δ = .nx (δ.set 3 (.val (.lst (l.map fun (i : Nat) => D.int i)) true)) := by
      have e : qm gr (qf (qc 1) qu) δ = .ok (.lst (l.map fun (i : Nat) => D.int i), .nw) := by
       unfold qm
       rw [ea]
       show (gr [D.lst (ns.map D.int)]).bind _ = _
       rw [er]
       rfl
      unfold z0
      rw [e]
      rfl
     rw [j8 es] at h
     have hP2 : H2 PT = some (.tbl #[]) := R2.same _ _ hP
     refine ⟨ns, kz, s3 _ _ hP2, .cons (vr1.rp R2) .nil, hn, hlk, hk, fun more H4 p out sm hp st => ?_⟩
     have e := huniq out st
     subst e
     have toH4 : ∀ a o, a ≠ PT -> H2 a = some o -> upd H4 p (.lst (out.map fun (i : Nat) => V.int i)) a = some o := fun a o ha e => by
      have e4 := sm a o (by rw [qe ha]; exact s3 a o e)
      rw [qe (qp e4 hp)]
      exact e4
     have sl2 : σ2.length = δ.length := R2.len
     refine ⟨⟨H4, fun _ => False⟩, δ.set 3 (.val (.lst (out.map fun (i : Nat) => D.int i)) true), X7 (qQ hp) (by rw [List.length_set, List.length_set]; exact sl2) (fun i d k e => ?_) (fun i es e => ?_), ?_⟩
     ·by_cases h3 : 3 = i
      ·subst h3
       rw [List.getElem?_set_self (by rw [slen]; exact hN)] at e
       cases e
       refine ⟨.ref p, List.getElem?_set_self (by rw [sl2, slen]; exact hN), .lst (fun _ => hp) (.inl qo) ?_⟩
       have e : out.map (fun (i : Nat) => V.int i) = (out.map fun (i : Nat) => D.int i).map toV := by rw [List.map_map]; rfl
       rw [e]
       exact qd.vg (by rw [List.all_map]; exact List.all_eq_true.mpr fun _ _ => rfl)
      ·rw [List.getElem?_set_ne h3] at e ⊢
       have hkf : k = false := by
        rcases at_ e with ⟨d', _, z⟩ | z
        ·cases z; rfl
        ·cases z
       obtain ⟨v, hv, rv⟩ := R2.val i d k e
       refine ⟨v, hv, Rp.mono (fun a g => ⟨fun z => absurd (hkf.symm.trans z) Bool.false_ne_true, fun o e => toH4 a o g.2 e⟩) _ _ (Rp.apart hP2 _ _ rv)⟩
     ·by_cases h3 : 3 = i
      ·subst h3
       rw [List.getElem?_set_self (by rw [slen]; exact hN)] at e
       cases e
      ·rw [List.getElem?_set_ne h3] at e
       rcases at_ e with ⟨d', _, z⟩ | z <;> cases z
     ·generalize r45 (δ.set 3 (.val (.lst (out.map fun (i : Nat) => D.int i)) true)) = o at h ⊢
      cases o with
      | nx δ' => exact h.elim
      | bk δ' => exact h.elim
      | ct δ' => exact h.elim
      | no => exact h.elim
      | er c => exact fun C H' hC _ => h C H' hC
      | rt d k =>
       intro v H' _ rr
       cases k with
       | false => cases d <;> exact h.elim
       | true =>
        obtain ⟨p', es, rfl, rfl, _, _, hp'⟩ := rr
        exact h H' p' hp'
end
end L2.Ir
set_option maxHeartbeats 2000000
namespace Gr
open PySem L2 L2.Ir Dt
theorem yf (x : Nat) : Pv.mag (Dm.sz x) = Pv.mag x := by
 have e1 : Pv.exponent (Dm.sz x) = Pv.exponent x := by
  unfold Pv.exponent Dm.sz
  rw [show (2 : Nat) ^ 63 = 2 ^ 52 * 2048 by decide, Nat.mod_mul_right_div_self, Nat.mod_mod]
 have e2 : Dm.sz x % 2 ^ 52 = x % 2 ^ 52 := by
  unfold Dm.sz
  exact Nat.mod_mod_of_dvd _ ⟨2048, by decide⟩
 unfold Pv.mag
 rw [e1, e2]
theorem Zc {x y : Nat} (hx : x < 2 ^ 64) (hy : y < 2 ^ 64) : Pv.less x y = decide (rk x < rk y) := by
 have bx : Dm.sz x < 2 ^ 63 := Nat.mod_lt _ (by decide)
 have bY : Dm.sz y < 2 ^ 63 := Nat.mod_lt _ (by decide)
 have zx := Dm.zT x
 have zy := Dm.zT y
 have hlt : Dm.sz x < Dm.sz y -> Pv.mag x < Pv.mag y := fun h => by rw [<- yf x, <- yf y]; exact jJ h bY
 have hgt : Dm.sz y < Dm.sz x -> Pv.mag y < Pv.mag x := fun h => by rw [<- yf x, <- yf y]; exact jJ h bx
 have heq : Dm.sz x = Dm.sz y -> Pv.mag x = Pv.mag y := fun h => by rw [<- yf x, <- yf y, h]
 unfold Pv.less Pv.val rk
 rw [Dm.jH x hx, Dm.jH y hy]
 generalize Dm.sz x = a at *
 generalize Dm.sz y = b at *
 generalize Pv.mag x = A at *
 generalize Pv.mag y = B at *
 have tri : (a < b /\ A < B) \/ (a = b /\ A = B) \/ (b < a /\ B < A) := by
  rcases Nat.lt_trichotomy a b with h | h | h
  ·exact .inl ⟨h, hlt h⟩
  ·exact .inr (.inl ⟨h, heq h⟩)
  ·exact .inr (.inr ⟨h, hgt h⟩)
 refine decide_eq_decide.mpr ?_
 by_cases c : Dm.sg x = 1
 ·rw [if_pos (decide_eq_true c), if_pos c]
  by_cases d : Dm.sg y = 1
  ·rw [if_pos (decide_eq_true d), if_pos d]
   clear zx zy hlt hgt heq
   lia
  ·rw [if_neg (by rw [decide_eq_false d]; exact Bool.false_ne_true), if_neg d]
   clear hlt hgt heq
   lia
 ·rw [if_neg (by rw [decide_eq_false c]; exact Bool.false_ne_true), if_neg c]
  by_cases d : Dm.sg y = 1
  ·rw [if_pos (decide_eq_true d), if_pos d]
   clear hlt hgt heq
   lia
  ·rw [if_neg (by rw [decide_eq_false d]; exact Bool.false_ne_true), if_neg d]
   clear zx zy hlt hgt heq
   lia
theorem ug : ∀ (ps qs : List (Int × Nat)), ps.Pairwise (fun p q => p.1 <= q.1) -> qs.Pairwise (fun p q => p.1 <= q.1) -> (∀ c, ps.filter (fun p => p.1 == c) = qs.filter (fun p => p.1 == c)) -> ps = qs
 | [], [], _, _, _ => rfl
 | [], q :: qs, _, _, h => by
  have := h q.1
  rw [List.filter_cons_of_pos (by simp)] at this
  cases this
 | p :: ps, [], _, _, h => by
  have := h p.1
  rw [List.filter_cons_of_pos (by simp)] at this
  cases this
 | p :: ps, q :: qs, h1, h2, h => by
  obtain ⟨a1, a2⟩ := List.pairwise_cons.mp h1
  obtain ⟨b1, b2⟩ := List.pairwise_cons.mp h2
  have m1 : p ∈ (q :: qs).filter (fun x => x.1 == p.1) := by rw [<- h p.1]; exact List.mem_filter.mpr ⟨.head _, by simp⟩
  have m2 : q ∈ (p :: ps).filter (fun x => x.1 == q.1) := by rw [h q.1]; exact List.mem_filter.mpr ⟨.head _, by simp⟩
  have l1 : q.1 <= p.1 := by
   rcases List.mem_cons.mp (List.mem_filter.mp m1).1 with e | e
   ·rw [e]; exact Int.le_refl _
   ·exact b1 p e
  have l2 : p.1 <= q.1 := by
   rcases List.mem_cons.mp (List.mem_filter.mp m2).1 with e | e
   ·rw [e]; exact Int.le_refl _
   ·exact a1 q e
  have e : p.1 = q.1 := Int.le_antisymm l2 l1
  have k := h p.1
  rw [List.filter_cons_of_pos (by simp), List.filter_cons_of_pos (by simp [e])] at k
  have epq : p = q := (List.cons.inj k).1
  subst epq
  rw [ug ps qs a2 b2 fun c => ?_]
  by_cases hc : (p.1 == c) = true
  ·have k := h c
   rw [List.filter_cons_of_pos (p := fun x : Int × Nat => x.1 == c) hc, List.filter_cons_of_pos (p := fun x : Int × Nat => x.1 == c) hc] at k
   exact (List.cons.inj k).2
  ·have k := h c
   rw [List.filter_cons_of_neg (p := fun x : Int × Nat => x.1 == c) hc, List.filter_cons_of_neg (p := fun x : Int × Nat => x.1 == c) hc] at k
   exact k
noncomputable def keyOf (d : List Nat) (i : Nat) : Int := rk (Pv.rowOf d i)
theorem WT {d : List Nat} (h : ∀ v ∈ d, v < 2 ^ 64) (i : Nat) : ∀ (r : List Nat), r.Pairwise (fun a b => keyOf d a <= keyOf d b) ->
  (Pv.putPlace d i r).Pairwise (fun a b => keyOf d a <= keyOf d b) /\ (∀ c, (Pv.putPlace d i r).filter (fun a => keyOf d a == c) = r.filter (fun a => keyOf d a == c) ++ [i].filter (fun a => keyOf d a == c)) /\ (∀ a, a ∈ Pv.putPlace d i r ↔ a = i \/ a ∈ r) /\ (Pv.putPlace d i r).length = r.length + 1
 | [], _ => ⟨List.pairwise_singleton .., fun c => rfl, fun a => by show a ∈ [i] ↔ _; simp, rfl⟩
 | j :: r, hp => by
  obtain ⟨h1, h2⟩ := List.pairwise_cons.mp hp
  have b64 : ∀ k, Pv.rowOf d k < 2 ^ 64 := fun k => by
   unfold Pv.rowOf
   rw [List.getD_eq_getElem?_getD]
   cases e : d[k]? with
   | none => show 0 < 2 ^ 64; decide
   | some v => exact h v (List.mem_of_getElem? e)
  have hl : Pv.less (Pv.rowOf d i) (Pv.rowOf d j) = decide (keyOf d i < keyOf d j) := Zc (b64 i) (b64 j)
  by_cases c : keyOf d i < keyOf d j
  ·have e : Pv.putPlace d i (j :: r) = i :: j :: r := by
    show (if Pv.less (Pv.rowOf d i) (Pv.rowOf d j) = true then i :: j :: r else j :: Pv.putPlace d i r) = _
    rw [hl, if_pos (decide_eq_true c)]
   rw [e]
   refine ⟨List.pairwise_cons.mpr ⟨fun b hb => ?_, hp⟩, fun k => ?_, fun a => by simp, rfl⟩
   ·rcases List.mem_cons.mp hb with rfl | hb
    ·exact Int.le_of_lt c
    ·exact Int.le_trans (Int.le_of_lt c) (h1 b hb)
   ·by_cases hk : (keyOf d i == k) = true
    ·have z : (j :: r).filter (fun a => keyOf d a == k) = [] := List.filter_eq_nil_iff.mpr fun b hb q => by
      have q : keyOf d b = k := by simpa using q
      have hk : keyOf d i = k := by simpa using hk
      have : keyOf d j <= keyOf d b := by
       rcases List.mem_cons.mp hb with rfl | hb
       ·exact Int.le_refl _
       ·exact h1 b hb
      lia
     rw [List.filter_cons_of_pos (p := fun a => keyOf d a == k) hk, z, List.filter_cons_of_pos (p := fun a => keyOf d a == k) hk]
     rfl
    ·rw [List.filter_cons_of_neg (p := fun a => keyOf d a == k) hk, List.filter_cons_of_neg (p := fun a => keyOf d a == k) hk]
     simp
  ·have e : Pv.putPlace d i (j :: r) = j :: Pv.putPlace d i r := by
    show (if Pv.less (Pv.rowOf d i) (Pv.rowOf d j) = true then i :: j :: r else j :: Pv.putPlace d i r) = _
    rw [hl, if_neg (by rw [decide_eq_false c]; exact Bool.false_ne_true)]
   obtain ⟨i1, i2, i3, i4⟩ := WT h i r h2
   rw [e]
   refine ⟨List.pairwise_cons.mpr ⟨fun b hb => ?_, i1⟩, fun k => ?_, fun a => ?_, by rw [List.length_cons, i4]; rfl⟩
   ·rcases (i3 b).mp hb with rfl | hb
    ·exact Int.not_lt.mp c
    ·exact h1 b hb
   ·by_cases hk : (keyOf d j == k) = true
    ·rw [List.filter_cons_of_pos (p := fun a => keyOf d a == k) hk, List.filter_cons_of_pos (p := fun a => keyOf d a == k) hk, i2]
     rfl
    ·rw [List.filter_cons_of_neg (p := fun a => keyOf d a == k) hk, List.filter_cons_of_neg (p := fun a => keyOf d a == k) hk, i2]
   ·rw [List.mem_cons, i3, List.mem_cons]
    constructor
    ·rintro (h | h | h) <;> simp [h]
    ·rintro (h | h | h) <;> simp [h]
theorem ze {d : List Nat} (h : ∀ v ∈ d, v < 2 ^ 64) : ∀ n : Nat, (Pv.rising n d).Pairwise (fun a b => keyOf d a <= keyOf d b) /\ (∀ c, (Pv.rising n d).filter (fun a => keyOf d a == c) = (List.range n).filter (fun a => keyOf d a == c)) /\ (∀ a, a ∈ Pv.rising n d -> a < n) /\ (Pv.rising n d).length = n
 | 0 => ⟨List.Pairwise.nil, fun c => rfl, fun a ha => absurd ha (by show ¬ a ∈ ([] : List Nat); simp), rfl⟩
 | n + 1 => by
  obtain ⟨i1, i2, i3, i4⟩ := ze h n
  have e : Pv.rising (n + 1) d = Pv.putPlace d n (Pv.rising n d) := by
   unfold Pv.rising
   rw [List.range_succ, List.foldl_append]
   rfl
  obtain ⟨j1, j2, j3, j4⟩ := WT h n _ i1
  rw [e]
  refine ⟨j1, fun c => ?_, fun a ha => ?_, by rw [j4, i4]⟩
  ·rw [j2, i2, List.range_succ, List.filter_append]
  ·rcases (j3 a).mp ha with rfl | ha
   ·exact Nat.lt_succ_self _
   ·exact Nat.lt_succ_of_lt (i3 a ha)
open Classical in
noncomputable def zd : Fn
 | [.lst xs] => match intsOf xs with
  | some ns => if wK ns /\ ns.length < 1000000 then .ok (.lst ((Pv.rising ns.length (nats ns)).map fun (i : Nat) => D.int i), false) else .no
  | none => .no
 | _ => .no
theorem WN {ns : List Int} (h : wK ns) (hl : ns.length < 1000000) : zd [.lst (ns.map .int)] = .ok (.lst ((Pv.rising ns.length (nats ns)).map fun (i : Nat) => D.int i), false) := by
 unfold zd
 dsimp only
 rw [ints_map]
 exact if_pos ⟨h, hl⟩
theorem Zi : Wz vp zd := fun d => by
 cases d with
 | lst xs =>
  cases e : intsOf xs with
  | none => left; show (match intsOf xs with | some ns => _ | none => _) = _; rw [e]
  | some ns =>
   have ex := vd e
   subst ex
   by_cases c : wK ns /\ ns.length < 1000000
   ·right
    have b64 := wC c.1
    obtain ⟨i1, i2, i3, i4⟩ := ze b64 ns.length
    have hk : ∀ i n, ns[i]? = some n -> keyOf (nats ns) i = rk n.toNat := fun i n q => by
     unfold keyOf Pv.rowOf nats
     rw [List.getD_eq_getElem?_getD, List.getElem?_map, q]
     rfl
    refine ⟨ns, ns.map fun n => rk n.toNat, Pv.rising ns.length (nats ns), rfl, c.2, List.length_map .., fun i n k q1 q2 => ?_, fun out st => ?_, WN c.1 c.2⟩
    ·rw [List.getElem?_map, q1] at q2
     cases q2
     exact Vb (c.1 n (List.mem_of_getElem? q1))
    ·obtain ⟨ps, e1, e2, e3⟩ := st
     have ez : (ns.map fun n => rk n.toNat).zip (List.range (ns.map fun n => rk n.toNat).length) = (List.range ns.length).map fun i => (keyOf (nats ns) i, i) := by
      rw [List.length_map]
      refine List.ext_getElem? fun i => ?_
      by_cases hi : i < ns.length
      ·rw [List.getElem?_map, List.getElem?_range hi]
       refine List.getElem?_zip_eq_some.mpr ⟨?_, List.getElem?_range hi⟩
       rw [List.getElem?_map, List.getElem?_eq_getElem hi]
       show some (rk _) = some (keyOf _ _)
       rw [hk i _ (List.getElem?_eq_getElem hi)]
      ·rw [List.getElem?_eq_none (by rw [List.length_zip, List.length_map, List.length_range]; lia), List.getElem?_eq_none (by rw [List.length_map, List.length_range]; lia)]
     have eq : ps = (Pv.rising ns.length (nats ns)).map fun i => (keyOf (nats ns) i, i) := by
      refine ug _ _ e2 ?_ fun c => ?_
      ·rw [List.pairwise_map]; exact i1
      ·rw [e3, ez, List.filter_map, List.filter_map]
       have z := i2 c
       show ((List.range ns.length).filter fun a => keyOf (nats ns) a == c).map _ = ((Pv.rising ns.length (nats ns)).filter fun a => keyOf (nats ns) a == c).map _
       rw [z]
     rw [e1, eq, List.map_map]
     exact List.map_id' ..
   ·left
    show (match intsOf (ns.map D.int) with | some ns => _ | none => _) = _
    rw [ints_map]
    exact if_neg c
 | _ => exact .inl rfl
noncomputable def v3 : RE := qm qy (qf (zY (qf (qc 0) qu)) (qf (zY (qf (qc 1) (qf (qc 2) qu))) (qf (zY (qf (qc 0) (qf (qF Qi (qc 0) (qc 0)) qu))) qu)))
noncomputable def v9 : RE := qm qv (qf (qF yp (qc 1) (qc 2)) qu)
noncomputable def vY : RS := wg (z0 4 (qm qB (qf (qm vt (qf (qc 2) (qf (qc 0) qu))) qu))) (vS (qF yp (qm qt (qf (vT (.one 5) (iOf (qc 3)) wO (qF oIx (qc 1) (qc 5)) [5]) qu)) (qm qX (qf (qm qB (qf (vT (.one 5) (iOf (qc 3)) wO (qF oIx (qc 4) (qc 5)) [5]) qu)) qu))))
noncomputable def qO : Fn := fun ds => res (rT3 v3 v9 zd vY (sl0 ["n", "d", "v", "places", "columns", "i"] ds))
theorem Qh (l k : List Nat) : wb (.rows l k) = .ok (.lst ((.int l.length :: l.map fun (n : Nat) => D.int n) ++ (.int k.length :: k.map fun (n : Nat) => D.int n)), true) := by
 show Rs.ok (D.lst ((TableNeutral.rowN (TableNeutral.ints l) ++ TableNeutral.rowN (TableNeutral.ints k)).map D.int), true) = _
 rw [List.map_append]
 unfold TableNeutral.rowN TableNeutral.ints
 rw [List.map_cons, List.map_cons, List.map_map, List.map_map, List.length_map, List.length_map]
 rfl
theorem ZQ {n : Nat} {T : List (List Nat)} {l : List Nat} (hT : Tb n n T) (hl : l.length = n) (hi : ∀ i ∈ l, i < n) : ((List.range n).map fun j => (l.map fun i => (Pv.flipped n n T).getD i []).map fun r => r.getD j 0) = Pv.columns T n l := by
 unfold Pv.columns Pv.tableBy
 refine List.map_congr_left fun j hj => ?_
 have hj := List.mem_range.mp hj
 rw [List.map_map]
 conv => lhs; rw [VA l 0, hl]
 rw [List.map_map]
 refine List.map_congr_left fun k hk => ?_
 have hk := List.mem_range.mp hk
 have hik := hi _ (getD_mem 0 (by rw [hl]; exact hk))
 show ((Pv.flipped n n T).getD (l.getD k 0) []).getD j 0 = Pv.Table.at_ T j (l.getD k 0)
 unfold Pv.flipped Pv.tableBy
 rw [map_getD 0 [] (by rw [List.length_range]; exact hik), map_getD 0 0 (by rw [List.length_range]; exact hj), range_getD hik, range_getD hj]
theorem yY {n : Int} {d v : List Int} (hn : U64 n) (hd : wK d) (hv : wK v) (ld : d.length <= 300) (lv : v.length <= 300) : qO [.int n, .lst (d.map .int), .lst (v.map .int)] = wb (PvCalls.answer (.ordered n.toNat (nats d) (nats v))) := by
 show res (rT3 v3 v9 zd vY [.val (.int n) false, .val (.lst (d.map .int)) false, .val (.lst (v.map .int)) false, .un, .un, .un]) = _
 generalize hδ : [Sl.val (.int n) false, Sl.val (.lst (d.map .int)) false, Sl.val (.lst (v.map .int)) false, Sl.un, Sl.un, Sl.un] = δ
 have v0 : qc 0 δ = .ok (.int n, .sh) := by rw [<- hδ]; rfl
 have v1 : qc 1 δ = .ok (.lst (d.map .int), .sh) := by rw [<- hδ]; rfl
 have v2 : qc 2 δ = .ok (.lst (v.map .int), .sh) := by rw [<- hδ]; rfl
 have m1 : qF Qi (qc 0) (qc 0) δ = .ok (.int (n * n), .nw) := (vG v0 v0).trans (Wn (QT hn) (QT hn))
 have hab : wK (d ++ v) := fun x hx => (List.mem_append.mp hx).elim (hd x) (hv x)
 have hE : qF yp (qc 1) (qc 2) δ = .ok (.lst ((d ++ v).map .int), .fr) := by
  rw [vG v1 v2, jE (by rw [List.length_map, List.length_map]; show _ <= 16777216; lia), <- List.map_append, QQ (Dt.yS _)]
 unfold rT3 v3 v9
 rw [Xw (ss := [n]) (xss := [d.map .int, v.map .int]) (cs := [n, n * n]) (qx v0 qN) (Nat.le_of_ble_eq_true rfl) rfl (qx v1 (qx v2 qN)) (Nat.le_of_ble_eq_true rfl) rfl (qx v0 (qx m1 qN)) (Nat.le_of_ble_eq_true rfl) rfl hE hab]
 have hlm : (d.length : Int) = n ↔ (nats d).length = n.toNat := by rw [wQ]; have := hn.1; lia
 refine checked (x := .ok (Pv.rising n.toNat (nats d))) (f := fun l => .rows (l.map (Pv.rowOf (nats d))) (PvCalls.flat (Pv.columns (PvCalls.tableOf n.toNat n.toNat (nats v)) n.toNat l))) (rows := [(n.toNat, nats d), (n.toNat * n.toNat, nats v)]) ?_ ?_ ?_ rfl
 ·show _ ↔ PvCalls.size n.toNat = true /\ ((_ == _) && ((_ == _) && true)) = true
  rw [<- Wa hn, Bool.and_eq_true, Bool.and_true, beq_iff_eq, beq_iff_eq, <- QR hn hn, <- hlm]
  simp
 ·rw [List.all_cons, List.all_cons, List.all_nil, Bool.and_true, Bool.and_eq_true, <- ju hd, <- ju hv]
  exact ⟨fun h => ⟨fun x hx => h x (List.mem_append_left _ hx), fun x hx => h x (List.mem_append_right _ hx)⟩, fun h x hx => (List.mem_append.mp hx).elim (h.1 x) (h.2 x)⟩
 ·intro hp _
  obtain ⟨h1, h2⟩ := hp
  simp at h1 h2
  have cv : v.length = n.toNat * n.toNat := by have := (QR (ns := v) hn hn).mp h2.2; rw [wQ] at this; exact this
  have hnn : n.toNat * n.toNat <= 16 * 16 := Nat.mul_le_mul (by lia) (by lia)
  obtain ⟨N, rfl⟩ := Wt hn
  rw [Int.toNat_natCast] at cv hnn ⊢
  have cd : d.length = N := by lia
  have hT : Tb N N (PvCalls.tableOf N N (nats v)) := xH (wC hv)
  generalize hTt : PvCalls.tableOf N N (nats v) = T at hT
  obtain ⟨i1, i2, i3, i4⟩ := ze (wC hd) N
  have e3 : z0 3 (qm zd (qf (qc 1) qu)) δ = .nx (δ.set 3 (.val (.lst ((Pv.rising N (nats d)).map fun (i : Nat) => D.int i)) true)) := QO (by
   rw [qS (qx v1 qN)]
   show (zd [.lst (d.map .int)]).bind _ = _
   rw [WN hd (by lia), cd]
   rfl)
  rw [yL e3]
  generalize Pv.rising N (nats d) = l at i1 i2 i3 i4 ⊢
  generalize hε : δ.set 3 (.val (.lst (l.map fun (i : Nat) => D.int i)) true) = ε
  have w0 : qc 0 ε = .ok (.int N, .sh) := by rw [<- hε, <- hδ]; rfl
  have w2 : qc 2 ε = .ok (.lst (v.map .int), .sh) := by rw [<- hε, <- hδ]; rfl
  unfold vY
  have g1 : qm vt (qf (qc 2) (qf (qc 0) qu)) ε = .ok (tD T, .nw) := by
   rw [call_K (qx w2 (qx w0 qN))]
   show (vt [.lst (v.map .int), .int N]).bind _ = _
   rw [ur hv, Vw (m := N) (by rw [wQ]; exact cv) (by lia) (by lia) (by lia) (by lia) (by lia), hTt]
   rfl
  have g2 : qm qB (qf (qm vt (qf (qc 2) (qf (qc 0) qu))) qu) ε = .ok (tD (Pv.flipped N N T), .nw) := by
   rw [qS (qx g1 qN)]
   show (qB [tD T]).bind _ = _
   rw [zR hT.len (by lia) (by show N < 16777216; lia) hT.wide (by lia) (by lia), Q7 hT.len]
   rfl
  rw [yL (QO g2)]
  have hF := ZY hT
  have hcols := ZQ hT i4 i3
  generalize Pv.flipped N N T = C at hF hcols
  generalize hζ : ε.set 4 (.val (tD C) true) = ζ
  have hfz : freeze ζ = ζ := by rw [<- hζ, <- hε, <- hδ]; rfl
  have y1 : ∀ x, qc 1 ((clear ζ [5]).set 5 x) = .ok (.lst (d.map .int), .sh) := fun x => by rw [<- hζ, <- hε, <- hδ]; rfl
  have y4 : ∀ x, qc 4 ((clear ζ [5]).set 5 x) = .ok (tD C, .nw) := fun x => by rw [<- hζ, <- hε, <- hδ]; rfl
  have y5 : ∀ i : Nat, qc 5 ((clear ζ [5]).set 5 (.val (.int i) true)) = .ok (.int i, .nw) := fun x => by rw [<- hζ, <- hε, <- hδ]; rfl
  have src : iOf (qc 3) ζ = .ok (true, l.map fun (i : Nat) => (D.int i, .nw)) := by
   rw [<- hζ, <- hε, <- hδ]
   show Rs.ok (true, (l.map fun (i : Nat) => D.int i).map fun d => (d, Kd.nw)) = _
   rw [List.map_map]
   rfl
  have hll : l.length < LIM := by rw [i4]; show N < 16777216; lia
  have c1 := jn (tg := .one 5) (src := iOf (qc 3)) (r := qF oIx (qc 1) (qc 5)) (vs := [5]) (δ := ζ) (k := .sh) (f := fun i => .ok (Pv.rowOf (nats d) i)) src hll (fun i hi => ⟨(clear ζ [5]).set 5 (.val (.int i) true), rfl, by
   refine (vG (y1 _) (y5 i)).trans ?_
   rw [ur hd]
   exact uO (QF _ i (by rw [wQ, cd]; exact i3 i hi))⟩)
  rw [zl] at c1
  have c2 := xl (tg := .one 5) (src := iOf (qc 3)) (r := qF oIx (qc 4) (qc 5)) (vs := [5]) (δ := ζ) (k := .nw) (f := fun i => .ok (C.getD i [])) (.inr rfl) src hll (fun i hi => ⟨(clear ζ [5]).set 5 (.val (.int i) true), rfl, (vG (y4 _) (y5 i)).trans (uO (QZ C i (by rw [hF.len]; exact i3 i hi)))⟩)
  rw [zl] at c2
  have e1 : qm qt (qf (vT (.one 5) (iOf (qc 3)) wO (qF oIx (qc 1) (qc 5)) [5]) qu) ζ = .ok (.lst (.int (l.map (Pv.rowOf (nats d))).length :: (l.map (Pv.rowOf (nats d))).map fun (n : Nat) => D.int n), .fr) := by
   rw [qS (qx c1 qN)]
   show (qt [rD (l.map (Pv.rowOf (nats d)))]).bind _ = _
   rw [zM (wM _) (by rw [List.length_map, List.length_map]; exact hll), List.length_map]
   rfl
  have wide : Wide N (l.map fun i => C.getD i []) := fun r hr => by
   obtain ⟨i, hi, rfl⟩ := List.mem_map.mp hr
   exact hF.wide _ (getD_mem [] (by rw [hF.len]; exact i3 i hi))
  have hCt : Tb N N (Pv.columns T N l) := VX fun i j => hT.Yt _ _
  have e2 : qm qX (qf (qm qB (qf (vT (.one 5) (iOf (qc 3)) wO (qF oIx (qc 4) (qc 5)) [5]) qu)) qu) ζ = .ok (.lst (.int (PvCalls.flat (Pv.columns T N l)).length :: (PvCalls.flat (Pv.columns T N l)).map fun (n : Nat) => D.int n), .fr) := by
   have q : qm qB (qf (vT (.one 5) (iOf (qc 3)) wO (qF oIx (qc 4) (qc 5)) [5]) qu) ζ = .ok (tD (Pv.columns T N l), .nw) := by
    rw [qS (qx c2 qN)]
    show (qB [tD (l.map fun i => C.getD i [])]).bind _ = _
    rw [zR (m := N) (n := N) (by rw [List.length_map, i4]) (by lia) (by show N < 16777216; lia) wide (by lia) (by lia), hcols]
    rfl
   rw [qS (qx q qN)]
   show (qX [tD (Pv.columns T N l)]).bind _ = _
   rw [je hCt.wide (by rw [hCt.len]; lia)]
   rfl
  have lq : (PvCalls.flat (Pv.columns T N l)).length = N * N := by rw [zb hCt.wide, hCt.len]
  have e3 := YR e1 e2 (by rw [List.all_cons, wM]; rfl) (by rw [List.all_cons, wM]; rfl) (by simp only [List.length_cons, List.length_map, lq, i4]; show _ <= 16777216; lia)
  rw [yE (by rw [hfz]; exact e3)]
  show _ = wb (.rows (l.map (Pv.rowOf (nats d))) (PvCalls.flat (Pv.columns T N l)))
  rw [Qh]
  rfl
theorem yi {n : Nat} {d v : List Nat} (hd : ∀ x ∈ d, x < 2 ^ 64) (hv : R64 v) : Few (PvCalls.answer (.ordered n d v)) := XE fun g => by
 have g : PvCalls.size n = true := g
 show Few (PvCalls.given [(n, d), (n * n, v)] (.ok (Pv.rising n d)) fun l => .rows (l.map (Pv.rowOf d)) (PvCalls.flat (Pv.columns (PvCalls.tableOf n n v) n l)))
 refine VQ ?_
 have hCt : Tb n n (Pv.columns (PvCalls.tableOf n n v) n (Pv.rising n d)) := VX fun i j => (xH hv).Yt _ _
 show ((Pv.rising n d).map _).length <= 1000 /\ (PvCalls.flat _).length <= 1000
 rw [List.length_map, (ze hd n).2.2.2, zb hCt.wide, hCt.len]
 refine ⟨?_, Vu g g⟩
 unfold PvCalls.size PvCalls.SIZE at g
 rw [Bool.and_eq_true, decide_eq_true_eq, decide_eq_true_eq] at g
 lia
theorem jz {n : Int} {d v : List Int} (hn : U64 n) (hd : wK d) (hv : wK v) (ld : d.length <= 300) (lv : v.length <= 300) :
  Wh LL (qO [.int n, .lst (d.map .int), .lst (v.map .int)]) = some ((PyYqpvta.ordered n d v).map D.int) /\ ((PyYqpvta.ordered n d v).map D.int).length <= LIM := by
 rw [yY hn hd hv ld lv]
 have e : PyYqpvta.ordered n d v = TableNeutral.told (PvCalls.answer (.ordered n.toNat (nats d) (nats v))) := by
  unfold PyYqpvta.ordered TableNeutral.f
  have q : TableNeutral.callOf [[25, n], d, v] = (do some (.ordered (<- TableNeutral.nat n) (<- d.mapM TableNeutral.nat) (<- v.mapM TableNeutral.nat))) := rfl
  rw [q, jL hn, xw hd, xw hv]
  rfl
 rw [e]
 exact ⟨WS (yi (wC hd) (wC hv)), V5 (yi (wC hd) (wC hv))⟩
end Gr
set_option maxHeartbeats 4000000
namespace L2.Ir
open PySem PySem.Spec PyProof.Rows
open PySem.W (WData Codec OpenSpec Well WellAll ReadsW ReadsAllW)
noncomputable def Qw (mg : Str -> Option Value) (K : PySem.W.Frag) (gs : Fn) (l : List (Str × Int)) (PT PT2 : Addr) : Sp := fun vs H Q _ => ∃ ds zs, ds.length = 3 /\ H PT = some (.tbl #[]) /\ H PT2 = some (.tbl #[]) /\ qd mg K (fun _ => True) H vs ds /\ Wh l (gs ds) = some zs /\ zs.length <= LIM /\
 ∀ H' p, H' p = some (.lst (zs.map toV)) -> Q (.ref p) H'
section
variable {P : Program} {w : World} {K : PySem.W.Frag} {mg : Str -> Option Value} {base : Heap}
theorem Zy {x : Str} {st st2 : Stmt} {f c PT PT2 : Addr} {fd : FuncData} {ps : List Str} {k : Nat} {gs : Fn} {l : List (Str × Int)} {la : List (Addr × Int)} {p pos rpos lpos : Pos} {params : Arguments} {body : Expr} {ls : Scope}
  (F : Fun K x x st f fd) (S : qr ps ps (qa st)) (hn : ps.length = 3) (htab : PySem.W.tabIn K x = some (c, PT)) (hns : PySem.W.nsIn K mainGlobals x = some (some (.ref f))) (hne : PT ≠ PT2) (BL : qU mg base c PT) (A2 : Ww P w K mg base st2 la) (Er : VZ mg K l la)
  (hbody : qE st = [.Return (some (.Call (.Name "answered" p) [.Lambda params body ls lpos] [] pos)) rpos]) (L : zO (qa st) ls) (hgl : (qa st).names.lookup ("answered" : Str) = some .globalImplicit) (hdef : ∀ env : Env, defaultsOf params env = ([], []))
  (hbind : ∀ (q : Str) (c' : Addr) (clos : List (Str × Addr)) (pm ctv : Value), bindArgs (PySem.W.kla_fn "<lambda>" q params body ls clos pm (.ref c') ctv) ⟨[], []⟩ = pure [])
  (hcall : ∀ (cdv : Value) (A : Around) (outer : List Env) (s0 : Shared) (H0 : Hp) (E0 : XK) (Y : Cx) (q : Str) (f' : Addr) (cd : Value) (s : Shared) (H : Hp) (E' : XK), qZ k (Y.A.deeper (vJ (we (CX1 P w) P w K mg base ps x (qa st) f cdv A outer s0 H0 E0) q ls f' cd s)) ->
   PE (xp (we (CX1 P w) P w K mg base ps x (qa st) f cdv A outer s0 H0 E0) Y q ls f' cd s H E') body (uh (spT mg K PT2 gs) [] E' (tA mg K E' (qf (qc 0) (qf (qc 1) (qf (qc 2) qu)))))) :
  wL P w K mg base (CX1 P w) (k + 3) f fd ps (Qw mg K gs l PT PT2) := by
 obtain ⟨oc, od, kV, doc, pm, an, cdv, ct, osl, rfl, lk, hcd⟩ := F.ex
 have hc : cdv = .ref c := jt htab hns lk
 refine uj lk hcd S ?_ fun A outer s H vs Q E hroom hsp => ?_
 ·rintro vs H Q E ⟨ds, zs, hl, _, _, rp, _⟩
  rw [rp.len, hl, hn]
 ·obtain ⟨ds, zs, hl, hP, hP2, rp, ha, hz, hQ⟩ := hsp
  obtain ⟨f2, oc2, od2, kV2, doc2, pm2, an2, cdv2, ct2, osl2, h0, hs, q1, q2, q3, q4, q5, q6, q7, q8, q9, q10, j, lk2, hcd2, hk2, hm2, hb2, S2, hw2, ht2, bi2, hH2⟩ := A2
  rw [hbody]
  rw [hb2] at lk2 bi2
  refine ⟨YZ (Ug K la PT fun E' => uh (spT mg K PT2 gs) [] E' (tA mg K E' (qf (qc 0) (qf (qc 1) (qf (qc 2) qu))))), wG (z8 ?_), ?_⟩
  ·have q := jF (X := we (CX1 P w) P w K mg base ps x (qa st) f cdv A outer s H E) (c := c) (P := PT) (f2 := f2) (k := k) (E := E) (l := la) (tb := fun E' => uh (spT mg K PT2 gs) [] E' (tA mg K E' (qf (qc 0) (qf (qc 1) (qf (qc 2) qu))))) (pos := pos) (p := p) (lpos := lpos) (params := params) (body := body) (ls := ls)
    BL hc (fun _ => rfl) rfl L (hdef _) hroom hgl hm2 hk2 lk2 hcd2 S2 hw2 ht2 (fun s u => bi2 s u) (fun s H => hH2 _ _ s H E) (fun c' clos pm ctv => hbind _ c' clos pm ctv) yO (fun Y f' cd s' H' E' hr' => hcall _ _ _ _ _ _ Y _ f' cd s' H' E' hr')
   exact q
  ·refine ⟨hP, fun more f => ?_⟩
   have rp' : qd mg K (fun _ => True) (upd H PT (.tbl more)) vs ds := qd.mono (fun a g => ⟨trivial, fun o e => by rw [qe g.2]; exact e⟩) _ _ (qd.apart hP _ _ rp)
   refine ⟨⟨upd H PT (.tbl more), fun _ => False⟩, sl0 ps ds, rl0 rp', ?_⟩
   match ds, hl with
   | [d0, d1, d2], _ =>
    intro us H7 s7 vr
    have rpu : qd mg K (fun _ => True) H7 us [d0, d1, d2] := by
     have vr : VRs mg K ⟨upd H PT (.tbl more), fun _ => False⟩ (upd H PT (.tbl more)) H7 (start ps vs) (sl0 ps [d0, d1, d2]) us [(d0, .sh), (d1, .sh), (d2, .sh)] := vr
     cases vr with
     | cons a vr => cases vr with
      | cons b vr => cases vr with
       | cons c vr => cases vr with
        | nil => exact .cons (a.rp (rl0 rp')) (.cons (b.rp (rl0 rp')) (.cons (c.rp (rl0 rp')) .nil))
    refine ⟨[d0, d1, d2], rfl, s7 _ _ (by rw [qe hne.symm]; exact hP2), by rw [List.append_nil]; exact rpu, ?_⟩
    cases hg : gs [d0, d1, d2] with
    | no => rw [hg] at ha; cases ha
    | er c =>
     rw [hg] at ha
     have ha : (l.lookup c).map (fun k => [D.int (-k)]) = some zs := ha
     cases hl : l.lookup c with
     | none => rw [hl] at ha; cases ha
     | some k =>
      rw [hl] at ha
      cases ha
      intro C H' hC
      obtain ⟨h1, h2⟩ := Er.at_ c C k hC hl
      exact ⟨C, k, rfl, h1, h2, fun p hp => hQ _ p (by rw [qo]; rfl)⟩
    | ok y =>
     rw [hg] at ha
     obtain ⟨d, b⟩ := y
     cases b with
     | false => cases d <;> cases ha
     | true =>
      cases d with
      | lst ws =>
       cases ha
       intro H' p h2
       refine WG ⟨p, _, rfl, h2, ?_, fun q hq p' hp' => hQ _ p' ?_⟩
       ·rw [ZK]
        have e : (sizeLine : Nat) = LIM := rfl
        rw [e]
        exact hz
       ·rw [qo]
        rfl
      | _ => cases ha
end
theorem VV {P : Program} {w : World} {K : PySem.W.Frag} {mg mb : Str -> Option Value} {k : Nat} {fa c PT c2 PT2 : Addr} {fd : FuncData} {ps : List Str} {sp : Sp} {s₁ : Shared} {vals : List Value} {ds : List WData} {R : PySem.W.WRecords} {cl : Str -> Option Addr} {d0 : WData}
  (KX : K.In s₁.heap) (hno : PySem.W.noTabs K = true) (hns : s₁.heap.Ns mainGlobals mg) (hb : s₁.heap.Ns builtinsNs mb) (hbb : ∀ x : Str, x ≠ "__name__" -> mb x = bootBuiltins x) (hlim : s₁.heap.NoLimit) (hg : s₁.gens = #[])
  (hc : PySem.W.CodeHd s₁.heap c PT) (htab : s₁.heap.get? PT = some (PySem.W.tabObj #[])) (hc2 : PySem.W.CodeHd s₁.heap c2 PT2) (htab2 : s₁.heap.get? PT2 = some (PySem.W.tabObj #[])) (hne : PT ≠ PT2)
  (hbm : ∃ bm ob, mg "__builtins__" = some (.ref bm) /\ bm ≠ builtinsNs /\ s₁.heap.get? bm = some ob /\ ob.cls = .type "module" /\ ob.dict = some builtinsNs /\ ob.data = .plain)
  (hwl : WellAll w.params s₁.heap vals ds) (hpl : yk ds = true) (hwt : ∀ d ∈ ds, d.weight <= 1048576) (hr : qZ k callerA)
  (F : ∀ base : Heap, K.In base -> base.Ns mainGlobals mg -> qU mg base c PT -> qU mg base c2 PT2 -> wL P w K mg base (CX1 P w) k fa fd ps sp) (hbind : ∀ (s : Shared) (us : List Value), us.length = ps.length -> BindsTo s fd ⟨us, []⟩ (ps.zip us)) (hlen : ds.length = ps.length)
  (hsp : ∀ (H : Hp) (xs : List V), H PT = some (.tbl #[]) -> H PT2 = some (.tbl #[]) -> vE K H xs ds -> sp xs H (fun v H' => Dw K H' v d0) fun _ _ _ => False) :
  codeAny (model P w) callerA (.call (.ref fa) ⟨vals, []⟩) (fun r s' => ∃ u as, r = .ok (.ret u) /\ ReadsW R cl s'.heap u d0 as /\ OldK s₁.heap s'.heap /\ s'.os = s₁.os /\ AllBare s'.gens) s₁ := by
 obtain ⟨A, ho, ar⟩ := zW ds vals hwl hpl hwt
 have hO : Yr (wB K s₁.heap A) := VU ar
 have hok0 : HOk P w (wB K s₁.heap A) s₁.heap := ZS ar
 have hS0 := uG KX ar ds vals hwl hpl ho
 have hV := wq ho
 have hK0 : ∀ b u, wB K s₁.heap A b = some u -> K.lookup b = none := fun b u q => (yD ar q).1
 have seqs : ∀ {b : Addr} {o : Obj}, s₁.heap.get? b = some o -> (∀ vs n, o.data ≠ .seq vs n) -> wB K s₁.heap A b = none := fun {b o} e d => by
  cases q : wB K s₁.heap A b with
  | none => rfl
  | some u =>
   obtain ⟨_, vs, _, _, ⟨e2, _⟩ | ⟨e2, _⟩⟩ := yD ar q
   ·rw [e2] at e
    cases e
    exact absurd rfl (d vs.toArray _)
   ·rw [e2] at e
    cases e
    exact absurd rfl (d vs.toArray _)
 generalize wB K s₁.heap A = H0 at hO hok0 hS0 hK0 seqs
 have hP0 : H0 PT = none := seqs htab fun vs n z => nomatch z
 have hP20 : H0 PT2 = none := seqs htab2 fun vs n z => nomatch z
 have sameH : qg H0 (upd (upd H0 PT (.tbl #[])) PT2 (.tbl #[])) := (qQ hP0).trans (qQ (by rw [qe hne.symm]; exact hP20))
 have hok : HOk P w (upd (upd H0 PT (.tbl #[])) PT2 (.tbl #[])) s₁.heap := fun b u q => by
  by_cases hb2 : b = PT2
  ·subst hb2
   rw [qo] at q
   cases q
   exact htab2
  ·rw [qe hb2] at q
   by_cases hb : b = PT
   ·subst hb
    rw [qo] at q
    cases q
    exact htab
   ·rw [qe hb] at q
    exact (hok0 b u q).xO (fun _ _ _ q => q) (fun c q => sameH _ _ q) fun c xs q => sameH _ _ q
 have hS := vE.same sameH ds _ hS0
 have nTK : ∀ Q, s₁.heap.get? Q = some (PySem.W.tabObj #[]) -> K.lookup Q = none := fun Q hQ => by
  cases q : K.lookup Q with
  | none => rfl
  | some o =>
   have e := KX Q o q
   rw [hQ] at e
   cases e
   have h2 := List.all_eq_true.mp hno (Q, _) (PySem.W.mem_of_lookupK q)
   exact absurd (show false = true from h2) Bool.false_ne_true
 have nPK := nTK PT htab
 have nPK2 := nTK PT2 htab2
 have hK : ∀ b u, (upd (upd H0 PT (.tbl #[])) PT2 (.tbl #[])) b = some u -> K.lookup b = none := fun b u q => by
  by_cases hb2 : b = PT2
  ·rw [hb2]; exact nPK2
  ·rw [qe hb2] at q
   by_cases hb : b = PT
   ·rw [hb]; exact nPK
   ·rw [qe hb] at q; exact hK0 b u q
 have noS : ∀ {b : Addr} {o : Obj}, s₁.heap.get? b = some o -> (∀ vs n, o.data ≠ .seq vs n) -> (∀ vs, o.data ≠ .fields vs \/ o.cls ≠ .none) -> (upd (upd H0 PT (.tbl #[])) PT2 (.tbl #[])) b = none := fun {b o} e d d2 => by
  have ne : ∀ Q, s₁.heap.get? Q = some (PySem.W.tabObj #[]) -> b ≠ Q := fun Q hQ z => by
   rw [z, hQ] at e
   cases e
   rcases d2 #[] with q | q <;> exact q rfl
  rw [qe (ne PT2 htab2), qe (ne PT htab)]
  exact seqs e d
 generalize hH : upd (upd H0 PT (.tbl #[])) PT2 (.tbl #[]) = H at hok hS hK noS
 have hPH2 : H PT2 = some (.tbl #[]) := by rw [<- hH]; exact qo
 have hPH : H PT = some (.tbl #[]) := by rw [<- hH, qe hne]; exact qo
 have base_of : ∀ {b : Addr} {o : Obj}, s₁.heap.get? b = some o -> H b = none -> (xo s₁.heap H).get? b = some o := fun e n => WO e n
 have nsK : ∀ {b : Addr} {m : Str -> Option Value}, s₁.heap.Ns b m -> (xo s₁.heap H).Ns b m := fun {b m} ⟨o, es, ep, e, d, r⟩ => ⟨o, es, ep, base_of e (noS e (fun vs n z => by rw [d] at z; cases z) fun vs => .inl fun z => by rw [d] at z; cases z), d, r⟩
 have nK : ∀ b o, K.lookup b = some o -> H b = none := fun b o e => by
  cases q : H b with
  | none => rfl
  | some u =>
   rw [hK b u q] at e
   cases e
 have hKb : K.In (xo s₁.heap H) := fun b o e => base_of (KX b o e) (nK b o e)
 have hM : Mod K mg (xo s₁.heap H) := ⟨hKb, nsK hns, ⟨mb, nsK hb, hbb⟩, let ⟨mc, h1, h2⟩ := hlim; ⟨mc, nsK h1, h2⟩⟩
 have e0 : uQ P w K mg (xo s₁.heap H) callerA [] s₁ H := ⟨rfl, hM, fun b o e => Zx e, Nat.le_of_eq (Vx _ _), trivial, fun b hb => absurd (show b ∈ ([] : List Addr) from hb) (by simp), hok, .of_eq hg⟩
 have hl : vals.length = ps.length := by rw [wa hwl]; exact hlen
 have bmB : ∃ bm ob, mg "__builtins__" = some (.ref bm) /\ bm ≠ builtinsNs /\ (xo s₁.heap H).get? bm = some ob /\ ob.cls = .type "module" /\ ob.dict = some builtinsNs /\ ob.data = .plain := by
  obtain ⟨bm, ob, b1, b2, b3, b4, b5, b6⟩ := hbm
  exact ⟨bm, ob, b1, b2, base_of b3 (noS b3 (fun vs n z => by rw [b6] at z; cases z) fun vs => .inl fun z => by rw [b6] at z; cases z), b4, b5, b6⟩
 have BLof : ∀ {c Q : Addr}, PySem.W.CodeHd s₁.heap c Q -> qU mg (xo s₁.heap H) c Q := fun {c Q} hc => by
  refine ⟨?_, bmB⟩
  obtain ⟨o, vs, file, tf, flags, tg, inF, text, tt, e1, e2, e3, r⟩ := hc
  exact ⟨o, vs, file, tf, flags, tg, inF, text, tt, base_of e1 (noS e1 (fun vs n z => by rw [e3] at z; cases z) fun vs => .inr fun z => by rw [e2] at z; cases z), e2, e3, r⟩
 refine codeAny_mono ((F _ hKb (nsK hns) (BLof hc) (BLof hc2)).run callerA [] s₁ H ⟨vals, []⟩ vals (vals.map L2.toV) _ _ hr e0 (hbind s₁ vals hl) hV (hsp H _ hPH hPH2 hS)) fun r s' x => ?_
 cases r with
 | error e =>
  obtain ⟨_, _, _, _, _, _, _, _, _, _, _, q⟩ := x
  exact q.elim
 | ok fl =>
  cases fl with
  | next => exact False.elim x
  | brk => exact False.elim x
  | cont => exact False.elim x
  | ret u =>
   obtain ⟨v, H', os, bare, un, hok', r', q⟩ := x
   have kept : ∀ b o, b ≠ PT -> b ≠ PT2 -> s₁.heap.get? b = some o -> s'.heap.get? b = some o := fun b o hb hb2 e => by
    cases q2 : H b with
    | none => exact un.keep b o e q2 (by intro z; exact absurd (show b ∈ ([] : List Addr) from z) (by simp)) (by simp)
    | some u2 =>
     have q3 := q2
     rw [<- hH, qe hb2, qe hb] at q3
     rcases hO b with z | ⟨ob, u3, z⟩
     ·rw [q3] at z
      cases z
     ·rw [q3] at z
      cases z
      have z2 := un.frzs b ob _ q2
      obtain ⟨e1, _⟩ := hok b _ q2
      obtain ⟨e2, _⟩ := hok' b _ z2
      rw [e] at e1
      cases e1
      exact e2
   have tabs : ∀ {c Q : Addr}, PySem.W.CodeHd s₁.heap c Q -> s₁.heap.get? Q = some (PySem.W.tabObj #[]) -> H Q = some (.tbl #[]) -> ∃ more, s'.heap.get? Q = some { cls := .none, data := .fields (#[] ++ more) } := fun {c Q} _ _ hQ => by
    obtain ⟨more, hm⟩ := un.tbls Q #[] hQ
    exact ⟨more, hok' Q _ hm⟩
   obtain ⟨more, tab'⟩ := tabs hc htab hPH
   obtain ⟨more2, tab2'⟩ := tabs hc2 htab2 hPH2
   have KX' : K.In s'.heap := fun b o e => kept b o (fun z => by rw [z, nPK] at e; cases e) (fun z => by rw [z, nPK2] at e; cases e) (KX b o e)
   obtain ⟨as, hrd⟩ := Dw.reads (R := R) (cl := cl) hok' KX' d0 v u q r'
   refine ⟨u, as, rfl, hrd, ⟨fun b o e => ?_, fun b o e => ?_⟩, os, bare⟩
   ·by_cases hb : b = PT
    ·subst hb
     rw [htab] at e
     cases e
     exact .inr (.inl ⟨(hc.tab htab).isCodeTable, rfl, #[], more, rfl, tab'⟩)
    ·by_cases hb2 : b = PT2
     ·subst hb2
      rw [htab2] at e
      cases e
      exact .inr (.inl ⟨(hc2.tab htab2).isCodeTable, rfl, #[], more2, rfl, tab2'⟩)
     ·exact .inl (kept b o hb hb2 e)
   ·by_cases hb : b = PT
    ·subst hb
     exact ⟨_, tab'⟩
    ·by_cases hb2 : b = PT2
     ·subst hb2
      exact ⟨_, tab2'⟩
     ·exact ⟨o, kept b o hb hb2 e⟩
theorem Vk {r : OpenSpec} {k : Nat} {q : Program} {loose : List Str} {XP : (Str -> Option Value) -> Heap -> Prop} {YP : World -> Heap -> Prop} {d d2 : DefRec} {x2 : Str} {K : Params -> PySem.W.Frag} {ps : List Str} {sp : PySem.W.Frag -> (Str -> Option Value) -> Addr -> Addr -> Sp} {c PT c2 PT2 : Params -> Addr}
  (hwell : r.wellSaid = true) (hlen : r.args.length = ps.length) (hr : qZ k callerA)
  (hY : ∀ (w : World) (h : Heap), YP w h -> (K w.params).In h) (hno : ∀ p, PySem.W.noTabs (K p) = true) (htab : ∀ p, PySem.W.tabIn (K p) d.name = some (c p, PT p)) (hrec : (PyProof.Rows.recsOf q).find? (fun e => e.name == d.name) = some d)
  (htab2 : ∀ p, PySem.W.tabIn (K p) x2 = some (c2 p, PT2 p)) (hrec2 : (PyProof.Rows.recsOf q).find? (fun e => e.name == x2) = some d2) (hne : ∀ p, PT p ≠ PT2 p)
  (F : ∀ (w : World) (mg : Str -> Option Value) (fa : Addr) (h : Heap), YP w h -> (K w.params).In h -> h.Ns mainGlobals mg -> mg d.name = some (.ref fa) ->
   ∃ fd : FuncData, (∀ (s : Shared) (us : List Value), us.length = ps.length -> BindsTo s fd ⟨us, []⟩ (ps.zip us)) /\
    ∀ base : Heap, (K w.params).In base -> base.Ns mainGlobals mg -> qU mg base (c w.params) (PT w.params) -> qU mg base (c2 w.params) (PT2 w.params) -> wL r.prog w (K w.params) mg base (CX1 r.prog w) k fa fd ps (sp (K w.params) mg (PT w.params) (PT2 w.params)))
  (hsp : ∀ (K : PySem.W.Frag) (mg : Str -> Option Value) (PT PT2 : Addr) (H : Hp) (xs : List V) (a : Codec.denoteAll r.args), H PT = some (.tbl #[]) -> H PT2 = some (.tbl #[]) -> Codec.withinAll r.args a = true -> Codec.app r.args r.asked a = true -> vE K H xs (Codec.encAll r.args a) ->
   sp K mg PT PT2 xs H (fun v H' => Dw K H' v (r.ret.enc (Codec.app r.args r.f a))) fun _ _ _ => False) :
  PySem.W.WalkOS q loose XP YP r d [] (fun f vs => PySem.call f vs) := by
 intro w s_0 s₁ mg mb G Y fa o pm cd doc dV kV ho hd hcd hD hmg hg args vals as hpre hlay hrd hwl hlo
 obtain ⟨a, e1, e2⟩ := PySem.W.os_pre_some hpre
 obtain ⟨e3, hwi⟩ := Codec.encAll_of_decAll r.args args a e1
 subst e3
 have KX := hY w _ Y
 obtain ⟨fd, hb, hF⟩ := F w mg fa _ Y KX G.T.g hmg
 obtain ⟨hc, ht⟩ := PySem.W.tab_of G.T KX hrec (htab w.params)
 obtain ⟨hc2, ht2⟩ := PySem.W.tab_of G.T KX hrec2 (htab2 w.params)
 refine PySem.W.enter_call (codeAny_mono (VV (R := []) (cl := classAt s_0.heap) (d0 := r.ret.enc (Codec.app r.args r.f a)) KX (hno _) G.T.g G.T.b G.T.builtins G.T.nolimit hg hc ht hc2 ht2 (hne _) G.T.bmain hwl (x6 _ _) (xi hlay) hr hF hb (by rw [xy]; exact hlen)
  (fun H xs hP hP2 hS => hsp (K w.params) mg _ _ H xs a hP hP2 hwi e2 hS)) fun r' s' hq => ?_)
 obtain ⟨u, as', rfl, h1, h2, h3, h4⟩ := hq
 exact ⟨.inl ⟨u, _, as', rfl, fun _ => rfl, h1, (OpenSpec.post_iff hwell hwi _ _).mpr rfl, fun z => Bool.noConfusion (show false = true from z)⟩, h2, h3, h4⟩
end L2.Ir
namespace Lw
open PySem.W (nsIn codeIn keepIn fnOf mg_of mg_none_of nsOkIn findIn makesIn isFn plainGet hasDictIn plainOver tabIn Frag)
open PySem PySem.Spec PyProof.Rows L2 L2.Ir Dt 
noncomputable def top (i : Nat) : Stmt := PySem.Challenge.pw_doubletables_s25_ordered.main.body.getD i (.Pass ⟨0, 0, 0, 0⟩)
theorem U8 {α : Type} {p : List α -> Prop} (h : ∀ a0, p [a0]) : ∀ us, us.length = 1 -> p us
 | [_], _ => h _
theorem UX {α : Type} {p : List α -> Prop} (h : ∀ a0 a1, p [a0, a1]) : ∀ us, us.length = 2 -> p us
 | [_, _], _ => h _ _
theorem X9 {α : Type} {p : List α -> Prop} (h : ∀ a0 a1 a2, p [a0, a1, a2]) : ∀ us, us.length = 3 -> p us
 | [_, _, _], _ => h _ _ _
theorem xY {K : Frag} {x q : Str} {st : Stmt} {f : Addr} {fd : FuncData} {p0 : Str} (F : Fun K x q st f fd) (h : ∀ (kV doc pm : Value) (an : Option Addr) (cdv ct a0 : Value), bindArgs (fnOf x q (vh st) (qE st) (qa st) .none kV doc pm an cdv ct) ⟨[a0], []⟩ = pure [(p0, a0)]) : Binds K fd [p0] [] := F.binds fun kV doc pm an cdv ct => U8 fun a0 => h kV doc pm an cdv ct a0
theorem UH {K : Frag} {x q : Str} {st : Stmt} {f : Addr} {fd : FuncData} {p0 p1 : Str} (F : Fun K x q st f fd) (h : ∀ (kV doc pm : Value) (an : Option Addr) (cdv ct a0 a1 : Value), bindArgs (fnOf x q (vh st) (qE st) (qa st) .none kV doc pm an cdv ct) ⟨[a0, a1], []⟩ = pure [(p0, a0), (p1, a1)]) : Binds K fd [p0, p1] [] := F.binds fun kV doc pm an cdv ct => UX fun a0 a1 => h kV doc pm an cdv ct a0 a1
theorem Ua {K : Frag} {x q : Str} {st : Stmt} {f : Addr} {fd : FuncData} {p0 p1 p2 : Str} (F : Fun K x q st f fd) (h : ∀ (kV doc pm : Value) (an : Option Addr) (cdv ct a0 a1 a2 : Value), bindArgs (fnOf x q (vh st) (qE st) (qa st) .none kV doc pm an cdv ct) ⟨[a0, a1, a2], []⟩ = pure [(p0, a0), (p1, a1), (p2, a2)]) : Binds K fd [p0, p1, p2] [] := F.binds fun kV doc pm an cdv ct => X9 fun a0 a1 a2 => h kV doc pm an cdv ct a0 a1 a2
theorem zq {N P : List Str} {sc : Scope} (a : sc.kind = .function) (b : sc.isCoroutine = false) (c : sc.isGenerator = false) (d : N.take P.length = P) (h : N.Nodup /\ (∀ x ∈ P, sc.names.lookup x = some .local \/ sc.names.lookup x = some .cell) /\ ∀ y ∈ sc.names, y.2 ≠ .free) : qr N P sc := ⟨a, b, c, h.1, d, h.2.1, h.2.2⟩
section
variable {P : Program} {w : World} {K : Frag} {mg : Str -> Option Value} {base : Heap}
theorem Qq : qr ["x"] ["x"] (qa (top 4)) := zq rfl rfl rfl rfl (by decide +kernel)
theorem Qn {f : Addr} {fd : FuncData} (F : Fun K "sign_of" "sign_of" (top 4) f fd) (hm : mg "sign_of" = some (.ref f)) (hb : Binds K fd ["x"] [])  : Fd P w K mg base 1 "sign_of" 1 Dt.vF :=
 fd2 (r := Dt.zf) F Qq hm hb rfl (fun a b c d e f hr nd G => (qJ (wd (w8 XO XW (xv 0) zZ)))) Dt.Qy
theorem QA : qr ["x"] ["x"] (qa (top 5)) := zq rfl rfl rfl rfl (by decide +kernel)
theorem Qs {f : Addr} {fd : FuncData} (F : Fun K "size_of" "size_of" (top 5) f fd) (hm : mg "size_of" = some (.ref f)) (hb : Binds K fd ["x"] []) (c_SIGN_BIT : ∃ t, mg "SIGN_BIT" = some (.int 9223372036854775808 t)) : Fd P w K mg base 1 "size_of" 1 Dt.qT :=
 fd2 (r := Dt.z9) F QA hm hb rfl (fun a b c d e f hr nd G => (qJ (wd (w8 Xa (Xy _) (xv 0) (w8 Xn YW (uU rfl c_SIGN_BIT) zZ))))) Dt.j7
theorem u1 : qr ["x"] ["x"] (qa (top 6)) := zq rfl rfl rfl rfl (by decide +kernel)
theorem uB {f : Addr} {fd : FuncData} (F : Fun K "is_finite" "is_finite" (top 6) f fd) (hm : mg "is_finite" = some (.ref f)) (hb : Binds K fd ["x"] []) (c_INFINITE : ∃ t, mg "INFINITE" = some (.int 9218868437227405312 t)) (f_size_of : Fd P w K mg base 1 "size_of" 1 Dt.qT) : Fd P w K mg base 2 "is_finite" 1 Dt.qY :=
 fd2 (r := Dt.v7) F u1 hm hb rfl (fun a b c d e f hr nd G => (qJ (wd (XI Yl (jU _) (yV _) (qM G.acc f_size_of (hr.mono (by decide)) rfl (.cons (.nil)) (qk (xv 0) qD)) (uU rfl c_INFINITE))))) Dt.uS
theorem jW : qr ["x"] ["x"] (qa (top 7)) := zq rfl rfl rfl rfl (by decide +kernel)
theorem Qp {f : Addr} {fd : FuncData} (F : Fun K "rank_of" "rank_of" (top 7) f fd) (hm : mg "rank_of" = some (.ref f)) (hb : Binds K fd ["x"] []) (f_sign_of : Fd P w K mg base 1 "sign_of" 1 Dt.vF) (f_size_of : Fd P w K mg base 1 "size_of" 1 Dt.qT) : Fd P w K mg base 2 "rank_of" 1 Gr.vp :=
 fd2 (r := Gr.zj) F jW hm hb rfl (fun a b c d e f hr nd G => (qJ (wd (Us (uH (XJ hr.units) X5 (yV _) (qM G.acc f_sign_of (hr.mono (by decide)) rfl (.cons (.nil)) (qk (xv 0) qD)) zZ) (XD (qM G.acc f_size_of (hr.mono (by decide)) rfl (.cons (.nil)) (qk (xv 0) qD))) (qM G.acc f_size_of (hr.mono (by decide)) rfl (.cons (.nil)) (qk (xv 0) qD)))))) (fun _ _ => .inr rfl)
theorem jZ : qr ["numbers", "n", "start"] ["numbers", "n"] (qa (top 9)) := zq rfl rfl rfl rfl (by decide +kernel)
theorem Qg {f : Addr} {fd : FuncData} (F : Fun K "grid_of" "grid_of" (top 9) f fd) (hm : mg "grid_of" = some (.ref f)) (hb : Binds K fd ["numbers", "n"] []) (n_len : mg "len" = none) (n_range : mg "range" = none) : Fd P w K mg base 1 "grid_of" 2 Gr.vt :=
 fd2 (r := Gr.zk) F jZ hm hb rfl (fun a b c d e f hr nd G => (qJ (wd (zI (hc := rfl) (hN := nd) (acc := G.acc) (hst := rfl) (hfr := rfl) (hi := (Vt (i := 2) rfl n_range zZ (xA (w6 vy rfl n_len wA (qk (xv 0) qD)) xB) (xv 1))) (own := [("start", 2)]) (ok := by show jy ["numbers", "n", "start"] (qa (top 9)) _ _ = true; decide +kernel) (hv := by simp [Tg.within]) (hg := fun s H C cl fp => (pgn 2 nd)) (ht := fun s H C cl fp => wN) (he := fun s H C cl fp => (W8 (xv 0) (QI (xv 2)) (QI (w8 yz uz (xv 2) (xv 1))) Zl)))))) (fun _ _ => .inr rfl)
theorem Yb : qr ["grid", "numbers", "row"] ["grid"] (qa (top 10)) := zq rfl rfl rfl rfl (by decide +kernel)
theorem Zj {f : Addr} {fd : FuncData} (F : Fun K "flat" "flat" (top 10) f fd) (hm : mg "flat" = some (.ref f)) (hb : Binds K fd ["grid"] [])  : Fd P w K mg base 1 "flat" 1 Gr.wX :=
 UN (r := Gr.uy) F Yb hm hb rfl (fun a b c d e f hr nd G => (jB (Yz 1 G ne_nil) (jB (XB G (Up (zm (i := 2) (xv 0))) (pgn 2 nd) (QY (Vm (X3 PySem.F.plainAttrs_list PySem.F.slot_list_extend PySem.F.type_list_extend Qz (X6 1) (vA (xv 2) wH))))) (QY (Xh (X6 1)))))) (fun _ => rfl)
theorem uJ : qr ["grid", "j", "row"] ["grid", "j"] (qa (top 11)) := zq rfl rfl rfl rfl (by decide +kernel)
theorem u0 {f : Addr} {fd : FuncData} (F : Fun K "column_of" "column_of" (top 11) f fd) (hm : mg "column_of" = some (.ref f)) (hb : Binds K fd ["grid", "j"] [])  : Fd P w K mg base 1 "column_of" 2 Gr.qW :=
 fd2 (r := Gr.vZ) F uJ hm hb rfl (fun a b c d e f hr nd G => (qJ (wd (zI (hc := rfl) (hN := nd) (acc := G.acc) (hst := rfl) (hfr := rfl) (hi := (zm (i := 2) (xv 0))) (own := [("row", 2)]) (ok := by show jy ["grid", "j", "row"] (qa (top 11)) _ _ = true; decide +kernel) (hv := by simp [Tg.within]) (hg := fun s H C cl fp => (pgn 2 nd)) (ht := fun s H C cl fp => wN) (he := fun s H C cl fp => (jk (xv 2) (xv 1) (fun _ _ => rfl))))))) (fun _ _ => .inr rfl)
theorem xT : qr ["grid", "j"] ["grid"] (qa (top 12)) := zq rfl rfl rfl rfl (by decide +kernel)
theorem xZ {f : Addr} {fd : FuncData} (F : Fun K "columns_of" "columns_of" (top 12) f fd) (hm : mg "columns_of" = some (.ref f)) (hb : Binds K fd ["grid"] []) (n_len : mg "len" = none) (n_range : mg "range" = none) (f_column_of : Fd P w K mg base 1 "column_of" 2 Gr.qW) : Fd P w K mg base 2 "columns_of" 1 Gr.qB :=
 fd2 (r := Gr.vO) F xT hm hb rfl (fun a b c d e f hr nd G => (qJ (wd (zI (hc := rfl) (hN := nd) (acc := G.acc) (hst := rfl) (hfr := rfl) (hi := (Vc (i := 1) rfl n_range (xA (w6 vy rfl n_len wA (qk (jk (xv 0) zZ (fun _ _ => rfl)) qD)) xB))) (own := [("j", 1)]) (ok := by show jy ["grid", "j"] (qa (top 12)) _ _ = true; decide +kernel) (hv := by simp [Tg.within]) (hg := fun s H C cl fp => (pgn 1 nd)) (ht := fun s H C cl fp => wN) (he := fun s H C cl fp => (qM xu f_column_of (hr.mono (by decide)) rfl (.cons (.cons (.nil))) (qk (xv 0) (qk (xv 1) qD)))))))) (fun _ _ => .inr rfl)
theorem yu : qr ["sizes", "lists", "counts", "size", "numbers", "count"] ["sizes", "lists", "counts"] (qa (top 19)) := zq rfl rfl rfl rfl (by decide +kernel)
theorem yn {f : Addr} {fd : FuncData} (F : Fun K "check_counts" "check_counts" (top 19) f fd) (hm : mg "check_counts" = some (.ref f)) (hb : Binds K fd ["sizes", "lists", "counts"] []) {C_WrongCount : Addr} (c_GREATEST_SIZE : ∃ t, mg "GREATEST_SIZE" = some (.int 16 t)) (n_len : mg "len" = none) (n_zip : mg "zip" = none) (m_WrongCount : mg "WrongCount" = some (.ref C_WrongCount)) (x_WrongCount : qC K C_WrongCount = true) : Fd P w K mg base 1 "check_counts" 3 Dt.qy :=
 fd2 (r := Dt.vD) F yu hm hb rfl (fun a b c d e f hr nd G => (jP (QK G (zm (i := 3) (xv 0)) (pgn 3 nd) (qJ (WC (Zk (Uw (uH Yl (jU _) (yV _) (xv 3) zZ) (Y2 (uH UE (jU _) (yV _) (xv 3) (uU rfl c_GREATEST_SIZE))))) (qJ (xj G rfl m_WrongCount x_WrongCount)) uw))) (qJ (WI G (XH (i := 4) (j := 5) rfl n_zip (xv 1) (xv 2)) (pg2 rfl (pgn 4 nd) (pgn 5 nd)) (qJ (WC (uH (Xe hr.units) UI (yV _) (xA (w6 vy rfl n_len wA (qk (xv 4) qD)) xB) (xv 5)) (qJ (xj G rfl m_WrongCount x_WrongCount)) uw)))))) Dt.yw
theorem yy : qr ["numbers", "x"] ["numbers"] (qa (top 20)) := zq rfl rfl rfl rfl (by decide +kernel)
theorem yq {f : Addr} {fd : FuncData} (F : Fun K "check_finite" "check_finite" (top 20) f fd) (hm : mg "check_finite" = some (.ref f)) (hb : Binds K fd ["numbers"] []) {C_NotFinite : Addr} (m_NotFinite : mg "NotFinite" = some (.ref C_NotFinite)) (x_NotFinite : qC K C_NotFinite = true) (f_is_finite : Fd P w K mg base 2 "is_finite" 1 Dt.qY) : Fd P w K mg base 3 "check_finite" 1 Dt.qv :=
 fd2 (r := Dt.vB) F yy hm hb rfl (fun a b c d e f hr nd G => (qJ (QK G (zm (i := 1) (xv 0)) (pgn 1 nd) (qJ (WC (Xz (Y0 (qM G.acc f_is_finite (hr.mono (by decide)) rfl (.cons (.nil)) (qk (xv 1) qD)))) (qJ (xj G rfl m_NotFinite x_NotFinite)) uw))))) Dt.yr
theorem z7 : qr ["d"] ["d"] (qa (top 22)) := zq rfl rfl rfl rfl (by decide +kernel)
noncomputable def Uk : Scope := match qE (top 22) with
 | [.Return (some (.Call _ _ (⟨_, .Lambda _ _ ls _, _⟩ :: _) _)) _] => ls
 | _ => qa (top 22)
theorem ZZ : w9 (qa (top 22)) Uk "i" := ⟨rfl, rfl, rfl, by decide +kernel, rfl, by decide +kernel⟩
theorem ya {f c PT : Addr} {fd : FuncData} (F : Fun K "rising_places" "rising_places" (top 22) f fd) (hns : nsIn K mainGlobals "rising_places" = some (some (.ref f))) (htab : tabIn K "rising_places" = some (c, PT)) (BL : qU mg base c PT) (n_len : mg "len" = none) (n_range : mg "range" = none) (n_sorted : mg "sorted" = none) (f_rank_of : Fd P w K mg base 2 "rank_of" 1 Gr.vp) : wL P w K mg base (CX1 P w) 6 f fd ["d"] (uV mg K Gr.vp PT) :=
 ZH (k := 2) F z7 htab hns BL rfl ZZ rfl rfl rfl rfl n_sorted n_range n_len (fun a => rfl) (fun a b c d e f => rfl) (fun cdv A outer s0 H0 E0 A2 q f2 cd s H hr => qM WK f_rank_of hr rfl (.cons (.nil)) (qk (jk (xv 0) (xv 1) (fun a b => rfl)) qD))
theorem xR : qr ["numbers"] ["numbers"] (qa (top 24)) := zq rfl rfl rfl rfl (by decide +kernel)
theorem xW {f : Addr} {fd : FuncData} (F : Fun K "with_count" "with_count" (top 24) f fd) (hm : mg "with_count" = some (.ref f)) (hb : Binds K fd ["numbers"] []) (n_len : mg "len" = none) : Fd P w K mg base 1 "with_count" 1 Dt.qt :=
 fd2 (r := Dt.zP) F xR hm hb rfl (fun a b c d e f hr nd G => (qJ (wd (w8 yz uz (uN (qk (xA (w6 vy rfl n_len wA (qk (xv 0) qD)) xB) qD)) (xv 0))))) Dt.xX
theorem uX : qr ["grid"] ["grid"] (qa (top 25)) := zq rfl rfl rfl rfl (by decide +kernel)
theorem uP {f : Addr} {fd : FuncData} (F : Fun K "grid_told" "grid_told" (top 25) f fd) (hm : mg "grid_told" = some (.ref f)) (hb : Binds K fd ["grid"] []) (f_flat : Fd P w K mg base 1 "flat" 1 Gr.wX) (f_with_count : Fd P w K mg base 1 "with_count" 1 Dt.qt) : Fd P w K mg base 2 "grid_told" 1 Gr.qX :=
 fd2 (r := Gr.v5) F uX hm hb rfl (fun a b c d e f hr nd G => (qJ (wd (qM G.acc f_with_count (hr.mono (by decide)) rfl (.cons (.nil)) (qk (qM G.acc f_flat (hr.mono (by decide)) rfl (.cons (.nil)) (qk (xv 0) qD)) qD))))) (fun _ _ => .inr rfl)
theorem yt : qr ["n", "d", "v", "places", "columns", "i"] ["n", "d", "v"] (qa (top 26)) := zq rfl rfl rfl rfl (by decide +kernel)
theorem yx {f f2 PT : Addr} {fd fd2 : FuncData} (F : Fun K "ordered_told" "ordered_told" (top 26) f fd) (f_check_counts : Fd P w K mg base 1 "check_counts" 3 Dt.qy) (f_check_finite : Fd P w K mg base 3 "check_finite" 1 Dt.qv) (f_columns_of : Fd P w K mg base 2 "columns_of" 1 Gr.qB) (f_grid_of : Fd P w K mg base 1 "grid_of" 2 Gr.vt) (f_grid_told : Fd P w K mg base 2 "grid_told" 1 Gr.qX) (f_with_count : Fd P w K mg base 1 "with_count" 1 Dt.qt) (R : wL P w K mg base (CX1 P w) 6 f2 fd2 ["d"] (uV mg K Gr.vp PT)) (mR : mg "rising_places" = some (.ref f2)) (kR : keepIn K (.ref f2) = true) (bR : Binds K fd2 ["d"] []) : wL P w K mg base (CX1 P w) 7 f fd ["n", "d", "v"] (spT mg K PT Gr.qO) :=
 WA (k := 6) (g := Gr.vp) (gr := Gr.zd) (re1 := Gr.v3) (re2 := Gr.v9) (r45 := Gr.vY) F yt rfl (by decide) (fun a b c d e f hr nd G => (wu (Q6 (qM G.acc f_check_counts (hr.mono (by decide)) rfl (.cons (.cons (.cons (.nil)))) (qk (uN (qk (xv 0) qD)) (qk (uN (qk (xv 1) (qk (xv 2) qD))) (qk (uN (qk (xv 0) (qk (w8 (Zf.or YN) YG (xv 0) (xv 0)) qD))) qD))))) (wu (Q6 (qM G.acc f_check_finite (hr.mono (by decide)) rfl (.cons (.nil)) (qk (w8 yz uz (xv 1) (xv 2)) qD))) (wu (uT (i := 3) nd rfl (.inl rfl) (uC R hr rfl mR kR bR .nil (zc G.acc) (qk (xv 1) qD))) (jP (U3 4 G (qM G.acc f_columns_of (hr.mono (by decide)) rfl (.cons (.nil)) (qk (qM G.acc f_grid_of (hr.mono (by decide)) rfl (.cons (.cons (.nil))) (qk (xv 2) (qk (xv 0) qD))) qD))) (qJ (wd (w8 yz uz (qM G.acc f_with_count (hr.mono (by decide)) rfl (.cons (.nil)) (qk (zI (hc := rfl) (hN := nd) (acc := G.acc) (hst := rfl) (hfr := rfl) (hi := (zm (i := 5) (xv 3))) (own := [("i", 5)]) (ok := by show jy ["n", "d", "v", "places", "columns", "i"] (qa (top 26)) _ _ = true; decide +kernel) (hv := by simp [Tg.within]) (hg := fun s H C cl fp => (pgn 5 nd)) (ht := fun s H C cl fp => wN) (he := fun s H C cl fp => (jk (xv 1) (xv 5) (fun _ _ => rfl)))) qD)) (qM G.acc f_grid_told (hr.mono (by decide)) rfl (.cons (.nil)) (qk (qM G.acc f_columns_of (hr.mono (by decide)) rfl (.cons (.nil)) (qk (zI (hc := rfl) (hN := nd) (acc := G.acc) (hst := rfl) (hfr := rfl) (hi := (zm (i := 5) (xv 3))) (own := [("i", 5)]) (ok := by show jy ["n", "d", "v", "places", "columns", "i"] (qa (top 26)) _ _ = true; decide +kernel) (hv := by simp [Tg.within]) (hg := fun s H C cl fp => (pgn 5 nd)) (ht := fun s H C cl fp => wN) (he := fun s H C cl fp => (jk (xv 4) (xv 5) (fun _ _ => rfl)))) qD)) qD)))))))))) Gr.Zi (fun a => rfl)
end
theorem jo : qr ["work", "told"] ["work"] (qa (top 18)) := zq rfl rfl rfl rfl (by decide +kernel)
theorem Ql : qr ["n", "d", "v"] ["n", "d", "v"] (qa (top 27)) := zq rfl rfl rfl rfl (by decide +kernel)
noncomputable def U5 : Scope := match qE (top 27) with
 | [.Return (some (.Call _ (.Lambda _ _ ls _ :: _) _ _)) _] => ls
 | _ => qa (top 27)
theorem Wr : zO (qa (top 27)) U5 := ⟨rfl, rfl, rfl, by decide +kernel, by decide +kernel, by decide +kernel⟩
theorem all_mk {P : Program} {w : World} {K : Frag} {h : Heap} {mg : Str -> Option Value} {fa c PT c2 PT2 : Addr} (X : K.In h) (G : h.Ns mainGlobals mg) (hfa : mg "ordered" = some (.ref fa))
  {f_x0 : Addr} {d_x0 : FuncData}
  {f_x1 : Addr} {d_x1 : FuncData}
  {f_x2 : Addr} {d_x2 : FuncData}
  {f_x3 : Addr} {d_x3 : FuncData}
  {f_x4 : Addr} {d_x4 : FuncData}
  {f_x5 : Addr} {d_x5 : FuncData}
  {f_x6 : Addr} {d_x6 : FuncData}
  {f_x7 : Addr} {d_x7 : FuncData}
  {f_x8 : Addr} {d_x8 : FuncData}
  {f_x9 : Addr} {d_x9 : FuncData}
  {f_x10 : Addr} {d_x10 : FuncData}
  {f_x11 : Addr} {d_x11 : FuncData}
  {f_x12 : Addr} {d_x12 : FuncData}
  {f_x13 : Addr} {d_x13 : FuncData}
  {f_x14 : Addr} {oc_x14 kV_x14 dc_x14 pm_x14 cd_x14 ct_x14 : Value} {od_x14 an_x14 : Option Addr} {sl_x14 : Array (Option Value)}
  {f_x15 : Addr} {oc_x15 kV_x15 dc_x15 pm_x15 cd_x15 ct_x15 : Value} {od_x15 an_x15 : Option Addr} {sl_x15 : Array (Option Value)}
  {C_WrongCount C_NotFinite C_StepNotFinite C_NotAsTold : Addr}
  {t_GREATEST_SIZE : _}
  {t_INFINITE : _}
  {t_SIGN_BIT : _}
  (a_x0 : mg "sign_of" = some (.ref f_x0)) (F_x0 : Fun K "sign_of" "sign_of" (top 4) f_x0 d_x0)
  (a_x1 : mg "size_of" = some (.ref f_x1)) (F_x1 : Fun K "size_of" "size_of" (top 5) f_x1 d_x1)
  (a_x2 : mg "is_finite" = some (.ref f_x2)) (F_x2 : Fun K "is_finite" "is_finite" (top 6) f_x2 d_x2)
  (a_x3 : mg "rank_of" = some (.ref f_x3)) (F_x3 : Fun K "rank_of" "rank_of" (top 7) f_x3 d_x3)
  (a_x4 : mg "grid_of" = some (.ref f_x4)) (F_x4 : Fun K "grid_of" "grid_of" (top 9) f_x4 d_x4)
  (a_x5 : mg "flat" = some (.ref f_x5)) (F_x5 : Fun K "flat" "flat" (top 10) f_x5 d_x5)
  (a_x6 : mg "column_of" = some (.ref f_x6)) (F_x6 : Fun K "column_of" "column_of" (top 11) f_x6 d_x6)
  (a_x7 : mg "columns_of" = some (.ref f_x7)) (F_x7 : Fun K "columns_of" "columns_of" (top 12) f_x7 d_x7)
  (a_x8 : mg "check_counts" = some (.ref f_x8)) (F_x8 : Fun K "check_counts" "check_counts" (top 19) f_x8 d_x8)
  (a_x9 : mg "check_finite" = some (.ref f_x9)) (F_x9 : Fun K "check_finite" "check_finite" (top 20) f_x9 d_x9)
  (a_x10 : nsIn K mainGlobals "rising_places" = some (some (.ref f_x10))) (F_x10 : Fun K "rising_places" "rising_places" (top 22) f_x10 d_x10)
  (a_x11 : mg "with_count" = some (.ref f_x11)) (F_x11 : Fun K "with_count" "with_count" (top 24) f_x11 d_x11)
  (a_x12 : mg "grid_told" = some (.ref f_x12)) (F_x12 : Fun K "grid_told" "grid_told" (top 25) f_x12 d_x12)
  (a_x13 : mg "ordered_told" = some (.ref f_x13)) (F_x13 : Fun K "ordered_told" "ordered_told" (top 26) f_x13 d_x13)
  (a_x14 : mg "answered" = some (.ref f_x14)) (l_x14 : K.lookup f_x14 = some ⟨oc_x14, od_x14, .func (fnOf "answered" "answered" (vh (top 18)) (qE (top 18)) (qa (top 18)) .none kV_x14 dc_x14 pm_x14 an_x14 cd_x14 ct_x14), sl_x14⟩) (c_x14 : codeIn K cd_x14 "answered" = true) (k_x14 : keepIn K (.ref f_x14) = true)
  (a_x15 : nsIn K mainGlobals "ordered" = some (some (.ref f_x15))) (l_x15 : K.lookup f_x15 = some ⟨oc_x15, od_x15, .func (fnOf "ordered" "ordered" (vh (top 27)) (qE (top 27)) (qa (top 27)) .none kV_x15 dc_x15 pm_x15 an_x15 cd_x15 ct_x15), sl_x15⟩) (c_x15 : codeIn K cd_x15 "ordered" = true) (k_x15 : keepIn K (.ref f_x15) = true)
  (s_GREATEST_SIZE : mg "GREATEST_SIZE" = some (.int (16) t_GREATEST_SIZE))
  (s_INFINITE : mg "INFINITE" = some (.int (9218868437227405312) t_INFINITE))
  (s_SIGN_BIT : mg "SIGN_BIT" = some (.int (9223372036854775808) t_SIGN_BIT))
  (q_WrongCount : mg "WrongCount" = some (.ref C_WrongCount)) (x_WrongCount : qC K C_WrongCount = true)
  (q_NotFinite : mg "NotFinite" = some (.ref C_NotFinite)) (x_NotFinite : qC K C_NotFinite = true)
  (q_StepNotFinite : mg "StepNotFinite" = some (.ref C_StepNotFinite)) (x_StepNotFinite : qC K C_StepNotFinite = true)
  (q_NotAsTold : mg "NotAsTold" = some (.ref C_NotAsTold)) (x_NotAsTold : qC K C_NotAsTold = true)
  (z_len : mg "len" = none)
  (z_range : mg "range" = none)
  (z_sorted : mg "sorted" = none)
  (z_zip : mg "zip" = none)
  (e2 : (C_NotFinite == C_WrongCount) = false) (e3 : (C_StepNotFinite == C_WrongCount) = false) (e4 : (C_StepNotFinite == C_NotFinite) = false) (e5 : (C_NotAsTold == C_WrongCount) = false) (e6 : (C_NotAsTold == C_NotFinite) = false) (e7 : (C_NotAsTold == C_StepNotFinite) = false)
  (htab : tabIn K "ordered" = some (c, PT)) (htab2 : tabIn K "rising_places" = some (c2, PT2)) (hne : PT ≠ PT2) :
  ∃ fd : FuncData, (∀ (s : Shared) (us : List Value), us.length = (["n", "d", "v"] : List Str).length -> BindsTo s fd ⟨us, []⟩ ((["n", "d", "v"] : List Str).zip us)) /\ ∀ base : Heap, K.In base -> base.Ns mainGlobals mg -> qU mg base c PT -> qU mg base c2 PT2 -> wL P w K mg base (CX1 P w) 10 fa fd ["n", "d", "v"] (Qw mg K Gr.qO LL PT PT2) := by
 have e := hfa.symm.trans (mg_of X G a_x15)
 cases e
 have b_x0 : Binds K _ ["x"] [] := xY F_x0 fun a a a a a a a => rfl
 have b_x1 : Binds K _ ["x"] [] := xY F_x1 fun a a a a a a a => rfl
 have b_x2 : Binds K _ ["x"] [] := xY F_x2 fun a a a a a a a => rfl
 have b_x3 : Binds K _ ["x"] [] := xY F_x3 fun a a a a a a a => rfl
 have b_x4 : Binds K _ ["numbers", "n"] [] := UH F_x4 fun a a a a a a a a => rfl
 have b_x5 : Binds K _ ["grid"] [] := xY F_x5 fun a a a a a a a => rfl
 have b_x6 : Binds K _ ["grid", "j"] [] := UH F_x6 fun a a a a a a a a => rfl
 have b_x7 : Binds K _ ["grid"] [] := xY F_x7 fun a a a a a a a => rfl
 have b_x8 : Binds K _ ["sizes", "lists", "counts"] [] := Ua F_x8 fun a a a a a a a a a => rfl
 have b_x9 : Binds K _ ["numbers"] [] := xY F_x9 fun a a a a a a a => rfl
 have b_x10 : Binds K _ ["d"] [] := xY F_x10 fun a a a a a a a => rfl
 have b_x11 : Binds K _ ["numbers"] [] := xY F_x11 fun a a a a a a a => rfl
 have b_x12 : Binds K _ ["grid"] [] := xY F_x12 fun a a a a a a a => rfl
 have b_x13 : Binds K _ ["n", "d", "v"] [] := Ua F_x13 fun a a a a a a a a a => rfl
 have F_x14 := vf (st := (top 18)) l_x14 c_x14 k_x14
 have F_x15 := vf (st := (top 27)) l_x15 c_x15 k_x15
 refine ⟨fnOf "ordered" "ordered" (vh (top 27)) (qE (top 27)) (qa (top 27)) .none kV_x15 dc_x15 pm_x15 an_x15 cd_x15 ct_x15, fun s => X9 fun _ _ _ => .of_eq rfl, fun base _ _ BL BL2 => ?_⟩
 have g_GREATEST_SIZE : ∃ t, mg "GREATEST_SIZE" = some (.int (16) t) := ⟨_, s_GREATEST_SIZE⟩
 have g_INFINITE : ∃ t, mg "INFINITE" = some (.int (9218868437227405312) t) := ⟨_, s_INFINITE⟩
 have g_SIGN_BIT : ∃ t, mg "SIGN_BIT" = some (.int (9223372036854775808) t) := ⟨_, s_SIGN_BIT⟩
 have D_x0 : Fd P w K mg base 1 "sign_of" 1 Dt.vF := Qn F_x0 a_x0 b_x0
 have D_x1 : Fd P w K mg base 1 "size_of" 1 Dt.qT := Qs F_x1 a_x1 b_x1 g_SIGN_BIT
 have D_x2 : Fd P w K mg base 2 "is_finite" 1 Dt.qY := uB F_x2 a_x2 b_x2 g_INFINITE D_x1
 have D_x3 : Fd P w K mg base 2 "rank_of" 1 Gr.vp := Qp F_x3 a_x3 b_x3 D_x0 D_x1
 have D_x4 : Fd P w K mg base 1 "grid_of" 2 Gr.vt := Qg F_x4 a_x4 b_x4 z_len z_range
 have D_x5 : Fd P w K mg base 1 "flat" 1 Gr.wX := Zj F_x5 a_x5 b_x5
 have D_x6 : Fd P w K mg base 1 "column_of" 2 Gr.qW := u0 F_x6 a_x6 b_x6
 have D_x7 : Fd P w K mg base 2 "columns_of" 1 Gr.qB := xZ F_x7 a_x7 b_x7 z_len z_range D_x6
 have D_x8 : Fd P w K mg base 1 "check_counts" 3 Dt.qy := yn F_x8 a_x8 b_x8 g_GREATEST_SIZE z_len z_zip q_WrongCount x_WrongCount
 have D_x9 : Fd P w K mg base 3 "check_finite" 1 Dt.qv := yq F_x9 a_x9 b_x9 q_NotFinite x_NotFinite D_x2
 have D_x10 := ya (P := P) (w := w) (mg := mg) (base := base) F_x10 a_x10 htab2 BL2 z_len z_range z_sorted D_x3
 have D_x11 : Fd P w K mg base 1 "with_count" 1 Dt.qt := xW F_x11 a_x11 b_x11 z_len
 have D_x12 : Fd P w K mg base 2 "grid_told" 1 Gr.qX := uP F_x12 a_x12 b_x12 D_x5 D_x11
 have D_x13 := yx (P := P) (w := w) (mg := mg) (base := base) F_x13 D_x8 D_x9 D_x7 D_x4 D_x12 D_x11 D_x10 (mg_of X G a_x10) F_x10.kp b_x10
 have AO : Ww P w K mg base (top 18) [(C_WrongCount, 1), (C_NotFinite, 2), (C_StepNotFinite, 3), (C_NotAsTold, 4)] := ⟨f_x14, _, _, _, _, _, _, _, _, _, _, _, _, _, _, _, _, _, _, _, _, _, _, l_x14, c_x14, k_x14, a_x14, rfl, jo, rfl, rfl, fun s u => .of_eq rfl,
  fun A outer s H E => .cons rfl q_WrongCount x_WrongCount (by decide) (.cons rfl q_NotFinite x_NotFinite (by decide) (.cons rfl q_StepNotFinite x_StepNotFinite (by decide) (.cons rfl q_NotAsTold x_NotAsTold (by decide) .nil)))⟩
 have ER : VZ mg K LL [(C_WrongCount, 1), (C_NotFinite, 2), (C_StepNotFinite, 3), (C_NotAsTold, 4)] := ⟨fun c C k hC hl => U6 q_WrongCount q_NotFinite q_StepNotFinite q_NotAsTold x_WrongCount x_NotFinite x_StepNotFinite x_NotAsTold e2 e3 e4 e5 e6 e7 hC hl⟩
 exact Zy (st := top 27) (st2 := top 18) (gs := Gr.qO) F_x15 Ql rfl htab a_x15 hne BL AO ER rfl Wr rfl (fun _ => rfl) (fun _ _ _ _ _ => rfl)
  (fun cdv A outer s0 H0 E0 Y q f2 cd s H E2 hr => uC D_x13 hr rfl a_x13 F_x13.kp b_x13 .nil (zc (Zb Wr)) (qk (xv 0) (qk (xv 1) (qk (xv 2) qD))))
end Lw
open PySem PySem.W PyProof.Rows
set_option maxRecDepth 100000 in
set_option maxHeartbeats 0 in
theorem PySem.Challenge.cw_doubletables_s25_ordered_holds : PySem.Challenge.rw_doubletables_s25_ordered.Holds := by
 w_on; k_headS; (case hw => exact ⟨[.int 0, .list [], .list []], by decide +kernel, by decide +kernel⟩)
 k_fillS
 refine L2.Ir.Vk (r := PySem.Challenge.rw_doubletables_s25_ordered) (k := 10) (ps := ["n", "d", "v"]) (x2 := "rising_places") (sp := fun K mg PT PT2 => L2.Ir.Qw mg K Gr.qO Dt.LL PT PT2) (c := ?c) (PT := ?PT) (c2 := ?c2) (PT2 := ?PT2) (by decide +kernel) rfl ⟨rfl, by decide, by decide⟩ (fun w h Y => PySem.W.kIn_of Y) ?no ?tab rfl ?tab2 rfl ?ne ?F ?S
 (case tab => intro p; exact rfl)
 (case tab2 => intro p; exact rfl)
 (case ne => intro p; decide)
 (case no => intro p; exact rfl)
 case F =>
  intro w mg fa h Y KX G hmg
  refine' Lw.all_mk KX G hmg ?a_x0 ?F_x0 ?a_x1 ?F_x1 ?a_x2 ?F_x2 ?a_x3 ?F_x3 ?a_x4 ?F_x4 ?a_x5 ?F_x5 ?a_x6 ?F_x6 ?a_x7 ?F_x7 ?a_x8 ?F_x8 ?a_x9 ?F_x9 ?a_x10 ?F_x10 ?a_x11 ?F_x11 ?a_x12 ?F_x12 ?a_x13 ?F_x13 ?a_x14 ?l_x14 ?c_x14 ?k_x14 ?a_x15 ?l_x15 ?c_x15 ?k_x15 ?s_GREATEST_SIZE ?s_INFINITE ?s_SIGN_BIT ?q_WrongCount ?x_WrongCount ?q_NotFinite ?x_NotFinite ?q_StepNotFinite ?x_StepNotFinite ?q_NotAsTold ?x_NotAsTold ?z_len ?z_range ?z_sorted ?z_zip ?e2 ?e3 ?e4 ?e5 ?e6 ?e7 ?htab ?htab2 ?hne
  (case a_x0 => (refine' PySem.W.mg_of KX G ?g1; (case g1 => k_is))); (case F_x0 => (refine' L2.vf ?g1 ?g2 ?g3; (case g1 => k_is); (case g2 => k_is); (case g3 => k_is))); (case a_x1 => (refine' PySem.W.mg_of KX G ?g1; (case g1 => k_is))); (case F_x1 => (refine' L2.vf ?g1 ?g2 ?g3; (case g1 => k_is); (case g2 => k_is); (case g3 => k_is))); (case a_x2 => (refine' PySem.W.mg_of KX G ?g1; (case g1 => k_is))); (case F_x2 => (refine' L2.vf ?g1 ?g2 ?g3; (case g1 => k_is); (case g2 => k_is); (case g3 => k_is))); (case a_x3 => (refine' PySem.W.mg_of KX G ?g1; (case g1 => k_is))); (case F_x3 => (refine' L2.vf ?g1 ?g2 ?g3; (case g1 => k_is); (case g2 => k_is); (case g3 => k_is))); (case a_x4 => (refine' PySem.W.mg_of KX G ?g1; (case g1 => k_is))); (case F_x4 => (refine' L2.vf ?g1 ?g2 ?g3; (case g1 => k_is); (case g2 => k_is); (case g3 => k_is))); (case a_x5 => (refine' PySem.W.mg_of KX G ?g1; (case g1 => k_is))); (case F_x5 => (refine' L2.vf ?g1 ?g2 ?g3; (case g1 => k_is); (case g2 => k_is); (case g3 => k_is))); (case a_x6 => (refine' PySem.W.mg_of KX G ?g1; (case g1 => k_is))); (case F_x6 => (refine' L2.vf ?g1 ?g2 ?g3; (case g1 => k_is); (case g2 => k_is); (case g3 => k_is))); (case a_x7 => (refine' PySem.W.mg_of KX G ?g1; (case g1 => k_is))); (case F_x7 => (refine' L2.vf ?g1 ?g2 ?g3; (case g1 => k_is); (case g2 => k_is); (case g3 => k_is))); (case a_x8 => (refine' PySem.W.mg_of KX G ?g1; (case g1 => k_is))); (case F_x8 => (refine' L2.vf ?g1 ?g2 ?g3; (case g1 => k_is); (case g2 => k_is); (case g3 => k_is))); (case a_x9 => (refine' PySem.W.mg_of KX G ?g1; (case g1 => k_is))); (case F_x9 => (refine' L2.vf ?g1 ?g2 ?g3; (case g1 => k_is); (case g2 => k_is); (case g3 => k_is))); (case a_x10 => k_is); (case F_x10 => (refine' L2.vf ?g1 ?g2 ?g3; (case g1 => k_is); (case g2 => k_is); (case g3 => k_is))); (case a_x11 => (refine' PySem.W.mg_of KX G ?g1; (case g1 => k_is))); (case F_x11 => (refine' L2.vf ?g1 ?g2 ?g3; (case g1 => k_is); (case g2 => k_is); (case g3 => k_is))); (case a_x12 => (refine' PySem.W.mg_of KX G ?g1; (case g1 => k_is))); (case F_x12 => (refine' L2.vf ?g1 ?g2 ?g3; (case g1 => k_is); (case g2 => k_is); (case g3 => k_is))); (case a_x13 => (refine' PySem.W.mg_of KX G ?g1; (case g1 => k_is))); (case F_x13 => (refine' L2.vf ?g1 ?g2 ?g3; (case g1 => k_is); (case g2 => k_is); (case g3 => k_is))); (case a_x14 => (refine' PySem.W.mg_of KX G ?g1; (case g1 => k_is))); (case l_x14 => k_is); (case c_x14 => k_is); (case k_x14 => k_is); (case a_x15 => k_is); (case l_x15 => k_is); (case c_x15 => k_is); (case k_x15 => k_is); (case s_GREATEST_SIZE => (refine' PySem.W.mg_of KX G ?g1; (case g1 => k_is))); (case s_INFINITE => (refine' PySem.W.mg_of KX G ?g1; (case g1 => k_is))); (case s_SIGN_BIT => (refine' PySem.W.mg_of KX G ?g1; (case g1 => k_is))); (case q_WrongCount => (refine' PySem.W.mg_of KX G ?g1; (case g1 => k_is))); (case x_WrongCount => (refine' Dt.vX ?g1 ?g2 ?g3; (case g1 => k_is); (case g2 => (refine' Dt.yH ?l ?h; (case l => k_is); (case h => exact rfl))); (case g3 => k_is))); (case q_NotFinite => (refine' PySem.W.mg_of KX G ?g1; (case g1 => k_is))); (case x_NotFinite => (refine' Dt.vX ?g1 ?g2 ?g3; (case g1 => k_is); (case g2 => (refine' Dt.yH ?l ?h; (case l => k_is); (case h => exact rfl))); (case g3 => k_is))); (case q_StepNotFinite => (refine' PySem.W.mg_of KX G ?g1; (case g1 => k_is))); (case x_StepNotFinite => (refine' Dt.vX ?g1 ?g2 ?g3; (case g1 => k_is); (case g2 => (refine' Dt.yH ?l ?h; (case l => k_is); (case h => exact rfl))); (case g3 => k_is))); (case q_NotAsTold => (refine' PySem.W.mg_of KX G ?g1; (case g1 => k_is))); (case x_NotAsTold => (refine' Dt.vX ?g1 ?g2 ?g3; (case g1 => k_is); (case g2 => (refine' Dt.yH ?l ?h; (case l => k_is); (case h => exact rfl))); (case g3 => k_is))); (case z_len => (refine' PySem.W.mg_none_of KX G ?g1; (case g1 => k_is))); (case z_range => (refine' PySem.W.mg_none_of KX G ?g1; (case g1 => k_is))); (case z_sorted => (refine' PySem.W.mg_none_of KX G ?g1; (case g1 => k_is))); (case z_zip => (refine' PySem.W.mg_none_of KX G ?g1; (case g1 => k_is)))
  (case e2 => decide +kernel); (case e3 => decide +kernel); (case e4 => decide +kernel); (case e5 => decide +kernel); (case e6 => decide +kernel); (case e7 => decide +kernel)
  (case htab => exact rfl)
  (case htab2 => exact rfl)
  (case hne => decide)
 case S =>
  intro K mg PT PT2 H xs a hP hP2 hwi hask hx
  have e : L2.Ir.uD (Codec.encAll PySem.Challenge.rw_doubletables_s25_ordered.args a) = [.int a.1, .lst (a.2.1.map L2.Ir.D.int), .lst (a.2.2.1.map L2.Ir.D.int)] := by
   show [L2.Ir.D.int a.1, L2.Ir.D.lst (L2.Ir.uD (a.2.1.map WData.int)), L2.Ir.D.lst (L2.Ir.uD (a.2.2.1.map WData.int))] = _
   rw [L2.Ir.yd a.2.1, L2.Ir.yd a.2.2.1]
  have pl : L2.Ir.xV (Codec.encAll PySem.Challenge.rw_doubletables_s25_ordered.args a) = true := by
   show (true && (L2.Ir.xV (a.2.1.map WData.int) && (L2.Ir.xV (a.2.2.1.map WData.int) && true))) = true
   rw [L2.Ir.z3 a.2.1, L2.Ir.z3 a.2.2.1]; rfl
  have q : (Codec.inInt 0 18446744073709551615 a.1 && ((Codec.inLen 0 300 a.2.1 && a.2.1.all (Codec.inInt 0 18446744073709551615)) && ((Codec.inLen 0 300 a.2.2.1 && a.2.2.1.all (Codec.inInt 0 18446744073709551615)) && true))) = true := hwi
  simp only [Bool.and_eq_true] at q
  obtain ⟨h1, h2⟩ := Gr.jz (Dt.W9 q.1) (Dt.QP q.2.1.2) (Dt.QP q.2.2.1.2) (Codec.inNat_iff.mp q.2.1.1).2 (Codec.inNat_iff.mp q.2.2.1.1).2
  refine ⟨_, _, rfl, hP, hP2, by rw [<- e]; exact L2.Ir.xk _ _ pl hx, h1, h2, fun H2 p hp => ?_⟩
  rw [Dt.xF] at hp
  exact .lst (L2.SqL.of hp) (L2.Q1 _)
