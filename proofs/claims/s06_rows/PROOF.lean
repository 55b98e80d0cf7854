import PyProof.Rows.All
import Wide.All
import OpenK.AllK
import Wide.FinOn
import PyProof.EqAt
import PyProof.EqKinds
import PyProof.TupleCall
import KE.BitLaws
import Open.SpecLaws
import KE.OsHead
import KE.OsGo
import PyProof.StationsW
import PyProof.ExcBaseAll.Exception
import KE.KLam
import PyProof.SliceList
import KE.KNestM
import PySem.Challenge.RW_doubletables_s06_rows
set_option bootstrap.genMatcherCode false
set_option compiler.extract_closed false
set_option genSizeOf false
set_option genInjectivity false
set_option Elab.async false
set_option linter.all false
set_option maxRecDepth 100000
namespace L2
open PySem PySem.Spec PyProof.Rows
noncomputable abbrev Key := Sum Int Str
noncomputable def WZ : Key -> Value -> Bool
 | .inl k, v => Value.isInt k v
 | .inr x, v => Value.isStrOf x v
noncomputable def Xh (w : World) : Key -> Int
 | .inl k => hashInt k
 | .inr x => hashStr w x
theorem qF : ∀ {k : Key} {v : Value}, WZ k v = true -> (∃ i t, k = Sum.inl i /\ v = Value.int i t) \/ (∃ x t, k = Sum.inr x /\ v = Value.str x t)
 | .inl i, v, h => by
  obtain ⟨t, e⟩ := Value.isInt_shape (k := i) (v := v) h
  exact .inl ⟨i, t, rfl, e⟩
 | .inr x, v, h => by
  obtain ⟨t, e⟩ := Value.isStrOf_shape (x := x) (v := v) h
  exact .inr ⟨x, t, rfl, e⟩
theorem ZN (a b : Int) : decide ((Sum.inl a : Key) = Sum.inl b) = (a == b) := by
 by_cases e : a = b
 ·subst e; simp
 ·have h : ¬ (Sum.inl a : Key) = Sum.inl b := fun q => e (Sum.inl.inj q)
  rw [decide_eq_false h]
  exact (beq_eq_false_iff_ne.mpr e).symm
theorem Yi (a b : Str) : decide ((Sum.inr a : Key) = Sum.inr b) = decide (a = b) := by
 by_cases e : a = b
 ·subst e; simp
 ·have h : ¬ (Sum.inr a : Key) = Sum.inr b := fun q => e (Sum.inr.inj q)
  rw [decide_eq_false h, decide_eq_false e]
theorem ZC (a : Int) (b : Str) : decide ((Sum.inl a : Key) = Sum.inr b) = false := decide_eq_false (fun q => nomatch q)
theorem Z0 (a : Str) (b : Int) : decide ((Sum.inr a : Key) = Sum.inl b) = false := decide_eq_false (fun q => nomatch q)
noncomputable def jJ (prog : Program) (w : World) : PySem.KeyKind prog w Key where
 is := WZ
 hash := Xh w
 inj := fun v a b ha hb => by
  rcases qF ha with ⟨i, t, rfl, rfl⟩ | ⟨x, t, rfl, rfl⟩
  ·rcases qF hb with ⟨j, u, rfl, e⟩ | ⟨y, u, rfl, e⟩
   ·injection e with e1 _; rw [e1]
   ·exact nomatch e
  ·rcases qF hb with ⟨j, u, rfl, e⟩ | ⟨y, u, rfl, e⟩
   ·exact nomatch e
   ·injection e with e1 _; rw [e1]
 byValue := fun k v h => by
  rcases qF h with ⟨i, t, rfl, rfl⟩ | ⟨x, t, rfl, rfl⟩ <;> rfl
 pyHash := fun hv h => by
  rcases qF hv with ⟨i, t, rfl, rfl⟩ | ⟨x, t, rfl, rfl⟩
  ·exact wpAny_pyHash_int h
  ·exact wpAny_pyHash_str h
 eqBool := fun hu hv h => by
  rcases qF hu with ⟨i, t, rfl, rfl⟩ | ⟨x, t, rfl, rfl⟩
  ·rcases qF hv with ⟨j, u, rfl, rfl⟩ | ⟨y, u, rfl, rfl⟩
   ·rw [ZN] at h; exact wpAny_eqBool_int h
   ·rw [ZC] at h; exact SeqAt.EqAt.int_str i t y u _ _ _ _ h
  ·rcases qF hv with ⟨j, u, rfl, rfl⟩ | ⟨y, u, rfl, rfl⟩
   ·rw [Z0] at h; exact SeqAt.EqAt.str_int x t j u _ _ _ _ h
   ·rw [Yi] at h; exact wpAny_eqBool_str h
 «strs» := fun k x t v h => by
  rcases qF h with ⟨i, u, rfl, e⟩ | ⟨y, u, rfl, e⟩
  ·exact nomatch e
  ·injection e with e1 _
   subst e1
   cases v <;> rfl
set_option genInjectivity true in
inductive V where
 | non | bl (b : Bool) | int (i : Int) | str (x : Str) | byt (b : Array UInt8) | flt (b : UInt64) | ref (a : Addr) | ty (n : String)
 deriving DecidableEq
noncomputable def RelV : V -> Value -> Prop
 | .non, u => u = Value.none
 | .bl b, u => u = Value.bool b
 | .int i, u => ∃ t, u = Value.int i t
 | .str x, u => ∃ t, u = Value.str x t
 | .byt b, u => ∃ t, u = Value.bytes b t
 | .flt b, u => ∃ t, u = Value.float b t
 | .ref a, u => u = Value.ref a
 | .ty n, u => u = Value.type n
noncomputable abbrev Vals : List V -> List Value -> Prop := Paired RelV
theorem Vals.length {xs : List V} {us : List Value} (r : Vals xs us) : xs.length = us.length := Paired.length r
theorem Vals.get : ∀ {xs : List V} {us : List Value} {i : Nat} {x : V}, Vals xs us -> xs[i]? = some x -> ∃ u, us[i]? = some u /\ RelV x u
 | _, _, _, _, .nil, e => by simp at e
 | _, _, 0, _, .cons r _, e => by simp at e; subst e; exact ⟨_, rfl, r⟩
 | _, _, i + 1, x, .cons _ t, e => by
  obtain ⟨u, h1, h2⟩ := Vals.get (i := i) (x := x) t (by simpa using e)
  exact ⟨u, by simpa using h1, h2⟩
theorem Vals.append : ∀ {xs ys : List V} {us ws : List Value}, Vals xs us -> Vals ys ws -> Vals (xs ++ ys) (us ++ ws)
 | _, _, _, _, .nil, s => s
 | _, _, _, _, .cons r t, s => .cons r (Vals.append t s)
theorem Vals.none_of : ∀ {xs : List V} {us : List Value} {i : Nat}, Vals xs us -> xs[i]? = none -> us[i]? = none := fun {xs us i} r e => by
 have h1 := r.length
 have h2 : xs.length <= i := List.getElem?_eq_none_iff.mp e
 exact List.getElem?_eq_none_iff.mpr (by lia)
noncomputable def Yp : Option V -> Option Value -> Prop
 | some v, some u => RelV v u
 | none, none => True
 | _, _ => False
noncomputable def KV {κ : Type} : List (κ × V) -> List (κ × Value) -> Prop := Paired fun (p : κ × V) (q : κ × Value) => p.1 = q.1 /\ RelV p.2 q.2
noncomputable def kV : Key -> V
 | .inl i => .int i
 | .inr x => .str x
inductive HO where
 /-- a list -/
 | lst (xs : List V)
 /-- a tuple (never changes) -/
 | tup (xs : List V)
 /-- a dict whose keys are ints and texts; one whose keys are tuples of ints and texts (the empty one is both) -/
 | dK (kvs : List (Key × V)) | dT (kvs : List (List Key × V))
 /-- a set of ints: its members, its size -/
 | set (S : Int -> Bool) (n : Nat)
 /-- an instance of the class at C, its dict at dx, its attributes -/
 | ins (C dx : Addr) (fs : List (Str × V))
 /-- the dict of the instance at x -/
 | own (x : Addr)
 /-- the dict of an exception -/
 | xd (fs : List (Str × V))
 /-- a bound method, f of x -/
 | met (f x : Addr)
 /-- a range object lo, lo + 1, .. below hi -/
 | rng (lo hi : Int)
 /-- a thing that is known to the object (the script; a dict while a loop walks it): read, never written while it is so -/
 | frz (o : Obj) (u : HO)
 /-- a code object's table -/
 | tbl (ps : Array Value)
 /-- any other thing, by what is true of its one object (a def of one's own: SetO a S n := HO.ext fun h => ..) -/
 | ext (φ : Heap -> Prop)
noncomputable abbrev Hp := Addr -> Option HO
noncomputable def upd (H : Hp) (a : Addr) (o : HO) : Hp := fun b => if b = a then some o else H b
theorem qm {H : Hp} {a : Addr} {o : HO} : upd H a o a = some o := by unfold upd; rw [if_pos rfl]
theorem qd {H : Hp} {a b : Addr} {o : HO} (h : b ≠ a) : upd H a o b = H b := by unfold upd; rw [if_neg h]
theorem qu {H : Hp} {a b : Addr} {o : HO} (h : H a = some o) (h' : H b = none) : a ≠ b := by
 intro e; subst e; rw [h] at h'; cases h'
section
variable (P : Program) (w : World)
noncomputable def vq (H : Hp) (h : Heap) (a : Addr) : HO -> Prop
 | .lst xs => xs.length <= sizeLine /\ ∃ (its : List Value) (n : Nat), Vals xs its /\ h.get? a = some { cls := .type "list", data := .seq its.toArray n }
 | .tup xs => xs.length <= sizeLine /\ ∃ its : List Value, Vals xs its /\ IsTup h a its.toArray
 | .dK kvs => kvs.length <= sizeLine /\ (a == sysModules) = false /\ ∃ vs, KV kvs vs /\ h.DictOf (jJ P w) a vs
 | .dT kvs => kvs.length <= sizeLine /\ (a == sysModules) = false /\ ∃ xs : List (List Key × Addr × Value),
   Paired (fun (p : List Key × V) (q : List Key × Addr × Value) => p.1 = q.1 /\ H q.2.1 = some (.tup (p.1.map kV)) /\ RelV p.2 q.2.2) kvs xs /\
   ∃ o es ep, h.get? a = some o /\ o.ExactDict /\ o.data = .dict es ep /\ es.toList = xs.map (entryOfKey (tupleKind (jJ P w))) /\ (xs.map (·.1)).Nodup
 | .set S n => h.SetOf (intKind P w) a S n
 | .ins C dx fs => H dx = some (.own a) /\ fs.length <= 1000 /\ dx ≠ a /\ h.get? a = some (PySem.W.instObj C dx) /\
   ∃ mA, h.Ns1 dx mA /\ (∀ f, Yp (fs.lookup f) (mA f)) /\ PySem.Within mA (fs.map (·.1))
 | .own _ => ∃ o, h.get? a = some o
 | .xd fs => ∃ mA, h.Ns1 a mA /\ ∀ f, Yp (fs.lookup f) (mA f)
 | .rng lo hi => ∃ t u v, h.get? a = some { cls := .type "range", data := .fields #[.int lo t, .int hi u, .int 1 v] }
 | .frz o u => h.get? a = some o /\ vq H h a u
 | .tbl ps => h.get? a = some { cls := .none, data := .fields ps }
 | .met f x => h.get? a = some (PySem.W.methodObj (.ref f) (.ref x))
 | .ext φ => φ h /\ (∃ o, h.get? a = some o) /\ ∀ h1 h2 : Heap, φ h1 -> (∀ o, h1.get? a = some o -> h2.get? a = some o) -> φ h2
noncomputable def HOk (H : Hp) (h : Heap) : Prop := ∀ a o, H a = some o -> vq P w H h a o
end
section
variable {P : Program} {w : World} {H H' : Hp} {h h' : Heap} {a : Addr} {o : HO}
theorem vq.lt (x : vq P w H h a o) : a < h.objs.size := by
 cases o with
 | lst xs => obtain ⟨_, _, _, _, e⟩ := x; exact Heap.lt_size e
 | tup xs => obtain ⟨_, _, _, p⟩ := x; exact p.lt
 | dK kvs => obtain ⟨_, _, _, _, o, _, _, e, _⟩ := x; exact Heap.lt_size e
 | dT kvs => obtain ⟨_, _, _, _, o, _, _, e, _⟩ := x; exact Heap.lt_size e
 | set S n => obtain ⟨o, _, _, _, e, _⟩ := x; exact Heap.lt_size e
 | ins C dx fs => obtain ⟨_, _, _, e, _⟩ := x; exact Heap.lt_size e
 | own y => obtain ⟨_, e⟩ := x; exact Heap.lt_size e
 | xd fs => obtain ⟨_, ⟨_, _, _, e, _⟩, _⟩ := x; exact Heap.lt_size e
 | rng lo hi => obtain ⟨_, _, _, e⟩ := x; exact Heap.lt_size e
 | frz ob u => obtain ⟨e, _⟩ := x; exact Heap.lt_size e
 | tbl ps => exact Heap.lt_size (show h.get? a = some _ from x)
 | met f y => exact Heap.lt_size (show h.get? a = some _ from x)
 | ext φ => obtain ⟨_, ⟨_, e⟩, _⟩ := x; exact Heap.lt_size e
theorem Paired.YR {α β : Type} {F G : α -> β -> Prop} : ∀ {l₁ : List α} {l₂ : List β}, Paired F l₁ l₂ -> (∀ a b, F a b -> G a b) -> Paired G l₁ l₂
 | _, _, .nil, _ => .nil
 | _, _, .cons r t, f => .cons (f _ _ r) (Paired.YR t f)
theorem vq.yN (x : vq P w H h a o) (k : ∀ b u, (b = a \/ H b = some (.own a)) -> h.get? b = some u -> h'.get? b = some u)
  (ho : ∀ b, H b = some (.own a) -> H' b = some (.own a)) (ht : ∀ b xs, H b = some (.tup xs) -> H' b = some (.tup xs)) : vq P w H' h' a o := by
 induction o with
 | lst xs => obtain ⟨z, its, n, r, e⟩ := x; exact ⟨z, its, n, r, k _ _ (.inl rfl) e⟩
 | tup xs => obtain ⟨z, its, r, ob, e, c⟩ := x; exact ⟨z, its, r, ob, k _ _ (.inl rfl) e, c⟩
 | dK kvs => obtain ⟨z, y, vs, r, ob, es, ep, e, c⟩ := x; exact ⟨z, y, vs, r, ob, es, ep, k _ _ (.inl rfl) e, c⟩
 | dT kvs =>
  obtain ⟨z, y, xs, r, ob, es, ep, e, c⟩ := x
  exact ⟨z, y, xs, Paired.YR r fun p q z => ⟨z.1, ht _ _ z.2.1, z.2.2⟩, ob, es, ep, k _ _ (.inl rfl) e, c⟩
 | set S n => obtain ⟨ob, es, ep, t, e, c⟩ := x; exact ⟨ob, es, ep, t, k _ _ (.inl rfl) e, c⟩
 | ins C dx fs =>
  obtain ⟨d, z, ne, e, mA, ⟨od, es, ep, e2, c⟩, r⟩ := x
  exact ⟨ho _ d, z, ne, k _ _ (.inl rfl) e, mA, ⟨od, es, ep, k _ _ (.inr d) e2, c⟩, r⟩
 | own y => obtain ⟨ob, e⟩ := x; exact ⟨ob, k _ _ (.inl rfl) e⟩
 | xd fs => obtain ⟨mA, ⟨od, es, ep, e, c⟩, r⟩ := x; exact ⟨mA, ⟨od, es, ep, k _ _ (.inl rfl) e, c⟩, r⟩
 | rng lo hi => obtain ⟨t, u, v, e⟩ := x; exact ⟨t, u, v, k _ _ (.inl rfl) e⟩
 | frz ob u ih => obtain ⟨e, q⟩ := x; exact ⟨k _ _ (.inl rfl) e, ih q⟩
 | tbl ps =>
  have e : h.get? a = some { cls := .none, data := .fields ps } := x
  show h'.get? a = some { cls := .none, data := .fields ps }
  exact k a _ (.inl rfl) e
 | met f y =>
  have e : h.get? a = some (PySem.W.methodObj (.ref f) (.ref y)) := x
  show h'.get? a = some (PySem.W.methodObj (.ref f) (.ref y))
  exact k a _ (.inl rfl) e
 | ext φ => obtain ⟨p, ⟨o, e⟩, st⟩ := x; exact ⟨st _ _ p fun o q => k _ _ (.inl rfl) q, ⟨o, k _ _ (.inl rfl) e⟩, st⟩
theorem HOk.lt (x : HOk P w H h) (e : H a = some o) : a < h.objs.size := (x a o e).lt
theorem HOk.fresh (x : HOk P w H h) (e : h.objs.size <= a) : H a = none := by
 cases q : H a with
 | none => rfl
 | some u => exact absurd (Nat.lt_of_lt_of_le (x.lt q) e) (Nat.lt_irrefl _)
theorem HOk.kept (x : HOk P w H h) (k : ∀ b u, h.get? b = some u -> h'.get? b = some u) : HOk P w H h' := fun a o e =>
 (x a o e).yN (fun b u _ q => k b u q) (fun _ q => q) fun _ _ q => q
theorem HOk.laid (x : HOk P w H h) (k : ∀ b u, h.get? b = some u -> h'.get? b = some u) (hp : h.objs.size <= a) (new : vq P w (upd H a o) h' a o) : HOk P w (upd H a o) h' := fun b u e => by
 have hn := x.fresh hp
 by_cases hb : b = a
 ·subst hb; rw [qm] at e; cases e; exact new
 ·rw [qd hb] at e
  exact (x b u e).yN (fun c v _ q => k c v q) (fun c q => by rw [qd (qu q hn)]; exact q) fun c xs q => by rw [qd (qu q hn)]; exact q
end
noncomputable def Rd (H : Hp) (a : Addr) (u : HO) : Prop := H a = some u \/ ∃ o, H a = some (.frz o u)
theorem Rd.of {H : Hp} {a : Addr} {u : HO} (h : H a = some u) : Rd H a u := .inl h
theorem Rd.ok {P : Program} {w : World} {H : Hp} {h : Heap} {a : Addr} {u : HO} (r : Rd H a u) (x : HOk P w H h) : vq P w H h a u := by
 rcases r with r | ⟨o, r⟩
 ·exact x a u r
 ·obtain ⟨_, q⟩ := x a _ r
  exact q
noncomputable def Mut : Option HO -> Prop
 | some (.lst _) => True
 | some (.dK _) => True
 | some (.dT _) => True
 | some (.set _ _) => True
 | some (.ins _ _ _) => True
 | some (.ext _) => True
 | _ => False
section
variable {P : Program} {w : World} {H : Hp} {h h' : Heap} {x e : Addr} {o' : HO}
theorem HOk.write (ok : HOk P w H h) (mu : Mut (H x)) (he : e = x \/ H e = some (.own x)) (k : ∀ b u, b ≠ e -> h.get? b = some u -> h'.get? b = some u) (heo : ∃ u, h'.get? e = some u)
  (new : vq P w (upd H x o') h' x o') : HOk P w (upd H x o') h' := fun b u q => by
 have nown : ∀ c y, H c = some (.own y) -> c ≠ x := fun c y r z => by subst z; rw [r] at mu; exact mu
 have ntup : ∀ c xs, H c = some (.tup xs) -> c ≠ x := fun c xs r z => by subst z; rw [r] at mu; exact mu
 by_cases hb : b = x
 ·subst hb; rw [qm] at q; cases q; exact new
 ·rw [qd hb] at q
  by_cases hbe : b = e
  ·have q' : H b = some (.own x) := by
    rcases he with z | z
    ·exact absurd (hbe.trans z) hb
    ·rw [hbe]; exact z
   rw [q] at q'; cases q'
   obtain ⟨v, hv⟩ := heo
   exact ⟨v, by rw [hbe]; exact hv⟩
  ·refine (ok b u q).yN (fun c v hc r => k c v ?_ r) (fun c r => by rw [qd (nown c b r)]; exact r) fun c xs r => by rw [qd (ntup c xs r)]; exact r
   rcases hc with rfl | hc
   ·exact hbe
   ·rintro rfl
    rcases he with z | z
    ·exact nown c b hc z
    ·rw [hc] at z; cases z; exact hb rfl
end
structure Un (fs ex : List Addr) (H H' : Hp) (h h' : Heap) : Prop where
 keep : ∀ b o, h.get? b = some o -> H b = none -> b ∉ fs -> b ∉ ex -> h'.get? b = some o
 slot : ∀ b o, h.get? b = some o -> H b = none -> b ∈ fs -> b ∉ ex -> ∃ sl, h'.get? b = some { o with slots := sl }
 free : ∀ b o, h.get? b = some o -> H b = none -> b ∉ ex -> H' b = none
 there : ∀ b o, h.get? b = some o -> b ∉ ex -> ∃ o', h'.get? b = some o'
 tups : ∀ b xs, H b = some (.tup xs) -> H' b = some (.tup xs)
 frzs : ∀ b o u, H b = some (.frz o u) -> H' b = some (.frz o u)
 tbls : ∀ b ps, H b = some (.tbl ps) -> ∃ more, H' b = some (.tbl (ps ++ more))
section
variable {fs fs' ex ex' : List Addr} {H H1 H2 : Hp} {h h1 h2 h' : Heap} {a x e : Addr} {o : HO}
theorem Un.any (u : Un fs ex H H1 h h1) {b : Addr} {ob : Obj} (q : h.get? b = some ob) (n : H b = none) (hx : b ∉ ex) : ∃ sl, h1.get? b = some { ob with slots := sl } := by
 by_cases hb : b ∈ fs
 ·exact u.slot b ob q n hb hx
 ·exact ⟨ob.slots, u.keep b ob q n hb hx⟩
theorem Un.kept (k : ∀ b u, h.get? b = some u -> h'.get? b = some u) : Un fs ex H H h h' :=
 ⟨fun b ob q _ _ _ => k b ob q, fun b ob q _ _ _ => ⟨ob.slots, k b ob q⟩, fun _ _ _ n _ => n, fun b ob q _ => ⟨ob, k b ob q⟩, fun _ _ q => q, fun _ _ _ q => q, fun _ ps q => ⟨#[], by rw [q]; simp⟩⟩
theorem Un.refl : Un fs ex H H h h := Un.kept fun _ _ q => q
theorem Un.laid (k : ∀ b u, h.get? b = some u -> h'.get? b = some u) (hp : h.objs.size <= a) (hn : H a = none) : Un fs ex H (upd H a o) h h' where
 keep := fun b u q _ _ _ => k b u q
 slot := fun b u q _ _ _ => ⟨u.slots, k b u q⟩
 free := fun b u q n _ => by rw [qd (Nat.ne_of_lt (Nat.lt_of_lt_of_le (Heap.lt_size q) hp))]; exact n
 there := fun b u q _ => ⟨u, k b u q⟩
 tups := fun b xs q => by rw [qd (qu q hn)]; exact q
 frzs := fun b u xs q => by rw [qd (qu q hn)]; exact q
 tbls := fun b ps q => ⟨#[], by rw [qd (qu q hn), q]; simp⟩
theorem Un.write (mu : Mut (H x)) (he : e = x \/ H e = some (.own x)) (k : ∀ b u, b ≠ e -> h.get? b = some u -> h'.get? b = some u) (heo : ∃ u, h'.get? e = some u) : Un fs ex H (upd H x o) h h' := by
 have hx : ∀ b, H b = none -> b ≠ x := fun b n z => by subst z; rw [n] at mu; exact mu
 have hb : ∀ b, H b = none -> b ≠ e := fun b n z => by
  subst z
  rcases he with r | r
  ·exact hx b n r
  ·rw [n] at r; cases r
 have hm : ∀ b u, H b = some u -> ¬ Mut (some u) -> b ≠ x := fun b u q nm z => by subst z; rw [q] at mu; exact nm mu
 refine ⟨fun b u q n _ _ => k b u (hb b n) q, fun b u q n _ _ => ⟨u.slots, k b u (hb b n) q⟩, fun b u q n _ => by rw [qd (hx b n)]; exact n, fun b u q _ => ?_,
  fun b xs q => by rw [qd (hm b _ q fun z => z)]; exact q, fun b u xs q => by rw [qd (hm b _ q fun z => z)]; exact q, fun b ps q => ⟨#[], by rw [qd (hm b _ q fun z => z), q]; simp⟩⟩
 by_cases hbe : b = e
 ·subst hbe; exact heo
 ·exact ⟨u, k b u hbe q⟩
end
noncomputable def trk (h : Heap) (H : Hp) : List Addr := (List.range h.objs.size).filter fun a => (H a).isSome
noncomputable def yO (h : Heap) (H : Hp) : Heap := PySem.W.hideAll h (trk h H)
theorem jW (h : Heap) (H : Hp) : (yO h H).objs.size = h.objs.size := PySem.W.hideAll_size _ _
theorem Vy {h : Heap} {H : Hp} {b : Addr} {o : Obj} (e : h.get? b = some o) (n : H b = none) : (yO h H).get? b = some o :=
 PySem.W.hideAll_get _ e fun hm => by
  have q : (H b).isSome = true := (List.mem_filter.mp hm).2
  rw [n] at q; simp at q
theorem VU {h : Heap} {H : Hp} {b : Addr} {o : Obj} (e : (yO h H).get? b = some o) : h.get? b = some o /\ H b = none := by
 have e' : h.get? b = some o := PySem.W.of_hideAll (trk h H) e
 refine ⟨e', ?_⟩
 cases q : H b with
 | none => rfl
 | some x =>
  have hm : b ∈ trk h H := List.mem_filter.mpr ⟨List.mem_range.mpr (Heap.lt_size e'), by simp [q]⟩
  have z : (yO h H).get? b = none := PySem.W.hideAll_none (trk h H) hm
  rw [z] at e; cases e
structure Mod (K : PySem.W.Frag) (mg : Str -> Option Value) (base : Heap) : Prop where
 kin : K.In base
 glob : base.Ns mainGlobals mg
 blt : ∃ mb, base.Ns builtinsNs mb /\ ∀ x : Str, x ≠ "__name__" -> mb x = bootBuiltins x
 nolimit : base.NoLimit
structure Cx where
 prog : Program
 w : World
 K : PySem.W.Frag
 mg : Str -> Option Value
 base : Heap
 A : Around
 N : List Str
 s_0 : Shared
 H_0 : Hp
 env : Env
 outer : List Env
 stack : List Env
 ex : List Addr
 fn : Str -> Bool
 calm : Bool
 pn : List (Addr × Obj)
 xe : Value -> Shared -> Prop
noncomputable def frs (l : List Env) : List Addr := l.filterMap (·.frame)
noncomputable abbrev Cx.fs (X : Cx) : List Addr := frs X.outer
noncomputable def Vis (sc : Scope) (x : Str) : Prop := sc.names.lookup x = some .local \/ sc.names.lookup x = some .cell \/ sc.names.lookup x = some .free
noncomputable def Loc (sc : Scope) (x : Str) : Prop := sc.names.lookup x = some .local \/ sc.names.lookup x = some .cell
noncomputable def Look (env : Env) (h : Heap) (m : Str -> Option Value) (x : Str) (u : Value) : Prop :=
 (env.kindOf x = some .local /\ m x = some u) \/ ((env.kindOf x = some .cell \/ env.kindOf x = some .free) /\ ∃ c, env.cells.lookup x = some c /\ h.IsCell c (some u))
structure Cx.Ok (X : Cx) : Prop where
 mod : Mod X.K X.mg X.base
 kind : X.env.scope.kind = .function
 glob : X.env.globals = mainGlobals
 blt : X.env.builtins = builtinsNs
 above : X.s_0.heap.objs.size <= X.env.locals
 inj : ∀ x y c, X.env.cells.lookup x = some c -> X.env.cells.lookup y = some c -> x = y
 has : ∀ x, (X.env.kindOf x = some .cell \/ X.env.kindOf x = some .free) -> ∃ c, X.env.cells.lookup x = some c
 cab : ∀ x c, X.fn x = true -> X.env.cells.lookup x = some c -> X.s_0.heap.objs.size <= c
 hd : X.calm = true -> X.A.handled = none
 frames : X.A.frames = some X.stack
 stk : X.stack = X.outer \/ (X.stack = X.env :: X.outer /\ X.env.frame = some X.env.locals)
 exf : ∀ b ∈ X.ex, b ≠ X.env.locals /\ ∀ x c, X.env.cells.lookup x = some c -> c ≠ b
 bs : ∀ b o, X.base.get? b = some o -> X.s_0.heap.get? b = some o /\ X.H_0 b = none
 bsz : X.base.objs.size <= X.s_0.heap.objs.size
 noex : ∀ b o, X.base.get? b = some o -> b ∉ X.ex
 exfs : ∀ b ∈ X.ex, b ∉ X.fs
 wV : X.s_0.heap.FunFrames X.base X.outer
 frf : ∀ b ∈ X.fs, X.H_0 b = none
structure Inv (X : Cx) (pins : List (Addr × Obj)) (σ : List (Option V)) (H : Hp) (s : Shared) : Prop where
 ok : X.Ok
 os : s.os = X.s_0.os
 bare : AllBare s.gens
 base : Un X.fs X.ex X.H_0 H X.s_0.heap s.heap
 loc : ∃ m, s.heap.Ns X.env.locals m /\ ∀ (i : Nat) (x : Str) (v : V), X.N[i]? = some x -> σ[i]? = some (some v) -> Vis X.env.scope x -> ∃ u, RelV v u /\ Look X.env s.heap m x u
 cell : ∀ x c, X.env.cells.lookup x = some c -> ∃ v, s.heap.IsCell c v
 free : H X.env.locals = none
 freeC : ∀ x c, X.env.cells.lookup x = some c -> H c = none
 pin : ∀ p ∈ X.pn ++ pins, s.heap.get? p.1 = some p.2 /\ H p.1 = none /\ p.1 ≠ X.env.locals /\ p.1 ∉ X.fs /\ ∀ v, p.2.data ≠ .cell v
 hok : HOk X.prog X.w H s.heap
 len : σ.length = X.N.length
section
variable {X : Cx} {pins : List (Addr × Obj)} {σ : List (Option V)} {H H' : Hp} {s : Shared} {h' : Heap}
theorem Cx.Ok.Xo (ok : X.Ok) {b : Addr} {o : Obj} (e : X.base.get? b = some o) : b ∉ X.fs := fun hb => by
 have := (ok.wV.mem hb).1
 rw [e] at this; cases this
theorem Inv.bs (I : Inv X pins σ H s) : ∀ b o, X.base.get? b = some o -> s.heap.get? b = some o /\ H b = none := fun b o e =>
 ⟨I.base.keep b o (I.ok.bs b o e).1 (I.ok.bs b o e).2 (I.ok.Xo e) (I.ok.noex b o e), I.base.free b o (I.ok.bs b o e).1 (I.ok.bs b o e).2 (I.ok.noex b o e)⟩
theorem Inv.bk (I : Inv X pins σ H s) : ∀ b o, X.base.get? b = some o -> s.heap.get? b = some o := fun b o e => (I.bs b o e).1
theorem Inv.mod (I : Inv X pins σ H s) : Mod X.K X.mg X.base := I.ok.mod
theorem Inv.kIn (I : Inv X pins σ H s) : X.K.In s.heap := I.ok.mod.kin.keeps I.bk
theorem Inv.nolimit (I : Inv X pins σ H s) : s.heap.NoLimit := I.ok.mod.nolimit.keeps I.bk
theorem Inv.lt (I : Inv X pins σ H s) : X.env.locals < s.heap.objs.size := let ⟨_, hn, _⟩ := I.loc; hn.lt
theorem Inv.sz (I : Inv X pins σ H s) : X.s_0.heap.objs.size <= s.heap.objs.size := Nat.le_trans I.ok.above (Nat.le_of_lt I.lt)
theorem Inv.YJ (I : Inv X pins σ H s) {a : Addr} (h : s.heap.objs.size <= a) : a ∉ X.fs := fun hb => by
 obtain ⟨_, o, ho, _⟩ := I.ok.wV.mem hb
 exact absurd (Nat.lt_of_lt_of_le (Heap.lt_size ho) (Nat.le_trans I.sz h)) (Nat.lt_irrefl _)
theorem Inv.cne (I : Inv X pins σ H s) : ∀ x c, X.env.cells.lookup x = some c -> c ≠ X.env.locals := fun x c e z => by
 obtain ⟨v, o, ho, hd⟩ := I.cell x c e
 obtain ⟨m, ⟨o', es, ep, ho', hd', _⟩, _⟩ := I.loc
 rw [z, ho'] at ho; cases ho; rw [hd'] at hd; cases hd
theorem Inv.wV (I : Inv X pins σ H s) : s.heap.FunFrames X.base X.outer := by
 have all : ∀ (l : List Env), (∀ b ∈ frs l, b ∈ X.fs) -> X.s_0.heap.FunFrames X.base l -> s.heap.FunFrames X.base l := by
  intro l
  induction l with
  | nil => intro _ _; trivial
  | cons env r ih =>
   intro hs hl
   obtain ⟨hk, ⟨L, o, hf, hn, ho, hd⟩, hr⟩ := hl
   have hL : L ∈ X.fs := hs L (by unfold frs; rw [List.filterMap_cons, hf]; exact List.mem_cons_self)
   obtain ⟨sl, e⟩ := I.base.slot L o ho (I.ok.frf L hL) hL fun z => I.ok.exfs L z hL
   exact ⟨hk, ⟨L, _, hf, hn, e, hd⟩, ih (fun b hb => hs b (by unfold frs; rw [List.filterMap_cons, hf]; exact List.mem_cons_of_mem _ hb)) hr⟩
 exact all X.outer (fun _ hb => hb) I.ok.wV
theorem Inv.stack (I : Inv X pins σ H s) : s.heap.FunFrames X.base X.stack := by
 rcases I.ok.stk with e | ⟨e, hf⟩
 ·rw [e]; exact I.wV
 ·rw [e]
  obtain ⟨m, hn, _⟩ := I.loc
  refine .cons (by rw [I.ok.kind]; decide) hf hn ?_ I.wV
  exact Heap.get?_none_of_le (Nat.le_trans I.ok.bsz I.ok.above)
theorem Inv.vR (I : Inv X pins σ H s) : ∀ b ∈ frs X.stack, b ∈ X.env.locals :: X.fs := fun b hb => by
 rcases I.ok.stk with e | ⟨e, hf⟩
 ·rw [e] at hb; exact List.mem_cons_of_mem _ hb
 ·rw [e] at hb
  unfold frs at hb
  rw [List.filterMap_cons, hf] at hb
  exact hb
theorem Inv.xD (I : Inv X pins σ H s) : ∀ b ∈ frs X.stack, H b = none := fun b hb => by
 rcases List.mem_cons.mp (I.vR b hb) with e | hb
 ·rw [e]; exact I.free
 ·obtain ⟨_, o, ho, _⟩ := I.ok.wV.mem hb
  exact I.base.free b o ho (I.ok.frf b hb) fun z => I.ok.exfs b z hb
theorem Inv.step {g' : Array GenState} {t' : Nat} {d' : Drawn} {ch : List Addr} (I : Inv X pins σ H s)
  (hch : ∀ b ∈ ch, (b ∈ X.ex \/ X.s_0.heap.objs.size <= b) /\ b ≠ X.env.locals /\ (∀ x c, X.env.cells.lookup x = some c -> c ≠ b) /\ ∀ p ∈ X.pn ++ pins, p.1 ≠ b)
  (keep : ∀ b o, b ≠ X.env.locals -> b ∉ X.fs -> b ∉ ch -> s.heap.get? b = some o -> H b = none -> h'.get? b = some o)
  (slot : ∀ b o, b ≠ X.env.locals -> b ∈ X.fs -> b ∉ ch -> s.heap.get? b = some o -> H b = none -> ∃ sl, h'.get? b = some { o with slots := sl }) (free : ∀ b o, b ∉ ch -> s.heap.get? b = some o -> H b = none -> H' b = none)
  (there : ∀ b o, b ∉ ch -> s.heap.get? b = some o -> ∃ o', h'.get? b = some o')
  (tups : ∀ b xs, H b = some (.tup xs) -> H' b = some (.tup xs)) (frzs : ∀ b o u, H b = some (.frz o u) -> H' b = some (.frz o u)) (tbls : ∀ b ps, H b = some (.tbl ps) -> ∃ more, H' b = some (.tbl (ps ++ more)))
  (ns : ∀ m, s.heap.Ns X.env.locals m -> h'.Ns X.env.locals m) (hok : HOk X.prog X.w H' h') (hg : AllBare g') :
  Inv X pins σ H' { s with heap := h', gens := g', drawn := d', toks := t' } := by
 have neL : ∀ b o, X.s_0.heap.get? b = some o -> b ≠ X.env.locals := fun b o e => Nat.ne_of_lt (Nat.lt_of_lt_of_le (Heap.lt_size e) I.ok.above)
 have neC : ∀ b o, X.s_0.heap.get? b = some o -> b ∉ X.ex -> b ∉ ch := fun b o e hx hb => by
  rcases (hch b hb).1 with z | z
  ·exact hx z
  ·exact absurd (Nat.lt_of_lt_of_le (Heap.lt_size e) z) (Nat.lt_irrefl _)
 have cellK : ∀ x c, X.env.cells.lookup x = some c -> ∀ v, s.heap.IsCell c v -> h'.IsCell c v := fun x c e v ⟨o, ho, hd⟩ => by
  have nch : c ∉ ch := fun z => (hch c z).2.2.1 x c e rfl
  by_cases hc : c ∈ X.fs
  ·obtain ⟨sl, q⟩ := slot c o (I.cne x c e) hc nch ho (I.freeC x c e)
   exact ⟨_, q, hd⟩
  ·exact ⟨o, keep c o (I.cne x c e) hc nch ho (I.freeC x c e), hd⟩
 refine ⟨I.ok, I.os, hg, ⟨fun b o e n hb hx => ?_, fun b o e n hb hx => ?_, fun b o e n hx => ?_, fun b o e hx => ?_, fun b xs e => tups b xs (I.base.tups b xs e), fun b o xs e => frzs b o xs (I.base.frzs b o xs e), fun b ps e => ?_⟩, ?_, fun x c e => ?_, ?_, fun x c e => ?_, fun p hp => ?_, hok, I.len⟩
 ·exact keep b o (neL b o e) hb (neC b o e hx) (I.base.keep b o e n hb hx) (I.base.free b o e n hx)
 ·obtain ⟨sl, e1⟩ := I.base.slot b o e n hb hx
  obtain ⟨sl', e2⟩ := slot b _ (neL b o e) hb (neC b o e hx) e1 (I.base.free b o e n hx)
  exact ⟨sl', e2⟩
 ·obtain ⟨o', e1⟩ := I.base.there b o e hx
  exact free b o' (neC b o e hx) e1 (I.base.free b o e n hx)
 ·obtain ⟨o', e1⟩ := I.base.there b o e hx
  exact there b o' (neC b o e hx) e1
 ·obtain ⟨m1, e1⟩ := I.base.tbls b ps e
  obtain ⟨m2, e2⟩ := tbls b _ e1
  exact ⟨m1 ++ m2, by rw [e2, Array.append_assoc]⟩
 ·obtain ⟨m, hn, hl⟩ := I.loc
  refine ⟨m, ns m hn, fun i x v e1 e2 e3 => ?_⟩
  obtain ⟨u, r, l⟩ := hl i x v e1 e2 e3
  refine ⟨u, r, ?_⟩
  rcases l with l | ⟨k, c, e, z⟩
  ·exact .inl l
  ·exact .inr ⟨k, c, e, cellK x c e _ z⟩
 ·obtain ⟨v, z⟩ := I.cell x c e
  exact ⟨v, cellK x c e v z⟩
 ·obtain ⟨m, ⟨o, _, _, ho, _⟩, _⟩ := I.loc
  exact free _ o (fun z => (hch _ z).2.1 rfl) ho I.free
 ·obtain ⟨v, o, ho, hd⟩ := I.cell x c e
  exact free c o (fun z => (hch c z).2.2.1 x c e rfl) ho (I.freeC x c e)
 ·obtain ⟨e, n, ne, nf, d⟩ := I.pin p hp
  have nch : p.1 ∉ ch := fun z => (hch p.1 z).2.2.2 p hp rfl
  exact ⟨keep p.1 p.2 ne nf nch e n, free p.1 p.2 nch e n, ne, nf, d⟩
theorem Inv.un {t' : Nat} (I : Inv X pins σ H s) (u : Un X.fs [] H H' s.heap h') (hok : HOk X.prog X.w H' h') : Inv X pins σ H' { s with heap := h', toks := t' } := by
 obtain ⟨m, ⟨o, es, ep, ho, r⟩, _⟩ := id I.loc
 obtain ⟨sl, hL⟩ := u.any ho I.free (by simp)
 exact I.step (g' := s.gens) (d' := s.drawn) (ch := []) (fun _ z => nomatch z) (fun b o _ hb _ e n => u.keep b o e n hb (by simp)) (fun b o _ hb _ e n => u.slot b o e n hb (by simp)) (fun b o _ e n => u.free b o e n (by simp)) (fun b o _ e => u.there b o e (by simp)) u.tups u.frzs u.tbls (fun m' hm => by
  obtain ⟨o', es', ep', ho', r'⟩ := hm
  rw [ho] at ho'; cases ho'
  exact ⟨_, es', ep', hL, r'⟩) hok I.bare
theorem Inv.call {g' : Array GenState} {t' : Nat} {d' : Drawn} {ch : List Addr} (I : Inv X pins σ H s) (u : Un (frs X.stack) ch H H' s.heap h') (hok : HOk X.prog X.w H' h') (hg : AllBare g')
  (hch : ∀ b ∈ ch, (b ∈ X.ex \/ X.s_0.heap.objs.size <= b) /\ b ≠ X.env.locals /\ (∀ x c, X.env.cells.lookup x = some c -> c ≠ b) /\ ∀ p ∈ X.pn ++ pins, p.1 ≠ b) :
  Inv X pins σ H' { s with heap := h', gens := g', drawn := d', toks := t' } := by
 obtain ⟨m, ⟨o, es, ep, ho, r⟩, _⟩ := id I.loc
 obtain ⟨sl, hL⟩ := u.any ho I.free fun z => (hch _ z).2.1 rfl
 exact I.step (ch := ch) hch (fun b o hL hb hc e n => u.keep b o e n (fun z => (List.mem_cons.mp (I.vR b z)).elim hL hb) hc) (fun b o _ _ hc e n => u.any e n hc) (fun b o hc e n => u.free b o e n hc) (fun b o hc e => u.there b o e hc) u.tups u.frzs u.tbls (fun m' hm => by
  obtain ⟨o', es', ep', ho', r'⟩ := hm
  rw [ho] at ho'; cases ho'
  exact ⟨_, es', ep', hL, r'⟩) hok hg
theorem Inv.turned {t' : Nat} {it : Addr} (I : Inv X pins σ H s) (k : ∀ b o, b ≠ it -> s.heap.get? b = some o -> h'.get? b = some o) (hn : H it = none) (hL : it ≠ X.env.locals)
  (h1 : it ∈ X.ex \/ X.s_0.heap.objs.size <= it) (h2 : ∀ x c, X.env.cells.lookup x = some c -> c ≠ it) (h3 : ∀ p ∈ X.pn ++ pins, p.1 ≠ it) : Inv X pins σ H { s with heap := h', toks := t' } := by
 have nit : ∀ b u, H b = some u -> b ≠ it := fun b u e z => by rw [z, hn] at e; cases e
 refine I.step (g' := s.gens) (d' := s.drawn) (ch := [it]) (fun b hb => ?_) (fun b o _ _ hc e _ => k b o (fun z => hc (by simp [z])) e) (fun b o _ _ hc e _ => ⟨o.slots, k b o (fun z => hc (by simp [z])) e⟩) (fun _ _ _ _ n => n)
  (fun b o hc e => ⟨o, k b o (fun z => hc (by simp [z])) e⟩) (fun _ _ e => e) (fun _ _ _ e => e) (fun b ps e => ⟨#[], by rw [e]; simp⟩) (fun m hm => ?_) (fun b u e => ?_) I.bare
 ·have e : b = it := by simpa using hb
  subst e
  exact ⟨h1, hL, h2, h3⟩
 ·obtain ⟨o, es, ep, ho, r⟩ := hm
  exact ⟨o, es, ep, k _ o (Ne.symm hL) ho, r⟩
 ·refine (I.hok b u e).yN (fun c v hc q => k c v ?_ q) (fun _ q => q) fun _ _ q => q
  rcases hc with z | z
  ·rw [z]; exact nit b u e
  ·exact nit c _ z
theorem Inv.tok (I : Inv X pins σ H s) (t : Nat) : Inv X pins σ H { s with toks := t } := I.un (h' := s.heap) (t' := t) Un.refl I.hok
theorem Inv.kept {t' : Nat} (I : Inv X pins σ H s) (k : ∀ b u, s.heap.get? b = some u -> h'.get? b = some u) : Inv X pins σ H { s with heap := h', toks := t' } := I.un (Un.kept k) (I.hok.kept k)
theorem Inv.laid {a : Addr} {o : HO} {t' : Nat} (I : Inv X pins σ H s) (k : ∀ b u, s.heap.get? b = some u -> h'.get? b = some u) (hp : s.heap.objs.size <= a) (new : vq X.prog X.w (upd H a o) h' a o) :
  Inv X pins σ (upd H a o) { s with heap := h', toks := t' } := I.un (Un.laid k hp (I.hok.fresh hp)) (I.hok.laid k hp new)
theorem Inv.write {x e : Addr} {o : HO} {t' : Nat} (I : Inv X pins σ H s) (mu : Mut (H x)) (he : e = x \/ H e = some (.own x)) (k : ∀ b u, b ≠ e -> s.heap.get? b = some u -> h'.get? b = some u) (heo : ∃ u, h'.get? e = some u)
  (new : vq X.prog X.w (upd H x o) h' x o) : Inv X pins σ (upd H x o) { s with heap := h', toks := t' } := I.un (Un.write mu he k heo) (I.hok.write mu he k heo new)
theorem Inv.weak {σ' : List (Option V)} (I : Inv X pins σ H s) (hl : σ'.length = σ.length) (w : ∀ (i : Nat) v, σ'[i]? = some (some v) -> σ[i]? = some (some v)) : Inv X pins σ' H s :=
 ⟨I.ok, I.os, I.bare, I.base, let ⟨m, hn, hl'⟩ := I.loc; ⟨m, hn, fun i x v e1 e2 e3 => hl' i x v e1 (w i v e2) e3⟩, I.cell, I.free, I.freeC, I.pin, I.hok, hl.trans I.len⟩
theorem Inv.jy {pins' : List (Addr × Obj)} (I : Inv X pins σ H s) (h : ∀ p ∈ pins', s.heap.get? p.1 = some p.2 /\ H p.1 = none /\ p.1 ≠ X.env.locals /\ p.1 ∉ X.fs /\ ∀ v, p.2.data ≠ .cell v) : Inv X pins' σ H s :=
 ⟨I.ok, I.os, I.bare, I.base, I.loc, I.cell, I.free, I.freeC, fun p hp => (List.mem_append.mp hp).elim (fun z => I.pin p (List.mem_append_left _ z)) (h p), I.hok, I.len⟩
theorem yC {N : List Str} (hN : N.Nodup) {i j : Nat} {x : Str} (a : N[i]? = some x) (b : N[j]? = some x) : i = j := by
 obtain ⟨h1, e1⟩ := List.getElem?_eq_some_iff.mp a
 obtain ⟨h2, e2⟩ := List.getElem?_eq_some_iff.mp b
 exact (List.getElem_inj hN).mp (e1.trans e2.symm)
theorem Qt {M : Model} {A : Around} {E : Value -> Shared -> Prop} {i : Nat} {x : Str} {v : V} {u : Value} {Q : Unit -> Shared -> Prop} (I : Inv X pins σ H s) (hN : X.N.Nodup) (hi : X.N[i]? = some x) (hx : Loc X.env.scope x) (r : RelV v u)
  (h : ∀ s', Inv X pins (σ.set i (some v)) H s' -> (∃ a, Heap.SameBut a s.heap s'.heap /\ (a = X.env.locals \/ X.env.cells.lookup x = some a)) -> Q () s') (hf : X.fn x = true \/ X.env.scope.names.lookup x = some .local := by first | exact .inl rfl | exact .inr rfl | assumption) : wpAny M A (storeName X.env x u) Q E s := by
 obtain ⟨m, hn, hl⟩ := id I.loc
 have hcls : (X.env.scope.kind == .class || (X.env.scope.kind == .module && X.env.locals != X.env.globals)) = false := by rw [I.ok.kind]; rfl
 have hiσ : i < σ.length := by rw [I.len]; exact (List.getElem?_eq_some_iff.mp hi).1
 have cne := I.cne
 have tracked : ∀ {a : Addr} {h' : Heap}, (∃ o, s.heap.get? a = some o /\ H a = none) -> Heap.SameBut a s.heap h' -> HOk X.prog X.w H h' := fun {a h'} ha hs b ob e => by
  obtain ⟨_, _, hfree⟩ := ha
  refine (I.hok b ob e).yN (fun c w' hc q => (hs.2 c ?_).trans q) (fun _ q => q) fun _ _ q => q
  rintro rfl
  rcases hc with rfl | hc
  ·rw [hfree] at e; cases e
  ·rw [hfree] at hc; cases hc
 rcases hx with hk | hk
 ·refine wpAny_storeName_local hk hn (fun h' hn' hs => ?_) hcls
  obtain ⟨oL, _, _, hoL, _⟩ := id hn
  refine h _ ⟨I.ok, I.os, I.bare, ⟨fun b o e n hb hx => ?_, fun b o e n hb hx => ?_, I.base.free, fun b o e hx => ?_, I.base.tups, I.base.frzs, I.base.tbls⟩, ⟨_, hn', fun j y v' e1 e2 e3 => ?_⟩, fun y c e => ?_, I.free, I.freeC, fun p hp => ?_, tracked ⟨oL, hoL, I.free⟩ hs, by simpa using I.len⟩ ⟨_, hs, .inl rfl⟩
  ·exact (hs.2 b (Nat.ne_of_lt (Nat.lt_of_lt_of_le (Heap.lt_size e) I.ok.above))).trans (I.base.keep b o e n hb hx)
  ·obtain ⟨sl, e1⟩ := I.base.slot b o e n hb hx
   exact ⟨sl, (hs.2 b (Nat.ne_of_lt (Nat.lt_of_lt_of_le (Heap.lt_size e) I.ok.above))).trans e1⟩
  ·obtain ⟨o', e1⟩ := I.base.there b o e hx
   exact ⟨o', (hs.2 b (Nat.ne_of_lt (Nat.lt_of_lt_of_le (Heap.lt_size e) I.ok.above))).trans e1⟩
  ·by_cases hj : j = i
   ·subst hj
    rw [hi] at e1; cases e1
    rw [List.getElem?_set_self hiσ] at e2
    cases e2
    exact ⟨u, r, .inl ⟨hk, by simp⟩⟩
   ·rw [List.getElem?_set_ne (Ne.symm hj)] at e2
    obtain ⟨u', r', q⟩ := hl j y v' e1 e2 e3
    refine ⟨u', r', ?_⟩
    rcases q with ⟨k, e⟩ | ⟨k, c, e, z⟩
    ·refine .inl ⟨k, ?_⟩
     have : y ≠ x := fun e => hj (yC hN e1 (e ▸ hi))
     simp [this, e]
    ·exact .inr ⟨k, c, e, z.sameBut hs (cne y c e)⟩
  ·obtain ⟨w', z⟩ := I.cell y c e
   exact ⟨w', z.sameBut hs (cne y c e)⟩
  ·obtain ⟨e, n, ne, nf, d⟩ := I.pin p hp
   exact ⟨(hs.2 p.1 ne).trans e, n, ne, nf, d⟩
 ·have hfn : X.fn x = true := by
   rcases hf with z | z
   ·exact z
   ·rw [z] at hk; cases hk
  obtain ⟨c, hc⟩ := I.ok.has x (.inl hk)
  obtain ⟨w', z⟩ := I.cell x c hc
  refine wpAny_storeName_cell I.ok.kind hk hc z (fun h' hc' hs => ?_)
  obtain ⟨oc, hoc, hocd⟩ := id z
  refine h { s with heap := h' } ⟨I.ok, I.os, I.bare, ⟨fun b o e n hb hx => ?_, fun b o e n hb hx => ?_, I.base.free, fun b o e hx => ?_, I.base.tups, I.base.frzs, I.base.tbls⟩, ⟨m, hn.sameBut hs (Ne.symm (cne x c hc)), fun j y v' e1 e2 e3 => ?_⟩, fun y c' e => ?_, I.free, I.freeC, fun p hp => ?_, tracked ⟨oc, hoc, I.freeC x c hc⟩ hs, by simpa using I.len⟩ ⟨c, hs, .inr hc⟩
  ·exact (hs.2 b (Nat.ne_of_lt (Nat.lt_of_lt_of_le (Heap.lt_size e) (I.ok.cab x c hfn hc)))).trans (I.base.keep b o e n hb hx)
  ·obtain ⟨sl, e1⟩ := I.base.slot b o e n hb hx
   exact ⟨sl, (hs.2 b (Nat.ne_of_lt (Nat.lt_of_lt_of_le (Heap.lt_size e) (I.ok.cab x c hfn hc)))).trans e1⟩
  ·obtain ⟨o', e1⟩ := I.base.there b o e hx
   exact ⟨o', (hs.2 b (Nat.ne_of_lt (Nat.lt_of_lt_of_le (Heap.lt_size e) (I.ok.cab x c hfn hc)))).trans e1⟩
  ·by_cases hj : j = i
   ·subst hj
    rw [hi] at e1; cases e1
    rw [List.getElem?_set_self hiσ] at e2
    cases e2
    exact ⟨u, r, .inr ⟨.inl hk, c, hc, hc'⟩⟩
   ·rw [List.getElem?_set_ne (Ne.symm hj)] at e2
    obtain ⟨u', r', q⟩ := hl j y v' e1 e2 e3
    refine ⟨u', r', ?_⟩
    rcases q with q | ⟨k, c', e, z'⟩
    ·exact .inl q
    ·refine .inr ⟨k, c', e, z'.sameBut hs ?_⟩
     rintro rfl
     exact hj (yC hN e1 (I.ok.inj _ _ _ e hc ▸ hi))
  ·by_cases hcc : c' = c
   ·subst hcc; exact ⟨_, hc'⟩
   ·obtain ⟨w2, z2⟩ := I.cell y c' e
    exact ⟨w2, z2.sameBut hs hcc⟩
  ·obtain ⟨e, n, ne, nf, d⟩ := I.pin p hp
   refine ⟨(hs.2 p.1 ?_).trans e, n, ne, nf, d⟩
   intro q
   rw [q, hoc] at e
   have q' : oc = p.2 := Option.some.inj e
   exact d w' (by rw [<- q']; exact hocd)
theorem uc {M : Model} {A : Around} {E : Value -> Shared -> Prop} {i : Nat} {x : Str} {v : V} {u : Value} {Q : Unit -> Shared -> Prop} (I : Inv X pins σ H s) (hN : X.N.Nodup) (hi : X.N[i]? = some x) (hx : Loc X.env.scope x) (r : RelV v u)
  (h : ∀ s', Inv X pins (σ.set i (some v)) H s' -> Q () s') (hf : X.fn x = true \/ X.env.scope.names.lookup x = some .local := by first | exact .inl rfl | exact .inr rfl | assumption) : wpAny M A (storeName X.env x u) Q E s :=
 Qt I hN hi hx r (fun s' I' _ => h s' I') hf
theorem Inv.Qz {s' : Shared} {ch : List Addr} (I : Inv X pins σ H s) (ho : s'.os = s.os) (u : Un (frs X.stack) ch H H' s.heap s'.heap) (hok : HOk X.prog X.w H' s'.heap) (hg : AllBare s'.gens)
  (hch : ∀ b ∈ ch, (b ∈ X.ex \/ X.s_0.heap.objs.size <= b) /\ b ≠ X.env.locals /\ (∀ x c, X.env.cells.lookup x = some c -> c ≠ b) /\ ∀ p ∈ X.pn ++ pins, p.1 ≠ b) : Inv X pins σ H' s' := by
 obtain ⟨h', g', d', t', o'⟩ := s'
 have e : o' = s.os := ho
 subst e
 exact I.call (g' := g') (t' := t') (d' := d') u hok hg hch
end
noncomputable abbrev XK := Value -> Option Addr -> Hp -> Prop
noncomputable abbrev St := List (Option V)
noncomputable abbrev VK := V -> Hp -> Prop
noncomputable abbrev TE := St -> Hp -> VK -> Prop
noncomputable abbrev TT := St -> Hp -> (Bool -> Hp -> Prop) -> Prop
noncomputable abbrev TA := St -> Hp -> (List V -> Hp -> Prop) -> Prop
structure Ends where
 nx : St -> Hp -> Prop
 rt : VK
 bk : St -> Hp -> Prop := fun _ _ => False
 ct : St -> Hp -> Prop := fun _ _ => False
noncomputable abbrev TS := Ends -> St -> Hp -> Prop
noncomputable def EP (X : Cx) (pins : List (Addr × Obj)) (σ : St) (Q : VK) (u : Value) (s' : Shared) : Prop := ∃ v H', Inv X pins σ H' s' /\ RelV v u /\ Q v H'
noncomputable def TP (X : Cx) (pins : List (Addr × Obj)) (σ : St) (Q : Bool -> Hp -> Prop) (b : Bool) (s' : Shared) : Prop := ∃ H', Inv X pins σ H' s' /\ Q b H'
noncomputable def AP (X : Cx) (pins : List (Addr × Obj)) (σ : St) (Q : List V -> Hp -> Prop) (us : List Value) (s' : Shared) : Prop := ∃ vs H', Inv X pins σ H' s' /\ Vals vs us /\ Q vs H'
noncomputable def SP (X : Cx) (pins : List (Addr × Obj)) (D : Ends) (f : Flow) (s' : Shared) : Prop :=
 match f with
 | .next => ∃ σ' H', Inv X pins σ' H' s' /\ D.nx σ' H'
 | .brk => ∃ σ' H', Inv X pins σ' H' s' /\ D.bk σ' H'
 | .cont => ∃ σ' H', Inv X pins σ' H' s' /\ D.ct σ' H'
 | .ret u => ∃ v σ' H', Inv X pins σ' H' s' /\ RelV v u /\ D.rt v H'
noncomputable def PE (X : Cx) (e : Expr) (t : TE) : Prop :=
 ∀ (pins : List (Addr × Obj)) (s : Shared) (σ : St) (H : Hp) (Q : VK), Inv X pins σ H s -> t σ H Q -> wpAny (model X.prog X.w) X.A (eval e X.env) (EP X pins σ Q) X.xe s
noncomputable def PT (X : Cx) (e : Expr) (t : TT) : Prop :=
 ∀ (pins : List (Addr × Obj)) (s : Shared) (σ : St) (H : Hp) (Q : Bool -> Hp -> Prop), Inv X pins σ H s -> t σ H Q -> wpAny (model X.prog X.w) X.A (isTrue e X.env (eval e X.env)) (TP X pins σ Q) X.xe s
noncomputable def PW (X : Cx) (e : Expr) (t : TT) : Prop :=
 ∀ (whole : Sem Value) (pins : List (Addr × Obj)) (s : Shared) (σ : St) (H : Hp) (Q : Bool -> Hp -> Prop), Inv X pins σ H s -> t σ H Q -> wpAny (model X.prog X.w) X.A (isTrue e X.env whole) (TP X pins σ Q) X.xe s
theorem PW.pt {X : Cx} {e : Expr} {t : TT} (h : PW X e t) : PT X e t := h _
noncomputable def PA (X : Cx) (es : List Expr) (t : TA) : Prop :=
 ∀ (pos : Pos) (pins : List (Addr × Obj)) (s : Shared) (σ : St) (H : Hp) (Q : List V -> Hp -> Prop), Inv X pins σ H s -> t σ H Q -> wpAny (model X.prog X.w) X.A (spliced (backTo pos (starEach es X.env))) (AP X pins σ Q) X.xe s
noncomputable def PS (X : Cx) (st : Stmt) (t : TS) : Prop :=
 ∀ (pins : List (Addr × Obj)) (s : Shared) (σ : St) (H : Hp) (D : Ends), Inv X pins σ H s -> t D σ H -> wpAny (model X.prog X.w) X.A (exec st X.env) (SP X pins D) X.xe s
noncomputable def PSs (X : Cx) (st : List Stmt) (t : TS) : Prop :=
 ∀ (pins : List (Addr × Obj)) (s : Shared) (σ : St) (H : Hp) (D : Ends), Inv X pins σ H s -> t D σ H -> wpAny (model X.prog X.w) X.A (execs st X.env) (SP X pins D) X.xe s
theorem thn {α : Type} {t : Sem α} {Q Q' : α -> Shared -> Prop} {M : Model} {A : Around} {E : Value -> Shared -> Prop} {s : Shared} (h : wpAny M A t Q E s) (hQ : ∀ a s, Q a s -> Q' a s) : wpAny M A t Q' E s := wpAny_mono h hQ fun _ _ x => x
section
variable {X : Cx}
noncomputable def YD (i : Nat) : TE := fun σ H Q => ∃ v, σ[i]? = some (some v) /\ Q v H
noncomputable def tC (v : V) : TE := fun _ H Q => Q v H
theorem xO {i : Nat} {x : Str} {pos : Pos} (hN : X.N[i]? = some x) (hv : Vis X.env.scope x) (hd : (x == ("__debug__" : Str)) = false := by decide) (hcd : (x == ("__classdict__" : Str)) = false := by decide) : PE X (.Name x pos) (YD i) := by
 intro pins s σ H Q I h
 obtain ⟨v, e, h⟩ := h
 obtain ⟨m, hn, hl⟩ := I.loc
 obtain ⟨u, r, l⟩ := hl i x v hN e hv
 have fin : EP X pins σ Q u s := ⟨v, H, I, r, h⟩
 rcases l with ⟨hk, hm⟩ | ⟨hk, c, hc, hcell⟩
 ·exact wpAny_Name (wpAny_loadName_local I.ok.kind hk hn hm fin) hd
 ·rcases hk with hk | hk
  ·exact wpAny_Name (wpAny_loadName_cell I.ok.kind hk hc hcell fin) hd
  ·exact wpAny_Name (wpAny_loadName_free I.ok.kind hk hc hcell fin hcd) hd
theorem uT {i j pos} : PE X (.Constant (.int i) j pos) (tC (.int i)) := fun _ _ _ H _ I h => wpAny_Constant_int ⟨.int i, H, I.tok _, ⟨_, rfl⟩, h⟩
noncomputable def Gl (X : Cx) (x : Str) : Prop := X.env.kindOf x = some .globalImplicit
theorem za {E : Value -> Shared -> Prop} {pins : List (Addr × Obj)} {s : Shared} {σ : St} {H : Hp} {x : Str} {u : Value} {pos : Pos} {Q : Value -> Shared -> Prop} (I : Inv X pins σ H s) (hg : Gl X x) (hm : X.mg x = some u) (h : Q u s)
  (hd : (x == ("__debug__" : Str)) = false := by decide) : wpAny (model X.prog X.w) X.A (eval (.Name x pos) X.env) Q E s :=
 Calls.Name_function_global I.ok.kind hg (Calls.loadGlobal_global (by rw [I.ok.glob]; exact I.mod.glob.keeps I.bk) hm h) hd
theorem yH {E : Value -> Shared -> Prop} {pins : List (Addr × Obj)} {s : Shared} {σ : St} {H : Hp} {x : Str} {u : Value} {pos : Pos} {Q : Value -> Shared -> Prop} (I : Inv X pins σ H s) (hg : Gl X x) (hm : X.mg x = none) (hv : bootBuiltins x = some u) (h : Q u s)
  (hn : x ≠ "__name__" := by decide) (hd : (x == ("__debug__" : Str)) = false := by decide) : wpAny (model X.prog X.w) X.A (eval (.Name x pos) X.env) Q E s := by
 obtain ⟨mb, h1, h2⟩ := I.mod.blt
 exact Calls.Name_function_global I.ok.kind hg (Calls.loadGlobal_builtin (by rw [I.ok.glob]; exact I.mod.glob.keeps I.bk) hm (by rw [I.ok.blt]; exact h1.keeps I.bk) ((h2 x hn).trans hv) h) hd
theorem V0 {x : Str} {v : V} {u : Value} {pos : Pos} (hg : Gl X x) (hm : X.mg x = some u) (r : RelV v u) (hd : (x == ("__debug__" : Str)) = false := by decide) : PE X (.Name x pos) (tC v) :=
 fun _ _ _ H _ I h => za I hg hm ⟨v, H, I, r, h⟩ hd
variable {a b : Expr} {ta tb : TE} {pos : Pos}
noncomputable def tB (t : TE) : TT := fun σ H Q => t σ H fun x H1 => ∃ c, x = .bl c /\ Q c H1
theorem ZZ {e : Expr} {t : TE} (h : PE X e t) (he : ∀ whole, isTrue e X.env whole = (do let v <- whole; standAt e.pos; holding [v] (truthy v)) := by intro _; rfl) : PT X e (tB t) := by
 intro pins s σ H Q I hw
 refine isTrue_plain (thn (h pins s σ H _ I hw) fun v s1 ⟨x, H1, I1, r1, q1⟩ => ?_) (he _)
 obtain ⟨d, rfl, q⟩ := q1
 cases r1
 exact wpAny_truthy_bool ⟨H1, I1, q⟩
variable {tA tB' : TT} {rest : List Expr}
noncomputable def tOr (t u : TT) : TT := fun σ H Q => t σ H fun c H1 => if c = true then Q true H1 else u σ H1 Q
noncomputable def Xg (t : TT) : TT := fun σ H Q => t σ H fun c H1 => Q (!c) H1
theorem Zy (ha : PT X a tA) : PW X (.BoolOp .Or [a] pos) tA := by
 intro wh pins s σ H Q I h
 refine isTrue_or (thn (ha pins s σ H Q I h) fun c s1 e => ?_)
 cases c with
 | false => exact isTrue_or_nil e
 | true => exact e
theorem YV (ha : PT X a tA) (hb : PW X (.BoolOp .Or (b :: rest) pos) tB') : PW X (.BoolOp .Or (a :: b :: rest) pos) (tOr tA tB') := by
 intro wh pins s σ H Q I h
 refine isTrue_or (thn (ha pins s σ H _ I h) fun c s1 ⟨H1, I1, q1⟩ => ?_)
 cases c with
 | true => exact ⟨H1, I1, q1⟩
 | false => exact hb wh pins s1 σ H1 Q I1 q1
theorem ZQ (ha : PT X a tA) : PT X (.UnaryOp .Not a pos) (Xg tA) := by
 intro pins s σ H Q I h
 exact isTrue_not (ha pins s σ H (fun c H1 => Q (!c) H1) I h)
end
noncomputable def SqL (K : PySem.W.Frag) (H : Hp) (a : Addr) (xs : List V) : Prop :=
 Rd H a (.lst xs) \/
  ∃ (o : Obj) (its : Array Value) (n : Nat), K.lookup a = some o /\ o.cls = .type "list" /\ o.dict = none /\ o.data = .seq its n /\ its.size <= sizeLine /\ Vals xs its.toList
noncomputable def SqT (K : PySem.W.Frag) (H : Hp) (a : Addr) (xs : List V) : Prop :=
 Rd H a (.tup xs) \/
  ∃ (o : Obj) (its : Array Value) (n : Nat), K.lookup a = some o /\ o.cls = .type "tuple" /\ o.data = .seq its n /\ its.size <= sizeLine /\ Vals xs its.toList
noncomputable def Y2 : Value -> Option V
 | .none => some .non
 | .bool b => some (.bl b)
 | .int i _ => some (.int i)
 | .str x _ => some (.str x)
 | .bytes b _ => some (.byt b)
 | .float b _ => some (.flt b)
 | .ref a => some (.ref a)
 | .type n => some (.ty n)
 | _ => none
theorem RelV.abs {x : V} {u : Value} (r : RelV x u) : Y2 u = some x := by
 cases x with
 | non => cases r; rfl
 | bl _ => cases r; rfl
 | int _ => obtain ⟨t, rfl⟩ := r; rfl
 | str _ => obtain ⟨t, rfl⟩ := r; rfl
 | byt _ => obtain ⟨t, rfl⟩ := r; rfl
 | flt _ => obtain ⟨t, rfl⟩ := r; rfl
 | ref _ => cases r; rfl
 | ty _ => cases r; rfl
theorem RelV.inj {x y : V} {u : Value} (r : RelV x u) (q : RelV y u) : x = y := Option.some.inj (r.abs.symm.trans q.abs)
theorem Vals.inj : ∀ {xs ys : List V} {us : List Value}, Vals xs us -> Vals ys us -> xs = ys
 | _, _, _, .nil, .nil => rfl
 | _, _, _, .cons r t, .cons r' t' => by rw [r.inj r', Vals.inj t t']
section
variable {X : Cx} {pins : List (Addr × Obj)} {σ : St} {H : Hp} {s : Shared} {a : Addr} {xs ys : List V}
theorem SqL.of {K : PySem.W.Frag} (h : H a = some (.lst xs)) : SqL K H a xs := .inl (.inl h)
theorem SqT.of {K : PySem.W.Frag} (h : H a = some (.tup xs)) : SqT K H a xs := .inl (.inl h)
theorem Inv.list (I : Inv X pins σ H s) (h : SqL X.K H a xs) : ∃ its : List Value, Vals xs its /\ PlainL s.heap a its.toArray /\ xs.length <= sizeLine := by
 rcases h with h | ⟨o, its, n, hk, hc, hd, hs, hz, r⟩
 ·obtain ⟨z, its, n, r, e⟩ := h.ok I.hok
  exact ⟨its, r, ⟨_, n, e, rfl, rfl, rfl⟩, z⟩
 ·refine ⟨its.toList, r, ⟨o, n, I.kIn a o hk, hc, hd, by simpa using hs⟩, ?_⟩
  have e := r.length
  simp only [Array.length_toList] at e
  lia
theorem Inv.tuple (I : Inv X pins σ H s) (h : SqT X.K H a xs) : ∃ its : List Value, Vals xs its /\ IsTup s.heap a its.toArray /\ xs.length <= sizeLine := by
 rcases h with h | ⟨o, its, n, hk, hc, hs, hz, r⟩
 ·obtain ⟨z, its, r, p⟩ := h.ok I.hok
  exact ⟨its, r, p, z⟩
 ·refine ⟨its.toList, r, ⟨o, I.kIn a o hk, hc, n, by simpa using hs⟩, ?_⟩
  have e := r.length
  simp only [Array.length_toList] at e
  lia
theorem Inv.yh (I : Inv X pins σ H s) (h : SqL X.K H a xs) (h' : SqL X.K H a ys) : xs = ys := by
 obtain ⟨its, r, ⟨o, n, e, _, _, d⟩, _⟩ := I.list h
 obtain ⟨its', r', ⟨o', n', e', _, _, d'⟩, _⟩ := I.list h'
 rw [e] at e'; cases e'
 rw [d] at d'
 injection d' with d1 _
 have : its = its' := by simpa using congrArg Array.toList d1
 subst this
 exact r.inj r'
end
noncomputable abbrev Cx.wA (X : Cx) (E : Value -> Shared -> Prop) : Cx := { X with xe := E }
theorem Cx.Ok.wA {X : Cx} (ok : X.Ok) (E : Value -> Shared -> Prop) : (X.wA E).Ok :=
 ⟨ok.mod, ok.kind, ok.glob, ok.blt, ok.above, ok.inj, ok.has, ok.cab, ok.hd, ok.frames, ok.stk, ok.exf, ok.bs, ok.bsz, ok.noex, ok.exfs, ok.wV, ok.frf⟩
theorem Cx.Ok.vy {X : Cx} {E : Value -> Shared -> Prop} (ok : (X.wA E).Ok) : X.Ok :=
 ⟨ok.mod, ok.kind, ok.glob, ok.blt, ok.above, ok.inj, ok.has, ok.cab, ok.hd, ok.frames, ok.stk, ok.exf, ok.bs, ok.bsz, ok.noex, ok.exfs, ok.wV, ok.frf⟩
section
variable {X : Cx} {pins : List (Addr × Obj)} {σ : St} {H : Hp} {s : Shared} {E : Value -> Shared -> Prop}
theorem Inv.wA (I : Inv X pins σ H s) (E : Value -> Shared -> Prop) : Inv (X.wA E) pins σ H s := ⟨I.ok.wA E, I.os, I.bare, I.base, I.loc, I.cell, I.free, I.freeC, I.pin, I.hok, I.len⟩
theorem Inv.vy (I : Inv (X.wA E) pins σ H s) : Inv X pins σ H s := ⟨I.ok.vy, I.os, I.bare, I.base, I.loc, I.cell, I.free, I.freeC, I.pin, I.hok, I.len⟩
theorem SP.vy {D : Ends} {f : Flow} {s' : Shared} (h : SP (X.wA E) pins D f s') : SP X pins D f s' := by
 cases f with
 | next => obtain ⟨σ', H', I, q⟩ := h; exact ⟨σ', H', I.vy, q⟩
 | brk => obtain ⟨σ', H', I, q⟩ := h; exact ⟨σ', H', I.vy, q⟩
 | cont => obtain ⟨σ', H', I, q⟩ := h; exact ⟨σ', H', I.vy, q⟩
 | ret u => obtain ⟨v, σ', H', I, r, q⟩ := h; exact ⟨v, σ', H', I.vy, r, q⟩
end
section
variable {X : Cx} {st : Stmt} {rest : List Stmt} {t u : TS} {e : Expr} {te : TE} {pos : Pos}
noncomputable def YB : TS := fun D σ H => D.nx σ H
noncomputable def Xc (t u : TS) : TS := fun D σ H => t { D with nx := u D } σ H
theorem WK : PSs X [] YB := fun _ _ σ H _ I h => wpAny_execs_nil ⟨σ, H, I, h⟩
theorem yx (h1 : PS X st t) (h2 : PSs X rest u) : PSs X (st :: rest) (Xc t u) := by
 intro pins s σ H D I h
 refine wpAny_execs_cons (thn (h1 pins s σ H { D with nx := u D } I h) fun f s1 q => ?_)
 cases f with
 | next =>
  obtain ⟨σ', H', I', q⟩ := q
  exact h2 pins s1 σ' H' D I' q
 | ret v => exact q
 | brk => exact q
 | cont => exact q
theorem wG (h1 : PS X st t) : PSs X [st] t := by
 intro pins s σ H D I h
 refine wpAny_execs_cons (thn (h1 pins s σ H D I h) fun f s1 q => ?_)
 cases f with
 | next => exact wpAny_execs_nil q
 | ret v => exact q
 | brk => exact q
 | cont => exact q
theorem Inv.quiet {pins : List (Addr × Obj)} {σ : St} {H : Hp} {s : Shared} (I : Inv X pins σ H s) : interactive X.env = false := by simp [interactive, I.ok.kind]
noncomputable def YH (te : TE) : TS := fun D σ H => te σ H fun _ H1 => D.nx σ H1
theorem jA (he : PE X e te) (hs : swapsWith e none pos.line X.env = pure false := by rfl) : PS X (.Expr e pos) (YH te) := by
 intro pins s σ H D I h
 exact wpAny_Expr_any (thn (he pins s σ H _ I h) fun v s1 ⟨x, H1, I1, r1, q1⟩ => ⟨σ, H1, I1, q1⟩) I.quiet hs
noncomputable def ZF (te : TE) : TS := fun D σ H => te σ H D.rt
theorem zY (he : PE X e te) : PS X (.Return (some e) pos) (ZF te) := by
 intro pins s σ H D I h
 exact wpAny_Return_some (thn (he pins s σ H _ I h) fun v s1 ⟨x, H1, I1, r1, q1⟩ => ⟨x, σ, H1, I1, r1, q1⟩)
noncomputable def Y8 (c : TT) (t u : TS) : TS := fun D σ H => c σ H fun b H1 => if b = true then t D σ H1 else u D σ H1
theorem YK {c : Expr} {a b : List Stmt} {tc : TT} (hc : PT X c tc) (ha : PSs X a t) (hb : PSs X b u) : PS X (.If c a b pos) (Y8 tc t u) := by
 intro pins s σ H D I h
 refine wpAny_If (thn (hc pins s σ H _ I h) fun d s1 ⟨H1, I1, q1⟩ => ?_)
 cases d with
 | true => exact ha pins s1 σ H1 D I1 q1
 | false => exact hb pins s1 σ H1 D I1 q1
end
noncomputable abbrev TG := V -> St -> Hp -> (St -> Hp -> Prop) -> Prop
noncomputable abbrev TGs := List V -> St -> Hp -> (St -> Hp -> Prop) -> Prop
noncomputable def PG (X : Cx) (target : Expr) (t : TG) : Prop :=
 ∀ (pins : List (Addr × Obj)) (s : Shared) (σ : St) (H : Hp) (v : V) (u : Value) (Q : St -> Hp -> Prop), Inv X pins σ H s -> RelV v u -> t v σ H Q ->
  wpAny (model X.prog X.w) X.A (assign target X.env u) (fun _ s' => ∃ σ' H', Inv X pins σ' H' s' /\ Q σ' H') X.xe s
noncomputable def PGs (X : Cx) (ts : List Expr) (t : TGs) : Prop :=
 ∀ (pins : List (Addr × Obj)) (s : Shared) (σ : St) (H : Hp) (vs : List V) (us : List Value) (Q : St -> Hp -> Prop), Inv X pins σ H s -> Vals vs us -> t vs σ H Q ->
  wpAny (model X.prog X.w) X.A (assignInOrder ((assignEach ts X.env).map (·.2)) us) (fun _ s' => ∃ σ' H', Inv X pins σ' H' s' /\ Q σ' H') X.xe s
section
variable {X : Cx} {pos : Pos}
noncomputable def vp (i : Nat) : TG := fun v σ H Q => Q (σ.set i (some v)) H
theorem VS {i : Nat} {x : Str} (hN : X.N.Nodup) (hi : X.N[i]? = some x) (hx : Loc X.env.scope x) (hf : X.fn x = true \/ X.env.scope.names.lookup x = some .local := by first | exact .inl rfl | exact .inr rfl | assumption) : PG X (.Name x pos) (vp i) := by
 intro pins s σ H v u Q I r h
 exact wpAny_assign_Name (uc I hN hi hx r (fun s' I' => ⟨_, H, I', h⟩) hf)
noncomputable def VN : TGs := fun vs σ H Q => vs = [] /\ Q σ H
noncomputable def z8 (t : TG) (u : TGs) : TGs := fun vs σ H Q => ∃ v r, vs = v :: r /\ t v σ H fun σ' H' => u r σ' H' Q
theorem VO : PGs X [] VN := by
 intro pins s σ H vs us Q I r h
 obtain ⟨e, h⟩ := h
 subst e
 cases r
 exact assignInOrder_nil ⟨σ, H, I, h⟩
theorem uu {e : Expr} {es : List Expr} {t : TG} {u : TGs} (h1 : PG X e t) (h2 : PGs X es u)
  (hs : (assignEach (e :: es) X.env).map (·.2) = assign e X.env :: (assignEach es X.env).map (·.2) := by rfl) : PGs X (e :: es) (z8 t u) := by
 intro pins s σ H vs us Q I r h
 obtain ⟨v, vr, e1, h⟩ := h
 subst e1
 cases r with
 | cons r rr =>
  rw [hs]
  refine assignInOrder_cons (thn (h1 pins s σ H _ _ _ I r h) fun _ s1 ⟨σ1, H1, I1, q1⟩ => ?_)
  exact h2 pins s1 σ1 H1 _ _ Q I1 rr q1
noncomputable def WQ (K : PySem.W.Frag) (n : Nat) (t : TGs) : TG := fun v σ H Q => ∃ a xs, v = .ref a /\ SqT K H a xs /\ xs.length = n /\ t xs σ H Q
theorem Zm {es : List Expr} {k : Nat} {t : TGs} {n : Nat} (hc : X.calm = true) (h : PGs X es t)
  (hn : (assignEach es X.env).length = n := by rfl) (hst : (assignEach es X.env).findIdx? (·.1) = none := by rfl) : PG X (.Tuple es k pos) (WQ X.K n t) := by
 intro pins s σ H v u Q I r hw
 obtain ⟨a, xs, e1, hq, hl, hw⟩ := hw
 subst e1
 cases r
 obtain ⟨its, rv, ht, hz⟩ := I.tuple hq
 refine assign_Tuple_tuple (I.ok.hd hc) ht (by simp [hn, <- hl, rv.length]) hst fun h' hx => ?_
 have I1 : Inv X pins σ H { s with heap := h' } := I.kept (t' := s.toks) fun b o e => hx b o (Nat.ne_of_lt (Heap.lt_size e)) e
 exact h pins _ σ H xs _ Q I1 (by simpa using rv) hw
noncomputable def VF (te : TE) (g : TG) : TS := fun D σ H => te σ H fun x H1 => g x σ H1 D.nx
theorem ji {i : Nat} {x : Str} {e : Expr} {te : TE} {pos' : Pos} (hN : X.N.Nodup) (hi : X.N[i]? = some x) (hx : Loc X.env.scope x) (he : PE X e te) (hs : swapsWith e (some (.Name x pos')) pos.line X.env = pure false := by rfl) (hf : X.fn x = true \/ X.env.scope.names.lookup x = some .local := by first | exact .inl rfl | exact .inr rfl | assumption) :
  PS X (.Assign [.Name x pos'] e pos) (VF te (vp i)) := by
 intro pins s σ H D I h
 refine wpAny_Assign_Name (thn (he pins s σ H _ I h) fun v s1 ⟨y, H1, I1, r1, q1⟩ => ?_) hs
 exact uc I1 hN hi hx r1 (fun s2 I2 => ⟨_, H1, I2, q1⟩) hf
end
structure It where
 go : Nat -> Hp -> Prop
 yld : Nat -> Hp -> V -> Hp -> Prop
 stop : Nat -> Hp -> Prop
noncomputable def zw (X : Cx) (pins : List (Addr × Obj)) (H : Hp) (b : Addr) : Prop :=
 H b = none /\ b ≠ X.env.locals /\ b ∉ X.fs /\ (b ∈ X.ex \/ X.s_0.heap.objs.size <= b) /\ (∀ x c, X.env.cells.lookup x = some c -> c ≠ b) /\ ∀ p ∈ X.pn ++ pins, p.1 ≠ b
theorem Inv.Q7 {X : Cx} {pins : List (Addr × Obj)} {σ : St} {H H' : Hp} {s : Shared} {b : Addr} (I : Inv X pins σ H s) (hb : s.heap.objs.size <= b) (hn : H' b = none) : zw X pins H' b := by
 refine ⟨hn, Nat.ne_of_gt (Nat.lt_of_lt_of_le I.lt hb), I.YJ hb, .inr (Nat.le_trans I.sz hb), fun x c e z => ?_, fun p hp z => ?_⟩
 ·obtain ⟨v, q⟩ := I.cell x c e
  exact absurd (Nat.lt_of_lt_of_le q.lt (by rw [z]; exact hb)) (Nat.lt_irrefl _)
 ·exact absurd (Nat.lt_of_lt_of_le (Heap.lt_size (I.pin p hp).1) (by rw [z]; exact hb)) (Nat.lt_irrefl _)
structure Turn (P : Program) (w : World) (K : PySem.W.Frag) (tg : Expr) (J : It) (fp : List Addr) (it : Addr) (tn : Nat -> Heap -> Prop) : Prop where
 mem : it ∈ fp
 obj : ∀ i h, tn i h -> ∀ b ∈ fp, ∃ o, h.get? b = some o /\ ∀ v, o.data ≠ .cell v
 keep : ∀ i h h', tn i h -> (∀ b ∈ fp, ∀ o, h.get? b = some o -> h'.get? b = some o) -> tn i h'
 item : ∀ (X : Cx), X.prog = P -> X.w = w -> X.K = K -> X.calm = true -> ∀ (i : Nat) (pins : List (Addr × Obj)) (s : Shared) (σ : St) (H : Hp) (E : Value -> Shared -> Prop), Inv X pins σ H s -> (∀ b ∈ fp, zw X pins H b) -> tn i s.heap -> J.go i H ->
  wpAny (model P w) X.A (pyNext (.ref it)) (fun r s1 => ∃ u, r = some u /\
   wpAny (model P w) X.A (letOwnedTupleGo tg (.ref it) u) (fun _ s2 => ∃ x H', Inv X pins σ H' s2 /\ RelV x u /\ J.yld i H x H' /\ tn (i + 1) s2.heap /\ ∀ b ∈ fp, H' b = none) E s1) E s
 done : ∀ (X : Cx), X.prog = P -> X.w = w -> X.K = K -> X.calm = true -> ∀ (i : Nat) (pins : List (Addr × Obj)) (s : Shared) (σ : St) (H : Hp) (E : Value -> Shared -> Prop), Inv X pins σ H s -> (∀ b ∈ fp, zw X pins H b) -> tn i s.heap -> J.stop i H ->
  wpAny (model P w) X.A (pyNext (.ref it)) (fun r s1 => r = none /\ Inv X pins σ H s1) E s
 self : ∀ (A : Around) (i : Nat) (s : Shared) (Q : Value -> Shared -> Prop) (E : Value -> Shared -> Prop), tn i s.heap -> Q (.ref it) s -> wpAny (model P w) A (pyIter (.ref it)) Q E s
noncomputable abbrev TI := St -> Hp -> (It -> Hp -> Prop) -> Prop
noncomputable def PIE (X : Cx) (pins : List (Addr × Obj)) (σ : St) (tg : Expr) (R : It -> Hp -> Prop) (itv : Value) (s2 : Shared) : Prop :=
 ∃ (it : Addr) (fp : List Addr) (tn : Nat -> Heap -> Prop) (J : It) (H' : Hp), itv = .ref it /\ Inv X pins σ H' s2 /\ Turn X.prog X.w X.K tg J fp it tn /\ tn 0 s2.heap /\ (∀ b ∈ fp, zw X pins H' b) /\ R J H'
noncomputable def PI (X : Cx) (tg iter : Expr) (wi : TI) : Prop :=
 ∀ (pins : List (Addr × Obj)) (s : Shared) (σ : St) (H : Hp) (R : It -> Hp -> Prop), Inv X pins σ H s -> wi σ H R ->
  wpAny (model X.prog X.w) X.A (eval iter X.env) (fun v s1 => wpAny (model X.prog X.w) X.A (pyIter v) (PIE X pins σ tg R) X.xe s1) X.xe s
theorem QC {M : Model} {A : Around} {E : Value -> Shared -> Prop} {s : Shared} {tg : Expr} {it : Addr} {u : Value} {o : Obj} {n : String} {vs : Array Value} {Q : Unit -> Shared -> Prop} (ho : s.heap.get? it = some o) (hc : o.cls = .type n) (hd : o.data = .fields vs)
    (hn : ["enumerate", "zip", "dict_itemiterator", "dict_reverseitemiterator", "odict_iterator", "itertools.zip_longest", "itertools.pairwise"].contains n = false) (hQ : Q () s) : wpAny M A (letOwnedTupleGo tg (.ref it) u) Q E s := by
  unfold letOwnedTupleGo
  cases tg <;> first
    | exact wpAny_pure hQ
    | (cases u <;> first
        | exact wpAny_pure hQ
        | (refine wpAny_bind (wpAny_load ho ?_)
           rw [hc, hd]
           show wpAny M A (if (["enumerate", "zip", "dict_itemiterator", "dict_reverseitemiterator", "odict_iterator", "itertools.zip_longest", "itertools.pairwise"].contains n && vs[0]? == some (rawInt _)) = true then _ else _) Q E s
           rw [if_neg (by intro h; rw [hn, Bool.false_and] at h; cases h)]
           exact wpAny_pure hQ))
noncomputable def Itl (K : PySem.W.Frag) (a : Addr) : It :=
 ⟨fun i H => ∃ xs x, SqL K H a xs /\ xs[i]? = some x, fun i H x H' => H' = H /\ ∀ xs, SqL K H a xs -> xs[i]? = some x, fun i H => ∃ xs, SqL K H a xs /\ xs.length <= i⟩
noncomputable def Itr (lo : Int) (n : Nat) : It := ⟨fun i _ => i < n, fun i H x H' => H' = H /\ x = .int (lo + i), fun i _ => n <= i⟩
theorem j4 {P : Program} {w : World} {K : PySem.W.Frag} {tg : Expr} (a it : Addr) : Turn P w K tg (Itl K a) [it] it (fun i h => h.IsListIter it a i) where
 mem := by simp
 obj := fun i h st b hb => by
  have e : b = it := by simpa using hb
  subst e
  obtain ⟨o, e, c, d⟩ := st
  exact ⟨o, e, fun v z => by rw [d] at z; cases z⟩
 keep := fun i h h' st k => st.at fun o e => k it (by simp) o e
 item := by
  intro X hP hw hK hc i pins s σ H E I hf st hg
  subst hP hw hK
  obtain ⟨xs, x, hq, hx⟩ := hg
  obtain ⟨its, rv, p, hz⟩ := I.list hq
  obtain ⟨u, hu, ru⟩ := rv.get hx
  obtain ⟨f0, f1, f2, f3, f4, f5⟩ := hf it (by simp)
  refine wpAny_pyNext_list_item st p.isList (x := u) (by simpa using hu) fun h' st' sb => ?_
  have I1 : Inv X pins σ H { s with heap := h' } := I.turned (t' := s.toks) (fun b o hb e => (sb.2 b hb).trans e) f0 f1 f3 f4 f5
  obtain ⟨o, e, c, d⟩ := id st'
  exact ⟨u, rfl, QC (s := { s with heap := h' }) e c d (by decide) ⟨x, H, I1, ru, ⟨rfl, fun ys hy => by rw [I.yh hy hq]; exact hx⟩, st', fun b hb => (hf b hb).1⟩⟩
 done := by
  intro X hP hw hK hc i pins s σ H E I hf st hg
  subst hP hw hK
  obtain ⟨xs, hq, hx⟩ := hg
  obtain ⟨its, rv, p, hz⟩ := I.list hq
  obtain ⟨f0, f1, f2, f3, f4, f5⟩ := hf it (by simp)
  have hl := rv.length
  exact wpAny_pyNext_list_end (I.ok.hd hc) st p.isList (by simp; lia) fun h' eb => ⟨rfl, I.turned (t' := s.toks) (fun b o hb e => eb b o hb e) f0 f1 f3 f4 f5⟩
 self := fun _ _ _ _ _ st h => wpAny_pyIter_listiter st h
theorem Z3 {P : Program} {w : World} {K : PySem.W.Frag} {tg : Expr} (it : Addr) (lo : Int) (n : Nat) : Turn P w K tg (Itr lo n) [it] it (fun i h => IsRangeIter h it (lo + (i : Nat) * 1) ((n : Int) - (i : Nat)) 1) where
 mem := by simp
 obj := fun i h st b hb => by
  have e : b = it := by simpa using hb
  subst e
  exact ⟨_, st, fun v z => by
   have z' : Data.fields _ = Data.cell v := z
   cases z'⟩
 keep := fun i h h' st k => k it (by simp) _ st
 item := by
  intro X hP hw hK hc i pins s σ H E I hf st hg
  subst hP hw hK
  obtain ⟨f0, f1, f2, f3, f4, f5⟩ := hf it (by simp)
  have W := Walks.range (prog := X.prog) (w := X.w) (I.ok.hd hc) it lo 1 n
  refine W.item i s _ _ hg st fun v h' tk hv st' kk => ?_
  obtain ⟨t, rfl⟩ := hv
  have I1 : Inv X pins σ H { s with heap := h', toks := tk } := I.turned (fun b o hb e => kk b o (by simpa using hb) e) f0 f1 f3 f4 f5
  refine ⟨_, rfl, QC (s := { s with heap := h', toks := tk }) (n := "range_iterator") st' rfl rfl (by decide) ⟨.int (lo + i), H, I1, ⟨t, ?_⟩, ⟨rfl, rfl⟩, st', fun b hb => (hf b hb).1⟩⟩
  rw [Int.mul_one]
 done := by
  intro X hP hw hK hc i pins s σ H E I hf st hg
  subst hP hw hK
  obtain ⟨f0, f1, f2, f3, f4, f5⟩ := hf it (by simp)
  exact wpAny_pyNext_range_end (I.ok.hd hc) st (by have : n <= i := hg; lia) fun h' eb => ⟨rfl, I.turned (t' := s.toks) (fun b o hb e => eb b o hb e) f0 f1 f3 f4 f5⟩
 self := fun _ _ _ _ _ st h => wpAny_pyIter_rangeiter st h
section
variable {X : Cx} {tg : Expr}
noncomputable def YO (K : PySem.W.Frag) (tl : TE) : TI := fun σ H R => tl σ H fun x H1 => ∃ a, x = .ref a /\ (∃ xs, SqL K H1 a xs) /\ R (Itl K a) H1
theorem VT {l : Expr} {tl : TE} (hl : PE X l tl) : PI X tg l (YO X.K tl) := by
 intro pins s σ H R I h
 refine thn (hl pins s σ H _ I h) fun v s1 ⟨x, H1, I1, r1, q1⟩ => ?_
 obtain ⟨a, e, ⟨xs, hq⟩, q⟩ := q1
 subst e
 cases r1
 obtain ⟨its, rv, p, hz⟩ := I1.list hq
 refine wpAny_pyIter_list p.isList ?_
 refine ⟨s1.heap.objs.size, [s1.heap.objs.size], _, _, H1, rfl, I1.kept (t' := s1.toks) fun b o e => Heap.get?_push_of_some _ e, j4 a _, ⟨_, Heap.get?_push_size _ rfl, rfl, rfl⟩, fun b hb => ?_, q⟩
 have e : b = s1.heap.objs.size := by simpa using hb
 subst e
 exact I1.Q7 (Nat.le_refl _) (I1.hok.fresh (Nat.le_refl _))
noncomputable def Xa (wi : TI) (g : TG) (tb : TS) : TS := fun D σ H => wi σ H fun J H1 => ∃ W : Nat -> Nat -> St -> Hp -> Prop, (∃ m, W 0 m σ H1) /\ ∀ i m σ H, W i m σ H ->
 (J.stop i H /\ D.nx σ H) \/ (J.go i H /\ ∃ N : St -> Hp -> Prop, (∀ σ' H', N σ' H' -> ∃ m', m' < m /\ W (i + 1) m' σ' H') /\ ∀ x H', J.yld i H x H' -> g x σ H' fun σ2 H2 => tb { D with nx := N, ct := N, bk := D.nx } σ2 H2)
noncomputable def yt (fp : List Addr) (h : Heap) : List (Addr × Obj) := fp.filterMap fun b => (h.get? b).map fun o => (b, o)
theorem wQ {fp : List Addr} {h : Heap} {b : Addr} {o : Obj} (hb : b ∈ fp) (e : h.get? b = some o) : (b, o) ∈ yt fp h := List.mem_filterMap.mpr ⟨b, hb, by rw [e]; rfl⟩
theorem Qv {fp : List Addr} {h : Heap} {p : Addr × Obj} (hp : p ∈ yt fp h) : p.1 ∈ fp /\ h.get? p.1 = some p.2 := by
 obtain ⟨b, hb, e⟩ := List.mem_filterMap.mp hp
 cases q : h.get? b with
 | none => rw [q] at e; cases e
 | some o =>
  rw [q] at e
  have e' : (b, o) = p := Option.some.inj e
  subst e'
  exact ⟨hb, q⟩
theorem Inv.pinned {pins : List (Addr × Obj)} {σ : St} {H : Hp} {s : Shared} {fp : List Addr} (I : Inv X pins σ H s) (hf : ∀ b ∈ fp, zw X pins H b) (ho : ∀ b ∈ fp, ∃ o, s.heap.get? b = some o /\ ∀ v, o.data ≠ .cell v) : Inv X (pins ++ yt fp s.heap) σ H s :=
 I.jy fun p hp => (List.mem_append.mp hp).elim (fun z => I.pin p (List.mem_append_right _ z)) fun z => by
  obtain ⟨hb, e⟩ := Qv z
  obtain ⟨f0, f1, f2, _⟩ := hf p.1 hb
  obtain ⟨o, e', d⟩ := ho p.1 hb
  rw [e] at e'; cases e'
  exact ⟨e, f0, f1, f2, d⟩
theorem Inv.zb {pins pl : List (Addr × Obj)} {σ : St} {H : Hp} {s : Shared} (I : Inv X (pins ++ pl) σ H s) : Inv X pins σ H s := I.jy fun p hp => I.pin p (List.mem_append_right _ (List.mem_append_left _ hp))
theorem QX {iter : Expr} {body : List Stmt} {wi : TI} {g : TG} {tb : TS} {pos : Pos} (hp : PassesOwn (model X.prog X.w) X.A X.env X.xe) (hc : X.calm = true) (hi : PI X tg iter wi) (hg : PG X tg g) (hb : PSs X body tb)
  (hs : ∀ x, foldedSetIterable iter X.env x = pure x := by intro _; rfl) : PS X (.For tg iter body [] pos) (Xa wi g tb) := by
 intro pins s σ H D I h
 refine wpAny_For (thn (hi pins s σ H _ I h) fun v s1 h1 => thn h1 fun itv s2 h2 => ?_) hs
 obtain ⟨it, fp, tn, J, H2, e, I2, T, st2, f2, W, ⟨m0, w0⟩, turn⟩ := h2
 subst e
 -- what stays true of the iterator's objects through the loop
 have stat : ∀ {H' : Hp}, (∀ b ∈ fp, H' b = none) -> ∀ b ∈ fp, zw X pins H' b := fun hn b hb => ⟨hn b hb, (f2 b hb).2⟩
 refine codeAny_forLoop_any (fun n s' => ∃ i σ' H', Inv X pins σ' H' s' /\ tn i s'.heap /\ (∀ b ∈ fp, H' b = none) /\ W i n σ' H') ?_ m0 ⟨0, σ, H2, I2, st2, fun b hb => (f2 b hb).1, w0⟩
 rintro n s3 ⟨i, σ3, H3, I3, st3, fr3, w3⟩
 rcases turn i n σ3 H3 w3 with ⟨stop, qn⟩ | ⟨go, N, hN, step⟩
 ·refine wpAny_passesOwn hp (thn (T.done X rfl rfl rfl hc i pins s3 σ3 H3 X.xe I3 (stat fr3) st3 stop) fun r s4 ⟨hr, I4⟩ => ?_)
  subst hr
  exact wpAny_execs_nil ⟨σ3, H3, I4, qn⟩
 ·refine wpAny_passesOwn hp (thn (T.item X rfl rfl rfl hc i pins s3 σ3 H3 X.xe I3 (stat fr3) st3 go) fun r s4 ⟨u, hr, h4⟩ => ?_)
  subst hr
  refine wpAny_passesOwn hp (thn h4 fun _ s5 ⟨x, H5, I5, r5, y5, st5, fr5⟩ => ?_)
  have I5' := I5.pinned (stat fr5) (T.obj _ _ st5)
  refine wpAny_passesOwn hp (thn (hg _ s5 σ3 H5 x u _ I5' r5 (step x H5 y5)) fun _ s6 ⟨σ6, H6, I6, q6⟩ => ?_)
  refine wpAny_passesOwn hp (thn (hb _ s6 σ6 H6 _ I6 q6) fun f s7 q7 => ?_)
  have again : ∀ {σ7 : St} {H7 : Hp}, Inv X (pins ++ yt fp s5.heap) σ7 H7 s7 -> N σ7 H7 -> ∃ m, m < n /\ ∃ i σ' H', Inv X pins σ' H' s7 /\ tn i s7.heap /\ (∀ b ∈ fp, H' b = none) /\ W i m σ' H' := fun {σ7 H7} I7 n7 => by
   obtain ⟨m', hm, w7⟩ := hN σ7 H7 n7
   refine ⟨m', hm, i + 1, σ7, H7, I7.zb, T.keep _ _ _ st5 fun b hb o e => (I7.pin (b, o) (List.mem_append_right _ (List.mem_append_right _ (wQ hb e)))).1, fun b hb => ?_, w7⟩
   obtain ⟨o, e, d⟩ := T.obj _ _ st5 b hb
   exact (I7.pin (b, o) (List.mem_append_right _ (List.mem_append_right _ (wQ hb e)))).2.1
  cases f with
  | next => obtain ⟨σ7, H7, I7, n7⟩ := q7; exact again I7 n7
  | cont => obtain ⟨σ7, H7, I7, n7⟩ := q7; exact again I7 n7
  | brk => obtain ⟨σ7, H7, I7, q7⟩ := q7; exact ⟨σ7, H7, I7.zb, q7⟩
  | ret v => obtain ⟨x7, σ7, H7, I7, r7, q7⟩ := q7; exact ⟨x7, σ7, H7, I7.zb, r7, q7⟩
end
noncomputable abbrev R2 := V -> V -> Hp -> VK -> Prop
noncomputable def OpR (X : Cx) (f : Value -> Value -> Sem Value) (r : R2) : Prop :=
 ∀ (pins : List (Addr × Obj)) (s : Shared) (σ : St) (H : Hp) (x y : V) (v u : Value) (Q : VK), Inv X pins σ H s -> RelV x v -> RelV y u -> r x y H Q ->
  wpAny (model X.prog X.w) X.A (f v u) (EP X pins σ Q) X.xe s
noncomputable def UnR (X : Cx) (f : Value -> Sem Value) (r : V -> Hp -> VK -> Prop) : Prop :=
 ∀ (pins : List (Addr × Obj)) (s : Shared) (σ : St) (H : Hp) (x : V) (v : Value) (Q : VK), Inv X pins σ H s -> RelV x v -> r x H Q ->
  wpAny (model X.prog X.w) X.A (f v) (EP X pins σ Q) X.xe s
noncomputable def ug (X : Cx) (f : Value) (r : List V -> Hp -> VK -> Prop) : Prop :=
 ∀ (pins : List (Addr × Obj)) (s : Shared) (σ : St) (H : Hp) (xs : List V) (us : List Value) (Q : VK), Inv X pins σ H s -> Vals xs us -> r xs H Q ->
  wpAny (model X.prog X.w) X.A (call f us) (EP X pins σ Q) X.xe s
noncomputable def tOp (r : R2) (ta tb : TE) : TE := fun σ H Q => ta σ H fun x H1 => tb σ H1 fun y H2 => r x y H2 Q
noncomputable def tUn (r : V -> Hp -> VK -> Prop) (ta : TE) : TE := fun σ H Q => ta σ H fun x H1 => r x H1 Q
noncomputable def rI (C : Int -> Int -> Prop) (g : Int -> Int -> V) : R2 := fun x y H Q => ∃ i j, x = .int i /\ y = .int j /\ C i j /\ Q (g i j) H
noncomputable def rI0 (g : Int -> Int -> V) : R2 := fun x y H Q => ∃ i j, x = .int i /\ y = .int j /\ Q (g i j) H
noncomputable def rU (g : Int -> V) : V -> Hp -> VK -> Prop := fun x H Q => ∃ i, x = .int i /\ Q (g i) H
section
variable {X : Cx} {a b c : Expr} {ta tb tc : TE} {pos : Pos}
theorem ZI (ha : PE X a ta) (hb : PE X b tb) {pins : List (Addr × Obj)} {s : Shared} {σ : St} {H : Hp} {R : V -> V -> Hp -> Prop} (I : Inv X pins σ H s)
  (h : ta σ H fun x H1 => tb σ H1 fun y H2 => R x y H2) {Q : Value -> Shared -> Prop} {f : Value -> Value -> Sem Value}
  (hf : ∀ v u s2 x y H2, Inv X pins σ H2 s2 -> RelV x v -> RelV y u -> R x y H2 -> wpAny (model X.prog X.w) X.A (f v u) Q X.xe s2) :
  wpAny (model X.prog X.w) X.A (eval a X.env) (fun v s₁ => wpAny (model X.prog X.w) X.A (eval b X.env) (fun u s₂ => wpAny (model X.prog X.w) X.A (f v u) Q X.xe s₂) X.xe s₁) X.xe s := by
 refine thn (ha pins s σ H _ I h) fun v s1 ⟨x, H1, I1, r1, q1⟩ => ?_
 refine thn (hb pins s1 σ H1 _ I1 q1) fun u s2 ⟨y, H2, I2, r2, q2⟩ => ?_
 exact hf v u s2 x y H2 I2 r1 r2 q2
theorem WR {op : Operator} {r : R2} (ho : OpR X (binaryOp op) r) (ha : PE X a ta) (hb : PE X b tb) : PE X (.BinOp a op b pos) (tOp r ta tb) := by
 intro pins s σ H Q I h
 exact wpAny_BinOp (ZI ha hb I h fun v u s2 x y H2 I2 rx ry q => ho pins s2 σ H2 x y v u Q I2 rx ry q)
theorem YN {op : UnaryOp} {r : V -> Hp -> VK -> Prop} (ho : UnR X (unaryOp op) r) (ha : PE X a ta) : PE X (.UnaryOp op a pos) (tUn r ta) := by
 intro pins s σ H Q I h
 exact UnaryOp_ (thn (ha pins s σ H _ I h) fun v s1 ⟨x, H1, I1, r1, q1⟩ => ho pins s1 σ H1 x v Q I1 r1 q1)
theorem opI {f : Value -> Value -> Sem Value} {C : Int -> Int -> Prop} {g : Int -> Int -> Int}
  (rule : ∀ (i j : Int) (t u : Tok) (s : Shared) (Q : Value -> Shared -> Prop) (E : Value -> Shared -> Prop), C i j -> Q (.int (g i j) s.toks) { s with toks := s.toks + 1 } -> wpAny (model X.prog X.w) X.A (f (.int i t) (.int j u)) Q E s) :
  OpR X f (rI C fun i j => .int (g i j)) := by
 intro pins s σ H x y v u Q I rx ry h
 obtain ⟨i, j, rfl, rfl, hc, q⟩ := h
 obtain ⟨t, rfl⟩ := rx
 obtain ⟨t', rfl⟩ := ry
 exact rule i j t t' s _ _ hc ⟨.int (g i j), H, I.tok _, ⟨_, rfl⟩, q⟩
theorem ZV {f : Value -> Value -> Sem Value} {g : Int -> Int -> Int}
  (rule : ∀ (i j : Int) (t u : Tok) (s : Shared) (Q : Value -> Shared -> Prop) (E : Value -> Shared -> Prop), Q (.int (g i j) s.toks) { s with toks := s.toks + 1 } -> wpAny (model X.prog X.w) X.A (f (.int i t) (.int j u)) Q E s) :
  OpR X f (rI0 fun i j => .int (g i j)) := by
 intro pins s σ H x y v u Q I rx ry h
 obtain ⟨i, j, rfl, rfl, q⟩ := h
 obtain ⟨t, rfl⟩ := rx
 obtain ⟨t', rfl⟩ := ry
 exact rule i j t t' s _ _ ⟨.int (g i j), H, I.tok _, ⟨_, rfl⟩, q⟩
theorem YF {f : Value -> Value -> Sem Value} {g : Int -> Int -> Bool}
  (rule : ∀ (i j : Int) (t u : Tok) (s : Shared) (Q : Value -> Shared -> Prop) (E : Value -> Shared -> Prop), Q (.bool (g i j)) s -> wpAny (model X.prog X.w) X.A (f (.int i t) (.int j u)) Q E s) :
  OpR X f (rI0 fun i j => .bl (g i j)) := by
 intro pins s σ H x y v u Q I rx ry h
 obtain ⟨i, j, rfl, rfl, q⟩ := h
 obtain ⟨t, rfl⟩ := rx
 obtain ⟨t', rfl⟩ := ry
 exact rule i j t t' s _ _ ⟨.bl (g i j), H, I, rfl, q⟩
theorem ZM : OpR X (binaryOp .Add) (rI0 fun i j => .int (i + j)) := ZV fun _ _ _ _ _ _ _ q => add_int q
theorem Yd : OpR X (binaryOp .Sub) (rI0 fun i j => .int (i - j)) := ZV fun _ _ _ _ _ _ _ q => sub_int q
theorem Z7 : OpR X (binaryOp .BitAnd) (rI0 fun i j => .int (Builtin.bitAnd i j)) := ZV fun _ _ _ _ _ _ _ q => and_int q
theorem unI {f : Value -> Sem Value} {g : Int -> Int}
  (rule : ∀ (i : Int) (t : Tok) (s : Shared) (Q : Value -> Shared -> Prop) (E : Value -> Shared -> Prop), Q (.int (g i) s.toks) { s with toks := s.toks + 1 } -> wpAny (model X.prog X.w) X.A (f (.int i t)) Q E s) :
  UnR X f (rU fun i => .int (g i)) := by
 intro pins s σ H x v Q I rx h
 obtain ⟨i, rfl, q⟩ := h
 obtain ⟨t, rfl⟩ := rx
 exact rule i t s _ _ ⟨.int (g i), H, I.tok _, ⟨_, rfl⟩, q⟩
theorem Zc : UnR X (unaryOp .USub) (rU fun i => .int (-i)) := unI fun _ _ _ _ _ q => neg_int q
end
noncomputable def V7 : V -> V -> Bool
 | .non, .non => true | .non, .int _ => true | .int _, .non => true | .non, .bl _ => true | .bl _, .non => true | .non, .str _ => true | .str _, .non => true
 | .int _, .int _ => true | .bl _, .bl _ => true | .str _, .str _ => true | .byt _, .byt _ => true
 | .int _, .str _ => true | .str _, .int _ => true | .bl _, .str _ => true | .str _, .bl _ => true
 | _, _ => false
noncomputable def rNe : R2 := fun x y H Q => V7 x y = true /\ Q (.bl (!decide (x = y))) H
theorem jD {i j : Int} : decide (V.int i = V.int j) = (i == j) := by
 rw [Bool.eq_iff_iff]
 simp
theorem QQ {i j : Bool} : decide (V.bl i = V.bl j) = (i == j) := by
 rw [Bool.eq_iff_iff]
 simp
theorem VG {i j : Str} : decide (V.str i = V.str j) = (i == j) := by
 rw [Bool.eq_iff_iff]
 simp
theorem V5 {i j : Array UInt8} : decide (V.byt i = V.byt j) = (i.toList == j.toList) := by
 rw [Bool.eq_iff_iff]
 cases i
 cases j
 simp
section
variable {X : Cx} {a b c : Expr} {ta tb tc : TE} {pos : Pos}
theorem qQ {pins : List (Addr × Obj)} {σ : St} {H : Hp} {s : Shared} {Q : VK} {k k' : Bool} (I : Inv X pins σ H s) (q : Q (.bl k) H) (e : k = k') : EP X pins σ Q (.bool k') s := by
 subst e
 exact ⟨.bl k, H, I, rfl, q⟩
theorem Yr : OpR X (compareOp .NotEq) rNe := by
 intro pins s σ H x y v u Q I rx ry h
 obtain ⟨hs, q⟩ := h
 cases x with
 | non =>
  cases rx
  cases y with
  | non => cases ry; exact PySem.EqNone.ne_none_none (qQ I q (by simp))
  | bl j => cases ry; exact PySem.EqNone.ne_none_bool (qQ I q (by simp))
  | int j => obtain ⟨t', rfl⟩ := ry; exact PySem.EqNone.ne_none_int (qQ I q (by simp))
  | str j => obtain ⟨t', rfl⟩ := ry; exact PySem.EqNone.ne_none_str (qQ I q (by simp))
  | _ => exact absurd (show false = true from hs) Bool.false_ne_true
 | bl i =>
  cases rx
  cases y with
  | non => cases ry; exact PySem.EqNone.ne_bool_none (qQ I q (by simp))
  | bl j => cases ry; exact ne_bool (qQ I q (congrArg not QQ))
  | str j => obtain ⟨t', rfl⟩ := ry; exact PySem.EqMixed.ne_bool_str (qQ I q (by simp))
  | _ => exact absurd (show false = true from hs) Bool.false_ne_true
 | int i =>
  obtain ⟨t, rfl⟩ := rx
  cases y with
  | non => cases ry; exact PySem.EqNone.ne_int_none (qQ I q (by simp))
  | int j => obtain ⟨t', rfl⟩ := ry; exact ne_int (qQ I q (congrArg not jD))
  | str j => obtain ⟨t', rfl⟩ := ry; exact PySem.EqMixed.ne_int_str (qQ I q (by simp))
  | _ => exact absurd (show false = true from hs) Bool.false_ne_true
 | str i =>
  obtain ⟨t, rfl⟩ := rx
  cases y with
  | non => cases ry; exact PySem.EqNone.ne_str_none (qQ I q (by simp))
  | bl j => cases ry; exact PySem.EqMixed.ne_str_bool (qQ I q (by simp))
  | int j => obtain ⟨t', rfl⟩ := ry; exact PySem.EqMixed.ne_str_int (qQ I q (by simp))
  | str j => obtain ⟨t', rfl⟩ := ry; exact ne_str (qQ I q (congrArg not VG))
  | _ => exact absurd (show false = true from hs) Bool.false_ne_true
 | byt i =>
  obtain ⟨t, rfl⟩ := rx
  cases y with
  | byt j => obtain ⟨t', rfl⟩ := ry; exact PySem.W.ne_bytes (qQ I q (congrArg not V5))
  | _ => exact absurd (show false = true from hs) Bool.false_ne_true
 | _ => cases y <;> exact absurd (show false = true from hs) Bool.false_ne_true
theorem WT : OpR X (compareOp .Lt) (rI0 fun i j => .bl (decide (i < j))) := YF fun _ _ _ _ _ _ _ q => lt_int q
theorem YT : OpR X (compareOp .Gt) (rI0 fun i j => .bl (decide (j < i))) := YF fun _ _ _ _ _ _ _ q => gt_int q
theorem OpR.or {f : Value -> Value -> Sem Value} {r r' : R2} (h : OpR X f r) (h' : OpR X f r') : OpR X f (fun x y H Q => r x y H Q \/ r' x y H Q) := by
 intro pins s σ H x y v u Q I rx ry q
 rcases q with q | q
 ·exact h pins s σ H x y v u Q I rx ry q
 ·exact h' pins s σ H x y v u Q I rx ry q
theorem yw (b : Expr) {op : CmpOp} (h : op ≠ .In := by decide) (h2 : op ≠ .NotIn := by decide) : behindInMarks op b = false := by
 have e1 : (op == CmpOp.In) = false := by cases op <;> first | rfl | exact absurd rfl h
 have e2 : (op == CmpOp.NotIn) = false := by cases op <;> first | rfl | exact absurd rfl h2
 cases b <;> simp [behindInMarks, e1, e2]
theorem WB {op : CmpOp} {r : R2} (ho : OpR X (compareOp op) r) (ha : PE X a ta) (hb : PE X b tb) (hm : behindInMarks op b = false) : PE X (.Compare a [op] [b] pos) (tOp r ta tb) := by
 intro pins s σ H Q I h
 exact wpAny_Compare1 (ZI ha hb I h fun v u s2 x y H2 I2 rx ry q => ho pins s2 σ H2 x y v u Q I2 rx ry q) hm
noncomputable def Yv (t : TE) : TT := fun σ H Q => t σ H fun x H' => ∃ k, x = .bl k /\ Q k H'
theorem Wd {op : CmpOp} {r : R2} (ho : OpR X (compareOp op) r) (ha : PE X a ta) (hb : PE X b tb) (hm : behindInMarks op b = false) : PT X (.Compare a [op] [b] pos) (Yv (tOp r ta tb)) := by
 intro pins s σ H Q I h
 refine wpAny_isTrue_Compare1 (thn (ha pins s σ H _ I h) fun v s1 ⟨x, H1, I1, r1, q1⟩ => thn (hb pins s1 σ H1 _ I1 q1) fun u s2 ⟨y, H2, I2, r2, q2⟩ =>
  thn (ho pins s2 σ H2 x y v u _ I2 r1 r2 q2) fun c s3 ⟨z, H3, I3, r3, k, e, q3⟩ => ?_) hm
 subst e
 cases r3
 exact wpAny_truthy_bool ⟨H3, I3, q3⟩
theorem u0 : (sizeLine : Nat) < 2 ^ 63 := by rw [sizeLine_eq]; decide
theorem vals1 {x : V} {us : List Value} (r : Vals [x] us) : ∃ u, us = [u] /\ RelV x u := by
 cases r with
 | cons r1 r2 => cases r2; exact ⟨_, rfl, r1⟩
end
structure vh (k : Nat) (A : Around) : Prop where
 hd : A.handled = none
 dp : A.depth + 3 * k + 5 < recursionLimit
 un : A.units + 16 * k + 200 < cLine
theorem vh.mono {j k : Nat} {A : Around} (r : vh k A) (h : j <= k) : vh j A := ⟨r.hd, by have := r.dp; lia, by have := r.un; lia⟩
theorem vh.deeper {k : Nat} {A : Around} (r : vh (k + 1) A) (env : Env) : vh k (A.deeper env) :=
 ⟨r.hd, by have := r.dp; show A.depth + 1 + 3 * k + 5 < _; lia, by have := r.un; show A.units + 3 + 16 * k + 200 < _; lia⟩
theorem vh.depth {k : Nat} {A : Around} (r : vh k A) : A.depth < recursionLimit := by have := r.dp; lia
theorem vh.units {k : Nat} {A : Around} (r : vh k A) : A.units + 64 < cLine := by have := r.un; lia
noncomputable def ZE : TA := fun _ H Q => Q [] H
noncomputable def QW (ta : TE) (tr : TA) : TA := fun σ H Q => ta σ H fun x H1 => tr σ H1 fun xs H2 => Q (x :: xs) H2
section
variable {X : Cx} {e : Expr} {es : List Expr} {te : TE} {t : TA} {pos : Pos}
theorem wj : PA X [] ZE := fun _ _ _ _ H Q I h => Calls.spliced_nil ⟨[], H, I, .nil, h⟩
theorem vo (ha : PE X e te) (hr : PA X es t) (hs : starEach (e :: es) X.env = (false, eval e X.env) :: starEach es X.env := by rfl) : PA X (e :: es) (QW te t) := by
 intro pos pins s σ H Q I h
 rw [hs]
 show wpAny _ _ (spliced ((false, eval e X.env) :: backTo pos (starEach es X.env))) _ _ s
 refine Calls.spliced_cons (thn (ha pins s σ H _ I h) fun u s1 ⟨x, H1, I1, r1, q1⟩ => ?_)
 exact thn (hr pos pins s1 σ H1 _ I1 q1) fun us s2 ⟨xs, H2, I2, r2, q2⟩ => ⟨x :: xs, H2, I2, .cons r1 r2, q2⟩
noncomputable def YQ (t : TA) : TE := fun σ H Q => t σ H fun xs H1 => xs.length <= sizeLine /\ ∀ p, H1 p = none -> Q (.ref p) (upd H1 p (.lst xs))
theorem xf (h : PA X es t) : PE X (.List es pos) (YQ t) := by
 intro pins s σ H Q I hq
 refine wpAny_List_spliced (thn (h pos pins s σ H _ I hq) fun us s1 ⟨xs, H1, I1, r, z, q⟩ => ⟨by rw [<- r.length]; exact z, ?_⟩)
 have hf : H1 s1.heap.objs.size = none := I1.hok.fresh (Nat.le_refl _)
 refine ⟨.ref s1.heap.objs.size, upd H1 s1.heap.objs.size (.lst xs), I1.laid (t' := s1.toks) (fun b u e => Heap.get?_push_of_some _ e) (Nat.le_refl _) ?_, rfl, q _ hf⟩
 exact ⟨z, us, 0, r, Heap.get?_push_size _ rfl⟩
end
noncomputable abbrev Sp := List V -> Hp -> VK -> XK -> Prop
noncomputable abbrev CXT := List Env -> Hp -> Shared -> XK -> Value -> Shared -> Prop
structure uL (P : Program) (w : World) (K : PySem.W.Frag) (mg : Str -> Option Value) (base : Heap) (A : Around) (outer : List Env) (s : Shared) (H : Hp) : Prop where
 frames : A.frames = some outer
 mod : Mod K mg base
 bs : ∀ b o, base.get? b = some o -> s.heap.get? b = some o /\ H b = none
 bsz : base.objs.size <= s.heap.objs.size
 wV : s.heap.FunFrames base outer
 frf : ∀ b ∈ frs outer, H b = none
 hok : HOk P w H s.heap
 bare : AllBare s.gens
noncomputable def CE (outer : List Env) (P : Program) (w : World) (H : Hp) (s : Shared) (Q : VK) (u : Value) (s' : Shared) : Prop :=
 ∃ v H', s'.os = s.os /\ AllBare s'.gens /\ Un (frs outer) [] H H' s.heap s'.heap /\ HOk P w H' s'.heap /\ RelV v u /\ Q v H'
noncomputable def CR (CX : CXT) (outer : List Env) (P : Program) (w : World) (H : Hp) (s : Shared) (Q : VK) (E : XK) (r : Result) (s' : Shared) : Prop :=
 match r with
 | .ok (.ret u) => CE outer P w H s Q u s'
 | .ok _ => False
 | .error e => CX outer H s E e s'
structure zu (P : Program) (w : World) (K : PySem.W.Frag) (mg : Str -> Option Value) (base : Heap) (CX : CXT) (k : Nat) (f : Addr) (fd : FuncData) (ps : List Str) (sp : Sp) : Prop where
 len : ∀ vs H Q E, sp vs H Q E -> vs.length = ps.length
 run : ∀ (A : Around) (outer : List Env) (s : Shared) (H : Hp) (args : Args) (us : List Value) (vs : List V) (Q : VK) (E : XK), vh k A -> uL P w K mg base A outer s H -> BindsTo s fd args (ps.zip us) -> Vals vs us -> sp vs H Q E ->
  codeAny (model P w) A (.call (.ref f) args) (CR CX outer P w H s Q E) s
theorem zu.imp {P : Program} {w : World} {K : PySem.W.Frag} {mg : Str -> Option Value} {base : Heap} {CX : CXT} {k : Nat} {f : Addr} {fd : FuncData} {ps : List Str} {sp sp' : Sp} (F : zu P w K mg base CX k f fd ps sp)
  (h : ∀ vs H Q E, sp' vs H Q E -> sp vs H Q E) : zu P w K mg base CX k f fd ps sp' :=
 ⟨fun vs H Q E q => F.len vs H Q E (h _ _ _ _ q), fun A outer s H args us vs Q E hr he hb hv hs => F.run A outer s H args us vs Q E hr he hb hv (h _ _ _ _ hs)⟩
section
variable {X : Cx} {pins : List (Addr × Obj)} {σ : St} {H : Hp} {s s' : Shared}
theorem Inv.ZG (I : Inv X pins σ H s) : uL X.prog X.w X.K X.mg X.base X.A X.stack s H :=
 ⟨I.ok.frames, I.ok.mod, I.bs, Nat.le_trans I.ok.bsz I.sz, I.stack, I.xD, I.hok, I.bare⟩
theorem Inv.after {Q : VK} {u : Value} (I : Inv X pins σ H s) (h : CE X.stack X.prog X.w H s Q u s') : EP X pins σ Q u s' := by
 obtain ⟨v, H', os, bare, un, hok, r, q⟩ := h
 obtain ⟨hh, g, d, t, os'⟩ := s'
 obtain rfl : os' = s.os := os
 exact ⟨v, H', I.call (h' := hh) (g' := g) (d' := d) (t' := t) (ch := []) un hok bare (fun b z => absurd z (by simp)), r, q⟩
end
noncomputable def W3 (sp : Sp) (dvs : List V) (E : XK) (t : TA) : TE := fun σ H Q => t σ H fun vs H1 => sp (vs ++ dvs) H1 Q E
noncomputable def Binds (K : PySem.W.Frag) (fd : FuncData) (ps : List Str) (ds : List Value) : Prop :=
 ∀ (s : Shared) (us : List Value), K.In s.heap -> (us ++ ds).length = ps.length -> BindsTo s fd ⟨us, []⟩ (ps.zip (us ++ ds))
theorem Binds.all {K : PySem.W.Frag} {fd : FuncData} {ps : List Str} (h : ∀ us : List Value, us.length = ps.length -> bindArgs fd ⟨us, []⟩ = pure (ps.zip us)) : Binds K fd ps [] := fun s us _ hl => by
 rw [List.append_nil] at hl ⊢
 exact .of_eq (h us hl)
noncomputable def Passes (CX : CXT) (X : Cx) (E : XK) : Prop := ∀ (pins : List (Addr × Obj)) (σ : St) (H : Hp) (s : Shared) (e : Value) (s' : Shared), Inv X pins σ H s -> CX X.stack H s E e s' -> X.xe e s'
section
variable {X : Cx} {CX : CXT} {k : Nat} {f C : Addr} {fd : FuncData} {ps : List Str} {sp : Sp} {dvs : List V} {ds : List Value} {E : XK} {x m : Str} {p pos apos : Pos} {e o : Expr} {es : List Expr} {ta : TE} {t : TA}
theorem Z6 {pins : List (Addr × Obj)} {σ : St} {H : Hp} {s : Shared} {Q : VK} {us : List Value} {vs : List V} (F : zu X.prog X.w X.K X.mg X.base CX k f fd ps sp) (hr : vh k X.A) (hb : Binds X.K fd ps ds) (hd : Vals dvs ds) (hx : Passes CX X E)
  (I : Inv X pins σ H s) (r : Vals vs us) (h : sp (vs ++ dvs) H Q E) : wpAny (model X.prog X.w) X.A (call (.ref f) us) (EP X pins σ Q) X.xe s := by
 have r2 : Vals (vs ++ dvs) (us ++ ds) := r.append hd
 have hl : (us ++ ds).length = ps.length := by rw [<- r2.length]; exact F.len _ _ _ _ h
 refine wpAny_call (codeAny_mono (F.run X.A X.stack s H ⟨us, []⟩ (us ++ ds) (vs ++ dvs) Q E hr I.ZG (hb s us I.kIn hl) r2 h) fun r s' hq => ?_)
 cases r with
 | error e => exact hx pins σ H s e s' I hq
 | ok fl =>
  cases fl with
  | ret u => exact I.after hq
  | next => exact False.elim hq
  | brk => exact False.elim hq
  | cont => exact False.elim hq
theorem V6 (F : zu X.prog X.w X.K X.mg X.base CX k f fd ps sp) (hr : vh k X.A) (hg : Gl X x) (hm : X.mg x = some (.ref f)) (hk : PySem.W.keepIn X.K (.ref f) = true) (hb : Binds X.K fd ps ds) (hd : Vals dvs ds) (hx : Passes CX X E)
  (ha : PA X (e :: es) t) (hdb : (x == ("__debug__" : Str)) = false := by decide) (he : starEach (e :: es) X.env = (false, eval e X.env) :: starEach es X.env := by rfl) (hpl : (backTo pos (starEach es X.env)).any (·.1) = false := by rfl) :
  PE X (.Call (.Name x p) (e :: es) [] pos) (W3 sp dvs E t) := by
 intro pins s σ H Q I h
 refine wpAny_Call_Name_kw (za I hg hm ?_ hdb)
 refine PySem.W.callWith_K (h₀ := X.base) I.ok.mod.kin hk (thn (ha pos pins s σ H _ I h) fun us s1 ⟨vs, H1, I1, r, q⟩ => ⟨I1.kIn, ?_⟩) he hpl
 exact Z6 F hr hb hd hx I1 r q
end
structure qv (N P : List Str) (sc : Scope) : Prop where
 kind : sc.kind = .function
 co : sc.isCoroutine = false
 gen : sc.isGenerator = false
 nd : N.Nodup
 pre : N.take P.length = P
 par : ∀ x ∈ P, sc.names.lookup x = some .local \/ sc.names.lookup x = some .cell
 nofree : ∀ y ∈ sc.names, y.2 ≠ .free
theorem y8 {kindOf : Str -> Option NameKind} {x : Str} : ∀ {binds : List (Str × Value)} {m : Str -> Option Value}, (∀ v, (x, v) ∉ binds) -> bindL kindOf binds m x = m x
 | [], _, _ => rfl
 | (n, v) :: r, m, h => by
  unfold bindL
  rw [y8 fun w hw => h w (List.mem_cons_of_mem _ hw)]
  split
  ·have : x ≠ n := by rintro rfl; exact h v List.mem_cons_self
   simp [this]
  ·rfl
theorem yW {kindOf : Str -> Option NameKind} {x : Str} : ∀ {binds : List (Str × Value)} {m : Str -> Option Value}, (∀ v, (x, v) ∉ binds) -> bindC kindOf binds m x = m x
 | [], _, _ => rfl
 | (n, v) :: r, m, h => by
  unfold bindC
  rw [yW fun w hw => h w (List.mem_cons_of_mem _ hw)]
  split
  ·rfl
  ·have : x ≠ n := by rintro rfl; exact h v List.mem_cons_self
   simp [this]
theorem y4 {kindOf : Str -> Option NameKind} {x : Str} {v : Value} : ∀ {P : List Str} {vs : List Value} {i : Nat} {m : Str -> Option Value}, P.Nodup -> P[i]? = some x -> vs[i]? = some v -> kindOf x = some .local ->
  bindL kindOf (P.zip vs) m x = some v
 | [], _, _, _, _, h, _, _ => by simp at h
 | _ :: _, [], _, _, _, _, h, _ => by simp at h
 | p :: P, w :: vs, 0, m, nd, h1, h2, hk => by
  simp at h1 h2; subst h1; subst h2
  show bindL kindOf ((p, w) :: P.zip vs) m p = _
  unfold bindL
  rw [y8 fun v hv => (List.nodup_cons.mp nd).1 (List.of_mem_zip hv).1, if_pos hk]
  simp
 | p :: P, w :: vs, i + 1, m, nd, h1, h2, hk => by
  show bindL kindOf ((p, w) :: P.zip vs) m x = _
  unfold bindL
  exact y4 (i := i) (List.nodup_cons.mp nd).2 (by simpa using h1) (by simpa using h2) hk
theorem yS {kindOf : Str -> Option NameKind} {x : Str} {v : Value} : ∀ {P : List Str} {vs : List Value} {i : Nat} {m : Str -> Option Value}, P.Nodup -> P[i]? = some x -> vs[i]? = some v -> kindOf x ≠ some .local ->
  bindC kindOf (P.zip vs) m x = some v
 | [], _, _, _, _, h, _, _ => by simp at h
 | _ :: _, [], _, _, _, _, h, _ => by simp at h
 | p :: P, w :: vs, 0, m, nd, h1, h2, hk => by
  simp at h1 h2; subst h1; subst h2
  show bindC kindOf ((p, w) :: P.zip vs) m p = _
  unfold bindC
  rw [yW fun v hv => (List.nodup_cons.mp nd).1 (List.of_mem_zip hv).1, if_neg hk]
  simp
 | p :: P, w :: vs, i + 1, m, nd, h1, h2, hk => by
  show bindC kindOf ((p, w) :: P.zip vs) m x = _
  unfold bindC
  exact yS (i := i) (List.nodup_cons.mp nd).2 (by simpa using h1) (by simpa using h2) hk
noncomputable def start (N : List Str) (vs : List V) : St := vs.map some ++ List.replicate (N.length - vs.length) none
noncomputable def wg (CX : CXT) (P : Program) (w : World) (K : PySem.W.Frag) (mg : Str -> Option Value) (base : Heap) (N : List Str) (qual : Str) (scope : Scope) (f : Addr) (cd : Value) (A : Around) (outer : List Env) (s : Shared) (H : Hp) (E : XK) : Cx where
 prog := P
 w := w
 K := K
 mg := mg
 base := base
 A := A.deeper (envOfC qual scope s.heap.objs.size f cd)
 N := N
 s_0 := s
 H_0 := H
 env := envOfC qual scope s.heap.objs.size f cd
 outer := outer
 stack := envOfC qual scope s.heap.objs.size f cd :: outer
 ex := []
 calm := true
 fn := fun _ => true
 pn := []
 xe := fun e s' => wpAny (model P w) (A.deeper (envOfC qual scope s.heap.objs.size f cd)) (leaving (envOfC qual scope s.heap.objs.size f cd) e) (fun _ s'' => CX outer H s E e s'') (fun e' s'' => CX outer H s E e' s'') s'
theorem ux {sc : Scope} {n : Nat} {x : Str} (h : sc.names.lookup x = some .cell) : ∃ c, (cellsFrom n sc.names []).lookup x = some c := by
 have q := PySem.W.cellsFrom_some sc.names n [] (.inl h)
 exact Option.isSome_iff_exists.mp q
theorem y1 {CX : CXT} {P : Program} {w : World} {K : PySem.W.Frag} {mg : Str -> Option Value} {base : Heap} {N ps : List Str} {qual : Str} {scope : Scope} {f : Addr} {cd : Value} {A : Around} {outer : List Env} {s s1 : Shared} {H : Hp} {E : XK} {us : List Value} {vs : List V}
  (S : qv N ps scope) (hd : A.handled = none) (e0 : uL P w K mg base A outer s H) (hl : vs.length = ps.length) (r : Vals vs us)
  (x : InCallC s s.heap.objs.size (bindL (envOfC qual scope s.heap.objs.size f cd).kindOf (ps.zip us) fun _ => none) (cellsFrom (s.heap.objs.size + 1) scope.names []) (bindC (envOfC qual scope s.heap.objs.size f cd).kindOf (ps.zip us) fun _ => none) s1) :
  Inv (wg CX P w K mg base N qual scope f cd A outer s H E) [] (start N vs) H s1 := by
 have hpl : ps.length <= N.length := by have := congrArg List.length S.pre; rw [List.length_take] at this; lia
 obtain ⟨h1, tk, rfl, hk⟩ := x.done
 have noA : ∀ b : Addr, b ∉ (wg CX P w K mg base N qual scope f cd A outer s H E).ex := fun b z => absurd (show b ∈ ([] : List Addr) from z) (by simp)
 refine ⟨⟨e0.mod, S.kind, rfl, rfl, Nat.le_refl _, fun y z c h1 h2 => ?_, fun y hy => ?_, fun y c _ h => ?_, fun _ => hd, Around.frames_deeper e0.frames, .inr ⟨rfl, rfl⟩, fun b z => absurd z (noA b), e0.bs, e0.bsz, fun b _ _ => noA b, fun b z => absurd z (noA b), e0.wV, e0.frf⟩,
  rfl, e0.bare, Un.kept hk, ⟨_, x.toInCall.ns, fun i y v h1 h2 h3 => ?_⟩, fun y c h => ⟨_, x.cell y c h⟩, e0.hok.fresh (Nat.le_refl _), fun y c h => ?_, fun p hp => absurd (show p ∈ ([] : List (Addr × Obj)) from hp) (by simp), e0.hok.kept hk, ?_⟩
 ·exact name_of_addr x.apart (PySem.mem_of_lookup h1) (PySem.mem_of_lookup h2)
 ·have hy : scope.names.lookup y = some .cell \/ scope.names.lookup y = some .free := hy
  rcases hy with hy | hy
  ·exact ux hy
  ·exact absurd rfl (S.nofree _ (PySem.mem_of_lookup hy))
 ·exact Nat.le_of_lt (x.above y c (PySem.mem_of_lookup h))
 ·have hi : i < vs.length := by
   unfold start at h2
   by_cases hi : i < vs.length
   ·exact hi
   ·rw [List.getElem?_append_right (by simpa using hi)] at h2
    rw [List.getElem?_replicate] at h2
    split at h2 <;> cases h2
  have ha : vs[i]? = some v := by
   unfold start at h2
   rw [List.getElem?_append_left (by simpa using hi), List.getElem?_map] at h2
   cases e : vs[i]? with
   | none => rw [e] at h2; cases h2
   | some a => rw [e] at h2; cases h2; rfl
  obtain ⟨u, hu, rv⟩ := r.get ha
  have hp : ps[i]? = some y := by
   rw [<- S.pre, List.getElem?_take_of_lt (by lia)]; exact h1
  have ndP : ps.Nodup := by rw [<- S.pre]; exact S.nd.sublist (List.take_sublist _ _)
  refine ⟨u, rv, ?_⟩
  rcases S.par y (List.mem_of_getElem? hp) with k | k
  ·exact .inl ⟨k, y4 ndP hp hu k⟩
  ·obtain ⟨c, e⟩ := ux (n := s.heap.objs.size + 1) k
   refine .inr ⟨.inl k, c, e, ?_⟩
   have q := x.cell y c e
   rw [yS ndP hp hu (by show scope.names.lookup y ≠ _; rw [k]; decide)] at q
   exact q
 ·exact e0.hok.fresh (Nat.le_of_lt (x.above y c (PySem.mem_of_lookup h)))
 ·unfold start
  show _ = N.length
  rw [List.length_append, List.length_map, List.length_replicate]
  lia
theorem jl {CX : CXT} {P : Program} {w : World} {K : PySem.W.Frag} {mg : Str -> Option Value} {base : Heap} {k : Nat} {f : Addr} {name qual : Str} {params : Arguments} {body : List Stmt} {scope : Scope} {dV kV doc pm cdv ct oc : Value} {an od : Option Addr}
  {osl : Array (Option Value)} {N ps : List Str} {sp : Sp} (lk : K.lookup f = some ⟨oc, od, .func (PySem.W.fnOf name qual params body scope dV kV doc pm an cdv ct), osl⟩) (hcd : PySem.W.codeIn K cdv qual = true) (S : qv N ps scope)
  (len : ∀ vs H Q E, sp vs H Q E -> vs.length = ps.length)
  (hbody : ∀ (A : Around) (outer : List Env) (s : Shared) (H : Hp) (vs : List V) (Q : VK) (E : XK), vh k (A.deeper (envOfC qual scope s.heap.objs.size f cdv)) -> sp vs H Q E ->
   ∃ t, PSs (wg CX P w K mg base N qual scope f cdv A outer s H E) body t /\ t { nx := fun _ H' => Q .non H', rt := Q } (start N vs) H) :
  zu P w K mg base CX (k + 1) f (PySem.W.fnOf name qual params body scope dV kV doc pm an cdv ct) ps sp := by
 refine ⟨len, fun A outer s H args us vs Q E hr e0 hb r hsp => ?_⟩
 have hl := len _ _ _ _ hsp
 have KX : K.In s.heap := e0.mod.kin.keeps fun b o e => (e0.bs b o e).1
 have lim : s.heap.NoLimit := e0.mod.nolimit.keeps fun b o e => (e0.bs b o e).1
 have hkind : ∀ y ∈ ps.zip us, scope.names.lookup y.1 = some .local \/ (scope.names.lookup y.1 = some .cell /\ ((cellsFrom (s.heap.objs.size + 1) scope.names []).lookup y.1).isSome = true) := fun ⟨n, v⟩ hy => by
  rcases S.par n (List.of_mem_zip hy).1 with q | q
  ·exact .inl q
  ·exact .inr ⟨q, PySem.W.cellsFrom_some _ _ _ (.inl q)⟩
 refine codeAny_call_function hr.depth (KX _ _ lk) rfl S.co S.gen rfl (PySem.W.codeRec_of KX hcd) (hb _ _ _ _ ?_)
 refine wpAny_newFunctionEnv_cells S.kind hkind fun env he s1 x => ?_
 subst he
 refine ⟨lim.keeps x.toInCall.keep, codeAny_func ?_⟩
 obtain ⟨t, ht, hq⟩ := hbody A outer s H vs Q E (hr.deeper _) hsp
 have I : Inv (wg CX P w K mg base N qual scope f cdv A outer s H E) [] (start N vs) H s1 := y1 S hr.hd e0 hl r x
 refine wpAny_mono (ht [] s1 (start N vs) H _ I hq) (fun fl s' hs => ?_) fun e s' hs => hs
 have fin : ∀ {σ' : St} {H' : Hp} {v : V} {u : Value}, Inv (wg CX P w K mg base N qual scope f cdv A outer s H E) [] σ' H' s' -> RelV v u -> Q v H' -> CE outer P w H s Q u s' :=
  fun {σ' H' v u} J rv q => ⟨v, H', J.os, J.bare, J.base, J.hok, rv, q⟩
 cases fl with
 | ret u =>
  obtain ⟨v, σ', H', J, rv, q⟩ := hs
  exact fin J rv q
 | next =>
  obtain ⟨σ', H', J, q⟩ := hs
  exact fin (v := V.non) (u := Value.none) J rfl q
 | brk =>
  obtain ⟨_, _, _, q⟩ := hs
  exact False.elim q
 | cont =>
  obtain ⟨_, _, _, q⟩ := hs
  exact False.elim q
section
variable {X : Cx} {x : Str} {p pos : Pos} {e : Expr} {es : List Expr} {t : TA} {id T : String} {r : List V -> Hp -> VK -> Prop}
noncomputable def tCB (r : List V -> Hp -> VK -> Prop) (t : TA) : TE := fun σ H Q => t σ H fun vs H1 => r vs H1 Q
theorem zi (hc : ug X (.builtin id) r) (hg : Gl X x) (hm : X.mg x = none) (hv : bootBuiltins x = some (.builtin id)) (ha : PA X (e :: es) t) (hn : x ≠ "__name__" := by decide) (hdb : (x == ("__debug__" : Str)) = false := by decide)
  (he : starEach (e :: es) X.env = (false, eval e X.env) :: starEach es X.env := by rfl) (hpl : (backTo pos (starEach es X.env)).any (·.1) = false := by rfl) : PE X (.Call (.Name x p) (e :: es) [] pos) (tCB r t) := by
 intro pins s σ H Q I h
 refine wpAny_Call_Name_kw (yH I hg hm hv ?_ hn hdb)
 exact PyProof.Rows.callWith_builtin1 (thn (ha pos pins s σ H _ I h) fun us s1 ⟨vs, H1, I1, r1, q1⟩ => hc pins s1 σ H1 vs us Q I1 r1 q1) he hpl
theorem Qp (hc : ug X (.type T) r) (hg : Gl X x) (hm : X.mg x = none) (hv : bootBuiltins x = some (.type T)) (ha : PA X (e :: es) t) (hn : x ≠ "__name__" := by decide) (hdb : (x == ("__debug__" : Str)) = false := by decide)
  (he : starEach (e :: es) X.env = (false, eval e X.env) :: starEach es X.env := by rfl) (hpl : (backTo pos (starEach es X.env)).any (·.1) = false := by rfl) : PE X (.Call (.Name x p) (e :: es) [] pos) (tCB r t) := by
 intro pins s σ H Q I h
 refine wpAny_Call_Name_kw (yH I hg hm hv ?_ hn hdb)
 exact PyProof.Rows.callWith_type1 (thn (ha pos pins s σ H _ I h) fun us s1 ⟨vs, H1, I1, r1, q1⟩ => hc pins s1 σ H1 vs us Q I1 r1 q1) he hpl
end
noncomputable abbrev TO := St -> Hp -> (Option Int -> Hp -> Prop) -> Prop
noncomputable def PO (X : Cx) (e : Option Expr) (t : TO) : Prop :=
 ∀ (pins : List (Addr × Obj)) (s : Shared) (σ : St) (H : Hp) (Q : Option Int -> Hp -> Prop), Inv X pins σ H s -> t σ H Q ->
  wpAny (model X.prog X.w) X.A (evalPart e X.env) (fun u s' => ∃ o H', Inv X pins σ H' s' /\ IsPart u o /\ Q o H') X.xe s
noncomputable def We : TO := fun _ H Q => Q none H
noncomputable def Yw (t : TE) : TO := fun σ H Q => t σ H fun x H1 => ∃ i, x = .int i /\ Q (some i) H1
section
variable {X : Cx} {e : Expr} {te : TE} {lo hi : Option Expr} {tl th : TO} {pos p2 : Pos}
theorem VL : PO X none We := by
 intro pins s σ H Q I h
 rw [evalPart_none]
 exact wpAny_pure ⟨none, H, I, .none, h⟩
theorem VH (h : PE X e te) : PO X (some e) (Yw te) := by
 intro pins s σ H Q I hw
 rw [evalPart_some]
 refine thn (h pins s σ H _ I hw) fun u s1 ⟨x, H1, I1, r1, q1⟩ => ?_
 obtain ⟨i, rfl, q⟩ := q1
 obtain ⟨t, rfl⟩ := r1
 exact ⟨some i, H1, I1, .int i t, q⟩
end
noncomputable def ixN (n : Nat) (i : Int) : Option Nat := if 0 <= i then (if i < n then some i.toNat else none) else if -(n : Int) <= i then some (i + n).toNat else none
noncomputable def atI {α : Type} (xs : List α) (i : Int) : Option α := (ixN xs.length i).bind fun j => xs[j]?
theorem Wh {n : Nat} {i : Int} {j : Nat} (h : ixN n i = some j) : seqIndex? i n = some j /\ j < n /\ -(n : Int) <= i /\ i < n := by
 unfold ixN at h
 by_cases h0 : 0 <= i
 ·rw [if_pos h0] at h
  by_cases h1 : i < n
  ·rw [if_pos h1] at h
   have e : i.toNat = j := Option.some.inj h
   exact ⟨by rw [seqIndex_of h0 h1, e], by lia, by lia, h1⟩
  ·rw [if_neg h1] at h; cases h
 ·rw [if_neg h0] at h
  by_cases h1 : -(n : Int) <= i
  ·rw [if_pos h1] at h
   have e : (i + n).toNat = j := Option.some.inj h
   exact ⟨by rw [seqIndex_neg (by lia) h1, e], by lia, h1, by lia⟩
  ·rw [if_neg h1] at h; cases h
theorem jm {α : Type} {xs : List α} {i : Int} {v : α} (h : atI xs i = some v) : ∃ j, seqIndex? i xs.length = some j /\ xs[j]? = some v /\ j < xs.length /\ -(xs.length : Int) <= i /\ i < xs.length := by
 unfold atI at h
 cases e : ixN xs.length i with
 | none => rw [e] at h; cases h
 | some j =>
  rw [e] at h
  obtain ⟨h1, h2, h3, h4⟩ := Wh e
  exact ⟨j, h1, h, h2, h3, h4⟩
noncomputable def jq (b : Expr) : Prop := ∀ o i, subscripted b false o i = operate [o, i] (getItem o i)
noncomputable def IxR (X : Cx) (r : R2) : Prop :=
 ∀ (value slice : Expr) (pins : List (Addr × Obj)) (s : Shared) (σ : St) (H : Hp) (x y : V) (v u : Value) (Q : VK), Inv X pins σ H s -> RelV x v -> RelV y u -> r x y H Q ->
  subscripted slice false v u = operate [v, u] (getItem v u) -> wpAny (model X.prog X.w) X.A (subscriptTail value slice v u) (EP X pins σ Q) X.xe s
noncomputable def MtR (X : Cx) (id : String) (r : V -> List V -> Hp -> VK -> Prop) : Prop :=
 ∀ (pins : List (Addr × Obj)) (s : Shared) (σ : St) (H : Hp) (x : V) (xs : List V) (v : Value) (us : List Value) (Q : VK), Inv X pins σ H s -> RelV x v -> Vals xs us -> r x xs H Q ->
  wpAny (model X.prog X.w) X.A (call (.builtin id) (v :: us)) (EP X pins σ Q) X.xe s
section
variable {X : Cx} {a b : Expr} {ta tb : TE} {pos : Pos}
theorem IxR.or {r r' : R2} (h : IxR X r) (h' : IxR X r') : IxR X (fun x y H Q => r x y H Q \/ r' x y H Q) := by
 intro value slice pins s σ H x y v u Q I rx ry q hs
 rcases q with q | q
 ·exact h value slice pins s σ H x y v u Q I rx ry q hs
 ·exact h' value slice pins s σ H x y v u Q I rx ry q hs
theorem YY {r : R2} (hr : IxR X r) (ha : PE X a ta) (hb : PE X b tb) (hs : jq b) : PE X (.Subscript a b pos) (tOp r ta tb) := by
 intro pins s σ H Q I h
 exact Subscript_ (ZI ha hb I h fun v u s2 x y H2 I2 rx ry q => hr a b pins s2 σ H2 x y v u Q I2 rx ry q (hs _ _))
noncomputable def YM (K : PySem.W.Frag) : R2 := fun x y H Q => ∃ p xs i v, x = .ref p /\ y = .int i /\ SqL K H p xs /\ atI xs i = some v /\ Q v H
noncomputable def Yt (K : PySem.W.Frag) : R2 := fun x y H Q => ∃ p xs i v, x = .ref p /\ y = .int i /\ SqT K H p xs /\ atI xs i = some v /\ Q v H
theorem Wy : IxR X (YM X.K) := by
 intro value slice pins s σ H x y v u Q I rx ry h hs
 obtain ⟨p, xs, i, z, rfl, rfl, hq, he, q⟩ := h
 cases rx
 obtain ⟨t, rfl⟩ := ry
 obtain ⟨its, r, pl, hz⟩ := I.list hq
 obtain ⟨j, h1, h2, h3, h4, h5⟩ := jm he
 obtain ⟨w, ew, rw'⟩ := r.get h2
 have hl := r.length
 have hn := u0
 have fin : EP X pins σ Q w s := ⟨z, H, I, rw', q⟩
 by_cases h0 : 0 <= i
 ·have hj : i.toNat = j := by
   rw [seqIndex_of h0 h5] at h1
   exact Option.some.inj h1
  exact item_listR pl.isList h0 (by lia) (by rw [hj]; simpa using ew) fin hs
 ·have hj : (i + (its.toArray.size : Int)).toNat = j := by
   rw [seqIndex_neg (by lia) h4] at h1
   rw [List.size_toArray, <- hl]
   exact Option.some.inj h1
  exact subscriptTail_builtinR (x := w) pl.isList.typeIs slot_list_getitem.lookup
   (wpAny_getItem_list_neg (Q := fun r s' => r = w /\ EP X pins σ Q r s') pl.isList (by lia) (by rw [List.size_toArray] <;> lia) (by lia) (by rw [hj]; simpa using ew) ⟨rfl, fin⟩) hs
theorem Yj : IxR X (Yt X.K) := by
 intro value slice pins s σ H x y v u Q I rx ry h hs
 obtain ⟨p, xs, i, z, rfl, rfl, hq, he, q⟩ := h
 cases rx
 obtain ⟨t, rfl⟩ := ry
 obtain ⟨its, r, pl, hz⟩ := I.tuple hq
 obtain ⟨j, h1, h2, h3, h4, h5⟩ := jm he
 obtain ⟨w, ew, rw'⟩ := r.get h2
 have hl := r.length
 have hn := u0
 have fin : EP X pins σ Q w s := ⟨z, H, I, rw', q⟩
 exact subscriptTail_builtinR (x := w) pl.typeIs slot_tuple_getitem.lookup
  (getItem_tuple (j := j) (Q := fun r s' => r = w /\ EP X pins σ Q r s') pl (by lia) (by lia) (by rw [List.size_toArray, <- hl]; exact h1) (by simpa using ew) ⟨rfl, fin⟩) hs
theorem v7 : ug X (.builtin "len") (fun xs H Q => ∃ p ys, xs = [.ref p] /\ (SqL X.K H p ys \/ SqT X.K H p ys) /\ Q (.int ys.length) H) := by
 intro pins s σ H xs us Q I r h
 obtain ⟨p, ys, rfl, hq, q⟩ := h
 obtain ⟨u, rfl, rx⟩ := vals1 r
 cases rx
 have hn := u0
 rcases hq with hq | hq
 ·obtain ⟨its, r', pl, hz⟩ := I.list hq
  have hlen := r'.length
  exact Calls.call_len_list pl.isList (by simp only [List.size_toArray] <;> lia) ⟨.int ys.length, H, I.tok _, ⟨s.toks + 1, by rw [List.size_toArray, hlen]⟩, q⟩
 ·obtain ⟨its, r', pl, hz⟩ := I.tuple hq
  have hlen := r'.length
  exact len_tuple pl (by simp only [List.size_toArray] <;> lia) ⟨.int ys.length, H, I.tok _, ⟨s.toks + 1, by rw [List.size_toArray, hlen]⟩, q⟩
noncomputable def tyV (K : PySem.W.Frag) (T : String) (x : V) (H : Hp) : Prop := match x with
 | .str _ => T = "str"
 | .int _ => T = "int"
 | .ref p => (T = "list" /\ ∃ xs, SqL K H p xs) \/ (T = "tuple" /\ ∃ o, K.lookup p = some o /\ o.cls = .type "tuple" /\ o.dict = none) \/
   (T = "dict" /\ ((∃ kvs, H p = some (.dK kvs)) \/ ∃ kvs, H p = some (.dT kvs))) \/ (T = "set" /\ ∃ S n, H p = some (.set S n))
 | _ => False
theorem Zg {pins : List (Addr × Obj)} {σ : St} {H : Hp} {s : Shared} {T : String} {x : V} {v : Value} (I : Inv X pins σ H s) (r : RelV x v) (ty : tyV X.K T x H) :
  s.TypeIs v T /\ ∀ a, v = .ref a -> ∃ ob, s.heap.get? a = some ob /\ ob.dict = none := by
 cases x with
 | str z =>
  obtain ⟨t, rfl⟩ := r
  cases (show T = "str" from ty)
  exact ⟨typeIs_str s z t, fun _ e => nomatch e⟩
 | int i =>
  obtain ⟨t, rfl⟩ := r
  cases (show T = "int" from ty)
  exact ⟨typeIs_int s i t, fun _ e => nomatch e⟩
 | ref p =>
  cases r
  rcases ty with ⟨rfl, xs, hq⟩ | ⟨rfl, o, hk, hc, hd⟩ | ⟨rfl, hk⟩ | ⟨rfl, S, n, hk⟩
  ·obtain ⟨its, _, pl, _⟩ := I.list hq
   refine ⟨pl.isList.typeIs, fun a e => ?_⟩
   cases e
   obtain ⟨o, n, e, c, hd, _⟩ := pl
   exact ⟨o, e, hd⟩
  ·refine ⟨⟨o, I.kIn p o hk, hc⟩, fun a e => ?_⟩
   cases e
   exact ⟨o, I.kIn _ o hk, hd⟩
  ·have z : ∃ o, s.heap.get? p = some o /\ o.ExactDict := by
    rcases hk with ⟨kvs, hk⟩ | ⟨kvs, hk⟩
    ·obtain ⟨_, _, _, _, o, _, _, e, ex, _⟩ := I.hok p _ hk
     exact ⟨o, e, ex⟩
    ·obtain ⟨_, _, _, _, o, _, _, e, ex, _⟩ := I.hok p _ hk
     exact ⟨o, e, ex⟩
   obtain ⟨o, e, ex⟩ := z
   refine ⟨⟨o, e, ex.1⟩, fun a e2 => ?_⟩
   cases e2
   exact ⟨o, e, ex.2.1⟩
  ·obtain ⟨o, _, _, _, e, ex, _⟩ := I.hok p _ hk
   refine ⟨⟨o, e, ex.1⟩, fun a e2 => ?_⟩
   cases e2
   exact ⟨o, e, ex.2.1⟩
 | _ => exact False.elim ty
noncomputable def tBM (K : PySem.W.Frag) (T : String) (r : V -> List V -> Hp -> VK -> Prop) (to : TE) (t : TA) : TE := fun σ H Q => to σ H fun x H1 => tyV K T x H1 /\ t σ H1 fun xs H2 => r x xs H2 Q
variable {o e : Expr} {es : List Expr} {to : TE} {t : TA} {name : Str} {apos cpos : Pos} {T id : String} {r : V -> List V -> Hp -> VK -> Prop}
theorem YW (pa : PlainAttrs T) (slot : Slot T name id) (hty : typeOf (.builtin id) = pure (.type "method_descriptor")) (hm : MtR X id r) (ho : PE X o to) (ha : PA X (e :: es) t)
  (hbase : attributeBase o name X.env (eval o X.env) = eval o X.env := by rfl)
  (hfew : ((backTo cpos (starEach (e :: es) X.env)).all (fun x => !x.1) && (backToKw cpos (keywordEach [] X.env)).all (fun x => x.1.isSome)
   && decide ((e :: es).length + ([] : List Keyword).length + (if ([] : List Keyword).isEmpty then 0 else 1) < 30)) = true := by rfl)
  (hline : (apos.endLine == cpos.line) = true := by rfl) (hs : starEach (e :: es) X.env = (false, eval e X.env) :: starEach es X.env := by rfl) (hplain : (backTo cpos (starEach es X.env)).any (·.1) = false := by rfl) :
  PE X (.Call (.Attribute o name apos) (e :: es) [] cpos) (tBM X.K T r to t) := by
 intro pins s σ H Q I h
 refine wpAny_Call_method_late hbase hfew hline rfl (thn (ho pins s σ H _ I h) fun v s1 ⟨x, H1, I1, r1, ty, q1⟩ => ?_)
 obtain ⟨h1, h2⟩ := Zg I1 r1 ty
 refine ⟨T, id, pa, slot, hty, h1, h2, ?_⟩
 have hA := ha cpos pins s1 σ H1 _ I1 q1
 rw [hs] at hA ⊢
 refine Calls.callWith_builtin (by show (false || (backTo cpos (starEach es X.env)).any (·.1)) = false; rw [hplain] <;> rfl) (Calls.evalArgs_plain ?_)
 exact thn hA fun us s2 ⟨vs, H2, I2, r2, q2⟩ => hm pins s2 σ H2 x vs v us Q I2 r1 r2 q2
end
noncomputable def MtM (X : Cx) (id : String) (r : V -> List V -> Hp -> VK -> Prop) : Prop :=
 ∀ (pins : List (Addr × Obj)) (s : Shared) (σ : St) (H : Hp) (x : V) (xs : List V) (v : Value) (us : List Value) (Q : VK), Inv X pins σ H s -> RelV x v -> Vals xs us -> r x xs H Q ->
  wpAny (model X.prog X.w) X.A (call (.builtin id) (v :: us)) (EP X pins σ Q) X.xe s
theorem Vals.one : ∀ {x : V} {us : List Value}, Vals [x] us -> ∃ u, us = [u] /\ RelV x u
 | _, _, .cons r .nil => ⟨_, rfl, r⟩
theorem Vals.rep {xs : List V} {us : List Value} (h : Vals xs us) : ∀ k : Nat, Vals (List.replicate k xs).flatten (List.replicate k us).flatten
 | 0 => .nil
 | k + 1 => by
  rw [List.replicate_succ, List.replicate_succ, List.flatten_cons, List.flatten_cons]
  exact Vals.append h (Vals.rep h k)
theorem foldl_rep (its : List Value) : ∀ (k : Nat) (acc : List Value),
  List.foldl (fun x1 x2 => x1 ++ x2) acc.toArray (List.replicate k its.toArray) = (acc ++ (List.replicate k its).flatten).toArray
 | 0, acc => by simp
 | k + 1, acc => by
  have e : acc.toArray ++ its.toArray = (acc ++ its).toArray := by simp
  have e2 : (acc ++ its) ++ (List.replicate k its).flatten = acc ++ (List.replicate (k + 1) its).flatten := by
   rw [List.replicate_succ, List.flatten_cons, List.append_assoc]
  rw [<- e2, <- foldl_rep its k (acc ++ its), <- e, List.replicate_succ, List.foldl_cons]
section
variable {X : Cx} {pins : List (Addr × Obj)} {σ : St} {H : Hp} {s : Shared} {l b : Addr} {xs ys zs : List V}
theorem Inv.ZS {its its' : List Value} {n : Nat} {f : Array Value -> Array Value} {t' : Nat} (I : Inv X pins σ H s) (hH : H l = some (.lst xs))
  (e : s.heap.get? l = some { cls := .type "list", data := .seq its.toArray n }) (hf : f its.toArray = its'.toArray) (hv : Vals ys its') (hz : ys.length <= sizeLine) :
  Inv X pins σ (upd H l (.lst ys)) { s with heap := s.heap.update l (Obj.mapSeq f), toks := t' } := by
 have q := PySem.IsL.update e f
 rw [hf] at q
 refine I.write (x := l) (e := l) (by rw [hH]; exact trivial) (.inl rfl) (fun b' u hb hu => (Heap.get?_update_other s.heap (Obj.mapSeq f) (Ne.symm hb)).trans hu) ⟨_, q⟩ ?_
 exact ⟨hz, its', _, hv, q⟩
theorem Inv.VW {its : List Value} {t' : Nat} (I : Inv X pins σ H s) (hv : Vals ys its) (hz : ys.length <= sizeLine) :
  Inv X pins σ (upd H s.heap.objs.size (.lst ys)) { s with heap := s.heap.push { cls := .type "list", data := .seq its.toArray }, toks := t' } :=
 I.laid (fun _ _ q => Heap.get?_push_of_some _ q) (Nat.le_refl _) ⟨hz, its, 0, hv, Heap.get?_push_size _ rfl⟩
theorem Inv.fresh (I : Inv X pins σ H s) : H s.heap.objs.size = none := I.hok.fresh (Nat.le_refl _)
theorem Inv.je (I : Inv X pins σ H s) (hH : H l = some (.lst xs)) : xs.length <= sizeLine /\ ∃ (its : List Value) (n : Nat), Vals xs its /\ xs.length = its.length /\ s.heap.get? l = some { cls := .type "list", data := .seq its.toArray n } := by
 obtain ⟨z, its, n, r, e⟩ := I.hok l _ hH
 exact ⟨z, its, n, r, r.length, e⟩
theorem yF {n : Nat} (h : n <= sizeLine) : Builtin.List.listTooLong n = false := by
 unfold Builtin.List.listTooLong
 exact decide_eq_false (by lia)
end
section
variable {X : Cx}
noncomputable def WC : V -> List V -> Hp -> VK -> Prop := fun x vs H Q => ∃ l xs y, x = .ref l /\ vs = [y] /\ H l = some (.lst xs) /\ xs.length < sizeLine /\ Q .non (upd H l (.lst (xs ++ [y])))
theorem Yl : MtM X "list.append" WC := by
 intro pins s σ H x vs v us Q I rx rv h
 obtain ⟨l, xs, y, rfl, rfl, hH, hz, q⟩ := h
 cases rx
 obtain ⟨u, rfl, ru⟩ := rv.one
 obtain ⟨z, its, n, r, hl, e⟩ := I.je hH
 refine call_meets F.slot_list_append ⟨_, e, rfl⟩ F.entry_list_append (F.args_list_append_2 _ _) (PySem.list_append l its.toArray n u (by rw [List.size_toArray]; lia)) ⟨e, ?_⟩
 refine ⟨.non, _, I.ZS (its' := its ++ [u]) hH e (by simp) (r.append (.cons ru .nil)) ?_, rfl, q⟩
 rw [List.length_append, List.length_singleton]
 lia
noncomputable def WI : V -> List V -> Hp -> VK -> Prop := fun x vs H Q => ∃ l b xs zs, x = .ref l /\ vs = [.ref b] /\ H l = some (.lst xs) /\ H b = some (.lst zs) /\ xs.length + zs.length <= sizeLine /\ Q .non (upd H l (.lst (xs ++ zs)))
theorem Yn : MtM X "list.extend" WI := by
 intro pins s σ H x vs v us Q I rx rv h
 obtain ⟨l, b, xs, zs, rfl, rfl, hH, hB, hz, q⟩ := h
 cases rx
 obtain ⟨u, rfl, ru⟩ := rv.one
 cases ru
 obtain ⟨z, its, n, r, hl, e⟩ := I.je hH
 obtain ⟨z2, its2, n2, r2, hl2, e2⟩ := I.je hB
 have hsz : its.toArray.size + its2.toArray.size <= sizeLine := by rw [List.size_toArray, List.size_toArray]; lia
 have hlong : ¬ (!its.toArray.isEmpty && Builtin.List.listTooLong (its.toArray.size + its2.toArray.size)) = true := by
  rw [yF hsz, Bool.and_false]
  exact Bool.false_ne_true
 refine call_meets F.slot_list_extend ⟨_, e, rfl⟩ F.entry_list_extend (F.args_list_extend_2 _ _)
  (AutoSeq1.list_extend_list_list_0 l its.toArray n b its2.toArray n2 hlong (by rw [List.size_toArray]; lia) (by lia)) ⟨e, e2, ?_⟩
 refine ⟨.non, _, I.ZS (its' := its ++ its2) hH e (by simp) (r.append r2) ?_, rfl, q⟩
 rw [List.length_append]
 lia
noncomputable def YX : R2 := fun x y H Q => ∃ l b xs zs, x = .ref l /\ y = .ref b /\ H l = some (.lst xs) /\ H b = some (.lst zs) /\ xs.length + zs.length <= sizeLine /\ ∀ p, H p = none -> Q (.ref p) (upd H p (.lst (xs ++ zs)))
theorem ZU : OpR X (binaryOp .Add) YX := by
 intro pins s σ H x y v u Q I rx ry h
 obtain ⟨l, b, xs, zs, rfl, rfl, hH, hB, hz, q⟩ := h
 cases rx
 cases ry
 obtain ⟨z, its, n, r, hl, e⟩ := I.je hH
 obtain ⟨z2, its2, n2, r2, hl2, e2⟩ := I.je hB
 refine PySem.P.add_list e e2 ?_ (by rw [List.size_toArray, List.size_toArray]; lia)
 have ea : its.toArray ++ its2.toArray = (its ++ its2).toArray := by simp
 rw [ea]
 exact ⟨.ref _, _, I.VW (t' := s.toks) (r.append r2) (by rw [List.length_append]; lia), rfl, q _ I.fresh⟩
noncomputable def YC : R2 := fun x y H Q => ∃ l k xs, x = .ref l /\ y = .int k /\ H l = some (.lst xs) /\ -(2 ^ 63) <= k /\ k < 2 ^ 63 /\ xs.length * k.toNat <= sizeLine /\
 ∀ p, H p = none -> Q (.ref p) (upd H p (.lst (List.replicate k.toNat xs).flatten))
theorem len_rep {α : Type} (xs : List α) (k : Nat) : (List.replicate k xs).flatten.length = k * xs.length := by
 induction k with
 | zero => simp
 | succ k ih => rw [List.replicate_succ, List.flatten_cons, List.length_append, ih, Nat.succ_mul, Nat.add_comm]
theorem Zo : OpR X (binaryOp .Mult) YC := by
 intro pins s σ H x y v u Q I rx ry h
 obtain ⟨l, k, xs, rfl, rfl, hH, h1, h2, hz, q⟩ := h
 cases rx
 obtain ⟨t, rfl⟩ := ry
 obtain ⟨z, its, n, r, hl, e⟩ := I.je hH
 have hlen : its.toArray.size * k.toNat <= sizeLine := by rw [List.size_toArray, <- hl]; exact hz
 have hcap : ¬ its.toArray.size * k.toNat > (2 ^ 63 - 1) / 8 := by
  have : (sizeLine : Nat) <= (2 ^ 63 - 1) / 8 := by decide
  lia
 have hfit : ¬ (!Builtin.List.listFitsIndex k) = true := by
  rw [fitsIndex_both h1 h2]
  exact Bool.false_ne_true
 have hlong : ¬ Builtin.List.listTooLong (its.toArray.size * k.toNat) = true := by
  rw [yF hlen]
  exact Bool.false_ne_true
 have hnew : List.foldl (fun x1 x2 => x1 ++ x2) #[] (List.replicate (if its.toArray.isEmpty = true then 0 else k.toNat) its.toArray) = (List.replicate k.toNat its).flatten.toArray := by
  have f0 : ∀ m : Nat, List.foldl (fun x1 x2 => x1 ++ x2) #[] (List.replicate m its.toArray) = (List.replicate m its).flatten.toArray := fun m => by
   have := foldl_rep its m []
   rw [List.nil_append] at this
   exact this
  rw [f0]
  cases its with
  | nil => simp
  | cons a r' => rw [if_neg (by simp)]
 refine wpAny_binaryOp_repeat_ref (T := "list") (U := "int") (by decide) ⟨_, e, rfl⟩ (fun s' => typeIs_int s' k t) noFill_list_mul F.fills_int_mul F.slot_int_rmul repeat_list F.slot_int_index.lookup
  (call_meets F.slot_int_rmul (typeIs_int s k t) F.entry_int_rmul (F.args_int_rmul_2 _ _) (int___rmul___int_list k t l its.toArray n)
   ⟨e, rfl, ⟨_, e, rfl⟩, call_meets F.slot_list_mul ⟨_, e, rfl⟩ F.entry_list_mul (F.args_list_mul_2 _ _) (AutoListH.list___mul___list_int_3 l its.toArray n k t hfit hcap hlong) ⟨e, ?_⟩⟩)
 rw [hnew]
 exact ⟨.ref _, _, I.VW (t' := s.toks) (r.rep k.toNat) (by rw [len_rep, Nat.mul_comm]; exact hz), rfl, q _ I.fresh⟩
end
theorem Vals.ints : ∀ {ns : List Int} {us : List Value}, Vals (ns.map V.int) us -> IntsAre us ns
 | [], us, h => by
  rw [List.map_nil] at h
  cases h
  exact IntsAre.nil
 | n :: ns, us, h => by
  rw [List.map_cons] at h
  cases h with
  | cons r t =>
   obtain ⟨k, rfl⟩ := r
   exact IntsAre.cons n k (Vals.ints t)
theorem w8 : ∀ {us : List Value} {ns : List Int}, IntsAre us ns -> Vals (ns.map V.int) us
 | _, _, .nil => by rw [List.map_nil]; exact Paired.nil
 | _, _, .cons n t h => by rw [List.map_cons]; exact Paired.cons (show RelV (V.int n) (Value.int n t) from ⟨t, rfl⟩) (w8 h)
theorem Vals.Yu {a : Addr} {us : List Value} (r : Vals [V.ref a] us) : us = [Value.ref a] := by
 cases r with
 | cons r t =>
  cases t
  cases r
  rfl
section
variable {X : Cx}
noncomputable def jr (K : PySem.W.Frag) : List V -> Hp -> VK -> Prop := fun vs H Q => ∃ (a : Addr) (ns : List Int), vs = [V.ref a] /\ SqL K H a (ns.map V.int) /\ ns.length < 64 /\
 ∀ (ns' : List Int) (p : Addr), ns'.Perm ns -> ns'.Pairwise (· <= ·) -> H p = none -> Q (.ref p) (upd H p (.lst (ns'.map V.int)))
theorem Wa {n : Nat} (h : n < 64) : n <= sizeLine := by rw [sizeLine_eq]; lia
theorem jX : ug X (.builtin "sorted") (jr X.K) := by
 intro pins s σ H vs us Q I r h
 obtain ⟨a, ns, rfl, hs, h64, q⟩ := h
 obtain ⟨its, rv, hl, _⟩ := I.list hs
 rw [Vals.Yu r]
 have hi := rv.ints
 refine PyProof.Rows.sorted_ints hl.isList hi (by rw [hi.length]; exact h64) fun out ns' h1 h2 h3 => ?_
 obtain ⟨ep, he'⟩ := PyProof.Rows.sortedAll_at s.heap its out
 have hlen : (ns'.map V.int).length <= sizeLine := by rw [List.length_map, h2.length_eq]; exact Wa h64
 exact ⟨.ref _, upd H (s.heap.objs.size + 1) (.lst (ns'.map V.int)), I.laid (t' := s.toks) (fun _ _ => PyProof.Rows.sortedAll_old) (Nat.le_succ _) ⟨hlen, out.toList, ep, w8 h1, he'⟩, rfl, q ns' _ h2 h3 (I.hok.fresh (Nat.le_succ _))⟩
end
mutual
inductive Dp (K : PySem.W.Frag) (H : Hp) : V -> PyData -> Prop
 | non : Dp K H .non .none
 | bl (b : Bool) : Dp K H (.bl b) (.bool b)
 | int (i : Int) : Dp K H (.int i) (.int i)
 | str (x : Str) : Dp K H (.str x) (.str x)
 | lst {a : Addr} {xs : List V} {ds : List PyData} : SqL K H a xs -> yf K H xs ds -> Dp K H (.ref a) (.list ds)
 | tup {a : Addr} {xs : List V} {ds : List PyData} : SqT K H a xs -> yf K H xs ds -> Dp K H (.ref a) (.tuple ds)
inductive yf (K : PySem.W.Frag) (H : Hp) : List V -> List PyData -> Prop
 | nil : yf K H [] []
 | cons {v : V} {vs : List V} {d : PyData} {ds : List PyData} : Dp K H v d -> yf K H vs ds -> yf K H (v :: vs) (d :: ds)
end
section
variable {X : Cx} {pins : List (Addr × Obj)} {σ : St} {H : Hp} {s : Shared}
mutual
theorem Dp.reads (I : Inv X pins σ H s) : ∀ (d : PyData) (v : V) (u : Value), Dp X.K H v d -> RelV v u -> ∃ as, Reads s.heap u d as
 | .none, _, _, h, r => by
  cases h
  cases r
  exact ⟨_, Reads.none⟩
 | .bool b, _, _, h, r => by
  cases h
  cases r
  exact ⟨_, Reads.bool b⟩
 | .int i, _, _, h, r => by
  cases h
  obtain ⟨t, rfl⟩ := r
  exact ⟨_, Reads.int i t⟩
 | .str x, _, _, h, r => by
  cases h
  obtain ⟨t, rfl⟩ := r
  exact ⟨_, Reads.str x t⟩
 | .list ds, _, _, h, r => by
  cases h with
  | lst hs ha =>
   cases r
   obtain ⟨its, rv, ⟨o, n, ho, hc, _, hd⟩, _⟩ := I.list hs
   obtain ⟨as, hr⟩ := Dp.readsAll I ds _ its ha rv
   exact ⟨_, Reads.list ho hc hd hr⟩
 | .tuple ds, _, _, h, r => by
  cases h with
  | tup hs ha =>
   cases r
   obtain ⟨its, rv, ⟨o, ho, hc, n, hd⟩, _⟩ := I.tuple hs
   obtain ⟨as, hr⟩ := Dp.readsAll I ds _ its ha rv
   exact ⟨_, Reads.tuple ho hc hd hr⟩
 | .dict _, _, _, h, _ => by cases h
theorem Dp.readsAll (I : Inv X pins σ H s) : ∀ (ds : List PyData) (vs : List V) (us : List Value), yf X.K H vs ds -> Vals vs us -> ∃ as, ReadsAll s.heap us ds as
 | [], _, _, h, r => by
  cases h
  cases r
  exact ⟨_, ReadsAll.nil⟩
 | d :: ds, _, _, h, r => by
  cases h with
  | cons h1 h2 =>
   cases r with
   | cons r1 r2 =>
    obtain ⟨as, q1⟩ := Dp.reads I d _ _ h1 r1
    obtain ⟨bs, q2⟩ := Dp.readsAll I ds _ _ h2 r2
    exact ⟨_, ReadsAll.cons q1 q2⟩
end
end
section
variable {X : Cx}
noncomputable def Zb (K : PySem.W.Frag) : R2 := fun x y H Q => ∃ d e, Dp K H x d /\ Dp K H y e /\ SeqAt.shaped d = true /\ SeqAt.shaped e = true /\ Q (.bl (!PyData.eqv d e)) H
theorem W5 (hu : X.A.units + 64 < cLine) : OpR X (compareOp .NotEq) (Zb X.K) := by
 intro pins s σ H x y v u Q I rx ry h
 obtain ⟨d, e, hd, he, sd, se, q⟩ := h
 obtain ⟨as, r1⟩ := Dp.reads I d x v hd rx
 obtain ⟨bs, r2⟩ := Dp.reads I e y u he ry
 exact SeqAt.compareNe_shaped r1 r2 sd se hu ⟨.bl _, H, I, rfl, q⟩
end
noncomputable abbrev QT (h : Heap) (c : Addr) (v : Option Value) : Prop := h.IsCell c v
noncomputable def Xd (scope sc : Scope) : Scope :=
 { scope with names := scope.names.map fun (n, k) => if (k == .free && sc.kind == .function && sc.names.lookup n == some .cell) then (n, .cell) else (n, k) }
noncomputable def qj (cells : List (Str × Addr)) : List (Str × NameKind) -> List (Str × Addr) -> List (Str × Addr)
 | [], acc => acc
 | (n, k) :: r, acc => if k == .free then qj cells r ((n, (cells.lookup n).getD 0) :: acc) else qj cells r acc
theorem zj (env : Env) (f : Str × NameKind -> List (Str × Addr) -> Sem (ForInStep (List (Str × Addr))))
  (hf : ∀ n k c, f (n, k) c = if k == .free then (do let a <- cellOf env n; pure (.yield ((n, a) :: c))) else pure (.yield c)) :
  ∀ (names : List (Str × NameKind)) (acc : List (Str × Addr)), (∀ y ∈ names, y.2 = .free -> ∃ c, env.cells.lookup y.1 = some c) -> forIn names acc f = pure (qj env.cells names acc)
 | [], acc, _ => by rw [List.forIn_nil]; rfl
 | (n, k) :: r, acc, h => by
  rw [List.forIn_cons, hf]
  have ih := fun acc => zj env f hf r acc fun y hy => h y (List.mem_cons_of_mem _ hy)
  unfold qj
  by_cases hk : (k == NameKind.free) = true
  ·rw [if_pos hk, if_pos hk]
   obtain ⟨c, hc⟩ := h (n, k) List.mem_cons_self (by simpa using hk)
   have e : cellOf env n = pure c := by unfold cellOf; rw [hc]
   rw [e]
   have e2 : (env.cells.lookup n).getD 0 = c := by rw [hc]; rfl
   rw [e2]
   exact ih _
  ·rw [if_neg hk, if_neg hk]
   exact ih _
theorem yq {scope : Scope} {env : Env} (h : ∀ y ∈ scope.names, y.2 = .free -> ∃ c, env.cells.lookup y.1 = some c) : closureFor scope env = pure (qj env.cells scope.names []) := by
 simp only [closureFor]
 rw [zj env _ (fun n k c => rfl) scope.names [] h]
 rfl
theorem mem_lookup {α : Type} : ∀ {l : List (Str × α)} {n : Str} {c : α}, (n, c) ∈ l -> ∃ c', l.lookup n = some c'
 | (k, v) :: r, n, c, h => by
  rw [List.lookup_cons]
  cases hb : n == k with
  | true => exact ⟨_, rfl⟩
  | false =>
   rcases List.mem_cons.mp h with e | h
   ·cases e; simp at hb
   ·exact mem_lookup h
theorem vt {cells : List (Str × Addr)} : ∀ {names : List (Str × NameKind)} {acc : List (Str × Addr)} {n : Str} {c : Addr}, (n, c) ∈ qj cells names acc -> (n, c) ∈ acc \/ ((n, .free) ∈ names /\ c = (cells.lookup n).getD 0)
 | [], _, _, _, h => .inl h
 | (m, k) :: r, acc, n, c, h => by
  unfold qj at h
  split at h
  ·rename_i hk
   have hk : k = .free := by simpa using hk
   rcases vt h with h | ⟨h1, h2⟩
   ·rcases List.mem_cons.mp h with e | h
    ·cases e; exact .inr ⟨hk ▸ List.mem_cons_self, rfl⟩
    ·exact .inl h
   ·exact .inr ⟨List.mem_cons_of_mem _ h1, h2⟩
  ·rcases vt h with h | ⟨h1, h2⟩
   ·exact .inl h
   ·exact .inr ⟨List.mem_cons_of_mem _ h1, h2⟩
theorem wt {cells : List (Str × Addr)} : ∀ {names : List (Str × NameKind)} {acc : List (Str × Addr)} {p : Str × Addr}, p ∈ acc -> p ∈ qj cells names acc
 | [], _, _, h => h
 | (m, k) :: r, acc, p, h => by
  unfold qj
  split
  ·exact wt (List.mem_cons_of_mem _ h)
  ·exact wt h
theorem vM {cells : List (Str × Addr)} : ∀ {names : List (Str × NameKind)} {acc : List (Str × Addr)} {n : Str}, (n, .free) ∈ names -> (n, (cells.lookup n).getD 0) ∈ qj cells names acc
 | (m, k) :: r, acc, n, h => by
  unfold qj
  rcases List.mem_cons.mp h with e | h
  ·cases e
   exact wt List.mem_cons_self
  ·split
   ·exact vM h
   ·exact vM h
theorem vZ : ∀ {names : List (Str × NameKind)} {h : Heap} {acc : List (Str × Addr)} {x : Str} {c : Addr}, (x, c) ∈ cellsFrom h.objs.size names acc ->
  (x, c) ∈ acc \/ ((x, .cell) ∈ names /\ h.objs.size <= c /\ QT (pushCells h names) c none)
 | [], _, _, _, _, h => .inl h
 | (n, k) :: r, h, acc, x, c, hm => by
  unfold cellsFrom at hm
  unfold pushCells
  split at hm
  ·rename_i hk
   rw [if_pos hk]
   have hk : k = .cell := by simpa using hk
   rw [<- Heap.size_push h { cls := .type "cell", data := .cell none }] at hm
   rcases vZ hm with hm | ⟨h1, h2, h3⟩
   ·rcases List.mem_cons.mp hm with e | hm
    ·cases e
     exact .inr ⟨hk ▸ List.mem_cons_self, Nat.le_refl _, _, pushCells_keeps r _ _ _ (Heap.get?_push_size _ rfl), rfl⟩
    ·exact .inl hm
   ·rw [Heap.size_push] at h2
    exact .inr ⟨List.mem_cons_of_mem _ h1, Nat.le_of_succ_le h2, h3⟩
  ·rename_i hk
   rw [if_neg hk]
   rcases vZ hm with hm | ⟨h1, h2, h3⟩
   ·exact .inl hm
   ·exact .inr ⟨List.mem_cons_of_mem _ h1, h2, h3⟩
theorem wI : ∀ {names : List (Str × NameKind)} {n : Nat} {acc : List (Str × Addr)} {p : Str × Addr}, p ∈ acc -> p ∈ cellsFrom n names acc
 | [], _, _, _, h => h
 | (m, k) :: r, n, acc, p, h => by
  unfold cellsFrom
  split
  ·exact wI (List.mem_cons_of_mem _ h)
  ·exact wI h
theorem zp : ∀ {names : List (Str × NameKind)} {n : Nat} {acc : List (Str × Addr)} {x : Str}, (x, .cell) ∈ names -> ∃ c, (x, c) ∈ cellsFrom n names acc
 | (m, k) :: r, n, acc, x, h => by
  unfold cellsFrom
  rcases List.mem_cons.mp h with e | h
  ·cases e
   exact ⟨n, wI List.mem_cons_self⟩
  ·split
   ·exact zp h
   ·exact zp h
theorem zm : ∀ {names : List (Str × NameKind)} {h : Heap} {acc : List (Str × Addr)} {x y : Str} {c : Addr}, (∀ p ∈ acc, p.2 < h.objs.size) -> (∀ x y c, (x, c) ∈ acc -> (y, c) ∈ acc -> x = y) ->
  (x, c) ∈ cellsFrom h.objs.size names acc -> (y, c) ∈ cellsFrom h.objs.size names acc -> x = y
 | [], _, _, _, _, _, _, hi, h1, h2 => hi _ _ _ h1 h2
 | (n, k) :: r, h, acc, x, y, c, hl, hi, h1, h2 => by
  unfold cellsFrom at h1 h2
  split at h1
  ·rename_i hk
   rw [if_pos hk] at h2
   rw [<- Heap.size_push h { cls := .type "cell", data := .cell none }] at h1 h2
   refine zm (h := h.push _) (fun p hp => ?_) (fun x y c a b => ?_) h1 h2
   ·rw [Heap.size_push]
    rcases List.mem_cons.mp hp with rfl | hp
    ·exact Nat.lt_succ_self _
    ·exact Nat.lt_succ_of_lt (hl p hp)
   ·rcases List.mem_cons.mp a with e | a <;> rcases List.mem_cons.mp b with e' | b
    ·cases e; cases e'; rfl
    ·cases e; exact absurd (hl _ b) (Nat.lt_irrefl _)
    ·cases e'; exact absurd (hl _ a) (Nat.lt_irrefl _)
    ·exact hi _ _ _ a b
  ·rename_i hk
   rw [if_neg hk] at h2
   exact zm hl hi h1 h2
theorem uC {M : Model} {A : Around} {E : Value -> Shared -> Prop} {s : Shared} {scope : Scope} {globals : Addr} {closure : List (Str × Addr)} {qual : Str} {func : Option Addr} {code : Value} {around : Env} {builtins : Addr} {Q : Env -> Shared -> Prop}
  (h : Q (newEnv scope s.heap.objs.size globals (cellsFrom (s.heap.objs.size + 1) scope.names closure) qual func code (some around) builtins)
   { s with heap := pushCells (s.heap.push { cls := .type "dict", data := .dict #[] }) scope.names }) :
  wpAny M A (newFunctionEnv scope globals closure [] qual func code (some around) builtins) Q E s := by
 simp only [newFunctionEnv, Option.isSome_some, if_true]
 refine wpAny_bind (wpAny_alloc ?_)
 refine wpAny_bind (wpAny_layCells _ (fun n k c => rfl) scope.names closure _ _ ?_)
 rw [show ({ s with heap := s.heap.push { cls := .type "dict", data := .dict #[] } } : Shared).heap.objs.size = s.heap.objs.size + 1 from Heap.size_push ..]
 rw [List.forIn_nil]
 exact wpAny_bind (wpAny_pure (wpAny_pure h))
theorem wq {sc : Scope} : ∀ {names : List (Str × NameKind)} {x : Str} {k : NameKind},
  (names.map fun (n, k) => if (k == NameKind.free && sc.kind == .function && sc.names.lookup n == some .cell) then (n, NameKind.cell) else (n, k)).lookup x = some k ->
  ∃ k', names.lookup x = some k' /\ (k = k' \/ (k' = .free /\ k = .cell))
 | [], _, _, h => by simp at h
 | (n, k₀) :: r, x, k, h => by
  have ih := @wq sc r x k
  have h' : List.lookup x ((if (k₀ == NameKind.free && sc.kind == .function && sc.names.lookup n == some .cell) = true then (n, NameKind.cell) else (n, k₀)) :: (r.map _)) = some k := h
  cases hx : x == n with
  | true =>
   simp only [List.lookup_cons, hx]
   by_cases hc : (k₀ == NameKind.free && sc.kind == .function && sc.names.lookup n == some .cell) = true
   ·rw [if_pos hc] at h'
    simp only [List.lookup_cons, hx] at h'
    cases h'
    simp only [Bool.and_eq_true, beq_iff_eq] at hc
    exact ⟨k₀, rfl, .inr ⟨hc.1.1, rfl⟩⟩
   ·rw [if_neg hc] at h'
    simp only [List.lookup_cons, hx] at h'
    cases h'
    exact ⟨_, rfl, .inl rfl⟩
  | false =>
   simp only [List.lookup_cons, hx]
   by_cases hc : (k₀ == NameKind.free && sc.kind == .function && sc.names.lookup n == some .cell) = true
   ·rw [if_pos hc] at h'
    simp only [List.lookup_cons, hx] at h'
    exact ih h'
   ·rw [if_neg hc] at h'
    simp only [List.lookup_cons, hx] at h'
    exact ih h'
structure jL (N : List Str) (sc scope : Scope) (own : List (Str × Nat)) : Prop where
 kind : scope.kind = .function
 uniq : ∀ y ∈ scope.names, scope.names.lookup y.1 = some y.2
 ix : ∀ p ∈ own, N[p.2]? = some p.1
 free : ∀ y ∈ scope.names, y.2 = .free -> sc.names.lookup y.1 = some .cell \/ sc.names.lookup y.1 = some .free
 own : ∀ y ∈ scope.names, y.2 = .local \/ y.2 = .cell -> y.1 ∈ own.map (·.1) \/ y.1 ∉ N
noncomputable def wipe (σ : St) : List Nat -> St
 | [] => σ
 | v :: vs => (wipe σ vs).set v none
theorem qH (σ : St) : ∀ vs : List Nat, (wipe σ vs).length = σ.length
 | [] => rfl
 | v :: vs => by unfold wipe; rw [List.length_set, qH σ vs]
theorem qS {σ : St} {i : Nat} {x : V} : ∀ {vs : List Nat}, (wipe σ vs)[i]? = some (some x) -> σ[i]? = some (some x) /\ i ∉ vs
 | [], h => ⟨h, by simp⟩
 | v :: vs, h => by
  unfold wipe at h
  by_cases hi : v = i
  ·subst hi
   by_cases hv : v < (wipe σ vs).length
   ·rw [List.getElem?_set_self hv] at h; cases h
   ·rw [List.getElem?_eq_none (by simpa using hv)] at h; cases h
  ·rw [List.getElem?_set_ne hi] at h
   obtain ⟨h1, h2⟩ := qS h
   exact ⟨h1, by simp only [List.mem_cons, not_or]; exact ⟨fun e => hi e.symm, h2⟩⟩
noncomputable abbrev Cx.blk (X : Cx) (s : Shared) (H : Hp) (scope : Scope) (cenv : Env) (fp : List Addr) : Cx := { X with s_0 := s, H_0 := H, env := cenv, outer := X.stack, ex := fp, fn := fun x => scope.names.lookup x == some .cell, pn := [], xe := fun _ _ => False }
section
variable {X : Cx} {pins : List (Addr × Obj)} {σ : St} {H : Hp} {s : Shared}
theorem x9 {scope : Scope} {own : List (Str × Nat)} {fp : List Addr} (I : Inv X pins σ H s) (ok : jL X.N X.env.scope scope own) (hN : X.N.Nodup) (hfp : ∀ b ∈ fp, zw X pins H b /\ b < s.heap.objs.size) :
  Inv (X.blk s H scope (compEnvC scope (cellsFrom (s.heap.objs.size + 1) scope.names (qj X.env.cells scope.names [])) s.heap.objs.size X.env) fp) [] (wipe σ (own.map (·.2))) H { s with heap := pushCells (s.heap.push { cls := .type "dict", data := .dict #[] }) scope.names } := by
 have hfree : ∀ y ∈ scope.names, y.2 = .free -> ∃ c, X.env.cells.lookup y.1 = some c := fun y hy e => by
  rcases ok.free y hy e with k | k
  ·exact I.ok.has _ (.inl k)
  ·exact I.ok.has _ (.inr k)
 generalize hcenv : compEnvC scope (cellsFrom (s.heap.objs.size + 1) scope.names (qj X.env.cells scope.names [])) s.heap.objs.size X.env = cenv
 have kp : ∀ b o, s.heap.get? b = some o -> (pushCells (s.heap.push { cls := .type "dict", data := .dict #[] }) scope.names).get? b = some o := fun b o e => pushCells_keeps _ _ _ _ (Heap.get?_push_of_some _ e)
 have hL : cenv.locals = s.heap.objs.size := by rw [<- hcenv]; rfl
 have hcl : cenv.cells = cellsFrom (s.heap.objs.size + 1) scope.names (qj X.env.cells scope.names []) := by rw [<- hcenv]; rfl
 have hsc : cenv.scope = Xd scope X.env.scope := by rw [<- hcenv]; rfl
 rw [<- Heap.size_push s.heap { cls := .type "dict", data := .dict #[] }] at hcl
 have cm : ∀ {y c}, (y, c) ∈ qj X.env.cells scope.names [] -> X.env.cells.lookup y = some c /\ c < s.heap.objs.size := fun {y c} hm => by
  rcases vt hm with hm | ⟨h1, rfl⟩
  ·cases hm
  ·obtain ⟨c, hc⟩ := hfree _ h1 rfl
   rw [hc]
   obtain ⟨w, z⟩ := I.cell _ _ hc
   exact ⟨rfl, z.lt⟩
 have mem : ∀ {y c}, cenv.cells.lookup y = some c -> (X.env.cells.lookup y = some c /\ c < s.heap.objs.size) \/ (s.heap.objs.size + 1 <= c /\ QT (pushCells (s.heap.push { cls := .type "dict", data := .dict #[] }) scope.names) c none) := fun {y c} e => by
  rw [hcl] at e
  rcases vZ (PySem.mem_of_lookup e) with hm | ⟨_, h2, h3⟩
  ·exact .inl (cm hm)
  ·rw [Heap.size_push] at h2; exact .inr ⟨h2, h3⟩
 have look : ∀ {y}, scope.names.lookup y = some .free -> ∃ c, cenv.cells.lookup y = some c /\ X.env.cells.lookup y = some c := fun {y} hl => by
  have hy : (y, NameKind.free) ∈ scope.names := PySem.mem_of_lookup hl
  obtain ⟨c', e'⟩ := mem_lookup (wI (names := scope.names) (n := (s.heap.push { cls := .type "dict", data := .dict #[] }).objs.size) (vM (cells := X.env.cells) (acc := []) hy))
  rw [<- hcl] at e'
  refine ⟨c', e', ?_⟩
  rw [hcl] at e'
  rcases vZ (PySem.mem_of_lookup e') with hm | ⟨h1, _, _⟩
  ·exact (cm hm).1
  ·have := ok.uniq _ h1
   rw [hl] at this; cases this
 have okB : (X.blk s H scope cenv fp).Ok := by
  refine ⟨I.ok.mod, by show cenv.scope.kind = _; rw [hsc]; exact ok.kind, by show cenv.globals = _; rw [<- hcenv]; exact I.ok.glob, by show cenv.builtins = _; rw [<- hcenv]; exact I.ok.blt, by show s.heap.objs.size <= cenv.locals; rw [hL]; exact Nat.le_refl _,
   fun y z c e1 e2 => ?_, fun y hy => ?_, fun y c z e => ?_, I.ok.hd, I.ok.frames, .inl rfl, fun b hb => ⟨?_, fun y c e z => ?_⟩, I.bs, Nat.le_trans I.ok.bsz I.sz, fun b o e hb => ?_, fun b hb z => ?_, I.stack, I.xD⟩
  ·have e1 : cenv.cells.lookup y = some c := e1
   have e2 : cenv.cells.lookup z = some c := e2
   rw [hcl] at e1 e2
   refine zm (fun p hp => ?_) (fun y z c a b => I.ok.inj y z c (cm a).1 (cm b).1) (PySem.mem_of_lookup e1) (PySem.mem_of_lookup e2)
   rw [Heap.size_push]
   exact Nat.lt_succ_of_lt (cm (y := p.1) (c := p.2) hp).2
  ·show ∃ c, cenv.cells.lookup y = some c
   have key : ∀ k, cenv.kindOf y = some k -> (k = .cell \/ k = .free) -> ∃ c, cenv.cells.lookup y = some c := fun k hk hk' => by
    unfold Env.kindOf at hk
    rw [hsc] at hk
    obtain ⟨k', e, r⟩ := wq hk
    have : k' = .cell \/ k' = .free := by
     rcases r with rfl | ⟨rfl, _⟩
     ·exact hk'
     ·exact .inr rfl
    rcases this with rfl | rfl
    ·obtain ⟨c, hm⟩ := zp (n := (s.heap.push { cls := .type "dict", data := .dict #[] }).objs.size) (acc := qj X.env.cells scope.names []) (PySem.mem_of_lookup e)
     obtain ⟨c', e'⟩ := mem_lookup hm
     exact ⟨c', by rw [hcl]; exact e'⟩
    ·obtain ⟨c, h1, _⟩ := look e
     exact ⟨c, h1⟩
   rcases hy with hy | hy
   ·exact key _ hy (.inl rfl)
   ·exact key _ hy (.inr rfl)
  ·have z : (scope.names.lookup y == some NameKind.cell) = true := z
   have z : scope.names.lookup y = some .cell := by simpa using z
   have e : cenv.cells.lookup y = some c := e
   rw [hcl] at e
   rcases vZ (PySem.mem_of_lookup e) with hm | ⟨_, h2, _⟩
   ·rcases vt hm with hm | ⟨h1, _⟩
    ·cases hm
    ·have q := ok.uniq _ h1
     rw [z] at q; cases q
   ·rw [Heap.size_push] at h2
    exact Nat.le_of_succ_le h2
  ·show b ≠ cenv.locals
   rw [hL]; exact Nat.ne_of_lt (hfp b hb).2
  ·have e : cenv.cells.lookup y = some c := e
   rcases mem e with ⟨h1, _⟩ | ⟨h1, _⟩
   ·exact (hfp b hb).1.2.2.2.2.1 y c h1 z
   ·have h2 : s.heap.objs.size + 1 <= b := by rw [<- z]; exact h1
    exact absurd (Nat.lt_of_lt_of_le (hfp b hb).2 (Nat.le_of_succ_le h2)) (Nat.lt_irrefl _)
  ·rcases (hfp b hb).1.2.2.2.1 with z | z
   ·exact I.ok.noex b o e z
   ·exact absurd (Nat.lt_of_lt_of_le (Heap.lt_size e) (Nat.le_trans I.ok.bsz z)) (Nat.lt_irrefl _)
  ·rcases List.mem_cons.mp (I.vR b z) with z | z
   ·exact (hfp b hb).1.2.1 z
   ·exact (hfp b hb).1.2.2.1 z
 refine ⟨okB, rfl, I.bare, Un.kept kp, ⟨fun _ => none, ?_, fun i y av e1 e2 e3 => ?_⟩, fun y c e => ?_, ?_, fun y c e => ?_, fun p hp => ?_, I.hok.kept kp, by rw [qH]; exact I.len⟩
 ·show Heap.Ns _ cenv.locals _
  rw [hL]
  exact Heap.Ns.keeps (Heap.Ns.new ..) fun b o e => pushCells_keeps _ _ _ _ e
 ·obtain ⟨e2, hne⟩ := qS e2
  have hfr : scope.names.lookup y = some .free /\ (cenv.kindOf y = some .cell \/ cenv.kindOf y = some .free) := by
   have key : ∀ k, cenv.scope.names.lookup y = some k -> k = .local \/ k = .cell \/ k = .free -> scope.names.lookup y = some .free /\ (cenv.kindOf y = some .cell \/ cenv.kindOf y = some .free) := fun k hk hk' => by
    have hk0 := hk
    rw [hsc] at hk
    obtain ⟨k', e, r⟩ := wq hk
    have no : ¬ (k' = .local \/ k' = .cell) := fun hh => by
     rcases ok.own _ (PySem.mem_of_lookup e) hh with e' | e'
     ·obtain ⟨p, hp, hpy⟩ := List.mem_map.mp e'
      have e3 := ok.ix p hp
      have : p.1 = y := hpy
      rw [this] at e3
      exact hne (List.mem_map.mpr ⟨p, hp, yC hN e3 e1⟩)
     ·exact e' (List.mem_of_getElem? e1)
    rcases r with rfl | ⟨rfl, rfl⟩
    ·rcases hk' with rfl | rfl | rfl
     ·exact absurd (.inl rfl) no
     ·exact absurd (.inr rfl) no
     ·exact ⟨e, .inr hk0⟩
    ·exact ⟨e, .inl hk0⟩
   have e3 : Vis cenv.scope y := e3
   rcases e3 with e3 | e3 | e3
   ·exact key _ e3 (.inl rfl)
   ·exact key _ e3 (.inr (.inl rfl))
   ·exact key _ e3 (.inr (.inr rfl))
  obtain ⟨m, hn, hl⟩ := I.loc
  have hvis : Vis X.env.scope y := (ok.free _ (PySem.mem_of_lookup hfr.1) rfl).elim (fun k => .inr (.inl k)) (fun k => .inr (.inr k))
  obtain ⟨w, r, q⟩ := hl i y av e1 e2 hvis
  refine ⟨w, r, .inr ⟨hfr.2, ?_⟩⟩
  obtain ⟨c, h1, h2⟩ := look hfr.1
  rcases q with ⟨k, _⟩ | ⟨_, c', e', z⟩
  ·have k : X.env.scope.names.lookup y = some .local := k
   rcases ok.free _ (PySem.mem_of_lookup hfr.1) rfl with k' | k' <;> rw [show X.env.scope.names.lookup y = _ from k'] at k <;> cases k
  ·rw [h2] at e'; cases e'
   exact ⟨c, h1, z.keeps kp⟩
 ·have e : cenv.cells.lookup y = some c := e
  rcases mem e with ⟨h1, _⟩ | ⟨_, z⟩
  ·obtain ⟨w, z⟩ := I.cell y c h1
   exact ⟨w, z.keeps kp⟩
  ·exact ⟨_, z⟩
 ·show H cenv.locals = none
  rw [hL]; exact I.hok.fresh (Nat.le_refl _)
 ·have e : cenv.cells.lookup y = some c := e
  rcases mem e with ⟨h1, _⟩ | ⟨h1, _⟩
  ·exact I.freeC y c h1
  ·exact I.hok.fresh (Nat.le_of_succ_le h1)
 ·exact absurd (show p ∈ ([] : List (Addr × Obj)) ++ [] from hp) (by simp)
theorem Yk {E : Value -> Shared -> Prop} {D : Addr} {xs : List V} {y : V} {v : Value} {Q : Value -> Shared -> Prop} (I : Inv X pins σ H s) (hD : H D = some (.lst xs)) (hz : xs.length < sizeLine) (r : RelV y v)
  (h : ∀ s', Inv X pins σ (upd H D (.lst (xs ++ [y]))) s' -> Q .none s') : wpAny (model X.prog X.w) X.A (call (.builtin "list.append") [.ref D, v]) Q E s := by
 obtain ⟨hz', its, n, ri, e⟩ := I.hok D _ hD
 have hl := ri.length
 refine append_at (hsz := by rw [List.size_toArray]; lia) e fun h' sb ho' => ?_
 refine h { s with heap := h' } (I.write (t' := s.toks) (by rw [hD]; trivial) (.inl rfl) (fun b u hb q => (sb.2 b hb).trans q) ⟨_, ho'⟩ ⟨by rw [List.length_append]; exact hz, its ++ [v], n + 1, ri.append (.cons r .nil), ?_⟩)
 rw [ho']
 simp
noncomputable def PTs (X : Cx) (ifs : List Expr) (t : TT) : Prop :=
 ∀ (pins : List (Addr × Obj)) (s : Shared) (σ : St) (H : Hp) (Q : Bool -> Hp -> Prop), Inv X pins σ H s -> t σ H Q ->
  wpAny (model X.prog X.w) X.A (forIn ifs true fun c r => if r = true then do let ok <- isTrue c X.env (eval c X.env); pure (ForInStep.yield ok) else pure (ForInStep.yield r)) (TP X pins σ Q) X.xe s
noncomputable def yk : TT := fun _ H Q => Q true H
theorem VM : PTs X [] yk := fun _ _ _ H _ I h => wpAny_tests_nil ⟨H, I, h⟩
end
theorem ZK {α : Type} {t : Sem α} {Q Q' : α -> Shared -> Prop} {M : Model} {A : Around} {E : Value -> Shared -> Prop} {s : Shared} (h : wpAny M A t Q (fun _ _ => False) s) (hQ : ∀ a s, Q a s -> Q' a s) : wpAny M A t Q' E s := wpAny_mono h hQ fun _ _ z => False.elim z
theorem xw {prog : Program} {w : World} {A : Around} {R : Result -> Shared -> Prop} {s : Shared} {elt target iter : Expr} {ifs : List Expr} {scope : Scope} {pos : Pos} {it acc : Value} {env : Env} (I : Nat -> Shared -> Prop)
  (turn : ∀ n s, I n s -> wpAny (model prog w) A (pyNext it) (fun r s₁ => match r with
   | none => R (.ok .next) s₁
   | some v => wpAny (model prog w) A (letOwnedTupleGo target it v) (fun _ s₁' => wpAny (model prog w) A (assign target env v) (fun _ s₂ =>
     wpAny (model prog w) A (forIn ifs true fun c r => if r = true then do let ok <- isTrue c env (eval c env); pure (ForInStep.yield ok) else pure (ForInStep.yield r)) (fun ok s₃ =>
      if ok = true then wpAny (model prog w) A (eval elt env) (fun x s₄ =>
       wpAny (model prog w) A (call (.builtin "list.append") [acc, x]) (fun _ s₅ => ∃ m, m < n /\ I m s₅) (notedBy (model prog w) A env fun e s' => R (.error e) s') s₄) (notedBy (model prog w) A env fun e s' => R (.error e) s') s₃
      else ∃ m, m < n /\ I m s₃) (notedBy (model prog w) A env fun e s' => R (.error e) s') s₂) (notedBy (model prog w) A env fun e s' => R (.error e) s') s₁') (notedBy (model prog w) A env fun e s' => R (.error e) s') s₁) (notedBy (model prog w) A env fun e s' => R (.error e) s') s)
  (n : Nat) (h : I n s) :
  codeAny (model prog w) A (.compLoop (.ListComp elt [⟨target, iter, ifs, 0⟩] scope pos) 0 it acc env) R s := by
 refine codeAny_loop rfl I (fun n s hI => ?_) n h
 show wpAny _ A ((compTurn (.ListComp elt [⟨target, iter, ifs, 0⟩] scope pos) 0 it acc env).onRaise (fun x => do noteFrame x env; theTreesLotGoes x)) _ _ s
 refine wpAny_noted ?_
 rw [compTurn_list]
 refine wpAny_bind (wpAny_standAt (wpAny_bind (wpAny_mono (turn n s hI) (fun r s₁ h₁ => ?_) fun _ _ h' => h')))
 cases r with
 | none => exact wpAny_pure h₁
 | some v =>
  refine wpAny_bind (wpAny_mono h₁ (fun _ s₁' h₁' => ?_) fun _ _ h' => h')
  refine wpAny_bind (wpAny_mono h₁' (fun _ s₂ h₂ => wpAny_bind (wpAny_mono h₂ (fun ok s₃ h₃ => ?_) fun _ _ h' => h')) fun _ _ h' => h')
  cases ok with
  | false => exact wpAny_pure ⟨rfl, h₃⟩
  | true =>
   exact wpAny_bind (wpAny_bind (wpAny_mono h₃ (fun x s₄ h₄ => wpAny_bind (wpAny_mono h₄ (fun _ s₅ h₅ => wpAny_pure (wpAny_pure ⟨rfl, h₅⟩)) fun _ _ h' => h')) fun _ _ h' => h'))
section
variable {X : Cx}
noncomputable def tLc (wi : TI) (g : TG) (tt : TT) (te : TE) (vs : List Nat) : TE := fun σ H Q => wi σ H fun J H1 => ∀ D, H1 D = none -> ∃ W : Nat -> Nat -> Hp -> Prop, (∃ m, W 0 m (upd H1 D (.lst []))) /\ ∀ i m H, W i m H ->
 (J.stop i H /\ Q (.ref D) H) \/ (J.go i H /\ ∃ Nx : Hp -> Prop, (∀ H', Nx H' -> ∃ m', m' < m /\ W (i + 1) m' H') /\ ∀ x H', J.yld i H x H' -> g x (wipe σ vs) H' fun σ2 H2 => wipe σ2 vs = wipe σ vs /\ tt σ2 H2 fun b H3 =>
  if b = true then te σ2 H3 fun y H4 => ∃ acc, H4 D = some (.lst acc) /\ acc.length < sizeLine /\ Nx (upd H4 D (.lst (acc ++ [y]))) else Nx H3)
end
noncomputable def Vz (N : List Str) (sc scope : Scope) (own : List (Str × Nat)) : Bool :=
 (match scope.kind with | .function => true | _ => false) && (scope.names.all fun y => decide (scope.names.lookup y.1 = some y.2)) && (own.all fun p => decide (N[p.2]? = some p.1)) &&
  (scope.names.all fun y => match y.2 with
   | .free => (match sc.names.lookup y.1 with | some .cell => true | some .free => true | _ => false)
   | .local => decide (y.1 ∈ own.map (·.1)) || decide (y.1 ∉ N)
   | .cell => decide (y.1 ∈ own.map (·.1)) || decide (y.1 ∉ N)
   | _ => true)
theorem QP {N : List Str} {sc scope : Scope} {own : List (Str × Nat)} (h : Vz N sc scope own = true) : jL N sc scope own := by
 unfold Vz at h
 simp only [Bool.and_eq_true, List.all_eq_true, decide_eq_true_eq] at h
 obtain ⟨⟨⟨h1, h2⟩, h3⟩, h4⟩ := h
 refine ⟨?_, h2, h3, fun y hy e => ?_, fun y hy e => ?_⟩
 ·split at h1
  ·assumption
  ·cases h1
 ·have q := h4 y hy
  simp only [e] at q
  split at q <;> first | exact .inl (by assumption) | exact .inr (by assumption) | cases q
 ·have q := h4 y hy
  rcases e with e | e <;> (simp only [e, Bool.or_eq_true, decide_eq_true_eq] at q; exact q)
theorem wB {σ : St} {i : Nat} : ∀ {vs : List Nat}, i ∉ vs -> (wipe σ vs)[i]? = σ[i]?
 | [], _ => rfl
 | v :: vs, h => by
  have h1 : v ≠ i := fun e => h (by rw [e]; exact List.mem_cons_self)
  have h2 : i ∉ vs := fun m => h (List.mem_cons_of_mem _ m)
  unfold wipe
  rw [List.getElem?_set_ne h1]
  exact wB h2
section
variable {X : Cx} {pins : List (Addr × Obj)} {σ : St} {H : Hp} {s : Shared} {h' : Heap}
theorem Inv.WM {t' : Nat} {ch : List Addr} (I : Inv X pins σ H s) (k : ∀ b o, b ∉ ch -> s.heap.get? b = some o -> h'.get? b = some o) (hf : ∀ b ∈ ch, zw X pins H b) : Inv X pins σ H { s with heap := h', toks := t' } := by
 have nit : ∀ b u, H b = some u -> b ∉ ch := fun b u e z => by
  have q := (hf b z).1
  rw [q] at e; cases e
 refine I.step (g' := s.gens) (d' := s.drawn) (ch := ch) (fun b hb => ⟨(hf b hb).2.2.2.1, (hf b hb).2.1, (hf b hb).2.2.2.2.1, (hf b hb).2.2.2.2.2⟩) (fun b o _ _ hc e _ => k b o hc e) (fun b o _ _ hc e _ => ⟨o.slots, k b o hc e⟩)
  (fun _ _ _ _ n => n) (fun b o hc e => ⟨o, k b o hc e⟩) (fun _ _ e => e) (fun _ _ _ e => e) (fun b ps e => ⟨#[], by rw [e]; simp⟩) (fun m hm => ?_) (fun b u e => ?_) I.bare
 ·obtain ⟨o, es, ep, ho, r⟩ := hm
  exact ⟨o, es, ep, k _ o (fun z => (hf _ z).2.1 rfl) ho, r⟩
 ·refine (I.hok b u e).yN (fun c v hc q => k c v ?_ q) (fun _ q => q) fun _ _ q => q
  rcases hc with z | z
  ·rw [z]; exact nit b u e
  ·exact nit c _ z
theorem Inv.Qq {t' : Nat} {ch : List Addr} {T : Addr} {ob : HO} (I : Inv X pins σ H s) (k : ∀ b o, b ∉ ch -> s.heap.get? b = some o -> h'.get? b = some o) (hf : ∀ b ∈ ch, zw X pins H b) (hT : s.heap.objs.size <= T)
  (new : vq X.prog X.w (upd H T ob) h' T ob) : Inv X pins σ (upd H T ob) { s with heap := h', toks := t' } := by
 have hn : H T = none := I.hok.fresh hT
 have nit : ∀ b u, H b = some u -> b ∉ ch := fun b u e z => by
  have q := (hf b z).1
  rw [q] at e; cases e
 refine I.step (g' := s.gens) (d' := s.drawn) (ch := ch) (fun b hb => ⟨(hf b hb).2.2.2.1, (hf b hb).2.1, (hf b hb).2.2.2.2.1, (hf b hb).2.2.2.2.2⟩) (fun b o _ _ hc e _ => k b o hc e) (fun b o _ _ hc e _ => ⟨o.slots, k b o hc e⟩)
  (fun b o _ e n => ?_) (fun b o hc e => ⟨o, k b o hc e⟩) (fun b xs e => ?_) (fun b o u e => ?_) (fun b ps e => ⟨#[], ?_⟩) (fun m hm => ?_) (fun b u e => ?_) I.bare
 ·rw [qd (Nat.ne_of_lt (Nat.lt_of_lt_of_le (Heap.lt_size e) hT))]; exact n
 ·rw [qd (qu e hn)]; exact e
 ·rw [qd (qu e hn)]; exact e
 ·rw [qd (qu e hn), e]; simp
 ·obtain ⟨o, es, ep, ho, r⟩ := hm
  exact ⟨o, es, ep, k _ o (fun z => (hf _ z).2.1 rfl) ho, r⟩
 ·by_cases hb : b = T
  ·subst hb
   rw [qm] at e
   cases e
   exact new
  ·rw [qd hb] at e
   refine (I.hok b u e).yN (fun c v hc q => k c v ?_ q) (fun c q => by rw [qd (qu q hn)]; exact q) fun c xs q => by rw [qd (qu q hn)]; exact q
   rcases hc with z | z
   ·rw [z]; exact nit b u e
   ·exact nit c _ z
end
section
variable {X : Cx}
theorem W9 {tg : Expr} {pins : List (Addr × Obj)} {σ : St} {H : Hp} {s : Shared} {R : It -> Hp -> Prop} {J : It} {tn : Nat -> Heap -> Prop} {tk : Nat} (I : Inv X pins σ H s) (o : Obj)
  (T : Turn X.prog X.w X.K tg J [s.heap.objs.size] s.heap.objs.size tn) (st : tn 0 (s.heap.push o)) (q : R J H) : PIE X pins σ tg R (.ref s.heap.objs.size) { s with heap := s.heap.push o, toks := tk } := by
 refine ⟨s.heap.objs.size, [s.heap.objs.size], tn, J, H, rfl, I.kept fun b ob e => Heap.get?_push_of_some _ e, T, st, fun b hb => ?_, q⟩
 have e : b = s.heap.objs.size := by simpa using hb
 subst e
 exact I.Q7 (Nat.le_refl _) (I.hok.fresh (Nat.le_refl _))
end
noncomputable def Itc (lo c : Int) (n : Nat) : It := ⟨fun i _ => i < n, fun i H x H' => H' = H /\ x = .int (lo + (i : Nat) * c), fun i _ => n <= i⟩
theorem uI {P : Program} {w : World} {K : PySem.W.Frag} {tg : Expr} (it : Addr) (lo c : Int) (n : Nat) : Turn P w K tg (Itc lo c n) [it] it (fun i h => IsRangeIter h it (lo + (i : Nat) * c) ((n : Int) - (i : Nat)) c) where
 mem := by simp
 obj := fun i h st b hb => by
  have e : b = it := by simpa using hb
  subst e
  exact ⟨_, st, fun v z => nomatch z⟩
 keep := fun i h h' st k => k it (by simp) _ st
 item := by
  intro X hP hw hK hc i pins s σ H E I hf st hg
  subst hP hw hK
  obtain ⟨f0, f1, f2, f3, f4, f5⟩ := hf it (by simp)
  have W := Walks.range (prog := X.prog) (w := X.w) (I.ok.hd hc) it lo c n
  refine W.item i s _ _ hg st fun v h' tk hv st' kk => ?_
  obtain ⟨t, rfl⟩ := hv
  have I1 : Inv X pins σ H { s with heap := h', toks := tk } := I.turned (fun b o hb e => kk b o (by simpa using hb) e) f0 f1 f3 f4 f5
  exact ⟨_, rfl, QC (s := { s with heap := h', toks := tk }) (n := "range_iterator") st' rfl rfl (by decide) ⟨.int (lo + (i : Nat) * c), H, I1, ⟨t, rfl⟩, ⟨rfl, rfl⟩, st', fun b hb => (hf b hb).1⟩⟩
 done := by
  intro X hP hw hK hc i pins s σ H E I hf st hg
  subst hP hw hK
  obtain ⟨f0, f1, f2, f3, f4, f5⟩ := hf it (by simp)
  exact wpAny_pyNext_range_end (I.ok.hd hc) st (by have : n <= i := hg; lia) fun h' eb => ⟨rfl, I.turned (t' := s.toks) (fun b o hb e => eb b o hb e) f0 f1 f3 f4 f5⟩
 self := fun A i s Q E st h => wpAny_pyIter_rangeiter st h
noncomputable def RgC (i j c : Int) (n : Nat) : Prop := c ≠ 0 /\ c.natAbs < 1073741824 /\ Builtin.Range.small i j c = true /\ Builtin.Range.rangeSize i j c = n
theorem RgC.neg {i j : Int} (ha : -(2 ^ 62) <= i) (ha' : i < 2 ^ 62) (hb : -(2 ^ 62) <= j) (hb' : j < 2 ^ 62) : RgC i j (-1) (i - j).toNat :=
 ⟨by decide, by decide, PySem.W.small_down ha ha' hb hb', PySem.W.rangeSize_downNat i j⟩
noncomputable def Ys (ta : TA) : TI := fun σ H R => ta σ H fun vs H1 => ∃ (i j c : Int) (n : Nat), vs = [.int i, .int j, .int c] /\ RgC i j c n /\ R (Itc i c n) H1
section
variable {X : Cx} {tg : Expr}
theorem jZ {a b c : Expr} {ta : TA} {p pos : Pos} (hg : Gl X "range") (hm : X.mg "range" = none) (ha : PA X [a, b, c] ta)
  (hs : starEach [a, b, c] X.env = (false, eval a X.env) :: starEach [b, c] X.env := by rfl) (hpl : (backTo pos (starEach [b, c] X.env)).any (·.1) = false := by rfl) :
  PI X tg (.Call (.Name "range" p) [a, b, c] [] pos) (Ys ta) := by
 intro pins s σ H R I h
 refine Call_ (yH I hg hm boot_range (PyProof.Rows.callWith_type1 (thn (ha pos pins s σ H _ I h) fun us s1 ⟨vs, H1, I1, r1, q1⟩ => ?_) hs hpl))
 obtain ⟨i, j, k, n, e, ⟨c0, c1, c2, c3⟩, q⟩ := q1
 subst e
 cases r1 with
 | cons r rr =>
  cases rr with
  | cons r' rr =>
   cases rr with
   | cons r'' rr =>
    cases rr
    obtain ⟨t, rfl⟩ := r
    obtain ⟨t', rfl⟩ := r'
    obtain ⟨t'', rfl⟩ := r''
    refine call_range_3 c0 ?_ (.inl (PyProof.noPylong_small c1))
    refine wpAny_pyIter_range (IsRange.new ..) c2 ?_
    have I2 : Inv X pins σ H1 { s1 with heap := s1.heap.push { cls := .type "range", data := .fields #[.int i t, .int j t', .int k t''] } } := I1.kept (t' := s1.toks) fun b o e => Heap.get?_push_of_some _ e
    refine W9 (tk := s1.toks) I2 _ (uI _ i k n) ?_ q
    have e1 : i + ((0 : Nat) : Int) * k = i := by simp
    have e2 : (n : Int) - ((0 : Nat) : Int) = Builtin.Range.rangeSize i j k := by rw [c3]; simp
    show IsRangeIter _ _ (i + ((0 : Nat) : Int) * k) ((n : Int) - ((0 : Nat) : Int)) k
    rw [e1, e2]
    exact Heap.get?_push_size _ rfl
end
theorem jV : bootBuiltins "zip" = some (.type "zip") := by decide +kernel
noncomputable def Itz (K : PySem.W.Frag) (a b : Addr) : It :=
 ⟨fun i H => ∃ (xs ys : List V) (x y : V), SqL K H a xs /\ SqL K H b ys /\ xs[i]? = some x /\ ys[i]? = some y,
  fun i H v H' => ∃ T x y, v = .ref T /\ H T = none /\ H' = upd H T (.tup [x, y]) /\ (∀ xs, SqL K H a xs -> xs[i]? = some x) /\ ∀ ys, SqL K H b ys -> ys[i]? = some y,
  fun i H => ∃ xs ys : List V, SqL K H a xs /\ SqL K H b ys /\ (xs.length <= i \/ ys.length <= i)⟩
theorem Q2 {P : Program} {w : World} {K : PySem.W.Frag} {elts : List Expr} {kk : Nat} {tpos : Pos} {a b z TI TO i1 i2 : Addr} (D : ZipApart z TI TO i1 i2 a b) :
  Turn P w K (.Tuple elts kk tpos) (Itz K a b) [z, TI, TO, i1, i2] z (fun i h => IsZip h z TI TO .none /\ IsPair h TI (.ref i1) (.ref i2) /\ (∃ x y, IsPair h TO x y) /\ h.IsListIter i1 a i /\ h.IsListIter i2 b i) where
 mem := by simp
 obj := fun i h st c hc => by
  obtain ⟨hz, hTI, ⟨x, y, hTO⟩, ⟨o1, e1, _, d1⟩, ⟨o2, e2, _, d2⟩⟩ := st
  have e' : c = z \/ c = TI \/ c = TO \/ c = i1 \/ c = i2 := by simpa using hc
  rcases e' with q | q | q | q | q
  ·rw [q]; exact ⟨_, hz, fun v q => nomatch q⟩
  ·rw [q]; exact ⟨_, hTI, fun v q => nomatch q⟩
  ·rw [q]; exact ⟨_, hTO, fun v q => nomatch q⟩
  ·rw [q]; exact ⟨o1, e1, fun v q => by rw [d1] at q; cases q⟩
  ·rw [q]; exact ⟨o2, e2, fun v q => by rw [d2] at q; cases q⟩
 keep := fun i h h' st k => by
  obtain ⟨hz, hTI, ⟨x, y, hTO⟩, h1, h2⟩ := st
  exact ⟨k z (by simp) _ hz, k TI (by simp) _ hTI, ⟨x, y, k TO (by simp) _ hTO⟩, h1.at fun o q => k i1 (by simp) o q, h2.at fun o q => k i2 (by simp) o q⟩
 item := by
  intro X hP hw hK hc i pins s σ H E I hf st hg
  subst hP hw hK
  obtain ⟨hz, hTI, ⟨x0, y0, hTO⟩, h1, h2⟩ := st
  obtain ⟨xs, ys, x, y, hqx, hqy, hx, hy⟩ := hg
  obtain ⟨its, rv, p, _⟩ := I.list hqx
  obtain ⟨its2, rv2, p2, _⟩ := I.list hqy
  obtain ⟨u, hu, ru⟩ := rv.get hx
  obtain ⟨u2, hu2, ru2⟩ := rv2.get hy
  have hzl : z < s.heap.objs.size := Heap.lt_size hz
  refine wpAny_pyNext_zip_item D hz hTI hTO h1 h2 p.isList p2.isList (x := u) (y := u2) (by simpa using hu) (by simpa using hu2) fun h' z' TO' h1' h2' hT hsz hk => ?_
  refine ⟨_, rfl, wpAny_letOwnedTupleGo_zip (s := { s with heap := h' }) z' fun h'' z'' sb => ?_⟩
  have hT2 : h''.get? s.heap.objs.size = some { cls := .type "tuple", data := .seq #[u, u2] } := (sb.2 _ (Nat.ne_of_gt hzl)).trans hT
  have new : vq X.prog X.w (upd H s.heap.objs.size (.tup [x, y])) h'' s.heap.objs.size (.tup [x, y]) :=
   ⟨by show 2 <= sizeLine; decide, [u, u2], .cons ru (.cons ru2 .nil), ⟨_, hT2, rfl, _, rfl⟩⟩
  have I1 : Inv X pins σ (upd H s.heap.objs.size (.tup [x, y])) { s with heap := h'' } :=
   I.Qq (t' := s.toks) (ch := [z, TI, TO, i1, i2]) (fun c o hb q => (sb.2 c (fun q' => hb (by simp [q']))).trans (hk c o (fun q' => hb (by simp [q'])) (fun q' => hb (by simp [q'])) (fun q' => hb (by simp [q'])) (fun q' => hb (by simp [q'])) q)) hf (Nat.le_refl _) new
  refine ⟨.ref s.heap.objs.size, _, I1, rfl, ⟨_, x, y, rfl, I.hok.fresh (Nat.le_refl _), rfl, fun l hl => by rw [I.yh hl hqx]; exact hx, fun l hl => by rw [I.yh hl hqy]; exact hy⟩, ⟨z'', ?_, ⟨u, u2, ?_⟩, ?_, ?_⟩, fun c hcm => ?_⟩
  ·exact (sb.2 _ D.TIz).trans (hk _ _ D.TIz D.TITO D.TIi1 D.TIi2 hTI)
  ·exact (sb.2 _ D.TOz).trans TO'
  ·exact h1'.at fun o q => (sb.2 _ D.i1z).trans q
  ·exact h2'.at fun o q => (sb.2 _ D.i2z).trans q
  ·have hlt : c < s.heap.objs.size := by
    have e' : c = z \/ c = TI \/ c = TO \/ c = i1 \/ c = i2 := by simpa using hcm
    rcases e' with q | q | q | q | q
    ·rw [q]; exact hzl
    ·rw [q]; exact Heap.lt_size hTI
    ·rw [q]; exact Heap.lt_size hTO
    ·rw [q]; obtain ⟨_, e1, _⟩ := h1; exact Heap.lt_size e1
    ·rw [q]; obtain ⟨_, e2, _⟩ := h2; exact Heap.lt_size e2
   rw [qd (Nat.ne_of_lt hlt)]
   exact (hf c hcm).1
 done := by
  intro X hP hw hK hc i pins s σ H E I hf st hg
  subst hP hw hK
  obtain ⟨hz, hTI, ⟨x0, y0, hTO⟩, h1, h2⟩ := st
  obtain ⟨xs, ys, hqx, hqy, hend⟩ := hg
  obtain ⟨its, rv, p, _⟩ := I.list hqx
  obtain ⟨its2, rv2, p2, _⟩ := I.list hqy
  have l1 := rv.length
  have l2 := rv2.length
  have he : its.toArray[i]? = none \/ its2.toArray[i]? = none := by
   rcases hend with q | q
   ·exact .inl (by simp; lia)
   ·exact .inr (by simp; lia)
  exact wpAny_pyNext_zip_end (I.ok.hd hc) D hz hTI hTO h1 h2 p.isList p2.isList he fun h' hk => ⟨rfl, I.WM (t' := s.toks) (ch := [z, TI, TO, i1, i2]) (fun c o hb q =>
   hk c o (fun q' => hb (by simp [q'])) (fun q' => hb (by simp [q'])) (fun q' => hb (by simp [q'])) (fun q' => hb (by simp [q'])) q) hf⟩
 self := fun A i s Q E st h => wpAny_pyIter_zip st.1 h
noncomputable def QU (K : PySem.W.Frag) (ta : TA) : TI := fun σ H R => ta σ H fun vs H1 => ∃ a b xs ys, vs = [.ref a, .ref b] /\ SqL K H1 a xs /\ SqL K H1 b ys /\ R (Itz K a b) H1
theorem ZR {X : Cx} {e e2 : Expr} {ta : TA} {p pos tpos : Pos} {elts : List Expr} {kk : Nat} (hg : Gl X "zip") (hm : X.mg "zip" = none) (ha : PA X [e, e2] ta)
  (hs : starEach [e, e2] X.env = (false, eval e X.env) :: starEach [e2] X.env := by rfl) (hpl : (backTo pos (starEach [e2] X.env)).any (·.1) = false := by rfl) :
  PI X (.Tuple elts kk tpos) (.Call (.Name "zip" p) [e, e2] [] pos) (QU X.K ta) := by
 intro pins s σ H R I h
 refine Call_ (yH I hg hm jV (PyProof.Rows.callWith_type1 (thn (ha pos pins s σ H _ I h) fun us s1 ⟨vs, H1, I1, r1, q1⟩ => ?_) hs hpl))
 obtain ⟨a, b, xs, ys, ex, hqx, hqy, q⟩ := q1
 subst ex
 cases r1 with
 | cons r rr =>
  cases rr with
  | cons r' rr =>
   cases rr
   cases r
   cases r'
   obtain ⟨its, rv, p1, _⟩ := I1.list hqx
   obtain ⟨its2, rv2, p2, _⟩ := I1.list hqy
   have la : a < s1.heap.objs.size := p1.lt
   have lb : b < s1.heap.objs.size := p2.lt
   refine call_zip_2 p1.isList p2.isList fun h' hz hTI hTO h1 h2 hsz hk => wpAny_pyIter_zip hz ?_
   have I2 : Inv X pins σ H1 { s1 with heap := h' } := I1.kept (t' := s1.toks) hk
   refine ⟨s1.heap.objs.size + 4, [s1.heap.objs.size + 4, s1.heap.objs.size + 2, s1.heap.objs.size + 3, s1.heap.objs.size, s1.heap.objs.size + 1], _, _, H1, rfl, I2, Q2 (PySem.W.ktu_apart s1.heap.objs.size a b la lb), ⟨hz, hTI, ⟨_, _, hTO⟩, h1, h2⟩, fun c hcm => ?_, q⟩
   have e' : c = s1.heap.objs.size + 4 \/ c = s1.heap.objs.size + 2 \/ c = s1.heap.objs.size + 3 \/ c = s1.heap.objs.size \/ c = s1.heap.objs.size + 1 := by simpa using hcm
   have hle : s1.heap.objs.size <= c := by
    rcases e' with z | z | z | z | z
    ·rw [z]; exact Nat.le_add_right _ _
    ·rw [z]; exact Nat.le_add_right _ _
    ·rw [z]; exact Nat.le_add_right _ _
    ·rw [z]; exact Nat.le_refl _
    ·rw [z]; exact Nat.le_add_right _ _
   exact I1.Q7 hle (I1.hok.fresh hle)
end L2
section 
namespace Bits
open PySem PyProof.Rows
theorem ue {x : Int} (k : Nat) (hx : 0 <= x) : Builtin.bitAnd x (2 ^ k - 1) = x % 2 ^ k := by
 obtain ⟨n, rfl⟩ := Int.eq_ofNat_of_zero_le hx
 have hp : 0 < 2 ^ k := Nat.two_pow_pos k
 rw [two_pow_cast]
 have e : ((2 ^ k : Nat) : Int) - 1 = ((2 ^ k - 1 : Nat) : Int) := by
  generalize (2 : Nat) ^ k = m at hp
  lia
 rw [e, bitAnd_pp (by lia) (by lia), Int.toNat_natCast, Int.toNat_natCast, Nat.and_two_pow_sub_one_eq_mod]
 first
  | rfl
  | exact Int.natCast_emod _ _
  | simp
end Bits
end 
section 
end 
section
set_option maxHeartbeats 2000000
namespace L2
open PySem PySem.Spec PyProof.Rows
open PySem.W (WData Codec OpenSpec Well WellAll ReadsW ReadsAllW)
mutual
/-- x stands for the datum d, lists and tuples all the way -/
inductive Dw (K : PySem.W.Frag) (H : Hp) : V -> WData -> Prop
 | non : Dw K H .non .none
 | bl (b : Bool) : Dw K H (.bl b) (.bool b)
 | int (i : Int) : Dw K H (.int i) (.int i)
 | str (x : Str) : Dw K H (.str x) (.str x)
 | byt (b : Array UInt8) : Dw K H (.byt b) (.bytes b.toList)
 | lst {a : Addr} {xs : List V} {ds : List WData} : SqL K H a xs -> vj K H xs ds -> Dw K H (.ref a) (.list ds)
 | tup {a : Addr} {xs : List V} {ds : List WData} : SqT K H a xs -> vj K H xs ds -> Dw K H (.ref a) (.tuple ds)
inductive vj (K : PySem.W.Frag) (H : Hp) : List V -> List WData -> Prop
 | nil : vj K H [] []
 | cons {v : V} {vs : List V} {d : WData} {ds : List WData} : Dw K H v d -> vj K H vs ds -> vj K H (v :: vs) (d :: ds)
end
theorem jz {K : PySem.W.Frag} {H : Hp} : ∀ ns : List Int, vj K H (ns.map V.int) (ns.map WData.int)
 | [] => .nil
 | n :: r => .cons (.int n) (jz r)
section
variable {P : Program} {w : World} {K : PySem.W.Frag} {H : Hp} {h : Heap} {R : PySem.W.WRecords} {cl : Str -> Option Addr}
theorem Zn {a : Addr} {xs : List V} (hok : HOk P w H h) (KX : K.In h) (q : SqL K H a xs) : ∃ (its : List Value) (o : Obj) (n : Nat), Vals xs its /\ h.get? a = some o /\ o.cls = .type "list" /\ o.data = .seq its.toArray n := by
 rcases q with q | ⟨o, its, n, e, hc, _, hd, _, hv⟩
 ·obtain ⟨_, its, n, hv, e⟩ := (show vq P w H h a (.lst xs) from q.ok hok)
  exact ⟨its, _, n, hv, e, rfl, rfl⟩
 ·exact ⟨its.toList, o, n, hv, KX _ _ e, hc, by simp [hd]⟩
theorem Z1 {a : Addr} {xs : List V} (hok : HOk P w H h) (KX : K.In h) (q : SqT K H a xs) : ∃ (its : List Value) (o : Obj) (n : Nat), Vals xs its /\ h.get? a = some o /\ o.cls = .type "tuple" /\ o.data = .seq its.toArray n := by
 rcases q with q | ⟨o, its, n, e, hc, hd, _, hv⟩
 ·obtain ⟨_, its, hv, o, e, hc, n, hd⟩ := (show vq P w H h a (.tup xs) from q.ok hok)
  exact ⟨its, o, n, hv, e, hc, hd⟩
 ·exact ⟨its.toList, o, n, hv, KX _ _ e, hc, by simp [hd]⟩
mutual
theorem Dw.reads (hok : HOk P w H h) (KX : K.In h) : ∀ (d : WData) (v : V) (u : Value), Dw K H v d -> RelV v u -> ∃ as, ReadsW R cl h u d as
 | .none, _, _, x, r => by
  cases x
  cases r
  exact ⟨_, ReadsW.none⟩
 | .bool b, _, _, x, r => by
  cases x
  cases r
  exact ⟨_, ReadsW.bool b⟩
 | .int i, _, _, x, r => by
  cases x
  obtain ⟨t, rfl⟩ := r
  exact ⟨_, ReadsW.int i t⟩
 | .str s, _, _, x, r => by
  cases x
  obtain ⟨t, rfl⟩ := r
  exact ⟨_, ReadsW.str s t⟩
 | .bytes b, _, _, x, r => by
  cases x
  obtain ⟨t, rfl⟩ := r
  exact ⟨_, ReadsW.bytes _ t⟩
 | .list ds, _, _, x, r => by
  cases x with
  | lst hs ha =>
   cases r
   obtain ⟨its, o, n, rv, ho, hc, hd⟩ := Zn hok KX hs
   obtain ⟨as, hr⟩ := Dw.readsAll hok KX ds _ its ha rv
   exact ⟨_, ReadsW.list ho hc hd hr⟩
 | .tuple ds, _, _, x, r => by
  cases x with
  | tup hs ha =>
   cases r
   obtain ⟨its, o, n, rv, ho, hc, hd⟩ := Z1 hok KX hs
   obtain ⟨as, hr⟩ := Dw.readsAll hok KX ds _ its ha rv
   exact ⟨_, ReadsW.tuple ho hc hd hr⟩
 | .float _, _, _, x, _ => by cases x
 | .dict _, _, _, x, _ => by cases x
 | .bytearray _, _, _, x, _ => by cases x
 | .set _, _, _, x, _ => by cases x
 | .frozenset _, _, _, x, _ => by cases x
 | .obj _ _, _, _, x, _ => by cases x
theorem Dw.readsAll (hok : HOk P w H h) (KX : K.In h) : ∀ (ds : List WData) (vs : List V) (us : List Value), vj K H vs ds -> Vals vs us -> ∃ as, ReadsAllW R cl h us ds as
 | [], _, _, x, r => by
  cases x
  cases r
  exact ⟨_, ReadsAllW.nil⟩
 | d :: ds, _, _, x, r => by
  cases x with
  | cons h1 h2 =>
   cases r with
   | cons r1 r2 =>
    obtain ⟨as, q1⟩ := Dw.reads hok KX d _ _ h1 r1
    obtain ⟨bs, q2⟩ := Dw.readsAll hok KX ds _ _ h2 r2
    exact ⟨_, ReadsAllW.cons q1 q2⟩
end
end
mutual
/-- data that a codec tells -/
noncomputable def plW : WData -> Bool
 | .none => true
 | .bool _ => true
 | .int _ => true
 | .str _ => true
 | .bytes _ => true
 | .list xs => zD xs
 | .tuple xs => zD xs
 | _ => false
noncomputable def zD : List WData -> Bool
 | [] => true
 | x :: r => plW x && zD r
end
theorem uk {α : Type} {f : α -> WData} (h : ∀ a, plW (f a) = true) : ∀ l : List α, zD (l.map f) = true
 | [] => rfl
 | x :: r => by
  show (plW (f x) && zD (r.map f)) = true
  rw [h x, uk h r] <;> rfl
theorem wx : ∀ (c : Codec) (a : c.denote), plW (c.enc a) = true
 | .unit, _ => rfl
 | .bool, _ => rfl
 | .int _ _, _ => rfl
 | .nat _ _, _ => rfl
 | .u8, _ => rfl
 | .bytes _ _, _ => rfl
 | .text _ _ _ _, _ => rfl
 | .list _ _ c, a => uk (fun x => wx c x) a
 | .pair c d, a => by
  show (plW (c.enc a.1) && (plW (d.enc a.2) && true)) = true
  rw [wx c a.1, wx d a.2] <;> rfl
 | .triple c d e, a => by
  show (plW (c.enc a.1) && (plW (d.enc a.2.1) && (plW (e.enc a.2.2) && true))) = true
  rw [wx c a.1, wx d a.2.1, wx e a.2.2] <;> rfl
 | .option c, none => rfl
 | .option c, some x => wx c x
theorem yX : ∀ (cs : List Codec) (a : Codec.denoteAll cs), zD (Codec.encAll cs a) = true
 | [], _ => rfl
 | c :: cs, a => by
  show (plW (c.enc a.1) && zD (Codec.encAll cs a.2)) = true
  rw [wx c a.1, yX cs a.2] <;> rfl
theorem wU : ∀ {xs : List WData} {d : WData}, d ∈ xs -> d.weight <= WData.weightAll xs
 | [], d, h => absurd h (by simp)
 | x :: r, d, h => by
  show d.weight <= x.weight + 1 + WData.weightAll r
  rcases List.mem_cons.mp h with e | m
  ·rw [e]
   lia
  ·have z := wU m
   lia
noncomputable def toV : Value -> V
 | .none => .non
 | .bool b => .bl b
 | .int i _ => .int i
 | .str x _ => .str x
 | .bytes b _ => .byt b
 | .ref a => .ref a
 | _ => .non
noncomputable def OkU (A : List Addr) : Value -> Prop
 | .none => True
 | .bool _ => True
 | .int _ _ => True
 | .str _ _ => True
 | .bytes _ _ => True
 | .ref a => a ∈ A
 | _ => False
theorem OkU.mono {A B : List Addr} (h : ∀ a ∈ A, a ∈ B) : ∀ {u : Value}, OkU A u -> OkU B u := fun {u} x => by
 cases u with
 | ref a => exact h a x
 | none => trivial
 | bool b => trivial
 | int i t => trivial
 | str s t => trivial
 | bytes b t => trivial
 | _ => exact False.elim x
theorem Vg {A : List Addr} {u : Value} (x : OkU A u) : RelV (toV u) u := by
 cases u with
 | ref a => rfl
 | none => rfl
 | bool b => rfl
 | int i t => exact ⟨t, rfl⟩
 | str s t => exact ⟨t, rfl⟩
 | bytes b t => exact ⟨t, rfl⟩
 | _ => exact False.elim x
theorem vX {A : List Addr} : ∀ {vs : List Value}, (∀ u ∈ vs, OkU A u) -> Vals (vs.map toV) vs
 | [], _ => .nil
 | u :: r, h => .cons (Vg (h u (List.mem_cons_self ..))) (vX fun x hx => h x (List.mem_cons_of_mem _ hx))
noncomputable def we (h : Heap) (A : List Addr) (a : Addr) : Prop := ∃ vs : List Value, vs.length <= sizeLine /\ (∀ u ∈ vs, OkU A u) /\
 (h.get? a = some { cls := .type "list", data := .seq vs.toArray } \/ h.get? a = some { cls := .type "tuple", data := .seq vs.toArray })
theorem we.mono {h : Heap} {A B : List Addr} {a : Addr} (k : ∀ a ∈ A, a ∈ B) (x : we h A a) : we h B a := by
 obtain ⟨vs, h1, h2, h3⟩ := x
 exact ⟨vs, h1, fun u hu => (h2 u hu).mono k, h3⟩
theorem vL {P : Params} {h : Heap} : ∀ {vs : List Value} {ds : List WData}, WellAll P h vs ds -> vs.length = ds.length
 | _, _, .nil => rfl
 | _, _, .cons _ b => by
  show _ + 1 = _ + 1
  rw [vL b]
theorem yV {P : Params} {h : Heap} {v : Value} {ds : List WData} (x : Well P h v (.list ds)) : ∃ (a : Addr) (vs : List Value), v = .ref a /\ h.get? a = some { cls := .type "list", data := .seq vs.toArray } /\ WellAll P h vs ds := by
 cases x with
 | list ho hall => exact ⟨_, _, rfl, ho, hall⟩
theorem z5 {P : Params} {h : Heap} {v : Value} {ds : List WData} (x : Well P h v (.tuple ds)) : ∃ (a : Addr) (vs : List Value), v = .ref a /\ h.get? a = some { cls := .type "tuple", data := .seq vs.toArray } /\ WellAll P h vs ds := by
 cases x with
 | tuple ho hall => exact ⟨_, _, rfl, ho, hall⟩
theorem y9 {P : Params} {h : Heap} {us : List Value} {d : WData} {ds : List WData} (x : WellAll P h us (d :: ds)) : ∃ (v : Value) (vs : List Value), us = v :: vs /\ Well P h v d /\ WellAll P h vs ds := by
 cases x with
 | cons a b => exact ⟨_, _, rfl, a, b⟩
theorem jM {n : Nat} (h : n <= 1048576) : n <= sizeLine := Nat.le_trans h (by decide)
section
variable {P : Params} {h : Heap}
mutual
theorem Q3 : ∀ (d : WData) (v : Value), Well P h v d -> plW d = true -> d.weight <= 1048576 -> ∃ A : List Addr, OkU A v /\ ∀ a ∈ A, we h A a
 | .none, _, x, _, _ => by
  cases x
  exact ⟨[], trivial, fun a m => absurd m (by simp)⟩
 | .bool b, _, x, _, _ => by
  cases x
  exact ⟨[], trivial, fun a m => absurd m (by simp)⟩
 | .int i, _, x, _, _ => by
  cases x
  exact ⟨[], trivial, fun a m => absurd m (by simp)⟩
 | .str s, _, x, _, _ => by
  cases x
  exact ⟨[], trivial, fun a m => absurd m (by simp)⟩
 | .bytes b, _, x, _, _ => by
  cases x
  exact ⟨[], trivial, fun a m => absurd m (by simp)⟩
 | .list ds, _, x, p, z => by
  obtain ⟨a, vs, rfl, ho, hall⟩ := yV x
  have z2 : WData.weightAll ds <= 1048576 := z
  obtain ⟨A, h1, h2⟩ := zh ds _ hall p fun d hd => Nat.le_trans (wU hd) z2
  have k : ∀ b ∈ A, b ∈ a :: A := fun b hb => List.mem_cons_of_mem _ hb
  refine ⟨a :: A, List.mem_cons_self .., fun b hb => ?_⟩
  rcases List.mem_cons.mp hb with e | m
  ·rw [e]
   exact ⟨vs, jM (by rw [vL hall]; exact Nat.le_trans (PySem.W.length_le_weightAllW ds) z2), fun u hu => (h1 u hu).mono k, .inl ho⟩
  ·exact (h2 b m).mono k
 | .tuple ds, _, x, p, z => by
  obtain ⟨a, vs, rfl, ho, hall⟩ := z5 x
  have z2 : WData.weightAll ds <= 1048576 := z
  obtain ⟨A, h1, h2⟩ := zh ds _ hall p fun d hd => Nat.le_trans (wU hd) z2
  have k : ∀ b ∈ A, b ∈ a :: A := fun b hb => List.mem_cons_of_mem _ hb
  refine ⟨a :: A, List.mem_cons_self .., fun b hb => ?_⟩
  rcases List.mem_cons.mp hb with e | m
  ·rw [e]
   exact ⟨vs, jM (by rw [vL hall]; exact Nat.le_trans (PySem.W.length_le_weightAllW ds) z2), fun u hu => (h1 u hu).mono k, .inr ho⟩
  ·exact (h2 b m).mono k
 | .float _, _, _, p, _ => Bool.noConfusion (show false = true from p)
 | .dict _, _, _, p, _ => Bool.noConfusion (show false = true from p)
 | .bytearray _, _, _, p, _ => Bool.noConfusion (show false = true from p)
 | .set _, _, _, p, _ => Bool.noConfusion (show false = true from p)
 | .frozenset _, _, _, p, _ => Bool.noConfusion (show false = true from p)
 | .obj _ _, _, _, p, _ => Bool.noConfusion (show false = true from p)
theorem zh : ∀ (ds : List WData) (vs : List Value), WellAll P h vs ds -> zD ds = true -> (∀ d ∈ ds, d.weight <= 1048576) -> ∃ A : List Addr, (∀ u ∈ vs, OkU A u) /\ ∀ a ∈ A, we h A a
 | [], _, x, _, _ => by
  cases x
  exact ⟨[], fun u m => absurd m (by simp), fun a m => absurd m (by simp)⟩
 | d :: ds, _, x, p, z => by
  obtain ⟨v, vs, rfl, x1, x2⟩ := y9 x
  have q : plW d = true /\ zD ds = true := Bool.and_eq_true_iff.mp p
  obtain ⟨A, a1, a2⟩ := Q3 d v x1 q.1 (z d (List.mem_cons_self ..))
  obtain ⟨B, b1, b2⟩ := zh ds vs x2 q.2 fun e he => z e (List.mem_cons_of_mem _ he)
  have kA : ∀ b ∈ A, b ∈ A ++ B := fun b hb => List.mem_append.mpr (.inl hb)
  have kB : ∀ b ∈ B, b ∈ A ++ B := fun b hb => List.mem_append.mpr (.inr hb)
  refine ⟨A ++ B, fun u hu => ?_, fun b hb => ?_⟩
  ·rcases List.mem_cons.mp hu with e | m
   ·rw [e]
    exact a1.mono kA
   ·exact (b1 u m).mono kB
  ·rcases List.mem_append.mp hb with m | m
   ·exact (a2 b m).mono kA
   ·exact (b2 b m).mono kB
end
end
noncomputable def Wk (o : Obj) : Option HO := match o.data with
 | .seq vs _ => if (o.cls == Value.type "list") = true then some (.frz o (.lst (vs.toList.map toV))) else some (.frz o (.tup (vs.toList.map toV)))
 | _ => none
noncomputable def wa (K : PySem.W.Frag) (h : Heap) (A : List Addr) : Hp := fun b => if b ∈ A then (if (K.lookup b).isNone = true then (h.get? b).bind Wk else none) else none
noncomputable def WU (H : Hp) : Prop := ∀ b, H b = none \/ ∃ o u, H b = some (.frz o u)
theorem uj (vs : List Value) : Wk { cls := .type "list", data := .seq vs.toArray } = some (.frz { cls := .type "list", data := .seq vs.toArray } (.lst (vs.map toV))) := by
 show (if (Value.type "list" == Value.type "list") = true then some (HO.frz { cls := .type "list", data := .seq vs.toArray } (.lst (vs.toArray.toList.map toV))) else some (HO.frz { cls := .type "list", data := .seq vs.toArray } (.tup (vs.toArray.toList.map toV)))) = _
 rw [if_pos (beq_self_eq_true _)]
theorem ur (vs : List Value) : Wk { cls := .type "tuple", data := .seq vs.toArray } = some (.frz { cls := .type "tuple", data := .seq vs.toArray } (.tup (vs.map toV))) := by
 show (if (Value.type "tuple" == Value.type "list") = true then some (HO.frz { cls := .type "tuple", data := .seq vs.toArray } (.lst (vs.toArray.toList.map toV))) else some (HO.frz { cls := .type "tuple", data := .seq vs.toArray } (.tup (vs.toArray.toList.map toV)))) = _
 rw [if_neg (by decide)]
section
variable {P : Program} {w : World} {K : PySem.W.Frag} {h : Heap} {A : List Addr}
theorem zO {b : Addr} {o : Obj} (hb : b ∈ A) (hk : K.lookup b = none) (e : h.get? b = some o) : wa K h A b = Wk o := by
 unfold wa
 rw [if_pos hb, hk, if_pos (show (none : Option Obj).isNone = true from rfl), e] <;> rfl
theorem VJ {b : Addr} {u : HO} (q : wa K h A b = some u) : b ∈ A /\ K.lookup b = none := by
 unfold wa at q
 by_cases hb : b ∈ A
 ·rw [if_pos hb] at q
  cases hk : K.lookup b with
  | none => exact ⟨hb, rfl⟩
  | some o =>
   rw [hk, if_neg (by simp)] at q
   cases q
 ·rw [if_neg hb] at q
  cases q
theorem zL (ar : ∀ a ∈ A, we h A a) {b : Addr} {u : HO} (q : wa K h A b = some u) : K.lookup b = none /\ ∃ vs : List Value, vs.length <= sizeLine /\ (∀ u ∈ vs, OkU A u) /\
    ((h.get? b = some { cls := .type "list", data := .seq vs.toArray } /\ u = .frz { cls := .type "list", data := .seq vs.toArray } (.lst (vs.map toV))) \/
     (h.get? b = some { cls := .type "tuple", data := .seq vs.toArray } /\ u = .frz { cls := .type "tuple", data := .seq vs.toArray } (.tup (vs.map toV)))) := by
  obtain ⟨hb, hk⟩ := VJ q
  obtain ⟨vs, h1, h2, h3⟩ := ar b hb
  refine ⟨hk, vs, h1, h2, ?_⟩
  rcases h3 with e | e
  · rw [zO hb hk e, uj] at q
    exact .inl ⟨e, (Option.some.inj q).symm⟩
  · rw [zO hb hk e, ur] at q
    exact .inr ⟨e, (Option.some.inj q).symm⟩
theorem jU (ar : ∀ a ∈ A, we h A a) : WU (wa K h A) := fun b => by
 cases q : wa K h A b with
 | none => exact .inl rfl
 | some u =>
  obtain ⟨_, vs, _, _, ⟨_, e⟩ | ⟨_, e⟩⟩ := zL ar q
  ·exact .inr ⟨_, _, by rw [e]⟩
  ·exact .inr ⟨_, _, by rw [e]⟩
theorem Wz (ar : ∀ a ∈ A, we h A a) : HOk P w (wa K h A) h := fun b u q => by
 obtain ⟨_, vs, h1, h2, ⟨e, rfl⟩ | ⟨e, rfl⟩⟩ := zL ar q
 ·exact ⟨e, by rw [List.length_map]; exact h1, vs, _, vX h2, e⟩
 ·exact ⟨e, by rw [List.length_map]; exact h1, vs, vX h2, _, e, rfl, _, rfl⟩
theorem zQ {c c' : Value} {vs us : List Value} (e : (some { cls := c, data := .seq vs.toArray } : Option Obj) = some { cls := c', data := .seq us.toArray }) : c = c' /\ vs = us := by
 have e1 := Option.some.inj e
 have e2 : c = c' := congrArg Obj.cls e1
 have e3 : Data.seq vs.toArray = Data.seq us.toArray := congrArg Obj.data e1
 injection e3 with e4
 refine ⟨e2, ?_⟩
 have e5 := congrArg Array.toList e4
 simpa using e5
theorem Xi (KX : K.In h) (ar : ∀ a ∈ A, we h A a) {a : Addr} {vs : List Value} (ha : a ∈ A) (e : h.get? a = some { cls := .type "list", data := .seq vs.toArray }) : (∀ u ∈ vs, OkU A u) /\ SqL K (wa K h A) a (vs.map toV) := by
 obtain ⟨us, h1, h2, h3⟩ := ar a ha
 have hu : us = vs := by
  rcases h3 with q | q
  ·rw [e] at q
   exact (zQ q).2.symm
  ·rw [e] at q
   exact absurd (Value.type.inj (zQ q).1) (by decide)
 subst hu
 refine ⟨h2, ?_⟩
 cases hk : K.lookup a with
 | none => exact .inl (.inr ⟨_, by rw [zO ha hk e, uj]⟩)
 | some o =>
  have e2 := KX a o hk
  rw [e] at e2
  obtain rfl := Option.some.inj e2
  exact .inr ⟨_, us.toArray, _, hk, rfl, rfl, rfl, by rw [List.size_toArray]; exact h1, by simpa using vX h2⟩
theorem Xm (KX : K.In h) (ar : ∀ a ∈ A, we h A a) {a : Addr} {vs : List Value} (ha : a ∈ A) (e : h.get? a = some { cls := .type "tuple", data := .seq vs.toArray }) : (∀ u ∈ vs, OkU A u) /\ SqT K (wa K h A) a (vs.map toV) := by
 obtain ⟨us, h1, h2, h3⟩ := ar a ha
 have hu : us = vs := by
  rcases h3 with q | q
  ·rw [e] at q
   exact absurd (Value.type.inj (zQ q).1) (by decide)
  ·rw [e] at q
   exact (zQ q).2.symm
 subst hu
 refine ⟨h2, ?_⟩
 cases hk : K.lookup a with
 | none => exact .inl (.inr ⟨_, by rw [zO ha hk e, ur]⟩)
 | some o =>
  have e2 := KX a o hk
  rw [e] at e2
  obtain rfl := Option.some.inj e2
  exact .inr ⟨_, us.toArray, _, hk, rfl, rfl, by rw [List.size_toArray]; exact h1, by simpa using vX h2⟩
mutual
theorem ZW {Pm : Params} (KX : K.In h) (ar : ∀ a ∈ A, we h A a) : ∀ (d : WData) (v : Value), Well Pm h v d -> plW d = true -> OkU A v -> Dw K (wa K h A) (toV v) d
 | .none, _, x, _, _ => by
  cases x
  exact .non
 | .bool b, _, x, _, _ => by
  cases x
  exact .bl b
 | .int i, _, x, _, _ => by
  cases x
  exact .int i
 | .str s, _, x, _, _ => by
  cases x
  exact .str s
 | .bytes b, _, x, _, _ => by
  cases x
  have z := Dw.byt (K := K) (H := wa K h A) b.toArray
  exact z
 | .list ds, _, x, p, hu => by
  obtain ⟨a, vs, rfl, ho, hall⟩ := yV x
  obtain ⟨h2, hs⟩ := Xi KX ar hu ho
  exact .lst hs (xJ KX ar ds _ hall p h2)
 | .tuple ds, _, x, p, hu => by
  obtain ⟨a, vs, rfl, ho, hall⟩ := z5 x
  obtain ⟨h2, hs⟩ := Xm KX ar hu ho
  exact .tup hs (xJ KX ar ds _ hall p h2)
 | .float _, _, _, p, _ => Bool.noConfusion (show false = true from p)
 | .dict _, _, _, p, _ => Bool.noConfusion (show false = true from p)
 | .bytearray _, _, _, p, _ => Bool.noConfusion (show false = true from p)
 | .set _, _, _, p, _ => Bool.noConfusion (show false = true from p)
 | .frozenset _, _, _, p, _ => Bool.noConfusion (show false = true from p)
 | .obj _ _, _, _, p, _ => Bool.noConfusion (show false = true from p)
theorem xJ {Pm : Params} (KX : K.In h) (ar : ∀ a ∈ A, we h A a) : ∀ (ds : List WData) (vs : List Value), WellAll Pm h vs ds -> zD ds = true -> (∀ u ∈ vs, OkU A u) -> vj K (wa K h A) (vs.map toV) ds
 | [], _, x, _, _ => by
  cases x
  exact .nil
 | d :: ds, _, x, p, hu => by
  obtain ⟨v, vs, rfl, x1, x2⟩ := y9 x
  have q : plW d = true /\ zD ds = true := Bool.and_eq_true_iff.mp p
  exact .cons (ZW KX ar d v x1 q.1 (hu _ (List.mem_cons_self ..))) (xJ KX ar ds vs x2 q.2 fun u m => hu u (List.mem_cons_of_mem _ m))
end
end
theorem yu {ds : List WData} (h : WData.layableAll ds = true) : ∀ d ∈ ds, d.weight <= 1048576 := fun d hd =>
 (PySem.W.layableW_iff.mp (List.all_eq_true.mp h d hd)).2.2
theorem z6 : ∀ (cs : List Codec) (a : Codec.denoteAll cs), (Codec.encAll cs a).length = cs.length
 | [], _ => rfl
 | c :: cs, a => by
  show (Codec.encAll cs a.2).length + 1 = cs.length + 1
  rw [z6 cs a.2]
end L2
end
section
namespace L2
open PySem PySem.Spec PyProof.Rows
noncomputable def qD (s : Stmt) : Arguments := match s with
 | .FunctionDef _ a _ _ _ _ _ _ _ _ => a
 | _ => { posonlyargs := [], args := [], vararg := none, kwonlyargs := [], kw_defaults := [], kwarg := none, defaults := [] }
noncomputable def qt (s : Stmt) : List Stmt := match s with
 | .FunctionDef _ _ b _ _ _ _ _ _ _ => b
 | _ => []
noncomputable def qa (s : Stmt) : Scope := match s with
 | .FunctionDef _ _ _ _ _ _ sc _ _ _ => sc
 | _ => { kind := .function, names := [], isGenerator := false, isCoroutine := false }
structure Fun (K : PySem.W.Frag) (x qual : Str) (st : Stmt) (f : Addr) (fd : FuncData) : Prop where
 ex : ∃ (oc : Value) (od : Option Addr) (kV doc pm : Value) (an : Option Addr) (cdv ct : Value) (osl : Array (Option Value)),
  fd = PySem.W.fnOf x qual (qD st) (qt st) (qa st) .none kV doc pm an cdv ct /\ K.lookup f = some ⟨oc, od, .func fd, osl⟩ /\ PySem.W.codeIn K cdv qual = true
 kp : PySem.W.keepIn K (.ref f) = true
section
variable {P : Program} {w : World} {K : PySem.W.Frag} {mg : Str -> Option Value} {base : Heap}
theorem Fun.binds {x qual : Str} {st : Stmt} {f : Addr} {fd : FuncData} {ps : List Str} (F : Fun K x qual st f fd)
  (h : ∀ (kV doc pm : Value) (an : Option Addr) (cdv ct : Value) (us : List Value), us.length = ps.length -> bindArgs (PySem.W.fnOf x qual (qD st) (qt st) (qa st) .none kV doc pm an cdv ct) ⟨us, []⟩ = pure (ps.zip us)) : Binds K fd ps [] := by
 obtain ⟨oc, od, kV, doc, pm, an, cdv, ct, osl, rfl, lk, hcd⟩ := F.ex
 exact .all (h kV doc pm an cdv ct)
theorem vF {x qual : Str} {st : Stmt} {f : Addr} {oc : Value} {od an : Option Addr} {osl : Array (Option Value)} {kV doc pm cdv ct : Value} (l : K.lookup f = some ⟨oc, od, .func (PySem.W.fnOf x qual (qD st) (qt st) (qa st) .none kV doc pm an cdv ct), osl⟩)
  (c : PySem.W.codeIn K cdv qual = true) (k : PySem.W.keepIn K (.ref f) = true) : Fun K x qual st f (PySem.W.fnOf x qual (qD st) (qt st) (qa st) .none kV doc pm an cdv ct) := ⟨⟨oc, od, kV, doc, pm, an, cdv, ct, osl, rfl, l, c⟩, k⟩
end
noncomputable def qh (H H' : Hp) : Prop := ∀ b o, H b = some o -> H' b = some o
theorem qh.trans {H H1 H2 : Hp} (a : qh H H1) (b : qh H1 H2) : qh H H2 := fun c o h => b c o (a c o h)
theorem qh.free {H H' : Hp} (e : qh H H') {l : Addr} (h : H' l = Option.none) : H l = Option.none := by
 cases q : H l with
 | none => rfl
 | some o =>
  rw [e l o q] at h
  cases h
theorem qh.seq {K : PySem.W.Frag} {H H' : Hp} {a : Addr} {xs : List V} (e : qh H H') (h : SqL K H a xs) : SqL K H' a xs := by
 rcases h with (h | ⟨o, h⟩) | h
 ·exact .inl (.inl (e _ _ h))
 ·exact .inl (.inr ⟨o, e _ _ h⟩)
 ·exact .inr h
end L2
end
namespace L2
open PySem PySem.Spec PyProof.Rows
noncomputable def Rel (X : Cx) (pins : List (Addr × Obj)) (H : Hp) (b : Addr) : Prop :=
 H b ≠ none \/ (∃ o, X.s_0.heap.get? b = some o /\ b ∉ X.ex) \/ (∃ x, X.env.cells.lookup x = some b) \/ b = X.env.locals \/ ∃ p ∈ X.pn ++ pins, p.1 = b
theorem Qu {P : Program} {w : World} {H : Hp} {h : Heap} {a : Addr} {o : HO} (x : vq P w H h a o) : ∃ ob, h.get? a = some ob := by
 cases o with
 | lst xs => obtain ⟨_, _, _, _, e⟩ := x; exact ⟨_, e⟩
 | tup xs => obtain ⟨_, _, _, ob, p, _⟩ := x; exact ⟨ob, p⟩
 | dK kvs => obtain ⟨_, _, _, _, o, _, _, e, _⟩ := x; exact ⟨_, e⟩
 | dT kvs => obtain ⟨_, _, _, _, o, _, _, e, _⟩ := x; exact ⟨_, e⟩
 | set S n => obtain ⟨o, _, _, _, e, _⟩ := x; exact ⟨_, e⟩
 | ins C dx fs => obtain ⟨_, _, _, e, _⟩ := x; exact ⟨_, e⟩
 | own y => exact x
 | xd fs => obtain ⟨_, ⟨o, _, _, e, _⟩, _⟩ := x; exact ⟨_, e⟩
 | rng lo hi => obtain ⟨_, _, _, e⟩ := x; exact ⟨_, e⟩
 | frz ob u => exact ⟨_, x.1⟩
 | tbl ps => exact ⟨_, x⟩
 | met f y => exact ⟨_, x⟩
 | ext φ => exact x.2.1
section
variable {X : Cx} {pins : List (Addr × Obj)} {σ : St} {H H' : Hp} {s s' : Shared} {h' : Heap}
theorem zK (I : Inv X pins σ H s) {b : Addr} (r : Rel X pins H b) : ∃ o, s.heap.get? b = some o := by
 rcases r with r | ⟨o, e, hx⟩ | ⟨x, e⟩ | rfl | ⟨p, hp, rfl⟩
 ·cases q : H b with
  | none => exact absurd q r
  | some u => exact Qu (I.hok b u q)
 ·exact I.base.there b o e hx
 ·obtain ⟨v, o, ho, _⟩ := I.cell x b e
  exact ⟨o, ho⟩
 ·obtain ⟨m, ⟨o, _, _, ho, _⟩, _⟩ := I.loc
  exact ⟨o, ho⟩
 ·exact ⟨_, (I.pin p hp).1⟩
theorem QN (I : Inv X pins σ H s) {b : Addr} (h : b ∈ X.fs) : b ∈ frs X.stack := by
 rcases I.ok.stk with e | ⟨e, hf⟩
 ·rw [e]; exact h
 ·rw [e]; unfold frs; rw [List.filterMap_cons, hf]; exact List.mem_cons_of_mem _ h
theorem Qi {t' : Nat} (I : Inv X pins σ H s) (kp : ∀ b o, Rel X pins H b -> b ∉ frs X.stack -> s.heap.get? b = some o -> h'.get? b = some o)
  (sl : ∀ b o, b ∈ frs X.stack -> s.heap.get? b = some o -> ∃ sl, h'.get? b = some { o with slots := sl }) : Inv X pins σ H { s with heap := h', toks := t' } := by
 have any : ∀ b o, Rel X pins H b -> s.heap.get? b = some o -> ∃ sl, h'.get? b = some { o with slots := sl } := fun b o r e => by
  by_cases hb : b ∈ frs X.stack
  ·exact sl b o hb e
  ·exact ⟨o.slots, kp b o r hb e⟩
 have cellK : ∀ x c, X.env.cells.lookup x = some c -> ∀ v, s.heap.IsCell c v -> h'.IsCell c v := fun x c e v ⟨o, ho, hd⟩ => by
  obtain ⟨sl', q⟩ := any c o (.inr (.inr (.inl ⟨x, e⟩))) ho
  exact ⟨_, q, hd⟩
 refine ⟨I.ok, I.os, I.bare, ⟨fun b o e n hb hx => ?_, fun b o e n hb hx => ?_, I.base.free, fun b o e hx => ?_, I.base.tups, I.base.frzs, I.base.tbls⟩, ?_, fun x c e => ?_, I.free, I.freeC, fun p hp => ?_, fun b u e => ?_, I.len⟩
 ·have q := I.base.keep b o e n hb hx
  refine kp b o (.inr (.inl ⟨o, e, hx⟩)) (fun z => ?_) q
  rcases List.mem_cons.mp (I.vR b z) with z | z
  ·exact absurd (Nat.lt_of_lt_of_le (Heap.lt_size e) I.ok.above) (by rw [z]; exact Nat.lt_irrefl _)
  ·exact hb z
 ·obtain ⟨s1, q⟩ := I.base.slot b o e n hb hx
  obtain ⟨s2, q2⟩ := sl b _ (QN I hb) q
  exact ⟨s2, q2⟩
 ·obtain ⟨o', q⟩ := I.base.there b o e hx
  obtain ⟨s2, q2⟩ := any b o' (.inr (.inl ⟨o, e, hx⟩)) q
  exact ⟨_, q2⟩
 ·obtain ⟨m, ⟨o, es, ep, ho, r⟩, hl⟩ := I.loc
  obtain ⟨s2, q2⟩ := any _ o (.inr (.inr (.inr (.inl rfl)))) ho
  refine ⟨m, ⟨_, es, ep, q2, r⟩, fun i x v e1 e2 e3 => ?_⟩
  obtain ⟨u, r, l⟩ := hl i x v e1 e2 e3
  refine ⟨u, r, ?_⟩
  rcases l with l | ⟨k, c, e, z⟩
  ·exact .inl l
  ·exact .inr ⟨k, c, e, cellK x c e _ z⟩
 ·obtain ⟨v, z⟩ := I.cell x c e
  exact ⟨v, cellK x c e v z⟩
 ·obtain ⟨e, n, ne, nf, d⟩ := I.pin p hp
  refine ⟨kp p.1 p.2 (.inr (.inr (.inr (.inr ⟨p, hp, rfl⟩)))) (fun z => ?_) e, n, ne, nf, d⟩
  rcases List.mem_cons.mp (I.vR p.1 z) with z | z
  ·exact ne z
  ·exact nf z
 ·refine (I.hok b u e).yN (fun c w hc q => ?_) (fun _ q => q) fun _ _ q => q
  have hne : H c ≠ none := by
   rcases hc with z | z
   ·rw [z, e]; exact fun z => nomatch z
   ·rw [z]; exact fun z => nomatch z
  exact kp c w (.inl hne) (fun z => hne (I.xD c z)) q
end
noncomputable def Trd (h B : Heap) (e : Addr) (cls : Value) : Prop :=
 ∃ oe vs a0, h.get? e = some oe /\ oe.cls = cls /\ oe.data = .fields vs /\ vs[0]? = some a0 /\
  (vs[1]? = some .none \/ ∃ T oT ts f, vs[1]? = some (.ref T) /\ B.get? T = none /\ T ≠ e /\ h.get? T = some oT /\ oT.data = .fields ts /\ ts[3]? = some f)
noncomputable def Q9 (h B : Heap) (e : Addr) (cls : Value) : Prop :=
 ∃ oe vs a0, h.get? e = some oe /\ oe.cls = cls /\ oe.data = .fields vs /\ vs[0]? = some a0 /\
  ∃ T oT ts f, vs[1]? = some (.ref T) /\ B.get? T = none /\ T ≠ e /\ h.get? T = some oT /\ oT.data = .fields ts /\ ts[3]? = some f
theorem Q9.trd {h B : Heap} {e : Addr} {cls : Value} (x : Q9 h B e cls) : Trd h B e cls := by
 obtain ⟨oe, vs, a0, h1, h2, h3, h4, r⟩ := x
 exact ⟨oe, vs, a0, h1, h2, h3, h4, .inr r⟩
noncomputable def Hand (B : Heap) (l : List Env) (e : Addr) (cls : Value) (h : Heap) : Prop := B.StaysIn h /\ B.get? e = none /\ h.FunFrames B l /\ Trd h B e cls
noncomputable def v9 (B : Heap) (l : List Env) (e : Addr) (cls : Value) (h : Heap) : Prop := B.StaysIn h /\ B.get? e = none /\ h.FunFrames B l /\ Q9 h B e cls
theorem v9.hand {B : Heap} {l : List Env} {e : Addr} {cls : Value} {h : Heap} (x : v9 B l e cls h) : Hand B l e cls h := ⟨x.1, x.2.1, x.2.2.1, x.2.2.2.trd⟩
section
variable {M : Model} {A : Around} {E : Value -> Shared -> Prop} {s : Shared} {B : Heap} {env env' : Env} {outer : List Env} {L e : Addr} {cls : Value} {Q : Unit -> Shared -> Prop}
theorem v5 (hfr : A.frames = some (env :: outer)) (hf : env.frame = some L) (hf' : env'.frame = some L) (x : Hand B (env :: outer) e cls s.heap)
  (h : ∀ h', v9 B (env :: outer) e cls h' -> s.heap.UpToSlots h' -> Q () { s with heap := h' }) : wpAny M A (noteFrame (.ref e) env') Q E s := by
 have en : noteFrame (.ref e) env' = noteFrame (.ref e) env := by
  unfold noteFrame PySem.frameOf
  rw [hf, hf']
 rw [en]
 obtain ⟨kb, hen, hl, oe, vs, a0, he, hcls, hd, h0, r⟩ := x
 subst hcls
 have fin : ∀ h', Heap.NotedW B (env :: outer) e oe.cls a0 (rawInt L) s.heap h' -> Q () { s with heap := h' } := fun h' ⟨k1, k2, k3, k4⟩ => by
  obtain ⟨oe', vs', T, oT, ts, g1, g2, g3, g4, g5, g6, g7, g8, g9⟩ := k3
  exact h h' ⟨k1, hen, k2, oe', vs', a0, g1, g2.1, g3, g2.2, T, oT, ts, _, g4, g5, g6, g7, g8, g9⟩ k4
 rcases r with h1 | ⟨T, oT, ts, f, h1, hnT, hTe, hT, hdT, h3⟩
 ·unfold noteFrame
  simp only [hf]
  refine wpAny_bind (wpAny_field he hd h1 ?_)
  rw [if_neg (by decide)]
  exact wpAny_entryW hfr hl hf he kb hen hd (Array.getElem?_eq_some_iff.mp h1).1 h0 fin
 ·unfold noteFrame
  simp only [hf]
  refine wpAny_bind (wpAny_field he hd h1 ?_)
  rw [if_pos (show (Value.ref T != Value.none) = true from by simp)]
  refine wpAny_bind (wpAny_field hT hdT h3 ?_)
  by_cases hc : (f == rawInt L) = true
  ·rw [if_pos hc]
   exact wpAny_pure (h s.heap ⟨kb, hen, hl, oe, vs, a0, he, rfl, hd, h0, T, oT, ts, f, h1, hnT, hTe, hT, hdT, h3⟩ (.refl _))
  ·rw [if_neg hc]
   refine wpAny_bind (wpAny_setField hT hdT (Array.getElem?_eq_some_iff.mp h3).1 ?_)
   have other : ∀ b, b ≠ T -> (s.heap.update T (Obj.mapFields (·.setIfInBounds 3 Value.none))).get? b = s.heap.get? b := fun b hb => Heap.get?_update_other _ _ (Ne.symm hb)
   have noRecord : ∀ b o, s.heap.get? b = some o -> (∀ vs, o.data ≠ .fields vs) -> b ≠ T := fun b o hb hnf q => by
    rw [q, hT] at hb; injection hb with hb; subst hb; exact hnf ts hdT
   refine wpAny_entryW hfr (hl.of_keeps fun b o hb hnf => ⟨o, (other b (noRecord b o hb hnf)).trans hb, rfl⟩) hf ((other e (Ne.symm hTe)).trans he)
    (fun b o hbo => (other b fun q => by rw [q, hnT] at hbo; cases hbo).trans (kb b o hbo)) hen hd (Array.getElem?_eq_some_iff.mp h1).1 h0
    fun h' ⟨x1, x2, x3, x4⟩ => fin h' ⟨x1, x2, x3, fun b o hb hnf => x4 b o ((other b (noRecord b o hb hnf)).trans hb) hnf⟩
theorem qT {l : List Env} {fr : Option Addr} (x : v9 B l e cls s.heap) (h : ∀ h', v9 B l e cls h' -> s.heap.UpToSlots h' -> Q () { s with heap := h' }) : wpAny M A (setFlight (.ref e) fr) Q E s := by
 obtain ⟨kb, hen, hl, oe, vs, a0, he, hcls, hd, h0, T, oT, ts, f, h1, hnT, hTe, hT, hdT, h3⟩ := x
 have hsz : 3 < ts.size := (Array.getElem?_eq_some_iff.mp h3).1
 unfold setFlight
 refine wpAny_bind (wpAny_field he hd h1 ?_)
 rw [if_pos (show (Value.ref T != Value.none) = true from by simp)]
 refine wpAny_setField hT hdT hsz ?_
 have other : ∀ (v : Value) b, b ≠ T -> (s.heap.update T (Obj.mapFields (·.setIfInBounds 3 v))).get? b = s.heap.get? b := fun v b hb => Heap.get?_update_other _ _ (Ne.symm hb)
 have noRecord : ∀ b o, s.heap.get? b = some o -> (∀ vs, o.data ≠ .fields vs) -> b ≠ T := fun b o hb hnf q => by
  rw [q, hT] at hb; injection hb with hb; subst hb; exact hnf ts hdT
 refine h _ ⟨fun b o hbo => (other _ b fun q => by rw [q, hnT] at hbo; cases hbo).trans (kb b o hbo), hen, hl.of_keeps fun b o hb hnf => ⟨o, (other _ b (noRecord b o hb hnf)).trans hb, rfl⟩,
  oe, vs, a0, (other _ e (Ne.symm hTe)).trans he, hcls, hd, h0, T, _, _, fr.elim Value.none fun f => rawInt f, h1, hnT, hTe, Heap.get?_update_self _ hT (Obj.isFreed_of_fields (Obj.data_mapFields hdT _)), Obj.data_mapFields hdT _, Array.getElem?_setIfInBounds_self_of_lt hsz⟩ fun b o hb hn => ⟨o.slots, (other _ b (noRecord b o hb hn)).trans hb⟩
theorem w4 {l : List Env} {Q : Value -> Shared -> Prop} (x : v9 B l e cls s.heap) (h : ∀ T, Q (.ref T) s) : wpAny M A (field (.ref e) 1) Q E s := by
 obtain ⟨kb, hen, hl, oe, vs, a0, he, hcls, hd, h0, T, oT, ts, f, h1, _⟩ := x
 exact wpAny_field he hd h1 (h T)
end
noncomputable def Arr (X : Cx) (E : XK) (e : Value) (s' : Shared) : Prop :=
 ∃ (a : Addr) (cls : Value) (B : Heap) (H' : Hp) (pins : List (Addr × Obj)) (σ : St), e = .ref a /\ Inv X pins σ H' s' /\ Hand B X.stack a cls s'.heap /\
  (∀ b o, s'.heap.get? b = some o -> b ∉ frs X.stack -> Rel X pins H' b -> B.get? b = some o) /\ E cls none H'
noncomputable def CX1 (P : Program) (w : World) : CXT := fun outer H s E e s' =>
 ∃ (a : Addr) (cls : Value) (B : Heap) (H' : Hp), e = .ref a /\ s'.os = s.os /\ AllBare s'.gens /\ Un (frs outer) [] H H' s.heap s'.heap /\ HOk P w H' s'.heap /\ Hand B outer a cls s'.heap /\
  (∀ b o, s'.heap.get? b = some o -> b ∉ frs outer -> (H' b ≠ none \/ ∃ o', s.heap.get? b = some o') -> B.get? b = some o) /\ E cls none H'
theorem rebase {h base B : Heap} : ∀ {l : List Env}, h.FunFrames base l -> (∀ b ∈ frs l, B.get? b = none) -> h.FunFrames B l
 | [], _, _ => trivial
 | env :: r, ⟨hk, ⟨L, o, hf, _, ho, hd⟩, hr⟩, hB => by
  refine ⟨hk, ⟨L, o, hf, hB L ?_, ho, hd⟩, rebase hr fun b hb => hB b ?_⟩
  ·unfold frs; rw [List.filterMap_cons, hf]; exact List.mem_cons_self
  ·unfold frs; rw [List.filterMap_cons, hf]; exact List.mem_cons_of_mem _ hb
section
variable {X : Cx} {pins : List (Addr × Obj)} {σ : St} {H H' : Hp} {s s' : Shared} {E E' : XK} {e : Value}
theorem Za (I : Inv X pins σ H s) (x : CX1 X.prog X.w X.stack H s E e s') : Arr X E e s' := by
 obtain ⟨a, cls, B, H', e1, ho, hg, un, hok, hd, kb, q⟩ := x
 have I' : Inv X pins σ H' s' := I.Qz (ch := []) ho un hok hg fun b z => absurd z (by simp)
 refine ⟨a, cls, B, H', pins, σ, e1, I', hd, fun b o hb hf r => kb b o hb hf ?_, q⟩
 rcases r with r | r
 ·exact .inl r
 ·exact .inr (zK I (.inr r))
theorem Qg {cls : Value} {a : Addr} {args : List Value} {h' : Heap} (I : Inv X pins σ H s) (m : Heap.MadeExcOf s.heap h' a cls args) (q : E cls none H) : Arr X E (.ref a) { s with heap := h' } := by
 have I' : Inv X pins σ H { s with heap := h' } := I.kept (t' := s.toks) m.keeps
 have hideN : ∀ b ∈ frs X.stack, (PySem.W.hideAll s.heap (frs X.stack)).get? b = none := fun b hb => PySem.W.hideAll_none _ hb
 refine ⟨a, cls, PySem.W.hideAll s.heap (frs X.stack), H, pins, σ, rfl, I', ⟨fun b o e => m.keeps b o (PySem.W.of_hideAll _ e), ?_, rebase I'.stack hideN, ?_⟩, fun b o hb hf r => ?_, q⟩
 ·cases z : (PySem.W.hideAll s.heap (frs X.stack)).get? a with
  | none => rfl
  | some o =>
   have := PySem.W.of_hideAll _ z
   rw [m.new] at this
   cases this
 ·obtain ⟨t, ht, _, _⟩ := m.there
  exact ⟨_, _, _, ht, rfl, rfl, rfl, .inl rfl⟩
 ·obtain ⟨o', ho'⟩ := zK I r
  have z := m.keeps b o' ho'
  have z2 : h'.get? b = some o := hb
  rw [z] at z2
  cases z2
  exact PySem.W.hideAll_get _ ho' hf
theorem qN {a : Addr} {cls : Value} {B : Heap} {h' : Heap} (I : Inv X pins σ H s) (hd : Hand B X.stack a cls s.heap) (kb : ∀ b o, s.heap.get? b = some o -> b ∉ frs X.stack -> Rel X pins H b -> B.get? b = some o)
  (hd' : Hand B X.stack a cls h') (up : s.heap.UpToSlots h') : Inv X pins σ H { s with heap := h' } /\ ∀ b o, h'.get? b = some o -> b ∉ frs X.stack -> Rel X pins H b -> B.get? b = some o := by
 refine ⟨Qi (t' := s.toks) I (fun b o r hf e => hd'.1 b o (kb b o e hf r)) fun b o hf e => ?_, fun b o hb hf r => ?_⟩
 ·obtain ⟨_, o', e', hn⟩ := hd.2.2.1.mem hf
  rw [e] at e'
  cases e'
  exact up b o e hn
 ·obtain ⟨o', e'⟩ := zK I r
  have z := hd'.1 b o' (kb b o' e' hf r)
  rw [hb] at z
  cases z
  exact kb b o e' hf r
end
noncomputable def Acc (X : Cx) (E : XK) : Prop := ∀ e s', Arr X E e s' -> X.xe e s'
theorem yr {X : Cx} {E : XK} (x : Acc X E) : Passes (CX1 X.prog X.w) X E := fun pins σ H s e s' I h => x e s' (Za I h)
theorem xt {P : Program} {w : World} {K : PySem.W.Frag} {mg : Str -> Option Value} {base : Heap} {N : List Str} {qual : Str} {scope : Scope} {f : Addr} {cd : Value} {A : Around} {outer : List Env} {s : Shared} {H : Hp} {E : XK} :
  Acc (wg (CX1 P w) P w K mg base N qual scope f cd A outer s H E) E := by
 intro e s1 x
 obtain ⟨a, cls, B, H', pins, σ, rfl, I, hd, kb, q⟩ := x
 show wpAny _ _ (leaving _ _) _ _ _
 unfold leaving
 refine wpAny_bind (v5 (outer := outer) I.ok.frames rfl rfl hd fun h1 hd1 up1 => ?_)
 obtain ⟨I1, kb1⟩ := qN I hd kb hd1.hand up1
 refine qT hd1 fun h2 hd2 up2 => ?_
 obtain ⟨I2, kb2⟩ := qN I1 hd1.hand kb1 hd2.hand up2
 obtain ⟨g1, g2, ⟨_, _, g3⟩, g4⟩ := hd2.hand
 refine ⟨a, cls, B, H', rfl, I2.os, I2.bare, I2.base, I2.hok, ⟨g1, g2, g3, g4⟩, fun b o hb hf r => kb2 b o hb (fun z => ?_) ?_, q⟩
 ·rcases List.mem_cons.mp (I2.vR b z) with z | z
  ·rcases r with r | ⟨o', r⟩
   ·exact r (by rw [z]; exact I2.free)
   ·exact absurd (Nat.lt_of_lt_of_le (Heap.lt_size r) I2.ok.above) (by rw [z]; exact Nat.lt_irrefl _)
  ·exact hf z
 ·rcases r with r | ⟨o', r⟩
  ·exact .inl r
  ·exact .inr (.inl ⟨o', r, fun z => nomatch z⟩)
noncomputable abbrev qW : List Value := [.type "Exception", .type "BaseException", .type "object"]
noncomputable abbrev vS : String := "Exception.__new__"
noncomputable def ExcAt (h : Heap) (C : Addr) : Prop := ∃ N nm q bs hdct sn sub ab col dd k0 k1 k2 k3 k5 mN,
 h.get? C = some (excClassObj nm q C N bs qW hdct sn sub ab col dd k0 k1 k2 k3 k5 vS) /\ h.Ns N mN /\ mN "__init__" = none
noncomputable def qx (K : PySem.W.Frag) (C : Addr) : Bool := match K.lookup C with
 | some ⟨.type "type", _, .cls cd, sl⟩ => (match sl.toList with
  | [_, _, _, _, some (.builtin n), _] => decide (cd.mro = .ref C :: qW) && decide (n = vS) && (cd.hasDel == false) && (PySem.W.nsOkIn K cd.ns && decide (PySem.W.nsIn K cd.ns "__init__" = some none))
  | _ => false)
 | _ => false
theorem vO {K : PySem.W.Frag} {h : Heap} {C : Addr} (X : K.In h) (q : qx K C = true) : ExcAt h C := by
 unfold qx at q
 split at q
 ·rename_i dd cd sl look
  split at q
  ·rename_i j0 j1 j2 j3 n j5 hsl
   rw [Bool.and_eq_true, Bool.and_eq_true, Bool.and_eq_true, Bool.and_eq_true] at q
   obtain ⟨⟨⟨hm, hn⟩, hdel⟩, hns, hini⟩ := q
   have hm := of_decide_eq_true hm
   have hn := of_decide_eq_true hn
   have hini := of_decide_eq_true hini
   have hdel := eq_of_beq hdel
   obtain ⟨nm, bs, mro, ns, qn, hd, sn, sub, ab, col, del⟩ := cd
   have hm : mro = _ := hm
   have hdel : del = false := hdel
   have hsl2 : sl = #[j0, j1, j2, j3, some (.builtin n), j5] := Array.toList_inj.mp hsl
   subst hm hdel hsl2 hn
   exact ⟨ns, nm, qn, bs, hd, sn, sub, ab, col, dd, j0, j1, j2, j3, j5, _, X _ _ look, .of_isNs (PySem.W.isNs_of_in X hns), PySem.W.nsMap_none_of_in X hns hini⟩
  ·cases q
 ·cases q
section
variable {X : Cx} {E : XK}
noncomputable def Zj (E : XK) (C : Addr) : TS := fun _ _ H => E (.ref C) none H
theorem QH {x : Str} {C : Addr} {np cpos pos : Pos} (hc : X.calm = true) (acc : Acc X E) (hg : Gl X x) (hm : X.mg x = some (.ref C)) (hC : qx X.K C = true) (hd : (x == ("__debug__" : Str)) = false := by decide) :
  PS X (.Raise (some (.Call (.Name x np) [] [] cpos)) none pos) (Zj E C) := by
 intro pins s σ H D I h
 obtain ⟨N, nm, q, bs, hdct, sn, sub, ab, col, dd, k0, k1, k2, k3, k5, mN, hC, hN, hi⟩ := vO I.kIn hC
 refine wpAny_Raise_call_subT (bmB := qW) (C := C) (N := N) (mN := mN) (newId := vS) (nm := nm) (q := q) (bs := bs) (bm := qW) (hdct := hdct) (sn := sn) (sub := sub) (ab := ab) (col := col) (dd := dd) (k0 := k0) (k1 := k1) (k2 := k2) (k3 := k3) (k5 := k5) PySem.F.excBase_Exception (by decide) (I.ok.hd hc) rfl hi ?_
 refine za I hg hm ⟨rfl, PySem.evalArgs_none ⟨rfl, by show 0 <= sizeLine; decide, hC, hN, .base, fun h' e m => ?_⟩⟩ hd
 exact acc _ _ (Qg I m h)
end
structure zl (sc ls : Scope) : Prop where
 kind : ls.kind = .function
 co : ls.isCoroutine = false
 gen : ls.isGenerator = false
 only : ∀ y ∈ ls.names, y.2 = .free \/ y.2 = .globalImplicit
 uniq : ∀ y ∈ ls.names, ls.names.lookup y.1 = some y.2
 free : ∀ y ∈ ls.names, y.2 = .free -> sc.names.lookup y.1 = some .cell
noncomputable abbrev wL (X : Cx) (qual : Str) (ls : Scope) (f : Addr) (cd : Value) (s : Shared) : Env := PySem.W.envX qual ls s.heap.objs.size f cd (qj X.env.cells ls.names [])
noncomputable def yg (X Y : Cx) (qual : Str) (ls : Scope) (f : Addr) (cd : Value) (s : Shared) (H : Hp) (E : XK) : Cx where
 prog := X.prog
 w := X.w
 K := X.K
 mg := X.mg
 base := X.base
 A := Y.A.deeper (wL X qual ls f cd s)
 N := X.N
 s_0 := s
 H_0 := H
 env := wL X qual ls f cd s
 outer := Y.stack
 stack := wL X qual ls f cd s :: Y.stack
 ex := []
 fn := fun _ => false
 calm := true
 pn := []
 xe := fun e s' => wpAny (model X.prog X.w) (Y.A.deeper (wL X qual ls f cd s)) (leaving (wL X qual ls f cd s) e) (fun _ s'' => CX1 X.prog X.w Y.stack H s E e s'') (fun e' s'' => CX1 X.prog X.w Y.stack H s E e' s'') s'
section
variable {X Y : Cx} {qual : Str} {ls : Scope} {f : Addr} {cd : Value} {s s1 : Shared} {H H1 : Hp} {E : XK} {pins : List (Addr × Obj)} {σ : St}
theorem wu (ok : X.Ok) (L : zl X.env.scope ls) {x : Str} {c : Addr} (h : (qj X.env.cells ls.names []).lookup x = some c) : (x, NameKind.free) ∈ ls.names /\ X.env.cells.lookup x = some c := by
 rcases vt (PySem.mem_of_lookup h) with z | ⟨z, rfl⟩
 ·cases z
 ·obtain ⟨c', e⟩ := ok.has x (.inl (L.free _ z rfl))
  exact ⟨z, by rw [e]; rfl⟩
theorem jj (ok : X.Ok) (L : zl X.env.scope ls) {x : Str} (h : (x, NameKind.free) ∈ ls.names) : ∃ c, (qj X.env.cells ls.names []).lookup x = some c /\ X.env.cells.lookup x = some c := by
 obtain ⟨c, e⟩ := mem_lookup (vM (cells := X.env.cells) (acc := []) h)
 exact ⟨c, e, (wu ok L e).2⟩
theorem WJ {h1 : Heap} {tk : Nat} (L : zl X.env.scope ls) (I1 : Inv X pins σ H1 s1) (hcell : ∀ x c v, X.env.cells.lookup x = some c -> s1.heap.IsCell c v -> s.heap.IsCell c v) (hfree : ∀ x c, X.env.cells.lookup x = some c -> H c = none)
  (hd : Y.A.handled = none) (e0 : uL X.prog X.w X.K X.mg X.base Y.A Y.stack s H) (hns : h1.Ns s.heap.objs.size (fun _ => none)) (kp : ∀ b o, s.heap.get? b = some o -> h1.get? b = some o) :
  Inv (yg X Y qual ls f cd s H E) [] σ H { s with heap := h1, toks := tk } := by
 have noA : ∀ b : Addr, b ∉ (yg X Y qual ls f cd s H E).ex := fun b z => absurd (show b ∈ ([] : List Addr) from z) (by simp)
 refine ⟨⟨e0.mod, L.kind, rfl, rfl, Nat.le_refl _, fun y z c h1 h2 => ?_, fun y hy => ?_, fun y c z => Bool.noConfusion (show false = true from z), fun _ => hd, Around.frames_deeper e0.frames, .inr ⟨rfl, rfl⟩, fun b z => absurd z (noA b), e0.bs, e0.bsz, fun b _ _ => noA b, fun b z => absurd z (noA b), e0.wV, e0.frf⟩,
  rfl, e0.bare, Un.kept kp, ⟨_, hns, fun i y v h1 h2 h3 => ?_⟩, fun y c h => ?_, e0.hok.fresh (Nat.le_refl _), fun y c h => hfree y c (wu I1.ok L h).2, fun p hp => absurd (show p ∈ ([] : List (Addr × Obj)) from hp) (by simp), e0.hok.kept kp, I1.len⟩
 ·exact I1.ok.inj y z c (wu I1.ok L h1).2 (wu I1.ok L h2).2
 ·have hy : ls.names.lookup y = some .cell \/ ls.names.lookup y = some .free := hy
  rcases hy with hy | hy
  ·rcases L.only _ (PySem.mem_of_lookup hy) with z | z <;> cases z
  ·obtain ⟨c, e, _⟩ := jj I1.ok L (PySem.mem_of_lookup hy)
   exact ⟨c, e⟩
 ·have h3 : ls.names.lookup y = some .local \/ ls.names.lookup y = some .cell \/ ls.names.lookup y = some .free := h3
  have hfr : ls.names.lookup y = some .free := by
   rcases h3 with z | z | z
   ·rcases L.only _ (PySem.mem_of_lookup z) with q | q <;> cases q
   ·rcases L.only _ (PySem.mem_of_lookup z) with q | q <;> cases q
   ·exact z
  have hc := L.free _ (PySem.mem_of_lookup hfr) rfl
  obtain ⟨c, e1, e2⟩ := jj I1.ok L (PySem.mem_of_lookup hfr)
  obtain ⟨m, _, hl⟩ := I1.loc
  obtain ⟨u, r, l⟩ := hl i y v h1 h2 (.inr (.inl hc))
  refine ⟨u, r, .inr ⟨.inr hfr, c, e1, ?_⟩⟩
  rcases l with ⟨k, _⟩ | ⟨_, c', e', z⟩
  ·have k : X.env.scope.names.lookup y = some .local := k
   rw [show X.env.scope.names.lookup y = _ from hc] at k
   cases k
  ·rw [e2] at e'
   cases e'
   exact (hcell y c _ e2 z).keeps kp
 ·obtain ⟨_, e⟩ := wu I1.ok L h
  obtain ⟨v, z⟩ := I1.cell y c e
  exact ⟨v, (hcell y c v e z).keeps kp⟩
theorem VI (L : zl X.env.scope ls) : Acc (yg X Y qual ls f cd s H E) E := by
 intro e s1 x
 obtain ⟨a, cls, B, H', pins, σ, rfl, I, hd, kb, q⟩ := x
 show wpAny _ _ (leaving _ _) _ _ _
 unfold leaving
 refine wpAny_bind (v5 (outer := Y.stack) I.ok.frames rfl rfl hd fun h1 hd1 up1 => ?_)
 obtain ⟨I1, kb1⟩ := qN I hd kb hd1.hand up1
 refine qT hd1 fun h2 hd2 up2 => ?_
 obtain ⟨I2, kb2⟩ := qN I1 hd1.hand kb1 hd2.hand up2
 obtain ⟨g1, g2, ⟨_, _, g3⟩, g4⟩ := hd2.hand
 refine ⟨a, cls, B, H', rfl, I2.os, I2.bare, I2.base, I2.hok, ⟨g1, g2, g3, g4⟩, fun b o hb hf r => kb2 b o hb (fun z => ?_) ?_, q⟩
 ·rcases List.mem_cons.mp (I2.vR b z) with z | z
  ·rcases r with r | ⟨o', r⟩
   ·exact r (by rw [z]; exact I2.free)
   ·exact absurd (Nat.lt_of_lt_of_le (Heap.lt_size r) I2.ok.above) (by rw [z]; exact Nat.lt_irrefl _)
  ·exact hf z
 ·rcases r with r | ⟨o', r⟩
  ·exact .inl r
  ·exact .inr (.inl ⟨o', r, fun z => nomatch z⟩)
end
structure W4 (s : Shared) (H : Hp) (fr : List Addr) (f c : Addr) (qual : Str) (params : Arguments) (body : Expr) (ls : Scope) (clos : List (Str × Addr)) : Prop where
 obj : ∃ pm ctv, s.heap.get? f = some (PySem.W.kla_obj "<lambda>" qual params body ls clos pm c ctv)
 fN : H f = none
 fF : f ∉ fr
 code : ∃ oc vs t, s.heap.get? c = some oc /\ oc.data = .fields vs /\ vs[1]? = some (.str qual t)
 cN : H c = none
 cF : c ∉ fr
section
variable {X Y : Cx} {qual : Str} {params : Arguments} {body : Expr} {ls : Scope} {f c : Addr} {pins : List (Addr × Obj)} {σ1 : St} {E : XK} {tb : TE} {k i : Nat} {x : Str} {p pos : Pos}
theorem VX (I1 : Inv X pins σ1 Y.H_0 Y.s_0) (eP : Y.prog = X.prog) (ew : Y.w = X.w) (eK : Y.K = X.K) (em : Y.mg = X.mg) (eb : Y.base = X.base) (eo : Y.outer = X.stack) (ex : Y.ex = []) (hfn : ∀ y, X.fn y = true) (L : zl X.env.scope ls)
  (la : W4 Y.s_0 Y.H_0 Y.fs f c qual params body ls (qj X.env.cells ls.names [])) (hr : vh (k + 1) Y.A) (acc : Acc Y E)
  (hbind : ∀ pm ctv, bindArgs (PySem.W.kla_fn "<lambda>" qual params body ls (qj X.env.cells ls.names []) pm (.ref c) ctv) ⟨[], []⟩ = pure [])
  (hb : ∀ (s : Shared) (H : Hp), PE (yg X Y qual ls f (.ref c) s H E) body tb) (hx : Y.N[i]? = some x) (hv : Vis Y.env.scope x) (hdb : (x == ("__debug__" : Str)) = false := by decide) (hcd : (x == ("__classdict__" : Str)) = false := by decide) :
  PE Y (.Call (.Name x p) [] [] pos) (fun σ H Q => σ[i]? = some (some (.ref f)) /\ tb σ1 H Q) := by
 intro pins' s σ H Q I ⟨hσ, hq⟩
 refine wpAny_Call_Name_kw (thn (xO hx hv hdb hcd pins' s σ H (fun v H' => v = .ref f /\ H' = H) I ⟨_, hσ, rfl, rfl⟩) fun u s2 ⟨v, H2, I2, ru, ev, eH⟩ => ?_)
 subst ev eH
 cases (show u = Value.ref f from ru)
 have keep : ∀ b o, Y.s_0.heap.get? b = some o -> Y.H_0 b = none -> b ∉ Y.fs -> s2.heap.get? b = some o /\ H2 b = none := fun b o e n nf =>
  ⟨I2.base.keep b o e n nf (by rw [ex]; simp), I2.base.free b o e n (by rw [ex]; simp)⟩
 obtain ⟨⟨pm, ctv, ho⟩, fN, fF, ⟨oc, vs, t, hoc, hod, hov⟩, cN, cF⟩ := la
 have ho2 := (keep f _ ho fN fF).1
 have hoc2 := (keep c _ hoc cN cF).1
 have hcalm : Y.A.handled = none := hr.hd
 refine PySem.W.callWith_F0 ⟨_, _, _, _, ho2⟩ ?_
 have lim : s2.heap.NoLimit := I2.nolimit
 have cells : ∀ y d, X.env.cells.lookup y = some d -> d ∉ Y.fs := fun y d e hd => by
  have z : d ∈ X.env.locals :: X.fs := I1.vR d (by rw [<- eo]; exact hd)
  rcases List.mem_cons.mp z with z | z
  ·exact I1.cne y d e z
  ·obtain ⟨_, o1, e1, _⟩ := I1.ok.wV.mem z
   exact absurd (Nat.lt_of_lt_of_le (Heap.lt_size e1) (I1.ok.cab y d (hfn y) e)) (Nat.lt_irrefl _)
 have hcell : ∀ y d v, X.env.cells.lookup y = some d -> Y.s_0.heap.IsCell d v -> s2.heap.IsCell d v := fun y d v e ⟨o, h1, h2⟩ => ⟨o, (keep d o h1 (I1.freeC y d e) (cells y d e)).1, h2⟩
 have hfree : ∀ y d, X.env.cells.lookup y = some d -> H2 d = none := fun y d e => by
  obtain ⟨v, o, h1, _⟩ := I1.cell y d e
  exact (keep d o h1 (I1.freeC y d e) (cells y d e)).2
 have e0 : uL X.prog X.w X.K X.mg X.base Y.A Y.stack s2 H2 := by
  have := I2.ZG
  rw [eP, ew, eK, em, eb] at this
  exact this
 have body_ok : codeAny (model Y.prog Y.w) Y.A (.call (.ref f) ⟨[], []⟩) (CR (CX1 Y.prog Y.w) Y.stack Y.prog Y.w H2 s2 Q E) s2 := by
  refine PySem.W.kla_callFunE hr.depth ho2 rfl L.co L.gen rfl ⟨c, oc, vs, t, rfl, hoc2, hod, hov⟩ ?_
  rw [hbind]
  refine wpAny_pure (wpAny_newFunctionEnv (fun y hy z => ?_) (fun y hy => nomatch hy) (fun h1 hns hsb => ⟨lim.fresh _ hsb, PySem.W.kla_codeExpr ?_⟩) L.kind)
  ·rcases L.only y hy with q | q <;> (rw [q] at z; cases z)
  ·have kp : ∀ b o, s2.heap.get? b = some o -> h1.get? b = some o := fun b o e => (hsb.2 b (Nat.ne_of_lt (Heap.lt_size e))).trans (Heap.get?_push_of_some _ e)
   have I3 : Inv (yg X Y qual ls f (.ref c) s2 H2 E) [] σ1 H2 { s2 with heap := h1, toks := s2.toks + 0 } := WJ L I1 hcell hfree hcalm e0 hns kp
   rw [eP, ew]
   have q := hb s2 H2 [] _ σ1 H2 Q I3 hq
   refine wpAny_mono q (fun v s' ⟨vv, H', J, rv, qq⟩ => ?_) fun e s' hs => ?_
   ·exact ⟨vv, H', J.os, J.bare, J.base, J.hok, rv, qq⟩
   ·exact hs
 refine wpAny_call (codeAny_mono body_ok fun r s' hq => ?_)
 cases r with
 | error e => exact yr acc pins' σ H2 s2 e s' I2 hq
 | ok fl =>
  cases fl with
  | ret u => exact I2.after hq
  | next => exact False.elim hq
  | brk => exact False.elim hq
  | cont => exact False.elim hq
end
section
variable {M : Model} {A : Around} {E : Value -> Shared -> Prop} {s : Shared} {e C C' : Addr} {oe : Obj} {Q : Bool -> Shared -> Prop}
theorem Vb (hC : ExcAt s.heap C) (he : s.heap.get? e = some oe) (hcls : oe.cls = .ref C) (h : Q true s) : wpAny M A (excMatches (.ref e) (.ref C)) Q E s := by
 obtain ⟨N, nm, q, bs, hdct, sn, sub, ab, col, dd, k0, k1, k2, k3, k5, mN, hC, hN, hi⟩ := hC
 obtain ⟨hp, g, d, tk, os⟩ := s
 exact wpAny_excMatches_sub_self hC he hcls (by decide) h
theorem jY (hC : ExcAt s.heap C) (hC' : ExcAt s.heap C') (he : s.heap.get? e = some oe) (hcls : oe.cls = .ref C) (hne : C ≠ C') (h : Q false s) : wpAny M A (excMatches (.ref e) (.ref C')) Q E s := by
 obtain ⟨N, nm, q, bs, hdct, sn, sub, ab, col, dd, k0, k1, k2, k3, k5, mN, hC, hN, hi⟩ := hC
 obtain ⟨N', nm', q', bs', hdct', sn', sub', ab', col', dd', k0', k1', k2', k3', k5', mN', hC', hN', hi'⟩ := hC'
 obtain ⟨hp, g, d, tk, os⟩ := s
 have c1 : (Value.ref C' :: qW).contains (.type "BaseException") = true := by
  rw [List.contains_cons, show qW.contains (.type "BaseException") = true by decide, Bool.or_true]
 have c2 : (Value.ref C :: qW).contains (.ref C') = false := by
  rw [List.contains_cons]
  have : (Value.ref C' == Value.ref C) = false := by
   rw [beq_eq_false_iff_ne]
   exact fun z => hne (Value.ref.inj z).symm
  rw [this]
  rfl
 have f := tc_notTuple
 unfold excMatches
 repeat (first | (with_reducible refine wpAny_loadPart_at he ?_; rw [hcls]) | with_reducible refine wpAny_loadPart_at hC' ?_ | with_reducible refine wpAny_loadPart_at hC ?_ | (with_reducible refine wpAny_isSubtype_exc hC' ?_; rw [c1]) | (with_reducible refine wpAny_isSubtype_exc hC ?_; rw [c2]) | wp_step)
 exact h
end
noncomputable abbrev Cx.marked (X : Cx) (e : Value) : Cx := { X with A := X.A.mark (some e), calm := false, xe := fun _ _ => False }
section
variable {X : Cx} {pins : List (Addr × Obj)} {σ : St} {H : Hp} {s : Shared}
theorem z4 (I : Inv X pins σ H s) (e : Value) : Inv (X.marked e) pins σ H s :=
 ⟨⟨I.ok.mod, I.ok.kind, I.ok.glob, I.ok.blt, I.ok.above, I.ok.inj, I.ok.has, I.ok.cab, fun z => Bool.noConfusion (show false = true from z), I.ok.frames, I.ok.stk, I.ok.exf, I.ok.bs, I.ok.bsz, I.ok.noex, I.ok.exfs, I.ok.wV, I.ok.frf⟩, I.os, I.bare, I.base, I.loc, I.cell, I.free, I.freeC, I.pin, I.hok, I.len⟩
theorem vC {e : Value} (I : Inv (X.marked e) pins σ H s) (ok : X.Ok) : Inv X pins σ H s := ⟨ok, I.os, I.bare, I.base, I.loc, I.cell, I.free, I.freeC, I.pin, I.hok, I.len⟩
end
inductive Hs (X : Cx) : List ExceptHandler -> List (Addr × Int) -> Prop
 | nil : Hs X [] []
 | cons {x : Str} {C : Addr} {k : Int} {r : List ExceptHandler} {l : List (Addr × Int)} {np p1 p2 p3 p4 p5 : Pos} {j : Nat} : Gl X x -> X.mg x = some (.ref C) -> qx X.K C = true -> (x == ("__debug__" : Str)) = false -> Hs X r l ->
   Hs X (.ExceptHandler (some (.Name x np)) none [.Return (some (.List [.UnaryOp .USub (.Constant (.int k) j p1) p2] p3)) p4] p5 :: r) ((C, k) :: l)
section
variable {X : Cx} {pins : List (Addr × Obj)} {σ : St} {H : Hp} {s : Shared} {a C : Addr} {B : Heap} {D : Ends}
theorem WH {hs : List ExceptHandler} {l : List (Addr × Int)} (h : Hs X hs l) : ∀ {s : Shared} {k : Int}, qx X.K C = true -> Inv X pins σ H s -> v9 B X.stack a (.ref C) s.heap -> (∀ b o, s.heap.get? b = some o -> b ∉ frs X.stack -> Rel X pins H b -> B.get? b = some o) ->
  l.lookup C = some k -> (∀ p, H p = none -> D.rt (.ref p) (upd H p (.lst [.int (-k)]))) -> wpAny (model X.prog X.w) X.A (handleBy (.ref a) X.env hs) (SP X pins D) X.xe s := by
 induction h with
 | nil => intro s k _ _ _ _ hl; cases hl
 | @cons x C' k' r l np p1 p2 p3 p4 p5 j hg hm hC' hd _ ih =>
  intro s k hC I ha kb hl q
  have em := hC
  refine wpAny_handleBy_cons (codeAny_handlers_test ?_) (by intro z; cases z)
  have IM := z4 I (.ref a)
  refine za (X := X.marked (.ref a)) IM hg hm ?_ hd
  obtain ⟨oe, vs, a0, he, hcls, hd', h0, rr⟩ := ha.2.2.2
  by_cases hcc : C = C'
  ·subst hcc
   have hk : k' = k := by
    rw [List.lookup_cons_self] at hl
    exact Option.some.inj hl
   subst hk
   refine Vb (vO I.kIn hC) he hcls ?_
   show codeAny _ _ _ _ _
   refine codeAny_handlers_suite (qT ha fun h2 ha2 up => ?_)
   obtain ⟨I2, kb2⟩ := qN I ha.hand kb ha2.hand up
   have IM2 := z4 I2 (.ref a)
   have pe : PSs (X.marked (.ref a)) [.Return (some (.List [.UnaryOp .USub (.Constant (.int k') j p1) p2] p3)) p4] _ := wG (zY (xf (vo (YN Zc uT) wj)))
   refine wpAny_mono (pe pins _ σ H D IM2 ⟨k', rfl, by show 1 <= sizeLine; decide, q⟩) (fun f s3 hs => ?_) fun _ _ z => z.elim
   cases f with
   | ret u =>
    obtain ⟨v, σ', H', J, rv, qq⟩ := hs
    exact ⟨v, σ', H', vC J I.ok, rv, qq⟩
   | next => obtain ⟨σ', H', J, qq⟩ := hs; exact ⟨σ', H', vC J I.ok, qq⟩
   | brk => obtain ⟨σ', H', J, qq⟩ := hs; exact ⟨σ', H', vC J I.ok, qq⟩
   | cont => obtain ⟨σ', H', J, qq⟩ := hs; exact ⟨σ', H', vC J I.ok, qq⟩
  ·refine jY (vO I.kIn hC) (vO I.kIn hC') he hcls hcc ?_
   show wpAny _ _ _ _ _ _
   refine ih hC I ha kb ?_ q
   rw [List.lookup_cons] at hl
   rw [show (C == C') = false from beq_eq_false_iff_ne.mpr hcc] at hl
   exact hl
end
noncomputable def Yg (K : PySem.W.Frag) (l : List (Addr × Int)) (rt : VK) : XK := fun c _ H => ∃ C k, c = .ref C /\ qx K C = true /\ l.lookup C = some k /\ ∀ p, H p = none -> rt (.ref p) (upd H p (.lst [.int (-k)]))
noncomputable abbrev Cx.VD (X : Cx) (pins : List (Addr × Obj)) : Cx := { X with pn := X.pn ++ pins }
theorem QA {X : Cx} {pins : List (Addr × Obj)} {σ : St} {H : Hp} {s : Shared} (I : Inv X pins σ H s) : Inv (X.VD pins) [] σ H s :=
 ⟨⟨I.ok.mod, I.ok.kind, I.ok.glob, I.ok.blt, I.ok.above, I.ok.inj, I.ok.has, I.ok.cab, I.ok.hd, I.ok.frames, I.ok.stk, I.ok.exf, I.ok.bs, I.ok.bsz, I.ok.noex, I.ok.exfs, I.ok.wV, I.ok.frf⟩, I.os, I.bare, I.base, I.loc, I.cell, I.free, I.freeC,
  fun p hp => I.pin p (by have z : p ∈ (X.pn ++ pins) ++ [] := hp; rwa [List.append_nil] at z), I.hok, I.len⟩
theorem vG {X : Cx} {pins pins' : List (Addr × Obj)} {σ : St} {H : Hp} {s : Shared} (I : Inv (X.VD pins) pins' σ H s) (ok : X.Ok) : Inv X pins σ H s :=
 ⟨ok, I.os, I.bare, I.base, I.loc, I.cell, I.free, I.freeC, fun p hp => I.pin p (List.mem_append_left _ hp), I.hok, I.len⟩
theorem Z8 {X : Cx} {body : List Stmt} {h0 : ExceptHandler} {hs : List ExceptHandler} {l : List (Addr × Int)} {pos : Pos} {tb : Ends -> TS} {L : Addr} (hst : X.stack = X.env :: X.outer) (hfr : X.env.frame = some L) (hH : Hs X (h0 :: hs) l)
  (hb : ∀ (D : Ends) (pins : List (Addr × Obj)), PSs ((X.VD pins).wA (Arr (X.VD pins) (Yg X.K l D.rt))) body (tb D)) : PS X (.Try body (h0 :: hs) [] [] pos) (fun D σ H => tb D D σ H) := by
 intro pins s σ H D I h
 refine wpAny_Try_except (wpAny_mono (hb D pins [] s σ H D ((QA I).wA _) h) (fun f s1 q => ?_) fun e s1 x => ?_)
 ·have q := q.vy
  cases f with
  | next => obtain ⟨σ', H', J, qq⟩ := q; exact wpAny_execs_nil ⟨σ', H', vG J I.ok, qq⟩
  | ret v => obtain ⟨v, σ', H', J, r, qq⟩ := q; exact ⟨v, σ', H', vG J I.ok, r, qq⟩
  | brk => obtain ⟨σ', H', J, qq⟩ := q; exact ⟨σ', H', vG J I.ok, qq⟩
  | cont => obtain ⟨σ', H', J, qq⟩ := q; exact ⟨σ', H', vG J I.ok, qq⟩
 ·obtain ⟨a, cls, B, H', pins', σ', rfl, J, hd, kb, C, k, rfl, hC, hl, q⟩ := x
  have hfrm : X.A.frames = some (X.env :: X.outer) := by rw [<- hst]; exact J.ok.frames
  have J := vG J I.ok
  have hd : Hand B X.stack a (.ref C) s1.heap := hd
  have kb : ∀ b o, s1.heap.get? b = some o -> b ∉ frs X.stack -> Rel X pins H' b -> B.get? b = some o := fun b o h1 h2 r => kb b o h1 h2 (by
   rcases r with r | r | r | r | ⟨p, hp, r⟩
   ·exact .inl r
   ·exact .inr (.inl r)
   ·exact .inr (.inr (.inl r))
   ·exact .inr (.inr (.inr (.inl r)))
   ·exact .inr (.inr (.inr (.inr ⟨p, List.mem_append_left _ hp, r⟩))))
  have hd0 := hd
  rw [hst] at hd0
  refine v5 hfrm hfr hfr hd0 fun h1 hd1 up1 => ?_
  rw [<- hst] at hd1
  obtain ⟨I1, kb1⟩ := qN J hd kb hd1.hand up1
  refine qT hd1 fun h2 hd2 up2 => ?_
  obtain ⟨I2, kb2⟩ := qN I1 hd1.hand kb1 hd2.hand up2
  exact WH hH hC I2 hd2 kb2 hl q
theorem Q4 {X : Cx} {pins : List (Addr × Obj)} {σ : St} {H : Hp} {s : Shared} {P : Addr} {ps more : Array Value} {h' : Heap} {tk : Nat} (I : Inv X pins σ H s) (hP : H P = some (.tbl ps)) (hx : Heap.ExtBut P s.heap h')
  (hP' : h'.get? P = some { cls := .none, data := .fields (ps ++ more) }) : Inv X pins σ (upd H P (.tbl (ps ++ more))) { s with heap := h', toks := tk } := by
 have ne : ∀ b, H b = none -> b ≠ P := fun b n z => by rw [z, hP] at n; cases n
 have ne2 : ∀ b u, H b = some u -> (∀ ps, u ≠ .tbl ps) -> b ≠ P := fun b u n q z => by rw [z, hP] at n; exact q ps (Option.some.inj n).symm
 refine I.un ⟨fun b o e n _ _ => hx b o (ne b n) e, fun b o e n _ _ => ⟨o.slots, hx b o (ne b n) e⟩, fun b o e n _ => by rw [qd (ne b n)]; exact n, fun b o e _ => ?_, fun b xs e => by rw [qd (ne2 b _ e fun _ z => nomatch z)]; exact e,
  fun b o u e => by rw [qd (ne2 b _ e fun _ z => nomatch z)]; exact e, fun b qs e => ?_⟩ fun b u e => ?_
 ·by_cases hb : b = P
  ·rw [hb]; exact ⟨_, hP'⟩
  ·exact ⟨o, hx b o hb e⟩
 ·by_cases hb : b = P
  ·subst hb
   rw [hP] at e
   cases e
   exact ⟨more, qm⟩
  ·exact ⟨#[], by rw [qd hb, e]; simp⟩
 ·by_cases hb : b = P
  ·subst hb
   rw [qm] at e
   cases e
   exact hP'
  ·rw [qd hb] at e
   refine (I.hok b u e).yN (fun c v hc q => ?_) (fun c q => ?_) fun c xs q => ?_
   ·refine hx c v ?_ q
    rcases hc with z | z
    ·rw [z]; exact hb
    ·exact ne2 c _ z fun _ z => nomatch z
   ·rw [qd (ne2 c _ q fun _ z => nomatch z)]; exact q
   ·rw [qd (ne2 c _ q fun _ z => nomatch z)]; exact q
theorem ZT {CX : CXT} {P : Program} {w : World} {K : PySem.W.Frag} {mg : Str -> Option Value} {base : Heap} {k : Nat} {f : Addr} {name qual : Str} {params : Arguments} {body : List Stmt} {scope : Scope} {dV kV doc pm cdv ct oc : Value} {an od : Option Addr}
  {osl : Array (Option Value)} {N ps : List Str} {A : Around} {outer : List Env} {s : Shared} {H : Hp} {args : Args} {us : List Value} {vs : List V} {Q : VK} {E : XK}
  (lk : K.lookup f = some ⟨oc, od, .func (PySem.W.fnOf name qual params body scope dV kV doc pm an cdv ct), osl⟩) (hcd : PySem.W.codeIn K cdv qual = true) (S : qv N ps scope) (hl : vs.length = ps.length) (hr : vh (k + 1) A)
  (e0 : uL P w K mg base A outer s H) (hb : BindsTo s (PySem.W.fnOf name qual params body scope dV kV doc pm an cdv ct) args (ps.zip us)) (r : Vals vs us)
  (hbody : ∃ t, PSs (wg CX P w K mg base N qual scope f cdv A outer s H E) body t /\ t { nx := fun _ H' => Q .non H', rt := Q } (start N vs) H) :
  codeAny (model P w) A (.call (.ref f) args) (CR CX outer P w H s Q E) s := by
 have F := jl (P := P) (w := w) (mg := mg) (base := base) (CX := CX) (k := k) (sp := fun vs' H' Q' E' => vs'.length = ps.length /\ False) lk hcd S (fun _ _ _ _ z => z.1) fun _ _ _ _ _ _ _ _ z => z.2.elim
 have KX : K.In s.heap := e0.mod.kin.keeps fun b o e => (e0.bs b o e).1
 have lim : s.heap.NoLimit := e0.mod.nolimit.keeps fun b o e => (e0.bs b o e).1
 have hkind : ∀ y ∈ ps.zip us, scope.names.lookup y.1 = some .local \/ (scope.names.lookup y.1 = some .cell /\ ((cellsFrom (s.heap.objs.size + 1) scope.names []).lookup y.1).isSome = true) := fun ⟨n, v⟩ hy => by
  rcases S.par n (List.of_mem_zip hy).1 with q | q
  ·exact .inl q
  ·exact .inr ⟨q, PySem.W.cellsFrom_some _ _ _ (.inl q)⟩
 refine codeAny_call_function hr.depth (KX _ _ lk) rfl S.co S.gen rfl (PySem.W.codeRec_of KX hcd) (hb _ _ _ _ ?_)
 refine wpAny_newFunctionEnv_cells S.kind hkind fun env he s1 x => ?_
 subst he
 refine ⟨lim.keeps x.toInCall.keep, codeAny_func ?_⟩
 obtain ⟨t, ht, hq⟩ := hbody
 have I : Inv (wg CX P w K mg base N qual scope f cdv A outer s H E) [] (start N vs) H s1 := y1 S hr.hd e0 hl r x
 refine wpAny_mono (ht [] s1 (start N vs) H _ I hq) (fun fl s' hs => ?_) fun e s' hs => hs
 have fin : ∀ {σ' : St} {H' : Hp} {v : V} {u : Value}, Inv (wg CX P w K mg base N qual scope f cdv A outer s H E) [] σ' H' s' -> RelV v u -> Q v H' -> CE outer P w H s Q u s' :=
  fun {σ' H' v u} J rv q => ⟨v, H', J.os, J.bare, J.base, J.hok, rv, q⟩
 cases fl with
 | ret u =>
  obtain ⟨v, σ', H', J, rv, q⟩ := hs
  exact fin J rv q
 | next =>
  obtain ⟨σ', H', J, q⟩ := hs
  exact fin (v := V.non) (u := Value.none) J rfl q
 | brk =>
  obtain ⟨_, _, _, q⟩ := hs
  exact False.elim q
 | cont =>
  obtain ⟨_, _, _, q⟩ := hs
  exact False.elim q
theorem x8 {X : Cx} {E : XK} : Acc (X.wA (Arr X E)) E := fun e s' x => by
 obtain ⟨a, cls, B, H', pins, σ, e1, I, hd, kb, q⟩ := x
 exact ⟨a, cls, B, H', pins, σ, e1, I.vy, hd, kb, q⟩
structure wc (mg : Str -> Option Value) (base : Heap) (c P : Addr) : Prop where
 code : PySem.W.CodeHd base c P
 bm : ∃ bm ob, mg "__builtins__" = some (.ref bm) /\ bm ≠ builtinsNs /\ base.get? bm = some ob /\ ob.cls = .type "module" /\ ob.dict = some builtinsNs /\ ob.data = .plain
section
variable {X : Cx} {pins : List (Addr × Obj)} {σ : St} {H : Hp} {s : Shared} {c P : Addr} {params : Arguments} {body : Expr} {ls : Scope} {lpos : Pos} {E : Value -> Shared -> Prop} {Q : Value -> Shared -> Prop}
theorem Q6 (I : Inv X pins σ H s) (BL : wc X.mg X.base c P) (hc : X.env.code = .ref c) (hP : H P = some (.tbl #[])) (L : zl X.env.scope ls) (hdef : defaultsOf params X.env = ([], []))
  (h : ∀ (s1 : Shared) (more : Array Value) (f c' : Addr), Inv X pins σ (upd H P (.tbl more)) s1 -> W4 s1 (upd H P (.tbl more)) (frs X.stack) f c' (X.env.qual ++ "<lambda>") params body ls (qj X.env.cells ls.names []) -> Q (.ref f) s1) :
  wpAny (model X.prog X.w) X.A (eval (.Lambda params body ls lpos) X.env) Q E s := by
 have hPo : s.heap.get? P = some (PySem.W.tabObj #[]) := I.hok P _ hP
 have hg := I.mod.glob.keeps I.bk
 obtain ⟨bm, ob, b1, b2, b3, b4, b5, b6⟩ := BL.bm
 have nP : ∀ b o, X.base.get? b = some o -> b ≠ P := fun b o e z => by
  have := (I.bs b o e).2
  rw [z, hP] at this
  cases this
 have hgP : mainGlobals ≠ P := by
  obtain ⟨o, es, ep, e, _⟩ := I.mod.glob
  exact nP _ o e
 have hbG : bm ≠ mainGlobals := fun z => by
  obtain ⟨o, es, ep, e, hd, _⟩ := I.mod.glob
  rw [z, e] at b3
  cases b3
  rw [hd] at b6
  cases b6
 have hclos : closureFor ls X.env = pure (qj X.env.cells ls.names []) := yq fun y hy e => I.ok.has _ (.inl (L.free y hy e))
 refine PySem.W.kla_eval hdef (PySem.W.kla_makeFunction (mg := X.mg) (P := P) hclos I.ok.glob hg hc (BL.code.keeps I.bk) hPo trivial rfl hgP ⟨bm, ob, b1, b2, hbG, nP bm ob b3, I.bk bm ob b3, b4, b5, b6⟩ fun c' ctv h' tk hx hge hlt hrec htb => ?_)
 have I1 := Q4 (tk := tk) I hP hx htb
 have hPlt : P < s.heap.objs.size := Heap.lt_size hPo
 obtain ⟨c2, oc, vs, t, e2, hoc, hd, hv⟩ := hrec
 cases e2
 have cN : upd H P (.tbl (#[] ++ #[rawInt lpos.line, rawInt lpos.col, .ref c'])) c' = none := by
  rw [qd (Nat.ne_of_gt (Nat.lt_of_lt_of_le hPlt hge))]
  exact I.hok.fresh hge
 have I2 := I1.kept (h' := h'.push (PySem.W.kla_obj "<lambda>" (X.env.qual ++ "<lambda>") params body ls (qj X.env.cells ls.names []) ((X.mg "__name__").getD .none) c' ctv)) (t' := tk) fun b o e => Heap.get?_push_of_some _ e
 have notF : ∀ b, s.heap.objs.size <= b -> b ∉ frs X.stack := fun b hb z => by
  rcases List.mem_cons.mp (I.vR b z) with z | z
  ·exact absurd (Nat.lt_of_lt_of_le I.lt hb) (by rw [z]; exact Nat.lt_irrefl _)
  ·exact I.YJ hb z
 exact h _ _ _ c' I2 ⟨⟨_, ctv, Heap.get?_push_size _ rfl⟩, I1.hok.fresh (Nat.le_refl _), notF _ (Nat.le_trans hge (Nat.le_of_lt hlt)), ⟨oc, vs, t, Heap.get?_push_of_some _ hoc, hd, hv⟩, cN, notF _ hge⟩
end
noncomputable def xl (hs : List ExceptHandler) (q1 q2 q3 q4 q5 q6 q7 q8 q9 q10 : Pos) (j : Nat) : List Stmt :=
 [.Try [.Assign [.Name "told" q1] (.Call (.Name "work" q2) [] [] q3) q4] hs [] [] q5, .Return (some (.BinOp (.List [.Constant (.int 0) j q6] q7) .Add (.Name "told" q8) q9)) q10]
noncomputable def Xn (Q : VK) : VK := fun v H => ∃ b zs, v = .ref b /\ H b = some (.lst zs) /\ zs.length + 1 <= sizeLine /\ ∀ q, H q = none -> ∀ p, upd H q (.lst [.int 0]) p = none -> Q (.ref p) (upd (upd H q (.lst [.int 0])) p (.lst (.int 0 :: zs)))
noncomputable def WS (f : Addr) (Q : VK) : VK := fun v H => ZF (tOp YX (YQ (QW (tC (.int 0)) ZE)) (YD 1)) { nx := fun _ H' => Q .non H', rt := Q } [some (.ref f), some v] H
theorem QF {f : Addr} {Q : VK} {v : V} {H : Hp} (h : Xn Q v H) : WS f Q v H := by
 obtain ⟨b, zs, rfl, hb, hz, q⟩ := h
 refine ⟨by show 1 <= sizeLine; decide, fun p hp => ⟨_, rfl, p, b, [.int 0], zs, rfl, rfl, qm, ?_, by show 1 + zs.length <= sizeLine; lia, q p hp⟩⟩
 rw [qd (qu hb hp)]
 exact hb
noncomputable def Zr (K : PySem.W.Frag) (l : List (Addr × Int)) (P : Addr) (tb : XK -> TE) : TE := fun σ H Q => H P = some (.tbl #[]) /\ ∀ more f, tb (Yg K l Q) σ (upd H P (.tbl more)) (WS f Q)
section
variable {X : Cx} {c P f2 : Addr} {params : Arguments} {body : Expr} {ls : Scope} {lpos p pos : Pos} {tb : XK -> TE} {k : Nat} {l : List (Addr × Int)} {E : XK}
 {args2 : Arguments} {sc2 : Scope} {dV kV doc pm cdv ct oc : Value} {an od : Option Addr} {osl : Array (Option Value)} {h0 : ExceptHandler} {hs : List ExceptHandler} {q1 q2 q3 q4 q5 q6 q7 q8 q9 q10 : Pos} {j : Nat}
theorem uF (BL : wc X.mg X.base c P) (hc : X.env.code = .ref c) (hfn : ∀ y, X.fn y = true) (hst : X.stack = X.env :: X.outer) (L : zl X.env.scope ls) (hdef : defaultsOf params X.env = ([], [])) (hr : vh (k + 2) X.A)
  (hg : Gl X "answered") (hm : X.mg "answered" = some (.ref f2)) (hk : PySem.W.keepIn X.K (.ref f2) = true)
  (lk : X.K.lookup f2 = some ⟨oc, od, .func (PySem.W.fnOf "answered" "answered" args2 (xl (h0 :: hs) q1 q2 q3 q4 q5 q6 q7 q8 q9 q10 j) sc2 dV kV doc pm an cdv ct), osl⟩) (hcd : PySem.W.codeIn X.K cdv "answered" = true)
  (S : qv ["work", "told"] ["work"] sc2) (hw : sc2.names.lookup ("work" : Str) = some .local) (ht : sc2.names.lookup ("told" : Str) = some .local)
  (hb2 : ∀ (s : Shared) (u : Value), BindsTo s (PySem.W.fnOf "answered" "answered" args2 (xl (h0 :: hs) q1 q2 q3 q4 q5 q6 q7 q8 q9 q10 j) sc2 dV kV doc pm an cdv ct) ⟨[u], []⟩ ((["work"] : List Str).zip [u]))
  (hH : ∀ (s : Shared) (H : Hp), Hs (wg (CX1 X.prog X.w) X.prog X.w X.K X.mg X.base ["work", "told"] "answered" sc2 f2 cdv X.A X.stack s H E) (h0 :: hs) l)
  (hbind : ∀ c' clos pm ctv, bindArgs (PySem.W.kla_fn "<lambda>" (X.env.qual ++ "<lambda>") params body ls clos pm (.ref c') ctv) ⟨[], []⟩ = pure [])
  (hE : Acc X E)
  (hb : ∀ (Y : Cx) (f : Addr) (cd : Value) (s : Shared) (H : Hp) (E' : XK), vh k (Y.A.deeper (wL X (X.env.qual ++ "<lambda>") ls f cd s)) -> PE (yg X Y (X.env.qual ++ "<lambda>") ls f cd s H E') body (tb E')) :
  PE X (.Call (.Name "answered" p) [.Lambda params body ls lpos] [] pos) (Zr X.K l P tb) := by
 intro pins s σ H Q I ⟨hP, h⟩
 refine wpAny_Call_Name_kw (za I hg hm ?_ (by decide))
 refine PySem.W.callWith_K (h₀ := X.base) I.ok.mod.kin hk ?_ rfl rfl
 refine Calls.spliced_cons (Q6 I BL hc hP L hdef fun s1 more f c' I1 la => Calls.spliced_nil ⟨I1.kIn, ?_⟩)
 have hr1 : vh (k + 1 + 1) X.A := hr
 -- the def's body
 have body_ok : codeAny (model X.prog X.w) X.A (.call (.ref f2) ⟨[.ref f], []⟩) (CR (CX1 X.prog X.w) X.stack X.prog X.w (upd H P (.tbl more)) s1 Q E) s1 := by
  refine ZT (N := ["work", "told"]) (vs := [.ref f]) lk hcd S rfl hr1 I1.ZG (hb2 s1 (.ref f)) (.cons rfl .nil) ?_
  generalize hY : wg (CX1 X.prog X.w) X.prog X.w X.K X.mg X.base ["work", "told"] "answered" sc2 f2 cdv X.A X.stack s1 (upd H P (.tbl more)) E = Y
  have hHs : Hs Y (h0 :: hs) l := by rw [<- hY]; exact hH s1 _
  have room : vh (k + 1) Y.A := by rw [<- hY]; exact hr1.deeper _
  refine ⟨_, yx (Z8 (X := Y) (L := s1.heap.objs.size) (tb := fun D => VF (fun σ' H' Q' => σ'[0]? = some (some (.ref f)) /\ tb (Yg Y.K l D.rt) σ H' Q') (vp 1)) (by rw [<- hY]; rfl) (by rw [<- hY]; rfl) hHs fun D pins' => wG (ji (i := 1) (X := (Y.VD pins').wA _) ?nd ?ni ?nl ?work ?sw ?fn)) (wG (zY (WR ZU (xf (vo uT wj)) (xO (i := 1) ?vi ?vv)))), ?_⟩
  case nd => subst hY; exact S.nd
  case ni => subst hY; rfl
  case nl => subst hY; exact .inl ht
  case sw => subst hY; rfl
  case fn => subst hY; exact .inl rfl
  case vi => subst hY; rfl
  case vv => subst hY; exact .inl ht
  case work =>
   subst hY
   exact VX (X := X) (k := k) I1 rfl rfl rfl rfl rfl rfl rfl hfn L la room x8 (fun pm ctv => hbind c' _ pm ctv) (fun s' H' => hb _ f (.ref c') s' H' _ (room.deeper _)) rfl (.inl hw)
  ·subst hY
   exact ⟨rfl, h more f⟩
 refine wpAny_call (codeAny_mono body_ok fun r s' hq => ?_)
 cases r with
 | error e => exact yr hE pins σ _ s1 e s' I1 hq
 | ok fl =>
  cases fl with
  | ret u => exact I1.after hq
  | next => exact False.elim hq
  | brk => exact False.elim hq
  | cont => exact False.elim hq
end
end L2
namespace L2.Ir
open PySem
set_option genInjectivity true in
inductive D where
 | non | bl (b : Bool) | int (i : Int) | lst (xs : List D) | tup (xs : List D) | fn (x : Str) | obj (c : Str) (ns : List Str) (xs : List D)
noncomputable def D.sc : D -> Bool
 | .non => true
 | .bl _ => true
 | .int _ => true
 | _ => false
inductive Kd where
 | bo | sh | nw | fr
noncomputable def Kd.low : Kd -> Kd -> Kd
 | .bo, _ => .bo
 | _, .bo => .bo
 | .sh, _ => .sh
 | _, .sh => .sh
 | _, _ => .nw
set_option genInjectivity true in
inductive Rs (α : Type) where
 | ok (a : α) | er (c : Str) | no
noncomputable def Rs.bind {α β : Type} (x : Rs α) (f : α -> Rs β) : Rs β := match x with
 | .ok a => f a
 | .er c => .er c
 | .no => .no
@[simp] theorem Rs.ve {α β : Type} (a : α) (f : α -> Rs β) : (Rs.ok a).bind f = f a := rfl
inductive Sl where
 | un | val (d : D) (k : Bool) | own (ds : List D)
noncomputable abbrev Dl := List Sl
noncomputable abbrev DK := D × Kd
noncomputable abbrev RE := Dl -> Rs DK
noncomputable abbrev RA := Dl -> Rs (List DK)
noncomputable def qe (i : Nat) : RE := fun δ => match δ[i]? with
 | some (.val d k) => .ok (d, if k = true then .nw else .sh)
 | some (.own ds) => .ok (.lst ds, .bo)
 | _ => .no
noncomputable def rC (d : D) : RE := fun _ => .ok (d, .nw)
noncomputable def qJ (f : DK -> DK -> Rs DK) (ra rb : RE) : RE := fun δ => (ra δ).bind fun x => (rb δ).bind fun y => f x y
noncomputable def kL (xs : List D) (k : Kd) : Kd := if xs.all D.sc = true then .fr else k
noncomputable abbrev LIM : Nat := 16777216
noncomputable def few (i : Int) : Prop := i.natAbs < 2 ^ 60000
noncomputable instance (i : Int) : Decidable (few i) := inferInstanceAs (Decidable (i.natAbs < 2 ^ 60000))
noncomputable def uW : DK -> DK -> Rs DK
 | (.int i, _), (.int j, _) => .ok (.int (i + j), .nw)
 | (.lst xs, k), (.lst ys, l) => if xs.length + ys.length <= LIM then .ok (.lst (xs ++ ys), kL (xs ++ ys) (k.low l)) else .no
 | _, _ => .no
noncomputable def W6 : DK -> DK -> Rs DK
 | (.int i, _), (.int j, _) => .ok (.int (i - j), .nw)
 | _, _ => .no
open Classical in
noncomputable def uU : DK -> DK -> Rs DK
 | (.int i, _), (.int j, _) => if few i /\ few j then .ok (.int (i * j), .nw) else .no
 | (.lst xs, .fr), (.int j, _) => if (0 <= j /\ j < 1000000) /\ xs.length * j.toNat <= LIM then .ok (.lst (List.replicate j.toNat xs).flatten, kL (List.replicate j.toNat xs).flatten .nw) else .no
 | _, _ => .no
noncomputable def Yf (f : Int -> Int -> Int) : DK -> DK -> Rs DK
 | (.int i, _), (.int j, _) => .ok (.int (f i j), .nw)
 | _, _ => .no
noncomputable def yJ (f : Int -> Int -> Bool) : DK -> DK -> Rs DK
 | (.int i, _), (.int j, _) => .ok (.bl (f i j), .nw)
 | _, _ => .no
noncomputable def intsOf : List D -> Option (List Int)
 | [] => some []
 | .int i :: r => (intsOf r).map (i :: ·)
 | _ => none
noncomputable def oEq (neg : Bool) : DK -> DK -> Rs DK
 | (.int i, _), (.int j, _) => .ok (.bl (if neg = true then !decide (i = j) else decide (i = j)), .nw)
 | (.bl i, _), (.bl j, _) => .ok (.bl (if neg = true then !decide (i = j) else decide (i = j)), .nw)
 | (.lst xs, _), (.lst ys, _) => match intsOf xs, intsOf ys with
  | some ns, some ms => .ok (.bl (if neg = true then !decide (ns = ms) else decide (ns = ms)), .nw)
  | _, _ => .no
 | _, _ => .no
noncomputable def xo (n : Nat) (i : Int) : Option Nat := if 0 <= i then (if i < n then some i.toNat else none) else if -(n : Int) <= i then some (i + n).toNat else none
noncomputable def oIx : DK -> DK -> Rs DK
 | (.lst xs, k), (.int i, _) => match (xo xs.length i).bind fun j => xs[j]? with
  | some d => .ok (d, k.low .nw)
  | none => .no
 | (.tup xs, k), (.int i, _) => match (xo xs.length i).bind fun j => xs[j]? with
  | some d => .ok (d, k.low .nw)
  | none => .no
 | _, _ => .no
noncomputable def pick {α : Type} (xs : List α) (lo hi st : Option Int) : List α :=
 (sliceRange (sliceBounds lo hi st xs.length).1 (sliceBounds lo hi st xs.length).2.1 (sliceBounds lo hi st xs.length).2.2).filterMap (xs[·]?)
noncomputable abbrev RO := Dl -> Rs (Option Int)
noncomputable def zN : RO := fun _ => .ok none
noncomputable def wY (r : RE) : RO := fun δ => (r δ).bind fun x => match x.1 with
 | .int i => .ok (some i)
 | _ => .no
noncomputable def yG (ra : RE) (rl rh rs : RO) : RE := fun δ => (ra δ).bind fun x => (rl δ).bind fun lo => (rh δ).bind fun hi => (rs δ).bind fun st => match x.1 with
 | .lst xs => if st = some 0 then .no else .ok (.lst (pick xs lo hi st), kL (pick xs lo hi st) (x.2.low .nw))
 | _ => .no
noncomputable def qC : RA := fun _ => .ok []
noncomputable def qf (ra : RE) (rr : RA) : RA := fun δ => (ra δ).bind fun x => (rr δ).bind fun xs => .ok (x :: xs)
noncomputable def qi : List DK -> Kd
 | [] => .nw
 | x :: r => if x.1.sc = true then qi r else x.2.low (qi r)
noncomputable def ze (r : RA) : RE := fun δ => (r δ).bind fun xs => if xs.length <= LIM then .ok (.lst (xs.map (·.1)), kL (xs.map (·.1)) (qi xs)) else .no
noncomputable abbrev Fn := List D -> Rs (D × Bool)
noncomputable def kB (b : Bool) : Kd := if b = true then .fr else .nw
noncomputable def qA (g : Fn) (r : RA) : RE := fun δ => (r δ).bind fun xs => (g (xs.map (·.1))).bind fun y => .ok (y.1, kB y.2)
noncomputable def vz (f : List DK -> Rs DK) (r : RA) : RE := fun δ => (r δ).bind f
noncomputable def yB : List DK -> Rs DK
 | [(.lst xs, _)] => .ok (.int xs.length, .nw)
 | [(.tup xs, _)] => .ok (.int xs.length, .nw)
 | _ => .no
noncomputable def v8 : List DK -> Rs DK
 | [(.int i, _)] => if -1000000 < i /\ i < 1000000 then .ok (.lst ((List.range i.toNat).map fun (k : Nat) => D.int k), .fr) else .no
 | _ => .no
noncomputable def vB : List DK -> Rs DK
 | [(.lst xs, _)] => match intsOf xs with
  | some ns => if ns.length < 64 then .ok (.lst ((ns.mergeSort fun a b => decide (a <= b)).map D.int), .fr) else .no
  | none => .no
 | _ => .no
noncomputable abbrev RT := Dl -> Rs Bool
noncomputable def tBl (r : RE) : RT := fun δ => (r δ).bind fun x => match x.1 with
 | .bl b => .ok b
 | _ => .no
noncomputable def Qe (a b : RT) : RT := fun δ => (a δ).bind fun x => if x = true then .ok true else b δ
noncomputable def uz (a : RT) : RT := fun δ => (a δ).bind fun x => .ok (!x)
noncomputable abbrev RI := Dl -> Rs (Bool × List DK)
noncomputable def Kd.safe : Kd -> Bool
 | .bo => false
 | _ => true
noncomputable def iOf (r : RE) : RI := fun δ => (r δ).bind fun x => match x.1 with
 | .lst xs => .ok (x.2.safe, xs.map fun d => (d, x.2.low .nw))
 | _ => .no
noncomputable def QU (r q : RE) : RI := fun δ => (r δ).bind fun x => (q δ).bind fun y => match x.1, y.1 with
 | .lst xs, .lst ys => .ok (x.2.safe && y.2.safe, (xs.zip ys).map fun p => (.tup [p.1, p.2], x.2.low y.2))
 | _, _ => .no
inductive Tg where
 | one (i : Nat) | two (i j : Nat)
noncomputable def vY (x : DK) : Sl := .val x.1 (match x.2 with | .nw => true | .fr => true | _ => false)
noncomputable def put (i : Nat) (x : DK) (δ : Dl) : Option Dl := match x with
 | (d, .bo) => if d.sc = true then some (δ.set i (.val d true)) else none
 | (d, k) => some (δ.set i (vY (d, if d.sc = true then .nw else k)))
noncomputable def Tg.put : Tg -> DK -> Dl -> Option Dl
 | .one i, x, δ => Ir.put i x δ
 | .two i j, (.tup [a, b], k), δ => (Ir.put i (a, k) δ).bind (Ir.put j (b, k))
 | _, _, _ => none
inductive Out where
 | nx (δ : Dl) | rt (d : D) (k : Bool) | bk (δ : Dl) | ct (δ : Dl) | er (c : Str) | no
noncomputable abbrev RS := Dl -> Out
noncomputable def vV : RS := fun δ => .nx δ
noncomputable def Out.andThen (o : Out) (f : RS) : Out := match o with
 | .nx δ => f δ
 | o => o
noncomputable def wR (a b : RS) : RS := fun δ => (a δ).andThen b
noncomputable def frz : Sl -> Sl
 | .own ds => .val (.lst ds) true
 | x => x
noncomputable def freeze (δ : Dl) : Dl := δ.map frz
noncomputable def uP (i : Nat) (r : RE) : RS := fun δ => match r δ with
 | .ok (.lst ds, .fr) => .nx (δ.set i (.own ds))
 | .ok (d, .bo) => if d.sc = true then .nx (δ.set i (.val d true)) else .nx ((freeze δ).set i (.val d false))
 | .ok (d, k) => .nx (δ.set i (vY (d, if d.sc = true then .nw else k)))
 | .er c => .er c
 | .no => .no
noncomputable def wK (r : RE) : RS := fun δ => match r δ with
 | .ok _ => .nx δ
 | .er c => .er c
 | .no => .no
noncomputable def sIf (t : RT) (a b : RS) : RS := fun δ => match t δ with
 | .ok x => if x = true then a δ else b δ
 | .er c => .er c
 | .no => .no
noncomputable def vT (r : RE) : RS := fun δ => match r (freeze δ) with
 | .ok (.lst ds, .fr) => .rt (.lst ds) true
 | .ok (d, .nw) => .rt d false
 | .ok (d, _) => if d.sc = true then .rt d false else .no
 | .er c => .er c
 | .no => .no
noncomputable def vg (c : Str) : RS := fun _ => .er c
noncomputable def turns (tg : Tg) (body : RS) : List DK -> RS
 | [], δ => .nx δ
 | x :: r, δ => match tg.put x δ with
  | none => .no
  | some δ1 => match body δ1 with
   | .nx δ2 => turns tg body r δ2
   | .ct δ2 => turns tg body r δ2
   | .bk δ2 => .nx δ2
   | o => o
noncomputable def Vp (tg : Tg) (src : RI) (body : RS) : RS := fun δ => match src δ with
 | .ok (true, xs) => turns tg body xs δ
 | .ok (false, _) => .no
 | .er c => .er c
 | .no => .no
noncomputable def yR (tg : Tg) (i : Nat) (body : RS) : RS := fun δ => Vp tg (iOf (qe i)) body (match δ[i]? with
 | some (.own ds) => δ.set i (.val (.lst ds) true)
 | _ => δ)
noncomputable def items (tg : Tg) (t : RT) (r : RE) (δ : Dl) : List DK -> Rs (List DK)
 | [] => .ok []
 | x :: xs => match tg.put x δ with
  | none => .no
  | some δ1 => (t δ1).bind fun b => if b = true then (r δ1).bind fun y => (items tg t r δ xs).bind fun ys => .ok (y :: ys) else items tg t r δ xs
noncomputable def yk : RT := fun _ => .ok true
noncomputable def clear (δ : Dl) : List Nat -> Dl
 | [] => δ
 | v :: vs => (clear δ vs).set v .un
noncomputable def zg (tg : Tg) (src : RI) (t : RT) (r : RE) (vs : List Nat) : RE := fun δ => (src δ).bind fun xs => if xs.2.length < LIM then (items tg t r (clear δ vs) xs.2).bind fun ys =>
 .ok (.lst (ys.map (·.1)), kL (ys.map (·.1)) (qi ys)) else .no
noncomputable def Tg.within : Tg -> List Nat -> Prop
 | .one i, vs => i ∈ vs
 | .two i j, vs => i ∈ vs /\ j ∈ vs
end L2.Ir
namespace L2.Ir
open PySem PySem.Spec PyProof.Rows
section
variable (mg : Str -> Option Value) (K : PySem.W.Frag)
mutual
/-- the value v stands for the datum d, all addresses within in G -/
inductive Rp (G : Addr -> Prop) (H : Hp) : V -> D -> Prop
 | non : Rp G H .non .non
 | bl (b : Bool) : Rp G H (.bl b) (.bl b)
 | int (i : Int) : Rp G H (.int i) (.int i)
 | fn {x : Str} {a : Addr} : mg x = some (.ref a) -> Rp G H (.ref a) (.fn x)
 | lst {a : Addr} {xs : List V} {ds : List D} : G a -> Rd H a (.lst xs) -> qc G H xs ds -> Rp G H (.ref a) (.lst ds)
 | lstK {a : Addr} {xs : List V} {ds : List D} : (∀ H', SqL K H' a xs) -> qc G H xs ds -> Rp G H (.ref a) (.lst ds)
 | tup {a : Addr} {xs : List V} {ds : List D} : G a -> Rd H a (.tup xs) -> qc G H xs ds -> Rp G H (.ref a) (.tup ds)
 | tupK {a : Addr} {xs : List V} {ds : List D} : (∀ H', SqT K H' a xs) -> qc G H xs ds -> Rp G H (.ref a) (.tup ds)
 | obj {a C dx : Addr} {c : Str} {ns : List Str} {xs : List V} {ds : List D} : G a -> mg c = some (.ref C) -> H a = some (.ins C dx (ns.zip xs)) -> ns.length = xs.length -> qc G H xs ds -> Rp G H (.ref a) (.obj c ns ds)
inductive qc (G : Addr -> Prop) (H : Hp) : List V -> List D -> Prop
 | nil : qc G H [] []
 | cons {v : V} {vs : List V} {d : D} {ds : List D} : Rp G H v d -> qc G H vs ds -> qc G H (v :: vs) (d :: ds)
end
end
section
variable {mg : Str -> Option Value} {K : PySem.W.Frag}
theorem Vo {H H' : Hp} {a : Addr} {u : HO} (h : Rd H a u) (k : ∀ o, H a = some o -> H' a = some o) : Rd H' a u := by
 rcases h with h | ⟨o, h⟩
 ·exact .inl (k _ h)
 ·exact .inr ⟨o, k _ h⟩
theorem xr {H : Hp} {a : Addr} {u : HO} (h : Rd H a u) : H a ≠ none := by
 rcases h with h | ⟨o, h⟩ <;> (rw [h]; exact fun z => nomatch z)
theorem Rp.ofL {G : Addr -> Prop} {H : Hp} {a : Addr} {xs : List V} {ds : List D} (s : SqL K H a xs) (g : H a ≠ none -> G a) (r : qc mg K G H xs ds) : Rp mg K G H (.ref a) (.lst ds) := by
 rcases s with s | s
 ·exact .lst (g (xr s)) s r
 ·exact .lstK (fun _ => .inr s) r
mutual
theorem Rp.mono {G G' : Addr -> Prop} {H H' : Hp} (k : ∀ a, G a -> G' a /\ ∀ o, H a = some o -> H' a = some o) : ∀ (d : D) (v : V), Rp mg K G H v d -> Rp mg K G' H' v d
 | .non, _, h => by cases h; exact .non
 | .bl b, _, h => by cases h; exact .bl b
 | .int i, _, h => by cases h; exact .int i
 | .fn x, _, h => by cases h with | fn e => exact .fn e
 | .lst ds, _, h => by
  cases h with
  | lst g s r => exact .lst (k _ g).1 (Vo s (k _ g).2) (qc.mono k ds _ r)
  | lstK s r => exact .lstK s (qc.mono k ds _ r)
 | .tup ds, _, h => by
  cases h with
  | tup g s r => exact .tup (k _ g).1 (Vo s (k _ g).2) (qc.mono k ds _ r)
  | tupK s r => exact .tupK s (qc.mono k ds _ r)
 | .obj c ns ds, _, h => by
  cases h with
  | obj g m s l r => exact .obj (k _ g).1 m ((k _ g).2 _ s) l (qc.mono k ds _ r)
theorem qc.mono {G G' : Addr -> Prop} {H H' : Hp} (k : ∀ a, G a -> G' a /\ ∀ o, H a = some o -> H' a = some o) : ∀ (ds : List D) (vs : List V), qc mg K G H vs ds -> qc mg K G' H' vs ds
 | [], _, h => by cases h; exact .nil
 | d :: ds, _, h => by cases h with | cons a b => exact .cons (Rp.mono k d _ a) (qc.mono k ds _ b)
end
mutual
/-- tracked addresses are there -/
theorem Rp.there {G : Addr -> Prop} {H : Hp} : ∀ (d : D) (v : V), Rp mg K G H v d -> Rp mg K (fun a => G a /\ H a ≠ none) H v d
 | .non, _, h => by cases h; exact .non
 | .bl b, _, h => by cases h; exact .bl b
 | .int i, _, h => by cases h; exact .int i
 | .fn x, _, h => by cases h with | fn e => exact .fn e
 | .lst ds, _, h => by
  cases h with
  | lst g s r => exact .lst ⟨g, xr s⟩ s (qc.there ds _ r)
  | lstK s r => exact .lstK s (qc.there ds _ r)
 | .tup ds, _, h => by
  cases h with
  | tup g s r => exact .tup ⟨g, xr s⟩ s (qc.there ds _ r)
  | tupK s r => exact .tupK s (qc.there ds _ r)
 | .obj c ns ds, _, h => by
  cases h with
  | obj g m s l r => exact .obj ⟨g, by rw [s]; exact fun z => nomatch z⟩ m s l (qc.there ds _ r)
theorem qc.there {G : Addr -> Prop} {H : Hp} : ∀ (ds : List D) (vs : List V), qc mg K G H vs ds -> qc mg K (fun a => G a /\ H a ≠ none) H vs ds
 | [], _, h => by cases h; exact .nil
 | d :: ds, _, h => by cases h with | cons a b => exact .cons (Rp.there d _ a) (qc.there ds _ b)
end
theorem Rp.weak {G G' : Addr -> Prop} {H : Hp} {v : V} {d : D} (h : Rp mg K G H v d) (k : ∀ a, G a -> G' a) : Rp mg K G' H v d := h.mono (fun a g => ⟨k a g, fun _ e => e⟩)
theorem Rp.same {G : Addr -> Prop} {H H' : Hp} {v : V} {d : D} (h : Rp mg K G H v d) (s : qh H H') : Rp mg K G H' v d := h.mono (fun a g => ⟨g, fun o e => s a o e⟩)
theorem qc.weak {G G' : Addr -> Prop} {H : Hp} {v : List V} {d : List D} (h : qc mg K G H v d) (k : ∀ a, G a -> G' a) : qc mg K G' H v d := h.mono (fun a g => ⟨k a g, fun _ e => e⟩)
theorem qc.same {G : Addr -> Prop} {H H' : Hp} {v : List V} {d : List D} (h : qc mg K G H v d) (s : qh H H') : qc mg K G H' v d := h.mono (fun a g => ⟨g, fun o e => s a o e⟩)
noncomputable def toV : D -> V
 | .non => .non
 | .bl b => .bl b
 | .int i => .int i
 | _ => .non
theorem Rp.vd {G : Addr -> Prop} {H : Hp} : ∀ {d : D}, d.sc = true -> Rp mg K G H (toV d) d
 | .non, _ => .non
 | .bl b, _ => .bl b
 | .int i, _ => .int i
 | .lst _, h => nomatch h
 | .tup _, h => nomatch h
 | .fn _, h => nomatch h
 | .obj _ _ _, h => nomatch h
theorem Rp.sc {G : Addr -> Prop} {H : Hp} {v : V} {d : D} (h : Rp mg K G H v d) (s : d.sc = true) : v = toV d := by
 cases h <;> first | rfl | cases s
theorem qc.vd {G : Addr -> Prop} {H : Hp} : ∀ {ds : List D}, ds.all D.sc = true -> qc mg K G H (ds.map toV) ds
 | [], _ => .nil
 | d :: ds, h => by
  rw [List.all_cons, Bool.and_eq_true] at h
  exact .cons (.vd h.1) (qc.vd h.2)
theorem qc.sc {G : Addr -> Prop} {H : Hp} : ∀ {vs : List V} {ds : List D}, qc mg K G H vs ds -> ds.all D.sc = true -> vs = ds.map toV
 | _, [], .nil, _ => rfl
 | _, d :: ds, .cons a b, h => by
  rw [List.all_cons, Bool.and_eq_true] at h
  rw [a.sc h.1, qc.sc b h.2]
  rfl
theorem qc.len {G : Addr -> Prop} {H : Hp} : ∀ {vs : List V} {ds : List D}, qc mg K G H vs ds -> vs.length = ds.length
 | _, _, .nil => rfl
 | _, _, .cons _ b => by rw [List.length_cons, List.length_cons, qc.len b]
theorem qc.get {G : Addr -> Prop} {H : Hp} : ∀ {vs : List V} {ds : List D} {i : Nat} {v : V}, qc mg K G H vs ds -> vs[i]? = some v -> ∃ d, ds[i]? = some d /\ Rp mg K G H v d
 | _, _, i, _, .nil, e => by simp at e
 | _, _, 0, _, .cons a _, e => by simp at e; subst e; exact ⟨_, rfl, a⟩
 | _, _, i + 1, v, .cons _ b, e => by
  obtain ⟨d, h1, h2⟩ := qc.get (i := i) (v := v) b (by simpa using e)
  exact ⟨d, by simpa using h1, h2⟩
theorem qc.getD {G : Addr -> Prop} {H : Hp} : ∀ {vs : List V} {ds : List D} {i : Nat} {d : D}, qc mg K G H vs ds -> ds[i]? = some d -> ∃ v, vs[i]? = some v /\ Rp mg K G H v d
 | _, _, i, _, .nil, e => by simp at e
 | _, _, 0, _, .cons a _, e => by simp at e; subst e; exact ⟨_, rfl, a⟩
 | _, _, i + 1, d, .cons _ b, e => by
  obtain ⟨v, h1, h2⟩ := qc.getD (i := i) (d := d) b (by simpa using e)
  exact ⟨v, by simpa using h1, h2⟩
theorem qc.append {G : Addr -> Prop} {H : Hp} : ∀ {vs us : List V} {ds es : List D}, qc mg K G H vs ds -> qc mg K G H us es -> qc mg K G H (vs ++ us) (ds ++ es)
 | _, _, _, _, .nil, h => h
 | _, _, _, _, .cons a b, h => .cons a (qc.append b h)
theorem qc.rep {G : Addr -> Prop} {H : Hp} {vs : List V} {ds : List D} (h : qc mg K G H vs ds) : ∀ n : Nat, qc mg K G H (List.replicate n vs).flatten (List.replicate n ds).flatten
 | 0 => .nil
 | n + 1 => by
  rw [List.replicate_succ, List.replicate_succ, List.flatten_cons, List.flatten_cons]
  exact h.append (qc.rep h n)
end
structure Bs where
 H0 : Hp
 P : Addr -> Prop
noncomputable def qw (B : Bs) (σ : St) (δ : Dl) (p : Addr) : Prop := B.P p \/ ∃ (i : Nat) (ds : List D), δ[i]? = some (.own ds) /\ σ[i]? = some (some (.ref p))
structure Rl (mg : Str -> Option Value) (K : PySem.W.Frag) (B : Bs) (H : Hp) (σ : St) (δ : Dl) : Prop where
 same : qh B.H0 H
 pd : ∀ p, B.P p -> H p ≠ none
 len : σ.length = δ.length
 val : ∀ (i : Nat) (d : D) (k : Bool), δ[i]? = some (.val d k) -> ∃ v, σ[i]? = some (some v) /\ Rp mg K (fun a => ¬ qw B σ δ a /\ (k = true -> B.H0 a = none)) H v d
 own : ∀ (i : Nat) (ds : List D), δ[i]? = some (.own ds) -> ds.all D.sc = true /\ ∃ p, σ[i]? = some (some (.ref p)) /\ B.H0 p = none /\ ¬ B.P p /\ H p = some (.lst (ds.map toV))
 apart : ∀ (i j : Nat) (p : Addr) (ds es : List D), δ[i]? = some (.own ds) -> δ[j]? = some (.own es) -> σ[i]? = some (some (.ref p)) -> σ[j]? = some (some (.ref p)) -> i = j
noncomputable def VR (mg : Str -> Option Value) (K : PySem.W.Frag) (B : Bs) (H H' : Hp) (σ : St) (δ : Dl) : Kd -> V -> D -> Prop
 | .bo, v, d => Rp mg K (fun a => ¬ B.P a) H' v d
 | .sh, v, d => Rp mg K (fun a => ¬ qw B σ δ a) H' v d
 | .nw, v, d => Rp mg K (fun a => ¬ qw B σ δ a /\ B.H0 a = none) H' v d
 | .fr, v, d => ∃ p ds, v = .ref p /\ d = .lst ds /\ ds.all D.sc = true /\ H p = none /\ H' p = some (.lst (ds.map toV))
section
variable {mg : Str -> Option Value} {K : PySem.W.Frag} {B : Bs} {H H1 H' H'' : Hp} {σ : St} {δ : Dl} {k l : Kd} {v : V} {d : D}
theorem qh.refl {H : Hp} : qh H H := fun _ _ e => e
theorem Rl.more (R : Rl mg K B H σ δ) (s : qh H H') : Rl mg K B H' σ δ :=
 ⟨R.same.trans s, fun p h => fun z => R.pd p h (s.free z), R.len, fun i d k e => let ⟨v, a, b⟩ := R.val i d k e; ⟨v, a, b.same s⟩, fun i ds e => let ⟨a, p, b, c, n, x⟩ := R.own i ds e; ⟨a, p, b, c, n, s _ _ x⟩, R.apart⟩
theorem Rl.owned (R : Rl mg K B H σ δ) {p : Addr} (h : qw B σ δ p) : H p ≠ none := by
 rcases h with h | ⟨i, ds, e, e2⟩
 ·exact R.pd p h
 ·obtain ⟨_, q, e3, _, _, e4⟩ := R.own i ds e
  rw [e2] at e3
  cases e3
  rw [e4]
  exact fun z => nomatch z
theorem Rl.fresh (R : Rl mg K B H σ δ) {p : Addr} (h : H p = none) : ¬ qw B σ δ p := fun o => R.owned o h
theorem VR.later (h : VR mg K B H H' σ δ k v d) (s : qh H' H'') : VR mg K B H H'' σ δ k v d := by
 cases k with
 | bo => exact Rp.same h s
 | sh => exact Rp.same h s
 | nw => exact Rp.same h s
 | fr => obtain ⟨p, ds, a, b, c, e, f⟩ := h; exact ⟨p, ds, a, b, c, e, s _ _ f⟩
theorem VR.yn (h : VR mg K B H1 H' σ δ k v d) (s : qh H H1) : VR mg K B H H' σ δ k v d := by
 cases k with
 | bo => exact h
 | sh => exact h
 | nw => exact h
 | fr => obtain ⟨p, ds, a, b, c, e, f⟩ := h; exact ⟨p, ds, a, b, c, s.free e, f⟩
theorem VR.vU (R : Rl mg K B H σ δ) (h : VR mg K B H H' σ δ .fr v d) : VR mg K B H H' σ δ .nw v d := by
 obtain ⟨p, ds, rfl, rfl, c, e, f⟩ := h
 exact .lst ⟨R.fresh e, R.same.free e⟩ (.of f) (.vd c)
theorem VR.vW (h : VR mg K B H H' σ δ .nw v d) : VR mg K B H H' σ δ .sh v d := Rp.weak h fun _ g => g.1
theorem VR.ye (h : VR mg K B H H' σ δ .sh v d) : VR mg K B H H' σ δ .bo v d := Rp.weak h fun _ g z => g (.inl z)
theorem VR.bo' (R : Rl mg K B H σ δ) (h : VR mg K B H H' σ δ k v d) : VR mg K B H H' σ δ .bo v d := by
 cases k with
 | bo => exact h
 | sh => exact VR.ye h
 | nw => exact VR.ye (VR.vW h)
 | fr => exact VR.ye (VR.vW (VR.vU R h))
theorem VR.rp (R : Rl mg K B H σ δ) (h : VR mg K B H H' σ δ k v d) : Rp mg K (fun _ => True) H' v d := by
 exact Rp.weak (VR.bo' R h) fun _ _ => trivial
theorem VR.low (R : Rl mg K B H σ δ) (l : Kd) (h : VR mg K B H H' σ δ k v d) : VR mg K B H H' σ δ (k.low l) v d := by
 cases k <;> cases l <;> first | exact h | exact VR.bo' R h | exact VR.vU R h | exact VR.vW h | exact VR.vW (VR.vU R h)
theorem VR.YL (R : Rl mg K B H σ δ) (l : Kd) (h : VR mg K B H H' σ δ k v d) : VR mg K B H H' σ δ (l.low k) v d := by
 cases k <;> cases l <;> first | exact h | exact VR.bo' R h | exact VR.vU R h | exact VR.vW h | exact VR.vW (VR.vU R h)
theorem VR.vd (k : Kd) (hk : k ≠ .fr) (s : d.sc = true) : VR mg K B H H' σ δ k (toV d) d := by
 cases k <;> first | exact Rp.vd s | exact absurd rfl hk
theorem VR.int (i : Int) : VR mg K B H H' σ δ .nw (.int i) (.int i) := Rp.int i
theorem VR.bl (b : Bool) : VR mg K B H H' σ δ .nw (.bl b) (.bl b) := Rp.bl b
noncomputable def Gk (B : Bs) (σ : St) (δ : Dl) : Kd -> Addr -> Prop
 | .bo, a => ¬ B.P a
 | .sh, a => ¬ qw B σ δ a
 | _, a => ¬ qw B σ δ a /\ B.H0 a = none
theorem VR.gk (hk : k ≠ .fr) : VR mg K B H H' σ δ k v d = Rp mg K (Gk B σ δ k) H' v d := by
 cases k <;> first | rfl | exact absurd rfl hk
theorem low_ne (k l : Kd) : k.low l ≠ .fr := by cases k <;> cases l <;> intro z <;> cases z
theorem VR.items {ds : List D} (R : Rl mg K B H σ δ) (h : VR mg K B H H' σ δ k v (.lst ds)) : ∃ a xs, v = .ref a /\ SqL K H' a xs /\ qc mg K (Gk B σ δ (k.low .nw)) H' xs ds := by
 have h2 := VR.low R .nw h
 rw [VR.gk (low_ne _ _)] at h2
 cases h2 with
 | lst g s r => exact ⟨_, _, rfl, .inl s, r⟩
 | lstK s r => exact ⟨_, _, rfl, s _, r⟩
theorem VR.Vk {ds : List D} (R : Rl mg K B H σ δ) (h : VR mg K B H H' σ δ k v (.tup ds)) : ∃ a xs, v = .ref a /\ SqT K H' a xs /\ qc mg K (Gk B σ δ (k.low .nw)) H' xs ds := by
 have h2 := VR.low R .nw h
 rw [VR.gk (low_ne _ _)] at h2
 cases h2 with
 | tup g s r => exact ⟨_, _, rfl, .inl s, r⟩
 | tupK s r => exact ⟨_, _, rfl, s _, r⟩
theorem VR.laid {p : Addr} {xs : List V} {ds : List D} (R : Rl mg K B H σ δ) (s : qh H H') (hp : H' p = none) (hk : k ≠ .fr) (h : qc mg K (Gk B σ δ k) H' xs ds) : VR mg K B H (upd H' p (.lst xs)) σ δ (kL ds k) (.ref p) (.lst ds) := by
 unfold kL
 split
 ·rename_i c
  refine ⟨p, ds, rfl, rfl, c, s.free hp, ?_⟩
  rw [qm, qc.sc h c]
 ·rw [VR.gk hk]
  have sm : qh H' (upd H' p (.lst xs)) := fun b o e => by rw [qd (qu e hp)]; exact e
  refine .lst ?_ (.of qm) (h.same sm)
  cases k with
  | bo => exact fun z => R.pd p z (s.free hp)
  | sh => exact R.fresh (s.free hp)
  | nw => exact ⟨R.fresh (s.free hp), R.same.free (s.free hp)⟩
  | fr => exact absurd rfl hk
theorem qE {p : Addr} {o : HO} (hp : H p = none) : qh H (upd H p o) := fun b q e => by rw [qd (qu e hp)]; exact e
end
noncomputable def qg {α : Type} (mg : Str -> Option Value) (E : XK) (H : Hp) (o : Rs α) (k : α -> Prop) : Prop := match o with
 | .ok a => k a
 | .er c => ∀ C H', mg c = some (.ref C) -> qh H H' -> E (.ref C) none H'
 | .no => False
noncomputable def Fin (mg : Str -> Option Value) (K : PySem.W.Frag) (E : XK) (B : Bs) (H : Hp) (σ : St) (δ : Dl) (o : Rs DK) (Q : VK) : Prop :=
 qg mg E H o fun x => ∀ v H', qh H H' -> VR mg K B H H' σ δ x.2 v x.1 -> Q v H'
noncomputable def tE (mg : Str -> Option Value) (K : PySem.W.Frag) (E : XK) (r : RE) : TE := fun σ H Q => ∃ B δ, Rl mg K B H σ δ /\ Fin mg K E B H σ δ (r δ) Q
noncomputable def Qk (mg : Str -> Option Value) (E : XK) (H : Hp) (o : Rs Bool) (Q : Bool -> Hp -> Prop) : Prop := qg mg E H o fun b => ∀ H', qh H H' -> Q b H'
noncomputable def tT (mg : Str -> Option Value) (K : PySem.W.Frag) (E : XK) (r : RT) : TT := fun σ H Q => ∃ B δ, Rl mg K B H σ δ /\ Qk mg E H (r δ) Q
inductive VRs (mg : Str -> Option Value) (K : PySem.W.Frag) (B : Bs) (H H' : Hp) (σ : St) (δ : Dl) : List V -> List DK -> Prop
 | nil : VRs mg K B H H' σ δ [] []
 | cons {v : V} {vs : List V} {x : DK} {xs : List DK} : VR mg K B H H' σ δ x.2 v x.1 -> VRs mg K B H H' σ δ vs xs -> VRs mg K B H H' σ δ (v :: vs) (x :: xs)
noncomputable def FinA (mg : Str -> Option Value) (K : PySem.W.Frag) (E : XK) (B : Bs) (H : Hp) (σ : St) (δ : Dl) (o : Rs (List DK)) (Q : List V -> Hp -> Prop) : Prop :=
 qg mg E H o fun xs => ∀ vs H', qh H H' -> VRs mg K B H H' σ δ vs xs -> Q vs H'
noncomputable def tA (mg : Str -> Option Value) (K : PySem.W.Frag) (E : XK) (r : RA) : TA := fun σ H Q => ∃ B δ, Rl mg K B H σ δ /\ FinA mg K E B H σ δ (r δ) Q
section
variable {mg : Str -> Option Value} {K : PySem.W.Frag} {E : XK} {B : Bs} {H H1 H' H'' : Hp} {σ : St} {δ : Dl} {k l : Kd} {v : V} {d : D} {Q : VK}
theorem qg.bind {α β : Type} {x : Rs α} {f : α -> Rs β} {k : β -> Prop} (h : qg mg E H (x.bind f) k) : qg mg E H x fun a => qg mg E H (f a) k := by
 cases x with
 | ok a => exact h
 | er c => exact h
 | no => exact h
theorem qg.imp {α : Type} {x : Rs α} {k k' : α -> Prop} (h : qg mg E H x k) (i : ∀ a, k a -> k' a) : qg mg E H x k' := by
 cases x with
 | ok a => exact i a h
 | er c => exact h
 | no => exact h
theorem qg.more {α : Type} {x : Rs α} {k : α -> Prop} (h : qg mg E H x k) (s : qh H H') : qg mg E H' x k := by
 cases x with
 | ok a => exact h
 | er c => exact fun C H2 e s2 => h C H2 e (s.trans s2)
 | no => exact h
theorem Fin.more {o : Rs DK} (h : Fin mg K E B H σ δ o Q) (s : qh H H') : Fin mg K E B H' σ δ o Q :=
 qg.more (qg.imp h fun x q v H2 s2 r => q v H2 (s.trans s2) (r.yn s)) s
theorem Qk.more {o : Rs Bool} {Q : Bool -> Hp -> Prop} (h : Qk mg E H o Q) (s : qh H H') : Qk mg E H' o Q := qg.more (qg.imp h fun x q H2 s2 => q H2 (s.trans s2)) s
theorem VRs.yn {vs : List V} {xs : List DK} (h : VRs mg K B H1 H' σ δ vs xs) (s : qh H H1) : VRs mg K B H H' σ δ vs xs := by
 induction h with
 | nil => exact .nil
 | cons a _ ih => exact .cons (a.yn s) ih
theorem VRs.rp (R : Rl mg K B H σ δ) {vs : List V} {xs : List DK} (h : VRs mg K B H H' σ δ vs xs) : qc mg K (fun _ => True) H' vs (xs.map (·.1)) := by
 induction h with
 | nil => exact .nil
 | cons a _ ih => exact .cons (a.rp R) ih
theorem VR.Ql (R : Rl mg K B H σ δ) {x : DK} (h : VR mg K B H H' σ δ x.2 v x.1) (l : Kd) (s : x.1.sc = false -> ∃ m, l = x.2.low m \/ l = Kd.low m x.2) (hl : l ≠ .fr) : Rp mg K (Gk B σ δ l) H' v x.1 := by
 rw [<- VR.gk (H := H) hl]
 cases c : x.1.sc with
 | true =>
  have e := (h.rp R).sc c
  rw [e]
  exact VR.vd l hl c
 | false =>
  obtain ⟨m, e | e⟩ := s c
  ·rw [e]; exact VR.low R m h
  ·rw [e]; exact VR.YL R m h
theorem wD (a b c : Kd) : (a.low b).low c = a.low (b.low c) := by cases a <;> cases b <;> cases c <;> rfl
theorem ym (a b : Kd) : a.low b = b.low a := by cases a <;> cases b <;> rfl
theorem vE : ∀ xs : List DK, qi xs ≠ .fr
 | [] => fun z => nomatch z
 | x :: r => by
  unfold qi
  split
  ·exact vE r
  ·exact low_ne _ _
theorem VRs.kinds (R : Rl mg K B H σ δ) : ∀ {vs : List V} {xs : List DK}, VRs mg K B H H' σ δ vs xs -> ∀ m : Kd, m ≠ .fr -> qc mg K (Gk B σ δ (m.low (qi xs))) H' vs (xs.map (·.1))
 | _, _, .nil, _, _ => .nil
 | _, _, @VRs.cons _ _ _ _ _ _ _ v vs x xs a b, m, hm => by
  refine .cons ?_ ?_
  ·refine VR.Ql R a _ (fun s => ?_) (low_ne _ _)
   unfold qi
   rw [if_neg (by rw [s]; decide), <- wD, ym m, wD]
   exact ⟨_, .inl rfl⟩
  ·unfold qi
   split
   ·exact VRs.kinds R b m hm
   ·rw [<- wD]
    exact VRs.kinds R b _ (low_ne _ _)
theorem VRs.Zh (R : Rl mg K B H σ δ) {vs : List V} {xs : List DK} (h : VRs mg K B H H' σ δ vs xs) : qc mg K (Gk B σ δ (qi xs)) H' vs (xs.map (·.1)) := by
 have q := VRs.kinds R h .nw (fun z => nomatch z)
 have e : Kd.low .nw (qi xs) = qi xs := by
  have := vE xs
  cases h : qi xs <;> first | rfl | exact absurd h this
 rw [e] at q
 exact q
end
section
variable {X : Cx} {E : XK} {a b : Expr} {ra rb : RE} {pos : Pos}
theorem qL {e : Expr} {t t' : TE} (h : PE X e t) (i : ∀ σ H Q, t' σ H Q -> t σ H Q) : PE X e t' := fun pins s σ H Q I hw => h pins s σ H Q I (i σ H Q hw)
theorem xh {e : Expr} {t t' : TT} (h : PT X e t) (i : ∀ σ H Q, t' σ H Q -> t σ H Q) : PT X e t' := fun pins s σ H Q I hw => h pins s σ H Q I (i σ H Q hw)
theorem qV {e : Stmt} {t t' : TS} (h : PS X e t) (i : ∀ D σ H, t' D σ H -> t D σ H) : PS X e t' := fun pins s σ H D I hw => h pins s σ H D I (i D σ H hw)
noncomputable abbrev TEx (X : Cx) (E : XK) (r : RE) : TE := tE X.mg X.K E r
noncomputable abbrev TTx (X : Cx) (E : XK) (r : RT) : TT := tT X.mg X.K E r
noncomputable abbrev TAx (X : Cx) (E : XK) (r : RA) : TA := tA X.mg X.K E r
theorem Ye {i : Nat} {x : Str} (hN : X.N[i]? = some x) (hv : Vis X.env.scope x) (hd : (x == ("__debug__" : Str)) = false := by decide) (hcd : (x == ("__classdict__" : Str)) = false := by decide) : PE X (.Name x pos) (TEx X E (qe i)) := by
 refine qL (xO hN hv hd hcd) fun σ H Q ⟨B, δ, R, h⟩ => ?_
 unfold qe Fin at h
 cases hδ : δ[i]? with
 | none => rw [hδ] at h; exact h.elim
 | some s =>
  rw [hδ] at h
  cases s with
  | un => exact h.elim
  | val d k =>
   obtain ⟨v, e, q⟩ := R.val i d k hδ
   refine ⟨v, e, h v H qh.refl ?_⟩
   cases k with
   | true => exact Rp.weak q fun a g => ⟨g.1, g.2 rfl⟩
   | false => exact Rp.weak q fun a g => g.1
  | own ds =>
   obtain ⟨c, p, e, _, np, q⟩ := R.own i ds hδ
   exact ⟨.ref p, e, h (.ref p) H qh.refl (Rp.lst np (.of q) (.vd c))⟩
theorem uR {i : Int} {j : Nat} : PE X (.Constant (.int i) j pos) (TEx X E (rC (.int i))) := qL uT fun σ H Q ⟨B, δ, R, h⟩ => h (.int i) H qh.refl (VR.int i)
theorem xa {x : Str} {i : Int} (hg : Gl X x) (hm : ∃ t, X.mg x = some (.int i t)) (hd : (x == ("__debug__" : Str)) = false := by decide) : PE X (.Name x pos) (TEx X E (rC (.int i))) := by
 obtain ⟨t, hm⟩ := hm
 exact qL (V0 (v := .int i) hg hm ⟨t, rfl⟩ hd) fun σ H Q ⟨B, δ, R, h⟩ => h (.int i) H qh.refl (VR.int i)
noncomputable def wd (X : Cx) (f : DK -> DK -> Rs DK) (rr : R2) : Prop := ∀ (B : Bs) (H H' : Hp) (σ : St) (δ : Dl) (x y : V) (dx dy : DK) (Q : VK) (E : XK), Rl X.mg X.K B H σ δ -> qh H H' -> VR X.mg X.K B H H' σ δ dx.2 x dx.1 -> VR X.mg X.K B H H' σ δ dy.2 y dy.1 ->
 Fin X.mg X.K E B H' σ δ (f dx dy) Q -> rr x y H' Q
theorem two {f : DK -> DK -> Rs DK} {rr : R2} (F : wd X f rr) {σ : St} {H : Hp} {Q : VK} (h : TEx X E (qJ f ra rb) σ H Q) : tOp rr (TEx X E ra) (TEx X E rb) σ H Q := by
 obtain ⟨B, δ, R, h⟩ := h
 refine ⟨B, δ, R, qg.imp (qg.bind h) fun dx h1 v H1 s1 r1 => ?_⟩
 refine ⟨B, δ, R.more s1, ?_⟩
 refine qg.imp (qg.more (qg.bind h1) s1) fun dy h2 w H2 s2 r2 => ?_
 exact F B H H2 σ δ v w dx dy Q E R (s1.trans s2) (r1.later s2) (r2.yn s1) (Fin.more h2 (s1.trans s2))
theorem yD {op : Operator} {f : DK -> DK -> Rs DK} {rr : R2} (ho : OpR X (binaryOp op) rr) (F : wd X f rr) (ha : PE X a (TEx X E ra)) (hb : PE X b (TEx X E rb)) : PE X (.BinOp a op b pos) (TEx X E (qJ f ra rb)) :=
 qL (WR ho ha hb) fun _ _ _ h => two F h
theorem ZX {op : CmpOp} {f : DK -> DK -> Rs DK} {rr : R2} (ho : OpR X (compareOp op) rr) (F : wd X f rr) (hm : behindInMarks op b = false) (ha : PE X a (TEx X E ra)) (hb : PE X b (TEx X E rb)) : PE X (.Compare a [op] [b] pos) (TEx X E (qJ f ra rb)) :=
 qL (WB ho ha hb hm) fun _ _ _ h => two F h
theorem jI {r : RE} {σ : St} {H : Hp} {Q : Bool -> Hp -> Prop} (h : TTx X E (tBl r) σ H Q) : TEx X E r σ H fun x H' => ∃ k, x = .bl k /\ Q k H' := by
 obtain ⟨B, δ, R, h⟩ := h
 refine ⟨B, δ, R, ?_⟩
 unfold tBl Qk at h
 refine qg.imp (qg.bind h) fun x h1 v H1 s1 r1 => ?_
 obtain ⟨d, k⟩ := x
 cases d with
 | bl b =>
  have e : v = toV (.bl b) := (r1.rp R).sc rfl
  exact ⟨b, e, h1 H1 s1⟩
 | non => exact h1.elim
 | int i => exact h1.elim
 | lst l => exact h1.elim
 | tup l => exact h1.elim
 | fn x => exact h1.elim
 | obj c ns l => exact h1.elim
theorem xV {op : CmpOp} {f : DK -> DK -> Rs DK} {rr : R2} (ho : OpR X (compareOp op) rr) (F : wd X f rr) (hm : behindInMarks op b = false) (ha : PE X a (TEx X E ra)) (hb : PE X b (TEx X E rb)) : PT X (.Compare a [op] [b] pos) (TTx X E (tBl (qJ f ra rb))) :=
 xh (Wd ho ha hb hm) fun _ _ _ h => two F (jI h)
theorem ZY {r : RE} (ha : PE X a (TEx X E r)) (he : ∀ whole, isTrue a X.env whole = (do let v <- whole; standAt a.pos; holding [v] (truthy v)) := by intro _; rfl) : PT X a (TTx X E (tBl r)) :=
 xh (ZZ ha he) fun _ _ _ h => jI h
theorem Ze {r : RT} (ha : PT X a (TTx X E r)) : PT X (.UnaryOp .Not a pos) (TTx X E (uz r)) := by
 refine xh (ZQ ha) fun σ H Q ⟨B, δ, R, h⟩ => ⟨B, δ, R, ?_⟩
 exact qg.imp (qg.bind h) fun x h1 H1 s1 => h1 H1 s1
theorem VY {e : Expr} {t t' : TT} (h : PW X e t) (i : ∀ σ H Q, t' σ H Q -> t σ H Q) : PW X e t' := fun wh pins s σ H Q I hw => h wh pins s σ H Q I (i σ H Q hw)
theorem Z2 {r : RT} (ha : PT X a (TTx X E r)) : PW X (.BoolOp .Or [a] pos) (TTx X E r) := Zy ha
theorem Yz {rest : List Expr} {r q : RT} (ha : PT X a (TTx X E r)) (hb : PW X (.BoolOp .Or (b :: rest) pos) (TTx X E q)) : PW X (.BoolOp .Or (a :: b :: rest) pos) (TTx X E (Qe r q)) := by
 refine VY (YV ha hb) fun σ H Q ⟨B, δ, R, h⟩ => ⟨B, δ, R, ?_⟩
 refine qg.imp (qg.bind h) fun x h1 H1 s1 => ?_
 cases x with
 | true => exact h1 H1 s1
 | false => exact ⟨B, δ, R.more s1, Qk.more h1 s1⟩
theorem V1 {op : BoolOp} {es : List Expr} {r : RT} (h : PW X (.BoolOp op es pos) (TTx X E r)) : PT X (.BoolOp op es pos) (TTx X E r) := h.pt
theorem qK : PA X [] (TAx X E qC) := fun pos pins s σ H Q I ⟨B, δ, R, h⟩ => wj pos pins s σ H Q I (h [] H qh.refl .nil)
theorem Wc {es : List Expr} {t t' : TA} (h : PA X es t) (i : ∀ σ H Q, t' σ H Q -> t σ H Q) : PA X es t' := fun pos pins s σ H Q I hw => h pos pins s σ H Q I (i σ H Q hw)
theorem qo {es : List Expr} {r : RE} {rr : RA} (ha : PE X a (TEx X E r)) (hr : PA X es (TAx X E rr)) (hs : starEach (a :: es) X.env = (false, eval a X.env) :: starEach es X.env := by rfl) : PA X (a :: es) (TAx X E (qf r rr)) := by
 refine Wc (vo ha hr hs) fun σ H Q ⟨B, δ, R, h⟩ => ⟨B, δ, R, ?_⟩
 refine qg.imp (qg.bind h) fun x h1 v H1 s1 r1 => ⟨B, δ, R.more s1, ?_⟩
 refine qg.imp (qg.more (qg.bind h1) s1) fun xs h2 vs H2 s2 r2 => ?_
 exact h2 (v :: vs) H2 (s1.trans s2) (.cons (r1.later s2) (r2.yn s1))
theorem zt {r : RA} {σ : St} {H : Hp} {B : Bs} {δ : Dl} (R : Rl X.mg X.K B H σ δ) {Q : VK} {f : List DK -> Rs DK} {Q' : List V -> Hp -> Prop} (h : Fin X.mg X.K E B H σ δ ((r δ).bind f) Q)
  (i : ∀ xs vs H1, qh H H1 -> VRs X.mg X.K B H H1 σ δ vs xs -> Fin X.mg X.K E B H1 σ δ (f xs) Q -> Q' vs H1) : TAx X E r σ H Q' :=
 ⟨B, δ, R, qg.imp (qg.bind h) fun xs h1 vs H1 s1 r1 => i xs vs H1 s1 r1 (Fin.more h1 s1)⟩
theorem VRs.len {mg : Str -> Option Value} {K : PySem.W.Frag} {B : Bs} {H H' : Hp} {σ : St} {δ : Dl} {vs : List V} {xs : List DK} (h : VRs mg K B H H' σ δ vs xs) : vs.length = xs.length := by
 induction h with
 | nil => rfl
 | cons _ _ ih => rw [List.length_cons, List.length_cons, ih]
theorem xF {es : List Expr} {r : RA} (h : PA X es (TAx X E r)) : PE X (.List es pos) (TEx X E (ze r)) := by
 refine qL (xf h) fun σ H Q ⟨B, δ, R, h⟩ => ?_
 refine zt R h fun xs vs H1 s1 r1 h1 => ?_
 by_cases hl : xs.length <= LIM
 ·rw [if_pos hl] at h1
  refine ⟨by rw [r1.len]; exact hl, fun p hp => ?_⟩
  refine h1 (.ref p) _ (qE hp) ?_
  exact VR.laid (R.more s1) qh.refl hp (vE xs) (r1.Zh R)
 ·rw [if_neg hl] at h1
  exact h1.elim
end
theorem uB {i : Int} (h : few i) : Builtin.Int.intBits i <= 60000 := by
 unfold Builtin.Int.intBits
 split
 ·exact Nat.zero_le _
 ·have hn : i.natAbs < 2 ^ 60000 := h
  have : i.natAbs.log2 < 60000 := by
   rcases Nat.eq_zero_or_pos i.natAbs with h0 | hp
   ·rw [h0, Nat.log2_zero]; exact Nat.zero_lt_of_lt (by exact (show 0 < 60000 by decide))
   ·exact (Nat.log2_lt (Nat.ne_of_gt hp)).mpr hn
  lia
theorem Ws {i j : Int} (h : few i) (h' : few j) : IntMulOk i j := by
 unfold IntMulOk
 have a := uB h
 have b := uB h'
 have c : Builtin.Int.intTooBig (Builtin.Int.intBits i + Builtin.Int.intBits j) = false := by
  unfold Builtin.Int.intTooBig
  refine decide_eq_false ?_
  have e : bitsLine = 134217728 := by decide
  lia
 rw [c]
 simp
section
variable {X : Cx}
theorem Wo : OpR X (binaryOp .Mult) (rI (fun i j => few i /\ few j) fun i j => .int (i * j)) := opI fun _ _ _ _ _ _ _ hc q => mul_int q (Ws hc.1 hc.2)
noncomputable def QE (K : PySem.W.Frag) : R2 := fun x y H Q => ∃ l b xs zs, x = .ref l /\ y = .ref b /\ SqL K H l xs /\ SqL K H b zs /\ xs.length + zs.length <= sizeLine /\ ∀ p, H p = none -> Q (.ref p) (upd H p (.lst (xs ++ zs)))
theorem WE : OpR X (binaryOp .Add) (QE X.K) := by
 intro pins s σ H x y v u Q I rx ry h
 obtain ⟨l, b, xs, zs, rfl, rfl, hH, hB, hz, q⟩ := h
 cases rx
 cases ry
 obtain ⟨its, r, p1, z1⟩ := I.list hH
 obtain ⟨its2, r2, p2, z2⟩ := I.list hB
 have l1 := r.length
 have l2 := r2.length
 obtain ⟨⟨cls, dd, data, sl⟩, ho, hc, n, hd⟩ := id p1.isList
 obtain ⟨⟨cls2, dd2, data2, sl2⟩, ho2, hc2, n2, hd2⟩ := id p2.isList
 simp only at hc hd hc2 hd2
 subst hc hd hc2 hd2
 have e : its.toArray ++ its2.toArray = (its ++ its2).toArray := by simp
 refine concat_meets ⟨_, ho, rfl⟩ ⟨_, ho2, rfl⟩ noFill_list_add seq_list_add PySem.F.slot_list_add PySem.F.entry_list_add (PySem.F.args_list_add_2 _ _) (list_addW l b its.toArray its2.toArray n n2 dd dd2 sl sl2 (by rw [List.size_toArray, List.size_toArray]; lia)) ⟨ho, ho2, ?_⟩
 rw [e]
 exact ⟨.ref _, _, I.VW (t' := s.toks) (r.append r2) (by rw [List.length_append]; lia), rfl, q _ I.fresh⟩
theorem qP {mg : Str -> Option Value} {K : PySem.W.Frag} {B : Bs} {H H' : Hp} {σ : St} {δ : Dl} {k : Kd} {v : V} {i : Int} (R : Rl mg K B H σ δ) (h : VR mg K B H H' σ δ k v (.int i)) : v = .int i := (h.rp R).sc rfl
theorem WW {mg : Str -> Option Value} {K : PySem.W.Frag} {B : Bs} {H H' : Hp} {σ : St} {δ : Dl} {k : Kd} {v : V} {i : Bool} (R : Rl mg K B H σ δ) (h : VR mg K B H H' σ δ k v (.bl i)) : v = .bl i := (h.rp R).sc rfl
theorem Vw : wd X uW (fun x y H Q => rI0 (fun i j => .int (i + j)) x y H Q \/ QE X.K x y H Q) := by
 rintro B H H' σ δ x y ⟨dx, kx⟩ ⟨dy, ky⟩ Q E R s r1 r2 h
 cases dx with
 | int i =>
  cases dy with
  | int j => exact .inl ⟨i, j, qP R r1, qP R r2, h _ H' qh.refl (VR.int _)⟩
  | _ => exact h.elim
 | lst xs =>
  cases dy with
  | lst ys =>
   right
   obtain ⟨a, vs, rfl, q1, g1⟩ := VR.items R r1
   obtain ⟨b, us, rfl, q2, g2⟩ := VR.items R r2
   simp only [uW] at h
   by_cases hl : xs.length + ys.length <= LIM
   ·rw [if_pos hl] at h
    refine ⟨a, b, vs, us, rfl, rfl, q1, q2, by rw [g1.len, g2.len]; exact hl, fun p hp => ?_⟩
    refine h _ _ (qE hp) (VR.laid (R.more s) qh.refl hp (low_ne _ _) (qc.append ?_ ?_))
    ·refine g1.weak fun a g => ?_
     revert g
     cases kx <;> cases ky <;> first | exact fun g => g | exact fun g => g.1 | exact fun g z => g (.inl z) | exact fun g z => g.1 (.inl z)
    ·refine g2.weak fun a g => ?_
     revert g
     cases kx <;> cases ky <;> first | exact fun g => g | exact fun g => g.1 | exact fun g z => g (.inl z) | exact fun g z => g.1 (.inl z)
   ·rw [if_neg hl] at h
    exact h.elim
  | _ => exact h.elim
 | _ => exact h.elim
theorem jn : OpR X (binaryOp .Add) (fun x y H Q => rI0 (fun i j => .int (i + j)) x y H Q \/ QE X.K x y H Q) := ZM.or WE
theorem xT {f : DK -> DK -> Rs DK} {g : Int -> Int -> V} {c : Int -> Int -> D} (hf : ∀ dx dy, f dx dy = match dx.1, dy.1 with | .int i, .int j => .ok (c i j, .nw) | _, _ => .no) (hg : ∀ i j, g i j = toV (c i j)) (hc : ∀ i j, (c i j).sc = true) : wd X f (rI0 g) := by
 rintro B H H' σ δ x y ⟨dx, kx⟩ ⟨dy, ky⟩ Q E R s r1 r2 h
 rw [hf] at h
 cases dx with
 | int i =>
  cases dy with
  | int j => exact ⟨i, j, qP R r1, qP R r2, by rw [hg]; exact h _ H' qh.refl (VR.vd _ (fun z => nomatch z) (hc i j))⟩
  | _ => exact h.elim
 | _ => exact h.elim
theorem Zv : wd X W6 (rI0 fun i j => .int (i - j)) := xT (c := fun i j => .int (i - j)) (by rintro ⟨dx, kx⟩ ⟨dy, ky⟩; cases dx <;> cases dy <;> rfl) (fun _ _ => rfl) fun _ _ => rfl
theorem Z9 (g : Int -> Int -> Int) : wd X (Yf g) (rI0 fun i j => .int (g i j)) := xT (c := fun i j => .int (g i j)) (by rintro ⟨dx, kx⟩ ⟨dy, ky⟩; cases dx <;> cases dy <;> rfl) (fun _ _ => rfl) fun _ _ => rfl
theorem jc (g : Int -> Int -> Bool) : wd X (yJ g) (rI0 fun i j => .bl (g i j)) := xT (c := fun i j => .bl (g i j)) (by rintro ⟨dx, kx⟩ ⟨dy, ky⟩; cases dx <;> cases dy <;> rfl) (fun _ _ => rfl) fun _ _ => rfl
theorem Zk : wd X uU (fun x y H Q => rI (fun i j => few i /\ few j) (fun i j => .int (i * j)) x y H Q \/ YC x y H Q) := by
 rintro B H H' σ δ x y ⟨dx, kx⟩ ⟨dy, ky⟩ Q E R s r1 r2 h
 cases dx with
 | int i =>
  cases dy with
  | int j =>
   simp only [uU] at h
   by_cases c : few i /\ few j
   ·rw [if_pos c] at h
    exact .inl ⟨i, j, qP R r1, qP R r2, c, h _ H' qh.refl (VR.int _)⟩
   ·rw [if_neg c] at h
    exact h.elim
  | _ => exact h.elim
 | lst xs =>
  cases dy with
  | int j =>
   right
   simp only [uU] at h
   cases kx with
   | fr =>
    obtain ⟨p, ds, rfl, e, c, _, hp⟩ := r1
    cases e
    dsimp only at h
    by_cases c2 : (0 <= j /\ j < 1000000) /\ xs.length * j.toNat <= LIM
    ·rw [if_pos c2] at h
     refine ⟨p, j, _, rfl, qP R r2, hp, by lia, by lia, by rw [List.length_map]; exact c2.2, fun q hq => ?_⟩
     refine h _ _ (qE hq) (VR.laid (k := .nw) (R.more s) qh.refl hq (fun z => nomatch z) (qc.rep (.vd c) _))
    ·rw [if_neg c2] at h
     exact h.elim
   | _ => exact h.elim
  | _ => cases kx <;> exact False.elim h
 | _ => exact h.elim
end
noncomputable def RR (mg : Str -> Option Value) (K : PySem.W.Frag) (H H' : Hp) : Bool -> V -> D -> Prop
 | true, v, d => ∃ p ds, v = .ref p /\ d = .lst ds /\ ds.all D.sc = true /\ H p = none /\ H' p = some (.lst (ds.map toV))
 | false, v, d => Rp mg K (fun a => H a = none) H' v d
noncomputable def Frm (B : Bs) (σ : St) (δ : Dl) (H : Hp) (σ' : St) (δ' : Dl) (H' : Hp) : Prop := ∀ b o, H b = some o -> ¬ qw B σ δ b -> H' b = some o /\ ¬ qw B σ' δ' b
theorem Frm.refl {B : Bs} {σ : St} {δ : Dl} {H : Hp} : Frm B σ δ H σ δ H := fun _ _ e n => ⟨e, n⟩
theorem Frm.trans {B : Bs} {σ σ1 σ2 : St} {δ δ1 δ2 : Dl} {H H1 H2 : Hp} (a : Frm B σ δ H σ1 δ1 H1) (b : Frm B σ1 δ1 H1 σ2 δ2 H2) : Frm B σ δ H σ2 δ2 H2 := fun c o e n => b c o (a c o e n).1 (a c o e n).2
theorem Frm.grow {B : Bs} {σ : St} {δ : Dl} {H H' : Hp} (s : qh H H') : Frm B σ δ H σ δ H' := fun b o e n => ⟨s b o e, n⟩
noncomputable def wb (mg : Str -> Option Value) (K : PySem.W.Frag) (E : XK) (B : Bs) (H : Hp) (σ : St) (δ : Dl) (o : Out) (D : Ends) : Prop := match o with
 | .nx δ' => ∀ σ' H', Rl mg K B H' σ' δ' -> Frm B σ δ H σ' δ' H' -> D.nx σ' H'
 | .bk δ' => ∀ σ' H', Rl mg K B H' σ' δ' -> Frm B σ δ H σ' δ' H' -> D.bk σ' H'
 | .ct δ' => ∀ σ' H', Rl mg K B H' σ' δ' -> Frm B σ δ H σ' δ' H' -> D.ct σ' H'
 | .rt d k => ∀ v H', qh B.H0 H' -> RR mg K B.H0 H' k v d -> D.rt v H'
 | .er c => ∀ C H', mg c = some (.ref C) -> qh B.H0 H' -> E (.ref C) none H'
 | .no => False
noncomputable def tS (mg : Str -> Option Value) (K : PySem.W.Frag) (E : XK) (r : RS) : TS := fun D σ H => ∃ B δ, Rl mg K B H σ δ /\ wb mg K E B H σ δ (r δ) D
noncomputable abbrev TSx (X : Cx) (E : XK) (r : RS) : TS := tS X.mg X.K E r
section
variable {mg : Str -> Option Value} {K : PySem.W.Frag} {E : XK} {B : Bs} {H H1 H' : Hp} {σ σ1 : St} {δ δ1 : Dl} {v : V} {d : D} {i : Nat}
theorem wb.later {o : Out} {D : Ends} (h : wb mg K E B H σ δ o D) (f : Frm B σ δ H σ1 δ1 H1) : wb mg K E B H1 σ1 δ1 o D := by
 cases o with
 | nx δ' => exact fun σ' H' R f' => h σ' H' R (f.trans f')
 | bk δ' => exact fun σ' H' R f' => h σ' H' R (f.trans f')
 | ct δ' => exact fun σ' H' R f' => h σ' H' R (f.trans f')
 | rt d k => exact h
 | er c => exact h
 | no => exact h
theorem wy {s : Sl} (hs : ∀ ds, s ≠ .own ds) {w : Option V} {p : Addr} (h : qw B (σ.set i w) (δ.set i s) p) : qw B σ δ p := by
 rcases h with h | ⟨j, ds, e1, e2⟩
 ·exact .inl h
 ·right
  by_cases hj : i = j
  ·subst hj
   by_cases hi : i < δ.length
   ·rw [List.getElem?_set_self hi] at e1
    exact absurd (Option.some.inj e1) (hs ds)
   ·rw [List.getElem?_eq_none (by rw [List.length_set]; lia)] at e1
    cases e1
  ·rw [List.getElem?_set_ne hj] at e1 e2
   exact ⟨j, ds, e1, e2⟩
theorem Rl.uY {k : Bool} (R : Rl mg K B H σ δ) (r : Rp mg K (fun a => ¬ qw B σ δ a /\ (k = true -> B.H0 a = none)) H v d) : Rl mg K B H (σ.set i (some v)) (δ.set i (.val d k)) := by
 have sub : ∀ a, ¬ qw B σ δ a -> ¬ qw B (σ.set i (some v)) (δ.set i (.val d k)) a := fun a n z => n (wy (fun _ q => by cases q) z)
 refine ⟨R.same, R.pd, by rw [List.length_set, List.length_set]; exact R.len, fun j d' k' e => ?_, fun j ds e => ?_, fun j l p ds es e1 e2 e3 e4 => ?_⟩
 ·by_cases hj : i = j
  ·subst hj
   by_cases hi : i < δ.length
   ·rw [List.getElem?_set_self hi] at e
    cases e
    exact ⟨v, List.getElem?_set_self (by rw [R.len]; exact hi), r.weak fun a g => ⟨sub a g.1, g.2⟩⟩
   ·rw [List.getElem?_eq_none (by rw [List.length_set]; lia)] at e
    cases e
  ·rw [List.getElem?_set_ne hj] at e ⊢
   obtain ⟨w, h1, h2⟩ := R.val j d' k' e
   exact ⟨w, h1, h2.weak fun a g => ⟨sub a g.1, g.2⟩⟩
 ·by_cases hj : i = j
  ·subst hj
   by_cases hi : i < δ.length
   ·rw [List.getElem?_set_self hi] at e
    cases e
   ·rw [List.getElem?_eq_none (by rw [List.length_set]; lia)] at e
    cases e
  ·rw [List.getElem?_set_ne hj] at e ⊢
   exact R.own j ds e
 ·have ne : ∀ {j : Nat} {ds : List D}, (δ.set i (.val d k))[j]? = some (.own ds) -> i ≠ j := fun {j ds} e q => by
   subst q
   by_cases hi : i < δ.length
   ·rw [List.getElem?_set_self hi] at e
    cases e
   ·rw [List.getElem?_eq_none (by rw [List.length_set]; lia)] at e
    cases e
  have n1 := ne e1
  have n2 := ne e2
  rw [List.getElem?_set_ne n1] at e1 e3
  rw [List.getElem?_set_ne n2] at e2 e4
  exact R.apart j l p ds es e1 e2 e3 e4
theorem wW {k : Bool} : Frm B σ δ H (σ.set i (some v)) (δ.set i (.val d k)) H := fun b o e n => ⟨e, fun z => n (wy (fun _ q => by cases q) z)⟩
theorem Rl.Z4 {p : Addr} {ds : List D} (R : Rl mg K B H σ δ) (s : qh H H') (hp : H p = none) (hp' : H' p = some (.lst (ds.map toV))) (c : ds.all D.sc = true) : Rl mg K B H' (σ.set i (some (.ref p))) (δ.set i (.own ds)) /\ Frm B σ δ H (σ.set i (some (.ref p))) (δ.set i (.own ds)) H' := by
 have get : ∀ {j : Nat} {x : Sl}, (δ.set i (.own ds))[j]? = some x -> (i = j /\ i < δ.length /\ x = .own ds) \/ (i ≠ j /\ δ[j]? = some x) := fun {j x} e => by
  by_cases hj : i = j
  ·subst hj
   by_cases hi : i < δ.length
   ·rw [List.getElem?_set_self hi] at e
    exact .inl ⟨rfl, hi, (Option.some.inj e).symm⟩
   ·rw [List.getElem?_eq_none (by rw [List.length_set]; lia)] at e
    cases e
  ·rw [List.getElem?_set_ne hj] at e
   exact .inr ⟨hj, e⟩
 have sub : ∀ a, H a ≠ none -> ¬ qw B σ δ a -> ¬ qw B (σ.set i (some (.ref p))) (δ.set i (.own ds)) a := fun a ha n z => by
  rcases z with z | ⟨j, es, e1, e2⟩
  ·exact n (.inl z)
  ·rcases get e1 with ⟨rfl, hi, _⟩ | ⟨hj, e1⟩
   ·rw [List.getElem?_set_self (by rw [R.len]; exact hi)] at e2
    cases e2
    exact ha hp
   ·rw [List.getElem?_set_ne hj] at e2
    exact n (.inr ⟨j, es, e1, e2⟩)
 have R' := R.more s
 refine ⟨⟨R'.same, R'.pd, by rw [List.length_set, List.length_set]; exact R.len, fun j d' k' e => ?_, fun j es e => ?_, fun j l q es fs e1 e2 e3 e4 => ?_⟩, fun b o e n => ⟨s b o e, sub b (by rw [e]; exact fun z => nomatch z) n⟩⟩
 ·rcases get e with ⟨_, _, z⟩ | ⟨hj, e⟩
  ·cases z
  ·obtain ⟨w, h1, h2⟩ := R.val j d' k' e
   rw [List.getElem?_set_ne hj]
   exact ⟨w, h1, (Rp.weak (Rp.there _ _ h2) fun a g => ⟨sub a g.2 g.1.1, g.1.2⟩).same s⟩
 ·rcases get e with ⟨rfl, hi, z⟩ | ⟨hj, e⟩
  ·cases z
   exact ⟨c, p, List.getElem?_set_self (by rw [R.len]; exact hi), R.same.free hp, fun z => R.pd p z hp, hp'⟩
  ·rw [List.getElem?_set_ne hj]
   exact R'.own j es e
 ·have pne : ∀ {j : Nat} {es : List D} {q : Addr}, δ[j]? = some (.own es) -> σ[j]? = some (some (.ref q)) -> q ≠ p := fun {j es q} e1 e2 z => by
   have := R.owned (.inr ⟨j, es, e1, e2⟩)
   rw [z] at this
   exact this hp
  rcases get e1 with ⟨h1, hi, _⟩ | ⟨h1, e1⟩
  ·rcases get e2 with ⟨h2, _, _⟩ | ⟨h2, e2⟩
   ·exact h1.symm.trans h2
   ·subst h1
    rw [List.getElem?_set_self (by rw [R.len]; exact hi)] at e3
    rw [List.getElem?_set_ne h2] at e4
    cases e3
    exact absurd rfl (pne e2 e4)
  ·rw [List.getElem?_set_ne h1] at e3
   rcases get e2 with ⟨h2, hi, _⟩ | ⟨h2, e2⟩
   ·subst h2
    rw [List.getElem?_set_self (by rw [R.len]; exact hi)] at e4
    cases e4
    exact absurd rfl (pne e1 e3)
   ·rw [List.getElem?_set_ne h2] at e4
    exact R.apart j l q es fs e1 e2 e3 e4
theorem zS {δ : Dl} {j : Nat} {x : Sl} (h : (freeze δ)[j]? = some x) : ∃ y, δ[j]? = some y /\ x = frz y := by
 unfold freeze at h
 rw [List.getElem?_map] at h
 cases e : δ[j]? with
 | none => rw [e] at h; cases h
 | some y => rw [e] at h; exact ⟨y, rfl, (Option.some.inj h).symm⟩
theorem wF {p : Addr} (h : qw B σ (freeze δ) p) : B.P p := by
 rcases h with h | ⟨j, ds, e, _⟩
 ·exact h
 ·obtain ⟨y, _, z⟩ := zS e
  cases y <;> cases z
theorem Rl.frz (R : Rl mg K B H σ δ) : Rl mg K B H σ (freeze δ) := by
 refine ⟨R.same, R.pd, by unfold freeze; rw [List.length_map]; exact R.len, fun j d k e => ?_, fun j ds e => ?_, fun j l p ds es e1 _ _ _ => ?_⟩
 ·obtain ⟨y, h, z⟩ := zS e
  cases y with
  | un => cases z
  | val d' k' =>
   cases z
   obtain ⟨w, h1, h2⟩ := R.val j _ _ h
   exact ⟨w, h1, h2.weak fun a g => ⟨fun z => g.1 (.inl (wF z)), g.2⟩⟩
  | own ds =>
   cases z
   obtain ⟨c, p, h1, h2, h3, h4⟩ := R.own j ds h
   exact ⟨.ref p, h1, .lst ⟨fun z => h3 (wF z), fun _ => h2⟩ (.of h4) (.vd c)⟩
 ·obtain ⟨y, _, z⟩ := zS e
  cases y <;> cases z
 ·obtain ⟨y, _, z⟩ := zS e1
  cases y <;> cases z
theorem WO : Frm B σ δ H σ (freeze δ) H := fun b o e n => ⟨e, fun z => n (.inl (wF z))⟩
theorem Rl.Xb {ds : List D} (R : Rl mg K B H σ δ) (hδ : δ[i]? = some (.own ds)) : Rl mg K B H σ (δ.set i (.val (.lst ds) true)) /\ Frm B σ δ H σ (δ.set i (.val (.lst ds) true)) H := by
 obtain ⟨c, p, h1, h2, h3, h4⟩ := R.own i ds hδ
 have hi : i < σ.length := (List.getElem?_eq_some_iff.mp h1).1
 have e : σ.set i (some (.ref p)) = σ := by
  refine List.ext_getElem? fun j => ?_
  by_cases hj : i = j
  ·subst hj
   rw [List.getElem?_set_self hi, h1]
  ·rw [List.getElem?_set_ne hj]
 have sub : ∀ a, qw B σ (δ.set i (.val (.lst ds) true)) a -> qw B σ δ a := fun a z => by
  rw [<- e] at z
  exact wy (fun _ q => by cases q) z
 have np : ¬ qw B σ (δ.set i (.val (.lst ds) true)) p := fun z => by
  rcases z with z | ⟨j, es, e1, e2⟩
  ·exact h3 z
  ·by_cases hj : i = j
   ·subst hj
    rw [List.getElem?_set_self (by rw [<- R.len]; exact hi)] at e1
    cases e1
   ·rw [List.getElem?_set_ne hj] at e1
    exact hj (R.apart i j p ds es hδ e1 h1 e2)
 refine ⟨⟨R.same, R.pd, by rw [List.length_set]; exact R.len, fun j d k q => ?_, fun j es q => ?_, fun j l q fs gs e1 e2 e3 e4 => ?_⟩, fun b o q n => ⟨q, fun z => n (sub b z)⟩⟩
 ·by_cases hj : i = j
  ·subst hj
   rw [List.getElem?_set_self (by rw [<- R.len]; exact hi)] at q
   cases q
   exact ⟨_, h1, .lst ⟨np, fun _ => h2⟩ (.of h4) (.vd c)⟩
  ·rw [List.getElem?_set_ne hj] at q
   obtain ⟨w, g1, g2⟩ := R.val j d k q
   exact ⟨w, g1, g2.weak fun a g => ⟨fun z => g.1 (sub a z), g.2⟩⟩
 ·by_cases hj : i = j
  ·subst hj
   rw [List.getElem?_set_self (by rw [<- R.len]; exact hi)] at q
   cases q
  ·rw [List.getElem?_set_ne hj] at q
   exact R.own j es q
 ·have get : ∀ {j : Nat} {es : List D}, (δ.set i (.val (.lst ds) true))[j]? = some (.own es) -> δ[j]? = some (.own es) := fun {j es} q => by
   by_cases hj : i = j
   ·subst hj
    rw [List.getElem?_set_self (by rw [<- R.len]; exact hi)] at q
    cases q
   ·rw [List.getElem?_set_ne hj] at q
    exact q
  exact R.apart j l q fs gs (get e1) (get e2) e3 e4
theorem VR.slot {k : Kd} (R : Rl mg K B H σ δ) (s : qh H H') (r : VR mg K B H H' σ δ k v d) (h : k ≠ .bo \/ d.sc = true) : ∃ d' b, vY (d, if d.sc = true then .nw else k) = .val d' b /\ d' = d /\ Rp mg K (fun a => ¬ qw B σ δ a /\ (b = true -> B.H0 a = none)) H' v d := by
 refine ⟨d, _, rfl, rfl, ?_⟩
 cases c : d.sc with
 | true =>
  have e := (r.rp R).sc c
  rw [e]
  exact Rp.vd c
 | false =>
  rw [if_neg (by decide)]
  rcases h with h | h
  ·cases k with
   | bo => exact absurd rfl h
   | sh => exact Rp.weak r fun a g => ⟨g, fun z => nomatch z⟩
   | nw => exact Rp.weak r fun a g => ⟨g.1, fun _ => g.2⟩
   | fr => exact Rp.weak (VR.vU R r) fun a g => ⟨g.1, fun _ => g.2⟩
  ·rw [c] at h
   cases h
end
structure Gd (X : Cx) (E : XK) : Prop where
 calm : X.calm = true
 nd : X.N.Nodup
 acc : Acc X E
 own : PassesOwn (model X.prog X.w) X.A X.env X.xe
theorem jd {X : Cx} {E : XK} {L : Addr} (hst : X.stack = X.env :: X.outer) (hfr : X.env.frame = some L) : PassesOwn (model X.prog X.w) X.A X.env (Arr X E) := by
 intro e s1 x
 obtain ⟨a, cls, B, H', pins, σ, rfl, I, hd, kb, q⟩ := x
 have hfrm : X.A.frames = some (X.env :: X.outer) := by rw [<- hst]; exact I.ok.frames
 have hd0 := hd
 rw [hst] at hd0
 refine v5 hfrm hfr hfr hd0 fun h1 hd1 up1 => ?_
 rw [<- hst] at hd1
 obtain ⟨I1, kb1⟩ := qN I hd kb hd1.hand up1
 unfold cameBackBy
 refine wpAny_bind (w4 hd1 fun T => ?_)
 rw [if_neg (show ¬ ((Value.ref T == Value.none) = true) from by simp)]
 refine qT hd1 fun h2 hd2 up2 => ?_
 obtain ⟨I2, kb2⟩ := qN I1 hd1.hand kb1 hd2.hand up2
 exact ⟨a, cls, B, H', pins, σ, rfl, I2, hd2.hand, kb2, q⟩
section
variable {X : Cx} {E : XK} {pos : Pos}
theorem yE {st : List Stmt} {t t' : TS} (h : PSs X st t) (i : ∀ D σ H, t' D σ H -> t D σ H) : PSs X st t' := fun pins s σ H D I hw => h pins s σ H D I (i D σ H hw)
theorem zU : PSs X [] (TSx X E vV) := yE WK fun D σ H ⟨B, δ, R, h⟩ => h σ H R Frm.refl
theorem Zs {a b : RS} {D : Ends} {σ : St} {H : Hp} (h : TSx X E (wR a b) D σ H) : TSx X E a { D with nx := TSx X E b D } σ H := by
 obtain ⟨B, δ, R, h⟩ := h
 refine ⟨B, δ, R, ?_⟩
 unfold wR Out.andThen at h
 cases ha : a δ with
 | nx δ1 =>
  rw [ha] at h
  exact fun σ1 H1 R1 f1 => ⟨B, δ1, R1, wb.later h f1⟩
 | bk δ1 => rw [ha] at h; exact h
 | ct δ1 => rw [ha] at h; exact h
 | rt d k => rw [ha] at h; exact h
 | er c => rw [ha] at h; exact h
 | no => rw [ha] at h; exact h
theorem wo {st : Stmt} {rest : List Stmt} {a b : RS} (h1 : PS X st (TSx X E a)) (h2 : PSs X rest (TSx X E b)) : PSs X (st :: rest) (TSx X E (wR a b)) := yE (yx h1 h2) fun _ _ _ h => Zs h
theorem qI {st : Stmt} {a : RS} (h1 : PS X st (TSx X E a)) : PSs X [st] (TSx X E a) := wG h1
theorem x5 {mg : Str -> Option Value} {K : PySem.W.Frag} {B : Bs} {H : Hp} {σ : St} {δ : Dl} {c : Str} (R : Rl mg K B H σ δ) (h : ∀ C H', mg c = some (.ref C) -> qh B.H0 H' -> E (.ref C) none H') : ∀ C H', mg c = some (.ref C) -> qh H H' -> E (.ref C) none H' := fun C H' e s => h C H' e (R.same.trans s)
theorem jK {e : Expr} {r : RE} (he : PE X e (TEx X E r)) (hs : swapsWith e none pos.line X.env = pure false := by rfl) : PS X (.Expr e pos) (TSx X E (wK r)) := by
 refine qV (jA he hs) fun D σ H ⟨B, δ, R, h⟩ => ⟨B, δ, R, ?_⟩
 unfold wK at h
 cases hr : r δ with
 | ok x => rw [hr] at h; exact fun v H' s _ => h σ H' (R.more s) (Frm.grow s)
 | er c => rw [hr] at h; exact x5 R h
 | no => rw [hr] at h; exact h
theorem ZJ {i : Nat} {r : RE} {D : Ends} {σ : St} {H : Hp} (h : TSx X E (uP i r) D σ H) : VF (TEx X E r) (vp i) D σ H := by
 obtain ⟨B, δ, R, h⟩ := h
 refine ⟨B, δ, R, ?_⟩
 unfold uP at h
 cases hr : r δ with
 | er c => rw [hr] at h; exact x5 R h
 | no => rw [hr] at h; exact h
 | ok x =>
  rw [hr] at h
  obtain ⟨d, k⟩ := x
  intro v H' s vr
  have vr : VR X.mg X.K B H H' σ δ k v d := vr
  show D.nx (σ.set i (some v)) H'
  -- a value that is no list just made
  have plain : (k ≠ .bo \/ d.sc = true) -> wb X.mg X.K E B H σ δ (.nx (δ.set i (vY (d, if d.sc = true then .nw else k)))) D -> D.nx (σ.set i (some v)) H' := fun hk q => by
   obtain ⟨d', b, e, e2, rp⟩ := VR.slot R s vr hk
   subst e2
   rw [e] at q
   exact q _ _ ((R.more s).uY rp) ((Frm.grow s).trans wW)
  cases k with
  | fr =>
   obtain ⟨p, ds, rfl, rfl, c, e1, e2⟩ := vr
   have q := R.Z4 (i := i) s e1 e2 c
   exact h _ _ q.1 q.2
  | bo =>
   cases hsc : d.sc with
   | true =>
    refine plain (.inr hsc) ?_
    rw [if_pos hsc]
    cases d <;> first | exact h | cases hsc
   | false =>
    have h' : wb X.mg X.K E B H σ δ (.nx ((freeze δ).set i (.val d false))) D := by
     cases d <;> first | exact h | cases hsc
    refine h' _ _ ((R.more s).frz.uY ?_) ((Frm.grow s).trans (WO.trans wW))
    exact Rp.weak vr fun a g => ⟨fun z => g (wF z), fun z => nomatch z⟩
  | sh =>
   refine plain (.inl fun z => nomatch z) ?_
   cases d <;> exact h
  | nw =>
   refine plain (.inl fun z => nomatch z) ?_
   cases d <;> exact h
theorem Zx {i : Nat} {x : Str} {e : Expr} {r : RE} {pos' : Pos} (g : Gd X E) (hi : X.N[i]? = some x) (hx : Loc X.env.scope x) (he : PE X e (TEx X E r)) (hs : swapsWith e (some (.Name x pos')) pos.line X.env = pure false := by rfl) (hf : X.fn x = true \/ X.env.scope.names.lookup x = some .local := by first | exact .inl rfl | exact .inr rfl | assumption) :
  PS X (.Assign [.Name x pos'] e pos) (TSx X E (uP i r)) := qV (ji g.nd hi hx he hs hf) fun _ _ _ h => ZJ h
theorem jE {c : Expr} {a b : List Stmt} {t : RT} {ra rb : RS} (hc : PT X c (TTx X E t)) (ha : PSs X a (TSx X E ra)) (hb : PSs X b (TSx X E rb)) : PS X (.If c a b pos) (TSx X E (sIf t ra rb)) := by
 refine qV (YK hc ha hb) fun D σ H ⟨B, δ, R, h⟩ => ⟨B, δ, R, ?_⟩
 unfold sIf at h
 cases hr : t δ with
 | er c => rw [hr] at h; exact x5 R h
 | no => rw [hr] at h; exact h
 | ok x =>
  rw [hr] at h
  intro H1 s1
  cases x with
  | true => exact ⟨B, δ, R.more s1, wb.later h (Frm.grow s1)⟩
  | false => exact ⟨B, δ, R.more s1, wb.later h (Frm.grow s1)⟩
theorem zv {e : Expr} {r : RE} (he : PE X e (TEx X E r)) : PS X (.Return (some e) pos) (TSx X E (vT r)) := by
 refine qV (zY he) fun D σ H ⟨B, δ, R, h⟩ => ⟨B, freeze δ, R.frz, ?_⟩
 unfold vT at h
 cases hr : r (freeze δ) with
 | er c => rw [hr] at h; exact x5 R h
 | no => rw [hr] at h; exact h
 | ok x =>
  rw [hr] at h
  obtain ⟨d, k⟩ := x
  intro v H' s vr
  have vr : VR X.mg X.K B H H' σ (freeze δ) k v d := vr
  have same := R.same.trans s
  have V7 : d.sc = true -> RR X.mg X.K B.H0 H' false v d := fun c => by
   have e := (vr.rp R.frz).sc c
   rw [e]
   exact Rp.vd c
  cases k with
  | fr =>
   obtain ⟨p, ds, rfl, rfl, c, e1, e2⟩ := vr
   exact h _ H' same ⟨p, ds, rfl, rfl, c, R.same.free e1, e2⟩
  | nw =>
   have h' : wb X.mg X.K E B H σ δ (.rt d false) D := by cases d <;> exact h
   exact h' v H' same (Rp.weak vr fun a g => g.2)
  | sh =>
   have h' : wb X.mg X.K E B H σ δ (if d.sc = true then .rt d false else .no) D := by cases d <;> exact h
   cases c : d.sc with
   | true => rw [if_pos c] at h'; exact h' v H' same (V7 c)
   | false => rw [if_neg (by rw [c]; decide)] at h'; exact h'.elim
  | bo =>
   have h' : wb X.mg X.K E B H σ δ (if d.sc = true then .rt d false else .no) D := by cases d <;> exact h
   cases c : d.sc with
   | true => rw [if_pos c] at h'; exact h' v H' same (V7 c)
   | false => rw [if_neg (by rw [c]; decide)] at h'; exact h'.elim
theorem zd {x : Str} {C : Addr} {np cpos : Pos} (g : Gd X E) (hg : Gl X x) (hm : X.mg x = some (.ref C)) (hC : qx X.K C = true) (hd : (x == ("__debug__" : Str)) = false := by decide) : PS X (.Raise (some (.Call (.Name x np) [] [] cpos)) none pos) (TSx X E (vg x)) :=
 qV (QH g.calm g.acc hg hm hC hd) fun D σ H ⟨B, δ, R, h⟩ => h C H hm R.same
theorem V4 (n : Nat) (i : Int) : xo n i = ixN n i := rfl
noncomputable def Kp (fl : Bool) (B B' : Bs) (σ : St) (δ : Dl) (H1 : Hp) (σ' : St) (δ' : Dl) (H2 : Hp) : Prop :=
 B'.H0 = B.H0 /\ (∀ b o, H1 b = some o -> ¬ qw B σ δ b -> H2 b = some o /\ ¬ qw B' σ' δ' b) /\ (fl = false -> qh H1 H2)
theorem Kp.of {B : Bs} {σ σ' : St} {δ δ' : Dl} {H1 H2 : Hp} (f : Frm B σ δ H1 σ' δ' H2) : Kp true B B σ δ H1 σ' δ' H2 := ⟨rfl, f, fun z => nomatch z⟩
noncomputable def Tg.sets : Tg -> St -> St -> Prop
 | .one i, σ, σ2 => ∃ v, σ2 = σ.set i (some v)
 | .two i j, σ, σ2 => ∃ v w, σ2 = (σ.set i (some v)).set j (some w)
noncomputable def Walks (X : Cx) (B : Bs) (H1 : Hp) (σ : St) (δ : Dl) (g : TG) (tg : Tg) (J : It) (fl : Bool) (xs : List DK) : Prop :=
 (∀ (B' : Bs) (i : Nat) (x : DK) (σ' : St) (δ' δ2 : Dl) (H2 : Hp), xs[i]? = some x -> Rl X.mg X.K B' H2 σ' δ' -> Kp fl B B' σ δ H1 σ' δ' H2 -> tg.put x δ' = some δ2 ->
  J.go i H2 /\ ∀ v H3, J.yld i H2 v H3 -> ∀ Q : St -> Hp -> Prop, (∀ σ2 H4, Rl X.mg X.K B' H4 σ2 δ2 -> Frm B' σ' δ' H2 σ2 δ2 H4 -> qh H2 H4 -> tg.sets σ' σ2 -> Q σ2 H4) -> g v σ' H3 Q) /\
 ∀ (B' : Bs) (i : Nat) (σ' : St) (δ' : Dl) (H2 : Hp), xs.length <= i -> Rl X.mg X.K B' H2 σ' δ' -> Kp fl B B' σ δ H1 σ' δ' H2 -> J.stop i H2
noncomputable def tI (X : Cx) (E : XK) (g : TG) (tg : Tg) (src : RI) : TI := fun σ H R => ∃ B δ, Rl X.mg X.K B H σ δ /\ qg X.mg E H (src δ) fun x => ∀ J H1, qh H H1 -> Walks X B H1 σ δ g tg J x.1 x.2 -> R J H1
theorem Qy {tgE iter : Expr} {body : List Stmt} {g : TG} {tg : Tg} {src : RI} {rb : RS} (G : Gd X E) (hi : PI X tgE iter (tI X E g tg src)) (hg : PG X tgE g) (hb : PSs X body (TSx X E rb)) (hs : ∀ x, foldedSetIterable iter X.env x = pure x := by intro _; rfl) :
  PS X (.For tgE iter body [] pos) (TSx X E (Vp tg src rb)) := by
 refine qV (QX G.own G.calm hi hg hb hs) fun D σ H ⟨B, δ, R, h⟩ => ⟨B, δ, R, ?_⟩
 unfold Vp at h
 cases hr : src δ with
 | er c => rw [hr] at h; exact x5 R h
 | no => rw [hr] at h; exact h
 | ok x =>
  rw [hr] at h
  obtain ⟨fl, xs⟩ := x
  cases fl with
  | false => exact h.elim
  | true =>
   intro J H1 s1 W
   have h : wb X.mg X.K E B H σ δ (turns tg rb xs δ) D := h
   have h1 := wb.later h (Frm.grow (σ := σ) s1)
   refine ⟨fun i m σ' H' => m = xs.length - i /\ i <= xs.length /\ ∃ δ', Rl X.mg X.K B H' σ' δ' /\ Frm B σ δ H1 σ' δ' H' /\ wb X.mg X.K E B H' σ' δ' (turns tg rb (xs.drop i) δ') D, ⟨xs.length, by lia, Nat.zero_le _, δ, R.more s1, Frm.refl, h1⟩, ?_⟩
   rintro i m σ' H' ⟨rfl, hi, δ', R', f', h'⟩
   by_cases hlt : i < xs.length
   ·right
    have hx : xs[i]? = some xs[i] := List.getElem?_eq_getElem hlt
    rw [List.drop_eq_getElem_cons hlt] at h'
    unfold turns at h'
    cases hp : tg.put xs[i] δ' with
    | none => rw [hp] at h'; exact h'.elim
    | some δ2 =>
     rw [hp] at h'
     obtain ⟨go, yl⟩ := W.1 B i xs[i] σ' δ' δ2 H' hx R' (Kp.of f') hp
     refine ⟨go, fun σ2 H2 => i + 1 <= xs.length /\ ∃ δ3, Rl X.mg X.K B H2 σ2 δ3 /\ Frm B σ δ H1 σ2 δ3 H2 /\ wb X.mg X.K E B H2 σ2 δ3 (turns tg rb (xs.drop (i + 1)) δ3) D, fun σ2 H2 ⟨q1, δ3, q2, q3, q4⟩ => ⟨xs.length - (i + 1), by lia, rfl, q1, δ3, q2, q3, q4⟩, fun v H3 hy => ?_⟩
     refine yl v H3 hy _ fun σ2 H4 R2 f2 _ _ => ⟨B, δ2, R2, ?_⟩
     have f4 := f'.trans f2
     dsimp only at h'
     cases hb : rb δ2 with
     | nx δ3 => rw [hb] at h'; exact fun σ3 H5 R3 f3 => ⟨hlt, δ3, R3, f4.trans f3, wb.later h' (f2.trans f3)⟩
     | ct δ3 => rw [hb] at h'; exact fun σ3 H5 R3 f3 => ⟨hlt, δ3, R3, f4.trans f3, wb.later h' (f2.trans f3)⟩
     | bk δ3 => rw [hb] at h'; exact fun σ3 H5 R3 f3 => h' σ3 H5 R3 (f2.trans f3)
     | rt d k => rw [hb] at h'; exact h'
     | er c => rw [hb] at h'; exact h'
     | no => rw [hb] at h'; exact h'
   ·left
    have e : i = xs.length := by lia
    subst e
    rw [List.drop_length] at h'
    exact ⟨W.2 B _ σ' δ' H' (Nat.le_refl _) R' (Kp.of f'), h' σ' H' R' Frm.refl⟩
end
section
variable {mg : Str -> Option Value} {K : PySem.W.Frag} {B : Bs} {H H1 H2 H' : Hp} {σ σ' : St} {δ δ' δ2 : Dl} {v : V} {d : D} {i j : Nat} {k : Kd}
theorem zW {fl : Bool} {B' : Bs} (f : Kp fl B B' σ δ H1 σ' δ' H2) (hk : d.sc = true \/ k ≠ .bo) (r : Rp mg K (Gk B σ δ k) H1 v d) : Rp mg K (Gk B' σ' δ' k) H2 v d := by
 rcases hk with c | hk
 ·rw [r.sc c]
  exact Rp.vd c
 obtain ⟨f0, f2, f3⟩ := f
 refine Rp.mono (fun a g => ?_) d v (Rp.there _ _ r)
 obtain ⟨g, n⟩ := g
 have viaOwn : ¬ qw B σ δ a -> ¬ qw B' σ' δ' a /\ ∀ o, H1 a = some o -> H2 a = some o := fun no => by
  cases e : H1 a with
  | none => exact absurd e n
  | some o => exact ⟨(f2 a o e no).2, fun o' e' => by cases e'; exact (f2 a o e no).1⟩
 cases k with
 | bo => exact absurd rfl hk
 | sh => exact viaOwn g
 | nw => exact ⟨⟨(viaOwn g.1).1, by rw [f0]; exact g.2⟩, (viaOwn g.1).2⟩
 | fr => exact ⟨⟨(viaOwn g.1).1, by rw [f0]; exact g.2⟩, (viaOwn g.1).2⟩
theorem zc (h : put i (d, k) δ = some δ') : d.sc = true \/ k ≠ .bo := by
 cases k with
 | bo =>
  have h2 : (if d.sc = true then some (δ.set i (.val d true)) else none) = some δ' := h
  by_cases c : d.sc = true
  ·exact .inl c
  ·rw [if_neg c] at h2
   cases h2
 | sh => exact .inr fun z => nomatch z
 | nw => exact .inr fun z => nomatch z
 | fr => exact .inr fun z => nomatch z
theorem QM (f : Frm B σ δ H1 σ' δ' H2) (hk : d.sc = true \/ k ≠ .bo) (r : Rp mg K (Gk B σ δ k) H1 v d) : Rp mg K (Gk B σ' δ' k) H2 v d := zW (Kp.of f) hk r
theorem xU (R : Rl mg K B H σ δ) (r : Rp mg K (Gk B σ δ k) H v d) (h : put i (d, k) δ = some δ') : Rl mg K B H (σ.set i (some v)) δ' /\ Frm B σ δ H (σ.set i (some v)) δ' H := by
 have fin : ∀ b : Bool, δ' = δ.set i (.val d b) -> Rp mg K (fun a => ¬ qw B σ δ a /\ (b = true -> B.H0 a = none)) H v d -> Rl mg K B H (σ.set i (some v)) δ' /\ Frm B σ δ H (σ.set i (some v)) δ' H := fun b e q => by
  rw [e]
  exact ⟨R.uY q, wW⟩
 cases c : d.sc with
 | true =>
  have e := r.sc c
  subst e
  refine fin true ?_ (Rp.vd c)
  cases k with
  | bo =>
   have h2 : (if d.sc = true then some (δ.set i (.val d true)) else none) = some δ' := h
   rw [if_pos c] at h2
   exact (Option.some.inj h2).symm
  | sh =>
   have h2 : some (δ.set i (vY (d, if d.sc = true then .nw else .sh))) = some δ' := h
   rw [if_pos c] at h2
   exact (Option.some.inj h2).symm
  | nw =>
   have h2 : some (δ.set i (vY (d, if d.sc = true then .nw else .nw))) = some δ' := h
   rw [if_pos c] at h2
   exact (Option.some.inj h2).symm
  | fr =>
   have h2 : some (δ.set i (vY (d, if d.sc = true then .nw else .fr))) = some δ' := h
   rw [if_pos c] at h2
   exact (Option.some.inj h2).symm
 | false =>
  have cn : ¬ (d.sc = true) := by rw [c]; decide
  cases k with
  | bo =>
   have h2 : (if d.sc = true then some (δ.set i (.val d true)) else none) = some δ' := h
   rw [if_neg cn] at h2
   cases h2
  | sh =>
   have h2 : some (δ.set i (vY (d, if d.sc = true then .nw else .sh))) = some δ' := h
   rw [if_neg cn] at h2
   exact fin false (Option.some.inj h2).symm (r.weak fun a g => ⟨g, fun z => nomatch z⟩)
  | nw =>
   have h2 : some (δ.set i (vY (d, if d.sc = true then .nw else .nw))) = some δ' := h
   rw [if_neg cn] at h2
   exact fin true (Option.some.inj h2).symm (r.weak fun a g => ⟨g.1, fun _ => g.2⟩)
  | fr =>
   have h2 : some (δ.set i (vY (d, if d.sc = true then .nw else .fr))) = some δ' := h
   rw [if_neg cn] at h2
   exact fin true (Option.some.inj h2).symm (r.weak fun a g => ⟨g.1, fun _ => g.2⟩)
end
section
variable {X : Cx} {E : XK} {pos : Pos} {tgE : Expr}
theorem zV {tg iter : Expr} {w w' : TI} (h : PI X tg iter w) (i : ∀ σ H R, w' σ H R -> w σ H R) : PI X tg iter w' := fun pins s σ H R I hw => h pins s σ H R I (i σ H R hw)
theorem xG {k : Kd} (h : k.safe = true) : k ≠ .bo := fun z => by rw [z] at h; cases h
theorem jP {k : Kd} (h : k ≠ .bo) : k.low .nw ≠ .bo := by cases k <;> first | exact absurd rfl h | exact fun z => nomatch z
theorem Vd {B : Bs} {σ : St} {δ : Dl} {k : Kd} {a : Addr} (h : k ≠ .bo) (g : Gk B σ δ k a) : ¬ qw B σ δ a := by
 cases k with
 | bo => exact absurd rfl h
 | sh => exact g
 | nw => exact g.1
 | fr => exact g.1
theorem wN {mg : Str -> Option Value} {K : PySem.W.Frag} {B : Bs} {H1 : Hp} {σ : St} {δ : Dl} {k : Kd} {v : V} {ds : List D} {fl : Bool} (hk : fl = true -> k ≠ .bo) (r : Rp mg K (Gk B σ δ k) H1 v (.lst ds)) : ∃ a vs, v = .ref a /\ SqL K H1 a vs /\ qc mg K (Gk B σ δ k) H1 vs ds /\
  ∀ (B' : Bs) (H2 : Hp) (σ' : St) (δ' : Dl), Kp fl B B' σ δ H1 σ' δ' H2 -> SqL K H2 a vs := by
 cases r with
 | lst g s q =>
  refine ⟨_, _, rfl, .inl s, q, fun B' H2 σ' δ' f => .inl (Vo s fun o e => ?_)⟩
  cases fl with
  | true => exact (f.2.1 _ o e (Vd (hk rfl) g)).1
  | false => exact f.2.2 rfl _ o e
 | lstK s q => exact ⟨_, _, rfl, s _, q, fun B' H2 _ _ _ => s H2⟩
theorem zT {i : Nat} {iter : Expr} {r : RE} (hl : PE X iter (TEx X E r)) : PI X tgE iter (tI X E (vp i) (.one i) (iOf r)) := by
 refine zV (VT hl) fun σ H R ⟨B, δ, R0, h⟩ => ⟨B, δ, R0, ?_⟩
 refine qg.imp (qg.bind h) fun x h1 v H1 s1 vr => ?_
 obtain ⟨d, k⟩ := x
 have vr : VR X.mg X.K B H H1 σ δ k v d := vr
 cases d with
 | lst ds =>
  have h2 := h1
  have hk : k.safe = true -> k.low .nw ≠ .bo := fun z => jP (xG z)
  have rp := VR.low R0 .nw vr
  rw [VR.gk (low_ne _ _)] at rp
  obtain ⟨a, vs, rfl, sq, ra, st⟩ := wN (fl := k.safe) hk rp
  refine ⟨a, rfl, ⟨vs, sq⟩, h2 (Itl X.K a) H1 s1 ⟨fun B' n x σ' δ' δ2 H2 hx R' f hp => ?_, fun B' n σ' δ' H2 hn R' f => ⟨vs, st B' H2 σ' δ' f, by rw [ra.len]; simpa using hn⟩⟩⟩
  have sq2 := st B' H2 σ' δ' f
  rw [List.getElem?_map] at hx
  cases hd : ds[n]? with
  | none => rw [hd] at hx; cases hx
  | some d =>
   rw [hd] at hx
   cases hx
   obtain ⟨w, hw, rw'⟩ := ra.getD hd
   refine ⟨⟨vs, w, sq2, hw⟩, fun u H3 hy Q hQ => ?_⟩
   obtain ⟨rfl, hu⟩ := hy
   have e := hu vs sq2
   rw [hw] at e
   cases e
   have q := xU R' (zW f (zc (show put i (d, k.low .nw) δ' = some δ2 from hp)) rw') hp
   exact hQ _ _ q.1 q.2 qh.refl ⟨_, rfl⟩
 | _ => exact h1.elim
theorem Vx {K : PySem.W.Frag} {mg : Str -> Option Value} {B B' : Bs} {H1 H2 : Hp} {σ σ' : St} {δ δ' δ2 : Dl} {i j : Nat} {k : Kd} {x y : V} {dx dy : D} {T : Addr} {fl : Bool} (R' : Rl mg K B' H2 σ' δ') (f : Kp fl B B' σ δ H1 σ' δ' H2) (rx : Rp mg K (Gk B σ δ k) H1 x dx) (ry : Rp mg K (Gk B σ δ k) H1 y dy) (hT : H2 T = none)
  (hp : (Tg.two i j).put (.tup [dx, dy], k) δ' = some δ2) (Q : St -> Hp -> Prop) (hQ : ∀ σ2 H4, Rl mg K B' H4 σ2 δ2 -> Frm B' σ' δ' H2 σ2 δ2 H4 -> qh H2 H4 -> (Tg.two i j).sets σ' σ2 -> Q σ2 H4) :
  WQ K 2 (z8 (vp i) (z8 (vp j) VN)) (.ref T) σ' (upd H2 T (.tup [x, y])) Q := by
 have s2 := qE (o := .tup [x, y]) hT
 have hp : (put i (dx, k) δ').bind (put j (dy, k)) = some δ2 := hp
 cases h1 : put i (dx, k) δ' with
 | none => rw [h1] at hp; cases hp
 | some δ1 =>
  rw [h1] at hp
  have hp : put j (dy, k) δ1 = some δ2 := hp
  have q1 := xU (R'.more s2) ((zW f (zc h1) rx).same s2) h1
  have ry2 : Rp mg K (Gk B' (σ'.set i (some x)) δ1 k) (upd H2 T (.tup [x, y])) y dy := QM q1.2 (zc hp) ((zW f (zc hp) ry).same s2)
  have q2 := xU q1.1 ry2 hp
  refine ⟨T, [x, y], rfl, SqT.of qm, rfl, x, [y], rfl, y, [], rfl, rfl, ?_⟩
  exact hQ _ _ q2.1 ((Frm.grow s2).trans (q1.2.trans q2.2)) s2 ⟨_, _, rfl⟩
theorem Z5 {i j : Nat} {e e2 : Expr} {r q : RE} {p tpos : Pos} {elts : List Expr} {kk : Nat} (hg : Gl X "zip") (hm : X.mg "zip" = none) (ha : PE X e (TEx X E r)) (hb : PE X e2 (TEx X E q))
  (hs : starEach [e, e2] X.env = (false, eval e X.env) :: starEach [e2] X.env := by rfl) (hs2 : starEach [e2] X.env = (false, eval e2 X.env) :: starEach [] X.env := by rfl) (hpl : (backTo pos (starEach [e2] X.env)).any (·.1) = false := by rfl) :
  PI X (.Tuple elts kk tpos) (.Call (.Name "zip" p) [e, e2] [] pos) (tI X E (WQ X.K 2 (z8 (vp i) (z8 (vp j) VN))) (.two i j) (QU r q)) := by
 refine zV (ZR hg hm (vo ha (vo hb wj hs2) hs) hs hpl) fun σ H R ⟨B, δ, R0, h⟩ => ⟨B, δ, R0, ?_⟩
 refine qg.imp (qg.bind h) fun x h1 v H1 s1 vr => ⟨B, δ, R0.more s1, ?_⟩
 refine qg.imp (qg.more (qg.bind h1) s1) fun y h2 w H2 s2 vw => ?_
 obtain ⟨d, k⟩ := x
 obtain ⟨d', k'⟩ := y
 have vr : VR X.mg X.K B H H1 σ δ k v d := vr
 have vw : VR X.mg X.K B H1 H2 σ δ k' w d' := vw
 cases d with
 | lst xs =>
  cases d' with
  | lst ys =>
   have h3 := h2
   have hkk : (k.safe && k'.safe) = true -> k.low k' ≠ .bo := fun z => by
    rw [Bool.and_eq_true] at z
    have hk := xG z.1
    have hk' := xG z.2
    cases k <;> cases k' <;> first | exact absurd rfl hk | exact absurd rfl hk' | exact fun z => nomatch z
   have rx := VR.low R0 k' (vr.later s2)
   have ry := VR.YL (R0.more s1) k vw
   rw [VR.gk (low_ne _ _)] at rx ry
   obtain ⟨a, vs, rfl, sqa, ra, sta⟩ := wN (fl := k.safe && k'.safe) hkk rx
   obtain ⟨b, us, rfl, sqb, rb, stb⟩ := wN (fl := k.safe && k'.safe) hkk ry
   refine ⟨a, b, vs, us, rfl, sqa, sqb, h3 (Itz X.K a b) H2 (s1.trans s2) ⟨fun B' n x σ' δ' δ2 H3 hx R' f hp => ?_, fun B' n σ' δ' H3 hn R' f => ⟨vs, us, sta B' H3 σ' δ' f, stb B' H3 σ' δ' f, ?_⟩⟩⟩
   ·rw [List.getElem?_map] at hx
    cases hd : (xs.zip ys)[n]? with
    | none => rw [hd] at hx; cases hx
    | some pr =>
     rw [hd] at hx
     cases hx
     rw [List.getElem?_zip_eq_some] at hd
     obtain ⟨x, hx, rx'⟩ := ra.getD hd.1
     obtain ⟨y, hy, ry'⟩ := rb.getD hd.2
     have sa := sta B' H3 σ' δ' f
     have sb := stb B' H3 σ' δ' f
     refine ⟨⟨vs, us, x, y, sa, sb, hx, hy⟩, fun u H4 hyl Q hQ => ?_⟩
     obtain ⟨T, x2, y2, rfl, hT, rfl, e1, e2⟩ := hyl
     have e1 := e1 vs sa
     have e2 := e2 us sb
     rw [hx] at e1
     rw [hy] at e2
     cases e1
     cases e2
     exact Vx R' f rx' ry' hT hp Q hQ
   ·rw [List.length_map, List.length_zip] at hn
    rw [ra.len, rb.len]
    lia
  | _ => exact h2.elim
 | _ => exact h2.elim
end
section
variable {X : Cx} {E : XK} {pos : Pos}
noncomputable def spD (mg : Str -> Option Value) (K : PySem.W.Frag) (n : Nat) (g : Fn) : Sp := fun vs H Q E => ∃ ds : List D, ds.length = n /\ qc mg K (fun _ => True) H vs ds /\ qg mg E H (g ds) fun y => ∀ v H', qh H H' -> RR mg K H H' y.2 v y.1 -> Q v H'
noncomputable def Fd (P : Program) (w : World) (K : PySem.W.Frag) (mg : Str -> Option Value) (base : Heap) (k : Nat) (x : Str) (n : Nat) (g : Fn) : Prop :=
 ∃ (f : Addr) (fd : FuncData) (ps : List Str), zu P w K mg base (CX1 P w) k f fd ps (spD mg K n g) /\ mg x = some (.ref f) /\ PySem.W.keepIn K (.ref f) = true /\ Binds K fd ps []
theorem Wb {r : RA} {g : Fn} {n : Nat} {σ : St} {H : Hp} {Q : VK} (hn : ∀ δ xs, r δ = .ok xs -> xs.length = n) (h : TEx X E (qA g r) σ H Q) : W3 (spD X.mg X.K n g) [] E (TAx X E r) σ H Q := by
 obtain ⟨B, δ, R, h⟩ := h
 refine ⟨B, δ, R, ?_⟩
 have e : ∀ xs, r δ = .ok xs -> xs.length = n := fun xs => hn δ xs
 cases hr : r δ with
 | er c =>
  unfold qA at h
  rw [hr] at h
  exact h
 | no =>
  unfold qA at h
  rw [hr] at h
  exact h
 | ok xs =>
  unfold qA at h
  rw [hr] at h
  intro vs H1 s1 vrs
  refine ⟨xs.map (·.1), by rw [List.length_map]; exact e xs hr, by rw [List.append_nil]; exact vrs.rp R, ?_⟩
  refine qg.imp (qg.more (qg.bind h) s1) fun y q v H2 s2 rr => ?_
  refine q v H2 (s1.trans s2) ?_
  show VR _ _ _ _ _ _ _ (kB y.2) _ _
  have R1 := R.more s1
  cases hb : y.2 with
  | true =>
   rw [hb] at rr
   obtain ⟨p, ds, a, b, c, e1, e2⟩ := rr
   exact ⟨p, ds, a, b, c, s1.free e1, e2⟩
  | false =>
   rw [hb] at rr
   exact Rp.weak rr fun a g => ⟨R1.fresh g, R1.same.free g⟩
inductive jT : RA -> Nat -> Prop
 | nil : jT qC 0
 | cons {r : RE} {rr : RA} {n : Nat} : jT rr n -> jT (qf r rr) (n + 1)
theorem jT.is {r : RA} {n : Nat} (h : jT r n) : ∀ δ xs, r δ = .ok xs -> xs.length = n := by
 induction h with
 | nil => intro δ xs e; cases e; rfl
 | @cons r rr n _ ih =>
  intro δ xs e
  unfold qf at e
  cases h1 : r δ with
  | er c => rw [h1] at e; cases e
  | no => rw [h1] at e; cases e
  | ok x =>
   rw [h1] at e
   cases h2 : rr δ with
   | er c => rw [Rs.ve, h2] at e; cases e
   | no => rw [Rs.ve, h2] at e; cases e
   | ok ys =>
    rw [Rs.ve, h2] at e
    cases e
    rw [List.length_cons, ih δ ys h2]
theorem vA {x : Str} {p : Pos} {e : Expr} {es : List Expr} {r : RA} {g : Fn} {n k : Nat} (acc : Acc X E) (F : Fd X.prog X.w X.K X.mg X.base k x n g) (hr : vh k X.A) (hg : Gl X x) (hn : jT r n) (ha : PA X (e :: es) (TAx X E r))
  (hdb : (x == ("__debug__" : Str)) = false := by decide) (he : starEach (e :: es) X.env = (false, eval e X.env) :: starEach es X.env := by rfl) (hpl : (backTo pos (starEach es X.env)).any (·.1) = false := by rfl) :
  PE X (.Call (.Name x p) (e :: es) [] pos) (TEx X E (qA g r)) := by
 obtain ⟨f, fd, ps, F, hm, hk, hb⟩ := F
 exact qL (V6 F hr hg hm hk hb .nil (yr acc) ha hdb he hpl) fun σ H Q h => Wb hn.is h
noncomputable def QL (X : Cx) (f : List DK -> Rs DK) (rr : List V -> Hp -> VK -> Prop) : Prop := ∀ (B : Bs) (H H' : Hp) (σ : St) (δ : Dl) (vs : List V) (xs : List DK) (Q : VK) (E : XK), Rl X.mg X.K B H σ δ -> qh H H' -> VRs X.mg X.K B H H' σ δ vs xs -> Fin X.mg X.K E B H' σ δ (f xs) Q -> rr vs H' Q
theorem xu {e : Expr} {r : RA} {f : List DK -> Rs DK} {rr : List V -> Hp -> VK -> Prop} (h : PE X e (tCB rr (TAx X E r))) (F : QL X f rr) : PE X e (TEx X E (vz f r)) :=
 qL h fun σ H Q ⟨B, δ, R, h⟩ => zt R h fun xs vs H1 s1 vrs h1 => F B H H1 σ δ vs xs Q E R s1 vrs h1
theorem Wi {mg : Str -> Option Value} {K : PySem.W.Frag} {B : Bs} {H H' : Hp} {σ : St} {δ : Dl} {vs : List V} {x : DK} (h : VRs mg K B H H' σ δ vs [x]) : ∃ v, vs = [v] /\ VR mg K B H H' σ δ x.2 v x.1 := by
 cases h with
 | cons a b => cases b; exact ⟨_, rfl, a⟩
theorem u7 : QL X yB (fun xs H Q => ∃ p ys, xs = [.ref p] /\ (SqL X.K H p ys \/ SqT X.K H p ys) /\ Q (.int ys.length) H) := by
 intro B H H' σ δ vs xs Q E R s vr h
 match xs, vr, h with
 | [(.lst l, k)], vr, h =>
  obtain ⟨v, rfl, r⟩ := Wi vr
  obtain ⟨a, us, rfl, q, g⟩ := VR.items R r
  exact ⟨a, us, rfl, .inl q, by rw [g.len]; exact h _ H' qh.refl (VR.int _)⟩
 | [(.tup l, k)], vr, h =>
  obtain ⟨v, rfl, r⟩ := Wi vr
  obtain ⟨a, us, rfl, q, g⟩ := VR.Vk R r
  exact ⟨a, us, rfl, .inr q, by rw [g.len]; exact h _ H' qh.refl (VR.int _)⟩
 | [], _, h => exact h.elim
 | [(.int _, _)], _, h => exact h.elim
 | [(.bl _, _)], _, h => exact h.elim
 | [(.non, _)], _, h => exact h.elim
 | [(.fn _, _)], _, h => exact h.elim
 | [(.obj _ _ _, _)], _, h => exact h.elim
 | _ :: _ :: _, _, h => revert h; simp only [yB]; exact fun h => h.elim
end
section
variable {X : Cx} {E : XK} {pos : Pos}
theorem Qc {vs : List V} {us : List Value} (h : Vals vs us) (js : List Nat) : Vals (js.filterMap (vs[·]?)) (js.filterMap (us[·]?)) := by
 induction js with
 | nil => exact .nil
 | cons j js ih =>
  cases e : vs[j]? with
  | none => rw [List.filterMap_cons, List.filterMap_cons]; simp only [e, h.none_of e]; exact ih
  | some v =>
   obtain ⟨u, e2, r⟩ := h.get e
   rw [List.filterMap_cons, List.filterMap_cons]
   simp only [e, e2]
   exact .cons r ih
theorem VP {mg : Str -> Option Value} {K : PySem.W.Frag} {G : Addr -> Prop} {H : Hp} {vs : List V} {ds : List D} (h : qc mg K G H vs ds) (js : List Nat) : qc mg K G H (js.filterMap (vs[·]?)) (js.filterMap (ds[·]?)) := by
 induction js with
 | nil => exact .nil
 | cons j js ih =>
  cases e : vs[j]? with
  | none =>
   have e2 : ds[j]? = none := by
    rw [List.getElem?_eq_none_iff] at e ⊢
    rw [<- h.len]
    exact e
   rw [List.filterMap_cons, List.filterMap_cons]; simp only [e, e2]; exact ih
  | some v =>
   obtain ⟨d, e2, r⟩ := h.get e
   rw [List.filterMap_cons, List.filterMap_cons]
   simp only [e, e2]
   exact .cons r ih
theorem WG {α : Type} (xs : List α) (lo hi st : Option Int) (h0 : st ≠ some 0) : (pick xs lo hi st).length <= xs.length := by
 have e : ∀ {β : Type} (f : α -> β) , ((pick xs lo hi st).map f) = pick (xs.map f) lo hi st := fun {β} f => by
  unfold pick
  rw [List.length_map, List.map_filterMap]
  congr 1
  funext j
  rw [List.getElem?_map]
 have q := PySem.slicePick_size_le (xs.map fun _ => Value.none).toArray lo hi st
 have e2 : (slicePick (xs.map fun _ => Value.none).toArray lo hi st).size = (pick xs lo hi st).length := by
  rw [<- List.length_map (f := fun _ => Value.none), e (fun _ => Value.none)]
  unfold slicePick pick
  simp
 rw [e2] at q
 simpa using q
noncomputable def Xk (K : PySem.W.Frag) : V -> Option Int -> Option Int -> Option Int -> Hp -> VK -> Prop := fun x lo hi st H Q => ∃ a xs, x = .ref a /\ SqL K H a xs /\ st ≠ some 0 /\ ∀ p, H p = none -> Q (.ref p) (upd H p (.lst (pick xs lo hi st)))
noncomputable def Xl (K : PySem.W.Frag) (te : TE) (tl th ts : TO) : TE := fun σ H Q => te σ H fun x H1 => tl σ H1 fun l H2 => th σ H2 fun u H3 => ts σ H3 fun st H4 => Xk K x l u st H4 Q
theorem Qh {e : Expr} {te : TE} {lo hi st : Option Expr} {tl th ts : TO} {p2 : Pos} (he : PE X e te) (hl : PO X lo tl) (hu : PO X hi th) (hst : PO X st ts) : PE X (.Subscript e (.Slice lo hi st p2) pos) (Xl X.K te tl th ts) := by
 intro pins s σ H Q I h
 refine Subscript_ (thn (he pins s σ H _ I h) fun v s1 ⟨x, H1, I1, r1, q1⟩ => ?_)
 refine wpAny_Slice (thn (hl pins s1 σ H1 _ I1 q1) fun vl s2 ⟨l, H2, I2, pl, q2⟩ => thn (hu pins s2 σ H2 _ I2 q2) fun vu s3 ⟨u, H3, I3, pu, q3⟩ => thn (hst pins s3 σ H3 _ I3 q3) fun vk s4 ⟨k, H4, I4, pk, q4⟩ => ?_)
 have I5 : Inv X pins σ H4 { s4 with heap := s4.heap.push { cls := .type "slice", data := .fields #[vl, vu, vk] } } := I4.kept (t' := s4.toks) fun b ob q => Heap.get?_push_of_some _ q
 obtain ⟨a, xs, rfl, hx, h0, q⟩ := q4
 cases r1
 obtain ⟨its, r, ht, hz⟩ := I5.list hx
 have hlen := r.length
 show wpAny (model X.prog X.w) X.A (subscriptTail e (.Slice lo hi st p2) (.ref a) (.ref s4.heap.objs.size)) (EP X pins σ Q) X.xe { s4 with heap := s4.heap.push { cls := .type "slice", data := .fields #[vl, vu, vk] } }
 have tail : ∀ {Q' : Value -> Shared -> Prop} {s' : Shared}, s'.TypeIs (.ref a) "list" -> wpAny (model X.prog X.w) X.A (getItem (.ref a) (.ref s4.heap.objs.size)) Q' X.xe s' -> wpAny (model X.prog X.w) X.A (subscriptTail e (.Slice lo hi st p2) (.ref a) (.ref s4.heap.objs.size)) Q' X.xe s' := fun {Q' s'} ty hg => by
  cases st with
  | none => exact tail_any (ops := [.ref s4.heap.objs.size, .ref a]) ty slot_list_getitem.lookup hg (by with_unfolding_all rfl)
  | some z => exact tail_any (ops := [.ref a, .ref s4.heap.objs.size]) ty slot_list_getitem.lookup hg (by with_unfolding_all rfl)
 refine tail ht.isList.typeIs ?_
 refine wpAny_getItem_list_slice ht.isList (Heap.IsSliceOf.new ..) pl pu pk h0 ?_ (by rw [List.size_toArray]; lia)
 have e : slicePick its.toArray l u k = (pick its l u k).toArray := by
  unfold slicePick pick
  simp
 rw [e]
 have hv : Vals (pick xs l u k) (pick its l u k) := by
  unfold pick
  rw [hlen]
  exact Qc r _
 exact ⟨.ref _, _, I5.VW (t' := s4.toks) hv (Nat.le_trans (WG xs l u k h0) hz), rfl, q _ I5.fresh⟩
noncomputable def tO (mg : Str -> Option Value) (K : PySem.W.Frag) (E : XK) (r : RO) : TO := fun σ H Q => ∃ B δ, Rl mg K B H σ δ /\ qg mg E H (r δ) fun x => ∀ H', qh H H' -> Q x H'
noncomputable abbrev TOx (X : Cx) (E : XK) (r : RO) : TO := tO X.mg X.K E r
theorem jo {e : Option Expr} {t t' : TO} (h : PO X e t) (i : ∀ σ H Q, t' σ H Q -> t σ H Q) : PO X e t' := fun pins s σ H Q I hw => h pins s σ H Q I (i σ H Q hw)
theorem WL : PO X none (TOx X E zN) := jo VL fun σ H Q ⟨B, δ, R, h⟩ => h H qh.refl
theorem jH {e : Expr} {r : RE} (h : PE X e (TEx X E r)) : PO X (some e) (TOx X E (wY r)) := by
 refine jo (VH h) fun σ H Q ⟨B, δ, R, h⟩ => ⟨B, δ, R, ?_⟩
 refine qg.imp (qg.bind h) fun x h1 v H1 s1 vr => ?_
 obtain ⟨d, k⟩ := x
 have vr : VR X.mg X.K B H H1 σ δ k v d := vr
 cases d with
 | int i => exact ⟨i, qP R vr, h1 H1 s1⟩
 | _ => exact h1.elim
theorem Va {e : Expr} {r : RE} {lo hi st : Option Expr} {rl rh rs : RO} {p2 : Pos} (he : PE X e (TEx X E r)) (hl : PO X lo (TOx X E rl)) (hu : PO X hi (TOx X E rh)) (hst : PO X st (TOx X E rs)) : PE X (.Subscript e (.Slice lo hi st p2) pos) (TEx X E (yG r rl rh rs)) := by
 refine qL (Qh he hl hu hst) fun σ H Q ⟨B, δ, R, h⟩ => ⟨B, δ, R, ?_⟩
 refine qg.imp (qg.bind h) fun x h1 v H1 s1 vr => ⟨B, δ, R.more s1, ?_⟩
 refine qg.imp (qg.more (qg.bind h1) s1) fun l h2 H2 s2 => ⟨B, δ, (R.more s1).more s2, ?_⟩
 refine qg.imp (qg.more (qg.bind h2) (s1.trans s2)) fun u h3 H3 s3 => ⟨B, δ, ((R.more s1).more s2).more s3, ?_⟩
 refine qg.imp (qg.more (qg.bind h3) ((s1.trans s2).trans s3)) fun k h4 H4 s4 => ?_
 have sA : qh H H4 := ((s1.trans s2).trans s3).trans s4
 obtain ⟨d, kd⟩ := x
 have vr : VR X.mg X.K B H H1 σ δ kd v d := vr
 cases d with
 | lst ds =>
  have h5 : Fin X.mg X.K E B H σ δ (if k = some 0 then .no else .ok (.lst (pick ds l u k), kL (pick ds l u k) (kd.low .nw))) Q := h4
  by_cases h0 : k = some 0
  ·rw [if_pos h0] at h5
   exact h5.elim
  ·rw [if_neg h0] at h5
   obtain ⟨a, us, rfl, q, g⟩ := VR.items R (vr.later (s2.trans (s3.trans s4)))
   refine ⟨a, us, rfl, q, h0, fun p hp => ?_⟩
   refine h5 _ _ (sA.trans (qE hp)) ?_
   refine VR.laid R sA hp (low_ne _ _) ?_
   unfold pick
   rw [g.len]
   exact VP g _
 | _ => exact h4.elim
theorem Y0 : wd X oIx (fun x y H Q => YM X.K x y H Q \/ Yt X.K x y H Q) := by
 rintro B H H' σ δ x y ⟨dx, kx⟩ ⟨dy, ky⟩ Q E R s r1 r2 h
 have fin : ∀ {vs : List V} {ds : List D} {i : Int} {d : D}, qc X.mg X.K (Gk B σ δ (kx.low .nw)) H' vs ds -> (xo ds.length i).bind (fun j => ds[j]?) = some d -> Fin X.mg X.K E B H' σ δ (.ok (d, kx.low .nw)) Q -> ∃ v, atI vs i = some v /\ Q v H' := fun {vs ds i d} g e q => by
  cases hj : xo ds.length i with
  | none => rw [hj] at e; cases e
  | some j =>
   rw [hj] at e
   obtain ⟨v, e1, e2⟩ := g.getD (show ds[j]? = some d from e)
   refine ⟨v, ?_, q v H' qh.refl (by show VR _ _ _ _ _ _ _ (kx.low .nw) _ _; rw [VR.gk (low_ne _ _)]; exact e2)⟩
   unfold atI
   rw [g.len, <- V4, hj]
   exact e1
 cases dx with
 | lst ds =>
  cases dy with
  | int i =>
   left
   obtain ⟨a, vs, rfl, q, g⟩ := VR.items R r1
   simp only [oIx] at h
   cases e : (xo ds.length i).bind (fun j => ds[j]?) with
   | none => rw [e] at h; exact h.elim
   | some d =>
    rw [e] at h
    obtain ⟨v, e1, e2⟩ := fin g e h
    exact ⟨a, vs, i, v, rfl, qP R r2, q, e1, e2⟩
  | _ => exact h.elim
 | tup ds =>
  cases dy with
  | int i =>
   right
   obtain ⟨a, vs, rfl, q, g⟩ := VR.Vk R r1
   simp only [oIx] at h
   cases e : (xo ds.length i).bind (fun j => ds[j]?) with
   | none => rw [e] at h; exact h.elim
   | some d =>
    rw [e] at h
    obtain ⟨v, e1, e2⟩ := fin g e h
    exact ⟨a, vs, i, v, rfl, qP R r2, q, e1, e2⟩
  | _ => exact h.elim
 | _ => exact h.elim
theorem YA {a b : Expr} {ra rb : RE} (ha : PE X a (TEx X E ra)) (hb : PE X b (TEx X E rb)) (hs : jq b) : PE X (.Subscript a b pos) (TEx X E (qJ oIx ra rb)) :=
 qL (YY (Wy.or Yj) ha hb hs) fun _ _ _ h => two Y0 h
end
section
variable {X : Cx} {E : XK} {pos : Pos}
theorem vm : ∀ {ds : List D} {ns : List Int}, intsOf ds = some ns -> ds = ns.map D.int
 | [], ns, h => by cases h; rfl
 | .int i :: r, ns, h => by
  have h : (intsOf r).map (i :: ·) = some ns := h
  cases e : intsOf r with
  | none => rw [e] at h; cases h
  | some ms => rw [e] at h; cases h; rw [vm e]; rfl
 | .non :: _, _, h => nomatch h
 | .bl _ :: _, _, h => nomatch h
 | .lst _ :: _, _, h => nomatch h
 | .tup _ :: _, _, h => nomatch h
 | .fn _ :: _, _, h => nomatch h
 | .obj _ _ _ :: _, _, h => nomatch h
theorem ints_map : ∀ ns : List Int, intsOf (ns.map D.int) = some ns
 | [] => rfl
 | n :: r => by
  show (intsOf (r.map D.int)).map (n :: ·) = _
  rw [ints_map r]
  rfl
theorem xq : ∀ ns : List Int, (ns.map D.int).all D.sc = true
 | [] => rfl
 | _ :: r => xq r
theorem w1 (ns : List Int) : (ns.map D.int).map toV = ns.map V.int := by
 rw [List.map_map]
 rfl
theorem zA : ∀ ns ms : List Int, PyData.eqvAll (ns.map PyData.int) (ms.map PyData.int) = decide (ns = ms)
 | [], [] => rfl
 | [], _ :: _ => rfl
 | _ :: _, [] => rfl
 | a :: r, b :: q => by
  show (PyData.eqv (.int a) (.int b) && PyData.eqvAll (r.map PyData.int) (q.map PyData.int)) = _
  rw [zA r q]
  show ((a == b) && _) = _
  by_cases h : a = b
  ·subst h; simp
  ·simp [h]
theorem xi {K : PySem.W.Frag} {H : Hp} : ∀ ns : List Int, yf K H (ns.map V.int) (ns.map PyData.int)
 | [] => .nil
 | n :: r => .cons (.int n) (xi r)
theorem lay_ints : ∀ ns : List Int, PyData.canLayAll0 (ns.map PyData.int) = true
 | [] => rfl
 | n :: r => by
  show (PyData.canLay0 (.int n) && PyData.canLayAll0 (r.map PyData.int)) = true
  rw [lay_ints r]
  rfl
theorem yc : ∀ ns : List Int, PyData.depthAll (ns.map PyData.int) <= 1
 | [] => Nat.zero_le _
 | n :: r => by
  show max (PyData.depth (.int n)) (PyData.depthAll (r.map PyData.int)) <= 1
  have a := yc r
  have b : PyData.depth (.int n) <= 1 := by first | exact Nat.le_refl _ | exact Nat.zero_le _
  lia
theorem shaped_ints (ns : List Int) : SeqAt.shaped (.list (ns.map PyData.int)) = true := by
 unfold SeqAt.shaped
 have a : PyData.canLay0 (.list (ns.map PyData.int)) = true := lay_ints ns
 have b : PyData.depth (.list (ns.map PyData.int)) <= 64 := by
  show PyData.depthAll (ns.map PyData.int) + 1 <= 64
  have := yc ns
  lia
 rw [a, decide_eq_true b]
 rfl
theorem xj {mg : Str -> Option Value} {K : PySem.W.Frag} {B : Bs} {H H' : Hp} {σ : St} {δ : Dl} {k : Kd} {v : V} {ns : List Int} (R : Rl mg K B H σ δ) (h : VR mg K B H H' σ δ k v (.lst (ns.map D.int))) : ∃ a, v = .ref a /\ SqL K H' a (ns.map V.int) := by
 obtain ⟨a, vs, rfl, q, g⟩ := VR.items R h
 have e := g.sc (xq ns)
 rw [w1] at e
 subst e
 exact ⟨a, rfl, q⟩
theorem WY : wd X (oEq true) (fun x y H Q => rNe x y H Q \/ Zb X.K x y H Q) := by
 rintro B H H' σ δ x y ⟨dx, kx⟩ ⟨dy, ky⟩ Q E R s r1 r2 h
 cases dx with
 | int i =>
  cases dy with
  | int j =>
   left
   rw [qP R r1, qP R r2]
   refine ⟨rfl, ?_⟩
   rw [jD, Bool.beq_eq_decide_eq]
   exact h _ H' qh.refl (VR.bl _)
  | _ => exact h.elim
 | bl i =>
  cases dy with
  | bl j =>
   left
   rw [WW R r1, WW R r2]
   refine ⟨rfl, ?_⟩
   rw [QQ, Bool.beq_eq_decide_eq]
   exact h _ H' qh.refl (VR.bl _)
  | _ => exact h.elim
 | lst xs =>
  cases dy with
  | lst ys =>
   right
   simp only [oEq] at h
   cases e1 : intsOf xs with
   | none => rw [e1] at h; exact h.elim
   | some ns =>
    cases e2 : intsOf ys with
    | none => rw [e1, e2] at h; exact h.elim
    | some ms =>
     rw [e1, e2] at h
     have q1 := vm e1
     have q2 := vm e2
     subst q1 q2
     obtain ⟨a, rfl, s1⟩ := xj R r1
     obtain ⟨b, rfl, s2⟩ := xj R r2
     refine ⟨_, _, .lst s1 (xi ns), .lst s2 (xi ms), shaped_ints ns, shaped_ints ms, ?_⟩
     show Q (.bl (!PyData.eqvAll _ _)) H'
     rw [zA]
     exact h _ H' qh.refl (VR.bl _)
  | _ => exact h.elim
 | _ => exact h.elim
theorem Vi (hu : X.A.units + 64 < cLine) : OpR X (compareOp .NotEq) (fun x y H Q => rNe x y H Q \/ Zb X.K x y H Q) := Yr.or (W5 hu)
theorem Qb {ns ns' : List Int} (h1 : ns'.Perm ns) (h2 : ns'.Pairwise (· <= ·)) : ns' = ns.mergeSort fun a b => decide (a <= b) := by
 refine (h1.trans (List.mergeSort_perm ns _).symm).eq_of_pairwise (le := fun a b => a <= b) (fun a b _ _ x y => Int.le_antisymm x y) h2 ?_
 have := List.pairwise_mergeSort (le := fun a b : Int => decide (a <= b)) (fun a b c x y => decide_eq_true (Int.le_trans (of_decide_eq_true x) (of_decide_eq_true y))) (fun a b => by
  rcases Int.le_total a b with q | q <;> simp [q]) ns
 exact this.imp fun q => of_decide_eq_true q
theorem Qa : QL X vB (jr X.K) := by
 intro B H H' σ δ vs xs Q E R s vr h
 match xs, vr, h with
 | [(.lst l, k)], vr, h =>
  simp only [vB] at h
  cases e : intsOf l with
  | none => rw [e] at h; exact h.elim
  | some ns =>
   rw [e] at h
   have q := vm e
   subst q
   dsimp only at h
   by_cases c : ns.length < 64
   ·rw [if_pos c] at h
    obtain ⟨v, rfl, r⟩ := Wi vr
    obtain ⟨a, rfl, sq⟩ := xj R r
    refine ⟨a, ns, rfl, sq, c, fun ns' p h1 h2 hp => ?_⟩
    have e2 := Qb h1 h2
    subst e2
    refine h _ _ (qE hp) ⟨p, _, rfl, rfl, xq _, hp, ?_⟩
    rw [w1]
    exact qm
   ·rw [if_neg c] at h
    exact h.elim
 | [], _, h => exact h.elim
 | [(.int _, _)], _, h => exact h.elim
 | [(.bl _, _)], _, h => exact h.elim
 | [(.tup _, _)], _, h => exact h.elim
 | [(.non, _)], _, h => exact h.elim
 | [(.fn _, _)], _, h => exact h.elim
 | [(.obj _ _ _, _)], _, h => exact h.elim
 | _ :: _ :: _, _, h => revert h; simp only [vB]; exact fun h => h.elim
theorem u4 : bootBuiltins "list" = some (.type "list") := by decide +kernel
theorem xm : bootBuiltins "sorted" = some (.builtin "sorted") := by decide +kernel
theorem zx : bootBuiltins "len" = some (.builtin "len") := by decide +kernel
theorem Q0 {a : Expr} {ta : TA} {p : Pos} (hg : Gl X "range") (hm : X.mg "range" = none) (ha : PA X [a] ta) (hs : starEach [a] X.env = [(false, eval a X.env)] := by rfl) :
  PE X (.Call (.Name "range" p) [a] [] pos) (fun σ H Q => ta σ H fun vs H1 => ∃ j : Int, vs = [.int j] /\ ∀ q, H1 q = none -> Q (.ref q) (upd H1 q (.rng 0 j))) := by
 intro pins s σ H Q I h
 refine Call_ (yH I hg hm boot_range (PyProof.Rows.callWith_type1 (thn (ha pos pins s σ H _ I h) fun us s1 ⟨vs, H1, I1, r1, q1⟩ => ?_) hs rfl))
 obtain ⟨j, e, q⟩ := q1
 subst e
 cases r1 with
 | cons r rr =>
  cases rr
  obtain ⟨t, rfl⟩ := r
  refine call_range_1 ⟨.ref _, _, I1.laid (t' := s1.toks + 1 + 1) (o := .rng 0 j) (fun _ _ q => Heap.get?_push_of_some _ q) (Nat.le_refl _) ⟨_, _, _, Heap.get?_push_size _ rfl⟩, rfl, q _ I1.fresh⟩
theorem yQ (hc : X.calm = true) : ug X (.type "list") (fun xs H Q => ∃ p n, xs = [.ref p] /\ H p = some (.rng 0 n) /\ -1000000 < n /\ n < 1000000 /\ ∀ l, H l = none -> Q (.ref l) (upd H l (.lst ((List.range n.toNat).map fun (k : Nat) => V.int k)))) := by
 intro pins s σ H xs us Q I r h
 obtain ⟨p, n, rfl, hp, hn0, hn, q⟩ := h
 rw [Vals.Yu r]
 obtain ⟨t, u, v, e⟩ := I.hok p _ hp
 have hsm := PySem.small_one (a := 0) (b := n) (by lia) (by lia) (by lia) (by lia)
 refine call_list_range (n := n.toNat) (I.ok.hd hc) e hsm (by rw [PySem.rangeSize_one]; split <;> lia) (by lia) fun h' tk acc' c' hk hS hi => ?_
 have hv : Vals ((List.range n.toNat).map fun (k : Nat) => V.int k) acc'.toList := by
  have len : acc'.toList.length = n.toNat := by rw [Array.length_toList]; exact hi.1
  have gen : ∀ (l : List Value) (m : Nat), (∀ (j : Nat) (v : Value), l[j]? = some v -> ∃ t, v = Value.int ((m : Int) + j) t) -> Vals ((List.range' m l.length).map fun (k : Nat) => V.int k) l := by
   intro l
   induction l with
   | nil => intro m _; exact .nil
   | cons a r ih =>
    intro m hj
    rw [List.length_cons, List.range'_succ, List.map_cons]
    refine .cons ?_ (ih (m + 1) fun j v e => ?_)
    ·obtain ⟨t, e⟩ := hj 0 a rfl
     exact ⟨t, by rw [e]; simp⟩
    ·obtain ⟨t, e2⟩ := hj (j + 1) v (by simpa using e)
     exact ⟨t, by rw [e2]; congr 1; lia⟩
  have g := gen acc'.toList 0 fun j v e => by
   obtain ⟨t, e2⟩ := hi.2 j v (by simpa using e)
   exact ⟨t, by rw [e2]; congr 1; lia⟩
  rw [len, <- List.range_eq_range'] at g
  exact g
 refine ⟨.ref _, _, I.laid (t' := tk) (o := .lst ((List.range n.toNat).map fun (k : Nat) => V.int k)) hk (Nat.le_refl _) ⟨?_, acc'.toList, c', hv, by simpa using hS⟩, rfl, q _ I.fresh⟩
 rw [List.length_map, List.length_range]
 have : (sizeLine : Nat) = 16777216 := rfl
 lia
theorem xH {a : Expr} {r : RE} {p p2 pos2 : Pos} (hc : X.calm = true) (hl : Gl X "list") (hlm : X.mg "list" = none) (hg : Gl X "range") (hm : X.mg "range" = none) (ha : PE X a (TEx X E r)) (hs : starEach [a] X.env = [(false, eval a X.env)] := by rfl) :
  PE X (.Call (.Name "list" p) [.Call (.Name "range" p2) [a] [] pos2] [] pos) (TEx X E (vz v8 (qf r qC))) := by
 refine qL (Qp (yQ hc) hl hlm u4 (vo (Q0 hg hm (qo ha qK hs) hs) wj)) fun σ H Q ⟨B, δ, R, h⟩ => ?_
 refine zt R h fun xs vs H1 s1 vrs h1 => ?_
 match xs, vrs, h1 with
 | [(.int i, k)], vrs, h1 =>
  obtain ⟨v, rfl, vr⟩ := Wi vrs
  simp only [v8] at h1
  by_cases c : -1000000 < i /\ i < 1000000
  ·rw [if_pos c] at h1
   refine ⟨i, by rw [qP R vr], fun q hq => ⟨q, i, rfl, qm, c.1, c.2, fun l hl => ?_⟩⟩
   have s2 := qE (o := .rng 0 i) hq
   have s3 := qE (o := .lst ((List.range i.toNat).map fun (k : Nat) => V.int k)) hl
   refine h1 _ _ (s2.trans s3) ⟨l, _, rfl, rfl, ?_, s2.free hl, ?_⟩
   ·rw [List.all_map]
    exact List.all_eq_true.mpr fun _ _ => rfl
   ·rw [qm, List.map_map]
    rfl
  ·rw [if_neg c] at h1
   exact h1.elim
 | [], _, h1 => exact h1.elim
 | [(.lst _, _)], _, h1 => exact h1.elim
 | [(.bl _, _)], _, h1 => exact h1.elim
 | [(.tup _, _)], _, h1 => exact h1.elim
 | [(.non, _)], _, h1 => exact h1.elim
 | [(.fn _, _)], _, h1 => exact h1.elim
 | [(.obj _ _ _, _)], _, h1 => exact h1.elim
 | _ :: _ :: _, _, h1 => revert h1; simp only [v8]; exact fun h => h.elim
end
end L2.Ir
set_option maxHeartbeats 4000000
namespace L2.Ir
open PySem PySem.Spec PyProof.Rows
theorem yT {h h' B B' : Heap} : ∀ {l : List Env}, h.FunFrames B l -> (∀ b ∈ frs l, ∀ o, h.get? b = some o -> h'.get? b = some o) -> (∀ b ∈ frs l, B'.get? b = none) -> h'.FunFrames B' l
 | [], _, _, _ => trivial
 | env :: r, ⟨hk, ⟨L, o, hf, _, ho, hd⟩, hr⟩, k, hB => by
  have hL : L ∈ frs (env :: r) := by unfold frs; rw [List.filterMap_cons, hf]; exact List.mem_cons_self
  have sub : ∀ b ∈ frs r, b ∈ frs (env :: r) := fun b hb => by unfold frs; rw [List.filterMap_cons, hf]; exact List.mem_cons_of_mem _ hb
  exact ⟨hk, ⟨L, o, hf, hB L hL, k L hL o ho, hd⟩, yT hr (fun b hb => k b (sub b hb)) fun b hb => hB b (sub b hb)⟩
theorem ZL {h : Heap} {C b : Addr} {o : Obj} (e : (PySem.W.hideAll h [C]).get? b = some o) : h.get? b = some o /\ b ≠ C := by
 refine ⟨PySem.W.of_hideAll _ e, fun z => ?_⟩
 have q : (PySem.W.hideAll h [C]).get? b = none := PySem.W.hideAll_none _ (by rw [z]; exact List.mem_singleton_self _)
 rw [q] at e
 cases e
theorem z9 {h : Heap} {C b : Addr} (e : h.get? b = none) : (PySem.W.hideAll h [C]).get? b = none := by
 cases q : (PySem.W.hideAll h [C]).get? b with
 | none => rfl
 | some o =>
  have := (ZL q).1
  rw [e] at this
  cases this
theorem j9 {B h h' : Heap} {l : List Env} {e C : Addr} {cls : Value} {m : Str -> Option Value} (x : v9 B l e cls h) (hC : h.Ns C m) (hf : C ∉ frs l) (sb : Heap.SameBut C h h') : v9 (PySem.W.hideAll B [C]) l e cls h' := by
 obtain ⟨kb, hen, hl, oe, vs, a0, he, hcls, hd, h0, T, oT, ts, f, h1, hnT, hTe, hT, hdT, h3⟩ := x
 obtain ⟨oc, es, ep, hoc, hdc, _⟩ := hC
 have ne : ∀ {b : Addr} {o : Obj} {ws : Array Value}, h.get? b = some o -> o.data = .fields ws -> b ≠ C := fun {b o ws} e1 e2 z => by
  rw [z, hoc] at e1
  cases e1
  rw [hdc] at e2
  cases e2
 have keep : ∀ b o, b ≠ C -> h.get? b = some o -> h'.get? b = some o := fun b o n e1 => (sb.2 b n).trans e1
 refine ⟨fun b o e1 => keep b o (ZL e1).2 (kb b o (ZL e1).1), z9 hen, yT hl (fun b hb o e1 => keep b o (fun z => hf (by rw [<- z]; exact hb)) e1) (fun b hb => z9 (hl.mem hb).1), oe, vs, a0, keep _ _ (ne he hd) he, hcls, hd, h0, T, oT, ts, f, h1, z9 hnT, hTe, keep _ _ (ne hT hdT) hT, hdT, h3⟩
noncomputable abbrev xC (X : Cx) (E : XK) (s : Shared) (H : Hp) (scope : Scope) (cenv : Env) (fp : List Addr) : Cx := (X.blk s H scope cenv fp).wA (Arr (X.blk s H scope cenv fp) E)
section
variable {X : Cx} {E : XK}
theorem QY {pins : List (Addr × Obj)} {s : Shared} {σ : St} {H : Hp} {Q : VK} {elt tg iter : Expr} {ifs : List Expr} {scope : Scope} {own : List (Str × Nat)} {pos pos' : Pos} {wi : TI} {g : TG} {tt : TT} {te : TE} {use : Option (Value -> Sem Unit)} {Qf : Value -> Shared -> Prop} {LF : Addr}
  (hc : X.calm = true) (hN : X.N.Nodup) (acc : Acc X E) (hst : X.stack = X.env :: X.outer) (hfr : X.env.frame = some LF) (I : Inv X pins σ H s) (hi : PI X tg iter wi) (ok : jL X.N X.env.scope scope own)
  (hg : ∀ (s : Shared) (H : Hp) (C : Addr) (cl : List (Str × Addr)) (fp : List Addr), PG (xC X E s H scope (compEnvC scope cl C X.env) fp) tg g) (ht : ∀ (s : Shared) (H : Hp) (C : Addr) (cl : List (Str × Addr)) (fp : List Addr), PTs (xC X E s H scope (compEnvC scope cl C X.env) fp) ifs tt)
  (he : ∀ (s : Shared) (H : Hp) (C : Addr) (cl : List (Str × Addr)) (fp : List Addr), PE (xC X E s H scope (compEnvC scope cl C X.env) fp) elt te) (hs : ∀ x, foldedSetIterable iter X.env x = pure x)
  (h : tLc wi g tt te (own.map (·.2)) σ H Q)
  (hRR : ∀ D C s' m H', Inv X pins σ H' s' -> Q (.ref D) H' -> s'.heap.Ns C m -> zw X pins H' C -> compPost (model X.prog X.w) X.A X.xe use Qf (.ref D) C (.ok .next) s') :
  wpAny (model X.prog X.w) X.A (comprehension (.ListComp elt [⟨tg, iter, ifs, 0⟩] scope pos) scope X.env pos' (newList []) false (eval iter X.env) use) Qf X.xe s := by
 have hfree : ∀ y ∈ scope.names, y.2 = .free -> ∃ c, X.env.cells.lookup y.1 = some c := fun y hy e => by
  rcases ok.free y hy e with k | k
  ·exact I.ok.has _ (.inl k)
  ·exact I.ok.has _ (.inr k)
 refine wpAny_comprehension_free (use := use) rfl hs (yq hfree) ok.kind (fun y hy e => by rw [ok.uniq y hy, e])
  (thn (hi pins s σ H _ I h) fun xv s1 hx => thn hx fun itv s2 h2 => ?_)
 obtain ⟨it, fp, tn, J, H2, e, I2, T, st2, f2, q⟩ := h2
 subst e
 refine wpAny_newObj_type (uC ?_) (by show 0 <= sizeLine; decide)
 generalize hD : s2.heap.objs.size = D
 have hDn : H2 D = none := I2.hok.fresh (Nat.le_of_eq hD)
 obtain ⟨W, ⟨m0, w0⟩, turn⟩ := q D hDn
 generalize hs3 : ({ s2 with heap := s2.heap.push { cls := .type "list", data := .seq ([] : List Value).toArray } } : Shared) = s3
 have I3 : Inv X pins σ (upd H2 D (.lst [])) s3 := by
  rw [<- hs3]
  refine I2.laid (t' := s2.toks) (fun b o e => Heap.get?_push_of_some _ e) (Nat.le_of_eq hD) ⟨Nat.zero_le _, [], 0, .nil, ?_⟩
  rw [<- hD]
  exact Heap.get?_push_size _ rfl
 have h3 : s3.heap = s2.heap.push { cls := .type "list", data := .seq ([] : List Value).toArray } := by rw [<- hs3]
 have sz : ∀ b ∈ fp, b < s2.heap.objs.size := fun b hb => by
  obtain ⟨o, e, _⟩ := T.obj _ _ st2 b hb
  exact Heap.lt_size e
 have f3 : ∀ b ∈ fp, zw X pins (upd H2 D (.lst [])) b /\ b < s3.heap.objs.size := fun b hb => by
  have hlt := sz b hb
  refine ⟨⟨?_, (f2 b hb).2⟩, by rw [h3, Heap.size_push]; exact Nat.lt_succ_of_lt hlt⟩
  rw [qd (by rw [<- hD]; exact Nat.ne_of_lt hlt)]
  exact (f2 b hb).1
 have st3 : tn 0 s3.heap := T.keep _ _ _ st2 fun b _ o e => by rw [h3]; exact Heap.get?_push_of_some _ e
 have I4 := x9 I3 ok hN f3
 have pg := hg s3 (upd H2 D (.lst [])) s3.heap.objs.size (cellsFrom (s3.heap.objs.size + 1) scope.names (qj X.env.cells scope.names [])) fp
 have pt := ht s3 (upd H2 D (.lst [])) s3.heap.objs.size (cellsFrom (s3.heap.objs.size + 1) scope.names (qj X.env.cells scope.names [])) fp
 have pe := he s3 (upd H2 D (.lst [])) s3.heap.objs.size (cellsFrom (s3.heap.objs.size + 1) scope.names (qj X.env.cells scope.names [])) fp
 show codeAny _ _ (.compStart (.ListComp elt [⟨tg, iter, ifs, 0⟩] scope pos) 0 (.ref it) (.ref D) (compEnvC scope (cellsFrom (s3.heap.objs.size + 1) scope.names (qj X.env.cells scope.names [])) s3.heap.objs.size X.env)) (compPost (model X.prog X.w) X.A X.xe use Qf (.ref D) s3.heap.objs.size) { s3 with heap := pushCells (s3.heap.push { cls := .type "dict", data := .dict #[] }) scope.names }
 have nfp : ∀ b ∈ fp, (upd H2 D (.lst [])) b = none := fun b hb => (f3 b hb).1.1
 generalize hce : compEnvC scope (cellsFrom (s3.heap.objs.size + 1) scope.names (qj X.env.cells scope.names [])) s3.heap.objs.size X.env = ce at I4 pg pt pe ⊢
 have cL : ce.locals = s3.heap.objs.size := by subst hce; rfl
 have cF : ce.frame = some LF := by subst hce; exact hfr
 generalize hH3 : upd H2 D (.lst []) = H3 at I3 I4 pg pt pe w0 nfp f3
 generalize hs4 : ({ s3 with heap := pushCells (s3.heap.push { cls := .type "dict", data := .dict #[] }) scope.names } : Shared) = s4 at I4 ⊢
 have st4 : tn 0 s4.heap := T.keep _ _ _ st3 fun b _ o e => by rw [<- hs4]; exact pushCells_keeps _ _ _ _ (Heap.get?_push_of_some _ e)
 have stat : ∀ {σ' : St} {H' : Hp} {s' : Shared}, Inv (X.blk s3 H3 scope ce fp) [] σ' H' s' -> (∀ b ∈ fp, H' b = none) -> ∀ b ∈ fp, zw (X.blk s3 H3 scope ce fp) [] H' b := fun {σ' H' s'} I' hn b hb =>
  ⟨hn b hb, (I'.ok.exf b hb).1, I'.ok.exfs b hb, .inl hb, fun x c e => (I'.ok.exf b hb).2 x c e, fun p hp => absurd (show p ∈ ([] : List (Addr × Obj)) ++ [] from hp) (by simp)⟩
 -- an exception out of the block
 have exc : ∀ (e : Value) (s5 : Shared), Arr (X.blk s3 H3 scope ce fp) E e s5 -> notedBy (model X.prog X.w) X.A ce (fun e s' => compPost (model X.prog X.w) X.A X.xe use Qf (.ref D) s3.heap.objs.size (.error e) s') e s5 := fun e s5 x => by
  obtain ⟨a, cls, Bh, H', pins', σ', rfl, I5, hd, kb, q⟩ := x
  have hfrm : X.A.frames = some (X.env :: X.outer) := by rw [<- hst]; exact I3.ok.frames
  have hd0 : Hand Bh (X.env :: X.outer) a cls s5.heap := by rw [<- hst]; exact hd
  refine v5 hfrm hfr cF hd0 fun h1 hd1 up1 => ?_
  rw [<- hst] at hd1
  obtain ⟨I6, kb1⟩ := qN I5 hd kb hd1.hand up1
  obtain ⟨m, hn, _⟩ := I6.loc
  have hn : h1.Ns ce.locals m := hn
  rw [cL] at hn
  refine ⟨m, hn, fun h' sb cenv hcl => ?_⟩
  have nC : H' s3.heap.objs.size = none := by
   have z : H' ce.locals = none := I6.free
   rw [cL] at z
   exact z
  have fC : zw X pins H' s3.heap.objs.size := I3.Q7 (Nat.le_refl _) nC
  have I7 : Inv X pins σ H' { s5 with heap := h1 } := I3.Qz (ch := fp) I6.os I6.base I6.hok I6.bare fun b hb => ⟨(f3 b hb).1.2.2.2.1, (f3 b hb).1.2.1, (f3 b hb).1.2.2.2.2.1, (f3 b hb).1.2.2.2.2.2⟩
  obtain ⟨g0, g1, g2, g3, g4, g5⟩ := fC
  have I8 : Inv X pins σ H' { s5 with heap := h' } := I7.turned (t' := s5.toks) (fun b o hb e => (sb.2 b hb).trans e) g0 g1 g3 g4 g5
  have cf : s3.heap.objs.size ∉ frs X.stack := fun z => by
   rcases List.mem_cons.mp (I3.vR _ z) with z | z
   ·exact g1 z
   ·exact g2 z
  have hd2 := j9 hd1 hn cf sb
  have relN : ∀ b, Rel X pins H' b -> b ≠ s3.heap.objs.size /\ Rel (X.blk s3 H3 scope ce fp) pins' H' b := fun b r => by
   have inS3 : (¬ H' b ≠ none) -> ∃ o, s3.heap.get? b = some o := fun hn' => by
    rcases r with r | r
    ·exact absurd r hn'
    ·exact zK I3 (.inr r)
   by_cases hb : H' b ≠ none
   ·exact ⟨fun z => hb (by rw [z]; exact nC), .inl hb⟩
   ·obtain ⟨o, eo⟩ := inS3 hb
    refine ⟨Nat.ne_of_lt (Heap.lt_size eo), .inr (.inl ⟨o, eo, fun hfp => ?_⟩)⟩
    obtain ⟨k0, k1, k2, k3, k4, k5⟩ := (f3 b hfp).1
    rcases r with r | ⟨o', e', nx⟩ | ⟨y, e'⟩ | e' | ⟨p, hp, e'⟩
    ·exact hb r
    ·rcases k3 with k3 | k3
     ·exact nx k3
     ·exact absurd (Nat.lt_of_lt_of_le (Heap.lt_size e') k3) (Nat.lt_irrefl _)
    ·exact k4 y b e' rfl
    ·exact k1 e'
    ·exact k5 p hp e'
  have kb2 : ∀ b o, h'.get? b = some o -> b ∉ frs X.stack -> Rel X pins H' b -> (PySem.W.hideAll Bh [s3.heap.objs.size]).get? b = some o := fun b o hb hf r => by
   obtain ⟨nb, r2⟩ := relN b r
   have e1 : h1.get? b = some o := (sb.2 b nb).symm.trans hb
   exact PySem.W.hideAll_get _ (kb1 b o e1 hf r2) (by simpa using nb)
  unfold PySem.passOn
  refine wpAny_bind (w4 hd2 fun T => ?_)
  rw [if_neg (show ¬ ((Value.ref T == Value.none) = true) from by simp)]
  refine wpAny_bind (qT hd2 fun h3' hd3 up3 => wpAny_throw ?_)
  obtain ⟨I9, kb3⟩ := qN I8 hd2.hand kb2 hd3.hand up3
  exact acc _ _ ⟨a, cls, _, H', pins, σ, rfl, I9, hd3.hand, kb3, q⟩
 have thnX : ∀ {α : Type} {t : Sem α} {P P' : α -> Shared -> Prop} {s' : Shared}, wpAny (model X.prog X.w) X.A t P (Arr (X.blk s3 H3 scope ce fp) E) s' -> (∀ a s, P a s -> P' a s) -> wpAny (model X.prog X.w) X.A t P' (notedBy (model X.prog X.w) X.A ce (fun e s' => compPost (model X.prog X.w) X.A X.xe use Qf (.ref D) s3.heap.objs.size (.error e) s')) s' :=
  fun {α t P P' s'} h hP => wpAny_mono h hP exc
 have loop : codeAny (model X.prog X.w) X.A (.compLoop (.ListComp elt [⟨tg, iter, ifs, 0⟩] scope pos) 0 (.ref it) (.ref D) ce) (compPost (model X.prog X.w) X.A X.xe use Qf (.ref D) s3.heap.objs.size) s4 := by
  refine xw (fun n s' => ∃ i H', Inv (X.blk s3 H3 scope ce fp) [] (wipe σ (own.map (·.2))) H' s' /\ tn i s'.heap /\ (∀ b ∈ fp, H' b = none) /\ W i n H') ?_ m0 ⟨0, H3, I4, st4, nfp, w0⟩
  rintro n s5 ⟨i, H5, I5, st5, n5, w5⟩
  rcases turn i n H5 w5 with ⟨stop, qq⟩ | ⟨go, Nx, hNx, step⟩
  ·have td := T.done (X.blk s3 H3 scope ce fp) rfl rfl rfl hc i [] s5 _ H5 (fun _ _ => False) I5 (stat I5 n5) st5 stop
   refine ZK td fun r s6 ⟨hr, I6⟩ => ?_
   subst hr
   have I7 : Inv X pins σ H5 s6 := I3.Qz (ch := fp) I6.os I6.base I6.hok I6.bare fun b hb => ⟨(f3 b hb).1.2.2.2.1, (f3 b hb).1.2.1, (f3 b hb).1.2.2.2.2.1, (f3 b hb).1.2.2.2.2.2⟩
   have nC : H5 s3.heap.objs.size = none := by
    have z : H5 ce.locals = none := I6.free
    rw [cL] at z
    exact z
   obtain ⟨m, hn, _⟩ := I6.loc
   have hn : s6.heap.Ns ce.locals m := hn
   rw [cL] at hn
   exact hRR D s3.heap.objs.size s6 m H5 I7 qq hn (I3.Q7 (Nat.le_refl _) nC)
  ·have ti := T.item (X.blk s3 H3 scope ce fp) rfl rfl rfl hc i [] s5 _ H5 (fun _ _ => False) I5 (stat I5 n5) st5 go
   refine ZK ti fun r s6 ⟨u, hr, h6⟩ => ?_
   subst hr
   refine ZK h6 fun _ s7 ⟨x, H7, I7, r7, y7, st7, n7⟩ => ?_
   have I7' := (I7.pinned (stat I7 n7) (T.obj _ _ st7)).wA (Arr (X.blk s3 H3 scope ce fp) E)
   refine thnX (pg _ s7 _ H7 x u _ I7' r7 (step x H7 y7)) fun _ s8 ⟨σ8, H8, I8, hw8, q8⟩ => ?_
   refine thnX (pt _ s8 σ8 H8 _ I8 q8) fun b s9 ⟨H9, I9, q9⟩ => ?_
   have fin : ∀ {s' : Shared} {H' : Hp}, Inv (X.blk s3 H3 scope ce fp) ([] ++ yt fp s7.heap) σ8 H' s' -> Nx H' -> ∃ m, m < n /\ ∃ i H', Inv (X.blk s3 H3 scope ce fp) [] (wipe σ (own.map (·.2))) H' s' /\ tn i s'.heap /\ (∀ b ∈ fp, H' b = none) /\ W i m H' := fun {s' H'} I' nx => by
    obtain ⟨m', hm, w'⟩ := hNx H' nx
    have pin' : ∀ b ∈ fp, ∀ o, s7.heap.get? b = some o -> s'.heap.get? b = some o /\ H' b = none := fun b hb o e =>
     let z := I'.pin (b, o) (List.mem_append_right _ (List.mem_append_right _ (wQ hb e)))
     ⟨z.1, z.2.1⟩
    have hl : (wipe σ (own.map (·.2))).length = σ8.length := by rw [<- hw8, qH]
    refine ⟨m', hm, i + 1, H', (I'.zb (pins := [])).weak hl (fun j v e => ?_), T.keep _ _ _ st7 fun b hb o e => (pin' b hb o e).1, fun b hb => ?_, w'⟩
    ·rw [<- hw8] at e
     exact (qS e).1
    ·obtain ⟨o, e, _⟩ := T.obj _ _ st7 b hb
     exact (pin' b hb o e).2
   cases b with
   | false =>
    simp only [Bool.false_eq_true, if_false] at q9 ⊢
    exact fin I9.vy q9
   | true =>
    simp only [if_true] at q9 ⊢
    refine thnX (pe _ s9 σ8 H9 _ I9 q9) fun z s10 ⟨yv, H10, I10, r10, acc, hD10, hz10, nx⟩ => ?_
    exact Yk (X := X.blk s3 H3 scope ce fp) I10.vy hD10 hz10 r10 fun s11 I11 => fin I11 nx
 exact codeAny_compStart_list loop (T.self X.A 0 _ _ _ st4 loop)
theorem Yh {elt tg iter : Expr} {ifs : List Expr} {scope : Scope} {own : List (Str × Nat)} {pos : Pos} {wi : TI} {g : TG} {tt : TT} {te : TE} {LF : Addr} (hc : X.calm = true) (hN : X.N.Nodup) (acc : Acc X E) (hst : X.stack = X.env :: X.outer) (hfr : X.env.frame = some LF) (hi : PI X tg iter wi) (ok : jL X.N X.env.scope scope own)
  (hg : ∀ (s : Shared) (H : Hp) (C : Addr) (cl : List (Str × Addr)) (fp : List Addr), PG (xC X E s H scope (compEnvC scope cl C X.env) fp) tg g) (ht : ∀ (s : Shared) (H : Hp) (C : Addr) (cl : List (Str × Addr)) (fp : List Addr), PTs (xC X E s H scope (compEnvC scope cl C X.env) fp) ifs tt)
  (he : ∀ (s : Shared) (H : Hp) (C : Addr) (cl : List (Str × Addr)) (fp : List Addr), PE (xC X E s H scope (compEnvC scope cl C X.env) fp) elt te) (hs : ∀ x, foldedSetIterable iter X.env x = pure x := by intro _; rfl) :
  PE X (.ListComp elt [⟨tg, iter, ifs, 0⟩] scope pos) (tLc wi g tt te (own.map (·.2))) := by
 intro pins s σ H Q I h
 rw [eval_ListComp]
 refine QY hc hN acc hst hfr I hi ok hg ht he hs h fun D C s' m H' I' q hn f => ⟨m, hn, fun h'' sb => ?_⟩
 obtain ⟨f0, f1, f2, f3, f4, f5⟩ := f
 exact ⟨.ref D, H', I'.turned (t' := s'.toks) (fun b o hb e => (sb.2 b hb).trans e) f0 f1 f3 f4 f5, rfl, q⟩
end
theorem yZ (δ : Dl) : ∀ vs : List Nat, (clear δ vs).length = δ.length
 | [] => rfl
 | v :: vs => by show ((clear δ vs).set v .un).length = _; rw [List.length_set, yZ δ vs]
theorem qU {δ : Dl} {i : Nat} {x : Sl} : ∀ {vs : List Nat}, (clear δ vs)[i]? = some x -> x = .un \/ (i ∉ vs /\ δ[i]? = some x)
 | [], h => .inr ⟨by simp, h⟩
 | v :: vs, h => by
  have h : ((clear δ vs).set v .un)[i]? = some x := h
  by_cases e : v = i
  ·subst e
   by_cases hl : v < (clear δ vs).length
   ·rw [List.getElem?_set_self hl] at h
    exact .inl (Option.some.inj h).symm
   ·rw [List.getElem?_eq_none (by rw [List.length_set]; lia)] at h
    cases h
  ·rw [List.getElem?_set_ne e] at h
   rcases qU h with z | ⟨z1, z2⟩
   ·exact .inl z
   ·exact .inr ⟨by simp [z1, Ne.symm e], z2⟩
section
variable {mg : Str -> Option Value} {K : PySem.W.Frag} {B : Bs} {H H1 H' H'' : Hp} {σ : St} {δ : Dl} {D0 : Addr} {vs : List Nat}
noncomputable def Bd (B : Bs) (σ : St) (δ : Dl) (vs : List Nat) (D0 : Addr) : Bs := ⟨B.H0, fun p => p = D0 \/ (qw B σ δ p /\ ¬ ∃ (i : Nat) (ds : List D), (clear δ vs)[i]? = some (.own ds) /\ (wipe σ vs)[i]? = some (some (.ref p)))⟩
theorem Vr {p : Addr} (h : ∃ (i : Nat) (ds : List D), (clear δ vs)[i]? = some (.own ds) /\ (wipe σ vs)[i]? = some (some (.ref p))) : qw B σ δ p := by
 obtain ⟨i, ds, e1, e2⟩ := h
 rcases qU e1 with z | ⟨_, z⟩
 ·cases z
 ·exact .inr ⟨i, ds, z, (qS e2).1⟩
theorem ya {p : Addr} : qw (Bd B σ δ vs D0) (wipe σ vs) (clear δ vs) p ↔ p = D0 \/ qw B σ δ p := by
 constructor
 ·rintro ((h | h) | h)
  ·exact .inl h
  ·exact .inr h.1
  ·exact .inr (Vr h)
 ·rintro (h | h)
  ·exact .inl (.inl h)
  ·by_cases c : ∃ (i : Nat) (ds : List D), (clear δ vs)[i]? = some (.own ds) /\ (wipe σ vs)[i]? = some (some (.ref p))
   ·exact .inr c
   ·exact .inl (.inr ⟨h, c⟩)
theorem Xf (R : Rl mg K B H σ δ) {p : Addr} (h : B.P p) : (Bd B σ δ vs D0).P p := by
 refine .inr ⟨.inl h, fun ⟨i, ds, e1, e2⟩ => ?_⟩
 rcases qU e1 with z | ⟨_, z⟩
 ·cases z
 ·obtain ⟨_, q, e3, _, np, _⟩ := R.own i ds z
  have := (qS e2).1
  rw [this] at e3
  cases e3
  exact np h
theorem Rl.blk (R : Rl mg K B H σ δ) (hD : H D0 = none) (o : HO) : Rl mg K (Bd B σ δ vs D0) (upd H D0 o) (wipe σ vs) (clear δ vs) := by
 have s := qE (o := o) hD
 have hne : ∀ a, H a ≠ none -> a ≠ D0 := fun a ha z => ha (by rw [z]; exact hD)
 refine ⟨R.same.trans s, fun p hp => ?_, by rw [qH, yZ]; exact R.len, fun i d k e => ?_, fun i ds e => ?_, fun i j p ds es e1 e2 e3 e4 => ?_⟩
 ·rcases hp with rfl | ⟨hp, _⟩
  ·rw [qm]; exact fun z => nomatch z
  ·exact fun z => R.owned hp (s.free z)
 ·rcases qU e with z | ⟨nv, z⟩
  ·cases z
  ·obtain ⟨v, e1, e2⟩ := R.val i d k z
   refine ⟨v, by rw [wB nv]; exact e1, ?_⟩
   refine Rp.same (Rp.weak (Rp.there _ _ e2) fun a g => ⟨fun z => ?_, g.1.2⟩) s
   rcases ya.mp z with z | z
   ·exact hne a g.2 z
   ·exact g.1.1 z
 ·rcases qU e with z | ⟨nv, z⟩
  ·cases z
  ·obtain ⟨c, p, e1, e2, np, e3⟩ := R.own i ds z
   have hp : H p ≠ none := by rw [e3]; exact fun z => nomatch z
   refine ⟨c, p, by rw [wB nv]; exact e1, e2, fun q => ?_, s _ _ e3⟩
   rcases q with q | ⟨_, q⟩
   ·exact hne p hp q
   ·exact q ⟨i, ds, e, by rw [wB nv]; exact e1⟩
 ·rcases qU e1 with z | ⟨n1, z1⟩
  ·cases z
  ·rcases qU e2 with z | ⟨n2, z2⟩
   ·cases z
   ·exact R.apart i j p ds es z1 z2 (qS e3).1 (qS e4).1
theorem Rl.made {B' : Bs} {σ' : St} {δ' : Dl} (R : Rl mg K B' H σ' δ') (hP : B'.P D0) (h0 : B'.H0 D0 = none) (o : HO) : Rl mg K B' (upd H D0 o) σ' δ' := by
 refine ⟨fun b q e => ?_, fun p hp => ?_, R.len, fun i d k e => ?_, fun i ds e => ?_, R.apart⟩
 ·rw [qd (qu e h0)]
  exact R.same b q e
 ·by_cases c : p = D0
  ·rw [c, qm]; exact fun z => nomatch z
  ·rw [qd c]; exact R.pd p hp
 ·obtain ⟨v, e1, e2⟩ := R.val i d k e
  exact ⟨v, e1, e2.mono fun a g => ⟨g, fun q z => by rw [qd (fun w => g.1 (.inl (by rw [w]; exact hP)))]; exact z⟩⟩
 ·obtain ⟨c, p, e1, e2, np, e3⟩ := R.own i ds e
  exact ⟨c, p, e1, e2, np, by rw [qd (fun w => np (by rw [w]; exact hP))]; exact e3⟩
theorem uZ {k l : Kd} {a : Addr} (g : Gk B σ δ k a) : Gk B σ δ (k.low l) a := by
 cases k <;> cases l <;> first | exact g | exact g.1 | exact fun z => g (.inl z) | exact fun z => g.1 (.inl z)
inductive VAs (mg : Str -> Option Value) (K : PySem.W.Frag) (B : Bs) (σ : St) (δ : Dl) (H : Hp) : List V -> List DK -> Prop
 | nil : VAs mg K B σ δ H [] []
 | snoc {vs : List V} {xs : List DK} {v : V} {x : DK} : VAs mg K B σ δ H vs xs -> Rp mg K (Gk B σ δ (x.2.low .nw)) H v x.1 -> VAs mg K B σ δ H (vs ++ [v]) (xs ++ [x])
theorem VAs.to {vs : List V} {xs : List DK} (h : VAs mg K B σ δ H vs xs) (k : ∀ a, ¬ B.P a -> ∀ o, H a = some o -> H' a = some o) : VAs mg K B σ δ H' vs xs := by
 induction h with
 | nil => exact .nil
 | snoc _ r ih =>
  refine .snoc ih (r.mono fun a g => ⟨g, k a ?_⟩)
  have g2 := uZ (l := .bo) g
  rename_i x _
  revert g2
  cases x.2 <;> exact fun g => g
theorem VAs.len {vs : List V} {xs : List DK} (h : VAs mg K B σ δ H vs xs) : vs.length = xs.length := by
 induction h with
 | nil => rfl
 | snoc _ _ ih => rw [List.length_append, List.length_append, ih]; rfl
theorem VAs.sc {vs : List V} {xs : List DK} (h : VAs mg K B σ δ H vs xs) (c : (xs.map (·.1)).all D.sc = true) : vs = (xs.map (·.1)).map toV := by
 induction h with
 | nil => rfl
 | snoc _ r ih =>
  rw [List.map_append, List.all_append, Bool.and_eq_true] at c
  rw [ih c.1, List.map_append, List.map_append]
  have c2 := c.2
  simp at c2
  rw [r.sc c2]
  rfl
theorem zB : ∀ (xs : List DK) (x : DK), qi (xs ++ [x]) = if x.1.sc = true then qi xs else (qi xs).low x.2
 | [], x => by
  show qi [x] = _
  unfold qi
  split
  ·rfl
  ·show x.2.low .nw = Kd.low .nw x.2
   exact ym _ _
 | y :: r, x => by
  show qi (y :: (r ++ [x])) = _
  unfold qi
  rw [zB r x]
  split <;> split <;> first | rfl | (rw [wD])
theorem VAs.kinds {vs : List V} {xs : List DK} (h : VAs mg K B σ δ H vs xs) : qc mg K (Gk B σ δ (qi xs)) H vs (xs.map (·.1)) := by
 induction h with
 | nil => exact .nil
 | @snoc vs xs v x _ r ih =>
  rw [List.map_append, zB]
  cases c : x.1.sc with
  | true =>
   rw [if_pos rfl]
   refine ih.append (.cons ?_ .nil)
   rw [r.sc c]
   exact Rp.vd c
  | false =>
   rw [if_neg (by decide)]
   refine (ih.weak fun a g => uZ g).append (.cons (r.weak fun a g => ?_) .nil)
   rw [ym]
   have e : (x.2.low .nw).low (qi xs) = x.2.low (qi xs) := by
    have n := vE xs
    cases x.2 <;> cases h : qi xs <;> first | rfl | exact absurd h n
   rw [<- e]
   exact uZ g
end
section
variable {X : Cx} {E : XK} {pos : Pos}
theorem yz {σ σ' : St} {i : Nat} {v : V} {vs : List Nat} (hi : i ∈ vs) : wipe (σ.set i (some v)) vs = wipe σ vs := by
 have gen : ∀ (vs : List Nat) (x : Option V), wipe (σ.set i x) vs = (if i ∈ vs then wipe σ vs else (wipe σ vs).set i x) := by
  intro vs
  induction vs with
  | nil => intro x; rfl
  | cons w r ih =>
   intro x
   show (wipe (σ.set i x) r).set w none = _
   rw [ih x]
   by_cases h1 : i ∈ r
   ·rw [if_pos h1, if_pos (List.mem_cons_of_mem _ h1)]
    rfl
   ·rw [if_neg h1]
    by_cases h2 : i = w
    ·subst h2
     rw [if_pos List.mem_cons_self, List.set_set]
     rfl
    ·rw [if_neg (by simp [h2, h1]), List.set_comm _ _ h2]
     rfl
 rw [gen vs (some v), if_pos hi]
theorem jQ {tg : Tg} {σ σ2 : St} {vs : List Nat} (h : tg.sets σ σ2) (hv : tg.within vs) : wipe σ2 vs = wipe σ vs := by
 cases tg with
 | one i => obtain ⟨v, rfl⟩ := h; exact yz (σ' := σ) hv
 | two i j =>
  obtain ⟨v, w, rfl⟩ := h
  rw [yz (σ' := σ) hv.2, yz (σ' := σ) hv.1]
theorem Qs (σ : St) (vs : List Nat) : wipe (wipe σ vs) vs = wipe σ vs := by
 refine List.ext_getElem? fun i => ?_
 by_cases h : i ∈ vs
 ·by_cases hl : i < σ.length
  ·have a : ∀ τ : St, τ.length = σ.length -> (wipe τ vs)[i]? = some none := fun τ hτ => by
    have l : i < (wipe τ vs).length := by rw [qH, hτ]; exact hl
    cases e : (wipe τ vs)[i] with
    | none => rw [List.getElem?_eq_getElem l, e]
    | some x =>
     have := (qS (show (wipe τ vs)[i]? = some (some x) by rw [List.getElem?_eq_getElem l, e])).2
     exact absurd h this
   rw [a _ (qH σ vs), a _ rfl]
  ·rw [List.getElem?_eq_none (by rw [qH, qH]; lia), List.getElem?_eq_none (by rw [qH]; lia)]
 ·rw [wB h]
theorem w6 {i j : Nat} {x : DK} {δ δ' : Dl} (h : put i x δ = some δ') (n : i ≠ j) : δ'[j]? = δ[j]? := by
 obtain ⟨d, k⟩ := x
 have fin : ∀ s : Sl, δ' = δ.set i s -> δ'[j]? = δ[j]? := fun s e => by rw [e, List.getElem?_set_ne n]
 cases k with
 | bo =>
  have h2 : (if d.sc = true then some (δ.set i (.val d true)) else none) = some δ' := h
  by_cases c : d.sc = true
  ·rw [if_pos c] at h2; exact fin _ (Option.some.inj h2).symm
  ·rw [if_neg c] at h2; cases h2
 | sh => exact fin _ (Option.some.inj (show some (δ.set i (vY (d, if d.sc = true then .nw else .sh))) = some δ' from h)).symm
 | nw => exact fin _ (Option.some.inj (show some (δ.set i (vY (d, if d.sc = true then .nw else .nw))) = some δ' from h)).symm
 | fr => exact fin _ (Option.some.inj (show some (δ.set i (vY (d, if d.sc = true then .nw else .fr))) = some δ' from h)).symm
theorem Tg.w6 {tg : Tg} {j : Nat} {x : DK} {δ δ' : Dl} {vs : List Nat} (h : tg.put x δ = some δ') (hv : tg.within vs) (n : j ∉ vs) : δ'[j]? = δ[j]? := by
 cases tg with
 | one i => exact Ir.w6 (show Ir.put i x δ = some δ' from h) fun z => n (by rw [<- z]; exact hv)
 | two i k =>
  obtain ⟨d, kd⟩ := x
  have go : ∀ a b, d = .tup [a, b] -> δ'[j]? = δ[j]? := fun a b e => by
   subst e
   have h : (Ir.put i (a, kd) δ).bind (Ir.put k (b, kd)) = some δ' := h
   cases h1 : Ir.put i (a, kd) δ with
   | none => rw [h1] at h; cases h
   | some δ1 =>
    rw [h1] at h
    rw [Ir.w6 (show Ir.put k (b, kd) δ1 = some δ' from h) fun z => n (by rw [<- z]; exact hv.2), Ir.w6 h1 fun z => n (by rw [<- z]; exact hv.1)]
  cases d with
  | tup l =>
   match l, go, h with
   | [a, b], go, _ => exact go a b rfl
   | [], _, h => cases h
   | [_], _, h => cases h
   | _ :: _ :: _ :: _, _, h => cases h
  | _ => cases h
theorem Vq {tg : Tg} {j : Nat} {σ σ' : St} {vs : List Nat} (h : tg.sets σ σ') (hv : tg.within vs) (n : j ∉ vs) : σ'[j]? = σ[j]? := by
 cases tg with
 | one i => obtain ⟨v, rfl⟩ := h; rw [List.getElem?_set_ne fun z => n (by rw [<- z]; exact hv)]
 | two i k =>
  obtain ⟨v, w, rfl⟩ := h
  rw [List.getElem?_set_ne fun z => n (by rw [<- z]; exact hv.2), List.getElem?_set_ne fun z => n (by rw [<- z]; exact hv.1)]
theorem V3 {tg : Tg} {x : DK} {B' : Bs} {σ σ3 : St} {δ δ2 : Dl} {vs : List Nat} {a : Addr} (hp : tg.put x (clear δ vs) = some δ2) (st : tg.sets (wipe σ vs) σ3) (hv : tg.within vs) (h : qw B' (wipe σ vs) (clear δ vs) a) : qw B' σ3 δ2 a := by
 rcases h with h | ⟨j, ds, e1, e2⟩
 ·exact .inl h
 ·rcases qU e1 with z | ⟨n, _⟩
  ·cases z
  ·exact .inr ⟨j, ds, by rw [Tg.w6 hp hv n]; exact e1, by rw [Vq st hv n]; exact e2⟩
theorem Wr {g : TG} {tg : Tg} {src : RI} {t : RT} {r : RE} {vs : List Nat} {σ : St} {H : Hp} {Q : VK} (hv : tg.within vs) (h : TEx X E (zg tg src t r vs) σ H Q) :
  tLc (tI X E g tg src) g (TTx X E t) (TEx X E r) vs σ H Q := by
 obtain ⟨B, δ, R, h⟩ := h
 refine ⟨B, δ, R, ?_⟩
 refine qg.imp (qg.bind h) fun x h1 J H1 s1 W D0 hD => ?_
 obtain ⟨fl, xs⟩ := x
 have R1 := R.more s1
 have h0 : B.H0 D0 = none := R1.same.free hD
 have hDH : H D0 = none := s1.free hD
 have hP : (Bd B σ δ vs D0).P D0 := .inl rfl
 by_cases c : ¬ (xs.length < LIM)
 ·dsimp only at h1
  rw [if_neg c] at h1
  exact h1.elim
 have c := Decidable.of_not_not c
 dsimp only at h1
 rw [if_pos c] at h1
 have h1 := qg.bind h1
 refine ⟨fun i m H' => m = xs.length - i /\ i <= xs.length /\ Rl X.mg X.K (Bd B σ δ vs D0) H' (wipe σ vs) (clear δ vs) /\ qh H1 H' /\ ∃ acc ys, H' D0 = some (.lst acc) /\ VAs X.mg X.K (Bd B σ δ vs D0) (wipe σ vs) (clear δ vs) H' acc ys /\ ys.length <= i /\
  qg X.mg E H1 (items tg t r (clear δ vs) (xs.drop i)) fun zs => Fin X.mg X.K E B H σ δ (.ok (.lst ((ys ++ zs).map (·.1)), kL ((ys ++ zs).map (·.1)) (qi (ys ++ zs)))) Q, ⟨xs.length, by lia, Nat.zero_le _, R1.blk hD _, qE hD, [], [], qm, .nil, Nat.le_refl _, qg.more h1 s1⟩, ?_⟩
 rintro i m H2 ⟨rfl, hi, R2, s2, acc, ys, hacc, va, hys, h2⟩
 have kp : Kp fl B (Bd B σ δ vs D0) σ δ H1 (wipe σ vs) (clear δ vs) H2 := by
  refine ⟨rfl, fun b o e n => ⟨s2 b o e, fun z => ?_⟩, fun _ => s2⟩
  rcases ya.mp z with z | z
  ·rw [z, hD] at e
   cases e
  ·exact n z
 by_cases hlt : i < xs.length
 ·right
  have hx : xs[i]? = some xs[i] := List.getElem?_eq_getElem hlt
  rw [List.drop_eq_getElem_cons hlt] at h2
  unfold items at h2
  cases hp : tg.put xs[i] (clear δ vs) with
  | none => rw [hp] at h2; exact h2.elim
  | some δ2 =>
   rw [hp] at h2
   obtain ⟨go, yl⟩ := W.1 (Bd B σ δ vs D0) i xs[i] (wipe σ vs) (clear δ vs) δ2 H2 hx R2 kp hp
   refine ⟨go, fun H' => i + 1 <= xs.length /\ Rl X.mg X.K (Bd B σ δ vs D0) H' (wipe σ vs) (clear δ vs) /\ qh H1 H' /\ ∃ acc ys, H' D0 = some (.lst acc) /\ VAs X.mg X.K (Bd B σ δ vs D0) (wipe σ vs) (clear δ vs) H' acc ys /\ ys.length <= i + 1 /\
    qg X.mg E H1 (items tg t r (clear δ vs) (xs.drop (i + 1))) fun zs => Fin X.mg X.K E B H σ δ (.ok (.lst ((ys ++ zs).map (·.1)), kL ((ys ++ zs).map (·.1)) (qi (ys ++ zs)))) Q, fun H' q => ⟨xs.length - (i + 1), by lia, rfl, q.1, q.2⟩, fun v H3 hy => ?_⟩
   refine yl v H3 hy _ fun σ3 H4 R4 f4 s4 st4 => ⟨by rw [jQ st4 hv, Qs], ?_⟩
   refine ⟨Bd B σ δ vs D0, δ2, R4, ?_⟩
   have h2 := qg.bind h2
   refine qg.imp (qg.more h2 (s2.trans s4)) fun b h3 H5 s5 => ?_
   have s45 := s4.trans s5
   have R5 : Rl X.mg X.K (Bd B σ δ vs D0) H5 (wipe σ vs) (clear δ vs) := R2.more s45
   cases b with
   | false =>
    simp only [Bool.false_eq_true, if_false] at h3 ⊢
    exact ⟨hlt, R5, s2.trans s45, acc, ys, s45 _ _ hacc, va.to fun a _ o e => s45 a o e, by lia, h3⟩
   | true =>
    simp only [if_true] at h3 ⊢
    refine ⟨Bd B σ δ vs D0, δ2, R4.more s5, ?_⟩
    have h3 := qg.bind h3
    refine qg.imp (qg.more h3 (s2.trans s45)) fun y h4 w H6 s6 vw => ?_
    have s46 := s45.trans s6
    have hD6 : H6 D0 = some (.lst acc) := s46 _ _ hacc
    have hl := va.len
    refine ⟨acc, hD6, by have e : LIM = 16777216 := rfl; have e2 : (sizeLine : Nat) = 16777216 := rfl; lia, ?_⟩
    have R45 := R4.more s5
    have rw1 : Rp X.mg X.K (Gk (Bd B σ δ vs D0) (wipe σ vs) (clear δ vs) (y.2.low .nw)) H6 w y.1 := by
     have q := VR.low R45 .nw vw
     rw [VR.gk (low_ne _ _)] at q
     refine q.weak fun a g => ?_
     have nb : ¬ qw (Bd B σ δ vs D0) σ3 δ2 a -> ¬ qw (Bd B σ δ vs D0) (wipe σ vs) (clear δ vs) a := fun n z => n (V3 hp st4 hv z)
     revert g
     cases y.2.low .nw with
     | bo => exact fun g => g
     | sh => exact nb
     | nw => exact fun g => ⟨nb g.1, g.2⟩
     | fr => exact fun g => ⟨nb g.1, g.2⟩
    have keepD : ∀ a, ¬ (Bd B σ δ vs D0).P a -> ∀ o, H6 a = some o -> upd H6 D0 (.lst (acc ++ [w])) a = some o := fun a n o e => by
     rw [qd fun z => n (by rw [z]; exact hP)]
     exact e
    have va6 : VAs X.mg X.K (Bd B σ δ vs D0) (wipe σ vs) (clear δ vs) (upd H6 D0 (.lst (acc ++ [w]))) (acc ++ [w]) (ys ++ [y]) := (VAs.snoc (va.to fun a _ o e => s46 a o e) rw1).to keepD
    have s16 : qh H1 (upd H6 D0 (.lst (acc ++ [w]))) := fun b o e => by
     rw [qd (qu e hD)]
     exact s46 _ _ (s2 _ _ e)
    refine ⟨hlt, ((R2.more s46).made hP h0 _), s16, acc ++ [w], ys ++ [y], qm, va6, by rw [List.length_append]; exact Nat.add_le_add_right hys 1, ?_⟩
    have h5 := qg.bind h4
    cases hi2 : items tg t r (clear δ vs) (xs.drop (i + 1)) with
    | er c2 =>
     rw [hi2] at h5
     exact h5
    | no => rw [hi2] at h5; exact h5
    | ok zs =>
     rw [hi2] at h5
     have h6 : Fin X.mg X.K E B H σ δ (.ok (.lst ((ys ++ y :: zs).map (·.1)), kL ((ys ++ y :: zs).map (·.1)) (qi (ys ++ y :: zs)))) Q := h5
     show Fin X.mg X.K E B H σ δ (.ok (.lst (((ys ++ [y]) ++ zs).map (·.1)), kL (((ys ++ [y]) ++ zs).map (·.1)) (qi ((ys ++ [y]) ++ zs)))) Q
     rw [List.append_assoc]
     exact h6
 ·left
  have e : i = xs.length := by lia
  subst e
  rw [List.drop_length] at h2
  refine ⟨W.2 (Bd B σ δ vs D0) _ _ _ H2 (Nat.le_refl _) R2 kp, ?_⟩
  have h3 : Fin X.mg X.K E B H σ δ (.ok (.lst ((ys ++ ([] : List DK)).map (·.1)), kL ((ys ++ ([] : List DK)).map (·.1)) (qi (ys ++ ([] : List DK))))) Q := h2
  rw [List.append_nil] at h3
  refine h3 (.ref D0) H2 (s1.trans s2) ?_
  show VR _ _ _ _ _ _ _ (kL _ _) _ _
  unfold kL
  split
  ·rename_i cs
   exact ⟨D0, _, rfl, rfl, cs, hDH, by rw [hacc, va.sc cs]⟩
  ·rw [VR.gk (vE ys)]
   have n1 := R.fresh hDH
   have n2 := R.same.free hDH
   refine .lst ?_ (.of hacc) (va.kinds.weak fun a g => ?_)
   ·have n3 := vE ys
    cases hk : qi ys with
    | bo => exact fun z => n1 (.inl z)
    | sh => exact n1
    | nw => exact ⟨n1, n2⟩
    | fr => exact absurd hk n3
   ·have nb : ¬ qw (Bd B σ δ vs D0) (wipe σ vs) (clear δ vs) a -> ¬ qw B σ δ a := fun n z => n (ya.mpr (.inr z))
    revert g
    cases qi ys with
    | bo => exact fun g z => g (Xf R z)
    | sh => exact nb
    | nw => exact fun g => ⟨nb g.1, g.2⟩
    | fr => exact fun g => ⟨nb g.1, g.2⟩
theorem ub : PTs X [] (TTx X E yk) := fun pins s σ H Q I ⟨B, δ, R, h⟩ => VM pins s σ H Q I (h H qh.refl)
theorem jt {elt tgE iter : Expr} {ifs : List Expr} {scope : Scope} {own : List (Str × Nat)} {g : TG} {tg : Tg} {src : RI} {t : RT} {r : RE} {LF : Addr} (hc : X.calm = true) (hN : X.N.Nodup) (acc : Acc X E) (hst : X.stack = X.env :: X.outer) (hfr : X.env.frame = some LF)
  (hi : PI X tgE iter (tI X E g tg src)) (ok : Vz X.N X.env.scope scope own = true) (hv : tg.within (own.map (·.2)))
  (hg : ∀ (s : Shared) (H : Hp) (C : Addr) (cl : List (Str × Addr)) (fp : List Addr), PG (xC X E s H scope (compEnvC scope cl C X.env) fp) tgE g)
  (ht : ∀ (s : Shared) (H : Hp) (C : Addr) (cl : List (Str × Addr)) (fp : List Addr), PTs (xC X E s H scope (compEnvC scope cl C X.env) fp) ifs (TTx X E t))
  (he : ∀ (s : Shared) (H : Hp) (C : Addr) (cl : List (Str × Addr)) (fp : List Addr), PE (xC X E s H scope (compEnvC scope cl C X.env) fp) elt (TEx X E r)) (hs : ∀ x, foldedSetIterable iter X.env x = pure x := by intro _; rfl) :
  PE X (.ListComp elt [⟨tgE, iter, ifs, 0⟩] scope pos) (TEx X E (zg tg src t r (own.map (·.2)))) :=
 qL (Yh hc hN acc hst hfr hi (QP ok) hg ht he hs) fun _ _ _ h => Wr hv h
end
noncomputable abbrev zy (P : Program) (w : World) (K : PySem.W.Frag) (mg : Str -> Option Value) (base : Heap) (N : List Str) (qual : Str) (scope : Scope) (f : Addr) (cd : Value) (A : Around) (outer : List Env) (s : Shared) (H : Hp) (E : XK) : Cx :=
 (wg (CX1 P w) P w K mg base N qual scope f cd A outer s H E).wA (Arr (wg (CX1 P w) P w K mg base N qual scope f cd A outer s H E) E)
theorem jC {P : Program} {w : World} {K : PySem.W.Frag} {mg : Str -> Option Value} {base : Heap} {N : List Str} {qual : Str} {scope : Scope} {f : Addr} {cd : Value} {A : Around} {outer : List Env} {s : Shared} {H : Hp} {E : XK} (nd : N.Nodup) : Gd (zy P w K mg base N qual scope f cd A outer s H E) E :=
 ⟨rfl, nd, x8, jd (X := wg (CX1 P w) P w K mg base N qual scope f cd A outer s H E) rfl rfl⟩
noncomputable def sl0 (N : List Str) (ds : List D) : Dl := ds.map (fun d => Sl.val d false) ++ List.replicate (N.length - ds.length) .un
noncomputable def res : Out -> Rs (D × Bool)
 | .rt d k => .ok (d, k)
 | .nx _ => .ok (.non, false)
 | .er c => .er c
 | _ => .no
theorem rl0 {mg : Str -> Option Value} {K : PySem.W.Frag} {H : Hp} {N : List Str} {vs : List V} {ds : List D} (r : qc mg K (fun _ => True) H vs ds) : Rl mg K ⟨H, fun _ => False⟩ H (start N vs) (sl0 N ds) := by
 have get : ∀ {i : Nat} {s : Sl}, (sl0 N ds)[i]? = some s -> (∃ d, ds[i]? = some d /\ s = .val d false) \/ s = .un := fun {i s} e => by
  unfold sl0 at e
  by_cases h : i < ds.length
  ·rw [List.getElem?_append_left (by rw [List.length_map]; exact h), List.getElem?_map, List.getElem?_eq_getElem h] at e
   exact .inl ⟨ds[i], List.getElem?_eq_getElem h, (Option.some.inj e).symm⟩
  ·rw [List.getElem?_append_right (by rw [List.length_map]; lia)] at e
   right
   have := List.mem_of_getElem? e
   exact (List.mem_replicate.mp this).2
 have own : ∀ {p : Addr}, ¬ qw ⟨H, fun _ => False⟩ (start N vs) (sl0 N ds) p := fun {p} h => by
  rcases h with h | ⟨i, es, e, _⟩
  ·exact h
  ·rcases get e with ⟨d, _, z⟩ | z <;> cases z
 refine ⟨qh.refl, fun _ h => h.elim, ?_, fun i d k e => ?_, fun i es e => ?_, fun i j p es fs e _ _ _ => ?_⟩
 ·unfold start sl0
  rw [List.length_append, List.length_append, List.length_map, List.length_map, List.length_replicate, List.length_replicate, r.len]
 ·rcases get e with ⟨d', hd, z⟩ | z
  ·cases z
   obtain ⟨v, hv, rp⟩ := r.getD hd
   refine ⟨v, ?_, rp.weak fun a _ => ⟨own, fun z => nomatch z⟩⟩
   have hl : i < vs.length := (List.getElem?_eq_some_iff.mp hv).1
   unfold start
   rw [List.getElem?_append_left (by rw [List.length_map]; exact hl), List.getElem?_map, hv]
   rfl
  ·cases z
 ·rcases get e with ⟨d, _, z⟩ | z <;> cases z
 ·rcases get e with ⟨d, _, z⟩ | z <;> cases z
section
variable {P : Program} {w : World} {K : PySem.W.Frag} {mg : Str -> Option Value} {base : Heap}
theorem zX {X : Cx} {E : XK} {st : List Stmt} {t : TS} (h : PSs (X.wA (Arr X E)) st t) (acc : Acc X E) : PSs X st t := fun pins s σ H D I hw =>
 wpAny_mono (h pins s σ H D (I.wA _) hw) (fun _ _ q => q.vy) fun e s' a => acc e s' a
theorem YI {x : Str} {st : Stmt} {f : Addr} {fd : FuncData} {N ps : List Str} {k n : Nat} {g : Fn} {r : RS} (F : Fun K x x st f fd) (S : qv N ps (qa st)) (hm : mg x = some (.ref f)) (hb : Binds K fd ps []) (hn : ps.length = n)
  (body : ∀ (cdv : Value) (A : Around) (outer : List Env) (s : Shared) (H : Hp) (E : XK), vh k (A.deeper (envOfC x (qa st) s.heap.objs.size f cdv)) ->
   PSs (zy P w K mg base N x (qa st) f cdv A outer s H E) (qt st) (tS mg K E r))
  (hr : ∀ ds : List D, ds.length = n -> g ds = .no \/ res (r (sl0 N ds)) = g ds) : Fd P w K mg base (k + 1) x n g := by
 obtain ⟨oc, od, kV, doc, pm, an, cdv, ct, osl, rfl, lk, hcd⟩ := F.ex
 refine ⟨f, _, ps, jl lk hcd S ?_ fun A outer s H vs Q E hroom hsp => ?_, hm, F.kp, hb⟩
 ·rintro vs H Q E ⟨ds, hl, rp, _⟩
  rw [rp.len, hl, hn]
 ·obtain ⟨ds, hl, rp, h⟩ := hsp
  refine ⟨_, zX (body cdv A outer s H E hroom) xt, ⟨H, fun _ => False⟩, sl0 N ds, rl0 rp, ?_⟩
  rcases hr ds hl with e | e
  ·rw [e] at h
   exact h.elim
  ·rw [<- e] at h
   cases ho : r (sl0 N ds) with
   | rt d k => rw [ho] at h; exact fun v H' s rr => h v H' s rr
   | nx δ' => rw [ho] at h; exact fun σ' H' R _ => h .non H' R.same Rp.non
   | er c => rw [ho] at h; exact fun C H' e s => h C H' e s
   | bk δ' => rw [ho] at h; exact h.elim
   | ct δ' => rw [ho] at h; exact h.elim
   | no => rw [ho] at h; exact h.elim
end
end L2.Ir
namespace L2.Ir
open PySem PySem.Spec PyProof.Rows
open PySem.W (WData Codec OpenSpec Well WellAll ReadsW ReadsAllW)
noncomputable def jw (l : List (Str × Int)) (o : Rs (D × Bool)) : Option (List D) := match o with
 | .ok (.lst zs, true) => some (.int 0 :: zs)
 | .er c => (l.lookup c).map fun k => [.int (-k)]
 | _ => none
noncomputable def Q5 (mg : Str -> Option Value) (K : PySem.W.Frag) (n : Nat) (g : Fn) (l : List (Str × Int)) (P : Addr) : Sp := fun vs H Q _ => ∃ ds zs, ds.length = n /\ H P = some (.tbl #[]) /\ qc mg K (fun _ => True) H vs ds /\ jw l (g ds) = some zs /\ zs.length <= LIM /\
 ∀ H' p, H' p = some (.lst (zs.map toV)) -> Q (.ref p) H'
structure uO (mg : Str -> Option Value) (K : PySem.W.Frag) (l : List (Str × Int)) (la : List (Addr × Int)) : Prop where
 at_ : ∀ c C k, mg c = some (.ref C) -> l.lookup c = some k -> qx K C = true /\ la.lookup C = some k
theorem Wm {α β : Type} (f : α -> β) (xs : List α) : (xs.map f).length = xs.length := List.length_map f
theorem Zp {mg : Str -> Option Value} {K : PySem.W.Frag} {g : Fn} {r : RA} {l : List (Str × Int)} {la : List (Addr × Int)} {P : Addr} {n : Nat} {N : List Str} {vs : List V} {H : Hp} {Q : VK} {ds zs : List D} (Er : uO mg K l la) (hP : H P = some (.tbl #[])) (rp : qc mg K (fun _ => True) H vs ds)
  (ha : jw l (g ds) = some zs) (hz : zs.length <= LIM) (hQ : ∀ H' p, H' p = some (.lst (zs.map toV)) -> Q (.ref p) H') (hargs : ∃ ks, r (sl0 N ds) = .ok ks /\ ks.map (·.1) = ds) :
  Zr K la P (fun E => tE mg K E (qA g r)) (start N vs) H Q := by
 refine ⟨hP, fun more f => ?_⟩
 have rp' : qc mg K (fun _ => True) (upd H P (.tbl more)) vs ds := by
  refine qc.mono (G := fun a => H a ≠ some (.tbl #[])) (fun a g => ⟨trivial, fun o e => by rw [qd (fun z => g (by rw [z]; exact hP))]; exact e⟩) _ _ ?_
  have gen : (∀ (d : D) (v : V), Rp mg K (fun _ => True) H v d -> Rp mg K (fun a => H a ≠ some (.tbl #[])) H v d) := by
   intro d v h
   have ne : ∀ {a : Addr} {u : HO}, Rd H a u -> (∀ ps, u ≠ .tbl ps) -> H a ≠ some (.tbl #[]) := fun {a u} h n z => by
    rcases h with h | ⟨o, h⟩
    ·rw [z] at h; exact n _ (Option.some.inj h).symm
    ·rw [z] at h; cases h
   exact h.rec (motive_1 := fun v d _ => Rp mg K (fun a => H a ≠ some (.tbl #[])) H v d) (motive_2 := fun vs ds _ => qc mg K (fun a => H a ≠ some (.tbl #[])) H vs ds)
    .non (fun b => .bl b) (fun i => .int i) (fun e => .fn e) (fun _ s _ ih => .lst (ne s fun ps z => nomatch z) s ih) (fun s _ ih => .lstK s ih) (fun _ s _ ih => .tup (ne s fun ps z => nomatch z) s ih) (fun s _ ih => .tupK s ih) (fun _ m s l _ ih => .obj (by rw [s]; exact fun z => nomatch z) m s l ih) .nil fun _ _ ih1 ih2 => .cons ih1 ih2
  have all : ∀ {vs : List V} {ds : List D}, qc mg K (fun _ => True) H vs ds -> qc mg K (fun a => H a ≠ some (.tbl #[])) H vs ds := by
   intro vs ds h
   induction ds generalizing vs with
   | nil => cases h; exact .nil
   | cons d ds ih => cases h with | cons a b => exact .cons (gen _ _ a) (ih b)
  exact all rp
 refine ⟨⟨upd H P (.tbl more), fun _ => False⟩, sl0 N ds, rl0 rp', ?_⟩
 obtain ⟨ks, e1, e2⟩ := hargs
 unfold qA
 rw [e1]
 show Fin _ _ _ _ _ _ _ ((g (ks.map (·.1))).bind _) _
 rw [e2]
 cases hg : g ds with
 | no => rw [hg] at ha; cases ha
 | er c =>
  rw [hg] at ha
  have ha : (l.lookup c).map (fun k => [D.int (-k)]) = some zs := ha
  cases hl : l.lookup c with
  | none => rw [hl] at ha; cases ha
  | some k =>
   rw [hl] at ha
   cases ha
   intro C H' hC s
   obtain ⟨h1, h2⟩ := Er.at_ c C k hC hl
   exact ⟨C, k, rfl, h1, h2, fun p hp => hQ _ p (by rw [qm]; rfl)⟩
 | ok y =>
  rw [hg] at ha
  obtain ⟨d, b⟩ := y
  cases b with
  | false => cases d <;> cases ha
  | true =>
   cases d with
   | lst ws =>
    cases ha
    intro v H' s vr
    obtain ⟨p, es, rfl, e, c, h1, h2⟩ := vr
    cases e
    refine QF ⟨p, _, rfl, h2, ?_, fun q hq p' hp' => hQ _ p' ?_⟩
    ·rw [Wm]
     have e : (sizeLine : Nat) = LIM := rfl
     rw [e]
     exact hz
    ·rw [qm]
     rfl
   | _ => cases ha
mutual
noncomputable def ofW : WData -> D
 | .none => .non
 | .bool b => .bl b
 | .int i => .int i
 | .list xs => .lst (xn xs)
 | .tuple xs => .tup (xn xs)
 | _ => .non
noncomputable def xn : List WData -> List D
 | [] => []
 | x :: r => ofW x :: xn r
/-- numbers, truth values, lists and tuples of them -/
noncomputable def plD : WData -> Bool
 | .none => true
 | .bool _ => true
 | .int _ => true
 | .list xs => yK xs
 | .tuple xs => yK xs
 | _ => false
noncomputable def yK : List WData -> Bool
 | [] => true
 | x :: r => plD x && yK r
end
mutual
theorem Yq {mg : Str -> Option Value} {K : PySem.W.Frag} {H : Hp} : ∀ (d : WData) (v : V), plD d = true -> Dw K H v d -> Rp mg K (fun _ => True) H v (ofW d)
 | .none, _, _, h => by cases h; exact .non
 | .bool b, _, _, h => by cases h; exact .bl b
 | .int i, _, _, h => by cases h; exact .int i
 | .list xs, _, p, h => by cases h with | lst s a => exact Rp.ofL s (fun _ => trivial) (yj xs _ p a)
 | .tuple xs, _, p, h => by
  cases h with
  | tup s a =>
   rcases s with s | s
   ·exact .tup trivial s (yj xs _ p a)
   ·exact .tupK (fun _ => .inr s) (yj xs _ p a)
 | .str _, _, p, _ => nomatch p
 | .bytes _, _, p, _ => nomatch p
 | .float _, _, p, _ => nomatch p
 | .dict _, _, p, _ => nomatch p
 | .bytearray _, _, p, _ => nomatch p
 | .set _, _, p, _ => nomatch p
 | .frozenset _, _, p, _ => nomatch p
 | .obj _ _, _, p, _ => nomatch p
theorem yj {mg : Str -> Option Value} {K : PySem.W.Frag} {H : Hp} : ∀ (ds : List WData) (vs : List V), yK ds = true -> vj K H vs ds -> qc mg K (fun _ => True) H vs (xn ds)
 | [], _, _, h => by cases h; exact .nil
 | d :: ds, _, p, h => by
  cases h with
  | cons a b =>
   have q : plD d = true /\ yK ds = true := Bool.and_eq_true_iff.mp p
   exact .cons (Yq d _ q.1 a) (yj ds _ q.2 b)
end
theorem zq : ∀ ns : List Int, xn (ns.map WData.int) = ns.map D.int
 | [] => rfl
 | n :: r => by show D.int n :: xn (r.map WData.int) = _; rw [zq r]; rfl
theorem zo : ∀ ns : List Int, yK (ns.map WData.int) = true
 | [] => rfl
 | n :: r => by show (true && yK (r.map WData.int)) = true; rw [zo r]; rfl
mutual
theorem Dw.same {K : PySem.W.Frag} {H H' : Hp} (s : qh H H') : ∀ (d : WData) (v : V), Dw K H v d -> Dw K H' v d
 | .none, _, h => by cases h; exact .non
 | .bool b, _, h => by cases h; exact .bl b
 | .int i, _, h => by cases h; exact .int i
 | .str x, _, h => by cases h; exact .str x
 | .bytes b, _, h => by
  cases h with
  | byt b => exact .byt b
 | .list xs, _, h => by cases h with | lst q a => exact .lst (s.seq q) (vj.same s xs _ a)
 | .tuple xs, _, h => by
  cases h with
  | tup q a =>
   refine .tup ?_ (vj.same s xs _ a)
   rcases q with (q | ⟨o, q⟩) | q
   ·exact .inl (.inl (s _ _ q))
   ·exact .inl (.inr ⟨o, s _ _ q⟩)
   ·exact .inr q
 | .float _, _, h => by cases h
 | .dict _, _, h => by cases h
 | .bytearray _, _, h => by cases h
 | .set _, _, h => by cases h
 | .frozenset _, _, h => by cases h
 | .obj _ _, _, h => by cases h
theorem vj.same {K : PySem.W.Frag} {H H' : Hp} (s : qh H H') : ∀ (ds : List WData) (vs : List V), vj K H vs ds -> vj K H' vs ds
 | [], _, h => by cases h; exact .nil
 | d :: ds, _, h => by cases h with | cons a b => exact .cons (Dw.same s d _ a) (vj.same s ds _ b)
end
theorem Vt {P : Program} {w : World} {K : PySem.W.Frag} {mg mb : Str -> Option Value} {k : Nat} {fa c PT : Addr} {fd : FuncData} {ps : List Str} {sp : Sp} {s₁ : Shared} {vals : List Value} {ds : List WData} {R : PySem.W.WRecords} {cl : Str -> Option Addr} {d0 : WData}
  (KX : K.In s₁.heap) (hno : PySem.W.noTabs K = true) (hns : s₁.heap.Ns mainGlobals mg) (hb : s₁.heap.Ns builtinsNs mb) (hbb : ∀ x : Str, x ≠ "__name__" -> mb x = bootBuiltins x) (hlim : s₁.heap.NoLimit) (hg : s₁.gens = #[])
  (hc : PySem.W.CodeHd s₁.heap c PT) (htab : s₁.heap.get? PT = some (PySem.W.tabObj #[])) (hbm : ∃ bm ob, mg "__builtins__" = some (.ref bm) /\ bm ≠ builtinsNs /\ s₁.heap.get? bm = some ob /\ ob.cls = .type "module" /\ ob.dict = some builtinsNs /\ ob.data = .plain)
  (hwl : WellAll w.params s₁.heap vals ds) (hpl : zD ds = true) (hwt : ∀ d ∈ ds, d.weight <= 1048576) (hr : vh k callerA)
  (F : ∀ base : Heap, K.In base -> base.Ns mainGlobals mg -> wc mg base c PT -> zu P w K mg base (CX1 P w) k fa fd ps sp) (hbind : ∀ (s : Shared) (us : List Value), us.length = ps.length -> BindsTo s fd ⟨us, []⟩ (ps.zip us)) (hlen : ds.length = ps.length)
  (hsp : ∀ (H : Hp) (xs : List V), H PT = some (.tbl #[]) -> vj K H xs ds -> sp xs H (fun v H' => Dw K H' v d0) fun _ _ _ => False) :
  codeAny (model P w) callerA (.call (.ref fa) ⟨vals, []⟩) (fun r s' => ∃ u as, r = .ok (.ret u) /\ ReadsW R cl s'.heap u d0 as /\ OldK s₁.heap s'.heap /\ s'.os = s₁.os /\ AllBare s'.gens) s₁ := by
 obtain ⟨A, ho, ar⟩ := zh ds vals hwl hpl hwt
 have hO : WU (wa K s₁.heap A) := jU ar
 have hok0 : HOk P w (wa K s₁.heap A) s₁.heap := Wz ar
 have hS0 := xJ KX ar ds vals hwl hpl ho
 have hV := vX ho
 have hK0 : ∀ b u, wa K s₁.heap A b = some u -> K.lookup b = none := fun b u q => (zL ar q).1
 -- what is tracked is a list or a tuple
 have seqs : ∀ {b : Addr} {o : Obj}, s₁.heap.get? b = some o -> (∀ vs n, o.data ≠ .seq vs n) -> wa K s₁.heap A b = none := fun {b o} e d => by
  cases q : wa K s₁.heap A b with
  | none => rfl
  | some u =>
   obtain ⟨_, vs, _, _, ⟨e2, _⟩ | ⟨e2, _⟩⟩ := zL ar q
   ·rw [e2] at e
    cases e
    exact absurd rfl (d vs.toArray _)
   ·rw [e2] at e
    cases e
    exact absurd rfl (d vs.toArray _)
 generalize wa K s₁.heap A = H0 at hO hok0 hS0 hK0 seqs
 have hP0 : H0 PT = none := seqs htab fun vs n z => nomatch z
 have sameH : qh H0 (upd H0 PT (.tbl #[])) := qE hP0
 have hok : HOk P w (upd H0 PT (.tbl #[])) s₁.heap := fun b u q => by
  by_cases hb : b = PT
  ·subst hb
   rw [qm] at q
   cases q
   exact htab
  ·rw [qd hb] at q
   exact (hok0 b u q).yN (fun _ _ _ q => q) (fun c q => sameH _ _ q) fun c xs q => sameH _ _ q
 have hS := vj.same sameH ds _ hS0
 have nPK : K.lookup PT = none := by
  cases q : K.lookup PT with
  | none => rfl
  | some o =>
   have e := KX PT o q
   rw [htab] at e
   cases e
   have h2 := List.all_eq_true.mp hno (PT, _) (PySem.W.mem_of_lookupK q)
   exact absurd (show false = true from h2) Bool.false_ne_true
 have hK : ∀ b u, (upd H0 PT (.tbl #[])) b = some u -> K.lookup b = none := fun b u q => by
  by_cases hb : b = PT
  ·rw [hb]; exact nPK
  ·rw [qd hb] at q; exact hK0 b u q
 have noS : ∀ {b : Addr} {o : Obj}, s₁.heap.get? b = some o -> (∀ vs n, o.data ≠ .seq vs n) -> (∀ vs, o.data ≠ .fields vs \/ o.cls ≠ .none) -> (upd H0 PT (.tbl #[])) b = none := fun {b o} e d d2 => by
  rw [qd]
  ·exact seqs e d
  ·intro z
   rw [z, htab] at e
   cases e
   rcases d2 #[] with q | q <;> exact q rfl
 generalize hH : upd H0 PT (.tbl #[]) = H at hok hS hK noS
 have hPH : H PT = some (.tbl #[]) := by rw [<- hH]; exact qm
 have base_of : ∀ {b : Addr} {o : Obj}, s₁.heap.get? b = some o -> H b = none -> (yO s₁.heap H).get? b = some o := fun e n => Vy e n
 have nsK : ∀ {b : Addr} {m : Str -> Option Value}, s₁.heap.Ns b m -> (yO s₁.heap H).Ns b m := fun {b m} ⟨o, es, ep, e, d, r⟩ => ⟨o, es, ep, base_of e (noS e (fun vs n z => by rw [d] at z; cases z) fun vs => .inl fun z => by rw [d] at z; cases z), d, r⟩
 have nK : ∀ b o, K.lookup b = some o -> H b = none := fun b o e => by
  cases q : H b with
  | none => rfl
  | some u =>
   rw [hK b u q] at e
   cases e
 have hKb : K.In (yO s₁.heap H) := fun b o e => base_of (KX b o e) (nK b o e)
 have hM : Mod K mg (yO s₁.heap H) := ⟨hKb, nsK hns, ⟨mb, nsK hb, hbb⟩, let ⟨mc, h1, h2⟩ := hlim; ⟨mc, nsK h1, h2⟩⟩
 have e0 : uL P w K mg (yO s₁.heap H) callerA [] s₁ H := ⟨rfl, hM, fun b o e => VU e, Nat.le_of_eq (jW _ _), trivial, fun b hb => absurd (show b ∈ ([] : List Addr) from hb) (by simp), hok, .of_eq hg⟩
 have hl : vals.length = ps.length := by rw [vL hwl]; exact hlen
 have BL : wc mg (yO s₁.heap H) c PT := by
  refine ⟨?_, ?_⟩
  ·obtain ⟨o, vs, file, tf, flags, tg, inF, text, tt, e1, e2, e3, r⟩ := hc
   exact ⟨o, vs, file, tf, flags, tg, inF, text, tt, base_of e1 (noS e1 (fun vs n z => by rw [e3] at z; cases z) fun vs => .inr fun z => by rw [e2] at z; cases z), e2, e3, r⟩
  ·obtain ⟨bm, ob, b1, b2, b3, b4, b5, b6⟩ := hbm
   exact ⟨bm, ob, b1, b2, base_of b3 (noS b3 (fun vs n z => by rw [b6] at z; cases z) fun vs => .inl fun z => by rw [b6] at z; cases z), b4, b5, b6⟩
 refine codeAny_mono ((F _ hKb (nsK hns) BL).run callerA [] s₁ H ⟨vals, []⟩ vals (vals.map L2.toV) _ _ hr e0 (hbind s₁ vals hl) hV (hsp H _ hPH hS)) fun r s' x => ?_
 cases r with
 | error e =>
  obtain ⟨_, _, _, _, _, _, _, _, _, _, _, q⟩ := x
  exact q.elim
 | ok fl =>
  cases fl with
  | next => exact False.elim x
  | brk => exact False.elim x
  | cont => exact False.elim x
  | ret u =>
   obtain ⟨v, H', os, bare, un, hok', r', q⟩ := x
   have kept : ∀ b o, b ≠ PT -> s₁.heap.get? b = some o -> s'.heap.get? b = some o := fun b o hb e => by
    cases q2 : H b with
    | none => exact un.keep b o e q2 (by intro z; exact absurd (show b ∈ ([] : List Addr) from z) (by simp)) (by simp)
    | some u2 =>
     have q3 := q2
     rw [<- hH, qd hb] at q3
     rcases hO b with z | ⟨ob, u3, z⟩
     ·rw [q3] at z
      cases z
     ·rw [q3] at z
      cases z
      have z2 := un.frzs b ob _ q2
      obtain ⟨e1, _⟩ := hok b _ q2
      obtain ⟨e2, _⟩ := hok' b _ z2
      rw [e] at e1
      cases e1
      exact e2
   obtain ⟨more, hm⟩ := un.tbls PT #[] hPH
   have tab' : s'.heap.get? PT = some { cls := .none, data := .fields (#[] ++ more) } := hok' PT _ hm
   have KX' : K.In s'.heap := fun b o e => kept b o (fun z => by rw [z, nPK] at e; cases e) (KX b o e)
   obtain ⟨as, hrd⟩ := Dw.reads (R := R) (cl := cl) hok' KX' d0 v u q r'
   refine ⟨u, as, rfl, hrd, ⟨fun b o e => ?_, fun b o e => ?_⟩, os, bare⟩
   ·by_cases hb : b = PT
    ·subst hb
     rw [htab] at e
     cases e
     exact .inr (.inl ⟨(hc.tab htab).isCodeTable, rfl, #[], more, rfl, tab'⟩)
    ·exact .inl (kept b o hb e)
   ·by_cases hb : b = PT
    ·subst hb
     exact ⟨_, tab'⟩
    ·exact ⟨o, kept b o hb e⟩
theorem VB {r : OpenSpec} {k : Nat} {q : Program} {loose : List Str} {XP : (Str -> Option Value) -> Heap -> Prop} {YP : World -> Heap -> Prop} {d : DefRec} {K : Params -> PySem.W.Frag} {ps : List Str} {sp : PySem.W.Frag -> (Str -> Option Value) -> Addr -> Sp} {c PT : Params -> Addr}
  (hwell : r.wellSaid = true) (hlen : r.args.length = ps.length) (hr : vh k callerA)
  (hY : ∀ (w : World) (h : Heap), YP w h -> (K w.params).In h) (hno : ∀ p, PySem.W.noTabs (K p) = true) (htab : ∀ p, PySem.W.tabIn (K p) d.name = some (c p, PT p)) (hrec : (PyProof.Rows.recsOf q).find? (fun e => e.name == d.name) = some d)
  (F : ∀ (w : World) (mg : Str -> Option Value) (fa : Addr) (h : Heap), YP w h -> (K w.params).In h -> h.Ns mainGlobals mg -> mg d.name = some (.ref fa) ->
   ∃ fd : FuncData, (∀ (s : Shared) (us : List Value), us.length = ps.length -> BindsTo s fd ⟨us, []⟩ (ps.zip us)) /\
    ∀ base : Heap, (K w.params).In base -> base.Ns mainGlobals mg -> wc mg base (c w.params) (PT w.params) -> zu r.prog w (K w.params) mg base (CX1 r.prog w) k fa fd ps (sp (K w.params) mg (PT w.params)))
  (hsp : ∀ (K : PySem.W.Frag) (mg : Str -> Option Value) (PT : Addr) (H : Hp) (xs : List V) (a : Codec.denoteAll r.args), H PT = some (.tbl #[]) -> Codec.withinAll r.args a = true -> Codec.app r.args r.asked a = true -> vj K H xs (Codec.encAll r.args a) ->
   sp K mg PT xs H (fun v H' => Dw K H' v (r.ret.enc (Codec.app r.args r.f a))) fun _ _ _ => False) :
  PySem.W.WalkOS q loose XP YP r d [] (fun f vs => PySem.call f vs) := by
 intro w s_0 s₁ mg mb G Y fa o pm cd doc dV kV ho hd hcd hD hmg hg args vals as hpre hlay hrd hwl hlo
 obtain ⟨a, e1, e2⟩ := PySem.W.os_pre_some hpre
 obtain ⟨e3, hwi⟩ := Codec.encAll_of_decAll r.args args a e1
 subst e3
 have KX := hY w _ Y
 obtain ⟨fd, hb, hF⟩ := F w mg fa _ Y KX G.T.g hmg
 obtain ⟨hc, ht⟩ := PySem.W.tab_of G.T KX hrec (htab w.params)
 refine PySem.W.enter_call (codeAny_mono (Vt (R := []) (cl := classAt s_0.heap) (d0 := r.ret.enc (Codec.app r.args r.f a)) KX (hno _) G.T.g G.T.b G.T.builtins G.T.nolimit hg hc ht G.T.bmain hwl (yX _ _) (yu hlay) hr hF hb (by rw [z6]; exact hlen)
  (fun H xs hP hS => hsp (K w.params) mg _ H xs a hP hwi e2 hS)) fun r' s' hq => ?_)
 obtain ⟨u, as', rfl, h1, h2, h3, h4⟩ := hq
 exact ⟨.inl ⟨u, _, as', rfl, fun _ => rfl, h1, (OpenSpec.post_iff hwell hwi _ _).mpr rfl, fun z => Bool.noConfusion (show false = true from z)⟩, h2, h3, h4⟩
theorem QS {K : PySem.W.Frag} {x : Str} {c PT f : Addr} {oc : Value} {od : Option Addr} {fd : FuncData} {osl : Array (Option Value)} (h : PySem.W.tabIn K x = some (c, PT)) (hn : PySem.W.nsIn K mainGlobals x = some (some (.ref f))) (lk : K.lookup f = some ⟨oc, od, .func fd, osl⟩) : fd.code = .ref c := by
 unfold PySem.W.tabIn at h
 rw [hn] at h
 dsimp only at h
 rw [lk] at h
 dsimp only at h
 split at h
 ·rename_i c' e
  split at h
  ·split at h
   ·cases h
    exact e
   ·cases h
  ·cases h
 ·cases h
structure W0 (P : Program) (w : World) (K : PySem.W.Frag) (mg : Str -> Option Value) (base : Heap) (st2 : Stmt) (la : List (Addr × Int)) : Prop where
 ex : ∃ (f2 : Addr) (oc : Value) (od : Option Addr) (kV doc pm : Value) (an : Option Addr) (cdv ct : Value) (osl : Array (Option Value)) (h0 : ExceptHandler) (hs : List ExceptHandler) (q1 q2 q3 q4 q5 q6 q7 q8 q9 q10 : Pos) (j : Nat),
  K.lookup f2 = some ⟨oc, od, .func (PySem.W.fnOf "answered" "answered" (qD st2) (qt st2) (qa st2) .none kV doc pm an cdv ct), osl⟩ /\ PySem.W.codeIn K cdv "answered" = true /\ PySem.W.keepIn K (.ref f2) = true /\ mg "answered" = some (.ref f2) /\
  qt st2 = xl (h0 :: hs) q1 q2 q3 q4 q5 q6 q7 q8 q9 q10 j /\ qv ["work", "told"] ["work"] (qa st2) /\ (qa st2).names.lookup ("work" : Str) = some .local /\ (qa st2).names.lookup ("told" : Str) = some .local /\
  (∀ (s : Shared) (u : Value), BindsTo s (PySem.W.fnOf "answered" "answered" (qD st2) (qt st2) (qa st2) .none kV doc pm an cdv ct) ⟨[u], []⟩ ((["work"] : List Str).zip [u])) /\
  ∀ (A : Around) (outer : List Env) (s : Shared) (H : Hp) (E : XK), Hs (wg (CX1 P w) P w K mg base ["work", "told"] "answered" (qa st2) f2 cdv A outer s H E) (h0 :: hs) la
section
variable {P : Program} {w : World} {K : PySem.W.Frag} {mg : Str -> Option Value} {base : Heap}
theorem Zl {x : Str} {st st2 : Stmt} {f c PT : Addr} {fd : FuncData} {ps : List Str} {k n : Nat} {g : Fn} {r : RA} {l : List (Str × Int)} {la : List (Addr × Int)} {p pos rpos lpos : Pos} {params : Arguments} {body : Expr} {ls : Scope}
  (F : Fun K x x st f fd) (S : qv ps ps (qa st)) (hn : ps.length = n) (htab : PySem.W.tabIn K x = some (c, PT)) (hns : PySem.W.nsIn K mainGlobals x = some (some (.ref f))) (BL : wc mg base c PT) (A2 : W0 P w K mg base st2 la) (Er : uO mg K l la)
  (hbody : qt st = [.Return (some (.Call (.Name "answered" p) [.Lambda params body ls lpos] [] pos)) rpos]) (L : zl (qa st) ls) (hgl : (qa st).names.lookup ("answered" : Str) = some .globalImplicit) (hdef : ∀ env : Env, defaultsOf params env = ([], []))
  (hbind : ∀ (q : Str) (c' : Addr) (clos : List (Str × Addr)) (pm ctv : Value), bindArgs (PySem.W.kla_fn "<lambda>" q params body ls clos pm (.ref c') ctv) ⟨[], []⟩ = pure [])
  (hcall : ∀ (cdv : Value) (A : Around) (outer : List Env) (s0 : Shared) (H0 : Hp) (E0 : XK) (Y : Cx) (q : Str) (f' : Addr) (cd : Value) (s : Shared) (H : Hp) (E' : XK), vh k (Y.A.deeper (wL (wg (CX1 P w) P w K mg base ps x (qa st) f cdv A outer s0 H0 E0) q ls f' cd s)) ->
   PE (yg (wg (CX1 P w) P w K mg base ps x (qa st) f cdv A outer s0 H0 E0) Y q ls f' cd s H E') body (tE mg K E' (qA g r)))
  (hargs : ∀ ds : List D, ds.length = n -> ∃ ks, r (sl0 ps ds) = .ok ks /\ ks.map (·.1) = ds) : zu P w K mg base (CX1 P w) (k + 3) f fd ps (Q5 mg K n g l PT) := by
 obtain ⟨oc, od, kV, doc, pm, an, cdv, ct, osl, rfl, lk, hcd⟩ := F.ex
 have hc : cdv = .ref c := QS htab hns lk
 refine jl lk hcd S ?_ fun A outer s H vs Q E hroom hsp => ?_
 ·rintro vs H Q E ⟨ds, zs, hl, _, rp, _⟩
  rw [rp.len, hl, hn]
 ·obtain ⟨ds, zs, hl, hP, rp, ha, hz, hQ⟩ := hsp
  obtain ⟨f2, oc2, od2, kV2, doc2, pm2, an2, cdv2, ct2, osl2, h0, hs, q1, q2, q3, q4, q5, q6, q7, q8, q9, q10, j, lk2, hcd2, hk2, hm2, hb2, S2, hw2, ht2, bi2, hH2⟩ := A2.ex
  rw [hbody]
  rw [hb2] at lk2 bi2
  refine ⟨ZF (Zr K la PT fun E' => tE mg K E' (qA g r)), wG (zY ?_), ?_⟩
  ·have q := uF (X := wg (CX1 P w) P w K mg base ps x (qa st) f cdv A outer s H E) (c := c) (P := PT) (f2 := f2) (k := k) (E := E) (l := la) (tb := fun E' => tE mg K E' (qA g r)) (pos := pos) (p := p) (lpos := lpos) (params := params) (body := body) (ls := ls)
    BL hc (fun _ => rfl) rfl L (hdef _) hroom hgl hm2 hk2 lk2 hcd2 S2 hw2 ht2 (fun s u => bi2 s u) (fun s H => hH2 _ _ s H E) (fun c' clos pm ctv => hbind _ c' clos pm ctv) xt (fun Y f' cd s' H' E' hr' => hcall _ _ _ _ _ _ Y _ f' cd s' H' E' hr')
   exact q
  ·exact Zp (N := ps) (n := n) Er hP rp ha hz hQ (hargs ds hl)
end
section
variable {X : Cx} {E : XK} {pos : Pos}
theorem xv (i : Nat) {x : Str} (hN : X.N[i]? = some x := by rfl) (hv : Vis X.env.scope x := by first | exact Or.inl rfl | exact Or.inr (Or.inl rfl) | exact Or.inr (Or.inr rfl)) (hd : (x == ("__debug__" : Str)) = false := by decide)
  (hcd : (x == ("__classdict__" : Str)) = false := by decide) : PE X (.Name x pos) (TEx X E (qe i)) := Ye hN hv hd hcd
theorem Y4 (i : Nat) {x : Str} {e : Expr} {r : RE} {pos' : Pos} (g : Gd X E) (he : PE X e (TEx X E r)) (hi : X.N[i]? = some x := by rfl) (hx : Loc X.env.scope x := by first | exact Or.inl rfl | exact Or.inr rfl) (hs : swapsWith e (some (.Name x pos')) pos.line X.env = pure false := by rfl)
  (hf : X.fn x = true \/ X.env.scope.names.lookup x = some .local := by first | exact .inl rfl | exact .inr rfl) : PS X (.Assign [.Name x pos'] e pos) (TSx X E (uP i r)) := Zx g hi hx he hs hf
theorem pgn (i : Nat) {x : Str} (hN : X.N.Nodup) (hi : X.N[i]? = some x := by rfl) (hx : Loc X.env.scope x := by first | exact Or.inl rfl | exact Or.inr rfl) (hf : X.fn x = true \/ X.env.scope.names.lookup x = some .local := by first | exact .inl rfl | exact .inr rfl) : PG X (.Name x pos) (vp i) := VS hN hi hx hf
theorem pg2 {i j : Nat} {a b : Expr} {k : Nat} (hc : X.calm = true) (ha : PG X a (vp i)) (hb : PG X b (vp j)) (hn : (assignEach [a, b] X.env).length = 2 := by rfl) (h1 : (assignEach [a, b] X.env).map (·.2) = assign a X.env :: (assignEach [b] X.env).map (·.2) := by rfl)
  (h2 : (assignEach [b] X.env).map (·.2) = assign b X.env :: (assignEach [] X.env).map (·.2) := by rfl) (hst : (assignEach [a, b] X.env).findIdx? (·.1) = none := by rfl) : PG X (.Tuple [a, b] k pos) (WQ X.K 2 (z8 (vp i) (z8 (vp j) VN))) := Zm hc (uu ha (uu hb VO h2) h1) hn hst
theorem ju {tgE : Expr} {x : Str} {p : Pos} {body : List Stmt} {g : TG} {tg : Tg} {i : Nat} {rb : RS} (G : Gd X E) (hi : PI X tgE (.Name x p) (tI X E g tg (iOf (qe i)))) (hg : PG X tgE g) (hb : PSs X body (TSx X E rb)) : PS X (.For tgE (.Name x p) body [] pos) (TSx X E (yR tg i rb)) := by
 refine qV (Qy G hi hg hb) fun D σ H ⟨B, δ, R, h⟩ => ?_
 unfold yR at h
 cases hδ : δ[i]? with
 | none => rw [hδ] at h; exact ⟨B, δ, R, h⟩
 | some s =>
  rw [hδ] at h
  cases s with
  | own ds =>
   have q := R.Xb hδ
   exact ⟨B, _, q.1, wb.later h q.2⟩
  | un => exact ⟨B, δ, R, h⟩
  | val d k => exact ⟨B, δ, R, h⟩
end
end L2.Ir
set_option exponentiation.threshold 4000
namespace Dm
noncomputable def sz (x : Nat) : Nat := x % 2 ^ 63
theorem uy (x : Nat) : Pv.exponent x = sz x / 2 ^ 52 := by
 unfold Pv.exponent sz
 omega
theorem uX (x : Nat) : Pv.isFinite x = decide (sz x < 9218868437227405312) := by
 unfold Pv.isFinite
 rw [uy]
 have : sz x < 2 ^ 63 := by unfold sz; lia
 by_cases h : sz x < 9218868437227405312
 ·rw [decide_eq_true h]
  have : sz x / 2 ^ 52 < 2047 := by lia
  simp only [bne_iff_ne, ne_eq]
  lia
 ·rw [decide_eq_false h]
  have : sz x / 2 ^ 52 = 2047 := by lia
  rw [this]
  rfl
end Dm
set_option maxHeartbeats 2000000
namespace Dt
open PySem L2 L2.Ir
open Classical in
noncomputable def fn1 (P : Int -> Prop) (h : Int -> Rs (D × Bool)) : Fn
 | [.int x] => if P x then h x else .no
 | _ => .no
theorem xN {P : Int -> Prop} {h : Int -> Rs (D × Bool)} {x : Int} (p : P x) : fn1 P h [.int x] = h x := by unfold fn1; exact if_pos p
theorem Vn {P : Int -> Prop} {h : Int -> Rs (D × Bool)} {r : RS} {N : List Str} (q : ∀ x, P x -> res (r (sl0 N [.int x])) = h x) : ∀ ds : List D, ds.length = 1 -> fn1 P h ds = .no \/ res (r (sl0 N ds)) = fn1 P h ds := by
 intro ds hl
 match ds, hl with
 | [.int x], _ =>
  by_cases p : P x
  ·right; rw [xN p]; exact q x p
  ·left; unfold fn1; exact if_neg p
 | [.non], _ => exact .inl rfl
 | [.bl _], _ => exact .inl rfl
 | [.lst _], _ => exact .inl rfl
 | [.tup _], _ => exact .inl rfl
 | [.fn _], _ => exact .inl rfl
 | [.obj _ _ _], _ => exact .inl rfl
noncomputable def U64 (x : Int) : Prop := 0 <= x /\ x < 18446744073709551616
noncomputable instance (x : Int) : Decidable (U64 x) := inferInstanceAs (Decidable (0 <= x /\ x < 18446744073709551616))
noncomputable def Fi (x : Int) : Prop := U64 x /\ x % 9223372036854775808 < 9218868437227405312
noncomputable instance (x : Int) : Decidable (Fi x) := inferInstanceAs (Decidable (U64 x /\ x % 9223372036854775808 < 9218868437227405312))
noncomputable def iv (i : Int) : Rs (D × Bool) := .ok (.int i, false)
noncomputable def bv (b : Bool) : Rs (D × Bool) := .ok (.bl b, false)
noncomputable def vD : Fn := fn1 U64 fun x => iv (x % 9223372036854775808)
noncomputable def qO : Fn := fn1 U64 fun x => bv (decide (x % 9223372036854775808 < 9218868437227405312))
noncomputable def yP : List D -> Option (List Nat)
 | [] => some []
 | .lst l :: r => (yP r).map (l.length :: ·)
 | _ => none
noncomputable def qp : Fn
 | [.lst ss, .lst ls, .lst cs] => match intsOf ss, yP ls, intsOf cs with
  | some ns, some ks, some ms => if (ns.all fun n => decide (1 <= n /\ n <= 16)) = true /\ ((ks.zip ms).all fun p => decide ((p.1 : Int) = p.2)) = true then .ok (.non, false) else .er "WrongCount"
  | _, _, _ => .no
 | _ => .no
noncomputable def qk : Fn
 | [.lst xs] => match intsOf xs with
  | some ns => if ∀ n ∈ ns, U64 n then (if ∀ n ∈ ns, Fi n then .ok (.non, false) else .er "NotFinite") else .no
  | none => .no
 | _ => .no
noncomputable def qy : Fn
 | [.lst xs] => if xs.all D.sc = true /\ xs.length < LIM then .ok (.lst (.int xs.length :: xs), true) else .no
 | _ => .no
noncomputable def vf (a : PvCalls.Answer) : Rs (D × Bool) := match a with
 | .refused z => if z = -1 then .er "WrongCount" else if z = -2 then .er "NotFinite" else if z = -3 then .er "StepNotFinite" else if z = -4 then .er "NotAsTold" else .no
 | a => .ok (.lst ((TableNeutral.told a).tail.map D.int), true)
noncomputable abbrev wM (ns : List Int) : Prop := ∀ n ∈ ns, U64 n
noncomputable def nats (ns : List Int) : List Nat := ns.map Int.toNat
noncomputable def wC : RS := (vT (qJ (Yf Builtin.bitAnd) (qe 0) (qJ W6 (rC (.int (9223372036854775808))) (rC (.int 1)))))
noncomputable def vI : RS := (vT (qJ (yJ fun i j => decide (i < j)) (qA vD (qf (qe 0) qC)) (rC (.int (9218868437227405312)))))
noncomputable def qZ : RS := (wR (yR (.one 3) 0 (sIf (Qe (tBl (qJ (yJ fun i j => decide (i < j)) (qe 3) (rC (.int 1)))) (tBl (qJ (yJ fun i j => decide (j < i)) (qe 3) (rC (.int (16)))))) (vg "WrongCount") vV)) (Vp (.two 4 5) (QU (qe 1) (qe 2)) (sIf (tBl (qJ (oEq true) (vz yB (qf (qe 4) qC)) (qe 5))) (vg "WrongCount") vV)))
noncomputable def qY : RS := (yR (.one 1) 0 (sIf (uz (tBl (qA qO (qf (qe 1) qC)))) (vg "NotFinite") vV))
noncomputable def zf : RS := (vT (qJ uW (ze (qf (vz yB (qf (qe 0) qC)) qC)) (qe 0)))
noncomputable abbrev Hr (r : RS) (N : List Str) (n : Nat) (g : Fn) : Prop := ∀ ds : List D, ds.length = n -> g ds = .no \/ res (r (sl0 N ds)) = g ds
theorem Qo (x : Int) (h : U64 x) : res (wC (sl0 ["x"] [.int x])) = iv (x % 9223372036854775808) := by
 have e : Builtin.bitAnd x (2 ^ 63 - 1) = x % 2 ^ 63 := Bits.ue 63 h.1
 simp [wC, sl0, vT, freeze, frz, qJ, qe, rC, Yf, W6, res, iv, Rs.bind]
 exact e
theorem jg : Hr wC ["x"] 1 vD := Vn Qo
theorem Qm {x : Int} (h : U64 x) : vD [.int x] = iv (x % 9223372036854775808) := xN h
theorem ui (x : Int) (h : U64 x) : res (vI (sl0 ["x"] [.int x])) = bv (decide (x % 9223372036854775808 < 9218868437227405312)) := by
 simp [vI, sl0, vT, freeze, frz, qJ, qe, rC, qA, qf, qC, yJ, res, bv, iv, Rs.bind, Qm h, kB]
theorem xK : Hr vI ["x"] 1 qO := Vn ui
theorem zz {x : Int} (h : U64 x) : qO [.int x] = bv (decide (x % 9223372036854775808 < 9218868437227405312)) := xN h
theorem vK {tg : Tg} {body : RS} {c : Str} {good : DK -> Prop} {J : Dl -> Prop} : ∀ {xs : List DK}, (∀ x ∈ xs, ∀ δ, J δ -> ∃ δ1, tg.put x δ = some δ1 /\ (good x -> ∃ δ2, body δ1 = .nx δ2 /\ J δ2) /\ (¬ good x -> body δ1 = .er c)) ->
  ∀ δ, J δ -> ((∀ x ∈ xs, good x) -> ∃ δ', turns tg body xs δ = .nx δ' /\ J δ') /\ (¬ (∀ x ∈ xs, good x) -> turns tg body xs δ = .er c)
 | [], _, δ, j => ⟨fun _ => ⟨δ, rfl, j⟩, fun h => absurd (fun x hx => absurd hx (by simp)) h⟩
 | x :: r, st, δ, j => by
  obtain ⟨δ1, hp, h1, h2⟩ := st x (List.mem_cons_self) δ j
  have ih := vK (xs := r) fun y hy => st y (List.mem_cons_of_mem _ hy)
  by_cases g : good x
  ·obtain ⟨δ2, hb, j2⟩ := h1 g
   obtain ⟨k1, k2⟩ := ih δ2 j2
   have e : turns tg body (x :: r) δ = turns tg body r δ2 := by
    show (match tg.put x δ with | none => _ | some δ1 => _) = _
    rw [hp]
    dsimp only
    rw [hb]
   rw [e]
   exact ⟨fun h => k1 fun y hy => h y (List.mem_cons_of_mem _ hy), fun h => k2 fun q => h fun y hy => by
    rcases List.mem_cons.mp hy with rfl | hy
    ·exact g
    ·exact q y hy⟩
  ·refine ⟨fun h => absurd (h x (List.mem_cons_self)) g, fun _ => ?_⟩
   show (match tg.put x δ with | none => _ | some δ1 => _) = _
   rw [hp]
   dsimp only
   rw [h2 g]
theorem jx : ∀ {ls : List D} {ks : List Nat}, yP ls = some ks -> ∃ xss : List (List D), ls = xss.map D.lst /\ ks = xss.map List.length
 | [], ks, h => by cases h; exact ⟨[], rfl, rfl⟩
 | .lst l :: r, ks, h => by
  have h : (yP r).map (l.length :: ·) = some ks := h
  cases e : yP r with
  | none => rw [e] at h; cases h
  | some q =>
   rw [e] at h
   cases h
   obtain ⟨xss, e1, e2⟩ := jx e
   exact ⟨l :: xss, by rw [e1]; rfl, by rw [e2]; rfl⟩
 | .non :: _, _, h => nomatch h
 | .bl _ :: _, _, h => nomatch h
 | .int _ :: _, _, h => nomatch h
 | .tup _ :: _, _, h => nomatch h
 | .fn _ :: _, _, h => nomatch h
 | .obj _ _ _ :: _, _, h => nomatch h
theorem x6 : ∀ xss : List (List D), yP (xss.map D.lst) = some (xss.map List.length)
 | [] => rfl
 | x :: r => by show (yP (r.map D.lst)).map (x.length :: ·) = _; rw [x6 r]; rfl
theorem ja {α β γ δ : Type} (f : α -> γ) (g : β -> δ) : ∀ (xs : List α) (ys : List β), (xs.map f).zip (ys.map g) = (xs.zip ys).map fun p => (f p.1, g p.2)
 | [], _ => rfl
 | _ :: _, [] => rfl
 | x :: xs, y :: ys => by
  rw [List.map_cons, List.map_cons, List.zip_cons_cons, List.zip_cons_cons, List.map_cons, ja f g xs ys]
theorem yi (ns ms : List Int) (xss : List (List D)) : res (qZ (sl0 ["sizes", "lists", "counts", "size", "numbers", "count"] [.lst (ns.map .int), .lst (xss.map .lst), .lst (ms.map .int)])) =
  if (ns.all fun n => decide (1 <= n /\ n <= 16)) = true /\ (((xss.map List.length).zip ms).all fun p => decide ((p.1 : Int) = p.2)) = true then .ok (.non, false) else .er "WrongCount" := by
 have hs : sl0 ["sizes", "lists", "counts", "size", "numbers", "count"] [.lst (ns.map .int), .lst (xss.map .lst), .lst (ms.map .int)] = [.val (.lst (ns.map .int)) false, .val (.lst (xss.map .lst)) false, .val (.lst (ms.map .int)) false, .un, .un, .un] := rfl
 rw [hs]
 generalize hA : Sl.val (.lst (ns.map .int)) false = A
 generalize hB : Sl.val (.lst (xss.map .lst)) false = B
 generalize hC : Sl.val (.lst (ms.map .int)) false = C
 -- the sizes
 have L1 := vK (tg := .one 3) (c := "WrongCount") (body := sIf (Qe (tBl (qJ (yJ fun i j => decide (i < j)) (qe 3) (rC (.int 1)))) (tBl (qJ (yJ fun i j => decide (j < i)) (qe 3) (rC (.int (16)))))) (vg "WrongCount") vV)
  (good := fun x => ∃ n, x.1 = .int n /\ 1 <= n /\ n <= 16) (J := fun δ => ∃ s : Sl, δ = [A, B, C, s, .un, .un]) (xs := (ns.map D.int).map fun d => (d, Kd.sh)) (by
   rintro x hx δ ⟨s, rfl⟩
   rw [List.map_map] at hx
   obtain ⟨n, _, rfl⟩ := List.mem_map.mp hx
   refine ⟨[A, B, C, .val (.int n) true, .un, .un], rfl, fun ⟨m, e, h1, h2⟩ => ⟨[A, B, C, .val (.int n) true, .un, .un], ?_, .val (.int n) true, rfl⟩, fun h => ?_⟩
   ·cases e
    have e1 : ¬ n < 1 := by lia
    have e2 : ¬ 16 < n := by lia
    simp [sIf, Qe, tBl, qJ, qe, rC, yJ, Rs.bind, vV, e1, e2]
   ·by_cases h1 : n < 1
    ·simp [sIf, Qe, tBl, qJ, qe, rC, yJ, Rs.bind, vg, h1]
    ·have h2 : 16 < n := by
      refine Int.not_le.mp fun q => h ⟨n, rfl, by lia, q⟩
     simp [sIf, Qe, tBl, qJ, qe, rC, yJ, Rs.bind, vg, h1, h2]) [A, B, C, .un, .un, .un] ⟨.un, rfl⟩
 have g1 : (∀ x ∈ (ns.map D.int).map fun d => (d, Kd.sh), ∃ n, x.1 = .int n /\ 1 <= n /\ n <= 16) ↔ (ns.all fun n => decide (1 <= n /\ n <= 16)) = true := by
  rw [List.all_eq_true]
  constructor
  ·intro h n hn
   obtain ⟨m, e, h1, h2⟩ := h (.int n, .sh) (by rw [List.map_map]; exact List.mem_map.mpr ⟨n, hn, rfl⟩)
   cases e
   exact decide_eq_true ⟨h1, h2⟩
  ·intro h x hx
   rw [List.map_map] at hx
   obtain ⟨n, hn, rfl⟩ := List.mem_map.mp hx
   have := of_decide_eq_true (h n hn)
   exact ⟨n, rfl, this.1, this.2⟩
 have f1 : ∀ rb, yR (.one 3) 0 rb [A, B, C, .un, .un, .un] = turns (.one 3) rb ((ns.map D.int).map fun d => (d, Kd.sh)) [A, B, C, .un, .un, .un] := fun rb => by rw [<- hA]; rfl
 unfold qZ wR
 rw [f1]
 by_cases c1 : (ns.all fun n => decide (1 <= n /\ n <= 16)) = true
 ·obtain ⟨δ', e1, s, rfl⟩ := L1.1 (g1.mpr c1)
  rw [e1]
  dsimp only [Out.andThen]
  have f2 : ∀ rb, Vp (.two 4 5) (QU (qe 1) (qe 2)) rb [A, B, C, s, .un, .un] = turns (.two 4 5) rb (((xss.map D.lst).zip (ms.map D.int)).map fun p => (.tup [p.1, p.2], Kd.sh)) [A, B, C, s, .un, .un] := fun rb => by rw [<- hB, <- hC]; rfl
  rw [f2, ja, List.map_map]
  have L2 := vK (tg := .two 4 5) (c := "WrongCount") (body := sIf (tBl (qJ (oEq true) (vz yB (qf (qe 4) qC)) (qe 5))) (vg "WrongCount") vV)
   (good := fun x => ∃ l m, x.1 = .tup [.lst l, .int m] /\ (l.length : Int) = m) (J := fun δ => ∃ s1 s2 : Sl, δ = [A, B, C, s, s1, s2]) (xs := (xss.zip ms).map ((fun p : D × D => (D.tup [p.1, p.2], Kd.sh)) ∘ fun p : List D × Int => (D.lst p.1, D.int p.2))) (by
    rintro x hx δ ⟨s1, s2, rfl⟩
    obtain ⟨⟨l, m⟩, hp, rfl⟩ := List.mem_map.mp hx
    refine ⟨[A, B, C, s, .val (.lst l) false, .val (.int m) true], rfl, fun ⟨l', m', e, h1⟩ => ⟨[A, B, C, s, .val (.lst l) false, .val (.int m) true], ?_, _, _, rfl⟩, fun h => ?_⟩
    ·cases e
     simp [sIf, tBl, qJ, vz, qf, qC, yB, qe, oEq, Rs.bind, vV, h1]
    ·have h1 : ¬ (l.length : Int) = m := fun q => h ⟨l, m, rfl, q⟩
     simp [sIf, tBl, qJ, vz, qf, qC, yB, qe, oEq, Rs.bind, vg, h1]) [A, B, C, s, .un, .un] ⟨.un, .un, rfl⟩
  have g2 : (∀ x ∈ (xss.zip ms).map ((fun p : D × D => (D.tup [p.1, p.2], Kd.sh)) ∘ fun p : List D × Int => (D.lst p.1, D.int p.2)), ∃ l m, x.1 = .tup [.lst l, .int m] /\ (l.length : Int) = m) ↔ (((xss.map List.length).zip ms).all fun p => decide ((p.1 : Int) = p.2)) = true := by
   have e : (xss.map List.length).zip ms = (xss.zip ms).map fun p => (p.1.length, p.2) := by
    have := ja List.length (id : Int -> Int) xss ms
    rw [List.map_id] at this
    exact this
   rw [e, List.all_map, List.all_eq_true]
   constructor
   ·intro h p hp
    obtain ⟨l, m, e, h1⟩ := h _ (List.mem_map.mpr ⟨p, hp, rfl⟩)
    cases e
    exact decide_eq_true h1
   ·intro h x hx
    obtain ⟨p, hp, rfl⟩ := List.mem_map.mp hx
    exact ⟨p.1, p.2, rfl, of_decide_eq_true (h p hp)⟩
  by_cases c2 : (((xss.map List.length).zip ms).all fun p => decide ((p.1 : Int) = p.2)) = true
  ·obtain ⟨δ', e2, _⟩ := L2.1 (g2.mpr c2)
   rw [e2, if_pos ⟨c1, c2⟩]
   rfl
  ·rw [L2.2 (fun h => c2 (g2.mp h)), if_neg (fun h => c2 h.2)]
   rfl
 ·have e1 := L1.2 (fun h => c1 (g1.mp h))
  rw [e1, if_neg (fun h => c1 h.1)]
  rfl
theorem zI : Hr qZ ["sizes", "lists", "counts", "size", "numbers", "count"] 3 qp := by
 intro ds hl
 match ds, hl with
 | [a, b, c], _ =>
  cases a with
  | lst ss =>
   cases b with
   | lst ls =>
    cases c with
    | lst cs =>
     show (match intsOf ss, yP ls, intsOf cs with | some ns, some ks, some ms => _ | _, _, _ => Rs.no) = .no \/ _ = (match intsOf ss, yP ls, intsOf cs with | some ns, some ks, some ms => _ | _, _, _ => Rs.no)
     cases e1 : intsOf ss with
     | none => exact .inl rfl
     | some ns =>
      cases e2 : yP ls with
      | none => exact .inl rfl
      | some ks =>
       cases e3 : intsOf cs with
       | none => exact .inl rfl
       | some ms =>
        right
        obtain ⟨xss, rfl, rfl⟩ := jx e2
        have h1 := vm e1
        have h3 := vm e3
        subst h1 h3
        exact yi ns ms xss
    | _ => exact .inl rfl
   | _ => exact .inl rfl
  | _ => exact .inl rfl
theorem yb (ns : List Int) (h : wM ns) : res (qY (sl0 ["numbers", "x"] [.lst (ns.map .int)])) = if ∀ n ∈ ns, Fi n then Rs.ok (D.non, false) else Rs.er "NotFinite" := by
 have hs : sl0 ["numbers", "x"] [.lst (ns.map .int)] = [.val (.lst (ns.map .int)) false, .un] := rfl
 rw [hs]
 generalize hA : Sl.val (.lst (ns.map .int)) false = A
 have L1 := vK (tg := .one 1) (c := "NotFinite") (body := sIf (uz (tBl (qA qO (qf (qe 1) qC)))) (vg "NotFinite") vV)
  (good := fun x => ∃ n, x.1 = .int n /\ Fi n) (J := fun δ => ∃ s : Sl, δ = [A, s]) (xs := (ns.map D.int).map fun d => (d, Kd.sh)) (by
   rintro x hx δ ⟨s, rfl⟩
   rw [List.map_map] at hx
   obtain ⟨n, hn, rfl⟩ := List.mem_map.mp hx
   have hu := h n hn
   refine ⟨[A, .val (.int n) true], rfl, fun ⟨m, e, h1⟩ => ⟨[A, .val (.int n) true], ?_, _, rfl⟩, fun q => ?_⟩
   ·cases e
    simp [sIf, uz, tBl, qA, qf, qC, qe, Rs.bind, vV, zz hu, bv, h1.2]
   ·have h1 : ¬ n % 9223372036854775808 < 9218868437227405312 := fun z => q ⟨n, rfl, hu, z⟩
    simp [sIf, uz, tBl, qA, qf, qC, qe, Rs.bind, vg, zz hu, bv, h1]) [A, .un] ⟨.un, rfl⟩
 have g1 : (∀ x ∈ (ns.map D.int).map fun d => (d, Kd.sh), ∃ n, x.1 = .int n /\ Fi n) ↔ ∀ n ∈ ns, Fi n := by
  constructor
  ·intro q n hn
   obtain ⟨m, e, h1⟩ := q (.int n, .sh) (by rw [List.map_map]; exact List.mem_map.mpr ⟨n, hn, rfl⟩)
   cases e
   exact h1
  ·intro q x hx
   rw [List.map_map] at hx
   obtain ⟨n, hn, rfl⟩ := List.mem_map.mp hx
   exact ⟨n, rfl, q n hn⟩
 have f1 : ∀ rb, yR (.one 1) 0 rb [A, .un] = turns (.one 1) rb ((ns.map D.int).map fun d => (d, Kd.sh)) [A, .un] := fun rb => by rw [<- hA]; rfl
 unfold qY
 rw [f1]
 by_cases c : ∀ n ∈ ns, Fi n
 ·obtain ⟨δ', e, _⟩ := L1.1 (g1.mpr c)
  rw [e, if_pos c]
  rfl
 ·rw [L1.2 (fun q => c (g1.mp q)), if_neg c]
  rfl
theorem zH : Hr qY ["numbers", "x"] 1 qk := by
 intro ds hl
 match ds, hl with
 | [.lst xs], _ =>
  unfold qk
  dsimp only
  cases e : intsOf xs with
  | none => exact .inl rfl
  | some ns =>
   dsimp only
   by_cases c : ∀ n ∈ ns, U64 n
   ·right
    rw [if_pos c]
    have q := vm e
    subst q
    rw [yb ns c]
   ·left; exact if_neg c
 | [.non], _ => exact .inl rfl
 | [.bl _], _ => exact .inl rfl
 | [.int _], _ => exact .inl rfl
 | [.tup _], _ => exact .inl rfl
 | [.fn _], _ => exact .inl rfl
 | [.obj _ _ _], _ => exact .inl rfl
theorem yp {ns : List Int} (h : wM ns) : qk [.lst (ns.map .int)] = if ∀ n ∈ ns, Fi n then Rs.ok (D.non, false) else Rs.er "NotFinite" := by
 unfold qk
 dsimp only
 rw [ints_map]
 exact if_pos h
theorem yo (ns ms : List Int) (xss : List (List D)) : qp [.lst (ns.map .int), .lst (xss.map .lst), .lst (ms.map .int)] =
  if (ns.all fun n => decide (1 <= n /\ n <= 16)) = true /\ (((xss.map List.length).zip ms).all fun p => decide ((p.1 : Int) = p.2)) = true then .ok (.non, false) else .er "WrongCount" := by
 unfold qp
 dsimp only
 rw [ints_map, x6, ints_map]
theorem xA {r : RE} {δ : Dl} {ds : List D} (h : r (freeze δ) = .ok (.lst ds, .fr)) : vT r δ = .rt (.lst ds) true := by unfold vT; rw [h]
theorem jO {r : RE} {δ : Dl} {d : D} (h : r (freeze δ) = .ok (d, .nw)) : vT r δ = .rt d false := by
 unfold vT
 rw [h]
 cases d <;> rfl
theorem xM {r : RE} {δ : Dl} {c : Str} (h : r (freeze δ) = .er c) : vT r δ = .er c := by unfold vT; rw [h]
theorem Wf {r : RE} {δ : Dl} {i : Nat} {d : D} (h : r δ = .ok (d, .nw)) : uP i r δ = .nx (δ.set i (.val d true)) := by
 unfold uP
 rw [h]
 cases d <;> simp [vY]
theorem xY {r : RE} {δ : Dl} {x : DK} (h : r δ = .ok x) : wK r δ = .nx δ := by unfold wK; rw [h]
theorem xX {r : RE} {δ : Dl} {c : Str} (h : r δ = .er c) : wK r δ = .er c := by unfold wK; rw [h]
theorem zP {a b : RS} {δ δ1 : Dl} (h : a δ = .nx δ1) : wR a b δ = b δ1 := by unfold wR; rw [h]; rfl
theorem xk {a b : RS} {δ : Dl} {c : Str} (h : a δ = .er c) : wR a b δ = .er c := by unfold wR; rw [h]; rfl
theorem YZ {t : RT} {a b : RS} {δ : Dl} (h : t δ = .ok true) : sIf t a b δ = a δ := by unfold sIf; rw [h]; rfl
theorem YU {t : RT} {a b : RS} {δ : Dl} (h : t δ = .ok false) : sIf t a b δ = b δ := by unfold sIf; rw [h]; rfl
theorem QI {α β : Type} {p : α -> Option β} {h : α -> β} : ∀ {l : List α}, (∀ x ∈ l, p x = some (h x)) -> l.filterMap p = l.map h
 | [], _ => rfl
 | x :: r, k => by
  rw [List.filterMap_cons, k x (List.mem_cons_self), List.map_cons, QI fun y hy => k y (List.mem_cons_of_mem _ hy)]
theorem yI : Hr zf ["numbers"] 1 qy := by
 intro ds hl
 match ds, hl with
 | [.lst xs], _ =>
  unfold qy
  dsimp only
  by_cases c : xs.all D.sc = true /\ xs.length < LIM
  ·right
   rw [if_pos c]
   have hl2 : 1 + xs.length <= LIM := by have := c.2; lia
   have hl3 : (D.int xs.length :: xs).all D.sc = true := by rw [List.all_cons, c.1]; rfl
   have hx : vT (qJ uW (ze (qf (vz yB (qf (qe 0) qC)) qC)) (qe 0)) [.val (.lst xs) false] = .rt (.lst (.int xs.length :: xs)) true := by
    refine xA ?_
    show (if 1 + xs.length <= LIM then Rs.ok (D.lst ([D.int xs.length] ++ xs), kL ([D.int xs.length] ++ xs) (Kd.low .fr .sh)) else .no) = _
    rw [if_pos hl2]
    show Rs.ok (D.lst (D.int xs.length :: xs), kL (D.int xs.length :: xs) (Kd.low .fr .sh)) = _
    unfold kL
    rw [if_pos hl3]
   show res (vT _ _) = _
   rw [show sl0 ["numbers"] [.lst xs] = [.val (.lst xs) false] from rfl, hx]
   rfl
  ·left; exact if_neg c
 | [.non], _ => exact .inl rfl
 | [.bl _], _ => exact .inl rfl
 | [.int _], _ => exact .inl rfl
 | [.tup _], _ => exact .inl rfl
 | [.fn _], _ => exact .inl rfl
 | [.obj _ _ _], _ => exact .inl rfl
theorem xc {xs : List D} (h : xs.all D.sc = true) (hl : xs.length < LIM) : qy [.lst xs] = .ok (.lst (.int xs.length :: xs), true) := by
 unfold qy
 exact if_pos ⟨h, hl⟩
theorem qz {ra : RE} {rr : RA} {δ : Dl} {x : DK} {xs : List DK} (h : ra δ = .ok x) (h2 : rr δ = .ok xs) : qf ra rr δ = .ok (x :: xs) := by unfold qf; rw [h, h2]; rfl
theorem qX {δ : Dl} : qC δ = .ok [] := rfl
theorem xb {r : RA} {δ : Dl} {xs : List DK} (h : r δ = .ok xs) (hl : xs.length <= LIM) : ze r δ = .ok (.lst (xs.map (·.1)), kL (xs.map (·.1)) (qi xs)) := by
 unfold ze
 rw [h]
 exact if_pos hl
theorem zJ {f : DK -> DK -> Rs DK} {ra rb : RE} {δ : Dl} {x y : DK} (h : ra δ = .ok x) (h2 : rb δ = .ok y) : qJ f ra rb δ = f x y := by unfold qJ; rw [h, h2]; rfl
theorem wz {g : Fn} {r : RA} {δ : Dl} {xs : List DK} (h : r δ = .ok xs) : qA g r δ = (g (xs.map (·.1))).bind fun y => .ok (y.1, kB y.2) := by unfold qA; rw [h]; rfl
theorem Y1 {xs : List D} {k : Kd} (h : xs.all D.sc = true) : kL xs k = .fr := by unfold kL; exact if_pos h
theorem j6 {ra : RE} {rl rh rs : RO} {δ : Dl} {xs : List D} {k : Kd} {lo hi st : Option Int} (h : ra δ = .ok (.lst xs, k)) (hl : rl δ = .ok lo) (hh : rh δ = .ok hi) (hs : rs δ = .ok st) (h0 : st ≠ some 0) :
  yG ra rl rh rs δ = .ok (.lst (pick xs lo hi st), kL (pick xs lo hi st) (k.low .nw)) := by
 unfold yG
 rw [h, hl, hh, hs]
 exact if_neg h0
theorem ZA {x : Int} (k : Nat) (hk : k <= 60000) (h : x.natAbs < 2 ^ k) : few x := Nat.lt_of_lt_of_le h (Nat.pow_le_pow_right (by decide) hk)
theorem jk {x : Int} (h : U64 x) : few x := ZA 64 (by decide) (by obtain ⟨a, b⟩ := h; lia)
theorem QJ {i j : Int} {k l : Kd} (hi : few i) (hj : few j) : uU (.int i, k) (.int j, l) = .ok (.int (i * j), .nw) := by
 unfold uU
 exact if_pos ⟨hi, hj⟩
theorem uw {m : Int} (h : U64 m) : (1 <= m /\ m <= 16) ↔ PvCalls.size m.toNat = true := by
 unfold PvCalls.size PvCalls.SIZE
 obtain ⟨a, b⟩ := h
 rw [Bool.and_eq_true, decide_eq_true_eq, decide_eq_true_eq]
 lia
theorem jG {x : Int} (h : U64 x) : Fi x ↔ Pv.isFinite x.toNat = true := by
 rw [Dm.uX, decide_eq_true_eq]
 unfold Fi Dm.sz
 obtain ⟨a, b⟩ := h
 constructor
 ·rintro ⟨_, q⟩; lia
 ·intro q; exact ⟨⟨a, b⟩, by lia⟩
theorem Vc {ns : List Int} (h : wM ns) : (∀ n ∈ ns, Fi n) ↔ (nats ns).all Pv.isFinite = true := by
 rw [List.all_eq_true]
 unfold nats
 constructor
 ·intro q x hx
  obtain ⟨n, hn, rfl⟩ := List.mem_map.mp hx
  exact (jG (h n hn)).mp (q n hn)
 ·intro q n hn
  exact (jG (h n hn)).mpr (q _ (List.mem_map.mpr ⟨n, hn, rfl⟩))
theorem wm (ns : List Int) : (nats ns).length = ns.length := List.length_map _
theorem Ym {ns : List Int} (h : wM ns) (k : Nat) : (((nats ns).getD k 0 : Nat) : Int) = ns.getD k 0 := by
 unfold nats
 rw [List.getD_eq_getElem?_getD, List.getElem?_map, List.getD_eq_getElem?_getD]
 cases e : ns[k]? with
 | none => rfl
 | some x =>
  have := (h x (List.mem_of_getElem? e)).1
  show ((x.toNat : Nat) : Int) = x
  lia
theorem y3 {ns : List Int} (h : wM ns) : (nats ns).map (fun (n : Nat) => (n : Int)) = ns := by
 unfold nats
 rw [List.map_map]
 conv => rhs; rw [<- List.map_id ns]
 refine List.map_congr_left fun n hn => ?_
 have := (h n hn).1
 show ((n.toNat : Nat) : Int) = n
 lia
theorem uV {α : Type} (rows : List (Nat × List Nat)) (x : Pv.Did α) (f : α -> PvCalls.Answer) : vf (PvCalls.given rows x f) =
  if PvCalls.fits rows = true then (if (rows.all fun r => r.2.all Pv.isFinite) = true then vf (match x with | .error e => .refused e | .ok y => f y) else .er "NotFinite") else .er "WrongCount" := by
 unfold PvCalls.given PvCalls.no
 cases h1 : PvCalls.fits rows with
 | false => rfl
 | true =>
  cases h2 : (rows.all fun r => r.2.all Pv.isFinite) with
  | false => rfl
  | true =>
   simp only [Bool.true_eq_false, if_false, if_true]
   cases x <;> rfl
theorem uE (c : PvCalls.Call) : vf (PvCalls.answer c) = if PvCalls.goes c = true then vf (PvCalls.reckon c) else .er "WrongCount" := by
 unfold PvCalls.answer PvCalls.no
 cases h : PvCalls.goes c with
 | false => rfl
 | true => rfl
theorem QR (l : List Nat) : vf (.row l) = .ok (.lst (.int l.length :: l.map fun (n : Nat) => D.int n), true) := by
 show Rs.ok (D.lst (((TableNeutral.rowN (TableNeutral.ints l))).map D.int), true) = _
 unfold TableNeutral.rowN TableNeutral.ints
 rw [List.map_cons, List.map_map, List.length_map]
 rfl
theorem WA (m n : Nat) (f : Nat -> Nat -> Pv.F64) : PvCalls.flat (Pv.tableBy m n f) = (List.range m).flatMap fun i => (List.range n).map fun j => f i j := by
 unfold PvCalls.flat Pv.tableBy
 rw [List.flatMap_map]
theorem ua {m n : Nat} (f : Nat -> Nat -> Pv.F64) : ((List.range m).flatMap fun i => (List.range n).map fun j => f i j).length = m * n := by
 induction m with
 | zero => rw [Nat.zero_mul]; rfl
 | succ m ih => rw [List.range_succ, List.flatMap_append, List.length_append, ih, Nat.succ_mul]; simp
noncomputable abbrev LL : List (Str × Int) := [("WrongCount", 1), ("NotFinite", 2), ("StepNotFinite", 3), ("NotAsTold", 4)]
noncomputable def Few : PvCalls.Answer -> Prop
 | .refused z => z = -1 \/ z = -2 \/ z = -3 \/ z = -4
 | .row l => l.length <= 1000
 | .number _ => True
 | .rows l k => l.length <= 1000 /\ k.length <= 1000
 | .lu x p _ => x.length <= 1000 /\ p.length <= 1000
 | .told _ l => l.length <= 100000
theorem Ve {a : PvCalls.Answer} (h : Few a) : jw LL (vf a) = some ((TableNeutral.told a).map D.int) := by
 cases a with
 | refused z => rcases h with rfl | rfl | rfl | rfl <;> rfl
 | number x => rfl
 | row l => rfl
 | rows l k => rfl
 | lu x p t => rfl
 | told e l => rfl
theorem VA {a : PvCalls.Answer} (h : Few a) : ((TableNeutral.told a).map D.int).length <= LIM := by
 rw [List.length_map]
 show _ <= 16777216
 cases a with
 | refused z => exact Nat.le_of_ble_eq_true rfl
 | number x => exact Nat.le_of_ble_eq_true rfl
 | row l => simp only [TableNeutral.told, TableNeutral.rowN, TableNeutral.ints, List.length_cons, List.length_map]; have : l.length <= 1000 := h; lia
 | rows l k => simp only [TableNeutral.told, TableNeutral.rowN, TableNeutral.ints, List.length_cons, List.length_map, List.length_append]; have : l.length <= 1000 /\ k.length <= 1000 := h; lia
 | lu x p t => simp only [TableNeutral.told, TableNeutral.rowN, TableNeutral.ints, List.length_cons, List.length_map, List.length_append, List.length_nil]; have : x.length <= 1000 /\ p.length <= 1000 := h; lia
 | told e l => simp only [TableNeutral.told, TableNeutral.rowN, TableNeutral.ints, List.length_cons, List.length_map]; have : l.length <= 100000 := h; lia
theorem yy {z : Int} (h : U64 z) : TableNeutral.nat z = some z.toNat := by
 unfold TableNeutral.nat
 exact if_neg (by have := h.1; lia)
theorem z7 : ∀ {ns : List Int}, wM ns -> ns.mapM TableNeutral.nat = some (nats ns)
 | [], _ => rfl
 | n :: r, h => by
  rw [List.mapM_cons, yy (h n (List.mem_cons_self)), z7 fun x hx => h x (List.mem_cons_of_mem _ hx)]
  rfl
theorem Zi {c : PvCalls.Call} (h : PvCalls.goes c = true -> Few (PvCalls.reckon c)) : Few (PvCalls.answer c) := by
 unfold PvCalls.answer PvCalls.no
 cases e : PvCalls.goes c with
 | false => exact .inl rfl
 | true => exact h e
theorem Qd {α : Type} {rows : List (Nat × List Nat)} {x : Pv.Did α} {f : α -> PvCalls.Answer} (h : match x with | .error e => Few (.refused e) | .ok y => Few (f y)) : Few (PvCalls.given rows x f) := by
 unfold PvCalls.given PvCalls.no
 split
 ·exact .inl rfl
 ·split
  ·exact .inr (.inl rfl)
  ·cases x with
   | error e => exact h
   | ok y => exact h
theorem QO (m n : Nat) (f : Nat -> Nat -> Pv.F64) : (PvCalls.flat (Pv.tableBy m n f)).length = m * n := by
 rw [WA, ua]
theorem jR {m n : Nat} (hm : PvCalls.size m = true) (hn : PvCalls.size n = true) : m * n <= 1000 := by
 unfold PvCalls.size PvCalls.SIZE at hm hn
 rw [Bool.and_eq_true, decide_eq_true_eq, decide_eq_true_eq] at hm hn
 have : m * n <= 16 * 16 := Nat.mul_le_mul hm.2 hn.2
 lia
open PySem.W (Codec)
theorem uS {z : Int} (h : Codec.inInt 0 18446744073709551615 z = true) : U64 z := by
 have := Codec.inInt_iff.mp h
 exact ⟨this.1, by lia⟩
theorem jN {ns : List Int} (h : ns.all (Codec.inInt 0 18446744073709551615) = true) : wM ns := fun n hn => uS (List.all_eq_true.mp h n hn)
theorem w1 (ns : List Int) : (ns.map D.int).map Ir.toV = ns.map V.int := by
 rw [List.map_map]
 rfl
theorem vJ {K : PySem.W.Frag} {C N : Addr} {nm q bs hdct sn sub ab col dd k0 k1 k2 k3 k5} (l : K.lookup C = some (excClassObj nm q C N bs qW hdct sn sub ab col dd k0 k1 k2 k3 k5 vS)) (h1 : PySem.W.nsOkIn K N = true) (h2 : PySem.W.nsIn K N "__init__" = some none) : qx K C = true := by
 unfold qx
 rw [l]
 show ((decide (Value.ref C :: qW = Value.ref C :: qW) && decide (vS = vS) && (false == false)) && (PySem.W.nsOkIn K N && decide (PySem.W.nsIn K N "__init__" = some none))) = true
 rw [h1, decide_eq_true h2, decide_eq_true rfl, decide_eq_true rfl]
 rfl
theorem zR {K : PySem.W.Frag} {N : Addr} {oc od es n sl} (l : K.lookup N = some ⟨oc, od, .dict es n, sl⟩) (h : (es.toList.all fun e => match e.key with | .str _ _ => true | _ => false) = true) : PySem.W.nsOkIn K N = true := by
 unfold PySem.W.nsOkIn
 rw [l]
 show (es.all fun e => match e.key with | .str _ _ => true | _ => false) = true
 rw [<- Array.all_toList]
 exact h
theorem Y7 {mg : Str -> Option Value} {K : PySem.W.Frag} {C1 C2 C3 C4 : Addr} (m1 : mg "WrongCount" = some (.ref C1)) (m2 : mg "NotFinite" = some (.ref C2)) (m3 : mg "StepNotFinite" = some (.ref C3)) (m4 : mg "NotAsTold" = some (.ref C4))
  (x1 : qx K C1 = true) (x2 : qx K C2 = true) (x3 : qx K C3 = true) (x4 : qx K C4 = true) (e2 : (C2 == C1) = false) (e3 : (C3 == C1) = false) (e4 : (C3 == C2) = false) (e5 : (C4 == C1) = false) (e6 : (C4 == C2) = false) (e7 : (C4 == C3) = false)
  {c : Str} {C : Addr} {k : Int} (hC : mg c = some (.ref C)) (hl : LL.lookup c = some k) : qx K C = true /\ List.lookup C [(C1, (1 : Int)), (C2, 2), (C3, 3), (C4, 4)] = some k := by
 have key : ∀ {x : Str} {D : Addr}, c = x -> mg x = some (.ref D) -> C = D := fun {x D} e m => by
  subst e
  rw [hC] at m
  cases m
  rfl
 unfold LL at hl
 rw [List.lookup_cons] at hl
 by_cases h1 : c = "WrongCount"
 ·have z := key h1 m1
  subst h1 z
  cases hl
  exact ⟨x1, by rw [List.lookup_cons, beq_self_eq_true]⟩
 rw [beq_eq_false_iff_ne.mpr h1, List.lookup_cons] at hl
 by_cases h2 : c = "NotFinite"
 ·have z := key h2 m2
  subst h2 z
  cases hl
  exact ⟨x2, by rw [List.lookup_cons, e2, List.lookup_cons, beq_self_eq_true]⟩
 rw [beq_eq_false_iff_ne.mpr h2, List.lookup_cons] at hl
 by_cases h3 : c = "StepNotFinite"
 ·have z := key h3 m3
  subst h3 z
  cases hl
  exact ⟨x3, by rw [List.lookup_cons, e3, List.lookup_cons, e4, List.lookup_cons, beq_self_eq_true]⟩
 rw [beq_eq_false_iff_ne.mpr h3, List.lookup_cons] at hl
 by_cases h4 : c = "NotAsTold"
 ·have z := key h4 m4
  subst h4 z
  cases hl
  exact ⟨x4, by rw [List.lookup_cons, e5, List.lookup_cons, e6, List.lookup_cons, e7, List.lookup_cons, beq_self_eq_true]⟩
 rw [beq_eq_false_iff_ne.mpr h4] at hl
 cases hl
theorem Ya {A B C : RA} {e : RE} {rest : RS} {δ : Dl} {va vb vc : List DK} {ss cs ns : List Int} {xss : List (List D)} {k : Kd}
  (hA : A δ = .ok va) (la : va.length <= LIM) (ea : va.map (·.1) = ss.map D.int) (hB : B δ = .ok vb) (lb : vb.length <= LIM) (eb : vb.map (·.1) = xss.map D.lst) (hC : C δ = .ok vc) (lc : vc.length <= LIM) (ec : vc.map (·.1) = cs.map D.int)
  (hE : e δ = .ok (.lst (ns.map .int), k)) (hn : wM ns) :
  res (wR (wK (qA qp (qf (ze A) (qf (ze B) (qf (ze C) qC))))) (wR (wK (qA qk (qf e qC))) rest) δ) =
   if (ss.all fun n => decide (1 <= n /\ n <= 16)) = true /\ (((xss.map List.length).zip cs).all fun p => decide ((p.1 : Int) = p.2)) = true then (if ∀ n ∈ ns, Fi n then res (rest δ) else .er "NotFinite") else .er "WrongCount" := by
 have h1 : qA qp (qf (ze A) (qf (ze B) (qf (ze C) qC))) δ = if (ss.all fun n => decide (1 <= n /\ n <= 16)) = true /\ (((xss.map List.length).zip cs).all fun p => decide ((p.1 : Int) = p.2)) = true then .ok (.non, .nw) else .er "WrongCount" := by
  rw [wz (qz (xb hA la) (qz (xb hB lb) (qz (xb hC lc) qX)))]
  show (qp [.lst (va.map (·.1)), .lst (vb.map (·.1)), .lst (vc.map (·.1))]).bind _ = _
  rw [ea, eb, ec, yo]
  split <;> rfl
 by_cases c : (ss.all fun n => decide (1 <= n /\ n <= 16)) = true /\ (((xss.map List.length).zip cs).all fun p => decide ((p.1 : Int) = p.2)) = true
 ·rw [if_pos c] at h1 ⊢
  rw [zP (xY h1)]
  have h2 : qA qk (qf e qC) δ = if ∀ n ∈ ns, Fi n then .ok (.non, .nw) else .er "NotFinite" := by
   rw [wz (qz hE qX)]
   show (qk [.lst (ns.map .int)]).bind _ = _
   rw [yp hn]
   split <;> rfl
  by_cases c2 : ∀ n ∈ ns, Fi n
  ·rw [if_pos c2] at h2 ⊢
   rw [zP (xY h2)]
  ·rw [if_neg c2] at h2 ⊢
   rw [xk (xX h2)]
   rfl
 ·rw [if_neg c] at h1 ⊢
  rw [xk (xX h1)]
  rfl
noncomputable def Yb {α : Type} (x : Pv.Did α) (f : α -> PvCalls.Answer) : PvCalls.Answer := match x with
 | .error e => .refused e
 | .ok y => f y
theorem checked {α : Type} {p q : Prop} [Decidable p] [Decidable q] {c : PvCalls.Call} {rows : List (Nat × List Nat)} {x : Pv.Did α} {f : α -> PvCalls.Answer} {R : Rs (D × Bool)} 
  (h1 : p ↔ PvCalls.goes c = true /\ PvCalls.fits rows = true) (h2 : q ↔ (rows.all fun r => r.2.all Pv.isFinite) = true) (h3 : p -> q -> R = vf (Yb x f)) (hc : PvCalls.reckon c = PvCalls.given rows x f) :
  (if p then (if q then R else .er "NotFinite") else .er "WrongCount") = vf (PvCalls.answer c) := by
 rw [uE, hc, uV]
 by_cases a : p
 ·obtain ⟨g1, g2⟩ := h1.mp a
  rw [if_pos a, if_pos g1, if_pos g2]
  by_cases b : q
  ·rw [if_pos b, if_pos (h2.mp b), h3 a b]
   rfl
  ·rw [if_neg b, if_neg (fun z => b (h2.mpr z))]
 ·rw [if_neg a]
  by_cases g1 : PvCalls.goes c = true
  ·rw [if_pos g1, if_neg (fun z => a (h1.mpr ⟨g1, z⟩))]
  ·rw [if_neg g1]
theorem jF {m n : Int} {ns : List Int} (hm : U64 m) (hn : U64 n) : (ns.length : Int) = m * n ↔ (nats ns).length = m.toNat * n.toNat := by
 have e : m * n = ((m.toNat * n.toNat : Nat) : Int) := by
  have h1 : ((m.toNat : Nat) : Int) = m := Int.toNat_of_nonneg hm.1
  have h2 : ((n.toNat : Nat) : Int) = n := Int.toNat_of_nonneg hn.1
  rw [Int.natCast_mul, h1, h2]
 rw [e, wm]
 lia
theorem Vs {m : Int} (h : U64 m) : ∃ M : Nat, m = M := ⟨m.toNat, by have := h.1; lia⟩
theorem u9 {ps : List Int} {M : Nat} (h : wM ps) : ps.mergeSort (fun a b => decide (a <= b)) = (List.range M).map (fun (k : Nat) => (k : Int)) ↔ (nats ps).Perm (List.range M) := by
 constructor
 ·intro e
  have p : ps.Perm ((List.range M).map fun (k : Nat) => (k : Int)) := by
   rw [<- e]
   exact (List.mergeSort_perm _ _).symm
  have q := p.map Int.toNat
  rw [List.map_map] at q
  have z : (List.range M).map (Int.toNat ∘ fun (k : Nat) => (k : Int)) = List.range M := by
   conv => rhs; rw [<- List.map_id (List.range M)]
   exact List.map_congr_left fun k _ => Int.toNat_natCast k
  rw [z] at q
  exact q
 ·intro p
  have q := p.map (fun (k : Nat) => (k : Int))
  rw [y3 h] at q
  refine List.Perm.eq_of_pairwise (le := fun a b => decide (a <= b) = true) (fun a b _ _ h1 h2 => ?_) (List.pairwise_mergeSort (fun a b c h1 h2 => ?_) (fun a b => ?_) _) ?_ ((List.mergeSort_perm _ _).trans q)
  ·rw [decide_eq_true_eq] at h1 h2; lia
  ·rw [decide_eq_true_eq] at h1 h2 ⊢; lia
  ·rw [Bool.or_eq_true, decide_eq_true_eq, decide_eq_true_eq]; lia
  ·rw [List.pairwise_map]
   refine List.Pairwise.imp (R := fun x1 x2 => x1 < x2) (fun {a b} h => ?_) List.pairwise_lt_range
   rw [decide_eq_true_eq]; lia
theorem pick_run {α : Type} (xs : List α) (lo n : Nat) (hl : lo + n <= xs.length) (d : α) : pick xs (some (lo : Int)) (some ((lo + n : Nat) : Int)) none = (List.range n).map fun j => xs.getD (lo + j) d := by
 have hb : sliceBounds (some (lo : Int)) (some ((lo + n : Nat) : Int)) none xs.length = ((lo : Int), ((lo + n : Nat) : Int), 1) := by
  unfold sliceBounds
  simp only [Option.getD_none, if_pos (show (1 : Int) > 0 by decide)]
  refine Prod.ext ?_ (Prod.ext ?_ rfl)
  ·show max 0 (min (if (lo : Int) < 0 then (lo : Int) + xs.length else lo) xs.length) = (lo : Int)
   rw [if_neg (by lia)]
   lia
  ·show max 0 (min (if ((lo + n : Nat) : Int) < 0 then ((lo + n : Nat) : Int) + xs.length else ((lo + n : Nat) : Int)) xs.length) = ((lo + n : Nat) : Int)
   rw [if_neg (by lia)]
   lia
 unfold pick
 rw [hb]
 dsimp only
 by_cases hn : n = 0
 ·subst hn
  unfold sliceRange
  simp
 unfold sliceRange
 dsimp only
 have hc : ((((lo + n : Nat) : Int) - lo + 1 - 1) / 1).toNat = n := by
  rw [Int.ediv_one]
  lia
 rw [if_pos (by decide), if_pos (by lia), hc, List.filterMap_map]
 refine QI fun i hi => ?_
 have hi := List.mem_range.mp hi
 have e : ((lo : Int) + 1 * (i : Int)).toNat = lo + i := by lia
 show xs[((lo : Int) + 1 * (i : Int)).toNat]? = some (xs.getD (lo + i) d)
 rw [e, List.getD_eq_getElem?_getD, List.getElem?_eq_getElem (by lia)]
 rfl
theorem Q8 {r : RE} {δ : Dl} {i : Int} {k : Kd} (h : r δ = .ok (.int i, k)) : wY r δ = .ok (some i) := by unfold wY; rw [h]; rfl
theorem yU {α : Type} (l : List α) (d : α) : l = (List.range l.length).map fun k => l.getD k d := by
 refine List.ext_getElem? fun k => ?_
 rw [List.getElem?_map]
 by_cases h : k < l.length
 ·rw [List.getElem?_range h, List.getElem?_eq_getElem h]
  show _ = some (l.getD k d)
  rw [List.getD_eq_getElem?_getD, List.getElem?_eq_getElem h]
  rfl
 ·rw [List.getElem?_eq_none (by lia), List.getElem?_eq_none (by rw [List.length_range]; lia)]
  rfl
theorem ud (m n : Nat) (a p : List Nat) : Few (PvCalls.answer (.rows m n a p)) := Zi fun g => by
 have g : (PvCalls.size m && (PvCalls.size n && (p.length == m))) = true := g
 rw [Bool.and_eq_true, Bool.and_eq_true] at g
 show Few (PvCalls.given [(m * n, a)] (if Pv.isRow m p = true then .ok (Pv.rows m n (PvCalls.tableOf m n a) p) else .error (-4)) PvCalls.table)
 refine Qd ?_
 by_cases c : Pv.isRow m p = true
 ·rw [if_pos c]
  show (PvCalls.flat (Pv.tableBy m n _)).length <= 1000
  rw [QO]
  exact jR g.1 g.2.1
 ·rw [if_neg c]
  exact .inr (.inr (.inr rfl))
theorem YG {a b : Int} (h : a = b) : (Rs.ok (D.int a, Kd.nw) : Rs DK) = .ok (.int b, .nw) := by rw [h]
theorem Qj {ns : List Int} (h : wM ns) : ns.map D.int = (nats ns).map fun (n : Nat) => D.int n := by
 conv => lhs; rw [<- y3 h]
 rw [List.map_map]
 rfl
theorem VE {ns : List Int} (h : wM ns) : ∀ v ∈ nats ns, v < 2 ^ 64 := fun v hv => by
 obtain ⟨x, hx, rfl⟩ := List.mem_map.mp hv
 obtain ⟨h1, h2⟩ := h x hx
 lia
theorem ZH {xs : List D} {k l : Kd} {i : Nat} {d : D} (h : xs[i]? = some d) : oIx (.lst xs, k) (.int (i : Nat), l) = .ok (d, k.low .nw) := by
 have hi : i < xs.length := (List.getElem?_eq_some_iff.mp h).1
 have e : xo xs.length (i : Nat) = some i := by
  unfold xo
  rw [if_pos (by lia), if_pos (by lia), Int.toNat_natCast]
 unfold oIx
 dsimp only
 rw [e]
 show (match xs[i]? with | some d => Rs.ok (d, k.low .nw) | none => .no) = _
 rw [h]
theorem Vh {l : List Nat} (k : Nat) : (l.map fun (n : Nat) => D.int n).getD k (.int 0) = .int (l.getD k 0 : Nat) := by
 rw [List.getD_eq_getElem?_getD, List.getElem?_map, List.getD_eq_getElem?_getD]
 cases l[k]? <;> rfl
theorem yY {l : List Nat} (h : ∀ v ∈ l, v < 2 ^ 64) (k : Nat) : l.getD k 0 < 2 ^ 64 := by
 rw [List.getD_eq_getElem?_getD]
 cases e : l[k]? with
 | none => decide
 | some x => exact h x (List.mem_of_getElem? e)
end Dt
set_option maxHeartbeats 4000000
set_option maxHeartbeats 2000000
namespace L2.Ir
open PySem
inductive Itm where
 | v (d : D) (k : Bool) | c (n : Nat)
inductive Cell where
 | lst (xs : List Itm) | ins (c : Str) (ns : List Str) (xs : List Itm)
structure MS where
 s : List (Option Itm)
 μ : List Cell
inductive wX where
 | nx (m : MS) | rt (x : Itm) (μ : List Cell) | bk (m : MS) | ct (m : MS) | er (c : Str) | no
noncomputable abbrev RM := MS -> wX
noncomputable def vQ : Option Itm -> Sl
 | some (.v d k) => .val d k
 | _ => .un
noncomputable def qR (m : MS) : Dl := m.s.map vQ
noncomputable def qB : DK -> Option Itm
 | (d, k) => if d.sc = true then some (.v d true) else match k with
  | .nw => some (.v d true)
  | .fr => some (.v d true)
  | .sh => some (.v d false)
  | _ => none
noncomputable abbrev IE := MS -> Rs Itm
noncomputable abbrev NE := MS -> Rs (List Itm)
noncomputable def ieV (i : Nat) : IE := fun m => match m.s[i]? with
 | some (some x) => .ok x
 | _ => .no
noncomputable def cellAt (m : MS) : Itm -> Option (Nat × Cell)
 | .c n => (m.μ[n]?).map fun x => (n, x)
 | _ => none
noncomputable def Vl : NE := fun _ => .ok []
noncomputable def wX.andThen (o : wX) (f : RM) : wX := match o with
 | .nx m => f m
 | o => o
noncomputable def jh (a b : RM) : RM := fun m => (a m).andThen b
noncomputable def mDo {α : Type} (x : Rs α) (f : α -> wX) : wX := match x with
 | .ok a => f a
 | .er c => .er c
 | .no => .no
noncomputable def Ww (i : Nat) (e : NE) : RM := fun m => mDo (e m) fun xs => .nx ⟨m.s.set i (some (.c m.μ.length)), m.μ ++ [.lst xs]⟩
noncomputable def Yx (e : IE) : RM := fun m => mDo (e m) fun x => .rt x m.μ
inductive W8 where
 | ok (x : Itm) (μ : List Cell) | er (c : Str) | no
noncomputable abbrev Fm := List Itm -> List Cell -> W8
noncomputable def Tg.xR : Tg -> DK -> MS -> Option MS
 | .one i, x, m => (qB x).map fun y => ⟨m.s.set i (some y), m.μ⟩
 | .two i j, (.tup [a, b], k), m => (qB (a, k)).bind fun y => (qB (b, k)).map fun z => ⟨(m.s.set i (some y)).set j (some z), m.μ⟩
 | _, _, _ => none
noncomputable def vx (tg : Tg) (body : RM) : List DK -> RM
 | [], m => .nx m
 | x :: r, m => match tg.xR x m with
  | none => .no
  | some m1 => match body m1 with
   | .nx m2 => vx tg body r m2
   | .ct m2 => vx tg body r m2
   | .bk m2 => .nx m2
   | o => o
noncomputable abbrev MI := MS -> Rs (List DK)
noncomputable def ZD (src : RI) : MI := fun m => (src (qR m)).bind fun x => if x.1 = true then .ok x.2 else .no
noncomputable def Wq (tg : Tg) (src : MI) (body : RM) : RM := fun m => mDo (src m) fun xs => vx tg body xs m
noncomputable def ZO : wX -> W8
 | .rt x μ => .ok x μ
 | .nx m => .ok (.v .non true) m.μ
 | .er c => .er c
 | _ => .no
noncomputable def ms0 (N : List Str) (xs : List Itm) : List (Option Itm) := xs.map some ++ List.replicate (N.length - xs.length) none
noncomputable def wJ (μ : List Cell) : Nat -> Itm -> Option D
 | _, .v d k => if d.sc = true \/ k = true then some d else none
 | 0, .c _ => none
 | f + 1, .c n => match μ[n]? with
  | some (.lst xs) => (xs.mapM (wJ μ f)).map D.lst
  | some (.ins c ns xs) => (xs.mapM (wJ μ f)).map (D.obj c ns)
  | none => none
noncomputable def Vj (μ : List Cell) (x : Itm) : Rs (D × Bool) := match wJ μ 3 x with
 | some d => match x, d with
  | .c _, .lst ds => .ok (.lst ds, ds.all D.sc)
  | _, d => .ok (d, false)
 | none => .no
noncomputable def V8 : wX -> Rs (D × Bool)
 | .rt x μ => Vj μ x
 | .nx _ => .ok (.non, false)
 | .er c => .er c
 | _ => .no
noncomputable def it0 (ds : List D) : List Itm := ds.map fun d => .v d false
noncomputable def uH (i j c : Int) : Option (List Int) :=
 if (-1000000 < i /\ i < 1000000) /\ (-1000000 < j /\ j < 1000000) /\ (-1000000 < c /\ c < 1000000) then (if c = -1 then some ((List.range (i - j).toNat).map fun (k : Nat) => i - k)
  else if 0 < c /\ i = 0 then some ((List.range ((j + c - 1) / c).toNat).map fun (k : Nat) => k * c) else none) else none
noncomputable def zk (r q t : RE) : RI := fun δ => (r δ).bind fun x => (q δ).bind fun y => (t δ).bind fun z => match x.1, y.1, z.1 with
 | .int i, .int j, .int c => match uH i j c with
  | some l => .ok (true, l.map fun n => (D.int n, .nw))
  | none => .no
 | _, _, _ => .no
noncomputable def Wu (m : MS) : Option (Nat × Cell) -> D -> wX
 | some (n, .lst xs), .lst ds => if ds.all D.sc = true /\ xs.length + ds.length <= LIM then .nx ⟨m.s, m.μ.set n (.lst (xs ++ ds.map fun d => .v d true))⟩ else .no
 | _, _ => .no
noncomputable def zM (ec : IE) (r : RE) : RM := fun m => mDo (ec m) fun y => match cellAt m y with
 | some (n, .lst xs) => mDo (r (qR m)) fun x => Wu m (some (n, .lst xs)) x.1
 | _ => .no
end L2.Ir
namespace Gr
open PySem L2 L2.Ir Dt
noncomputable abbrev rD (r : List Nat) : D := .lst (r.map fun (n : Nat) => D.int n)
noncomputable abbrev tD (t : List (List Nat)) : D := .lst (t.map rD)
noncomputable abbrev R64 (r : List Nat) : Prop := ∀ v ∈ r, v < 2 ^ 64
noncomputable abbrev T64 (t : List (List Nat)) : Prop := ∀ r ∈ t, R64 r
noncomputable abbrev Wide (n : Nat) (t : List (List Nat)) : Prop := ∀ r ∈ t, r.length = n
noncomputable def erz {α : Type} (z : Int) : Rs α := if z = -4 then .er "NotAsTold" else .er "StepNotFinite"
noncomputable def dK {α : Type} (f : α -> DK) : Pv.Did α -> Rs DK
 | .ok a => .ok (f a)
 | .error z => erz z
noncomputable def dB {α : Type} (f : α -> D × Bool) : Pv.Did α -> Rs (D × Bool)
 | .ok a => .ok (f a)
 | .error z => erz z
noncomputable def dM {α β : Type} (f : α -> β) : Pv.Did α -> Rs β
 | .ok a => .ok (f a)
 | .error z => erz z
theorem z0 {α β : Type} (z : Int) (f : α -> Rs β) : (erz z : Rs α).bind f = erz z := by
 unfold erz
 split <;> rfl
theorem xE (r : List Nat) : (r.map fun (n : Nat) => D.int n).all D.sc = true := by
 rw [List.all_map, List.all_eq_true]
 intro x _
 rfl
theorem xI {β γ : Type} (g : β -> γ) : ∀ l : List β, l.mapM (fun x => (Except.ok (g x) : Pv.Did γ)) = .ok (l.map g)
 | [] => rfl
 | x :: l => by rw [List.mapM_cons, xI g l]; rfl
theorem QV {tg : Tg} {src : RI} {r : RE} {vs : List Nat} {δ : Dl} {b : Bool} {xs : List DK} (hsrc : src δ = .ok (b, xs)) (hl : xs.length < LIM) : zg tg src yk r vs δ = (items tg yk r (clear δ vs) xs).bind fun ys => .ok (.lst (ys.map (·.1)), kL (ys.map (·.1)) (qi ys)) := by
 unfold zg
 rw [hsrc, Rs.ve, if_pos hl]
theorem uG {β γ : Type} {tg : Tg} {r : RE} {δ : Dl} {enc : β -> DK} {f : β -> Pv.Did γ} {dec : γ -> DK} : ∀ {l : List β}, (∀ b ∈ l, ∃ δ1, tg.put (enc b) δ = some δ1 /\ r δ1 = dK dec (f b)) -> items tg yk r δ (l.map enc) = dM (fun ys => ys.map dec) (l.mapM f)
 | [], _ => rfl
 | b :: l, h => by
  obtain ⟨δ1, e1, e2⟩ := h b (List.mem_cons_self)
  have ih := uG fun x hx => h x (List.mem_cons_of_mem _ hx)
  show (match tg.put (enc b) δ with | none => _ | some δ1 => _) = _
  rw [e1]
  dsimp only
  show (Rs.ok true).bind _ = _
  rw [Rs.ve, if_pos rfl, e2, ih, List.mapM_cons]
  cases f b with
  | error z => exact z0 z _
  | ok v =>
   show (dM (fun ys => ys.map dec) (l.mapM f)).bind _ = _
   cases l.mapM f with
   | error z => exact z0 z _
   | ok q => rfl
theorem Vu {β γ : Type} {tg : Tg} {src : RI} {r : RE} {vs : List Nat} {δ : Dl} {b : Bool} {enc : β -> DK} {f : β -> Pv.Did γ} {dec : γ -> DK} {l : List β} (hsrc : src δ = .ok (b, l.map enc)) (hl : l.length < LIM)
  (hi : ∀ x ∈ l, ∃ δ1, tg.put (enc x) (clear δ vs) = some δ1 /\ r δ1 = dK dec (f x)) : zg tg src yk r vs δ = dK (fun ys => (.lst (ys.map fun y => (dec y).1), kL (ys.map fun y => (dec y).1) (qi (ys.map dec)))) (l.mapM f) := by
 rw [QV hsrc (by rw [List.length_map]; exact hl), uG hi]
 cases l.mapM f with
 | error z => exact z0 z _
 | ok ys =>
  show Rs.ok (D.lst ((ys.map dec).map (·.1)), kL ((ys.map dec).map (·.1)) (qi (ys.map dec))) = _
  rw [List.map_map]
  rfl
theorem uo {k : Kd} (hk : k = .fr \/ k = .nw) : ∀ ys : List (List Nat), qi (ys.map fun r => (rD r, k)) = .nw
 | [] => rfl
 | y :: ys => by
  show (if (rD y).sc = true then _ else k.low (qi (ys.map fun r => (rD r, k)))) = _
  rw [if_neg (show ¬ ((rD y).sc = true) from Bool.false_ne_true), uo hk ys]
  rcases hk with rfl | rfl <;> rfl
noncomputable def kT (t : List (List Nat)) : Kd := if t = [] then .fr else .nw
theorem Wx (t : List (List Nat)) : kL (t.map rD) .nw = kT t := by
 unfold kT
 cases t with
 | nil => rfl
 | cons r t => rw [if_neg (fun z => nomatch z)]; exact if_neg (fun z => nomatch z)
theorem WV {t : List (List Nat)} (h : 0 < t.length) : kT t = .nw := by
 unfold kT
 exact if_neg (fun z => by rw [z] at h; exact absurd h (Nat.lt_irrefl _))
theorem um {β : Type} {tg : Tg} {src : RI} {r : RE} {vs : List Nat} {δ : Dl} {b : Bool} {enc : β -> DK} {f : β -> Pv.Did (List Nat)} {k : Kd} {l : List β} (hk : k = .fr \/ k = .nw) (hsrc : src δ = .ok (b, l.map enc)) (hl : l.length < LIM)
  (hi : ∀ x ∈ l, ∃ δ1, tg.put (enc x) (clear δ vs) = some δ1 /\ r δ1 = dK (fun r => (rD r, k)) (f x)) : zg tg src yk r vs δ = dK (fun t => (tD t, kT t)) (l.mapM f) := by
 rw [Vu hsrc hl hi]
 cases l.mapM f with
 | error z => rfl
 | ok ys =>
  show Rs.ok (D.lst (ys.map fun y => rD y), kL (ys.map fun y => rD y) (qi (ys.map fun r => (rD r, k)))) = _
  rw [uo hk, Wx]
  rfl
theorem Wl {r : RE} {δ : Dl} {x : Pv.Did (List (List Nat))} (hf : freeze δ = δ) (h : r δ = dK (fun t => (tD t, kT t)) x) (hne : ∀ t, x = .ok t -> 0 < t.length) : res (vT r δ) = dB (fun t => (tD t, false)) x := by
 cases x with
 | ok a =>
  have h : r δ = .ok (tD a, kT a) := h
  rw [WV (hne a rfl)] at h
  rw [jO (by rw [hf]; exact h)]
  rfl
 | error z =>
  have h : r δ = erz z := h
  show _ = erz z
  unfold erz at h ⊢
  by_cases c : z = -4
  ·rw [if_pos c] at h ⊢; rw [xM (by rw [hf]; exact h)]; rfl
  ·rw [if_neg c] at h ⊢; rw [xM (by rw [hf]; exact h)]; rfl
theorem Zt {r : RE} {δ : Dl} {xs : List D} {k : Kd} (h : r δ = .ok (.lst xs, k)) : vz yB (qf r qC) δ = .ok (.int (xs.length : Nat), .nw) := by
 unfold vz
 rw [qz h qX]
 rfl
theorem WD (t : List (List Nat)) (i : Nat) (h : i < t.length) : (t.map rD)[i]? = some (rD (t.getD i [])) := by
 rw [List.getElem?_map, List.getElem?_eq_getElem h, List.getD_eq_getElem?_getD, List.getElem?_eq_getElem h]
 rfl
noncomputable def wH : RS := (vT (zg (.one 2) (zk (rC (.int 0)) (vz yB (qf (qe 0) qC)) (qe 1)) yk (yG (qe 0) (wY (qe 2)) (wY (qJ uW (qe 2) (qe 1))) zN) [2]))
noncomputable def vn : Fn := fun ds => res (wH (sl0 ["numbers", "n", "start"] ds))
theorem QB {m n : Nat} (hn : 0 < n) : (((m * n : Nat) : Int) + (n : Int) - 1) / (n : Int) = m := by
 have e : ((m * n : Nat) : Int) + (n : Int) - 1 = (n : Int) - 1 + (n : Int) * m := by
  rw [Int.natCast_mul, Int.mul_comm]
  lia
 rw [e, Int.add_mul_ediv_left _ _ (by lia), Int.ediv_eq_zero_of_lt (by lia) (by lia), Int.zero_add]
theorem Wg {m n : Nat} (hn : 0 < n) (h : m * n < 1000000) (h2 : n <= 1000) : uH 0 ((m * n : Nat) : Int) n = some ((List.range m).map fun (k : Nat) => (k : Int) * n) := by
 have c1 : (-1000000 < (0 : Int) /\ (0 : Int) < 1000000) /\ (-1000000 < ((m * n : Nat) : Int) /\ ((m * n : Nat) : Int) < 1000000) /\ (-1000000 < (n : Int) /\ (n : Int) < 1000000) := by
  generalize m * n = q at h
  lia
 unfold uH
 rw [if_pos c1, if_neg (by lia), if_pos ⟨by lia, rfl⟩, QB hn, Int.toNat_natCast]
theorem u1 {r q t : RE} {δ : Dl} {i j c : Int} {k1 k2 k3 : Kd} {l : List Int} (h1 : r δ = .ok (.int i, k1)) (h2 : q δ = .ok (.int j, k2)) (h3 : t δ = .ok (.int c, k3)) (h : uH i j c = some l) : zk r q t δ = .ok (true, l.map fun n => (D.int n, .nw)) := by
 unfold zk
 rw [h1, h2, h3, Rs.ve, Rs.ve, Rs.ve]
 dsimp only
 rw [h]
theorem Qw {a : List Nat} {m n : Nat} (ha : a.length = m * n) (hm : 0 < m) (hm2 : m <= 1000) (hn : 0 < n) (hn2 : n <= 1000) (hmn : m * n < 1000000) : vn [rD a, .int n] = .ok (tD (PvCalls.tableOf m n a), false) := by
 show res (wH [.val (rD a) false, .val (.int n) false, .un]) = _
 unfold wH
 have hsrc : zk (rC (.int 0)) (vz yB (qf (qe 0) qC)) (qe 1) [.val (rD a) false, .val (.int n) false, .un] = .ok (true, (List.range m).map fun (k : Nat) => (D.int ((k * n : Nat) : Int), .nw)) := by
  refine (u1 (i := 0) (j := ((m * n : Nat) : Int)) (c := n) rfl ((Zt (r := qe 0) (k := .sh) rfl).trans (by rw [List.length_map, ha])) rfl (Wg hn hmn hn2)).trans ?_
  rw [List.map_map]
  have e : ((fun n => (D.int n, Kd.nw)) ∘ fun (k : Nat) => (k : Int) * n) = fun (k : Nat) => (D.int ((k * n : Nat) : Int), Kd.nw) := by
   funext k
   show (D.int ((k : Int) * n), Kd.nw) = _
   rw [Int.natCast_mul]
  rw [e]
 have hc := um (tg := .one 2) (r := yG (qe 0) (wY (qe 2)) (wY (qJ uW (qe 2) (qe 1))) zN) (vs := [2]) (δ := [.val (rD a) false, .val (.int n) false, .un]) (f := fun i => .ok ((List.range n).map fun j => a.getD (n * i + j) 0)) (.inl rfl) hsrc (by rw [List.length_range]; show m < 16777216; lia) (fun i hi => ⟨[.val (rD a) false, .val (.int n) false, .val (.int ((i * n : Nat) : Int)) true], rfl, by
  have hi := List.mem_range.mp hi
  have hin : i * n + n <= m * n := by rw [<- Nat.succ_mul]; exact Nat.mul_le_mul_right _ hi
  have q := j6 (ra := qe 0) (rl := wY (qe 2)) (rh := wY (qJ uW (qe 2) (qe 1))) (rs := zN) (δ := [.val (rD a) false, .val (.int n) false, .val (.int ((i * n : Nat) : Int)) true]) (xs := a.map fun (n : Nat) => D.int n) (k := .sh) (lo := some ((i * n : Nat) : Int)) (hi := some ((i * n + n : Nat) : Int)) (st := none) rfl rfl (Q8 (k := .nw) ((zJ (x := (.int ((i * n : Nat) : Int), .nw)) (y := (.int n, .sh)) rfl rfl).trans (YG (by rw [Int.natCast_add])))) rfl (by intro z; cases z)
  rw [q, pick_run (a.map fun (n : Nat) => D.int n) (i * n) n (by rw [List.length_map, ha]; exact hin) (.int 0)]
  have e : ((List.range n).map fun j => (a.map fun (n : Nat) => D.int n).getD (i * n + j) (.int 0)) = ((List.range n).map fun j => a.getD (n * i + j) 0).map fun (n : Nat) => D.int n := by
   rw [List.map_map]
   refine List.map_congr_left fun j _ => ?_
   rw [Vh, Nat.mul_comm i n]
   rfl
  rw [e, Y1 (xE _)]
  rfl⟩)
 rw [xI] at hc
 exact Wl rfl hc (fun t ht => by cases ht; rw [List.length_map, List.length_range]; exact hm)
theorem uD {β : Type} {tg : Tg} {body : RM} {enc : β -> DK} {b : β} {l : List β} {m m1 : MS} (hp : tg.xR (enc b) m = some m1) : vx tg body ((b :: l).map enc) m = (match body m1 with | .nx m2 => vx tg body (l.map enc) m2 | .ct m2 => vx tg body (l.map enc) m2 | .bk m2 => .nx m2 | o => o) := by
 show (match tg.xR (enc b) m with | none => _ | some m1 => _) = _
 rw [hp]
 all_goals rfl
theorem jv {a b : RM} {m m1 : MS} (h : a m = .nx m1) : jh a b m = b m1 := by unfold jh; rw [h]; rfl
theorem VV {tg : Tg} {src : MI} {body : RM} {m : MS} {xs : List DK} (h : src m = .ok xs) : Wq tg src body m = vx tg body xs m := by unfold Wq mDo; rw [h]
theorem y6 (μ : List Cell) (f : Nat) : ∀ ds : List D, (ds.map fun d => Itm.v d true).mapM (wJ μ f) = some ds
 | [] => rfl
 | d :: ds => by
  rw [List.map_cons, List.mapM_cons, y6 μ f ds]
  have e : wJ μ f (.v d true) = some d := by
   cases f <;> exact if_pos (.inr rfl)
  rw [e]
  rfl
noncomputable def xp : RM := (jh (Ww 1 Vl) (jh (Wq (.one 2) (ZD (iOf (qe 0))) (zM (ieV 1) (qe 2))) (Yx (ieV 1))))
noncomputable def wk : Fn := fun ds => V8 (xp ⟨ms0 ["grid", "numbers", "row"] (it0 ds), []⟩)
theorem uv {t : List (List Nat)} : ∀ {n : Nat}, Wide n t -> (PvCalls.flat t).length = t.length * n := fun {n} h => by
 unfold PvCalls.flat
 induction t with
 | nil => simp
 | cons r t ih =>
  rw [List.flatMap_cons, List.length_append, ih (fun x hx => h x (List.mem_cons_of_mem _ hx)), h r List.mem_cons_self, List.length_cons, Nat.succ_mul]
  lia
theorem Yc {t : List (List Nat)} {n : Nat} (h : Wide n t) (hl : t.length * n <= 1000000) : wk [tD t] = .ok (rD (PvCalls.flat t), true) := by
 show V8 (xp ⟨[some (.v (tD t) false), none, none], []⟩) = _
 unfold xp
 rw [jv (show Ww 1 Vl ⟨[some (.v (tD t) false), none, none], []⟩ = .nx ⟨[some (.v (tD t) false), some (.c 0), none], [.lst []]⟩ from rfl)]
 have hsrc : ZD (iOf (qe 0)) ⟨[some (.v (tD t) false), some (.c 0), none], [.lst []]⟩ = .ok (t.map fun r => (rD r, .sh)) := by
  show Rs.ok ((t.map rD).map fun d => (d, Kd.sh)) = _
  rw [List.map_map]
  rfl
 have hb : ∀ s : List Nat, ∀ l : List (List Nat), (∀ x ∈ l, x ∈ t) -> s.length + l.length * n <= 1000000 -> ∀ u : Option Itm, ∃ u', vx (.one 2) (zM (ieV 1) (qe 2)) (l.map fun r => (rD r, Kd.sh)) ⟨[some (.v (tD t) false), some (.c 0), u], [.lst ((s.map fun (n : Nat) => D.int n).map fun d => .v d true)]⟩ = .nx ⟨[some (.v (tD t) false), some (.c 0), u'], [.lst (((s ++ PvCalls.flat l).map fun (n : Nat) => D.int n).map fun d => .v d true)]⟩ := by
  intro s l
  induction l generalizing s with
  | nil => intro _ _ u; exact ⟨u, by show wX.nx _ = _; rw [show PvCalls.flat [] = [] from rfl, List.append_nil]⟩
  | cons r l ih =>
   intro hx hs u
   have hr : r.length = n := h r (hx r List.mem_cons_self)
   rw [List.length_cons, Nat.succ_mul] at hs
   rw [uD (m1 := ⟨[some (.v (tD t) false), some (.c 0), some (.v (rD r) false)], [.lst ((s.map fun (n : Nat) => D.int n).map fun d => .v d true)]⟩) rfl]
   have hbody : zM (ieV 1) (qe 2) ⟨[some (.v (tD t) false), some (.c 0), some (.v (rD r) false)], [.lst ((s.map fun (n : Nat) => D.int n).map fun d => .v d true)]⟩ = .nx ⟨[some (.v (tD t) false), some (.c 0), some (.v (rD r) false)], [.lst (((s ++ r).map fun (n : Nat) => D.int n).map fun d => .v d true)]⟩ := by
    show (if (r.map fun (n : Nat) => D.int n).all D.sc = true /\ ((s.map fun (n : Nat) => D.int n).map fun d => Itm.v d true).length + (r.map fun (n : Nat) => D.int n).length <= LIM then _ else _) = _
    rw [if_pos ⟨xE r, by rw [List.length_map, List.length_map, List.length_map]; show _ <= 16777216; lia⟩]
    show wX.nx ⟨_, [Cell.lst (((s.map fun (n : Nat) => D.int n).map fun d => Itm.v d true) ++ ((r.map fun (n : Nat) => D.int n).map fun d => Itm.v d true))]⟩ = _
    rw [<- List.map_append, <- List.map_append]
   rw [hbody]
   obtain ⟨u', q⟩ := ih (s ++ r) (fun x hx' => hx x (List.mem_cons_of_mem _ hx')) (by rw [List.length_append]; lia) (some (.v (rD r) false))
   refine ⟨u', ?_⟩
   show vx _ _ _ _ = _
   rw [q, show PvCalls.flat (r :: l) = r ++ PvCalls.flat l from rfl, List.append_assoc]
 obtain ⟨u', q⟩ := hb [] t (fun _ h => h) (by simpa using hl) none
 rw [jv ((VV hsrc).trans q), List.nil_append]
 show Vj [.lst (((PvCalls.flat t).map fun (n : Nat) => D.int n).map fun d => Itm.v d true)] (.c 0) = _
 have e : wJ [.lst (((PvCalls.flat t).map fun (n : Nat) => D.int n).map fun d => Itm.v d true)] 3 (.c 0) = some (rD (PvCalls.flat t)) := by
  show (List.mapM (wJ _ 2) _).map D.lst = _
  rw [y6]
  rfl
 unfold Vj
 rw [e]
 show Rs.ok (rD (PvCalls.flat t), ((PvCalls.flat t).map fun (n : Nat) => D.int n).all D.sc) = _
 rw [xE]
noncomputable def vN : RS := (vT (qA qy (qf (qA wk (qf (qe 0) qC)) qC)))
noncomputable def qG : Fn := fun ds => res (vN (sl0 ["grid"] ds))
theorem uq {t : List (List Nat)} {n : Nat} (h : Wide n t) (hl : t.length * n <= 1000000) : qG [tD t] = .ok (.lst (.int (PvCalls.flat t).length :: (PvCalls.flat t).map fun (n : Nat) => D.int n), true) := by
 show res (vN [.val (tD t) false]) = _
 unfold vN
 have hfl : qA wk (qf (qe 0) qC) [.val (tD t) false] = .ok (rD (PvCalls.flat t), .fr) := by
  rw [wz (qz (x := (tD t, .sh)) rfl qX)]
  show (wk [tD t]).bind _ = _
  rw [Yc h hl]
  rfl
 have hw : qA qy (qf (qA wk (qf (qe 0) qC)) qC) [.val (tD t) false] = .ok (.lst (.int (PvCalls.flat t).length :: (PvCalls.flat t).map fun (n : Nat) => D.int n), .fr) := by
  rw [wz (qz hfl qX)]
  show (qy [rD (PvCalls.flat t)]).bind _ = _
  rw [xc (xE _) (by rw [List.length_map, uv h]; show _ < 16777216; lia), List.length_map]
  rfl
 rw [xA hw]
 rfl
theorem getD_mem {α : Type} {l : List α} {i : Nat} (d : α) (h : i < l.length) : l.getD i d ∈ l := by
 rw [List.getD_eq_getElem?_getD, List.getElem?_eq_getElem h]
 exact List.getElem_mem h
theorem map_getD {α β : Type} {l : List α} {f : α -> β} {i : Nat} (d : α) (e : β) (h : i < l.length) : (l.map f).getD i e = f (l.getD i d) := by
 rw [List.getD_eq_getElem?_getD, List.getElem?_map, List.getElem?_eq_getElem h, List.getD_eq_getElem?_getD, List.getElem?_eq_getElem h]
 rfl
structure Tb (m n : Nat) (t : List (List Nat)) : Prop where
 len : t.length = m
 wide : Wide n t
 b64 : T64 t
theorem Tb.Yy {m n : Nat} {t : List (List Nat)} (h : Tb m n t) (i j : Nat) : Pv.Table.at_ t i j < 2 ^ 64 := by
 unfold Pv.Table.at_
 by_cases hi : i < t.length
 ·exact yY (h.b64 _ (getD_mem [] hi)) j
 ·have e : t.getD i [] = [] := by rw [List.getD_eq_getElem?_getD, List.getElem?_eq_none (by lia)]; rfl
  rw [e]
  exact (by decide : (0 : Nat) < 2 ^ 64)
theorem W2 {m n : Nat} {f : Nat -> Nat -> Nat} (hf : ∀ i j, f i j < 2 ^ 64) : Tb m n (Pv.tableBy m n f) := by
 unfold Pv.tableBy
 refine ⟨by rw [List.length_map, List.length_range], fun r hr => ?_, fun r hr v hv => ?_⟩
 ·obtain ⟨i, _, rfl⟩ := List.mem_map.mp hr
  rw [List.length_map, List.length_range]
 ·obtain ⟨i, _, rfl⟩ := List.mem_map.mp hr
  obtain ⟨j, _, rfl⟩ := List.mem_map.mp hv
  exact hf i j
theorem jf {m n : Nat} {l : List Nat} (h : R64 l) : Tb m n (PvCalls.tableOf m n l) := W2 fun i j => yY h _
noncomputable abbrev kOf (y : D × Bool) : Rs DK := .ok (y.1, kB y.2)
theorem YS {g : Fn} {r : RE} {δ : Dl} {R : Rs (D × Bool)} (h : r δ = R.bind kOf) : qA g (qf r qC) δ = (R.bind fun y => g [y.1]).bind kOf := by
 unfold qA qf
 rw [h]
 cases R with
 | ok y => rfl
 | er c => rfl
 | no => rfl
theorem call_K {g : Fn} {r : RA} {δ : Dl} {xs : List DK} (h : r δ = .ok xs) : qA g r δ = (g (xs.map (·.1))).bind kOf := wz h
theorem QK {T : Pv.Did Pv.Table} {m n : Nat} (h : ∀ t, T = .ok t -> Tb m n t) (hl : m * n <= 1000000) (he : ∀ z, T = .error z -> z = -3 \/ z = -4) : (dB (fun t => (tD t, false)) T).bind (fun y => qG [y.1]) = vf (Yb T PvCalls.table) := by
 cases e : T with
 | ok t =>
  have ht := h t e
  show qG [tD t] = _
  rw [uq ht.wide (by rw [ht.len]; exact hl)]
  show _ = vf (.row (PvCalls.flat t))
  rw [QR]
 | error z => rcases he z e with rfl | rfl <;> rfl
theorem Wj {r : RE} {δ : Dl} {R : Rs (D × Bool)} (hf : freeze δ = δ) (h : r δ = R.bind kOf) (hR : ∀ y, R = .ok y -> y.2 = true -> ∃ ds, y.1 = .lst ds) : res (vT r δ) = R := by
 cases R with
 | ok y =>
  obtain ⟨d, b⟩ := y
  cases b with
  | true =>
   obtain ⟨ds, hd⟩ := hR _ rfl rfl
   have hd : d = .lst ds := hd
   subst hd
   rw [xA (by rw [hf]; exact h)]
   rfl
  | false => rw [jO (by rw [hf]; exact h)]; rfl
 | er c => rw [xM (by rw [hf]; exact h)]; rfl
 | no =>
  have h : r δ = .no := h
  unfold vT
  rw [hf, h]
  rfl
theorem Vv {a : PvCalls.Answer} {y : D × Bool} (h : vf a = .ok y) : ∃ ds, y.1 = .lst ds := by
 cases a with
 | refused z =>
  unfold vf at h
  dsimp only at h
  split at h
  ·cases h
  ·split at h
   ·cases h
   ·split at h
    ·cases h
    ·split at h <;> cases h
 | number x => cases h; exact ⟨_, rfl⟩
 | row l => cases h; exact ⟨_, rfl⟩
 | rows l k => cases h; exact ⟨_, rfl⟩
 | lu x p t => cases h; exact ⟨_, rfl⟩
 | told e l => cases h; exact ⟨_, rfl⟩
theorem Vf {m n : Nat} {t : List (List Nat)} {p : List Int} (h : Tb m n t) (hp : p.length = m) (hi : ∀ i ∈ p, i.toNat < m) : p.map (fun i => t.getD i.toNat []) = Pv.rows m n t (nats p) := by
 unfold Pv.rows Pv.tableBy
 conv => lhs; rw [yU p 0, hp]
 rw [List.map_map]
 refine List.map_congr_left fun i hi2 => ?_
 have hi2 := List.mem_range.mp hi2
 have e : (nats p).getD i 0 = (p.getD i 0).toNat := by
  unfold nats
  rw [map_getD 0 0 (by rw [hp]; exact hi2)]
 have hl := hi (p.getD i 0) (getD_mem 0 (by rw [hp]; exact hi2))
 show t.getD (p.getD i 0).toNat [] = (List.range n).map fun j => Pv.Table.at_ t ((nats p).getD i 0) j
 rw [e]
 conv => lhs; rw [yU (t.getD (p.getD i 0).toNat []) 0, h.wide _ (getD_mem [] (by rw [h.len]; exact hl))]
 rfl
noncomputable def vP : RS := (wR (wK (qA qp (qf (ze (qf (qe 0) (qf (qe 1) qC))) (qf (ze (qf (qe 2) (qf (qe 3) qC))) (qf (ze (qf (qJ uU (qe 0) (qe 1)) (qf (qe 0) qC))) qC))))) (wR (wK (qA qk (qf (qe 2) qC))) (wR (sIf (tBl (qJ (oEq true) (vz vB (qf (qe 3) qC)) (vz v8 (qf (qe 0) qC)))) (vg "NotAsTold") vV) (wR (uP 4 (qA vn (qf (qe 2) (qf (qe 1) qC)))) (vT (qA qG (qf (zg (.one 5) (iOf (qe 3)) yk (qJ oIx (qe 4) (qe 5)) [5]) qC)))))))
noncomputable def qM : Fn := fun ds => res (vP (sl0 ["m", "n", "a", "p", "grid", "i"] ds))
theorem uf (m n : Int) (a p : List Int) (hm : U64 m) (hn : U64 n) (ha : wM a) (hb : wM p) (la : a.length <= 300) (lb : p.length <= 300) :
  res (vP (sl0 ["m", "n", "a", "p", "grid", "i"] [.int m, .int n, .lst (a.map .int), .lst (p.map .int)])) = vf (PvCalls.answer (.rows m.toNat n.toNat (nats a) (nats p))) := by
 rw [show sl0 ["m", "n", "a", "p", "grid", "i"] [.int m, .int n, .lst (a.map .int), .lst (p.map .int)] = [.val (.int m) false, .val (.int n) false, .val (.lst (a.map .int)) false, .val (.lst (p.map .int)) false, .un, .un] from rfl]
 generalize hδ : [Sl.val (.int m) false, Sl.val (.int n) false, Sl.val (.lst (a.map .int)) false, Sl.val (.lst (p.map .int)) false, Sl.un, Sl.un] = δ
 have v0 : qe 0 δ = .ok (.int m, .sh) := by rw [<- hδ]; rfl
 have v1 : qe 1 δ = .ok (.int n, .sh) := by rw [<- hδ]; rfl
 have v2 : qe 2 δ = .ok (.lst (a.map .int), .sh) := by rw [<- hδ]; rfl
 have v3 : qe 3 δ = .ok (.lst (p.map .int), .sh) := by rw [<- hδ]; rfl
 have hmul : qJ uU (qe 0) (qe 1) δ = .ok (.int (m * n), .nw) := (zJ v0 v1).trans (QJ (jk hm) (jk hn))
 unfold vP
 rw [Ya (ss := [m, n]) (xss := [a.map .int, p.map .int]) (cs := [m * n, m]) (qz v0 (qz v1 qX)) (Nat.le_of_ble_eq_true rfl) rfl (qz v2 (qz v3 qX)) (Nat.le_of_ble_eq_true rfl) rfl (qz hmul (qz v0 qX)) (Nat.le_of_ble_eq_true rfl) rfl v2 ha]
 have hlm : (p.length : Int) = m ↔ (nats p).length = m.toNat := by rw [wm]; have := hm.1; lia
 refine checked (x := if Pv.isRow m.toNat (nats p) = true then .ok (Pv.rows m.toNat n.toNat (PvCalls.tableOf m.toNat n.toNat (nats a)) (nats p)) else .error (-4)) (f := PvCalls.table) (rows := [(m.toNat * n.toNat, nats a)]) ?_ ?_ ?_ rfl
 ·show _ ↔ (PvCalls.size m.toNat && (PvCalls.size n.toNat && (_ == _))) = true /\ ((_ == _) && true) = true
  rw [Bool.and_eq_true, Bool.and_eq_true, <- uw hm, <- uw hn, Bool.and_true, beq_iff_eq, beq_iff_eq, <- jF hm hn, <- hlm]
  simp
  constructor
  ·rintro ⟨⟨h1, h2⟩, h3, h4⟩; exact ⟨⟨h1, h2, h4⟩, h3⟩
  ·rintro ⟨⟨h1, h2, h4⟩, h3⟩; exact ⟨⟨h1, h2⟩, h3, h4⟩
 ·rw [List.all_cons, List.all_nil, Bool.and_true, Vc ha]
 ·intro hp _
  have h2 := hp.2
  have h1 := hp.1
  simp at h2 h1
  obtain ⟨M, rfl⟩ := Vs hm
  obtain ⟨N, rfl⟩ := Vs hn
  rw [Int.toNat_natCast, Int.toNat_natCast]
  have hla : a.length = M * N := by
   have := (jF (ns := a) hm hn).mp h2.1
   rw [wm, Int.toNat_natCast, Int.toNat_natCast] at this
   exact this
  have hlp : p.length = M := by lia
  have hM : M <= 16 := by lia
  have hN : N <= 16 := by lia
  have hrow : Pv.isRow M (nats p) = decide ((nats p).Perm (List.range M)) := by
   unfold Pv.isRow
   rw [List.take_of_length_le (by rw [wm]; lia)]
  have hs : vz vB (qf (qe 3) qC) δ = .ok (.lst ((p.mergeSort fun a b => decide (a <= b)).map D.int), .fr) := by
   unfold vz
   rw [qz v3 qX, Rs.ve]
   unfold vB
   dsimp only
   rw [ints_map]
   exact if_pos (by lia)
  have hg : vz v8 (qf (qe 0) qC) δ = .ok (.lst (((List.range M).map fun (k : Nat) => (k : Int)).map D.int), .fr) := by
   unfold vz
   rw [qz v0 qX, Rs.ve]
   unfold v8
   dsimp only
   rw [if_pos (by lia), Int.toNat_natCast, List.map_map]
   rfl
  have ht : tBl (qJ (oEq true) (vz vB (qf (qe 3) qC)) (vz v8 (qf (qe 0) qC))) δ = .ok (!decide ((nats p).Perm (List.range M))) := by
   unfold tBl
   rw [zJ hs hg]
   show (match intsOf (((p.mergeSort fun a b => decide (a <= b))).map D.int), intsOf ((((List.range M).map fun (k : Nat) => (k : Int))).map D.int) with | some ns, some ms => Rs.ok (D.bl (if true = true then !decide (ns = ms) else decide (ns = ms)), Kd.nw) | _, _ => Rs.no).bind _ = _
   rw [ints_map, ints_map]
   dsimp only
   rw [if_pos rfl, Rs.ve]
   dsimp only
   congr 2
   exact decide_eq_decide.mpr (u9 hb)
  by_cases c : (nats p).Perm (List.range M)
  ·rw [decide_eq_true c] at ht hrow
   rw [hrow, if_pos rfl]
   have hif : sIf (tBl (qJ (oEq true) (vz vB (qf (qe 3) qC)) (vz v8 (qf (qe 0) qC)))) (vg "NotAsTold") vV δ = .nx δ := (YU ht).trans rfl
   rw [zP hif]
   have hMN : M * N <= 16 * 16 := Nat.mul_le_mul hM hN
   have hT : Tb M N (PvCalls.tableOf M N (nats a)) := jf (VE ha)
   have g1 : qA vn (qf (qe 2) (qf (qe 1) qC)) δ = .ok (tD (PvCalls.tableOf M N (nats a)), .nw) := by
    rw [call_K (qz v2 (qz v1 qX))]
    show (vn [.lst (a.map .int), .int N]).bind _ = _
    rw [Qj ha, Qw (m := M) (by rw [wm]; exact hla) (by lia) (by lia) (by lia) (by lia) (by lia)]
    rfl
   rw [zP (Wf g1)]
   have hin : ∀ i ∈ p, i.toNat < M := fun i hi => List.mem_range.mp (c.mem_iff.mp (List.mem_map.mpr ⟨i, hi, rfl⟩))
   generalize hT2 : PvCalls.tableOf M N (nats a) = T at hT ⊢
   generalize hε : δ.set 4 (.val (tD T) true) = ε
   have hfz : freeze ε = ε := by rw [<- hε, <- hδ]; rfl
   have v4 : ∀ x, qe 4 ((clear ε [5]).set 5 x) = .ok (tD T, .nw) := fun x => by rw [<- hε, <- hδ]; rfl
   have hc := um (tg := .one 5) (src := iOf (qe 3)) (r := qJ oIx (qe 4) (qe 5)) (vs := [5]) (δ := ε) (b := true) (enc := fun (i : Int) => (D.int i, .sh)) (f := fun i => .ok (T.getD i.toNat [])) (l := p) (.inr rfl) (by
    rw [<- hε, <- hδ]
    show Rs.ok (true, (p.map D.int).map fun d => (d, Kd.sh)) = _
    rw [List.map_map]
    rfl) (by rw [hlp]; show M < 16777216; lia) (fun i hi => ⟨(clear ε [5]).set 5 (.val (.int i) true), rfl, by
     have h5 : qe 5 ((clear ε [5]).set 5 (.val (.int i) true)) = .ok (.int (i.toNat : Nat), .nw) := by
      rw [<- hε, <- hδ, Int.toNat_of_nonneg (hb i hi).1]
      rfl
     exact (zJ (v4 _) h5).trans (ZH (WD T i.toNat (by rw [hT.len]; exact hin i hi)))⟩)
   rw [xI, Vf hT hlp hin] at hc
   have hr : Tb M N (Pv.rows M N T (nats p)) := W2 fun i j => hT.Yy _ _
   have hc2 : zg (.one 5) (iOf (qe 3)) yk (qJ oIx (qe 4) (qe 5)) [5] ε = (Rs.ok (tD (Pv.rows M N T (nats p)), false) : Rs (D × Bool)).bind kOf := by
    rw [hc]
    show Rs.ok (_, kT _) = _
    rw [WV (by rw [hr.len]; lia)]
    rfl
   have hall := YS (g := qG) hc2
   have e : ((Rs.ok (tD (Pv.rows M N T (nats p)), false) : Rs (D × Bool)).bind fun y => qG [y.1]) = vf (Yb (.ok (Pv.rows M N T (nats p))) PvCalls.table) := QK (T := .ok (Pv.rows M N T (nats p))) (fun t ht => by cases ht; exact hr) (by lia) fun z hz => by cases hz
   have hall2 := hall.trans (congrArg (fun R => Rs.bind R kOf) e)
   exact Wj hfz hall2 fun y hy _ => Vv hy
  ·rw [decide_eq_false c] at ht hrow
   rw [hrow]
   have hif : sIf (tBl (qJ (oEq true) (vz vB (qf (qe 3) qC)) (vz v8 (qf (qe 0) qC)))) (vg "NotAsTold") vV δ = .er "NotAsTold" := (YZ ht).trans rfl
   rw [xk hif]
   rfl
theorem QZ {m n : Int} {a b : List Int} (hm : U64 m) (hn : U64 n) (ha : wM a) (hb : wM b) (la : a.length <= 300) (lb : b.length <= 300) :
  jw LL (qM [.int m, .int n, .lst (a.map .int), .lst (b.map .int)]) = some ((PyYqpvta.rows m n a b).map D.int) /\ ((PyYqpvta.rows m n a b).map D.int).length <= LIM := by
 rw [show qM [.int m, .int n, .lst (a.map .int), .lst (b.map .int)] = _ from uf m n a b hm hn ha hb la lb]
 have e : PyYqpvta.rows m n a b = TableNeutral.told (PvCalls.answer (.rows m.toNat n.toNat (nats a) (nats b))) := by
  unfold PyYqpvta.rows TableNeutral.f
  have q : TableNeutral.callOf [[6, m, n], a, b] = (do some (.rows (<- TableNeutral.nat m) (<- TableNeutral.nat n) (<- a.mapM TableNeutral.nat) (<- b.mapM TableNeutral.nat))) := rfl
  rw [q, yy hm, yy hn, z7 ha, z7 hb]
  rfl
 rw [e]
 exact ⟨Ve (ud _ _ _ _), VA (ud _ _ _ _)⟩
end Gr
namespace L2.Ir
open PySem PySem.Spec PyProof.Rows
section
variable (mg : Str -> Option Value) (K : PySem.W.Frag) (Gl : Addr -> Prop) (κ : List Addr) (H : Hp)
noncomputable def ItR : V -> Itm -> Prop
 | w, .v d k => Rp mg K (fun a => a ∉ κ /\ (k = true -> Gl a)) H w d
 | w, .c n => ∃ p, κ[n]? = some p /\ w = .ref p
noncomputable def Its : List V -> List Itm -> Prop
 | [], [] => True
 | w :: vs, x :: xs => ItR mg K Gl κ H w x /\ Its vs xs
 | _, _ => False
noncomputable def xZ (p : Addr) : Cell -> Prop
 | .lst xs => ∃ vs, H p = some (.lst vs) /\ Its mg K Gl κ H vs xs
 | .ins c ns xs => ∃ C dx vs, mg c = some (.ref C) /\ H p = some (.ins C dx (ns.zip vs)) /\ ns.length = vs.length /\ Its mg K Gl κ H vs xs
structure Mem (μ : List Cell) : Prop where
 nd : κ.Nodup
 len : κ.length = μ.length
 cel : ∀ (n : Nat) (p : Addr) (x : Cell), κ[n]? = some p -> μ[n]? = some x -> xZ mg K Gl κ H p x
 gl : ∀ a : Addr, H a = none -> Gl a
structure MR (σ : St) (m : MS) : Prop where
 mem : Mem mg K Gl κ H m.μ
 len : σ.length = m.s.length
 sl : ∀ (i : Nat) (x : Itm), m.s[i]? = some (some x) -> ∃ w, σ[i]? = some (some w) /\ ItR mg K Gl κ H w x
end
structure Ext (κ : List Addr) (H : Hp) (κ' : List Addr) (H' : Hp) : Prop where
 pre : ∀ (n : Nat) (p : Addr), κ[n]? = some p -> κ'[n]? = some p
 old : ∀ p ∈ κ', p ∈ κ \/ H p = none
 keep : ∀ (a : Addr) (o : HO), H a = some o -> a ∉ κ -> H' a = some o
section
variable {mg : Str -> Option Value} {K : PySem.W.Frag} {Gl : Addr -> Prop} {κ κ' κ1 : List Addr} {H H' H1 : Hp} {μ : List Cell} {σ : St} {m : MS} {w : V} {x : Itm}
theorem Ext.same (s : qh H H') : Ext κ H κ H' := ⟨fun _ _ e => e, fun _ h => .inl h, fun a o e _ => s a o e⟩
theorem Ext.refl : Ext κ H κ H := Ext.same fun _ _ e => e
theorem Ext.trans (a : Ext κ H κ1 H1) (b : Ext κ1 H1 κ' H') : Ext κ H κ' H' := by
 refine ⟨fun n p e => b.pre n p (a.pre n p e), fun p h => ?_, fun c o e n => ?_⟩
 ·rcases b.old p h with h | h
  ·exact a.old p h
  ·by_cases c : p ∈ κ
   ·exact .inl c
   ·right
    cases e : H p with
    | none => rfl
    | some o =>
     have := a.keep p o e c
     rw [h] at this
     cases this
 ·refine b.keep c o (a.keep c o e n) fun z => ?_
  rcases a.old c z with q | q
  ·exact n q
  ·rw [e] at q
   cases q
theorem ItR.ext (e : Ext κ H κ' H') : ∀ {w : V} {x : Itm}, ItR mg K Gl κ H w x -> ItR mg K Gl κ' H' w x
 | w, .v d k, h => by
  refine Rp.mono (fun a g => ?_) d w (Rp.there _ _ h)
  obtain ⟨⟨g1, g2⟩, n⟩ := g
  refine ⟨⟨fun z => ?_, g2⟩, fun o q => e.keep a o q g1⟩
  rcases e.old a z with q | q
  ·exact g1 q
  ·exact n q
 | w, .c n, h => by
  obtain ⟨p, h1, h2⟩ := h
  exact ⟨p, e.pre n p h1, h2⟩
theorem Its.ext (e : Ext κ H κ' H') : ∀ {vs : List V} {xs : List Itm}, Its mg K Gl κ H vs xs -> Its mg K Gl κ' H' vs xs
 | [], [], _ => trivial
 | _ :: _, _ :: _, h => ⟨h.1.ext e, Its.ext e h.2⟩
 | [], _ :: _, h => h.elim
 | _ :: _, [], h => h.elim
theorem Its.len : ∀ {vs : List V} {xs : List Itm}, Its mg K Gl κ H vs xs -> vs.length = xs.length
 | [], [], _ => rfl
 | _ :: _, _ :: _, h => by rw [List.length_cons, List.length_cons, Its.len h.2]
 | [], _ :: _, h => h.elim
 | _ :: _, [], h => h.elim
theorem Its.get : ∀ {vs : List V} {xs : List Itm} {i : Nat} {x : Itm}, Its mg K Gl κ H vs xs -> xs[i]? = some x -> ∃ w, vs[i]? = some w /\ ItR mg K Gl κ H w x
 | [], [], _, _, _, e => by simp at e
 | w :: _, y :: _, 0, _, h, e => by simp at e; subst e; exact ⟨w, rfl, h.1⟩
 | _ :: _, _ :: _, i + 1, x, h, e => by
  obtain ⟨w, q1, q2⟩ := Its.get (i := i) (x := x) h.2 (by simpa using e)
  exact ⟨w, by simpa using q1, q2⟩
 | [], _ :: _, _, _, h, _ => h.elim
 | _ :: _, [], _, _, h, _ => h.elim
theorem Its.append : ∀ {vs us : List V} {xs ys : List Itm}, Its mg K Gl κ H vs xs -> Its mg K Gl κ H us ys -> Its mg K Gl κ H (vs ++ us) (xs ++ ys)
 | [], _, [], _, _, h => h
 | _ :: _, _, _ :: _, _, h, h2 => ⟨h.1, Its.append h.2 h2⟩
 | [], _, _ :: _, _, h, _ => h.elim
 | _ :: _, _, [], _, h, _ => h.elim
theorem Its.vals {k : Bool} : ∀ {vs : List V} {ds : List D}, qc mg K (fun a => a ∉ κ /\ (k = true -> Gl a)) H vs ds -> Its mg K Gl κ H vs (ds.map fun d => Itm.v d k)
 | _, _, .nil => trivial
 | _, _, .cons a b => ⟨a, Its.vals b⟩
theorem xZ.some {p : Addr} {x : Cell} (h : xZ mg K Gl κ H p x) : H p ≠ none := by
 cases x with
 | lst xs => obtain ⟨vs, e, _⟩ := h; rw [e]; exact fun z => nomatch z
 | ins c ns xs => obtain ⟨C, dx, vs, _, e, _⟩ := h; rw [e]; exact fun z => nomatch z
theorem Mem.at_ (M : Mem mg K Gl κ H μ) {p : Addr} (h : p ∈ κ) : H p ≠ none := by
 obtain ⟨n, hn, e⟩ := List.mem_iff_getElem.mp h
 have e1 : κ[n]? = .some p := by rw [List.getElem?_eq_getElem hn, e]
 have hm : n < μ.length := by rw [<- M.len]; exact hn
 exact (M.cel n p μ[n] e1 (List.getElem?_eq_getElem hm)).some
theorem xZ.ext {p : Addr} {x : Cell} (e : Ext κ H κ' H') (hp : H' p = H p) (h : xZ mg K Gl κ H p x) : xZ mg K Gl κ' H' p x := by
 cases x with
 | lst xs => obtain ⟨vs, q, r⟩ := h; exact ⟨vs, hp.trans q, r.ext e⟩
 | ins c ns xs => obtain ⟨C, dx, vs, a, q, l, r⟩ := h; exact ⟨C, dx, vs, a, hp.trans q, l, r.ext e⟩
theorem Mem.more (M : Mem mg K Gl κ H μ) (s : qh H H') : Mem mg K Gl κ H' μ := by
 refine ⟨M.nd, M.len, fun n p x e1 e2 => ?_, fun a h => M.gl a (s.free h)⟩
 have q := M.cel n p x e1 e2
 refine q.ext (Ext.same s) ?_
 cases e : H p with
 | none => exact absurd e q.some
 | some o => exact s p o e
theorem MR.more (R : MR mg K Gl κ H σ m) (s : qh H H') : MR mg K Gl κ H' σ m :=
 ⟨R.mem.more s, R.len, fun i x e => let ⟨w, a, b⟩ := R.sl i x e; ⟨w, a, b.ext (Ext.same s)⟩⟩
theorem Q1 {α : Type} : ∀ {l : List α} {i j : Nat} {a : α}, l.Nodup -> l[i]? = some a -> l[j]? = some a -> i = j
 | [], i, _, _, _, h, _ => by simp at h
 | x :: l, 0, 0, _, _, _, _ => rfl
 | x :: l, 0, j + 1, a, n, h1, h2 => by
  simp at h1 h2
  subst h1
  rw [List.nodup_cons] at n
  exact absurd (List.mem_of_getElem? h2) n.1
 | x :: l, i + 1, 0, a, n, h1, h2 => by
  simp at h1 h2
  subst h2
  rw [List.nodup_cons] at n
  exact absurd (List.mem_of_getElem? h1) n.1
 | x :: l, i + 1, j + 1, a, n, h1, h2 => by
  simp at h1 h2
  rw [List.nodup_cons] at n
  rw [Q1 n.2 h1 h2]
theorem Mem.mut (M : Mem mg K Gl κ H μ) {n : Nat} {p : Addr} {o : HO} {x : Cell} (hn : κ[n]? = .some p) (hx : xZ mg K Gl κ (upd H p o) p x) : Mem mg K Gl κ (upd H p o) (μ.set n x) /\ Ext κ H κ (upd H p o) := by
 have hp : p ∈ κ := List.mem_of_getElem? hn
 have ex : Ext κ H κ (upd H p o) := ⟨fun _ _ e => e, fun _ h => .inl h, fun a q e na => by
  rw [qd (fun z => na (by rw [z]; exact hp))]
  exact e⟩
 refine ⟨⟨M.nd, by rw [List.length_set]; exact M.len, fun k q y e1 e2 => ?_, fun a h => ?_⟩, ex⟩
 ·by_cases hk : n = k
  ·subst hk
   rw [hn] at e1
   cases e1
   have hlt : n < μ.length := by rw [<- M.len]; exact (List.getElem?_eq_some_iff.mp hn).1
   rw [List.getElem?_set_self hlt] at e2
   cases e2
   exact hx
  ·rw [List.getElem?_set_ne hk] at e2
   have hq : q ≠ p := fun z => by
    subst z
    exact hk (Q1 M.nd hn e1)
   exact (M.cel k q y e1 e2).ext ex (qd hq)
 ·by_cases ha : a = p
  ·rw [ha, qm] at h
   cases h
  ·rw [qd ha] at h
   exact M.gl a h
theorem Mem.new (M : Mem mg K Gl κ H μ) {p : Addr} {x : Cell} (s : qh H H') (hp : H p = none) (hx : xZ mg K Gl (κ ++ [p]) H' p x) : Mem mg K Gl (κ ++ [p]) H' (μ ++ [x]) /\ Ext κ H (κ ++ [p]) H' := by
 have np : p ∉ κ := fun z => M.at_ z hp
 have ex : Ext κ H (κ ++ [p]) H' := by
  refine ⟨fun n q e => ?_, fun q h => ?_, fun a o e _ => s a o e⟩
  ·rw [List.getElem?_append_left (List.getElem?_eq_some_iff.mp e).1]
   exact e
  ·rcases List.mem_append.mp h with h | h
   ·exact .inl h
   ·right
    rw [List.mem_singleton.mp h]
    exact hp
 refine ⟨⟨?_, by rw [List.length_append, List.length_append, M.len]; rfl, fun n q y e1 e2 => ?_, fun a h => M.gl a (s.free h)⟩, ex⟩
 ·rw [List.nodup_append]
  refine ⟨M.nd, List.pairwise_singleton _ _, fun a ha b hb => ?_⟩
  rw [List.mem_singleton.mp hb]
  exact fun z => np (by rw [<- z]; exact ha)
 ·by_cases hn : n < κ.length
  ·rw [List.getElem?_append_left hn] at e1
   rw [List.getElem?_append_left (by rw [<- M.len]; exact hn)] at e2
   have q0 := M.cel n q y e1 e2
   refine q0.ext ex ?_
   cases e : H q with
   | none => exact absurd e q0.some
   | some o => exact s q o e
  ·rw [List.getElem?_append_right (by lia)] at e1
   rw [List.getElem?_append_right (by rw [<- M.len]; lia)] at e2
   have h0 : n - κ.length = 0 := by
    have := (List.getElem?_eq_some_iff.mp e1).1
    rw [List.length_singleton] at this
    lia
   rw [h0] at e1
   rw [<- M.len, h0] at e2
   cases e1
   cases e2
   exact hx
theorem MR.Y9 (R : MR mg K Gl κ H σ m) {i : Nat} (hx : ItR mg K Gl κ H w x) : MR mg K Gl κ H (σ.set i (some w)) ⟨m.s.set i (some x), m.μ⟩ := by
 refine ⟨R.mem, by rw [List.length_set, List.length_set]; exact R.len, fun j y e => ?_⟩
 have e : (m.s.set i (some x))[j]? = some (some y) := e
 by_cases hj : i = j
 ·subst hj
  by_cases hi : i < m.s.length
  ·rw [List.getElem?_set_self hi] at e
   cases e
   exact ⟨w, List.getElem?_set_self (by rw [R.len]; exact hi), hx⟩
  ·rw [List.getElem?_eq_none (by rw [List.length_set]; lia)] at e
   cases e
 ·rw [List.getElem?_set_ne hj] at e ⊢
  exact R.sl j y e
theorem MR.after (R : MR mg K Gl κ H σ m) (e : Ext κ H κ' H') (M : Mem mg K Gl κ' H' μ) : MR mg K Gl κ' H' σ ⟨m.s, μ⟩ :=
 ⟨M, R.len, fun i x h => let ⟨w, a, b⟩ := R.sl i x h; ⟨w, a, b.ext e⟩⟩
theorem mapM_some {α β : Type} {f : α -> Option β} {x : α} {xs : List α} {ys : List β} (h : (x :: xs).mapM f = some ys) : ∃ y r, f x = some y /\ xs.mapM f = some r /\ ys = y :: r := by
 rw [List.mapM_cons] at h
 cases h1 : f x with
 | none => rw [h1] at h; cases h
 | some y =>
  rw [h1] at h
  cases h2 : xs.mapM f with
  | none => rw [h2] at h; cases h
  | some r => rw [h2] at h; exact ⟨y, r, rfl, rfl, (Option.some.inj h).symm⟩
theorem w9 {G : Addr -> Prop} {g : Itm -> Option D} (hg : ∀ w x d, g x = some d -> ItR mg K Gl κ H w x -> Rp mg K G H w d) : ∀ {vs : List V} {xs : List Itm} {ds : List D}, Its mg K Gl κ H vs xs -> xs.mapM g = some ds -> qc mg K G H vs ds
 | [], [], ds, _, e => by cases e; exact .nil
 | w :: vs, x :: xs, ds, h, e => by
  obtain ⟨y, r, e1, e2, rfl⟩ := mapM_some e
  exact .cons (hg w x y e1 h.1) (w9 hg h.2 e2)
 | [], _ :: _, _, h, _ => h.elim
 | _ :: _, [], _, h, _ => h.elim
open Classical in
noncomputable def zZ (Gl : Addr -> Prop) (κ : List Addr) (H : Hp) : Hp := fun a => if Gl a \/ a ∈ κ then none else H a
theorem jb {a : Addr} (h : Gl a) : zZ Gl κ H a = none := by unfold zZ; exact if_pos (.inl h)
theorem QG {a : Addr} (hg : ∀ a, H a = none -> Gl a) (h : zZ Gl κ H a = none) (n : a ∉ κ) : Gl a := by
 unfold zZ at h
 by_cases c : Gl a \/ a ∈ κ
 ·exact c.elim id fun z => absurd z n
 ·rw [if_neg c] at h
  exact hg a h
theorem uM (e : Ext κ H κ' H') : qh (zZ Gl κ H) H' := fun a o h => by
 unfold zZ at h
 by_cases c : Gl a \/ a ∈ κ
 ·rw [if_pos c] at h
  cases h
 ·rw [if_neg c] at h
  exact e.keep a o h fun z => c (.inr z)
theorem zr (m : MS) (i : Nat) (ds : List D) : (qR m)[i]? ≠ some (.own ds) := fun e => by
 unfold qR at e
 rw [List.getElem?_map] at e
 cases hs : m.s[i]? with
 | none => rw [hs] at e; cases e
 | some o =>
  rw [hs] at e
  cases o with
  | none => cases e
  | some x => cases x <;> cases e
noncomputable abbrev B1 (Gl : Addr -> Prop) (κ : List Addr) (H : Hp) (κ' : List Addr) : Bs := ⟨zZ Gl κ H, fun a => a ∈ κ'⟩
theorem u6 {a : Addr} {κ0 : List Addr} {H0 : Hp} (h : qw (B1 Gl κ0 H0 κ) σ (qR m) a) : a ∈ κ := by
 rcases h with h | ⟨i, ds, e, _⟩
 ·exact h
 ·exact absurd e (zr m i ds)
theorem wZ {κ0 : List Addr} {H0 : Hp} (e : Ext κ0 H0 κ H) (R : MR mg K Gl κ H σ m) : Rl mg K (B1 Gl κ0 H0 κ) H σ (qR m) := by
 refine ⟨uM e, fun p h => R.mem.at_ h, by unfold qR; rw [List.length_map]; exact R.len, fun i d k q => ?_, fun i ds q => absurd q (zr m i ds), fun i j p ds es q _ _ _ => absurd q (zr m i ds)⟩
 unfold qR at q
 rw [List.getElem?_map] at q
 cases hs : m.s[i]? with
 | none => rw [hs] at q; cases q
 | some o =>
  rw [hs] at q
  cases o with
  | none => cases q
  | some x =>
   cases x with
   | c n => cases q
   | v d' k' =>
    cases q
    obtain ⟨w, h1, h2⟩ := R.sl i _ hs
    exact ⟨w, h1, Rp.weak h2 fun a g => ⟨fun z => g.1 (u6 z), fun z => jb (g.2 z)⟩⟩
end
noncomputable def vH (mg : Str -> Option Value) (K : PySem.W.Frag) (E : XK) (Gn : Addr -> Prop) (κ : List Addr) (H : Hp) (o : wX) (D : Ends) : Prop := match o with
 | .nx m => ∀ κ' σ' H', MR mg K Gn κ' H' σ' m -> Ext κ H κ' H' -> D.nx σ' H'
 | .bk m => ∀ κ' σ' H', MR mg K Gn κ' H' σ' m -> Ext κ H κ' H' -> D.bk σ' H'
 | .ct m => ∀ κ' σ' H', MR mg K Gn κ' H' σ' m -> Ext κ H κ' H' -> D.ct σ' H'
 | .rt x μ => ∀ w κ' H', Mem mg K Gn κ' H' μ -> ItR mg K Gn κ' H' w x -> Ext κ H κ' H' -> D.rt w H'
 | .er c => ∀ C H', mg c = some (.ref C) -> (∀ a o, H a = some o -> a ∉ κ -> H' a = some o) -> E (.ref C) none H'
 | .no => False
noncomputable def tM (mg : Str -> Option Value) (K : PySem.W.Frag) (E : XK) (r : RM) : TS := fun D σ H => ∃ Gn κ m, MR mg K Gn κ H σ m /\ vH mg K E Gn κ H (r m) D
noncomputable abbrev TMx (X : Cx) (E : XK) (r : RM) : TS := tM X.mg X.K E r
noncomputable def tIe (X : Cx) (E : XK) (e : IE) : TE := fun σ H Q => ∃ Gn κ m, MR X.mg X.K Gn κ H σ m /\ qg X.mg E H (e m) fun x => ∀ w H', qh H H' -> ItR X.mg X.K Gn κ H' w x -> Q w H'
noncomputable def tNe (X : Cx) (E : XK) (e : NE) : TE := fun σ H Q => ∃ Gn κ m, MR X.mg X.K Gn κ H σ m /\ qg X.mg E H (e m) fun xs => ∀ p vs H', H p = none -> qh H H' -> H' p = some (.lst vs) -> Its X.mg X.K Gn (κ ++ [p]) H' vs xs -> Q (.ref p) H'
section
variable {mg : Str -> Option Value} {K : PySem.W.Frag} {E : XK} {Gn : Addr -> Prop} {κ κ' κ1 : List Addr} {H H' H1 : Hp} {D : Ends} {o : wX}
theorem vH.later (h : vH mg K E Gn κ H o D) (e : Ext κ H κ1 H1) : vH mg K E Gn κ1 H1 o D := by
 cases o with
 | nx m => exact fun κ' σ' H' R f => h κ' σ' H' R (e.trans f)
 | bk m => exact fun κ' σ' H' R f => h κ' σ' H' R (e.trans f)
 | ct m => exact fun κ' σ' H' R f => h κ' σ' H' R (e.trans f)
 | rt x μ => exact fun w κ' H' M r f => h w κ' H' M r (e.trans f)
 | er c =>
  refine fun C H' hC k => h C H' hC fun a o q n => k a o (e.keep a o q n) fun z => ?_
  rcases e.old a z with y | y
  ·exact n y
  ·rw [q] at y
   cases y
 | no => exact h
theorem Xj {c : Str} (h : vH mg K E Gn κ H (.er c) D) : ∀ C H', mg c = some (.ref C) -> qh H H' -> E (.ref C) none H' := fun C H' e s => h C H' e fun a o q _ => s a o q
theorem vH.do_ {α : Type} {x : Rs α} {f : α -> wX} {k : α -> Prop} (h : vH mg K E Gn κ H (mDo x f) D) (i : ∀ a, x = .ok a -> vH mg K E Gn κ H (f a) D -> k a) : qg mg E H x k := by
 cases x with
 | ok a => exact i a rfl h
 | er c => exact Xj h
 | no => exact h
theorem Ext.upd {p : Addr} {o : HO} (hp : p ∈ κ) : Ext κ H κ (L2.upd H p o) := ⟨fun _ _ e => e, fun _ h => .inl h, fun a q e na => by
 rw [qd (fun z => na (by rw [z]; exact hp))]
 exact e⟩
theorem Wt {m : MS} {x : Itm} {n : Nat} {y : Cell} (h : cellAt m x = some (n, y)) : x = .c n /\ m.μ[n]? = some y := by
 cases x with
 | v d k => cases h
 | c k =>
  have h : (m.μ[k]?).map (fun x => (k, x)) = some (n, y) := h
  cases e : m.μ[k]? with
  | none => rw [e] at h; cases h
  | some z => rw [e] at h; cases h; exact ⟨rfl, e⟩
end
section
variable {X : Cx} {E : XK} {pos : Pos}
theorem YE (i : Nat) {x : Str} (hN : X.N[i]? = some x := by rfl) (hv : Vis X.env.scope x := by first | exact Or.inl rfl | exact Or.inr (Or.inl rfl) | exact Or.inr (Or.inr rfl)) (hd : (x == ("__debug__" : Str)) = false := by decide)
  (hcd : (x == ("__classdict__" : Str)) = false := by decide) : PE X (.Name x pos) (tIe X E (ieV i)) := by
 refine qL (xO hN hv hd hcd) fun σ H Q ⟨Gn, κ, m, R, h⟩ => ?_
 unfold ieV at h
 cases hs : m.s[i]? with
 | none => rw [hs] at h; exact h.elim
 | some o =>
  rw [hs] at h
  cases o with
  | none => exact h.elim
  | some y =>
   obtain ⟨w, h1, h2⟩ := R.sl i y hs
   exact ⟨w, h1, h w H (fun _ _ e => e) h2⟩
theorem ne_nil : PE X (.List [] pos) (tNe X E Vl) := by
 refine qL (xf wj) fun σ H Q ⟨Gn, κ, m, R, h⟩ => ?_
 exact ⟨Nat.zero_le _, fun p hp => h p [] _ hp (qE hp) qm trivial⟩
end
section
variable {X : Cx} {E : XK} {pos : Pos}
theorem VQ {a b : RM} {D : Ends} {σ : St} {H : Hp} (h : TMx X E (jh a b) D σ H) : TMx X E a { D with nx := TMx X E b D } σ H := by
 obtain ⟨Gn, κ, m, R, h⟩ := h
 refine ⟨Gn, κ, m, R, ?_⟩
 unfold jh wX.andThen at h
 cases ha : a m with
 | nx m1 =>
  rw [ha] at h
  exact fun κ1 σ1 H1 R1 f1 => ⟨Gn, κ1, m1, R1, vH.later h f1⟩
 | bk m1 => rw [ha] at h; exact h
 | ct m1 => rw [ha] at h; exact h
 | rt x μ => rw [ha] at h; exact h
 | er c => rw [ha] at h; exact h
 | no => rw [ha] at h; exact h
theorem uh {st : Stmt} {rest : List Stmt} {a b : RM} (h1 : PS X st (TMx X E a)) (h2 : PSs X rest (TMx X E b)) : PSs X (st :: rest) (TMx X E (jh a b)) := yE (yx h1 h2) fun _ _ _ h => VQ h
theorem jB {st : Stmt} {a : RM} (h1 : PS X st (TMx X E a)) : PSs X [st] (TMx X E a) := wG h1
theorem Wn {i : Nat} {e : NE} {D : Ends} {σ : St} {H : Hp} (h : TMx X E (Ww i e) D σ H) : VF (tNe X E e) (vp i) D σ H := by
 obtain ⟨Gn, κ, m, R, h⟩ := h
 refine ⟨Gn, κ, m, R, vH.do_ h fun xs _ h1 p vs H' hp s hv hi => ?_⟩
 obtain ⟨M, ex⟩ := R.mem.new (x := .lst xs) s hp ⟨vs, hv, hi⟩
 refine h1 (κ ++ [p]) _ H' ((R.after ex M).Y9 (m := ⟨m.s, m.μ ++ [.lst xs]⟩) (x := .c m.μ.length) ⟨p, ?_, rfl⟩) ex
 rw [<- R.mem.len, List.getElem?_append_right (Nat.le_refl _), Nat.sub_self]
 rfl
theorem Zq (i : Nat) {x : Str} {e : Expr} {ie : NE} {pos' : Pos} (g : Gd X E) (he : PE X e (tNe X E ie)) (hi : X.N[i]? = some x := by rfl) (hx : Loc X.env.scope x := by first | exact Or.inl rfl | exact Or.inr rfl) (hs : swapsWith e (some (.Name x pos')) pos.line X.env = pure false := by rfl)
  (hf : X.fn x = true \/ X.env.scope.names.lookup x = some .local := by first | exact .inl rfl | exact .inr rfl) : PS X (.Assign [.Name x pos'] e pos) (TMx X E (Ww i ie)) := qV (ji g.nd hi hx he hs hf) fun _ _ _ h => Wn h
theorem W7 {e : Expr} {ie : IE} (he : PE X e (tIe X E ie)) : PS X (.Return (some e) pos) (TMx X E (Yx ie)) := by
 refine qV (zY he) fun D σ H ⟨Gn, κ, m, R, h⟩ => ⟨Gn, κ, m, R, vH.do_ h fun x _ h1 w H' s hw => ?_⟩
 exact h1 w κ H' (R.more s).mem hw (Ext.same s)
end
noncomputable def Zf (X : Cx) (Gn : Addr -> Prop) (κ : List Addr) (H1 : Hp) (g : TG) (tg : Tg) (J : It) (xs : List DK) : Prop :=
 (∀ (i : Nat) (x : DK) (κ' : List Addr) (σ' : St) (m' m2 : MS) (H2 : Hp), xs[i]? = some x -> MR X.mg X.K Gn κ' H2 σ' m' -> Ext κ H1 κ' H2 -> tg.xR x m' = some m2 ->
  J.go i H2 /\ ∀ v H3, J.yld i H2 v H3 -> ∀ Q : St -> Hp -> Prop, (∀ σ2 H4, MR X.mg X.K Gn κ' H4 σ2 m2 -> qh H2 H4 -> Q σ2 H4) -> g v σ' H3 Q) /\
 ∀ (i : Nat) (κ' : List Addr) (σ' : St) (m' : MS) (H2 : Hp), xs.length <= i -> MR X.mg X.K Gn κ' H2 σ' m' -> Ext κ H1 κ' H2 -> J.stop i H2
noncomputable def tMI (X : Cx) (E : XK) (g : TG) (tg : Tg) (src : MI) : TI := fun σ H R => ∃ Gn κ m, MR X.mg X.K Gn κ H σ m /\ qg X.mg E H (src m) fun xs => ∀ J H1, qh H H1 -> Zf X Gn κ H1 g tg J xs -> R J H1
theorem wO {i : Nat} {x : DK} {y : Itm} {s : List (Option Itm)} (h : qB x = some y) : put i x (s.map vQ) = some ((s.set i (some y)).map vQ) := by
 obtain ⟨d, k⟩ := x
 unfold qB at h
 dsimp only at h
 rw [List.map_set]
 by_cases c : d.sc = true
 ·rw [if_pos c] at h
  cases h
  cases k with
  | bo => exact if_pos c
  | sh => show some ((s.map vQ).set i (vY (d, if d.sc = true then .nw else .sh))) = _; rw [if_pos c]; rfl
  | nw => show some ((s.map vQ).set i (vY (d, if d.sc = true then .nw else .nw))) = _; rw [if_pos c]; rfl
  | fr => show some ((s.map vQ).set i (vY (d, if d.sc = true then .nw else .fr))) = _; rw [if_pos c]; rfl
 ·rw [if_neg c] at h
  cases k with
  | bo => cases h
  | sh => cases h; show some ((s.map vQ).set i (vY (d, if d.sc = true then .nw else .sh))) = _; rw [if_neg c]; rfl
  | nw => cases h; show some ((s.map vQ).set i (vY (d, if d.sc = true then .nw else .nw))) = _; rw [if_neg c]; rfl
  | fr => cases h; show some ((s.map vQ).set i (vY (d, if d.sc = true then .nw else .fr))) = _; rw [if_neg c]; rfl
theorem Qn {tg : Tg} {x : DK} {m m2 : MS} (h : tg.xR x m = some m2) : tg.put x (qR m) = some (qR m2) := by
 cases tg with
 | one i =>
  have h : (qB x).map (fun y => (⟨m.s.set i (some y), m.μ⟩ : MS)) = some m2 := h
  cases e : qB x with
  | none => rw [e] at h; cases h
  | some y => rw [e] at h; cases h; exact wO e
 | two i j =>
  obtain ⟨d, k⟩ := x
  match d, h with
  | .tup [a, b], h =>
   have h : (qB (a, k)).bind (fun y => (qB (b, k)).map fun z => (⟨(m.s.set i (some y)).set j (some z), m.μ⟩ : MS)) = some m2 := h
   cases e : qB (a, k) with
   | none => rw [e] at h; cases h
   | some y =>
    cases e2 : qB (b, k) with
    | none => rw [e, e2] at h; cases h
    | some z =>
     rw [e, e2] at h
     cases h
     show (put i (a, k) (m.s.map vQ)).bind (put j (b, k)) = _
     rw [wO e]
     exact wO e2
theorem yd {x : DK} {n : Nat} (h : qB x = some (.c n)) : False := by
 obtain ⟨d, k⟩ := x
 unfold qB at h
 dsimp only at h
 by_cases c : d.sc = true
 ·rw [if_pos c] at h; cases h
 ·rw [if_neg c] at h
  cases k <;> cases h
theorem z3 {s : List (Option Itm)} {i l n : Nat} {y : Itm} (h : (s.set i (some y))[l]? = some (some (.c n))) (hy : ∀ n, y ≠ .c n) : i ≠ l /\ s[l]? = some (some (.c n)) := by
 by_cases c : i = l
 ·subst c
  by_cases hi : i < s.length
  ·rw [List.getElem?_set_self hi] at h
   exact absurd (Option.some.inj (Option.some.inj h)) (hy n)
  ·rw [List.getElem?_eq_none (by rw [List.length_set]; lia)] at h
   cases h
 ·rw [List.getElem?_set_ne c] at h
  exact ⟨c, h⟩
theorem Qx {tg : Tg} {x : DK} {m m2 : MS} {l n : Nat} {σ σ2 : St} (h : tg.xR x m = some m2) (st : tg.sets σ σ2) (e : m2.s[l]? = some (some (.c n))) : m.s[l]? = some (some (.c n)) /\ σ2[l]? = σ[l]? := by
 cases tg with
 | one i =>
  have h : (qB x).map (fun y => (⟨m.s.set i (some y), m.μ⟩ : MS)) = some m2 := h
  cases q : qB x with
  | none => rw [q] at h; cases h
  | some y =>
   rw [q] at h
   cases h
   obtain ⟨c, r⟩ := z3 e (fun n z => by rw [z] at q; exact yd q)
   obtain ⟨v, rfl⟩ := st
   exact ⟨r, List.getElem?_set_ne c⟩
 | two i j =>
  obtain ⟨d, k⟩ := x
  match d, h with
  | .tup [a, b], h =>
   have h : (qB (a, k)).bind (fun y => (qB (b, k)).map fun z => (⟨(m.s.set i (some y)).set j (some z), m.μ⟩ : MS)) = some m2 := h
   cases q : qB (a, k) with
   | none => rw [q] at h; cases h
   | some y =>
    cases q2 : qB (b, k) with
    | none => rw [q, q2] at h; cases h
    | some z =>
     rw [q, q2] at h
     cases h
     obtain ⟨c2, r2⟩ := z3 e (fun n w => by rw [w] at q2; exact yd q2)
     obtain ⟨c1, r1⟩ := z3 r2 (fun n w => by rw [w] at q; exact yd q)
     obtain ⟨v, w, rfl⟩ := st
     exact ⟨r1, by rw [List.getElem?_set_ne c2, List.getElem?_set_ne c1]⟩
theorem V9 {tg : Tg} {x : DK} {m m2 : MS} (h : tg.xR x m = some m2) : m2.μ = m.μ := by
 cases tg with
 | one i =>
  have h : (qB x).map (fun y => (⟨m.s.set i (some y), m.μ⟩ : MS)) = some m2 := h
  cases q : qB x with
  | none => rw [q] at h; cases h
  | some y => rw [q] at h; cases h; rfl
 | two i j =>
  obtain ⟨d, k⟩ := x
  match d, h with
  | .tup [a, b], h =>
   have h : (qB (a, k)).bind (fun y => (qB (b, k)).map fun z => (⟨(m.s.set i (some y)).set j (some z), m.μ⟩ : MS)) = some m2 := h
   cases q : qB (a, k) with
   | none => rw [q] at h; cases h
   | some y =>
    cases q2 : qB (b, k) with
    | none => rw [q, q2] at h; cases h
    | some z => rw [q, q2] at h; cases h; rfl
theorem QD {mg : Str -> Option Value} {K : PySem.W.Frag} {Gn : Addr -> Prop} {κ κ' : List Addr} {H H2 H4 : Hp} {σ' σ2 : St} {m' m2 : MS} {tg : Tg} {x : DK} (hg : ∀ a, H a = none -> Gn a) (e : Ext κ H κ' H2) (R' : MR mg K Gn κ' H2 σ' m') (s : qh H2 H4) (R4 : Rl mg K (B1 Gn κ H κ') H4 σ2 (qR m2)) (st : tg.sets σ' σ2) (hp : tg.xR x m' = some m2) : MR mg K Gn κ' H4 σ2 m2 := by
 refine ⟨by rw [V9 hp]; exact R'.mem.more s, ?_, fun l y q => ?_⟩
 ·have := R4.len
  unfold qR at this
  rw [List.length_map] at this
  exact this
 ·cases y with
  | c n =>
   obtain ⟨q1, q2⟩ := Qx hp st q
   rw [q2]
   obtain ⟨w, g1, g2⟩ := R'.sl l _ q1
   exact ⟨w, g1, g2.ext (Ext.same s)⟩
  | v d k =>
   obtain ⟨w, g1, g2⟩ := R4.val l d k (by unfold qR; rw [List.getElem?_map, q]; rfl)
   refine ⟨w, g1, Rp.weak g2 fun a g => ?_⟩
   have n : a ∉ κ' := fun z => g.1 (.inl z)
   refine ⟨n, fun z => QG hg (g.2 z) fun y => n ?_⟩
   obtain ⟨i, hi, w⟩ := List.mem_iff_getElem.mp y
   exact List.mem_of_getElem? (e.pre i a (by rw [List.getElem?_eq_getElem hi, w]))
section
variable {X : Cx} {E : XK} {pos : Pos}
theorem Yo {tgE iter : Expr} {g : TG} {tg : Tg} {src : RI} (h : PI X tgE iter (tI X E g tg src)) : PI X tgE iter (tMI X E g tg (ZD src)) := by
 refine zV h fun σ H R ⟨Gn, κ, m, R0, h⟩ => ⟨_, _, wZ Ext.refl R0, ?_⟩
 refine qg.imp (qg.bind h) fun x h1 J H1 s1 W => ?_
 obtain ⟨fl, xs⟩ := x
 cases fl with
 | false => exact h1.elim
 | true =>
  refine h1 J H1 s1 ⟨fun i x κ' σ' m' m2 H2 hx R' e hp => ?_, fun i κ' σ' m' H2 hi R' e => ?_⟩
  ·have e0 : Ext κ H κ' H2 := (Ext.same s1).trans e
   have kp : Kp true (B1 Gn κ H κ) (B1 Gn κ H κ') σ (qR m) H1 σ' (qR m') H2 := ⟨rfl, fun b o q n => ⟨e.keep b o q fun z => n (.inl z), fun z => by
    rcases e.old b (u6 z) with y | y
    ·exact n (.inl y)
    ·rw [q] at y; cases y⟩, fun z => nomatch z⟩
   obtain ⟨go, yl⟩ := W.1 (B1 Gn κ H κ') i x σ' (qR m') (qR m2) H2 hx (wZ e0 R') kp (Qn hp)
   refine ⟨go, fun v H3 hy Q hQ => yl v H3 hy Q fun σ2 H4 R4 _ s4 st4 => hQ σ2 H4 (QD R0.mem.gl e0 R' s4 R4 st4 hp) s4⟩
  ·have e0 : Ext κ H κ' H2 := (Ext.same s1).trans e
   have kp : Kp true (B1 Gn κ H κ) (B1 Gn κ H κ') σ (qR m) H1 σ' (qR m') H2 := ⟨rfl, fun b o q n => ⟨e.keep b o q fun z => n (.inl z), fun z => by
    rcases e.old b (u6 z) with y | y
    ·exact n (.inl y)
    ·rw [q] at y; cases y⟩, fun z => nomatch z⟩
   exact W.2 (B1 Gn κ H κ') i σ' (qR m') H2 hi (wZ e0 R') kp
theorem Zw {tgE iter : Expr} {body : List Stmt} {g : TG} {tg : Tg} {src : MI} {rb : RM} (G : Gd X E) (hi : PI X tgE iter (tMI X E g tg src)) (hg : PG X tgE g) (hb : PSs X body (TMx X E rb)) (hs : ∀ x, foldedSetIterable iter X.env x = pure x := by intro _; rfl) :
  PS X (.For tgE iter body [] pos) (TMx X E (Wq tg src rb)) := by
 refine qV (QX G.own G.calm hi hg hb hs) fun D σ H ⟨Gn, κ, m, R, h⟩ => ⟨Gn, κ, m, R, vH.do_ h fun xs _ h0 J H1 s1 W => ?_⟩
 have h1 := vH.later h0 (Ext.same s1)
 refine ⟨fun i k σ' H' => k = xs.length - i /\ i <= xs.length /\ ∃ κ' m', MR X.mg X.K Gn κ' H' σ' m' /\ Ext κ H1 κ' H' /\ vH X.mg X.K E Gn κ' H' (vx tg rb (xs.drop i) m') D, ⟨xs.length, by lia, Nat.zero_le _, κ, m, R.more s1, Ext.refl, h1⟩, ?_⟩
 rintro i k σ' H' ⟨rfl, hi, κ', m', R', f', h'⟩
 by_cases hlt : i < xs.length
 ·right
  have hx : xs[i]? = some xs[i] := List.getElem?_eq_getElem hlt
  rw [List.drop_eq_getElem_cons hlt] at h'
  unfold vx at h'
  cases hp : tg.xR xs[i] m' with
  | none => rw [hp] at h'; exact h'.elim
  | some m2 =>
   rw [hp] at h'
   obtain ⟨go, yl⟩ := W.1 i xs[i] κ' σ' m' m2 H' hx R' f' hp
   refine ⟨go, fun σ2 H2 => i + 1 <= xs.length /\ ∃ κ2 m3, MR X.mg X.K Gn κ2 H2 σ2 m3 /\ Ext κ H1 κ2 H2 /\ vH X.mg X.K E Gn κ2 H2 (vx tg rb (xs.drop (i + 1)) m3) D, fun σ2 H2 ⟨q1, κ2, m3, q2, q3, q4⟩ => ⟨xs.length - (i + 1), by lia, rfl, q1, κ2, m3, q2, q3, q4⟩, fun v H3 hy => ?_⟩
   refine yl v H3 hy _ fun σ2 H4 R2 s4 => ⟨Gn, κ', m2, R2, ?_⟩
   have f4 := f'.trans (Ext.same s4)
   dsimp only at h'
   cases hb : rb m2 with
   | nx m3 => rw [hb] at h'; exact fun κ3 σ3 H5 R3 f3 => ⟨hlt, κ3, m3, R3, f4.trans f3, vH.later h' ((Ext.same s4).trans f3)⟩
   | ct m3 => rw [hb] at h'; exact fun κ3 σ3 H5 R3 f3 => ⟨hlt, κ3, m3, R3, f4.trans f3, vH.later h' ((Ext.same s4).trans f3)⟩
   | bk m3 => rw [hb] at h'; exact fun κ3 σ3 H5 R3 f3 => h' κ3 σ3 H5 R3 ((Ext.same s4).trans f3)
   | rt x μ => rw [hb] at h'; exact vH.later (o := .rt x μ) h' (Ext.same s4)
   | er c => rw [hb] at h'; exact vH.later (o := .er c) h' (Ext.same s4)
   | no => rw [hb] at h'; exact h'
 ·left
  have e : i = xs.length := by lia
  subst e
  rw [List.drop_length] at h'
  exact ⟨W.2 _ κ' σ' m' H' (Nat.le_refl _) R' f', h' κ' σ' H' R' Ext.refl⟩
end
noncomputable def ZP (mg : Str -> Option Value) (K : PySem.W.Frag) (E : XK) (Gn : Addr -> Prop) (κ : List Addr) (H : Hp) (o : W8) (Q : VK) : Prop := match o with
 | .ok x μ => ∀ w κ' H', Mem mg K Gn κ' H' μ -> ItR mg K Gn κ' H' w x -> Ext κ H κ' H' -> Q w H'
 | .er c => ∀ C H', mg c = some (.ref C) -> (∀ a o, H a = some o -> a ∉ κ -> H' a = some o) -> E (.ref C) none H'
 | .no => False
noncomputable def spM (mg : Str -> Option Value) (K : PySem.W.Frag) (n : Nat) (g : Fm) : Sp := fun vs H Q E => ∃ Gn κ μ xs, xs.length = n /\ Mem mg K Gn κ H μ /\ Its mg K Gn κ H vs xs /\ ZP mg K E Gn κ H (g xs μ) Q
theorem mr0 {mg : Str -> Option Value} {K : PySem.W.Frag} {Gn : Addr -> Prop} {κ : List Addr} {H : Hp} {N : List Str} {vs : List V} {xs : List Itm} {μ : List Cell} (M : Mem mg K Gn κ H μ) (r : Its mg K Gn κ H vs xs) : MR mg K Gn κ H (start N vs) ⟨ms0 N xs, μ⟩ := by
 refine ⟨M, ?_, fun i x e => ?_⟩
 ·unfold start ms0
  rw [List.length_append, List.length_append, List.length_map, List.length_map, List.length_replicate, List.length_replicate, r.len]
 ·have e : (ms0 N xs)[i]? = some (some x) := e
  unfold ms0 at e
  by_cases h : i < xs.length
  ·rw [List.getElem?_append_left (by rw [List.length_map]; exact h), List.getElem?_map, List.getElem?_eq_getElem h] at e
   have e2 : xs[i]? = some x := by rw [List.getElem?_eq_getElem h]; exact Option.some.inj e
   obtain ⟨w, h1, h2⟩ := r.get e2
   refine ⟨w, ?_, h2⟩
   have hl : i < vs.length := (List.getElem?_eq_some_iff.mp h1).1
   unfold start
   rw [List.getElem?_append_left (by rw [List.length_map]; exact hl), List.getElem?_map, h1]
   rfl
  ·rw [List.getElem?_append_right (by rw [List.length_map]; lia)] at e
   have := (List.mem_replicate.mp (List.mem_of_getElem? e)).2
   cases this
section
variable {P : Program} {w : World} {K : PySem.W.Frag} {mg : Str -> Option Value} {base : Heap}
theorem Zz {x q : Str} {st : Stmt} {f : Addr} {fd : FuncData} {N ps : List Str} {k n : Nat} {r : RM} (F : Fun K x q st f fd) (S : qv N ps (qa st)) (hn : ps.length = n)
  (body : ∀ (cdv : Value) (A : Around) (outer : List Env) (s : Shared) (H : Hp) (E : XK), vh k (A.deeper (envOfC q (qa st) s.heap.objs.size f cdv)) ->
   PSs (zy P w K mg base N q (qa st) f cdv A outer s H E) (qt st) (tM mg K E r)) : zu P w K mg base (CX1 P w) (k + 1) f fd ps (spM mg K n fun xs μ => ZO (r ⟨ms0 N xs, μ⟩)) := by
 obtain ⟨oc, od, kV, doc, pm, an, cdv, ct, osl, rfl, lk, hcd⟩ := F.ex
 refine jl lk hcd S ?_ fun A outer s H vs Q E hroom hsp => ?_
 ·rintro vs H Q E ⟨Gn, κ, μ, xs, hl, _, rp, _⟩
  rw [rp.len, hl, hn]
 ·obtain ⟨Gn, κ, μ, xs, hl, M, rp, h⟩ := hsp
  refine ⟨_, zX (body cdv A outer s H E hroom) xt, Gn, κ, ⟨ms0 N xs, μ⟩, mr0 M rp, ?_⟩
  have h : ZP mg K E Gn κ H (ZO (r ⟨ms0 N xs, μ⟩)) Q := h
  cases ho : r ⟨ms0 N xs, μ⟩ with
  | rt x μ' => rw [ho] at h; exact fun w κ' H' M' r' e => h w κ' H' M' r' e
  | nx m' => rw [ho] at h; exact fun κ' σ' H' R e => h .non κ' H' R.mem Rp.non e
  | er c => rw [ho] at h; exact fun C H' e s => h C H' e s
  | bk m' => rw [ho] at h; exact h.elim
  | ct m' => rw [ho] at h; exact h.elim
  | no => rw [ho] at h; exact h.elim
end
theorem xg {mg : Str -> Option Value} {K : PySem.W.Frag} {Gn : Addr -> Prop} {κ : List Addr} {H : Hp} {μ : List Cell} (M : Mem mg K Gn κ H μ) (hk : ∀ p ∈ κ, Gn p) : ∀ (f : Nat) (w : V) (x : Itm) (d : D), wJ μ f x = some d -> ItR mg K Gn κ H w x -> Rp mg K Gn H w d
 | f, w, .v d k, d', e, h => by
  have e : (if d.sc = true \/ k = true then some d else none) = some d' := by cases f <;> exact e
  by_cases c : d.sc = true \/ k = true
  ·rw [if_pos c] at e
   cases e
   rcases c with c | c
   ·rw [Rp.sc h c]
    exact Rp.vd c
   ·exact Rp.weak h fun a g => g.2 c
  ·rw [if_neg c] at e
   cases e
 | 0, w, .c n, d, e, h => by cases e
 | f + 1, w, .c n, d, e, h => by
  obtain ⟨p, hp, rfl⟩ := h
  have gp : Gn p := hk p (List.mem_of_getElem? hp)
  unfold wJ at e
  cases hn : μ[n]? with
  | none => rw [hn] at e; cases e
  | some y =>
   rw [hn] at e
   have q := M.cel n p y hp hn
   cases y with
   | lst xs =>
    obtain ⟨vs, q1, q2⟩ := q
    cases hm : xs.mapM (wJ μ f) with
    | none => dsimp only at e; rw [hm] at e; cases e
    | some ds =>
     dsimp only at e
     rw [hm] at e
     cases e
     exact .lst gp (.of q1) (w9 (fun w x d e h => xg M hk f w x d e h) q2 hm)
   | ins c ns xs =>
    obtain ⟨C, dx, vs, q0, q1, ql, q2⟩ := q
    cases hm : xs.mapM (wJ μ f) with
    | none => dsimp only at e; rw [hm] at e; cases e
    | some ds =>
     dsimp only at e
     rw [hm] at e
     cases e
     exact .obj gp q0 q1 ql (w9 (fun w x d e h => xg M hk f w x d e h) q2 hm)
section
variable {P : Program} {w : World} {K : PySem.W.Frag} {mg : Str -> Option Value} {base : Heap}
theorem Zd {x : Str} {st : Stmt} {f : Addr} {fd : FuncData} {N ps : List Str} {k n : Nat} {r : RM} {g : Fn} (F : Fun K x x st f fd) (S : qv N ps (qa st)) (hm : mg x = some (.ref f)) (hb : Binds K fd ps []) (hn : ps.length = n)
  (body : ∀ (cdv : Value) (A : Around) (outer : List Env) (s : Shared) (H : Hp) (E : XK), vh k (A.deeper (envOfC x (qa st) s.heap.objs.size f cdv)) ->
   PSs (zy P w K mg base N x (qa st) f cdv A outer s H E) (qt st) (tM mg K E r)) (hg : ∀ ds, g ds = V8 (r ⟨ms0 N (it0 ds), []⟩)) : Fd P w K mg base (k + 1) x n g := by
 refine ⟨f, fd, ps, zu.imp (Zz F S hn body) fun vs H Q E ⟨ds, hl, rp, h⟩ => ?_, hm, F.kp, hb⟩
 refine ⟨fun a => H a = none, [], [], it0 ds, by unfold it0; rw [List.length_map]; exact hl, ⟨List.nodup_nil, rfl, fun n p x e _ => (by simp at e), fun a e => e⟩, ?_, ?_⟩
 ·exact Its.vals (rp.weak fun a _ => ⟨(fun z => by cases z), fun z => by cases z⟩)
 rw [hg ds] at h
 show ZP mg K E (fun a => H a = none) [] H (ZO (r ⟨ms0 N (it0 ds), []⟩)) Q
 cases ho : r ⟨ms0 N (it0 ds), []⟩ with
 | bk m' => rw [ho] at h; exact h.elim
 | ct m' => rw [ho] at h; exact h.elim
 | no => rw [ho] at h; exact h.elim
 | er c => rw [ho] at h; exact fun C H' e s => h C H' e fun a o q => s a o q (fun z => nomatch z)
 | nx m' =>
  rw [ho] at h
  intro w κ' H' M' r' e
  have h : ∀ v H', qh H H' -> RR mg K H H' false v .non -> Q v H' := h
  cases r' with
  | non => exact h .non H' (fun a o q => e.keep a o q (fun z => nomatch z)) Rp.non
 | rt x μ' =>
  rw [ho] at h
  intro w κ' H' M' r' e
  have sm : qh H H' := fun a o q => e.keep a o q (fun z => nomatch z)
  have hk : ∀ p ∈ κ', H p = none := fun p hp => (e.old p hp).elim (fun z => nomatch z) id
  have h : qg mg E H (Vj μ' x) fun y => ∀ v H', qh H H' -> RR mg K H H' y.2 v y.1 -> Q v H' := h
  unfold Vj at h
  cases hv : wJ μ' 3 x with
  | none => rw [hv] at h; exact h.elim
  | some d =>
   rw [hv] at h
   have rp2 := xg (Gn := fun a => H a = none) M' hk 3 w x d hv r'
   cases x with
   | v d' k' =>
    have h : ∀ v H', qh H H' -> RR mg K H H' false v d -> Q v H' := by cases d <;> exact h
    exact h w H' sm rp2
   | c n' =>
    cases d with
    | lst ds' =>
     have h : ∀ v H', qh H H' -> RR mg K H H' (ds'.all D.sc) v (.lst ds') -> Q v H' := h
     refine h w H' sm ?_
     cases c : ds'.all D.sc with
     | false => exact rp2
     | true =>
      obtain ⟨p, hp, rfl⟩ := r'
      have e3 : (match μ'[n']? with
       | some (.lst xs) => (xs.mapM (wJ μ' 2)).map D.lst
       | some (.ins c ns xs) => (xs.mapM (wJ μ' 2)).map (D.obj c ns)
       | none => none) = some (.lst ds') := hv
      cases hn' : μ'[n']? with
      | none => rw [hn'] at e3; cases e3
      | some y =>
       rw [hn'] at e3
       cases y with
       | ins c ns xs =>
        dsimp only at e3
        cases hm' : xs.mapM (wJ μ' 2) with
        | none => rw [hm'] at e3; cases e3
        | some es => rw [hm'] at e3; cases e3
       | lst xs =>
        dsimp only at e3
        cases hm' : xs.mapM (wJ μ' 2) with
        | none => rw [hm'] at e3; cases e3
        | some es =>
         rw [hm'] at e3
         cases e3
         obtain ⟨vs', q1, q2⟩ := M'.cel n' p _ hp hn'
         have ra := w9 (fun w x d e h => xg M' hk 2 w x d e h) q2 hm'
         refine ⟨p, _, rfl, rfl, c, hk p (List.mem_of_getElem? hp), ?_⟩
         rw [q1, ra.sc c]
    | obj c ns ds' => exact h w H' sm rp2
    | non => exact h w H' sm rp2
    | bl b => exact h w H' sm rp2
    | int z => exact h w H' sm rp2
    | tup ts => exact h w H' sm rp2
    | fn y => exact h w H' sm rp2
end
end L2.Ir
set_option maxHeartbeats 4000000
namespace L2.Ir
open PySem PySem.Spec PyProof.Rows
theorem xx (l b : Addr) (us vs : Array Value) (n k : Nat) (dd : Option Addr) (sl : Array (Option Value)) (h0 : ¬(!us.isEmpty && Builtin.List.listTooLong (us.size + vs.size)) = true) (h1 : us.size <= sizeLine) (h2 : us.size + vs.size <= sizeLine + 1) :
  Meets (Builtin.«list.extend» ⟨[.ref l, .ref b], []⟩) (fun _ R s => s.heap.get? l = some { cls := .type "list", data := .seq us n } /\ s.heap.get? b = some ⟨.type "list", dd, .seq vs k, sl⟩ /\ R (.ok (.ret Value.none)) { s with heap := s.heap.update l (Obj.mapSeq fun x => x ++ vs) }) :=
 .of_wp fun prog w A R s q => by
  obtain ⟨hp, gs, dr, tk, os⟩ := s
  obtain ⟨ql, qb, q⟩ := q
  have i1 := AutoSeq1.idx_int
  have i2 := AutoSeq1.sub_tuple_tuple
  have i3 := AutoSeq1.sub_list_list
  have i4 := AutoSeq1.sub_tuple_list
  have i5 := AutoSeq1.sub_list_tuple
  have hz : (us ++ vs).size <= sizeLine + 1 := by
   rw [Array.size_append]
   exact h2
  wp_walk using (wpAny_updateSeq ql rfl (hz := h1) (_hz' := hz)), AutoSeq1.wpAny_loadPart' ql, AutoSeq1.wpAny_loadPart' qb
  exact ⟨_, rfl, q⟩
section
variable {X : Cx} {E : XK} {pos : Pos}
noncomputable def WX (K : PySem.W.Frag) : V -> List V -> Hp -> VK -> Prop := fun x vs H Q => ∃ l b xs zs, x = .ref l /\ vs = [.ref b] /\ H l = some (.lst xs) /\ SqL K H b zs /\ xs.length + zs.length <= sizeLine /\ Q .non (upd H l (.lst (xs ++ zs)))
theorem u5 : MtM X "list.extend" (WX X.K) := by
 intro pins s σ H x vs v us Q I rx rv h
 obtain ⟨l, b, xs, zs, rfl, rfl, hH, hB, hz, q⟩ := h
 cases rx
 obtain ⟨u, rfl, ru⟩ := rv.one
 cases ru
 obtain ⟨z1, ts, n, r1, hl, e1⟩ := I.je hH
 obtain ⟨ts2, r2, p2, z2⟩ := I.list hB
 obtain ⟨⟨cls, dd, data, sl⟩, e2, hc, n2, hd⟩ := id p2.isList
 simp only at hc hd
 subst hc hd
 have l2 := r2.length
 have hsz : ts.toArray.size + ts2.toArray.size <= sizeLine := by rw [List.size_toArray, List.size_toArray]; lia
 refine call_meets PySem.F.slot_list_extend ⟨_, e1, rfl⟩ PySem.F.entry_list_extend (PySem.F.args_list_extend_2 _ _) (xx l b ts.toArray ts2.toArray n n2 dd sl (by rw [yF hsz, Bool.and_false]; exact Bool.false_ne_true) (by rw [List.size_toArray]; lia) (by lia)) ⟨e1, e2, ?_⟩
 refine ⟨.non, _, I.ZS (its' := ts ++ ts2) hH e1 (by simp) (r1.append r2) ?_, rfl, q⟩
 rw [List.length_append]
 lia
theorem j8 {e : Expr} {ec : IE} {r : RE} (h : PE X e (tBM X.K "list" (WX X.K) (tIe X E ec) (QW (TEx X E r) ZE))) (hsw : swapsWith e none pos.line X.env = pure false := by rfl) : PS X (.Expr e pos) (TMx X E (zM ec r)) := by
 refine qV (jA h hsw) fun D σ H ⟨Gn, κ, m, R, h⟩ => ⟨Gn, κ, m, R, vH.do_ h fun y _ h1 w H1 s1 hw => ?_⟩
 cases e : cellAt m y with
 | none => rw [e] at h1; exact h1.elim
 | some q =>
  obtain ⟨n, q⟩ := q
  obtain ⟨rfl, hn⟩ := Wt e
  rw [e] at h1
  cases q with
  | ins c' ns xs => exact h1.elim
  | lst xs =>
   obtain ⟨p, hp, rfl⟩ := hw
   obtain ⟨vs1, g1, g3⟩ := (R.more s1).mem.cel n p _ hp hn
   have Rv := wZ (m := m) (Ext.refl (κ := κ) (H := H1)) (R.more s1)
   refine ⟨.inl ⟨rfl, _, SqL.of g1⟩, _, _, Rv, ?_⟩
   refine qg.more (vH.do_ h1 fun x _ h2 u H2 s2 vu => ?_) s1
   obtain ⟨dx, kx⟩ := x
   have s12 := s1.trans s2
   have R2 := R.more s12
   obtain ⟨vs, g1, g3⟩ := R2.mem.cel n p _ hp hn
   cases dx with
   | lst ds =>
    have h2 : vH X.mg X.K E Gn κ H (if ds.all Ir.D.sc = true /\ xs.length + ds.length <= LIM then .nx ⟨m.s, m.μ.set n (.lst (xs ++ ds.map fun d => .v d true))⟩ else .no) D := h2
    by_cases c : ds.all Ir.D.sc = true /\ xs.length + ds.length <= LIM
    ·rw [if_pos c] at h2
     obtain ⟨a, us, rfl, sq, ra⟩ := VR.items Rv vu
     have hus := ra.sc c.1
     refine ⟨p, a, vs, us, rfl, rfl, g1, sq, ?_, ?_⟩
     ·rw [g3.len, ra.len]; exact c.2
     have pk : p ∈ κ := List.mem_of_getElem? hp
     have ex : Ext κ H2 κ (upd H2 p (.lst (vs ++ us))) := Ext.upd pk
     obtain ⟨M, _⟩ := R2.mem.mut (x := .lst (xs ++ ds.map fun d => .v d true)) (o := .lst (vs ++ us)) hp ⟨_, qm, (g3.ext ex).append (by rw [hus]; exact Its.vals (qc.vd c.1))⟩
     exact h2 κ σ _ (R2.after ex M) ((Ext.same s12).trans ex)
    ·rw [if_neg c] at h2
     exact h2.elim
   | _ => exact h2.elim
theorem RgC.up {j c : Int} (hc : 0 < c) (hc2 : c < 1000000) (hj : -1000000 < j) (hj2 : j < 1000000) : RgC 0 j c ((j + c - 1) / c).toNat := by
 have fit : ∀ z : Int, -4000000 < z /\ z < 4000000 -> Builtin.Range.rangeFitsLong z = true := fun z h1 => by
  unfold Builtin.Range.rangeFitsLong
  simp
  lia
 have hsz : Builtin.Range.rangeSize 0 j c = (((j + c - 1) / c).toNat : Int) := by
  unfold Builtin.Range.rangeSize
  rw [if_pos (by lia)]
  by_cases h : 0 < j
  ·rw [if_pos h]
   have e : j + c - 1 = (j - 0 - 1) + c * 1 := by lia
   rw [e, Int.add_mul_ediv_left _ _ (by lia)]
   have : 0 <= (j - 0 - 1) / c := Int.ediv_nonneg (by lia) (by lia)
   lia
  ·rw [if_neg h]
   have : (j + c - 1) / c <= 0 := by
    have h3 : (j + c - 1) / c < 1 := by
     refine Int.ediv_lt_of_lt_mul hc ?_
     lia
    lia
   lia
 have hb : (((j + c - 1) / c).toNat : Int) <= 2000000 := by
  have : (j + c - 1) / c <= 2000000 := by
   by_cases h : 0 <= j + c - 1
   ·exact Int.le_trans (Int.ediv_le_self _ h) (by lia)
   ·have : (j + c - 1) / c < 0 := Int.ediv_neg_of_neg_of_pos (by lia) hc
    lia
  lia
 refine ⟨by lia, by lia, ?_, hsz⟩
 unfold Builtin.Range.small
 rw [hsz, fit 0 (by decide), fit j ⟨Int.lt_trans (by decide) hj, Int.lt_trans hj2 (by decide)⟩, fit c ⟨Int.lt_trans (by decide) hc, Int.lt_trans hc2 (by decide)⟩, fit _ (by lia), if_pos (by lia), fit (j + (c - 1)) (by lia)]
 simp
theorem Wv {i j c : Int} {l : List Int} (h : uH i j c = some l) : ∃ n, RgC i j c n /\ l.length = n /\ ∀ k : Nat, k < n -> l[k]? = some (i + k * c) := by
 unfold uH at h
 by_cases b : (-1000000 < i /\ i < 1000000) /\ (-1000000 < j /\ j < 1000000) /\ (-1000000 < c /\ c < 1000000)
 ·rw [if_pos b] at h
  by_cases c1 : c = -1
  ·rw [if_pos c1] at h
   cases h
   subst c1
   refine ⟨(i - j).toNat, RgC.neg (by lia) (by lia) (by lia) (by lia), by rw [List.length_map, List.length_range], fun k hk => ?_⟩
   rw [List.getElem?_map, List.getElem?_range hk]
   show some (i - (k : Int)) = some (i + (k : Int) * -1)
   congr 1
   lia
  ·rw [if_neg c1] at h
   by_cases c2 : 0 < c /\ i = 0
   ·rw [if_pos c2] at h
    cases h
    obtain ⟨c3, rfl⟩ := c2
    refine ⟨((j + c - 1) / c).toNat, RgC.up c3 (by lia) (by lia) (by lia), by rw [List.length_map, List.length_range], fun k hk => ?_⟩
    rw [List.getElem?_map, List.getElem?_range hk, Int.zero_add]
    rfl
   ·rw [if_neg c2] at h
    cases h
 ·rw [if_neg b] at h
  cases h
theorem j7 {i : Nat} {tgE a b c : Expr} {r q t : RE} {p : Pos} (hg : Gl X "range") (hm : X.mg "range" = none) (ha : PE X a (TEx X E r)) (hb : PE X b (TEx X E q)) (hc : PE X c (TEx X E t)) (hs : starEach [a, b, c] X.env = (false, eval a X.env) :: starEach [b, c] X.env := by rfl)
  (hs2 : starEach [b, c] X.env = (false, eval b X.env) :: starEach [c] X.env := by rfl) (hs3 : starEach [c] X.env = (false, eval c X.env) :: starEach [] X.env := by rfl) (hpl : (backTo pos (starEach [b, c] X.env)).any (·.1) = false := by rfl) :
  PI X tgE (.Call (.Name "range" p) [a, b, c] [] pos) (tI X E (vp i) (.one i) (zk r q t)) := by
 refine zV (jZ hg hm (vo ha (vo hb (vo hc wj hs3) hs2) hs) hs hpl) fun σ H R ⟨B, δ, R0, h⟩ => ⟨B, δ, R0, ?_⟩
 refine qg.imp (qg.bind h) fun x h1 v H1 s1 vr => ⟨B, δ, R0.more s1, ?_⟩
 refine qg.imp (qg.more (qg.bind h1) s1) fun y h2 w H2 s2 vw => ⟨B, δ, (R0.more s1).more s2, ?_⟩
 refine qg.imp (qg.more (qg.more (qg.bind h2) s1) s2) fun z h3 u H3 s3 vu => ?_
 obtain ⟨d, k⟩ := x
 obtain ⟨d', k'⟩ := y
 obtain ⟨d2, k2⟩ := z
 have vr : VR X.mg X.K B H H1 σ δ k v d := vr
 have vw : VR X.mg X.K B H1 H2 σ δ k' w d' := vw
 have vu : VR X.mg X.K B H2 H3 σ δ k2 u d2 := vu
 have key : ∀ i1 j1 c1 : Int, d = .int i1 -> d' = .int j1 -> d2 = .int c1 -> ∃ (i j c : Int) (n : Nat), [v, w, u] = [.int i, .int j, .int c] /\ RgC i j c n /\ R (Itc i c n) H3 := fun i1 j1 c1 e1 e2 e3 => by
  subst e1 e2 e3
  have ev := qP R0 vr
  have ew := qP (R0.more s1) vw
  have eu := qP ((R0.more s1).more s2) vu
  subst ev ew eu
  have h3 : qg X.mg E H (match uH i1 j1 c1 with | some l => .ok (true, l.map fun n => (D.int n, Kd.nw)) | none => .no) fun x => ∀ J H1, qh H H1 -> Walks X B H1 σ δ (vp i) (.one i) J x.1 x.2 -> R J H1 := h3
  cases hr : uH i1 j1 c1 with
  | none => rw [hr] at h3; exact h3.elim
  | some l =>
   rw [hr] at h3
   obtain ⟨n, rg, hl, hk⟩ := Wv hr
   refine ⟨i1, j1, c1, n, rfl, rg, h3 _ H3 (s1.trans (s2.trans s3)) ⟨fun B' n' x σ' δ' δ2 H2 hx R' f hp => ?_, fun B' n' σ' δ' H2 hn R' f => (show n <= n' by rw [List.length_map, hl] at hn; exact hn)⟩⟩
   have hlt : n' < n := by
    have := (List.getElem?_eq_some_iff.mp hx).1
    rw [List.length_map, hl] at this
    exact this
   rw [List.getElem?_map, hk n' hlt] at hx
   cases hx
   refine ⟨hlt, fun u H3 hy Q hQ => ?_⟩
   obtain ⟨rfl, rfl⟩ := hy
   have hp : put i (D.int (i1 + (n' : Nat) * c1), .nw) δ' = some δ2 := hp
   have q := xU (v := .int (i1 + (n' : Nat) * c1)) R' (Rp.int _) hp
   exact hQ _ _ q.1 q.2 qh.refl ⟨_, rfl⟩
 cases d with
 | int i1 =>
  cases d' with
  | int j1 =>
   cases d2 with
   | int c1 => exact key i1 j1 c1 rfl rfl rfl
   | _ => exact h3.elim
  | _ => exact h3.elim
 | _ => exact h3.elim
end
section
variable {P : Program} {w : World} {K : PySem.W.Frag} {mg : Str -> Option Value} {base : Heap}
noncomputable abbrev Vm (P : Program) (w : World) (K : PySem.W.Frag) (mg : Str -> Option Value) (base : Heap) (k : Nat) (N : List Str) (q : Str) (st : Stmt) (f : Addr) (t : XK -> TS) : Prop := ∀ (cdv : Value) (A : Around) (outer : List Env) (s : Shared) (H : Hp) (E : XK), vh k (A.deeper (envOfC q (qa st) s.heap.objs.size f cdv)) -> N.Nodup -> Gd (zy P w K mg base N q (qa st) f cdv A outer s H E) E -> PSs (zy P w K mg base N q (qa st) f cdv A outer s H E) (qt st) (t E)
theorem fd2 {x : Str} {st : Stmt} {f : Addr} {fd : FuncData} {N ps : List Str} {k n : Nat} {g : Fn} {r : RS} (F : Fun K x x st f fd) (S : qv N ps (qa st)) (hm : mg x = some (.ref f)) (hb : Binds K fd ps []) (hn : ps.length = n) (body : Vm P w K mg base k N x st f fun E => tS mg K E r)
  (hr : ∀ ds : List D, ds.length = n -> g ds = .no \/ res (r (sl0 N ds)) = g ds) : Fd P w K mg base (k + 1) x n g := YI F S hm hb hn (fun cdv A outer s H E h => body cdv A outer s H E h S.nd (jC S.nd)) hr
theorem Y6 {x : Str} {st : Stmt} {f : Addr} {fd : FuncData} {N ps : List Str} {k n : Nat} {r : RM} {g : Fn} (F : Fun K x x st f fd) (S : qv N ps (qa st)) (hm : mg x = some (.ref f)) (hb : Binds K fd ps []) (hn : ps.length = n) (body : Vm P w K mg base k N x st f fun E => tM mg K E r)
  (hg : ∀ ds, g ds = V8 (r ⟨ms0 N (it0 ds), []⟩)) : Fd P w K mg base (k + 1) x n g := Zd F S hm hb hn (fun cdv A outer s H E h => body cdv A outer s H E h S.nd (jC S.nd)) hg
end
end L2.Ir
namespace Lw
open PySem.W (nsIn codeIn keepIn fnOf mg_of mg_none_of nsOkIn findIn makesIn isFn plainGet hasDictIn plainOver tabIn Frag)
open PySem PySem.Spec PyProof.Rows L2 L2.Ir Dt 
noncomputable def top (i : Nat) : Stmt := PySem.Challenge.pw_doubletables_s06_rows.main.body.getD i (.Pass ⟨0, 0, 0, 0⟩)
theorem jS {α : Type} {p : List α -> Prop} (h : ∀ a0, p [a0]) : ∀ us, us.length = 1 -> p us
 | [_], _ => h _
theorem Y3 {α : Type} {p : List α -> Prop} (h : ∀ a0 a1, p [a0, a1]) : ∀ us, us.length = 2 -> p us
 | [_, _], _ => h _ _
theorem Xe {α : Type} {p : List α -> Prop} (h : ∀ a0 a1 a2, p [a0, a1, a2]) : ∀ us, us.length = 3 -> p us
 | [_, _, _], _ => h _ _ _
theorem Zu {α : Type} {p : List α -> Prop} (h : ∀ a0 a1 a2 a3, p [a0, a1, a2, a3]) : ∀ us, us.length = 4 -> p us
 | [_, _, _, _], _ => h _ _ _ _
theorem yA {N P : List Str} {sc : Scope} (a : sc.kind = .function) (b : sc.isCoroutine = false) (c : sc.isGenerator = false) (d : N.take P.length = P) (h : N.Nodup /\ (∀ x ∈ P, sc.names.lookup x = some .local \/ sc.names.lookup x = some .cell) /\ ∀ y ∈ sc.names, y.2 ≠ .free) : qv N P sc := ⟨a, b, c, h.1, d, h.2.1, h.2.2⟩
section
variable {P : Program} {w : World} {K : Frag} {mg : Str -> Option Value} {base : Heap}
theorem uQ : qv ["x"] ["x"] (qa (top 4)) := yA rfl rfl rfl rfl (by decide +kernel)
theorem uN {f : Addr} {fd : FuncData} (F : Fun K "size_of" "size_of" (top 4) f fd) (hm : mg "size_of" = some (.ref f)) (hb : Binds K fd ["x"] []) (c_SIGN_BIT : ∃ t, mg "SIGN_BIT" = some (.int 9223372036854775808 t)) : Fd P w K mg base 1 "size_of" 1 Dt.vD :=
 fd2 (r := Dt.wC) F uQ hm hb rfl (fun _ _ _ _ _ _ hr nd G => (qI (zv (yD Z7 (Z9 _) (xv 0) (yD Yd Zv (xa rfl c_SIGN_BIT) uR))))) Dt.jg
theorem xB : qv ["x"] ["x"] (qa (top 5)) := yA rfl rfl rfl rfl (by decide +kernel)
theorem xW {f : Addr} {fd : FuncData} (F : Fun K "is_finite" "is_finite" (top 5) f fd) (hm : mg "is_finite" = some (.ref f)) (hb : Binds K fd ["x"] []) (c_INFINITE : ∃ t, mg "INFINITE" = some (.int 9218868437227405312 t)) (f_size_of : Fd P w K mg base 1 "size_of" 1 Dt.vD) : Fd P w K mg base 2 "is_finite" 1 Dt.qO :=
 fd2 (r := Dt.vI) F xB hm hb rfl (fun _ _ _ _ _ _ hr nd G => (qI (zv (ZX WT (jc _) (yw _) (vA G.acc f_size_of (hr.mono (by decide)) rfl (.cons (.nil)) (qo (xv 0) qK)) (xa rfl c_INFINITE))))) Dt.xK
theorem uK : qv ["numbers", "n", "start"] ["numbers", "n"] (qa (top 7)) := yA rfl rfl rfl rfl (by decide +kernel)
theorem uJ {f : Addr} {fd : FuncData} (F : Fun K "grid_of" "grid_of" (top 7) f fd) (hm : mg "grid_of" = some (.ref f)) (hb : Binds K fd ["numbers", "n"] []) (n_len : mg "len" = none) (n_range : mg "range" = none) : Fd P w K mg base 1 "grid_of" 2 Gr.vn :=
 fd2 (r := Gr.wH) F uK hm hb rfl (fun _ _ _ _ _ _ hr nd G => (qI (zv (jt (hc := rfl) (hN := nd) (acc := G.acc) (hst := rfl) (hfr := rfl) (hi := (j7 (i := 2) rfl n_range uR (xu (zi v7 rfl n_len zx (qo (xv 0) qK)) u7) (xv 1))) (own := [("start", 2)]) (ok := by show Vz ["numbers", "n", "start"] (qa (top 7)) _ _ = true; decide +kernel) (hv := by simp [Tg.within]) (hg := fun s H C cl fp => (pgn 2 nd)) (ht := fun s H C cl fp => ub) (he := fun s H C cl fp => (Va (xv 0) (jH (xv 2)) (jH (yD jn Vw (xv 2) (xv 1))) WL)))))) (fun _ _ => .inr rfl)
theorem VZ : qv ["grid", "numbers", "row"] ["grid"] (qa (top 8)) := yA rfl rfl rfl rfl (by decide +kernel)
theorem WN {f : Addr} {fd : FuncData} (F : Fun K "flat" "flat" (top 8) f fd) (hm : mg "flat" = some (.ref f)) (hb : Binds K fd ["grid"] [])  : Fd P w K mg base 1 "flat" 1 Gr.wk :=
 Y6 (r := Gr.xp) F VZ hm hb rfl (fun _ _ _ _ _ _ hr nd G => (uh (Zq 1 G ne_nil) (uh (Zw G (Yo (zT (i := 2) (xv 0))) (pgn 2 nd) (jB (j8 (YW PySem.F.plainAttrs_list PySem.F.slot_list_extend PySem.F.type_list_extend u5 (YE 1) (vo (xv 2) wj))))) (jB (W7 (YE 1)))))) (fun _ => rfl)
theorem zC : qv ["sizes", "lists", "counts", "size", "numbers", "count"] ["sizes", "lists", "counts"] (qa (top 15)) := yA rfl rfl rfl rfl (by decide +kernel)
theorem zF {f : Addr} {fd : FuncData} (F : Fun K "check_counts" "check_counts" (top 15) f fd) (hm : mg "check_counts" = some (.ref f)) (hb : Binds K fd ["sizes", "lists", "counts"] []) {C_WrongCount : Addr} (c_GREATEST_SIZE : ∃ t, mg "GREATEST_SIZE" = some (.int 16 t)) (n_len : mg "len" = none) (n_zip : mg "zip" = none) (m_WrongCount : mg "WrongCount" = some (.ref C_WrongCount)) (x_WrongCount : qx K C_WrongCount = true) : Fd P w K mg base 1 "check_counts" 3 Dt.qp :=
 fd2 (r := Dt.qZ) F zC hm hb rfl (fun _ _ _ _ _ _ hr nd G => (wo (ju G (zT (i := 3) (xv 0)) (pgn 3 nd) (qI (jE (V1 (Yz (xV WT (jc _) (yw _) (xv 3) uR) (Z2 (xV YT (jc _) (yw _) (xv 3) (xa rfl c_GREATEST_SIZE))))) (qI (zd G rfl m_WrongCount x_WrongCount)) zU))) (qI (Qy G (Z5 (i := 4) (j := 5) rfl n_zip (xv 1) (xv 2)) (pg2 rfl (pgn 4 nd) (pgn 5 nd)) (qI (jE (xV (Vi hr.units) WY (yw _) (xu (zi v7 rfl n_len zx (qo (xv 4) qK)) u7) (xv 5)) (qI (zd G rfl m_WrongCount x_WrongCount)) zU)))))) Dt.zI
theorem zE : qv ["numbers", "x"] ["numbers"] (qa (top 16)) := yA rfl rfl rfl rfl (by decide +kernel)
theorem zG {f : Addr} {fd : FuncData} (F : Fun K "check_finite" "check_finite" (top 16) f fd) (hm : mg "check_finite" = some (.ref f)) (hb : Binds K fd ["numbers"] []) {C_NotFinite : Addr} (m_NotFinite : mg "NotFinite" = some (.ref C_NotFinite)) (x_NotFinite : qx K C_NotFinite = true) (f_is_finite : Fd P w K mg base 2 "is_finite" 1 Dt.qO) : Fd P w K mg base 3 "check_finite" 1 Dt.qk :=
 fd2 (r := Dt.qY) F zE hm hb rfl (fun _ _ _ _ _ _ hr nd G => (qI (ju G (zT (i := 1) (xv 0)) (pgn 1 nd) (qI (jE (Ze (ZY (vA G.acc f_is_finite (hr.mono (by decide)) rfl (.cons (.nil)) (qo (xv 1) qK)))) (qI (zd G rfl m_NotFinite x_NotFinite)) zU))))) Dt.zH
theorem yL : qv ["numbers"] ["numbers"] (qa (top 18)) := yA rfl rfl rfl rfl (by decide +kernel)
theorem yM {f : Addr} {fd : FuncData} (F : Fun K "with_count" "with_count" (top 18) f fd) (hm : mg "with_count" = some (.ref f)) (hb : Binds K fd ["numbers"] []) (n_len : mg "len" = none) : Fd P w K mg base 1 "with_count" 1 Dt.qy :=
 fd2 (r := Dt.zf) F yL hm hb rfl (fun _ _ _ _ _ _ hr nd G => (qI (zv (yD jn Vw (xF (qo (xu (zi v7 rfl n_len zx (qo (xv 0) qK)) u7) qK)) (xv 0))))) Dt.yI
theorem xP : qv ["grid"] ["grid"] (qa (top 19)) := yA rfl rfl rfl rfl (by decide +kernel)
theorem xQ {f : Addr} {fd : FuncData} (F : Fun K "grid_told" "grid_told" (top 19) f fd) (hm : mg "grid_told" = some (.ref f)) (hb : Binds K fd ["grid"] []) (f_flat : Fd P w K mg base 1 "flat" 1 Gr.wk) (f_with_count : Fd P w K mg base 1 "with_count" 1 Dt.qy) : Fd P w K mg base 2 "grid_told" 1 Gr.qG :=
 fd2 (r := Gr.vN) F xP hm hb rfl (fun _ _ _ _ _ _ hr nd G => (qI (zv (vA G.acc f_with_count (hr.mono (by decide)) rfl (.cons (.nil)) (qo (vA G.acc f_flat (hr.mono (by decide)) rfl (.cons (.nil)) (qo (xv 0) qK)) qK))))) (fun _ _ => .inr rfl)
theorem xy : qv ["m", "n", "a", "p", "grid", "i"] ["m", "n", "a", "p"] (qa (top 20)) := yA rfl rfl rfl rfl (by decide +kernel)
theorem xS {f : Addr} {fd : FuncData} (F : Fun K "rows_told" "rows_told" (top 20) f fd) (hm : mg "rows_told" = some (.ref f)) (hb : Binds K fd ["m", "n", "a", "p"] []) {C_NotAsTold : Addr} (n_list : mg "list" = none) (n_range : mg "range" = none) (n_sorted : mg "sorted" = none) (m_NotAsTold : mg "NotAsTold" = some (.ref C_NotAsTold)) (x_NotAsTold : qx K C_NotAsTold = true) (f_check_counts : Fd P w K mg base 1 "check_counts" 3 Dt.qp) (f_check_finite : Fd P w K mg base 3 "check_finite" 1 Dt.qk) (f_grid_of : Fd P w K mg base 1 "grid_of" 2 Gr.vn) (f_grid_told : Fd P w K mg base 2 "grid_told" 1 Gr.qG) : Fd P w K mg base 4 "rows_told" 4 Gr.qM :=
 fd2 (r := Gr.vP) F xy hm hb rfl (fun _ _ _ _ _ _ hr nd G => (wo (jK (vA G.acc f_check_counts (hr.mono (by decide)) rfl (.cons (.cons (.cons (.nil)))) (qo (xF (qo (xv 0) (qo (xv 1) qK))) (qo (xF (qo (xv 2) (qo (xv 3) qK))) (qo (xF (qo (yD (Wo.or Zo) Zk (xv 0) (xv 1)) (qo (xv 0) qK))) qK))))) (wo (jK (vA G.acc f_check_finite (hr.mono (by decide)) rfl (.cons (.nil)) (qo (xv 2) qK))) (wo (jE (xV (Vi hr.units) WY (yw _) (xu (zi jX rfl n_sorted xm (qo (xv 3) qK)) Qa) (xH rfl rfl n_list rfl n_range (xv 0))) (qI (zd G rfl m_NotAsTold x_NotAsTold)) zU) (wo (Y4 4 G (vA G.acc f_grid_of (hr.mono (by decide)) rfl (.cons (.cons (.nil))) (qo (xv 2) (qo (xv 1) qK)))) (qI (zv (vA G.acc f_grid_told (hr.mono (by decide)) rfl (.cons (.nil)) (qo (jt (hc := rfl) (hN := nd) (acc := G.acc) (hst := rfl) (hfr := rfl) (hi := (zT (i := 5) (xv 3))) (own := [("i", 5)]) (ok := by show Vz ["m", "n", "a", "p", "grid", "i"] (qa (top 20)) _ _ = true; decide +kernel) (hv := by simp [Tg.within]) (hg := fun s H C cl fp => (pgn 5 nd)) (ht := fun s H C cl fp => ub) (he := fun s H C cl fp => (YA (xv 4) (xv 5) (fun _ _ => rfl)))) qK))))))))) (fun _ _ => .inr rfl)
end
theorem uA : qv ["work", "told"] ["work"] (qa (top 14)) := yA rfl rfl rfl rfl (by decide +kernel)
theorem V2 : qv ["m", "n", "a", "p"] ["m", "n", "a", "p"] (qa (top 21)) := yA rfl rfl rfl rfl (by decide +kernel)
noncomputable def Y5 : Scope := match qt (top 21) with
 | [.Return (some (.Call _ (.Lambda _ _ ls _ :: _) _ _)) _] => ls
 | _ => qa (top 21)
theorem VC : zl (qa (top 21)) Y5 := ⟨rfl, rfl, rfl, by decide +kernel, by decide +kernel, by decide +kernel⟩
theorem all_mk {P : Program} {w : World} {K : Frag} {h : Heap} {mg : Str -> Option Value} {fa c PT : Addr} (X : K.In h) (G : h.Ns mainGlobals mg) (hfa : mg "rows" = some (.ref fa))
  {f_x0 : Addr} {oc_x0 kV_x0 dc_x0 pm_x0 cd_x0 ct_x0 : Value} {od_x0 an_x0 : Option Addr} {sl_x0 : Array (Option Value)}
  {f_x1 : Addr} {oc_x1 kV_x1 dc_x1 pm_x1 cd_x1 ct_x1 : Value} {od_x1 an_x1 : Option Addr} {sl_x1 : Array (Option Value)}
  {f_x2 : Addr} {oc_x2 kV_x2 dc_x2 pm_x2 cd_x2 ct_x2 : Value} {od_x2 an_x2 : Option Addr} {sl_x2 : Array (Option Value)}
  {f_x3 : Addr} {oc_x3 kV_x3 dc_x3 pm_x3 cd_x3 ct_x3 : Value} {od_x3 an_x3 : Option Addr} {sl_x3 : Array (Option Value)}
  {f_x4 : Addr} {oc_x4 kV_x4 dc_x4 pm_x4 cd_x4 ct_x4 : Value} {od_x4 an_x4 : Option Addr} {sl_x4 : Array (Option Value)}
  {f_x5 : Addr} {oc_x5 kV_x5 dc_x5 pm_x5 cd_x5 ct_x5 : Value} {od_x5 an_x5 : Option Addr} {sl_x5 : Array (Option Value)}
  {f_x6 : Addr} {oc_x6 kV_x6 dc_x6 pm_x6 cd_x6 ct_x6 : Value} {od_x6 an_x6 : Option Addr} {sl_x6 : Array (Option Value)}
  {f_x7 : Addr} {oc_x7 kV_x7 dc_x7 pm_x7 cd_x7 ct_x7 : Value} {od_x7 an_x7 : Option Addr} {sl_x7 : Array (Option Value)}
  {f_x8 : Addr} {oc_x8 kV_x8 dc_x8 pm_x8 cd_x8 ct_x8 : Value} {od_x8 an_x8 : Option Addr} {sl_x8 : Array (Option Value)}
  {f_x9 : Addr} {oc_x9 kV_x9 dc_x9 pm_x9 cd_x9 ct_x9 : Value} {od_x9 an_x9 : Option Addr} {sl_x9 : Array (Option Value)}
  {f_x10 : Addr} {oc_x10 kV_x10 dc_x10 pm_x10 cd_x10 ct_x10 : Value} {od_x10 an_x10 : Option Addr} {sl_x10 : Array (Option Value)}
  {C_WrongCount C_NotFinite C_StepNotFinite C_NotAsTold : Addr}
  {t_GREATEST_SIZE : _}
  {t_INFINITE : _}
  {t_SIGN_BIT : _}
  {N_WrongCount : Addr} {nm_WrongCount qn_WrongCount bs_WrongCount hdct_WrongCount sn_WrongCount sub_WrongCount ab_WrongCount col_WrongCount dd_WrongCount k0_WrongCount k1_WrongCount k2_WrongCount k3_WrongCount k5_WrongCount : _}
  {N_NotFinite : Addr} {nm_NotFinite qn_NotFinite bs_NotFinite hdct_NotFinite sn_NotFinite sub_NotFinite ab_NotFinite col_NotFinite dd_NotFinite k0_NotFinite k1_NotFinite k2_NotFinite k3_NotFinite k5_NotFinite : _}
  {N_StepNotFinite : Addr} {nm_StepNotFinite qn_StepNotFinite bs_StepNotFinite hdct_StepNotFinite sn_StepNotFinite sub_StepNotFinite ab_StepNotFinite col_StepNotFinite dd_StepNotFinite k0_StepNotFinite k1_StepNotFinite k2_StepNotFinite k3_StepNotFinite k5_StepNotFinite : _}
  {N_NotAsTold : Addr} {nm_NotAsTold qn_NotAsTold bs_NotAsTold hdct_NotAsTold sn_NotAsTold sub_NotAsTold ab_NotAsTold col_NotAsTold dd_NotAsTold k0_NotAsTold k1_NotAsTold k2_NotAsTold k3_NotAsTold k5_NotAsTold : _}
  (a_x0 : nsIn K mainGlobals "size_of" = some (some (.ref f_x0))) (l_x0 : K.lookup f_x0 = some ⟨oc_x0, od_x0, .func (fnOf "size_of" "size_of" (qD (top 4)) (qt (top 4)) (qa (top 4)) .none kV_x0 dc_x0 pm_x0 an_x0 cd_x0 ct_x0), sl_x0⟩) (c_x0 : codeIn K cd_x0 "size_of" = true) (k_x0 : keepIn K (.ref f_x0) = true)
  (a_x1 : nsIn K mainGlobals "is_finite" = some (some (.ref f_x1))) (l_x1 : K.lookup f_x1 = some ⟨oc_x1, od_x1, .func (fnOf "is_finite" "is_finite" (qD (top 5)) (qt (top 5)) (qa (top 5)) .none kV_x1 dc_x1 pm_x1 an_x1 cd_x1 ct_x1), sl_x1⟩) (c_x1 : codeIn K cd_x1 "is_finite" = true) (k_x1 : keepIn K (.ref f_x1) = true)
  (a_x2 : nsIn K mainGlobals "grid_of" = some (some (.ref f_x2))) (l_x2 : K.lookup f_x2 = some ⟨oc_x2, od_x2, .func (fnOf "grid_of" "grid_of" (qD (top 7)) (qt (top 7)) (qa (top 7)) .none kV_x2 dc_x2 pm_x2 an_x2 cd_x2 ct_x2), sl_x2⟩) (c_x2 : codeIn K cd_x2 "grid_of" = true) (k_x2 : keepIn K (.ref f_x2) = true)
  (a_x3 : nsIn K mainGlobals "flat" = some (some (.ref f_x3))) (l_x3 : K.lookup f_x3 = some ⟨oc_x3, od_x3, .func (fnOf "flat" "flat" (qD (top 8)) (qt (top 8)) (qa (top 8)) .none kV_x3 dc_x3 pm_x3 an_x3 cd_x3 ct_x3), sl_x3⟩) (c_x3 : codeIn K cd_x3 "flat" = true) (k_x3 : keepIn K (.ref f_x3) = true)
  (a_x4 : nsIn K mainGlobals "check_counts" = some (some (.ref f_x4))) (l_x4 : K.lookup f_x4 = some ⟨oc_x4, od_x4, .func (fnOf "check_counts" "check_counts" (qD (top 15)) (qt (top 15)) (qa (top 15)) .none kV_x4 dc_x4 pm_x4 an_x4 cd_x4 ct_x4), sl_x4⟩) (c_x4 : codeIn K cd_x4 "check_counts" = true) (k_x4 : keepIn K (.ref f_x4) = true)
  (a_x5 : nsIn K mainGlobals "check_finite" = some (some (.ref f_x5))) (l_x5 : K.lookup f_x5 = some ⟨oc_x5, od_x5, .func (fnOf "check_finite" "check_finite" (qD (top 16)) (qt (top 16)) (qa (top 16)) .none kV_x5 dc_x5 pm_x5 an_x5 cd_x5 ct_x5), sl_x5⟩) (c_x5 : codeIn K cd_x5 "check_finite" = true) (k_x5 : keepIn K (.ref f_x5) = true)
  (a_x6 : nsIn K mainGlobals "with_count" = some (some (.ref f_x6))) (l_x6 : K.lookup f_x6 = some ⟨oc_x6, od_x6, .func (fnOf "with_count" "with_count" (qD (top 18)) (qt (top 18)) (qa (top 18)) .none kV_x6 dc_x6 pm_x6 an_x6 cd_x6 ct_x6), sl_x6⟩) (c_x6 : codeIn K cd_x6 "with_count" = true) (k_x6 : keepIn K (.ref f_x6) = true)
  (a_x7 : nsIn K mainGlobals "grid_told" = some (some (.ref f_x7))) (l_x7 : K.lookup f_x7 = some ⟨oc_x7, od_x7, .func (fnOf "grid_told" "grid_told" (qD (top 19)) (qt (top 19)) (qa (top 19)) .none kV_x7 dc_x7 pm_x7 an_x7 cd_x7 ct_x7), sl_x7⟩) (c_x7 : codeIn K cd_x7 "grid_told" = true) (k_x7 : keepIn K (.ref f_x7) = true)
  (a_x8 : nsIn K mainGlobals "rows_told" = some (some (.ref f_x8))) (l_x8 : K.lookup f_x8 = some ⟨oc_x8, od_x8, .func (fnOf "rows_told" "rows_told" (qD (top 20)) (qt (top 20)) (qa (top 20)) .none kV_x8 dc_x8 pm_x8 an_x8 cd_x8 ct_x8), sl_x8⟩) (c_x8 : codeIn K cd_x8 "rows_told" = true) (k_x8 : keepIn K (.ref f_x8) = true)
  (a_x9 : nsIn K mainGlobals "answered" = some (some (.ref f_x9))) (l_x9 : K.lookup f_x9 = some ⟨oc_x9, od_x9, .func (fnOf "answered" "answered" (qD (top 14)) (qt (top 14)) (qa (top 14)) .none kV_x9 dc_x9 pm_x9 an_x9 cd_x9 ct_x9), sl_x9⟩) (c_x9 : codeIn K cd_x9 "answered" = true) (k_x9 : keepIn K (.ref f_x9) = true)
  (a_x10 : nsIn K mainGlobals "rows" = some (some (.ref f_x10))) (l_x10 : K.lookup f_x10 = some ⟨oc_x10, od_x10, .func (fnOf "rows" "rows" (qD (top 21)) (qt (top 21)) (qa (top 21)) .none kV_x10 dc_x10 pm_x10 an_x10 cd_x10 ct_x10), sl_x10⟩) (c_x10 : codeIn K cd_x10 "rows" = true) (k_x10 : keepIn K (.ref f_x10) = true)
  (s_GREATEST_SIZE : nsIn K mainGlobals "GREATEST_SIZE" = some (some (.int (16) t_GREATEST_SIZE)))
  (s_INFINITE : nsIn K mainGlobals "INFINITE" = some (some (.int (9218868437227405312) t_INFINITE)))
  (s_SIGN_BIT : nsIn K mainGlobals "SIGN_BIT" = some (some (.int (9223372036854775808) t_SIGN_BIT)))
  (q_WrongCount : nsIn K mainGlobals "WrongCount" = some (some (.ref C_WrongCount))) (j_WrongCount : K.lookup C_WrongCount = some (excClassObj nm_WrongCount qn_WrongCount C_WrongCount N_WrongCount bs_WrongCount qW hdct_WrongCount sn_WrongCount sub_WrongCount ab_WrongCount col_WrongCount dd_WrongCount k0_WrongCount k1_WrongCount k2_WrongCount k3_WrongCount k5_WrongCount vS)) (u_WrongCount : nsOkIn K N_WrongCount = true) (v_WrongCount : nsIn K N_WrongCount "__init__" = some none)
  (q_NotFinite : nsIn K mainGlobals "NotFinite" = some (some (.ref C_NotFinite))) (j_NotFinite : K.lookup C_NotFinite = some (excClassObj nm_NotFinite qn_NotFinite C_NotFinite N_NotFinite bs_NotFinite qW hdct_NotFinite sn_NotFinite sub_NotFinite ab_NotFinite col_NotFinite dd_NotFinite k0_NotFinite k1_NotFinite k2_NotFinite k3_NotFinite k5_NotFinite vS)) (u_NotFinite : nsOkIn K N_NotFinite = true) (v_NotFinite : nsIn K N_NotFinite "__init__" = some none)
  (q_StepNotFinite : nsIn K mainGlobals "StepNotFinite" = some (some (.ref C_StepNotFinite))) (j_StepNotFinite : K.lookup C_StepNotFinite = some (excClassObj nm_StepNotFinite qn_StepNotFinite C_StepNotFinite N_StepNotFinite bs_StepNotFinite qW hdct_StepNotFinite sn_StepNotFinite sub_StepNotFinite ab_StepNotFinite col_StepNotFinite dd_StepNotFinite k0_StepNotFinite k1_StepNotFinite k2_StepNotFinite k3_StepNotFinite k5_StepNotFinite vS)) (u_StepNotFinite : nsOkIn K N_StepNotFinite = true) (v_StepNotFinite : nsIn K N_StepNotFinite "__init__" = some none)
  (q_NotAsTold : nsIn K mainGlobals "NotAsTold" = some (some (.ref C_NotAsTold))) (j_NotAsTold : K.lookup C_NotAsTold = some (excClassObj nm_NotAsTold qn_NotAsTold C_NotAsTold N_NotAsTold bs_NotAsTold qW hdct_NotAsTold sn_NotAsTold sub_NotAsTold ab_NotAsTold col_NotAsTold dd_NotAsTold k0_NotAsTold k1_NotAsTold k2_NotAsTold k3_NotAsTold k5_NotAsTold vS)) (u_NotAsTold : nsOkIn K N_NotAsTold = true) (v_NotAsTold : nsIn K N_NotAsTold "__init__" = some none)
  (z_len : nsIn K mainGlobals "len" = some none)
  (z_list : nsIn K mainGlobals "list" = some none)
  (z_range : nsIn K mainGlobals "range" = some none)
  (z_sorted : nsIn K mainGlobals "sorted" = some none)
  (z_zip : nsIn K mainGlobals "zip" = some none)
  (e2 : (C_NotFinite == C_WrongCount) = false) (e3 : (C_StepNotFinite == C_WrongCount) = false) (e4 : (C_StepNotFinite == C_NotFinite) = false) (e5 : (C_NotAsTold == C_WrongCount) = false) (e6 : (C_NotAsTold == C_NotFinite) = false) (e7 : (C_NotAsTold == C_StepNotFinite) = false)
  (htab : tabIn K "rows" = some (c, PT)) :
  ∃ fd : FuncData, (∀ (s : Shared) (us : List Value), us.length = (["m", "n", "a", "p"] : List Str).length -> BindsTo s fd ⟨us, []⟩ ((["m", "n", "a", "p"] : List Str).zip us)) /\ ∀ base : Heap, K.In base -> base.Ns mainGlobals mg -> wc mg base c PT -> zu P w K mg base (CX1 P w) 7 fa fd ["m", "n", "a", "p"] (Q5 mg K 4 Gr.qM LL PT) := by
 have e := hfa.symm.trans (mg_of X G a_x10)
 cases e
 have F_x0 := vF (st := (top 4)) l_x0 c_x0 k_x0
 have b_x0 := F_x0.binds (ps := ["x"]) fun _ _ _ _ _ _ => jS fun _ => rfl
 have F_x1 := vF (st := (top 5)) l_x1 c_x1 k_x1
 have b_x1 := F_x1.binds (ps := ["x"]) fun _ _ _ _ _ _ => jS fun _ => rfl
 have F_x2 := vF (st := (top 7)) l_x2 c_x2 k_x2
 have b_x2 := F_x2.binds (ps := ["numbers", "n"]) fun _ _ _ _ _ _ => Y3 fun _ _ => rfl
 have F_x3 := vF (st := (top 8)) l_x3 c_x3 k_x3
 have b_x3 := F_x3.binds (ps := ["grid"]) fun _ _ _ _ _ _ => jS fun _ => rfl
 have F_x4 := vF (st := (top 15)) l_x4 c_x4 k_x4
 have b_x4 := F_x4.binds (ps := ["sizes", "lists", "counts"]) fun _ _ _ _ _ _ => Xe fun _ _ _ => rfl
 have F_x5 := vF (st := (top 16)) l_x5 c_x5 k_x5
 have b_x5 := F_x5.binds (ps := ["numbers"]) fun _ _ _ _ _ _ => jS fun _ => rfl
 have F_x6 := vF (st := (top 18)) l_x6 c_x6 k_x6
 have b_x6 := F_x6.binds (ps := ["numbers"]) fun _ _ _ _ _ _ => jS fun _ => rfl
 have F_x7 := vF (st := (top 19)) l_x7 c_x7 k_x7
 have b_x7 := F_x7.binds (ps := ["grid"]) fun _ _ _ _ _ _ => jS fun _ => rfl
 have F_x8 := vF (st := (top 20)) l_x8 c_x8 k_x8
 have b_x8 := F_x8.binds (ps := ["m", "n", "a", "p"]) fun _ _ _ _ _ _ => Zu fun _ _ _ _ => rfl
 have F_x9 := vF (st := (top 14)) l_x9 c_x9 k_x9
 have F_x10 := vF (st := (top 21)) l_x10 c_x10 k_x10
 have g_GREATEST_SIZE : ∃ t, mg "GREATEST_SIZE" = some (.int (16) t) := ⟨_, mg_of X G s_GREATEST_SIZE⟩
 have g_INFINITE : ∃ t, mg "INFINITE" = some (.int (9218868437227405312) t) := ⟨_, mg_of X G s_INFINITE⟩
 have g_SIGN_BIT : ∃ t, mg "SIGN_BIT" = some (.int (9223372036854775808) t) := ⟨_, mg_of X G s_SIGN_BIT⟩
 have x_WrongCount := vJ j_WrongCount u_WrongCount v_WrongCount
 have x_NotFinite := vJ j_NotFinite u_NotFinite v_NotFinite
 have x_StepNotFinite := vJ j_StepNotFinite u_StepNotFinite v_StepNotFinite
 have x_NotAsTold := vJ j_NotAsTold u_NotAsTold v_NotAsTold
 refine ⟨fnOf "rows" "rows" (qD (top 21)) (qt (top 21)) (qa (top 21)) .none kV_x10 dc_x10 pm_x10 an_x10 cd_x10 ct_x10, fun s => Zu fun _ _ _ _ => .of_eq rfl, fun base _ _ BL => ?_⟩
 have D_x0 : Fd P w K mg base 1 "size_of" 1 Dt.vD := uN F_x0 (mg_of X G a_x0) b_x0 g_SIGN_BIT
 have D_x1 : Fd P w K mg base 2 "is_finite" 1 Dt.qO := xW F_x1 (mg_of X G a_x1) b_x1 g_INFINITE D_x0
 have D_x2 : Fd P w K mg base 1 "grid_of" 2 Gr.vn := uJ F_x2 (mg_of X G a_x2) b_x2 (mg_none_of X G z_len) (mg_none_of X G z_range)
 have D_x3 : Fd P w K mg base 1 "flat" 1 Gr.wk := WN F_x3 (mg_of X G a_x3) b_x3
 have D_x4 : Fd P w K mg base 1 "check_counts" 3 Dt.qp := zF F_x4 (mg_of X G a_x4) b_x4 g_GREATEST_SIZE (mg_none_of X G z_len) (mg_none_of X G z_zip) (mg_of X G q_WrongCount) x_WrongCount
 have D_x5 : Fd P w K mg base 3 "check_finite" 1 Dt.qk := zG F_x5 (mg_of X G a_x5) b_x5 (mg_of X G q_NotFinite) x_NotFinite D_x1
 have D_x6 : Fd P w K mg base 1 "with_count" 1 Dt.qy := yM F_x6 (mg_of X G a_x6) b_x6 (mg_none_of X G z_len)
 have D_x7 : Fd P w K mg base 2 "grid_told" 1 Gr.qG := xQ F_x7 (mg_of X G a_x7) b_x7 D_x3 D_x6
 have D_x8 : Fd P w K mg base 4 "rows_told" 4 Gr.qM := xS F_x8 (mg_of X G a_x8) b_x8 (mg_none_of X G z_list) (mg_none_of X G z_range) (mg_none_of X G z_sorted) (mg_of X G q_NotAsTold) x_NotAsTold D_x4 D_x5 D_x2 D_x7
 have AO : W0 P w K mg base (top 14) [(C_WrongCount, 1), (C_NotFinite, 2), (C_StepNotFinite, 3), (C_NotAsTold, 4)] := ⟨f_x9, _, _, _, _, _, _, _, _, _, _, _, _, _, _, _, _, _, _, _, _, _, _, l_x9, c_x9, k_x9, mg_of X G a_x9, rfl, uA, rfl, rfl, fun s u => .of_eq rfl,
  fun A outer s H E => .cons rfl (mg_of X G q_WrongCount) x_WrongCount (by decide) (.cons rfl (mg_of X G q_NotFinite) x_NotFinite (by decide) (.cons rfl (mg_of X G q_StepNotFinite) x_StepNotFinite (by decide) (.cons rfl (mg_of X G q_NotAsTold) x_NotAsTold (by decide) .nil)))⟩
 have ER : uO mg K LL [(C_WrongCount, 1), (C_NotFinite, 2), (C_StepNotFinite, 3), (C_NotAsTold, 4)] := ⟨fun c C k hC hl => Y7 (mg_of X G q_WrongCount) (mg_of X G q_NotFinite) (mg_of X G q_StepNotFinite) (mg_of X G q_NotAsTold) x_WrongCount x_NotFinite x_StepNotFinite x_NotAsTold e2 e3 e4 e5 e6 e7 hC hl⟩
 exact Zl (st := top 21) (st2 := top 14) (g := Gr.qM) F_x10 V2 rfl htab a_x10 BL AO ER rfl VC rfl (fun _ => rfl) (fun _ _ _ _ _ => rfl)
  (fun cdv A outer s0 H0 E0 Y q f2 cd s H E2 hr => vA (VI VC) D_x8 hr rfl (.cons (.cons (.cons (.cons (.nil))))) (qo (xv 0) (qo (xv 1) (qo (xv 2) (qo (xv 3) qK))))) (Zu fun _ _ _ _ => ⟨_, rfl, rfl⟩)
end Lw
open PySem PySem.W PyProof.Rows
set_option maxRecDepth 100000 in
set_option maxHeartbeats 0 in
theorem PySem.Challenge.cw_doubletables_s06_rows_holds : PySem.Challenge.rw_doubletables_s06_rows.Holds := by
 w_on; k_headS; (case hw => exact ⟨[.int 0, .int 0, .list [], .list []], by decide +kernel, by decide +kernel⟩)
 k_fillS
 refine L2.Ir.VB (r := PySem.Challenge.rw_doubletables_s06_rows) (k := 7) (ps := ["m", "n", "a", "p"]) (sp := fun K mg PT => L2.Ir.Q5 mg K 4 Gr.qM Dt.LL PT) (c := ?c) (PT := ?PT) (by decide +kernel) rfl ⟨rfl, by decide, by decide⟩ (fun w h Y => PySem.W.kIn_of Y) ?no ?tab rfl ?F ?S
 (case tab => intro p; exact rfl)
 (case no => intro p; exact rfl)
 case F =>
  intro w mg fa h Y KX G hmg
  refine' Lw.all_mk KX G hmg ?a_x0 ?l_x0 ?c_x0 ?k_x0 ?a_x1 ?l_x1 ?c_x1 ?k_x1 ?a_x2 ?l_x2 ?c_x2 ?k_x2 ?a_x3 ?l_x3 ?c_x3 ?k_x3 ?a_x4 ?l_x4 ?c_x4 ?k_x4 ?a_x5 ?l_x5 ?c_x5 ?k_x5 ?a_x6 ?l_x6 ?c_x6 ?k_x6 ?a_x7 ?l_x7 ?c_x7 ?k_x7 ?a_x8 ?l_x8 ?c_x8 ?k_x8 ?a_x9 ?l_x9 ?c_x9 ?k_x9 ?a_x10 ?l_x10 ?c_x10 ?k_x10 ?s_GREATEST_SIZE ?s_INFINITE ?s_SIGN_BIT ?q_WrongCount ?j_WrongCount ?u_WrongCount ?v_WrongCount ?q_NotFinite ?j_NotFinite ?u_NotFinite ?v_NotFinite ?q_StepNotFinite ?j_StepNotFinite ?u_StepNotFinite ?v_StepNotFinite ?q_NotAsTold ?j_NotAsTold ?u_NotAsTold ?v_NotAsTold ?z_len ?z_list ?z_range ?z_sorted ?z_zip ?e2 ?e3 ?e4 ?e5 ?e6 ?e7 ?htab
  (case a_x0 => k_is); (case l_x0 => k_is); (case c_x0 => k_is); (case k_x0 => k_is); (case a_x1 => k_is); (case l_x1 => k_is); (case c_x1 => k_is); (case k_x1 => k_is); (case a_x2 => k_is); (case l_x2 => k_is); (case c_x2 => k_is); (case k_x2 => k_is); (case a_x3 => k_is); (case l_x3 => k_is); (case c_x3 => k_is); (case k_x3 => k_is); (case a_x4 => k_is); (case l_x4 => k_is); (case c_x4 => k_is); (case k_x4 => k_is); (case a_x5 => k_is); (case l_x5 => k_is); (case c_x5 => k_is); (case k_x5 => k_is); (case a_x6 => k_is); (case l_x6 => k_is); (case c_x6 => k_is); (case k_x6 => k_is); (case a_x7 => k_is); (case l_x7 => k_is); (case c_x7 => k_is); (case k_x7 => k_is); (case a_x8 => k_is); (case l_x8 => k_is); (case c_x8 => k_is); (case k_x8 => k_is); (case a_x9 => k_is); (case l_x9 => k_is); (case c_x9 => k_is); (case k_x9 => k_is); (case a_x10 => k_is); (case l_x10 => k_is); (case c_x10 => k_is); (case k_x10 => k_is); (case s_GREATEST_SIZE => k_is); (case s_INFINITE => k_is); (case s_SIGN_BIT => k_is); (case q_WrongCount => k_is); (case j_WrongCount => k_is); (case u_WrongCount => (refine' Dt.zR ?l ?h; (case l => k_is); (case h => exact rfl))); (case v_WrongCount => k_is); (case q_NotFinite => k_is); (case j_NotFinite => k_is); (case u_NotFinite => (refine' Dt.zR ?l ?h; (case l => k_is); (case h => exact rfl))); (case v_NotFinite => k_is); (case q_StepNotFinite => k_is); (case j_StepNotFinite => k_is); (case u_StepNotFinite => (refine' Dt.zR ?l ?h; (case l => k_is); (case h => exact rfl))); (case v_StepNotFinite => k_is); (case q_NotAsTold => k_is); (case j_NotAsTold => k_is); (case u_NotAsTold => (refine' Dt.zR ?l ?h; (case l => k_is); (case h => exact rfl))); (case v_NotAsTold => k_is); (case z_len => k_is); (case z_list => k_is); (case z_range => k_is); (case z_sorted => k_is); (case z_zip => k_is)
  (case e2 => decide +kernel); (case e3 => decide +kernel); (case e4 => decide +kernel); (case e5 => decide +kernel); (case e6 => decide +kernel); (case e7 => decide +kernel)
  (case htab => exact rfl)
 case S =>
  intro K mg PT H xs a hP hwi hask hx
  have e : L2.Ir.xn (Codec.encAll PySem.Challenge.rw_doubletables_s06_rows.args a) = [.int a.1, .int a.2.1, .lst (a.2.2.1.map L2.Ir.D.int), .lst (a.2.2.2.1.map L2.Ir.D.int)] := by
   show [L2.Ir.D.int a.1, L2.Ir.D.int a.2.1, L2.Ir.D.lst (L2.Ir.xn (a.2.2.1.map WData.int)), L2.Ir.D.lst (L2.Ir.xn (a.2.2.2.1.map WData.int))] = _
   rw [L2.Ir.zq a.2.2.1, L2.Ir.zq a.2.2.2.1]
  have pl : L2.Ir.yK (Codec.encAll PySem.Challenge.rw_doubletables_s06_rows.args a) = true := by
   show (true && (true && (L2.Ir.yK (a.2.2.1.map WData.int) && (L2.Ir.yK (a.2.2.2.1.map WData.int) && true)))) = true
   rw [L2.Ir.zo a.2.2.1, L2.Ir.zo a.2.2.2.1]; rfl
  have q : (Codec.inInt 0 18446744073709551615 a.1 && (Codec.inInt 0 18446744073709551615 a.2.1 && ((Codec.inLen 0 300 a.2.2.1 && a.2.2.1.all (Codec.inInt 0 18446744073709551615)) && ((Codec.inLen 0 300 a.2.2.2.1 && a.2.2.2.1.all (Codec.inInt 0 18446744073709551615)) && true)))) = true := hwi
  simp only [Bool.and_eq_true] at q
  obtain ⟨h1, h2⟩ := Gr.QZ (Dt.uS q.1) (Dt.uS q.2.1) (Dt.jN q.2.2.1.2) (Dt.jN q.2.2.2.1.2) (Codec.inNat_iff.mp q.2.2.1.1).2 (Codec.inNat_iff.mp q.2.2.2.1.1).2
  refine ⟨_, _, rfl, hP, by rw [<- e]; exact L2.Ir.yj _ _ pl hx, h1, h2, fun H2 p hp => ?_⟩
  rw [Dt.w1] at hp
  exact .lst (L2.SqL.of hp) (L2.jz _)
