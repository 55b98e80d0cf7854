import PyProof.Rows.All
import Wide.All
import OpenK.AllK
import Wide.FinOn
import PyProof.EqAt
import PyProof.EqKinds
import PyProof.TupleCall
import KE.BitLaws
import Open.SpecLaws
import KE.OsHead
import KE.OsGo
import PyProof.StationsW
import PyProof.ExcBaseAll.Exception
import KE.KLam
import PyProof.SliceList
import KE.KNestM
import PySem.Challenge.RW_doubletables_s01_step
set_option bootstrap.genMatcherCode false
set_option compiler.extract_closed false
set_option genSizeOf false
set_option genInjectivity false
set_option Elab.async false
set_option linter.all false
set_option maxRecDepth 100000
namespace L2
open PySem PySem.Spec PyProof.Rows
noncomputable abbrev Key := Sum Int Str
noncomputable def Ze : Key -> Value -> Bool
 | .inl k, v => Value.isInt k v
 | .inr x, v => Value.isStrOf x v
noncomputable def YY (w : World) : Key -> Int
 | .inl k => hashInt k
 | .inr x => hashStr w x
theorem qY : ∀ {k : Key} {v : Value}, Ze k v = true -> (∃ i t, k = Sum.inl i /\ v = Value.int i t) \/ (∃ x t, k = Sum.inr x /\ v = Value.str x t)
 | .inl i, v, h => by
  obtain ⟨t, e⟩ := Value.isInt_shape (k := i) (v := v) h
  exact .inl ⟨i, t, rfl, e⟩
 | .inr x, v, h => by
  obtain ⟨t, e⟩ := Value.isStrOf_shape (x := x) (v := v) h
  exact .inr ⟨x, t, rfl, e⟩
theorem ZT (a b : Int) : decide ((Sum.inl a : Key) = Sum.inl b) = (a == b) := by
 by_cases e : a = b
 ·subst e; simp
 ·have h : ¬ (Sum.inl a : Key) = Sum.inl b := fun q => e (Sum.inl.inj q)
  rw [decide_eq_false h]
  exact (beq_eq_false_iff_ne.mpr e).symm
theorem Ya (a b : Str) : decide ((Sum.inr a : Key) = Sum.inr b) = decide (a = b) := by
 by_cases e : a = b
 ·subst e; simp
 ·have h : ¬ (Sum.inr a : Key) = Sum.inr b := fun q => e (Sum.inr.inj q)
  rw [decide_eq_false h, decide_eq_false e]
theorem ZP (a : Int) (b : Str) : decide ((Sum.inl a : Key) = Sum.inr b) = false := decide_eq_false (fun q => nomatch q)
theorem Yb (a : Str) (b : Int) : decide ((Sum.inr a : Key) = Sum.inl b) = false := decide_eq_false (fun q => nomatch q)
noncomputable def Qj (prog : Program) (w : World) : PySem.KeyKind prog w Key where
 is := Ze
 hash := YY w
 inj := fun v a b ha hb => by
  rcases qY ha with ⟨i, t, rfl, rfl⟩ | ⟨x, t, rfl, rfl⟩
  ·rcases qY hb with ⟨j, u, rfl, e⟩ | ⟨y, u, rfl, e⟩
   ·injection e with e1 _; rw [e1]
   ·exact nomatch e
  ·rcases qY hb with ⟨j, u, rfl, e⟩ | ⟨y, u, rfl, e⟩
   ·exact nomatch e
   ·injection e with e1 _; rw [e1]
 byValue := fun k v h => by
  rcases qY h with ⟨i, t, rfl, rfl⟩ | ⟨x, t, rfl, rfl⟩ <;> rfl
 pyHash := fun hv h => by
  rcases qY hv with ⟨i, t, rfl, rfl⟩ | ⟨x, t, rfl, rfl⟩
  ·exact wpAny_pyHash_int h
  ·exact wpAny_pyHash_str h
 eqBool := fun hu hv h => by
  rcases qY hu with ⟨i, t, rfl, rfl⟩ | ⟨x, t, rfl, rfl⟩
  ·rcases qY hv with ⟨j, u, rfl, rfl⟩ | ⟨y, u, rfl, rfl⟩
   ·rw [ZT] at h; exact wpAny_eqBool_int h
   ·rw [ZP] at h; exact SeqAt.EqAt.int_str i t y u _ _ _ _ h
  ·rcases qY hv with ⟨j, u, rfl, rfl⟩ | ⟨y, u, rfl, rfl⟩
   ·rw [Yb] at h; exact SeqAt.EqAt.str_int x t j u _ _ _ _ h
   ·rw [Ya] at h; exact wpAny_eqBool_str h
 «strs» := fun k x t v h => by
  rcases qY h with ⟨i, u, rfl, e⟩ | ⟨y, u, rfl, e⟩
  ·exact nomatch e
  ·injection e with e1 _
   subst e1
   cases v <;> rfl
set_option genInjectivity true in
inductive V where
 | non | bl (b : Bool) | int (i : Int) | str (x : Str) | byt (b : Array UInt8) | flt (b : UInt64) | ref (a : Addr) | ty (n : String)
 deriving DecidableEq
noncomputable def RelV : V -> Value -> Prop
 | .non, u => u = Value.none
 | .bl b, u => u = Value.bool b
 | .int i, u => ∃ t, u = Value.int i t
 | .str x, u => ∃ t, u = Value.str x t
 | .byt b, u => ∃ t, u = Value.bytes b t
 | .flt b, u => ∃ t, u = Value.float b t
 | .ref a, u => u = Value.ref a
 | .ty n, u => u = Value.type n
noncomputable abbrev Vals : List V -> List Value -> Prop := Paired RelV
theorem Vals.length {xs : List V} {us : List Value} (r : Vals xs us) : xs.length = us.length := Paired.length r
theorem Vals.get : ∀ {xs : List V} {us : List Value} {i : Nat} {x : V}, Vals xs us -> xs[i]? = some x -> ∃ u, us[i]? = some u /\ RelV x u
 | _, _, _, _, .nil, e => by simp at e
 | _, _, 0, _, .cons r _, e => by simp at e; subst e; exact ⟨_, rfl, r⟩
 | _, _, i + 1, x, .cons _ t, e => by
  obtain ⟨u, h1, h2⟩ := Vals.get (i := i) (x := x) t (by simpa using e)
  exact ⟨u, by simpa using h1, h2⟩
theorem Vals.append : ∀ {xs ys : List V} {us ws : List Value}, Vals xs us -> Vals ys ws -> Vals (xs ++ ys) (us ++ ws)
 | _, _, _, _, .nil, s => s
 | _, _, _, _, .cons r t, s => .cons r (Vals.append t s)
noncomputable def YG : Option V -> Option Value -> Prop
 | some v, some u => RelV v u
 | none, none => True
 | _, _ => False
noncomputable def KV {κ : Type} : List (κ × V) -> List (κ × Value) -> Prop := Paired fun (p : κ × V) (q : κ × Value) => p.1 = q.1 /\ RelV p.2 q.2
noncomputable def kV : Key -> V
 | .inl i => .int i
 | .inr x => .str x
inductive HO where
 /-- a list -/
 | lst (xs : List V)
 /-- a tuple (never changes) -/
 | tup (xs : List V)
 /-- a dict whose keys are ints and texts; one whose keys are tuples of ints and texts (the empty one is both) -/
 | dK (kvs : List (Key × V)) | dT (kvs : List (List Key × V))
 /-- a set of ints: its members, its size -/
 | set (S : Int -> Bool) (n : Nat)
 /-- an instance of the class at C, its dict at dx, its attributes -/
 | ins (C dx : Addr) (fs : List (Str × V))
 /-- the dict of the instance at x -/
 | own (x : Addr)
 /-- the dict of an exception -/
 | xd (fs : List (Str × V))
 /-- a bound method, f of x -/
 | met (f x : Addr)
 /-- a range object lo, lo + 1, .. below hi -/
 | rng (lo hi : Int)
 /-- a thing that is known to the object (the script; a dict while a loop walks it): read, never written while it is so -/
 | frz (o : Obj) (u : HO)
 /-- a code object's table -/
 | tbl (ps : Array Value)
 /-- any other thing, by what is true of its one object (a def of one's own: SetO a S n := HO.ext fun h => ..) -/
 | ext (φ : Heap -> Prop)
noncomputable abbrev Hp := Addr -> Option HO
noncomputable def upd (H : Hp) (a : Addr) (o : HO) : Hp := fun b => if b = a then some o else H b
theorem vn {H : Hp} {a : Addr} {o : HO} : upd H a o a = some o := by unfold upd; rw [if_pos rfl]
theorem qJ {H : Hp} {a b : Addr} {o : HO} (h : b ≠ a) : upd H a o b = H b := by unfold upd; rw [if_neg h]
theorem vq {H : Hp} {a b : Addr} {o : HO} (h : H a = some o) (h' : H b = none) : a ≠ b := by
 intro e; subst e; rw [h] at h'; cases h'
section
variable (P : Program) (w : World)
noncomputable def wj (H : Hp) (h : Heap) (a : Addr) : HO -> Prop
 | .lst xs => xs.length <= sizeLine /\ ∃ (its : List Value) (n : Nat), Vals xs its /\ h.get? a = some { cls := .type "list", data := .seq its.toArray n }
 | .tup xs => xs.length <= sizeLine /\ ∃ its : List Value, Vals xs its /\ IsTup h a its.toArray
 | .dK kvs => kvs.length <= sizeLine /\ (a == sysModules) = false /\ ∃ vs, KV kvs vs /\ h.DictOf (Qj P w) a vs
 | .dT kvs => kvs.length <= sizeLine /\ (a == sysModules) = false /\ ∃ xs : List (List Key × Addr × Value),
   Paired (fun (p : List Key × V) (q : List Key × Addr × Value) => p.1 = q.1 /\ H q.2.1 = some (.tup (p.1.map kV)) /\ RelV p.2 q.2.2) kvs xs /\
   ∃ o es ep, h.get? a = some o /\ o.ExactDict /\ o.data = .dict es ep /\ es.toList = xs.map (entryOfKey (tupleKind (Qj P w))) /\ (xs.map (·.1)).Nodup
 | .set S n => h.SetOf (intKind P w) a S n
 | .ins C dx fs => H dx = some (.own a) /\ fs.length <= 1000 /\ dx ≠ a /\ h.get? a = some (PySem.W.instObj C dx) /\
   ∃ mA, h.Ns1 dx mA /\ (∀ f, YG (fs.lookup f) (mA f)) /\ PySem.Within mA (fs.map (·.1))
 | .own _ => ∃ o, h.get? a = some o
 | .xd fs => ∃ mA, h.Ns1 a mA /\ ∀ f, YG (fs.lookup f) (mA f)
 | .rng lo hi => ∃ t u v, h.get? a = some { cls := .type "range", data := .fields #[.int lo t, .int hi u, .int 1 v] }
 | .frz o u => h.get? a = some o /\ wj H h a u
 | .tbl ps => h.get? a = some { cls := .none, data := .fields ps }
 | .met f x => h.get? a = some (PySem.W.methodObj (.ref f) (.ref x))
 | .ext φ => φ h /\ (∃ o, h.get? a = some o) /\ ∀ h1 h2 : Heap, φ h1 -> (∀ o, h1.get? a = some o -> h2.get? a = some o) -> φ h2
noncomputable def HOk (H : Hp) (h : Heap) : Prop := ∀ a o, H a = some o -> wj P w H h a o
end
section
variable {P : Program} {w : World} {H H' : Hp} {h h' : Heap} {a : Addr} {o : HO}
theorem wj.lt (x : wj P w H h a o) : a < h.objs.size := by
 cases o with
 | lst xs => obtain ⟨_, _, _, _, e⟩ := x; exact Heap.lt_size e
 | tup xs => obtain ⟨_, _, _, p⟩ := x; exact p.lt
 | dK kvs => obtain ⟨_, _, _, _, o, _, _, e, _⟩ := x; exact Heap.lt_size e
 | dT kvs => obtain ⟨_, _, _, _, o, _, _, e, _⟩ := x; exact Heap.lt_size e
 | set S n => obtain ⟨o, _, _, _, e, _⟩ := x; exact Heap.lt_size e
 | ins C dx fs => obtain ⟨_, _, _, e, _⟩ := x; exact Heap.lt_size e
 | own y => obtain ⟨_, e⟩ := x; exact Heap.lt_size e
 | xd fs => obtain ⟨_, ⟨_, _, _, e, _⟩, _⟩ := x; exact Heap.lt_size e
 | rng lo hi => obtain ⟨_, _, _, e⟩ := x; exact Heap.lt_size e
 | frz ob u => obtain ⟨e, _⟩ := x; exact Heap.lt_size e
 | tbl ps => exact Heap.lt_size (show h.get? a = some _ from x)
 | met f y => exact Heap.lt_size (show h.get? a = some _ from x)
 | ext φ => obtain ⟨_, ⟨_, e⟩, _⟩ := x; exact Heap.lt_size e
theorem Paired.YI {α β : Type} {F G : α -> β -> Prop} : ∀ {l₁ : List α} {l₂ : List β}, Paired F l₁ l₂ -> (∀ a b, F a b -> G a b) -> Paired G l₁ l₂
 | _, _, .nil, _ => .nil
 | _, _, .cons r t, f => .cons (f _ _ r) (Paired.YI t f)
theorem wj.uU (x : wj P w H h a o) (k : ∀ b u, (b = a \/ H b = some (.own a)) -> h.get? b = some u -> h'.get? b = some u)
  (ho : ∀ b, H b = some (.own a) -> H' b = some (.own a)) (ht : ∀ b xs, H b = some (.tup xs) -> H' b = some (.tup xs)) : wj P w H' h' a o := by
 induction o with
 | lst xs => obtain ⟨z, its, n, r, e⟩ := x; exact ⟨z, its, n, r, k _ _ (.inl rfl) e⟩
 | tup xs => obtain ⟨z, its, r, ob, e, c⟩ := x; exact ⟨z, its, r, ob, k _ _ (.inl rfl) e, c⟩
 | dK kvs => obtain ⟨z, y, vs, r, ob, es, ep, e, c⟩ := x; exact ⟨z, y, vs, r, ob, es, ep, k _ _ (.inl rfl) e, c⟩
 | dT kvs =>
  obtain ⟨z, y, xs, r, ob, es, ep, e, c⟩ := x
  exact ⟨z, y, xs, Paired.YI r fun p q z => ⟨z.1, ht _ _ z.2.1, z.2.2⟩, ob, es, ep, k _ _ (.inl rfl) e, c⟩
 | set S n => obtain ⟨ob, es, ep, t, e, c⟩ := x; exact ⟨ob, es, ep, t, k _ _ (.inl rfl) e, c⟩
 | ins C dx fs =>
  obtain ⟨d, z, ne, e, mA, ⟨od, es, ep, e2, c⟩, r⟩ := x
  exact ⟨ho _ d, z, ne, k _ _ (.inl rfl) e, mA, ⟨od, es, ep, k _ _ (.inr d) e2, c⟩, r⟩
 | own y => obtain ⟨ob, e⟩ := x; exact ⟨ob, k _ _ (.inl rfl) e⟩
 | xd fs => obtain ⟨mA, ⟨od, es, ep, e, c⟩, r⟩ := x; exact ⟨mA, ⟨od, es, ep, k _ _ (.inl rfl) e, c⟩, r⟩
 | rng lo hi => obtain ⟨t, u, v, e⟩ := x; exact ⟨t, u, v, k _ _ (.inl rfl) e⟩
 | frz ob u ih => obtain ⟨e, q⟩ := x; exact ⟨k _ _ (.inl rfl) e, ih q⟩
 | tbl ps =>
  have e : h.get? a = some { cls := .none, data := .fields ps } := x
  show h'.get? a = some { cls := .none, data := .fields ps }
  exact k a _ (.inl rfl) e
 | met f y =>
  have e : h.get? a = some (PySem.W.methodObj (.ref f) (.ref y)) := x
  show h'.get? a = some (PySem.W.methodObj (.ref f) (.ref y))
  exact k a _ (.inl rfl) e
 | ext φ => obtain ⟨p, ⟨o, e⟩, st⟩ := x; exact ⟨st _ _ p fun o q => k _ _ (.inl rfl) q, ⟨o, k _ _ (.inl rfl) e⟩, st⟩
theorem HOk.lt (x : HOk P w H h) (e : H a = some o) : a < h.objs.size := (x a o e).lt
theorem HOk.fresh (x : HOk P w H h) (e : h.objs.size <= a) : H a = none := by
 cases q : H a with
 | none => rfl
 | some u => exact absurd (Nat.lt_of_lt_of_le (x.lt q) e) (Nat.lt_irrefl _)
theorem HOk.kept (x : HOk P w H h) (k : ∀ b u, h.get? b = some u -> h'.get? b = some u) : HOk P w H h' := fun a o e =>
 (x a o e).uU (fun b u _ q => k b u q) (fun _ q => q) fun _ _ q => q
theorem HOk.laid (x : HOk P w H h) (k : ∀ b u, h.get? b = some u -> h'.get? b = some u) (hp : h.objs.size <= a) (new : wj P w (upd H a o) h' a o) : HOk P w (upd H a o) h' := fun b u e => by
 have hn := x.fresh hp
 by_cases hb : b = a
 ·subst hb; rw [vn] at e; cases e; exact new
 ·rw [qJ hb] at e
  exact (x b u e).uU (fun c v _ q => k c v q) (fun c q => by rw [qJ (vq q hn)]; exact q) fun c xs q => by rw [qJ (vq q hn)]; exact q
end
noncomputable def Rd (H : Hp) (a : Addr) (u : HO) : Prop := H a = some u \/ ∃ o, H a = some (.frz o u)
theorem Rd.of {H : Hp} {a : Addr} {u : HO} (h : H a = some u) : Rd H a u := .inl h
theorem Rd.ok {P : Program} {w : World} {H : Hp} {h : Heap} {a : Addr} {u : HO} (r : Rd H a u) (x : HOk P w H h) : wj P w H h a u := by
 rcases r with r | ⟨o, r⟩
 ·exact x a u r
 ·obtain ⟨_, q⟩ := x a _ r
  exact q
noncomputable def Mut : Option HO -> Prop
 | some (.lst _) => True
 | some (.dK _) => True
 | some (.dT _) => True
 | some (.set _ _) => True
 | some (.ins _ _ _) => True
 | some (.ext _) => True
 | _ => False
section
variable {P : Program} {w : World} {H : Hp} {h h' : Heap} {x e : Addr} {o' : HO}
theorem HOk.write (ok : HOk P w H h) (mu : Mut (H x)) (he : e = x \/ H e = some (.own x)) (k : ∀ b u, b ≠ e -> h.get? b = some u -> h'.get? b = some u) (heo : ∃ u, h'.get? e = some u)
  (new : wj P w (upd H x o') h' x o') : HOk P w (upd H x o') h' := fun b u q => by
 have nown : ∀ c y, H c = some (.own y) -> c ≠ x := fun c y r z => by subst z; rw [r] at mu; exact mu
 have ntup : ∀ c xs, H c = some (.tup xs) -> c ≠ x := fun c xs r z => by subst z; rw [r] at mu; exact mu
 by_cases hb : b = x
 ·subst hb; rw [vn] at q; cases q; exact new
 ·rw [qJ hb] at q
  by_cases hbe : b = e
  ·have q' : H b = some (.own x) := by
    rcases he with z | z
    ·exact absurd (hbe.trans z) hb
    ·rw [hbe]; exact z
   rw [q] at q'; cases q'
   obtain ⟨v, hv⟩ := heo
   exact ⟨v, by rw [hbe]; exact hv⟩
  ·refine (ok b u q).uU (fun c v hc r => k c v ?_ r) (fun c r => by rw [qJ (nown c b r)]; exact r) fun c xs r => by rw [qJ (ntup c xs r)]; exact r
   rcases hc with rfl | hc
   ·exact hbe
   ·rintro rfl
    rcases he with z | z
    ·exact nown c b hc z
    ·rw [hc] at z; cases z; exact hb rfl
end
structure Un (fs ex : List Addr) (H H' : Hp) (h h' : Heap) : Prop where
 keep : ∀ b o, h.get? b = some o -> H b = none -> b ∉ fs -> b ∉ ex -> h'.get? b = some o
 slot : ∀ b o, h.get? b = some o -> H b = none -> b ∈ fs -> b ∉ ex -> ∃ sl, h'.get? b = some { o with slots := sl }
 free : ∀ b o, h.get? b = some o -> H b = none -> b ∉ ex -> H' b = none
 there : ∀ b o, h.get? b = some o -> b ∉ ex -> ∃ o', h'.get? b = some o'
 tups : ∀ b xs, H b = some (.tup xs) -> H' b = some (.tup xs)
 frzs : ∀ b o u, H b = some (.frz o u) -> H' b = some (.frz o u)
 tbls : ∀ b ps, H b = some (.tbl ps) -> ∃ more, H' b = some (.tbl (ps ++ more))
section
variable {fs fs' ex ex' : List Addr} {H H1 H2 : Hp} {h h1 h2 h' : Heap} {a x e : Addr} {o : HO}
theorem Un.any (u : Un fs ex H H1 h h1) {b : Addr} {ob : Obj} (q : h.get? b = some ob) (n : H b = none) (hx : b ∉ ex) : ∃ sl, h1.get? b = some { ob with slots := sl } := by
 by_cases hb : b ∈ fs
 ·exact u.slot b ob q n hb hx
 ·exact ⟨ob.slots, u.keep b ob q n hb hx⟩
theorem Un.kept (k : ∀ b u, h.get? b = some u -> h'.get? b = some u) : Un fs ex H H h h' :=
 ⟨fun b ob q _ _ _ => k b ob q, fun b ob q _ _ _ => ⟨ob.slots, k b ob q⟩, fun _ _ _ n _ => n, fun b ob q _ => ⟨ob, k b ob q⟩, fun _ _ q => q, fun _ _ _ q => q, fun _ ps q => ⟨#[], by rw [q]; simp⟩⟩
theorem Un.refl : Un fs ex H H h h := Un.kept fun _ _ q => q
theorem Un.laid (k : ∀ b u, h.get? b = some u -> h'.get? b = some u) (hp : h.objs.size <= a) (hn : H a = none) : Un fs ex H (upd H a o) h h' where
 keep := fun b u q _ _ _ => k b u q
 slot := fun b u q _ _ _ => ⟨u.slots, k b u q⟩
 free := fun b u q n _ => by rw [qJ (Nat.ne_of_lt (Nat.lt_of_lt_of_le (Heap.lt_size q) hp))]; exact n
 there := fun b u q _ => ⟨u, k b u q⟩
 tups := fun b xs q => by rw [qJ (vq q hn)]; exact q
 frzs := fun b u xs q => by rw [qJ (vq q hn)]; exact q
 tbls := fun b ps q => ⟨#[], by rw [qJ (vq q hn), q]; simp⟩
theorem Un.write (mu : Mut (H x)) (he : e = x \/ H e = some (.own x)) (k : ∀ b u, b ≠ e -> h.get? b = some u -> h'.get? b = some u) (heo : ∃ u, h'.get? e = some u) : Un fs ex H (upd H x o) h h' := by
 have hx : ∀ b, H b = none -> b ≠ x := fun b n z => by subst z; rw [n] at mu; exact mu
 have hb : ∀ b, H b = none -> b ≠ e := fun b n z => by
  subst z
  rcases he with r | r
  ·exact hx b n r
  ·rw [n] at r; cases r
 have hm : ∀ b u, H b = some u -> ¬ Mut (some u) -> b ≠ x := fun b u q nm z => by subst z; rw [q] at mu; exact nm mu
 refine ⟨fun b u q n _ _ => k b u (hb b n) q, fun b u q n _ _ => ⟨u.slots, k b u (hb b n) q⟩, fun b u q n _ => by rw [qJ (hx b n)]; exact n, fun b u q _ => ?_,
  fun b xs q => by rw [qJ (hm b _ q fun z => z)]; exact q, fun b u xs q => by rw [qJ (hm b _ q fun z => z)]; exact q, fun b ps q => ⟨#[], by rw [qJ (hm b _ q fun z => z), q]; simp⟩⟩
 by_cases hbe : b = e
 ·subst hbe; exact heo
 ·exact ⟨u, k b u hbe q⟩
end
noncomputable def trk (h : Heap) (H : Hp) : List Addr := (List.range h.objs.size).filter fun a => (H a).isSome
noncomputable def xt (h : Heap) (H : Hp) : Heap := PySem.W.hideAll h (trk h H)
theorem QN (h : Heap) (H : Hp) : (xt h H).objs.size = h.objs.size := PySem.W.hideAll_size _ _
theorem VF {h : Heap} {H : Hp} {b : Addr} {o : Obj} (e : h.get? b = some o) (n : H b = none) : (xt h H).get? b = some o :=
 PySem.W.hideAll_get _ e fun hm => by
  have q : (H b).isSome = true := (List.mem_filter.mp hm).2
  rw [n] at q; simp at q
theorem Wq {h : Heap} {H : Hp} {b : Addr} {o : Obj} (e : (xt h H).get? b = some o) : h.get? b = some o /\ H b = none := by
 have e' : h.get? b = some o := PySem.W.of_hideAll (trk h H) e
 refine ⟨e', ?_⟩
 cases q : H b with
 | none => rfl
 | some x =>
  have hm : b ∈ trk h H := List.mem_filter.mpr ⟨List.mem_range.mpr (Heap.lt_size e'), by simp [q]⟩
  have z : (xt h H).get? b = none := PySem.W.hideAll_none (trk h H) hm
  rw [z] at e; cases e
structure Mod (K : PySem.W.Frag) (mg : Str -> Option Value) (base : Heap) : Prop where
 kin : K.In base
 glob : base.Ns mainGlobals mg
 blt : ∃ mb, base.Ns builtinsNs mb /\ ∀ x : Str, x ≠ "__name__" -> mb x = bootBuiltins x
 nolimit : base.NoLimit
structure Cx where
 prog : Program
 w : World
 K : PySem.W.Frag
 mg : Str -> Option Value
 base : Heap
 A : Around
 N : List Str
 s_0 : Shared
 H_0 : Hp
 env : Env
 outer : List Env
 stack : List Env
 ex : List Addr
 fn : Str -> Bool
 calm : Bool
 pn : List (Addr × Obj)
 xe : Value -> Shared -> Prop
noncomputable def frs (l : List Env) : List Addr := l.filterMap (·.frame)
noncomputable abbrev Cx.fs (X : Cx) : List Addr := frs X.outer
noncomputable def Vis (sc : Scope) (x : Str) : Prop := sc.names.lookup x = some .local \/ sc.names.lookup x = some .cell \/ sc.names.lookup x = some .free
noncomputable def Loc (sc : Scope) (x : Str) : Prop := sc.names.lookup x = some .local \/ sc.names.lookup x = some .cell
noncomputable def Look (env : Env) (h : Heap) (m : Str -> Option Value) (x : Str) (u : Value) : Prop :=
 (env.kindOf x = some .local /\ m x = some u) \/ ((env.kindOf x = some .cell \/ env.kindOf x = some .free) /\ ∃ c, env.cells.lookup x = some c /\ h.IsCell c (some u))
structure Cx.Ok (X : Cx) : Prop where
 mod : Mod X.K X.mg X.base
 kind : X.env.scope.kind = .function
 glob : X.env.globals = mainGlobals
 blt : X.env.builtins = builtinsNs
 above : X.s_0.heap.objs.size <= X.env.locals
 inj : ∀ x y c, X.env.cells.lookup x = some c -> X.env.cells.lookup y = some c -> x = y
 has : ∀ x, (X.env.kindOf x = some .cell \/ X.env.kindOf x = some .free) -> ∃ c, X.env.cells.lookup x = some c
 cab : ∀ x c, X.fn x = true -> X.env.cells.lookup x = some c -> X.s_0.heap.objs.size <= c
 hd : X.calm = true -> X.A.handled = none
 frames : X.A.frames = some X.stack
 stk : X.stack = X.outer \/ (X.stack = X.env :: X.outer /\ X.env.frame = some X.env.locals)
 exf : ∀ b ∈ X.ex, b ≠ X.env.locals /\ ∀ x c, X.env.cells.lookup x = some c -> c ≠ b
 bs : ∀ b o, X.base.get? b = some o -> X.s_0.heap.get? b = some o /\ X.H_0 b = none
 bsz : X.base.objs.size <= X.s_0.heap.objs.size
 noex : ∀ b o, X.base.get? b = some o -> b ∉ X.ex
 exfs : ∀ b ∈ X.ex, b ∉ X.fs
 zU : X.s_0.heap.FunFrames X.base X.outer
 frf : ∀ b ∈ X.fs, X.H_0 b = none
structure Inv (X : Cx) (pins : List (Addr × Obj)) (σ : List (Option V)) (H : Hp) (s : Shared) : Prop where
 ok : X.Ok
 os : s.os = X.s_0.os
 bare : AllBare s.gens
 base : Un X.fs X.ex X.H_0 H X.s_0.heap s.heap
 loc : ∃ m, s.heap.Ns X.env.locals m /\ ∀ (i : Nat) (x : Str) (v : V), X.N[i]? = some x -> σ[i]? = some (some v) -> Vis X.env.scope x -> ∃ u, RelV v u /\ Look X.env s.heap m x u
 cell : ∀ x c, X.env.cells.lookup x = some c -> ∃ v, s.heap.IsCell c v
 free : H X.env.locals = none
 freeC : ∀ x c, X.env.cells.lookup x = some c -> H c = none
 pin : ∀ p ∈ X.pn ++ pins, s.heap.get? p.1 = some p.2 /\ H p.1 = none /\ p.1 ≠ X.env.locals /\ p.1 ∉ X.fs /\ ∀ v, p.2.data ≠ .cell v
 hok : HOk X.prog X.w H s.heap
 len : σ.length = X.N.length
section
variable {X : Cx} {pins : List (Addr × Obj)} {σ : List (Option V)} {H H' : Hp} {s : Shared} {h' : Heap}
theorem Cx.Ok.YL (ok : X.Ok) {b : Addr} {o : Obj} (e : X.base.get? b = some o) : b ∉ X.fs := fun hb => by
 have := (ok.zU.mem hb).1
 rw [e] at this; cases this
theorem Inv.bs (I : Inv X pins σ H s) : ∀ b o, X.base.get? b = some o -> s.heap.get? b = some o /\ H b = none := fun b o e =>
 ⟨I.base.keep b o (I.ok.bs b o e).1 (I.ok.bs b o e).2 (I.ok.YL e) (I.ok.noex b o e), I.base.free b o (I.ok.bs b o e).1 (I.ok.bs b o e).2 (I.ok.noex b o e)⟩
theorem Inv.bk (I : Inv X pins σ H s) : ∀ b o, X.base.get? b = some o -> s.heap.get? b = some o := fun b o e => (I.bs b o e).1
theorem Inv.mod (I : Inv X pins σ H s) : Mod X.K X.mg X.base := I.ok.mod
theorem Inv.kIn (I : Inv X pins σ H s) : X.K.In s.heap := I.ok.mod.kin.keeps I.bk
theorem Inv.nolimit (I : Inv X pins σ H s) : s.heap.NoLimit := I.ok.mod.nolimit.keeps I.bk
theorem Inv.lt (I : Inv X pins σ H s) : X.env.locals < s.heap.objs.size := let ⟨_, hn, _⟩ := I.loc; hn.lt
theorem Inv.sz (I : Inv X pins σ H s) : X.s_0.heap.objs.size <= s.heap.objs.size := Nat.le_trans I.ok.above (Nat.le_of_lt I.lt)
theorem Inv.Yk (I : Inv X pins σ H s) {a : Addr} (h : s.heap.objs.size <= a) : a ∉ X.fs := fun hb => by
 obtain ⟨_, o, ho, _⟩ := I.ok.zU.mem hb
 exact absurd (Nat.lt_of_lt_of_le (Heap.lt_size ho) (Nat.le_trans I.sz h)) (Nat.lt_irrefl _)
theorem Inv.cne (I : Inv X pins σ H s) : ∀ x c, X.env.cells.lookup x = some c -> c ≠ X.env.locals := fun x c e z => by
 obtain ⟨v, o, ho, hd⟩ := I.cell x c e
 obtain ⟨m, ⟨o', es, ep, ho', hd', _⟩, _⟩ := I.loc
 rw [z, ho'] at ho; cases ho; rw [hd'] at hd; cases hd
theorem Inv.zU (I : Inv X pins σ H s) : s.heap.FunFrames X.base X.outer := by
 have all : ∀ (l : List Env), (∀ b ∈ frs l, b ∈ X.fs) -> X.s_0.heap.FunFrames X.base l -> s.heap.FunFrames X.base l := by
  intro l
  induction l with
  | nil => intro _ _; trivial
  | cons env r ih =>
   intro hs hl
   obtain ⟨hk, ⟨L, o, hf, hn, ho, hd⟩, hr⟩ := hl
   have hL : L ∈ X.fs := hs L (by unfold frs; rw [List.filterMap_cons, hf]; exact List.mem_cons_self)
   obtain ⟨sl, e⟩ := I.base.slot L o ho (I.ok.frf L hL) hL fun z => I.ok.exfs L z hL
   exact ⟨hk, ⟨L, _, hf, hn, e, hd⟩, ih (fun b hb => hs b (by unfold frs; rw [List.filterMap_cons, hf]; exact List.mem_cons_of_mem _ hb)) hr⟩
 exact all X.outer (fun _ hb => hb) I.ok.zU
theorem Inv.stack (I : Inv X pins σ H s) : s.heap.FunFrames X.base X.stack := by
 rcases I.ok.stk with e | ⟨e, hf⟩
 ·rw [e]; exact I.zU
 ·rw [e]
  obtain ⟨m, hn, _⟩ := I.loc
  refine .cons (by rw [I.ok.kind]; decide) hf hn ?_ I.zU
  exact Heap.get?_none_of_le (Nat.le_trans I.ok.bsz I.ok.above)
theorem Inv.zp (I : Inv X pins σ H s) : ∀ b ∈ frs X.stack, b ∈ X.env.locals :: X.fs := fun b hb => by
 rcases I.ok.stk with e | ⟨e, hf⟩
 ·rw [e] at hb; exact List.mem_cons_of_mem _ hb
 ·rw [e] at hb
  unfold frs at hb
  rw [List.filterMap_cons, hf] at hb
  exact hb
theorem Inv.Qk (I : Inv X pins σ H s) : ∀ b ∈ frs X.stack, H b = none := fun b hb => by
 rcases List.mem_cons.mp (I.zp b hb) with e | hb
 ·rw [e]; exact I.free
 ·obtain ⟨_, o, ho, _⟩ := I.ok.zU.mem hb
  exact I.base.free b o ho (I.ok.frf b hb) fun z => I.ok.exfs b z hb
theorem Inv.step {g' : Array GenState} {t' : Nat} {d' : Drawn} {ch : List Addr} (I : Inv X pins σ H s)
  (hch : ∀ b ∈ ch, (b ∈ X.ex \/ X.s_0.heap.objs.size <= b) /\ b ≠ X.env.locals /\ (∀ x c, X.env.cells.lookup x = some c -> c ≠ b) /\ ∀ p ∈ X.pn ++ pins, p.1 ≠ b)
  (keep : ∀ b o, b ≠ X.env.locals -> b ∉ X.fs -> b ∉ ch -> s.heap.get? b = some o -> H b = none -> h'.get? b = some o)
  (slot : ∀ b o, b ≠ X.env.locals -> b ∈ X.fs -> b ∉ ch -> s.heap.get? b = some o -> H b = none -> ∃ sl, h'.get? b = some { o with slots := sl }) (free : ∀ b o, b ∉ ch -> s.heap.get? b = some o -> H b = none -> H' b = none)
  (there : ∀ b o, b ∉ ch -> s.heap.get? b = some o -> ∃ o', h'.get? b = some o')
  (tups : ∀ b xs, H b = some (.tup xs) -> H' b = some (.tup xs)) (frzs : ∀ b o u, H b = some (.frz o u) -> H' b = some (.frz o u)) (tbls : ∀ b ps, H b = some (.tbl ps) -> ∃ more, H' b = some (.tbl (ps ++ more)))
  (ns : ∀ m, s.heap.Ns X.env.locals m -> h'.Ns X.env.locals m) (hok : HOk X.prog X.w H' h') (hg : AllBare g') :
  Inv X pins σ H' { s with heap := h', gens := g', drawn := d', toks := t' } := by
 have neL : ∀ b o, X.s_0.heap.get? b = some o -> b ≠ X.env.locals := fun b o e => Nat.ne_of_lt (Nat.lt_of_lt_of_le (Heap.lt_size e) I.ok.above)
 have neC : ∀ b o, X.s_0.heap.get? b = some o -> b ∉ X.ex -> b ∉ ch := fun b o e hx hb => by
  rcases (hch b hb).1 with z | z
  ·exact hx z
  ·exact absurd (Nat.lt_of_lt_of_le (Heap.lt_size e) z) (Nat.lt_irrefl _)
 have cellK : ∀ x c, X.env.cells.lookup x = some c -> ∀ v, s.heap.IsCell c v -> h'.IsCell c v := fun x c e v ⟨o, ho, hd⟩ => by
  have nch : c ∉ ch := fun z => (hch c z).2.2.1 x c e rfl
  by_cases hc : c ∈ X.fs
  ·obtain ⟨sl, q⟩ := slot c o (I.cne x c e) hc nch ho (I.freeC x c e)
   exact ⟨_, q, hd⟩
  ·exact ⟨o, keep c o (I.cne x c e) hc nch ho (I.freeC x c e), hd⟩
 refine ⟨I.ok, I.os, hg, ⟨fun b o e n hb hx => ?_, fun b o e n hb hx => ?_, fun b o e n hx => ?_, fun b o e hx => ?_, fun b xs e => tups b xs (I.base.tups b xs e), fun b o xs e => frzs b o xs (I.base.frzs b o xs e), fun b ps e => ?_⟩, ?_, fun x c e => ?_, ?_, fun x c e => ?_, fun p hp => ?_, hok, I.len⟩
 ·exact keep b o (neL b o e) hb (neC b o e hx) (I.base.keep b o e n hb hx) (I.base.free b o e n hx)
 ·obtain ⟨sl, e1⟩ := I.base.slot b o e n hb hx
  obtain ⟨sl', e2⟩ := slot b _ (neL b o e) hb (neC b o e hx) e1 (I.base.free b o e n hx)
  exact ⟨sl', e2⟩
 ·obtain ⟨o', e1⟩ := I.base.there b o e hx
  exact free b o' (neC b o e hx) e1 (I.base.free b o e n hx)
 ·obtain ⟨o', e1⟩ := I.base.there b o e hx
  exact there b o' (neC b o e hx) e1
 ·obtain ⟨m1, e1⟩ := I.base.tbls b ps e
  obtain ⟨m2, e2⟩ := tbls b _ e1
  exact ⟨m1 ++ m2, by rw [e2, Array.append_assoc]⟩
 ·obtain ⟨m, hn, hl⟩ := I.loc
  refine ⟨m, ns m hn, fun i x v e1 e2 e3 => ?_⟩
  obtain ⟨u, r, l⟩ := hl i x v e1 e2 e3
  refine ⟨u, r, ?_⟩
  rcases l with l | ⟨k, c, e, z⟩
  ·exact .inl l
  ·exact .inr ⟨k, c, e, cellK x c e _ z⟩
 ·obtain ⟨v, z⟩ := I.cell x c e
  exact ⟨v, cellK x c e v z⟩
 ·obtain ⟨m, ⟨o, _, _, ho, _⟩, _⟩ := I.loc
  exact free _ o (fun z => (hch _ z).2.1 rfl) ho I.free
 ·obtain ⟨v, o, ho, hd⟩ := I.cell x c e
  exact free c o (fun z => (hch c z).2.2.1 x c e rfl) ho (I.freeC x c e)
 ·obtain ⟨e, n, ne, nf, d⟩ := I.pin p hp
  have nch : p.1 ∉ ch := fun z => (hch p.1 z).2.2.2 p hp rfl
  exact ⟨keep p.1 p.2 ne nf nch e n, free p.1 p.2 nch e n, ne, nf, d⟩
theorem Inv.un {t' : Nat} (I : Inv X pins σ H s) (u : Un X.fs [] H H' s.heap h') (hok : HOk X.prog X.w H' h') : Inv X pins σ H' { s with heap := h', toks := t' } := by
 obtain ⟨m, ⟨o, es, ep, ho, r⟩, _⟩ := id I.loc
 obtain ⟨sl, hL⟩ := u.any ho I.free (by simp)
 exact I.step (g' := s.gens) (d' := s.drawn) (ch := []) (fun _ z => nomatch z) (fun b o _ hb _ e n => u.keep b o e n hb (by simp)) (fun b o _ hb _ e n => u.slot b o e n hb (by simp)) (fun b o _ e n => u.free b o e n (by simp)) (fun b o _ e => u.there b o e (by simp)) u.tups u.frzs u.tbls (fun m' hm => by
  obtain ⟨o', es', ep', ho', r'⟩ := hm
  rw [ho] at ho'; cases ho'
  exact ⟨_, es', ep', hL, r'⟩) hok I.bare
theorem Inv.call {g' : Array GenState} {t' : Nat} {d' : Drawn} {ch : List Addr} (I : Inv X pins σ H s) (u : Un (frs X.stack) ch H H' s.heap h') (hok : HOk X.prog X.w H' h') (hg : AllBare g')
  (hch : ∀ b ∈ ch, (b ∈ X.ex \/ X.s_0.heap.objs.size <= b) /\ b ≠ X.env.locals /\ (∀ x c, X.env.cells.lookup x = some c -> c ≠ b) /\ ∀ p ∈ X.pn ++ pins, p.1 ≠ b) :
  Inv X pins σ H' { s with heap := h', gens := g', drawn := d', toks := t' } := by
 obtain ⟨m, ⟨o, es, ep, ho, r⟩, _⟩ := id I.loc
 obtain ⟨sl, hL⟩ := u.any ho I.free fun z => (hch _ z).2.1 rfl
 exact I.step (ch := ch) hch (fun b o hL hb hc e n => u.keep b o e n (fun z => (List.mem_cons.mp (I.zp b z)).elim hL hb) hc) (fun b o _ _ hc e n => u.any e n hc) (fun b o hc e n => u.free b o e n hc) (fun b o hc e => u.there b o e hc) u.tups u.frzs u.tbls (fun m' hm => by
  obtain ⟨o', es', ep', ho', r'⟩ := hm
  rw [ho] at ho'; cases ho'
  exact ⟨_, es', ep', hL, r'⟩) hok hg
theorem Inv.turned {t' : Nat} {it : Addr} (I : Inv X pins σ H s) (k : ∀ b o, b ≠ it -> s.heap.get? b = some o -> h'.get? b = some o) (hn : H it = none) (hL : it ≠ X.env.locals)
  (h1 : it ∈ X.ex \/ X.s_0.heap.objs.size <= it) (h2 : ∀ x c, X.env.cells.lookup x = some c -> c ≠ it) (h3 : ∀ p ∈ X.pn ++ pins, p.1 ≠ it) : Inv X pins σ H { s with heap := h', toks := t' } := by
 have nit : ∀ b u, H b = some u -> b ≠ it := fun b u e z => by rw [z, hn] at e; cases e
 refine I.step (g' := s.gens) (d' := s.drawn) (ch := [it]) (fun b hb => ?_) (fun b o _ _ hc e _ => k b o (fun z => hc (by simp [z])) e) (fun b o _ _ hc e _ => ⟨o.slots, k b o (fun z => hc (by simp [z])) e⟩) (fun _ _ _ _ n => n)
  (fun b o hc e => ⟨o, k b o (fun z => hc (by simp [z])) e⟩) (fun _ _ e => e) (fun _ _ _ e => e) (fun b ps e => ⟨#[], by rw [e]; simp⟩) (fun m hm => ?_) (fun b u e => ?_) I.bare
 ·have e : b = it := by simpa using hb
  subst e
  exact ⟨h1, hL, h2, h3⟩
 ·obtain ⟨o, es, ep, ho, r⟩ := hm
  exact ⟨o, es, ep, k _ o (Ne.symm hL) ho, r⟩
 ·refine (I.hok b u e).uU (fun c v hc q => k c v ?_ q) (fun _ q => q) fun _ _ q => q
  rcases hc with z | z
  ·rw [z]; exact nit b u e
  ·exact nit c _ z
theorem Inv.tok (I : Inv X pins σ H s) (t : Nat) : Inv X pins σ H { s with toks := t } := I.un (h' := s.heap) (t' := t) Un.refl I.hok
theorem Inv.kept {t' : Nat} (I : Inv X pins σ H s) (k : ∀ b u, s.heap.get? b = some u -> h'.get? b = some u) : Inv X pins σ H { s with heap := h', toks := t' } := I.un (Un.kept k) (I.hok.kept k)
theorem Inv.laid {a : Addr} {o : HO} {t' : Nat} (I : Inv X pins σ H s) (k : ∀ b u, s.heap.get? b = some u -> h'.get? b = some u) (hp : s.heap.objs.size <= a) (new : wj X.prog X.w (upd H a o) h' a o) :
  Inv X pins σ (upd H a o) { s with heap := h', toks := t' } := I.un (Un.laid k hp (I.hok.fresh hp)) (I.hok.laid k hp new)
theorem Inv.write {x e : Addr} {o : HO} {t' : Nat} (I : Inv X pins σ H s) (mu : Mut (H x)) (he : e = x \/ H e = some (.own x)) (k : ∀ b u, b ≠ e -> s.heap.get? b = some u -> h'.get? b = some u) (heo : ∃ u, h'.get? e = some u)
  (new : wj X.prog X.w (upd H x o) h' x o) : Inv X pins σ (upd H x o) { s with heap := h', toks := t' } := I.un (Un.write mu he k heo) (I.hok.write mu he k heo new)
theorem Inv.Qd {pins' : List (Addr × Obj)} (I : Inv X pins σ H s) (h : ∀ p ∈ pins', s.heap.get? p.1 = some p.2 /\ H p.1 = none /\ p.1 ≠ X.env.locals /\ p.1 ∉ X.fs /\ ∀ v, p.2.data ≠ .cell v) : Inv X pins' σ H s :=
 ⟨I.ok, I.os, I.bare, I.base, I.loc, I.cell, I.free, I.freeC, fun p hp => (List.mem_append.mp hp).elim (fun z => I.pin p (List.mem_append_left _ z)) (h p), I.hok, I.len⟩
theorem uF {N : List Str} (hN : N.Nodup) {i j : Nat} {x : Str} (a : N[i]? = some x) (b : N[j]? = some x) : i = j := by
 obtain ⟨h1, e1⟩ := List.getElem?_eq_some_iff.mp a
 obtain ⟨h2, e2⟩ := List.getElem?_eq_some_iff.mp b
 exact (List.getElem_inj hN).mp (e1.trans e2.symm)
theorem QF {M : Model} {A : Around} {E : Value -> Shared -> Prop} {i : Nat} {x : Str} {v : V} {u : Value} {Q : Unit -> Shared -> Prop} (I : Inv X pins σ H s) (hN : X.N.Nodup) (hi : X.N[i]? = some x) (hx : Loc X.env.scope x) (r : RelV v u)
  (h : ∀ s', Inv X pins (σ.set i (some v)) H s' -> (∃ a, Heap.SameBut a s.heap s'.heap /\ (a = X.env.locals \/ X.env.cells.lookup x = some a)) -> Q () s') (hf : X.fn x = true \/ X.env.scope.names.lookup x = some .local := by first | exact .inl rfl | exact .inr rfl | assumption) : wpAny M A (storeName X.env x u) Q E s := by
 obtain ⟨m, hn, hl⟩ := id I.loc
 have hcls : (X.env.scope.kind == .class || (X.env.scope.kind == .module && X.env.locals != X.env.globals)) = false := by rw [I.ok.kind]; rfl
 have hiσ : i < σ.length := by rw [I.len]; exact (List.getElem?_eq_some_iff.mp hi).1
 have cne := I.cne
 have tracked : ∀ {a : Addr} {h' : Heap}, (∃ o, s.heap.get? a = some o /\ H a = none) -> Heap.SameBut a s.heap h' -> HOk X.prog X.w H h' := fun {a h'} ha hs b ob e => by
  obtain ⟨_, _, hfree⟩ := ha
  refine (I.hok b ob e).uU (fun c w' hc q => (hs.2 c ?_).trans q) (fun _ q => q) fun _ _ q => q
  rintro rfl
  rcases hc with rfl | hc
  ·rw [hfree] at e; cases e
  ·rw [hfree] at hc; cases hc
 rcases hx with hk | hk
 ·refine wpAny_storeName_local hk hn (fun h' hn' hs => ?_) hcls
  obtain ⟨oL, _, _, hoL, _⟩ := id hn
  refine h _ ⟨I.ok, I.os, I.bare, ⟨fun b o e n hb hx => ?_, fun b o e n hb hx => ?_, I.base.free, fun b o e hx => ?_, I.base.tups, I.base.frzs, I.base.tbls⟩, ⟨_, hn', fun j y v' e1 e2 e3 => ?_⟩, fun y c e => ?_, I.free, I.freeC, fun p hp => ?_, tracked ⟨oL, hoL, I.free⟩ hs, by simpa using I.len⟩ ⟨_, hs, .inl rfl⟩
  ·exact (hs.2 b (Nat.ne_of_lt (Nat.lt_of_lt_of_le (Heap.lt_size e) I.ok.above))).trans (I.base.keep b o e n hb hx)
  ·obtain ⟨sl, e1⟩ := I.base.slot b o e n hb hx
   exact ⟨sl, (hs.2 b (Nat.ne_of_lt (Nat.lt_of_lt_of_le (Heap.lt_size e) I.ok.above))).trans e1⟩
  ·obtain ⟨o', e1⟩ := I.base.there b o e hx
   exact ⟨o', (hs.2 b (Nat.ne_of_lt (Nat.lt_of_lt_of_le (Heap.lt_size e) I.ok.above))).trans e1⟩
  ·by_cases hj : j = i
   ·subst hj
    rw [hi] at e1; cases e1
    rw [List.getElem?_set_self hiσ] at e2
    cases e2
    exact ⟨u, r, .inl ⟨hk, by simp⟩⟩
   ·rw [List.getElem?_set_ne (Ne.symm hj)] at e2
    obtain ⟨u', r', q⟩ := hl j y v' e1 e2 e3
    refine ⟨u', r', ?_⟩
    rcases q with ⟨k, e⟩ | ⟨k, c, e, z⟩
    ·refine .inl ⟨k, ?_⟩
     have : y ≠ x := fun e => hj (uF hN e1 (e ▸ hi))
     simp [this, e]
    ·exact .inr ⟨k, c, e, z.sameBut hs (cne y c e)⟩
  ·obtain ⟨w', z⟩ := I.cell y c e
   exact ⟨w', z.sameBut hs (cne y c e)⟩
  ·obtain ⟨e, n, ne, nf, d⟩ := I.pin p hp
   exact ⟨(hs.2 p.1 ne).trans e, n, ne, nf, d⟩
 ·have hfn : X.fn x = true := by
   rcases hf with z | z
   ·exact z
   ·rw [z] at hk; cases hk
  obtain ⟨c, hc⟩ := I.ok.has x (.inl hk)
  obtain ⟨w', z⟩ := I.cell x c hc
  refine wpAny_storeName_cell I.ok.kind hk hc z (fun h' hc' hs => ?_)
  obtain ⟨oc, hoc, hocd⟩ := id z
  refine h { s with heap := h' } ⟨I.ok, I.os, I.bare, ⟨fun b o e n hb hx => ?_, fun b o e n hb hx => ?_, I.base.free, fun b o e hx => ?_, I.base.tups, I.base.frzs, I.base.tbls⟩, ⟨m, hn.sameBut hs (Ne.symm (cne x c hc)), fun j y v' e1 e2 e3 => ?_⟩, fun y c' e => ?_, I.free, I.freeC, fun p hp => ?_, tracked ⟨oc, hoc, I.freeC x c hc⟩ hs, by simpa using I.len⟩ ⟨c, hs, .inr hc⟩
  ·exact (hs.2 b (Nat.ne_of_lt (Nat.lt_of_lt_of_le (Heap.lt_size e) (I.ok.cab x c hfn hc)))).trans (I.base.keep b o e n hb hx)
  ·obtain ⟨sl, e1⟩ := I.base.slot b o e n hb hx
   exact ⟨sl, (hs.2 b (Nat.ne_of_lt (Nat.lt_of_lt_of_le (Heap.lt_size e) (I.ok.cab x c hfn hc)))).trans e1⟩
  ·obtain ⟨o', e1⟩ := I.base.there b o e hx
   exact ⟨o', (hs.2 b (Nat.ne_of_lt (Nat.lt_of_lt_of_le (Heap.lt_size e) (I.ok.cab x c hfn hc)))).trans e1⟩
  ·by_cases hj : j = i
   ·subst hj
    rw [hi] at e1; cases e1
    rw [List.getElem?_set_self hiσ] at e2
    cases e2
    exact ⟨u, r, .inr ⟨.inl hk, c, hc, hc'⟩⟩
   ·rw [List.getElem?_set_ne (Ne.symm hj)] at e2
    obtain ⟨u', r', q⟩ := hl j y v' e1 e2 e3
    refine ⟨u', r', ?_⟩
    rcases q with q | ⟨k, c', e, z'⟩
    ·exact .inl q
    ·refine .inr ⟨k, c', e, z'.sameBut hs ?_⟩
     rintro rfl
     exact hj (uF hN e1 (I.ok.inj _ _ _ e hc ▸ hi))
  ·by_cases hcc : c' = c
   ·subst hcc; exact ⟨_, hc'⟩
   ·obtain ⟨w2, z2⟩ := I.cell y c' e
    exact ⟨w2, z2.sameBut hs hcc⟩
  ·obtain ⟨e, n, ne, nf, d⟩ := I.pin p hp
   refine ⟨(hs.2 p.1 ?_).trans e, n, ne, nf, d⟩
   intro q
   rw [q, hoc] at e
   have q' : oc = p.2 := Option.some.inj e
   exact d w' (by rw [<- q']; exact hocd)
theorem u7 {M : Model} {A : Around} {E : Value -> Shared -> Prop} {i : Nat} {x : Str} {v : V} {u : Value} {Q : Unit -> Shared -> Prop} (I : Inv X pins σ H s) (hN : X.N.Nodup) (hi : X.N[i]? = some x) (hx : Loc X.env.scope x) (r : RelV v u)
  (h : ∀ s', Inv X pins (σ.set i (some v)) H s' -> Q () s') (hf : X.fn x = true \/ X.env.scope.names.lookup x = some .local := by first | exact .inl rfl | exact .inr rfl | assumption) : wpAny M A (storeName X.env x u) Q E s :=
 QF I hN hi hx r (fun s' I' _ => h s' I') hf
theorem Inv.Ym {s' : Shared} {ch : List Addr} (I : Inv X pins σ H s) (ho : s'.os = s.os) (u : Un (frs X.stack) ch H H' s.heap s'.heap) (hok : HOk X.prog X.w H' s'.heap) (hg : AllBare s'.gens)
  (hch : ∀ b ∈ ch, (b ∈ X.ex \/ X.s_0.heap.objs.size <= b) /\ b ≠ X.env.locals /\ (∀ x c, X.env.cells.lookup x = some c -> c ≠ b) /\ ∀ p ∈ X.pn ++ pins, p.1 ≠ b) : Inv X pins σ H' s' := by
 obtain ⟨h', g', d', t', o'⟩ := s'
 have e : o' = s.os := ho
 subst e
 exact I.call (g' := g') (t' := t') (d' := d') u hok hg hch
end
noncomputable abbrev XK := Value -> Option Addr -> Hp -> Prop
noncomputable abbrev St := List (Option V)
noncomputable abbrev VK := V -> Hp -> Prop
noncomputable abbrev TE := St -> Hp -> VK -> Prop
noncomputable abbrev TT := St -> Hp -> (Bool -> Hp -> Prop) -> Prop
noncomputable abbrev TA := St -> Hp -> (List V -> Hp -> Prop) -> Prop
structure Ends where
 nx : St -> Hp -> Prop
 rt : VK
 bk : St -> Hp -> Prop := fun _ _ => False
 ct : St -> Hp -> Prop := fun _ _ => False
noncomputable abbrev TS := Ends -> St -> Hp -> Prop
noncomputable def EP (X : Cx) (pins : List (Addr × Obj)) (σ : St) (Q : VK) (u : Value) (s' : Shared) : Prop := ∃ v H', Inv X pins σ H' s' /\ RelV v u /\ Q v H'
noncomputable def TP (X : Cx) (pins : List (Addr × Obj)) (σ : St) (Q : Bool -> Hp -> Prop) (b : Bool) (s' : Shared) : Prop := ∃ H', Inv X pins σ H' s' /\ Q b H'
noncomputable def AP (X : Cx) (pins : List (Addr × Obj)) (σ : St) (Q : List V -> Hp -> Prop) (us : List Value) (s' : Shared) : Prop := ∃ vs H', Inv X pins σ H' s' /\ Vals vs us /\ Q vs H'
noncomputable def SP (X : Cx) (pins : List (Addr × Obj)) (D : Ends) (f : Flow) (s' : Shared) : Prop :=
 match f with
 | .next => ∃ σ' H', Inv X pins σ' H' s' /\ D.nx σ' H'
 | .brk => ∃ σ' H', Inv X pins σ' H' s' /\ D.bk σ' H'
 | .cont => ∃ σ' H', Inv X pins σ' H' s' /\ D.ct σ' H'
 | .ret u => ∃ v σ' H', Inv X pins σ' H' s' /\ RelV v u /\ D.rt v H'
noncomputable def PE (X : Cx) (e : Expr) (t : TE) : Prop :=
 ∀ (pins : List (Addr × Obj)) (s : Shared) (σ : St) (H : Hp) (Q : VK), Inv X pins σ H s -> t σ H Q -> wpAny (model X.prog X.w) X.A (eval e X.env) (EP X pins σ Q) X.xe s
noncomputable def PT (X : Cx) (e : Expr) (t : TT) : Prop :=
 ∀ (pins : List (Addr × Obj)) (s : Shared) (σ : St) (H : Hp) (Q : Bool -> Hp -> Prop), Inv X pins σ H s -> t σ H Q -> wpAny (model X.prog X.w) X.A (isTrue e X.env (eval e X.env)) (TP X pins σ Q) X.xe s
noncomputable def PW (X : Cx) (e : Expr) (t : TT) : Prop :=
 ∀ (whole : Sem Value) (pins : List (Addr × Obj)) (s : Shared) (σ : St) (H : Hp) (Q : Bool -> Hp -> Prop), Inv X pins σ H s -> t σ H Q -> wpAny (model X.prog X.w) X.A (isTrue e X.env whole) (TP X pins σ Q) X.xe s
theorem PW.pt {X : Cx} {e : Expr} {t : TT} (h : PW X e t) : PT X e t := h _
noncomputable def PA (X : Cx) (es : List Expr) (t : TA) : Prop :=
 ∀ (pos : Pos) (pins : List (Addr × Obj)) (s : Shared) (σ : St) (H : Hp) (Q : List V -> Hp -> Prop), Inv X pins σ H s -> t σ H Q -> wpAny (model X.prog X.w) X.A (spliced (backTo pos (starEach es X.env))) (AP X pins σ Q) X.xe s
noncomputable def PS (X : Cx) (st : Stmt) (t : TS) : Prop :=
 ∀ (pins : List (Addr × Obj)) (s : Shared) (σ : St) (H : Hp) (D : Ends), Inv X pins σ H s -> t D σ H -> wpAny (model X.prog X.w) X.A (exec st X.env) (SP X pins D) X.xe s
noncomputable def PSs (X : Cx) (st : List Stmt) (t : TS) : Prop :=
 ∀ (pins : List (Addr × Obj)) (s : Shared) (σ : St) (H : Hp) (D : Ends), Inv X pins σ H s -> t D σ H -> wpAny (model X.prog X.w) X.A (execs st X.env) (SP X pins D) X.xe s
theorem thn {α : Type} {t : Sem α} {Q Q' : α -> Shared -> Prop} {M : Model} {A : Around} {E : Value -> Shared -> Prop} {s : Shared} (h : wpAny M A t Q E s) (hQ : ∀ a s, Q a s -> Q' a s) : wpAny M A t Q' E s := wpAny_mono h hQ fun _ _ x => x
section
variable {X : Cx}
noncomputable def YE (i : Nat) : TE := fun σ H Q => ∃ v, σ[i]? = some (some v) /\ Q v H
noncomputable def tC (v : V) : TE := fun _ H Q => Q v H
theorem x8 {i : Nat} {x : Str} {pos : Pos} (hN : X.N[i]? = some x) (hv : Vis X.env.scope x) (hd : (x == ("__debug__" : Str)) = false := by decide) (hcd : (x == ("__classdict__" : Str)) = false := by decide) : PE X (.Name x pos) (YE i) := by
 intro pins s σ H Q I h
 obtain ⟨v, e, h⟩ := h
 obtain ⟨m, hn, hl⟩ := I.loc
 obtain ⟨u, r, l⟩ := hl i x v hN e hv
 have fin : EP X pins σ Q u s := ⟨v, H, I, r, h⟩
 rcases l with ⟨hk, hm⟩ | ⟨hk, c, hc, hcell⟩
 ·exact wpAny_Name (wpAny_loadName_local I.ok.kind hk hn hm fin) hd
 ·rcases hk with hk | hk
  ·exact wpAny_Name (wpAny_loadName_cell I.ok.kind hk hc hcell fin) hd
  ·exact wpAny_Name (wpAny_loadName_free I.ok.kind hk hc hcell fin hcd) hd
theorem jL {i j pos} : PE X (.Constant (.int i) j pos) (tC (.int i)) := fun _ _ _ H _ I h => wpAny_Constant_int ⟨.int i, H, I.tok _, ⟨_, rfl⟩, h⟩
noncomputable def Gl (X : Cx) (x : Str) : Prop := X.env.kindOf x = some .globalImplicit
theorem z0 {E : Value -> Shared -> Prop} {pins : List (Addr × Obj)} {s : Shared} {σ : St} {H : Hp} {x : Str} {u : Value} {pos : Pos} {Q : Value -> Shared -> Prop} (I : Inv X pins σ H s) (hg : Gl X x) (hm : X.mg x = some u) (h : Q u s)
  (hd : (x == ("__debug__" : Str)) = false := by decide) : wpAny (model X.prog X.w) X.A (eval (.Name x pos) X.env) Q E s :=
 Calls.Name_function_global I.ok.kind hg (Calls.loadGlobal_global (by rw [I.ok.glob]; exact I.mod.glob.keeps I.bk) hm h) hd
theorem Zk {E : Value -> Shared -> Prop} {pins : List (Addr × Obj)} {s : Shared} {σ : St} {H : Hp} {x : Str} {u : Value} {pos : Pos} {Q : Value -> Shared -> Prop} (I : Inv X pins σ H s) (hg : Gl X x) (hm : X.mg x = none) (hv : bootBuiltins x = some u) (h : Q u s)
  (hn : x ≠ "__name__" := by decide) (hd : (x == ("__debug__" : Str)) = false := by decide) : wpAny (model X.prog X.w) X.A (eval (.Name x pos) X.env) Q E s := by
 obtain ⟨mb, h1, h2⟩ := I.mod.blt
 exact Calls.Name_function_global I.ok.kind hg (Calls.loadGlobal_builtin (by rw [I.ok.glob]; exact I.mod.glob.keeps I.bk) hm (by rw [I.ok.blt]; exact h1.keeps I.bk) ((h2 x hn).trans hv) h) hd
theorem WY {x : Str} {v : V} {u : Value} {pos : Pos} (hg : Gl X x) (hm : X.mg x = some u) (r : RelV v u) (hd : (x == ("__debug__" : Str)) = false := by decide) : PE X (.Name x pos) (tC v) :=
 fun _ _ _ H _ I h => z0 I hg hm ⟨v, H, I, r, h⟩ hd
variable {a b : Expr} {ta tb : TE} {pos : Pos}
noncomputable def tB (t : TE) : TT := fun σ H Q => t σ H fun x H1 => ∃ c, x = .bl c /\ Q c H1
theorem Zw {e : Expr} {t : TE} (h : PE X e t) (he : ∀ whole, isTrue e X.env whole = (do let v <- whole; standAt e.pos; holding [v] (truthy v)) := by intro _; rfl) : PT X e (tB t) := by
 intro pins s σ H Q I hw
 refine isTrue_plain (thn (h pins s σ H _ I hw) fun v s1 ⟨x, H1, I1, r1, q1⟩ => ?_) (he _)
 obtain ⟨d, rfl, q⟩ := q1
 cases r1
 exact wpAny_truthy_bool ⟨H1, I1, q⟩
variable {tA tB' : TT} {rest : List Expr}
noncomputable def YV (t u : TT) : TT := fun σ H Q => t σ H fun c H1 => if c = true then u σ H1 Q else Q false H1
noncomputable def tOr (t u : TT) : TT := fun σ H Q => t σ H fun c H1 => if c = true then Q true H1 else u σ H1 Q
noncomputable def Y0 (t : TT) : TT := fun σ H Q => t σ H fun c H1 => Q (!c) H1
theorem W2 (ha : PT X a tA) : PW X (.BoolOp .And [a] pos) tA := by
 intro wh pins s σ H Q I h
 refine isTrue_and (thn (ha pins s σ H Q I h) fun c s1 e => ?_)
 cases c with
 | true => exact isTrue_and_nil e
 | false => exact e
theorem Z9 (ha : PT X a tA) : PW X (.BoolOp .Or [a] pos) tA := by
 intro wh pins s σ H Q I h
 refine isTrue_or (thn (ha pins s σ H Q I h) fun c s1 e => ?_)
 cases c with
 | false => exact isTrue_or_nil e
 | true => exact e
theorem ZG (ha : PT X a tA) (hb : PW X (.BoolOp .And (b :: rest) pos) tB') : PW X (.BoolOp .And (a :: b :: rest) pos) (YV tA tB') := by
 intro wh pins s σ H Q I h
 refine isTrue_and (thn (ha pins s σ H _ I h) fun c s1 ⟨H1, I1, q1⟩ => ?_)
 cases c with
 | true => exact hb wh pins s1 σ H1 Q I1 q1
 | false => exact ⟨H1, I1, q1⟩
theorem Ys (ha : PT X a tA) (hb : PW X (.BoolOp .Or (b :: rest) pos) tB') : PW X (.BoolOp .Or (a :: b :: rest) pos) (tOr tA tB') := by
 intro wh pins s σ H Q I h
 refine isTrue_or (thn (ha pins s σ H _ I h) fun c s1 ⟨H1, I1, q1⟩ => ?_)
 cases c with
 | true => exact ⟨H1, I1, q1⟩
 | false => exact hb wh pins s1 σ H1 Q I1 q1
theorem Z1 (ha : PT X a tA) : PT X (.UnaryOp .Not a pos) (Y0 tA) := by
 intro pins s σ H Q I h
 exact isTrue_not (ha pins s σ H (fun c H1 => Q (!c) H1) I h)
noncomputable def tIf (t : TT) (ta tb : TE) : TE := fun σ H Q => t σ H fun c H1 => if c = true then ta σ H1 Q else tb σ H1 Q
theorem Vu {c : Expr} (hc : PT X c tA) (ha : PE X a ta) (hb : PE X b tb) : PE X (.IfExp c a b pos) (tIf tA ta tb) := by
 intro pins s σ H Q I h
 refine wpAny_IfExp (thn (hc pins s σ H _ I h) fun d s1 ⟨H1, I1, q1⟩ => ?_)
 cases d with
 | true => exact ha pins s1 σ H1 Q I1 q1
 | false => exact hb pins s1 σ H1 Q I1 q1
end
noncomputable def SqL (K : PySem.W.Frag) (H : Hp) (a : Addr) (xs : List V) : Prop :=
 Rd H a (.lst xs) \/
  ∃ (o : Obj) (its : Array Value) (n : Nat), K.lookup a = some o /\ o.cls = .type "list" /\ o.dict = none /\ o.data = .seq its n /\ its.size <= sizeLine /\ Vals xs its.toList
noncomputable def SqT (K : PySem.W.Frag) (H : Hp) (a : Addr) (xs : List V) : Prop :=
 Rd H a (.tup xs) \/
  ∃ (o : Obj) (its : Array Value) (n : Nat), K.lookup a = some o /\ o.cls = .type "tuple" /\ o.data = .seq its n /\ its.size <= sizeLine /\ Vals xs its.toList
noncomputable def YQ : Value -> Option V
 | .none => some .non
 | .bool b => some (.bl b)
 | .int i _ => some (.int i)
 | .str x _ => some (.str x)
 | .bytes b _ => some (.byt b)
 | .float b _ => some (.flt b)
 | .ref a => some (.ref a)
 | .type n => some (.ty n)
 | _ => none
theorem RelV.abs {x : V} {u : Value} (r : RelV x u) : YQ u = some x := by
 cases x with
 | non => cases r; rfl
 | bl _ => cases r; rfl
 | int _ => obtain ⟨t, rfl⟩ := r; rfl
 | str _ => obtain ⟨t, rfl⟩ := r; rfl
 | byt _ => obtain ⟨t, rfl⟩ := r; rfl
 | flt _ => obtain ⟨t, rfl⟩ := r; rfl
 | ref _ => cases r; rfl
 | ty _ => cases r; rfl
theorem RelV.inj {x y : V} {u : Value} (r : RelV x u) (q : RelV y u) : x = y := Option.some.inj (r.abs.symm.trans q.abs)
theorem Vals.inj : ∀ {xs ys : List V} {us : List Value}, Vals xs us -> Vals ys us -> xs = ys
 | _, _, _, .nil, .nil => rfl
 | _, _, _, .cons r t, .cons r' t' => by rw [r.inj r', Vals.inj t t']
section
variable {X : Cx} {pins : List (Addr × Obj)} {σ : St} {H : Hp} {s : Shared} {a : Addr} {xs ys : List V}
theorem SqL.of {K : PySem.W.Frag} (h : H a = some (.lst xs)) : SqL K H a xs := .inl (.inl h)
theorem Inv.list (I : Inv X pins σ H s) (h : SqL X.K H a xs) : ∃ its : List Value, Vals xs its /\ PlainL s.heap a its.toArray /\ xs.length <= sizeLine := by
 rcases h with h | ⟨o, its, n, hk, hc, hd, hs, hz, r⟩
 ·obtain ⟨z, its, n, r, e⟩ := h.ok I.hok
  exact ⟨its, r, ⟨_, n, e, rfl, rfl, rfl⟩, z⟩
 ·refine ⟨its.toList, r, ⟨o, n, I.kIn a o hk, hc, hd, by simpa using hs⟩, ?_⟩
  have e := r.length
  simp only [Array.length_toList] at e
  lia
theorem Inv.tuple (I : Inv X pins σ H s) (h : SqT X.K H a xs) : ∃ its : List Value, Vals xs its /\ IsTup s.heap a its.toArray /\ xs.length <= sizeLine := by
 rcases h with h | ⟨o, its, n, hk, hc, hs, hz, r⟩
 ·obtain ⟨z, its, r, p⟩ := h.ok I.hok
  exact ⟨its, r, p, z⟩
 ·refine ⟨its.toList, r, ⟨o, I.kIn a o hk, hc, n, by simpa using hs⟩, ?_⟩
  have e := r.length
  simp only [Array.length_toList] at e
  lia
theorem Inv.VG (I : Inv X pins σ H s) (h : SqL X.K H a xs) (h' : SqL X.K H a ys) : xs = ys := by
 obtain ⟨its, r, ⟨o, n, e, _, _, d⟩, _⟩ := I.list h
 obtain ⟨its', r', ⟨o', n', e', _, _, d'⟩, _⟩ := I.list h'
 rw [e] at e'; cases e'
 rw [d] at d'
 injection d' with d1 _
 have : its = its' := by simpa using congrArg Array.toList d1
 subst this
 exact r.inj r'
end
noncomputable abbrev Cx.zL (X : Cx) (E : Value -> Shared -> Prop) : Cx := { X with xe := E }
theorem Cx.Ok.zL {X : Cx} (ok : X.Ok) (E : Value -> Shared -> Prop) : (X.zL E).Ok :=
 ⟨ok.mod, ok.kind, ok.glob, ok.blt, ok.above, ok.inj, ok.has, ok.cab, ok.hd, ok.frames, ok.stk, ok.exf, ok.bs, ok.bsz, ok.noex, ok.exfs, ok.zU, ok.frf⟩
theorem Cx.Ok.wJ {X : Cx} {E : Value -> Shared -> Prop} (ok : (X.zL E).Ok) : X.Ok :=
 ⟨ok.mod, ok.kind, ok.glob, ok.blt, ok.above, ok.inj, ok.has, ok.cab, ok.hd, ok.frames, ok.stk, ok.exf, ok.bs, ok.bsz, ok.noex, ok.exfs, ok.zU, ok.frf⟩
section
variable {X : Cx} {pins : List (Addr × Obj)} {σ : St} {H : Hp} {s : Shared} {E : Value -> Shared -> Prop}
theorem Inv.zL (I : Inv X pins σ H s) (E : Value -> Shared -> Prop) : Inv (X.zL E) pins σ H s := ⟨I.ok.zL E, I.os, I.bare, I.base, I.loc, I.cell, I.free, I.freeC, I.pin, I.hok, I.len⟩
theorem Inv.wJ (I : Inv (X.zL E) pins σ H s) : Inv X pins σ H s := ⟨I.ok.wJ, I.os, I.bare, I.base, I.loc, I.cell, I.free, I.freeC, I.pin, I.hok, I.len⟩
theorem SP.wJ {D : Ends} {f : Flow} {s' : Shared} (h : SP (X.zL E) pins D f s') : SP X pins D f s' := by
 cases f with
 | next => obtain ⟨σ', H', I, q⟩ := h; exact ⟨σ', H', I.wJ, q⟩
 | brk => obtain ⟨σ', H', I, q⟩ := h; exact ⟨σ', H', I.wJ, q⟩
 | cont => obtain ⟨σ', H', I, q⟩ := h; exact ⟨σ', H', I.wJ, q⟩
 | ret u => obtain ⟨v, σ', H', I, r, q⟩ := h; exact ⟨v, σ', H', I.wJ, r, q⟩
end
section
variable {X : Cx} {st : Stmt} {rest : List Stmt} {t u : TS} {e : Expr} {te : TE} {pos : Pos}
noncomputable def Yo : TS := fun D σ H => D.nx σ H
noncomputable def YW (t u : TS) : TS := fun D σ H => t { D with nx := u D } σ H
theorem Wc : PSs X [] Yo := fun _ _ σ H _ I h => wpAny_execs_nil ⟨σ, H, I, h⟩
theorem uW (h1 : PS X st t) (h2 : PSs X rest u) : PSs X (st :: rest) (YW t u) := by
 intro pins s σ H D I h
 refine wpAny_execs_cons (thn (h1 pins s σ H { D with nx := u D } I h) fun f s1 q => ?_)
 cases f with
 | next =>
  obtain ⟨σ', H', I', q⟩ := q
  exact h2 pins s1 σ' H' D I' q
 | ret v => exact q
 | brk => exact q
 | cont => exact q
theorem z7 (h1 : PS X st t) : PSs X [st] t := by
 intro pins s σ H D I h
 refine wpAny_execs_cons (thn (h1 pins s σ H D I h) fun f s1 q => ?_)
 cases f with
 | next => exact wpAny_execs_nil q
 | ret v => exact q
 | brk => exact q
 | cont => exact q
theorem Inv.quiet {pins : List (Addr × Obj)} {σ : St} {H : Hp} {s : Shared} (I : Inv X pins σ H s) : interactive X.env = false := by simp [interactive, I.ok.kind]
noncomputable def Yh (te : TE) : TS := fun D σ H => te σ H fun _ H1 => D.nx σ H1
theorem V9 (he : PE X e te) (hs : swapsWith e none pos.line X.env = pure false := by rfl) : PS X (.Expr e pos) (Yh te) := by
 intro pins s σ H D I h
 exact wpAny_Expr_any (thn (he pins s σ H _ I h) fun v s1 ⟨x, H1, I1, r1, q1⟩ => ⟨σ, H1, I1, q1⟩) I.quiet hs
noncomputable def Zv (te : TE) : TS := fun D σ H => te σ H D.rt
theorem xc (he : PE X e te) : PS X (.Return (some e) pos) (Zv te) := by
 intro pins s σ H D I h
 exact wpAny_Return_some (thn (he pins s σ H _ I h) fun v s1 ⟨x, H1, I1, r1, q1⟩ => ⟨x, σ, H1, I1, r1, q1⟩)
noncomputable def YZ (c : TT) (t u : TS) : TS := fun D σ H => c σ H fun b H1 => if b = true then t D σ H1 else u D σ H1
theorem Yp {c : Expr} {a b : List Stmt} {tc : TT} (hc : PT X c tc) (ha : PSs X a t) (hb : PSs X b u) : PS X (.If c a b pos) (YZ tc t u) := by
 intro pins s σ H D I h
 refine wpAny_If (thn (hc pins s σ H _ I h) fun d s1 ⟨H1, I1, q1⟩ => ?_)
 cases d with
 | true => exact ha pins s1 σ H1 D I1 q1
 | false => exact hb pins s1 σ H1 D I1 q1
end
noncomputable abbrev TG := V -> St -> Hp -> (St -> Hp -> Prop) -> Prop
noncomputable def PG (X : Cx) (target : Expr) (t : TG) : Prop :=
 ∀ (pins : List (Addr × Obj)) (s : Shared) (σ : St) (H : Hp) (v : V) (u : Value) (Q : St -> Hp -> Prop), Inv X pins σ H s -> RelV v u -> t v σ H Q ->
  wpAny (model X.prog X.w) X.A (assign target X.env u) (fun _ s' => ∃ σ' H', Inv X pins σ' H' s' /\ Q σ' H') X.xe s
section
variable {X : Cx} {pos : Pos}
noncomputable def xP (i : Nat) : TG := fun v σ H Q => Q (σ.set i (some v)) H
theorem V3 {i : Nat} {x : Str} (hN : X.N.Nodup) (hi : X.N[i]? = some x) (hx : Loc X.env.scope x) (hf : X.fn x = true \/ X.env.scope.names.lookup x = some .local := by first | exact .inl rfl | exact .inr rfl | assumption) : PG X (.Name x pos) (xP i) := by
 intro pins s σ H v u Q I r h
 exact wpAny_assign_Name (u7 I hN hi hx r (fun s' I' => ⟨_, H, I', h⟩) hf)
noncomputable def ZA (te : TE) (g : TG) : TS := fun D σ H => te σ H fun x H1 => g x σ H1 D.nx
theorem VU {i : Nat} {x : Str} {e : Expr} {te : TE} {pos' : Pos} (hN : X.N.Nodup) (hi : X.N[i]? = some x) (hx : Loc X.env.scope x) (he : PE X e te) (hs : swapsWith e (some (.Name x pos')) pos.line X.env = pure false := by rfl) (hf : X.fn x = true \/ X.env.scope.names.lookup x = some .local := by first | exact .inl rfl | exact .inr rfl | assumption) :
  PS X (.Assign [.Name x pos'] e pos) (ZA te (xP i)) := by
 intro pins s σ H D I h
 refine wpAny_Assign_Name (thn (he pins s σ H _ I h) fun v s1 ⟨y, H1, I1, r1, q1⟩ => ?_) hs
 exact u7 I1 hN hi hx r1 (fun s2 I2 => ⟨_, H1, I2, q1⟩) hf
end
section
variable {X : Cx} {pos : Pos}
noncomputable def Zy (c : TT) (tb : TS) : TS := fun D σ H => ∃ W : Nat -> St -> Hp -> Prop, (∃ m, W m σ H) /\ ∀ m σ H, W m σ H ->
 c σ H fun b H1 => if b = true then ∃ N : St -> Hp -> Prop, (∀ σ' H', N σ' H' -> ∃ m', m' < m /\ W m' σ' H') /\ tb { D with nx := N, ct := N, bk := D.nx } σ H1 else D.nx σ H1
theorem Q4 {c : Expr} {body : List Stmt} {tc : TT} {tb : TS} (hp : PassesOwn (model X.prog X.w) X.A X.env X.xe) (hc : PT X c tc) (hb : PSs X body tb) : PS X (.While c body [] pos) (Zy tc tb) := by
 intro pins s σ H D I h
 obtain ⟨W, ⟨m0, w0⟩, turn⟩ := h
 refine wpAny_While (codeAny_whileLoop (fun n s' => ∃ σ' H', Inv X pins σ' H' s' /\ W n σ' H') ?_ m0 ⟨σ, H, I, w0⟩)
 rintro n s1 ⟨σ1, H1, I1, w1⟩
 refine wpAny_passesOwn hp (thn (hc pins s1 σ1 H1 _ I1 (turn n σ1 H1 w1)) fun b s2 ⟨H2, I2, q2⟩ => ?_)
 cases b with
 | true =>
  obtain ⟨N, hN, q2⟩ := q2
  rw [if_pos rfl]
  refine wpAny_passesOwn hp (thn (hb pins s2 σ1 H2 _ I2 q2) fun f s3 q3 => ?_)
  cases f with
  | next =>
   obtain ⟨σ3, H3, I3, n3⟩ := q3
   obtain ⟨m', hm, w3⟩ := hN σ3 H3 n3
   exact ⟨m', hm, σ3, H3, I3, w3⟩
  | cont =>
   obtain ⟨σ3, H3, I3, n3⟩ := q3
   obtain ⟨m', hm, w3⟩ := hN σ3 H3 n3
   exact ⟨m', hm, σ3, H3, I3, w3⟩
  | brk => exact q3
  | ret v => exact q3
 | false =>
  rw [if_neg Bool.false_ne_true]
  exact wpAny_execs_nil ⟨σ1, H2, I2, q2⟩
end
structure It where
 go : Nat -> Hp -> Prop
 yld : Nat -> Hp -> V -> Hp -> Prop
 stop : Nat -> Hp -> Prop
noncomputable def Qt (X : Cx) (pins : List (Addr × Obj)) (H : Hp) (b : Addr) : Prop :=
 H b = none /\ b ≠ X.env.locals /\ b ∉ X.fs /\ (b ∈ X.ex \/ X.s_0.heap.objs.size <= b) /\ (∀ x c, X.env.cells.lookup x = some c -> c ≠ b) /\ ∀ p ∈ X.pn ++ pins, p.1 ≠ b
theorem Inv.YN {X : Cx} {pins : List (Addr × Obj)} {σ : St} {H H' : Hp} {s : Shared} {b : Addr} (I : Inv X pins σ H s) (hb : s.heap.objs.size <= b) (hn : H' b = none) : Qt X pins H' b := by
 refine ⟨hn, Nat.ne_of_gt (Nat.lt_of_lt_of_le I.lt hb), I.Yk hb, .inr (Nat.le_trans I.sz hb), fun x c e z => ?_, fun p hp z => ?_⟩
 ·obtain ⟨v, q⟩ := I.cell x c e
  exact absurd (Nat.lt_of_lt_of_le q.lt (by rw [z]; exact hb)) (Nat.lt_irrefl _)
 ·exact absurd (Nat.lt_of_lt_of_le (Heap.lt_size (I.pin p hp).1) (by rw [z]; exact hb)) (Nat.lt_irrefl _)
structure Turn (P : Program) (w : World) (K : PySem.W.Frag) (tg : Expr) (J : It) (fp : List Addr) (it : Addr) (tn : Nat -> Heap -> Prop) : Prop where
 mem : it ∈ fp
 obj : ∀ i h, tn i h -> ∀ b ∈ fp, ∃ o, h.get? b = some o /\ ∀ v, o.data ≠ .cell v
 keep : ∀ i h h', tn i h -> (∀ b ∈ fp, ∀ o, h.get? b = some o -> h'.get? b = some o) -> tn i h'
 item : ∀ (X : Cx), X.prog = P -> X.w = w -> X.K = K -> X.calm = true -> ∀ (i : Nat) (pins : List (Addr × Obj)) (s : Shared) (σ : St) (H : Hp) (E : Value -> Shared -> Prop), Inv X pins σ H s -> (∀ b ∈ fp, Qt X pins H b) -> tn i s.heap -> J.go i H ->
  wpAny (model P w) X.A (pyNext (.ref it)) (fun r s1 => ∃ u, r = some u /\
   wpAny (model P w) X.A (letOwnedTupleGo tg (.ref it) u) (fun _ s2 => ∃ x H', Inv X pins σ H' s2 /\ RelV x u /\ J.yld i H x H' /\ tn (i + 1) s2.heap /\ ∀ b ∈ fp, H' b = none) E s1) E s
 done : ∀ (X : Cx), X.prog = P -> X.w = w -> X.K = K -> X.calm = true -> ∀ (i : Nat) (pins : List (Addr × Obj)) (s : Shared) (σ : St) (H : Hp) (E : Value -> Shared -> Prop), Inv X pins σ H s -> (∀ b ∈ fp, Qt X pins H b) -> tn i s.heap -> J.stop i H ->
  wpAny (model P w) X.A (pyNext (.ref it)) (fun r s1 => r = none /\ Inv X pins σ H s1) E s
 self : ∀ (A : Around) (i : Nat) (s : Shared) (Q : Value -> Shared -> Prop) (E : Value -> Shared -> Prop), tn i s.heap -> Q (.ref it) s -> wpAny (model P w) A (pyIter (.ref it)) Q E s
noncomputable abbrev TI := St -> Hp -> (It -> Hp -> Prop) -> Prop
noncomputable def PIE (X : Cx) (pins : List (Addr × Obj)) (σ : St) (tg : Expr) (R : It -> Hp -> Prop) (itv : Value) (s2 : Shared) : Prop :=
 ∃ (it : Addr) (fp : List Addr) (tn : Nat -> Heap -> Prop) (J : It) (H' : Hp), itv = .ref it /\ Inv X pins σ H' s2 /\ Turn X.prog X.w X.K tg J fp it tn /\ tn 0 s2.heap /\ (∀ b ∈ fp, Qt X pins H' b) /\ R J H'
noncomputable def PI (X : Cx) (tg iter : Expr) (wi : TI) : Prop :=
 ∀ (pins : List (Addr × Obj)) (s : Shared) (σ : St) (H : Hp) (R : It -> Hp -> Prop), Inv X pins σ H s -> wi σ H R ->
  wpAny (model X.prog X.w) X.A (eval iter X.env) (fun v s1 => wpAny (model X.prog X.w) X.A (pyIter v) (PIE X pins σ tg R) X.xe s1) X.xe s
theorem YC {M : Model} {A : Around} {E : Value -> Shared -> Prop} {s : Shared} {tg : Expr} {it : Addr} {u : Value} {o : Obj} {n : String} {vs : Array Value} {Q : Unit -> Shared -> Prop} (ho : s.heap.get? it = some o) (hc : o.cls = .type n) (hd : o.data = .fields vs)
    (hn : ["enumerate", "zip", "dict_itemiterator", "dict_reverseitemiterator", "odict_iterator", "itertools.zip_longest", "itertools.pairwise"].contains n = false) (hQ : Q () s) : wpAny M A (letOwnedTupleGo tg (.ref it) u) Q E s := by
  unfold letOwnedTupleGo
  cases tg <;> first
    | exact wpAny_pure hQ
    | (cases u <;> first
        | exact wpAny_pure hQ
        | (refine wpAny_bind (wpAny_load ho ?_)
           rw [hc, hd]
           show wpAny M A (if (["enumerate", "zip", "dict_itemiterator", "dict_reverseitemiterator", "odict_iterator", "itertools.zip_longest", "itertools.pairwise"].contains n && vs[0]? == some (rawInt _)) = true then _ else _) Q E s
           rw [if_neg (by intro h; rw [hn, Bool.false_and] at h; cases h)]
           exact wpAny_pure hQ))
noncomputable def Itl (K : PySem.W.Frag) (a : Addr) : It :=
 ⟨fun i H => ∃ xs x, SqL K H a xs /\ xs[i]? = some x, fun i H x H' => H' = H /\ ∀ xs, SqL K H a xs -> xs[i]? = some x, fun i H => ∃ xs, SqL K H a xs /\ xs.length <= i⟩
theorem QK {P : Program} {w : World} {K : PySem.W.Frag} {tg : Expr} (a it : Addr) : Turn P w K tg (Itl K a) [it] it (fun i h => h.IsListIter it a i) where
 mem := by simp
 obj := fun i h st b hb => by
  have e : b = it := by simpa using hb
  subst e
  obtain ⟨o, e, c, d⟩ := st
  exact ⟨o, e, fun v z => by rw [d] at z; cases z⟩
 keep := fun i h h' st k => st.at fun o e => k it (by simp) o e
 item := by
  intro X hP hw hK hc i pins s σ H E I hf st hg
  subst hP hw hK
  obtain ⟨xs, x, hq, hx⟩ := hg
  obtain ⟨its, rv, p, hz⟩ := I.list hq
  obtain ⟨u, hu, ru⟩ := rv.get hx
  obtain ⟨f0, f1, f2, f3, f4, f5⟩ := hf it (by simp)
  refine wpAny_pyNext_list_item st p.isList (x := u) (by simpa using hu) fun h' st' sb => ?_
  have I1 : Inv X pins σ H { s with heap := h' } := I.turned (t' := s.toks) (fun b o hb e => (sb.2 b hb).trans e) f0 f1 f3 f4 f5
  obtain ⟨o, e, c, d⟩ := id st'
  exact ⟨u, rfl, YC (s := { s with heap := h' }) e c d (by decide) ⟨x, H, I1, ru, ⟨rfl, fun ys hy => by rw [I.VG hy hq]; exact hx⟩, st', fun b hb => (hf b hb).1⟩⟩
 done := by
  intro X hP hw hK hc i pins s σ H E I hf st hg
  subst hP hw hK
  obtain ⟨xs, hq, hx⟩ := hg
  obtain ⟨its, rv, p, hz⟩ := I.list hq
  obtain ⟨f0, f1, f2, f3, f4, f5⟩ := hf it (by simp)
  have hl := rv.length
  exact wpAny_pyNext_list_end (I.ok.hd hc) st p.isList (by simp; lia) fun h' eb => ⟨rfl, I.turned (t' := s.toks) (fun b o hb e => eb b o hb e) f0 f1 f3 f4 f5⟩
 self := fun _ _ _ _ _ st h => wpAny_pyIter_listiter st h
section
variable {X : Cx} {tg : Expr}
noncomputable def Yi (K : PySem.W.Frag) (tl : TE) : TI := fun σ H R => tl σ H fun x H1 => ∃ a, x = .ref a /\ (∃ xs, SqL K H1 a xs) /\ R (Itl K a) H1
theorem WS {l : Expr} {tl : TE} (hl : PE X l tl) : PI X tg l (Yi X.K tl) := by
 intro pins s σ H R I h
 refine thn (hl pins s σ H _ I h) fun v s1 ⟨x, H1, I1, r1, q1⟩ => ?_
 obtain ⟨a, e, ⟨xs, hq⟩, q⟩ := q1
 subst e
 cases r1
 obtain ⟨its, rv, p, hz⟩ := I1.list hq
 refine wpAny_pyIter_list p.isList ?_
 refine ⟨s1.heap.objs.size, [s1.heap.objs.size], _, _, H1, rfl, I1.kept (t' := s1.toks) fun b o e => Heap.get?_push_of_some _ e, QK a _, ⟨_, Heap.get?_push_size _ rfl, rfl, rfl⟩, fun b hb => ?_, q⟩
 have e : b = s1.heap.objs.size := by simpa using hb
 subst e
 exact I1.YN (Nat.le_refl _) (I1.hok.fresh (Nat.le_refl _))
noncomputable def YK (wi : TI) (g : TG) (tb : TS) : TS := fun D σ H => wi σ H fun J H1 => ∃ W : Nat -> Nat -> St -> Hp -> Prop, (∃ m, W 0 m σ H1) /\ ∀ i m σ H, W i m σ H ->
 (J.stop i H /\ D.nx σ H) \/ (J.go i H /\ ∃ N : St -> Hp -> Prop, (∀ σ' H', N σ' H' -> ∃ m', m' < m /\ W (i + 1) m' σ' H') /\ ∀ x H', J.yld i H x H' -> g x σ H' fun σ2 H2 => tb { D with nx := N, ct := N, bk := D.nx } σ2 H2)
noncomputable def uh (fp : List Addr) (h : Heap) : List (Addr × Obj) := fp.filterMap fun b => (h.get? b).map fun o => (b, o)
theorem xh {fp : List Addr} {h : Heap} {b : Addr} {o : Obj} (hb : b ∈ fp) (e : h.get? b = some o) : (b, o) ∈ uh fp h := List.mem_filterMap.mpr ⟨b, hb, by rw [e]; rfl⟩
theorem QC {fp : List Addr} {h : Heap} {p : Addr × Obj} (hp : p ∈ uh fp h) : p.1 ∈ fp /\ h.get? p.1 = some p.2 := by
 obtain ⟨b, hb, e⟩ := List.mem_filterMap.mp hp
 cases q : h.get? b with
 | none => rw [q] at e; cases e
 | some o =>
  rw [q] at e
  have e' : (b, o) = p := Option.some.inj e
  subst e'
  exact ⟨hb, q⟩
theorem Inv.pinned {pins : List (Addr × Obj)} {σ : St} {H : Hp} {s : Shared} {fp : List Addr} (I : Inv X pins σ H s) (hf : ∀ b ∈ fp, Qt X pins H b) (ho : ∀ b ∈ fp, ∃ o, s.heap.get? b = some o /\ ∀ v, o.data ≠ .cell v) : Inv X (pins ++ uh fp s.heap) σ H s :=
 I.Qd fun p hp => (List.mem_append.mp hp).elim (fun z => I.pin p (List.mem_append_right _ z)) fun z => by
  obtain ⟨hb, e⟩ := QC z
  obtain ⟨f0, f1, f2, _⟩ := hf p.1 hb
  obtain ⟨o, e', d⟩ := ho p.1 hb
  rw [e] at e'; cases e'
  exact ⟨e, f0, f1, f2, d⟩
theorem Inv.xk {pins pl : List (Addr × Obj)} {σ : St} {H : Hp} {s : Shared} (I : Inv X (pins ++ pl) σ H s) : Inv X pins σ H s := I.Qd fun p hp => I.pin p (List.mem_append_right _ (List.mem_append_left _ hp))
theorem Zu {iter : Expr} {body : List Stmt} {wi : TI} {g : TG} {tb : TS} {pos : Pos} (hp : PassesOwn (model X.prog X.w) X.A X.env X.xe) (hc : X.calm = true) (hi : PI X tg iter wi) (hg : PG X tg g) (hb : PSs X body tb)
  (hs : ∀ x, foldedSetIterable iter X.env x = pure x := by intro _; rfl) : PS X (.For tg iter body [] pos) (YK wi g tb) := by
 intro pins s σ H D I h
 refine wpAny_For (thn (hi pins s σ H _ I h) fun v s1 h1 => thn h1 fun itv s2 h2 => ?_) hs
 obtain ⟨it, fp, tn, J, H2, e, I2, T, st2, f2, W, ⟨m0, w0⟩, turn⟩ := h2
 subst e
 -- what stays true of the iterator's objects through the loop
 have stat : ∀ {H' : Hp}, (∀ b ∈ fp, H' b = none) -> ∀ b ∈ fp, Qt X pins H' b := fun hn b hb => ⟨hn b hb, (f2 b hb).2⟩
 refine codeAny_forLoop_any (fun n s' => ∃ i σ' H', Inv X pins σ' H' s' /\ tn i s'.heap /\ (∀ b ∈ fp, H' b = none) /\ W i n σ' H') ?_ m0 ⟨0, σ, H2, I2, st2, fun b hb => (f2 b hb).1, w0⟩
 rintro n s3 ⟨i, σ3, H3, I3, st3, fr3, w3⟩
 rcases turn i n σ3 H3 w3 with ⟨stop, qn⟩ | ⟨go, N, hN, step⟩
 ·refine wpAny_passesOwn hp (thn (T.done X rfl rfl rfl hc i pins s3 σ3 H3 X.xe I3 (stat fr3) st3 stop) fun r s4 ⟨hr, I4⟩ => ?_)
  subst hr
  exact wpAny_execs_nil ⟨σ3, H3, I4, qn⟩
 ·refine wpAny_passesOwn hp (thn (T.item X rfl rfl rfl hc i pins s3 σ3 H3 X.xe I3 (stat fr3) st3 go) fun r s4 ⟨u, hr, h4⟩ => ?_)
  subst hr
  refine wpAny_passesOwn hp (thn h4 fun _ s5 ⟨x, H5, I5, r5, y5, st5, fr5⟩ => ?_)
  have I5' := I5.pinned (stat fr5) (T.obj _ _ st5)
  refine wpAny_passesOwn hp (thn (hg _ s5 σ3 H5 x u _ I5' r5 (step x H5 y5)) fun _ s6 ⟨σ6, H6, I6, q6⟩ => ?_)
  refine wpAny_passesOwn hp (thn (hb _ s6 σ6 H6 _ I6 q6) fun f s7 q7 => ?_)
  have again : ∀ {σ7 : St} {H7 : Hp}, Inv X (pins ++ uh fp s5.heap) σ7 H7 s7 -> N σ7 H7 -> ∃ m, m < n /\ ∃ i σ' H', Inv X pins σ' H' s7 /\ tn i s7.heap /\ (∀ b ∈ fp, H' b = none) /\ W i m σ' H' := fun {σ7 H7} I7 n7 => by
   obtain ⟨m', hm, w7⟩ := hN σ7 H7 n7
   refine ⟨m', hm, i + 1, σ7, H7, I7.xk, T.keep _ _ _ st5 fun b hb o e => (I7.pin (b, o) (List.mem_append_right _ (List.mem_append_right _ (xh hb e)))).1, fun b hb => ?_, w7⟩
   obtain ⟨o, e, d⟩ := T.obj _ _ st5 b hb
   exact (I7.pin (b, o) (List.mem_append_right _ (List.mem_append_right _ (xh hb e)))).2.1
  cases f with
  | next => obtain ⟨σ7, H7, I7, n7⟩ := q7; exact again I7 n7
  | cont => obtain ⟨σ7, H7, I7, n7⟩ := q7; exact again I7 n7
  | brk => obtain ⟨σ7, H7, I7, q7⟩ := q7; exact ⟨σ7, H7, I7.xk, q7⟩
  | ret v => obtain ⟨x7, σ7, H7, I7, r7, q7⟩ := q7; exact ⟨x7, σ7, H7, I7.xk, r7, q7⟩
end
noncomputable abbrev R2 := V -> V -> Hp -> VK -> Prop
noncomputable def OpR (X : Cx) (f : Value -> Value -> Sem Value) (r : R2) : Prop :=
 ∀ (pins : List (Addr × Obj)) (s : Shared) (σ : St) (H : Hp) (x y : V) (v u : Value) (Q : VK), Inv X pins σ H s -> RelV x v -> RelV y u -> r x y H Q ->
  wpAny (model X.prog X.w) X.A (f v u) (EP X pins σ Q) X.xe s
noncomputable def UnR (X : Cx) (f : Value -> Sem Value) (r : V -> Hp -> VK -> Prop) : Prop :=
 ∀ (pins : List (Addr × Obj)) (s : Shared) (σ : St) (H : Hp) (x : V) (v : Value) (Q : VK), Inv X pins σ H s -> RelV x v -> r x H Q ->
  wpAny (model X.prog X.w) X.A (f v) (EP X pins σ Q) X.xe s
noncomputable def Qg (X : Cx) (f : Value) (r : List V -> Hp -> VK -> Prop) : Prop :=
 ∀ (pins : List (Addr × Obj)) (s : Shared) (σ : St) (H : Hp) (xs : List V) (us : List Value) (Q : VK), Inv X pins σ H s -> Vals xs us -> r xs H Q ->
  wpAny (model X.prog X.w) X.A (call f us) (EP X pins σ Q) X.xe s
noncomputable def tOp (r : R2) (ta tb : TE) : TE := fun σ H Q => ta σ H fun x H1 => tb σ H1 fun y H2 => r x y H2 Q
noncomputable def tUn (r : V -> Hp -> VK -> Prop) (ta : TE) : TE := fun σ H Q => ta σ H fun x H1 => r x H1 Q
noncomputable def rI (C : Int -> Int -> Prop) (g : Int -> Int -> V) : R2 := fun x y H Q => ∃ i j, x = .int i /\ y = .int j /\ C i j /\ Q (g i j) H
noncomputable def rI0 (g : Int -> Int -> V) : R2 := fun x y H Q => ∃ i j, x = .int i /\ y = .int j /\ Q (g i j) H
noncomputable def rU (g : Int -> V) : V -> Hp -> VK -> Prop := fun x H Q => ∃ i, x = .int i /\ Q (g i) H
section
variable {X : Cx} {a b c : Expr} {ta tb tc : TE} {pos : Pos}
theorem YD (ha : PE X a ta) (hb : PE X b tb) {pins : List (Addr × Obj)} {s : Shared} {σ : St} {H : Hp} {R : V -> V -> Hp -> Prop} (I : Inv X pins σ H s)
  (h : ta σ H fun x H1 => tb σ H1 fun y H2 => R x y H2) {Q : Value -> Shared -> Prop} {f : Value -> Value -> Sem Value}
  (hf : ∀ v u s2 x y H2, Inv X pins σ H2 s2 -> RelV x v -> RelV y u -> R x y H2 -> wpAny (model X.prog X.w) X.A (f v u) Q X.xe s2) :
  wpAny (model X.prog X.w) X.A (eval a X.env) (fun v s₁ => wpAny (model X.prog X.w) X.A (eval b X.env) (fun u s₂ => wpAny (model X.prog X.w) X.A (f v u) Q X.xe s₂) X.xe s₁) X.xe s := by
 refine thn (ha pins s σ H _ I h) fun v s1 ⟨x, H1, I1, r1, q1⟩ => ?_
 refine thn (hb pins s1 σ H1 _ I1 q1) fun u s2 ⟨y, H2, I2, r2, q2⟩ => ?_
 exact hf v u s2 x y H2 I2 r1 r2 q2
theorem Zi {op : Operator} {r : R2} (ho : OpR X (binaryOp op) r) (ha : PE X a ta) (hb : PE X b tb) : PE X (.BinOp a op b pos) (tOp r ta tb) := by
 intro pins s σ H Q I h
 exact wpAny_BinOp (YD ha hb I h fun v u s2 x y H2 I2 rx ry q => ho pins s2 σ H2 x y v u Q I2 rx ry q)
theorem W4 {op : UnaryOp} {r : V -> Hp -> VK -> Prop} (ho : UnR X (unaryOp op) r) (ha : PE X a ta) : PE X (.UnaryOp op a pos) (tUn r ta) := by
 intro pins s σ H Q I h
 exact UnaryOp_ (thn (ha pins s σ H _ I h) fun v s1 ⟨x, H1, I1, r1, q1⟩ => ho pins s1 σ H1 x v Q I1 r1 q1)
theorem opI {f : Value -> Value -> Sem Value} {C : Int -> Int -> Prop} {g : Int -> Int -> Int}
  (rule : ∀ (i j : Int) (t u : Tok) (s : Shared) (Q : Value -> Shared -> Prop) (E : Value -> Shared -> Prop), C i j -> Q (.int (g i j) s.toks) { s with toks := s.toks + 1 } -> wpAny (model X.prog X.w) X.A (f (.int i t) (.int j u)) Q E s) :
  OpR X f (rI C fun i j => .int (g i j)) := by
 intro pins s σ H x y v u Q I rx ry h
 obtain ⟨i, j, rfl, rfl, hc, q⟩ := h
 obtain ⟨t, rfl⟩ := rx
 obtain ⟨t', rfl⟩ := ry
 exact rule i j t t' s _ _ hc ⟨.int (g i j), H, I.tok _, ⟨_, rfl⟩, q⟩
theorem Wl {f : Value -> Value -> Sem Value} {g : Int -> Int -> Int}
  (rule : ∀ (i j : Int) (t u : Tok) (s : Shared) (Q : Value -> Shared -> Prop) (E : Value -> Shared -> Prop), Q (.int (g i j) s.toks) { s with toks := s.toks + 1 } -> wpAny (model X.prog X.w) X.A (f (.int i t) (.int j u)) Q E s) :
  OpR X f (rI0 fun i j => .int (g i j)) := by
 intro pins s σ H x y v u Q I rx ry h
 obtain ⟨i, j, rfl, rfl, q⟩ := h
 obtain ⟨t, rfl⟩ := rx
 obtain ⟨t', rfl⟩ := ry
 exact rule i j t t' s _ _ ⟨.int (g i j), H, I.tok _, ⟨_, rfl⟩, q⟩
theorem Wh {f : Value -> Value -> Sem Value} {g : Int -> Int -> Bool}
  (rule : ∀ (i j : Int) (t u : Tok) (s : Shared) (Q : Value -> Shared -> Prop) (E : Value -> Shared -> Prop), Q (.bool (g i j)) s -> wpAny (model X.prog X.w) X.A (f (.int i t) (.int j u)) Q E s) :
  OpR X f (rI0 fun i j => .bl (g i j)) := by
 intro pins s σ H x y v u Q I rx ry h
 obtain ⟨i, j, rfl, rfl, q⟩ := h
 obtain ⟨t, rfl⟩ := rx
 obtain ⟨t', rfl⟩ := ry
 exact rule i j t t' s _ _ ⟨.bl (g i j), H, I, rfl, q⟩
theorem ju (k : Nat) : (0 : Int) <= 2 ^ k := by
 rw [two_pow_cast]
 exact Int.natCast_nonneg _
theorem Zq : OpR X (binaryOp .Add) (rI0 fun i j => .int (i + j)) := Wl fun _ _ _ _ _ _ _ q => add_int q
theorem vu : OpR X (binaryOp .Sub) (rI0 fun i j => .int (i - j)) := Wl fun _ _ _ _ _ _ _ q => sub_int q
theorem jZ : OpR X (binaryOp .Mod) (rI (fun _ j => 0 < j) fun i j => .int (i % j)) := opI fun i j _ _ _ _ _ hc q => by
 have h1 : (0 : Int) < j := hc
 exact mod_int' (by lia) (by rw [Int.fmod_eq_emod_of_nonneg i (by lia)]; exact q)
theorem jW : OpR X (binaryOp .RShift) (rI (fun _ j => 0 <= j) fun i j => .int (i / 2 ^ j.toNat)) := opI fun i j _ _ _ _ _ hc q =>
 rshift_int hc (by rw [Int.fdiv_eq_ediv_of_nonneg i (ju _)]; exact q)
theorem jg : OpR X (binaryOp .BitAnd) (rI0 fun i j => .int (Builtin.bitAnd i j)) := Wl fun _ _ _ _ _ _ _ q => and_int q
theorem x5 : OpR X (binaryOp .BitXor) (rI0 fun i j => .int (Builtin.bitXor i j)) := Wl fun _ _ _ _ _ _ _ q => xor_int q
theorem unI {f : Value -> Sem Value} {g : Int -> Int}
  (rule : ∀ (i : Int) (t : Tok) (s : Shared) (Q : Value -> Shared -> Prop) (E : Value -> Shared -> Prop), Q (.int (g i) s.toks) { s with toks := s.toks + 1 } -> wpAny (model X.prog X.w) X.A (f (.int i t)) Q E s) :
  UnR X f (rU fun i => .int (g i)) := by
 intro pins s σ H x v Q I rx h
 obtain ⟨i, rfl, q⟩ := h
 obtain ⟨t, rfl⟩ := rx
 exact rule i t s _ _ ⟨.int (g i), H, I.tok _, ⟨_, rfl⟩, q⟩
theorem VA : UnR X (unaryOp .USub) (rU fun i => .int (-i)) := unI fun _ _ _ _ _ q => neg_int q
end
noncomputable def WO : V -> V -> Bool
 | .non, .non => true | .non, .int _ => true | .int _, .non => true | .non, .bl _ => true | .bl _, .non => true | .non, .str _ => true | .str _, .non => true
 | .int _, .int _ => true | .bl _, .bl _ => true | .str _, .str _ => true | .byt _, .byt _ => true
 | .int _, .str _ => true | .str _, .int _ => true | .bl _, .str _ => true | .str _, .bl _ => true
 | _, _ => false
noncomputable def rEq : R2 := fun x y H Q => WO x y = true /\ Q (.bl (decide (x = y))) H
theorem Qf {i j : Int} : decide (V.int i = V.int j) = (i == j) := by
 rw [Bool.eq_iff_iff]
 simp
theorem VW {i j : Bool} : decide (V.bl i = V.bl j) = (i == j) := by
 rw [Bool.eq_iff_iff]
 simp
theorem WJ {i j : Str} : decide (V.str i = V.str j) = (i == j) := by
 rw [Bool.eq_iff_iff]
 simp
theorem W0 {i j : Array UInt8} : decide (V.byt i = V.byt j) = (i.toList == j.toList) := by
 rw [Bool.eq_iff_iff]
 cases i
 cases j
 simp
section
variable {X : Cx} {a b c : Expr} {ta tb tc : TE} {pos : Pos}
theorem vE {pins : List (Addr × Obj)} {σ : St} {H : Hp} {s : Shared} {Q : VK} {k k' : Bool} (I : Inv X pins σ H s) (q : Q (.bl k) H) (e : k = k') : EP X pins σ Q (.bool k') s := by
 subst e
 exact ⟨.bl k, H, I, rfl, q⟩
theorem YH : OpR X (compareOp .Eq) rEq := by
 intro pins s σ H x y v u Q I rx ry h
 obtain ⟨hs, q⟩ := h
 cases x with
 | non =>
  cases rx
  cases y with
  | non => cases ry; exact PySem.EqNone.eq_none_none (vE I q (by simp))
  | bl j => cases ry; exact PySem.EqNone.eq_none_bool (vE I q (by simp))
  | int j => obtain ⟨t', rfl⟩ := ry; exact PySem.EqNone.eq_none_int (vE I q (by simp))
  | str j => obtain ⟨t', rfl⟩ := ry; exact PySem.EqNone.eq_none_str (vE I q (by simp))
  | _ => exact absurd (show false = true from hs) Bool.false_ne_true
 | bl i =>
  cases rx
  cases y with
  | non => cases ry; exact PySem.EqNone.eq_bool_none (vE I q (by simp))
  | bl j => cases ry; exact eq_bool (vE I q VW)
  | str j => obtain ⟨t', rfl⟩ := ry; exact PySem.EqMixed.eq_bool_str (vE I q (by simp))
  | _ => exact absurd (show false = true from hs) Bool.false_ne_true
 | int i =>
  obtain ⟨t, rfl⟩ := rx
  cases y with
  | non => cases ry; exact PySem.EqNone.eq_int_none (vE I q (by simp))
  | int j => obtain ⟨t', rfl⟩ := ry; exact eq_int (vE I q Qf)
  | str j => obtain ⟨t', rfl⟩ := ry; exact PySem.EqMixed.eq_int_str (vE I q (by simp))
  | _ => exact absurd (show false = true from hs) Bool.false_ne_true
 | str i =>
  obtain ⟨t, rfl⟩ := rx
  cases y with
  | non => cases ry; exact PySem.EqNone.eq_str_none (vE I q (by simp))
  | bl j => cases ry; exact PySem.EqMixed.eq_str_bool (vE I q (by simp))
  | int j => obtain ⟨t', rfl⟩ := ry; exact PySem.EqMixed.eq_str_int (vE I q (by simp))
  | str j => obtain ⟨t', rfl⟩ := ry; exact eq_str (vE I q WJ)
  | _ => exact absurd (show false = true from hs) Bool.false_ne_true
 | byt i =>
  obtain ⟨t, rfl⟩ := rx
  cases y with
  | byt j => obtain ⟨t', rfl⟩ := ry; exact PySem.W.eq_bytes (vE I q W0)
  | _ => exact absurd (show false = true from hs) Bool.false_ne_true
 | _ => cases y <;> exact absurd (show false = true from hs) Bool.false_ne_true
theorem Q8 : OpR X (compareOp .Lt) (rI0 fun i j => .bl (decide (i < j))) := Wh fun _ _ _ _ _ _ _ q => lt_int q
theorem Yy : OpR X (compareOp .LtE) (rI0 fun i j => .bl (decide (i <= j))) := Wh fun _ _ _ _ _ _ _ q => le_int q
theorem W7 : OpR X (compareOp .Gt) (rI0 fun i j => .bl (decide (j < i))) := Wh fun _ _ _ _ _ _ _ q => gt_int q
theorem Yt : OpR X (compareOp .GtE) (rI0 fun i j => .bl (decide (j <= i))) := Wh fun _ _ _ _ _ _ _ q => ge_int q
theorem OpR.or {f : Value -> Value -> Sem Value} {r r' : R2} (h : OpR X f r) (h' : OpR X f r') : OpR X f (fun x y H Q => r x y H Q \/ r' x y H Q) := by
 intro pins s σ H x y v u Q I rx ry q
 rcases q with q | q
 ·exact h pins s σ H x y v u Q I rx ry q
 ·exact h' pins s σ H x y v u Q I rx ry q
theorem q0 (b : Expr) {op : CmpOp} (h : op ≠ .In := by decide) (h2 : op ≠ .NotIn := by decide) : behindInMarks op b = false := by
 have e1 : (op == CmpOp.In) = false := by cases op <;> first | rfl | exact absurd rfl h
 have e2 : (op == CmpOp.NotIn) = false := by cases op <;> first | rfl | exact absurd rfl h2
 cases b <;> simp [behindInMarks, e1, e2]
theorem Wk {op : CmpOp} {r : R2} (ho : OpR X (compareOp op) r) (ha : PE X a ta) (hb : PE X b tb) (hm : behindInMarks op b = false) : PE X (.Compare a [op] [b] pos) (tOp r ta tb) := by
 intro pins s σ H Q I h
 exact wpAny_Compare1 (YD ha hb I h fun v u s2 x y H2 I2 rx ry q => ho pins s2 σ H2 x y v u Q I2 rx ry q) hm
noncomputable def YB (t : TE) : TT := fun σ H Q => t σ H fun x H' => ∃ k, x = .bl k /\ Q k H'
theorem WR {op : CmpOp} {r : R2} (ho : OpR X (compareOp op) r) (ha : PE X a ta) (hb : PE X b tb) (hm : behindInMarks op b = false) : PT X (.Compare a [op] [b] pos) (YB (tOp r ta tb)) := by
 intro pins s σ H Q I h
 refine wpAny_isTrue_Compare1 (thn (ha pins s σ H _ I h) fun v s1 ⟨x, H1, I1, r1, q1⟩ => thn (hb pins s1 σ H1 _ I1 q1) fun u s2 ⟨y, H2, I2, r2, q2⟩ =>
  thn (ho pins s2 σ H2 x y v u _ I2 r1 r2 q2) fun c s3 ⟨z, H3, I3, r3, k, e, q3⟩ => ?_) hm
 subst e
 cases r3
 exact wpAny_truthy_bool ⟨H3, I3, q3⟩
theorem vals1 {x : V} {us : List Value} (r : Vals [x] us) : ∃ u, us = [u] /\ RelV x u := by
 cases r with
 | cons r1 r2 => cases r2; exact ⟨_, rfl, r1⟩
theorem vals2 {x y : V} {us : List Value} (r : Vals [x, y] us) : ∃ u w', us = [u, w'] /\ RelV x u /\ RelV y w' := by
 cases r with
 | cons r1 r2 =>
  cases r2 with
  | cons r3 r4 => cases r4; exact ⟨_, _, rfl, r1, r3⟩
theorem Vn : Qg X (.builtin "abs") (fun xs H Q => ∃ i, xs = [.int i] /\ Q (.int (if i < 0 then -i else i)) H) := by
 intro pins s σ H xs us Q I r h
 obtain ⟨i, rfl, q⟩ := h
 obtain ⟨u, rfl, t, rfl⟩ := vals1 r
 exact call_abs_int fun u tk => ⟨.int (if i < 0 then -i else i), H, I.tok _, ⟨_, rfl⟩, q⟩
theorem xJ (hc : X.calm = true) : Qg X (.builtin "max") (fun xs H Q => ∃ i j, xs = [.int i, .int j] /\ Q (.int (if j > i then j else i)) H) := by
 intro pins s σ H xs us Q I r h
 obtain ⟨i, j, rfl, q⟩ := h
 obtain ⟨u, w', rfl, ⟨t, rfl⟩, ⟨t', rfl⟩⟩ := vals2 r
 refine max_two_ints (I.ok.hd hc) fun h' tk k => ⟨_, H, I.kept k, ?_, q⟩
 by_cases hj : j > i
 ·rw [if_pos hj, if_pos hj]; exact ⟨_, rfl⟩
 ·rw [if_neg hj, if_neg hj]; exact ⟨_, rfl⟩
theorem Qz (hc : X.calm = true) : Qg X (.builtin "min") (fun xs H Q => ∃ i j, xs = [.int i, .int j] /\ Q (.int (if j < i then j else i)) H) := by
 intro pins s σ H xs us Q I r h
 obtain ⟨i, j, rfl, q⟩ := h
 obtain ⟨u, w', rfl, ⟨t, rfl⟩, ⟨t', rfl⟩⟩ := vals2 r
 refine min_two_ints (I.ok.hd hc) fun h' tk k => ⟨_, H, I.kept k, ?_, q⟩
 by_cases hj : j < i
 ·rw [if_pos hj, if_pos hj]; exact ⟨_, rfl⟩
 ·rw [if_neg hj, if_neg hj]; exact ⟨_, rfl⟩
end
structure vW (k : Nat) (A : Around) : Prop where
 hd : A.handled = none
 dp : A.depth + 3 * k + 5 < recursionLimit
 un : A.units + 16 * k + 200 < cLine
theorem vW.mono {j k : Nat} {A : Around} (r : vW k A) (h : j <= k) : vW j A := ⟨r.hd, by have := r.dp; lia, by have := r.un; lia⟩
theorem vW.deeper {k : Nat} {A : Around} (r : vW (k + 1) A) (env : Env) : vW k (A.deeper env) :=
 ⟨r.hd, by have := r.dp; show A.depth + 1 + 3 * k + 5 < _; lia, by have := r.un; show A.units + 3 + 16 * k + 200 < _; lia⟩
theorem vW.depth {k : Nat} {A : Around} (r : vW k A) : A.depth < recursionLimit := by have := r.dp; lia
theorem vW.units {k : Nat} {A : Around} (r : vW k A) : A.units + 64 < cLine := by have := r.un; lia
noncomputable def YF : TA := fun _ H Q => Q [] H
noncomputable def W5 (ta : TE) (tr : TA) : TA := fun σ H Q => ta σ H fun x H1 => tr σ H1 fun xs H2 => Q (x :: xs) H2
section
variable {X : Cx} {e : Expr} {es : List Expr} {te : TE} {t : TA} {pos : Pos}
theorem jQ : PA X [] YF := fun _ _ _ _ H Q I h => Calls.spliced_nil ⟨[], H, I, .nil, h⟩
theorem uy (ha : PE X e te) (hr : PA X es t) (hs : starEach (e :: es) X.env = (false, eval e X.env) :: starEach es X.env := by rfl) : PA X (e :: es) (W5 te t) := by
 intro pos pins s σ H Q I h
 rw [hs]
 show wpAny _ _ (spliced ((false, eval e X.env) :: backTo pos (starEach es X.env))) _ _ s
 refine Calls.spliced_cons (thn (ha pins s σ H _ I h) fun u s1 ⟨x, H1, I1, r1, q1⟩ => ?_)
 exact thn (hr pos pins s1 σ H1 _ I1 q1) fun us s2 ⟨xs, H2, I2, r2, q2⟩ => ⟨x :: xs, H2, I2, .cons r1 r2, q2⟩
noncomputable def Yn (t : TA) : TE := fun σ H Q => t σ H fun xs H1 => xs.length <= sizeLine /\ ∀ p, H1 p = none -> Q (.ref p) (upd H1 p (.lst xs))
theorem js (h : PA X es t) : PE X (.List es pos) (Yn t) := by
 intro pins s σ H Q I hq
 refine wpAny_List_spliced (thn (h pos pins s σ H _ I hq) fun us s1 ⟨xs, H1, I1, r, z, q⟩ => ⟨by rw [<- r.length]; exact z, ?_⟩)
 have hf : H1 s1.heap.objs.size = none := I1.hok.fresh (Nat.le_refl _)
 refine ⟨.ref s1.heap.objs.size, upd H1 s1.heap.objs.size (.lst xs), I1.laid (t' := s1.toks) (fun b u e => Heap.get?_push_of_some _ e) (Nat.le_refl _) ?_, rfl, q _ hf⟩
 exact ⟨z, us, 0, r, Heap.get?_push_size _ rfl⟩
end
noncomputable abbrev Sp := List V -> Hp -> VK -> XK -> Prop
noncomputable abbrev CXT := List Env -> Hp -> Shared -> XK -> Value -> Shared -> Prop
structure jl (P : Program) (w : World) (K : PySem.W.Frag) (mg : Str -> Option Value) (base : Heap) (A : Around) (outer : List Env) (s : Shared) (H : Hp) : Prop where
 frames : A.frames = some outer
 mod : Mod K mg base
 bs : ∀ b o, base.get? b = some o -> s.heap.get? b = some o /\ H b = none
 bsz : base.objs.size <= s.heap.objs.size
 zU : s.heap.FunFrames base outer
 frf : ∀ b ∈ frs outer, H b = none
 hok : HOk P w H s.heap
 bare : AllBare s.gens
noncomputable def CE (outer : List Env) (P : Program) (w : World) (H : Hp) (s : Shared) (Q : VK) (u : Value) (s' : Shared) : Prop :=
 ∃ v H', s'.os = s.os /\ AllBare s'.gens /\ Un (frs outer) [] H H' s.heap s'.heap /\ HOk P w H' s'.heap /\ RelV v u /\ Q v H'
noncomputable def CR (CX : CXT) (outer : List Env) (P : Program) (w : World) (H : Hp) (s : Shared) (Q : VK) (E : XK) (r : Result) (s' : Shared) : Prop :=
 match r with
 | .ok (.ret u) => CE outer P w H s Q u s'
 | .ok _ => False
 | .error e => CX outer H s E e s'
structure uD (P : Program) (w : World) (K : PySem.W.Frag) (mg : Str -> Option Value) (base : Heap) (CX : CXT) (k : Nat) (f : Addr) (fd : FuncData) (ps : List Str) (sp : Sp) : Prop where
 len : ∀ vs H Q E, sp vs H Q E -> vs.length = ps.length
 run : ∀ (A : Around) (outer : List Env) (s : Shared) (H : Hp) (args : Args) (us : List Value) (vs : List V) (Q : VK) (E : XK), vW k A -> jl P w K mg base A outer s H -> BindsTo s fd args (ps.zip us) -> Vals vs us -> sp vs H Q E ->
  codeAny (model P w) A (.call (.ref f) args) (CR CX outer P w H s Q E) s
section
variable {X : Cx} {pins : List (Addr × Obj)} {σ : St} {H : Hp} {s s' : Shared}
theorem Inv.ZI (I : Inv X pins σ H s) : jl X.prog X.w X.K X.mg X.base X.A X.stack s H :=
 ⟨I.ok.frames, I.ok.mod, I.bs, Nat.le_trans I.ok.bsz I.sz, I.stack, I.Qk, I.hok, I.bare⟩
theorem Inv.after {Q : VK} {u : Value} (I : Inv X pins σ H s) (h : CE X.stack X.prog X.w H s Q u s') : EP X pins σ Q u s' := by
 obtain ⟨v, H', os, bare, un, hok, r, q⟩ := h
 obtain ⟨hh, g, d, t, os'⟩ := s'
 obtain rfl : os' = s.os := os
 exact ⟨v, H', I.call (h' := hh) (g' := g) (d' := d) (t' := t) (ch := []) un hok bare (fun b z => absurd z (by simp)), r, q⟩
end
noncomputable def W6 (sp : Sp) (dvs : List V) (E : XK) (t : TA) : TE := fun σ H Q => t σ H fun vs H1 => sp (vs ++ dvs) H1 Q E
noncomputable def Binds (K : PySem.W.Frag) (fd : FuncData) (ps : List Str) (ds : List Value) : Prop :=
 ∀ (s : Shared) (us : List Value), K.In s.heap -> (us ++ ds).length = ps.length -> BindsTo s fd ⟨us, []⟩ (ps.zip (us ++ ds))
theorem Binds.all {K : PySem.W.Frag} {fd : FuncData} {ps : List Str} (h : ∀ us : List Value, us.length = ps.length -> bindArgs fd ⟨us, []⟩ = pure (ps.zip us)) : Binds K fd ps [] := fun s us _ hl => by
 rw [List.append_nil] at hl ⊢
 exact .of_eq (h us hl)
noncomputable def Passes (CX : CXT) (X : Cx) (E : XK) : Prop := ∀ (pins : List (Addr × Obj)) (σ : St) (H : Hp) (s : Shared) (e : Value) (s' : Shared), Inv X pins σ H s -> CX X.stack H s E e s' -> X.xe e s'
section
variable {X : Cx} {CX : CXT} {k : Nat} {f C : Addr} {fd : FuncData} {ps : List Str} {sp : Sp} {dvs : List V} {ds : List Value} {E : XK} {x m : Str} {p pos apos : Pos} {e o : Expr} {es : List Expr} {ta : TE} {t : TA}
theorem Z7 {pins : List (Addr × Obj)} {σ : St} {H : Hp} {s : Shared} {Q : VK} {us : List Value} {vs : List V} (F : uD X.prog X.w X.K X.mg X.base CX k f fd ps sp) (hr : vW k X.A) (hb : Binds X.K fd ps ds) (hd : Vals dvs ds) (hx : Passes CX X E)
  (I : Inv X pins σ H s) (r : Vals vs us) (h : sp (vs ++ dvs) H Q E) : wpAny (model X.prog X.w) X.A (call (.ref f) us) (EP X pins σ Q) X.xe s := by
 have r2 : Vals (vs ++ dvs) (us ++ ds) := r.append hd
 have hl : (us ++ ds).length = ps.length := by rw [<- r2.length]; exact F.len _ _ _ _ h
 refine wpAny_call (codeAny_mono (F.run X.A X.stack s H ⟨us, []⟩ (us ++ ds) (vs ++ dvs) Q E hr I.ZI (hb s us I.kIn hl) r2 h) fun r s' hq => ?_)
 cases r with
 | error e => exact hx pins σ H s e s' I hq
 | ok fl =>
  cases fl with
  | ret u => exact I.after hq
  | next => exact False.elim hq
  | brk => exact False.elim hq
  | cont => exact False.elim hq
theorem W3 (F : uD X.prog X.w X.K X.mg X.base CX k f fd ps sp) (hr : vW k X.A) (hg : Gl X x) (hm : X.mg x = some (.ref f)) (hk : PySem.W.keepIn X.K (.ref f) = true) (hb : Binds X.K fd ps ds) (hd : Vals dvs ds) (hx : Passes CX X E)
  (ha : PA X (e :: es) t) (hdb : (x == ("__debug__" : Str)) = false := by decide) (he : starEach (e :: es) X.env = (false, eval e X.env) :: starEach es X.env := by rfl) (hpl : (backTo pos (starEach es X.env)).any (·.1) = false := by rfl) :
  PE X (.Call (.Name x p) (e :: es) [] pos) (W6 sp dvs E t) := by
 intro pins s σ H Q I h
 refine wpAny_Call_Name_kw (z0 I hg hm ?_ hdb)
 refine PySem.W.callWith_K (h₀ := X.base) I.ok.mod.kin hk (thn (ha pos pins s σ H _ I h) fun us s1 ⟨vs, H1, I1, r, q⟩ => ⟨I1.kIn, ?_⟩) he hpl
 exact Z7 F hr hb hd hx I1 r q
end
structure qB (N P : List Str) (sc : Scope) : Prop where
 kind : sc.kind = .function
 co : sc.isCoroutine = false
 gen : sc.isGenerator = false
 nd : N.Nodup
 pre : N.take P.length = P
 par : ∀ x ∈ P, sc.names.lookup x = some .local \/ sc.names.lookup x = some .cell
 nofree : ∀ y ∈ sc.names, y.2 ≠ .free
theorem xA {kindOf : Str -> Option NameKind} {x : Str} : ∀ {binds : List (Str × Value)} {m : Str -> Option Value}, (∀ v, (x, v) ∉ binds) -> bindL kindOf binds m x = m x
 | [], _, _ => rfl
 | (n, v) :: r, m, h => by
  unfold bindL
  rw [xA fun w hw => h w (List.mem_cons_of_mem _ hw)]
  split
  ·have : x ≠ n := by rintro rfl; exact h v List.mem_cons_self
   simp [this]
  ·rfl
theorem xH {kindOf : Str -> Option NameKind} {x : Str} : ∀ {binds : List (Str × Value)} {m : Str -> Option Value}, (∀ v, (x, v) ∉ binds) -> bindC kindOf binds m x = m x
 | [], _, _ => rfl
 | (n, v) :: r, m, h => by
  unfold bindC
  rw [xH fun w hw => h w (List.mem_cons_of_mem _ hw)]
  split
  ·rfl
  ·have : x ≠ n := by rintro rfl; exact h v List.mem_cons_self
   simp [this]
theorem xE {kindOf : Str -> Option NameKind} {x : Str} {v : Value} : ∀ {P : List Str} {vs : List Value} {i : Nat} {m : Str -> Option Value}, P.Nodup -> P[i]? = some x -> vs[i]? = some v -> kindOf x = some .local ->
  bindL kindOf (P.zip vs) m x = some v
 | [], _, _, _, _, h, _, _ => by simp at h
 | _ :: _, [], _, _, _, _, h, _ => by simp at h
 | p :: P, w :: vs, 0, m, nd, h1, h2, hk => by
  simp at h1 h2; subst h1; subst h2
  show bindL kindOf ((p, w) :: P.zip vs) m p = _
  unfold bindL
  rw [xA fun v hv => (List.nodup_cons.mp nd).1 (List.of_mem_zip hv).1, if_pos hk]
  simp
 | p :: P, w :: vs, i + 1, m, nd, h1, h2, hk => by
  show bindL kindOf ((p, w) :: P.zip vs) m x = _
  unfold bindL
  exact xE (i := i) (List.nodup_cons.mp nd).2 (by simpa using h1) (by simpa using h2) hk
theorem xG {kindOf : Str -> Option NameKind} {x : Str} {v : Value} : ∀ {P : List Str} {vs : List Value} {i : Nat} {m : Str -> Option Value}, P.Nodup -> P[i]? = some x -> vs[i]? = some v -> kindOf x ≠ some .local ->
  bindC kindOf (P.zip vs) m x = some v
 | [], _, _, _, _, h, _, _ => by simp at h
 | _ :: _, [], _, _, _, _, h, _ => by simp at h
 | p :: P, w :: vs, 0, m, nd, h1, h2, hk => by
  simp at h1 h2; subst h1; subst h2
  show bindC kindOf ((p, w) :: P.zip vs) m p = _
  unfold bindC
  rw [xH fun v hv => (List.nodup_cons.mp nd).1 (List.of_mem_zip hv).1, if_neg hk]
  simp
 | p :: P, w :: vs, i + 1, m, nd, h1, h2, hk => by
  show bindC kindOf ((p, w) :: P.zip vs) m x = _
  unfold bindC
  exact xG (i := i) (List.nodup_cons.mp nd).2 (by simpa using h1) (by simpa using h2) hk
noncomputable def start (N : List Str) (vs : List V) : St := vs.map some ++ List.replicate (N.length - vs.length) none
noncomputable def w9 (CX : CXT) (P : Program) (w : World) (K : PySem.W.Frag) (mg : Str -> Option Value) (base : Heap) (N : List Str) (qual : Str) (scope : Scope) (f : Addr) (cd : Value) (A : Around) (outer : List Env) (s : Shared) (H : Hp) (E : XK) : Cx where
 prog := P
 w := w
 K := K
 mg := mg
 base := base
 A := A.deeper (envOfC qual scope s.heap.objs.size f cd)
 N := N
 s_0 := s
 H_0 := H
 env := envOfC qual scope s.heap.objs.size f cd
 outer := outer
 stack := envOfC qual scope s.heap.objs.size f cd :: outer
 ex := []
 calm := true
 fn := fun _ => true
 pn := []
 xe := fun e s' => wpAny (model P w) (A.deeper (envOfC qual scope s.heap.objs.size f cd)) (leaving (envOfC qual scope s.heap.objs.size f cd) e) (fun _ s'' => CX outer H s E e s'') (fun e' s'' => CX outer H s E e' s'') s'
theorem u6 {sc : Scope} {n : Nat} {x : Str} (h : sc.names.lookup x = some .cell) : ∃ c, (cellsFrom n sc.names []).lookup x = some c := by
 have q := PySem.W.cellsFrom_some sc.names n [] (.inl h)
 exact Option.isSome_iff_exists.mp q
theorem xB {CX : CXT} {P : Program} {w : World} {K : PySem.W.Frag} {mg : Str -> Option Value} {base : Heap} {N ps : List Str} {qual : Str} {scope : Scope} {f : Addr} {cd : Value} {A : Around} {outer : List Env} {s s1 : Shared} {H : Hp} {E : XK} {us : List Value} {vs : List V}
  (S : qB N ps scope) (hd : A.handled = none) (e0 : jl P w K mg base A outer s H) (hl : vs.length = ps.length) (r : Vals vs us)
  (x : InCallC s s.heap.objs.size (bindL (envOfC qual scope s.heap.objs.size f cd).kindOf (ps.zip us) fun _ => none) (cellsFrom (s.heap.objs.size + 1) scope.names []) (bindC (envOfC qual scope s.heap.objs.size f cd).kindOf (ps.zip us) fun _ => none) s1) :
  Inv (w9 CX P w K mg base N qual scope f cd A outer s H E) [] (start N vs) H s1 := by
 have hpl : ps.length <= N.length := by have := congrArg List.length S.pre; rw [List.length_take] at this; lia
 obtain ⟨h1, tk, rfl, hk⟩ := x.done
 have noA : ∀ b : Addr, b ∉ (w9 CX P w K mg base N qual scope f cd A outer s H E).ex := fun b z => absurd (show b ∈ ([] : List Addr) from z) (by simp)
 refine ⟨⟨e0.mod, S.kind, rfl, rfl, Nat.le_refl _, fun y z c h1 h2 => ?_, fun y hy => ?_, fun y c _ h => ?_, fun _ => hd, Around.frames_deeper e0.frames, .inr ⟨rfl, rfl⟩, fun b z => absurd z (noA b), e0.bs, e0.bsz, fun b _ _ => noA b, fun b z => absurd z (noA b), e0.zU, e0.frf⟩,
  rfl, e0.bare, Un.kept hk, ⟨_, x.toInCall.ns, fun i y v h1 h2 h3 => ?_⟩, fun y c h => ⟨_, x.cell y c h⟩, e0.hok.fresh (Nat.le_refl _), fun y c h => ?_, fun p hp => absurd (show p ∈ ([] : List (Addr × Obj)) from hp) (by simp), e0.hok.kept hk, ?_⟩
 ·exact name_of_addr x.apart (PySem.mem_of_lookup h1) (PySem.mem_of_lookup h2)
 ·have hy : scope.names.lookup y = some .cell \/ scope.names.lookup y = some .free := hy
  rcases hy with hy | hy
  ·exact u6 hy
  ·exact absurd rfl (S.nofree _ (PySem.mem_of_lookup hy))
 ·exact Nat.le_of_lt (x.above y c (PySem.mem_of_lookup h))
 ·have hi : i < vs.length := by
   unfold start at h2
   by_cases hi : i < vs.length
   ·exact hi
   ·rw [List.getElem?_append_right (by simpa using hi)] at h2
    rw [List.getElem?_replicate] at h2
    split at h2 <;> cases h2
  have ha : vs[i]? = some v := by
   unfold start at h2
   rw [List.getElem?_append_left (by simpa using hi), List.getElem?_map] at h2
   cases e : vs[i]? with
   | none => rw [e] at h2; cases h2
   | some a => rw [e] at h2; cases h2; rfl
  obtain ⟨u, hu, rv⟩ := r.get ha
  have hp : ps[i]? = some y := by
   rw [<- S.pre, List.getElem?_take_of_lt (by lia)]; exact h1
  have ndP : ps.Nodup := by rw [<- S.pre]; exact S.nd.sublist (List.take_sublist _ _)
  refine ⟨u, rv, ?_⟩
  rcases S.par y (List.mem_of_getElem? hp) with k | k
  ·exact .inl ⟨k, xE ndP hp hu k⟩
  ·obtain ⟨c, e⟩ := u6 (n := s.heap.objs.size + 1) k
   refine .inr ⟨.inl k, c, e, ?_⟩
   have q := x.cell y c e
   rw [xG ndP hp hu (by show scope.names.lookup y ≠ _; rw [k]; decide)] at q
   exact q
 ·exact e0.hok.fresh (Nat.le_of_lt (x.above y c (PySem.mem_of_lookup h)))
 ·unfold start
  show _ = N.length
  rw [List.length_append, List.length_map, List.length_replicate]
  lia
theorem Vr {CX : CXT} {P : Program} {w : World} {K : PySem.W.Frag} {mg : Str -> Option Value} {base : Heap} {k : Nat} {f : Addr} {name qual : Str} {params : Arguments} {body : List Stmt} {scope : Scope} {dV kV doc pm cdv ct oc : Value} {an od : Option Addr}
  {osl : Array (Option Value)} {N ps : List Str} {sp : Sp} (lk : K.lookup f = some ⟨oc, od, .func (PySem.W.fnOf name qual params body scope dV kV doc pm an cdv ct), osl⟩) (hcd : PySem.W.codeIn K cdv qual = true) (S : qB N ps scope)
  (len : ∀ vs H Q E, sp vs H Q E -> vs.length = ps.length)
  (hbody : ∀ (A : Around) (outer : List Env) (s : Shared) (H : Hp) (vs : List V) (Q : VK) (E : XK), vW k (A.deeper (envOfC qual scope s.heap.objs.size f cdv)) -> sp vs H Q E ->
   ∃ t, PSs (w9 CX P w K mg base N qual scope f cdv A outer s H E) body t /\ t { nx := fun _ H' => Q .non H', rt := Q } (start N vs) H) :
  uD P w K mg base CX (k + 1) f (PySem.W.fnOf name qual params body scope dV kV doc pm an cdv ct) ps sp := by
 refine ⟨len, fun A outer s H args us vs Q E hr e0 hb r hsp => ?_⟩
 have hl := len _ _ _ _ hsp
 have KX : K.In s.heap := e0.mod.kin.keeps fun b o e => (e0.bs b o e).1
 have lim : s.heap.NoLimit := e0.mod.nolimit.keeps fun b o e => (e0.bs b o e).1
 have hkind : ∀ y ∈ ps.zip us, scope.names.lookup y.1 = some .local \/ (scope.names.lookup y.1 = some .cell /\ ((cellsFrom (s.heap.objs.size + 1) scope.names []).lookup y.1).isSome = true) := fun ⟨n, v⟩ hy => by
  rcases S.par n (List.of_mem_zip hy).1 with q | q
  ·exact .inl q
  ·exact .inr ⟨q, PySem.W.cellsFrom_some _ _ _ (.inl q)⟩
 refine codeAny_call_function hr.depth (KX _ _ lk) rfl S.co S.gen rfl (PySem.W.codeRec_of KX hcd) (hb _ _ _ _ ?_)
 refine wpAny_newFunctionEnv_cells S.kind hkind fun env he s1 x => ?_
 subst he
 refine ⟨lim.keeps x.toInCall.keep, codeAny_func ?_⟩
 obtain ⟨t, ht, hq⟩ := hbody A outer s H vs Q E (hr.deeper _) hsp
 have I : Inv (w9 CX P w K mg base N qual scope f cdv A outer s H E) [] (start N vs) H s1 := xB S hr.hd e0 hl r x
 refine wpAny_mono (ht [] s1 (start N vs) H _ I hq) (fun fl s' hs => ?_) fun e s' hs => hs
 have fin : ∀ {σ' : St} {H' : Hp} {v : V} {u : Value}, Inv (w9 CX P w K mg base N qual scope f cdv A outer s H E) [] σ' H' s' -> RelV v u -> Q v H' -> CE outer P w H s Q u s' :=
  fun {σ' H' v u} J rv q => ⟨v, H', J.os, J.bare, J.base, J.hok, rv, q⟩
 cases fl with
 | ret u =>
  obtain ⟨v, σ', H', J, rv, q⟩ := hs
  exact fin J rv q
 | next =>
  obtain ⟨σ', H', J, q⟩ := hs
  exact fin (v := V.non) (u := Value.none) J rfl q
 | brk =>
  obtain ⟨_, _, _, q⟩ := hs
  exact False.elim q
 | cont =>
  obtain ⟨_, _, _, q⟩ := hs
  exact False.elim q
section
variable {X : Cx} {x : Str} {p pos : Pos} {e : Expr} {es : List Expr} {t : TA} {id T : String} {r : List V -> Hp -> VK -> Prop}
noncomputable def tCB (r : List V -> Hp -> VK -> Prop) (t : TA) : TE := fun σ H Q => t σ H fun vs H1 => r vs H1 Q
theorem zY (hc : Qg X (.builtin id) r) (hg : Gl X x) (hm : X.mg x = none) (hv : bootBuiltins x = some (.builtin id)) (ha : PA X (e :: es) t) (hn : x ≠ "__name__" := by decide) (hdb : (x == ("__debug__" : Str)) = false := by decide)
  (he : starEach (e :: es) X.env = (false, eval e X.env) :: starEach es X.env := by rfl) (hpl : (backTo pos (starEach es X.env)).any (·.1) = false := by rfl) : PE X (.Call (.Name x p) (e :: es) [] pos) (tCB r t) := by
 intro pins s σ H Q I h
 refine wpAny_Call_Name_kw (Zk I hg hm hv ?_ hn hdb)
 exact PyProof.Rows.callWith_builtin1 (thn (ha pos pins s σ H _ I h) fun us s1 ⟨vs, H1, I1, r1, q1⟩ => hc pins s1 σ H1 vs us Q I1 r1 q1) he hpl
end
noncomputable def MtR (X : Cx) (id : String) (r : V -> List V -> Hp -> VK -> Prop) : Prop :=
 ∀ (pins : List (Addr × Obj)) (s : Shared) (σ : St) (H : Hp) (x : V) (xs : List V) (v : Value) (us : List Value) (Q : VK), Inv X pins σ H s -> RelV x v -> Vals xs us -> r x xs H Q ->
  wpAny (model X.prog X.w) X.A (call (.builtin id) (v :: us)) (EP X pins σ Q) X.xe s
section
variable {X : Cx} {a b : Expr} {ta tb : TE} {pos : Pos}
noncomputable def tyV (K : PySem.W.Frag) (T : String) (x : V) (H : Hp) : Prop := match x with
 | .str _ => T = "str"
 | .int _ => T = "int"
 | .ref p => (T = "list" /\ ∃ xs, SqL K H p xs) \/ (T = "tuple" /\ ∃ o, K.lookup p = some o /\ o.cls = .type "tuple" /\ o.dict = none) \/
   (T = "dict" /\ ((∃ kvs, H p = some (.dK kvs)) \/ ∃ kvs, H p = some (.dT kvs))) \/ (T = "set" /\ ∃ S n, H p = some (.set S n))
 | _ => False
theorem ZX {pins : List (Addr × Obj)} {σ : St} {H : Hp} {s : Shared} {T : String} {x : V} {v : Value} (I : Inv X pins σ H s) (r : RelV x v) (ty : tyV X.K T x H) :
  s.TypeIs v T /\ ∀ a, v = .ref a -> ∃ ob, s.heap.get? a = some ob /\ ob.dict = none := by
 cases x with
 | str z =>
  obtain ⟨t, rfl⟩ := r
  cases (show T = "str" from ty)
  exact ⟨typeIs_str s z t, fun _ e => nomatch e⟩
 | int i =>
  obtain ⟨t, rfl⟩ := r
  cases (show T = "int" from ty)
  exact ⟨typeIs_int s i t, fun _ e => nomatch e⟩
 | ref p =>
  cases r
  rcases ty with ⟨rfl, xs, hq⟩ | ⟨rfl, o, hk, hc, hd⟩ | ⟨rfl, hk⟩ | ⟨rfl, S, n, hk⟩
  ·obtain ⟨its, _, pl, _⟩ := I.list hq
   refine ⟨pl.isList.typeIs, fun a e => ?_⟩
   cases e
   obtain ⟨o, n, e, c, hd, _⟩ := pl
   exact ⟨o, e, hd⟩
  ·refine ⟨⟨o, I.kIn p o hk, hc⟩, fun a e => ?_⟩
   cases e
   exact ⟨o, I.kIn _ o hk, hd⟩
  ·have z : ∃ o, s.heap.get? p = some o /\ o.ExactDict := by
    rcases hk with ⟨kvs, hk⟩ | ⟨kvs, hk⟩
    ·obtain ⟨_, _, _, _, o, _, _, e, ex, _⟩ := I.hok p _ hk
     exact ⟨o, e, ex⟩
    ·obtain ⟨_, _, _, _, o, _, _, e, ex, _⟩ := I.hok p _ hk
     exact ⟨o, e, ex⟩
   obtain ⟨o, e, ex⟩ := z
   refine ⟨⟨o, e, ex.1⟩, fun a e2 => ?_⟩
   cases e2
   exact ⟨o, e, ex.2.1⟩
  ·obtain ⟨o, _, _, _, e, ex, _⟩ := I.hok p _ hk
   refine ⟨⟨o, e, ex.1⟩, fun a e2 => ?_⟩
   cases e2
   exact ⟨o, e, ex.2.1⟩
 | _ => exact False.elim ty
noncomputable def Yq (K : PySem.W.Frag) (T : String) (r : V -> List V -> Hp -> VK -> Prop) (to : TE) : TE := fun σ H Q => to σ H fun x H1 => tyV K T x H1 /\ r x [] H1 Q
variable {o e : Expr} {es : List Expr} {to : TE} {t : TA} {name : Str} {apos cpos : Pos} {T id : String} {r : V -> List V -> Hp -> VK -> Prop}
theorem Vi (pa : PlainAttrs T) (slot : Slot T name id) (hty : typeOf (.builtin id) = pure (.type "method_descriptor")) (hm : MtR X id r) (ho : PE X o to)
  (hbase : attributeBase o name X.env (eval o X.env) = eval o X.env := by rfl) (hline : (apos.endLine == cpos.line) = true := by rfl) : PE X (.Call (.Attribute o name apos) [] [] cpos) (Yq X.K T r to) := by
 intro pins s σ H Q I h
 refine wpAny_Call_method0_late hbase hline (thn (ho pins s σ H _ I h) fun v s1 ⟨x, H1, I1, r1, ty, q1⟩ => ?_)
 obtain ⟨h1, h2⟩ := ZX I1 r1 ty
 exact ⟨T, id, pa, slot, hty, h1, h2, Calls.callWith_builtin rfl (PySem.evalArgs_none (hm pins s1 σ H1 x [] v [] Q I1 r1 .nil q1))⟩
end
noncomputable def MtM (X : Cx) (id : String) (r : V -> List V -> Hp -> VK -> Prop) : Prop :=
 ∀ (pins : List (Addr × Obj)) (s : Shared) (σ : St) (H : Hp) (x : V) (xs : List V) (v : Value) (us : List Value) (Q : VK), Inv X pins σ H s -> RelV x v -> Vals xs us -> r x xs H Q ->
  wpAny (model X.prog X.w) X.A (call (.builtin id) (v :: us)) (EP X pins σ Q) X.xe s
theorem Vals.one : ∀ {x : V} {us : List Value}, Vals [x] us -> ∃ u, us = [u] /\ RelV x u
 | _, _, .cons r .nil => ⟨_, rfl, r⟩
theorem Vals.rep {xs : List V} {us : List Value} (h : Vals xs us) : ∀ k : Nat, Vals (List.replicate k xs).flatten (List.replicate k us).flatten
 | 0 => .nil
 | k + 1 => by
  rw [List.replicate_succ, List.replicate_succ, List.flatten_cons, List.flatten_cons]
  exact Vals.append h (Vals.rep h k)
theorem foldl_rep (its : List Value) : ∀ (k : Nat) (acc : List Value),
  List.foldl (fun x1 x2 => x1 ++ x2) acc.toArray (List.replicate k its.toArray) = (acc ++ (List.replicate k its).flatten).toArray
 | 0, acc => by simp
 | k + 1, acc => by
  have e : acc.toArray ++ its.toArray = (acc ++ its).toArray := by simp
  have e2 : (acc ++ its) ++ (List.replicate k its).flatten = acc ++ (List.replicate (k + 1) its).flatten := by
   rw [List.replicate_succ, List.flatten_cons, List.append_assoc]
  rw [<- e2, <- foldl_rep its k (acc ++ its), <- e, List.replicate_succ, List.foldl_cons]
section
variable {X : Cx} {pins : List (Addr × Obj)} {σ : St} {H : Hp} {s : Shared} {l b : Addr} {xs ys zs : List V}
theorem Inv.Y2 {its its' : List Value} {n : Nat} {f : Array Value -> Array Value} {t' : Nat} (I : Inv X pins σ H s) (hH : H l = some (.lst xs))
  (e : s.heap.get? l = some { cls := .type "list", data := .seq its.toArray n }) (hf : f its.toArray = its'.toArray) (hv : Vals ys its') (hz : ys.length <= sizeLine) :
  Inv X pins σ (upd H l (.lst ys)) { s with heap := s.heap.update l (Obj.mapSeq f), toks := t' } := by
 have q := PySem.IsL.update e f
 rw [hf] at q
 refine I.write (x := l) (e := l) (by rw [hH]; exact trivial) (.inl rfl) (fun b' u hb hu => (Heap.get?_update_other s.heap (Obj.mapSeq f) (Ne.symm hb)).trans hu) ⟨_, q⟩ ?_
 exact ⟨hz, its', _, hv, q⟩
theorem Inv.ZS {its : List Value} {t' : Nat} (I : Inv X pins σ H s) (hv : Vals ys its) (hz : ys.length <= sizeLine) :
  Inv X pins σ (upd H s.heap.objs.size (.lst ys)) { s with heap := s.heap.push { cls := .type "list", data := .seq its.toArray }, toks := t' } :=
 I.laid (fun _ _ q => Heap.get?_push_of_some _ q) (Nat.le_refl _) ⟨hz, its, 0, hv, Heap.get?_push_size _ rfl⟩
theorem Inv.fresh (I : Inv X pins σ H s) : H s.heap.objs.size = none := I.hok.fresh (Nat.le_refl _)
theorem Inv.Vc (I : Inv X pins σ H s) (hH : H l = some (.lst xs)) : xs.length <= sizeLine /\ ∃ (its : List Value) (n : Nat), Vals xs its /\ xs.length = its.length /\ s.heap.get? l = some { cls := .type "list", data := .seq its.toArray n } := by
 obtain ⟨z, its, n, r, e⟩ := I.hok l _ hH
 exact ⟨z, its, n, r, r.length, e⟩
theorem u5 {n : Nat} (h : n <= sizeLine) : Builtin.List.listTooLong n = false := by
 unfold Builtin.List.listTooLong
 exact decide_eq_false (by lia)
end
section
variable {X : Cx}
noncomputable def Ws : V -> List V -> Hp -> VK -> Prop := fun x vs H Q => ∃ l b xs zs, x = .ref l /\ vs = [.ref b] /\ H l = some (.lst xs) /\ H b = some (.lst zs) /\ xs.length + zs.length <= sizeLine /\ Q .non (upd H l (.lst (xs ++ zs)))
theorem Yf : MtM X "list.extend" Ws := by
 intro pins s σ H x vs v us Q I rx rv h
 obtain ⟨l, b, xs, zs, rfl, rfl, hH, hB, hz, q⟩ := h
 cases rx
 obtain ⟨u, rfl, ru⟩ := rv.one
 cases ru
 obtain ⟨z, its, n, r, hl, e⟩ := I.Vc hH
 obtain ⟨z2, its2, n2, r2, hl2, e2⟩ := I.Vc hB
 have hsz : its.toArray.size + its2.toArray.size <= sizeLine := by rw [List.size_toArray, List.size_toArray]; lia
 have hlong : ¬ (!its.toArray.isEmpty && Builtin.List.listTooLong (its.toArray.size + its2.toArray.size)) = true := by
  rw [u5 hsz, Bool.and_false]
  exact Bool.false_ne_true
 refine call_meets F.slot_list_extend ⟨_, e, rfl⟩ F.entry_list_extend (F.args_list_extend_2 _ _)
  (AutoSeq1.list_extend_list_list_0 l its.toArray n b its2.toArray n2 hlong (by rw [List.size_toArray]; lia) (by lia)) ⟨e, e2, ?_⟩
 refine ⟨.non, _, I.Y2 (its' := its ++ its2) hH e (by simp) (r.append r2) ?_, rfl, q⟩
 rw [List.length_append]
 lia
noncomputable def YA : R2 := fun x y H Q => ∃ l b xs zs, x = .ref l /\ y = .ref b /\ H l = some (.lst xs) /\ H b = some (.lst zs) /\ xs.length + zs.length <= sizeLine /\ ∀ p, H p = none -> Q (.ref p) (upd H p (.lst (xs ++ zs)))
theorem ZW : OpR X (binaryOp .Add) YA := by
 intro pins s σ H x y v u Q I rx ry h
 obtain ⟨l, b, xs, zs, rfl, rfl, hH, hB, hz, q⟩ := h
 cases rx
 cases ry
 obtain ⟨z, its, n, r, hl, e⟩ := I.Vc hH
 obtain ⟨z2, its2, n2, r2, hl2, e2⟩ := I.Vc hB
 refine PySem.P.add_list e e2 ?_ (by rw [List.size_toArray, List.size_toArray]; lia)
 have ea : its.toArray ++ its2.toArray = (its ++ its2).toArray := by simp
 rw [ea]
 exact ⟨.ref _, _, I.ZS (t' := s.toks) (r.append r2) (by rw [List.length_append]; lia), rfl, q _ I.fresh⟩
noncomputable def Yw : R2 := fun x y H Q => ∃ l k xs, x = .ref l /\ y = .int k /\ H l = some (.lst xs) /\ -(2 ^ 63) <= k /\ k < 2 ^ 63 /\ xs.length * k.toNat <= sizeLine /\
 ∀ p, H p = none -> Q (.ref p) (upd H p (.lst (List.replicate k.toNat xs).flatten))
theorem len_rep {α : Type} (xs : List α) (k : Nat) : (List.replicate k xs).flatten.length = k * xs.length := by
 induction k with
 | zero => simp
 | succ k ih => rw [List.replicate_succ, List.flatten_cons, List.length_append, ih, Nat.succ_mul, Nat.add_comm]
theorem xQ : OpR X (binaryOp .Mult) Yw := by
 intro pins s σ H x y v u Q I rx ry h
 obtain ⟨l, k, xs, rfl, rfl, hH, h1, h2, hz, q⟩ := h
 cases rx
 obtain ⟨t, rfl⟩ := ry
 obtain ⟨z, its, n, r, hl, e⟩ := I.Vc hH
 have hlen : its.toArray.size * k.toNat <= sizeLine := by rw [List.size_toArray, <- hl]; exact hz
 have hcap : ¬ its.toArray.size * k.toNat > (2 ^ 63 - 1) / 8 := by
  have : (sizeLine : Nat) <= (2 ^ 63 - 1) / 8 := by decide
  lia
 have hfit : ¬ (!Builtin.List.listFitsIndex k) = true := by
  rw [fitsIndex_both h1 h2]
  exact Bool.false_ne_true
 have hlong : ¬ Builtin.List.listTooLong (its.toArray.size * k.toNat) = true := by
  rw [u5 hlen]
  exact Bool.false_ne_true
 have hnew : List.foldl (fun x1 x2 => x1 ++ x2) #[] (List.replicate (if its.toArray.isEmpty = true then 0 else k.toNat) its.toArray) = (List.replicate k.toNat its).flatten.toArray := by
  have f0 : ∀ m : Nat, List.foldl (fun x1 x2 => x1 ++ x2) #[] (List.replicate m its.toArray) = (List.replicate m its).flatten.toArray := fun m => by
   have := foldl_rep its m []
   rw [List.nil_append] at this
   exact this
  rw [f0]
  cases its with
  | nil => simp
  | cons a r' => rw [if_neg (by simp)]
 refine wpAny_binaryOp_repeat_ref (T := "list") (U := "int") (by decide) ⟨_, e, rfl⟩ (fun s' => typeIs_int s' k t) noFill_list_mul F.fills_int_mul F.slot_int_rmul repeat_list F.slot_int_index.lookup
  (call_meets F.slot_int_rmul (typeIs_int s k t) F.entry_int_rmul (F.args_int_rmul_2 _ _) (int___rmul___int_list k t l its.toArray n)
   ⟨e, rfl, ⟨_, e, rfl⟩, call_meets F.slot_list_mul ⟨_, e, rfl⟩ F.entry_list_mul (F.args_list_mul_2 _ _) (AutoListH.list___mul___list_int_3 l its.toArray n k t hfit hcap hlong) ⟨e, ?_⟩⟩)
 rw [hnew]
 exact ⟨.ref _, _, I.ZS (t' := s.toks) (r.rep k.toNat) (by rw [len_rep, Nat.mul_comm]; exact hz), rfl, q _ I.fresh⟩
end
mutual
inductive Dp (K : PySem.W.Frag) (H : Hp) : V -> PyData -> Prop
 | non : Dp K H .non .none
 | bl (b : Bool) : Dp K H (.bl b) (.bool b)
 | int (i : Int) : Dp K H (.int i) (.int i)
 | str (x : Str) : Dp K H (.str x) (.str x)
 | lst {a : Addr} {xs : List V} {ds : List PyData} : SqL K H a xs -> yY K H xs ds -> Dp K H (.ref a) (.list ds)
 | tup {a : Addr} {xs : List V} {ds : List PyData} : SqT K H a xs -> yY K H xs ds -> Dp K H (.ref a) (.tuple ds)
inductive yY (K : PySem.W.Frag) (H : Hp) : List V -> List PyData -> Prop
 | nil : yY K H [] []
 | cons {v : V} {vs : List V} {d : PyData} {ds : List PyData} : Dp K H v d -> yY K H vs ds -> yY K H (v :: vs) (d :: ds)
end
section
variable {X : Cx} {pins : List (Addr × Obj)} {σ : St} {H : Hp} {s : Shared}
mutual
theorem Dp.reads (I : Inv X pins σ H s) : ∀ (d : PyData) (v : V) (u : Value), Dp X.K H v d -> RelV v u -> ∃ as, Reads s.heap u d as
 | .none, _, _, h, r => by
  cases h
  cases r
  exact ⟨_, Reads.none⟩
 | .bool b, _, _, h, r => by
  cases h
  cases r
  exact ⟨_, Reads.bool b⟩
 | .int i, _, _, h, r => by
  cases h
  obtain ⟨t, rfl⟩ := r
  exact ⟨_, Reads.int i t⟩
 | .str x, _, _, h, r => by
  cases h
  obtain ⟨t, rfl⟩ := r
  exact ⟨_, Reads.str x t⟩
 | .list ds, _, _, h, r => by
  cases h with
  | lst hs ha =>
   cases r
   obtain ⟨its, rv, ⟨o, n, ho, hc, _, hd⟩, _⟩ := I.list hs
   obtain ⟨as, hr⟩ := Dp.readsAll I ds _ its ha rv
   exact ⟨_, Reads.list ho hc hd hr⟩
 | .tuple ds, _, _, h, r => by
  cases h with
  | tup hs ha =>
   cases r
   obtain ⟨its, rv, ⟨o, ho, hc, n, hd⟩, _⟩ := I.tuple hs
   obtain ⟨as, hr⟩ := Dp.readsAll I ds _ its ha rv
   exact ⟨_, Reads.tuple ho hc hd hr⟩
 | .dict _, _, _, h, _ => by cases h
theorem Dp.readsAll (I : Inv X pins σ H s) : ∀ (ds : List PyData) (vs : List V) (us : List Value), yY X.K H vs ds -> Vals vs us -> ∃ as, ReadsAll s.heap us ds as
 | [], _, _, h, r => by
  cases h
  cases r
  exact ⟨_, ReadsAll.nil⟩
 | d :: ds, _, _, h, r => by
  cases h with
  | cons h1 h2 =>
   cases r with
   | cons r1 r2 =>
    obtain ⟨as, q1⟩ := Dp.reads I d _ _ h1 r1
    obtain ⟨bs, q2⟩ := Dp.readsAll I ds _ _ h2 r2
    exact ⟨_, ReadsAll.cons q1 q2⟩
end
end
section
variable {X : Cx}
noncomputable def Yd (K : PySem.W.Frag) : R2 := fun x y H Q => ∃ d e, Dp K H x d /\ Dp K H y e /\ SeqAt.shaped d = true /\ SeqAt.shaped e = true /\ Q (.bl (PyData.eqv d e)) H
theorem Z5 (hu : X.A.units + 64 < cLine) : OpR X (compareOp .Eq) (Yd X.K) := by
 intro pins s σ H x y v u Q I rx ry h
 obtain ⟨d, e, hd, he, sd, se, q⟩ := h
 obtain ⟨as, r1⟩ := Dp.reads I d x v hd rx
 obtain ⟨bs, r2⟩ := Dp.reads I e y u he ry
 exact SeqAt.compareEq_shaped r1 r2 sd se hu ⟨.bl _, H, I, rfl, q⟩
end
noncomputable def qU (cells : List (Str × Addr)) : List (Str × NameKind) -> List (Str × Addr) -> List (Str × Addr)
 | [], acc => acc
 | (n, k) :: r, acc => if k == .free then qU cells r ((n, (cells.lookup n).getD 0) :: acc) else qU cells r acc
theorem yc (env : Env) (f : Str × NameKind -> List (Str × Addr) -> Sem (ForInStep (List (Str × Addr))))
  (hf : ∀ n k c, f (n, k) c = if k == .free then (do let a <- cellOf env n; pure (.yield ((n, a) :: c))) else pure (.yield c)) :
  ∀ (names : List (Str × NameKind)) (acc : List (Str × Addr)), (∀ y ∈ names, y.2 = .free -> ∃ c, env.cells.lookup y.1 = some c) -> forIn names acc f = pure (qU env.cells names acc)
 | [], acc, _ => by rw [List.forIn_nil]; rfl
 | (n, k) :: r, acc, h => by
  rw [List.forIn_cons, hf]
  have ih := fun acc => yc env f hf r acc fun y hy => h y (List.mem_cons_of_mem _ hy)
  unfold qU
  by_cases hk : (k == NameKind.free) = true
  ·rw [if_pos hk, if_pos hk]
   obtain ⟨c, hc⟩ := h (n, k) List.mem_cons_self (by simpa using hk)
   have e : cellOf env n = pure c := by unfold cellOf; rw [hc]
   rw [e]
   have e2 : (env.cells.lookup n).getD 0 = c := by rw [hc]; rfl
   rw [e2]
   exact ih _
  ·rw [if_neg hk, if_neg hk]
   exact ih _
theorem ji {scope : Scope} {env : Env} (h : ∀ y ∈ scope.names, y.2 = .free -> ∃ c, env.cells.lookup y.1 = some c) : closureFor scope env = pure (qU env.cells scope.names []) := by
 simp only [closureFor]
 rw [yc env _ (fun n k c => rfl) scope.names [] h]
 rfl
theorem mem_lookup {α : Type} : ∀ {l : List (Str × α)} {n : Str} {c : α}, (n, c) ∈ l -> ∃ c', l.lookup n = some c'
 | (k, v) :: r, n, c, h => by
  rw [List.lookup_cons]
  cases hb : n == k with
  | true => exact ⟨_, rfl⟩
  | false =>
   rcases List.mem_cons.mp h with e | h
   ·cases e; simp at hb
   ·exact mem_lookup h
theorem zi {cells : List (Str × Addr)} : ∀ {names : List (Str × NameKind)} {acc : List (Str × Addr)} {n : Str} {c : Addr}, (n, c) ∈ qU cells names acc -> (n, c) ∈ acc \/ ((n, .free) ∈ names /\ c = (cells.lookup n).getD 0)
 | [], _, _, _, h => .inl h
 | (m, k) :: r, acc, n, c, h => by
  unfold qU at h
  split at h
  ·rename_i hk
   have hk : k = .free := by simpa using hk
   rcases zi h with h | ⟨h1, h2⟩
   ·rcases List.mem_cons.mp h with e | h
    ·cases e; exact .inr ⟨hk ▸ List.mem_cons_self, rfl⟩
    ·exact .inl h
   ·exact .inr ⟨List.mem_cons_of_mem _ h1, h2⟩
  ·rcases zi h with h | ⟨h1, h2⟩
   ·exact .inl h
   ·exact .inr ⟨List.mem_cons_of_mem _ h1, h2⟩
theorem zg {cells : List (Str × Addr)} : ∀ {names : List (Str × NameKind)} {acc : List (Str × Addr)} {p : Str × Addr}, p ∈ acc -> p ∈ qU cells names acc
 | [], _, _, h => h
 | (m, k) :: r, acc, p, h => by
  unfold qU
  split
  ·exact zg (List.mem_cons_of_mem _ h)
  ·exact zg h
theorem zb {cells : List (Str × Addr)} : ∀ {names : List (Str × NameKind)} {acc : List (Str × Addr)} {n : Str}, (n, .free) ∈ names -> (n, (cells.lookup n).getD 0) ∈ qU cells names acc
 | (m, k) :: r, acc, n, h => by
  unfold qU
  rcases List.mem_cons.mp h with e | h
  ·cases e
   exact zg List.mem_cons_self
  ·split
   ·exact zb h
   ·exact zb h
end L2
section 
namespace Bits
open PySem PyProof.Rows
theorem yu {x : Int} (k : Nat) (hx : 0 <= x) : Builtin.bitAnd x (2 ^ k - 1) = x % 2 ^ k := by
 obtain ⟨n, rfl⟩ := Int.eq_ofNat_of_zero_le hx
 have hp : 0 < 2 ^ k := Nat.two_pow_pos k
 rw [two_pow_cast]
 have e : ((2 ^ k : Nat) : Int) - 1 = ((2 ^ k - 1 : Nat) : Int) := by
  generalize (2 : Nat) ^ k = m at hp
  lia
 rw [e, bitAnd_pp (by lia) (by lia), Int.toNat_natCast, Int.toNat_natCast, Nat.and_two_pow_sub_one_eq_mod]
 first
  | rfl
  | exact Int.natCast_emod _ _
  | simp
theorem yA (m : Nat) : ∀ n : Nat, (m ^^^ n) + 2 * (m &&& n) = m + n := by
 induction m using Nat.strongRecOn with
 | _ m ih =>
  intro n
  by_cases h0 : m = 0
  ·subst h0
   simp
  ·have ih' := ih (m / 2) (Nat.div_lt_self (Nat.pos_of_ne_zero h0) (by decide)) (n / 2)
   rw [<- Nat.xor_div_two, <- Nat.and_div_two] at ih'
   have o1 : (m ^^^ n) % 2 + 2 * ((m &&& n) % 2) = m % 2 + n % 2 := by
    have a1 := @Nat.and_mod_two_eq_one m n
    have x1 := @Nat.xor_mod_two_eq_one m n
    rcases Nat.mod_two_eq_zero_or_one m with hm | hm <;> rcases Nat.mod_two_eq_zero_or_one n with hn | hn <;> rcases Nat.mod_two_eq_zero_or_one (m &&& n) with ha | ha <;> rcases Nat.mod_two_eq_zero_or_one (m ^^^ n) with hx | hx <;> rw [hm, hn, ha] at a1 <;> rw [hm, hn, hx] at x1 <;> rw [hm, hn, ha, hx] <;> revert a1 x1 <;> decide
   rw [<- Nat.div_add_mod (m ^^^ n) 2, <- Nat.div_add_mod (m &&& n) 2]
   have e1 := Nat.div_add_mod m 2
   have e2 := Nat.div_add_mod n 2
   clear ih h0
   generalize (m ^^^ n) / 2 = a at *
   generalize (m &&& n) / 2 = b at *
   generalize (m ^^^ n) % 2 = c at *
   generalize (m &&& n) % 2 = d at *
   lia
theorem QP {x y : Int} (hx : 0 <= x) (hy : 0 <= y) : Builtin.bitXor x y = ((x.toNat ^^^ y.toNat : Nat) : Int) := by
 have e := yA x.toNat y.toNat
 rw [bitXor_and, bitAnd_pp hx hy]
 lia
end Bits
end 
section 
end 
section
set_option maxHeartbeats 2000000
namespace L2
open PySem PySem.Spec PyProof.Rows
open PySem.W (WData Codec OpenSpec Well WellAll ReadsW ReadsAllW)
mutual
/-- x stands for the datum d, lists and tuples all the way -/
inductive Dw (K : PySem.W.Frag) (H : Hp) : V -> WData -> Prop
 | non : Dw K H .non .none
 | bl (b : Bool) : Dw K H (.bl b) (.bool b)
 | int (i : Int) : Dw K H (.int i) (.int i)
 | str (x : Str) : Dw K H (.str x) (.str x)
 | byt (b : Array UInt8) : Dw K H (.byt b) (.bytes b.toList)
 | lst {a : Addr} {xs : List V} {ds : List WData} : SqL K H a xs -> vP K H xs ds -> Dw K H (.ref a) (.list ds)
 | tup {a : Addr} {xs : List V} {ds : List WData} : SqT K H a xs -> vP K H xs ds -> Dw K H (.ref a) (.tuple ds)
inductive vP (K : PySem.W.Frag) (H : Hp) : List V -> List WData -> Prop
 | nil : vP K H [] []
 | cons {v : V} {vs : List V} {d : WData} {ds : List WData} : Dw K H v d -> vP K H vs ds -> vP K H (v :: vs) (d :: ds)
end
theorem j7 {K : PySem.W.Frag} {H : Hp} : ∀ ns : List Int, vP K H (ns.map V.int) (ns.map WData.int)
 | [] => .nil
 | n :: r => .cons (.int n) (j7 r)
section
variable {P : Program} {w : World} {K : PySem.W.Frag} {H : Hp} {h : Heap} {R : PySem.W.WRecords} {cl : Str -> Option Addr}
theorem Zs {a : Addr} {xs : List V} (hok : HOk P w H h) (KX : K.In h) (q : SqL K H a xs) : ∃ (its : List Value) (o : Obj) (n : Nat), Vals xs its /\ h.get? a = some o /\ o.cls = .type "list" /\ o.data = .seq its.toArray n := by
 rcases q with q | ⟨o, its, n, e, hc, _, hd, _, hv⟩
 ·obtain ⟨_, its, n, hv, e⟩ := (show wj P w H h a (.lst xs) from q.ok hok)
  exact ⟨its, _, n, hv, e, rfl, rfl⟩
 ·exact ⟨its.toList, o, n, hv, KX _ _ e, hc, by simp [hd]⟩
theorem Z2 {a : Addr} {xs : List V} (hok : HOk P w H h) (KX : K.In h) (q : SqT K H a xs) : ∃ (its : List Value) (o : Obj) (n : Nat), Vals xs its /\ h.get? a = some o /\ o.cls = .type "tuple" /\ o.data = .seq its.toArray n := by
 rcases q with q | ⟨o, its, n, e, hc, hd, _, hv⟩
 ·obtain ⟨_, its, hv, o, e, hc, n, hd⟩ := (show wj P w H h a (.tup xs) from q.ok hok)
  exact ⟨its, o, n, hv, e, hc, hd⟩
 ·exact ⟨its.toList, o, n, hv, KX _ _ e, hc, by simp [hd]⟩
mutual
theorem Dw.reads (hok : HOk P w H h) (KX : K.In h) : ∀ (d : WData) (v : V) (u : Value), Dw K H v d -> RelV v u -> ∃ as, ReadsW R cl h u d as
 | .none, _, _, x, r => by
  cases x
  cases r
  exact ⟨_, ReadsW.none⟩
 | .bool b, _, _, x, r => by
  cases x
  cases r
  exact ⟨_, ReadsW.bool b⟩
 | .int i, _, _, x, r => by
  cases x
  obtain ⟨t, rfl⟩ := r
  exact ⟨_, ReadsW.int i t⟩
 | .str s, _, _, x, r => by
  cases x
  obtain ⟨t, rfl⟩ := r
  exact ⟨_, ReadsW.str s t⟩
 | .bytes b, _, _, x, r => by
  cases x
  obtain ⟨t, rfl⟩ := r
  exact ⟨_, ReadsW.bytes _ t⟩
 | .list ds, _, _, x, r => by
  cases x with
  | lst hs ha =>
   cases r
   obtain ⟨its, o, n, rv, ho, hc, hd⟩ := Zs hok KX hs
   obtain ⟨as, hr⟩ := Dw.readsAll hok KX ds _ its ha rv
   exact ⟨_, ReadsW.list ho hc hd hr⟩
 | .tuple ds, _, _, x, r => by
  cases x with
  | tup hs ha =>
   cases r
   obtain ⟨its, o, n, rv, ho, hc, hd⟩ := Z2 hok KX hs
   obtain ⟨as, hr⟩ := Dw.readsAll hok KX ds _ its ha rv
   exact ⟨_, ReadsW.tuple ho hc hd hr⟩
 | .float _, _, _, x, _ => by cases x
 | .dict _, _, _, x, _ => by cases x
 | .bytearray _, _, _, x, _ => by cases x
 | .set _, _, _, x, _ => by cases x
 | .frozenset _, _, _, x, _ => by cases x
 | .obj _ _, _, _, x, _ => by cases x
theorem Dw.readsAll (hok : HOk P w H h) (KX : K.In h) : ∀ (ds : List WData) (vs : List V) (us : List Value), vP K H vs ds -> Vals vs us -> ∃ as, ReadsAllW R cl h us ds as
 | [], _, _, x, r => by
  cases x
  cases r
  exact ⟨_, ReadsAllW.nil⟩
 | d :: ds, _, _, x, r => by
  cases x with
  | cons h1 h2 =>
   cases r with
   | cons r1 r2 =>
    obtain ⟨as, q1⟩ := Dw.reads hok KX d _ _ h1 r1
    obtain ⟨bs, q2⟩ := Dw.readsAll hok KX ds _ _ h2 r2
    exact ⟨_, ReadsAllW.cons q1 q2⟩
end
end
mutual
/-- data that a codec tells -/
noncomputable def plW : WData -> Bool
 | .none => true
 | .bool _ => true
 | .int _ => true
 | .str _ => true
 | .bytes _ => true
 | .list xs => yD xs
 | .tuple xs => yD xs
 | _ => false
noncomputable def yD : List WData -> Bool
 | [] => true
 | x :: r => plW x && yD r
end
theorem jc {α : Type} {f : α -> WData} (h : ∀ a, plW (f a) = true) : ∀ l : List α, yD (l.map f) = true
 | [] => rfl
 | x :: r => by
  show (plW (f x) && yD (r.map f)) = true
  rw [h x, jc h r] <;> rfl
theorem zf : ∀ (c : Codec) (a : c.denote), plW (c.enc a) = true
 | .unit, _ => rfl
 | .bool, _ => rfl
 | .int _ _, _ => rfl
 | .nat _ _, _ => rfl
 | .u8, _ => rfl
 | .bytes _ _, _ => rfl
 | .text _ _ _ _, _ => rfl
 | .list _ _ c, a => jc (fun x => zf c x) a
 | .pair c d, a => by
  show (plW (c.enc a.1) && (plW (d.enc a.2) && true)) = true
  rw [zf c a.1, zf d a.2] <;> rfl
 | .triple c d e, a => by
  show (plW (c.enc a.1) && (plW (d.enc a.2.1) && (plW (e.enc a.2.2) && true))) = true
  rw [zf c a.1, zf d a.2.1, zf e a.2.2] <;> rfl
 | .option c, none => rfl
 | .option c, some x => zf c x
theorem xM : ∀ (cs : List Codec) (a : Codec.denoteAll cs), yD (Codec.encAll cs a) = true
 | [], _ => rfl
 | c :: cs, a => by
  show (plW (c.enc a.1) && yD (Codec.encAll cs a.2)) = true
  rw [zf c a.1, xM cs a.2] <;> rfl
theorem zQ : ∀ {xs : List WData} {d : WData}, d ∈ xs -> d.weight <= WData.weightAll xs
 | [], d, h => absurd h (by simp)
 | x :: r, d, h => by
  show d.weight <= x.weight + 1 + WData.weightAll r
  rcases List.mem_cons.mp h with e | m
  ·rw [e]
   lia
  ·have z := zQ m
   lia
noncomputable def toV : Value -> V
 | .none => .non
 | .bool b => .bl b
 | .int i _ => .int i
 | .str x _ => .str x
 | .bytes b _ => .byt b
 | .ref a => .ref a
 | _ => .non
noncomputable def OkU (A : List Addr) : Value -> Prop
 | .none => True
 | .bool _ => True
 | .int _ _ => True
 | .str _ _ => True
 | .bytes _ _ => True
 | .ref a => a ∈ A
 | _ => False
theorem OkU.mono {A B : List Addr} (h : ∀ a ∈ A, a ∈ B) : ∀ {u : Value}, OkU A u -> OkU B u := fun {u} x => by
 cases u with
 | ref a => exact h a x
 | none => trivial
 | bool b => trivial
 | int i t => trivial
 | str s t => trivial
 | bytes b t => trivial
 | _ => exact False.elim x
theorem Vt {A : List Addr} {u : Value} (x : OkU A u) : RelV (toV u) u := by
 cases u with
 | ref a => rfl
 | none => rfl
 | bool b => rfl
 | int i t => exact ⟨t, rfl⟩
 | str s t => exact ⟨t, rfl⟩
 | bytes b t => exact ⟨t, rfl⟩
 | _ => exact False.elim x
theorem wM {A : List Addr} : ∀ {vs : List Value}, (∀ u ∈ vs, OkU A u) -> Vals (vs.map toV) vs
 | [], _ => .nil
 | u :: r, h => .cons (Vt (h u (List.mem_cons_self ..))) (wM fun x hx => h x (List.mem_cons_of_mem _ hx))
noncomputable def w8 (h : Heap) (A : List Addr) (a : Addr) : Prop := ∃ vs : List Value, vs.length <= sizeLine /\ (∀ u ∈ vs, OkU A u) /\
 (h.get? a = some { cls := .type "list", data := .seq vs.toArray } \/ h.get? a = some { cls := .type "tuple", data := .seq vs.toArray })
theorem w8.mono {h : Heap} {A B : List Addr} {a : Addr} (k : ∀ a ∈ A, a ∈ B) (x : w8 h A a) : w8 h B a := by
 obtain ⟨vs, h1, h2, h3⟩ := x
 exact ⟨vs, h1, fun u hu => (h2 u hu).mono k, h3⟩
theorem wA {P : Params} {h : Heap} : ∀ {vs : List Value} {ds : List WData}, WellAll P h vs ds -> vs.length = ds.length
 | _, _, .nil => rfl
 | _, _, .cons _ b => by
  show _ + 1 = _ + 1
  rw [wA b]
theorem xO {P : Params} {h : Heap} {v : Value} {ds : List WData} (x : Well P h v (.list ds)) : ∃ (a : Addr) (vs : List Value), v = .ref a /\ h.get? a = some { cls := .type "list", data := .seq vs.toArray } /\ WellAll P h vs ds := by
 cases x with
 | list ho hall => exact ⟨_, _, rfl, ho, hall⟩
theorem yZ {P : Params} {h : Heap} {v : Value} {ds : List WData} (x : Well P h v (.tuple ds)) : ∃ (a : Addr) (vs : List Value), v = .ref a /\ h.get? a = some { cls := .type "tuple", data := .seq vs.toArray } /\ WellAll P h vs ds := by
 cases x with
 | tuple ho hall => exact ⟨_, _, rfl, ho, hall⟩
theorem xK {P : Params} {h : Heap} {us : List Value} {d : WData} {ds : List WData} (x : WellAll P h us (d :: ds)) : ∃ (v : Value) (vs : List Value), us = v :: vs /\ Well P h v d /\ WellAll P h vs ds := by
 cases x with
 | cons a b => exact ⟨_, _, rfl, a, b⟩
theorem Qa {n : Nat} (h : n <= 1048576) : n <= sizeLine := Nat.le_trans h (by decide)
section
variable {P : Params} {h : Heap}
mutual
theorem VN : ∀ (d : WData) (v : Value), Well P h v d -> plW d = true -> d.weight <= 1048576 -> ∃ A : List Addr, OkU A v /\ ∀ a ∈ A, w8 h A a
 | .none, _, x, _, _ => by
  cases x
  exact ⟨[], trivial, fun a m => absurd m (by simp)⟩
 | .bool b, _, x, _, _ => by
  cases x
  exact ⟨[], trivial, fun a m => absurd m (by simp)⟩
 | .int i, _, x, _, _ => by
  cases x
  exact ⟨[], trivial, fun a m => absurd m (by simp)⟩
 | .str s, _, x, _, _ => by
  cases x
  exact ⟨[], trivial, fun a m => absurd m (by simp)⟩
 | .bytes b, _, x, _, _ => by
  cases x
  exact ⟨[], trivial, fun a m => absurd m (by simp)⟩
 | .list ds, _, x, p, z => by
  obtain ⟨a, vs, rfl, ho, hall⟩ := xO x
  have z2 : WData.weightAll ds <= 1048576 := z
  obtain ⟨A, h1, h2⟩ := z8 ds _ hall p fun d hd => Nat.le_trans (zQ hd) z2
  have k : ∀ b ∈ A, b ∈ a :: A := fun b hb => List.mem_cons_of_mem _ hb
  refine ⟨a :: A, List.mem_cons_self .., fun b hb => ?_⟩
  rcases List.mem_cons.mp hb with e | m
  ·rw [e]
   exact ⟨vs, Qa (by rw [wA hall]; exact Nat.le_trans (PySem.W.length_le_weightAllW ds) z2), fun u hu => (h1 u hu).mono k, .inl ho⟩
  ·exact (h2 b m).mono k
 | .tuple ds, _, x, p, z => by
  obtain ⟨a, vs, rfl, ho, hall⟩ := yZ x
  have z2 : WData.weightAll ds <= 1048576 := z
  obtain ⟨A, h1, h2⟩ := z8 ds _ hall p fun d hd => Nat.le_trans (zQ hd) z2
  have k : ∀ b ∈ A, b ∈ a :: A := fun b hb => List.mem_cons_of_mem _ hb
  refine ⟨a :: A, List.mem_cons_self .., fun b hb => ?_⟩
  rcases List.mem_cons.mp hb with e | m
  ·rw [e]
   exact ⟨vs, Qa (by rw [wA hall]; exact Nat.le_trans (PySem.W.length_le_weightAllW ds) z2), fun u hu => (h1 u hu).mono k, .inr ho⟩
  ·exact (h2 b m).mono k
 | .float _, _, _, p, _ => Bool.noConfusion (show false = true from p)
 | .dict _, _, _, p, _ => Bool.noConfusion (show false = true from p)
 | .bytearray _, _, _, p, _ => Bool.noConfusion (show false = true from p)
 | .set _, _, _, p, _ => Bool.noConfusion (show false = true from p)
 | .frozenset _, _, _, p, _ => Bool.noConfusion (show false = true from p)
 | .obj _ _, _, _, p, _ => Bool.noConfusion (show false = true from p)
theorem z8 : ∀ (ds : List WData) (vs : List Value), WellAll P h vs ds -> yD ds = true -> (∀ d ∈ ds, d.weight <= 1048576) -> ∃ A : List Addr, (∀ u ∈ vs, OkU A u) /\ ∀ a ∈ A, w8 h A a
 | [], _, x, _, _ => by
  cases x
  exact ⟨[], fun u m => absurd m (by simp), fun a m => absurd m (by simp)⟩
 | d :: ds, _, x, p, z => by
  obtain ⟨v, vs, rfl, x1, x2⟩ := xK x
  have q : plW d = true /\ yD ds = true := Bool.and_eq_true_iff.mp p
  obtain ⟨A, a1, a2⟩ := VN d v x1 q.1 (z d (List.mem_cons_self ..))
  obtain ⟨B, b1, b2⟩ := z8 ds vs x2 q.2 fun e he => z e (List.mem_cons_of_mem _ he)
  have kA : ∀ b ∈ A, b ∈ A ++ B := fun b hb => List.mem_append.mpr (.inl hb)
  have kB : ∀ b ∈ B, b ∈ A ++ B := fun b hb => List.mem_append.mpr (.inr hb)
  refine ⟨A ++ B, fun u hu => ?_, fun b hb => ?_⟩
  ·rcases List.mem_cons.mp hu with e | m
   ·rw [e]
    exact a1.mono kA
   ·exact (b1 u m).mono kB
  ·rcases List.mem_append.mp hb with m | m
   ·exact (a2 b m).mono kA
   ·exact (b2 b m).mono kB
end
end
noncomputable def Wt (o : Obj) : Option HO := match o.data with
 | .seq vs _ => if (o.cls == Value.type "list") = true then some (.frz o (.lst (vs.toList.map toV))) else some (.frz o (.tup (vs.toList.map toV)))
 | _ => none
noncomputable def wU (K : PySem.W.Frag) (h : Heap) (A : List Addr) : Hp := fun b => if b ∈ A then (if (K.lookup b).isNone = true then (h.get? b).bind Wt else none) else none
noncomputable def Zd (H : Hp) : Prop := ∀ b, H b = none \/ ∃ o u, H b = some (.frz o u)
theorem uM (vs : List Value) : Wt { cls := .type "list", data := .seq vs.toArray } = some (.frz { cls := .type "list", data := .seq vs.toArray } (.lst (vs.map toV))) := by
 show (if (Value.type "list" == Value.type "list") = true then some (HO.frz { cls := .type "list", data := .seq vs.toArray } (.lst (vs.toArray.toList.map toV))) else some (HO.frz { cls := .type "list", data := .seq vs.toArray } (.tup (vs.toArray.toList.map toV)))) = _
 rw [if_pos (beq_self_eq_true _)]
theorem uJ (vs : List Value) : Wt { cls := .type "tuple", data := .seq vs.toArray } = some (.frz { cls := .type "tuple", data := .seq vs.toArray } (.tup (vs.map toV))) := by
 show (if (Value.type "tuple" == Value.type "list") = true then some (HO.frz { cls := .type "tuple", data := .seq vs.toArray } (.lst (vs.toArray.toList.map toV))) else some (HO.frz { cls := .type "tuple", data := .seq vs.toArray } (.tup (vs.toArray.toList.map toV)))) = _
 rw [if_neg (by decide)]
section
variable {P : Program} {w : World} {K : PySem.W.Frag} {h : Heap} {A : List Addr}
theorem yH {b : Addr} {o : Obj} (hb : b ∈ A) (hk : K.lookup b = none) (e : h.get? b = some o) : wU K h A b = Wt o := by
 unfold wU
 rw [if_pos hb, hk, if_pos (show (none : Option Obj).isNone = true from rfl), e] <;> rfl
theorem Ww {b : Addr} {u : HO} (q : wU K h A b = some u) : b ∈ A /\ K.lookup b = none := by
 unfold wU at q
 by_cases hb : b ∈ A
 ·rw [if_pos hb] at q
  cases hk : K.lookup b with
  | none => exact ⟨hb, rfl⟩
  | some o =>
   rw [hk, if_neg (by simp)] at q
   cases q
 ·rw [if_neg hb] at q
  cases q
theorem yJ (ar : ∀ a ∈ A, w8 h A a) {b : Addr} {u : HO} (q : wU K h A b = some u) : K.lookup b = none /\ ∃ vs : List Value, vs.length <= sizeLine /\ (∀ u ∈ vs, OkU A u) /\
    ((h.get? b = some { cls := .type "list", data := .seq vs.toArray } /\ u = .frz { cls := .type "list", data := .seq vs.toArray } (.lst (vs.map toV))) \/
     (h.get? b = some { cls := .type "tuple", data := .seq vs.toArray } /\ u = .frz { cls := .type "tuple", data := .seq vs.toArray } (.tup (vs.map toV)))) := by
  obtain ⟨hb, hk⟩ := Ww q
  obtain ⟨vs, h1, h2, h3⟩ := ar b hb
  refine ⟨hk, vs, h1, h2, ?_⟩
  rcases h3 with e | e
  · rw [yH hb hk e, uM] at q
    exact .inl ⟨e, (Option.some.inj q).symm⟩
  · rw [yH hb hk e, uJ] at q
    exact .inr ⟨e, (Option.some.inj q).symm⟩
theorem Qs (ar : ∀ a ∈ A, w8 h A a) : Zd (wU K h A) := fun b => by
 cases q : wU K h A b with
 | none => exact .inl rfl
 | some u =>
  obtain ⟨_, vs, _, _, ⟨_, e⟩ | ⟨_, e⟩⟩ := yJ ar q
  ·exact .inr ⟨_, _, by rw [e]⟩
  ·exact .inr ⟨_, _, by rw [e]⟩
theorem Wm (ar : ∀ a ∈ A, w8 h A a) : HOk P w (wU K h A) h := fun b u q => by
 obtain ⟨_, vs, h1, h2, ⟨e, rfl⟩ | ⟨e, rfl⟩⟩ := yJ ar q
 ·exact ⟨e, by rw [List.length_map]; exact h1, vs, _, wM h2, e⟩
 ·exact ⟨e, by rw [List.length_map]; exact h1, vs, wM h2, _, e, rfl, _, rfl⟩
theorem yN {c c' : Value} {vs us : List Value} (e : (some { cls := c, data := .seq vs.toArray } : Option Obj) = some { cls := c', data := .seq us.toArray }) : c = c' /\ vs = us := by
 have e1 := Option.some.inj e
 have e2 : c = c' := congrArg Obj.cls e1
 have e3 : Data.seq vs.toArray = Data.seq us.toArray := congrArg Obj.data e1
 injection e3 with e4
 refine ⟨e2, ?_⟩
 have e5 := congrArg Array.toList e4
 simpa using e5
theorem YT (KX : K.In h) (ar : ∀ a ∈ A, w8 h A a) {a : Addr} {vs : List Value} (ha : a ∈ A) (e : h.get? a = some { cls := .type "list", data := .seq vs.toArray }) : (∀ u ∈ vs, OkU A u) /\ SqL K (wU K h A) a (vs.map toV) := by
 obtain ⟨us, h1, h2, h3⟩ := ar a ha
 have hu : us = vs := by
  rcases h3 with q | q
  ·rw [e] at q
   exact (yN q).2.symm
  ·rw [e] at q
   exact absurd (Value.type.inj (yN q).1) (by decide)
 subst hu
 refine ⟨h2, ?_⟩
 cases hk : K.lookup a with
 | none => exact .inl (.inr ⟨_, by rw [yH ha hk e, uM]⟩)
 | some o =>
  have e2 := KX a o hk
  rw [e] at e2
  obtain rfl := Option.some.inj e2
  exact .inr ⟨_, us.toArray, _, hk, rfl, rfl, rfl, by rw [List.size_toArray]; exact h1, by simpa using wM h2⟩
theorem YM (KX : K.In h) (ar : ∀ a ∈ A, w8 h A a) {a : Addr} {vs : List Value} (ha : a ∈ A) (e : h.get? a = some { cls := .type "tuple", data := .seq vs.toArray }) : (∀ u ∈ vs, OkU A u) /\ SqT K (wU K h A) a (vs.map toV) := by
 obtain ⟨us, h1, h2, h3⟩ := ar a ha
 have hu : us = vs := by
  rcases h3 with q | q
  ·rw [e] at q
   exact absurd (Value.type.inj (yN q).1) (by decide)
  ·rw [e] at q
   exact (yN q).2.symm
 subst hu
 refine ⟨h2, ?_⟩
 cases hk : K.lookup a with
 | none => exact .inl (.inr ⟨_, by rw [yH ha hk e, uJ]⟩)
 | some o =>
  have e2 := KX a o hk
  rw [e] at e2
  obtain rfl := Option.some.inj e2
  exact .inr ⟨_, us.toArray, _, hk, rfl, rfl, by rw [List.size_toArray]; exact h1, by simpa using wM h2⟩
mutual
theorem ZD {Pm : Params} (KX : K.In h) (ar : ∀ a ∈ A, w8 h A a) : ∀ (d : WData) (v : Value), Well Pm h v d -> plW d = true -> OkU A v -> Dw K (wU K h A) (toV v) d
 | .none, _, x, _, _ => by
  cases x
  exact .non
 | .bool b, _, x, _, _ => by
  cases x
  exact .bl b
 | .int i, _, x, _, _ => by
  cases x
  exact .int i
 | .str s, _, x, _, _ => by
  cases x
  exact .str s
 | .bytes b, _, x, _, _ => by
  cases x
  have z := Dw.byt (K := K) (H := wU K h A) b.toArray
  exact z
 | .list ds, _, x, p, hu => by
  obtain ⟨a, vs, rfl, ho, hall⟩ := xO x
  obtain ⟨h2, hs⟩ := YT KX ar hu ho
  exact .lst hs (uk KX ar ds _ hall p h2)
 | .tuple ds, _, x, p, hu => by
  obtain ⟨a, vs, rfl, ho, hall⟩ := yZ x
  obtain ⟨h2, hs⟩ := YM KX ar hu ho
  exact .tup hs (uk KX ar ds _ hall p h2)
 | .float _, _, _, p, _ => Bool.noConfusion (show false = true from p)
 | .dict _, _, _, p, _ => Bool.noConfusion (show false = true from p)
 | .bytearray _, _, _, p, _ => Bool.noConfusion (show false = true from p)
 | .set _, _, _, p, _ => Bool.noConfusion (show false = true from p)
 | .frozenset _, _, _, p, _ => Bool.noConfusion (show false = true from p)
 | .obj _ _, _, _, p, _ => Bool.noConfusion (show false = true from p)
theorem uk {Pm : Params} (KX : K.In h) (ar : ∀ a ∈ A, w8 h A a) : ∀ (ds : List WData) (vs : List Value), WellAll Pm h vs ds -> yD ds = true -> (∀ u ∈ vs, OkU A u) -> vP K (wU K h A) (vs.map toV) ds
 | [], _, x, _, _ => by
  cases x
  exact .nil
 | d :: ds, _, x, p, hu => by
  obtain ⟨v, vs, rfl, x1, x2⟩ := xK x
  have q : plW d = true /\ yD ds = true := Bool.and_eq_true_iff.mp p
  exact .cons (ZD KX ar d v x1 q.1 (hu _ (List.mem_cons_self ..))) (uk KX ar ds vs x2 q.2 fun u m => hu u (List.mem_cons_of_mem _ m))
end
end
theorem yU {ds : List WData} (h : WData.layableAll ds = true) : ∀ d ∈ ds, d.weight <= 1048576 := fun d hd =>
 (PySem.W.layableW_iff.mp (List.all_eq_true.mp h d hd)).2.2
theorem y3 : ∀ (cs : List Codec) (a : Codec.denoteAll cs), (Codec.encAll cs a).length = cs.length
 | [], _ => rfl
 | c :: cs, a => by
  show (Codec.encAll cs a.2).length + 1 = cs.length + 1
  rw [y3 cs a.2]
end L2
end
section
namespace L2
open PySem PySem.Spec PyProof.Rows
noncomputable def qC (s : Stmt) : Arguments := match s with
 | .FunctionDef _ a _ _ _ _ _ _ _ _ => a
 | _ => { posonlyargs := [], args := [], vararg := none, kwonlyargs := [], kw_defaults := [], kwarg := none, defaults := [] }
noncomputable def qz (s : Stmt) : List Stmt := match s with
 | .FunctionDef _ _ b _ _ _ _ _ _ _ => b
 | _ => []
noncomputable def qd (s : Stmt) : Scope := match s with
 | .FunctionDef _ _ _ _ _ _ sc _ _ _ => sc
 | _ => { kind := .function, names := [], isGenerator := false, isCoroutine := false }
structure Fun (K : PySem.W.Frag) (x qual : Str) (st : Stmt) (f : Addr) (fd : FuncData) : Prop where
 ex : ∃ (oc : Value) (od : Option Addr) (kV doc pm : Value) (an : Option Addr) (cdv ct : Value) (osl : Array (Option Value)),
  fd = PySem.W.fnOf x qual (qC st) (qz st) (qd st) .none kV doc pm an cdv ct /\ K.lookup f = some ⟨oc, od, .func fd, osl⟩ /\ PySem.W.codeIn K cdv qual = true
 kp : PySem.W.keepIn K (.ref f) = true
section
variable {P : Program} {w : World} {K : PySem.W.Frag} {mg : Str -> Option Value} {base : Heap}
theorem Fun.binds {x qual : Str} {st : Stmt} {f : Addr} {fd : FuncData} {ps : List Str} (F : Fun K x qual st f fd)
  (h : ∀ (kV doc pm : Value) (an : Option Addr) (cdv ct : Value) (us : List Value), us.length = ps.length -> bindArgs (PySem.W.fnOf x qual (qC st) (qz st) (qd st) .none kV doc pm an cdv ct) ⟨us, []⟩ = pure (ps.zip us)) : Binds K fd ps [] := by
 obtain ⟨oc, od, kV, doc, pm, an, cdv, ct, osl, rfl, lk, hcd⟩ := F.ex
 exact .all (h kV doc pm an cdv ct)
theorem qV {x qual : Str} {st : Stmt} {f : Addr} {oc : Value} {od an : Option Addr} {osl : Array (Option Value)} {kV doc pm cdv ct : Value} (l : K.lookup f = some ⟨oc, od, .func (PySem.W.fnOf x qual (qC st) (qz st) (qd st) .none kV doc pm an cdv ct), osl⟩)
  (c : PySem.W.codeIn K cdv qual = true) (k : PySem.W.keepIn K (.ref f) = true) : Fun K x qual st f (PySem.W.fnOf x qual (qC st) (qz st) (qd st) .none kV doc pm an cdv ct) := ⟨⟨oc, od, kV, doc, pm, an, cdv, ct, osl, rfl, l, c⟩, k⟩
end
noncomputable def qH (H H' : Hp) : Prop := ∀ b o, H b = some o -> H' b = some o
theorem qH.trans {H H1 H2 : Hp} (a : qH H H1) (b : qH H1 H2) : qH H H2 := fun c o h => b c o (a c o h)
theorem qH.free {H H' : Hp} (e : qH H H') {l : Addr} (h : H' l = Option.none) : H l = Option.none := by
 cases q : H l with
 | none => rfl
 | some o =>
  rw [e l o q] at h
  cases h
theorem qH.seq {K : PySem.W.Frag} {H H' : Hp} {a : Addr} {xs : List V} (e : qH H H') (h : SqL K H a xs) : SqL K H' a xs := by
 rcases h with (h | ⟨o, h⟩) | h
 ·exact .inl (.inl (e _ _ h))
 ·exact .inl (.inr ⟨o, e _ _ h⟩)
 ·exact .inr h
end L2
end
namespace L2
open PySem PySem.Spec PyProof.Rows
noncomputable def Rel (X : Cx) (pins : List (Addr × Obj)) (H : Hp) (b : Addr) : Prop :=
 H b ≠ none \/ (∃ o, X.s_0.heap.get? b = some o /\ b ∉ X.ex) \/ (∃ x, X.env.cells.lookup x = some b) \/ b = X.env.locals \/ ∃ p ∈ X.pn ++ pins, p.1 = b
theorem QB {P : Program} {w : World} {H : Hp} {h : Heap} {a : Addr} {o : HO} (x : wj P w H h a o) : ∃ ob, h.get? a = some ob := by
 cases o with
 | lst xs => obtain ⟨_, _, _, _, e⟩ := x; exact ⟨_, e⟩
 | tup xs => obtain ⟨_, _, _, ob, p, _⟩ := x; exact ⟨ob, p⟩
 | dK kvs => obtain ⟨_, _, _, _, o, _, _, e, _⟩ := x; exact ⟨_, e⟩
 | dT kvs => obtain ⟨_, _, _, _, o, _, _, e, _⟩ := x; exact ⟨_, e⟩
 | set S n => obtain ⟨o, _, _, _, e, _⟩ := x; exact ⟨_, e⟩
 | ins C dx fs => obtain ⟨_, _, _, e, _⟩ := x; exact ⟨_, e⟩
 | own y => exact x
 | xd fs => obtain ⟨_, ⟨o, _, _, e, _⟩, _⟩ := x; exact ⟨_, e⟩
 | rng lo hi => obtain ⟨_, _, _, e⟩ := x; exact ⟨_, e⟩
 | frz ob u => exact ⟨_, x.1⟩
 | tbl ps => exact ⟨_, x⟩
 | met f y => exact ⟨_, x⟩
 | ext φ => exact x.2.1
section
variable {X : Cx} {pins : List (Addr × Obj)} {σ : St} {H H' : Hp} {s s' : Shared} {h' : Heap}
theorem uf (I : Inv X pins σ H s) {b : Addr} (r : Rel X pins H b) : ∃ o, s.heap.get? b = some o := by
 rcases r with r | ⟨o, e, hx⟩ | ⟨x, e⟩ | rfl | ⟨p, hp, rfl⟩
 ·cases q : H b with
  | none => exact absurd q r
  | some u => exact QB (I.hok b u q)
 ·exact I.base.there b o e hx
 ·obtain ⟨v, o, ho, _⟩ := I.cell x b e
  exact ⟨o, ho⟩
 ·obtain ⟨m, ⟨o, _, _, ho, _⟩, _⟩ := I.loc
  exact ⟨o, ho⟩
 ·exact ⟨_, (I.pin p hp).1⟩
theorem Q0 (I : Inv X pins σ H s) {b : Addr} (h : b ∈ X.fs) : b ∈ frs X.stack := by
 rcases I.ok.stk with e | ⟨e, hf⟩
 ·rw [e]; exact h
 ·rw [e]; unfold frs; rw [List.filterMap_cons, hf]; exact List.mem_cons_of_mem _ h
theorem Qw {t' : Nat} (I : Inv X pins σ H s) (kp : ∀ b o, Rel X pins H b -> b ∉ frs X.stack -> s.heap.get? b = some o -> h'.get? b = some o)
  (sl : ∀ b o, b ∈ frs X.stack -> s.heap.get? b = some o -> ∃ sl, h'.get? b = some { o with slots := sl }) : Inv X pins σ H { s with heap := h', toks := t' } := by
 have any : ∀ b o, Rel X pins H b -> s.heap.get? b = some o -> ∃ sl, h'.get? b = some { o with slots := sl } := fun b o r e => by
  by_cases hb : b ∈ frs X.stack
  ·exact sl b o hb e
  ·exact ⟨o.slots, kp b o r hb e⟩
 have cellK : ∀ x c, X.env.cells.lookup x = some c -> ∀ v, s.heap.IsCell c v -> h'.IsCell c v := fun x c e v ⟨o, ho, hd⟩ => by
  obtain ⟨sl', q⟩ := any c o (.inr (.inr (.inl ⟨x, e⟩))) ho
  exact ⟨_, q, hd⟩
 refine ⟨I.ok, I.os, I.bare, ⟨fun b o e n hb hx => ?_, fun b o e n hb hx => ?_, I.base.free, fun b o e hx => ?_, I.base.tups, I.base.frzs, I.base.tbls⟩, ?_, fun x c e => ?_, I.free, I.freeC, fun p hp => ?_, fun b u e => ?_, I.len⟩
 ·have q := I.base.keep b o e n hb hx
  refine kp b o (.inr (.inl ⟨o, e, hx⟩)) (fun z => ?_) q
  rcases List.mem_cons.mp (I.zp b z) with z | z
  ·exact absurd (Nat.lt_of_lt_of_le (Heap.lt_size e) I.ok.above) (by rw [z]; exact Nat.lt_irrefl _)
  ·exact hb z
 ·obtain ⟨s1, q⟩ := I.base.slot b o e n hb hx
  obtain ⟨s2, q2⟩ := sl b _ (Q0 I hb) q
  exact ⟨s2, q2⟩
 ·obtain ⟨o', q⟩ := I.base.there b o e hx
  obtain ⟨s2, q2⟩ := any b o' (.inr (.inl ⟨o, e, hx⟩)) q
  exact ⟨_, q2⟩
 ·obtain ⟨m, ⟨o, es, ep, ho, r⟩, hl⟩ := I.loc
  obtain ⟨s2, q2⟩ := any _ o (.inr (.inr (.inr (.inl rfl)))) ho
  refine ⟨m, ⟨_, es, ep, q2, r⟩, fun i x v e1 e2 e3 => ?_⟩
  obtain ⟨u, r, l⟩ := hl i x v e1 e2 e3
  refine ⟨u, r, ?_⟩
  rcases l with l | ⟨k, c, e, z⟩
  ·exact .inl l
  ·exact .inr ⟨k, c, e, cellK x c e _ z⟩
 ·obtain ⟨v, z⟩ := I.cell x c e
  exact ⟨v, cellK x c e v z⟩
 ·obtain ⟨e, n, ne, nf, d⟩ := I.pin p hp
  refine ⟨kp p.1 p.2 (.inr (.inr (.inr (.inr ⟨p, hp, rfl⟩)))) (fun z => ?_) e, n, ne, nf, d⟩
  rcases List.mem_cons.mp (I.zp p.1 z) with z | z
  ·exact ne z
  ·exact nf z
 ·refine (I.hok b u e).uU (fun c w hc q => ?_) (fun _ q => q) fun _ _ q => q
  have hne : H c ≠ none := by
   rcases hc with z | z
   ·rw [z, e]; exact fun z => nomatch z
   ·rw [z]; exact fun z => nomatch z
  exact kp c w (.inl hne) (fun z => hne (I.Qk c z)) q
end
noncomputable def Trd (h B : Heap) (e : Addr) (cls : Value) : Prop :=
 ∃ oe vs a0, h.get? e = some oe /\ oe.cls = cls /\ oe.data = .fields vs /\ vs[0]? = some a0 /\
  (vs[1]? = some .none \/ ∃ T oT ts f, vs[1]? = some (.ref T) /\ B.get? T = none /\ T ≠ e /\ h.get? T = some oT /\ oT.data = .fields ts /\ ts[3]? = some f)
noncomputable def Vv (h B : Heap) (e : Addr) (cls : Value) : Prop :=
 ∃ oe vs a0, h.get? e = some oe /\ oe.cls = cls /\ oe.data = .fields vs /\ vs[0]? = some a0 /\
  ∃ T oT ts f, vs[1]? = some (.ref T) /\ B.get? T = none /\ T ≠ e /\ h.get? T = some oT /\ oT.data = .fields ts /\ ts[3]? = some f
theorem Vv.trd {h B : Heap} {e : Addr} {cls : Value} (x : Vv h B e cls) : Trd h B e cls := by
 obtain ⟨oe, vs, a0, h1, h2, h3, h4, r⟩ := x
 exact ⟨oe, vs, a0, h1, h2, h3, h4, .inr r⟩
noncomputable def Hand (B : Heap) (l : List Env) (e : Addr) (cls : Value) (h : Heap) : Prop := B.StaysIn h /\ B.get? e = none /\ h.FunFrames B l /\ Trd h B e cls
noncomputable def zR (B : Heap) (l : List Env) (e : Addr) (cls : Value) (h : Heap) : Prop := B.StaysIn h /\ B.get? e = none /\ h.FunFrames B l /\ Vv h B e cls
theorem zR.hand {B : Heap} {l : List Env} {e : Addr} {cls : Value} {h : Heap} (x : zR B l e cls h) : Hand B l e cls h := ⟨x.1, x.2.1, x.2.2.1, x.2.2.2.trd⟩
section
variable {M : Model} {A : Around} {E : Value -> Shared -> Prop} {s : Shared} {B : Heap} {env env' : Env} {outer : List Env} {L e : Addr} {cls : Value} {Q : Unit -> Shared -> Prop}
theorem zx (hfr : A.frames = some (env :: outer)) (hf : env.frame = some L) (hf' : env'.frame = some L) (x : Hand B (env :: outer) e cls s.heap)
  (h : ∀ h', zR B (env :: outer) e cls h' -> s.heap.UpToSlots h' -> Q () { s with heap := h' }) : wpAny M A (noteFrame (.ref e) env') Q E s := by
 have en : noteFrame (.ref e) env' = noteFrame (.ref e) env := by
  unfold noteFrame PySem.frameOf
  rw [hf, hf']
 rw [en]
 obtain ⟨kb, hen, hl, oe, vs, a0, he, hcls, hd, h0, r⟩ := x
 subst hcls
 have fin : ∀ h', Heap.NotedW B (env :: outer) e oe.cls a0 (rawInt L) s.heap h' -> Q () { s with heap := h' } := fun h' ⟨k1, k2, k3, k4⟩ => by
  obtain ⟨oe', vs', T, oT, ts, g1, g2, g3, g4, g5, g6, g7, g8, g9⟩ := k3
  exact h h' ⟨k1, hen, k2, oe', vs', a0, g1, g2.1, g3, g2.2, T, oT, ts, _, g4, g5, g6, g7, g8, g9⟩ k4
 rcases r with h1 | ⟨T, oT, ts, f, h1, hnT, hTe, hT, hdT, h3⟩
 ·unfold noteFrame
  simp only [hf]
  refine wpAny_bind (wpAny_field he hd h1 ?_)
  rw [if_neg (by decide)]
  exact wpAny_entryW hfr hl hf he kb hen hd (Array.getElem?_eq_some_iff.mp h1).1 h0 fin
 ·unfold noteFrame
  simp only [hf]
  refine wpAny_bind (wpAny_field he hd h1 ?_)
  rw [if_pos (show (Value.ref T != Value.none) = true from by simp)]
  refine wpAny_bind (wpAny_field hT hdT h3 ?_)
  by_cases hc : (f == rawInt L) = true
  ·rw [if_pos hc]
   exact wpAny_pure (h s.heap ⟨kb, hen, hl, oe, vs, a0, he, rfl, hd, h0, T, oT, ts, f, h1, hnT, hTe, hT, hdT, h3⟩ (.refl _))
  ·rw [if_neg hc]
   refine wpAny_bind (wpAny_setField hT hdT (Array.getElem?_eq_some_iff.mp h3).1 ?_)
   have other : ∀ b, b ≠ T -> (s.heap.update T (Obj.mapFields (·.setIfInBounds 3 Value.none))).get? b = s.heap.get? b := fun b hb => Heap.get?_update_other _ _ (Ne.symm hb)
   have noRecord : ∀ b o, s.heap.get? b = some o -> (∀ vs, o.data ≠ .fields vs) -> b ≠ T := fun b o hb hnf q => by
    rw [q, hT] at hb; injection hb with hb; subst hb; exact hnf ts hdT
   refine wpAny_entryW hfr (hl.of_keeps fun b o hb hnf => ⟨o, (other b (noRecord b o hb hnf)).trans hb, rfl⟩) hf ((other e (Ne.symm hTe)).trans he)
    (fun b o hbo => (other b fun q => by rw [q, hnT] at hbo; cases hbo).trans (kb b o hbo)) hen hd (Array.getElem?_eq_some_iff.mp h1).1 h0
    fun h' ⟨x1, x2, x3, x4⟩ => fin h' ⟨x1, x2, x3, fun b o hb hnf => x4 b o ((other b (noRecord b o hb hnf)).trans hb) hnf⟩
theorem vY {l : List Env} {fr : Option Addr} (x : zR B l e cls s.heap) (h : ∀ h', zR B l e cls h' -> s.heap.UpToSlots h' -> Q () { s with heap := h' }) : wpAny M A (setFlight (.ref e) fr) Q E s := by
 obtain ⟨kb, hen, hl, oe, vs, a0, he, hcls, hd, h0, T, oT, ts, f, h1, hnT, hTe, hT, hdT, h3⟩ := x
 have hsz : 3 < ts.size := (Array.getElem?_eq_some_iff.mp h3).1
 unfold setFlight
 refine wpAny_bind (wpAny_field he hd h1 ?_)
 rw [if_pos (show (Value.ref T != Value.none) = true from by simp)]
 refine wpAny_setField hT hdT hsz ?_
 have other : ∀ (v : Value) b, b ≠ T -> (s.heap.update T (Obj.mapFields (·.setIfInBounds 3 v))).get? b = s.heap.get? b := fun v b hb => Heap.get?_update_other _ _ (Ne.symm hb)
 have noRecord : ∀ b o, s.heap.get? b = some o -> (∀ vs, o.data ≠ .fields vs) -> b ≠ T := fun b o hb hnf q => by
  rw [q, hT] at hb; injection hb with hb; subst hb; exact hnf ts hdT
 refine h _ ⟨fun b o hbo => (other _ b fun q => by rw [q, hnT] at hbo; cases hbo).trans (kb b o hbo), hen, hl.of_keeps fun b o hb hnf => ⟨o, (other _ b (noRecord b o hb hnf)).trans hb, rfl⟩,
  oe, vs, a0, (other _ e (Ne.symm hTe)).trans he, hcls, hd, h0, T, _, _, fr.elim Value.none fun f => rawInt f, h1, hnT, hTe, Heap.get?_update_self _ hT (Obj.isFreed_of_fields (Obj.data_mapFields hdT _)), Obj.data_mapFields hdT _, Array.getElem?_setIfInBounds_self_of_lt hsz⟩ fun b o hb hn => ⟨o.slots, (other _ b (noRecord b o hb hn)).trans hb⟩
theorem xS {l : List Env} {Q : Value -> Shared -> Prop} (x : zR B l e cls s.heap) (h : ∀ T, Q (.ref T) s) : wpAny M A (field (.ref e) 1) Q E s := by
 obtain ⟨kb, hen, hl, oe, vs, a0, he, hcls, hd, h0, T, oT, ts, f, h1, _⟩ := x
 exact wpAny_field he hd h1 (h T)
end
noncomputable def Arr (X : Cx) (E : XK) (e : Value) (s' : Shared) : Prop :=
 ∃ (a : Addr) (cls : Value) (B : Heap) (H' : Hp) (pins : List (Addr × Obj)) (σ : St), e = .ref a /\ Inv X pins σ H' s' /\ Hand B X.stack a cls s'.heap /\
  (∀ b o, s'.heap.get? b = some o -> b ∉ frs X.stack -> Rel X pins H' b -> B.get? b = some o) /\ E cls none H'
noncomputable def CX1 (P : Program) (w : World) : CXT := fun outer H s E e s' =>
 ∃ (a : Addr) (cls : Value) (B : Heap) (H' : Hp), e = .ref a /\ s'.os = s.os /\ AllBare s'.gens /\ Un (frs outer) [] H H' s.heap s'.heap /\ HOk P w H' s'.heap /\ Hand B outer a cls s'.heap /\
  (∀ b o, s'.heap.get? b = some o -> b ∉ frs outer -> (H' b ≠ none \/ ∃ o', s.heap.get? b = some o') -> B.get? b = some o) /\ E cls none H'
theorem rebase {h base B : Heap} : ∀ {l : List Env}, h.FunFrames base l -> (∀ b ∈ frs l, B.get? b = none) -> h.FunFrames B l
 | [], _, _ => trivial
 | env :: r, ⟨hk, ⟨L, o, hf, _, ho, hd⟩, hr⟩, hB => by
  refine ⟨hk, ⟨L, o, hf, hB L ?_, ho, hd⟩, rebase hr fun b hb => hB b ?_⟩
  ·unfold frs; rw [List.filterMap_cons, hf]; exact List.mem_cons_self
  ·unfold frs; rw [List.filterMap_cons, hf]; exact List.mem_cons_of_mem _ hb
section
variable {X : Cx} {pins : List (Addr × Obj)} {σ : St} {H H' : Hp} {s s' : Shared} {E E' : XK} {e : Value}
theorem Z3 (I : Inv X pins σ H s) (x : CX1 X.prog X.w X.stack H s E e s') : Arr X E e s' := by
 obtain ⟨a, cls, B, H', e1, ho, hg, un, hok, hd, kb, q⟩ := x
 have I' : Inv X pins σ H' s' := I.Ym (ch := []) ho un hok hg fun b z => absurd z (by simp)
 refine ⟨a, cls, B, H', pins, σ, e1, I', hd, fun b o hb hf r => kb b o hb hf ?_, q⟩
 rcases r with r | r
 ·exact .inl r
 ·exact .inr (uf I (.inr r))
theorem QJ {cls : Value} {a : Addr} {args : List Value} {h' : Heap} (I : Inv X pins σ H s) (m : Heap.MadeExcOf s.heap h' a cls args) (q : E cls none H) : Arr X E (.ref a) { s with heap := h' } := by
 have I' : Inv X pins σ H { s with heap := h' } := I.kept (t' := s.toks) m.keeps
 have hideN : ∀ b ∈ frs X.stack, (PySem.W.hideAll s.heap (frs X.stack)).get? b = none := fun b hb => PySem.W.hideAll_none _ hb
 refine ⟨a, cls, PySem.W.hideAll s.heap (frs X.stack), H, pins, σ, rfl, I', ⟨fun b o e => m.keeps b o (PySem.W.of_hideAll _ e), ?_, rebase I'.stack hideN, ?_⟩, fun b o hb hf r => ?_, q⟩
 ·cases z : (PySem.W.hideAll s.heap (frs X.stack)).get? a with
  | none => rfl
  | some o =>
   have := PySem.W.of_hideAll _ z
   rw [m.new] at this
   cases this
 ·obtain ⟨t, ht, _, _⟩ := m.there
  exact ⟨_, _, _, ht, rfl, rfl, rfl, .inl rfl⟩
 ·obtain ⟨o', ho'⟩ := uf I r
  have z := m.keeps b o' ho'
  have z2 : h'.get? b = some o := hb
  rw [z] at z2
  cases z2
  exact PySem.W.hideAll_get _ ho' hf
theorem vM {a : Addr} {cls : Value} {B : Heap} {h' : Heap} (I : Inv X pins σ H s) (hd : Hand B X.stack a cls s.heap) (kb : ∀ b o, s.heap.get? b = some o -> b ∉ frs X.stack -> Rel X pins H b -> B.get? b = some o)
  (hd' : Hand B X.stack a cls h') (up : s.heap.UpToSlots h') : Inv X pins σ H { s with heap := h' } /\ ∀ b o, h'.get? b = some o -> b ∉ frs X.stack -> Rel X pins H b -> B.get? b = some o := by
 refine ⟨Qw (t' := s.toks) I (fun b o r hf e => hd'.1 b o (kb b o e hf r)) fun b o hf e => ?_, fun b o hb hf r => ?_⟩
 ·obtain ⟨_, o', e', hn⟩ := hd.2.2.1.mem hf
  rw [e] at e'
  cases e'
  exact up b o e hn
 ·obtain ⟨o', e'⟩ := uf I r
  have z := hd'.1 b o' (kb b o' e' hf r)
  rw [hb] at z
  cases z
  exact kb b o e' hf r
end
noncomputable def Acc (X : Cx) (E : XK) : Prop := ∀ e s', Arr X E e s' -> X.xe e s'
theorem xq {X : Cx} {E : XK} (x : Acc X E) : Passes (CX1 X.prog X.w) X E := fun pins σ H s e s' I h => x e s' (Z3 I h)
theorem j8 {P : Program} {w : World} {K : PySem.W.Frag} {mg : Str -> Option Value} {base : Heap} {N : List Str} {qual : Str} {scope : Scope} {f : Addr} {cd : Value} {A : Around} {outer : List Env} {s : Shared} {H : Hp} {E : XK} :
  Acc (w9 (CX1 P w) P w K mg base N qual scope f cd A outer s H E) E := by
 intro e s1 x
 obtain ⟨a, cls, B, H', pins, σ, rfl, I, hd, kb, q⟩ := x
 show wpAny _ _ (leaving _ _) _ _ _
 unfold leaving
 refine wpAny_bind (zx (outer := outer) I.ok.frames rfl rfl hd fun h1 hd1 up1 => ?_)
 obtain ⟨I1, kb1⟩ := vM I hd kb hd1.hand up1
 refine vY hd1 fun h2 hd2 up2 => ?_
 obtain ⟨I2, kb2⟩ := vM I1 hd1.hand kb1 hd2.hand up2
 obtain ⟨g1, g2, ⟨_, _, g3⟩, g4⟩ := hd2.hand
 refine ⟨a, cls, B, H', rfl, I2.os, I2.bare, I2.base, I2.hok, ⟨g1, g2, g3, g4⟩, fun b o hb hf r => kb2 b o hb (fun z => ?_) ?_, q⟩
 ·rcases List.mem_cons.mp (I2.zp b z) with z | z
  ·rcases r with r | ⟨o', r⟩
   ·exact r (by rw [z]; exact I2.free)
   ·exact absurd (Nat.lt_of_lt_of_le (Heap.lt_size r) I2.ok.above) (by rw [z]; exact Nat.lt_irrefl _)
  ·exact hf z
 ·rcases r with r | ⟨o', r⟩
  ·exact .inl r
  ·exact .inr (.inl ⟨o', r, fun z => nomatch z⟩)
noncomputable abbrev vJ : List Value := [.type "Exception", .type "BaseException", .type "object"]
noncomputable abbrev wI : String := "Exception.__new__"
noncomputable def ExcAt (h : Heap) (C : Addr) : Prop := ∃ N nm q bs hdct sn sub ab col dd k0 k1 k2 k3 k5 mN,
 h.get? C = some (excClassObj nm q C N bs vJ hdct sn sub ab col dd k0 k1 k2 k3 k5 wI) /\ h.Ns N mN /\ mN "__init__" = none
noncomputable def qI (K : PySem.W.Frag) (C : Addr) : Bool := match K.lookup C with
 | some ⟨.type "type", _, .cls cd, sl⟩ => (match sl.toList with
  | [_, _, _, _, some (.builtin n), _] => decide (cd.mro = .ref C :: vJ) && decide (n = wI) && (cd.hasDel == false) && (PySem.W.nsOkIn K cd.ns && decide (PySem.W.nsIn K cd.ns "__init__" = some none))
  | _ => false)
 | _ => false
theorem wy {K : PySem.W.Frag} {h : Heap} {C : Addr} (X : K.In h) (q : qI K C = true) : ExcAt h C := by
 unfold qI at q
 split at q
 ·rename_i dd cd sl look
  split at q
  ·rename_i j0 j1 j2 j3 n j5 hsl
   rw [Bool.and_eq_true, Bool.and_eq_true, Bool.and_eq_true, Bool.and_eq_true] at q
   obtain ⟨⟨⟨hm, hn⟩, hdel⟩, hns, hini⟩ := q
   have hm := of_decide_eq_true hm
   have hn := of_decide_eq_true hn
   have hini := of_decide_eq_true hini
   have hdel := eq_of_beq hdel
   obtain ⟨nm, bs, mro, ns, qn, hd, sn, sub, ab, col, del⟩ := cd
   have hm : mro = _ := hm
   have hdel : del = false := hdel
   have hsl2 : sl = #[j0, j1, j2, j3, some (.builtin n), j5] := Array.toList_inj.mp hsl
   subst hm hdel hsl2 hn
   exact ⟨ns, nm, qn, bs, hd, sn, sub, ab, col, dd, j0, j1, j2, j3, j5, _, X _ _ look, .of_isNs (PySem.W.isNs_of_in X hns), PySem.W.nsMap_none_of_in X hns hini⟩
  ·cases q
 ·cases q
section
variable {X : Cx} {E : XK}
noncomputable def Zp (E : XK) (C : Addr) : TS := fun _ _ H => E (.ref C) none H
theorem QW {x : Str} {C : Addr} {np cpos pos : Pos} (hc : X.calm = true) (acc : Acc X E) (hg : Gl X x) (hm : X.mg x = some (.ref C)) (hC : qI X.K C = true) (hd : (x == ("__debug__" : Str)) = false := by decide) :
  PS X (.Raise (some (.Call (.Name x np) [] [] cpos)) none pos) (Zp E C) := by
 intro pins s σ H D I h
 obtain ⟨N, nm, q, bs, hdct, sn, sub, ab, col, dd, k0, k1, k2, k3, k5, mN, hC, hN, hi⟩ := wy I.kIn hC
 refine wpAny_Raise_call_subT (bmB := vJ) (C := C) (N := N) (mN := mN) (newId := wI) (nm := nm) (q := q) (bs := bs) (bm := vJ) (hdct := hdct) (sn := sn) (sub := sub) (ab := ab) (col := col) (dd := dd) (k0 := k0) (k1 := k1) (k2 := k2) (k3 := k3) (k5 := k5) PySem.F.excBase_Exception (by decide) (I.ok.hd hc) rfl hi ?_
 refine z0 I hg hm ⟨rfl, PySem.evalArgs_none ⟨rfl, by show 0 <= sizeLine; decide, hC, hN, .base, fun h' e m => ?_⟩⟩ hd
 exact acc _ _ (QJ I m h)
end
structure ya (sc ls : Scope) : Prop where
 kind : ls.kind = .function
 co : ls.isCoroutine = false
 gen : ls.isGenerator = false
 only : ∀ y ∈ ls.names, y.2 = .free \/ y.2 = .globalImplicit
 uniq : ∀ y ∈ ls.names, ls.names.lookup y.1 = some y.2
 free : ∀ y ∈ ls.names, y.2 = .free -> sc.names.lookup y.1 = some .cell
noncomputable abbrev zN (X : Cx) (qual : Str) (ls : Scope) (f : Addr) (cd : Value) (s : Shared) : Env := PySem.W.envX qual ls s.heap.objs.size f cd (qU X.env.cells ls.names [])
noncomputable def xp (X Y : Cx) (qual : Str) (ls : Scope) (f : Addr) (cd : Value) (s : Shared) (H : Hp) (E : XK) : Cx where
 prog := X.prog
 w := X.w
 K := X.K
 mg := X.mg
 base := X.base
 A := Y.A.deeper (zN X qual ls f cd s)
 N := X.N
 s_0 := s
 H_0 := H
 env := zN X qual ls f cd s
 outer := Y.stack
 stack := zN X qual ls f cd s :: Y.stack
 ex := []
 fn := fun _ => false
 calm := true
 pn := []
 xe := fun e s' => wpAny (model X.prog X.w) (Y.A.deeper (zN X qual ls f cd s)) (leaving (zN X qual ls f cd s) e) (fun _ s'' => CX1 X.prog X.w Y.stack H s E e s'') (fun e' s'' => CX1 X.prog X.w Y.stack H s E e' s'') s'
section
variable {X Y : Cx} {qual : Str} {ls : Scope} {f : Addr} {cd : Value} {s s1 : Shared} {H H1 : Hp} {E : XK} {pins : List (Addr × Obj)} {σ : St}
theorem zo (ok : X.Ok) (L : ya X.env.scope ls) {x : Str} {c : Addr} (h : (qU X.env.cells ls.names []).lookup x = some c) : (x, NameKind.free) ∈ ls.names /\ X.env.cells.lookup x = some c := by
 rcases zi (PySem.mem_of_lookup h) with z | ⟨z, rfl⟩
 ·cases z
 ·obtain ⟨c', e⟩ := ok.has x (.inl (L.free _ z rfl))
  exact ⟨z, by rw [e]; rfl⟩
theorem Qc (ok : X.Ok) (L : ya X.env.scope ls) {x : Str} (h : (x, NameKind.free) ∈ ls.names) : ∃ c, (qU X.env.cells ls.names []).lookup x = some c /\ X.env.cells.lookup x = some c := by
 obtain ⟨c, e⟩ := mem_lookup (zb (cells := X.env.cells) (acc := []) h)
 exact ⟨c, e, (zo ok L e).2⟩
theorem Wo {h1 : Heap} {tk : Nat} (L : ya X.env.scope ls) (I1 : Inv X pins σ H1 s1) (hcell : ∀ x c v, X.env.cells.lookup x = some c -> s1.heap.IsCell c v -> s.heap.IsCell c v) (hfree : ∀ x c, X.env.cells.lookup x = some c -> H c = none)
  (hd : Y.A.handled = none) (e0 : jl X.prog X.w X.K X.mg X.base Y.A Y.stack s H) (hns : h1.Ns s.heap.objs.size (fun _ => none)) (kp : ∀ b o, s.heap.get? b = some o -> h1.get? b = some o) :
  Inv (xp X Y qual ls f cd s H E) [] σ H { s with heap := h1, toks := tk } := by
 have noA : ∀ b : Addr, b ∉ (xp X Y qual ls f cd s H E).ex := fun b z => absurd (show b ∈ ([] : List Addr) from z) (by simp)
 refine ⟨⟨e0.mod, L.kind, rfl, rfl, Nat.le_refl _, fun y z c h1 h2 => ?_, fun y hy => ?_, fun y c z => Bool.noConfusion (show false = true from z), fun _ => hd, Around.frames_deeper e0.frames, .inr ⟨rfl, rfl⟩, fun b z => absurd z (noA b), e0.bs, e0.bsz, fun b _ _ => noA b, fun b z => absurd z (noA b), e0.zU, e0.frf⟩,
  rfl, e0.bare, Un.kept kp, ⟨_, hns, fun i y v h1 h2 h3 => ?_⟩, fun y c h => ?_, e0.hok.fresh (Nat.le_refl _), fun y c h => hfree y c (zo I1.ok L h).2, fun p hp => absurd (show p ∈ ([] : List (Addr × Obj)) from hp) (by simp), e0.hok.kept kp, I1.len⟩
 ·exact I1.ok.inj y z c (zo I1.ok L h1).2 (zo I1.ok L h2).2
 ·have hy : ls.names.lookup y = some .cell \/ ls.names.lookup y = some .free := hy
  rcases hy with hy | hy
  ·rcases L.only _ (PySem.mem_of_lookup hy) with z | z <;> cases z
  ·obtain ⟨c, e, _⟩ := Qc I1.ok L (PySem.mem_of_lookup hy)
   exact ⟨c, e⟩
 ·have h3 : ls.names.lookup y = some .local \/ ls.names.lookup y = some .cell \/ ls.names.lookup y = some .free := h3
  have hfr : ls.names.lookup y = some .free := by
   rcases h3 with z | z | z
   ·rcases L.only _ (PySem.mem_of_lookup z) with q | q <;> cases q
   ·rcases L.only _ (PySem.mem_of_lookup z) with q | q <;> cases q
   ·exact z
  have hc := L.free _ (PySem.mem_of_lookup hfr) rfl
  obtain ⟨c, e1, e2⟩ := Qc I1.ok L (PySem.mem_of_lookup hfr)
  obtain ⟨m, _, hl⟩ := I1.loc
  obtain ⟨u, r, l⟩ := hl i y v h1 h2 (.inr (.inl hc))
  refine ⟨u, r, .inr ⟨.inr hfr, c, e1, ?_⟩⟩
  rcases l with ⟨k, _⟩ | ⟨_, c', e', z⟩
  ·have k : X.env.scope.names.lookup y = some .local := k
   rw [show X.env.scope.names.lookup y = _ from hc] at k
   cases k
  ·rw [e2] at e'
   cases e'
   exact (hcell y c _ e2 z).keeps kp
 ·obtain ⟨_, e⟩ := zo I1.ok L h
  obtain ⟨v, z⟩ := I1.cell y c e
  exact ⟨v, (hcell y c v e z).keeps kp⟩
theorem V6 (L : ya X.env.scope ls) : Acc (xp X Y qual ls f cd s H E) E := by
 intro e s1 x
 obtain ⟨a, cls, B, H', pins, σ, rfl, I, hd, kb, q⟩ := x
 show wpAny _ _ (leaving _ _) _ _ _
 unfold leaving
 refine wpAny_bind (zx (outer := Y.stack) I.ok.frames rfl rfl hd fun h1 hd1 up1 => ?_)
 obtain ⟨I1, kb1⟩ := vM I hd kb hd1.hand up1
 refine vY hd1 fun h2 hd2 up2 => ?_
 obtain ⟨I2, kb2⟩ := vM I1 hd1.hand kb1 hd2.hand up2
 obtain ⟨g1, g2, ⟨_, _, g3⟩, g4⟩ := hd2.hand
 refine ⟨a, cls, B, H', rfl, I2.os, I2.bare, I2.base, I2.hok, ⟨g1, g2, g3, g4⟩, fun b o hb hf r => kb2 b o hb (fun z => ?_) ?_, q⟩
 ·rcases List.mem_cons.mp (I2.zp b z) with z | z
  ·rcases r with r | ⟨o', r⟩
   ·exact r (by rw [z]; exact I2.free)
   ·exact absurd (Nat.lt_of_lt_of_le (Heap.lt_size r) I2.ok.above) (by rw [z]; exact Nat.lt_irrefl _)
  ·exact hf z
 ·rcases r with r | ⟨o', r⟩
  ·exact .inl r
  ·exact .inr (.inl ⟨o', r, fun z => nomatch z⟩)
end
structure Zc (s : Shared) (H : Hp) (fr : List Addr) (f c : Addr) (qual : Str) (params : Arguments) (body : Expr) (ls : Scope) (clos : List (Str × Addr)) : Prop where
 obj : ∃ pm ctv, s.heap.get? f = some (PySem.W.kla_obj "<lambda>" qual params body ls clos pm c ctv)
 fN : H f = none
 fF : f ∉ fr
 code : ∃ oc vs t, s.heap.get? c = some oc /\ oc.data = .fields vs /\ vs[1]? = some (.str qual t)
 cN : H c = none
 cF : c ∉ fr
section
variable {X Y : Cx} {qual : Str} {params : Arguments} {body : Expr} {ls : Scope} {f c : Addr} {pins : List (Addr × Obj)} {σ1 : St} {E : XK} {tb : TE} {k i : Nat} {x : Str} {p pos : Pos}
theorem Wi (I1 : Inv X pins σ1 Y.H_0 Y.s_0) (eP : Y.prog = X.prog) (ew : Y.w = X.w) (eK : Y.K = X.K) (em : Y.mg = X.mg) (eb : Y.base = X.base) (eo : Y.outer = X.stack) (ex : Y.ex = []) (hfn : ∀ y, X.fn y = true) (L : ya X.env.scope ls)
  (la : Zc Y.s_0 Y.H_0 Y.fs f c qual params body ls (qU X.env.cells ls.names [])) (hr : vW (k + 1) Y.A) (acc : Acc Y E)
  (hbind : ∀ pm ctv, bindArgs (PySem.W.kla_fn "<lambda>" qual params body ls (qU X.env.cells ls.names []) pm (.ref c) ctv) ⟨[], []⟩ = pure [])
  (hb : ∀ (s : Shared) (H : Hp), PE (xp X Y qual ls f (.ref c) s H E) body tb) (hx : Y.N[i]? = some x) (hv : Vis Y.env.scope x) (hdb : (x == ("__debug__" : Str)) = false := by decide) (hcd : (x == ("__classdict__" : Str)) = false := by decide) :
  PE Y (.Call (.Name x p) [] [] pos) (fun σ H Q => σ[i]? = some (some (.ref f)) /\ tb σ1 H Q) := by
 intro pins' s σ H Q I ⟨hσ, hq⟩
 refine wpAny_Call_Name_kw (thn (x8 hx hv hdb hcd pins' s σ H (fun v H' => v = .ref f /\ H' = H) I ⟨_, hσ, rfl, rfl⟩) fun u s2 ⟨v, H2, I2, ru, ev, eH⟩ => ?_)
 subst ev eH
 cases (show u = Value.ref f from ru)
 have keep : ∀ b o, Y.s_0.heap.get? b = some o -> Y.H_0 b = none -> b ∉ Y.fs -> s2.heap.get? b = some o /\ H2 b = none := fun b o e n nf =>
  ⟨I2.base.keep b o e n nf (by rw [ex]; simp), I2.base.free b o e n (by rw [ex]; simp)⟩
 obtain ⟨⟨pm, ctv, ho⟩, fN, fF, ⟨oc, vs, t, hoc, hod, hov⟩, cN, cF⟩ := la
 have ho2 := (keep f _ ho fN fF).1
 have hoc2 := (keep c _ hoc cN cF).1
 have hcalm : Y.A.handled = none := hr.hd
 refine PySem.W.callWith_F0 ⟨_, _, _, _, ho2⟩ ?_
 have lim : s2.heap.NoLimit := I2.nolimit
 have cells : ∀ y d, X.env.cells.lookup y = some d -> d ∉ Y.fs := fun y d e hd => by
  have z : d ∈ X.env.locals :: X.fs := I1.zp d (by rw [<- eo]; exact hd)
  rcases List.mem_cons.mp z with z | z
  ·exact I1.cne y d e z
  ·obtain ⟨_, o1, e1, _⟩ := I1.ok.zU.mem z
   exact absurd (Nat.lt_of_lt_of_le (Heap.lt_size e1) (I1.ok.cab y d (hfn y) e)) (Nat.lt_irrefl _)
 have hcell : ∀ y d v, X.env.cells.lookup y = some d -> Y.s_0.heap.IsCell d v -> s2.heap.IsCell d v := fun y d v e ⟨o, h1, h2⟩ => ⟨o, (keep d o h1 (I1.freeC y d e) (cells y d e)).1, h2⟩
 have hfree : ∀ y d, X.env.cells.lookup y = some d -> H2 d = none := fun y d e => by
  obtain ⟨v, o, h1, _⟩ := I1.cell y d e
  exact (keep d o h1 (I1.freeC y d e) (cells y d e)).2
 have e0 : jl X.prog X.w X.K X.mg X.base Y.A Y.stack s2 H2 := by
  have := I2.ZI
  rw [eP, ew, eK, em, eb] at this
  exact this
 have body_ok : codeAny (model Y.prog Y.w) Y.A (.call (.ref f) ⟨[], []⟩) (CR (CX1 Y.prog Y.w) Y.stack Y.prog Y.w H2 s2 Q E) s2 := by
  refine PySem.W.kla_callFunE hr.depth ho2 rfl L.co L.gen rfl ⟨c, oc, vs, t, rfl, hoc2, hod, hov⟩ ?_
  rw [hbind]
  refine wpAny_pure (wpAny_newFunctionEnv (fun y hy z => ?_) (fun y hy => nomatch hy) (fun h1 hns hsb => ⟨lim.fresh _ hsb, PySem.W.kla_codeExpr ?_⟩) L.kind)
  ·rcases L.only y hy with q | q <;> (rw [q] at z; cases z)
  ·have kp : ∀ b o, s2.heap.get? b = some o -> h1.get? b = some o := fun b o e => (hsb.2 b (Nat.ne_of_lt (Heap.lt_size e))).trans (Heap.get?_push_of_some _ e)
   have I3 : Inv (xp X Y qual ls f (.ref c) s2 H2 E) [] σ1 H2 { s2 with heap := h1, toks := s2.toks + 0 } := Wo L I1 hcell hfree hcalm e0 hns kp
   rw [eP, ew]
   have q := hb s2 H2 [] _ σ1 H2 Q I3 hq
   refine wpAny_mono q (fun v s' ⟨vv, H', J, rv, qq⟩ => ?_) fun e s' hs => ?_
   ·exact ⟨vv, H', J.os, J.bare, J.base, J.hok, rv, qq⟩
   ·exact hs
 refine wpAny_call (codeAny_mono body_ok fun r s' hq => ?_)
 cases r with
 | error e => exact xq acc pins' σ H2 s2 e s' I2 hq
 | ok fl =>
  cases fl with
  | ret u => exact I2.after hq
  | next => exact False.elim hq
  | brk => exact False.elim hq
  | cont => exact False.elim hq
end
section
variable {M : Model} {A : Around} {E : Value -> Shared -> Prop} {s : Shared} {e C C' : Addr} {oe : Obj} {Q : Bool -> Shared -> Prop}
theorem Vx (hC : ExcAt s.heap C) (he : s.heap.get? e = some oe) (hcls : oe.cls = .ref C) (h : Q true s) : wpAny M A (excMatches (.ref e) (.ref C)) Q E s := by
 obtain ⟨N, nm, q, bs, hdct, sn, sub, ab, col, dd, k0, k1, k2, k3, k5, mN, hC, hN, hi⟩ := hC
 obtain ⟨hp, g, d, tk, os⟩ := s
 exact wpAny_excMatches_sub_self hC he hcls (by decide) h
theorem QG (hC : ExcAt s.heap C) (hC' : ExcAt s.heap C') (he : s.heap.get? e = some oe) (hcls : oe.cls = .ref C) (hne : C ≠ C') (h : Q false s) : wpAny M A (excMatches (.ref e) (.ref C')) Q E s := by
 obtain ⟨N, nm, q, bs, hdct, sn, sub, ab, col, dd, k0, k1, k2, k3, k5, mN, hC, hN, hi⟩ := hC
 obtain ⟨N', nm', q', bs', hdct', sn', sub', ab', col', dd', k0', k1', k2', k3', k5', mN', hC', hN', hi'⟩ := hC'
 obtain ⟨hp, g, d, tk, os⟩ := s
 have c1 : (Value.ref C' :: vJ).contains (.type "BaseException") = true := by
  rw [List.contains_cons, show vJ.contains (.type "BaseException") = true by decide, Bool.or_true]
 have c2 : (Value.ref C :: vJ).contains (.ref C') = false := by
  rw [List.contains_cons]
  have : (Value.ref C' == Value.ref C) = false := by
   rw [beq_eq_false_iff_ne]
   exact fun z => hne (Value.ref.inj z).symm
  rw [this]
  rfl
 have f := tc_notTuple
 unfold excMatches
 repeat (first | (with_reducible refine wpAny_loadPart_at he ?_; rw [hcls]) | with_reducible refine wpAny_loadPart_at hC' ?_ | with_reducible refine wpAny_loadPart_at hC ?_ | (with_reducible refine wpAny_isSubtype_exc hC' ?_; rw [c1]) | (with_reducible refine wpAny_isSubtype_exc hC ?_; rw [c2]) | wp_step)
 exact h
end
noncomputable abbrev Cx.marked (X : Cx) (e : Value) : Cx := { X with A := X.A.mark (some e), calm := false, xe := fun _ _ => False }
section
variable {X : Cx} {pins : List (Addr × Obj)} {σ : St} {H : Hp} {s : Shared}
theorem xm (I : Inv X pins σ H s) (e : Value) : Inv (X.marked e) pins σ H s :=
 ⟨⟨I.ok.mod, I.ok.kind, I.ok.glob, I.ok.blt, I.ok.above, I.ok.inj, I.ok.has, I.ok.cab, fun z => Bool.noConfusion (show false = true from z), I.ok.frames, I.ok.stk, I.ok.exf, I.ok.bs, I.ok.bsz, I.ok.noex, I.ok.exfs, I.ok.zU, I.ok.frf⟩, I.os, I.bare, I.base, I.loc, I.cell, I.free, I.freeC, I.pin, I.hok, I.len⟩
theorem wc {e : Value} (I : Inv (X.marked e) pins σ H s) (ok : X.Ok) : Inv X pins σ H s := ⟨ok, I.os, I.bare, I.base, I.loc, I.cell, I.free, I.freeC, I.pin, I.hok, I.len⟩
end
inductive Hs (X : Cx) : List ExceptHandler -> List (Addr × Int) -> Prop
 | nil : Hs X [] []
 | cons {x : Str} {C : Addr} {k : Int} {r : List ExceptHandler} {l : List (Addr × Int)} {np p1 p2 p3 p4 p5 : Pos} {j : Nat} : Gl X x -> X.mg x = some (.ref C) -> qI X.K C = true -> (x == ("__debug__" : Str)) = false -> Hs X r l ->
   Hs X (.ExceptHandler (some (.Name x np)) none [.Return (some (.List [.UnaryOp .USub (.Constant (.int k) j p1) p2] p3)) p4] p5 :: r) ((C, k) :: l)
section
variable {X : Cx} {pins : List (Addr × Obj)} {σ : St} {H : Hp} {s : Shared} {a C : Addr} {B : Heap} {D : Ends}
theorem WA {hs : List ExceptHandler} {l : List (Addr × Int)} (h : Hs X hs l) : ∀ {s : Shared} {k : Int}, qI X.K C = true -> Inv X pins σ H s -> zR B X.stack a (.ref C) s.heap -> (∀ b o, s.heap.get? b = some o -> b ∉ frs X.stack -> Rel X pins H b -> B.get? b = some o) ->
  l.lookup C = some k -> (∀ p, H p = none -> D.rt (.ref p) (upd H p (.lst [.int (-k)]))) -> wpAny (model X.prog X.w) X.A (handleBy (.ref a) X.env hs) (SP X pins D) X.xe s := by
 induction h with
 | nil => intro s k _ _ _ _ hl; cases hl
 | @cons x C' k' r l np p1 p2 p3 p4 p5 j hg hm hC' hd _ ih =>
  intro s k hC I ha kb hl q
  have em := hC
  refine wpAny_handleBy_cons (codeAny_handlers_test ?_) (by intro z; cases z)
  have IM := xm I (.ref a)
  refine z0 (X := X.marked (.ref a)) IM hg hm ?_ hd
  obtain ⟨oe, vs, a0, he, hcls, hd', h0, rr⟩ := ha.2.2.2
  by_cases hcc : C = C'
  ·subst hcc
   have hk : k' = k := by
    rw [List.lookup_cons_self] at hl
    exact Option.some.inj hl
   subst hk
   refine Vx (wy I.kIn hC) he hcls ?_
   show codeAny _ _ _ _ _
   refine codeAny_handlers_suite (vY ha fun h2 ha2 up => ?_)
   obtain ⟨I2, kb2⟩ := vM I ha.hand kb ha2.hand up
   have IM2 := xm I2 (.ref a)
   have pe : PSs (X.marked (.ref a)) [.Return (some (.List [.UnaryOp .USub (.Constant (.int k') j p1) p2] p3)) p4] _ := z7 (xc (js (uy (W4 VA jL) jQ)))
   refine wpAny_mono (pe pins _ σ H D IM2 ⟨k', rfl, by show 1 <= sizeLine; decide, q⟩) (fun f s3 hs => ?_) fun _ _ z => z.elim
   cases f with
   | ret u =>
    obtain ⟨v, σ', H', J, rv, qq⟩ := hs
    exact ⟨v, σ', H', wc J I.ok, rv, qq⟩
   | next => obtain ⟨σ', H', J, qq⟩ := hs; exact ⟨σ', H', wc J I.ok, qq⟩
   | brk => obtain ⟨σ', H', J, qq⟩ := hs; exact ⟨σ', H', wc J I.ok, qq⟩
   | cont => obtain ⟨σ', H', J, qq⟩ := hs; exact ⟨σ', H', wc J I.ok, qq⟩
  ·refine QG (wy I.kIn hC) (wy I.kIn hC') he hcls hcc ?_
   show wpAny _ _ _ _ _ _
   refine ih hC I ha kb ?_ q
   rw [List.lookup_cons] at hl
   rw [show (C == C') = false from beq_eq_false_iff_ne.mpr hcc] at hl
   exact hl
end
noncomputable def Z6 (K : PySem.W.Frag) (l : List (Addr × Int)) (rt : VK) : XK := fun c _ H => ∃ C k, c = .ref C /\ qI K C = true /\ l.lookup C = some k /\ ∀ p, H p = none -> rt (.ref p) (upd H p (.lst [.int (-k)]))
noncomputable abbrev Cx.Vd (X : Cx) (pins : List (Addr × Obj)) : Cx := { X with pn := X.pn ++ pins }
theorem Vz {X : Cx} {pins : List (Addr × Obj)} {σ : St} {H : Hp} {s : Shared} (I : Inv X pins σ H s) : Inv (X.Vd pins) [] σ H s :=
 ⟨⟨I.ok.mod, I.ok.kind, I.ok.glob, I.ok.blt, I.ok.above, I.ok.inj, I.ok.has, I.ok.cab, I.ok.hd, I.ok.frames, I.ok.stk, I.ok.exf, I.ok.bs, I.ok.bsz, I.ok.noex, I.ok.exfs, I.ok.zU, I.ok.frf⟩, I.os, I.bare, I.base, I.loc, I.cell, I.free, I.freeC,
  fun p hp => I.pin p (by have z : p ∈ (X.pn ++ pins) ++ [] := hp; rwa [List.append_nil] at z), I.hok, I.len⟩
theorem wo {X : Cx} {pins pins' : List (Addr × Obj)} {σ : St} {H : Hp} {s : Shared} (I : Inv (X.Vd pins) pins' σ H s) (ok : X.Ok) : Inv X pins σ H s :=
 ⟨ok, I.os, I.bare, I.base, I.loc, I.cell, I.free, I.freeC, fun p hp => I.pin p (List.mem_append_left _ hp), I.hok, I.len⟩
theorem ZQ {X : Cx} {body : List Stmt} {h0 : ExceptHandler} {hs : List ExceptHandler} {l : List (Addr × Int)} {pos : Pos} {tb : Ends -> TS} {L : Addr} (hst : X.stack = X.env :: X.outer) (hfr : X.env.frame = some L) (hH : Hs X (h0 :: hs) l)
  (hb : ∀ (D : Ends) (pins : List (Addr × Obj)), PSs ((X.Vd pins).zL (Arr (X.Vd pins) (Z6 X.K l D.rt))) body (tb D)) : PS X (.Try body (h0 :: hs) [] [] pos) (fun D σ H => tb D D σ H) := by
 intro pins s σ H D I h
 refine wpAny_Try_except (wpAny_mono (hb D pins [] s σ H D ((Vz I).zL _) h) (fun f s1 q => ?_) fun e s1 x => ?_)
 ·have q := q.wJ
  cases f with
  | next => obtain ⟨σ', H', J, qq⟩ := q; exact wpAny_execs_nil ⟨σ', H', wo J I.ok, qq⟩
  | ret v => obtain ⟨v, σ', H', J, r, qq⟩ := q; exact ⟨v, σ', H', wo J I.ok, r, qq⟩
  | brk => obtain ⟨σ', H', J, qq⟩ := q; exact ⟨σ', H', wo J I.ok, qq⟩
  | cont => obtain ⟨σ', H', J, qq⟩ := q; exact ⟨σ', H', wo J I.ok, qq⟩
 ·obtain ⟨a, cls, B, H', pins', σ', rfl, J, hd, kb, C, k, rfl, hC, hl, q⟩ := x
  have hfrm : X.A.frames = some (X.env :: X.outer) := by rw [<- hst]; exact J.ok.frames
  have J := wo J I.ok
  have hd : Hand B X.stack a (.ref C) s1.heap := hd
  have kb : ∀ b o, s1.heap.get? b = some o -> b ∉ frs X.stack -> Rel X pins H' b -> B.get? b = some o := fun b o h1 h2 r => kb b o h1 h2 (by
   rcases r with r | r | r | r | ⟨p, hp, r⟩
   ·exact .inl r
   ·exact .inr (.inl r)
   ·exact .inr (.inr (.inl r))
   ·exact .inr (.inr (.inr (.inl r)))
   ·exact .inr (.inr (.inr (.inr ⟨p, List.mem_append_left _ hp, r⟩))))
  have hd0 := hd
  rw [hst] at hd0
  refine zx hfrm hfr hfr hd0 fun h1 hd1 up1 => ?_
  rw [<- hst] at hd1
  obtain ⟨I1, kb1⟩ := vM J hd kb hd1.hand up1
  refine vY hd1 fun h2 hd2 up2 => ?_
  obtain ⟨I2, kb2⟩ := vM I1 hd1.hand kb1 hd2.hand up2
  exact WA hH hC I2 hd2 kb2 hl q
theorem V0 {X : Cx} {pins : List (Addr × Obj)} {σ : St} {H : Hp} {s : Shared} {P : Addr} {ps more : Array Value} {h' : Heap} {tk : Nat} (I : Inv X pins σ H s) (hP : H P = some (.tbl ps)) (hx : Heap.ExtBut P s.heap h')
  (hP' : h'.get? P = some { cls := .none, data := .fields (ps ++ more) }) : Inv X pins σ (upd H P (.tbl (ps ++ more))) { s with heap := h', toks := tk } := by
 have ne : ∀ b, H b = none -> b ≠ P := fun b n z => by rw [z, hP] at n; cases n
 have ne2 : ∀ b u, H b = some u -> (∀ ps, u ≠ .tbl ps) -> b ≠ P := fun b u n q z => by rw [z, hP] at n; exact q ps (Option.some.inj n).symm
 refine I.un ⟨fun b o e n _ _ => hx b o (ne b n) e, fun b o e n _ _ => ⟨o.slots, hx b o (ne b n) e⟩, fun b o e n _ => by rw [qJ (ne b n)]; exact n, fun b o e _ => ?_, fun b xs e => by rw [qJ (ne2 b _ e fun _ z => nomatch z)]; exact e,
  fun b o u e => by rw [qJ (ne2 b _ e fun _ z => nomatch z)]; exact e, fun b qs e => ?_⟩ fun b u e => ?_
 ·by_cases hb : b = P
  ·rw [hb]; exact ⟨_, hP'⟩
  ·exact ⟨o, hx b o hb e⟩
 ·by_cases hb : b = P
  ·subst hb
   rw [hP] at e
   cases e
   exact ⟨more, vn⟩
  ·exact ⟨#[], by rw [qJ hb, e]; simp⟩
 ·by_cases hb : b = P
  ·subst hb
   rw [vn] at e
   cases e
   exact hP'
  ·rw [qJ hb] at e
   refine (I.hok b u e).uU (fun c v hc q => ?_) (fun c q => ?_) fun c xs q => ?_
   ·refine hx c v ?_ q
    rcases hc with z | z
    ·rw [z]; exact hb
    ·exact ne2 c _ z fun _ z => nomatch z
   ·rw [qJ (ne2 c _ q fun _ z => nomatch z)]; exact q
   ·rw [qJ (ne2 c _ q fun _ z => nomatch z)]; exact q
theorem ZV {CX : CXT} {P : Program} {w : World} {K : PySem.W.Frag} {mg : Str -> Option Value} {base : Heap} {k : Nat} {f : Addr} {name qual : Str} {params : Arguments} {body : List Stmt} {scope : Scope} {dV kV doc pm cdv ct oc : Value} {an od : Option Addr}
  {osl : Array (Option Value)} {N ps : List Str} {A : Around} {outer : List Env} {s : Shared} {H : Hp} {args : Args} {us : List Value} {vs : List V} {Q : VK} {E : XK}
  (lk : K.lookup f = some ⟨oc, od, .func (PySem.W.fnOf name qual params body scope dV kV doc pm an cdv ct), osl⟩) (hcd : PySem.W.codeIn K cdv qual = true) (S : qB N ps scope) (hl : vs.length = ps.length) (hr : vW (k + 1) A)
  (e0 : jl P w K mg base A outer s H) (hb : BindsTo s (PySem.W.fnOf name qual params body scope dV kV doc pm an cdv ct) args (ps.zip us)) (r : Vals vs us)
  (hbody : ∃ t, PSs (w9 CX P w K mg base N qual scope f cdv A outer s H E) body t /\ t { nx := fun _ H' => Q .non H', rt := Q } (start N vs) H) :
  codeAny (model P w) A (.call (.ref f) args) (CR CX outer P w H s Q E) s := by
 have F := Vr (P := P) (w := w) (mg := mg) (base := base) (CX := CX) (k := k) (sp := fun vs' H' Q' E' => vs'.length = ps.length /\ False) lk hcd S (fun _ _ _ _ z => z.1) fun _ _ _ _ _ _ _ _ z => z.2.elim
 have KX : K.In s.heap := e0.mod.kin.keeps fun b o e => (e0.bs b o e).1
 have lim : s.heap.NoLimit := e0.mod.nolimit.keeps fun b o e => (e0.bs b o e).1
 have hkind : ∀ y ∈ ps.zip us, scope.names.lookup y.1 = some .local \/ (scope.names.lookup y.1 = some .cell /\ ((cellsFrom (s.heap.objs.size + 1) scope.names []).lookup y.1).isSome = true) := fun ⟨n, v⟩ hy => by
  rcases S.par n (List.of_mem_zip hy).1 with q | q
  ·exact .inl q
  ·exact .inr ⟨q, PySem.W.cellsFrom_some _ _ _ (.inl q)⟩
 refine codeAny_call_function hr.depth (KX _ _ lk) rfl S.co S.gen rfl (PySem.W.codeRec_of KX hcd) (hb _ _ _ _ ?_)
 refine wpAny_newFunctionEnv_cells S.kind hkind fun env he s1 x => ?_
 subst he
 refine ⟨lim.keeps x.toInCall.keep, codeAny_func ?_⟩
 obtain ⟨t, ht, hq⟩ := hbody
 have I : Inv (w9 CX P w K mg base N qual scope f cdv A outer s H E) [] (start N vs) H s1 := xB S hr.hd e0 hl r x
 refine wpAny_mono (ht [] s1 (start N vs) H _ I hq) (fun fl s' hs => ?_) fun e s' hs => hs
 have fin : ∀ {σ' : St} {H' : Hp} {v : V} {u : Value}, Inv (w9 CX P w K mg base N qual scope f cdv A outer s H E) [] σ' H' s' -> RelV v u -> Q v H' -> CE outer P w H s Q u s' :=
  fun {σ' H' v u} J rv q => ⟨v, H', J.os, J.bare, J.base, J.hok, rv, q⟩
 cases fl with
 | ret u =>
  obtain ⟨v, σ', H', J, rv, q⟩ := hs
  exact fin J rv q
 | next =>
  obtain ⟨σ', H', J, q⟩ := hs
  exact fin (v := V.non) (u := Value.none) J rfl q
 | brk =>
  obtain ⟨_, _, _, q⟩ := hs
  exact False.elim q
 | cont =>
  obtain ⟨_, _, _, q⟩ := hs
  exact False.elim q
theorem uH {X : Cx} {E : XK} : Acc (X.zL (Arr X E)) E := fun e s' x => by
 obtain ⟨a, cls, B, H', pins, σ, e1, I, hd, kb, q⟩ := x
 exact ⟨a, cls, B, H', pins, σ, e1, I.wJ, hd, kb, q⟩
structure wW (mg : Str -> Option Value) (base : Heap) (c P : Addr) : Prop where
 code : PySem.W.CodeHd base c P
 bm : ∃ bm ob, mg "__builtins__" = some (.ref bm) /\ bm ≠ builtinsNs /\ base.get? bm = some ob /\ ob.cls = .type "module" /\ ob.dict = some builtinsNs /\ ob.data = .plain
section
variable {X : Cx} {pins : List (Addr × Obj)} {σ : St} {H : Hp} {s : Shared} {c P : Addr} {params : Arguments} {body : Expr} {ls : Scope} {lpos : Pos} {E : Value -> Shared -> Prop} {Q : Value -> Shared -> Prop}
theorem VX (I : Inv X pins σ H s) (BL : wW X.mg X.base c P) (hc : X.env.code = .ref c) (hP : H P = some (.tbl #[])) (L : ya X.env.scope ls) (hdef : defaultsOf params X.env = ([], []))
  (h : ∀ (s1 : Shared) (more : Array Value) (f c' : Addr), Inv X pins σ (upd H P (.tbl more)) s1 -> Zc s1 (upd H P (.tbl more)) (frs X.stack) f c' (X.env.qual ++ "<lambda>") params body ls (qU X.env.cells ls.names []) -> Q (.ref f) s1) :
  wpAny (model X.prog X.w) X.A (eval (.Lambda params body ls lpos) X.env) Q E s := by
 have hPo : s.heap.get? P = some (PySem.W.tabObj #[]) := I.hok P _ hP
 have hg := I.mod.glob.keeps I.bk
 obtain ⟨bm, ob, b1, b2, b3, b4, b5, b6⟩ := BL.bm
 have nP : ∀ b o, X.base.get? b = some o -> b ≠ P := fun b o e z => by
  have := (I.bs b o e).2
  rw [z, hP] at this
  cases this
 have hgP : mainGlobals ≠ P := by
  obtain ⟨o, es, ep, e, _⟩ := I.mod.glob
  exact nP _ o e
 have hbG : bm ≠ mainGlobals := fun z => by
  obtain ⟨o, es, ep, e, hd, _⟩ := I.mod.glob
  rw [z, e] at b3
  cases b3
  rw [hd] at b6
  cases b6
 have hclos : closureFor ls X.env = pure (qU X.env.cells ls.names []) := ji fun y hy e => I.ok.has _ (.inl (L.free y hy e))
 refine PySem.W.kla_eval hdef (PySem.W.kla_makeFunction (mg := X.mg) (P := P) hclos I.ok.glob hg hc (BL.code.keeps I.bk) hPo trivial rfl hgP ⟨bm, ob, b1, b2, hbG, nP bm ob b3, I.bk bm ob b3, b4, b5, b6⟩ fun c' ctv h' tk hx hge hlt hrec htb => ?_)
 have I1 := V0 (tk := tk) I hP hx htb
 have hPlt : P < s.heap.objs.size := Heap.lt_size hPo
 obtain ⟨c2, oc, vs, t, e2, hoc, hd, hv⟩ := hrec
 cases e2
 have cN : upd H P (.tbl (#[] ++ #[rawInt lpos.line, rawInt lpos.col, .ref c'])) c' = none := by
  rw [qJ (Nat.ne_of_gt (Nat.lt_of_lt_of_le hPlt hge))]
  exact I.hok.fresh hge
 have I2 := I1.kept (h' := h'.push (PySem.W.kla_obj "<lambda>" (X.env.qual ++ "<lambda>") params body ls (qU X.env.cells ls.names []) ((X.mg "__name__").getD .none) c' ctv)) (t' := tk) fun b o e => Heap.get?_push_of_some _ e
 have notF : ∀ b, s.heap.objs.size <= b -> b ∉ frs X.stack := fun b hb z => by
  rcases List.mem_cons.mp (I.zp b z) with z | z
  ·exact absurd (Nat.lt_of_lt_of_le I.lt hb) (by rw [z]; exact Nat.lt_irrefl _)
  ·exact I.Yk hb z
 exact h _ _ _ c' I2 ⟨⟨_, ctv, Heap.get?_push_size _ rfl⟩, I1.hok.fresh (Nat.le_refl _), notF _ (Nat.le_trans hge (Nat.le_of_lt hlt)), ⟨oc, vs, t, Heap.get?_push_of_some _ hoc, hd, hv⟩, cN, notF _ hge⟩
end
noncomputable def xX (hs : List ExceptHandler) (q1 q2 q3 q4 q5 q6 q7 q8 q9 q10 : Pos) (j : Nat) : List Stmt :=
 [.Try [.Assign [.Name "told" q1] (.Call (.Name "work" q2) [] [] q3) q4] hs [] [] q5, .Return (some (.BinOp (.List [.Constant (.int 0) j q6] q7) .Add (.Name "told" q8) q9)) q10]
noncomputable def YU (Q : VK) : VK := fun v H => ∃ b zs, v = .ref b /\ H b = some (.lst zs) /\ zs.length + 1 <= sizeLine /\ ∀ q, H q = none -> ∀ p, upd H q (.lst [.int 0]) p = none -> Q (.ref p) (upd (upd H q (.lst [.int 0])) p (.lst (.int 0 :: zs)))
noncomputable def Zh (f : Addr) (Q : VK) : VK := fun v H => Zv (tOp YA (Yn (W5 (tC (.int 0)) YF)) (YE 1)) { nx := fun _ H' => Q .non H', rt := Q } [some (.ref f), some v] H
theorem VL {f : Addr} {Q : VK} {v : V} {H : Hp} (h : YU Q v H) : Zh f Q v H := by
 obtain ⟨b, zs, rfl, hb, hz, q⟩ := h
 refine ⟨by show 1 <= sizeLine; decide, fun p hp => ⟨_, rfl, p, b, [.int 0], zs, rfl, rfl, vn, ?_, by show 1 + zs.length <= sizeLine; lia, q p hp⟩⟩
 rw [qJ (vq hb hp)]
 exact hb
noncomputable def ZH (K : PySem.W.Frag) (l : List (Addr × Int)) (P : Addr) (tb : XK -> TE) : TE := fun σ H Q => H P = some (.tbl #[]) /\ ∀ more f, tb (Z6 K l Q) σ (upd H P (.tbl more)) (Zh f Q)
section
variable {X : Cx} {c P f2 : Addr} {params : Arguments} {body : Expr} {ls : Scope} {lpos p pos : Pos} {tb : XK -> TE} {k : Nat} {l : List (Addr × Int)} {E : XK}
 {args2 : Arguments} {sc2 : Scope} {dV kV doc pm cdv ct oc : Value} {an od : Option Addr} {osl : Array (Option Value)} {h0 : ExceptHandler} {hs : List ExceptHandler} {q1 q2 q3 q4 q5 q6 q7 q8 q9 q10 : Pos} {j : Nat}
theorem u4 (BL : wW X.mg X.base c P) (hc : X.env.code = .ref c) (hfn : ∀ y, X.fn y = true) (hst : X.stack = X.env :: X.outer) (L : ya X.env.scope ls) (hdef : defaultsOf params X.env = ([], [])) (hr : vW (k + 2) X.A)
  (hg : Gl X "answered") (hm : X.mg "answered" = some (.ref f2)) (hk : PySem.W.keepIn X.K (.ref f2) = true)
  (lk : X.K.lookup f2 = some ⟨oc, od, .func (PySem.W.fnOf "answered" "answered" args2 (xX (h0 :: hs) q1 q2 q3 q4 q5 q6 q7 q8 q9 q10 j) sc2 dV kV doc pm an cdv ct), osl⟩) (hcd : PySem.W.codeIn X.K cdv "answered" = true)
  (S : qB ["work", "told"] ["work"] sc2) (hw : sc2.names.lookup ("work" : Str) = some .local) (ht : sc2.names.lookup ("told" : Str) = some .local)
  (hb2 : ∀ (s : Shared) (u : Value), BindsTo s (PySem.W.fnOf "answered" "answered" args2 (xX (h0 :: hs) q1 q2 q3 q4 q5 q6 q7 q8 q9 q10 j) sc2 dV kV doc pm an cdv ct) ⟨[u], []⟩ ((["work"] : List Str).zip [u]))
  (hH : ∀ (s : Shared) (H : Hp), Hs (w9 (CX1 X.prog X.w) X.prog X.w X.K X.mg X.base ["work", "told"] "answered" sc2 f2 cdv X.A X.stack s H E) (h0 :: hs) l)
  (hbind : ∀ c' clos pm ctv, bindArgs (PySem.W.kla_fn "<lambda>" (X.env.qual ++ "<lambda>") params body ls clos pm (.ref c') ctv) ⟨[], []⟩ = pure [])
  (hE : Acc X E)
  (hb : ∀ (Y : Cx) (f : Addr) (cd : Value) (s : Shared) (H : Hp) (E' : XK), vW k (Y.A.deeper (zN X (X.env.qual ++ "<lambda>") ls f cd s)) -> PE (xp X Y (X.env.qual ++ "<lambda>") ls f cd s H E') body (tb E')) :
  PE X (.Call (.Name "answered" p) [.Lambda params body ls lpos] [] pos) (ZH X.K l P tb) := by
 intro pins s σ H Q I ⟨hP, h⟩
 refine wpAny_Call_Name_kw (z0 I hg hm ?_ (by decide))
 refine PySem.W.callWith_K (h₀ := X.base) I.ok.mod.kin hk ?_ rfl rfl
 refine Calls.spliced_cons (VX I BL hc hP L hdef fun s1 more f c' I1 la => Calls.spliced_nil ⟨I1.kIn, ?_⟩)
 have hr1 : vW (k + 1 + 1) X.A := hr
 -- the def's body
 have body_ok : codeAny (model X.prog X.w) X.A (.call (.ref f2) ⟨[.ref f], []⟩) (CR (CX1 X.prog X.w) X.stack X.prog X.w (upd H P (.tbl more)) s1 Q E) s1 := by
  refine ZV (N := ["work", "told"]) (vs := [.ref f]) lk hcd S rfl hr1 I1.ZI (hb2 s1 (.ref f)) (.cons rfl .nil) ?_
  generalize hY : w9 (CX1 X.prog X.w) X.prog X.w X.K X.mg X.base ["work", "told"] "answered" sc2 f2 cdv X.A X.stack s1 (upd H P (.tbl more)) E = Y
  have hHs : Hs Y (h0 :: hs) l := by rw [<- hY]; exact hH s1 _
  have room : vW (k + 1) Y.A := by rw [<- hY]; exact hr1.deeper _
  refine ⟨_, uW (ZQ (X := Y) (L := s1.heap.objs.size) (tb := fun D => ZA (fun σ' H' Q' => σ'[0]? = some (some (.ref f)) /\ tb (Z6 Y.K l D.rt) σ H' Q') (xP 1)) (by rw [<- hY]; rfl) (by rw [<- hY]; rfl) hHs fun D pins' => z7 (VU (i := 1) (X := (Y.Vd pins').zL _) ?nd ?ni ?nl ?work ?sw ?fn)) (z7 (xc (Zi ZW (js (uy jL jQ)) (x8 (i := 1) ?vi ?vv)))), ?_⟩
  case nd => subst hY; exact S.nd
  case ni => subst hY; rfl
  case nl => subst hY; exact .inl ht
  case sw => subst hY; rfl
  case fn => subst hY; exact .inl rfl
  case vi => subst hY; rfl
  case vv => subst hY; exact .inl ht
  case work =>
   subst hY
   exact Wi (X := X) (k := k) I1 rfl rfl rfl rfl rfl rfl rfl hfn L la room uH (fun pm ctv => hbind c' _ pm ctv) (fun s' H' => hb _ f (.ref c') s' H' _ (room.deeper _)) rfl (.inl hw)
  ·subst hY
   exact ⟨rfl, h more f⟩
 refine wpAny_call (codeAny_mono body_ok fun r s' hq => ?_)
 cases r with
 | error e => exact xq hE pins σ _ s1 e s' I1 hq
 | ok fl =>
  cases fl with
  | ret u => exact I1.after hq
  | next => exact False.elim hq
  | brk => exact False.elim hq
  | cont => exact False.elim hq
end
end L2
namespace L2.Ir
open PySem
set_option genInjectivity true in
inductive D where
 | non | bl (b : Bool) | int (i : Int) | lst (xs : List D) | tup (xs : List D) | fn (x : Str) | obj (c : Str) (ns : List Str) (xs : List D)
noncomputable def D.sc : D -> Bool
 | .non => true
 | .bl _ => true
 | .int _ => true
 | _ => false
inductive Kd where
 | bo | sh | nw | fr
noncomputable def Kd.low : Kd -> Kd -> Kd
 | .bo, _ => .bo
 | _, .bo => .bo
 | .sh, _ => .sh
 | _, .sh => .sh
 | _, _ => .nw
set_option genInjectivity true in
inductive Rs (α : Type) where
 | ok (a : α) | er (c : Str) | no
noncomputable def Rs.bind {α β : Type} (x : Rs α) (f : α -> Rs β) : Rs β := match x with
 | .ok a => f a
 | .er c => .er c
 | .no => .no
@[simp] theorem Rs.z9 {α β : Type} (a : α) (f : α -> Rs β) : (Rs.ok a).bind f = f a := rfl
inductive Sl where
 | un | val (d : D) (k : Bool) | own (ds : List D)
noncomputable abbrev Dl := List Sl
noncomputable abbrev DK := D × Kd
noncomputable abbrev RE := Dl -> Rs DK
noncomputable abbrev RA := Dl -> Rs (List DK)
noncomputable def qa (i : Nat) : RE := fun δ => match δ[i]? with
 | some (.val d k) => .ok (d, if k = true then .nw else .sh)
 | some (.own ds) => .ok (.lst ds, .bo)
 | _ => .no
noncomputable def rC (d : D) : RE := fun _ => .ok (d, .nw)
noncomputable def qe (f : DK -> DK -> Rs DK) (ra rb : RE) : RE := fun δ => (ra δ).bind fun x => (rb δ).bind fun y => f x y
noncomputable def rUn (f : DK -> Rs DK) (ra : RE) : RE := fun δ => (ra δ).bind f
noncomputable def kL (xs : List D) (k : Kd) : Kd := if xs.all D.sc = true then .fr else k
noncomputable abbrev LIM : Nat := 16777216
noncomputable def few (i : Int) : Prop := i.natAbs < 2 ^ 60000
noncomputable instance (i : Int) : Decidable (few i) := inferInstanceAs (Decidable (i.natAbs < 2 ^ 60000))
noncomputable def vy : DK -> DK -> Rs DK
 | (.int i, _), (.int j, _) => .ok (.int (i + j), .nw)
 | (.lst xs, k), (.lst ys, l) => if xs.length + ys.length <= LIM then .ok (.lst (xs ++ ys), kL (xs ++ ys) (k.low l)) else .no
 | _, _ => .no
noncomputable def vb : DK -> DK -> Rs DK
 | (.int i, _), (.int j, _) => .ok (.int (i - j), .nw)
 | _, _ => .no
open Classical in
noncomputable def yi : DK -> DK -> Rs DK
 | (.int i, _), (.int j, _) => if few i /\ few j then .ok (.int (i * j), .nw) else .no
 | (.lst xs, .fr), (.int j, _) => if (0 <= j /\ j < 1000000) /\ xs.length * j.toNat <= LIM then .ok (.lst (List.replicate j.toNat xs).flatten, kL (List.replicate j.toNat xs).flatten .nw) else .no
 | _, _ => .no
noncomputable def vh : DK -> DK -> Rs DK
 | (.int i, _), (.int j, _) => if 0 < j /\ j.natAbs.log2 < 9000 then .ok (.int (i / j), .nw) else .no
 | _, _ => .no
noncomputable def oMod : DK -> DK -> Rs DK
 | (.int i, _), (.int j, _) => if 0 < j then .ok (.int (i % j), .nw) else .no
 | _, _ => .no
open Classical in
noncomputable def vk : DK -> DK -> Rs DK
 | (.int i, _), (.int j, _) => if 0 <= j /\ j <= 60000 /\ few i then .ok (.int (i * 2 ^ j.toNat), .nw) else .no
 | _, _ => .no
noncomputable def yj : DK -> DK -> Rs DK
 | (.int i, _), (.int j, _) => if 0 <= j then .ok (.int (i / 2 ^ j.toNat), .nw) else .no
 | _, _ => .no
noncomputable def zJ (f : Int -> Int -> Int) : DK -> DK -> Rs DK
 | (.int i, _), (.int j, _) => .ok (.int (f i j), .nw)
 | _, _ => .no
noncomputable def zl (f : Int -> Int -> Bool) : DK -> DK -> Rs DK
 | (.int i, _), (.int j, _) => .ok (.bl (f i j), .nw)
 | _, _ => .no
noncomputable def intsOf : List D -> Option (List Int)
 | [] => some []
 | .int i :: r => (intsOf r).map (i :: ·)
 | _ => none
noncomputable def oEq (neg : Bool) : DK -> DK -> Rs DK
 | (.int i, _), (.int j, _) => .ok (.bl (if neg = true then !decide (i = j) else decide (i = j)), .nw)
 | (.bl i, _), (.bl j, _) => .ok (.bl (if neg = true then !decide (i = j) else decide (i = j)), .nw)
 | (.lst xs, _), (.lst ys, _) => match intsOf xs, intsOf ys with
  | some ns, some ms => .ok (.bl (if neg = true then !decide (ns = ms) else decide (ns = ms)), .nw)
  | _, _ => .no
 | _, _ => .no
noncomputable def QZ : DK -> Rs DK
 | (.int i, _) => .ok (.int (-i), .nw)
 | _ => .no
noncomputable def qj : RA := fun _ => .ok []
noncomputable def qb (ra : RE) (rr : RA) : RA := fun δ => (ra δ).bind fun x => (rr δ).bind fun xs => .ok (x :: xs)
noncomputable def vR : List DK -> Kd
 | [] => .nw
 | x :: r => if x.1.sc = true then vR r else x.2.low (vR r)
noncomputable def zW (r : RA) : RE := fun δ => (r δ).bind fun xs => if xs.length <= LIM then .ok (.lst (xs.map (·.1)), kL (xs.map (·.1)) (vR xs)) else .no
noncomputable abbrev Fn := List D -> Rs (D × Bool)
noncomputable def kB (b : Bool) : Kd := if b = true then .fr else .nw
noncomputable def qg (g : Fn) (r : RA) : RE := fun δ => (r δ).bind fun xs => (g (xs.map (·.1))).bind fun y => .ok (y.1, kB y.2)
noncomputable def yo (f : List DK -> Rs DK) (r : RA) : RE := fun δ => (r δ).bind f
noncomputable def Wz : List DK -> Rs DK
 | [(.int i, _)] => .ok (.int (if i < 0 then -i else i), .nw)
 | _ => .no
noncomputable def jJ : List DK -> Rs DK
 | [(.int i, _), (.int j, _)] => .ok (.int (if j > i then j else i), .nw)
 | _ => .no
noncomputable def ZU : List DK -> Rs DK
 | [(.int i, _), (.int j, _)] => .ok (.int (if j < i then j else i), .nw)
 | _ => .no
noncomputable def oBits : DK -> Rs DK
 | (.int i, _) => .ok (.int (if i = 0 then 0 else i.natAbs.log2 + 1 : Nat), .nw)
 | _ => .no
noncomputable abbrev RT := Dl -> Rs Bool
noncomputable def tBl (r : RE) : RT := fun δ => (r δ).bind fun x => match x.1 with
 | .bl b => .ok b
 | _ => .no
noncomputable def uN (a b : RT) : RT := fun δ => (a δ).bind fun x => if x = true then b δ else .ok false
noncomputable def Vq (a b : RT) : RT := fun δ => (a δ).bind fun x => if x = true then .ok true else b δ
noncomputable def uT (a : RT) : RT := fun δ => (a δ).bind fun x => .ok (!x)
noncomputable def xw (t : RT) (a b : RE) : RE := fun δ => (t δ).bind fun x => if x = true then a δ else b δ
noncomputable abbrev RI := Dl -> Rs (Bool × List DK)
noncomputable def Kd.safe : Kd -> Bool
 | .bo => false
 | _ => true
noncomputable def iOf (r : RE) : RI := fun δ => (r δ).bind fun x => match x.1 with
 | .lst xs => .ok (x.2.safe, xs.map fun d => (d, x.2.low .nw))
 | _ => .no
inductive Tg where
 | one (i : Nat) | two (i j : Nat)
noncomputable def xr (x : DK) : Sl := .val x.1 (match x.2 with | .nw => true | .fr => true | _ => false)
noncomputable def put (i : Nat) (x : DK) (δ : Dl) : Option Dl := match x with
 | (d, .bo) => if d.sc = true then some (δ.set i (.val d true)) else none
 | (d, k) => some (δ.set i (xr (d, if d.sc = true then .nw else k)))
noncomputable def Tg.put : Tg -> DK -> Dl -> Option Dl
 | .one i, x, δ => Ir.put i x δ
 | .two i j, (.tup [a, b], k), δ => (Ir.put i (a, k) δ).bind (Ir.put j (b, k))
 | _, _, _ => none
inductive Out where
 | nx (δ : Dl) | rt (d : D) (k : Bool) | bk (δ : Dl) | ct (δ : Dl) | er (c : Str) | no
noncomputable abbrev RS := Dl -> Out
noncomputable def vB : RS := fun δ => .nx δ
noncomputable def Out.andThen (o : Out) (f : RS) : Out := match o with
 | .nx δ => f δ
 | o => o
noncomputable def qR (a b : RS) : RS := fun δ => (a δ).andThen b
noncomputable def frz : Sl -> Sl
 | .own ds => .val (.lst ds) true
 | x => x
noncomputable def freeze (δ : Dl) : Dl := δ.map frz
noncomputable def qQ (i : Nat) (r : RE) : RS := fun δ => match r δ with
 | .ok (.lst ds, .fr) => .nx (δ.set i (.own ds))
 | .ok (d, .bo) => if d.sc = true then .nx (δ.set i (.val d true)) else .nx ((freeze δ).set i (.val d false))
 | .ok (d, k) => .nx (δ.set i (xr (d, if d.sc = true then .nw else k)))
 | .er c => .er c
 | .no => .no
noncomputable def xb (r : RE) : RS := fun δ => match r δ with
 | .ok _ => .nx δ
 | .er c => .er c
 | .no => .no
noncomputable def sIf (t : RT) (a b : RS) : RS := fun δ => match t δ with
 | .ok x => if x = true then a δ else b δ
 | .er c => .er c
 | .no => .no
noncomputable def qW (r : RE) : RS := fun δ => match r (freeze δ) with
 | .ok (.lst ds, .fr) => .rt (.lst ds) true
 | .ok (d, .nw) => .rt d false
 | .ok (d, _) => if d.sc = true then .rt d false else .no
 | .er c => .er c
 | .no => .no
noncomputable def z3 (i : Nat) : RS := fun δ => match δ[i]? with
 | some (.own ds) => .rt (.lst ds) true
 | some (.val d k) => if d.sc = true \/ k = true then .rt d false else .no
 | _ => .no
noncomputable def zj (c : Str) : RS := fun _ => .er c
noncomputable def turns (tg : Tg) (body : RS) : List DK -> RS
 | [], δ => .nx δ
 | x :: r, δ => match tg.put x δ with
  | none => .no
  | some δ1 => match body δ1 with
   | .nx δ2 => turns tg body r δ2
   | .ct δ2 => turns tg body r δ2
   | .bk δ2 => .nx δ2
   | o => o
noncomputable def ZE (tg : Tg) (src : RI) (body : RS) : RS := fun δ => match src δ with
 | .ok (true, xs) => turns tg body xs δ
 | .ok (false, _) => .no
 | .er c => .er c
 | .no => .no
noncomputable def Ql (tg : Tg) (i : Nat) (body : RS) : RS := fun δ => ZE tg (iOf (qa i)) body (match δ[i]? with
 | some (.own ds) => δ.set i (.val (.lst ds) true)
 | _ => δ)
noncomputable def wl (t : RT) (body : RS) : Nat -> RS
 | 0, _ => .no
 | n + 1, δ => match t δ with
  | .ok x => if x = true then (match body δ with
   | .nx δ2 => wl t body n δ2
   | .ct δ2 => wl t body n δ2
   | .bk δ2 => .nx δ2
   | o => o) else .nx δ
  | .er c => .er c
  | .no => .no
open Classical in
noncomputable def y4 (t : RT) (body : RS) : RS := fun δ => if h : ∃ n, wl t body n δ ≠ .no then wl t body h.choose δ else .no
theorem yL {t : RT} {body : RS} : ∀ {n m : Nat} {δ : Dl}, wl t body n δ ≠ .no -> n <= m -> wl t body m δ = wl t body n δ
 | 0, _, _, h, _ => absurd rfl h
 | n + 1, 0, _, _, hm => absurd hm (by lia)
 | n + 1, m + 1, δ, h, hm => by
  unfold wl at h ⊢
  cases ht : t δ with
  | er c => rfl
  | no => rfl
  | ok x =>
   rw [ht] at h
   cases x with
   | false => rfl
   | true =>
    simp only [if_true] at h ⊢
    cases hb : body δ with
    | nx δ2 => rw [hb] at h; exact yL h (by lia)
    | ct δ2 => rw [hb] at h; exact yL h (by lia)
    | bk δ2 => rfl
    | rt d k => rfl
    | er c => rfl
    | no => rfl
theorem QL {t : RT} {body : RS} {n : Nat} {δ : Dl} {o : Out} (h : wl t body n δ = o) (ho : o ≠ .no) : y4 t body δ = o := by
 have ex : ∃ n, wl t body n δ ≠ .no := ⟨n, by rw [h]; exact ho⟩
 unfold y4
 rw [dif_pos ex]
 rcases Nat.le_total n ex.choose with q | q
 ·rw [yL (by rw [h]; exact ho) q, h]
 ·rw [<- h, yL ex.choose_spec q]
end L2.Ir
namespace L2.Ir
open PySem PySem.Spec PyProof.Rows
section
variable (mg : Str -> Option Value) (K : PySem.W.Frag)
mutual
/-- the value v stands for the datum d, all addresses within in G -/
inductive Rp (G : Addr -> Prop) (H : Hp) : V -> D -> Prop
 | non : Rp G H .non .non
 | bl (b : Bool) : Rp G H (.bl b) (.bl b)
 | int (i : Int) : Rp G H (.int i) (.int i)
 | fn {x : Str} {a : Addr} : mg x = some (.ref a) -> Rp G H (.ref a) (.fn x)
 | lst {a : Addr} {xs : List V} {ds : List D} : G a -> Rd H a (.lst xs) -> qp G H xs ds -> Rp G H (.ref a) (.lst ds)
 | lstK {a : Addr} {xs : List V} {ds : List D} : (∀ H', SqL K H' a xs) -> qp G H xs ds -> Rp G H (.ref a) (.lst ds)
 | tup {a : Addr} {xs : List V} {ds : List D} : G a -> Rd H a (.tup xs) -> qp G H xs ds -> Rp G H (.ref a) (.tup ds)
 | tupK {a : Addr} {xs : List V} {ds : List D} : (∀ H', SqT K H' a xs) -> qp G H xs ds -> Rp G H (.ref a) (.tup ds)
 | obj {a C dx : Addr} {c : Str} {ns : List Str} {xs : List V} {ds : List D} : G a -> mg c = some (.ref C) -> H a = some (.ins C dx (ns.zip xs)) -> ns.length = xs.length -> qp G H xs ds -> Rp G H (.ref a) (.obj c ns ds)
inductive qp (G : Addr -> Prop) (H : Hp) : List V -> List D -> Prop
 | nil : qp G H [] []
 | cons {v : V} {vs : List V} {d : D} {ds : List D} : Rp G H v d -> qp G H vs ds -> qp G H (v :: vs) (d :: ds)
end
end
section
variable {mg : Str -> Option Value} {K : PySem.W.Frag}
theorem Vy {H H' : Hp} {a : Addr} {u : HO} (h : Rd H a u) (k : ∀ o, H a = some o -> H' a = some o) : Rd H' a u := by
 rcases h with h | ⟨o, h⟩
 ·exact .inl (k _ h)
 ·exact .inr ⟨o, k _ h⟩
theorem ux {H : Hp} {a : Addr} {u : HO} (h : Rd H a u) : H a ≠ none := by
 rcases h with h | ⟨o, h⟩ <;> (rw [h]; exact fun z => nomatch z)
theorem Rp.ofL {G : Addr -> Prop} {H : Hp} {a : Addr} {xs : List V} {ds : List D} (s : SqL K H a xs) (g : H a ≠ none -> G a) (r : qp mg K G H xs ds) : Rp mg K G H (.ref a) (.lst ds) := by
 rcases s with s | s
 ·exact .lst (g (ux s)) s r
 ·exact .lstK (fun _ => .inr s) r
mutual
theorem Rp.mono {G G' : Addr -> Prop} {H H' : Hp} (k : ∀ a, G a -> G' a /\ ∀ o, H a = some o -> H' a = some o) : ∀ (d : D) (v : V), Rp mg K G H v d -> Rp mg K G' H' v d
 | .non, _, h => by cases h; exact .non
 | .bl b, _, h => by cases h; exact .bl b
 | .int i, _, h => by cases h; exact .int i
 | .fn x, _, h => by cases h with | fn e => exact .fn e
 | .lst ds, _, h => by
  cases h with
  | lst g s r => exact .lst (k _ g).1 (Vy s (k _ g).2) (qp.mono k ds _ r)
  | lstK s r => exact .lstK s (qp.mono k ds _ r)
 | .tup ds, _, h => by
  cases h with
  | tup g s r => exact .tup (k _ g).1 (Vy s (k _ g).2) (qp.mono k ds _ r)
  | tupK s r => exact .tupK s (qp.mono k ds _ r)
 | .obj c ns ds, _, h => by
  cases h with
  | obj g m s l r => exact .obj (k _ g).1 m ((k _ g).2 _ s) l (qp.mono k ds _ r)
theorem qp.mono {G G' : Addr -> Prop} {H H' : Hp} (k : ∀ a, G a -> G' a /\ ∀ o, H a = some o -> H' a = some o) : ∀ (ds : List D) (vs : List V), qp mg K G H vs ds -> qp mg K G' H' vs ds
 | [], _, h => by cases h; exact .nil
 | d :: ds, _, h => by cases h with | cons a b => exact .cons (Rp.mono k d _ a) (qp.mono k ds _ b)
end
mutual
/-- tracked addresses are there -/
theorem Rp.there {G : Addr -> Prop} {H : Hp} : ∀ (d : D) (v : V), Rp mg K G H v d -> Rp mg K (fun a => G a /\ H a ≠ none) H v d
 | .non, _, h => by cases h; exact .non
 | .bl b, _, h => by cases h; exact .bl b
 | .int i, _, h => by cases h; exact .int i
 | .fn x, _, h => by cases h with | fn e => exact .fn e
 | .lst ds, _, h => by
  cases h with
  | lst g s r => exact .lst ⟨g, ux s⟩ s (qp.there ds _ r)
  | lstK s r => exact .lstK s (qp.there ds _ r)
 | .tup ds, _, h => by
  cases h with
  | tup g s r => exact .tup ⟨g, ux s⟩ s (qp.there ds _ r)
  | tupK s r => exact .tupK s (qp.there ds _ r)
 | .obj c ns ds, _, h => by
  cases h with
  | obj g m s l r => exact .obj ⟨g, by rw [s]; exact fun z => nomatch z⟩ m s l (qp.there ds _ r)
theorem qp.there {G : Addr -> Prop} {H : Hp} : ∀ (ds : List D) (vs : List V), qp mg K G H vs ds -> qp mg K (fun a => G a /\ H a ≠ none) H vs ds
 | [], _, h => by cases h; exact .nil
 | d :: ds, _, h => by cases h with | cons a b => exact .cons (Rp.there d _ a) (qp.there ds _ b)
end
theorem Rp.weak {G G' : Addr -> Prop} {H : Hp} {v : V} {d : D} (h : Rp mg K G H v d) (k : ∀ a, G a -> G' a) : Rp mg K G' H v d := h.mono (fun a g => ⟨k a g, fun _ e => e⟩)
theorem Rp.same {G : Addr -> Prop} {H H' : Hp} {v : V} {d : D} (h : Rp mg K G H v d) (s : qH H H') : Rp mg K G H' v d := h.mono (fun a g => ⟨g, fun o e => s a o e⟩)
theorem qp.weak {G G' : Addr -> Prop} {H : Hp} {v : List V} {d : List D} (h : qp mg K G H v d) (k : ∀ a, G a -> G' a) : qp mg K G' H v d := h.mono (fun a g => ⟨k a g, fun _ e => e⟩)
theorem qp.same {G : Addr -> Prop} {H H' : Hp} {v : List V} {d : List D} (h : qp mg K G H v d) (s : qH H H') : qp mg K G H' v d := h.mono (fun a g => ⟨g, fun o e => s a o e⟩)
noncomputable def toV : D -> V
 | .non => .non
 | .bl b => .bl b
 | .int i => .int i
 | _ => .non
theorem Rp.vQ {G : Addr -> Prop} {H : Hp} : ∀ {d : D}, d.sc = true -> Rp mg K G H (toV d) d
 | .non, _ => .non
 | .bl b, _ => .bl b
 | .int i, _ => .int i
 | .lst _, h => nomatch h
 | .tup _, h => nomatch h
 | .fn _, h => nomatch h
 | .obj _ _ _, h => nomatch h
theorem Rp.sc {G : Addr -> Prop} {H : Hp} {v : V} {d : D} (h : Rp mg K G H v d) (s : d.sc = true) : v = toV d := by
 cases h <;> first | rfl | cases s
theorem qp.vQ {G : Addr -> Prop} {H : Hp} : ∀ {ds : List D}, ds.all D.sc = true -> qp mg K G H (ds.map toV) ds
 | [], _ => .nil
 | d :: ds, h => by
  rw [List.all_cons, Bool.and_eq_true] at h
  exact .cons (.vQ h.1) (qp.vQ h.2)
theorem qp.sc {G : Addr -> Prop} {H : Hp} : ∀ {vs : List V} {ds : List D}, qp mg K G H vs ds -> ds.all D.sc = true -> vs = ds.map toV
 | _, [], .nil, _ => rfl
 | _, d :: ds, .cons a b, h => by
  rw [List.all_cons, Bool.and_eq_true] at h
  rw [a.sc h.1, qp.sc b h.2]
  rfl
theorem qp.len {G : Addr -> Prop} {H : Hp} : ∀ {vs : List V} {ds : List D}, qp mg K G H vs ds -> vs.length = ds.length
 | _, _, .nil => rfl
 | _, _, .cons _ b => by rw [List.length_cons, List.length_cons, qp.len b]
theorem qp.getD {G : Addr -> Prop} {H : Hp} : ∀ {vs : List V} {ds : List D} {i : Nat} {d : D}, qp mg K G H vs ds -> ds[i]? = some d -> ∃ v, vs[i]? = some v /\ Rp mg K G H v d
 | _, _, i, _, .nil, e => by simp at e
 | _, _, 0, _, .cons a _, e => by simp at e; subst e; exact ⟨_, rfl, a⟩
 | _, _, i + 1, d, .cons _ b, e => by
  obtain ⟨v, h1, h2⟩ := qp.getD (i := i) (d := d) b (by simpa using e)
  exact ⟨v, by simpa using h1, h2⟩
theorem qp.append {G : Addr -> Prop} {H : Hp} : ∀ {vs us : List V} {ds es : List D}, qp mg K G H vs ds -> qp mg K G H us es -> qp mg K G H (vs ++ us) (ds ++ es)
 | _, _, _, _, .nil, h => h
 | _, _, _, _, .cons a b, h => .cons a (qp.append b h)
theorem qp.rep {G : Addr -> Prop} {H : Hp} {vs : List V} {ds : List D} (h : qp mg K G H vs ds) : ∀ n : Nat, qp mg K G H (List.replicate n vs).flatten (List.replicate n ds).flatten
 | 0 => .nil
 | n + 1 => by
  rw [List.replicate_succ, List.replicate_succ, List.flatten_cons, List.flatten_cons]
  exact h.append (qp.rep h n)
end
structure Bs where
 H0 : Hp
 P : Addr -> Prop
noncomputable def va (B : Bs) (σ : St) (δ : Dl) (p : Addr) : Prop := B.P p \/ ∃ (i : Nat) (ds : List D), δ[i]? = some (.own ds) /\ σ[i]? = some (some (.ref p))
structure Rl (mg : Str -> Option Value) (K : PySem.W.Frag) (B : Bs) (H : Hp) (σ : St) (δ : Dl) : Prop where
 same : qH B.H0 H
 pd : ∀ p, B.P p -> H p ≠ none
 len : σ.length = δ.length
 val : ∀ (i : Nat) (d : D) (k : Bool), δ[i]? = some (.val d k) -> ∃ v, σ[i]? = some (some v) /\ Rp mg K (fun a => ¬ va B σ δ a /\ (k = true -> B.H0 a = none)) H v d
 own : ∀ (i : Nat) (ds : List D), δ[i]? = some (.own ds) -> ds.all D.sc = true /\ ∃ p, σ[i]? = some (some (.ref p)) /\ B.H0 p = none /\ ¬ B.P p /\ H p = some (.lst (ds.map toV))
 apart : ∀ (i j : Nat) (p : Addr) (ds es : List D), δ[i]? = some (.own ds) -> δ[j]? = some (.own es) -> σ[i]? = some (some (.ref p)) -> σ[j]? = some (some (.ref p)) -> i = j
noncomputable def VR (mg : Str -> Option Value) (K : PySem.W.Frag) (B : Bs) (H H' : Hp) (σ : St) (δ : Dl) : Kd -> V -> D -> Prop
 | .bo, v, d => Rp mg K (fun a => ¬ B.P a) H' v d
 | .sh, v, d => Rp mg K (fun a => ¬ va B σ δ a) H' v d
 | .nw, v, d => Rp mg K (fun a => ¬ va B σ δ a /\ B.H0 a = none) H' v d
 | .fr, v, d => ∃ p ds, v = .ref p /\ d = .lst ds /\ ds.all D.sc = true /\ H p = none /\ H' p = some (.lst (ds.map toV))
section
variable {mg : Str -> Option Value} {K : PySem.W.Frag} {B : Bs} {H H1 H' H'' : Hp} {σ : St} {δ : Dl} {k l : Kd} {v : V} {d : D}
theorem qH.refl {H : Hp} : qH H H := fun _ _ e => e
theorem Rl.more (R : Rl mg K B H σ δ) (s : qH H H') : Rl mg K B H' σ δ :=
 ⟨R.same.trans s, fun p h => fun z => R.pd p h (s.free z), R.len, fun i d k e => let ⟨v, a, b⟩ := R.val i d k e; ⟨v, a, b.same s⟩, fun i ds e => let ⟨a, p, b, c, n, x⟩ := R.own i ds e; ⟨a, p, b, c, n, s _ _ x⟩, R.apart⟩
theorem Rl.owned (R : Rl mg K B H σ δ) {p : Addr} (h : va B σ δ p) : H p ≠ none := by
 rcases h with h | ⟨i, ds, e, e2⟩
 ·exact R.pd p h
 ·obtain ⟨_, q, e3, _, _, e4⟩ := R.own i ds e
  rw [e2] at e3
  cases e3
  rw [e4]
  exact fun z => nomatch z
theorem Rl.fresh (R : Rl mg K B H σ δ) {p : Addr} (h : H p = none) : ¬ va B σ δ p := fun o => R.owned o h
theorem VR.later (h : VR mg K B H H' σ δ k v d) (s : qH H' H'') : VR mg K B H H'' σ δ k v d := by
 cases k with
 | bo => exact Rp.same h s
 | sh => exact Rp.same h s
 | nw => exact Rp.same h s
 | fr => obtain ⟨p, ds, a, b, c, e, f⟩ := h; exact ⟨p, ds, a, b, c, e, s _ _ f⟩
theorem VR.yT (h : VR mg K B H1 H' σ δ k v d) (s : qH H H1) : VR mg K B H H' σ δ k v d := by
 cases k with
 | bo => exact h
 | sh => exact h
 | nw => exact h
 | fr => obtain ⟨p, ds, a, b, c, e, f⟩ := h; exact ⟨p, ds, a, b, c, s.free e, f⟩
theorem VR.wO (R : Rl mg K B H σ δ) (h : VR mg K B H H' σ δ .fr v d) : VR mg K B H H' σ δ .nw v d := by
 obtain ⟨p, ds, rfl, rfl, c, e, f⟩ := h
 exact .lst ⟨R.fresh e, R.same.free e⟩ (.of f) (.vQ c)
theorem VR.wN (h : VR mg K B H H' σ δ .nw v d) : VR mg K B H H' σ δ .sh v d := Rp.weak h fun _ g => g.1
theorem VR.xn (h : VR mg K B H H' σ δ .sh v d) : VR mg K B H H' σ δ .bo v d := Rp.weak h fun _ g z => g (.inl z)
theorem VR.bo' (R : Rl mg K B H σ δ) (h : VR mg K B H H' σ δ k v d) : VR mg K B H H' σ δ .bo v d := by
 cases k with
 | bo => exact h
 | sh => exact VR.xn h
 | nw => exact VR.xn (VR.wN h)
 | fr => exact VR.xn (VR.wN (VR.wO R h))
theorem VR.rp (R : Rl mg K B H σ δ) (h : VR mg K B H H' σ δ k v d) : Rp mg K (fun _ => True) H' v d := by
 exact Rp.weak (VR.bo' R h) fun _ _ => trivial
theorem VR.low (R : Rl mg K B H σ δ) (l : Kd) (h : VR mg K B H H' σ δ k v d) : VR mg K B H H' σ δ (k.low l) v d := by
 cases k <;> cases l <;> first | exact h | exact VR.bo' R h | exact VR.wO R h | exact VR.wN h | exact VR.wN (VR.wO R h)
theorem VR.YS (R : Rl mg K B H σ δ) (l : Kd) (h : VR mg K B H H' σ δ k v d) : VR mg K B H H' σ δ (l.low k) v d := by
 cases k <;> cases l <;> first | exact h | exact VR.bo' R h | exact VR.wO R h | exact VR.wN h | exact VR.wN (VR.wO R h)
theorem VR.vQ (k : Kd) (hk : k ≠ .fr) (s : d.sc = true) : VR mg K B H H' σ δ k (toV d) d := by
 cases k <;> first | exact Rp.vQ s | exact absurd rfl hk
theorem VR.int (i : Int) : VR mg K B H H' σ δ .nw (.int i) (.int i) := Rp.int i
theorem VR.bl (b : Bool) : VR mg K B H H' σ δ .nw (.bl b) (.bl b) := Rp.bl b
noncomputable def Gk (B : Bs) (σ : St) (δ : Dl) : Kd -> Addr -> Prop
 | .bo, a => ¬ B.P a
 | .sh, a => ¬ va B σ δ a
 | _, a => ¬ va B σ δ a /\ B.H0 a = none
theorem VR.gk (hk : k ≠ .fr) : VR mg K B H H' σ δ k v d = Rp mg K (Gk B σ δ k) H' v d := by
 cases k <;> first | rfl | exact absurd rfl hk
theorem low_ne (k l : Kd) : k.low l ≠ .fr := by cases k <;> cases l <;> intro z <;> cases z
theorem VR.items {ds : List D} (R : Rl mg K B H σ δ) (h : VR mg K B H H' σ δ k v (.lst ds)) : ∃ a xs, v = .ref a /\ SqL K H' a xs /\ qp mg K (Gk B σ δ (k.low .nw)) H' xs ds := by
 have h2 := VR.low R .nw h
 rw [VR.gk (low_ne _ _)] at h2
 cases h2 with
 | lst g s r => exact ⟨_, _, rfl, .inl s, r⟩
 | lstK s r => exact ⟨_, _, rfl, s _, r⟩
theorem VR.laid {p : Addr} {xs : List V} {ds : List D} (R : Rl mg K B H σ δ) (s : qH H H') (hp : H' p = none) (hk : k ≠ .fr) (h : qp mg K (Gk B σ δ k) H' xs ds) : VR mg K B H (upd H' p (.lst xs)) σ δ (kL ds k) (.ref p) (.lst ds) := by
 unfold kL
 split
 ·rename_i c
  refine ⟨p, ds, rfl, rfl, c, s.free hp, ?_⟩
  rw [vn, qp.sc h c]
 ·rw [VR.gk hk]
  have sm : qH H' (upd H' p (.lst xs)) := fun b o e => by rw [qJ (vq e hp)]; exact e
  refine .lst ?_ (.of vn) (h.same sm)
  cases k with
  | bo => exact fun z => R.pd p z (s.free hp)
  | sh => exact R.fresh (s.free hp)
  | nw => exact ⟨R.fresh (s.free hp), R.same.free (s.free hp)⟩
  | fr => exact absurd rfl hk
theorem zv {p : Addr} {o : HO} (hp : H p = none) : qH H (upd H p o) := fun b q e => by rw [qJ (vq e hp)]; exact e
end
noncomputable def qS {α : Type} (mg : Str -> Option Value) (E : XK) (H : Hp) (o : Rs α) (k : α -> Prop) : Prop := match o with
 | .ok a => k a
 | .er c => ∀ C H', mg c = some (.ref C) -> qH H H' -> E (.ref C) none H'
 | .no => False
noncomputable def Fin (mg : Str -> Option Value) (K : PySem.W.Frag) (E : XK) (B : Bs) (H : Hp) (σ : St) (δ : Dl) (o : Rs DK) (Q : VK) : Prop :=
 qS mg E H o fun x => ∀ v H', qH H H' -> VR mg K B H H' σ δ x.2 v x.1 -> Q v H'
noncomputable def tE (mg : Str -> Option Value) (K : PySem.W.Frag) (E : XK) (r : RE) : TE := fun σ H Q => ∃ B δ, Rl mg K B H σ δ /\ Fin mg K E B H σ δ (r δ) Q
noncomputable def jM (mg : Str -> Option Value) (E : XK) (H : Hp) (o : Rs Bool) (Q : Bool -> Hp -> Prop) : Prop := qS mg E H o fun b => ∀ H', qH H H' -> Q b H'
noncomputable def tT (mg : Str -> Option Value) (K : PySem.W.Frag) (E : XK) (r : RT) : TT := fun σ H Q => ∃ B δ, Rl mg K B H σ δ /\ jM mg E H (r δ) Q
inductive VRs (mg : Str -> Option Value) (K : PySem.W.Frag) (B : Bs) (H H' : Hp) (σ : St) (δ : Dl) : List V -> List DK -> Prop
 | nil : VRs mg K B H H' σ δ [] []
 | cons {v : V} {vs : List V} {x : DK} {xs : List DK} : VR mg K B H H' σ δ x.2 v x.1 -> VRs mg K B H H' σ δ vs xs -> VRs mg K B H H' σ δ (v :: vs) (x :: xs)
noncomputable def FinA (mg : Str -> Option Value) (K : PySem.W.Frag) (E : XK) (B : Bs) (H : Hp) (σ : St) (δ : Dl) (o : Rs (List DK)) (Q : List V -> Hp -> Prop) : Prop :=
 qS mg E H o fun xs => ∀ vs H', qH H H' -> VRs mg K B H H' σ δ vs xs -> Q vs H'
noncomputable def tA (mg : Str -> Option Value) (K : PySem.W.Frag) (E : XK) (r : RA) : TA := fun σ H Q => ∃ B δ, Rl mg K B H σ δ /\ FinA mg K E B H σ δ (r δ) Q
section
variable {mg : Str -> Option Value} {K : PySem.W.Frag} {E : XK} {B : Bs} {H H1 H' H'' : Hp} {σ : St} {δ : Dl} {k l : Kd} {v : V} {d : D} {Q : VK}
theorem qS.bind {α β : Type} {x : Rs α} {f : α -> Rs β} {k : β -> Prop} (h : qS mg E H (x.bind f) k) : qS mg E H x fun a => qS mg E H (f a) k := by
 cases x with
 | ok a => exact h
 | er c => exact h
 | no => exact h
theorem qS.imp {α : Type} {x : Rs α} {k k' : α -> Prop} (h : qS mg E H x k) (i : ∀ a, k a -> k' a) : qS mg E H x k' := by
 cases x with
 | ok a => exact i a h
 | er c => exact h
 | no => exact h
theorem qS.more {α : Type} {x : Rs α} {k : α -> Prop} (h : qS mg E H x k) (s : qH H H') : qS mg E H' x k := by
 cases x with
 | ok a => exact h
 | er c => exact fun C H2 e s2 => h C H2 e (s.trans s2)
 | no => exact h
theorem Fin.more {o : Rs DK} (h : Fin mg K E B H σ δ o Q) (s : qH H H') : Fin mg K E B H' σ δ o Q :=
 qS.more (qS.imp h fun x q v H2 s2 r => q v H2 (s.trans s2) (r.yT s)) s
theorem jM.more {o : Rs Bool} {Q : Bool -> Hp -> Prop} (h : jM mg E H o Q) (s : qH H H') : jM mg E H' o Q := qS.more (qS.imp h fun x q H2 s2 => q H2 (s.trans s2)) s
theorem VRs.yT {vs : List V} {xs : List DK} (h : VRs mg K B H1 H' σ δ vs xs) (s : qH H H1) : VRs mg K B H H' σ δ vs xs := by
 induction h with
 | nil => exact .nil
 | cons a _ ih => exact .cons (a.yT s) ih
theorem VRs.rp (R : Rl mg K B H σ δ) {vs : List V} {xs : List DK} (h : VRs mg K B H H' σ δ vs xs) : qp mg K (fun _ => True) H' vs (xs.map (·.1)) := by
 induction h with
 | nil => exact .nil
 | cons a _ ih => exact .cons (a.rp R) ih
theorem VR.Qv (R : Rl mg K B H σ δ) {x : DK} (h : VR mg K B H H' σ δ x.2 v x.1) (l : Kd) (s : x.1.sc = false -> ∃ m, l = x.2.low m \/ l = Kd.low m x.2) (hl : l ≠ .fr) : Rp mg K (Gk B σ δ l) H' v x.1 := by
 rw [<- VR.gk (H := H) hl]
 cases c : x.1.sc with
 | true =>
  have e := (h.rp R).sc c
  rw [e]
  exact VR.vQ l hl c
 | false =>
  obtain ⟨m, e | e⟩ := s c
  ·rw [e]; exact VR.low R m h
  ·rw [e]; exact VR.YS R m h
theorem yg (a b c : Kd) : (a.low b).low c = a.low (b.low c) := by cases a <;> cases b <;> cases c <;> rfl
theorem VD (a b : Kd) : a.low b = b.low a := by cases a <;> cases b <;> rfl
theorem ym : ∀ xs : List DK, vR xs ≠ .fr
 | [] => fun z => nomatch z
 | x :: r => by
  unfold vR
  split
  ·exact ym r
  ·exact low_ne _ _
theorem VRs.kinds (R : Rl mg K B H σ δ) : ∀ {vs : List V} {xs : List DK}, VRs mg K B H H' σ δ vs xs -> ∀ m : Kd, m ≠ .fr -> qp mg K (Gk B σ δ (m.low (vR xs))) H' vs (xs.map (·.1))
 | _, _, .nil, _, _ => .nil
 | _, _, @VRs.cons _ _ _ _ _ _ _ v vs x xs a b, m, hm => by
  refine .cons ?_ ?_
  ·refine VR.Qv R a _ (fun s => ?_) (low_ne _ _)
   unfold vR
   rw [if_neg (by rw [s]; decide), <- yg, VD m, yg]
   exact ⟨_, .inl rfl⟩
  ·unfold vR
   split
   ·exact VRs.kinds R b m hm
   ·rw [<- yg]
    exact VRs.kinds R b _ (low_ne _ _)
theorem VRs.ZJ (R : Rl mg K B H σ δ) {vs : List V} {xs : List DK} (h : VRs mg K B H H' σ δ vs xs) : qp mg K (Gk B σ δ (vR xs)) H' vs (xs.map (·.1)) := by
 have q := VRs.kinds R h .nw (fun z => nomatch z)
 have e : Kd.low .nw (vR xs) = vR xs := by
  have := ym xs
  cases h : vR xs <;> first | rfl | exact absurd h this
 rw [e] at q
 exact q
end
section
variable {X : Cx} {E : XK} {a b : Expr} {ra rb : RE} {pos : Pos}
theorem vH {e : Expr} {t t' : TE} (h : PE X e t) (i : ∀ σ H Q, t' σ H Q -> t σ H Q) : PE X e t' := fun pins s σ H Q I hw => h pins s σ H Q I (i σ H Q hw)
theorem xR {e : Expr} {t t' : TT} (h : PT X e t) (i : ∀ σ H Q, t' σ H Q -> t σ H Q) : PT X e t' := fun pins s σ H Q I hw => h pins s σ H Q I (i σ H Q hw)
theorem v9 {e : Stmt} {t t' : TS} (h : PS X e t) (i : ∀ D σ H, t' D σ H -> t D σ H) : PS X e t' := fun pins s σ H D I hw => h pins s σ H D I (i D σ H hw)
noncomputable abbrev TEx (X : Cx) (E : XK) (r : RE) : TE := tE X.mg X.K E r
noncomputable abbrev TTx (X : Cx) (E : XK) (r : RT) : TT := tT X.mg X.K E r
noncomputable abbrev TAx (X : Cx) (E : XK) (r : RA) : TA := tA X.mg X.K E r
theorem ZR {i : Nat} {x : Str} (hN : X.N[i]? = some x) (hv : Vis X.env.scope x) (hd : (x == ("__debug__" : Str)) = false := by decide) (hcd : (x == ("__classdict__" : Str)) = false := by decide) : PE X (.Name x pos) (TEx X E (qa i)) := by
 refine vH (x8 hN hv hd hcd) fun σ H Q ⟨B, δ, R, h⟩ => ?_
 unfold qa Fin at h
 cases hδ : δ[i]? with
 | none => rw [hδ] at h; exact h.elim
 | some s =>
  rw [hδ] at h
  cases s with
  | un => exact h.elim
  | val d k =>
   obtain ⟨v, e, q⟩ := R.val i d k hδ
   refine ⟨v, e, h v H qH.refl ?_⟩
   cases k with
   | true => exact Rp.weak q fun a g => ⟨g.1, g.2 rfl⟩
   | false => exact Rp.weak q fun a g => g.1
  | own ds =>
   obtain ⟨c, p, e, _, np, q⟩ := R.own i ds hδ
   exact ⟨.ref p, e, h (.ref p) H qH.refl (Rp.lst np (.of q) (.vQ c))⟩
theorem qx {i : Int} {j : Nat} : PE X (.Constant (.int i) j pos) (TEx X E (rC (.int i))) := vH jL fun σ H Q ⟨B, δ, R, h⟩ => h (.int i) H qH.refl (VR.int i)
theorem qX {x : Str} {i : Int} (hg : Gl X x) (hm : ∃ t, X.mg x = some (.int i t)) (hd : (x == ("__debug__" : Str)) = false := by decide) : PE X (.Name x pos) (TEx X E (rC (.int i))) := by
 obtain ⟨t, hm⟩ := hm
 exact vH (WY (v := .int i) hg hm ⟨t, rfl⟩ hd) fun σ H Q ⟨B, δ, R, h⟩ => h (.int i) H qH.refl (VR.int i)
noncomputable def v7 (X : Cx) (f : DK -> DK -> Rs DK) (rr : R2) : Prop := ∀ (B : Bs) (H H' : Hp) (σ : St) (δ : Dl) (x y : V) (dx dy : DK) (Q : VK) (E : XK), Rl X.mg X.K B H σ δ -> qH H H' -> VR X.mg X.K B H H' σ δ dx.2 x dx.1 -> VR X.mg X.K B H H' σ δ dy.2 y dy.1 ->
 Fin X.mg X.K E B H' σ δ (f dx dy) Q -> rr x y H' Q
theorem two {f : DK -> DK -> Rs DK} {rr : R2} (F : v7 X f rr) {σ : St} {H : Hp} {Q : VK} (h : TEx X E (qe f ra rb) σ H Q) : tOp rr (TEx X E ra) (TEx X E rb) σ H Q := by
 obtain ⟨B, δ, R, h⟩ := h
 refine ⟨B, δ, R, qS.imp (qS.bind h) fun dx h1 v H1 s1 r1 => ?_⟩
 refine ⟨B, δ, R.more s1, ?_⟩
 refine qS.imp (qS.more (qS.bind h1) s1) fun dy h2 w H2 s2 r2 => ?_
 exact F B H H2 σ δ v w dx dy Q E R (s1.trans s2) (r1.later s2) (r2.yT s1) (Fin.more h2 (s1.trans s2))
theorem qh {op : Operator} {f : DK -> DK -> Rs DK} {rr : R2} (ho : OpR X (binaryOp op) rr) (F : v7 X f rr) (ha : PE X a (TEx X E ra)) (hb : PE X b (TEx X E rb)) : PE X (.BinOp a op b pos) (TEx X E (qe f ra rb)) :=
 vH (Zi ho ha hb) fun _ _ _ h => two F h
theorem QU {op : CmpOp} {f : DK -> DK -> Rs DK} {rr : R2} (ho : OpR X (compareOp op) rr) (F : v7 X f rr) (hm : behindInMarks op b = false) (ha : PE X a (TEx X E ra)) (hb : PE X b (TEx X E rb)) : PE X (.Compare a [op] [b] pos) (TEx X E (qe f ra rb)) :=
 vH (Wk ho ha hb hm) fun _ _ _ h => two F h
theorem Qe {r : RE} {σ : St} {H : Hp} {Q : Bool -> Hp -> Prop} (h : TTx X E (tBl r) σ H Q) : TEx X E r σ H fun x H' => ∃ k, x = .bl k /\ Q k H' := by
 obtain ⟨B, δ, R, h⟩ := h
 refine ⟨B, δ, R, ?_⟩
 unfold tBl jM at h
 refine qS.imp (qS.bind h) fun x h1 v H1 s1 r1 => ?_
 obtain ⟨d, k⟩ := x
 cases d with
 | bl b =>
  have e : v = toV (.bl b) := (r1.rp R).sc rfl
  exact ⟨b, e, h1 H1 s1⟩
 | non => exact h1.elim
 | int i => exact h1.elim
 | lst l => exact h1.elim
 | tup l => exact h1.elim
 | fn x => exact h1.elim
 | obj c ns l => exact h1.elim
theorem vg {op : CmpOp} {f : DK -> DK -> Rs DK} {rr : R2} (ho : OpR X (compareOp op) rr) (F : v7 X f rr) (hm : behindInMarks op b = false) (ha : PE X a (TEx X E ra)) (hb : PE X b (TEx X E rb)) : PT X (.Compare a [op] [b] pos) (TTx X E (tBl (qe f ra rb))) :=
 xR (WR ho ha hb hm) fun _ _ _ h => two F (Qe h)
theorem jY {r : RE} (ha : PE X a (TEx X E r)) (he : ∀ whole, isTrue a X.env whole = (do let v <- whole; standAt a.pos; holding [v] (truthy v)) := by intro _; rfl) : PT X a (TTx X E (tBl r)) :=
 xR (Zw ha he) fun _ _ _ h => Qe h
theorem Zl {r : RT} (ha : PT X a (TTx X E r)) : PT X (.UnaryOp .Not a pos) (TTx X E (uT r)) := by
 refine xR (Z1 ha) fun σ H Q ⟨B, δ, R, h⟩ => ⟨B, δ, R, ?_⟩
 exact qS.imp (qS.bind h) fun x h1 H1 s1 => h1 H1 s1
theorem Qn {e : Expr} {t t' : TT} (h : PW X e t) (i : ∀ σ H Q, t' σ H Q -> t σ H Q) : PW X e t' := fun wh pins s σ H Q I hw => h wh pins s σ H Q I (i σ H Q hw)
theorem WC {r : RT} (ha : PT X a (TTx X E r)) : PW X (.BoolOp .And [a] pos) (TTx X E r) := W2 ha
theorem ZM {r : RT} (ha : PT X a (TTx X E r)) : PW X (.BoolOp .Or [a] pos) (TTx X E r) := Z9 ha
theorem Zm {rest : List Expr} {r q : RT} (ha : PT X a (TTx X E r)) (hb : PW X (.BoolOp .And (b :: rest) pos) (TTx X E q)) : PW X (.BoolOp .And (a :: b :: rest) pos) (TTx X E (uN r q)) := by
 refine Qn (ZG ha hb) fun σ H Q ⟨B, δ, R, h⟩ => ⟨B, δ, R, ?_⟩
 refine qS.imp (qS.bind h) fun x h1 H1 s1 => ?_
 cases x with
 | true => exact ⟨B, δ, R.more s1, jM.more h1 s1⟩
 | false => exact h1 H1 s1
theorem Yv {rest : List Expr} {r q : RT} (ha : PT X a (TTx X E r)) (hb : PW X (.BoolOp .Or (b :: rest) pos) (TTx X E q)) : PW X (.BoolOp .Or (a :: b :: rest) pos) (TTx X E (Vq r q)) := by
 refine Qn (Ys ha hb) fun σ H Q ⟨B, δ, R, h⟩ => ⟨B, δ, R, ?_⟩
 refine qS.imp (qS.bind h) fun x h1 H1 s1 => ?_
 cases x with
 | true => exact h1 H1 s1
 | false => exact ⟨B, δ, R.more s1, jM.more h1 s1⟩
theorem Qo {op : BoolOp} {es : List Expr} {r : RT} (h : PW X (.BoolOp op es pos) (TTx X E r)) : PT X (.BoolOp op es pos) (TTx X E r) := h.pt
theorem Q5 {c : Expr} {t : RT} (hc : PT X c (TTx X E t)) (ha : PE X a (TEx X E ra)) (hb : PE X b (TEx X E rb)) : PE X (.IfExp c a b pos) (TEx X E (xw t ra rb)) := by
 refine vH (Vu hc ha hb) fun σ H Q ⟨B, δ, R, h⟩ => ⟨B, δ, R, ?_⟩
 refine qS.imp (qS.bind h) fun x h1 H1 s1 => ?_
 cases x with
 | true => exact ⟨B, δ, R.more s1, Fin.more h1 s1⟩
 | false => exact ⟨B, δ, R.more s1, Fin.more h1 s1⟩
theorem qk : PA X [] (TAx X E qj) := fun pos pins s σ H Q I ⟨B, δ, R, h⟩ => jQ pos pins s σ H Q I (h [] H qH.refl .nil)
theorem WQ {es : List Expr} {t t' : TA} (h : PA X es t) (i : ∀ σ H Q, t' σ H Q -> t σ H Q) : PA X es t' := fun pos pins s σ H Q I hw => h pos pins s σ H Q I (i σ H Q hw)
theorem qc {es : List Expr} {r : RE} {rr : RA} (ha : PE X a (TEx X E r)) (hr : PA X es (TAx X E rr)) (hs : starEach (a :: es) X.env = (false, eval a X.env) :: starEach es X.env := by rfl) : PA X (a :: es) (TAx X E (qb r rr)) := by
 refine WQ (uy ha hr hs) fun σ H Q ⟨B, δ, R, h⟩ => ⟨B, δ, R, ?_⟩
 refine qS.imp (qS.bind h) fun x h1 v H1 s1 r1 => ⟨B, δ, R.more s1, ?_⟩
 refine qS.imp (qS.more (qS.bind h1) s1) fun xs h2 vs H2 s2 r2 => ?_
 exact h2 (v :: vs) H2 (s1.trans s2) (.cons (r1.later s2) (r2.yT s1))
theorem xN {r : RA} {σ : St} {H : Hp} {B : Bs} {δ : Dl} (R : Rl X.mg X.K B H σ δ) {Q : VK} {f : List DK -> Rs DK} {Q' : List V -> Hp -> Prop} (h : Fin X.mg X.K E B H σ δ ((r δ).bind f) Q)
  (i : ∀ xs vs H1, qH H H1 -> VRs X.mg X.K B H H1 σ δ vs xs -> Fin X.mg X.K E B H1 σ δ (f xs) Q -> Q' vs H1) : TAx X E r σ H Q' :=
 ⟨B, δ, R, qS.imp (qS.bind h) fun xs h1 vs H1 s1 r1 => i xs vs H1 s1 r1 (Fin.more h1 s1)⟩
theorem VRs.len {mg : Str -> Option Value} {K : PySem.W.Frag} {B : Bs} {H H' : Hp} {σ : St} {δ : Dl} {vs : List V} {xs : List DK} (h : VRs mg K B H H' σ δ vs xs) : vs.length = xs.length := by
 induction h with
 | nil => rfl
 | cons _ _ ih => rw [List.length_cons, List.length_cons, ih]
theorem zO {es : List Expr} {r : RA} (h : PA X es (TAx X E r)) : PE X (.List es pos) (TEx X E (zW r)) := by
 refine vH (js h) fun σ H Q ⟨B, δ, R, h⟩ => ?_
 refine xN R h fun xs vs H1 s1 r1 h1 => ?_
 by_cases hl : xs.length <= LIM
 ·rw [if_pos hl] at h1
  refine ⟨by rw [r1.len]; exact hl, fun p hp => ?_⟩
  refine h1 (.ref p) _ (zv hp) ?_
  exact VR.laid (R.more s1) qH.refl hp (ym xs) (r1.ZJ R)
 ·rw [if_neg hl] at h1
  exact h1.elim
end
theorem y0 {i : Int} (h : few i) : Builtin.Int.intBits i <= 60000 := by
 unfold Builtin.Int.intBits
 split
 ·exact Nat.zero_le _
 ·have hn : i.natAbs < 2 ^ 60000 := h
  have : i.natAbs.log2 < 60000 := by
   rcases Nat.eq_zero_or_pos i.natAbs with h0 | hp
   ·rw [h0, Nat.log2_zero]; exact Nat.zero_lt_of_lt (by exact (show 0 < 60000 by decide))
   ·exact (Nat.log2_lt (Nat.ne_of_gt hp)).mpr hn
  lia
theorem Wb {i j : Int} (h : few i) (h' : few j) : IntMulOk i j := by
 unfold IntMulOk
 have a := y0 h
 have b := y0 h'
 have c : Builtin.Int.intTooBig (Builtin.Int.intBits i + Builtin.Int.intBits j) = false := by
  unfold Builtin.Int.intTooBig
  refine decide_eq_false ?_
  have e : bitsLine = 134217728 := by decide
  lia
 rw [c]
 simp
section
variable {X : Cx}
theorem yS : OpR X (binaryOp .Mult) (rI (fun i j => few i /\ few j) fun i j => .int (i * j)) := opI fun _ _ _ _ _ _ _ hc q => mul_int q (Wb hc.1 hc.2)
theorem vm : OpR X (binaryOp .LShift) (rI (fun i j => 0 <= j /\ j <= 60000 /\ few i) fun i j => .int (i * 2 ^ j.toNat)) := opI fun i j _ _ _ _ _ hc q => by
 refine lshift_int hc.1 ?_ q
 have a := y0 hc.2.2
 have b := hc.2.1
 have e : (2 : Int) ^ 27 = 134217728 := by decide
 lia
theorem wq : OpR X (binaryOp .FloorDiv) (rI (fun _ j => 0 < j /\ j.natAbs.log2 < 9000) fun i j => .int (i / j)) := opI fun i j _ _ _ _ _ hc q => by
 refine floordiv_int (Int.ne_of_gt hc.1) ?_ (.inl (PyProof.noPylong_of_log2 hc.2))
 rw [Int.fdiv_eq_ediv_of_nonneg _ (Int.le_of_lt hc.1)]
 exact q
noncomputable def Q3 (K : PySem.W.Frag) : R2 := fun x y H Q => ∃ l b xs zs, x = .ref l /\ y = .ref b /\ SqL K H l xs /\ SqL K H b zs /\ xs.length + zs.length <= sizeLine /\ ∀ p, H p = none -> Q (.ref p) (upd H p (.lst (xs ++ zs)))
theorem WX : OpR X (binaryOp .Add) (Q3 X.K) := by
 intro pins s σ H x y v u Q I rx ry h
 obtain ⟨l, b, xs, zs, rfl, rfl, hH, hB, hz, q⟩ := h
 cases rx
 cases ry
 obtain ⟨its, r, p1, z1⟩ := I.list hH
 obtain ⟨its2, r2, p2, z2⟩ := I.list hB
 have l1 := r.length
 have l2 := r2.length
 obtain ⟨⟨cls, dd, data, sl⟩, ho, hc, n, hd⟩ := id p1.isList
 obtain ⟨⟨cls2, dd2, data2, sl2⟩, ho2, hc2, n2, hd2⟩ := id p2.isList
 simp only at hc hd hc2 hd2
 subst hc hd hc2 hd2
 have e : its.toArray ++ its2.toArray = (its ++ its2).toArray := by simp
 refine concat_meets ⟨_, ho, rfl⟩ ⟨_, ho2, rfl⟩ noFill_list_add seq_list_add PySem.F.slot_list_add PySem.F.entry_list_add (PySem.F.args_list_add_2 _ _) (list_addW l b its.toArray its2.toArray n n2 dd dd2 sl sl2 (by rw [List.size_toArray, List.size_toArray]; lia)) ⟨ho, ho2, ?_⟩
 rw [e]
 exact ⟨.ref _, _, I.ZS (t' := s.toks) (r.append r2) (by rw [List.length_append]; lia), rfl, q _ I.fresh⟩
theorem vA {mg : Str -> Option Value} {K : PySem.W.Frag} {B : Bs} {H H' : Hp} {σ : St} {δ : Dl} {k : Kd} {v : V} {i : Int} (R : Rl mg K B H σ δ) (h : VR mg K B H H' σ δ k v (.int i)) : v = .int i := (h.rp R).sc rfl
theorem W8 {mg : Str -> Option Value} {K : PySem.W.Frag} {B : Bs} {H H' : Hp} {σ : St} {δ : Dl} {k : Kd} {v : V} {i : Bool} (R : Rl mg K B H σ δ) (h : VR mg K B H H' σ δ k v (.bl i)) : v = .bl i := (h.rp R).sc rfl
theorem vK : v7 X vy (fun x y H Q => rI0 (fun i j => .int (i + j)) x y H Q \/ Q3 X.K x y H Q) := by
 rintro B H H' σ δ x y ⟨dx, kx⟩ ⟨dy, ky⟩ Q E R s r1 r2 h
 cases dx with
 | int i =>
  cases dy with
  | int j => exact .inl ⟨i, j, vA R r1, vA R r2, h _ H' qH.refl (VR.int _)⟩
  | _ => exact h.elim
 | lst xs =>
  cases dy with
  | lst ys =>
   right
   obtain ⟨a, vs, rfl, q1, g1⟩ := VR.items R r1
   obtain ⟨b, us, rfl, q2, g2⟩ := VR.items R r2
   simp only [vy] at h
   by_cases hl : xs.length + ys.length <= LIM
   ·rw [if_pos hl] at h
    refine ⟨a, b, vs, us, rfl, rfl, q1, q2, by rw [g1.len, g2.len]; exact hl, fun p hp => ?_⟩
    refine h _ _ (zv hp) (VR.laid (R.more s) qH.refl hp (low_ne _ _) (qp.append ?_ ?_))
    ·refine g1.weak fun a g => ?_
     revert g
     cases kx <;> cases ky <;> first | exact fun g => g | exact fun g => g.1 | exact fun g z => g (.inl z) | exact fun g z => g.1 (.inl z)
    ·refine g2.weak fun a g => ?_
     revert g
     cases kx <;> cases ky <;> first | exact fun g => g | exact fun g => g.1 | exact fun g z => g (.inl z) | exact fun g z => g.1 (.inl z)
   ·rw [if_neg hl] at h
    exact h.elim
  | _ => exact h.elim
 | _ => exact h.elim
theorem vl : OpR X (binaryOp .Add) (fun x y H Q => rI0 (fun i j => .int (i + j)) x y H Q \/ Q3 X.K x y H Q) := Zq.or WX
theorem xT {f : DK -> DK -> Rs DK} {g : Int -> Int -> V} {c : Int -> Int -> D} (hf : ∀ dx dy, f dx dy = match dx.1, dy.1 with | .int i, .int j => .ok (c i j, .nw) | _, _ => .no) (hg : ∀ i j, g i j = toV (c i j)) (hc : ∀ i j, (c i j).sc = true) : v7 X f (rI0 g) := by
 rintro B H H' σ δ x y ⟨dx, kx⟩ ⟨dy, ky⟩ Q E R s r1 r2 h
 rw [hf] at h
 cases dx with
 | int i =>
  cases dy with
  | int j => exact ⟨i, j, vA R r1, vA R r2, by rw [hg]; exact h _ H' qH.refl (VR.vQ _ (fun z => nomatch z) (hc i j))⟩
  | _ => exact h.elim
 | _ => exact h.elim
theorem yI {f : DK -> DK -> Rs DK} {C : Int -> Int -> Prop} {g : Int -> Int -> V} {c : Int -> Int -> D} (h1 : ∀ i j k l, C i j -> f (.int i, k) (.int j, l) = .ok (c i j, .nw)) (h2 : ∀ i j k l, ¬ C i j -> f (.int i, k) (.int j, l) = .no)
  (h3 : ∀ dx dy, (∀ i k, dx ≠ (.int i, k)) \/ (∀ i k, dy ≠ (.int i, k)) -> f dx dy = .no) (hg : ∀ i j, g i j = toV (c i j)) (hc : ∀ i j, (c i j).sc = true) : v7 X f (rI C g) := by
 rintro B H H' σ δ x y ⟨dx, kx⟩ ⟨dy, ky⟩ Q E R s r1 r2 h
 by_cases ex : ∃ i, dx = .int i
 ·obtain ⟨i, rfl⟩ := ex
  by_cases ey : ∃ j, dy = .int j
  ·obtain ⟨j, rfl⟩ := ey
   by_cases cc : C i j
   ·rw [h1 i j _ _ cc] at h
    exact ⟨i, j, vA R r1, vA R r2, cc, by rw [hg]; exact h _ H' qH.refl (VR.vQ _ (fun z => nomatch z) (hc i j))⟩
   ·rw [h2 i j _ _ cc] at h
    exact h.elim
  ·rw [h3 _ _ (.inr fun j k z => ey ⟨j, congrArg Prod.fst z⟩)] at h
   exact h.elim
 ·rw [h3 _ _ (.inl fun j k z => ex ⟨j, congrArg Prod.fst z⟩)] at h
  exact h.elim
theorem vw : v7 X vb (rI0 fun i j => .int (i - j)) := xT (c := fun i j => .int (i - j)) (by rintro ⟨dx, kx⟩ ⟨dy, ky⟩; cases dx <;> cases dy <;> rfl) (fun _ _ => rfl) fun _ _ => rfl
theorem zT (g : Int -> Int -> Int) : v7 X (zJ g) (rI0 fun i j => .int (g i j)) := xT (c := fun i j => .int (g i j)) (by rintro ⟨dx, kx⟩ ⟨dy, ky⟩; cases dx <;> cases dy <;> rfl) (fun _ _ => rfl) fun _ _ => rfl
theorem zS (g : Int -> Int -> Bool) : v7 X (zl g) (rI0 fun i j => .bl (g i j)) := xT (c := fun i j => .bl (g i j)) (by rintro ⟨dx, kx⟩ ⟨dy, ky⟩; cases dx <;> cases dy <;> rfl) (fun _ _ => rfl) fun _ _ => rfl
theorem w6 : v7 X vh (rI (fun _ j => 0 < j /\ j.natAbs.log2 < 9000) fun i j => .int (i / j)) := yI (c := fun i j => .int (i / j)) (fun i j k l c => by simp only [vh]; exact if_pos c) (fun i j k l c => by unfold vh; exact if_neg c)
 (fun ⟨dx, kx⟩ ⟨dy, ky⟩ h => by cases dx <;> cases dy <;> first | rfl | (rcases h with h | h <;> exact absurd rfl (h _ _))) (fun _ _ => rfl) fun _ _ => rfl
theorem jF : v7 X oMod (rI (fun _ j => 0 < j) fun i j => .int (i % j)) := yI (c := fun i j => .int (i % j)) (fun i j k l c => by unfold oMod; exact if_pos c) (fun i j k l c => by unfold oMod; exact if_neg c)
 (fun ⟨dx, kx⟩ ⟨dy, ky⟩ h => by cases dx <;> cases dy <;> first | rfl | (rcases h with h | h <;> exact absurd rfl (h _ _))) (fun _ _ => rfl) fun _ _ => rfl
theorem vL : v7 X vk (rI (fun i j => 0 <= j /\ j <= 60000 /\ few i) fun i j => .int (i * 2 ^ j.toNat)) := yI (c := fun i j => .int (i * 2 ^ j.toNat)) (fun i j k l c => by unfold vk; exact if_pos c) (fun i j k l c => by unfold vk; exact if_neg c)
 (fun ⟨dx, kx⟩ ⟨dy, ky⟩ h => by cases dx <;> cases dy <;> first | rfl | (rcases h with h | h <;> exact absurd rfl (h _ _))) (fun _ _ => rfl) fun _ _ => rfl
theorem jm : v7 X yj (rI (fun _ j => 0 <= j) fun i j => .int (i / 2 ^ j.toNat)) := yI (c := fun i j => .int (i / 2 ^ j.toNat)) (fun i j k l c => by unfold yj; exact if_pos c) (fun i j k l c => by unfold yj; exact if_neg c)
 (fun ⟨dx, kx⟩ ⟨dy, ky⟩ h => by cases dx <;> cases dy <;> first | rfl | (rcases h with h | h <;> exact absurd rfl (h _ _))) (fun _ _ => rfl) fun _ _ => rfl
theorem ua : v7 X yi (fun x y H Q => rI (fun i j => few i /\ few j) (fun i j => .int (i * j)) x y H Q \/ Yw x y H Q) := by
 rintro B H H' σ δ x y ⟨dx, kx⟩ ⟨dy, ky⟩ Q E R s r1 r2 h
 cases dx with
 | int i =>
  cases dy with
  | int j =>
   simp only [yi] at h
   by_cases c : few i /\ few j
   ·rw [if_pos c] at h
    exact .inl ⟨i, j, vA R r1, vA R r2, c, h _ H' qH.refl (VR.int _)⟩
   ·rw [if_neg c] at h
    exact h.elim
  | _ => exact h.elim
 | lst xs =>
  cases dy with
  | int j =>
   right
   simp only [yi] at h
   cases kx with
   | fr =>
    obtain ⟨p, ds, rfl, e, c, _, hp⟩ := r1
    cases e
    dsimp only at h
    by_cases c2 : (0 <= j /\ j < 1000000) /\ xs.length * j.toNat <= LIM
    ·rw [if_pos c2] at h
     refine ⟨p, j, _, rfl, vA R r2, hp, by lia, by lia, by rw [List.length_map]; exact c2.2, fun q hq => ?_⟩
     refine h _ _ (zv hq) (VR.laid (k := .nw) (R.more s) qH.refl hq (fun z => nomatch z) (qp.rep (.vQ c) _))
    ·rw [if_neg c2] at h
     exact h.elim
   | _ => exact h.elim
  | _ => cases kx <;> exact False.elim h
 | _ => exact h.elim
end
noncomputable def RR (mg : Str -> Option Value) (K : PySem.W.Frag) (H H' : Hp) : Bool -> V -> D -> Prop
 | true, v, d => ∃ p ds, v = .ref p /\ d = .lst ds /\ ds.all D.sc = true /\ H p = none /\ H' p = some (.lst (ds.map toV))
 | false, v, d => Rp mg K (fun a => H a = none) H' v d
noncomputable def Frm (B : Bs) (σ : St) (δ : Dl) (H : Hp) (σ' : St) (δ' : Dl) (H' : Hp) : Prop := ∀ b o, H b = some o -> ¬ va B σ δ b -> H' b = some o /\ ¬ va B σ' δ' b
theorem Frm.refl {B : Bs} {σ : St} {δ : Dl} {H : Hp} : Frm B σ δ H σ δ H := fun _ _ e n => ⟨e, n⟩
theorem Frm.trans {B : Bs} {σ σ1 σ2 : St} {δ δ1 δ2 : Dl} {H H1 H2 : Hp} (a : Frm B σ δ H σ1 δ1 H1) (b : Frm B σ1 δ1 H1 σ2 δ2 H2) : Frm B σ δ H σ2 δ2 H2 := fun c o e n => b c o (a c o e n).1 (a c o e n).2
theorem Frm.grow {B : Bs} {σ : St} {δ : Dl} {H H' : Hp} (s : qH H H') : Frm B σ δ H σ δ H' := fun b o e n => ⟨s b o e, n⟩
noncomputable def we (mg : Str -> Option Value) (K : PySem.W.Frag) (E : XK) (B : Bs) (H : Hp) (σ : St) (δ : Dl) (o : Out) (D : Ends) : Prop := match o with
 | .nx δ' => ∀ σ' H', Rl mg K B H' σ' δ' -> Frm B σ δ H σ' δ' H' -> D.nx σ' H'
 | .bk δ' => ∀ σ' H', Rl mg K B H' σ' δ' -> Frm B σ δ H σ' δ' H' -> D.bk σ' H'
 | .ct δ' => ∀ σ' H', Rl mg K B H' σ' δ' -> Frm B σ δ H σ' δ' H' -> D.ct σ' H'
 | .rt d k => ∀ v H', qH B.H0 H' -> RR mg K B.H0 H' k v d -> D.rt v H'
 | .er c => ∀ C H', mg c = some (.ref C) -> qH B.H0 H' -> E (.ref C) none H'
 | .no => False
noncomputable def tS (mg : Str -> Option Value) (K : PySem.W.Frag) (E : XK) (r : RS) : TS := fun D σ H => ∃ B δ, Rl mg K B H σ δ /\ we mg K E B H σ δ (r δ) D
noncomputable abbrev TSx (X : Cx) (E : XK) (r : RS) : TS := tS X.mg X.K E r
section
variable {mg : Str -> Option Value} {K : PySem.W.Frag} {E : XK} {B : Bs} {H H1 H' : Hp} {σ σ1 : St} {δ δ1 : Dl} {v : V} {d : D} {i : Nat}
theorem we.later {o : Out} {D : Ends} (h : we mg K E B H σ δ o D) (f : Frm B σ δ H σ1 δ1 H1) : we mg K E B H1 σ1 δ1 o D := by
 cases o with
 | nx δ' => exact fun σ' H' R f' => h σ' H' R (f.trans f')
 | bk δ' => exact fun σ' H' R f' => h σ' H' R (f.trans f')
 | ct δ' => exact fun σ' H' R f' => h σ' H' R (f.trans f')
 | rt d k => exact h
 | er c => exact h
 | no => exact h
theorem zd {s : Sl} (hs : ∀ ds, s ≠ .own ds) {w : Option V} {p : Addr} (h : va B (σ.set i w) (δ.set i s) p) : va B σ δ p := by
 rcases h with h | ⟨j, ds, e1, e2⟩
 ·exact .inl h
 ·right
  by_cases hj : i = j
  ·subst hj
   by_cases hi : i < δ.length
   ·rw [List.getElem?_set_self hi] at e1
    exact absurd (Option.some.inj e1) (hs ds)
   ·rw [List.getElem?_eq_none (by rw [List.length_set]; lia)] at e1
    cases e1
  ·rw [List.getElem?_set_ne hj] at e1 e2
   exact ⟨j, ds, e1, e2⟩
theorem Rl.jS {k : Bool} (R : Rl mg K B H σ δ) (r : Rp mg K (fun a => ¬ va B σ δ a /\ (k = true -> B.H0 a = none)) H v d) : Rl mg K B H (σ.set i (some v)) (δ.set i (.val d k)) := by
 have sub : ∀ a, ¬ va B σ δ a -> ¬ va B (σ.set i (some v)) (δ.set i (.val d k)) a := fun a n z => n (zd (fun _ q => by cases q) z)
 refine ⟨R.same, R.pd, by rw [List.length_set, List.length_set]; exact R.len, fun j d' k' e => ?_, fun j ds e => ?_, fun j l p ds es e1 e2 e3 e4 => ?_⟩
 ·by_cases hj : i = j
  ·subst hj
   by_cases hi : i < δ.length
   ·rw [List.getElem?_set_self hi] at e
    cases e
    exact ⟨v, List.getElem?_set_self (by rw [R.len]; exact hi), r.weak fun a g => ⟨sub a g.1, g.2⟩⟩
   ·rw [List.getElem?_eq_none (by rw [List.length_set]; lia)] at e
    cases e
  ·rw [List.getElem?_set_ne hj] at e ⊢
   obtain ⟨w, h1, h2⟩ := R.val j d' k' e
   exact ⟨w, h1, h2.weak fun a g => ⟨sub a g.1, g.2⟩⟩
 ·by_cases hj : i = j
  ·subst hj
   by_cases hi : i < δ.length
   ·rw [List.getElem?_set_self hi] at e
    cases e
   ·rw [List.getElem?_eq_none (by rw [List.length_set]; lia)] at e
    cases e
  ·rw [List.getElem?_set_ne hj] at e ⊢
   exact R.own j ds e
 ·have ne : ∀ {j : Nat} {ds : List D}, (δ.set i (.val d k))[j]? = some (.own ds) -> i ≠ j := fun {j ds} e q => by
   subst q
   by_cases hi : i < δ.length
   ·rw [List.getElem?_set_self hi] at e
    cases e
   ·rw [List.getElem?_eq_none (by rw [List.length_set]; lia)] at e
    cases e
  have n1 := ne e1
  have n2 := ne e2
  rw [List.getElem?_set_ne n1] at e1 e3
  rw [List.getElem?_set_ne n2] at e2 e4
  exact R.apart j l p ds es e1 e2 e3 e4
theorem zP {k : Bool} : Frm B σ δ H (σ.set i (some v)) (δ.set i (.val d k)) H := fun b o e n => ⟨e, fun z => n (zd (fun _ q => by cases q) z)⟩
theorem Rl.Zr {p : Addr} {ds : List D} (R : Rl mg K B H σ δ) (s : qH H H') (hp : H p = none) (hp' : H' p = some (.lst (ds.map toV))) (c : ds.all D.sc = true) : Rl mg K B H' (σ.set i (some (.ref p))) (δ.set i (.own ds)) /\ Frm B σ δ H (σ.set i (some (.ref p))) (δ.set i (.own ds)) H' := by
 have get : ∀ {j : Nat} {x : Sl}, (δ.set i (.own ds))[j]? = some x -> (i = j /\ i < δ.length /\ x = .own ds) \/ (i ≠ j /\ δ[j]? = some x) := fun {j x} e => by
  by_cases hj : i = j
  ·subst hj
   by_cases hi : i < δ.length
   ·rw [List.getElem?_set_self hi] at e
    exact .inl ⟨rfl, hi, (Option.some.inj e).symm⟩
   ·rw [List.getElem?_eq_none (by rw [List.length_set]; lia)] at e
    cases e
  ·rw [List.getElem?_set_ne hj] at e
   exact .inr ⟨hj, e⟩
 have sub : ∀ a, H a ≠ none -> ¬ va B σ δ a -> ¬ va B (σ.set i (some (.ref p))) (δ.set i (.own ds)) a := fun a ha n z => by
  rcases z with z | ⟨j, es, e1, e2⟩
  ·exact n (.inl z)
  ·rcases get e1 with ⟨rfl, hi, _⟩ | ⟨hj, e1⟩
   ·rw [List.getElem?_set_self (by rw [R.len]; exact hi)] at e2
    cases e2
    exact ha hp
   ·rw [List.getElem?_set_ne hj] at e2
    exact n (.inr ⟨j, es, e1, e2⟩)
 have R' := R.more s
 refine ⟨⟨R'.same, R'.pd, by rw [List.length_set, List.length_set]; exact R.len, fun j d' k' e => ?_, fun j es e => ?_, fun j l q es fs e1 e2 e3 e4 => ?_⟩, fun b o e n => ⟨s b o e, sub b (by rw [e]; exact fun z => nomatch z) n⟩⟩
 ·rcases get e with ⟨_, _, z⟩ | ⟨hj, e⟩
  ·cases z
  ·obtain ⟨w, h1, h2⟩ := R.val j d' k' e
   rw [List.getElem?_set_ne hj]
   exact ⟨w, h1, (Rp.weak (Rp.there _ _ h2) fun a g => ⟨sub a g.2 g.1.1, g.1.2⟩).same s⟩
 ·rcases get e with ⟨rfl, hi, z⟩ | ⟨hj, e⟩
  ·cases z
   exact ⟨c, p, List.getElem?_set_self (by rw [R.len]; exact hi), R.same.free hp, fun z => R.pd p z hp, hp'⟩
  ·rw [List.getElem?_set_ne hj]
   exact R'.own j es e
 ·have pne : ∀ {j : Nat} {es : List D} {q : Addr}, δ[j]? = some (.own es) -> σ[j]? = some (some (.ref q)) -> q ≠ p := fun {j es q} e1 e2 z => by
   have := R.owned (.inr ⟨j, es, e1, e2⟩)
   rw [z] at this
   exact this hp
  rcases get e1 with ⟨h1, hi, _⟩ | ⟨h1, e1⟩
  ·rcases get e2 with ⟨h2, _, _⟩ | ⟨h2, e2⟩
   ·exact h1.symm.trans h2
   ·subst h1
    rw [List.getElem?_set_self (by rw [R.len]; exact hi)] at e3
    rw [List.getElem?_set_ne h2] at e4
    cases e3
    exact absurd rfl (pne e2 e4)
  ·rw [List.getElem?_set_ne h1] at e3
   rcases get e2 with ⟨h2, hi, _⟩ | ⟨h2, e2⟩
   ·subst h2
    rw [List.getElem?_set_self (by rw [R.len]; exact hi)] at e4
    cases e4
    exact absurd rfl (pne e1 e3)
   ·rw [List.getElem?_set_ne h2] at e4
    exact R.apart j l q es fs e1 e2 e3 e4
theorem yG {δ : Dl} {j : Nat} {x : Sl} (h : (freeze δ)[j]? = some x) : ∃ y, δ[j]? = some y /\ x = frz y := by
 unfold freeze at h
 rw [List.getElem?_map] at h
 cases e : δ[j]? with
 | none => rw [e] at h; cases h
 | some y => rw [e] at h; exact ⟨y, rfl, (Option.some.inj h).symm⟩
theorem zy {p : Addr} (h : va B σ (freeze δ) p) : B.P p := by
 rcases h with h | ⟨j, ds, e, _⟩
 ·exact h
 ·obtain ⟨y, _, z⟩ := yG e
  cases y <;> cases z
theorem Rl.frz (R : Rl mg K B H σ δ) : Rl mg K B H σ (freeze δ) := by
 refine ⟨R.same, R.pd, by unfold freeze; rw [List.length_map]; exact R.len, fun j d k e => ?_, fun j ds e => ?_, fun j l p ds es e1 _ _ _ => ?_⟩
 ·obtain ⟨y, h, z⟩ := yG e
  cases y with
  | un => cases z
  | val d' k' =>
   cases z
   obtain ⟨w, h1, h2⟩ := R.val j _ _ h
   exact ⟨w, h1, h2.weak fun a g => ⟨fun z => g.1 (.inl (zy z)), g.2⟩⟩
  | own ds =>
   cases z
   obtain ⟨c, p, h1, h2, h3, h4⟩ := R.own j ds h
   exact ⟨.ref p, h1, .lst ⟨fun z => h3 (zy z), fun _ => h2⟩ (.of h4) (.vQ c)⟩
 ·obtain ⟨y, _, z⟩ := yG e
  cases y <;> cases z
 ·obtain ⟨y, _, z⟩ := yG e1
  cases y <;> cases z
theorem WM : Frm B σ δ H σ (freeze δ) H := fun b o e n => ⟨e, fun z => n (.inl (zy z))⟩
theorem Rl.YO {ds : List D} (R : Rl mg K B H σ δ) (hδ : δ[i]? = some (.own ds)) : Rl mg K B H σ (δ.set i (.val (.lst ds) true)) /\ Frm B σ δ H σ (δ.set i (.val (.lst ds) true)) H := by
 obtain ⟨c, p, h1, h2, h3, h4⟩ := R.own i ds hδ
 have hi : i < σ.length := (List.getElem?_eq_some_iff.mp h1).1
 have e : σ.set i (some (.ref p)) = σ := by
  refine List.ext_getElem? fun j => ?_
  by_cases hj : i = j
  ·subst hj
   rw [List.getElem?_set_self hi, h1]
  ·rw [List.getElem?_set_ne hj]
 have sub : ∀ a, va B σ (δ.set i (.val (.lst ds) true)) a -> va B σ δ a := fun a z => by
  rw [<- e] at z
  exact zd (fun _ q => by cases q) z
 have np : ¬ va B σ (δ.set i (.val (.lst ds) true)) p := fun z => by
  rcases z with z | ⟨j, es, e1, e2⟩
  ·exact h3 z
  ·by_cases hj : i = j
   ·subst hj
    rw [List.getElem?_set_self (by rw [<- R.len]; exact hi)] at e1
    cases e1
   ·rw [List.getElem?_set_ne hj] at e1
    exact hj (R.apart i j p ds es hδ e1 h1 e2)
 refine ⟨⟨R.same, R.pd, by rw [List.length_set]; exact R.len, fun j d k q => ?_, fun j es q => ?_, fun j l q fs gs e1 e2 e3 e4 => ?_⟩, fun b o q n => ⟨q, fun z => n (sub b z)⟩⟩
 ·by_cases hj : i = j
  ·subst hj
   rw [List.getElem?_set_self (by rw [<- R.len]; exact hi)] at q
   cases q
   exact ⟨_, h1, .lst ⟨np, fun _ => h2⟩ (.of h4) (.vQ c)⟩
  ·rw [List.getElem?_set_ne hj] at q
   obtain ⟨w, g1, g2⟩ := R.val j d k q
   exact ⟨w, g1, g2.weak fun a g => ⟨fun z => g.1 (sub a z), g.2⟩⟩
 ·by_cases hj : i = j
  ·subst hj
   rw [List.getElem?_set_self (by rw [<- R.len]; exact hi)] at q
   cases q
  ·rw [List.getElem?_set_ne hj] at q
   exact R.own j es q
 ·have get : ∀ {j : Nat} {es : List D}, (δ.set i (.val (.lst ds) true))[j]? = some (.own es) -> δ[j]? = some (.own es) := fun {j es} q => by
   by_cases hj : i = j
   ·subst hj
    rw [List.getElem?_set_self (by rw [<- R.len]; exact hi)] at q
    cases q
   ·rw [List.getElem?_set_ne hj] at q
    exact q
  exact R.apart j l q fs gs (get e1) (get e2) e3 e4
theorem VR.slot {k : Kd} (R : Rl mg K B H σ δ) (s : qH H H') (r : VR mg K B H H' σ δ k v d) (h : k ≠ .bo \/ d.sc = true) : ∃ d' b, xr (d, if d.sc = true then .nw else k) = .val d' b /\ d' = d /\ Rp mg K (fun a => ¬ va B σ δ a /\ (b = true -> B.H0 a = none)) H' v d := by
 refine ⟨d, _, rfl, rfl, ?_⟩
 cases c : d.sc with
 | true =>
  have e := (r.rp R).sc c
  rw [e]
  exact Rp.vQ c
 | false =>
  rw [if_neg (by decide)]
  rcases h with h | h
  ·cases k with
   | bo => exact absurd rfl h
   | sh => exact Rp.weak r fun a g => ⟨g, fun z => nomatch z⟩
   | nw => exact Rp.weak r fun a g => ⟨g.1, fun _ => g.2⟩
   | fr => exact Rp.weak (VR.wO R r) fun a g => ⟨g.1, fun _ => g.2⟩
  ·rw [c] at h
   cases h
end
structure Gd (X : Cx) (E : XK) : Prop where
 calm : X.calm = true
 nd : X.N.Nodup
 acc : Acc X E
 own : PassesOwn (model X.prog X.w) X.A X.env X.xe
theorem jG {X : Cx} {E : XK} {L : Addr} (hst : X.stack = X.env :: X.outer) (hfr : X.env.frame = some L) : PassesOwn (model X.prog X.w) X.A X.env (Arr X E) := by
 intro e s1 x
 obtain ⟨a, cls, B, H', pins, σ, rfl, I, hd, kb, q⟩ := x
 have hfrm : X.A.frames = some (X.env :: X.outer) := by rw [<- hst]; exact I.ok.frames
 have hd0 := hd
 rw [hst] at hd0
 refine zx hfrm hfr hfr hd0 fun h1 hd1 up1 => ?_
 rw [<- hst] at hd1
 obtain ⟨I1, kb1⟩ := vM I hd kb hd1.hand up1
 unfold cameBackBy
 refine wpAny_bind (xS hd1 fun T => ?_)
 rw [if_neg (show ¬ ((Value.ref T == Value.none) = true) from by simp)]
 refine vY hd1 fun h2 hd2 up2 => ?_
 obtain ⟨I2, kb2⟩ := vM I1 hd1.hand kb1 hd2.hand up2
 exact ⟨a, cls, B, H', pins, σ, rfl, I2, hd2.hand, kb2, q⟩
section
variable {X : Cx} {E : XK} {pos : Pos}
theorem uG {st : List Stmt} {t t' : TS} (h : PSs X st t) (i : ∀ D σ H, t' D σ H -> t D σ H) : PSs X st t' := fun pins s σ H D I hw => h pins s σ H D I (i D σ H hw)
theorem vd : PSs X [] (TSx X E vB) := uG Wc fun D σ H ⟨B, δ, R, h⟩ => h σ H R Frm.refl
theorem ZO {a b : RS} {D : Ends} {σ : St} {H : Hp} (h : TSx X E (qR a b) D σ H) : TSx X E a { D with nx := TSx X E b D } σ H := by
 obtain ⟨B, δ, R, h⟩ := h
 refine ⟨B, δ, R, ?_⟩
 unfold qR Out.andThen at h
 cases ha : a δ with
 | nx δ1 =>
  rw [ha] at h
  exact fun σ1 H1 R1 f1 => ⟨B, δ1, R1, we.later h f1⟩
 | bk δ1 => rw [ha] at h; exact h
 | ct δ1 => rw [ha] at h; exact h
 | rt d k => rw [ha] at h; exact h
 | er c => rw [ha] at h; exact h
 | no => rw [ha] at h; exact h
theorem qo {st : Stmt} {rest : List Stmt} {a b : RS} (h1 : PS X st (TSx X E a)) (h2 : PSs X rest (TSx X E b)) : PSs X (st :: rest) (TSx X E (qR a b)) := uG (uW h1 h2) fun _ _ _ h => ZO h
theorem qv {st : Stmt} {a : RS} (h1 : PS X st (TSx X E a)) : PSs X [st] (TSx X E a) := z7 h1
theorem xC {mg : Str -> Option Value} {K : PySem.W.Frag} {B : Bs} {H : Hp} {σ : St} {δ : Dl} {c : Str} (R : Rl mg K B H σ δ) (h : ∀ C H', mg c = some (.ref C) -> qH B.H0 H' -> E (.ref C) none H') : ∀ C H', mg c = some (.ref C) -> qH H H' -> E (.ref C) none H' := fun C H' e s => h C H' e (R.same.trans s)
theorem Wy {e : Expr} {r : RE} (he : PE X e (TEx X E r)) (hs : swapsWith e none pos.line X.env = pure false := by rfl) : PS X (.Expr e pos) (TSx X E (xb r)) := by
 refine v9 (V9 he hs) fun D σ H ⟨B, δ, R, h⟩ => ⟨B, δ, R, ?_⟩
 unfold xb at h
 cases hr : r δ with
 | ok x => rw [hr] at h; exact fun v H' s _ => h σ H' (R.more s) (Frm.grow s)
 | er c => rw [hr] at h; exact xC R h
 | no => rw [hr] at h; exact h
theorem ZN {i : Nat} {r : RE} {D : Ends} {σ : St} {H : Hp} (h : TSx X E (qQ i r) D σ H) : ZA (TEx X E r) (xP i) D σ H := by
 obtain ⟨B, δ, R, h⟩ := h
 refine ⟨B, δ, R, ?_⟩
 unfold qQ at h
 cases hr : r δ with
 | er c => rw [hr] at h; exact xC R h
 | no => rw [hr] at h; exact h
 | ok x =>
  rw [hr] at h
  obtain ⟨d, k⟩ := x
  intro v H' s vr
  have vr : VR X.mg X.K B H H' σ δ k v d := vr
  show D.nx (σ.set i (some v)) H'
  -- a value that is no list just made
  have plain : (k ≠ .bo \/ d.sc = true) -> we X.mg X.K E B H σ δ (.nx (δ.set i (xr (d, if d.sc = true then .nw else k)))) D -> D.nx (σ.set i (some v)) H' := fun hk q => by
   obtain ⟨d', b, e, e2, rp⟩ := VR.slot R s vr hk
   subst e2
   rw [e] at q
   exact q _ _ ((R.more s).jS rp) ((Frm.grow s).trans zP)
  cases k with
  | fr =>
   obtain ⟨p, ds, rfl, rfl, c, e1, e2⟩ := vr
   have q := R.Zr (i := i) s e1 e2 c
   exact h _ _ q.1 q.2
  | bo =>
   cases hsc : d.sc with
   | true =>
    refine plain (.inr hsc) ?_
    rw [if_pos hsc]
    cases d <;> first | exact h | cases hsc
   | false =>
    have h' : we X.mg X.K E B H σ δ (.nx ((freeze δ).set i (.val d false))) D := by
     cases d <;> first | exact h | cases hsc
    refine h' _ _ ((R.more s).frz.jS ?_) ((Frm.grow s).trans (WM.trans zP))
    exact Rp.weak vr fun a g => ⟨fun z => g (zy z), fun z => nomatch z⟩
  | sh =>
   refine plain (.inl fun z => nomatch z) ?_
   cases d <;> exact h
  | nw =>
   refine plain (.inl fun z => nomatch z) ?_
   cases d <;> exact h
theorem ZZ {i : Nat} {x : Str} {e : Expr} {r : RE} {pos' : Pos} (g : Gd X E) (hi : X.N[i]? = some x) (hx : Loc X.env.scope x) (he : PE X e (TEx X E r)) (hs : swapsWith e (some (.Name x pos')) pos.line X.env = pure false := by rfl) (hf : X.fn x = true \/ X.env.scope.names.lookup x = some .local := by first | exact .inl rfl | exact .inr rfl | assumption) :
  PS X (.Assign [.Name x pos'] e pos) (TSx X E (qQ i r)) := v9 (VU g.nd hi hx he hs hf) fun _ _ _ h => ZN h
theorem vZ {c : Expr} {a b : List Stmt} {t : RT} {ra rb : RS} (hc : PT X c (TTx X E t)) (ha : PSs X a (TSx X E ra)) (hb : PSs X b (TSx X E rb)) : PS X (.If c a b pos) (TSx X E (sIf t ra rb)) := by
 refine v9 (Yp hc ha hb) fun D σ H ⟨B, δ, R, h⟩ => ⟨B, δ, R, ?_⟩
 unfold sIf at h
 cases hr : t δ with
 | er c => rw [hr] at h; exact xC R h
 | no => rw [hr] at h; exact h
 | ok x =>
  rw [hr] at h
  intro H1 s1
  cases x with
  | true => exact ⟨B, δ, R.more s1, we.later h (Frm.grow s1)⟩
  | false => exact ⟨B, δ, R.more s1, we.later h (Frm.grow s1)⟩
theorem qP {e : Expr} {r : RE} (he : PE X e (TEx X E r)) : PS X (.Return (some e) pos) (TSx X E (qW r)) := by
 refine v9 (xc he) fun D σ H ⟨B, δ, R, h⟩ => ⟨B, freeze δ, R.frz, ?_⟩
 unfold qW at h
 cases hr : r (freeze δ) with
 | er c => rw [hr] at h; exact xC R h
 | no => rw [hr] at h; exact h
 | ok x =>
  rw [hr] at h
  obtain ⟨d, k⟩ := x
  intro v H' s vr
  have vr : VR X.mg X.K B H H' σ (freeze δ) k v d := vr
  have same := R.same.trans s
  have WO : d.sc = true -> RR X.mg X.K B.H0 H' false v d := fun c => by
   have e := (vr.rp R.frz).sc c
   rw [e]
   exact Rp.vQ c
  cases k with
  | fr =>
   obtain ⟨p, ds, rfl, rfl, c, e1, e2⟩ := vr
   exact h _ H' same ⟨p, ds, rfl, rfl, c, R.same.free e1, e2⟩
  | nw =>
   have h' : we X.mg X.K E B H σ δ (.rt d false) D := by cases d <;> exact h
   exact h' v H' same (Rp.weak vr fun a g => g.2)
  | sh =>
   have h' : we X.mg X.K E B H σ δ (if d.sc = true then .rt d false else .no) D := by cases d <;> exact h
   cases c : d.sc with
   | true => rw [if_pos c] at h'; exact h' v H' same (WO c)
   | false => rw [if_neg (by rw [c]; decide)] at h'; exact h'.elim
  | bo =>
   have h' : we X.mg X.K E B H σ δ (if d.sc = true then .rt d false else .no) D := by cases d <;> exact h
   cases c : d.sc with
   | true => rw [if_pos c] at h'; exact h' v H' same (WO c)
   | false => rw [if_neg (by rw [c]; decide)] at h'; exact h'.elim
theorem WL {i : Nat} {x : Str} {p : Pos} (hN : X.N[i]? = some x) (hv : Vis X.env.scope x) (hd : (x == ("__debug__" : Str)) = false := by decide) (hcd : (x == ("__classdict__" : Str)) = false := by decide) : PS X (.Return (some (.Name x p)) pos) (TSx X E (z3 i)) := by
 refine v9 (xc (x8 hN hv hd hcd)) fun D σ H ⟨B, δ, R, h⟩ => ?_
 unfold z3 at h
 cases hδ : δ[i]? with
 | none => rw [hδ] at h; exact h.elim
 | some s =>
  rw [hδ] at h
  cases s with
  | un => exact h.elim
  | own ds =>
   obtain ⟨c, q, e1, e2, _, e3⟩ := R.own i ds hδ
   exact ⟨_, e1, h _ H R.same ⟨q, ds, rfl, rfl, c, e2, e3⟩⟩
  | val d k =>
   obtain ⟨v, e1, r⟩ := R.val i d k hδ
   refine ⟨v, e1, ?_⟩
   dsimp only at h
   by_cases c : d.sc = true \/ k = true
   ·rw [if_pos c] at h
    refine h v H R.same ?_
    rcases c with c | c
    ·have e := r.sc c
     rw [e]
     exact Rp.vQ c
    ·exact Rp.weak r fun a g => g.2 c
   ·rw [if_neg c] at h
    exact h.elim
theorem zh {x : Str} {C : Addr} {np cpos : Pos} (g : Gd X E) (hg : Gl X x) (hm : X.mg x = some (.ref C)) (hC : qI X.K C = true) (hd : (x == ("__debug__" : Str)) = false := by decide) : PS X (.Raise (some (.Call (.Name x np) [] [] cpos)) none pos) (TSx X E (zj x)) :=
 v9 (QW g.calm g.acc hg hm hC hd) fun D σ H ⟨B, δ, R, h⟩ => h C H hm R.same
noncomputable def Kp (fl : Bool) (B B' : Bs) (σ : St) (δ : Dl) (H1 : Hp) (σ' : St) (δ' : Dl) (H2 : Hp) : Prop :=
 B'.H0 = B.H0 /\ (∀ b o, H1 b = some o -> ¬ va B σ δ b -> H2 b = some o /\ ¬ va B' σ' δ' b) /\ (fl = false -> qH H1 H2)
theorem Kp.of {B : Bs} {σ σ' : St} {δ δ' : Dl} {H1 H2 : Hp} (f : Frm B σ δ H1 σ' δ' H2) : Kp true B B σ δ H1 σ' δ' H2 := ⟨rfl, f, fun z => nomatch z⟩
noncomputable def Tg.sets : Tg -> St -> St -> Prop
 | .one i, σ, σ2 => ∃ v, σ2 = σ.set i (some v)
 | .two i j, σ, σ2 => ∃ v w, σ2 = (σ.set i (some v)).set j (some w)
noncomputable def Walks (X : Cx) (B : Bs) (H1 : Hp) (σ : St) (δ : Dl) (g : TG) (tg : Tg) (J : It) (fl : Bool) (xs : List DK) : Prop :=
 (∀ (B' : Bs) (i : Nat) (x : DK) (σ' : St) (δ' δ2 : Dl) (H2 : Hp), xs[i]? = some x -> Rl X.mg X.K B' H2 σ' δ' -> Kp fl B B' σ δ H1 σ' δ' H2 -> tg.put x δ' = some δ2 ->
  J.go i H2 /\ ∀ v H3, J.yld i H2 v H3 -> ∀ Q : St -> Hp -> Prop, (∀ σ2 H4, Rl X.mg X.K B' H4 σ2 δ2 -> Frm B' σ' δ' H2 σ2 δ2 H4 -> qH H2 H4 -> tg.sets σ' σ2 -> Q σ2 H4) -> g v σ' H3 Q) /\
 ∀ (B' : Bs) (i : Nat) (σ' : St) (δ' : Dl) (H2 : Hp), xs.length <= i -> Rl X.mg X.K B' H2 σ' δ' -> Kp fl B B' σ δ H1 σ' δ' H2 -> J.stop i H2
noncomputable def tI (X : Cx) (E : XK) (g : TG) (tg : Tg) (src : RI) : TI := fun σ H R => ∃ B δ, Rl X.mg X.K B H σ δ /\ qS X.mg E H (src δ) fun x => ∀ J H1, qH H H1 -> Walks X B H1 σ δ g tg J x.1 x.2 -> R J H1
theorem Zj {tgE iter : Expr} {body : List Stmt} {g : TG} {tg : Tg} {src : RI} {rb : RS} (G : Gd X E) (hi : PI X tgE iter (tI X E g tg src)) (hg : PG X tgE g) (hb : PSs X body (TSx X E rb)) (hs : ∀ x, foldedSetIterable iter X.env x = pure x := by intro _; rfl) :
  PS X (.For tgE iter body [] pos) (TSx X E (ZE tg src rb)) := by
 refine v9 (Zu G.own G.calm hi hg hb hs) fun D σ H ⟨B, δ, R, h⟩ => ⟨B, δ, R, ?_⟩
 unfold ZE at h
 cases hr : src δ with
 | er c => rw [hr] at h; exact xC R h
 | no => rw [hr] at h; exact h
 | ok x =>
  rw [hr] at h
  obtain ⟨fl, xs⟩ := x
  cases fl with
  | false => exact h.elim
  | true =>
   intro J H1 s1 W
   have h : we X.mg X.K E B H σ δ (turns tg rb xs δ) D := h
   have h1 := we.later h (Frm.grow (σ := σ) s1)
   refine ⟨fun i m σ' H' => m = xs.length - i /\ i <= xs.length /\ ∃ δ', Rl X.mg X.K B H' σ' δ' /\ Frm B σ δ H1 σ' δ' H' /\ we X.mg X.K E B H' σ' δ' (turns tg rb (xs.drop i) δ') D, ⟨xs.length, by lia, Nat.zero_le _, δ, R.more s1, Frm.refl, h1⟩, ?_⟩
   rintro i m σ' H' ⟨rfl, hi, δ', R', f', h'⟩
   by_cases hlt : i < xs.length
   ·right
    have hx : xs[i]? = some xs[i] := List.getElem?_eq_getElem hlt
    rw [List.drop_eq_getElem_cons hlt] at h'
    unfold turns at h'
    cases hp : tg.put xs[i] δ' with
    | none => rw [hp] at h'; exact h'.elim
    | some δ2 =>
     rw [hp] at h'
     obtain ⟨go, yl⟩ := W.1 B i xs[i] σ' δ' δ2 H' hx R' (Kp.of f') hp
     refine ⟨go, fun σ2 H2 => i + 1 <= xs.length /\ ∃ δ3, Rl X.mg X.K B H2 σ2 δ3 /\ Frm B σ δ H1 σ2 δ3 H2 /\ we X.mg X.K E B H2 σ2 δ3 (turns tg rb (xs.drop (i + 1)) δ3) D, fun σ2 H2 ⟨q1, δ3, q2, q3, q4⟩ => ⟨xs.length - (i + 1), by lia, rfl, q1, δ3, q2, q3, q4⟩, fun v H3 hy => ?_⟩
     refine yl v H3 hy _ fun σ2 H4 R2 f2 _ _ => ⟨B, δ2, R2, ?_⟩
     have f4 := f'.trans f2
     dsimp only at h'
     cases hb : rb δ2 with
     | nx δ3 => rw [hb] at h'; exact fun σ3 H5 R3 f3 => ⟨hlt, δ3, R3, f4.trans f3, we.later h' (f2.trans f3)⟩
     | ct δ3 => rw [hb] at h'; exact fun σ3 H5 R3 f3 => ⟨hlt, δ3, R3, f4.trans f3, we.later h' (f2.trans f3)⟩
     | bk δ3 => rw [hb] at h'; exact fun σ3 H5 R3 f3 => h' σ3 H5 R3 (f2.trans f3)
     | rt d k => rw [hb] at h'; exact h'
     | er c => rw [hb] at h'; exact h'
     | no => rw [hb] at h'; exact h'
   ·left
    have e : i = xs.length := by lia
    subst e
    rw [List.drop_length] at h'
    exact ⟨W.2 B _ σ' δ' H' (Nat.le_refl _) R' (Kp.of f'), h' σ' H' R' Frm.refl⟩
theorem Vh {c : Expr} {body : List Stmt} {t : RT} {rb : RS} (G : Gd X E) (hc : PT X c (TTx X E t)) (hb : PSs X body (TSx X E rb)) : PS X (.While c body [] pos) (TSx X E (y4 t rb)) := by
 refine v9 (Q4 G.own hc hb) fun D σ H ⟨B, δ, R, h⟩ => ?_
 have hn : ∃ n, we X.mg X.K E B H σ δ (wl t rb n δ) D := by
  unfold y4 at h
  split at h
  ·exact ⟨_, h⟩
  ·exact h.elim
 obtain ⟨n, h⟩ := hn
 refine ⟨fun m σ' H' => ∃ δ', Rl X.mg X.K B H' σ' δ' /\ we X.mg X.K E B H' σ' δ' (wl t rb m δ') D, ⟨n, δ, R, h⟩, ?_⟩
 rintro m σ' H' ⟨δ', R', h'⟩
 refine ⟨B, δ', R', ?_⟩
 cases m with
 | zero => exact h'.elim
 | succ m =>
  unfold wl at h'
  cases ht : t δ' with
  | er c => rw [ht] at h'; exact xC R' h'
  | no => rw [ht] at h'; exact h'
  | ok x =>
   rw [ht] at h'
   intro H1 s1
   cases x with
   | false => exact h' σ' H1 (R'.more s1) (Frm.grow s1)
   | true =>
    simp only [if_true] at h' ⊢
    refine ⟨fun σ2 H2 => ∃ δ2, Rl X.mg X.K B H2 σ2 δ2 /\ we X.mg X.K E B H2 σ2 δ2 (wl t rb m δ2) D, fun σ2 H2 q => ⟨m, Nat.lt_succ_self _, q⟩, B, δ', R'.more s1, ?_⟩
    cases hb : rb δ' with
    | nx δ3 => rw [hb] at h'; exact fun σ3 H5 R3 f3 => ⟨δ3, R3, we.later h' ((Frm.grow s1).trans f3)⟩
    | ct δ3 => rw [hb] at h'; exact fun σ3 H5 R3 f3 => ⟨δ3, R3, we.later h' ((Frm.grow s1).trans f3)⟩
    | bk δ3 => rw [hb] at h'; exact fun σ3 H5 R3 f3 => h' σ3 H5 R3 ((Frm.grow s1).trans f3)
    | rt d k => rw [hb] at h'; exact h'
    | er c => rw [hb] at h'; exact h'
    | no => rw [hb] at h'; exact h'
end
section
variable {mg : Str -> Option Value} {K : PySem.W.Frag} {B : Bs} {H H1 H2 H' : Hp} {σ σ' : St} {δ δ' δ2 : Dl} {v : V} {d : D} {i j : Nat} {k : Kd}
theorem Wd {fl : Bool} {B' : Bs} (f : Kp fl B B' σ δ H1 σ' δ' H2) (hk : d.sc = true \/ k ≠ .bo) (r : Rp mg K (Gk B σ δ k) H1 v d) : Rp mg K (Gk B' σ' δ' k) H2 v d := by
 rcases hk with c | hk
 ·rw [r.sc c]
  exact Rp.vQ c
 obtain ⟨f0, f2, f3⟩ := f
 refine Rp.mono (fun a g => ?_) d v (Rp.there _ _ r)
 obtain ⟨g, n⟩ := g
 have viaOwn : ¬ va B σ δ a -> ¬ va B' σ' δ' a /\ ∀ o, H1 a = some o -> H2 a = some o := fun no => by
  cases e : H1 a with
  | none => exact absurd e n
  | some o => exact ⟨(f2 a o e no).2, fun o' e' => by cases e'; exact (f2 a o e no).1⟩
 cases k with
 | bo => exact absurd rfl hk
 | sh => exact viaOwn g
 | nw => exact ⟨⟨(viaOwn g.1).1, by rw [f0]; exact g.2⟩, (viaOwn g.1).2⟩
 | fr => exact ⟨⟨(viaOwn g.1).1, by rw [f0]; exact g.2⟩, (viaOwn g.1).2⟩
theorem VP (h : put i (d, k) δ = some δ') : d.sc = true \/ k ≠ .bo := by
 cases k with
 | bo =>
  have h2 : (if d.sc = true then some (δ.set i (.val d true)) else none) = some δ' := h
  by_cases c : d.sc = true
  ·exact .inl c
  ·rw [if_neg c] at h2
   cases h2
 | sh => exact .inr fun z => nomatch z
 | nw => exact .inr fun z => nomatch z
 | fr => exact .inr fun z => nomatch z
theorem ZF (R : Rl mg K B H σ δ) (r : Rp mg K (Gk B σ δ k) H v d) (h : put i (d, k) δ = some δ') : Rl mg K B H (σ.set i (some v)) δ' /\ Frm B σ δ H (σ.set i (some v)) δ' H := by
 have fin : ∀ b : Bool, δ' = δ.set i (.val d b) -> Rp mg K (fun a => ¬ va B σ δ a /\ (b = true -> B.H0 a = none)) H v d -> Rl mg K B H (σ.set i (some v)) δ' /\ Frm B σ δ H (σ.set i (some v)) δ' H := fun b e q => by
  rw [e]
  exact ⟨R.jS q, zP⟩
 cases c : d.sc with
 | true =>
  have e := r.sc c
  subst e
  refine fin true ?_ (Rp.vQ c)
  cases k with
  | bo =>
   have h2 : (if d.sc = true then some (δ.set i (.val d true)) else none) = some δ' := h
   rw [if_pos c] at h2
   exact (Option.some.inj h2).symm
  | sh =>
   have h2 : some (δ.set i (xr (d, if d.sc = true then .nw else .sh))) = some δ' := h
   rw [if_pos c] at h2
   exact (Option.some.inj h2).symm
  | nw =>
   have h2 : some (δ.set i (xr (d, if d.sc = true then .nw else .nw))) = some δ' := h
   rw [if_pos c] at h2
   exact (Option.some.inj h2).symm
  | fr =>
   have h2 : some (δ.set i (xr (d, if d.sc = true then .nw else .fr))) = some δ' := h
   rw [if_pos c] at h2
   exact (Option.some.inj h2).symm
 | false =>
  have cn : ¬ (d.sc = true) := by rw [c]; decide
  cases k with
  | bo =>
   have h2 : (if d.sc = true then some (δ.set i (.val d true)) else none) = some δ' := h
   rw [if_neg cn] at h2
   cases h2
  | sh =>
   have h2 : some (δ.set i (xr (d, if d.sc = true then .nw else .sh))) = some δ' := h
   rw [if_neg cn] at h2
   exact fin false (Option.some.inj h2).symm (r.weak fun a g => ⟨g, fun z => nomatch z⟩)
  | nw =>
   have h2 : some (δ.set i (xr (d, if d.sc = true then .nw else .nw))) = some δ' := h
   rw [if_neg cn] at h2
   exact fin true (Option.some.inj h2).symm (r.weak fun a g => ⟨g.1, fun _ => g.2⟩)
  | fr =>
   have h2 : some (δ.set i (xr (d, if d.sc = true then .nw else .fr))) = some δ' := h
   rw [if_neg cn] at h2
   exact fin true (Option.some.inj h2).symm (r.weak fun a g => ⟨g.1, fun _ => g.2⟩)
end
section
variable {X : Cx} {E : XK} {pos : Pos} {tgE : Expr}
theorem V2 {tg iter : Expr} {w w' : TI} (h : PI X tg iter w) (i : ∀ σ H R, w' σ H R -> w σ H R) : PI X tg iter w' := fun pins s σ H R I hw => h pins s σ H R I (i σ H R hw)
theorem Wx {k : Kd} (h : k.safe = true) : k ≠ .bo := fun z => by rw [z] at h; cases h
theorem QE {k : Kd} (h : k ≠ .bo) : k.low .nw ≠ .bo := by cases k <;> first | exact absurd rfl h | exact fun z => nomatch z
theorem VS {B : Bs} {σ : St} {δ : Dl} {k : Kd} {a : Addr} (h : k ≠ .bo) (g : Gk B σ δ k a) : ¬ va B σ δ a := by
 cases k with
 | bo => exact absurd rfl h
 | sh => exact g
 | nw => exact g.1
 | fr => exact g.1
theorem je {mg : Str -> Option Value} {K : PySem.W.Frag} {B : Bs} {H1 : Hp} {σ : St} {δ : Dl} {k : Kd} {v : V} {ds : List D} {fl : Bool} (hk : fl = true -> k ≠ .bo) (r : Rp mg K (Gk B σ δ k) H1 v (.lst ds)) : ∃ a vs, v = .ref a /\ SqL K H1 a vs /\ qp mg K (Gk B σ δ k) H1 vs ds /\
  ∀ (B' : Bs) (H2 : Hp) (σ' : St) (δ' : Dl), Kp fl B B' σ δ H1 σ' δ' H2 -> SqL K H2 a vs := by
 cases r with
 | lst g s q =>
  refine ⟨_, _, rfl, .inl s, q, fun B' H2 σ' δ' f => .inl (Vy s fun o e => ?_)⟩
  cases fl with
  | true => exact (f.2.1 _ o e (VS (hk rfl) g)).1
  | false => exact f.2.2 rfl _ o e
 | lstK s q => exact ⟨_, _, rfl, s _, q, fun B' H2 _ _ _ => s H2⟩
theorem WT {i : Nat} {iter : Expr} {r : RE} (hl : PE X iter (TEx X E r)) : PI X tgE iter (tI X E (xP i) (.one i) (iOf r)) := by
 refine V2 (WS hl) fun σ H R ⟨B, δ, R0, h⟩ => ⟨B, δ, R0, ?_⟩
 refine qS.imp (qS.bind h) fun x h1 v H1 s1 vr => ?_
 obtain ⟨d, k⟩ := x
 have vr : VR X.mg X.K B H H1 σ δ k v d := vr
 cases d with
 | lst ds =>
  have h2 := h1
  have hk : k.safe = true -> k.low .nw ≠ .bo := fun z => QE (Wx z)
  have rp := VR.low R0 .nw vr
  rw [VR.gk (low_ne _ _)] at rp
  obtain ⟨a, vs, rfl, sq, ra, st⟩ := je (fl := k.safe) hk rp
  refine ⟨a, rfl, ⟨vs, sq⟩, h2 (Itl X.K a) H1 s1 ⟨fun B' n x σ' δ' δ2 H2 hx R' f hp => ?_, fun B' n σ' δ' H2 hn R' f => ⟨vs, st B' H2 σ' δ' f, by rw [ra.len]; simpa using hn⟩⟩⟩
  have sq2 := st B' H2 σ' δ' f
  rw [List.getElem?_map] at hx
  cases hd : ds[n]? with
  | none => rw [hd] at hx; cases hx
  | some d =>
   rw [hd] at hx
   cases hx
   obtain ⟨w, hw, rw'⟩ := ra.getD hd
   refine ⟨⟨vs, w, sq2, hw⟩, fun u H3 hy Q hQ => ?_⟩
   obtain ⟨rfl, hu⟩ := hy
   have e := hu vs sq2
   rw [hw] at e
   cases e
   have q := ZF R' (Wd f (VP (show put i (d, k.low .nw) δ' = some δ2 from hp)) rw') hp
   exact hQ _ _ q.1 q.2 qH.refl ⟨_, rfl⟩
 | _ => exact h1.elim
end
section
variable {X : Cx} {E : XK} {pos : Pos}
noncomputable def spD (mg : Str -> Option Value) (K : PySem.W.Frag) (n : Nat) (g : Fn) : Sp := fun vs H Q E => ∃ ds : List D, ds.length = n /\ qp mg K (fun _ => True) H vs ds /\ qS mg E H (g ds) fun y => ∀ v H', qH H H' -> RR mg K H H' y.2 v y.1 -> Q v H'
noncomputable def Fd (P : Program) (w : World) (K : PySem.W.Frag) (mg : Str -> Option Value) (base : Heap) (k : Nat) (x : Str) (n : Nat) (g : Fn) : Prop :=
 ∃ (f : Addr) (fd : FuncData) (ps : List Str), uD P w K mg base (CX1 P w) k f fd ps (spD mg K n g) /\ mg x = some (.ref f) /\ PySem.W.keepIn K (.ref f) = true /\ Binds K fd ps []
theorem WK {r : RA} {g : Fn} {n : Nat} {σ : St} {H : Hp} {Q : VK} (hn : ∀ δ xs, r δ = .ok xs -> xs.length = n) (h : TEx X E (qg g r) σ H Q) : W6 (spD X.mg X.K n g) [] E (TAx X E r) σ H Q := by
 obtain ⟨B, δ, R, h⟩ := h
 refine ⟨B, δ, R, ?_⟩
 have e : ∀ xs, r δ = .ok xs -> xs.length = n := fun xs => hn δ xs
 cases hr : r δ with
 | er c =>
  unfold qg at h
  rw [hr] at h
  exact h
 | no =>
  unfold qg at h
  rw [hr] at h
  exact h
 | ok xs =>
  unfold qg at h
  rw [hr] at h
  intro vs H1 s1 vrs
  refine ⟨xs.map (·.1), by rw [List.length_map]; exact e xs hr, by rw [List.append_nil]; exact vrs.rp R, ?_⟩
  refine qS.imp (qS.more (qS.bind h) s1) fun y q v H2 s2 rr => ?_
  refine q v H2 (s1.trans s2) ?_
  show VR _ _ _ _ _ _ _ (kB y.2) _ _
  have R1 := R.more s1
  cases hb : y.2 with
  | true =>
   rw [hb] at rr
   obtain ⟨p, ds, a, b, c, e1, e2⟩ := rr
   exact ⟨p, ds, a, b, c, s1.free e1, e2⟩
  | false =>
   rw [hb] at rr
   exact Rp.weak rr fun a g => ⟨R1.fresh g, R1.same.free g⟩
inductive QO : RA -> Nat -> Prop
 | nil : QO qj 0
 | cons {r : RE} {rr : RA} {n : Nat} : QO rr n -> QO (qb r rr) (n + 1)
theorem QO.is {r : RA} {n : Nat} (h : QO r n) : ∀ δ xs, r δ = .ok xs -> xs.length = n := by
 induction h with
 | nil => intro δ xs e; cases e; rfl
 | @cons r rr n _ ih =>
  intro δ xs e
  unfold qb at e
  cases h1 : r δ with
  | er c => rw [h1] at e; cases e
  | no => rw [h1] at e; cases e
  | ok x =>
   rw [h1] at e
   cases h2 : rr δ with
   | er c => rw [Rs.z9, h2] at e; cases e
   | no => rw [Rs.z9, h2] at e; cases e
   | ok ys =>
    rw [Rs.z9, h2] at e
    cases e
    rw [List.length_cons, ih δ ys h2]
theorem qi {x : Str} {p : Pos} {e : Expr} {es : List Expr} {r : RA} {g : Fn} {n k : Nat} (acc : Acc X E) (F : Fd X.prog X.w X.K X.mg X.base k x n g) (hr : vW k X.A) (hg : Gl X x) (hn : QO r n) (ha : PA X (e :: es) (TAx X E r))
  (hdb : (x == ("__debug__" : Str)) = false := by decide) (he : starEach (e :: es) X.env = (false, eval e X.env) :: starEach es X.env := by rfl) (hpl : (backTo pos (starEach es X.env)).any (·.1) = false := by rfl) :
  PE X (.Call (.Name x p) (e :: es) [] pos) (TEx X E (qg g r)) := by
 obtain ⟨f, fd, ps, F, hm, hk, hb⟩ := F
 exact vH (W3 F hr hg hm hk hb .nil (xq acc) ha hdb he hpl) fun σ H Q h => WK hn.is h
noncomputable def uO (X : Cx) (f : List DK -> Rs DK) (rr : List V -> Hp -> VK -> Prop) : Prop := ∀ (B : Bs) (H H' : Hp) (σ : St) (δ : Dl) (vs : List V) (xs : List DK) (Q : VK) (E : XK), Rl X.mg X.K B H σ δ -> qH H H' -> VRs X.mg X.K B H H' σ δ vs xs -> Fin X.mg X.K E B H' σ δ (f xs) Q -> rr vs H' Q
theorem uu {e : Expr} {r : RA} {f : List DK -> Rs DK} {rr : List V -> Hp -> VK -> Prop} (h : PE X e (tCB rr (TAx X E r))) (F : uO X f rr) : PE X e (TEx X E (yo f r)) :=
 vH h fun σ H Q ⟨B, δ, R, h⟩ => xN R h fun xs vs H1 s1 vrs h1 => F B H H1 σ δ vs xs Q E R s1 vrs h1
theorem Y1 {mg : Str -> Option Value} {K : PySem.W.Frag} {B : Bs} {H H' : Hp} {σ : St} {δ : Dl} {vs : List V} {x : DK} (h : VRs mg K B H H' σ δ vs [x]) : ∃ v, vs = [v] /\ VR mg K B H H' σ δ x.2 v x.1 := by
 cases h with
 | cons a b => cases b; exact ⟨_, rfl, a⟩
theorem YX {mg : Str -> Option Value} {K : PySem.W.Frag} {B : Bs} {H H' : Hp} {σ : St} {δ : Dl} {vs : List V} {x y : DK} (h : VRs mg K B H H' σ δ vs [x, y]) : ∃ v w, vs = [v, w] /\ VR mg K B H H' σ δ x.2 v x.1 /\ VR mg K B H H' σ δ y.2 w y.1 := by
 cases h with
 | cons a b => cases b with | cons c d => cases d; exact ⟨_, _, rfl, a, c⟩
theorem ZL : uO X Wz (fun xs H Q => ∃ i, xs = [.int i] /\ Q (.int (if i < 0 then -i else i)) H) := by
 intro B H H' σ δ vs xs Q E R s vr h
 match xs, vr, h with
 | [(.int i, k)], vr, h =>
  obtain ⟨v, rfl, r⟩ := Y1 vr
  exact ⟨i, by rw [vA R r], h _ H' qH.refl (VR.int _)⟩
 | [], _, h => exact h.elim
 | [(.lst _, _)], _, h => exact h.elim
 | [(.tup _, _)], _, h => exact h.elim
 | [(.bl _, _)], _, h => exact h.elim
 | [(.non, _)], _, h => exact h.elim
 | [(.fn _, _)], _, h => exact h.elim
 | [(.obj _ _ _, _)], _, h => exact h.elim
 | _ :: _ :: _, _, h => revert h; simp only [Wz]; exact fun h => h.elim
theorem Vs {f : List DK -> Rs DK} {g : Int -> Int -> Int} (h1 : ∀ i j k l, f [(.int i, k), (.int j, l)] = .ok (.int (g i j), .nw)) (h2 : ∀ xs, (∀ i j k l, xs ≠ [(.int i, k), (.int j, l)]) -> f xs = .no) : uO X f (fun xs H Q => ∃ i j, xs = [.int i, .int j] /\ Q (.int (g i j)) H) := by
 intro B H H' σ δ vs xs Q E R s vr h
 by_cases c : ∃ i j k l, xs = [(.int i, k), (.int j, l)]
 ·obtain ⟨i, j, k, l, rfl⟩ := c
  obtain ⟨v, w, rfl, r1, r2⟩ := YX vr
  rw [h1] at h
  exact ⟨i, j, by rw [vA R r1, vA R r2], h _ H' qH.refl (VR.int _)⟩
 ·rw [h2 xs fun i j k l e => c ⟨i, j, k, l, e⟩] at h
  exact h.elim
theorem QX {f : List DK -> Rs DK} {xs : List DK} (h0 : f [] = .no) (h1 : ∀ x, f [x] = .no) (h2 : ∀ x y, (∀ i j k l, [x, y] ≠ [(.int i, k), (.int j, l)]) -> f [x, y] = .no) (h3 : ∀ x y z r, f (x :: y :: z :: r) = .no) (h : ∀ i j k l, xs ≠ [(.int i, k), (.int j, l)]) : f xs = .no := by
 match xs, h with
 | [], _ => exact h0
 | [x], _ => exact h1 x
 | [x, y], h => exact h2 x y h
 | x :: y :: z :: r, _ => exact h3 x y z r
theorem VM : uO X jJ (fun xs H Q => ∃ i j, xs = [.int i, .int j] /\ Q (.int (if j > i then j else i)) H) :=
 Vs (fun _ _ _ _ => rfl) fun xs h => QX rfl (fun ⟨x, k⟩ => by cases x <;> rfl) (fun ⟨x, k⟩ ⟨y, l⟩ h => by cases x <;> cases y <;> first | rfl | exact absurd rfl (h _ _ _ _)) (fun ⟨x, k⟩ ⟨y, l⟩ z r => by cases x <;> cases y <;> rfl) h
theorem Zz : uO X ZU (fun xs H Q => ∃ i j, xs = [.int i, .int j] /\ Q (.int (if j < i then j else i)) H) :=
 Vs (fun _ _ _ _ => rfl) fun xs h => QX rfl (fun ⟨x, k⟩ => by cases x <;> rfl) (fun ⟨x, k⟩ ⟨y, l⟩ h => by cases x <;> cases y <;> first | rfl | exact absurd rfl (h _ _ _ _)) (fun ⟨x, k⟩ ⟨y, l⟩ z r => by cases x <;> cases y <;> rfl) h
end
section
variable {X : Cx} {E : XK} {pos : Pos}
noncomputable def Zg (X : Cx) (f : DK -> Rs DK) (rr : V -> Hp -> VK -> Prop) : Prop := ∀ (B : Bs) (H H' : Hp) (σ : St) (δ : Dl) (x : V) (dx : DK) (Q : VK) (E : XK), Rl X.mg X.K B H σ δ -> qH H H' -> VR X.mg X.K B H H' σ δ dx.2 x dx.1 -> Fin X.mg X.K E B H' σ δ (f dx) Q -> rr x H' Q
theorem one {f : DK -> Rs DK} {rr : V -> Hp -> VK -> Prop} {ra : RE} (F : Zg X f rr) {σ : St} {H : Hp} {Q : VK} (h : TEx X E (rUn f ra) σ H Q) : tUn rr (TEx X E ra) σ H Q := by
 obtain ⟨B, δ, R, h⟩ := h
 exact ⟨B, δ, R, qS.imp (qS.bind h) fun dx h1 v H1 s1 r1 => F B H H1 σ δ v dx Q E R s1 r1 (Fin.more h1 s1)⟩
theorem Z0 : Zg X QZ (rU fun i => .int (-i)) := by
 rintro B H H' σ δ x ⟨dx, kx⟩ Q E R s r1 h
 cases dx with
 | int i => exact ⟨i, vA R r1, h _ H' qH.refl (VR.int _)⟩
 | _ => exact h.elim
theorem VY {a : Expr} {ra : RE} (ha : PE X a (TEx X E ra)) : PE X (.UnaryOp .USub a pos) (TEx X E (rUn QZ ra)) := vH (W4 VA ha) fun _ _ _ h => one Z0 h
noncomputable def Zb : V -> List V -> Hp -> VK -> Prop := fun x vs H Q => ∃ i, x = .int i /\ vs = [] /\ Q (.int (Builtin.Int.intBits i : Nat)) H
theorem j6 : MtR X "int.bit_length" Zb := by
 intro pins s σ H x vs v us Q I rx rv h
 obtain ⟨i, rfl, rfl, q⟩ := h
 obtain ⟨t, rfl⟩ := rx
 cases rv
 refine call_gives PySem.F.slot_int_bit_length (typeIs_int s i t) PySem.F.entry_int_bit_length (PySem.F.args_int_bit_length_1 _) (PySem.AutoIntG2.int_bit_length_int_0 i t) ?_
 exact ⟨.int _, H, I.tok _, ⟨_, rfl⟩, q⟩
theorem Wr (i : Int) : Builtin.Int.intBits i = if i = 0 then 0 else i.natAbs.log2 + 1 := by
 unfold Builtin.Int.intBits
 by_cases h : i = 0
 ·subst h; rfl
 ·rw [if_neg h]
  split
  ·rename_i z; exact absurd (by simpa using z) h
  ·rfl
theorem Qq {e : Expr} {r : RE} (h : PE X e (Yq X.K "int" Zb (TEx X E r))) : PE X e (TEx X E (rUn oBits r)) := by
 refine vH h fun σ H Q ⟨B, δ, R, h⟩ => ⟨B, δ, R, ?_⟩
 refine qS.imp (qS.bind h) fun x h1 v H1 s1 vr => ?_
 obtain ⟨d, k⟩ := x
 have vr : VR X.mg X.K B H H1 σ δ k v d := vr
 cases d with
 | int i =>
  have e := vA R vr
  subst e
  refine ⟨rfl, i, rfl, rfl, ?_⟩
  rw [Wr]
  exact h1 _ H1 s1 (VR.int _)
 | _ => exact h1.elim
end
section
variable {X : Cx} {E : XK} {pos : Pos}
theorem wL : ∀ {ds : List D} {ns : List Int}, intsOf ds = some ns -> ds = ns.map D.int
 | [], ns, h => by cases h; rfl
 | .int i :: r, ns, h => by
  have h : (intsOf r).map (i :: ·) = some ns := h
  cases e : intsOf r with
  | none => rw [e] at h; cases h
  | some ms => rw [e] at h; cases h; rw [wL e]; rfl
 | .non :: _, _, h => nomatch h
 | .bl _ :: _, _, h => nomatch h
 | .lst _ :: _, _, h => nomatch h
 | .tup _ :: _, _, h => nomatch h
 | .fn _ :: _, _, h => nomatch h
 | .obj _ _ _ :: _, _, h => nomatch h
theorem ints_map : ∀ ns : List Int, intsOf (ns.map D.int) = some ns
 | [] => rfl
 | n :: r => by
  show (intsOf (r.map D.int)).map (n :: ·) = _
  rw [ints_map r]
  rfl
theorem Qp : ∀ ns : List Int, (ns.map D.int).all D.sc = true
 | [] => rfl
 | _ :: r => Qp r
theorem xa (ns : List Int) : (ns.map D.int).map toV = ns.map V.int := by
 rw [List.map_map]
 rfl
theorem yp : ∀ ns ms : List Int, PyData.eqvAll (ns.map PyData.int) (ms.map PyData.int) = decide (ns = ms)
 | [], [] => rfl
 | [], _ :: _ => rfl
 | _ :: _, [] => rfl
 | a :: r, b :: q => by
  show (PyData.eqv (.int a) (.int b) && PyData.eqvAll (r.map PyData.int) (q.map PyData.int)) = _
  rw [yp r q]
  show ((a == b) && _) = _
  by_cases h : a = b
  ·subst h; simp
  ·simp [h]
theorem xW {K : PySem.W.Frag} {H : Hp} : ∀ ns : List Int, yY K H (ns.map V.int) (ns.map PyData.int)
 | [] => .nil
 | n :: r => .cons (.int n) (xW r)
theorem lay_ints : ∀ ns : List Int, PyData.canLayAll0 (ns.map PyData.int) = true
 | [] => rfl
 | n :: r => by
  show (PyData.canLay0 (.int n) && PyData.canLayAll0 (r.map PyData.int)) = true
  rw [lay_ints r]
  rfl
theorem yW : ∀ ns : List Int, PyData.depthAll (ns.map PyData.int) <= 1
 | [] => Nat.zero_le _
 | n :: r => by
  show max (PyData.depth (.int n)) (PyData.depthAll (r.map PyData.int)) <= 1
  have a := yW r
  have b : PyData.depth (.int n) <= 1 := by first | exact Nat.le_refl _ | exact Nat.zero_le _
  lia
theorem shaped_ints (ns : List Int) : SeqAt.shaped (.list (ns.map PyData.int)) = true := by
 unfold SeqAt.shaped
 have a : PyData.canLay0 (.list (ns.map PyData.int)) = true := lay_ints ns
 have b : PyData.depth (.list (ns.map PyData.int)) <= 64 := by
  show PyData.depthAll (ns.map PyData.int) + 1 <= 64
  have := yW ns
  lia
 rw [a, decide_eq_true b]
 rfl
theorem Qh {mg : Str -> Option Value} {K : PySem.W.Frag} {B : Bs} {H H' : Hp} {σ : St} {δ : Dl} {k : Kd} {v : V} {ns : List Int} (R : Rl mg K B H σ δ) (h : VR mg K B H H' σ δ k v (.lst (ns.map D.int))) : ∃ a, v = .ref a /\ SqL K H' a (ns.map V.int) := by
 obtain ⟨a, vs, rfl, q, g⟩ := VR.items R h
 have e := g.sc (Qp ns)
 rw [xa] at e
 subst e
 exact ⟨a, rfl, q⟩
theorem wz : v7 X (oEq false) (fun x y H Q => rEq x y H Q \/ Yd X.K x y H Q) := by
 rintro B H H' σ δ x y ⟨dx, kx⟩ ⟨dy, ky⟩ Q E R s r1 r2 h
 cases dx with
 | int i =>
  cases dy with
  | int j =>
   left
   rw [vA R r1, vA R r2]
   refine ⟨rfl, ?_⟩
   rw [Qf, Bool.beq_eq_decide_eq]
   exact h _ H' qH.refl (VR.bl _)
  | _ => exact h.elim
 | bl i =>
  cases dy with
  | bl j =>
   left
   rw [W8 R r1, W8 R r2]
   refine ⟨rfl, ?_⟩
   rw [VW, Bool.beq_eq_decide_eq]
   exact h _ H' qH.refl (VR.bl _)
  | _ => exact h.elim
 | lst xs =>
  cases dy with
  | lst ys =>
   right
   simp only [oEq] at h
   cases e1 : intsOf xs with
   | none => rw [e1] at h; exact h.elim
   | some ns =>
    cases e2 : intsOf ys with
    | none => rw [e1, e2] at h; exact h.elim
    | some ms =>
     rw [e1, e2] at h
     have q1 := wL e1
     have q2 := wL e2
     subst q1 q2
     obtain ⟨a, rfl, s1⟩ := Qh R r1
     obtain ⟨b, rfl, s2⟩ := Qh R r2
     refine ⟨_, _, .lst s1 (xW ns), .lst s2 (xW ms), shaped_ints ns, shaped_ints ms, ?_⟩
     show Q (.bl (PyData.eqvAll _ _)) H'
     rw [yp]
     exact h _ H' qH.refl (VR.bl _)
  | _ => exact h.elim
 | _ => exact h.elim
theorem vO (hu : X.A.units + 64 < cLine) : OpR X (compareOp .Eq) (fun x y H Q => rEq x y H Q \/ Yd X.K x y H Q) := YH.or (Z5 hu)
theorem xD : bootBuiltins "max" = some (.builtin "max") := by decide +kernel
theorem QI : bootBuiltins "min" = some (.builtin "min") := by decide +kernel
theorem QH : bootBuiltins "abs" = some (.builtin "abs") := by decide +kernel
end
end L2.Ir
set_option maxHeartbeats 4000000
namespace L2.Ir
open PySem PySem.Spec PyProof.Rows
noncomputable abbrev ub (P : Program) (w : World) (K : PySem.W.Frag) (mg : Str -> Option Value) (base : Heap) (N : List Str) (qual : Str) (scope : Scope) (f : Addr) (cd : Value) (A : Around) (outer : List Env) (s : Shared) (H : Hp) (E : XK) : Cx :=
 (w9 (CX1 P w) P w K mg base N qual scope f cd A outer s H E).zL (Arr (w9 (CX1 P w) P w K mg base N qual scope f cd A outer s H E) E)
theorem V4 {P : Program} {w : World} {K : PySem.W.Frag} {mg : Str -> Option Value} {base : Heap} {N : List Str} {qual : Str} {scope : Scope} {f : Addr} {cd : Value} {A : Around} {outer : List Env} {s : Shared} {H : Hp} {E : XK} (nd : N.Nodup) : Gd (ub P w K mg base N qual scope f cd A outer s H E) E :=
 ⟨rfl, nd, uH, jG (X := w9 (CX1 P w) P w K mg base N qual scope f cd A outer s H E) rfl rfl⟩
noncomputable def sl0 (N : List Str) (ds : List D) : Dl := ds.map (fun d => Sl.val d false) ++ List.replicate (N.length - ds.length) .un
noncomputable def res : Out -> Rs (D × Bool)
 | .rt d k => .ok (d, k)
 | .nx _ => .ok (.non, false)
 | .er c => .er c
 | _ => .no
theorem rl0 {mg : Str -> Option Value} {K : PySem.W.Frag} {H : Hp} {N : List Str} {vs : List V} {ds : List D} (r : qp mg K (fun _ => True) H vs ds) : Rl mg K ⟨H, fun _ => False⟩ H (start N vs) (sl0 N ds) := by
 have get : ∀ {i : Nat} {s : Sl}, (sl0 N ds)[i]? = some s -> (∃ d, ds[i]? = some d /\ s = .val d false) \/ s = .un := fun {i s} e => by
  unfold sl0 at e
  by_cases h : i < ds.length
  ·rw [List.getElem?_append_left (by rw [List.length_map]; exact h), List.getElem?_map, List.getElem?_eq_getElem h] at e
   exact .inl ⟨ds[i], List.getElem?_eq_getElem h, (Option.some.inj e).symm⟩
  ·rw [List.getElem?_append_right (by rw [List.length_map]; lia)] at e
   right
   have := List.mem_of_getElem? e
   exact (List.mem_replicate.mp this).2
 have own : ∀ {p : Addr}, ¬ va ⟨H, fun _ => False⟩ (start N vs) (sl0 N ds) p := fun {p} h => by
  rcases h with h | ⟨i, es, e, _⟩
  ·exact h
  ·rcases get e with ⟨d, _, z⟩ | z <;> cases z
 refine ⟨qH.refl, fun _ h => h.elim, ?_, fun i d k e => ?_, fun i es e => ?_, fun i j p es fs e _ _ _ => ?_⟩
 ·unfold start sl0
  rw [List.length_append, List.length_append, List.length_map, List.length_map, List.length_replicate, List.length_replicate, r.len]
 ·rcases get e with ⟨d', hd, z⟩ | z
  ·cases z
   obtain ⟨v, hv, rp⟩ := r.getD hd
   refine ⟨v, ?_, rp.weak fun a _ => ⟨own, fun z => nomatch z⟩⟩
   have hl : i < vs.length := (List.getElem?_eq_some_iff.mp hv).1
   unfold start
   rw [List.getElem?_append_left (by rw [List.length_map]; exact hl), List.getElem?_map, hv]
   rfl
  ·cases z
 ·rcases get e with ⟨d, _, z⟩ | z <;> cases z
 ·rcases get e with ⟨d, _, z⟩ | z <;> cases z
section
variable {P : Program} {w : World} {K : PySem.W.Frag} {mg : Str -> Option Value} {base : Heap}
theorem jw {X : Cx} {E : XK} {st : List Stmt} {t : TS} (h : PSs (X.zL (Arr X E)) st t) (acc : Acc X E) : PSs X st t := fun pins s σ H D I hw =>
 wpAny_mono (h pins s σ H D (I.zL _) hw) (fun _ _ q => q.wJ) fun e s' a => acc e s' a
theorem Yu {x : Str} {st : Stmt} {f : Addr} {fd : FuncData} {N ps : List Str} {k n : Nat} {g : Fn} {r : RS} (F : Fun K x x st f fd) (S : qB N ps (qd st)) (hm : mg x = some (.ref f)) (hb : Binds K fd ps []) (hn : ps.length = n)
  (body : ∀ (cdv : Value) (A : Around) (outer : List Env) (s : Shared) (H : Hp) (E : XK), vW k (A.deeper (envOfC x (qd st) s.heap.objs.size f cdv)) ->
   PSs (ub P w K mg base N x (qd st) f cdv A outer s H E) (qz st) (tS mg K E r))
  (hr : ∀ ds : List D, ds.length = n -> g ds = .no \/ res (r (sl0 N ds)) = g ds) : Fd P w K mg base (k + 1) x n g := by
 obtain ⟨oc, od, kV, doc, pm, an, cdv, ct, osl, rfl, lk, hcd⟩ := F.ex
 refine ⟨f, _, ps, Vr lk hcd S ?_ fun A outer s H vs Q E hroom hsp => ?_, hm, F.kp, hb⟩
 ·rintro vs H Q E ⟨ds, hl, rp, _⟩
  rw [rp.len, hl, hn]
 ·obtain ⟨ds, hl, rp, h⟩ := hsp
  refine ⟨_, jw (body cdv A outer s H E hroom) j8, ⟨H, fun _ => False⟩, sl0 N ds, rl0 rp, ?_⟩
  rcases hr ds hl with e | e
  ·rw [e] at h
   exact h.elim
  ·rw [<- e] at h
   cases ho : r (sl0 N ds) with
   | rt d k => rw [ho] at h; exact fun v H' s rr => h v H' s rr
   | nx δ' => rw [ho] at h; exact fun σ' H' R _ => h .non H' R.same Rp.non
   | er c => rw [ho] at h; exact fun C H' e s => h C H' e s
   | bk δ' => rw [ho] at h; exact h.elim
   | ct δ' => rw [ho] at h; exact h.elim
   | no => rw [ho] at h; exact h.elim
end
end L2.Ir
namespace L2.Ir
open PySem PySem.Spec PyProof.Rows
open PySem.W (WData Codec OpenSpec Well WellAll ReadsW ReadsAllW)
noncomputable def uK (l : List (Str × Int)) (o : Rs (D × Bool)) : Option (List D) := match o with
 | .ok (.lst zs, true) => some (.int 0 :: zs)
 | .er c => (l.lookup c).map fun k => [.int (-k)]
 | _ => none
noncomputable def Q1 (mg : Str -> Option Value) (K : PySem.W.Frag) (n : Nat) (g : Fn) (l : List (Str × Int)) (P : Addr) : Sp := fun vs H Q _ => ∃ ds zs, ds.length = n /\ H P = some (.tbl #[]) /\ qp mg K (fun _ => True) H vs ds /\ uK l (g ds) = some zs /\ zs.length <= LIM /\
 ∀ H' p, H' p = some (.lst (zs.map toV)) -> Q (.ref p) H'
structure jX (mg : Str -> Option Value) (K : PySem.W.Frag) (l : List (Str × Int)) (la : List (Addr × Int)) : Prop where
 at_ : ∀ c C k, mg c = some (.ref C) -> l.lookup c = some k -> qI K C = true /\ la.lookup C = some k
theorem Wa {α β : Type} (f : α -> β) (xs : List α) : (xs.map f).length = xs.length := List.length_map f
theorem Yc {mg : Str -> Option Value} {K : PySem.W.Frag} {g : Fn} {r : RA} {l : List (Str × Int)} {la : List (Addr × Int)} {P : Addr} {n : Nat} {N : List Str} {vs : List V} {H : Hp} {Q : VK} {ds zs : List D} (Er : jX mg K l la) (hP : H P = some (.tbl #[])) (rp : qp mg K (fun _ => True) H vs ds)
  (ha : uK l (g ds) = some zs) (hz : zs.length <= LIM) (hQ : ∀ H' p, H' p = some (.lst (zs.map toV)) -> Q (.ref p) H') (hargs : ∃ ks, r (sl0 N ds) = .ok ks /\ ks.map (·.1) = ds) :
  ZH K la P (fun E => tE mg K E (qg g r)) (start N vs) H Q := by
 refine ⟨hP, fun more f => ?_⟩
 have rp' : qp mg K (fun _ => True) (upd H P (.tbl more)) vs ds := by
  refine qp.mono (G := fun a => H a ≠ some (.tbl #[])) (fun a g => ⟨trivial, fun o e => by rw [qJ (fun z => g (by rw [z]; exact hP))]; exact e⟩) _ _ ?_
  have gen : (∀ (d : D) (v : V), Rp mg K (fun _ => True) H v d -> Rp mg K (fun a => H a ≠ some (.tbl #[])) H v d) := by
   intro d v h
   have ne : ∀ {a : Addr} {u : HO}, Rd H a u -> (∀ ps, u ≠ .tbl ps) -> H a ≠ some (.tbl #[]) := fun {a u} h n z => by
    rcases h with h | ⟨o, h⟩
    ·rw [z] at h; exact n _ (Option.some.inj h).symm
    ·rw [z] at h; cases h
   exact h.rec (motive_1 := fun v d _ => Rp mg K (fun a => H a ≠ some (.tbl #[])) H v d) (motive_2 := fun vs ds _ => qp mg K (fun a => H a ≠ some (.tbl #[])) H vs ds)
    .non (fun b => .bl b) (fun i => .int i) (fun e => .fn e) (fun _ s _ ih => .lst (ne s fun ps z => nomatch z) s ih) (fun s _ ih => .lstK s ih) (fun _ s _ ih => .tup (ne s fun ps z => nomatch z) s ih) (fun s _ ih => .tupK s ih) (fun _ m s l _ ih => .obj (by rw [s]; exact fun z => nomatch z) m s l ih) .nil fun _ _ ih1 ih2 => .cons ih1 ih2
  have all : ∀ {vs : List V} {ds : List D}, qp mg K (fun _ => True) H vs ds -> qp mg K (fun a => H a ≠ some (.tbl #[])) H vs ds := by
   intro vs ds h
   induction ds generalizing vs with
   | nil => cases h; exact .nil
   | cons d ds ih => cases h with | cons a b => exact .cons (gen _ _ a) (ih b)
  exact all rp
 refine ⟨⟨upd H P (.tbl more), fun _ => False⟩, sl0 N ds, rl0 rp', ?_⟩
 obtain ⟨ks, e1, e2⟩ := hargs
 unfold qg
 rw [e1]
 show Fin _ _ _ _ _ _ _ ((g (ks.map (·.1))).bind _) _
 rw [e2]
 cases hg : g ds with
 | no => rw [hg] at ha; cases ha
 | er c =>
  rw [hg] at ha
  have ha : (l.lookup c).map (fun k => [D.int (-k)]) = some zs := ha
  cases hl : l.lookup c with
  | none => rw [hl] at ha; cases ha
  | some k =>
   rw [hl] at ha
   cases ha
   intro C H' hC s
   obtain ⟨h1, h2⟩ := Er.at_ c C k hC hl
   exact ⟨C, k, rfl, h1, h2, fun p hp => hQ _ p (by rw [vn]; rfl)⟩
 | ok y =>
  rw [hg] at ha
  obtain ⟨d, b⟩ := y
  cases b with
  | false => cases d <;> cases ha
  | true =>
   cases d with
   | lst ws =>
    cases ha
    intro v H' s vr
    obtain ⟨p, es, rfl, e, c, h1, h2⟩ := vr
    cases e
    refine VL ⟨p, _, rfl, h2, ?_, fun q hq p' hp' => hQ _ p' ?_⟩
    ·rw [Wa]
     have e : (sizeLine : Nat) = LIM := rfl
     rw [e]
     exact hz
    ·rw [vn]
     rfl
   | _ => cases ha
mutual
noncomputable def ofW : WData -> D
 | .none => .non
 | .bool b => .bl b
 | .int i => .int i
 | .list xs => .lst (QY xs)
 | .tuple xs => .tup (QY xs)
 | _ => .non
noncomputable def QY : List WData -> List D
 | [] => []
 | x :: r => ofW x :: QY r
/-- numbers, truth values, lists and tuples of them -/
noncomputable def plD : WData -> Bool
 | .none => true
 | .bool _ => true
 | .int _ => true
 | .list xs => QQ xs
 | .tuple xs => QQ xs
 | _ => false
noncomputable def QQ : List WData -> Bool
 | [] => true
 | x :: r => plD x && QQ r
end
mutual
theorem Yl {mg : Str -> Option Value} {K : PySem.W.Frag} {H : Hp} : ∀ (d : WData) (v : V), plD d = true -> Dw K H v d -> Rp mg K (fun _ => True) H v (ofW d)
 | .none, _, _, h => by cases h; exact .non
 | .bool b, _, _, h => by cases h; exact .bl b
 | .int i, _, _, h => by cases h; exact .int i
 | .list xs, _, p, h => by cases h with | lst s a => exact Rp.ofL s (fun _ => trivial) (y8 xs _ p a)
 | .tuple xs, _, p, h => by
  cases h with
  | tup s a =>
   rcases s with s | s
   ·exact .tup trivial s (y8 xs _ p a)
   ·exact .tupK (fun _ => .inr s) (y8 xs _ p a)
 | .str _, _, p, _ => nomatch p
 | .bytes _, _, p, _ => nomatch p
 | .float _, _, p, _ => nomatch p
 | .dict _, _, p, _ => nomatch p
 | .bytearray _, _, p, _ => nomatch p
 | .set _, _, p, _ => nomatch p
 | .frozenset _, _, p, _ => nomatch p
 | .obj _ _, _, p, _ => nomatch p
theorem y8 {mg : Str -> Option Value} {K : PySem.W.Frag} {H : Hp} : ∀ (ds : List WData) (vs : List V), QQ ds = true -> vP K H vs ds -> qp mg K (fun _ => True) H vs (QY ds)
 | [], _, _, h => by cases h; exact .nil
 | d :: ds, _, p, h => by
  cases h with
  | cons a b =>
   have q : plD d = true /\ QQ ds = true := Bool.and_eq_true_iff.mp p
   exact .cons (Yl d _ q.1 a) (y8 ds _ q.2 b)
end
mutual
theorem Dw.same {K : PySem.W.Frag} {H H' : Hp} (s : qH H H') : ∀ (d : WData) (v : V), Dw K H v d -> Dw K H' v d
 | .none, _, h => by cases h; exact .non
 | .bool b, _, h => by cases h; exact .bl b
 | .int i, _, h => by cases h; exact .int i
 | .str x, _, h => by cases h; exact .str x
 | .bytes b, _, h => by
  cases h with
  | byt b => exact .byt b
 | .list xs, _, h => by cases h with | lst q a => exact .lst (s.seq q) (vP.same s xs _ a)
 | .tuple xs, _, h => by
  cases h with
  | tup q a =>
   refine .tup ?_ (vP.same s xs _ a)
   rcases q with (q | ⟨o, q⟩) | q
   ·exact .inl (.inl (s _ _ q))
   ·exact .inl (.inr ⟨o, s _ _ q⟩)
   ·exact .inr q
 | .float _, _, h => by cases h
 | .dict _, _, h => by cases h
 | .bytearray _, _, h => by cases h
 | .set _, _, h => by cases h
 | .frozenset _, _, h => by cases h
 | .obj _ _, _, h => by cases h
theorem vP.same {K : PySem.W.Frag} {H H' : Hp} (s : qH H H') : ∀ (ds : List WData) (vs : List V), vP K H vs ds -> vP K H' vs ds
 | [], _, h => by cases h; exact .nil
 | d :: ds, _, h => by cases h with | cons a b => exact .cons (Dw.same s d _ a) (vP.same s ds _ b)
end
theorem Vp {P : Program} {w : World} {K : PySem.W.Frag} {mg mb : Str -> Option Value} {k : Nat} {fa c PT : Addr} {fd : FuncData} {ps : List Str} {sp : Sp} {s₁ : Shared} {vals : List Value} {ds : List WData} {R : PySem.W.WRecords} {cl : Str -> Option Addr} {d0 : WData}
  (KX : K.In s₁.heap) (hno : PySem.W.noTabs K = true) (hns : s₁.heap.Ns mainGlobals mg) (hb : s₁.heap.Ns builtinsNs mb) (hbb : ∀ x : Str, x ≠ "__name__" -> mb x = bootBuiltins x) (hlim : s₁.heap.NoLimit) (hg : s₁.gens = #[])
  (hc : PySem.W.CodeHd s₁.heap c PT) (htab : s₁.heap.get? PT = some (PySem.W.tabObj #[])) (hbm : ∃ bm ob, mg "__builtins__" = some (.ref bm) /\ bm ≠ builtinsNs /\ s₁.heap.get? bm = some ob /\ ob.cls = .type "module" /\ ob.dict = some builtinsNs /\ ob.data = .plain)
  (hwl : WellAll w.params s₁.heap vals ds) (hpl : yD ds = true) (hwt : ∀ d ∈ ds, d.weight <= 1048576) (hr : vW k callerA)
  (F : ∀ base : Heap, K.In base -> base.Ns mainGlobals mg -> wW mg base c PT -> uD P w K mg base (CX1 P w) k fa fd ps sp) (hbind : ∀ (s : Shared) (us : List Value), us.length = ps.length -> BindsTo s fd ⟨us, []⟩ (ps.zip us)) (hlen : ds.length = ps.length)
  (hsp : ∀ (H : Hp) (xs : List V), H PT = some (.tbl #[]) -> vP K H xs ds -> sp xs H (fun v H' => Dw K H' v d0) fun _ _ _ => False) :
  codeAny (model P w) callerA (.call (.ref fa) ⟨vals, []⟩) (fun r s' => ∃ u as, r = .ok (.ret u) /\ ReadsW R cl s'.heap u d0 as /\ OldK s₁.heap s'.heap /\ s'.os = s₁.os /\ AllBare s'.gens) s₁ := by
 obtain ⟨A, ho, ar⟩ := z8 ds vals hwl hpl hwt
 have hO : Zd (wU K s₁.heap A) := Qs ar
 have hok0 : HOk P w (wU K s₁.heap A) s₁.heap := Wm ar
 have hS0 := uk KX ar ds vals hwl hpl ho
 have hV := wM ho
 have hK0 : ∀ b u, wU K s₁.heap A b = some u -> K.lookup b = none := fun b u q => (yJ ar q).1
 -- what is tracked is a list or a tuple
 have seqs : ∀ {b : Addr} {o : Obj}, s₁.heap.get? b = some o -> (∀ vs n, o.data ≠ .seq vs n) -> wU K s₁.heap A b = none := fun {b o} e d => by
  cases q : wU K s₁.heap A b with
  | none => rfl
  | some u =>
   obtain ⟨_, vs, _, _, ⟨e2, _⟩ | ⟨e2, _⟩⟩ := yJ ar q
   ·rw [e2] at e
    cases e
    exact absurd rfl (d vs.toArray _)
   ·rw [e2] at e
    cases e
    exact absurd rfl (d vs.toArray _)
 generalize wU K s₁.heap A = H0 at hO hok0 hS0 hK0 seqs
 have hP0 : H0 PT = none := seqs htab fun vs n z => nomatch z
 have sameH : qH H0 (upd H0 PT (.tbl #[])) := zv hP0
 have hok : HOk P w (upd H0 PT (.tbl #[])) s₁.heap := fun b u q => by
  by_cases hb : b = PT
  ·subst hb
   rw [vn] at q
   cases q
   exact htab
  ·rw [qJ hb] at q
   exact (hok0 b u q).uU (fun _ _ _ q => q) (fun c q => sameH _ _ q) fun c xs q => sameH _ _ q
 have hS := vP.same sameH ds _ hS0
 have nPK : K.lookup PT = none := by
  cases q : K.lookup PT with
  | none => rfl
  | some o =>
   have e := KX PT o q
   rw [htab] at e
   cases e
   have h2 := List.all_eq_true.mp hno (PT, _) (PySem.W.mem_of_lookupK q)
   exact absurd (show false = true from h2) Bool.false_ne_true
 have hK : ∀ b u, (upd H0 PT (.tbl #[])) b = some u -> K.lookup b = none := fun b u q => by
  by_cases hb : b = PT
  ·rw [hb]; exact nPK
  ·rw [qJ hb] at q; exact hK0 b u q
 have noS : ∀ {b : Addr} {o : Obj}, s₁.heap.get? b = some o -> (∀ vs n, o.data ≠ .seq vs n) -> (∀ vs, o.data ≠ .fields vs \/ o.cls ≠ .none) -> (upd H0 PT (.tbl #[])) b = none := fun {b o} e d d2 => by
  rw [qJ]
  ·exact seqs e d
  ·intro z
   rw [z, htab] at e
   cases e
   rcases d2 #[] with q | q <;> exact q rfl
 generalize hH : upd H0 PT (.tbl #[]) = H at hok hS hK noS
 have hPH : H PT = some (.tbl #[]) := by rw [<- hH]; exact vn
 have base_of : ∀ {b : Addr} {o : Obj}, s₁.heap.get? b = some o -> H b = none -> (xt s₁.heap H).get? b = some o := fun e n => VF e n
 have nsK : ∀ {b : Addr} {m : Str -> Option Value}, s₁.heap.Ns b m -> (xt s₁.heap H).Ns b m := fun {b m} ⟨o, es, ep, e, d, r⟩ => ⟨o, es, ep, base_of e (noS e (fun vs n z => by rw [d] at z; cases z) fun vs => .inl fun z => by rw [d] at z; cases z), d, r⟩
 have nK : ∀ b o, K.lookup b = some o -> H b = none := fun b o e => by
  cases q : H b with
  | none => rfl
  | some u =>
   rw [hK b u q] at e
   cases e
 have hKb : K.In (xt s₁.heap H) := fun b o e => base_of (KX b o e) (nK b o e)
 have hM : Mod K mg (xt s₁.heap H) := ⟨hKb, nsK hns, ⟨mb, nsK hb, hbb⟩, let ⟨mc, h1, h2⟩ := hlim; ⟨mc, nsK h1, h2⟩⟩
 have e0 : jl P w K mg (xt s₁.heap H) callerA [] s₁ H := ⟨rfl, hM, fun b o e => Wq e, Nat.le_of_eq (QN _ _), trivial, fun b hb => absurd (show b ∈ ([] : List Addr) from hb) (by simp), hok, .of_eq hg⟩
 have hl : vals.length = ps.length := by rw [wA hwl]; exact hlen
 have BL : wW mg (xt s₁.heap H) c PT := by
  refine ⟨?_, ?_⟩
  ·obtain ⟨o, vs, file, tf, flags, tg, inF, text, tt, e1, e2, e3, r⟩ := hc
   exact ⟨o, vs, file, tf, flags, tg, inF, text, tt, base_of e1 (noS e1 (fun vs n z => by rw [e3] at z; cases z) fun vs => .inr fun z => by rw [e2] at z; cases z), e2, e3, r⟩
  ·obtain ⟨bm, ob, b1, b2, b3, b4, b5, b6⟩ := hbm
   exact ⟨bm, ob, b1, b2, base_of b3 (noS b3 (fun vs n z => by rw [b6] at z; cases z) fun vs => .inl fun z => by rw [b6] at z; cases z), b4, b5, b6⟩
 refine codeAny_mono ((F _ hKb (nsK hns) BL).run callerA [] s₁ H ⟨vals, []⟩ vals (vals.map L2.toV) _ _ hr e0 (hbind s₁ vals hl) hV (hsp H _ hPH hS)) fun r s' x => ?_
 cases r with
 | error e =>
  obtain ⟨_, _, _, _, _, _, _, _, _, _, _, q⟩ := x
  exact q.elim
 | ok fl =>
  cases fl with
  | next => exact False.elim x
  | brk => exact False.elim x
  | cont => exact False.elim x
  | ret u =>
   obtain ⟨v, H', os, bare, un, hok', r', q⟩ := x
   have kept : ∀ b o, b ≠ PT -> s₁.heap.get? b = some o -> s'.heap.get? b = some o := fun b o hb e => by
    cases q2 : H b with
    | none => exact un.keep b o e q2 (by intro z; exact absurd (show b ∈ ([] : List Addr) from z) (by simp)) (by simp)
    | some u2 =>
     have q3 := q2
     rw [<- hH, qJ hb] at q3
     rcases hO b with z | ⟨ob, u3, z⟩
     ·rw [q3] at z
      cases z
     ·rw [q3] at z
      cases z
      have z2 := un.frzs b ob _ q2
      obtain ⟨e1, _⟩ := hok b _ q2
      obtain ⟨e2, _⟩ := hok' b _ z2
      rw [e] at e1
      cases e1
      exact e2
   obtain ⟨more, hm⟩ := un.tbls PT #[] hPH
   have tab' : s'.heap.get? PT = some { cls := .none, data := .fields (#[] ++ more) } := hok' PT _ hm
   have KX' : K.In s'.heap := fun b o e => kept b o (fun z => by rw [z, nPK] at e; cases e) (KX b o e)
   obtain ⟨as, hrd⟩ := Dw.reads (R := R) (cl := cl) hok' KX' d0 v u q r'
   refine ⟨u, as, rfl, hrd, ⟨fun b o e => ?_, fun b o e => ?_⟩, os, bare⟩
   ·by_cases hb : b = PT
    ·subst hb
     rw [htab] at e
     cases e
     exact .inr (.inl ⟨(hc.tab htab).isCodeTable, rfl, #[], more, rfl, tab'⟩)
    ·exact .inl (kept b o hb e)
   ·by_cases hb : b = PT
    ·subst hb
     exact ⟨_, tab'⟩
    ·exact ⟨o, kept b o hb e⟩
theorem VZ {r : OpenSpec} {k : Nat} {q : Program} {loose : List Str} {XP : (Str -> Option Value) -> Heap -> Prop} {YP : World -> Heap -> Prop} {d : DefRec} {K : Params -> PySem.W.Frag} {ps : List Str} {sp : PySem.W.Frag -> (Str -> Option Value) -> Addr -> Sp} {c PT : Params -> Addr}
  (hwell : r.wellSaid = true) (hlen : r.args.length = ps.length) (hr : vW k callerA)
  (hY : ∀ (w : World) (h : Heap), YP w h -> (K w.params).In h) (hno : ∀ p, PySem.W.noTabs (K p) = true) (htab : ∀ p, PySem.W.tabIn (K p) d.name = some (c p, PT p)) (hrec : (PyProof.Rows.recsOf q).find? (fun e => e.name == d.name) = some d)
  (F : ∀ (w : World) (mg : Str -> Option Value) (fa : Addr) (h : Heap), YP w h -> (K w.params).In h -> h.Ns mainGlobals mg -> mg d.name = some (.ref fa) ->
   ∃ fd : FuncData, (∀ (s : Shared) (us : List Value), us.length = ps.length -> BindsTo s fd ⟨us, []⟩ (ps.zip us)) /\
    ∀ base : Heap, (K w.params).In base -> base.Ns mainGlobals mg -> wW mg base (c w.params) (PT w.params) -> uD r.prog w (K w.params) mg base (CX1 r.prog w) k fa fd ps (sp (K w.params) mg (PT w.params)))
  (hsp : ∀ (K : PySem.W.Frag) (mg : Str -> Option Value) (PT : Addr) (H : Hp) (xs : List V) (a : Codec.denoteAll r.args), H PT = some (.tbl #[]) -> Codec.withinAll r.args a = true -> Codec.app r.args r.asked a = true -> vP K H xs (Codec.encAll r.args a) ->
   sp K mg PT xs H (fun v H' => Dw K H' v (r.ret.enc (Codec.app r.args r.f a))) fun _ _ _ => False) :
  PySem.W.WalkOS q loose XP YP r d [] (fun f vs => PySem.call f vs) := by
 intro w s_0 s₁ mg mb G Y fa o pm cd doc dV kV ho hd hcd hD hmg hg args vals as hpre hlay hrd hwl hlo
 obtain ⟨a, e1, e2⟩ := PySem.W.os_pre_some hpre
 obtain ⟨e3, hwi⟩ := Codec.encAll_of_decAll r.args args a e1
 subst e3
 have KX := hY w _ Y
 obtain ⟨fd, hb, hF⟩ := F w mg fa _ Y KX G.T.g hmg
 obtain ⟨hc, ht⟩ := PySem.W.tab_of G.T KX hrec (htab w.params)
 refine PySem.W.enter_call (codeAny_mono (Vp (R := []) (cl := classAt s_0.heap) (d0 := r.ret.enc (Codec.app r.args r.f a)) KX (hno _) G.T.g G.T.b G.T.builtins G.T.nolimit hg hc ht G.T.bmain hwl (xM _ _) (yU hlay) hr hF hb (by rw [y3]; exact hlen)
  (fun H xs hP hS => hsp (K w.params) mg _ H xs a hP hwi e2 hS)) fun r' s' hq => ?_)
 obtain ⟨u, as', rfl, h1, h2, h3, h4⟩ := hq
 exact ⟨.inl ⟨u, _, as', rfl, fun _ => rfl, h1, (OpenSpec.post_iff hwell hwi _ _).mpr rfl, fun z => Bool.noConfusion (show false = true from z)⟩, h2, h3, h4⟩
theorem VE {K : PySem.W.Frag} {x : Str} {c PT f : Addr} {oc : Value} {od : Option Addr} {fd : FuncData} {osl : Array (Option Value)} (h : PySem.W.tabIn K x = some (c, PT)) (hn : PySem.W.nsIn K mainGlobals x = some (some (.ref f))) (lk : K.lookup f = some ⟨oc, od, .func fd, osl⟩) : fd.code = .ref c := by
 unfold PySem.W.tabIn at h
 rw [hn] at h
 dsimp only at h
 rw [lk] at h
 dsimp only at h
 split at h
 ·rename_i c' e
  split at h
  ·split at h
   ·cases h
    exact e
   ·cases h
  ·cases h
 ·cases h
structure Za (P : Program) (w : World) (K : PySem.W.Frag) (mg : Str -> Option Value) (base : Heap) (st2 : Stmt) (la : List (Addr × Int)) : Prop where
 ex : ∃ (f2 : Addr) (oc : Value) (od : Option Addr) (kV doc pm : Value) (an : Option Addr) (cdv ct : Value) (osl : Array (Option Value)) (h0 : ExceptHandler) (hs : List ExceptHandler) (q1 q2 q3 q4 q5 q6 q7 q8 q9 q10 : Pos) (j : Nat),
  K.lookup f2 = some ⟨oc, od, .func (PySem.W.fnOf "answered" "answered" (qC st2) (qz st2) (qd st2) .none kV doc pm an cdv ct), osl⟩ /\ PySem.W.codeIn K cdv "answered" = true /\ PySem.W.keepIn K (.ref f2) = true /\ mg "answered" = some (.ref f2) /\
  qz st2 = xX (h0 :: hs) q1 q2 q3 q4 q5 q6 q7 q8 q9 q10 j /\ qB ["work", "told"] ["work"] (qd st2) /\ (qd st2).names.lookup ("work" : Str) = some .local /\ (qd st2).names.lookup ("told" : Str) = some .local /\
  (∀ (s : Shared) (u : Value), BindsTo s (PySem.W.fnOf "answered" "answered" (qC st2) (qz st2) (qd st2) .none kV doc pm an cdv ct) ⟨[u], []⟩ ((["work"] : List Str).zip [u])) /\
  ∀ (A : Around) (outer : List Env) (s : Shared) (H : Hp) (E : XK), Hs (w9 (CX1 P w) P w K mg base ["work", "told"] "answered" (qd st2) f2 cdv A outer s H E) (h0 :: hs) la
section
variable {P : Program} {w : World} {K : PySem.W.Frag} {mg : Str -> Option Value} {base : Heap}
theorem ZY {x : Str} {st st2 : Stmt} {f c PT : Addr} {fd : FuncData} {ps : List Str} {k n : Nat} {g : Fn} {r : RA} {l : List (Str × Int)} {la : List (Addr × Int)} {p pos rpos lpos : Pos} {params : Arguments} {body : Expr} {ls : Scope}
  (F : Fun K x x st f fd) (S : qB ps ps (qd st)) (hn : ps.length = n) (htab : PySem.W.tabIn K x = some (c, PT)) (hns : PySem.W.nsIn K mainGlobals x = some (some (.ref f))) (BL : wW mg base c PT) (A2 : Za P w K mg base st2 la) (Er : jX mg K l la)
  (hbody : qz st = [.Return (some (.Call (.Name "answered" p) [.Lambda params body ls lpos] [] pos)) rpos]) (L : ya (qd st) ls) (hgl : (qd st).names.lookup ("answered" : Str) = some .globalImplicit) (hdef : ∀ env : Env, defaultsOf params env = ([], []))
  (hbind : ∀ (q : Str) (c' : Addr) (clos : List (Str × Addr)) (pm ctv : Value), bindArgs (PySem.W.kla_fn "<lambda>" q params body ls clos pm (.ref c') ctv) ⟨[], []⟩ = pure [])
  (hcall : ∀ (cdv : Value) (A : Around) (outer : List Env) (s0 : Shared) (H0 : Hp) (E0 : XK) (Y : Cx) (q : Str) (f' : Addr) (cd : Value) (s : Shared) (H : Hp) (E' : XK), vW k (Y.A.deeper (zN (w9 (CX1 P w) P w K mg base ps x (qd st) f cdv A outer s0 H0 E0) q ls f' cd s)) ->
   PE (xp (w9 (CX1 P w) P w K mg base ps x (qd st) f cdv A outer s0 H0 E0) Y q ls f' cd s H E') body (tE mg K E' (qg g r)))
  (hargs : ∀ ds : List D, ds.length = n -> ∃ ks, r (sl0 ps ds) = .ok ks /\ ks.map (·.1) = ds) : uD P w K mg base (CX1 P w) (k + 3) f fd ps (Q1 mg K n g l PT) := by
 obtain ⟨oc, od, kV, doc, pm, an, cdv, ct, osl, rfl, lk, hcd⟩ := F.ex
 have hc : cdv = .ref c := VE htab hns lk
 refine Vr lk hcd S ?_ fun A outer s H vs Q E hroom hsp => ?_
 ·rintro vs H Q E ⟨ds, zs, hl, _, rp, _⟩
  rw [rp.len, hl, hn]
 ·obtain ⟨ds, zs, hl, hP, rp, ha, hz, hQ⟩ := hsp
  obtain ⟨f2, oc2, od2, kV2, doc2, pm2, an2, cdv2, ct2, osl2, h0, hs, q1, q2, q3, q4, q5, q6, q7, q8, q9, q10, j, lk2, hcd2, hk2, hm2, hb2, S2, hw2, ht2, bi2, hH2⟩ := A2.ex
  rw [hbody]
  rw [hb2] at lk2 bi2
  refine ⟨Zv (ZH K la PT fun E' => tE mg K E' (qg g r)), z7 (xc ?_), ?_⟩
  ·have q := u4 (X := w9 (CX1 P w) P w K mg base ps x (qd st) f cdv A outer s H E) (c := c) (P := PT) (f2 := f2) (k := k) (E := E) (l := la) (tb := fun E' => tE mg K E' (qg g r)) (pos := pos) (p := p) (lpos := lpos) (params := params) (body := body) (ls := ls)
    BL hc (fun _ => rfl) rfl L (hdef _) hroom hgl hm2 hk2 lk2 hcd2 S2 hw2 ht2 (fun s u => bi2 s u) (fun s H => hH2 _ _ s H E) (fun c' clos pm ctv => hbind _ c' clos pm ctv) j8 (fun Y f' cd s' H' E' hr' => hcall _ _ _ _ _ _ Y _ f' cd s' H' E' hr')
   exact q
  ·exact Yc (N := ps) (n := n) Er hP rp ha hz hQ (hargs ds hl)
end
section
variable {X : Cx} {E : XK} {pos : Pos}
theorem xv (i : Nat) {x : Str} (hN : X.N[i]? = some x := by rfl) (hv : Vis X.env.scope x := by first | exact Or.inl rfl | exact Or.inr (Or.inl rfl) | exact Or.inr (Or.inr rfl)) (hd : (x == ("__debug__" : Str)) = false := by decide)
  (hcd : (x == ("__classdict__" : Str)) = false := by decide) : PE X (.Name x pos) (TEx X E (qa i)) := ZR hN hv hd hcd
theorem wt (i : Nat) {x : Str} {e : Expr} {r : RE} {pos' : Pos} (g : Gd X E) (he : PE X e (TEx X E r)) (hi : X.N[i]? = some x := by rfl) (hx : Loc X.env.scope x := by first | exact Or.inl rfl | exact Or.inr rfl) (hs : swapsWith e (some (.Name x pos')) pos.line X.env = pure false := by rfl)
  (hf : X.fn x = true \/ X.env.scope.names.lookup x = some .local := by first | exact .inl rfl | exact .inr rfl) : PS X (.Assign [.Name x pos'] e pos) (TSx X E (qQ i r)) := ZZ g hi hx he hs hf
theorem WW (i : Nat) {x : Str} {p : Pos} (hN : X.N[i]? = some x := by rfl) (hv : Vis X.env.scope x := by first | exact Or.inl rfl | exact Or.inr (Or.inl rfl) | exact Or.inr (Or.inr rfl)) (hd : (x == ("__debug__" : Str)) = false := by decide) (hcd : (x == ("__classdict__" : Str)) = false := by decide) :
  PS X (.Return (some (.Name x p)) pos) (TSx X E (z3 i)) := WL hN hv hd hcd
theorem pgn (i : Nat) {x : Str} (hN : X.N.Nodup) (hi : X.N[i]? = some x := by rfl) (hx : Loc X.env.scope x := by first | exact Or.inl rfl | exact Or.inr rfl) (hf : X.fn x = true \/ X.env.scope.names.lookup x = some .local := by first | exact .inl rfl | exact .inr rfl) : PG X (.Name x pos) (xP i) := V3 hN hi hx hf
theorem V7 {tgE : Expr} {x : Str} {p : Pos} {body : List Stmt} {g : TG} {tg : Tg} {i : Nat} {rb : RS} (G : Gd X E) (hi : PI X tgE (.Name x p) (tI X E g tg (iOf (qa i)))) (hg : PG X tgE g) (hb : PSs X body (TSx X E rb)) : PS X (.For tgE (.Name x p) body [] pos) (TSx X E (Ql tg i rb)) := by
 refine v9 (Zj G hi hg hb) fun D σ H ⟨B, δ, R, h⟩ => ?_
 unfold Ql at h
 cases hδ : δ[i]? with
 | none => rw [hδ] at h; exact ⟨B, δ, R, h⟩
 | some s =>
  rw [hδ] at h
  cases s with
  | own ds =>
   have q := R.YO hδ
   exact ⟨B, _, q.1, we.later h q.2⟩
  | un => exact ⟨B, δ, R, h⟩
  | val d k => exact ⟨B, δ, R, h⟩
end
end L2.Ir
namespace Dm
theorem two_pow_pos (k : Nat) : 0 < 2 ^ k := Nat.two_pow_pos k
theorem qK (n d c : Nat) (hc : 0 < c) : Pv.nearest (n * c) (d * c) = Pv.nearest n d := by
 unfold Pv.nearest
 rw [Nat.mul_mod_mul_right, Nat.mul_div_mul_right _ _ hc]
 have e1 : (d * c < 2 * (n % d * c)) ↔ (d < 2 * (n % d)) := by
  rw [<- Nat.mul_assoc]
  exact Nat.mul_lt_mul_right hc
 have e2 : (2 * (n % d * c) = d * c) ↔ (2 * (n % d) = d) := by
  rw [<- Nat.mul_assoc]
  exact Nat.mul_left_inj (Nat.pos_iff_ne_zero.mp hc)
 simp only [e1, e2]
theorem wX {x k : Nat} (h1 : 2 ^ k <= x) (h2 : x < 2 ^ (k + 1)) : x.log2 = k :=
 (Nat.log2_eq_iff (Nat.pos_iff_ne_zero.mp (Nat.lt_of_lt_of_le (two_pow_pos k) h1))).mpr ⟨h1, h2⟩
theorem zF {x : Nat} (h : x ≠ 0) : 2 ^ x.log2 <= x := (Nat.le_log2 h).mp (Nat.le_refl _)
theorem wb {x : Nat} (h : x ≠ 0) : x < 2 ^ (x.log2 + 1) := (Nat.log2_lt h).mp (Nat.lt_succ_self _)
theorem u9 (x a : Nat) (h : x ≠ 0) : (x * 2 ^ a).log2 = x.log2 + a := by
 refine wX ?_ ?_
 ·rw [Nat.pow_add]
  exact Nat.mul_le_mul_right _ (zF h)
 ·rw [show x.log2 + a + 1 = x.log2 + 1 + a by lia, Nat.pow_add]
  exact Nat.mul_lt_mul_of_pos_right (wb h) (two_pow_pos a)
theorem uA (x b : Nat) : (x / 2 ^ b).log2 = x.log2 - b := by
 by_cases h : x = 0
 ·subst h; simp
 by_cases hb : b <= x.log2
 ·refine wX ?_ ?_
  ·rw [Nat.le_div_iff_mul_le (two_pow_pos b), <- Nat.pow_add, Nat.sub_add_cancel hb]
   exact zF h
  ·rw [Nat.div_lt_iff_lt_mul (two_pow_pos b), <- Nat.pow_add, show x.log2 - b + 1 + b = x.log2 + 1 by lia]
   exact wb h
 ·have hx : x / 2 ^ b = 0 := by
   rw [Nat.div_eq_zero_iff]
   right
   exact Nat.lt_of_lt_of_le (wb h) (Nat.pow_le_pow_right (by decide) (by lia))
  rw [hx, Nat.log2_zero]; lia
noncomputable def nw (whole k : Nat) : Nat :=
 if k = 0 then whole else
 if 2 ^ (k - 1) < whole - whole / 2 ^ k * 2 ^ k \/ (whole - whole / 2 ^ k * 2 ^ k = 2 ^ (k - 1) /\ whole / 2 ^ k % 2 = 1) then whole / 2 ^ k + 1 else whole / 2 ^ k
theorem zV (whole k : Nat) : nw whole k = Pv.nearest whole (2 ^ k) := by
 unfold nw Pv.nearest
 by_cases hk : k = 0
 ·subst hk
  simp [Nat.mod_one]
 ·rw [if_neg hk]
  have e : whole - whole / 2 ^ k * 2 ^ k = whole % 2 ^ k := by
   have := Nat.div_add_mod whole (2 ^ k)
   rw [Nat.mul_comm] at this
   lia
  have e2 : 2 ^ k = 2 * 2 ^ (k - 1) := by
   rw [<- Nat.pow_succ']
   congr 1
   lia
  have c1 : 2 ^ k < 2 * (whole % 2 ^ k) ↔ 2 ^ (k - 1) < whole % 2 ^ k := by lia
  have c2 : 2 * (whole % 2 ^ k) = 2 ^ k ↔ whole % 2 ^ k = 2 ^ (k - 1) := by lia
  rw [e]
  simp only [c1, c2]
theorem zK (n d : Nat) (hd : 0 < d) : Pv.nearest (n * d) d = n := by
 unfold Pv.nearest
 rw [Nat.mul_mod_left, Nat.mul_div_cancel _ hd]
 rw [if_neg]
 lia
theorem yX (n d m : Nat) (hd : 0 < d) (h : n < m * d) : Pv.nearest n d <= m := by
 have : n / d < m := (Nat.div_lt_iff_lt_mul hd).mpr h
 unfold Pv.nearest
 split <;> lia
theorem y9 (n d m : Nat) (hd : 0 < d) (h : m * d <= n) : m <= Pv.nearest n d := by
 have : m <= n / d := (Nat.le_div_iff_mul_le hd).mpr h
 unfold Pv.nearest
 split <;> lia
theorem uv (neg : Bool) (e kept : Nat) (h1 : kept <= 2 ^ 53) (h2 : e = 0 \/ 2 ^ 52 <= kept) :
  Pv.pack neg (2 ^ e * kept) = if 9218868437227405312 <= e * 2 ^ 52 + kept then none else some ((if neg = true then 2 ^ 63 else 0) + (e * 2 ^ 52 + kept)) := by
 have key : (Pv.LIMIT <= 2 ^ e * kept ↔ 9218868437227405312 <= e * 2 ^ 52 + kept) := by
  unfold Pv.LIMIT
  rcases h2 with rfl | h2
  ·constructor
   ·intro h
    have h54 : (2 : Nat) ^ 54 <= 2 ^ 2098 := Nat.pow_le_pow_right (by decide) (by decide)
    rw [Nat.pow_zero, Nat.one_mul] at h
    have := Nat.le_trans h54 h
    exact absurd this (by lia)
   ·intro h
    exact absurd h (by lia)
  ·constructor
   ·intro h
    have h3 : 2 ^ e * kept <= 2 ^ (e + 53) := by
     rw [Nat.pow_add]
     exact Nat.mul_le_mul_left _ h1
    have h4 : 2098 <= e + 53 := (Nat.pow_le_pow_iff_right (by decide)).mp (Nat.le_trans h h3)
    by_cases he : e = 2045
    ·subst he
     have h5 : 2 ^ 2045 * 2 ^ 53 <= 2 ^ 2045 * kept := by rw [<- Nat.pow_add]; exact h
     clear h
     have := Nat.le_of_mul_le_mul_left h5 (two_pow_pos 2045)
     clear h5 h3
     lia
    ·lia
   ·intro h
    by_cases he : 2046 <= e
    ·have h3 : 2 ^ (e + 52) <= 2 ^ e * kept := by
      rw [Nat.pow_add]
      exact Nat.mul_le_mul_left _ h2
     exact Nat.le_trans (Nat.pow_le_pow_right (by decide) (by lia)) h3
    ·have he' : e = 2045 := by lia
     subst he'
     have hk : kept = 2 ^ 53 := by lia
     rw [hk, <- Nat.pow_add]
     exact Nat.le_refl _
 unfold Pv.pack
 by_cases hl : Pv.LIMIT <= 2 ^ e * kept
 ·rw [if_pos hl, if_pos (key.mp hl)]
 ·rw [if_neg hl, if_neg (fun z => hl (key.mpr z))]
  congr 2
  rcases h2 with rfl | h2
  ·rw [Nat.pow_zero, Nat.one_mul, Nat.zero_mul, Nat.zero_add]
   by_cases hs : kept < 2 ^ 52
   ·rw [if_pos hs]
   ·rw [if_neg hs]
    by_cases h53 : kept = 2 ^ 53
    ·subst h53
     rw [Nat.log2_two_pow]
    ·rw [wX (k := 52) (by lia) (by lia)]
     lia
  ·have hge : 2 ^ 52 <= 2 ^ e * kept := Nat.le_trans h2 (Nat.le_mul_of_pos_left _ (two_pow_pos e))
   rw [if_neg (by lia)]
   have hk0 : kept ≠ 0 := by lia
   have hlog : (2 ^ e * kept).log2 = kept.log2 + e := by rw [Nat.mul_comm]; exact u9 _ _ hk0
   by_cases h53 : kept = 2 ^ 53
   ·subst h53
    rw [hlog, Nat.log2_two_pow]
    have : 2 ^ e * 2 ^ 53 / 2 ^ (53 + e - 52) = 2 ^ 52 := by
     rw [<- Nat.pow_add, Nat.pow_div (by lia) (by decide)]
     congr 1
     lia
    rw [this]
    lia
   ·have hk2 : kept.log2 = 52 := wX (by lia) (by lia)
    rw [hlog, hk2]
    have : 2 ^ e * kept / 2 ^ (52 + e - 52) = kept := by
     rw [show 52 + e - 52 = e by lia, Nat.mul_div_cancel_left _ (two_pow_pos e)]
    rw [this]
    lia
noncomputable def rnd (neg : Bool) (whole : Nat) (q : Int) : Option Nat :=
 if whole = 0 then some (if neg = true then 2 ^ 63 else 0) else
 let drop : Int := max (((whole.log2 + 1 : Nat) : Int) - 53) (-q)
 let kept : Nat := if drop <= 0 then whole * 2 ^ (-drop).toNat else nw whole drop.toNat
 let size : Nat := (q + drop).toNat * 2 ^ 52 + kept
 if 9218868437227405312 <= size then none else some ((if neg = true then 2 ^ 63 else 0) + size)
theorem VT (neg : Bool) (whole n d a b : Nat) (hd : 0 < d) (h : n * 2 ^ b = whole * 2 ^ a * d) : rnd neg whole ((a : Int) - b) = Pv.pack neg (Pv.rounded n d) := by
 have hnd : n / d = whole * 2 ^ a / 2 ^ b := by
  have e1 : n / d = n * 2 ^ b / (d * 2 ^ b) := (Nat.mul_div_mul_right _ _ (two_pow_pos b)).symm
  rw [e1, h, Nat.mul_comm d, Nat.mul_div_mul_right _ _ hd]
 unfold rnd
 by_cases hw : whole = 0
 ·subst hw
  rw [if_pos rfl]
  have hn : n = 0 := by
   rw [Nat.zero_mul, Nat.zero_mul] at h
   rcases Nat.mul_eq_zero.mp h with h | h
   ·exact h
   ·exact absurd h (Nat.pos_iff_ne_zero.mp (two_pow_pos b))
  subst hn
  have : Pv.rounded 0 d = 0 := by
   unfold Pv.rounded Pv.nearest
   simp
  rw [this]
  unfold Pv.pack Pv.LIMIT
  rw [if_neg (fun z => absurd z (Nat.not_le.mpr (two_pow_pos 2098))), if_pos (two_pow_pos 52), Nat.add_zero]
 rw [if_neg hw]
 -- the exponent of a last place
 have hlog : (n / d).log2 = whole.log2 + a - b := by rw [hnd, uA, u9 _ _ hw]
 generalize hL : whole.log2 = L at hlog
 have lo : 2 ^ L <= whole := by rw [<- hL]; exact zF hw
 have hi : whole < 2 ^ (L + 1) := by rw [<- hL]; exact wb hw
 generalize he : L + a - b - 52 = e
 have hap : Pv.apart (n / d) = 2 ^ e := by
  unfold Pv.apart
  rw [hlog, he]
 have hdrop : max (((L + 1 : Nat) : Int) - 53) (-((a : Int) - b)) = (e : Int) - a + b := by lia
 dsimp only
 rw [hdrop]
 have hq : ((a : Int) - b + ((e : Int) - a + b)).toNat = e := by lia
 rw [hq]
 have hnear : Pv.nearest n (d * 2 ^ e) = Pv.nearest (whole * 2 ^ a) (2 ^ (e + b)) := by
  rw [<- qK n (d * 2 ^ e) (2 ^ b) (two_pow_pos b), h, show d * 2 ^ e * 2 ^ b = 2 ^ (e + b) * d by rw [Nat.pow_add, Nat.mul_comm d, Nat.mul_assoc, Nat.mul_assoc, Nat.mul_comm d]]
  exact qK _ _ _ hd
 have hkept : (if (e : Int) - a + b <= 0 then whole * 2 ^ (-((e : Int) - a + b)).toNat else nw whole ((e : Int) - a + b).toNat) = Pv.nearest n (d * 2 ^ e) := by
  rw [hnear]
  by_cases hc : (e : Int) - a + b <= 0
  ·rw [if_pos hc]
   have e3 : whole * 2 ^ a = whole * 2 ^ (-((e : Int) - a + b)).toNat * 2 ^ (e + b) := by
    rw [Nat.mul_assoc, <- Nat.pow_add]
    congr 2
    lia
   rw [e3, zK _ _ (two_pow_pos _)]
  ·rw [if_neg hc, zV]
   have e3 : 2 ^ (e + b) = 2 ^ ((e : Int) - a + b).toNat * 2 ^ a := by
    rw [<- Nat.pow_add]
    congr 1
    lia
   rw [e3, qK _ _ _ (two_pow_pos _)]
 rw [hkept]
 unfold Pv.rounded
 rw [hap]
 -- bounds
 have up : Pv.nearest n (d * 2 ^ e) <= 2 ^ 53 := by
  rw [hnear]
  refine yX _ _ _ (two_pow_pos _) ?_
  rw [<- Nat.pow_add]
  refine Nat.lt_of_lt_of_le (Nat.mul_lt_mul_of_pos_right hi (two_pow_pos a)) ?_
  rw [<- Nat.pow_add]
  exact Nat.pow_le_pow_right (by decide) (by lia)
 have dn : e = 0 \/ 2 ^ 52 <= Pv.nearest n (d * 2 ^ e) := by
  by_cases h0 : e = 0
  ·exact .inl h0
  ·right
   rw [hnear]
   refine y9 _ _ _ (two_pow_pos _) ?_
   rw [<- Nat.pow_add]
   refine Nat.le_trans ?_ (Nat.mul_le_mul_right _ lo)
   rw [<- Nat.pow_add]
   exact Nat.pow_le_pow_right (by decide) (by lia)
 exact (uv neg e _ up dn).symm
end Dm
set_option exponentiation.threshold 4000
namespace Dm
theorem Vo (neg : Bool) (whole n d a b : Nat) (hw : whole ≠ 0) (hlog : (n / d).log2 = whole.log2 + a - b)
  (hnear : Pv.nearest n (d * 2 ^ (whole.log2 + a - b - 52)) = Pv.nearest (whole * 2 ^ a) (2 ^ (whole.log2 + a - b - 52 + b))) : rnd neg whole ((a : Int) - b) = Pv.pack neg (Pv.rounded n d) := by
 unfold rnd
 rw [if_neg hw]
 generalize hL : whole.log2 = L at hlog hnear
 have lo : 2 ^ L <= whole := by rw [<- hL]; exact zF hw
 have hi : whole < 2 ^ (L + 1) := by rw [<- hL]; exact wb hw
 generalize he : L + a - b - 52 = e at hnear
 have hap : Pv.apart (n / d) = 2 ^ e := by
  unfold Pv.apart
  rw [hlog, he]
 have hdrop : max (((L + 1 : Nat) : Int) - 53) (-((a : Int) - b)) = (e : Int) - a + b := by lia
 dsimp only
 rw [hdrop]
 have hq : ((a : Int) - b + ((e : Int) - a + b)).toNat = e := by lia
 rw [hq]
 have hkept : (if (e : Int) - a + b <= 0 then whole * 2 ^ (-((e : Int) - a + b)).toNat else nw whole ((e : Int) - a + b).toNat) = Pv.nearest n (d * 2 ^ e) := by
  rw [hnear]
  by_cases hc : (e : Int) - a + b <= 0
  ·rw [if_pos hc]
   have e3 : whole * 2 ^ a = whole * 2 ^ (-((e : Int) - a + b)).toNat * 2 ^ (e + b) := by
    rw [Nat.mul_assoc, <- Nat.pow_add]
    congr 2
    lia
   rw [e3, zK _ _ (two_pow_pos _)]
  ·rw [if_neg hc, zV]
   have e3 : 2 ^ (e + b) = 2 ^ ((e : Int) - a + b).toNat * 2 ^ a := by
    rw [<- Nat.pow_add]
    congr 1
    lia
   rw [e3, qK _ _ _ (two_pow_pos _)]
 rw [hkept]
 unfold Pv.rounded
 rw [hap]
 have up : Pv.nearest n (d * 2 ^ e) <= 2 ^ 53 := by
  rw [hnear]
  refine yX _ _ _ (two_pow_pos _) ?_
  rw [<- Nat.pow_add]
  refine Nat.lt_of_lt_of_le (Nat.mul_lt_mul_of_pos_right hi (two_pow_pos a)) ?_
  rw [<- Nat.pow_add]
  exact Nat.pow_le_pow_right (by decide) (by lia)
 have dn : e = 0 \/ 2 ^ 52 <= Pv.nearest n (d * 2 ^ e) := by
  by_cases h0 : e = 0
  ·exact .inl h0
  ·right
   rw [hnear]
   refine y9 _ _ _ (two_pow_pos _) ?_
   rw [<- Nat.pow_add]
   refine Nat.le_trans ?_ (Nat.mul_le_mul_right _ lo)
   rw [<- Nat.pow_add]
   exact Nat.pow_le_pow_right (by decide) (by lia)
 exact (uv neg e _ up dn).symm
noncomputable def qZ (N M : Nat) : Nat := N / M * 2 + (if N % M = 0 then 0 else 1)
theorem jj {N M c : Nat} (hM : 0 < M) (h : N % M ≠ 0) : M * c < N ↔ c <= N / M := by
 have e := Nat.div_add_mod N M
 constructor
 ·intro q
  exact (Nat.le_div_iff_mul_le hM).mpr (by rw [Nat.mul_comm]; lia)
 ·intro q
  have : M * c <= M * (N / M) := Nat.mul_le_mul_left _ q
  lia
theorem y1 (N M k : Nat) (hM : 0 < M) (hk : 2 <= k) : Pv.nearest (2 * N) (M * 2 ^ k) = Pv.nearest (qZ N M) (2 ^ k) := by
 obtain ⟨h, rfl⟩ : ∃ h, k = h + 2 := ⟨k - 2, by lia⟩
 by_cases hz : N % M = 0
 ·have e := Nat.div_add_mod N M
  rw [hz, Nat.add_zero] at e
  have hT : qZ N M = N / M * 2 := by unfold qZ; rw [if_pos hz, Nat.add_zero]
  rw [hT]
  have e2 : 2 * N = N / M * 2 * M := by
   rw [Nat.mul_right_comm, Nat.mul_comm (N / M) M, e, Nat.mul_comm]
  rw [e2, Nat.mul_comm M]
  exact qK _ _ _ hM
 ·have hT : qZ N M = 2 * (N / M) + 1 := by unfold qZ; rw [if_neg hz]; lia
  rw [hT]
  have hpow : 2 ^ (h + 2) = 4 * 2 ^ h := by rw [Nat.pow_add]; lia
  have hpos : 0 < 2 ^ h := two_pow_pos h
  generalize hf : N / M = f
  have e := Nat.div_add_mod N M
  rw [hf] at e
  have hlt : N % M < M := Nat.mod_lt _ hM
  -- the floors are the same
  have hq : 2 * N / M = 2 * f \/ 2 * N / M = 2 * f + 1 := by
   have e1 : 2 * N = M * (2 * f) + 2 * (N % M) := by
    rw [Nat.mul_left_comm]; lia
   rw [e1, Nat.mul_add_div hM]
   have h2 : 2 * (N % M) / M < 2 := (Nat.div_lt_iff_lt_mul hM).mpr (by lia)
   generalize 2 * (N % M) / M = z at h2
   lia
  have hF : 2 * N / (M * 2 ^ (h + 2)) = (2 * f + 1) / 2 ^ (h + 2) := by
   rw [<- Nat.div_div_eq_div_mul]
   have e2 : ∀ z, z / 2 ^ (h + 2) = z / 2 / 2 ^ (h + 1) := fun z => by
    rw [Nat.div_div_eq_div_mul]
    congr 1
    rw [Nat.pow_succ 2 (h + 1), Nat.mul_comm]
   rw [e2 (2 * N / M), e2 (2 * f + 1)]
   congr 1
   lia
  generalize hFF : (2 * f + 1) / 2 ^ (h + 2) = F at hF
  -- the halves
  have r1 := Nat.div_add_mod (2 * N) (M * 2 ^ (h + 2))
  have r2 := Nat.div_add_mod (2 * f + 1) (2 ^ (h + 2))
  rw [hF] at r1
  rw [hFF] at r2
  have key : M * (2 ^ h * (2 * F + 1)) < N ↔ 2 ^ h * (2 * F + 1) <= f := by
   have := jj (c := 2 ^ h * (2 * F + 1)) hM hz
   rw [hf] at this
   exact this
  have hne : ¬ (M * (2 ^ h * (2 * F + 1)) = N) := fun z => hz (by rw [<- z]; exact Nat.mul_mod_right _ _)
  have ex1 : M * 2 ^ (h + 2) * F = 2 * (2 * (M * (2 ^ h * F))) := by
   rw [hpow, Nat.mul_left_comm M, Nat.mul_assoc, Nat.mul_assoc]
   lia
  have ex2 : M * 2 ^ (h + 2) = 2 * (2 * (M * 2 ^ h)) := by
   rw [hpow, Nat.mul_left_comm M]
   lia
  have ex3 : M * (2 ^ h * (2 * F + 1)) = 2 * (M * (2 ^ h * F)) + M * 2 ^ h := by
   rw [Nat.mul_add, Nat.mul_add, Nat.mul_one, Nat.mul_left_comm (2 ^ h) 2, Nat.mul_left_comm M 2]
  have ex4 : 2 ^ (h + 2) * F = 2 * (2 * (2 ^ h * F)) := by
   rw [hpow, Nat.mul_assoc]; lia
  have ex5 : 2 ^ h * (2 * F + 1) = 2 * (2 ^ h * F) + 2 ^ h := by
   rw [Nat.mul_add, Nat.mul_one, Nat.mul_left_comm (2 ^ h) 2]
  rw [ex3, ex5] at key
  rw [ex3] at hne
  have c1 : M * 2 ^ (h + 2) < 2 * (2 * N % (M * 2 ^ (h + 2))) ↔ 2 ^ (h + 2) < 2 * ((2 * f + 1) % 2 ^ (h + 2)) := by lia
  have c2 : ¬ (2 * (2 * N % (M * 2 ^ (h + 2))) = M * 2 ^ (h + 2)) := by lia
  have c3 : ¬ (2 * ((2 * f + 1) % 2 ^ (h + 2)) = 2 ^ (h + 2)) := by lia
  unfold Pv.nearest
  rw [hF, hFF]
  simp only [c1, c2, c3, false_and, or_false]
theorem jh (N M : Nat) (hM : 0 < M) (hf : 1 <= N / M) : 2 ^ (qZ N M).log2 <= N / M * 2 /\ (N / M + 1) * 2 <= 2 ^ ((qZ N M).log2 + 1) := by
 have hs : qZ N M = N / M * 2 \/ qZ N M = N / M * 2 + 1 := by unfold qZ; split <;> lia
 generalize N / M = f at hs hf
 generalize qZ N M = T at hs
 have hT : T ≠ 0 := by lia
 have lo := zF hT
 have hi := wb hT
 have hL : 1 <= T.log2 := by
  refine (Nat.le_log2 hT).mpr ?_
  lia
 obtain ⟨l, e⟩ : ∃ l, T.log2 = l + 1 := ⟨T.log2 - 1, by lia⟩
 rw [e] at lo hi ⊢
 rw [Nat.pow_succ] at lo hi ⊢
 rw [Nat.pow_succ] at hi ⊢
 lia
theorem jP (neg : Bool) (N M n d a b : Nat) (hM : 0 < M) (hd : 0 < d) (big : 2 ^ 54 <= N / M) (h : n * 2 ^ b * M = 2 * N * 2 ^ a * d) : rnd neg (qZ N M) ((a : Int) - b) = Pv.pack neg (Pv.rounded n d) := by
 have hs := jh N M hM (Nat.le_trans (two_pow_pos 54) big)
 have hT : N / M * 2 <= qZ N M := by unfold qZ; lia
 have hw : qZ N M ≠ 0 := by
  have := two_pow_pos 54
  lia
 have hL : 55 <= (qZ N M).log2 := (Nat.le_log2 hw).mpr (Nat.le_trans (by lia) hT)
 have hnd : n / d = 2 * N * 2 ^ a / M / 2 ^ b := by
  have e1 : n / d = n * (2 ^ b * M) / (d * (2 ^ b * M)) := (Nat.mul_div_mul_right _ _ (Nat.mul_pos (two_pow_pos b) hM)).symm
  rw [e1, <- Nat.mul_assoc, h, Nat.mul_comm d, Nat.mul_div_mul_right _ _ hd, Nat.div_div_eq_div_mul, Nat.mul_comm M]
 refine Vo neg _ n d a b hw ?_ ?_
 ·rw [hnd, uA]
  congr 1
  generalize hLL : (qZ N M).log2 = L at hs
  refine wX ?_ ?_
  ·rw [Nat.le_div_iff_mul_le hM, Nat.pow_add, Nat.mul_right_comm]
   refine Nat.mul_le_mul_right _ ?_
   have e := Nat.div_mul_le_self N M
   calc 2 ^ L * M <= N / M * 2 * M := Nat.mul_le_mul_right _ hs.1
    _ = 2 * (N / M * M) := by rw [Nat.mul_right_comm, Nat.mul_comm]
    _ <= 2 * N := Nat.mul_le_mul_left _ e
  ·rw [Nat.div_lt_iff_lt_mul hM]
   rw [show L + a + 1 = L + 1 + a by lia, Nat.pow_add, Nat.mul_right_comm (2 ^ (L + 1))]
   refine Nat.mul_lt_mul_of_pos_right ?_ (two_pow_pos a)
   have e : N < (N / M + 1) * M := by
    have := Nat.lt_mul_div_succ N hM
    rw [Nat.mul_comm]; exact this
   calc 2 * N < 2 * ((N / M + 1) * M) := by lia
    _ = (N / M + 1) * 2 * M := by rw [Nat.mul_right_comm, Nat.mul_comm]
    _ <= 2 ^ (L + 1) * M := Nat.mul_le_mul_right _ hs.2
 ·generalize hLL : (qZ N M).log2 = L at hL
  generalize he : L + a - b - 52 = e
  obtain ⟨k, ek⟩ : ∃ k, e + b = k + a := ⟨e + b - a, by lia⟩
  have hk : 2 <= k := by lia
  have e1 : Pv.nearest n (d * 2 ^ e) = Pv.nearest (2 * N * 2 ^ a) (M * 2 ^ (e + b)) := by
   rw [<- qK n (d * 2 ^ e) (2 ^ b * M) (Nat.mul_pos (two_pow_pos b) hM), <- Nat.mul_assoc, h, show d * 2 ^ e * (2 ^ b * M) = M * 2 ^ (e + b) * d by rw [Nat.pow_add, Nat.mul_comm d, Nat.mul_assoc, Nat.mul_comm M, Nat.mul_assoc (2 ^ e * 2 ^ b), Nat.mul_comm M d, Nat.mul_assoc, Nat.mul_left_comm d]]
   exact qK _ _ _ hd
  rw [e1, ek, Nat.pow_add, <- Nat.mul_assoc, qK _ _ _ (two_pow_pos a), qK _ _ _ (two_pow_pos a)]
  exact y1 N M k hM hk
noncomputable def sg (x : Nat) : Nat := x / 2 ^ 63
noncomputable def sz (x : Nat) : Nat := x % 2 ^ 63
noncomputable def wh (x : Nat) : Nat := if sz x = x % 2 ^ 52 then x % 2 ^ 52 else x % 2 ^ 52 + 2 ^ 52
noncomputable def ex (x : Nat) : Nat := max (sz x / 2 ^ 52) 1 - 1
noncomputable def sw (x : Nat) : Int := if sg x = 1 then -(wh x : Int) else wh x
theorem wC (x : Nat) : Pv.exponent x = sz x / 2 ^ 52 := by
 unfold Pv.exponent sz
 omega
theorem wK (x : Nat) (h : x < 2 ^ 64) : Pv.isNeg x = decide (sg x = 1) := by
 unfold Pv.isNeg sg
 rw [Nat.testBit_eq_decide_div_mod_eq]
 congr 1
 have : x / 2 ^ 63 < 2 := by lia
 rw [Nat.mod_eq_of_lt this]
theorem yr (x : Nat) : sz x = x % 2 ^ 52 ↔ Pv.exponent x = 0 := by
 rw [wC]
 unfold sz
 lia
theorem wY (x : Nat) : Pv.mag x = wh x * 2 ^ ex x := by
 unfold Pv.mag wh ex
 by_cases h : Pv.exponent x = 0
 ·rw [if_pos h, if_pos ((yr x).mpr h)]
  rw [wC] at h
  rw [h]
  simp
 ·rw [if_neg h, if_neg (fun z => h ((yr x).mp z)), Nat.add_comm]
  rw [wC] at h ⊢
  rw [Nat.max_eq_left (by lia)]
theorem val_eq (x : Nat) (h : x < 2 ^ 64) : Pv.val x = sw x * 2 ^ ex x := by
 unfold Pv.val sw
 rw [wK x h, wY]
 by_cases hs : sg x = 1
 ·rw [if_pos (decide_eq_true hs), if_pos hs]
  simp [Int.neg_mul]
 ·rw [if_neg (by simpa using hs), if_neg hs]
  simp
theorem z5 (x : Nat) : wh x < 2 ^ 53 := by unfold wh; split <;> lia
theorem vX (x : Nat) : wh x = 0 ↔ sz x = 0 := by
 unfold wh sz
 split <;> lia
theorem v8 (x : Nat) : Pv.mag x = 0 ↔ sz x = 0 := by
 rw [wY, Nat.mul_eq_zero, vX]
 constructor
 ·rintro (h | h)
  ·exact h
  ·exact absurd h (Nat.pos_iff_ne_zero.mp (two_pow_pos _))
 ·exact .inl
theorem jU (x : Nat) : Pv.isFinite x = decide (sz x < 9218868437227405312) := by
 unfold Pv.isFinite
 rw [wC]
 have : sz x < 2 ^ 63 := by unfold sz; lia
 by_cases h : sz x < 9218868437227405312
 ·rw [decide_eq_true h]
  have : sz x / 2 ^ 52 < 2047 := by lia
  simp only [bne_iff_ne, ne_eq]
  lia
 ·rw [decide_eq_false h]
  have : sz x / 2 ^ 52 = 2047 := by lia
  rw [this]
  rfl
noncomputable def flip (x : Nat) : Nat := if sg x = 1 then x - 2 ^ 63 else x + 2 ^ 63
theorem Q9 (x : Nat) (h : x < 2 ^ 64) : Pv.minus x = flip x := by
 unfold Pv.minus flip
 rw [wK x h]
 by_cases hs : sg x = 1
 ·rw [if_pos (decide_eq_true hs), if_pos hs]
 ·rw [if_neg (by simpa using hs), if_neg hs]
theorem Wg (x : Nat) (h : x < 2 ^ 64) : flip x < 2 ^ 64 := by
 unfold flip sg
 split <;> lia
theorem Q2 (x : Nat) (h : x < 2 ^ 64) : x ^^^ 2 ^ 63 = flip x := by
 unfold flip sg
 refine Nat.eq_of_testBit_eq fun i => ?_
 rw [Nat.testBit_xor, Nat.testBit_two_pow]
 split
 ·rename_i hs
  have hx : x = 2 ^ 63 + (x - 2 ^ 63) := by lia
  have hlt : x - 2 ^ 63 < 2 ^ 63 := by lia
  generalize x - 2 ^ 63 = y at hx hlt
  subst hx
  by_cases hi : i = 63
  ·subst hi
   simp only [decide_true]
   rw [Nat.testBit_two_pow_add_eq, Nat.testBit_lt_two_pow hlt]
   rfl
  ·rw [decide_eq_false (fun z => hi z.symm), Bool.xor_false]
   by_cases h2 : i < 63
   ·exact Nat.testBit_two_pow_add_gt h2 y
   ·rw [Nat.testBit_lt_two_pow (Nat.lt_of_lt_of_le hlt (Nat.pow_le_pow_right (by decide) (by lia))), Nat.testBit_lt_two_pow]
    exact Nat.lt_of_lt_of_le h (Nat.pow_le_pow_right (by decide) (by lia))
 ·rename_i hs
  have hlt : x < 2 ^ 63 := by lia
  rw [Nat.add_comm x]
  by_cases hi : i = 63
  ·subst hi
   simp only [decide_true]
   rw [Nat.testBit_two_pow_add_eq, Nat.testBit_lt_two_pow hlt]
   rfl
  ·rw [decide_eq_false (fun z => hi z.symm), Bool.xor_false]
   by_cases h2 : i < 63
   ·exact (Nat.testBit_two_pow_add_gt h2 x).symm
   ·rw [Nat.testBit_lt_two_pow (Nat.lt_of_lt_of_le hlt (Nat.pow_le_pow_right (by decide) (by lia))), Nat.testBit_lt_two_pow]
    exact Nat.lt_of_lt_of_le (show 2 ^ 63 + x < 2 ^ 64 by lia) (Nat.pow_le_pow_right (by decide) (by lia))
noncomputable def xU (x y z : Nat) : Option Nat :=
 let pxy : Int := ex x + ex y - 2148
 let pz : Int := ex z - 1074
 let low : Int := min pxy pz
 let total : Int := sw x * sw y * 2 ^ (pxy - low).toNat + sw z * 2 ^ (pz - low).toNat
 if total = 0 then some (if (sg x ≠ sg y) /\ sg z = 1 then 2 ^ 63 else 0)
 else rnd (decide (total < 0)) total.natAbs (low + 1074)
noncomputable def xg (x y : Nat) : Option Nat := rnd (decide (sg x ≠ sg y)) (wh x * wh y) ((ex x : Int) + ex y - 1074)
noncomputable def yn (x y : Nat) : Option Nat := if sz y = 0 then none else rnd (decide (sg x ≠ sg y)) (qZ (wh x * 2 ^ 112) (wh y)) ((ex x : Int) - ex y + 961)
noncomputable def isqrt (n : Nat) : Nat := Pv.root n
noncomputable def VV (x : Nat) : Option Nat :=
 if sz x = 0 then some x else if sg x = 1 then none else
 let N := wh x * 2 ^ (112 + ex x % 2)
 rnd false (isqrt N * 2 + (if N = isqrt N * isqrt N then 0 else 1)) ((((ex x - ex x % 2 + 962) / 2 : Nat) : Int) - 1)
theorem jV {x y : Nat} (hx : x < 2 ^ 64) (hy : y < 2 ^ 64) : (Pv.isNeg x != Pv.isNeg y) = decide (sg x ≠ sg y) := by
 rw [wK x hx, wK y hy]
 have h1 : sg x = 0 \/ sg x = 1 := by unfold sg; lia
 have h2 : sg y = 0 \/ sg y = 1 := by unfold sg; lia
 rcases h1 with h1 | h1 <;> rcases h2 with h2 | h2 <;> rw [h1, h2] <;> rfl
theorem Z4 {x y : Nat} (hx : x < 2 ^ 64) (hy : y < 2 ^ 64) : xg x y = Pv.mul x y := by
 unfold xg Pv.mul
 rw [jV hx hy]
 have := VT (decide (sg x ≠ sg y)) (wh x * wh y) (Pv.mag x * Pv.mag y) Pv.UNIT (ex x + ex y) 1074 (two_pow_pos 1074) (by
  rw [wY, wY]
  unfold Pv.UNIT
  rw [Nat.pow_add, Nat.mul_mul_mul_comm])
 rw [<- this]
 congr 1
theorem VB : (Pv.UNIT : Int) = 2 ^ 1074 := by
 unfold Pv.UNIT
 rw [Int.natCast_pow]
 rfl
theorem yV {x y z : Nat} (hx : x < 2 ^ 64) (hy : y < 2 ^ 64) (hz : z < 2 ^ 64) : xU x y z = Pv.fused x y z := by
 unfold xU Pv.fused Pv.ofSum
 dsimp only
 generalize hlow : min ((ex x : Int) + ex y - 2148) ((ex z : Int) - 1074) = low
 obtain ⟨a, ha⟩ : ∃ a : Nat, low + 2148 = a := ⟨(low + 2148).toNat, by lia⟩
 have e1 : ((ex x : Int) + ex y - 2148 - low).toNat + a = ex x + ex y := by lia
 have e2 : ((ex z : Int) - 1074 - low).toNat + a = ex z + 1074 := by lia
 generalize ((ex x : Int) + ex y - 2148 - low).toNat = u at e1
 generalize ((ex z : Int) - 1074 - low).toNat = v at e2
 have hs : Pv.val x * Pv.val y + Pv.val z * (Pv.UNIT : Int) = (sw x * sw y * 2 ^ u + sw z * 2 ^ v) * 2 ^ a := by
  rw [val_eq x hx, val_eq y hy, val_eq z hz, Int.add_mul]
  congr 1
  ·rw [Int.mul_assoc (sw x * sw y), <- Int.pow_add, e1, Int.pow_add]
   ac_rfl
  ·rw [Int.mul_assoc, Int.mul_assoc, <- Int.pow_add, e2]
   rw [Int.pow_add, VB]
 rw [hs]
 generalize htot : sw x * sw y * 2 ^ u + sw z * 2 ^ v = total
 have hpa : (2 : Int) ^ a ≠ 0 := Int.ne_of_gt (Int.pow_pos (by decide))
 by_cases h0 : total = 0
 ·rw [if_pos h0, h0, Int.zero_mul, if_pos rfl]
  rw [wK z hz, jV hx hy]
  congr 1
  by_cases c1 : sg x ≠ sg y <;> by_cases c2 : sg z = 1 <;> simp [c1, c2]
 ·rw [if_neg h0, if_neg (fun q => (Int.mul_eq_zero.mp q).elim h0 hpa)]
  have hneg : decide (total * 2 ^ a < 0) = decide (total < 0) := by
   congr 1
   refine propext ⟨fun q => ?_, fun q => ?_⟩
   ·refine Int.not_le.mp fun z => ?_
    exact absurd (Int.mul_nonneg z (Int.le_of_lt (Int.pow_pos (by decide) : (0 : Int) < 2 ^ a))) (Int.not_le.mpr q)
   ·exact Int.mul_neg_of_neg_of_pos q (Int.pow_pos (by decide))
  rw [hneg]
  have hq : low + 1074 = (a : Int) - (1074 : Nat) := by lia
  rw [hq]
  refine VT _ _ _ _ a 1074 (two_pow_pos 1074) ?_
  rw [Int.natAbs_mul, Int.natAbs_pow]
  rfl
theorem val_one : Pv.val Pv.ONE = (Pv.UNIT : Int) := by decide +kernel
theorem ZK {x y : Nat} (hx : x < 2 ^ 64) (hy : y < 2 ^ 64) : xU x 0x3FF0000000000000 y = Pv.add x y := by
 rw [yV hx (by decide) hy]
 unfold Pv.fused Pv.add Pv.ofSum
 have e1 : Pv.val 0x3FF0000000000000 = (Pv.UNIT : Int) := val_one
 have e2 : Pv.isNeg 0x3FF0000000000000 = false := by decide +kernel
 rw [e1, e2, <- Int.add_mul]
 have hU : (Pv.UNIT : Int) ≠ 0 := by
  have := two_pow_pos 1074
  unfold Pv.UNIT
  lia
 have hUp : (0 : Int) < (Pv.UNIT : Int) := by
  have := two_pow_pos 1074
  unfold Pv.UNIT
  lia
 have hb : (Pv.isNeg x != false) = Pv.isNeg x := by cases Pv.isNeg x <;> rfl
 rw [hb]
 generalize Pv.val x + Pv.val y = s
 by_cases h0 : s = 0
 ·rw [h0, Int.zero_mul, if_pos rfl, if_pos rfl]
 ·rw [if_neg h0, if_neg (fun q => (Int.mul_eq_zero.mp q).elim h0 hU)]
  have hneg : decide (s * (Pv.UNIT : Int) < 0) = decide (s < 0) := by
   congr 1
   refine propext ⟨fun q => ?_, fun q => ?_⟩
   ·refine Int.not_le.mp fun z => ?_
    exact absurd (Int.mul_nonneg z (Int.le_of_lt hUp)) (Int.not_le.mpr q)
   ·exact Int.mul_neg_of_neg_of_pos q hUp
  rw [hneg, Int.natAbs_mul]
  congr 1
  have hUn : 0 < (Pv.UNIT : Int).natAbs := by
   show 0 < Pv.UNIT
   exact two_pow_pos 1074
  have e3 : (Pv.UNIT : Int).natAbs = Pv.UNIT := rfl
  rw [e3] at hUn ⊢
  unfold Pv.rounded
  rw [Nat.mul_div_cancel _ hUn, Nat.div_one, Nat.one_mul]
  congr 1
  rw [Nat.mul_comm Pv.UNIT]
  exact qK _ _ _ hUn
theorem Zt {x y : Nat} (hx : x < 2 ^ 64) (hy : y < 2 ^ 64) : yn x y = Pv.div x y := by
 unfold yn Pv.div
 by_cases h0 : sz y = 0
 ·rw [if_pos h0, if_pos ((v8 y).mpr h0)]
 rw [if_neg h0, if_neg (fun z => h0 ((v8 y).mp z)), jV hx hy]
 have hM : 0 < wh y := Nat.pos_of_ne_zero fun z => h0 ((vX y).mp z)
 by_cases hx0 : wh x = 0
 ·have hm : Pv.mag x = 0 := by rw [wY, hx0, Nat.zero_mul]
  rw [hx0, hm]
  have : qZ (0 * 2 ^ 112) (wh y) = 0 := by unfold qZ; simp
  rw [this, Nat.zero_mul]
  have hr : Pv.rounded 0 (Pv.mag y) = 0 := by unfold Pv.rounded Pv.nearest; simp
  rw [hr]
  unfold rnd Pv.pack Pv.LIMIT
  rw [if_pos rfl, if_neg (fun z => absurd z (Nat.not_le.mpr (two_pow_pos 2098))), if_pos (two_pow_pos 52), Nat.add_zero]
 ·have big : 2 ^ 54 <= wh x * 2 ^ 112 / wh y := by
   rw [Nat.le_div_iff_mul_le hM]
   have := z5 y
   calc 2 ^ 54 * wh y <= 2 ^ 54 * 2 ^ 53 := Nat.mul_le_mul_left _ (Nat.le_of_lt this)
    _ <= 1 * 2 ^ 112 := by decide
    _ <= wh x * 2 ^ 112 := Nat.mul_le_mul_right _ (by lia)
  have := jP (decide (sg x ≠ sg y)) (wh x * 2 ^ 112) (wh y) (Pv.mag x * Pv.UNIT) (Pv.mag y) (ex x + 961) (ex y) hM (by
   rw [wY]; exact Nat.mul_pos hM (two_pow_pos _)) big (by
   rw [wY, wY]
   unfold Pv.UNIT
   have e : (2 : Nat) ^ 1074 = 2 * 2 ^ 112 * 2 ^ 961 := by
    rw [show (1074 : Nat) = 1 + 112 + 961 from rfl, Nat.pow_add, Nat.pow_add]
   rw [e, Nat.pow_add]
   ac_rfl)
  rw [<- this]
  congr 1
  lia
theorem wG : ∀ (k n x : Nat), x * x <= n -> n < (x + 2 ^ k) * (x + 2 ^ k) -> Pv.rootFrom k n x * Pv.rootFrom k n x <= n /\ n < (Pv.rootFrom k n x + 1) * (Pv.rootFrom k n x + 1)
 | 0, n, x, h1, h2 => ⟨h1, h2⟩
 | k + 1, n, x, h1, h2 => by
  unfold Pv.rootFrom
  split
  ·rename_i h
   refine wG k n _ h ?_
   rw [Nat.add_assoc, show 2 ^ k + 2 ^ k = 2 ^ (k + 1) by rw [Nat.pow_succ]; lia]
   exact h2
  ·rename_i h
   exact wG k n _ h1 (by lia)
theorem zE (n : Nat) : Pv.root n * Pv.root n <= n /\ n < (Pv.root n + 1) * (Pv.root n + 1) := by
 unfold Pv.root
 refine wG _ n 0 (Nat.zero_le _) ?_
 rw [Nat.zero_add]
 by_cases h : n = 0
 ·subst h; decide
 ·have := wb h
  exact Nat.lt_of_lt_of_le this (Nat.le_mul_of_pos_right _ (two_pow_pos _))
theorem QD {n r : Nat} (h1 : r * r <= n) (h2 : n < (r + 1) * (r + 1)) : Pv.root n = r := by
 obtain ⟨g1, g2⟩ := zE n
 generalize Pv.root n = s at g1 g2
 have a : ¬ r < s := fun z => by
  have := Nat.mul_le_mul (show r + 1 <= s from z) (show r + 1 <= s from z)
  lia
 have b : ¬ s < r := fun z => by
  have := Nat.mul_le_mul (show s + 1 <= r from z) (show s + 1 <= r from z)
  lia
 lia
theorem zH {a b : Nat} : a * a < b * b ↔ a < b := by
 constructor
 ·intro h
  refine Nat.lt_of_not_le fun z => ?_
  have := Nat.mul_le_mul z z
  lia
 ·intro h
  exact Nat.mul_lt_mul'' h h
theorem Qu {n f c : Nat} (h1 : f * f <= n) (h2 : n < (f + 1) * (f + 1)) : c * c < n ↔ c < f \/ (c = f /\ n ≠ f * f) := by
 constructor
 ·intro h
  have : c < f + 1 := zH.mp (Nat.lt_trans h h2)
  by_cases e : c = f
  ·subst e; exact .inr ⟨rfl, by lia⟩
  ·exact .inl (by lia)
 ·rintro (h | ⟨rfl, h⟩)
  ·exact Nat.lt_of_lt_of_le (zH.mpr h) h1
  ·lia
theorem Q7 {o i j w : Nat} (ho : o % 2 = 1) (hw : 0 < w) (h : o * 2 ^ j = w * 2 ^ i) : o <= w := by
 have hij : i <= j := by
  refine Nat.le_of_not_lt fun z => ?_
  obtain ⟨d, rfl⟩ : ∃ d, i = j + 1 + d := ⟨i - j - 1, by lia⟩
  rw [show j + 1 + d = (1 + d) + j by lia, Nat.pow_add 2 (1 + d) j, <- Nat.mul_assoc] at h
  have := Nat.eq_of_mul_eq_mul_right (two_pow_pos j) h
  rw [this, Nat.pow_add, Nat.pow_one, <- Nat.mul_assoc, Nat.mul_comm w, Nat.mul_assoc] at ho
  lia
 obtain ⟨d, rfl⟩ : ∃ d, j = d + i := ⟨j - i, by lia⟩
 rw [Nat.pow_add, <- Nat.mul_assoc] at h
 have := Nat.eq_of_mul_eq_mul_right (two_pow_pos i) h
 rw [<- this]
 exact Nat.le_mul_of_pos_right _ (two_pow_pos d)
theorem Wf {x : Nat} (hx : x < 2 ^ 64) (hf : sz x < 9218868437227405312) : VV x = Pv.sqrt x := by
 unfold VV Pv.sqrt
 by_cases h0 : sz x = 0
 ·rw [if_pos h0, if_pos ((v8 x).mpr h0)]
 rw [if_neg h0, if_neg (fun z => h0 ((v8 x).mp z)), wK x hx]
 by_cases hs : sg x = 1
 ·rw [if_pos hs, if_pos (decide_eq_true hs)]
 rw [if_neg hs, if_neg (by simpa using hs)]
 dsimp only
 generalize hr : (ex x - ex x % 2 + 962) / 2 = r
 generalize hN : wh x * 2 ^ (112 + ex x % 2) = N
 have hw : 0 < wh x := Nat.pos_of_ne_zero fun z => h0 ((vX x).mp z)
 have hw2 := z5 x
 have hn : Pv.mag x * Pv.UNIT = N * (2 ^ r * 2 ^ r) := by
  rw [wY, <- hN]
  unfold Pv.UNIT
  rw [Nat.mul_assoc, Nat.mul_assoc, <- Nat.pow_add, <- Nat.pow_add, <- Nat.pow_add]
  congr 2
  lia
 rw [hn]
 unfold isqrt
 obtain ⟨g1, g2⟩ := zE N
 generalize hfN : Pv.root N = f at g1 g2
 -- how large
 have hNlo : 2 ^ 112 <= N := by
  rw [<- hN, Nat.pow_add]
  exact Nat.le_trans (Nat.le_mul_of_pos_right _ (two_pow_pos _)) (Nat.le_mul_of_pos_left _ hw)
 have hf56 : 2 ^ 56 <= f := by
  refine Nat.le_of_not_lt fun z => ?_
  have := Nat.mul_le_mul (show f + 1 <= 2 ^ 56 from z) (show f + 1 <= 2 ^ 56 from z)
  have e : (2 : Nat) ^ 56 * 2 ^ 56 = 2 ^ 112 := by decide
  lia
 -- the root of n
 obtain ⟨k1, k2⟩ := zE (N * (2 ^ r * 2 ^ r))
 generalize hR : Pv.root (N * (2 ^ r * 2 ^ r)) = R at k1 k2
 have hRlo : f * 2 ^ r <= R := by
  have : (f * 2 ^ r) * (f * 2 ^ r) < (R + 1) * (R + 1) := by
   refine Nat.lt_of_le_of_lt ?_ k2
   rw [Nat.mul_mul_mul_comm]
   exact Nat.mul_le_mul_right _ g1
  have := zH.mp this
  lia
 have hRhi : R < (f + 1) * 2 ^ r := by
  refine zH.mp (Nat.lt_of_le_of_lt k1 ?_)
  rw [Nat.mul_mul_mul_comm]
  exact Nat.mul_lt_mul_of_pos_right g2 (Nat.mul_pos (two_pow_pos r) (two_pow_pos r))
 have hRf : R / 2 ^ r = f := by
  have a : f <= R / 2 ^ r := (Nat.le_div_iff_mul_le (two_pow_pos r)).mpr hRlo
  have b : R / 2 ^ r < f + 1 := (Nat.div_lt_iff_lt_mul (two_pow_pos r)).mpr hRhi
  lia
 -- logs
 have hf0 : f ≠ 0 := by
  have := two_pow_pos 56
  lia
 generalize hlf : f.log2 = l
 have llo : 2 ^ l <= f := by rw [<- hlf]; exact zF hf0
 have lhi : f < 2 ^ (l + 1) := by rw [<- hlf]; exact wb hf0
 have hl56 : 56 <= l := by rw [<- hlf]; exact (Nat.le_log2 hf0).mpr hf56
 have hlR : R.log2 = l + r := by
  refine wX ?_ ?_
  ·rw [Nat.pow_add]
   exact Nat.le_trans (Nat.mul_le_mul_right _ llo) hRlo
  ·refine Nat.lt_of_lt_of_le hRhi ?_
   rw [show l + r + 1 = l + 1 + r by lia, Nat.pow_add]
   exact Nat.mul_le_mul_right _ lhi
 generalize hT : f * 2 + (if N = f * f then 0 else 1) = T
 have hTf : T = 2 * f \/ T = 2 * f + 1 := by rw [<- hT]; split <;> lia
 have hlT : T.log2 = l + 1 := by
  refine wX ?_ ?_
  ·rw [Nat.pow_succ]; lia
  ·rw [Nat.pow_succ, Nat.mul_comm]
   rw [Nat.pow_succ] at lhi ⊢
   lia
 have hT0 : T ≠ 0 := by lia
 have hr481 : 481 <= r := by lia
 -- both sides
 unfold Pv.rootRounded
 dsimp only
 rw [hR]
 have hap : Pv.apart R = 2 ^ (l + r - 52) := by unfold Pv.apart; rw [hlR]
 rw [hap]
 have ht : R / 2 ^ (l + r - 52) = f / 2 ^ (l - 52) := by
  rw [show l + r - 52 = r + (l - 52) by lia, Nat.pow_add, <- Nat.div_div_eq_div_mul, hRf]
 rw [ht]
 obtain ⟨h, hh⟩ : ∃ h, l - 52 = h + 1 := ⟨l - 53, by lia⟩
 -- T / 2^(l - 51) is F
 generalize hF : f / 2 ^ (l - 52) = F
 have hTF : T / 2 ^ (l - 51) = F := by
  rw [<- hF, show l - 51 = 1 + (l - 52) by lia, Nat.pow_add, <- Nat.div_div_eq_div_mul]
  congr 1
  lia
 have hFlo : 2 ^ 52 <= F := by
  rw [<- hF, Nat.le_div_iff_mul_le (two_pow_pos _), <- Nat.pow_add]
  exact Nat.le_trans (Nat.pow_le_pow_right (by decide) (by lia)) llo
 have hFhi : F < 2 ^ 53 := by
  rw [<- hF, Nat.div_lt_iff_lt_mul (two_pow_pos _), <- Nat.pow_add]
  exact Nat.lt_of_lt_of_le lhi (Nat.pow_le_pow_right (by decide) (by lia))
 -- the half
 have hc : (2 * F + 1) * (2 * F + 1) * 2 ^ (l + r - 52) * 2 ^ (l + r - 52) < 4 * (N * (2 ^ r * 2 ^ r)) ↔ (2 * F + 1) * 2 ^ h * ((2 * F + 1) * 2 ^ h) < N := by
  have e1 : (2 : Nat) ^ (l + r - 52) = 2 * (2 ^ h * 2 ^ r) := by
   rw [show l + r - 52 = (h + r) + 1 by lia, Nat.pow_succ, Nat.pow_add, Nat.mul_comm]
  rw [e1]
  have e2 : (2 * F + 1) * (2 * F + 1) * (2 * (2 ^ h * 2 ^ r)) * (2 * (2 ^ h * 2 ^ r)) = 4 * ((2 * F + 1) * 2 ^ h * ((2 * F + 1) * 2 ^ h)) * (2 ^ r * 2 ^ r) := by
   rw [show (4 : Nat) = 2 * 2 from rfl]
   ac_rfl
  rw [e2, <- Nat.mul_assoc 4 N, Nat.mul_lt_mul_right (Nat.mul_pos (two_pow_pos r) (two_pow_pos r)), Nat.mul_lt_mul_left (by decide)]
 simp only [hc]
 clear hc
 generalize hcc : (2 * F + 1) * 2 ^ h = c
 have hlt := Qu (c := c) g1 g2
 have hnt : ¬ (c = f /\ N = f * f) := by
  rintro ⟨e1, e2⟩
  rw [<- e1, <- hcc, <- hN] at e2
  have hodd : ((2 * F + 1) * (2 * F + 1)) % 2 = 1 := by
   rw [Nat.mul_mod]
   have : (2 * F + 1) % 2 = 1 := by lia
   rw [this]
  have := Q7 (o := (2 * F + 1) * (2 * F + 1)) (i := 112 + ex x % 2) (j := h + h) (w := wh x) hodd hw (by
   rw [e2, Nat.pow_add 2 h h]
   exact (Nat.mul_mul_mul_comm _ _ _ _).symm)
  have h3 : 2 ^ 53 <= 2 * F + 1 := by lia
  have := Nat.mul_le_mul h3 h3
  have e : (2 : Nat) ^ 53 <= 2 ^ 53 * 2 ^ 53 := by decide
  lia
 have hround : Pv.nearest T (2 ^ (l - 51)) = if c * c < N then F + 1 else F := by
  unfold Pv.nearest
  have r2 := Nat.div_add_mod T (2 ^ (l - 51))
  rw [hTF] at r2
  rw [hTF]
  have hp : 2 ^ (l - 51) = 4 * 2 ^ h := by
   rw [show l - 51 = h + 2 by lia, Nat.pow_add]; lia
  rw [hp] at r2 ⊢
  have e4 : 4 * 2 ^ h * F = 2 * (2 * (2 ^ h * F)) := by rw [Nat.mul_assoc]; lia
  have e5 : c = 2 * (2 ^ h * F) + 2 ^ h := by
   rw [<- hcc, Nat.add_mul, Nat.one_mul, Nat.mul_assoc, Nat.mul_comm F]
  have hTc : c * c < N ↔ 2 * c < T := by
   rw [hlt]
   constructor
   ·rintro (z | ⟨z, q⟩)
    ·lia
    ·rw [<- hT, if_neg q]; lia
   ·intro z
    by_cases q : c = f
    ·refine .inr ⟨q, fun w => ?_⟩
     rw [<- hT, if_pos w] at z
     lia
    ·left
     lia
  have hTe : ¬ (T = 2 * c) := fun z => by
   by_cases q : N = f * f
   ·rw [<- hT, if_pos q] at z
    exact hnt ⟨by lia, q⟩
   ·rw [<- hT, if_neg q] at z
    lia
  have c1 : (4 * 2 ^ h < 2 * (T % (4 * 2 ^ h)) \/ 2 * (T % (4 * 2 ^ h)) = 4 * 2 ^ h /\ F % 2 = 1) ↔ c * c < N := by
   rw [hTc]
   constructor
   ·rintro (z | ⟨z, _⟩) <;> lia
   ·intro z
    left
    lia
  simp only [c1]
 rw [<- hround]
 have hk53 : Pv.nearest T (2 ^ (l - 51)) <= 2 ^ 53 := by rw [hround]; split <;> lia
 have hk52 : 2 ^ 52 <= Pv.nearest T (2 ^ (l - 51)) := by rw [hround]; split <;> lia
 rw [uv false (l + r - 52) _ hk53 (.inr hk52)]
 unfold rnd
 rw [if_neg hT0]
 dsimp only
 rw [hlT]
 have hdrop : max (((l + 1 + 1 : Nat) : Int) - 53) (-((r : Int) - 1)) = ((l - 51 : Nat) : Int) := by lia
 have h51 : ¬ (((l - 51 : Nat) : Int) <= 0) := by lia
 rw [hdrop, if_neg h51, zV]
 have e6 : ((r : Int) - 1 + ((l - 51 : Nat) : Int)).toNat = l + r - 52 := by lia
 rw [e6, Int.toNat_natCast]
end Dm
set_option maxHeartbeats 2000000
namespace Dt
open PySem L2 L2.Ir
open Classical in
noncomputable def fn1 (P : Int -> Prop) (h : Int -> Rs (D × Bool)) : Fn
 | [.int x] => if P x then h x else .no
 | _ => .no
open Classical in
noncomputable def fn2 (P : Int -> Int -> Prop) (h : Int -> Int -> Rs (D × Bool)) : Fn
 | [.int x, .int y] => if P x y then h x y else .no
 | _ => .no
open Classical in
noncomputable def fn3 (P : Int -> Int -> Int -> Prop) (h : Int -> Int -> Int -> Rs (D × Bool)) : Fn
 | [.int x, .int y, .int z] => if P x y z then h x y z else .no
 | _ => .no
theorem vG {P : Int -> Prop} {h : Int -> Rs (D × Bool)} {x : Int} (p : P x) : fn1 P h [.int x] = h x := by unfold fn1; exact if_pos p
theorem zq {P : Int -> Int -> Prop} {h : Int -> Int -> Rs (D × Bool)} {x y : Int} (p : P x y) : fn2 P h [.int x, .int y] = h x y := by unfold fn2; exact if_pos p
theorem uo {P : Int -> Int -> Int -> Prop} {h : Int -> Int -> Int -> Rs (D × Bool)} {x y z : Int} (p : P x y z) : fn3 P h [.int x, .int y, .int z] = h x y z := by unfold fn3; exact if_pos p
theorem wF {P : Int -> Prop} {h : Int -> Rs (D × Bool)} {r : RS} {N : List Str} (q : ∀ x, P x -> res (r (sl0 N [.int x])) = h x) : ∀ ds : List D, ds.length = 1 -> fn1 P h ds = .no \/ res (r (sl0 N ds)) = fn1 P h ds := by
 intro ds hl
 match ds, hl with
 | [.int x], _ =>
  by_cases p : P x
  ·right; rw [vG p]; exact q x p
  ·left; unfold fn1; exact if_neg p
 | [.non], _ => exact .inl rfl
 | [.bl _], _ => exact .inl rfl
 | [.lst _], _ => exact .inl rfl
 | [.tup _], _ => exact .inl rfl
 | [.fn _], _ => exact .inl rfl
 | [.obj _ _ _], _ => exact .inl rfl
theorem y6 {P : Int -> Int -> Prop} {h : Int -> Int -> Rs (D × Bool)} {r : RS} {N : List Str} (q : ∀ x y, P x y -> res (r (sl0 N [.int x, .int y])) = h x y) : ∀ ds : List D, ds.length = 2 -> fn2 P h ds = .no \/ res (r (sl0 N ds)) = fn2 P h ds := by
 intro ds hl
 match ds, hl with
 | [a, b], _ =>
  cases a with
  | int x =>
   cases b with
   | int y =>
    by_cases p : P x y
    ·right; rw [zq p]; exact q x y p
    ·left; unfold fn2; exact if_neg p
   | _ => exact .inl rfl
  | _ => exact .inl rfl
theorem Vk {P : Int -> Int -> Int -> Prop} {h : Int -> Int -> Int -> Rs (D × Bool)} {r : RS} {N : List Str} (q : ∀ x y z, P x y z -> res (r (sl0 N [.int x, .int y, .int z])) = h x y z) : ∀ ds : List D, ds.length = 3 -> fn3 P h ds = .no \/ res (r (sl0 N ds)) = fn3 P h ds := by
 intro ds hl
 match ds, hl with
 | [a, b, e], _ =>
  cases a with
  | int x =>
   cases b with
   | int y =>
    cases e with
    | int z =>
     by_cases p : P x y z
     ·right; rw [uo p]; exact q x y z p
     ·left; unfold fn3; exact if_neg p
    | _ => exact .inl rfl
   | _ => exact .inl rfl
  | _ => exact .inl rfl
noncomputable def U64 (x : Int) : Prop := 0 <= x /\ x < 18446744073709551616
noncomputable instance (x : Int) : Decidable (U64 x) := inferInstanceAs (Decidable (0 <= x /\ x < 18446744073709551616))
noncomputable def Fi (x : Int) : Prop := U64 x /\ x % 9223372036854775808 < 9218868437227405312
noncomputable instance (x : Int) : Decidable (Fi x) := inferInstanceAs (Decidable (U64 x /\ x % 9223372036854775808 < 9218868437227405312))
noncomputable def iv (i : Int) : Rs (D × Bool) := .ok (.int i, false)
noncomputable def bv (b : Bool) : Rs (D × Bool) := .ok (.bl b, false)
noncomputable def qF : Fn := fn1 U64 fun x => iv (x % 9223372036854775808)
noncomputable def vp : Fn := fn1 U64 fun x => bv (decide (x % 9223372036854775808 < 9218868437227405312))
noncomputable def qG : Fn
 | [.lst xs] => match intsOf xs with
  | some ns => if ∀ n ∈ ns, U64 n then (if ∀ n ∈ ns, Fi n then .ok (.non, false) else .er "NotFinite") else .no
  | none => .no
 | _ => .no
noncomputable def w5 (a : PvCalls.Answer) : Rs (D × Bool) := match a with
 | .refused z => if z = -1 then .er "WrongCount" else if z = -2 then .er "NotFinite" else if z = -3 then .er "StepNotFinite" else if z = -4 then .er "NotAsTold" else .no
 | a => .ok (.lst ((TableNeutral.told a).tail.map D.int), true)
noncomputable abbrev WH (ns : List Int) : Prop := ∀ n ∈ ns, U64 n
noncomputable def zB : RS := (qW (qe (zJ Builtin.bitAnd) (qa 0) (qe vb (rC (.int (9223372036854775808))) (rC (.int 1)))))
noncomputable def wx : RS := (qW (qe (zl fun i j => decide (i < j)) (qg qF (qb (qa 0) qj)) (rC (.int (9218868437227405312)))))
noncomputable def vI : RS := (Ql (.one 1) 0 (sIf (uT (tBl (qg vp (qb (qa 1) qj)))) (zj "NotFinite") vB))
noncomputable abbrev Hr (r : RS) (N : List Str) (n : Nat) (g : Fn) : Prop := ∀ ds : List D, ds.length = n -> g ds = .no \/ res (r (sl0 N ds)) = g ds
theorem QM (x : Int) (h : U64 x) : res (zB (sl0 ["x"] [.int x])) = iv (x % 9223372036854775808) := by
 have e : Builtin.bitAnd x (2 ^ 63 - 1) = x % 2 ^ 63 := Bits.yu 63 h.1
 simp [zB, sl0, qW, freeze, frz, qe, qa, rC, zJ, vb, res, iv, Rs.bind]
 exact e
theorem jO : Hr zB ["x"] 1 qF := wF QM
theorem zr {x : Int} (h : U64 x) : qF [.int x] = iv (x % 9223372036854775808) := vG h
theorem uz (x : Int) (h : U64 x) : res (wx (sl0 ["x"] [.int x])) = bv (decide (x % 9223372036854775808 < 9218868437227405312)) := by
 simp [wx, sl0, qW, freeze, frz, qe, qa, rC, qg, qb, qj, zl, res, bv, iv, Rs.bind, zr h, kB]
theorem ur : Hr wx ["x"] 1 vp := wF uz
theorem yv {x : Int} (h : U64 x) : vp [.int x] = bv (decide (x % 9223372036854775808 < 9218868437227405312)) := vG h
theorem yq {tg : Tg} {body : RS} {c : Str} {good : DK -> Prop} {J : Dl -> Prop} : ∀ {xs : List DK}, (∀ x ∈ xs, ∀ δ, J δ -> ∃ δ1, tg.put x δ = some δ1 /\ (good x -> ∃ δ2, body δ1 = .nx δ2 /\ J δ2) /\ (¬ good x -> body δ1 = .er c)) ->
  ∀ δ, J δ -> ((∀ x ∈ xs, good x) -> ∃ δ', turns tg body xs δ = .nx δ' /\ J δ') /\ (¬ (∀ x ∈ xs, good x) -> turns tg body xs δ = .er c)
 | [], _, δ, j => ⟨fun _ => ⟨δ, rfl, j⟩, fun h => absurd (fun x hx => absurd hx (by simp)) h⟩
 | x :: r, st, δ, j => by
  obtain ⟨δ1, hp, h1, h2⟩ := st x (List.mem_cons_self) δ j
  have ih := yq (xs := r) fun y hy => st y (List.mem_cons_of_mem _ hy)
  by_cases g : good x
  ·obtain ⟨δ2, hb, j2⟩ := h1 g
   obtain ⟨k1, k2⟩ := ih δ2 j2
   have e : turns tg body (x :: r) δ = turns tg body r δ2 := by
    show (match tg.put x δ with | none => _ | some δ1 => _) = _
    rw [hp]
    dsimp only
    rw [hb]
   rw [e]
   exact ⟨fun h => k1 fun y hy => h y (List.mem_cons_of_mem _ hy), fun h => k2 fun q => h fun y hy => by
    rcases List.mem_cons.mp hy with rfl | hy
    ·exact g
    ·exact q y hy⟩
  ·refine ⟨fun h => absurd (h x (List.mem_cons_self)) g, fun _ => ?_⟩
   show (match tg.put x δ with | none => _ | some δ1 => _) = _
   rw [hp]
   dsimp only
   rw [h2 g]
theorem xj (ns : List Int) (h : WH ns) : res (vI (sl0 ["numbers", "x"] [.lst (ns.map .int)])) = if ∀ n ∈ ns, Fi n then Rs.ok (D.non, false) else Rs.er "NotFinite" := by
 have hs : sl0 ["numbers", "x"] [.lst (ns.map .int)] = [.val (.lst (ns.map .int)) false, .un] := rfl
 rw [hs]
 generalize hA : Sl.val (.lst (ns.map .int)) false = A
 have L1 := yq (tg := .one 1) (c := "NotFinite") (body := sIf (uT (tBl (qg vp (qb (qa 1) qj)))) (zj "NotFinite") vB)
  (good := fun x => ∃ n, x.1 = .int n /\ Fi n) (J := fun δ => ∃ s : Sl, δ = [A, s]) (xs := (ns.map D.int).map fun d => (d, Kd.sh)) (by
   rintro x hx δ ⟨s, rfl⟩
   rw [List.map_map] at hx
   obtain ⟨n, hn, rfl⟩ := List.mem_map.mp hx
   have hu := h n hn
   refine ⟨[A, .val (.int n) true], rfl, fun ⟨m, e, h1⟩ => ⟨[A, .val (.int n) true], ?_, _, rfl⟩, fun q => ?_⟩
   ·cases e
    simp [sIf, uT, tBl, qg, qb, qj, qa, Rs.bind, vB, yv hu, bv, h1.2]
   ·have h1 : ¬ n % 9223372036854775808 < 9218868437227405312 := fun z => q ⟨n, rfl, hu, z⟩
    simp [sIf, uT, tBl, qg, qb, qj, qa, Rs.bind, zj, yv hu, bv, h1]) [A, .un] ⟨.un, rfl⟩
 have g1 : (∀ x ∈ (ns.map D.int).map fun d => (d, Kd.sh), ∃ n, x.1 = .int n /\ Fi n) ↔ ∀ n ∈ ns, Fi n := by
  constructor
  ·intro q n hn
   obtain ⟨m, e, h1⟩ := q (.int n, .sh) (by rw [List.map_map]; exact List.mem_map.mpr ⟨n, hn, rfl⟩)
   cases e
   exact h1
  ·intro q x hx
   rw [List.map_map] at hx
   obtain ⟨n, hn, rfl⟩ := List.mem_map.mp hx
   exact ⟨n, rfl, q n hn⟩
 have f1 : ∀ rb, Ql (.one 1) 0 rb [A, .un] = turns (.one 1) rb ((ns.map D.int).map fun d => (d, Kd.sh)) [A, .un] := fun rb => by rw [<- hA]; rfl
 unfold vI
 rw [f1]
 by_cases c : ∀ n ∈ ns, Fi n
 ·obtain ⟨δ', e, _⟩ := L1.1 (g1.mpr c)
  rw [e, if_pos c]
  rfl
 ·rw [L1.2 (fun q => c (g1.mp q)), if_neg c]
  rfl
theorem yC : Hr vI ["numbers", "x"] 1 qG := by
 intro ds hl
 match ds, hl with
 | [.lst xs], _ =>
  unfold qG
  dsimp only
  cases e : intsOf xs with
  | none => exact .inl rfl
  | some ns =>
   dsimp only
   by_cases c : ∀ n ∈ ns, U64 n
   ·right
    rw [if_pos c]
    have q := wL e
    subst q
    rw [xj ns c]
   ·left; exact if_neg c
 | [.non], _ => exact .inl rfl
 | [.bl _], _ => exact .inl rfl
 | [.int _], _ => exact .inl rfl
 | [.tup _], _ => exact .inl rfl
 | [.fn _], _ => exact .inl rfl
 | [.obj _ _ _], _ => exact .inl rfl
theorem xi {ns : List Int} (h : WH ns) : qG [.lst (ns.map .int)] = if ∀ n ∈ ns, Fi n then Rs.ok (D.non, false) else Rs.er "NotFinite" := by
 unfold qG
 dsimp only
 rw [ints_map]
 exact if_pos h
theorem V5 {r : RE} {δ : Dl} {ds : List D} (h : r (freeze δ) = .ok (.lst ds, .fr)) : qW r δ = .rt (.lst ds) true := by unfold qW; rw [h]
theorem vC {r : RE} {δ : Dl} {d : D} (h : r (freeze δ) = .ok (d, .nw)) : qW r δ = .rt d false := by
 unfold qW
 rw [h]
 cases d <;> rfl
theorem Qi {r : RE} {δ : Dl} {c : Str} (h : r (freeze δ) = .er c) : qW r δ = .er c := by unfold qW; rw [h]
theorem qM {r : RE} {δ : Dl} {i : Nat} {d : D} {k : Kd} (h : r δ = .ok (d, k)) (c : d.sc = true) : qQ i r δ = .nx (δ.set i (.val d true)) := by
 unfold qQ
 rw [h]
 cases k <;> cases d <;> first | rfl | cases c
theorem VQ {r : RE} {δ : Dl} {x : DK} (h : r δ = .ok x) : xb r δ = .nx δ := by unfold xb; rw [h]
theorem Vj {r : RE} {δ : Dl} {c : Str} (h : r δ = .er c) : xb r δ = .er c := by unfold xb; rw [h]
theorem qy {a b : RS} {δ δ1 : Dl} (h : a δ = .nx δ1) : qR a b δ = b δ1 := by unfold qR; rw [h]; rfl
theorem zX {a b : RS} {δ : Dl} {c : Str} (h : a δ = .er c) : qR a b δ = .er c := by unfold qR; rw [h]; rfl
theorem zw {a b : RS} {δ : Dl} {d : D} {k : Bool} (h : a δ = .rt d k) : qR a b δ = .rt d k := by unfold qR; rw [h]; rfl
theorem zk {t : RT} {a b : RS} {δ : Dl} (h : t δ = .ok true) : sIf t a b δ = a δ := by unfold sIf; rw [h]; rfl
theorem Yg {t : RT} {a b : RS} {δ : Dl} (h : t δ = .ok false) : sIf t a b δ = b δ := by unfold sIf; rw [h]; rfl
theorem ql {ra : RE} {rr : RA} {δ : Dl} {x : DK} {xs : List DK} (h : ra δ = .ok x) (h2 : rr δ = .ok xs) : qb ra rr δ = .ok (x :: xs) := by unfold qb; rw [h, h2]; rfl
theorem qT {δ : Dl} : qj δ = .ok [] := rfl
theorem Qb {r : RA} {δ : Dl} {xs : List DK} (h : r δ = .ok xs) (hl : xs.length <= LIM) : zW r δ = .ok (.lst (xs.map (·.1)), kL (xs.map (·.1)) (vR xs)) := by
 unfold zW
 rw [h]
 exact if_pos hl
theorem qf {f : DK -> DK -> Rs DK} {ra rb : RE} {δ : Dl} {x y : DK} (h : ra δ = .ok x) (h2 : rb δ = .ok y) : qe f ra rb δ = f x y := by unfold qe; rw [h, h2]; rfl
theorem um {f : DK -> Rs DK} {ra : RE} {δ : Dl} {x : DK} (h : ra δ = .ok x) : rUn f ra δ = f x := by unfold rUn; rw [h]; rfl
theorem ve {g : Fn} {r : RA} {δ : Dl} {xs : List DK} (h : r δ = .ok xs) : qg g r δ = (g (xs.map (·.1))).bind fun y => .ok (y.1, kB y.2) := by unfold qg; rw [h]; rfl
theorem zM {x : Int} (k : Nat) (hk : k <= 60000) (h : x.natAbs < 2 ^ k) : few x := Nat.lt_of_lt_of_le h (Nat.pow_le_pow_right (by decide) hk)
theorem z4 {i j : Int} {k l : Kd} (hi : few i) (hj : few j) : yi (.int i, k) (.int j, l) = .ok (.int (i * j), .nw) := by
 unfold yi
 exact if_pos ⟨hi, hj⟩
theorem x6 {x : Int} (h : U64 x) : Fi x ↔ Pv.isFinite x.toNat = true := by
 rw [Dm.jU, decide_eq_true_eq]
 unfold Fi Dm.sz
 obtain ⟨a, b⟩ := h
 constructor
 ·rintro ⟨_, q⟩; lia
 ·intro q; exact ⟨⟨a, b⟩, by lia⟩
theorem uV (c : PvCalls.Call) : w5 (PvCalls.answer c) = if PvCalls.goes c = true then w5 (PvCalls.reckon c) else .er "WrongCount" := by
 unfold PvCalls.answer PvCalls.no
 cases h : PvCalls.goes c with
 | false => rfl
 | true => rfl
noncomputable abbrev LL : List (Str × Int) := [("WrongCount", 1), ("NotFinite", 2), ("StepNotFinite", 3), ("NotAsTold", 4)]
noncomputable def Few : PvCalls.Answer -> Prop
 | .refused z => z = -1 \/ z = -2 \/ z = -3 \/ z = -4
 | .row l => l.length <= 1000
 | .number _ => True
 | .rows l k => l.length <= 1000 /\ k.length <= 1000
 | .lu x p _ => x.length <= 1000 /\ p.length <= 1000
 | .told _ l => l.length <= 100000
theorem Vb {a : PvCalls.Answer} (h : Few a) : uK LL (w5 a) = some ((TableNeutral.told a).map D.int) := by
 cases a with
 | refused z => rcases h with rfl | rfl | rfl | rfl <;> rfl
 | number x => rfl
 | row l => rfl
 | rows l k => rfl
 | lu x p t => rfl
 | told e l => rfl
theorem Ve {a : PvCalls.Answer} (h : Few a) : ((TableNeutral.told a).map D.int).length <= LIM := by
 rw [List.length_map]
 show _ <= 16777216
 cases a with
 | refused z => exact Nat.le_of_ble_eq_true rfl
 | number x => exact Nat.le_of_ble_eq_true rfl
 | row l => simp only [TableNeutral.told, TableNeutral.rowN, TableNeutral.ints, List.length_cons, List.length_map]; have : l.length <= 1000 := h; lia
 | rows l k => simp only [TableNeutral.told, TableNeutral.rowN, TableNeutral.ints, List.length_cons, List.length_map, List.length_append]; have : l.length <= 1000 /\ k.length <= 1000 := h; lia
 | lu x p t => simp only [TableNeutral.told, TableNeutral.rowN, TableNeutral.ints, List.length_cons, List.length_map, List.length_append, List.length_nil]; have : x.length <= 1000 /\ p.length <= 1000 := h; lia
 | told e l => simp only [TableNeutral.told, TableNeutral.rowN, TableNeutral.ints, List.length_cons, List.length_map]; have : l.length <= 100000 := h; lia
theorem zZ {z : Int} (h : U64 z) : TableNeutral.nat z = some z.toNat := by
 unfold TableNeutral.nat
 exact if_neg (by have := h.1; lia)
theorem ZC {c : PvCalls.Call} (h : PvCalls.goes c = true -> Few (PvCalls.reckon c)) : Few (PvCalls.answer c) := by
 unfold PvCalls.answer PvCalls.no
 cases e : PvCalls.goes c with
 | false => exact .inl rfl
 | true => exact h e
open PySem.W (Codec)
theorem uc {z : Int} (h : Codec.inInt 0 18446744073709551615 z = true) : U64 z := by
 have := Codec.inInt_iff.mp h
 exact ⟨this.1, by lia⟩
theorem xa (ns : List Int) : (ns.map D.int).map Ir.toV = ns.map V.int := by
 rw [List.map_map]
 rfl
theorem wD {K : PySem.W.Frag} {C N : Addr} {nm q bs hdct sn sub ab col dd k0 k1 k2 k3 k5} (l : K.lookup C = some (excClassObj nm q C N bs vJ hdct sn sub ab col dd k0 k1 k2 k3 k5 wI)) (h1 : PySem.W.nsOkIn K N = true) (h2 : PySem.W.nsIn K N "__init__" = some none) : qI K C = true := by
 unfold qI
 rw [l]
 show ((decide (Value.ref C :: vJ = Value.ref C :: vJ) && decide (wI = wI) && (false == false)) && (PySem.W.nsOkIn K N && decide (PySem.W.nsIn K N "__init__" = some none))) = true
 rw [h1, decide_eq_true h2, decide_eq_true rfl, decide_eq_true rfl]
 rfl
theorem yK {K : PySem.W.Frag} {N : Addr} {oc od es n sl} (l : K.lookup N = some ⟨oc, od, .dict es n, sl⟩) (h : (es.toList.all fun e => match e.key with | .str _ _ => true | _ => false) = true) : PySem.W.nsOkIn K N = true := by
 unfold PySem.W.nsOkIn
 rw [l]
 show (es.all fun e => match e.key with | .str _ _ => true | _ => false) = true
 rw [<- Array.all_toList]
 exact h
theorem YR {mg : Str -> Option Value} {K : PySem.W.Frag} {C1 C2 C3 C4 : Addr} (m1 : mg "WrongCount" = some (.ref C1)) (m2 : mg "NotFinite" = some (.ref C2)) (m3 : mg "StepNotFinite" = some (.ref C3)) (m4 : mg "NotAsTold" = some (.ref C4))
  (x1 : qI K C1 = true) (x2 : qI K C2 = true) (x3 : qI K C3 = true) (x4 : qI K C4 = true) (e2 : (C2 == C1) = false) (e3 : (C3 == C1) = false) (e4 : (C3 == C2) = false) (e5 : (C4 == C1) = false) (e6 : (C4 == C2) = false) (e7 : (C4 == C3) = false)
  {c : Str} {C : Addr} {k : Int} (hC : mg c = some (.ref C)) (hl : LL.lookup c = some k) : qI K C = true /\ List.lookup C [(C1, (1 : Int)), (C2, 2), (C3, 3), (C4, 4)] = some k := by
 have key : ∀ {x : Str} {D : Addr}, c = x -> mg x = some (.ref D) -> C = D := fun {x D} e m => by
  subst e
  rw [hC] at m
  cases m
  rfl
 unfold LL at hl
 rw [List.lookup_cons] at hl
 by_cases h1 : c = "WrongCount"
 ·have z := key h1 m1
  subst h1 z
  cases hl
  exact ⟨x1, by rw [List.lookup_cons, beq_self_eq_true]⟩
 rw [beq_eq_false_iff_ne.mpr h1, List.lookup_cons] at hl
 by_cases h2 : c = "NotFinite"
 ·have z := key h2 m2
  subst h2 z
  cases hl
  exact ⟨x2, by rw [List.lookup_cons, e2, List.lookup_cons, beq_self_eq_true]⟩
 rw [beq_eq_false_iff_ne.mpr h2, List.lookup_cons] at hl
 by_cases h3 : c = "StepNotFinite"
 ·have z := key h3 m3
  subst h3 z
  cases hl
  exact ⟨x3, by rw [List.lookup_cons, e3, List.lookup_cons, e4, List.lookup_cons, beq_self_eq_true]⟩
 rw [beq_eq_false_iff_ne.mpr h3, List.lookup_cons] at hl
 by_cases h4 : c = "NotAsTold"
 ·have z := key h4 m4
  subst h4 z
  cases hl
  exact ⟨x4, by rw [List.lookup_cons, e5, List.lookup_cons, e6, List.lookup_cons, e7, List.lookup_cons, beq_self_eq_true]⟩
 rw [beq_eq_false_iff_ne.mpr h4] at hl
 cases hl
noncomputable def vj : Fn := fn1 U64 fun x => bv (decide (x % 9223372036854775808 = 0))
noncomputable def zG : RS := (qW (qe (oEq false) (qg qF (qb (qa 0) qj)) (rC (.int 0))))
theorem QA (x : Int) (h : U64 x) : res (zG (sl0 ["x"] [.int x])) = bv (decide (x % 9223372036854775808 = 0)) := by
 simp [zG, sl0, qW, freeze, frz, qe, qa, rC, qg, qb, qj, oEq, res, bv, iv, Rs.bind, zr h, kB]
theorem jK : Hr zG ["x"] 1 vj := wF QA
theorem xF {x : Int} (h : U64 x) : vj [.int x] = bv (decide (x % 9223372036854775808 = 0)) := vG h
noncomputable def asks : List Bool -> List D -> Option (List Int × List (List Int))
 | [], [] => some ([], [])
 | false :: s, .int i :: r => (asks s r).map fun x => (i :: x.1, x.2)
 | true :: s, .lst l :: r => (intsOf l).bind fun ns => (asks s r).map fun x => (x.1, ns :: x.2)
 | _, _ => none
noncomputable def unp : List Bool -> List Int -> List (List Int) -> List D
 | false :: s, i :: is, ls => .int i :: unp s is ls
 | true :: s, is, l :: ls => .lst (l.map .int) :: unp s is ls
 | _, _, _ => []
theorem yM : ∀ {sh : List Bool} {ds : List D} {is : List Int} {ls : List (List Int)}, asks sh ds = some (is, ls) -> ds = unp sh is ls /\ is.length = sh.count false /\ ls.length = sh.count true
 | [], [], _, _, h => by cases h; exact ⟨rfl, rfl, rfl⟩
 | [], _ :: _, _, _, h => nomatch h
 | false :: s, .int i :: r, is, ls, h => by
  have h : (asks s r).map (fun x => (i :: x.1, x.2)) = some (is, ls) := h
  cases e : asks s r with
  | none => rw [e] at h; cases h
  | some q =>
   rw [e] at h
   cases h
   obtain ⟨e1, e2, e3⟩ := yM (is := q.1) (ls := q.2) e
   exact ⟨by show _ = D.int i :: unp s q.1 q.2; rw [<- e1], by rw [List.length_cons, e2, List.count_cons_self], by rw [e3]; exact (List.count_cons_of_ne (by decide)).symm⟩
 | true :: s, .lst l :: r, is, ls, h => by
  have h : ((intsOf l).bind fun ns => (asks s r).map fun x => (x.1, ns :: x.2)) = some (is, ls) := h
  cases e0 : intsOf l with
  | none => rw [e0] at h; cases h
  | some ns =>
   rw [e0] at h
   have h : (asks s r).map (fun x => (x.1, ns :: x.2)) = some (is, ls) := h
   cases e : asks s r with
   | none => rw [e] at h; cases h
   | some q =>
    rw [e] at h
    cases h
    obtain ⟨e1, e2, e3⟩ := yM (is := q.1) (ls := q.2) e
    exact ⟨by show _ = D.lst (ns.map .int) :: unp s q.1 q.2; rw [<- e1, <- wL e0], by rw [e2]; exact (List.count_cons_of_ne (by decide)).symm, by rw [List.length_cons, e3, List.count_cons_self]⟩
 | false :: _, [], _, _, h => nomatch h
 | true :: _, [], _, _, h => nomatch h
 | false :: _, .non :: _, _, _, h => nomatch h
 | false :: _, .bl _ :: _, _, _, h => nomatch h
 | false :: _, .lst _ :: _, _, _, h => nomatch h
 | false :: _, .tup _ :: _, _, _, h => nomatch h
 | false :: _, .fn _ :: _, _, _, h => nomatch h
 | false :: _, .obj _ _ _ :: _, _, _, h => nomatch h
 | true :: _, .non :: _, _, _, h => nomatch h
 | true :: _, .bl _ :: _, _, _, h => nomatch h
 | true :: _, .int _ :: _, _, _, h => nomatch h
 | true :: _, .tup _ :: _, _, _, h => nomatch h
 | true :: _, .fn _ :: _, _, _, h => nomatch h
 | true :: _, .obj _ _ _ :: _, _, _, h => nomatch h
theorem yP : ∀ {sh : List Bool} {is : List Int} {ls : List (List Int)}, is.length = sh.count false -> ls.length = sh.count true -> asks sh (unp sh is ls) = some (is, ls)
 | [], [], [], _, _ => rfl
 | [], _ :: _, _, h, _ => nomatch h
 | [], [], _ :: _, _, h => nomatch h
 | false :: s, i :: is, ls, h1, h2 => by
  rw [List.length_cons, List.count_cons_self] at h1
  rw [List.count_cons_of_ne (by decide)] at h2
  show (asks s (unp s is ls)).map _ = _
  rw [yP (by lia) h2]
  rfl
 | true :: s, is, l :: ls, h1, h2 => by
  rw [List.length_cons, List.count_cons_self] at h2
  rw [List.count_cons_of_ne (by decide)] at h1
  show ((intsOf (l.map D.int)).bind fun ns => (asks s (unp s is ls)).map fun x => (x.1, ns :: x.2)) = _
  rw [ints_map, yP h1 (by lia)]
  rfl
 | false :: s, [], _, h1, _ => by rw [List.count_cons_self] at h1; cases h1
 | true :: s, _, [], _, h2 => by rw [List.count_cons_self] at h2; cases h2
noncomputable abbrev Good (is : List Int) (ls : List (List Int)) : Prop := (∀ i ∈ is, U64 i) /\ ∀ l ∈ ls, WH l /\ l.length <= 300
open Classical in
noncomputable def y2 (sh : List Bool) (F : List Int -> List (List Int) -> PvCalls.Call) : Fn := fun ds => match asks sh ds with
 | some x => if Good x.1 x.2 then w5 (PvCalls.answer (F x.1 x.2)) else .no
 | none => .no
theorem uC {sh : List Bool} {F : List Int -> List (List Int) -> PvCalls.Call} {is : List Int} {ls : List (List Int)} (h1 : is.length = sh.count false) (h2 : ls.length = sh.count true) (g : Good is ls) : y2 sh F (unp sh is ls) = w5 (PvCalls.answer (F is ls)) := by
 unfold y2
 rw [yP h1 h2]
 exact if_pos g
theorem WV {sh : List Bool} {F : List Int -> List (List Int) -> PvCalls.Call} {r : RS} {N : List Str} {n : Nat}
  (h : ∀ is ls, is.length = sh.count false -> ls.length = sh.count true -> Good is ls -> res (r (sl0 N (unp sh is ls))) = w5 (PvCalls.answer (F is ls))) : Hr r N n (y2 sh F) := by
 intro ds _
 cases e : asks sh ds with
 | none => left; unfold y2; rw [e]
 | some x =>
  obtain ⟨is, ls⟩ := x
  by_cases g : Good is ls
  ·right
   obtain ⟨e1, e2, e3⟩ := yM e
   rw [e1, h is ls e2 e3 g, uC e2 e3 g]
  ·left
   unfold y2
   rw [e]
   exact if_neg g
theorem VH {sh : List Bool} {F : List Int -> List (List Int) -> PvCalls.Call} {is : List Int} {ls : List (List Int)} {c : TableNeutral.Call} (h1 : is.length = sh.count false) (h2 : ls.length = sh.count true) (g : Good is ls) (hc : TableNeutral.callOf c = some (F is ls)) (hf : Few (PvCalls.answer (F is ls))) :
  uK LL (y2 sh F (unp sh is ls)) = some ((TableNeutral.f c).map D.int) /\ ((TableNeutral.f c).map D.int).length <= LIM := by
 have e : TableNeutral.f c = TableNeutral.told (PvCalls.answer (F is ls)) := by
  unfold TableNeutral.f
  rw [hc]
 rw [e, uC h1 h2 g]
 exact ⟨Vb hf, Ve hf⟩
theorem jC {α : Type} {l : List α} (h : l.length = 4) : ∃ a b c d, l = [a, b, c, d] := match l, h with | [a, b, c, d], _ => ⟨a, b, c, d, rfl⟩
theorem wH {m : Int} (h : U64 m) : ∃ M : Nat, m = M := ⟨m.toNat, by have := h.1; lia⟩
theorem vz {i j : Int} {k l : Kd} (h1 : 0 <= j) (h2 : j <= 60000) (h3 : few i) : vk (.int i, k) (.int j, l) = .ok (.int (i * 2 ^ j.toNat), .nw) := by
 unfold vk
 exact if_pos ⟨h1, h2, h3⟩
theorem ue {i j : Int} {k l : Kd} (h1 : 0 <= j) : yj (.int i, k) (.int j, l) = .ok (.int (i / 2 ^ j.toNat), .nw) := by
 unfold yj
 exact if_pos h1
theorem yR {f : List DK -> Rs DK} {r : RA} {δ : Dl} {xs : List DK} (h : r δ = .ok xs) : yo f r δ = f xs := by unfold yo; rw [h]; rfl
theorem qO {g : Fn} {a : RE} {δ : Dl} {x : DK} {y : D × Bool} (h : a δ = .ok x) (hg : g [x.1] = .ok y) : qg g (qb a qj) δ = .ok (y.1, kB y.2) := by rw [ve (ql h qT)]; show (g [x.1]).bind _ = _; rw [hg]; rfl
theorem z6 {i : Nat} {δ : Dl} {d : D} {k : Bool} (h : δ[i]? = some (.val d k)) (c : d.sc = true) : z3 i δ = .rt d false := by
 unfold z3
 rw [h]
 exact if_pos (.inl c)
theorem vx {r : RE} {δ : Dl} {b : Bool} {k : Kd} (h : r δ = .ok (.bl b, k)) : tBl r δ = .ok b := by unfold tBl; rw [h]; rfl
theorem jo {t : RT} {a b : RE} {δ : Dl} (h : t δ = .ok true) : xw t a b δ = a δ := by unfold xw; rw [h]; rfl
theorem jd {t : RT} {a b : RE} {δ : Dl} (h : t δ = .ok false) : xw t a b δ = b δ := by unfold xw; rw [h]; rfl
theorem uj {n : Nat} (k : Nat) (hk : k <= 60000) (h : n < 2 ^ k) : few (n : Int) := zM k hk (by rw [Int.natAbs_natCast]; exact h)
theorem WE {x : Nat} (h : x < 2 ^ 64) : U64 (x : Int) := ⟨by lia, by lia⟩
theorem vo {t : RT} {a : RS} {δ : Dl} (h : t δ = .ok false) : sIf t a vB δ = .nx δ := (Yg h).trans rfl
theorem qD {a b : Int} (h : a = b) : (Rs.ok (D.int a, Kd.nw) : Rs DK) = .ok (.int b, .nw) := by rw [h]
theorem zm {a b : Nat} : decide ((a : Int) = (b : Int)) = decide (a = b) := decide_eq_decide.mpr (by lia)
noncomputable def qu : Fn := fn1 U64 fun x => iv (Dm.sg x.toNat)
noncomputable def qt : Fn := fn1 U64 fun x => iv (Dm.wh x.toNat)
noncomputable def qA : Fn := fn1 U64 fun x => iv (Dm.sw x.toNat)
noncomputable def qm : Fn := fn1 U64 fun x => iv ((Dm.ex x.toNat : Int) - 1074)
noncomputable def vF : Fn := fn1 U64 fun x => iv (Dm.flip x.toNat)
noncomputable def zz : RS := (qW (qe yj (qa 0) (rC (.int 63))))
noncomputable def w4 : RS := (qR (qQ 1 (qe (zJ Builtin.bitAnd) (qa 0) (qe vb (qe vk (rC (.int 1)) (rC (.int (52)))) (rC (.int 1))))) (qR (sIf (tBl (qe (oEq false) (qg qF (qb (qa 0) qj)) (qa 1))) (z3 1) vB) (qW (qe vy (qa 1) (qe vk (rC (.int 1)) (rC (.int (52))))))))
noncomputable def vN : RS := (qW (xw (tBl (qe (oEq false) (qg qu (qb (qa 0) qj)) (rC (.int 1)))) (rUn QZ (qg qt (qb (qa 0) qj))) (qg qt (qb (qa 0) qj))))
noncomputable def wV : RS := (qW (qe vy (qe vb (yo jJ (qb (qe yj (qg qF (qb (qa 0) qj)) (rC (.int (52)))) (qb (rC (.int 1)) qj))) (rC (.int 1))) (rC (.int (-1074)))))
noncomputable def wZ : RS := (qW (qe (zJ Builtin.bitXor) (qa 0) (rC (.int (9223372036854775808)))))
theorem QR (x : Int) (h : U64 x) : res (zz (sl0 ["x"] [.int x])) = iv (Dm.sg x.toNat) := by
 unfold zz
 rw [vC (d := .int (Dm.sg x.toNat)) ((qf (x := (.int x, .sh)) (y := (.int 63, .nw)) rfl rfl).trans ((ue (by decide)).trans ?_))]
 ·rfl
 ·refine qD ?_
  unfold Dm.sg
  obtain ⟨X, rfl⟩ := wH h
  rw [Int.toNat_natCast, Int.natCast_ediv]
  rfl
theorem jB : Hr zz ["x"] 1 qu := wF QR
theorem vU {x : Int} (h : U64 x) : qu [.int x] = iv (Dm.sg x.toNat) := vG h
theorem jT (x : Int) (h : U64 x) : res (w4 (sl0 ["x", "fraction"] [.int x])) = iv (Dm.wh x.toNat) := by
 obtain ⟨X, rfl⟩ := wH h
 rw [Int.toNat_natCast]
 have sh1 : ∀ δ, qe vk (rC (.int 1)) (rC (.int (52))) δ = .ok (.int 4503599627370496, .nw) := fun δ => (qf (x := (.int 1, .nw)) (y := (.int 52, .nw)) rfl rfl).trans (vz (by decide) (by decide) (zM 4 (by decide) (by decide)))
 have hf : qe (zJ Builtin.bitAnd) (qa 0) (qe vb (qe vk (rC (.int 1)) (rC (.int (52)))) (rC (.int 1))) [.val (.int X) false, .un] = .ok (.int ((X % 2 ^ 52 : Nat) : Int), .nw) := by
  rw [qf (x := (.int X, .sh)) (y := (.int (4503599627370496 - 1), .nw)) rfl ((qf (sh1 _) (y := (.int 1, .nw)) rfl).trans rfl)]
  have e : Builtin.bitAnd (X : Int) (2 ^ 52 - 1) = (X : Int) % 2 ^ 52 := Bits.yu 52 h.1
  show Rs.ok (D.int (Builtin.bitAnd (X : Int) (2 ^ 52 - 1)), Kd.nw) = _
  rw [e, Int.natCast_emod]
  rfl
 unfold w4
 rw [show sl0 ["x", "fraction"] [.int (X : Int)] = [.val (.int X) false, .un] from rfl]
 rw [qy (show qQ 1 _ [.val (.int X) false, .un] = .nx [.val (.int X) false, .val (.int ((X % 2 ^ 52 : Nat) : Int)) true] from qM hf rfl)]
 have hs : qg qF (qb (qa 0) qj) [.val (.int X) false, .val (.int ((X % 2 ^ 52 : Nat) : Int)) true] = .ok (.int ((Dm.sz X : Nat) : Int), .nw) := (qO (x := (.int X, .sh)) rfl (zr h)).trans (by
  show Rs.ok (D.int ((X : Int) % 9223372036854775808), Kd.nw) = _
  unfold Dm.sz
  rw [Int.natCast_emod]
  rfl)
 have ht : tBl (qe (oEq false) (qg qF (qb (qa 0) qj)) (qa 1)) [.val (.int X) false, .val (.int ((X % 2 ^ 52 : Nat) : Int)) true] = .ok (decide (Dm.sz X = X % 2 ^ 52)) := by
  refine vx (k := .nw) ((qf (y := (.int ((X % 2 ^ 52 : Nat) : Int), .nw)) hs rfl).trans ?_)
  show Rs.ok (D.bl (decide (((Dm.sz X : Nat) : Int) = ((X % 2 ^ 52 : Nat) : Int))), Kd.nw) = _
  rw [zm]
 unfold Dm.wh
 by_cases c : Dm.sz X = X % 2 ^ 52
 ·rw [decide_eq_true c] at ht
  rw [if_pos c, zw ((zk ht).trans (z6 rfl rfl))]
  rfl
 ·rw [decide_eq_false c] at ht
  rw [if_neg c, qy (vo ht)]
  rw [vC (d := .int ((X % 2 ^ 52 + 2 ^ 52 : Nat) : Int)) ((qf (x := (.int ((X % 2 ^ 52 : Nat) : Int), .nw)) rfl (sh1 _)).trans ?_)]
  ·rfl
  ·show Rs.ok (D.int (((X % 2 ^ 52 : Nat) : Int) + 4503599627370496), Kd.nw) = _
   rw [Int.natCast_add]
   rfl
theorem uP : Hr w4 ["x", "fraction"] 1 qt := wF jT
theorem vS {x : Int} (h : U64 x) : qt [.int x] = iv (Dm.wh x.toNat) := vG h
theorem xf (x : Int) (h : U64 x) : res (vN (sl0 ["x"] [.int x])) = iv (Dm.sw x.toNat) := by
 unfold vN
 rw [show sl0 ["x"] [.int x] = [.val (.int x) false] from rfl]
 have hw : qg qt (qb (qa 0) qj) [.val (.int x) false] = .ok (.int (Dm.wh x.toNat), .nw) := qO (x := (.int x, .sh)) rfl (vS h)
 have ht : tBl (qe (oEq false) (qg qu (qb (qa 0) qj)) (rC (.int 1))) [.val (.int x) false] = .ok (decide (Dm.sg x.toNat = 1)) := by
  refine vx (k := .nw) ((qf (x := (.int (Dm.sg x.toNat), .nw)) (y := (.int 1, .nw)) (qO (x := (.int x, .sh)) rfl (vU h)) rfl).trans ?_)
  show Rs.ok (D.bl (decide (((Dm.sg x.toNat : Nat) : Int) = ((1 : Nat) : Int))), Kd.nw) = _
  rw [zm]
 unfold Dm.sw
 by_cases c : Dm.sg x.toNat = 1
 ·rw [decide_eq_true c] at ht
  rw [if_pos c, vC (d := .int (-(Dm.wh x.toNat : Int))) ((jo ht).trans ((um hw).trans rfl))]
  rfl
 ·rw [decide_eq_false c] at ht
  rw [if_neg c, vC (d := .int (Dm.wh x.toNat)) ((jd ht).trans hw)]
  rfl
theorem yx : Hr vN ["x"] 1 qA := wF xf
theorem xo {x : Int} (h : U64 x) : qA [.int x] = iv (Dm.sw x.toNat) := vG h
theorem jk (x : Int) (h : U64 x) : res (wV (sl0 ["x"] [.int x])) = iv ((Dm.ex x.toNat : Int) - 1074) := by
 obtain ⟨X, rfl⟩ := wH h
 rw [Int.toNat_natCast]
 unfold wV
 rw [show sl0 ["x"] [.int (X : Int)] = [.val (.int X) false] from rfl]
 have hs : qe yj (qg qF (qb (qa 0) qj)) (rC (.int (52))) [.val (.int X) false] = .ok (.int ((Dm.sz X / 2 ^ 52 : Nat) : Int), .nw) := (qf (x := (.int ((X : Int) % 9223372036854775808), .nw)) (y := (.int 52, .nw)) (qO (x := (.int X, .sh)) rfl (zr h)) rfl).trans ((ue (by decide)).trans (by
  refine qD ?_
  unfold Dm.sz
  rw [Int.natCast_ediv, Int.natCast_emod]
  rfl))
 have hm : yo jJ (qb (qe yj (qg qF (qb (qa 0) qj)) (rC (.int (52)))) (qb (rC (.int 1)) qj)) [.val (.int X) false] = .ok (.int ((max (Dm.sz X / 2 ^ 52) 1 : Nat) : Int), .nw) := (yR (ql hs (ql (x := (.int 1, .nw)) rfl qT))).trans (by
  show Rs.ok (D.int (if (1 : Int) > ((Dm.sz X / 2 ^ 52 : Nat) : Int) then 1 else ((Dm.sz X / 2 ^ 52 : Nat) : Int)), Kd.nw) = _
  refine qD ?_
  split <;> lia)
 have hv : qe vy (qe vb (yo jJ (qb (qe yj (qg qF (qb (qa 0) qj)) (rC (.int (52)))) (qb (rC (.int 1)) qj))) (rC (.int 1))) (rC (.int (-1074))) [.val (.int X) false] = .ok (.int ((Dm.ex X : Int) - 1074), .nw) := by
  have h1 : qe vb (yo jJ (qb (qe yj (qg qF (qb (qa 0) qj)) (rC (.int (52)))) (qb (rC (.int 1)) qj))) (rC (.int 1)) [.val (.int X) false] = .ok (.int (((max (Dm.sz X / 2 ^ 52) 1 : Nat) : Int) - 1), .nw) := (qf hm (y := (.int 1, .nw)) rfl).trans rfl
  refine (qf h1 (y := (.int (-1074), .nw)) rfl).trans ?_
  refine qD ?_
  unfold Dm.ex
  generalize Dm.sz X / 2 ^ 52 = q
  lia
 rw [vC (δ := [.val (.int X) false]) hv]
 rfl
theorem uQ : Hr wV ["x"] 1 qm := wF jk
theorem vV {x : Int} (h : U64 x) : qm [.int x] = iv ((Dm.ex x.toNat : Int) - 1074) := vG h
theorem jz (x : Int) (h : U64 x) : res (wZ (sl0 ["x"] [.int x])) = iv (Dm.flip x.toNat) := by
 obtain ⟨X, rfl⟩ := wH h
 rw [Int.toNat_natCast]
 unfold wZ
 rw [vC (d := .int (Dm.flip X)) ((qf (x := (.int (X : Int), .sh)) (y := (.int 9223372036854775808, .nw)) rfl rfl).trans ?_)]
 ·rfl
 ·show Rs.ok (D.int (Builtin.bitXor (X : Int) ((2 ^ 63 : Nat) : Int)), Kd.nw) = _
  rw [<- Dm.Q2 X (by have := h.2; lia)]
  exact qD (Bits.QP (by lia) (by decide))
theorem uS : Hr wZ ["x"] 1 vF := wF jz
theorem jx {x : Int} (h : U64 x) : vF [.int x] = iv (Dm.flip x.toNat) := vG h
noncomputable def lt2 (n k : Nat) : Prop := n < 2 ^ k
theorem lt2.few {n k : Nat} (h : lt2 n k) (hk : k <= 60000) : few (n : Int) := uj k hk h
theorem lt2.WI {i : Int} {k : Nat} (h : lt2 i.natAbs k) (hk : k <= 60000) : Ir.few i := zM k hk h
theorem lt2.mono {n m k : Nat} (h : lt2 n k) (hm : m <= n) : lt2 m k := Nat.lt_of_le_of_lt hm h
theorem lt2.up {n k l : Nat} (h : lt2 n k) (hl : k <= l) : lt2 n l := Nat.lt_of_lt_of_le h (Nat.pow_le_pow_right (by decide) hl)
theorem lt2.mul {n m k l : Nat} (h : lt2 n k) (h2 : lt2 m l) : lt2 (n * m) (k + l) := by
 unfold lt2 at *
 rw [Nat.pow_add]
 exact Nat.mul_lt_mul'' h h2
theorem lt2.add {n m k : Nat} (h : lt2 n k) (h2 : lt2 m k) : lt2 (n + m) (k + 1) := by
 unfold lt2 at *
 rw [Nat.pow_succ]
 lia
theorem lt2.pow (k : Nat) : lt2 (2 ^ k) (k + 1) := Nat.pow_lt_pow_right (by decide) (by lia)
theorem lt2.log {n k : Nat} (h : lt2 n k) (hk : 0 < k) : n.log2 < k := by
 by_cases z : n = 0
 ·rw [z, Nat.log2_zero]; exact hk
 ·exact (Nat.log2_lt z).mpr h
theorem Wu {a b : RT} {δ : Dl} {x y : Bool} (ha : a δ = .ok x) (hb : b δ = .ok y) : Vq a b δ = .ok (x || y) := by
 unfold Vq
 rw [ha, Rs.z9]
 cases x
 ·rw [if_neg (by decide), hb]; rfl
 ·rfl
theorem Vm {a b : RT} {δ : Dl} {x y : Bool} (ha : a δ = .ok x) (hb : b δ = .ok y) : uN a b δ = .ok (x && y) := by
 unfold uN
 rw [ha, Rs.z9]
 cases x
 ·rfl
 ·rw [if_pos rfl, hb]; rfl
noncomputable def qL : Fn := fn2 (fun w d => 0 <= w /\ lt2 w.natAbs 30000 /\ -9000 <= d /\ d <= 55000) fun w d => iv (if d <= 0 then w * 2 ^ (-d).toNat else (Dm.nw w.toNat d.toNat : Int))
noncomputable def vD : RS := (qR (sIf (tBl (qe (zl fun i j => decide (i <= j)) (qa 1) (rC (.int 0)))) (qW (qe vk (qa 0) (rUn QZ (qa 1)))) vB) (qR (qQ 2 (qe yj (qa 0) (qa 1))) (qR (qQ 3 (qe vb (qa 0) (qe vk (qa 2) (qa 1)))) (qR (qQ 4 (qe vk (rC (.int 1)) (qe vb (qa 1) (rC (.int 1))))) (qR (sIf (Vq (tBl (qe (zl fun i j => decide (j < i)) (qa 3) (qa 4))) (uN (tBl (qe (oEq false) (qa 3) (qa 4))) (tBl (qe (oEq false) (qe oMod (qa 2) (rC (.int 2))) (rC (.int 1)))))) (qW (qe vy (qa 2) (rC (.int 1)))) vB) (z3 2))))))
theorem yE (w d : Int) (h : 0 <= w /\ lt2 w.natAbs 30000 /\ -9000 <= d /\ d <= 55000) : res (vD (sl0 ["whole", "drop", "kept", "left", "half"] [.int w, .int d])) = iv (if d <= 0 then w * 2 ^ (-d).toNat else (Dm.nw w.toNat d.toNat : Int)) := by
 obtain ⟨h0, hw, hd1, hd2⟩ := h
 obtain ⟨W, rfl⟩ : ∃ W : Nat, w = W := ⟨w.toNat, by lia⟩
 rw [Int.natAbs_natCast] at hw
 unfold vD
 rw [show sl0 ["whole", "drop", "kept", "left", "half"] [.int (W : Int), .int d] = [.val (.int W) false, .val (.int d) false, .un, .un, .un] from rfl]
 have ht : tBl (qe (zl fun i j => decide (i <= j)) (qa 1) (rC (.int 0))) [.val (.int W) false, .val (.int d) false, .un, .un, .un] = .ok (decide (d <= 0)) := vx (k := .nw) ((qf (x := (.int d, .sh)) (y := (.int 0, .nw)) rfl rfl).trans rfl)
 by_cases c : d <= 0
 ·rw [decide_eq_true c] at ht
  rw [if_pos c]
  have hv : qe vk (qa 0) (rUn QZ (qa 1)) [.val (.int W) false, .val (.int d) false, .un, .un, .un] = .ok (.int ((W : Int) * 2 ^ (-d).toNat), .nw) := (qf (x := (.int W, .sh)) (y := (.int (-d), .nw)) rfl ((um (x := (.int d, .sh)) rfl).trans rfl)).trans (vz (by lia) (by lia) (hw.few (by decide)))
  rw [zw ((zk ht).trans (vC (δ := [.val (.int W) false, .val (.int d) false, .un, .un, .un]) hv))]
  rfl
 ·rw [decide_eq_false c] at ht
  rw [if_neg c, Int.toNat_natCast]
  obtain ⟨K, rfl⟩ : ∃ K : Nat, d = K := ⟨d.toNat, by lia⟩
  rw [Int.toNat_natCast]
  rw [qy (vo ht)]
  have e2 : qe yj (qa 0) (qa 1) [.val (.int W) false, .val (.int K) false, .un, .un, .un] = .ok (.int ((W / 2 ^ K : Nat) : Int), .nw) := (qf (x := (.int W, .sh)) (y := (.int K, .sh)) rfl rfl).trans ((ue (by lia)).trans (qD (by rw [Int.toNat_natCast, Int.natCast_ediv, Int.natCast_pow]; rfl)))
  rw [qy (show qQ 2 _ [.val (.int W) false, .val (.int K) false, .un, .un, .un] = .nx [.val (.int W) false, .val (.int K) false, .val (.int ((W / 2 ^ K : Nat) : Int)) true, .un, .un] from qM e2 rfl)]
  have hdiv : W / 2 ^ K <= W := Nat.div_le_self _ _
  have hmulle : W / 2 ^ K * 2 ^ K <= W := Nat.div_mul_le_self _ _
  have e3 : qe vb (qa 0) (qe vk (qa 2) (qa 1)) [.val (.int W) false, .val (.int K) false, .val (.int ((W / 2 ^ K : Nat) : Int)) true, .un, .un] = .ok (.int ((W - W / 2 ^ K * 2 ^ K : Nat) : Int), .nw) := by
   have q : qe vk (qa 2) (qa 1) [.val (.int W) false, .val (.int K) false, .val (.int ((W / 2 ^ K : Nat) : Int)) true, .un, .un] = .ok (.int ((W / 2 ^ K * 2 ^ K : Nat) : Int), .nw) := (qf (x := (.int ((W / 2 ^ K : Nat) : Int), .nw)) (y := (.int K, .sh)) rfl rfl).trans ((vz (by lia) (by lia) ((hw.mono hdiv).few (by decide))).trans (qD (by rw [Int.toNat_natCast, Int.natCast_mul, Int.natCast_pow]; rfl)))
   exact (qf (x := (.int W, .sh)) rfl q).trans (qD (by rw [Int.natCast_sub hmulle]))
  rw [qy (show qQ 3 _ _ = .nx [.val (.int W) false, .val (.int K) false, .val (.int ((W / 2 ^ K : Nat) : Int)) true, .val (.int ((W - W / 2 ^ K * 2 ^ K : Nat) : Int)) true, .un] from qM e3 rfl)]
  have e4 : qe vk (rC (.int 1)) (qe vb (qa 1) (rC (.int 1))) [.val (.int W) false, .val (.int K) false, .val (.int ((W / 2 ^ K : Nat) : Int)) true, .val (.int ((W - W / 2 ^ K * 2 ^ K : Nat) : Int)) true, .un] = .ok (.int ((2 ^ (K - 1) : Nat) : Int), .nw) := (qf (x := (.int 1, .nw)) (y := (.int ((K : Int) - 1), .nw)) rfl ((qf (x := (.int K, .sh)) (y := (.int 1, .nw)) rfl rfl).trans rfl)).trans ((vz (by lia) (by lia) (zM 4 (by decide) (by decide))).trans (qD (by rw [show ((K : Int) - 1).toNat = K - 1 by lia, Int.natCast_pow, Int.one_mul]; rfl)))
  rw [qy (show qQ 4 _ _ = .nx [.val (.int W) false, .val (.int K) false, .val (.int ((W / 2 ^ K : Nat) : Int)) true, .val (.int ((W - W / 2 ^ K * 2 ^ K : Nat) : Int)) true, .val (.int ((2 ^ (K - 1) : Nat) : Int)) true] from qM e4 rfl)]
  unfold Dm.nw
  rw [if_neg (show ¬ K = 0 by lia)]
  generalize W / 2 ^ K * 2 ^ K = u at *
  generalize W / 2 ^ K = kept at *
  generalize 2 ^ (K - 1) = half at *
  generalize W - u = left at *
  have tt : Vq (tBl (qe (zl fun i j => decide (j < i)) (qa 3) (qa 4))) (uN (tBl (qe (oEq false) (qa 3) (qa 4))) (tBl (qe (oEq false) (qe oMod (qa 2) (rC (.int 2))) (rC (.int 1))))) [.val (.int W) false, .val (.int K) false, .val (.int kept) true, .val (.int left) true, .val (.int half) true] = .ok (decide (half < left) || (decide (left = half) && decide (kept % 2 = 1))) := by
   refine Wu (vx (k := .nw) ((qf (x := (.int left, .nw)) (y := (.int half, .nw)) rfl rfl).trans ?_)) (Vm (vx (k := .nw) ((qf (x := (.int left, .nw)) (y := (.int half, .nw)) rfl rfl).trans ?_)) (vx (k := .nw) ((qf (x := (.int ((kept : Int) % 2), .nw)) (y := (.int 1, .nw)) ((qf (x := (.int kept, .nw)) (y := (.int 2, .nw)) rfl rfl).trans rfl) rfl).trans ?_)))
   ·show Rs.ok (D.bl (decide ((half : Int) < left)), Kd.nw) = _
    rw [show decide ((half : Int) < left) = decide (half < left) from decide_eq_decide.mpr (by lia)]
   ·show Rs.ok (D.bl (decide ((left : Int) = half)), Kd.nw) = _
    rw [zm]
   ·show Rs.ok (D.bl (decide ((kept : Int) % 2 = 1)), Kd.nw) = _
    rw [show decide ((kept : Int) % 2 = 1) = decide (kept % 2 = 1) from decide_eq_decide.mpr (by lia)]
  by_cases cc : half < left \/ (left = half /\ kept % 2 = 1)
  ·have tb : (decide (half < left) || (decide (left = half) && decide (kept % 2 = 1))) = true := by
    rw [Bool.or_eq_true, Bool.and_eq_true, decide_eq_true_eq, decide_eq_true_eq, decide_eq_true_eq]; exact cc
   rw [tb] at tt
   rw [if_pos cc]
   have hv : qe vy (qa 2) (rC (.int 1)) [.val (.int W) false, .val (.int K) false, .val (.int kept) true, .val (.int left) true, .val (.int half) true] = .ok (.int ((kept + 1 : Nat) : Int), .nw) := (qf (x := (.int kept, .nw)) (y := (.int 1, .nw)) rfl rfl).trans (qD (by lia))
   rw [zw ((zk tt).trans (vC (δ := [.val (.int W) false, .val (.int K) false, .val (.int kept) true, .val (.int left) true, .val (.int half) true]) hv))]
   rfl
  ·have tb : (decide (half < left) || (decide (left = half) && decide (kept % 2 = 1))) = false := by
    rw [Bool.eq_false_iff]
    intro z
    rw [Bool.or_eq_true, Bool.and_eq_true, decide_eq_true_eq, decide_eq_true_eq, decide_eq_true_eq] at z
    exact cc z
   rw [tb] at tt
   rw [if_neg cc, qy (vo tt), z6 (δ := [.val (.int W) false, .val (.int K) false, .val (.int kept) true, .val (.int left) true, .val (.int half) true]) (d := .int kept) (k := true) rfl rfl]
   rfl
theorem yf : Hr vD ["whole", "drop", "kept", "left", "half"] 2 qL := y6 yE
theorem yF {w d : Int} (h : 0 <= w /\ lt2 w.natAbs 30000 /\ -9000 <= d /\ d <= 55000) : qL [.int w, .int d] = iv (if d <= 0 then w * 2 ^ (-d).toNat else (Dm.nw w.toNat d.toNat : Int)) := zq h
noncomputable def qE : Option Nat -> Rs (D × Bool)
 | some r => iv r
 | none => .er "StepNotFinite"
noncomputable def qN : Fn := fn3 (fun s w p => (s = 0 \/ s = 1) /\ 0 <= w /\ lt2 w.natAbs 20000 /\ -8000 <= p /\ p <= 8000) fun s w p => qE (Dm.rnd (decide (s = 1)) w.toNat (p + 1074))
noncomputable def zA : RS := (qR (sIf (tBl (qe (oEq false) (qa 1) (rC (.int 0)))) (qW (qe vk (qa 0) (rC (.int 63)))) vB) (qR (qQ 3 (yo jJ (qb (qe vb (qe vb (rUn oBits (qa 1)) (rC (.int (52)))) (rC (.int 1))) (qb (qe vb (rC (.int (-1074))) (qa 2)) qj)))) (qR (qQ 4 (qg qL (qb (qa 1) (qb (qa 3) qj)))) (qR (qQ 5 (qe vy (qe vk (qe vb (qe vy (qa 2) (qa 3)) (rC (.int (-1074)))) (rC (.int (52)))) (qa 4))) (qR (sIf (tBl (qe (zl fun i j => decide (j <= i)) (qa 5) (rC (.int (9218868437227405312))))) (zj "StepNotFinite") vB) (qW (qe vy (qe vk (qa 0) (rC (.int 63))) (qa 5))))))))
theorem Qy (s w p : Int) (h : (s = 0 \/ s = 1) /\ 0 <= w /\ lt2 w.natAbs 20000 /\ -8000 <= p /\ p <= 8000) : res (zA (sl0 ["sign", "whole", "power", "drop", "kept", "size"] [.int s, .int w, .int p])) = qE (Dm.rnd (decide (s = 1)) w.toNat (p + 1074)) := by
 obtain ⟨hs, h0, hw, hp1, hp2⟩ := h
 obtain ⟨W, rfl⟩ : ∃ W : Nat, w = W := ⟨w.toNat, by lia⟩
 rw [Int.natAbs_natCast] at hw
 unfold zA
 rw [show sl0 ["sign", "whole", "power", "drop", "kept", "size"] [.int s, .int (W : Int), .int p] = [.val (.int s) false, .val (.int W) false, .val (.int p) false, .un, .un, .un] from rfl]
 rw [Int.toNat_natCast]
 have hsg : s * 2 ^ 63 = ((if decide (s = 1) = true then 2 ^ 63 else 0 : Nat) : Int) := by rcases hs with rfl | rfl <;> rfl
 have fs : few s := zM 4 (by decide) (by rcases hs with rfl | rfl <;> decide)
 have ht : tBl (qe (oEq false) (qa 1) (rC (.int 0))) [.val (.int s) false, .val (.int W) false, .val (.int p) false, .un, .un, .un] = .ok (decide (W = 0)) := vx (k := .nw) ((qf (x := (.int W, .sh)) (y := (.int 0, .nw)) rfl rfl).trans (by
  show Rs.ok (D.bl (decide ((W : Int) = ((0 : Nat) : Int))), Kd.nw) = _
  rw [zm]))
 unfold Dm.rnd
 by_cases c : W = 0
 ·rw [decide_eq_true c] at ht
  rw [if_pos c]
  have hv : qe vk (qa 0) (rC (.int 63)) [.val (.int s) false, .val (.int W) false, .val (.int p) false, .un, .un, .un] = .ok (.int ((if decide (s = 1) = true then 2 ^ 63 else 0 : Nat) : Int), .nw) := (qf (x := (.int s, .sh)) (y := (.int 63, .nw)) rfl rfl).trans ((vz (by decide) (by decide) fs).trans (qD hsg))
  rw [zw ((zk ht).trans (vC (δ := [.val (.int s) false, .val (.int W) false, .val (.int p) false, .un, .un, .un]) hv))]
  rfl
 ·rw [decide_eq_false c] at ht
  rw [if_neg c, qy (vo ht)]
  have hlog : W.log2 < 20000 := hw.log (by decide)
  obtain ⟨d, hd⟩ : ∃ d : Int, d = max (((W.log2 + 1 : Nat) : Int) - 53) (-(p + 1074)) := ⟨_, rfl⟩
  rw [<- hd]
  show _ = qE (if 9218868437227405312 <= (p + 1074 + d).toNat * 2 ^ 52 + (if d <= 0 then W * 2 ^ (-d).toNat else Dm.nw W d.toNat) then none else some ((if decide (s = 1) = true then 2 ^ 63 else 0) + ((p + 1074 + d).toNat * 2 ^ 52 + (if d <= 0 then W * 2 ^ (-d).toNat else Dm.nw W d.toNat))))
  have hd1 : -9000 <= d /\ d <= 55000 := by lia
  have e3 : yo jJ (qb (qe vb (qe vb (rUn oBits (qa 1)) (rC (.int (52)))) (rC (.int 1))) (qb (qe vb (rC (.int (-1074))) (qa 2)) qj)) [.val (.int s) false, .val (.int W) false, .val (.int p) false, .un, .un, .un] = .ok (.int d, .nw) := by
   have b1 : rUn oBits (qa 1) [.val (.int s) false, .val (.int W) false, .val (.int p) false, .un, .un, .un] = .ok (.int ((W.log2 + 1 : Nat) : Int), .nw) := (um (x := (.int W, .sh)) rfl).trans (qD (by
    rw [if_neg (by lia), Int.natAbs_natCast]))
   have b2 : qe vb (qe vb (rUn oBits (qa 1)) (rC (.int (52)))) (rC (.int 1)) [.val (.int s) false, .val (.int W) false, .val (.int p) false, .un, .un, .un] = .ok (.int (((W.log2 + 1 : Nat) : Int) - 52 - 1), .nw) := (qf (y := (.int 1, .nw)) ((qf b1 (y := (.int 52, .nw)) rfl).trans rfl) rfl).trans rfl
   have b3 : qe vb (rC (.int (-1074))) (qa 2) [.val (.int s) false, .val (.int W) false, .val (.int p) false, .un, .un, .un] = .ok (.int (-1074 - p), .nw) := (qf (x := (.int (-1074), .nw)) (y := (.int p, .sh)) rfl rfl).trans rfl
   refine (yR (ql b2 (ql b3 qT))).trans ?_
   show Rs.ok (D.int (if (-1074 - p) > ((W.log2 + 1 : Nat) : Int) - 52 - 1 then -1074 - p else ((W.log2 + 1 : Nat) : Int) - 52 - 1), Kd.nw) = _
   refine qD ?_
   rw [hd]
   split <;> lia
  rw [qy (show qQ 3 _ _ = .nx [.val (.int s) false, .val (.int W) false, .val (.int p) false, .val (.int d) true, .un, .un] from qM e3 rfl)]
  obtain ⟨kept, hk⟩ : ∃ kept : Nat, kept = if d <= 0 then W * 2 ^ (-d).toNat else Dm.nw W d.toNat := ⟨_, rfl⟩
  rw [<- hk]
  have e4 : qg qL (qb (qa 1) (qb (qa 3) qj)) [.val (.int s) false, .val (.int W) false, .val (.int p) false, .val (.int d) true, .un, .un] = .ok (.int kept, .nw) := by
   rw [ve (ql (x := (.int W, .sh)) rfl (ql (x := (.int d, .nw)) rfl qT))]
   show (qL [.int W, .int d]).bind _ = _
   rw [yF ⟨by lia, by rw [Int.natAbs_natCast]; exact hw.up (by decide), hd1.1, hd1.2⟩]
   show Rs.ok (D.int (if d <= 0 then (W : Int) * 2 ^ (-d).toNat else (Dm.nw (W : Int).toNat d.toNat : Int)), Kd.nw) = _
   refine qD ?_
   rw [hk, Int.toNat_natCast]
   split
   ·rw [Int.natCast_mul, Int.natCast_pow]; rfl
   ·rfl
  rw [qy (show qQ 4 _ _ = .nx [.val (.int s) false, .val (.int W) false, .val (.int p) false, .val (.int d) true, .val (.int kept) true, .un] from qM e4 rfl)]
  obtain ⟨E, hE⟩ : ∃ E : Nat, (E : Int) = p + 1074 + d := ⟨(p + 1074 + d).toNat, by lia⟩
  rw [<- hE, Int.toNat_natCast]
  have hEs : E < 2 ^ 20 := by lia
  have e5 : qe vy (qe vk (qe vb (qe vy (qa 2) (qa 3)) (rC (.int (-1074)))) (rC (.int (52)))) (qa 4) [.val (.int s) false, .val (.int W) false, .val (.int p) false, .val (.int d) true, .val (.int kept) true, .un] = .ok (.int ((E * 2 ^ 52 + kept : Nat) : Int), .nw) := by
   have b1 : qe vb (qe vy (qa 2) (qa 3)) (rC (.int (-1074))) [.val (.int s) false, .val (.int W) false, .val (.int p) false, .val (.int d) true, .val (.int kept) true, .un] = .ok (.int E, .nw) := (qf (x := (.int (p + d), .nw)) (y := (.int (-1074), .nw)) ((qf (x := (.int p, .sh)) (y := (.int d, .nw)) rfl rfl).trans rfl) rfl).trans (qD (by lia))
   have b2 : qe vk (qe vb (qe vy (qa 2) (qa 3)) (rC (.int (-1074)))) (rC (.int (52))) [.val (.int s) false, .val (.int W) false, .val (.int p) false, .val (.int d) true, .val (.int kept) true, .un] = .ok (.int ((E * 2 ^ 52 : Nat) : Int), .nw) := (qf b1 (y := (.int 52, .nw)) rfl).trans ((vz (by decide) (by decide) (uj 20 (by decide) hEs)).trans (qD (by rw [Int.natCast_mul]; rfl)))
   exact (qf b2 (y := (.int kept, .nw)) rfl).trans (qD (by rw [Int.natCast_add]))
  generalize E * 2 ^ 52 + kept = size at *
  rw [qy (show qQ 5 _ _ = .nx [.val (.int s) false, .val (.int W) false, .val (.int p) false, .val (.int d) true, .val (.int kept) true, .val (.int size) true] from qM e5 rfl)]
  have ht2 : tBl (qe (zl fun i j => decide (j <= i)) (qa 5) (rC (.int (9218868437227405312)))) [.val (.int s) false, .val (.int W) false, .val (.int p) false, .val (.int d) true, .val (.int kept) true, .val (.int size) true] = .ok (decide (9218868437227405312 <= size)) := vx (k := .nw) ((qf (x := (.int size, .nw)) (y := (.int 9218868437227405312, .nw)) rfl rfl).trans (by
   show Rs.ok (D.bl (decide ((9218868437227405312 : Int) <= size)), Kd.nw) = _
   rw [show decide ((9218868437227405312 : Int) <= size) = decide (9218868437227405312 <= size) from decide_eq_decide.mpr (by lia)]))
  by_cases c2 : 9218868437227405312 <= size
  ·rw [decide_eq_true c2] at ht2
   rw [if_pos c2, zX ((zk ht2).trans rfl)]
   rfl
  ·rw [decide_eq_false c2] at ht2
   rw [if_neg c2, qy (vo ht2)]
   have hv : qe vy (qe vk (qa 0) (rC (.int 63))) (qa 5) [.val (.int s) false, .val (.int W) false, .val (.int p) false, .val (.int d) true, .val (.int kept) true, .val (.int size) true] = .ok (.int (((if decide (s = 1) = true then 2 ^ 63 else 0) + size : Nat) : Int), .nw) := by
    have b1 : qe vk (qa 0) (rC (.int 63)) [.val (.int s) false, .val (.int W) false, .val (.int p) false, .val (.int d) true, .val (.int kept) true, .val (.int size) true] = .ok (.int ((if decide (s = 1) = true then 2 ^ 63 else 0 : Nat) : Int), .nw) := (qf (x := (.int s, .sh)) (y := (.int 63, .nw)) rfl rfl).trans ((vz (by decide) (by decide) fs).trans (qD hsg))
    exact (qf b1 (y := (.int size, .nw)) rfl).trans (qD (by rw [Int.natCast_add]))
   rw [vC (δ := [.val (.int s) false, .val (.int W) false, .val (.int p) false, .val (.int d) true, .val (.int kept) true, .val (.int size) true]) hv]
   rfl
theorem jq : Hr zA ["sign", "whole", "power", "drop", "kept", "size"] 3 qN := Vk Qy
theorem yd {s w p : Int} (h : (s = 0 \/ s = 1) /\ 0 <= w /\ lt2 w.natAbs 20000 /\ -8000 <= p /\ p <= 8000) : qN [.int s, .int w, .int p] = qE (Dm.rnd (decide (s = 1)) w.toNat (p + 1074)) := uo h
noncomputable abbrev U3 (x y z : Int) : Prop := U64 x /\ U64 y /\ U64 z
noncomputable abbrev U2 (x y : Int) : Prop := U64 x /\ U64 y
noncomputable def wd : Fn := fn3 U3 fun x y z => qE (Pv.fused x.toNat y.toNat z.toNat)
noncomputable def wQ : Fn := fn2 U2 fun x y => qE (Pv.add x.toNat y.toNat)
noncomputable def zu : Fn := fn2 U2 fun x y => qE (Pv.sub x.toNat y.toNat)
noncomputable def wg : Fn := fn2 U2 fun x y => qE (Pv.mul x.toNat y.toNat)
noncomputable def yQ : RS := (qR (qQ 3 (qe vy (qg qm (qb (qa 0) qj)) (qg qm (qb (qa 1) qj)))) (qR (qQ 4 (yo ZU (qb (qa 3) (qb (qg qm (qb (qa 2) qj)) qj)))) (qR (qQ 5 (qe vk (qe yi (qg qA (qb (qa 0) qj)) (qg qA (qb (qa 1) qj))) (qe vb (qa 3) (qa 4)))) (qR (qQ 6 (qe vy (qa 5) (qe vk (qg qA (qb (qa 2) qj)) (qe vb (qg qm (qb (qa 2) qj)) (qa 4))))) (qR (sIf (tBl (qe (oEq false) (qa 6) (rC (.int 0)))) (qW (qe vk (qe (zJ Builtin.bitAnd) (qe (zJ Builtin.bitXor) (qg qu (qb (qa 0) qj)) (qg qu (qb (qa 1) qj))) (qg qu (qb (qa 2) qj))) (rC (.int 63)))) vB) (qW (qg qN (qb (xw (tBl (qe (zl fun i j => decide (i < j)) (qa 6) (rC (.int 0)))) (rC (.int 1)) (rC (.int 0))) (qb (yo Wz (qb (qa 6) qj)) (qb (qa 4) qj))))))))))
noncomputable def xZ : RS := (qW (qg wd (qb (qa 0) (qb (rC (.int (4607182418800017408))) (qb (qa 1) qj)))))
noncomputable def yO : RS := (qW (qg wQ (qb (qa 0) (qb (qg vF (qb (qa 1) qj)) qj))))
noncomputable def zD : RS := (qW (qg qN (qb (qe (zJ Builtin.bitXor) (qg qu (qb (qa 0) qj)) (qg qu (qb (qa 1) qj))) (qb (qe yi (qg qt (qb (qa 0) qj)) (qg qt (qb (qa 1) qj))) (qb (qe vy (qg qm (qb (qa 0) qj)) (qg qm (qb (qa 1) qj))) qj)))))
theorem jy {p : Prop} [Decidable p] : decide ((if p then (1 : Int) else 0) = 1) = decide p := by by_cases h : p <;> simp [h]
theorem wk {r : RE} {δ : Dl} {o : Option Nat} (h : r δ = (qE o).bind fun y => .ok (y.1, kB y.2)) (hf : freeze δ = δ := by rfl) : res (qW r δ) = qE o := by
 cases o with
 | none => rw [Qi (c := "StepNotFinite") (by rw [hf, h]; rfl)]; rfl
 | some v => rw [vC (d := .int v) (by rw [hf, h]; rfl)]; rfl
theorem yt {x : Nat} (h : x < 2 ^ 64) : Dm.ex x <= 2046 := by
 unfold Dm.ex Dm.sz
 lia
theorem y7 {x : Nat} (h : x < 2 ^ 64) : Dm.sg x = 0 \/ Dm.sg x = 1 := by
 unfold Dm.sg
 lia
theorem Vg (x : Nat) : lt2 (Dm.sw x).natAbs 53 := by
 unfold Dm.sw
 split
 ·rw [Int.natAbs_neg, Int.natAbs_natCast]; exact Dm.z5 x
 ·rw [Int.natAbs_natCast]; exact Dm.z5 x
theorem zt {X : Nat} (h : U64 (X : Int)) : X < 2 ^ 64 := by have := h.2; lia
theorem WN (x y z : Int) (h : U3 x y z) : res (yQ (sl0 ["x", "y", "z", "power", "low", "product_part", "total"] [.int x, .int y, .int z])) = qE (Pv.fused x.toNat y.toNat z.toNat) := by
 obtain ⟨hx, hy, hz⟩ := h
 obtain ⟨X, rfl⟩ := wH hx
 obtain ⟨Y, rfl⟩ := wH hy
 obtain ⟨Z, rfl⟩ := wH hz
 have lx := zt hx
 have ly := zt hy
 have lz := zt hz
 rw [Int.toNat_natCast, Int.toNat_natCast, Int.toNat_natCast, <- Dm.yV lx ly lz]
 unfold yQ
 rw [show sl0 ["x", "y", "z", "power", "low", "product_part", "total"] [.int (X : Int), .int (Y : Int), .int (Z : Int)] = [.val (.int X) false, .val (.int Y) false, .val (.int Z) false, .un, .un, .un, .un] from rfl]
 have pw : ∀ {i : Nat} {V : Nat} {δ : Dl} {k : Kd}, U64 (V : Int) -> qa i δ = .ok (.int V, k) -> qg qm (qb (qa i) qj) δ = .ok (.int ((Dm.ex V : Int) - 1074), .nw) := fun {i V δ k} u e => (qO e (vV u)).trans rfl
 have sww : ∀ {i : Nat} {V : Nat} {δ : Dl} {k : Kd}, U64 (V : Int) -> qa i δ = .ok (.int V, k) -> qg qA (qb (qa i) qj) δ = .ok (.int (Dm.sw V), .nw) := fun {i V δ k} u e => (qO e (xo u)).trans rfl
 have sgg : ∀ {i : Nat} {V : Nat} {δ : Dl} {k : Kd}, U64 (V : Int) -> qa i δ = .ok (.int V, k) -> qg qu (qb (qa i) qj) δ = .ok (.int (Dm.sg V), .nw) := fun {i V δ k} u e => (qO e (vU u)).trans rfl
 obtain ⟨P, hP⟩ : ∃ P : Int, P = (Dm.ex X : Int) + Dm.ex Y - 2148 := ⟨_, rfl⟩
 obtain ⟨Q, hQ⟩ : ∃ Q : Int, Q = (Dm.ex Z : Int) - 1074 := ⟨_, rfl⟩
 obtain ⟨L, hL⟩ : ∃ L : Int, L = min P Q := ⟨_, rfl⟩
 have bx := yt lx
 have by_ := yt ly
 have bz := yt lz
 obtain ⟨T, hT⟩ : ∃ T : Int, T = Dm.sw X * Dm.sw Y * 2 ^ (P - L).toNat + Dm.sw Z * 2 ^ (Q - L).toNat := ⟨_, rfl⟩
 have hm : Dm.xU X Y Z = if T = 0 then some (if (Dm.sg X ≠ Dm.sg Y) /\ Dm.sg Z = 1 then 2 ^ 63 else 0) else Dm.rnd (decide (T < 0)) T.natAbs (L + 1074) := by
  rw [hT, hL, hP, hQ]
  rfl
 rw [hm]
 have e3 : qe vy (qg qm (qb (qa 0) qj)) (qg qm (qb (qa 1) qj)) [.val (.int X) false, .val (.int Y) false, .val (.int Z) false, .un, .un, .un, .un] = .ok (.int P, .nw) := (qf (pw hx rfl) (pw hy rfl)).trans (qD (by rw [hP]; lia))
 rw [qy (show qQ 3 _ _ = .nx [.val (.int X) false, .val (.int Y) false, .val (.int Z) false, .val (.int P) true, .un, .un, .un] from qM e3 rfl)]
 have e4 : yo ZU (qb (qa 3) (qb (qg qm (qb (qa 2) qj)) qj)) [.val (.int X) false, .val (.int Y) false, .val (.int Z) false, .val (.int P) true, .un, .un, .un] = .ok (.int L, .nw) := (yR (ql (x := (.int P, .nw)) rfl (ql (pw hz rfl) qT))).trans (by
  show Rs.ok (D.int (if (Dm.ex Z : Int) - 1074 < P then (Dm.ex Z : Int) - 1074 else P), Kd.nw) = _
  refine qD ?_
  rw [hL, hQ]
  split <;> lia)
 rw [qy (show qQ 4 _ _ = .nx [.val (.int X) false, .val (.int Y) false, .val (.int Z) false, .val (.int P) true, .val (.int L) true, .un, .un] from qM e4 rfl)]
 have fx := Vg X
 have fy := Vg Y
 have fz := Vg Z
 have fxy : lt2 (Dm.sw X * Dm.sw Y).natAbs 106 := by rw [Int.natAbs_mul]; exact fx.mul fy
 have e5 : qe vk (qe yi (qg qA (qb (qa 0) qj)) (qg qA (qb (qa 1) qj))) (qe vb (qa 3) (qa 4)) [.val (.int X) false, .val (.int Y) false, .val (.int Z) false, .val (.int P) true, .val (.int L) true, .un, .un] = .ok (.int (Dm.sw X * Dm.sw Y * 2 ^ (P - L).toNat), .nw) :=
  (qf (x := (.int (Dm.sw X * Dm.sw Y), .nw)) (y := (.int (P - L), .nw)) ((qf (sww hx rfl) (sww hy rfl)).trans (z4 (fx.WI (by decide)) (fy.WI (by decide)))) ((qf (x := (.int P, .nw)) (y := (.int L, .nw)) rfl rfl).trans rfl)).trans (vz (by lia) (by lia) (fxy.WI (by decide)))
 rw [qy (show qQ 5 _ _ = .nx [.val (.int X) false, .val (.int Y) false, .val (.int Z) false, .val (.int P) true, .val (.int L) true, .val (.int (Dm.sw X * Dm.sw Y * 2 ^ (P - L).toNat)) true, .un] from qM e5 rfl)]
 have e6 : qe vy (qa 5) (qe vk (qg qA (qb (qa 2) qj)) (qe vb (qg qm (qb (qa 2) qj)) (qa 4))) [.val (.int X) false, .val (.int Y) false, .val (.int Z) false, .val (.int P) true, .val (.int L) true, .val (.int (Dm.sw X * Dm.sw Y * 2 ^ (P - L).toNat)) true, .un] = .ok (.int T, .nw) := by
  have b1 : qe vk (qg qA (qb (qa 2) qj)) (qe vb (qg qm (qb (qa 2) qj)) (qa 4)) [.val (.int X) false, .val (.int Y) false, .val (.int Z) false, .val (.int P) true, .val (.int L) true, .val (.int (Dm.sw X * Dm.sw Y * 2 ^ (P - L).toNat)) true, .un] = .ok (.int (Dm.sw Z * 2 ^ (Q - L).toNat), .nw) :=
   (qf (y := (.int (Q - L), .nw)) (sww hz rfl) ((qf (y := (.int L, .nw)) (pw hz rfl) rfl).trans (qD (by rw [hQ])))).trans (vz (by lia) (by lia) (fz.WI (by decide)))
  exact (qf (x := (.int (Dm.sw X * Dm.sw Y * 2 ^ (P - L).toNat), .nw)) rfl b1).trans (qD hT.symm)
 rw [qy (show qQ 6 _ _ = .nx [.val (.int X) false, .val (.int Y) false, .val (.int Z) false, .val (.int P) true, .val (.int L) true, .val (.int (Dm.sw X * Dm.sw Y * 2 ^ (P - L).toNat)) true, .val (.int T) true] from qM e6 rfl)]
 have fT : lt2 T.natAbs 20000 := by
  have a1 : lt2 (Dm.sw X * Dm.sw Y * 2 ^ (P - L).toNat).natAbs 19999 := by
   rw [Int.natAbs_mul, Int.natAbs_pow]
   exact (fxy.mul (lt2.pow (P - L).toNat)).up (by lia)
  have a2 : lt2 (Dm.sw Z * 2 ^ (Q - L).toNat).natAbs 19999 := by
   rw [Int.natAbs_mul, Int.natAbs_pow]
   exact (fz.mul (lt2.pow (Q - L).toNat)).up (by lia)
  rw [hT]
  exact (a1.add a2).mono (Int.natAbs_add_le _ _)
 generalize Dm.sw X * Dm.sw Y * 2 ^ (P - L).toNat = pp
 have ht : tBl (qe (oEq false) (qa 6) (rC (.int 0))) [.val (.int X) false, .val (.int Y) false, .val (.int Z) false, .val (.int P) true, .val (.int L) true, .val (.int pp) true, .val (.int T) true] = .ok (decide (T = 0)) := vx (k := .nw) ((qf (x := (.int T, .nw)) (y := (.int 0, .nw)) rfl rfl).trans rfl)
 by_cases c : T = 0
 ·rw [decide_eq_true c] at ht
  rw [if_pos c]
  have hv : qe vk (qe (zJ Builtin.bitAnd) (qe (zJ Builtin.bitXor) (qg qu (qb (qa 0) qj)) (qg qu (qb (qa 1) qj))) (qg qu (qb (qa 2) qj))) (rC (.int 63)) [.val (.int X) false, .val (.int Y) false, .val (.int Z) false, .val (.int P) true, .val (.int L) true, .val (.int pp) true, .val (.int T) true] = .ok (.int ((if (Dm.sg X ≠ Dm.sg Y) /\ Dm.sg Z = 1 then 2 ^ 63 else 0 : Nat) : Int), .nw) := by
   have b : Builtin.bitAnd (Builtin.bitXor (Dm.sg X) (Dm.sg Y)) (Dm.sg Z) = ((if (Dm.sg X ≠ Dm.sg Y) /\ Dm.sg Z = 1 then 1 else 0 : Nat) : Int) := by
    rcases y7 lx with a | a <;> rcases y7 ly with b | b <;> rcases y7 lz with d | d <;> rw [a, b, d] <;> decide
   have b1 := (qf (f := zJ Builtin.bitAnd) (x := (.int (Builtin.bitXor (Dm.sg X) (Dm.sg Y)), .nw)) ((qf (f := zJ Builtin.bitXor) (sgg (i := 0) (δ := [.val (.int X) false, .val (.int Y) false, .val (.int Z) false, .val (.int P) true, .val (.int L) true, .val (.int pp) true, .val (.int T) true]) hx rfl) (sgg (i := 1) hy rfl)).trans rfl) (sgg (i := 2) hz rfl)).trans (qD b)
   refine (qf b1 (y := (.int 63, .nw)) rfl).trans ((vz (by decide) (by decide) (uj 4 (by decide) (by split <;> decide))).trans (qD ?_))
   split <;> rfl
  rw [zw ((zk ht).trans (vC (δ := [.val (.int X) false, .val (.int Y) false, .val (.int Z) false, .val (.int P) true, .val (.int L) true, .val (.int pp) true, .val (.int T) true]) hv))]
  rfl
 ·rw [decide_eq_false c] at ht
  rw [if_neg c, qy (vo ht)]
  have hs : xw (tBl (qe (zl fun i j => decide (i < j)) (qa 6) (rC (.int 0)))) (rC (.int 1)) (rC (.int 0)) [.val (.int X) false, .val (.int Y) false, .val (.int Z) false, .val (.int P) true, .val (.int L) true, .val (.int pp) true, .val (.int T) true] = .ok (.int (if T < 0 then 1 else 0), .nw) := by
   have tt : tBl (qe (zl fun i j => decide (i < j)) (qa 6) (rC (.int 0))) [.val (.int X) false, .val (.int Y) false, .val (.int Z) false, .val (.int P) true, .val (.int L) true, .val (.int pp) true, .val (.int T) true] = .ok (decide (T < 0)) := vx (k := .nw) ((qf (x := (.int T, .nw)) (y := (.int 0, .nw)) rfl rfl).trans rfl)
   by_cases q : T < 0
   ·rw [decide_eq_true q] at tt
    rw [jo tt, if_pos q]
    rfl
   ·rw [decide_eq_false q] at tt
    rw [jd tt, if_neg q]
    rfl
  have ha : yo Wz (qb (qa 6) qj) [.val (.int X) false, .val (.int Y) false, .val (.int Z) false, .val (.int P) true, .val (.int L) true, .val (.int pp) true, .val (.int T) true] = .ok (.int (T.natAbs : Int), .nw) := (yR (ql (x := (.int T, .nw)) rfl qT)).trans (qD (by split <;> lia))
  have hg : qN [.int (if T < 0 then 1 else 0), .int (T.natAbs : Int), .int L] = qE (Dm.rnd (decide (T < 0)) T.natAbs (L + 1074)) := by
   rw [yd ⟨by split <;> simp, by lia, by rw [Int.natAbs_natCast]; exact fT, by lia, by lia⟩, Int.toNat_natCast]
   rw [jy]
  have hcall := ve (g := qN) (δ := [.val (.int X) false, .val (.int Y) false, .val (.int Z) false, .val (.int P) true, .val (.int L) true, .val (.int pp) true, .val (.int T) true]) (ql hs (ql ha (ql (ra := qa 4) (x := (.int L, .nw)) rfl qT)))
  exact wk (δ := [.val (.int X) false, .val (.int Y) false, .val (.int Z) false, .val (.int P) true, .val (.int L) true, .val (.int pp) true, .val (.int T) true]) (hcall.trans (congrArg (fun q => Rs.bind q _) hg))
theorem Va : Hr yQ ["x", "y", "z", "power", "low", "product_part", "total"] 3 wd := Vk WN
theorem j9 {x y z : Int} (h : U64 x) (h2 : U64 y) (h3 : U64 z) : wd [.int x, .int y, .int z] = qE (Pv.fused x.toNat y.toNat z.toNat) := uo ⟨h, h2, h3⟩
theorem Zx (x y : Int) (h : U2 x y) : res (xZ (sl0 ["x", "y"] [.int x, .int y])) = qE (Pv.add x.toNat y.toNat) := by
 have u1 : U64 4607182418800017408 := ⟨by decide, by decide⟩
 have l1 : x.toNat < 2 ^ 64 := by have := h.1.1; have := h.1.2; lia
 have l2 : y.toNat < 2 ^ 64 := by have := h.2.1; have := h.2.2; lia
 rw [<- Dm.ZK l1 l2, Dm.yV l1 (by decide) l2]
 unfold xZ
 have hcall := ve (g := wd) (δ := [.val (.int x) false, .val (.int y) false]) (ql (ra := qa 0) (x := (.int x, .sh)) rfl (ql (ra := rC (.int 4607182418800017408)) (x := (.int 4607182418800017408, .nw)) rfl (ql (ra := qa 1) (x := (.int y, .sh)) rfl qT)))
 exact wk (δ := [.val (.int x) false, .val (.int y) false]) (hcall.trans (congrArg (fun q => Rs.bind q _) (j9 h.1 u1 h.2)))
theorem Wv : Hr xZ ["x", "y"] 2 wQ := y6 Zx
theorem Q6 {x y : Int} (h : U64 x) (h2 : U64 y) : wQ [.int x, .int y] = qE (Pv.add x.toNat y.toNat) := zq ⟨h, h2⟩
theorem WD (x y : Int) (h : U2 x y) : res (yO (sl0 ["x", "y"] [.int x, .int y])) = qE (Pv.sub x.toNat y.toNat) := by
 have l2 : y.toNat < 2 ^ 64 := by have := h.2.1; have := h.2.2; lia
 unfold yO Pv.sub
 rw [Dm.Q9 _ l2]
 have ho : qg vF (qb (qa 1) qj) [.val (.int x) false, .val (.int y) false] = .ok (.int (Dm.flip y.toNat), .nw) := (qO (x := (.int y, .sh)) rfl (jx h.2)).trans rfl
 have hcall := ve (g := wQ) (δ := [.val (.int x) false, .val (.int y) false]) (ql (ra := qa 0) (x := (.int x, .sh)) rfl (ql ho qT))
 have hg := Q6 h.1 (WE (Dm.Wg _ l2))
 rw [Int.toNat_natCast] at hg
 exact wk (δ := [.val (.int x) false, .val (.int y) false]) (hcall.trans (congrArg (fun q => Rs.bind q _) hg))
theorem Vw : Hr yO ["x", "y"] 2 zu := y6 WD
theorem WZ {x y : Int} (h : U64 x) (h2 : U64 y) : zu [.int x, .int y] = qE (Pv.sub x.toNat y.toNat) := zq ⟨h, h2⟩
theorem Qx (x y : Int) (h : U2 x y) : res (zD (sl0 ["x", "y"] [.int x, .int y])) = qE (Pv.mul x.toNat y.toNat) := by
 have l1 : x.toNat < 2 ^ 64 := by have := h.1.1; have := h.1.2; lia
 have l2 : y.toNat < 2 ^ 64 := by have := h.2.1; have := h.2.2; lia
 rw [<- Dm.Z4 l1 l2]
 unfold zD Dm.xg
 have b1 := yt l1
 have b2 := yt l2
 have w1 : lt2 (Dm.wh x.toNat) 53 := Dm.z5 _
 have w2 : lt2 (Dm.wh y.toNat) 53 := Dm.z5 _
 have e1 : qe (zJ Builtin.bitXor) (qg qu (qb (qa 0) qj)) (qg qu (qb (qa 1) qj)) [.val (.int x) false, .val (.int y) false] = .ok (.int (if Dm.sg x.toNat ≠ Dm.sg y.toNat then 1 else 0), .nw) := (qf ((qO (x := (.int x, .sh)) rfl (vU h.1)).trans rfl) ((qO (x := (.int y, .sh)) rfl (vU h.2)).trans rfl)).trans (qD (by
  rcases y7 l1 with a | a <;> rcases y7 l2 with b | b <;> rw [a, b] <;> decide))
 have e2 : qe yi (qg qt (qb (qa 0) qj)) (qg qt (qb (qa 1) qj)) [.val (.int x) false, .val (.int y) false] = .ok (.int ((Dm.wh x.toNat * Dm.wh y.toNat : Nat) : Int), .nw) := (qf ((qO (x := (.int x, .sh)) rfl (vS h.1)).trans rfl) ((qO (x := (.int y, .sh)) rfl (vS h.2)).trans rfl)).trans ((z4 (w1.few (by decide)) (w2.few (by decide))).trans (qD (by rw [Int.natCast_mul])))
 have e3 : qe vy (qg qm (qb (qa 0) qj)) (qg qm (qb (qa 1) qj)) [.val (.int x) false, .val (.int y) false] = .ok (.int ((Dm.ex x.toNat : Int) + Dm.ex y.toNat - 2148), .nw) := (qf ((qO (x := (.int x, .sh)) rfl (vV h.1)).trans rfl) ((qO (x := (.int y, .sh)) rfl (vV h.2)).trans rfl)).trans (qD (by lia))
 have hg : qN [.int (if Dm.sg x.toNat ≠ Dm.sg y.toNat then 1 else 0), .int ((Dm.wh x.toNat * Dm.wh y.toNat : Nat) : Int), .int ((Dm.ex x.toNat : Int) + Dm.ex y.toNat - 2148)] = qE (Dm.rnd (decide (Dm.sg x.toNat ≠ Dm.sg y.toNat)) (Dm.wh x.toNat * Dm.wh y.toNat) ((Dm.ex x.toNat : Int) + Dm.ex y.toNat - 1074)) := by
  rw [yd ⟨by split <;> simp, by lia, by rw [Int.natAbs_natCast]; exact (w1.mul w2).up (by decide), by lia, by lia⟩, Int.toNat_natCast]
  rw [jy]
  rw [show (Dm.ex x.toNat : Int) + Dm.ex y.toNat - 2148 + 1074 = (Dm.ex x.toNat : Int) + Dm.ex y.toNat - 1074 by lia]
 have hcall := ve (g := qN) (δ := [.val (.int x) false, .val (.int y) false]) (ql e1 (ql e2 (ql e3 qT)))
 exact wk (δ := [.val (.int x) false, .val (.int y) false]) (hcall.trans (congrArg (fun q => Rs.bind q _) hg))
theorem jt : Hr zD ["x", "y"] 2 wg := y6 Qx
theorem QS {x y : Int} (h : U64 x) (h2 : U64 y) : wg [.int x, .int y] = qE (Pv.mul x.toNat y.toNat) := zq ⟨h, h2⟩
open Classical in
noncomputable def gSh (sh : List Bool) (P : List Int -> List (List Int) -> Prop) (h : List Int -> List (List Int) -> Rs (D × Bool)) : Fn := fun ds => match asks sh ds with
 | some x => if P x.1 x.2 then h x.1 x.2 else .no
 | none => .no
theorem VO {sh : List Bool} {P : List Int -> List (List Int) -> Prop} {h : List Int -> List (List Int) -> Rs (D × Bool)} {is : List Int} {ls : List (List Int)} (h1 : is.length = sh.count false) (h2 : ls.length = sh.count true) (g : P is ls) : gSh sh P h (unp sh is ls) = h is ls := by
 unfold gSh
 rw [yP h1 h2]
 exact if_pos g
theorem Yj {sh : List Bool} {P : List Int -> List (List Int) -> Prop} {h : List Int -> List (List Int) -> Rs (D × Bool)} {r : RS} {N : List Str} {n : Nat}
  (q : ∀ is ls, is.length = sh.count false -> ls.length = sh.count true -> P is ls -> res (r (sl0 N (unp sh is ls))) = h is ls) : Hr r N n (gSh sh P h) := by
 intro ds _
 cases e : asks sh ds with
 | none => left; unfold gSh; rw [e]
 | some x =>
  obtain ⟨is, ls⟩ := x
  by_cases g : P is ls
  ·right
   obtain ⟨e1, e2, e3⟩ := yM e
   rw [e1, q is ls e2 e3 g, VO e2 e3 g]
  ·left
   unfold gSh
   rw [e]
   exact if_neg g
end Dt
set_option maxHeartbeats 4000000
set_option maxHeartbeats 2000000
namespace Dt
open PySem L2 L2.Ir
theorem wm {i j : Int} {k l : Kd} (h1 : 0 < j) (h2 : j.natAbs.log2 < 9000) : vh (.int i, k) (.int j, l) = .ok (.int (i / j), .nw) := if_pos ⟨h1, h2⟩
theorem Qm {i j : Int} {k l : Kd} (h1 : 0 < j) : oMod (.int i, k) (.int j, l) = .ok (.int (i % j), .nw) := if_pos h1
noncomputable def Yx : List Int -> List (List Int) -> Prop
 | [s, w, _, p], [] => (s = 0 \/ s = 1) /\ 0 <= w /\ lt2 w.natAbs 19000 /\ -7000 <= p /\ p <= 7000
 | _, _ => False
noncomputable def Yz : List Int -> List (List Int) -> Rs (D × Bool)
 | [s, w, l, p], [] => qE (Dm.rnd (decide (s = 1)) (w.toNat * 2 + (if l = 0 then 0 else 1)) (p + 1073))
 | _, _ => .no
noncomputable def qw : Fn := gSh [false, false, false, false] Yx Yz
noncomputable def vc : RS := (qR (qQ 4 (xw (tBl (qe (oEq false) (qa 2) (rC (.int 0)))) (rC (.int 0)) (rC (.int 1)))) (qW (qg qN (qb (qa 0) (qb (qe vy (qe yi (qa 1) (rC (.int 2))) (qa 4)) (qb (qe vb (qa 3) (rC (.int 1))) qj))))))
theorem zI (s w l p : Int) (h : (s = 0 \/ s = 1) /\ 0 <= w /\ lt2 w.natAbs 19000 /\ -7000 <= p /\ p <= 7000) : res (vc (sl0 ["sign", "whole", "left", "power", "behind"] [.int s, .int w, .int l, .int p])) = qE (Dm.rnd (decide (s = 1)) (w.toNat * 2 + (if l = 0 then 0 else 1)) (p + 1073)) := by
 obtain ⟨hs, h0, hw, hp1, hp2⟩ := h
 obtain ⟨W, rfl⟩ : ∃ W : Nat, w = W := ⟨w.toNat, by lia⟩
 rw [Int.natAbs_natCast] at hw
 rw [Int.toNat_natCast]
 unfold vc
 rw [show sl0 ["sign", "whole", "left", "power", "behind"] [.int s, .int (W : Int), .int l, .int p] = [.val (.int s) false, .val (.int W) false, .val (.int l) false, .val (.int p) false, .un] from rfl]
 obtain ⟨B, hB⟩ : ∃ B : Nat, B = if l = 0 then 0 else 1 := ⟨_, rfl⟩
 rw [<- hB]
 have hB1 : B <= 1 := by rw [hB]; split <;> lia
 have e4 : xw (tBl (qe (oEq false) (qa 2) (rC (.int 0)))) (rC (.int 0)) (rC (.int 1)) [.val (.int s) false, .val (.int W) false, .val (.int l) false, .val (.int p) false, .un] = .ok (.int B, .nw) := by
  have tt : tBl (qe (oEq false) (qa 2) (rC (.int 0))) [.val (.int s) false, .val (.int W) false, .val (.int l) false, .val (.int p) false, .un] = .ok (decide (l = 0)) := vx (k := .nw) ((qf (x := (.int l, .sh)) (y := (.int 0, .nw)) rfl rfl).trans rfl)
  by_cases c : l = 0
  ·rw [decide_eq_true c] at tt
   rw [jo tt, hB, if_pos c]
   rfl
  ·rw [decide_eq_false c] at tt
   rw [jd tt, hB, if_neg c]
   rfl
 rw [qy (show qQ 4 _ _ = .nx [.val (.int s) false, .val (.int W) false, .val (.int l) false, .val (.int p) false, .val (.int B) true] from qM e4 rfl)]
 have b1 : qe vy (qe yi (qa 1) (rC (.int 2))) (qa 4) [.val (.int s) false, .val (.int W) false, .val (.int l) false, .val (.int p) false, .val (.int B) true] = .ok (.int ((W * 2 + B : Nat) : Int), .nw) := (qf (y := (.int B, .nw)) ((qf (x := (.int W, .sh)) (y := (.int 2, .nw)) rfl rfl).trans (z4 (hw.few (by decide)) (zM 4 (by decide) (by decide)))) rfl).trans (qD (by rw [Int.natCast_add, Int.natCast_mul]; rfl))
 have b2 : qe vb (qa 3) (rC (.int 1)) [.val (.int s) false, .val (.int W) false, .val (.int l) false, .val (.int p) false, .val (.int B) true] = .ok (.int (p - 1), .nw) := (qf (x := (.int p, .sh)) (y := (.int 1, .nw)) rfl rfl).trans rfl
 have f2 : lt2 (W * 2 + B) 20000 := ((hw.mul (show lt2 2 2 by unfold lt2; decide)).add ((show lt2 B 2 by unfold lt2; lia).up (by decide))).up (by decide)
 have hg := yd (s := s) (w := ((W * 2 + B : Nat) : Int)) (p := p - 1) ⟨hs, by lia, by rw [Int.natAbs_natCast]; exact f2, by lia, by lia⟩
 rw [Int.toNat_natCast, show p - 1 + 1074 = p + 1073 by lia] at hg
 have hcall := ve (g := qN) (δ := [.val (.int s) false, .val (.int W) false, .val (.int l) false, .val (.int p) false, .val (.int B) true]) (ql (ra := qa 0) (x := (.int s, .sh)) rfl (ql b1 (ql b2 qT)))
 exact wk (δ := [.val (.int s) false, .val (.int W) false, .val (.int l) false, .val (.int p) false, .val (.int B) true]) (hcall.trans (congrArg (fun q => Rs.bind q _) hg))
theorem za : Hr vc ["sign", "whole", "left", "power", "behind"] 4 qw := Yj fun is ls h1 h2 g => by
 obtain ⟨s, w, l, p, rfl⟩ := jC h1
 obtain rfl := List.eq_nil_of_length_eq_zero h2
 exact zI s w l p g
theorem v5 {s w l p : Int} (h : (s = 0 \/ s = 1) /\ 0 <= w /\ lt2 w.natAbs 19000 /\ -7000 <= p /\ p <= 7000) : qw [.int s, .int w, .int l, .int p] = qE (Dm.rnd (decide (s = 1)) (w.toNat * 2 + (if l = 0 then 0 else 1)) (p + 1073)) := VO (sh := [false, false, false, false]) (P := Yx) (h := Yz) (is := [s, w, l, p]) (ls := []) rfl rfl h
noncomputable def vT : Fn := fn2 U2 fun x y => qE (Pv.div x.toNat y.toNat)
noncomputable def wR : RS := (qR (sIf (tBl (qg vj (qb (qa 1) qj))) (zj "StepNotFinite") vB) (qR (qQ 2 (qe vk (qg qt (qb (qa 0) qj)) (rC (.int (112))))) (qR (qQ 3 (qe vh (qa 2) (qg qt (qb (qa 1) qj)))) (qR (qQ 4 (qe oMod (qa 2) (qg qt (qb (qa 1) qj)))) (qW (qg qw (qb (qe (zJ Builtin.bitXor) (qg qu (qb (qa 0) qj)) (qg qu (qb (qa 1) qj))) (qb (qa 3) (qb (qa 4) (qb (qe vb (qe vb (qg qm (qb (qa 0) qj)) (qg qm (qb (qa 1) qj))) (rC (.int (112)))) qj))))))))))
theorem jr (x y : Int) (h : U2 x y) : res (wR (sl0 ["x", "y", "widened", "whole", "left"] [.int x, .int y])) = qE (Pv.div x.toNat y.toNat) := by
 obtain ⟨hx, hy⟩ := h
 obtain ⟨X, rfl⟩ := wH hx
 obtain ⟨Y, rfl⟩ := wH hy
 have lx := zt hx
 have ly := zt hy
 rw [Int.toNat_natCast, Int.toNat_natCast, <- Dm.Zt lx ly]
 unfold wR Dm.yn
 rw [show sl0 ["x", "y", "widened", "whole", "left"] [.int (X : Int), .int (Y : Int)] = [.val (.int X) false, .val (.int Y) false, .un, .un, .un] from rfl]
 have ht : tBl (qg vj (qb (qa 1) qj)) [.val (.int X) false, .val (.int Y) false, .un, .un, .un] = .ok (decide (Dm.sz Y = 0)) := vx (k := .nw) ((qO (x := (.int Y, .sh)) rfl (xF hy)).trans (by
  show Rs.ok (D.bl (decide ((Y : Int) % 9223372036854775808 = 0)), Kd.nw) = _
  rw [show decide ((Y : Int) % 9223372036854775808 = 0) = decide (Dm.sz Y = 0) from decide_eq_decide.mpr (by unfold Dm.sz; lia)]))
 by_cases c : Dm.sz Y = 0
 ·rw [decide_eq_true c] at ht
  rw [if_pos c, zX ((zk ht).trans rfl)]
  rfl
 ·rw [decide_eq_false c] at ht
  rw [if_neg c, qy (vo ht)]
  have hwy : 0 < Dm.wh Y := Nat.pos_of_ne_zero fun z => c ((Dm.vX Y).mp z)
  have w1 : lt2 (Dm.wh X) 53 := Dm.z5 _
  have w2 : lt2 (Dm.wh Y) 53 := Dm.z5 _
  have bx := yt lx
  have by_ := yt ly
  have wwx : ∀ {δ : Dl} {k : Kd}, qa 0 δ = .ok (.int X, k) -> qg qt (qb (qa 0) qj) δ = .ok (.int (Dm.wh X), .nw) := fun e => (qO e (vS hx)).trans rfl
  have wwy : ∀ {δ : Dl} {k : Kd}, qa 1 δ = .ok (.int Y, k) -> qg qt (qb (qa 1) qj) δ = .ok (.int (Dm.wh Y), .nw) := fun e => (qO e (vS hy)).trans rfl
  obtain ⟨V, hV⟩ : ∃ V : Nat, V = Dm.wh X * 2 ^ 112 := ⟨_, rfl⟩
  rw [<- hV]
  have fV : lt2 V 166 := by rw [hV]; exact w1.mul (lt2.pow 112)
  have e2 : qe vk (qg qt (qb (qa 0) qj)) (rC (.int (112))) [.val (.int X) false, .val (.int Y) false, .un, .un, .un] = .ok (.int V, .nw) := (qf (y := (.int 112, .nw)) (wwx rfl) rfl).trans ((vz (by decide) (by decide) (w1.few (by decide))).trans (qD (by rw [hV, Int.natCast_mul]; rfl)))
  rw [qy (show qQ 2 _ _ = .nx [.val (.int X) false, .val (.int Y) false, .val (.int V) true, .un, .un] from qM e2 rfl)]
  have e3 : qe vh (qa 2) (qg qt (qb (qa 1) qj)) [.val (.int X) false, .val (.int Y) false, .val (.int V) true, .un, .un] = .ok (.int ((V / Dm.wh Y : Nat) : Int), .nw) := (qf (x := (.int V, .nw)) rfl (wwy rfl)).trans ((wm (by lia) (by rw [Int.natAbs_natCast]; exact Nat.lt_of_lt_of_le (w2.log (by decide)) (by decide))).trans (qD (by rw [Int.natCast_ediv])))
  rw [qy (show qQ 3 _ _ = .nx [.val (.int X) false, .val (.int Y) false, .val (.int V) true, .val (.int ((V / Dm.wh Y : Nat) : Int)) true, .un] from qM e3 rfl)]
  have e4 : qe oMod (qa 2) (qg qt (qb (qa 1) qj)) [.val (.int X) false, .val (.int Y) false, .val (.int V) true, .val (.int ((V / Dm.wh Y : Nat) : Int)) true, .un] = .ok (.int ((V % Dm.wh Y : Nat) : Int), .nw) := (qf (x := (.int V, .nw)) rfl (wwy rfl)).trans ((Qm (by lia)).trans (qD (by rw [Int.natCast_emod])))
  rw [qy (show qQ 4 _ _ = .nx [.val (.int X) false, .val (.int Y) false, .val (.int V) true, .val (.int ((V / Dm.wh Y : Nat) : Int)) true, .val (.int ((V % Dm.wh Y : Nat) : Int)) true] from qM e4 rfl)]
  have s1 : qe (zJ Builtin.bitXor) (qg qu (qb (qa 0) qj)) (qg qu (qb (qa 1) qj)) [.val (.int X) false, .val (.int Y) false, .val (.int V) true, .val (.int ((V / Dm.wh Y : Nat) : Int)) true, .val (.int ((V % Dm.wh Y : Nat) : Int)) true] = .ok (.int (if Dm.sg X ≠ Dm.sg Y then 1 else 0), .nw) := (qf ((qO (x := (.int X, .sh)) rfl (vU hx)).trans rfl) ((qO (x := (.int Y, .sh)) rfl (vU hy)).trans rfl)).trans (qD (by
   rw [Int.toNat_natCast, Int.toNat_natCast]
   rcases y7 lx with a | a <;> rcases y7 ly with b | b <;> rw [a, b] <;> decide))
  have p1 : qe vb (qe vb (qg qm (qb (qa 0) qj)) (qg qm (qb (qa 1) qj))) (rC (.int (112))) [.val (.int X) false, .val (.int Y) false, .val (.int V) true, .val (.int ((V / Dm.wh Y : Nat) : Int)) true, .val (.int ((V % Dm.wh Y : Nat) : Int)) true] = .ok (.int ((Dm.ex X : Int) - Dm.ex Y - 112), .nw) := (qf (x := (.int ((Dm.ex X : Int) - Dm.ex Y), .nw)) (y := (.int 112, .nw)) ((qf ((qO (x := (.int X, .sh)) rfl (vV hx)).trans rfl) ((qO (x := (.int Y, .sh)) rfl (vV hy)).trans rfl)).trans (qD (by rw [Int.toNat_natCast, Int.toNat_natCast]; lia))) rfl).trans rfl
  have hg := v5 (s := if Dm.sg X ≠ Dm.sg Y then 1 else 0) (w := ((V / Dm.wh Y : Nat) : Int)) (l := ((V % Dm.wh Y : Nat) : Int)) (p := (Dm.ex X : Int) - Dm.ex Y - 112) ⟨by split <;> simp, Int.natCast_nonneg _, by rw [Int.natAbs_natCast]; exact (fV.mono (Nat.div_le_self _ _)).up (by decide), by lia, by lia⟩
  have es : (if ((V % Dm.wh Y : Nat) : Int) = 0 then 0 else 1 : Nat) = if V % Dm.wh Y = 0 then 0 else 1 := by
   by_cases q : V % Dm.wh Y = 0
   ·rw [if_pos q, if_pos (by rw [q]; rfl)]
   ·rw [if_neg q, if_neg (by lia)]
  rw [Int.toNat_natCast, jy, es, show (Dm.ex X : Int) - Dm.ex Y - 112 + 1073 = (Dm.ex X : Int) - Dm.ex Y + 961 by lia] at hg
  have hcall := ve (g := qw) (δ := [.val (.int X) false, .val (.int Y) false, .val (.int V) true, .val (.int ((V / Dm.wh Y : Nat) : Int)) true, .val (.int ((V % Dm.wh Y : Nat) : Int)) true]) (ql s1 (ql (ra := qa 3) (x := (.int ((V / Dm.wh Y : Nat) : Int), .nw)) rfl (ql (ra := qa 4) (x := (.int ((V % Dm.wh Y : Nat) : Int), .nw)) rfl (ql p1 qT))))
  exact wk (δ := [.val (.int X) false, .val (.int Y) false, .val (.int V) true, .val (.int ((V / Dm.wh Y : Nat) : Int)) true, .val (.int ((V % Dm.wh Y : Nat) : Int)) true]) (hcall.trans (congrArg (fun q => Rs.bind q _) hg))
theorem uZ : Hr wR ["x", "y", "widened", "whole", "left"] 2 vT := y6 jr
theorem jN {x y : Int} (h : U64 x) (h2 : U64 y) : vT [.int x, .int y] = qE (Pv.div x.toNat y.toNat) := zq ⟨h, h2⟩
noncomputable def vf : Fn := fn1 (fun w => 0 < w /\ lt2 w.natAbs 3000) fun w => iv (Pv.root w.toNat)
noncomputable def wa : RS := (qR (qQ 1 (qe vk (rC (.int 1)) (qe vh (qe vy (rUn oBits (qa 0)) (rC (.int 1))) (rC (.int 2))))) (qR (qQ 2 (qe vh (qe vy (qa 1) (qe vh (qa 0) (qa 1))) (rC (.int 2)))) (qR (y4 (tBl (qe (zl fun i j => decide (i < j)) (qa 2) (qa 1))) (qR (qQ 1 (qa 2)) (qQ 2 (qe vh (qe vy (qa 1) (qe vh (qa 0) (qa 1))) (rC (.int 2)))))) (z3 1))))
noncomputable abbrev nwt (W g : Nat) : Nat := (g + W / g) / 2
theorem Z8 {W g : Nat} (hg : 0 < g) : W < (nwt W g + 1) * (nwt W g + 1) := by
 have h1 : W < g * (W / g + 1) := by
  have := Nat.div_add_mod W g
  have := Nat.mod_lt W hg
  rw [Nat.mul_succ]
  lia
 have h2 : g + W / g + 1 <= 2 * (nwt W g + 1) := by unfold nwt; lia
 generalize W / g = q at h1 h2
 generalize nwt W g + 1 = b at h2
 have h3 : (g + q + 1) * (g + q + 1) <= (2 * b) * (2 * b) := Nat.mul_le_mul h2 h2
 have h4 : 4 * (g * (q + 1)) <= (g + q + 1) * (g + q + 1) := by
  have key : ∀ a c : Nat, 4 * (a * c) <= (a + c) * (a + c) := by
   intro a c
   rcases Nat.le_total a c with h | h
   ·obtain ⟨d, rfl⟩ := Nat.exists_eq_add_of_le h
    have : (a + (a + d)) * (a + (a + d)) = 4 * (a * (a + d)) + d * d := by
     simp only [Nat.mul_add, Nat.add_mul, Nat.mul_comm d a]
     lia
    lia
   ·obtain ⟨d, rfl⟩ := Nat.exists_eq_add_of_le h
    have : (c + d + c) * (c + d + c) = 4 * ((c + d) * c) + d * d := by
     simp only [Nat.mul_add, Nat.add_mul, Nat.mul_comm d c]
     lia
    lia
  have := key g (q + 1)
  rw [<- Nat.add_assoc] at this
  exact this
 have h5 : (2 * b) * (2 * b) = 4 * (b * b) := by
  rw [Nat.mul_mul_mul_comm]
 lia
theorem xI {W : Nat} (hW : 0 < W) : ∀ (n g : Nat), g <= n -> 0 < g -> lt2 g 8000 -> W < (g + 1) * (g + 1) ->
  ∃ k, wl (tBl (qe (zl fun i j => decide (i < j)) (qa 2) (qa 1))) (qR (qQ 1 (qa 2)) (qQ 2 (qe vh (qe vy (qa 1) (qe vh (qa 0) (qa 1))) (rC (.int 2))))) k [.val (.int W) false, .val (.int g) true, .val (.int (nwt W g : Nat)) true] = .nx [.val (.int W) false, .val (.int (Pv.root W : Nat)) true, .val (.int (nwt W (Pv.root W) : Nat)) true]
 | 0, g, hn, hg, _, _ => absurd hg (by lia)
 | n + 1, g, hn, hg, hl, hi => by
  have ht : tBl (qe (zl fun i j => decide (i < j)) (qa 2) (qa 1)) [.val (.int W) false, .val (.int g) true, .val (.int (nwt W g : Nat)) true] = .ok (decide (nwt W g < g)) := vx (k := .nw) ((qf (x := (.int (nwt W g : Nat), .nw)) (y := (.int g, .nw)) rfl rfl).trans (by
   show Rs.ok (D.bl (decide ((nwt W g : Int) < g)), Kd.nw) = _
   rw [show decide ((nwt W g : Int) < g) = decide (nwt W g < g) from decide_eq_decide.mpr (by lia)]))
  have hb := Z8 (W := W) hg
  by_cases c : nwt W g < g
  ·rw [decide_eq_true c] at ht
   generalize hB : nwt W g = B at *
   have hB0 : 0 < B := by
    rcases Nat.eq_zero_or_pos B with z | z
    ·rw [z] at hb; lia
    ·exact z
   have hlB : lt2 B 8000 := hl.mono (by lia)
   obtain ⟨k, hk⟩ := xI hW n B (by lia) hB0 hlB hb
   have a1 : qQ 1 (qa 2) [.val (.int W) false, .val (.int g) true, .val (.int B) true] = .nx [.val (.int W) false, .val (.int B) true, .val (.int B) true] := qM (k := .nw) rfl rfl
   have e0 : qe vh (qa 0) (qa 1) [.val (.int W) false, .val (.int B) true, .val (.int B) true] = .ok (.int ((W / B : Nat) : Int), .nw) := (qf (x := (.int W, .sh)) (y := (.int B, .nw)) rfl rfl).trans ((wm (by lia) (by rw [Int.natAbs_natCast]; exact Nat.lt_of_lt_of_le (hlB.log (by decide)) (by decide))).trans (qD (by rw [Int.natCast_ediv])))
   have e1 : qe vh (qe vy (qa 1) (qe vh (qa 0) (qa 1))) (rC (.int 2)) [.val (.int W) false, .val (.int B) true, .val (.int B) true] = .ok (.int ((nwt W B : Nat) : Int), .nw) := (qf (y := (.int 2, .nw)) ((qf (x := (.int B, .nw)) rfl e0).trans (qD (by rw [<- Int.natCast_add]))) rfl).trans ((wm (by decide) (by decide)).trans (qD (by unfold nwt; rw [Int.natCast_ediv]; rfl)))
   have a2 : qQ 2 (qe vh (qe vy (qa 1) (qe vh (qa 0) (qa 1))) (rC (.int 2))) [.val (.int W) false, .val (.int B) true, .val (.int B) true] = .nx [.val (.int W) false, .val (.int B) true, .val (.int (nwt W B : Nat)) true] := qM e1 rfl
   refine ⟨k + 1, ?_⟩
   unfold wl
   rw [ht]
   show (if true = true then _ else _) = _
   rw [if_pos rfl, qy a1, a2]
   exact hk
  ·rw [decide_eq_false c] at ht
   have hgg : g * g <= W := by
    have q : g <= W / g := by unfold nwt at c; lia
    exact Nat.le_trans (Nat.mul_le_mul_left g q) (Nat.mul_div_le W g)
   have hr := Dm.QD hgg hi
   refine ⟨1, ?_⟩
   unfold wl
   rw [ht, hr]
   rfl
theorem xV (w : Int) (h : 0 < w /\ lt2 w.natAbs 3000) : res (wa (sl0 ["whole", "guess", "better"] [.int w])) = iv (Pv.root w.toNat) := by
 obtain ⟨h0, hw⟩ := h
 obtain ⟨W, rfl⟩ : ∃ W : Nat, w = W := ⟨w.toNat, by lia⟩
 rw [Int.natAbs_natCast] at hw
 rw [Int.toNat_natCast]
 unfold wa
 rw [show sl0 ["whole", "guess", "better"] [.int (W : Int)] = [.val (.int W) false, .un, .un] from rfl]
 have hW : 0 < W := by lia
 have hlog := hw.log (by decide)
 obtain ⟨K, hK⟩ : ∃ K : Nat, K = (W.log2 + 1 + 1) / 2 := ⟨_, rfl⟩
 have e1 : qe vk (rC (.int 1)) (qe vh (qe vy (rUn oBits (qa 0)) (rC (.int 1))) (rC (.int 2))) [.val (.int W) false, .un, .un] = .ok (.int ((2 ^ K : Nat) : Int), .nw) := by
  have b1 : rUn oBits (qa 0) [.val (.int W) false, .un, .un] = .ok (.int ((W.log2 + 1 : Nat) : Int), .nw) := (um (x := (.int W, .sh)) rfl).trans (qD (by rw [if_neg (by lia), Int.natAbs_natCast]))
  have b2 : qe vh (qe vy (rUn oBits (qa 0)) (rC (.int 1))) (rC (.int 2)) [.val (.int W) false, .un, .un] = .ok (.int (K : Int), .nw) := (qf (x := (.int (((W.log2 + 1 : Nat) : Int) + 1), .nw)) (y := (.int 2, .nw)) ((qf b1 (y := (.int 1, .nw)) rfl).trans rfl) rfl).trans ((wm (by decide) (by decide)).trans (qD (by lia)))
  refine (qf (x := (.int 1, .nw)) rfl b2).trans ((vz (by lia) (by lia) (zM 4 (by decide) (by decide))).trans (qD ?_))
  rw [Int.toNat_natCast, Int.one_mul, Int.natCast_pow]
  rfl
 rw [qy (show qQ 1 _ _ = .nx [.val (.int W) false, .val (.int ((2 ^ K : Nat) : Int)) true, .un] from qM e1 rfl)]
 have hg0 : 0 < 2 ^ K := Nat.two_pow_pos K
 have hgl : lt2 (2 ^ K) 8000 := (lt2.pow K).up (by lia)
 have hgi : W < (2 ^ K + 1) * (2 ^ K + 1) := by
  have a : W < 2 ^ (W.log2 + 1) := Dm.wb (by lia)
  have b : 2 ^ (W.log2 + 1) <= 2 ^ K * 2 ^ K := by
   rw [<- Nat.pow_add]
   exact Nat.pow_le_pow_right (by decide) (by lia)
  have d : 2 ^ K * 2 ^ K <= (2 ^ K + 1) * (2 ^ K + 1) := Nat.mul_le_mul (by lia) (by lia)
  exact Nat.lt_of_lt_of_le a (Nat.le_trans b d)
 generalize 2 ^ K = g at *
 have e0 : qe vh (qa 0) (qa 1) [.val (.int W) false, .val (.int g) true, .un] = .ok (.int ((W / g : Nat) : Int), .nw) := (qf (x := (.int W, .sh)) (y := (.int g, .nw)) rfl rfl).trans ((wm (by lia) (by rw [Int.natAbs_natCast]; exact Nat.lt_of_lt_of_le (hgl.log (by decide)) (by decide))).trans (qD (by rw [Int.natCast_ediv])))
 have e2 : qe vh (qe vy (qa 1) (qe vh (qa 0) (qa 1))) (rC (.int 2)) [.val (.int W) false, .val (.int g) true, .un] = .ok (.int ((nwt W g : Nat) : Int), .nw) := (qf (y := (.int 2, .nw)) ((qf (x := (.int g, .nw)) rfl e0).trans (qD (by rw [<- Int.natCast_add]))) rfl).trans ((wm (by decide) (by decide)).trans (qD (by unfold nwt; rw [Int.natCast_ediv]; rfl)))
 rw [qy (show qQ 2 _ _ = .nx [.val (.int W) false, .val (.int g) true, .val (.int (nwt W g : Nat)) true] from qM e2 rfl)]
 obtain ⟨k, hk⟩ := xI hW g g (Nat.le_refl _) hg0 hgl hgi
 rw [qy (QL hk (by intro z; cases z)), z6 (δ := [.val (.int W) false, .val (.int (Pv.root W : Nat)) true, .val (.int (nwt W (Pv.root W) : Nat)) true]) (d := .int (Pv.root W : Nat)) (k := true) rfl rfl]
 rfl
theorem xu : Hr wa ["whole", "guess", "better"] 1 vf := wF xV
theorem uq {w : Int} (h : 0 < w /\ lt2 w.natAbs 3000) : vf [.int w] = iv (Pv.root w.toNat) := vG h
noncomputable def yh : Fn := fn1 Fi fun x => qE (Pv.sqrt x.toNat)
noncomputable def ud : RS := (qR (sIf (tBl (qg vj (qb (qa 0) qj))) (z3 0) vB) (qR (sIf (tBl (qe (oEq false) (qg qu (qb (qa 0) qj)) (rC (.int 1)))) (zj "StepNotFinite") vB) (qR (qQ 1 (qe oMod (qg qm (qb (qa 0) qj)) (rC (.int 2)))) (qR (qQ 2 (qe vk (qg qt (qb (qa 0) qj)) (qe vy (rC (.int (112))) (qa 1)))) (qR (qQ 3 (qg vf (qb (qa 2) qj))) (qW (qg qw (qb (rC (.int 0)) (qb (qa 3) (qb (qe vb (qa 2) (qe yi (qa 3) (qa 3))) (qb (qe vh (qe vb (qe vb (qg qm (qb (qa 0) qj)) (qa 1)) (rC (.int (112)))) (rC (.int 2))) qj)))))))))))
theorem Ye (x : Int) (h : Fi x) : res (ud (sl0 ["x", "odd", "widened", "whole"] [.int x])) = qE (Pv.sqrt x.toNat) := by
 obtain ⟨hx, hf⟩ := h
 obtain ⟨X, rfl⟩ := wH hx
 have lx := zt hx
 have hfin : Dm.sz X < 9218868437227405312 := by unfold Dm.sz; lia
 rw [Int.toNat_natCast, <- Dm.Wf lx hfin]
 unfold ud Dm.VV
 rw [show sl0 ["x", "odd", "widened", "whole"] [.int (X : Int)] = [.val (.int X) false, .un, .un, .un] from rfl]
 have ht : tBl (qg vj (qb (qa 0) qj)) [.val (.int X) false, .un, .un, .un] = .ok (decide (Dm.sz X = 0)) := vx (k := .nw) ((qO (x := (.int X, .sh)) rfl (xF hx)).trans (by
  show Rs.ok (D.bl (decide ((X : Int) % 9223372036854775808 = 0)), Kd.nw) = _
  rw [show decide ((X : Int) % 9223372036854775808 = 0) = decide (Dm.sz X = 0) from decide_eq_decide.mpr (by unfold Dm.sz; lia)]))
 by_cases c : Dm.sz X = 0
 ·rw [decide_eq_true c] at ht
  rw [if_pos c, zw ((zk ht).trans (z6 (d := .int X) (k := false) rfl rfl))]
  rfl
 ·rw [decide_eq_false c] at ht
  rw [if_neg c, qy (vo ht)]
  have ht2 : tBl (qe (oEq false) (qg qu (qb (qa 0) qj)) (rC (.int 1))) [.val (.int X) false, .un, .un, .un] = .ok (decide (Dm.sg X = 1)) := by
   refine vx (k := .nw) ((qf (x := (.int (Dm.sg X), .nw)) (y := (.int 1, .nw)) ((qO (x := (.int X, .sh)) rfl (vU hx)).trans rfl) rfl).trans ?_)
   show Rs.ok (D.bl (decide (((Dm.sg X : Nat) : Int) = ((1 : Nat) : Int))), Kd.nw) = _
   rw [zm]
  by_cases c2 : Dm.sg X = 1
  ·rw [decide_eq_true c2] at ht2
   rw [if_pos c2, zX ((zk ht2).trans rfl)]
   rfl
  ·rw [decide_eq_false c2] at ht2
   rw [if_neg c2, qy (vo ht2)]
   have hwx : 0 < Dm.wh X := Nat.pos_of_ne_zero fun z => c ((Dm.vX X).mp z)
   have w1 : lt2 (Dm.wh X) 53 := Dm.z5 _
   have bx := yt lx
   have pw : ∀ {δ : Dl} {k : Kd}, qa 0 δ = .ok (.int X, k) -> qg qm (qb (qa 0) qj) δ = .ok (.int ((Dm.ex X : Int) - 1074), .nw) := fun e => (qO e (vV hx)).trans rfl
   obtain ⟨o, ho⟩ : ∃ o : Nat, o = Dm.ex X % 2 := ⟨_, rfl⟩
   show _ = qE (Dm.rnd false (Pv.root (Dm.wh X * 2 ^ (112 + Dm.ex X % 2)) * 2 + (if Dm.wh X * 2 ^ (112 + Dm.ex X % 2) = Pv.root (Dm.wh X * 2 ^ (112 + Dm.ex X % 2)) * Pv.root (Dm.wh X * 2 ^ (112 + Dm.ex X % 2)) then 0 else 1)) ((((Dm.ex X - Dm.ex X % 2 + 962) / 2 : Nat) : Int) - 1))
   rw [<- ho]
   have e1 : qe oMod (qg qm (qb (qa 0) qj)) (rC (.int 2)) [.val (.int X) false, .un, .un, .un] = .ok (.int o, .nw) := (qf (y := (.int 2, .nw)) (pw rfl) rfl).trans ((Qm (by decide)).trans (qD (by lia)))
   rw [qy (show qQ 1 _ _ = .nx [.val (.int X) false, .val (.int o) true, .un, .un] from qM e1 rfl)]
   obtain ⟨V, hV⟩ : ∃ V : Nat, V = Dm.wh X * 2 ^ (112 + o) := ⟨_, rfl⟩
   rw [<- hV]
   have fV : lt2 V 3000 := by rw [hV]; exact (w1.mul (lt2.pow (112 + o))).up (by lia)
   have hV0 : 0 < V := by rw [hV]; exact Nat.mul_pos hwx (Nat.two_pow_pos _)
   have e2 : qe vk (qg qt (qb (qa 0) qj)) (qe vy (rC (.int (112))) (qa 1)) [.val (.int X) false, .val (.int o) true, .un, .un] = .ok (.int V, .nw) := (qf (x := (.int (Dm.wh X), .nw)) (y := (.int (112 + (o : Int)), .nw)) ((qO (x := (.int X, .sh)) rfl (vS hx)).trans rfl) ((qf (x := (.int 112, .nw)) (y := (.int o, .nw)) rfl rfl).trans rfl)).trans ((vz (by lia) (by lia) (w1.few (by decide))).trans (qD (by
    rw [hV, Int.natCast_mul, Int.natCast_pow, show (112 + (o : Int)).toNat = 112 + o by lia]
    rfl)))
   rw [qy (show qQ 2 _ _ = .nx [.val (.int X) false, .val (.int o) true, .val (.int V) true, .un] from qM e2 rfl)]
   have e3 : qg vf (qb (qa 2) qj) [.val (.int X) false, .val (.int o) true, .val (.int V) true, .un] = .ok (.int (Pv.root V : Nat), .nw) := (qO (x := (.int V, .nw)) rfl (uq ⟨by lia, by rw [Int.natAbs_natCast]; exact fV⟩)).trans rfl
   rw [qy (show qQ 3 _ _ = .nx [.val (.int X) false, .val (.int o) true, .val (.int V) true, .val (.int (Pv.root V : Nat)) true] from qM e3 rfl)]
   have hsp := Dm.zE V
   obtain ⟨R, hR⟩ : ∃ R : Nat, R = Pv.root V := ⟨_, rfl⟩
   rw [<- hR] at hsp ⊢
   have fR : lt2 R 3000 := fV.mono (Nat.le_trans (by
    rcases Nat.eq_zero_or_pos R with z | z
    ·rw [z]; lia
    ·exact Nat.le_mul_of_pos_left R z) hsp.1)
   have l1 : qe vb (qa 2) (qe yi (qa 3) (qa 3)) [.val (.int X) false, .val (.int o) true, .val (.int V) true, .val (.int (R : Nat)) true] = .ok (.int ((V : Int) - (R * R : Nat)), .nw) := (qf (x := (.int V, .nw)) (y := (.int ((R * R : Nat) : Int), .nw)) rfl ((qf (x := (.int (R : Nat), .nw)) (y := (.int (R : Nat), .nw)) rfl rfl).trans ((z4 (fR.few (by decide)) (fR.few (by decide))).trans (qD (by rw [Int.natCast_mul]))))).trans rfl
   have p1 : qe vh (qe vb (qe vb (qg qm (qb (qa 0) qj)) (qa 1)) (rC (.int (112)))) (rC (.int 2)) [.val (.int X) false, .val (.int o) true, .val (.int V) true, .val (.int (R : Nat)) true] = .ok (.int (((Dm.ex X : Int) - 1074 - o - 112) / 2), .nw) := (qf (x := (.int ((Dm.ex X : Int) - 1074 - o - 112), .nw)) (y := (.int 2, .nw)) ((qf (x := (.int ((Dm.ex X : Int) - 1074 - o), .nw)) (y := (.int 112, .nw)) ((qf (y := (.int o, .nw)) (pw rfl) rfl).trans rfl) rfl).trans rfl) rfl).trans (wm (by decide) (by decide))
   have hg := v5 (s := 0) (w := (R : Int)) (l := (V : Int) - (R * R : Nat)) (p := ((Dm.ex X : Int) - 1074 - o - 112) / 2) ⟨.inl rfl, Int.natCast_nonneg _, by rw [Int.natAbs_natCast]; exact fR.up (by decide), by lia, by lia⟩
   have es : (if (V : Int) - (R * R : Nat) = 0 then 0 else 1 : Nat) = if V = R * R then 0 else 1 := by
    by_cases q : V = R * R
    ·rw [if_pos q, if_pos (by omega)]
    ·rw [if_neg q, if_neg (by lia)]
   rw [Int.toNat_natCast, es, show ((Dm.ex X : Int) - 1074 - o - 112) / 2 + 1073 = (((Dm.ex X - o + 962) / 2 : Nat) : Int) - 1 by lia] at hg
   have hcall := ve (g := qw) (δ := [.val (.int X) false, .val (.int o) true, .val (.int V) true, .val (.int (R : Nat)) true]) (ql (ra := rC (.int 0)) (x := (.int 0, .nw)) rfl (ql (ra := qa 3) (x := (.int (R : Nat), .nw)) rfl (ql l1 (ql p1 qT))))
   exact wk (δ := [.val (.int X) false, .val (.int o) true, .val (.int V) true, .val (.int (R : Nat)) true]) (hcall.trans (congrArg (fun q => Rs.bind q _) hg))
theorem Wn : Hr ud ["x", "odd", "widened", "whole"] 1 yh := wF Ye
theorem Zo {x : Int} (h : Fi x) : yh [.int x] = qE (Pv.sqrt x.toNat) := vG h
noncomputable def Zf : List Int -> List (List Int) -> PvCalls.Call
 | [w, x, y, z], [] => .stepped w.toNat x.toNat y.toNat z.toNat
 | _, _ => .trace 0 []
noncomputable def vt : Fn := y2 [false, false, false, false] Zf
noncomputable def wB : RS := (qR (sIf (tBl (qe (zl fun i j => decide (j < i)) (qa 0) (rC (.int 5)))) (zj "WrongCount") vB) (qR (xb (qg qG (qb (zW (qb (qa 1) (qb (qa 2) (qb (qa 3) qj)))) qj))) (qR (sIf (tBl (qe (oEq false) (qa 0) (rC (.int 0)))) (qW (zW (qb (qg wQ (qb (qa 1) (qb (qa 2) qj))) qj))) vB) (qR (sIf (tBl (qe (oEq false) (qa 0) (rC (.int 1)))) (qW (zW (qb (qg zu (qb (qa 1) (qb (qa 2) qj))) qj))) vB) (qR (sIf (tBl (qe (oEq false) (qa 0) (rC (.int 2)))) (qW (zW (qb (qg wg (qb (qa 1) (qb (qa 2) qj))) qj))) vB) (qR (sIf (tBl (qe (oEq false) (qa 0) (rC (.int 3)))) (qW (zW (qb (qg vT (qb (qa 1) (qb (qa 2) qj))) qj))) vB) (qR (sIf (tBl (qe (oEq false) (qa 0) (rC (.int 4)))) (qW (zW (qb (qg yh (qb (qa 1) qj)) qj))) vB) (qW (zW (qb (qg wd (qb (qa 1) (qb (qa 2) (qb (qa 3) qj)))) qj))))))))))
noncomputable def W9 : Option Nat -> PvCalls.Answer
 | some r => .number r
 | none => .refused (-3)
theorem zC {r : RE} {δ : Dl} {o : Option Nat} (h : r δ = (qE o).bind fun y => .ok (y.1, kB y.2)) (hf : freeze δ = δ) : res (qW (zW (qb r qj)) δ) = w5 (W9 o) := by
 cases o with
 | none =>
  have q : zW (qb r qj) (freeze δ) = .er "StepNotFinite" := by
   unfold zW qb
   rw [hf, h]
   rfl
  rw [Qi q]
  rfl
 | some v =>
  rw [V5 (Qb (ql (x := (.int v, .nw)) (by rw [hf, h]; rfl) qT) (Nat.le_of_ble_eq_true rfl))]
  rfl
theorem WB (r : RE) (δ δ' : Dl) : qW r δ ≠ .nx δ' := by
 unfold qW
 split
 ·intro q; cases q
 ·intro q; cases q
 ·split <;> intro q <;> cases q
 ·intro q; cases q
 ·intro q; cases q
theorem yb {t : RT} {r : RE} {b : RS} {δ : Dl} {x : Bool} (h : t δ = .ok x) : res (qR (sIf t (qW r) vB) b δ) = if x = true then res (qW r δ) else res (b δ) := by
 cases x with
 | true =>
  rw [if_pos rfl]
  unfold qR
  rw [zk h]
  cases e : qW r δ with
  | nx δ' => exact absurd e (WB r δ δ')
  | _ => rfl
 | false => rw [qy (vo h), if_neg (by decide)]
theorem uB (w x y z : Int) (hw : U64 w) (hx : U64 x) (hy : U64 y) (hz : U64 z) :
  res (wB (sl0 ["which", "x", "y", "z"] [.int w, .int x, .int y, .int z])) = w5 (PvCalls.answer (.stepped w.toNat x.toNat y.toNat z.toNat)) := by
 rw [uV]
 show _ = if decide (w.toNat <= 5) = true then w5 (PvCalls.reckon (.stepped w.toNat x.toNat y.toNat z.toNat)) else .er "WrongCount"
 unfold wB
 rw [show sl0 ["which", "x", "y", "z"] [.int w, .int x, .int y, .int z] = [.val (.int w) false, .val (.int x) false, .val (.int y) false, .val (.int z) false] from rfl]
 have hfz : freeze [.val (.int w) false, .val (.int x) false, .val (.int y) false, .val (.int z) false] = [.val (.int w) false, .val (.int x) false, .val (.int y) false, .val (.int z) false] := rfl
 generalize hδ : [Sl.val (.int w) false, Sl.val (.int x) false, Sl.val (.int y) false, Sl.val (.int z) false] = δ at hfz
 have v0 : qa 0 δ = .ok (.int w, .sh) := by rw [<- hδ]; rfl
 have v1 : qa 1 δ = .ok (.int x, .sh) := by rw [<- hδ]; rfl
 have v2 : qa 2 δ = .ok (.int y, .sh) := by rw [<- hδ]; rfl
 have v3 : qa 3 δ = .ok (.int z, .sh) := by rw [<- hδ]; rfl
 have ht : tBl (qe (zl fun i j => decide (j < i)) (qa 0) (rC (.int 5))) δ = .ok (decide (5 < w)) := vx (k := .nw) ((qf v0 (y := (.int 5, .nw)) rfl).trans rfl)
 by_cases c : 5 < w
 ·rw [decide_eq_true c] at ht
  rw [zX ((zk ht).trans rfl), if_neg (by rw [decide_eq_true_eq]; lia)]
  rfl
 ·rw [decide_eq_false c] at ht
  rw [qy (vo ht), if_pos (by rw [decide_eq_true_eq]; have := hw.1; lia)]
  have hok : WH [x, y, z] := by
   intro q hq
   simp at hq
   rcases hq with rfl | rfl | rfl <;> assumption
  have hl : zW (qb (qa 1) (qb (qa 2) (qb (qa 3) qj))) δ = .ok (.lst ([x, y, z].map .int), .fr) := Qb (ql v1 (ql v2 (ql v3 qT))) (Nat.le_of_ble_eq_true rfl)
  have hc : qg qG (qb (zW (qb (qa 1) (qb (qa 2) (qb (qa 3) qj)))) qj) δ = if ∀ n ∈ [x, y, z], Fi n then .ok (.non, .nw) else .er "NotFinite" := by
   rw [ve (ql hl qT)]
   show (qG [.lst ([x, y, z].map .int)]).bind _ = _
   rw [xi hok]
   split <;> rfl
  have hfi : (∀ n ∈ [x, y, z], Fi n) ↔ (Pv.isFinite x.toNat && (Pv.isFinite y.toNat && Pv.isFinite z.toNat)) = true := by
   rw [Bool.and_eq_true, Bool.and_eq_true, <- x6 hx, <- x6 hy, <- x6 hz]
   simp
  have hrk : PvCalls.reckon (.stepped w.toNat x.toNat y.toNat z.toNat) = if (Pv.isFinite x.toNat && (Pv.isFinite y.toNat && Pv.isFinite z.toNat)) = false then .refused (-2) else W9 (PvCalls.stepBy w.toNat x.toNat y.toNat z.toNat) := by
   show (if (Pv.isFinite x.toNat && (Pv.isFinite y.toNat && Pv.isFinite z.toNat)) = false then PvCalls.no (-2) else (match PvCalls.stepBy w.toNat x.toNat y.toNat z.toNat with | some r => .number r | none => PvCalls.no (-3))) = _
   cases PvCalls.stepBy w.toNat x.toNat y.toNat z.toNat <;> rfl
  rw [hrk]
  by_cases f : ∀ n ∈ [x, y, z], Fi n
  ·rw [if_pos f] at hc
   rw [qy (VQ hc), if_neg (by rw [hfi.mp f]; decide)]
   have fx : Fi x := f x (by simp)
   have tw : ∀ k : Int, tBl (qe (oEq false) (qa 0) (rC (.int k))) δ = .ok (decide (w = k)) := fun k => vx (k := .nw) ((qf v0 (y := (.int k, .nw)) rfl).trans rfl)
   have k2 : ∀ {g : Fn} {o : Option Nat}, g [.int x, .int y] = qE o -> qg g (qb (qa 1) (qb (qa 2) qj)) δ = (qE o).bind fun y => .ok (y.1, kB y.2) := fun hg => (ve (ql v1 (ql v2 qT))).trans (congrArg (fun q => Rs.bind q _) hg)
   have wlo := hw.1
   rw [yb (tw 0)]
   by_cases a0 : w = 0
   ·rw [decide_eq_true a0, if_pos rfl, zC (k2 (Q6 hx hy)) hfz, a0]
    rfl
   rw [decide_eq_false a0, if_neg (by decide), yb (tw 1)]
   by_cases a1 : w = 1
   ·rw [decide_eq_true a1, if_pos rfl, zC (k2 (WZ hx hy)) hfz, a1]
    rfl
   rw [decide_eq_false a1, if_neg (by decide), yb (tw 2)]
   by_cases a2 : w = 2
   ·rw [decide_eq_true a2, if_pos rfl, zC (k2 (QS hx hy)) hfz, a2]
    rfl
   rw [decide_eq_false a2, if_neg (by decide), yb (tw 3)]
   by_cases a3 : w = 3
   ·rw [decide_eq_true a3, if_pos rfl, zC (k2 (jN hx hy)) hfz, a3]
    rfl
   rw [decide_eq_false a3, if_neg (by decide), yb (tw 4)]
   by_cases a4 : w = 4
   ·rw [decide_eq_true a4, if_pos rfl, zC ((ve (ql v1 qT)).trans (congrArg (fun q => Rs.bind q _) (Zo fx))) hfz, a4]
    rfl
   rw [decide_eq_false a4, if_neg (by decide)]
   rw [zC ((ve (ql v1 (ql v2 (ql v3 qT)))).trans (congrArg (fun q => Rs.bind q _) (j9 hx hy hz))) hfz]
   have a5 : w = 5 := by lia
   rw [a5]
   rfl
  ·rw [if_neg f] at hc
   rw [zX (Vj hc), if_pos (by
    cases e : (Pv.isFinite x.toNat && (Pv.isFinite y.toNat && Pv.isFinite z.toNat)) with
    | false => rfl
    | true => exact absurd (hfi.mpr e) f)]
   rfl
theorem x9 : Hr wB ["which", "x", "y", "z"] 4 vt := WV fun is ls h1 h2 g => by
 obtain ⟨w, x, y, z, rfl⟩ := jC h1
 obtain rfl := List.eq_nil_of_length_eq_zero h2
 exact uB w x y z (g.1 w (by simp)) (g.1 x (by simp)) (g.1 y (by simp)) (g.1 z (by simp))
theorem V1 (w x y z : Nat) : Few (PvCalls.answer (.stepped w x y z)) := ZC fun _ => by
 show Few (if (Pv.isFinite x && (Pv.isFinite y && Pv.isFinite z)) = false then PvCalls.no (-2) else (match PvCalls.stepBy w x y z with | some r => .number r | none => PvCalls.no (-3)))
 split
 ·exact .inr (.inl rfl)
 ·cases PvCalls.stepBy w x y z with
  | none => exact .inr (.inr (.inl rfl))
  | some r => trivial
theorem VI {w x y z : Int} (hw : U64 w) (hx : U64 x) (hy : U64 y) (hz : U64 z) :
  uK LL (vt [.int w, .int x, .int y, .int z]) = some ((PyYqpvta.step w x y z).map D.int) /\ ((PyYqpvta.step w x y z).map D.int).length <= LIM := by
 refine VH (sh := [false, false, false, false]) (F := Zf) (is := [w, x, y, z]) (ls := []) (c := [[1, w, x, y, z]]) rfl rfl ⟨by intro i hi; simp at hi; rcases hi with rfl | rfl | rfl | rfl <;> assumption, by intro l hl; cases hl⟩ ?_ (V1 _ _ _ _)
 have q : TableNeutral.callOf [[1, w, x, y, z]] = (do some (.stepped (<- TableNeutral.nat w) (<- TableNeutral.nat x) (<- TableNeutral.nat y) (<- TableNeutral.nat z))) := rfl
 rw [q, zZ hw, zZ hx, zZ hy, zZ hz]
 rfl
end Dt
set_option maxHeartbeats 4000000
namespace L2.Ir
open PySem PySem.Spec PyProof.Rows
section
variable {P : Program} {w : World} {K : PySem.W.Frag} {mg : Str -> Option Value} {base : Heap}
noncomputable abbrev Zn (P : Program) (w : World) (K : PySem.W.Frag) (mg : Str -> Option Value) (base : Heap) (k : Nat) (N : List Str) (q : Str) (st : Stmt) (f : Addr) (t : XK -> TS) : Prop := ∀ (cdv : Value) (A : Around) (outer : List Env) (s : Shared) (H : Hp) (E : XK), vW k (A.deeper (envOfC q (qd st) s.heap.objs.size f cdv)) -> N.Nodup -> Gd (ub P w K mg base N q (qd st) f cdv A outer s H E) E -> PSs (ub P w K mg base N q (qd st) f cdv A outer s H E) (qz st) (t E)
theorem fd2 {x : Str} {st : Stmt} {f : Addr} {fd : FuncData} {N ps : List Str} {k n : Nat} {g : Fn} {r : RS} (F : Fun K x x st f fd) (S : qB N ps (qd st)) (hm : mg x = some (.ref f)) (hb : Binds K fd ps []) (hn : ps.length = n) (body : Zn P w K mg base k N x st f fun E => tS mg K E r)
  (hr : ∀ ds : List D, ds.length = n -> g ds = .no \/ res (r (sl0 N ds)) = g ds) : Fd P w K mg base (k + 1) x n g := Yu F S hm hb hn (fun cdv A outer s H E h => body cdv A outer s H E h S.nd (V4 S.nd)) hr
end
end L2.Ir
namespace Lw
open PySem.W (nsIn codeIn keepIn fnOf mg_of mg_none_of nsOkIn findIn makesIn isFn plainGet hasDictIn plainOver tabIn Frag)
open PySem PySem.Spec PyProof.Rows L2 L2.Ir Dt 
noncomputable def top (i : Nat) : Stmt := PySem.Challenge.pw_doubletables_s01_step.main.body.getD i (.Pass ⟨0, 0, 0, 0⟩)
theorem xl {α : Type} {p : List α -> Prop} (h : ∀ a0, p [a0]) : ∀ us, us.length = 1 -> p us
 | [_], _ => h _
theorem QV {α : Type} {p : List α -> Prop} (h : ∀ a0 a1, p [a0, a1]) : ∀ us, us.length = 2 -> p us
 | [_, _], _ => h _ _
theorem Yr {α : Type} {p : List α -> Prop} (h : ∀ a0 a1 a2, p [a0, a1, a2]) : ∀ us, us.length = 3 -> p us
 | [_, _, _], _ => h _ _ _
theorem jC {α : Type} {p : List α -> Prop} (h : ∀ a0 a1 a2 a3, p [a0, a1, a2, a3]) : ∀ us, us.length = 4 -> p us
 | [_, _, _, _], _ => h _ _ _ _
theorem wu {N P : List Str} {sc : Scope} (a : sc.kind = .function) (b : sc.isCoroutine = false) (c : sc.isGenerator = false) (d : N.take P.length = P) (h : N.Nodup /\ (∀ x ∈ P, sc.names.lookup x = some .local \/ sc.names.lookup x = some .cell) /\ ∀ y ∈ sc.names, y.2 ≠ .free) : qB N P sc := ⟨a, b, c, h.1, d, h.2.1, h.2.2⟩
section
variable {P : Program} {w : World} {K : Frag} {mg : Str -> Option Value} {base : Heap}
theorem jI : qB ["x"] ["x"] (qd (top 8)) := wu rfl rfl rfl rfl (by decide +kernel)
theorem jf {f : Addr} {fd : FuncData} (F : Fun K "sign_of" "sign_of" (top 8) f fd) (hm : mg "sign_of" = some (.ref f)) (hb : Binds K fd ["x"] [])  : Fd P w K mg base 1 "sign_of" 1 Dt.qu :=
 fd2 (r := Dt.zz) F jI hm hb rfl (fun _ _ _ _ _ _ hr nd G => (qv (qP (qh jW jm (xv 0) qx)))) Dt.jB
theorem jv : qB ["x"] ["x"] (qd (top 9)) := wu rfl rfl rfl rfl (by decide +kernel)
theorem jE {f : Addr} {fd : FuncData} (F : Fun K "size_of" "size_of" (top 9) f fd) (hm : mg "size_of" = some (.ref f)) (hb : Binds K fd ["x"] []) (c_SIGN_BIT : ∃ t, mg "SIGN_BIT" = some (.int 9223372036854775808 t)) : Fd P w K mg base 1 "size_of" 1 Dt.qF :=
 fd2 (r := Dt.zB) F jv hm hb rfl (fun _ _ _ _ _ _ hr nd G => (qv (qP (qh jg (zT _) (xv 0) (qh vu vw (qX rfl c_SIGN_BIT) qx))))) Dt.jO
theorem jb : qB ["x"] ["x"] (qd (top 10)) := wu rfl rfl rfl rfl (by decide +kernel)
theorem ja {f : Addr} {fd : FuncData} (F : Fun K "opposite" "opposite" (top 10) f fd) (hm : mg "opposite" = some (.ref f)) (hb : Binds K fd ["x"] []) (c_SIGN_BIT : ∃ t, mg "SIGN_BIT" = some (.int 9223372036854775808 t)) : Fd P w K mg base 1 "opposite" 1 Dt.vF :=
 fd2 (r := Dt.wZ) F jb hm hb rfl (fun _ _ _ _ _ _ hr nd G => (qv (qP (qh x5 (zT _) (xv 0) (qX rfl c_SIGN_BIT))))) Dt.uS
theorem xY : qB ["x"] ["x"] (qd (top 11)) := wu rfl rfl rfl rfl (by decide +kernel)
theorem ui {f : Addr} {fd : FuncData} (F : Fun K "is_finite" "is_finite" (top 11) f fd) (hm : mg "is_finite" = some (.ref f)) (hb : Binds K fd ["x"] []) (c_INFINITE : ∃ t, mg "INFINITE" = some (.int 9218868437227405312 t)) (f_size_of : Fd P w K mg base 1 "size_of" 1 Dt.qF) : Fd P w K mg base 2 "is_finite" 1 Dt.vp :=
 fd2 (r := Dt.wx) F xY hm hb rfl (fun _ _ _ _ _ _ hr nd G => (qv (qP (QU Q8 (zS _) (q0 _) (qi G.acc f_size_of (hr.mono (by decide)) rfl (.cons (.nil)) (qc (xv 0) qk)) (qX rfl c_INFINITE))))) Dt.ur
theorem jA : qB ["x"] ["x"] (qd (top 12)) := wu rfl rfl rfl rfl (by decide +kernel)
theorem jR {f : Addr} {fd : FuncData} (F : Fun K "is_zero" "is_zero" (top 12) f fd) (hm : mg "is_zero" = some (.ref f)) (hb : Binds K fd ["x"] []) (f_size_of : Fd P w K mg base 1 "size_of" 1 Dt.qF) : Fd P w K mg base 2 "is_zero" 1 Dt.vj :=
 fd2 (r := Dt.zG) F jA hm hb rfl (fun _ _ _ _ _ _ hr nd G => (qv (qP (QU (vO hr.units) wz (q0 _) (qi G.acc f_size_of (hr.mono (by decide)) rfl (.cons (.nil)) (qc (xv 0) qk)) qx)))) Dt.jK
theorem uR : qB ["x", "fraction"] ["x"] (qd (top 13)) := wu rfl rfl rfl rfl (by decide +kernel)
theorem uX {f : Addr} {fd : FuncData} (F : Fun K "whole_of" "whole_of" (top 13) f fd) (hm : mg "whole_of" = some (.ref f)) (hb : Binds K fd ["x"] []) (c_FRACTION_BITS : ∃ t, mg "FRACTION_BITS" = some (.int 52 t)) (f_size_of : Fd P w K mg base 1 "size_of" 1 Dt.qF) : Fd P w K mg base 2 "whole_of" 1 Dt.qt :=
 fd2 (r := Dt.w4) F uR hm hb rfl (fun _ _ _ _ _ _ hr nd G => (qo (wt 1 G (qh jg (zT _) (xv 0) (qh vu vw (qh vm vL qx (qX rfl c_FRACTION_BITS)) qx))) (qo (vZ (vg (vO hr.units) wz (q0 _) (qi G.acc f_size_of (hr.mono (by decide)) rfl (.cons (.nil)) (qc (xv 0) qk)) (xv 1)) (qv (WW 1)) vd) (qv (qP (qh vl vK (xv 1) (qh vm vL qx (qX rfl c_FRACTION_BITS)))))))) Dt.uP
theorem yz : qB ["x"] ["x"] (qd (top 14)) := wu rfl rfl rfl rfl (by decide +kernel)
theorem yB {f : Addr} {fd : FuncData} (F : Fun K "signed_whole" "signed_whole" (top 14) f fd) (hm : mg "signed_whole" = some (.ref f)) (hb : Binds K fd ["x"] []) (f_sign_of : Fd P w K mg base 1 "sign_of" 1 Dt.qu) (f_whole_of : Fd P w K mg base 2 "whole_of" 1 Dt.qt) : Fd P w K mg base 3 "signed_whole" 1 Dt.qA :=
 fd2 (r := Dt.vN) F yz hm hb rfl (fun _ _ _ _ _ _ hr nd G => (qv (qP (Q5 (vg (vO hr.units) wz (q0 _) (qi G.acc f_sign_of (hr.mono (by decide)) rfl (.cons (.nil)) (qc (xv 0) qk)) qx) (VY (qi G.acc f_whole_of (hr.mono (by decide)) rfl (.cons (.nil)) (qc (xv 0) qk))) (qi G.acc f_whole_of (hr.mono (by decide)) rfl (.cons (.nil)) (qc (xv 0) qk)))))) Dt.yx
theorem uI : qB ["x"] ["x"] (qd (top 15)) := wu rfl rfl rfl rfl (by decide +kernel)
theorem uE {f : Addr} {fd : FuncData} (F : Fun K "power_of" "power_of" (top 15) f fd) (hm : mg "power_of" = some (.ref f)) (hb : Binds K fd ["x"] []) (c_FRACTION_BITS : ∃ t, mg "FRACTION_BITS" = some (.int 52 t)) (c_LEAST_POWER : ∃ t, mg "LEAST_POWER" = some (.int (-1074) t)) (n_max : mg "max" = none) (f_size_of : Fd P w K mg base 1 "size_of" 1 Dt.qF) : Fd P w K mg base 2 "power_of" 1 Dt.qm :=
 fd2 (r := Dt.wV) F uI hm hb rfl (fun _ _ _ _ _ _ hr nd G => (qv (qP (qh vl vK (qh vu vw (uu (zY (xJ rfl) rfl n_max xD (qc (qh jW jm (qi G.acc f_size_of (hr.mono (by decide)) rfl (.cons (.nil)) (qc (xv 0) qk)) (qX rfl c_FRACTION_BITS)) (qc qx qk))) VM) qx) (qX rfl c_LEAST_POWER))))) Dt.uQ
theorem ye : qB ["whole", "drop", "kept", "left", "half"] ["whole", "drop"] (qd (top 16)) := wu rfl rfl rfl rfl (by decide +kernel)
theorem yk {f : Addr} {fd : FuncData} (F : Fun K "nearest_whole" "nearest_whole" (top 16) f fd) (hm : mg "nearest_whole" = some (.ref f)) (hb : Binds K fd ["whole", "drop"] [])  : Fd P w K mg base 1 "nearest_whole" 2 Dt.qL :=
 fd2 (r := Dt.vD) F ye hm hb rfl (fun _ _ _ _ _ _ hr nd G => (qo (vZ (vg Yy (zS _) (q0 _) (xv 1) qx) (qv (qP (qh vm vL (xv 0) (VY (xv 1))))) vd) (qo (wt 2 G (qh jW jm (xv 0) (xv 1))) (qo (wt 3 G (qh vu vw (xv 0) (qh vm vL (xv 2) (xv 1)))) (qo (wt 4 G (qh vm vL qx (qh vu vw (xv 1) qx))) (qo (vZ (Qo (Yv (vg W7 (zS _) (q0 _) (xv 3) (xv 4)) (ZM (Qo (Zm (vg (vO hr.units) wz (q0 _) (xv 3) (xv 4)) (WC (vg (vO hr.units) wz (q0 _) (qh jZ jF (xv 2) qx) qx))))))) (qv (qP (qh vl vK (xv 2) qx))) vd) (qv (WW 2)))))))) Dt.yf
theorem jD : qB ["sign", "whole", "power", "drop", "kept", "size"] ["sign", "whole", "power"] (qd (top 17)) := wu rfl rfl rfl rfl (by decide +kernel)
theorem j4 {f : Addr} {fd : FuncData} (F : Fun K "rounded" "rounded" (top 17) f fd) (hm : mg "rounded" = some (.ref f)) (hb : Binds K fd ["sign", "whole", "power"] []) {C_StepNotFinite : Addr} (c_FRACTION_BITS : ∃ t, mg "FRACTION_BITS" = some (.int 52 t)) (c_INFINITE : ∃ t, mg "INFINITE" = some (.int 9218868437227405312 t)) (c_LEAST_POWER : ∃ t, mg "LEAST_POWER" = some (.int (-1074) t)) (n_max : mg "max" = none) (m_StepNotFinite : mg "StepNotFinite" = some (.ref C_StepNotFinite)) (x_StepNotFinite : qI K C_StepNotFinite = true) (f_nearest_whole : Fd P w K mg base 1 "nearest_whole" 2 Dt.qL) : Fd P w K mg base 2 "rounded" 3 Dt.qN :=
 fd2 (r := Dt.zA) F jD hm hb rfl (fun _ _ _ _ _ _ hr nd G => (qo (vZ (vg (vO hr.units) wz (q0 _) (xv 1) qx) (qv (qP (qh vm vL (xv 0) qx))) vd) (qo (wt 3 G (uu (zY (xJ rfl) rfl n_max xD (qc (qh vu vw (qh vu vw (Qq (Vi PySem.F.plainAttrs_int PySem.F.slot_int_bit_length PySem.F.type_int_bit_length j6 (xv 1))) (qX rfl c_FRACTION_BITS)) qx) (qc (qh vu vw (qX rfl c_LEAST_POWER) (xv 2)) qk))) VM)) (qo (wt 4 G (qi G.acc f_nearest_whole (hr.mono (by decide)) rfl (.cons (.cons (.nil))) (qc (xv 1) (qc (xv 3) qk)))) (qo (wt 5 G (qh vl vK (qh vm vL (qh vu vw (qh vl vK (xv 2) (xv 3)) (qX rfl c_LEAST_POWER)) (qX rfl c_FRACTION_BITS)) (xv 4))) (qo (vZ (vg Yt (zS _) (q0 _) (xv 5) (qX rfl c_INFINITE)) (qv (zh G rfl m_StepNotFinite x_StepNotFinite)) vd) (qv (qP (qh vl vK (qh vm vL (xv 0) qx) (xv 5)))))))))) Dt.jq
theorem ze : qB ["sign", "whole", "left", "power", "behind"] ["sign", "whole", "left", "power"] (qd (top 18)) := wu rfl rfl rfl rfl (by decide +kernel)
theorem zc {f : Addr} {fd : FuncData} (F : Fun K "rounded_with_rest" "rounded_with_rest" (top 18) f fd) (hm : mg "rounded_with_rest" = some (.ref f)) (hb : Binds K fd ["sign", "whole", "left", "power"] []) (f_rounded : Fd P w K mg base 2 "rounded" 3 Dt.qN) : Fd P w K mg base 3 "rounded_with_rest" 4 Dt.qw :=
 fd2 (r := Dt.vc) F ze hm hb rfl (fun _ _ _ _ _ _ hr nd G => (qo (wt 4 G (Q5 (vg (vO hr.units) wz (q0 _) (xv 2) qx) qx qx)) (qv (qP (qi G.acc f_rounded (hr.mono (by decide)) rfl (.cons (.cons (.cons (.nil)))) (qc (xv 0) (qc (qh vl vK (qh (yS.or xQ) ua (xv 1) qx) (xv 4)) (qc (qh vu vw (xv 3) qx) qk)))))))) Dt.za
theorem Vf : qB ["x", "y", "z", "power", "low", "product_part", "total"] ["x", "y", "z"] (qd (top 19)) := wu rfl rfl rfl rfl (by decide +kernel)
theorem VJ {f : Addr} {fd : FuncData} (F : Fun K "fused" "fused" (top 19) f fd) (hm : mg "fused" = some (.ref f)) (hb : Binds K fd ["x", "y", "z"] []) (n_abs : mg "abs" = none) (n_min : mg "min" = none) (f_power_of : Fd P w K mg base 2 "power_of" 1 Dt.qm) (f_rounded : Fd P w K mg base 2 "rounded" 3 Dt.qN) (f_sign_of : Fd P w K mg base 1 "sign_of" 1 Dt.qu) (f_signed_whole : Fd P w K mg base 3 "signed_whole" 1 Dt.qA) : Fd P w K mg base 4 "fused" 3 Dt.wd :=
 fd2 (r := Dt.yQ) F Vf hm hb rfl (fun _ _ _ _ _ _ hr nd G => (qo (wt 3 G (qh vl vK (qi G.acc f_power_of (hr.mono (by decide)) rfl (.cons (.nil)) (qc (xv 0) qk)) (qi G.acc f_power_of (hr.mono (by decide)) rfl (.cons (.nil)) (qc (xv 1) qk)))) (qo (wt 4 G (uu (zY (Qz rfl) rfl n_min QI (qc (xv 3) (qc (qi G.acc f_power_of (hr.mono (by decide)) rfl (.cons (.nil)) (qc (xv 2) qk)) qk))) Zz)) (qo (wt 5 G (qh vm vL (qh (yS.or xQ) ua (qi G.acc f_signed_whole (hr.mono (by decide)) rfl (.cons (.nil)) (qc (xv 0) qk)) (qi G.acc f_signed_whole (hr.mono (by decide)) rfl (.cons (.nil)) (qc (xv 1) qk))) (qh vu vw (xv 3) (xv 4)))) (qo (wt 6 G (qh vl vK (xv 5) (qh vm vL (qi G.acc f_signed_whole (hr.mono (by decide)) rfl (.cons (.nil)) (qc (xv 2) qk)) (qh vu vw (qi G.acc f_power_of (hr.mono (by decide)) rfl (.cons (.nil)) (qc (xv 2) qk)) (xv 4))))) (qo (vZ (vg (vO hr.units) wz (q0 _) (xv 6) qx) (qv (qP (qh vm vL (qh jg (zT _) (qh x5 (zT _) (qi G.acc f_sign_of (hr.mono (by decide)) rfl (.cons (.nil)) (qc (xv 0) qk)) (qi G.acc f_sign_of (hr.mono (by decide)) rfl (.cons (.nil)) (qc (xv 1) qk))) (qi G.acc f_sign_of (hr.mono (by decide)) rfl (.cons (.nil)) (qc (xv 2) qk))) qx))) vd) (qv (qP (qi G.acc f_rounded (hr.mono (by decide)) rfl (.cons (.cons (.cons (.nil)))) (qc (Q5 (vg Q8 (zS _) (q0 _) (xv 6) qx) qx qx) (qc (uu (zY Vn rfl n_abs QH (qc (xv 6) qk)) ZL) (qc (xv 4) qk)))))))))))) Dt.Va
theorem We : qB ["x", "y"] ["x", "y"] (qd (top 20)) := wu rfl rfl rfl rfl (by decide +kernel)
theorem WG {f : Addr} {fd : FuncData} (F : Fun K "plus" "plus" (top 20) f fd) (hm : mg "plus" = some (.ref f)) (hb : Binds K fd ["x", "y"] []) (c_ONE : ∃ t, mg "ONE" = some (.int 4607182418800017408 t)) (f_fused : Fd P w K mg base 4 "fused" 3 Dt.wd) : Fd P w K mg base 5 "plus" 2 Dt.wQ :=
 fd2 (r := Dt.xZ) F We hm hb rfl (fun _ _ _ _ _ _ hr nd G => (qv (qP (qi G.acc f_fused (hr.mono (by decide)) rfl (.cons (.cons (.cons (.nil)))) (qc (xv 0) (qc (qX rfl c_ONE) (qc (xv 1) qk))))))) Dt.Wv
theorem VC : qB ["x", "y"] ["x", "y"] (qd (top 21)) := wu rfl rfl rfl rfl (by decide +kernel)
theorem QT {f : Addr} {fd : FuncData} (F : Fun K "minus" "minus" (top 21) f fd) (hm : mg "minus" = some (.ref f)) (hb : Binds K fd ["x", "y"] []) (f_opposite : Fd P w K mg base 1 "opposite" 1 Dt.vF) (f_plus : Fd P w K mg base 5 "plus" 2 Dt.wQ) : Fd P w K mg base 6 "minus" 2 Dt.zu :=
 fd2 (r := Dt.yO) F VC hm hb rfl (fun _ _ _ _ _ _ hr nd G => (qv (qP (qi G.acc f_plus (hr.mono (by decide)) rfl (.cons (.cons (.nil))) (qc (xv 0) (qc (qi G.acc f_opposite (hr.mono (by decide)) rfl (.cons (.nil)) (qc (xv 1) qk)) qk)))))) Dt.Vw
theorem jH : qB ["x", "y"] ["x", "y"] (qd (top 22)) := wu rfl rfl rfl rfl (by decide +kernel)
theorem jn {f : Addr} {fd : FuncData} (F : Fun K "product" "product" (top 22) f fd) (hm : mg "product" = some (.ref f)) (hb : Binds K fd ["x", "y"] []) (f_power_of : Fd P w K mg base 2 "power_of" 1 Dt.qm) (f_rounded : Fd P w K mg base 2 "rounded" 3 Dt.qN) (f_sign_of : Fd P w K mg base 1 "sign_of" 1 Dt.qu) (f_whole_of : Fd P w K mg base 2 "whole_of" 1 Dt.qt) : Fd P w K mg base 3 "product" 2 Dt.wg :=
 fd2 (r := Dt.zD) F jH hm hb rfl (fun _ _ _ _ _ _ hr nd G => (qv (qP (qi G.acc f_rounded (hr.mono (by decide)) rfl (.cons (.cons (.cons (.nil)))) (qc (qh x5 (zT _) (qi G.acc f_sign_of (hr.mono (by decide)) rfl (.cons (.nil)) (qc (xv 0) qk)) (qi G.acc f_sign_of (hr.mono (by decide)) rfl (.cons (.nil)) (qc (xv 1) qk))) (qc (qh (yS.or xQ) ua (qi G.acc f_whole_of (hr.mono (by decide)) rfl (.cons (.nil)) (qc (xv 0) qk)) (qi G.acc f_whole_of (hr.mono (by decide)) rfl (.cons (.nil)) (qc (xv 1) qk))) (qc (qh vl vK (qi G.acc f_power_of (hr.mono (by decide)) rfl (.cons (.nil)) (qc (xv 0) qk)) (qi G.acc f_power_of (hr.mono (by decide)) rfl (.cons (.nil)) (qc (xv 1) qk))) qk))))))) Dt.jt
theorem uL : qB ["x", "y", "widened", "whole", "left"] ["x", "y"] (qd (top 23)) := wu rfl rfl rfl rfl (by decide +kernel)
theorem uY {f : Addr} {fd : FuncData} (F : Fun K "quotient" "quotient" (top 23) f fd) (hm : mg "quotient" = some (.ref f)) (hb : Binds K fd ["x", "y"] []) {C_StepNotFinite : Addr} (c_WIDER : ∃ t, mg "WIDER" = some (.int 112 t)) (m_StepNotFinite : mg "StepNotFinite" = some (.ref C_StepNotFinite)) (x_StepNotFinite : qI K C_StepNotFinite = true) (f_is_zero : Fd P w K mg base 2 "is_zero" 1 Dt.vj) (f_power_of : Fd P w K mg base 2 "power_of" 1 Dt.qm) (f_rounded_with_rest : Fd P w K mg base 3 "rounded_with_rest" 4 Dt.qw) (f_sign_of : Fd P w K mg base 1 "sign_of" 1 Dt.qu) (f_whole_of : Fd P w K mg base 2 "whole_of" 1 Dt.qt) : Fd P w K mg base 4 "quotient" 2 Dt.vT :=
 fd2 (r := Dt.wR) F uL hm hb rfl (fun _ _ _ _ _ _ hr nd G => (qo (vZ (jY (qi G.acc f_is_zero (hr.mono (by decide)) rfl (.cons (.nil)) (qc (xv 1) qk))) (qv (zh G rfl m_StepNotFinite x_StepNotFinite)) vd) (qo (wt 2 G (qh vm vL (qi G.acc f_whole_of (hr.mono (by decide)) rfl (.cons (.nil)) (qc (xv 0) qk)) (qX rfl c_WIDER))) (qo (wt 3 G (qh wq w6 (xv 2) (qi G.acc f_whole_of (hr.mono (by decide)) rfl (.cons (.nil)) (qc (xv 1) qk)))) (qo (wt 4 G (qh jZ jF (xv 2) (qi G.acc f_whole_of (hr.mono (by decide)) rfl (.cons (.nil)) (qc (xv 1) qk)))) (qv (qP (qi G.acc f_rounded_with_rest (hr.mono (by decide)) rfl (.cons (.cons (.cons (.cons (.nil))))) (qc (qh x5 (zT _) (qi G.acc f_sign_of (hr.mono (by decide)) rfl (.cons (.nil)) (qc (xv 0) qk)) (qi G.acc f_sign_of (hr.mono (by decide)) rfl (.cons (.nil)) (qc (xv 1) qk))) (qc (xv 3) (qc (xv 4) (qc (qh vu vw (qh vu vw (qi G.acc f_power_of (hr.mono (by decide)) rfl (.cons (.nil)) (qc (xv 0) qk)) (qi G.acc f_power_of (hr.mono (by decide)) rfl (.cons (.nil)) (qc (xv 1) qk))) (qX rfl c_WIDER)) qk)))))))))))) Dt.uZ
theorem xy : qB ["whole", "guess", "better"] ["whole"] (qd (top 24)) := wu rfl rfl rfl rfl (by decide +kernel)
theorem xx {f : Addr} {fd : FuncData} (F : Fun K "whole_root" "whole_root" (top 24) f fd) (hm : mg "whole_root" = some (.ref f)) (hb : Binds K fd ["whole"] [])  : Fd P w K mg base 1 "whole_root" 1 Dt.vf :=
 fd2 (r := Dt.wa) F xy hm hb rfl (fun _ _ _ _ _ _ hr nd G => (qo (wt 1 G (qh vm vL qx (qh wq w6 (qh vl vK (Qq (Vi PySem.F.plainAttrs_int PySem.F.slot_int_bit_length PySem.F.type_int_bit_length j6 (xv 0))) qx) qx))) (qo (wt 2 G (qh wq w6 (qh vl vK (xv 1) (qh wq w6 (xv 0) (xv 1))) qx)) (qo (Vh G (vg Q8 (zS _) (q0 _) (xv 2) (xv 1)) (qo (wt 1 G (xv 2)) (qv (wt 2 G (qh wq w6 (qh vl vK (xv 1) (qh wq w6 (xv 0) (xv 1))) qx))))) (qv (WW 1)))))) Dt.xu
theorem WU : qB ["x", "odd", "widened", "whole"] ["x"] (qd (top 25)) := wu rfl rfl rfl rfl (by decide +kernel)
theorem Wj {f : Addr} {fd : FuncData} (F : Fun K "root" "root" (top 25) f fd) (hm : mg "root" = some (.ref f)) (hb : Binds K fd ["x"] []) {C_StepNotFinite : Addr} (c_WIDER : ∃ t, mg "WIDER" = some (.int 112 t)) (m_StepNotFinite : mg "StepNotFinite" = some (.ref C_StepNotFinite)) (x_StepNotFinite : qI K C_StepNotFinite = true) (f_is_zero : Fd P w K mg base 2 "is_zero" 1 Dt.vj) (f_power_of : Fd P w K mg base 2 "power_of" 1 Dt.qm) (f_rounded_with_rest : Fd P w K mg base 3 "rounded_with_rest" 4 Dt.qw) (f_sign_of : Fd P w K mg base 1 "sign_of" 1 Dt.qu) (f_whole_of : Fd P w K mg base 2 "whole_of" 1 Dt.qt) (f_whole_root : Fd P w K mg base 1 "whole_root" 1 Dt.vf) : Fd P w K mg base 4 "root" 1 Dt.yh :=
 fd2 (r := Dt.ud) F WU hm hb rfl (fun _ _ _ _ _ _ hr nd G => (qo (vZ (jY (qi G.acc f_is_zero (hr.mono (by decide)) rfl (.cons (.nil)) (qc (xv 0) qk))) (qv (WW 0)) vd) (qo (vZ (vg (vO hr.units) wz (q0 _) (qi G.acc f_sign_of (hr.mono (by decide)) rfl (.cons (.nil)) (qc (xv 0) qk)) qx) (qv (zh G rfl m_StepNotFinite x_StepNotFinite)) vd) (qo (wt 1 G (qh jZ jF (qi G.acc f_power_of (hr.mono (by decide)) rfl (.cons (.nil)) (qc (xv 0) qk)) qx)) (qo (wt 2 G (qh vm vL (qi G.acc f_whole_of (hr.mono (by decide)) rfl (.cons (.nil)) (qc (xv 0) qk)) (qh vl vK (qX rfl c_WIDER) (xv 1)))) (qo (wt 3 G (qi G.acc f_whole_root (hr.mono (by decide)) rfl (.cons (.nil)) (qc (xv 2) qk))) (qv (qP (qi G.acc f_rounded_with_rest (hr.mono (by decide)) rfl (.cons (.cons (.cons (.cons (.nil))))) (qc qx (qc (xv 3) (qc (qh vu vw (xv 2) (qh (yS.or xQ) ua (xv 3) (xv 3))) (qc (qh wq w6 (qh vu vw (qh vu vw (qi G.acc f_power_of (hr.mono (by decide)) rfl (.cons (.nil)) (qc (xv 0) qk)) (xv 1)) (qX rfl c_WIDER)) qx) qk))))))))))))) Dt.Wn
theorem yw : qB ["numbers", "x"] ["numbers"] (qd (top 31)) := wu rfl rfl rfl rfl (by decide +kernel)
theorem yy {f : Addr} {fd : FuncData} (F : Fun K "check_finite" "check_finite" (top 31) f fd) (hm : mg "check_finite" = some (.ref f)) (hb : Binds K fd ["numbers"] []) {C_NotFinite : Addr} (m_NotFinite : mg "NotFinite" = some (.ref C_NotFinite)) (x_NotFinite : qI K C_NotFinite = true) (f_is_finite : Fd P w K mg base 2 "is_finite" 1 Dt.vp) : Fd P w K mg base 3 "check_finite" 1 Dt.qG :=
 fd2 (r := Dt.vI) F yw hm hb rfl (fun _ _ _ _ _ _ hr nd G => (qv (V7 G (WT (i := 1) (xv 0)) (pgn 1 nd) (qv (vZ (Zl (jY (qi G.acc f_is_finite (hr.mono (by decide)) rfl (.cons (.nil)) (qc (xv 1) qk)))) (qv (zh G rfl m_NotFinite x_NotFinite)) vd))))) Dt.yC
theorem ug : qB ["which", "x", "y", "z"] ["which", "x", "y", "z"] (qd (top 33)) := wu rfl rfl rfl rfl (by decide +kernel)
theorem uw {f : Addr} {fd : FuncData} (F : Fun K "step_told" "step_told" (top 33) f fd) (hm : mg "step_told" = some (.ref f)) (hb : Binds K fd ["which", "x", "y", "z"] []) {C_WrongCount : Addr} (m_WrongCount : mg "WrongCount" = some (.ref C_WrongCount)) (x_WrongCount : qI K C_WrongCount = true) (f_check_finite : Fd P w K mg base 3 "check_finite" 1 Dt.qG) (f_fused : Fd P w K mg base 4 "fused" 3 Dt.wd) (f_minus : Fd P w K mg base 6 "minus" 2 Dt.zu) (f_plus : Fd P w K mg base 5 "plus" 2 Dt.wQ) (f_product : Fd P w K mg base 3 "product" 2 Dt.wg) (f_quotient : Fd P w K mg base 4 "quotient" 2 Dt.vT) (f_root : Fd P w K mg base 4 "root" 1 Dt.yh) : Fd P w K mg base 7 "step_told" 4 Dt.vt :=
 fd2 (r := Dt.wB) F ug hm hb rfl (fun _ _ _ _ _ _ hr nd G => (qo (vZ (vg W7 (zS _) (q0 _) (xv 0) qx) (qv (zh G rfl m_WrongCount x_WrongCount)) vd) (qo (Wy (qi G.acc f_check_finite (hr.mono (by decide)) rfl (.cons (.nil)) (qc (zO (qc (xv 1) (qc (xv 2) (qc (xv 3) qk)))) qk))) (qo (vZ (vg (vO hr.units) wz (q0 _) (xv 0) qx) (qv (qP (zO (qc (qi G.acc f_plus (hr.mono (by decide)) rfl (.cons (.cons (.nil))) (qc (xv 1) (qc (xv 2) qk))) qk)))) vd) (qo (vZ (vg (vO hr.units) wz (q0 _) (xv 0) qx) (qv (qP (zO (qc (qi G.acc f_minus (hr.mono (by decide)) rfl (.cons (.cons (.nil))) (qc (xv 1) (qc (xv 2) qk))) qk)))) vd) (qo (vZ (vg (vO hr.units) wz (q0 _) (xv 0) qx) (qv (qP (zO (qc (qi G.acc f_product (hr.mono (by decide)) rfl (.cons (.cons (.nil))) (qc (xv 1) (qc (xv 2) qk))) qk)))) vd) (qo (vZ (vg (vO hr.units) wz (q0 _) (xv 0) qx) (qv (qP (zO (qc (qi G.acc f_quotient (hr.mono (by decide)) rfl (.cons (.cons (.nil))) (qc (xv 1) (qc (xv 2) qk))) qk)))) vd) (qo (vZ (vg (vO hr.units) wz (q0 _) (xv 0) qx) (qv (qP (zO (qc (qi G.acc f_root (hr.mono (by decide)) rfl (.cons (.nil)) (qc (xv 1) qk)) qk)))) vd) (qv (qP (zO (qc (qi G.acc f_fused (hr.mono (by decide)) rfl (.cons (.cons (.cons (.nil)))) (qc (xv 1) (qc (xv 2) (qc (xv 3) qk)))) qk)))))))))))) Dt.x9
end
theorem u0 : qB ["work", "told"] ["work"] (qd (top 30)) := wu rfl rfl rfl rfl (by decide +kernel)
theorem V8 : qB ["which", "x", "y", "z"] ["which", "x", "y", "z"] (qd (top 34)) := wu rfl rfl rfl rfl (by decide +kernel)
noncomputable def YJ : Scope := match qz (top 34) with
 | [.Return (some (.Call _ (.Lambda _ _ ls _ :: _) _ _)) _] => ls
 | _ => qd (top 34)
theorem Vl : ya (qd (top 34)) YJ := ⟨rfl, rfl, rfl, by decide +kernel, by decide +kernel, by decide +kernel⟩
theorem all_mk {P : Program} {w : World} {K : Frag} {h : Heap} {mg : Str -> Option Value} {fa c PT : Addr} (X : K.In h) (G : h.Ns mainGlobals mg) (hfa : mg "step" = some (.ref fa))
  {f_x0 : Addr} {oc_x0 kV_x0 dc_x0 pm_x0 cd_x0 ct_x0 : Value} {od_x0 an_x0 : Option Addr} {sl_x0 : Array (Option Value)}
  {f_x1 : Addr} {oc_x1 kV_x1 dc_x1 pm_x1 cd_x1 ct_x1 : Value} {od_x1 an_x1 : Option Addr} {sl_x1 : Array (Option Value)}
  {f_x2 : Addr} {oc_x2 kV_x2 dc_x2 pm_x2 cd_x2 ct_x2 : Value} {od_x2 an_x2 : Option Addr} {sl_x2 : Array (Option Value)}
  {f_x3 : Addr} {oc_x3 kV_x3 dc_x3 pm_x3 cd_x3 ct_x3 : Value} {od_x3 an_x3 : Option Addr} {sl_x3 : Array (Option Value)}
  {f_x4 : Addr} {oc_x4 kV_x4 dc_x4 pm_x4 cd_x4 ct_x4 : Value} {od_x4 an_x4 : Option Addr} {sl_x4 : Array (Option Value)}
  {f_x5 : Addr} {oc_x5 kV_x5 dc_x5 pm_x5 cd_x5 ct_x5 : Value} {od_x5 an_x5 : Option Addr} {sl_x5 : Array (Option Value)}
  {f_x6 : Addr} {oc_x6 kV_x6 dc_x6 pm_x6 cd_x6 ct_x6 : Value} {od_x6 an_x6 : Option Addr} {sl_x6 : Array (Option Value)}
  {f_x7 : Addr} {oc_x7 kV_x7 dc_x7 pm_x7 cd_x7 ct_x7 : Value} {od_x7 an_x7 : Option Addr} {sl_x7 : Array (Option Value)}
  {f_x8 : Addr} {oc_x8 kV_x8 dc_x8 pm_x8 cd_x8 ct_x8 : Value} {od_x8 an_x8 : Option Addr} {sl_x8 : Array (Option Value)}
  {f_x9 : Addr} {oc_x9 kV_x9 dc_x9 pm_x9 cd_x9 ct_x9 : Value} {od_x9 an_x9 : Option Addr} {sl_x9 : Array (Option Value)}
  {f_x10 : Addr} {oc_x10 kV_x10 dc_x10 pm_x10 cd_x10 ct_x10 : Value} {od_x10 an_x10 : Option Addr} {sl_x10 : Array (Option Value)}
  {f_x11 : Addr} {oc_x11 kV_x11 dc_x11 pm_x11 cd_x11 ct_x11 : Value} {od_x11 an_x11 : Option Addr} {sl_x11 : Array (Option Value)}
  {f_x12 : Addr} {oc_x12 kV_x12 dc_x12 pm_x12 cd_x12 ct_x12 : Value} {od_x12 an_x12 : Option Addr} {sl_x12 : Array (Option Value)}
  {f_x13 : Addr} {oc_x13 kV_x13 dc_x13 pm_x13 cd_x13 ct_x13 : Value} {od_x13 an_x13 : Option Addr} {sl_x13 : Array (Option Value)}
  {f_x14 : Addr} {oc_x14 kV_x14 dc_x14 pm_x14 cd_x14 ct_x14 : Value} {od_x14 an_x14 : Option Addr} {sl_x14 : Array (Option Value)}
  {f_x15 : Addr} {oc_x15 kV_x15 dc_x15 pm_x15 cd_x15 ct_x15 : Value} {od_x15 an_x15 : Option Addr} {sl_x15 : Array (Option Value)}
  {f_x16 : Addr} {oc_x16 kV_x16 dc_x16 pm_x16 cd_x16 ct_x16 : Value} {od_x16 an_x16 : Option Addr} {sl_x16 : Array (Option Value)}
  {f_x17 : Addr} {oc_x17 kV_x17 dc_x17 pm_x17 cd_x17 ct_x17 : Value} {od_x17 an_x17 : Option Addr} {sl_x17 : Array (Option Value)}
  {f_x18 : Addr} {oc_x18 kV_x18 dc_x18 pm_x18 cd_x18 ct_x18 : Value} {od_x18 an_x18 : Option Addr} {sl_x18 : Array (Option Value)}
  {f_x19 : Addr} {oc_x19 kV_x19 dc_x19 pm_x19 cd_x19 ct_x19 : Value} {od_x19 an_x19 : Option Addr} {sl_x19 : Array (Option Value)}
  {f_x20 : Addr} {oc_x20 kV_x20 dc_x20 pm_x20 cd_x20 ct_x20 : Value} {od_x20 an_x20 : Option Addr} {sl_x20 : Array (Option Value)}
  {f_x21 : Addr} {oc_x21 kV_x21 dc_x21 pm_x21 cd_x21 ct_x21 : Value} {od_x21 an_x21 : Option Addr} {sl_x21 : Array (Option Value)}
  {C_WrongCount C_NotFinite C_StepNotFinite C_NotAsTold : Addr}
  {t_FRACTION_BITS : _}
  {t_INFINITE : _}
  {t_LEAST_POWER : _}
  {t_ONE : _}
  {t_SIGN_BIT : _}
  {t_WIDER : _}
  {N_WrongCount : Addr} {nm_WrongCount qn_WrongCount bs_WrongCount hdct_WrongCount sn_WrongCount sub_WrongCount ab_WrongCount col_WrongCount dd_WrongCount k0_WrongCount k1_WrongCount k2_WrongCount k3_WrongCount k5_WrongCount : _}
  {N_NotFinite : Addr} {nm_NotFinite qn_NotFinite bs_NotFinite hdct_NotFinite sn_NotFinite sub_NotFinite ab_NotFinite col_NotFinite dd_NotFinite k0_NotFinite k1_NotFinite k2_NotFinite k3_NotFinite k5_NotFinite : _}
  {N_StepNotFinite : Addr} {nm_StepNotFinite qn_StepNotFinite bs_StepNotFinite hdct_StepNotFinite sn_StepNotFinite sub_StepNotFinite ab_StepNotFinite col_StepNotFinite dd_StepNotFinite k0_StepNotFinite k1_StepNotFinite k2_StepNotFinite k3_StepNotFinite k5_StepNotFinite : _}
  {N_NotAsTold : Addr} {nm_NotAsTold qn_NotAsTold bs_NotAsTold hdct_NotAsTold sn_NotAsTold sub_NotAsTold ab_NotAsTold col_NotAsTold dd_NotAsTold k0_NotAsTold k1_NotAsTold k2_NotAsTold k3_NotAsTold k5_NotAsTold : _}
  (a_x0 : nsIn K mainGlobals "sign_of" = some (some (.ref f_x0))) (l_x0 : K.lookup f_x0 = some ⟨oc_x0, od_x0, .func (fnOf "sign_of" "sign_of" (qC (top 8)) (qz (top 8)) (qd (top 8)) .none kV_x0 dc_x0 pm_x0 an_x0 cd_x0 ct_x0), sl_x0⟩) (c_x0 : codeIn K cd_x0 "sign_of" = true) (k_x0 : keepIn K (.ref f_x0) = true)
  (a_x1 : nsIn K mainGlobals "size_of" = some (some (.ref f_x1))) (l_x1 : K.lookup f_x1 = some ⟨oc_x1, od_x1, .func (fnOf "size_of" "size_of" (qC (top 9)) (qz (top 9)) (qd (top 9)) .none kV_x1 dc_x1 pm_x1 an_x1 cd_x1 ct_x1), sl_x1⟩) (c_x1 : codeIn K cd_x1 "size_of" = true) (k_x1 : keepIn K (.ref f_x1) = true)
  (a_x2 : nsIn K mainGlobals "opposite" = some (some (.ref f_x2))) (l_x2 : K.lookup f_x2 = some ⟨oc_x2, od_x2, .func (fnOf "opposite" "opposite" (qC (top 10)) (qz (top 10)) (qd (top 10)) .none kV_x2 dc_x2 pm_x2 an_x2 cd_x2 ct_x2), sl_x2⟩) (c_x2 : codeIn K cd_x2 "opposite" = true) (k_x2 : keepIn K (.ref f_x2) = true)
  (a_x3 : nsIn K mainGlobals "is_finite" = some (some (.ref f_x3))) (l_x3 : K.lookup f_x3 = some ⟨oc_x3, od_x3, .func (fnOf "is_finite" "is_finite" (qC (top 11)) (qz (top 11)) (qd (top 11)) .none kV_x3 dc_x3 pm_x3 an_x3 cd_x3 ct_x3), sl_x3⟩) (c_x3 : codeIn K cd_x3 "is_finite" = true) (k_x3 : keepIn K (.ref f_x3) = true)
  (a_x4 : nsIn K mainGlobals "is_zero" = some (some (.ref f_x4))) (l_x4 : K.lookup f_x4 = some ⟨oc_x4, od_x4, .func (fnOf "is_zero" "is_zero" (qC (top 12)) (qz (top 12)) (qd (top 12)) .none kV_x4 dc_x4 pm_x4 an_x4 cd_x4 ct_x4), sl_x4⟩) (c_x4 : codeIn K cd_x4 "is_zero" = true) (k_x4 : keepIn K (.ref f_x4) = true)
  (a_x5 : nsIn K mainGlobals "whole_of" = some (some (.ref f_x5))) (l_x5 : K.lookup f_x5 = some ⟨oc_x5, od_x5, .func (fnOf "whole_of" "whole_of" (qC (top 13)) (qz (top 13)) (qd (top 13)) .none kV_x5 dc_x5 pm_x5 an_x5 cd_x5 ct_x5), sl_x5⟩) (c_x5 : codeIn K cd_x5 "whole_of" = true) (k_x5 : keepIn K (.ref f_x5) = true)
  (a_x6 : nsIn K mainGlobals "signed_whole" = some (some (.ref f_x6))) (l_x6 : K.lookup f_x6 = some ⟨oc_x6, od_x6, .func (fnOf "signed_whole" "signed_whole" (qC (top 14)) (qz (top 14)) (qd (top 14)) .none kV_x6 dc_x6 pm_x6 an_x6 cd_x6 ct_x6), sl_x6⟩) (c_x6 : codeIn K cd_x6 "signed_whole" = true) (k_x6 : keepIn K (.ref f_x6) = true)
  (a_x7 : nsIn K mainGlobals "power_of" = some (some (.ref f_x7))) (l_x7 : K.lookup f_x7 = some ⟨oc_x7, od_x7, .func (fnOf "power_of" "power_of" (qC (top 15)) (qz (top 15)) (qd (top 15)) .none kV_x7 dc_x7 pm_x7 an_x7 cd_x7 ct_x7), sl_x7⟩) (c_x7 : codeIn K cd_x7 "power_of" = true) (k_x7 : keepIn K (.ref f_x7) = true)
  (a_x8 : nsIn K mainGlobals "nearest_whole" = some (some (.ref f_x8))) (l_x8 : K.lookup f_x8 = some ⟨oc_x8, od_x8, .func (fnOf "nearest_whole" "nearest_whole" (qC (top 16)) (qz (top 16)) (qd (top 16)) .none kV_x8 dc_x8 pm_x8 an_x8 cd_x8 ct_x8), sl_x8⟩) (c_x8 : codeIn K cd_x8 "nearest_whole" = true) (k_x8 : keepIn K (.ref f_x8) = true)
  (a_x9 : nsIn K mainGlobals "rounded" = some (some (.ref f_x9))) (l_x9 : K.lookup f_x9 = some ⟨oc_x9, od_x9, .func (fnOf "rounded" "rounded" (qC (top 17)) (qz (top 17)) (qd (top 17)) .none kV_x9 dc_x9 pm_x9 an_x9 cd_x9 ct_x9), sl_x9⟩) (c_x9 : codeIn K cd_x9 "rounded" = true) (k_x9 : keepIn K (.ref f_x9) = true)
  (a_x10 : nsIn K mainGlobals "rounded_with_rest" = some (some (.ref f_x10))) (l_x10 : K.lookup f_x10 = some ⟨oc_x10, od_x10, .func (fnOf "rounded_with_rest" "rounded_with_rest" (qC (top 18)) (qz (top 18)) (qd (top 18)) .none kV_x10 dc_x10 pm_x10 an_x10 cd_x10 ct_x10), sl_x10⟩) (c_x10 : codeIn K cd_x10 "rounded_with_rest" = true) (k_x10 : keepIn K (.ref f_x10) = true)
  (a_x11 : nsIn K mainGlobals "fused" = some (some (.ref f_x11))) (l_x11 : K.lookup f_x11 = some ⟨oc_x11, od_x11, .func (fnOf "fused" "fused" (qC (top 19)) (qz (top 19)) (qd (top 19)) .none kV_x11 dc_x11 pm_x11 an_x11 cd_x11 ct_x11), sl_x11⟩) (c_x11 : codeIn K cd_x11 "fused" = true) (k_x11 : keepIn K (.ref f_x11) = true)
  (a_x12 : nsIn K mainGlobals "plus" = some (some (.ref f_x12))) (l_x12 : K.lookup f_x12 = some ⟨oc_x12, od_x12, .func (fnOf "plus" "plus" (qC (top 20)) (qz (top 20)) (qd (top 20)) .none kV_x12 dc_x12 pm_x12 an_x12 cd_x12 ct_x12), sl_x12⟩) (c_x12 : codeIn K cd_x12 "plus" = true) (k_x12 : keepIn K (.ref f_x12) = true)
  (a_x13 : nsIn K mainGlobals "minus" = some (some (.ref f_x13))) (l_x13 : K.lookup f_x13 = some ⟨oc_x13, od_x13, .func (fnOf "minus" "minus" (qC (top 21)) (qz (top 21)) (qd (top 21)) .none kV_x13 dc_x13 pm_x13 an_x13 cd_x13 ct_x13), sl_x13⟩) (c_x13 : codeIn K cd_x13 "minus" = true) (k_x13 : keepIn K (.ref f_x13) = true)
  (a_x14 : nsIn K mainGlobals "product" = some (some (.ref f_x14))) (l_x14 : K.lookup f_x14 = some ⟨oc_x14, od_x14, .func (fnOf "product" "product" (qC (top 22)) (qz (top 22)) (qd (top 22)) .none kV_x14 dc_x14 pm_x14 an_x14 cd_x14 ct_x14), sl_x14⟩) (c_x14 : codeIn K cd_x14 "product" = true) (k_x14 : keepIn K (.ref f_x14) = true)
  (a_x15 : nsIn K mainGlobals "quotient" = some (some (.ref f_x15))) (l_x15 : K.lookup f_x15 = some ⟨oc_x15, od_x15, .func (fnOf "quotient" "quotient" (qC (top 23)) (qz (top 23)) (qd (top 23)) .none kV_x15 dc_x15 pm_x15 an_x15 cd_x15 ct_x15), sl_x15⟩) (c_x15 : codeIn K cd_x15 "quotient" = true) (k_x15 : keepIn K (.ref f_x15) = true)
  (a_x16 : nsIn K mainGlobals "whole_root" = some (some (.ref f_x16))) (l_x16 : K.lookup f_x16 = some ⟨oc_x16, od_x16, .func (fnOf "whole_root" "whole_root" (qC (top 24)) (qz (top 24)) (qd (top 24)) .none kV_x16 dc_x16 pm_x16 an_x16 cd_x16 ct_x16), sl_x16⟩) (c_x16 : codeIn K cd_x16 "whole_root" = true) (k_x16 : keepIn K (.ref f_x16) = true)
  (a_x17 : nsIn K mainGlobals "root" = some (some (.ref f_x17))) (l_x17 : K.lookup f_x17 = some ⟨oc_x17, od_x17, .func (fnOf "root" "root" (qC (top 25)) (qz (top 25)) (qd (top 25)) .none kV_x17 dc_x17 pm_x17 an_x17 cd_x17 ct_x17), sl_x17⟩) (c_x17 : codeIn K cd_x17 "root" = true) (k_x17 : keepIn K (.ref f_x17) = true)
  (a_x18 : nsIn K mainGlobals "check_finite" = some (some (.ref f_x18))) (l_x18 : K.lookup f_x18 = some ⟨oc_x18, od_x18, .func (fnOf "check_finite" "check_finite" (qC (top 31)) (qz (top 31)) (qd (top 31)) .none kV_x18 dc_x18 pm_x18 an_x18 cd_x18 ct_x18), sl_x18⟩) (c_x18 : codeIn K cd_x18 "check_finite" = true) (k_x18 : keepIn K (.ref f_x18) = true)
  (a_x19 : nsIn K mainGlobals "step_told" = some (some (.ref f_x19))) (l_x19 : K.lookup f_x19 = some ⟨oc_x19, od_x19, .func (fnOf "step_told" "step_told" (qC (top 33)) (qz (top 33)) (qd (top 33)) .none kV_x19 dc_x19 pm_x19 an_x19 cd_x19 ct_x19), sl_x19⟩) (c_x19 : codeIn K cd_x19 "step_told" = true) (k_x19 : keepIn K (.ref f_x19) = true)
  (a_x20 : nsIn K mainGlobals "answered" = some (some (.ref f_x20))) (l_x20 : K.lookup f_x20 = some ⟨oc_x20, od_x20, .func (fnOf "answered" "answered" (qC (top 30)) (qz (top 30)) (qd (top 30)) .none kV_x20 dc_x20 pm_x20 an_x20 cd_x20 ct_x20), sl_x20⟩) (c_x20 : codeIn K cd_x20 "answered" = true) (k_x20 : keepIn K (.ref f_x20) = true)
  (a_x21 : nsIn K mainGlobals "step" = some (some (.ref f_x21))) (l_x21 : K.lookup f_x21 = some ⟨oc_x21, od_x21, .func (fnOf "step" "step" (qC (top 34)) (qz (top 34)) (qd (top 34)) .none kV_x21 dc_x21 pm_x21 an_x21 cd_x21 ct_x21), sl_x21⟩) (c_x21 : codeIn K cd_x21 "step" = true) (k_x21 : keepIn K (.ref f_x21) = true)
  (s_FRACTION_BITS : nsIn K mainGlobals "FRACTION_BITS" = some (some (.int (52) t_FRACTION_BITS)))
  (s_INFINITE : nsIn K mainGlobals "INFINITE" = some (some (.int (9218868437227405312) t_INFINITE)))
  (s_LEAST_POWER : nsIn K mainGlobals "LEAST_POWER" = some (some (.int (-1074) t_LEAST_POWER)))
  (s_ONE : nsIn K mainGlobals "ONE" = some (some (.int (4607182418800017408) t_ONE)))
  (s_SIGN_BIT : nsIn K mainGlobals "SIGN_BIT" = some (some (.int (9223372036854775808) t_SIGN_BIT)))
  (s_WIDER : nsIn K mainGlobals "WIDER" = some (some (.int (112) t_WIDER)))
  (q_WrongCount : nsIn K mainGlobals "WrongCount" = some (some (.ref C_WrongCount))) (j_WrongCount : K.lookup C_WrongCount = some (excClassObj nm_WrongCount qn_WrongCount C_WrongCount N_WrongCount bs_WrongCount vJ hdct_WrongCount sn_WrongCount sub_WrongCount ab_WrongCount col_WrongCount dd_WrongCount k0_WrongCount k1_WrongCount k2_WrongCount k3_WrongCount k5_WrongCount wI)) (u_WrongCount : nsOkIn K N_WrongCount = true) (v_WrongCount : nsIn K N_WrongCount "__init__" = some none)
  (q_NotFinite : nsIn K mainGlobals "NotFinite" = some (some (.ref C_NotFinite))) (j_NotFinite : K.lookup C_NotFinite = some (excClassObj nm_NotFinite qn_NotFinite C_NotFinite N_NotFinite bs_NotFinite vJ hdct_NotFinite sn_NotFinite sub_NotFinite ab_NotFinite col_NotFinite dd_NotFinite k0_NotFinite k1_NotFinite k2_NotFinite k3_NotFinite k5_NotFinite wI)) (u_NotFinite : nsOkIn K N_NotFinite = true) (v_NotFinite : nsIn K N_NotFinite "__init__" = some none)
  (q_StepNotFinite : nsIn K mainGlobals "StepNotFinite" = some (some (.ref C_StepNotFinite))) (j_StepNotFinite : K.lookup C_StepNotFinite = some (excClassObj nm_StepNotFinite qn_StepNotFinite C_StepNotFinite N_StepNotFinite bs_StepNotFinite vJ hdct_StepNotFinite sn_StepNotFinite sub_StepNotFinite ab_StepNotFinite col_StepNotFinite dd_StepNotFinite k0_StepNotFinite k1_StepNotFinite k2_StepNotFinite k3_StepNotFinite k5_StepNotFinite wI)) (u_StepNotFinite : nsOkIn K N_StepNotFinite = true) (v_StepNotFinite : nsIn K N_StepNotFinite "__init__" = some none)
  (q_NotAsTold : nsIn K mainGlobals "NotAsTold" = some (some (.ref C_NotAsTold))) (j_NotAsTold : K.lookup C_NotAsTold = some (excClassObj nm_NotAsTold qn_NotAsTold C_NotAsTold N_NotAsTold bs_NotAsTold vJ hdct_NotAsTold sn_NotAsTold sub_NotAsTold ab_NotAsTold col_NotAsTold dd_NotAsTold k0_NotAsTold k1_NotAsTold k2_NotAsTold k3_NotAsTold k5_NotAsTold wI)) (u_NotAsTold : nsOkIn K N_NotAsTold = true) (v_NotAsTold : nsIn K N_NotAsTold "__init__" = some none)
  (z_abs : nsIn K mainGlobals "abs" = some none)
  (z_max : nsIn K mainGlobals "max" = some none)
  (z_min : nsIn K mainGlobals "min" = some none)
  (e2 : (C_NotFinite == C_WrongCount) = false) (e3 : (C_StepNotFinite == C_WrongCount) = false) (e4 : (C_StepNotFinite == C_NotFinite) = false) (e5 : (C_NotAsTold == C_WrongCount) = false) (e6 : (C_NotAsTold == C_NotFinite) = false) (e7 : (C_NotAsTold == C_StepNotFinite) = false)
  (htab : tabIn K "step" = some (c, PT)) :
  ∃ fd : FuncData, (∀ (s : Shared) (us : List Value), us.length = (["which", "x", "y", "z"] : List Str).length -> BindsTo s fd ⟨us, []⟩ ((["which", "x", "y", "z"] : List Str).zip us)) /\ ∀ base : Heap, K.In base -> base.Ns mainGlobals mg -> wW mg base c PT -> uD P w K mg base (CX1 P w) 10 fa fd ["which", "x", "y", "z"] (Q1 mg K 4 Dt.vt LL PT) := by
 have e := hfa.symm.trans (mg_of X G a_x21)
 cases e
 have F_x0 := qV (st := (top 8)) l_x0 c_x0 k_x0
 have b_x0 := F_x0.binds (ps := ["x"]) fun _ _ _ _ _ _ => xl fun _ => rfl
 have F_x1 := qV (st := (top 9)) l_x1 c_x1 k_x1
 have b_x1 := F_x1.binds (ps := ["x"]) fun _ _ _ _ _ _ => xl fun _ => rfl
 have F_x2 := qV (st := (top 10)) l_x2 c_x2 k_x2
 have b_x2 := F_x2.binds (ps := ["x"]) fun _ _ _ _ _ _ => xl fun _ => rfl
 have F_x3 := qV (st := (top 11)) l_x3 c_x3 k_x3
 have b_x3 := F_x3.binds (ps := ["x"]) fun _ _ _ _ _ _ => xl fun _ => rfl
 have F_x4 := qV (st := (top 12)) l_x4 c_x4 k_x4
 have b_x4 := F_x4.binds (ps := ["x"]) fun _ _ _ _ _ _ => xl fun _ => rfl
 have F_x5 := qV (st := (top 13)) l_x5 c_x5 k_x5
 have b_x5 := F_x5.binds (ps := ["x"]) fun _ _ _ _ _ _ => xl fun _ => rfl
 have F_x6 := qV (st := (top 14)) l_x6 c_x6 k_x6
 have b_x6 := F_x6.binds (ps := ["x"]) fun _ _ _ _ _ _ => xl fun _ => rfl
 have F_x7 := qV (st := (top 15)) l_x7 c_x7 k_x7
 have b_x7 := F_x7.binds (ps := ["x"]) fun _ _ _ _ _ _ => xl fun _ => rfl
 have F_x8 := qV (st := (top 16)) l_x8 c_x8 k_x8
 have b_x8 := F_x8.binds (ps := ["whole", "drop"]) fun _ _ _ _ _ _ => QV fun _ _ => rfl
 have F_x9 := qV (st := (top 17)) l_x9 c_x9 k_x9
 have b_x9 := F_x9.binds (ps := ["sign", "whole", "power"]) fun _ _ _ _ _ _ => Yr fun _ _ _ => rfl
 have F_x10 := qV (st := (top 18)) l_x10 c_x10 k_x10
 have b_x10 := F_x10.binds (ps := ["sign", "whole", "left", "power"]) fun _ _ _ _ _ _ => jC fun _ _ _ _ => rfl
 have F_x11 := qV (st := (top 19)) l_x11 c_x11 k_x11
 have b_x11 := F_x11.binds (ps := ["x", "y", "z"]) fun _ _ _ _ _ _ => Yr fun _ _ _ => rfl
 have F_x12 := qV (st := (top 20)) l_x12 c_x12 k_x12
 have b_x12 := F_x12.binds (ps := ["x", "y"]) fun _ _ _ _ _ _ => QV fun _ _ => rfl
 have F_x13 := qV (st := (top 21)) l_x13 c_x13 k_x13
 have b_x13 := F_x13.binds (ps := ["x", "y"]) fun _ _ _ _ _ _ => QV fun _ _ => rfl
 have F_x14 := qV (st := (top 22)) l_x14 c_x14 k_x14
 have b_x14 := F_x14.binds (ps := ["x", "y"]) fun _ _ _ _ _ _ => QV fun _ _ => rfl
 have F_x15 := qV (st := (top 23)) l_x15 c_x15 k_x15
 have b_x15 := F_x15.binds (ps := ["x", "y"]) fun _ _ _ _ _ _ => QV fun _ _ => rfl
 have F_x16 := qV (st := (top 24)) l_x16 c_x16 k_x16
 have b_x16 := F_x16.binds (ps := ["whole"]) fun _ _ _ _ _ _ => xl fun _ => rfl
 have F_x17 := qV (st := (top 25)) l_x17 c_x17 k_x17
 have b_x17 := F_x17.binds (ps := ["x"]) fun _ _ _ _ _ _ => xl fun _ => rfl
 have F_x18 := qV (st := (top 31)) l_x18 c_x18 k_x18
 have b_x18 := F_x18.binds (ps := ["numbers"]) fun _ _ _ _ _ _ => xl fun _ => rfl
 have F_x19 := qV (st := (top 33)) l_x19 c_x19 k_x19
 have b_x19 := F_x19.binds (ps := ["which", "x", "y", "z"]) fun _ _ _ _ _ _ => jC fun _ _ _ _ => rfl
 have F_x20 := qV (st := (top 30)) l_x20 c_x20 k_x20
 have F_x21 := qV (st := (top 34)) l_x21 c_x21 k_x21
 have g_FRACTION_BITS : ∃ t, mg "FRACTION_BITS" = some (.int (52) t) := ⟨_, mg_of X G s_FRACTION_BITS⟩
 have g_INFINITE : ∃ t, mg "INFINITE" = some (.int (9218868437227405312) t) := ⟨_, mg_of X G s_INFINITE⟩
 have g_LEAST_POWER : ∃ t, mg "LEAST_POWER" = some (.int (-1074) t) := ⟨_, mg_of X G s_LEAST_POWER⟩
 have g_ONE : ∃ t, mg "ONE" = some (.int (4607182418800017408) t) := ⟨_, mg_of X G s_ONE⟩
 have g_SIGN_BIT : ∃ t, mg "SIGN_BIT" = some (.int (9223372036854775808) t) := ⟨_, mg_of X G s_SIGN_BIT⟩
 have g_WIDER : ∃ t, mg "WIDER" = some (.int (112) t) := ⟨_, mg_of X G s_WIDER⟩
 have x_WrongCount := wD j_WrongCount u_WrongCount v_WrongCount
 have x_NotFinite := wD j_NotFinite u_NotFinite v_NotFinite
 have x_StepNotFinite := wD j_StepNotFinite u_StepNotFinite v_StepNotFinite
 have x_NotAsTold := wD j_NotAsTold u_NotAsTold v_NotAsTold
 refine ⟨fnOf "step" "step" (qC (top 34)) (qz (top 34)) (qd (top 34)) .none kV_x21 dc_x21 pm_x21 an_x21 cd_x21 ct_x21, fun s => jC fun _ _ _ _ => .of_eq rfl, fun base _ _ BL => ?_⟩
 have D_x0 : Fd P w K mg base 1 "sign_of" 1 Dt.qu := jf F_x0 (mg_of X G a_x0) b_x0
 have D_x1 : Fd P w K mg base 1 "size_of" 1 Dt.qF := jE F_x1 (mg_of X G a_x1) b_x1 g_SIGN_BIT
 have D_x2 : Fd P w K mg base 1 "opposite" 1 Dt.vF := ja F_x2 (mg_of X G a_x2) b_x2 g_SIGN_BIT
 have D_x3 : Fd P w K mg base 2 "is_finite" 1 Dt.vp := ui F_x3 (mg_of X G a_x3) b_x3 g_INFINITE D_x1
 have D_x4 : Fd P w K mg base 2 "is_zero" 1 Dt.vj := jR F_x4 (mg_of X G a_x4) b_x4 D_x1
 have D_x5 : Fd P w K mg base 2 "whole_of" 1 Dt.qt := uX F_x5 (mg_of X G a_x5) b_x5 g_FRACTION_BITS D_x1
 have D_x6 : Fd P w K mg base 3 "signed_whole" 1 Dt.qA := yB F_x6 (mg_of X G a_x6) b_x6 D_x0 D_x5
 have D_x7 : Fd P w K mg base 2 "power_of" 1 Dt.qm := uE F_x7 (mg_of X G a_x7) b_x7 g_FRACTION_BITS g_LEAST_POWER (mg_none_of X G z_max) D_x1
 have D_x8 : Fd P w K mg base 1 "nearest_whole" 2 Dt.qL := yk F_x8 (mg_of X G a_x8) b_x8
 have D_x9 : Fd P w K mg base 2 "rounded" 3 Dt.qN := j4 F_x9 (mg_of X G a_x9) b_x9 g_FRACTION_BITS g_INFINITE g_LEAST_POWER (mg_none_of X G z_max) (mg_of X G q_StepNotFinite) x_StepNotFinite D_x8
 have D_x10 : Fd P w K mg base 3 "rounded_with_rest" 4 Dt.qw := zc F_x10 (mg_of X G a_x10) b_x10 D_x9
 have D_x11 : Fd P w K mg base 4 "fused" 3 Dt.wd := VJ F_x11 (mg_of X G a_x11) b_x11 (mg_none_of X G z_abs) (mg_none_of X G z_min) D_x7 D_x9 D_x0 D_x6
 have D_x12 : Fd P w K mg base 5 "plus" 2 Dt.wQ := WG F_x12 (mg_of X G a_x12) b_x12 g_ONE D_x11
 have D_x13 : Fd P w K mg base 6 "minus" 2 Dt.zu := QT F_x13 (mg_of X G a_x13) b_x13 D_x2 D_x12
 have D_x14 : Fd P w K mg base 3 "product" 2 Dt.wg := jn F_x14 (mg_of X G a_x14) b_x14 D_x7 D_x9 D_x0 D_x5
 have D_x15 : Fd P w K mg base 4 "quotient" 2 Dt.vT := uY F_x15 (mg_of X G a_x15) b_x15 g_WIDER (mg_of X G q_StepNotFinite) x_StepNotFinite D_x4 D_x7 D_x10 D_x0 D_x5
 have D_x16 : Fd P w K mg base 1 "whole_root" 1 Dt.vf := xx F_x16 (mg_of X G a_x16) b_x16
 have D_x17 : Fd P w K mg base 4 "root" 1 Dt.yh := Wj F_x17 (mg_of X G a_x17) b_x17 g_WIDER (mg_of X G q_StepNotFinite) x_StepNotFinite D_x4 D_x7 D_x10 D_x0 D_x5 D_x16
 have D_x18 : Fd P w K mg base 3 "check_finite" 1 Dt.qG := yy F_x18 (mg_of X G a_x18) b_x18 (mg_of X G q_NotFinite) x_NotFinite D_x3
 have D_x19 : Fd P w K mg base 7 "step_told" 4 Dt.vt := uw F_x19 (mg_of X G a_x19) b_x19 (mg_of X G q_WrongCount) x_WrongCount D_x18 D_x11 D_x13 D_x12 D_x14 D_x15 D_x17
 have AO : Za P w K mg base (top 30) [(C_WrongCount, 1), (C_NotFinite, 2), (C_StepNotFinite, 3), (C_NotAsTold, 4)] := ⟨f_x20, _, _, _, _, _, _, _, _, _, _, _, _, _, _, _, _, _, _, _, _, _, _, l_x20, c_x20, k_x20, mg_of X G a_x20, rfl, u0, rfl, rfl, fun s u => .of_eq rfl,
  fun A outer s H E => .cons rfl (mg_of X G q_WrongCount) x_WrongCount (by decide) (.cons rfl (mg_of X G q_NotFinite) x_NotFinite (by decide) (.cons rfl (mg_of X G q_StepNotFinite) x_StepNotFinite (by decide) (.cons rfl (mg_of X G q_NotAsTold) x_NotAsTold (by decide) .nil)))⟩
 have ER : jX mg K LL [(C_WrongCount, 1), (C_NotFinite, 2), (C_StepNotFinite, 3), (C_NotAsTold, 4)] := ⟨fun c C k hC hl => YR (mg_of X G q_WrongCount) (mg_of X G q_NotFinite) (mg_of X G q_StepNotFinite) (mg_of X G q_NotAsTold) x_WrongCount x_NotFinite x_StepNotFinite x_NotAsTold e2 e3 e4 e5 e6 e7 hC hl⟩
 exact ZY (st := top 34) (st2 := top 30) (g := Dt.vt) F_x21 V8 rfl htab a_x21 BL AO ER rfl Vl rfl (fun _ => rfl) (fun _ _ _ _ _ => rfl)
  (fun cdv A outer s0 H0 E0 Y q f2 cd s H E2 hr => qi (V6 Vl) D_x19 hr rfl (.cons (.cons (.cons (.cons (.nil))))) (qc (xv 0) (qc (xv 1) (qc (xv 2) (qc (xv 3) qk))))) (jC fun _ _ _ _ => ⟨_, rfl, rfl⟩)
end Lw
open PySem PySem.W PyProof.Rows
set_option maxRecDepth 100000 in
set_option maxHeartbeats 0 in
theorem PySem.Challenge.cw_doubletables_s01_step_holds : PySem.Challenge.rw_doubletables_s01_step.Holds := by
 w_on; k_headS; (case hw => exact ⟨[.int 0, .int 0, .int 0, .int 0], by decide +kernel, by decide +kernel⟩)
 k_fillS
 refine L2.Ir.VZ (r := PySem.Challenge.rw_doubletables_s01_step) (k := 10) (ps := ["which", "x", "y", "z"]) (sp := fun K mg PT => L2.Ir.Q1 mg K 4 Dt.vt Dt.LL PT) (c := ?c) (PT := ?PT) (by decide +kernel) rfl ⟨rfl, by decide, by decide⟩ (fun w h Y => PySem.W.kIn_of Y) ?no ?tab rfl ?F ?S
 (case tab => intro p; exact rfl)
 (case no => intro p; exact rfl)
 case F =>
  intro w mg fa h Y KX G hmg
  refine' Lw.all_mk KX G hmg ?a_x0 ?l_x0 ?c_x0 ?k_x0 ?a_x1 ?l_x1 ?c_x1 ?k_x1 ?a_x2 ?l_x2 ?c_x2 ?k_x2 ?a_x3 ?l_x3 ?c_x3 ?k_x3 ?a_x4 ?l_x4 ?c_x4 ?k_x4 ?a_x5 ?l_x5 ?c_x5 ?k_x5 ?a_x6 ?l_x6 ?c_x6 ?k_x6 ?a_x7 ?l_x7 ?c_x7 ?k_x7 ?a_x8 ?l_x8 ?c_x8 ?k_x8 ?a_x9 ?l_x9 ?c_x9 ?k_x9 ?a_x10 ?l_x10 ?c_x10 ?k_x10 ?a_x11 ?l_x11 ?c_x11 ?k_x11 ?a_x12 ?l_x12 ?c_x12 ?k_x12 ?a_x13 ?l_x13 ?c_x13 ?k_x13 ?a_x14 ?l_x14 ?c_x14 ?k_x14 ?a_x15 ?l_x15 ?c_x15 ?k_x15 ?a_x16 ?l_x16 ?c_x16 ?k_x16 ?a_x17 ?l_x17 ?c_x17 ?k_x17 ?a_x18 ?l_x18 ?c_x18 ?k_x18 ?a_x19 ?l_x19 ?c_x19 ?k_x19 ?a_x20 ?l_x20 ?c_x20 ?k_x20 ?a_x21 ?l_x21 ?c_x21 ?k_x21 ?s_FRACTION_BITS ?s_INFINITE ?s_LEAST_POWER ?s_ONE ?s_SIGN_BIT ?s_WIDER ?q_WrongCount ?j_WrongCount ?u_WrongCount ?v_WrongCount ?q_NotFinite ?j_NotFinite ?u_NotFinite ?v_NotFinite ?q_StepNotFinite ?j_StepNotFinite ?u_StepNotFinite ?v_StepNotFinite ?q_NotAsTold ?j_NotAsTold ?u_NotAsTold ?v_NotAsTold ?z_abs ?z_max ?z_min ?e2 ?e3 ?e4 ?e5 ?e6 ?e7 ?htab
  (case a_x0 => k_is); (case l_x0 => k_is); (case c_x0 => k_is); (case k_x0 => k_is); (case a_x1 => k_is); (case l_x1 => k_is); (case c_x1 => k_is); (case k_x1 => k_is); (case a_x2 => k_is); (case l_x2 => k_is); (case c_x2 => k_is); (case k_x2 => k_is); (case a_x3 => k_is); (case l_x3 => k_is); (case c_x3 => k_is); (case k_x3 => k_is); (case a_x4 => k_is); (case l_x4 => k_is); (case c_x4 => k_is); (case k_x4 => k_is); (case a_x5 => k_is); (case l_x5 => k_is); (case c_x5 => k_is); (case k_x5 => k_is); (case a_x6 => k_is); (case l_x6 => k_is); (case c_x6 => k_is); (case k_x6 => k_is); (case a_x7 => k_is); (case l_x7 => k_is); (case c_x7 => k_is); (case k_x7 => k_is); (case a_x8 => k_is); (case l_x8 => k_is); (case c_x8 => k_is); (case k_x8 => k_is); (case a_x9 => k_is); (case l_x9 => k_is); (case c_x9 => k_is); (case k_x9 => k_is); (case a_x10 => k_is); (case l_x10 => k_is); (case c_x10 => k_is); (case k_x10 => k_is); (case a_x11 => k_is); (case l_x11 => k_is); (case c_x11 => k_is); (case k_x11 => k_is); (case a_x12 => k_is); (case l_x12 => k_is); (case c_x12 => k_is); (case k_x12 => k_is); (case a_x13 => k_is); (case l_x13 => k_is); (case c_x13 => k_is); (case k_x13 => k_is); (case a_x14 => k_is); (case l_x14 => k_is); (case c_x14 => k_is); (case k_x14 => k_is); (case a_x15 => k_is); (case l_x15 => k_is); (case c_x15 => k_is); (case k_x15 => k_is); (case a_x16 => k_is); (case l_x16 => k_is); (case c_x16 => k_is); (case k_x16 => k_is); (case a_x17 => k_is); (case l_x17 => k_is); (case c_x17 => k_is); (case k_x17 => k_is); (case a_x18 => k_is); (case l_x18 => k_is); (case c_x18 => k_is); (case k_x18 => k_is); (case a_x19 => k_is); (case l_x19 => k_is); (case c_x19 => k_is); (case k_x19 => k_is); (case a_x20 => k_is); (case l_x20 => k_is); (case c_x20 => k_is); (case k_x20 => k_is); (case a_x21 => k_is); (case l_x21 => k_is); (case c_x21 => k_is); (case k_x21 => k_is); (case s_FRACTION_BITS => k_is); (case s_INFINITE => k_is); (case s_LEAST_POWER => k_is); (case s_ONE => k_is); (case s_SIGN_BIT => k_is); (case s_WIDER => k_is); (case q_WrongCount => k_is); (case j_WrongCount => k_is); (case u_WrongCount => (refine' Dt.yK ?l ?h; (case l => k_is); (case h => exact rfl))); (case v_WrongCount => k_is); (case q_NotFinite => k_is); (case j_NotFinite => k_is); (case u_NotFinite => (refine' Dt.yK ?l ?h; (case l => k_is); (case h => exact rfl))); (case v_NotFinite => k_is); (case q_StepNotFinite => k_is); (case j_StepNotFinite => k_is); (case u_StepNotFinite => (refine' Dt.yK ?l ?h; (case l => k_is); (case h => exact rfl))); (case v_StepNotFinite => k_is); (case q_NotAsTold => k_is); (case j_NotAsTold => k_is); (case u_NotAsTold => (refine' Dt.yK ?l ?h; (case l => k_is); (case h => exact rfl))); (case v_NotAsTold => k_is); (case z_abs => k_is); (case z_max => k_is); (case z_min => k_is)
  (case e2 => decide +kernel); (case e3 => decide +kernel); (case e4 => decide +kernel); (case e5 => decide +kernel); (case e6 => decide +kernel); (case e7 => decide +kernel)
  (case htab => exact rfl)
 case S =>
  intro K mg PT H xs a hP hwi hask hx
  have e : L2.Ir.QY (Codec.encAll PySem.Challenge.rw_doubletables_s01_step.args a) = [.int a.1, .int a.2.1, .int a.2.2.1, .int a.2.2.2.1] := by
   show [L2.Ir.D.int a.1, L2.Ir.D.int a.2.1, L2.Ir.D.int a.2.2.1, L2.Ir.D.int a.2.2.2.1] = _
   rfl
  have pl : L2.Ir.QQ (Codec.encAll PySem.Challenge.rw_doubletables_s01_step.args a) = true := by
   show (true && (true && (true && (true && true)))) = true
   rfl
  have q : (Codec.inInt 0 18446744073709551615 a.1 && (Codec.inInt 0 18446744073709551615 a.2.1 && (Codec.inInt 0 18446744073709551615 a.2.2.1 && (Codec.inInt 0 18446744073709551615 a.2.2.2.1 && true)))) = true := hwi
  simp only [Bool.and_eq_true] at q
  obtain ⟨h1, h2⟩ := Dt.VI (Dt.uc q.1) (Dt.uc q.2.1) (Dt.uc q.2.2.1) (Dt.uc q.2.2.2.1)
  refine ⟨_, _, rfl, hP, by rw [<- e]; exact L2.Ir.y8 _ _ pl hx, h1, h2, fun H2 p hp => ?_⟩
  rw [Dt.xa] at hp
  exact .lst (L2.SqL.of hp) (L2.j7 _)
