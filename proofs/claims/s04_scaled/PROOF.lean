import PyProof.Rows.All
import Wide.All
import OpenK.AllK
import Wide.FinOn
import PyProof.EqAt
import PyProof.EqKinds
import PyProof.TupleCall
import KE.BitLaws
import Open.SpecLaws
import KE.OsHead
import KE.OsGo
import PyProof.StationsW
import PyProof.ExcBaseAll.Exception
import KE.KLam
import PyProof.SliceList
import KE.KNestM
import PySem.Challenge.RW_doubletables_s04_scaled
set_option bootstrap.genMatcherCode false
set_option compiler.extract_closed false
set_option genSizeOf false
set_option genInjectivity false
set_option Elab.async false
set_option linter.all false
set_option maxRecDepth 100000
namespace L2
open PySem PySem.Spec PyProof.Rows
noncomputable abbrev Key := Sum Int Str
noncomputable def Zc : Key -> Value -> Bool
 | .inl k, v => Value.isInt k v
 | .inr x, v => Value.isStrOf x v
noncomputable def Xc (w : World) : Key -> Int
 | .inl k => hashInt k
 | .inr x => hashStr w x
theorem qK : ∀ {k : Key} {v : Value}, Zc k v = true -> (∃ i t, k = Sum.inl i /\ v = Value.int i t) \/ (∃ x t, k = Sum.inr x /\ v = Value.str x t)
 | .inl i, v, h => by
  obtain ⟨t, e⟩ := Value.isInt_shape (k := i) (v := v) h
  exact .inl ⟨i, t, rfl, e⟩
 | .inr x, v, h => by
  obtain ⟨t, e⟩ := Value.isStrOf_shape (x := x) (v := v) h
  exact .inr ⟨x, t, rfl, e⟩
theorem Zz (a b : Int) : decide ((Sum.inl a : Key) = Sum.inl b) = (a == b) := by
 by_cases e : a = b
 ·subst e; simp
 ·have h : ¬ (Sum.inl a : Key) = Sum.inl b := fun q => e (Sum.inl.inj q)
  rw [decide_eq_false h]
  exact (beq_eq_false_iff_ne.mpr e).symm
theorem Yk (a b : Str) : decide ((Sum.inr a : Key) = Sum.inr b) = decide (a = b) := by
 by_cases e : a = b
 ·subst e; simp
 ·have h : ¬ (Sum.inr a : Key) = Sum.inr b := fun q => e (Sum.inr.inj q)
  rw [decide_eq_false h, decide_eq_false e]
theorem ZF (a : Int) (b : Str) : decide ((Sum.inl a : Key) = Sum.inr b) = false := decide_eq_false (fun q => nomatch q)
theorem Yq (a : Str) (b : Int) : decide ((Sum.inr a : Key) = Sum.inl b) = false := decide_eq_false (fun q => nomatch q)
noncomputable def Qb (prog : Program) (w : World) : PySem.KeyKind prog w Key where
 is := Zc
 hash := Xc w
 inj := fun v a b ha hb => by
  rcases qK ha with ⟨i, t, rfl, rfl⟩ | ⟨x, t, rfl, rfl⟩
  ·rcases qK hb with ⟨j, u, rfl, e⟩ | ⟨y, u, rfl, e⟩
   ·injection e with e1 _; rw [e1]
   ·exact nomatch e
  ·rcases qK hb with ⟨j, u, rfl, e⟩ | ⟨y, u, rfl, e⟩
   ·exact nomatch e
   ·injection e with e1 _; rw [e1]
 byValue := fun k v h => by
  rcases qK h with ⟨i, t, rfl, rfl⟩ | ⟨x, t, rfl, rfl⟩ <;> rfl
 pyHash := fun hv h => by
  rcases qK hv with ⟨i, t, rfl, rfl⟩ | ⟨x, t, rfl, rfl⟩
  ·exact wpAny_pyHash_int h
  ·exact wpAny_pyHash_str h
 eqBool := fun hu hv h => by
  rcases qK hu with ⟨i, t, rfl, rfl⟩ | ⟨x, t, rfl, rfl⟩
  ·rcases qK hv with ⟨j, u, rfl, rfl⟩ | ⟨y, u, rfl, rfl⟩
   ·rw [Zz] at h; exact wpAny_eqBool_int h
   ·rw [ZF] at h; exact SeqAt.EqAt.int_str i t y u _ _ _ _ h
  ·rcases qK hv with ⟨j, u, rfl, rfl⟩ | ⟨y, u, rfl, rfl⟩
   ·rw [Yq] at h; exact SeqAt.EqAt.str_int x t j u _ _ _ _ h
   ·rw [Yk] at h; exact wpAny_eqBool_str h
 «strs» := fun k x t v h => by
  rcases qK h with ⟨i, u, rfl, e⟩ | ⟨y, u, rfl, e⟩
  ·exact nomatch e
  ·injection e with e1 _
   subst e1
   cases v <;> rfl
set_option genInjectivity true in
inductive V where
 | non | bl (b : Bool) | int (i : Int) | str (x : Str) | byt (b : Array UInt8) | flt (b : UInt64) | ref (a : Addr) | ty (n : String)
 deriving DecidableEq
noncomputable def RelV : V -> Value -> Prop
 | .non, u => u = Value.none
 | .bl b, u => u = Value.bool b
 | .int i, u => ∃ t, u = Value.int i t
 | .str x, u => ∃ t, u = Value.str x t
 | .byt b, u => ∃ t, u = Value.bytes b t
 | .flt b, u => ∃ t, u = Value.float b t
 | .ref a, u => u = Value.ref a
 | .ty n, u => u = Value.type n
noncomputable abbrev Vals : List V -> List Value -> Prop := Paired RelV
theorem Vals.length {xs : List V} {us : List Value} (r : Vals xs us) : xs.length = us.length := Paired.length r
theorem Vals.get : ∀ {xs : List V} {us : List Value} {i : Nat} {x : V}, Vals xs us -> xs[i]? = some x -> ∃ u, us[i]? = some u /\ RelV x u
 | _, _, _, _, .nil, e => by simp at e
 | _, _, 0, _, .cons r _, e => by simp at e; subst e; exact ⟨_, rfl, r⟩
 | _, _, i + 1, x, .cons _ t, e => by
  obtain ⟨u, h1, h2⟩ := Vals.get (i := i) (x := x) t (by simpa using e)
  exact ⟨u, by simpa using h1, h2⟩
theorem Vals.append : ∀ {xs ys : List V} {us ws : List Value}, Vals xs us -> Vals ys ws -> Vals (xs ++ ys) (us ++ ws)
 | _, _, _, _, .nil, s => s
 | _, _, _, _, .cons r t, s => .cons r (Vals.append t s)
noncomputable def YL : Option V -> Option Value -> Prop
 | some v, some u => RelV v u
 | none, none => True
 | _, _ => False
noncomputable def KV {κ : Type} : List (κ × V) -> List (κ × Value) -> Prop := Paired fun (p : κ × V) (q : κ × Value) => p.1 = q.1 /\ RelV p.2 q.2
noncomputable def kV : Key -> V
 | .inl i => .int i
 | .inr x => .str x
inductive HO where
 /-- a list -/
 | lst (xs : List V)
 /-- a tuple (never changes) -/
 | tup (xs : List V)
 /-- a dict whose keys are ints and texts; one whose keys are tuples of ints and texts (the empty one is both) -/
 | dK (kvs : List (Key × V)) | dT (kvs : List (List Key × V))
 /-- a set of ints: its members, its size -/
 | set (S : Int -> Bool) (n : Nat)
 /-- an instance of the class at C, its dict at dx, its attributes -/
 | ins (C dx : Addr) (fs : List (Str × V))
 /-- the dict of the instance at x -/
 | own (x : Addr)
 /-- the dict of an exception -/
 | xd (fs : List (Str × V))
 /-- a bound method, f of x -/
 | met (f x : Addr)
 /-- a range object lo, lo + 1, .. below hi -/
 | rng (lo hi : Int)
 /-- a thing that is known to the object (the script; a dict while a loop walks it): read, never written while it is so -/
 | frz (o : Obj) (u : HO)
 /-- a code object's table -/
 | tbl (ps : Array Value)
 /-- any other thing, by what is true of its one object (a def of one's own: SetO a S n := HO.ext fun h => ..) -/
 | ext (φ : Heap -> Prop)
noncomputable abbrev Hp := Addr -> Option HO
noncomputable def upd (H : Hp) (a : Addr) (o : HO) : Hp := fun b => if b = a then some o else H b
theorem qH {H : Hp} {a : Addr} {o : HO} : upd H a o a = some o := by unfold upd; rw [if_pos rfl]
theorem qh {H : Hp} {a b : Addr} {o : HO} (h : b ≠ a) : upd H a o b = H b := by unfold upd; rw [if_neg h]
theorem qy {H : Hp} {a b : Addr} {o : HO} (h : H a = some o) (h' : H b = none) : a ≠ b := by
 intro e; subst e; rw [h] at h'; cases h'
section
variable (P : Program) (w : World)
noncomputable def vD (H : Hp) (h : Heap) (a : Addr) : HO -> Prop
 | .lst xs => xs.length <= sizeLine /\ ∃ (its : List Value) (n : Nat), Vals xs its /\ h.get? a = some { cls := .type "list", data := .seq its.toArray n }
 | .tup xs => xs.length <= sizeLine /\ ∃ its : List Value, Vals xs its /\ IsTup h a its.toArray
 | .dK kvs => kvs.length <= sizeLine /\ (a == sysModules) = false /\ ∃ vs, KV kvs vs /\ h.DictOf (Qb P w) a vs
 | .dT kvs => kvs.length <= sizeLine /\ (a == sysModules) = false /\ ∃ xs : List (List Key × Addr × Value),
   Paired (fun (p : List Key × V) (q : List Key × Addr × Value) => p.1 = q.1 /\ H q.2.1 = some (.tup (p.1.map kV)) /\ RelV p.2 q.2.2) kvs xs /\
   ∃ o es ep, h.get? a = some o /\ o.ExactDict /\ o.data = .dict es ep /\ es.toList = xs.map (entryOfKey (tupleKind (Qb P w))) /\ (xs.map (·.1)).Nodup
 | .set S n => h.SetOf (intKind P w) a S n
 | .ins C dx fs => H dx = some (.own a) /\ fs.length <= 1000 /\ dx ≠ a /\ h.get? a = some (PySem.W.instObj C dx) /\
   ∃ mA, h.Ns1 dx mA /\ (∀ f, YL (fs.lookup f) (mA f)) /\ PySem.Within mA (fs.map (·.1))
 | .own _ => ∃ o, h.get? a = some o
 | .xd fs => ∃ mA, h.Ns1 a mA /\ ∀ f, YL (fs.lookup f) (mA f)
 | .rng lo hi => ∃ t u v, h.get? a = some { cls := .type "range", data := .fields #[.int lo t, .int hi u, .int 1 v] }
 | .frz o u => h.get? a = some o /\ vD H h a u
 | .tbl ps => h.get? a = some { cls := .none, data := .fields ps }
 | .met f x => h.get? a = some (PySem.W.methodObj (.ref f) (.ref x))
 | .ext φ => φ h /\ (∃ o, h.get? a = some o) /\ ∀ h1 h2 : Heap, φ h1 -> (∀ o, h1.get? a = some o -> h2.get? a = some o) -> φ h2
noncomputable def HOk (H : Hp) (h : Heap) : Prop := ∀ a o, H a = some o -> vD P w H h a o
end
section
variable {P : Program} {w : World} {H H' : Hp} {h h' : Heap} {a : Addr} {o : HO}
theorem vD.lt (x : vD P w H h a o) : a < h.objs.size := by
 cases o with
 | lst xs => obtain ⟨_, _, _, _, e⟩ := x; exact Heap.lt_size e
 | tup xs => obtain ⟨_, _, _, p⟩ := x; exact p.lt
 | dK kvs => obtain ⟨_, _, _, _, o, _, _, e, _⟩ := x; exact Heap.lt_size e
 | dT kvs => obtain ⟨_, _, _, _, o, _, _, e, _⟩ := x; exact Heap.lt_size e
 | set S n => obtain ⟨o, _, _, _, e, _⟩ := x; exact Heap.lt_size e
 | ins C dx fs => obtain ⟨_, _, _, e, _⟩ := x; exact Heap.lt_size e
 | own y => obtain ⟨_, e⟩ := x; exact Heap.lt_size e
 | xd fs => obtain ⟨_, ⟨_, _, _, e, _⟩, _⟩ := x; exact Heap.lt_size e
 | rng lo hi => obtain ⟨_, _, _, e⟩ := x; exact Heap.lt_size e
 | frz ob u => obtain ⟨e, _⟩ := x; exact Heap.lt_size e
 | tbl ps => exact Heap.lt_size (show h.get? a = some _ from x)
 | met f y => exact Heap.lt_size (show h.get? a = some _ from x)
 | ext φ => obtain ⟨_, ⟨_, e⟩, _⟩ := x; exact Heap.lt_size e
theorem Paired.YV {α β : Type} {F G : α -> β -> Prop} : ∀ {l₁ : List α} {l₂ : List β}, Paired F l₁ l₂ -> (∀ a b, F a b -> G a b) -> Paired G l₁ l₂
 | _, _, .nil, _ => .nil
 | _, _, .cons r t, f => .cons (f _ _ r) (Paired.YV t f)
theorem vD.xi (x : vD P w H h a o) (k : ∀ b u, (b = a \/ H b = some (.own a)) -> h.get? b = some u -> h'.get? b = some u)
  (ho : ∀ b, H b = some (.own a) -> H' b = some (.own a)) (ht : ∀ b xs, H b = some (.tup xs) -> H' b = some (.tup xs)) : vD P w H' h' a o := by
 induction o with
 | lst xs => obtain ⟨z, its, n, r, e⟩ := x; exact ⟨z, its, n, r, k _ _ (.inl rfl) e⟩
 | tup xs => obtain ⟨z, its, r, ob, e, c⟩ := x; exact ⟨z, its, r, ob, k _ _ (.inl rfl) e, c⟩
 | dK kvs => obtain ⟨z, y, vs, r, ob, es, ep, e, c⟩ := x; exact ⟨z, y, vs, r, ob, es, ep, k _ _ (.inl rfl) e, c⟩
 | dT kvs =>
  obtain ⟨z, y, xs, r, ob, es, ep, e, c⟩ := x
  exact ⟨z, y, xs, Paired.YV r fun p q z => ⟨z.1, ht _ _ z.2.1, z.2.2⟩, ob, es, ep, k _ _ (.inl rfl) e, c⟩
 | set S n => obtain ⟨ob, es, ep, t, e, c⟩ := x; exact ⟨ob, es, ep, t, k _ _ (.inl rfl) e, c⟩
 | ins C dx fs =>
  obtain ⟨d, z, ne, e, mA, ⟨od, es, ep, e2, c⟩, r⟩ := x
  exact ⟨ho _ d, z, ne, k _ _ (.inl rfl) e, mA, ⟨od, es, ep, k _ _ (.inr d) e2, c⟩, r⟩
 | own y => obtain ⟨ob, e⟩ := x; exact ⟨ob, k _ _ (.inl rfl) e⟩
 | xd fs => obtain ⟨mA, ⟨od, es, ep, e, c⟩, r⟩ := x; exact ⟨mA, ⟨od, es, ep, k _ _ (.inl rfl) e, c⟩, r⟩
 | rng lo hi => obtain ⟨t, u, v, e⟩ := x; exact ⟨t, u, v, k _ _ (.inl rfl) e⟩
 | frz ob u ih => obtain ⟨e, q⟩ := x; exact ⟨k _ _ (.inl rfl) e, ih q⟩
 | tbl ps =>
  have e : h.get? a = some { cls := .none, data := .fields ps } := x
  show h'.get? a = some { cls := .none, data := .fields ps }
  exact k a _ (.inl rfl) e
 | met f y =>
  have e : h.get? a = some (PySem.W.methodObj (.ref f) (.ref y)) := x
  show h'.get? a = some (PySem.W.methodObj (.ref f) (.ref y))
  exact k a _ (.inl rfl) e
 | ext φ => obtain ⟨p, ⟨o, e⟩, st⟩ := x; exact ⟨st _ _ p fun o q => k _ _ (.inl rfl) q, ⟨o, k _ _ (.inl rfl) e⟩, st⟩
theorem HOk.lt (x : HOk P w H h) (e : H a = some o) : a < h.objs.size := (x a o e).lt
theorem HOk.fresh (x : HOk P w H h) (e : h.objs.size <= a) : H a = none := by
 cases q : H a with
 | none => rfl
 | some u => exact absurd (Nat.lt_of_lt_of_le (x.lt q) e) (Nat.lt_irrefl _)
theorem HOk.kept (x : HOk P w H h) (k : ∀ b u, h.get? b = some u -> h'.get? b = some u) : HOk P w H h' := fun a o e =>
 (x a o e).xi (fun b u _ q => k b u q) (fun _ q => q) fun _ _ q => q
theorem HOk.laid (x : HOk P w H h) (k : ∀ b u, h.get? b = some u -> h'.get? b = some u) (hp : h.objs.size <= a) (new : vD P w (upd H a o) h' a o) : HOk P w (upd H a o) h' := fun b u e => by
 have hn := x.fresh hp
 by_cases hb : b = a
 ·subst hb; rw [qH] at e; cases e; exact new
 ·rw [qh hb] at e
  exact (x b u e).xi (fun c v _ q => k c v q) (fun c q => by rw [qh (qy q hn)]; exact q) fun c xs q => by rw [qh (qy q hn)]; exact q
end
noncomputable def Rd (H : Hp) (a : Addr) (u : HO) : Prop := H a = some u \/ ∃ o, H a = some (.frz o u)
theorem Rd.of {H : Hp} {a : Addr} {u : HO} (h : H a = some u) : Rd H a u := .inl h
theorem Rd.ok {P : Program} {w : World} {H : Hp} {h : Heap} {a : Addr} {u : HO} (r : Rd H a u) (x : HOk P w H h) : vD P w H h a u := by
 rcases r with r | ⟨o, r⟩
 ·exact x a u r
 ·obtain ⟨_, q⟩ := x a _ r
  exact q
noncomputable def Mut : Option HO -> Prop
 | some (.lst _) => True
 | some (.dK _) => True
 | some (.dT _) => True
 | some (.set _ _) => True
 | some (.ins _ _ _) => True
 | some (.ext _) => True
 | _ => False
section
variable {P : Program} {w : World} {H : Hp} {h h' : Heap} {x e : Addr} {o' : HO}
theorem HOk.write (ok : HOk P w H h) (mu : Mut (H x)) (he : e = x \/ H e = some (.own x)) (k : ∀ b u, b ≠ e -> h.get? b = some u -> h'.get? b = some u) (heo : ∃ u, h'.get? e = some u)
  (new : vD P w (upd H x o') h' x o') : HOk P w (upd H x o') h' := fun b u q => by
 have nown : ∀ c y, H c = some (.own y) -> c ≠ x := fun c y r z => by subst z; rw [r] at mu; exact mu
 have ntup : ∀ c xs, H c = some (.tup xs) -> c ≠ x := fun c xs r z => by subst z; rw [r] at mu; exact mu
 by_cases hb : b = x
 ·subst hb; rw [qH] at q; cases q; exact new
 ·rw [qh hb] at q
  by_cases hbe : b = e
  ·have q' : H b = some (.own x) := by
    rcases he with z | z
    ·exact absurd (hbe.trans z) hb
    ·rw [hbe]; exact z
   rw [q] at q'; cases q'
   obtain ⟨v, hv⟩ := heo
   exact ⟨v, by rw [hbe]; exact hv⟩
  ·refine (ok b u q).xi (fun c v hc r => k c v ?_ r) (fun c r => by rw [qh (nown c b r)]; exact r) fun c xs r => by rw [qh (ntup c xs r)]; exact r
   rcases hc with rfl | hc
   ·exact hbe
   ·rintro rfl
    rcases he with z | z
    ·exact nown c b hc z
    ·rw [hc] at z; cases z; exact hb rfl
end
structure Un (fs ex : List Addr) (H H' : Hp) (h h' : Heap) : Prop where
 keep : ∀ b o, h.get? b = some o -> H b = none -> b ∉ fs -> b ∉ ex -> h'.get? b = some o
 slot : ∀ b o, h.get? b = some o -> H b = none -> b ∈ fs -> b ∉ ex -> ∃ sl, h'.get? b = some { o with slots := sl }
 free : ∀ b o, h.get? b = some o -> H b = none -> b ∉ ex -> H' b = none
 there : ∀ b o, h.get? b = some o -> b ∉ ex -> ∃ o', h'.get? b = some o'
 tups : ∀ b xs, H b = some (.tup xs) -> H' b = some (.tup xs)
 frzs : ∀ b o u, H b = some (.frz o u) -> H' b = some (.frz o u)
 tbls : ∀ b ps, H b = some (.tbl ps) -> ∃ more, H' b = some (.tbl (ps ++ more))
section
variable {fs fs' ex ex' : List Addr} {H H1 H2 : Hp} {h h1 h2 h' : Heap} {a x e : Addr} {o : HO}
theorem Un.any (u : Un fs ex H H1 h h1) {b : Addr} {ob : Obj} (q : h.get? b = some ob) (n : H b = none) (hx : b ∉ ex) : ∃ sl, h1.get? b = some { ob with slots := sl } := by
 by_cases hb : b ∈ fs
 ·exact u.slot b ob q n hb hx
 ·exact ⟨ob.slots, u.keep b ob q n hb hx⟩
theorem Un.kept (k : ∀ b u, h.get? b = some u -> h'.get? b = some u) : Un fs ex H H h h' :=
 ⟨fun b ob q _ _ _ => k b ob q, fun b ob q _ _ _ => ⟨ob.slots, k b ob q⟩, fun _ _ _ n _ => n, fun b ob q _ => ⟨ob, k b ob q⟩, fun _ _ q => q, fun _ _ _ q => q, fun _ ps q => ⟨#[], by rw [q]; simp⟩⟩
theorem Un.refl : Un fs ex H H h h := Un.kept fun _ _ q => q
theorem Un.laid (k : ∀ b u, h.get? b = some u -> h'.get? b = some u) (hp : h.objs.size <= a) (hn : H a = none) : Un fs ex H (upd H a o) h h' where
 keep := fun b u q _ _ _ => k b u q
 slot := fun b u q _ _ _ => ⟨u.slots, k b u q⟩
 free := fun b u q n _ => by rw [qh (Nat.ne_of_lt (Nat.lt_of_lt_of_le (Heap.lt_size q) hp))]; exact n
 there := fun b u q _ => ⟨u, k b u q⟩
 tups := fun b xs q => by rw [qh (qy q hn)]; exact q
 frzs := fun b u xs q => by rw [qh (qy q hn)]; exact q
 tbls := fun b ps q => ⟨#[], by rw [qh (qy q hn), q]; simp⟩
theorem Un.write (mu : Mut (H x)) (he : e = x \/ H e = some (.own x)) (k : ∀ b u, b ≠ e -> h.get? b = some u -> h'.get? b = some u) (heo : ∃ u, h'.get? e = some u) : Un fs ex H (upd H x o) h h' := by
 have hx : ∀ b, H b = none -> b ≠ x := fun b n z => by subst z; rw [n] at mu; exact mu
 have hb : ∀ b, H b = none -> b ≠ e := fun b n z => by
  subst z
  rcases he with r | r
  ·exact hx b n r
  ·rw [n] at r; cases r
 have hm : ∀ b u, H b = some u -> ¬ Mut (some u) -> b ≠ x := fun b u q nm z => by subst z; rw [q] at mu; exact nm mu
 refine ⟨fun b u q n _ _ => k b u (hb b n) q, fun b u q n _ _ => ⟨u.slots, k b u (hb b n) q⟩, fun b u q n _ => by rw [qh (hx b n)]; exact n, fun b u q _ => ?_,
  fun b xs q => by rw [qh (hm b _ q fun z => z)]; exact q, fun b u xs q => by rw [qh (hm b _ q fun z => z)]; exact q, fun b ps q => ⟨#[], by rw [qh (hm b _ q fun z => z), q]; simp⟩⟩
 by_cases hbe : b = e
 ·subst hbe; exact heo
 ·exact ⟨u, k b u hbe q⟩
end
noncomputable def trk (h : Heap) (H : Hp) : List Addr := (List.range h.objs.size).filter fun a => (H a).isSome
noncomputable def xg (h : Heap) (H : Hp) : Heap := PySem.W.hideAll h (trk h H)
theorem QX (h : Heap) (H : Hp) : (xg h H).objs.size = h.objs.size := PySem.W.hideAll_size _ _
theorem VL {h : Heap} {H : Hp} {b : Addr} {o : Obj} (e : h.get? b = some o) (n : H b = none) : (xg h H).get? b = some o :=
 PySem.W.hideAll_get _ e fun hm => by
  have q : (H b).isSome = true := (List.mem_filter.mp hm).2
  rw [n] at q; simp at q
theorem WR {h : Heap} {H : Hp} {b : Addr} {o : Obj} (e : (xg h H).get? b = some o) : h.get? b = some o /\ H b = none := by
 have e' : h.get? b = some o := PySem.W.of_hideAll (trk h H) e
 refine ⟨e', ?_⟩
 cases q : H b with
 | none => rfl
 | some x =>
  have hm : b ∈ trk h H := List.mem_filter.mpr ⟨List.mem_range.mpr (Heap.lt_size e'), by simp [q]⟩
  have z : (xg h H).get? b = none := PySem.W.hideAll_none (trk h H) hm
  rw [z] at e; cases e
structure Mod (K : PySem.W.Frag) (mg : Str -> Option Value) (base : Heap) : Prop where
 kin : K.In base
 glob : base.Ns mainGlobals mg
 blt : ∃ mb, base.Ns builtinsNs mb /\ ∀ x : Str, x ≠ "__name__" -> mb x = bootBuiltins x
 nolimit : base.NoLimit
structure Cx where
 prog : Program
 w : World
 K : PySem.W.Frag
 mg : Str -> Option Value
 base : Heap
 A : Around
 N : List Str
 s_0 : Shared
 H_0 : Hp
 env : Env
 outer : List Env
 stack : List Env
 ex : List Addr
 fn : Str -> Bool
 calm : Bool
 pn : List (Addr × Obj)
 xe : Value -> Shared -> Prop
noncomputable def frs (l : List Env) : List Addr := l.filterMap (·.frame)
noncomputable abbrev Cx.fs (X : Cx) : List Addr := frs X.outer
noncomputable def Vis (sc : Scope) (x : Str) : Prop := sc.names.lookup x = some .local \/ sc.names.lookup x = some .cell \/ sc.names.lookup x = some .free
noncomputable def Loc (sc : Scope) (x : Str) : Prop := sc.names.lookup x = some .local \/ sc.names.lookup x = some .cell
noncomputable def Look (env : Env) (h : Heap) (m : Str -> Option Value) (x : Str) (u : Value) : Prop :=
 (env.kindOf x = some .local /\ m x = some u) \/ ((env.kindOf x = some .cell \/ env.kindOf x = some .free) /\ ∃ c, env.cells.lookup x = some c /\ h.IsCell c (some u))
structure Cx.Ok (X : Cx) : Prop where
 mod : Mod X.K X.mg X.base
 kind : X.env.scope.kind = .function
 glob : X.env.globals = mainGlobals
 blt : X.env.builtins = builtinsNs
 above : X.s_0.heap.objs.size <= X.env.locals
 inj : ∀ x y c, X.env.cells.lookup x = some c -> X.env.cells.lookup y = some c -> x = y
 has : ∀ x, (X.env.kindOf x = some .cell \/ X.env.kindOf x = some .free) -> ∃ c, X.env.cells.lookup x = some c
 cab : ∀ x c, X.fn x = true -> X.env.cells.lookup x = some c -> X.s_0.heap.objs.size <= c
 hd : X.calm = true -> X.A.handled = none
 frames : X.A.frames = some X.stack
 stk : X.stack = X.outer \/ (X.stack = X.env :: X.outer /\ X.env.frame = some X.env.locals)
 exf : ∀ b ∈ X.ex, b ≠ X.env.locals /\ ∀ x c, X.env.cells.lookup x = some c -> c ≠ b
 bs : ∀ b o, X.base.get? b = some o -> X.s_0.heap.get? b = some o /\ X.H_0 b = none
 bsz : X.base.objs.size <= X.s_0.heap.objs.size
 noex : ∀ b o, X.base.get? b = some o -> b ∉ X.ex
 exfs : ∀ b ∈ X.ex, b ∉ X.fs
 zj : X.s_0.heap.FunFrames X.base X.outer
 frf : ∀ b ∈ X.fs, X.H_0 b = none
structure Inv (X : Cx) (pins : List (Addr × Obj)) (σ : List (Option V)) (H : Hp) (s : Shared) : Prop where
 ok : X.Ok
 os : s.os = X.s_0.os
 bare : AllBare s.gens
 base : Un X.fs X.ex X.H_0 H X.s_0.heap s.heap
 loc : ∃ m, s.heap.Ns X.env.locals m /\ ∀ (i : Nat) (x : Str) (v : V), X.N[i]? = some x -> σ[i]? = some (some v) -> Vis X.env.scope x -> ∃ u, RelV v u /\ Look X.env s.heap m x u
 cell : ∀ x c, X.env.cells.lookup x = some c -> ∃ v, s.heap.IsCell c v
 free : H X.env.locals = none
 freeC : ∀ x c, X.env.cells.lookup x = some c -> H c = none
 pin : ∀ p ∈ X.pn ++ pins, s.heap.get? p.1 = some p.2 /\ H p.1 = none /\ p.1 ≠ X.env.locals /\ p.1 ∉ X.fs /\ ∀ v, p.2.data ≠ .cell v
 hok : HOk X.prog X.w H s.heap
 len : σ.length = X.N.length
section
variable {X : Cx} {pins : List (Addr × Obj)} {σ : List (Option V)} {H H' : Hp} {s : Shared} {h' : Heap}
theorem Cx.Ok.Y4 (ok : X.Ok) {b : Addr} {o : Obj} (e : X.base.get? b = some o) : b ∉ X.fs := fun hb => by
 have := (ok.zj.mem hb).1
 rw [e] at this; cases this
theorem Inv.bs (I : Inv X pins σ H s) : ∀ b o, X.base.get? b = some o -> s.heap.get? b = some o /\ H b = none := fun b o e =>
 ⟨I.base.keep b o (I.ok.bs b o e).1 (I.ok.bs b o e).2 (I.ok.Y4 e) (I.ok.noex b o e), I.base.free b o (I.ok.bs b o e).1 (I.ok.bs b o e).2 (I.ok.noex b o e)⟩
theorem Inv.bk (I : Inv X pins σ H s) : ∀ b o, X.base.get? b = some o -> s.heap.get? b = some o := fun b o e => (I.bs b o e).1
theorem Inv.mod (I : Inv X pins σ H s) : Mod X.K X.mg X.base := I.ok.mod
theorem Inv.kIn (I : Inv X pins σ H s) : X.K.In s.heap := I.ok.mod.kin.keeps I.bk
theorem Inv.nolimit (I : Inv X pins σ H s) : s.heap.NoLimit := I.ok.mod.nolimit.keeps I.bk
theorem Inv.lt (I : Inv X pins σ H s) : X.env.locals < s.heap.objs.size := let ⟨_, hn, _⟩ := I.loc; hn.lt
theorem Inv.sz (I : Inv X pins σ H s) : X.s_0.heap.objs.size <= s.heap.objs.size := Nat.le_trans I.ok.above (Nat.le_of_lt I.lt)
theorem Inv.YE (I : Inv X pins σ H s) {a : Addr} (h : s.heap.objs.size <= a) : a ∉ X.fs := fun hb => by
 obtain ⟨_, o, ho, _⟩ := I.ok.zj.mem hb
 exact absurd (Nat.lt_of_lt_of_le (Heap.lt_size ho) (Nat.le_trans I.sz h)) (Nat.lt_irrefl _)
theorem Inv.cne (I : Inv X pins σ H s) : ∀ x c, X.env.cells.lookup x = some c -> c ≠ X.env.locals := fun x c e z => by
 obtain ⟨v, o, ho, hd⟩ := I.cell x c e
 obtain ⟨m, ⟨o', es, ep, ho', hd', _⟩, _⟩ := I.loc
 rw [z, ho'] at ho; cases ho; rw [hd'] at hd; cases hd
theorem Inv.zj (I : Inv X pins σ H s) : s.heap.FunFrames X.base X.outer := by
 have all : ∀ (l : List Env), (∀ b ∈ frs l, b ∈ X.fs) -> X.s_0.heap.FunFrames X.base l -> s.heap.FunFrames X.base l := by
  intro l
  induction l with
  | nil => intro _ _; trivial
  | cons env r ih =>
   intro hs hl
   obtain ⟨hk, ⟨L, o, hf, hn, ho, hd⟩, hr⟩ := hl
   have hL : L ∈ X.fs := hs L (by unfold frs; rw [List.filterMap_cons, hf]; exact List.mem_cons_self)
   obtain ⟨sl, e⟩ := I.base.slot L o ho (I.ok.frf L hL) hL fun z => I.ok.exfs L z hL
   exact ⟨hk, ⟨L, _, hf, hn, e, hd⟩, ih (fun b hb => hs b (by unfold frs; rw [List.filterMap_cons, hf]; exact List.mem_cons_of_mem _ hb)) hr⟩
 exact all X.outer (fun _ hb => hb) I.ok.zj
theorem Inv.stack (I : Inv X pins σ H s) : s.heap.FunFrames X.base X.stack := by
 rcases I.ok.stk with e | ⟨e, hf⟩
 ·rw [e]; exact I.zj
 ·rw [e]
  obtain ⟨m, hn, _⟩ := I.loc
  refine .cons (by rw [I.ok.kind]; decide) hf hn ?_ I.zj
  exact Heap.get?_none_of_le (Nat.le_trans I.ok.bsz I.ok.above)
theorem Inv.wb (I : Inv X pins σ H s) : ∀ b ∈ frs X.stack, b ∈ X.env.locals :: X.fs := fun b hb => by
 rcases I.ok.stk with e | ⟨e, hf⟩
 ·rw [e] at hb; exact List.mem_cons_of_mem _ hb
 ·rw [e] at hb
  unfold frs at hb
  rw [List.filterMap_cons, hf] at hb
  exact hb
theorem Inv.uk (I : Inv X pins σ H s) : ∀ b ∈ frs X.stack, H b = none := fun b hb => by
 rcases List.mem_cons.mp (I.wb b hb) with e | hb
 ·rw [e]; exact I.free
 ·obtain ⟨_, o, ho, _⟩ := I.ok.zj.mem hb
  exact I.base.free b o ho (I.ok.frf b hb) fun z => I.ok.exfs b z hb
theorem Inv.step {g' : Array GenState} {t' : Nat} {d' : Drawn} {ch : List Addr} (I : Inv X pins σ H s)
  (hch : ∀ b ∈ ch, (b ∈ X.ex \/ X.s_0.heap.objs.size <= b) /\ b ≠ X.env.locals /\ (∀ x c, X.env.cells.lookup x = some c -> c ≠ b) /\ ∀ p ∈ X.pn ++ pins, p.1 ≠ b)
  (keep : ∀ b o, b ≠ X.env.locals -> b ∉ X.fs -> b ∉ ch -> s.heap.get? b = some o -> H b = none -> h'.get? b = some o)
  (slot : ∀ b o, b ≠ X.env.locals -> b ∈ X.fs -> b ∉ ch -> s.heap.get? b = some o -> H b = none -> ∃ sl, h'.get? b = some { o with slots := sl }) (free : ∀ b o, b ∉ ch -> s.heap.get? b = some o -> H b = none -> H' b = none)
  (there : ∀ b o, b ∉ ch -> s.heap.get? b = some o -> ∃ o', h'.get? b = some o')
  (tups : ∀ b xs, H b = some (.tup xs) -> H' b = some (.tup xs)) (frzs : ∀ b o u, H b = some (.frz o u) -> H' b = some (.frz o u)) (tbls : ∀ b ps, H b = some (.tbl ps) -> ∃ more, H' b = some (.tbl (ps ++ more)))
  (ns : ∀ m, s.heap.Ns X.env.locals m -> h'.Ns X.env.locals m) (hok : HOk X.prog X.w H' h') (hg : AllBare g') :
  Inv X pins σ H' { s with heap := h', gens := g', drawn := d', toks := t' } := by
 have neL : ∀ b o, X.s_0.heap.get? b = some o -> b ≠ X.env.locals := fun b o e => Nat.ne_of_lt (Nat.lt_of_lt_of_le (Heap.lt_size e) I.ok.above)
 have neC : ∀ b o, X.s_0.heap.get? b = some o -> b ∉ X.ex -> b ∉ ch := fun b o e hx hb => by
  rcases (hch b hb).1 with z | z
  ·exact hx z
  ·exact absurd (Nat.lt_of_lt_of_le (Heap.lt_size e) z) (Nat.lt_irrefl _)
 have cellK : ∀ x c, X.env.cells.lookup x = some c -> ∀ v, s.heap.IsCell c v -> h'.IsCell c v := fun x c e v ⟨o, ho, hd⟩ => by
  have nch : c ∉ ch := fun z => (hch c z).2.2.1 x c e rfl
  by_cases hc : c ∈ X.fs
  ·obtain ⟨sl, q⟩ := slot c o (I.cne x c e) hc nch ho (I.freeC x c e)
   exact ⟨_, q, hd⟩
  ·exact ⟨o, keep c o (I.cne x c e) hc nch ho (I.freeC x c e), hd⟩
 refine ⟨I.ok, I.os, hg, ⟨fun b o e n hb hx => ?_, fun b o e n hb hx => ?_, fun b o e n hx => ?_, fun b o e hx => ?_, fun b xs e => tups b xs (I.base.tups b xs e), fun b o xs e => frzs b o xs (I.base.frzs b o xs e), fun b ps e => ?_⟩, ?_, fun x c e => ?_, ?_, fun x c e => ?_, fun p hp => ?_, hok, I.len⟩
 ·exact keep b o (neL b o e) hb (neC b o e hx) (I.base.keep b o e n hb hx) (I.base.free b o e n hx)
 ·obtain ⟨sl, e1⟩ := I.base.slot b o e n hb hx
  obtain ⟨sl', e2⟩ := slot b _ (neL b o e) hb (neC b o e hx) e1 (I.base.free b o e n hx)
  exact ⟨sl', e2⟩
 ·obtain ⟨o', e1⟩ := I.base.there b o e hx
  exact free b o' (neC b o e hx) e1 (I.base.free b o e n hx)
 ·obtain ⟨o', e1⟩ := I.base.there b o e hx
  exact there b o' (neC b o e hx) e1
 ·obtain ⟨m1, e1⟩ := I.base.tbls b ps e
  obtain ⟨m2, e2⟩ := tbls b _ e1
  exact ⟨m1 ++ m2, by rw [e2, Array.append_assoc]⟩
 ·obtain ⟨m, hn, hl⟩ := I.loc
  refine ⟨m, ns m hn, fun i x v e1 e2 e3 => ?_⟩
  obtain ⟨u, r, l⟩ := hl i x v e1 e2 e3
  refine ⟨u, r, ?_⟩
  rcases l with l | ⟨k, c, e, z⟩
  ·exact .inl l
  ·exact .inr ⟨k, c, e, cellK x c e _ z⟩
 ·obtain ⟨v, z⟩ := I.cell x c e
  exact ⟨v, cellK x c e v z⟩
 ·obtain ⟨m, ⟨o, _, _, ho, _⟩, _⟩ := I.loc
  exact free _ o (fun z => (hch _ z).2.1 rfl) ho I.free
 ·obtain ⟨v, o, ho, hd⟩ := I.cell x c e
  exact free c o (fun z => (hch c z).2.2.1 x c e rfl) ho (I.freeC x c e)
 ·obtain ⟨e, n, ne, nf, d⟩ := I.pin p hp
  have nch : p.1 ∉ ch := fun z => (hch p.1 z).2.2.2 p hp rfl
  exact ⟨keep p.1 p.2 ne nf nch e n, free p.1 p.2 nch e n, ne, nf, d⟩
theorem Inv.un {t' : Nat} (I : Inv X pins σ H s) (u : Un X.fs [] H H' s.heap h') (hok : HOk X.prog X.w H' h') : Inv X pins σ H' { s with heap := h', toks := t' } := by
 obtain ⟨m, ⟨o, es, ep, ho, r⟩, _⟩ := id I.loc
 obtain ⟨sl, hL⟩ := u.any ho I.free (by simp)
 exact I.step (g' := s.gens) (d' := s.drawn) (ch := []) (fun _ z => nomatch z) (fun b o _ hb _ e n => u.keep b o e n hb (by simp)) (fun b o _ hb _ e n => u.slot b o e n hb (by simp)) (fun b o _ e n => u.free b o e n (by simp)) (fun b o _ e => u.there b o e (by simp)) u.tups u.frzs u.tbls (fun m' hm => by
  obtain ⟨o', es', ep', ho', r'⟩ := hm
  rw [ho] at ho'; cases ho'
  exact ⟨_, es', ep', hL, r'⟩) hok I.bare
theorem Inv.call {g' : Array GenState} {t' : Nat} {d' : Drawn} {ch : List Addr} (I : Inv X pins σ H s) (u : Un (frs X.stack) ch H H' s.heap h') (hok : HOk X.prog X.w H' h') (hg : AllBare g')
  (hch : ∀ b ∈ ch, (b ∈ X.ex \/ X.s_0.heap.objs.size <= b) /\ b ≠ X.env.locals /\ (∀ x c, X.env.cells.lookup x = some c -> c ≠ b) /\ ∀ p ∈ X.pn ++ pins, p.1 ≠ b) :
  Inv X pins σ H' { s with heap := h', gens := g', drawn := d', toks := t' } := by
 obtain ⟨m, ⟨o, es, ep, ho, r⟩, _⟩ := id I.loc
 obtain ⟨sl, hL⟩ := u.any ho I.free fun z => (hch _ z).2.1 rfl
 exact I.step (ch := ch) hch (fun b o hL hb hc e n => u.keep b o e n (fun z => (List.mem_cons.mp (I.wb b z)).elim hL hb) hc) (fun b o _ _ hc e n => u.any e n hc) (fun b o hc e n => u.free b o e n hc) (fun b o hc e => u.there b o e hc) u.tups u.frzs u.tbls (fun m' hm => by
  obtain ⟨o', es', ep', ho', r'⟩ := hm
  rw [ho] at ho'; cases ho'
  exact ⟨_, es', ep', hL, r'⟩) hok hg
theorem Inv.turned {t' : Nat} {it : Addr} (I : Inv X pins σ H s) (k : ∀ b o, b ≠ it -> s.heap.get? b = some o -> h'.get? b = some o) (hn : H it = none) (hL : it ≠ X.env.locals)
  (h1 : it ∈ X.ex \/ X.s_0.heap.objs.size <= it) (h2 : ∀ x c, X.env.cells.lookup x = some c -> c ≠ it) (h3 : ∀ p ∈ X.pn ++ pins, p.1 ≠ it) : Inv X pins σ H { s with heap := h', toks := t' } := by
 have nit : ∀ b u, H b = some u -> b ≠ it := fun b u e z => by rw [z, hn] at e; cases e
 refine I.step (g' := s.gens) (d' := s.drawn) (ch := [it]) (fun b hb => ?_) (fun b o _ _ hc e _ => k b o (fun z => hc (by simp [z])) e) (fun b o _ _ hc e _ => ⟨o.slots, k b o (fun z => hc (by simp [z])) e⟩) (fun _ _ _ _ n => n)
  (fun b o hc e => ⟨o, k b o (fun z => hc (by simp [z])) e⟩) (fun _ _ e => e) (fun _ _ _ e => e) (fun b ps e => ⟨#[], by rw [e]; simp⟩) (fun m hm => ?_) (fun b u e => ?_) I.bare
 ·have e : b = it := by simpa using hb
  subst e
  exact ⟨h1, hL, h2, h3⟩
 ·obtain ⟨o, es, ep, ho, r⟩ := hm
  exact ⟨o, es, ep, k _ o (Ne.symm hL) ho, r⟩
 ·refine (I.hok b u e).xi (fun c v hc q => k c v ?_ q) (fun _ q => q) fun _ _ q => q
  rcases hc with z | z
  ·rw [z]; exact nit b u e
  ·exact nit c _ z
theorem Inv.tok (I : Inv X pins σ H s) (t : Nat) : Inv X pins σ H { s with toks := t } := I.un (h' := s.heap) (t' := t) Un.refl I.hok
theorem Inv.kept {t' : Nat} (I : Inv X pins σ H s) (k : ∀ b u, s.heap.get? b = some u -> h'.get? b = some u) : Inv X pins σ H { s with heap := h', toks := t' } := I.un (Un.kept k) (I.hok.kept k)
theorem Inv.laid {a : Addr} {o : HO} {t' : Nat} (I : Inv X pins σ H s) (k : ∀ b u, s.heap.get? b = some u -> h'.get? b = some u) (hp : s.heap.objs.size <= a) (new : vD X.prog X.w (upd H a o) h' a o) :
  Inv X pins σ (upd H a o) { s with heap := h', toks := t' } := I.un (Un.laid k hp (I.hok.fresh hp)) (I.hok.laid k hp new)
theorem Inv.write {x e : Addr} {o : HO} {t' : Nat} (I : Inv X pins σ H s) (mu : Mut (H x)) (he : e = x \/ H e = some (.own x)) (k : ∀ b u, b ≠ e -> s.heap.get? b = some u -> h'.get? b = some u) (heo : ∃ u, h'.get? e = some u)
  (new : vD X.prog X.w (upd H x o) h' x o) : Inv X pins σ (upd H x o) { s with heap := h', toks := t' } := I.un (Un.write mu he k heo) (I.hok.write mu he k heo new)
theorem Inv.weak {σ' : List (Option V)} (I : Inv X pins σ H s) (hl : σ'.length = σ.length) (w : ∀ (i : Nat) v, σ'[i]? = some (some v) -> σ[i]? = some (some v)) : Inv X pins σ' H s :=
 ⟨I.ok, I.os, I.bare, I.base, let ⟨m, hn, hl'⟩ := I.loc; ⟨m, hn, fun i x v e1 e2 e3 => hl' i x v e1 (w i v e2) e3⟩, I.cell, I.free, I.freeC, I.pin, I.hok, hl.trans I.len⟩
theorem Inv.Qp {pins' : List (Addr × Obj)} (I : Inv X pins σ H s) (h : ∀ p ∈ pins', s.heap.get? p.1 = some p.2 /\ H p.1 = none /\ p.1 ≠ X.env.locals /\ p.1 ∉ X.fs /\ ∀ v, p.2.data ≠ .cell v) : Inv X pins' σ H s :=
 ⟨I.ok, I.os, I.bare, I.base, I.loc, I.cell, I.free, I.freeC, fun p hp => (List.mem_append.mp hp).elim (fun z => I.pin p (List.mem_append_left _ z)) (h p), I.hok, I.len⟩
theorem yL {N : List Str} (hN : N.Nodup) {i j : Nat} {x : Str} (a : N[i]? = some x) (b : N[j]? = some x) : i = j := by
 obtain ⟨h1, e1⟩ := List.getElem?_eq_some_iff.mp a
 obtain ⟨h2, e2⟩ := List.getElem?_eq_some_iff.mp b
 exact (List.getElem_inj hN).mp (e1.trans e2.symm)
theorem QR {M : Model} {A : Around} {E : Value -> Shared -> Prop} {i : Nat} {x : Str} {v : V} {u : Value} {Q : Unit -> Shared -> Prop} (I : Inv X pins σ H s) (hN : X.N.Nodup) (hi : X.N[i]? = some x) (hx : Loc X.env.scope x) (r : RelV v u)
  (h : ∀ s', Inv X pins (σ.set i (some v)) H s' -> (∃ a, Heap.SameBut a s.heap s'.heap /\ (a = X.env.locals \/ X.env.cells.lookup x = some a)) -> Q () s') (hf : X.fn x = true \/ X.env.scope.names.lookup x = some .local := by first | exact .inl rfl | exact .inr rfl | assumption) : wpAny M A (storeName X.env x u) Q E s := by
 obtain ⟨m, hn, hl⟩ := id I.loc
 have hcls : (X.env.scope.kind == .class || (X.env.scope.kind == .module && X.env.locals != X.env.globals)) = false := by rw [I.ok.kind]; rfl
 have hiσ : i < σ.length := by rw [I.len]; exact (List.getElem?_eq_some_iff.mp hi).1
 have cne := I.cne
 have tracked : ∀ {a : Addr} {h' : Heap}, (∃ o, s.heap.get? a = some o /\ H a = none) -> Heap.SameBut a s.heap h' -> HOk X.prog X.w H h' := fun {a h'} ha hs b ob e => by
  obtain ⟨_, _, hfree⟩ := ha
  refine (I.hok b ob e).xi (fun c w' hc q => (hs.2 c ?_).trans q) (fun _ q => q) fun _ _ q => q
  rintro rfl
  rcases hc with rfl | hc
  ·rw [hfree] at e; cases e
  ·rw [hfree] at hc; cases hc
 rcases hx with hk | hk
 ·refine wpAny_storeName_local hk hn (fun h' hn' hs => ?_) hcls
  obtain ⟨oL, _, _, hoL, _⟩ := id hn
  refine h _ ⟨I.ok, I.os, I.bare, ⟨fun b o e n hb hx => ?_, fun b o e n hb hx => ?_, I.base.free, fun b o e hx => ?_, I.base.tups, I.base.frzs, I.base.tbls⟩, ⟨_, hn', fun j y v' e1 e2 e3 => ?_⟩, fun y c e => ?_, I.free, I.freeC, fun p hp => ?_, tracked ⟨oL, hoL, I.free⟩ hs, by simpa using I.len⟩ ⟨_, hs, .inl rfl⟩
  ·exact (hs.2 b (Nat.ne_of_lt (Nat.lt_of_lt_of_le (Heap.lt_size e) I.ok.above))).trans (I.base.keep b o e n hb hx)
  ·obtain ⟨sl, e1⟩ := I.base.slot b o e n hb hx
   exact ⟨sl, (hs.2 b (Nat.ne_of_lt (Nat.lt_of_lt_of_le (Heap.lt_size e) I.ok.above))).trans e1⟩
  ·obtain ⟨o', e1⟩ := I.base.there b o e hx
   exact ⟨o', (hs.2 b (Nat.ne_of_lt (Nat.lt_of_lt_of_le (Heap.lt_size e) I.ok.above))).trans e1⟩
  ·by_cases hj : j = i
   ·subst hj
    rw [hi] at e1; cases e1
    rw [List.getElem?_set_self hiσ] at e2
    cases e2
    exact ⟨u, r, .inl ⟨hk, by simp⟩⟩
   ·rw [List.getElem?_set_ne (Ne.symm hj)] at e2
    obtain ⟨u', r', q⟩ := hl j y v' e1 e2 e3
    refine ⟨u', r', ?_⟩
    rcases q with ⟨k, e⟩ | ⟨k, c, e, z⟩
    ·refine .inl ⟨k, ?_⟩
     have : y ≠ x := fun e => hj (yL hN e1 (e ▸ hi))
     simp [this, e]
    ·exact .inr ⟨k, c, e, z.sameBut hs (cne y c e)⟩
  ·obtain ⟨w', z⟩ := I.cell y c e
   exact ⟨w', z.sameBut hs (cne y c e)⟩
  ·obtain ⟨e, n, ne, nf, d⟩ := I.pin p hp
   exact ⟨(hs.2 p.1 ne).trans e, n, ne, nf, d⟩
 ·have hfn : X.fn x = true := by
   rcases hf with z | z
   ·exact z
   ·rw [z] at hk; cases hk
  obtain ⟨c, hc⟩ := I.ok.has x (.inl hk)
  obtain ⟨w', z⟩ := I.cell x c hc
  refine wpAny_storeName_cell I.ok.kind hk hc z (fun h' hc' hs => ?_)
  obtain ⟨oc, hoc, hocd⟩ := id z
  refine h { s with heap := h' } ⟨I.ok, I.os, I.bare, ⟨fun b o e n hb hx => ?_, fun b o e n hb hx => ?_, I.base.free, fun b o e hx => ?_, I.base.tups, I.base.frzs, I.base.tbls⟩, ⟨m, hn.sameBut hs (Ne.symm (cne x c hc)), fun j y v' e1 e2 e3 => ?_⟩, fun y c' e => ?_, I.free, I.freeC, fun p hp => ?_, tracked ⟨oc, hoc, I.freeC x c hc⟩ hs, by simpa using I.len⟩ ⟨c, hs, .inr hc⟩
  ·exact (hs.2 b (Nat.ne_of_lt (Nat.lt_of_lt_of_le (Heap.lt_size e) (I.ok.cab x c hfn hc)))).trans (I.base.keep b o e n hb hx)
  ·obtain ⟨sl, e1⟩ := I.base.slot b o e n hb hx
   exact ⟨sl, (hs.2 b (Nat.ne_of_lt (Nat.lt_of_lt_of_le (Heap.lt_size e) (I.ok.cab x c hfn hc)))).trans e1⟩
  ·obtain ⟨o', e1⟩ := I.base.there b o e hx
   exact ⟨o', (hs.2 b (Nat.ne_of_lt (Nat.lt_of_lt_of_le (Heap.lt_size e) (I.ok.cab x c hfn hc)))).trans e1⟩
  ·by_cases hj : j = i
   ·subst hj
    rw [hi] at e1; cases e1
    rw [List.getElem?_set_self hiσ] at e2
    cases e2
    exact ⟨u, r, .inr ⟨.inl hk, c, hc, hc'⟩⟩
   ·rw [List.getElem?_set_ne (Ne.symm hj)] at e2
    obtain ⟨u', r', q⟩ := hl j y v' e1 e2 e3
    refine ⟨u', r', ?_⟩
    rcases q with q | ⟨k, c', e, z'⟩
    ·exact .inl q
    ·refine .inr ⟨k, c', e, z'.sameBut hs ?_⟩
     rintro rfl
     exact hj (yL hN e1 (I.ok.inj _ _ _ e hc ▸ hi))
  ·by_cases hcc : c' = c
   ·subst hcc; exact ⟨_, hc'⟩
   ·obtain ⟨w2, z2⟩ := I.cell y c' e
    exact ⟨w2, z2.sameBut hs hcc⟩
  ·obtain ⟨e, n, ne, nf, d⟩ := I.pin p hp
   refine ⟨(hs.2 p.1 ?_).trans e, n, ne, nf, d⟩
   intro q
   rw [q, hoc] at e
   have q' : oc = p.2 := Option.some.inj e
   exact d w' (by rw [<- q']; exact hocd)
theorem jb {M : Model} {A : Around} {E : Value -> Shared -> Prop} {i : Nat} {x : Str} {v : V} {u : Value} {Q : Unit -> Shared -> Prop} (I : Inv X pins σ H s) (hN : X.N.Nodup) (hi : X.N[i]? = some x) (hx : Loc X.env.scope x) (r : RelV v u)
  (h : ∀ s', Inv X pins (σ.set i (some v)) H s' -> Q () s') (hf : X.fn x = true \/ X.env.scope.names.lookup x = some .local := by first | exact .inl rfl | exact .inr rfl | assumption) : wpAny M A (storeName X.env x u) Q E s :=
 QR I hN hi hx r (fun s' I' _ => h s' I') hf
theorem Inv.VX {s' : Shared} {ch : List Addr} (I : Inv X pins σ H s) (ho : s'.os = s.os) (u : Un (frs X.stack) ch H H' s.heap s'.heap) (hok : HOk X.prog X.w H' s'.heap) (hg : AllBare s'.gens)
  (hch : ∀ b ∈ ch, (b ∈ X.ex \/ X.s_0.heap.objs.size <= b) /\ b ≠ X.env.locals /\ (∀ x c, X.env.cells.lookup x = some c -> c ≠ b) /\ ∀ p ∈ X.pn ++ pins, p.1 ≠ b) : Inv X pins σ H' s' := by
 obtain ⟨h', g', d', t', o'⟩ := s'
 have e : o' = s.os := ho
 subst e
 exact I.call (g' := g') (t' := t') (d' := d') u hok hg hch
end
noncomputable abbrev XK := Value -> Option Addr -> Hp -> Prop
noncomputable abbrev St := List (Option V)
noncomputable abbrev VK := V -> Hp -> Prop
noncomputable abbrev TE := St -> Hp -> VK -> Prop
noncomputable abbrev TT := St -> Hp -> (Bool -> Hp -> Prop) -> Prop
noncomputable abbrev TA := St -> Hp -> (List V -> Hp -> Prop) -> Prop
structure Ends where
 nx : St -> Hp -> Prop
 rt : VK
 bk : St -> Hp -> Prop := fun _ _ => False
 ct : St -> Hp -> Prop := fun _ _ => False
noncomputable abbrev TS := Ends -> St -> Hp -> Prop
noncomputable def EP (X : Cx) (pins : List (Addr × Obj)) (σ : St) (Q : VK) (u : Value) (s' : Shared) : Prop := ∃ v H', Inv X pins σ H' s' /\ RelV v u /\ Q v H'
noncomputable def TP (X : Cx) (pins : List (Addr × Obj)) (σ : St) (Q : Bool -> Hp -> Prop) (b : Bool) (s' : Shared) : Prop := ∃ H', Inv X pins σ H' s' /\ Q b H'
noncomputable def AP (X : Cx) (pins : List (Addr × Obj)) (σ : St) (Q : List V -> Hp -> Prop) (us : List Value) (s' : Shared) : Prop := ∃ vs H', Inv X pins σ H' s' /\ Vals vs us /\ Q vs H'
noncomputable def SP (X : Cx) (pins : List (Addr × Obj)) (D : Ends) (f : Flow) (s' : Shared) : Prop :=
 match f with
 | .next => ∃ σ' H', Inv X pins σ' H' s' /\ D.nx σ' H'
 | .brk => ∃ σ' H', Inv X pins σ' H' s' /\ D.bk σ' H'
 | .cont => ∃ σ' H', Inv X pins σ' H' s' /\ D.ct σ' H'
 | .ret u => ∃ v σ' H', Inv X pins σ' H' s' /\ RelV v u /\ D.rt v H'
noncomputable def PE (X : Cx) (e : Expr) (t : TE) : Prop :=
 ∀ (pins : List (Addr × Obj)) (s : Shared) (σ : St) (H : Hp) (Q : VK), Inv X pins σ H s -> t σ H Q -> wpAny (model X.prog X.w) X.A (eval e X.env) (EP X pins σ Q) X.xe s
noncomputable def PT (X : Cx) (e : Expr) (t : TT) : Prop :=
 ∀ (pins : List (Addr × Obj)) (s : Shared) (σ : St) (H : Hp) (Q : Bool -> Hp -> Prop), Inv X pins σ H s -> t σ H Q -> wpAny (model X.prog X.w) X.A (isTrue e X.env (eval e X.env)) (TP X pins σ Q) X.xe s
noncomputable def PW (X : Cx) (e : Expr) (t : TT) : Prop :=
 ∀ (whole : Sem Value) (pins : List (Addr × Obj)) (s : Shared) (σ : St) (H : Hp) (Q : Bool -> Hp -> Prop), Inv X pins σ H s -> t σ H Q -> wpAny (model X.prog X.w) X.A (isTrue e X.env whole) (TP X pins σ Q) X.xe s
theorem PW.pt {X : Cx} {e : Expr} {t : TT} (h : PW X e t) : PT X e t := h _
noncomputable def PA (X : Cx) (es : List Expr) (t : TA) : Prop :=
 ∀ (pos : Pos) (pins : List (Addr × Obj)) (s : Shared) (σ : St) (H : Hp) (Q : List V -> Hp -> Prop), Inv X pins σ H s -> t σ H Q -> wpAny (model X.prog X.w) X.A (spliced (backTo pos (starEach es X.env))) (AP X pins σ Q) X.xe s
noncomputable def PS (X : Cx) (st : Stmt) (t : TS) : Prop :=
 ∀ (pins : List (Addr × Obj)) (s : Shared) (σ : St) (H : Hp) (D : Ends), Inv X pins σ H s -> t D σ H -> wpAny (model X.prog X.w) X.A (exec st X.env) (SP X pins D) X.xe s
noncomputable def PSs (X : Cx) (st : List Stmt) (t : TS) : Prop :=
 ∀ (pins : List (Addr × Obj)) (s : Shared) (σ : St) (H : Hp) (D : Ends), Inv X pins σ H s -> t D σ H -> wpAny (model X.prog X.w) X.A (execs st X.env) (SP X pins D) X.xe s
theorem thn {α : Type} {t : Sem α} {Q Q' : α -> Shared -> Prop} {M : Model} {A : Around} {E : Value -> Shared -> Prop} {s : Shared} (h : wpAny M A t Q E s) (hQ : ∀ a s, Q a s -> Q' a s) : wpAny M A t Q' E s := wpAny_mono h hQ fun _ _ x => x
section
variable {X : Cx}
noncomputable def YC (i : Nat) : TE := fun σ H Q => ∃ v, σ[i]? = some (some v) /\ Q v H
noncomputable def tC (v : V) : TE := fun _ H Q => Q v H
theorem xP {i : Nat} {x : Str} {pos : Pos} (hN : X.N[i]? = some x) (hv : Vis X.env.scope x) (hd : (x == ("__debug__" : Str)) = false := by decide) (hcd : (x == ("__classdict__" : Str)) = false := by decide) : PE X (.Name x pos) (YC i) := by
 intro pins s σ H Q I h
 obtain ⟨v, e, h⟩ := h
 obtain ⟨m, hn, hl⟩ := I.loc
 obtain ⟨u, r, l⟩ := hl i x v hN e hv
 have fin : EP X pins σ Q u s := ⟨v, H, I, r, h⟩
 rcases l with ⟨hk, hm⟩ | ⟨hk, c, hc, hcell⟩
 ·exact wpAny_Name (wpAny_loadName_local I.ok.kind hk hn hm fin) hd
 ·rcases hk with hk | hk
  ·exact wpAny_Name (wpAny_loadName_cell I.ok.kind hk hc hcell fin) hd
  ·exact wpAny_Name (wpAny_loadName_free I.ok.kind hk hc hcell fin hcd) hd
theorem jO {i j pos} : PE X (.Constant (.int i) j pos) (tC (.int i)) := fun _ _ _ H _ I h => wpAny_Constant_int ⟨.int i, H, I.tok _, ⟨_, rfl⟩, h⟩
noncomputable def Gl (X : Cx) (x : Str) : Prop := X.env.kindOf x = some .globalImplicit
theorem zy {E : Value -> Shared -> Prop} {pins : List (Addr × Obj)} {s : Shared} {σ : St} {H : Hp} {x : Str} {u : Value} {pos : Pos} {Q : Value -> Shared -> Prop} (I : Inv X pins σ H s) (hg : Gl X x) (hm : X.mg x = some u) (h : Q u s)
  (hd : (x == ("__debug__" : Str)) = false := by decide) : wpAny (model X.prog X.w) X.A (eval (.Name x pos) X.env) Q E s :=
 Calls.Name_function_global I.ok.kind hg (Calls.loadGlobal_global (by rw [I.ok.glob]; exact I.mod.glob.keeps I.bk) hm h) hd
theorem VY {E : Value -> Shared -> Prop} {pins : List (Addr × Obj)} {s : Shared} {σ : St} {H : Hp} {x : Str} {u : Value} {pos : Pos} {Q : Value -> Shared -> Prop} (I : Inv X pins σ H s) (hg : Gl X x) (hm : X.mg x = none) (hv : bootBuiltins x = some u) (h : Q u s)
  (hn : x ≠ "__name__" := by decide) (hd : (x == ("__debug__" : Str)) = false := by decide) : wpAny (model X.prog X.w) X.A (eval (.Name x pos) X.env) Q E s := by
 obtain ⟨mb, h1, h2⟩ := I.mod.blt
 exact Calls.Name_function_global I.ok.kind hg (Calls.loadGlobal_builtin (by rw [I.ok.glob]; exact I.mod.glob.keeps I.bk) hm (by rw [I.ok.blt]; exact h1.keeps I.bk) ((h2 x hn).trans hv) h) hd
theorem Wr {x : Str} {v : V} {u : Value} {pos : Pos} (hg : Gl X x) (hm : X.mg x = some u) (r : RelV v u) (hd : (x == ("__debug__" : Str)) = false := by decide) : PE X (.Name x pos) (tC v) :=
 fun _ _ _ H _ I h => zy I hg hm ⟨v, H, I, r, h⟩ hd
variable {a b : Expr} {ta tb : TE} {pos : Pos}
noncomputable def tB (t : TE) : TT := fun σ H Q => t σ H fun x H1 => ∃ c, x = .bl c /\ Q c H1
theorem Yo {e : Expr} {t : TE} (h : PE X e t) (he : ∀ whole, isTrue e X.env whole = (do let v <- whole; standAt e.pos; holding [v] (truthy v)) := by intro _; rfl) : PT X e (tB t) := by
 intro pins s σ H Q I hw
 refine isTrue_plain (thn (h pins s σ H _ I hw) fun v s1 ⟨x, H1, I1, r1, q1⟩ => ?_) (he _)
 obtain ⟨d, rfl, q⟩ := q1
 cases r1
 exact wpAny_truthy_bool ⟨H1, I1, q⟩
variable {tA tB' : TT} {rest : List Expr}
noncomputable def Xb (t u : TT) : TT := fun σ H Q => t σ H fun c H1 => if c = true then u σ H1 Q else Q false H1
noncomputable def tOr (t u : TT) : TT := fun σ H Q => t σ H fun c H1 => if c = true then Q true H1 else u σ H1 Q
noncomputable def Xk (t : TT) : TT := fun σ H Q => t σ H fun c H1 => Q (!c) H1
theorem Wx (ha : PT X a tA) : PW X (.BoolOp .And [a] pos) tA := by
 intro wh pins s σ H Q I h
 refine isTrue_and (thn (ha pins s σ H Q I h) fun c s1 e => ?_)
 cases c with
 | true => exact isTrue_and_nil e
 | false => exact e
theorem Zl (ha : PT X a tA) : PW X (.BoolOp .Or [a] pos) tA := by
 intro wh pins s σ H Q I h
 refine isTrue_or (thn (ha pins s σ H Q I h) fun c s1 e => ?_)
 cases c with
 | false => exact isTrue_or_nil e
 | true => exact e
theorem ZC (ha : PT X a tA) (hb : PW X (.BoolOp .And (b :: rest) pos) tB') : PW X (.BoolOp .And (a :: b :: rest) pos) (Xb tA tB') := by
 intro wh pins s σ H Q I h
 refine isTrue_and (thn (ha pins s σ H _ I h) fun c s1 ⟨H1, I1, q1⟩ => ?_)
 cases c with
 | true => exact hb wh pins s1 σ H1 Q I1 q1
 | false => exact ⟨H1, I1, q1⟩
theorem Y0 (ha : PT X a tA) (hb : PW X (.BoolOp .Or (b :: rest) pos) tB') : PW X (.BoolOp .Or (a :: b :: rest) pos) (tOr tA tB') := by
 intro wh pins s σ H Q I h
 refine isTrue_or (thn (ha pins s σ H _ I h) fun c s1 ⟨H1, I1, q1⟩ => ?_)
 cases c with
 | true => exact ⟨H1, I1, q1⟩
 | false => exact hb wh pins s1 σ H1 Q I1 q1
theorem Yd (ha : PT X a tA) : PT X (.UnaryOp .Not a pos) (Xk tA) := by
 intro pins s σ H Q I h
 exact isTrue_not (ha pins s σ H (fun c H1 => Q (!c) H1) I h)
end
noncomputable def SqL (K : PySem.W.Frag) (H : Hp) (a : Addr) (xs : List V) : Prop :=
 Rd H a (.lst xs) \/
  ∃ (o : Obj) (its : Array Value) (n : Nat), K.lookup a = some o /\ o.cls = .type "list" /\ o.dict = none /\ o.data = .seq its n /\ its.size <= sizeLine /\ Vals xs its.toList
noncomputable def SqT (K : PySem.W.Frag) (H : Hp) (a : Addr) (xs : List V) : Prop :=
 Rd H a (.tup xs) \/
  ∃ (o : Obj) (its : Array Value) (n : Nat), K.lookup a = some o /\ o.cls = .type "tuple" /\ o.data = .seq its n /\ its.size <= sizeLine /\ Vals xs its.toList
noncomputable def Y6 : Value -> Option V
 | .none => some .non
 | .bool b => some (.bl b)
 | .int i _ => some (.int i)
 | .str x _ => some (.str x)
 | .bytes b _ => some (.byt b)
 | .float b _ => some (.flt b)
 | .ref a => some (.ref a)
 | .type n => some (.ty n)
 | _ => none
theorem RelV.abs {x : V} {u : Value} (r : RelV x u) : Y6 u = some x := by
 cases x with
 | non => cases r; rfl
 | bl _ => cases r; rfl
 | int _ => obtain ⟨t, rfl⟩ := r; rfl
 | str _ => obtain ⟨t, rfl⟩ := r; rfl
 | byt _ => obtain ⟨t, rfl⟩ := r; rfl
 | flt _ => obtain ⟨t, rfl⟩ := r; rfl
 | ref _ => cases r; rfl
 | ty _ => cases r; rfl
theorem RelV.inj {x y : V} {u : Value} (r : RelV x u) (q : RelV y u) : x = y := Option.some.inj (r.abs.symm.trans q.abs)
theorem Vals.inj : ∀ {xs ys : List V} {us : List Value}, Vals xs us -> Vals ys us -> xs = ys
 | _, _, _, .nil, .nil => rfl
 | _, _, _, .cons r t, .cons r' t' => by rw [r.inj r', Vals.inj t t']
section
variable {X : Cx} {pins : List (Addr × Obj)} {σ : St} {H : Hp} {s : Shared} {a : Addr} {xs ys : List V}
theorem SqL.of {K : PySem.W.Frag} (h : H a = some (.lst xs)) : SqL K H a xs := .inl (.inl h)
theorem SqT.of {K : PySem.W.Frag} (h : H a = some (.tup xs)) : SqT K H a xs := .inl (.inl h)
theorem Inv.list (I : Inv X pins σ H s) (h : SqL X.K H a xs) : ∃ its : List Value, Vals xs its /\ PlainL s.heap a its.toArray /\ xs.length <= sizeLine := by
 rcases h with h | ⟨o, its, n, hk, hc, hd, hs, hz, r⟩
 ·obtain ⟨z, its, n, r, e⟩ := h.ok I.hok
  exact ⟨its, r, ⟨_, n, e, rfl, rfl, rfl⟩, z⟩
 ·refine ⟨its.toList, r, ⟨o, n, I.kIn a o hk, hc, hd, by simpa using hs⟩, ?_⟩
  have e := r.length
  simp only [Array.length_toList] at e
  lia
theorem Inv.tuple (I : Inv X pins σ H s) (h : SqT X.K H a xs) : ∃ its : List Value, Vals xs its /\ IsTup s.heap a its.toArray /\ xs.length <= sizeLine := by
 rcases h with h | ⟨o, its, n, hk, hc, hs, hz, r⟩
 ·obtain ⟨z, its, r, p⟩ := h.ok I.hok
  exact ⟨its, r, p, z⟩
 ·refine ⟨its.toList, r, ⟨o, I.kIn a o hk, hc, n, by simpa using hs⟩, ?_⟩
  have e := r.length
  simp only [Array.length_toList] at e
  lia
theorem Inv.yA (I : Inv X pins σ H s) (h : SqL X.K H a xs) (h' : SqL X.K H a ys) : xs = ys := by
 obtain ⟨its, r, ⟨o, n, e, _, _, d⟩, _⟩ := I.list h
 obtain ⟨its', r', ⟨o', n', e', _, _, d'⟩, _⟩ := I.list h'
 rw [e] at e'; cases e'
 rw [d] at d'
 injection d' with d1 _
 have : its = its' := by simpa using congrArg Array.toList d1
 subst this
 exact r.inj r'
end
noncomputable abbrev Cx.wL (X : Cx) (E : Value -> Shared -> Prop) : Cx := { X with xe := E }
theorem Cx.Ok.wL {X : Cx} (ok : X.Ok) (E : Value -> Shared -> Prop) : (X.wL E).Ok :=
 ⟨ok.mod, ok.kind, ok.glob, ok.blt, ok.above, ok.inj, ok.has, ok.cab, ok.hd, ok.frames, ok.stk, ok.exf, ok.bs, ok.bsz, ok.noex, ok.exfs, ok.zj, ok.frf⟩
theorem Cx.Ok.vG {X : Cx} {E : Value -> Shared -> Prop} (ok : (X.wL E).Ok) : X.Ok :=
 ⟨ok.mod, ok.kind, ok.glob, ok.blt, ok.above, ok.inj, ok.has, ok.cab, ok.hd, ok.frames, ok.stk, ok.exf, ok.bs, ok.bsz, ok.noex, ok.exfs, ok.zj, ok.frf⟩
section
variable {X : Cx} {pins : List (Addr × Obj)} {σ : St} {H : Hp} {s : Shared} {E : Value -> Shared -> Prop}
theorem Inv.wL (I : Inv X pins σ H s) (E : Value -> Shared -> Prop) : Inv (X.wL E) pins σ H s := ⟨I.ok.wL E, I.os, I.bare, I.base, I.loc, I.cell, I.free, I.freeC, I.pin, I.hok, I.len⟩
theorem Inv.vG (I : Inv (X.wL E) pins σ H s) : Inv X pins σ H s := ⟨I.ok.vG, I.os, I.bare, I.base, I.loc, I.cell, I.free, I.freeC, I.pin, I.hok, I.len⟩
theorem SP.vG {D : Ends} {f : Flow} {s' : Shared} (h : SP (X.wL E) pins D f s') : SP X pins D f s' := by
 cases f with
 | next => obtain ⟨σ', H', I, q⟩ := h; exact ⟨σ', H', I.vG, q⟩
 | brk => obtain ⟨σ', H', I, q⟩ := h; exact ⟨σ', H', I.vG, q⟩
 | cont => obtain ⟨σ', H', I, q⟩ := h; exact ⟨σ', H', I.vG, q⟩
 | ret u => obtain ⟨v, σ', H', I, r, q⟩ := h; exact ⟨v, σ', H', I.vG, r, q⟩
end
section
variable {X : Cx} {st : Stmt} {rest : List Stmt} {t u : TS} {e : Expr} {te : TE} {pos : Pos}
noncomputable def YY : TS := fun D σ H => D.nx σ H
noncomputable def Y8 (t u : TS) : TS := fun D σ H => t { D with nx := u D } σ H
theorem Wm : PSs X [] YY := fun _ _ σ H _ I h => wpAny_execs_nil ⟨σ, H, I, h⟩
theorem uS (h1 : PS X st t) (h2 : PSs X rest u) : PSs X (st :: rest) (Y8 t u) := by
 intro pins s σ H D I h
 refine wpAny_execs_cons (thn (h1 pins s σ H { D with nx := u D } I h) fun f s1 q => ?_)
 cases f with
 | next =>
  obtain ⟨σ', H', I', q⟩ := q
  exact h2 pins s1 σ' H' D I' q
 | ret v => exact q
 | brk => exact q
 | cont => exact q
theorem zq (h1 : PS X st t) : PSs X [st] t := by
 intro pins s σ H D I h
 refine wpAny_execs_cons (thn (h1 pins s σ H D I h) fun f s1 q => ?_)
 cases f with
 | next => exact wpAny_execs_nil q
 | ret v => exact q
 | brk => exact q
 | cont => exact q
theorem Inv.quiet {pins : List (Addr × Obj)} {σ : St} {H : Hp} {s : Shared} (I : Inv X pins σ H s) : interactive X.env = false := by simp [interactive, I.ok.kind]
noncomputable def YA (te : TE) : TS := fun D σ H => te σ H fun _ H1 => D.nx σ H1
theorem WY (he : PE X e te) (hs : swapsWith e none pos.line X.env = pure false := by rfl) : PS X (.Expr e pos) (YA te) := by
 intro pins s σ H D I h
 exact wpAny_Expr_any (thn (he pins s σ H _ I h) fun v s1 ⟨x, H1, I1, r1, q1⟩ => ⟨σ, H1, I1, q1⟩) I.quiet hs
noncomputable def ZH (te : TE) : TS := fun D σ H => te σ H D.rt
theorem yy (he : PE X e te) : PS X (.Return (some e) pos) (ZH te) := by
 intro pins s σ H D I h
 exact wpAny_Return_some (thn (he pins s σ H _ I h) fun v s1 ⟨x, H1, I1, r1, q1⟩ => ⟨x, σ, H1, I1, r1, q1⟩)
noncomputable def Xh (c : TT) (t u : TS) : TS := fun D σ H => c σ H fun b H1 => if b = true then t D σ H1 else u D σ H1
theorem YH {c : Expr} {a b : List Stmt} {tc : TT} (hc : PT X c tc) (ha : PSs X a t) (hb : PSs X b u) : PS X (.If c a b pos) (Xh tc t u) := by
 intro pins s σ H D I h
 refine wpAny_If (thn (hc pins s σ H _ I h) fun d s1 ⟨H1, I1, q1⟩ => ?_)
 cases d with
 | true => exact ha pins s1 σ H1 D I1 q1
 | false => exact hb pins s1 σ H1 D I1 q1
end
noncomputable abbrev TG := V -> St -> Hp -> (St -> Hp -> Prop) -> Prop
noncomputable abbrev TGs := List V -> St -> Hp -> (St -> Hp -> Prop) -> Prop
noncomputable def PG (X : Cx) (target : Expr) (t : TG) : Prop :=
 ∀ (pins : List (Addr × Obj)) (s : Shared) (σ : St) (H : Hp) (v : V) (u : Value) (Q : St -> Hp -> Prop), Inv X pins σ H s -> RelV v u -> t v σ H Q ->
  wpAny (model X.prog X.w) X.A (assign target X.env u) (fun _ s' => ∃ σ' H', Inv X pins σ' H' s' /\ Q σ' H') X.xe s
noncomputable def PGs (X : Cx) (ts : List Expr) (t : TGs) : Prop :=
 ∀ (pins : List (Addr × Obj)) (s : Shared) (σ : St) (H : Hp) (vs : List V) (us : List Value) (Q : St -> Hp -> Prop), Inv X pins σ H s -> Vals vs us -> t vs σ H Q ->
  wpAny (model X.prog X.w) X.A (assignInOrder ((assignEach ts X.env).map (·.2)) us) (fun _ s' => ∃ σ' H', Inv X pins σ' H' s' /\ Q σ' H') X.xe s
section
variable {X : Cx} {pos : Pos}
noncomputable def vT (i : Nat) : TG := fun v σ H Q => Q (σ.set i (some v)) H
theorem V7 {i : Nat} {x : Str} (hN : X.N.Nodup) (hi : X.N[i]? = some x) (hx : Loc X.env.scope x) (hf : X.fn x = true \/ X.env.scope.names.lookup x = some .local := by first | exact .inl rfl | exact .inr rfl | assumption) : PG X (.Name x pos) (vT i) := by
 intro pins s σ H v u Q I r h
 exact wpAny_assign_Name (jb I hN hi hx r (fun s' I' => ⟨_, H, I', h⟩) hf)
noncomputable def We : TGs := fun vs σ H Q => vs = [] /\ Q σ H
noncomputable def y6 (t : TG) (u : TGs) : TGs := fun vs σ H Q => ∃ v r, vs = v :: r /\ t v σ H fun σ' H' => u r σ' H' Q
theorem WE : PGs X [] We := by
 intro pins s σ H vs us Q I r h
 obtain ⟨e, h⟩ := h
 subst e
 cases r
 exact assignInOrder_nil ⟨σ, H, I, h⟩
theorem uL {e : Expr} {es : List Expr} {t : TG} {u : TGs} (h1 : PG X e t) (h2 : PGs X es u)
  (hs : (assignEach (e :: es) X.env).map (·.2) = assign e X.env :: (assignEach es X.env).map (·.2) := by rfl) : PGs X (e :: es) (y6 t u) := by
 intro pins s σ H vs us Q I r h
 obtain ⟨v, vr, e1, h⟩ := h
 subst e1
 cases r with
 | cons r rr =>
  rw [hs]
  refine assignInOrder_cons (thn (h1 pins s σ H _ _ _ I r h) fun _ s1 ⟨σ1, H1, I1, q1⟩ => ?_)
  exact h2 pins s1 σ1 H1 _ _ Q I1 rr q1
noncomputable def WX (K : PySem.W.Frag) (n : Nat) (t : TGs) : TG := fun v σ H Q => ∃ a xs, v = .ref a /\ SqT K H a xs /\ xs.length = n /\ t xs σ H Q
theorem ZZ {es : List Expr} {k : Nat} {t : TGs} {n : Nat} (hc : X.calm = true) (h : PGs X es t)
  (hn : (assignEach es X.env).length = n := by rfl) (hst : (assignEach es X.env).findIdx? (·.1) = none := by rfl) : PG X (.Tuple es k pos) (WX X.K n t) := by
 intro pins s σ H v u Q I r hw
 obtain ⟨a, xs, e1, hq, hl, hw⟩ := hw
 subst e1
 cases r
 obtain ⟨its, rv, ht, hz⟩ := I.tuple hq
 refine assign_Tuple_tuple (I.ok.hd hc) ht (by simp [hn, <- hl, rv.length]) hst fun h' hx => ?_
 have I1 : Inv X pins σ H { s with heap := h' } := I.kept (t' := s.toks) fun b o e => hx b o (Nat.ne_of_lt (Heap.lt_size e)) e
 exact h pins _ σ H xs _ Q I1 (by simpa using rv) hw
noncomputable def Yb (te : TE) (g : TG) : TS := fun D σ H => te σ H fun x H1 => g x σ H1 D.nx
theorem Vi {i : Nat} {x : Str} {e : Expr} {te : TE} {pos' : Pos} (hN : X.N.Nodup) (hi : X.N[i]? = some x) (hx : Loc X.env.scope x) (he : PE X e te) (hs : swapsWith e (some (.Name x pos')) pos.line X.env = pure false := by rfl) (hf : X.fn x = true \/ X.env.scope.names.lookup x = some .local := by first | exact .inl rfl | exact .inr rfl | assumption) :
  PS X (.Assign [.Name x pos'] e pos) (Yb te (vT i)) := by
 intro pins s σ H D I h
 refine wpAny_Assign_Name (thn (he pins s σ H _ I h) fun v s1 ⟨y, H1, I1, r1, q1⟩ => ?_) hs
 exact jb I1 hN hi hx r1 (fun s2 I2 => ⟨_, H1, I2, q1⟩) hf
end
structure It where
 go : Nat -> Hp -> Prop
 yld : Nat -> Hp -> V -> Hp -> Prop
 stop : Nat -> Hp -> Prop
noncomputable def zQ (X : Cx) (pins : List (Addr × Obj)) (H : Hp) (b : Addr) : Prop :=
 H b = none /\ b ≠ X.env.locals /\ b ∉ X.fs /\ (b ∈ X.ex \/ X.s_0.heap.objs.size <= b) /\ (∀ x c, X.env.cells.lookup x = some c -> c ≠ b) /\ ∀ p ∈ X.pn ++ pins, p.1 ≠ b
theorem Inv.Wl {X : Cx} {pins : List (Addr × Obj)} {σ : St} {H H' : Hp} {s : Shared} {b : Addr} (I : Inv X pins σ H s) (hb : s.heap.objs.size <= b) (hn : H' b = none) : zQ X pins H' b := by
 refine ⟨hn, Nat.ne_of_gt (Nat.lt_of_lt_of_le I.lt hb), I.YE hb, .inr (Nat.le_trans I.sz hb), fun x c e z => ?_, fun p hp z => ?_⟩
 ·obtain ⟨v, q⟩ := I.cell x c e
  exact absurd (Nat.lt_of_lt_of_le q.lt (by rw [z]; exact hb)) (Nat.lt_irrefl _)
 ·exact absurd (Nat.lt_of_lt_of_le (Heap.lt_size (I.pin p hp).1) (by rw [z]; exact hb)) (Nat.lt_irrefl _)
structure Turn (P : Program) (w : World) (K : PySem.W.Frag) (tg : Expr) (J : It) (fp : List Addr) (it : Addr) (tn : Nat -> Heap -> Prop) : Prop where
 mem : it ∈ fp
 obj : ∀ i h, tn i h -> ∀ b ∈ fp, ∃ o, h.get? b = some o /\ ∀ v, o.data ≠ .cell v
 keep : ∀ i h h', tn i h -> (∀ b ∈ fp, ∀ o, h.get? b = some o -> h'.get? b = some o) -> tn i h'
 item : ∀ (X : Cx), X.prog = P -> X.w = w -> X.K = K -> X.calm = true -> ∀ (i : Nat) (pins : List (Addr × Obj)) (s : Shared) (σ : St) (H : Hp) (E : Value -> Shared -> Prop), Inv X pins σ H s -> (∀ b ∈ fp, zQ X pins H b) -> tn i s.heap -> J.go i H ->
  wpAny (model P w) X.A (pyNext (.ref it)) (fun r s1 => ∃ u, r = some u /\
   wpAny (model P w) X.A (letOwnedTupleGo tg (.ref it) u) (fun _ s2 => ∃ x H', Inv X pins σ H' s2 /\ RelV x u /\ J.yld i H x H' /\ tn (i + 1) s2.heap /\ ∀ b ∈ fp, H' b = none) E s1) E s
 done : ∀ (X : Cx), X.prog = P -> X.w = w -> X.K = K -> X.calm = true -> ∀ (i : Nat) (pins : List (Addr × Obj)) (s : Shared) (σ : St) (H : Hp) (E : Value -> Shared -> Prop), Inv X pins σ H s -> (∀ b ∈ fp, zQ X pins H b) -> tn i s.heap -> J.stop i H ->
  wpAny (model P w) X.A (pyNext (.ref it)) (fun r s1 => r = none /\ Inv X pins σ H s1) E s
 self : ∀ (A : Around) (i : Nat) (s : Shared) (Q : Value -> Shared -> Prop) (E : Value -> Shared -> Prop), tn i s.heap -> Q (.ref it) s -> wpAny (model P w) A (pyIter (.ref it)) Q E s
noncomputable abbrev TI := St -> Hp -> (It -> Hp -> Prop) -> Prop
noncomputable def PIE (X : Cx) (pins : List (Addr × Obj)) (σ : St) (tg : Expr) (R : It -> Hp -> Prop) (itv : Value) (s2 : Shared) : Prop :=
 ∃ (it : Addr) (fp : List Addr) (tn : Nat -> Heap -> Prop) (J : It) (H' : Hp), itv = .ref it /\ Inv X pins σ H' s2 /\ Turn X.prog X.w X.K tg J fp it tn /\ tn 0 s2.heap /\ (∀ b ∈ fp, zQ X pins H' b) /\ R J H'
noncomputable def PI (X : Cx) (tg iter : Expr) (wi : TI) : Prop :=
 ∀ (pins : List (Addr × Obj)) (s : Shared) (σ : St) (H : Hp) (R : It -> Hp -> Prop), Inv X pins σ H s -> wi σ H R ->
  wpAny (model X.prog X.w) X.A (eval iter X.env) (fun v s1 => wpAny (model X.prog X.w) X.A (pyIter v) (PIE X pins σ tg R) X.xe s1) X.xe s
theorem YX {M : Model} {A : Around} {E : Value -> Shared -> Prop} {s : Shared} {tg : Expr} {it : Addr} {u : Value} {o : Obj} {n : String} {vs : Array Value} {Q : Unit -> Shared -> Prop} (ho : s.heap.get? it = some o) (hc : o.cls = .type n) (hd : o.data = .fields vs)
    (hn : ["enumerate", "zip", "dict_itemiterator", "dict_reverseitemiterator", "odict_iterator", "itertools.zip_longest", "itertools.pairwise"].contains n = false) (hQ : Q () s) : wpAny M A (letOwnedTupleGo tg (.ref it) u) Q E s := by
  unfold letOwnedTupleGo
  cases tg <;> first
    | exact wpAny_pure hQ
    | (cases u <;> first
        | exact wpAny_pure hQ
        | (refine wpAny_bind (wpAny_load ho ?_)
           rw [hc, hd]
           show wpAny M A (if (["enumerate", "zip", "dict_itemiterator", "dict_reverseitemiterator", "odict_iterator", "itertools.zip_longest", "itertools.pairwise"].contains n && vs[0]? == some (rawInt _)) = true then _ else _) Q E s
           rw [if_neg (by intro h; rw [hn, Bool.false_and] at h; cases h)]
           exact wpAny_pure hQ))
noncomputable def Itl (K : PySem.W.Frag) (a : Addr) : It :=
 ⟨fun i H => ∃ xs x, SqL K H a xs /\ xs[i]? = some x, fun i H x H' => H' = H /\ ∀ xs, SqL K H a xs -> xs[i]? = some x, fun i H => ∃ xs, SqL K H a xs /\ xs.length <= i⟩
theorem Q3 {P : Program} {w : World} {K : PySem.W.Frag} {tg : Expr} (a it : Addr) : Turn P w K tg (Itl K a) [it] it (fun i h => h.IsListIter it a i) where
 mem := by simp
 obj := fun i h st b hb => by
  have e : b = it := by simpa using hb
  subst e
  obtain ⟨o, e, c, d⟩ := st
  exact ⟨o, e, fun v z => by rw [d] at z; cases z⟩
 keep := fun i h h' st k => st.at fun o e => k it (by simp) o e
 item := by
  intro X hP hw hK hc i pins s σ H E I hf st hg
  subst hP hw hK
  obtain ⟨xs, x, hq, hx⟩ := hg
  obtain ⟨its, rv, p, hz⟩ := I.list hq
  obtain ⟨u, hu, ru⟩ := rv.get hx
  obtain ⟨f0, f1, f2, f3, f4, f5⟩ := hf it (by simp)
  refine wpAny_pyNext_list_item st p.isList (x := u) (by simpa using hu) fun h' st' sb => ?_
  have I1 : Inv X pins σ H { s with heap := h' } := I.turned (t' := s.toks) (fun b o hb e => (sb.2 b hb).trans e) f0 f1 f3 f4 f5
  obtain ⟨o, e, c, d⟩ := id st'
  exact ⟨u, rfl, YX (s := { s with heap := h' }) e c d (by decide) ⟨x, H, I1, ru, ⟨rfl, fun ys hy => by rw [I.yA hy hq]; exact hx⟩, st', fun b hb => (hf b hb).1⟩⟩
 done := by
  intro X hP hw hK hc i pins s σ H E I hf st hg
  subst hP hw hK
  obtain ⟨xs, hq, hx⟩ := hg
  obtain ⟨its, rv, p, hz⟩ := I.list hq
  obtain ⟨f0, f1, f2, f3, f4, f5⟩ := hf it (by simp)
  have hl := rv.length
  exact wpAny_pyNext_list_end (I.ok.hd hc) st p.isList (by simp; lia) fun h' eb => ⟨rfl, I.turned (t' := s.toks) (fun b o hb e => eb b o hb e) f0 f1 f3 f4 f5⟩
 self := fun _ _ _ _ _ st h => wpAny_pyIter_listiter st h
section
variable {X : Cx} {tg : Expr}
noncomputable def YD (K : PySem.W.Frag) (tl : TE) : TI := fun σ H R => tl σ H fun x H1 => ∃ a, x = .ref a /\ (∃ xs, SqL K H1 a xs) /\ R (Itl K a) H1
theorem WK {l : Expr} {tl : TE} (hl : PE X l tl) : PI X tg l (YD X.K tl) := by
 intro pins s σ H R I h
 refine thn (hl pins s σ H _ I h) fun v s1 ⟨x, H1, I1, r1, q1⟩ => ?_
 obtain ⟨a, e, ⟨xs, hq⟩, q⟩ := q1
 subst e
 cases r1
 obtain ⟨its, rv, p, hz⟩ := I1.list hq
 refine wpAny_pyIter_list p.isList ?_
 refine ⟨s1.heap.objs.size, [s1.heap.objs.size], _, _, H1, rfl, I1.kept (t' := s1.toks) fun b o e => Heap.get?_push_of_some _ e, Q3 a _, ⟨_, Heap.get?_push_size _ rfl, rfl, rfl⟩, fun b hb => ?_, q⟩
 have e : b = s1.heap.objs.size := by simpa using hb
 subst e
 exact I1.Wl (Nat.le_refl _) (I1.hok.fresh (Nat.le_refl _))
noncomputable def Y3 (wi : TI) (g : TG) (tb : TS) : TS := fun D σ H => wi σ H fun J H1 => ∃ W : Nat -> Nat -> St -> Hp -> Prop, (∃ m, W 0 m σ H1) /\ ∀ i m σ H, W i m σ H ->
 (J.stop i H /\ D.nx σ H) \/ (J.go i H /\ ∃ N : St -> Hp -> Prop, (∀ σ' H', N σ' H' -> ∃ m', m' < m /\ W (i + 1) m' σ' H') /\ ∀ x H', J.yld i H x H' -> g x σ H' fun σ2 H2 => tb { D with nx := N, ct := N, bk := D.nx } σ2 H2)
noncomputable def yJ (fp : List Addr) (h : Heap) : List (Addr × Obj) := fp.filterMap fun b => (h.get? b).map fun o => (b, o)
theorem zl {fp : List Addr} {h : Heap} {b : Addr} {o : Obj} (hb : b ∈ fp) (e : h.get? b = some o) : (b, o) ∈ yJ fp h := List.mem_filterMap.mpr ⟨b, hb, by rw [e]; rfl⟩
theorem QO {fp : List Addr} {h : Heap} {p : Addr × Obj} (hp : p ∈ yJ fp h) : p.1 ∈ fp /\ h.get? p.1 = some p.2 := by
 obtain ⟨b, hb, e⟩ := List.mem_filterMap.mp hp
 cases q : h.get? b with
 | none => rw [q] at e; cases e
 | some o =>
  rw [q] at e
  have e' : (b, o) = p := Option.some.inj e
  subst e'
  exact ⟨hb, q⟩
theorem Inv.pinned {pins : List (Addr × Obj)} {σ : St} {H : Hp} {s : Shared} {fp : List Addr} (I : Inv X pins σ H s) (hf : ∀ b ∈ fp, zQ X pins H b) (ho : ∀ b ∈ fp, ∃ o, s.heap.get? b = some o /\ ∀ v, o.data ≠ .cell v) : Inv X (pins ++ yJ fp s.heap) σ H s :=
 I.Qp fun p hp => (List.mem_append.mp hp).elim (fun z => I.pin p (List.mem_append_right _ z)) fun z => by
  obtain ⟨hb, e⟩ := QO z
  obtain ⟨f0, f1, f2, _⟩ := hf p.1 hb
  obtain ⟨o, e', d⟩ := ho p.1 hb
  rw [e] at e'; cases e'
  exact ⟨e, f0, f1, f2, d⟩
theorem Inv.zr {pins pl : List (Addr × Obj)} {σ : St} {H : Hp} {s : Shared} (I : Inv X (pins ++ pl) σ H s) : Inv X pins σ H s := I.Qp fun p hp => I.pin p (List.mem_append_right _ (List.mem_append_left _ hp))
theorem Z2 {iter : Expr} {body : List Stmt} {wi : TI} {g : TG} {tb : TS} {pos : Pos} (hp : PassesOwn (model X.prog X.w) X.A X.env X.xe) (hc : X.calm = true) (hi : PI X tg iter wi) (hg : PG X tg g) (hb : PSs X body tb)
  (hs : ∀ x, foldedSetIterable iter X.env x = pure x := by intro _; rfl) : PS X (.For tg iter body [] pos) (Y3 wi g tb) := by
 intro pins s σ H D I h
 refine wpAny_For (thn (hi pins s σ H _ I h) fun v s1 h1 => thn h1 fun itv s2 h2 => ?_) hs
 obtain ⟨it, fp, tn, J, H2, e, I2, T, st2, f2, W, ⟨m0, w0⟩, turn⟩ := h2
 subst e
 -- what stays true of the iterator's objects through the loop
 have stat : ∀ {H' : Hp}, (∀ b ∈ fp, H' b = none) -> ∀ b ∈ fp, zQ X pins H' b := fun hn b hb => ⟨hn b hb, (f2 b hb).2⟩
 refine codeAny_forLoop_any (fun n s' => ∃ i σ' H', Inv X pins σ' H' s' /\ tn i s'.heap /\ (∀ b ∈ fp, H' b = none) /\ W i n σ' H') ?_ m0 ⟨0, σ, H2, I2, st2, fun b hb => (f2 b hb).1, w0⟩
 rintro n s3 ⟨i, σ3, H3, I3, st3, fr3, w3⟩
 rcases turn i n σ3 H3 w3 with ⟨stop, qn⟩ | ⟨go, N, hN, step⟩
 ·refine wpAny_passesOwn hp (thn (T.done X rfl rfl rfl hc i pins s3 σ3 H3 X.xe I3 (stat fr3) st3 stop) fun r s4 ⟨hr, I4⟩ => ?_)
  subst hr
  exact wpAny_execs_nil ⟨σ3, H3, I4, qn⟩
 ·refine wpAny_passesOwn hp (thn (T.item X rfl rfl rfl hc i pins s3 σ3 H3 X.xe I3 (stat fr3) st3 go) fun r s4 ⟨u, hr, h4⟩ => ?_)
  subst hr
  refine wpAny_passesOwn hp (thn h4 fun _ s5 ⟨x, H5, I5, r5, y5, st5, fr5⟩ => ?_)
  have I5' := I5.pinned (stat fr5) (T.obj _ _ st5)
  refine wpAny_passesOwn hp (thn (hg _ s5 σ3 H5 x u _ I5' r5 (step x H5 y5)) fun _ s6 ⟨σ6, H6, I6, q6⟩ => ?_)
  refine wpAny_passesOwn hp (thn (hb _ s6 σ6 H6 _ I6 q6) fun f s7 q7 => ?_)
  have again : ∀ {σ7 : St} {H7 : Hp}, Inv X (pins ++ yJ fp s5.heap) σ7 H7 s7 -> N σ7 H7 -> ∃ m, m < n /\ ∃ i σ' H', Inv X pins σ' H' s7 /\ tn i s7.heap /\ (∀ b ∈ fp, H' b = none) /\ W i m σ' H' := fun {σ7 H7} I7 n7 => by
   obtain ⟨m', hm, w7⟩ := hN σ7 H7 n7
   refine ⟨m', hm, i + 1, σ7, H7, I7.zr, T.keep _ _ _ st5 fun b hb o e => (I7.pin (b, o) (List.mem_append_right _ (List.mem_append_right _ (zl hb e)))).1, fun b hb => ?_, w7⟩
   obtain ⟨o, e, d⟩ := T.obj _ _ st5 b hb
   exact (I7.pin (b, o) (List.mem_append_right _ (List.mem_append_right _ (zl hb e)))).2.1
  cases f with
  | next => obtain ⟨σ7, H7, I7, n7⟩ := q7; exact again I7 n7
  | cont => obtain ⟨σ7, H7, I7, n7⟩ := q7; exact again I7 n7
  | brk => obtain ⟨σ7, H7, I7, q7⟩ := q7; exact ⟨σ7, H7, I7.zr, q7⟩
  | ret v => obtain ⟨x7, σ7, H7, I7, r7, q7⟩ := q7; exact ⟨x7, σ7, H7, I7.zr, r7, q7⟩
end
noncomputable abbrev R2 := V -> V -> Hp -> VK -> Prop
noncomputable def OpR (X : Cx) (f : Value -> Value -> Sem Value) (r : R2) : Prop :=
 ∀ (pins : List (Addr × Obj)) (s : Shared) (σ : St) (H : Hp) (x y : V) (v u : Value) (Q : VK), Inv X pins σ H s -> RelV x v -> RelV y u -> r x y H Q ->
  wpAny (model X.prog X.w) X.A (f v u) (EP X pins σ Q) X.xe s
noncomputable def UnR (X : Cx) (f : Value -> Sem Value) (r : V -> Hp -> VK -> Prop) : Prop :=
 ∀ (pins : List (Addr × Obj)) (s : Shared) (σ : St) (H : Hp) (x : V) (v : Value) (Q : VK), Inv X pins σ H s -> RelV x v -> r x H Q ->
  wpAny (model X.prog X.w) X.A (f v) (EP X pins σ Q) X.xe s
noncomputable def Vs (X : Cx) (f : Value) (r : List V -> Hp -> VK -> Prop) : Prop :=
 ∀ (pins : List (Addr × Obj)) (s : Shared) (σ : St) (H : Hp) (xs : List V) (us : List Value) (Q : VK), Inv X pins σ H s -> Vals xs us -> r xs H Q ->
  wpAny (model X.prog X.w) X.A (call f us) (EP X pins σ Q) X.xe s
noncomputable def tOp (r : R2) (ta tb : TE) : TE := fun σ H Q => ta σ H fun x H1 => tb σ H1 fun y H2 => r x y H2 Q
noncomputable def tUn (r : V -> Hp -> VK -> Prop) (ta : TE) : TE := fun σ H Q => ta σ H fun x H1 => r x H1 Q
noncomputable def rI (C : Int -> Int -> Prop) (g : Int -> Int -> V) : R2 := fun x y H Q => ∃ i j, x = .int i /\ y = .int j /\ C i j /\ Q (g i j) H
noncomputable def rI0 (g : Int -> Int -> V) : R2 := fun x y H Q => ∃ i j, x = .int i /\ y = .int j /\ Q (g i j) H
noncomputable def rU (g : Int -> V) : V -> Hp -> VK -> Prop := fun x H Q => ∃ i, x = .int i /\ Q (g i) H
section
variable {X : Cx} {a b c : Expr} {ta tb tc : TE} {pos : Pos}
theorem YR (ha : PE X a ta) (hb : PE X b tb) {pins : List (Addr × Obj)} {s : Shared} {σ : St} {H : Hp} {R : V -> V -> Hp -> Prop} (I : Inv X pins σ H s)
  (h : ta σ H fun x H1 => tb σ H1 fun y H2 => R x y H2) {Q : Value -> Shared -> Prop} {f : Value -> Value -> Sem Value}
  (hf : ∀ v u s2 x y H2, Inv X pins σ H2 s2 -> RelV x v -> RelV y u -> R x y H2 -> wpAny (model X.prog X.w) X.A (f v u) Q X.xe s2) :
  wpAny (model X.prog X.w) X.A (eval a X.env) (fun v s₁ => wpAny (model X.prog X.w) X.A (eval b X.env) (fun u s₂ => wpAny (model X.prog X.w) X.A (f v u) Q X.xe s₂) X.xe s₁) X.xe s := by
 refine thn (ha pins s σ H _ I h) fun v s1 ⟨x, H1, I1, r1, q1⟩ => ?_
 refine thn (hb pins s1 σ H1 _ I1 q1) fun u s2 ⟨y, H2, I2, r2, q2⟩ => ?_
 exact hf v u s2 x y H2 I2 r1 r2 q2
theorem W0 {op : Operator} {r : R2} (ho : OpR X (binaryOp op) r) (ha : PE X a ta) (hb : PE X b tb) : PE X (.BinOp a op b pos) (tOp r ta tb) := by
 intro pins s σ H Q I h
 exact wpAny_BinOp (YR ha hb I h fun v u s2 x y H2 I2 rx ry q => ho pins s2 σ H2 x y v u Q I2 rx ry q)
theorem Zj {op : UnaryOp} {r : V -> Hp -> VK -> Prop} (ho : UnR X (unaryOp op) r) (ha : PE X a ta) : PE X (.UnaryOp op a pos) (tUn r ta) := by
 intro pins s σ H Q I h
 exact UnaryOp_ (thn (ha pins s σ H _ I h) fun v s1 ⟨x, H1, I1, r1, q1⟩ => ho pins s1 σ H1 x v Q I1 r1 q1)
theorem opI {f : Value -> Value -> Sem Value} {C : Int -> Int -> Prop} {g : Int -> Int -> Int}
  (rule : ∀ (i j : Int) (t u : Tok) (s : Shared) (Q : Value -> Shared -> Prop) (E : Value -> Shared -> Prop), C i j -> Q (.int (g i j) s.toks) { s with toks := s.toks + 1 } -> wpAny (model X.prog X.w) X.A (f (.int i t) (.int j u)) Q E s) :
  OpR X f (rI C fun i j => .int (g i j)) := by
 intro pins s σ H x y v u Q I rx ry h
 obtain ⟨i, j, rfl, rfl, hc, q⟩ := h
 obtain ⟨t, rfl⟩ := rx
 obtain ⟨t', rfl⟩ := ry
 exact rule i j t t' s _ _ hc ⟨.int (g i j), H, I.tok _, ⟨_, rfl⟩, q⟩
theorem Wq {f : Value -> Value -> Sem Value} {g : Int -> Int -> Int}
  (rule : ∀ (i j : Int) (t u : Tok) (s : Shared) (Q : Value -> Shared -> Prop) (E : Value -> Shared -> Prop), Q (.int (g i j) s.toks) { s with toks := s.toks + 1 } -> wpAny (model X.prog X.w) X.A (f (.int i t) (.int j u)) Q E s) :
  OpR X f (rI0 fun i j => .int (g i j)) := by
 intro pins s σ H x y v u Q I rx ry h
 obtain ⟨i, j, rfl, rfl, q⟩ := h
 obtain ⟨t, rfl⟩ := rx
 obtain ⟨t', rfl⟩ := ry
 exact rule i j t t' s _ _ ⟨.int (g i j), H, I.tok _, ⟨_, rfl⟩, q⟩
theorem Ww {f : Value -> Value -> Sem Value} {g : Int -> Int -> Bool}
  (rule : ∀ (i j : Int) (t u : Tok) (s : Shared) (Q : Value -> Shared -> Prop) (E : Value -> Shared -> Prop), Q (.bool (g i j)) s -> wpAny (model X.prog X.w) X.A (f (.int i t) (.int j u)) Q E s) :
  OpR X f (rI0 fun i j => .bl (g i j)) := by
 intro pins s σ H x y v u Q I rx ry h
 obtain ⟨i, j, rfl, rfl, q⟩ := h
 obtain ⟨t, rfl⟩ := rx
 obtain ⟨t', rfl⟩ := ry
 exact rule i j t t' s _ _ ⟨.bl (g i j), H, I, rfl, q⟩
theorem jQ (k : Nat) : (0 : Int) <= 2 ^ k := by
 rw [two_pow_cast]
 exact Int.natCast_nonneg _
theorem ZN : OpR X (binaryOp .Add) (rI0 fun i j => .int (i + j)) := Wq fun _ _ _ _ _ _ _ q => add_int q
theorem wB : OpR X (binaryOp .Sub) (rI0 fun i j => .int (i - j)) := Wq fun _ _ _ _ _ _ _ q => sub_int q
theorem Yi : OpR X (binaryOp .Mod) (rI (fun _ j => 0 < j) fun i j => .int (i % j)) := opI fun i j _ _ _ _ _ hc q => by
 have h1 : (0 : Int) < j := hc
 exact mod_int' (by lia) (by rw [Int.fmod_eq_emod_of_nonneg i (by lia)]; exact q)
theorem jB : OpR X (binaryOp .RShift) (rI (fun _ j => 0 <= j) fun i j => .int (i / 2 ^ j.toNat)) := opI fun i j _ _ _ _ _ hc q =>
 rshift_int hc (by rw [Int.fdiv_eq_ediv_of_nonneg i (jQ _)]; exact q)
theorem Vc : OpR X (binaryOp .BitAnd) (rI0 fun i j => .int (Builtin.bitAnd i j)) := Wq fun _ _ _ _ _ _ _ q => and_int q
theorem Z5 : OpR X (binaryOp .BitXor) (rI0 fun i j => .int (Builtin.bitXor i j)) := Wq fun _ _ _ _ _ _ _ q => xor_int q
theorem unI {f : Value -> Sem Value} {g : Int -> Int}
  (rule : ∀ (i : Int) (t : Tok) (s : Shared) (Q : Value -> Shared -> Prop) (E : Value -> Shared -> Prop), Q (.int (g i) s.toks) { s with toks := s.toks + 1 } -> wpAny (model X.prog X.w) X.A (f (.int i t)) Q E s) :
  UnR X f (rU fun i => .int (g i)) := by
 intro pins s σ H x v Q I rx h
 obtain ⟨i, rfl, q⟩ := h
 obtain ⟨t, rfl⟩ := rx
 exact rule i t s _ _ ⟨.int (g i), H, I.tok _, ⟨_, rfl⟩, q⟩
theorem VT : UnR X (unaryOp .USub) (rU fun i => .int (-i)) := unI fun _ _ _ _ _ q => neg_int q
end
noncomputable def VM : V -> V -> Bool
 | .non, .non => true | .non, .int _ => true | .int _, .non => true | .non, .bl _ => true | .bl _, .non => true | .non, .str _ => true | .str _, .non => true
 | .int _, .int _ => true | .bl _, .bl _ => true | .str _, .str _ => true | .byt _, .byt _ => true
 | .int _, .str _ => true | .str _, .int _ => true | .bl _, .str _ => true | .str _, .bl _ => true
 | _, _ => false
noncomputable def rEq : R2 := fun x y H Q => VM x y = true /\ Q (.bl (decide (x = y))) H
noncomputable def rNe : R2 := fun x y H Q => VM x y = true /\ Q (.bl (!decide (x = y))) H
theorem yd {i j : Int} : decide (V.int i = V.int j) = (i == j) := by
 rw [Bool.eq_iff_iff]
 simp
theorem xY {i j : Bool} : decide (V.bl i = V.bl j) = (i == j) := by
 rw [Bool.eq_iff_iff]
 simp
theorem Qq {i j : Str} : decide (V.str i = V.str j) = (i == j) := by
 rw [Bool.eq_iff_iff]
 simp
theorem Qj {i j : Array UInt8} : decide (V.byt i = V.byt j) = (i.toList == j.toList) := by
 rw [Bool.eq_iff_iff]
 cases i
 cases j
 simp
section
variable {X : Cx} {a b c : Expr} {ta tb tc : TE} {pos : Pos}
theorem qz {pins : List (Addr × Obj)} {σ : St} {H : Hp} {s : Shared} {Q : VK} {k k' : Bool} (I : Inv X pins σ H s) (q : Q (.bl k) H) (e : k = k') : EP X pins σ Q (.bool k') s := by
 subst e
 exact ⟨.bl k, H, I, rfl, q⟩
theorem YT : OpR X (compareOp .Eq) rEq := by
 intro pins s σ H x y v u Q I rx ry h
 obtain ⟨hs, q⟩ := h
 cases x with
 | non =>
  cases rx
  cases y with
  | non => cases ry; exact PySem.EqNone.eq_none_none (qz I q (by simp))
  | bl j => cases ry; exact PySem.EqNone.eq_none_bool (qz I q (by simp))
  | int j => obtain ⟨t', rfl⟩ := ry; exact PySem.EqNone.eq_none_int (qz I q (by simp))
  | str j => obtain ⟨t', rfl⟩ := ry; exact PySem.EqNone.eq_none_str (qz I q (by simp))
  | _ => exact absurd (show false = true from hs) Bool.false_ne_true
 | bl i =>
  cases rx
  cases y with
  | non => cases ry; exact PySem.EqNone.eq_bool_none (qz I q (by simp))
  | bl j => cases ry; exact eq_bool (qz I q xY)
  | str j => obtain ⟨t', rfl⟩ := ry; exact PySem.EqMixed.eq_bool_str (qz I q (by simp))
  | _ => exact absurd (show false = true from hs) Bool.false_ne_true
 | int i =>
  obtain ⟨t, rfl⟩ := rx
  cases y with
  | non => cases ry; exact PySem.EqNone.eq_int_none (qz I q (by simp))
  | int j => obtain ⟨t', rfl⟩ := ry; exact eq_int (qz I q yd)
  | str j => obtain ⟨t', rfl⟩ := ry; exact PySem.EqMixed.eq_int_str (qz I q (by simp))
  | _ => exact absurd (show false = true from hs) Bool.false_ne_true
 | str i =>
  obtain ⟨t, rfl⟩ := rx
  cases y with
  | non => cases ry; exact PySem.EqNone.eq_str_none (qz I q (by simp))
  | bl j => cases ry; exact PySem.EqMixed.eq_str_bool (qz I q (by simp))
  | int j => obtain ⟨t', rfl⟩ := ry; exact PySem.EqMixed.eq_str_int (qz I q (by simp))
  | str j => obtain ⟨t', rfl⟩ := ry; exact eq_str (qz I q Qq)
  | _ => exact absurd (show false = true from hs) Bool.false_ne_true
 | byt i =>
  obtain ⟨t, rfl⟩ := rx
  cases y with
  | byt j => obtain ⟨t', rfl⟩ := ry; exact PySem.W.eq_bytes (qz I q Qj)
  | _ => exact absurd (show false = true from hs) Bool.false_ne_true
 | _ => cases y <;> exact absurd (show false = true from hs) Bool.false_ne_true
theorem YU : OpR X (compareOp .NotEq) rNe := by
 intro pins s σ H x y v u Q I rx ry h
 obtain ⟨hs, q⟩ := h
 cases x with
 | non =>
  cases rx
  cases y with
  | non => cases ry; exact PySem.EqNone.ne_none_none (qz I q (by simp))
  | bl j => cases ry; exact PySem.EqNone.ne_none_bool (qz I q (by simp))
  | int j => obtain ⟨t', rfl⟩ := ry; exact PySem.EqNone.ne_none_int (qz I q (by simp))
  | str j => obtain ⟨t', rfl⟩ := ry; exact PySem.EqNone.ne_none_str (qz I q (by simp))
  | _ => exact absurd (show false = true from hs) Bool.false_ne_true
 | bl i =>
  cases rx
  cases y with
  | non => cases ry; exact PySem.EqNone.ne_bool_none (qz I q (by simp))
  | bl j => cases ry; exact ne_bool (qz I q (congrArg not xY))
  | str j => obtain ⟨t', rfl⟩ := ry; exact PySem.EqMixed.ne_bool_str (qz I q (by simp))
  | _ => exact absurd (show false = true from hs) Bool.false_ne_true
 | int i =>
  obtain ⟨t, rfl⟩ := rx
  cases y with
  | non => cases ry; exact PySem.EqNone.ne_int_none (qz I q (by simp))
  | int j => obtain ⟨t', rfl⟩ := ry; exact ne_int (qz I q (congrArg not yd))
  | str j => obtain ⟨t', rfl⟩ := ry; exact PySem.EqMixed.ne_int_str (qz I q (by simp))
  | _ => exact absurd (show false = true from hs) Bool.false_ne_true
 | str i =>
  obtain ⟨t, rfl⟩ := rx
  cases y with
  | non => cases ry; exact PySem.EqNone.ne_str_none (qz I q (by simp))
  | bl j => cases ry; exact PySem.EqMixed.ne_str_bool (qz I q (by simp))
  | int j => obtain ⟨t', rfl⟩ := ry; exact PySem.EqMixed.ne_str_int (qz I q (by simp))
  | str j => obtain ⟨t', rfl⟩ := ry; exact ne_str (qz I q (congrArg not Qq))
  | _ => exact absurd (show false = true from hs) Bool.false_ne_true
 | byt i =>
  obtain ⟨t, rfl⟩ := rx
  cases y with
  | byt j => obtain ⟨t', rfl⟩ := ry; exact PySem.W.ne_bytes (qz I q (congrArg not Qj))
  | _ => exact absurd (show false = true from hs) Bool.false_ne_true
 | _ => cases y <;> exact absurd (show false = true from hs) Bool.false_ne_true
theorem Za : OpR X (compareOp .Lt) (rI0 fun i j => .bl (decide (i < j))) := Ww fun _ _ _ _ _ _ _ q => lt_int q
theorem YQ : OpR X (compareOp .LtE) (rI0 fun i j => .bl (decide (i <= j))) := Ww fun _ _ _ _ _ _ _ q => le_int q
theorem Ze : OpR X (compareOp .Gt) (rI0 fun i j => .bl (decide (j < i))) := Ww fun _ _ _ _ _ _ _ q => gt_int q
theorem YG : OpR X (compareOp .GtE) (rI0 fun i j => .bl (decide (j <= i))) := Ww fun _ _ _ _ _ _ _ q => ge_int q
theorem OpR.or {f : Value -> Value -> Sem Value} {r r' : R2} (h : OpR X f r) (h' : OpR X f r') : OpR X f (fun x y H Q => r x y H Q \/ r' x y H Q) := by
 intro pins s σ H x y v u Q I rx ry q
 rcases q with q | q
 ·exact h pins s σ H x y v u Q I rx ry q
 ·exact h' pins s σ H x y v u Q I rx ry q
theorem vP (b : Expr) {op : CmpOp} (h : op ≠ .In := by decide) (h2 : op ≠ .NotIn := by decide) : behindInMarks op b = false := by
 have e1 : (op == CmpOp.In) = false := by cases op <;> first | rfl | exact absurd rfl h
 have e2 : (op == CmpOp.NotIn) = false := by cases op <;> first | rfl | exact absurd rfl h2
 cases b <;> simp [behindInMarks, e1, e2]
theorem WD {op : CmpOp} {r : R2} (ho : OpR X (compareOp op) r) (ha : PE X a ta) (hb : PE X b tb) (hm : behindInMarks op b = false) : PE X (.Compare a [op] [b] pos) (tOp r ta tb) := by
 intro pins s σ H Q I h
 exact wpAny_Compare1 (YR ha hb I h fun v u s2 x y H2 I2 rx ry q => ho pins s2 σ H2 x y v u Q I2 rx ry q) hm
noncomputable def YZ (t : TE) : TT := fun σ H Q => t σ H fun x H' => ∃ k, x = .bl k /\ Q k H'
theorem Wv {op : CmpOp} {r : R2} (ho : OpR X (compareOp op) r) (ha : PE X a ta) (hb : PE X b tb) (hm : behindInMarks op b = false) : PT X (.Compare a [op] [b] pos) (YZ (tOp r ta tb)) := by
 intro pins s σ H Q I h
 refine wpAny_isTrue_Compare1 (thn (ha pins s σ H _ I h) fun v s1 ⟨x, H1, I1, r1, q1⟩ => thn (hb pins s1 σ H1 _ I1 q1) fun u s2 ⟨y, H2, I2, r2, q2⟩ =>
  thn (ho pins s2 σ H2 x y v u _ I2 r1 r2 q2) fun c s3 ⟨z, H3, I3, r3, k, e, q3⟩ => ?_) hm
 subst e
 cases r3
 exact wpAny_truthy_bool ⟨H3, I3, q3⟩
theorem ZQ : (sizeLine : Nat) < 2 ^ 63 := by rw [sizeLine_eq]; decide
theorem vals1 {x : V} {us : List Value} (r : Vals [x] us) : ∃ u, us = [u] /\ RelV x u := by
 cases r with
 | cons r1 r2 => cases r2; exact ⟨_, rfl, r1⟩
theorem vals2 {x y : V} {us : List Value} (r : Vals [x, y] us) : ∃ u w', us = [u, w'] /\ RelV x u /\ RelV y w' := by
 cases r with
 | cons r1 r2 =>
  cases r2 with
  | cons r3 r4 => cases r4; exact ⟨_, _, rfl, r1, r3⟩
theorem xw (hc : X.calm = true) : Vs X (.builtin "max") (fun xs H Q => ∃ i j, xs = [.int i, .int j] /\ Q (.int (if j > i then j else i)) H) := by
 intro pins s σ H xs us Q I r h
 obtain ⟨i, j, rfl, q⟩ := h
 obtain ⟨u, w', rfl, ⟨t, rfl⟩, ⟨t', rfl⟩⟩ := vals2 r
 refine max_two_ints (I.ok.hd hc) fun h' tk k => ⟨_, H, I.kept k, ?_, q⟩
 by_cases hj : j > i
 ·rw [if_pos hj, if_pos hj]; exact ⟨_, rfl⟩
 ·rw [if_neg hj, if_neg hj]; exact ⟨_, rfl⟩
end
structure vC (k : Nat) (A : Around) : Prop where
 hd : A.handled = none
 dp : A.depth + 3 * k + 5 < recursionLimit
 un : A.units + 16 * k + 200 < cLine
theorem vC.mono {j k : Nat} {A : Around} (r : vC k A) (h : j <= k) : vC j A := ⟨r.hd, by have := r.dp; lia, by have := r.un; lia⟩
theorem vC.deeper {k : Nat} {A : Around} (r : vC (k + 1) A) (env : Env) : vC k (A.deeper env) :=
 ⟨r.hd, by have := r.dp; show A.depth + 1 + 3 * k + 5 < _; lia, by have := r.un; show A.units + 3 + 16 * k + 200 < _; lia⟩
theorem vC.depth {k : Nat} {A : Around} (r : vC k A) : A.depth < recursionLimit := by have := r.dp; lia
theorem vC.units {k : Nat} {A : Around} (r : vC k A) : A.units + 64 < cLine := by have := r.un; lia
noncomputable def Yx : TA := fun _ H Q => Q [] H
noncomputable def Zd (ta : TE) (tr : TA) : TA := fun σ H Q => ta σ H fun x H1 => tr σ H1 fun xs H2 => Q (x :: xs) H2
section
variable {X : Cx} {e : Expr} {es : List Expr} {te : TE} {t : TA} {pos : Pos}
theorem uc : PA X [] Yx := fun _ _ _ _ H Q I h => Calls.spliced_nil ⟨[], H, I, .nil, h⟩
theorem zx (ha : PE X e te) (hr : PA X es t) (hs : starEach (e :: es) X.env = (false, eval e X.env) :: starEach es X.env := by rfl) : PA X (e :: es) (Zd te t) := by
 intro pos pins s σ H Q I h
 rw [hs]
 show wpAny _ _ (spliced ((false, eval e X.env) :: backTo pos (starEach es X.env))) _ _ s
 refine Calls.spliced_cons (thn (ha pins s σ H _ I h) fun u s1 ⟨x, H1, I1, r1, q1⟩ => ?_)
 exact thn (hr pos pins s1 σ H1 _ I1 q1) fun us s2 ⟨xs, H2, I2, r2, q2⟩ => ⟨x :: xs, H2, I2, .cons r1 r2, q2⟩
noncomputable def YK (t : TA) : TE := fun σ H Q => t σ H fun xs H1 => xs.length <= sizeLine /\ ∀ p, H1 p = none -> Q (.ref p) (upd H1 p (.lst xs))
theorem js (h : PA X es t) : PE X (.List es pos) (YK t) := by
 intro pins s σ H Q I hq
 refine wpAny_List_spliced (thn (h pos pins s σ H _ I hq) fun us s1 ⟨xs, H1, I1, r, z, q⟩ => ⟨by rw [<- r.length]; exact z, ?_⟩)
 have hf : H1 s1.heap.objs.size = none := I1.hok.fresh (Nat.le_refl _)
 refine ⟨.ref s1.heap.objs.size, upd H1 s1.heap.objs.size (.lst xs), I1.laid (t' := s1.toks) (fun b u e => Heap.get?_push_of_some _ e) (Nat.le_refl _) ?_, rfl, q _ hf⟩
 exact ⟨z, us, 0, r, Heap.get?_push_size _ rfl⟩
end
noncomputable abbrev Sp := List V -> Hp -> VK -> XK -> Prop
noncomputable abbrev CXT := List Env -> Hp -> Shared -> XK -> Value -> Shared -> Prop
structure jP (P : Program) (w : World) (K : PySem.W.Frag) (mg : Str -> Option Value) (base : Heap) (A : Around) (outer : List Env) (s : Shared) (H : Hp) : Prop where
 frames : A.frames = some outer
 mod : Mod K mg base
 bs : ∀ b o, base.get? b = some o -> s.heap.get? b = some o /\ H b = none
 bsz : base.objs.size <= s.heap.objs.size
 zj : s.heap.FunFrames base outer
 frf : ∀ b ∈ frs outer, H b = none
 hok : HOk P w H s.heap
 bare : AllBare s.gens
noncomputable def CE (outer : List Env) (P : Program) (w : World) (H : Hp) (s : Shared) (Q : VK) (u : Value) (s' : Shared) : Prop :=
 ∃ v H', s'.os = s.os /\ AllBare s'.gens /\ Un (frs outer) [] H H' s.heap s'.heap /\ HOk P w H' s'.heap /\ RelV v u /\ Q v H'
noncomputable def CR (CX : CXT) (outer : List Env) (P : Program) (w : World) (H : Hp) (s : Shared) (Q : VK) (E : XK) (r : Result) (s' : Shared) : Prop :=
 match r with
 | .ok (.ret u) => CE outer P w H s Q u s'
 | .ok _ => False
 | .error e => CX outer H s E e s'
structure uU (P : Program) (w : World) (K : PySem.W.Frag) (mg : Str -> Option Value) (base : Heap) (CX : CXT) (k : Nat) (f : Addr) (fd : FuncData) (ps : List Str) (sp : Sp) : Prop where
 len : ∀ vs H Q E, sp vs H Q E -> vs.length = ps.length
 run : ∀ (A : Around) (outer : List Env) (s : Shared) (H : Hp) (args : Args) (us : List Value) (vs : List V) (Q : VK) (E : XK), vC k A -> jP P w K mg base A outer s H -> BindsTo s fd args (ps.zip us) -> Vals vs us -> sp vs H Q E ->
  codeAny (model P w) A (.call (.ref f) args) (CR CX outer P w H s Q E) s
section
variable {X : Cx} {pins : List (Addr × Obj)} {σ : St} {H : Hp} {s s' : Shared}
theorem Inv.Zp (I : Inv X pins σ H s) : jP X.prog X.w X.K X.mg X.base X.A X.stack s H :=
 ⟨I.ok.frames, I.ok.mod, I.bs, Nat.le_trans I.ok.bsz I.sz, I.stack, I.uk, I.hok, I.bare⟩
theorem Inv.after {Q : VK} {u : Value} (I : Inv X pins σ H s) (h : CE X.stack X.prog X.w H s Q u s') : EP X pins σ Q u s' := by
 obtain ⟨v, H', os, bare, un, hok, r, q⟩ := h
 obtain ⟨hh, g, d, t, os'⟩ := s'
 obtain rfl : os' = s.os := os
 exact ⟨v, H', I.call (h' := hh) (g' := g) (d' := d) (t' := t) (ch := []) un hok bare (fun b z => absurd z (by simp)), r, q⟩
end
noncomputable def Zb (sp : Sp) (dvs : List V) (E : XK) (t : TA) : TE := fun σ H Q => t σ H fun vs H1 => sp (vs ++ dvs) H1 Q E
noncomputable def Binds (K : PySem.W.Frag) (fd : FuncData) (ps : List Str) (ds : List Value) : Prop :=
 ∀ (s : Shared) (us : List Value), K.In s.heap -> (us ++ ds).length = ps.length -> BindsTo s fd ⟨us, []⟩ (ps.zip (us ++ ds))
theorem Binds.all {K : PySem.W.Frag} {fd : FuncData} {ps : List Str} (h : ∀ us : List Value, us.length = ps.length -> bindArgs fd ⟨us, []⟩ = pure (ps.zip us)) : Binds K fd ps [] := fun s us _ hl => by
 rw [List.append_nil] at hl ⊢
 exact .of_eq (h us hl)
noncomputable def Passes (CX : CXT) (X : Cx) (E : XK) : Prop := ∀ (pins : List (Addr × Obj)) (σ : St) (H : Hp) (s : Shared) (e : Value) (s' : Shared), Inv X pins σ H s -> CX X.stack H s E e s' -> X.xe e s'
section
variable {X : Cx} {CX : CXT} {k : Nat} {f C : Addr} {fd : FuncData} {ps : List Str} {sp : Sp} {dvs : List V} {ds : List Value} {E : XK} {x m : Str} {p pos apos : Pos} {e o : Expr} {es : List Expr} {ta : TE} {t : TA}
theorem Z1 {pins : List (Addr × Obj)} {σ : St} {H : Hp} {s : Shared} {Q : VK} {us : List Value} {vs : List V} (F : uU X.prog X.w X.K X.mg X.base CX k f fd ps sp) (hr : vC k X.A) (hb : Binds X.K fd ps ds) (hd : Vals dvs ds) (hx : Passes CX X E)
  (I : Inv X pins σ H s) (r : Vals vs us) (h : sp (vs ++ dvs) H Q E) : wpAny (model X.prog X.w) X.A (call (.ref f) us) (EP X pins σ Q) X.xe s := by
 have r2 : Vals (vs ++ dvs) (us ++ ds) := r.append hd
 have hl : (us ++ ds).length = ps.length := by rw [<- r2.length]; exact F.len _ _ _ _ h
 refine wpAny_call (codeAny_mono (F.run X.A X.stack s H ⟨us, []⟩ (us ++ ds) (vs ++ dvs) Q E hr I.Zp (hb s us I.kIn hl) r2 h) fun r s' hq => ?_)
 cases r with
 | error e => exact hx pins σ H s e s' I hq
 | ok fl =>
  cases fl with
  | ret u => exact I.after hq
  | next => exact False.elim hq
  | brk => exact False.elim hq
  | cont => exact False.elim hq
theorem WJ (F : uU X.prog X.w X.K X.mg X.base CX k f fd ps sp) (hr : vC k X.A) (hg : Gl X x) (hm : X.mg x = some (.ref f)) (hk : PySem.W.keepIn X.K (.ref f) = true) (hb : Binds X.K fd ps ds) (hd : Vals dvs ds) (hx : Passes CX X E)
  (ha : PA X (e :: es) t) (hdb : (x == ("__debug__" : Str)) = false := by decide) (he : starEach (e :: es) X.env = (false, eval e X.env) :: starEach es X.env := by rfl) (hpl : (backTo pos (starEach es X.env)).any (·.1) = false := by rfl) :
  PE X (.Call (.Name x p) (e :: es) [] pos) (Zb sp dvs E t) := by
 intro pins s σ H Q I h
 refine wpAny_Call_Name_kw (zy I hg hm ?_ hdb)
 refine PySem.W.callWith_K (h₀ := X.base) I.ok.mod.kin hk (thn (ha pos pins s σ H _ I h) fun us s1 ⟨vs, H1, I1, r, q⟩ => ⟨I1.kIn, ?_⟩) he hpl
 exact Z1 F hr hb hd hx I1 r q
end
structure qB (N P : List Str) (sc : Scope) : Prop where
 kind : sc.kind = .function
 co : sc.isCoroutine = false
 gen : sc.isGenerator = false
 nd : N.Nodup
 pre : N.take P.length = P
 par : ∀ x ∈ P, sc.names.lookup x = some .local \/ sc.names.lookup x = some .cell
 nofree : ∀ y ∈ sc.names, y.2 ≠ .free
theorem xq {kindOf : Str -> Option NameKind} {x : Str} : ∀ {binds : List (Str × Value)} {m : Str -> Option Value}, (∀ v, (x, v) ∉ binds) -> bindL kindOf binds m x = m x
 | [], _, _ => rfl
 | (n, v) :: r, m, h => by
  unfold bindL
  rw [xq fun w hw => h w (List.mem_cons_of_mem _ hw)]
  split
  ·have : x ≠ n := by rintro rfl; exact h v List.mem_cons_self
   simp [this]
  ·rfl
theorem xp {kindOf : Str -> Option NameKind} {x : Str} : ∀ {binds : List (Str × Value)} {m : Str -> Option Value}, (∀ v, (x, v) ∉ binds) -> bindC kindOf binds m x = m x
 | [], _, _ => rfl
 | (n, v) :: r, m, h => by
  unfold bindC
  rw [xp fun w hw => h w (List.mem_cons_of_mem _ hw)]
  split
  ·rfl
  ·have : x ≠ n := by rintro rfl; exact h v List.mem_cons_self
   simp [this]
theorem xx {kindOf : Str -> Option NameKind} {x : Str} {v : Value} : ∀ {P : List Str} {vs : List Value} {i : Nat} {m : Str -> Option Value}, P.Nodup -> P[i]? = some x -> vs[i]? = some v -> kindOf x = some .local ->
  bindL kindOf (P.zip vs) m x = some v
 | [], _, _, _, _, h, _, _ => by simp at h
 | _ :: _, [], _, _, _, _, h, _ => by simp at h
 | p :: P, w :: vs, 0, m, nd, h1, h2, hk => by
  simp at h1 h2; subst h1; subst h2
  show bindL kindOf ((p, w) :: P.zip vs) m p = _
  unfold bindL
  rw [xq fun v hv => (List.nodup_cons.mp nd).1 (List.of_mem_zip hv).1, if_pos hk]
  simp
 | p :: P, w :: vs, i + 1, m, nd, h1, h2, hk => by
  show bindL kindOf ((p, w) :: P.zip vs) m x = _
  unfold bindL
  exact xx (i := i) (List.nodup_cons.mp nd).2 (by simpa using h1) (by simpa using h2) hk
theorem xy {kindOf : Str -> Option NameKind} {x : Str} {v : Value} : ∀ {P : List Str} {vs : List Value} {i : Nat} {m : Str -> Option Value}, P.Nodup -> P[i]? = some x -> vs[i]? = some v -> kindOf x ≠ some .local ->
  bindC kindOf (P.zip vs) m x = some v
 | [], _, _, _, _, h, _, _ => by simp at h
 | _ :: _, [], _, _, _, _, h, _ => by simp at h
 | p :: P, w :: vs, 0, m, nd, h1, h2, hk => by
  simp at h1 h2; subst h1; subst h2
  show bindC kindOf ((p, w) :: P.zip vs) m p = _
  unfold bindC
  rw [xp fun v hv => (List.nodup_cons.mp nd).1 (List.of_mem_zip hv).1, if_neg hk]
  simp
 | p :: P, w :: vs, i + 1, m, nd, h1, h2, hk => by
  show bindC kindOf ((p, w) :: P.zip vs) m x = _
  unfold bindC
  exact xy (i := i) (List.nodup_cons.mp nd).2 (by simpa using h1) (by simpa using h2) hk
noncomputable def start (N : List Str) (vs : List V) : St := vs.map some ++ List.replicate (N.length - vs.length) none
noncomputable def wH (CX : CXT) (P : Program) (w : World) (K : PySem.W.Frag) (mg : Str -> Option Value) (base : Heap) (N : List Str) (qual : Str) (scope : Scope) (f : Addr) (cd : Value) (A : Around) (outer : List Env) (s : Shared) (H : Hp) (E : XK) : Cx where
 prog := P
 w := w
 K := K
 mg := mg
 base := base
 A := A.deeper (envOfC qual scope s.heap.objs.size f cd)
 N := N
 s_0 := s
 H_0 := H
 env := envOfC qual scope s.heap.objs.size f cd
 outer := outer
 stack := envOfC qual scope s.heap.objs.size f cd :: outer
 ex := []
 calm := true
 fn := fun _ => true
 pn := []
 xe := fun e s' => wpAny (model P w) (A.deeper (envOfC qual scope s.heap.objs.size f cd)) (leaving (envOfC qual scope s.heap.objs.size f cd) e) (fun _ s'' => CX outer H s E e s'') (fun e' s'' => CX outer H s E e' s'') s'
theorem uA {sc : Scope} {n : Nat} {x : Str} (h : sc.names.lookup x = some .cell) : ∃ c, (cellsFrom n sc.names []).lookup x = some c := by
 have q := PySem.W.cellsFrom_some sc.names n [] (.inl h)
 exact Option.isSome_iff_exists.mp q
theorem xG {CX : CXT} {P : Program} {w : World} {K : PySem.W.Frag} {mg : Str -> Option Value} {base : Heap} {N ps : List Str} {qual : Str} {scope : Scope} {f : Addr} {cd : Value} {A : Around} {outer : List Env} {s s1 : Shared} {H : Hp} {E : XK} {us : List Value} {vs : List V}
  (S : qB N ps scope) (hd : A.handled = none) (e0 : jP P w K mg base A outer s H) (hl : vs.length = ps.length) (r : Vals vs us)
  (x : InCallC s s.heap.objs.size (bindL (envOfC qual scope s.heap.objs.size f cd).kindOf (ps.zip us) fun _ => none) (cellsFrom (s.heap.objs.size + 1) scope.names []) (bindC (envOfC qual scope s.heap.objs.size f cd).kindOf (ps.zip us) fun _ => none) s1) :
  Inv (wH CX P w K mg base N qual scope f cd A outer s H E) [] (start N vs) H s1 := by
 have hpl : ps.length <= N.length := by have := congrArg List.length S.pre; rw [List.length_take] at this; lia
 obtain ⟨h1, tk, rfl, hk⟩ := x.done
 have noA : ∀ b : Addr, b ∉ (wH CX P w K mg base N qual scope f cd A outer s H E).ex := fun b z => absurd (show b ∈ ([] : List Addr) from z) (by simp)
 refine ⟨⟨e0.mod, S.kind, rfl, rfl, Nat.le_refl _, fun y z c h1 h2 => ?_, fun y hy => ?_, fun y c _ h => ?_, fun _ => hd, Around.frames_deeper e0.frames, .inr ⟨rfl, rfl⟩, fun b z => absurd z (noA b), e0.bs, e0.bsz, fun b _ _ => noA b, fun b z => absurd z (noA b), e0.zj, e0.frf⟩,
  rfl, e0.bare, Un.kept hk, ⟨_, x.toInCall.ns, fun i y v h1 h2 h3 => ?_⟩, fun y c h => ⟨_, x.cell y c h⟩, e0.hok.fresh (Nat.le_refl _), fun y c h => ?_, fun p hp => absurd (show p ∈ ([] : List (Addr × Obj)) from hp) (by simp), e0.hok.kept hk, ?_⟩
 ·exact name_of_addr x.apart (PySem.mem_of_lookup h1) (PySem.mem_of_lookup h2)
 ·have hy : scope.names.lookup y = some .cell \/ scope.names.lookup y = some .free := hy
  rcases hy with hy | hy
  ·exact uA hy
  ·exact absurd rfl (S.nofree _ (PySem.mem_of_lookup hy))
 ·exact Nat.le_of_lt (x.above y c (PySem.mem_of_lookup h))
 ·have hi : i < vs.length := by
   unfold start at h2
   by_cases hi : i < vs.length
   ·exact hi
   ·rw [List.getElem?_append_right (by simpa using hi)] at h2
    rw [List.getElem?_replicate] at h2
    split at h2 <;> cases h2
  have ha : vs[i]? = some v := by
   unfold start at h2
   rw [List.getElem?_append_left (by simpa using hi), List.getElem?_map] at h2
   cases e : vs[i]? with
   | none => rw [e] at h2; cases h2
   | some a => rw [e] at h2; cases h2; rfl
  obtain ⟨u, hu, rv⟩ := r.get ha
  have hp : ps[i]? = some y := by
   rw [<- S.pre, List.getElem?_take_of_lt (by lia)]; exact h1
  have ndP : ps.Nodup := by rw [<- S.pre]; exact S.nd.sublist (List.take_sublist _ _)
  refine ⟨u, rv, ?_⟩
  rcases S.par y (List.mem_of_getElem? hp) with k | k
  ·exact .inl ⟨k, xx ndP hp hu k⟩
  ·obtain ⟨c, e⟩ := uA (n := s.heap.objs.size + 1) k
   refine .inr ⟨.inl k, c, e, ?_⟩
   have q := x.cell y c e
   rw [xy ndP hp hu (by show scope.names.lookup y ≠ _; rw [k]; decide)] at q
   exact q
 ·exact e0.hok.fresh (Nat.le_of_lt (x.above y c (PySem.mem_of_lookup h)))
 ·unfold start
  show _ = N.length
  rw [List.length_append, List.length_map, List.length_replicate]
  lia
theorem Vq {CX : CXT} {P : Program} {w : World} {K : PySem.W.Frag} {mg : Str -> Option Value} {base : Heap} {k : Nat} {f : Addr} {name qual : Str} {params : Arguments} {body : List Stmt} {scope : Scope} {dV kV doc pm cdv ct oc : Value} {an od : Option Addr}
  {osl : Array (Option Value)} {N ps : List Str} {sp : Sp} (lk : K.lookup f = some ⟨oc, od, .func (PySem.W.fnOf name qual params body scope dV kV doc pm an cdv ct), osl⟩) (hcd : PySem.W.codeIn K cdv qual = true) (S : qB N ps scope)
  (len : ∀ vs H Q E, sp vs H Q E -> vs.length = ps.length)
  (hbody : ∀ (A : Around) (outer : List Env) (s : Shared) (H : Hp) (vs : List V) (Q : VK) (E : XK), vC k (A.deeper (envOfC qual scope s.heap.objs.size f cdv)) -> sp vs H Q E ->
   ∃ t, PSs (wH CX P w K mg base N qual scope f cdv A outer s H E) body t /\ t { nx := fun _ H' => Q .non H', rt := Q } (start N vs) H) :
  uU P w K mg base CX (k + 1) f (PySem.W.fnOf name qual params body scope dV kV doc pm an cdv ct) ps sp := by
 refine ⟨len, fun A outer s H args us vs Q E hr e0 hb r hsp => ?_⟩
 have hl := len _ _ _ _ hsp
 have KX : K.In s.heap := e0.mod.kin.keeps fun b o e => (e0.bs b o e).1
 have lim : s.heap.NoLimit := e0.mod.nolimit.keeps fun b o e => (e0.bs b o e).1
 have hkind : ∀ y ∈ ps.zip us, scope.names.lookup y.1 = some .local \/ (scope.names.lookup y.1 = some .cell /\ ((cellsFrom (s.heap.objs.size + 1) scope.names []).lookup y.1).isSome = true) := fun ⟨n, v⟩ hy => by
  rcases S.par n (List.of_mem_zip hy).1 with q | q
  ·exact .inl q
  ·exact .inr ⟨q, PySem.W.cellsFrom_some _ _ _ (.inl q)⟩
 refine codeAny_call_function hr.depth (KX _ _ lk) rfl S.co S.gen rfl (PySem.W.codeRec_of KX hcd) (hb _ _ _ _ ?_)
 refine wpAny_newFunctionEnv_cells S.kind hkind fun env he s1 x => ?_
 subst he
 refine ⟨lim.keeps x.toInCall.keep, codeAny_func ?_⟩
 obtain ⟨t, ht, hq⟩ := hbody A outer s H vs Q E (hr.deeper _) hsp
 have I : Inv (wH CX P w K mg base N qual scope f cdv A outer s H E) [] (start N vs) H s1 := xG S hr.hd e0 hl r x
 refine wpAny_mono (ht [] s1 (start N vs) H _ I hq) (fun fl s' hs => ?_) fun e s' hs => hs
 have fin : ∀ {σ' : St} {H' : Hp} {v : V} {u : Value}, Inv (wH CX P w K mg base N qual scope f cdv A outer s H E) [] σ' H' s' -> RelV v u -> Q v H' -> CE outer P w H s Q u s' :=
  fun {σ' H' v u} J rv q => ⟨v, H', J.os, J.bare, J.base, J.hok, rv, q⟩
 cases fl with
 | ret u =>
  obtain ⟨v, σ', H', J, rv, q⟩ := hs
  exact fin J rv q
 | next =>
  obtain ⟨σ', H', J, q⟩ := hs
  exact fin (v := V.non) (u := Value.none) J rfl q
 | brk =>
  obtain ⟨_, _, _, q⟩ := hs
  exact False.elim q
 | cont =>
  obtain ⟨_, _, _, q⟩ := hs
  exact False.elim q
section
variable {X : Cx} {x : Str} {p pos : Pos} {e : Expr} {es : List Expr} {t : TA} {id T : String} {r : List V -> Hp -> VK -> Prop}
noncomputable def tCB (r : List V -> Hp -> VK -> Prop) (t : TA) : TE := fun σ H Q => t σ H fun vs H1 => r vs H1 Q
theorem zE (hc : Vs X (.builtin id) r) (hg : Gl X x) (hm : X.mg x = none) (hv : bootBuiltins x = some (.builtin id)) (ha : PA X (e :: es) t) (hn : x ≠ "__name__" := by decide) (hdb : (x == ("__debug__" : Str)) = false := by decide)
  (he : starEach (e :: es) X.env = (false, eval e X.env) :: starEach es X.env := by rfl) (hpl : (backTo pos (starEach es X.env)).any (·.1) = false := by rfl) : PE X (.Call (.Name x p) (e :: es) [] pos) (tCB r t) := by
 intro pins s σ H Q I h
 refine wpAny_Call_Name_kw (VY I hg hm hv ?_ hn hdb)
 exact PyProof.Rows.callWith_builtin1 (thn (ha pos pins s σ H _ I h) fun us s1 ⟨vs, H1, I1, r1, q1⟩ => hc pins s1 σ H1 vs us Q I1 r1 q1) he hpl
end
noncomputable def MtR (X : Cx) (id : String) (r : V -> List V -> Hp -> VK -> Prop) : Prop :=
 ∀ (pins : List (Addr × Obj)) (s : Shared) (σ : St) (H : Hp) (x : V) (xs : List V) (v : Value) (us : List Value) (Q : VK), Inv X pins σ H s -> RelV x v -> Vals xs us -> r x xs H Q ->
  wpAny (model X.prog X.w) X.A (call (.builtin id) (v :: us)) (EP X pins σ Q) X.xe s
section
variable {X : Cx} {a b : Expr} {ta tb : TE} {pos : Pos}
theorem zt : Vs X (.builtin "len") (fun xs H Q => ∃ p ys, xs = [.ref p] /\ (SqL X.K H p ys \/ SqT X.K H p ys) /\ Q (.int ys.length) H) := by
 intro pins s σ H xs us Q I r h
 obtain ⟨p, ys, rfl, hq, q⟩ := h
 obtain ⟨u, rfl, rx⟩ := vals1 r
 cases rx
 have hn := ZQ
 rcases hq with hq | hq
 ·obtain ⟨its, r', pl, hz⟩ := I.list hq
  have hlen := r'.length
  exact Calls.call_len_list pl.isList (by simp only [List.size_toArray] <;> lia) ⟨.int ys.length, H, I.tok _, ⟨s.toks + 1, by rw [List.size_toArray, hlen]⟩, q⟩
 ·obtain ⟨its, r', pl, hz⟩ := I.tuple hq
  have hlen := r'.length
  exact len_tuple pl (by simp only [List.size_toArray] <;> lia) ⟨.int ys.length, H, I.tok _, ⟨s.toks + 1, by rw [List.size_toArray, hlen]⟩, q⟩
noncomputable def tyV (K : PySem.W.Frag) (T : String) (x : V) (H : Hp) : Prop := match x with
 | .str _ => T = "str"
 | .int _ => T = "int"
 | .ref p => (T = "list" /\ ∃ xs, SqL K H p xs) \/ (T = "tuple" /\ ∃ o, K.lookup p = some o /\ o.cls = .type "tuple" /\ o.dict = none) \/
   (T = "dict" /\ ((∃ kvs, H p = some (.dK kvs)) \/ ∃ kvs, H p = some (.dT kvs))) \/ (T = "set" /\ ∃ S n, H p = some (.set S n))
 | _ => False
theorem ZK {pins : List (Addr × Obj)} {σ : St} {H : Hp} {s : Shared} {T : String} {x : V} {v : Value} (I : Inv X pins σ H s) (r : RelV x v) (ty : tyV X.K T x H) :
  s.TypeIs v T /\ ∀ a, v = .ref a -> ∃ ob, s.heap.get? a = some ob /\ ob.dict = none := by
 cases x with
 | str z =>
  obtain ⟨t, rfl⟩ := r
  cases (show T = "str" from ty)
  exact ⟨typeIs_str s z t, fun _ e => nomatch e⟩
 | int i =>
  obtain ⟨t, rfl⟩ := r
  cases (show T = "int" from ty)
  exact ⟨typeIs_int s i t, fun _ e => nomatch e⟩
 | ref p =>
  cases r
  rcases ty with ⟨rfl, xs, hq⟩ | ⟨rfl, o, hk, hc, hd⟩ | ⟨rfl, hk⟩ | ⟨rfl, S, n, hk⟩
  ·obtain ⟨its, _, pl, _⟩ := I.list hq
   refine ⟨pl.isList.typeIs, fun a e => ?_⟩
   cases e
   obtain ⟨o, n, e, c, hd, _⟩ := pl
   exact ⟨o, e, hd⟩
  ·refine ⟨⟨o, I.kIn p o hk, hc⟩, fun a e => ?_⟩
   cases e
   exact ⟨o, I.kIn _ o hk, hd⟩
  ·have z : ∃ o, s.heap.get? p = some o /\ o.ExactDict := by
    rcases hk with ⟨kvs, hk⟩ | ⟨kvs, hk⟩
    ·obtain ⟨_, _, _, _, o, _, _, e, ex, _⟩ := I.hok p _ hk
     exact ⟨o, e, ex⟩
    ·obtain ⟨_, _, _, _, o, _, _, e, ex, _⟩ := I.hok p _ hk
     exact ⟨o, e, ex⟩
   obtain ⟨o, e, ex⟩ := z
   refine ⟨⟨o, e, ex.1⟩, fun a e2 => ?_⟩
   cases e2
   exact ⟨o, e, ex.2.1⟩
  ·obtain ⟨o, _, _, _, e, ex, _⟩ := I.hok p _ hk
   refine ⟨⟨o, e, ex.1⟩, fun a e2 => ?_⟩
   cases e2
   exact ⟨o, e, ex.2.1⟩
 | _ => exact False.elim ty
noncomputable def YS (K : PySem.W.Frag) (T : String) (r : V -> List V -> Hp -> VK -> Prop) (to : TE) : TE := fun σ H Q => to σ H fun x H1 => tyV K T x H1 /\ r x [] H1 Q
variable {o e : Expr} {es : List Expr} {to : TE} {t : TA} {name : Str} {apos cpos : Pos} {T id : String} {r : V -> List V -> Hp -> VK -> Prop}
theorem ZJ (pa : PlainAttrs T) (slot : Slot T name id) (hty : typeOf (.builtin id) = pure (.type "method_descriptor")) (hm : MtR X id r) (ho : PE X o to)
  (hbase : attributeBase o name X.env (eval o X.env) = eval o X.env := by rfl) (hline : (apos.endLine == cpos.line) = true := by rfl) : PE X (.Call (.Attribute o name apos) [] [] cpos) (YS X.K T r to) := by
 intro pins s σ H Q I h
 refine wpAny_Call_method0_late hbase hline (thn (ho pins s σ H _ I h) fun v s1 ⟨x, H1, I1, r1, ty, q1⟩ => ?_)
 obtain ⟨h1, h2⟩ := ZK I1 r1 ty
 exact ⟨T, id, pa, slot, hty, h1, h2, Calls.callWith_builtin rfl (PySem.evalArgs_none (hm pins s1 σ H1 x [] v [] Q I1 r1 .nil q1))⟩
end
noncomputable def MtM (X : Cx) (id : String) (r : V -> List V -> Hp -> VK -> Prop) : Prop :=
 ∀ (pins : List (Addr × Obj)) (s : Shared) (σ : St) (H : Hp) (x : V) (xs : List V) (v : Value) (us : List Value) (Q : VK), Inv X pins σ H s -> RelV x v -> Vals xs us -> r x xs H Q ->
  wpAny (model X.prog X.w) X.A (call (.builtin id) (v :: us)) (EP X pins σ Q) X.xe s
theorem Vals.one : ∀ {x : V} {us : List Value}, Vals [x] us -> ∃ u, us = [u] /\ RelV x u
 | _, _, .cons r .nil => ⟨_, rfl, r⟩
theorem Vals.rep {xs : List V} {us : List Value} (h : Vals xs us) : ∀ k : Nat, Vals (List.replicate k xs).flatten (List.replicate k us).flatten
 | 0 => .nil
 | k + 1 => by
  rw [List.replicate_succ, List.replicate_succ, List.flatten_cons, List.flatten_cons]
  exact Vals.append h (Vals.rep h k)
theorem foldl_rep (its : List Value) : ∀ (k : Nat) (acc : List Value),
  List.foldl (fun x1 x2 => x1 ++ x2) acc.toArray (List.replicate k its.toArray) = (acc ++ (List.replicate k its).flatten).toArray
 | 0, acc => by simp
 | k + 1, acc => by
  have e : acc.toArray ++ its.toArray = (acc ++ its).toArray := by simp
  have e2 : (acc ++ its) ++ (List.replicate k its).flatten = acc ++ (List.replicate (k + 1) its).flatten := by
   rw [List.replicate_succ, List.flatten_cons, List.append_assoc]
  rw [<- e2, <- foldl_rep its k (acc ++ its), <- e, List.replicate_succ, List.foldl_cons]
section
variable {X : Cx} {pins : List (Addr × Obj)} {σ : St} {H : Hp} {s : Shared} {l b : Addr} {xs ys zs : List V}
theorem Inv.YJ {its its' : List Value} {n : Nat} {f : Array Value -> Array Value} {t' : Nat} (I : Inv X pins σ H s) (hH : H l = some (.lst xs))
  (e : s.heap.get? l = some { cls := .type "list", data := .seq its.toArray n }) (hf : f its.toArray = its'.toArray) (hv : Vals ys its') (hz : ys.length <= sizeLine) :
  Inv X pins σ (upd H l (.lst ys)) { s with heap := s.heap.update l (Obj.mapSeq f), toks := t' } := by
 have q := PySem.IsL.update e f
 rw [hf] at q
 refine I.write (x := l) (e := l) (by rw [hH]; exact trivial) (.inl rfl) (fun b' u hb hu => (Heap.get?_update_other s.heap (Obj.mapSeq f) (Ne.symm hb)).trans hu) ⟨_, q⟩ ?_
 exact ⟨hz, its', _, hv, q⟩
theorem Inv.Ya {its : List Value} {t' : Nat} (I : Inv X pins σ H s) (hv : Vals ys its) (hz : ys.length <= sizeLine) :
  Inv X pins σ (upd H s.heap.objs.size (.lst ys)) { s with heap := s.heap.push { cls := .type "list", data := .seq its.toArray }, toks := t' } :=
 I.laid (fun _ _ q => Heap.get?_push_of_some _ q) (Nat.le_refl _) ⟨hz, its, 0, hv, Heap.get?_push_size _ rfl⟩
theorem Inv.fresh (I : Inv X pins σ H s) : H s.heap.objs.size = none := I.hok.fresh (Nat.le_refl _)
theorem Inv.QA (I : Inv X pins σ H s) (hH : H l = some (.lst xs)) : xs.length <= sizeLine /\ ∃ (its : List Value) (n : Nat), Vals xs its /\ xs.length = its.length /\ s.heap.get? l = some { cls := .type "list", data := .seq its.toArray n } := by
 obtain ⟨z, its, n, r, e⟩ := I.hok l _ hH
 exact ⟨z, its, n, r, r.length, e⟩
theorem uR {n : Nat} (h : n <= sizeLine) : Builtin.List.listTooLong n = false := by
 unfold Builtin.List.listTooLong
 exact decide_eq_false (by lia)
end
section
variable {X : Cx}
noncomputable def WV : V -> List V -> Hp -> VK -> Prop := fun x vs H Q => ∃ l xs y, x = .ref l /\ vs = [y] /\ H l = some (.lst xs) /\ xs.length < sizeLine /\ Q .non (upd H l (.lst (xs ++ [y])))
theorem Ys : MtM X "list.append" WV := by
 intro pins s σ H x vs v us Q I rx rv h
 obtain ⟨l, xs, y, rfl, rfl, hH, hz, q⟩ := h
 cases rx
 obtain ⟨u, rfl, ru⟩ := rv.one
 obtain ⟨z, its, n, r, hl, e⟩ := I.QA hH
 refine call_meets F.slot_list_append ⟨_, e, rfl⟩ F.entry_list_append (F.args_list_append_2 _ _) (PySem.list_append l its.toArray n u (by rw [List.size_toArray]; lia)) ⟨e, ?_⟩
 refine ⟨.non, _, I.YJ (its' := its ++ [u]) hH e (by simp) (r.append (.cons ru .nil)) ?_, rfl, q⟩
 rw [List.length_append, List.length_singleton]
 lia
noncomputable def V9 : V -> List V -> Hp -> VK -> Prop := fun x vs H Q => ∃ l b xs zs, x = .ref l /\ vs = [.ref b] /\ H l = some (.lst xs) /\ H b = some (.lst zs) /\ xs.length + zs.length <= sizeLine /\ Q .non (upd H l (.lst (xs ++ zs)))
theorem Yt : MtM X "list.extend" V9 := by
 intro pins s σ H x vs v us Q I rx rv h
 obtain ⟨l, b, xs, zs, rfl, rfl, hH, hB, hz, q⟩ := h
 cases rx
 obtain ⟨u, rfl, ru⟩ := rv.one
 cases ru
 obtain ⟨z, its, n, r, hl, e⟩ := I.QA hH
 obtain ⟨z2, its2, n2, r2, hl2, e2⟩ := I.QA hB
 have hsz : its.toArray.size + its2.toArray.size <= sizeLine := by rw [List.size_toArray, List.size_toArray]; lia
 have hlong : ¬ (!its.toArray.isEmpty && Builtin.List.listTooLong (its.toArray.size + its2.toArray.size)) = true := by
  rw [uR hsz, Bool.and_false]
  exact Bool.false_ne_true
 refine call_meets F.slot_list_extend ⟨_, e, rfl⟩ F.entry_list_extend (F.args_list_extend_2 _ _)
  (AutoSeq1.list_extend_list_list_0 l its.toArray n b its2.toArray n2 hlong (by rw [List.size_toArray]; lia) (by lia)) ⟨e, e2, ?_⟩
 refine ⟨.non, _, I.YJ (its' := its ++ its2) hH e (by simp) (r.append r2) ?_, rfl, q⟩
 rw [List.length_append]
 lia
noncomputable def YW : R2 := fun x y H Q => ∃ l b xs zs, x = .ref l /\ y = .ref b /\ H l = some (.lst xs) /\ H b = some (.lst zs) /\ xs.length + zs.length <= sizeLine /\ ∀ p, H p = none -> Q (.ref p) (upd H p (.lst (xs ++ zs)))
theorem Zm : OpR X (binaryOp .Add) YW := by
 intro pins s σ H x y v u Q I rx ry h
 obtain ⟨l, b, xs, zs, rfl, rfl, hH, hB, hz, q⟩ := h
 cases rx
 cases ry
 obtain ⟨z, its, n, r, hl, e⟩ := I.QA hH
 obtain ⟨z2, its2, n2, r2, hl2, e2⟩ := I.QA hB
 refine PySem.P.add_list e e2 ?_ (by rw [List.size_toArray, List.size_toArray]; lia)
 have ea : its.toArray ++ its2.toArray = (its ++ its2).toArray := by simp
 rw [ea]
 exact ⟨.ref _, _, I.Ya (t' := s.toks) (r.append r2) (by rw [List.length_append]; lia), rfl, q _ I.fresh⟩
noncomputable def YI : R2 := fun x y H Q => ∃ l k xs, x = .ref l /\ y = .int k /\ H l = some (.lst xs) /\ -(2 ^ 63) <= k /\ k < 2 ^ 63 /\ xs.length * k.toNat <= sizeLine /\
 ∀ p, H p = none -> Q (.ref p) (upd H p (.lst (List.replicate k.toNat xs).flatten))
theorem len_rep {α : Type} (xs : List α) (k : Nat) : (List.replicate k xs).flatten.length = k * xs.length := by
 induction k with
 | zero => simp
 | succ k ih => rw [List.replicate_succ, List.flatten_cons, List.length_append, ih, Nat.succ_mul, Nat.add_comm]
theorem Vb : OpR X (binaryOp .Mult) YI := by
 intro pins s σ H x y v u Q I rx ry h
 obtain ⟨l, k, xs, rfl, rfl, hH, h1, h2, hz, q⟩ := h
 cases rx
 obtain ⟨t, rfl⟩ := ry
 obtain ⟨z, its, n, r, hl, e⟩ := I.QA hH
 have hlen : its.toArray.size * k.toNat <= sizeLine := by rw [List.size_toArray, <- hl]; exact hz
 have hcap : ¬ its.toArray.size * k.toNat > (2 ^ 63 - 1) / 8 := by
  have : (sizeLine : Nat) <= (2 ^ 63 - 1) / 8 := by decide
  lia
 have hfit : ¬ (!Builtin.List.listFitsIndex k) = true := by
  rw [fitsIndex_both h1 h2]
  exact Bool.false_ne_true
 have hlong : ¬ Builtin.List.listTooLong (its.toArray.size * k.toNat) = true := by
  rw [uR hlen]
  exact Bool.false_ne_true
 have hnew : List.foldl (fun x1 x2 => x1 ++ x2) #[] (List.replicate (if its.toArray.isEmpty = true then 0 else k.toNat) its.toArray) = (List.replicate k.toNat its).flatten.toArray := by
  have f0 : ∀ m : Nat, List.foldl (fun x1 x2 => x1 ++ x2) #[] (List.replicate m its.toArray) = (List.replicate m its).flatten.toArray := fun m => by
   have := foldl_rep its m []
   rw [List.nil_append] at this
   exact this
  rw [f0]
  cases its with
  | nil => simp
  | cons a r' => rw [if_neg (by simp)]
 refine wpAny_binaryOp_repeat_ref (T := "list") (U := "int") (by decide) ⟨_, e, rfl⟩ (fun s' => typeIs_int s' k t) noFill_list_mul F.fills_int_mul F.slot_int_rmul repeat_list F.slot_int_index.lookup
  (call_meets F.slot_int_rmul (typeIs_int s k t) F.entry_int_rmul (F.args_int_rmul_2 _ _) (int___rmul___int_list k t l its.toArray n)
   ⟨e, rfl, ⟨_, e, rfl⟩, call_meets F.slot_list_mul ⟨_, e, rfl⟩ F.entry_list_mul (F.args_list_mul_2 _ _) (AutoListH.list___mul___list_int_3 l its.toArray n k t hfit hcap hlong) ⟨e, ?_⟩⟩)
 rw [hnew]
 exact ⟨.ref _, _, I.Ya (t' := s.toks) (r.rep k.toNat) (by rw [len_rep, Nat.mul_comm]; exact hz), rfl, q _ I.fresh⟩
end
mutual
inductive Dp (K : PySem.W.Frag) (H : Hp) : V -> PyData -> Prop
 | non : Dp K H .non .none
 | bl (b : Bool) : Dp K H (.bl b) (.bool b)
 | int (i : Int) : Dp K H (.int i) (.int i)
 | str (x : Str) : Dp K H (.str x) (.str x)
 | lst {a : Addr} {xs : List V} {ds : List PyData} : SqL K H a xs -> yR K H xs ds -> Dp K H (.ref a) (.list ds)
 | tup {a : Addr} {xs : List V} {ds : List PyData} : SqT K H a xs -> yR K H xs ds -> Dp K H (.ref a) (.tuple ds)
inductive yR (K : PySem.W.Frag) (H : Hp) : List V -> List PyData -> Prop
 | nil : yR K H [] []
 | cons {v : V} {vs : List V} {d : PyData} {ds : List PyData} : Dp K H v d -> yR K H vs ds -> yR K H (v :: vs) (d :: ds)
end
section
variable {X : Cx} {pins : List (Addr × Obj)} {σ : St} {H : Hp} {s : Shared}
mutual
theorem Dp.reads (I : Inv X pins σ H s) : ∀ (d : PyData) (v : V) (u : Value), Dp X.K H v d -> RelV v u -> ∃ as, Reads s.heap u d as
 | .none, _, _, h, r => by
  cases h
  cases r
  exact ⟨_, Reads.none⟩
 | .bool b, _, _, h, r => by
  cases h
  cases r
  exact ⟨_, Reads.bool b⟩
 | .int i, _, _, h, r => by
  cases h
  obtain ⟨t, rfl⟩ := r
  exact ⟨_, Reads.int i t⟩
 | .str x, _, _, h, r => by
  cases h
  obtain ⟨t, rfl⟩ := r
  exact ⟨_, Reads.str x t⟩
 | .list ds, _, _, h, r => by
  cases h with
  | lst hs ha =>
   cases r
   obtain ⟨its, rv, ⟨o, n, ho, hc, _, hd⟩, _⟩ := I.list hs
   obtain ⟨as, hr⟩ := Dp.readsAll I ds _ its ha rv
   exact ⟨_, Reads.list ho hc hd hr⟩
 | .tuple ds, _, _, h, r => by
  cases h with
  | tup hs ha =>
   cases r
   obtain ⟨its, rv, ⟨o, ho, hc, n, hd⟩, _⟩ := I.tuple hs
   obtain ⟨as, hr⟩ := Dp.readsAll I ds _ its ha rv
   exact ⟨_, Reads.tuple ho hc hd hr⟩
 | .dict _, _, _, h, _ => by cases h
theorem Dp.readsAll (I : Inv X pins σ H s) : ∀ (ds : List PyData) (vs : List V) (us : List Value), yR X.K H vs ds -> Vals vs us -> ∃ as, ReadsAll s.heap us ds as
 | [], _, _, h, r => by
  cases h
  cases r
  exact ⟨_, ReadsAll.nil⟩
 | d :: ds, _, _, h, r => by
  cases h with
  | cons h1 h2 =>
   cases r with
   | cons r1 r2 =>
    obtain ⟨as, q1⟩ := Dp.reads I d _ _ h1 r1
    obtain ⟨bs, q2⟩ := Dp.readsAll I ds _ _ h2 r2
    exact ⟨_, ReadsAll.cons q1 q2⟩
end
end
section
variable {X : Cx}
noncomputable def Z8 (K : PySem.W.Frag) : R2 := fun x y H Q => ∃ d e, Dp K H x d /\ Dp K H y e /\ SeqAt.shaped d = true /\ SeqAt.shaped e = true /\ Q (.bl (PyData.eqv d e)) H
noncomputable def Z0 (K : PySem.W.Frag) : R2 := fun x y H Q => ∃ d e, Dp K H x d /\ Dp K H y e /\ SeqAt.shaped d = true /\ SeqAt.shaped e = true /\ Q (.bl (!PyData.eqv d e)) H
theorem Yc (hu : X.A.units + 64 < cLine) : OpR X (compareOp .Eq) (Z8 X.K) := by
 intro pins s σ H x y v u Q I rx ry h
 obtain ⟨d, e, hd, he, sd, se, q⟩ := h
 obtain ⟨as, r1⟩ := Dp.reads I d x v hd rx
 obtain ⟨bs, r2⟩ := Dp.reads I e y u he ry
 exact SeqAt.compareEq_shaped r1 r2 sd se hu ⟨.bl _, H, I, rfl, q⟩
theorem Zk (hu : X.A.units + 64 < cLine) : OpR X (compareOp .NotEq) (Z0 X.K) := by
 intro pins s σ H x y v u Q I rx ry h
 obtain ⟨d, e, hd, he, sd, se, q⟩ := h
 obtain ⟨as, r1⟩ := Dp.reads I d x v hd rx
 obtain ⟨bs, r2⟩ := Dp.reads I e y u he ry
 exact SeqAt.compareNe_shaped r1 r2 sd se hu ⟨.bl _, H, I, rfl, q⟩
end
noncomputable abbrev VJ (h : Heap) (c : Addr) (v : Option Value) : Prop := h.IsCell c v
noncomputable def Y7 (scope sc : Scope) : Scope :=
 { scope with names := scope.names.map fun (n, k) => if (k == .free && sc.kind == .function && sc.names.lookup n == some .cell) then (n, .cell) else (n, k) }
noncomputable def ql (cells : List (Str × Addr)) : List (Str × NameKind) -> List (Str × Addr) -> List (Str × Addr)
 | [], acc => acc
 | (n, k) :: r, acc => if k == .free then ql cells r ((n, (cells.lookup n).getD 0) :: acc) else ql cells r acc
theorem zF (env : Env) (f : Str × NameKind -> List (Str × Addr) -> Sem (ForInStep (List (Str × Addr))))
  (hf : ∀ n k c, f (n, k) c = if k == .free then (do let a <- cellOf env n; pure (.yield ((n, a) :: c))) else pure (.yield c)) :
  ∀ (names : List (Str × NameKind)) (acc : List (Str × Addr)), (∀ y ∈ names, y.2 = .free -> ∃ c, env.cells.lookup y.1 = some c) -> forIn names acc f = pure (ql env.cells names acc)
 | [], acc, _ => by rw [List.forIn_nil]; rfl
 | (n, k) :: r, acc, h => by
  rw [List.forIn_cons, hf]
  have ih := fun acc => zF env f hf r acc fun y hy => h y (List.mem_cons_of_mem _ hy)
  unfold ql
  by_cases hk : (k == NameKind.free) = true
  ·rw [if_pos hk, if_pos hk]
   obtain ⟨c, hc⟩ := h (n, k) List.mem_cons_self (by simpa using hk)
   have e : cellOf env n = pure c := by unfold cellOf; rw [hc]
   rw [e]
   have e2 : (env.cells.lookup n).getD 0 = c := by rw [hc]; rfl
   rw [e2]
   exact ih _
  ·rw [if_neg hk, if_neg hk]
   exact ih _
theorem yT {scope : Scope} {env : Env} (h : ∀ y ∈ scope.names, y.2 = .free -> ∃ c, env.cells.lookup y.1 = some c) : closureFor scope env = pure (ql env.cells scope.names []) := by
 simp only [closureFor]
 rw [zF env _ (fun n k c => rfl) scope.names [] h]
 rfl
theorem mem_lookup {α : Type} : ∀ {l : List (Str × α)} {n : Str} {c : α}, (n, c) ∈ l -> ∃ c', l.lookup n = some c'
 | (k, v) :: r, n, c, h => by
  rw [List.lookup_cons]
  cases hb : n == k with
  | true => exact ⟨_, rfl⟩
  | false =>
   rcases List.mem_cons.mp h with e | h
   ·cases e; simp at hb
   ·exact mem_lookup h
theorem vB {cells : List (Str × Addr)} : ∀ {names : List (Str × NameKind)} {acc : List (Str × Addr)} {n : Str} {c : Addr}, (n, c) ∈ ql cells names acc -> (n, c) ∈ acc \/ ((n, .free) ∈ names /\ c = (cells.lookup n).getD 0)
 | [], _, _, _, h => .inl h
 | (m, k) :: r, acc, n, c, h => by
  unfold ql at h
  split at h
  ·rename_i hk
   have hk : k = .free := by simpa using hk
   rcases vB h with h | ⟨h1, h2⟩
   ·rcases List.mem_cons.mp h with e | h
    ·cases e; exact .inr ⟨hk ▸ List.mem_cons_self, rfl⟩
    ·exact .inl h
   ·exact .inr ⟨List.mem_cons_of_mem _ h1, h2⟩
  ·rcases vB h with h | ⟨h1, h2⟩
   ·exact .inl h
   ·exact .inr ⟨List.mem_cons_of_mem _ h1, h2⟩
theorem wV {cells : List (Str × Addr)} : ∀ {names : List (Str × NameKind)} {acc : List (Str × Addr)} {p : Str × Addr}, p ∈ acc -> p ∈ ql cells names acc
 | [], _, _, h => h
 | (m, k) :: r, acc, p, h => by
  unfold ql
  split
  ·exact wV (List.mem_cons_of_mem _ h)
  ·exact wV h
theorem vW {cells : List (Str × Addr)} : ∀ {names : List (Str × NameKind)} {acc : List (Str × Addr)} {n : Str}, (n, .free) ∈ names -> (n, (cells.lookup n).getD 0) ∈ ql cells names acc
 | (m, k) :: r, acc, n, h => by
  unfold ql
  rcases List.mem_cons.mp h with e | h
  ·cases e
   exact wV List.mem_cons_self
  ·split
   ·exact vW h
   ·exact vW h
theorem wj : ∀ {names : List (Str × NameKind)} {h : Heap} {acc : List (Str × Addr)} {x : Str} {c : Addr}, (x, c) ∈ cellsFrom h.objs.size names acc ->
  (x, c) ∈ acc \/ ((x, .cell) ∈ names /\ h.objs.size <= c /\ VJ (pushCells h names) c none)
 | [], _, _, _, _, h => .inl h
 | (n, k) :: r, h, acc, x, c, hm => by
  unfold cellsFrom at hm
  unfold pushCells
  split at hm
  ·rename_i hk
   rw [if_pos hk]
   have hk : k = .cell := by simpa using hk
   rw [<- Heap.size_push h { cls := .type "cell", data := .cell none }] at hm
   rcases wj hm with hm | ⟨h1, h2, h3⟩
   ·rcases List.mem_cons.mp hm with e | hm
    ·cases e
     exact .inr ⟨hk ▸ List.mem_cons_self, Nat.le_refl _, _, pushCells_keeps r _ _ _ (Heap.get?_push_size _ rfl), rfl⟩
    ·exact .inl hm
   ·rw [Heap.size_push] at h2
    exact .inr ⟨List.mem_cons_of_mem _ h1, Nat.le_of_succ_le h2, h3⟩
  ·rename_i hk
   rw [if_neg hk]
   rcases wj hm with hm | ⟨h1, h2, h3⟩
   ·exact .inl hm
   ·exact .inr ⟨List.mem_cons_of_mem _ h1, h2, h3⟩
theorem w6 : ∀ {names : List (Str × NameKind)} {n : Nat} {acc : List (Str × Addr)} {p : Str × Addr}, p ∈ acc -> p ∈ cellsFrom n names acc
 | [], _, _, _, h => h
 | (m, k) :: r, n, acc, p, h => by
  unfold cellsFrom
  split
  ·exact w6 (List.mem_cons_of_mem _ h)
  ·exact w6 h
theorem zR : ∀ {names : List (Str × NameKind)} {n : Nat} {acc : List (Str × Addr)} {x : Str}, (x, .cell) ∈ names -> ∃ c, (x, c) ∈ cellsFrom n names acc
 | (m, k) :: r, n, acc, x, h => by
  unfold cellsFrom
  rcases List.mem_cons.mp h with e | h
  ·cases e
   exact ⟨n, w6 List.mem_cons_self⟩
  ·split
   ·exact zR h
   ·exact zR h
theorem zK : ∀ {names : List (Str × NameKind)} {h : Heap} {acc : List (Str × Addr)} {x y : Str} {c : Addr}, (∀ p ∈ acc, p.2 < h.objs.size) -> (∀ x y c, (x, c) ∈ acc -> (y, c) ∈ acc -> x = y) ->
  (x, c) ∈ cellsFrom h.objs.size names acc -> (y, c) ∈ cellsFrom h.objs.size names acc -> x = y
 | [], _, _, _, _, _, _, hi, h1, h2 => hi _ _ _ h1 h2
 | (n, k) :: r, h, acc, x, y, c, hl, hi, h1, h2 => by
  unfold cellsFrom at h1 h2
  split at h1
  ·rename_i hk
   rw [if_pos hk] at h2
   rw [<- Heap.size_push h { cls := .type "cell", data := .cell none }] at h1 h2
   refine zK (h := h.push _) (fun p hp => ?_) (fun x y c a b => ?_) h1 h2
   ·rw [Heap.size_push]
    rcases List.mem_cons.mp hp with rfl | hp
    ·exact Nat.lt_succ_self _
    ·exact Nat.lt_succ_of_lt (hl p hp)
   ·rcases List.mem_cons.mp a with e | a <;> rcases List.mem_cons.mp b with e' | b
    ·cases e; cases e'; rfl
    ·cases e; exact absurd (hl _ b) (Nat.lt_irrefl _)
    ·cases e'; exact absurd (hl _ a) (Nat.lt_irrefl _)
    ·exact hi _ _ _ a b
  ·rename_i hk
   rw [if_neg hk] at h2
   exact zK hl hi h1 h2
theorem uB {M : Model} {A : Around} {E : Value -> Shared -> Prop} {s : Shared} {scope : Scope} {globals : Addr} {closure : List (Str × Addr)} {qual : Str} {func : Option Addr} {code : Value} {around : Env} {builtins : Addr} {Q : Env -> Shared -> Prop}
  (h : Q (newEnv scope s.heap.objs.size globals (cellsFrom (s.heap.objs.size + 1) scope.names closure) qual func code (some around) builtins)
   { s with heap := pushCells (s.heap.push { cls := .type "dict", data := .dict #[] }) scope.names }) :
  wpAny M A (newFunctionEnv scope globals closure [] qual func code (some around) builtins) Q E s := by
 simp only [newFunctionEnv, Option.isSome_some, if_true]
 refine wpAny_bind (wpAny_alloc ?_)
 refine wpAny_bind (wpAny_layCells _ (fun n k c => rfl) scope.names closure _ _ ?_)
 rw [show ({ s with heap := s.heap.push { cls := .type "dict", data := .dict #[] } } : Shared).heap.objs.size = s.heap.objs.size + 1 from Heap.size_push ..]
 rw [List.forIn_nil]
 exact wpAny_bind (wpAny_pure (wpAny_pure h))
theorem wQ {sc : Scope} : ∀ {names : List (Str × NameKind)} {x : Str} {k : NameKind},
  (names.map fun (n, k) => if (k == NameKind.free && sc.kind == .function && sc.names.lookup n == some .cell) then (n, NameKind.cell) else (n, k)).lookup x = some k ->
  ∃ k', names.lookup x = some k' /\ (k = k' \/ (k' = .free /\ k = .cell))
 | [], _, _, h => by simp at h
 | (n, k₀) :: r, x, k, h => by
  have ih := @wQ sc r x k
  have h' : List.lookup x ((if (k₀ == NameKind.free && sc.kind == .function && sc.names.lookup n == some .cell) = true then (n, NameKind.cell) else (n, k₀)) :: (r.map _)) = some k := h
  cases hx : x == n with
  | true =>
   simp only [List.lookup_cons, hx]
   by_cases hc : (k₀ == NameKind.free && sc.kind == .function && sc.names.lookup n == some .cell) = true
   ·rw [if_pos hc] at h'
    simp only [List.lookup_cons, hx] at h'
    cases h'
    simp only [Bool.and_eq_true, beq_iff_eq] at hc
    exact ⟨k₀, rfl, .inr ⟨hc.1.1, rfl⟩⟩
   ·rw [if_neg hc] at h'
    simp only [List.lookup_cons, hx] at h'
    cases h'
    exact ⟨_, rfl, .inl rfl⟩
  | false =>
   simp only [List.lookup_cons, hx]
   by_cases hc : (k₀ == NameKind.free && sc.kind == .function && sc.names.lookup n == some .cell) = true
   ·rw [if_pos hc] at h'
    simp only [List.lookup_cons, hx] at h'
    exact ih h'
   ·rw [if_neg hc] at h'
    simp only [List.lookup_cons, hx] at h'
    exact ih h'
structure Qh (N : List Str) (sc scope : Scope) (own : List (Str × Nat)) : Prop where
 kind : scope.kind = .function
 uniq : ∀ y ∈ scope.names, scope.names.lookup y.1 = some y.2
 ix : ∀ p ∈ own, N[p.2]? = some p.1
 free : ∀ y ∈ scope.names, y.2 = .free -> sc.names.lookup y.1 = some .cell \/ sc.names.lookup y.1 = some .free
 own : ∀ y ∈ scope.names, y.2 = .local \/ y.2 = .cell -> y.1 ∈ own.map (·.1) \/ y.1 ∉ N
noncomputable def wipe (σ : St) : List Nat -> St
 | [] => σ
 | v :: vs => (wipe σ vs).set v none
theorem qM (σ : St) : ∀ vs : List Nat, (wipe σ vs).length = σ.length
 | [] => rfl
 | v :: vs => by unfold wipe; rw [List.length_set, qM σ vs]
theorem vh {σ : St} {i : Nat} {x : V} : ∀ {vs : List Nat}, (wipe σ vs)[i]? = some (some x) -> σ[i]? = some (some x) /\ i ∉ vs
 | [], h => ⟨h, by simp⟩
 | v :: vs, h => by
  unfold wipe at h
  by_cases hi : v = i
  ·subst hi
   by_cases hv : v < (wipe σ vs).length
   ·rw [List.getElem?_set_self hv] at h; cases h
   ·rw [List.getElem?_eq_none (by simpa using hv)] at h; cases h
  ·rw [List.getElem?_set_ne hi] at h
   obtain ⟨h1, h2⟩ := vh h
   exact ⟨h1, by simp only [List.mem_cons, not_or]; exact ⟨fun e => hi e.symm, h2⟩⟩
noncomputable abbrev Cx.blk (X : Cx) (s : Shared) (H : Hp) (scope : Scope) (cenv : Env) (fp : List Addr) : Cx := { X with s_0 := s, H_0 := H, env := cenv, outer := X.stack, ex := fp, fn := fun x => scope.names.lookup x == some .cell, pn := [], xe := fun _ _ => False }
section
variable {X : Cx} {pins : List (Addr × Obj)} {σ : St} {H : Hp} {s : Shared}
theorem uE {scope : Scope} {own : List (Str × Nat)} {fp : List Addr} (I : Inv X pins σ H s) (ok : Qh X.N X.env.scope scope own) (hN : X.N.Nodup) (hfp : ∀ b ∈ fp, zQ X pins H b /\ b < s.heap.objs.size) :
  Inv (X.blk s H scope (compEnvC scope (cellsFrom (s.heap.objs.size + 1) scope.names (ql X.env.cells scope.names [])) s.heap.objs.size X.env) fp) [] (wipe σ (own.map (·.2))) H { s with heap := pushCells (s.heap.push { cls := .type "dict", data := .dict #[] }) scope.names } := by
 have hfree : ∀ y ∈ scope.names, y.2 = .free -> ∃ c, X.env.cells.lookup y.1 = some c := fun y hy e => by
  rcases ok.free y hy e with k | k
  ·exact I.ok.has _ (.inl k)
  ·exact I.ok.has _ (.inr k)
 generalize hcenv : compEnvC scope (cellsFrom (s.heap.objs.size + 1) scope.names (ql X.env.cells scope.names [])) s.heap.objs.size X.env = cenv
 have kp : ∀ b o, s.heap.get? b = some o -> (pushCells (s.heap.push { cls := .type "dict", data := .dict #[] }) scope.names).get? b = some o := fun b o e => pushCells_keeps _ _ _ _ (Heap.get?_push_of_some _ e)
 have hL : cenv.locals = s.heap.objs.size := by rw [<- hcenv]; rfl
 have hcl : cenv.cells = cellsFrom (s.heap.objs.size + 1) scope.names (ql X.env.cells scope.names []) := by rw [<- hcenv]; rfl
 have hsc : cenv.scope = Y7 scope X.env.scope := by rw [<- hcenv]; rfl
 rw [<- Heap.size_push s.heap { cls := .type "dict", data := .dict #[] }] at hcl
 have cm : ∀ {y c}, (y, c) ∈ ql X.env.cells scope.names [] -> X.env.cells.lookup y = some c /\ c < s.heap.objs.size := fun {y c} hm => by
  rcases vB hm with hm | ⟨h1, rfl⟩
  ·cases hm
  ·obtain ⟨c, hc⟩ := hfree _ h1 rfl
   rw [hc]
   obtain ⟨w, z⟩ := I.cell _ _ hc
   exact ⟨rfl, z.lt⟩
 have mem : ∀ {y c}, cenv.cells.lookup y = some c -> (X.env.cells.lookup y = some c /\ c < s.heap.objs.size) \/ (s.heap.objs.size + 1 <= c /\ VJ (pushCells (s.heap.push { cls := .type "dict", data := .dict #[] }) scope.names) c none) := fun {y c} e => by
  rw [hcl] at e
  rcases wj (PySem.mem_of_lookup e) with hm | ⟨_, h2, h3⟩
  ·exact .inl (cm hm)
  ·rw [Heap.size_push] at h2; exact .inr ⟨h2, h3⟩
 have look : ∀ {y}, scope.names.lookup y = some .free -> ∃ c, cenv.cells.lookup y = some c /\ X.env.cells.lookup y = some c := fun {y} hl => by
  have hy : (y, NameKind.free) ∈ scope.names := PySem.mem_of_lookup hl
  obtain ⟨c', e'⟩ := mem_lookup (w6 (names := scope.names) (n := (s.heap.push { cls := .type "dict", data := .dict #[] }).objs.size) (vW (cells := X.env.cells) (acc := []) hy))
  rw [<- hcl] at e'
  refine ⟨c', e', ?_⟩
  rw [hcl] at e'
  rcases wj (PySem.mem_of_lookup e') with hm | ⟨h1, _, _⟩
  ·exact (cm hm).1
  ·have := ok.uniq _ h1
   rw [hl] at this; cases this
 have okB : (X.blk s H scope cenv fp).Ok := by
  refine ⟨I.ok.mod, by show cenv.scope.kind = _; rw [hsc]; exact ok.kind, by show cenv.globals = _; rw [<- hcenv]; exact I.ok.glob, by show cenv.builtins = _; rw [<- hcenv]; exact I.ok.blt, by show s.heap.objs.size <= cenv.locals; rw [hL]; exact Nat.le_refl _,
   fun y z c e1 e2 => ?_, fun y hy => ?_, fun y c z e => ?_, I.ok.hd, I.ok.frames, .inl rfl, fun b hb => ⟨?_, fun y c e z => ?_⟩, I.bs, Nat.le_trans I.ok.bsz I.sz, fun b o e hb => ?_, fun b hb z => ?_, I.stack, I.uk⟩
  ·have e1 : cenv.cells.lookup y = some c := e1
   have e2 : cenv.cells.lookup z = some c := e2
   rw [hcl] at e1 e2
   refine zK (fun p hp => ?_) (fun y z c a b => I.ok.inj y z c (cm a).1 (cm b).1) (PySem.mem_of_lookup e1) (PySem.mem_of_lookup e2)
   rw [Heap.size_push]
   exact Nat.lt_succ_of_lt (cm (y := p.1) (c := p.2) hp).2
  ·show ∃ c, cenv.cells.lookup y = some c
   have key : ∀ k, cenv.kindOf y = some k -> (k = .cell \/ k = .free) -> ∃ c, cenv.cells.lookup y = some c := fun k hk hk' => by
    unfold Env.kindOf at hk
    rw [hsc] at hk
    obtain ⟨k', e, r⟩ := wQ hk
    have : k' = .cell \/ k' = .free := by
     rcases r with rfl | ⟨rfl, _⟩
     ·exact hk'
     ·exact .inr rfl
    rcases this with rfl | rfl
    ·obtain ⟨c, hm⟩ := zR (n := (s.heap.push { cls := .type "dict", data := .dict #[] }).objs.size) (acc := ql X.env.cells scope.names []) (PySem.mem_of_lookup e)
     obtain ⟨c', e'⟩ := mem_lookup hm
     exact ⟨c', by rw [hcl]; exact e'⟩
    ·obtain ⟨c, h1, _⟩ := look e
     exact ⟨c, h1⟩
   rcases hy with hy | hy
   ·exact key _ hy (.inl rfl)
   ·exact key _ hy (.inr rfl)
  ·have z : (scope.names.lookup y == some NameKind.cell) = true := z
   have z : scope.names.lookup y = some .cell := by simpa using z
   have e : cenv.cells.lookup y = some c := e
   rw [hcl] at e
   rcases wj (PySem.mem_of_lookup e) with hm | ⟨_, h2, _⟩
   ·rcases vB hm with hm | ⟨h1, _⟩
    ·cases hm
    ·have q := ok.uniq _ h1
     rw [z] at q; cases q
   ·rw [Heap.size_push] at h2
    exact Nat.le_of_succ_le h2
  ·show b ≠ cenv.locals
   rw [hL]; exact Nat.ne_of_lt (hfp b hb).2
  ·have e : cenv.cells.lookup y = some c := e
   rcases mem e with ⟨h1, _⟩ | ⟨h1, _⟩
   ·exact (hfp b hb).1.2.2.2.2.1 y c h1 z
   ·have h2 : s.heap.objs.size + 1 <= b := by rw [<- z]; exact h1
    exact absurd (Nat.lt_of_lt_of_le (hfp b hb).2 (Nat.le_of_succ_le h2)) (Nat.lt_irrefl _)
  ·rcases (hfp b hb).1.2.2.2.1 with z | z
   ·exact I.ok.noex b o e z
   ·exact absurd (Nat.lt_of_lt_of_le (Heap.lt_size e) (Nat.le_trans I.ok.bsz z)) (Nat.lt_irrefl _)
  ·rcases List.mem_cons.mp (I.wb b z) with z | z
   ·exact (hfp b hb).1.2.1 z
   ·exact (hfp b hb).1.2.2.1 z
 refine ⟨okB, rfl, I.bare, Un.kept kp, ⟨fun _ => none, ?_, fun i y av e1 e2 e3 => ?_⟩, fun y c e => ?_, ?_, fun y c e => ?_, fun p hp => ?_, I.hok.kept kp, by rw [qM]; exact I.len⟩
 ·show Heap.Ns _ cenv.locals _
  rw [hL]
  exact Heap.Ns.keeps (Heap.Ns.new ..) fun b o e => pushCells_keeps _ _ _ _ e
 ·obtain ⟨e2, hne⟩ := vh e2
  have hfr : scope.names.lookup y = some .free /\ (cenv.kindOf y = some .cell \/ cenv.kindOf y = some .free) := by
   have key : ∀ k, cenv.scope.names.lookup y = some k -> k = .local \/ k = .cell \/ k = .free -> scope.names.lookup y = some .free /\ (cenv.kindOf y = some .cell \/ cenv.kindOf y = some .free) := fun k hk hk' => by
    have hk0 := hk
    rw [hsc] at hk
    obtain ⟨k', e, r⟩ := wQ hk
    have no : ¬ (k' = .local \/ k' = .cell) := fun hh => by
     rcases ok.own _ (PySem.mem_of_lookup e) hh with e' | e'
     ·obtain ⟨p, hp, hpy⟩ := List.mem_map.mp e'
      have e3 := ok.ix p hp
      have : p.1 = y := hpy
      rw [this] at e3
      exact hne (List.mem_map.mpr ⟨p, hp, yL hN e3 e1⟩)
     ·exact e' (List.mem_of_getElem? e1)
    rcases r with rfl | ⟨rfl, rfl⟩
    ·rcases hk' with rfl | rfl | rfl
     ·exact absurd (.inl rfl) no
     ·exact absurd (.inr rfl) no
     ·exact ⟨e, .inr hk0⟩
    ·exact ⟨e, .inl hk0⟩
   have e3 : Vis cenv.scope y := e3
   rcases e3 with e3 | e3 | e3
   ·exact key _ e3 (.inl rfl)
   ·exact key _ e3 (.inr (.inl rfl))
   ·exact key _ e3 (.inr (.inr rfl))
  obtain ⟨m, hn, hl⟩ := I.loc
  have hvis : Vis X.env.scope y := (ok.free _ (PySem.mem_of_lookup hfr.1) rfl).elim (fun k => .inr (.inl k)) (fun k => .inr (.inr k))
  obtain ⟨w, r, q⟩ := hl i y av e1 e2 hvis
  refine ⟨w, r, .inr ⟨hfr.2, ?_⟩⟩
  obtain ⟨c, h1, h2⟩ := look hfr.1
  rcases q with ⟨k, _⟩ | ⟨_, c', e', z⟩
  ·have k : X.env.scope.names.lookup y = some .local := k
   rcases ok.free _ (PySem.mem_of_lookup hfr.1) rfl with k' | k' <;> rw [show X.env.scope.names.lookup y = _ from k'] at k <;> cases k
  ·rw [h2] at e'; cases e'
   exact ⟨c, h1, z.keeps kp⟩
 ·have e : cenv.cells.lookup y = some c := e
  rcases mem e with ⟨h1, _⟩ | ⟨_, z⟩
  ·obtain ⟨w, z⟩ := I.cell y c h1
   exact ⟨w, z.keeps kp⟩
  ·exact ⟨_, z⟩
 ·show H cenv.locals = none
  rw [hL]; exact I.hok.fresh (Nat.le_refl _)
 ·have e : cenv.cells.lookup y = some c := e
  rcases mem e with ⟨h1, _⟩ | ⟨h1, _⟩
  ·exact I.freeC y c h1
  ·exact I.hok.fresh (Nat.le_of_succ_le h1)
 ·exact absurd (show p ∈ ([] : List (Addr × Obj)) ++ [] from hp) (by simp)
theorem Zn {E : Value -> Shared -> Prop} {D : Addr} {xs : List V} {y : V} {v : Value} {Q : Value -> Shared -> Prop} (I : Inv X pins σ H s) (hD : H D = some (.lst xs)) (hz : xs.length < sizeLine) (r : RelV y v)
  (h : ∀ s', Inv X pins σ (upd H D (.lst (xs ++ [y]))) s' -> Q .none s') : wpAny (model X.prog X.w) X.A (call (.builtin "list.append") [.ref D, v]) Q E s := by
 obtain ⟨hz', its, n, ri, e⟩ := I.hok D _ hD
 have hl := ri.length
 refine append_at (hsz := by rw [List.size_toArray]; lia) e fun h' sb ho' => ?_
 refine h { s with heap := h' } (I.write (t' := s.toks) (by rw [hD]; trivial) (.inl rfl) (fun b u hb q => (sb.2 b hb).trans q) ⟨_, ho'⟩ ⟨by rw [List.length_append]; exact hz, its ++ [v], n + 1, ri.append (.cons r .nil), ?_⟩)
 rw [ho']
 simp
noncomputable def PTs (X : Cx) (ifs : List Expr) (t : TT) : Prop :=
 ∀ (pins : List (Addr × Obj)) (s : Shared) (σ : St) (H : Hp) (Q : Bool -> Hp -> Prop), Inv X pins σ H s -> t σ H Q ->
  wpAny (model X.prog X.w) X.A (forIn ifs true fun c r => if r = true then do let ok <- isTrue c X.env (eval c X.env); pure (ForInStep.yield ok) else pure (ForInStep.yield r)) (TP X pins σ Q) X.xe s
noncomputable def QB : TT := fun _ H Q => Q true H
theorem Wz : PTs X [] QB := fun _ _ _ H _ I h => wpAny_tests_nil ⟨H, I, h⟩
end
theorem Z6 {α : Type} {t : Sem α} {Q Q' : α -> Shared -> Prop} {M : Model} {A : Around} {E : Value -> Shared -> Prop} {s : Shared} (h : wpAny M A t Q (fun _ _ => False) s) (hQ : ∀ a s, Q a s -> Q' a s) : wpAny M A t Q' E s := wpAny_mono h hQ fun _ _ z => False.elim z
theorem xO {prog : Program} {w : World} {A : Around} {R : Result -> Shared -> Prop} {s : Shared} {elt target iter : Expr} {ifs : List Expr} {scope : Scope} {pos : Pos} {it acc : Value} {env : Env} (I : Nat -> Shared -> Prop)
  (turn : ∀ n s, I n s -> wpAny (model prog w) A (pyNext it) (fun r s₁ => match r with
   | none => R (.ok .next) s₁
   | some v => wpAny (model prog w) A (letOwnedTupleGo target it v) (fun _ s₁' => wpAny (model prog w) A (assign target env v) (fun _ s₂ =>
     wpAny (model prog w) A (forIn ifs true fun c r => if r = true then do let ok <- isTrue c env (eval c env); pure (ForInStep.yield ok) else pure (ForInStep.yield r)) (fun ok s₃ =>
      if ok = true then wpAny (model prog w) A (eval elt env) (fun x s₄ =>
       wpAny (model prog w) A (call (.builtin "list.append") [acc, x]) (fun _ s₅ => ∃ m, m < n /\ I m s₅) (notedBy (model prog w) A env fun e s' => R (.error e) s') s₄) (notedBy (model prog w) A env fun e s' => R (.error e) s') s₃
      else ∃ m, m < n /\ I m s₃) (notedBy (model prog w) A env fun e s' => R (.error e) s') s₂) (notedBy (model prog w) A env fun e s' => R (.error e) s') s₁') (notedBy (model prog w) A env fun e s' => R (.error e) s') s₁) (notedBy (model prog w) A env fun e s' => R (.error e) s') s)
  (n : Nat) (h : I n s) :
  codeAny (model prog w) A (.compLoop (.ListComp elt [⟨target, iter, ifs, 0⟩] scope pos) 0 it acc env) R s := by
 refine codeAny_loop rfl I (fun n s hI => ?_) n h
 show wpAny _ A ((compTurn (.ListComp elt [⟨target, iter, ifs, 0⟩] scope pos) 0 it acc env).onRaise (fun x => do noteFrame x env; theTreesLotGoes x)) _ _ s
 refine wpAny_noted ?_
 rw [compTurn_list]
 refine wpAny_bind (wpAny_standAt (wpAny_bind (wpAny_mono (turn n s hI) (fun r s₁ h₁ => ?_) fun _ _ h' => h')))
 cases r with
 | none => exact wpAny_pure h₁
 | some v =>
  refine wpAny_bind (wpAny_mono h₁ (fun _ s₁' h₁' => ?_) fun _ _ h' => h')
  refine wpAny_bind (wpAny_mono h₁' (fun _ s₂ h₂ => wpAny_bind (wpAny_mono h₂ (fun ok s₃ h₃ => ?_) fun _ _ h' => h')) fun _ _ h' => h')
  cases ok with
  | false => exact wpAny_pure ⟨rfl, h₃⟩
  | true =>
   exact wpAny_bind (wpAny_bind (wpAny_mono h₃ (fun x s₄ h₄ => wpAny_bind (wpAny_mono h₄ (fun _ s₅ h₅ => wpAny_pure (wpAny_pure ⟨rfl, h₅⟩)) fun _ _ h' => h')) fun _ _ h' => h'))
section
variable {X : Cx}
noncomputable def tLc (wi : TI) (g : TG) (tt : TT) (te : TE) (vs : List Nat) : TE := fun σ H Q => wi σ H fun J H1 => ∀ D, H1 D = none -> ∃ W : Nat -> Nat -> Hp -> Prop, (∃ m, W 0 m (upd H1 D (.lst []))) /\ ∀ i m H, W i m H ->
 (J.stop i H /\ Q (.ref D) H) \/ (J.go i H /\ ∃ Nx : Hp -> Prop, (∀ H', Nx H' -> ∃ m', m' < m /\ W (i + 1) m' H') /\ ∀ x H', J.yld i H x H' -> g x (wipe σ vs) H' fun σ2 H2 => wipe σ2 vs = wipe σ vs /\ tt σ2 H2 fun b H3 =>
  if b = true then te σ2 H3 fun y H4 => ∃ acc, H4 D = some (.lst acc) /\ acc.length < sizeLine /\ Nx (upd H4 D (.lst (acc ++ [y]))) else Nx H3)
end
noncomputable def WL (N : List Str) (sc scope : Scope) (own : List (Str × Nat)) : Bool :=
 (match scope.kind with | .function => true | _ => false) && (scope.names.all fun y => decide (scope.names.lookup y.1 = some y.2)) && (own.all fun p => decide (N[p.2]? = some p.1)) &&
  (scope.names.all fun y => match y.2 with
   | .free => (match sc.names.lookup y.1 with | some .cell => true | some .free => true | _ => false)
   | .local => decide (y.1 ∈ own.map (·.1)) || decide (y.1 ∉ N)
   | .cell => decide (y.1 ∈ own.map (·.1)) || decide (y.1 ∉ N)
   | _ => true)
theorem Ve {N : List Str} {sc scope : Scope} {own : List (Str × Nat)} (h : WL N sc scope own = true) : Qh N sc scope own := by
 unfold WL at h
 simp only [Bool.and_eq_true, List.all_eq_true, decide_eq_true_eq] at h
 obtain ⟨⟨⟨h1, h2⟩, h3⟩, h4⟩ := h
 refine ⟨?_, h2, h3, fun y hy e => ?_, fun y hy e => ?_⟩
 ·split at h1
  ·assumption
  ·cases h1
 ·have q := h4 y hy
  simp only [e] at q
  split at q <;> first | exact .inl (by assumption) | exact .inr (by assumption) | cases q
 ·have q := h4 y hy
  rcases e with e | e <;> (simp only [e, Bool.or_eq_true, decide_eq_true_eq] at q; exact q)
theorem wR {σ : St} {i : Nat} : ∀ {vs : List Nat}, i ∉ vs -> (wipe σ vs)[i]? = σ[i]?
 | [], _ => rfl
 | v :: vs, h => by
  have h1 : v ≠ i := fun e => h (by rw [e]; exact List.mem_cons_self)
  have h2 : i ∉ vs := fun m => h (List.mem_cons_of_mem _ m)
  unfold wipe
  rw [List.getElem?_set_ne h1]
  exact wR h2
section
variable {X : Cx} {pins : List (Addr × Obj)} {σ : St} {H : Hp} {s : Shared} {h' : Heap}
theorem Inv.WG {t' : Nat} {ch : List Addr} (I : Inv X pins σ H s) (k : ∀ b o, b ∉ ch -> s.heap.get? b = some o -> h'.get? b = some o) (hf : ∀ b ∈ ch, zQ X pins H b) : Inv X pins σ H { s with heap := h', toks := t' } := by
 have nit : ∀ b u, H b = some u -> b ∉ ch := fun b u e z => by
  have q := (hf b z).1
  rw [q] at e; cases e
 refine I.step (g' := s.gens) (d' := s.drawn) (ch := ch) (fun b hb => ⟨(hf b hb).2.2.2.1, (hf b hb).2.1, (hf b hb).2.2.2.2.1, (hf b hb).2.2.2.2.2⟩) (fun b o _ _ hc e _ => k b o hc e) (fun b o _ _ hc e _ => ⟨o.slots, k b o hc e⟩)
  (fun _ _ _ _ n => n) (fun b o hc e => ⟨o, k b o hc e⟩) (fun _ _ e => e) (fun _ _ _ e => e) (fun b ps e => ⟨#[], by rw [e]; simp⟩) (fun m hm => ?_) (fun b u e => ?_) I.bare
 ·obtain ⟨o, es, ep, ho, r⟩ := hm
  exact ⟨o, es, ep, k _ o (fun z => (hf _ z).2.1 rfl) ho, r⟩
 ·refine (I.hok b u e).xi (fun c v hc q => k c v ?_ q) (fun _ q => q) fun _ _ q => q
  rcases hc with z | z
  ·rw [z]; exact nit b u e
  ·exact nit c _ z
theorem Inv.QC {t' : Nat} {ch : List Addr} {T : Addr} {ob : HO} (I : Inv X pins σ H s) (k : ∀ b o, b ∉ ch -> s.heap.get? b = some o -> h'.get? b = some o) (hf : ∀ b ∈ ch, zQ X pins H b) (hT : s.heap.objs.size <= T)
  (new : vD X.prog X.w (upd H T ob) h' T ob) : Inv X pins σ (upd H T ob) { s with heap := h', toks := t' } := by
 have hn : H T = none := I.hok.fresh hT
 have nit : ∀ b u, H b = some u -> b ∉ ch := fun b u e z => by
  have q := (hf b z).1
  rw [q] at e; cases e
 refine I.step (g' := s.gens) (d' := s.drawn) (ch := ch) (fun b hb => ⟨(hf b hb).2.2.2.1, (hf b hb).2.1, (hf b hb).2.2.2.2.1, (hf b hb).2.2.2.2.2⟩) (fun b o _ _ hc e _ => k b o hc e) (fun b o _ _ hc e _ => ⟨o.slots, k b o hc e⟩)
  (fun b o _ e n => ?_) (fun b o hc e => ⟨o, k b o hc e⟩) (fun b xs e => ?_) (fun b o u e => ?_) (fun b ps e => ⟨#[], ?_⟩) (fun m hm => ?_) (fun b u e => ?_) I.bare
 ·rw [qh (Nat.ne_of_lt (Nat.lt_of_lt_of_le (Heap.lt_size e) hT))]; exact n
 ·rw [qh (qy e hn)]; exact e
 ·rw [qh (qy e hn)]; exact e
 ·rw [qh (qy e hn), e]; simp
 ·obtain ⟨o, es, ep, ho, r⟩ := hm
  exact ⟨o, es, ep, k _ o (fun z => (hf _ z).2.1 rfl) ho, r⟩
 ·by_cases hb : b = T
  ·subst hb
   rw [qH] at e
   cases e
   exact new
  ·rw [qh hb] at e
   refine (I.hok b u e).xi (fun c v hc q => k c v ?_ q) (fun c q => by rw [qh (qy q hn)]; exact q) fun c xs q => by rw [qh (qy q hn)]; exact q
   rcases hc with z | z
   ·rw [z]; exact nit b u e
   ·exact nit c _ z
end
theorem QH : bootBuiltins "zip" = some (.type "zip") := by decide +kernel
noncomputable def Itz (K : PySem.W.Frag) (a b : Addr) : It :=
 ⟨fun i H => ∃ (xs ys : List V) (x y : V), SqL K H a xs /\ SqL K H b ys /\ xs[i]? = some x /\ ys[i]? = some y,
  fun i H v H' => ∃ T x y, v = .ref T /\ H T = none /\ H' = upd H T (.tup [x, y]) /\ (∀ xs, SqL K H a xs -> xs[i]? = some x) /\ ∀ ys, SqL K H b ys -> ys[i]? = some y,
  fun i H => ∃ xs ys : List V, SqL K H a xs /\ SqL K H b ys /\ (xs.length <= i \/ ys.length <= i)⟩
theorem Vk {P : Program} {w : World} {K : PySem.W.Frag} {elts : List Expr} {kk : Nat} {tpos : Pos} {a b z TI TO i1 i2 : Addr} (D : ZipApart z TI TO i1 i2 a b) :
  Turn P w K (.Tuple elts kk tpos) (Itz K a b) [z, TI, TO, i1, i2] z (fun i h => IsZip h z TI TO .none /\ IsPair h TI (.ref i1) (.ref i2) /\ (∃ x y, IsPair h TO x y) /\ h.IsListIter i1 a i /\ h.IsListIter i2 b i) where
 mem := by simp
 obj := fun i h st c hc => by
  obtain ⟨hz, hTI, ⟨x, y, hTO⟩, ⟨o1, e1, _, d1⟩, ⟨o2, e2, _, d2⟩⟩ := st
  have e' : c = z \/ c = TI \/ c = TO \/ c = i1 \/ c = i2 := by simpa using hc
  rcases e' with q | q | q | q | q
  ·rw [q]; exact ⟨_, hz, fun v q => nomatch q⟩
  ·rw [q]; exact ⟨_, hTI, fun v q => nomatch q⟩
  ·rw [q]; exact ⟨_, hTO, fun v q => nomatch q⟩
  ·rw [q]; exact ⟨o1, e1, fun v q => by rw [d1] at q; cases q⟩
  ·rw [q]; exact ⟨o2, e2, fun v q => by rw [d2] at q; cases q⟩
 keep := fun i h h' st k => by
  obtain ⟨hz, hTI, ⟨x, y, hTO⟩, h1, h2⟩ := st
  exact ⟨k z (by simp) _ hz, k TI (by simp) _ hTI, ⟨x, y, k TO (by simp) _ hTO⟩, h1.at fun o q => k i1 (by simp) o q, h2.at fun o q => k i2 (by simp) o q⟩
 item := by
  intro X hP hw hK hc i pins s σ H E I hf st hg
  subst hP hw hK
  obtain ⟨hz, hTI, ⟨x0, y0, hTO⟩, h1, h2⟩ := st
  obtain ⟨xs, ys, x, y, hqx, hqy, hx, hy⟩ := hg
  obtain ⟨its, rv, p, _⟩ := I.list hqx
  obtain ⟨its2, rv2, p2, _⟩ := I.list hqy
  obtain ⟨u, hu, ru⟩ := rv.get hx
  obtain ⟨u2, hu2, ru2⟩ := rv2.get hy
  have hzl : z < s.heap.objs.size := Heap.lt_size hz
  refine wpAny_pyNext_zip_item D hz hTI hTO h1 h2 p.isList p2.isList (x := u) (y := u2) (by simpa using hu) (by simpa using hu2) fun h' z' TO' h1' h2' hT hsz hk => ?_
  refine ⟨_, rfl, wpAny_letOwnedTupleGo_zip (s := { s with heap := h' }) z' fun h'' z'' sb => ?_⟩
  have hT2 : h''.get? s.heap.objs.size = some { cls := .type "tuple", data := .seq #[u, u2] } := (sb.2 _ (Nat.ne_of_gt hzl)).trans hT
  have new : vD X.prog X.w (upd H s.heap.objs.size (.tup [x, y])) h'' s.heap.objs.size (.tup [x, y]) :=
   ⟨by show 2 <= sizeLine; decide, [u, u2], .cons ru (.cons ru2 .nil), ⟨_, hT2, rfl, _, rfl⟩⟩
  have I1 : Inv X pins σ (upd H s.heap.objs.size (.tup [x, y])) { s with heap := h'' } :=
   I.QC (t' := s.toks) (ch := [z, TI, TO, i1, i2]) (fun c o hb q => (sb.2 c (fun q' => hb (by simp [q']))).trans (hk c o (fun q' => hb (by simp [q'])) (fun q' => hb (by simp [q'])) (fun q' => hb (by simp [q'])) (fun q' => hb (by simp [q'])) q)) hf (Nat.le_refl _) new
  refine ⟨.ref s.heap.objs.size, _, I1, rfl, ⟨_, x, y, rfl, I.hok.fresh (Nat.le_refl _), rfl, fun l hl => by rw [I.yA hl hqx]; exact hx, fun l hl => by rw [I.yA hl hqy]; exact hy⟩, ⟨z'', ?_, ⟨u, u2, ?_⟩, ?_, ?_⟩, fun c hcm => ?_⟩
  ·exact (sb.2 _ D.TIz).trans (hk _ _ D.TIz D.TITO D.TIi1 D.TIi2 hTI)
  ·exact (sb.2 _ D.TOz).trans TO'
  ·exact h1'.at fun o q => (sb.2 _ D.i1z).trans q
  ·exact h2'.at fun o q => (sb.2 _ D.i2z).trans q
  ·have hlt : c < s.heap.objs.size := by
    have e' : c = z \/ c = TI \/ c = TO \/ c = i1 \/ c = i2 := by simpa using hcm
    rcases e' with q | q | q | q | q
    ·rw [q]; exact hzl
    ·rw [q]; exact Heap.lt_size hTI
    ·rw [q]; exact Heap.lt_size hTO
    ·rw [q]; obtain ⟨_, e1, _⟩ := h1; exact Heap.lt_size e1
    ·rw [q]; obtain ⟨_, e2, _⟩ := h2; exact Heap.lt_size e2
   rw [qh (Nat.ne_of_lt hlt)]
   exact (hf c hcm).1
 done := by
  intro X hP hw hK hc i pins s σ H E I hf st hg
  subst hP hw hK
  obtain ⟨hz, hTI, ⟨x0, y0, hTO⟩, h1, h2⟩ := st
  obtain ⟨xs, ys, hqx, hqy, hend⟩ := hg
  obtain ⟨its, rv, p, _⟩ := I.list hqx
  obtain ⟨its2, rv2, p2, _⟩ := I.list hqy
  have l1 := rv.length
  have l2 := rv2.length
  have he : its.toArray[i]? = none \/ its2.toArray[i]? = none := by
   rcases hend with q | q
   ·exact .inl (by simp; lia)
   ·exact .inr (by simp; lia)
  exact wpAny_pyNext_zip_end (I.ok.hd hc) D hz hTI hTO h1 h2 p.isList p2.isList he fun h' hk => ⟨rfl, I.WG (t' := s.toks) (ch := [z, TI, TO, i1, i2]) (fun c o hb q =>
   hk c o (fun q' => hb (by simp [q'])) (fun q' => hb (by simp [q'])) (fun q' => hb (by simp [q'])) (fun q' => hb (by simp [q'])) q) hf⟩
 self := fun A i s Q E st h => wpAny_pyIter_zip st.1 h
noncomputable def Vg (K : PySem.W.Frag) (ta : TA) : TI := fun σ H R => ta σ H fun vs H1 => ∃ a b xs ys, vs = [.ref a, .ref b] /\ SqL K H1 a xs /\ SqL K H1 b ys /\ R (Itz K a b) H1
theorem ZT {X : Cx} {e e2 : Expr} {ta : TA} {p pos tpos : Pos} {elts : List Expr} {kk : Nat} (hg : Gl X "zip") (hm : X.mg "zip" = none) (ha : PA X [e, e2] ta)
  (hs : starEach [e, e2] X.env = (false, eval e X.env) :: starEach [e2] X.env := by rfl) (hpl : (backTo pos (starEach [e2] X.env)).any (·.1) = false := by rfl) :
  PI X (.Tuple elts kk tpos) (.Call (.Name "zip" p) [e, e2] [] pos) (Vg X.K ta) := by
 intro pins s σ H R I h
 refine Call_ (VY I hg hm QH (PyProof.Rows.callWith_type1 (thn (ha pos pins s σ H _ I h) fun us s1 ⟨vs, H1, I1, r1, q1⟩ => ?_) hs hpl))
 obtain ⟨a, b, xs, ys, ex, hqx, hqy, q⟩ := q1
 subst ex
 cases r1 with
 | cons r rr =>
  cases rr with
  | cons r' rr =>
   cases rr
   cases r
   cases r'
   obtain ⟨its, rv, p1, _⟩ := I1.list hqx
   obtain ⟨its2, rv2, p2, _⟩ := I1.list hqy
   have la : a < s1.heap.objs.size := p1.lt
   have lb : b < s1.heap.objs.size := p2.lt
   refine call_zip_2 p1.isList p2.isList fun h' hz hTI hTO h1 h2 hsz hk => wpAny_pyIter_zip hz ?_
   have I2 : Inv X pins σ H1 { s1 with heap := h' } := I1.kept (t' := s1.toks) hk
   refine ⟨s1.heap.objs.size + 4, [s1.heap.objs.size + 4, s1.heap.objs.size + 2, s1.heap.objs.size + 3, s1.heap.objs.size, s1.heap.objs.size + 1], _, _, H1, rfl, I2, Vk (PySem.W.ktu_apart s1.heap.objs.size a b la lb), ⟨hz, hTI, ⟨_, _, hTO⟩, h1, h2⟩, fun c hcm => ?_, q⟩
   have e' : c = s1.heap.objs.size + 4 \/ c = s1.heap.objs.size + 2 \/ c = s1.heap.objs.size + 3 \/ c = s1.heap.objs.size \/ c = s1.heap.objs.size + 1 := by simpa using hcm
   have hle : s1.heap.objs.size <= c := by
    rcases e' with z | z | z | z | z
    ·rw [z]; exact Nat.le_add_right _ _
    ·rw [z]; exact Nat.le_add_right _ _
    ·rw [z]; exact Nat.le_add_right _ _
    ·rw [z]; exact Nat.le_refl _
    ·rw [z]; exact Nat.le_add_right _ _
   exact I1.Wl hle (I1.hok.fresh hle)
end L2
section 
namespace Bits
open PySem PyProof.Rows
theorem zS {x : Int} (k : Nat) (hx : 0 <= x) : Builtin.bitAnd x (2 ^ k - 1) = x % 2 ^ k := by
 obtain ⟨n, rfl⟩ := Int.eq_ofNat_of_zero_le hx
 have hp : 0 < 2 ^ k := Nat.two_pow_pos k
 rw [two_pow_cast]
 have e : ((2 ^ k : Nat) : Int) - 1 = ((2 ^ k - 1 : Nat) : Int) := by
  generalize (2 : Nat) ^ k = m at hp
  lia
 rw [e, bitAnd_pp (by lia) (by lia), Int.toNat_natCast, Int.toNat_natCast, Nat.and_two_pow_sub_one_eq_mod]
 first
  | rfl
  | exact Int.natCast_emod _ _
  | simp
end Bits
end 
section 
end 
section
set_option maxHeartbeats 2000000
namespace L2
open PySem PySem.Spec PyProof.Rows
open PySem.W (WData Codec OpenSpec Well WellAll ReadsW ReadsAllW)
mutual
/-- x stands for the datum d, lists and tuples all the way -/
inductive Dw (K : PySem.W.Frag) (H : Hp) : V -> WData -> Prop
 | non : Dw K H .non .none
 | bl (b : Bool) : Dw K H (.bl b) (.bool b)
 | int (i : Int) : Dw K H (.int i) (.int i)
 | str (x : Str) : Dw K H (.str x) (.str x)
 | byt (b : Array UInt8) : Dw K H (.byt b) (.bytes b.toList)
 | lst {a : Addr} {xs : List V} {ds : List WData} : SqL K H a xs -> vt K H xs ds -> Dw K H (.ref a) (.list ds)
 | tup {a : Addr} {xs : List V} {ds : List WData} : SqT K H a xs -> vt K H xs ds -> Dw K H (.ref a) (.tuple ds)
inductive vt (K : PySem.W.Frag) (H : Hp) : List V -> List WData -> Prop
 | nil : vt K H [] []
 | cons {v : V} {vs : List V} {d : WData} {ds : List WData} : Dw K H v d -> vt K H vs ds -> vt K H (v :: vs) (d :: ds)
end
theorem j9 {K : PySem.W.Frag} {H : Hp} : ∀ ns : List Int, vt K H (ns.map V.int) (ns.map WData.int)
 | [] => .nil
 | n :: r => .cons (.int n) (j9 r)
section
variable {P : Program} {w : World} {K : PySem.W.Frag} {H : Hp} {h : Heap} {R : PySem.W.WRecords} {cl : Str -> Option Addr}
theorem Z4 {a : Addr} {xs : List V} (hok : HOk P w H h) (KX : K.In h) (q : SqL K H a xs) : ∃ (its : List Value) (o : Obj) (n : Nat), Vals xs its /\ h.get? a = some o /\ o.cls = .type "list" /\ o.data = .seq its.toArray n := by
 rcases q with q | ⟨o, its, n, e, hc, _, hd, _, hv⟩
 ·obtain ⟨_, its, n, hv, e⟩ := (show vD P w H h a (.lst xs) from q.ok hok)
  exact ⟨its, _, n, hv, e, rfl, rfl⟩
 ·exact ⟨its.toList, o, n, hv, KX _ _ e, hc, by simp [hd]⟩
theorem Zx {a : Addr} {xs : List V} (hok : HOk P w H h) (KX : K.In h) (q : SqT K H a xs) : ∃ (its : List Value) (o : Obj) (n : Nat), Vals xs its /\ h.get? a = some o /\ o.cls = .type "tuple" /\ o.data = .seq its.toArray n := by
 rcases q with q | ⟨o, its, n, e, hc, hd, _, hv⟩
 ·obtain ⟨_, its, hv, o, e, hc, n, hd⟩ := (show vD P w H h a (.tup xs) from q.ok hok)
  exact ⟨its, o, n, hv, e, hc, hd⟩
 ·exact ⟨its.toList, o, n, hv, KX _ _ e, hc, by simp [hd]⟩
mutual
theorem Dw.reads (hok : HOk P w H h) (KX : K.In h) : ∀ (d : WData) (v : V) (u : Value), Dw K H v d -> RelV v u -> ∃ as, ReadsW R cl h u d as
 | .none, _, _, x, r => by
  cases x
  cases r
  exact ⟨_, ReadsW.none⟩
 | .bool b, _, _, x, r => by
  cases x
  cases r
  exact ⟨_, ReadsW.bool b⟩
 | .int i, _, _, x, r => by
  cases x
  obtain ⟨t, rfl⟩ := r
  exact ⟨_, ReadsW.int i t⟩
 | .str s, _, _, x, r => by
  cases x
  obtain ⟨t, rfl⟩ := r
  exact ⟨_, ReadsW.str s t⟩
 | .bytes b, _, _, x, r => by
  cases x
  obtain ⟨t, rfl⟩ := r
  exact ⟨_, ReadsW.bytes _ t⟩
 | .list ds, _, _, x, r => by
  cases x with
  | lst hs ha =>
   cases r
   obtain ⟨its, o, n, rv, ho, hc, hd⟩ := Z4 hok KX hs
   obtain ⟨as, hr⟩ := Dw.readsAll hok KX ds _ its ha rv
   exact ⟨_, ReadsW.list ho hc hd hr⟩
 | .tuple ds, _, _, x, r => by
  cases x with
  | tup hs ha =>
   cases r
   obtain ⟨its, o, n, rv, ho, hc, hd⟩ := Zx hok KX hs
   obtain ⟨as, hr⟩ := Dw.readsAll hok KX ds _ its ha rv
   exact ⟨_, ReadsW.tuple ho hc hd hr⟩
 | .float _, _, _, x, _ => by cases x
 | .dict _, _, _, x, _ => by cases x
 | .bytearray _, _, _, x, _ => by cases x
 | .set _, _, _, x, _ => by cases x
 | .frozenset _, _, _, x, _ => by cases x
 | .obj _ _, _, _, x, _ => by cases x
theorem Dw.readsAll (hok : HOk P w H h) (KX : K.In h) : ∀ (ds : List WData) (vs : List V) (us : List Value), vt K H vs ds -> Vals vs us -> ∃ as, ReadsAllW R cl h us ds as
 | [], _, _, x, r => by
  cases x
  cases r
  exact ⟨_, ReadsAllW.nil⟩
 | d :: ds, _, _, x, r => by
  cases x with
  | cons h1 h2 =>
   cases r with
   | cons r1 r2 =>
    obtain ⟨as, q1⟩ := Dw.reads hok KX d _ _ h1 r1
    obtain ⟨bs, q2⟩ := Dw.readsAll hok KX ds _ _ h2 r2
    exact ⟨_, ReadsAllW.cons q1 q2⟩
end
end
mutual
/-- data that a codec tells -/
noncomputable def plW : WData -> Bool
 | .none => true
 | .bool _ => true
 | .int _ => true
 | .str _ => true
 | .bytes _ => true
 | .list xs => zZ xs
 | .tuple xs => zZ xs
 | _ => false
noncomputable def zZ : List WData -> Bool
 | [] => true
 | x :: r => plW x && zZ r
end
theorem uT {α : Type} {f : α -> WData} (h : ∀ a, plW (f a) = true) : ∀ l : List α, zZ (l.map f) = true
 | [] => rfl
 | x :: r => by
  show (plW (f x) && zZ (r.map f)) = true
  rw [h x, uT h r] <;> rfl
theorem wI : ∀ (c : Codec) (a : c.denote), plW (c.enc a) = true
 | .unit, _ => rfl
 | .bool, _ => rfl
 | .int _ _, _ => rfl
 | .nat _ _, _ => rfl
 | .u8, _ => rfl
 | .bytes _ _, _ => rfl
 | .text _ _ _ _, _ => rfl
 | .list _ _ c, a => uT (fun x => wI c x) a
 | .pair c d, a => by
  show (plW (c.enc a.1) && (plW (d.enc a.2) && true)) = true
  rw [wI c a.1, wI d a.2] <;> rfl
 | .triple c d e, a => by
  show (plW (c.enc a.1) && (plW (d.enc a.2.1) && (plW (e.enc a.2.2) && true))) = true
  rw [wI c a.1, wI d a.2.1, wI e a.2.2] <;> rfl
 | .option c, none => rfl
 | .option c, some x => wI c x
theorem xu : ∀ (cs : List Codec) (a : Codec.denoteAll cs), zZ (Codec.encAll cs a) = true
 | [], _ => rfl
 | c :: cs, a => by
  show (plW (c.enc a.1) && zZ (Codec.encAll cs a.2)) = true
  rw [wI c a.1, xu cs a.2] <;> rfl
theorem ze : ∀ {xs : List WData} {d : WData}, d ∈ xs -> d.weight <= WData.weightAll xs
 | [], d, h => absurd h (by simp)
 | x :: r, d, h => by
  show d.weight <= x.weight + 1 + WData.weightAll r
  rcases List.mem_cons.mp h with e | m
  ·rw [e]
   lia
  ·have z := ze m
   lia
noncomputable def toV : Value -> V
 | .none => .non
 | .bool b => .bl b
 | .int i _ => .int i
 | .str x _ => .str x
 | .bytes b _ => .byt b
 | .ref a => .ref a
 | _ => .non
noncomputable def OkU (A : List Addr) : Value -> Prop
 | .none => True
 | .bool _ => True
 | .int _ _ => True
 | .str _ _ => True
 | .bytes _ _ => True
 | .ref a => a ∈ A
 | _ => False
theorem OkU.mono {A B : List Addr} (h : ∀ a ∈ A, a ∈ B) : ∀ {u : Value}, OkU A u -> OkU B u := fun {u} x => by
 cases u with
 | ref a => exact h a x
 | none => trivial
 | bool b => trivial
 | int i t => trivial
 | str s t => trivial
 | bytes b t => trivial
 | _ => exact False.elim x
theorem Q7 {A : List Addr} {u : Value} (x : OkU A u) : RelV (toV u) u := by
 cases u with
 | ref a => rfl
 | none => rfl
 | bool b => rfl
 | int i t => exact ⟨t, rfl⟩
 | str s t => exact ⟨t, rfl⟩
 | bytes b t => exact ⟨t, rfl⟩
 | _ => exact False.elim x
theorem wd {A : List Addr} : ∀ {vs : List Value}, (∀ u ∈ vs, OkU A u) -> Vals (vs.map toV) vs
 | [], _ => .nil
 | u :: r, h => .cons (Q7 (h u (List.mem_cons_self ..))) (wd fun x hx => h x (List.mem_cons_of_mem _ hx))
noncomputable def wG (h : Heap) (A : List Addr) (a : Addr) : Prop := ∃ vs : List Value, vs.length <= sizeLine /\ (∀ u ∈ vs, OkU A u) /\
 (h.get? a = some { cls := .type "list", data := .seq vs.toArray } \/ h.get? a = some { cls := .type "tuple", data := .seq vs.toArray })
theorem wG.mono {h : Heap} {A B : List Addr} {a : Addr} (k : ∀ a ∈ A, a ∈ B) (x : wG h A a) : wG h B a := by
 obtain ⟨vs, h1, h2, h3⟩ := x
 exact ⟨vs, h1, fun u hu => (h2 u hu).mono k, h3⟩
theorem vU {P : Params} {h : Heap} : ∀ {vs : List Value} {ds : List WData}, WellAll P h vs ds -> vs.length = ds.length
 | _, _, .nil => rfl
 | _, _, .cons _ b => by
  show _ + 1 = _ + 1
  rw [vU b]
theorem xo {P : Params} {h : Heap} {v : Value} {ds : List WData} (x : Well P h v (.list ds)) : ∃ (a : Addr) (vs : List Value), v = .ref a /\ h.get? a = some { cls := .type "list", data := .seq vs.toArray } /\ WellAll P h vs ds := by
 cases x with
 | list ho hall => exact ⟨_, _, rfl, ho, hall⟩
theorem yY {P : Params} {h : Heap} {v : Value} {ds : List WData} (x : Well P h v (.tuple ds)) : ∃ (a : Addr) (vs : List Value), v = .ref a /\ h.get? a = some { cls := .type "tuple", data := .seq vs.toArray } /\ WellAll P h vs ds := by
 cases x with
 | tuple ho hall => exact ⟨_, _, rfl, ho, hall⟩
theorem xm {P : Params} {h : Heap} {us : List Value} {d : WData} {ds : List WData} (x : WellAll P h us (d :: ds)) : ∃ (v : Value) (vs : List Value), us = v :: vs /\ Well P h v d /\ WellAll P h vs ds := by
 cases x with
 | cons a b => exact ⟨_, _, rfl, a, b⟩
theorem Qc {n : Nat} (h : n <= 1048576) : n <= sizeLine := Nat.le_trans h (by decide)
section
variable {P : Params} {h : Heap}
mutual
theorem Vl : ∀ (d : WData) (v : Value), Well P h v d -> plW d = true -> d.weight <= 1048576 -> ∃ A : List Addr, OkU A v /\ ∀ a ∈ A, wG h A a
 | .none, _, x, _, _ => by
  cases x
  exact ⟨[], trivial, fun a m => absurd m (by simp)⟩
 | .bool b, _, x, _, _ => by
  cases x
  exact ⟨[], trivial, fun a m => absurd m (by simp)⟩
 | .int i, _, x, _, _ => by
  cases x
  exact ⟨[], trivial, fun a m => absurd m (by simp)⟩
 | .str s, _, x, _, _ => by
  cases x
  exact ⟨[], trivial, fun a m => absurd m (by simp)⟩
 | .bytes b, _, x, _, _ => by
  cases x
  exact ⟨[], trivial, fun a m => absurd m (by simp)⟩
 | .list ds, _, x, p, z => by
  obtain ⟨a, vs, rfl, ho, hall⟩ := xo x
  have z2 : WData.weightAll ds <= 1048576 := z
  obtain ⟨A, h1, h2⟩ := zA ds _ hall p fun d hd => Nat.le_trans (ze hd) z2
  have k : ∀ b ∈ A, b ∈ a :: A := fun b hb => List.mem_cons_of_mem _ hb
  refine ⟨a :: A, List.mem_cons_self .., fun b hb => ?_⟩
  rcases List.mem_cons.mp hb with e | m
  ·rw [e]
   exact ⟨vs, Qc (by rw [vU hall]; exact Nat.le_trans (PySem.W.length_le_weightAllW ds) z2), fun u hu => (h1 u hu).mono k, .inl ho⟩
  ·exact (h2 b m).mono k
 | .tuple ds, _, x, p, z => by
  obtain ⟨a, vs, rfl, ho, hall⟩ := yY x
  have z2 : WData.weightAll ds <= 1048576 := z
  obtain ⟨A, h1, h2⟩ := zA ds _ hall p fun d hd => Nat.le_trans (ze hd) z2
  have k : ∀ b ∈ A, b ∈ a :: A := fun b hb => List.mem_cons_of_mem _ hb
  refine ⟨a :: A, List.mem_cons_self .., fun b hb => ?_⟩
  rcases List.mem_cons.mp hb with e | m
  ·rw [e]
   exact ⟨vs, Qc (by rw [vU hall]; exact Nat.le_trans (PySem.W.length_le_weightAllW ds) z2), fun u hu => (h1 u hu).mono k, .inr ho⟩
  ·exact (h2 b m).mono k
 | .float _, _, _, p, _ => Bool.noConfusion (show false = true from p)
 | .dict _, _, _, p, _ => Bool.noConfusion (show false = true from p)
 | .bytearray _, _, _, p, _ => Bool.noConfusion (show false = true from p)
 | .set _, _, _, p, _ => Bool.noConfusion (show false = true from p)
 | .frozenset _, _, _, p, _ => Bool.noConfusion (show false = true from p)
 | .obj _ _, _, _, p, _ => Bool.noConfusion (show false = true from p)
theorem zA : ∀ (ds : List WData) (vs : List Value), WellAll P h vs ds -> zZ ds = true -> (∀ d ∈ ds, d.weight <= 1048576) -> ∃ A : List Addr, (∀ u ∈ vs, OkU A u) /\ ∀ a ∈ A, wG h A a
 | [], _, x, _, _ => by
  cases x
  exact ⟨[], fun u m => absurd m (by simp), fun a m => absurd m (by simp)⟩
 | d :: ds, _, x, p, z => by
  obtain ⟨v, vs, rfl, x1, x2⟩ := xm x
  have q : plW d = true /\ zZ ds = true := Bool.and_eq_true_iff.mp p
  obtain ⟨A, a1, a2⟩ := Vl d v x1 q.1 (z d (List.mem_cons_self ..))
  obtain ⟨B, b1, b2⟩ := zA ds vs x2 q.2 fun e he => z e (List.mem_cons_of_mem _ he)
  have kA : ∀ b ∈ A, b ∈ A ++ B := fun b hb => List.mem_append.mpr (.inl hb)
  have kB : ∀ b ∈ B, b ∈ A ++ B := fun b hb => List.mem_append.mpr (.inr hb)
  refine ⟨A ++ B, fun u hu => ?_, fun b hb => ?_⟩
  ·rcases List.mem_cons.mp hu with e | m
   ·rw [e]
    exact a1.mono kA
   ·exact (b1 u m).mono kB
  ·rcases List.mem_append.mp hb with m | m
   ·exact (a2 b m).mono kA
   ·exact (b2 b m).mono kB
end
end
noncomputable def WU (o : Obj) : Option HO := match o.data with
 | .seq vs _ => if (o.cls == Value.type "list") = true then some (.frz o (.lst (vs.toList.map toV))) else some (.frz o (.tup (vs.toList.map toV)))
 | _ => none
noncomputable def wq (K : PySem.W.Frag) (h : Heap) (A : List Addr) : Hp := fun b => if b ∈ A then (if (K.lookup b).isNone = true then (h.get? b).bind WU else none) else none
noncomputable def Zh (H : Hp) : Prop := ∀ b, H b = none \/ ∃ o u, H b = some (.frz o u)
theorem u4 (vs : List Value) : WU { cls := .type "list", data := .seq vs.toArray } = some (.frz { cls := .type "list", data := .seq vs.toArray } (.lst (vs.map toV))) := by
 show (if (Value.type "list" == Value.type "list") = true then some (HO.frz { cls := .type "list", data := .seq vs.toArray } (.lst (vs.toArray.toList.map toV))) else some (HO.frz { cls := .type "list", data := .seq vs.toArray } (.tup (vs.toArray.toList.map toV)))) = _
 rw [if_pos (beq_self_eq_true _)]
theorem uC (vs : List Value) : WU { cls := .type "tuple", data := .seq vs.toArray } = some (.frz { cls := .type "tuple", data := .seq vs.toArray } (.tup (vs.map toV))) := by
 show (if (Value.type "tuple" == Value.type "list") = true then some (HO.frz { cls := .type "tuple", data := .seq vs.toArray } (.lst (vs.toArray.toList.map toV))) else some (HO.frz { cls := .type "tuple", data := .seq vs.toArray } (.tup (vs.toArray.toList.map toV)))) = _
 rw [if_neg (by decide)]
section
variable {P : Program} {w : World} {K : PySem.W.Frag} {h : Heap} {A : List Addr}
theorem yb {b : Addr} {o : Obj} (hb : b ∈ A) (hk : K.lookup b = none) (e : h.get? b = some o) : wq K h A b = WU o := by
 unfold wq
 rw [if_pos hb, hk, if_pos (show (none : Option Obj).isNone = true from rfl), e] <;> rfl
theorem WH {b : Addr} {u : HO} (q : wq K h A b = some u) : b ∈ A /\ K.lookup b = none := by
 unfold wq at q
 by_cases hb : b ∈ A
 ·rw [if_pos hb] at q
  cases hk : K.lookup b with
  | none => exact ⟨hb, rfl⟩
  | some o =>
   rw [hk, if_neg (by simp)] at q
   cases q
 ·rw [if_neg hb] at q
  cases q
theorem z8 (ar : ∀ a ∈ A, wG h A a) {b : Addr} {u : HO} (q : wq K h A b = some u) : K.lookup b = none /\ ∃ vs : List Value, vs.length <= sizeLine /\ (∀ u ∈ vs, OkU A u) /\
    ((h.get? b = some { cls := .type "list", data := .seq vs.toArray } /\ u = .frz { cls := .type "list", data := .seq vs.toArray } (.lst (vs.map toV))) \/
     (h.get? b = some { cls := .type "tuple", data := .seq vs.toArray } /\ u = .frz { cls := .type "tuple", data := .seq vs.toArray } (.tup (vs.map toV)))) := by
  obtain ⟨hb, hk⟩ := WH q
  obtain ⟨vs, h1, h2, h3⟩ := ar b hb
  refine ⟨hk, vs, h1, h2, ?_⟩
  rcases h3 with e | e
  · rw [yb hb hk e, u4] at q
    exact .inl ⟨e, (Option.some.inj q).symm⟩
  · rw [yb hb hk e, uC] at q
    exact .inr ⟨e, (Option.some.inj q).symm⟩
theorem QU (ar : ∀ a ∈ A, wG h A a) : Zh (wq K h A) := fun b => by
 cases q : wq K h A b with
 | none => exact .inl rfl
 | some u =>
  obtain ⟨_, vs, _, _, ⟨_, e⟩ | ⟨_, e⟩⟩ := z8 ar q
  ·exact .inr ⟨_, _, by rw [e]⟩
  ·exact .inr ⟨_, _, by rw [e]⟩
theorem WC (ar : ∀ a ∈ A, wG h A a) : HOk P w (wq K h A) h := fun b u q => by
 obtain ⟨_, vs, h1, h2, ⟨e, rfl⟩ | ⟨e, rfl⟩⟩ := z8 ar q
 ·exact ⟨e, by rw [List.length_map]; exact h1, vs, _, wd h2, e⟩
 ·exact ⟨e, by rw [List.length_map]; exact h1, vs, wd h2, _, e, rfl, _, rfl⟩
theorem yf {c c' : Value} {vs us : List Value} (e : (some { cls := c, data := .seq vs.toArray } : Option Obj) = some { cls := c', data := .seq us.toArray }) : c = c' /\ vs = us := by
 have e1 := Option.some.inj e
 have e2 : c = c' := congrArg Obj.cls e1
 have e3 : Data.seq vs.toArray = Data.seq us.toArray := congrArg Obj.data e1
 injection e3 with e4
 refine ⟨e2, ?_⟩
 have e5 := congrArg Array.toList e4
 simpa using e5
theorem Xj (KX : K.In h) (ar : ∀ a ∈ A, wG h A a) {a : Addr} {vs : List Value} (ha : a ∈ A) (e : h.get? a = some { cls := .type "list", data := .seq vs.toArray }) : (∀ u ∈ vs, OkU A u) /\ SqL K (wq K h A) a (vs.map toV) := by
 obtain ⟨us, h1, h2, h3⟩ := ar a ha
 have hu : us = vs := by
  rcases h3 with q | q
  ·rw [e] at q
   exact (yf q).2.symm
  ·rw [e] at q
   exact absurd (Value.type.inj (yf q).1) (by decide)
 subst hu
 refine ⟨h2, ?_⟩
 cases hk : K.lookup a with
 | none => exact .inl (.inr ⟨_, by rw [yb ha hk e, u4]⟩)
 | some o =>
  have e2 := KX a o hk
  rw [e] at e2
  obtain rfl := Option.some.inj e2
  exact .inr ⟨_, us.toArray, _, hk, rfl, rfl, rfl, by rw [List.size_toArray]; exact h1, by simpa using wd h2⟩
theorem Xe (KX : K.In h) (ar : ∀ a ∈ A, wG h A a) {a : Addr} {vs : List Value} (ha : a ∈ A) (e : h.get? a = some { cls := .type "tuple", data := .seq vs.toArray }) : (∀ u ∈ vs, OkU A u) /\ SqT K (wq K h A) a (vs.map toV) := by
 obtain ⟨us, h1, h2, h3⟩ := ar a ha
 have hu : us = vs := by
  rcases h3 with q | q
  ·rw [e] at q
   exact absurd (Value.type.inj (yf q).1) (by decide)
  ·rw [e] at q
   exact (yf q).2.symm
 subst hu
 refine ⟨h2, ?_⟩
 cases hk : K.lookup a with
 | none => exact .inl (.inr ⟨_, by rw [yb ha hk e, uC]⟩)
 | some o =>
  have e2 := KX a o hk
  rw [e] at e2
  obtain rfl := Option.some.inj e2
  exact .inr ⟨_, us.toArray, _, hk, rfl, rfl, by rw [List.size_toArray]; exact h1, by simpa using wd h2⟩
mutual
theorem Zw {Pm : Params} (KX : K.In h) (ar : ∀ a ∈ A, wG h A a) : ∀ (d : WData) (v : Value), Well Pm h v d -> plW d = true -> OkU A v -> Dw K (wq K h A) (toV v) d
 | .none, _, x, _, _ => by
  cases x
  exact .non
 | .bool b, _, x, _, _ => by
  cases x
  exact .bl b
 | .int i, _, x, _, _ => by
  cases x
  exact .int i
 | .str s, _, x, _, _ => by
  cases x
  exact .str s
 | .bytes b, _, x, _, _ => by
  cases x
  have z := Dw.byt (K := K) (H := wq K h A) b.toArray
  exact z
 | .list ds, _, x, p, hu => by
  obtain ⟨a, vs, rfl, ho, hall⟩ := xo x
  obtain ⟨h2, hs⟩ := Xj KX ar hu ho
  exact .lst hs (xS KX ar ds _ hall p h2)
 | .tuple ds, _, x, p, hu => by
  obtain ⟨a, vs, rfl, ho, hall⟩ := yY x
  obtain ⟨h2, hs⟩ := Xe KX ar hu ho
  exact .tup hs (xS KX ar ds _ hall p h2)
 | .float _, _, _, p, _ => Bool.noConfusion (show false = true from p)
 | .dict _, _, _, p, _ => Bool.noConfusion (show false = true from p)
 | .bytearray _, _, _, p, _ => Bool.noConfusion (show false = true from p)
 | .set _, _, _, p, _ => Bool.noConfusion (show false = true from p)
 | .frozenset _, _, _, p, _ => Bool.noConfusion (show false = true from p)
 | .obj _ _, _, _, p, _ => Bool.noConfusion (show false = true from p)
theorem xS {Pm : Params} (KX : K.In h) (ar : ∀ a ∈ A, wG h A a) : ∀ (ds : List WData) (vs : List Value), WellAll Pm h vs ds -> zZ ds = true -> (∀ u ∈ vs, OkU A u) -> vt K (wq K h A) (vs.map toV) ds
 | [], _, x, _, _ => by
  cases x
  exact .nil
 | d :: ds, _, x, p, hu => by
  obtain ⟨v, vs, rfl, x1, x2⟩ := xm x
  have q : plW d = true /\ zZ ds = true := Bool.and_eq_true_iff.mp p
  exact .cons (Zw KX ar d v x1 q.1 (hu _ (List.mem_cons_self ..))) (xS KX ar ds vs x2 q.2 fun u m => hu u (List.mem_cons_of_mem _ m))
end
end
theorem yS {ds : List WData} (h : WData.layableAll ds = true) : ∀ d ∈ ds, d.weight <= 1048576 := fun d hd =>
 (PySem.W.layableW_iff.mp (List.all_eq_true.mp h d hd)).2.2
theorem yw : ∀ (cs : List Codec) (a : Codec.denoteAll cs), (Codec.encAll cs a).length = cs.length
 | [], _ => rfl
 | c :: cs, a => by
  show (Codec.encAll cs a.2).length + 1 = cs.length + 1
  rw [yw cs a.2]
end L2
end
section
namespace L2
open PySem PySem.Spec PyProof.Rows
noncomputable def qG (s : Stmt) : Arguments := match s with
 | .FunctionDef _ a _ _ _ _ _ _ _ _ => a
 | _ => { posonlyargs := [], args := [], vararg := none, kwonlyargs := [], kw_defaults := [], kwarg := none, defaults := [] }
noncomputable def qp (s : Stmt) : List Stmt := match s with
 | .FunctionDef _ _ b _ _ _ _ _ _ _ => b
 | _ => []
noncomputable def qa (s : Stmt) : Scope := match s with
 | .FunctionDef _ _ _ _ _ _ sc _ _ _ => sc
 | _ => { kind := .function, names := [], isGenerator := false, isCoroutine := false }
structure Fun (K : PySem.W.Frag) (x qual : Str) (st : Stmt) (f : Addr) (fd : FuncData) : Prop where
 ex : ∃ (oc : Value) (od : Option Addr) (kV doc pm : Value) (an : Option Addr) (cdv ct : Value) (osl : Array (Option Value)),
  fd = PySem.W.fnOf x qual (qG st) (qp st) (qa st) .none kV doc pm an cdv ct /\ K.lookup f = some ⟨oc, od, .func fd, osl⟩ /\ PySem.W.codeIn K cdv qual = true
 kp : PySem.W.keepIn K (.ref f) = true
section
variable {P : Program} {w : World} {K : PySem.W.Frag} {mg : Str -> Option Value} {base : Heap}
theorem Fun.binds {x qual : Str} {st : Stmt} {f : Addr} {fd : FuncData} {ps : List Str} (F : Fun K x qual st f fd)
  (h : ∀ (kV doc pm : Value) (an : Option Addr) (cdv ct : Value) (us : List Value), us.length = ps.length -> bindArgs (PySem.W.fnOf x qual (qG st) (qp st) (qa st) .none kV doc pm an cdv ct) ⟨us, []⟩ = pure (ps.zip us)) : Binds K fd ps [] := by
 obtain ⟨oc, od, kV, doc, pm, an, cdv, ct, osl, rfl, lk, hcd⟩ := F.ex
 exact .all (h kV doc pm an cdv ct)
theorem vp {x qual : Str} {st : Stmt} {f : Addr} {oc : Value} {od an : Option Addr} {osl : Array (Option Value)} {kV doc pm cdv ct : Value} (l : K.lookup f = some ⟨oc, od, .func (PySem.W.fnOf x qual (qG st) (qp st) (qa st) .none kV doc pm an cdv ct), osl⟩)
  (c : PySem.W.codeIn K cdv qual = true) (k : PySem.W.keepIn K (.ref f) = true) : Fun K x qual st f (PySem.W.fnOf x qual (qG st) (qp st) (qa st) .none kV doc pm an cdv ct) := ⟨⟨oc, od, kV, doc, pm, an, cdv, ct, osl, rfl, l, c⟩, k⟩
end
noncomputable def qk (H H' : Hp) : Prop := ∀ b o, H b = some o -> H' b = some o
theorem qk.trans {H H1 H2 : Hp} (a : qk H H1) (b : qk H1 H2) : qk H H2 := fun c o h => b c o (a c o h)
theorem qk.free {H H' : Hp} (e : qk H H') {l : Addr} (h : H' l = Option.none) : H l = Option.none := by
 cases q : H l with
 | none => rfl
 | some o =>
  rw [e l o q] at h
  cases h
theorem qk.seq {K : PySem.W.Frag} {H H' : Hp} {a : Addr} {xs : List V} (e : qk H H') (h : SqL K H a xs) : SqL K H' a xs := by
 rcases h with (h | ⟨o, h⟩) | h
 ·exact .inl (.inl (e _ _ h))
 ·exact .inl (.inr ⟨o, e _ _ h⟩)
 ·exact .inr h
end L2
end
namespace L2
open PySem PySem.Spec PyProof.Rows
noncomputable def Rel (X : Cx) (pins : List (Addr × Obj)) (H : Hp) (b : Addr) : Prop :=
 H b ≠ none \/ (∃ o, X.s_0.heap.get? b = some o /\ b ∉ X.ex) \/ (∃ x, X.env.cells.lookup x = some b) \/ b = X.env.locals \/ ∃ p ∈ X.pn ++ pins, p.1 = b
theorem Q1 {P : Program} {w : World} {H : Hp} {h : Heap} {a : Addr} {o : HO} (x : vD P w H h a o) : ∃ ob, h.get? a = some ob := by
 cases o with
 | lst xs => obtain ⟨_, _, _, _, e⟩ := x; exact ⟨_, e⟩
 | tup xs => obtain ⟨_, _, _, ob, p, _⟩ := x; exact ⟨ob, p⟩
 | dK kvs => obtain ⟨_, _, _, _, o, _, _, e, _⟩ := x; exact ⟨_, e⟩
 | dT kvs => obtain ⟨_, _, _, _, o, _, _, e, _⟩ := x; exact ⟨_, e⟩
 | set S n => obtain ⟨o, _, _, _, e, _⟩ := x; exact ⟨_, e⟩
 | ins C dx fs => obtain ⟨_, _, _, e, _⟩ := x; exact ⟨_, e⟩
 | own y => exact x
 | xd fs => obtain ⟨_, ⟨o, _, _, e, _⟩, _⟩ := x; exact ⟨_, e⟩
 | rng lo hi => obtain ⟨_, _, _, e⟩ := x; exact ⟨_, e⟩
 | frz ob u => exact ⟨_, x.1⟩
 | tbl ps => exact ⟨_, x⟩
 | met f y => exact ⟨_, x⟩
 | ext φ => exact x.2.1
section
variable {X : Cx} {pins : List (Addr × Obj)} {σ : St} {H H' : Hp} {s s' : Shared} {h' : Heap}
theorem yi (I : Inv X pins σ H s) {b : Addr} (r : Rel X pins H b) : ∃ o, s.heap.get? b = some o := by
 rcases r with r | ⟨o, e, hx⟩ | ⟨x, e⟩ | rfl | ⟨p, hp, rfl⟩
 ·cases q : H b with
  | none => exact absurd q r
  | some u => exact Q1 (I.hok b u q)
 ·exact I.base.there b o e hx
 ·obtain ⟨v, o, ho, _⟩ := I.cell x b e
  exact ⟨o, ho⟩
 ·obtain ⟨m, ⟨o, _, _, ho, _⟩, _⟩ := I.loc
  exact ⟨o, ho⟩
 ·exact ⟨_, (I.pin p hp).1⟩
theorem V1 (I : Inv X pins σ H s) {b : Addr} (h : b ∈ X.fs) : b ∈ frs X.stack := by
 rcases I.ok.stk with e | ⟨e, hf⟩
 ·rw [e]; exact h
 ·rw [e]; unfold frs; rw [List.filterMap_cons, hf]; exact List.mem_cons_of_mem _ h
theorem QI {t' : Nat} (I : Inv X pins σ H s) (kp : ∀ b o, Rel X pins H b -> b ∉ frs X.stack -> s.heap.get? b = some o -> h'.get? b = some o)
  (sl : ∀ b o, b ∈ frs X.stack -> s.heap.get? b = some o -> ∃ sl, h'.get? b = some { o with slots := sl }) : Inv X pins σ H { s with heap := h', toks := t' } := by
 have any : ∀ b o, Rel X pins H b -> s.heap.get? b = some o -> ∃ sl, h'.get? b = some { o with slots := sl } := fun b o r e => by
  by_cases hb : b ∈ frs X.stack
  ·exact sl b o hb e
  ·exact ⟨o.slots, kp b o r hb e⟩
 have cellK : ∀ x c, X.env.cells.lookup x = some c -> ∀ v, s.heap.IsCell c v -> h'.IsCell c v := fun x c e v ⟨o, ho, hd⟩ => by
  obtain ⟨sl', q⟩ := any c o (.inr (.inr (.inl ⟨x, e⟩))) ho
  exact ⟨_, q, hd⟩
 refine ⟨I.ok, I.os, I.bare, ⟨fun b o e n hb hx => ?_, fun b o e n hb hx => ?_, I.base.free, fun b o e hx => ?_, I.base.tups, I.base.frzs, I.base.tbls⟩, ?_, fun x c e => ?_, I.free, I.freeC, fun p hp => ?_, fun b u e => ?_, I.len⟩
 ·have q := I.base.keep b o e n hb hx
  refine kp b o (.inr (.inl ⟨o, e, hx⟩)) (fun z => ?_) q
  rcases List.mem_cons.mp (I.wb b z) with z | z
  ·exact absurd (Nat.lt_of_lt_of_le (Heap.lt_size e) I.ok.above) (by rw [z]; exact Nat.lt_irrefl _)
  ·exact hb z
 ·obtain ⟨s1, q⟩ := I.base.slot b o e n hb hx
  obtain ⟨s2, q2⟩ := sl b _ (V1 I hb) q
  exact ⟨s2, q2⟩
 ·obtain ⟨o', q⟩ := I.base.there b o e hx
  obtain ⟨s2, q2⟩ := any b o' (.inr (.inl ⟨o, e, hx⟩)) q
  exact ⟨_, q2⟩
 ·obtain ⟨m, ⟨o, es, ep, ho, r⟩, hl⟩ := I.loc
  obtain ⟨s2, q2⟩ := any _ o (.inr (.inr (.inr (.inl rfl)))) ho
  refine ⟨m, ⟨_, es, ep, q2, r⟩, fun i x v e1 e2 e3 => ?_⟩
  obtain ⟨u, r, l⟩ := hl i x v e1 e2 e3
  refine ⟨u, r, ?_⟩
  rcases l with l | ⟨k, c, e, z⟩
  ·exact .inl l
  ·exact .inr ⟨k, c, e, cellK x c e _ z⟩
 ·obtain ⟨v, z⟩ := I.cell x c e
  exact ⟨v, cellK x c e v z⟩
 ·obtain ⟨e, n, ne, nf, d⟩ := I.pin p hp
  refine ⟨kp p.1 p.2 (.inr (.inr (.inr (.inr ⟨p, hp, rfl⟩)))) (fun z => ?_) e, n, ne, nf, d⟩
  rcases List.mem_cons.mp (I.wb p.1 z) with z | z
  ·exact ne z
  ·exact nf z
 ·refine (I.hok b u e).xi (fun c w hc q => ?_) (fun _ q => q) fun _ _ q => q
  have hne : H c ≠ none := by
   rcases hc with z | z
   ·rw [z, e]; exact fun z => nomatch z
   ·rw [z]; exact fun z => nomatch z
  exact kp c w (.inl hne) (fun z => hne (I.uk c z)) q
end
noncomputable def Trd (h B : Heap) (e : Addr) (cls : Value) : Prop :=
 ∃ oe vs a0, h.get? e = some oe /\ oe.cls = cls /\ oe.data = .fields vs /\ vs[0]? = some a0 /\
  (vs[1]? = some .none \/ ∃ T oT ts f, vs[1]? = some (.ref T) /\ B.get? T = none /\ T ≠ e /\ h.get? T = some oT /\ oT.data = .fields ts /\ ts[3]? = some f)
noncomputable def Vo (h B : Heap) (e : Addr) (cls : Value) : Prop :=
 ∃ oe vs a0, h.get? e = some oe /\ oe.cls = cls /\ oe.data = .fields vs /\ vs[0]? = some a0 /\
  ∃ T oT ts f, vs[1]? = some (.ref T) /\ B.get? T = none /\ T ≠ e /\ h.get? T = some oT /\ oT.data = .fields ts /\ ts[3]? = some f
theorem Vo.trd {h B : Heap} {e : Addr} {cls : Value} (x : Vo h B e cls) : Trd h B e cls := by
 obtain ⟨oe, vs, a0, h1, h2, h3, h4, r⟩ := x
 exact ⟨oe, vs, a0, h1, h2, h3, h4, .inr r⟩
noncomputable def Hand (B : Heap) (l : List Env) (e : Addr) (cls : Value) (h : Heap) : Prop := B.StaysIn h /\ B.get? e = none /\ h.FunFrames B l /\ Trd h B e cls
noncomputable def wC (B : Heap) (l : List Env) (e : Addr) (cls : Value) (h : Heap) : Prop := B.StaysIn h /\ B.get? e = none /\ h.FunFrames B l /\ Vo h B e cls
theorem wC.hand {B : Heap} {l : List Env} {e : Addr} {cls : Value} {h : Heap} (x : wC B l e cls h) : Hand B l e cls h := ⟨x.1, x.2.1, x.2.2.1, x.2.2.2.trd⟩
section
variable {M : Model} {A : Around} {E : Value -> Shared -> Prop} {s : Shared} {B : Heap} {env env' : Env} {outer : List Env} {L e : Addr} {cls : Value} {Q : Unit -> Shared -> Prop}
theorem wg (hfr : A.frames = some (env :: outer)) (hf : env.frame = some L) (hf' : env'.frame = some L) (x : Hand B (env :: outer) e cls s.heap)
  (h : ∀ h', wC B (env :: outer) e cls h' -> s.heap.UpToSlots h' -> Q () { s with heap := h' }) : wpAny M A (noteFrame (.ref e) env') Q E s := by
 have en : noteFrame (.ref e) env' = noteFrame (.ref e) env := by
  unfold noteFrame PySem.frameOf
  rw [hf, hf']
 rw [en]
 obtain ⟨kb, hen, hl, oe, vs, a0, he, hcls, hd, h0, r⟩ := x
 subst hcls
 have fin : ∀ h', Heap.NotedW B (env :: outer) e oe.cls a0 (rawInt L) s.heap h' -> Q () { s with heap := h' } := fun h' ⟨k1, k2, k3, k4⟩ => by
  obtain ⟨oe', vs', T, oT, ts, g1, g2, g3, g4, g5, g6, g7, g8, g9⟩ := k3
  exact h h' ⟨k1, hen, k2, oe', vs', a0, g1, g2.1, g3, g2.2, T, oT, ts, _, g4, g5, g6, g7, g8, g9⟩ k4
 rcases r with h1 | ⟨T, oT, ts, f, h1, hnT, hTe, hT, hdT, h3⟩
 ·unfold noteFrame
  simp only [hf]
  refine wpAny_bind (wpAny_field he hd h1 ?_)
  rw [if_neg (by decide)]
  exact wpAny_entryW hfr hl hf he kb hen hd (Array.getElem?_eq_some_iff.mp h1).1 h0 fin
 ·unfold noteFrame
  simp only [hf]
  refine wpAny_bind (wpAny_field he hd h1 ?_)
  rw [if_pos (show (Value.ref T != Value.none) = true from by simp)]
  refine wpAny_bind (wpAny_field hT hdT h3 ?_)
  by_cases hc : (f == rawInt L) = true
  ·rw [if_pos hc]
   exact wpAny_pure (h s.heap ⟨kb, hen, hl, oe, vs, a0, he, rfl, hd, h0, T, oT, ts, f, h1, hnT, hTe, hT, hdT, h3⟩ (.refl _))
  ·rw [if_neg hc]
   refine wpAny_bind (wpAny_setField hT hdT (Array.getElem?_eq_some_iff.mp h3).1 ?_)
   have other : ∀ b, b ≠ T -> (s.heap.update T (Obj.mapFields (·.setIfInBounds 3 Value.none))).get? b = s.heap.get? b := fun b hb => Heap.get?_update_other _ _ (Ne.symm hb)
   have noRecord : ∀ b o, s.heap.get? b = some o -> (∀ vs, o.data ≠ .fields vs) -> b ≠ T := fun b o hb hnf q => by
    rw [q, hT] at hb; injection hb with hb; subst hb; exact hnf ts hdT
   refine wpAny_entryW hfr (hl.of_keeps fun b o hb hnf => ⟨o, (other b (noRecord b o hb hnf)).trans hb, rfl⟩) hf ((other e (Ne.symm hTe)).trans he)
    (fun b o hbo => (other b fun q => by rw [q, hnT] at hbo; cases hbo).trans (kb b o hbo)) hen hd (Array.getElem?_eq_some_iff.mp h1).1 h0
    fun h' ⟨x1, x2, x3, x4⟩ => fin h' ⟨x1, x2, x3, fun b o hb hnf => x4 b o ((other b (noRecord b o hb hnf)).trans hb) hnf⟩
theorem vg {l : List Env} {fr : Option Addr} (x : wC B l e cls s.heap) (h : ∀ h', wC B l e cls h' -> s.heap.UpToSlots h' -> Q () { s with heap := h' }) : wpAny M A (setFlight (.ref e) fr) Q E s := by
 obtain ⟨kb, hen, hl, oe, vs, a0, he, hcls, hd, h0, T, oT, ts, f, h1, hnT, hTe, hT, hdT, h3⟩ := x
 have hsz : 3 < ts.size := (Array.getElem?_eq_some_iff.mp h3).1
 unfold setFlight
 refine wpAny_bind (wpAny_field he hd h1 ?_)
 rw [if_pos (show (Value.ref T != Value.none) = true from by simp)]
 refine wpAny_setField hT hdT hsz ?_
 have other : ∀ (v : Value) b, b ≠ T -> (s.heap.update T (Obj.mapFields (·.setIfInBounds 3 v))).get? b = s.heap.get? b := fun v b hb => Heap.get?_update_other _ _ (Ne.symm hb)
 have noRecord : ∀ b o, s.heap.get? b = some o -> (∀ vs, o.data ≠ .fields vs) -> b ≠ T := fun b o hb hnf q => by
  rw [q, hT] at hb; injection hb with hb; subst hb; exact hnf ts hdT
 refine h _ ⟨fun b o hbo => (other _ b fun q => by rw [q, hnT] at hbo; cases hbo).trans (kb b o hbo), hen, hl.of_keeps fun b o hb hnf => ⟨o, (other _ b (noRecord b o hb hnf)).trans hb, rfl⟩,
  oe, vs, a0, (other _ e (Ne.symm hTe)).trans he, hcls, hd, h0, T, _, _, fr.elim Value.none fun f => rawInt f, h1, hnT, hTe, Heap.get?_update_self _ hT (Obj.isFreed_of_fields (Obj.data_mapFields hdT _)), Obj.data_mapFields hdT _, Array.getElem?_setIfInBounds_self_of_lt hsz⟩ fun b o hb hn => ⟨o.slots, (other _ b (noRecord b o hb hn)).trans hb⟩
theorem zD {l : List Env} {Q : Value -> Shared -> Prop} (x : wC B l e cls s.heap) (h : ∀ T, Q (.ref T) s) : wpAny M A (field (.ref e) 1) Q E s := by
 obtain ⟨kb, hen, hl, oe, vs, a0, he, hcls, hd, h0, T, oT, ts, f, h1, _⟩ := x
 exact wpAny_field he hd h1 (h T)
end
noncomputable def Arr (X : Cx) (E : XK) (e : Value) (s' : Shared) : Prop :=
 ∃ (a : Addr) (cls : Value) (B : Heap) (H' : Hp) (pins : List (Addr × Obj)) (σ : St), e = .ref a /\ Inv X pins σ H' s' /\ Hand B X.stack a cls s'.heap /\
  (∀ b o, s'.heap.get? b = some o -> b ∉ frs X.stack -> Rel X pins H' b -> B.get? b = some o) /\ E cls none H'
noncomputable def CX1 (P : Program) (w : World) : CXT := fun outer H s E e s' =>
 ∃ (a : Addr) (cls : Value) (B : Heap) (H' : Hp), e = .ref a /\ s'.os = s.os /\ AllBare s'.gens /\ Un (frs outer) [] H H' s.heap s'.heap /\ HOk P w H' s'.heap /\ Hand B outer a cls s'.heap /\
  (∀ b o, s'.heap.get? b = some o -> b ∉ frs outer -> (H' b ≠ none \/ ∃ o', s.heap.get? b = some o') -> B.get? b = some o) /\ E cls none H'
theorem rebase {h base B : Heap} : ∀ {l : List Env}, h.FunFrames base l -> (∀ b ∈ frs l, B.get? b = none) -> h.FunFrames B l
 | [], _, _ => trivial
 | env :: r, ⟨hk, ⟨L, o, hf, _, ho, hd⟩, hr⟩, hB => by
  refine ⟨hk, ⟨L, o, hf, hB L ?_, ho, hd⟩, rebase hr fun b hb => hB b ?_⟩
  ·unfold frs; rw [List.filterMap_cons, hf]; exact List.mem_cons_self
  ·unfold frs; rw [List.filterMap_cons, hf]; exact List.mem_cons_of_mem _ hb
section
variable {X : Cx} {pins : List (Addr × Obj)} {σ : St} {H H' : Hp} {s s' : Shared} {E E' : XK} {e : Value}
theorem Z9 (I : Inv X pins σ H s) (x : CX1 X.prog X.w X.stack H s E e s') : Arr X E e s' := by
 obtain ⟨a, cls, B, H', e1, ho, hg, un, hok, hd, kb, q⟩ := x
 have I' : Inv X pins σ H' s' := I.VX (ch := []) ho un hok hg fun b z => absurd z (by simp)
 refine ⟨a, cls, B, H', pins, σ, e1, I', hd, fun b o hb hf r => kb b o hb hf ?_, q⟩
 rcases r with r | r
 ·exact .inl r
 ·exact .inr (yi I (.inr r))
theorem Qz {cls : Value} {a : Addr} {args : List Value} {h' : Heap} (I : Inv X pins σ H s) (m : Heap.MadeExcOf s.heap h' a cls args) (q : E cls none H) : Arr X E (.ref a) { s with heap := h' } := by
 have I' : Inv X pins σ H { s with heap := h' } := I.kept (t' := s.toks) m.keeps
 have hideN : ∀ b ∈ frs X.stack, (PySem.W.hideAll s.heap (frs X.stack)).get? b = none := fun b hb => PySem.W.hideAll_none _ hb
 refine ⟨a, cls, PySem.W.hideAll s.heap (frs X.stack), H, pins, σ, rfl, I', ⟨fun b o e => m.keeps b o (PySem.W.of_hideAll _ e), ?_, rebase I'.stack hideN, ?_⟩, fun b o hb hf r => ?_, q⟩
 ·cases z : (PySem.W.hideAll s.heap (frs X.stack)).get? a with
  | none => rfl
  | some o =>
   have := PySem.W.of_hideAll _ z
   rw [m.new] at this
   cases this
 ·obtain ⟨t, ht, _, _⟩ := m.there
  exact ⟨_, _, _, ht, rfl, rfl, rfl, .inl rfl⟩
 ·obtain ⟨o', ho'⟩ := yi I r
  have z := m.keeps b o' ho'
  have z2 : h'.get? b = some o := hb
  rw [z] at z2
  cases z2
  exact PySem.W.hideAll_get _ ho' hf
theorem qV {a : Addr} {cls : Value} {B : Heap} {h' : Heap} (I : Inv X pins σ H s) (hd : Hand B X.stack a cls s.heap) (kb : ∀ b o, s.heap.get? b = some o -> b ∉ frs X.stack -> Rel X pins H b -> B.get? b = some o)
  (hd' : Hand B X.stack a cls h') (up : s.heap.UpToSlots h') : Inv X pins σ H { s with heap := h' } /\ ∀ b o, h'.get? b = some o -> b ∉ frs X.stack -> Rel X pins H b -> B.get? b = some o := by
 refine ⟨QI (t' := s.toks) I (fun b o r hf e => hd'.1 b o (kb b o e hf r)) fun b o hf e => ?_, fun b o hb hf r => ?_⟩
 ·obtain ⟨_, o', e', hn⟩ := hd.2.2.1.mem hf
  rw [e] at e'
  cases e'
  exact up b o e hn
 ·obtain ⟨o', e'⟩ := yi I r
  have z := hd'.1 b o' (kb b o' e' hf r)
  rw [hb] at z
  cases z
  exact kb b o e' hf r
end
noncomputable def Acc (X : Cx) (E : XK) : Prop := ∀ e s', Arr X E e s' -> X.xe e s'
theorem yZ {X : Cx} {E : XK} (x : Acc X E) : Passes (CX1 X.prog X.w) X E := fun pins σ H s e s' I h => x e s' (Z9 I h)
theorem j8 {P : Program} {w : World} {K : PySem.W.Frag} {mg : Str -> Option Value} {base : Heap} {N : List Str} {qual : Str} {scope : Scope} {f : Addr} {cd : Value} {A : Around} {outer : List Env} {s : Shared} {H : Hp} {E : XK} :
  Acc (wH (CX1 P w) P w K mg base N qual scope f cd A outer s H E) E := by
 intro e s1 x
 obtain ⟨a, cls, B, H', pins, σ, rfl, I, hd, kb, q⟩ := x
 show wpAny _ _ (leaving _ _) _ _ _
 unfold leaving
 refine wpAny_bind (wg (outer := outer) I.ok.frames rfl rfl hd fun h1 hd1 up1 => ?_)
 obtain ⟨I1, kb1⟩ := qV I hd kb hd1.hand up1
 refine vg hd1 fun h2 hd2 up2 => ?_
 obtain ⟨I2, kb2⟩ := qV I1 hd1.hand kb1 hd2.hand up2
 obtain ⟨g1, g2, ⟨_, _, g3⟩, g4⟩ := hd2.hand
 refine ⟨a, cls, B, H', rfl, I2.os, I2.bare, I2.base, I2.hok, ⟨g1, g2, g3, g4⟩, fun b o hb hf r => kb2 b o hb (fun z => ?_) ?_, q⟩
 ·rcases List.mem_cons.mp (I2.wb b z) with z | z
  ·rcases r with r | ⟨o', r⟩
   ·exact r (by rw [z]; exact I2.free)
   ·exact absurd (Nat.lt_of_lt_of_le (Heap.lt_size r) I2.ok.above) (by rw [z]; exact Nat.lt_irrefl _)
  ·exact hf z
 ·rcases r with r | ⟨o', r⟩
  ·exact .inl r
  ·exact .inr (.inl ⟨o', r, fun z => nomatch z⟩)
noncomputable abbrev vk : List Value := [.type "Exception", .type "BaseException", .type "object"]
noncomputable abbrev wc : String := "Exception.__new__"
noncomputable def ExcAt (h : Heap) (C : Addr) : Prop := ∃ N nm q bs hdct sn sub ab col dd k0 k1 k2 k3 k5 mN,
 h.get? C = some (excClassObj nm q C N bs vk hdct sn sub ab col dd k0 k1 k2 k3 k5 wc) /\ h.Ns N mN /\ mN "__init__" = none
noncomputable def qF (K : PySem.W.Frag) (C : Addr) : Bool := match K.lookup C with
 | some ⟨.type "type", _, .cls cd, sl⟩ => (match sl.toList with
  | [_, _, _, _, some (.builtin n), _] => decide (cd.mro = .ref C :: vk) && decide (n = wc) && (cd.hasDel == false) && (PySem.W.nsOkIn K cd.ns && decide (PySem.W.nsIn K cd.ns "__init__" = some none))
  | _ => false)
 | _ => false
theorem vS {K : PySem.W.Frag} {h : Heap} {C : Addr} (X : K.In h) (q : qF K C = true) : ExcAt h C := by
 unfold qF at q
 split at q
 ·rename_i dd cd sl look
  split at q
  ·rename_i j0 j1 j2 j3 n j5 hsl
   rw [Bool.and_eq_true, Bool.and_eq_true, Bool.and_eq_true, Bool.and_eq_true] at q
   obtain ⟨⟨⟨hm, hn⟩, hdel⟩, hns, hini⟩ := q
   have hm := of_decide_eq_true hm
   have hn := of_decide_eq_true hn
   have hini := of_decide_eq_true hini
   have hdel := eq_of_beq hdel
   obtain ⟨nm, bs, mro, ns, qn, hd, sn, sub, ab, col, del⟩ := cd
   have hm : mro = _ := hm
   have hdel : del = false := hdel
   have hsl2 : sl = #[j0, j1, j2, j3, some (.builtin n), j5] := Array.toList_inj.mp hsl
   subst hm hdel hsl2 hn
   exact ⟨ns, nm, qn, bs, hd, sn, sub, ab, col, dd, j0, j1, j2, j3, j5, _, X _ _ look, .of_isNs (PySem.W.isNs_of_in X hns), PySem.W.nsMap_none_of_in X hns hini⟩
  ·cases q
 ·cases q
section
variable {X : Cx} {E : XK}
noncomputable def Yl (E : XK) (C : Addr) : TS := fun _ _ H => E (.ref C) none H
theorem Vj {x : Str} {C : Addr} {np cpos pos : Pos} (hc : X.calm = true) (acc : Acc X E) (hg : Gl X x) (hm : X.mg x = some (.ref C)) (hC : qF X.K C = true) (hd : (x == ("__debug__" : Str)) = false := by decide) :
  PS X (.Raise (some (.Call (.Name x np) [] [] cpos)) none pos) (Yl E C) := by
 intro pins s σ H D I h
 obtain ⟨N, nm, q, bs, hdct, sn, sub, ab, col, dd, k0, k1, k2, k3, k5, mN, hC, hN, hi⟩ := vS I.kIn hC
 refine wpAny_Raise_call_subT (bmB := vk) (C := C) (N := N) (mN := mN) (newId := wc) (nm := nm) (q := q) (bs := bs) (bm := vk) (hdct := hdct) (sn := sn) (sub := sub) (ab := ab) (col := col) (dd := dd) (k0 := k0) (k1 := k1) (k2 := k2) (k3 := k3) (k5 := k5) PySem.F.excBase_Exception (by decide) (I.ok.hd hc) rfl hi ?_
 refine zy I hg hm ⟨rfl, PySem.evalArgs_none ⟨rfl, by show 0 <= sizeLine; decide, hC, hN, .base, fun h' e m => ?_⟩⟩ hd
 exact acc _ _ (Qz I m h)
end
structure zC (sc ls : Scope) : Prop where
 kind : ls.kind = .function
 co : ls.isCoroutine = false
 gen : ls.isGenerator = false
 only : ∀ y ∈ ls.names, y.2 = .free \/ y.2 = .globalImplicit
 uniq : ∀ y ∈ ls.names, ls.names.lookup y.1 = some y.2
 free : ∀ y ∈ ls.names, y.2 = .free -> sc.names.lookup y.1 = some .cell
noncomputable abbrev zi (X : Cx) (qual : Str) (ls : Scope) (f : Addr) (cd : Value) (s : Shared) : Env := PySem.W.envX qual ls s.heap.objs.size f cd (ql X.env.cells ls.names [])
noncomputable def yt (X Y : Cx) (qual : Str) (ls : Scope) (f : Addr) (cd : Value) (s : Shared) (H : Hp) (E : XK) : Cx where
 prog := X.prog
 w := X.w
 K := X.K
 mg := X.mg
 base := X.base
 A := Y.A.deeper (zi X qual ls f cd s)
 N := X.N
 s_0 := s
 H_0 := H
 env := zi X qual ls f cd s
 outer := Y.stack
 stack := zi X qual ls f cd s :: Y.stack
 ex := []
 fn := fun _ => false
 calm := true
 pn := []
 xe := fun e s' => wpAny (model X.prog X.w) (Y.A.deeper (zi X qual ls f cd s)) (leaving (zi X qual ls f cd s) e) (fun _ s'' => CX1 X.prog X.w Y.stack H s E e s'') (fun e' s'' => CX1 X.prog X.w Y.stack H s E e' s'') s'
section
variable {X Y : Cx} {qual : Str} {ls : Scope} {f : Addr} {cd : Value} {s s1 : Shared} {H H1 : Hp} {E : XK} {pins : List (Addr × Obj)} {σ : St}
theorem wW (ok : X.Ok) (L : zC X.env.scope ls) {x : Str} {c : Addr} (h : (ql X.env.cells ls.names []).lookup x = some c) : (x, NameKind.free) ∈ ls.names /\ X.env.cells.lookup x = some c := by
 rcases vB (PySem.mem_of_lookup h) with z | ⟨z, rfl⟩
 ·cases z
 ·obtain ⟨c', e⟩ := ok.has x (.inl (L.free _ z rfl))
  exact ⟨z, by rw [e]; rfl⟩
theorem Qt (ok : X.Ok) (L : zC X.env.scope ls) {x : Str} (h : (x, NameKind.free) ∈ ls.names) : ∃ c, (ql X.env.cells ls.names []).lookup x = some c /\ X.env.cells.lookup x = some c := by
 obtain ⟨c, e⟩ := mem_lookup (vW (cells := X.env.cells) (acc := []) h)
 exact ⟨c, e, (wW ok L e).2⟩
theorem Wn {h1 : Heap} {tk : Nat} (L : zC X.env.scope ls) (I1 : Inv X pins σ H1 s1) (hcell : ∀ x c v, X.env.cells.lookup x = some c -> s1.heap.IsCell c v -> s.heap.IsCell c v) (hfree : ∀ x c, X.env.cells.lookup x = some c -> H c = none)
  (hd : Y.A.handled = none) (e0 : jP X.prog X.w X.K X.mg X.base Y.A Y.stack s H) (hns : h1.Ns s.heap.objs.size (fun _ => none)) (kp : ∀ b o, s.heap.get? b = some o -> h1.get? b = some o) :
  Inv (yt X Y qual ls f cd s H E) [] σ H { s with heap := h1, toks := tk } := by
 have noA : ∀ b : Addr, b ∉ (yt X Y qual ls f cd s H E).ex := fun b z => absurd (show b ∈ ([] : List Addr) from z) (by simp)
 refine ⟨⟨e0.mod, L.kind, rfl, rfl, Nat.le_refl _, fun y z c h1 h2 => ?_, fun y hy => ?_, fun y c z => Bool.noConfusion (show false = true from z), fun _ => hd, Around.frames_deeper e0.frames, .inr ⟨rfl, rfl⟩, fun b z => absurd z (noA b), e0.bs, e0.bsz, fun b _ _ => noA b, fun b z => absurd z (noA b), e0.zj, e0.frf⟩,
  rfl, e0.bare, Un.kept kp, ⟨_, hns, fun i y v h1 h2 h3 => ?_⟩, fun y c h => ?_, e0.hok.fresh (Nat.le_refl _), fun y c h => hfree y c (wW I1.ok L h).2, fun p hp => absurd (show p ∈ ([] : List (Addr × Obj)) from hp) (by simp), e0.hok.kept kp, I1.len⟩
 ·exact I1.ok.inj y z c (wW I1.ok L h1).2 (wW I1.ok L h2).2
 ·have hy : ls.names.lookup y = some .cell \/ ls.names.lookup y = some .free := hy
  rcases hy with hy | hy
  ·rcases L.only _ (PySem.mem_of_lookup hy) with z | z <;> cases z
  ·obtain ⟨c, e, _⟩ := Qt I1.ok L (PySem.mem_of_lookup hy)
   exact ⟨c, e⟩
 ·have h3 : ls.names.lookup y = some .local \/ ls.names.lookup y = some .cell \/ ls.names.lookup y = some .free := h3
  have hfr : ls.names.lookup y = some .free := by
   rcases h3 with z | z | z
   ·rcases L.only _ (PySem.mem_of_lookup z) with q | q <;> cases q
   ·rcases L.only _ (PySem.mem_of_lookup z) with q | q <;> cases q
   ·exact z
  have hc := L.free _ (PySem.mem_of_lookup hfr) rfl
  obtain ⟨c, e1, e2⟩ := Qt I1.ok L (PySem.mem_of_lookup hfr)
  obtain ⟨m, _, hl⟩ := I1.loc
  obtain ⟨u, r, l⟩ := hl i y v h1 h2 (.inr (.inl hc))
  refine ⟨u, r, .inr ⟨.inr hfr, c, e1, ?_⟩⟩
  rcases l with ⟨k, _⟩ | ⟨_, c', e', z⟩
  ·have k : X.env.scope.names.lookup y = some .local := k
   rw [show X.env.scope.names.lookup y = _ from hc] at k
   cases k
  ·rw [e2] at e'
   cases e'
   exact (hcell y c _ e2 z).keeps kp
 ·obtain ⟨_, e⟩ := wW I1.ok L h
  obtain ⟨v, z⟩ := I1.cell y c e
  exact ⟨v, (hcell y c v e z).keeps kp⟩
theorem Wa (L : zC X.env.scope ls) : Acc (yt X Y qual ls f cd s H E) E := by
 intro e s1 x
 obtain ⟨a, cls, B, H', pins, σ, rfl, I, hd, kb, q⟩ := x
 show wpAny _ _ (leaving _ _) _ _ _
 unfold leaving
 refine wpAny_bind (wg (outer := Y.stack) I.ok.frames rfl rfl hd fun h1 hd1 up1 => ?_)
 obtain ⟨I1, kb1⟩ := qV I hd kb hd1.hand up1
 refine vg hd1 fun h2 hd2 up2 => ?_
 obtain ⟨I2, kb2⟩ := qV I1 hd1.hand kb1 hd2.hand up2
 obtain ⟨g1, g2, ⟨_, _, g3⟩, g4⟩ := hd2.hand
 refine ⟨a, cls, B, H', rfl, I2.os, I2.bare, I2.base, I2.hok, ⟨g1, g2, g3, g4⟩, fun b o hb hf r => kb2 b o hb (fun z => ?_) ?_, q⟩
 ·rcases List.mem_cons.mp (I2.wb b z) with z | z
  ·rcases r with r | ⟨o', r⟩
   ·exact r (by rw [z]; exact I2.free)
   ·exact absurd (Nat.lt_of_lt_of_le (Heap.lt_size r) I2.ok.above) (by rw [z]; exact Nat.lt_irrefl _)
  ·exact hf z
 ·rcases r with r | ⟨o', r⟩
  ·exact .inl r
  ·exact .inr (.inl ⟨o', r, fun z => nomatch z⟩)
end
structure W6 (s : Shared) (H : Hp) (fr : List Addr) (f c : Addr) (qual : Str) (params : Arguments) (body : Expr) (ls : Scope) (clos : List (Str × Addr)) : Prop where
 obj : ∃ pm ctv, s.heap.get? f = some (PySem.W.kla_obj "<lambda>" qual params body ls clos pm c ctv)
 fN : H f = none
 fF : f ∉ fr
 code : ∃ oc vs t, s.heap.get? c = some oc /\ oc.data = .fields vs /\ vs[1]? = some (.str qual t)
 cN : H c = none
 cF : c ∉ fr
section
variable {X Y : Cx} {qual : Str} {params : Arguments} {body : Expr} {ls : Scope} {f c : Addr} {pins : List (Addr × Obj)} {σ1 : St} {E : XK} {tb : TE} {k i : Nat} {x : Str} {p pos : Pos}
theorem Wu (I1 : Inv X pins σ1 Y.H_0 Y.s_0) (eP : Y.prog = X.prog) (ew : Y.w = X.w) (eK : Y.K = X.K) (em : Y.mg = X.mg) (eb : Y.base = X.base) (eo : Y.outer = X.stack) (ex : Y.ex = []) (hfn : ∀ y, X.fn y = true) (L : zC X.env.scope ls)
  (la : W6 Y.s_0 Y.H_0 Y.fs f c qual params body ls (ql X.env.cells ls.names [])) (hr : vC (k + 1) Y.A) (acc : Acc Y E)
  (hbind : ∀ pm ctv, bindArgs (PySem.W.kla_fn "<lambda>" qual params body ls (ql X.env.cells ls.names []) pm (.ref c) ctv) ⟨[], []⟩ = pure [])
  (hb : ∀ (s : Shared) (H : Hp), PE (yt X Y qual ls f (.ref c) s H E) body tb) (hx : Y.N[i]? = some x) (hv : Vis Y.env.scope x) (hdb : (x == ("__debug__" : Str)) = false := by decide) (hcd : (x == ("__classdict__" : Str)) = false := by decide) :
  PE Y (.Call (.Name x p) [] [] pos) (fun σ H Q => σ[i]? = some (some (.ref f)) /\ tb σ1 H Q) := by
 intro pins' s σ H Q I ⟨hσ, hq⟩
 refine wpAny_Call_Name_kw (thn (xP hx hv hdb hcd pins' s σ H (fun v H' => v = .ref f /\ H' = H) I ⟨_, hσ, rfl, rfl⟩) fun u s2 ⟨v, H2, I2, ru, ev, eH⟩ => ?_)
 subst ev eH
 cases (show u = Value.ref f from ru)
 have keep : ∀ b o, Y.s_0.heap.get? b = some o -> Y.H_0 b = none -> b ∉ Y.fs -> s2.heap.get? b = some o /\ H2 b = none := fun b o e n nf =>
  ⟨I2.base.keep b o e n nf (by rw [ex]; simp), I2.base.free b o e n (by rw [ex]; simp)⟩
 obtain ⟨⟨pm, ctv, ho⟩, fN, fF, ⟨oc, vs, t, hoc, hod, hov⟩, cN, cF⟩ := la
 have ho2 := (keep f _ ho fN fF).1
 have hoc2 := (keep c _ hoc cN cF).1
 have hcalm : Y.A.handled = none := hr.hd
 refine PySem.W.callWith_F0 ⟨_, _, _, _, ho2⟩ ?_
 have lim : s2.heap.NoLimit := I2.nolimit
 have cells : ∀ y d, X.env.cells.lookup y = some d -> d ∉ Y.fs := fun y d e hd => by
  have z : d ∈ X.env.locals :: X.fs := I1.wb d (by rw [<- eo]; exact hd)
  rcases List.mem_cons.mp z with z | z
  ·exact I1.cne y d e z
  ·obtain ⟨_, o1, e1, _⟩ := I1.ok.zj.mem z
   exact absurd (Nat.lt_of_lt_of_le (Heap.lt_size e1) (I1.ok.cab y d (hfn y) e)) (Nat.lt_irrefl _)
 have hcell : ∀ y d v, X.env.cells.lookup y = some d -> Y.s_0.heap.IsCell d v -> s2.heap.IsCell d v := fun y d v e ⟨o, h1, h2⟩ => ⟨o, (keep d o h1 (I1.freeC y d e) (cells y d e)).1, h2⟩
 have hfree : ∀ y d, X.env.cells.lookup y = some d -> H2 d = none := fun y d e => by
  obtain ⟨v, o, h1, _⟩ := I1.cell y d e
  exact (keep d o h1 (I1.freeC y d e) (cells y d e)).2
 have e0 : jP X.prog X.w X.K X.mg X.base Y.A Y.stack s2 H2 := by
  have := I2.Zp
  rw [eP, ew, eK, em, eb] at this
  exact this
 have body_ok : codeAny (model Y.prog Y.w) Y.A (.call (.ref f) ⟨[], []⟩) (CR (CX1 Y.prog Y.w) Y.stack Y.prog Y.w H2 s2 Q E) s2 := by
  refine PySem.W.kla_callFunE hr.depth ho2 rfl L.co L.gen rfl ⟨c, oc, vs, t, rfl, hoc2, hod, hov⟩ ?_
  rw [hbind]
  refine wpAny_pure (wpAny_newFunctionEnv (fun y hy z => ?_) (fun y hy => nomatch hy) (fun h1 hns hsb => ⟨lim.fresh _ hsb, PySem.W.kla_codeExpr ?_⟩) L.kind)
  ·rcases L.only y hy with q | q <;> (rw [q] at z; cases z)
  ·have kp : ∀ b o, s2.heap.get? b = some o -> h1.get? b = some o := fun b o e => (hsb.2 b (Nat.ne_of_lt (Heap.lt_size e))).trans (Heap.get?_push_of_some _ e)
   have I3 : Inv (yt X Y qual ls f (.ref c) s2 H2 E) [] σ1 H2 { s2 with heap := h1, toks := s2.toks + 0 } := Wn L I1 hcell hfree hcalm e0 hns kp
   rw [eP, ew]
   have q := hb s2 H2 [] _ σ1 H2 Q I3 hq
   refine wpAny_mono q (fun v s' ⟨vv, H', J, rv, qq⟩ => ?_) fun e s' hs => ?_
   ·exact ⟨vv, H', J.os, J.bare, J.base, J.hok, rv, qq⟩
   ·exact hs
 refine wpAny_call (codeAny_mono body_ok fun r s' hq => ?_)
 cases r with
 | error e => exact yZ acc pins' σ H2 s2 e s' I2 hq
 | ok fl =>
  cases fl with
  | ret u => exact I2.after hq
  | next => exact False.elim hq
  | brk => exact False.elim hq
  | cont => exact False.elim hq
end
section
variable {M : Model} {A : Around} {E : Value -> Shared -> Prop} {s : Shared} {e C C' : Addr} {oe : Obj} {Q : Bool -> Shared -> Prop}
theorem VB (hC : ExcAt s.heap C) (he : s.heap.get? e = some oe) (hcls : oe.cls = .ref C) (h : Q true s) : wpAny M A (excMatches (.ref e) (.ref C)) Q E s := by
 obtain ⟨N, nm, q, bs, hdct, sn, sub, ab, col, dd, k0, k1, k2, k3, k5, mN, hC, hN, hi⟩ := hC
 obtain ⟨hp, g, d, tk, os⟩ := s
 exact wpAny_excMatches_sub_self hC he hcls (by decide) h
theorem QS (hC : ExcAt s.heap C) (hC' : ExcAt s.heap C') (he : s.heap.get? e = some oe) (hcls : oe.cls = .ref C) (hne : C ≠ C') (h : Q false s) : wpAny M A (excMatches (.ref e) (.ref C')) Q E s := by
 obtain ⟨N, nm, q, bs, hdct, sn, sub, ab, col, dd, k0, k1, k2, k3, k5, mN, hC, hN, hi⟩ := hC
 obtain ⟨N', nm', q', bs', hdct', sn', sub', ab', col', dd', k0', k1', k2', k3', k5', mN', hC', hN', hi'⟩ := hC'
 obtain ⟨hp, g, d, tk, os⟩ := s
 have c1 : (Value.ref C' :: vk).contains (.type "BaseException") = true := by
  rw [List.contains_cons, show vk.contains (.type "BaseException") = true by decide, Bool.or_true]
 have c2 : (Value.ref C :: vk).contains (.ref C') = false := by
  rw [List.contains_cons]
  have : (Value.ref C' == Value.ref C) = false := by
   rw [beq_eq_false_iff_ne]
   exact fun z => hne (Value.ref.inj z).symm
  rw [this]
  rfl
 have f := tc_notTuple
 unfold excMatches
 repeat (first | (with_reducible refine wpAny_loadPart_at he ?_; rw [hcls]) | with_reducible refine wpAny_loadPart_at hC' ?_ | with_reducible refine wpAny_loadPart_at hC ?_ | (with_reducible refine wpAny_isSubtype_exc hC' ?_; rw [c1]) | (with_reducible refine wpAny_isSubtype_exc hC ?_; rw [c2]) | wp_step)
 exact h
end
noncomputable abbrev Cx.marked (X : Cx) (e : Value) : Cx := { X with A := X.A.mark (some e), calm := false, xe := fun _ _ => False }
section
variable {X : Cx} {pins : List (Addr × Obj)} {σ : St} {H : Hp} {s : Shared}
theorem yW (I : Inv X pins σ H s) (e : Value) : Inv (X.marked e) pins σ H s :=
 ⟨⟨I.ok.mod, I.ok.kind, I.ok.glob, I.ok.blt, I.ok.above, I.ok.inj, I.ok.has, I.ok.cab, fun z => Bool.noConfusion (show false = true from z), I.ok.frames, I.ok.stk, I.ok.exf, I.ok.bs, I.ok.bsz, I.ok.noex, I.ok.exfs, I.ok.zj, I.ok.frf⟩, I.os, I.bare, I.base, I.loc, I.cell, I.free, I.freeC, I.pin, I.hok, I.len⟩
theorem vM {e : Value} (I : Inv (X.marked e) pins σ H s) (ok : X.Ok) : Inv X pins σ H s := ⟨ok, I.os, I.bare, I.base, I.loc, I.cell, I.free, I.freeC, I.pin, I.hok, I.len⟩
end
inductive Hs (X : Cx) : List ExceptHandler -> List (Addr × Int) -> Prop
 | nil : Hs X [] []
 | cons {x : Str} {C : Addr} {k : Int} {r : List ExceptHandler} {l : List (Addr × Int)} {np p1 p2 p3 p4 p5 : Pos} {j : Nat} : Gl X x -> X.mg x = some (.ref C) -> qF X.K C = true -> (x == ("__debug__" : Str)) = false -> Hs X r l ->
   Hs X (.ExceptHandler (some (.Name x np)) none [.Return (some (.List [.UnaryOp .USub (.Constant (.int k) j p1) p2] p3)) p4] p5 :: r) ((C, k) :: l)
section
variable {X : Cx} {pins : List (Addr × Obj)} {σ : St} {H : Hp} {s : Shared} {a C : Addr} {B : Heap} {D : Ends}
theorem Wo {hs : List ExceptHandler} {l : List (Addr × Int)} (h : Hs X hs l) : ∀ {s : Shared} {k : Int}, qF X.K C = true -> Inv X pins σ H s -> wC B X.stack a (.ref C) s.heap -> (∀ b o, s.heap.get? b = some o -> b ∉ frs X.stack -> Rel X pins H b -> B.get? b = some o) ->
  l.lookup C = some k -> (∀ p, H p = none -> D.rt (.ref p) (upd H p (.lst [.int (-k)]))) -> wpAny (model X.prog X.w) X.A (handleBy (.ref a) X.env hs) (SP X pins D) X.xe s := by
 induction h with
 | nil => intro s k _ _ _ _ hl; cases hl
 | @cons x C' k' r l np p1 p2 p3 p4 p5 j hg hm hC' hd _ ih =>
  intro s k hC I ha kb hl q
  have em := hC
  refine wpAny_handleBy_cons (codeAny_handlers_test ?_) (by intro z; cases z)
  have IM := yW I (.ref a)
  refine zy (X := X.marked (.ref a)) IM hg hm ?_ hd
  obtain ⟨oe, vs, a0, he, hcls, hd', h0, rr⟩ := ha.2.2.2
  by_cases hcc : C = C'
  ·subst hcc
   have hk : k' = k := by
    rw [List.lookup_cons_self] at hl
    exact Option.some.inj hl
   subst hk
   refine VB (vS I.kIn hC) he hcls ?_
   show codeAny _ _ _ _ _
   refine codeAny_handlers_suite (vg ha fun h2 ha2 up => ?_)
   obtain ⟨I2, kb2⟩ := qV I ha.hand kb ha2.hand up
   have IM2 := yW I2 (.ref a)
   have pe : PSs (X.marked (.ref a)) [.Return (some (.List [.UnaryOp .USub (.Constant (.int k') j p1) p2] p3)) p4] _ := zq (yy (js (zx (Zj VT jO) uc)))
   refine wpAny_mono (pe pins _ σ H D IM2 ⟨k', rfl, by show 1 <= sizeLine; decide, q⟩) (fun f s3 hs => ?_) fun _ _ z => z.elim
   cases f with
   | ret u =>
    obtain ⟨v, σ', H', J, rv, qq⟩ := hs
    exact ⟨v, σ', H', vM J I.ok, rv, qq⟩
   | next => obtain ⟨σ', H', J, qq⟩ := hs; exact ⟨σ', H', vM J I.ok, qq⟩
   | brk => obtain ⟨σ', H', J, qq⟩ := hs; exact ⟨σ', H', vM J I.ok, qq⟩
   | cont => obtain ⟨σ', H', J, qq⟩ := hs; exact ⟨σ', H', vM J I.ok, qq⟩
  ·refine QS (vS I.kIn hC) (vS I.kIn hC') he hcls hcc ?_
   show wpAny _ _ _ _ _ _
   refine ih hC I ha kb ?_ q
   rw [List.lookup_cons] at hl
   rw [show (C == C') = false from beq_eq_false_iff_ne.mpr hcc] at hl
   exact hl
end
noncomputable def ZS (K : PySem.W.Frag) (l : List (Addr × Int)) (rt : VK) : XK := fun c _ H => ∃ C k, c = .ref C /\ qF K C = true /\ l.lookup C = some k /\ ∀ p, H p = none -> rt (.ref p) (upd H p (.lst [.int (-k)]))
noncomputable abbrev Cx.VD (X : Cx) (pins : List (Addr × Obj)) : Cx := { X with pn := X.pn ++ pins }
theorem Vr {X : Cx} {pins : List (Addr × Obj)} {σ : St} {H : Hp} {s : Shared} (I : Inv X pins σ H s) : Inv (X.VD pins) [] σ H s :=
 ⟨⟨I.ok.mod, I.ok.kind, I.ok.glob, I.ok.blt, I.ok.above, I.ok.inj, I.ok.has, I.ok.cab, I.ok.hd, I.ok.frames, I.ok.stk, I.ok.exf, I.ok.bs, I.ok.bsz, I.ok.noex, I.ok.exfs, I.ok.zj, I.ok.frf⟩, I.os, I.bare, I.base, I.loc, I.cell, I.free, I.freeC,
  fun p hp => I.pin p (by have z : p ∈ (X.pn ++ pins) ++ [] := hp; rwa [List.append_nil] at z), I.hok, I.len⟩
theorem vQ {X : Cx} {pins pins' : List (Addr × Obj)} {σ : St} {H : Hp} {s : Shared} (I : Inv (X.VD pins) pins' σ H s) (ok : X.Ok) : Inv X pins σ H s :=
 ⟨ok, I.os, I.bare, I.base, I.loc, I.cell, I.free, I.freeC, fun p hp => I.pin p (List.mem_append_left _ hp), I.hok, I.len⟩
theorem Ye {X : Cx} {body : List Stmt} {h0 : ExceptHandler} {hs : List ExceptHandler} {l : List (Addr × Int)} {pos : Pos} {tb : Ends -> TS} {L : Addr} (hst : X.stack = X.env :: X.outer) (hfr : X.env.frame = some L) (hH : Hs X (h0 :: hs) l)
  (hb : ∀ (D : Ends) (pins : List (Addr × Obj)), PSs ((X.VD pins).wL (Arr (X.VD pins) (ZS X.K l D.rt))) body (tb D)) : PS X (.Try body (h0 :: hs) [] [] pos) (fun D σ H => tb D D σ H) := by
 intro pins s σ H D I h
 refine wpAny_Try_except (wpAny_mono (hb D pins [] s σ H D ((Vr I).wL _) h) (fun f s1 q => ?_) fun e s1 x => ?_)
 ·have q := q.vG
  cases f with
  | next => obtain ⟨σ', H', J, qq⟩ := q; exact wpAny_execs_nil ⟨σ', H', vQ J I.ok, qq⟩
  | ret v => obtain ⟨v, σ', H', J, r, qq⟩ := q; exact ⟨v, σ', H', vQ J I.ok, r, qq⟩
  | brk => obtain ⟨σ', H', J, qq⟩ := q; exact ⟨σ', H', vQ J I.ok, qq⟩
  | cont => obtain ⟨σ', H', J, qq⟩ := q; exact ⟨σ', H', vQ J I.ok, qq⟩
 ·obtain ⟨a, cls, B, H', pins', σ', rfl, J, hd, kb, C, k, rfl, hC, hl, q⟩ := x
  have hfrm : X.A.frames = some (X.env :: X.outer) := by rw [<- hst]; exact J.ok.frames
  have J := vQ J I.ok
  have hd : Hand B X.stack a (.ref C) s1.heap := hd
  have kb : ∀ b o, s1.heap.get? b = some o -> b ∉ frs X.stack -> Rel X pins H' b -> B.get? b = some o := fun b o h1 h2 r => kb b o h1 h2 (by
   rcases r with r | r | r | r | ⟨p, hp, r⟩
   ·exact .inl r
   ·exact .inr (.inl r)
   ·exact .inr (.inr (.inl r))
   ·exact .inr (.inr (.inr (.inl r)))
   ·exact .inr (.inr (.inr (.inr ⟨p, List.mem_append_left _ hp, r⟩))))
  have hd0 := hd
  rw [hst] at hd0
  refine wg hfrm hfr hfr hd0 fun h1 hd1 up1 => ?_
  rw [<- hst] at hd1
  obtain ⟨I1, kb1⟩ := qV J hd kb hd1.hand up1
  refine vg hd1 fun h2 hd2 up2 => ?_
  obtain ⟨I2, kb2⟩ := qV I1 hd1.hand kb1 hd2.hand up2
  exact Wo hH hC I2 hd2 kb2 hl q
theorem VF {X : Cx} {pins : List (Addr × Obj)} {σ : St} {H : Hp} {s : Shared} {P : Addr} {ps more : Array Value} {h' : Heap} {tk : Nat} (I : Inv X pins σ H s) (hP : H P = some (.tbl ps)) (hx : Heap.ExtBut P s.heap h')
  (hP' : h'.get? P = some { cls := .none, data := .fields (ps ++ more) }) : Inv X pins σ (upd H P (.tbl (ps ++ more))) { s with heap := h', toks := tk } := by
 have ne : ∀ b, H b = none -> b ≠ P := fun b n z => by rw [z, hP] at n; cases n
 have ne2 : ∀ b u, H b = some u -> (∀ ps, u ≠ .tbl ps) -> b ≠ P := fun b u n q z => by rw [z, hP] at n; exact q ps (Option.some.inj n).symm
 refine I.un ⟨fun b o e n _ _ => hx b o (ne b n) e, fun b o e n _ _ => ⟨o.slots, hx b o (ne b n) e⟩, fun b o e n _ => by rw [qh (ne b n)]; exact n, fun b o e _ => ?_, fun b xs e => by rw [qh (ne2 b _ e fun _ z => nomatch z)]; exact e,
  fun b o u e => by rw [qh (ne2 b _ e fun _ z => nomatch z)]; exact e, fun b qs e => ?_⟩ fun b u e => ?_
 ·by_cases hb : b = P
  ·rw [hb]; exact ⟨_, hP'⟩
  ·exact ⟨o, hx b o hb e⟩
 ·by_cases hb : b = P
  ·subst hb
   rw [hP] at e
   cases e
   exact ⟨more, qH⟩
  ·exact ⟨#[], by rw [qh hb, e]; simp⟩
 ·by_cases hb : b = P
  ·subst hb
   rw [qH] at e
   cases e
   exact hP'
  ·rw [qh hb] at e
   refine (I.hok b u e).xi (fun c v hc q => ?_) (fun c q => ?_) fun c xs q => ?_
   ·refine hx c v ?_ q
    rcases hc with z | z
    ·rw [z]; exact hb
    ·exact ne2 c _ z fun _ z => nomatch z
   ·rw [qh (ne2 c _ q fun _ z => nomatch z)]; exact q
   ·rw [qh (ne2 c _ q fun _ z => nomatch z)]; exact q
theorem Zq {CX : CXT} {P : Program} {w : World} {K : PySem.W.Frag} {mg : Str -> Option Value} {base : Heap} {k : Nat} {f : Addr} {name qual : Str} {params : Arguments} {body : List Stmt} {scope : Scope} {dV kV doc pm cdv ct oc : Value} {an od : Option Addr}
  {osl : Array (Option Value)} {N ps : List Str} {A : Around} {outer : List Env} {s : Shared} {H : Hp} {args : Args} {us : List Value} {vs : List V} {Q : VK} {E : XK}
  (lk : K.lookup f = some ⟨oc, od, .func (PySem.W.fnOf name qual params body scope dV kV doc pm an cdv ct), osl⟩) (hcd : PySem.W.codeIn K cdv qual = true) (S : qB N ps scope) (hl : vs.length = ps.length) (hr : vC (k + 1) A)
  (e0 : jP P w K mg base A outer s H) (hb : BindsTo s (PySem.W.fnOf name qual params body scope dV kV doc pm an cdv ct) args (ps.zip us)) (r : Vals vs us)
  (hbody : ∃ t, PSs (wH CX P w K mg base N qual scope f cdv A outer s H E) body t /\ t { nx := fun _ H' => Q .non H', rt := Q } (start N vs) H) :
  codeAny (model P w) A (.call (.ref f) args) (CR CX outer P w H s Q E) s := by
 have F := Vq (P := P) (w := w) (mg := mg) (base := base) (CX := CX) (k := k) (sp := fun vs' H' Q' E' => vs'.length = ps.length /\ False) lk hcd S (fun _ _ _ _ z => z.1) fun _ _ _ _ _ _ _ _ z => z.2.elim
 have KX : K.In s.heap := e0.mod.kin.keeps fun b o e => (e0.bs b o e).1
 have lim : s.heap.NoLimit := e0.mod.nolimit.keeps fun b o e => (e0.bs b o e).1
 have hkind : ∀ y ∈ ps.zip us, scope.names.lookup y.1 = some .local \/ (scope.names.lookup y.1 = some .cell /\ ((cellsFrom (s.heap.objs.size + 1) scope.names []).lookup y.1).isSome = true) := fun ⟨n, v⟩ hy => by
  rcases S.par n (List.of_mem_zip hy).1 with q | q
  ·exact .inl q
  ·exact .inr ⟨q, PySem.W.cellsFrom_some _ _ _ (.inl q)⟩
 refine codeAny_call_function hr.depth (KX _ _ lk) rfl S.co S.gen rfl (PySem.W.codeRec_of KX hcd) (hb _ _ _ _ ?_)
 refine wpAny_newFunctionEnv_cells S.kind hkind fun env he s1 x => ?_
 subst he
 refine ⟨lim.keeps x.toInCall.keep, codeAny_func ?_⟩
 obtain ⟨t, ht, hq⟩ := hbody
 have I : Inv (wH CX P w K mg base N qual scope f cdv A outer s H E) [] (start N vs) H s1 := xG S hr.hd e0 hl r x
 refine wpAny_mono (ht [] s1 (start N vs) H _ I hq) (fun fl s' hs => ?_) fun e s' hs => hs
 have fin : ∀ {σ' : St} {H' : Hp} {v : V} {u : Value}, Inv (wH CX P w K mg base N qual scope f cdv A outer s H E) [] σ' H' s' -> RelV v u -> Q v H' -> CE outer P w H s Q u s' :=
  fun {σ' H' v u} J rv q => ⟨v, H', J.os, J.bare, J.base, J.hok, rv, q⟩
 cases fl with
 | ret u =>
  obtain ⟨v, σ', H', J, rv, q⟩ := hs
  exact fin J rv q
 | next =>
  obtain ⟨σ', H', J, q⟩ := hs
  exact fin (v := V.non) (u := Value.none) J rfl q
 | brk =>
  obtain ⟨_, _, _, q⟩ := hs
  exact False.elim q
 | cont =>
  obtain ⟨_, _, _, q⟩ := hs
  exact False.elim q
theorem yK {X : Cx} {E : XK} : Acc (X.wL (Arr X E)) E := fun e s' x => by
 obtain ⟨a, cls, B, H', pins, σ, e1, I, hd, kb, q⟩ := x
 exact ⟨a, cls, B, H', pins, σ, e1, I.vG, hd, kb, q⟩
structure wD (mg : Str -> Option Value) (base : Heap) (c P : Addr) : Prop where
 code : PySem.W.CodeHd base c P
 bm : ∃ bm ob, mg "__builtins__" = some (.ref bm) /\ bm ≠ builtinsNs /\ base.get? bm = some ob /\ ob.cls = .type "module" /\ ob.dict = some builtinsNs /\ ob.data = .plain
section
variable {X : Cx} {pins : List (Addr × Obj)} {σ : St} {H : Hp} {s : Shared} {c P : Addr} {params : Arguments} {body : Expr} {ls : Scope} {lpos : Pos} {E : Value -> Shared -> Prop} {Q : Value -> Shared -> Prop}
theorem VC (I : Inv X pins σ H s) (BL : wD X.mg X.base c P) (hc : X.env.code = .ref c) (hP : H P = some (.tbl #[])) (L : zC X.env.scope ls) (hdef : defaultsOf params X.env = ([], []))
  (h : ∀ (s1 : Shared) (more : Array Value) (f c' : Addr), Inv X pins σ (upd H P (.tbl more)) s1 -> W6 s1 (upd H P (.tbl more)) (frs X.stack) f c' (X.env.qual ++ "<lambda>") params body ls (ql X.env.cells ls.names []) -> Q (.ref f) s1) :
  wpAny (model X.prog X.w) X.A (eval (.Lambda params body ls lpos) X.env) Q E s := by
 have hPo : s.heap.get? P = some (PySem.W.tabObj #[]) := I.hok P _ hP
 have hg := I.mod.glob.keeps I.bk
 obtain ⟨bm, ob, b1, b2, b3, b4, b5, b6⟩ := BL.bm
 have nP : ∀ b o, X.base.get? b = some o -> b ≠ P := fun b o e z => by
  have := (I.bs b o e).2
  rw [z, hP] at this
  cases this
 have hgP : mainGlobals ≠ P := by
  obtain ⟨o, es, ep, e, _⟩ := I.mod.glob
  exact nP _ o e
 have hbG : bm ≠ mainGlobals := fun z => by
  obtain ⟨o, es, ep, e, hd, _⟩ := I.mod.glob
  rw [z, e] at b3
  cases b3
  rw [hd] at b6
  cases b6
 have hclos : closureFor ls X.env = pure (ql X.env.cells ls.names []) := yT fun y hy e => I.ok.has _ (.inl (L.free y hy e))
 refine PySem.W.kla_eval hdef (PySem.W.kla_makeFunction (mg := X.mg) (P := P) hclos I.ok.glob hg hc (BL.code.keeps I.bk) hPo trivial rfl hgP ⟨bm, ob, b1, b2, hbG, nP bm ob b3, I.bk bm ob b3, b4, b5, b6⟩ fun c' ctv h' tk hx hge hlt hrec htb => ?_)
 have I1 := VF (tk := tk) I hP hx htb
 have hPlt : P < s.heap.objs.size := Heap.lt_size hPo
 obtain ⟨c2, oc, vs, t, e2, hoc, hd, hv⟩ := hrec
 cases e2
 have cN : upd H P (.tbl (#[] ++ #[rawInt lpos.line, rawInt lpos.col, .ref c'])) c' = none := by
  rw [qh (Nat.ne_of_gt (Nat.lt_of_lt_of_le hPlt hge))]
  exact I.hok.fresh hge
 have I2 := I1.kept (h' := h'.push (PySem.W.kla_obj "<lambda>" (X.env.qual ++ "<lambda>") params body ls (ql X.env.cells ls.names []) ((X.mg "__name__").getD .none) c' ctv)) (t' := tk) fun b o e => Heap.get?_push_of_some _ e
 have notF : ∀ b, s.heap.objs.size <= b -> b ∉ frs X.stack := fun b hb z => by
  rcases List.mem_cons.mp (I.wb b z) with z | z
  ·exact absurd (Nat.lt_of_lt_of_le I.lt hb) (by rw [z]; exact Nat.lt_irrefl _)
  ·exact I.YE hb z
 exact h _ _ _ c' I2 ⟨⟨_, ctv, Heap.get?_push_size _ rfl⟩, I1.hok.fresh (Nat.le_refl _), notF _ (Nat.le_trans hge (Nat.le_of_lt hlt)), ⟨oc, vs, t, Heap.get?_push_of_some _ hoc, hd, hv⟩, cN, notF _ hge⟩
end
noncomputable def x6 (hs : List ExceptHandler) (q1 q2 q3 q4 q5 q6 q7 q8 q9 q10 : Pos) (j : Nat) : List Stmt :=
 [.Try [.Assign [.Name "told" q1] (.Call (.Name "work" q2) [] [] q3) q4] hs [] [] q5, .Return (some (.BinOp (.List [.Constant (.int 0) j q6] q7) .Add (.Name "told" q8) q9)) q10]
noncomputable def Y9 (Q : VK) : VK := fun v H => ∃ b zs, v = .ref b /\ H b = some (.lst zs) /\ zs.length + 1 <= sizeLine /\ ∀ q, H q = none -> ∀ p, upd H q (.lst [.int 0]) p = none -> Q (.ref p) (upd (upd H q (.lst [.int 0])) p (.lst (.int 0 :: zs)))
noncomputable def W8 (f : Addr) (Q : VK) : VK := fun v H => ZH (tOp YW (YK (Zd (tC (.int 0)) Yx)) (YC 1)) { nx := fun _ H' => Q .non H', rt := Q } [some (.ref f), some v] H
theorem Q4 {f : Addr} {Q : VK} {v : V} {H : Hp} (h : Y9 Q v H) : W8 f Q v H := by
 obtain ⟨b, zs, rfl, hb, hz, q⟩ := h
 refine ⟨by show 1 <= sizeLine; decide, fun p hp => ⟨_, rfl, p, b, [.int 0], zs, rfl, rfl, qH, ?_, by show 1 + zs.length <= sizeLine; lia, q p hp⟩⟩
 rw [qh (qy hb hp)]
 exact hb
noncomputable def Yr (K : PySem.W.Frag) (l : List (Addr × Int)) (P : Addr) (tb : XK -> TE) : TE := fun σ H Q => H P = some (.tbl #[]) /\ ∀ more f, tb (ZS K l Q) σ (upd H P (.tbl more)) (W8 f Q)
section
variable {X : Cx} {c P f2 : Addr} {params : Arguments} {body : Expr} {ls : Scope} {lpos p pos : Pos} {tb : XK -> TE} {k : Nat} {l : List (Addr × Int)} {E : XK}
 {args2 : Arguments} {sc2 : Scope} {dV kV doc pm cdv ct oc : Value} {an od : Option Addr} {osl : Array (Option Value)} {h0 : ExceptHandler} {hs : List ExceptHandler} {q1 q2 q3 q4 q5 q6 q7 q8 q9 q10 : Pos} {j : Nat}
theorem uI (BL : wD X.mg X.base c P) (hc : X.env.code = .ref c) (hfn : ∀ y, X.fn y = true) (hst : X.stack = X.env :: X.outer) (L : zC X.env.scope ls) (hdef : defaultsOf params X.env = ([], [])) (hr : vC (k + 2) X.A)
  (hg : Gl X "answered") (hm : X.mg "answered" = some (.ref f2)) (hk : PySem.W.keepIn X.K (.ref f2) = true)
  (lk : X.K.lookup f2 = some ⟨oc, od, .func (PySem.W.fnOf "answered" "answered" args2 (x6 (h0 :: hs) q1 q2 q3 q4 q5 q6 q7 q8 q9 q10 j) sc2 dV kV doc pm an cdv ct), osl⟩) (hcd : PySem.W.codeIn X.K cdv "answered" = true)
  (S : qB ["work", "told"] ["work"] sc2) (hw : sc2.names.lookup ("work" : Str) = some .local) (ht : sc2.names.lookup ("told" : Str) = some .local)
  (hb2 : ∀ (s : Shared) (u : Value), BindsTo s (PySem.W.fnOf "answered" "answered" args2 (x6 (h0 :: hs) q1 q2 q3 q4 q5 q6 q7 q8 q9 q10 j) sc2 dV kV doc pm an cdv ct) ⟨[u], []⟩ ((["work"] : List Str).zip [u]))
  (hH : ∀ (s : Shared) (H : Hp), Hs (wH (CX1 X.prog X.w) X.prog X.w X.K X.mg X.base ["work", "told"] "answered" sc2 f2 cdv X.A X.stack s H E) (h0 :: hs) l)
  (hbind : ∀ c' clos pm ctv, bindArgs (PySem.W.kla_fn "<lambda>" (X.env.qual ++ "<lambda>") params body ls clos pm (.ref c') ctv) ⟨[], []⟩ = pure [])
  (hE : Acc X E)
  (hb : ∀ (Y : Cx) (f : Addr) (cd : Value) (s : Shared) (H : Hp) (E' : XK), vC k (Y.A.deeper (zi X (X.env.qual ++ "<lambda>") ls f cd s)) -> PE (yt X Y (X.env.qual ++ "<lambda>") ls f cd s H E') body (tb E')) :
  PE X (.Call (.Name "answered" p) [.Lambda params body ls lpos] [] pos) (Yr X.K l P tb) := by
 intro pins s σ H Q I ⟨hP, h⟩
 refine wpAny_Call_Name_kw (zy I hg hm ?_ (by decide))
 refine PySem.W.callWith_K (h₀ := X.base) I.ok.mod.kin hk ?_ rfl rfl
 refine Calls.spliced_cons (VC I BL hc hP L hdef fun s1 more f c' I1 la => Calls.spliced_nil ⟨I1.kIn, ?_⟩)
 have hr1 : vC (k + 1 + 1) X.A := hr
 -- the def's body
 have body_ok : codeAny (model X.prog X.w) X.A (.call (.ref f2) ⟨[.ref f], []⟩) (CR (CX1 X.prog X.w) X.stack X.prog X.w (upd H P (.tbl more)) s1 Q E) s1 := by
  refine Zq (N := ["work", "told"]) (vs := [.ref f]) lk hcd S rfl hr1 I1.Zp (hb2 s1 (.ref f)) (.cons rfl .nil) ?_
  generalize hY : wH (CX1 X.prog X.w) X.prog X.w X.K X.mg X.base ["work", "told"] "answered" sc2 f2 cdv X.A X.stack s1 (upd H P (.tbl more)) E = Y
  have hHs : Hs Y (h0 :: hs) l := by rw [<- hY]; exact hH s1 _
  have room : vC (k + 1) Y.A := by rw [<- hY]; exact hr1.deeper _
  refine ⟨_, uS (Ye (X := Y) (L := s1.heap.objs.size) (tb := fun D => Yb (fun σ' H' Q' => σ'[0]? = some (some (.ref f)) /\ tb (ZS Y.K l D.rt) σ H' Q') (vT 1)) (by rw [<- hY]; rfl) (by rw [<- hY]; rfl) hHs fun D pins' => zq (Vi (i := 1) (X := (Y.VD pins').wL _) ?nd ?ni ?nl ?work ?sw ?fn)) (zq (yy (W0 Zm (js (zx jO uc)) (xP (i := 1) ?vi ?vv)))), ?_⟩
  case nd => subst hY; exact S.nd
  case ni => subst hY; rfl
  case nl => subst hY; exact .inl ht
  case sw => subst hY; rfl
  case fn => subst hY; exact .inl rfl
  case vi => subst hY; rfl
  case vv => subst hY; exact .inl ht
  case work =>
   subst hY
   exact Wu (X := X) (k := k) I1 rfl rfl rfl rfl rfl rfl rfl hfn L la room yK (fun pm ctv => hbind c' _ pm ctv) (fun s' H' => hb _ f (.ref c') s' H' _ (room.deeper _)) rfl (.inl hw)
  ·subst hY
   exact ⟨rfl, h more f⟩
 refine wpAny_call (codeAny_mono body_ok fun r s' hq => ?_)
 cases r with
 | error e => exact yZ hE pins σ _ s1 e s' I1 hq
 | ok fl =>
  cases fl with
  | ret u => exact I1.after hq
  | next => exact False.elim hq
  | brk => exact False.elim hq
  | cont => exact False.elim hq
end
end L2
namespace L2.Ir
open PySem
set_option genInjectivity true in
inductive D where
 | non | bl (b : Bool) | int (i : Int) | lst (xs : List D) | tup (xs : List D) | fn (x : Str) | obj (c : Str) (ns : List Str) (xs : List D)
noncomputable def D.sc : D -> Bool
 | .non => true
 | .bl _ => true
 | .int _ => true
 | _ => false
inductive Kd where
 | bo | sh | nw | fr
noncomputable def Kd.low : Kd -> Kd -> Kd
 | .bo, _ => .bo
 | _, .bo => .bo
 | .sh, _ => .sh
 | _, .sh => .sh
 | _, _ => .nw
set_option genInjectivity true in
inductive Rs (α : Type) where
 | ok (a : α) | er (c : Str) | no
noncomputable def Rs.bind {α β : Type} (x : Rs α) (f : α -> Rs β) : Rs β := match x with
 | .ok a => f a
 | .er c => .er c
 | .no => .no
@[simp] theorem Rs.wu {α β : Type} (a : α) (f : α -> Rs β) : (Rs.ok a).bind f = f a := rfl
inductive Sl where
 | un | val (d : D) (k : Bool) | own (ds : List D)
noncomputable abbrev Dl := List Sl
noncomputable abbrev DK := D × Kd
noncomputable abbrev RE := Dl -> Rs DK
noncomputable abbrev RA := Dl -> Rs (List DK)
noncomputable def qb (i : Nat) : RE := fun δ => match δ[i]? with
 | some (.val d k) => .ok (d, if k = true then .nw else .sh)
 | some (.own ds) => .ok (.lst ds, .bo)
 | _ => .no
noncomputable def rC (d : D) : RE := fun _ => .ok (d, .nw)
noncomputable def qd (f : DK -> DK -> Rs DK) (ra rb : RE) : RE := fun δ => (ra δ).bind fun x => (rb δ).bind fun y => f x y
noncomputable def rUn (f : DK -> Rs DK) (ra : RE) : RE := fun δ => (ra δ).bind f
noncomputable def kL (xs : List D) (k : Kd) : Kd := if xs.all D.sc = true then .fr else k
noncomputable abbrev LIM : Nat := 16777216
noncomputable def few (i : Int) : Prop := i.natAbs < 2 ^ 60000
noncomputable instance (i : Int) : Decidable (few i) := inferInstanceAs (Decidable (i.natAbs < 2 ^ 60000))
noncomputable def vR : DK -> DK -> Rs DK
 | (.int i, _), (.int j, _) => .ok (.int (i + j), .nw)
 | (.lst xs, k), (.lst ys, l) => if xs.length + ys.length <= LIM then .ok (.lst (xs ++ ys), kL (xs ++ ys) (k.low l)) else .no
 | _, _ => .no
noncomputable def vH : DK -> DK -> Rs DK
 | (.int i, _), (.int j, _) => .ok (.int (i - j), .nw)
 | _, _ => .no
open Classical in
noncomputable def uq : DK -> DK -> Rs DK
 | (.int i, _), (.int j, _) => if few i /\ few j then .ok (.int (i * j), .nw) else .no
 | (.lst xs, .fr), (.int j, _) => if (0 <= j /\ j < 1000000) /\ xs.length * j.toNat <= LIM then .ok (.lst (List.replicate j.toNat xs).flatten, kL (List.replicate j.toNat xs).flatten .nw) else .no
 | _, _ => .no
noncomputable def oMod : DK -> DK -> Rs DK
 | (.int i, _), (.int j, _) => if 0 < j then .ok (.int (i % j), .nw) else .no
 | _, _ => .no
open Classical in
noncomputable def vN : DK -> DK -> Rs DK
 | (.int i, _), (.int j, _) => if 0 <= j /\ j <= 60000 /\ few i then .ok (.int (i * 2 ^ j.toNat), .nw) else .no
 | _, _ => .no
noncomputable def zO : DK -> DK -> Rs DK
 | (.int i, _), (.int j, _) => if 0 <= j then .ok (.int (i / 2 ^ j.toNat), .nw) else .no
 | _, _ => .no
noncomputable def jg (f : Int -> Int -> Int) : DK -> DK -> Rs DK
 | (.int i, _), (.int j, _) => .ok (.int (f i j), .nw)
 | _, _ => .no
noncomputable def zb (f : Int -> Int -> Bool) : DK -> DK -> Rs DK
 | (.int i, _), (.int j, _) => .ok (.bl (f i j), .nw)
 | _, _ => .no
noncomputable def intsOf : List D -> Option (List Int)
 | [] => some []
 | .int i :: r => (intsOf r).map (i :: ·)
 | _ => none
noncomputable def oEq (neg : Bool) : DK -> DK -> Rs DK
 | (.int i, _), (.int j, _) => .ok (.bl (if neg = true then !decide (i = j) else decide (i = j)), .nw)
 | (.bl i, _), (.bl j, _) => .ok (.bl (if neg = true then !decide (i = j) else decide (i = j)), .nw)
 | (.lst xs, _), (.lst ys, _) => match intsOf xs, intsOf ys with
  | some ns, some ms => .ok (.bl (if neg = true then !decide (ns = ms) else decide (ns = ms)), .nw)
  | _, _ => .no
 | _, _ => .no
noncomputable def WT : DK -> Rs DK
 | (.int i, _) => .ok (.int (-i), .nw)
 | _ => .no
noncomputable def qu : RA := fun _ => .ok []
noncomputable def qc (ra : RE) (rr : RA) : RA := fun δ => (ra δ).bind fun x => (rr δ).bind fun xs => .ok (x :: xs)
noncomputable def qw : List DK -> Kd
 | [] => .nw
 | x :: r => if x.1.sc = true then qw r else x.2.low (qw r)
noncomputable def wM (r : RA) : RE := fun δ => (r δ).bind fun xs => if xs.length <= LIM then .ok (.lst (xs.map (·.1)), kL (xs.map (·.1)) (qw xs)) else .no
noncomputable abbrev Fn := List D -> Rs (D × Bool)
noncomputable def kB (b : Bool) : Kd := if b = true then .fr else .nw
noncomputable def qi (g : Fn) (r : RA) : RE := fun δ => (r δ).bind fun xs => (g (xs.map (·.1))).bind fun y => .ok (y.1, kB y.2)
noncomputable def zg (f : List DK -> Rs DK) (r : RA) : RE := fun δ => (r δ).bind f
noncomputable def jc : List DK -> Rs DK
 | [(.lst xs, _)] => .ok (.int xs.length, .nw)
 | [(.tup xs, _)] => .ok (.int xs.length, .nw)
 | _ => .no
noncomputable def jR : List DK -> Rs DK
 | [(.int i, _), (.int j, _)] => .ok (.int (if j > i then j else i), .nw)
 | _ => .no
noncomputable def oBits : DK -> Rs DK
 | (.int i, _) => .ok (.int (if i = 0 then 0 else i.natAbs.log2 + 1 : Nat), .nw)
 | _ => .no
noncomputable abbrev RT := Dl -> Rs Bool
noncomputable def tBl (r : RE) : RT := fun δ => (r δ).bind fun x => match x.1 with
 | .bl b => .ok b
 | _ => .no
noncomputable def u6 (a b : RT) : RT := fun δ => (a δ).bind fun x => if x = true then b δ else .ok false
noncomputable def xh (a b : RT) : RT := fun δ => (a δ).bind fun x => if x = true then .ok true else b δ
noncomputable def uN (a : RT) : RT := fun δ => (a δ).bind fun x => .ok (!x)
noncomputable abbrev RI := Dl -> Rs (Bool × List DK)
noncomputable def Kd.safe : Kd -> Bool
 | .bo => false
 | _ => true
noncomputable def iOf (r : RE) : RI := fun δ => (r δ).bind fun x => match x.1 with
 | .lst xs => .ok (x.2.safe, xs.map fun d => (d, x.2.low .nw))
 | _ => .no
noncomputable def Vg (r q : RE) : RI := fun δ => (r δ).bind fun x => (q δ).bind fun y => match x.1, y.1 with
 | .lst xs, .lst ys => .ok (x.2.safe && y.2.safe, (xs.zip ys).map fun p => (.tup [p.1, p.2], x.2.low y.2))
 | _, _ => .no
inductive Tg where
 | one (i : Nat) | two (i j : Nat)
noncomputable def zP (x : DK) : Sl := .val x.1 (match x.2 with | .nw => true | .fr => true | _ => false)
noncomputable def put (i : Nat) (x : DK) (δ : Dl) : Option Dl := match x with
 | (d, .bo) => if d.sc = true then some (δ.set i (.val d true)) else none
 | (d, k) => some (δ.set i (zP (d, if d.sc = true then .nw else k)))
noncomputable def Tg.put : Tg -> DK -> Dl -> Option Dl
 | .one i, x, δ => Ir.put i x δ
 | .two i j, (.tup [a, b], k), δ => (Ir.put i (a, k) δ).bind (Ir.put j (b, k))
 | _, _, _ => none
inductive Out where
 | nx (δ : Dl) | rt (d : D) (k : Bool) | bk (δ : Dl) | ct (δ : Dl) | er (c : Str) | no
noncomputable abbrev RS := Dl -> Out
noncomputable def vJ : RS := fun δ => .nx δ
noncomputable def Out.andThen (o : Out) (f : RS) : Out := match o with
 | .nx δ => f δ
 | o => o
noncomputable def vu (a b : RS) : RS := fun δ => (a δ).andThen b
noncomputable def frz : Sl -> Sl
 | .own ds => .val (.lst ds) true
 | x => x
noncomputable def freeze (δ : Dl) : Dl := δ.map frz
noncomputable def we (i : Nat) (r : RE) : RS := fun δ => match r δ with
 | .ok (.lst ds, .fr) => .nx (δ.set i (.own ds))
 | .ok (d, .bo) => if d.sc = true then .nx (δ.set i (.val d true)) else .nx ((freeze δ).set i (.val d false))
 | .ok (d, k) => .nx (δ.set i (zP (d, if d.sc = true then .nw else k)))
 | .er c => .er c
 | .no => .no
noncomputable def zc (r : RE) : RS := fun δ => match r δ with
 | .ok _ => .nx δ
 | .er c => .er c
 | .no => .no
noncomputable def sIf (t : RT) (a b : RS) : RS := fun δ => match t δ with
 | .ok x => if x = true then a δ else b δ
 | .er c => .er c
 | .no => .no
noncomputable def vx (r : RE) : RS := fun δ => match r (freeze δ) with
 | .ok (.lst ds, .fr) => .rt (.lst ds) true
 | .ok (d, .nw) => .rt d false
 | .ok (d, _) => if d.sc = true then .rt d false else .no
 | .er c => .er c
 | .no => .no
noncomputable def yU (i : Nat) : RS := fun δ => match δ[i]? with
 | some (.own ds) => .rt (.lst ds) true
 | some (.val d k) => if d.sc = true \/ k = true then .rt d false else .no
 | _ => .no
noncomputable def vF (c : Str) : RS := fun _ => .er c
noncomputable def turns (tg : Tg) (body : RS) : List DK -> RS
 | [], δ => .nx δ
 | x :: r, δ => match tg.put x δ with
  | none => .no
  | some δ1 => match body δ1 with
   | .nx δ2 => turns tg body r δ2
   | .ct δ2 => turns tg body r δ2
   | .bk δ2 => .nx δ2
   | o => o
noncomputable def Vv (tg : Tg) (src : RI) (body : RS) : RS := fun δ => match src δ with
 | .ok (true, xs) => turns tg body xs δ
 | .ok (false, _) => .no
 | .er c => .er c
 | .no => .no
noncomputable def xC (tg : Tg) (i : Nat) (body : RS) : RS := fun δ => Vv tg (iOf (qb i)) body (match δ[i]? with
 | some (.own ds) => δ.set i (.val (.lst ds) true)
 | _ => δ)
noncomputable def items (tg : Tg) (t : RT) (r : RE) (δ : Dl) : List DK -> Rs (List DK)
 | [] => .ok []
 | x :: xs => match tg.put x δ with
  | none => .no
  | some δ1 => (t δ1).bind fun b => if b = true then (r δ1).bind fun y => (items tg t r δ xs).bind fun ys => .ok (y :: ys) else items tg t r δ xs
noncomputable def QB : RT := fun _ => .ok true
noncomputable def clear (δ : Dl) : List Nat -> Dl
 | [] => δ
 | v :: vs => (clear δ vs).set v .un
noncomputable def ja (tg : Tg) (src : RI) (t : RT) (r : RE) (vs : List Nat) : RE := fun δ => (src δ).bind fun xs => if xs.2.length < LIM then (items tg t r (clear δ vs) xs.2).bind fun ys =>
 .ok (.lst (ys.map (·.1)), kL (ys.map (·.1)) (qw ys)) else .no
noncomputable def Tg.within : Tg -> List Nat -> Prop
 | .one i, vs => i ∈ vs
 | .two i j, vs => i ∈ vs /\ j ∈ vs
end L2.Ir
namespace L2.Ir
open PySem PySem.Spec PyProof.Rows
section
variable (mg : Str -> Option Value) (K : PySem.W.Frag)
mutual
/-- the value v stands for the datum d, all addresses within in G -/
inductive Rp (G : Addr -> Prop) (H : Hp) : V -> D -> Prop
 | non : Rp G H .non .non
 | bl (b : Bool) : Rp G H (.bl b) (.bl b)
 | int (i : Int) : Rp G H (.int i) (.int i)
 | fn {x : Str} {a : Addr} : mg x = some (.ref a) -> Rp G H (.ref a) (.fn x)
 | lst {a : Addr} {xs : List V} {ds : List D} : G a -> Rd H a (.lst xs) -> qe G H xs ds -> Rp G H (.ref a) (.lst ds)
 | lstK {a : Addr} {xs : List V} {ds : List D} : (∀ H', SqL K H' a xs) -> qe G H xs ds -> Rp G H (.ref a) (.lst ds)
 | tup {a : Addr} {xs : List V} {ds : List D} : G a -> Rd H a (.tup xs) -> qe G H xs ds -> Rp G H (.ref a) (.tup ds)
 | tupK {a : Addr} {xs : List V} {ds : List D} : (∀ H', SqT K H' a xs) -> qe G H xs ds -> Rp G H (.ref a) (.tup ds)
 | obj {a C dx : Addr} {c : Str} {ns : List Str} {xs : List V} {ds : List D} : G a -> mg c = some (.ref C) -> H a = some (.ins C dx (ns.zip xs)) -> ns.length = xs.length -> qe G H xs ds -> Rp G H (.ref a) (.obj c ns ds)
inductive qe (G : Addr -> Prop) (H : Hp) : List V -> List D -> Prop
 | nil : qe G H [] []
 | cons {v : V} {vs : List V} {d : D} {ds : List D} : Rp G H v d -> qe G H vs ds -> qe G H (v :: vs) (d :: ds)
end
end
section
variable {mg : Str -> Option Value} {K : PySem.W.Frag}
theorem Vn {H H' : Hp} {a : Addr} {u : HO} (h : Rd H a u) (k : ∀ o, H a = some o -> H' a = some o) : Rd H' a u := by
 rcases h with h | ⟨o, h⟩
 ·exact .inl (k _ h)
 ·exact .inr ⟨o, k _ h⟩
theorem xW {H : Hp} {a : Addr} {u : HO} (h : Rd H a u) : H a ≠ none := by
 rcases h with h | ⟨o, h⟩ <;> (rw [h]; exact fun z => nomatch z)
theorem Rp.ofL {G : Addr -> Prop} {H : Hp} {a : Addr} {xs : List V} {ds : List D} (s : SqL K H a xs) (g : H a ≠ none -> G a) (r : qe mg K G H xs ds) : Rp mg K G H (.ref a) (.lst ds) := by
 rcases s with s | s
 ·exact .lst (g (xW s)) s r
 ·exact .lstK (fun _ => .inr s) r
mutual
theorem Rp.mono {G G' : Addr -> Prop} {H H' : Hp} (k : ∀ a, G a -> G' a /\ ∀ o, H a = some o -> H' a = some o) : ∀ (d : D) (v : V), Rp mg K G H v d -> Rp mg K G' H' v d
 | .non, _, h => by cases h; exact .non
 | .bl b, _, h => by cases h; exact .bl b
 | .int i, _, h => by cases h; exact .int i
 | .fn x, _, h => by cases h with | fn e => exact .fn e
 | .lst ds, _, h => by
  cases h with
  | lst g s r => exact .lst (k _ g).1 (Vn s (k _ g).2) (qe.mono k ds _ r)
  | lstK s r => exact .lstK s (qe.mono k ds _ r)
 | .tup ds, _, h => by
  cases h with
  | tup g s r => exact .tup (k _ g).1 (Vn s (k _ g).2) (qe.mono k ds _ r)
  | tupK s r => exact .tupK s (qe.mono k ds _ r)
 | .obj c ns ds, _, h => by
  cases h with
  | obj g m s l r => exact .obj (k _ g).1 m ((k _ g).2 _ s) l (qe.mono k ds _ r)
theorem qe.mono {G G' : Addr -> Prop} {H H' : Hp} (k : ∀ a, G a -> G' a /\ ∀ o, H a = some o -> H' a = some o) : ∀ (ds : List D) (vs : List V), qe mg K G H vs ds -> qe mg K G' H' vs ds
 | [], _, h => by cases h; exact .nil
 | d :: ds, _, h => by cases h with | cons a b => exact .cons (Rp.mono k d _ a) (qe.mono k ds _ b)
end
mutual
/-- tracked addresses are there -/
theorem Rp.there {G : Addr -> Prop} {H : Hp} : ∀ (d : D) (v : V), Rp mg K G H v d -> Rp mg K (fun a => G a /\ H a ≠ none) H v d
 | .non, _, h => by cases h; exact .non
 | .bl b, _, h => by cases h; exact .bl b
 | .int i, _, h => by cases h; exact .int i
 | .fn x, _, h => by cases h with | fn e => exact .fn e
 | .lst ds, _, h => by
  cases h with
  | lst g s r => exact .lst ⟨g, xW s⟩ s (qe.there ds _ r)
  | lstK s r => exact .lstK s (qe.there ds _ r)
 | .tup ds, _, h => by
  cases h with
  | tup g s r => exact .tup ⟨g, xW s⟩ s (qe.there ds _ r)
  | tupK s r => exact .tupK s (qe.there ds _ r)
 | .obj c ns ds, _, h => by
  cases h with
  | obj g m s l r => exact .obj ⟨g, by rw [s]; exact fun z => nomatch z⟩ m s l (qe.there ds _ r)
theorem qe.there {G : Addr -> Prop} {H : Hp} : ∀ (ds : List D) (vs : List V), qe mg K G H vs ds -> qe mg K (fun a => G a /\ H a ≠ none) H vs ds
 | [], _, h => by cases h; exact .nil
 | d :: ds, _, h => by cases h with | cons a b => exact .cons (Rp.there d _ a) (qe.there ds _ b)
end
theorem Rp.weak {G G' : Addr -> Prop} {H : Hp} {v : V} {d : D} (h : Rp mg K G H v d) (k : ∀ a, G a -> G' a) : Rp mg K G' H v d := h.mono (fun a g => ⟨k a g, fun _ e => e⟩)
theorem Rp.same {G : Addr -> Prop} {H H' : Hp} {v : V} {d : D} (h : Rp mg K G H v d) (s : qk H H') : Rp mg K G H' v d := h.mono (fun a g => ⟨g, fun o e => s a o e⟩)
theorem qe.weak {G G' : Addr -> Prop} {H : Hp} {v : List V} {d : List D} (h : qe mg K G H v d) (k : ∀ a, G a -> G' a) : qe mg K G' H v d := h.mono (fun a g => ⟨k a g, fun _ e => e⟩)
theorem qe.same {G : Addr -> Prop} {H H' : Hp} {v : List V} {d : List D} (h : qe mg K G H v d) (s : qk H H') : qe mg K G H' v d := h.mono (fun a g => ⟨g, fun o e => s a o e⟩)
noncomputable def toV : D -> V
 | .non => .non
 | .bl b => .bl b
 | .int i => .int i
 | _ => .non
theorem Rp.vl {G : Addr -> Prop} {H : Hp} : ∀ {d : D}, d.sc = true -> Rp mg K G H (toV d) d
 | .non, _ => .non
 | .bl b, _ => .bl b
 | .int i, _ => .int i
 | .lst _, h => nomatch h
 | .tup _, h => nomatch h
 | .fn _, h => nomatch h
 | .obj _ _ _, h => nomatch h
theorem Rp.sc {G : Addr -> Prop} {H : Hp} {v : V} {d : D} (h : Rp mg K G H v d) (s : d.sc = true) : v = toV d := by
 cases h <;> first | rfl | cases s
theorem qe.vl {G : Addr -> Prop} {H : Hp} : ∀ {ds : List D}, ds.all D.sc = true -> qe mg K G H (ds.map toV) ds
 | [], _ => .nil
 | d :: ds, h => by
  rw [List.all_cons, Bool.and_eq_true] at h
  exact .cons (.vl h.1) (qe.vl h.2)
theorem qe.sc {G : Addr -> Prop} {H : Hp} : ∀ {vs : List V} {ds : List D}, qe mg K G H vs ds -> ds.all D.sc = true -> vs = ds.map toV
 | _, [], .nil, _ => rfl
 | _, d :: ds, .cons a b, h => by
  rw [List.all_cons, Bool.and_eq_true] at h
  rw [a.sc h.1, qe.sc b h.2]
  rfl
theorem qe.len {G : Addr -> Prop} {H : Hp} : ∀ {vs : List V} {ds : List D}, qe mg K G H vs ds -> vs.length = ds.length
 | _, _, .nil => rfl
 | _, _, .cons _ b => by rw [List.length_cons, List.length_cons, qe.len b]
theorem qe.getD {G : Addr -> Prop} {H : Hp} : ∀ {vs : List V} {ds : List D} {i : Nat} {d : D}, qe mg K G H vs ds -> ds[i]? = some d -> ∃ v, vs[i]? = some v /\ Rp mg K G H v d
 | _, _, i, _, .nil, e => by simp at e
 | _, _, 0, _, .cons a _, e => by simp at e; subst e; exact ⟨_, rfl, a⟩
 | _, _, i + 1, d, .cons _ b, e => by
  obtain ⟨v, h1, h2⟩ := qe.getD (i := i) (d := d) b (by simpa using e)
  exact ⟨v, by simpa using h1, h2⟩
theorem qe.append {G : Addr -> Prop} {H : Hp} : ∀ {vs us : List V} {ds es : List D}, qe mg K G H vs ds -> qe mg K G H us es -> qe mg K G H (vs ++ us) (ds ++ es)
 | _, _, _, _, .nil, h => h
 | _, _, _, _, .cons a b, h => .cons a (qe.append b h)
theorem qe.rep {G : Addr -> Prop} {H : Hp} {vs : List V} {ds : List D} (h : qe mg K G H vs ds) : ∀ n : Nat, qe mg K G H (List.replicate n vs).flatten (List.replicate n ds).flatten
 | 0 => .nil
 | n + 1 => by
  rw [List.replicate_succ, List.replicate_succ, List.flatten_cons, List.flatten_cons]
  exact h.append (qe.rep h n)
end
structure Bs where
 H0 : Hp
 P : Addr -> Prop
noncomputable def qE (B : Bs) (σ : St) (δ : Dl) (p : Addr) : Prop := B.P p \/ ∃ (i : Nat) (ds : List D), δ[i]? = some (.own ds) /\ σ[i]? = some (some (.ref p))
structure Rl (mg : Str -> Option Value) (K : PySem.W.Frag) (B : Bs) (H : Hp) (σ : St) (δ : Dl) : Prop where
 same : qk B.H0 H
 pd : ∀ p, B.P p -> H p ≠ none
 len : σ.length = δ.length
 val : ∀ (i : Nat) (d : D) (k : Bool), δ[i]? = some (.val d k) -> ∃ v, σ[i]? = some (some v) /\ Rp mg K (fun a => ¬ qE B σ δ a /\ (k = true -> B.H0 a = none)) H v d
 own : ∀ (i : Nat) (ds : List D), δ[i]? = some (.own ds) -> ds.all D.sc = true /\ ∃ p, σ[i]? = some (some (.ref p)) /\ B.H0 p = none /\ ¬ B.P p /\ H p = some (.lst (ds.map toV))
 apart : ∀ (i j : Nat) (p : Addr) (ds es : List D), δ[i]? = some (.own ds) -> δ[j]? = some (.own es) -> σ[i]? = some (some (.ref p)) -> σ[j]? = some (some (.ref p)) -> i = j
noncomputable def VR (mg : Str -> Option Value) (K : PySem.W.Frag) (B : Bs) (H H' : Hp) (σ : St) (δ : Dl) : Kd -> V -> D -> Prop
 | .bo, v, d => Rp mg K (fun a => ¬ B.P a) H' v d
 | .sh, v, d => Rp mg K (fun a => ¬ qE B σ δ a) H' v d
 | .nw, v, d => Rp mg K (fun a => ¬ qE B σ δ a /\ B.H0 a = none) H' v d
 | .fr, v, d => ∃ p ds, v = .ref p /\ d = .lst ds /\ ds.all D.sc = true /\ H p = none /\ H' p = some (.lst (ds.map toV))
section
variable {mg : Str -> Option Value} {K : PySem.W.Frag} {B : Bs} {H H1 H' H'' : Hp} {σ : St} {δ : Dl} {k l : Kd} {v : V} {d : D}
theorem qk.refl {H : Hp} : qk H H := fun _ _ e => e
theorem Rl.more (R : Rl mg K B H σ δ) (s : qk H H') : Rl mg K B H' σ δ :=
 ⟨R.same.trans s, fun p h => fun z => R.pd p h (s.free z), R.len, fun i d k e => let ⟨v, a, b⟩ := R.val i d k e; ⟨v, a, b.same s⟩, fun i ds e => let ⟨a, p, b, c, n, x⟩ := R.own i ds e; ⟨a, p, b, c, n, s _ _ x⟩, R.apart⟩
theorem Rl.owned (R : Rl mg K B H σ δ) {p : Addr} (h : qE B σ δ p) : H p ≠ none := by
 rcases h with h | ⟨i, ds, e, e2⟩
 ·exact R.pd p h
 ·obtain ⟨_, q, e3, _, _, e4⟩ := R.own i ds e
  rw [e2] at e3
  cases e3
  rw [e4]
  exact fun z => nomatch z
theorem Rl.fresh (R : Rl mg K B H σ δ) {p : Addr} (h : H p = none) : ¬ qE B σ δ p := fun o => R.owned o h
theorem VR.later (h : VR mg K B H H' σ δ k v d) (s : qk H' H'') : VR mg K B H H'' σ δ k v d := by
 cases k with
 | bo => exact Rp.same h s
 | sh => exact Rp.same h s
 | nw => exact Rp.same h s
 | fr => obtain ⟨p, ds, a, b, c, e, f⟩ := h; exact ⟨p, ds, a, b, c, e, s _ _ f⟩
theorem VR.yV (h : VR mg K B H1 H' σ δ k v d) (s : qk H H1) : VR mg K B H H' σ δ k v d := by
 cases k with
 | bo => exact h
 | sh => exact h
 | nw => exact h
 | fr => obtain ⟨p, ds, a, b, c, e, f⟩ := h; exact ⟨p, ds, a, b, c, s.free e, f⟩
theorem VR.wk (R : Rl mg K B H σ δ) (h : VR mg K B H H' σ δ .fr v d) : VR mg K B H H' σ δ .nw v d := by
 obtain ⟨p, ds, rfl, rfl, c, e, f⟩ := h
 exact .lst ⟨R.fresh e, R.same.free e⟩ (.of f) (.vl c)
theorem VR.wm (h : VR mg K B H H' σ δ .nw v d) : VR mg K B H H' σ δ .sh v d := Rp.weak h fun _ g => g.1
theorem VR.yI (h : VR mg K B H H' σ δ .sh v d) : VR mg K B H H' σ δ .bo v d := Rp.weak h fun _ g z => g (.inl z)
theorem VR.bo' (R : Rl mg K B H σ δ) (h : VR mg K B H H' σ δ k v d) : VR mg K B H H' σ δ .bo v d := by
 cases k with
 | bo => exact h
 | sh => exact VR.yI h
 | nw => exact VR.yI (VR.wm h)
 | fr => exact VR.yI (VR.wm (VR.wk R h))
theorem VR.rp (R : Rl mg K B H σ δ) (h : VR mg K B H H' σ δ k v d) : Rp mg K (fun _ => True) H' v d := by
 exact Rp.weak (VR.bo' R h) fun _ _ => trivial
theorem VR.low (R : Rl mg K B H σ δ) (l : Kd) (h : VR mg K B H H' σ δ k v d) : VR mg K B H H' σ δ (k.low l) v d := by
 cases k <;> cases l <;> first | exact h | exact VR.bo' R h | exact VR.wk R h | exact VR.wm h | exact VR.wm (VR.wk R h)
theorem VR.Yz (R : Rl mg K B H σ δ) (l : Kd) (h : VR mg K B H H' σ δ k v d) : VR mg K B H H' σ δ (l.low k) v d := by
 cases k <;> cases l <;> first | exact h | exact VR.bo' R h | exact VR.wk R h | exact VR.wm h | exact VR.wm (VR.wk R h)
theorem VR.vl (k : Kd) (hk : k ≠ .fr) (s : d.sc = true) : VR mg K B H H' σ δ k (toV d) d := by
 cases k <;> first | exact Rp.vl s | exact absurd rfl hk
theorem VR.int (i : Int) : VR mg K B H H' σ δ .nw (.int i) (.int i) := Rp.int i
theorem VR.bl (b : Bool) : VR mg K B H H' σ δ .nw (.bl b) (.bl b) := Rp.bl b
noncomputable def Gk (B : Bs) (σ : St) (δ : Dl) : Kd -> Addr -> Prop
 | .bo, a => ¬ B.P a
 | .sh, a => ¬ qE B σ δ a
 | _, a => ¬ qE B σ δ a /\ B.H0 a = none
theorem VR.gk (hk : k ≠ .fr) : VR mg K B H H' σ δ k v d = Rp mg K (Gk B σ δ k) H' v d := by
 cases k <;> first | rfl | exact absurd rfl hk
theorem low_ne (k l : Kd) : k.low l ≠ .fr := by cases k <;> cases l <;> intro z <;> cases z
theorem VR.items {ds : List D} (R : Rl mg K B H σ δ) (h : VR mg K B H H' σ δ k v (.lst ds)) : ∃ a xs, v = .ref a /\ SqL K H' a xs /\ qe mg K (Gk B σ δ (k.low .nw)) H' xs ds := by
 have h2 := VR.low R .nw h
 rw [VR.gk (low_ne _ _)] at h2
 cases h2 with
 | lst g s r => exact ⟨_, _, rfl, .inl s, r⟩
 | lstK s r => exact ⟨_, _, rfl, s _, r⟩
theorem VR.ZW {ds : List D} (R : Rl mg K B H σ δ) (h : VR mg K B H H' σ δ k v (.tup ds)) : ∃ a xs, v = .ref a /\ SqT K H' a xs /\ qe mg K (Gk B σ δ (k.low .nw)) H' xs ds := by
 have h2 := VR.low R .nw h
 rw [VR.gk (low_ne _ _)] at h2
 cases h2 with
 | tup g s r => exact ⟨_, _, rfl, .inl s, r⟩
 | tupK s r => exact ⟨_, _, rfl, s _, r⟩
theorem VR.laid {p : Addr} {xs : List V} {ds : List D} (R : Rl mg K B H σ δ) (s : qk H H') (hp : H' p = none) (hk : k ≠ .fr) (h : qe mg K (Gk B σ δ k) H' xs ds) : VR mg K B H (upd H' p (.lst xs)) σ δ (kL ds k) (.ref p) (.lst ds) := by
 unfold kL
 split
 ·rename_i c
  refine ⟨p, ds, rfl, rfl, c, s.free hp, ?_⟩
  rw [qH, qe.sc h c]
 ·rw [VR.gk hk]
  have sm : qk H' (upd H' p (.lst xs)) := fun b o e => by rw [qh (qy e hp)]; exact e
  refine .lst ?_ (.of qH) (h.same sm)
  cases k with
  | bo => exact fun z => R.pd p z (s.free hp)
  | sh => exact R.fresh (s.free hp)
  | nw => exact ⟨R.fresh (s.free hp), R.same.free (s.free hp)⟩
  | fr => exact absurd rfl hk
theorem vy {p : Addr} {o : HO} (hp : H p = none) : qk H (upd H p o) := fun b q e => by rw [qh (qy e hp)]; exact e
end
noncomputable def qt {α : Type} (mg : Str -> Option Value) (E : XK) (H : Hp) (o : Rs α) (k : α -> Prop) : Prop := match o with
 | .ok a => k a
 | .er c => ∀ C H', mg c = some (.ref C) -> qk H H' -> E (.ref C) none H'
 | .no => False
noncomputable def Fin (mg : Str -> Option Value) (K : PySem.W.Frag) (E : XK) (B : Bs) (H : Hp) (σ : St) (δ : Dl) (o : Rs DK) (Q : VK) : Prop :=
 qt mg E H o fun x => ∀ v H', qk H H' -> VR mg K B H H' σ δ x.2 v x.1 -> Q v H'
noncomputable def tE (mg : Str -> Option Value) (K : PySem.W.Frag) (E : XK) (r : RE) : TE := fun σ H Q => ∃ B δ, Rl mg K B H σ δ /\ Fin mg K E B H σ δ (r δ) Q
noncomputable def jU (mg : Str -> Option Value) (E : XK) (H : Hp) (o : Rs Bool) (Q : Bool -> Hp -> Prop) : Prop := qt mg E H o fun b => ∀ H', qk H H' -> Q b H'
noncomputable def tT (mg : Str -> Option Value) (K : PySem.W.Frag) (E : XK) (r : RT) : TT := fun σ H Q => ∃ B δ, Rl mg K B H σ δ /\ jU mg E H (r δ) Q
inductive VRs (mg : Str -> Option Value) (K : PySem.W.Frag) (B : Bs) (H H' : Hp) (σ : St) (δ : Dl) : List V -> List DK -> Prop
 | nil : VRs mg K B H H' σ δ [] []
 | cons {v : V} {vs : List V} {x : DK} {xs : List DK} : VR mg K B H H' σ δ x.2 v x.1 -> VRs mg K B H H' σ δ vs xs -> VRs mg K B H H' σ δ (v :: vs) (x :: xs)
noncomputable def FinA (mg : Str -> Option Value) (K : PySem.W.Frag) (E : XK) (B : Bs) (H : Hp) (σ : St) (δ : Dl) (o : Rs (List DK)) (Q : List V -> Hp -> Prop) : Prop :=
 qt mg E H o fun xs => ∀ vs H', qk H H' -> VRs mg K B H H' σ δ vs xs -> Q vs H'
noncomputable def tA (mg : Str -> Option Value) (K : PySem.W.Frag) (E : XK) (r : RA) : TA := fun σ H Q => ∃ B δ, Rl mg K B H σ δ /\ FinA mg K E B H σ δ (r δ) Q
section
variable {mg : Str -> Option Value} {K : PySem.W.Frag} {E : XK} {B : Bs} {H H1 H' H'' : Hp} {σ : St} {δ : Dl} {k l : Kd} {v : V} {d : D} {Q : VK}
theorem qt.bind {α β : Type} {x : Rs α} {f : α -> Rs β} {k : β -> Prop} (h : qt mg E H (x.bind f) k) : qt mg E H x fun a => qt mg E H (f a) k := by
 cases x with
 | ok a => exact h
 | er c => exact h
 | no => exact h
theorem qt.imp {α : Type} {x : Rs α} {k k' : α -> Prop} (h : qt mg E H x k) (i : ∀ a, k a -> k' a) : qt mg E H x k' := by
 cases x with
 | ok a => exact i a h
 | er c => exact h
 | no => exact h
theorem qt.more {α : Type} {x : Rs α} {k : α -> Prop} (h : qt mg E H x k) (s : qk H H') : qt mg E H' x k := by
 cases x with
 | ok a => exact h
 | er c => exact fun C H2 e s2 => h C H2 e (s.trans s2)
 | no => exact h
theorem Fin.more {o : Rs DK} (h : Fin mg K E B H σ δ o Q) (s : qk H H') : Fin mg K E B H' σ δ o Q :=
 qt.more (qt.imp h fun x q v H2 s2 r => q v H2 (s.trans s2) (r.yV s)) s
theorem jU.more {o : Rs Bool} {Q : Bool -> Hp -> Prop} (h : jU mg E H o Q) (s : qk H H') : jU mg E H' o Q := qt.more (qt.imp h fun x q H2 s2 => q H2 (s.trans s2)) s
theorem VRs.yV {vs : List V} {xs : List DK} (h : VRs mg K B H1 H' σ δ vs xs) (s : qk H H1) : VRs mg K B H H' σ δ vs xs := by
 induction h with
 | nil => exact .nil
 | cons a _ ih => exact .cons (a.yV s) ih
theorem VRs.rp (R : Rl mg K B H σ δ) {vs : List V} {xs : List DK} (h : VRs mg K B H H' σ δ vs xs) : qe mg K (fun _ => True) H' vs (xs.map (·.1)) := by
 induction h with
 | nil => exact .nil
 | cons a _ ih => exact .cons (a.rp R) ih
theorem VR.QN (R : Rl mg K B H σ δ) {x : DK} (h : VR mg K B H H' σ δ x.2 v x.1) (l : Kd) (s : x.1.sc = false -> ∃ m, l = x.2.low m \/ l = Kd.low m x.2) (hl : l ≠ .fr) : Rp mg K (Gk B σ δ l) H' v x.1 := by
 rw [<- VR.gk (H := H) hl]
 cases c : x.1.sc with
 | true =>
  have e := (h.rp R).sc c
  rw [e]
  exact VR.vl l hl c
 | false =>
  obtain ⟨m, e | e⟩ := s c
  ·rw [e]; exact VR.low R m h
  ·rw [e]; exact VR.Yz R m h
theorem w4 (a b c : Kd) : (a.low b).low c = a.low (b.low c) := by cases a <;> cases b <;> cases c <;> rfl
theorem yC (a b : Kd) : a.low b = b.low a := by cases a <;> cases b <;> rfl
theorem vO : ∀ xs : List DK, qw xs ≠ .fr
 | [] => fun z => nomatch z
 | x :: r => by
  unfold qw
  split
  ·exact vO r
  ·exact low_ne _ _
theorem VRs.kinds (R : Rl mg K B H σ δ) : ∀ {vs : List V} {xs : List DK}, VRs mg K B H H' σ δ vs xs -> ∀ m : Kd, m ≠ .fr -> qe mg K (Gk B σ δ (m.low (qw xs))) H' vs (xs.map (·.1))
 | _, _, .nil, _, _ => .nil
 | _, _, @VRs.cons _ _ _ _ _ _ _ v vs x xs a b, m, hm => by
  refine .cons ?_ ?_
  ·refine VR.QN R a _ (fun s => ?_) (low_ne _ _)
   unfold qw
   rw [if_neg (by rw [s]; decide), <- w4, yC m, w4]
   exact ⟨_, .inl rfl⟩
  ·unfold qw
   split
   ·exact VRs.kinds R b m hm
   ·rw [<- w4]
    exact VRs.kinds R b _ (low_ne _ _)
theorem VRs.ZM (R : Rl mg K B H σ δ) {vs : List V} {xs : List DK} (h : VRs mg K B H H' σ δ vs xs) : qe mg K (Gk B σ δ (qw xs)) H' vs (xs.map (·.1)) := by
 have q := VRs.kinds R h .nw (fun z => nomatch z)
 have e : Kd.low .nw (qw xs) = qw xs := by
  have := vO xs
  cases h : qw xs <;> first | rfl | exact absurd h this
 rw [e] at q
 exact q
end
section
variable {X : Cx} {E : XK} {a b : Expr} {ra rb : RE} {pos : Pos}
theorem vm {e : Expr} {t t' : TE} (h : PE X e t) (i : ∀ σ H Q, t' σ H Q -> t σ H Q) : PE X e t' := fun pins s σ H Q I hw => h pins s σ H Q I (i σ H Q hw)
theorem uf {e : Expr} {t t' : TT} (h : PT X e t) (i : ∀ σ H Q, t' σ H Q -> t σ H Q) : PT X e t' := fun pins s σ H Q I hw => h pins s σ H Q I (i σ H Q hw)
theorem vZ {e : Stmt} {t t' : TS} (h : PS X e t) (i : ∀ D σ H, t' D σ H -> t D σ H) : PS X e t' := fun pins s σ H D I hw => h pins s σ H D I (i D σ H hw)
noncomputable abbrev TEx (X : Cx) (E : XK) (r : RE) : TE := tE X.mg X.K E r
noncomputable abbrev TTx (X : Cx) (E : XK) (r : RT) : TT := tT X.mg X.K E r
noncomputable abbrev TAx (X : Cx) (E : XK) (r : RA) : TA := tA X.mg X.K E r
theorem ZA {i : Nat} {x : Str} (hN : X.N[i]? = some x) (hv : Vis X.env.scope x) (hd : (x == ("__debug__" : Str)) = false := by decide) (hcd : (x == ("__classdict__" : Str)) = false := by decide) : PE X (.Name x pos) (TEx X E (qb i)) := by
 refine vm (xP hN hv hd hcd) fun σ H Q ⟨B, δ, R, h⟩ => ?_
 unfold qb Fin at h
 cases hδ : δ[i]? with
 | none => rw [hδ] at h; exact h.elim
 | some s =>
  rw [hδ] at h
  cases s with
  | un => exact h.elim
  | val d k =>
   obtain ⟨v, e, q⟩ := R.val i d k hδ
   refine ⟨v, e, h v H qk.refl ?_⟩
   cases k with
   | true => exact Rp.weak q fun a g => ⟨g.1, g.2 rfl⟩
   | false => exact Rp.weak q fun a g => g.1
  | own ds =>
   obtain ⟨c, p, e, _, np, q⟩ := R.own i ds hδ
   exact ⟨.ref p, e, h (.ref p) H qk.refl (Rp.lst np (.of q) (.vl c))⟩
theorem qQ {i : Int} {j : Nat} : PE X (.Constant (.int i) j pos) (TEx X E (rC (.int i))) := vm jO fun σ H Q ⟨B, δ, R, h⟩ => h (.int i) H qk.refl (VR.int i)
theorem qZ {x : Str} {i : Int} (hg : Gl X x) (hm : ∃ t, X.mg x = some (.int i t)) (hd : (x == ("__debug__" : Str)) = false := by decide) : PE X (.Name x pos) (TEx X E (rC (.int i))) := by
 obtain ⟨t, hm⟩ := hm
 exact vm (Wr (v := .int i) hg hm ⟨t, rfl⟩ hd) fun σ H Q ⟨B, δ, R, h⟩ => h (.int i) H qk.refl (VR.int i)
noncomputable def vK (X : Cx) (f : DK -> DK -> Rs DK) (rr : R2) : Prop := ∀ (B : Bs) (H H' : Hp) (σ : St) (δ : Dl) (x y : V) (dx dy : DK) (Q : VK) (E : XK), Rl X.mg X.K B H σ δ -> qk H H' -> VR X.mg X.K B H H' σ δ dx.2 x dx.1 -> VR X.mg X.K B H H' σ δ dy.2 y dy.1 ->
 Fin X.mg X.K E B H' σ δ (f dx dy) Q -> rr x y H' Q
theorem two {f : DK -> DK -> Rs DK} {rr : R2} (F : vK X f rr) {σ : St} {H : Hp} {Q : VK} (h : TEx X E (qd f ra rb) σ H Q) : tOp rr (TEx X E ra) (TEx X E rb) σ H Q := by
 obtain ⟨B, δ, R, h⟩ := h
 refine ⟨B, δ, R, qt.imp (qt.bind h) fun dx h1 v H1 s1 r1 => ?_⟩
 refine ⟨B, δ, R.more s1, ?_⟩
 refine qt.imp (qt.more (qt.bind h1) s1) fun dy h2 w H2 s2 r2 => ?_
 exact F B H H2 σ δ v w dx dy Q E R (s1.trans s2) (r1.later s2) (r2.yV s1) (Fin.more h2 (s1.trans s2))
theorem qm {op : Operator} {f : DK -> DK -> Rs DK} {rr : R2} (ho : OpR X (binaryOp op) rr) (F : vK X f rr) (ha : PE X a (TEx X E ra)) (hb : PE X b (TEx X E rb)) : PE X (.BinOp a op b pos) (TEx X E (qd f ra rb)) :=
 vm (W0 ho ha hb) fun _ _ _ h => two F h
theorem ZL {op : CmpOp} {f : DK -> DK -> Rs DK} {rr : R2} (ho : OpR X (compareOp op) rr) (F : vK X f rr) (hm : behindInMarks op b = false) (ha : PE X a (TEx X E ra)) (hb : PE X b (TEx X E rb)) : PE X (.Compare a [op] [b] pos) (TEx X E (qd f ra rb)) :=
 vm (WD ho ha hb hm) fun _ _ _ h => two F h
theorem jX {r : RE} {σ : St} {H : Hp} {Q : Bool -> Hp -> Prop} (h : TTx X E (tBl r) σ H Q) : TEx X E r σ H fun x H' => ∃ k, x = .bl k /\ Q k H' := by
 obtain ⟨B, δ, R, h⟩ := h
 refine ⟨B, δ, R, ?_⟩
 unfold tBl jU at h
 refine qt.imp (qt.bind h) fun x h1 v H1 s1 r1 => ?_
 obtain ⟨d, k⟩ := x
 cases d with
 | bl b =>
  have e : v = toV (.bl b) := (r1.rp R).sc rfl
  exact ⟨b, e, h1 H1 s1⟩
 | non => exact h1.elim
 | int i => exact h1.elim
 | lst l => exact h1.elim
 | tup l => exact h1.elim
 | fn x => exact h1.elim
 | obj c ns l => exact h1.elim
theorem wa {op : CmpOp} {f : DK -> DK -> Rs DK} {rr : R2} (ho : OpR X (compareOp op) rr) (F : vK X f rr) (hm : behindInMarks op b = false) (ha : PE X a (TEx X E ra)) (hb : PE X b (TEx X E rb)) : PT X (.Compare a [op] [b] pos) (TTx X E (tBl (qd f ra rb))) :=
 uf (Wv ho ha hb hm) fun _ _ _ h => two F (jX h)
theorem Z3 {r : RE} (ha : PE X a (TEx X E r)) (he : ∀ whole, isTrue a X.env whole = (do let v <- whole; standAt a.pos; holding [v] (truthy v)) := by intro _; rfl) : PT X a (TTx X E (tBl r)) :=
 uf (Yo ha he) fun _ _ _ h => jX h
theorem Yn {r : RT} (ha : PT X a (TTx X E r)) : PT X (.UnaryOp .Not a pos) (TTx X E (uN r)) := by
 refine uf (Yd ha) fun σ H Q ⟨B, δ, R, h⟩ => ⟨B, δ, R, ?_⟩
 exact qt.imp (qt.bind h) fun x h1 H1 s1 => h1 H1 s1
theorem Qg {e : Expr} {t t' : TT} (h : PW X e t) (i : ∀ σ H Q, t' σ H Q -> t σ H Q) : PW X e t' := fun wh pins s σ H Q I hw => h wh pins s σ H Q I (i σ H Q hw)
theorem WN {r : RT} (ha : PT X a (TTx X E r)) : PW X (.BoolOp .And [a] pos) (TTx X E r) := Wx ha
theorem VO {r : RT} (ha : PT X a (TTx X E r)) : PW X (.BoolOp .Or [a] pos) (TTx X E r) := Zl ha
theorem Z7 {rest : List Expr} {r q : RT} (ha : PT X a (TTx X E r)) (hb : PW X (.BoolOp .And (b :: rest) pos) (TTx X E q)) : PW X (.BoolOp .And (a :: b :: rest) pos) (TTx X E (u6 r q)) := by
 refine Qg (ZC ha hb) fun σ H Q ⟨B, δ, R, h⟩ => ⟨B, δ, R, ?_⟩
 refine qt.imp (qt.bind h) fun x h1 H1 s1 => ?_
 cases x with
 | true => exact ⟨B, δ, R.more s1, jU.more h1 s1⟩
 | false => exact h1 H1 s1
theorem Zf {rest : List Expr} {r q : RT} (ha : PT X a (TTx X E r)) (hb : PW X (.BoolOp .Or (b :: rest) pos) (TTx X E q)) : PW X (.BoolOp .Or (a :: b :: rest) pos) (TTx X E (xh r q)) := by
 refine Qg (Y0 ha hb) fun σ H Q ⟨B, δ, R, h⟩ => ⟨B, δ, R, ?_⟩
 refine qt.imp (qt.bind h) fun x h1 H1 s1 => ?_
 cases x with
 | true => exact h1 H1 s1
 | false => exact ⟨B, δ, R.more s1, jU.more h1 s1⟩
theorem um {op : BoolOp} {es : List Expr} {r : RT} (h : PW X (.BoolOp op es pos) (TTx X E r)) : PT X (.BoolOp op es pos) (TTx X E r) := h.pt
theorem qI : PA X [] (TAx X E qu) := fun pos pins s σ H Q I ⟨B, δ, R, h⟩ => uc pos pins s σ H Q I (h [] H qk.refl .nil)
theorem WB {es : List Expr} {t t' : TA} (h : PA X es t) (i : ∀ σ H Q, t' σ H Q -> t σ H Q) : PA X es t' := fun pos pins s σ H Q I hw => h pos pins s σ H Q I (i σ H Q hw)
theorem qg {es : List Expr} {r : RE} {rr : RA} (ha : PE X a (TEx X E r)) (hr : PA X es (TAx X E rr)) (hs : starEach (a :: es) X.env = (false, eval a X.env) :: starEach es X.env := by rfl) : PA X (a :: es) (TAx X E (qc r rr)) := by
 refine WB (zx ha hr hs) fun σ H Q ⟨B, δ, R, h⟩ => ⟨B, δ, R, ?_⟩
 refine qt.imp (qt.bind h) fun x h1 v H1 s1 r1 => ⟨B, δ, R.more s1, ?_⟩
 refine qt.imp (qt.more (qt.bind h1) s1) fun xs h2 vs H2 s2 r2 => ?_
 exact h2 (v :: vs) H2 (s1.trans s2) (.cons (r1.later s2) (r2.yV s1))
theorem xB {r : RA} {σ : St} {H : Hp} {B : Bs} {δ : Dl} (R : Rl X.mg X.K B H σ δ) {Q : VK} {f : List DK -> Rs DK} {Q' : List V -> Hp -> Prop} (h : Fin X.mg X.K E B H σ δ ((r δ).bind f) Q)
  (i : ∀ xs vs H1, qk H H1 -> VRs X.mg X.K B H H1 σ δ vs xs -> Fin X.mg X.K E B H1 σ δ (f xs) Q -> Q' vs H1) : TAx X E r σ H Q' :=
 ⟨B, δ, R, qt.imp (qt.bind h) fun xs h1 vs H1 s1 r1 => i xs vs H1 s1 r1 (Fin.more h1 s1)⟩
theorem VRs.len {mg : Str -> Option Value} {K : PySem.W.Frag} {B : Bs} {H H' : Hp} {σ : St} {δ : Dl} {vs : List V} {xs : List DK} (h : VRs mg K B H H' σ δ vs xs) : vs.length = xs.length := by
 induction h with
 | nil => rfl
 | cons _ _ ih => rw [List.length_cons, List.length_cons, ih]
theorem yF {es : List Expr} {r : RA} (h : PA X es (TAx X E r)) : PE X (.List es pos) (TEx X E (wM r)) := by
 refine vm (js h) fun σ H Q ⟨B, δ, R, h⟩ => ?_
 refine xB R h fun xs vs H1 s1 r1 h1 => ?_
 by_cases hl : xs.length <= LIM
 ·rw [if_pos hl] at h1
  refine ⟨by rw [r1.len]; exact hl, fun p hp => ?_⟩
  refine h1 (.ref p) _ (vy hp) ?_
  exact VR.laid (R.more s1) qk.refl hp (vO xs) (r1.ZM R)
 ·rw [if_neg hl] at h1
  exact h1.elim
end
theorem yE {i : Int} (h : few i) : Builtin.Int.intBits i <= 60000 := by
 unfold Builtin.Int.intBits
 split
 ·exact Nat.zero_le _
 ·have hn : i.natAbs < 2 ^ 60000 := h
  have : i.natAbs.log2 < 60000 := by
   rcases Nat.eq_zero_or_pos i.natAbs with h0 | hp
   ·rw [h0, Nat.log2_zero]; exact Nat.zero_lt_of_lt (by exact (show 0 < 60000 by decide))
   ·exact (Nat.log2_lt (Nat.ne_of_gt hp)).mpr hn
  lia
theorem WZ {i j : Int} (h : few i) (h' : few j) : IntMulOk i j := by
 unfold IntMulOk
 have a := yE h
 have b := yE h'
 have c : Builtin.Int.intTooBig (Builtin.Int.intBits i + Builtin.Int.intBits j) = false := by
  unfold Builtin.Int.intTooBig
  refine decide_eq_false ?_
  have e : bitsLine = 134217728 := by decide
  lia
 rw [c]
 simp
section
variable {X : Cx}
theorem j4 : OpR X (binaryOp .Mult) (rI (fun i j => few i /\ few j) fun i j => .int (i * j)) := opI fun _ _ _ _ _ _ _ hc q => mul_int q (WZ hc.1 hc.2)
theorem v7 : OpR X (binaryOp .LShift) (rI (fun i j => 0 <= j /\ j <= 60000 /\ few i) fun i j => .int (i * 2 ^ j.toNat)) := opI fun i j _ _ _ _ _ hc q => by
 refine lshift_int hc.1 ?_ q
 have a := yE hc.2.2
 have b := hc.2.1
 have e : (2 : Int) ^ 27 = 134217728 := by decide
 lia
noncomputable def V6 (K : PySem.W.Frag) : R2 := fun x y H Q => ∃ l b xs zs, x = .ref l /\ y = .ref b /\ SqL K H l xs /\ SqL K H b zs /\ xs.length + zs.length <= sizeLine /\ ∀ p, H p = none -> Q (.ref p) (upd H p (.lst (xs ++ zs)))
theorem Wh : OpR X (binaryOp .Add) (V6 X.K) := by
 intro pins s σ H x y v u Q I rx ry h
 obtain ⟨l, b, xs, zs, rfl, rfl, hH, hB, hz, q⟩ := h
 cases rx
 cases ry
 obtain ⟨its, r, p1, z1⟩ := I.list hH
 obtain ⟨its2, r2, p2, z2⟩ := I.list hB
 have l1 := r.length
 have l2 := r2.length
 obtain ⟨⟨cls, dd, data, sl⟩, ho, hc, n, hd⟩ := id p1.isList
 obtain ⟨⟨cls2, dd2, data2, sl2⟩, ho2, hc2, n2, hd2⟩ := id p2.isList
 simp only at hc hd hc2 hd2
 subst hc hd hc2 hd2
 have e : its.toArray ++ its2.toArray = (its ++ its2).toArray := by simp
 refine concat_meets ⟨_, ho, rfl⟩ ⟨_, ho2, rfl⟩ noFill_list_add seq_list_add PySem.F.slot_list_add PySem.F.entry_list_add (PySem.F.args_list_add_2 _ _) (list_addW l b its.toArray its2.toArray n n2 dd dd2 sl sl2 (by rw [List.size_toArray, List.size_toArray]; lia)) ⟨ho, ho2, ?_⟩
 rw [e]
 exact ⟨.ref _, _, I.Ya (t' := s.toks) (r.append r2) (by rw [List.length_append]; lia), rfl, q _ I.fresh⟩
theorem qT {mg : Str -> Option Value} {K : PySem.W.Frag} {B : Bs} {H H' : Hp} {σ : St} {δ : Dl} {k : Kd} {v : V} {i : Int} (R : Rl mg K B H σ δ) (h : VR mg K B H H' σ δ k v (.int i)) : v = .int i := (h.rp R).sc rfl
theorem Ql {mg : Str -> Option Value} {K : PySem.W.Frag} {B : Bs} {H H' : Hp} {σ : St} {δ : Dl} {k : Kd} {v : V} {i : Bool} (R : Rl mg K B H σ δ) (h : VR mg K B H H' σ δ k v (.bl i)) : v = .bl i := (h.rp R).sc rfl
theorem wt : vK X vR (fun x y H Q => rI0 (fun i j => .int (i + j)) x y H Q \/ V6 X.K x y H Q) := by
 rintro B H H' σ δ x y ⟨dx, kx⟩ ⟨dy, ky⟩ Q E R s r1 r2 h
 cases dx with
 | int i =>
  cases dy with
  | int j => exact .inl ⟨i, j, qT R r1, qT R r2, h _ H' qk.refl (VR.int _)⟩
  | _ => exact h.elim
 | lst xs =>
  cases dy with
  | lst ys =>
   right
   obtain ⟨a, vs, rfl, q1, g1⟩ := VR.items R r1
   obtain ⟨b, us, rfl, q2, g2⟩ := VR.items R r2
   simp only [vR] at h
   by_cases hl : xs.length + ys.length <= LIM
   ·rw [if_pos hl] at h
    refine ⟨a, b, vs, us, rfl, rfl, q1, q2, by rw [g1.len, g2.len]; exact hl, fun p hp => ?_⟩
    refine h _ _ (vy hp) (VR.laid (R.more s) qk.refl hp (low_ne _ _) (qe.append ?_ ?_))
    ·refine g1.weak fun a g => ?_
     revert g
     cases kx <;> cases ky <;> first | exact fun g => g | exact fun g => g.1 | exact fun g z => g (.inl z) | exact fun g z => g.1 (.inl z)
    ·refine g2.weak fun a g => ?_
     revert g
     cases kx <;> cases ky <;> first | exact fun g => g | exact fun g => g.1 | exact fun g z => g (.inl z) | exact fun g z => g.1 (.inl z)
   ·rw [if_neg hl] at h
    exact h.elim
  | _ => exact h.elim
 | _ => exact h.elim
theorem vL : OpR X (binaryOp .Add) (fun x y H Q => rI0 (fun i j => .int (i + j)) x y H Q \/ V6 X.K x y H Q) := ZN.or Wh
theorem xN {f : DK -> DK -> Rs DK} {g : Int -> Int -> V} {c : Int -> Int -> D} (hf : ∀ dx dy, f dx dy = match dx.1, dy.1 with | .int i, .int j => .ok (c i j, .nw) | _, _ => .no) (hg : ∀ i j, g i j = toV (c i j)) (hc : ∀ i j, (c i j).sc = true) : vK X f (rI0 g) := by
 rintro B H H' σ δ x y ⟨dx, kx⟩ ⟨dy, ky⟩ Q E R s r1 r2 h
 rw [hf] at h
 cases dx with
 | int i =>
  cases dy with
  | int j => exact ⟨i, j, qT R r1, qT R r2, by rw [hg]; exact h _ H' qk.refl (VR.vl _ (fun z => nomatch z) (hc i j))⟩
  | _ => exact h.elim
 | _ => exact h.elim
theorem ub {f : DK -> DK -> Rs DK} {C : Int -> Int -> Prop} {g : Int -> Int -> V} {c : Int -> Int -> D} (h1 : ∀ i j k l, C i j -> f (.int i, k) (.int j, l) = .ok (c i j, .nw)) (h2 : ∀ i j k l, ¬ C i j -> f (.int i, k) (.int j, l) = .no)
  (h3 : ∀ dx dy, (∀ i k, dx ≠ (.int i, k)) \/ (∀ i k, dy ≠ (.int i, k)) -> f dx dy = .no) (hg : ∀ i j, g i j = toV (c i j)) (hc : ∀ i j, (c i j).sc = true) : vK X f (rI C g) := by
 rintro B H H' σ δ x y ⟨dx, kx⟩ ⟨dy, ky⟩ Q E R s r1 r2 h
 by_cases ex : ∃ i, dx = .int i
 ·obtain ⟨i, rfl⟩ := ex
  by_cases ey : ∃ j, dy = .int j
  ·obtain ⟨j, rfl⟩ := ey
   by_cases cc : C i j
   ·rw [h1 i j _ _ cc] at h
    exact ⟨i, j, qT R r1, qT R r2, cc, by rw [hg]; exact h _ H' qk.refl (VR.vl _ (fun z => nomatch z) (hc i j))⟩
   ·rw [h2 i j _ _ cc] at h
    exact h.elim
  ·rw [h3 _ _ (.inr fun j k z => ey ⟨j, congrArg Prod.fst z⟩)] at h
   exact h.elim
 ·rw [h3 _ _ (.inl fun j k z => ex ⟨j, congrArg Prod.fst z⟩)] at h
  exact h.elim
theorem wz : vK X vH (rI0 fun i j => .int (i - j)) := xN (c := fun i j => .int (i - j)) (by rintro ⟨dx, kx⟩ ⟨dy, ky⟩; cases dx <;> cases dy <;> rfl) (fun _ _ => rfl) fun _ _ => rfl
theorem jG (g : Int -> Int -> Int) : vK X (jg g) (rI0 fun i j => .int (g i j)) := xN (c := fun i j => .int (g i j)) (by rintro ⟨dx, kx⟩ ⟨dy, ky⟩; cases dx <;> cases dy <;> rfl) (fun _ _ => rfl) fun _ _ => rfl
theorem zJ (g : Int -> Int -> Bool) : vK X (zb g) (rI0 fun i j => .bl (g i j)) := xN (c := fun i j => .bl (g i j)) (by rintro ⟨dx, kx⟩ ⟨dy, ky⟩; cases dx <;> cases dy <;> rfl) (fun _ _ => rfl) fun _ _ => rfl
theorem ZY : vK X oMod (rI (fun _ j => 0 < j) fun i j => .int (i % j)) := ub (c := fun i j => .int (i % j)) (fun i j k l c => by unfold oMod; exact if_pos c) (fun i j k l c => by unfold oMod; exact if_neg c)
 (fun ⟨dx, kx⟩ ⟨dy, ky⟩ h => by cases dx <;> cases dy <;> first | rfl | (rcases h with h | h <;> exact absurd rfl (h _ _))) (fun _ _ => rfl) fun _ _ => rfl
theorem wN : vK X vN (rI (fun i j => 0 <= j /\ j <= 60000 /\ few i) fun i j => .int (i * 2 ^ j.toNat)) := ub (c := fun i j => .int (i * 2 ^ j.toNat)) (fun i j k l c => by unfold vN; exact if_pos c) (fun i j k l c => by unfold vN; exact if_neg c)
 (fun ⟨dx, kx⟩ ⟨dy, ky⟩ h => by cases dx <;> cases dy <;> first | rfl | (rcases h with h | h <;> exact absurd rfl (h _ _))) (fun _ _ => rfl) fun _ _ => rfl
theorem jz : vK X zO (rI (fun _ j => 0 <= j) fun i j => .int (i / 2 ^ j.toNat)) := ub (c := fun i j => .int (i / 2 ^ j.toNat)) (fun i j k l c => by unfold zO; exact if_pos c) (fun i j k l c => by unfold zO; exact if_neg c)
 (fun ⟨dx, kx⟩ ⟨dy, ky⟩ h => by cases dx <;> cases dy <;> first | rfl | (rcases h with h | h <;> exact absurd rfl (h _ _))) (fun _ _ => rfl) fun _ _ => rfl
theorem Q9 : vK X uq (fun x y H Q => rI (fun i j => few i /\ few j) (fun i j => .int (i * j)) x y H Q \/ YI x y H Q) := by
 rintro B H H' σ δ x y ⟨dx, kx⟩ ⟨dy, ky⟩ Q E R s r1 r2 h
 cases dx with
 | int i =>
  cases dy with
  | int j =>
   simp only [uq] at h
   by_cases c : few i /\ few j
   ·rw [if_pos c] at h
    exact .inl ⟨i, j, qT R r1, qT R r2, c, h _ H' qk.refl (VR.int _)⟩
   ·rw [if_neg c] at h
    exact h.elim
  | _ => exact h.elim
 | lst xs =>
  cases dy with
  | int j =>
   right
   simp only [uq] at h
   cases kx with
   | fr =>
    obtain ⟨p, ds, rfl, e, c, _, hp⟩ := r1
    cases e
    dsimp only at h
    by_cases c2 : (0 <= j /\ j < 1000000) /\ xs.length * j.toNat <= LIM
    ·rw [if_pos c2] at h
     refine ⟨p, j, _, rfl, qT R r2, hp, by lia, by lia, by rw [List.length_map]; exact c2.2, fun q hq => ?_⟩
     refine h _ _ (vy hq) (VR.laid (k := .nw) (R.more s) qk.refl hq (fun z => nomatch z) (qe.rep (.vl c) _))
    ·rw [if_neg c2] at h
     exact h.elim
   | _ => exact h.elim
  | _ => cases kx <;> exact False.elim h
 | _ => exact h.elim
end
noncomputable def RR (mg : Str -> Option Value) (K : PySem.W.Frag) (H H' : Hp) : Bool -> V -> D -> Prop
 | true, v, d => ∃ p ds, v = .ref p /\ d = .lst ds /\ ds.all D.sc = true /\ H p = none /\ H' p = some (.lst (ds.map toV))
 | false, v, d => Rp mg K (fun a => H a = none) H' v d
noncomputable def Frm (B : Bs) (σ : St) (δ : Dl) (H : Hp) (σ' : St) (δ' : Dl) (H' : Hp) : Prop := ∀ b o, H b = some o -> ¬ qE B σ δ b -> H' b = some o /\ ¬ qE B σ' δ' b
theorem Frm.refl {B : Bs} {σ : St} {δ : Dl} {H : Hp} : Frm B σ δ H σ δ H := fun _ _ e n => ⟨e, n⟩
theorem Frm.trans {B : Bs} {σ σ1 σ2 : St} {δ δ1 δ2 : Dl} {H H1 H2 : Hp} (a : Frm B σ δ H σ1 δ1 H1) (b : Frm B σ1 δ1 H1 σ2 δ2 H2) : Frm B σ δ H σ2 δ2 H2 := fun c o e n => b c o (a c o e n).1 (a c o e n).2
theorem Frm.grow {B : Bs} {σ : St} {δ : Dl} {H H' : Hp} (s : qk H H') : Frm B σ δ H σ δ H' := fun b o e n => ⟨s b o e, n⟩
noncomputable def wo (mg : Str -> Option Value) (K : PySem.W.Frag) (E : XK) (B : Bs) (H : Hp) (σ : St) (δ : Dl) (o : Out) (D : Ends) : Prop := match o with
 | .nx δ' => ∀ σ' H', Rl mg K B H' σ' δ' -> Frm B σ δ H σ' δ' H' -> D.nx σ' H'
 | .bk δ' => ∀ σ' H', Rl mg K B H' σ' δ' -> Frm B σ δ H σ' δ' H' -> D.bk σ' H'
 | .ct δ' => ∀ σ' H', Rl mg K B H' σ' δ' -> Frm B σ δ H σ' δ' H' -> D.ct σ' H'
 | .rt d k => ∀ v H', qk B.H0 H' -> RR mg K B.H0 H' k v d -> D.rt v H'
 | .er c => ∀ C H', mg c = some (.ref C) -> qk B.H0 H' -> E (.ref C) none H'
 | .no => False
noncomputable def tS (mg : Str -> Option Value) (K : PySem.W.Frag) (E : XK) (r : RS) : TS := fun D σ H => ∃ B δ, Rl mg K B H σ δ /\ wo mg K E B H σ δ (r δ) D
noncomputable abbrev TSx (X : Cx) (E : XK) (r : RS) : TS := tS X.mg X.K E r
section
variable {mg : Str -> Option Value} {K : PySem.W.Frag} {E : XK} {B : Bs} {H H1 H' : Hp} {σ σ1 : St} {δ δ1 : Dl} {v : V} {d : D} {i : Nat}
theorem wo.later {o : Out} {D : Ends} (h : wo mg K E B H σ δ o D) (f : Frm B σ δ H σ1 δ1 H1) : wo mg K E B H1 σ1 δ1 o D := by
 cases o with
 | nx δ' => exact fun σ' H' R f' => h σ' H' R (f.trans f')
 | bk δ' => exact fun σ' H' R f' => h σ' H' R (f.trans f')
 | ct δ' => exact fun σ' H' R f' => h σ' H' R (f.trans f')
 | rt d k => exact h
 | er c => exact h
 | no => exact h
theorem wO {s : Sl} (hs : ∀ ds, s ≠ .own ds) {w : Option V} {p : Addr} (h : qE B (σ.set i w) (δ.set i s) p) : qE B σ δ p := by
 rcases h with h | ⟨j, ds, e1, e2⟩
 ·exact .inl h
 ·right
  by_cases hj : i = j
  ·subst hj
   by_cases hi : i < δ.length
   ·rw [List.getElem?_set_self hi] at e1
    exact absurd (Option.some.inj e1) (hs ds)
   ·rw [List.getElem?_eq_none (by rw [List.length_set]; lia)] at e1
    cases e1
  ·rw [List.getElem?_set_ne hj] at e1 e2
   exact ⟨j, ds, e1, e2⟩
theorem Rl.jk {k : Bool} (R : Rl mg K B H σ δ) (r : Rp mg K (fun a => ¬ qE B σ δ a /\ (k = true -> B.H0 a = none)) H v d) : Rl mg K B H (σ.set i (some v)) (δ.set i (.val d k)) := by
 have sub : ∀ a, ¬ qE B σ δ a -> ¬ qE B (σ.set i (some v)) (δ.set i (.val d k)) a := fun a n z => n (wO (fun _ q => by cases q) z)
 refine ⟨R.same, R.pd, by rw [List.length_set, List.length_set]; exact R.len, fun j d' k' e => ?_, fun j ds e => ?_, fun j l p ds es e1 e2 e3 e4 => ?_⟩
 ·by_cases hj : i = j
  ·subst hj
   by_cases hi : i < δ.length
   ·rw [List.getElem?_set_self hi] at e
    cases e
    exact ⟨v, List.getElem?_set_self (by rw [R.len]; exact hi), r.weak fun a g => ⟨sub a g.1, g.2⟩⟩
   ·rw [List.getElem?_eq_none (by rw [List.length_set]; lia)] at e
    cases e
  ·rw [List.getElem?_set_ne hj] at e ⊢
   obtain ⟨w, h1, h2⟩ := R.val j d' k' e
   exact ⟨w, h1, h2.weak fun a g => ⟨sub a g.1, g.2⟩⟩
 ·by_cases hj : i = j
  ·subst hj
   by_cases hi : i < δ.length
   ·rw [List.getElem?_set_self hi] at e
    cases e
   ·rw [List.getElem?_eq_none (by rw [List.length_set]; lia)] at e
    cases e
  ·rw [List.getElem?_set_ne hj] at e ⊢
   exact R.own j ds e
 ·have ne : ∀ {j : Nat} {ds : List D}, (δ.set i (.val d k))[j]? = some (.own ds) -> i ≠ j := fun {j ds} e q => by
   subst q
   by_cases hi : i < δ.length
   ·rw [List.getElem?_set_self hi] at e
    cases e
   ·rw [List.getElem?_eq_none (by rw [List.length_set]; lia)] at e
    cases e
  have n1 := ne e1
  have n2 := ne e2
  rw [List.getElem?_set_ne n1] at e1 e3
  rw [List.getElem?_set_ne n2] at e2 e4
  exact R.apart j l p ds es e1 e2 e3 e4
theorem zh {k : Bool} : Frm B σ δ H (σ.set i (some v)) (δ.set i (.val d k)) H := fun b o e n => ⟨e, fun z => n (wO (fun _ q => by cases q) z)⟩
theorem Rl.Yg {p : Addr} {ds : List D} (R : Rl mg K B H σ δ) (s : qk H H') (hp : H p = none) (hp' : H' p = some (.lst (ds.map toV))) (c : ds.all D.sc = true) : Rl mg K B H' (σ.set i (some (.ref p))) (δ.set i (.own ds)) /\ Frm B σ δ H (σ.set i (some (.ref p))) (δ.set i (.own ds)) H' := by
 have get : ∀ {j : Nat} {x : Sl}, (δ.set i (.own ds))[j]? = some x -> (i = j /\ i < δ.length /\ x = .own ds) \/ (i ≠ j /\ δ[j]? = some x) := fun {j x} e => by
  by_cases hj : i = j
  ·subst hj
   by_cases hi : i < δ.length
   ·rw [List.getElem?_set_self hi] at e
    exact .inl ⟨rfl, hi, (Option.some.inj e).symm⟩
   ·rw [List.getElem?_eq_none (by rw [List.length_set]; lia)] at e
    cases e
  ·rw [List.getElem?_set_ne hj] at e
   exact .inr ⟨hj, e⟩
 have sub : ∀ a, H a ≠ none -> ¬ qE B σ δ a -> ¬ qE B (σ.set i (some (.ref p))) (δ.set i (.own ds)) a := fun a ha n z => by
  rcases z with z | ⟨j, es, e1, e2⟩
  ·exact n (.inl z)
  ·rcases get e1 with ⟨rfl, hi, _⟩ | ⟨hj, e1⟩
   ·rw [List.getElem?_set_self (by rw [R.len]; exact hi)] at e2
    cases e2
    exact ha hp
   ·rw [List.getElem?_set_ne hj] at e2
    exact n (.inr ⟨j, es, e1, e2⟩)
 have R' := R.more s
 refine ⟨⟨R'.same, R'.pd, by rw [List.length_set, List.length_set]; exact R.len, fun j d' k' e => ?_, fun j es e => ?_, fun j l q es fs e1 e2 e3 e4 => ?_⟩, fun b o e n => ⟨s b o e, sub b (by rw [e]; exact fun z => nomatch z) n⟩⟩
 ·rcases get e with ⟨_, _, z⟩ | ⟨hj, e⟩
  ·cases z
  ·obtain ⟨w, h1, h2⟩ := R.val j d' k' e
   rw [List.getElem?_set_ne hj]
   exact ⟨w, h1, (Rp.weak (Rp.there _ _ h2) fun a g => ⟨sub a g.2 g.1.1, g.1.2⟩).same s⟩
 ·rcases get e with ⟨rfl, hi, z⟩ | ⟨hj, e⟩
  ·cases z
   exact ⟨c, p, List.getElem?_set_self (by rw [R.len]; exact hi), R.same.free hp, fun z => R.pd p z hp, hp'⟩
  ·rw [List.getElem?_set_ne hj]
   exact R'.own j es e
 ·have pne : ∀ {j : Nat} {es : List D} {q : Addr}, δ[j]? = some (.own es) -> σ[j]? = some (some (.ref q)) -> q ≠ p := fun {j es q} e1 e2 z => by
   have := R.owned (.inr ⟨j, es, e1, e2⟩)
   rw [z] at this
   exact this hp
  rcases get e1 with ⟨h1, hi, _⟩ | ⟨h1, e1⟩
  ·rcases get e2 with ⟨h2, _, _⟩ | ⟨h2, e2⟩
   ·exact h1.symm.trans h2
   ·subst h1
    rw [List.getElem?_set_self (by rw [R.len]; exact hi)] at e3
    rw [List.getElem?_set_ne h2] at e4
    cases e3
    exact absurd rfl (pne e2 e4)
  ·rw [List.getElem?_set_ne h1] at e3
   rcases get e2 with ⟨h2, hi, _⟩ | ⟨h2, e2⟩
   ·subst h2
    rw [List.getElem?_set_self (by rw [R.len]; exact hi)] at e4
    cases e4
    exact absurd rfl (pne e1 e3)
   ·rw [List.getElem?_set_ne h2] at e4
    exact R.apart j l q es fs e1 e2 e3 e4
theorem yc {δ : Dl} {j : Nat} {x : Sl} (h : (freeze δ)[j]? = some x) : ∃ y, δ[j]? = some y /\ x = frz y := by
 unfold freeze at h
 rw [List.getElem?_map] at h
 cases e : δ[j]? with
 | none => rw [e] at h; cases h
 | some y => rw [e] at h; exact ⟨y, rfl, (Option.some.inj h).symm⟩
theorem w9 {p : Addr} (h : qE B σ (freeze δ) p) : B.P p := by
 rcases h with h | ⟨j, ds, e, _⟩
 ·exact h
 ·obtain ⟨y, _, z⟩ := yc e
  cases y <;> cases z
theorem Rl.frz (R : Rl mg K B H σ δ) : Rl mg K B H σ (freeze δ) := by
 refine ⟨R.same, R.pd, by unfold freeze; rw [List.length_map]; exact R.len, fun j d k e => ?_, fun j ds e => ?_, fun j l p ds es e1 _ _ _ => ?_⟩
 ·obtain ⟨y, h, z⟩ := yc e
  cases y with
  | un => cases z
  | val d' k' =>
   cases z
   obtain ⟨w, h1, h2⟩ := R.val j _ _ h
   exact ⟨w, h1, h2.weak fun a g => ⟨fun z => g.1 (.inl (w9 z)), g.2⟩⟩
  | own ds =>
   cases z
   obtain ⟨c, p, h1, h2, h3, h4⟩ := R.own j ds h
   exact ⟨.ref p, h1, .lst ⟨fun z => h3 (w9 z), fun _ => h2⟩ (.of h4) (.vl c)⟩
 ·obtain ⟨y, _, z⟩ := yc e
  cases y <;> cases z
 ·obtain ⟨y, _, z⟩ := yc e1
  cases y <;> cases z
theorem WI : Frm B σ δ H σ (freeze δ) H := fun b o e n => ⟨e, fun z => n (.inl (w9 z))⟩
theorem Rl.Xa {ds : List D} (R : Rl mg K B H σ δ) (hδ : δ[i]? = some (.own ds)) : Rl mg K B H σ (δ.set i (.val (.lst ds) true)) /\ Frm B σ δ H σ (δ.set i (.val (.lst ds) true)) H := by
 obtain ⟨c, p, h1, h2, h3, h4⟩ := R.own i ds hδ
 have hi : i < σ.length := (List.getElem?_eq_some_iff.mp h1).1
 have e : σ.set i (some (.ref p)) = σ := by
  refine List.ext_getElem? fun j => ?_
  by_cases hj : i = j
  ·subst hj
   rw [List.getElem?_set_self hi, h1]
  ·rw [List.getElem?_set_ne hj]
 have sub : ∀ a, qE B σ (δ.set i (.val (.lst ds) true)) a -> qE B σ δ a := fun a z => by
  rw [<- e] at z
  exact wO (fun _ q => by cases q) z
 have np : ¬ qE B σ (δ.set i (.val (.lst ds) true)) p := fun z => by
  rcases z with z | ⟨j, es, e1, e2⟩
  ·exact h3 z
  ·by_cases hj : i = j
   ·subst hj
    rw [List.getElem?_set_self (by rw [<- R.len]; exact hi)] at e1
    cases e1
   ·rw [List.getElem?_set_ne hj] at e1
    exact hj (R.apart i j p ds es hδ e1 h1 e2)
 refine ⟨⟨R.same, R.pd, by rw [List.length_set]; exact R.len, fun j d k q => ?_, fun j es q => ?_, fun j l q fs gs e1 e2 e3 e4 => ?_⟩, fun b o q n => ⟨q, fun z => n (sub b z)⟩⟩
 ·by_cases hj : i = j
  ·subst hj
   rw [List.getElem?_set_self (by rw [<- R.len]; exact hi)] at q
   cases q
   exact ⟨_, h1, .lst ⟨np, fun _ => h2⟩ (.of h4) (.vl c)⟩
  ·rw [List.getElem?_set_ne hj] at q
   obtain ⟨w, g1, g2⟩ := R.val j d k q
   exact ⟨w, g1, g2.weak fun a g => ⟨fun z => g.1 (sub a z), g.2⟩⟩
 ·by_cases hj : i = j
  ·subst hj
   rw [List.getElem?_set_self (by rw [<- R.len]; exact hi)] at q
   cases q
  ·rw [List.getElem?_set_ne hj] at q
   exact R.own j es q
 ·have get : ∀ {j : Nat} {es : List D}, (δ.set i (.val (.lst ds) true))[j]? = some (.own es) -> δ[j]? = some (.own es) := fun {j es} q => by
   by_cases hj : i = j
   ·subst hj
    rw [List.getElem?_set_self (by rw [<- R.len]; exact hi)] at q
    cases q
   ·rw [List.getElem?_set_ne hj] at q
    exact q
  exact R.apart j l q fs gs (get e1) (get e2) e3 e4
theorem VR.slot {k : Kd} (R : Rl mg K B H σ δ) (s : qk H H') (r : VR mg K B H H' σ δ k v d) (h : k ≠ .bo \/ d.sc = true) : ∃ d' b, zP (d, if d.sc = true then .nw else k) = .val d' b /\ d' = d /\ Rp mg K (fun a => ¬ qE B σ δ a /\ (b = true -> B.H0 a = none)) H' v d := by
 refine ⟨d, _, rfl, rfl, ?_⟩
 cases c : d.sc with
 | true =>
  have e := (r.rp R).sc c
  rw [e]
  exact Rp.vl c
 | false =>
  rw [if_neg (by decide)]
  rcases h with h | h
  ·cases k with
   | bo => exact absurd rfl h
   | sh => exact Rp.weak r fun a g => ⟨g, fun z => nomatch z⟩
   | nw => exact Rp.weak r fun a g => ⟨g.1, fun _ => g.2⟩
   | fr => exact Rp.weak (VR.wk R r) fun a g => ⟨g.1, fun _ => g.2⟩
  ·rw [c] at h
   cases h
end
structure Gd (X : Cx) (E : XK) : Prop where
 calm : X.calm = true
 nd : X.N.Nodup
 acc : Acc X E
 own : PassesOwn (model X.prog X.w) X.A X.env X.xe
theorem jN {X : Cx} {E : XK} {L : Addr} (hst : X.stack = X.env :: X.outer) (hfr : X.env.frame = some L) : PassesOwn (model X.prog X.w) X.A X.env (Arr X E) := by
 intro e s1 x
 obtain ⟨a, cls, B, H', pins, σ, rfl, I, hd, kb, q⟩ := x
 have hfrm : X.A.frames = some (X.env :: X.outer) := by rw [<- hst]; exact I.ok.frames
 have hd0 := hd
 rw [hst] at hd0
 refine wg hfrm hfr hfr hd0 fun h1 hd1 up1 => ?_
 rw [<- hst] at hd1
 obtain ⟨I1, kb1⟩ := qV I hd kb hd1.hand up1
 unfold cameBackBy
 refine wpAny_bind (zD hd1 fun T => ?_)
 rw [if_neg (show ¬ ((Value.ref T == Value.none) = true) from by simp)]
 refine vg hd1 fun h2 hd2 up2 => ?_
 obtain ⟨I2, kb2⟩ := qV I1 hd1.hand kb1 hd2.hand up2
 exact ⟨a, cls, B, H', pins, σ, rfl, I2, hd2.hand, kb2, q⟩
section
variable {X : Cx} {E : XK} {pos : Pos}
theorem u0 {st : List Stmt} {t t' : TS} (h : PSs X st t) (i : ∀ D σ H, t' D σ H -> t D σ H) : PSs X st t' := fun pins s σ H D I hw => h pins s σ H D I (i D σ H hw)
theorem v9 : PSs X [] (TSx X E vJ) := u0 Wm fun D σ H ⟨B, δ, R, h⟩ => h σ H R Frm.refl
theorem Yj {a b : RS} {D : Ends} {σ : St} {H : Hp} (h : TSx X E (vu a b) D σ H) : TSx X E a { D with nx := TSx X E b D } σ H := by
 obtain ⟨B, δ, R, h⟩ := h
 refine ⟨B, δ, R, ?_⟩
 unfold vu Out.andThen at h
 cases ha : a δ with
 | nx δ1 =>
  rw [ha] at h
  exact fun σ1 H1 R1 f1 => ⟨B, δ1, R1, wo.later h f1⟩
 | bk δ1 => rw [ha] at h; exact h
 | ct δ1 => rw [ha] at h; exact h
 | rt d k => rw [ha] at h; exact h
 | er c => rw [ha] at h; exact h
 | no => rw [ha] at h; exact h
theorem qJ {st : Stmt} {rest : List Stmt} {a b : RS} (h1 : PS X st (TSx X E a)) (h2 : PSs X rest (TSx X E b)) : PSs X (st :: rest) (TSx X E (vu a b)) := u0 (uS h1 h2) fun _ _ _ h => Yj h
theorem qA {st : Stmt} {a : RS} (h1 : PS X st (TSx X E a)) : PSs X [st] (TSx X E a) := zq h1
theorem uH {mg : Str -> Option Value} {K : PySem.W.Frag} {B : Bs} {H : Hp} {σ : St} {δ : Dl} {c : Str} (R : Rl mg K B H σ δ) (h : ∀ C H', mg c = some (.ref C) -> qk B.H0 H' -> E (.ref C) none H') : ∀ C H', mg c = some (.ref C) -> qk H H' -> E (.ref C) none H' := fun C H' e s => h C H' e (R.same.trans s)
theorem Qn {e : Expr} {r : RE} (he : PE X e (TEx X E r)) (hs : swapsWith e none pos.line X.env = pure false := by rfl) : PS X (.Expr e pos) (TSx X E (zc r)) := by
 refine vZ (WY he hs) fun D σ H ⟨B, δ, R, h⟩ => ⟨B, δ, R, ?_⟩
 unfold zc at h
 cases hr : r δ with
 | ok x => rw [hr] at h; exact fun v H' s _ => h σ H' (R.more s) (Frm.grow s)
 | er c => rw [hr] at h; exact uH R h
 | no => rw [hr] at h; exact h
theorem ZX {i : Nat} {r : RE} {D : Ends} {σ : St} {H : Hp} (h : TSx X E (we i r) D σ H) : Yb (TEx X E r) (vT i) D σ H := by
 obtain ⟨B, δ, R, h⟩ := h
 refine ⟨B, δ, R, ?_⟩
 unfold we at h
 cases hr : r δ with
 | er c => rw [hr] at h; exact uH R h
 | no => rw [hr] at h; exact h
 | ok x =>
  rw [hr] at h
  obtain ⟨d, k⟩ := x
  intro v H' s vr
  have vr : VR X.mg X.K B H H' σ δ k v d := vr
  show D.nx (σ.set i (some v)) H'
  -- a value that is no list just made
  have plain : (k ≠ .bo \/ d.sc = true) -> wo X.mg X.K E B H σ δ (.nx (δ.set i (zP (d, if d.sc = true then .nw else k)))) D -> D.nx (σ.set i (some v)) H' := fun hk q => by
   obtain ⟨d', b, e, e2, rp⟩ := VR.slot R s vr hk
   subst e2
   rw [e] at q
   exact q _ _ ((R.more s).jk rp) ((Frm.grow s).trans zh)
  cases k with
  | fr =>
   obtain ⟨p, ds, rfl, rfl, c, e1, e2⟩ := vr
   have q := R.Yg (i := i) s e1 e2 c
   exact h _ _ q.1 q.2
  | bo =>
   cases hsc : d.sc with
   | true =>
    refine plain (.inr hsc) ?_
    rw [if_pos hsc]
    cases d <;> first | exact h | cases hsc
   | false =>
    have h' : wo X.mg X.K E B H σ δ (.nx ((freeze δ).set i (.val d false))) D := by
     cases d <;> first | exact h | cases hsc
    refine h' _ _ ((R.more s).frz.jk ?_) ((Frm.grow s).trans (WI.trans zh))
    exact Rp.weak vr fun a g => ⟨fun z => g (w9 z), fun z => nomatch z⟩
  | sh =>
   refine plain (.inl fun z => nomatch z) ?_
   cases d <;> exact h
  | nw =>
   refine plain (.inl fun z => nomatch z) ?_
   cases d <;> exact h
theorem Zt {i : Nat} {x : Str} {e : Expr} {r : RE} {pos' : Pos} (g : Gd X E) (hi : X.N[i]? = some x) (hx : Loc X.env.scope x) (he : PE X e (TEx X E r)) (hs : swapsWith e (some (.Name x pos')) pos.line X.env = pure false := by rfl) (hf : X.fn x = true \/ X.env.scope.names.lookup x = some .local := by first | exact .inl rfl | exact .inr rfl | assumption) :
  PS X (.Assign [.Name x pos'] e pos) (TSx X E (we i r)) := vZ (Vi g.nd hi hx he hs hf) fun _ _ _ h => ZX h
theorem zT {c : Expr} {a b : List Stmt} {t : RT} {ra rb : RS} (hc : PT X c (TTx X E t)) (ha : PSs X a (TSx X E ra)) (hb : PSs X b (TSx X E rb)) : PS X (.If c a b pos) (TSx X E (sIf t ra rb)) := by
 refine vZ (YH hc ha hb) fun D σ H ⟨B, δ, R, h⟩ => ⟨B, δ, R, ?_⟩
 unfold sIf at h
 cases hr : t δ with
 | er c => rw [hr] at h; exact uH R h
 | no => rw [hr] at h; exact h
 | ok x =>
  rw [hr] at h
  intro H1 s1
  cases x with
  | true => exact ⟨B, δ, R.more s1, wo.later h (Frm.grow s1)⟩
  | false => exact ⟨B, δ, R.more s1, wo.later h (Frm.grow s1)⟩
theorem vI {e : Expr} {r : RE} (he : PE X e (TEx X E r)) : PS X (.Return (some e) pos) (TSx X E (vx r)) := by
 refine vZ (yy he) fun D σ H ⟨B, δ, R, h⟩ => ⟨B, freeze δ, R.frz, ?_⟩
 unfold vx at h
 cases hr : r (freeze δ) with
 | er c => rw [hr] at h; exact uH R h
 | no => rw [hr] at h; exact h
 | ok x =>
  rw [hr] at h
  obtain ⟨d, k⟩ := x
  intro v H' s vr
  have vr : VR X.mg X.K B H H' σ (freeze δ) k v d := vr
  have same := R.same.trans s
  have VM : d.sc = true -> RR X.mg X.K B.H0 H' false v d := fun c => by
   have e := (vr.rp R.frz).sc c
   rw [e]
   exact Rp.vl c
  cases k with
  | fr =>
   obtain ⟨p, ds, rfl, rfl, c, e1, e2⟩ := vr
   exact h _ H' same ⟨p, ds, rfl, rfl, c, R.same.free e1, e2⟩
  | nw =>
   have h' : wo X.mg X.K E B H σ δ (.rt d false) D := by cases d <;> exact h
   exact h' v H' same (Rp.weak vr fun a g => g.2)
  | sh =>
   have h' : wo X.mg X.K E B H σ δ (if d.sc = true then .rt d false else .no) D := by cases d <;> exact h
   cases c : d.sc with
   | true => rw [if_pos c] at h'; exact h' v H' same (VM c)
   | false => rw [if_neg (by rw [c]; decide)] at h'; exact h'.elim
  | bo =>
   have h' : wo X.mg X.K E B H σ δ (if d.sc = true then .rt d false else .no) D := by cases d <;> exact h
   cases c : d.sc with
   | true => rw [if_pos c] at h'; exact h' v H' same (VM c)
   | false => rw [if_neg (by rw [c]; decide)] at h'; exact h'.elim
theorem WM {i : Nat} {x : Str} {p : Pos} (hN : X.N[i]? = some x) (hv : Vis X.env.scope x) (hd : (x == ("__debug__" : Str)) = false := by decide) (hcd : (x == ("__classdict__" : Str)) = false := by decide) : PS X (.Return (some (.Name x p)) pos) (TSx X E (yU i)) := by
 refine vZ (yy (xP hN hv hd hcd)) fun D σ H ⟨B, δ, R, h⟩ => ?_
 unfold yU at h
 cases hδ : δ[i]? with
 | none => rw [hδ] at h; exact h.elim
 | some s =>
  rw [hδ] at h
  cases s with
  | un => exact h.elim
  | own ds =>
   obtain ⟨c, q, e1, e2, _, e3⟩ := R.own i ds hδ
   exact ⟨_, e1, h _ H R.same ⟨q, ds, rfl, rfl, c, e2, e3⟩⟩
  | val d k =>
   obtain ⟨v, e1, r⟩ := R.val i d k hδ
   refine ⟨v, e1, ?_⟩
   dsimp only at h
   by_cases c : d.sc = true \/ k = true
   ·rw [if_pos c] at h
    refine h v H R.same ?_
    rcases c with c | c
    ·have e := r.sc c
     rw [e]
     exact Rp.vl c
    ·exact Rp.weak r fun a g => g.2 c
   ·rw [if_neg c] at h
    exact h.elim
theorem zo {x : Str} {C : Addr} {np cpos : Pos} (g : Gd X E) (hg : Gl X x) (hm : X.mg x = some (.ref C)) (hC : qF X.K C = true) (hd : (x == ("__debug__" : Str)) = false := by decide) : PS X (.Raise (some (.Call (.Name x np) [] [] cpos)) none pos) (TSx X E (vF x)) :=
 vZ (Vj g.calm g.acc hg hm hC hd) fun D σ H ⟨B, δ, R, h⟩ => h C H hm R.same
noncomputable def Kp (fl : Bool) (B B' : Bs) (σ : St) (δ : Dl) (H1 : Hp) (σ' : St) (δ' : Dl) (H2 : Hp) : Prop :=
 B'.H0 = B.H0 /\ (∀ b o, H1 b = some o -> ¬ qE B σ δ b -> H2 b = some o /\ ¬ qE B' σ' δ' b) /\ (fl = false -> qk H1 H2)
theorem Kp.of {B : Bs} {σ σ' : St} {δ δ' : Dl} {H1 H2 : Hp} (f : Frm B σ δ H1 σ' δ' H2) : Kp true B B σ δ H1 σ' δ' H2 := ⟨rfl, f, fun z => nomatch z⟩
noncomputable def Tg.sets : Tg -> St -> St -> Prop
 | .one i, σ, σ2 => ∃ v, σ2 = σ.set i (some v)
 | .two i j, σ, σ2 => ∃ v w, σ2 = (σ.set i (some v)).set j (some w)
noncomputable def Walks (X : Cx) (B : Bs) (H1 : Hp) (σ : St) (δ : Dl) (g : TG) (tg : Tg) (J : It) (fl : Bool) (xs : List DK) : Prop :=
 (∀ (B' : Bs) (i : Nat) (x : DK) (σ' : St) (δ' δ2 : Dl) (H2 : Hp), xs[i]? = some x -> Rl X.mg X.K B' H2 σ' δ' -> Kp fl B B' σ δ H1 σ' δ' H2 -> tg.put x δ' = some δ2 ->
  J.go i H2 /\ ∀ v H3, J.yld i H2 v H3 -> ∀ Q : St -> Hp -> Prop, (∀ σ2 H4, Rl X.mg X.K B' H4 σ2 δ2 -> Frm B' σ' δ' H2 σ2 δ2 H4 -> qk H2 H4 -> tg.sets σ' σ2 -> Q σ2 H4) -> g v σ' H3 Q) /\
 ∀ (B' : Bs) (i : Nat) (σ' : St) (δ' : Dl) (H2 : Hp), xs.length <= i -> Rl X.mg X.K B' H2 σ' δ' -> Kp fl B B' σ δ H1 σ' δ' H2 -> J.stop i H2
noncomputable def tI (X : Cx) (E : XK) (g : TG) (tg : Tg) (src : RI) : TI := fun σ H R => ∃ B δ, Rl X.mg X.K B H σ δ /\ qt X.mg E H (src δ) fun x => ∀ J H1, qk H H1 -> Walks X B H1 σ δ g tg J x.1 x.2 -> R J H1
theorem Vd {tgE iter : Expr} {body : List Stmt} {g : TG} {tg : Tg} {src : RI} {rb : RS} (G : Gd X E) (hi : PI X tgE iter (tI X E g tg src)) (hg : PG X tgE g) (hb : PSs X body (TSx X E rb)) (hs : ∀ x, foldedSetIterable iter X.env x = pure x := by intro _; rfl) :
  PS X (.For tgE iter body [] pos) (TSx X E (Vv tg src rb)) := by
 refine vZ (Z2 G.own G.calm hi hg hb hs) fun D σ H ⟨B, δ, R, h⟩ => ⟨B, δ, R, ?_⟩
 unfold Vv at h
 cases hr : src δ with
 | er c => rw [hr] at h; exact uH R h
 | no => rw [hr] at h; exact h
 | ok x =>
  rw [hr] at h
  obtain ⟨fl, xs⟩ := x
  cases fl with
  | false => exact h.elim
  | true =>
   intro J H1 s1 W
   have h : wo X.mg X.K E B H σ δ (turns tg rb xs δ) D := h
   have h1 := wo.later h (Frm.grow (σ := σ) s1)
   refine ⟨fun i m σ' H' => m = xs.length - i /\ i <= xs.length /\ ∃ δ', Rl X.mg X.K B H' σ' δ' /\ Frm B σ δ H1 σ' δ' H' /\ wo X.mg X.K E B H' σ' δ' (turns tg rb (xs.drop i) δ') D, ⟨xs.length, by lia, Nat.zero_le _, δ, R.more s1, Frm.refl, h1⟩, ?_⟩
   rintro i m σ' H' ⟨rfl, hi, δ', R', f', h'⟩
   by_cases hlt : i < xs.length
   ·right
    have hx : xs[i]? = some xs[i] := List.getElem?_eq_getElem hlt
    rw [List.drop_eq_getElem_cons hlt] at h'
    unfold turns at h'
    cases hp : tg.put xs[i] δ' with
    | none => rw [hp] at h'; exact h'.elim
    | some δ2 =>
     rw [hp] at h'
     obtain ⟨go, yl⟩ := W.1 B i xs[i] σ' δ' δ2 H' hx R' (Kp.of f') hp
     refine ⟨go, fun σ2 H2 => i + 1 <= xs.length /\ ∃ δ3, Rl X.mg X.K B H2 σ2 δ3 /\ Frm B σ δ H1 σ2 δ3 H2 /\ wo X.mg X.K E B H2 σ2 δ3 (turns tg rb (xs.drop (i + 1)) δ3) D, fun σ2 H2 ⟨q1, δ3, q2, q3, q4⟩ => ⟨xs.length - (i + 1), by lia, rfl, q1, δ3, q2, q3, q4⟩, fun v H3 hy => ?_⟩
     refine yl v H3 hy _ fun σ2 H4 R2 f2 _ _ => ⟨B, δ2, R2, ?_⟩
     have f4 := f'.trans f2
     dsimp only at h'
     cases hb : rb δ2 with
     | nx δ3 => rw [hb] at h'; exact fun σ3 H5 R3 f3 => ⟨hlt, δ3, R3, f4.trans f3, wo.later h' (f2.trans f3)⟩
     | ct δ3 => rw [hb] at h'; exact fun σ3 H5 R3 f3 => ⟨hlt, δ3, R3, f4.trans f3, wo.later h' (f2.trans f3)⟩
     | bk δ3 => rw [hb] at h'; exact fun σ3 H5 R3 f3 => h' σ3 H5 R3 (f2.trans f3)
     | rt d k => rw [hb] at h'; exact h'
     | er c => rw [hb] at h'; exact h'
     | no => rw [hb] at h'; exact h'
   ·left
    have e : i = xs.length := by lia
    subst e
    rw [List.drop_length] at h'
    exact ⟨W.2 B _ σ' δ' H' (Nat.le_refl _) R' (Kp.of f'), h' σ' H' R' Frm.refl⟩
end
section
variable {mg : Str -> Option Value} {K : PySem.W.Frag} {B : Bs} {H H1 H2 H' : Hp} {σ σ' : St} {δ δ' δ2 : Dl} {v : V} {d : D} {i j : Nat} {k : Kd}
theorem ya {fl : Bool} {B' : Bs} (f : Kp fl B B' σ δ H1 σ' δ' H2) (hk : d.sc = true \/ k ≠ .bo) (r : Rp mg K (Gk B σ δ k) H1 v d) : Rp mg K (Gk B' σ' δ' k) H2 v d := by
 rcases hk with c | hk
 ·rw [r.sc c]
  exact Rp.vl c
 obtain ⟨f0, f2, f3⟩ := f
 refine Rp.mono (fun a g => ?_) d v (Rp.there _ _ r)
 obtain ⟨g, n⟩ := g
 have viaOwn : ¬ qE B σ δ a -> ¬ qE B' σ' δ' a /\ ∀ o, H1 a = some o -> H2 a = some o := fun no => by
  cases e : H1 a with
  | none => exact absurd e n
  | some o => exact ⟨(f2 a o e no).2, fun o' e' => by cases e'; exact (f2 a o e no).1⟩
 cases k with
 | bo => exact absurd rfl hk
 | sh => exact viaOwn g
 | nw => exact ⟨⟨(viaOwn g.1).1, by rw [f0]; exact g.2⟩, (viaOwn g.1).2⟩
 | fr => exact ⟨⟨(viaOwn g.1).1, by rw [f0]; exact g.2⟩, (viaOwn g.1).2⟩
theorem zu (h : put i (d, k) δ = some δ') : d.sc = true \/ k ≠ .bo := by
 cases k with
 | bo =>
  have h2 : (if d.sc = true then some (δ.set i (.val d true)) else none) = some δ' := h
  by_cases c : d.sc = true
  ·exact .inl c
  ·rw [if_neg c] at h2
   cases h2
 | sh => exact .inr fun z => nomatch z
 | nw => exact .inr fun z => nomatch z
 | fr => exact .inr fun z => nomatch z
theorem Va (f : Frm B σ δ H1 σ' δ' H2) (hk : d.sc = true \/ k ≠ .bo) (r : Rp mg K (Gk B σ δ k) H1 v d) : Rp mg K (Gk B σ' δ' k) H2 v d := ya (Kp.of f) hk r
theorem jh (R : Rl mg K B H σ δ) (r : Rp mg K (Gk B σ δ k) H v d) (h : put i (d, k) δ = some δ') : Rl mg K B H (σ.set i (some v)) δ' /\ Frm B σ δ H (σ.set i (some v)) δ' H := by
 have fin : ∀ b : Bool, δ' = δ.set i (.val d b) -> Rp mg K (fun a => ¬ qE B σ δ a /\ (b = true -> B.H0 a = none)) H v d -> Rl mg K B H (σ.set i (some v)) δ' /\ Frm B σ δ H (σ.set i (some v)) δ' H := fun b e q => by
  rw [e]
  exact ⟨R.jk q, zh⟩
 cases c : d.sc with
 | true =>
  have e := r.sc c
  subst e
  refine fin true ?_ (Rp.vl c)
  cases k with
  | bo =>
   have h2 : (if d.sc = true then some (δ.set i (.val d true)) else none) = some δ' := h
   rw [if_pos c] at h2
   exact (Option.some.inj h2).symm
  | sh =>
   have h2 : some (δ.set i (zP (d, if d.sc = true then .nw else .sh))) = some δ' := h
   rw [if_pos c] at h2
   exact (Option.some.inj h2).symm
  | nw =>
   have h2 : some (δ.set i (zP (d, if d.sc = true then .nw else .nw))) = some δ' := h
   rw [if_pos c] at h2
   exact (Option.some.inj h2).symm
  | fr =>
   have h2 : some (δ.set i (zP (d, if d.sc = true then .nw else .fr))) = some δ' := h
   rw [if_pos c] at h2
   exact (Option.some.inj h2).symm
 | false =>
  have cn : ¬ (d.sc = true) := by rw [c]; decide
  cases k with
  | bo =>
   have h2 : (if d.sc = true then some (δ.set i (.val d true)) else none) = some δ' := h
   rw [if_neg cn] at h2
   cases h2
  | sh =>
   have h2 : some (δ.set i (zP (d, if d.sc = true then .nw else .sh))) = some δ' := h
   rw [if_neg cn] at h2
   exact fin false (Option.some.inj h2).symm (r.weak fun a g => ⟨g, fun z => nomatch z⟩)
  | nw =>
   have h2 : some (δ.set i (zP (d, if d.sc = true then .nw else .nw))) = some δ' := h
   rw [if_neg cn] at h2
   exact fin true (Option.some.inj h2).symm (r.weak fun a g => ⟨g.1, fun _ => g.2⟩)
  | fr =>
   have h2 : some (δ.set i (zP (d, if d.sc = true then .nw else .fr))) = some δ' := h
   rw [if_neg cn] at h2
   exact fin true (Option.some.inj h2).symm (r.weak fun a g => ⟨g.1, fun _ => g.2⟩)
end
section
variable {X : Cx} {E : XK} {pos : Pos} {tgE : Expr}
theorem Qm {tg iter : Expr} {w w' : TI} (h : PI X tg iter w) (i : ∀ σ H R, w' σ H R -> w σ H R) : PI X tg iter w' := fun pins s σ H R I hw => h pins s σ H R I (i σ H R hw)
theorem uj {k : Kd} (h : k.safe = true) : k ≠ .bo := fun z => by rw [z] at h; cases h
theorem QV {k : Kd} (h : k ≠ .bo) : k.low .nw ≠ .bo := by cases k <;> first | exact absurd rfl h | exact fun z => nomatch z
theorem VG {B : Bs} {σ : St} {δ : Dl} {k : Kd} {a : Addr} (h : k ≠ .bo) (g : Gk B σ δ k a) : ¬ qE B σ δ a := by
 cases k with
 | bo => exact absurd rfl h
 | sh => exact g
 | nw => exact g.1
 | fr => exact g.1
theorem zf {mg : Str -> Option Value} {K : PySem.W.Frag} {B : Bs} {H1 : Hp} {σ : St} {δ : Dl} {k : Kd} {v : V} {ds : List D} {fl : Bool} (hk : fl = true -> k ≠ .bo) (r : Rp mg K (Gk B σ δ k) H1 v (.lst ds)) : ∃ a vs, v = .ref a /\ SqL K H1 a vs /\ qe mg K (Gk B σ δ k) H1 vs ds /\
  ∀ (B' : Bs) (H2 : Hp) (σ' : St) (δ' : Dl), Kp fl B B' σ δ H1 σ' δ' H2 -> SqL K H2 a vs := by
 cases r with
 | lst g s q =>
  refine ⟨_, _, rfl, .inl s, q, fun B' H2 σ' δ' f => .inl (Vn s fun o e => ?_)⟩
  cases fl with
  | true => exact (f.2.1 _ o e (VG (hk rfl) g)).1
  | false => exact f.2.2 rfl _ o e
 | lstK s q => exact ⟨_, _, rfl, s _, q, fun B' H2 _ _ _ => s H2⟩
theorem ug {i : Nat} {iter : Expr} {r : RE} (hl : PE X iter (TEx X E r)) : PI X tgE iter (tI X E (vT i) (.one i) (iOf r)) := by
 refine Qm (WK hl) fun σ H R ⟨B, δ, R0, h⟩ => ⟨B, δ, R0, ?_⟩
 refine qt.imp (qt.bind h) fun x h1 v H1 s1 vr => ?_
 obtain ⟨d, k⟩ := x
 have vr : VR X.mg X.K B H H1 σ δ k v d := vr
 cases d with
 | lst ds =>
  have h2 := h1
  have hk : k.safe = true -> k.low .nw ≠ .bo := fun z => QV (uj z)
  have rp := VR.low R0 .nw vr
  rw [VR.gk (low_ne _ _)] at rp
  obtain ⟨a, vs, rfl, sq, ra, st⟩ := zf (fl := k.safe) hk rp
  refine ⟨a, rfl, ⟨vs, sq⟩, h2 (Itl X.K a) H1 s1 ⟨fun B' n x σ' δ' δ2 H2 hx R' f hp => ?_, fun B' n σ' δ' H2 hn R' f => ⟨vs, st B' H2 σ' δ' f, by rw [ra.len]; simpa using hn⟩⟩⟩
  have sq2 := st B' H2 σ' δ' f
  rw [List.getElem?_map] at hx
  cases hd : ds[n]? with
  | none => rw [hd] at hx; cases hx
  | some d =>
   rw [hd] at hx
   cases hx
   obtain ⟨w, hw, rw'⟩ := ra.getD hd
   refine ⟨⟨vs, w, sq2, hw⟩, fun u H3 hy Q hQ => ?_⟩
   obtain ⟨rfl, hu⟩ := hy
   have e := hu vs sq2
   rw [hw] at e
   cases e
   have q := jh R' (ya f (zu (show put i (d, k.low .nw) δ' = some δ2 from hp)) rw') hp
   exact hQ _ _ q.1 q.2 qk.refl ⟨_, rfl⟩
 | _ => exact h1.elim
theorem VQ {K : PySem.W.Frag} {mg : Str -> Option Value} {B B' : Bs} {H1 H2 : Hp} {σ σ' : St} {δ δ' δ2 : Dl} {i j : Nat} {k : Kd} {x y : V} {dx dy : D} {T : Addr} {fl : Bool} (R' : Rl mg K B' H2 σ' δ') (f : Kp fl B B' σ δ H1 σ' δ' H2) (rx : Rp mg K (Gk B σ δ k) H1 x dx) (ry : Rp mg K (Gk B σ δ k) H1 y dy) (hT : H2 T = none)
  (hp : (Tg.two i j).put (.tup [dx, dy], k) δ' = some δ2) (Q : St -> Hp -> Prop) (hQ : ∀ σ2 H4, Rl mg K B' H4 σ2 δ2 -> Frm B' σ' δ' H2 σ2 δ2 H4 -> qk H2 H4 -> (Tg.two i j).sets σ' σ2 -> Q σ2 H4) :
  WX K 2 (y6 (vT i) (y6 (vT j) We)) (.ref T) σ' (upd H2 T (.tup [x, y])) Q := by
 have s2 := vy (o := .tup [x, y]) hT
 have hp : (put i (dx, k) δ').bind (put j (dy, k)) = some δ2 := hp
 cases h1 : put i (dx, k) δ' with
 | none => rw [h1] at hp; cases hp
 | some δ1 =>
  rw [h1] at hp
  have hp : put j (dy, k) δ1 = some δ2 := hp
  have q1 := jh (R'.more s2) ((ya f (zu h1) rx).same s2) h1
  have ry2 : Rp mg K (Gk B' (σ'.set i (some x)) δ1 k) (upd H2 T (.tup [x, y])) y dy := Va q1.2 (zu hp) ((ya f (zu hp) ry).same s2)
  have q2 := jh q1.1 ry2 hp
  refine ⟨T, [x, y], rfl, SqT.of qH, rfl, x, [y], rfl, y, [], rfl, rfl, ?_⟩
  exact hQ _ _ q2.1 ((Frm.grow s2).trans (q1.2.trans q2.2)) s2 ⟨_, _, rfl⟩
theorem Zv {i j : Nat} {e e2 : Expr} {r q : RE} {p tpos : Pos} {elts : List Expr} {kk : Nat} (hg : Gl X "zip") (hm : X.mg "zip" = none) (ha : PE X e (TEx X E r)) (hb : PE X e2 (TEx X E q))
  (hs : starEach [e, e2] X.env = (false, eval e X.env) :: starEach [e2] X.env := by rfl) (hs2 : starEach [e2] X.env = (false, eval e2 X.env) :: starEach [] X.env := by rfl) (hpl : (backTo pos (starEach [e2] X.env)).any (·.1) = false := by rfl) :
  PI X (.Tuple elts kk tpos) (.Call (.Name "zip" p) [e, e2] [] pos) (tI X E (WX X.K 2 (y6 (vT i) (y6 (vT j) We))) (.two i j) (Vg r q)) := by
 refine Qm (ZT hg hm (zx ha (zx hb uc hs2) hs) hs hpl) fun σ H R ⟨B, δ, R0, h⟩ => ⟨B, δ, R0, ?_⟩
 refine qt.imp (qt.bind h) fun x h1 v H1 s1 vr => ⟨B, δ, R0.more s1, ?_⟩
 refine qt.imp (qt.more (qt.bind h1) s1) fun y h2 w H2 s2 vw => ?_
 obtain ⟨d, k⟩ := x
 obtain ⟨d', k'⟩ := y
 have vr : VR X.mg X.K B H H1 σ δ k v d := vr
 have vw : VR X.mg X.K B H1 H2 σ δ k' w d' := vw
 cases d with
 | lst xs =>
  cases d' with
  | lst ys =>
   have h3 := h2
   have hkk : (k.safe && k'.safe) = true -> k.low k' ≠ .bo := fun z => by
    rw [Bool.and_eq_true] at z
    have hk := uj z.1
    have hk' := uj z.2
    cases k <;> cases k' <;> first | exact absurd rfl hk | exact absurd rfl hk' | exact fun z => nomatch z
   have rx := VR.low R0 k' (vr.later s2)
   have ry := VR.Yz (R0.more s1) k vw
   rw [VR.gk (low_ne _ _)] at rx ry
   obtain ⟨a, vs, rfl, sqa, ra, sta⟩ := zf (fl := k.safe && k'.safe) hkk rx
   obtain ⟨b, us, rfl, sqb, rb, stb⟩ := zf (fl := k.safe && k'.safe) hkk ry
   refine ⟨a, b, vs, us, rfl, sqa, sqb, h3 (Itz X.K a b) H2 (s1.trans s2) ⟨fun B' n x σ' δ' δ2 H3 hx R' f hp => ?_, fun B' n σ' δ' H3 hn R' f => ⟨vs, us, sta B' H3 σ' δ' f, stb B' H3 σ' δ' f, ?_⟩⟩⟩
   ·rw [List.getElem?_map] at hx
    cases hd : (xs.zip ys)[n]? with
    | none => rw [hd] at hx; cases hx
    | some pr =>
     rw [hd] at hx
     cases hx
     rw [List.getElem?_zip_eq_some] at hd
     obtain ⟨x, hx, rx'⟩ := ra.getD hd.1
     obtain ⟨y, hy, ry'⟩ := rb.getD hd.2
     have sa := sta B' H3 σ' δ' f
     have sb := stb B' H3 σ' δ' f
     refine ⟨⟨vs, us, x, y, sa, sb, hx, hy⟩, fun u H4 hyl Q hQ => ?_⟩
     obtain ⟨T, x2, y2, rfl, hT, rfl, e1, e2⟩ := hyl
     have e1 := e1 vs sa
     have e2 := e2 us sb
     rw [hx] at e1
     rw [hy] at e2
     cases e1
     cases e2
     exact VQ R' f rx' ry' hT hp Q hQ
   ·rw [List.length_map, List.length_zip] at hn
    rw [ra.len, rb.len]
    lia
  | _ => exact h2.elim
 | _ => exact h2.elim
end
section
variable {X : Cx} {E : XK} {pos : Pos}
noncomputable def spD (mg : Str -> Option Value) (K : PySem.W.Frag) (n : Nat) (g : Fn) : Sp := fun vs H Q E => ∃ ds : List D, ds.length = n /\ qe mg K (fun _ => True) H vs ds /\ qt mg E H (g ds) fun y => ∀ v H', qk H H' -> RR mg K H H' y.2 v y.1 -> Q v H'
noncomputable def Fd (P : Program) (w : World) (K : PySem.W.Frag) (mg : Str -> Option Value) (base : Heap) (k : Nat) (x : Str) (n : Nat) (g : Fn) : Prop :=
 ∃ (f : Addr) (fd : FuncData) (ps : List Str), uU P w K mg base (CX1 P w) k f fd ps (spD mg K n g) /\ mg x = some (.ref f) /\ PySem.W.keepIn K (.ref f) = true /\ Binds K fd ps []
theorem WS {r : RA} {g : Fn} {n : Nat} {σ : St} {H : Hp} {Q : VK} (hn : ∀ δ xs, r δ = .ok xs -> xs.length = n) (h : TEx X E (qi g r) σ H Q) : Zb (spD X.mg X.K n g) [] E (TAx X E r) σ H Q := by
 obtain ⟨B, δ, R, h⟩ := h
 refine ⟨B, δ, R, ?_⟩
 have e : ∀ xs, r δ = .ok xs -> xs.length = n := fun xs => hn δ xs
 cases hr : r δ with
 | er c =>
  unfold qi at h
  rw [hr] at h
  exact h
 | no =>
  unfold qi at h
  rw [hr] at h
  exact h
 | ok xs =>
  unfold qi at h
  rw [hr] at h
  intro vs H1 s1 vrs
  refine ⟨xs.map (·.1), by rw [List.length_map]; exact e xs hr, by rw [List.append_nil]; exact vrs.rp R, ?_⟩
  refine qt.imp (qt.more (qt.bind h) s1) fun y q v H2 s2 rr => ?_
  refine q v H2 (s1.trans s2) ?_
  show VR _ _ _ _ _ _ _ (kB y.2) _ _
  have R1 := R.more s1
  cases hb : y.2 with
  | true =>
   rw [hb] at rr
   obtain ⟨p, ds, a, b, c, e1, e2⟩ := rr
   exact ⟨p, ds, a, b, c, s1.free e1, e2⟩
  | false =>
   rw [hb] at rr
   exact Rp.weak rr fun a g => ⟨R1.fresh g, R1.same.free g⟩
inductive QJ : RA -> Nat -> Prop
 | nil : QJ qu 0
 | cons {r : RE} {rr : RA} {n : Nat} : QJ rr n -> QJ (qc r rr) (n + 1)
theorem QJ.is {r : RA} {n : Nat} (h : QJ r n) : ∀ δ xs, r δ = .ok xs -> xs.length = n := by
 induction h with
 | nil => intro δ xs e; cases e; rfl
 | @cons r rr n _ ih =>
  intro δ xs e
  unfold qc at e
  cases h1 : r δ with
  | er c => rw [h1] at e; cases e
  | no => rw [h1] at e; cases e
  | ok x =>
   rw [h1] at e
   cases h2 : rr δ with
   | er c => rw [Rs.wu, h2] at e; cases e
   | no => rw [Rs.wu, h2] at e; cases e
   | ok ys =>
    rw [Rs.wu, h2] at e
    cases e
    rw [List.length_cons, ih δ ys h2]
theorem qL {x : Str} {p : Pos} {e : Expr} {es : List Expr} {r : RA} {g : Fn} {n k : Nat} (acc : Acc X E) (F : Fd X.prog X.w X.K X.mg X.base k x n g) (hr : vC k X.A) (hg : Gl X x) (hn : QJ r n) (ha : PA X (e :: es) (TAx X E r))
  (hdb : (x == ("__debug__" : Str)) = false := by decide) (he : starEach (e :: es) X.env = (false, eval e X.env) :: starEach es X.env := by rfl) (hpl : (backTo pos (starEach es X.env)).any (·.1) = false := by rfl) :
  PE X (.Call (.Name x p) (e :: es) [] pos) (TEx X E (qi g r)) := by
 obtain ⟨f, fd, ps, F, hm, hk, hb⟩ := F
 exact vm (WJ F hr hg hm hk hb .nil (yZ acc) ha hdb he hpl) fun σ H Q h => WS hn.is h
noncomputable def Qe (X : Cx) (f : List DK -> Rs DK) (rr : List V -> Hp -> VK -> Prop) : Prop := ∀ (B : Bs) (H H' : Hp) (σ : St) (δ : Dl) (vs : List V) (xs : List DK) (Q : VK) (E : XK), Rl X.mg X.K B H σ δ -> qk H H' -> VRs X.mg X.K B H H' σ δ vs xs -> Fin X.mg X.K E B H' σ δ (f xs) Q -> rr vs H' Q
theorem ud {e : Expr} {r : RA} {f : List DK -> Rs DK} {rr : List V -> Hp -> VK -> Prop} (h : PE X e (tCB rr (TAx X E r))) (F : Qe X f rr) : PE X e (TEx X E (zg f r)) :=
 vm h fun σ H Q ⟨B, δ, R, h⟩ => xB R h fun xs vs H1 s1 vrs h1 => F B H H1 σ δ vs xs Q E R s1 vrs h1
theorem Y2 {mg : Str -> Option Value} {K : PySem.W.Frag} {B : Bs} {H H' : Hp} {σ : St} {δ : Dl} {vs : List V} {x : DK} (h : VRs mg K B H H' σ δ vs [x]) : ∃ v, vs = [v] /\ VR mg K B H H' σ δ x.2 v x.1 := by
 cases h with
 | cons a b => cases b; exact ⟨_, rfl, a⟩
theorem Xg {mg : Str -> Option Value} {K : PySem.W.Frag} {B : Bs} {H H' : Hp} {σ : St} {δ : Dl} {vs : List V} {x y : DK} (h : VRs mg K B H H' σ δ vs [x, y]) : ∃ v w, vs = [v, w] /\ VR mg K B H H' σ δ x.2 v x.1 /\ VR mg K B H H' σ δ y.2 w y.1 := by
 cases h with
 | cons a b => cases b with | cons c d => cases d; exact ⟨_, _, rfl, a, c⟩
theorem Vm : Qe X jc (fun xs H Q => ∃ p ys, xs = [.ref p] /\ (SqL X.K H p ys \/ SqT X.K H p ys) /\ Q (.int ys.length) H) := by
 intro B H H' σ δ vs xs Q E R s vr h
 match xs, vr, h with
 | [(.lst l, k)], vr, h =>
  obtain ⟨v, rfl, r⟩ := Y2 vr
  obtain ⟨a, us, rfl, q, g⟩ := VR.items R r
  exact ⟨a, us, rfl, .inl q, by rw [g.len]; exact h _ H' qk.refl (VR.int _)⟩
 | [(.tup l, k)], vr, h =>
  obtain ⟨v, rfl, r⟩ := Y2 vr
  obtain ⟨a, us, rfl, q, g⟩ := VR.ZW R r
  exact ⟨a, us, rfl, .inr q, by rw [g.len]; exact h _ H' qk.refl (VR.int _)⟩
 | [], _, h => exact h.elim
 | [(.int _, _)], _, h => exact h.elim
 | [(.bl _, _)], _, h => exact h.elim
 | [(.non, _)], _, h => exact h.elim
 | [(.fn _, _)], _, h => exact h.elim
 | [(.obj _ _ _, _)], _, h => exact h.elim
 | _ :: _ :: _, _, h => revert h; simp only [jc]; exact fun h => h.elim
theorem Zr {f : List DK -> Rs DK} {g : Int -> Int -> Int} (h1 : ∀ i j k l, f [(.int i, k), (.int j, l)] = .ok (.int (g i j), .nw)) (h2 : ∀ xs, (∀ i j k l, xs ≠ [(.int i, k), (.int j, l)]) -> f xs = .no) : Qe X f (fun xs H Q => ∃ i j, xs = [.int i, .int j] /\ Q (.int (g i j)) H) := by
 intro B H H' σ δ vs xs Q E R s vr h
 by_cases c : ∃ i j k l, xs = [(.int i, k), (.int j, l)]
 ·obtain ⟨i, j, k, l, rfl⟩ := c
  obtain ⟨v, w, rfl, r1, r2⟩ := Xg vr
  rw [h1] at h
  exact ⟨i, j, by rw [qT R r1, qT R r2], h _ H' qk.refl (VR.int _)⟩
 ·rw [h2 xs fun i j k l e => c ⟨i, j, k, l, e⟩] at h
  exact h.elim
theorem ZE {f : List DK -> Rs DK} {xs : List DK} (h0 : f [] = .no) (h1 : ∀ x, f [x] = .no) (h2 : ∀ x y, (∀ i j k l, [x, y] ≠ [(.int i, k), (.int j, l)]) -> f [x, y] = .no) (h3 : ∀ x y z r, f (x :: y :: z :: r) = .no) (h : ∀ i j k l, xs ≠ [(.int i, k), (.int j, l)]) : f xs = .no := by
 match xs, h with
 | [], _ => exact h0
 | [x], _ => exact h1 x
 | [x, y], h => exact h2 x y h
 | x :: y :: z :: r, _ => exact h3 x y z r
theorem VW : Qe X jR (fun xs H Q => ∃ i j, xs = [.int i, .int j] /\ Q (.int (if j > i then j else i)) H) :=
 Zr (fun _ _ _ _ => rfl) fun xs h => ZE rfl (fun ⟨x, k⟩ => by cases x <;> rfl) (fun ⟨x, k⟩ ⟨y, l⟩ h => by cases x <;> cases y <;> first | rfl | exact absurd rfl (h _ _ _ _)) (fun ⟨x, k⟩ ⟨y, l⟩ z r => by cases x <;> cases y <;> rfl) h
end
section
variable {X : Cx} {E : XK} {pos : Pos}
noncomputable def W3 (X : Cx) (f : DK -> Rs DK) (rr : V -> Hp -> VK -> Prop) : Prop := ∀ (B : Bs) (H H' : Hp) (σ : St) (δ : Dl) (x : V) (dx : DK) (Q : VK) (E : XK), Rl X.mg X.K B H σ δ -> qk H H' -> VR X.mg X.K B H H' σ δ dx.2 x dx.1 -> Fin X.mg X.K E B H' σ δ (f dx) Q -> rr x H' Q
theorem one {f : DK -> Rs DK} {rr : V -> Hp -> VK -> Prop} {ra : RE} (F : W3 X f rr) {σ : St} {H : Hp} {Q : VK} (h : TEx X E (rUn f ra) σ H Q) : tUn rr (TEx X E ra) σ H Q := by
 obtain ⟨B, δ, R, h⟩ := h
 exact ⟨B, δ, R, qt.imp (qt.bind h) fun dx h1 v H1 s1 r1 => F B H H1 σ δ v dx Q E R s1 r1 (Fin.more h1 s1)⟩
theorem Yp : W3 X WT (rU fun i => .int (-i)) := by
 rintro B H H' σ δ x ⟨dx, kx⟩ Q E R s r1 h
 cases dx with
 | int i => exact ⟨i, qT R r1, h _ H' qk.refl (VR.int _)⟩
 | _ => exact h.elim
theorem Ym {a : Expr} {ra : RE} (ha : PE X a (TEx X E ra)) : PE X (.UnaryOp .USub a pos) (TEx X E (rUn WT ra)) := vm (Zj VT ha) fun _ _ _ h => one Yp h
noncomputable def W7 : V -> List V -> Hp -> VK -> Prop := fun x vs H Q => ∃ i, x = .int i /\ vs = [] /\ Q (.int (Builtin.Int.intBits i : Nat)) H
theorem WW : MtR X "int.bit_length" W7 := by
 intro pins s σ H x vs v us Q I rx rv h
 obtain ⟨i, rfl, rfl, q⟩ := h
 obtain ⟨t, rfl⟩ := rx
 cases rv
 refine call_gives PySem.F.slot_int_bit_length (typeIs_int s i t) PySem.F.entry_int_bit_length (PySem.F.args_int_bit_length_1 _) (PySem.AutoIntG2.int_bit_length_int_0 i t) ?_
 exact ⟨.int _, H, I.tok _, ⟨_, rfl⟩, q⟩
theorem V8 (i : Int) : Builtin.Int.intBits i = if i = 0 then 0 else i.natAbs.log2 + 1 := by
 unfold Builtin.Int.intBits
 by_cases h : i = 0
 ·subst h; rfl
 ·rw [if_neg h]
  split
  ·rename_i z; exact absurd (by simpa using z) h
  ·rfl
theorem Ws {e : Expr} {r : RE} (h : PE X e (YS X.K "int" W7 (TEx X E r))) : PE X e (TEx X E (rUn oBits r)) := by
 refine vm h fun σ H Q ⟨B, δ, R, h⟩ => ⟨B, δ, R, ?_⟩
 refine qt.imp (qt.bind h) fun x h1 v H1 s1 vr => ?_
 obtain ⟨d, k⟩ := x
 have vr : VR X.mg X.K B H H1 σ δ k v d := vr
 cases d with
 | int i =>
  have e := qT R vr
  subst e
  refine ⟨rfl, i, rfl, rfl, ?_⟩
  rw [V8]
  exact h1 _ H1 s1 (VR.int _)
 | _ => exact h1.elim
end
section
variable {X : Cx} {E : XK} {pos : Pos}
theorem qW : ∀ {ds : List D} {ns : List Int}, intsOf ds = some ns -> ds = ns.map D.int
 | [], ns, h => by cases h; rfl
 | .int i :: r, ns, h => by
  have h : (intsOf r).map (i :: ·) = some ns := h
  cases e : intsOf r with
  | none => rw [e] at h; cases h
  | some ms => rw [e] at h; cases h; rw [qW e]; rfl
 | .non :: _, _, h => nomatch h
 | .bl _ :: _, _, h => nomatch h
 | .lst _ :: _, _, h => nomatch h
 | .tup _ :: _, _, h => nomatch h
 | .fn _ :: _, _, h => nomatch h
 | .obj _ _ _ :: _, _, h => nomatch h
theorem ints_map : ∀ ns : List Int, intsOf (ns.map D.int) = some ns
 | [] => rfl
 | n :: r => by
  show (intsOf (r.map D.int)).map (n :: ·) = _
  rw [ints_map r]
  rfl
theorem yj : ∀ ns : List Int, (ns.map D.int).all D.sc = true
 | [] => rfl
 | _ :: r => yj r
theorem y1 (ns : List Int) : (ns.map D.int).map toV = ns.map V.int := by
 rw [List.map_map]
 rfl
theorem wU : ∀ ns ms : List Int, PyData.eqvAll (ns.map PyData.int) (ms.map PyData.int) = decide (ns = ms)
 | [], [] => rfl
 | [], _ :: _ => rfl
 | _ :: _, [] => rfl
 | a :: r, b :: q => by
  show (PyData.eqv (.int a) (.int b) && PyData.eqvAll (r.map PyData.int) (q.map PyData.int)) = _
  rw [wU r q]
  show ((a == b) && _) = _
  by_cases h : a = b
  ·subst h; simp
  ·simp [h]
theorem zv {K : PySem.W.Frag} {H : Hp} : ∀ ns : List Int, yR K H (ns.map V.int) (ns.map PyData.int)
 | [] => .nil
 | n :: r => .cons (.int n) (zv r)
theorem lay_ints : ∀ ns : List Int, PyData.canLayAll0 (ns.map PyData.int) = true
 | [] => rfl
 | n :: r => by
  show (PyData.canLay0 (.int n) && PyData.canLayAll0 (r.map PyData.int)) = true
  rw [lay_ints r]
  rfl
theorem y3 : ∀ ns : List Int, PyData.depthAll (ns.map PyData.int) <= 1
 | [] => Nat.zero_le _
 | n :: r => by
  show max (PyData.depth (.int n)) (PyData.depthAll (r.map PyData.int)) <= 1
  have a := y3 r
  have b : PyData.depth (.int n) <= 1 := by first | exact Nat.le_refl _ | exact Nat.zero_le _
  lia
theorem shaped_ints (ns : List Int) : SeqAt.shaped (.list (ns.map PyData.int)) = true := by
 unfold SeqAt.shaped
 have a : PyData.canLay0 (.list (ns.map PyData.int)) = true := lay_ints ns
 have b : PyData.depth (.list (ns.map PyData.int)) <= 64 := by
  show PyData.depthAll (ns.map PyData.int) + 1 <= 64
  have := y3 ns
  lia
 rw [a, decide_eq_true b]
 rfl
theorem yh {mg : Str -> Option Value} {K : PySem.W.Frag} {B : Bs} {H H' : Hp} {σ : St} {δ : Dl} {k : Kd} {v : V} {ns : List Int} (R : Rl mg K B H σ δ) (h : VR mg K B H H' σ δ k v (.lst (ns.map D.int))) : ∃ a, v = .ref a /\ SqL K H' a (ns.map V.int) := by
 obtain ⟨a, vs, rfl, q, g⟩ := VR.items R h
 have e := g.sc (yj ns)
 rw [y1] at e
 subst e
 exact ⟨a, rfl, q⟩
theorem j6 : vK X (oEq false) (fun x y H Q => rEq x y H Q \/ Z8 X.K x y H Q) := by
 rintro B H H' σ δ x y ⟨dx, kx⟩ ⟨dy, ky⟩ Q E R s r1 r2 h
 cases dx with
 | int i =>
  cases dy with
  | int j =>
   left
   rw [qT R r1, qT R r2]
   refine ⟨rfl, ?_⟩
   rw [yd, Bool.beq_eq_decide_eq]
   exact h _ H' qk.refl (VR.bl _)
  | _ => exact h.elim
 | bl i =>
  cases dy with
  | bl j =>
   left
   rw [Ql R r1, Ql R r2]
   refine ⟨rfl, ?_⟩
   rw [xY, Bool.beq_eq_decide_eq]
   exact h _ H' qk.refl (VR.bl _)
  | _ => exact h.elim
 | lst xs =>
  cases dy with
  | lst ys =>
   right
   simp only [oEq] at h
   cases e1 : intsOf xs with
   | none => rw [e1] at h; exact h.elim
   | some ns =>
    cases e2 : intsOf ys with
    | none => rw [e1, e2] at h; exact h.elim
    | some ms =>
     rw [e1, e2] at h
     have q1 := qW e1
     have q2 := qW e2
     subst q1 q2
     obtain ⟨a, rfl, s1⟩ := yh R r1
     obtain ⟨b, rfl, s2⟩ := yh R r2
     refine ⟨_, _, .lst s1 (zv ns), .lst s2 (zv ms), shaped_ints ns, shaped_ints ms, ?_⟩
     show Q (.bl (PyData.eqvAll _ _)) H'
     rw [wU]
     exact h _ H' qk.refl (VR.bl _)
  | _ => exact h.elim
 | _ => exact h.elim
theorem Yy : vK X (oEq true) (fun x y H Q => rNe x y H Q \/ Z0 X.K x y H Q) := by
 rintro B H H' σ δ x y ⟨dx, kx⟩ ⟨dy, ky⟩ Q E R s r1 r2 h
 cases dx with
 | int i =>
  cases dy with
  | int j =>
   left
   rw [qT R r1, qT R r2]
   refine ⟨rfl, ?_⟩
   rw [yd, Bool.beq_eq_decide_eq]
   exact h _ H' qk.refl (VR.bl _)
  | _ => exact h.elim
 | bl i =>
  cases dy with
  | bl j =>
   left
   rw [Ql R r1, Ql R r2]
   refine ⟨rfl, ?_⟩
   rw [xY, Bool.beq_eq_decide_eq]
   exact h _ H' qk.refl (VR.bl _)
  | _ => exact h.elim
 | lst xs =>
  cases dy with
  | lst ys =>
   right
   simp only [oEq] at h
   cases e1 : intsOf xs with
   | none => rw [e1] at h; exact h.elim
   | some ns =>
    cases e2 : intsOf ys with
    | none => rw [e1, e2] at h; exact h.elim
    | some ms =>
     rw [e1, e2] at h
     have q1 := qW e1
     have q2 := qW e2
     subst q1 q2
     obtain ⟨a, rfl, s1⟩ := yh R r1
     obtain ⟨b, rfl, s2⟩ := yh R r2
     refine ⟨_, _, .lst s1 (zv ns), .lst s2 (zv ms), shaped_ints ns, shaped_ints ms, ?_⟩
     show Q (.bl (!PyData.eqvAll _ _)) H'
     rw [wU]
     exact h _ H' qk.refl (VR.bl _)
  | _ => exact h.elim
 | _ => exact h.elim
theorem xX (hu : X.A.units + 64 < cLine) : OpR X (compareOp .Eq) (fun x y H Q => rEq x y H Q \/ Z8 X.K x y H Q) := YT.or (Yc hu)
theorem ZD (hu : X.A.units + 64 < cLine) : OpR X (compareOp .NotEq) (fun x y H Q => rNe x y H Q \/ Z0 X.K x y H Q) := YU.or (Zk hu)
theorem xk : bootBuiltins "max" = some (.builtin "max") := by decide +kernel
theorem xn : bootBuiltins "len" = some (.builtin "len") := by decide +kernel
end
end L2.Ir
set_option maxHeartbeats 4000000
namespace L2.Ir
open PySem PySem.Spec PyProof.Rows
theorem xD {h h' B B' : Heap} : ∀ {l : List Env}, h.FunFrames B l -> (∀ b ∈ frs l, ∀ o, h.get? b = some o -> h'.get? b = some o) -> (∀ b ∈ frs l, B'.get? b = none) -> h'.FunFrames B' l
 | [], _, _, _ => trivial
 | env :: r, ⟨hk, ⟨L, o, hf, _, ho, hd⟩, hr⟩, k, hB => by
  have hL : L ∈ frs (env :: r) := by unfold frs; rw [List.filterMap_cons, hf]; exact List.mem_cons_self
  have sub : ∀ b ∈ frs r, b ∈ frs (env :: r) := fun b hb => by unfold frs; rw [List.filterMap_cons, hf]; exact List.mem_cons_of_mem _ hb
  exact ⟨hk, ⟨L, o, hf, hB L hL, k L hL o ho, hd⟩, xD hr (fun b hb => k b (sub b hb)) fun b hb => hB b (sub b hb)⟩
theorem Yh {h : Heap} {C b : Addr} {o : Obj} (e : (PySem.W.hideAll h [C]).get? b = some o) : h.get? b = some o /\ b ≠ C := by
 refine ⟨PySem.W.of_hideAll _ e, fun z => ?_⟩
 have q : (PySem.W.hideAll h [C]).get? b = none := PySem.W.hideAll_none _ (by rw [z]; exact List.mem_singleton_self _)
 rw [q] at e
 cases e
theorem yH {h : Heap} {C b : Addr} (e : h.get? b = none) : (PySem.W.hideAll h [C]).get? b = none := by
 cases q : (PySem.W.hideAll h [C]).get? b with
 | none => rfl
 | some o =>
  have := (Yh q).1
  rw [e] at this
  cases this
theorem Qy {B h h' : Heap} {l : List Env} {e C : Addr} {cls : Value} {m : Str -> Option Value} (x : wC B l e cls h) (hC : h.Ns C m) (hf : C ∉ frs l) (sb : Heap.SameBut C h h') : wC (PySem.W.hideAll B [C]) l e cls h' := by
 obtain ⟨kb, hen, hl, oe, vs, a0, he, hcls, hd, h0, T, oT, ts, f, h1, hnT, hTe, hT, hdT, h3⟩ := x
 obtain ⟨oc, es, ep, hoc, hdc, _⟩ := hC
 have ne : ∀ {b : Addr} {o : Obj} {ws : Array Value}, h.get? b = some o -> o.data = .fields ws -> b ≠ C := fun {b o ws} e1 e2 z => by
  rw [z, hoc] at e1
  cases e1
  rw [hdc] at e2
  cases e2
 have keep : ∀ b o, b ≠ C -> h.get? b = some o -> h'.get? b = some o := fun b o n e1 => (sb.2 b n).trans e1
 refine ⟨fun b o e1 => keep b o (Yh e1).2 (kb b o (Yh e1).1), yH hen, xD hl (fun b hb o e1 => keep b o (fun z => hf (by rw [<- z]; exact hb)) e1) (fun b hb => yH (hl.mem hb).1), oe, vs, a0, keep _ _ (ne he hd) he, hcls, hd, h0, T, oT, ts, f, h1, yH hnT, hTe, keep _ _ (ne hT hdT) hT, hdT, h3⟩
noncomputable abbrev x9 (X : Cx) (E : XK) (s : Shared) (H : Hp) (scope : Scope) (cenv : Env) (fp : List Addr) : Cx := (X.blk s H scope cenv fp).wL (Arr (X.blk s H scope cenv fp) E)
section
variable {X : Cx} {E : XK}
theorem VP {pins : List (Addr × Obj)} {s : Shared} {σ : St} {H : Hp} {Q : VK} {elt tg iter : Expr} {ifs : List Expr} {scope : Scope} {own : List (Str × Nat)} {pos pos' : Pos} {wi : TI} {g : TG} {tt : TT} {te : TE} {use : Option (Value -> Sem Unit)} {Qf : Value -> Shared -> Prop} {LF : Addr}
  (hc : X.calm = true) (hN : X.N.Nodup) (acc : Acc X E) (hst : X.stack = X.env :: X.outer) (hfr : X.env.frame = some LF) (I : Inv X pins σ H s) (hi : PI X tg iter wi) (ok : Qh X.N X.env.scope scope own)
  (hg : ∀ (s : Shared) (H : Hp) (C : Addr) (cl : List (Str × Addr)) (fp : List Addr), PG (x9 X E s H scope (compEnvC scope cl C X.env) fp) tg g) (ht : ∀ (s : Shared) (H : Hp) (C : Addr) (cl : List (Str × Addr)) (fp : List Addr), PTs (x9 X E s H scope (compEnvC scope cl C X.env) fp) ifs tt)
  (he : ∀ (s : Shared) (H : Hp) (C : Addr) (cl : List (Str × Addr)) (fp : List Addr), PE (x9 X E s H scope (compEnvC scope cl C X.env) fp) elt te) (hs : ∀ x, foldedSetIterable iter X.env x = pure x)
  (h : tLc wi g tt te (own.map (·.2)) σ H Q)
  (hRR : ∀ D C s' m H', Inv X pins σ H' s' -> Q (.ref D) H' -> s'.heap.Ns C m -> zQ X pins H' C -> compPost (model X.prog X.w) X.A X.xe use Qf (.ref D) C (.ok .next) s') :
  wpAny (model X.prog X.w) X.A (comprehension (.ListComp elt [⟨tg, iter, ifs, 0⟩] scope pos) scope X.env pos' (newList []) false (eval iter X.env) use) Qf X.xe s := by
 have hfree : ∀ y ∈ scope.names, y.2 = .free -> ∃ c, X.env.cells.lookup y.1 = some c := fun y hy e => by
  rcases ok.free y hy e with k | k
  ·exact I.ok.has _ (.inl k)
  ·exact I.ok.has _ (.inr k)
 refine wpAny_comprehension_free (use := use) rfl hs (yT hfree) ok.kind (fun y hy e => by rw [ok.uniq y hy, e])
  (thn (hi pins s σ H _ I h) fun xv s1 hx => thn hx fun itv s2 h2 => ?_)
 obtain ⟨it, fp, tn, J, H2, e, I2, T, st2, f2, q⟩ := h2
 subst e
 refine wpAny_newObj_type (uB ?_) (by show 0 <= sizeLine; decide)
 generalize hD : s2.heap.objs.size = D
 have hDn : H2 D = none := I2.hok.fresh (Nat.le_of_eq hD)
 obtain ⟨W, ⟨m0, w0⟩, turn⟩ := q D hDn
 generalize hs3 : ({ s2 with heap := s2.heap.push { cls := .type "list", data := .seq ([] : List Value).toArray } } : Shared) = s3
 have I3 : Inv X pins σ (upd H2 D (.lst [])) s3 := by
  rw [<- hs3]
  refine I2.laid (t' := s2.toks) (fun b o e => Heap.get?_push_of_some _ e) (Nat.le_of_eq hD) ⟨Nat.zero_le _, [], 0, .nil, ?_⟩
  rw [<- hD]
  exact Heap.get?_push_size _ rfl
 have h3 : s3.heap = s2.heap.push { cls := .type "list", data := .seq ([] : List Value).toArray } := by rw [<- hs3]
 have sz : ∀ b ∈ fp, b < s2.heap.objs.size := fun b hb => by
  obtain ⟨o, e, _⟩ := T.obj _ _ st2 b hb
  exact Heap.lt_size e
 have f3 : ∀ b ∈ fp, zQ X pins (upd H2 D (.lst [])) b /\ b < s3.heap.objs.size := fun b hb => by
  have hlt := sz b hb
  refine ⟨⟨?_, (f2 b hb).2⟩, by rw [h3, Heap.size_push]; exact Nat.lt_succ_of_lt hlt⟩
  rw [qh (by rw [<- hD]; exact Nat.ne_of_lt hlt)]
  exact (f2 b hb).1
 have st3 : tn 0 s3.heap := T.keep _ _ _ st2 fun b _ o e => by rw [h3]; exact Heap.get?_push_of_some _ e
 have I4 := uE I3 ok hN f3
 have pg := hg s3 (upd H2 D (.lst [])) s3.heap.objs.size (cellsFrom (s3.heap.objs.size + 1) scope.names (ql X.env.cells scope.names [])) fp
 have pt := ht s3 (upd H2 D (.lst [])) s3.heap.objs.size (cellsFrom (s3.heap.objs.size + 1) scope.names (ql X.env.cells scope.names [])) fp
 have pe := he s3 (upd H2 D (.lst [])) s3.heap.objs.size (cellsFrom (s3.heap.objs.size + 1) scope.names (ql X.env.cells scope.names [])) fp
 show codeAny _ _ (.compStart (.ListComp elt [⟨tg, iter, ifs, 0⟩] scope pos) 0 (.ref it) (.ref D) (compEnvC scope (cellsFrom (s3.heap.objs.size + 1) scope.names (ql X.env.cells scope.names [])) s3.heap.objs.size X.env)) (compPost (model X.prog X.w) X.A X.xe use Qf (.ref D) s3.heap.objs.size) { s3 with heap := pushCells (s3.heap.push { cls := .type "dict", data := .dict #[] }) scope.names }
 have nfp : ∀ b ∈ fp, (upd H2 D (.lst [])) b = none := fun b hb => (f3 b hb).1.1
 generalize hce : compEnvC scope (cellsFrom (s3.heap.objs.size + 1) scope.names (ql X.env.cells scope.names [])) s3.heap.objs.size X.env = ce at I4 pg pt pe ⊢
 have cL : ce.locals = s3.heap.objs.size := by subst hce; rfl
 have cF : ce.frame = some LF := by subst hce; exact hfr
 generalize hH3 : upd H2 D (.lst []) = H3 at I3 I4 pg pt pe w0 nfp f3
 generalize hs4 : ({ s3 with heap := pushCells (s3.heap.push { cls := .type "dict", data := .dict #[] }) scope.names } : Shared) = s4 at I4 ⊢
 have st4 : tn 0 s4.heap := T.keep _ _ _ st3 fun b _ o e => by rw [<- hs4]; exact pushCells_keeps _ _ _ _ (Heap.get?_push_of_some _ e)
 have stat : ∀ {σ' : St} {H' : Hp} {s' : Shared}, Inv (X.blk s3 H3 scope ce fp) [] σ' H' s' -> (∀ b ∈ fp, H' b = none) -> ∀ b ∈ fp, zQ (X.blk s3 H3 scope ce fp) [] H' b := fun {σ' H' s'} I' hn b hb =>
  ⟨hn b hb, (I'.ok.exf b hb).1, I'.ok.exfs b hb, .inl hb, fun x c e => (I'.ok.exf b hb).2 x c e, fun p hp => absurd (show p ∈ ([] : List (Addr × Obj)) ++ [] from hp) (by simp)⟩
 -- an exception out of the block
 have exc : ∀ (e : Value) (s5 : Shared), Arr (X.blk s3 H3 scope ce fp) E e s5 -> notedBy (model X.prog X.w) X.A ce (fun e s' => compPost (model X.prog X.w) X.A X.xe use Qf (.ref D) s3.heap.objs.size (.error e) s') e s5 := fun e s5 x => by
  obtain ⟨a, cls, Bh, H', pins', σ', rfl, I5, hd, kb, q⟩ := x
  have hfrm : X.A.frames = some (X.env :: X.outer) := by rw [<- hst]; exact I3.ok.frames
  have hd0 : Hand Bh (X.env :: X.outer) a cls s5.heap := by rw [<- hst]; exact hd
  refine wg hfrm hfr cF hd0 fun h1 hd1 up1 => ?_
  rw [<- hst] at hd1
  obtain ⟨I6, kb1⟩ := qV I5 hd kb hd1.hand up1
  obtain ⟨m, hn, _⟩ := I6.loc
  have hn : h1.Ns ce.locals m := hn
  rw [cL] at hn
  refine ⟨m, hn, fun h' sb cenv hcl => ?_⟩
  have nC : H' s3.heap.objs.size = none := by
   have z : H' ce.locals = none := I6.free
   rw [cL] at z
   exact z
  have fC : zQ X pins H' s3.heap.objs.size := I3.Wl (Nat.le_refl _) nC
  have I7 : Inv X pins σ H' { s5 with heap := h1 } := I3.VX (ch := fp) I6.os I6.base I6.hok I6.bare fun b hb => ⟨(f3 b hb).1.2.2.2.1, (f3 b hb).1.2.1, (f3 b hb).1.2.2.2.2.1, (f3 b hb).1.2.2.2.2.2⟩
  obtain ⟨g0, g1, g2, g3, g4, g5⟩ := fC
  have I8 : Inv X pins σ H' { s5 with heap := h' } := I7.turned (t' := s5.toks) (fun b o hb e => (sb.2 b hb).trans e) g0 g1 g3 g4 g5
  have cf : s3.heap.objs.size ∉ frs X.stack := fun z => by
   rcases List.mem_cons.mp (I3.wb _ z) with z | z
   ·exact g1 z
   ·exact g2 z
  have hd2 := Qy hd1 hn cf sb
  have relN : ∀ b, Rel X pins H' b -> b ≠ s3.heap.objs.size /\ Rel (X.blk s3 H3 scope ce fp) pins' H' b := fun b r => by
   have inS3 : (¬ H' b ≠ none) -> ∃ o, s3.heap.get? b = some o := fun hn' => by
    rcases r with r | r
    ·exact absurd r hn'
    ·exact yi I3 (.inr r)
   by_cases hb : H' b ≠ none
   ·exact ⟨fun z => hb (by rw [z]; exact nC), .inl hb⟩
   ·obtain ⟨o, eo⟩ := inS3 hb
    refine ⟨Nat.ne_of_lt (Heap.lt_size eo), .inr (.inl ⟨o, eo, fun hfp => ?_⟩)⟩
    obtain ⟨k0, k1, k2, k3, k4, k5⟩ := (f3 b hfp).1
    rcases r with r | ⟨o', e', nx⟩ | ⟨y, e'⟩ | e' | ⟨p, hp, e'⟩
    ·exact hb r
    ·rcases k3 with k3 | k3
     ·exact nx k3
     ·exact absurd (Nat.lt_of_lt_of_le (Heap.lt_size e') k3) (Nat.lt_irrefl _)
    ·exact k4 y b e' rfl
    ·exact k1 e'
    ·exact k5 p hp e'
  have kb2 : ∀ b o, h'.get? b = some o -> b ∉ frs X.stack -> Rel X pins H' b -> (PySem.W.hideAll Bh [s3.heap.objs.size]).get? b = some o := fun b o hb hf r => by
   obtain ⟨nb, r2⟩ := relN b r
   have e1 : h1.get? b = some o := (sb.2 b nb).symm.trans hb
   exact PySem.W.hideAll_get _ (kb1 b o e1 hf r2) (by simpa using nb)
  unfold PySem.passOn
  refine wpAny_bind (zD hd2 fun T => ?_)
  rw [if_neg (show ¬ ((Value.ref T == Value.none) = true) from by simp)]
  refine wpAny_bind (vg hd2 fun h3' hd3 up3 => wpAny_throw ?_)
  obtain ⟨I9, kb3⟩ := qV I8 hd2.hand kb2 hd3.hand up3
  exact acc _ _ ⟨a, cls, _, H', pins, σ, rfl, I9, hd3.hand, kb3, q⟩
 have thnX : ∀ {α : Type} {t : Sem α} {P P' : α -> Shared -> Prop} {s' : Shared}, wpAny (model X.prog X.w) X.A t P (Arr (X.blk s3 H3 scope ce fp) E) s' -> (∀ a s, P a s -> P' a s) -> wpAny (model X.prog X.w) X.A t P' (notedBy (model X.prog X.w) X.A ce (fun e s' => compPost (model X.prog X.w) X.A X.xe use Qf (.ref D) s3.heap.objs.size (.error e) s')) s' :=
  fun {α t P P' s'} h hP => wpAny_mono h hP exc
 have loop : codeAny (model X.prog X.w) X.A (.compLoop (.ListComp elt [⟨tg, iter, ifs, 0⟩] scope pos) 0 (.ref it) (.ref D) ce) (compPost (model X.prog X.w) X.A X.xe use Qf (.ref D) s3.heap.objs.size) s4 := by
  refine xO (fun n s' => ∃ i H', Inv (X.blk s3 H3 scope ce fp) [] (wipe σ (own.map (·.2))) H' s' /\ tn i s'.heap /\ (∀ b ∈ fp, H' b = none) /\ W i n H') ?_ m0 ⟨0, H3, I4, st4, nfp, w0⟩
  rintro n s5 ⟨i, H5, I5, st5, n5, w5⟩
  rcases turn i n H5 w5 with ⟨stop, qq⟩ | ⟨go, Nx, hNx, step⟩
  ·have td := T.done (X.blk s3 H3 scope ce fp) rfl rfl rfl hc i [] s5 _ H5 (fun _ _ => False) I5 (stat I5 n5) st5 stop
   refine Z6 td fun r s6 ⟨hr, I6⟩ => ?_
   subst hr
   have I7 : Inv X pins σ H5 s6 := I3.VX (ch := fp) I6.os I6.base I6.hok I6.bare fun b hb => ⟨(f3 b hb).1.2.2.2.1, (f3 b hb).1.2.1, (f3 b hb).1.2.2.2.2.1, (f3 b hb).1.2.2.2.2.2⟩
   have nC : H5 s3.heap.objs.size = none := by
    have z : H5 ce.locals = none := I6.free
    rw [cL] at z
    exact z
   obtain ⟨m, hn, _⟩ := I6.loc
   have hn : s6.heap.Ns ce.locals m := hn
   rw [cL] at hn
   exact hRR D s3.heap.objs.size s6 m H5 I7 qq hn (I3.Wl (Nat.le_refl _) nC)
  ·have ti := T.item (X.blk s3 H3 scope ce fp) rfl rfl rfl hc i [] s5 _ H5 (fun _ _ => False) I5 (stat I5 n5) st5 go
   refine Z6 ti fun r s6 ⟨u, hr, h6⟩ => ?_
   subst hr
   refine Z6 h6 fun _ s7 ⟨x, H7, I7, r7, y7, st7, n7⟩ => ?_
   have I7' := (I7.pinned (stat I7 n7) (T.obj _ _ st7)).wL (Arr (X.blk s3 H3 scope ce fp) E)
   refine thnX (pg _ s7 _ H7 x u _ I7' r7 (step x H7 y7)) fun _ s8 ⟨σ8, H8, I8, hw8, q8⟩ => ?_
   refine thnX (pt _ s8 σ8 H8 _ I8 q8) fun b s9 ⟨H9, I9, q9⟩ => ?_
   have fin : ∀ {s' : Shared} {H' : Hp}, Inv (X.blk s3 H3 scope ce fp) ([] ++ yJ fp s7.heap) σ8 H' s' -> Nx H' -> ∃ m, m < n /\ ∃ i H', Inv (X.blk s3 H3 scope ce fp) [] (wipe σ (own.map (·.2))) H' s' /\ tn i s'.heap /\ (∀ b ∈ fp, H' b = none) /\ W i m H' := fun {s' H'} I' nx => by
    obtain ⟨m', hm, w'⟩ := hNx H' nx
    have pin' : ∀ b ∈ fp, ∀ o, s7.heap.get? b = some o -> s'.heap.get? b = some o /\ H' b = none := fun b hb o e =>
     let z := I'.pin (b, o) (List.mem_append_right _ (List.mem_append_right _ (zl hb e)))
     ⟨z.1, z.2.1⟩
    have hl : (wipe σ (own.map (·.2))).length = σ8.length := by rw [<- hw8, qM]
    refine ⟨m', hm, i + 1, H', (I'.zr (pins := [])).weak hl (fun j v e => ?_), T.keep _ _ _ st7 fun b hb o e => (pin' b hb o e).1, fun b hb => ?_, w'⟩
    ·rw [<- hw8] at e
     exact (vh e).1
    ·obtain ⟨o, e, _⟩ := T.obj _ _ st7 b hb
     exact (pin' b hb o e).2
   cases b with
   | false =>
    simp only [Bool.false_eq_true, if_false] at q9 ⊢
    exact fin I9.vG q9
   | true =>
    simp only [if_true] at q9 ⊢
    refine thnX (pe _ s9 σ8 H9 _ I9 q9) fun z s10 ⟨yv, H10, I10, r10, acc, hD10, hz10, nx⟩ => ?_
    exact Zn (X := X.blk s3 H3 scope ce fp) I10.vG hD10 hz10 r10 fun s11 I11 => fin I11 nx
 exact codeAny_compStart_list loop (T.self X.A 0 _ _ _ st4 loop)
theorem Zs {elt tg iter : Expr} {ifs : List Expr} {scope : Scope} {own : List (Str × Nat)} {pos : Pos} {wi : TI} {g : TG} {tt : TT} {te : TE} {LF : Addr} (hc : X.calm = true) (hN : X.N.Nodup) (acc : Acc X E) (hst : X.stack = X.env :: X.outer) (hfr : X.env.frame = some LF) (hi : PI X tg iter wi) (ok : Qh X.N X.env.scope scope own)
  (hg : ∀ (s : Shared) (H : Hp) (C : Addr) (cl : List (Str × Addr)) (fp : List Addr), PG (x9 X E s H scope (compEnvC scope cl C X.env) fp) tg g) (ht : ∀ (s : Shared) (H : Hp) (C : Addr) (cl : List (Str × Addr)) (fp : List Addr), PTs (x9 X E s H scope (compEnvC scope cl C X.env) fp) ifs tt)
  (he : ∀ (s : Shared) (H : Hp) (C : Addr) (cl : List (Str × Addr)) (fp : List Addr), PE (x9 X E s H scope (compEnvC scope cl C X.env) fp) elt te) (hs : ∀ x, foldedSetIterable iter X.env x = pure x := by intro _; rfl) :
  PE X (.ListComp elt [⟨tg, iter, ifs, 0⟩] scope pos) (tLc wi g tt te (own.map (·.2))) := by
 intro pins s σ H Q I h
 rw [eval_ListComp]
 refine VP hc hN acc hst hfr I hi ok hg ht he hs h fun D C s' m H' I' q hn f => ⟨m, hn, fun h'' sb => ?_⟩
 obtain ⟨f0, f1, f2, f3, f4, f5⟩ := f
 exact ⟨.ref D, H', I'.turned (t' := s'.toks) (fun b o hb e => (sb.2 b hb).trans e) f0 f1 f3 f4 f5, rfl, q⟩
end
theorem xl (δ : Dl) : ∀ vs : List Nat, (clear δ vs).length = δ.length
 | [] => rfl
 | v :: vs => by show ((clear δ vs).set v .un).length = _; rw [List.length_set, xl δ vs]
theorem ve {δ : Dl} {i : Nat} {x : Sl} : ∀ {vs : List Nat}, (clear δ vs)[i]? = some x -> x = .un \/ (i ∉ vs /\ δ[i]? = some x)
 | [], h => .inr ⟨by simp, h⟩
 | v :: vs, h => by
  have h : ((clear δ vs).set v .un)[i]? = some x := h
  by_cases e : v = i
  ·subst e
   by_cases hl : v < (clear δ vs).length
   ·rw [List.getElem?_set_self hl] at h
    exact .inl (Option.some.inj h).symm
   ·rw [List.getElem?_eq_none (by rw [List.length_set]; lia)] at h
    cases h
  ·rw [List.getElem?_set_ne e] at h
   rcases ve h with z | ⟨z1, z2⟩
   ·exact .inl z
   ·exact .inr ⟨by simp [z1, Ne.symm e], z2⟩
section
variable {mg : Str -> Option Value} {K : PySem.W.Frag} {B : Bs} {H H1 H' H'' : Hp} {σ : St} {δ : Dl} {D0 : Addr} {vs : List Nat}
noncomputable def Bd (B : Bs) (σ : St) (δ : Dl) (vs : List Nat) (D0 : Addr) : Bs := ⟨B.H0, fun p => p = D0 \/ (qE B σ δ p /\ ¬ ∃ (i : Nat) (ds : List D), (clear δ vs)[i]? = some (.own ds) /\ (wipe σ vs)[i]? = some (some (.ref p)))⟩
theorem Q5 {p : Addr} (h : ∃ (i : Nat) (ds : List D), (clear δ vs)[i]? = some (.own ds) /\ (wipe σ vs)[i]? = some (some (.ref p))) : qE B σ δ p := by
 obtain ⟨i, ds, e1, e2⟩ := h
 rcases ve e1 with z | ⟨_, z⟩
 ·cases z
 ·exact .inr ⟨i, ds, z, (vh e2).1⟩
theorem yO {p : Addr} : qE (Bd B σ δ vs D0) (wipe σ vs) (clear δ vs) p ↔ p = D0 \/ qE B σ δ p := by
 constructor
 ·rintro ((h | h) | h)
  ·exact .inl h
  ·exact .inr h.1
  ·exact .inr (Q5 h)
 ·rintro (h | h)
  ·exact .inl (.inl h)
  ·by_cases c : ∃ (i : Nat) (ds : List D), (clear δ vs)[i]? = some (.own ds) /\ (wipe σ vs)[i]? = some (some (.ref p))
   ·exact .inr c
   ·exact .inl (.inr ⟨h, c⟩)
theorem Xi (R : Rl mg K B H σ δ) {p : Addr} (h : B.P p) : (Bd B σ δ vs D0).P p := by
 refine .inr ⟨.inl h, fun ⟨i, ds, e1, e2⟩ => ?_⟩
 rcases ve e1 with z | ⟨_, z⟩
 ·cases z
 ·obtain ⟨_, q, e3, _, np, _⟩ := R.own i ds z
  have := (vh e2).1
  rw [this] at e3
  cases e3
  exact np h
theorem Rl.blk (R : Rl mg K B H σ δ) (hD : H D0 = none) (o : HO) : Rl mg K (Bd B σ δ vs D0) (upd H D0 o) (wipe σ vs) (clear δ vs) := by
 have s := vy (o := o) hD
 have hne : ∀ a, H a ≠ none -> a ≠ D0 := fun a ha z => ha (by rw [z]; exact hD)
 refine ⟨R.same.trans s, fun p hp => ?_, by rw [qM, xl]; exact R.len, fun i d k e => ?_, fun i ds e => ?_, fun i j p ds es e1 e2 e3 e4 => ?_⟩
 ·rcases hp with rfl | ⟨hp, _⟩
  ·rw [qH]; exact fun z => nomatch z
  ·exact fun z => R.owned hp (s.free z)
 ·rcases ve e with z | ⟨nv, z⟩
  ·cases z
  ·obtain ⟨v, e1, e2⟩ := R.val i d k z
   refine ⟨v, by rw [wR nv]; exact e1, ?_⟩
   refine Rp.same (Rp.weak (Rp.there _ _ e2) fun a g => ⟨fun z => ?_, g.1.2⟩) s
   rcases yO.mp z with z | z
   ·exact hne a g.2 z
   ·exact g.1.1 z
 ·rcases ve e with z | ⟨nv, z⟩
  ·cases z
  ·obtain ⟨c, p, e1, e2, np, e3⟩ := R.own i ds z
   have hp : H p ≠ none := by rw [e3]; exact fun z => nomatch z
   refine ⟨c, p, by rw [wR nv]; exact e1, e2, fun q => ?_, s _ _ e3⟩
   rcases q with q | ⟨_, q⟩
   ·exact hne p hp q
   ·exact q ⟨i, ds, e, by rw [wR nv]; exact e1⟩
 ·rcases ve e1 with z | ⟨n1, z1⟩
  ·cases z
  ·rcases ve e2 with z | ⟨n2, z2⟩
   ·cases z
   ·exact R.apart i j p ds es z1 z2 (vh e3).1 (vh e4).1
theorem Rl.made {B' : Bs} {σ' : St} {δ' : Dl} (R : Rl mg K B' H σ' δ') (hP : B'.P D0) (h0 : B'.H0 D0 = none) (o : HO) : Rl mg K B' (upd H D0 o) σ' δ' := by
 refine ⟨fun b q e => ?_, fun p hp => ?_, R.len, fun i d k e => ?_, fun i ds e => ?_, R.apart⟩
 ·rw [qh (qy e h0)]
  exact R.same b q e
 ·by_cases c : p = D0
  ·rw [c, qH]; exact fun z => nomatch z
  ·rw [qh c]; exact R.pd p hp
 ·obtain ⟨v, e1, e2⟩ := R.val i d k e
  exact ⟨v, e1, e2.mono fun a g => ⟨g, fun q z => by rw [qh (fun w => g.1 (.inl (by rw [w]; exact hP)))]; exact z⟩⟩
 ·obtain ⟨c, p, e1, e2, np, e3⟩ := R.own i ds e
  exact ⟨c, p, e1, e2, np, by rw [qh (fun w => np (by rw [w]; exact hP))]; exact e3⟩
theorem jA {k l : Kd} {a : Addr} (g : Gk B σ δ k a) : Gk B σ δ (k.low l) a := by
 cases k <;> cases l <;> first | exact g | exact g.1 | exact fun z => g (.inl z) | exact fun z => g.1 (.inl z)
inductive VAs (mg : Str -> Option Value) (K : PySem.W.Frag) (B : Bs) (σ : St) (δ : Dl) (H : Hp) : List V -> List DK -> Prop
 | nil : VAs mg K B σ δ H [] []
 | snoc {vs : List V} {xs : List DK} {v : V} {x : DK} : VAs mg K B σ δ H vs xs -> Rp mg K (Gk B σ δ (x.2.low .nw)) H v x.1 -> VAs mg K B σ δ H (vs ++ [v]) (xs ++ [x])
theorem VAs.to {vs : List V} {xs : List DK} (h : VAs mg K B σ δ H vs xs) (k : ∀ a, ¬ B.P a -> ∀ o, H a = some o -> H' a = some o) : VAs mg K B σ δ H' vs xs := by
 induction h with
 | nil => exact .nil
 | snoc _ r ih =>
  refine .snoc ih (r.mono fun a g => ⟨g, k a ?_⟩)
  have g2 := jA (l := .bo) g
  rename_i x _
  revert g2
  cases x.2 <;> exact fun g => g
theorem VAs.len {vs : List V} {xs : List DK} (h : VAs mg K B σ δ H vs xs) : vs.length = xs.length := by
 induction h with
 | nil => rfl
 | snoc _ _ ih => rw [List.length_append, List.length_append, ih]; rfl
theorem VAs.sc {vs : List V} {xs : List DK} (h : VAs mg K B σ δ H vs xs) (c : (xs.map (·.1)).all D.sc = true) : vs = (xs.map (·.1)).map toV := by
 induction h with
 | nil => rfl
 | snoc _ r ih =>
  rw [List.map_append, List.all_append, Bool.and_eq_true] at c
  rw [ih c.1, List.map_append, List.map_append]
  have c2 := c.2
  simp at c2
  rw [r.sc c2]
  rfl
theorem zW : ∀ (xs : List DK) (x : DK), qw (xs ++ [x]) = if x.1.sc = true then qw xs else (qw xs).low x.2
 | [], x => by
  show qw [x] = _
  unfold qw
  split
  ·rfl
  ·show x.2.low .nw = Kd.low .nw x.2
   exact yC _ _
 | y :: r, x => by
  show qw (y :: (r ++ [x])) = _
  unfold qw
  rw [zW r x]
  split <;> split <;> first | rfl | (rw [w4])
theorem VAs.kinds {vs : List V} {xs : List DK} (h : VAs mg K B σ δ H vs xs) : qe mg K (Gk B σ δ (qw xs)) H vs (xs.map (·.1)) := by
 induction h with
 | nil => exact .nil
 | @snoc vs xs v x _ r ih =>
  rw [List.map_append, zW]
  cases c : x.1.sc with
  | true =>
   rw [if_pos rfl]
   refine ih.append (.cons ?_ .nil)
   rw [r.sc c]
   exact Rp.vl c
  | false =>
   rw [if_neg (by decide)]
   refine (ih.weak fun a g => jA g).append (.cons (r.weak fun a g => ?_) .nil)
   rw [yC]
   have e : (x.2.low .nw).low (qw xs) = x.2.low (qw xs) := by
    have n := vO xs
    cases x.2 <;> cases h : qw xs <;> first | rfl | exact absurd h n
   rw [<- e]
   exact jA g
end
section
variable {X : Cx} {E : XK} {pos : Pos}
theorem y4 {σ σ' : St} {i : Nat} {v : V} {vs : List Nat} (hi : i ∈ vs) : wipe (σ.set i (some v)) vs = wipe σ vs := by
 have gen : ∀ (vs : List Nat) (x : Option V), wipe (σ.set i x) vs = (if i ∈ vs then wipe σ vs else (wipe σ vs).set i x) := by
  intro vs
  induction vs with
  | nil => intro x; rfl
  | cons w r ih =>
   intro x
   show (wipe (σ.set i x) r).set w none = _
   rw [ih x]
   by_cases h1 : i ∈ r
   ·rw [if_pos h1, if_pos (List.mem_cons_of_mem _ h1)]
    rfl
   ·rw [if_neg h1]
    by_cases h2 : i = w
    ·subst h2
     rw [if_pos List.mem_cons_self, List.set_set]
     rfl
    ·rw [if_neg (by simp [h2, h1]), List.set_comm _ _ h2]
     rfl
 rw [gen vs (some v), if_pos hi]
theorem QT {tg : Tg} {σ σ2 : St} {vs : List Nat} (h : tg.sets σ σ2) (hv : tg.within vs) : wipe σ2 vs = wipe σ vs := by
 cases tg with
 | one i => obtain ⟨v, rfl⟩ := h; exact y4 (σ' := σ) hv
 | two i j =>
  obtain ⟨v, w, rfl⟩ := h
  rw [y4 (σ' := σ) hv.2, y4 (σ' := σ) hv.1]
theorem QY (σ : St) (vs : List Nat) : wipe (wipe σ vs) vs = wipe σ vs := by
 refine List.ext_getElem? fun i => ?_
 by_cases h : i ∈ vs
 ·by_cases hl : i < σ.length
  ·have a : ∀ τ : St, τ.length = σ.length -> (wipe τ vs)[i]? = some none := fun τ hτ => by
    have l : i < (wipe τ vs).length := by rw [qM, hτ]; exact hl
    cases e : (wipe τ vs)[i] with
    | none => rw [List.getElem?_eq_getElem l, e]
    | some x =>
     have := (vh (show (wipe τ vs)[i]? = some (some x) by rw [List.getElem?_eq_getElem l, e])).2
     exact absurd h this
   rw [a _ (qM σ vs), a _ rfl]
  ·rw [List.getElem?_eq_none (by rw [qM, qM]; lia), List.getElem?_eq_none (by rw [qM]; lia)]
 ·rw [wR h]
theorem zG {i j : Nat} {x : DK} {δ δ' : Dl} (h : put i x δ = some δ') (n : i ≠ j) : δ'[j]? = δ[j]? := by
 obtain ⟨d, k⟩ := x
 have fin : ∀ s : Sl, δ' = δ.set i s -> δ'[j]? = δ[j]? := fun s e => by rw [e, List.getElem?_set_ne n]
 cases k with
 | bo =>
  have h2 : (if d.sc = true then some (δ.set i (.val d true)) else none) = some δ' := h
  by_cases c : d.sc = true
  ·rw [if_pos c] at h2; exact fin _ (Option.some.inj h2).symm
  ·rw [if_neg c] at h2; cases h2
 | sh => exact fin _ (Option.some.inj (show some (δ.set i (zP (d, if d.sc = true then .nw else .sh))) = some δ' from h)).symm
 | nw => exact fin _ (Option.some.inj (show some (δ.set i (zP (d, if d.sc = true then .nw else .nw))) = some δ' from h)).symm
 | fr => exact fin _ (Option.some.inj (show some (δ.set i (zP (d, if d.sc = true then .nw else .fr))) = some δ' from h)).symm
theorem Tg.zG {tg : Tg} {j : Nat} {x : DK} {δ δ' : Dl} {vs : List Nat} (h : tg.put x δ = some δ') (hv : tg.within vs) (n : j ∉ vs) : δ'[j]? = δ[j]? := by
 cases tg with
 | one i => exact Ir.zG (show Ir.put i x δ = some δ' from h) fun z => n (by rw [<- z]; exact hv)
 | two i k =>
  obtain ⟨d, kd⟩ := x
  have go : ∀ a b, d = .tup [a, b] -> δ'[j]? = δ[j]? := fun a b e => by
   subst e
   have h : (Ir.put i (a, kd) δ).bind (Ir.put k (b, kd)) = some δ' := h
   cases h1 : Ir.put i (a, kd) δ with
   | none => rw [h1] at h; cases h
   | some δ1 =>
    rw [h1] at h
    rw [Ir.zG (show Ir.put k (b, kd) δ1 = some δ' from h) fun z => n (by rw [<- z]; exact hv.2), Ir.zG h1 fun z => n (by rw [<- z]; exact hv.1)]
  cases d with
  | tup l =>
   match l, go, h with
   | [a, b], go, _ => exact go a b rfl
   | [], _, h => cases h
   | [_], _, h => cases h
   | _ :: _ :: _ :: _, _, h => cases h
  | _ => cases h
theorem VI {tg : Tg} {j : Nat} {σ σ' : St} {vs : List Nat} (h : tg.sets σ σ') (hv : tg.within vs) (n : j ∉ vs) : σ'[j]? = σ[j]? := by
 cases tg with
 | one i => obtain ⟨v, rfl⟩ := h; rw [List.getElem?_set_ne fun z => n (by rw [<- z]; exact hv)]
 | two i k =>
  obtain ⟨v, w, rfl⟩ := h
  rw [List.getElem?_set_ne fun z => n (by rw [<- z]; exact hv.2), List.getElem?_set_ne fun z => n (by rw [<- z]; exact hv.1)]
theorem Wg {tg : Tg} {x : DK} {B' : Bs} {σ σ3 : St} {δ δ2 : Dl} {vs : List Nat} {a : Addr} (hp : tg.put x (clear δ vs) = some δ2) (st : tg.sets (wipe σ vs) σ3) (hv : tg.within vs) (h : qE B' (wipe σ vs) (clear δ vs) a) : qE B' σ3 δ2 a := by
 rcases h with h | ⟨j, ds, e1, e2⟩
 ·exact .inl h
 ·rcases ve e1 with z | ⟨n, _⟩
  ·cases z
  ·exact .inr ⟨j, ds, by rw [Tg.zG hp hv n]; exact e1, by rw [VI st hv n]; exact e2⟩
theorem WQ {g : TG} {tg : Tg} {src : RI} {t : RT} {r : RE} {vs : List Nat} {σ : St} {H : Hp} {Q : VK} (hv : tg.within vs) (h : TEx X E (ja tg src t r vs) σ H Q) :
  tLc (tI X E g tg src) g (TTx X E t) (TEx X E r) vs σ H Q := by
 obtain ⟨B, δ, R, h⟩ := h
 refine ⟨B, δ, R, ?_⟩
 refine qt.imp (qt.bind h) fun x h1 J H1 s1 W D0 hD => ?_
 obtain ⟨fl, xs⟩ := x
 have R1 := R.more s1
 have h0 : B.H0 D0 = none := R1.same.free hD
 have hDH : H D0 = none := s1.free hD
 have hP : (Bd B σ δ vs D0).P D0 := .inl rfl
 by_cases c : ¬ (xs.length < LIM)
 ·dsimp only at h1
  rw [if_neg c] at h1
  exact h1.elim
 have c := Decidable.of_not_not c
 dsimp only at h1
 rw [if_pos c] at h1
 have h1 := qt.bind h1
 refine ⟨fun i m H' => m = xs.length - i /\ i <= xs.length /\ Rl X.mg X.K (Bd B σ δ vs D0) H' (wipe σ vs) (clear δ vs) /\ qk H1 H' /\ ∃ acc ys, H' D0 = some (.lst acc) /\ VAs X.mg X.K (Bd B σ δ vs D0) (wipe σ vs) (clear δ vs) H' acc ys /\ ys.length <= i /\
  qt X.mg E H1 (items tg t r (clear δ vs) (xs.drop i)) fun zs => Fin X.mg X.K E B H σ δ (.ok (.lst ((ys ++ zs).map (·.1)), kL ((ys ++ zs).map (·.1)) (qw (ys ++ zs)))) Q, ⟨xs.length, by lia, Nat.zero_le _, R1.blk hD _, vy hD, [], [], qH, .nil, Nat.le_refl _, qt.more h1 s1⟩, ?_⟩
 rintro i m H2 ⟨rfl, hi, R2, s2, acc, ys, hacc, va, hys, h2⟩
 have kp : Kp fl B (Bd B σ δ vs D0) σ δ H1 (wipe σ vs) (clear δ vs) H2 := by
  refine ⟨rfl, fun b o e n => ⟨s2 b o e, fun z => ?_⟩, fun _ => s2⟩
  rcases yO.mp z with z | z
  ·rw [z, hD] at e
   cases e
  ·exact n z
 by_cases hlt : i < xs.length
 ·right
  have hx : xs[i]? = some xs[i] := List.getElem?_eq_getElem hlt
  rw [List.drop_eq_getElem_cons hlt] at h2
  unfold items at h2
  cases hp : tg.put xs[i] (clear δ vs) with
  | none => rw [hp] at h2; exact h2.elim
  | some δ2 =>
   rw [hp] at h2
   obtain ⟨go, yl⟩ := W.1 (Bd B σ δ vs D0) i xs[i] (wipe σ vs) (clear δ vs) δ2 H2 hx R2 kp hp
   refine ⟨go, fun H' => i + 1 <= xs.length /\ Rl X.mg X.K (Bd B σ δ vs D0) H' (wipe σ vs) (clear δ vs) /\ qk H1 H' /\ ∃ acc ys, H' D0 = some (.lst acc) /\ VAs X.mg X.K (Bd B σ δ vs D0) (wipe σ vs) (clear δ vs) H' acc ys /\ ys.length <= i + 1 /\
    qt X.mg E H1 (items tg t r (clear δ vs) (xs.drop (i + 1))) fun zs => Fin X.mg X.K E B H σ δ (.ok (.lst ((ys ++ zs).map (·.1)), kL ((ys ++ zs).map (·.1)) (qw (ys ++ zs)))) Q, fun H' q => ⟨xs.length - (i + 1), by lia, rfl, q.1, q.2⟩, fun v H3 hy => ?_⟩
   refine yl v H3 hy _ fun σ3 H4 R4 f4 s4 st4 => ⟨by rw [QT st4 hv, QY], ?_⟩
   refine ⟨Bd B σ δ vs D0, δ2, R4, ?_⟩
   have h2 := qt.bind h2
   refine qt.imp (qt.more h2 (s2.trans s4)) fun b h3 H5 s5 => ?_
   have s45 := s4.trans s5
   have R5 : Rl X.mg X.K (Bd B σ δ vs D0) H5 (wipe σ vs) (clear δ vs) := R2.more s45
   cases b with
   | false =>
    simp only [Bool.false_eq_true, if_false] at h3 ⊢
    exact ⟨hlt, R5, s2.trans s45, acc, ys, s45 _ _ hacc, va.to fun a _ o e => s45 a o e, by lia, h3⟩
   | true =>
    simp only [if_true] at h3 ⊢
    refine ⟨Bd B σ δ vs D0, δ2, R4.more s5, ?_⟩
    have h3 := qt.bind h3
    refine qt.imp (qt.more h3 (s2.trans s45)) fun y h4 w H6 s6 vw => ?_
    have s46 := s45.trans s6
    have hD6 : H6 D0 = some (.lst acc) := s46 _ _ hacc
    have hl := va.len
    refine ⟨acc, hD6, by have e : LIM = 16777216 := rfl; have e2 : (sizeLine : Nat) = 16777216 := rfl; lia, ?_⟩
    have R45 := R4.more s5
    have rw1 : Rp X.mg X.K (Gk (Bd B σ δ vs D0) (wipe σ vs) (clear δ vs) (y.2.low .nw)) H6 w y.1 := by
     have q := VR.low R45 .nw vw
     rw [VR.gk (low_ne _ _)] at q
     refine q.weak fun a g => ?_
     have nb : ¬ qE (Bd B σ δ vs D0) σ3 δ2 a -> ¬ qE (Bd B σ δ vs D0) (wipe σ vs) (clear δ vs) a := fun n z => n (Wg hp st4 hv z)
     revert g
     cases y.2.low .nw with
     | bo => exact fun g => g
     | sh => exact nb
     | nw => exact fun g => ⟨nb g.1, g.2⟩
     | fr => exact fun g => ⟨nb g.1, g.2⟩
    have keepD : ∀ a, ¬ (Bd B σ δ vs D0).P a -> ∀ o, H6 a = some o -> upd H6 D0 (.lst (acc ++ [w])) a = some o := fun a n o e => by
     rw [qh fun z => n (by rw [z]; exact hP)]
     exact e
    have va6 : VAs X.mg X.K (Bd B σ δ vs D0) (wipe σ vs) (clear δ vs) (upd H6 D0 (.lst (acc ++ [w]))) (acc ++ [w]) (ys ++ [y]) := (VAs.snoc (va.to fun a _ o e => s46 a o e) rw1).to keepD
    have s16 : qk H1 (upd H6 D0 (.lst (acc ++ [w]))) := fun b o e => by
     rw [qh (qy e hD)]
     exact s46 _ _ (s2 _ _ e)
    refine ⟨hlt, ((R2.more s46).made hP h0 _), s16, acc ++ [w], ys ++ [y], qH, va6, by rw [List.length_append]; exact Nat.add_le_add_right hys 1, ?_⟩
    have h5 := qt.bind h4
    cases hi2 : items tg t r (clear δ vs) (xs.drop (i + 1)) with
    | er c2 =>
     rw [hi2] at h5
     exact h5
    | no => rw [hi2] at h5; exact h5
    | ok zs =>
     rw [hi2] at h5
     have h6 : Fin X.mg X.K E B H σ δ (.ok (.lst ((ys ++ y :: zs).map (·.1)), kL ((ys ++ y :: zs).map (·.1)) (qw (ys ++ y :: zs)))) Q := h5
     show Fin X.mg X.K E B H σ δ (.ok (.lst (((ys ++ [y]) ++ zs).map (·.1)), kL (((ys ++ [y]) ++ zs).map (·.1)) (qw ((ys ++ [y]) ++ zs)))) Q
     rw [List.append_assoc]
     exact h6
 ·left
  have e : i = xs.length := by lia
  subst e
  rw [List.drop_length] at h2
  refine ⟨W.2 (Bd B σ δ vs D0) _ _ _ H2 (Nat.le_refl _) R2 kp, ?_⟩
  have h3 : Fin X.mg X.K E B H σ δ (.ok (.lst ((ys ++ ([] : List DK)).map (·.1)), kL ((ys ++ ([] : List DK)).map (·.1)) (qw (ys ++ ([] : List DK))))) Q := h2
  rw [List.append_nil] at h3
  refine h3 (.ref D0) H2 (s1.trans s2) ?_
  show VR _ _ _ _ _ _ _ (kL _ _) _ _
  unfold kL
  split
  ·rename_i cs
   exact ⟨D0, _, rfl, rfl, cs, hDH, by rw [hacc, va.sc cs]⟩
  ·rw [VR.gk (vO ys)]
   have n1 := R.fresh hDH
   have n2 := R.same.free hDH
   refine .lst ?_ (.of hacc) (va.kinds.weak fun a g => ?_)
   ·have n3 := vO ys
    cases hk : qw ys with
    | bo => exact fun z => n1 (.inl z)
    | sh => exact n1
    | nw => exact ⟨n1, n2⟩
    | fr => exact absurd hk n3
   ·have nb : ¬ qE (Bd B σ δ vs D0) (wipe σ vs) (clear δ vs) a -> ¬ qE B σ δ a := fun n z => n (yO.mpr (.inr z))
    revert g
    cases qw ys with
    | bo => exact fun g z => g (Xi R z)
    | sh => exact nb
    | nw => exact fun g => ⟨nb g.1, g.2⟩
    | fr => exact fun g => ⟨nb g.1, g.2⟩
theorem VN : PTs X [] (TTx X E QB) := fun pins s σ H Q I ⟨B, δ, R, h⟩ => Wz pins s σ H Q I (h H qk.refl)
theorem WA {elt tgE iter : Expr} {ifs : List Expr} {scope : Scope} {own : List (Str × Nat)} {g : TG} {tg : Tg} {src : RI} {t : RT} {r : RE} {LF : Addr} (hc : X.calm = true) (hN : X.N.Nodup) (acc : Acc X E) (hst : X.stack = X.env :: X.outer) (hfr : X.env.frame = some LF)
  (hi : PI X tgE iter (tI X E g tg src)) (ok : WL X.N X.env.scope scope own = true) (hv : tg.within (own.map (·.2)))
  (hg : ∀ (s : Shared) (H : Hp) (C : Addr) (cl : List (Str × Addr)) (fp : List Addr), PG (x9 X E s H scope (compEnvC scope cl C X.env) fp) tgE g)
  (ht : ∀ (s : Shared) (H : Hp) (C : Addr) (cl : List (Str × Addr)) (fp : List Addr), PTs (x9 X E s H scope (compEnvC scope cl C X.env) fp) ifs (TTx X E t))
  (he : ∀ (s : Shared) (H : Hp) (C : Addr) (cl : List (Str × Addr)) (fp : List Addr), PE (x9 X E s H scope (compEnvC scope cl C X.env) fp) elt (TEx X E r)) (hs : ∀ x, foldedSetIterable iter X.env x = pure x := by intro _; rfl) :
  PE X (.ListComp elt [⟨tgE, iter, ifs, 0⟩] scope pos) (TEx X E (ja tg src t r (own.map (·.2)))) :=
 vm (Zs hc hN acc hst hfr hi (Ve ok) hg ht he hs) fun _ _ _ h => WQ hv h
end
noncomputable abbrev xZ (P : Program) (w : World) (K : PySem.W.Frag) (mg : Str -> Option Value) (base : Heap) (N : List Str) (qual : Str) (scope : Scope) (f : Addr) (cd : Value) (A : Around) (outer : List Env) (s : Shared) (H : Hp) (E : XK) : Cx :=
 (wH (CX1 P w) P w K mg base N qual scope f cd A outer s H E).wL (Arr (wH (CX1 P w) P w K mg base N qual scope f cd A outer s H E) E)
theorem Wk {P : Program} {w : World} {K : PySem.W.Frag} {mg : Str -> Option Value} {base : Heap} {N : List Str} {qual : Str} {scope : Scope} {f : Addr} {cd : Value} {A : Around} {outer : List Env} {s : Shared} {H : Hp} {E : XK} (nd : N.Nodup) : Gd (xZ P w K mg base N qual scope f cd A outer s H E) E :=
 ⟨rfl, nd, yK, jN (X := wH (CX1 P w) P w K mg base N qual scope f cd A outer s H E) rfl rfl⟩
noncomputable def sl0 (N : List Str) (ds : List D) : Dl := ds.map (fun d => Sl.val d false) ++ List.replicate (N.length - ds.length) .un
noncomputable def res : Out -> Rs (D × Bool)
 | .rt d k => .ok (d, k)
 | .nx _ => .ok (.non, false)
 | .er c => .er c
 | _ => .no
theorem rl0 {mg : Str -> Option Value} {K : PySem.W.Frag} {H : Hp} {N : List Str} {vs : List V} {ds : List D} (r : qe mg K (fun _ => True) H vs ds) : Rl mg K ⟨H, fun _ => False⟩ H (start N vs) (sl0 N ds) := by
 have get : ∀ {i : Nat} {s : Sl}, (sl0 N ds)[i]? = some s -> (∃ d, ds[i]? = some d /\ s = .val d false) \/ s = .un := fun {i s} e => by
  unfold sl0 at e
  by_cases h : i < ds.length
  ·rw [List.getElem?_append_left (by rw [List.length_map]; exact h), List.getElem?_map, List.getElem?_eq_getElem h] at e
   exact .inl ⟨ds[i], List.getElem?_eq_getElem h, (Option.some.inj e).symm⟩
  ·rw [List.getElem?_append_right (by rw [List.length_map]; lia)] at e
   right
   have := List.mem_of_getElem? e
   exact (List.mem_replicate.mp this).2
 have own : ∀ {p : Addr}, ¬ qE ⟨H, fun _ => False⟩ (start N vs) (sl0 N ds) p := fun {p} h => by
  rcases h with h | ⟨i, es, e, _⟩
  ·exact h
  ·rcases get e with ⟨d, _, z⟩ | z <;> cases z
 refine ⟨qk.refl, fun _ h => h.elim, ?_, fun i d k e => ?_, fun i es e => ?_, fun i j p es fs e _ _ _ => ?_⟩
 ·unfold start sl0
  rw [List.length_append, List.length_append, List.length_map, List.length_map, List.length_replicate, List.length_replicate, r.len]
 ·rcases get e with ⟨d', hd, z⟩ | z
  ·cases z
   obtain ⟨v, hv, rp⟩ := r.getD hd
   refine ⟨v, ?_, rp.weak fun a _ => ⟨own, fun z => nomatch z⟩⟩
   have hl : i < vs.length := (List.getElem?_eq_some_iff.mp hv).1
   unfold start
   rw [List.getElem?_append_left (by rw [List.length_map]; exact hl), List.getElem?_map, hv]
   rfl
  ·cases z
 ·rcases get e with ⟨d, _, z⟩ | z <;> cases z
 ·rcases get e with ⟨d, _, z⟩ | z <;> cases z
section
variable {P : Program} {w : World} {K : PySem.W.Frag} {mg : Str -> Option Value} {base : Heap}
theorem jD {X : Cx} {E : XK} {st : List Stmt} {t : TS} (h : PSs (X.wL (Arr X E)) st t) (acc : Acc X E) : PSs X st t := fun pins s σ H D I hw =>
 wpAny_mono (h pins s σ H D (I.wL _) hw) (fun _ _ q => q.vG) fun e s' a => acc e s' a
theorem YM {x : Str} {st : Stmt} {f : Addr} {fd : FuncData} {N ps : List Str} {k n : Nat} {g : Fn} {r : RS} (F : Fun K x x st f fd) (S : qB N ps (qa st)) (hm : mg x = some (.ref f)) (hb : Binds K fd ps []) (hn : ps.length = n)
  (body : ∀ (cdv : Value) (A : Around) (outer : List Env) (s : Shared) (H : Hp) (E : XK), vC k (A.deeper (envOfC x (qa st) s.heap.objs.size f cdv)) ->
   PSs (xZ P w K mg base N x (qa st) f cdv A outer s H E) (qp st) (tS mg K E r))
  (hr : ∀ ds : List D, ds.length = n -> g ds = .no \/ res (r (sl0 N ds)) = g ds) : Fd P w K mg base (k + 1) x n g := by
 obtain ⟨oc, od, kV, doc, pm, an, cdv, ct, osl, rfl, lk, hcd⟩ := F.ex
 refine ⟨f, _, ps, Vq lk hcd S ?_ fun A outer s H vs Q E hroom hsp => ?_, hm, F.kp, hb⟩
 ·rintro vs H Q E ⟨ds, hl, rp, _⟩
  rw [rp.len, hl, hn]
 ·obtain ⟨ds, hl, rp, h⟩ := hsp
  refine ⟨_, jD (body cdv A outer s H E hroom) j8, ⟨H, fun _ => False⟩, sl0 N ds, rl0 rp, ?_⟩
  rcases hr ds hl with e | e
  ·rw [e] at h
   exact h.elim
  ·rw [<- e] at h
   cases ho : r (sl0 N ds) with
   | rt d k => rw [ho] at h; exact fun v H' s rr => h v H' s rr
   | nx δ' => rw [ho] at h; exact fun σ' H' R _ => h .non H' R.same Rp.non
   | er c => rw [ho] at h; exact fun C H' e s => h C H' e s
   | bk δ' => rw [ho] at h; exact h.elim
   | ct δ' => rw [ho] at h; exact h.elim
   | no => rw [ho] at h; exact h.elim
end
end L2.Ir
namespace L2.Ir
open PySem PySem.Spec PyProof.Rows
open PySem.W (WData Codec OpenSpec Well WellAll ReadsW ReadsAllW)
noncomputable def u7 (l : List (Str × Int)) (o : Rs (D × Bool)) : Option (List D) := match o with
 | .ok (.lst zs, true) => some (.int 0 :: zs)
 | .er c => (l.lookup c).map fun k => [.int (-k)]
 | _ => none
noncomputable def VU (mg : Str -> Option Value) (K : PySem.W.Frag) (n : Nat) (g : Fn) (l : List (Str × Int)) (P : Addr) : Sp := fun vs H Q _ => ∃ ds zs, ds.length = n /\ H P = some (.tbl #[]) /\ qe mg K (fun _ => True) H vs ds /\ u7 l (g ds) = some zs /\ zs.length <= LIM /\
 ∀ H' p, H' p = some (.lst (zs.map toV)) -> Q (.ref p) H'
structure jd (mg : Str -> Option Value) (K : PySem.W.Frag) (l : List (Str × Int)) (la : List (Addr × Int)) : Prop where
 at_ : ∀ c C k, mg c = some (.ref C) -> l.lookup c = some k -> qF K C = true /\ la.lookup C = some k
theorem Wi {α β : Type} (f : α -> β) (xs : List α) : (xs.map f).length = xs.length := List.length_map f
theorem ZG {mg : Str -> Option Value} {K : PySem.W.Frag} {g : Fn} {r : RA} {l : List (Str × Int)} {la : List (Addr × Int)} {P : Addr} {n : Nat} {N : List Str} {vs : List V} {H : Hp} {Q : VK} {ds zs : List D} (Er : jd mg K l la) (hP : H P = some (.tbl #[])) (rp : qe mg K (fun _ => True) H vs ds)
  (ha : u7 l (g ds) = some zs) (hz : zs.length <= LIM) (hQ : ∀ H' p, H' p = some (.lst (zs.map toV)) -> Q (.ref p) H') (hargs : ∃ ks, r (sl0 N ds) = .ok ks /\ ks.map (·.1) = ds) :
  Yr K la P (fun E => tE mg K E (qi g r)) (start N vs) H Q := by
 refine ⟨hP, fun more f => ?_⟩
 have rp' : qe mg K (fun _ => True) (upd H P (.tbl more)) vs ds := by
  refine qe.mono (G := fun a => H a ≠ some (.tbl #[])) (fun a g => ⟨trivial, fun o e => by rw [qh (fun z => g (by rw [z]; exact hP))]; exact e⟩) _ _ ?_
  have gen : (∀ (d : D) (v : V), Rp mg K (fun _ => True) H v d -> Rp mg K (fun a => H a ≠ some (.tbl #[])) H v d) := by
   intro d v h
   have ne : ∀ {a : Addr} {u : HO}, Rd H a u -> (∀ ps, u ≠ .tbl ps) -> H a ≠ some (.tbl #[]) := fun {a u} h n z => by
    rcases h with h | ⟨o, h⟩
    ·rw [z] at h; exact n _ (Option.some.inj h).symm
    ·rw [z] at h; cases h
   exact h.rec (motive_1 := fun v d _ => Rp mg K (fun a => H a ≠ some (.tbl #[])) H v d) (motive_2 := fun vs ds _ => qe mg K (fun a => H a ≠ some (.tbl #[])) H vs ds)
    .non (fun b => .bl b) (fun i => .int i) (fun e => .fn e) (fun _ s _ ih => .lst (ne s fun ps z => nomatch z) s ih) (fun s _ ih => .lstK s ih) (fun _ s _ ih => .tup (ne s fun ps z => nomatch z) s ih) (fun s _ ih => .tupK s ih) (fun _ m s l _ ih => .obj (by rw [s]; exact fun z => nomatch z) m s l ih) .nil fun _ _ ih1 ih2 => .cons ih1 ih2
  have all : ∀ {vs : List V} {ds : List D}, qe mg K (fun _ => True) H vs ds -> qe mg K (fun a => H a ≠ some (.tbl #[])) H vs ds := by
   intro vs ds h
   induction ds generalizing vs with
   | nil => cases h; exact .nil
   | cons d ds ih => cases h with | cons a b => exact .cons (gen _ _ a) (ih b)
  exact all rp
 refine ⟨⟨upd H P (.tbl more), fun _ => False⟩, sl0 N ds, rl0 rp', ?_⟩
 obtain ⟨ks, e1, e2⟩ := hargs
 unfold qi
 rw [e1]
 show Fin _ _ _ _ _ _ _ ((g (ks.map (·.1))).bind _) _
 rw [e2]
 cases hg : g ds with
 | no => rw [hg] at ha; cases ha
 | er c =>
  rw [hg] at ha
  have ha : (l.lookup c).map (fun k => [D.int (-k)]) = some zs := ha
  cases hl : l.lookup c with
  | none => rw [hl] at ha; cases ha
  | some k =>
   rw [hl] at ha
   cases ha
   intro C H' hC s
   obtain ⟨h1, h2⟩ := Er.at_ c C k hC hl
   exact ⟨C, k, rfl, h1, h2, fun p hp => hQ _ p (by rw [qH]; rfl)⟩
 | ok y =>
  rw [hg] at ha
  obtain ⟨d, b⟩ := y
  cases b with
  | false => cases d <;> cases ha
  | true =>
   cases d with
   | lst ws =>
    cases ha
    intro v H' s vr
    obtain ⟨p, es, rfl, e, c, h1, h2⟩ := vr
    cases e
    refine Q4 ⟨p, _, rfl, h2, ?_, fun q hq p' hp' => hQ _ p' ?_⟩
    ·rw [Wi]
     have e : (sizeLine : Nat) = LIM := rfl
     rw [e]
     exact hz
    ·rw [qH]
     rfl
   | _ => cases ha
mutual
noncomputable def ofW : WData -> D
 | .none => .non
 | .bool b => .bl b
 | .int i => .int i
 | .list xs => .lst (uw xs)
 | .tuple xs => .tup (uw xs)
 | _ => .non
noncomputable def uw : List WData -> List D
 | [] => []
 | x :: r => ofW x :: uw r
/-- numbers, truth values, lists and tuples of them -/
noncomputable def plD : WData -> Bool
 | .none => true
 | .bool _ => true
 | .int _ => true
 | .list xs => x5 xs
 | .tuple xs => x5 xs
 | _ => false
noncomputable def x5 : List WData -> Bool
 | [] => true
 | x :: r => plD x && x5 r
end
mutual
theorem Yw {mg : Str -> Option Value} {K : PySem.W.Frag} {H : Hp} : ∀ (d : WData) (v : V), plD d = true -> Dw K H v d -> Rp mg K (fun _ => True) H v (ofW d)
 | .none, _, _, h => by cases h; exact .non
 | .bool b, _, _, h => by cases h; exact .bl b
 | .int i, _, _, h => by cases h; exact .int i
 | .list xs, _, p, h => by cases h with | lst s a => exact Rp.ofL s (fun _ => trivial) (yN xs _ p a)
 | .tuple xs, _, p, h => by
  cases h with
  | tup s a =>
   rcases s with s | s
   ·exact .tup trivial s (yN xs _ p a)
   ·exact .tupK (fun _ => .inr s) (yN xs _ p a)
 | .str _, _, p, _ => nomatch p
 | .bytes _, _, p, _ => nomatch p
 | .float _, _, p, _ => nomatch p
 | .dict _, _, p, _ => nomatch p
 | .bytearray _, _, p, _ => nomatch p
 | .set _, _, p, _ => nomatch p
 | .frozenset _, _, p, _ => nomatch p
 | .obj _ _, _, p, _ => nomatch p
theorem yN {mg : Str -> Option Value} {K : PySem.W.Frag} {H : Hp} : ∀ (ds : List WData) (vs : List V), x5 ds = true -> vt K H vs ds -> qe mg K (fun _ => True) H vs (uw ds)
 | [], _, _, h => by cases h; exact .nil
 | d :: ds, _, p, h => by
  cases h with
  | cons a b =>
   have q : plD d = true /\ x5 ds = true := Bool.and_eq_true_iff.mp p
   exact .cons (Yw d _ q.1 a) (yN ds _ q.2 b)
end
theorem xA : ∀ ns : List Int, uw (ns.map WData.int) = ns.map D.int
 | [] => rfl
 | n :: r => by show D.int n :: uw (r.map WData.int) = _; rw [xA r]; rfl
theorem xr : ∀ ns : List Int, x5 (ns.map WData.int) = true
 | [] => rfl
 | n :: r => by show (true && x5 (r.map WData.int)) = true; rw [xr r]; rfl
mutual
theorem Dw.same {K : PySem.W.Frag} {H H' : Hp} (s : qk H H') : ∀ (d : WData) (v : V), Dw K H v d -> Dw K H' v d
 | .none, _, h => by cases h; exact .non
 | .bool b, _, h => by cases h; exact .bl b
 | .int i, _, h => by cases h; exact .int i
 | .str x, _, h => by cases h; exact .str x
 | .bytes b, _, h => by
  cases h with
  | byt b => exact .byt b
 | .list xs, _, h => by cases h with | lst q a => exact .lst (s.seq q) (vt.same s xs _ a)
 | .tuple xs, _, h => by
  cases h with
  | tup q a =>
   refine .tup ?_ (vt.same s xs _ a)
   rcases q with (q | ⟨o, q⟩) | q
   ·exact .inl (.inl (s _ _ q))
   ·exact .inl (.inr ⟨o, s _ _ q⟩)
   ·exact .inr q
 | .float _, _, h => by cases h
 | .dict _, _, h => by cases h
 | .bytearray _, _, h => by cases h
 | .set _, _, h => by cases h
 | .frozenset _, _, h => by cases h
 | .obj _ _, _, h => by cases h
theorem vt.same {K : PySem.W.Frag} {H H' : Hp} (s : qk H H') : ∀ (ds : List WData) (vs : List V), vt K H vs ds -> vt K H' vs ds
 | [], _, h => by cases h; exact .nil
 | d :: ds, _, h => by cases h with | cons a b => exact .cons (Dw.same s d _ a) (vt.same s ds _ b)
end
theorem Vh {P : Program} {w : World} {K : PySem.W.Frag} {mg mb : Str -> Option Value} {k : Nat} {fa c PT : Addr} {fd : FuncData} {ps : List Str} {sp : Sp} {s₁ : Shared} {vals : List Value} {ds : List WData} {R : PySem.W.WRecords} {cl : Str -> Option Addr} {d0 : WData}
  (KX : K.In s₁.heap) (hno : PySem.W.noTabs K = true) (hns : s₁.heap.Ns mainGlobals mg) (hb : s₁.heap.Ns builtinsNs mb) (hbb : ∀ x : Str, x ≠ "__name__" -> mb x = bootBuiltins x) (hlim : s₁.heap.NoLimit) (hg : s₁.gens = #[])
  (hc : PySem.W.CodeHd s₁.heap c PT) (htab : s₁.heap.get? PT = some (PySem.W.tabObj #[])) (hbm : ∃ bm ob, mg "__builtins__" = some (.ref bm) /\ bm ≠ builtinsNs /\ s₁.heap.get? bm = some ob /\ ob.cls = .type "module" /\ ob.dict = some builtinsNs /\ ob.data = .plain)
  (hwl : WellAll w.params s₁.heap vals ds) (hpl : zZ ds = true) (hwt : ∀ d ∈ ds, d.weight <= 1048576) (hr : vC k callerA)
  (F : ∀ base : Heap, K.In base -> base.Ns mainGlobals mg -> wD mg base c PT -> uU P w K mg base (CX1 P w) k fa fd ps sp) (hbind : ∀ (s : Shared) (us : List Value), us.length = ps.length -> BindsTo s fd ⟨us, []⟩ (ps.zip us)) (hlen : ds.length = ps.length)
  (hsp : ∀ (H : Hp) (xs : List V), H PT = some (.tbl #[]) -> vt K H xs ds -> sp xs H (fun v H' => Dw K H' v d0) fun _ _ _ => False) :
  codeAny (model P w) callerA (.call (.ref fa) ⟨vals, []⟩) (fun r s' => ∃ u as, r = .ok (.ret u) /\ ReadsW R cl s'.heap u d0 as /\ OldK s₁.heap s'.heap /\ s'.os = s₁.os /\ AllBare s'.gens) s₁ := by
 obtain ⟨A, ho, ar⟩ := zA ds vals hwl hpl hwt
 have hO : Zh (wq K s₁.heap A) := QU ar
 have hok0 : HOk P w (wq K s₁.heap A) s₁.heap := WC ar
 have hS0 := xS KX ar ds vals hwl hpl ho
 have hV := wd ho
 have hK0 : ∀ b u, wq K s₁.heap A b = some u -> K.lookup b = none := fun b u q => (z8 ar q).1
 -- what is tracked is a list or a tuple
 have seqs : ∀ {b : Addr} {o : Obj}, s₁.heap.get? b = some o -> (∀ vs n, o.data ≠ .seq vs n) -> wq K s₁.heap A b = none := fun {b o} e d => by
  cases q : wq K s₁.heap A b with
  | none => rfl
  | some u =>
   obtain ⟨_, vs, _, _, ⟨e2, _⟩ | ⟨e2, _⟩⟩ := z8 ar q
   ·rw [e2] at e
    cases e
    exact absurd rfl (d vs.toArray _)
   ·rw [e2] at e
    cases e
    exact absurd rfl (d vs.toArray _)
 generalize wq K s₁.heap A = H0 at hO hok0 hS0 hK0 seqs
 have hP0 : H0 PT = none := seqs htab fun vs n z => nomatch z
 have sameH : qk H0 (upd H0 PT (.tbl #[])) := vy hP0
 have hok : HOk P w (upd H0 PT (.tbl #[])) s₁.heap := fun b u q => by
  by_cases hb : b = PT
  ·subst hb
   rw [qH] at q
   cases q
   exact htab
  ·rw [qh hb] at q
   exact (hok0 b u q).xi (fun _ _ _ q => q) (fun c q => sameH _ _ q) fun c xs q => sameH _ _ q
 have hS := vt.same sameH ds _ hS0
 have nPK : K.lookup PT = none := by
  cases q : K.lookup PT with
  | none => rfl
  | some o =>
   have e := KX PT o q
   rw [htab] at e
   cases e
   have h2 := List.all_eq_true.mp hno (PT, _) (PySem.W.mem_of_lookupK q)
   exact absurd (show false = true from h2) Bool.false_ne_true
 have hK : ∀ b u, (upd H0 PT (.tbl #[])) b = some u -> K.lookup b = none := fun b u q => by
  by_cases hb : b = PT
  ·rw [hb]; exact nPK
  ·rw [qh hb] at q; exact hK0 b u q
 have noS : ∀ {b : Addr} {o : Obj}, s₁.heap.get? b = some o -> (∀ vs n, o.data ≠ .seq vs n) -> (∀ vs, o.data ≠ .fields vs \/ o.cls ≠ .none) -> (upd H0 PT (.tbl #[])) b = none := fun {b o} e d d2 => by
  rw [qh]
  ·exact seqs e d
  ·intro z
   rw [z, htab] at e
   cases e
   rcases d2 #[] with q | q <;> exact q rfl
 generalize hH : upd H0 PT (.tbl #[]) = H at hok hS hK noS
 have hPH : H PT = some (.tbl #[]) := by rw [<- hH]; exact qH
 have base_of : ∀ {b : Addr} {o : Obj}, s₁.heap.get? b = some o -> H b = none -> (xg s₁.heap H).get? b = some o := fun e n => VL e n
 have nsK : ∀ {b : Addr} {m : Str -> Option Value}, s₁.heap.Ns b m -> (xg s₁.heap H).Ns b m := fun {b m} ⟨o, es, ep, e, d, r⟩ => ⟨o, es, ep, base_of e (noS e (fun vs n z => by rw [d] at z; cases z) fun vs => .inl fun z => by rw [d] at z; cases z), d, r⟩
 have nK : ∀ b o, K.lookup b = some o -> H b = none := fun b o e => by
  cases q : H b with
  | none => rfl
  | some u =>
   rw [hK b u q] at e
   cases e
 have hKb : K.In (xg s₁.heap H) := fun b o e => base_of (KX b o e) (nK b o e)
 have hM : Mod K mg (xg s₁.heap H) := ⟨hKb, nsK hns, ⟨mb, nsK hb, hbb⟩, let ⟨mc, h1, h2⟩ := hlim; ⟨mc, nsK h1, h2⟩⟩
 have e0 : jP P w K mg (xg s₁.heap H) callerA [] s₁ H := ⟨rfl, hM, fun b o e => WR e, Nat.le_of_eq (QX _ _), trivial, fun b hb => absurd (show b ∈ ([] : List Addr) from hb) (by simp), hok, .of_eq hg⟩
 have hl : vals.length = ps.length := by rw [vU hwl]; exact hlen
 have BL : wD mg (xg s₁.heap H) c PT := by
  refine ⟨?_, ?_⟩
  ·obtain ⟨o, vs, file, tf, flags, tg, inF, text, tt, e1, e2, e3, r⟩ := hc
   exact ⟨o, vs, file, tf, flags, tg, inF, text, tt, base_of e1 (noS e1 (fun vs n z => by rw [e3] at z; cases z) fun vs => .inr fun z => by rw [e2] at z; cases z), e2, e3, r⟩
  ·obtain ⟨bm, ob, b1, b2, b3, b4, b5, b6⟩ := hbm
   exact ⟨bm, ob, b1, b2, base_of b3 (noS b3 (fun vs n z => by rw [b6] at z; cases z) fun vs => .inl fun z => by rw [b6] at z; cases z), b4, b5, b6⟩
 refine codeAny_mono ((F _ hKb (nsK hns) BL).run callerA [] s₁ H ⟨vals, []⟩ vals (vals.map L2.toV) _ _ hr e0 (hbind s₁ vals hl) hV (hsp H _ hPH hS)) fun r s' x => ?_
 cases r with
 | error e =>
  obtain ⟨_, _, _, _, _, _, _, _, _, _, _, q⟩ := x
  exact q.elim
 | ok fl =>
  cases fl with
  | next => exact False.elim x
  | brk => exact False.elim x
  | cont => exact False.elim x
  | ret u =>
   obtain ⟨v, H', os, bare, un, hok', r', q⟩ := x
   have kept : ∀ b o, b ≠ PT -> s₁.heap.get? b = some o -> s'.heap.get? b = some o := fun b o hb e => by
    cases q2 : H b with
    | none => exact un.keep b o e q2 (by intro z; exact absurd (show b ∈ ([] : List Addr) from z) (by simp)) (by simp)
    | some u2 =>
     have q3 := q2
     rw [<- hH, qh hb] at q3
     rcases hO b with z | ⟨ob, u3, z⟩
     ·rw [q3] at z
      cases z
     ·rw [q3] at z
      cases z
      have z2 := un.frzs b ob _ q2
      obtain ⟨e1, _⟩ := hok b _ q2
      obtain ⟨e2, _⟩ := hok' b _ z2
      rw [e] at e1
      cases e1
      exact e2
   obtain ⟨more, hm⟩ := un.tbls PT #[] hPH
   have tab' : s'.heap.get? PT = some { cls := .none, data := .fields (#[] ++ more) } := hok' PT _ hm
   have KX' : K.In s'.heap := fun b o e => kept b o (fun z => by rw [z, nPK] at e; cases e) (KX b o e)
   obtain ⟨as, hrd⟩ := Dw.reads (R := R) (cl := cl) hok' KX' d0 v u q r'
   refine ⟨u, as, rfl, hrd, ⟨fun b o e => ?_, fun b o e => ?_⟩, os, bare⟩
   ·by_cases hb : b = PT
    ·subst hb
     rw [htab] at e
     cases e
     exact .inr (.inl ⟨(hc.tab htab).isCodeTable, rfl, #[], more, rfl, tab'⟩)
    ·exact .inl (kept b o hb e)
   ·by_cases hb : b = PT
    ·subst hb
     exact ⟨_, tab'⟩
    ·exact ⟨o, kept b o hb e⟩
theorem V5 {r : OpenSpec} {k : Nat} {q : Program} {loose : List Str} {XP : (Str -> Option Value) -> Heap -> Prop} {YP : World -> Heap -> Prop} {d : DefRec} {K : Params -> PySem.W.Frag} {ps : List Str} {sp : PySem.W.Frag -> (Str -> Option Value) -> Addr -> Sp} {c PT : Params -> Addr}
  (hwell : r.wellSaid = true) (hlen : r.args.length = ps.length) (hr : vC k callerA)
  (hY : ∀ (w : World) (h : Heap), YP w h -> (K w.params).In h) (hno : ∀ p, PySem.W.noTabs (K p) = true) (htab : ∀ p, PySem.W.tabIn (K p) d.name = some (c p, PT p)) (hrec : (PyProof.Rows.recsOf q).find? (fun e => e.name == d.name) = some d)
  (F : ∀ (w : World) (mg : Str -> Option Value) (fa : Addr) (h : Heap), YP w h -> (K w.params).In h -> h.Ns mainGlobals mg -> mg d.name = some (.ref fa) ->
   ∃ fd : FuncData, (∀ (s : Shared) (us : List Value), us.length = ps.length -> BindsTo s fd ⟨us, []⟩ (ps.zip us)) /\
    ∀ base : Heap, (K w.params).In base -> base.Ns mainGlobals mg -> wD mg base (c w.params) (PT w.params) -> uU r.prog w (K w.params) mg base (CX1 r.prog w) k fa fd ps (sp (K w.params) mg (PT w.params)))
  (hsp : ∀ (K : PySem.W.Frag) (mg : Str -> Option Value) (PT : Addr) (H : Hp) (xs : List V) (a : Codec.denoteAll r.args), H PT = some (.tbl #[]) -> Codec.withinAll r.args a = true -> Codec.app r.args r.asked a = true -> vt K H xs (Codec.encAll r.args a) ->
   sp K mg PT xs H (fun v H' => Dw K H' v (r.ret.enc (Codec.app r.args r.f a))) fun _ _ _ => False) :
  PySem.W.WalkOS q loose XP YP r d [] (fun f vs => PySem.call f vs) := by
 intro w s_0 s₁ mg mb G Y fa o pm cd doc dV kV ho hd hcd hD hmg hg args vals as hpre hlay hrd hwl hlo
 obtain ⟨a, e1, e2⟩ := PySem.W.os_pre_some hpre
 obtain ⟨e3, hwi⟩ := Codec.encAll_of_decAll r.args args a e1
 subst e3
 have KX := hY w _ Y
 obtain ⟨fd, hb, hF⟩ := F w mg fa _ Y KX G.T.g hmg
 obtain ⟨hc, ht⟩ := PySem.W.tab_of G.T KX hrec (htab w.params)
 refine PySem.W.enter_call (codeAny_mono (Vh (R := []) (cl := classAt s_0.heap) (d0 := r.ret.enc (Codec.app r.args r.f a)) KX (hno _) G.T.g G.T.b G.T.builtins G.T.nolimit hg hc ht G.T.bmain hwl (xu _ _) (yS hlay) hr hF hb (by rw [yw]; exact hlen)
  (fun H xs hP hS => hsp (K w.params) mg _ H xs a hP hwi e2 hS)) fun r' s' hq => ?_)
 obtain ⟨u, as', rfl, h1, h2, h3, h4⟩ := hq
 exact ⟨.inl ⟨u, _, as', rfl, fun _ => rfl, h1, (OpenSpec.post_iff hwell hwi _ _).mpr rfl, fun z => Bool.noConfusion (show false = true from z)⟩, h2, h3, h4⟩
theorem Q6 {K : PySem.W.Frag} {x : Str} {c PT f : Addr} {oc : Value} {od : Option Addr} {fd : FuncData} {osl : Array (Option Value)} (h : PySem.W.tabIn K x = some (c, PT)) (hn : PySem.W.nsIn K mainGlobals x = some (some (.ref f))) (lk : K.lookup f = some ⟨oc, od, .func fd, osl⟩) : fd.code = .ref c := by
 unfold PySem.W.tabIn at h
 rw [hn] at h
 dsimp only at h
 rw [lk] at h
 dsimp only at h
 split at h
 ·rename_i c' e
  split at h
  ·split at h
   ·cases h
    exact e
   ·cases h
  ·cases h
 ·cases h
structure Zi (P : Program) (w : World) (K : PySem.W.Frag) (mg : Str -> Option Value) (base : Heap) (st2 : Stmt) (la : List (Addr × Int)) : Prop where
 ex : ∃ (f2 : Addr) (oc : Value) (od : Option Addr) (kV doc pm : Value) (an : Option Addr) (cdv ct : Value) (osl : Array (Option Value)) (h0 : ExceptHandler) (hs : List ExceptHandler) (q1 q2 q3 q4 q5 q6 q7 q8 q9 q10 : Pos) (j : Nat),
  K.lookup f2 = some ⟨oc, od, .func (PySem.W.fnOf "answered" "answered" (qG st2) (qp st2) (qa st2) .none kV doc pm an cdv ct), osl⟩ /\ PySem.W.codeIn K cdv "answered" = true /\ PySem.W.keepIn K (.ref f2) = true /\ mg "answered" = some (.ref f2) /\
  qp st2 = x6 (h0 :: hs) q1 q2 q3 q4 q5 q6 q7 q8 q9 q10 j /\ qB ["work", "told"] ["work"] (qa st2) /\ (qa st2).names.lookup ("work" : Str) = some .local /\ (qa st2).names.lookup ("told" : Str) = some .local /\
  (∀ (s : Shared) (u : Value), BindsTo s (PySem.W.fnOf "answered" "answered" (qG st2) (qp st2) (qa st2) .none kV doc pm an cdv ct) ⟨[u], []⟩ ((["work"] : List Str).zip [u])) /\
  ∀ (A : Around) (outer : List Env) (s : Shared) (H : Hp) (E : XK), Hs (wH (CX1 P w) P w K mg base ["work", "told"] "answered" (qa st2) f2 cdv A outer s H E) (h0 :: hs) la
section
variable {P : Program} {w : World} {K : PySem.W.Frag} {mg : Str -> Option Value} {base : Heap}
theorem ZU {x : Str} {st st2 : Stmt} {f c PT : Addr} {fd : FuncData} {ps : List Str} {k n : Nat} {g : Fn} {r : RA} {l : List (Str × Int)} {la : List (Addr × Int)} {p pos rpos lpos : Pos} {params : Arguments} {body : Expr} {ls : Scope}
  (F : Fun K x x st f fd) (S : qB ps ps (qa st)) (hn : ps.length = n) (htab : PySem.W.tabIn K x = some (c, PT)) (hns : PySem.W.nsIn K mainGlobals x = some (some (.ref f))) (BL : wD mg base c PT) (A2 : Zi P w K mg base st2 la) (Er : jd mg K l la)
  (hbody : qp st = [.Return (some (.Call (.Name "answered" p) [.Lambda params body ls lpos] [] pos)) rpos]) (L : zC (qa st) ls) (hgl : (qa st).names.lookup ("answered" : Str) = some .globalImplicit) (hdef : ∀ env : Env, defaultsOf params env = ([], []))
  (hbind : ∀ (q : Str) (c' : Addr) (clos : List (Str × Addr)) (pm ctv : Value), bindArgs (PySem.W.kla_fn "<lambda>" q params body ls clos pm (.ref c') ctv) ⟨[], []⟩ = pure [])
  (hcall : ∀ (cdv : Value) (A : Around) (outer : List Env) (s0 : Shared) (H0 : Hp) (E0 : XK) (Y : Cx) (q : Str) (f' : Addr) (cd : Value) (s : Shared) (H : Hp) (E' : XK), vC k (Y.A.deeper (zi (wH (CX1 P w) P w K mg base ps x (qa st) f cdv A outer s0 H0 E0) q ls f' cd s)) ->
   PE (yt (wH (CX1 P w) P w K mg base ps x (qa st) f cdv A outer s0 H0 E0) Y q ls f' cd s H E') body (tE mg K E' (qi g r)))
  (hargs : ∀ ds : List D, ds.length = n -> ∃ ks, r (sl0 ps ds) = .ok ks /\ ks.map (·.1) = ds) : uU P w K mg base (CX1 P w) (k + 3) f fd ps (VU mg K n g l PT) := by
 obtain ⟨oc, od, kV, doc, pm, an, cdv, ct, osl, rfl, lk, hcd⟩ := F.ex
 have hc : cdv = .ref c := Q6 htab hns lk
 refine Vq lk hcd S ?_ fun A outer s H vs Q E hroom hsp => ?_
 ·rintro vs H Q E ⟨ds, zs, hl, _, rp, _⟩
  rw [rp.len, hl, hn]
 ·obtain ⟨ds, zs, hl, hP, rp, ha, hz, hQ⟩ := hsp
  obtain ⟨f2, oc2, od2, kV2, doc2, pm2, an2, cdv2, ct2, osl2, h0, hs, q1, q2, q3, q4, q5, q6, q7, q8, q9, q10, j, lk2, hcd2, hk2, hm2, hb2, S2, hw2, ht2, bi2, hH2⟩ := A2.ex
  rw [hbody]
  rw [hb2] at lk2 bi2
  refine ⟨ZH (Yr K la PT fun E' => tE mg K E' (qi g r)), zq (yy ?_), ?_⟩
  ·have q := uI (X := wH (CX1 P w) P w K mg base ps x (qa st) f cdv A outer s H E) (c := c) (P := PT) (f2 := f2) (k := k) (E := E) (l := la) (tb := fun E' => tE mg K E' (qi g r)) (pos := pos) (p := p) (lpos := lpos) (params := params) (body := body) (ls := ls)
    BL hc (fun _ => rfl) rfl L (hdef _) hroom hgl hm2 hk2 lk2 hcd2 S2 hw2 ht2 (fun s u => bi2 s u) (fun s H => hH2 _ _ s H E) (fun c' clos pm ctv => hbind _ c' clos pm ctv) j8 (fun Y f' cd s' H' E' hr' => hcall _ _ _ _ _ _ Y _ f' cd s' H' E' hr')
   exact q
  ·exact ZG (N := ps) (n := n) Er hP rp ha hz hQ (hargs ds hl)
end
section
variable {X : Cx} {E : XK} {pos : Pos}
theorem xv (i : Nat) {x : Str} (hN : X.N[i]? = some x := by rfl) (hv : Vis X.env.scope x := by first | exact Or.inl rfl | exact Or.inr (Or.inl rfl) | exact Or.inr (Or.inr rfl)) (hd : (x == ("__debug__" : Str)) = false := by decide)
  (hcd : (x == ("__classdict__" : Str)) = false := by decide) : PE X (.Name x pos) (TEx X E (qb i)) := ZA hN hv hd hcd
theorem jf (i : Nat) {x : Str} {e : Expr} {r : RE} {pos' : Pos} (g : Gd X E) (he : PE X e (TEx X E r)) (hi : X.N[i]? = some x := by rfl) (hx : Loc X.env.scope x := by first | exact Or.inl rfl | exact Or.inr rfl) (hs : swapsWith e (some (.Name x pos')) pos.line X.env = pure false := by rfl)
  (hf : X.fn x = true \/ X.env.scope.names.lookup x = some .local := by first | exact .inl rfl | exact .inr rfl) : PS X (.Assign [.Name x pos'] e pos) (TSx X E (we i r)) := Zt g hi hx he hs hf
theorem Yv (i : Nat) {x : Str} {p : Pos} (hN : X.N[i]? = some x := by rfl) (hv : Vis X.env.scope x := by first | exact Or.inl rfl | exact Or.inr (Or.inl rfl) | exact Or.inr (Or.inr rfl)) (hd : (x == ("__debug__" : Str)) = false := by decide) (hcd : (x == ("__classdict__" : Str)) = false := by decide) :
  PS X (.Return (some (.Name x p)) pos) (TSx X E (yU i)) := WM hN hv hd hcd
theorem pgn (i : Nat) {x : Str} (hN : X.N.Nodup) (hi : X.N[i]? = some x := by rfl) (hx : Loc X.env.scope x := by first | exact Or.inl rfl | exact Or.inr rfl) (hf : X.fn x = true \/ X.env.scope.names.lookup x = some .local := by first | exact .inl rfl | exact .inr rfl) : PG X (.Name x pos) (vT i) := V7 hN hi hx hf
theorem pg2 {i j : Nat} {a b : Expr} {k : Nat} (hc : X.calm = true) (ha : PG X a (vT i)) (hb : PG X b (vT j)) (hn : (assignEach [a, b] X.env).length = 2 := by rfl) (h1 : (assignEach [a, b] X.env).map (·.2) = assign a X.env :: (assignEach [b] X.env).map (·.2) := by rfl)
  (h2 : (assignEach [b] X.env).map (·.2) = assign b X.env :: (assignEach [] X.env).map (·.2) := by rfl) (hst : (assignEach [a, b] X.env).findIdx? (·.1) = none := by rfl) : PG X (.Tuple [a, b] k pos) (WX X.K 2 (y6 (vT i) (y6 (vT j) We))) := ZZ hc (uL ha (uL hb WE h2) h1) hn hst
theorem Qk {tgE : Expr} {x : Str} {p : Pos} {body : List Stmt} {g : TG} {tg : Tg} {i : Nat} {rb : RS} (G : Gd X E) (hi : PI X tgE (.Name x p) (tI X E g tg (iOf (qb i)))) (hg : PG X tgE g) (hb : PSs X body (TSx X E rb)) : PS X (.For tgE (.Name x p) body [] pos) (TSx X E (xC tg i rb)) := by
 refine vZ (Vd G hi hg hb) fun D σ H ⟨B, δ, R, h⟩ => ?_
 unfold xC at h
 cases hδ : δ[i]? with
 | none => rw [hδ] at h; exact ⟨B, δ, R, h⟩
 | some s =>
  rw [hδ] at h
  cases s with
  | own ds =>
   have q := R.Xa hδ
   exact ⟨B, _, q.1, wo.later h q.2⟩
  | un => exact ⟨B, δ, R, h⟩
  | val d k => exact ⟨B, δ, R, h⟩
end
end L2.Ir
namespace Dm
theorem two_pow_pos (k : Nat) : 0 < 2 ^ k := Nat.two_pow_pos k
theorem vA (n d c : Nat) (hc : 0 < c) : Pv.nearest (n * c) (d * c) = Pv.nearest n d := by
 unfold Pv.nearest
 rw [Nat.mul_mod_mul_right, Nat.mul_div_mul_right _ _ hc]
 have e1 : (d * c < 2 * (n % d * c)) ↔ (d < 2 * (n % d)) := by
  rw [<- Nat.mul_assoc]
  exact Nat.mul_lt_mul_right hc
 have e2 : (2 * (n % d * c) = d * c) ↔ (2 * (n % d) = d) := by
  rw [<- Nat.mul_assoc]
  exact Nat.mul_left_inj (Nat.pos_iff_ne_zero.mp hc)
 simp only [e1, e2]
theorem z9 {x k : Nat} (h1 : 2 ^ k <= x) (h2 : x < 2 ^ (k + 1)) : x.log2 = k :=
 (Nat.log2_eq_iff (Nat.pos_iff_ne_zero.mp (Nat.lt_of_lt_of_le (two_pow_pos k) h1))).mpr ⟨h1, h2⟩
theorem ua {x : Nat} (h : x ≠ 0) : 2 ^ x.log2 <= x := (Nat.le_log2 h).mp (Nat.le_refl _)
theorem yg {x : Nat} (h : x ≠ 0) : x < 2 ^ (x.log2 + 1) := (Nat.log2_lt h).mp (Nat.lt_succ_self _)
theorem uv (x a : Nat) (h : x ≠ 0) : (x * 2 ^ a).log2 = x.log2 + a := by
 refine z9 ?_ ?_
 ·rw [Nat.pow_add]
  exact Nat.mul_le_mul_right _ (ua h)
 ·rw [show x.log2 + a + 1 = x.log2 + 1 + a by lia, Nat.pow_add]
  exact Nat.mul_lt_mul_of_pos_right (yg h) (two_pow_pos a)
theorem VZ (x b : Nat) : (x / 2 ^ b).log2 = x.log2 - b := by
 by_cases h : x = 0
 ·subst h; simp
 by_cases hb : b <= x.log2
 ·refine z9 ?_ ?_
  ·rw [Nat.le_div_iff_mul_le (two_pow_pos b), <- Nat.pow_add, Nat.sub_add_cancel hb]
   exact ua h
  ·rw [Nat.div_lt_iff_lt_mul (two_pow_pos b), <- Nat.pow_add, show x.log2 - b + 1 + b = x.log2 + 1 by lia]
   exact yg h
 ·have hx : x / 2 ^ b = 0 := by
   rw [Nat.div_eq_zero_iff]
   right
   exact Nat.lt_of_lt_of_le (yg h) (Nat.pow_le_pow_right (by decide) (by lia))
  rw [hx, Nat.log2_zero]; lia
noncomputable def nw (whole k : Nat) : Nat :=
 if k = 0 then whole else
 if 2 ^ (k - 1) < whole - whole / 2 ^ k * 2 ^ k \/ (whole - whole / 2 ^ k * 2 ^ k = 2 ^ (k - 1) /\ whole / 2 ^ k % 2 = 1) then whole / 2 ^ k + 1 else whole / 2 ^ k
theorem jT (whole k : Nat) : nw whole k = Pv.nearest whole (2 ^ k) := by
 unfold nw Pv.nearest
 by_cases hk : k = 0
 ·subst hk
  simp [Nat.mod_one]
 ·rw [if_neg hk]
  have e : whole - whole / 2 ^ k * 2 ^ k = whole % 2 ^ k := by
   have := Nat.div_add_mod whole (2 ^ k)
   rw [Nat.mul_comm] at this
   lia
  have e2 : 2 ^ k = 2 * 2 ^ (k - 1) := by
   rw [<- Nat.pow_succ']
   congr 1
   lia
  have c1 : 2 ^ k < 2 * (whole % 2 ^ k) ↔ 2 ^ (k - 1) < whole % 2 ^ k := by lia
  have c2 : 2 * (whole % 2 ^ k) = 2 ^ k ↔ whole % 2 ^ k = 2 ^ (k - 1) := by lia
  rw [e]
  simp only [c1, c2]
theorem xf (n d : Nat) (hd : 0 < d) : Pv.nearest (n * d) d = n := by
 unfold Pv.nearest
 rw [Nat.mul_mod_left, Nat.mul_div_cancel _ hd]
 rw [if_neg]
 lia
theorem jm (n d m : Nat) (hd : 0 < d) (h : n < m * d) : Pv.nearest n d <= m := by
 have : n / d < m := (Nat.div_lt_iff_lt_mul hd).mpr h
 unfold Pv.nearest
 split <;> lia
theorem jV (n d m : Nat) (hd : 0 < d) (h : m * d <= n) : m <= Pv.nearest n d := by
 have : m <= n / d := (Nat.le_div_iff_mul_le hd).mpr h
 unfold Pv.nearest
 split <;> lia
theorem WO (neg : Bool) (e kept : Nat) (h1 : kept <= 2 ^ 53) (h2 : e = 0 \/ 2 ^ 52 <= kept) :
  Pv.pack neg (2 ^ e * kept) = if 9218868437227405312 <= e * 2 ^ 52 + kept then none else some ((if neg = true then 2 ^ 63 else 0) + (e * 2 ^ 52 + kept)) := by
 have key : (Pv.LIMIT <= 2 ^ e * kept ↔ 9218868437227405312 <= e * 2 ^ 52 + kept) := by
  unfold Pv.LIMIT
  rcases h2 with rfl | h2
  ·constructor
   ·intro h
    have h54 : (2 : Nat) ^ 54 <= 2 ^ 2098 := Nat.pow_le_pow_right (by decide) (by decide)
    rw [Nat.pow_zero, Nat.one_mul] at h
    have := Nat.le_trans h54 h
    exact absurd this (by lia)
   ·intro h
    exact absurd h (by lia)
  ·constructor
   ·intro h
    have h3 : 2 ^ e * kept <= 2 ^ (e + 53) := by
     rw [Nat.pow_add]
     exact Nat.mul_le_mul_left _ h1
    have h4 : 2098 <= e + 53 := (Nat.pow_le_pow_iff_right (by decide)).mp (Nat.le_trans h h3)
    by_cases he : e = 2045
    ·subst he
     have h5 : 2 ^ 2045 * 2 ^ 53 <= 2 ^ 2045 * kept := by rw [<- Nat.pow_add]; exact h
     clear h
     have := Nat.le_of_mul_le_mul_left h5 (two_pow_pos 2045)
     clear h5 h3
     lia
    ·lia
   ·intro h
    by_cases he : 2046 <= e
    ·have h3 : 2 ^ (e + 52) <= 2 ^ e * kept := by
      rw [Nat.pow_add]
      exact Nat.mul_le_mul_left _ h2
     exact Nat.le_trans (Nat.pow_le_pow_right (by decide) (by lia)) h3
    ·have he' : e = 2045 := by lia
     subst he'
     have hk : kept = 2 ^ 53 := by lia
     rw [hk, <- Nat.pow_add]
     exact Nat.le_refl _
 unfold Pv.pack
 by_cases hl : Pv.LIMIT <= 2 ^ e * kept
 ·rw [if_pos hl, if_pos (key.mp hl)]
 ·rw [if_neg hl, if_neg (fun z => hl (key.mpr z))]
  congr 2
  rcases h2 with rfl | h2
  ·rw [Nat.pow_zero, Nat.one_mul, Nat.zero_mul, Nat.zero_add]
   by_cases hs : kept < 2 ^ 52
   ·rw [if_pos hs]
   ·rw [if_neg hs]
    by_cases h53 : kept = 2 ^ 53
    ·subst h53
     rw [Nat.log2_two_pow]
    ·rw [z9 (k := 52) (by lia) (by lia)]
     lia
  ·have hge : 2 ^ 52 <= 2 ^ e * kept := Nat.le_trans h2 (Nat.le_mul_of_pos_left _ (two_pow_pos e))
   rw [if_neg (by lia)]
   have hk0 : kept ≠ 0 := by lia
   have hlog : (2 ^ e * kept).log2 = kept.log2 + e := by rw [Nat.mul_comm]; exact uv _ _ hk0
   by_cases h53 : kept = 2 ^ 53
   ·subst h53
    rw [hlog, Nat.log2_two_pow]
    have : 2 ^ e * 2 ^ 53 / 2 ^ (53 + e - 52) = 2 ^ 52 := by
     rw [<- Nat.pow_add, Nat.pow_div (by lia) (by decide)]
     congr 1
     lia
    rw [this]
    lia
   ·have hk2 : kept.log2 = 52 := z9 (by lia) (by lia)
    rw [hlog, hk2]
    have : 2 ^ e * kept / 2 ^ (52 + e - 52) = kept := by
     rw [show 52 + e - 52 = e by lia, Nat.mul_div_cancel_left _ (two_pow_pos e)]
    rw [this]
    lia
noncomputable def rnd (neg : Bool) (whole : Nat) (q : Int) : Option Nat :=
 if whole = 0 then some (if neg = true then 2 ^ 63 else 0) else
 let drop : Int := max (((whole.log2 + 1 : Nat) : Int) - 53) (-q)
 let kept : Nat := if drop <= 0 then whole * 2 ^ (-drop).toNat else nw whole drop.toNat
 let size : Nat := (q + drop).toNat * 2 ^ 52 + kept
 if 9218868437227405312 <= size then none else some ((if neg = true then 2 ^ 63 else 0) + size)
theorem VE (neg : Bool) (whole n d a b : Nat) (hd : 0 < d) (h : n * 2 ^ b = whole * 2 ^ a * d) : rnd neg whole ((a : Int) - b) = Pv.pack neg (Pv.rounded n d) := by
 have hnd : n / d = whole * 2 ^ a / 2 ^ b := by
  have e1 : n / d = n * 2 ^ b / (d * 2 ^ b) := (Nat.mul_div_mul_right _ _ (two_pow_pos b)).symm
  rw [e1, h, Nat.mul_comm d, Nat.mul_div_mul_right _ _ hd]
 unfold rnd
 by_cases hw : whole = 0
 ·subst hw
  rw [if_pos rfl]
  have hn : n = 0 := by
   rw [Nat.zero_mul, Nat.zero_mul] at h
   rcases Nat.mul_eq_zero.mp h with h | h
   ·exact h
   ·exact absurd h (Nat.pos_iff_ne_zero.mp (two_pow_pos b))
  subst hn
  have : Pv.rounded 0 d = 0 := by
   unfold Pv.rounded Pv.nearest
   simp
  rw [this]
  unfold Pv.pack Pv.LIMIT
  rw [if_neg (fun z => absurd z (Nat.not_le.mpr (two_pow_pos 2098))), if_pos (two_pow_pos 52), Nat.add_zero]
 rw [if_neg hw]
 -- the exponent of a last place
 have hlog : (n / d).log2 = whole.log2 + a - b := by rw [hnd, VZ, uv _ _ hw]
 generalize hL : whole.log2 = L at hlog
 have lo : 2 ^ L <= whole := by rw [<- hL]; exact ua hw
 have hi : whole < 2 ^ (L + 1) := by rw [<- hL]; exact yg hw
 generalize he : L + a - b - 52 = e
 have hap : Pv.apart (n / d) = 2 ^ e := by
  unfold Pv.apart
  rw [hlog, he]
 have hdrop : max (((L + 1 : Nat) : Int) - 53) (-((a : Int) - b)) = (e : Int) - a + b := by lia
 dsimp only
 rw [hdrop]
 have hq : ((a : Int) - b + ((e : Int) - a + b)).toNat = e := by lia
 rw [hq]
 have hnear : Pv.nearest n (d * 2 ^ e) = Pv.nearest (whole * 2 ^ a) (2 ^ (e + b)) := by
  rw [<- vA n (d * 2 ^ e) (2 ^ b) (two_pow_pos b), h, show d * 2 ^ e * 2 ^ b = 2 ^ (e + b) * d by rw [Nat.pow_add, Nat.mul_comm d, Nat.mul_assoc, Nat.mul_assoc, Nat.mul_comm d]]
  exact vA _ _ _ hd
 have hkept : (if (e : Int) - a + b <= 0 then whole * 2 ^ (-((e : Int) - a + b)).toNat else nw whole ((e : Int) - a + b).toNat) = Pv.nearest n (d * 2 ^ e) := by
  rw [hnear]
  by_cases hc : (e : Int) - a + b <= 0
  ·rw [if_pos hc]
   have e3 : whole * 2 ^ a = whole * 2 ^ (-((e : Int) - a + b)).toNat * 2 ^ (e + b) := by
    rw [Nat.mul_assoc, <- Nat.pow_add]
    congr 2
    lia
   rw [e3, xf _ _ (two_pow_pos _)]
  ·rw [if_neg hc, jT]
   have e3 : 2 ^ (e + b) = 2 ^ ((e : Int) - a + b).toNat * 2 ^ a := by
    rw [<- Nat.pow_add]
    congr 1
    lia
   rw [e3, vA _ _ _ (two_pow_pos _)]
 rw [hkept]
 unfold Pv.rounded
 rw [hap]
 -- bounds
 have up : Pv.nearest n (d * 2 ^ e) <= 2 ^ 53 := by
  rw [hnear]
  refine jm _ _ _ (two_pow_pos _) ?_
  rw [<- Nat.pow_add]
  refine Nat.lt_of_lt_of_le (Nat.mul_lt_mul_of_pos_right hi (two_pow_pos a)) ?_
  rw [<- Nat.pow_add]
  exact Nat.pow_le_pow_right (by decide) (by lia)
 have dn : e = 0 \/ 2 ^ 52 <= Pv.nearest n (d * 2 ^ e) := by
  by_cases h0 : e = 0
  ·exact .inl h0
  ·right
   rw [hnear]
   refine jV _ _ _ (two_pow_pos _) ?_
   rw [<- Nat.pow_add]
   refine Nat.le_trans ?_ (Nat.mul_le_mul_right _ lo)
   rw [<- Nat.pow_add]
   exact Nat.pow_le_pow_right (by decide) (by lia)
 exact (WO neg e _ up dn).symm
end Dm
set_option exponentiation.threshold 4000
namespace Dm
noncomputable def sg (x : Nat) : Nat := x / 2 ^ 63
noncomputable def sz (x : Nat) : Nat := x % 2 ^ 63
noncomputable def wh (x : Nat) : Nat := if sz x = x % 2 ^ 52 then x % 2 ^ 52 else x % 2 ^ 52 + 2 ^ 52
noncomputable def ex (x : Nat) : Nat := max (sz x / 2 ^ 52) 1 - 1
noncomputable def sw (x : Nat) : Int := if sg x = 1 then -(wh x : Int) else wh x
theorem vV (x : Nat) : Pv.exponent x = sz x / 2 ^ 52 := by
 unfold Pv.exponent sz
 omega
theorem zp (x : Nat) (h : x < 2 ^ 64) : Pv.isNeg x = decide (sg x = 1) := by
 unfold Pv.isNeg sg
 rw [Nat.testBit_eq_decide_div_mod_eq]
 congr 1
 have : x / 2 ^ 63 < 2 := by lia
 rw [Nat.mod_eq_of_lt this]
theorem zV (x : Nat) : sz x = x % 2 ^ 52 ↔ Pv.exponent x = 0 := by
 rw [vV]
 unfold sz
 lia
theorem jv (x : Nat) : Pv.mag x = wh x * 2 ^ ex x := by
 unfold Pv.mag wh ex
 by_cases h : Pv.exponent x = 0
 ·rw [if_pos h, if_pos ((zV x).mpr h)]
  rw [vV] at h
  rw [h]
  simp
 ·rw [if_neg h, if_neg (fun z => h ((zV x).mp z)), Nat.add_comm]
  rw [vV] at h ⊢
  rw [Nat.max_eq_left (by lia)]
theorem val_eq (x : Nat) (h : x < 2 ^ 64) : Pv.val x = sw x * 2 ^ ex x := by
 unfold Pv.val sw
 rw [zp x h, jv]
 by_cases hs : sg x = 1
 ·rw [if_pos (decide_eq_true hs), if_pos hs]
  simp [Int.neg_mul]
 ·rw [if_neg (by simpa using hs), if_neg hs]
  simp
theorem W5 (x : Nat) : wh x < 2 ^ 53 := by unfold wh; split <;> lia
theorem jI (x : Nat) : Pv.isFinite x = decide (sz x < 9218868437227405312) := by
 unfold Pv.isFinite
 rw [vV]
 have : sz x < 2 ^ 63 := by unfold sz; lia
 by_cases h : sz x < 9218868437227405312
 ·rw [decide_eq_true h]
  have : sz x / 2 ^ 52 < 2047 := by lia
  simp only [bne_iff_ne, ne_eq]
  lia
 ·rw [decide_eq_false h]
  have : sz x / 2 ^ 52 = 2047 := by lia
  rw [this]
  rfl
noncomputable def jw (x y z : Nat) : Option Nat :=
 let pxy : Int := ex x + ex y - 2148
 let pz : Int := ex z - 1074
 let low : Int := min pxy pz
 let total : Int := sw x * sw y * 2 ^ (pxy - low).toNat + sw z * 2 ^ (pz - low).toNat
 if total = 0 then some (if (sg x ≠ sg y) /\ sg z = 1 then 2 ^ 63 else 0)
 else rnd (decide (total < 0)) total.natAbs (low + 1074)
noncomputable def yG (x y : Nat) : Option Nat := rnd (decide (sg x ≠ sg y)) (wh x * wh y) ((ex x : Int) + ex y - 1074)
theorem Vu {x y : Nat} (hx : x < 2 ^ 64) (hy : y < 2 ^ 64) : (Pv.isNeg x != Pv.isNeg y) = decide (sg x ≠ sg y) := by
 rw [zp x hx, zp y hy]
 have h1 : sg x = 0 \/ sg x = 1 := by unfold sg; lia
 have h2 : sg y = 0 \/ sg y = 1 := by unfold sg; lia
 rcases h1 with h1 | h1 <;> rcases h2 with h2 | h2 <;> rw [h1, h2] <;> rfl
theorem ZR {x y : Nat} (hx : x < 2 ^ 64) (hy : y < 2 ^ 64) : yG x y = Pv.mul x y := by
 unfold yG Pv.mul
 rw [Vu hx hy]
 have := VE (decide (sg x ≠ sg y)) (wh x * wh y) (Pv.mag x * Pv.mag y) Pv.UNIT (ex x + ex y) 1074 (two_pow_pos 1074) (by
  rw [jv, jv]
  unfold Pv.UNIT
  rw [Nat.pow_add, Nat.mul_mul_mul_comm])
 rw [<- this]
 congr 1
theorem Vw : (Pv.UNIT : Int) = 2 ^ 1074 := by
 unfold Pv.UNIT
 rw [Int.natCast_pow]
 rfl
theorem ux {x y z : Nat} (hx : x < 2 ^ 64) (hy : y < 2 ^ 64) (hz : z < 2 ^ 64) : jw x y z = Pv.fused x y z := by
 unfold jw Pv.fused Pv.ofSum
 dsimp only
 generalize hlow : min ((ex x : Int) + ex y - 2148) ((ex z : Int) - 1074) = low
 obtain ⟨a, ha⟩ : ∃ a : Nat, low + 2148 = a := ⟨(low + 2148).toNat, by lia⟩
 have e1 : ((ex x : Int) + ex y - 2148 - low).toNat + a = ex x + ex y := by lia
 have e2 : ((ex z : Int) - 1074 - low).toNat + a = ex z + 1074 := by lia
 generalize ((ex x : Int) + ex y - 2148 - low).toNat = u at e1
 generalize ((ex z : Int) - 1074 - low).toNat = v at e2
 have hs : Pv.val x * Pv.val y + Pv.val z * (Pv.UNIT : Int) = (sw x * sw y * 2 ^ u + sw z * 2 ^ v) * 2 ^ a := by
  rw [val_eq x hx, val_eq y hy, val_eq z hz, Int.add_mul]
  congr 1
  ·rw [Int.mul_assoc (sw x * sw y), <- Int.pow_add, e1, Int.pow_add]
   ac_rfl
  ·rw [Int.mul_assoc, Int.mul_assoc, <- Int.pow_add, e2]
   rw [Int.pow_add, Vw]
 rw [hs]
 generalize htot : sw x * sw y * 2 ^ u + sw z * 2 ^ v = total
 have hpa : (2 : Int) ^ a ≠ 0 := Int.ne_of_gt (Int.pow_pos (by decide))
 by_cases h0 : total = 0
 ·rw [if_pos h0, h0, Int.zero_mul, if_pos rfl]
  rw [zp z hz, Vu hx hy]
  congr 1
  by_cases c1 : sg x ≠ sg y <;> by_cases c2 : sg z = 1 <;> simp [c1, c2]
 ·rw [if_neg h0, if_neg (fun q => (Int.mul_eq_zero.mp q).elim h0 hpa)]
  have hneg : decide (total * 2 ^ a < 0) = decide (total < 0) := by
   congr 1
   refine propext ⟨fun q => ?_, fun q => ?_⟩
   ·refine Int.not_le.mp fun z => ?_
    exact absurd (Int.mul_nonneg z (Int.le_of_lt (Int.pow_pos (by decide) : (0 : Int) < 2 ^ a))) (Int.not_le.mpr q)
   ·exact Int.mul_neg_of_neg_of_pos q (Int.pow_pos (by decide))
  rw [hneg]
  have hq : low + 1074 = (a : Int) - (1074 : Nat) := by lia
  rw [hq]
  refine VE _ _ _ _ a 1074 (two_pow_pos 1074) ?_
  rw [Int.natAbs_mul, Int.natAbs_pow]
  rfl
theorem val_one : Pv.val Pv.ONE = (Pv.UNIT : Int) := by decide +kernel
theorem ZO {x y : Nat} (hx : x < 2 ^ 64) (hy : y < 2 ^ 64) : jw x 0x3FF0000000000000 y = Pv.add x y := by
 rw [ux hx (by decide) hy]
 unfold Pv.fused Pv.add Pv.ofSum
 have e1 : Pv.val 0x3FF0000000000000 = (Pv.UNIT : Int) := val_one
 have e2 : Pv.isNeg 0x3FF0000000000000 = false := by decide +kernel
 rw [e1, e2, <- Int.add_mul]
 have hU : (Pv.UNIT : Int) ≠ 0 := by
  have := two_pow_pos 1074
  unfold Pv.UNIT
  lia
 have hUp : (0 : Int) < (Pv.UNIT : Int) := by
  have := two_pow_pos 1074
  unfold Pv.UNIT
  lia
 have hb : (Pv.isNeg x != false) = Pv.isNeg x := by cases Pv.isNeg x <;> rfl
 rw [hb]
 generalize Pv.val x + Pv.val y = s
 by_cases h0 : s = 0
 ·rw [h0, Int.zero_mul, if_pos rfl, if_pos rfl]
 ·rw [if_neg h0, if_neg (fun q => (Int.mul_eq_zero.mp q).elim h0 hU)]
  have hneg : decide (s * (Pv.UNIT : Int) < 0) = decide (s < 0) := by
   congr 1
   refine propext ⟨fun q => ?_, fun q => ?_⟩
   ·refine Int.not_le.mp fun z => ?_
    exact absurd (Int.mul_nonneg z (Int.le_of_lt hUp)) (Int.not_le.mpr q)
   ·exact Int.mul_neg_of_neg_of_pos q hUp
  rw [hneg, Int.natAbs_mul]
  congr 1
  have hUn : 0 < (Pv.UNIT : Int).natAbs := by
   show 0 < Pv.UNIT
   exact two_pow_pos 1074
  have e3 : (Pv.UNIT : Int).natAbs = Pv.UNIT := rfl
  rw [e3] at hUn ⊢
  unfold Pv.rounded
  rw [Nat.mul_div_cancel _ hUn, Nat.div_one, Nat.one_mul]
  congr 1
  rw [Nat.mul_comm Pv.UNIT]
  exact vA _ _ _ hUn
end Dm
set_option maxHeartbeats 2000000
namespace Dt
open PySem L2 L2.Ir
open Classical in
noncomputable def fn1 (P : Int -> Prop) (h : Int -> Rs (D × Bool)) : Fn
 | [.int x] => if P x then h x else .no
 | _ => .no
open Classical in
noncomputable def fn2 (P : Int -> Int -> Prop) (h : Int -> Int -> Rs (D × Bool)) : Fn
 | [.int x, .int y] => if P x y then h x y else .no
 | _ => .no
open Classical in
noncomputable def fn3 (P : Int -> Int -> Int -> Prop) (h : Int -> Int -> Int -> Rs (D × Bool)) : Fn
 | [.int x, .int y, .int z] => if P x y z then h x y z else .no
 | _ => .no
theorem w8 {P : Int -> Prop} {h : Int -> Rs (D × Bool)} {x : Int} (p : P x) : fn1 P h [.int x] = h x := by unfold fn1; exact if_pos p
theorem xK {P : Int -> Int -> Prop} {h : Int -> Int -> Rs (D × Bool)} {x y : Int} (p : P x y) : fn2 P h [.int x, .int y] = h x y := by unfold fn2; exact if_pos p
theorem ui {P : Int -> Int -> Int -> Prop} {h : Int -> Int -> Int -> Rs (D × Bool)} {x y z : Int} (p : P x y z) : fn3 P h [.int x, .int y, .int z] = h x y z := by unfold fn3; exact if_pos p
theorem yD {P : Int -> Prop} {h : Int -> Rs (D × Bool)} {r : RS} {N : List Str} (q : ∀ x, P x -> res (r (sl0 N [.int x])) = h x) : ∀ ds : List D, ds.length = 1 -> fn1 P h ds = .no \/ res (r (sl0 N ds)) = fn1 P h ds := by
 intro ds hl
 match ds, hl with
 | [.int x], _ =>
  by_cases p : P x
  ·right; rw [w8 p]; exact q x p
  ·left; unfold fn1; exact if_neg p
 | [.non], _ => exact .inl rfl
 | [.bl _], _ => exact .inl rfl
 | [.lst _], _ => exact .inl rfl
 | [.tup _], _ => exact .inl rfl
 | [.fn _], _ => exact .inl rfl
 | [.obj _ _ _], _ => exact .inl rfl
theorem V3 {P : Int -> Int -> Prop} {h : Int -> Int -> Rs (D × Bool)} {r : RS} {N : List Str} (q : ∀ x y, P x y -> res (r (sl0 N [.int x, .int y])) = h x y) : ∀ ds : List D, ds.length = 2 -> fn2 P h ds = .no \/ res (r (sl0 N ds)) = fn2 P h ds := by
 intro ds hl
 match ds, hl with
 | [a, b], _ =>
  cases a with
  | int x =>
   cases b with
   | int y =>
    by_cases p : P x y
    ·right; rw [xK p]; exact q x y p
    ·left; unfold fn2; exact if_neg p
   | _ => exact .inl rfl
  | _ => exact .inl rfl
theorem ZI {P : Int -> Int -> Int -> Prop} {h : Int -> Int -> Int -> Rs (D × Bool)} {r : RS} {N : List Str} (q : ∀ x y z, P x y z -> res (r (sl0 N [.int x, .int y, .int z])) = h x y z) : ∀ ds : List D, ds.length = 3 -> fn3 P h ds = .no \/ res (r (sl0 N ds)) = fn3 P h ds := by
 intro ds hl
 match ds, hl with
 | [a, b, e], _ =>
  cases a with
  | int x =>
   cases b with
   | int y =>
    cases e with
    | int z =>
     by_cases p : P x y z
     ·right; rw [ui p]; exact q x y z p
     ·left; unfold fn3; exact if_neg p
    | _ => exact .inl rfl
   | _ => exact .inl rfl
  | _ => exact .inl rfl
noncomputable def U64 (x : Int) : Prop := 0 <= x /\ x < 18446744073709551616
noncomputable instance (x : Int) : Decidable (U64 x) := inferInstanceAs (Decidable (0 <= x /\ x < 18446744073709551616))
noncomputable def Fi (x : Int) : Prop := U64 x /\ x % 9223372036854775808 < 9218868437227405312
noncomputable instance (x : Int) : Decidable (Fi x) := inferInstanceAs (Decidable (U64 x /\ x % 9223372036854775808 < 9218868437227405312))
noncomputable def iv (i : Int) : Rs (D × Bool) := .ok (.int i, false)
noncomputable def bv (b : Bool) : Rs (D × Bool) := .ok (.bl b, false)
noncomputable def qC : Fn := fn1 U64 fun x => iv (x % 9223372036854775808)
noncomputable def qU : Fn := fn1 U64 fun x => bv (decide (x % 9223372036854775808 < 9218868437227405312))
noncomputable def xc : List D -> Option (List Nat)
 | [] => some []
 | .lst l :: r => (xc r).map (l.length :: ·)
 | _ => none
noncomputable def qv : Fn
 | [.lst ss, .lst ls, .lst cs] => match intsOf ss, xc ls, intsOf cs with
  | some ns, some ks, some ms => if (ns.all fun n => decide (1 <= n /\ n <= 16)) = true /\ ((ks.zip ms).all fun p => decide ((p.1 : Int) = p.2)) = true then .ok (.non, false) else .er "WrongCount"
  | _, _, _ => .no
 | _ => .no
noncomputable def qo : Fn
 | [.lst xs] => match intsOf xs with
  | some ns => if ∀ n ∈ ns, U64 n then (if ∀ n ∈ ns, Fi n then .ok (.non, false) else .er "NotFinite") else .no
  | none => .no
 | _ => .no
noncomputable def qx : Fn
 | [.lst xs] => if xs.all D.sc = true /\ xs.length < LIM then .ok (.lst (.int xs.length :: xs), true) else .no
 | _ => .no
noncomputable def vn (a : PvCalls.Answer) : Rs (D × Bool) := match a with
 | .refused z => if z = -1 then .er "WrongCount" else if z = -2 then .er "NotFinite" else if z = -3 then .er "StepNotFinite" else if z = -4 then .er "NotAsTold" else .no
 | a => .ok (.lst ((TableNeutral.told a).tail.map D.int), true)
noncomputable abbrev zz (ns : List Int) : Prop := ∀ n ∈ ns, U64 n
noncomputable def nats (ns : List Int) : List Nat := ns.map Int.toNat
noncomputable def wX : RS := (vx (qd (jg Builtin.bitAnd) (qb 0) (qd vH (rC (.int (9223372036854775808))) (rC (.int 1)))))
noncomputable def vY : RS := (vx (qd (zb fun i j => decide (i < j)) (qi qC (qc (qb 0) qu)) (rC (.int (9218868437227405312)))))
noncomputable def vj : RS := (vu (xC (.one 3) 0 (sIf (xh (tBl (qd (zb fun i j => decide (i < j)) (qb 3) (rC (.int 1)))) (tBl (qd (zb fun i j => decide (j < i)) (qb 3) (rC (.int (16)))))) (vF "WrongCount") vJ)) (Vv (.two 4 5) (Vg (qb 1) (qb 2)) (sIf (tBl (qd (oEq true) (zg jc (qc (qb 4) qu)) (qb 5))) (vF "WrongCount") vJ)))
noncomputable def vo : RS := (xC (.one 1) 0 (sIf (uN (tBl (qi qU (qc (qb 1) qu)))) (vF "NotFinite") vJ))
noncomputable def zw : RS := (vx (qd vR (wM (qc (zg jc (qc (qb 0) qu)) qu)) (qb 0)))
noncomputable abbrev Hr (r : RS) (N : List Str) (n : Nat) (g : Fn) : Prop := ∀ ds : List D, ds.length = n -> g ds = .no \/ res (r (sl0 N ds)) = g ds
theorem QG (x : Int) (h : U64 x) : res (wX (sl0 ["x"] [.int x])) = iv (x % 9223372036854775808) := by
 have e : Builtin.bitAnd x (2 ^ 63 - 1) = x % 2 ^ 63 := Bits.zS 63 h.1
 simp [wX, sl0, vx, freeze, frz, qd, qb, rC, jg, vH, res, iv, Rs.bind]
 exact e
theorem jE : Hr wX ["x"] 1 qC := yD QG
theorem zM {x : Int} (h : U64 x) : qC [.int x] = iv (x % 9223372036854775808) := w8 h
theorem uO (x : Int) (h : U64 x) : res (vY (sl0 ["x"] [.int x])) = bv (decide (x % 9223372036854775808 < 9218868437227405312)) := by
 simp [vY, sl0, vx, freeze, frz, qd, qb, rC, qi, qc, qu, zb, res, bv, iv, Rs.bind, zM h, kB]
theorem xI : Hr vY ["x"] 1 qU := yD uO
theorem zU {x : Int} (h : U64 x) : qU [.int x] = bv (decide (x % 9223372036854775808 < 9218868437227405312)) := w8 h
theorem v8 {tg : Tg} {body : RS} {c : Str} {good : DK -> Prop} {J : Dl -> Prop} : ∀ {xs : List DK}, (∀ x ∈ xs, ∀ δ, J δ -> ∃ δ1, tg.put x δ = some δ1 /\ (good x -> ∃ δ2, body δ1 = .nx δ2 /\ J δ2) /\ (¬ good x -> body δ1 = .er c)) ->
  ∀ δ, J δ -> ((∀ x ∈ xs, good x) -> ∃ δ', turns tg body xs δ = .nx δ' /\ J δ') /\ (¬ (∀ x ∈ xs, good x) -> turns tg body xs δ = .er c)
 | [], _, δ, j => ⟨fun _ => ⟨δ, rfl, j⟩, fun h => absurd (fun x hx => absurd hx (by simp)) h⟩
 | x :: r, st, δ, j => by
  obtain ⟨δ1, hp, h1, h2⟩ := st x (List.mem_cons_self) δ j
  have ih := v8 (xs := r) fun y hy => st y (List.mem_cons_of_mem _ hy)
  by_cases g : good x
  ·obtain ⟨δ2, hb, j2⟩ := h1 g
   obtain ⟨k1, k2⟩ := ih δ2 j2
   have e : turns tg body (x :: r) δ = turns tg body r δ2 := by
    show (match tg.put x δ with | none => _ | some δ1 => _) = _
    rw [hp]
    dsimp only
    rw [hb]
   rw [e]
   exact ⟨fun h => k1 fun y hy => h y (List.mem_cons_of_mem _ hy), fun h => k2 fun q => h fun y hy => by
    rcases List.mem_cons.mp hy with rfl | hy
    ·exact g
    ·exact q y hy⟩
  ·refine ⟨fun h => absurd (h x (List.mem_cons_self)) g, fun _ => ?_⟩
   show (match tg.put x δ with | none => _ | some δ1 => _) = _
   rw [hp]
   dsimp only
   rw [h2 g]
theorem Qo : ∀ {ls : List D} {ks : List Nat}, xc ls = some ks -> ∃ xss : List (List D), ls = xss.map D.lst /\ ks = xss.map List.length
 | [], ks, h => by cases h; exact ⟨[], rfl, rfl⟩
 | .lst l :: r, ks, h => by
  have h : (xc r).map (l.length :: ·) = some ks := h
  cases e : xc r with
  | none => rw [e] at h; cases h
  | some q =>
   rw [e] at h
   cases h
   obtain ⟨xss, e1, e2⟩ := Qo e
   exact ⟨l :: xss, by rw [e1]; rfl, by rw [e2]; rfl⟩
 | .non :: _, _, h => nomatch h
 | .bl _ :: _, _, h => nomatch h
 | .int _ :: _, _, h => nomatch h
 | .tup _ :: _, _, h => nomatch h
 | .fn _ :: _, _, h => nomatch h
 | .obj _ _ _ :: _, _, h => nomatch h
theorem uP : ∀ xss : List (List D), xc (xss.map D.lst) = some (xss.map List.length)
 | [] => rfl
 | x :: r => by show (xc (r.map D.lst)).map (x.length :: ·) = _; rw [uP r]; rfl
theorem jx {α β γ δ : Type} (f : α -> γ) (g : β -> δ) : ∀ (xs : List α) (ys : List β), (xs.map f).zip (ys.map g) = (xs.zip ys).map fun p => (f p.1, g p.2)
 | [], _ => rfl
 | _ :: _, [] => rfl
 | x :: xs, y :: ys => by
  rw [List.map_cons, List.map_cons, List.zip_cons_cons, List.zip_cons_cons, List.map_cons, jx f g xs ys]
theorem yr (ns ms : List Int) (xss : List (List D)) : res (vj (sl0 ["sizes", "lists", "counts", "size", "numbers", "count"] [.lst (ns.map .int), .lst (xss.map .lst), .lst (ms.map .int)])) =
  if (ns.all fun n => decide (1 <= n /\ n <= 16)) = true /\ (((xss.map List.length).zip ms).all fun p => decide ((p.1 : Int) = p.2)) = true then .ok (.non, false) else .er "WrongCount" := by
 have hs : sl0 ["sizes", "lists", "counts", "size", "numbers", "count"] [.lst (ns.map .int), .lst (xss.map .lst), .lst (ms.map .int)] = [.val (.lst (ns.map .int)) false, .val (.lst (xss.map .lst)) false, .val (.lst (ms.map .int)) false, .un, .un, .un] := rfl
 rw [hs]
 generalize hA : Sl.val (.lst (ns.map .int)) false = A
 generalize hB : Sl.val (.lst (xss.map .lst)) false = B
 generalize hC : Sl.val (.lst (ms.map .int)) false = C
 -- the sizes
 have L1 := v8 (tg := .one 3) (c := "WrongCount") (body := sIf (xh (tBl (qd (zb fun i j => decide (i < j)) (qb 3) (rC (.int 1)))) (tBl (qd (zb fun i j => decide (j < i)) (qb 3) (rC (.int (16)))))) (vF "WrongCount") vJ)
  (good := fun x => ∃ n, x.1 = .int n /\ 1 <= n /\ n <= 16) (J := fun δ => ∃ s : Sl, δ = [A, B, C, s, .un, .un]) (xs := (ns.map D.int).map fun d => (d, Kd.sh)) (by
   rintro x hx δ ⟨s, rfl⟩
   rw [List.map_map] at hx
   obtain ⟨n, _, rfl⟩ := List.mem_map.mp hx
   refine ⟨[A, B, C, .val (.int n) true, .un, .un], rfl, fun ⟨m, e, h1, h2⟩ => ⟨[A, B, C, .val (.int n) true, .un, .un], ?_, .val (.int n) true, rfl⟩, fun h => ?_⟩
   ·cases e
    have e1 : ¬ n < 1 := by lia
    have e2 : ¬ 16 < n := by lia
    simp [sIf, xh, tBl, qd, qb, rC, zb, Rs.bind, vJ, e1, e2]
   ·by_cases h1 : n < 1
    ·simp [sIf, xh, tBl, qd, qb, rC, zb, Rs.bind, vF, h1]
    ·have h2 : 16 < n := by
      refine Int.not_le.mp fun q => h ⟨n, rfl, by lia, q⟩
     simp [sIf, xh, tBl, qd, qb, rC, zb, Rs.bind, vF, h1, h2]) [A, B, C, .un, .un, .un] ⟨.un, rfl⟩
 have g1 : (∀ x ∈ (ns.map D.int).map fun d => (d, Kd.sh), ∃ n, x.1 = .int n /\ 1 <= n /\ n <= 16) ↔ (ns.all fun n => decide (1 <= n /\ n <= 16)) = true := by
  rw [List.all_eq_true]
  constructor
  ·intro h n hn
   obtain ⟨m, e, h1, h2⟩ := h (.int n, .sh) (by rw [List.map_map]; exact List.mem_map.mpr ⟨n, hn, rfl⟩)
   cases e
   exact decide_eq_true ⟨h1, h2⟩
  ·intro h x hx
   rw [List.map_map] at hx
   obtain ⟨n, hn, rfl⟩ := List.mem_map.mp hx
   have := of_decide_eq_true (h n hn)
   exact ⟨n, rfl, this.1, this.2⟩
 have f1 : ∀ rb, xC (.one 3) 0 rb [A, B, C, .un, .un, .un] = turns (.one 3) rb ((ns.map D.int).map fun d => (d, Kd.sh)) [A, B, C, .un, .un, .un] := fun rb => by rw [<- hA]; rfl
 unfold vj vu
 rw [f1]
 by_cases c1 : (ns.all fun n => decide (1 <= n /\ n <= 16)) = true
 ·obtain ⟨δ', e1, s, rfl⟩ := L1.1 (g1.mpr c1)
  rw [e1]
  dsimp only [Out.andThen]
  have f2 : ∀ rb, Vv (.two 4 5) (Vg (qb 1) (qb 2)) rb [A, B, C, s, .un, .un] = turns (.two 4 5) rb (((xss.map D.lst).zip (ms.map D.int)).map fun p => (.tup [p.1, p.2], Kd.sh)) [A, B, C, s, .un, .un] := fun rb => by rw [<- hB, <- hC]; rfl
  rw [f2, jx, List.map_map]
  have L2 := v8 (tg := .two 4 5) (c := "WrongCount") (body := sIf (tBl (qd (oEq true) (zg jc (qc (qb 4) qu)) (qb 5))) (vF "WrongCount") vJ)
   (good := fun x => ∃ l m, x.1 = .tup [.lst l, .int m] /\ (l.length : Int) = m) (J := fun δ => ∃ s1 s2 : Sl, δ = [A, B, C, s, s1, s2]) (xs := (xss.zip ms).map ((fun p : D × D => (D.tup [p.1, p.2], Kd.sh)) ∘ fun p : List D × Int => (D.lst p.1, D.int p.2))) (by
    rintro x hx δ ⟨s1, s2, rfl⟩
    obtain ⟨⟨l, m⟩, hp, rfl⟩ := List.mem_map.mp hx
    refine ⟨[A, B, C, s, .val (.lst l) false, .val (.int m) true], rfl, fun ⟨l', m', e, h1⟩ => ⟨[A, B, C, s, .val (.lst l) false, .val (.int m) true], ?_, _, _, rfl⟩, fun h => ?_⟩
    ·cases e
     simp [sIf, tBl, qd, zg, qc, qu, jc, qb, oEq, Rs.bind, vJ, h1]
    ·have h1 : ¬ (l.length : Int) = m := fun q => h ⟨l, m, rfl, q⟩
     simp [sIf, tBl, qd, zg, qc, qu, jc, qb, oEq, Rs.bind, vF, h1]) [A, B, C, s, .un, .un] ⟨.un, .un, rfl⟩
  have g2 : (∀ x ∈ (xss.zip ms).map ((fun p : D × D => (D.tup [p.1, p.2], Kd.sh)) ∘ fun p : List D × Int => (D.lst p.1, D.int p.2)), ∃ l m, x.1 = .tup [.lst l, .int m] /\ (l.length : Int) = m) ↔ (((xss.map List.length).zip ms).all fun p => decide ((p.1 : Int) = p.2)) = true := by
   have e : (xss.map List.length).zip ms = (xss.zip ms).map fun p => (p.1.length, p.2) := by
    have := jx List.length (id : Int -> Int) xss ms
    rw [List.map_id] at this
    exact this
   rw [e, List.all_map, List.all_eq_true]
   constructor
   ·intro h p hp
    obtain ⟨l, m, e, h1⟩ := h _ (List.mem_map.mpr ⟨p, hp, rfl⟩)
    cases e
    exact decide_eq_true h1
   ·intro h x hx
    obtain ⟨p, hp, rfl⟩ := List.mem_map.mp hx
    exact ⟨p.1, p.2, rfl, of_decide_eq_true (h p hp)⟩
  by_cases c2 : (((xss.map List.length).zip ms).all fun p => decide ((p.1 : Int) = p.2)) = true
  ·obtain ⟨δ', e2, _⟩ := L2.1 (g2.mpr c2)
   rw [e2, if_pos ⟨c1, c2⟩]
   rfl
  ·rw [L2.2 (fun h => c2 (g2.mp h)), if_neg (fun h => c2 h.2)]
   rfl
 ·have e1 := L1.2 (fun h => c1 (g1.mp h))
  rw [e1, if_neg (fun h => c1 h.1)]
  rfl
theorem z7 : Hr vj ["sizes", "lists", "counts", "size", "numbers", "count"] 3 qv := by
 intro ds hl
 match ds, hl with
 | [a, b, c], _ =>
  cases a with
  | lst ss =>
   cases b with
   | lst ls =>
    cases c with
    | lst cs =>
     show (match intsOf ss, xc ls, intsOf cs with | some ns, some ks, some ms => _ | _, _, _ => Rs.no) = .no \/ _ = (match intsOf ss, xc ls, intsOf cs with | some ns, some ks, some ms => _ | _, _, _ => Rs.no)
     cases e1 : intsOf ss with
     | none => exact .inl rfl
     | some ns =>
      cases e2 : xc ls with
      | none => exact .inl rfl
      | some ks =>
       cases e3 : intsOf cs with
       | none => exact .inl rfl
       | some ms =>
        right
        obtain ⟨xss, rfl, rfl⟩ := Qo e2
        have h1 := qW e1
        have h3 := qW e3
        subst h1 h3
        exact yr ns ms xss
    | _ => exact .inl rfl
   | _ => exact .inl rfl
  | _ => exact .inl rfl
theorem yo (ns : List Int) (h : zz ns) : res (vo (sl0 ["numbers", "x"] [.lst (ns.map .int)])) = if ∀ n ∈ ns, Fi n then Rs.ok (D.non, false) else Rs.er "NotFinite" := by
 have hs : sl0 ["numbers", "x"] [.lst (ns.map .int)] = [.val (.lst (ns.map .int)) false, .un] := rfl
 rw [hs]
 generalize hA : Sl.val (.lst (ns.map .int)) false = A
 have L1 := v8 (tg := .one 1) (c := "NotFinite") (body := sIf (uN (tBl (qi qU (qc (qb 1) qu)))) (vF "NotFinite") vJ)
  (good := fun x => ∃ n, x.1 = .int n /\ Fi n) (J := fun δ => ∃ s : Sl, δ = [A, s]) (xs := (ns.map D.int).map fun d => (d, Kd.sh)) (by
   rintro x hx δ ⟨s, rfl⟩
   rw [List.map_map] at hx
   obtain ⟨n, hn, rfl⟩ := List.mem_map.mp hx
   have hu := h n hn
   refine ⟨[A, .val (.int n) true], rfl, fun ⟨m, e, h1⟩ => ⟨[A, .val (.int n) true], ?_, _, rfl⟩, fun q => ?_⟩
   ·cases e
    simp [sIf, uN, tBl, qi, qc, qu, qb, Rs.bind, vJ, zU hu, bv, h1.2]
   ·have h1 : ¬ n % 9223372036854775808 < 9218868437227405312 := fun z => q ⟨n, rfl, hu, z⟩
    simp [sIf, uN, tBl, qi, qc, qu, qb, Rs.bind, vF, zU hu, bv, h1]) [A, .un] ⟨.un, rfl⟩
 have g1 : (∀ x ∈ (ns.map D.int).map fun d => (d, Kd.sh), ∃ n, x.1 = .int n /\ Fi n) ↔ ∀ n ∈ ns, Fi n := by
  constructor
  ·intro q n hn
   obtain ⟨m, e, h1⟩ := q (.int n, .sh) (by rw [List.map_map]; exact List.mem_map.mpr ⟨n, hn, rfl⟩)
   cases e
   exact h1
  ·intro q x hx
   rw [List.map_map] at hx
   obtain ⟨n, hn, rfl⟩ := List.mem_map.mp hx
   exact ⟨n, rfl, q n hn⟩
 have f1 : ∀ rb, xC (.one 1) 0 rb [A, .un] = turns (.one 1) rb ((ns.map D.int).map fun d => (d, Kd.sh)) [A, .un] := fun rb => by rw [<- hA]; rfl
 unfold vo
 rw [f1]
 by_cases c : ∀ n ∈ ns, Fi n
 ·obtain ⟨δ', e, _⟩ := L1.1 (g1.mpr c)
  rw [e, if_pos c]
  rfl
 ·rw [L1.2 (fun q => c (g1.mp q)), if_neg c]
  rfl
theorem zY : Hr vo ["numbers", "x"] 1 qo := by
 intro ds hl
 match ds, hl with
 | [.lst xs], _ =>
  unfold qo
  dsimp only
  cases e : intsOf xs with
  | none => exact .inl rfl
  | some ns =>
   dsimp only
   by_cases c : ∀ n ∈ ns, U64 n
   ·right
    rw [if_pos c]
    have q := qW e
    subst q
    rw [yo ns c]
   ·left; exact if_neg c
 | [.non], _ => exact .inl rfl
 | [.bl _], _ => exact .inl rfl
 | [.int _], _ => exact .inl rfl
 | [.tup _], _ => exact .inl rfl
 | [.fn _], _ => exact .inl rfl
 | [.obj _ _ _], _ => exact .inl rfl
theorem yu {ns : List Int} (h : zz ns) : qo [.lst (ns.map .int)] = if ∀ n ∈ ns, Fi n then Rs.ok (D.non, false) else Rs.er "NotFinite" := by
 unfold qo
 dsimp only
 rw [ints_map]
 exact if_pos h
theorem yn (ns ms : List Int) (xss : List (List D)) : qv [.lst (ns.map .int), .lst (xss.map .lst), .lst (ms.map .int)] =
  if (ns.all fun n => decide (1 <= n /\ n <= 16)) = true /\ (((xss.map List.length).zip ms).all fun p => decide ((p.1 : Int) = p.2)) = true then .ok (.non, false) else .er "WrongCount" := by
 unfold qv
 dsimp only
 rw [ints_map, uP, ints_map]
theorem Qu {r : RE} {δ : Dl} {ds : List D} (h : r (freeze δ) = .ok (.lst ds, .fr)) : vx r δ = .rt (.lst ds) true := by unfold vx; rw [h]
theorem v5 {r : RE} {δ : Dl} {d : D} (h : r (freeze δ) = .ok (d, .nw)) : vx r δ = .rt d false := by
 unfold vx
 rw [h]
 cases d <;> rfl
theorem Qs {r : RE} {δ : Dl} {c : Str} (h : r (freeze δ) = .er c) : vx r δ = .er c := by unfold vx; rw [h]
theorem wx {r : RE} {δ : Dl} {i : Nat} {d : D} {k : Kd} (h : r δ = .ok (d, k)) (c : d.sc = true) : we i r δ = .nx (δ.set i (.val d true)) := by
 unfold we
 rw [h]
 cases k <;> cases d <;> first | rfl | cases c
theorem u5 {r : RE} {δ : Dl} {x : DK} (h : r δ = .ok x) : zc r δ = .nx δ := by unfold zc; rw [h]
theorem uG {r : RE} {δ : Dl} {c : Str} (h : r δ = .er c) : zc r δ = .er c := by unfold zc; rw [h]
theorem qS {a b : RS} {δ δ1 : Dl} (h : a δ = .nx δ1) : vu a b δ = b δ1 := by unfold vu; rw [h]; rfl
theorem xR {a b : RS} {δ : Dl} {c : Str} (h : a δ = .er c) : vu a b δ = .er c := by unfold vu; rw [h]; rfl
theorem ye {a b : RS} {δ : Dl} {d : D} {k : Bool} (h : a δ = .rt d k) : vu a b δ = .rt d k := by unfold vu; rw [h]; rfl
theorem uD {t : RT} {a b : RS} {δ : Dl} (h : t δ = .ok true) : sIf t a b δ = a δ := by unfold sIf; rw [h]; rfl
theorem Y1 {t : RT} {a b : RS} {δ : Dl} (h : t δ = .ok false) : sIf t a b δ = b δ := by unfold sIf; rw [h]; rfl
theorem xa : Hr zw ["numbers"] 1 qx := by
 intro ds hl
 match ds, hl with
 | [.lst xs], _ =>
  unfold qx
  dsimp only
  by_cases c : xs.all D.sc = true /\ xs.length < LIM
  ·right
   rw [if_pos c]
   have hl2 : 1 + xs.length <= LIM := by have := c.2; lia
   have hl3 : (D.int xs.length :: xs).all D.sc = true := by rw [List.all_cons, c.1]; rfl
   have hx : vx (qd vR (wM (qc (zg jc (qc (qb 0) qu)) qu)) (qb 0)) [.val (.lst xs) false] = .rt (.lst (.int xs.length :: xs)) true := by
    refine Qu ?_
    show (if 1 + xs.length <= LIM then Rs.ok (D.lst ([D.int xs.length] ++ xs), kL ([D.int xs.length] ++ xs) (Kd.low .fr .sh)) else .no) = _
    rw [if_pos hl2]
    show Rs.ok (D.lst (D.int xs.length :: xs), kL (D.int xs.length :: xs) (Kd.low .fr .sh)) = _
    unfold kL
    rw [if_pos hl3]
   show res (vx _ _) = _
   rw [show sl0 ["numbers"] [.lst xs] = [.val (.lst xs) false] from rfl, hx]
   rfl
  ·left; exact if_neg c
 | [.non], _ => exact .inl rfl
 | [.bl _], _ => exact .inl rfl
 | [.int _], _ => exact .inl rfl
 | [.tup _], _ => exact .inl rfl
 | [.fn _], _ => exact .inl rfl
 | [.obj _ _ _], _ => exact .inl rfl
theorem xM {xs : List D} (h : xs.all D.sc = true) (hl : xs.length < LIM) : qx [.lst xs] = .ok (.lst (.int xs.length :: xs), true) := by
 unfold qx
 exact if_pos ⟨h, hl⟩
theorem qj {ra : RE} {rr : RA} {δ : Dl} {x : DK} {xs : List DK} (h : ra δ = .ok x) (h2 : rr δ = .ok xs) : qc ra rr δ = .ok (x :: xs) := by unfold qc; rw [h, h2]; rfl
theorem qR {δ : Dl} : qu δ = .ok [] := rfl
theorem yk {r : RA} {δ : Dl} {xs : List DK} (h : r δ = .ok xs) (hl : xs.length <= LIM) : wM r δ = .ok (.lst (xs.map (·.1)), kL (xs.map (·.1)) (qw xs)) := by
 unfold wM
 rw [h]
 exact if_pos hl
theorem qf {f : DK -> DK -> Rs DK} {ra rb : RE} {δ : Dl} {x y : DK} (h : ra δ = .ok x) (h2 : rb δ = .ok y) : qd f ra rb δ = f x y := by unfold qd; rw [h, h2]; rfl
theorem VA {f : DK -> Rs DK} {ra : RE} {δ : Dl} {x : DK} (h : ra δ = .ok x) : rUn f ra δ = f x := by unfold rUn; rw [h]; rfl
theorem vE {g : Fn} {r : RA} {δ : Dl} {xs : List DK} (h : r δ = .ok xs) : qi g r δ = (g (xs.map (·.1))).bind fun y => .ok (y.1, kB y.2) := by unfold qi; rw [h]; rfl
theorem W2 {xs : List D} {k : Kd} (h : xs.all D.sc = true) : kL xs k = .fr := by unfold kL; exact if_pos h
theorem yj (ns : List Int) : (ns.map D.int).all D.sc = true := by
 rw [List.all_map, List.all_eq_true]
 intro x _
 rfl
theorem y8 {x : Int} (k : Nat) (hk : k <= 60000) (h : x.natAbs < 2 ^ k) : few x := Nat.lt_of_lt_of_le h (Nat.pow_le_pow_right (by decide) hk)
theorem jY {x : Int} (h : U64 x) : few x := y8 64 (by decide) (by obtain ⟨a, b⟩ := h; lia)
theorem uQ {i j : Int} {k l : Kd} (hi : few i) (hj : few j) : uq (.int i, k) (.int j, l) = .ok (.int (i * j), .nw) := by
 unfold uq
 exact if_pos ⟨hi, hj⟩
theorem uy {m : Int} (h : U64 m) : (1 <= m /\ m <= 16) ↔ PvCalls.size m.toNat = true := by
 unfold PvCalls.size PvCalls.SIZE
 obtain ⟨a, b⟩ := h
 rw [Bool.and_eq_true, decide_eq_true_eq, decide_eq_true_eq]
 lia
theorem ue {x : Int} (h : U64 x) : Fi x ↔ Pv.isFinite x.toNat = true := by
 rw [Dm.jI, decide_eq_true_eq]
 unfold Fi Dm.sz
 obtain ⟨a, b⟩ := h
 constructor
 ·rintro ⟨_, q⟩; lia
 ·intro q; exact ⟨⟨a, b⟩, by lia⟩
theorem Vy {ns : List Int} (h : zz ns) : (∀ n ∈ ns, Fi n) ↔ (nats ns).all Pv.isFinite = true := by
 rw [List.all_eq_true]
 unfold nats
 constructor
 ·intro q x hx
  obtain ⟨n, hn, rfl⟩ := List.mem_map.mp hx
  exact (ue (h n hn)).mp (q n hn)
 ·intro q n hn
  exact (ue (h n hn)).mpr (q _ (List.mem_map.mpr ⟨n, hn, rfl⟩))
theorem zm (ns : List Int) : (nats ns).length = ns.length := List.length_map _
theorem Yu {ns : List Int} (h : zz ns) (k : Nat) : (((nats ns).getD k 0 : Nat) : Int) = ns.getD k 0 := by
 unfold nats
 rw [List.getD_eq_getElem?_getD, List.getElem?_map, List.getD_eq_getElem?_getD]
 cases e : ns[k]? with
 | none => rfl
 | some x =>
  have := (h x (List.mem_of_getElem? e)).1
  show ((x.toNat : Nat) : Int) = x
  lia
theorem QM {ns : List Int} (h : zz ns) : (nats ns).map (fun (n : Nat) => (n : Int)) = ns := by
 unfold nats
 rw [List.map_map]
 conv => rhs; rw [<- List.map_id ns]
 refine List.map_congr_left fun n hn => ?_
 have := (h n hn).1
 show ((n.toNat : Nat) : Int) = n
 lia
theorem jM {α : Type} (rows : List (Nat × List Nat)) (x : Pv.Did α) (f : α -> PvCalls.Answer) : vn (PvCalls.given rows x f) =
  if PvCalls.fits rows = true then (if (rows.all fun r => r.2.all Pv.isFinite) = true then vn (match x with | .error e => .refused e | .ok y => f y) else .er "NotFinite") else .er "WrongCount" := by
 unfold PvCalls.given PvCalls.no
 cases h1 : PvCalls.fits rows with
 | false => rfl
 | true =>
  cases h2 : (rows.all fun r => r.2.all Pv.isFinite) with
  | false => rfl
  | true =>
   simp only [Bool.true_eq_false, if_false, if_true]
   cases x <;> rfl
theorem uW (c : PvCalls.Call) : vn (PvCalls.answer c) = if PvCalls.goes c = true then vn (PvCalls.reckon c) else .er "WrongCount" := by
 unfold PvCalls.answer PvCalls.no
 cases h : PvCalls.goes c with
 | false => rfl
 | true => rfl
theorem V0 (l : List Nat) : vn (.row l) = .ok (.lst (.int l.length :: l.map fun (n : Nat) => D.int n), true) := by
 show Rs.ok (D.lst (((TableNeutral.rowN (TableNeutral.ints l))).map D.int), true) = _
 unfold TableNeutral.rowN TableNeutral.ints
 rw [List.map_cons, List.map_map, List.length_map]
 rfl
theorem YO {m n i j : Nat} {f : Nat -> Nat -> Pv.F64} (hi : i < m) (hj : j < n) : (Pv.tableBy m n f).at_ i j = f i j := by
 unfold Pv.tableBy Pv.Table.at_
 have e : ((List.range m).map fun i => (List.range n).map fun j => f i j).getD i [] = (List.range n).map fun j => f i j := by
  rw [List.getD_eq_getElem?_getD, List.getElem?_map, List.getElem?_range hi]
  rfl
 rw [e, List.getD_eq_getElem?_getD, List.getElem?_map, List.getElem?_range hj]
 rfl
noncomputable abbrev LL : List (Str × Int) := [("WrongCount", 1), ("NotFinite", 2), ("StepNotFinite", 3), ("NotAsTold", 4)]
noncomputable def Few : PvCalls.Answer -> Prop
 | .refused z => z = -1 \/ z = -2 \/ z = -3 \/ z = -4
 | .row l => l.length <= 1000
 | .number _ => True
 | .rows l k => l.length <= 1000 /\ k.length <= 1000
 | .lu x p _ => x.length <= 1000 /\ p.length <= 1000
 | .told _ l => l.length <= 100000
theorem Vx {a : PvCalls.Answer} (h : Few a) : u7 LL (vn a) = some ((TableNeutral.told a).map D.int) := by
 cases a with
 | refused z => rcases h with rfl | rfl | rfl | rfl <;> rfl
 | number x => rfl
 | row l => rfl
 | rows l k => rfl
 | lu x p t => rfl
 | told e l => rfl
theorem Vt {a : PvCalls.Answer} (h : Few a) : ((TableNeutral.told a).map D.int).length <= LIM := by
 rw [List.length_map]
 show _ <= 16777216
 cases a with
 | refused z => exact Nat.le_of_ble_eq_true rfl
 | number x => exact Nat.le_of_ble_eq_true rfl
 | row l => simp only [TableNeutral.told, TableNeutral.rowN, TableNeutral.ints, List.length_cons, List.length_map]; have : l.length <= 1000 := h; lia
 | rows l k => simp only [TableNeutral.told, TableNeutral.rowN, TableNeutral.ints, List.length_cons, List.length_map, List.length_append]; have : l.length <= 1000 /\ k.length <= 1000 := h; lia
 | lu x p t => simp only [TableNeutral.told, TableNeutral.rowN, TableNeutral.ints, List.length_cons, List.length_map, List.length_append, List.length_nil]; have : x.length <= 1000 /\ p.length <= 1000 := h; lia
 | told e l => simp only [TableNeutral.told, TableNeutral.rowN, TableNeutral.ints, List.length_cons, List.length_map]; have : l.length <= 100000 := h; lia
theorem zB {z : Int} (h : U64 z) : TableNeutral.nat z = some z.toNat := by
 unfold TableNeutral.nat
 exact if_neg (by have := h.1; lia)
theorem uF : ∀ {ns : List Int}, zz ns -> ns.mapM TableNeutral.nat = some (nats ns)
 | [], _ => rfl
 | n :: r, h => by
  rw [List.mapM_cons, zB (h n (List.mem_cons_self)), uF fun x hx => h x (List.mem_cons_of_mem _ hx)]
  rfl
theorem Yf {c : PvCalls.Call} (h : PvCalls.goes c = true -> Few (PvCalls.reckon c)) : Few (PvCalls.answer c) := by
 unfold PvCalls.answer PvCalls.no
 cases e : PvCalls.goes c with
 | false => exact .inl rfl
 | true => exact h e
theorem QZ {α : Type} {rows : List (Nat × List Nat)} {x : Pv.Did α} {f : α -> PvCalls.Answer} (h : match x with | .error e => Few (.refused e) | .ok y => Few (f y)) : Few (PvCalls.given rows x f) := by
 unfold PvCalls.given PvCalls.no
 split
 ·exact .inl rfl
 ·split
  ·exact .inr (.inl rfl)
  ·cases x with
   | error e => exact h
   | ok y => exact h
theorem QF {m n : Nat} (hm : PvCalls.size m = true) (hn : PvCalls.size n = true) : m * n <= 1000 := by
 unfold PvCalls.size PvCalls.SIZE at hm hn
 rw [Bool.and_eq_true, decide_eq_true_eq, decide_eq_true_eq] at hm hn
 have : m * n <= 16 * 16 := Nat.mul_le_mul hm.2 hn.2
 lia
open PySem.W (Codec)
theorem xQ {z : Int} (h : Codec.inInt 0 18446744073709551615 z = true) : U64 z := by
 have := Codec.inInt_iff.mp h
 exact ⟨this.1, by lia⟩
theorem Wc {ns : List Int} (h : ns.all (Codec.inInt 0 18446744073709551615) = true) : zz ns := fun n hn => xQ (List.all_eq_true.mp h n hn)
theorem y1 (ns : List Int) : (ns.map D.int).map Ir.toV = ns.map V.int := by
 rw [List.map_map]
 rfl
theorem vX {K : PySem.W.Frag} {C N : Addr} {nm q bs hdct sn sub ab col dd k0 k1 k2 k3 k5} (l : K.lookup C = some (excClassObj nm q C N bs vk hdct sn sub ab col dd k0 k1 k2 k3 k5 wc)) (h1 : PySem.W.nsOkIn K N = true) (h2 : PySem.W.nsIn K N "__init__" = some none) : qF K C = true := by
 unfold qF
 rw [l]
 show ((decide (Value.ref C :: vk = Value.ref C :: vk) && decide (wc = wc) && (false == false)) && (PySem.W.nsOkIn K N && decide (PySem.W.nsIn K N "__init__" = some none))) = true
 rw [h1, decide_eq_true h2, decide_eq_true rfl, decide_eq_true rfl]
 rfl
theorem ym {K : PySem.W.Frag} {N : Addr} {oc od es n sl} (l : K.lookup N = some ⟨oc, od, .dict es n, sl⟩) (h : (es.toList.all fun e => match e.key with | .str _ _ => true | _ => false) = true) : PySem.W.nsOkIn K N = true := by
 unfold PySem.W.nsOkIn
 rw [l]
 show (es.all fun e => match e.key with | .str _ _ => true | _ => false) = true
 rw [<- Array.all_toList]
 exact h
theorem Xd {mg : Str -> Option Value} {K : PySem.W.Frag} {C1 C2 C3 C4 : Addr} (m1 : mg "WrongCount" = some (.ref C1)) (m2 : mg "NotFinite" = some (.ref C2)) (m3 : mg "StepNotFinite" = some (.ref C3)) (m4 : mg "NotAsTold" = some (.ref C4))
  (x1 : qF K C1 = true) (x2 : qF K C2 = true) (x3 : qF K C3 = true) (x4 : qF K C4 = true) (e2 : (C2 == C1) = false) (e3 : (C3 == C1) = false) (e4 : (C3 == C2) = false) (e5 : (C4 == C1) = false) (e6 : (C4 == C2) = false) (e7 : (C4 == C3) = false)
  {c : Str} {C : Addr} {k : Int} (hC : mg c = some (.ref C)) (hl : LL.lookup c = some k) : qF K C = true /\ List.lookup C [(C1, (1 : Int)), (C2, 2), (C3, 3), (C4, 4)] = some k := by
 have key : ∀ {x : Str} {D : Addr}, c = x -> mg x = some (.ref D) -> C = D := fun {x D} e m => by
  subst e
  rw [hC] at m
  cases m
  rfl
 unfold LL at hl
 rw [List.lookup_cons] at hl
 by_cases h1 : c = "WrongCount"
 ·have z := key h1 m1
  subst h1 z
  cases hl
  exact ⟨x1, by rw [List.lookup_cons, beq_self_eq_true]⟩
 rw [beq_eq_false_iff_ne.mpr h1, List.lookup_cons] at hl
 by_cases h2 : c = "NotFinite"
 ·have z := key h2 m2
  subst h2 z
  cases hl
  exact ⟨x2, by rw [List.lookup_cons, e2, List.lookup_cons, beq_self_eq_true]⟩
 rw [beq_eq_false_iff_ne.mpr h2, List.lookup_cons] at hl
 by_cases h3 : c = "StepNotFinite"
 ·have z := key h3 m3
  subst h3 z
  cases hl
  exact ⟨x3, by rw [List.lookup_cons, e3, List.lookup_cons, e4, List.lookup_cons, beq_self_eq_true]⟩
 rw [beq_eq_false_iff_ne.mpr h3, List.lookup_cons] at hl
 by_cases h4 : c = "NotAsTold"
 ·have z := key h4 m4
  subst h4 z
  cases hl
  exact ⟨x4, by rw [List.lookup_cons, e5, List.lookup_cons, e6, List.lookup_cons, e7, List.lookup_cons, beq_self_eq_true]⟩
 rw [beq_eq_false_iff_ne.mpr h4] at hl
 cases hl
theorem Zo {A B C : RA} {e : RE} {rest : RS} {δ : Dl} {va vb vc : List DK} {ss cs ns : List Int} {xss : List (List D)} {k : Kd}
  (hA : A δ = .ok va) (la : va.length <= LIM) (ea : va.map (·.1) = ss.map D.int) (hB : B δ = .ok vb) (lb : vb.length <= LIM) (eb : vb.map (·.1) = xss.map D.lst) (hC : C δ = .ok vc) (lc : vc.length <= LIM) (ec : vc.map (·.1) = cs.map D.int)
  (hE : e δ = .ok (.lst (ns.map .int), k)) (hn : zz ns) :
  res (vu (zc (qi qv (qc (wM A) (qc (wM B) (qc (wM C) qu))))) (vu (zc (qi qo (qc e qu))) rest) δ) =
   if (ss.all fun n => decide (1 <= n /\ n <= 16)) = true /\ (((xss.map List.length).zip cs).all fun p => decide ((p.1 : Int) = p.2)) = true then (if ∀ n ∈ ns, Fi n then res (rest δ) else .er "NotFinite") else .er "WrongCount" := by
 have h1 : qi qv (qc (wM A) (qc (wM B) (qc (wM C) qu))) δ = if (ss.all fun n => decide (1 <= n /\ n <= 16)) = true /\ (((xss.map List.length).zip cs).all fun p => decide ((p.1 : Int) = p.2)) = true then .ok (.non, .nw) else .er "WrongCount" := by
  rw [vE (qj (yk hA la) (qj (yk hB lb) (qj (yk hC lc) qR)))]
  show (qv [.lst (va.map (·.1)), .lst (vb.map (·.1)), .lst (vc.map (·.1))]).bind _ = _
  rw [ea, eb, ec, yn]
  split <;> rfl
 by_cases c : (ss.all fun n => decide (1 <= n /\ n <= 16)) = true /\ (((xss.map List.length).zip cs).all fun p => decide ((p.1 : Int) = p.2)) = true
 ·rw [if_pos c] at h1 ⊢
  rw [qS (u5 h1)]
  have h2 : qi qo (qc e qu) δ = if ∀ n ∈ ns, Fi n then .ok (.non, .nw) else .er "NotFinite" := by
   rw [vE (qj hE qR)]
   show (qo [.lst (ns.map .int)]).bind _ = _
   rw [yu hn]
   split <;> rfl
  by_cases c2 : ∀ n ∈ ns, Fi n
  ·rw [if_pos c2] at h2 ⊢
   rw [qS (u5 h2)]
  ·rw [if_neg c2] at h2 ⊢
   rw [xR (uG h2)]
   rfl
 ·rw [if_neg c] at h1 ⊢
  rw [xR (uG h1)]
  rfl
noncomputable def YN {α : Type} (x : Pv.Did α) (f : α -> PvCalls.Answer) : PvCalls.Answer := match x with
 | .error e => .refused e
 | .ok y => f y
theorem checked {α : Type} {p q : Prop} [Decidable p] [Decidable q] {c : PvCalls.Call} {rows : List (Nat × List Nat)} {x : Pv.Did α} {f : α -> PvCalls.Answer} {R : Rs (D × Bool)} 
  (h1 : p ↔ PvCalls.goes c = true /\ PvCalls.fits rows = true) (h2 : q ↔ (rows.all fun r => r.2.all Pv.isFinite) = true) (h3 : p -> q -> R = vn (YN x f)) (hc : PvCalls.reckon c = PvCalls.given rows x f) :
  (if p then (if q then R else .er "NotFinite") else .er "WrongCount") = vn (PvCalls.answer c) := by
 rw [uW, hc, jM]
 by_cases a : p
 ·obtain ⟨g1, g2⟩ := h1.mp a
  rw [if_pos a, if_pos g1, if_pos g2]
  by_cases b : q
  ·rw [if_pos b, if_pos (h2.mp b), h3 a b]
   rfl
  ·rw [if_neg b, if_neg (fun z => b (h2.mpr z))]
 ·rw [if_neg a]
  by_cases g1 : PvCalls.goes c = true
  ·rw [if_pos g1, if_neg (fun z => a (h1.mpr ⟨g1, z⟩))]
  ·rw [if_neg g1]
theorem Qv {m n : Int} {ns : List Int} (hm : U64 m) (hn : U64 n) : (ns.length : Int) = m * n ↔ (nats ns).length = m.toNat * n.toNat := by
 have e : m * n = ((m.toNat * n.toNat : Nat) : Int) := by
  have h1 : ((m.toNat : Nat) : Int) = m := Int.toNat_of_nonneg hm.1
  have h2 : ((n.toNat : Nat) : Int) = n := Int.toNat_of_nonneg hn.1
  rw [Int.natCast_mul, h1, h2]
 rw [e, zm]
 lia
theorem Vp {xs ys : List D} {k l : Kd} (h : xs.length + ys.length <= LIM) : vR (.lst xs, k) (.lst ys, l) = .ok (.lst (xs ++ ys), kL (xs ++ ys) (k.low l)) := if_pos h
noncomputable def asks : List Bool -> List D -> Option (List Int × List (List Int))
 | [], [] => some ([], [])
 | false :: s, .int i :: r => (asks s r).map fun x => (i :: x.1, x.2)
 | true :: s, .lst l :: r => (intsOf l).bind fun ns => (asks s r).map fun x => (x.1, ns :: x.2)
 | _, _ => none
noncomputable def unp : List Bool -> List Int -> List (List Int) -> List D
 | false :: s, i :: is, ls => .int i :: unp s is ls
 | true :: s, is, l :: ls => .lst (l.map .int) :: unp s is ls
 | _, _, _ => []
theorem xV : ∀ {sh : List Bool} {ds : List D} {is : List Int} {ls : List (List Int)}, asks sh ds = some (is, ls) -> ds = unp sh is ls /\ is.length = sh.count false /\ ls.length = sh.count true
 | [], [], _, _, h => by cases h; exact ⟨rfl, rfl, rfl⟩
 | [], _ :: _, _, _, h => nomatch h
 | false :: s, .int i :: r, is, ls, h => by
  have h : (asks s r).map (fun x => (i :: x.1, x.2)) = some (is, ls) := h
  cases e : asks s r with
  | none => rw [e] at h; cases h
  | some q =>
   rw [e] at h
   cases h
   obtain ⟨e1, e2, e3⟩ := xV (is := q.1) (ls := q.2) e
   exact ⟨by show _ = D.int i :: unp s q.1 q.2; rw [<- e1], by rw [List.length_cons, e2, List.count_cons_self], by rw [e3]; exact (List.count_cons_of_ne (by decide)).symm⟩
 | true :: s, .lst l :: r, is, ls, h => by
  have h : ((intsOf l).bind fun ns => (asks s r).map fun x => (x.1, ns :: x.2)) = some (is, ls) := h
  cases e0 : intsOf l with
  | none => rw [e0] at h; cases h
  | some ns =>
   rw [e0] at h
   have h : (asks s r).map (fun x => (x.1, ns :: x.2)) = some (is, ls) := h
   cases e : asks s r with
   | none => rw [e] at h; cases h
   | some q =>
    rw [e] at h
    cases h
    obtain ⟨e1, e2, e3⟩ := xV (is := q.1) (ls := q.2) e
    exact ⟨by show _ = D.lst (ns.map .int) :: unp s q.1 q.2; rw [<- e1, <- qW e0], by rw [e2]; exact (List.count_cons_of_ne (by decide)).symm, by rw [List.length_cons, e3, List.count_cons_self]⟩
 | false :: _, [], _, _, h => nomatch h
 | true :: _, [], _, _, h => nomatch h
 | false :: _, .non :: _, _, _, h => nomatch h
 | false :: _, .bl _ :: _, _, _, h => nomatch h
 | false :: _, .lst _ :: _, _, _, h => nomatch h
 | false :: _, .tup _ :: _, _, _, h => nomatch h
 | false :: _, .fn _ :: _, _, _, h => nomatch h
 | false :: _, .obj _ _ _ :: _, _, _, h => nomatch h
 | true :: _, .non :: _, _, _, h => nomatch h
 | true :: _, .bl _ :: _, _, _, h => nomatch h
 | true :: _, .int _ :: _, _, _, h => nomatch h
 | true :: _, .tup _ :: _, _, _, h => nomatch h
 | true :: _, .fn _ :: _, _, _, h => nomatch h
 | true :: _, .obj _ _ _ :: _, _, _, h => nomatch h
theorem xU : ∀ {sh : List Bool} {is : List Int} {ls : List (List Int)}, is.length = sh.count false -> ls.length = sh.count true -> asks sh (unp sh is ls) = some (is, ls)
 | [], [], [], _, _ => rfl
 | [], _ :: _, _, h, _ => nomatch h
 | [], [], _ :: _, _, h => nomatch h
 | false :: s, i :: is, ls, h1, h2 => by
  rw [List.length_cons, List.count_cons_self] at h1
  rw [List.count_cons_of_ne (by decide)] at h2
  show (asks s (unp s is ls)).map _ = _
  rw [xU (by lia) h2]
  rfl
 | true :: s, is, l :: ls, h1, h2 => by
  rw [List.length_cons, List.count_cons_self] at h2
  rw [List.count_cons_of_ne (by decide)] at h1
  show ((intsOf (l.map D.int)).bind fun ns => (asks s (unp s is ls)).map fun x => (x.1, ns :: x.2)) = _
  rw [ints_map, xU h1 (by lia)]
  rfl
 | false :: s, [], _, h1, _ => by rw [List.count_cons_self] at h1; cases h1
 | true :: s, _, [], _, h2 => by rw [List.count_cons_self] at h2; cases h2
noncomputable abbrev Good (is : List Int) (ls : List (List Int)) : Prop := (∀ i ∈ is, U64 i) /\ ∀ l ∈ ls, zz l /\ l.length <= 300
open Classical in
noncomputable def yp (sh : List Bool) (F : List Int -> List (List Int) -> PvCalls.Call) : Fn := fun ds => match asks sh ds with
 | some x => if Good x.1 x.2 then vn (PvCalls.answer (F x.1 x.2)) else .no
 | none => .no
theorem uV {sh : List Bool} {F : List Int -> List (List Int) -> PvCalls.Call} {is : List Int} {ls : List (List Int)} (h1 : is.length = sh.count false) (h2 : ls.length = sh.count true) (g : Good is ls) : yp sh F (unp sh is ls) = vn (PvCalls.answer (F is ls)) := by
 unfold yp
 rw [xU h1 h2]
 exact if_pos g
theorem Wt {sh : List Bool} {F : List Int -> List (List Int) -> PvCalls.Call} {r : RS} {N : List Str} {n : Nat}
  (h : ∀ is ls, is.length = sh.count false -> ls.length = sh.count true -> Good is ls -> res (r (sl0 N (unp sh is ls))) = vn (PvCalls.answer (F is ls))) : Hr r N n (yp sh F) := by
 intro ds _
 cases e : asks sh ds with
 | none => left; unfold yp; rw [e]
 | some x =>
  obtain ⟨is, ls⟩ := x
  by_cases g : Good is ls
  ·right
   obtain ⟨e1, e2, e3⟩ := xV e
   rw [e1, h is ls e2 e3 g, uV e2 e3 g]
  ·left
   unfold yp
   rw [e]
   exact if_neg g
theorem VV {sh : List Bool} {F : List Int -> List (List Int) -> PvCalls.Call} {is : List Int} {ls : List (List Int)} {c : TableNeutral.Call} (h1 : is.length = sh.count false) (h2 : ls.length = sh.count true) (g : Good is ls) (hc : TableNeutral.callOf c = some (F is ls)) (hf : Few (PvCalls.answer (F is ls))) :
  u7 LL (yp sh F (unp sh is ls)) = some ((TableNeutral.f c).map D.int) /\ ((TableNeutral.f c).map D.int).length <= LIM := by
 have e : TableNeutral.f c = TableNeutral.told (PvCalls.answer (F is ls)) := by
  unfold TableNeutral.f
  rw [hc]
 rw [e, uV h1 h2 g]
 exact ⟨Vx hf, Vt hf⟩
theorem xJ {α : Type} {l : List α} (h : l.length = 1) : ∃ a, l = [a] := match l, h with | [a], _ => ⟨a, rfl⟩
theorem Wy {α : Type} {l : List α} (h : l.length = 3) : ∃ a b c, l = [a, b, c] := match l, h with | [a, b, c], _ => ⟨a, b, c, rfl⟩
theorem jj {m : Int} (h : U64 m) : ∃ M : Nat, m = M := ⟨m.toNat, by have := h.1; lia⟩
theorem QW {α : Type} (l : List α) (d : α) : l = (List.range l.length).map fun k => l.getD k d := by
 refine List.ext_getElem? fun k => ?_
 rw [List.getElem?_map]
 by_cases h : k < l.length
 ·rw [List.getElem?_range h, List.getElem?_eq_getElem h]
  show _ = some (l.getD k d)
  rw [List.getD_eq_getElem?_getD, List.getElem?_eq_getElem h]
  rfl
 ·rw [List.getElem?_eq_none (by lia), List.getElem?_eq_none (by rw [List.length_range]; lia)]
  rfl
theorem wF {i j : Int} {k l : Kd} (h1 : 0 <= j) (h2 : j <= 60000) (h3 : few i) : vN (.int i, k) (.int j, l) = .ok (.int (i * 2 ^ j.toNat), .nw) := by
 unfold vN
 exact if_pos ⟨h1, h2, h3⟩
theorem x8 {i j : Int} {k l : Kd} (h1 : 0 <= j) : zO (.int i, k) (.int j, l) = .ok (.int (i / 2 ^ j.toNat), .nw) := by
 unfold zO
 exact if_pos h1
theorem Qd {f : List DK -> Rs DK} {r : RA} {δ : Dl} {xs : List DK} (h : r δ = .ok xs) : zg f r δ = f xs := by unfold zg; rw [h]; rfl
theorem wJ {g : Fn} {a : RE} {δ : Dl} {x : DK} {y : D × Bool} (h : a δ = .ok x) (hg : g [x.1] = .ok y) : qi g (qc a qu) δ = .ok (y.1, kB y.2) := by rw [vE (qj h qR)]; show (g [x.1]).bind _ = _; rw [hg]; rfl
theorem uX {i : Nat} {δ : Dl} {d : D} {k : Bool} (h : δ[i]? = some (.val d k)) (c : d.sc = true) : yU i δ = .rt d false := by
 unfold yU
 rw [h]
 exact if_pos (.inl c)
theorem zk {r : RE} {δ : Dl} {b : Bool} {k : Kd} (h : r δ = .ok (.bl b, k)) : tBl r δ = .ok b := by unfold tBl; rw [h]; rfl
theorem Qa {n : Nat} (k : Nat) (hk : k <= 60000) (h : n < 2 ^ k) : few (n : Int) := y8 k hk (by rw [Int.natAbs_natCast]; exact h)
theorem Wj {x : Nat} (h : x < 2 ^ 64) : U64 (x : Int) := ⟨by lia, by lia⟩
theorem wK {t : RT} {a : RS} {δ : Dl} (h : t δ = .ok false) : sIf t a vJ δ = .nx δ := (Y1 h).trans rfl
theorem qY {a b : Int} (h : a = b) : (Rs.ok (D.int a, Kd.nw) : Rs DK) = .ok (.int b, .nw) := by rw [h]
theorem yB {a b : Nat} : decide ((a : Int) = (b : Int)) = decide (a = b) := decide_eq_decide.mpr (by lia)
noncomputable def qX : Fn := fn1 U64 fun x => iv (Dm.sg x.toNat)
noncomputable def qO : Fn := fn1 U64 fun x => iv (Dm.wh x.toNat)
noncomputable def qP : Fn := fn1 U64 fun x => iv ((Dm.ex x.toNat : Int) - 1074)
noncomputable def wY : RS := (vx (qd zO (qb 0) (rC (.int 63))))
noncomputable def wA : RS := (vu (we 1 (qd (jg Builtin.bitAnd) (qb 0) (qd vH (qd vN (rC (.int 1)) (rC (.int (52)))) (rC (.int 1))))) (vu (sIf (tBl (qd (oEq false) (qi qC (qc (qb 0) qu)) (qb 1))) (yU 1) vJ) (vx (qd vR (qb 1) (qd vN (rC (.int 1)) (rC (.int (52))))))))
noncomputable def wy : RS := (vx (qd vR (qd vH (zg jR (qc (qd zO (qi qC (qc (qb 0) qu)) (rC (.int (52)))) (qc (rC (.int 1)) qu))) (rC (.int 1))) (rC (.int (-1074)))))
theorem Q2 (x : Int) (h : U64 x) : res (wY (sl0 ["x"] [.int x])) = iv (Dm.sg x.toNat) := by
 unfold wY
 rw [v5 (d := .int (Dm.sg x.toNat)) ((qf (x := (.int x, .sh)) (y := (.int 63, .nw)) rfl rfl).trans ((x8 (by decide)).trans ?_))]
 ·rfl
 ·refine qY ?_
  unfold Dm.sg
  obtain ⟨X, rfl⟩ := jj h
  rw [Int.toNat_natCast, Int.natCast_ediv]
  rfl
theorem jH : Hr wY ["x"] 1 qX := yD Q2
theorem xE {x : Int} (h : U64 x) : qX [.int x] = iv (Dm.sg x.toNat) := w8 h
theorem jJ (x : Int) (h : U64 x) : res (wA (sl0 ["x", "fraction"] [.int x])) = iv (Dm.wh x.toNat) := by
 obtain ⟨X, rfl⟩ := jj h
 rw [Int.toNat_natCast]
 have sh1 : ∀ δ, qd vN (rC (.int 1)) (rC (.int (52))) δ = .ok (.int 4503599627370496, .nw) := fun δ => (qf (x := (.int 1, .nw)) (y := (.int 52, .nw)) rfl rfl).trans (wF (by decide) (by decide) (y8 4 (by decide) (by decide)))
 have hf : qd (jg Builtin.bitAnd) (qb 0) (qd vH (qd vN (rC (.int 1)) (rC (.int (52)))) (rC (.int 1))) [.val (.int X) false, .un] = .ok (.int ((X % 2 ^ 52 : Nat) : Int), .nw) := by
  rw [qf (x := (.int X, .sh)) (y := (.int (4503599627370496 - 1), .nw)) rfl ((qf (sh1 _) (y := (.int 1, .nw)) rfl).trans rfl)]
  have e : Builtin.bitAnd (X : Int) (2 ^ 52 - 1) = (X : Int) % 2 ^ 52 := Bits.zS 52 h.1
  show Rs.ok (D.int (Builtin.bitAnd (X : Int) (2 ^ 52 - 1)), Kd.nw) = _
  rw [e, Int.natCast_emod]
  rfl
 unfold wA
 rw [show sl0 ["x", "fraction"] [.int (X : Int)] = [.val (.int X) false, .un] from rfl]
 rw [qS (show we 1 _ [.val (.int X) false, .un] = .nx [.val (.int X) false, .val (.int ((X % 2 ^ 52 : Nat) : Int)) true] from wx hf rfl)]
 have hs : qi qC (qc (qb 0) qu) [.val (.int X) false, .val (.int ((X % 2 ^ 52 : Nat) : Int)) true] = .ok (.int ((Dm.sz X : Nat) : Int), .nw) := (wJ (x := (.int X, .sh)) rfl (zM h)).trans (by
  show Rs.ok (D.int ((X : Int) % 9223372036854775808), Kd.nw) = _
  unfold Dm.sz
  rw [Int.natCast_emod]
  rfl)
 have ht : tBl (qd (oEq false) (qi qC (qc (qb 0) qu)) (qb 1)) [.val (.int X) false, .val (.int ((X % 2 ^ 52 : Nat) : Int)) true] = .ok (decide (Dm.sz X = X % 2 ^ 52)) := by
  refine zk (k := .nw) ((qf (y := (.int ((X % 2 ^ 52 : Nat) : Int), .nw)) hs rfl).trans ?_)
  show Rs.ok (D.bl (decide (((Dm.sz X : Nat) : Int) = ((X % 2 ^ 52 : Nat) : Int))), Kd.nw) = _
  rw [yB]
 unfold Dm.wh
 by_cases c : Dm.sz X = X % 2 ^ 52
 ·rw [decide_eq_true c] at ht
  rw [if_pos c, ye ((uD ht).trans (uX rfl rfl))]
  rfl
 ·rw [decide_eq_false c] at ht
  rw [if_neg c, qS (wK ht)]
  rw [v5 (d := .int ((X % 2 ^ 52 + 2 ^ 52 : Nat) : Int)) ((qf (x := (.int ((X % 2 ^ 52 : Nat) : Int), .nw)) rfl (sh1 _)).trans ?_)]
  ·rfl
  ·show Rs.ok (D.int (((X % 2 ^ 52 : Nat) : Int) + 4503599627370496), Kd.nw) = _
   rw [Int.natCast_add]
   rfl
theorem uY : Hr wA ["x", "fraction"] 1 qO := yD jJ
theorem yP {x : Int} (h : U64 x) : qO [.int x] = iv (Dm.wh x.toNat) := w8 h
theorem jL (x : Int) (h : U64 x) : res (wy (sl0 ["x"] [.int x])) = iv ((Dm.ex x.toNat : Int) - 1074) := by
 obtain ⟨X, rfl⟩ := jj h
 rw [Int.toNat_natCast]
 unfold wy
 rw [show sl0 ["x"] [.int (X : Int)] = [.val (.int X) false] from rfl]
 have hs : qd zO (qi qC (qc (qb 0) qu)) (rC (.int (52))) [.val (.int X) false] = .ok (.int ((Dm.sz X / 2 ^ 52 : Nat) : Int), .nw) := (qf (x := (.int ((X : Int) % 9223372036854775808), .nw)) (y := (.int 52, .nw)) (wJ (x := (.int X, .sh)) rfl (zM h)) rfl).trans ((x8 (by decide)).trans (by
  refine qY ?_
  unfold Dm.sz
  rw [Int.natCast_ediv, Int.natCast_emod]
  rfl))
 have hm : zg jR (qc (qd zO (qi qC (qc (qb 0) qu)) (rC (.int (52)))) (qc (rC (.int 1)) qu)) [.val (.int X) false] = .ok (.int ((max (Dm.sz X / 2 ^ 52) 1 : Nat) : Int), .nw) := (Qd (qj hs (qj (x := (.int 1, .nw)) rfl qR))).trans (by
  show Rs.ok (D.int (if (1 : Int) > ((Dm.sz X / 2 ^ 52 : Nat) : Int) then 1 else ((Dm.sz X / 2 ^ 52 : Nat) : Int)), Kd.nw) = _
  refine qY ?_
  split <;> lia)
 have hv : qd vR (qd vH (zg jR (qc (qd zO (qi qC (qc (qb 0) qu)) (rC (.int (52)))) (qc (rC (.int 1)) qu))) (rC (.int 1))) (rC (.int (-1074))) [.val (.int X) false] = .ok (.int ((Dm.ex X : Int) - 1074), .nw) := by
  have h1 : qd vH (zg jR (qc (qd zO (qi qC (qc (qb 0) qu)) (rC (.int (52)))) (qc (rC (.int 1)) qu))) (rC (.int 1)) [.val (.int X) false] = .ok (.int (((max (Dm.sz X / 2 ^ 52) 1 : Nat) : Int) - 1), .nw) := (qf hm (y := (.int 1, .nw)) rfl).trans rfl
  refine (qf h1 (y := (.int (-1074), .nw)) rfl).trans ?_
  refine qY ?_
  unfold Dm.ex
  generalize Dm.sz X / 2 ^ 52 = q
  lia
 rw [v5 (δ := [.val (.int X) false]) hv]
 rfl
theorem uK : Hr wy ["x"] 1 qP := yD jL
theorem yQ {x : Int} (h : U64 x) : qP [.int x] = iv ((Dm.ex x.toNat : Int) - 1074) := w8 h
noncomputable def lt2 (n k : Nat) : Prop := n < 2 ^ k
theorem lt2.few {n k : Nat} (h : lt2 n k) (hk : k <= 60000) : few (n : Int) := Qa k hk h
theorem lt2.mono {n m k : Nat} (h : lt2 n k) (hm : m <= n) : lt2 m k := Nat.lt_of_le_of_lt hm h
theorem lt2.up {n k l : Nat} (h : lt2 n k) (hl : k <= l) : lt2 n l := Nat.lt_of_lt_of_le h (Nat.pow_le_pow_right (by decide) hl)
theorem lt2.mul {n m k l : Nat} (h : lt2 n k) (h2 : lt2 m l) : lt2 (n * m) (k + l) := by
 unfold lt2 at *
 rw [Nat.pow_add]
 exact Nat.mul_lt_mul'' h h2
theorem lt2.log {n k : Nat} (h : lt2 n k) (hk : 0 < k) : n.log2 < k := by
 by_cases z : n = 0
 ·rw [z, Nat.log2_zero]; exact hk
 ·exact (Nat.log2_lt z).mpr h
theorem Wd {a b : RT} {δ : Dl} {x y : Bool} (ha : a δ = .ok x) (hb : b δ = .ok y) : xh a b δ = .ok (x || y) := by
 unfold xh
 rw [ha, Rs.wu]
 cases x
 ·rw [if_neg (by decide), hb]; rfl
 ·rfl
theorem VH {a b : RT} {δ : Dl} {x y : Bool} (ha : a δ = .ok x) (hb : b δ = .ok y) : u6 a b δ = .ok (x && y) := by
 unfold u6
 rw [ha, Rs.wu]
 cases x
 ·rfl
 ·rw [if_pos rfl, hb]; rfl
noncomputable def qD : Fn := fn2 (fun w d => 0 <= w /\ lt2 w.natAbs 30000 /\ -9000 <= d /\ d <= 55000) fun w d => iv (if d <= 0 then w * 2 ^ (-d).toNat else (Dm.nw w.toNat d.toNat : Int))
noncomputable def q0 : RS := (vu (sIf (tBl (qd (zb fun i j => decide (i <= j)) (qb 1) (rC (.int 0)))) (vx (qd vN (qb 0) (rUn WT (qb 1)))) vJ) (vu (we 2 (qd zO (qb 0) (qb 1))) (vu (we 3 (qd vH (qb 0) (qd vN (qb 2) (qb 1)))) (vu (we 4 (qd vN (rC (.int 1)) (qd vH (qb 1) (rC (.int 1))))) (vu (sIf (xh (tBl (qd (zb fun i j => decide (j < i)) (qb 3) (qb 4))) (u6 (tBl (qd (oEq false) (qb 3) (qb 4))) (tBl (qd (oEq false) (qd oMod (qb 2) (rC (.int 2))) (rC (.int 1)))))) (vx (qd vR (qb 2) (rC (.int 1)))) vJ) (yU 2))))))
theorem z3 (w d : Int) (h : 0 <= w /\ lt2 w.natAbs 30000 /\ -9000 <= d /\ d <= 55000) : res (q0 (sl0 ["whole", "drop", "kept", "left", "half"] [.int w, .int d])) = iv (if d <= 0 then w * 2 ^ (-d).toNat else (Dm.nw w.toNat d.toNat : Int)) := by
 obtain ⟨h0, hw, hd1, hd2⟩ := h
 obtain ⟨W, rfl⟩ : ∃ W : Nat, w = W := ⟨w.toNat, by lia⟩
 rw [Int.natAbs_natCast] at hw
 unfold q0
 rw [show sl0 ["whole", "drop", "kept", "left", "half"] [.int (W : Int), .int d] = [.val (.int W) false, .val (.int d) false, .un, .un, .un] from rfl]
 have ht : tBl (qd (zb fun i j => decide (i <= j)) (qb 1) (rC (.int 0))) [.val (.int W) false, .val (.int d) false, .un, .un, .un] = .ok (decide (d <= 0)) := zk (k := .nw) ((qf (x := (.int d, .sh)) (y := (.int 0, .nw)) rfl rfl).trans rfl)
 by_cases c : d <= 0
 ·rw [decide_eq_true c] at ht
  rw [if_pos c]
  have hv : qd vN (qb 0) (rUn WT (qb 1)) [.val (.int W) false, .val (.int d) false, .un, .un, .un] = .ok (.int ((W : Int) * 2 ^ (-d).toNat), .nw) := (qf (x := (.int W, .sh)) (y := (.int (-d), .nw)) rfl ((VA (x := (.int d, .sh)) rfl).trans rfl)).trans (wF (by lia) (by lia) (hw.few (by decide)))
  rw [ye ((uD ht).trans (v5 (δ := [.val (.int W) false, .val (.int d) false, .un, .un, .un]) hv))]
  rfl
 ·rw [decide_eq_false c] at ht
  rw [if_neg c, Int.toNat_natCast]
  obtain ⟨K, rfl⟩ : ∃ K : Nat, d = K := ⟨d.toNat, by lia⟩
  rw [Int.toNat_natCast]
  rw [qS (wK ht)]
  have e2 : qd zO (qb 0) (qb 1) [.val (.int W) false, .val (.int K) false, .un, .un, .un] = .ok (.int ((W / 2 ^ K : Nat) : Int), .nw) := (qf (x := (.int W, .sh)) (y := (.int K, .sh)) rfl rfl).trans ((x8 (by lia)).trans (qY (by rw [Int.toNat_natCast, Int.natCast_ediv, Int.natCast_pow]; rfl)))
  rw [qS (show we 2 _ [.val (.int W) false, .val (.int K) false, .un, .un, .un] = .nx [.val (.int W) false, .val (.int K) false, .val (.int ((W / 2 ^ K : Nat) : Int)) true, .un, .un] from wx e2 rfl)]
  have hdiv : W / 2 ^ K <= W := Nat.div_le_self _ _
  have hmulle : W / 2 ^ K * 2 ^ K <= W := Nat.div_mul_le_self _ _
  have e3 : qd vH (qb 0) (qd vN (qb 2) (qb 1)) [.val (.int W) false, .val (.int K) false, .val (.int ((W / 2 ^ K : Nat) : Int)) true, .un, .un] = .ok (.int ((W - W / 2 ^ K * 2 ^ K : Nat) : Int), .nw) := by
   have q : qd vN (qb 2) (qb 1) [.val (.int W) false, .val (.int K) false, .val (.int ((W / 2 ^ K : Nat) : Int)) true, .un, .un] = .ok (.int ((W / 2 ^ K * 2 ^ K : Nat) : Int), .nw) := (qf (x := (.int ((W / 2 ^ K : Nat) : Int), .nw)) (y := (.int K, .sh)) rfl rfl).trans ((wF (by lia) (by lia) ((hw.mono hdiv).few (by decide))).trans (qY (by rw [Int.toNat_natCast, Int.natCast_mul, Int.natCast_pow]; rfl)))
   exact (qf (x := (.int W, .sh)) rfl q).trans (qY (by rw [Int.natCast_sub hmulle]))
  rw [qS (show we 3 _ _ = .nx [.val (.int W) false, .val (.int K) false, .val (.int ((W / 2 ^ K : Nat) : Int)) true, .val (.int ((W - W / 2 ^ K * 2 ^ K : Nat) : Int)) true, .un] from wx e3 rfl)]
  have e4 : qd vN (rC (.int 1)) (qd vH (qb 1) (rC (.int 1))) [.val (.int W) false, .val (.int K) false, .val (.int ((W / 2 ^ K : Nat) : Int)) true, .val (.int ((W - W / 2 ^ K * 2 ^ K : Nat) : Int)) true, .un] = .ok (.int ((2 ^ (K - 1) : Nat) : Int), .nw) := (qf (x := (.int 1, .nw)) (y := (.int ((K : Int) - 1), .nw)) rfl ((qf (x := (.int K, .sh)) (y := (.int 1, .nw)) rfl rfl).trans rfl)).trans ((wF (by lia) (by lia) (y8 4 (by decide) (by decide))).trans (qY (by rw [show ((K : Int) - 1).toNat = K - 1 by lia, Int.natCast_pow, Int.one_mul]; rfl)))
  rw [qS (show we 4 _ _ = .nx [.val (.int W) false, .val (.int K) false, .val (.int ((W / 2 ^ K : Nat) : Int)) true, .val (.int ((W - W / 2 ^ K * 2 ^ K : Nat) : Int)) true, .val (.int ((2 ^ (K - 1) : Nat) : Int)) true] from wx e4 rfl)]
  unfold Dm.nw
  rw [if_neg (show ¬ K = 0 by lia)]
  generalize W / 2 ^ K * 2 ^ K = u at *
  generalize W / 2 ^ K = kept at *
  generalize 2 ^ (K - 1) = half at *
  generalize W - u = left at *
  have tt : xh (tBl (qd (zb fun i j => decide (j < i)) (qb 3) (qb 4))) (u6 (tBl (qd (oEq false) (qb 3) (qb 4))) (tBl (qd (oEq false) (qd oMod (qb 2) (rC (.int 2))) (rC (.int 1))))) [.val (.int W) false, .val (.int K) false, .val (.int kept) true, .val (.int left) true, .val (.int half) true] = .ok (decide (half < left) || (decide (left = half) && decide (kept % 2 = 1))) := by
   refine Wd (zk (k := .nw) ((qf (x := (.int left, .nw)) (y := (.int half, .nw)) rfl rfl).trans ?_)) (VH (zk (k := .nw) ((qf (x := (.int left, .nw)) (y := (.int half, .nw)) rfl rfl).trans ?_)) (zk (k := .nw) ((qf (x := (.int ((kept : Int) % 2), .nw)) (y := (.int 1, .nw)) ((qf (x := (.int kept, .nw)) (y := (.int 2, .nw)) rfl rfl).trans rfl) rfl).trans ?_)))
   ·show Rs.ok (D.bl (decide ((half : Int) < left)), Kd.nw) = _
    rw [show decide ((half : Int) < left) = decide (half < left) from decide_eq_decide.mpr (by lia)]
   ·show Rs.ok (D.bl (decide ((left : Int) = half)), Kd.nw) = _
    rw [yB]
   ·show Rs.ok (D.bl (decide ((kept : Int) % 2 = 1)), Kd.nw) = _
    rw [show decide ((kept : Int) % 2 = 1) = decide (kept % 2 = 1) from decide_eq_decide.mpr (by lia)]
  by_cases cc : half < left \/ (left = half /\ kept % 2 = 1)
  ·have tb : (decide (half < left) || (decide (left = half) && decide (kept % 2 = 1))) = true := by
    rw [Bool.or_eq_true, Bool.and_eq_true, decide_eq_true_eq, decide_eq_true_eq, decide_eq_true_eq]; exact cc
   rw [tb] at tt
   rw [if_pos cc]
   have hv : qd vR (qb 2) (rC (.int 1)) [.val (.int W) false, .val (.int K) false, .val (.int kept) true, .val (.int left) true, .val (.int half) true] = .ok (.int ((kept + 1 : Nat) : Int), .nw) := (qf (x := (.int kept, .nw)) (y := (.int 1, .nw)) rfl rfl).trans (qY (by lia))
   rw [ye ((uD tt).trans (v5 (δ := [.val (.int W) false, .val (.int K) false, .val (.int kept) true, .val (.int left) true, .val (.int half) true]) hv))]
   rfl
  ·have tb : (decide (half < left) || (decide (left = half) && decide (kept % 2 = 1))) = false := by
    rw [Bool.eq_false_iff]
    intro z
    rw [Bool.or_eq_true, Bool.and_eq_true, decide_eq_true_eq, decide_eq_true_eq, decide_eq_true_eq] at z
    exact cc z
   rw [tb] at tt
   rw [if_neg cc, qS (wK tt), uX (δ := [.val (.int W) false, .val (.int K) false, .val (.int kept) true, .val (.int left) true, .val (.int half) true]) (d := .int kept) (k := true) rfl rfl]
   rfl
theorem zL : Hr q0 ["whole", "drop", "kept", "left", "half"] 2 qD := V3 z3
theorem z0 {w d : Int} (h : 0 <= w /\ lt2 w.natAbs 30000 /\ -9000 <= d /\ d <= 55000) : qD [.int w, .int d] = iv (if d <= 0 then w * 2 ^ (-d).toNat else (Dm.nw w.toNat d.toNat : Int)) := xK h
noncomputable def vq : Option Nat -> Rs (D × Bool)
 | some r => iv r
 | none => .er "StepNotFinite"
noncomputable def vf : Fn := fn3 (fun s w p => (s = 0 \/ s = 1) /\ 0 <= w /\ lt2 w.natAbs 20000 /\ -8000 <= p /\ p <= 8000) fun s w p => vq (Dm.rnd (decide (s = 1)) w.toNat (p + 1074))
noncomputable def za : RS := (vu (sIf (tBl (qd (oEq false) (qb 1) (rC (.int 0)))) (vx (qd vN (qb 0) (rC (.int 63)))) vJ) (vu (we 3 (zg jR (qc (qd vH (qd vH (rUn oBits (qb 1)) (rC (.int (52)))) (rC (.int 1))) (qc (qd vH (rC (.int (-1074))) (qb 2)) qu)))) (vu (we 4 (qi qD (qc (qb 1) (qc (qb 3) qu)))) (vu (we 5 (qd vR (qd vN (qd vH (qd vR (qb 2) (qb 3)) (rC (.int (-1074)))) (rC (.int (52)))) (qb 4))) (vu (sIf (tBl (qd (zb fun i j => decide (j <= i)) (qb 5) (rC (.int (9218868437227405312))))) (vF "StepNotFinite") vJ) (vx (qd vR (qd vN (qb 0) (rC (.int 63))) (qb 5))))))))
theorem Q0 (s w p : Int) (h : (s = 0 \/ s = 1) /\ 0 <= w /\ lt2 w.natAbs 20000 /\ -8000 <= p /\ p <= 8000) : res (za (sl0 ["sign", "whole", "power", "drop", "kept", "size"] [.int s, .int w, .int p])) = vq (Dm.rnd (decide (s = 1)) w.toNat (p + 1074)) := by
 obtain ⟨hs, h0, hw, hp1, hp2⟩ := h
 obtain ⟨W, rfl⟩ : ∃ W : Nat, w = W := ⟨w.toNat, by lia⟩
 rw [Int.natAbs_natCast] at hw
 unfold za
 rw [show sl0 ["sign", "whole", "power", "drop", "kept", "size"] [.int s, .int (W : Int), .int p] = [.val (.int s) false, .val (.int W) false, .val (.int p) false, .un, .un, .un] from rfl]
 rw [Int.toNat_natCast]
 have hsg : s * 2 ^ 63 = ((if decide (s = 1) = true then 2 ^ 63 else 0 : Nat) : Int) := by rcases hs with rfl | rfl <;> rfl
 have fs : few s := y8 4 (by decide) (by rcases hs with rfl | rfl <;> decide)
 have ht : tBl (qd (oEq false) (qb 1) (rC (.int 0))) [.val (.int s) false, .val (.int W) false, .val (.int p) false, .un, .un, .un] = .ok (decide (W = 0)) := zk (k := .nw) ((qf (x := (.int W, .sh)) (y := (.int 0, .nw)) rfl rfl).trans (by
  show Rs.ok (D.bl (decide ((W : Int) = ((0 : Nat) : Int))), Kd.nw) = _
  rw [yB]))
 unfold Dm.rnd
 by_cases c : W = 0
 ·rw [decide_eq_true c] at ht
  rw [if_pos c]
  have hv : qd vN (qb 0) (rC (.int 63)) [.val (.int s) false, .val (.int W) false, .val (.int p) false, .un, .un, .un] = .ok (.int ((if decide (s = 1) = true then 2 ^ 63 else 0 : Nat) : Int), .nw) := (qf (x := (.int s, .sh)) (y := (.int 63, .nw)) rfl rfl).trans ((wF (by decide) (by decide) fs).trans (qY hsg))
  rw [ye ((uD ht).trans (v5 (δ := [.val (.int s) false, .val (.int W) false, .val (.int p) false, .un, .un, .un]) hv))]
  rfl
 ·rw [decide_eq_false c] at ht
  rw [if_neg c, qS (wK ht)]
  have hlog : W.log2 < 20000 := hw.log (by decide)
  obtain ⟨d, hd⟩ : ∃ d : Int, d = max (((W.log2 + 1 : Nat) : Int) - 53) (-(p + 1074)) := ⟨_, rfl⟩
  rw [<- hd]
  show _ = vq (if 9218868437227405312 <= (p + 1074 + d).toNat * 2 ^ 52 + (if d <= 0 then W * 2 ^ (-d).toNat else Dm.nw W d.toNat) then none else some ((if decide (s = 1) = true then 2 ^ 63 else 0) + ((p + 1074 + d).toNat * 2 ^ 52 + (if d <= 0 then W * 2 ^ (-d).toNat else Dm.nw W d.toNat))))
  have hd1 : -9000 <= d /\ d <= 55000 := by lia
  have e3 : zg jR (qc (qd vH (qd vH (rUn oBits (qb 1)) (rC (.int (52)))) (rC (.int 1))) (qc (qd vH (rC (.int (-1074))) (qb 2)) qu)) [.val (.int s) false, .val (.int W) false, .val (.int p) false, .un, .un, .un] = .ok (.int d, .nw) := by
   have b1 : rUn oBits (qb 1) [.val (.int s) false, .val (.int W) false, .val (.int p) false, .un, .un, .un] = .ok (.int ((W.log2 + 1 : Nat) : Int), .nw) := (VA (x := (.int W, .sh)) rfl).trans (qY (by
    rw [if_neg (by lia), Int.natAbs_natCast]))
   have b2 : qd vH (qd vH (rUn oBits (qb 1)) (rC (.int (52)))) (rC (.int 1)) [.val (.int s) false, .val (.int W) false, .val (.int p) false, .un, .un, .un] = .ok (.int (((W.log2 + 1 : Nat) : Int) - 52 - 1), .nw) := (qf (y := (.int 1, .nw)) ((qf b1 (y := (.int 52, .nw)) rfl).trans rfl) rfl).trans rfl
   have b3 : qd vH (rC (.int (-1074))) (qb 2) [.val (.int s) false, .val (.int W) false, .val (.int p) false, .un, .un, .un] = .ok (.int (-1074 - p), .nw) := (qf (x := (.int (-1074), .nw)) (y := (.int p, .sh)) rfl rfl).trans rfl
   refine (Qd (qj b2 (qj b3 qR))).trans ?_
   show Rs.ok (D.int (if (-1074 - p) > ((W.log2 + 1 : Nat) : Int) - 52 - 1 then -1074 - p else ((W.log2 + 1 : Nat) : Int) - 52 - 1), Kd.nw) = _
   refine qY ?_
   rw [hd]
   split <;> lia
  rw [qS (show we 3 _ _ = .nx [.val (.int s) false, .val (.int W) false, .val (.int p) false, .val (.int d) true, .un, .un] from wx e3 rfl)]
  obtain ⟨kept, hk⟩ : ∃ kept : Nat, kept = if d <= 0 then W * 2 ^ (-d).toNat else Dm.nw W d.toNat := ⟨_, rfl⟩
  rw [<- hk]
  have e4 : qi qD (qc (qb 1) (qc (qb 3) qu)) [.val (.int s) false, .val (.int W) false, .val (.int p) false, .val (.int d) true, .un, .un] = .ok (.int kept, .nw) := by
   rw [vE (qj (x := (.int W, .sh)) rfl (qj (x := (.int d, .nw)) rfl qR))]
   show (qD [.int W, .int d]).bind _ = _
   rw [z0 ⟨by lia, by rw [Int.natAbs_natCast]; exact hw.up (by decide), hd1.1, hd1.2⟩]
   show Rs.ok (D.int (if d <= 0 then (W : Int) * 2 ^ (-d).toNat else (Dm.nw (W : Int).toNat d.toNat : Int)), Kd.nw) = _
   refine qY ?_
   rw [hk, Int.toNat_natCast]
   split
   ·rw [Int.natCast_mul, Int.natCast_pow]; rfl
   ·rfl
  rw [qS (show we 4 _ _ = .nx [.val (.int s) false, .val (.int W) false, .val (.int p) false, .val (.int d) true, .val (.int kept) true, .un] from wx e4 rfl)]
  obtain ⟨E, hE⟩ : ∃ E : Nat, (E : Int) = p + 1074 + d := ⟨(p + 1074 + d).toNat, by lia⟩
  rw [<- hE, Int.toNat_natCast]
  have hEs : E < 2 ^ 20 := by lia
  have e5 : qd vR (qd vN (qd vH (qd vR (qb 2) (qb 3)) (rC (.int (-1074)))) (rC (.int (52)))) (qb 4) [.val (.int s) false, .val (.int W) false, .val (.int p) false, .val (.int d) true, .val (.int kept) true, .un] = .ok (.int ((E * 2 ^ 52 + kept : Nat) : Int), .nw) := by
   have b1 : qd vH (qd vR (qb 2) (qb 3)) (rC (.int (-1074))) [.val (.int s) false, .val (.int W) false, .val (.int p) false, .val (.int d) true, .val (.int kept) true, .un] = .ok (.int E, .nw) := (qf (x := (.int (p + d), .nw)) (y := (.int (-1074), .nw)) ((qf (x := (.int p, .sh)) (y := (.int d, .nw)) rfl rfl).trans rfl) rfl).trans (qY (by lia))
   have b2 : qd vN (qd vH (qd vR (qb 2) (qb 3)) (rC (.int (-1074)))) (rC (.int (52))) [.val (.int s) false, .val (.int W) false, .val (.int p) false, .val (.int d) true, .val (.int kept) true, .un] = .ok (.int ((E * 2 ^ 52 : Nat) : Int), .nw) := (qf b1 (y := (.int 52, .nw)) rfl).trans ((wF (by decide) (by decide) (Qa 20 (by decide) hEs)).trans (qY (by rw [Int.natCast_mul]; rfl)))
   exact (qf b2 (y := (.int kept, .nw)) rfl).trans (qY (by rw [Int.natCast_add]))
  generalize E * 2 ^ 52 + kept = size at *
  rw [qS (show we 5 _ _ = .nx [.val (.int s) false, .val (.int W) false, .val (.int p) false, .val (.int d) true, .val (.int kept) true, .val (.int size) true] from wx e5 rfl)]
  have ht2 : tBl (qd (zb fun i j => decide (j <= i)) (qb 5) (rC (.int (9218868437227405312)))) [.val (.int s) false, .val (.int W) false, .val (.int p) false, .val (.int d) true, .val (.int kept) true, .val (.int size) true] = .ok (decide (9218868437227405312 <= size)) := zk (k := .nw) ((qf (x := (.int size, .nw)) (y := (.int 9218868437227405312, .nw)) rfl rfl).trans (by
   show Rs.ok (D.bl (decide ((9218868437227405312 : Int) <= size)), Kd.nw) = _
   rw [show decide ((9218868437227405312 : Int) <= size) = decide (9218868437227405312 <= size) from decide_eq_decide.mpr (by lia)]))
  by_cases c2 : 9218868437227405312 <= size
  ·rw [decide_eq_true c2] at ht2
   rw [if_pos c2, xR ((uD ht2).trans rfl)]
   rfl
  ·rw [decide_eq_false c2] at ht2
   rw [if_neg c2, qS (wK ht2)]
   have hv : qd vR (qd vN (qb 0) (rC (.int 63))) (qb 5) [.val (.int s) false, .val (.int W) false, .val (.int p) false, .val (.int d) true, .val (.int kept) true, .val (.int size) true] = .ok (.int (((if decide (s = 1) = true then 2 ^ 63 else 0) + size : Nat) : Int), .nw) := by
    have b1 : qd vN (qb 0) (rC (.int 63)) [.val (.int s) false, .val (.int W) false, .val (.int p) false, .val (.int d) true, .val (.int kept) true, .val (.int size) true] = .ok (.int ((if decide (s = 1) = true then 2 ^ 63 else 0 : Nat) : Int), .nw) := (qf (x := (.int s, .sh)) (y := (.int 63, .nw)) rfl rfl).trans ((wF (by decide) (by decide) fs).trans (qY hsg))
    exact (qf b1 (y := (.int size, .nw)) rfl).trans (qY (by rw [Int.natCast_add]))
   rw [v5 (δ := [.val (.int s) false, .val (.int W) false, .val (.int p) false, .val (.int d) true, .val (.int kept) true, .val (.int size) true]) hv]
   rfl
theorem jt : Hr za ["sign", "whole", "power", "drop", "kept", "size"] 3 vf := ZI Q0
theorem QP {s w p : Int} (h : (s = 0 \/ s = 1) /\ 0 <= w /\ lt2 w.natAbs 20000 /\ -8000 <= p /\ p <= 8000) : vf [.int s, .int w, .int p] = vq (Dm.rnd (decide (s = 1)) w.toNat (p + 1074)) := ui h
noncomputable abbrev U3 (x y z : Int) : Prop := U64 x /\ U64 y /\ U64 z
noncomputable abbrev U2 (x y : Int) : Prop := U64 x /\ U64 y
noncomputable def uh : Fn := fn3 U3 fun x y z => vq (Pv.fused x.toNat y.toNat z.toNat)
noncomputable def vd : Fn := fn2 U2 fun x y => vq (Pv.mul x.toNat y.toNat)
noncomputable def V4 : RS := (vx (qi uh (qc (qb 0) (qc (rC (.int (4607182418800017408))) (qc (qb 1) qu)))))
noncomputable def wZ : RS := (vx (qi vf (qc (qd (jg Builtin.bitXor) (qi qX (qc (qb 0) qu)) (qi qX (qc (qb 1) qu))) (qc (qd uq (qi qO (qc (qb 0) qu)) (qi qO (qc (qb 1) qu))) (qc (qd vR (qi qP (qc (qb 0) qu)) (qi qP (qc (qb 1) qu))) qu)))))
theorem ZV {p : Prop} [Decidable p] : decide ((if p then (1 : Int) else 0) = 1) = decide p := by by_cases h : p <;> simp [h]
theorem uM {r : RE} {δ : Dl} {o : Option Nat} (h : r δ = (vq o).bind fun y => .ok (y.1, kB y.2)) (hf : freeze δ = δ := by rfl) : res (vx r δ) = vq o := by
 cases o with
 | none => rw [Qs (c := "StepNotFinite") (by rw [hf, h]; rfl)]; rfl
 | some v => rw [v5 (d := .int v) (by rw [hf, h]; rfl)]; rfl
theorem Zg {x : Nat} (h : x < 2 ^ 64) : Dm.ex x <= 2046 := by
 unfold Dm.ex Dm.sz
 lia
theorem W4 {x : Nat} (h : x < 2 ^ 64) : Dm.sg x = 0 \/ Dm.sg x = 1 := by
 unfold Dm.sg
 lia
theorem Wb {x y z : Int} (h : U64 x) (h2 : U64 y) (h3 : U64 z) : uh [.int x, .int y, .int z] = vq (Pv.fused x.toNat y.toNat z.toNat) := ui ⟨h, h2, h3⟩
theorem Y5 (x y : Int) (h : U2 x y) : res (V4 (sl0 ["x", "y"] [.int x, .int y])) = vq (Pv.add x.toNat y.toNat) := by
 have u1 : U64 4607182418800017408 := ⟨by decide, by decide⟩
 have l1 : x.toNat < 2 ^ 64 := by have := h.1.1; have := h.1.2; lia
 have l2 : y.toNat < 2 ^ 64 := by have := h.2.1; have := h.2.2; lia
 rw [<- Dm.ZO l1 l2, Dm.ux l1 (by decide) l2]
 unfold V4
 have hcall := vE (g := uh) (δ := [.val (.int x) false, .val (.int y) false]) (qj (ra := qb 0) (x := (.int x, .sh)) rfl (qj (ra := rC (.int 4607182418800017408)) (x := (.int 4607182418800017408, .nw)) rfl (qj (ra := qb 1) (x := (.int y, .sh)) rfl qR)))
 exact uM (δ := [.val (.int x) false, .val (.int y) false]) (hcall.trans (congrArg (fun q => Rs.bind q _) (Wb h.1 u1 h.2)))
theorem QE (x y : Int) (h : U2 x y) : res (wZ (sl0 ["x", "y"] [.int x, .int y])) = vq (Pv.mul x.toNat y.toNat) := by
 have l1 : x.toNat < 2 ^ 64 := by have := h.1.1; have := h.1.2; lia
 have l2 : y.toNat < 2 ^ 64 := by have := h.2.1; have := h.2.2; lia
 rw [<- Dm.ZR l1 l2]
 unfold wZ Dm.yG
 have b1 := Zg l1
 have b2 := Zg l2
 have w1 : lt2 (Dm.wh x.toNat) 53 := Dm.W5 _
 have w2 : lt2 (Dm.wh y.toNat) 53 := Dm.W5 _
 have e1 : qd (jg Builtin.bitXor) (qi qX (qc (qb 0) qu)) (qi qX (qc (qb 1) qu)) [.val (.int x) false, .val (.int y) false] = .ok (.int (if Dm.sg x.toNat ≠ Dm.sg y.toNat then 1 else 0), .nw) := (qf ((wJ (x := (.int x, .sh)) rfl (xE h.1)).trans rfl) ((wJ (x := (.int y, .sh)) rfl (xE h.2)).trans rfl)).trans (qY (by
  rcases W4 l1 with a | a <;> rcases W4 l2 with b | b <;> rw [a, b] <;> decide))
 have e2 : qd uq (qi qO (qc (qb 0) qu)) (qi qO (qc (qb 1) qu)) [.val (.int x) false, .val (.int y) false] = .ok (.int ((Dm.wh x.toNat * Dm.wh y.toNat : Nat) : Int), .nw) := (qf ((wJ (x := (.int x, .sh)) rfl (yP h.1)).trans rfl) ((wJ (x := (.int y, .sh)) rfl (yP h.2)).trans rfl)).trans ((uQ (w1.few (by decide)) (w2.few (by decide))).trans (qY (by rw [Int.natCast_mul])))
 have e3 : qd vR (qi qP (qc (qb 0) qu)) (qi qP (qc (qb 1) qu)) [.val (.int x) false, .val (.int y) false] = .ok (.int ((Dm.ex x.toNat : Int) + Dm.ex y.toNat - 2148), .nw) := (qf ((wJ (x := (.int x, .sh)) rfl (yQ h.1)).trans rfl) ((wJ (x := (.int y, .sh)) rfl (yQ h.2)).trans rfl)).trans (qY (by lia))
 have hg : vf [.int (if Dm.sg x.toNat ≠ Dm.sg y.toNat then 1 else 0), .int ((Dm.wh x.toNat * Dm.wh y.toNat : Nat) : Int), .int ((Dm.ex x.toNat : Int) + Dm.ex y.toNat - 2148)] = vq (Dm.rnd (decide (Dm.sg x.toNat ≠ Dm.sg y.toNat)) (Dm.wh x.toNat * Dm.wh y.toNat) ((Dm.ex x.toNat : Int) + Dm.ex y.toNat - 1074)) := by
  rw [QP ⟨by split <;> simp, by lia, by rw [Int.natAbs_natCast]; exact (w1.mul w2).up (by decide), by lia, by lia⟩, Int.toNat_natCast]
  rw [ZV]
  rw [show (Dm.ex x.toNat : Int) + Dm.ex y.toNat - 2148 + 1074 = (Dm.ex x.toNat : Int) + Dm.ex y.toNat - 1074 by lia]
 have hcall := vE (g := vf) (δ := [.val (.int x) false, .val (.int y) false]) (qj e1 (qj e2 (qj e3 qR)))
 exact uM (δ := [.val (.int x) false, .val (.int y) false]) (hcall.trans (congrArg (fun q => Rs.bind q _) hg))
theorem ju : Hr wZ ["x", "y"] 2 vd := V3 QE
theorem QD {x y : Int} (h : U64 x) (h2 : U64 y) : vd [.int x, .int y] = vq (Pv.mul x.toNat y.toNat) := xK ⟨h, h2⟩
theorem Zy {r : RE} {δ : Dl} {xs : List D} {k : Kd} (h : r δ = .ok (.lst xs, k)) : iOf r δ = .ok (k.safe, xs.map fun d => (d, k.low .nw)) := by unfold iOf; rw [h]; rfl
theorem Vf {x : Option Nat} : ∀ {e}, Pv.step x = .error e -> e = -3 := by
 intro e h
 cases x with
 | none => cases h; rfl
 | some y => cases h
theorem QL {ns : List Int} (h : zz ns) : ns.map D.int = (nats ns).map fun (n : Nat) => D.int n := by
 conv => lhs; rw [<- QM h]
 rw [List.map_map]
 rfl
theorem Wf {ns : List Int} (h : zz ns) : ∀ v ∈ nats ns, v < 2 ^ 64 := fun v hv => by
 obtain ⟨x, hx, rfl⟩ := List.mem_map.mp hv
 obtain ⟨h1, h2⟩ := h x hx
 lia
noncomputable def V2 : Pv.Did Nat -> Rs (D × Bool)
 | .ok r => iv r
 | .error _ => .er "StepNotFinite"
theorem mapM_congr {β γ : Type} {f g : β -> Pv.Did γ} : ∀ {l : List β}, (∀ x ∈ l, f x = g x) -> l.mapM f = l.mapM g
 | [], _ => rfl
 | x :: l, h => by rw [List.mapM_cons, List.mapM_cons, h x (List.mem_cons_self), mapM_congr fun y hy => h y (List.mem_cons_of_mem _ hy)]
noncomputable def W9 : Pv.Did Pv.Table -> Rs (D × Bool)
 | .ok t => .ok (.lst ((PvCalls.flat t).map fun (n : Nat) => D.int n), true)
 | .error _ => .er "StepNotFinite"
theorem yz {β γ : Type} {f : β -> Pv.Did γ} : ∀ {l : List β} {rs : List γ}, l.mapM f = .ok rs -> rs.length = l.length
 | [], rs, h => by cases h; rfl
 | x :: l, rs, h => by
  rw [List.mapM_cons] at h
  cases e : f x with
  | error z => rw [e] at h; cases h
  | ok r =>
   rw [e] at h
   cases e2 : l.mapM f with
   | error z => rw [e2] at h; cases h
   | ok q =>
    rw [e2] at h
    cases h
    rw [List.length_cons, List.length_cons, yz e2]
theorem u9 {β γ : Type} {f : β -> Pv.Did γ} : ∀ {l : List β} {rs : List γ}, l.mapM f = .ok rs -> ∀ r ∈ rs, ∃ x ∈ l, f x = .ok r
 | [], rs, h, r, hr => by cases h; cases hr
 | x :: l, rs, h, r, hr => by
  rw [List.mapM_cons] at h
  cases e : f x with
  | error z => rw [e] at h; cases h
  | ok v =>
   rw [e] at h
   cases e2 : l.mapM f with
   | error z => rw [e2] at h; cases h
   | ok q =>
    rw [e2] at h
    cases h
    rcases List.mem_cons.mp hr with rfl | hr
    ·exact ⟨x, List.mem_cons_self, e⟩
    ·obtain ⟨y, hy, e3⟩ := u9 e2 r hr
     exact ⟨y, List.mem_cons_of_mem _ hy, e3⟩
theorem yX {β γ : Type} {f : β -> Pv.Did γ} : ∀ {l : List β} {z : Int}, l.mapM f = .error z -> ∃ x ∈ l, f x = .error z
 | [], _, h => by cases h
 | x :: l, z, h => by
  rw [List.mapM_cons] at h
  cases e : f x with
  | error y => rw [e] at h; cases h; exact ⟨x, List.mem_cons_self, e⟩
  | ok v =>
   rw [e] at h
   cases e2 : l.mapM f with
   | error y =>
    rw [e2] at h
    cases h
    obtain ⟨y, hy, e3⟩ := yX e2
    exact ⟨y, List.mem_cons_of_mem _ hy, e3⟩
   | ok q => rw [e2] at h; cases h
theorem xH {n : Nat} : ∀ {t : Pv.Table}, (∀ r ∈ t, r.length = n) -> (PvCalls.flat t).length = t.length * n
 | [], _ => by rw [List.length_nil, Nat.zero_mul]; rfl
 | r :: t, h => by
  show ((r :: t).flatMap fun r => r).length = _
  rw [List.flatMap_cons, List.length_append, h r (List.mem_cons_self), List.length_cons, Nat.succ_mul]
  have := xH (t := t) fun q hq => h q (List.mem_cons_of_mem _ hq)
  unfold PvCalls.flat at this
  lia
theorem VS {m n : Nat} {f : Nat -> Nat -> Pv.Did Nat} {t : Pv.Table} (h : Pv.eachCell m n f = .ok t) : (PvCalls.flat t).length = m * n := by
 unfold Pv.eachCell at h
 have h1 := yz h
 rw [List.length_range] at h1
 rw [xH (n := n), h1]
 intro r hr
 obtain ⟨i, _, e⟩ := u9 h r hr
 have := yz e
 rw [List.length_range] at this
 exact this
theorem Vz {m n : Nat} {f : Nat -> Nat -> Pv.Did Nat} (hf : ∀ i j z, f i j = .error z -> z = -3) {z : Int} (h : Pv.eachCell m n f = .error z) : z = -3 := by
 unfold Pv.eachCell at h
 obtain ⟨i, _, e⟩ := yX h
 obtain ⟨j, _, e2⟩ := yX e
 exact hf i j z e2
theorem jS {m n : Nat} {f g : Nat -> Nat -> Pv.Did Nat} (h : ∀ i < m, ∀ j < n, f i j = g i j) : Pv.eachCell m n f = Pv.eachCell m n g := by
 unfold Pv.eachCell
 exact mapM_congr fun i hi => mapM_congr fun j hj => h i (List.mem_range.mp hi) j (List.mem_range.mp hj)
theorem Qw {r : RE} {δ : Dl} {T : Pv.Did Pv.Table} (h : r (freeze δ) = (W9 T).bind fun y => .ok (y.1, kB y.2)) (hl : ∀ t, T = .ok t -> (PvCalls.flat t).length <= 1000) (he : ∀ z, T = .error z -> z = -3) : res (vx (qi qx (qc r qu)) δ) = vn (YN T PvCalls.table) := by
 cases e : T with
 | error z =>
  rw [e] at h
  have hz := he z e
  subst hz
  have q : qi qx (qc r qu) (freeze δ) = .er "StepNotFinite" := by
   unfold qi qc
   rw [h]
   rfl
  rw [Qs q]
  rfl
 | ok t =>
  rw [e] at h
  have hlt := hl t e
  have hsc : ((PvCalls.flat t).map fun (n : Nat) => D.int n).all D.sc = true := by
   rw [List.all_map, List.all_eq_true]
   intro x _
   rfl
  have hcall : qi qx (qc r qu) (freeze δ) = .ok (.lst (.int ((PvCalls.flat t).map fun (n : Nat) => D.int n).length :: (PvCalls.flat t).map fun (n : Nat) => D.int n), .fr) := (vE (qj (x := (.lst ((PvCalls.flat t).map fun (n : Nat) => D.int n), .fr)) h qR)).trans (by
   show (qx [.lst _]).bind _ = _
   rw [xM hsc (by rw [List.length_map]; show _ < 16777216; lia)]
   rfl)
  rw [Qu hcall]
  show Rs.ok _ = vn (.row _)
  rw [V0, List.length_map]
theorem Qx {T : Pv.Did Pv.Table} (hl : ∀ t, T = .ok t -> (PvCalls.flat t).length <= 1000) (he : ∀ z, T = .error z -> z = -3) {rows : List (Nat × List Nat)} : Few (PvCalls.given rows T PvCalls.table) := by
 refine QZ ?_
 cases e : T with
 | error z => exact .inr (.inr (.inl (he z e)))
 | ok t => exact hl t e
theorem QQ (o : Option Nat) : vq o = V2 (Pv.step o) := by cases o <;> rfl
noncomputable def YF : Pv.Did (List Nat) -> Rs (List DK)
 | .ok rs => .ok (rs.map fun (v : Nat) => (D.int v, Kd.nw))
 | .error _ => .er "StepNotFinite"
theorem xF {β : Type} {tg : Tg} {r : RE} {δ : Dl} {enc : β -> DK} {f : β -> Pv.Did Nat} : ∀ {l : List β}, (∀ b ∈ l, ∃ δ1, tg.put (enc b) δ = some δ1 /\ r δ1 = (V2 (f b)).bind fun y => .ok (y.1, kB y.2)) -> items tg QB r δ (l.map enc) = YF (l.mapM f)
 | [], _ => rfl
 | b :: l, h => by
  obtain ⟨δ1, e1, e2⟩ := h b (List.mem_cons_self)
  have ih := xF fun x hx => h x (List.mem_cons_of_mem _ hx)
  show (match tg.put (enc b) δ with | none => _ | some δ1 => _) = _
  rw [e1]
  dsimp only
  show (Rs.ok true).bind _ = _
  rw [Rs.wu, if_pos rfl, e2, ih, List.mapM_cons]
  cases f b with
  | error z => rfl
  | ok v =>
   cases l.mapM f with
   | error z => rfl
   | ok q => rfl
theorem xt (n : Nat) : ∀ m : Nat, List.range (m * n) = (List.range m).flatMap fun i => (List.range n).map fun j => n * i + j
 | 0 => by rw [Nat.zero_mul]; rfl
 | m + 1 => by
  rw [Nat.succ_mul, List.range_add, xt n m, List.range_succ, List.flatMap_append, List.flatMap_cons, List.flatMap_nil, List.append_nil, Nat.mul_comm m n]
noncomputable def j7 : Pv.Did Pv.Table -> Pv.Did (List Nat)
 | .ok t => .ok (PvCalls.flat t)
 | .error z => .error z
theorem Qi {β γ : Type} {f : γ -> Pv.Did Nat} {g : β -> List γ} : ∀ l : List β, (l.flatMap g).mapM f = j7 (l.mapM fun x => (g x).mapM f)
 | [] => rfl
 | x :: l => by
  rw [List.flatMap_cons, List.mapM_append, List.mapM_cons, Qi l]
  cases (g x).mapM f with
  | error z => rfl
  | ok v =>
   cases l.mapM (fun x => (g x).mapM f) with
   | error z => rfl
   | ok q => rfl
theorem ji {β : Type} {m n : Nat} {l : List β} (d : β) (hl : l.length = m * n) (f : β -> Pv.Did Nat) : l.mapM f = j7 (Pv.eachCell m n fun i j => f (l.getD (n * i + j) d)) := by
 conv => lhs; rw [QW l d, hl, xt n m, List.map_flatMap]
 rw [Qi]
 unfold Pv.eachCell
 have e : (fun x => (List.map (fun k => l.getD k d) (List.map (fun j => n * x + j) (List.range n))).mapM f) = fun i => (List.range n).mapM fun j => f (l.getD (n * i + j) d) := by
  funext i
  rw [List.map_map, List.mapM_map]
  rfl
 rw [e]
theorem jW {β : Type} {tg : Tg} {src : RI} {r : RE} {vs : List Nat} {δ : Dl} {b : Bool} {enc : β -> DK} {f : β -> Pv.Did Nat} {l : List β} {m n : Nat} {T : Pv.Did Pv.Table} (d : β) (hl : l.length = m * n) (h3 : l.length < LIM) (hsrc : src δ = .ok (b, l.map enc))
  (hi : ∀ b ∈ l, ∃ δ1, tg.put (enc b) (clear δ vs) = some δ1 /\ r δ1 = (V2 (f b)).bind fun y => .ok (y.1, kB y.2)) (hT : T = Pv.eachCell m n fun i j => f (l.getD (n * i + j) d)) : ja tg src QB r vs δ = (W9 T).bind fun y => .ok (y.1, kB y.2) := by
 unfold ja
 rw [hsrc, Rs.wu, if_pos (by rw [List.length_map]; exact h3), xF hi, ji d hl, <- hT]
 cases T with
 | error z => rfl
 | ok t =>
  show Rs.ok (D.lst (((PvCalls.flat t).map fun (v : Nat) => (D.int v, Kd.nw)).map (·.1)), kL (((PvCalls.flat t).map fun (v : Nat) => (D.int v, Kd.nw)).map (·.1)) _) = Rs.ok (D.lst ((PvCalls.flat t).map fun (n : Nat) => D.int n), Kd.fr)
  rw [List.map_map]
  rw [W2 (by rw [List.all_map, List.all_eq_true]; intro x _; rfl)]
  rfl
noncomputable def jZ : List Int -> List (List Int) -> PvCalls.Call
 | [m, n, x], [a] => .scaled m.toNat n.toNat x.toNat (nats a)
 | _, _ => .trace 0 []
noncomputable def qN : Fn := yp [false, false, false, true] jZ
noncomputable def vz : RS := (vu (zc (qi qv (qc (wM (qc (qb 0) (qc (qb 1) qu))) (qc (wM (qc (qb 3) qu)) (qc (wM (qc (qd uq (qb 0) (qb 1)) qu)) qu))))) (vu (zc (qi qo (qc (qd vR (wM (qc (qb 2) qu)) (qb 3)) qu))) (vx (qi qx (qc (ja (.one 4) (iOf (qb 3)) QB (qi vd (qc (qb 4) (qc (qb 2) qu))) [4]) qu)))))
theorem zd {M N : Nat} (h : M * N <= 1000) (a : Pv.Table) (x : Nat) : (∀ t, Pv.scaled M N a x = .ok t -> (PvCalls.flat t).length <= 1000) /\ ∀ z, Pv.scaled M N a x = .error z -> z = -3 :=
 ⟨fun t e => by rw [VS e]; exact h, fun z e => Vz (fun i j z q => Vf q) e⟩
theorem xb (m n x : Int) (a : List Int) (hm : U64 m) (hn : U64 n) (hx : U64 x) (ha : zz a) (la : a.length <= 300) :
  res (vz (sl0 ["m", "n", "x", "a", "y"] [.int m, .int n, .int x, .lst (a.map .int)])) = vn (PvCalls.answer (.scaled m.toNat n.toNat x.toNat (nats a))) := by
 rw [show sl0 ["m", "n", "x", "a", "y"] [.int m, .int n, .int x, .lst (a.map .int)] = [.val (.int m) false, .val (.int n) false, .val (.int x) false, .val (.lst (a.map .int)) false, .un] from rfl]
 generalize hδ : [Sl.val (.int m) false, Sl.val (.int n) false, Sl.val (.int x) false, Sl.val (.lst (a.map .int)) false, Sl.un] = δ
 have v0 : qb 0 δ = .ok (.int m, .sh) := by rw [<- hδ]; rfl
 have v1 : qb 1 δ = .ok (.int n, .sh) := by rw [<- hδ]; rfl
 have v2 : qb 2 δ = .ok (.int x, .sh) := by rw [<- hδ]; rfl
 have v3 : qb 3 δ = .ok (.lst (a.map .int), .sh) := by rw [<- hδ]; rfl
 have hfz : freeze δ = δ := by rw [<- hδ]; rfl
 have m1 : qd uq (qb 0) (qb 1) δ = .ok (.int (m * n), .nw) := (qf v0 v1).trans (uQ (jY hm) (jY hn))
 have hab : zz (x :: a) := fun y hy => (List.mem_cons.mp hy).elim (fun q => by rw [q]; exact hx) (ha y)
 have hE : qd vR (wM (qc (qb 2) qu)) (qb 3) δ = .ok (.lst ((x :: a).map .int), .fr) := by
  have z : wM (qc (qb 2) qu) δ = .ok (.lst [.int x], .fr) := yk (qj v2 qR) (Nat.le_of_ble_eq_true rfl)
  rw [qf z v3, Vp (by rw [List.length_map, List.length_singleton]; show _ <= 16777216; lia)]
  show Rs.ok (D.lst ((x :: a).map D.int), kL ((x :: a).map D.int) _) = _
  rw [W2 (yj _)]
 unfold vz
 rw [Zo (ss := [m, n]) (xss := [a.map .int]) (cs := [m * n]) (qj v0 (qj v1 qR)) (Nat.le_of_ble_eq_true rfl) rfl (qj v3 qR) (Nat.le_of_ble_eq_true rfl) rfl (qj m1 qR) (Nat.le_of_ble_eq_true rfl) rfl hE hab]
 refine checked (x := Pv.scaled m.toNat n.toNat (PvCalls.tableOf m.toNat n.toNat (nats a)) x.toNat) (f := PvCalls.table) (rows := [(m.toNat * n.toNat, nats a), (1, [x.toNat])]) ?_ ?_ ?_ rfl
 ·show _ ↔ (PvCalls.size m.toNat && PvCalls.size n.toNat) = true /\ ((_ == _) && ((_ == _) && true)) = true
  rw [Bool.and_eq_true, <- uy hm, <- uy hn, Bool.and_eq_true, Bool.and_true, beq_iff_eq, beq_iff_eq, <- Qv hm hn]
  simp
 ·rw [List.all_cons, List.all_cons, List.all_nil, Bool.and_true, Bool.and_eq_true, <- Vy ha]
  show _ ↔ _ /\ (Pv.isFinite x.toNat && true) = true
  rw [Bool.and_true, <- ue hx]
  exact ⟨fun h => ⟨fun y hy => h y (List.mem_cons_of_mem _ hy), h x (List.mem_cons_self)⟩, fun h y hy => (List.mem_cons.mp hy).elim (fun q => by rw [q]; exact h.2) (h.1 y)⟩
 ·intro hp _
  have h2 := hp.2
  have h1 := hp.1
  simp at h2 h1
  have ca : a.length = m.toNat * n.toNat := by have := (Qv (ns := a) hm hn).mp h2; rw [zm] at this; exact this
  have hMN : m.toNat * n.toNat <= 16 * 16 := Nat.mul_le_mul (by lia) (by lia)
  have hsrc : iOf (qb 3) δ = .ok (true, (nats a).map fun (v : Nat) => (D.int v, Kd.sh)) := (Zy v3).trans (by rw [QL ha, List.map_map]; rfl)
  have hcomp := jW (tg := .one 4) (vs := [4]) (r := qi vd (qc (qb 4) (qc (qb 2) qu))) (f := fun v => Pv.step (Pv.mul v x.toNat)) (m := m.toNat) (n := n.toNat) (T := Pv.scaled m.toNat n.toNat (PvCalls.tableOf m.toNat n.toNat (nats a)) x.toNat) 0 (by rw [zm]; exact ca) (by rw [zm]; show _ < 16777216; lia) hsrc (by
   intro v hv
   have hv64 := Wf ha v hv
   refine ⟨[.val (.int m) false, .val (.int n) false, .val (.int x) false, .val (.lst (a.map .int)) false, .val (.int v) true], by rw [<- hδ]; rfl, ?_⟩
   rw [vE (qj (x := (.int v, .nw)) rfl (qj (x := (.int x, .sh)) rfl qR))]
   show (vd [.int v, .int x]).bind _ = _
   rw [QD (Wj hv64) hx, Int.toNat_natCast, QQ]) (by
   unfold Pv.scaled PvCalls.tableOf
   exact jS fun i hi j hj => by rw [YO hi hj])
  exact Qw (by rw [hfz]; exact hcomp) (zd (by lia) _ _).1 (zd (by lia) _ _).2
theorem yM : Hr vz ["m", "n", "x", "a", "y"] 4 qN := Wt fun is ls h1 h2 g => by
 obtain ⟨m, n, x, rfl⟩ := Wy h1
 obtain ⟨a, rfl⟩ := xJ h2
 exact xb m n x a (g.1 m (by simp)) (g.1 n (by simp)) (g.1 x (by simp)) (g.2 a (by simp)).1 (g.2 a (by simp)).2
theorem jn (m n x : Nat) (a : List Nat) : Few (PvCalls.answer (.scaled m n x a)) := Yf fun g => by
 have g : (PvCalls.size m && PvCalls.size n) = true := g
 rw [Bool.and_eq_true] at g
 have h := zd (M := m) (N := n) (QF g.1 g.2) (PvCalls.tableOf m n a) x
 exact Qx h.1 h.2
theorem jC {m n x : Int} {a : List Int} (hm : U64 m) (hn : U64 n) (hx : U64 x) (ha : zz a) (la : a.length <= 300) :
  u7 LL (qN [.int m, .int n, .int x, .lst (a.map .int)]) = some ((PyYqpvta.scaled m n x a).map D.int) /\ ((PyYqpvta.scaled m n x a).map D.int).length <= LIM := by
 refine VV (sh := [false, false, false, true]) (F := jZ) (is := [m, n, x]) (ls := [a]) (c := [[4, m, n, x], a]) rfl rfl ⟨by intro i hi; simp at hi; rcases hi with rfl | rfl | rfl <;> assumption, by intro l hl; simp at hl; subst hl; exact ⟨ha, la⟩⟩ ?_ (jn _ _ _ _)
 have q : TableNeutral.callOf [[4, m, n, x], a] = (do some (.scaled (<- TableNeutral.nat m) (<- TableNeutral.nat n) (<- TableNeutral.nat x) (<- a.mapM TableNeutral.nat))) := rfl
 rw [q, zB hm, zB hn, zB hx, uF ha]
 rfl
end Dt
set_option maxHeartbeats 4000000
set_option maxHeartbeats 2000000
set_option maxHeartbeats 4000000
namespace L2.Ir
open PySem PySem.Spec PyProof.Rows
section
variable {P : Program} {w : World} {K : PySem.W.Frag} {mg : Str -> Option Value} {base : Heap}
noncomputable abbrev ZP (P : Program) (w : World) (K : PySem.W.Frag) (mg : Str -> Option Value) (base : Heap) (k : Nat) (N : List Str) (q : Str) (st : Stmt) (f : Addr) (t : XK -> TS) : Prop := ∀ (cdv : Value) (A : Around) (outer : List Env) (s : Shared) (H : Hp) (E : XK), vC k (A.deeper (envOfC q (qa st) s.heap.objs.size f cdv)) -> N.Nodup -> Gd (xZ P w K mg base N q (qa st) f cdv A outer s H E) E -> PSs (xZ P w K mg base N q (qa st) f cdv A outer s H E) (qp st) (t E)
theorem fd2 {x : Str} {st : Stmt} {f : Addr} {fd : FuncData} {N ps : List Str} {k n : Nat} {g : Fn} {r : RS} (F : Fun K x x st f fd) (S : qB N ps (qa st)) (hm : mg x = some (.ref f)) (hb : Binds K fd ps []) (hn : ps.length = n) (body : ZP P w K mg base k N x st f fun E => tS mg K E r)
  (hr : ∀ ds : List D, ds.length = n -> g ds = .no \/ res (r (sl0 N ds)) = g ds) : Fd P w K mg base (k + 1) x n g := YM F S hm hb hn (fun cdv A outer s H E h => body cdv A outer s H E h S.nd (Wk S.nd)) hr
end
end L2.Ir
namespace Lw
open PySem.W (nsIn codeIn keepIn fnOf mg_of mg_none_of nsOkIn findIn makesIn isFn plainGet hasDictIn plainOver tabIn Frag)
open PySem PySem.Spec PyProof.Rows L2 L2.Ir Dt 
noncomputable def top (i : Nat) : Stmt := PySem.Challenge.pw_doubletables_s04_scaled.main.body.getD i (.Pass ⟨0, 0, 0, 0⟩)
theorem xJ {α : Type} {p : List α -> Prop} (h : ∀ a0, p [a0]) : ∀ us, us.length = 1 -> p us
 | [_], _ => h _
theorem YB {α : Type} {p : List α -> Prop} (h : ∀ a0 a1, p [a0, a1]) : ∀ us, us.length = 2 -> p us
 | [_, _], _ => h _ _
theorem Wy {α : Type} {p : List α -> Prop} (h : ∀ a0 a1 a2, p [a0, a1, a2]) : ∀ us, us.length = 3 -> p us
 | [_, _, _], _ => h _ _ _
theorem Zu {α : Type} {p : List α -> Prop} (h : ∀ a0 a1 a2 a3, p [a0, a1, a2, a3]) : ∀ us, us.length = 4 -> p us
 | [_, _, _, _], _ => h _ _ _ _
theorem zH {N P : List Str} {sc : Scope} (a : sc.kind = .function) (b : sc.isCoroutine = false) (c : sc.isGenerator = false) (d : N.take P.length = P) (h : N.Nodup /\ (∀ x ∈ P, sc.names.lookup x = some .local \/ sc.names.lookup x = some .cell) /\ ∀ y ∈ sc.names, y.2 ≠ .free) : qB N P sc := ⟨a, b, c, h.1, d, h.2.1, h.2.2⟩
section
variable {P : Program} {w : World} {K : Frag} {mg : Str -> Option Value} {base : Heap}
theorem jF : qB ["x"] ["x"] (qa (top 6)) := zH rfl rfl rfl rfl (by decide +kernel)
theorem jl {f : Addr} {fd : FuncData} (F : Fun K "sign_of" "sign_of" (top 6) f fd) (hm : mg "sign_of" = some (.ref f)) (hb : Binds K fd ["x"] [])  : Fd P w K mg base 1 "sign_of" 1 Dt.qX :=
 fd2 (r := Dt.wY) F jF hm hb rfl (fun _ _ _ _ _ _ hr nd G => (qA (vI (qm jB jz (xv 0) qQ)))) Dt.jH
theorem jy : qB ["x"] ["x"] (qa (top 7)) := zH rfl rfl rfl rfl (by decide +kernel)
theorem je {f : Addr} {fd : FuncData} (F : Fun K "size_of" "size_of" (top 7) f fd) (hm : mg "size_of" = some (.ref f)) (hb : Binds K fd ["x"] []) (c_SIGN_BIT : ∃ t, mg "SIGN_BIT" = some (.int 9223372036854775808 t)) : Fd P w K mg base 1 "size_of" 1 Dt.qC :=
 fd2 (r := Dt.wX) F jy hm hb rfl (fun _ _ _ _ _ _ hr nd G => (qA (vI (qm Vc (jG _) (xv 0) (qm wB wz (qZ rfl c_SIGN_BIT) qQ))))) Dt.jE
theorem uo : qB ["x"] ["x"] (qa (top 8)) := zH rfl rfl rfl rfl (by decide +kernel)
theorem xT {f : Addr} {fd : FuncData} (F : Fun K "is_finite" "is_finite" (top 8) f fd) (hm : mg "is_finite" = some (.ref f)) (hb : Binds K fd ["x"] []) (c_INFINITE : ∃ t, mg "INFINITE" = some (.int 9218868437227405312 t)) (f_size_of : Fd P w K mg base 1 "size_of" 1 Dt.qC) : Fd P w K mg base 2 "is_finite" 1 Dt.qU :=
 fd2 (r := Dt.vY) F uo hm hb rfl (fun _ _ _ _ _ _ hr nd G => (qA (vI (ZL Za (zJ _) (vP _) (qL G.acc f_size_of (hr.mono (by decide)) rfl (.cons (.nil)) (qg (xv 0) qI)) (qZ rfl c_INFINITE))))) Dt.xI
theorem ur : qB ["x", "fraction"] ["x"] (qa (top 9)) := zH rfl rfl rfl rfl (by decide +kernel)
theorem uJ {f : Addr} {fd : FuncData} (F : Fun K "whole_of" "whole_of" (top 9) f fd) (hm : mg "whole_of" = some (.ref f)) (hb : Binds K fd ["x"] []) (c_FRACTION_BITS : ∃ t, mg "FRACTION_BITS" = some (.int 52 t)) (f_size_of : Fd P w K mg base 1 "size_of" 1 Dt.qC) : Fd P w K mg base 2 "whole_of" 1 Dt.qO :=
 fd2 (r := Dt.wA) F ur hm hb rfl (fun _ _ _ _ _ _ hr nd G => (qJ (jf 1 G (qm Vc (jG _) (xv 0) (qm wB wz (qm v7 wN qQ (qZ rfl c_FRACTION_BITS)) qQ))) (qJ (zT (wa (xX hr.units) j6 (vP _) (qL G.acc f_size_of (hr.mono (by decide)) rfl (.cons (.nil)) (qg (xv 0) qI)) (xv 1)) (qA (Yv 1)) v9) (qA (vI (qm vL wt (xv 1) (qm v7 wN qQ (qZ rfl c_FRACTION_BITS)))))))) Dt.uY
theorem uz : qB ["x"] ["x"] (qa (top 10)) := zH rfl rfl rfl rfl (by decide +kernel)
theorem uu {f : Addr} {fd : FuncData} (F : Fun K "power_of" "power_of" (top 10) f fd) (hm : mg "power_of" = some (.ref f)) (hb : Binds K fd ["x"] []) (c_FRACTION_BITS : ∃ t, mg "FRACTION_BITS" = some (.int 52 t)) (c_LEAST_POWER : ∃ t, mg "LEAST_POWER" = some (.int (-1074) t)) (n_max : mg "max" = none) (f_size_of : Fd P w K mg base 1 "size_of" 1 Dt.qC) : Fd P w K mg base 2 "power_of" 1 Dt.qP :=
 fd2 (r := Dt.wy) F uz hm hb rfl (fun _ _ _ _ _ _ hr nd G => (qA (vI (qm vL wt (qm wB wz (ud (zE (xw rfl) rfl n_max xk (qg (qm jB jz (qL G.acc f_size_of (hr.mono (by decide)) rfl (.cons (.nil)) (qg (xv 0) qI)) (qZ rfl c_FRACTION_BITS)) (qg qQ qI))) VW) qQ) (qZ rfl c_LEAST_POWER))))) Dt.uK
theorem zI : qB ["whole", "drop", "kept", "left", "half"] ["whole", "drop"] (qa (top 11)) := zH rfl rfl rfl rfl (by decide +kernel)
theorem zN {f : Addr} {fd : FuncData} (F : Fun K "nearest_whole" "nearest_whole" (top 11) f fd) (hm : mg "nearest_whole" = some (.ref f)) (hb : Binds K fd ["whole", "drop"] [])  : Fd P w K mg base 1 "nearest_whole" 2 Dt.qD :=
 fd2 (r := Dt.q0) F zI hm hb rfl (fun _ _ _ _ _ _ hr nd G => (qJ (zT (wa YQ (zJ _) (vP _) (xv 1) qQ) (qA (vI (qm v7 wN (xv 0) (Ym (xv 1))))) v9) (qJ (jf 2 G (qm jB jz (xv 0) (xv 1))) (qJ (jf 3 G (qm wB wz (xv 0) (qm v7 wN (xv 2) (xv 1)))) (qJ (jf 4 G (qm v7 wN qQ (qm wB wz (xv 1) qQ))) (qJ (zT (um (Zf (wa Ze (zJ _) (vP _) (xv 3) (xv 4)) (VO (um (Z7 (wa (xX hr.units) j6 (vP _) (xv 3) (xv 4)) (WN (wa (xX hr.units) j6 (vP _) (qm Yi ZY (xv 2) qQ) qQ))))))) (qA (vI (qm vL wt (xv 2) qQ))) v9) (qA (Yv 2)))))))) Dt.zL
theorem jo : qB ["sign", "whole", "power", "drop", "kept", "size"] ["sign", "whole", "power"] (qa (top 12)) := zH rfl rfl rfl rfl (by decide +kernel)
theorem jr {f : Addr} {fd : FuncData} (F : Fun K "rounded" "rounded" (top 12) f fd) (hm : mg "rounded" = some (.ref f)) (hb : Binds K fd ["sign", "whole", "power"] []) {C_StepNotFinite : Addr} (c_FRACTION_BITS : ∃ t, mg "FRACTION_BITS" = some (.int 52 t)) (c_INFINITE : ∃ t, mg "INFINITE" = some (.int 9218868437227405312 t)) (c_LEAST_POWER : ∃ t, mg "LEAST_POWER" = some (.int (-1074) t)) (n_max : mg "max" = none) (m_StepNotFinite : mg "StepNotFinite" = some (.ref C_StepNotFinite)) (x_StepNotFinite : qF K C_StepNotFinite = true) (f_nearest_whole : Fd P w K mg base 1 "nearest_whole" 2 Dt.qD) : Fd P w K mg base 2 "rounded" 3 Dt.vf :=
 fd2 (r := Dt.za) F jo hm hb rfl (fun _ _ _ _ _ _ hr nd G => (qJ (zT (wa (xX hr.units) j6 (vP _) (xv 1) qQ) (qA (vI (qm v7 wN (xv 0) qQ))) v9) (qJ (jf 3 G (ud (zE (xw rfl) rfl n_max xk (qg (qm wB wz (qm wB wz (Ws (ZJ PySem.F.plainAttrs_int PySem.F.slot_int_bit_length PySem.F.type_int_bit_length WW (xv 1))) (qZ rfl c_FRACTION_BITS)) qQ) (qg (qm wB wz (qZ rfl c_LEAST_POWER) (xv 2)) qI))) VW)) (qJ (jf 4 G (qL G.acc f_nearest_whole (hr.mono (by decide)) rfl (.cons (.cons (.nil))) (qg (xv 1) (qg (xv 3) qI)))) (qJ (jf 5 G (qm vL wt (qm v7 wN (qm wB wz (qm vL wt (xv 2) (xv 3)) (qZ rfl c_LEAST_POWER)) (qZ rfl c_FRACTION_BITS)) (xv 4))) (qJ (zT (wa YG (zJ _) (vP _) (xv 5) (qZ rfl c_INFINITE)) (qA (zo G rfl m_StepNotFinite x_StepNotFinite)) v9) (qA (vI (qm vL wt (qm v7 wN (xv 0) qQ) (xv 5)))))))))) Dt.jt
theorem jK : qB ["x", "y"] ["x", "y"] (qa (top 13)) := zH rfl rfl rfl rfl (by decide +kernel)
theorem jq {f : Addr} {fd : FuncData} (F : Fun K "product" "product" (top 13) f fd) (hm : mg "product" = some (.ref f)) (hb : Binds K fd ["x", "y"] []) (f_power_of : Fd P w K mg base 2 "power_of" 1 Dt.qP) (f_rounded : Fd P w K mg base 2 "rounded" 3 Dt.vf) (f_sign_of : Fd P w K mg base 1 "sign_of" 1 Dt.qX) (f_whole_of : Fd P w K mg base 2 "whole_of" 1 Dt.qO) : Fd P w K mg base 3 "product" 2 Dt.vd :=
 fd2 (r := Dt.wZ) F jK hm hb rfl (fun _ _ _ _ _ _ hr nd G => (qA (vI (qL G.acc f_rounded (hr.mono (by decide)) rfl (.cons (.cons (.cons (.nil)))) (qg (qm Z5 (jG _) (qL G.acc f_sign_of (hr.mono (by decide)) rfl (.cons (.nil)) (qg (xv 0) qI)) (qL G.acc f_sign_of (hr.mono (by decide)) rfl (.cons (.nil)) (qg (xv 1) qI))) (qg (qm (j4.or Vb) Q9 (qL G.acc f_whole_of (hr.mono (by decide)) rfl (.cons (.nil)) (qg (xv 0) qI)) (qL G.acc f_whole_of (hr.mono (by decide)) rfl (.cons (.nil)) (qg (xv 1) qI))) (qg (qm vL wt (qL G.acc f_power_of (hr.mono (by decide)) rfl (.cons (.nil)) (qg (xv 0) qI)) (qL G.acc f_power_of (hr.mono (by decide)) rfl (.cons (.nil)) (qg (xv 1) qI))) qI))))))) Dt.ju
theorem zX : qB ["sizes", "lists", "counts", "size", "numbers", "count"] ["sizes", "lists", "counts"] (qa (top 20)) := zH rfl rfl rfl rfl (by decide +kernel)
theorem z5 {f : Addr} {fd : FuncData} (F : Fun K "check_counts" "check_counts" (top 20) f fd) (hm : mg "check_counts" = some (.ref f)) (hb : Binds K fd ["sizes", "lists", "counts"] []) {C_WrongCount : Addr} (c_GREATEST_SIZE : ∃ t, mg "GREATEST_SIZE" = some (.int 16 t)) (n_len : mg "len" = none) (n_zip : mg "zip" = none) (m_WrongCount : mg "WrongCount" = some (.ref C_WrongCount)) (x_WrongCount : qF K C_WrongCount = true) : Fd P w K mg base 1 "check_counts" 3 Dt.qv :=
 fd2 (r := Dt.vj) F zX hm hb rfl (fun _ _ _ _ _ _ hr nd G => (qJ (Qk G (ug (i := 3) (xv 0)) (pgn 3 nd) (qA (zT (um (Zf (wa Za (zJ _) (vP _) (xv 3) qQ) (VO (wa Ze (zJ _) (vP _) (xv 3) (qZ rfl c_GREATEST_SIZE))))) (qA (zo G rfl m_WrongCount x_WrongCount)) v9))) (qA (Vd G (Zv (i := 4) (j := 5) rfl n_zip (xv 1) (xv 2)) (pg2 rfl (pgn 4 nd) (pgn 5 nd)) (qA (zT (wa (ZD hr.units) Yy (vP _) (ud (zE zt rfl n_len xn (qg (xv 4) qI)) Vm) (xv 5)) (qA (zo G rfl m_WrongCount x_WrongCount)) v9)))))) Dt.z7
theorem z6 : qB ["numbers", "x"] ["numbers"] (qa (top 21)) := zH rfl rfl rfl rfl (by decide +kernel)
theorem z4 {f : Addr} {fd : FuncData} (F : Fun K "check_finite" "check_finite" (top 21) f fd) (hm : mg "check_finite" = some (.ref f)) (hb : Binds K fd ["numbers"] []) {C_NotFinite : Addr} (m_NotFinite : mg "NotFinite" = some (.ref C_NotFinite)) (x_NotFinite : qF K C_NotFinite = true) (f_is_finite : Fd P w K mg base 2 "is_finite" 1 Dt.qU) : Fd P w K mg base 3 "check_finite" 1 Dt.qo :=
 fd2 (r := Dt.vo) F z6 hm hb rfl (fun _ _ _ _ _ _ hr nd G => (qA (Qk G (ug (i := 1) (xv 0)) (pgn 1 nd) (qA (zT (Yn (Z3 (qL G.acc f_is_finite (hr.mono (by decide)) rfl (.cons (.nil)) (qg (xv 1) qI)))) (qA (zo G rfl m_NotFinite x_NotFinite)) v9))))) Dt.zY
theorem xj : qB ["numbers"] ["numbers"] (qa (top 23)) := zH rfl rfl rfl rfl (by decide +kernel)
theorem y9 {f : Addr} {fd : FuncData} (F : Fun K "with_count" "with_count" (top 23) f fd) (hm : mg "with_count" = some (.ref f)) (hb : Binds K fd ["numbers"] []) (n_len : mg "len" = none) : Fd P w K mg base 1 "with_count" 1 Dt.qx :=
 fd2 (r := Dt.zw) F xj hm hb rfl (fun _ _ _ _ _ _ hr nd G => (qA (vI (qm vL wt (yF (qg (ud (zE zt rfl n_len xn (qg (xv 0) qI)) Vm) qI)) (xv 0))))) Dt.xa
theorem yx : qB ["m", "n", "x", "a", "y"] ["m", "n", "x", "a"] (qa (top 24)) := zH rfl rfl rfl rfl (by decide +kernel)
theorem yq {f : Addr} {fd : FuncData} (F : Fun K "scaled_told" "scaled_told" (top 24) f fd) (hm : mg "scaled_told" = some (.ref f)) (hb : Binds K fd ["m", "n", "x", "a"] []) (f_check_counts : Fd P w K mg base 1 "check_counts" 3 Dt.qv) (f_check_finite : Fd P w K mg base 3 "check_finite" 1 Dt.qo) (f_product : Fd P w K mg base 3 "product" 2 Dt.vd) (f_with_count : Fd P w K mg base 1 "with_count" 1 Dt.qx) : Fd P w K mg base 4 "scaled_told" 4 Dt.qN :=
 fd2 (r := Dt.vz) F yx hm hb rfl (fun _ _ _ _ _ _ hr nd G => (qJ (Qn (qL G.acc f_check_counts (hr.mono (by decide)) rfl (.cons (.cons (.cons (.nil)))) (qg (yF (qg (xv 0) (qg (xv 1) qI))) (qg (yF (qg (xv 3) qI)) (qg (yF (qg (qm (j4.or Vb) Q9 (xv 0) (xv 1)) qI)) qI))))) (qJ (Qn (qL G.acc f_check_finite (hr.mono (by decide)) rfl (.cons (.nil)) (qg (qm vL wt (yF (qg (xv 2) qI)) (xv 3)) qI))) (qA (vI (qL G.acc f_with_count (hr.mono (by decide)) rfl (.cons (.nil)) (qg (WA (hc := rfl) (hN := nd) (acc := G.acc) (hst := rfl) (hfr := rfl) (hi := (ug (i := 4) (xv 3))) (own := [("y", 4)]) (ok := by show WL ["m", "n", "x", "a", "y"] (qa (top 24)) _ _ = true; decide +kernel) (hv := by simp [Tg.within]) (hg := fun s H C cl fp => (pgn 4 nd)) (ht := fun s H C cl fp => VN) (he := fun s H C cl fp => (qL yK f_product (hr.mono (by decide)) rfl (.cons (.cons (.nil))) (qg (xv 4) (qg (xv 2) qI))))) qI))))))) Dt.yM
end
theorem uZ : qB ["work", "told"] ["work"] (qa (top 19)) := zH rfl rfl rfl rfl (by decide +kernel)
theorem QK : qB ["m", "n", "x", "a"] ["m", "n", "x", "a"] (qa (top 25)) := zH rfl rfl rfl rfl (by decide +kernel)
noncomputable def Xf : Scope := match qp (top 25) with
 | [.Return (some (.Call _ (.Lambda _ _ ls _ :: _) _ _)) _] => ls
 | _ => qa (top 25)
theorem Q8 : zC (qa (top 25)) Xf := ⟨rfl, rfl, rfl, by decide +kernel, by decide +kernel, by decide +kernel⟩
theorem all_mk {P : Program} {w : World} {K : Frag} {h : Heap} {mg : Str -> Option Value} {fa c PT : Addr} (X : K.In h) (G : h.Ns mainGlobals mg) (hfa : mg "scaled" = some (.ref fa))
  {f_x0 : Addr} {oc_x0 kV_x0 dc_x0 pm_x0 cd_x0 ct_x0 : Value} {od_x0 an_x0 : Option Addr} {sl_x0 : Array (Option Value)}
  {f_x1 : Addr} {oc_x1 kV_x1 dc_x1 pm_x1 cd_x1 ct_x1 : Value} {od_x1 an_x1 : Option Addr} {sl_x1 : Array (Option Value)}
  {f_x2 : Addr} {oc_x2 kV_x2 dc_x2 pm_x2 cd_x2 ct_x2 : Value} {od_x2 an_x2 : Option Addr} {sl_x2 : Array (Option Value)}
  {f_x3 : Addr} {oc_x3 kV_x3 dc_x3 pm_x3 cd_x3 ct_x3 : Value} {od_x3 an_x3 : Option Addr} {sl_x3 : Array (Option Value)}
  {f_x4 : Addr} {oc_x4 kV_x4 dc_x4 pm_x4 cd_x4 ct_x4 : Value} {od_x4 an_x4 : Option Addr} {sl_x4 : Array (Option Value)}
  {f_x5 : Addr} {oc_x5 kV_x5 dc_x5 pm_x5 cd_x5 ct_x5 : Value} {od_x5 an_x5 : Option Addr} {sl_x5 : Array (Option Value)}
  {f_x6 : Addr} {oc_x6 kV_x6 dc_x6 pm_x6 cd_x6 ct_x6 : Value} {od_x6 an_x6 : Option Addr} {sl_x6 : Array (Option Value)}
  {f_x7 : Addr} {oc_x7 kV_x7 dc_x7 pm_x7 cd_x7 ct_x7 : Value} {od_x7 an_x7 : Option Addr} {sl_x7 : Array (Option Value)}
  {f_x8 : Addr} {oc_x8 kV_x8 dc_x8 pm_x8 cd_x8 ct_x8 : Value} {od_x8 an_x8 : Option Addr} {sl_x8 : Array (Option Value)}
  {f_x9 : Addr} {oc_x9 kV_x9 dc_x9 pm_x9 cd_x9 ct_x9 : Value} {od_x9 an_x9 : Option Addr} {sl_x9 : Array (Option Value)}
  {f_x10 : Addr} {oc_x10 kV_x10 dc_x10 pm_x10 cd_x10 ct_x10 : Value} {od_x10 an_x10 : Option Addr} {sl_x10 : Array (Option Value)}
  {f_x11 : Addr} {oc_x11 kV_x11 dc_x11 pm_x11 cd_x11 ct_x11 : Value} {od_x11 an_x11 : Option Addr} {sl_x11 : Array (Option Value)}
  {f_x12 : Addr} {oc_x12 kV_x12 dc_x12 pm_x12 cd_x12 ct_x12 : Value} {od_x12 an_x12 : Option Addr} {sl_x12 : Array (Option Value)}
  {f_x13 : Addr} {oc_x13 kV_x13 dc_x13 pm_x13 cd_x13 ct_x13 : Value} {od_x13 an_x13 : Option Addr} {sl_x13 : Array (Option Value)}
  {C_WrongCount C_NotFinite C_StepNotFinite C_NotAsTold : Addr}
  {t_FRACTION_BITS : _}
  {t_GREATEST_SIZE : _}
  {t_INFINITE : _}
  {t_LEAST_POWER : _}
  {t_SIGN_BIT : _}
  {N_WrongCount : Addr} {nm_WrongCount qn_WrongCount bs_WrongCount hdct_WrongCount sn_WrongCount sub_WrongCount ab_WrongCount col_WrongCount dd_WrongCount k0_WrongCount k1_WrongCount k2_WrongCount k3_WrongCount k5_WrongCount : _}
  {N_NotFinite : Addr} {nm_NotFinite qn_NotFinite bs_NotFinite hdct_NotFinite sn_NotFinite sub_NotFinite ab_NotFinite col_NotFinite dd_NotFinite k0_NotFinite k1_NotFinite k2_NotFinite k3_NotFinite k5_NotFinite : _}
  {N_StepNotFinite : Addr} {nm_StepNotFinite qn_StepNotFinite bs_StepNotFinite hdct_StepNotFinite sn_StepNotFinite sub_StepNotFinite ab_StepNotFinite col_StepNotFinite dd_StepNotFinite k0_StepNotFinite k1_StepNotFinite k2_StepNotFinite k3_StepNotFinite k5_StepNotFinite : _}
  {N_NotAsTold : Addr} {nm_NotAsTold qn_NotAsTold bs_NotAsTold hdct_NotAsTold sn_NotAsTold sub_NotAsTold ab_NotAsTold col_NotAsTold dd_NotAsTold k0_NotAsTold k1_NotAsTold k2_NotAsTold k3_NotAsTold k5_NotAsTold : _}
  (a_x0 : nsIn K mainGlobals "sign_of" = some (some (.ref f_x0))) (l_x0 : K.lookup f_x0 = some ⟨oc_x0, od_x0, .func (fnOf "sign_of" "sign_of" (qG (top 6)) (qp (top 6)) (qa (top 6)) .none kV_x0 dc_x0 pm_x0 an_x0 cd_x0 ct_x0), sl_x0⟩) (c_x0 : codeIn K cd_x0 "sign_of" = true) (k_x0 : keepIn K (.ref f_x0) = true)
  (a_x1 : nsIn K mainGlobals "size_of" = some (some (.ref f_x1))) (l_x1 : K.lookup f_x1 = some ⟨oc_x1, od_x1, .func (fnOf "size_of" "size_of" (qG (top 7)) (qp (top 7)) (qa (top 7)) .none kV_x1 dc_x1 pm_x1 an_x1 cd_x1 ct_x1), sl_x1⟩) (c_x1 : codeIn K cd_x1 "size_of" = true) (k_x1 : keepIn K (.ref f_x1) = true)
  (a_x2 : nsIn K mainGlobals "is_finite" = some (some (.ref f_x2))) (l_x2 : K.lookup f_x2 = some ⟨oc_x2, od_x2, .func (fnOf "is_finite" "is_finite" (qG (top 8)) (qp (top 8)) (qa (top 8)) .none kV_x2 dc_x2 pm_x2 an_x2 cd_x2 ct_x2), sl_x2⟩) (c_x2 : codeIn K cd_x2 "is_finite" = true) (k_x2 : keepIn K (.ref f_x2) = true)
  (a_x3 : nsIn K mainGlobals "whole_of" = some (some (.ref f_x3))) (l_x3 : K.lookup f_x3 = some ⟨oc_x3, od_x3, .func (fnOf "whole_of" "whole_of" (qG (top 9)) (qp (top 9)) (qa (top 9)) .none kV_x3 dc_x3 pm_x3 an_x3 cd_x3 ct_x3), sl_x3⟩) (c_x3 : codeIn K cd_x3 "whole_of" = true) (k_x3 : keepIn K (.ref f_x3) = true)
  (a_x4 : nsIn K mainGlobals "power_of" = some (some (.ref f_x4))) (l_x4 : K.lookup f_x4 = some ⟨oc_x4, od_x4, .func (fnOf "power_of" "power_of" (qG (top 10)) (qp (top 10)) (qa (top 10)) .none kV_x4 dc_x4 pm_x4 an_x4 cd_x4 ct_x4), sl_x4⟩) (c_x4 : codeIn K cd_x4 "power_of" = true) (k_x4 : keepIn K (.ref f_x4) = true)
  (a_x5 : nsIn K mainGlobals "nearest_whole" = some (some (.ref f_x5))) (l_x5 : K.lookup f_x5 = some ⟨oc_x5, od_x5, .func (fnOf "nearest_whole" "nearest_whole" (qG (top 11)) (qp (top 11)) (qa (top 11)) .none kV_x5 dc_x5 pm_x5 an_x5 cd_x5 ct_x5), sl_x5⟩) (c_x5 : codeIn K cd_x5 "nearest_whole" = true) (k_x5 : keepIn K (.ref f_x5) = true)
  (a_x6 : nsIn K mainGlobals "rounded" = some (some (.ref f_x6))) (l_x6 : K.lookup f_x6 = some ⟨oc_x6, od_x6, .func (fnOf "rounded" "rounded" (qG (top 12)) (qp (top 12)) (qa (top 12)) .none kV_x6 dc_x6 pm_x6 an_x6 cd_x6 ct_x6), sl_x6⟩) (c_x6 : codeIn K cd_x6 "rounded" = true) (k_x6 : keepIn K (.ref f_x6) = true)
  (a_x7 : nsIn K mainGlobals "product" = some (some (.ref f_x7))) (l_x7 : K.lookup f_x7 = some ⟨oc_x7, od_x7, .func (fnOf "product" "product" (qG (top 13)) (qp (top 13)) (qa (top 13)) .none kV_x7 dc_x7 pm_x7 an_x7 cd_x7 ct_x7), sl_x7⟩) (c_x7 : codeIn K cd_x7 "product" = true) (k_x7 : keepIn K (.ref f_x7) = true)
  (a_x8 : nsIn K mainGlobals "check_counts" = some (some (.ref f_x8))) (l_x8 : K.lookup f_x8 = some ⟨oc_x8, od_x8, .func (fnOf "check_counts" "check_counts" (qG (top 20)) (qp (top 20)) (qa (top 20)) .none kV_x8 dc_x8 pm_x8 an_x8 cd_x8 ct_x8), sl_x8⟩) (c_x8 : codeIn K cd_x8 "check_counts" = true) (k_x8 : keepIn K (.ref f_x8) = true)
  (a_x9 : nsIn K mainGlobals "check_finite" = some (some (.ref f_x9))) (l_x9 : K.lookup f_x9 = some ⟨oc_x9, od_x9, .func (fnOf "check_finite" "check_finite" (qG (top 21)) (qp (top 21)) (qa (top 21)) .none kV_x9 dc_x9 pm_x9 an_x9 cd_x9 ct_x9), sl_x9⟩) (c_x9 : codeIn K cd_x9 "check_finite" = true) (k_x9 : keepIn K (.ref f_x9) = true)
  (a_x10 : nsIn K mainGlobals "with_count" = some (some (.ref f_x10))) (l_x10 : K.lookup f_x10 = some ⟨oc_x10, od_x10, .func (fnOf "with_count" "with_count" (qG (top 23)) (qp (top 23)) (qa (top 23)) .none kV_x10 dc_x10 pm_x10 an_x10 cd_x10 ct_x10), sl_x10⟩) (c_x10 : codeIn K cd_x10 "with_count" = true) (k_x10 : keepIn K (.ref f_x10) = true)
  (a_x11 : nsIn K mainGlobals "scaled_told" = some (some (.ref f_x11))) (l_x11 : K.lookup f_x11 = some ⟨oc_x11, od_x11, .func (fnOf "scaled_told" "scaled_told" (qG (top 24)) (qp (top 24)) (qa (top 24)) .none kV_x11 dc_x11 pm_x11 an_x11 cd_x11 ct_x11), sl_x11⟩) (c_x11 : codeIn K cd_x11 "scaled_told" = true) (k_x11 : keepIn K (.ref f_x11) = true)
  (a_x12 : nsIn K mainGlobals "answered" = some (some (.ref f_x12))) (l_x12 : K.lookup f_x12 = some ⟨oc_x12, od_x12, .func (fnOf "answered" "answered" (qG (top 19)) (qp (top 19)) (qa (top 19)) .none kV_x12 dc_x12 pm_x12 an_x12 cd_x12 ct_x12), sl_x12⟩) (c_x12 : codeIn K cd_x12 "answered" = true) (k_x12 : keepIn K (.ref f_x12) = true)
  (a_x13 : nsIn K mainGlobals "scaled" = some (some (.ref f_x13))) (l_x13 : K.lookup f_x13 = some ⟨oc_x13, od_x13, .func (fnOf "scaled" "scaled" (qG (top 25)) (qp (top 25)) (qa (top 25)) .none kV_x13 dc_x13 pm_x13 an_x13 cd_x13 ct_x13), sl_x13⟩) (c_x13 : codeIn K cd_x13 "scaled" = true) (k_x13 : keepIn K (.ref f_x13) = true)
  (s_FRACTION_BITS : nsIn K mainGlobals "FRACTION_BITS" = some (some (.int (52) t_FRACTION_BITS)))
  (s_GREATEST_SIZE : nsIn K mainGlobals "GREATEST_SIZE" = some (some (.int (16) t_GREATEST_SIZE)))
  (s_INFINITE : nsIn K mainGlobals "INFINITE" = some (some (.int (9218868437227405312) t_INFINITE)))
  (s_LEAST_POWER : nsIn K mainGlobals "LEAST_POWER" = some (some (.int (-1074) t_LEAST_POWER)))
  (s_SIGN_BIT : nsIn K mainGlobals "SIGN_BIT" = some (some (.int (9223372036854775808) t_SIGN_BIT)))
  (q_WrongCount : nsIn K mainGlobals "WrongCount" = some (some (.ref C_WrongCount))) (j_WrongCount : K.lookup C_WrongCount = some (excClassObj nm_WrongCount qn_WrongCount C_WrongCount N_WrongCount bs_WrongCount vk hdct_WrongCount sn_WrongCount sub_WrongCount ab_WrongCount col_WrongCount dd_WrongCount k0_WrongCount k1_WrongCount k2_WrongCount k3_WrongCount k5_WrongCount wc)) (u_WrongCount : nsOkIn K N_WrongCount = true) (v_WrongCount : nsIn K N_WrongCount "__init__" = some none)
  (q_NotFinite : nsIn K mainGlobals "NotFinite" = some (some (.ref C_NotFinite))) (j_NotFinite : K.lookup C_NotFinite = some (excClassObj nm_NotFinite qn_NotFinite C_NotFinite N_NotFinite bs_NotFinite vk hdct_NotFinite sn_NotFinite sub_NotFinite ab_NotFinite col_NotFinite dd_NotFinite k0_NotFinite k1_NotFinite k2_NotFinite k3_NotFinite k5_NotFinite wc)) (u_NotFinite : nsOkIn K N_NotFinite = true) (v_NotFinite : nsIn K N_NotFinite "__init__" = some none)
  (q_StepNotFinite : nsIn K mainGlobals "StepNotFinite" = some (some (.ref C_StepNotFinite))) (j_StepNotFinite : K.lookup C_StepNotFinite = some (excClassObj nm_StepNotFinite qn_StepNotFinite C_StepNotFinite N_StepNotFinite bs_StepNotFinite vk hdct_StepNotFinite sn_StepNotFinite sub_StepNotFinite ab_StepNotFinite col_StepNotFinite dd_StepNotFinite k0_StepNotFinite k1_StepNotFinite k2_StepNotFinite k3_StepNotFinite k5_StepNotFinite wc)) (u_StepNotFinite : nsOkIn K N_StepNotFinite = true) (v_StepNotFinite : nsIn K N_StepNotFinite "__init__" = some none)
  (q_NotAsTold : nsIn K mainGlobals "NotAsTold" = some (some (.ref C_NotAsTold))) (j_NotAsTold : K.lookup C_NotAsTold = some (excClassObj nm_NotAsTold qn_NotAsTold C_NotAsTold N_NotAsTold bs_NotAsTold vk hdct_NotAsTold sn_NotAsTold sub_NotAsTold ab_NotAsTold col_NotAsTold dd_NotAsTold k0_NotAsTold k1_NotAsTold k2_NotAsTold k3_NotAsTold k5_NotAsTold wc)) (u_NotAsTold : nsOkIn K N_NotAsTold = true) (v_NotAsTold : nsIn K N_NotAsTold "__init__" = some none)
  (z_len : nsIn K mainGlobals "len" = some none)
  (z_max : nsIn K mainGlobals "max" = some none)
  (z_zip : nsIn K mainGlobals "zip" = some none)
  (e2 : (C_NotFinite == C_WrongCount) = false) (e3 : (C_StepNotFinite == C_WrongCount) = false) (e4 : (C_StepNotFinite == C_NotFinite) = false) (e5 : (C_NotAsTold == C_WrongCount) = false) (e6 : (C_NotAsTold == C_NotFinite) = false) (e7 : (C_NotAsTold == C_StepNotFinite) = false)
  (htab : tabIn K "scaled" = some (c, PT)) :
  ∃ fd : FuncData, (∀ (s : Shared) (us : List Value), us.length = (["m", "n", "x", "a"] : List Str).length -> BindsTo s fd ⟨us, []⟩ ((["m", "n", "x", "a"] : List Str).zip us)) /\ ∀ base : Heap, K.In base -> base.Ns mainGlobals mg -> wD mg base c PT -> uU P w K mg base (CX1 P w) 7 fa fd ["m", "n", "x", "a"] (VU mg K 4 Dt.qN LL PT) := by
 have e := hfa.symm.trans (mg_of X G a_x13)
 cases e
 have F_x0 := vp (st := (top 6)) l_x0 c_x0 k_x0
 have b_x0 := F_x0.binds (ps := ["x"]) fun _ _ _ _ _ _ => xJ fun _ => rfl
 have F_x1 := vp (st := (top 7)) l_x1 c_x1 k_x1
 have b_x1 := F_x1.binds (ps := ["x"]) fun _ _ _ _ _ _ => xJ fun _ => rfl
 have F_x2 := vp (st := (top 8)) l_x2 c_x2 k_x2
 have b_x2 := F_x2.binds (ps := ["x"]) fun _ _ _ _ _ _ => xJ fun _ => rfl
 have F_x3 := vp (st := (top 9)) l_x3 c_x3 k_x3
 have b_x3 := F_x3.binds (ps := ["x"]) fun _ _ _ _ _ _ => xJ fun _ => rfl
 have F_x4 := vp (st := (top 10)) l_x4 c_x4 k_x4
 have b_x4 := F_x4.binds (ps := ["x"]) fun _ _ _ _ _ _ => xJ fun _ => rfl
 have F_x5 := vp (st := (top 11)) l_x5 c_x5 k_x5
 have b_x5 := F_x5.binds (ps := ["whole", "drop"]) fun _ _ _ _ _ _ => YB fun _ _ => rfl
 have F_x6 := vp (st := (top 12)) l_x6 c_x6 k_x6
 have b_x6 := F_x6.binds (ps := ["sign", "whole", "power"]) fun _ _ _ _ _ _ => Wy fun _ _ _ => rfl
 have F_x7 := vp (st := (top 13)) l_x7 c_x7 k_x7
 have b_x7 := F_x7.binds (ps := ["x", "y"]) fun _ _ _ _ _ _ => YB fun _ _ => rfl
 have F_x8 := vp (st := (top 20)) l_x8 c_x8 k_x8
 have b_x8 := F_x8.binds (ps := ["sizes", "lists", "counts"]) fun _ _ _ _ _ _ => Wy fun _ _ _ => rfl
 have F_x9 := vp (st := (top 21)) l_x9 c_x9 k_x9
 have b_x9 := F_x9.binds (ps := ["numbers"]) fun _ _ _ _ _ _ => xJ fun _ => rfl
 have F_x10 := vp (st := (top 23)) l_x10 c_x10 k_x10
 have b_x10 := F_x10.binds (ps := ["numbers"]) fun _ _ _ _ _ _ => xJ fun _ => rfl
 have F_x11 := vp (st := (top 24)) l_x11 c_x11 k_x11
 have b_x11 := F_x11.binds (ps := ["m", "n", "x", "a"]) fun _ _ _ _ _ _ => Zu fun _ _ _ _ => rfl
 have F_x12 := vp (st := (top 19)) l_x12 c_x12 k_x12
 have F_x13 := vp (st := (top 25)) l_x13 c_x13 k_x13
 have g_FRACTION_BITS : ∃ t, mg "FRACTION_BITS" = some (.int (52) t) := ⟨_, mg_of X G s_FRACTION_BITS⟩
 have g_GREATEST_SIZE : ∃ t, mg "GREATEST_SIZE" = some (.int (16) t) := ⟨_, mg_of X G s_GREATEST_SIZE⟩
 have g_INFINITE : ∃ t, mg "INFINITE" = some (.int (9218868437227405312) t) := ⟨_, mg_of X G s_INFINITE⟩
 have g_LEAST_POWER : ∃ t, mg "LEAST_POWER" = some (.int (-1074) t) := ⟨_, mg_of X G s_LEAST_POWER⟩
 have g_SIGN_BIT : ∃ t, mg "SIGN_BIT" = some (.int (9223372036854775808) t) := ⟨_, mg_of X G s_SIGN_BIT⟩
 have x_WrongCount := vX j_WrongCount u_WrongCount v_WrongCount
 have x_NotFinite := vX j_NotFinite u_NotFinite v_NotFinite
 have x_StepNotFinite := vX j_StepNotFinite u_StepNotFinite v_StepNotFinite
 have x_NotAsTold := vX j_NotAsTold u_NotAsTold v_NotAsTold
 refine ⟨fnOf "scaled" "scaled" (qG (top 25)) (qp (top 25)) (qa (top 25)) .none kV_x13 dc_x13 pm_x13 an_x13 cd_x13 ct_x13, fun s => Zu fun _ _ _ _ => .of_eq rfl, fun base _ _ BL => ?_⟩
 have D_x0 : Fd P w K mg base 1 "sign_of" 1 Dt.qX := jl F_x0 (mg_of X G a_x0) b_x0
 have D_x1 : Fd P w K mg base 1 "size_of" 1 Dt.qC := je F_x1 (mg_of X G a_x1) b_x1 g_SIGN_BIT
 have D_x2 : Fd P w K mg base 2 "is_finite" 1 Dt.qU := xT F_x2 (mg_of X G a_x2) b_x2 g_INFINITE D_x1
 have D_x3 : Fd P w K mg base 2 "whole_of" 1 Dt.qO := uJ F_x3 (mg_of X G a_x3) b_x3 g_FRACTION_BITS D_x1
 have D_x4 : Fd P w K mg base 2 "power_of" 1 Dt.qP := uu F_x4 (mg_of X G a_x4) b_x4 g_FRACTION_BITS g_LEAST_POWER (mg_none_of X G z_max) D_x1
 have D_x5 : Fd P w K mg base 1 "nearest_whole" 2 Dt.qD := zN F_x5 (mg_of X G a_x5) b_x5
 have D_x6 : Fd P w K mg base 2 "rounded" 3 Dt.vf := jr F_x6 (mg_of X G a_x6) b_x6 g_FRACTION_BITS g_INFINITE g_LEAST_POWER (mg_none_of X G z_max) (mg_of X G q_StepNotFinite) x_StepNotFinite D_x5
 have D_x7 : Fd P w K mg base 3 "product" 2 Dt.vd := jq F_x7 (mg_of X G a_x7) b_x7 D_x4 D_x6 D_x0 D_x3
 have D_x8 : Fd P w K mg base 1 "check_counts" 3 Dt.qv := z5 F_x8 (mg_of X G a_x8) b_x8 g_GREATEST_SIZE (mg_none_of X G z_len) (mg_none_of X G z_zip) (mg_of X G q_WrongCount) x_WrongCount
 have D_x9 : Fd P w K mg base 3 "check_finite" 1 Dt.qo := z4 F_x9 (mg_of X G a_x9) b_x9 (mg_of X G q_NotFinite) x_NotFinite D_x2
 have D_x10 : Fd P w K mg base 1 "with_count" 1 Dt.qx := y9 F_x10 (mg_of X G a_x10) b_x10 (mg_none_of X G z_len)
 have D_x11 : Fd P w K mg base 4 "scaled_told" 4 Dt.qN := yq F_x11 (mg_of X G a_x11) b_x11 D_x8 D_x9 D_x7 D_x10
 have AO : Zi P w K mg base (top 19) [(C_WrongCount, 1), (C_NotFinite, 2), (C_StepNotFinite, 3), (C_NotAsTold, 4)] := ⟨f_x12, _, _, _, _, _, _, _, _, _, _, _, _, _, _, _, _, _, _, _, _, _, _, l_x12, c_x12, k_x12, mg_of X G a_x12, rfl, uZ, rfl, rfl, fun s u => .of_eq rfl,
  fun A outer s H E => .cons rfl (mg_of X G q_WrongCount) x_WrongCount (by decide) (.cons rfl (mg_of X G q_NotFinite) x_NotFinite (by decide) (.cons rfl (mg_of X G q_StepNotFinite) x_StepNotFinite (by decide) (.cons rfl (mg_of X G q_NotAsTold) x_NotAsTold (by decide) .nil)))⟩
 have ER : jd mg K LL [(C_WrongCount, 1), (C_NotFinite, 2), (C_StepNotFinite, 3), (C_NotAsTold, 4)] := ⟨fun c C k hC hl => Xd (mg_of X G q_WrongCount) (mg_of X G q_NotFinite) (mg_of X G q_StepNotFinite) (mg_of X G q_NotAsTold) x_WrongCount x_NotFinite x_StepNotFinite x_NotAsTold e2 e3 e4 e5 e6 e7 hC hl⟩
 exact ZU (st := top 25) (st2 := top 19) (g := Dt.qN) F_x13 QK rfl htab a_x13 BL AO ER rfl Q8 rfl (fun _ => rfl) (fun _ _ _ _ _ => rfl)
  (fun cdv A outer s0 H0 E0 Y q f2 cd s H E2 hr => qL (Wa Q8) D_x11 hr rfl (.cons (.cons (.cons (.cons (.nil))))) (qg (xv 0) (qg (xv 1) (qg (xv 2) (qg (xv 3) qI))))) (Zu fun _ _ _ _ => ⟨_, rfl, rfl⟩)
end Lw
open PySem PySem.W PyProof.Rows
set_option maxRecDepth 100000 in
set_option maxHeartbeats 0 in
theorem PySem.Challenge.cw_doubletables_s04_scaled_holds : PySem.Challenge.rw_doubletables_s04_scaled.Holds := by
 w_on; k_headS; (case hw => exact ⟨[.int 0, .int 0, .int 0, .list []], by decide +kernel, by decide +kernel⟩)
 k_fillS
 refine L2.Ir.V5 (r := PySem.Challenge.rw_doubletables_s04_scaled) (k := 7) (ps := ["m", "n", "x", "a"]) (sp := fun K mg PT => L2.Ir.VU mg K 4 Dt.qN Dt.LL PT) (c := ?c) (PT := ?PT) (by decide +kernel) rfl ⟨rfl, by decide, by decide⟩ (fun w h Y => PySem.W.kIn_of Y) ?no ?tab rfl ?F ?S
 (case tab => intro p; exact rfl)
 (case no => intro p; exact rfl)
 case F =>
  intro w mg fa h Y KX G hmg
  refine' Lw.all_mk KX G hmg ?a_x0 ?l_x0 ?c_x0 ?k_x0 ?a_x1 ?l_x1 ?c_x1 ?k_x1 ?a_x2 ?l_x2 ?c_x2 ?k_x2 ?a_x3 ?l_x3 ?c_x3 ?k_x3 ?a_x4 ?l_x4 ?c_x4 ?k_x4 ?a_x5 ?l_x5 ?c_x5 ?k_x5 ?a_x6 ?l_x6 ?c_x6 ?k_x6 ?a_x7 ?l_x7 ?c_x7 ?k_x7 ?a_x8 ?l_x8 ?c_x8 ?k_x8 ?a_x9 ?l_x9 ?c_x9 ?k_x9 ?a_x10 ?l_x10 ?c_x10 ?k_x10 ?a_x11 ?l_x11 ?c_x11 ?k_x11 ?a_x12 ?l_x12 ?c_x12 ?k_x12 ?a_x13 ?l_x13 ?c_x13 ?k_x13 ?s_FRACTION_BITS ?s_GREATEST_SIZE ?s_INFINITE ?s_LEAST_POWER ?s_SIGN_BIT ?q_WrongCount ?j_WrongCount ?u_WrongCount ?v_WrongCount ?q_NotFinite ?j_NotFinite ?u_NotFinite ?v_NotFinite ?q_StepNotFinite ?j_StepNotFinite ?u_StepNotFinite ?v_StepNotFinite ?q_NotAsTold ?j_NotAsTold ?u_NotAsTold ?v_NotAsTold ?z_len ?z_max ?z_zip ?e2 ?e3 ?e4 ?e5 ?e6 ?e7 ?htab
  (case a_x0 => k_is); (case l_x0 => k_is); (case c_x0 => k_is); (case k_x0 => k_is); (case a_x1 => k_is); (case l_x1 => k_is); (case c_x1 => k_is); (case k_x1 => k_is); (case a_x2 => k_is); (case l_x2 => k_is); (case c_x2 => k_is); (case k_x2 => k_is); (case a_x3 => k_is); (case l_x3 => k_is); (case c_x3 => k_is); (case k_x3 => k_is); (case a_x4 => k_is); (case l_x4 => k_is); (case c_x4 => k_is); (case k_x4 => k_is); (case a_x5 => k_is); (case l_x5 => k_is); (case c_x5 => k_is); (case k_x5 => k_is); (case a_x6 => k_is); (case l_x6 => k_is); (case c_x6 => k_is); (case k_x6 => k_is); (case a_x7 => k_is); (case l_x7 => k_is); (case c_x7 => k_is); (case k_x7 => k_is); (case a_x8 => k_is); (case l_x8 => k_is); (case c_x8 => k_is); (case k_x8 => k_is); (case a_x9 => k_is); (case l_x9 => k_is); (case c_x9 => k_is); (case k_x9 => k_is); (case a_x10 => k_is); (case l_x10 => k_is); (case c_x10 => k_is); (case k_x10 => k_is); (case a_x11 => k_is); (case l_x11 => k_is); (case c_x11 => k_is); (case k_x11 => k_is); (case a_x12 => k_is); (case l_x12 => k_is); (case c_x12 => k_is); (case k_x12 => k_is); (case a_x13 => k_is); (case l_x13 => k_is); (case c_x13 => k_is); (case k_x13 => k_is); (case s_FRACTION_BITS => k_is); (case s_GREATEST_SIZE => k_is); (case s_INFINITE => k_is); (case s_LEAST_POWER => k_is); (case s_SIGN_BIT => k_is); (case q_WrongCount => k_is); (case j_WrongCount => k_is); (case u_WrongCount => (refine' Dt.ym ?l ?h; (case l => k_is); (case h => exact rfl))); (case v_WrongCount => k_is); (case q_NotFinite => k_is); (case j_NotFinite => k_is); (case u_NotFinite => (refine' Dt.ym ?l ?h; (case l => k_is); (case h => exact rfl))); (case v_NotFinite => k_is); (case q_StepNotFinite => k_is); (case j_StepNotFinite => k_is); (case u_StepNotFinite => (refine' Dt.ym ?l ?h; (case l => k_is); (case h => exact rfl))); (case v_StepNotFinite => k_is); (case q_NotAsTold => k_is); (case j_NotAsTold => k_is); (case u_NotAsTold => (refine' Dt.ym ?l ?h; (case l => k_is); (case h => exact rfl))); (case v_NotAsTold => k_is); (case z_len => k_is); (case z_max => k_is); (case z_zip => k_is)
  (case e2 => decide +kernel); (case e3 => decide +kernel); (case e4 => decide +kernel); (case e5 => decide +kernel); (case e6 => decide +kernel); (case e7 => decide +kernel)
  (case htab => exact rfl)
 case S =>
  intro K mg PT H xs a hP hwi hask hx
  have e : L2.Ir.uw (Codec.encAll PySem.Challenge.rw_doubletables_s04_scaled.args a) = [.int a.1, .int a.2.1, .int a.2.2.1, .lst (a.2.2.2.1.map L2.Ir.D.int)] := by
   show [L2.Ir.D.int a.1, L2.Ir.D.int a.2.1, L2.Ir.D.int a.2.2.1, L2.Ir.D.lst (L2.Ir.uw (a.2.2.2.1.map WData.int))] = _
   rw [L2.Ir.xA a.2.2.2.1]
  have pl : L2.Ir.x5 (Codec.encAll PySem.Challenge.rw_doubletables_s04_scaled.args a) = true := by
   show (true && (true && (true && (L2.Ir.x5 (a.2.2.2.1.map WData.int) && true)))) = true
   rw [L2.Ir.xr a.2.2.2.1]; rfl
  have q : (Codec.inInt 0 18446744073709551615 a.1 && (Codec.inInt 0 18446744073709551615 a.2.1 && (Codec.inInt 0 18446744073709551615 a.2.2.1 && ((Codec.inLen 0 300 a.2.2.2.1 && a.2.2.2.1.all (Codec.inInt 0 18446744073709551615)) && true)))) = true := hwi
  simp only [Bool.and_eq_true] at q
  obtain ⟨h1, h2⟩ := Dt.jC (Dt.xQ q.1) (Dt.xQ q.2.1) (Dt.xQ q.2.2.1) (Dt.Wc q.2.2.2.1.2) (Codec.inNat_iff.mp q.2.2.2.1.1).2
  refine ⟨_, _, rfl, hP, by rw [<- e]; exact L2.Ir.yN _ _ pl hx, h1, h2, fun H2 p hp => ?_⟩
  rw [Dt.y1] at hp
  exact .lst (L2.SqL.of hp) (L2.j9 _)
