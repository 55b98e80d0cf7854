import PyProof.Rows.All
import Wide.All
import OpenK.AllK
import Wide.FinOn
import PyProof.EqAt
import PyProof.EqKinds
import PyProof.TupleCall
import KE.BitLaws
import Open.SpecLaws
import KE.OsHead
import KE.OsGo
import PyProof.StationsW
import PyProof.ExcBaseAll.Exception
import KE.KLam
import PyProof.SliceList
import KE.KNestM
import PySem.Challenge.RW_doubletables_s16_inverse
set_option bootstrap.genMatcherCode false
set_option compiler.extract_closed false
set_option genSizeOf false
set_option genInjectivity false
set_option Elab.async false
set_option linter.all false
set_option maxRecDepth 100000
theorem Va {p : Prop} (h : p := by first | exact .inl rfl | exact .inr rfl | assumption) : p := h
theorem qV {p : Prop} (h : p := by decide) : p := h
theorem yB {p : Prop} (h : p := by intro _; rfl) : p := h
theorem qm {p : Prop} (h : p := by rfl) : p := h
theorem Ub {p : Prop} (h : p := by first | exact Or.inl rfl | exact Or.inr (Or.inl rfl) | exact Or.inr (Or.inr rfl)) : p := h
theorem Vd {p : Prop} (h : p := by first | exact Or.inl rfl | exact Or.inr rfl) : p := h
theorem Vv {p : Prop} (h : p := by first | exact .inl rfl | exact .inr rfl) : p := h
theorem qeh {p : Prop} (h : p := by exact fun _ _ => rfl) : p := h
theorem qeH {p : Prop} (h : p := by exact fun _ _ _ => rfl) : p := h
namespace L2
open PySem PySem.Spec PyProof.Rows
noncomputable abbrev Key := Sum Int Str
noncomputable def qdo : Key -> Value -> Bool
 | .inl k, v => Value.isInt k v
 | .inr x, v => Value.isStrOf x v
noncomputable def qfZ (w : World) : Key -> Int
 | .inl k => hashInt k
 | .inr x => hashStr w x
theorem vW : ∀ {k : Key} {v : Value}, qdo k v = true -> (∃ i t, k = Sum.inl i /\ v = Value.int i t) \/ (∃ x t, k = Sum.inr x /\ v = Value.str x t)
 | .inl i, v, h => by
  obtain ⟨t, e⟩ := Value.isInt_shape (k := i) (v := v) h
  exact .inl ⟨i, t, rfl, e⟩
 | .inr x, v, h => by
  obtain ⟨t, e⟩ := Value.isStrOf_shape (x := x) (v := v) h
  exact .inr ⟨x, t, rfl, e⟩
theorem qeN (a b : Int) : decide ((Sum.inl a : Key) = Sum.inl b) = (a == b) := by
 by_cases e : a = b
 ·subst e; simp
 ·have h : ¬ (Sum.inl a : Key) = Sum.inl b := fun q => e (Sum.inl.inj q)
  rw [decide_eq_false h]
  exact (beq_eq_false_iff_ne.mpr e).symm
theorem qeb (a b : Str) : decide ((Sum.inr a : Key) = Sum.inr b) = decide (a = b) := by
 by_cases e : a = b
 ·subst e; simp
 ·have h : ¬ (Sum.inr a : Key) = Sum.inr b := fun q => e (Sum.inr.inj q)
  rw [decide_eq_false h, decide_eq_false e]
theorem qeA (a : Int) (b : Str) : decide ((Sum.inl a : Key) = Sum.inr b) = false := decide_eq_false (fun q => nomatch q)
theorem qeK (a : Str) (b : Int) : decide ((Sum.inr a : Key) = Sum.inl b) = false := decide_eq_false (fun q => nomatch q)
noncomputable def UW (prog : Program) (w : World) : PySem.KeyKind prog w Key where
 is := qdo
 hash := qfZ w
 inj := fun v a b ha hb => by
  rcases vW ha with ⟨i, t, rfl, rfl⟩ | ⟨x, t, rfl, rfl⟩
  ·rcases vW hb with ⟨j, u, rfl, e⟩ | ⟨y, u, rfl, e⟩
   ·injection e with e1 _; rw [e1]
   ·exact nomatch e
  ·rcases vW hb with ⟨j, u, rfl, e⟩ | ⟨y, u, rfl, e⟩
   ·exact nomatch e
   ·injection e with e1 _; rw [e1]
 byValue := fun k v h => by
  rcases vW h with ⟨i, t, rfl, rfl⟩ | ⟨x, t, rfl, rfl⟩ <;> rfl
 pyHash := fun hv h => by
  rcases vW hv with ⟨i, t, rfl, rfl⟩ | ⟨x, t, rfl, rfl⟩
  ·exact wpAny_pyHash_int h
  ·exact wpAny_pyHash_str h
 eqBool := fun hu hv h => by
  rcases vW hu with ⟨i, t, rfl, rfl⟩ | ⟨x, t, rfl, rfl⟩
  ·rcases vW hv with ⟨j, u, rfl, rfl⟩ | ⟨y, u, rfl, rfl⟩
   ·rw [qeN] at h; exact wpAny_eqBool_int h
   ·rw [qeA] at h; exact SeqAt.EqAt.int_str i t y u _ _ _ _ h
  ·rcases vW hv with ⟨j, u, rfl, rfl⟩ | ⟨y, u, rfl, rfl⟩
   ·rw [qeK] at h; exact SeqAt.EqAt.str_int x t j u _ _ _ _ h
   ·rw [qeb] at h; exact wpAny_eqBool_str h
 «strs» := fun k x t v h => by
  rcases vW h with ⟨i, u, rfl, e⟩ | ⟨y, u, rfl, e⟩
  ·exact nomatch e
  ·injection e with e1 _
   subst e1
   cases v <;> rfl
set_option genInjectivity true in
inductive V where
 | non | bl (b : Bool) | int (i : Int) | str (x : Str) | byt (b : Array UInt8) | flt (b : UInt64) | ref (a : Addr) | ty (n : String)
 deriving DecidableEq
noncomputable def RelV : V -> Value -> Prop
 | .non, u => u = Value.none
 | .bl b, u => u = Value.bool b
 | .int i, u => ∃ t, u = Value.int i t
 | .str x, u => ∃ t, u = Value.str x t
 | .byt b, u => ∃ t, u = Value.bytes b t
 | .flt b, u => ∃ t, u = Value.float b t
 | .ref a, u => u = Value.ref a
 | .ty n, u => u = Value.type n
noncomputable abbrev Vals : List V -> List Value -> Prop := Paired RelV
theorem Vals.length {xs : List V} {us : List Value} (r : Vals xs us) : xs.length = us.length := Paired.length r
theorem Vals.get : ∀ {xs : List V} {us : List Value} {i : Nat} {x : V}, Vals xs us -> xs[i]? = some x -> ∃ u, us[i]? = some u /\ RelV x u
 | _, _, _, _, .nil, e => by simp at e
 | _, _, 0, _, .cons r _, e => by simp at e; subst e; exact ⟨_, rfl, r⟩
 | _, _, i + 1, x, .cons _ t, e => by
  obtain ⟨u, h1, h2⟩ := Vals.get (i := i) (x := x) t (by simpa using e)
  exact ⟨u, by simpa using h1, h2⟩
theorem Vals.set {x : V} {u : Value} (r : RelV x u) : ∀ {xs : List V} {us : List Value} (i : Nat), Vals xs us -> Vals (xs.set i x) (us.set i u)
 | _, _, _, .nil => .nil
 | _, _, 0, .cons _ t => .cons r t
 | _, _, i + 1, .cons q t => .cons q (Vals.set r i t)
theorem Vals.append : ∀ {xs ys : List V} {us ws : List Value}, Vals xs us -> Vals ys ws -> Vals (xs ++ ys) (us ++ ws)
 | _, _, _, _, .nil, s => s
 | _, _, _, _, .cons r t, s => .cons r (Vals.append t s)
theorem Vals.take : ∀ {xs : List V} {us : List Value} (n : Nat), Vals xs us -> Vals (xs.take n) (us.take n)
 | _, _, 0, _ => .nil
 | _, _, _ + 1, .nil => .nil
 | _, _, n + 1, .cons r t => .cons r (Vals.take n t)
theorem Vals.drop : ∀ {xs : List V} {us : List Value} (n : Nat), Vals xs us -> Vals (xs.drop n) (us.drop n)
 | _, _, 0, r => r
 | _, _, _ + 1, .nil => .nil
 | _, _, n + 1, .cons _ t => Vals.drop n t
theorem Vals.none_of : ∀ {xs : List V} {us : List Value} {i : Nat}, Vals xs us -> xs[i]? = none -> us[i]? = none := fun {xs us i} r e => by
 have h1 := r.length
 have h2 : xs.length <= i := List.getElem?_eq_none_iff.mp e
 exact List.getElem?_eq_none_iff.mpr (by lia)
noncomputable def UE : Option V -> Option Value -> Prop
 | some v, some u => RelV v u
 | none, none => True
 | _, _ => False
noncomputable def KV {κ : Type} : List (κ × V) -> List (κ × Value) -> Prop := Paired fun (p : κ × V) (q : κ × Value) => p.1 = q.1 /\ RelV p.2 q.2
noncomputable def kV : Key -> V
 | .inl i => .int i
 | .inr x => .str x
inductive HO where
 /-- a list -/
 | lst (xs : List V)
 /-- a tuple (never changes) -/
 | tup (xs : List V)
 /-- a dict whose keys are ints and texts; one whose keys are tuples of ints and texts (the empty one is both) -/
 | dK (kvs : List (Key × V)) | dT (kvs : List (List Key × V))
 /-- a set of ints: its members, its size -/
 | set (S : Int -> Bool) (n : Nat)
 /-- an instance of the class at C, its dict at dx, its attributes -/
 | ins (C dx : Addr) (fs : List (Str × V))
 /-- the dict of the instance at x -/
 | own (x : Addr)
 /-- the dict of an exception -/
 | xd (fs : List (Str × V))
 /-- a bound method, f of x -/
 | met (f x : Addr)
 /-- a range object lo, lo + 1, .. below hi -/
 | rng (lo hi : Int)
 /-- a thing that is known to the object (the script; a dict while a loop walks it): read, never written while it is so -/
 | frz (o : Obj) (u : HO)
 /-- a code object's table -/
 | tbl (ps : Array Value)
 /-- any other thing, by what is true of its one object (a def of one's own: SetO a S n := HO.ext fun h => ..) -/
 | ext (φ : Heap -> Prop)
noncomputable abbrev Hp := Addr -> Option HO
noncomputable def upd (H : Hp) (a : Addr) (o : HO) : Hp := fun b => if b = a then some o else H b
theorem qJ {H : Hp} {a : Addr} {o : HO} : upd H a o a = some o := by unfold upd; rw [if_pos rfl]
theorem qy {H : Hp} {a b : Addr} {o : HO} (h : b ≠ a) : upd H a o b = H b := by unfold upd; rw [if_neg h]
theorem vf {H : Hp} {a b : Addr} {o : HO} (h : H a = some o) (h' : H b = none) : a ≠ b := by
 intro e; subst e; rw [h] at h'; cases h'
section
variable (P : Program) (w : World)
noncomputable def zw (H : Hp) (h : Heap) (a : Addr) : HO -> Prop
 | .lst xs => xs.length <= sizeLine /\ ∃ (its : List Value) (n : Nat), Vals xs its /\ h.get? a = some { cls := .type "list", data := .seq its.toArray n }
 | .tup xs => xs.length <= sizeLine /\ ∃ its : List Value, Vals xs its /\ IsTup h a its.toArray
 | .dK kvs => kvs.length <= sizeLine /\ (a == sysModules) = false /\ ∃ vs, KV kvs vs /\ h.DictOf (UW P w) a vs
 | .dT kvs => kvs.length <= sizeLine /\ (a == sysModules) = false /\ ∃ xs : List (List Key × Addr × Value),
   Paired (fun (p : List Key × V) (q : List Key × Addr × Value) => p.1 = q.1 /\ H q.2.1 = some (.tup (p.1.map kV)) /\ RelV p.2 q.2.2) kvs xs /\
   ∃ o es ep, h.get? a = some o /\ o.ExactDict /\ o.data = .dict es ep /\ es.toList = xs.map (entryOfKey (tupleKind (UW P w))) /\ (xs.map (·.1)).Nodup
 | .set S n => h.SetOf (intKind P w) a S n
 | .ins C dx fs => H dx = some (.own a) /\ fs.length <= 1000 /\ dx ≠ a /\ h.get? a = some (PySem.W.instObj C dx) /\
   ∃ mA, h.Ns1 dx mA /\ (∀ f, UE (fs.lookup f) (mA f)) /\ PySem.Within mA (fs.map (·.1))
 | .own _ => ∃ o, h.get? a = some o
 | .xd fs => ∃ mA, h.Ns1 a mA /\ ∀ f, UE (fs.lookup f) (mA f)
 | .rng lo hi => ∃ t u v, h.get? a = some { cls := .type "range", data := .fields #[.int lo t, .int hi u, .int 1 v] }
 | .frz o u => h.get? a = some o /\ zw H h a u
 | .tbl ps => h.get? a = some { cls := .none, data := .fields ps }
 | .met f x => h.get? a = some (PySem.W.methodObj (.ref f) (.ref x))
 | .ext φ => φ h /\ (∃ o, h.get? a = some o) /\ ∀ h1 h2 : Heap, φ h1 -> (∀ o, h1.get? a = some o -> h2.get? a = some o) -> φ h2
noncomputable def HOk (H : Hp) (h : Heap) : Prop := ∀ a o, H a = some o -> zw P w H h a o
end
section
variable {P : Program} {w : World} {H H' : Hp} {h h' : Heap} {a : Addr} {o : HO}
theorem zw.lt (x : zw P w H h a o) : a < h.objs.size := by
 cases o with
 | lst xs => obtain ⟨_, _, _, _, e⟩ := x; exact Heap.lt_size e
 | tup xs => obtain ⟨_, _, _, p⟩ := x; exact p.lt
 | dK kvs => obtain ⟨_, _, _, _, o, _, _, e, _⟩ := x; exact Heap.lt_size e
 | dT kvs => obtain ⟨_, _, _, _, o, _, _, e, _⟩ := x; exact Heap.lt_size e
 | set S n => obtain ⟨o, _, _, _, e, _⟩ := x; exact Heap.lt_size e
 | ins C dx fs => obtain ⟨_, _, _, e, _⟩ := x; exact Heap.lt_size e
 | own y => obtain ⟨_, e⟩ := x; exact Heap.lt_size e
 | xd fs => obtain ⟨_, ⟨_, _, _, e, _⟩, _⟩ := x; exact Heap.lt_size e
 | rng lo hi => obtain ⟨_, _, _, e⟩ := x; exact Heap.lt_size e
 | frz ob u => obtain ⟨e, _⟩ := x; exact Heap.lt_size e
 | tbl ps => exact Heap.lt_size (show h.get? a = some _ from x)
 | met f y => exact Heap.lt_size (show h.get? a = some _ from x)
 | ext φ => obtain ⟨_, ⟨_, e⟩, _⟩ := x; exact Heap.lt_size e
theorem Paired.qfg {α β : Type} {F G : α -> β -> Prop} : ∀ {l₁ : List α} {l₂ : List β}, Paired F l₁ l₂ -> (∀ a b, F a b -> G a b) -> Paired G l₁ l₂
 | _, _, .nil, _ => .nil
 | _, _, .cons r t, f => .cons (f _ _ r) (Paired.qfg t f)
theorem zw.Wu (x : zw P w H h a o) (k : ∀ b u, (b = a \/ H b = some (.own a)) -> h.get? b = some u -> h'.get? b = some u)
  (ho : ∀ b, H b = some (.own a) -> H' b = some (.own a)) (ht : ∀ b xs, H b = some (.tup xs) -> H' b = some (.tup xs)) : zw P w H' h' a o := by
 induction o with
 | lst xs => obtain ⟨z, its, n, r, e⟩ := x; exact ⟨z, its, n, r, k _ _ (.inl rfl) e⟩
 | tup xs => obtain ⟨z, its, r, ob, e, c⟩ := x; exact ⟨z, its, r, ob, k _ _ (.inl rfl) e, c⟩
 | dK kvs => obtain ⟨z, y, vs, r, ob, es, ep, e, c⟩ := x; exact ⟨z, y, vs, r, ob, es, ep, k _ _ (.inl rfl) e, c⟩
 | dT kvs =>
  obtain ⟨z, y, xs, r, ob, es, ep, e, c⟩ := x
  exact ⟨z, y, xs, Paired.qfg r fun p q z => ⟨z.1, ht _ _ z.2.1, z.2.2⟩, ob, es, ep, k _ _ (.inl rfl) e, c⟩
 | set S n => obtain ⟨ob, es, ep, t, e, c⟩ := x; exact ⟨ob, es, ep, t, k _ _ (.inl rfl) e, c⟩
 | ins C dx fs =>
  obtain ⟨d, z, ne, e, mA, ⟨od, es, ep, e2, c⟩, r⟩ := x
  exact ⟨ho _ d, z, ne, k _ _ (.inl rfl) e, mA, ⟨od, es, ep, k _ _ (.inr d) e2, c⟩, r⟩
 | own y => obtain ⟨ob, e⟩ := x; exact ⟨ob, k _ _ (.inl rfl) e⟩
 | xd fs => obtain ⟨mA, ⟨od, es, ep, e, c⟩, r⟩ := x; exact ⟨mA, ⟨od, es, ep, k _ _ (.inl rfl) e, c⟩, r⟩
 | rng lo hi => obtain ⟨t, u, v, e⟩ := x; exact ⟨t, u, v, k _ _ (.inl rfl) e⟩
 | frz ob u ih => obtain ⟨e, q⟩ := x; exact ⟨k _ _ (.inl rfl) e, ih q⟩
 | tbl ps =>
  have e : h.get? a = some { cls := .none, data := .fields ps } := x
  show h'.get? a = some { cls := .none, data := .fields ps }
  exact k a _ (.inl rfl) e
 | met f y =>
  have e : h.get? a = some (PySem.W.methodObj (.ref f) (.ref y)) := x
  show h'.get? a = some (PySem.W.methodObj (.ref f) (.ref y))
  exact k a _ (.inl rfl) e
 | ext φ => obtain ⟨p, ⟨o, e⟩, st⟩ := x; exact ⟨st _ _ p fun o q => k _ _ (.inl rfl) q, ⟨o, k _ _ (.inl rfl) e⟩, st⟩
theorem HOk.lt (x : HOk P w H h) (e : H a = some o) : a < h.objs.size := (x a o e).lt
theorem HOk.fresh (x : HOk P w H h) (e : h.objs.size <= a) : H a = none := by
 cases q : H a with
 | none => rfl
 | some u => exact absurd (Nat.lt_of_lt_of_le (x.lt q) e) (Nat.lt_irrefl _)
theorem HOk.kept (x : HOk P w H h) (k : ∀ b u, h.get? b = some u -> h'.get? b = some u) : HOk P w H h' := fun a o e =>
 (x a o e).Wu (fun b u _ q => k b u q) (fun _ q => q) fun _ _ q => q
theorem HOk.laid (x : HOk P w H h) (k : ∀ b u, h.get? b = some u -> h'.get? b = some u) (hp : h.objs.size <= a) (new : zw P w (upd H a o) h' a o) : HOk P w (upd H a o) h' := fun b u e => by
 have hn := x.fresh hp
 by_cases hb : b = a
 ·subst hb; rw [qJ] at e; cases e; exact new
 ·rw [qy hb] at e
  exact (x b u e).Wu (fun c v _ q => k c v q) (fun c q => by rw [qy (vf q hn)]; exact q) fun c xs q => by rw [qy (vf q hn)]; exact q
end
noncomputable def Rd (H : Hp) (a : Addr) (u : HO) : Prop := H a = some u \/ ∃ o, H a = some (.frz o u)
theorem Rd.of {H : Hp} {a : Addr} {u : HO} (h : H a = some u) : Rd H a u := .inl h
theorem Rd.ok {P : Program} {w : World} {H : Hp} {h : Heap} {a : Addr} {u : HO} (r : Rd H a u) (x : HOk P w H h) : zw P w H h a u := by
 rcases r with r | ⟨o, r⟩
 ·exact x a u r
 ·obtain ⟨_, q⟩ := x a _ r
  exact q
noncomputable def Mut : Option HO -> Prop
 | some (.lst _) => True
 | some (.dK _) => True
 | some (.dT _) => True
 | some (.set _ _) => True
 | some (.ins _ _ _) => True
 | some (.ext _) => True
 | _ => False
section
variable {P : Program} {w : World} {H : Hp} {h h' : Heap} {x e : Addr} {o' : HO}
theorem HOk.write (ok : HOk P w H h) (mu : Mut (H x)) (he : e = x \/ H e = some (.own x)) (k : ∀ b u, b ≠ e -> h.get? b = some u -> h'.get? b = some u) (heo : ∃ u, h'.get? e = some u)
  (new : zw P w (upd H x o') h' x o') : HOk P w (upd H x o') h' := fun b u q => by
 have nown : ∀ c y, H c = some (.own y) -> c ≠ x := fun c y r z => by subst z; rw [r] at mu; exact mu
 have ntup : ∀ c xs, H c = some (.tup xs) -> c ≠ x := fun c xs r z => by subst z; rw [r] at mu; exact mu
 by_cases hb : b = x
 ·subst hb; rw [qJ] at q; cases q; exact new
 ·rw [qy hb] at q
  by_cases hbe : b = e
  ·have q' : H b = some (.own x) := by
    rcases he with z | z
    ·exact absurd (hbe.trans z) hb
    ·rw [hbe]; exact z
   rw [q] at q'; cases q'
   obtain ⟨v, hv⟩ := heo
   exact ⟨v, by rw [hbe]; exact hv⟩
  ·refine (ok b u q).Wu (fun c v hc r => k c v ?_ r) (fun c r => by rw [qy (nown c b r)]; exact r) fun c xs r => by rw [qy (ntup c xs r)]; exact r
   rcases hc with rfl | hc
   ·exact hbe
   ·rintro rfl
    rcases he with z | z
    ·exact nown c b hc z
    ·rw [hc] at z; cases z; exact hb rfl
end
structure Un (fs ex : List Addr) (H H' : Hp) (h h' : Heap) : Prop where
 keep : ∀ b o, h.get? b = some o -> H b = none -> b ∉ fs -> b ∉ ex -> h'.get? b = some o
 slot : ∀ b o, h.get? b = some o -> H b = none -> b ∈ fs -> b ∉ ex -> ∃ sl, h'.get? b = some { o with slots := sl }
 free : ∀ b o, h.get? b = some o -> H b = none -> b ∉ ex -> H' b = none
 there : ∀ b o, h.get? b = some o -> b ∉ ex -> ∃ o', h'.get? b = some o'
 tups : ∀ b xs, H b = some (.tup xs) -> H' b = some (.tup xs)
 frzs : ∀ b o u, H b = some (.frz o u) -> H' b = some (.frz o u)
 tbls : ∀ b ps, H b = some (.tbl ps) -> ∃ more, H' b = some (.tbl (ps ++ more))
section
variable {fs fs' ex ex' : List Addr} {H H1 H2 : Hp} {h h1 h2 h' : Heap} {a x e : Addr} {o : HO}
theorem Un.any (u : Un fs ex H H1 h h1) {b : Addr} {ob : Obj} (q : h.get? b = some ob) (n : H b = none) (hx : b ∉ ex) : ∃ sl, h1.get? b = some { ob with slots := sl } := by
 by_cases hb : b ∈ fs
 ·exact u.slot b ob q n hb hx
 ·exact ⟨ob.slots, u.keep b ob q n hb hx⟩
theorem Un.kept (k : ∀ b u, h.get? b = some u -> h'.get? b = some u) : Un fs ex H H h h' :=
 ⟨fun b ob q _ _ _ => k b ob q, fun b ob q _ _ _ => ⟨ob.slots, k b ob q⟩, fun _ _ _ n _ => n, fun b ob q _ => ⟨ob, k b ob q⟩, fun _ _ q => q, fun _ _ _ q => q, fun _ ps q => ⟨#[], by rw [q]; simp⟩⟩
theorem Un.refl : Un fs ex H H h h := Un.kept fun _ _ q => q
theorem Un.laid (k : ∀ b u, h.get? b = some u -> h'.get? b = some u) (hp : h.objs.size <= a) (hn : H a = none) : Un fs ex H (upd H a o) h h' where
 keep := fun b u q _ _ _ => k b u q
 slot := fun b u q _ _ _ => ⟨u.slots, k b u q⟩
 free := fun b u q n _ => by rw [qy (Nat.ne_of_lt (Nat.lt_of_lt_of_le (Heap.lt_size q) hp))]; exact n
 there := fun b u q _ => ⟨u, k b u q⟩
 tups := fun b xs q => by rw [qy (vf q hn)]; exact q
 frzs := fun b u xs q => by rw [qy (vf q hn)]; exact q
 tbls := fun b ps q => ⟨#[], by rw [qy (vf q hn), q]; simp⟩
theorem Un.write (mu : Mut (H x)) (he : e = x \/ H e = some (.own x)) (k : ∀ b u, b ≠ e -> h.get? b = some u -> h'.get? b = some u) (heo : ∃ u, h'.get? e = some u) : Un fs ex H (upd H x o) h h' := by
 have hx : ∀ b, H b = none -> b ≠ x := fun b n z => by subst z; rw [n] at mu; exact mu
 have hb : ∀ b, H b = none -> b ≠ e := fun b n z => by
  subst z
  rcases he with r | r
  ·exact hx b n r
  ·rw [n] at r; cases r
 have hm : ∀ b u, H b = some u -> ¬ Mut (some u) -> b ≠ x := fun b u q nm z => by subst z; rw [q] at mu; exact nm mu
 refine ⟨fun b u q n _ _ => k b u (hb b n) q, fun b u q n _ _ => ⟨u.slots, k b u (hb b n) q⟩, fun b u q n _ => by rw [qy (hx b n)]; exact n, fun b u q _ => ?_,
  fun b xs q => by rw [qy (hm b _ q fun z => z)]; exact q, fun b u xs q => by rw [qy (hm b _ q fun z => z)]; exact q, fun b ps q => ⟨#[], by rw [qy (hm b _ q fun z => z), q]; simp⟩⟩
 by_cases hbe : b = e
 ·subst hbe; exact heo
 ·exact ⟨u, k b u hbe q⟩
end
noncomputable def trk (h : Heap) (H : Hp) : List Addr := (List.range h.objs.size).filter fun a => (H a).isSome
noncomputable def Wk (h : Heap) (H : Hp) : Heap := PySem.W.hideAll h (trk h H)
theorem JT (h : Heap) (H : Hp) : (Wk h H).objs.size = h.objs.size := PySem.W.hideAll_size _ _
theorem qbV {h : Heap} {H : Hp} {b : Addr} {o : Obj} (e : h.get? b = some o) (n : H b = none) : (Wk h H).get? b = some o :=
 PySem.W.hideAll_get _ e fun hm => by
  have q : (H b).isSome = true := (List.mem_filter.mp hm).2
  rw [n] at q; simp at q
theorem qcg {h : Heap} {H : Hp} {b : Addr} {o : Obj} (e : (Wk h H).get? b = some o) : h.get? b = some o /\ H b = none := by
 have e' : h.get? b = some o := PySem.W.of_hideAll (trk h H) e
 refine ⟨e', ?_⟩
 cases q : H b with
 | none => rfl
 | some x =>
  have hm : b ∈ trk h H := List.mem_filter.mpr ⟨List.mem_range.mpr (Heap.lt_size e'), by simp [q]⟩
  have z : (Wk h H).get? b = none := PySem.W.hideAll_none (trk h H) hm
  rw [z] at e; cases e
structure Mod (K : PySem.W.Frag) (mg : Str -> Option Value) (base : Heap) : Prop where
 kin : K.In base
 glob : base.Ns mainGlobals mg
 blt : ∃ mb, base.Ns builtinsNs mb /\ ∀ x : Str, x ≠ "__name__" -> mb x = bootBuiltins x
 nolimit : base.NoLimit
structure Cx where
 prog : Program
 w : World
 K : PySem.W.Frag
 mg : Str -> Option Value
 base : Heap
 A : Around
 N : List Str
 s_0 : Shared
 H_0 : Hp
 env : Env
 outer : List Env
 stack : List Env
 ex : List Addr
 fn : Str -> Bool
 calm : Bool
 pn : List (Addr × Obj)
 xe : Value -> Shared -> Prop
noncomputable def frs (l : List Env) : List Addr := l.filterMap (·.frame)
noncomputable abbrev Cx.fs (X : Cx) : List Addr := frs X.outer
noncomputable def Vis (sc : Scope) (x : Str) : Prop := sc.names.lookup x = some .local \/ sc.names.lookup x = some .cell \/ sc.names.lookup x = some .free
noncomputable def Loc (sc : Scope) (x : Str) : Prop := sc.names.lookup x = some .local \/ sc.names.lookup x = some .cell
noncomputable def Look (env : Env) (h : Heap) (m : Str -> Option Value) (x : Str) (u : Value) : Prop :=
 (env.kindOf x = some .local /\ m x = some u) \/ ((env.kindOf x = some .cell \/ env.kindOf x = some .free) /\ ∃ c, env.cells.lookup x = some c /\ h.IsCell c (some u))
structure Cx.Ok (X : Cx) : Prop where
 mod : Mod X.K X.mg X.base
 kind : X.env.scope.kind = .function
 glob : X.env.globals = mainGlobals
 blt : X.env.builtins = builtinsNs
 above : X.s_0.heap.objs.size <= X.env.locals
 inj : ∀ x y c, X.env.cells.lookup x = some c -> X.env.cells.lookup y = some c -> x = y
 has : ∀ x, (X.env.kindOf x = some .cell \/ X.env.kindOf x = some .free) -> ∃ c, X.env.cells.lookup x = some c
 cab : ∀ x c, X.fn x = true -> X.env.cells.lookup x = some c -> X.s_0.heap.objs.size <= c
 hd : X.calm = true -> X.A.handled = none
 frames : X.A.frames = some X.stack
 stk : X.stack = X.outer \/ (X.stack = X.env :: X.outer /\ X.env.frame = some X.env.locals)
 exf : ∀ b ∈ X.ex, b ≠ X.env.locals /\ ∀ x c, X.env.cells.lookup x = some c -> c ≠ b
 bs : ∀ b o, X.base.get? b = some o -> X.s_0.heap.get? b = some o /\ X.H_0 b = none
 bsz : X.base.objs.size <= X.s_0.heap.objs.size
 noex : ∀ b o, X.base.get? b = some o -> b ∉ X.ex
 exfs : ∀ b ∈ X.ex, b ∉ X.fs
 ur : X.s_0.heap.FunFrames X.base X.outer
 frf : ∀ b ∈ X.fs, X.H_0 b = none
structure Inv (X : Cx) (pins : List (Addr × Obj)) (σ : List (Option V)) (H : Hp) (s : Shared) : Prop where
 ok : X.Ok
 os : s.os = X.s_0.os
 bare : AllBare s.gens
 base : Un X.fs X.ex X.H_0 H X.s_0.heap s.heap
 loc : ∃ m, s.heap.Ns X.env.locals m /\ ∀ (i : Nat) (x : Str) (v : V), X.N[i]? = some x -> σ[i]? = some (some v) -> Vis X.env.scope x -> ∃ u, RelV v u /\ Look X.env s.heap m x u
 cell : ∀ x c, X.env.cells.lookup x = some c -> ∃ v, s.heap.IsCell c v
 free : H X.env.locals = none
 freeC : ∀ x c, X.env.cells.lookup x = some c -> H c = none
 pin : ∀ p ∈ X.pn ++ pins, s.heap.get? p.1 = some p.2 /\ H p.1 = none /\ p.1 ≠ X.env.locals /\ p.1 ∉ X.fs /\ ∀ v, p.2.data ≠ .cell v
 hok : HOk X.prog X.w H s.heap
 len : σ.length = X.N.length
section
variable {X : Cx} {pins : List (Addr × Obj)} {σ : List (Option V)} {H H' : Hp} {s : Shared} {h' : Heap}
theorem Cx.Ok.qfP (ok : X.Ok) {b : Addr} {o : Obj} (e : X.base.get? b = some o) : b ∉ X.fs := fun hb => by
 have := (ok.ur.mem hb).1
 rw [e] at this; cases this
theorem Inv.bs (I : Inv X pins σ H s) : ∀ b o, X.base.get? b = some o -> s.heap.get? b = some o /\ H b = none := fun b o e =>
 ⟨I.base.keep b o (I.ok.bs b o e).1 (I.ok.bs b o e).2 (I.ok.qfP e) (I.ok.noex b o e), I.base.free b o (I.ok.bs b o e).1 (I.ok.bs b o e).2 (I.ok.noex b o e)⟩
theorem Inv.bk (I : Inv X pins σ H s) : ∀ b o, X.base.get? b = some o -> s.heap.get? b = some o := fun b o e => (I.bs b o e).1
theorem Inv.mod (I : Inv X pins σ H s) : Mod X.K X.mg X.base := I.ok.mod
theorem Inv.kIn (I : Inv X pins σ H s) : X.K.In s.heap := I.ok.mod.kin.keeps I.bk
theorem Inv.nolimit (I : Inv X pins σ H s) : s.heap.NoLimit := I.ok.mod.nolimit.keeps I.bk
theorem Inv.lt (I : Inv X pins σ H s) : X.env.locals < s.heap.objs.size := let ⟨_, hn, _⟩ := I.loc; hn.lt
theorem Inv.sz (I : Inv X pins σ H s) : X.s_0.heap.objs.size <= s.heap.objs.size := Nat.le_trans I.ok.above (Nat.le_of_lt I.lt)
theorem Inv.qeX (I : Inv X pins σ H s) {a : Addr} (h : s.heap.objs.size <= a) : a ∉ X.fs := fun hb => by
 obtain ⟨_, o, ho, _⟩ := I.ok.ur.mem hb
 exact absurd (Nat.lt_of_lt_of_le (Heap.lt_size ho) (Nat.le_trans I.sz h)) (Nat.lt_irrefl _)
theorem Inv.cne (I : Inv X pins σ H s) : ∀ x c, X.env.cells.lookup x = some c -> c ≠ X.env.locals := fun x c e z => by
 obtain ⟨v, o, ho, hd⟩ := I.cell x c e
 obtain ⟨m, ⟨o', es, ep, ho', hd', _⟩, _⟩ := I.loc
 rw [z, ho'] at ho; cases ho; rw [hd'] at hd; cases hd
theorem Inv.ur (I : Inv X pins σ H s) : s.heap.FunFrames X.base X.outer := by
 have all : ∀ (l : List Env), (∀ b ∈ frs l, b ∈ X.fs) -> X.s_0.heap.FunFrames X.base l -> s.heap.FunFrames X.base l := by
  intro l
  induction l with
  | nil => intro _ _; trivial
  | cons env r ih =>
   intro hs hl
   obtain ⟨hk, ⟨L, o, hf, hn, ho, hd⟩, hr⟩ := hl
   have hL : L ∈ X.fs := hs L (by unfold frs; rw [List.filterMap_cons, hf]; exact List.mem_cons_self)
   obtain ⟨sl, e⟩ := I.base.slot L o ho (I.ok.frf L hL) hL fun z => I.ok.exfs L z hL
   exact ⟨hk, ⟨L, _, hf, hn, e, hd⟩, ih (fun b hb => hs b (by unfold frs; rw [List.filterMap_cons, hf]; exact List.mem_cons_of_mem _ hb)) hr⟩
 exact all X.outer (fun _ hb => hb) I.ok.ur
theorem Inv.stack (I : Inv X pins σ H s) : s.heap.FunFrames X.base X.stack := by
 rcases I.ok.stk with e | ⟨e, hf⟩
 ·rw [e]; exact I.ur
 ·rw [e]
  obtain ⟨m, hn, _⟩ := I.loc
  refine .cons (by rw [I.ok.kind]; decide) hf hn ?_ I.ur
  exact Heap.get?_none_of_le (Nat.le_trans I.ok.bsz I.ok.above)
theorem Inv.yE (I : Inv X pins σ H s) : ∀ b ∈ frs X.stack, b ∈ X.env.locals :: X.fs := fun b hb => by
 rcases I.ok.stk with e | ⟨e, hf⟩
 ·rw [e] at hb; exact List.mem_cons_of_mem _ hb
 ·rw [e] at hb
  unfold frs at hb
  rw [List.filterMap_cons, hf] at hb
  exact hb
theorem Inv.ZY (I : Inv X pins σ H s) : ∀ b ∈ frs X.stack, H b = none := fun b hb => by
 rcases List.mem_cons.mp (I.yE b hb) with e | hb
 ·rw [e]; exact I.free
 ·obtain ⟨_, o, ho, _⟩ := I.ok.ur.mem hb
  exact I.base.free b o ho (I.ok.frf b hb) fun z => I.ok.exfs b z hb
theorem Inv.step {g' : Array GenState} {t' : Nat} {d' : Drawn} {ch : List Addr} (I : Inv X pins σ H s)
  (hch : ∀ b ∈ ch, (b ∈ X.ex \/ X.s_0.heap.objs.size <= b) /\ b ≠ X.env.locals /\ (∀ x c, X.env.cells.lookup x = some c -> c ≠ b) /\ ∀ p ∈ X.pn ++ pins, p.1 ≠ b)
  (keep : ∀ b o, b ≠ X.env.locals -> b ∉ X.fs -> b ∉ ch -> s.heap.get? b = some o -> H b = none -> h'.get? b = some o)
  (slot : ∀ b o, b ≠ X.env.locals -> b ∈ X.fs -> b ∉ ch -> s.heap.get? b = some o -> H b = none -> ∃ sl, h'.get? b = some { o with slots := sl }) (free : ∀ b o, b ∉ ch -> s.heap.get? b = some o -> H b = none -> H' b = none)
  (there : ∀ b o, b ∉ ch -> s.heap.get? b = some o -> ∃ o', h'.get? b = some o')
  (tups : ∀ b xs, H b = some (.tup xs) -> H' b = some (.tup xs)) (frzs : ∀ b o u, H b = some (.frz o u) -> H' b = some (.frz o u)) (tbls : ∀ b ps, H b = some (.tbl ps) -> ∃ more, H' b = some (.tbl (ps ++ more)))
  (ns : ∀ m, s.heap.Ns X.env.locals m -> h'.Ns X.env.locals m) (hok : HOk X.prog X.w H' h') (hg : AllBare g') :
  Inv X pins σ H' { s with heap := h', gens := g', drawn := d', toks := t' } := by
 have neL : ∀ b o, X.s_0.heap.get? b = some o -> b ≠ X.env.locals := fun b o e => Nat.ne_of_lt (Nat.lt_of_lt_of_le (Heap.lt_size e) I.ok.above)
 have neC : ∀ b o, X.s_0.heap.get? b = some o -> b ∉ X.ex -> b ∉ ch := fun b o e hx hb => by
  rcases (hch b hb).1 with z | z
  ·exact hx z
  ·exact absurd (Nat.lt_of_lt_of_le (Heap.lt_size e) z) (Nat.lt_irrefl _)
 have cellK : ∀ x c, X.env.cells.lookup x = some c -> ∀ v, s.heap.IsCell c v -> h'.IsCell c v := fun x c e v ⟨o, ho, hd⟩ => by
  have nch : c ∉ ch := fun z => (hch c z).2.2.1 x c e rfl
  by_cases hc : c ∈ X.fs
  ·obtain ⟨sl, q⟩ := slot c o (I.cne x c e) hc nch ho (I.freeC x c e)
   exact ⟨_, q, hd⟩
  ·exact ⟨o, keep c o (I.cne x c e) hc nch ho (I.freeC x c e), hd⟩
 refine ⟨I.ok, I.os, hg, ⟨fun b o e n hb hx => ?_, fun b o e n hb hx => ?_, fun b o e n hx => ?_, fun b o e hx => ?_, fun b xs e => tups b xs (I.base.tups b xs e), fun b o xs e => frzs b o xs (I.base.frzs b o xs e), fun b ps e => ?_⟩, ?_, fun x c e => ?_, ?_, fun x c e => ?_, fun p hp => ?_, hok, I.len⟩
 ·exact keep b o (neL b o e) hb (neC b o e hx) (I.base.keep b o e n hb hx) (I.base.free b o e n hx)
 ·obtain ⟨sl, e1⟩ := I.base.slot b o e n hb hx
  obtain ⟨sl', e2⟩ := slot b _ (neL b o e) hb (neC b o e hx) e1 (I.base.free b o e n hx)
  exact ⟨sl', e2⟩
 ·obtain ⟨o', e1⟩ := I.base.there b o e hx
  exact free b o' (neC b o e hx) e1 (I.base.free b o e n hx)
 ·obtain ⟨o', e1⟩ := I.base.there b o e hx
  exact there b o' (neC b o e hx) e1
 ·obtain ⟨m1, e1⟩ := I.base.tbls b ps e
  obtain ⟨m2, e2⟩ := tbls b _ e1
  exact ⟨m1 ++ m2, by rw [e2, Array.append_assoc]⟩
 ·obtain ⟨m, hn, hl⟩ := I.loc
  refine ⟨m, ns m hn, fun i x v e1 e2 e3 => ?_⟩
  obtain ⟨u, r, l⟩ := hl i x v e1 e2 e3
  refine ⟨u, r, ?_⟩
  rcases l with l | ⟨k, c, e, z⟩
  ·exact .inl l
  ·exact .inr ⟨k, c, e, cellK x c e _ z⟩
 ·obtain ⟨v, z⟩ := I.cell x c e
  exact ⟨v, cellK x c e v z⟩
 ·obtain ⟨m, ⟨o, _, _, ho, _⟩, _⟩ := I.loc
  exact free _ o (fun z => (hch _ z).2.1 rfl) ho I.free
 ·obtain ⟨v, o, ho, hd⟩ := I.cell x c e
  exact free c o (fun z => (hch c z).2.2.1 x c e rfl) ho (I.freeC x c e)
 ·obtain ⟨e, n, ne, nf, d⟩ := I.pin p hp
  have nch : p.1 ∉ ch := fun z => (hch p.1 z).2.2.2 p hp rfl
  exact ⟨keep p.1 p.2 ne nf nch e n, free p.1 p.2 nch e n, ne, nf, d⟩
theorem Inv.un {t' : Nat} (I : Inv X pins σ H s) (u : Un X.fs [] H H' s.heap h') (hok : HOk X.prog X.w H' h') : Inv X pins σ H' { s with heap := h', toks := t' } := by
 obtain ⟨m, ⟨o, es, ep, ho, r⟩, _⟩ := id I.loc
 obtain ⟨sl, hL⟩ := u.any ho I.free (by simp)
 exact I.step (g' := s.gens) (d' := s.drawn) (ch := []) (fun _ z => nomatch z) (fun b o _ hb _ e n => u.keep b o e n hb (by simp)) (fun b o _ hb _ e n => u.slot b o e n hb (by simp)) (fun b o _ e n => u.free b o e n (by simp)) (fun b o _ e => u.there b o e (by simp)) u.tups u.frzs u.tbls (fun m' hm => by
  obtain ⟨o', es', ep', ho', r'⟩ := hm
  rw [ho] at ho'; cases ho'
  exact ⟨_, es', ep', hL, r'⟩) hok I.bare
theorem Inv.call {g' : Array GenState} {t' : Nat} {d' : Drawn} {ch : List Addr} (I : Inv X pins σ H s) (u : Un (frs X.stack) ch H H' s.heap h') (hok : HOk X.prog X.w H' h') (hg : AllBare g')
  (hch : ∀ b ∈ ch, (b ∈ X.ex \/ X.s_0.heap.objs.size <= b) /\ b ≠ X.env.locals /\ (∀ x c, X.env.cells.lookup x = some c -> c ≠ b) /\ ∀ p ∈ X.pn ++ pins, p.1 ≠ b) :
  Inv X pins σ H' { s with heap := h', gens := g', drawn := d', toks := t' } := by
 obtain ⟨m, ⟨o, es, ep, ho, r⟩, _⟩ := id I.loc
 obtain ⟨sl, hL⟩ := u.any ho I.free fun z => (hch _ z).2.1 rfl
 exact I.step (ch := ch) hch (fun b o hL hb hc e n => u.keep b o e n (fun z => (List.mem_cons.mp (I.yE b z)).elim hL hb) hc) (fun b o _ _ hc e n => u.any e n hc) (fun b o hc e n => u.free b o e n hc) (fun b o hc e => u.there b o e hc) u.tups u.frzs u.tbls (fun m' hm => by
  obtain ⟨o', es', ep', ho', r'⟩ := hm
  rw [ho] at ho'; cases ho'
  exact ⟨_, es', ep', hL, r'⟩) hok hg
theorem Inv.turned {t' : Nat} {it : Addr} (I : Inv X pins σ H s) (k : ∀ b o, b ≠ it -> s.heap.get? b = some o -> h'.get? b = some o) (hn : H it = none) (hL : it ≠ X.env.locals)
  (h1 : it ∈ X.ex \/ X.s_0.heap.objs.size <= it) (h2 : ∀ x c, X.env.cells.lookup x = some c -> c ≠ it) (h3 : ∀ p ∈ X.pn ++ pins, p.1 ≠ it) : Inv X pins σ H { s with heap := h', toks := t' } := by
 have nit : ∀ b u, H b = some u -> b ≠ it := fun b u e z => by rw [z, hn] at e; cases e
 refine I.step (g' := s.gens) (d' := s.drawn) (ch := [it]) (fun b hb => ?_) (fun b o _ _ hc e _ => k b o (fun z => hc (by simp [z])) e) (fun b o _ _ hc e _ => ⟨o.slots, k b o (fun z => hc (by simp [z])) e⟩) (fun _ _ _ _ n => n)
  (fun b o hc e => ⟨o, k b o (fun z => hc (by simp [z])) e⟩) (fun _ _ e => e) (fun _ _ _ e => e) (fun b ps e => ⟨#[], by rw [e]; simp⟩) (fun m hm => ?_) (fun b u e => ?_) I.bare
 ·have e : b = it := by simpa using hb
  subst e
  exact ⟨h1, hL, h2, h3⟩
 ·obtain ⟨o, es, ep, ho, r⟩ := hm
  exact ⟨o, es, ep, k _ o (Ne.symm hL) ho, r⟩
 ·refine (I.hok b u e).Wu (fun c v hc q => k c v ?_ q) (fun _ q => q) fun _ _ q => q
  rcases hc with z | z
  ·rw [z]; exact nit b u e
  ·exact nit c _ z
theorem Inv.tok (I : Inv X pins σ H s) (t : Nat) : Inv X pins σ H { s with toks := t } := I.un (h' := s.heap) (t' := t) Un.refl I.hok
theorem Inv.kept {t' : Nat} (I : Inv X pins σ H s) (k : ∀ b u, s.heap.get? b = some u -> h'.get? b = some u) : Inv X pins σ H { s with heap := h', toks := t' } := I.un (Un.kept k) (I.hok.kept k)
theorem Inv.laid {a : Addr} {o : HO} {t' : Nat} (I : Inv X pins σ H s) (k : ∀ b u, s.heap.get? b = some u -> h'.get? b = some u) (hp : s.heap.objs.size <= a) (new : zw X.prog X.w (upd H a o) h' a o) :
  Inv X pins σ (upd H a o) { s with heap := h', toks := t' } := I.un (Un.laid k hp (I.hok.fresh hp)) (I.hok.laid k hp new)
theorem Inv.write {x e : Addr} {o : HO} {t' : Nat} (I : Inv X pins σ H s) (mu : Mut (H x)) (he : e = x \/ H e = some (.own x)) (k : ∀ b u, b ≠ e -> s.heap.get? b = some u -> h'.get? b = some u) (heo : ∃ u, h'.get? e = some u)
  (new : zw X.prog X.w (upd H x o) h' x o) : Inv X pins σ (upd H x o) { s with heap := h', toks := t' } := I.un (Un.write mu he k heo) (I.hok.write mu he k heo new)
theorem Inv.weak {σ' : List (Option V)} (I : Inv X pins σ H s) (hl : σ'.length = σ.length) (w : ∀ (i : Nat) v, σ'[i]? = some (some v) -> σ[i]? = some (some v)) : Inv X pins σ' H s :=
 ⟨I.ok, I.os, I.bare, I.base, let ⟨m, hn, hl'⟩ := I.loc; ⟨m, hn, fun i x v e1 e2 e3 => hl' i x v e1 (w i v e2) e3⟩, I.cell, I.free, I.freeC, I.pin, I.hok, hl.trans I.len⟩
theorem Inv.Je {pins' : List (Addr × Obj)} (I : Inv X pins σ H s) (h : ∀ p ∈ pins', s.heap.get? p.1 = some p.2 /\ H p.1 = none /\ p.1 ≠ X.env.locals /\ p.1 ∉ X.fs /\ ∀ v, p.2.data ≠ .cell v) : Inv X pins' σ H s :=
 ⟨I.ok, I.os, I.bare, I.base, I.loc, I.cell, I.free, I.freeC, fun p hp => (List.mem_append.mp hp).elim (fun z => I.pin p (List.mem_append_left _ z)) (h p), I.hok, I.len⟩
theorem VF {N : List Str} (hN : N.Nodup) {i j : Nat} {x : Str} (a : N[i]? = some x) (b : N[j]? = some x) : i = j := by
 obtain ⟨h1, e1⟩ := List.getElem?_eq_some_iff.mp a
 obtain ⟨h2, e2⟩ := List.getElem?_eq_some_iff.mp b
 exact (List.getElem_inj hN).mp (e1.trans e2.symm)
theorem WS {M : Model} {A : Around} {E : Value -> Shared -> Prop} {i : Nat} {x : Str} {v : V} {u : Value} {Q : Unit -> Shared -> Prop} (I : Inv X pins σ H s) (hN : X.N.Nodup) (hi : X.N[i]? = some x) (hx : Loc X.env.scope x) (r : RelV v u)
  (h : ∀ s', Inv X pins (σ.set i (some v)) H s' -> (∃ a, Heap.SameBut a s.heap s'.heap /\ (a = X.env.locals \/ X.env.cells.lookup x = some a)) -> Q () s') (hf : autoParam (X.fn x = true \/ X.env.scope.names.lookup x = some .local) Va._auto_1) : wpAny M A (storeName X.env x u) Q E s := by
 obtain ⟨m, hn, hl⟩ := id I.loc
 have hcls : (X.env.scope.kind == .class || (X.env.scope.kind == .module && X.env.locals != X.env.globals)) = false := by rw [I.ok.kind]; rfl
 have hiσ : i < σ.length := by rw [I.len]; exact (List.getElem?_eq_some_iff.mp hi).1
 have cne := I.cne
 have tracked : ∀ {a : Addr} {h' : Heap}, (∃ o, s.heap.get? a = some o /\ H a = none) -> Heap.SameBut a s.heap h' -> HOk X.prog X.w H h' := fun {a h'} ha hs b ob e => by
  obtain ⟨_, _, hfree⟩ := ha
  refine (I.hok b ob e).Wu (fun c w' hc q => (hs.2 c ?_).trans q) (fun _ q => q) fun _ _ q => q
  rintro rfl
  rcases hc with rfl | hc
  ·rw [hfree] at e; cases e
  ·rw [hfree] at hc; cases hc
 rcases hx with hk | hk
 ·refine wpAny_storeName_local hk hn (fun h' hn' hs => ?_) hcls
  obtain ⟨oL, _, _, hoL, _⟩ := id hn
  refine h _ ⟨I.ok, I.os, I.bare, ⟨fun b o e n hb hx => ?_, fun b o e n hb hx => ?_, I.base.free, fun b o e hx => ?_, I.base.tups, I.base.frzs, I.base.tbls⟩, ⟨_, hn', fun j y v' e1 e2 e3 => ?_⟩, fun y c e => ?_, I.free, I.freeC, fun p hp => ?_, tracked ⟨oL, hoL, I.free⟩ hs, by simpa using I.len⟩ ⟨_, hs, .inl rfl⟩
  ·exact (hs.2 b (Nat.ne_of_lt (Nat.lt_of_lt_of_le (Heap.lt_size e) I.ok.above))).trans (I.base.keep b o e n hb hx)
  ·obtain ⟨sl, e1⟩ := I.base.slot b o e n hb hx
   exact ⟨sl, (hs.2 b (Nat.ne_of_lt (Nat.lt_of_lt_of_le (Heap.lt_size e) I.ok.above))).trans e1⟩
  ·obtain ⟨o', e1⟩ := I.base.there b o e hx
   exact ⟨o', (hs.2 b (Nat.ne_of_lt (Nat.lt_of_lt_of_le (Heap.lt_size e) I.ok.above))).trans e1⟩
  ·by_cases hj : j = i
   ·subst hj
    rw [hi] at e1; cases e1
    rw [List.getElem?_set_self hiσ] at e2
    cases e2
    exact ⟨u, r, .inl ⟨hk, by simp⟩⟩
   ·rw [List.getElem?_set_ne (Ne.symm hj)] at e2
    obtain ⟨u', r', q⟩ := hl j y v' e1 e2 e3
    refine ⟨u', r', ?_⟩
    rcases q with ⟨k, e⟩ | ⟨k, c, e, z⟩
    ·refine .inl ⟨k, ?_⟩
     have : y ≠ x := fun e => hj (VF hN e1 (e ▸ hi))
     simp [this, e]
    ·exact .inr ⟨k, c, e, z.sameBut hs (cne y c e)⟩
  ·obtain ⟨w', z⟩ := I.cell y c e
   exact ⟨w', z.sameBut hs (cne y c e)⟩
  ·obtain ⟨e, n, ne, nf, d⟩ := I.pin p hp
   exact ⟨(hs.2 p.1 ne).trans e, n, ne, nf, d⟩
 ·have hfn : X.fn x = true := by
   rcases hf with z | z
   ·exact z
   ·rw [z] at hk; cases hk
  obtain ⟨c, hc⟩ := I.ok.has x (.inl hk)
  obtain ⟨w', z⟩ := I.cell x c hc
  refine wpAny_storeName_cell I.ok.kind hk hc z (fun h' hc' hs => ?_)
  obtain ⟨oc, hoc, hocd⟩ := id z
  refine h { s with heap := h' } ⟨I.ok, I.os, I.bare, ⟨fun b o e n hb hx => ?_, fun b o e n hb hx => ?_, I.base.free, fun b o e hx => ?_, I.base.tups, I.base.frzs, I.base.tbls⟩, ⟨m, hn.sameBut hs (Ne.symm (cne x c hc)), fun j y v' e1 e2 e3 => ?_⟩, fun y c' e => ?_, I.free, I.freeC, fun p hp => ?_, tracked ⟨oc, hoc, I.freeC x c hc⟩ hs, by simpa using I.len⟩ ⟨c, hs, .inr hc⟩
  ·exact (hs.2 b (Nat.ne_of_lt (Nat.lt_of_lt_of_le (Heap.lt_size e) (I.ok.cab x c hfn hc)))).trans (I.base.keep b o e n hb hx)
  ·obtain ⟨sl, e1⟩ := I.base.slot b o e n hb hx
   exact ⟨sl, (hs.2 b (Nat.ne_of_lt (Nat.lt_of_lt_of_le (Heap.lt_size e) (I.ok.cab x c hfn hc)))).trans e1⟩
  ·obtain ⟨o', e1⟩ := I.base.there b o e hx
   exact ⟨o', (hs.2 b (Nat.ne_of_lt (Nat.lt_of_lt_of_le (Heap.lt_size e) (I.ok.cab x c hfn hc)))).trans e1⟩
  ·by_cases hj : j = i
   ·subst hj
    rw [hi] at e1; cases e1
    rw [List.getElem?_set_self hiσ] at e2
    cases e2
    exact ⟨u, r, .inr ⟨.inl hk, c, hc, hc'⟩⟩
   ·rw [List.getElem?_set_ne (Ne.symm hj)] at e2
    obtain ⟨u', r', q⟩ := hl j y v' e1 e2 e3
    refine ⟨u', r', ?_⟩
    rcases q with q | ⟨k, c', e, z'⟩
    ·exact .inl q
    ·refine .inr ⟨k, c', e, z'.sameBut hs ?_⟩
     rintro rfl
     exact hj (VF hN e1 (I.ok.inj _ _ _ e hc ▸ hi))
  ·by_cases hcc : c' = c
   ·subst hcc; exact ⟨_, hc'⟩
   ·obtain ⟨w2, z2⟩ := I.cell y c' e
    exact ⟨w2, z2.sameBut hs hcc⟩
  ·obtain ⟨e, n, ne, nf, d⟩ := I.pin p hp
   refine ⟨(hs.2 p.1 ?_).trans e, n, ne, nf, d⟩
   intro q
   rw [q, hoc] at e
   have q' : oc = p.2 := Option.some.inj e
   exact d w' (by rw [<- q']; exact hocd)
theorem YN {M : Model} {A : Around} {E : Value -> Shared -> Prop} {i : Nat} {x : Str} {v : V} {u : Value} {Q : Unit -> Shared -> Prop} (I : Inv X pins σ H s) (hN : X.N.Nodup) (hi : X.N[i]? = some x) (hx : Loc X.env.scope x) (r : RelV v u)
  (h : ∀ s', Inv X pins (σ.set i (some v)) H s' -> Q () s') (hf : autoParam (X.fn x = true \/ X.env.scope.names.lookup x = some .local) Va._auto_1) : wpAny M A (storeName X.env x u) Q E s :=
 WS I hN hi hx r (fun s' I' _ => h s' I') hf
theorem Inv.qbX {s' : Shared} {ch : List Addr} (I : Inv X pins σ H s) (ho : s'.os = s.os) (u : Un (frs X.stack) ch H H' s.heap s'.heap) (hok : HOk X.prog X.w H' s'.heap) (hg : AllBare s'.gens)
  (hch : ∀ b ∈ ch, (b ∈ X.ex \/ X.s_0.heap.objs.size <= b) /\ b ≠ X.env.locals /\ (∀ x c, X.env.cells.lookup x = some c -> c ≠ b) /\ ∀ p ∈ X.pn ++ pins, p.1 ≠ b) : Inv X pins σ H' s' := by
 obtain ⟨h', g', d', t', o'⟩ := s'
 have e : o' = s.os := ho
 subst e
 exact I.call (g' := g') (t' := t') (d' := d') u hok hg hch
end
noncomputable abbrev XK := Value -> Option Addr -> Hp -> Prop
noncomputable abbrev St := List (Option V)
noncomputable abbrev VK := V -> Hp -> Prop
noncomputable abbrev TE := St -> Hp -> VK -> Prop
noncomputable abbrev TT := St -> Hp -> (Bool -> Hp -> Prop) -> Prop
noncomputable abbrev TA := St -> Hp -> (List V -> Hp -> Prop) -> Prop
structure Ends where
 nx : St -> Hp -> Prop
 rt : VK
 bk : St -> Hp -> Prop := fun _ _ => False
 ct : St -> Hp -> Prop := fun _ _ => False
noncomputable abbrev TS := Ends -> St -> Hp -> Prop
noncomputable def EP (X : Cx) (pins : List (Addr × Obj)) (σ : St) (Q : VK) (u : Value) (s' : Shared) : Prop := ∃ v H', Inv X pins σ H' s' /\ RelV v u /\ Q v H'
noncomputable def TP (X : Cx) (pins : List (Addr × Obj)) (σ : St) (Q : Bool -> Hp -> Prop) (b : Bool) (s' : Shared) : Prop := ∃ H', Inv X pins σ H' s' /\ Q b H'
noncomputable def AP (X : Cx) (pins : List (Addr × Obj)) (σ : St) (Q : List V -> Hp -> Prop) (us : List Value) (s' : Shared) : Prop := ∃ vs H', Inv X pins σ H' s' /\ Vals vs us /\ Q vs H'
noncomputable def SP (X : Cx) (pins : List (Addr × Obj)) (D : Ends) (f : Flow) (s' : Shared) : Prop :=
 match f with
 | .next => ∃ σ' H', Inv X pins σ' H' s' /\ D.nx σ' H'
 | .brk => ∃ σ' H', Inv X pins σ' H' s' /\ D.bk σ' H'
 | .cont => ∃ σ' H', Inv X pins σ' H' s' /\ D.ct σ' H'
 | .ret u => ∃ v σ' H', Inv X pins σ' H' s' /\ RelV v u /\ D.rt v H'
noncomputable def PE (X : Cx) (e : Expr) (t : TE) : Prop :=
 ∀ (pins : List (Addr × Obj)) (s : Shared) (σ : St) (H : Hp) (Q : VK), Inv X pins σ H s -> t σ H Q -> wpAny (model X.prog X.w) X.A (eval e X.env) (EP X pins σ Q) X.xe s
noncomputable def PT (X : Cx) (e : Expr) (t : TT) : Prop :=
 ∀ (pins : List (Addr × Obj)) (s : Shared) (σ : St) (H : Hp) (Q : Bool -> Hp -> Prop), Inv X pins σ H s -> t σ H Q -> wpAny (model X.prog X.w) X.A (isTrue e X.env (eval e X.env)) (TP X pins σ Q) X.xe s
noncomputable def PW (X : Cx) (e : Expr) (t : TT) : Prop :=
 ∀ (whole : Sem Value) (pins : List (Addr × Obj)) (s : Shared) (σ : St) (H : Hp) (Q : Bool -> Hp -> Prop), Inv X pins σ H s -> t σ H Q -> wpAny (model X.prog X.w) X.A (isTrue e X.env whole) (TP X pins σ Q) X.xe s
theorem PW.pt {X : Cx} {e : Expr} {t : TT} (h : PW X e t) : PT X e t := h _
noncomputable def PA (X : Cx) (es : List Expr) (t : TA) : Prop :=
 ∀ (pos : Pos) (pins : List (Addr × Obj)) (s : Shared) (σ : St) (H : Hp) (Q : List V -> Hp -> Prop), Inv X pins σ H s -> t σ H Q -> wpAny (model X.prog X.w) X.A (spliced (backTo pos (starEach es X.env))) (AP X pins σ Q) X.xe s
noncomputable def PS (X : Cx) (st : Stmt) (t : TS) : Prop :=
 ∀ (pins : List (Addr × Obj)) (s : Shared) (σ : St) (H : Hp) (D : Ends), Inv X pins σ H s -> t D σ H -> wpAny (model X.prog X.w) X.A (exec st X.env) (SP X pins D) X.xe s
noncomputable def PSs (X : Cx) (st : List Stmt) (t : TS) : Prop :=
 ∀ (pins : List (Addr × Obj)) (s : Shared) (σ : St) (H : Hp) (D : Ends), Inv X pins σ H s -> t D σ H -> wpAny (model X.prog X.w) X.A (execs st X.env) (SP X pins D) X.xe s
theorem thn {α : Type} {t : Sem α} {Q Q' : α -> Shared -> Prop} {M : Model} {A : Around} {E : Value -> Shared -> Prop} {s : Shared} (h : wpAny M A t Q E s) (hQ : ∀ a s, Q a s -> Q' a s) : wpAny M A t Q' E s := wpAny_mono h hQ fun _ _ x => x
section
variable {X : Cx}
noncomputable def qfC (i : Nat) : TE := fun σ H Q => ∃ v, σ[i]? = some (some v) /\ Q v H
noncomputable def tC (v : V) : TE := fun _ H Q => Q v H
theorem Q9 {i : Nat} {x : Str} {pos : Pos} (hN : X.N[i]? = some x) (hv : Vis X.env.scope x) (hd : autoParam ((x == ("__debug__" : Str)) = false) qV._auto_1) (hcd : autoParam ((x == ("__classdict__" : Str)) = false) qV._auto_1) : PE X (.Name x pos) (qfC i) := by
 intro pins s σ H Q I h
 obtain ⟨v, e, h⟩ := h
 obtain ⟨m, hn, hl⟩ := I.loc
 obtain ⟨u, r, l⟩ := hl i x v hN e hv
 have fin : EP X pins σ Q u s := ⟨v, H, I, r, h⟩
 rcases l with ⟨hk, hm⟩ | ⟨hk, c, hc, hcell⟩
 ·exact wpAny_Name (wpAny_loadName_local I.ok.kind hk hn hm fin) hd
 ·rcases hk with hk | hk
  ·exact wpAny_Name (wpAny_loadName_cell I.ok.kind hk hc hcell fin) hd
  ·exact wpAny_Name (wpAny_loadName_free I.ok.kind hk hc hcell fin hcd) hd
theorem UH {i j pos} : PE X (.Constant (.int i) j pos) (tC (.int i)) := fun _ _ _ H _ I h => wpAny_Constant_int ⟨.int i, H, I.tok _, ⟨_, rfl⟩, h⟩
noncomputable def Gl (X : Cx) (x : Str) : Prop := X.env.kindOf x = some .globalImplicit
theorem uj {E : Value -> Shared -> Prop} {pins : List (Addr × Obj)} {s : Shared} {σ : St} {H : Hp} {x : Str} {u : Value} {pos : Pos} {Q : Value -> Shared -> Prop} (I : Inv X pins σ H s) (hg : Gl X x) (hm : X.mg x = some u) (h : Q u s)
  (hd : autoParam ((x == ("__debug__" : Str)) = false) qV._auto_1) : wpAny (model X.prog X.w) X.A (eval (.Name x pos) X.env) Q E s :=
 Calls.Name_function_global I.ok.kind hg (Calls.loadGlobal_global (by rw [I.ok.glob]; exact I.mod.glob.keeps I.bk) hm h) hd
theorem uQ {E : Value -> Shared -> Prop} {pins : List (Addr × Obj)} {s : Shared} {σ : St} {H : Hp} {x : Str} {u : Value} {pos : Pos} {Q : Value -> Shared -> Prop} (I : Inv X pins σ H s) (hg : Gl X x) (hm : X.mg x = none) (hv : bootBuiltins x = some u) (h : Q u s)
  (hn : autoParam (x ≠ "__name__") qV._auto_1) (hd : autoParam ((x == ("__debug__" : Str)) = false) qV._auto_1) : wpAny (model X.prog X.w) X.A (eval (.Name x pos) X.env) Q E s := by
 obtain ⟨mb, h1, h2⟩ := I.mod.blt
 exact Calls.Name_function_global I.ok.kind hg (Calls.loadGlobal_builtin (by rw [I.ok.glob]; exact I.mod.glob.keeps I.bk) hm (by rw [I.ok.blt]; exact h1.keeps I.bk) ((h2 x hn).trans hv) h) hd
theorem qcL {x : Str} {v : V} {u : Value} {pos : Pos} (hg : Gl X x) (hm : X.mg x = some u) (r : RelV v u) (hd : autoParam ((x == ("__debug__" : Str)) = false) qV._auto_1) : PE X (.Name x pos) (tC v) :=
 fun _ _ _ H _ I h => uj I hg hm ⟨v, H, I, r, h⟩ hd
variable {a b : Expr} {ta tb : TE} {pos : Pos}
noncomputable def tB (t : TE) : TT := fun σ H Q => t σ H fun x H1 => ∃ c, x = .bl c /\ Q c H1
theorem qd3 {e : Expr} {t : TE} (h : PE X e t) (he : autoParam (∀ whole, isTrue e X.env whole = (do let v <- whole; standAt e.pos; holding [v] (truthy v))) yB._auto_1) : PT X e (tB t) := by
 intro pins s σ H Q I hw
 refine isTrue_plain (thn (h pins s σ H _ I hw) fun v s1 ⟨x, H1, I1, r1, q1⟩ => ?_) (he _)
 obtain ⟨d, rfl, q⟩ := q1
 cases r1
 exact wpAny_truthy_bool ⟨H1, I1, q⟩
variable {tA tB' : TT} {rest : List Expr}
noncomputable def qf4 (t u : TT) : TT := fun σ H Q => t σ H fun c H1 => if c = true then u σ H1 Q else Q false H1
noncomputable def tOr (t u : TT) : TT := fun σ H Q => t σ H fun c H1 => if c = true then Q true H1 else u σ H1 Q
noncomputable def qfH (t : TT) : TT := fun σ H Q => t σ H fun c H1 => Q (!c) H1
theorem qc6 (ha : PT X a tA) : PW X (.BoolOp .And [a] pos) tA := by
 intro wh pins s σ H Q I h
 refine isTrue_and (thn (ha pins s σ H Q I h) fun c s1 e => ?_)
 cases c with
 | true => exact isTrue_and_nil e
 | false => exact e
theorem qdM (ha : PT X a tA) : PW X (.BoolOp .Or [a] pos) tA := by
 intro wh pins s σ H Q I h
 refine isTrue_or (thn (ha pins s σ H Q I h) fun c s1 e => ?_)
 cases c with
 | false => exact isTrue_or_nil e
 | true => exact e
theorem qeM (ha : PT X a tA) (hb : PW X (.BoolOp .And (b :: rest) pos) tB') : PW X (.BoolOp .And (a :: b :: rest) pos) (qf4 tA tB') := by
 intro wh pins s σ H Q I h
 refine isTrue_and (thn (ha pins s σ H _ I h) fun c s1 ⟨H1, I1, q1⟩ => ?_)
 cases c with
 | true => exact hb wh pins s1 σ H1 Q I1 q1
 | false => exact ⟨H1, I1, q1⟩
theorem qfw (ha : PT X a tA) (hb : PW X (.BoolOp .Or (b :: rest) pos) tB') : PW X (.BoolOp .Or (a :: b :: rest) pos) (tOr tA tB') := by
 intro wh pins s σ H Q I h
 refine isTrue_or (thn (ha pins s σ H _ I h) fun c s1 ⟨H1, I1, q1⟩ => ?_)
 cases c with
 | true => exact ⟨H1, I1, q1⟩
 | false => exact hb wh pins s1 σ H1 Q I1 q1
theorem qdW (ha : PT X a tA) : PT X (.UnaryOp .Not a pos) (qfH tA) := by
 intro pins s σ H Q I h
 exact isTrue_not (ha pins s σ H (fun c H1 => Q (!c) H1) I h)
noncomputable def tIf (t : TT) (ta tb : TE) : TE := fun σ H Q => t σ H fun c H1 => if c = true then ta σ H1 Q else tb σ H1 Q
theorem qaT {c : Expr} (hc : PT X c tA) (ha : PE X a ta) (hb : PE X b tb) : PE X (.IfExp c a b pos) (tIf tA ta tb) := by
 intro pins s σ H Q I h
 refine wpAny_IfExp (thn (hc pins s σ H _ I h) fun d s1 ⟨H1, I1, q1⟩ => ?_)
 cases d with
 | true => exact ha pins s1 σ H1 Q I1 q1
 | false => exact hb pins s1 σ H1 Q I1 q1
end
noncomputable def SqL (K : PySem.W.Frag) (H : Hp) (a : Addr) (xs : List V) : Prop :=
 Rd H a (.lst xs) \/
  ∃ (o : Obj) (its : Array Value) (n : Nat), K.lookup a = some o /\ o.cls = .type "list" /\ o.dict = none /\ o.data = .seq its n /\ its.size <= sizeLine /\ Vals xs its.toList
noncomputable def SqT (K : PySem.W.Frag) (H : Hp) (a : Addr) (xs : List V) : Prop :=
 Rd H a (.tup xs) \/
  ∃ (o : Obj) (its : Array Value) (n : Nat), K.lookup a = some o /\ o.cls = .type "tuple" /\ o.data = .seq its n /\ its.size <= sizeLine /\ Vals xs its.toList
noncomputable def qfT : Value -> Option V
 | .none => some .non
 | .bool b => some (.bl b)
 | .int i _ => some (.int i)
 | .str x _ => some (.str x)
 | .bytes b _ => some (.byt b)
 | .float b _ => some (.flt b)
 | .ref a => some (.ref a)
 | .type n => some (.ty n)
 | _ => none
theorem RelV.abs {x : V} {u : Value} (r : RelV x u) : qfT u = some x := by
 cases x with
 | non => cases r; rfl
 | bl _ => cases r; rfl
 | int _ => obtain ⟨t, rfl⟩ := r; rfl
 | str _ => obtain ⟨t, rfl⟩ := r; rfl
 | byt _ => obtain ⟨t, rfl⟩ := r; rfl
 | flt _ => obtain ⟨t, rfl⟩ := r; rfl
 | ref _ => cases r; rfl
 | ty _ => cases r; rfl
theorem RelV.inj {x y : V} {u : Value} (r : RelV x u) (q : RelV y u) : x = y := Option.some.inj (r.abs.symm.trans q.abs)
theorem Vals.inj : ∀ {xs ys : List V} {us : List Value}, Vals xs us -> Vals ys us -> xs = ys
 | _, _, _, .nil, .nil => rfl
 | _, _, _, .cons r t, .cons r' t' => by rw [r.inj r', Vals.inj t t']
section
variable {X : Cx} {pins : List (Addr × Obj)} {σ : St} {H : Hp} {s : Shared} {a : Addr} {xs ys : List V}
theorem SqL.of {K : PySem.W.Frag} (h : H a = some (.lst xs)) : SqL K H a xs := .inl (.inl h)
theorem SqT.of {K : PySem.W.Frag} (h : H a = some (.tup xs)) : SqT K H a xs := .inl (.inl h)
theorem Inv.list (I : Inv X pins σ H s) (h : SqL X.K H a xs) : ∃ its : List Value, Vals xs its /\ PlainL s.heap a its.toArray /\ xs.length <= sizeLine := by
 rcases h with h | ⟨o, its, n, hk, hc, hd, hs, hz, r⟩
 ·obtain ⟨z, its, n, r, e⟩ := h.ok I.hok
  exact ⟨its, r, ⟨_, n, e, rfl, rfl, rfl⟩, z⟩
 ·refine ⟨its.toList, r, ⟨o, n, I.kIn a o hk, hc, hd, by simpa using hs⟩, ?_⟩
  have e := r.length
  simp only [Array.length_toList] at e
  lia
theorem Inv.tuple (I : Inv X pins σ H s) (h : SqT X.K H a xs) : ∃ its : List Value, Vals xs its /\ IsTup s.heap a its.toArray /\ xs.length <= sizeLine := by
 rcases h with h | ⟨o, its, n, hk, hc, hs, hz, r⟩
 ·obtain ⟨z, its, r, p⟩ := h.ok I.hok
  exact ⟨its, r, p, z⟩
 ·refine ⟨its.toList, r, ⟨o, I.kIn a o hk, hc, n, by simpa using hs⟩, ?_⟩
  have e := r.length
  simp only [Array.length_toList] at e
  lia
theorem Inv.Ve (I : Inv X pins σ H s) (h : SqL X.K H a xs) (h' : SqL X.K H a ys) : xs = ys := by
 obtain ⟨its, r, ⟨o, n, e, _, _, d⟩, _⟩ := I.list h
 obtain ⟨its', r', ⟨o', n', e', _, _, d'⟩, _⟩ := I.list h'
 rw [e] at e'; cases e'
 rw [d] at d'
 injection d' with d1 _
 have : its = its' := by simpa using congrArg Array.toList d1
 subst this
 exact r.inj r'
end
noncomputable abbrev Cx.xV (X : Cx) (E : Value -> Shared -> Prop) : Cx := { X with xe := E }
theorem Cx.Ok.xV {X : Cx} (ok : X.Ok) (E : Value -> Shared -> Prop) : (X.xV E).Ok :=
 ⟨ok.mod, ok.kind, ok.glob, ok.blt, ok.above, ok.inj, ok.has, ok.cab, ok.hd, ok.frames, ok.stk, ok.exf, ok.bs, ok.bsz, ok.noex, ok.exfs, ok.ur, ok.frf⟩
theorem Cx.Ok.zM {X : Cx} {E : Value -> Shared -> Prop} (ok : (X.xV E).Ok) : X.Ok :=
 ⟨ok.mod, ok.kind, ok.glob, ok.blt, ok.above, ok.inj, ok.has, ok.cab, ok.hd, ok.frames, ok.stk, ok.exf, ok.bs, ok.bsz, ok.noex, ok.exfs, ok.ur, ok.frf⟩
section
variable {X : Cx} {pins : List (Addr × Obj)} {σ : St} {H : Hp} {s : Shared} {E : Value -> Shared -> Prop}
theorem Inv.xV (I : Inv X pins σ H s) (E : Value -> Shared -> Prop) : Inv (X.xV E) pins σ H s := ⟨I.ok.xV E, I.os, I.bare, I.base, I.loc, I.cell, I.free, I.freeC, I.pin, I.hok, I.len⟩
theorem Inv.zM (I : Inv (X.xV E) pins σ H s) : Inv X pins σ H s := ⟨I.ok.zM, I.os, I.bare, I.base, I.loc, I.cell, I.free, I.freeC, I.pin, I.hok, I.len⟩
theorem SP.zM {D : Ends} {f : Flow} {s' : Shared} (h : SP (X.xV E) pins D f s') : SP X pins D f s' := by
 cases f with
 | next => obtain ⟨σ', H', I, q⟩ := h; exact ⟨σ', H', I.zM, q⟩
 | brk => obtain ⟨σ', H', I, q⟩ := h; exact ⟨σ', H', I.zM, q⟩
 | cont => obtain ⟨σ', H', I, q⟩ := h; exact ⟨σ', H', I.zM, q⟩
 | ret u => obtain ⟨v, σ', H', I, r, q⟩ := h; exact ⟨v, σ', H', I.zM, r, q⟩
end
section
variable {X : Cx} {st : Stmt} {rest : List Stmt} {t u : TS} {e : Expr} {te : TE} {pos : Pos}
noncomputable def qfy : TS := fun D σ H => D.nx σ H
noncomputable def qfL (t u : TS) : TS := fun D σ H => t { D with nx := u D } σ H
theorem Jp : PSs X [] qfy := fun _ _ σ H _ I h => wpAny_execs_nil ⟨σ, H, I, h⟩
theorem Vq (h1 : PS X st t) (h2 : PSs X rest u) : PSs X (st :: rest) (qfL t u) := by
 intro pins s σ H D I h
 refine wpAny_execs_cons (thn (h1 pins s σ H { D with nx := u D } I h) fun f s1 q => ?_)
 cases f with
 | next =>
  obtain ⟨σ', H', I', q⟩ := q
  exact h2 pins s1 σ' H' D I' q
 | ret v => exact q
 | brk => exact q
 | cont => exact q
theorem xZ (h1 : PS X st t) : PSs X [st] t := by
 intro pins s σ H D I h
 refine wpAny_execs_cons (thn (h1 pins s σ H D I h) fun f s1 q => ?_)
 cases f with
 | next => exact wpAny_execs_nil q
 | ret v => exact q
 | brk => exact q
 | cont => exact q
theorem Inv.quiet {pins : List (Addr × Obj)} {σ : St} {H : Hp} {s : Shared} (I : Inv X pins σ H s) : interactive X.env = false := by simp [interactive, I.ok.kind]
noncomputable def qeV (te : TE) : TS := fun D σ H => te σ H fun _ H1 => D.nx σ H1
theorem ZT (he : PE X e te) (hs : autoParam (swapsWith e none pos.line X.env = pure false) qm._auto_1) : PS X (.Expr e pos) (qeV te) := by
 intro pins s σ H D I h
 exact wpAny_Expr_any (thn (he pins s σ H _ I h) fun v s1 ⟨x, H1, I1, r1, q1⟩ => ⟨σ, H1, I1, q1⟩) I.quiet hs
noncomputable def qdY (te : TE) : TS := fun D σ H => te σ H D.rt
theorem jE (he : PE X e te) : PS X (.Return (some e) pos) (qdY te) := by
 intro pins s σ H D I h
 exact wpAny_Return_some (thn (he pins s σ H _ I h) fun v s1 ⟨x, H1, I1, r1, q1⟩ => ⟨x, σ, H1, I1, r1, q1⟩)
noncomputable def qfW (c : TT) (t u : TS) : TS := fun D σ H => c σ H fun b H1 => if b = true then t D σ H1 else u D σ H1
theorem qdB {c : Expr} {a b : List Stmt} {tc : TT} (hc : PT X c tc) (ha : PSs X a t) (hb : PSs X b u) : PS X (.If c a b pos) (qfW tc t u) := by
 intro pins s σ H D I h
 refine wpAny_If (thn (hc pins s σ H _ I h) fun d s1 ⟨H1, I1, q1⟩ => ?_)
 cases d with
 | true => exact ha pins s1 σ H1 D I1 q1
 | false => exact hb pins s1 σ H1 D I1 q1
end
noncomputable abbrev TG := V -> St -> Hp -> (St -> Hp -> Prop) -> Prop
noncomputable abbrev TGs := List V -> St -> Hp -> (St -> Hp -> Prop) -> Prop
noncomputable def PG (X : Cx) (target : Expr) (t : TG) : Prop :=
 ∀ (pins : List (Addr × Obj)) (s : Shared) (σ : St) (H : Hp) (v : V) (u : Value) (Q : St -> Hp -> Prop), Inv X pins σ H s -> RelV v u -> t v σ H Q ->
  wpAny (model X.prog X.w) X.A (assign target X.env u) (fun _ s' => ∃ σ' H', Inv X pins σ' H' s' /\ Q σ' H') X.xe s
noncomputable def PGs (X : Cx) (ts : List Expr) (t : TGs) : Prop :=
 ∀ (pins : List (Addr × Obj)) (s : Shared) (σ : St) (H : Hp) (vs : List V) (us : List Value) (Q : St -> Hp -> Prop), Inv X pins σ H s -> Vals vs us -> t vs σ H Q ->
  wpAny (model X.prog X.w) X.A (assignInOrder ((assignEach ts X.env).map (·.2)) us) (fun _ s' => ∃ σ' H', Inv X pins σ' H' s' /\ Q σ' H') X.xe s
noncomputable abbrev qdU := V -> V -> V -> Hp -> (Hp -> Prop) -> Prop
noncomputable def qfx (X : Cx) (t : qdU) : Prop :=
 ∀ (pins : List (Addr × Obj)) (s : Shared) (σ : St) (H : Hp) (o i v : V) (ov iv u : Value) (Q : Hp -> Prop), Inv X pins σ H s -> RelV o ov -> RelV i iv -> RelV v u -> t o i v H Q ->
  wpAny (model X.prog X.w) X.A (setItem ov iv u) (fun _ s' => ∃ H', Inv X pins σ H' s' /\ Q H') X.xe s
section
variable {X : Cx} {pos : Pos}
noncomputable def wz (i : Nat) : TG := fun v σ H Q => Q (σ.set i (some v)) H
theorem qcF {i : Nat} {x : Str} (hN : X.N.Nodup) (hi : X.N[i]? = some x) (hx : Loc X.env.scope x) (hf : autoParam (X.fn x = true \/ X.env.scope.names.lookup x = some .local) Va._auto_1) : PG X (.Name x pos) (wz i) := by
 intro pins s σ H v u Q I r h
 exact wpAny_assign_Name (YN I hN hi hx r (fun s' I' => ⟨_, H, I', h⟩) hf)
noncomputable def qb3 : TGs := fun vs σ H Q => vs = [] /\ Q σ H
noncomputable def V8 (t : TG) (u : TGs) : TGs := fun vs σ H Q => ∃ v r, vs = v :: r /\ t v σ H fun σ' H' => u r σ' H' Q
theorem qb2 : PGs X [] qb3 := by
 intro pins s σ H vs us Q I r h
 obtain ⟨e, h⟩ := h
 subst e
 cases r
 exact assignInOrder_nil ⟨σ, H, I, h⟩
theorem YM {e : Expr} {es : List Expr} {t : TG} {u : TGs} (h1 : PG X e t) (h2 : PGs X es u)
  (hs : autoParam ((assignEach (e :: es) X.env).map (·.2) = assign e X.env :: (assignEach es X.env).map (·.2)) qm._auto_1) : PGs X (e :: es) (V8 t u) := by
 intro pins s σ H vs us Q I r h
 obtain ⟨v, vr, e1, h⟩ := h
 subst e1
 cases r with
 | cons r rr =>
  rw [hs]
  refine assignInOrder_cons (thn (h1 pins s σ H _ _ _ I r h) fun _ s1 ⟨σ1, H1, I1, q1⟩ => ?_)
  exact h2 pins s1 σ1 H1 _ _ Q I1 rr q1
noncomputable def qcG (K : PySem.W.Frag) (n : Nat) (t : TGs) : TG := fun v σ H Q => ∃ a xs, v = .ref a /\ SqT K H a xs /\ xs.length = n /\ t xs σ H Q
theorem qdV {es : List Expr} {k : Nat} {t : TGs} {n : Nat} (hc : X.calm = true) (h : PGs X es t)
  (hn : autoParam ((assignEach es X.env).length = n) qm._auto_1) (hst : autoParam ((assignEach es X.env).findIdx? (·.1) = none) qm._auto_1) : PG X (.Tuple es k pos) (qcG X.K n t) := by
 intro pins s σ H v u Q I r hw
 obtain ⟨a, xs, e1, hq, hl, hw⟩ := hw
 subst e1
 cases r
 obtain ⟨its, rv, ht, hz⟩ := I.tuple hq
 refine assign_Tuple_tuple (I.ok.hd hc) ht (by simp [hn, <- hl, rv.length]) hst fun h' hx => ?_
 have I1 : Inv X pins σ H { s with heap := h' } := I.kept (t' := s.toks) fun b o e => hx b o (Nat.ne_of_lt (Heap.lt_size e)) e
 exact h pins _ σ H xs _ Q I1 (by simpa using rv) hw
noncomputable def qfB (to ti : TE) (t : qdU) : TG := fun v σ H Q => to σ H fun o H1 => ti σ H1 fun i H2 => t o i v H2 fun H3 => Q σ H3
theorem j0 {o i : Expr} {to ti : TE} {t : qdU} (ho : PE X o to) (hi : PE X i ti) (hs : qfx X t)
  (ha : ∀ v, assign (.Subscript o i pos) X.env v = (do
   let ov <- holding [v] (eval o X.env)
   let iv <- holding [v, ov] (eval i X.env)
   standAt pos
   holding [v, ov, iv] (setItem ov iv v)
   release [v, ov, iv] []) := by intro _; rfl) : PG X (.Subscript o i pos) (qfB to ti t) := by
 intro pins s σ H v u Q I r h
 rw [ha]
 refine wpAny_bind (wpAny_holding (thn (ho pins s σ H _ I h) fun ov s1 ⟨x, H1, I1, r1, q1⟩ => ?_))
 refine wpAny_bind (wpAny_holding (thn (hi pins s1 σ H1 _ I1 q1) fun iv s2 ⟨y, H2, I2, r2, q2⟩ => ?_))
 refine wpAny_bind (wpAny_standAt (wpAny_bind (wpAny_holding (thn (hs pins s2 σ H2 x y v ov iv u _ I2 r1 r2 r q2) fun _ s3 ⟨H3, I3, q3⟩ => ?_))))
 exact wpAny_release ⟨σ, H3, I3, q3⟩
noncomputable def Ur (te : TE) (g : TG) : TS := fun D σ H => te σ H fun x H1 => g x σ H1 D.nx
theorem jD {tg e : Expr} {te : TE} {g : TG} (he : PE X e te) (hg : PG X tg g) (hs : autoParam (swapsWithSole [tg] e pos.line X.env = pure false) qm._auto_1) (hw : autoParam (swappedStores [tg] e X.env = pure none) qm._auto_1)
  (h1 : autoParam ((assignEach [tg] X.env).map (·.2) = [assign tg X.env]) qm._auto_1) : PS X (.Assign [tg] e pos) (Ur te g) := by
 intro pins s σ H D I h
 refine wpAny_Assign_stores (thn (he pins s σ H _ I h) fun v s1 ⟨x, H1, I1, r1, q1⟩ => ?_) hs hw
 rw [h1]
 exact thn (hg pins s1 σ H1 x v _ I1 r1 q1) fun _ s2 q => q
theorem VC {i : Nat} {x : Str} {e : Expr} {te : TE} {pos' : Pos} (hN : X.N.Nodup) (hi : X.N[i]? = some x) (hx : Loc X.env.scope x) (he : PE X e te) (hs : autoParam (swapsWith e (some (.Name x pos')) pos.line X.env = pure false) qm._auto_1) (hf : autoParam (X.fn x = true \/ X.env.scope.names.lookup x = some .local) Va._auto_1) :
  PS X (.Assign [.Name x pos'] e pos) (Ur te (wz i)) := by
 intro pins s σ H D I h
 refine wpAny_Assign_Name (thn (he pins s σ H _ I h) fun v s1 ⟨y, H1, I1, r1, q1⟩ => ?_) hs
 exact YN I1 hN hi hx r1 (fun s2 I2 => ⟨_, H1, I2, q1⟩) hf
end
structure It where
 go : Nat -> Hp -> Prop
 yld : Nat -> Hp -> V -> Hp -> Prop
 stop : Nat -> Hp -> Prop
noncomputable def jH (X : Cx) (pins : List (Addr × Obj)) (H : Hp) (b : Addr) : Prop :=
 H b = none /\ b ≠ X.env.locals /\ b ∉ X.fs /\ (b ∈ X.ex \/ X.s_0.heap.objs.size <= b) /\ (∀ x c, X.env.cells.lookup x = some c -> c ≠ b) /\ ∀ p ∈ X.pn ++ pins, p.1 ≠ b
theorem Inv.Jw {X : Cx} {pins : List (Addr × Obj)} {σ : St} {H H' : Hp} {s : Shared} {b : Addr} (I : Inv X pins σ H s) (hb : s.heap.objs.size <= b) (hn : H' b = none) : jH X pins H' b := by
 refine ⟨hn, Nat.ne_of_gt (Nat.lt_of_lt_of_le I.lt hb), I.qeX hb, .inr (Nat.le_trans I.sz hb), fun x c e z => ?_, fun p hp z => ?_⟩
 ·obtain ⟨v, q⟩ := I.cell x c e
  exact absurd (Nat.lt_of_lt_of_le q.lt (by rw [z]; exact hb)) (Nat.lt_irrefl _)
 ·exact absurd (Nat.lt_of_lt_of_le (Heap.lt_size (I.pin p hp).1) (by rw [z]; exact hb)) (Nat.lt_irrefl _)
structure Turn (P : Program) (w : World) (K : PySem.W.Frag) (tg : Expr) (J : It) (fp : List Addr) (it : Addr) (tn : Nat -> Heap -> Prop) : Prop where
 mem : it ∈ fp
 obj : ∀ i h, tn i h -> ∀ b ∈ fp, ∃ o, h.get? b = some o /\ ∀ v, o.data ≠ .cell v
 keep : ∀ i h h', tn i h -> (∀ b ∈ fp, ∀ o, h.get? b = some o -> h'.get? b = some o) -> tn i h'
 item : ∀ (X : Cx), X.prog = P -> X.w = w -> X.K = K -> X.calm = true -> ∀ (i : Nat) (pins : List (Addr × Obj)) (s : Shared) (σ : St) (H : Hp) (E : Value -> Shared -> Prop), Inv X pins σ H s -> (∀ b ∈ fp, jH X pins H b) -> tn i s.heap -> J.go i H ->
  wpAny (model P w) X.A (pyNext (.ref it)) (fun r s1 => ∃ u, r = some u /\
   wpAny (model P w) X.A (letOwnedTupleGo tg (.ref it) u) (fun _ s2 => ∃ x H', Inv X pins σ H' s2 /\ RelV x u /\ J.yld i H x H' /\ tn (i + 1) s2.heap /\ ∀ b ∈ fp, H' b = none) E s1) E s
 done : ∀ (X : Cx), X.prog = P -> X.w = w -> X.K = K -> X.calm = true -> ∀ (i : Nat) (pins : List (Addr × Obj)) (s : Shared) (σ : St) (H : Hp) (E : Value -> Shared -> Prop), Inv X pins σ H s -> (∀ b ∈ fp, jH X pins H b) -> tn i s.heap -> J.stop i H ->
  wpAny (model P w) X.A (pyNext (.ref it)) (fun r s1 => r = none /\ Inv X pins σ H s1) E s
 self : ∀ (A : Around) (i : Nat) (s : Shared) (Q : Value -> Shared -> Prop) (E : Value -> Shared -> Prop), tn i s.heap -> Q (.ref it) s -> wpAny (model P w) A (pyIter (.ref it)) Q E s
noncomputable abbrev TI := St -> Hp -> (It -> Hp -> Prop) -> Prop
noncomputable def PIE (X : Cx) (pins : List (Addr × Obj)) (σ : St) (tg : Expr) (R : It -> Hp -> Prop) (itv : Value) (s2 : Shared) : Prop :=
 ∃ (it : Addr) (fp : List Addr) (tn : Nat -> Heap -> Prop) (J : It) (H' : Hp), itv = .ref it /\ Inv X pins σ H' s2 /\ Turn X.prog X.w X.K tg J fp it tn /\ tn 0 s2.heap /\ (∀ b ∈ fp, jH X pins H' b) /\ R J H'
noncomputable def PI (X : Cx) (tg iter : Expr) (wi : TI) : Prop :=
 ∀ (pins : List (Addr × Obj)) (s : Shared) (σ : St) (H : Hp) (R : It -> Hp -> Prop), Inv X pins σ H s -> wi σ H R ->
  wpAny (model X.prog X.w) X.A (eval iter X.env) (fun v s1 => wpAny (model X.prog X.w) X.A (pyIter v) (PIE X pins σ tg R) X.xe s1) X.xe s
theorem qbr {M : Model} {A : Around} {E : Value -> Shared -> Prop} {s : Shared} {tg : Expr} {it : Addr} {u : Value} {o : Obj} {n : String} {vs : Array Value} {Q : Unit -> Shared -> Prop} (ho : s.heap.get? it = some o) (hc : o.cls = .type n) (hd : o.data = .fields vs)
    (hn : ["enumerate", "zip", "dict_itemiterator", "dict_reverseitemiterator", "odict_iterator", "itertools.zip_longest", "itertools.pairwise"].contains n = false) (hQ : Q () s) : wpAny M A (letOwnedTupleGo tg (.ref it) u) Q E s := by
  unfold letOwnedTupleGo
  cases tg <;> first
    | exact wpAny_pure hQ
    | (cases u <;> first
        | exact wpAny_pure hQ
        | (refine wpAny_bind (wpAny_load ho ?_)
           rw [hc, hd]
           show wpAny M A (if (["enumerate", "zip", "dict_itemiterator", "dict_reverseitemiterator", "odict_iterator", "itertools.zip_longest", "itertools.pairwise"].contains n && vs[0]? == some (rawInt _)) = true then _ else _) Q E s
           rw [if_neg (by intro h; rw [hn, Bool.false_and] at h; cases h)]
           exact wpAny_pure hQ))
noncomputable def Itl (K : PySem.W.Frag) (a : Addr) : It :=
 ⟨fun i H => ∃ xs x, SqL K H a xs /\ xs[i]? = some x, fun i H x H' => H' = H /\ ∀ xs, SqL K H a xs -> xs[i]? = some x, fun i H => ∃ xs, SqL K H a xs /\ xs.length <= i⟩
noncomputable def Itr (lo : Int) (n : Nat) : It := ⟨fun i _ => i < n, fun i H x H' => H' = H /\ x = .int (lo + i), fun i _ => n <= i⟩
theorem JO {P : Program} {w : World} {K : PySem.W.Frag} {tg : Expr} (a it : Addr) : Turn P w K tg (Itl K a) [it] it (fun i h => h.IsListIter it a i) where
 mem := by simp
 obj := fun i h st b hb => by
  have e : b = it := by simpa using hb
  subst e
  obtain ⟨o, e, c, d⟩ := st
  exact ⟨o, e, fun v z => by rw [d] at z; cases z⟩
 keep := fun i h h' st k => st.at fun o e => k it (by simp) o e
 item := by
  intro X hP hw hK hc i pins s σ H E I hf st hg
  subst hP hw hK
  obtain ⟨xs, x, hq, hx⟩ := hg
  obtain ⟨its, rv, p, hz⟩ := I.list hq
  obtain ⟨u, hu, ru⟩ := rv.get hx
  obtain ⟨f0, f1, f2, f3, f4, f5⟩ := hf it (by simp)
  refine wpAny_pyNext_list_item st p.isList (x := u) (by simpa using hu) fun h' st' sb => ?_
  have I1 : Inv X pins σ H { s with heap := h' } := I.turned (t' := s.toks) (fun b o hb e => (sb.2 b hb).trans e) f0 f1 f3 f4 f5
  obtain ⟨o, e, c, d⟩ := id st'
  exact ⟨u, rfl, qbr (s := { s with heap := h' }) e c d (by decide) ⟨x, H, I1, ru, ⟨rfl, fun ys hy => by rw [I.Ve hy hq]; exact hx⟩, st', fun b hb => (hf b hb).1⟩⟩
 done := by
  intro X hP hw hK hc i pins s σ H E I hf st hg
  subst hP hw hK
  obtain ⟨xs, hq, hx⟩ := hg
  obtain ⟨its, rv, p, hz⟩ := I.list hq
  obtain ⟨f0, f1, f2, f3, f4, f5⟩ := hf it (by simp)
  have hl := rv.length
  exact wpAny_pyNext_list_end (I.ok.hd hc) st p.isList (by simp; lia) fun h' eb => ⟨rfl, I.turned (t' := s.toks) (fun b o hb e => eb b o hb e) f0 f1 f3 f4 f5⟩
 self := fun _ _ _ _ _ st h => wpAny_pyIter_listiter st h
theorem Uv {P : Program} {w : World} {K : PySem.W.Frag} {tg : Expr} (it : Addr) (lo : Int) (n : Nat) : Turn P w K tg (Itr lo n) [it] it (fun i h => IsRangeIter h it (lo + (i : Nat) * 1) ((n : Int) - (i : Nat)) 1) where
 mem := by simp
 obj := fun i h st b hb => by
  have e : b = it := by simpa using hb
  subst e
  exact ⟨_, st, fun v z => by
   have z' : Data.fields _ = Data.cell v := z
   cases z'⟩
 keep := fun i h h' st k => k it (by simp) _ st
 item := by
  intro X hP hw hK hc i pins s σ H E I hf st hg
  subst hP hw hK
  obtain ⟨f0, f1, f2, f3, f4, f5⟩ := hf it (by simp)
  have W := Walks.range (prog := X.prog) (w := X.w) (I.ok.hd hc) it lo 1 n
  refine W.item i s _ _ hg st fun v h' tk hv st' kk => ?_
  obtain ⟨t, rfl⟩ := hv
  have I1 : Inv X pins σ H { s with heap := h', toks := tk } := I.turned (fun b o hb e => kk b o (by simpa using hb) e) f0 f1 f3 f4 f5
  refine ⟨_, rfl, qbr (s := { s with heap := h', toks := tk }) (n := "range_iterator") st' rfl rfl (by decide) ⟨.int (lo + i), H, I1, ⟨t, ?_⟩, ⟨rfl, rfl⟩, st', fun b hb => (hf b hb).1⟩⟩
  rw [Int.mul_one]
 done := by
  intro X hP hw hK hc i pins s σ H E I hf st hg
  subst hP hw hK
  obtain ⟨f0, f1, f2, f3, f4, f5⟩ := hf it (by simp)
  exact wpAny_pyNext_range_end (I.ok.hd hc) st (by have : n <= i := hg; lia) fun h' eb => ⟨rfl, I.turned (t' := s.toks) (fun b o hb e => eb b o hb e) f0 f1 f3 f4 f5⟩
 self := fun _ _ _ _ _ st h => wpAny_pyIter_rangeiter st h
section
variable {X : Cx} {tg : Expr}
noncomputable def qfh (K : PySem.W.Frag) (tl : TE) : TI := fun σ H R => tl σ H fun x H1 => ∃ a, x = .ref a /\ (∃ xs, SqL K H1 a xs) /\ R (Itl K a) H1
theorem qcq {l : Expr} {tl : TE} (hl : PE X l tl) : PI X tg l (qfh X.K tl) := by
 intro pins s σ H R I h
 refine thn (hl pins s σ H _ I h) fun v s1 ⟨x, H1, I1, r1, q1⟩ => ?_
 obtain ⟨a, e, ⟨xs, hq⟩, q⟩ := q1
 subst e
 cases r1
 obtain ⟨its, rv, p, hz⟩ := I1.list hq
 refine wpAny_pyIter_list p.isList ?_
 refine ⟨s1.heap.objs.size, [s1.heap.objs.size], _, _, H1, rfl, I1.kept (t' := s1.toks) fun b o e => Heap.get?_push_of_some _ e, JO a _, ⟨_, Heap.get?_push_size _ rfl, rfl, rfl⟩, fun b hb => ?_, q⟩
 have e : b = s1.heap.objs.size := by simpa using hb
 subst e
 exact I1.Jw (Nat.le_refl _) (I1.hok.fresh (Nat.le_refl _))
theorem Z4 {pins : List (Addr × Obj)} {σ : St} {H : Hp} {s : Shared} {R : It -> Hp -> Prop} {E : Value -> Shared -> Prop} {lo hi : Int} {t u v : Tok} {tk : Nat} (I : Inv X pins σ H s) (h1 : -(2 ^ 62) <= lo) (h2 : lo < 2 ^ 62) (h3 : -(2 ^ 62) <= hi) (h4 : hi < 2 ^ 62)
  (q : R (Itr lo (hi - lo).toNat) H) : wpAny (model X.prog X.w) X.A (pyIter (.ref s.heap.objs.size)) (PIE X pins σ tg R) E { s with heap := s.heap.push { cls := .type "range", data := .fields #[.int lo t, .int hi u, .int 1 v] }, toks := tk } := by
 refine wpAny_pyIter_range (IsRange.new ..) (small_one h1 h2 h3 h4) ?_
 have I1 : Inv X pins σ H { s with heap := s.heap.push { cls := .type "range", data := .fields #[.int lo t, .int hi u, .int 1 v] }, toks := tk } := I.kept fun b o e => Heap.get?_push_of_some _ e
 refine ⟨(s.heap.push { cls := .type "range", data := .fields #[.int lo t, .int hi u, .int 1 v] }).objs.size, [(s.heap.push { cls := .type "range", data := .fields #[.int lo t, .int hi u, .int 1 v] }).objs.size], _, _, H, rfl,
  I1.kept (t' := tk) fun b o e => Heap.get?_push_of_some _ e, Uv _ lo (hi - lo).toNat, ?_, fun b hb => ?_, q⟩
 ·have e1 : lo + ((0 : Nat) : Int) * 1 = lo := by simp
  have e2 : (((hi - lo).toNat : Nat) : Int) - ((0 : Nat) : Int) = Builtin.Range.rangeSize lo hi 1 := by rw [rangeSize_one]; split <;> lia
  show IsRangeIter _ _ (lo + ((0 : Nat) : Int) * 1) ((((hi - lo).toNat : Nat) : Int) - ((0 : Nat) : Int)) 1
  rw [e1, e2]
  exact Heap.get?_push_size _ rfl
 ·have e : b = (s.heap.push { cls := .type "range", data := .fields #[.int lo t, .int hi u, .int 1 v] }).objs.size := by simpa using hb
  subst e
  exact I1.Jw (Nat.le_refl _) (I1.hok.fresh (Nat.le_refl _))
noncomputable def qfa (ta : TA) : TI := fun σ H R => ta σ H fun vs H1 => ∃ j : Int, vs = [.int j] /\ -(2 ^ 62) <= j /\ j < 2 ^ 62 /\ R (Itr 0 j.toNat) H1
noncomputable def qfv (ta : TA) : TI := fun σ H R => ta σ H fun vs H1 => ∃ i j : Int, vs = [.int i, .int j] /\ (-(2 ^ 62) <= i /\ i < 2 ^ 62 /\ -(2 ^ 62) <= j /\ j < 2 ^ 62) /\ R (Itr i (j - i).toNat) H1
theorem WM {a : Expr} {ta : TA} {p pos : Pos} (hg : Gl X "range") (hm : X.mg "range" = none) (ha : PA X [a] ta) (hs : autoParam (starEach [a] X.env = [(false, eval a X.env)]) qm._auto_1) : PI X tg (.Call (.Name "range" p) [a] [] pos) (qfa ta) := by
 intro pins s σ H R I h
 refine Call_ (uQ I hg hm boot_range (PyProof.Rows.callWith_type1 (thn (ha pos pins s σ H _ I h) fun us s1 ⟨vs, H1, I1, r1, q1⟩ => ?_) hs rfl))
 obtain ⟨j, e, q1, q2, q⟩ := q1
 subst e
 cases r1 with
 | cons r rr =>
  cases rr
  obtain ⟨t, rfl⟩ := r
  exact call_range_1 (Z4 I1 (by lia) (by lia) q1 q2 (by simpa using q))
theorem WH {a b : Expr} {ta : TA} {p pos : Pos} (hg : Gl X "range") (hm : X.mg "range" = none) (ha : PA X [a, b] ta) (hs : autoParam (starEach [a, b] X.env = [(false, eval a X.env), (false, eval b X.env)]) qm._auto_1) (hs2 : autoParam (starEach [b] X.env = [(false, eval b X.env)]) qm._auto_1) :
  PI X tg (.Call (.Name "range" p) [a, b] [] pos) (qfv ta) := by
 intro pins s σ H R I h
 refine Call_ (uQ I hg hm boot_range (PyProof.Rows.callWith_type1 (thn (ha pos pins s σ H _ I h) fun us s1 ⟨vs, H1, I1, r1, q1⟩ => ?_) (by rw [hs, hs2]) (by rw [hs2]; rfl)))
 obtain ⟨i, j, e, ⟨q1, q2, q3, q4⟩, q⟩ := q1
 subst e
 cases r1 with
 | cons r rr =>
  cases rr with
  | cons r' rr =>
   cases rr
   obtain ⟨t, rfl⟩ := r
   obtain ⟨t', rfl⟩ := r'
   exact call_range_2 (Z4 I1 q1 q2 q3 q4 q)
noncomputable def qfO (wi : TI) (g : TG) (tb : TS) : TS := fun D σ H => wi σ H fun J H1 => ∃ W : Nat -> Nat -> St -> Hp -> Prop, (∃ m, W 0 m σ H1) /\ ∀ i m σ H, W i m σ H ->
 (J.stop i H /\ D.nx σ H) \/ (J.go i H /\ ∃ N : St -> Hp -> Prop, (∀ σ' H', N σ' H' -> ∃ m', m' < m /\ W (i + 1) m' σ' H') /\ ∀ x H', J.yld i H x H' -> g x σ H' fun σ2 H2 => tb { D with nx := N, ct := N, bk := D.nx } σ2 H2)
noncomputable def V0 (fp : List Addr) (h : Heap) : List (Addr × Obj) := fp.filterMap fun b => (h.get? b).map fun o => (b, o)
theorem uA {fp : List Addr} {h : Heap} {b : Addr} {o : Obj} (hb : b ∈ fp) (e : h.get? b = some o) : (b, o) ∈ V0 fp h := List.mem_filterMap.mpr ⟨b, hb, by rw [e]; rfl⟩
theorem JM {fp : List Addr} {h : Heap} {p : Addr × Obj} (hp : p ∈ V0 fp h) : p.1 ∈ fp /\ h.get? p.1 = some p.2 := by
 obtain ⟨b, hb, e⟩ := List.mem_filterMap.mp hp
 cases q : h.get? b with
 | none => rw [q] at e; cases e
 | some o =>
  rw [q] at e
  have e' : (b, o) = p := Option.some.inj e
  subst e'
  exact ⟨hb, q⟩
theorem Inv.pinned {pins : List (Addr × Obj)} {σ : St} {H : Hp} {s : Shared} {fp : List Addr} (I : Inv X pins σ H s) (hf : ∀ b ∈ fp, jH X pins H b) (ho : ∀ b ∈ fp, ∃ o, s.heap.get? b = some o /\ ∀ v, o.data ≠ .cell v) : Inv X (pins ++ V0 fp s.heap) σ H s :=
 I.Je fun p hp => (List.mem_append.mp hp).elim (fun z => I.pin p (List.mem_append_right _ z)) fun z => by
  obtain ⟨hb, e⟩ := JM z
  obtain ⟨f0, f1, f2, _⟩ := hf p.1 hb
  obtain ⟨o, e', d⟩ := ho p.1 hb
  rw [e] at e'; cases e'
  exact ⟨e, f0, f1, f2, d⟩
theorem Inv.jh {pins pl : List (Addr × Obj)} {σ : St} {H : Hp} {s : Shared} (I : Inv X (pins ++ pl) σ H s) : Inv X pins σ H s := I.Je fun p hp => I.pin p (List.mem_append_right _ (List.mem_append_left _ hp))
theorem qaj {iter : Expr} {body : List Stmt} {wi : TI} {g : TG} {tb : TS} {pos : Pos} (hp : PassesOwn (model X.prog X.w) X.A X.env X.xe) (hc : X.calm = true) (hi : PI X tg iter wi) (hg : PG X tg g) (hb : PSs X body tb)
  (hs : autoParam (∀ x, foldedSetIterable iter X.env x = pure x) yB._auto_1) : PS X (.For tg iter body [] pos) (qfO wi g tb) := by
 intro pins s σ H D I h
 refine wpAny_For (thn (hi pins s σ H _ I h) fun v s1 h1 => thn h1 fun itv s2 h2 => ?_) hs
 obtain ⟨it, fp, tn, J, H2, e, I2, T, st2, f2, W, ⟨m0, w0⟩, turn⟩ := h2
 subst e
 -- what stays true of the iterator's objects through the loop
 have stat : ∀ {H' : Hp}, (∀ b ∈ fp, H' b = none) -> ∀ b ∈ fp, jH X pins H' b := fun hn b hb => ⟨hn b hb, (f2 b hb).2⟩
 refine codeAny_forLoop_any (fun n s' => ∃ i σ' H', Inv X pins σ' H' s' /\ tn i s'.heap /\ (∀ b ∈ fp, H' b = none) /\ W i n σ' H') ?_ m0 ⟨0, σ, H2, I2, st2, fun b hb => (f2 b hb).1, w0⟩
 rintro n s3 ⟨i, σ3, H3, I3, st3, fr3, w3⟩
 rcases turn i n σ3 H3 w3 with ⟨stop, qn⟩ | ⟨go, N, hN, step⟩
 ·refine wpAny_passesOwn hp (thn (T.done X rfl rfl rfl hc i pins s3 σ3 H3 X.xe I3 (stat fr3) st3 stop) fun r s4 ⟨hr, I4⟩ => ?_)
  subst hr
  exact wpAny_execs_nil ⟨σ3, H3, I4, qn⟩
 ·refine wpAny_passesOwn hp (thn (T.item X rfl rfl rfl hc i pins s3 σ3 H3 X.xe I3 (stat fr3) st3 go) fun r s4 ⟨u, hr, h4⟩ => ?_)
  subst hr
  refine wpAny_passesOwn hp (thn h4 fun _ s5 ⟨x, H5, I5, r5, y5, st5, fr5⟩ => ?_)
  have I5' := I5.pinned (stat fr5) (T.obj _ _ st5)
  refine wpAny_passesOwn hp (thn (hg _ s5 σ3 H5 x u _ I5' r5 (step x H5 y5)) fun _ s6 ⟨σ6, H6, I6, q6⟩ => ?_)
  refine wpAny_passesOwn hp (thn (hb _ s6 σ6 H6 _ I6 q6) fun f s7 q7 => ?_)
  have again : ∀ {σ7 : St} {H7 : Hp}, Inv X (pins ++ V0 fp s5.heap) σ7 H7 s7 -> N σ7 H7 -> ∃ m, m < n /\ ∃ i σ' H', Inv X pins σ' H' s7 /\ tn i s7.heap /\ (∀ b ∈ fp, H' b = none) /\ W i m σ' H' := fun {σ7 H7} I7 n7 => by
   obtain ⟨m', hm, w7⟩ := hN σ7 H7 n7
   refine ⟨m', hm, i + 1, σ7, H7, I7.jh, T.keep _ _ _ st5 fun b hb o e => (I7.pin (b, o) (List.mem_append_right _ (List.mem_append_right _ (uA hb e)))).1, fun b hb => ?_, w7⟩
   obtain ⟨o, e, d⟩ := T.obj _ _ st5 b hb
   exact (I7.pin (b, o) (List.mem_append_right _ (List.mem_append_right _ (uA hb e)))).2.1
  cases f with
  | next => obtain ⟨σ7, H7, I7, n7⟩ := q7; exact again I7 n7
  | cont => obtain ⟨σ7, H7, I7, n7⟩ := q7; exact again I7 n7
  | brk => obtain ⟨σ7, H7, I7, q7⟩ := q7; exact ⟨σ7, H7, I7.jh, q7⟩
  | ret v => obtain ⟨x7, σ7, H7, I7, r7, q7⟩ := q7; exact ⟨x7, σ7, H7, I7.jh, r7, q7⟩
end
noncomputable abbrev R2 := V -> V -> Hp -> VK -> Prop
noncomputable def OpR (X : Cx) (f : Value -> Value -> Sem Value) (r : R2) : Prop :=
 ∀ (pins : List (Addr × Obj)) (s : Shared) (σ : St) (H : Hp) (x y : V) (v u : Value) (Q : VK), Inv X pins σ H s -> RelV x v -> RelV y u -> r x y H Q ->
  wpAny (model X.prog X.w) X.A (f v u) (EP X pins σ Q) X.xe s
noncomputable def UnR (X : Cx) (f : Value -> Sem Value) (r : V -> Hp -> VK -> Prop) : Prop :=
 ∀ (pins : List (Addr × Obj)) (s : Shared) (σ : St) (H : Hp) (x : V) (v : Value) (Q : VK), Inv X pins σ H s -> RelV x v -> r x H Q ->
  wpAny (model X.prog X.w) X.A (f v) (EP X pins σ Q) X.xe s
noncomputable def j4 (X : Cx) (f : Value) (r : List V -> Hp -> VK -> Prop) : Prop :=
 ∀ (pins : List (Addr × Obj)) (s : Shared) (σ : St) (H : Hp) (xs : List V) (us : List Value) (Q : VK), Inv X pins σ H s -> Vals xs us -> r xs H Q ->
  wpAny (model X.prog X.w) X.A (call f us) (EP X pins σ Q) X.xe s
noncomputable def tOp (r : R2) (ta tb : TE) : TE := fun σ H Q => ta σ H fun x H1 => tb σ H1 fun y H2 => r x y H2 Q
noncomputable def tUn (r : V -> Hp -> VK -> Prop) (ta : TE) : TE := fun σ H Q => ta σ H fun x H1 => r x H1 Q
noncomputable def rI (C : Int -> Int -> Prop) (g : Int -> Int -> V) : R2 := fun x y H Q => ∃ i j, x = .int i /\ y = .int j /\ C i j /\ Q (g i j) H
noncomputable def rI0 (g : Int -> Int -> V) : R2 := fun x y H Q => ∃ i j, x = .int i /\ y = .int j /\ Q (g i j) H
noncomputable def rU (g : Int -> V) : V -> Hp -> VK -> Prop := fun x H Q => ∃ i, x = .int i /\ Q (g i) H
section
variable {X : Cx} {a b c : Expr} {ta tb tc : TE} {pos : Pos}
theorem qdH (ha : PE X a ta) (hb : PE X b tb) {pins : List (Addr × Obj)} {s : Shared} {σ : St} {H : Hp} {R : V -> V -> Hp -> Prop} (I : Inv X pins σ H s)
  (h : ta σ H fun x H1 => tb σ H1 fun y H2 => R x y H2) {Q : Value -> Shared -> Prop} {f : Value -> Value -> Sem Value}
  (hf : ∀ v u s2 x y H2, Inv X pins σ H2 s2 -> RelV x v -> RelV y u -> R x y H2 -> wpAny (model X.prog X.w) X.A (f v u) Q X.xe s2) :
  wpAny (model X.prog X.w) X.A (eval a X.env) (fun v s₁ => wpAny (model X.prog X.w) X.A (eval b X.env) (fun u s₂ => wpAny (model X.prog X.w) X.A (f v u) Q X.xe s₂) X.xe s₁) X.xe s := by
 refine thn (ha pins s σ H _ I h) fun v s1 ⟨x, H1, I1, r1, q1⟩ => ?_
 refine thn (hb pins s1 σ H1 _ I1 q1) fun u s2 ⟨y, H2, I2, r2, q2⟩ => ?_
 exact hf v u s2 x y H2 I2 r1 r2 q2
theorem qdq {op : Operator} {r : R2} (ho : OpR X (binaryOp op) r) (ha : PE X a ta) (hb : PE X b tb) : PE X (.BinOp a op b pos) (tOp r ta tb) := by
 intro pins s σ H Q I h
 exact wpAny_BinOp (qdH ha hb I h fun v u s2 x y H2 I2 rx ry q => ho pins s2 σ H2 x y v u Q I2 rx ry q)
theorem qdA {op : UnaryOp} {r : V -> Hp -> VK -> Prop} (ho : UnR X (unaryOp op) r) (ha : PE X a ta) : PE X (.UnaryOp op a pos) (tUn r ta) := by
 intro pins s σ H Q I h
 exact UnaryOp_ (thn (ha pins s σ H _ I h) fun v s1 ⟨x, H1, I1, r1, q1⟩ => ho pins s1 σ H1 x v Q I1 r1 q1)
theorem opI {f : Value -> Value -> Sem Value} {C : Int -> Int -> Prop} {g : Int -> Int -> Int}
  (rule : ∀ (i j : Int) (t u : Tok) (s : Shared) (Q : Value -> Shared -> Prop) (E : Value -> Shared -> Prop), C i j -> Q (.int (g i j) s.toks) { s with toks := s.toks + 1 } -> wpAny (model X.prog X.w) X.A (f (.int i t) (.int j u)) Q E s) :
  OpR X f (rI C fun i j => .int (g i j)) := by
 intro pins s σ H x y v u Q I rx ry h
 obtain ⟨i, j, rfl, rfl, hc, q⟩ := h
 obtain ⟨t, rfl⟩ := rx
 obtain ⟨t', rfl⟩ := ry
 exact rule i j t t' s _ _ hc ⟨.int (g i j), H, I.tok _, ⟨_, rfl⟩, q⟩
theorem qc3 {f : Value -> Value -> Sem Value} {g : Int -> Int -> Int}
  (rule : ∀ (i j : Int) (t u : Tok) (s : Shared) (Q : Value -> Shared -> Prop) (E : Value -> Shared -> Prop), Q (.int (g i j) s.toks) { s with toks := s.toks + 1 } -> wpAny (model X.prog X.w) X.A (f (.int i t) (.int j u)) Q E s) :
  OpR X f (rI0 fun i j => .int (g i j)) := by
 intro pins s σ H x y v u Q I rx ry h
 obtain ⟨i, j, rfl, rfl, q⟩ := h
 obtain ⟨t, rfl⟩ := rx
 obtain ⟨t', rfl⟩ := ry
 exact rule i j t t' s _ _ ⟨.int (g i j), H, I.tok _, ⟨_, rfl⟩, q⟩
theorem qc2 {f : Value -> Value -> Sem Value} {g : Int -> Int -> Bool}
  (rule : ∀ (i j : Int) (t u : Tok) (s : Shared) (Q : Value -> Shared -> Prop) (E : Value -> Shared -> Prop), Q (.bool (g i j)) s -> wpAny (model X.prog X.w) X.A (f (.int i t) (.int j u)) Q E s) :
  OpR X f (rI0 fun i j => .bl (g i j)) := by
 intro pins s σ H x y v u Q I rx ry h
 obtain ⟨i, j, rfl, rfl, q⟩ := h
 obtain ⟨t, rfl⟩ := rx
 obtain ⟨t', rfl⟩ := ry
 exact rule i j t t' s _ _ ⟨.bl (g i j), H, I, rfl, q⟩
theorem XJ (k : Nat) : (0 : Int) <= 2 ^ k := by
 rw [two_pow_cast]
 exact Int.natCast_nonneg _
theorem qep : OpR X (binaryOp .Add) (rI0 fun i j => .int (i + j)) := qc3 fun _ _ _ _ _ _ _ q => add_int q
theorem zd : OpR X (binaryOp .Sub) (rI0 fun i j => .int (i - j)) := qc3 fun _ _ _ _ _ _ _ q => sub_int q
theorem qbe : OpR X (binaryOp .Mod) (rI (fun _ j => 0 < j) fun i j => .int (i % j)) := opI fun i j _ _ _ _ _ hc q => by
 have h1 : (0 : Int) < j := hc
 exact mod_int' (by lia) (by rw [Int.fmod_eq_emod_of_nonneg i (by lia)]; exact q)
theorem Uh : OpR X (binaryOp .RShift) (rI (fun _ j => 0 <= j) fun i j => .int (i / 2 ^ j.toNat)) := opI fun i j _ _ _ _ _ hc q =>
 rshift_int hc (by rw [Int.fdiv_eq_ediv_of_nonneg i (XJ _)]; exact q)
theorem Xo : OpR X (binaryOp .BitAnd) (rI0 fun i j => .int (Builtin.bitAnd i j)) := qc3 fun _ _ _ _ _ _ _ q => and_int q
theorem Uq : OpR X (binaryOp .BitXor) (rI0 fun i j => .int (Builtin.bitXor i j)) := qc3 fun _ _ _ _ _ _ _ q => xor_int q
theorem unI {f : Value -> Sem Value} {g : Int -> Int}
  (rule : ∀ (i : Int) (t : Tok) (s : Shared) (Q : Value -> Shared -> Prop) (E : Value -> Shared -> Prop), Q (.int (g i) s.toks) { s with toks := s.toks + 1 } -> wpAny (model X.prog X.w) X.A (f (.int i t)) Q E s) :
  UnR X f (rU fun i => .int (g i)) := by
 intro pins s σ H x v Q I rx h
 obtain ⟨i, rfl, q⟩ := h
 obtain ⟨t, rfl⟩ := rx
 exact rule i t s _ _ ⟨.int (g i), H, I.tok _, ⟨_, rfl⟩, q⟩
theorem qbB : UnR X (unaryOp .USub) (rU fun i => .int (-i)) := unI fun _ _ _ _ _ q => neg_int q
end
noncomputable def qap : V -> V -> Bool
 | .non, .non => true | .non, .int _ => true | .int _, .non => true | .non, .bl _ => true | .bl _, .non => true | .non, .str _ => true | .str _, .non => true
 | .int _, .int _ => true | .bl _, .bl _ => true | .str _, .str _ => true | .byt _, .byt _ => true
 | .int _, .str _ => true | .str _, .int _ => true | .bl _, .str _ => true | .str _, .bl _ => true
 | _, _ => false
noncomputable def rEq : R2 := fun x y H Q => qap x y = true /\ Q (.bl (decide (x = y))) H
noncomputable def rNe : R2 := fun x y H Q => qap x y = true /\ Q (.bl (!decide (x = y))) H
theorem QN {i j : Int} : decide (V.int i = V.int j) = (i == j) := by
 rw [Bool.eq_iff_iff]
 simp
theorem ZW {i j : Bool} : decide (V.bl i = V.bl j) = (i == j) := by
 rw [Bool.eq_iff_iff]
 simp
theorem Jl {i j : Str} : decide (V.str i = V.str j) = (i == j) := by
 rw [Bool.eq_iff_iff]
 simp
theorem UZ {i j : Array UInt8} : decide (V.byt i = V.byt j) = (i.toList == j.toList) := by
 rw [Bool.eq_iff_iff]
 cases i
 cases j
 simp
section
variable {X : Cx} {a b c : Expr} {ta tb tc : TE} {pos : Pos}
theorem vm {pins : List (Addr × Obj)} {σ : St} {H : Hp} {s : Shared} {Q : VK} {k k' : Bool} (I : Inv X pins σ H s) (q : Q (.bl k) H) (e : k = k') : EP X pins σ Q (.bool k') s := by
 subst e
 exact ⟨.bl k, H, I, rfl, q⟩
theorem qfr : OpR X (compareOp .Eq) rEq := by
 intro pins s σ H x y v u Q I rx ry h
 obtain ⟨hs, q⟩ := h
 cases x with
 | non =>
  cases rx
  cases y with
  | non => cases ry; exact PySem.EqNone.eq_none_none (vm I q (by simp))
  | bl j => cases ry; exact PySem.EqNone.eq_none_bool (vm I q (by simp))
  | int j => obtain ⟨t', rfl⟩ := ry; exact PySem.EqNone.eq_none_int (vm I q (by simp))
  | str j => obtain ⟨t', rfl⟩ := ry; exact PySem.EqNone.eq_none_str (vm I q (by simp))
  | _ => exact absurd (show false = true from hs) Bool.false_ne_true
 | bl i =>
  cases rx
  cases y with
  | non => cases ry; exact PySem.EqNone.eq_bool_none (vm I q (by simp))
  | bl j => cases ry; exact eq_bool (vm I q ZW)
  | str j => obtain ⟨t', rfl⟩ := ry; exact PySem.EqMixed.eq_bool_str (vm I q (by simp))
  | _ => exact absurd (show false = true from hs) Bool.false_ne_true
 | int i =>
  obtain ⟨t, rfl⟩ := rx
  cases y with
  | non => cases ry; exact PySem.EqNone.eq_int_none (vm I q (by simp))
  | int j => obtain ⟨t', rfl⟩ := ry; exact eq_int (vm I q QN)
  | str j => obtain ⟨t', rfl⟩ := ry; exact PySem.EqMixed.eq_int_str (vm I q (by simp))
  | _ => exact absurd (show false = true from hs) Bool.false_ne_true
 | str i =>
  obtain ⟨t, rfl⟩ := rx
  cases y with
  | non => cases ry; exact PySem.EqNone.eq_str_none (vm I q (by simp))
  | bl j => cases ry; exact PySem.EqMixed.eq_str_bool (vm I q (by simp))
  | int j => obtain ⟨t', rfl⟩ := ry; exact PySem.EqMixed.eq_str_int (vm I q (by simp))
  | str j => obtain ⟨t', rfl⟩ := ry; exact eq_str (vm I q Jl)
  | _ => exact absurd (show false = true from hs) Bool.false_ne_true
 | byt i =>
  obtain ⟨t, rfl⟩ := rx
  cases y with
  | byt j => obtain ⟨t', rfl⟩ := ry; exact PySem.W.eq_bytes (vm I q UZ)
  | _ => exact absurd (show false = true from hs) Bool.false_ne_true
 | _ => cases y <;> exact absurd (show false = true from hs) Bool.false_ne_true
theorem qfi : OpR X (compareOp .NotEq) rNe := by
 intro pins s σ H x y v u Q I rx ry h
 obtain ⟨hs, q⟩ := h
 cases x with
 | non =>
  cases rx
  cases y with
  | non => cases ry; exact PySem.EqNone.ne_none_none (vm I q (by simp))
  | bl j => cases ry; exact PySem.EqNone.ne_none_bool (vm I q (by simp))
  | int j => obtain ⟨t', rfl⟩ := ry; exact PySem.EqNone.ne_none_int (vm I q (by simp))
  | str j => obtain ⟨t', rfl⟩ := ry; exact PySem.EqNone.ne_none_str (vm I q (by simp))
  | _ => exact absurd (show false = true from hs) Bool.false_ne_true
 | bl i =>
  cases rx
  cases y with
  | non => cases ry; exact PySem.EqNone.ne_bool_none (vm I q (by simp))
  | bl j => cases ry; exact ne_bool (vm I q (congrArg not ZW))
  | str j => obtain ⟨t', rfl⟩ := ry; exact PySem.EqMixed.ne_bool_str (vm I q (by simp))
  | _ => exact absurd (show false = true from hs) Bool.false_ne_true
 | int i =>
  obtain ⟨t, rfl⟩ := rx
  cases y with
  | non => cases ry; exact PySem.EqNone.ne_int_none (vm I q (by simp))
  | int j => obtain ⟨t', rfl⟩ := ry; exact ne_int (vm I q (congrArg not QN))
  | str j => obtain ⟨t', rfl⟩ := ry; exact PySem.EqMixed.ne_int_str (vm I q (by simp))
  | _ => exact absurd (show false = true from hs) Bool.false_ne_true
 | str i =>
  obtain ⟨t, rfl⟩ := rx
  cases y with
  | non => cases ry; exact PySem.EqNone.ne_str_none (vm I q (by simp))
  | bl j => cases ry; exact PySem.EqMixed.ne_str_bool (vm I q (by simp))
  | int j => obtain ⟨t', rfl⟩ := ry; exact PySem.EqMixed.ne_str_int (vm I q (by simp))
  | str j => obtain ⟨t', rfl⟩ := ry; exact ne_str (vm I q (congrArg not Jl))
  | _ => exact absurd (show false = true from hs) Bool.false_ne_true
 | byt i =>
  obtain ⟨t, rfl⟩ := rx
  cases y with
  | byt j => obtain ⟨t', rfl⟩ := ry; exact PySem.W.ne_bytes (vm I q (congrArg not UZ))
  | _ => exact absurd (show false = true from hs) Bool.false_ne_true
 | _ => cases y <;> exact absurd (show false = true from hs) Bool.false_ne_true
theorem qas : OpR X (compareOp .Lt) (rI0 fun i j => .bl (decide (i < j))) := qc2 fun _ _ _ _ _ _ _ q => lt_int q
theorem qe3 : OpR X (compareOp .LtE) (rI0 fun i j => .bl (decide (i <= j))) := qc2 fun _ _ _ _ _ _ _ q => le_int q
theorem qaW : OpR X (compareOp .Gt) (rI0 fun i j => .bl (decide (j < i))) := qc2 fun _ _ _ _ _ _ _ q => gt_int q
theorem qfs : OpR X (compareOp .GtE) (rI0 fun i j => .bl (decide (j <= i))) := qc2 fun _ _ _ _ _ _ _ q => ge_int q
theorem OpR.or {f : Value -> Value -> Sem Value} {r r' : R2} (h : OpR X f r) (h' : OpR X f r') : OpR X f (fun x y H Q => r x y H Q \/ r' x y H Q) := by
 intro pins s σ H x y v u Q I rx ry q
 rcases q with q | q
 ·exact h pins s σ H x y v u Q I rx ry q
 ·exact h' pins s σ H x y v u Q I rx ry q
theorem wq (b : Expr) {op : CmpOp} (h : autoParam (op ≠ .In) qV._auto_1) (h2 : autoParam (op ≠ .NotIn) qV._auto_1) : behindInMarks op b = false := by
 have e1 : (op == CmpOp.In) = false := by cases op <;> first | rfl | exact absurd rfl h
 have e2 : (op == CmpOp.NotIn) = false := by cases op <;> first | rfl | exact absurd rfl h2
 cases b <;> simp [behindInMarks, e1, e2]
theorem qde {op : CmpOp} {r : R2} (ho : OpR X (compareOp op) r) (ha : PE X a ta) (hb : PE X b tb) (hm : behindInMarks op b = false) : PE X (.Compare a [op] [b] pos) (tOp r ta tb) := by
 intro pins s σ H Q I h
 exact wpAny_Compare1 (qdH ha hb I h fun v u s2 x y H2 I2 rx ry q => ho pins s2 σ H2 x y v u Q I2 rx ry q) hm
noncomputable def qfe (t : TE) : TT := fun σ H Q => t σ H fun x H' => ∃ k, x = .bl k /\ Q k H'
theorem qb8 {op : CmpOp} {r : R2} (ho : OpR X (compareOp op) r) (ha : PE X a ta) (hb : PE X b tb) (hm : behindInMarks op b = false) : PT X (.Compare a [op] [b] pos) (qfe (tOp r ta tb)) := by
 intro pins s σ H Q I h
 refine wpAny_isTrue_Compare1 (thn (ha pins s σ H _ I h) fun v s1 ⟨x, H1, I1, r1, q1⟩ => thn (hb pins s1 σ H1 _ I1 q1) fun u s2 ⟨y, H2, I2, r2, q2⟩ =>
  thn (ho pins s2 σ H2 x y v u _ I2 r1 r2 q2) fun c s3 ⟨z, H3, I3, r3, k, e, q3⟩ => ?_) hm
 subst e
 cases r3
 exact wpAny_truthy_bool ⟨H3, I3, q3⟩
theorem Z1 : (sizeLine : Nat) < 2 ^ 63 := by rw [sizeLine_eq]; decide
theorem vals1 {x : V} {us : List Value} (r : Vals [x] us) : ∃ u, us = [u] /\ RelV x u := by
 cases r with
 | cons r1 r2 => cases r2; exact ⟨_, rfl, r1⟩
theorem vals2 {x y : V} {us : List Value} (r : Vals [x, y] us) : ∃ u w', us = [u, w'] /\ RelV x u /\ RelV y w' := by
 cases r with
 | cons r1 r2 =>
  cases r2 with
  | cons r3 r4 => cases r4; exact ⟨_, _, rfl, r1, r3⟩
theorem qbF : j4 X (.builtin "abs") (fun xs H Q => ∃ i, xs = [.int i] /\ Q (.int (if i < 0 then -i else i)) H) := by
 intro pins s σ H xs us Q I r h
 obtain ⟨i, rfl, q⟩ := h
 obtain ⟨u, rfl, t, rfl⟩ := vals1 r
 exact call_abs_int fun u tk => ⟨.int (if i < 0 then -i else i), H, I.tok _, ⟨_, rfl⟩, q⟩
theorem WG (hc : X.calm = true) : j4 X (.builtin "max") (fun xs H Q => ∃ i j, xs = [.int i, .int j] /\ Q (.int (if j > i then j else i)) H) := by
 intro pins s σ H xs us Q I r h
 obtain ⟨i, j, rfl, q⟩ := h
 obtain ⟨u, w', rfl, ⟨t, rfl⟩, ⟨t', rfl⟩⟩ := vals2 r
 refine max_two_ints (I.ok.hd hc) fun h' tk k => ⟨_, H, I.kept k, ?_, q⟩
 by_cases hj : j > i
 ·rw [if_pos hj, if_pos hj]; exact ⟨_, rfl⟩
 ·rw [if_neg hj, if_neg hj]; exact ⟨_, rfl⟩
theorem JH (hc : X.calm = true) : j4 X (.builtin "min") (fun xs H Q => ∃ i j, xs = [.int i, .int j] /\ Q (.int (if j < i then j else i)) H) := by
 intro pins s σ H xs us Q I r h
 obtain ⟨i, j, rfl, q⟩ := h
 obtain ⟨u, w', rfl, ⟨t, rfl⟩, ⟨t', rfl⟩⟩ := vals2 r
 refine min_two_ints (I.ok.hd hc) fun h' tk k => ⟨_, H, I.kept k, ?_, q⟩
 by_cases hj : j < i
 ·rw [if_pos hj, if_pos hj]; exact ⟨_, rfl⟩
 ·rw [if_neg hj, if_neg hj]; exact ⟨_, rfl⟩
end
structure JP (h : Heap) (x dx C : Addr) (mA : Str -> Option Value) : Prop where
 obj : h.get? x = some (PySem.W.instObj C dx)
 ns : h.Ns1 dx mA
 ne : dx ≠ x
theorem J0 {h : Heap} {dx : Addr} {mA : Str -> Option Value} (n : h.Ns1 dx mA) : ∃ od, h.get? dx = some od /\ ∀ name, PySem.W.lookIn name od = some (mA name) := by
 obtain ⟨o, es, ep, ho, hd, hk, _, hm⟩ := n
 refine ⟨o, ho, fun name => ?_⟩
 have e := hm name
 unfold nsFind findBy at e
 rw [<- Array.find?_toList] at e
 unfold PySem.W.lookIn
 rw [hd]
 dsimp only
 split
 ·rename_i y q
  rw [q] at e
  exact congrArg some e
 ·rename_i q
  rw [q] at e
  have a : es.toList.any (·.refKey) = false := by
   rw [List.any_eq_false]
   intro y hy
   obtain ⟨z, t, hkey⟩ := hk y (Array.mem_toList_iff.mp hy)
   simp [DictEntry.refKey, hkey]
  have a' : ¬ es.toList.any (·.refKey) = true := by rw [a]; exact Bool.false_ne_true
  rw [if_neg a']
  exact congrArg some e
theorem JP.look {h : Heap} {x dx C : Addr} {mA : Str -> Option Value} (I : JP h x dx C mA) : ∃ od, PySem.W.InstAt h x (PySem.W.instObj C dx) C (some od) /\ ∀ name, PySem.W.lookIn name od = some (mA name) :=
 let ⟨od, ho, hl⟩ := J0 I.ns
 ⟨od, ⟨I.obj, rfl, rfl, ho⟩, hl⟩
section
variable {prog : Program} {w : World} {A : Around} {E : Value -> Shared -> Prop} {s : Shared} {K : PySem.W.Frag} {x dx C f : Addr} {mA : Str -> Option Value} {name : Str} {v : Value}
theorem get_map {expr : Bool} {Q : Value -> Shared -> Prop} (X : K.In s.heap) (I : JP s.heap x dx C mA) (hg : PySem.W.plainGet K C name = true) (hh : PySem.W.hasDictIn K C = true)
  (ha : PySem.W.findIn K (.ref C) name = some none) (hv : mA name = some v) (hv' : PySem.W.handedIn v = true) (h : Q v { s with toks := s.toks + 1 }) :
  wpAny (model prog w) A (getAttr (.ref x) name expr) Q E s := by
 obtain ⟨od, J, hl⟩ := I.look
 exact PySem.W.get_value X J (PySem.W.plainGet_of hg).1 (PySem.W.findObj_own hh ha rfl (by rw [hl, hv])) hv' h
theorem qcV {ns : List Str} {Q : Unit -> Shared -> Prop} (X : K.In s.heap) (I : JP s.heap x dx C mA)
  (hs : PySem.W.findIn K (.ref C) "__setattr__" = some (some (.builtin "object.__setattr__"))) (hp : PySem.W.plainOver K C = true) (ht : PySem.W.takerIn K C name = some none) (hh : PySem.W.hasDictIn K C = true)
  (hw : PySem.Within mA ns) (hsz : ns.length <= sizeLine)
  (h : ∀ h', JP h' x dx C (fun y => if y = name then some v else mA y) -> Heap.SameBut dx s.heap h' -> Q () { s with heap := h', toks := s.toks + 2 }) :
  wpAny (model prog w) A (setAttr (.ref x) name v) Q E s := by
 obtain ⟨od, J, hl⟩ := I.look
 refine PySem.W.set_plain X J hs (PySem.W.osa_open (s := { s with toks := s.toks + 1 }) (r := none) X J hp ht fun b => ?_)
 obtain ⟨cd, hc, hd'⟩ := PySem.W.any_some hh
 have hx : s.heap.get? x = some ⟨.ref C, some dx, .plain, #[]⟩ := I.obj
 refine wpAny_bind (wpAny_pure (wpAny_bind (wpAny_bind (wpAny_loadPart hx (wpAny_bind (PySem.W.Looks.here (s := { s with toks := s.toks + 1 }) (PySem.W.looks_clsIn X hc) ?_))))))
 rw [hd']
 refine wpAny_pure (a := some dx) (wpAny_bind (wpAny_pure (wpAny_bind ?_)))
 refine wpAny_nsSet1 (s := { s with toks := s.toks + 1 }) I.ns fun h' hn2 hs2 => ?_
 obtain ⟨oD, esD, epD, hoD, hdD, hcD⟩ := hn2.count (PySem.Within.cons name v hw)
 refine wpAny_bind (wpAny_lookBehind hoD (by rw [hdD]; exact pastItsLine_dict (Nat.le_trans hcD (by rw [List.length_cons]; lia))) ?_)
 exact wpAny_pure (h _ ⟨(hs2.2 _ (Ne.symm I.ne)).trans I.obj, hn2, I.ne⟩ hs2)
theorem qbS {R : Result -> Shared -> Prop} {vs : List Value} {kw : List (Str × Value)} (X : K.In s.heap) (hm : PySem.W.makesIn K C = true)
  (hi : PySem.W.findIn K (.ref C) "__init__" = some (some (.ref f))) (hf : PySem.W.typeIn K (.ref f) = some (.type "function"))
  (h : codeAny (model prog w) (A.under (.builtin "type.__call__" ⟨.ref C :: vs, kw⟩)) (.call (.ref f) ⟨.ref (s.heap.objs.size + 1) :: vs, kw⟩) (PySem.W.InitBack (s.heap.objs.size + 1) R)
   { s with heap := (s.heap.push PySem.W.emptyDict).push (PySem.W.instObj C s.heap.objs.size) }) :
  codeAny (model prog w) A (.call (.ref C) ⟨vs, kw⟩) R s := by
 obtain ⟨hh, g, d, t, os⟩ := s
 exact PySem.W.make_core (PySem.W.makes_of X hm) (PySem.W.looks_findIn X hi) (fun self => PySem.W.bind_fn X self hf) (.inl rfl) h
end
noncomputable def yD (f : Str) (v : V) : List (Str × V) -> List (Str × V)
 | [] => [(f, v)]
 | (g, x) :: r => if g = f then (g, v) :: r else (g, x) :: yD f v r
theorem Qd (f g : Str) (v : V) : ∀ fs : List (Str × V), (yD f v fs).lookup g = if g = f then some v else fs.lookup g
 | [] => by
  show List.lookup g [(f, v)] = _
  by_cases h : g = f
  ·have hb : (g == f) = true := beq_iff_eq.mpr h
   simp only [List.lookup, hb, if_pos h]
  ·have hb : (g == f) = false := beq_eq_false_iff_ne.mpr h
   simp only [List.lookup, hb, if_neg h]
 | (k, x) :: r => by
  have ih := Qd f g v r
  rw [show yD f v ((k, x) :: r) = (if k = f then (k, v) :: r else (k, x) :: yD f v r) from rfl]
  by_cases hk : k = f
  ·rw [if_pos hk]
   by_cases h : g = k
   ·have hb : (g == k) = true := beq_iff_eq.mpr h
    simp only [List.lookup, hb, if_pos (h.trans hk)]
   ·have hb : (g == k) = false := beq_eq_false_iff_ne.mpr h
    simp only [List.lookup, hb, if_neg (fun e : g = f => h (e.trans hk.symm))]
  ·rw [if_neg hk]
   by_cases h : g = k
   ·have hb : (g == k) = true := beq_iff_eq.mpr h
    simp only [List.lookup, hb, if_neg (fun e : g = f => hk (h.symm.trans e))]
   ·have hb : (g == k) = false := beq_eq_false_iff_ne.mpr h
    simp only [List.lookup, hb]
    exact ih
theorem jY (f : Str) (v : V) : ∀ fs : List (Str × V), f ∈ (yD f v fs).map (·.1) /\ ∀ g, g ∈ fs.map (·.1) -> g ∈ (yD f v fs).map (·.1)
 | [] => ⟨by simp [yD], fun g h => by simp at h⟩
 | (k, x) :: r => by
  obtain ⟨i1, i2⟩ := jY f v r
  rw [show yD f v ((k, x) :: r) = (if k = f then (k, v) :: r else (k, x) :: yD f v r) from rfl]
  by_cases hk : k = f
  ·rw [if_pos hk]
   subst hk
   exact ⟨by simp, fun g h => by simpa using h⟩
  ·rw [if_neg hk]
   refine ⟨?_, fun g h => ?_⟩
   ·rw [List.map_cons]
    exact List.mem_cons_of_mem _ i1
   ·rw [List.map_cons] at h ⊢
    rcases List.mem_cons.mp h with e | e
    ·exact List.mem_cons.mpr (.inl e)
    ·exact List.mem_cons_of_mem _ (i2 g e)
theorem Qb (f : Str) (v : V) : ∀ fs : List (Str × V), (yD f v fs).length <= fs.length + 1
 | [] => by simp [yD]
 | (k, x) :: r => by
  have ih := Qb f v r
  rw [show yD f v ((k, x) :: r) = (if k = f then (k, v) :: r else (k, x) :: yD f v r) from rfl]
  by_cases hk : k = f
  ·rw [if_pos hk, List.length_cons, List.length_cons]; lia
  ·rw [if_neg hk, List.length_cons, List.length_cons]; lia
theorem UE.some_of {v : V} {o : Option Value} (r : UE (some v) o) : ∃ u, o = some u /\ RelV v u := by
 cases o with
 | none => exact (show False from r).elim
 | some u => exact ⟨u, rfl, r⟩
theorem qaf {v : V} {u : Value} (r : RelV v u) : PySem.W.handedIn u = true := by
 cases v with
 | non => cases (show u = Value.none from r); rfl
 | bl b => cases (show u = Value.bool b from r); rfl
 | int i => obtain ⟨t, e⟩ := (show ∃ t, u = Value.int i t from r); cases e; rfl
 | str x => obtain ⟨t, e⟩ := (show ∃ t, u = Value.str x t from r); cases e; rfl
 | byt b => obtain ⟨t, e⟩ := (show ∃ t, u = Value.bytes b t from r); cases e; rfl
 | flt b => obtain ⟨t, e⟩ := (show ∃ t, u = Value.float b t from r); cases e; rfl
 | ref a => cases (show u = Value.ref a from r); rfl
 | ty n => cases (show u = Value.type n from r); rfl
section
variable {P : Program} {w : World} {H H' : Hp} {h h' : Heap} {a C dx : Addr} {fs fs' : List (Str × V)}
theorem Jc (hok : HOk P w H h) (e : H a = some (.ins C dx fs)) : ∃ mA, JP h a dx C mA /\ (∀ f, UE (fs.lookup f) (mA f)) /\ PySem.Within mA (fs.map (·.1)) /\ fs.length <= 1000 /\ H dx = some (.own a) := by
 obtain ⟨d, z, ne, ob, mA, n, r, q⟩ := (show zw P w H h a (.ins C dx fs) from hok a _ e)
 exact ⟨mA, ⟨ob, n, ne⟩, r, q, z, d⟩
end
structure Cls (K : PySem.W.Frag) (C : Addr) : Prop where
 pg : PySem.W.plainGet K C Str.empty = true
 hd : PySem.W.hasDictIn K C = true
 po : PySem.W.plainOver K C = true
 sa : PySem.W.findIn K (.ref C) "__setattr__" = some (some (.builtin "object.__setattr__"))
theorem Cls.get {K : PySem.W.Frag} {C : Addr} (c : Cls K C) (f : Str) : PySem.W.plainGet K C f = true := c.pg
noncomputable def vM (K : PySem.W.Frag) (C : Addr) (f : Str) : Prop := PySem.W.findIn K (.ref C) f = some none
theorem vM.qfm {K : PySem.W.Frag} {C : Addr} {f : Str} (n : vM K C f) : PySem.W.takerIn K C f = some none := by
 unfold PySem.W.takerIn
 rw [show PySem.W.findIn K (.ref C) f = some none from n]
 rfl
section
variable {X : Cx} {pins : List (Addr × Obj)} {σ : St} {H : Hp} {s : Shared} {a C dx : Addr} {fs : List (Str × V)} {f : Str} {v : V} {A : Around} {E : Value -> Shared -> Prop}
theorem XS {b : Bool} {Q : Value -> Shared -> Prop} (I : Inv X pins σ H s) (e : H a = some (.ins C dx fs)) (c : Cls X.K C) (n : vM X.K C f) (l : fs.lookup f = some v)
  (h : ∀ u s', Inv X pins σ H s' -> RelV v u -> Q u s') : wpAny (model X.prog X.w) A (getAttr (.ref a) f b) Q E s := by
 obtain ⟨mA, O, r, _, _, _⟩ := Jc I.hok e
 obtain ⟨u, hu, ru⟩ := UE.some_of (v := v) (o := mA f) (by rw [<- l]; exact r f)
 exact get_map I.kIn O (c.get f) c.hd n hu (qaf ru) (h u _ (I.tok _) ru)
theorem UD {y : V} {u : Value} {Q : Unit -> Shared -> Prop} (I : Inv X pins σ H s) (e : H a = some (.ins C dx fs)) (c : Cls X.K C) (n : vM X.K C f) (hl : fs.length < 1000) (ry : RelV y u)
  (h : ∀ s', Inv X pins σ (upd H a (.ins C dx (yD f y fs))) s' -> Q () s') : wpAny (model X.prog X.w) A (setAttr (.ref a) f u) Q E s := by
 obtain ⟨mA, O, r, wi, _, ho⟩ := Jc I.hok e
 have hz : (fs.map (·.1)).length <= sizeLine := by rw [List.length_map, sizeLine_eq]; lia
 refine qcV I.kIn O c.sa c.po n.qfm c.hd wi hz fun h' O' sb => h _ ?_
 have hd : ∃ o, h'.get? dx = some o := let ⟨o, _, _, e', _⟩ := O'.ns; ⟨o, e'⟩
 refine I.write (x := a) (e := dx) (by rw [e]; exact True.intro) (.inr ho) (fun b q hb z => (sb.2 b hb).trans z) hd ?_
 refine ⟨by rw [qy O.ne]; exact ho, ?_, O.ne, O'.obj, _, O'.ns, fun g => ?_, fun g hg => ?_⟩
 ·have := Qb f y fs; lia
 ·show UE ((yD f y fs).lookup g) (if g = f then some u else mA g)
  rw [Qd]
  by_cases q : g = f
  ·rw [if_pos q, if_pos q]; exact ry
  ·rw [if_neg q, if_neg q]; exact r g
 ·by_cases q : g = f
  ·rw [q]; exact (jY f y fs).1
  ·refine (jY f y fs).2 g (wi g fun z => hg ?_)
   show (if g = f then some u else mA g) = none
   rw [if_neg q]; exact z
theorem Inv.made (I : Inv X pins σ H s) : Inv X pins σ (upd (upd H s.heap.objs.size (.own (s.heap.objs.size + 1))) (s.heap.objs.size + 1) (.ins C s.heap.objs.size []))
  { s with heap := (s.heap.push PySem.W.emptyDict).push (PySem.W.instObj C s.heap.objs.size) } := by
 have e1 : (s.heap.push PySem.W.emptyDict).get? s.heap.objs.size = some PySem.W.emptyDict := Heap.get?_push_size s.heap rfl
 have e2 : ((s.heap.push PySem.W.emptyDict).push (PySem.W.instObj C s.heap.objs.size)).get? (s.heap.objs.size + 1) = some (PySem.W.instObj C s.heap.objs.size) := by
  have := Heap.get?_push_size (s.heap.push PySem.W.emptyDict) (o := PySem.W.instObj C s.heap.objs.size) rfl
  rwa [Heap.size_push] at this
 have e3 : (s.heap.push PySem.W.emptyDict).Ns s.heap.objs.size (fun _ => none) := ⟨PySem.W.emptyDict, #[], _, e1, rfl, (fun e he => absurd he (by simp)), fun _ => rfl⟩
 have I1 := I.laid (a := s.heap.objs.size) (o := .own (s.heap.objs.size + 1)) (h' := s.heap.push PySem.W.emptyDict) (t' := s.toks) (fun b u q => Heap.get?_push_of_some _ q) (Nat.le_refl _) ⟨_, e1⟩
 refine I1.laid (a := s.heap.objs.size + 1) (o := .ins C s.heap.objs.size []) (t' := s.toks) (fun b u q => Heap.get?_push_of_some _ q) (Nat.le_of_eq (Heap.size_push _ _)) ?_
 have ne : s.heap.objs.size ≠ s.heap.objs.size + 1 := Nat.ne_of_lt (Nat.lt_succ_self _)
 refine ⟨by rw [qy ne, qJ], Nat.zero_le _, ne, e2, fun _ => none, (Heap.Ns1.of_empty e3).at fun o q => Heap.get?_push_of_some _ q, fun _ => True.intro, fun y hy => absurd rfl hy⟩
theorem qcb {prog : Program} {w : World} {env : Env} {e : Expr} {f : Str} {pos : Pos} {s : Shared} {Q : Value -> Shared -> Prop} (hb : attributeBase e f env (eval e env) = eval e env)
  (h : wpAny (model prog w) A (eval e env) (fun o s₁ => wpAny (model prog w) A (getAttr o f true) Q E s₁) E s) : wpAny (model prog w) A (eval (.Attribute e f pos) env) Q E s :=
 Attribute_any_ h (by rw [arm_eval_Attribute, hb])
end
noncomputable def qf2 (K : PySem.W.Frag) (ta : TE) (f : Str) : TE := fun σ H Q => ta σ H fun x H1 => ∃ a C dx fs v, x = .ref a /\ H1 a = some (.ins C dx fs) /\ Cls K C /\ vM K C f /\ fs.lookup f = some v /\ Q v H1
noncomputable def qfG (K : PySem.W.Frag) (ta tv : TE) (f : Str) : TS := fun D σ H => tv σ H fun y H1 => ta σ H1 fun x H2 => ∃ a C dx fs, x = .ref a /\ H2 a = some (.ins C dx fs) /\ Cls K C /\ vM K C f /\ fs.length < 1000 /\
 D.nx σ (upd H2 a (.ins C dx (yD f y fs)))
section
variable {X : Cx} {o e value : Expr} {f : Str} {pos pos' tpos : Pos} {ta tv : TE}
theorem qbu (he : PE X e ta) (hb : attributeBase e f X.env (eval e X.env) = eval e X.env) : PE X (.Attribute e f pos) (qf2 X.K ta f) := by
 intro pins s σ H Q I h
 refine qcb hb (thn (he pins s σ H _ I h) fun u s1 ⟨x, H1, I1, rx, a, C, dx, fs, v, ex, ea, c, n, l, q⟩ => ?_)
 subst ex
 obtain rfl : u = Value.ref a := rx
 exact XS I1 ea c n l fun u' s2 I2 ru => ⟨v, H1, I2, ru, q⟩
theorem qba (ha : PE X o ta) (hv : PE X value tv) (hs : swapsWith value (some (.Attribute o f pos')) pos.line X.env = pure false) : PS X (.Assign [.Attribute o f pos'] value pos) (qfG X.K ta tv f) := by
 intro pins s σ H D I h
 refine plainObj_wpAny_Assign_Attribute (thn (hv pins s σ H _ I h) fun u s1 ⟨y, H1, I1, ry, q⟩ => thn (ha pins s1 σ H1 _ I1 q) fun ov s2 ⟨x, H2, I2, rx, a, C, dx, fs, ex, ea, c, n, l, q2⟩ => ?_) hs
 subst ex
 obtain rfl : ov = Value.ref a := rx
 exact UD I2 ea c n l ry fun s3 I3 => ⟨σ, _, I3, q2⟩
end
structure wG (k : Nat) (A : Around) : Prop where
 hd : A.handled = none
 dp : A.depth + 3 * k + 5 < recursionLimit
 un : A.units + 16 * k + 200 < cLine
theorem wG.mono {j k : Nat} {A : Around} (r : wG k A) (h : j <= k) : wG j A := ⟨r.hd, by have := r.dp; lia, by have := r.un; lia⟩
theorem wG.deeper {k : Nat} {A : Around} (r : wG (k + 1) A) (env : Env) : wG k (A.deeper env) :=
 ⟨r.hd, by have := r.dp; show A.depth + 1 + 3 * k + 5 < _; lia, by have := r.un; show A.units + 3 + 16 * k + 200 < _; lia⟩
theorem XE {A : Around} {C : Addr} {us : List Value} {kw : List (Str × Value)} : (A.under (.builtin "type.__call__" ⟨.ref C :: us, kw⟩)).depth = A.depth + 1 := by
 first | rfl | simp [Around.under, Code.weight, Code.isCreation, Code.isGuard, Code.isCaller, Code.frames, Code.isFrame, guardIds]
theorem Ud {A : Around} {C : Addr} {us : List Value} {kw : List (Str × Value)} : (A.under (.builtin "type.__call__" ⟨.ref C :: us, kw⟩)).units = A.units + 1 := by
 first | rfl | simp [Around.under, Code.cUnits, Code.frames, Code.isFrame]
theorem wG.make {k : Nat} {A : Around} (r : wG (k + 1) A) (C : Addr) (us : List Value) (kw : List (Str × Value)) : wG k (A.under (.builtin "type.__call__" ⟨.ref C :: us, kw⟩)) :=
 ⟨r.hd, by have := r.dp; rw [XE]; lia, by have := r.un; rw [Ud]; lia⟩
theorem wG.depth {k : Nat} {A : Around} (r : wG k A) : A.depth < recursionLimit := by have := r.dp; lia
theorem wG.units {k : Nat} {A : Around} (r : wG k A) : A.units + 64 < cLine := by have := r.un; lia
noncomputable def qeu : TA := fun _ H Q => Q [] H
noncomputable def qbp (ta : TE) (tr : TA) : TA := fun σ H Q => ta σ H fun x H1 => tr σ H1 fun xs H2 => Q (x :: xs) H2
section
variable {X : Cx} {e : Expr} {es : List Expr} {te : TE} {t : TA} {pos : Pos}
theorem zp : PA X [] qeu := fun _ _ _ _ H Q I h => Calls.spliced_nil ⟨[], H, I, .nil, h⟩
theorem vH (ha : PE X e te) (hr : PA X es t) (hs : autoParam (starEach (e :: es) X.env = (false, eval e X.env) :: starEach es X.env) qm._auto_1) : PA X (e :: es) (qbp te t) := by
 intro pos pins s σ H Q I h
 rw [hs]
 show wpAny _ _ (spliced ((false, eval e X.env) :: backTo pos (starEach es X.env))) _ _ s
 refine Calls.spliced_cons (thn (ha pins s σ H _ I h) fun u s1 ⟨x, H1, I1, r1, q1⟩ => ?_)
 exact thn (hr pos pins s1 σ H1 _ I1 q1) fun us s2 ⟨xs, H2, I2, r2, q2⟩ => ⟨x :: xs, H2, I2, .cons r1 r2, q2⟩
noncomputable def qfq (t : TA) : TE := fun σ H Q => t σ H fun xs H1 => xs.length <= sizeLine /\ ∀ p, H1 p = none -> Q (.ref p) (upd H1 p (.lst xs))
theorem Zp (h : PA X es t) : PE X (.List es pos) (qfq t) := by
 intro pins s σ H Q I hq
 refine wpAny_List_spliced (thn (h pos pins s σ H _ I hq) fun us s1 ⟨xs, H1, I1, r, z, q⟩ => ⟨by rw [<- r.length]; exact z, ?_⟩)
 have hf : H1 s1.heap.objs.size = none := I1.hok.fresh (Nat.le_refl _)
 refine ⟨.ref s1.heap.objs.size, upd H1 s1.heap.objs.size (.lst xs), I1.laid (t' := s1.toks) (fun b u e => Heap.get?_push_of_some _ e) (Nat.le_refl _) ?_, rfl, q _ hf⟩
 exact ⟨z, us, 0, r, Heap.get?_push_size _ rfl⟩
end
noncomputable abbrev Sp := List V -> Hp -> VK -> XK -> Prop
noncomputable abbrev CXT := List Env -> Hp -> Shared -> XK -> Value -> Shared -> Prop
structure Wr (P : Program) (w : World) (K : PySem.W.Frag) (mg : Str -> Option Value) (base : Heap) (A : Around) (outer : List Env) (s : Shared) (H : Hp) : Prop where
 frames : A.frames = some outer
 mod : Mod K mg base
 bs : ∀ b o, base.get? b = some o -> s.heap.get? b = some o /\ H b = none
 bsz : base.objs.size <= s.heap.objs.size
 ur : s.heap.FunFrames base outer
 frf : ∀ b ∈ frs outer, H b = none
 hok : HOk P w H s.heap
 bare : AllBare s.gens
noncomputable def CE (outer : List Env) (P : Program) (w : World) (H : Hp) (s : Shared) (Q : VK) (u : Value) (s' : Shared) : Prop :=
 ∃ v H', s'.os = s.os /\ AllBare s'.gens /\ Un (frs outer) [] H H' s.heap s'.heap /\ HOk P w H' s'.heap /\ RelV v u /\ Q v H'
noncomputable def CR (CX : CXT) (outer : List Env) (P : Program) (w : World) (H : Hp) (s : Shared) (Q : VK) (E : XK) (r : Result) (s' : Shared) : Prop :=
 match r with
 | .ok (.ret u) => CE outer P w H s Q u s'
 | .ok _ => False
 | .error e => CX outer H s E e s'
structure y4 (P : Program) (w : World) (K : PySem.W.Frag) (mg : Str -> Option Value) (base : Heap) (CX : CXT) (k : Nat) (f : Addr) (fd : FuncData) (ps : List Str) (sp : Sp) : Prop where
 len : ∀ vs H Q E, sp vs H Q E -> vs.length = ps.length
 run : ∀ (A : Around) (outer : List Env) (s : Shared) (H : Hp) (args : Args) (us : List Value) (vs : List V) (Q : VK) (E : XK), wG k A -> Wr P w K mg base A outer s H -> BindsTo s fd args (ps.zip us) -> Vals vs us -> sp vs H Q E ->
  codeAny (model P w) A (.call (.ref f) args) (CR CX outer P w H s Q E) s
theorem y4.imp {P : Program} {w : World} {K : PySem.W.Frag} {mg : Str -> Option Value} {base : Heap} {CX : CXT} {k : Nat} {f : Addr} {fd : FuncData} {ps : List Str} {sp sp' : Sp} (F : y4 P w K mg base CX k f fd ps sp)
  (h : ∀ vs H Q E, sp' vs H Q E -> sp vs H Q E) : y4 P w K mg base CX k f fd ps sp' :=
 ⟨fun vs H Q E q => F.len vs H Q E (h _ _ _ _ q), fun A outer s H args us vs Q E hr he hb hv hs => F.run A outer s H args us vs Q E hr he hb hv (h _ _ _ _ hs)⟩
theorem Wr.make {P : Program} {w : World} {K : PySem.W.Frag} {mg : Str -> Option Value} {base : Heap} {A : Around} {outer : List Env} {s : Shared} {H : Hp} (e : Wr P w K mg base A outer s H) (C : Addr) (us : List Value) (kw : List (Str × Value)) :
  Wr P w K mg base (A.under (.builtin "type.__call__" ⟨.ref C :: us, kw⟩)) outer s H := ⟨by first | exact e.frames | (simpa [Around.under, Code.envs, Code.isFrame, pushEnvs] using e.frames), e.mod, e.bs, e.bsz, e.ur, e.frf, e.hok, e.bare⟩
section
variable {X : Cx} {pins : List (Addr × Obj)} {σ : St} {H : Hp} {s s' : Shared}
theorem Inv.qcT (I : Inv X pins σ H s) : Wr X.prog X.w X.K X.mg X.base X.A X.stack s H :=
 ⟨I.ok.frames, I.ok.mod, I.bs, Nat.le_trans I.ok.bsz I.sz, I.stack, I.ZY, I.hok, I.bare⟩
theorem Inv.after {Q : VK} {u : Value} (I : Inv X pins σ H s) (h : CE X.stack X.prog X.w H s Q u s') : EP X pins σ Q u s' := by
 obtain ⟨v, H', os, bare, un, hok, r, q⟩ := h
 obtain ⟨hh, g, d, t, os'⟩ := s'
 obtain rfl : os' = s.os := os
 exact ⟨v, H', I.call (h' := hh) (g' := g) (d' := d) (t' := t) (ch := []) un hok bare (fun b z => absurd z (by simp)), r, q⟩
end
noncomputable def qbk (sp : Sp) (dvs : List V) (E : XK) (t : TA) : TE := fun σ H Q => t σ H fun vs H1 => sp (vs ++ dvs) H1 Q E
noncomputable def qe5 (C : Addr) (sp : Sp) (dvs : List V) (E : XK) (t : TA) : TE := fun σ H Q => t σ H fun vs H1 => ∀ x dx, H1 x = none -> H1 dx = none -> dx ≠ x ->
 sp (.ref x :: (vs ++ dvs)) (upd (upd H1 dx (.own x)) x (.ins C dx [])) (fun v H2 => v = .non /\ Q (.ref x) H2) E
noncomputable def Binds (K : PySem.W.Frag) (fd : FuncData) (ps : List Str) (ds : List Value) : Prop :=
 ∀ (s : Shared) (us : List Value), K.In s.heap -> (us ++ ds).length = ps.length -> BindsTo s fd ⟨us, []⟩ (ps.zip (us ++ ds))
theorem Binds.all {K : PySem.W.Frag} {fd : FuncData} {ps : List Str} (h : ∀ us : List Value, us.length = ps.length -> bindArgs fd ⟨us, []⟩ = pure (ps.zip us)) : Binds K fd ps [] := fun s us _ hl => by
 rw [List.append_nil] at hl ⊢
 exact .of_eq (h us hl)
noncomputable def Passes (CX : CXT) (X : Cx) (E : XK) : Prop := ∀ (pins : List (Addr × Obj)) (σ : St) (H : Hp) (s : Shared) (e : Value) (s' : Shared), Inv X pins σ H s -> CX X.stack H s E e s' -> X.xe e s'
section
variable {X : Cx} {CX : CXT} {k : Nat} {f C : Addr} {fd : FuncData} {ps : List Str} {sp : Sp} {dvs : List V} {ds : List Value} {E : XK} {x m : Str} {p pos apos : Pos} {e o : Expr} {es : List Expr} {ta : TE} {t : TA}
theorem qej {pins : List (Addr × Obj)} {σ : St} {H : Hp} {s : Shared} {Q : VK} {us : List Value} {vs : List V} (F : y4 X.prog X.w X.K X.mg X.base CX k f fd ps sp) (hr : wG k X.A) (hb : Binds X.K fd ps ds) (hd : Vals dvs ds) (hx : Passes CX X E)
  (I : Inv X pins σ H s) (r : Vals vs us) (h : sp (vs ++ dvs) H Q E) : wpAny (model X.prog X.w) X.A (call (.ref f) us) (EP X pins σ Q) X.xe s := by
 have r2 : Vals (vs ++ dvs) (us ++ ds) := r.append hd
 have hl : (us ++ ds).length = ps.length := by rw [<- r2.length]; exact F.len _ _ _ _ h
 refine wpAny_call (codeAny_mono (F.run X.A X.stack s H ⟨us, []⟩ (us ++ ds) (vs ++ dvs) Q E hr I.qcT (hb s us I.kIn hl) r2 h) fun r s' hq => ?_)
 cases r with
 | error e => exact hx pins σ H s e s' I hq
 | ok fl =>
  cases fl with
  | ret u => exact I.after hq
  | next => exact False.elim hq
  | brk => exact False.elim hq
  | cont => exact False.elim hq
theorem UM (F : y4 X.prog X.w X.K X.mg X.base CX k f fd ps sp) (hr : wG k X.A) (hg : Gl X x) (hm : X.mg x = some (.ref f)) (hk : PySem.W.keepIn X.K (.ref f) = true) (hb : Binds X.K fd ps ds) (hd : Vals dvs ds) (hx : Passes CX X E)
  (ha : PA X (e :: es) t) (hdb : autoParam ((x == ("__debug__" : Str)) = false) qV._auto_1) (he : autoParam (starEach (e :: es) X.env = (false, eval e X.env) :: starEach es X.env) qm._auto_1) (hpl : autoParam ((backTo pos (starEach es X.env)).any (·.1) = false) qm._auto_1) :
  PE X (.Call (.Name x p) (e :: es) [] pos) (qbk sp dvs E t) := by
 intro pins s σ H Q I h
 refine wpAny_Call_Name_kw (uj I hg hm ?_ hdb)
 refine PySem.W.callWith_K (h₀ := X.base) I.ok.mod.kin hk (thn (ha pos pins s σ H _ I h) fun us s1 ⟨vs, H1, I1, r, q⟩ => ⟨I1.kIn, ?_⟩) he hpl
 exact qej F hr hb hd hx I1 r q
structure Mk (K : PySem.W.Frag) (C f : Addr) : Prop where
 makes : PySem.W.makesIn K C = true
 init : PySem.W.findIn K (.ref C) "__init__" = some (some (.ref f))
 fn : PySem.W.isFn K (.ref f) = true
 kp : PySem.W.keepIn K (.ref C) = true
theorem qbL {pins : List (Addr × Obj)} {σ : St} {H : Hp} {s : Shared} {Q : VK} {us : List Value} {vs : List V} (M : Mk X.K C f) (F : y4 X.prog X.w X.K X.mg X.base CX k f fd ps sp) (hr : wG (k + 1) X.A) (hb : Binds X.K fd ps ds) (hd : Vals dvs ds)
  (hx : Passes CX X E) (I : Inv X pins σ H s) (r : Vals vs us)
  (h : ∀ x dx, H x = none -> H dx = none -> dx ≠ x -> sp (.ref x :: (vs ++ dvs)) (upd (upd H dx (.own x)) x (.ins C dx [])) (fun v H2 => v = .non /\ Q (.ref x) H2) E) :
  wpAny (model X.prog X.w) X.A (call (.ref C) us) (EP X pins σ Q) X.xe s := by
 have hq := h (s.heap.objs.size + 1) s.heap.objs.size (I.hok.fresh (Nat.le_succ _)) (I.hok.fresh (Nat.le_refl _)) (Nat.ne_of_lt (Nat.lt_succ_self _))
 have I2 := Inv.made (C := C) I
 have r2 : Vals (V.ref (s.heap.objs.size + 1) :: (vs ++ dvs)) (Value.ref (s.heap.objs.size + 1) :: (us ++ ds)) := .cons rfl (r.append hd)
 have hl : (Value.ref (s.heap.objs.size + 1) :: us ++ ds).length = ps.length := by
  have e := r2.length
  rw [F.len _ _ _ _ hq] at e
  exact e.symm
 refine wpAny_call (qbS (f := f) I.kIn M.makes M.init (beq_iff_eq.mp M.fn) (codeAny_mono (F.run _ X.stack _ _ ⟨Value.ref (s.heap.objs.size + 1) :: us, []⟩ (Value.ref (s.heap.objs.size + 1) :: (us ++ ds)) _ _ E (hr.make C us [])
  (I2.qcT.make C us []) (hb _ (Value.ref (s.heap.objs.size + 1) :: us) I2.kIn hl) r2 hq) fun r s' hq' => ?_))
 cases r with
 | error e => exact hx pins σ _ _ e s' I2 hq'
 | ok fl =>
  cases fl with
  | ret u =>
   obtain ⟨v, H', I3, rv, ev, q3⟩ := I2.after hq'
   subst ev
   exact ⟨rv, ⟨V.ref (s.heap.objs.size + 1), H', I3, rfl, q3⟩⟩
  | next => exact False.elim hq'
  | brk => exact False.elim hq'
  | cont => exact False.elim hq'
theorem qcB (M : Mk X.K C f) (F : y4 X.prog X.w X.K X.mg X.base CX k f fd ps sp) (hr : wG (k + 1) X.A) (hg : Gl X x) (hm : X.mg x = some (.ref C)) (hb : Binds X.K fd ps ds) (hd : Vals dvs ds) (hx : Passes CX X E)
  (ha : PA X (e :: es) t) (hdb : autoParam ((x == ("__debug__" : Str)) = false) qV._auto_1) (he : autoParam (starEach (e :: es) X.env = (false, eval e X.env) :: starEach es X.env) qm._auto_1) (hpl : autoParam ((backTo pos (starEach es X.env)).any (·.1) = false) qm._auto_1) :
  PE X (.Call (.Name x p) (e :: es) [] pos) (qe5 C sp dvs E t) := by
 intro pins s σ H Q I h
 refine wpAny_Call_Name_kw (uj I hg hm ?_ hdb)
 refine PySem.W.callWith_K (h₀ := X.base) I.ok.mod.kin M.kp (thn (ha pos pins s σ H _ I h) fun us s1 ⟨vs, H1, I1, r, q⟩ => ⟨I1.kIn, ?_⟩) he hpl
 exact qbL M F hr hb hd hx I1 r q
end
structure qu (N P : List Str) (sc : Scope) : Prop where
 kind : sc.kind = .function
 co : sc.isCoroutine = false
 gen : sc.isGenerator = false
 nd : N.Nodup
 pre : N.take P.length = P
 par : ∀ x ∈ P, sc.names.lookup x = some .local \/ sc.names.lookup x = some .cell
 nofree : ∀ y ∈ sc.names, y.2 ≠ .free
theorem Wy {kindOf : Str -> Option NameKind} {x : Str} : ∀ {binds : List (Str × Value)} {m : Str -> Option Value}, (∀ v, (x, v) ∉ binds) -> bindL kindOf binds m x = m x
 | [], _, _ => rfl
 | (n, v) :: r, m, h => by
  unfold bindL
  rw [Wy fun w hw => h w (List.mem_cons_of_mem _ hw)]
  split
  ·have : x ≠ n := by rintro rfl; exact h v List.mem_cons_self
   simp [this]
  ·rfl
theorem WT {kindOf : Str -> Option NameKind} {x : Str} : ∀ {binds : List (Str × Value)} {m : Str -> Option Value}, (∀ v, (x, v) ∉ binds) -> bindC kindOf binds m x = m x
 | [], _, _ => rfl
 | (n, v) :: r, m, h => by
  unfold bindC
  rw [WT fun w hw => h w (List.mem_cons_of_mem _ hw)]
  split
  ·rfl
  ·have : x ≠ n := by rintro rfl; exact h v List.mem_cons_self
   simp [this]
theorem WK {kindOf : Str -> Option NameKind} {x : Str} {v : Value} : ∀ {P : List Str} {vs : List Value} {i : Nat} {m : Str -> Option Value}, P.Nodup -> P[i]? = some x -> vs[i]? = some v -> kindOf x = some .local ->
  bindL kindOf (P.zip vs) m x = some v
 | [], _, _, _, _, h, _, _ => by simp at h
 | _ :: _, [], _, _, _, _, h, _ => by simp at h
 | p :: P, w :: vs, 0, m, nd, h1, h2, hk => by
  simp at h1 h2; subst h1; subst h2
  show bindL kindOf ((p, w) :: P.zip vs) m p = _
  unfold bindL
  rw [Wy fun v hv => (List.nodup_cons.mp nd).1 (List.of_mem_zip hv).1, if_pos hk]
  simp
 | p :: P, w :: vs, i + 1, m, nd, h1, h2, hk => by
  show bindL kindOf ((p, w) :: P.zip vs) m x = _
  unfold bindL
  exact WK (i := i) (List.nodup_cons.mp nd).2 (by simpa using h1) (by simpa using h2) hk
theorem WQ {kindOf : Str -> Option NameKind} {x : Str} {v : Value} : ∀ {P : List Str} {vs : List Value} {i : Nat} {m : Str -> Option Value}, P.Nodup -> P[i]? = some x -> vs[i]? = some v -> kindOf x ≠ some .local ->
  bindC kindOf (P.zip vs) m x = some v
 | [], _, _, _, _, h, _, _ => by simp at h
 | _ :: _, [], _, _, _, _, h, _ => by simp at h
 | p :: P, w :: vs, 0, m, nd, h1, h2, hk => by
  simp at h1 h2; subst h1; subst h2
  show bindC kindOf ((p, w) :: P.zip vs) m p = _
  unfold bindC
  rw [WT fun v hv => (List.nodup_cons.mp nd).1 (List.of_mem_zip hv).1, if_neg hk]
  simp
 | p :: P, w :: vs, i + 1, m, nd, h1, h2, hk => by
  show bindC kindOf ((p, w) :: P.zip vs) m x = _
  unfold bindC
  exact WQ (i := i) (List.nodup_cons.mp nd).2 (by simpa using h1) (by simpa using h2) hk
noncomputable def start (N : List Str) (vs : List V) : St := vs.map some ++ List.replicate (N.length - vs.length) none
noncomputable def xo (CX : CXT) (P : Program) (w : World) (K : PySem.W.Frag) (mg : Str -> Option Value) (base : Heap) (N : List Str) (qual : Str) (scope : Scope) (f : Addr) (cd : Value) (A : Around) (outer : List Env) (s : Shared) (H : Hp) (E : XK) : Cx where
 prog := P
 w := w
 K := K
 mg := mg
 base := base
 A := A.deeper (envOfC qual scope s.heap.objs.size f cd)
 N := N
 s_0 := s
 H_0 := H
 env := envOfC qual scope s.heap.objs.size f cd
 outer := outer
 stack := envOfC qual scope s.heap.objs.size f cd :: outer
 ex := []
 calm := true
 fn := fun _ => true
 pn := []
 xe := fun e s' => wpAny (model P w) (A.deeper (envOfC qual scope s.heap.objs.size f cd)) (leaving (envOfC qual scope s.heap.objs.size f cd) e) (fun _ s'' => CX outer H s E e s'') (fun e' s'' => CX outer H s E e' s'') s'
theorem Xf {sc : Scope} {n : Nat} {x : Str} (h : sc.names.lookup x = some .cell) : ∃ c, (cellsFrom n sc.names []).lookup x = some c := by
 have q := PySem.W.cellsFrom_some sc.names n [] (.inl h)
 exact Option.isSome_iff_exists.mp q
theorem Wx {CX : CXT} {P : Program} {w : World} {K : PySem.W.Frag} {mg : Str -> Option Value} {base : Heap} {N ps : List Str} {qual : Str} {scope : Scope} {f : Addr} {cd : Value} {A : Around} {outer : List Env} {s s1 : Shared} {H : Hp} {E : XK} {us : List Value} {vs : List V}
  (S : qu N ps scope) (hd : A.handled = none) (e0 : Wr P w K mg base A outer s H) (hl : vs.length = ps.length) (r : Vals vs us)
  (x : InCallC s s.heap.objs.size (bindL (envOfC qual scope s.heap.objs.size f cd).kindOf (ps.zip us) fun _ => none) (cellsFrom (s.heap.objs.size + 1) scope.names []) (bindC (envOfC qual scope s.heap.objs.size f cd).kindOf (ps.zip us) fun _ => none) s1) :
  Inv (xo CX P w K mg base N qual scope f cd A outer s H E) [] (start N vs) H s1 := by
 have hpl : ps.length <= N.length := by have := congrArg List.length S.pre; rw [List.length_take] at this; lia
 obtain ⟨h1, tk, rfl, hk⟩ := x.done
 have noA : ∀ b : Addr, b ∉ (xo CX P w K mg base N qual scope f cd A outer s H E).ex := fun b z => absurd (show b ∈ ([] : List Addr) from z) (by simp)
 refine ⟨⟨e0.mod, S.kind, rfl, rfl, Nat.le_refl _, fun y z c h1 h2 => ?_, fun y hy => ?_, fun y c _ h => ?_, fun _ => hd, Around.frames_deeper e0.frames, .inr ⟨rfl, rfl⟩, fun b z => absurd z (noA b), e0.bs, e0.bsz, fun b _ _ => noA b, fun b z => absurd z (noA b), e0.ur, e0.frf⟩,
  rfl, e0.bare, Un.kept hk, ⟨_, x.toInCall.ns, fun i y v h1 h2 h3 => ?_⟩, fun y c h => ⟨_, x.cell y c h⟩, e0.hok.fresh (Nat.le_refl _), fun y c h => ?_, fun p hp => absurd (show p ∈ ([] : List (Addr × Obj)) from hp) (by simp), e0.hok.kept hk, ?_⟩
 ·exact name_of_addr x.apart (PySem.mem_of_lookup h1) (PySem.mem_of_lookup h2)
 ·have hy : scope.names.lookup y = some .cell \/ scope.names.lookup y = some .free := hy
  rcases hy with hy | hy
  ·exact Xf hy
  ·exact absurd rfl (S.nofree _ (PySem.mem_of_lookup hy))
 ·exact Nat.le_of_lt (x.above y c (PySem.mem_of_lookup h))
 ·have hi : i < vs.length := by
   unfold start at h2
   by_cases hi : i < vs.length
   ·exact hi
   ·rw [List.getElem?_append_right (by simpa using hi)] at h2
    rw [List.getElem?_replicate] at h2
    split at h2 <;> cases h2
  have ha : vs[i]? = some v := by
   unfold start at h2
   rw [List.getElem?_append_left (by simpa using hi), List.getElem?_map] at h2
   cases e : vs[i]? with
   | none => rw [e] at h2; cases h2
   | some a => rw [e] at h2; cases h2; rfl
  obtain ⟨u, hu, rv⟩ := r.get ha
  have hp : ps[i]? = some y := by
   rw [<- S.pre, List.getElem?_take_of_lt (by lia)]; exact h1
  have ndP : ps.Nodup := by rw [<- S.pre]; exact S.nd.sublist (List.take_sublist _ _)
  refine ⟨u, rv, ?_⟩
  rcases S.par y (List.mem_of_getElem? hp) with k | k
  ·exact .inl ⟨k, WK ndP hp hu k⟩
  ·obtain ⟨c, e⟩ := Xf (n := s.heap.objs.size + 1) k
   refine .inr ⟨.inl k, c, e, ?_⟩
   have q := x.cell y c e
   rw [WQ ndP hp hu (by show scope.names.lookup y ≠ _; rw [k]; decide)] at q
   exact q
 ·exact e0.hok.fresh (Nat.le_of_lt (x.above y c (PySem.mem_of_lookup h)))
 ·unfold start
  show _ = N.length
  rw [List.length_append, List.length_map, List.length_replicate]
  lia
theorem U5 {CX : CXT} {P : Program} {w : World} {K : PySem.W.Frag} {mg : Str -> Option Value} {base : Heap} {k : Nat} {f : Addr} {name qual : Str} {params : Arguments} {body : List Stmt} {scope : Scope} {dV kV doc pm cdv ct oc : Value} {an od : Option Addr}
  {osl : Array (Option Value)} {N ps : List Str} {sp : Sp} (lk : K.lookup f = some ⟨oc, od, .func (PySem.W.fnOf name qual params body scope dV kV doc pm an cdv ct), osl⟩) (hcd : PySem.W.codeIn K cdv qual = true) (S : qu N ps scope)
  (len : ∀ vs H Q E, sp vs H Q E -> vs.length = ps.length)
  (hbody : ∀ (A : Around) (outer : List Env) (s : Shared) (H : Hp) (vs : List V) (Q : VK) (E : XK), wG k (A.deeper (envOfC qual scope s.heap.objs.size f cdv)) -> sp vs H Q E ->
   ∃ t, PSs (xo CX P w K mg base N qual scope f cdv A outer s H E) body t /\ t { nx := fun _ H' => Q .non H', rt := Q } (start N vs) H) :
  y4 P w K mg base CX (k + 1) f (PySem.W.fnOf name qual params body scope dV kV doc pm an cdv ct) ps sp := by
 refine ⟨len, fun A outer s H args us vs Q E hr e0 hb r hsp => ?_⟩
 have hl := len _ _ _ _ hsp
 have KX : K.In s.heap := e0.mod.kin.keeps fun b o e => (e0.bs b o e).1
 have lim : s.heap.NoLimit := e0.mod.nolimit.keeps fun b o e => (e0.bs b o e).1
 have hkind : ∀ y ∈ ps.zip us, scope.names.lookup y.1 = some .local \/ (scope.names.lookup y.1 = some .cell /\ ((cellsFrom (s.heap.objs.size + 1) scope.names []).lookup y.1).isSome = true) := fun ⟨n, v⟩ hy => by
  rcases S.par n (List.of_mem_zip hy).1 with q | q
  ·exact .inl q
  ·exact .inr ⟨q, PySem.W.cellsFrom_some _ _ _ (.inl q)⟩
 refine codeAny_call_function hr.depth (KX _ _ lk) rfl S.co S.gen rfl (PySem.W.codeRec_of KX hcd) (hb _ _ _ _ ?_)
 refine wpAny_newFunctionEnv_cells S.kind hkind fun env he s1 x => ?_
 subst he
 refine ⟨lim.keeps x.toInCall.keep, codeAny_func ?_⟩
 obtain ⟨t, ht, hq⟩ := hbody A outer s H vs Q E (hr.deeper _) hsp
 have I : Inv (xo CX P w K mg base N qual scope f cdv A outer s H E) [] (start N vs) H s1 := Wx S hr.hd e0 hl r x
 refine wpAny_mono (ht [] s1 (start N vs) H _ I hq) (fun fl s' hs => ?_) fun e s' hs => hs
 have fin : ∀ {σ' : St} {H' : Hp} {v : V} {u : Value}, Inv (xo CX P w K mg base N qual scope f cdv A outer s H E) [] σ' H' s' -> RelV v u -> Q v H' -> CE outer P w H s Q u s' :=
  fun {σ' H' v u} J rv q => ⟨v, H', J.os, J.bare, J.base, J.hok, rv, q⟩
 cases fl with
 | ret u =>
  obtain ⟨v, σ', H', J, rv, q⟩ := hs
  exact fin J rv q
 | next =>
  obtain ⟨σ', H', J, q⟩ := hs
  exact fin (v := V.non) (u := Value.none) J rfl q
 | brk =>
  obtain ⟨_, _, _, q⟩ := hs
  exact False.elim q
 | cont =>
  obtain ⟨_, _, _, q⟩ := hs
  exact False.elim q
section
variable {X : Cx} {x : Str} {p pos : Pos} {e : Expr} {es : List Expr} {t : TA} {id T : String} {r : List V -> Hp -> VK -> Prop}
noncomputable def tCB (r : List V -> Hp -> VK -> Prop) (t : TA) : TE := fun σ H Q => t σ H fun vs H1 => r vs H1 Q
theorem vO (hc : j4 X (.builtin id) r) (hg : Gl X x) (hm : X.mg x = none) (hv : bootBuiltins x = some (.builtin id)) (ha : PA X (e :: es) t) (hn : autoParam (x ≠ "__name__") qV._auto_1) (hdb : autoParam ((x == ("__debug__" : Str)) = false) qV._auto_1)
  (he : autoParam (starEach (e :: es) X.env = (false, eval e X.env) :: starEach es X.env) qm._auto_1) (hpl : autoParam ((backTo pos (starEach es X.env)).any (·.1) = false) qm._auto_1) : PE X (.Call (.Name x p) (e :: es) [] pos) (tCB r t) := by
 intro pins s σ H Q I h
 refine wpAny_Call_Name_kw (uQ I hg hm hv ?_ hn hdb)
 exact PyProof.Rows.callWith_builtin1 (thn (ha pos pins s σ H _ I h) fun us s1 ⟨vs, H1, I1, r1, q1⟩ => hc pins s1 σ H1 vs us Q I1 r1 q1) he hpl
theorem jX (hc : j4 X (.type T) r) (hg : Gl X x) (hm : X.mg x = none) (hv : bootBuiltins x = some (.type T)) (ha : PA X (e :: es) t) (hn : autoParam (x ≠ "__name__") qV._auto_1) (hdb : autoParam ((x == ("__debug__" : Str)) = false) qV._auto_1)
  (he : autoParam (starEach (e :: es) X.env = (false, eval e X.env) :: starEach es X.env) qm._auto_1) (hpl : autoParam ((backTo pos (starEach es X.env)).any (·.1) = false) qm._auto_1) : PE X (.Call (.Name x p) (e :: es) [] pos) (tCB r t) := by
 intro pins s σ H Q I h
 refine wpAny_Call_Name_kw (uQ I hg hm hv ?_ hn hdb)
 exact PyProof.Rows.callWith_type1 (thn (ha pos pins s σ H _ I h) fun us s1 ⟨vs, H1, I1, r1, q1⟩ => hc pins s1 σ H1 vs us Q I1 r1 q1) he hpl
end
end L2
namespace HT
open PySem PyProof.Rows
section
variable {prog : Program} {w : World} {A : Around} {E : Value -> Shared -> Prop} {s : Shared}
noncomputable def sIx (n d : Nat) : Option Int -> Nat
 | none => d
 | some v => if v < 0 then (v + (n : Int)).toNat else min v.toNat n
end
end HT
namespace L2
open PySem PySem.Spec PyProof.Rows
noncomputable abbrev TO := St -> Hp -> (Option Int -> Hp -> Prop) -> Prop
noncomputable def PO (X : Cx) (e : Option Expr) (t : TO) : Prop :=
 ∀ (pins : List (Addr × Obj)) (s : Shared) (σ : St) (H : Hp) (Q : Option Int -> Hp -> Prop), Inv X pins σ H s -> t σ H Q ->
  wpAny (model X.prog X.w) X.A (evalPart e X.env) (fun u s' => ∃ o H', Inv X pins σ H' s' /\ IsPart u o /\ Q o H') X.xe s
noncomputable def qb4 : TO := fun _ H Q => Q none H
noncomputable def qfD (t : TE) : TO := fun σ H Q => t σ H fun x H1 => ∃ i, x = .int i /\ Q (some i) H1
section
variable {X : Cx} {e : Expr} {te : TE} {lo hi : Option Expr} {tl th : TO} {pos p2 : Pos}
theorem qcd : PO X none qb4 := by
 intro pins s σ H Q I h
 rw [evalPart_none]
 exact wpAny_pure ⟨none, H, I, .none, h⟩
theorem qc8 (h : PE X e te) : PO X (some e) (qfD te) := by
 intro pins s σ H Q I hw
 rw [evalPart_some]
 refine thn (h pins s σ H _ I hw) fun u s1 ⟨x, H1, I1, r1, q1⟩ => ?_
 obtain ⟨i, rfl, q⟩ := q1
 obtain ⟨t, rfl⟩ := r1
 exact ⟨some i, H1, I1, .int i t, q⟩
noncomputable def SlR (X : Cx) (r : V -> Option Int -> Option Int -> Hp -> VK -> Prop) : Prop :=
 ∀ (pins : List (Addr × Obj)) (s : Shared) (σ : St) (H : Hp) (x : V) (v vl vu : Value) (lo hi : Option Int) (sl : Addr) (Q : VK), Inv X pins σ H s -> RelV x v -> s.heap.IsSliceOf sl vl vu .none -> IsPart vl lo -> IsPart vu hi -> r x lo hi H Q ->
  ∃ T id, typeLookup (.type T) "__getitem__" = pure (some (.builtin id)) /\ s.TypeIs v T /\ wpAny (model X.prog X.w) X.A (getItem v (.ref sl)) (EP X pins σ Q) X.xe s
noncomputable def qc5 (xs : List V) (lo hi : Option Int) : List V := (xs.drop (HT.sIx xs.length 0 lo)).take (HT.sIx xs.length xs.length hi - HT.sIx xs.length 0 lo)
theorem Yd (xs : List V) (lo hi : Option Int) : (qc5 xs lo hi).length <= xs.length := by
 unfold qc5
 rw [List.length_take, List.length_drop]
 lia
end
noncomputable def ixN (n : Nat) (i : Int) : Option Nat := if 0 <= i then (if i < n then some i.toNat else none) else if -(n : Int) <= i then some (i + n).toNat else none
noncomputable def atI {α : Type} (xs : List α) (i : Int) : Option α := (ixN xs.length i).bind fun j => xs[j]?
theorem Ji {n : Nat} {i : Int} {j : Nat} (h : ixN n i = some j) : seqIndex? i n = some j /\ j < n /\ -(n : Int) <= i /\ i < n := by
 unfold ixN at h
 by_cases h0 : 0 <= i
 ·rw [if_pos h0] at h
  by_cases h1 : i < n
  ·rw [if_pos h1] at h
   have e : i.toNat = j := Option.some.inj h
   exact ⟨by rw [seqIndex_of h0 h1, e], by lia, by lia, h1⟩
  ·rw [if_neg h1] at h; cases h
 ·rw [if_neg h0] at h
  by_cases h1 : -(n : Int) <= i
  ·rw [if_pos h1] at h
   have e : (i + n).toNat = j := Option.some.inj h
   exact ⟨by rw [seqIndex_neg (by lia) h1, e], by lia, h1, by lia⟩
  ·rw [if_neg h1] at h; cases h
theorem Jm {α : Type} {xs : List α} {i : Int} {v : α} (h : atI xs i = some v) : ∃ j, seqIndex? i xs.length = some j /\ xs[j]? = some v /\ j < xs.length /\ -(xs.length : Int) <= i /\ i < xs.length := by
 unfold atI at h
 cases e : ixN xs.length i with
 | none => rw [e] at h; cases h
 | some j =>
  rw [e] at h
  obtain ⟨h1, h2, h3, h4⟩ := Ji e
  exact ⟨j, h1, h, h2, h3, h4⟩
noncomputable def Z3 (b : Expr) : Prop := ∀ o i, subscripted b false o i = operate [o, i] (getItem o i)
noncomputable def IxR (X : Cx) (r : R2) : Prop :=
 ∀ (value slice : Expr) (pins : List (Addr × Obj)) (s : Shared) (σ : St) (H : Hp) (x y : V) (v u : Value) (Q : VK), Inv X pins σ H s -> RelV x v -> RelV y u -> r x y H Q ->
  subscripted slice false v u = operate [v, u] (getItem v u) -> wpAny (model X.prog X.w) X.A (subscriptTail value slice v u) (EP X pins σ Q) X.xe s
noncomputable def MtR (X : Cx) (id : String) (r : V -> List V -> Hp -> VK -> Prop) : Prop :=
 ∀ (pins : List (Addr × Obj)) (s : Shared) (σ : St) (H : Hp) (x : V) (xs : List V) (v : Value) (us : List Value) (Q : VK), Inv X pins σ H s -> RelV x v -> Vals xs us -> r x xs H Q ->
  wpAny (model X.prog X.w) X.A (call (.builtin id) (v :: us)) (EP X pins σ Q) X.xe s
section
variable {X : Cx} {a b : Expr} {ta tb : TE} {pos : Pos}
theorem IxR.or {r r' : R2} (h : IxR X r) (h' : IxR X r') : IxR X (fun x y H Q => r x y H Q \/ r' x y H Q) := by
 intro value slice pins s σ H x y v u Q I rx ry q hs
 rcases q with q | q
 ·exact h value slice pins s σ H x y v u Q I rx ry q hs
 ·exact h' value slice pins s σ H x y v u Q I rx ry q hs
theorem qdh {r : R2} (hr : IxR X r) (ha : PE X a ta) (hb : PE X b tb) (hs : Z3 b) : PE X (.Subscript a b pos) (tOp r ta tb) := by
 intro pins s σ H Q I h
 exact Subscript_ (qdH ha hb I h fun v u s2 x y H2 I2 rx ry q => hr a b pins s2 σ H2 x y v u Q I2 rx ry q (hs _ _))
noncomputable def qfz (K : PySem.W.Frag) : R2 := fun x y H Q => ∃ p xs i v, x = .ref p /\ y = .int i /\ SqL K H p xs /\ atI xs i = some v /\ Q v H
noncomputable def qfl (K : PySem.W.Frag) : R2 := fun x y H Q => ∃ p xs i v, x = .ref p /\ y = .int i /\ SqT K H p xs /\ atI xs i = some v /\ Q v H
theorem UP : IxR X (qfz X.K) := by
 intro value slice pins s σ H x y v u Q I rx ry h hs
 obtain ⟨p, xs, i, z, rfl, rfl, hq, he, q⟩ := h
 cases rx
 obtain ⟨t, rfl⟩ := ry
 obtain ⟨its, r, pl, hz⟩ := I.list hq
 obtain ⟨j, h1, h2, h3, h4, h5⟩ := Jm he
 obtain ⟨w, ew, rw'⟩ := r.get h2
 have hl := r.length
 have hn := Z1
 have fin : EP X pins σ Q w s := ⟨z, H, I, rw', q⟩
 by_cases h0 : 0 <= i
 ·have hj : i.toNat = j := by
   rw [seqIndex_of h0 h5] at h1
   exact Option.some.inj h1
  exact item_listR pl.isList h0 (by lia) (by rw [hj]; simpa using ew) fin hs
 ·have hj : (i + (its.toArray.size : Int)).toNat = j := by
   rw [seqIndex_neg (by lia) h4] at h1
   rw [List.size_toArray, <- hl]
   exact Option.some.inj h1
  exact subscriptTail_builtinR (x := w) pl.isList.typeIs slot_list_getitem.lookup
   (wpAny_getItem_list_neg (Q := fun r s' => r = w /\ EP X pins σ Q r s') pl.isList (by lia) (by rw [List.size_toArray] <;> lia) (by lia) (by rw [hj]; simpa using ew) ⟨rfl, fin⟩) hs
theorem qdX : IxR X (qfl X.K) := by
 intro value slice pins s σ H x y v u Q I rx ry h hs
 obtain ⟨p, xs, i, z, rfl, rfl, hq, he, q⟩ := h
 cases rx
 obtain ⟨t, rfl⟩ := ry
 obtain ⟨its, r, pl, hz⟩ := I.tuple hq
 obtain ⟨j, h1, h2, h3, h4, h5⟩ := Jm he
 obtain ⟨w, ew, rw'⟩ := r.get h2
 have hl := r.length
 have hn := Z1
 have fin : EP X pins σ Q w s := ⟨z, H, I, rw', q⟩
 exact subscriptTail_builtinR (x := w) pl.typeIs slot_tuple_getitem.lookup
  (getItem_tuple (j := j) (Q := fun r s' => r = w /\ EP X pins σ Q r s') pl (by lia) (by lia) (by rw [List.size_toArray, <- hl]; exact h1) (by simpa using ew) ⟨rfl, fin⟩) hs
theorem Xw (its : List Value) (n j : Nat) (u : Value) : Obj.mapSeq (·.setIfInBounds j u) { cls := .type "list", data := .seq its.toArray n } = { cls := .type "list", data := .seq (its.set j u).toArray n } := by
 simp [Obj.mapSeq]
theorem Inv.lst {pins : List (Addr × Obj)} {σ : St} {H : Hp} {s : Shared} {p : Addr} {xs : List V} (I : Inv X pins σ H s) (h : H p = some (.lst xs)) :
  ∃ (its : List Value) (n : Nat), Vals xs its /\ s.heap.get? p = some { cls := .type "list", data := .seq its.toArray n } /\ xs.length <= sizeLine := by
 obtain ⟨z, its, n, r, e⟩ := I.hok p _ h
 exact ⟨its, n, r, e, z⟩
theorem Inv.qd1 {pins : List (Addr × Obj)} {σ : St} {H : Hp} {s : Shared} {p : Addr} {xs ys : List V} {its its' : List Value} {n n' : Nat} {f : Obj -> Obj} (I : Inv X pins σ H s) (h : H p = some (.lst xs))
  (ho : s.heap.get? p = some { cls := .type "list", data := .seq its.toArray n }) (hf : f { cls := .type "list", data := .seq its.toArray n } = { cls := .type "list", data := .seq its'.toArray n' }) (r : Vals ys its') (hz : ys.length <= sizeLine) (t : Nat) :
  Inv X pins σ (upd H p (.lst ys)) { s with heap := s.heap.update p f, toks := t } := by
 have e : (s.heap.update p f).get? p = some { cls := .type "list", data := .seq its'.toArray n' } := by
  rw [Heap.get?_update_self f ho (by rw [hf] <;> rfl), hf]
 refine I.write (x := p) (e := p) (by rw [h]; trivial) (.inl rfl) (fun b u hb q => (Heap.get?_update_other _ _ (Ne.symm hb)).trans q) ⟨_, e⟩ ?_
 exact ⟨hz, its', n', r, e⟩
noncomputable def qdm : V -> V -> V -> Hp -> (Hp -> Prop) -> Prop := fun o i v H Q => ∃ p xs k j, o = .ref p /\ i = .int k /\ H p = some (.lst xs) /\ ixN xs.length k = some j /\ Q (upd H p (.lst (xs.set j v)))
theorem set_list : qfx X qdm := by
 intro pins s σ H o i v ov iv u Q I ro ri rv h
 obtain ⟨p, xs, k, j, rfl, rfl, hp, hj, q⟩ := h
 cases ro
 obtain ⟨t, rfl⟩ := ri
 obtain ⟨its, n, r, ho, hz⟩ := I.lst hp
 obtain ⟨h1, h2, h3, h4⟩ := Ji hj
 have hl := r.length
 have hn := Z1
 have I' : Inv X pins σ (upd H p (.lst (xs.set j v))) { s with heap := s.heap.update p (Obj.mapSeq (·.setIfInBounds j u)) } :=
  I.qd1 hp ho (Xw its n j u) (r.set rv j) (by rw [List.length_set]; exact hz) s.toks
 by_cases h0 : 0 <= k
 ·have hk : k.toNat = j := by
   rw [seqIndex_of h0 h4] at h1
   exact Option.some.inj h1
  exact PySem.W.ki_setAt ho h0 (by lia) (by rw [List.size_toArray, <- hl]; exact h4) (by rw [hk]; exact ⟨_, I', q⟩)
 ·have hk : (k + (its.toArray.size : Int)).toNat = j := by
   rw [seqIndex_neg (by lia) h3] at h1
   rw [List.size_toArray, <- hl]
   exact Option.some.inj h1
  exact PySem.W.ki_setBack ho (by lia) (by rw [List.size_toArray, <- hl]; exact h3) (by lia) (by rw [hk]; exact ⟨_, I', q⟩)
theorem W9 (lo hi : Option Int) (n : Nat) : (sliceBounds lo hi none n).1 = ((HT.sIx n 0 lo : Nat) : Int) /\ (sliceBounds lo hi none n).2.1 = ((HT.sIx n n hi : Nat) : Int) /\ (sliceBounds lo hi none n).2.2 = 1 := by
 refine ⟨?_, ?_, rfl⟩
 ·cases lo with
  | none => simp [sliceBounds, HT.sIx]
  | some i =>
   simp only [sliceBounds, HT.sIx, Option.getD_none, show (1 : Int) > 0 by decide, if_true]
   by_cases h : i < 0
   ·simp only [h, if_true] <;> lia
   ·simp only [h, if_false] <;> lia
 ·cases hi with
  | none => simp [sliceBounds, HT.sIx]
  | some i =>
   simp only [sliceBounds, HT.sIx, Option.getD_none, show (1 : Int) > 0 by decide, if_true]
   by_cases h : i < 0
   ·simp only [h, if_true] <;> lia
   ·simp only [h, if_false] <;> lia
theorem Wd (its : List Value) (lo hi : Option Int) : slicePick its.toArray lo hi none = ((its.drop (HT.sIx its.length 0 lo)).take (HT.sIx its.length its.length hi - HT.sIx its.length 0 lo)).toArray := by
 obtain ⟨h1, h2, h3⟩ := W9 lo hi its.toArray.size
 unfold slicePick
 rw [h1, h2, h3]
 simp only [sliceRange_one, pick_run, List.size_toArray] <;> rfl
noncomputable def qfX (K : PySem.W.Frag) : V -> Option Int -> Option Int -> Hp -> VK -> Prop := fun x lo hi H Q => ∃ a xs, x = .ref a /\ SqL K H a xs /\ ∀ p, H p = none -> Q (.ref p) (upd H p (.lst (qc5 xs lo hi)))
theorem qfE : SlR X (qfX X.K) := by
 intro pins s σ H x v vl vu lo hi sl Q I rx hs pl pu h
 obtain ⟨a, xs, rfl, hx, q⟩ := h
 cases rx
 obtain ⟨its, r, ht, hz⟩ := I.list hx
 have hlen := r.length
 refine ⟨"list", _, slot_list_getitem.lookup, ht.isList.typeIs, ?_⟩
 refine wpAny_getItem_list_slice ht.isList hs pl pu .none (by simp) ?_ (by rw [List.size_toArray] <;> lia)
 rw [Wd, <- hlen]
 refine ⟨.ref s.heap.objs.size, _, I.laid (t' := s.toks) (o := .lst (qc5 xs lo hi)) (fun b ob q => Heap.get?_push_of_some _ q) (Nat.le_refl _) ?_, rfl, q _ (I.hok.fresh (Nat.le_refl _))⟩
 exact ⟨Nat.le_trans (Yd xs lo hi) hz, _, 0, (r.drop (HT.sIx xs.length 0 lo)).take (HT.sIx xs.length xs.length hi - HT.sIx xs.length 0 lo), Heap.get?_push_size _ rfl⟩
theorem vq : j4 X (.builtin "len") (fun xs H Q => ∃ p ys, xs = [.ref p] /\ (SqL X.K H p ys \/ SqT X.K H p ys) /\ Q (.int ys.length) H) := by
 intro pins s σ H xs us Q I r h
 obtain ⟨p, ys, rfl, hq, q⟩ := h
 obtain ⟨u, rfl, rx⟩ := vals1 r
 cases rx
 have hn := Z1
 rcases hq with hq | hq
 ·obtain ⟨its, r', pl, hz⟩ := I.list hq
  have hlen := r'.length
  exact Calls.call_len_list pl.isList (by simp only [List.size_toArray] <;> lia) ⟨.int ys.length, H, I.tok _, ⟨s.toks + 1, by rw [List.size_toArray, hlen]⟩, q⟩
 ·obtain ⟨its, r', pl, hz⟩ := I.tuple hq
  have hlen := r'.length
  exact len_tuple pl (by simp only [List.size_toArray] <;> lia) ⟨.int ys.length, H, I.tok _, ⟨s.toks + 1, by rw [List.size_toArray, hlen]⟩, q⟩
theorem uZ : j4 X (.type "list") (fun xs H Q => ∃ p ys, xs = [.ref p] /\ (SqL X.K H p ys \/ SqT X.K H p ys) /\ ∀ l, H l = none -> Q (.ref l) (upd H l (.lst ys))) := by
 intro pins s σ H xs us Q I r h
 obtain ⟨p, ys, rfl, hq, q⟩ := h
 obtain ⟨u, rfl, rx⟩ := vals1 r
 cases rx
 have fin : ∀ (its : List Value), Vals ys its -> ys.length <= sizeLine -> ∀ (h' : Heap) (c' : Nat), (∀ b o', s.heap.get? b = some o' -> h'.get? b = some o') ->
   h'.get? s.heap.objs.size = some { cls := .type "list", dict := none, data := .seq its.toArray c', slots := #[] } -> EP X pins σ Q (.ref s.heap.objs.size) { s with heap := h' } := fun its r' hz h' c' kp e =>
  ⟨.ref s.heap.objs.size, _, I.laid (t' := s.toks) kp (Nat.le_refl _) (show zw X.prog X.w _ h' _ (.lst ys) from ⟨hz, its, c', r', e⟩), rfl, q _ (I.hok.fresh (Nat.le_refl _))⟩
 rcases hq with hq | hq
 ·obtain ⟨its, r', pl, hz⟩ := I.list hq
  have hlen := r'.length
  obtain ⟨o, ho, hc, n, hd⟩ := pl.isList
  exact call_list_seq p (.inl rfl) ho hc hd (fun h' c' kp e => fin its r' hz h' c' kp e) (by simp only [List.size_toArray] <;> lia)
 ·obtain ⟨its, r', pl, hz⟩ := I.tuple hq
  have hlen := r'.length
  obtain ⟨o, ho, hc, n, hd⟩ := pl
  exact call_list_seq p (.inr rfl) ho hc hd (fun h' c' kp e => fin its r' hz h' c' kp e) (by simp only [List.size_toArray] <;> lia)
noncomputable def tyV (K : PySem.W.Frag) (T : String) (x : V) (H : Hp) : Prop := match x with
 | .str _ => T = "str"
 | .int _ => T = "int"
 | .ref p => (T = "list" /\ ∃ xs, SqL K H p xs) \/ (T = "tuple" /\ ∃ o, K.lookup p = some o /\ o.cls = .type "tuple" /\ o.dict = none) \/
   (T = "dict" /\ ((∃ kvs, H p = some (.dK kvs)) \/ ∃ kvs, H p = some (.dT kvs))) \/ (T = "set" /\ ∃ S n, H p = some (.set S n))
 | _ => False
theorem qbR {pins : List (Addr × Obj)} {σ : St} {H : Hp} {s : Shared} {T : String} {x : V} {v : Value} (I : Inv X pins σ H s) (r : RelV x v) (ty : tyV X.K T x H) :
  s.TypeIs v T /\ ∀ a, v = .ref a -> ∃ ob, s.heap.get? a = some ob /\ ob.dict = none := by
 cases x with
 | str z =>
  obtain ⟨t, rfl⟩ := r
  cases (show T = "str" from ty)
  exact ⟨typeIs_str s z t, fun _ e => nomatch e⟩
 | int i =>
  obtain ⟨t, rfl⟩ := r
  cases (show T = "int" from ty)
  exact ⟨typeIs_int s i t, fun _ e => nomatch e⟩
 | ref p =>
  cases r
  rcases ty with ⟨rfl, xs, hq⟩ | ⟨rfl, o, hk, hc, hd⟩ | ⟨rfl, hk⟩ | ⟨rfl, S, n, hk⟩
  ·obtain ⟨its, _, pl, _⟩ := I.list hq
   refine ⟨pl.isList.typeIs, fun a e => ?_⟩
   cases e
   obtain ⟨o, n, e, c, hd, _⟩ := pl
   exact ⟨o, e, hd⟩
  ·refine ⟨⟨o, I.kIn p o hk, hc⟩, fun a e => ?_⟩
   cases e
   exact ⟨o, I.kIn _ o hk, hd⟩
  ·have z : ∃ o, s.heap.get? p = some o /\ o.ExactDict := by
    rcases hk with ⟨kvs, hk⟩ | ⟨kvs, hk⟩
    ·obtain ⟨_, _, _, _, o, _, _, e, ex, _⟩ := I.hok p _ hk
     exact ⟨o, e, ex⟩
    ·obtain ⟨_, _, _, _, o, _, _, e, ex, _⟩ := I.hok p _ hk
     exact ⟨o, e, ex⟩
   obtain ⟨o, e, ex⟩ := z
   refine ⟨⟨o, e, ex.1⟩, fun a e2 => ?_⟩
   cases e2
   exact ⟨o, e, ex.2.1⟩
  ·obtain ⟨o, _, _, _, e, ex, _⟩ := I.hok p _ hk
   refine ⟨⟨o, e, ex.1⟩, fun a e2 => ?_⟩
   cases e2
   exact ⟨o, e, ex.2.1⟩
 | _ => exact False.elim ty
noncomputable def qe6 (K : PySem.W.Frag) (T : String) (r : V -> List V -> Hp -> VK -> Prop) (to : TE) : TE := fun σ H Q => to σ H fun x H1 => tyV K T x H1 /\ r x [] H1 Q
noncomputable def tBM (K : PySem.W.Frag) (T : String) (r : V -> List V -> Hp -> VK -> Prop) (to : TE) (t : TA) : TE := fun σ H Q => to σ H fun x H1 => tyV K T x H1 /\ t σ H1 fun xs H2 => r x xs H2 Q
variable {o e : Expr} {es : List Expr} {to : TE} {t : TA} {name : Str} {apos cpos : Pos} {T id : String} {r : V -> List V -> Hp -> VK -> Prop}
theorem qdN (pa : PlainAttrs T) (slot : Slot T name id) (hty : typeOf (.builtin id) = pure (.type "method_descriptor")) (hm : MtR X id r) (ho : PE X o to)
  (hbase : autoParam (attributeBase o name X.env (eval o X.env) = eval o X.env) qm._auto_1) (hline : autoParam ((apos.endLine == cpos.line) = true) qm._auto_1) : PE X (.Call (.Attribute o name apos) [] [] cpos) (qe6 X.K T r to) := by
 intro pins s σ H Q I h
 refine wpAny_Call_method0_late hbase hline (thn (ho pins s σ H _ I h) fun v s1 ⟨x, H1, I1, r1, ty, q1⟩ => ?_)
 obtain ⟨h1, h2⟩ := qbR I1 r1 ty
 exact ⟨T, id, pa, slot, hty, h1, h2, Calls.callWith_builtin rfl (PySem.evalArgs_none (hm pins s1 σ H1 x [] v [] Q I1 r1 .nil q1))⟩
theorem qfd (pa : PlainAttrs T) (slot : Slot T name id) (hty : typeOf (.builtin id) = pure (.type "method_descriptor")) (hm : MtR X id r) (ho : PE X o to) (ha : PA X (e :: es) t)
  (hbase : autoParam (attributeBase o name X.env (eval o X.env) = eval o X.env) qm._auto_1)
  (hfew : ((backTo cpos (starEach (e :: es) X.env)).all (fun x => !x.1) && (backToKw cpos (keywordEach [] X.env)).all (fun x => x.1.isSome)
   && decide ((e :: es).length + ([] : List Keyword).length + (if ([] : List Keyword).isEmpty then 0 else 1) < 30)) = true := by rfl)
  (hline : autoParam ((apos.endLine == cpos.line) = true) qm._auto_1) (hs : autoParam (starEach (e :: es) X.env = (false, eval e X.env) :: starEach es X.env) qm._auto_1) (hplain : autoParam ((backTo cpos (starEach es X.env)).any (·.1) = false) qm._auto_1) :
  PE X (.Call (.Attribute o name apos) (e :: es) [] cpos) (tBM X.K T r to t) := by
 intro pins s σ H Q I h
 refine wpAny_Call_method_late hbase hfew hline rfl (thn (ho pins s σ H _ I h) fun v s1 ⟨x, H1, I1, r1, ty, q1⟩ => ?_)
 obtain ⟨h1, h2⟩ := qbR I1 r1 ty
 refine ⟨T, id, pa, slot, hty, h1, h2, ?_⟩
 have hA := ha cpos pins s1 σ H1 _ I1 q1
 rw [hs] at hA ⊢
 refine Calls.callWith_builtin (by show (false || (backTo cpos (starEach es X.env)).any (·.1)) = false; rw [hplain] <;> rfl) (Calls.evalArgs_plain ?_)
 exact thn hA fun us s2 ⟨vs, H2, I2, r2, q2⟩ => hm pins s2 σ H2 x vs v us Q I2 r1 r2 q2
end
noncomputable def MtM (X : Cx) (id : String) (r : V -> List V -> Hp -> VK -> Prop) : Prop :=
 ∀ (pins : List (Addr × Obj)) (s : Shared) (σ : St) (H : Hp) (x : V) (xs : List V) (v : Value) (us : List Value) (Q : VK), Inv X pins σ H s -> RelV x v -> Vals xs us -> r x xs H Q ->
  wpAny (model X.prog X.w) X.A (call (.builtin id) (v :: us)) (EP X pins σ Q) X.xe s
theorem Vals.one : ∀ {x : V} {us : List Value}, Vals [x] us -> ∃ u, us = [u] /\ RelV x u
 | _, _, .cons r .nil => ⟨_, rfl, r⟩
theorem Vals.rep {xs : List V} {us : List Value} (h : Vals xs us) : ∀ k : Nat, Vals (List.replicate k xs).flatten (List.replicate k us).flatten
 | 0 => .nil
 | k + 1 => by
  rw [List.replicate_succ, List.replicate_succ, List.flatten_cons, List.flatten_cons]
  exact Vals.append h (Vals.rep h k)
theorem foldl_rep (its : List Value) : ∀ (k : Nat) (acc : List Value),
  List.foldl (fun x1 x2 => x1 ++ x2) acc.toArray (List.replicate k its.toArray) = (acc ++ (List.replicate k its).flatten).toArray
 | 0, acc => by simp
 | k + 1, acc => by
  have e : acc.toArray ++ its.toArray = (acc ++ its).toArray := by simp
  have e2 : (acc ++ its) ++ (List.replicate k its).flatten = acc ++ (List.replicate (k + 1) its).flatten := by
   rw [List.replicate_succ, List.flatten_cons, List.append_assoc]
  rw [<- e2, <- foldl_rep its k (acc ++ its), <- e, List.replicate_succ, List.foldl_cons]
section
variable {X : Cx} {pins : List (Addr × Obj)} {σ : St} {H : Hp} {s : Shared} {l b : Addr} {xs ys zs : List V}
theorem Inv.qdE {its its' : List Value} {n : Nat} {f : Array Value -> Array Value} {t' : Nat} (I : Inv X pins σ H s) (hH : H l = some (.lst xs))
  (e : s.heap.get? l = some { cls := .type "list", data := .seq its.toArray n }) (hf : f its.toArray = its'.toArray) (hv : Vals ys its') (hz : ys.length <= sizeLine) :
  Inv X pins σ (upd H l (.lst ys)) { s with heap := s.heap.update l (Obj.mapSeq f), toks := t' } := by
 have q := PySem.IsL.update e f
 rw [hf] at q
 refine I.write (x := l) (e := l) (by rw [hH]; exact trivial) (.inl rfl) (fun b' u hb hu => (Heap.get?_update_other s.heap (Obj.mapSeq f) (Ne.symm hb)).trans hu) ⟨_, q⟩ ?_
 exact ⟨hz, its', _, hv, q⟩
theorem Inv.qcl {its : List Value} {t' : Nat} (I : Inv X pins σ H s) (hv : Vals ys its) (hz : ys.length <= sizeLine) :
  Inv X pins σ (upd H s.heap.objs.size (.lst ys)) { s with heap := s.heap.push { cls := .type "list", data := .seq its.toArray }, toks := t' } :=
 I.laid (fun _ _ q => Heap.get?_push_of_some _ q) (Nat.le_refl _) ⟨hz, its, 0, hv, Heap.get?_push_size _ rfl⟩
theorem Inv.fresh (I : Inv X pins σ H s) : H s.heap.objs.size = none := I.hok.fresh (Nat.le_refl _)
theorem Inv.XA (I : Inv X pins σ H s) (hH : H l = some (.lst xs)) : xs.length <= sizeLine /\ ∃ (its : List Value) (n : Nat), Vals xs its /\ xs.length = its.length /\ s.heap.get? l = some { cls := .type "list", data := .seq its.toArray n } := by
 obtain ⟨z, its, n, r, e⟩ := I.hok l _ hH
 exact ⟨z, its, n, r, r.length, e⟩
theorem Vo {n : Nat} (h : n <= sizeLine) : Builtin.List.listTooLong n = false := by
 unfold Builtin.List.listTooLong
 exact decide_eq_false (by lia)
end
section
variable {X : Cx}
noncomputable def qb1 : V -> List V -> Hp -> VK -> Prop := fun x vs H Q => ∃ l xs y, x = .ref l /\ vs = [y] /\ H l = some (.lst xs) /\ xs.length < sizeLine /\ Q .non (upd H l (.lst (xs ++ [y])))
theorem qeQ : MtM X "list.append" qb1 := by
 intro pins s σ H x vs v us Q I rx rv h
 obtain ⟨l, xs, y, rfl, rfl, hH, hz, q⟩ := h
 cases rx
 obtain ⟨u, rfl, ru⟩ := rv.one
 obtain ⟨z, its, n, r, hl, e⟩ := I.XA hH
 refine call_meets F.slot_list_append ⟨_, e, rfl⟩ F.entry_list_append (F.args_list_append_2 _ _) (PySem.list_append l its.toArray n u (by rw [List.size_toArray]; lia)) ⟨e, ?_⟩
 refine ⟨.non, _, I.qdE (its' := its ++ [u]) hH e (by simp) (r.append (.cons ru .nil)) ?_, rfl, q⟩
 rw [List.length_append, List.length_singleton]
 lia
noncomputable def qcr : V -> List V -> Hp -> VK -> Prop := fun x vs H Q => ∃ l b xs zs, x = .ref l /\ vs = [.ref b] /\ H l = some (.lst xs) /\ H b = some (.lst zs) /\ xs.length + zs.length <= sizeLine /\ Q .non (upd H l (.lst (xs ++ zs)))
theorem qeO : MtM X "list.extend" qcr := by
 intro pins s σ H x vs v us Q I rx rv h
 obtain ⟨l, b, xs, zs, rfl, rfl, hH, hB, hz, q⟩ := h
 cases rx
 obtain ⟨u, rfl, ru⟩ := rv.one
 cases ru
 obtain ⟨z, its, n, r, hl, e⟩ := I.XA hH
 obtain ⟨z2, its2, n2, r2, hl2, e2⟩ := I.XA hB
 have hsz : its.toArray.size + its2.toArray.size <= sizeLine := by rw [List.size_toArray, List.size_toArray]; lia
 have hlong : ¬ (!its.toArray.isEmpty && Builtin.List.listTooLong (its.toArray.size + its2.toArray.size)) = true := by
  rw [Vo hsz, Bool.and_false]
  exact Bool.false_ne_true
 refine call_meets F.slot_list_extend ⟨_, e, rfl⟩ F.entry_list_extend (F.args_list_extend_2 _ _)
  (AutoSeq1.list_extend_list_list_0 l its.toArray n b its2.toArray n2 hlong (by rw [List.size_toArray]; lia) (by lia)) ⟨e, e2, ?_⟩
 refine ⟨.non, _, I.qdE (its' := its ++ its2) hH e (by simp) (r.append r2) ?_, rfl, q⟩
 rw [List.length_append]
 lia
noncomputable def qeS : R2 := fun x y H Q => ∃ l b xs zs, x = .ref l /\ y = .ref b /\ H l = some (.lst xs) /\ H b = some (.lst zs) /\ xs.length + zs.length <= sizeLine /\ ∀ p, H p = none -> Q (.ref p) (upd H p (.lst (xs ++ zs)))
theorem qdT : OpR X (binaryOp .Add) qeS := by
 intro pins s σ H x y v u Q I rx ry h
 obtain ⟨l, b, xs, zs, rfl, rfl, hH, hB, hz, q⟩ := h
 cases rx
 cases ry
 obtain ⟨z, its, n, r, hl, e⟩ := I.XA hH
 obtain ⟨z2, its2, n2, r2, hl2, e2⟩ := I.XA hB
 refine PySem.P.add_list e e2 ?_ (by rw [List.size_toArray, List.size_toArray]; lia)
 have ea : its.toArray ++ its2.toArray = (its ++ its2).toArray := by simp
 rw [ea]
 exact ⟨.ref _, _, I.qcl (t' := s.toks) (r.append r2) (by rw [List.length_append]; lia), rfl, q _ I.fresh⟩
noncomputable def qeT : R2 := fun x y H Q => ∃ l k xs, x = .ref l /\ y = .int k /\ H l = some (.lst xs) /\ -(2 ^ 63) <= k /\ k < 2 ^ 63 /\ xs.length * k.toNat <= sizeLine /\
 ∀ p, H p = none -> Q (.ref p) (upd H p (.lst (List.replicate k.toNat xs).flatten))
theorem len_rep {α : Type} (xs : List α) (k : Nat) : (List.replicate k xs).flatten.length = k * xs.length := by
 induction k with
 | zero => simp
 | succ k ih => rw [List.replicate_succ, List.flatten_cons, List.length_append, ih, Nat.succ_mul, Nat.add_comm]
theorem Xk : OpR X (binaryOp .Mult) qeT := by
 intro pins s σ H x y v u Q I rx ry h
 obtain ⟨l, k, xs, rfl, rfl, hH, h1, h2, hz, q⟩ := h
 cases rx
 obtain ⟨t, rfl⟩ := ry
 obtain ⟨z, its, n, r, hl, e⟩ := I.XA hH
 have hlen : its.toArray.size * k.toNat <= sizeLine := by rw [List.size_toArray, <- hl]; exact hz
 have hcap : ¬ its.toArray.size * k.toNat > (2 ^ 63 - 1) / 8 := by
  have : (sizeLine : Nat) <= (2 ^ 63 - 1) / 8 := by decide
  lia
 have hfit : ¬ (!Builtin.List.listFitsIndex k) = true := by
  rw [fitsIndex_both h1 h2]
  exact Bool.false_ne_true
 have hlong : ¬ Builtin.List.listTooLong (its.toArray.size * k.toNat) = true := by
  rw [Vo hlen]
  exact Bool.false_ne_true
 have hnew : List.foldl (fun x1 x2 => x1 ++ x2) #[] (List.replicate (if its.toArray.isEmpty = true then 0 else k.toNat) its.toArray) = (List.replicate k.toNat its).flatten.toArray := by
  have f0 : ∀ m : Nat, List.foldl (fun x1 x2 => x1 ++ x2) #[] (List.replicate m its.toArray) = (List.replicate m its).flatten.toArray := fun m => by
   have := foldl_rep its m []
   rw [List.nil_append] at this
   exact this
  rw [f0]
  cases its with
  | nil => simp
  | cons a r' => rw [if_neg (by simp)]
 refine wpAny_binaryOp_repeat_ref (T := "list") (U := "int") (by decide) ⟨_, e, rfl⟩ (fun s' => typeIs_int s' k t) noFill_list_mul F.fills_int_mul F.slot_int_rmul repeat_list F.slot_int_index.lookup
  (call_meets F.slot_int_rmul (typeIs_int s k t) F.entry_int_rmul (F.args_int_rmul_2 _ _) (int___rmul___int_list k t l its.toArray n)
   ⟨e, rfl, ⟨_, e, rfl⟩, call_meets F.slot_list_mul ⟨_, e, rfl⟩ F.entry_list_mul (F.args_list_mul_2 _ _) (AutoListH.list___mul___list_int_3 l its.toArray n k t hfit hcap hlong) ⟨e, ?_⟩⟩)
 rw [hnew]
 exact ⟨.ref _, _, I.qcl (t' := s.toks) (r.rep k.toNat) (by rw [len_rep, Nat.mul_comm]; exact hz), rfl, q _ I.fresh⟩
end
theorem Vals.qfS {a : Addr} {us : List Value} (r : Vals [V.ref a] us) : us = [Value.ref a] := by
 cases r with
 | cons r t =>
  cases t
  cases r
  rfl
mutual
inductive Dp (K : PySem.W.Frag) (H : Hp) : V -> PyData -> Prop
 | non : Dp K H .non .none
 | bl (b : Bool) : Dp K H (.bl b) (.bool b)
 | int (i : Int) : Dp K H (.int i) (.int i)
 | str (x : Str) : Dp K H (.str x) (.str x)
 | lst {a : Addr} {xs : List V} {ds : List PyData} : SqL K H a xs -> V2 K H xs ds -> Dp K H (.ref a) (.list ds)
 | tup {a : Addr} {xs : List V} {ds : List PyData} : SqT K H a xs -> V2 K H xs ds -> Dp K H (.ref a) (.tuple ds)
inductive V2 (K : PySem.W.Frag) (H : Hp) : List V -> List PyData -> Prop
 | nil : V2 K H [] []
 | cons {v : V} {vs : List V} {d : PyData} {ds : List PyData} : Dp K H v d -> V2 K H vs ds -> V2 K H (v :: vs) (d :: ds)
end
section
variable {X : Cx} {pins : List (Addr × Obj)} {σ : St} {H : Hp} {s : Shared}
mutual
theorem Dp.reads (I : Inv X pins σ H s) : ∀ (d : PyData) (v : V) (u : Value), Dp X.K H v d -> RelV v u -> ∃ as, Reads s.heap u d as
 | .none, _, _, h, r => by
  cases h
  cases r
  exact ⟨_, Reads.none⟩
 | .bool b, _, _, h, r => by
  cases h
  cases r
  exact ⟨_, Reads.bool b⟩
 | .int i, _, _, h, r => by
  cases h
  obtain ⟨t, rfl⟩ := r
  exact ⟨_, Reads.int i t⟩
 | .str x, _, _, h, r => by
  cases h
  obtain ⟨t, rfl⟩ := r
  exact ⟨_, Reads.str x t⟩
 | .list ds, _, _, h, r => by
  cases h with
  | lst hs ha =>
   cases r
   obtain ⟨its, rv, ⟨o, n, ho, hc, _, hd⟩, _⟩ := I.list hs
   obtain ⟨as, hr⟩ := Dp.readsAll I ds _ its ha rv
   exact ⟨_, Reads.list ho hc hd hr⟩
 | .tuple ds, _, _, h, r => by
  cases h with
  | tup hs ha =>
   cases r
   obtain ⟨its, rv, ⟨o, ho, hc, n, hd⟩, _⟩ := I.tuple hs
   obtain ⟨as, hr⟩ := Dp.readsAll I ds _ its ha rv
   exact ⟨_, Reads.tuple ho hc hd hr⟩
 | .dict _, _, _, h, _ => by cases h
theorem Dp.readsAll (I : Inv X pins σ H s) : ∀ (ds : List PyData) (vs : List V) (us : List Value), V2 X.K H vs ds -> Vals vs us -> ∃ as, ReadsAll s.heap us ds as
 | [], _, _, h, r => by
  cases h
  cases r
  exact ⟨_, ReadsAll.nil⟩
 | d :: ds, _, _, h, r => by
  cases h with
  | cons h1 h2 =>
   cases r with
   | cons r1 r2 =>
    obtain ⟨as, q1⟩ := Dp.reads I d _ _ h1 r1
    obtain ⟨bs, q2⟩ := Dp.readsAll I ds _ _ h2 r2
    exact ⟨_, ReadsAll.cons q1 q2⟩
end
end
section
variable {X : Cx}
noncomputable def qev (K : PySem.W.Frag) : R2 := fun x y H Q => ∃ d e, Dp K H x d /\ Dp K H y e /\ SeqAt.shaped d = true /\ SeqAt.shaped e = true /\ Q (.bl (PyData.eqv d e)) H
noncomputable def qdK (K : PySem.W.Frag) : R2 := fun x y H Q => ∃ d e, Dp K H x d /\ Dp K H y e /\ SeqAt.shaped d = true /\ SeqAt.shaped e = true /\ Q (.bl (!PyData.eqv d e)) H
theorem qd8 (hu : X.A.units + 64 < cLine) : OpR X (compareOp .Eq) (qev X.K) := by
 intro pins s σ H x y v u Q I rx ry h
 obtain ⟨d, e, hd, he, sd, se, q⟩ := h
 obtain ⟨as, r1⟩ := Dp.reads I d x v hd rx
 obtain ⟨bs, r2⟩ := Dp.reads I e y u he ry
 exact SeqAt.compareEq_shaped r1 r2 sd se hu ⟨.bl _, H, I, rfl, q⟩
theorem qdL (hu : X.A.units + 64 < cLine) : OpR X (compareOp .NotEq) (qdK X.K) := by
 intro pins s σ H x y v u Q I rx ry h
 obtain ⟨d, e, hd, he, sd, se, q⟩ := h
 obtain ⟨as, r1⟩ := Dp.reads I d x v hd rx
 obtain ⟨bs, r2⟩ := Dp.reads I e y u he ry
 exact SeqAt.compareNe_shaped r1 r2 sd se hu ⟨.bl _, H, I, rfl, q⟩
end
noncomputable abbrev qbo (h : Heap) (c : Addr) (v : Option Value) : Prop := h.IsCell c v
noncomputable def qfY (scope sc : Scope) : Scope :=
 { scope with names := scope.names.map fun (n, k) => if (k == .free && sc.kind == .function && sc.names.lookup n == some .cell) then (n, .cell) else (n, k) }
noncomputable def qL (cells : List (Str × Addr)) : List (Str × NameKind) -> List (Str × Addr) -> List (Str × Addr)
 | [], acc => acc
 | (n, k) :: r, acc => if k == .free then qL cells r ((n, (cells.lookup n).getD 0) :: acc) else qL cells r acc
theorem ju (env : Env) (f : Str × NameKind -> List (Str × Addr) -> Sem (ForInStep (List (Str × Addr))))
  (hf : ∀ n k c, f (n, k) c = if k == .free then (do let a <- cellOf env n; pure (.yield ((n, a) :: c))) else pure (.yield c)) :
  ∀ (names : List (Str × NameKind)) (acc : List (Str × Addr)), (∀ y ∈ names, y.2 = .free -> ∃ c, env.cells.lookup y.1 = some c) -> forIn names acc f = pure (qL env.cells names acc)
 | [], acc, _ => by rw [List.forIn_nil]; rfl
 | (n, k) :: r, acc, h => by
  rw [List.forIn_cons, hf]
  have ih := fun acc => ju env f hf r acc fun y hy => h y (List.mem_cons_of_mem _ hy)
  unfold qL
  by_cases hk : (k == NameKind.free) = true
  ·rw [if_pos hk, if_pos hk]
   obtain ⟨c, hc⟩ := h (n, k) List.mem_cons_self (by simpa using hk)
   have e : cellOf env n = pure c := by unfold cellOf; rw [hc]
   rw [e]
   have e2 : (env.cells.lookup n).getD 0 = c := by rw [hc]; rfl
   rw [e2]
   exact ih _
  ·rw [if_neg hk, if_neg hk]
   exact ih _
theorem VL {scope : Scope} {env : Env} (h : ∀ y ∈ scope.names, y.2 = .free -> ∃ c, env.cells.lookup y.1 = some c) : closureFor scope env = pure (qL env.cells scope.names []) := by
 simp only [closureFor]
 rw [ju env _ (fun n k c => rfl) scope.names [] h]
 rfl
theorem mem_lookup {α : Type} : ∀ {l : List (Str × α)} {n : Str} {c : α}, (n, c) ∈ l -> ∃ c', l.lookup n = some c'
 | (k, v) :: r, n, c, h => by
  rw [List.lookup_cons]
  cases hb : n == k with
  | true => exact ⟨_, rfl⟩
  | false =>
   rcases List.mem_cons.mp h with e | h
   ·cases e; simp at hb
   ·exact mem_lookup h
theorem zI {cells : List (Str × Addr)} : ∀ {names : List (Str × NameKind)} {acc : List (Str × Addr)} {n : Str} {c : Addr}, (n, c) ∈ qL cells names acc -> (n, c) ∈ acc \/ ((n, .free) ∈ names /\ c = (cells.lookup n).getD 0)
 | [], _, _, _, h => .inl h
 | (m, k) :: r, acc, n, c, h => by
  unfold qL at h
  split at h
  ·rename_i hk
   have hk : k = .free := by simpa using hk
   rcases zI h with h | ⟨h1, h2⟩
   ·rcases List.mem_cons.mp h with e | h
    ·cases e; exact .inr ⟨hk ▸ List.mem_cons_self, rfl⟩
    ·exact .inl h
   ·exact .inr ⟨List.mem_cons_of_mem _ h1, h2⟩
  ·rcases zI h with h | ⟨h1, h2⟩
   ·exact .inl h
   ·exact .inr ⟨List.mem_cons_of_mem _ h1, h2⟩
theorem xu {cells : List (Str × Addr)} : ∀ {names : List (Str × NameKind)} {acc : List (Str × Addr)} {p : Str × Addr}, p ∈ acc -> p ∈ qL cells names acc
 | [], _, _, h => h
 | (m, k) :: r, acc, p, h => by
  unfold qL
  split
  ·exact xu (List.mem_cons_of_mem _ h)
  ·exact xu h
theorem yn {cells : List (Str × Addr)} : ∀ {names : List (Str × NameKind)} {acc : List (Str × Addr)} {n : Str}, (n, .free) ∈ names -> (n, (cells.lookup n).getD 0) ∈ qL cells names acc
 | (m, k) :: r, acc, n, h => by
  unfold qL
  rcases List.mem_cons.mp h with e | h
  ·cases e
   exact xu List.mem_cons_self
  ·split
   ·exact yn h
   ·exact yn h
theorem yM : ∀ {names : List (Str × NameKind)} {h : Heap} {acc : List (Str × Addr)} {x : Str} {c : Addr}, (x, c) ∈ cellsFrom h.objs.size names acc ->
  (x, c) ∈ acc \/ ((x, .cell) ∈ names /\ h.objs.size <= c /\ qbo (pushCells h names) c none)
 | [], _, _, _, _, h => .inl h
 | (n, k) :: r, h, acc, x, c, hm => by
  unfold cellsFrom at hm
  unfold pushCells
  split at hm
  ·rename_i hk
   rw [if_pos hk]
   have hk : k = .cell := by simpa using hk
   rw [<- Heap.size_push h { cls := .type "cell", data := .cell none }] at hm
   rcases yM hm with hm | ⟨h1, h2, h3⟩
   ·rcases List.mem_cons.mp hm with e | hm
    ·cases e
     exact .inr ⟨hk ▸ List.mem_cons_self, Nat.le_refl _, _, pushCells_keeps r _ _ _ (Heap.get?_push_size _ rfl), rfl⟩
    ·exact .inl hm
   ·rw [Heap.size_push] at h2
    exact .inr ⟨List.mem_cons_of_mem _ h1, Nat.le_of_succ_le h2, h3⟩
  ·rename_i hk
   rw [if_neg hk]
   rcases yM hm with hm | ⟨h1, h2, h3⟩
   ·exact .inl hm
   ·exact .inr ⟨List.mem_cons_of_mem _ h1, h2, h3⟩
theorem uc : ∀ {names : List (Str × NameKind)} {n : Nat} {acc : List (Str × Addr)} {p : Str × Addr}, p ∈ acc -> p ∈ cellsFrom n names acc
 | [], _, _, _, h => h
 | (m, k) :: r, n, acc, p, h => by
  unfold cellsFrom
  split
  ·exact uc (List.mem_cons_of_mem _ h)
  ·exact uc h
theorem jR : ∀ {names : List (Str × NameKind)} {n : Nat} {acc : List (Str × Addr)} {x : Str}, (x, .cell) ∈ names -> ∃ c, (x, c) ∈ cellsFrom n names acc
 | (m, k) :: r, n, acc, x, h => by
  unfold cellsFrom
  rcases List.mem_cons.mp h with e | h
  ·cases e
   exact ⟨n, uc List.mem_cons_self⟩
  ·split
   ·exact jR h
   ·exact jR h
theorem jB : ∀ {names : List (Str × NameKind)} {h : Heap} {acc : List (Str × Addr)} {x y : Str} {c : Addr}, (∀ p ∈ acc, p.2 < h.objs.size) -> (∀ x y c, (x, c) ∈ acc -> (y, c) ∈ acc -> x = y) ->
  (x, c) ∈ cellsFrom h.objs.size names acc -> (y, c) ∈ cellsFrom h.objs.size names acc -> x = y
 | [], _, _, _, _, _, _, hi, h1, h2 => hi _ _ _ h1 h2
 | (n, k) :: r, h, acc, x, y, c, hl, hi, h1, h2 => by
  unfold cellsFrom at h1 h2
  split at h1
  ·rename_i hk
   rw [if_pos hk] at h2
   rw [<- Heap.size_push h { cls := .type "cell", data := .cell none }] at h1 h2
   refine jB (h := h.push _) (fun p hp => ?_) (fun x y c a b => ?_) h1 h2
   ·rw [Heap.size_push]
    rcases List.mem_cons.mp hp with rfl | hp
    ·exact Nat.lt_succ_self _
    ·exact Nat.lt_succ_of_lt (hl p hp)
   ·rcases List.mem_cons.mp a with e | a <;> rcases List.mem_cons.mp b with e' | b
    ·cases e; cases e'; rfl
    ·cases e; exact absurd (hl _ b) (Nat.lt_irrefl _)
    ·cases e'; exact absurd (hl _ a) (Nat.lt_irrefl _)
    ·exact hi _ _ _ a b
  ·rename_i hk
   rw [if_neg hk] at h2
   exact jB hl hi h1 h2
theorem Z8 {M : Model} {A : Around} {E : Value -> Shared -> Prop} {s : Shared} {scope : Scope} {globals : Addr} {closure : List (Str × Addr)} {qual : Str} {func : Option Addr} {code : Value} {around : Env} {builtins : Addr} {Q : Env -> Shared -> Prop}
  (h : Q (newEnv scope s.heap.objs.size globals (cellsFrom (s.heap.objs.size + 1) scope.names closure) qual func code (some around) builtins)
   { s with heap := pushCells (s.heap.push { cls := .type "dict", data := .dict #[] }) scope.names }) :
  wpAny M A (newFunctionEnv scope globals closure [] qual func code (some around) builtins) Q E s := by
 simp only [newFunctionEnv, Option.isSome_some, if_true]
 refine wpAny_bind (wpAny_alloc ?_)
 refine wpAny_bind (wpAny_layCells _ (fun n k c => rfl) scope.names closure _ _ ?_)
 rw [show ({ s with heap := s.heap.push { cls := .type "dict", data := .dict #[] } } : Shared).heap.objs.size = s.heap.objs.size + 1 from Heap.size_push ..]
 rw [List.forIn_nil]
 exact wpAny_bind (wpAny_pure (wpAny_pure h))
theorem xr {sc : Scope} : ∀ {names : List (Str × NameKind)} {x : Str} {k : NameKind},
  (names.map fun (n, k) => if (k == NameKind.free && sc.kind == .function && sc.names.lookup n == some .cell) then (n, NameKind.cell) else (n, k)).lookup x = some k ->
  ∃ k', names.lookup x = some k' /\ (k = k' \/ (k' = .free /\ k = .cell))
 | [], _, _, h => by simp at h
 | (n, k₀) :: r, x, k, h => by
  have ih := @xr sc r x k
  have h' : List.lookup x ((if (k₀ == NameKind.free && sc.kind == .function && sc.names.lookup n == some .cell) = true then (n, NameKind.cell) else (n, k₀)) :: (r.map _)) = some k := h
  cases hx : x == n with
  | true =>
   simp only [List.lookup_cons, hx]
   by_cases hc : (k₀ == NameKind.free && sc.kind == .function && sc.names.lookup n == some .cell) = true
   ·rw [if_pos hc] at h'
    simp only [List.lookup_cons, hx] at h'
    cases h'
    simp only [Bool.and_eq_true, beq_iff_eq] at hc
    exact ⟨k₀, rfl, .inr ⟨hc.1.1, rfl⟩⟩
   ·rw [if_neg hc] at h'
    simp only [List.lookup_cons, hx] at h'
    cases h'
    exact ⟨_, rfl, .inl rfl⟩
  | false =>
   simp only [List.lookup_cons, hx]
   by_cases hc : (k₀ == NameKind.free && sc.kind == .function && sc.names.lookup n == some .cell) = true
   ·rw [if_pos hc] at h'
    simp only [List.lookup_cons, hx] at h'
    exact ih h'
   ·rw [if_neg hc] at h'
    simp only [List.lookup_cons, hx] at h'
    exact ih h'
structure Ja (N : List Str) (sc scope : Scope) (own : List (Str × Nat)) : Prop where
 kind : scope.kind = .function
 uniq : ∀ y ∈ scope.names, scope.names.lookup y.1 = some y.2
 ix : ∀ p ∈ own, N[p.2]? = some p.1
 free : ∀ y ∈ scope.names, y.2 = .free -> sc.names.lookup y.1 = some .cell \/ sc.names.lookup y.1 = some .free
 own : ∀ y ∈ scope.names, y.2 = .local \/ y.2 = .cell -> y.1 ∈ own.map (·.1) \/ y.1 ∉ N
noncomputable def wipe (σ : St) : List Nat -> St
 | [] => σ
 | v :: vs => (wipe σ vs).set v none
theorem vS (σ : St) : ∀ vs : List Nat, (wipe σ vs).length = σ.length
 | [] => rfl
 | v :: vs => by unfold wipe; rw [List.length_set, vS σ vs]
theorem zj {σ : St} {i : Nat} {x : V} : ∀ {vs : List Nat}, (wipe σ vs)[i]? = some (some x) -> σ[i]? = some (some x) /\ i ∉ vs
 | [], h => ⟨h, by simp⟩
 | v :: vs, h => by
  unfold wipe at h
  by_cases hi : v = i
  ·subst hi
   by_cases hv : v < (wipe σ vs).length
   ·rw [List.getElem?_set_self hv] at h; cases h
   ·rw [List.getElem?_eq_none (by simpa using hv)] at h; cases h
  ·rw [List.getElem?_set_ne hi] at h
   obtain ⟨h1, h2⟩ := zj h
   exact ⟨h1, by simp only [List.mem_cons, not_or]; exact ⟨fun e => hi e.symm, h2⟩⟩
noncomputable abbrev Cx.blk (X : Cx) (s : Shared) (H : Hp) (scope : Scope) (cenv : Env) (fp : List Addr) : Cx := { X with s_0 := s, H_0 := H, env := cenv, outer := X.stack, ex := fp, fn := fun x => scope.names.lookup x == some .cell, pn := [], xe := fun _ _ => False }
section
variable {X : Cx} {pins : List (Addr × Obj)} {σ : St} {H : Hp} {s : Shared}
theorem YY {scope : Scope} {own : List (Str × Nat)} {fp : List Addr} (I : Inv X pins σ H s) (ok : Ja X.N X.env.scope scope own) (hN : X.N.Nodup) (hfp : ∀ b ∈ fp, jH X pins H b /\ b < s.heap.objs.size) :
  Inv (X.blk s H scope (compEnvC scope (cellsFrom (s.heap.objs.size + 1) scope.names (qL X.env.cells scope.names [])) s.heap.objs.size X.env) fp) [] (wipe σ (own.map (·.2))) H { s with heap := pushCells (s.heap.push { cls := .type "dict", data := .dict #[] }) scope.names } := by
 have hfree : ∀ y ∈ scope.names, y.2 = .free -> ∃ c, X.env.cells.lookup y.1 = some c := fun y hy e => by
  rcases ok.free y hy e with k | k
  ·exact I.ok.has _ (.inl k)
  ·exact I.ok.has _ (.inr k)
 generalize hcenv : compEnvC scope (cellsFrom (s.heap.objs.size + 1) scope.names (qL X.env.cells scope.names [])) s.heap.objs.size X.env = cenv
 have kp : ∀ b o, s.heap.get? b = some o -> (pushCells (s.heap.push { cls := .type "dict", data := .dict #[] }) scope.names).get? b = some o := fun b o e => pushCells_keeps _ _ _ _ (Heap.get?_push_of_some _ e)
 have hL : cenv.locals = s.heap.objs.size := by rw [<- hcenv]; rfl
 have hcl : cenv.cells = cellsFrom (s.heap.objs.size + 1) scope.names (qL X.env.cells scope.names []) := by rw [<- hcenv]; rfl
 have hsc : cenv.scope = qfY scope X.env.scope := by rw [<- hcenv]; rfl
 rw [<- Heap.size_push s.heap { cls := .type "dict", data := .dict #[] }] at hcl
 have cm : ∀ {y c}, (y, c) ∈ qL X.env.cells scope.names [] -> X.env.cells.lookup y = some c /\ c < s.heap.objs.size := fun {y c} hm => by
  rcases zI hm with hm | ⟨h1, rfl⟩
  ·cases hm
  ·obtain ⟨c, hc⟩ := hfree _ h1 rfl
   rw [hc]
   obtain ⟨w, z⟩ := I.cell _ _ hc
   exact ⟨rfl, z.lt⟩
 have mem : ∀ {y c}, cenv.cells.lookup y = some c -> (X.env.cells.lookup y = some c /\ c < s.heap.objs.size) \/ (s.heap.objs.size + 1 <= c /\ qbo (pushCells (s.heap.push { cls := .type "dict", data := .dict #[] }) scope.names) c none) := fun {y c} e => by
  rw [hcl] at e
  rcases yM (PySem.mem_of_lookup e) with hm | ⟨_, h2, h3⟩
  ·exact .inl (cm hm)
  ·rw [Heap.size_push] at h2; exact .inr ⟨h2, h3⟩
 have look : ∀ {y}, scope.names.lookup y = some .free -> ∃ c, cenv.cells.lookup y = some c /\ X.env.cells.lookup y = some c := fun {y} hl => by
  have hy : (y, NameKind.free) ∈ scope.names := PySem.mem_of_lookup hl
  obtain ⟨c', e'⟩ := mem_lookup (uc (names := scope.names) (n := (s.heap.push { cls := .type "dict", data := .dict #[] }).objs.size) (yn (cells := X.env.cells) (acc := []) hy))
  rw [<- hcl] at e'
  refine ⟨c', e', ?_⟩
  rw [hcl] at e'
  rcases yM (PySem.mem_of_lookup e') with hm | ⟨h1, _, _⟩
  ·exact (cm hm).1
  ·have := ok.uniq _ h1
   rw [hl] at this; cases this
 have okB : (X.blk s H scope cenv fp).Ok := by
  refine ⟨I.ok.mod, by show cenv.scope.kind = _; rw [hsc]; exact ok.kind, by show cenv.globals = _; rw [<- hcenv]; exact I.ok.glob, by show cenv.builtins = _; rw [<- hcenv]; exact I.ok.blt, by show s.heap.objs.size <= cenv.locals; rw [hL]; exact Nat.le_refl _,
   fun y z c e1 e2 => ?_, fun y hy => ?_, fun y c z e => ?_, I.ok.hd, I.ok.frames, .inl rfl, fun b hb => ⟨?_, fun y c e z => ?_⟩, I.bs, Nat.le_trans I.ok.bsz I.sz, fun b o e hb => ?_, fun b hb z => ?_, I.stack, I.ZY⟩
  ·have e1 : cenv.cells.lookup y = some c := e1
   have e2 : cenv.cells.lookup z = some c := e2
   rw [hcl] at e1 e2
   refine jB (fun p hp => ?_) (fun y z c a b => I.ok.inj y z c (cm a).1 (cm b).1) (PySem.mem_of_lookup e1) (PySem.mem_of_lookup e2)
   rw [Heap.size_push]
   exact Nat.lt_succ_of_lt (cm (y := p.1) (c := p.2) hp).2
  ·show ∃ c, cenv.cells.lookup y = some c
   have key : ∀ k, cenv.kindOf y = some k -> (k = .cell \/ k = .free) -> ∃ c, cenv.cells.lookup y = some c := fun k hk hk' => by
    unfold Env.kindOf at hk
    rw [hsc] at hk
    obtain ⟨k', e, r⟩ := xr hk
    have : k' = .cell \/ k' = .free := by
     rcases r with rfl | ⟨rfl, _⟩
     ·exact hk'
     ·exact .inr rfl
    rcases this with rfl | rfl
    ·obtain ⟨c, hm⟩ := jR (n := (s.heap.push { cls := .type "dict", data := .dict #[] }).objs.size) (acc := qL X.env.cells scope.names []) (PySem.mem_of_lookup e)
     obtain ⟨c', e'⟩ := mem_lookup hm
     exact ⟨c', by rw [hcl]; exact e'⟩
    ·obtain ⟨c, h1, _⟩ := look e
     exact ⟨c, h1⟩
   rcases hy with hy | hy
   ·exact key _ hy (.inl rfl)
   ·exact key _ hy (.inr rfl)
  ·have z : (scope.names.lookup y == some NameKind.cell) = true := z
   have z : scope.names.lookup y = some .cell := by simpa using z
   have e : cenv.cells.lookup y = some c := e
   rw [hcl] at e
   rcases yM (PySem.mem_of_lookup e) with hm | ⟨_, h2, _⟩
   ·rcases zI hm with hm | ⟨h1, _⟩
    ·cases hm
    ·have q := ok.uniq _ h1
     rw [z] at q; cases q
   ·rw [Heap.size_push] at h2
    exact Nat.le_of_succ_le h2
  ·show b ≠ cenv.locals
   rw [hL]; exact Nat.ne_of_lt (hfp b hb).2
  ·have e : cenv.cells.lookup y = some c := e
   rcases mem e with ⟨h1, _⟩ | ⟨h1, _⟩
   ·exact (hfp b hb).1.2.2.2.2.1 y c h1 z
   ·have h2 : s.heap.objs.size + 1 <= b := by rw [<- z]; exact h1
    exact absurd (Nat.lt_of_lt_of_le (hfp b hb).2 (Nat.le_of_succ_le h2)) (Nat.lt_irrefl _)
  ·rcases (hfp b hb).1.2.2.2.1 with z | z
   ·exact I.ok.noex b o e z
   ·exact absurd (Nat.lt_of_lt_of_le (Heap.lt_size e) (Nat.le_trans I.ok.bsz z)) (Nat.lt_irrefl _)
  ·rcases List.mem_cons.mp (I.yE b z) with z | z
   ·exact (hfp b hb).1.2.1 z
   ·exact (hfp b hb).1.2.2.1 z
 refine ⟨okB, rfl, I.bare, Un.kept kp, ⟨fun _ => none, ?_, fun i y av e1 e2 e3 => ?_⟩, fun y c e => ?_, ?_, fun y c e => ?_, fun p hp => ?_, I.hok.kept kp, by rw [vS]; exact I.len⟩
 ·show Heap.Ns _ cenv.locals _
  rw [hL]
  exact Heap.Ns.keeps (Heap.Ns.new ..) fun b o e => pushCells_keeps _ _ _ _ e
 ·obtain ⟨e2, hne⟩ := zj e2
  have hfr : scope.names.lookup y = some .free /\ (cenv.kindOf y = some .cell \/ cenv.kindOf y = some .free) := by
   have key : ∀ k, cenv.scope.names.lookup y = some k -> k = .local \/ k = .cell \/ k = .free -> scope.names.lookup y = some .free /\ (cenv.kindOf y = some .cell \/ cenv.kindOf y = some .free) := fun k hk hk' => by
    have hk0 := hk
    rw [hsc] at hk
    obtain ⟨k', e, r⟩ := xr hk
    have no : ¬ (k' = .local \/ k' = .cell) := fun hh => by
     rcases ok.own _ (PySem.mem_of_lookup e) hh with e' | e'
     ·obtain ⟨p, hp, hpy⟩ := List.mem_map.mp e'
      have e3 := ok.ix p hp
      have : p.1 = y := hpy
      rw [this] at e3
      exact hne (List.mem_map.mpr ⟨p, hp, VF hN e3 e1⟩)
     ·exact e' (List.mem_of_getElem? e1)
    rcases r with rfl | ⟨rfl, rfl⟩
    ·rcases hk' with rfl | rfl | rfl
     ·exact absurd (.inl rfl) no
     ·exact absurd (.inr rfl) no
     ·exact ⟨e, .inr hk0⟩
    ·exact ⟨e, .inl hk0⟩
   have e3 : Vis cenv.scope y := e3
   rcases e3 with e3 | e3 | e3
   ·exact key _ e3 (.inl rfl)
   ·exact key _ e3 (.inr (.inl rfl))
   ·exact key _ e3 (.inr (.inr rfl))
  obtain ⟨m, hn, hl⟩ := I.loc
  have hvis : Vis X.env.scope y := (ok.free _ (PySem.mem_of_lookup hfr.1) rfl).elim (fun k => .inr (.inl k)) (fun k => .inr (.inr k))
  obtain ⟨w, r, q⟩ := hl i y av e1 e2 hvis
  refine ⟨w, r, .inr ⟨hfr.2, ?_⟩⟩
  obtain ⟨c, h1, h2⟩ := look hfr.1
  rcases q with ⟨k, _⟩ | ⟨_, c', e', z⟩
  ·have k : X.env.scope.names.lookup y = some .local := k
   rcases ok.free _ (PySem.mem_of_lookup hfr.1) rfl with k' | k' <;> rw [show X.env.scope.names.lookup y = _ from k'] at k <;> cases k
  ·rw [h2] at e'; cases e'
   exact ⟨c, h1, z.keeps kp⟩
 ·have e : cenv.cells.lookup y = some c := e
  rcases mem e with ⟨h1, _⟩ | ⟨_, z⟩
  ·obtain ⟨w, z⟩ := I.cell y c h1
   exact ⟨w, z.keeps kp⟩
  ·exact ⟨_, z⟩
 ·show H cenv.locals = none
  rw [hL]; exact I.hok.fresh (Nat.le_refl _)
 ·have e : cenv.cells.lookup y = some c := e
  rcases mem e with ⟨h1, _⟩ | ⟨h1, _⟩
  ·exact I.freeC y c h1
  ·exact I.hok.fresh (Nat.le_of_succ_le h1)
 ·exact absurd (show p ∈ ([] : List (Addr × Obj)) ++ [] from hp) (by simp)
theorem qeq {E : Value -> Shared -> Prop} {D : Addr} {xs : List V} {y : V} {v : Value} {Q : Value -> Shared -> Prop} (I : Inv X pins σ H s) (hD : H D = some (.lst xs)) (hz : xs.length < sizeLine) (r : RelV y v)
  (h : ∀ s', Inv X pins σ (upd H D (.lst (xs ++ [y]))) s' -> Q .none s') : wpAny (model X.prog X.w) X.A (call (.builtin "list.append") [.ref D, v]) Q E s := by
 obtain ⟨hz', its, n, ri, e⟩ := I.hok D _ hD
 have hl := ri.length
 refine append_at (hsz := by rw [List.size_toArray]; lia) e fun h' sb ho' => ?_
 refine h { s with heap := h' } (I.write (t' := s.toks) (by rw [hD]; trivial) (.inl rfl) (fun b u hb q => (sb.2 b hb).trans q) ⟨_, ho'⟩ ⟨by rw [List.length_append]; exact hz, its ++ [v], n + 1, ri.append (.cons r .nil), ?_⟩)
 rw [ho']
 simp
noncomputable def PTs (X : Cx) (ifs : List Expr) (t : TT) : Prop :=
 ∀ (pins : List (Addr × Obj)) (s : Shared) (σ : St) (H : Hp) (Q : Bool -> Hp -> Prop), Inv X pins σ H s -> t σ H Q ->
  wpAny (model X.prog X.w) X.A (forIn ifs true fun c r => if r = true then do let ok <- isTrue c X.env (eval c X.env); pure (ForInStep.yield ok) else pure (ForInStep.yield r)) (TP X pins σ Q) X.xe s
noncomputable def zZ : TT := fun _ H Q => Q true H
theorem qcP : PTs X [] zZ := fun _ _ _ H _ I h => wpAny_tests_nil ⟨H, I, h⟩
end
theorem qd5 {α : Type} {t : Sem α} {Q Q' : α -> Shared -> Prop} {M : Model} {A : Around} {E : Value -> Shared -> Prop} {s : Shared} (h : wpAny M A t Q (fun _ _ => False) s) (hQ : ∀ a s, Q a s -> Q' a s) : wpAny M A t Q' E s := wpAny_mono h hQ fun _ _ z => False.elim z
theorem Zk {prog : Program} {w : World} {A : Around} {R : Result -> Shared -> Prop} {s : Shared} {elt target iter : Expr} {ifs : List Expr} {scope : Scope} {pos : Pos} {it acc : Value} {env : Env} (I : Nat -> Shared -> Prop)
  (turn : ∀ n s, I n s -> wpAny (model prog w) A (pyNext it) (fun r s₁ => match r with
   | none => R (.ok .next) s₁
   | some v => wpAny (model prog w) A (letOwnedTupleGo target it v) (fun _ s₁' => wpAny (model prog w) A (assign target env v) (fun _ s₂ =>
     wpAny (model prog w) A (forIn ifs true fun c r => if r = true then do let ok <- isTrue c env (eval c env); pure (ForInStep.yield ok) else pure (ForInStep.yield r)) (fun ok s₃ =>
      if ok = true then wpAny (model prog w) A (eval elt env) (fun x s₄ =>
       wpAny (model prog w) A (call (.builtin "list.append") [acc, x]) (fun _ s₅ => ∃ m, m < n /\ I m s₅) (notedBy (model prog w) A env fun e s' => R (.error e) s') s₄) (notedBy (model prog w) A env fun e s' => R (.error e) s') s₃
      else ∃ m, m < n /\ I m s₃) (notedBy (model prog w) A env fun e s' => R (.error e) s') s₂) (notedBy (model prog w) A env fun e s' => R (.error e) s') s₁') (notedBy (model prog w) A env fun e s' => R (.error e) s') s₁) (notedBy (model prog w) A env fun e s' => R (.error e) s') s)
  (n : Nat) (h : I n s) :
  codeAny (model prog w) A (.compLoop (.ListComp elt [⟨target, iter, ifs, 0⟩] scope pos) 0 it acc env) R s := by
 refine codeAny_loop rfl I (fun n s hI => ?_) n h
 show wpAny _ A ((compTurn (.ListComp elt [⟨target, iter, ifs, 0⟩] scope pos) 0 it acc env).onRaise (fun x => do noteFrame x env; theTreesLotGoes x)) _ _ s
 refine wpAny_noted ?_
 rw [compTurn_list]
 refine wpAny_bind (wpAny_standAt (wpAny_bind (wpAny_mono (turn n s hI) (fun r s₁ h₁ => ?_) fun _ _ h' => h')))
 cases r with
 | none => exact wpAny_pure h₁
 | some v =>
  refine wpAny_bind (wpAny_mono h₁ (fun _ s₁' h₁' => ?_) fun _ _ h' => h')
  refine wpAny_bind (wpAny_mono h₁' (fun _ s₂ h₂ => wpAny_bind (wpAny_mono h₂ (fun ok s₃ h₃ => ?_) fun _ _ h' => h')) fun _ _ h' => h')
  cases ok with
  | false => exact wpAny_pure ⟨rfl, h₃⟩
  | true =>
   exact wpAny_bind (wpAny_bind (wpAny_mono h₃ (fun x s₄ h₄ => wpAny_bind (wpAny_mono h₄ (fun _ s₅ h₅ => wpAny_pure (wpAny_pure ⟨rfl, h₅⟩)) fun _ _ h' => h')) fun _ _ h' => h'))
section
variable {X : Cx}
noncomputable def tLc (wi : TI) (g : TG) (tt : TT) (te : TE) (vs : List Nat) : TE := fun σ H Q => wi σ H fun J H1 => ∀ D, H1 D = none -> ∃ W : Nat -> Nat -> Hp -> Prop, (∃ m, W 0 m (upd H1 D (.lst []))) /\ ∀ i m H, W i m H ->
 (J.stop i H /\ Q (.ref D) H) \/ (J.go i H /\ ∃ Nx : Hp -> Prop, (∀ H', Nx H' -> ∃ m', m' < m /\ W (i + 1) m' H') /\ ∀ x H', J.yld i H x H' -> g x (wipe σ vs) H' fun σ2 H2 => wipe σ2 vs = wipe σ vs /\ tt σ2 H2 fun b H3 =>
  if b = true then te σ2 H3 fun y H4 => ∃ acc, H4 D = some (.lst acc) /\ acc.length < sizeLine /\ Nx (upd H4 D (.lst (acc ++ [y]))) else Nx H3)
theorem qca {elt : Expr} {gs : List Comprehension} {scope : Scope} {pos py : Pos} {y : Str} {l : Nat} {env : Env} (hk : env.scope.kind = .function) (hy : env.scope.names.lookup y = some .local) (hl : (py.line == pos.line) = true)
  (ha : (scope.names.any fun (n, k) => n == y && (k == .local || k == .cell)) = false) : swapsWith (.ListComp elt gs scope pos) (some (.Name y py)) l env = pure true := by
 have ky : env.kindOf y = some .local := hy
 have hb : env.blockKind = .function := by unfold Env.blockKind; rw [hk]; rfl
 unfold swapsWith
 have hp : (Expr.ListComp elt gs scope pos).pos = pos := rfl
 have hp2 : (Expr.Name y py).pos = py := rfl
 simp only [hb, ky, ha, hp, hp2, hl]
 rfl
end
noncomputable def jT (N : List Str) (sc scope : Scope) (own : List (Str × Nat)) : Bool :=
 (match scope.kind with | .function => true | _ => false) && (scope.names.all fun y => decide (scope.names.lookup y.1 = some y.2)) && (own.all fun p => decide (N[p.2]? = some p.1)) &&
  (scope.names.all fun y => match y.2 with
   | .free => (match sc.names.lookup y.1 with | some .cell => true | some .free => true | _ => false)
   | .local => decide (y.1 ∈ own.map (·.1)) || decide (y.1 ∉ N)
   | .cell => decide (y.1 ∈ own.map (·.1)) || decide (y.1 ∉ N)
   | _ => true)
theorem VV {N : List Str} {sc scope : Scope} {own : List (Str × Nat)} (h : jT N sc scope own = true) : Ja N sc scope own := by
 unfold jT at h
 simp only [Bool.and_eq_true, List.all_eq_true, decide_eq_true_eq] at h
 obtain ⟨⟨⟨h1, h2⟩, h3⟩, h4⟩ := h
 refine ⟨?_, h2, h3, fun y hy e => ?_, fun y hy e => ?_⟩
 ·split at h1
  ·assumption
  ·cases h1
 ·have q := h4 y hy
  simp only [e] at q
  split at q <;> first | exact .inl (by assumption) | exact .inr (by assumption) | cases q
 ·have q := h4 y hy
  rcases e with e | e <;> (simp only [e, Bool.or_eq_true, decide_eq_true_eq] at q; exact q)
theorem xF {σ : St} {i : Nat} : ∀ {vs : List Nat}, i ∉ vs -> (wipe σ vs)[i]? = σ[i]?
 | [], _ => rfl
 | v :: vs, h => by
  have h1 : v ≠ i := fun e => h (by rw [e]; exact List.mem_cons_self)
  have h2 : i ∉ vs := fun m => h (List.mem_cons_of_mem _ m)
  unfold wipe
  rw [List.getElem?_set_ne h1]
  exact xF h2
section
variable {X : Cx} {pins : List (Addr × Obj)} {σ : St} {H : Hp} {s : Shared} {h' : Heap}
theorem Inv.qcU {t' : Nat} {ch : List Addr} (I : Inv X pins σ H s) (k : ∀ b o, b ∉ ch -> s.heap.get? b = some o -> h'.get? b = some o) (hf : ∀ b ∈ ch, jH X pins H b) : Inv X pins σ H { s with heap := h', toks := t' } := by
 have nit : ∀ b u, H b = some u -> b ∉ ch := fun b u e z => by
  have q := (hf b z).1
  rw [q] at e; cases e
 refine I.step (g' := s.gens) (d' := s.drawn) (ch := ch) (fun b hb => ⟨(hf b hb).2.2.2.1, (hf b hb).2.1, (hf b hb).2.2.2.2.1, (hf b hb).2.2.2.2.2⟩) (fun b o _ _ hc e _ => k b o hc e) (fun b o _ _ hc e _ => ⟨o.slots, k b o hc e⟩)
  (fun _ _ _ _ n => n) (fun b o hc e => ⟨o, k b o hc e⟩) (fun _ _ e => e) (fun _ _ _ e => e) (fun b ps e => ⟨#[], by rw [e]; simp⟩) (fun m hm => ?_) (fun b u e => ?_) I.bare
 ·obtain ⟨o, es, ep, ho, r⟩ := hm
  exact ⟨o, es, ep, k _ o (fun z => (hf _ z).2.1 rfl) ho, r⟩
 ·refine (I.hok b u e).Wu (fun c v hc q => k c v ?_ q) (fun _ q => q) fun _ _ q => q
  rcases hc with z | z
  ·rw [z]; exact nit b u e
  ·exact nit c _ z
theorem Inv.JV {t' : Nat} {ch : List Addr} {T : Addr} {ob : HO} (I : Inv X pins σ H s) (k : ∀ b o, b ∉ ch -> s.heap.get? b = some o -> h'.get? b = some o) (hf : ∀ b ∈ ch, jH X pins H b) (hT : s.heap.objs.size <= T)
  (new : zw X.prog X.w (upd H T ob) h' T ob) : Inv X pins σ (upd H T ob) { s with heap := h', toks := t' } := by
 have hn : H T = none := I.hok.fresh hT
 have nit : ∀ b u, H b = some u -> b ∉ ch := fun b u e z => by
  have q := (hf b z).1
  rw [q] at e; cases e
 refine I.step (g' := s.gens) (d' := s.drawn) (ch := ch) (fun b hb => ⟨(hf b hb).2.2.2.1, (hf b hb).2.1, (hf b hb).2.2.2.2.1, (hf b hb).2.2.2.2.2⟩) (fun b o _ _ hc e _ => k b o hc e) (fun b o _ _ hc e _ => ⟨o.slots, k b o hc e⟩)
  (fun b o _ e n => ?_) (fun b o hc e => ⟨o, k b o hc e⟩) (fun b xs e => ?_) (fun b o u e => ?_) (fun b ps e => ⟨#[], ?_⟩) (fun m hm => ?_) (fun b u e => ?_) I.bare
 ·rw [qy (Nat.ne_of_lt (Nat.lt_of_lt_of_le (Heap.lt_size e) hT))]; exact n
 ·rw [qy (vf e hn)]; exact e
 ·rw [qy (vf e hn)]; exact e
 ·rw [qy (vf e hn), e]; simp
 ·obtain ⟨o, es, ep, ho, r⟩ := hm
  exact ⟨o, es, ep, k _ o (fun z => (hf _ z).2.1 rfl) ho, r⟩
 ·by_cases hb : b = T
  ·subst hb
   rw [qJ] at e
   cases e
   exact new
  ·rw [qy hb] at e
   refine (I.hok b u e).Wu (fun c v hc q => k c v ?_ q) (fun c q => by rw [qy (vf q hn)]; exact q) fun c xs q => by rw [qy (vf q hn)]; exact q
   rcases hc with z | z
   ·rw [z]; exact nit b u e
   ·exact nit c _ z
end
section
variable {X : Cx}
theorem qei {tg : Expr} {pins : List (Addr × Obj)} {σ : St} {H : Hp} {s : Shared} {R : It -> Hp -> Prop} {J : It} {tn : Nat -> Heap -> Prop} {tk : Nat} (I : Inv X pins σ H s) (o : Obj)
  (T : Turn X.prog X.w X.K tg J [s.heap.objs.size] s.heap.objs.size tn) (st : tn 0 (s.heap.push o)) (q : R J H) : PIE X pins σ tg R (.ref s.heap.objs.size) { s with heap := s.heap.push o, toks := tk } := by
 refine ⟨s.heap.objs.size, [s.heap.objs.size], tn, J, H, rfl, I.kept fun b ob e => Heap.get?_push_of_some _ e, T, st, fun b hb => ?_, q⟩
 have e : b = s.heap.objs.size := by simpa using hb
 subst e
 exact I.Jw (Nat.le_refl _) (I.hok.fresh (Nat.le_refl _))
end
noncomputable def Itc (lo c : Int) (n : Nat) : It := ⟨fun i _ => i < n, fun i H x H' => H' = H /\ x = .int (lo + (i : Nat) * c), fun i _ => n <= i⟩
theorem YG {P : Program} {w : World} {K : PySem.W.Frag} {tg : Expr} (it : Addr) (lo c : Int) (n : Nat) : Turn P w K tg (Itc lo c n) [it] it (fun i h => IsRangeIter h it (lo + (i : Nat) * c) ((n : Int) - (i : Nat)) c) where
 mem := by simp
 obj := fun i h st b hb => by
  have e : b = it := by simpa using hb
  subst e
  exact ⟨_, st, fun v z => nomatch z⟩
 keep := fun i h h' st k => k it (by simp) _ st
 item := by
  intro X hP hw hK hc i pins s σ H E I hf st hg
  subst hP hw hK
  obtain ⟨f0, f1, f2, f3, f4, f5⟩ := hf it (by simp)
  have W := Walks.range (prog := X.prog) (w := X.w) (I.ok.hd hc) it lo c n
  refine W.item i s _ _ hg st fun v h' tk hv st' kk => ?_
  obtain ⟨t, rfl⟩ := hv
  have I1 : Inv X pins σ H { s with heap := h', toks := tk } := I.turned (fun b o hb e => kk b o (by simpa using hb) e) f0 f1 f3 f4 f5
  exact ⟨_, rfl, qbr (s := { s with heap := h', toks := tk }) (n := "range_iterator") st' rfl rfl (by decide) ⟨.int (lo + (i : Nat) * c), H, I1, ⟨t, rfl⟩, ⟨rfl, rfl⟩, st', fun b hb => (hf b hb).1⟩⟩
 done := by
  intro X hP hw hK hc i pins s σ H E I hf st hg
  subst hP hw hK
  obtain ⟨f0, f1, f2, f3, f4, f5⟩ := hf it (by simp)
  exact wpAny_pyNext_range_end (I.ok.hd hc) st (by have : n <= i := hg; lia) fun h' eb => ⟨rfl, I.turned (t' := s.toks) (fun b o hb e => eb b o hb e) f0 f1 f3 f4 f5⟩
 self := fun A i s Q E st h => wpAny_pyIter_rangeiter st h
noncomputable def RgC (i j c : Int) (n : Nat) : Prop := c ≠ 0 /\ c.natAbs < 1073741824 /\ Builtin.Range.small i j c = true /\ Builtin.Range.rangeSize i j c = n
theorem RgC.neg {i j : Int} (ha : -(2 ^ 62) <= i) (ha' : i < 2 ^ 62) (hb : -(2 ^ 62) <= j) (hb' : j < 2 ^ 62) : RgC i j (-1) (i - j).toNat :=
 ⟨by decide, by decide, PySem.W.small_down ha ha' hb hb', PySem.W.rangeSize_downNat i j⟩
noncomputable def qe9 (ta : TA) : TI := fun σ H R => ta σ H fun vs H1 => ∃ (i j c : Int) (n : Nat), vs = [.int i, .int j, .int c] /\ RgC i j c n /\ R (Itc i c n) H1
section
variable {X : Cx} {tg : Expr}
theorem WJ {a b c : Expr} {ta : TA} {p pos : Pos} (hg : Gl X "range") (hm : X.mg "range" = none) (ha : PA X [a, b, c] ta)
  (hs : autoParam (starEach [a, b, c] X.env = (false, eval a X.env) :: starEach [b, c] X.env) qm._auto_1) (hpl : autoParam ((backTo pos (starEach [b, c] X.env)).any (·.1) = false) qm._auto_1) :
  PI X tg (.Call (.Name "range" p) [a, b, c] [] pos) (qe9 ta) := by
 intro pins s σ H R I h
 refine Call_ (uQ I hg hm boot_range (PyProof.Rows.callWith_type1 (thn (ha pos pins s σ H _ I h) fun us s1 ⟨vs, H1, I1, r1, q1⟩ => ?_) hs hpl))
 obtain ⟨i, j, k, n, e, ⟨c0, c1, c2, c3⟩, q⟩ := q1
 subst e
 cases r1 with
 | cons r rr =>
  cases rr with
  | cons r' rr =>
   cases rr with
   | cons r'' rr =>
    cases rr
    obtain ⟨t, rfl⟩ := r
    obtain ⟨t', rfl⟩ := r'
    obtain ⟨t'', rfl⟩ := r''
    refine call_range_3 c0 ?_ (.inl (PyProof.noPylong_small c1))
    refine wpAny_pyIter_range (IsRange.new ..) c2 ?_
    have I2 : Inv X pins σ H1 { s1 with heap := s1.heap.push { cls := .type "range", data := .fields #[.int i t, .int j t', .int k t''] } } := I1.kept (t' := s1.toks) fun b o e => Heap.get?_push_of_some _ e
    refine qei (tk := s1.toks) I2 _ (YG _ i k n) ?_ q
    have e1 : i + ((0 : Nat) : Int) * k = i := by simp
    have e2 : (n : Int) - ((0 : Nat) : Int) = Builtin.Range.rangeSize i j k := by rw [c3]; simp
    show IsRangeIter _ _ (i + ((0 : Nat) : Int) * k) ((n : Int) - ((0 : Nat) : Int)) k
    rw [e1, e2]
    exact Heap.get?_push_size _ rfl
end
theorem JX : bootBuiltins "zip" = some (.type "zip") := by decide +kernel
noncomputable def Itz (K : PySem.W.Frag) (a b : Addr) : It :=
 ⟨fun i H => ∃ (xs ys : List V) (x y : V), SqL K H a xs /\ SqL K H b ys /\ xs[i]? = some x /\ ys[i]? = some y,
  fun i H v H' => ∃ T x y, v = .ref T /\ H T = none /\ H' = upd H T (.tup [x, y]) /\ (∀ xs, SqL K H a xs -> xs[i]? = some x) /\ ∀ ys, SqL K H b ys -> ys[i]? = some y,
  fun i H => ∃ xs ys : List V, SqL K H a xs /\ SqL K H b ys /\ (xs.length <= i \/ ys.length <= i)⟩
theorem qaH {P : Program} {w : World} {K : PySem.W.Frag} {elts : List Expr} {kk : Nat} {tpos : Pos} {a b z TI TO i1 i2 : Addr} (D : ZipApart z TI TO i1 i2 a b) :
  Turn P w K (.Tuple elts kk tpos) (Itz K a b) [z, TI, TO, i1, i2] z (fun i h => IsZip h z TI TO .none /\ IsPair h TI (.ref i1) (.ref i2) /\ (∃ x y, IsPair h TO x y) /\ h.IsListIter i1 a i /\ h.IsListIter i2 b i) where
 mem := by simp
 obj := fun i h st c hc => by
  obtain ⟨hz, hTI, ⟨x, y, hTO⟩, ⟨o1, e1, _, d1⟩, ⟨o2, e2, _, d2⟩⟩ := st
  have e' : c = z \/ c = TI \/ c = TO \/ c = i1 \/ c = i2 := by simpa using hc
  rcases e' with q | q | q | q | q
  ·rw [q]; exact ⟨_, hz, fun v q => nomatch q⟩
  ·rw [q]; exact ⟨_, hTI, fun v q => nomatch q⟩
  ·rw [q]; exact ⟨_, hTO, fun v q => nomatch q⟩
  ·rw [q]; exact ⟨o1, e1, fun v q => by rw [d1] at q; cases q⟩
  ·rw [q]; exact ⟨o2, e2, fun v q => by rw [d2] at q; cases q⟩
 keep := fun i h h' st k => by
  obtain ⟨hz, hTI, ⟨x, y, hTO⟩, h1, h2⟩ := st
  exact ⟨k z (by simp) _ hz, k TI (by simp) _ hTI, ⟨x, y, k TO (by simp) _ hTO⟩, h1.at fun o q => k i1 (by simp) o q, h2.at fun o q => k i2 (by simp) o q⟩
 item := by
  intro X hP hw hK hc i pins s σ H E I hf st hg
  subst hP hw hK
  obtain ⟨hz, hTI, ⟨x0, y0, hTO⟩, h1, h2⟩ := st
  obtain ⟨xs, ys, x, y, hqx, hqy, hx, hy⟩ := hg
  obtain ⟨its, rv, p, _⟩ := I.list hqx
  obtain ⟨its2, rv2, p2, _⟩ := I.list hqy
  obtain ⟨u, hu, ru⟩ := rv.get hx
  obtain ⟨u2, hu2, ru2⟩ := rv2.get hy
  have hzl : z < s.heap.objs.size := Heap.lt_size hz
  refine wpAny_pyNext_zip_item D hz hTI hTO h1 h2 p.isList p2.isList (x := u) (y := u2) (by simpa using hu) (by simpa using hu2) fun h' z' TO' h1' h2' hT hsz hk => ?_
  refine ⟨_, rfl, wpAny_letOwnedTupleGo_zip (s := { s with heap := h' }) z' fun h'' z'' sb => ?_⟩
  have hT2 : h''.get? s.heap.objs.size = some { cls := .type "tuple", data := .seq #[u, u2] } := (sb.2 _ (Nat.ne_of_gt hzl)).trans hT
  have new : zw X.prog X.w (upd H s.heap.objs.size (.tup [x, y])) h'' s.heap.objs.size (.tup [x, y]) :=
   ⟨by show 2 <= sizeLine; decide, [u, u2], .cons ru (.cons ru2 .nil), ⟨_, hT2, rfl, _, rfl⟩⟩
  have I1 : Inv X pins σ (upd H s.heap.objs.size (.tup [x, y])) { s with heap := h'' } :=
   I.JV (t' := s.toks) (ch := [z, TI, TO, i1, i2]) (fun c o hb q => (sb.2 c (fun q' => hb (by simp [q']))).trans (hk c o (fun q' => hb (by simp [q'])) (fun q' => hb (by simp [q'])) (fun q' => hb (by simp [q'])) (fun q' => hb (by simp [q'])) q)) hf (Nat.le_refl _) new
  refine ⟨.ref s.heap.objs.size, _, I1, rfl, ⟨_, x, y, rfl, I.hok.fresh (Nat.le_refl _), rfl, fun l hl => by rw [I.Ve hl hqx]; exact hx, fun l hl => by rw [I.Ve hl hqy]; exact hy⟩, ⟨z'', ?_, ⟨u, u2, ?_⟩, ?_, ?_⟩, fun c hcm => ?_⟩
  ·exact (sb.2 _ D.TIz).trans (hk _ _ D.TIz D.TITO D.TIi1 D.TIi2 hTI)
  ·exact (sb.2 _ D.TOz).trans TO'
  ·exact h1'.at fun o q => (sb.2 _ D.i1z).trans q
  ·exact h2'.at fun o q => (sb.2 _ D.i2z).trans q
  ·have hlt : c < s.heap.objs.size := by
    have e' : c = z \/ c = TI \/ c = TO \/ c = i1 \/ c = i2 := by simpa using hcm
    rcases e' with q | q | q | q | q
    ·rw [q]; exact hzl
    ·rw [q]; exact Heap.lt_size hTI
    ·rw [q]; exact Heap.lt_size hTO
    ·rw [q]; obtain ⟨_, e1, _⟩ := h1; exact Heap.lt_size e1
    ·rw [q]; obtain ⟨_, e2, _⟩ := h2; exact Heap.lt_size e2
   rw [qy (Nat.ne_of_lt hlt)]
   exact (hf c hcm).1
 done := by
  intro X hP hw hK hc i pins s σ H E I hf st hg
  subst hP hw hK
  obtain ⟨hz, hTI, ⟨x0, y0, hTO⟩, h1, h2⟩ := st
  obtain ⟨xs, ys, hqx, hqy, hend⟩ := hg
  obtain ⟨its, rv, p, _⟩ := I.list hqx
  obtain ⟨its2, rv2, p2, _⟩ := I.list hqy
  have l1 := rv.length
  have l2 := rv2.length
  have he : its.toArray[i]? = none \/ its2.toArray[i]? = none := by
   rcases hend with q | q
   ·exact .inl (by simp; lia)
   ·exact .inr (by simp; lia)
  exact wpAny_pyNext_zip_end (I.ok.hd hc) D hz hTI hTO h1 h2 p.isList p2.isList he fun h' hk => ⟨rfl, I.qcU (t' := s.toks) (ch := [z, TI, TO, i1, i2]) (fun c o hb q =>
   hk c o (fun q' => hb (by simp [q'])) (fun q' => hb (by simp [q'])) (fun q' => hb (by simp [q'])) (fun q' => hb (by simp [q'])) q) hf⟩
 self := fun A i s Q E st h => wpAny_pyIter_zip st.1 h
noncomputable def XR (K : PySem.W.Frag) (ta : TA) : TI := fun σ H R => ta σ H fun vs H1 => ∃ a b xs ys, vs = [.ref a, .ref b] /\ SqL K H1 a xs /\ SqL K H1 b ys /\ R (Itz K a b) H1
theorem qeE {X : Cx} {e e2 : Expr} {ta : TA} {p pos tpos : Pos} {elts : List Expr} {kk : Nat} (hg : Gl X "zip") (hm : X.mg "zip" = none) (ha : PA X [e, e2] ta)
  (hs : autoParam (starEach [e, e2] X.env = (false, eval e X.env) :: starEach [e2] X.env) qm._auto_1) (hpl : autoParam ((backTo pos (starEach [e2] X.env)).any (·.1) = false) qm._auto_1) :
  PI X (.Tuple elts kk tpos) (.Call (.Name "zip" p) [e, e2] [] pos) (XR X.K ta) := by
 intro pins s σ H R I h
 refine Call_ (uQ I hg hm JX (PyProof.Rows.callWith_type1 (thn (ha pos pins s σ H _ I h) fun us s1 ⟨vs, H1, I1, r1, q1⟩ => ?_) hs hpl))
 obtain ⟨a, b, xs, ys, ex, hqx, hqy, q⟩ := q1
 subst ex
 cases r1 with
 | cons r rr =>
  cases rr with
  | cons r' rr =>
   cases rr
   cases r
   cases r'
   obtain ⟨its, rv, p1, _⟩ := I1.list hqx
   obtain ⟨its2, rv2, p2, _⟩ := I1.list hqy
   have la : a < s1.heap.objs.size := p1.lt
   have lb : b < s1.heap.objs.size := p2.lt
   refine call_zip_2 p1.isList p2.isList fun h' hz hTI hTO h1 h2 hsz hk => wpAny_pyIter_zip hz ?_
   have I2 : Inv X pins σ H1 { s1 with heap := h' } := I1.kept (t' := s1.toks) hk
   refine ⟨s1.heap.objs.size + 4, [s1.heap.objs.size + 4, s1.heap.objs.size + 2, s1.heap.objs.size + 3, s1.heap.objs.size, s1.heap.objs.size + 1], _, _, H1, rfl, I2, qaH (PySem.W.ktu_apart s1.heap.objs.size a b la lb), ⟨hz, hTI, ⟨_, _, hTO⟩, h1, h2⟩, fun c hcm => ?_, q⟩
   have e' : c = s1.heap.objs.size + 4 \/ c = s1.heap.objs.size + 2 \/ c = s1.heap.objs.size + 3 \/ c = s1.heap.objs.size \/ c = s1.heap.objs.size + 1 := by simpa using hcm
   have hle : s1.heap.objs.size <= c := by
    rcases e' with z | z | z | z | z
    ·rw [z]; exact Nat.le_add_right _ _
    ·rw [z]; exact Nat.le_add_right _ _
    ·rw [z]; exact Nat.le_add_right _ _
    ·rw [z]; exact Nat.le_refl _
    ·rw [z]; exact Nat.le_add_right _ _
   exact I1.Jw hle (I1.hok.fresh hle)
end L2
section 
namespace Bits
open PySem PyProof.Rows
theorem j9 {x : Int} (k : Nat) (hx : 0 <= x) : Builtin.bitAnd x (2 ^ k - 1) = x % 2 ^ k := by
 obtain ⟨n, rfl⟩ := Int.eq_ofNat_of_zero_le hx
 have hp : 0 < 2 ^ k := Nat.two_pow_pos k
 rw [two_pow_cast]
 have e : ((2 ^ k : Nat) : Int) - 1 = ((2 ^ k - 1 : Nat) : Int) := by
  generalize (2 : Nat) ^ k = m at hp
  lia
 rw [e, bitAnd_pp (by lia) (by lia), Int.toNat_natCast, Int.toNat_natCast, Nat.and_two_pow_sub_one_eq_mod]
 first
  | rfl
  | exact Int.natCast_emod _ _
  | simp
theorem Qy (m : Nat) : ∀ n : Nat, (m ^^^ n) + 2 * (m &&& n) = m + n := by
 induction m using Nat.strongRecOn with
 | _ m ih =>
  intro n
  by_cases h0 : m = 0
  ·subst h0
   simp
  ·have ih' := ih (m / 2) (Nat.div_lt_self (Nat.pos_of_ne_zero h0) (by decide)) (n / 2)
   rw [<- Nat.xor_div_two, <- Nat.and_div_two] at ih'
   have o1 : (m ^^^ n) % 2 + 2 * ((m &&& n) % 2) = m % 2 + n % 2 := by
    have a1 := @Nat.and_mod_two_eq_one m n
    have x1 := @Nat.xor_mod_two_eq_one m n
    rcases Nat.mod_two_eq_zero_or_one m with hm | hm <;> rcases Nat.mod_two_eq_zero_or_one n with hn | hn <;> rcases Nat.mod_two_eq_zero_or_one (m &&& n) with ha | ha <;> rcases Nat.mod_two_eq_zero_or_one (m ^^^ n) with hx | hx <;> rw [hm, hn, ha] at a1 <;> rw [hm, hn, hx] at x1 <;> rw [hm, hn, ha, hx] <;> revert a1 x1 <;> decide
   rw [<- Nat.div_add_mod (m ^^^ n) 2, <- Nat.div_add_mod (m &&& n) 2]
   have e1 := Nat.div_add_mod m 2
   have e2 := Nat.div_add_mod n 2
   clear ih h0
   generalize (m ^^^ n) / 2 = a at *
   generalize (m &&& n) / 2 = b at *
   generalize (m ^^^ n) % 2 = c at *
   generalize (m &&& n) % 2 = d at *
   lia
theorem Jt {x y : Int} (hx : 0 <= x) (hy : 0 <= y) : Builtin.bitXor x y = ((x.toNat ^^^ y.toNat : Nat) : Int) := by
 have e := Qy x.toNat y.toNat
 rw [bitXor_and, bitAnd_pp hx hy]
 lia
end Bits
end 
section 
end 
section
set_option maxHeartbeats 2000000
namespace L2
open PySem PySem.Spec PyProof.Rows
open PySem.W (WData Codec OpenSpec Well WellAll ReadsW ReadsAllW)
mutual
/-- x stands for the datum d, lists and tuples all the way -/
inductive Dw (K : PySem.W.Frag) (H : Hp) : V -> WData -> Prop
 | non : Dw K H .non .none
 | bl (b : Bool) : Dw K H (.bl b) (.bool b)
 | int (i : Int) : Dw K H (.int i) (.int i)
 | str (x : Str) : Dw K H (.str x) (.str x)
 | byt (b : Array UInt8) : Dw K H (.byt b) (.bytes b.toList)
 | lst {a : Addr} {xs : List V} {ds : List WData} : SqL K H a xs -> zA K H xs ds -> Dw K H (.ref a) (.list ds)
 | tup {a : Addr} {xs : List V} {ds : List WData} : SqT K H a xs -> zA K H xs ds -> Dw K H (.ref a) (.tuple ds)
inductive zA (K : PySem.W.Frag) (H : Hp) : List V -> List WData -> Prop
 | nil : zA K H [] []
 | cons {v : V} {vs : List V} {d : WData} {ds : List WData} : Dw K H v d -> zA K H vs ds -> zA K H (v :: vs) (d :: ds)
end
theorem U4 {K : PySem.W.Frag} {H : Hp} : ∀ ns : List Int, zA K H (ns.map V.int) (ns.map WData.int)
 | [] => .nil
 | n :: r => .cons (.int n) (U4 r)
section
variable {P : Program} {w : World} {K : PySem.W.Frag} {H : Hp} {h : Heap} {R : PySem.W.WRecords} {cl : Str -> Option Addr}
theorem qed {a : Addr} {xs : List V} (hok : HOk P w H h) (KX : K.In h) (q : SqL K H a xs) : ∃ (its : List Value) (o : Obj) (n : Nat), Vals xs its /\ h.get? a = some o /\ o.cls = .type "list" /\ o.data = .seq its.toArray n := by
 rcases q with q | ⟨o, its, n, e, hc, _, hd, _, hv⟩
 ·obtain ⟨_, its, n, hv, e⟩ := (show zw P w H h a (.lst xs) from q.ok hok)
  exact ⟨its, _, n, hv, e, rfl, rfl⟩
 ·exact ⟨its.toList, o, n, hv, KX _ _ e, hc, by simp [hd]⟩
theorem qd9 {a : Addr} {xs : List V} (hok : HOk P w H h) (KX : K.In h) (q : SqT K H a xs) : ∃ (its : List Value) (o : Obj) (n : Nat), Vals xs its /\ h.get? a = some o /\ o.cls = .type "tuple" /\ o.data = .seq its.toArray n := by
 rcases q with q | ⟨o, its, n, e, hc, hd, _, hv⟩
 ·obtain ⟨_, its, hv, o, e, hc, n, hd⟩ := (show zw P w H h a (.tup xs) from q.ok hok)
  exact ⟨its, o, n, hv, e, hc, hd⟩
 ·exact ⟨its.toList, o, n, hv, KX _ _ e, hc, by simp [hd]⟩
mutual
theorem Dw.reads (hok : HOk P w H h) (KX : K.In h) : ∀ (d : WData) (v : V) (u : Value), Dw K H v d -> RelV v u -> ∃ as, ReadsW R cl h u d as
 | .none, _, _, x, r => by
  cases x
  cases r
  exact ⟨_, ReadsW.none⟩
 | .bool b, _, _, x, r => by
  cases x
  cases r
  exact ⟨_, ReadsW.bool b⟩
 | .int i, _, _, x, r => by
  cases x
  obtain ⟨t, rfl⟩ := r
  exact ⟨_, ReadsW.int i t⟩
 | .str s, _, _, x, r => by
  cases x
  obtain ⟨t, rfl⟩ := r
  exact ⟨_, ReadsW.str s t⟩
 | .bytes b, _, _, x, r => by
  cases x
  obtain ⟨t, rfl⟩ := r
  exact ⟨_, ReadsW.bytes _ t⟩
 | .list ds, _, _, x, r => by
  cases x with
  | lst hs ha =>
   cases r
   obtain ⟨its, o, n, rv, ho, hc, hd⟩ := qed hok KX hs
   obtain ⟨as, hr⟩ := Dw.readsAll hok KX ds _ its ha rv
   exact ⟨_, ReadsW.list ho hc hd hr⟩
 | .tuple ds, _, _, x, r => by
  cases x with
  | tup hs ha =>
   cases r
   obtain ⟨its, o, n, rv, ho, hc, hd⟩ := qd9 hok KX hs
   obtain ⟨as, hr⟩ := Dw.readsAll hok KX ds _ its ha rv
   exact ⟨_, ReadsW.tuple ho hc hd hr⟩
 | .float _, _, _, x, _ => by cases x
 | .dict _, _, _, x, _ => by cases x
 | .bytearray _, _, _, x, _ => by cases x
 | .set _, _, _, x, _ => by cases x
 | .frozenset _, _, _, x, _ => by cases x
 | .obj _ _, _, _, x, _ => by cases x
theorem Dw.readsAll (hok : HOk P w H h) (KX : K.In h) : ∀ (ds : List WData) (vs : List V) (us : List Value), zA K H vs ds -> Vals vs us -> ∃ as, ReadsAllW R cl h us ds as
 | [], _, _, x, r => by
  cases x
  cases r
  exact ⟨_, ReadsAllW.nil⟩
 | d :: ds, _, _, x, r => by
  cases x with
  | cons h1 h2 =>
   cases r with
   | cons r1 r2 =>
    obtain ⟨as, q1⟩ := Dw.reads hok KX d _ _ h1 r1
    obtain ⟨bs, q2⟩ := Dw.readsAll hok KX ds _ _ h2 r2
    exact ⟨_, ReadsAllW.cons q1 q2⟩
end
end
mutual
/-- data that a codec tells -/
noncomputable def plW : WData -> Bool
 | .none => true
 | .bool _ => true
 | .int _ => true
 | .str _ => true
 | .bytes _ => true
 | .list xs => Qn xs
 | .tuple xs => Qn xs
 | _ => false
noncomputable def Qn : List WData -> Bool
 | [] => true
 | x :: r => plW x && Qn r
end
theorem Ys {α : Type} {f : α -> WData} (h : ∀ a, plW (f a) = true) : ∀ l : List α, Qn (l.map f) = true
 | [] => rfl
 | x :: r => by
  show (plW (f x) && Qn (r.map f)) = true
  rw [h x, Ys h r] <;> rfl
theorem xO : ∀ (c : Codec) (a : c.denote), plW (c.enc a) = true
 | .unit, _ => rfl
 | .bool, _ => rfl
 | .int _ _, _ => rfl
 | .nat _ _, _ => rfl
 | .u8, _ => rfl
 | .bytes _ _, _ => rfl
 | .text _ _ _ _, _ => rfl
 | .list _ _ c, a => Ys (fun x => xO c x) a
 | .pair c d, a => by
  show (plW (c.enc a.1) && (plW (d.enc a.2) && true)) = true
  rw [xO c a.1, xO d a.2] <;> rfl
 | .triple c d e, a => by
  show (plW (c.enc a.1) && (plW (d.enc a.2.1) && (plW (e.enc a.2.2) && true))) = true
  rw [xO c a.1, xO d a.2.1, xO e a.2.2] <;> rfl
 | .option c, none => rfl
 | .option c, some x => xO c x
theorem W0 : ∀ (cs : List Codec) (a : Codec.denoteAll cs), Qn (Codec.encAll cs a) = true
 | [], _ => rfl
 | c :: cs, a => by
  show (plW (c.enc a.1) && Qn (Codec.encAll cs a.2)) = true
  rw [xO c a.1, W0 cs a.2] <;> rfl
theorem uO : ∀ {xs : List WData} {d : WData}, d ∈ xs -> d.weight <= WData.weightAll xs
 | [], d, h => absurd h (by simp)
 | x :: r, d, h => by
  show d.weight <= x.weight + 1 + WData.weightAll r
  rcases List.mem_cons.mp h with e | m
  ·rw [e]
   lia
  ·have z := uO m
   lia
noncomputable def toV : Value -> V
 | .none => .non
 | .bool b => .bl b
 | .int i _ => .int i
 | .str x _ => .str x
 | .bytes b _ => .byt b
 | .ref a => .ref a
 | _ => .non
noncomputable def OkU (A : List Addr) : Value -> Prop
 | .none => True
 | .bool _ => True
 | .int _ _ => True
 | .str _ _ => True
 | .bytes _ _ => True
 | .ref a => a ∈ A
 | _ => False
theorem OkU.mono {A B : List Addr} (h : ∀ a ∈ A, a ∈ B) : ∀ {u : Value}, OkU A u -> OkU B u := fun {u} x => by
 cases u with
 | ref a => exact h a x
 | none => trivial
 | bool b => trivial
 | int i t => trivial
 | str s t => trivial
 | bytes b t => trivial
 | _ => exact False.elim x
theorem qbc {A : List Addr} {u : Value} (x : OkU A u) : RelV (toV u) u := by
 cases u with
 | ref a => rfl
 | none => rfl
 | bool b => rfl
 | int i t => exact ⟨t, rfl⟩
 | str s t => exact ⟨t, rfl⟩
 | bytes b t => exact ⟨t, rfl⟩
 | _ => exact False.elim x
theorem yK {A : List Addr} : ∀ {vs : List Value}, (∀ u ∈ vs, OkU A u) -> Vals (vs.map toV) vs
 | [], _ => .nil
 | u :: r, h => .cons (qbc (h u (List.mem_cons_self ..))) (yK fun x hx => h x (List.mem_cons_of_mem _ hx))
noncomputable def xl (h : Heap) (A : List Addr) (a : Addr) : Prop := ∃ vs : List Value, vs.length <= sizeLine /\ (∀ u ∈ vs, OkU A u) /\
 (h.get? a = some { cls := .type "list", data := .seq vs.toArray } \/ h.get? a = some { cls := .type "tuple", data := .seq vs.toArray })
theorem xl.mono {h : Heap} {A B : List Addr} {a : Addr} (k : ∀ a ∈ A, a ∈ B) (x : xl h A a) : xl h B a := by
 obtain ⟨vs, h1, h2, h3⟩ := x
 exact ⟨vs, h1, fun u hu => (h2 u hu).mono k, h3⟩
theorem yj {P : Params} {h : Heap} : ∀ {vs : List Value} {ds : List WData}, WellAll P h vs ds -> vs.length = ds.length
 | _, _, .nil => rfl
 | _, _, .cons _ b => by
  show _ + 1 = _ + 1
  rw [yj b]
theorem WC {P : Params} {h : Heap} {v : Value} {ds : List WData} (x : Well P h v (.list ds)) : ∃ (a : Addr) (vs : List Value), v = .ref a /\ h.get? a = some { cls := .type "list", data := .seq vs.toArray } /\ WellAll P h vs ds := by
 cases x with
 | list ho hall => exact ⟨_, _, rfl, ho, hall⟩
theorem Vk {P : Params} {h : Heap} {v : Value} {ds : List WData} (x : Well P h v (.tuple ds)) : ∃ (a : Addr) (vs : List Value), v = .ref a /\ h.get? a = some { cls := .type "tuple", data := .seq vs.toArray } /\ WellAll P h vs ds := by
 cases x with
 | tuple ho hall => exact ⟨_, _, rfl, ho, hall⟩
theorem WU {P : Params} {h : Heap} {us : List Value} {d : WData} {ds : List WData} (x : WellAll P h us (d :: ds)) : ∃ (v : Value) (vs : List Value), us = v :: vs /\ Well P h v d /\ WellAll P h vs ds := by
 cases x with
 | cons a b => exact ⟨_, _, rfl, a, b⟩
theorem UJ {n : Nat} (h : n <= 1048576) : n <= sizeLine := Nat.le_trans h (by decide)
section
variable {P : Params} {h : Heap}
mutual
theorem qau : ∀ (d : WData) (v : Value), Well P h v d -> plW d = true -> d.weight <= 1048576 -> ∃ A : List Addr, OkU A v /\ ∀ a ∈ A, xl h A a
 | .none, _, x, _, _ => by
  cases x
  exact ⟨[], trivial, fun a m => absurd m (by simp)⟩
 | .bool b, _, x, _, _ => by
  cases x
  exact ⟨[], trivial, fun a m => absurd m (by simp)⟩
 | .int i, _, x, _, _ => by
  cases x
  exact ⟨[], trivial, fun a m => absurd m (by simp)⟩
 | .str s, _, x, _, _ => by
  cases x
  exact ⟨[], trivial, fun a m => absurd m (by simp)⟩
 | .bytes b, _, x, _, _ => by
  cases x
  exact ⟨[], trivial, fun a m => absurd m (by simp)⟩
 | .list ds, _, x, p, z => by
  obtain ⟨a, vs, rfl, ho, hall⟩ := WC x
  have z2 : WData.weightAll ds <= 1048576 := z
  obtain ⟨A, h1, h2⟩ := jj ds _ hall p fun d hd => Nat.le_trans (uO hd) z2
  have k : ∀ b ∈ A, b ∈ a :: A := fun b hb => List.mem_cons_of_mem _ hb
  refine ⟨a :: A, List.mem_cons_self .., fun b hb => ?_⟩
  rcases List.mem_cons.mp hb with e | m
  ·rw [e]
   exact ⟨vs, UJ (by rw [yj hall]; exact Nat.le_trans (PySem.W.length_le_weightAllW ds) z2), fun u hu => (h1 u hu).mono k, .inl ho⟩
  ·exact (h2 b m).mono k
 | .tuple ds, _, x, p, z => by
  obtain ⟨a, vs, rfl, ho, hall⟩ := Vk x
  have z2 : WData.weightAll ds <= 1048576 := z
  obtain ⟨A, h1, h2⟩ := jj ds _ hall p fun d hd => Nat.le_trans (uO hd) z2
  have k : ∀ b ∈ A, b ∈ a :: A := fun b hb => List.mem_cons_of_mem _ hb
  refine ⟨a :: A, List.mem_cons_self .., fun b hb => ?_⟩
  rcases List.mem_cons.mp hb with e | m
  ·rw [e]
   exact ⟨vs, UJ (by rw [yj hall]; exact Nat.le_trans (PySem.W.length_le_weightAllW ds) z2), fun u hu => (h1 u hu).mono k, .inr ho⟩
  ·exact (h2 b m).mono k
 | .float _, _, _, p, _ => Bool.noConfusion (show false = true from p)
 | .dict _, _, _, p, _ => Bool.noConfusion (show false = true from p)
 | .bytearray _, _, _, p, _ => Bool.noConfusion (show false = true from p)
 | .set _, _, _, p, _ => Bool.noConfusion (show false = true from p)
 | .frozenset _, _, _, p, _ => Bool.noConfusion (show false = true from p)
 | .obj _ _, _, _, p, _ => Bool.noConfusion (show false = true from p)
theorem jj : ∀ (ds : List WData) (vs : List Value), WellAll P h vs ds -> Qn ds = true -> (∀ d ∈ ds, d.weight <= 1048576) -> ∃ A : List Addr, (∀ u ∈ vs, OkU A u) /\ ∀ a ∈ A, xl h A a
 | [], _, x, _, _ => by
  cases x
  exact ⟨[], fun u m => absurd m (by simp), fun a m => absurd m (by simp)⟩
 | d :: ds, _, x, p, z => by
  obtain ⟨v, vs, rfl, x1, x2⟩ := WU x
  have q : plW d = true /\ Qn ds = true := Bool.and_eq_true_iff.mp p
  obtain ⟨A, a1, a2⟩ := qau d v x1 q.1 (z d (List.mem_cons_self ..))
  obtain ⟨B, b1, b2⟩ := jj ds vs x2 q.2 fun e he => z e (List.mem_cons_of_mem _ he)
  have kA : ∀ b ∈ A, b ∈ A ++ B := fun b hb => List.mem_append.mpr (.inl hb)
  have kB : ∀ b ∈ B, b ∈ A ++ B := fun b hb => List.mem_append.mpr (.inr hb)
  refine ⟨A ++ B, fun u hu => ?_, fun b hb => ?_⟩
  ·rcases List.mem_cons.mp hu with e | m
   ·rw [e]
    exact a1.mono kA
   ·exact (b1 u m).mono kB
  ·rcases List.mem_append.mp hb with m | m
   ·exact (a2 b m).mono kA
   ·exact (b2 b m).mono kB
end
end
noncomputable def qb7 (o : Obj) : Option HO := match o.data with
 | .seq vs _ => if (o.cls == Value.type "list") = true then some (.frz o (.lst (vs.toList.map toV))) else some (.frz o (.tup (vs.toList.map toV)))
 | _ => none
noncomputable def yW (K : PySem.W.Frag) (h : Heap) (A : List Addr) : Hp := fun b => if b ∈ A then (if (K.lookup b).isNone = true then (h.get? b).bind qb7 else none) else none
noncomputable def qdw (H : Hp) : Prop := ∀ b, H b = none \/ ∃ o u, H b = some (.frz o u)
theorem YU (vs : List Value) : qb7 { cls := .type "list", data := .seq vs.toArray } = some (.frz { cls := .type "list", data := .seq vs.toArray } (.lst (vs.map toV))) := by
 show (if (Value.type "list" == Value.type "list") = true then some (HO.frz { cls := .type "list", data := .seq vs.toArray } (.lst (vs.toArray.toList.map toV))) else some (HO.frz { cls := .type "list", data := .seq vs.toArray } (.tup (vs.toArray.toList.map toV)))) = _
 rw [if_pos (beq_self_eq_true _)]
theorem Xi (vs : List Value) : qb7 { cls := .type "tuple", data := .seq vs.toArray } = some (.frz { cls := .type "tuple", data := .seq vs.toArray } (.tup (vs.map toV))) := by
 show (if (Value.type "tuple" == Value.type "list") = true then some (HO.frz { cls := .type "tuple", data := .seq vs.toArray } (.lst (vs.toArray.toList.map toV))) else some (HO.frz { cls := .type "tuple", data := .seq vs.toArray } (.tup (vs.toArray.toList.map toV)))) = _
 rw [if_neg (by decide)]
section
variable {P : Program} {w : World} {K : PySem.W.Frag} {h : Heap} {A : List Addr}
theorem Q0 {b : Addr} {o : Obj} (hb : b ∈ A) (hk : K.lookup b = none) (e : h.get? b = some o) : yW K h A b = qb7 o := by
 unfold yW
 rw [if_pos hb, hk, if_pos (show (none : Option Obj).isNone = true from rfl), e] <;> rfl
theorem qcm {b : Addr} {u : HO} (q : yW K h A b = some u) : b ∈ A /\ K.lookup b = none := by
 unfold yW at q
 by_cases hb : b ∈ A
 ·rw [if_pos hb] at q
  cases hk : K.lookup b with
  | none => exact ⟨hb, rfl⟩
  | some o =>
   rw [hk, if_neg (by simp)] at q
   cases q
 ·rw [if_neg hb] at q
  cases q
theorem QW (ar : ∀ a ∈ A, xl h A a) {b : Addr} {u : HO} (q : yW K h A b = some u) : K.lookup b = none /\ ∃ vs : List Value, vs.length <= sizeLine /\ (∀ u ∈ vs, OkU A u) /\
    ((h.get? b = some { cls := .type "list", data := .seq vs.toArray } /\ u = .frz { cls := .type "list", data := .seq vs.toArray } (.lst (vs.map toV))) \/
     (h.get? b = some { cls := .type "tuple", data := .seq vs.toArray } /\ u = .frz { cls := .type "tuple", data := .seq vs.toArray } (.tup (vs.map toV)))) := by
  obtain ⟨hb, hk⟩ := qcm q
  obtain ⟨vs, h1, h2, h3⟩ := ar b hb
  refine ⟨hk, vs, h1, h2, ?_⟩
  rcases h3 with e | e
  · rw [Q0 hb hk e, YU] at q
    exact .inl ⟨e, (Option.some.inj q).symm⟩
  · rw [Q0 hb hk e, Xi] at q
    exact .inr ⟨e, (Option.some.inj q).symm⟩
theorem JB (ar : ∀ a ∈ A, xl h A a) : qdw (yW K h A) := fun b => by
 cases q : yW K h A b with
 | none => exact .inl rfl
 | some u =>
  obtain ⟨_, vs, _, _, ⟨_, e⟩ | ⟨_, e⟩⟩ := QW ar q
  ·exact .inr ⟨_, _, by rw [e]⟩
  ·exact .inr ⟨_, _, by rw [e]⟩
theorem qdc (ar : ∀ a ∈ A, xl h A a) : HOk P w (yW K h A) h := fun b u q => by
 obtain ⟨_, vs, h1, h2, ⟨e, rfl⟩ | ⟨e, rfl⟩⟩ := QW ar q
 ·exact ⟨e, by rw [List.length_map]; exact h1, vs, _, yK h2, e⟩
 ·exact ⟨e, by rw [List.length_map]; exact h1, vs, yK h2, _, e, rfl, _, rfl⟩
theorem QM {c c' : Value} {vs us : List Value} (e : (some { cls := c, data := .seq vs.toArray } : Option Obj) = some { cls := c', data := .seq us.toArray }) : c = c' /\ vs = us := by
 have e1 := Option.some.inj e
 have e2 : c = c' := congrArg Obj.cls e1
 have e3 : Data.seq vs.toArray = Data.seq us.toArray := congrArg Obj.data e1
 injection e3 with e4
 refine ⟨e2, ?_⟩
 have e5 := congrArg Array.toList e4
 simpa using e5
theorem qf5 (KX : K.In h) (ar : ∀ a ∈ A, xl h A a) {a : Addr} {vs : List Value} (ha : a ∈ A) (e : h.get? a = some { cls := .type "list", data := .seq vs.toArray }) : (∀ u ∈ vs, OkU A u) /\ SqL K (yW K h A) a (vs.map toV) := by
 obtain ⟨us, h1, h2, h3⟩ := ar a ha
 have hu : us = vs := by
  rcases h3 with q | q
  ·rw [e] at q
   exact (QM q).2.symm
  ·rw [e] at q
   exact absurd (Value.type.inj (QM q).1) (by decide)
 subst hu
 refine ⟨h2, ?_⟩
 cases hk : K.lookup a with
 | none => exact .inl (.inr ⟨_, by rw [Q0 ha hk e, YU]⟩)
 | some o =>
  have e2 := KX a o hk
  rw [e] at e2
  obtain rfl := Option.some.inj e2
  exact .inr ⟨_, us.toArray, _, hk, rfl, rfl, rfl, by rw [List.size_toArray]; exact h1, by simpa using yK h2⟩
theorem qf0 (KX : K.In h) (ar : ∀ a ∈ A, xl h A a) {a : Addr} {vs : List Value} (ha : a ∈ A) (e : h.get? a = some { cls := .type "tuple", data := .seq vs.toArray }) : (∀ u ∈ vs, OkU A u) /\ SqT K (yW K h A) a (vs.map toV) := by
 obtain ⟨us, h1, h2, h3⟩ := ar a ha
 have hu : us = vs := by
  rcases h3 with q | q
  ·rw [e] at q
   exact absurd (Value.type.inj (QM q).1) (by decide)
  ·rw [e] at q
   exact (QM q).2.symm
 subst hu
 refine ⟨h2, ?_⟩
 cases hk : K.lookup a with
 | none => exact .inl (.inr ⟨_, by rw [Q0 ha hk e, Xi]⟩)
 | some o =>
  have e2 := KX a o hk
  rw [e] at e2
  obtain rfl := Option.some.inj e2
  exact .inr ⟨_, us.toArray, _, hk, rfl, rfl, by rw [List.size_toArray]; exact h1, by simpa using yK h2⟩
mutual
theorem qdS {Pm : Params} (KX : K.In h) (ar : ∀ a ∈ A, xl h A a) : ∀ (d : WData) (v : Value), Well Pm h v d -> plW d = true -> OkU A v -> Dw K (yW K h A) (toV v) d
 | .none, _, x, _, _ => by
  cases x
  exact .non
 | .bool b, _, x, _, _ => by
  cases x
  exact .bl b
 | .int i, _, x, _, _ => by
  cases x
  exact .int i
 | .str s, _, x, _, _ => by
  cases x
  exact .str s
 | .bytes b, _, x, _, _ => by
  cases x
  have z := Dw.byt (K := K) (H := yW K h A) b.toArray
  exact z
 | .list ds, _, x, p, hu => by
  obtain ⟨a, vs, rfl, ho, hall⟩ := WC x
  obtain ⟨h2, hs⟩ := qf5 KX ar hu ho
  exact .lst hs (Zi KX ar ds _ hall p h2)
 | .tuple ds, _, x, p, hu => by
  obtain ⟨a, vs, rfl, ho, hall⟩ := Vk x
  obtain ⟨h2, hs⟩ := qf0 KX ar hu ho
  exact .tup hs (Zi KX ar ds _ hall p h2)
 | .float _, _, _, p, _ => Bool.noConfusion (show false = true from p)
 | .dict _, _, _, p, _ => Bool.noConfusion (show false = true from p)
 | .bytearray _, _, _, p, _ => Bool.noConfusion (show false = true from p)
 | .set _, _, _, p, _ => Bool.noConfusion (show false = true from p)
 | .frozenset _, _, _, p, _ => Bool.noConfusion (show false = true from p)
 | .obj _ _, _, _, p, _ => Bool.noConfusion (show false = true from p)
theorem Zi {Pm : Params} (KX : K.In h) (ar : ∀ a ∈ A, xl h A a) : ∀ (ds : List WData) (vs : List Value), WellAll Pm h vs ds -> Qn ds = true -> (∀ u ∈ vs, OkU A u) -> zA K (yW K h A) (vs.map toV) ds
 | [], _, x, _, _ => by
  cases x
  exact .nil
 | d :: ds, _, x, p, hu => by
  obtain ⟨v, vs, rfl, x1, x2⟩ := WU x
  have q : plW d = true /\ Qn ds = true := Bool.and_eq_true_iff.mp p
  exact .cons (qdS KX ar d v x1 q.1 (hu _ (List.mem_cons_self ..))) (Zi KX ar ds vs x2 q.2 fun u m => hu u (List.mem_cons_of_mem _ m))
end
end
theorem Vn {ds : List WData} (h : WData.layableAll ds = true) : ∀ d ∈ ds, d.weight <= 1048576 := fun d hd =>
 (PySem.W.layableW_iff.mp (List.all_eq_true.mp h d hd)).2.2
theorem VS : ∀ (cs : List Codec) (a : Codec.denoteAll cs), (Codec.encAll cs a).length = cs.length
 | [], _ => rfl
 | c :: cs, a => by
  show (Codec.encAll cs a.2).length + 1 = cs.length + 1
  rw [VS cs a.2]
end L2
end
section
namespace L2
open PySem PySem.Spec PyProof.Rows
noncomputable def wR (s : Stmt) : Arguments := match s with
 | .FunctionDef _ a _ _ _ _ _ _ _ _ => a
 | _ => { posonlyargs := [], args := [], vararg := none, kwonlyargs := [], kw_defaults := [], kwarg := none, defaults := [] }
noncomputable def vE (s : Stmt) : List Stmt := match s with
 | .FunctionDef _ _ b _ _ _ _ _ _ _ => b
 | _ => []
noncomputable def qf (s : Stmt) : Scope := match s with
 | .FunctionDef _ _ _ _ _ _ sc _ _ _ => sc
 | _ => { kind := .function, names := [], isGenerator := false, isCoroutine := false }
structure Fun (K : PySem.W.Frag) (x qual : Str) (st : Stmt) (f : Addr) (fd : FuncData) : Prop where
 ex : ∃ (oc : Value) (od : Option Addr) (kV doc pm : Value) (an : Option Addr) (cdv ct : Value) (osl : Array (Option Value)),
  fd = PySem.W.fnOf x qual (wR st) (vE st) (qf st) .none kV doc pm an cdv ct /\ K.lookup f = some ⟨oc, od, .func fd, osl⟩ /\ PySem.W.codeIn K cdv qual = true
 kp : PySem.W.keepIn K (.ref f) = true
section
variable {P : Program} {w : World} {K : PySem.W.Frag} {mg : Str -> Option Value} {base : Heap}
theorem Fun.binds {x qual : Str} {st : Stmt} {f : Addr} {fd : FuncData} {ps : List Str} (F : Fun K x qual st f fd)
  (h : ∀ (kV doc pm : Value) (an : Option Addr) (cdv ct : Value) (us : List Value), us.length = ps.length -> bindArgs (PySem.W.fnOf x qual (wR st) (vE st) (qf st) .none kV doc pm an cdv ct) ⟨us, []⟩ = pure (ps.zip us)) : Binds K fd ps [] := by
 obtain ⟨oc, od, kV, doc, pm, an, cdv, ct, osl, rfl, lk, hcd⟩ := F.ex
 exact .all (h kV doc pm an cdv ct)
theorem qN {x qual : Str} {st : Stmt} {f : Addr} {oc : Value} {od an : Option Addr} {osl : Array (Option Value)} {kV doc pm cdv ct : Value} (l : K.lookup f = some ⟨oc, od, .func (PySem.W.fnOf x qual (wR st) (vE st) (qf st) .none kV doc pm an cdv ct), osl⟩)
  (c : PySem.W.codeIn K cdv qual = true) (k : PySem.W.keepIn K (.ref f) = true) : Fun K x qual st f (PySem.W.fnOf x qual (wR st) (vE st) (qf st) .none kV doc pm an cdv ct) := ⟨⟨oc, od, kV, doc, pm, an, cdv, ct, osl, rfl, l, c⟩, k⟩
end
noncomputable def qw (H H' : Hp) : Prop := ∀ b o, H b = some o -> H' b = some o
theorem qw.trans {H H1 H2 : Hp} (a : qw H H1) (b : qw H1 H2) : qw H H2 := fun c o h => b c o (a c o h)
theorem qw.free {H H' : Hp} (e : qw H H') {l : Addr} (h : H' l = Option.none) : H l = Option.none := by
 cases q : H l with
 | none => rfl
 | some o =>
  rw [e l o q] at h
  cases h
theorem qw.seq {K : PySem.W.Frag} {H H' : Hp} {a : Addr} {xs : List V} (e : qw H H') (h : SqL K H a xs) : SqL K H' a xs := by
 rcases h with (h | ⟨o, h⟩) | h
 ·exact .inl (.inl (e _ _ h))
 ·exact .inl (.inr ⟨o, e _ _ h⟩)
 ·exact .inr h
end L2
end
namespace L2
open PySem PySem.Spec PyProof.Rows
noncomputable def Rel (X : Cx) (pins : List (Addr × Obj)) (H : Hp) (b : Addr) : Prop :=
 H b ≠ none \/ (∃ o, X.s_0.heap.get? b = some o /\ b ∉ X.ex) \/ (∃ x, X.env.cells.lookup x = some b) \/ b = X.env.locals \/ ∃ p ∈ X.pn ++ pins, p.1 = b
theorem JS {P : Program} {w : World} {H : Hp} {h : Heap} {a : Addr} {o : HO} (x : zw P w H h a o) : ∃ ob, h.get? a = some ob := by
 cases o with
 | lst xs => obtain ⟨_, _, _, _, e⟩ := x; exact ⟨_, e⟩
 | tup xs => obtain ⟨_, _, _, ob, p, _⟩ := x; exact ⟨ob, p⟩
 | dK kvs => obtain ⟨_, _, _, _, o, _, _, e, _⟩ := x; exact ⟨_, e⟩
 | dT kvs => obtain ⟨_, _, _, _, o, _, _, e, _⟩ := x; exact ⟨_, e⟩
 | set S n => obtain ⟨o, _, _, _, e, _⟩ := x; exact ⟨_, e⟩
 | ins C dx fs => obtain ⟨_, _, _, e, _⟩ := x; exact ⟨_, e⟩
 | own y => exact x
 | xd fs => obtain ⟨_, ⟨o, _, _, e, _⟩, _⟩ := x; exact ⟨_, e⟩
 | rng lo hi => obtain ⟨_, _, _, e⟩ := x; exact ⟨_, e⟩
 | frz ob u => exact ⟨_, x.1⟩
 | tbl ps => exact ⟨_, x⟩
 | met f y => exact ⟨_, x⟩
 | ext φ => exact x.2.1
section
variable {X : Cx} {pins : List (Addr × Obj)} {σ : St} {H H' : Hp} {s s' : Shared} {h' : Heap}
theorem QV (I : Inv X pins σ H s) {b : Addr} (r : Rel X pins H b) : ∃ o, s.heap.get? b = some o := by
 rcases r with r | ⟨o, e, hx⟩ | ⟨x, e⟩ | rfl | ⟨p, hp, rfl⟩
 ·cases q : H b with
  | none => exact absurd q r
  | some u => exact JS (I.hok b u q)
 ·exact I.base.there b o e hx
 ·obtain ⟨v, o, ho, _⟩ := I.cell x b e
  exact ⟨o, ho⟩
 ·obtain ⟨m, ⟨o, _, _, ho, _⟩, _⟩ := I.loc
  exact ⟨o, ho⟩
 ·exact ⟨_, (I.pin p hp).1⟩
theorem qbt (I : Inv X pins σ H s) {b : Addr} (h : b ∈ X.fs) : b ∈ frs X.stack := by
 rcases I.ok.stk with e | ⟨e, hf⟩
 ·rw [e]; exact h
 ·rw [e]; unfold frs; rw [List.filterMap_cons, hf]; exact List.mem_cons_of_mem _ h
theorem qac {t' : Nat} (I : Inv X pins σ H s) (kp : ∀ b o, Rel X pins H b -> b ∉ frs X.stack -> s.heap.get? b = some o -> h'.get? b = some o)
  (sl : ∀ b o, b ∈ frs X.stack -> s.heap.get? b = some o -> ∃ sl, h'.get? b = some { o with slots := sl }) : Inv X pins σ H { s with heap := h', toks := t' } := by
 have any : ∀ b o, Rel X pins H b -> s.heap.get? b = some o -> ∃ sl, h'.get? b = some { o with slots := sl } := fun b o r e => by
  by_cases hb : b ∈ frs X.stack
  ·exact sl b o hb e
  ·exact ⟨o.slots, kp b o r hb e⟩
 have cellK : ∀ x c, X.env.cells.lookup x = some c -> ∀ v, s.heap.IsCell c v -> h'.IsCell c v := fun x c e v ⟨o, ho, hd⟩ => by
  obtain ⟨sl', q⟩ := any c o (.inr (.inr (.inl ⟨x, e⟩))) ho
  exact ⟨_, q, hd⟩
 refine ⟨I.ok, I.os, I.bare, ⟨fun b o e n hb hx => ?_, fun b o e n hb hx => ?_, I.base.free, fun b o e hx => ?_, I.base.tups, I.base.frzs, I.base.tbls⟩, ?_, fun x c e => ?_, I.free, I.freeC, fun p hp => ?_, fun b u e => ?_, I.len⟩
 ·have q := I.base.keep b o e n hb hx
  refine kp b o (.inr (.inl ⟨o, e, hx⟩)) (fun z => ?_) q
  rcases List.mem_cons.mp (I.yE b z) with z | z
  ·exact absurd (Nat.lt_of_lt_of_le (Heap.lt_size e) I.ok.above) (by rw [z]; exact Nat.lt_irrefl _)
  ·exact hb z
 ·obtain ⟨s1, q⟩ := I.base.slot b o e n hb hx
  obtain ⟨s2, q2⟩ := sl b _ (qbt I hb) q
  exact ⟨s2, q2⟩
 ·obtain ⟨o', q⟩ := I.base.there b o e hx
  obtain ⟨s2, q2⟩ := any b o' (.inr (.inl ⟨o, e, hx⟩)) q
  exact ⟨_, q2⟩
 ·obtain ⟨m, ⟨o, es, ep, ho, r⟩, hl⟩ := I.loc
  obtain ⟨s2, q2⟩ := any _ o (.inr (.inr (.inr (.inl rfl)))) ho
  refine ⟨m, ⟨_, es, ep, q2, r⟩, fun i x v e1 e2 e3 => ?_⟩
  obtain ⟨u, r, l⟩ := hl i x v e1 e2 e3
  refine ⟨u, r, ?_⟩
  rcases l with l | ⟨k, c, e, z⟩
  ·exact .inl l
  ·exact .inr ⟨k, c, e, cellK x c e _ z⟩
 ·obtain ⟨v, z⟩ := I.cell x c e
  exact ⟨v, cellK x c e v z⟩
 ·obtain ⟨e, n, ne, nf, d⟩ := I.pin p hp
  refine ⟨kp p.1 p.2 (.inr (.inr (.inr (.inr ⟨p, hp, rfl⟩)))) (fun z => ?_) e, n, ne, nf, d⟩
  rcases List.mem_cons.mp (I.yE p.1 z) with z | z
  ·exact ne z
  ·exact nf z
 ·refine (I.hok b u e).Wu (fun c w hc q => ?_) (fun _ q => q) fun _ _ q => q
  have hne : H c ≠ none := by
   rcases hc with z | z
   ·rw [z, e]; exact fun z => nomatch z
   ·rw [z]; exact fun z => nomatch z
  exact kp c w (.inl hne) (fun z => hne (I.ZY c z)) q
end
noncomputable def Trd (h B : Heap) (e : Addr) (cls : Value) : Prop :=
 ∃ oe vs a0, h.get? e = some oe /\ oe.cls = cls /\ oe.data = .fields vs /\ vs[0]? = some a0 /\
  (vs[1]? = some .none \/ ∃ T oT ts f, vs[1]? = some (.ref T) /\ B.get? T = none /\ T ≠ e /\ h.get? T = some oT /\ oT.data = .fields ts /\ ts[3]? = some f)
noncomputable def qbW (h B : Heap) (e : Addr) (cls : Value) : Prop :=
 ∃ oe vs a0, h.get? e = some oe /\ oe.cls = cls /\ oe.data = .fields vs /\ vs[0]? = some a0 /\
  ∃ T oT ts f, vs[1]? = some (.ref T) /\ B.get? T = none /\ T ≠ e /\ h.get? T = some oT /\ oT.data = .fields ts /\ ts[3]? = some f
theorem qbW.trd {h B : Heap} {e : Addr} {cls : Value} (x : qbW h B e cls) : Trd h B e cls := by
 obtain ⟨oe, vs, a0, h1, h2, h3, h4, r⟩ := x
 exact ⟨oe, vs, a0, h1, h2, h3, h4, .inr r⟩
noncomputable def Hand (B : Heap) (l : List Env) (e : Addr) (cls : Value) (h : Heap) : Prop := B.StaysIn h /\ B.get? e = none /\ h.FunFrames B l /\ Trd h B e cls
noncomputable def yY (B : Heap) (l : List Env) (e : Addr) (cls : Value) (h : Heap) : Prop := B.StaysIn h /\ B.get? e = none /\ h.FunFrames B l /\ qbW h B e cls
theorem yY.hand {B : Heap} {l : List Env} {e : Addr} {cls : Value} {h : Heap} (x : yY B l e cls h) : Hand B l e cls h := ⟨x.1, x.2.1, x.2.2.1, x.2.2.2.trd⟩
section
variable {M : Model} {A : Around} {E : Value -> Shared -> Prop} {s : Shared} {B : Heap} {env env' : Env} {outer : List Env} {L e : Addr} {cls : Value} {Q : Unit -> Shared -> Prop}
theorem yJ (hfr : A.frames = some (env :: outer)) (hf : env.frame = some L) (hf' : env'.frame = some L) (x : Hand B (env :: outer) e cls s.heap)
  (h : ∀ h', yY B (env :: outer) e cls h' -> s.heap.UpToSlots h' -> Q () { s with heap := h' }) : wpAny M A (noteFrame (.ref e) env') Q E s := by
 have en : noteFrame (.ref e) env' = noteFrame (.ref e) env := by
  unfold noteFrame PySem.frameOf
  rw [hf, hf']
 rw [en]
 obtain ⟨kb, hen, hl, oe, vs, a0, he, hcls, hd, h0, r⟩ := x
 subst hcls
 have fin : ∀ h', Heap.NotedW B (env :: outer) e oe.cls a0 (rawInt L) s.heap h' -> Q () { s with heap := h' } := fun h' ⟨k1, k2, k3, k4⟩ => by
  obtain ⟨oe', vs', T, oT, ts, g1, g2, g3, g4, g5, g6, g7, g8, g9⟩ := k3
  exact h h' ⟨k1, hen, k2, oe', vs', a0, g1, g2.1, g3, g2.2, T, oT, ts, _, g4, g5, g6, g7, g8, g9⟩ k4
 rcases r with h1 | ⟨T, oT, ts, f, h1, hnT, hTe, hT, hdT, h3⟩
 ·unfold noteFrame
  simp only [hf]
  refine wpAny_bind (wpAny_field he hd h1 ?_)
  rw [if_neg (by decide)]
  exact wpAny_entryW hfr hl hf he kb hen hd (Array.getElem?_eq_some_iff.mp h1).1 h0 fin
 ·unfold noteFrame
  simp only [hf]
  refine wpAny_bind (wpAny_field he hd h1 ?_)
  rw [if_pos (show (Value.ref T != Value.none) = true from by simp)]
  refine wpAny_bind (wpAny_field hT hdT h3 ?_)
  by_cases hc : (f == rawInt L) = true
  ·rw [if_pos hc]
   exact wpAny_pure (h s.heap ⟨kb, hen, hl, oe, vs, a0, he, rfl, hd, h0, T, oT, ts, f, h1, hnT, hTe, hT, hdT, h3⟩ (.refl _))
  ·rw [if_neg hc]
   refine wpAny_bind (wpAny_setField hT hdT (Array.getElem?_eq_some_iff.mp h3).1 ?_)
   have other : ∀ b, b ≠ T -> (s.heap.update T (Obj.mapFields (·.setIfInBounds 3 Value.none))).get? b = s.heap.get? b := fun b hb => Heap.get?_update_other _ _ (Ne.symm hb)
   have noRecord : ∀ b o, s.heap.get? b = some o -> (∀ vs, o.data ≠ .fields vs) -> b ≠ T := fun b o hb hnf q => by
    rw [q, hT] at hb; injection hb with hb; subst hb; exact hnf ts hdT
   refine wpAny_entryW hfr (hl.of_keeps fun b o hb hnf => ⟨o, (other b (noRecord b o hb hnf)).trans hb, rfl⟩) hf ((other e (Ne.symm hTe)).trans he)
    (fun b o hbo => (other b fun q => by rw [q, hnT] at hbo; cases hbo).trans (kb b o hbo)) hen hd (Array.getElem?_eq_some_iff.mp h1).1 h0
    fun h' ⟨x1, x2, x3, x4⟩ => fin h' ⟨x1, x2, x3, fun b o hb hnf => x4 b o ((other b (noRecord b o hb hnf)).trans hb) hnf⟩
theorem zf {l : List Env} {fr : Option Addr} (x : yY B l e cls s.heap) (h : ∀ h', yY B l e cls h' -> s.heap.UpToSlots h' -> Q () { s with heap := h' }) : wpAny M A (setFlight (.ref e) fr) Q E s := by
 obtain ⟨kb, hen, hl, oe, vs, a0, he, hcls, hd, h0, T, oT, ts, f, h1, hnT, hTe, hT, hdT, h3⟩ := x
 have hsz : 3 < ts.size := (Array.getElem?_eq_some_iff.mp h3).1
 unfold setFlight
 refine wpAny_bind (wpAny_field he hd h1 ?_)
 rw [if_pos (show (Value.ref T != Value.none) = true from by simp)]
 refine wpAny_setField hT hdT hsz ?_
 have other : ∀ (v : Value) b, b ≠ T -> (s.heap.update T (Obj.mapFields (·.setIfInBounds 3 v))).get? b = s.heap.get? b := fun v b hb => Heap.get?_update_other _ _ (Ne.symm hb)
 have noRecord : ∀ b o, s.heap.get? b = some o -> (∀ vs, o.data ≠ .fields vs) -> b ≠ T := fun b o hb hnf q => by
  rw [q, hT] at hb; injection hb with hb; subst hb; exact hnf ts hdT
 refine h _ ⟨fun b o hbo => (other _ b fun q => by rw [q, hnT] at hbo; cases hbo).trans (kb b o hbo), hen, hl.of_keeps fun b o hb hnf => ⟨o, (other _ b (noRecord b o hb hnf)).trans hb, rfl⟩,
  oe, vs, a0, (other _ e (Ne.symm hTe)).trans he, hcls, hd, h0, T, _, _, fr.elim Value.none fun f => rawInt f, h1, hnT, hTe, Heap.get?_update_self _ hT (Obj.isFreed_of_fields (Obj.data_mapFields hdT _)), Obj.data_mapFields hdT _, Array.getElem?_setIfInBounds_self_of_lt hsz⟩ fun b o hb hn => ⟨o.slots, (other _ b (noRecord b o hb hn)).trans hb⟩
theorem jt {l : List Env} {Q : Value -> Shared -> Prop} (x : yY B l e cls s.heap) (h : ∀ T, Q (.ref T) s) : wpAny M A (field (.ref e) 1) Q E s := by
 obtain ⟨kb, hen, hl, oe, vs, a0, he, hcls, hd, h0, T, oT, ts, f, h1, _⟩ := x
 exact wpAny_field he hd h1 (h T)
end
noncomputable def Arr (X : Cx) (E : XK) (e : Value) (s' : Shared) : Prop :=
 ∃ (a : Addr) (cls : Value) (B : Heap) (H' : Hp) (pins : List (Addr × Obj)) (σ : St), e = .ref a /\ Inv X pins σ H' s' /\ Hand B X.stack a cls s'.heap /\
  (∀ b o, s'.heap.get? b = some o -> b ∉ frs X.stack -> Rel X pins H' b -> B.get? b = some o) /\ E cls none H'
noncomputable def CX1 (P : Program) (w : World) : CXT := fun outer H s E e s' =>
 ∃ (a : Addr) (cls : Value) (B : Heap) (H' : Hp), e = .ref a /\ s'.os = s.os /\ AllBare s'.gens /\ Un (frs outer) [] H H' s.heap s'.heap /\ HOk P w H' s'.heap /\ Hand B outer a cls s'.heap /\
  (∀ b o, s'.heap.get? b = some o -> b ∉ frs outer -> (H' b ≠ none \/ ∃ o', s.heap.get? b = some o') -> B.get? b = some o) /\ E cls none H'
theorem rebase {h base B : Heap} : ∀ {l : List Env}, h.FunFrames base l -> (∀ b ∈ frs l, B.get? b = none) -> h.FunFrames B l
 | [], _, _ => trivial
 | env :: r, ⟨hk, ⟨L, o, hf, _, ho, hd⟩, hr⟩, hB => by
  refine ⟨hk, ⟨L, o, hf, hB L ?_, ho, hd⟩, rebase hr fun b hb => hB b ?_⟩
  ·unfold frs; rw [List.filterMap_cons, hf]; exact List.mem_cons_self
  ·unfold frs; rw [List.filterMap_cons, hf]; exact List.mem_cons_of_mem _ hb
section
variable {X : Cx} {pins : List (Addr × Obj)} {σ : St} {H H' : Hp} {s s' : Shared} {E E' : XK} {e : Value}
theorem qdG (I : Inv X pins σ H s) (x : CX1 X.prog X.w X.stack H s E e s') : Arr X E e s' := by
 obtain ⟨a, cls, B, H', e1, ho, hg, un, hok, hd, kb, q⟩ := x
 have I' : Inv X pins σ H' s' := I.qbX (ch := []) ho un hok hg fun b z => absurd z (by simp)
 refine ⟨a, cls, B, H', pins, σ, e1, I', hd, fun b o hb hf r => kb b o hb hf ?_, q⟩
 rcases r with r | r
 ·exact .inl r
 ·exact .inr (QV I (.inr r))
theorem qad {cls : Value} {a : Addr} {args : List Value} {h' : Heap} (I : Inv X pins σ H s) (m : Heap.MadeExcOf s.heap h' a cls args) (q : E cls none H) : Arr X E (.ref a) { s with heap := h' } := by
 have I' : Inv X pins σ H { s with heap := h' } := I.kept (t' := s.toks) m.keeps
 have hideN : ∀ b ∈ frs X.stack, (PySem.W.hideAll s.heap (frs X.stack)).get? b = none := fun b hb => PySem.W.hideAll_none _ hb
 refine ⟨a, cls, PySem.W.hideAll s.heap (frs X.stack), H, pins, σ, rfl, I', ⟨fun b o e => m.keeps b o (PySem.W.of_hideAll _ e), ?_, rebase I'.stack hideN, ?_⟩, fun b o hb hf r => ?_, q⟩
 ·cases z : (PySem.W.hideAll s.heap (frs X.stack)).get? a with
  | none => rfl
  | some o =>
   have := PySem.W.of_hideAll _ z
   rw [m.new] at this
   cases this
 ·obtain ⟨t, ht, _, _⟩ := m.there
  exact ⟨_, _, _, ht, rfl, rfl, rfl, .inl rfl⟩
 ·obtain ⟨o', ho'⟩ := QV I r
  have z := m.keeps b o' ho'
  have z2 : h'.get? b = some o := hb
  rw [z] at z2
  cases z2
  exact PySem.W.hideAll_get _ ho' hf
theorem wQ {a : Addr} {cls : Value} {B : Heap} {h' : Heap} (I : Inv X pins σ H s) (hd : Hand B X.stack a cls s.heap) (kb : ∀ b o, s.heap.get? b = some o -> b ∉ frs X.stack -> Rel X pins H b -> B.get? b = some o)
  (hd' : Hand B X.stack a cls h') (up : s.heap.UpToSlots h') : Inv X pins σ H { s with heap := h' } /\ ∀ b o, h'.get? b = some o -> b ∉ frs X.stack -> Rel X pins H b -> B.get? b = some o := by
 refine ⟨qac (t' := s.toks) I (fun b o r hf e => hd'.1 b o (kb b o e hf r)) fun b o hf e => ?_, fun b o hb hf r => ?_⟩
 ·obtain ⟨_, o', e', hn⟩ := hd.2.2.1.mem hf
  rw [e] at e'
  cases e'
  exact up b o e hn
 ·obtain ⟨o', e'⟩ := QV I r
  have z := hd'.1 b o' (kb b o' e' hf r)
  rw [hb] at z
  cases z
  exact kb b o e' hf r
end
noncomputable def Acc (X : Cx) (E : XK) : Prop := ∀ e s', Arr X E e s' -> X.xe e s'
theorem xR {X : Cx} {E : XK} (x : Acc X E) : Passes (CX1 X.prog X.w) X E := fun pins σ H s e s' I h => x e s' (qdG I h)
theorem Zz {P : Program} {w : World} {K : PySem.W.Frag} {mg : Str -> Option Value} {base : Heap} {N : List Str} {qual : Str} {scope : Scope} {f : Addr} {cd : Value} {A : Around} {outer : List Env} {s : Shared} {H : Hp} {E : XK} :
  Acc (xo (CX1 P w) P w K mg base N qual scope f cd A outer s H E) E := by
 intro e s1 x
 obtain ⟨a, cls, B, H', pins, σ, rfl, I, hd, kb, q⟩ := x
 show wpAny _ _ (leaving _ _) _ _ _
 unfold leaving
 refine wpAny_bind (yJ (outer := outer) I.ok.frames rfl rfl hd fun h1 hd1 up1 => ?_)
 obtain ⟨I1, kb1⟩ := wQ I hd kb hd1.hand up1
 refine zf hd1 fun h2 hd2 up2 => ?_
 obtain ⟨I2, kb2⟩ := wQ I1 hd1.hand kb1 hd2.hand up2
 obtain ⟨g1, g2, ⟨_, _, g3⟩, g4⟩ := hd2.hand
 refine ⟨a, cls, B, H', rfl, I2.os, I2.bare, I2.base, I2.hok, ⟨g1, g2, g3, g4⟩, fun b o hb hf r => kb2 b o hb (fun z => ?_) ?_, q⟩
 ·rcases List.mem_cons.mp (I2.yE b z) with z | z
  ·rcases r with r | ⟨o', r⟩
   ·exact r (by rw [z]; exact I2.free)
   ·exact absurd (Nat.lt_of_lt_of_le (Heap.lt_size r) I2.ok.above) (by rw [z]; exact Nat.lt_irrefl _)
  ·exact hf z
 ·rcases r with r | ⟨o', r⟩
  ·exact .inl r
  ·exact .inr (.inl ⟨o', r, fun z => nomatch z⟩)
noncomputable abbrev xD : List Value := [.type "Exception", .type "BaseException", .type "object"]
noncomputable abbrev ZD : String := "Exception.__new__"
noncomputable def ExcAt (h : Heap) (C : Addr) : Prop := ∃ N nm q bs hdct sn sub ab col dd k0 k1 k2 k3 k5 mN,
 h.get? C = some (excClassObj nm q C N bs xD hdct sn sub ab col dd k0 k1 k2 k3 k5 ZD) /\ h.Ns N mN /\ mN "__init__" = none
noncomputable def qd7 (K : PySem.W.Frag) (C : Addr) : Prop := ∃ N nm q bs hdct sn sub ab col dd k0 k1 k2 k3 k5,
 K.lookup C = some (excClassObj nm q C N bs xD hdct sn sub ab col dd k0 k1 k2 k3 k5 ZD) /\ PySem.W.nsOkIn K N = true /\ PySem.W.nsIn K N "__init__" = some none
open Classical in
noncomputable def qR (K : PySem.W.Frag) (C : Addr) : Bool := decide (qd7 K C)
theorem yq {K : PySem.W.Frag} {h : Heap} {C : Addr} (X : K.In h) (q : qR K C = true) : ExcAt h C := by
 obtain ⟨N, nm, qn, bs, hd, sn, sub, ab, col, dd, k0, k1, k2, k3, k5, look, hns, hini⟩ := (@decide_eq_true_iff (qd7 K C) (Classical.propDecidable _)).mp q
 exact ⟨N, nm, qn, bs, hd, sn, sub, ab, col, dd, k0, k1, k2, k3, k5, _, X _ _ look, .of_isNs (PySem.W.isNs_of_in X hns), PySem.W.nsMap_none_of_in X hns hini⟩
section
variable {X : Cx} {E : XK}
noncomputable def qeF (E : XK) (C : Addr) : TS := fun _ _ H => E (.ref C) none H
theorem Yz {x : Str} {C : Addr} {np cpos pos : Pos} (hc : X.calm = true) (acc : Acc X E) (hg : Gl X x) (hm : X.mg x = some (.ref C)) (hC : qR X.K C = true) (hd : autoParam ((x == ("__debug__" : Str)) = false) qV._auto_1) :
  PS X (.Raise (some (.Call (.Name x np) [] [] cpos)) none pos) (qeF E C) := by
 intro pins s σ H D I h
 obtain ⟨N, nm, q, bs, hdct, sn, sub, ab, col, dd, k0, k1, k2, k3, k5, mN, hC, hN, hi⟩ := yq I.kIn hC
 refine wpAny_Raise_call_subT (bmB := xD) (C := C) (N := N) (mN := mN) (newId := ZD) (nm := nm) (q := q) (bs := bs) (bm := xD) (hdct := hdct) (sn := sn) (sub := sub) (ab := ab) (col := col) (dd := dd) (k0 := k0) (k1 := k1) (k2 := k2) (k3 := k3) (k5 := k5) PySem.F.excBase_Exception (by decide) (I.ok.hd hc) rfl hi ?_
 refine uj I hg hm ⟨rfl, PySem.evalArgs_none ⟨rfl, by show 0 <= sizeLine; decide, hC, hN, .base, fun h' e m => ?_⟩⟩ hd
 exact acc _ _ (qad I m h)
end
structure jd (sc ls : Scope) : Prop where
 kind : ls.kind = .function
 co : ls.isCoroutine = false
 gen : ls.isGenerator = false
 only : ∀ y ∈ ls.names, y.2 = .free \/ y.2 = .globalImplicit
 uniq : ∀ y ∈ ls.names, ls.names.lookup y.1 = some y.2
 free : ∀ y ∈ ls.names, y.2 = .free -> sc.names.lookup y.1 = some .cell
noncomputable abbrev uP (X : Cx) (qual : Str) (ls : Scope) (f : Addr) (cd : Value) (s : Shared) : Env := PySem.W.envX qual ls s.heap.objs.size f cd (qL X.env.cells ls.names [])
noncomputable def V3 (X Y : Cx) (qual : Str) (ls : Scope) (f : Addr) (cd : Value) (s : Shared) (H : Hp) (E : XK) : Cx where
 prog := X.prog
 w := X.w
 K := X.K
 mg := X.mg
 base := X.base
 A := Y.A.deeper (uP X qual ls f cd s)
 N := X.N
 s_0 := s
 H_0 := H
 env := uP X qual ls f cd s
 outer := Y.stack
 stack := uP X qual ls f cd s :: Y.stack
 ex := []
 fn := fun _ => false
 calm := true
 pn := []
 xe := fun e s' => wpAny (model X.prog X.w) (Y.A.deeper (uP X qual ls f cd s)) (leaving (uP X qual ls f cd s) e) (fun _ s'' => CX1 X.prog X.w Y.stack H s E e s'') (fun e' s'' => CX1 X.prog X.w Y.stack H s E e' s'') s'
section
variable {X Y : Cx} {qual : Str} {ls : Scope} {f : Addr} {cd : Value} {s s1 : Shared} {H H1 : Hp} {E : XK} {pins : List (Addr × Obj)} {σ : St}
theorem xA (ok : X.Ok) (L : jd X.env.scope ls) {x : Str} {c : Addr} (h : (qL X.env.cells ls.names []).lookup x = some c) : (x, NameKind.free) ∈ ls.names /\ X.env.cells.lookup x = some c := by
 rcases zI (PySem.mem_of_lookup h) with z | ⟨z, rfl⟩
 ·cases z
 ·obtain ⟨c', e⟩ := ok.has x (.inl (L.free _ z rfl))
  exact ⟨z, by rw [e]; rfl⟩
theorem Jg (ok : X.Ok) (L : jd X.env.scope ls) {x : Str} (h : (x, NameKind.free) ∈ ls.names) : ∃ c, (qL X.env.cells ls.names []).lookup x = some c /\ X.env.cells.lookup x = some c := by
 obtain ⟨c, e⟩ := mem_lookup (yn (cells := X.env.cells) (acc := []) h)
 exact ⟨c, e, (xA ok L e).2⟩
theorem qcy {h1 : Heap} {tk : Nat} (L : jd X.env.scope ls) (I1 : Inv X pins σ H1 s1) (hcell : ∀ x c v, X.env.cells.lookup x = some c -> s1.heap.IsCell c v -> s.heap.IsCell c v) (hfree : ∀ x c, X.env.cells.lookup x = some c -> H c = none)
  (hd : Y.A.handled = none) (e0 : Wr X.prog X.w X.K X.mg X.base Y.A Y.stack s H) (hns : h1.Ns s.heap.objs.size (fun _ => none)) (kp : ∀ b o, s.heap.get? b = some o -> h1.get? b = some o) :
  Inv (V3 X Y qual ls f cd s H E) [] σ H { s with heap := h1, toks := tk } := by
 have noA : ∀ b : Addr, b ∉ (V3 X Y qual ls f cd s H E).ex := fun b z => absurd (show b ∈ ([] : List Addr) from z) (by simp)
 refine ⟨⟨e0.mod, L.kind, rfl, rfl, Nat.le_refl _, fun y z c h1 h2 => ?_, fun y hy => ?_, fun y c z => Bool.noConfusion (show false = true from z), fun _ => hd, Around.frames_deeper e0.frames, .inr ⟨rfl, rfl⟩, fun b z => absurd z (noA b), e0.bs, e0.bsz, fun b _ _ => noA b, fun b z => absurd z (noA b), e0.ur, e0.frf⟩,
  rfl, e0.bare, Un.kept kp, ⟨_, hns, fun i y v h1 h2 h3 => ?_⟩, fun y c h => ?_, e0.hok.fresh (Nat.le_refl _), fun y c h => hfree y c (xA I1.ok L h).2, fun p hp => absurd (show p ∈ ([] : List (Addr × Obj)) from hp) (by simp), e0.hok.kept kp, I1.len⟩
 ·exact I1.ok.inj y z c (xA I1.ok L h1).2 (xA I1.ok L h2).2
 ·have hy : ls.names.lookup y = some .cell \/ ls.names.lookup y = some .free := hy
  rcases hy with hy | hy
  ·rcases L.only _ (PySem.mem_of_lookup hy) with z | z <;> cases z
  ·obtain ⟨c, e, _⟩ := Jg I1.ok L (PySem.mem_of_lookup hy)
   exact ⟨c, e⟩
 ·have h3 : ls.names.lookup y = some .local \/ ls.names.lookup y = some .cell \/ ls.names.lookup y = some .free := h3
  have hfr : ls.names.lookup y = some .free := by
   rcases h3 with z | z | z
   ·rcases L.only _ (PySem.mem_of_lookup z) with q | q <;> cases q
   ·rcases L.only _ (PySem.mem_of_lookup z) with q | q <;> cases q
   ·exact z
  have hc := L.free _ (PySem.mem_of_lookup hfr) rfl
  obtain ⟨c, e1, e2⟩ := Jg I1.ok L (PySem.mem_of_lookup hfr)
  obtain ⟨m, _, hl⟩ := I1.loc
  obtain ⟨u, r, l⟩ := hl i y v h1 h2 (.inr (.inl hc))
  refine ⟨u, r, .inr ⟨.inr hfr, c, e1, ?_⟩⟩
  rcases l with ⟨k, _⟩ | ⟨_, c', e', z⟩
  ·have k : X.env.scope.names.lookup y = some .local := k
   rw [show X.env.scope.names.lookup y = _ from hc] at k
   cases k
  ·rw [e2] at e'
   cases e'
   exact (hcell y c _ e2 z).keeps kp
 ·obtain ⟨_, e⟩ := xA I1.ok L h
  obtain ⟨v, z⟩ := I1.cell y c e
  exact ⟨v, (hcell y c v e z).keeps kp⟩
theorem Zb (L : jd X.env.scope ls) : Acc (V3 X Y qual ls f cd s H E) E := by
 intro e s1 x
 obtain ⟨a, cls, B, H', pins, σ, rfl, I, hd, kb, q⟩ := x
 show wpAny _ _ (leaving _ _) _ _ _
 unfold leaving
 refine wpAny_bind (yJ (outer := Y.stack) I.ok.frames rfl rfl hd fun h1 hd1 up1 => ?_)
 obtain ⟨I1, kb1⟩ := wQ I hd kb hd1.hand up1
 refine zf hd1 fun h2 hd2 up2 => ?_
 obtain ⟨I2, kb2⟩ := wQ I1 hd1.hand kb1 hd2.hand up2
 obtain ⟨g1, g2, ⟨_, _, g3⟩, g4⟩ := hd2.hand
 refine ⟨a, cls, B, H', rfl, I2.os, I2.bare, I2.base, I2.hok, ⟨g1, g2, g3, g4⟩, fun b o hb hf r => kb2 b o hb (fun z => ?_) ?_, q⟩
 ·rcases List.mem_cons.mp (I2.yE b z) with z | z
  ·rcases r with r | ⟨o', r⟩
   ·exact r (by rw [z]; exact I2.free)
   ·exact absurd (Nat.lt_of_lt_of_le (Heap.lt_size r) I2.ok.above) (by rw [z]; exact Nat.lt_irrefl _)
  ·exact hf z
 ·rcases r with r | ⟨o', r⟩
  ·exact .inl r
  ·exact .inr (.inl ⟨o', r, fun z => nomatch z⟩)
end
structure qdi (s : Shared) (H : Hp) (fr : List Addr) (f c : Addr) (qual : Str) (params : Arguments) (body : Expr) (ls : Scope) (clos : List (Str × Addr)) : Prop where
 obj : ∃ pm ctv, s.heap.get? f = some (PySem.W.kla_obj "<lambda>" qual params body ls clos pm c ctv)
 fN : H f = none
 fF : f ∉ fr
 code : ∃ oc vs t, s.heap.get? c = some oc /\ oc.data = .fields vs /\ vs[1]? = some (.str qual t)
 cN : H c = none
 cF : c ∉ fr
section
variable {X Y : Cx} {qual : Str} {params : Arguments} {body : Expr} {ls : Scope} {f c : Addr} {pins : List (Addr × Obj)} {σ1 : St} {E : XK} {tb : TE} {k i : Nat} {x : Str} {p pos : Pos}
theorem qcX (I1 : Inv X pins σ1 Y.H_0 Y.s_0) (eP : Y.prog = X.prog) (ew : Y.w = X.w) (eK : Y.K = X.K) (em : Y.mg = X.mg) (eb : Y.base = X.base) (eo : Y.outer = X.stack) (ex : Y.ex = []) (hfn : ∀ y, X.fn y = true) (L : jd X.env.scope ls)
  (la : qdi Y.s_0 Y.H_0 Y.fs f c qual params body ls (qL X.env.cells ls.names [])) (hr : wG (k + 1) Y.A) (acc : Acc Y E)
  (hbind : ∀ pm ctv, bindArgs (PySem.W.kla_fn "<lambda>" qual params body ls (qL X.env.cells ls.names []) pm (.ref c) ctv) ⟨[], []⟩ = pure [])
  (hb : ∀ (s : Shared) (H : Hp), PE (V3 X Y qual ls f (.ref c) s H E) body tb) (hx : Y.N[i]? = some x) (hv : Vis Y.env.scope x) (hdb : autoParam ((x == ("__debug__" : Str)) = false) qV._auto_1) (hcd : autoParam ((x == ("__classdict__" : Str)) = false) qV._auto_1) :
  PE Y (.Call (.Name x p) [] [] pos) (fun σ H Q => σ[i]? = some (some (.ref f)) /\ tb σ1 H Q) := by
 intro pins' s σ H Q I ⟨hσ, hq⟩
 refine wpAny_Call_Name_kw (thn (Q9 hx hv hdb hcd pins' s σ H (fun v H' => v = .ref f /\ H' = H) I ⟨_, hσ, rfl, rfl⟩) fun u s2 ⟨v, H2, I2, ru, ev, eH⟩ => ?_)
 subst ev eH
 cases (show u = Value.ref f from ru)
 have keep : ∀ b o, Y.s_0.heap.get? b = some o -> Y.H_0 b = none -> b ∉ Y.fs -> s2.heap.get? b = some o /\ H2 b = none := fun b o e n nf =>
  ⟨I2.base.keep b o e n nf (by rw [ex]; simp), I2.base.free b o e n (by rw [ex]; simp)⟩
 obtain ⟨⟨pm, ctv, ho⟩, fN, fF, ⟨oc, vs, t, hoc, hod, hov⟩, cN, cF⟩ := la
 have ho2 := (keep f _ ho fN fF).1
 have hoc2 := (keep c _ hoc cN cF).1
 have hcalm : Y.A.handled = none := hr.hd
 refine PySem.W.callWith_F0 ⟨_, _, _, _, ho2⟩ ?_
 have lim : s2.heap.NoLimit := I2.nolimit
 have cells : ∀ y d, X.env.cells.lookup y = some d -> d ∉ Y.fs := fun y d e hd => by
  have z : d ∈ X.env.locals :: X.fs := I1.yE d (by rw [<- eo]; exact hd)
  rcases List.mem_cons.mp z with z | z
  ·exact I1.cne y d e z
  ·obtain ⟨_, o1, e1, _⟩ := I1.ok.ur.mem z
   exact absurd (Nat.lt_of_lt_of_le (Heap.lt_size e1) (I1.ok.cab y d (hfn y) e)) (Nat.lt_irrefl _)
 have hcell : ∀ y d v, X.env.cells.lookup y = some d -> Y.s_0.heap.IsCell d v -> s2.heap.IsCell d v := fun y d v e ⟨o, h1, h2⟩ => ⟨o, (keep d o h1 (I1.freeC y d e) (cells y d e)).1, h2⟩
 have hfree : ∀ y d, X.env.cells.lookup y = some d -> H2 d = none := fun y d e => by
  obtain ⟨v, o, h1, _⟩ := I1.cell y d e
  exact (keep d o h1 (I1.freeC y d e) (cells y d e)).2
 have e0 : Wr X.prog X.w X.K X.mg X.base Y.A Y.stack s2 H2 := by
  have := I2.qcT
  rw [eP, ew, eK, em, eb] at this
  exact this
 have body_ok : codeAny (model Y.prog Y.w) Y.A (.call (.ref f) ⟨[], []⟩) (CR (CX1 Y.prog Y.w) Y.stack Y.prog Y.w H2 s2 Q E) s2 := by
  refine PySem.W.kla_callFunE hr.depth ho2 rfl L.co L.gen rfl ⟨c, oc, vs, t, rfl, hoc2, hod, hov⟩ ?_
  rw [hbind]
  refine wpAny_pure (wpAny_newFunctionEnv (fun y hy z => ?_) (fun y hy => nomatch hy) (fun h1 hns hsb => ⟨lim.fresh _ hsb, PySem.W.kla_codeExpr ?_⟩) L.kind)
  ·rcases L.only y hy with q | q <;> (rw [q] at z; cases z)
  ·have kp : ∀ b o, s2.heap.get? b = some o -> h1.get? b = some o := fun b o e => (hsb.2 b (Nat.ne_of_lt (Heap.lt_size e))).trans (Heap.get?_push_of_some _ e)
   have I3 : Inv (V3 X Y qual ls f (.ref c) s2 H2 E) [] σ1 H2 { s2 with heap := h1, toks := s2.toks + 0 } := qcy L I1 hcell hfree hcalm e0 hns kp
   rw [eP, ew]
   have q := hb s2 H2 [] _ σ1 H2 Q I3 hq
   refine wpAny_mono q (fun v s' ⟨vv, H', J, rv, qq⟩ => ?_) fun e s' hs => ?_
   ·exact ⟨vv, H', J.os, J.bare, J.base, J.hok, rv, qq⟩
   ·exact hs
 refine wpAny_call (codeAny_mono body_ok fun r s' hq => ?_)
 cases r with
 | error e => exact xR acc pins' σ H2 s2 e s' I2 hq
 | ok fl =>
  cases fl with
  | ret u => exact I2.after hq
  | next => exact False.elim hq
  | brk => exact False.elim hq
  | cont => exact False.elim hq
end
section
variable {M : Model} {A : Around} {E : Value -> Shared -> Prop} {s : Shared} {e C C' : Addr} {oe : Obj} {Q : Bool -> Shared -> Prop}
theorem qaP (hC : ExcAt s.heap C) (he : s.heap.get? e = some oe) (hcls : oe.cls = .ref C) (h : Q true s) : wpAny M A (excMatches (.ref e) (.ref C)) Q E s := by
 obtain ⟨N, nm, q, bs, hdct, sn, sub, ab, col, dd, k0, k1, k2, k3, k5, mN, hC, hN, hi⟩ := hC
 obtain ⟨hp, g, d, tk, os⟩ := s
 exact wpAny_excMatches_sub_self hC he hcls (by decide) h
theorem JY (hC : ExcAt s.heap C) (hC' : ExcAt s.heap C') (he : s.heap.get? e = some oe) (hcls : oe.cls = .ref C) (hne : C ≠ C') (h : Q false s) : wpAny M A (excMatches (.ref e) (.ref C')) Q E s := by
 obtain ⟨N, nm, q, bs, hdct, sn, sub, ab, col, dd, k0, k1, k2, k3, k5, mN, hC, hN, hi⟩ := hC
 obtain ⟨N', nm', q', bs', hdct', sn', sub', ab', col', dd', k0', k1', k2', k3', k5', mN', hC', hN', hi'⟩ := hC'
 obtain ⟨hp, g, d, tk, os⟩ := s
 have c1 : (Value.ref C' :: xD).contains (.type "BaseException") = true := by
  rw [List.contains_cons, show xD.contains (.type "BaseException") = true by decide, Bool.or_true]
 have c2 : (Value.ref C :: xD).contains (.ref C') = false := by
  rw [List.contains_cons]
  have : (Value.ref C' == Value.ref C) = false := by
   rw [beq_eq_false_iff_ne]
   exact fun z => hne (Value.ref.inj z).symm
  rw [this]
  rfl
 have f := tc_notTuple
 unfold excMatches
 repeat (first | (with_reducible refine wpAny_loadPart_at he ?_; rw [hcls]) | with_reducible refine wpAny_loadPart_at hC' ?_ | with_reducible refine wpAny_loadPart_at hC ?_ | (with_reducible refine wpAny_isSubtype_exc hC' ?_; rw [c1]) | (with_reducible refine wpAny_isSubtype_exc hC ?_; rw [c2]) | wp_step)
 exact h
end
noncomputable abbrev Cx.marked (X : Cx) (e : Value) : Cx := { X with A := X.A.mark (some e), calm := false, xe := fun _ _ => False }
section
variable {X : Cx} {pins : List (Addr × Obj)} {σ : St} {H : Hp} {s : Shared}
theorem Vp (I : Inv X pins σ H s) (e : Value) : Inv (X.marked e) pins σ H s :=
 ⟨⟨I.ok.mod, I.ok.kind, I.ok.glob, I.ok.blt, I.ok.above, I.ok.inj, I.ok.has, I.ok.cab, fun z => Bool.noConfusion (show false = true from z), I.ok.frames, I.ok.stk, I.ok.exf, I.ok.bs, I.ok.bsz, I.ok.noex, I.ok.exfs, I.ok.ur, I.ok.frf⟩, I.os, I.bare, I.base, I.loc, I.cell, I.free, I.freeC, I.pin, I.hok, I.len⟩
theorem zT {e : Value} (I : Inv (X.marked e) pins σ H s) (ok : X.Ok) : Inv X pins σ H s := ⟨ok, I.os, I.bare, I.base, I.loc, I.cell, I.free, I.freeC, I.pin, I.hok, I.len⟩
end
inductive Hs (X : Cx) : List ExceptHandler -> List (Addr × Int) -> Prop
 | nil : Hs X [] []
 | cons {x : Str} {C : Addr} {k : Int} {r : List ExceptHandler} {l : List (Addr × Int)} {np p1 p2 p3 p4 p5 : Pos} {j : Nat} : Gl X x -> X.mg x = some (.ref C) -> qR X.K C = true -> (x == ("__debug__" : Str)) = false -> Hs X r l ->
   Hs X (.ExceptHandler (some (.Name x np)) none [.Return (some (.List [.UnaryOp .USub (.Constant (.int k) j p1) p2] p3)) p4] p5 :: r) ((C, k) :: l)
section
variable {X : Cx} {pins : List (Addr × Obj)} {σ : St} {H : Hp} {s : Shared} {a C : Addr} {B : Heap} {D : Ends}
theorem qcZ {hs : List ExceptHandler} {l : List (Addr × Int)} (h : Hs X hs l) : ∀ {s : Shared} {k : Int}, qR X.K C = true -> Inv X pins σ H s -> yY B X.stack a (.ref C) s.heap -> (∀ b o, s.heap.get? b = some o -> b ∉ frs X.stack -> Rel X pins H b -> B.get? b = some o) ->
  l.lookup C = some k -> (∀ p, H p = none -> D.rt (.ref p) (upd H p (.lst [.int (-k)]))) -> wpAny (model X.prog X.w) X.A (handleBy (.ref a) X.env hs) (SP X pins D) X.xe s := by
 induction h with
 | nil => intro s k _ _ _ _ hl; cases hl
 | @cons x C' k' r l np p1 p2 p3 p4 p5 j hg hm hC' hd _ ih =>
  intro s k hC I ha kb hl q
  have em := hC
  refine wpAny_handleBy_cons (codeAny_handlers_test ?_) (by intro z; cases z)
  have IM := Vp I (.ref a)
  refine uj (X := X.marked (.ref a)) IM hg hm ?_ hd
  obtain ⟨oe, vs, a0, he, hcls, hd', h0, rr⟩ := ha.2.2.2
  by_cases hcc : C = C'
  ·subst hcc
   have hk : k' = k := by
    rw [List.lookup_cons_self] at hl
    exact Option.some.inj hl
   subst hk
   refine qaP (yq I.kIn hC) he hcls ?_
   show codeAny _ _ _ _ _
   refine codeAny_handlers_suite (zf ha fun h2 ha2 up => ?_)
   obtain ⟨I2, kb2⟩ := wQ I ha.hand kb ha2.hand up
   have IM2 := Vp I2 (.ref a)
   have pe : PSs (X.marked (.ref a)) [.Return (some (.List [.UnaryOp .USub (.Constant (.int k') j p1) p2] p3)) p4] _ := xZ (jE (Zp (vH (qdA qbB UH) zp)))
   refine wpAny_mono (pe pins _ σ H D IM2 ⟨k', rfl, by show 1 <= sizeLine; decide, q⟩) (fun f s3 hs => ?_) fun _ _ z => z.elim
   cases f with
   | ret u =>
    obtain ⟨v, σ', H', J, rv, qq⟩ := hs
    exact ⟨v, σ', H', zT J I.ok, rv, qq⟩
   | next => obtain ⟨σ', H', J, qq⟩ := hs; exact ⟨σ', H', zT J I.ok, qq⟩
   | brk => obtain ⟨σ', H', J, qq⟩ := hs; exact ⟨σ', H', zT J I.ok, qq⟩
   | cont => obtain ⟨σ', H', J, qq⟩ := hs; exact ⟨σ', H', zT J I.ok, qq⟩
  ·refine JY (yq I.kIn hC) (yq I.kIn hC') he hcls hcc ?_
   show wpAny _ _ _ _ _ _
   refine ih hC I ha kb ?_ q
   rw [List.lookup_cons] at hl
   rw [show (C == C') = false from beq_eq_false_iff_ne.mpr hcc] at hl
   exact hl
end
noncomputable def qer (K : PySem.W.Frag) (l : List (Addr × Int)) (rt : VK) : XK := fun c _ H => ∃ C k, c = .ref C /\ qR K C = true /\ l.lookup C = some k /\ ∀ p, H p = none -> rt (.ref p) (upd H p (.lst [.int (-k)]))
noncomputable abbrev Cx.qar (X : Cx) (pins : List (Addr × Obj)) : Cx := { X with pn := X.pn ++ pins }
theorem qaF {X : Cx} {pins : List (Addr × Obj)} {σ : St} {H : Hp} {s : Shared} (I : Inv X pins σ H s) : Inv (X.qar pins) [] σ H s :=
 ⟨⟨I.ok.mod, I.ok.kind, I.ok.glob, I.ok.blt, I.ok.above, I.ok.inj, I.ok.has, I.ok.cab, I.ok.hd, I.ok.frames, I.ok.stk, I.ok.exf, I.ok.bs, I.ok.bsz, I.ok.noex, I.ok.exfs, I.ok.ur, I.ok.frf⟩, I.os, I.bare, I.base, I.loc, I.cell, I.free, I.freeC,
  fun p hp => I.pin p (by have z : p ∈ (X.pn ++ pins) ++ [] := hp; rwa [List.append_nil] at z), I.hok, I.len⟩
theorem z7 {X : Cx} {pins pins' : List (Addr × Obj)} {σ : St} {H : Hp} {s : Shared} (I : Inv (X.qar pins) pins' σ H s) (ok : X.Ok) : Inv X pins σ H s :=
 ⟨ok, I.os, I.bare, I.base, I.loc, I.cell, I.free, I.freeC, fun p hp => I.pin p (List.mem_append_left _ hp), I.hok, I.len⟩
theorem qd6 {X : Cx} {body : List Stmt} {h0 : ExceptHandler} {hs : List ExceptHandler} {l : List (Addr × Int)} {pos : Pos} {tb : Ends -> TS} {L : Addr} (hst : X.stack = X.env :: X.outer) (hfr : X.env.frame = some L) (hH : Hs X (h0 :: hs) l)
  (hb : ∀ (D : Ends) (pins : List (Addr × Obj)), PSs ((X.qar pins).xV (Arr (X.qar pins) (qer X.K l D.rt))) body (tb D)) : PS X (.Try body (h0 :: hs) [] [] pos) (fun D σ H => tb D D σ H) := by
 intro pins s σ H D I h
 refine wpAny_Try_except (wpAny_mono (hb D pins [] s σ H D ((qaF I).xV _) h) (fun f s1 q => ?_) fun e s1 x => ?_)
 ·have q := q.zM
  cases f with
  | next => obtain ⟨σ', H', J, qq⟩ := q; exact wpAny_execs_nil ⟨σ', H', z7 J I.ok, qq⟩
  | ret v => obtain ⟨v, σ', H', J, r, qq⟩ := q; exact ⟨v, σ', H', z7 J I.ok, r, qq⟩
  | brk => obtain ⟨σ', H', J, qq⟩ := q; exact ⟨σ', H', z7 J I.ok, qq⟩
  | cont => obtain ⟨σ', H', J, qq⟩ := q; exact ⟨σ', H', z7 J I.ok, qq⟩
 ·obtain ⟨a, cls, B, H', pins', σ', rfl, J, hd, kb, C, k, rfl, hC, hl, q⟩ := x
  have hfrm : X.A.frames = some (X.env :: X.outer) := by rw [<- hst]; exact J.ok.frames
  have J := z7 J I.ok
  have hd : Hand B X.stack a (.ref C) s1.heap := hd
  have kb : ∀ b o, s1.heap.get? b = some o -> b ∉ frs X.stack -> Rel X pins H' b -> B.get? b = some o := fun b o h1 h2 r => kb b o h1 h2 (by
   rcases r with r | r | r | r | ⟨p, hp, r⟩
   ·exact .inl r
   ·exact .inr (.inl r)
   ·exact .inr (.inr (.inl r))
   ·exact .inr (.inr (.inr (.inl r)))
   ·exact .inr (.inr (.inr (.inr ⟨p, List.mem_append_left _ hp, r⟩))))
  have hd0 := hd
  rw [hst] at hd0
  refine yJ hfrm hfr hfr hd0 fun h1 hd1 up1 => ?_
  rw [<- hst] at hd1
  obtain ⟨I1, kb1⟩ := wQ J hd kb hd1.hand up1
  refine zf hd1 fun h2 hd2 up2 => ?_
  obtain ⟨I2, kb2⟩ := wQ I1 hd1.hand kb1 hd2.hand up2
  exact qcZ hH hC I2 hd2 kb2 hl q
theorem qat {X : Cx} {pins : List (Addr × Obj)} {σ : St} {H : Hp} {s : Shared} {P : Addr} {ps more : Array Value} {h' : Heap} {tk : Nat} (I : Inv X pins σ H s) (hP : H P = some (.tbl ps)) (hx : Heap.ExtBut P s.heap h')
  (hP' : h'.get? P = some { cls := .none, data := .fields (ps ++ more) }) : Inv X pins σ (upd H P (.tbl (ps ++ more))) { s with heap := h', toks := tk } := by
 have ne : ∀ b, H b = none -> b ≠ P := fun b n z => by rw [z, hP] at n; cases n
 have ne2 : ∀ b u, H b = some u -> (∀ ps, u ≠ .tbl ps) -> b ≠ P := fun b u n q z => by rw [z, hP] at n; exact q ps (Option.some.inj n).symm
 refine I.un ⟨fun b o e n _ _ => hx b o (ne b n) e, fun b o e n _ _ => ⟨o.slots, hx b o (ne b n) e⟩, fun b o e n _ => by rw [qy (ne b n)]; exact n, fun b o e _ => ?_, fun b xs e => by rw [qy (ne2 b _ e fun _ z => nomatch z)]; exact e,
  fun b o u e => by rw [qy (ne2 b _ e fun _ z => nomatch z)]; exact e, fun b qs e => ?_⟩ fun b u e => ?_
 ·by_cases hb : b = P
  ·rw [hb]; exact ⟨_, hP'⟩
  ·exact ⟨o, hx b o hb e⟩
 ·by_cases hb : b = P
  ·subst hb
   rw [hP] at e
   cases e
   exact ⟨more, qJ⟩
  ·exact ⟨#[], by rw [qy hb, e]; simp⟩
 ·by_cases hb : b = P
  ·subst hb
   rw [qJ] at e
   cases e
   exact hP'
  ·rw [qy hb] at e
   refine (I.hok b u e).Wu (fun c v hc q => ?_) (fun c q => ?_) fun c xs q => ?_
   ·refine hx c v ?_ q
    rcases hc with z | z
    ·rw [z]; exact hb
    ·exact ne2 c _ z fun _ z => nomatch z
   ·rw [qy (ne2 c _ q fun _ z => nomatch z)]; exact q
   ·rw [qy (ne2 c _ q fun _ z => nomatch z)]; exact q
theorem qeL {CX : CXT} {P : Program} {w : World} {K : PySem.W.Frag} {mg : Str -> Option Value} {base : Heap} {k : Nat} {f : Addr} {name qual : Str} {params : Arguments} {body : List Stmt} {scope : Scope} {dV kV doc pm cdv ct oc : Value} {an od : Option Addr}
  {osl : Array (Option Value)} {N ps : List Str} {A : Around} {outer : List Env} {s : Shared} {H : Hp} {args : Args} {us : List Value} {vs : List V} {Q : VK} {E : XK}
  (lk : K.lookup f = some ⟨oc, od, .func (PySem.W.fnOf name qual params body scope dV kV doc pm an cdv ct), osl⟩) (hcd : PySem.W.codeIn K cdv qual = true) (S : qu N ps scope) (hl : vs.length = ps.length) (hr : wG (k + 1) A)
  (e0 : Wr P w K mg base A outer s H) (hb : BindsTo s (PySem.W.fnOf name qual params body scope dV kV doc pm an cdv ct) args (ps.zip us)) (r : Vals vs us)
  (hbody : ∃ t, PSs (xo CX P w K mg base N qual scope f cdv A outer s H E) body t /\ t { nx := fun _ H' => Q .non H', rt := Q } (start N vs) H) :
  codeAny (model P w) A (.call (.ref f) args) (CR CX outer P w H s Q E) s := by
 have F := U5 (P := P) (w := w) (mg := mg) (base := base) (CX := CX) (k := k) (sp := fun vs' H' Q' E' => vs'.length = ps.length /\ False) lk hcd S (fun _ _ _ _ z => z.1) fun _ _ _ _ _ _ _ _ z => z.2.elim
 have KX : K.In s.heap := e0.mod.kin.keeps fun b o e => (e0.bs b o e).1
 have lim : s.heap.NoLimit := e0.mod.nolimit.keeps fun b o e => (e0.bs b o e).1
 have hkind : ∀ y ∈ ps.zip us, scope.names.lookup y.1 = some .local \/ (scope.names.lookup y.1 = some .cell /\ ((cellsFrom (s.heap.objs.size + 1) scope.names []).lookup y.1).isSome = true) := fun ⟨n, v⟩ hy => by
  rcases S.par n (List.of_mem_zip hy).1 with q | q
  ·exact .inl q
  ·exact .inr ⟨q, PySem.W.cellsFrom_some _ _ _ (.inl q)⟩
 refine codeAny_call_function hr.depth (KX _ _ lk) rfl S.co S.gen rfl (PySem.W.codeRec_of KX hcd) (hb _ _ _ _ ?_)
 refine wpAny_newFunctionEnv_cells S.kind hkind fun env he s1 x => ?_
 subst he
 refine ⟨lim.keeps x.toInCall.keep, codeAny_func ?_⟩
 obtain ⟨t, ht, hq⟩ := hbody
 have I : Inv (xo CX P w K mg base N qual scope f cdv A outer s H E) [] (start N vs) H s1 := Wx S hr.hd e0 hl r x
 refine wpAny_mono (ht [] s1 (start N vs) H _ I hq) (fun fl s' hs => ?_) fun e s' hs => hs
 have fin : ∀ {σ' : St} {H' : Hp} {v : V} {u : Value}, Inv (xo CX P w K mg base N qual scope f cdv A outer s H E) [] σ' H' s' -> RelV v u -> Q v H' -> CE outer P w H s Q u s' :=
  fun {σ' H' v u} J rv q => ⟨v, H', J.os, J.bare, J.base, J.hok, rv, q⟩
 cases fl with
 | ret u =>
  obtain ⟨v, σ', H', J, rv, q⟩ := hs
  exact fin J rv q
 | next =>
  obtain ⟨σ', H', J, q⟩ := hs
  exact fin (v := V.non) (u := Value.none) J rfl q
 | brk =>
  obtain ⟨_, _, _, q⟩ := hs
  exact False.elim q
 | cont =>
  obtain ⟨_, _, _, q⟩ := hs
  exact False.elim q
theorem yN {X : Cx} {E : XK} : Acc (X.xV (Arr X E)) E := fun e s' x => by
 obtain ⟨a, cls, B, H', pins, σ, e1, I, hd, kb, q⟩ := x
 exact ⟨a, cls, B, H', pins, σ, e1, I.zM, hd, kb, q⟩
structure y8 (mg : Str -> Option Value) (base : Heap) (c P : Addr) : Prop where
 code : PySem.W.CodeHd base c P
 bm : ∃ bm ob, mg "__builtins__" = some (.ref bm) /\ bm ≠ builtinsNs /\ base.get? bm = some ob /\ ob.cls = .type "module" /\ ob.dict = some builtinsNs /\ ob.data = .plain
section
variable {X : Cx} {pins : List (Addr × Obj)} {σ : St} {H : Hp} {s : Shared} {c P : Addr} {params : Arguments} {body : Expr} {ls : Scope} {lpos : Pos} {E : Value -> Shared -> Prop} {Q : Value -> Shared -> Prop}
theorem qbQ (I : Inv X pins σ H s) (BL : y8 X.mg X.base c P) (hc : X.env.code = .ref c) (hP : H P = some (.tbl #[])) (L : jd X.env.scope ls) (hdef : defaultsOf params X.env = ([], []))
  (h : ∀ (s1 : Shared) (more : Array Value) (f c' : Addr), Inv X pins σ (upd H P (.tbl more)) s1 -> qdi s1 (upd H P (.tbl more)) (frs X.stack) f c' (X.env.qual ++ "<lambda>") params body ls (qL X.env.cells ls.names []) -> Q (.ref f) s1) :
  wpAny (model X.prog X.w) X.A (eval (.Lambda params body ls lpos) X.env) Q E s := by
 have hPo : s.heap.get? P = some (PySem.W.tabObj #[]) := I.hok P _ hP
 have hg := I.mod.glob.keeps I.bk
 obtain ⟨bm, ob, b1, b2, b3, b4, b5, b6⟩ := BL.bm
 have nP : ∀ b o, X.base.get? b = some o -> b ≠ P := fun b o e z => by
  have := (I.bs b o e).2
  rw [z, hP] at this
  cases this
 have hgP : mainGlobals ≠ P := by
  obtain ⟨o, es, ep, e, _⟩ := I.mod.glob
  exact nP _ o e
 have hbG : bm ≠ mainGlobals := fun z => by
  obtain ⟨o, es, ep, e, hd, _⟩ := I.mod.glob
  rw [z, e] at b3
  cases b3
  rw [hd] at b6
  cases b6
 have hclos : closureFor ls X.env = pure (qL X.env.cells ls.names []) := VL fun y hy e => I.ok.has _ (.inl (L.free y hy e))
 refine PySem.W.kla_eval hdef (PySem.W.kla_makeFunction (mg := X.mg) (P := P) hclos I.ok.glob hg hc (BL.code.keeps I.bk) hPo trivial rfl hgP ⟨bm, ob, b1, b2, hbG, nP bm ob b3, I.bk bm ob b3, b4, b5, b6⟩ fun c' ctv h' tk hx hge hlt hrec htb => ?_)
 have I1 := qat (tk := tk) I hP hx htb
 have hPlt : P < s.heap.objs.size := Heap.lt_size hPo
 obtain ⟨c2, oc, vs, t, e2, hoc, hd, hv⟩ := hrec
 cases e2
 have cN : upd H P (.tbl (#[] ++ #[rawInt lpos.line, rawInt lpos.col, .ref c'])) c' = none := by
  rw [qy (Nat.ne_of_gt (Nat.lt_of_lt_of_le hPlt hge))]
  exact I.hok.fresh hge
 have I2 := I1.kept (h' := h'.push (PySem.W.kla_obj "<lambda>" (X.env.qual ++ "<lambda>") params body ls (qL X.env.cells ls.names []) ((X.mg "__name__").getD .none) c' ctv)) (t' := tk) fun b o e => Heap.get?_push_of_some _ e
 have notF : ∀ b, s.heap.objs.size <= b -> b ∉ frs X.stack := fun b hb z => by
  rcases List.mem_cons.mp (I.yE b z) with z | z
  ·exact absurd (Nat.lt_of_lt_of_le I.lt hb) (by rw [z]; exact Nat.lt_irrefl _)
  ·exact I.qeX hb z
 exact h _ _ _ c' I2 ⟨⟨_, ctv, Heap.get?_push_size _ rfl⟩, I1.hok.fresh (Nat.le_refl _), notF _ (Nat.le_trans hge (Nat.le_of_lt hlt)), ⟨oc, vs, t, Heap.get?_push_of_some _ hoc, hd, hv⟩, cN, notF _ hge⟩
end
noncomputable def ZS (hs : List ExceptHandler) (q1 q2 q3 q4 q5 q6 q7 q8 q9 q10 : Pos) (j : Nat) : List Stmt :=
 [.Try [.Assign [.Name "told" q1] (.Call (.Name "work" q2) [] [] q3) q4] hs [] [] q5, .Return (some (.BinOp (.List [.Constant (.int 0) j q6] q7) .Add (.Name "told" q8) q9)) q10]
noncomputable def qfU (Q : VK) : VK := fun v H => ∃ b zs, v = .ref b /\ H b = some (.lst zs) /\ zs.length + 1 <= sizeLine /\ ∀ q, H q = none -> ∀ p, upd H q (.lst [.int 0]) p = none -> Q (.ref p) (upd (upd H q (.lst [.int 0])) p (.lst (.int 0 :: zs)))
noncomputable def qdr (f : Addr) (Q : VK) : VK := fun v H => qdY (tOp qeS (qfq (qbp (tC (.int 0)) qeu)) (qfC 1)) { nx := fun _ H' => Q .non H', rt := Q } [some (.ref f), some v] H
theorem qbw {f : Addr} {Q : VK} {v : V} {H : Hp} (h : qfU Q v H) : qdr f Q v H := by
 obtain ⟨b, zs, rfl, hb, hz, q⟩ := h
 refine ⟨by show 1 <= sizeLine; decide, fun p hp => ⟨_, rfl, p, b, [.int 0], zs, rfl, rfl, qJ, ?_, by show 1 + zs.length <= sizeLine; lia, q p hp⟩⟩
 rw [qy (vf hb hp)]
 exact hb
noncomputable def qeB (K : PySem.W.Frag) (l : List (Addr × Int)) (P : Addr) (tb : XK -> TE) : TE := fun σ H Q => H P = some (.tbl #[]) /\ ∀ more f, tb (qer K l Q) σ (upd H P (.tbl more)) (qdr f Q)
section
variable {X : Cx} {c P f2 : Addr} {params : Arguments} {body : Expr} {ls : Scope} {lpos p pos : Pos} {tb : XK -> TE} {k : Nat} {l : List (Addr × Int)} {E : XK}
 {args2 : Arguments} {sc2 : Scope} {dV kV doc pm cdv ct oc : Value} {an od : Option Addr} {osl : Array (Option Value)} {h0 : ExceptHandler} {hs : List ExceptHandler} {q1 q2 q3 q4 q5 q6 q7 q8 q9 q10 : Pos} {j : Nat}
theorem YV (BL : y8 X.mg X.base c P) (hc : X.env.code = .ref c) (hfn : ∀ y, X.fn y = true) (hst : X.stack = X.env :: X.outer) (L : jd X.env.scope ls) (hdef : defaultsOf params X.env = ([], [])) (hr : wG (k + 2) X.A)
  (hg : Gl X "answered") (hm : X.mg "answered" = some (.ref f2)) (hk : PySem.W.keepIn X.K (.ref f2) = true)
  (lk : X.K.lookup f2 = some ⟨oc, od, .func (PySem.W.fnOf "answered" "answered" args2 (ZS (h0 :: hs) q1 q2 q3 q4 q5 q6 q7 q8 q9 q10 j) sc2 dV kV doc pm an cdv ct), osl⟩) (hcd : PySem.W.codeIn X.K cdv "answered" = true)
  (S : qu ["work", "told"] ["work"] sc2) (hw : sc2.names.lookup ("work" : Str) = some .local) (ht : sc2.names.lookup ("told" : Str) = some .local)
  (hb2 : ∀ (s : Shared) (u : Value), BindsTo s (PySem.W.fnOf "answered" "answered" args2 (ZS (h0 :: hs) q1 q2 q3 q4 q5 q6 q7 q8 q9 q10 j) sc2 dV kV doc pm an cdv ct) ⟨[u], []⟩ ((["work"] : List Str).zip [u]))
  (hH : ∀ (s : Shared) (H : Hp), Hs (xo (CX1 X.prog X.w) X.prog X.w X.K X.mg X.base ["work", "told"] "answered" sc2 f2 cdv X.A X.stack s H E) (h0 :: hs) l)
  (hbind : ∀ c' clos pm ctv, bindArgs (PySem.W.kla_fn "<lambda>" (X.env.qual ++ "<lambda>") params body ls clos pm (.ref c') ctv) ⟨[], []⟩ = pure [])
  (hE : Acc X E)
  (hb : ∀ (Y : Cx) (f : Addr) (cd : Value) (s : Shared) (H : Hp) (E' : XK), wG k (Y.A.deeper (uP X (X.env.qual ++ "<lambda>") ls f cd s)) -> PE (V3 X Y (X.env.qual ++ "<lambda>") ls f cd s H E') body (tb E')) :
  PE X (.Call (.Name "answered" p) [.Lambda params body ls lpos] [] pos) (qeB X.K l P tb) := by
 intro pins s σ H Q I ⟨hP, h⟩
 refine wpAny_Call_Name_kw (uj I hg hm ?_ (by decide))
 refine PySem.W.callWith_K (h₀ := X.base) I.ok.mod.kin hk ?_ rfl rfl
 refine Calls.spliced_cons (qbQ I BL hc hP L hdef fun s1 more f c' I1 la => Calls.spliced_nil ⟨I1.kIn, ?_⟩)
 have hr1 : wG (k + 1 + 1) X.A := hr
 -- the def's body
 have body_ok : codeAny (model X.prog X.w) X.A (.call (.ref f2) ⟨[.ref f], []⟩) (CR (CX1 X.prog X.w) X.stack X.prog X.w (upd H P (.tbl more)) s1 Q E) s1 := by
  refine qeL (N := ["work", "told"]) (vs := [.ref f]) lk hcd S rfl hr1 I1.qcT (hb2 s1 (.ref f)) (.cons rfl .nil) ?_
  generalize hY : xo (CX1 X.prog X.w) X.prog X.w X.K X.mg X.base ["work", "told"] "answered" sc2 f2 cdv X.A X.stack s1 (upd H P (.tbl more)) E = Y
  have hHs : Hs Y (h0 :: hs) l := by rw [<- hY]; exact hH s1 _
  have room : wG (k + 1) Y.A := by rw [<- hY]; exact hr1.deeper _
  refine ⟨_, Vq (qd6 (X := Y) (L := s1.heap.objs.size) (tb := fun D => Ur (fun σ' H' Q' => σ'[0]? = some (some (.ref f)) /\ tb (qer Y.K l D.rt) σ H' Q') (wz 1)) (by rw [<- hY]; rfl) (by rw [<- hY]; rfl) hHs fun D pins' => xZ (VC (i := 1) (X := (Y.qar pins').xV _) ?nd ?ni ?nl ?work ?sw ?fn)) (xZ (jE (qdq qdT (Zp (vH UH zp)) (Q9 (i := 1) ?vi ?vv)))), ?_⟩
  case nd => subst hY; exact S.nd
  case ni => subst hY; rfl
  case nl => subst hY; exact .inl ht
  case sw => subst hY; rfl
  case fn => subst hY; exact .inl rfl
  case vi => subst hY; rfl
  case vv => subst hY; exact .inl ht
  case work =>
   subst hY
   exact qcX (X := X) (k := k) I1 rfl rfl rfl rfl rfl rfl rfl hfn L la room yN (fun pm ctv => hbind c' _ pm ctv) (fun s' H' => hb _ f (.ref c') s' H' _ (room.deeper _)) rfl (.inl hw)
  ·subst hY
   exact ⟨rfl, h more f⟩
 refine wpAny_call (codeAny_mono body_ok fun r s' hq => ?_)
 cases r with
 | error e => exact xR hE pins σ _ s1 e s' I1 hq
 | ok fl =>
  cases fl with
  | ret u => exact I1.after hq
  | next => exact False.elim hq
  | brk => exact False.elim hq
  | cont => exact False.elim hq
end
end L2
namespace L2.Ir
open PySem
set_option genInjectivity true in
inductive D where
 | non | bl (b : Bool) | int (i : Int) | lst (xs : List D) | tup (xs : List D) | fn (x : Str) | obj (c : Str) (ns : List Str) (xs : List D)
noncomputable def D.sc : D -> Bool
 | .non => true
 | .bl _ => true
 | .int _ => true
 | _ => false
inductive Kd where
 | bo | sh | nw | fr
noncomputable def Kd.low : Kd -> Kd -> Kd
 | .bo, _ => .bo
 | _, .bo => .bo
 | .sh, _ => .sh
 | _, .sh => .sh
 | _, _ => .nw
set_option genInjectivity true in
inductive Rs (α : Type) where
 | ok (a : α) | er (c : Str) | no
noncomputable def Rs.bind {α β : Type} (x : Rs α) (f : α -> Rs β) : Rs β := match x with
 | .ok a => f a
 | .er c => .er c
 | .no => .no
@[simp] theorem Rs.ve {α β : Type} (a : α) (f : α -> Rs β) : (Rs.ok a).bind f = f a := rfl
inductive Sl where
 | un | val (d : D) (k : Bool) | own (ds : List D)
noncomputable abbrev Dl := List Sl
noncomputable abbrev DK := D × Kd
noncomputable abbrev RE := Dl -> Rs DK
noncomputable abbrev RA := Dl -> Rs (List DK)
noncomputable def qa (i : Nat) : RE := fun δ => match δ[i]? with
 | some (.val d k) => .ok (d, if k = true then .nw else .sh)
 | some (.own ds) => .ok (.lst ds, .bo)
 | _ => .no
noncomputable def rC (d : D) : RE := fun _ => .ok (d, .nw)
noncomputable def qd (f : DK -> DK -> Rs DK) (ra rb : RE) : RE := fun δ => (ra δ).bind fun x => (rb δ).bind fun y => f x y
noncomputable def rUn (f : DK -> Rs DK) (ra : RE) : RE := fun δ => (ra δ).bind f
noncomputable def kL (xs : List D) (k : Kd) : Kd := if xs.all D.sc = true then .fr else k
noncomputable abbrev LIM : Nat := 16777216
noncomputable def few (i : Int) : Prop := i.natAbs < 2 ^ 60000
noncomputable instance (i : Int) : Decidable (few i) := inferInstanceAs (Decidable (i.natAbs < 2 ^ 60000))
noncomputable def vx : DK -> DK -> Rs DK
 | (.int i, _), (.int j, _) => .ok (.int (i + j), .nw)
 | (.lst xs, k), (.lst ys, l) => if xs.length + ys.length <= LIM then .ok (.lst (xs ++ ys), kL (xs ++ ys) (k.low l)) else .no
 | _, _ => .no
noncomputable def wD : DK -> DK -> Rs DK
 | (.int i, _), (.int j, _) => .ok (.int (i - j), .nw)
 | _, _ => .no
open Classical in
noncomputable def Q8 : DK -> DK -> Rs DK
 | (.int i, _), (.int j, _) => if few i /\ few j then .ok (.int (i * j), .nw) else .no
 | (.lst xs, .fr), (.int j, _) => if (0 <= j /\ j < 1000000) /\ xs.length * j.toNat <= LIM then .ok (.lst (List.replicate j.toNat xs).flatten, kL (List.replicate j.toNat xs).flatten .nw) else .no
 | _, _ => .no
noncomputable def WE : DK -> DK -> Rs DK
 | (.int i, _), (.int j, _) => if 0 < j /\ j.natAbs.log2 < 9000 then .ok (.int (i / j), .nw) else .no
 | _, _ => .no
noncomputable def oMod : DK -> DK -> Rs DK
 | (.int i, _), (.int j, _) => if 0 < j then .ok (.int (i % j), .nw) else .no
 | _, _ => .no
open Classical in
noncomputable def w4 : DK -> DK -> Rs DK
 | (.int i, _), (.int j, _) => if 0 <= j /\ j <= 60000 /\ few i then .ok (.int (i * 2 ^ j.toNat), .nw) else .no
 | _, _ => .no
noncomputable def jF : DK -> DK -> Rs DK
 | (.int i, _), (.int j, _) => if 0 <= j then .ok (.int (i / 2 ^ j.toNat), .nw) else .no
 | _, _ => .no
noncomputable def jG (f : Int -> Int -> Int) : DK -> DK -> Rs DK
 | (.int i, _), (.int j, _) => .ok (.int (f i j), .nw)
 | _, _ => .no
noncomputable def yg (f : Int -> Int -> Bool) : DK -> DK -> Rs DK
 | (.int i, _), (.int j, _) => .ok (.bl (f i j), .nw)
 | _, _ => .no
noncomputable def intsOf : List D -> Option (List Int)
 | [] => some []
 | .int i :: r => (intsOf r).map (i :: ·)
 | _ => none
noncomputable def oEq (neg : Bool) : DK -> DK -> Rs DK
 | (.int i, _), (.int j, _) => .ok (.bl (if neg = true then !decide (i = j) else decide (i = j)), .nw)
 | (.bl i, _), (.bl j, _) => .ok (.bl (if neg = true then !decide (i = j) else decide (i = j)), .nw)
 | (.lst xs, _), (.lst ys, _) => match intsOf xs, intsOf ys with
  | some ns, some ms => .ok (.bl (if neg = true then !decide (ns = ms) else decide (ns = ms)), .nw)
  | _, _ => .no
 | _, _ => .no
noncomputable def Qo : DK -> Rs DK
 | (.int i, _) => .ok (.int (-i), .nw)
 | _ => .no
noncomputable def yh (n : Nat) (i : Int) : Option Nat := if 0 <= i then (if i < n then some i.toNat else none) else if -(n : Int) <= i then some (i + n).toNat else none
noncomputable def oIx : DK -> DK -> Rs DK
 | (.lst xs, k), (.int i, _) => match (yh xs.length i).bind fun j => xs[j]? with
  | some d => .ok (d, k.low .nw)
  | none => .no
 | (.tup xs, k), (.int i, _) => match (yh xs.length i).bind fun j => xs[j]? with
  | some d => .ok (d, k.low .nw)
  | none => .no
 | _, _ => .no
noncomputable def v8 (c f : Str) : DK -> Rs DK
 | (.obj c' ns ds, k) => if c' = c then (match (ns.zip ds).lookup f with
  | some d => .ok (d, k.low .nw)
  | none => .no) else .no
 | _ => .no
noncomputable def pick {α : Type} (xs : List α) (lo hi st : Option Int) : List α :=
 (sliceRange (sliceBounds lo hi st xs.length).1 (sliceBounds lo hi st xs.length).2.1 (sliceBounds lo hi st xs.length).2.2).filterMap (xs[·]?)
noncomputable abbrev RO := Dl -> Rs (Option Int)
noncomputable def qx : RO := fun _ => .ok none
noncomputable def v9 (r : RE) : RO := fun δ => (r δ).bind fun x => match x.1 with
 | .int i => .ok (some i)
 | _ => .no
noncomputable def vN (ra : RE) (rl rh rs : RO) : RE := fun δ => (ra δ).bind fun x => (rl δ).bind fun lo => (rh δ).bind fun hi => (rs δ).bind fun st => match x.1 with
 | .lst xs => if st = some 0 then .no else .ok (.lst (pick xs lo hi st), kL (pick xs lo hi st) (x.2.low .nw))
 | _ => .no
noncomputable def qi : RA := fun _ => .ok []
noncomputable def qc (ra : RE) (rr : RA) : RA := fun δ => (ra δ).bind fun x => (rr δ).bind fun xs => .ok (x :: xs)
noncomputable def qT : List DK -> Kd
 | [] => .nw
 | x :: r => if x.1.sc = true then qT r else x.2.low (qT r)
noncomputable def yU (r : RA) : RE := fun δ => (r δ).bind fun xs => if xs.length <= LIM then .ok (.lst (xs.map (·.1)), kL (xs.map (·.1)) (qT xs)) else .no
noncomputable abbrev Fn := List D -> Rs (D × Bool)
noncomputable def kB (b : Bool) : Kd := if b = true then .fr else .nw
noncomputable def qg (g : Fn) (r : RA) : RE := fun δ => (r δ).bind fun xs => (g (xs.map (·.1))).bind fun y => .ok (y.1, kB y.2)
noncomputable def vB (f : List DK -> Rs DK) (r : RA) : RE := fun δ => (r δ).bind f
noncomputable def wV : List DK -> Rs DK
 | [(.lst xs, _)] => .ok (.int xs.length, .nw)
 | [(.tup xs, _)] => .ok (.int xs.length, .nw)
 | _ => .no
noncomputable def qet : List DK -> Rs DK
 | [(.int i, _)] => .ok (.int (if i < 0 then -i else i), .nw)
 | _ => .no
noncomputable def XW : List DK -> Rs DK
 | [(.int i, _), (.int j, _)] => .ok (.int (if j > i then j else i), .nw)
 | _ => .no
noncomputable def qex : List DK -> Rs DK
 | [(.int i, _), (.int j, _)] => .ok (.int (if j < i then j else i), .nw)
 | _ => .no
noncomputable def Y7 : List DK -> Rs DK
 | [(.lst xs, k)] => .ok (.lst xs, kL xs (k.low .nw))
 | [(.tup xs, k)] => .ok (.lst xs, kL xs (k.low .nw))
 | _ => .no
noncomputable def y3 : List DK -> Rs DK
 | [(.int i, _)] => if -1000000 < i /\ i < 1000000 then .ok (.lst ((List.range i.toNat).map fun (k : Nat) => D.int k), .fr) else .no
 | _ => .no
noncomputable def oBits : DK -> Rs DK
 | (.int i, _) => .ok (.int (if i = 0 then 0 else i.natAbs.log2 + 1 : Nat), .nw)
 | _ => .no
noncomputable abbrev RT := Dl -> Rs Bool
noncomputable def tBl (r : RE) : RT := fun δ => (r δ).bind fun x => match x.1 with
 | .bl b => .ok b
 | _ => .no
noncomputable def Yy (a b : RT) : RT := fun δ => (a δ).bind fun x => if x = true then b δ else .ok false
noncomputable def Wv (a b : RT) : RT := fun δ => (a δ).bind fun x => if x = true then .ok true else b δ
noncomputable def Ym (a : RT) : RT := fun δ => (a δ).bind fun x => .ok (!x)
noncomputable def jW (t : RT) (a b : RE) : RE := fun δ => (t δ).bind fun x => if x = true then a δ else b δ
noncomputable abbrev RI := Dl -> Rs (Bool × List DK)
noncomputable def Kd.safe : Kd -> Bool
 | .bo => false
 | _ => true
noncomputable def iOf (r : RE) : RI := fun δ => (r δ).bind fun x => match x.1 with
 | .lst xs => .ok (x.2.safe, xs.map fun d => (d, x.2.low .nw))
 | _ => .no
noncomputable def vU (r : RE) : RI := fun δ => (r δ).bind fun x => match x.1 with
 | .int i => if -1000000 < i /\ i < 1000000 then .ok (true, (List.range i.toNat).map fun (k : Nat) => (D.int k, .nw)) else .no
 | _ => .no
noncomputable def wW (r q : RE) : RI := fun δ => (r δ).bind fun x => (q δ).bind fun y => match x.1, y.1 with
 | .int i, .int j => if (-1000000 < i /\ i < 1000000) /\ -1000000 < j /\ j < 1000000 then .ok (true, (List.range (j - i).toNat).map fun (k : Nat) => (D.int (i + k), .nw)) else .no
 | _, _ => .no
noncomputable def XR (r q : RE) : RI := fun δ => (r δ).bind fun x => (q δ).bind fun y => match x.1, y.1 with
 | .lst xs, .lst ys => .ok (x.2.safe && y.2.safe, (xs.zip ys).map fun p => (.tup [p.1, p.2], x.2.low y.2))
 | _, _ => .no
inductive Tg where
 | one (i : Nat) | two (i j : Nat)
noncomputable def y6 (x : DK) : Sl := .val x.1 (match x.2 with | .nw => true | .fr => true | _ => false)
noncomputable def put (i : Nat) (x : DK) (δ : Dl) : Option Dl := match x with
 | (d, .bo) => if d.sc = true then some (δ.set i (.val d true)) else none
 | (d, k) => some (δ.set i (y6 (d, if d.sc = true then .nw else k)))
noncomputable def Tg.put : Tg -> DK -> Dl -> Option Dl
 | .one i, x, δ => Ir.put i x δ
 | .two i j, (.tup [a, b], k), δ => (Ir.put i (a, k) δ).bind (Ir.put j (b, k))
 | _, _, _ => none
inductive Out where
 | nx (δ : Dl) | rt (d : D) (k : Bool) | bk (δ : Dl) | ct (δ : Dl) | er (c : Str) | no
noncomputable abbrev RS := Dl -> Out
noncomputable def zu : RS := fun δ => .nx δ
noncomputable def Out.andThen (o : Out) (f : RS) : Out := match o with
 | .nx δ => f δ
 | o => o
noncomputable def wx (a b : RS) : RS := fun δ => (a δ).andThen b
noncomputable def frz : Sl -> Sl
 | .own ds => .val (.lst ds) true
 | x => x
noncomputable def freeze (δ : Dl) : Dl := δ.map frz
noncomputable def we (i : Nat) (r : RE) : RS := fun δ => match r δ with
 | .ok (.lst ds, .fr) => .nx (δ.set i (.own ds))
 | .ok (d, .bo) => if d.sc = true then .nx (δ.set i (.val d true)) else .nx ((freeze δ).set i (.val d false))
 | .ok (d, k) => .nx (δ.set i (y6 (d, if d.sc = true then .nw else k)))
 | .er c => .er c
 | .no => .no
noncomputable def uv (r : RE) : RS := fun δ => match r δ with
 | .ok _ => .nx δ
 | .er c => .er c
 | .no => .no
noncomputable def sIf (t : RT) (a b : RS) : RS := fun δ => match t δ with
 | .ok x => if x = true then a δ else b δ
 | .er c => .er c
 | .no => .no
noncomputable def v7 (r : RE) : RS := fun δ => match r (freeze δ) with
 | .ok (.lst ds, .fr) => .rt (.lst ds) true
 | .ok (d, .nw) => .rt d false
 | .ok (d, _) => if d.sc = true then .rt d false else .no
 | .er c => .er c
 | .no => .no
noncomputable def Qh (i : Nat) : RS := fun δ => match δ[i]? with
 | some (.own ds) => .rt (.lst ds) true
 | some (.val d k) => if d.sc = true \/ k = true then .rt d false else .no
 | _ => .no
noncomputable def zR (c : Str) : RS := fun _ => .er c
noncomputable def turns (tg : Tg) (body : RS) : List DK -> RS
 | [], δ => .nx δ
 | x :: r, δ => match tg.put x δ with
  | none => .no
  | some δ1 => match body δ1 with
   | .nx δ2 => turns tg body r δ2
   | .ct δ2 => turns tg body r δ2
   | .bk δ2 => .nx δ2
   | o => o
noncomputable def Xj (tg : Tg) (src : RI) (body : RS) : RS := fun δ => match src δ with
 | .ok (true, xs) => turns tg body xs δ
 | .ok (false, _) => .no
 | .er c => .er c
 | .no => .no
noncomputable def Ww (tg : Tg) (i : Nat) (body : RS) : RS := fun δ => Xj tg (iOf (qa i)) body (match δ[i]? with
 | some (.own ds) => δ.set i (.val (.lst ds) true)
 | _ => δ)
noncomputable def items (tg : Tg) (t : RT) (r : RE) (δ : Dl) : List DK -> Rs (List DK)
 | [] => .ok []
 | x :: xs => match tg.put x δ with
  | none => .no
  | some δ1 => (t δ1).bind fun b => if b = true then (r δ1).bind fun y => (items tg t r δ xs).bind fun ys => .ok (y :: ys) else items tg t r δ xs
noncomputable def zZ : RT := fun _ => .ok true
noncomputable def clear (δ : Dl) : List Nat -> Dl
 | [] => δ
 | v :: vs => (clear δ vs).set v .un
noncomputable def zS (tg : Tg) (src : RI) (t : RT) (r : RE) (vs : List Nat) : RE := fun δ => (src δ).bind fun xs => if xs.2.length < LIM then (items tg t r (clear δ vs) xs.2).bind fun ys =>
 .ok (.lst (ys.map (·.1)), kL (ys.map (·.1)) (qT ys)) else .no
noncomputable def Tg.within : Tg -> List Nat -> Prop
 | .one i, vs => i ∈ vs
 | .two i j, vs => i ∈ vs /\ j ∈ vs
end L2.Ir
namespace L2.Ir
open PySem PySem.Spec PyProof.Rows
section
variable (mg : Str -> Option Value) (K : PySem.W.Frag)
mutual
/-- the value v stands for the datum d, all addresses within in G -/
inductive Rp (G : Addr -> Prop) (H : Hp) : V -> D -> Prop
 | non : Rp G H .non .non
 | bl (b : Bool) : Rp G H (.bl b) (.bl b)
 | int (i : Int) : Rp G H (.int i) (.int i)
 | fn {x : Str} {a : Addr} : mg x = some (.ref a) -> Rp G H (.ref a) (.fn x)
 | lst {a : Addr} {xs : List V} {ds : List D} : G a -> Rd H a (.lst xs) -> qt G H xs ds -> Rp G H (.ref a) (.lst ds)
 | lstK {a : Addr} {xs : List V} {ds : List D} : (∀ H', SqL K H' a xs) -> qt G H xs ds -> Rp G H (.ref a) (.lst ds)
 | tup {a : Addr} {xs : List V} {ds : List D} : G a -> Rd H a (.tup xs) -> qt G H xs ds -> Rp G H (.ref a) (.tup ds)
 | tupK {a : Addr} {xs : List V} {ds : List D} : (∀ H', SqT K H' a xs) -> qt G H xs ds -> Rp G H (.ref a) (.tup ds)
 | obj {a C dx : Addr} {c : Str} {ns : List Str} {xs : List V} {ds : List D} : G a -> mg c = some (.ref C) -> H a = some (.ins C dx (ns.zip xs)) -> ns.length = xs.length -> qt G H xs ds -> Rp G H (.ref a) (.obj c ns ds)
inductive qt (G : Addr -> Prop) (H : Hp) : List V -> List D -> Prop
 | nil : qt G H [] []
 | cons {v : V} {vs : List V} {d : D} {ds : List D} : Rp G H v d -> qt G H vs ds -> qt G H (v :: vs) (d :: ds)
end
end
section
variable {mg : Str -> Option Value} {K : PySem.W.Frag}
theorem qbd {H H' : Hp} {a : Addr} {u : HO} (h : Rd H a u) (k : ∀ o, H a = some o -> H' a = some o) : Rd H' a u := by
 rcases h with h | ⟨o, h⟩
 ·exact .inl (k _ h)
 ·exact .inr ⟨o, k _ h⟩
theorem Zj {H : Hp} {a : Addr} {u : HO} (h : Rd H a u) : H a ≠ none := by
 rcases h with h | ⟨o, h⟩ <;> (rw [h]; exact fun z => nomatch z)
theorem Rp.ofL {G : Addr -> Prop} {H : Hp} {a : Addr} {xs : List V} {ds : List D} (s : SqL K H a xs) (g : H a ≠ none -> G a) (r : qt mg K G H xs ds) : Rp mg K G H (.ref a) (.lst ds) := by
 rcases s with s | s
 ·exact .lst (g (Zj s)) s r
 ·exact .lstK (fun _ => .inr s) r
mutual
theorem Rp.mono {G G' : Addr -> Prop} {H H' : Hp} (k : ∀ a, G a -> G' a /\ ∀ o, H a = some o -> H' a = some o) : ∀ (d : D) (v : V), Rp mg K G H v d -> Rp mg K G' H' v d
 | .non, _, h => by cases h; exact .non
 | .bl b, _, h => by cases h; exact .bl b
 | .int i, _, h => by cases h; exact .int i
 | .fn x, _, h => by cases h with | fn e => exact .fn e
 | .lst ds, _, h => by
  cases h with
  | lst g s r => exact .lst (k _ g).1 (qbd s (k _ g).2) (qt.mono k ds _ r)
  | lstK s r => exact .lstK s (qt.mono k ds _ r)
 | .tup ds, _, h => by
  cases h with
  | tup g s r => exact .tup (k _ g).1 (qbd s (k _ g).2) (qt.mono k ds _ r)
  | tupK s r => exact .tupK s (qt.mono k ds _ r)
 | .obj c ns ds, _, h => by
  cases h with
  | obj g m s l r => exact .obj (k _ g).1 m ((k _ g).2 _ s) l (qt.mono k ds _ r)
theorem qt.mono {G G' : Addr -> Prop} {H H' : Hp} (k : ∀ a, G a -> G' a /\ ∀ o, H a = some o -> H' a = some o) : ∀ (ds : List D) (vs : List V), qt mg K G H vs ds -> qt mg K G' H' vs ds
 | [], _, h => by cases h; exact .nil
 | d :: ds, _, h => by cases h with | cons a b => exact .cons (Rp.mono k d _ a) (qt.mono k ds _ b)
end
mutual
/-- tracked addresses are there -/
theorem Rp.there {G : Addr -> Prop} {H : Hp} : ∀ (d : D) (v : V), Rp mg K G H v d -> Rp mg K (fun a => G a /\ H a ≠ none) H v d
 | .non, _, h => by cases h; exact .non
 | .bl b, _, h => by cases h; exact .bl b
 | .int i, _, h => by cases h; exact .int i
 | .fn x, _, h => by cases h with | fn e => exact .fn e
 | .lst ds, _, h => by
  cases h with
  | lst g s r => exact .lst ⟨g, Zj s⟩ s (qt.there ds _ r)
  | lstK s r => exact .lstK s (qt.there ds _ r)
 | .tup ds, _, h => by
  cases h with
  | tup g s r => exact .tup ⟨g, Zj s⟩ s (qt.there ds _ r)
  | tupK s r => exact .tupK s (qt.there ds _ r)
 | .obj c ns ds, _, h => by
  cases h with
  | obj g m s l r => exact .obj ⟨g, by rw [s]; exact fun z => nomatch z⟩ m s l (qt.there ds _ r)
theorem qt.there {G : Addr -> Prop} {H : Hp} : ∀ (ds : List D) (vs : List V), qt mg K G H vs ds -> qt mg K (fun a => G a /\ H a ≠ none) H vs ds
 | [], _, h => by cases h; exact .nil
 | d :: ds, _, h => by cases h with | cons a b => exact .cons (Rp.there d _ a) (qt.there ds _ b)
end
theorem Rp.weak {G G' : Addr -> Prop} {H : Hp} {v : V} {d : D} (h : Rp mg K G H v d) (k : ∀ a, G a -> G' a) : Rp mg K G' H v d := h.mono (fun a g => ⟨k a g, fun _ e => e⟩)
theorem Rp.same {G : Addr -> Prop} {H H' : Hp} {v : V} {d : D} (h : Rp mg K G H v d) (s : qw H H') : Rp mg K G H' v d := h.mono (fun a g => ⟨g, fun o e => s a o e⟩)
theorem qt.weak {G G' : Addr -> Prop} {H : Hp} {v : List V} {d : List D} (h : qt mg K G H v d) (k : ∀ a, G a -> G' a) : qt mg K G' H v d := h.mono (fun a g => ⟨k a g, fun _ e => e⟩)
theorem qt.same {G : Addr -> Prop} {H H' : Hp} {v : List V} {d : List D} (h : qt mg K G H v d) (s : qw H H') : qt mg K G H' v d := h.mono (fun a g => ⟨g, fun o e => s a o e⟩)
noncomputable def toV : D -> V
 | .non => .non
 | .bl b => .bl b
 | .int i => .int i
 | _ => .non
theorem Rp.wL {G : Addr -> Prop} {H : Hp} : ∀ {d : D}, d.sc = true -> Rp mg K G H (toV d) d
 | .non, _ => .non
 | .bl b, _ => .bl b
 | .int i, _ => .int i
 | .lst _, h => nomatch h
 | .tup _, h => nomatch h
 | .fn _, h => nomatch h
 | .obj _ _ _, h => nomatch h
theorem Rp.sc {G : Addr -> Prop} {H : Hp} {v : V} {d : D} (h : Rp mg K G H v d) (s : d.sc = true) : v = toV d := by
 cases h <;> first | rfl | cases s
theorem qt.wL {G : Addr -> Prop} {H : Hp} : ∀ {ds : List D}, ds.all D.sc = true -> qt mg K G H (ds.map toV) ds
 | [], _ => .nil
 | d :: ds, h => by
  rw [List.all_cons, Bool.and_eq_true] at h
  exact .cons (.wL h.1) (qt.wL h.2)
theorem qt.sc {G : Addr -> Prop} {H : Hp} : ∀ {vs : List V} {ds : List D}, qt mg K G H vs ds -> ds.all D.sc = true -> vs = ds.map toV
 | _, [], .nil, _ => rfl
 | _, d :: ds, .cons a b, h => by
  rw [List.all_cons, Bool.and_eq_true] at h
  rw [a.sc h.1, qt.sc b h.2]
  rfl
theorem qt.len {G : Addr -> Prop} {H : Hp} : ∀ {vs : List V} {ds : List D}, qt mg K G H vs ds -> vs.length = ds.length
 | _, _, .nil => rfl
 | _, _, .cons _ b => by rw [List.length_cons, List.length_cons, qt.len b]
theorem qt.get {G : Addr -> Prop} {H : Hp} : ∀ {vs : List V} {ds : List D} {i : Nat} {v : V}, qt mg K G H vs ds -> vs[i]? = some v -> ∃ d, ds[i]? = some d /\ Rp mg K G H v d
 | _, _, i, _, .nil, e => by simp at e
 | _, _, 0, _, .cons a _, e => by simp at e; subst e; exact ⟨_, rfl, a⟩
 | _, _, i + 1, v, .cons _ b, e => by
  obtain ⟨d, h1, h2⟩ := qt.get (i := i) (v := v) b (by simpa using e)
  exact ⟨d, by simpa using h1, h2⟩
theorem qt.getD {G : Addr -> Prop} {H : Hp} : ∀ {vs : List V} {ds : List D} {i : Nat} {d : D}, qt mg K G H vs ds -> ds[i]? = some d -> ∃ v, vs[i]? = some v /\ Rp mg K G H v d
 | _, _, i, _, .nil, e => by simp at e
 | _, _, 0, _, .cons a _, e => by simp at e; subst e; exact ⟨_, rfl, a⟩
 | _, _, i + 1, d, .cons _ b, e => by
  obtain ⟨v, h1, h2⟩ := qt.getD (i := i) (d := d) b (by simpa using e)
  exact ⟨v, by simpa using h1, h2⟩
theorem qt.append {G : Addr -> Prop} {H : Hp} : ∀ {vs us : List V} {ds es : List D}, qt mg K G H vs ds -> qt mg K G H us es -> qt mg K G H (vs ++ us) (ds ++ es)
 | _, _, _, _, .nil, h => h
 | _, _, _, _, .cons a b, h => .cons a (qt.append b h)
theorem qt.rep {G : Addr -> Prop} {H : Hp} {vs : List V} {ds : List D} (h : qt mg K G H vs ds) : ∀ n : Nat, qt mg K G H (List.replicate n vs).flatten (List.replicate n ds).flatten
 | 0 => .nil
 | n + 1 => by
  rw [List.replicate_succ, List.replicate_succ, List.flatten_cons, List.flatten_cons]
  exact h.append (qt.rep h n)
end
structure Bs where
 H0 : Hp
 P : Addr -> Prop
noncomputable def vn (B : Bs) (σ : St) (δ : Dl) (p : Addr) : Prop := B.P p \/ ∃ (i : Nat) (ds : List D), δ[i]? = some (.own ds) /\ σ[i]? = some (some (.ref p))
structure Rl (mg : Str -> Option Value) (K : PySem.W.Frag) (B : Bs) (H : Hp) (σ : St) (δ : Dl) : Prop where
 same : qw B.H0 H
 pd : ∀ p, B.P p -> H p ≠ none
 len : σ.length = δ.length
 val : ∀ (i : Nat) (d : D) (k : Bool), δ[i]? = some (.val d k) -> ∃ v, σ[i]? = some (some v) /\ Rp mg K (fun a => ¬ vn B σ δ a /\ (k = true -> B.H0 a = none)) H v d
 own : ∀ (i : Nat) (ds : List D), δ[i]? = some (.own ds) -> ds.all D.sc = true /\ ∃ p, σ[i]? = some (some (.ref p)) /\ B.H0 p = none /\ ¬ B.P p /\ H p = some (.lst (ds.map toV))
 apart : ∀ (i j : Nat) (p : Addr) (ds es : List D), δ[i]? = some (.own ds) -> δ[j]? = some (.own es) -> σ[i]? = some (some (.ref p)) -> σ[j]? = some (some (.ref p)) -> i = j
noncomputable def VR (mg : Str -> Option Value) (K : PySem.W.Frag) (B : Bs) (H H' : Hp) (σ : St) (δ : Dl) : Kd -> V -> D -> Prop
 | .bo, v, d => Rp mg K (fun a => ¬ B.P a) H' v d
 | .sh, v, d => Rp mg K (fun a => ¬ vn B σ δ a) H' v d
 | .nw, v, d => Rp mg K (fun a => ¬ vn B σ δ a /\ B.H0 a = none) H' v d
 | .fr, v, d => ∃ p ds, v = .ref p /\ d = .lst ds /\ ds.all D.sc = true /\ H p = none /\ H' p = some (.lst (ds.map toV))
section
variable {mg : Str -> Option Value} {K : PySem.W.Frag} {B : Bs} {H H1 H' H'' : Hp} {σ : St} {δ : Dl} {k l : Kd} {v : V} {d : D}
theorem qw.refl {H : Hp} : qw H H := fun _ _ e => e
theorem Rl.more (R : Rl mg K B H σ δ) (s : qw H H') : Rl mg K B H' σ δ :=
 ⟨R.same.trans s, fun p h => fun z => R.pd p h (s.free z), R.len, fun i d k e => let ⟨v, a, b⟩ := R.val i d k e; ⟨v, a, b.same s⟩, fun i ds e => let ⟨a, p, b, c, n, x⟩ := R.own i ds e; ⟨a, p, b, c, n, s _ _ x⟩, R.apart⟩
theorem Rl.owned (R : Rl mg K B H σ δ) {p : Addr} (h : vn B σ δ p) : H p ≠ none := by
 rcases h with h | ⟨i, ds, e, e2⟩
 ·exact R.pd p h
 ·obtain ⟨_, q, e3, _, _, e4⟩ := R.own i ds e
  rw [e2] at e3
  cases e3
  rw [e4]
  exact fun z => nomatch z
theorem Rl.fresh (R : Rl mg K B H σ δ) {p : Addr} (h : H p = none) : ¬ vn B σ δ p := fun o => R.owned o h
theorem VR.later (h : VR mg K B H H' σ δ k v d) (s : qw H' H'') : VR mg K B H H'' σ δ k v d := by
 cases k with
 | bo => exact Rp.same h s
 | sh => exact Rp.same h s
 | nw => exact Rp.same h s
 | fr => obtain ⟨p, ds, a, b, c, e, f⟩ := h; exact ⟨p, ds, a, b, c, e, s _ _ f⟩
theorem VR.Vf (h : VR mg K B H1 H' σ δ k v d) (s : qw H H1) : VR mg K B H H' σ δ k v d := by
 cases k with
 | bo => exact h
 | sh => exact h
 | nw => exact h
 | fr => obtain ⟨p, ds, a, b, c, e, f⟩ := h; exact ⟨p, ds, a, b, c, s.free e, f⟩
theorem VR.zJ (R : Rl mg K B H σ δ) (h : VR mg K B H H' σ δ .fr v d) : VR mg K B H H' σ δ .nw v d := by
 obtain ⟨p, ds, rfl, rfl, c, e, f⟩ := h
 exact .lst ⟨R.fresh e, R.same.free e⟩ (.of f) (.wL c)
theorem VR.yH (h : VR mg K B H H' σ δ .nw v d) : VR mg K B H H' σ δ .sh v d := Rp.weak h fun _ g => g.1
theorem VR.VN (h : VR mg K B H H' σ δ .sh v d) : VR mg K B H H' σ δ .bo v d := Rp.weak h fun _ g z => g (.inl z)
theorem VR.bo' (R : Rl mg K B H σ δ) (h : VR mg K B H H' σ δ k v d) : VR mg K B H H' σ δ .bo v d := by
 cases k with
 | bo => exact h
 | sh => exact VR.VN h
 | nw => exact VR.VN (VR.yH h)
 | fr => exact VR.VN (VR.yH (VR.zJ R h))
theorem VR.rp (R : Rl mg K B H σ δ) (h : VR mg K B H H' σ δ k v d) : Rp mg K (fun _ => True) H' v d := by
 exact Rp.weak (VR.bo' R h) fun _ _ => trivial
theorem VR.low (R : Rl mg K B H σ δ) (l : Kd) (h : VR mg K B H H' σ δ k v d) : VR mg K B H H' σ δ (k.low l) v d := by
 cases k <;> cases l <;> first | exact h | exact VR.bo' R h | exact VR.zJ R h | exact VR.yH h | exact VR.yH (VR.zJ R h)
theorem VR.qft (R : Rl mg K B H σ δ) (l : Kd) (h : VR mg K B H H' σ δ k v d) : VR mg K B H H' σ δ (l.low k) v d := by
 cases k <;> cases l <;> first | exact h | exact VR.bo' R h | exact VR.zJ R h | exact VR.yH h | exact VR.yH (VR.zJ R h)
theorem VR.wL (k : Kd) (hk : k ≠ .fr) (s : d.sc = true) : VR mg K B H H' σ δ k (toV d) d := by
 cases k <;> first | exact Rp.wL s | exact absurd rfl hk
theorem VR.int (i : Int) : VR mg K B H H' σ δ .nw (.int i) (.int i) := Rp.int i
theorem VR.bl (b : Bool) : VR mg K B H H' σ δ .nw (.bl b) (.bl b) := Rp.bl b
noncomputable def Gk (B : Bs) (σ : St) (δ : Dl) : Kd -> Addr -> Prop
 | .bo, a => ¬ B.P a
 | .sh, a => ¬ vn B σ δ a
 | _, a => ¬ vn B σ δ a /\ B.H0 a = none
theorem VR.gk (hk : k ≠ .fr) : VR mg K B H H' σ δ k v d = Rp mg K (Gk B σ δ k) H' v d := by
 cases k <;> first | rfl | exact absurd rfl hk
theorem low_ne (k l : Kd) : k.low l ≠ .fr := by cases k <;> cases l <;> intro z <;> cases z
theorem VR.items {ds : List D} (R : Rl mg K B H σ δ) (h : VR mg K B H H' σ δ k v (.lst ds)) : ∃ a xs, v = .ref a /\ SqL K H' a xs /\ qt mg K (Gk B σ δ (k.low .nw)) H' xs ds := by
 have h2 := VR.low R .nw h
 rw [VR.gk (low_ne _ _)] at h2
 cases h2 with
 | lst g s r => exact ⟨_, _, rfl, .inl s, r⟩
 | lstK s r => exact ⟨_, _, rfl, s _, r⟩
theorem VR.XB {ds : List D} (R : Rl mg K B H σ δ) (h : VR mg K B H H' σ δ k v (.tup ds)) : ∃ a xs, v = .ref a /\ SqT K H' a xs /\ qt mg K (Gk B σ δ (k.low .nw)) H' xs ds := by
 have h2 := VR.low R .nw h
 rw [VR.gk (low_ne _ _)] at h2
 cases h2 with
 | tup g s r => exact ⟨_, _, rfl, .inl s, r⟩
 | tupK s r => exact ⟨_, _, rfl, s _, r⟩
theorem VR.laid {p : Addr} {xs : List V} {ds : List D} (R : Rl mg K B H σ δ) (s : qw H H') (hp : H' p = none) (hk : k ≠ .fr) (h : qt mg K (Gk B σ δ k) H' xs ds) : VR mg K B H (upd H' p (.lst xs)) σ δ (kL ds k) (.ref p) (.lst ds) := by
 unfold kL
 split
 ·rename_i c
  refine ⟨p, ds, rfl, rfl, c, s.free hp, ?_⟩
  rw [qJ, qt.sc h c]
 ·rw [VR.gk hk]
  have sm : qw H' (upd H' p (.lst xs)) := fun b o e => by rw [qy (vf e hp)]; exact e
  refine .lst ?_ (.of qJ) (h.same sm)
  cases k with
  | bo => exact fun z => R.pd p z (s.free hp)
  | sh => exact R.fresh (s.free hp)
  | nw => exact ⟨R.fresh (s.free hp), R.same.free (s.free hp)⟩
  | fr => exact absurd rfl hk
theorem vt {p : Addr} {o : HO} (hp : H p = none) : qw H (upd H p o) := fun b q e => by rw [qy (vf e hp)]; exact e
end
noncomputable def qk {α : Type} (mg : Str -> Option Value) (E : XK) (H : Hp) (o : Rs α) (k : α -> Prop) : Prop := match o with
 | .ok a => k a
 | .er c => ∀ C H', mg c = some (.ref C) -> qw H H' -> E (.ref C) none H'
 | .no => False
noncomputable def Fin (mg : Str -> Option Value) (K : PySem.W.Frag) (E : XK) (B : Bs) (H : Hp) (σ : St) (δ : Dl) (o : Rs DK) (Q : VK) : Prop :=
 qk mg E H o fun x => ∀ v H', qw H H' -> VR mg K B H H' σ δ x.2 v x.1 -> Q v H'
noncomputable def tE (mg : Str -> Option Value) (K : PySem.W.Frag) (E : XK) (r : RE) : TE := fun σ H Q => ∃ B δ, Rl mg K B H σ δ /\ Fin mg K E B H σ δ (r δ) Q
noncomputable def Xm (mg : Str -> Option Value) (E : XK) (H : Hp) (o : Rs Bool) (Q : Bool -> Hp -> Prop) : Prop := qk mg E H o fun b => ∀ H', qw H H' -> Q b H'
noncomputable def tT (mg : Str -> Option Value) (K : PySem.W.Frag) (E : XK) (r : RT) : TT := fun σ H Q => ∃ B δ, Rl mg K B H σ δ /\ Xm mg E H (r δ) Q
inductive VRs (mg : Str -> Option Value) (K : PySem.W.Frag) (B : Bs) (H H' : Hp) (σ : St) (δ : Dl) : List V -> List DK -> Prop
 | nil : VRs mg K B H H' σ δ [] []
 | cons {v : V} {vs : List V} {x : DK} {xs : List DK} : VR mg K B H H' σ δ x.2 v x.1 -> VRs mg K B H H' σ δ vs xs -> VRs mg K B H H' σ δ (v :: vs) (x :: xs)
noncomputable def FinA (mg : Str -> Option Value) (K : PySem.W.Frag) (E : XK) (B : Bs) (H : Hp) (σ : St) (δ : Dl) (o : Rs (List DK)) (Q : List V -> Hp -> Prop) : Prop :=
 qk mg E H o fun xs => ∀ vs H', qw H H' -> VRs mg K B H H' σ δ vs xs -> Q vs H'
noncomputable def tA (mg : Str -> Option Value) (K : PySem.W.Frag) (E : XK) (r : RA) : TA := fun σ H Q => ∃ B δ, Rl mg K B H σ δ /\ FinA mg K E B H σ δ (r δ) Q
section
variable {mg : Str -> Option Value} {K : PySem.W.Frag} {E : XK} {B : Bs} {H H1 H' H'' : Hp} {σ : St} {δ : Dl} {k l : Kd} {v : V} {d : D} {Q : VK}
theorem qk.bind {α β : Type} {x : Rs α} {f : α -> Rs β} {k : β -> Prop} (h : qk mg E H (x.bind f) k) : qk mg E H x fun a => qk mg E H (f a) k := by
 cases x with
 | ok a => exact h
 | er c => exact h
 | no => exact h
theorem qk.imp {α : Type} {x : Rs α} {k k' : α -> Prop} (h : qk mg E H x k) (i : ∀ a, k a -> k' a) : qk mg E H x k' := by
 cases x with
 | ok a => exact i a h
 | er c => exact h
 | no => exact h
theorem qk.more {α : Type} {x : Rs α} {k : α -> Prop} (h : qk mg E H x k) (s : qw H H') : qk mg E H' x k := by
 cases x with
 | ok a => exact h
 | er c => exact fun C H2 e s2 => h C H2 e (s.trans s2)
 | no => exact h
theorem Fin.more {o : Rs DK} (h : Fin mg K E B H σ δ o Q) (s : qw H H') : Fin mg K E B H' σ δ o Q :=
 qk.more (qk.imp h fun x q v H2 s2 r => q v H2 (s.trans s2) (r.Vf s)) s
theorem Xm.more {o : Rs Bool} {Q : Bool -> Hp -> Prop} (h : Xm mg E H o Q) (s : qw H H') : Xm mg E H' o Q := qk.more (qk.imp h fun x q H2 s2 => q H2 (s.trans s2)) s
theorem VRs.Vf {vs : List V} {xs : List DK} (h : VRs mg K B H1 H' σ δ vs xs) (s : qw H H1) : VRs mg K B H H' σ δ vs xs := by
 induction h with
 | nil => exact .nil
 | cons a _ ih => exact .cons (a.Vf s) ih
theorem VRs.rp (R : Rl mg K B H σ δ) {vs : List V} {xs : List DK} (h : VRs mg K B H H' σ δ vs xs) : qt mg K (fun _ => True) H' vs (xs.map (·.1)) := by
 induction h with
 | nil => exact .nil
 | cons a _ ih => exact .cons (a.rp R) ih
theorem VR.Jz (R : Rl mg K B H σ δ) {x : DK} (h : VR mg K B H H' σ δ x.2 v x.1) (l : Kd) (s : x.1.sc = false -> ∃ m, l = x.2.low m \/ l = Kd.low m x.2) (hl : l ≠ .fr) : Rp mg K (Gk B σ δ l) H' v x.1 := by
 rw [<- VR.gk (H := H) hl]
 cases c : x.1.sc with
 | true =>
  have e := (h.rp R).sc c
  rw [e]
  exact VR.wL l hl c
 | false =>
  obtain ⟨m, e | e⟩ := s c
  ·rw [e]; exact VR.low R m h
  ·rw [e]; exact VR.qft R m h
theorem xY (a b c : Kd) : (a.low b).low c = a.low (b.low c) := by cases a <;> cases b <;> cases c <;> rfl
theorem Q2 (a b : Kd) : a.low b = b.low a := by cases a <;> cases b <;> rfl
theorem z6 : ∀ xs : List DK, qT xs ≠ .fr
 | [] => fun z => nomatch z
 | x :: r => by
  unfold qT
  split
  ·exact z6 r
  ·exact low_ne _ _
theorem VRs.kinds (R : Rl mg K B H σ δ) : ∀ {vs : List V} {xs : List DK}, VRs mg K B H H' σ δ vs xs -> ∀ m : Kd, m ≠ .fr -> qt mg K (Gk B σ δ (m.low (qT xs))) H' vs (xs.map (·.1))
 | _, _, .nil, _, _ => .nil
 | _, _, @VRs.cons _ _ _ _ _ _ _ v vs x xs a b, m, hm => by
  refine .cons ?_ ?_
  ·refine VR.Jz R a _ (fun s => ?_) (low_ne _ _)
   unfold qT
   rw [if_neg (by rw [s]; decide), <- xY, Q2 m, xY]
   exact ⟨_, .inl rfl⟩
  ·unfold qT
   split
   ·exact VRs.kinds R b m hm
   ·rw [<- xY]
    exact VRs.kinds R b _ (low_ne _ _)
theorem VRs.qd4 (R : Rl mg K B H σ δ) {vs : List V} {xs : List DK} (h : VRs mg K B H H' σ δ vs xs) : qt mg K (Gk B σ δ (qT xs)) H' vs (xs.map (·.1)) := by
 have q := VRs.kinds R h .nw (fun z => nomatch z)
 have e : Kd.low .nw (qT xs) = qT xs := by
  have := z6 xs
  cases h : qT xs <;> first | rfl | exact absurd h this
 rw [e] at q
 exact q
end
section
variable {X : Cx} {E : XK} {a b : Expr} {ra rb : RE} {pos : Pos}
theorem qZ {e : Expr} {t t' : TE} (h : PE X e t) (i : ∀ σ H Q, t' σ H Q -> t σ H Q) : PE X e t' := fun pins s σ H Q I hw => h pins s σ H Q I (i σ H Q hw)
theorem ZO {e : Expr} {t t' : TT} (h : PT X e t) (i : ∀ σ H Q, t' σ H Q -> t σ H Q) : PT X e t' := fun pins s σ H Q I hw => h pins s σ H Q I (i σ H Q hw)
theorem vK {e : Stmt} {t t' : TS} (h : PS X e t) (i : ∀ D σ H, t' D σ H -> t D σ H) : PS X e t' := fun pins s σ H D I hw => h pins s σ H D I (i D σ H hw)
noncomputable abbrev TEx (X : Cx) (E : XK) (r : RE) : TE := tE X.mg X.K E r
noncomputable abbrev TTx (X : Cx) (E : XK) (r : RT) : TT := tT X.mg X.K E r
noncomputable abbrev TAx (X : Cx) (E : XK) (r : RA) : TA := tA X.mg X.K E r
theorem qdZ {i : Nat} {x : Str} (hN : X.N[i]? = some x) (hv : Vis X.env.scope x) (hd : autoParam ((x == ("__debug__" : Str)) = false) qV._auto_1) (hcd : autoParam ((x == ("__classdict__" : Str)) = false) qV._auto_1) : PE X (.Name x pos) (TEx X E (qa i)) := by
 refine qZ (Q9 hN hv hd hcd) fun σ H Q ⟨B, δ, R, h⟩ => ?_
 unfold qa Fin at h
 cases hδ : δ[i]? with
 | none => rw [hδ] at h; exact h.elim
 | some s =>
  rw [hδ] at h
  cases s with
  | un => exact h.elim
  | val d k =>
   obtain ⟨v, e, q⟩ := R.val i d k hδ
   refine ⟨v, e, h v H qw.refl ?_⟩
   cases k with
   | true => exact Rp.weak q fun a g => ⟨g.1, g.2 rfl⟩
   | false => exact Rp.weak q fun a g => g.1
  | own ds =>
   obtain ⟨c, p, e, _, np, q⟩ := R.own i ds hδ
   exact ⟨.ref p, e, h (.ref p) H qw.refl (Rp.lst np (.of q) (.wL c))⟩
theorem qH {i : Int} {j : Nat} : PE X (.Constant (.int i) j pos) (TEx X E (rC (.int i))) := qZ UH fun σ H Q ⟨B, δ, R, h⟩ => h (.int i) H qw.refl (VR.int i)
theorem wa {x : Str} {i : Int} (hg : Gl X x) (hm : ∃ t, X.mg x = some (.int i t)) (hd : autoParam ((x == ("__debug__" : Str)) = false) qV._auto_1) : PE X (.Name x pos) (TEx X E (rC (.int i))) := by
 obtain ⟨t, hm⟩ := hm
 exact qZ (qcL (v := .int i) hg hm ⟨t, rfl⟩ hd) fun σ H Q ⟨B, δ, R, h⟩ => h (.int i) H qw.refl (VR.int i)
noncomputable def zz (X : Cx) (f : DK -> DK -> Rs DK) (rr : R2) : Prop := ∀ (B : Bs) (H H' : Hp) (σ : St) (δ : Dl) (x y : V) (dx dy : DK) (Q : VK) (E : XK), Rl X.mg X.K B H σ δ -> qw H H' -> VR X.mg X.K B H H' σ δ dx.2 x dx.1 -> VR X.mg X.K B H H' σ δ dy.2 y dy.1 ->
 Fin X.mg X.K E B H' σ δ (f dx dy) Q -> rr x y H' Q
theorem two {f : DK -> DK -> Rs DK} {rr : R2} (F : zz X f rr) {σ : St} {H : Hp} {Q : VK} (h : TEx X E (qd f ra rb) σ H Q) : tOp rr (TEx X E ra) (TEx X E rb) σ H Q := by
 obtain ⟨B, δ, R, h⟩ := h
 refine ⟨B, δ, R, qk.imp (qk.bind h) fun dx h1 v H1 s1 r1 => ?_⟩
 refine ⟨B, δ, R.more s1, ?_⟩
 refine qk.imp (qk.more (qk.bind h1) s1) fun dy h2 w H2 s2 r2 => ?_
 exact F B H H2 σ δ v w dx dy Q E R (s1.trans s2) (r1.later s2) (r2.Vf s1) (Fin.more h2 (s1.trans s2))
theorem qv {op : Operator} {f : DK -> DK -> Rs DK} {rr : R2} (ho : OpR X (binaryOp op) rr) (F : zz X f rr) (ha : PE X a (TEx X E ra)) (hb : PE X b (TEx X E rb)) : PE X (.BinOp a op b pos) (TEx X E (qd f ra rb)) :=
 qZ (qdq ho ha hb) fun _ _ _ h => two F h
theorem qbg {op : CmpOp} {f : DK -> DK -> Rs DK} {rr : R2} (ho : OpR X (compareOp op) rr) (F : zz X f rr) (hm : behindInMarks op b = false) (ha : PE X a (TEx X E ra)) (hb : PE X b (TEx X E rb)) : PE X (.Compare a [op] [b] pos) (TEx X E (qd f ra rb)) :=
 qZ (qde ho ha hb hm) fun _ _ _ h => two F h
theorem UU {r : RE} {σ : St} {H : Hp} {Q : Bool -> Hp -> Prop} (h : TTx X E (tBl r) σ H Q) : TEx X E r σ H fun x H' => ∃ k, x = .bl k /\ Q k H' := by
 obtain ⟨B, δ, R, h⟩ := h
 refine ⟨B, δ, R, ?_⟩
 unfold tBl Xm at h
 refine qk.imp (qk.bind h) fun x h1 v H1 s1 r1 => ?_
 obtain ⟨d, k⟩ := x
 cases d with
 | bl b =>
  have e : v = toV (.bl b) := (r1.rp R).sc rfl
  exact ⟨b, e, h1 H1 s1⟩
 | non => exact h1.elim
 | int i => exact h1.elim
 | lst l => exact h1.elim
 | tup l => exact h1.elim
 | fn x => exact h1.elim
 | obj c ns l => exact h1.elim
theorem wJ {op : CmpOp} {f : DK -> DK -> Rs DK} {rr : R2} (ho : OpR X (compareOp op) rr) (F : zz X f rr) (hm : behindInMarks op b = false) (ha : PE X a (TEx X E ra)) (hb : PE X b (TEx X E rb)) : PT X (.Compare a [op] [b] pos) (TTx X E (tBl (qd f ra rb))) :=
 ZO (qb8 ho ha hb hm) fun _ _ _ h => two F (UU h)
theorem XH {r : RE} (ha : PE X a (TEx X E r)) (he : autoParam (∀ whole, isTrue a X.env whole = (do let v <- whole; standAt a.pos; holding [v] (truthy v))) yB._auto_1) : PT X a (TTx X E (tBl r)) :=
 ZO (qd3 ha he) fun _ _ _ h => UU h
theorem qec {r : RT} (ha : PT X a (TTx X E r)) : PT X (.UnaryOp .Not a pos) (TTx X E (Ym r)) := by
 refine ZO (qdW ha) fun σ H Q ⟨B, δ, R, h⟩ => ⟨B, δ, R, ?_⟩
 exact qk.imp (qk.bind h) fun x h1 H1 s1 => h1 H1 s1
theorem UK {e : Expr} {t t' : TT} (h : PW X e t) (i : ∀ σ H Q, t' σ H Q -> t σ H Q) : PW X e t' := fun wh pins s σ H Q I hw => h wh pins s σ H Q I (i σ H Q hw)
theorem qdg {r : RT} (ha : PT X a (TTx X E r)) : PW X (.BoolOp .And [a] pos) (TTx X E r) := qc6 ha
theorem qbT {r : RT} (ha : PT X a (TTx X E r)) : PW X (.BoolOp .Or [a] pos) (TTx X E r) := qdM ha
theorem qey {rest : List Expr} {r q : RT} (ha : PT X a (TTx X E r)) (hb : PW X (.BoolOp .And (b :: rest) pos) (TTx X E q)) : PW X (.BoolOp .And (a :: b :: rest) pos) (TTx X E (Yy r q)) := by
 refine UK (qeM ha hb) fun σ H Q ⟨B, δ, R, h⟩ => ⟨B, δ, R, ?_⟩
 refine qk.imp (qk.bind h) fun x h1 H1 s1 => ?_
 cases x with
 | true => exact ⟨B, δ, R.more s1, Xm.more h1 s1⟩
 | false => exact h1 H1 s1
theorem qdt {rest : List Expr} {r q : RT} (ha : PT X a (TTx X E r)) (hb : PW X (.BoolOp .Or (b :: rest) pos) (TTx X E q)) : PW X (.BoolOp .Or (a :: b :: rest) pos) (TTx X E (Wv r q)) := by
 refine UK (qfw ha hb) fun σ H Q ⟨B, δ, R, h⟩ => ⟨B, δ, R, ?_⟩
 refine qk.imp (qk.bind h) fun x h1 H1 s1 => ?_
 cases x with
 | true => exact h1 H1 s1
 | false => exact ⟨B, δ, R.more s1, Xm.more h1 s1⟩
theorem ZZ {op : BoolOp} {es : List Expr} {r : RT} (h : PW X (.BoolOp op es pos) (TTx X E r)) : PT X (.BoolOp op es pos) (TTx X E r) := h.pt
theorem UT {c : Expr} {t : RT} (hc : PT X c (TTx X E t)) (ha : PE X a (TEx X E ra)) (hb : PE X b (TEx X E rb)) : PE X (.IfExp c a b pos) (TEx X E (jW t ra rb)) := by
 refine qZ (qaT hc ha hb) fun σ H Q ⟨B, δ, R, h⟩ => ⟨B, δ, R, ?_⟩
 refine qk.imp (qk.bind h) fun x h1 H1 s1 => ?_
 cases x with
 | true => exact ⟨B, δ, R.more s1, Fin.more h1 s1⟩
 | false => exact ⟨B, δ, R.more s1, Fin.more h1 s1⟩
theorem qo : PA X [] (TAx X E qi) := fun pos pins s σ H Q I ⟨B, δ, R, h⟩ => zp pos pins s σ H Q I (h [] H qw.refl .nil)
theorem Zl {es : List Expr} {t t' : TA} (h : PA X es t) (i : ∀ σ H Q, t' σ H Q -> t σ H Q) : PA X es t' := fun pos pins s σ H Q I hw => h pos pins s σ H Q I (i σ H Q hw)
theorem qe {es : List Expr} {r : RE} {rr : RA} (ha : PE X a (TEx X E r)) (hr : PA X es (TAx X E rr)) (hs : autoParam (starEach (a :: es) X.env = (false, eval a X.env) :: starEach es X.env) qm._auto_1) : PA X (a :: es) (TAx X E (qc r rr)) := by
 refine Zl (vH ha hr hs) fun σ H Q ⟨B, δ, R, h⟩ => ⟨B, δ, R, ?_⟩
 refine qk.imp (qk.bind h) fun x h1 v H1 s1 r1 => ⟨B, δ, R.more s1, ?_⟩
 refine qk.imp (qk.more (qk.bind h1) s1) fun xs h2 vs H2 s2 r2 => ?_
 exact h2 (v :: vs) H2 (s1.trans s2) (.cons (r1.later s2) (r2.Vf s1))
theorem jM {r : RA} {σ : St} {H : Hp} {B : Bs} {δ : Dl} (R : Rl X.mg X.K B H σ δ) {Q : VK} {f : List DK -> Rs DK} {Q' : List V -> Hp -> Prop} (h : Fin X.mg X.K E B H σ δ ((r δ).bind f) Q)
  (i : ∀ xs vs H1, qw H H1 -> VRs X.mg X.K B H H1 σ δ vs xs -> Fin X.mg X.K E B H1 σ δ (f xs) Q -> Q' vs H1) : TAx X E r σ H Q' :=
 ⟨B, δ, R, qk.imp (qk.bind h) fun xs h1 vs H1 s1 r1 => i xs vs H1 s1 r1 (Fin.more h1 s1)⟩
theorem VRs.len {mg : Str -> Option Value} {K : PySem.W.Frag} {B : Bs} {H H' : Hp} {σ : St} {δ : Dl} {vs : List V} {xs : List DK} (h : VRs mg K B H H' σ δ vs xs) : vs.length = xs.length := by
 induction h with
 | nil => rfl
 | cons _ _ ih => rw [List.length_cons, List.length_cons, ih]
theorem VQ {es : List Expr} {r : RA} (h : PA X es (TAx X E r)) : PE X (.List es pos) (TEx X E (yU r)) := by
 refine qZ (Zp h) fun σ H Q ⟨B, δ, R, h⟩ => ?_
 refine jM R h fun xs vs H1 s1 r1 h1 => ?_
 by_cases hl : xs.length <= LIM
 ·rw [if_pos hl] at h1
  refine ⟨by rw [r1.len]; exact hl, fun p hp => ?_⟩
  refine h1 (.ref p) _ (vt hp) ?_
  exact VR.laid (R.more s1) qw.refl hp (z6 xs) (r1.qd4 R)
 ·rw [if_neg hl] at h1
  exact h1.elim
end
theorem Vu {i : Int} (h : few i) : Builtin.Int.intBits i <= 60000 := by
 unfold Builtin.Int.intBits
 split
 ·exact Nat.zero_le _
 ·have hn : i.natAbs < 2 ^ 60000 := h
  have : i.natAbs.log2 < 60000 := by
   rcases Nat.eq_zero_or_pos i.natAbs with h0 | hp
   ·rw [h0, Nat.log2_zero]; exact Nat.zero_lt_of_lt (by exact (show 0 < 60000 by decide))
   ·exact (Nat.log2_lt (Nat.ne_of_gt hp)).mpr hn
  lia
theorem qcu {i j : Int} (h : few i) (h' : few j) : IntMulOk i j := by
 unfold IntMulOk
 have a := Vu h
 have b := Vu h'
 have c : Builtin.Int.intTooBig (Builtin.Int.intBits i + Builtin.Int.intBits j) = false := by
  unfold Builtin.Int.intTooBig
  refine decide_eq_false ?_
  have e : bitsLine = 134217728 := by decide
  lia
 rw [c]
 simp
section
variable {X : Cx}
theorem Zf : OpR X (binaryOp .Mult) (rI (fun i j => few i /\ few j) fun i j => .int (i * j)) := opI fun _ _ _ _ _ _ _ hc q => mul_int q (qcu hc.1 hc.2)
theorem zb : OpR X (binaryOp .LShift) (rI (fun i j => 0 <= j /\ j <= 60000 /\ few i) fun i j => .int (i * 2 ^ j.toNat)) := opI fun i j _ _ _ _ _ hc q => by
 refine lshift_int hc.1 ?_ q
 have a := Vu hc.2.2
 have b := hc.2.1
 have e : (2 : Int) ^ 27 = 134217728 := by decide
 lia
theorem qbE : OpR X (binaryOp .FloorDiv) (rI (fun _ j => 0 < j /\ j.natAbs.log2 < 9000) fun i j => .int (i / j)) := opI fun i j _ _ _ _ _ hc q => by
 refine floordiv_int (Int.ne_of_gt hc.1) ?_ (.inl (PyProof.noPylong_of_log2 hc.2))
 rw [Int.fdiv_eq_ediv_of_nonneg _ (Int.le_of_lt hc.1)]
 exact q
noncomputable def qbA (K : PySem.W.Frag) : R2 := fun x y H Q => ∃ l b xs zs, x = .ref l /\ y = .ref b /\ SqL K H l xs /\ SqL K H b zs /\ xs.length + zs.length <= sizeLine /\ ∀ p, H p = none -> Q (.ref p) (upd H p (.lst (xs ++ zs)))
theorem qb5 : OpR X (binaryOp .Add) (qbA X.K) := by
 intro pins s σ H x y v u Q I rx ry h
 obtain ⟨l, b, xs, zs, rfl, rfl, hH, hB, hz, q⟩ := h
 cases rx
 cases ry
 obtain ⟨its, r, p1, z1⟩ := I.list hH
 obtain ⟨its2, r2, p2, z2⟩ := I.list hB
 have l1 := r.length
 have l2 := r2.length
 obtain ⟨⟨cls, dd, data, sl⟩, ho, hc, n, hd⟩ := id p1.isList
 obtain ⟨⟨cls2, dd2, data2, sl2⟩, ho2, hc2, n2, hd2⟩ := id p2.isList
 simp only at hc hd hc2 hd2
 subst hc hd hc2 hd2
 have e : its.toArray ++ its2.toArray = (its ++ its2).toArray := by simp
 refine concat_meets ⟨_, ho, rfl⟩ ⟨_, ho2, rfl⟩ noFill_list_add seq_list_add PySem.F.slot_list_add PySem.F.entry_list_add (PySem.F.args_list_add_2 _ _) (list_addW l b its.toArray its2.toArray n n2 dd dd2 sl sl2 (by rw [List.size_toArray, List.size_toArray]; lia)) ⟨ho, ho2, ?_⟩
 rw [e]
 exact ⟨.ref _, _, I.qcl (t' := s.toks) (r.append r2) (by rw [List.length_append]; lia), rfl, q _ I.fresh⟩
theorem qM {mg : Str -> Option Value} {K : PySem.W.Frag} {B : Bs} {H H' : Hp} {σ : St} {δ : Dl} {k : Kd} {v : V} {i : Int} (R : Rl mg K B H σ δ) (h : VR mg K B H H' σ δ k v (.int i)) : v = .int i := (h.rp R).sc rfl
theorem UL {mg : Str -> Option Value} {K : PySem.W.Frag} {B : Bs} {H H' : Hp} {σ : St} {δ : Dl} {k : Kd} {v : V} {i : Bool} (R : Rl mg K B H σ δ) (h : VR mg K B H H' σ δ k v (.bl i)) : v = .bl i := (h.rp R).sc rfl
theorem wC : zz X vx (fun x y H Q => rI0 (fun i j => .int (i + j)) x y H Q \/ qbA X.K x y H Q) := by
 rintro B H H' σ δ x y ⟨dx, kx⟩ ⟨dy, ky⟩ Q E R s r1 r2 h
 cases dx with
 | int i =>
  cases dy with
  | int j => exact .inl ⟨i, j, qM R r1, qM R r2, h _ H' qw.refl (VR.int _)⟩
  | _ => exact h.elim
 | lst xs =>
  cases dy with
  | lst ys =>
   right
   obtain ⟨a, vs, rfl, q1, g1⟩ := VR.items R r1
   obtain ⟨b, us, rfl, q2, g2⟩ := VR.items R r2
   unfold vx at h
   dsimp only at h
   by_cases hl : xs.length + ys.length <= LIM
   ·rw [if_pos hl] at h
    refine ⟨a, b, vs, us, rfl, rfl, q1, q2, by rw [g1.len, g2.len]; exact hl, fun p hp => ?_⟩
    refine h _ _ (vt hp) (VR.laid (R.more s) qw.refl hp (low_ne _ _) (qt.append ?_ ?_))
    ·refine g1.weak fun a g => ?_
     revert g
     cases kx <;> cases ky <;> first | exact fun g => g | exact fun g => g.1 | exact fun g z => g (.inl z) | exact fun g z => g.1 (.inl z)
    ·refine g2.weak fun a g => ?_
     revert g
     cases kx <;> cases ky <;> first | exact fun g => g | exact fun g => g.1 | exact fun g z => g (.inl z) | exact fun g z => g.1 (.inl z)
   ·rw [if_neg hl] at h
    exact h.elim
  | _ => exact h.elim
 | _ => exact h.elim
theorem vR : OpR X (binaryOp .Add) (fun x y H Q => rI0 (fun i j => .int (i + j)) x y H Q \/ qbA X.K x y H Q) := qep.or qb5
theorem Zm {f : DK -> DK -> Rs DK} {g : Int -> Int -> V} {c : Int -> Int -> D} (hf : ∀ dx dy, f dx dy = match dx.1, dy.1 with | .int i, .int j => .ok (c i j, .nw) | _, _ => .no) (hg : ∀ i j, g i j = toV (c i j)) (hc : ∀ i j, (c i j).sc = true) : zz X f (rI0 g) := by
 rintro B H H' σ δ x y ⟨dx, kx⟩ ⟨dy, ky⟩ Q E R s r1 r2 h
 rw [hf] at h
 cases dx with
 | int i =>
  cases dy with
  | int j => exact ⟨i, j, qM R r1, qM R r2, by rw [hg]; exact h _ H' qw.refl (VR.wL _ (fun z => nomatch z) (hc i j))⟩
  | _ => exact h.elim
 | _ => exact h.elim
theorem QP {f : DK -> DK -> Rs DK} {C : Int -> Int -> Prop} {g : Int -> Int -> V} {c : Int -> Int -> D} (h1 : ∀ i j k l, C i j -> f (.int i, k) (.int j, l) = .ok (c i j, .nw)) (h2 : ∀ i j k l, ¬ C i j -> f (.int i, k) (.int j, l) = .no)
  (h3 : ∀ dx dy, (∀ i k, dx ≠ (.int i, k)) \/ (∀ i k, dy ≠ (.int i, k)) -> f dx dy = .no) (hg : ∀ i j, g i j = toV (c i j)) (hc : ∀ i j, (c i j).sc = true) : zz X f (rI C g) := by
 rintro B H H' σ δ x y ⟨dx, kx⟩ ⟨dy, ky⟩ Q E R s r1 r2 h
 by_cases ex : ∃ i, dx = .int i
 ·obtain ⟨i, rfl⟩ := ex
  by_cases ey : ∃ j, dy = .int j
  ·obtain ⟨j, rfl⟩ := ey
   by_cases cc : C i j
   ·rw [h1 i j _ _ cc] at h
    exact ⟨i, j, qM R r1, qM R r2, cc, by rw [hg]; exact h _ H' qw.refl (VR.wL _ (fun z => nomatch z) (hc i j))⟩
   ·rw [h2 i j _ _ cc] at h
    exact h.elim
  ·rw [h3 _ _ (.inr fun j k z => ey ⟨j, congrArg Prod.fst z⟩)] at h
   exact h.elim
 ·rw [h3 _ _ (.inl fun j k z => ex ⟨j, congrArg Prod.fst z⟩)] at h
  exact h.elim
theorem zc : zz X wD (rI0 fun i j => .int (i - j)) := Zm (c := fun i j => .int (i - j)) (by rintro ⟨dx, kx⟩ ⟨dy, ky⟩; cases dx <;> cases dy <;> rfl) (fun _ _ => rfl) fun _ _ => rfl
theorem jJ (g : Int -> Int -> Int) : zz X (jG g) (rI0 fun i j => .int (g i j)) := Zm (c := fun i j => .int (g i j)) (by rintro ⟨dx, kx⟩ ⟨dy, ky⟩; cases dx <;> cases dy <;> rfl) (fun _ _ => rfl) fun _ _ => rfl
theorem xG (g : Int -> Int -> Bool) : zz X (yg g) (rI0 fun i j => .bl (g i j)) := Zm (c := fun i j => .bl (g i j)) (by rintro ⟨dx, kx⟩ ⟨dy, ky⟩; cases dx <;> cases dy <;> rfl) (fun _ _ => rfl) fun _ _ => rfl
theorem qcI : zz X WE (rI (fun _ j => 0 < j /\ j.natAbs.log2 < 9000) fun i j => .int (i / j)) := QP (c := fun i j => .int (i / j)) (fun i j k l c => by unfold WE; exact if_pos c) (fun i j k l c => by unfold WE; exact if_neg c)
 (fun ⟨dx, kx⟩ ⟨dy, ky⟩ h => by cases dx <;> cases dy <;> first | rfl | (rcases h with h | h <;> exact absurd rfl (h _ _))) (fun _ _ => rfl) fun _ _ => rfl
theorem qaS : zz X oMod (rI (fun _ j => 0 < j) fun i j => .int (i % j)) := QP (c := fun i j => .int (i % j)) (fun i j k l c => by unfold oMod; exact if_pos c) (fun i j k l c => by unfold oMod; exact if_neg c)
 (fun ⟨dx, kx⟩ ⟨dy, ky⟩ h => by cases dx <;> cases dy <;> first | rfl | (rcases h with h | h <;> exact absurd rfl (h _ _))) (fun _ _ => rfl) fun _ _ => rfl
theorem zO : zz X w4 (rI (fun i j => 0 <= j /\ j <= 60000 /\ few i) fun i j => .int (i * 2 ^ j.toNat)) := QP (c := fun i j => .int (i * 2 ^ j.toNat)) (fun i j k l c => by unfold w4; exact if_pos c) (fun i j k l c => by unfold w4; exact if_neg c)
 (fun ⟨dx, kx⟩ ⟨dy, ky⟩ h => by cases dx <;> cases dy <;> first | rfl | (rcases h with h | h <;> exact absurd rfl (h _ _))) (fun _ _ => rfl) fun _ _ => rfl
theorem Ux : zz X jF (rI (fun _ j => 0 <= j) fun i j => .int (i / 2 ^ j.toNat)) := QP (c := fun i j => .int (i / 2 ^ j.toNat)) (fun i j k l c => by unfold jF; exact if_pos c) (fun i j k l c => by unfold jF; exact if_neg c)
 (fun ⟨dx, kx⟩ ⟨dy, ky⟩ h => by cases dx <;> cases dy <;> first | rfl | (rcases h with h | h <;> exact absurd rfl (h _ _))) (fun _ _ => rfl) fun _ _ => rfl
theorem Ul : zz X Q8 (fun x y H Q => rI (fun i j => few i /\ few j) (fun i j => .int (i * j)) x y H Q \/ qeT x y H Q) := by
 rintro B H H' σ δ x y ⟨dx, kx⟩ ⟨dy, ky⟩ Q E R s r1 r2 h
 cases dx with
 | int i =>
  cases dy with
  | int j =>
   unfold Q8 at h
   dsimp only at h
   by_cases c : few i /\ few j
   ·rw [if_pos c] at h
    exact .inl ⟨i, j, qM R r1, qM R r2, c, h _ H' qw.refl (VR.int _)⟩
   ·rw [if_neg c] at h
    exact h.elim
  | _ => exact h.elim
 | lst xs =>
  cases dy with
  | int j =>
   right
   unfold Q8 at h
   cases kx with
   | fr =>
    obtain ⟨p, ds, rfl, e, c, _, hp⟩ := r1
    cases e
    dsimp only at h
    by_cases c2 : (0 <= j /\ j < 1000000) /\ xs.length * j.toNat <= LIM
    ·rw [if_pos c2] at h
     refine ⟨p, j, _, rfl, qM R r2, hp, by lia, by lia, by rw [List.length_map]; exact c2.2, fun q hq => ?_⟩
     refine h _ _ (vt hq) (VR.laid (k := .nw) (R.more s) qw.refl hq (fun z => nomatch z) (qt.rep (.wL c) _))
    ·rw [if_neg c2] at h
     exact h.elim
   | _ => exact h.elim
  | _ => cases kx <;> exact False.elim h
 | _ => exact h.elim
end
noncomputable def RR (mg : Str -> Option Value) (K : PySem.W.Frag) (H H' : Hp) : Bool -> V -> D -> Prop
 | true, v, d => ∃ p ds, v = .ref p /\ d = .lst ds /\ ds.all D.sc = true /\ H p = none /\ H' p = some (.lst (ds.map toV))
 | false, v, d => Rp mg K (fun a => H a = none) H' v d
noncomputable def Frm (B : Bs) (σ : St) (δ : Dl) (H : Hp) (σ' : St) (δ' : Dl) (H' : Hp) : Prop := ∀ b o, H b = some o -> ¬ vn B σ δ b -> H' b = some o /\ ¬ vn B σ' δ' b
theorem Frm.refl {B : Bs} {σ : St} {δ : Dl} {H : Hp} : Frm B σ δ H σ δ H := fun _ _ e n => ⟨e, n⟩
theorem Frm.trans {B : Bs} {σ σ1 σ2 : St} {δ δ1 δ2 : Dl} {H H1 H2 : Hp} (a : Frm B σ δ H σ1 δ1 H1) (b : Frm B σ1 δ1 H1 σ2 δ2 H2) : Frm B σ δ H σ2 δ2 H2 := fun c o e n => b c o (a c o e n).1 (a c o e n).2
theorem Frm.grow {B : Bs} {σ : St} {δ : Dl} {H H' : Hp} (s : qw H H') : Frm B σ δ H σ δ H' := fun b o e n => ⟨s b o e, n⟩
noncomputable def xf (mg : Str -> Option Value) (K : PySem.W.Frag) (E : XK) (B : Bs) (H : Hp) (σ : St) (δ : Dl) (o : Out) (D : Ends) : Prop := match o with
 | .nx δ' => ∀ σ' H', Rl mg K B H' σ' δ' -> Frm B σ δ H σ' δ' H' -> D.nx σ' H'
 | .bk δ' => ∀ σ' H', Rl mg K B H' σ' δ' -> Frm B σ δ H σ' δ' H' -> D.bk σ' H'
 | .ct δ' => ∀ σ' H', Rl mg K B H' σ' δ' -> Frm B σ δ H σ' δ' H' -> D.ct σ' H'
 | .rt d k => ∀ v H', qw B.H0 H' -> RR mg K B.H0 H' k v d -> D.rt v H'
 | .er c => ∀ C H', mg c = some (.ref C) -> qw B.H0 H' -> E (.ref C) none H'
 | .no => False
noncomputable def tS (mg : Str -> Option Value) (K : PySem.W.Frag) (E : XK) (r : RS) : TS := fun D σ H => ∃ B δ, Rl mg K B H σ δ /\ xf mg K E B H σ δ (r δ) D
noncomputable abbrev TSx (X : Cx) (E : XK) (r : RS) : TS := tS X.mg X.K E r
section
variable {mg : Str -> Option Value} {K : PySem.W.Frag} {E : XK} {B : Bs} {H H1 H' : Hp} {σ σ1 : St} {δ δ1 : Dl} {v : V} {d : D} {i : Nat}
theorem xf.later {o : Out} {D : Ends} (h : xf mg K E B H σ δ o D) (f : Frm B σ δ H σ1 δ1 H1) : xf mg K E B H1 σ1 δ1 o D := by
 cases o with
 | nx δ' => exact fun σ' H' R f' => h σ' H' R (f.trans f')
 | bk δ' => exact fun σ' H' R f' => h σ' H' R (f.trans f')
 | ct δ' => exact fun σ' H' R f' => h σ' H' R (f.trans f')
 | rt d k => exact h
 | er c => exact h
 | no => exact h
theorem xE {s : Sl} (hs : ∀ ds, s ≠ .own ds) {w : Option V} {p : Addr} (h : vn B (σ.set i w) (δ.set i s) p) : vn B σ δ p := by
 rcases h with h | ⟨j, ds, e1, e2⟩
 ·exact .inl h
 ·right
  by_cases hj : i = j
  ·subst hj
   by_cases hi : i < δ.length
   ·rw [List.getElem?_set_self hi] at e1
    exact absurd (Option.some.inj e1) (hs ds)
   ·rw [List.getElem?_eq_none (by rw [List.length_set]; lia)] at e1
    cases e1
  ·rw [List.getElem?_set_ne hj] at e1 e2
   exact ⟨j, ds, e1, e2⟩
theorem Rl.UA {k : Bool} (R : Rl mg K B H σ δ) (r : Rp mg K (fun a => ¬ vn B σ δ a /\ (k = true -> B.H0 a = none)) H v d) : Rl mg K B H (σ.set i (some v)) (δ.set i (.val d k)) := by
 have sub : ∀ a, ¬ vn B σ δ a -> ¬ vn B (σ.set i (some v)) (δ.set i (.val d k)) a := fun a n z => n (xE (fun _ q => by cases q) z)
 refine ⟨R.same, R.pd, by rw [List.length_set, List.length_set]; exact R.len, fun j d' k' e => ?_, fun j ds e => ?_, fun j l p ds es e1 e2 e3 e4 => ?_⟩
 ·by_cases hj : i = j
  ·subst hj
   by_cases hi : i < δ.length
   ·rw [List.getElem?_set_self hi] at e
    cases e
    exact ⟨v, List.getElem?_set_self (by rw [R.len]; exact hi), r.weak fun a g => ⟨sub a g.1, g.2⟩⟩
   ·rw [List.getElem?_eq_none (by rw [List.length_set]; lia)] at e
    cases e
  ·rw [List.getElem?_set_ne hj] at e ⊢
   obtain ⟨w, h1, h2⟩ := R.val j d' k' e
   exact ⟨w, h1, h2.weak fun a g => ⟨sub a g.1, g.2⟩⟩
 ·by_cases hj : i = j
  ·subst hj
   by_cases hi : i < δ.length
   ·rw [List.getElem?_set_self hi] at e
    cases e
   ·rw [List.getElem?_eq_none (by rw [List.length_set]; lia)] at e
    cases e
  ·rw [List.getElem?_set_ne hj] at e ⊢
   exact R.own j ds e
 ·have ne : ∀ {j : Nat} {ds : List D}, (δ.set i (.val d k))[j]? = some (.own ds) -> i ≠ j := fun {j ds} e q => by
   subst q
   by_cases hi : i < δ.length
   ·rw [List.getElem?_set_self hi] at e
    cases e
   ·rw [List.getElem?_eq_none (by rw [List.length_set]; lia)] at e
    cases e
  have n1 := ne e1
  have n2 := ne e2
  rw [List.getElem?_set_ne n1] at e1 e3
  rw [List.getElem?_set_ne n2] at e2 e4
  exact R.apart j l p ds es e1 e2 e3 e4
theorem uC {k : Bool} : Frm B σ δ H (σ.set i (some v)) (δ.set i (.val d k)) H := fun b o e n => ⟨e, fun z => n (xE (fun _ q => by cases q) z)⟩
theorem Rl.qd0 {p : Addr} {ds : List D} (R : Rl mg K B H σ δ) (s : qw H H') (hp : H p = none) (hp' : H' p = some (.lst (ds.map toV))) (c : ds.all D.sc = true) : Rl mg K B H' (σ.set i (some (.ref p))) (δ.set i (.own ds)) /\ Frm B σ δ H (σ.set i (some (.ref p))) (δ.set i (.own ds)) H' := by
 have get : ∀ {j : Nat} {x : Sl}, (δ.set i (.own ds))[j]? = some x -> (i = j /\ i < δ.length /\ x = .own ds) \/ (i ≠ j /\ δ[j]? = some x) := fun {j x} e => by
  by_cases hj : i = j
  ·subst hj
   by_cases hi : i < δ.length
   ·rw [List.getElem?_set_self hi] at e
    exact .inl ⟨rfl, hi, (Option.some.inj e).symm⟩
   ·rw [List.getElem?_eq_none (by rw [List.length_set]; lia)] at e
    cases e
  ·rw [List.getElem?_set_ne hj] at e
   exact .inr ⟨hj, e⟩
 have sub : ∀ a, H a ≠ none -> ¬ vn B σ δ a -> ¬ vn B (σ.set i (some (.ref p))) (δ.set i (.own ds)) a := fun a ha n z => by
  rcases z with z | ⟨j, es, e1, e2⟩
  ·exact n (.inl z)
  ·rcases get e1 with ⟨rfl, hi, _⟩ | ⟨hj, e1⟩
   ·rw [List.getElem?_set_self (by rw [R.len]; exact hi)] at e2
    cases e2
    exact ha hp
   ·rw [List.getElem?_set_ne hj] at e2
    exact n (.inr ⟨j, es, e1, e2⟩)
 have R' := R.more s
 refine ⟨⟨R'.same, R'.pd, by rw [List.length_set, List.length_set]; exact R.len, fun j d' k' e => ?_, fun j es e => ?_, fun j l q es fs e1 e2 e3 e4 => ?_⟩, fun b o e n => ⟨s b o e, sub b (by rw [e]; exact fun z => nomatch z) n⟩⟩
 ·rcases get e with ⟨_, _, z⟩ | ⟨hj, e⟩
  ·cases z
  ·obtain ⟨w, h1, h2⟩ := R.val j d' k' e
   rw [List.getElem?_set_ne hj]
   exact ⟨w, h1, (Rp.weak (Rp.there _ _ h2) fun a g => ⟨sub a g.2 g.1.1, g.1.2⟩).same s⟩
 ·rcases get e with ⟨rfl, hi, z⟩ | ⟨hj, e⟩
  ·cases z
   exact ⟨c, p, List.getElem?_set_self (by rw [R.len]; exact hi), R.same.free hp, fun z => R.pd p z hp, hp'⟩
  ·rw [List.getElem?_set_ne hj]
   exact R'.own j es e
 ·have pne : ∀ {j : Nat} {es : List D} {q : Addr}, δ[j]? = some (.own es) -> σ[j]? = some (some (.ref q)) -> q ≠ p := fun {j es q} e1 e2 z => by
   have := R.owned (.inr ⟨j, es, e1, e2⟩)
   rw [z] at this
   exact this hp
  rcases get e1 with ⟨h1, hi, _⟩ | ⟨h1, e1⟩
  ·rcases get e2 with ⟨h2, _, _⟩ | ⟨h2, e2⟩
   ·exact h1.symm.trans h2
   ·subst h1
    rw [List.getElem?_set_self (by rw [R.len]; exact hi)] at e3
    rw [List.getElem?_set_ne h2] at e4
    cases e3
    exact absurd rfl (pne e2 e4)
  ·rw [List.getElem?_set_ne h1] at e3
   rcases get e2 with ⟨h2, hi, _⟩ | ⟨h2, e2⟩
   ·subst h2
    rw [List.getElem?_set_self (by rw [R.len]; exact hi)] at e4
    cases e4
    exact absurd rfl (pne e1 e3)
   ·rw [List.getElem?_set_ne h2] at e4
    exact R.apart j l q es fs e1 e2 e3 e4
theorem QJ {δ : Dl} {j : Nat} {x : Sl} (h : (freeze δ)[j]? = some x) : ∃ y, δ[j]? = some y /\ x = frz y := by
 unfold freeze at h
 rw [List.getElem?_map] at h
 cases e : δ[j]? with
 | none => rw [e] at h; cases h
 | some y => rw [e] at h; exact ⟨y, rfl, (Option.some.inj h).symm⟩
theorem ub {p : Addr} (h : vn B σ (freeze δ) p) : B.P p := by
 rcases h with h | ⟨j, ds, e, _⟩
 ·exact h
 ·obtain ⟨y, _, z⟩ := QJ e
  cases y <;> cases z
theorem Rl.frz (R : Rl mg K B H σ δ) : Rl mg K B H σ (freeze δ) := by
 refine ⟨R.same, R.pd, by unfold freeze; rw [List.length_map]; exact R.len, fun j d k e => ?_, fun j ds e => ?_, fun j l p ds es e1 _ _ _ => ?_⟩
 ·obtain ⟨y, h, z⟩ := QJ e
  cases y with
  | un => cases z
  | val d' k' =>
   cases z
   obtain ⟨w, h1, h2⟩ := R.val j _ _ h
   exact ⟨w, h1, h2.weak fun a g => ⟨fun z => g.1 (.inl (ub z)), g.2⟩⟩
  | own ds =>
   cases z
   obtain ⟨c, p, h1, h2, h3, h4⟩ := R.own j ds h
   exact ⟨.ref p, h1, .lst ⟨fun z => h3 (ub z), fun _ => h2⟩ (.of h4) (.wL c)⟩
 ·obtain ⟨y, _, z⟩ := QJ e
  cases y <;> cases z
 ·obtain ⟨y, _, z⟩ := QJ e1
  cases y <;> cases z
theorem qdb : Frm B σ δ H σ (freeze δ) H := fun b o e n => ⟨e, fun z => n (.inl (ub z))⟩
theorem Rl.qfF {ds : List D} (R : Rl mg K B H σ δ) (hδ : δ[i]? = some (.own ds)) : Rl mg K B H σ (δ.set i (.val (.lst ds) true)) /\ Frm B σ δ H σ (δ.set i (.val (.lst ds) true)) H := by
 obtain ⟨c, p, h1, h2, h3, h4⟩ := R.own i ds hδ
 have hi : i < σ.length := (List.getElem?_eq_some_iff.mp h1).1
 have e : σ.set i (some (.ref p)) = σ := by
  refine List.ext_getElem? fun j => ?_
  by_cases hj : i = j
  ·subst hj
   rw [List.getElem?_set_self hi, h1]
  ·rw [List.getElem?_set_ne hj]
 have sub : ∀ a, vn B σ (δ.set i (.val (.lst ds) true)) a -> vn B σ δ a := fun a z => by
  rw [<- e] at z
  exact xE (fun _ q => by cases q) z
 have np : ¬ vn B σ (δ.set i (.val (.lst ds) true)) p := fun z => by
  rcases z with z | ⟨j, es, e1, e2⟩
  ·exact h3 z
  ·by_cases hj : i = j
   ·subst hj
    rw [List.getElem?_set_self (by rw [<- R.len]; exact hi)] at e1
    cases e1
   ·rw [List.getElem?_set_ne hj] at e1
    exact hj (R.apart i j p ds es hδ e1 h1 e2)
 refine ⟨⟨R.same, R.pd, by rw [List.length_set]; exact R.len, fun j d k q => ?_, fun j es q => ?_, fun j l q fs gs e1 e2 e3 e4 => ?_⟩, fun b o q n => ⟨q, fun z => n (sub b z)⟩⟩
 ·by_cases hj : i = j
  ·subst hj
   rw [List.getElem?_set_self (by rw [<- R.len]; exact hi)] at q
   cases q
   exact ⟨_, h1, .lst ⟨np, fun _ => h2⟩ (.of h4) (.wL c)⟩
  ·rw [List.getElem?_set_ne hj] at q
   obtain ⟨w, g1, g2⟩ := R.val j d k q
   exact ⟨w, g1, g2.weak fun a g => ⟨fun z => g.1 (sub a z), g.2⟩⟩
 ·by_cases hj : i = j
  ·subst hj
   rw [List.getElem?_set_self (by rw [<- R.len]; exact hi)] at q
   cases q
  ·rw [List.getElem?_set_ne hj] at q
   exact R.own j es q
 ·have get : ∀ {j : Nat} {es : List D}, (δ.set i (.val (.lst ds) true))[j]? = some (.own es) -> δ[j]? = some (.own es) := fun {j es} q => by
   by_cases hj : i = j
   ·subst hj
    rw [List.getElem?_set_self (by rw [<- R.len]; exact hi)] at q
    cases q
   ·rw [List.getElem?_set_ne hj] at q
    exact q
  exact R.apart j l q fs gs (get e1) (get e2) e3 e4
theorem VR.slot {k : Kd} (R : Rl mg K B H σ δ) (s : qw H H') (r : VR mg K B H H' σ δ k v d) (h : k ≠ .bo \/ d.sc = true) : ∃ d' b, y6 (d, if d.sc = true then .nw else k) = .val d' b /\ d' = d /\ Rp mg K (fun a => ¬ vn B σ δ a /\ (b = true -> B.H0 a = none)) H' v d := by
 refine ⟨d, _, rfl, rfl, ?_⟩
 cases c : d.sc with
 | true =>
  have e := (r.rp R).sc c
  rw [e]
  exact Rp.wL c
 | false =>
  rw [if_neg (by decide)]
  rcases h with h | h
  ·cases k with
   | bo => exact absurd rfl h
   | sh => exact Rp.weak r fun a g => ⟨g, fun z => nomatch z⟩
   | nw => exact Rp.weak r fun a g => ⟨g.1, fun _ => g.2⟩
   | fr => exact Rp.weak (VR.zJ R r) fun a g => ⟨g.1, fun _ => g.2⟩
  ·rw [c] at h
   cases h
end
structure Gd (X : Cx) (E : XK) : Prop where
 calm : X.calm = true
 nd : X.N.Nodup
 acc : Acc X E
 own : PassesOwn (model X.prog X.w) X.A X.env X.xe
theorem UC {X : Cx} {E : XK} {L : Addr} (hst : X.stack = X.env :: X.outer) (hfr : X.env.frame = some L) : PassesOwn (model X.prog X.w) X.A X.env (Arr X E) := by
 intro e s1 x
 obtain ⟨a, cls, B, H', pins, σ, rfl, I, hd, kb, q⟩ := x
 have hfrm : X.A.frames = some (X.env :: X.outer) := by rw [<- hst]; exact I.ok.frames
 have hd0 := hd
 rw [hst] at hd0
 refine yJ hfrm hfr hfr hd0 fun h1 hd1 up1 => ?_
 rw [<- hst] at hd1
 obtain ⟨I1, kb1⟩ := wQ I hd kb hd1.hand up1
 unfold cameBackBy
 refine wpAny_bind (jt hd1 fun T => ?_)
 rw [if_neg (show ¬ ((Value.ref T == Value.none) = true) from by simp)]
 refine zf hd1 fun h2 hd2 up2 => ?_
 obtain ⟨I2, kb2⟩ := wQ I1 hd1.hand kb1 hd2.hand up2
 exact ⟨a, cls, B, H', pins, σ, rfl, I2, hd2.hand, kb2, q⟩
section
variable {X : Cx} {E : XK} {pos : Pos}
theorem u0 {st : List Stmt} {t t' : TS} (h : PSs X st t) (i : ∀ D σ H, t' D σ H -> t D σ H) : PSs X st t' := fun pins s σ H D I hw => h pins s σ H D I (i D σ H hw)
theorem zm : PSs X [] (TSx X E zu) := u0 Jp fun D σ H ⟨B, δ, R, h⟩ => h σ H R Frm.refl
theorem qel {a b : RS} {D : Ends} {σ : St} {H : Hp} (h : TSx X E (wx a b) D σ H) : TSx X E a { D with nx := TSx X E b D } σ H := by
 obtain ⟨B, δ, R, h⟩ := h
 refine ⟨B, δ, R, ?_⟩
 unfold wx Out.andThen at h
 cases ha : a δ with
 | nx δ1 =>
  rw [ha] at h
  exact fun σ1 H1 R1 f1 => ⟨B, δ1, R1, xf.later h f1⟩
 | bk δ1 => rw [ha] at h; exact h
 | ct δ1 => rw [ha] at h; exact h
 | rt d k => rw [ha] at h; exact h
 | er c => rw [ha] at h; exact h
 | no => rw [ha] at h; exact h
theorem qI {st : Stmt} {rest : List Stmt} {a b : RS} (h1 : PS X st (TSx X E a)) (h2 : PSs X rest (TSx X E b)) : PSs X (st :: rest) (TSx X E (wx a b)) := u0 (Vq h1 h2) fun _ _ _ h => qel h
theorem qz {st : Stmt} {a : RS} (h1 : PS X st (TSx X E a)) : PSs X [st] (TSx X E a) := xZ h1
theorem Yu {mg : Str -> Option Value} {K : PySem.W.Frag} {B : Bs} {H : Hp} {σ : St} {δ : Dl} {c : Str} (R : Rl mg K B H σ δ) (h : ∀ C H', mg c = some (.ref C) -> qw B.H0 H' -> E (.ref C) none H') : ∀ C H', mg c = some (.ref C) -> qw H H' -> E (.ref C) none H' := fun C H' e s => h C H' e (R.same.trans s)
theorem Jo {e : Expr} {r : RE} (he : PE X e (TEx X E r)) (hs : autoParam (swapsWith e none pos.line X.env = pure false) qm._auto_1) : PS X (.Expr e pos) (TSx X E (uv r)) := by
 refine vK (ZT he hs) fun D σ H ⟨B, δ, R, h⟩ => ⟨B, δ, R, ?_⟩
 unfold uv at h
 cases hr : r δ with
 | ok x => rw [hr] at h; exact fun v H' s _ => h σ H' (R.more s) (Frm.grow s)
 | er c => rw [hr] at h; exact Yu R h
 | no => rw [hr] at h; exact h
theorem qeI {i : Nat} {r : RE} {D : Ends} {σ : St} {H : Hp} (h : TSx X E (we i r) D σ H) : Ur (TEx X E r) (wz i) D σ H := by
 obtain ⟨B, δ, R, h⟩ := h
 refine ⟨B, δ, R, ?_⟩
 unfold we at h
 cases hr : r δ with
 | er c => rw [hr] at h; exact Yu R h
 | no => rw [hr] at h; exact h
 | ok x =>
  rw [hr] at h
  obtain ⟨d, k⟩ := x
  intro v H' s vr
  have vr : VR X.mg X.K B H H' σ δ k v d := vr
  show D.nx (σ.set i (some v)) H'
  -- a value that is no list just made
  have plain : (k ≠ .bo \/ d.sc = true) -> xf X.mg X.K E B H σ δ (.nx (δ.set i (y6 (d, if d.sc = true then .nw else k)))) D -> D.nx (σ.set i (some v)) H' := fun hk q => by
   obtain ⟨d', b, e, e2, rp⟩ := VR.slot R s vr hk
   subst e2
   rw [e] at q
   exact q _ _ ((R.more s).UA rp) ((Frm.grow s).trans uC)
  cases k with
  | fr =>
   obtain ⟨p, ds, rfl, rfl, c, e1, e2⟩ := vr
   have q := R.qd0 (i := i) s e1 e2 c
   exact h _ _ q.1 q.2
  | bo =>
   cases hsc : d.sc with
   | true =>
    refine plain (.inr hsc) ?_
    rw [if_pos hsc]
    cases d <;> first | exact h | cases hsc
   | false =>
    have h' : xf X.mg X.K E B H σ δ (.nx ((freeze δ).set i (.val d false))) D := by
     cases d <;> first | exact h | cases hsc
    refine h' _ _ ((R.more s).frz.UA ?_) ((Frm.grow s).trans (qdb.trans uC))
    exact Rp.weak vr fun a g => ⟨fun z => g (ub z), fun z => nomatch z⟩
  | sh =>
   refine plain (.inl fun z => nomatch z) ?_
   cases d <;> exact h
  | nw =>
   refine plain (.inl fun z => nomatch z) ?_
   cases d <;> exact h
theorem qea {i : Nat} {x : Str} {e : Expr} {r : RE} {pos' : Pos} (g : Gd X E) (hi : X.N[i]? = some x) (hx : Loc X.env.scope x) (he : PE X e (TEx X E r)) (hs : autoParam (swapsWith e (some (.Name x pos')) pos.line X.env = pure false) qm._auto_1) (hf : autoParam (X.fn x = true \/ X.env.scope.names.lookup x = some .local) Va._auto_1) :
  PS X (.Assign [.Name x pos'] e pos) (TSx X E (we i r)) := vK (VC g.nd hi hx he hs hf) fun _ _ _ h => qeI h
theorem xt {c : Expr} {a b : List Stmt} {t : RT} {ra rb : RS} (hc : PT X c (TTx X E t)) (ha : PSs X a (TSx X E ra)) (hb : PSs X b (TSx X E rb)) : PS X (.If c a b pos) (TSx X E (sIf t ra rb)) := by
 refine vK (qdB hc ha hb) fun D σ H ⟨B, δ, R, h⟩ => ⟨B, δ, R, ?_⟩
 unfold sIf at h
 cases hr : t δ with
 | er c => rw [hr] at h; exact Yu R h
 | no => rw [hr] at h; exact h
 | ok x =>
  rw [hr] at h
  intro H1 s1
  cases x with
  | true => exact ⟨B, δ, R.more s1, xf.later h (Frm.grow s1)⟩
  | false => exact ⟨B, δ, R.more s1, xf.later h (Frm.grow s1)⟩
theorem vF {e : Expr} {r : RE} (he : PE X e (TEx X E r)) : PS X (.Return (some e) pos) (TSx X E (v7 r)) := by
 refine vK (jE he) fun D σ H ⟨B, δ, R, h⟩ => ⟨B, freeze δ, R.frz, ?_⟩
 unfold v7 at h
 cases hr : r (freeze δ) with
 | er c => rw [hr] at h; exact Yu R h
 | no => rw [hr] at h; exact h
 | ok x =>
  rw [hr] at h
  obtain ⟨d, k⟩ := x
  intro v H' s vr
  have vr : VR X.mg X.K B H H' σ (freeze δ) k v d := vr
  have same := R.same.trans s
  have qap : d.sc = true -> RR X.mg X.K B.H0 H' false v d := fun c => by
   have e := (vr.rp R.frz).sc c
   rw [e]
   exact Rp.wL c
  cases k with
  | fr =>
   obtain ⟨p, ds, rfl, rfl, c, e1, e2⟩ := vr
   exact h _ H' same ⟨p, ds, rfl, rfl, c, R.same.free e1, e2⟩
  | nw =>
   have h' : xf X.mg X.K E B H σ δ (.rt d false) D := by cases d <;> exact h
   exact h' v H' same (Rp.weak vr fun a g => g.2)
  | sh =>
   have h' : xf X.mg X.K E B H σ δ (if d.sc = true then .rt d false else .no) D := by cases d <;> exact h
   cases c : d.sc with
   | true => rw [if_pos c] at h'; exact h' v H' same (qap c)
   | false => rw [if_neg (by rw [c]; decide)] at h'; exact h'.elim
  | bo =>
   have h' : xf X.mg X.K E B H σ δ (if d.sc = true then .rt d false else .no) D := by cases d <;> exact h
   cases c : d.sc with
   | true => rw [if_pos c] at h'; exact h' v H' same (qap c)
   | false => rw [if_neg (by rw [c]; decide)] at h'; exact h'.elim
theorem qc7 {i : Nat} {x : Str} {p : Pos} (hN : X.N[i]? = some x) (hv : Vis X.env.scope x) (hd : autoParam ((x == ("__debug__" : Str)) = false) qV._auto_1) (hcd : autoParam ((x == ("__classdict__" : Str)) = false) qV._auto_1) : PS X (.Return (some (.Name x p)) pos) (TSx X E (Qh i)) := by
 refine vK (jE (Q9 hN hv hd hcd)) fun D σ H ⟨B, δ, R, h⟩ => ?_
 unfold Qh at h
 cases hδ : δ[i]? with
 | none => rw [hδ] at h; exact h.elim
 | some s =>
  rw [hδ] at h
  cases s with
  | un => exact h.elim
  | own ds =>
   obtain ⟨c, q, e1, e2, _, e3⟩ := R.own i ds hδ
   exact ⟨_, e1, h _ H R.same ⟨q, ds, rfl, rfl, c, e2, e3⟩⟩
  | val d k =>
   obtain ⟨v, e1, r⟩ := R.val i d k hδ
   refine ⟨v, e1, ?_⟩
   dsimp only at h
   by_cases c : d.sc = true \/ k = true
   ·rw [if_pos c] at h
    refine h v H R.same ?_
    rcases c with c | c
    ·have e := r.sc c
     rw [e]
     exact Rp.wL c
    ·exact Rp.weak r fun a g => g.2 c
   ·rw [if_neg c] at h
    exact h.elim
theorem xN {x : Str} {C : Addr} {np cpos : Pos} (g : Gd X E) (hg : Gl X x) (hm : X.mg x = some (.ref C)) (hC : qR X.K C = true) (hd : autoParam ((x == ("__debug__" : Str)) = false) qV._auto_1) : PS X (.Raise (some (.Call (.Name x np) [] [] cpos)) none pos) (TSx X E (zR x)) :=
 vK (Yz g.calm g.acc hg hm hC hd) fun D σ H ⟨B, δ, R, h⟩ => h C H hm R.same
theorem qcD (n : Nat) (i : Int) : yh n i = ixN n i := rfl
noncomputable def Kp (fl : Bool) (B B' : Bs) (σ : St) (δ : Dl) (H1 : Hp) (σ' : St) (δ' : Dl) (H2 : Hp) : Prop :=
 B'.H0 = B.H0 /\ (∀ b o, H1 b = some o -> ¬ vn B σ δ b -> H2 b = some o /\ ¬ vn B' σ' δ' b) /\ (fl = false -> qw H1 H2)
theorem Kp.of {B : Bs} {σ σ' : St} {δ δ' : Dl} {H1 H2 : Hp} (f : Frm B σ δ H1 σ' δ' H2) : Kp true B B σ δ H1 σ' δ' H2 := ⟨rfl, f, fun z => nomatch z⟩
noncomputable def Tg.sets : Tg -> St -> St -> Prop
 | .one i, σ, σ2 => ∃ v, σ2 = σ.set i (some v)
 | .two i j, σ, σ2 => ∃ v w, σ2 = (σ.set i (some v)).set j (some w)
noncomputable def Walks (X : Cx) (B : Bs) (H1 : Hp) (σ : St) (δ : Dl) (g : TG) (tg : Tg) (J : It) (fl : Bool) (xs : List DK) : Prop :=
 (∀ (B' : Bs) (i : Nat) (x : DK) (σ' : St) (δ' δ2 : Dl) (H2 : Hp), xs[i]? = some x -> Rl X.mg X.K B' H2 σ' δ' -> Kp fl B B' σ δ H1 σ' δ' H2 -> tg.put x δ' = some δ2 ->
  J.go i H2 /\ ∀ v H3, J.yld i H2 v H3 -> ∀ Q : St -> Hp -> Prop, (∀ σ2 H4, Rl X.mg X.K B' H4 σ2 δ2 -> Frm B' σ' δ' H2 σ2 δ2 H4 -> qw H2 H4 -> tg.sets σ' σ2 -> Q σ2 H4) -> g v σ' H3 Q) /\
 ∀ (B' : Bs) (i : Nat) (σ' : St) (δ' : Dl) (H2 : Hp), xs.length <= i -> Rl X.mg X.K B' H2 σ' δ' -> Kp fl B B' σ δ H1 σ' δ' H2 -> J.stop i H2
noncomputable def tI (X : Cx) (E : XK) (g : TG) (tg : Tg) (src : RI) : TI := fun σ H R => ∃ B δ, Rl X.mg X.K B H σ δ /\ qk X.mg E H (src δ) fun x => ∀ J H1, qw H H1 -> Walks X B H1 σ δ g tg J x.1 x.2 -> R J H1
theorem X7 {tgE iter : Expr} {body : List Stmt} {g : TG} {tg : Tg} {src : RI} {rb : RS} (G : Gd X E) (hi : PI X tgE iter (tI X E g tg src)) (hg : PG X tgE g) (hb : PSs X body (TSx X E rb)) (hs : autoParam (∀ x, foldedSetIterable iter X.env x = pure x) yB._auto_1) :
  PS X (.For tgE iter body [] pos) (TSx X E (Xj tg src rb)) := by
 refine vK (qaj G.own G.calm hi hg hb hs) fun D σ H ⟨B, δ, R, h⟩ => ⟨B, δ, R, ?_⟩
 unfold Xj at h
 cases hr : src δ with
 | er c => rw [hr] at h; exact Yu R h
 | no => rw [hr] at h; exact h
 | ok x =>
  rw [hr] at h
  obtain ⟨fl, xs⟩ := x
  cases fl with
  | false => exact h.elim
  | true =>
   intro J H1 s1 W
   have h : xf X.mg X.K E B H σ δ (turns tg rb xs δ) D := h
   have h1 := xf.later h (Frm.grow (σ := σ) s1)
   refine ⟨fun i m σ' H' => m = xs.length - i /\ i <= xs.length /\ ∃ δ', Rl X.mg X.K B H' σ' δ' /\ Frm B σ δ H1 σ' δ' H' /\ xf X.mg X.K E B H' σ' δ' (turns tg rb (xs.drop i) δ') D, ⟨xs.length, by lia, Nat.zero_le _, δ, R.more s1, Frm.refl, h1⟩, ?_⟩
   rintro i m σ' H' ⟨rfl, hi, δ', R', f', h'⟩
   by_cases hlt : i < xs.length
   ·right
    have hx : xs[i]? = some xs[i] := List.getElem?_eq_getElem hlt
    rw [List.drop_eq_getElem_cons hlt] at h'
    unfold turns at h'
    cases hp : tg.put xs[i] δ' with
    | none => rw [hp] at h'; exact h'.elim
    | some δ2 =>
     rw [hp] at h'
     obtain ⟨go, yl⟩ := W.1 B i xs[i] σ' δ' δ2 H' hx R' (Kp.of f') hp
     refine ⟨go, fun σ2 H2 => i + 1 <= xs.length /\ ∃ δ3, Rl X.mg X.K B H2 σ2 δ3 /\ Frm B σ δ H1 σ2 δ3 H2 /\ xf X.mg X.K E B H2 σ2 δ3 (turns tg rb (xs.drop (i + 1)) δ3) D, fun σ2 H2 ⟨q1, δ3, q2, q3, q4⟩ => ⟨xs.length - (i + 1), by lia, rfl, q1, δ3, q2, q3, q4⟩, fun v H3 hy => ?_⟩
     refine yl v H3 hy _ fun σ2 H4 R2 f2 _ _ => ⟨B, δ2, R2, ?_⟩
     have f4 := f'.trans f2
     dsimp only at h'
     cases hb : rb δ2 with
     | nx δ3 => rw [hb] at h'; exact fun σ3 H5 R3 f3 => ⟨hlt, δ3, R3, f4.trans f3, xf.later h' (f2.trans f3)⟩
     | ct δ3 => rw [hb] at h'; exact fun σ3 H5 R3 f3 => ⟨hlt, δ3, R3, f4.trans f3, xf.later h' (f2.trans f3)⟩
     | bk δ3 => rw [hb] at h'; exact fun σ3 H5 R3 f3 => h' σ3 H5 R3 (f2.trans f3)
     | rt d k => rw [hb] at h'; exact h'
     | er c => rw [hb] at h'; exact h'
     | no => rw [hb] at h'; exact h'
   ·left
    have e : i = xs.length := by lia
    subst e
    rw [List.drop_length] at h'
    exact ⟨W.2 B _ σ' δ' H' (Nat.le_refl _) R' (Kp.of f'), h' σ' H' R' Frm.refl⟩
end
section
variable {mg : Str -> Option Value} {E : XK} {H : Hp} {α : Type} {d d' d2 : D} {k : α -> Prop}
theorem qfj {f : Int -> Rs α} (h : qk mg E H (match d with | .int i => f i | _ => .no) k) : ∃ i, d = .int i /\ qk mg E H (f i) k := by
 cases d with
 | int i => exact ⟨i, rfl, h⟩
 | _ => exact h.elim
theorem qff {f : Int -> Int -> Rs α} (h : qk mg E H (match d, d' with | .int i, .int j => f i j | _, _ => .no) k) : ∃ i j, d = .int i /\ d' = .int j /\ qk mg E H (f i j) k := by
 cases d with
 | int i =>
  cases d' with
  | int j => exact ⟨i, j, rfl, rfl, h⟩
  | _ => exact h.elim
 | _ => exact h.elim
theorem qeZ {f : List D -> List D -> Rs α} (h : qk mg E H (match d, d' with | .lst i, .lst j => f i j | _, _ => .no) k) : ∃ i j, d = .lst i /\ d' = .lst j /\ qk mg E H (f i j) k := by
 cases d with
 | lst i =>
  cases d' with
  | lst j => exact ⟨i, j, rfl, rfl, h⟩
  | _ => exact h.elim
 | _ => exact h.elim
theorem qfA {f : Int -> Int -> Int -> Rs α} (h : qk mg E H (match d, d', d2 with | .int i, .int j, .int c => f i j c | _, _, _ => .no) k) : ∃ i j c, d = .int i /\ d' = .int j /\ d2 = .int c /\ qk mg E H (f i j c) k := by
 cases d with
 | int i =>
  cases d' with
  | int j =>
   cases d2 with
   | int c => exact ⟨i, j, c, rfl, rfl, rfl, h⟩
   | _ => exact h.elim
  | _ => exact h.elim
 | _ => exact h.elim
end
section
variable {mg : Str -> Option Value} {K : PySem.W.Frag} {B : Bs} {H H1 H2 H' : Hp} {σ σ' : St} {δ δ' δ2 : Dl} {v : V} {d : D} {i j : Nat} {k : Kd}
theorem QX {fl : Bool} {B' : Bs} (f : Kp fl B B' σ δ H1 σ' δ' H2) (hk : d.sc = true \/ k ≠ .bo) (r : Rp mg K (Gk B σ δ k) H1 v d) : Rp mg K (Gk B' σ' δ' k) H2 v d := by
 rcases hk with c | hk
 ·rw [r.sc c]
  exact Rp.wL c
 obtain ⟨f0, f2, f3⟩ := f
 refine Rp.mono (fun a g => ?_) d v (Rp.there _ _ r)
 obtain ⟨g, n⟩ := g
 have viaOwn : ¬ vn B σ δ a -> ¬ vn B' σ' δ' a /\ ∀ o, H1 a = some o -> H2 a = some o := fun no => by
  cases e : H1 a with
  | none => exact absurd e n
  | some o => exact ⟨(f2 a o e no).2, fun o' e' => by cases e'; exact (f2 a o e no).1⟩
 cases k with
 | bo => exact absurd rfl hk
 | sh => exact viaOwn g
 | nw => exact ⟨⟨(viaOwn g.1).1, by rw [f0]; exact g.2⟩, (viaOwn g.1).2⟩
 | fr => exact ⟨⟨(viaOwn g.1).1, by rw [f0]; exact g.2⟩, (viaOwn g.1).2⟩
theorem u4 (h : put i (d, k) δ = some δ') : d.sc = true \/ k ≠ .bo := by
 cases k with
 | bo =>
  have h2 : (if d.sc = true then some (δ.set i (.val d true)) else none) = some δ' := h
  by_cases c : d.sc = true
  ·exact .inl c
  ·rw [if_neg c] at h2
   cases h2
 | sh => exact .inr fun z => nomatch z
 | nw => exact .inr fun z => nomatch z
 | fr => exact .inr fun z => nomatch z
theorem qal (f : Frm B σ δ H1 σ' δ' H2) (hk : d.sc = true \/ k ≠ .bo) (r : Rp mg K (Gk B σ δ k) H1 v d) : Rp mg K (Gk B σ' δ' k) H2 v d := QX (Kp.of f) hk r
theorem jZ (R : Rl mg K B H σ δ) (r : Rp mg K (Gk B σ δ k) H v d) (h : put i (d, k) δ = some δ') : Rl mg K B H (σ.set i (some v)) δ' /\ Frm B σ δ H (σ.set i (some v)) δ' H := by
 have fin : ∀ b : Bool, δ' = δ.set i (.val d b) -> Rp mg K (fun a => ¬ vn B σ δ a /\ (b = true -> B.H0 a = none)) H v d -> Rl mg K B H (σ.set i (some v)) δ' /\ Frm B σ δ H (σ.set i (some v)) δ' H := fun b e q => by
  rw [e]
  exact ⟨R.UA q, uC⟩
 cases c : d.sc with
 | true =>
  have e := r.sc c
  subst e
  refine fin true ?_ (Rp.wL c)
  cases k with
  | bo =>
   have h2 : (if d.sc = true then some (δ.set i (.val d true)) else none) = some δ' := h
   rw [if_pos c] at h2
   exact (Option.some.inj h2).symm
  | sh =>
   have h2 : some (δ.set i (y6 (d, if d.sc = true then .nw else .sh))) = some δ' := h
   rw [if_pos c] at h2
   exact (Option.some.inj h2).symm
  | nw =>
   have h2 : some (δ.set i (y6 (d, if d.sc = true then .nw else .nw))) = some δ' := h
   rw [if_pos c] at h2
   exact (Option.some.inj h2).symm
  | fr =>
   have h2 : some (δ.set i (y6 (d, if d.sc = true then .nw else .fr))) = some δ' := h
   rw [if_pos c] at h2
   exact (Option.some.inj h2).symm
 | false =>
  have cn : ¬ (d.sc = true) := by rw [c]; decide
  cases k with
  | bo =>
   have h2 : (if d.sc = true then some (δ.set i (.val d true)) else none) = some δ' := h
   rw [if_neg cn] at h2
   cases h2
  | sh =>
   have h2 : some (δ.set i (y6 (d, if d.sc = true then .nw else .sh))) = some δ' := h
   rw [if_neg cn] at h2
   exact fin false (Option.some.inj h2).symm (r.weak fun a g => ⟨g, fun z => nomatch z⟩)
  | nw =>
   have h2 : some (δ.set i (y6 (d, if d.sc = true then .nw else .nw))) = some δ' := h
   rw [if_neg cn] at h2
   exact fin true (Option.some.inj h2).symm (r.weak fun a g => ⟨g.1, fun _ => g.2⟩)
  | fr =>
   have h2 : some (δ.set i (y6 (d, if d.sc = true then .nw else .fr))) = some δ' := h
   rw [if_neg cn] at h2
   exact fin true (Option.some.inj h2).symm (r.weak fun a g => ⟨g.1, fun _ => g.2⟩)
end
section
variable {X : Cx} {E : XK} {pos : Pos} {tgE : Expr}
theorem zW {tg iter : Expr} {w w' : TI} (h : PI X tg iter w) (i : ∀ σ H R, w' σ H R -> w σ H R) : PI X tg iter w' := fun pins s σ H R I hw => h pins s σ H R I (i σ H R hw)
theorem Ze {k : Kd} (h : k.safe = true) : k ≠ .bo := fun z => by rw [z] at h; cases h
theorem JU {k : Kd} (h : k ≠ .bo) : k.low .nw ≠ .bo := by cases k <;> first | exact absurd rfl h | exact fun z => nomatch z
theorem qbq {B : Bs} {σ : St} {δ : Dl} {k : Kd} {a : Addr} (h : k ≠ .bo) (g : Gk B σ δ k a) : ¬ vn B σ δ a := by
 cases k with
 | bo => exact absurd rfl h
 | sh => exact g
 | nw => exact g.1
 | fr => exact g.1
theorem uE {mg : Str -> Option Value} {K : PySem.W.Frag} {B : Bs} {H1 : Hp} {σ : St} {δ : Dl} {k : Kd} {v : V} {ds : List D} {fl : Bool} (hk : fl = true -> k ≠ .bo) (r : Rp mg K (Gk B σ δ k) H1 v (.lst ds)) : ∃ a vs, v = .ref a /\ SqL K H1 a vs /\ qt mg K (Gk B σ δ k) H1 vs ds /\
  ∀ (B' : Bs) (H2 : Hp) (σ' : St) (δ' : Dl), Kp fl B B' σ δ H1 σ' δ' H2 -> SqL K H2 a vs := by
 cases r with
 | lst g s q =>
  refine ⟨_, _, rfl, .inl s, q, fun B' H2 σ' δ' f => .inl (qbd s fun o e => ?_)⟩
  cases fl with
  | true => exact (f.2.1 _ o e (qbq (hk rfl) g)).1
  | false => exact f.2.2 rfl _ o e
 | lstK s q => exact ⟨_, _, rfl, s _, q, fun B' H2 _ _ _ => s H2⟩
theorem x8 {i : Nat} {iter : Expr} {r : RE} (hl : PE X iter (TEx X E r)) : PI X tgE iter (tI X E (wz i) (.one i) (iOf r)) := by
 refine zW (qcq hl) fun σ H R ⟨B, δ, R0, h⟩ => ⟨B, δ, R0, ?_⟩
 refine qk.imp (qk.bind h) fun x h1 v H1 s1 vr => ?_
 obtain ⟨d, k⟩ := x
 have vr : VR X.mg X.K B H H1 σ δ k v d := vr
 cases d with
 | lst ds =>
  have h2 := h1
  have hk : k.safe = true -> k.low .nw ≠ .bo := fun z => JU (Ze z)
  have rp := VR.low R0 .nw vr
  rw [VR.gk (low_ne _ _)] at rp
  obtain ⟨a, vs, rfl, sq, ra, st⟩ := uE (fl := k.safe) hk rp
  refine ⟨a, rfl, ⟨vs, sq⟩, h2 (Itl X.K a) H1 s1 ⟨fun B' n x σ' δ' δ2 H2 hx R' f hp => ?_, fun B' n σ' δ' H2 hn R' f => ⟨vs, st B' H2 σ' δ' f, by rw [ra.len]; simpa using hn⟩⟩⟩
  have sq2 := st B' H2 σ' δ' f
  rw [List.getElem?_map] at hx
  cases hd : ds[n]? with
  | none => rw [hd] at hx; cases hx
  | some d =>
   rw [hd] at hx
   cases hx
   obtain ⟨w, hw, rw'⟩ := ra.getD hd
   refine ⟨⟨vs, w, sq2, hw⟩, fun u H3 hy Q hQ => ?_⟩
   obtain ⟨rfl, hu⟩ := hy
   have e := hu vs sq2
   rw [hw] at e
   cases e
   have q := jZ R' (QX f (u4 (show put i (d, k.low .nw) δ' = some δ2 from hp)) rw') hp
   exact hQ _ _ q.1 q.2 qw.refl ⟨_, rfl⟩
 | _ => exact h1.elim
theorem WR {i : Nat} {a : Expr} {r : RE} {p : Pos} (hg : Gl X "range") (hm : X.mg "range" = none) (ha : PE X a (TEx X E r)) (hs : autoParam (starEach [a] X.env = [(false, eval a X.env)]) qm._auto_1) : PI X tgE (.Call (.Name "range" p) [a] [] pos) (tI X E (wz i) (.one i) (vU r)) := by
 refine zW (WM hg hm (vH ha zp hs) hs) fun σ H R ⟨B, δ, R0, h⟩ => ⟨B, δ, R0, ?_⟩
 refine qk.imp (qk.bind h) fun x h1 v H1 s1 vr => ?_
 obtain ⟨d, k⟩ := x
 have vr : VR X.mg X.K B H H1 σ δ k v d := vr
 obtain ⟨z, e, g9⟩ := qfj h1
 clear h1
 subst e
 by_cases c : -1000000 < z /\ z < 1000000
 ·rw [if_pos c] at g9
  have ev := qM R0 vr
  subst ev
  refine ⟨z, rfl, by lia, by lia, g9 _ H1 s1 ⟨fun B' n x σ' δ' δ2 H2 hx R' f hp => ?_, fun B' n σ' δ' H2 hn R' f => (show z.toNat <= n by rw [List.length_map, List.length_range] at hn; exact hn)⟩⟩
  rw [List.getElem?_map] at hx
  cases hd : (List.range z.toNat)[n]? with
  | none => rw [hd] at hx; cases hx
  | some m =>
   rw [hd] at hx
   cases hx
   obtain ⟨hlt, e⟩ := List.getElem?_eq_some_iff.mp hd
   rw [List.length_range] at hlt
   rw [List.getElem_range] at e
   subst e
   refine ⟨hlt, fun u H3 hy Q hQ => ?_⟩
   obtain ⟨rfl, rfl⟩ := hy
   have hp : put i (D.int (n : Nat), .nw) δ' = some δ2 := hp
   have q := jZ (v := .int (0 + (n : Nat))) R' (by rw [Int.zero_add]; exact Rp.int _) hp
   exact hQ _ _ q.1 q.2 qw.refl ⟨_, rfl⟩
 ·rw [if_neg c] at g9
  exact g9.elim
theorem J2 {i : Nat} {a b : Expr} {r q : RE} {p : Pos} (hg : Gl X "range") (hm : X.mg "range" = none) (ha : PE X a (TEx X E r)) (hb : PE X b (TEx X E q)) (hs : autoParam (starEach [a, b] X.env = [(false, eval a X.env), (false, eval b X.env)]) qm._auto_1) (hs2 : autoParam (starEach [b] X.env = [(false, eval b X.env)]) qm._auto_1) :
  PI X tgE (.Call (.Name "range" p) [a, b] [] pos) (tI X E (wz i) (.one i) (wW r q)) := by
 refine zW (WH hg hm (vH ha (vH hb zp hs2) (by rw [hs, hs2])) hs hs2) fun σ H R ⟨B, δ, R0, h⟩ => ⟨B, δ, R0, ?_⟩
 refine qk.imp (qk.bind h) fun x h1 v H1 s1 vr => ⟨B, δ, R0.more s1, ?_⟩
 refine qk.imp (qk.more (qk.bind h1) s1) fun y h2 w H2 s2 vw => ?_
 obtain ⟨d, k⟩ := x
 obtain ⟨d', k'⟩ := y
 have vr : VR X.mg X.K B H H1 σ δ k v d := vr
 have vw : VR X.mg X.K B H1 H2 σ δ k' w d' := vw
 obtain ⟨z, y, e, e2, g9⟩ := qff h2
 clear h2
 subst e e2
 by_cases c : (-1000000 < z /\ z < 1000000) /\ -1000000 < y /\ y < 1000000
 ·rw [if_pos c] at g9
  have ev := qM R0 vr
  subst ev
  have ew := qM (R0.more s1) vw
  subst ew
  refine ⟨z, y, rfl, by lia, g9 _ H2 (s1.trans s2) ⟨fun B' n x σ' δ' δ2 H2 hx R' f hp => ?_, fun B' n σ' δ' H2 hn R' f => (show (y - z).toNat <= n by rw [List.length_map, List.length_range] at hn; exact hn)⟩⟩
  rw [List.getElem?_map] at hx
  cases hd : (List.range (y - z).toNat)[n]? with
  | none => rw [hd] at hx; cases hx
  | some m =>
   rw [hd] at hx
   cases hx
   obtain ⟨hlt, e⟩ := List.getElem?_eq_some_iff.mp hd
   rw [List.length_range] at hlt
   rw [List.getElem_range] at e
   subst e
   refine ⟨hlt, fun u H3 hy Q hQ => ?_⟩
   obtain ⟨rfl, rfl⟩ := hy
   have hp : put i (D.int (z + (n : Nat)), .nw) δ' = some δ2 := hp
   have q := jZ (v := .int (z + (n : Nat))) R' (Rp.int _) hp
   exact hQ _ _ q.1 q.2 qw.refl ⟨_, rfl⟩
 ·rw [if_neg c] at g9
  exact g9.elim
theorem qax {K : PySem.W.Frag} {mg : Str -> Option Value} {B B' : Bs} {H1 H2 : Hp} {σ σ' : St} {δ δ' δ2 : Dl} {i j : Nat} {k : Kd} {x y : V} {dx dy : D} {T : Addr} {fl : Bool} (R' : Rl mg K B' H2 σ' δ') (f : Kp fl B B' σ δ H1 σ' δ' H2) (rx : Rp mg K (Gk B σ δ k) H1 x dx) (ry : Rp mg K (Gk B σ δ k) H1 y dy) (hT : H2 T = none)
  (hp : (Tg.two i j).put (.tup [dx, dy], k) δ' = some δ2) (Q : St -> Hp -> Prop) (hQ : ∀ σ2 H4, Rl mg K B' H4 σ2 δ2 -> Frm B' σ' δ' H2 σ2 δ2 H4 -> qw H2 H4 -> (Tg.two i j).sets σ' σ2 -> Q σ2 H4) :
  qcG K 2 (V8 (wz i) (V8 (wz j) qb3)) (.ref T) σ' (upd H2 T (.tup [x, y])) Q := by
 have s2 := vt (o := .tup [x, y]) hT
 have hp : (put i (dx, k) δ').bind (put j (dy, k)) = some δ2 := hp
 cases h1 : put i (dx, k) δ' with
 | none => rw [h1] at hp; cases hp
 | some δ1 =>
  rw [h1] at hp
  have hp : put j (dy, k) δ1 = some δ2 := hp
  have q1 := jZ (R'.more s2) ((QX f (u4 h1) rx).same s2) h1
  have ry2 : Rp mg K (Gk B' (σ'.set i (some x)) δ1 k) (upd H2 T (.tup [x, y])) y dy := qal q1.2 (u4 hp) ((QX f (u4 hp) ry).same s2)
  have q2 := jZ q1.1 ry2 hp
  refine ⟨T, [x, y], rfl, SqT.of qJ, rfl, x, [y], rfl, y, [], rfl, rfl, ?_⟩
  exact hQ _ _ q2.1 ((Frm.grow s2).trans (q1.2.trans q2.2)) s2 ⟨_, _, rfl⟩
theorem qaY {i j : Nat} {e e2 : Expr} {r q : RE} {p tpos : Pos} {elts : List Expr} {kk : Nat} (hg : Gl X "zip") (hm : X.mg "zip" = none) (ha : PE X e (TEx X E r)) (hb : PE X e2 (TEx X E q))
  (hs : autoParam (starEach [e, e2] X.env = (false, eval e X.env) :: starEach [e2] X.env) qm._auto_1) (hs2 : autoParam (starEach [e2] X.env = (false, eval e2 X.env) :: starEach [] X.env) qm._auto_1) (hpl : autoParam ((backTo pos (starEach [e2] X.env)).any (·.1) = false) qm._auto_1) :
  PI X (.Tuple elts kk tpos) (.Call (.Name "zip" p) [e, e2] [] pos) (tI X E (qcG X.K 2 (V8 (wz i) (V8 (wz j) qb3))) (.two i j) (XR r q)) := by
 refine zW (qeE hg hm (vH ha (vH hb zp hs2) hs) hs hpl) fun σ H R ⟨B, δ, R0, h⟩ => ⟨B, δ, R0, ?_⟩
 refine qk.imp (qk.bind h) fun x h1 v H1 s1 vr => ⟨B, δ, R0.more s1, ?_⟩
 refine qk.imp (qk.more (qk.bind h1) s1) fun y h2 w H2 s2 vw => ?_
 obtain ⟨d, k⟩ := x
 obtain ⟨d', k'⟩ := y
 have vr : VR X.mg X.K B H H1 σ δ k v d := vr
 have vw : VR X.mg X.K B H1 H2 σ δ k' w d' := vw
 obtain ⟨xs, ys, e, e2, g9⟩ := qeZ h2
 clear h2
 subst e e2
 have h3 := g9
 have hkk : (k.safe && k'.safe) = true -> k.low k' ≠ .bo := fun z => by
  rw [Bool.and_eq_true] at z
  have hk := Ze z.1
  have hk' := Ze z.2
  cases k <;> cases k' <;> first | exact absurd rfl hk | exact absurd rfl hk' | exact fun z => nomatch z
 have rx := VR.low R0 k' (vr.later s2)
 have ry := VR.qft (R0.more s1) k vw
 rw [VR.gk (low_ne _ _)] at rx ry
 obtain ⟨a, vs, rfl, sqa, ra, sta⟩ := uE (fl := k.safe && k'.safe) hkk rx
 obtain ⟨b, us, rfl, sqb, rb, stb⟩ := uE (fl := k.safe && k'.safe) hkk ry
 refine ⟨a, b, vs, us, rfl, sqa, sqb, h3 (Itz X.K a b) H2 (s1.trans s2) ⟨fun B' n x σ' δ' δ2 H3 hx R' f hp => ?_, fun B' n σ' δ' H3 hn R' f => ⟨vs, us, sta B' H3 σ' δ' f, stb B' H3 σ' δ' f, ?_⟩⟩⟩
 ·rw [List.getElem?_map] at hx
  cases hd : (xs.zip ys)[n]? with
  | none => rw [hd] at hx; cases hx
  | some pr =>
   rw [hd] at hx
   cases hx
   rw [List.getElem?_zip_eq_some] at hd
   obtain ⟨x, hx, rx'⟩ := ra.getD hd.1
   obtain ⟨y, hy, ry'⟩ := rb.getD hd.2
   have sa := sta B' H3 σ' δ' f
   have sb := stb B' H3 σ' δ' f
   refine ⟨⟨vs, us, x, y, sa, sb, hx, hy⟩, fun u H4 hyl Q hQ => ?_⟩
   obtain ⟨T, x2, y2, rfl, hT, rfl, e1, e2⟩ := hyl
   have e1 := e1 vs sa
   have e2 := e2 us sb
   rw [hx] at e1
   rw [hy] at e2
   cases e1
   cases e2
   exact qax R' f rx' ry' hT hp Q hQ
 ·rw [List.length_map, List.length_zip] at hn
  rw [ra.len, rb.len]
  lia
end
section
variable {X : Cx} {E : XK} {pos : Pos}
noncomputable def spD (mg : Str -> Option Value) (K : PySem.W.Frag) (n : Nat) (g : Fn) : Sp := fun vs H Q E => ∃ ds : List D, ds.length = n /\ qt mg K (fun _ => True) H vs ds /\ qk mg E H (g ds) fun y => ∀ v H', qw H H' -> RR mg K H H' y.2 v y.1 -> Q v H'
noncomputable def Fd (P : Program) (w : World) (K : PySem.W.Frag) (mg : Str -> Option Value) (base : Heap) (k : Nat) (x : Str) (n : Nat) (g : Fn) : Prop :=
 ∃ (f : Addr) (fd : FuncData) (ps : List Str), y4 P w K mg base (CX1 P w) k f fd ps (spD mg K n g) /\ mg x = some (.ref f) /\ PySem.W.keepIn K (.ref f) = true /\ Binds K fd ps []
theorem qct {r : RA} {g : Fn} {n : Nat} {σ : St} {H : Hp} {Q : VK} (hn : ∀ δ xs, r δ = .ok xs -> xs.length = n) (h : TEx X E (qg g r) σ H Q) : qbk (spD X.mg X.K n g) [] E (TAx X E r) σ H Q := by
 obtain ⟨B, δ, R, h⟩ := h
 refine ⟨B, δ, R, ?_⟩
 have e : ∀ xs, r δ = .ok xs -> xs.length = n := fun xs => hn δ xs
 cases hr : r δ with
 | er c =>
  unfold qg at h
  rw [hr] at h
  exact h
 | no =>
  unfold qg at h
  rw [hr] at h
  exact h
 | ok xs =>
  unfold qg at h
  rw [hr] at h
  intro vs H1 s1 vrs
  refine ⟨xs.map (·.1), by rw [List.length_map]; exact e xs hr, by rw [List.append_nil]; exact vrs.rp R, ?_⟩
  refine qk.imp (qk.more (qk.bind h) s1) fun y q v H2 s2 rr => ?_
  refine q v H2 (s1.trans s2) ?_
  show VR _ _ _ _ _ _ _ (kB y.2) _ _
  have R1 := R.more s1
  cases hb : y.2 with
  | true =>
   rw [hb] at rr
   obtain ⟨p, ds, a, b, c, e1, e2⟩ := rr
   exact ⟨p, ds, a, b, c, s1.free e1, e2⟩
  | false =>
   rw [hb] at rr
   exact Rp.weak rr fun a g => ⟨R1.fresh g, R1.same.free g⟩
inductive J3 : RA -> Nat -> Prop
 | nil : J3 qi 0
 | cons {r : RE} {rr : RA} {n : Nat} : J3 rr n -> J3 (qc r rr) (n + 1)
theorem J3.is {r : RA} {n : Nat} (h : J3 r n) : ∀ δ xs, r δ = .ok xs -> xs.length = n := by
 induction h with
 | nil => intro δ xs e; cases e; rfl
 | @cons r rr n _ ih =>
  intro δ xs e
  unfold qc at e
  cases h1 : r δ with
  | er c => rw [h1] at e; cases e
  | no => rw [h1] at e; cases e
  | ok x =>
   rw [h1] at e
   cases h2 : rr δ with
   | er c => rw [Rs.ve, h2] at e; cases e
   | no => rw [Rs.ve, h2] at e; cases e
   | ok ys =>
    rw [Rs.ve, h2] at e
    cases e
    rw [List.length_cons, ih δ ys h2]
theorem qp {x : Str} {p : Pos} {e : Expr} {es : List Expr} {r : RA} {g : Fn} {n k : Nat} (acc : Acc X E) (F : Fd X.prog X.w X.K X.mg X.base k x n g) (hr : wG k X.A) (hg : Gl X x) (hn : J3 r n) (ha : PA X (e :: es) (TAx X E r))
  (hdb : autoParam ((x == ("__debug__" : Str)) = false) qV._auto_1) (he : autoParam (starEach (e :: es) X.env = (false, eval e X.env) :: starEach es X.env) qm._auto_1) (hpl : autoParam ((backTo pos (starEach es X.env)).any (·.1) = false) qm._auto_1) :
  PE X (.Call (.Name x p) (e :: es) [] pos) (TEx X E (qg g r)) := by
 obtain ⟨f, fd, ps, F, hm, hk, hb⟩ := F
 exact qZ (UM F hr hg hm hk hb .nil (xR acc) ha hdb he hpl) fun σ H Q h => qct hn.is h
noncomputable def Vj (X : Cx) (f : List DK -> Rs DK) (rr : List V -> Hp -> VK -> Prop) : Prop := ∀ (B : Bs) (H H' : Hp) (σ : St) (δ : Dl) (vs : List V) (xs : List DK) (Q : VK) (E : XK), Rl X.mg X.K B H σ δ -> qw H H' -> VRs X.mg X.K B H H' σ δ vs xs -> Fin X.mg X.K E B H' σ δ (f xs) Q -> rr vs H' Q
theorem wZ {e : Expr} {r : RA} {f : List DK -> Rs DK} {rr : List V -> Hp -> VK -> Prop} (h : PE X e (tCB rr (TAx X E r))) (F : Vj X f rr) : PE X e (TEx X E (vB f r)) :=
 qZ h fun σ H Q ⟨B, δ, R, h⟩ => jM R h fun xs vs H1 s1 vrs h1 => F B H H1 σ δ vs xs Q E R s1 vrs h1
theorem J9 {mg : Str -> Option Value} {K : PySem.W.Frag} {B : Bs} {H H' : Hp} {σ : St} {δ : Dl} {vs : List V} {x : DK} (h : VRs mg K B H H' σ δ vs [x]) : ∃ v, vs = [v] /\ VR mg K B H H' σ δ x.2 v x.1 := by
 cases h with
 | cons a b => cases b; exact ⟨_, rfl, a⟩
theorem qf3 {mg : Str -> Option Value} {K : PySem.W.Frag} {B : Bs} {H H' : Hp} {σ : St} {δ : Dl} {vs : List V} {x y : DK} (h : VRs mg K B H H' σ δ vs [x, y]) : ∃ v w, vs = [v, w] /\ VR mg K B H H' σ δ x.2 v x.1 /\ VR mg K B H H' σ δ y.2 w y.1 := by
 cases h with
 | cons a b => cases b with | cons c d => cases d; exact ⟨_, _, rfl, a, c⟩
theorem yf : Vj X wV (fun xs H Q => ∃ p ys, xs = [.ref p] /\ (SqL X.K H p ys \/ SqT X.K H p ys) /\ Q (.int ys.length) H) := by
 intro B H H' σ δ vs xs Q E R s vr h
 match xs, vr, h with
 | [(.lst l, k)], vr, h =>
  obtain ⟨v, rfl, r⟩ := J9 vr
  obtain ⟨a, us, rfl, q, g⟩ := VR.items R r
  exact ⟨a, us, rfl, .inl q, by rw [g.len]; exact h _ H' qw.refl (VR.int _)⟩
 | [(.tup l, k)], vr, h =>
  obtain ⟨v, rfl, r⟩ := J9 vr
  obtain ⟨a, us, rfl, q, g⟩ := VR.XB R r
  exact ⟨a, us, rfl, .inr q, by rw [g.len]; exact h _ H' qw.refl (VR.int _)⟩
 | [], _, h => exact h.elim
 | [(.int _, _)], _, h => exact h.elim
 | [(.bl _, _)], _, h => exact h.elim
 | [(.non, _)], _, h => exact h.elim
 | [(.fn _, _)], _, h => exact h.elim
 | [(.obj _ _ _, _)], _, h => exact h.elim
 | (.lst _, _) :: _ :: _, _, h => exact h.elim
 | (.tup _, _) :: _ :: _, _, h => exact h.elim
 | (.int _, _) :: _ :: _, _, h => exact h.elim
 | (.bl _, _) :: _ :: _, _, h => exact h.elim
 | (.non, _) :: _ :: _, _, h => exact h.elim
 | (.fn _, _) :: _ :: _, _, h => exact h.elim
 | (.obj _ _ _, _) :: _ :: _, _, h => exact h.elim
theorem qen : Vj X qet (fun xs H Q => ∃ i, xs = [.int i] /\ Q (.int (if i < 0 then -i else i)) H) := by
 intro B H H' σ δ vs xs Q E R s vr h
 match xs, vr, h with
 | [(.int i, k)], vr, h =>
  obtain ⟨v, rfl, r⟩ := J9 vr
  exact ⟨i, by rw [qM R r], h _ H' qw.refl (VR.int _)⟩
 | [], _, h => exact h.elim
 | [(.lst _, _)], _, h => exact h.elim
 | [(.tup _, _)], _, h => exact h.elim
 | [(.bl _, _)], _, h => exact h.elim
 | [(.non, _)], _, h => exact h.elim
 | [(.fn _, _)], _, h => exact h.elim
 | [(.obj _ _ _, _)], _, h => exact h.elim
 | (.lst _, _) :: _ :: _, _, h => exact h.elim
 | (.tup _, _) :: _ :: _, _, h => exact h.elim
 | (.int _, _) :: _ :: _, _, h => exact h.elim
 | (.bl _, _) :: _ :: _, _, h => exact h.elim
 | (.non, _) :: _ :: _, _, h => exact h.elim
 | (.fn _, _) :: _ :: _, _, h => exact h.elim
 | (.obj _ _ _, _) :: _ :: _, _, h => exact h.elim
theorem qbY {f : List DK -> Rs DK} {g : Int -> Int -> Int} (h1 : ∀ i j k l, f [(.int i, k), (.int j, l)] = .ok (.int (g i j), .nw)) (h2 : ∀ xs, (∀ i j k l, xs ≠ [(.int i, k), (.int j, l)]) -> f xs = .no) : Vj X f (fun xs H Q => ∃ i j, xs = [.int i, .int j] /\ Q (.int (g i j)) H) := by
 intro B H H' σ δ vs xs Q E R s vr h
 by_cases c : ∃ i j k l, xs = [(.int i, k), (.int j, l)]
 ·obtain ⟨i, j, k, l, rfl⟩ := c
  obtain ⟨v, w, rfl, r1, r2⟩ := qf3 vr
  rw [h1] at h
  exact ⟨i, j, by rw [qM R r1, qM R r2], h _ H' qw.refl (VR.int _)⟩
 ·rw [h2 xs fun i j k l e => c ⟨i, j, k, l, e⟩] at h
  exact h.elim
theorem qaL {f : List DK -> Rs DK} {xs : List DK} (h0 : f [] = .no) (h1 : ∀ x, f [x] = .no) (h2 : ∀ x y, (∀ i j k l, [x, y] ≠ [(.int i, k), (.int j, l)]) -> f [x, y] = .no) (h3 : ∀ x y z r, f (x :: y :: z :: r) = .no) (h : ∀ i j k l, xs ≠ [(.int i, k), (.int j, l)]) : f xs = .no := by
 match xs, h with
 | [], _ => exact h0
 | [x], _ => exact h1 x
 | [x, y], h => exact h2 x y h
 | x :: y :: z :: r, _ => exact h3 x y z r
theorem qbM : Vj X XW (fun xs H Q => ∃ i j, xs = [.int i, .int j] /\ Q (.int (if j > i then j else i)) H) :=
 qbY (fun _ _ _ _ => rfl) fun xs h => qaL rfl (fun ⟨x, k⟩ => by cases x <;> rfl) (fun ⟨x, k⟩ ⟨y, l⟩ h => by cases x <;> cases y <;> first | rfl | exact absurd rfl (h _ _ _ _)) (fun ⟨x, k⟩ ⟨y, l⟩ z r => by cases x <;> cases y <;> rfl) h
theorem qeC : Vj X qex (fun xs H Q => ∃ i j, xs = [.int i, .int j] /\ Q (.int (if j < i then j else i)) H) :=
 qbY (fun _ _ _ _ => rfl) fun xs h => qaL rfl (fun ⟨x, k⟩ => by cases x <;> rfl) (fun ⟨x, k⟩ ⟨y, l⟩ h => by cases x <;> cases y <;> first | rfl | exact absurd rfl (h _ _ _ _)) (fun ⟨x, k⟩ ⟨y, l⟩ z r => by cases x <;> cases y <;> rfl) h
end
section
variable {X : Cx} {E : XK} {pos : Pos}
theorem qab {vs : List V} {us : List Value} (h : Vals vs us) (js : List Nat) : Vals (js.filterMap (vs[·]?)) (js.filterMap (us[·]?)) := by
 induction js with
 | nil => exact .nil
 | cons j js ih =>
  cases e : vs[j]? with
  | none => rw [List.filterMap_cons, List.filterMap_cons]; simp only [e, h.none_of e]; exact ih
  | some v =>
   obtain ⟨u, e2, r⟩ := h.get e
   rw [List.filterMap_cons, List.filterMap_cons]
   simp only [e, e2]
   exact .cons r ih
theorem qcR {mg : Str -> Option Value} {K : PySem.W.Frag} {G : Addr -> Prop} {H : Hp} {vs : List V} {ds : List D} (h : qt mg K G H vs ds) (js : List Nat) : qt mg K G H (js.filterMap (vs[·]?)) (js.filterMap (ds[·]?)) := by
 induction js with
 | nil => exact .nil
 | cons j js ih =>
  cases e : vs[j]? with
  | none =>
   have e2 : ds[j]? = none := by
    rw [List.getElem?_eq_none_iff] at e ⊢
    rw [<- h.len]
    exact e
   rw [List.filterMap_cons, List.filterMap_cons]; simp only [e, e2]; exact ih
  | some v =>
   obtain ⟨d, e2, r⟩ := h.get e
   rw [List.filterMap_cons, List.filterMap_cons]
   simp only [e, e2]
   exact .cons r ih
theorem qda {α : Type} (xs : List α) (lo hi st : Option Int) (h0 : st ≠ some 0) : (pick xs lo hi st).length <= xs.length := by
 have e : ∀ {β : Type} (f : α -> β) , ((pick xs lo hi st).map f) = pick (xs.map f) lo hi st := fun {β} f => by
  unfold pick
  rw [List.length_map, List.map_filterMap]
  congr 1
  funext j
  rw [List.getElem?_map]
 have q := PySem.slicePick_size_le (xs.map fun _ => Value.none).toArray lo hi st
 have e2 : (slicePick (xs.map fun _ => Value.none).toArray lo hi st).size = (pick xs lo hi st).length := by
  rw [<- List.length_map (f := fun _ => Value.none), e (fun _ => Value.none)]
  unfold slicePick pick
  simp
 rw [e2] at q
 simpa using q
noncomputable def qf1 (K : PySem.W.Frag) : V -> Option Int -> Option Int -> Option Int -> Hp -> VK -> Prop := fun x lo hi st H Q => ∃ a xs, x = .ref a /\ SqL K H a xs /\ st ≠ some 0 /\ ∀ p, H p = none -> Q (.ref p) (upd H p (.lst (pick xs lo hi st)))
noncomputable def qfM (K : PySem.W.Frag) (te : TE) (tl th ts : TO) : TE := fun σ H Q => te σ H fun x H1 => tl σ H1 fun l H2 => th σ H2 fun u H3 => ts σ H3 fun st H4 => qf1 K x l u st H4 Q
theorem JA {e : Expr} {te : TE} {lo hi st : Option Expr} {tl th ts : TO} {p2 : Pos} (he : PE X e te) (hl : PO X lo tl) (hu : PO X hi th) (hst : PO X st ts) : PE X (.Subscript e (.Slice lo hi st p2) pos) (qfM X.K te tl th ts) := by
 intro pins s σ H Q I h
 refine Subscript_ (thn (he pins s σ H _ I h) fun v s1 ⟨x, H1, I1, r1, q1⟩ => ?_)
 refine wpAny_Slice (thn (hl pins s1 σ H1 _ I1 q1) fun vl s2 ⟨l, H2, I2, pl, q2⟩ => thn (hu pins s2 σ H2 _ I2 q2) fun vu s3 ⟨u, H3, I3, pu, q3⟩ => thn (hst pins s3 σ H3 _ I3 q3) fun vk s4 ⟨k, H4, I4, pk, q4⟩ => ?_)
 have I5 : Inv X pins σ H4 { s4 with heap := s4.heap.push { cls := .type "slice", data := .fields #[vl, vu, vk] } } := I4.kept (t' := s4.toks) fun b ob q => Heap.get?_push_of_some _ q
 obtain ⟨a, xs, rfl, hx, h0, q⟩ := q4
 cases r1
 obtain ⟨its, r, ht, hz⟩ := I5.list hx
 have hlen := r.length
 show wpAny (model X.prog X.w) X.A (subscriptTail e (.Slice lo hi st p2) (.ref a) (.ref s4.heap.objs.size)) (EP X pins σ Q) X.xe { s4 with heap := s4.heap.push { cls := .type "slice", data := .fields #[vl, vu, vk] } }
 have tail : ∀ {Q' : Value -> Shared -> Prop} {s' : Shared}, s'.TypeIs (.ref a) "list" -> wpAny (model X.prog X.w) X.A (getItem (.ref a) (.ref s4.heap.objs.size)) Q' X.xe s' -> wpAny (model X.prog X.w) X.A (subscriptTail e (.Slice lo hi st p2) (.ref a) (.ref s4.heap.objs.size)) Q' X.xe s' := fun {Q' s'} ty hg => by
  cases st with
  | none => exact tail_any (ops := [.ref s4.heap.objs.size, .ref a]) ty slot_list_getitem.lookup hg (by with_unfolding_all rfl)
  | some z => exact tail_any (ops := [.ref a, .ref s4.heap.objs.size]) ty slot_list_getitem.lookup hg (by with_unfolding_all rfl)
 refine tail ht.isList.typeIs ?_
 refine wpAny_getItem_list_slice ht.isList (Heap.IsSliceOf.new ..) pl pu pk h0 ?_ (by rw [List.size_toArray]; lia)
 have e : slicePick its.toArray l u k = (pick its l u k).toArray := by
  unfold slicePick pick
  simp
 rw [e]
 have hv : Vals (pick xs l u k) (pick its l u k) := by
  unfold pick
  rw [hlen]
  exact qab r _
 exact ⟨.ref _, _, I5.qcl (t' := s4.toks) hv (Nat.le_trans (qda xs l u k h0) hz), rfl, q _ I5.fresh⟩
noncomputable def tO (mg : Str -> Option Value) (K : PySem.W.Frag) (E : XK) (r : RO) : TO := fun σ H Q => ∃ B δ, Rl mg K B H σ δ /\ qk mg E H (r δ) fun x => ∀ H', qw H H' -> Q x H'
noncomputable abbrev TOx (X : Cx) (E : XK) (r : RO) : TO := tO X.mg X.K E r
theorem UY {e : Option Expr} {t t' : TO} (h : PO X e t) (i : ∀ σ H Q, t' σ H Q -> t σ H Q) : PO X e t' := fun pins s σ H Q I hw => h pins s σ H Q I (i σ H Q hw)
theorem xj : PO X none (TOx X E qx) := UY qcd fun σ H Q ⟨B, δ, R, h⟩ => h H qw.refl
theorem jq {e : Expr} {r : RE} (h : PE X e (TEx X E r)) : PO X (some e) (TOx X E (v9 r)) := by
 refine UY (qc8 h) fun σ H Q ⟨B, δ, R, h⟩ => ⟨B, δ, R, ?_⟩
 refine qk.imp (qk.bind h) fun x h1 v H1 s1 vr => ?_
 obtain ⟨d, k⟩ := x
 have vr : VR X.mg X.K B H H1 σ δ k v d := vr
 cases d with
 | int i => exact ⟨i, qM R vr, h1 H1 s1⟩
 | _ => exact h1.elim
theorem ja {e : Expr} {r : RE} {lo hi st : Option Expr} {rl rh rs : RO} {p2 : Pos} (he : PE X e (TEx X E r)) (hl : PO X lo (TOx X E rl)) (hu : PO X hi (TOx X E rh)) (hst : PO X st (TOx X E rs)) : PE X (.Subscript e (.Slice lo hi st p2) pos) (TEx X E (vN r rl rh rs)) := by
 refine qZ (JA he hl hu hst) fun σ H Q ⟨B, δ, R, h⟩ => ⟨B, δ, R, ?_⟩
 refine qk.imp (qk.bind h) fun x h1 v H1 s1 vr => ⟨B, δ, R.more s1, ?_⟩
 refine qk.imp (qk.more (qk.bind h1) s1) fun l h2 H2 s2 => ⟨B, δ, (R.more s1).more s2, ?_⟩
 refine qk.imp (qk.more (qk.bind h2) (s1.trans s2)) fun u h3 H3 s3 => ⟨B, δ, ((R.more s1).more s2).more s3, ?_⟩
 refine qk.imp (qk.more (qk.bind h3) ((s1.trans s2).trans s3)) fun k h4 H4 s4 => ?_
 have sA : qw H H4 := ((s1.trans s2).trans s3).trans s4
 obtain ⟨d, kd⟩ := x
 have vr : VR X.mg X.K B H H1 σ δ kd v d := vr
 cases d with
 | lst ds =>
  have h5 : Fin X.mg X.K E B H σ δ (if k = some 0 then .no else .ok (.lst (pick ds l u k), kL (pick ds l u k) (kd.low .nw))) Q := h4
  by_cases h0 : k = some 0
  ·rw [if_pos h0] at h5
   exact h5.elim
  ·rw [if_neg h0] at h5
   obtain ⟨a, us, rfl, q, g⟩ := VR.items R (vr.later (s2.trans (s3.trans s4)))
   refine ⟨a, us, rfl, q, h0, fun p hp => ?_⟩
   refine h5 _ _ (sA.trans (vt hp)) ?_
   refine VR.laid R sA hp (low_ne _ _) ?_
   unfold pick
   rw [g.len]
   exact qcR g _
 | _ => exact h4.elim
theorem qfn : zz X oIx (fun x y H Q => qfz X.K x y H Q \/ qfl X.K x y H Q) := by
 rintro B H H' σ δ x y ⟨dx, kx⟩ ⟨dy, ky⟩ Q E R s r1 r2 h
 have fin : ∀ {vs : List V} {ds : List D} {i : Int} {d : D}, qt X.mg X.K (Gk B σ δ (kx.low .nw)) H' vs ds -> (yh ds.length i).bind (fun j => ds[j]?) = some d -> Fin X.mg X.K E B H' σ δ (.ok (d, kx.low .nw)) Q -> ∃ v, atI vs i = some v /\ Q v H' := fun {vs ds i d} g e q => by
  cases hj : yh ds.length i with
  | none => rw [hj] at e; cases e
  | some j =>
   rw [hj] at e
   obtain ⟨v, e1, e2⟩ := g.getD (show ds[j]? = some d from e)
   refine ⟨v, ?_, q v H' qw.refl (by show VR _ _ _ _ _ _ _ (kx.low .nw) _ _; rw [VR.gk (low_ne _ _)]; exact e2)⟩
   unfold atI
   rw [g.len, <- qcD, hj]
   exact e1
 cases dx with
 | lst ds =>
  cases dy with
  | int i =>
   left
   obtain ⟨a, vs, rfl, q, g⟩ := VR.items R r1
   unfold oIx at h
   dsimp only at h
   cases e : (yh ds.length i).bind (fun j => ds[j]?) with
   | none => rw [e] at h; exact h.elim
   | some d =>
    rw [e] at h
    obtain ⟨v, e1, e2⟩ := fin g e h
    exact ⟨a, vs, i, v, rfl, qM R r2, q, e1, e2⟩
  | _ => exact h.elim
 | tup ds =>
  cases dy with
  | int i =>
   right
   obtain ⟨a, vs, rfl, q, g⟩ := VR.XB R r1
   unfold oIx at h
   dsimp only at h
   cases e : (yh ds.length i).bind (fun j => ds[j]?) with
   | none => rw [e] at h; exact h.elim
   | some d =>
    rw [e] at h
    obtain ⟨v, e1, e2⟩ := fin g e h
    exact ⟨a, vs, i, v, rfl, qM R r2, q, e1, e2⟩
  | _ => exact h.elim
 | _ => exact h.elim
theorem wy {a b : Expr} {ra rb : RE} (ha : PE X a (TEx X E ra)) (hb : PE X b (TEx X E rb)) (hs : Z3 b) : PE X (.Subscript a b pos) (TEx X E (qd oIx ra rb)) :=
 qZ (qdh (UP.or qdX) ha hb hs) fun _ _ _ h => two qfn h
noncomputable def qdl (X : Cx) (f : DK -> Rs DK) (rr : V -> Hp -> VK -> Prop) : Prop := ∀ (B : Bs) (H H' : Hp) (σ : St) (δ : Dl) (x : V) (dx : DK) (Q : VK) (E : XK), Rl X.mg X.K B H σ δ -> qw H H' -> VR X.mg X.K B H H' σ δ dx.2 x dx.1 -> Fin X.mg X.K E B H' σ δ (f dx) Q -> rr x H' Q
theorem one {f : DK -> Rs DK} {rr : V -> Hp -> VK -> Prop} {ra : RE} (F : qdl X f rr) {σ : St} {H : Hp} {Q : VK} (h : TEx X E (rUn f ra) σ H Q) : tUn rr (TEx X E ra) σ H Q := by
 obtain ⟨B, δ, R, h⟩ := h
 exact ⟨B, δ, R, qk.imp (qk.bind h) fun dx h1 v H1 s1 r1 => F B H H1 σ δ v dx Q E R s1 r1 (Fin.more h1 s1)⟩
theorem qdQ : qdl X Qo (rU fun i => .int (-i)) := by
 rintro B H H' σ δ x ⟨dx, kx⟩ Q E R s r1 h
 cases dx with
 | int i => exact ⟨i, qM R r1, h _ H' qw.refl (VR.int _)⟩
 | _ => exact h.elim
theorem Vh {a : Expr} {ra : RE} (ha : PE X a (TEx X E ra)) : PE X (.UnaryOp .USub a pos) (TEx X E (rUn Qo ra)) := qZ (qdA qbB ha) fun _ _ _ h => one qdQ h
noncomputable def qdC : V -> List V -> Hp -> VK -> Prop := fun x vs H Q => ∃ i, x = .int i /\ vs = [] /\ Q (.int (Builtin.Int.intBits i : Nat)) H
theorem qcs : MtR X "int.bit_length" qdC := by
 intro pins s σ H x vs v us Q I rx rv h
 obtain ⟨i, rfl, rfl, q⟩ := h
 obtain ⟨t, rfl⟩ := rx
 cases rv
 refine call_gives PySem.F.slot_int_bit_length (typeIs_int s i t) PySem.F.entry_int_bit_length (PySem.F.args_int_bit_length_1 _) (PySem.AutoIntG2.int_bit_length_int_0 i t) ?_
 exact ⟨.int _, H, I.tok _, ⟨_, rfl⟩, q⟩
theorem qcQ (i : Int) : Builtin.Int.intBits i = if i = 0 then 0 else i.natAbs.log2 + 1 := by
 unfold Builtin.Int.intBits
 by_cases h : i = 0
 ·subst h; rfl
 ·rw [if_neg h]
  split
  ·rename_i z; exact absurd (by simpa using z) h
  ·rfl
theorem qch {e : Expr} {r : RE} (h : PE X e (qe6 X.K "int" qdC (TEx X E r))) : PE X e (TEx X E (rUn oBits r)) := by
 refine qZ h fun σ H Q ⟨B, δ, R, h⟩ => ⟨B, δ, R, ?_⟩
 refine qk.imp (qk.bind h) fun x h1 v H1 s1 vr => ?_
 obtain ⟨d, k⟩ := x
 have vr : VR X.mg X.K B H H1 σ δ k v d := vr
 cases d with
 | int i =>
  have e := qM R vr
  subst e
  refine ⟨rfl, i, rfl, rfl, ?_⟩
  rw [qcQ]
  exact h1 _ H1 s1 (VR.int _)
 | _ => exact h1.elim
end
section
variable {X : Cx} {E : XK} {pos : Pos}
theorem wX : ∀ {ds : List D} {ns : List Int}, intsOf ds = some ns -> ds = ns.map D.int
 | [], ns, h => by cases h; rfl
 | .int i :: r, ns, h => by
  have h : (intsOf r).map (i :: ·) = some ns := h
  cases e : intsOf r with
  | none => rw [e] at h; cases h
  | some ms => rw [e] at h; cases h; rw [wX e]; rfl
 | .non :: _, _, h => nomatch h
 | .bl _ :: _, _, h => nomatch h
 | .lst _ :: _, _, h => nomatch h
 | .tup _ :: _, _, h => nomatch h
 | .fn _ :: _, _, h => nomatch h
 | .obj _ _ _ :: _, _, h => nomatch h
theorem ints_map : ∀ ns : List Int, intsOf (ns.map D.int) = some ns
 | [] => rfl
 | n :: r => by
  show (intsOf (r.map D.int)).map (n :: ·) = _
  rw [ints_map r]
  rfl
theorem U7 : ∀ ns : List Int, (ns.map D.int).all D.sc = true
 | [] => rfl
 | _ :: r => U7 r
theorem Vc (ns : List Int) : (ns.map D.int).map toV = ns.map V.int := by
 rw [List.map_map]
 rfl
theorem xX : ∀ ns ms : List Int, PyData.eqvAll (ns.map PyData.int) (ms.map PyData.int) = decide (ns = ms)
 | [], [] => rfl
 | [], _ :: _ => rfl
 | _ :: _, [] => rfl
 | a :: r, b :: q => by
  show (PyData.eqv (.int a) (.int b) && PyData.eqvAll (r.map PyData.int) (q.map PyData.int)) = _
  rw [xX r q]
  show ((a == b) && _) = _
  by_cases h : a = b
  ·subst h; simp
  ·simp [h]
theorem uY {K : PySem.W.Frag} {H : Hp} : ∀ ns : List Int, V2 K H (ns.map V.int) (ns.map PyData.int)
 | [] => .nil
 | n :: r => .cons (.int n) (uY r)
theorem lay_ints : ∀ ns : List Int, PyData.canLayAll0 (ns.map PyData.int) = true
 | [] => rfl
 | n :: r => by
  show (PyData.canLay0 (.int n) && PyData.canLayAll0 (r.map PyData.int)) = true
  rw [lay_ints r]
  rfl
theorem V4 : ∀ ns : List Int, PyData.depthAll (ns.map PyData.int) <= 1
 | [] => Nat.zero_le _
 | n :: r => by
  show max (PyData.depth (.int n)) (PyData.depthAll (r.map PyData.int)) <= 1
  have a := V4 r
  have b : PyData.depth (.int n) <= 1 := by first | exact Nat.le_refl _ | exact Nat.zero_le _
  lia
theorem shaped_ints (ns : List Int) : SeqAt.shaped (.list (ns.map PyData.int)) = true := by
 unfold SeqAt.shaped
 have a : PyData.canLay0 (.list (ns.map PyData.int)) = true := lay_ints ns
 have b : PyData.depth (.list (ns.map PyData.int)) <= 64 := by
  show PyData.depthAll (ns.map PyData.int) + 1 <= 64
  have := V4 ns
  lia
 rw [a, decide_eq_true b]
 rfl
theorem QT {mg : Str -> Option Value} {K : PySem.W.Frag} {B : Bs} {H H' : Hp} {σ : St} {δ : Dl} {k : Kd} {v : V} {ns : List Int} (R : Rl mg K B H σ δ) (h : VR mg K B H H' σ δ k v (.lst (ns.map D.int))) : ∃ a, v = .ref a /\ SqL K H' a (ns.map V.int) := by
 obtain ⟨a, vs, rfl, q, g⟩ := VR.items R h
 have e := g.sc (U7 ns)
 rw [Vc] at e
 subst e
 exact ⟨a, rfl, q⟩
theorem jl : zz X (oEq false) (fun x y H Q => rEq x y H Q \/ qev X.K x y H Q) := by
 rintro B H H' σ δ x y ⟨dx, kx⟩ ⟨dy, ky⟩ Q E R s r1 r2 h
 cases dx with
 | int i =>
  cases dy with
  | int j =>
   left
   rw [qM R r1, qM R r2]
   refine ⟨rfl, ?_⟩
   rw [QN, Bool.beq_eq_decide_eq]
   exact h _ H' qw.refl (VR.bl _)
  | _ => exact h.elim
 | bl i =>
  cases dy with
  | bl j =>
   left
   rw [UL R r1, UL R r2]
   refine ⟨rfl, ?_⟩
   rw [ZW, Bool.beq_eq_decide_eq]
   exact h _ H' qw.refl (VR.bl _)
  | _ => exact h.elim
 | lst xs =>
  cases dy with
  | lst ys =>
   right
   unfold oEq at h
   dsimp only at h
   cases e1 : intsOf xs with
   | none => rw [e1] at h; exact h.elim
   | some ns =>
    cases e2 : intsOf ys with
    | none => rw [e1, e2] at h; exact h.elim
    | some ms =>
     rw [e1, e2] at h
     have q1 := wX e1
     have q2 := wX e2
     subst q1 q2
     obtain ⟨a, rfl, s1⟩ := QT R r1
     obtain ⟨b, rfl, s2⟩ := QT R r2
     refine ⟨_, _, .lst s1 (uY ns), .lst s2 (uY ms), shaped_ints ns, shaped_ints ms, ?_⟩
     show Q (.bl (PyData.eqvAll _ _)) H'
     rw [xX]
     exact h _ H' qw.refl (VR.bl _)
  | _ => exact h.elim
 | _ => exact h.elim
theorem qds : zz X (oEq true) (fun x y H Q => rNe x y H Q \/ qdK X.K x y H Q) := by
 rintro B H H' σ δ x y ⟨dx, kx⟩ ⟨dy, ky⟩ Q E R s r1 r2 h
 cases dx with
 | int i =>
  cases dy with
  | int j =>
   left
   rw [qM R r1, qM R r2]
   refine ⟨rfl, ?_⟩
   rw [QN, Bool.beq_eq_decide_eq]
   exact h _ H' qw.refl (VR.bl _)
  | _ => exact h.elim
 | bl i =>
  cases dy with
  | bl j =>
   left
   rw [UL R r1, UL R r2]
   refine ⟨rfl, ?_⟩
   rw [ZW, Bool.beq_eq_decide_eq]
   exact h _ H' qw.refl (VR.bl _)
  | _ => exact h.elim
 | lst xs =>
  cases dy with
  | lst ys =>
   right
   unfold oEq at h
   dsimp only at h
   cases e1 : intsOf xs with
   | none => rw [e1] at h; exact h.elim
   | some ns =>
    cases e2 : intsOf ys with
    | none => rw [e1, e2] at h; exact h.elim
    | some ms =>
     rw [e1, e2] at h
     have q1 := wX e1
     have q2 := wX e2
     subst q1 q2
     obtain ⟨a, rfl, s1⟩ := QT R r1
     obtain ⟨b, rfl, s2⟩ := QT R r2
     refine ⟨_, _, .lst s1 (uY ns), .lst s2 (uY ms), shaped_ints ns, shaped_ints ms, ?_⟩
     show Q (.bl (!PyData.eqvAll _ _)) H'
     rw [xX]
     exact h _ H' qw.refl (VR.bl _)
  | _ => exact h.elim
 | _ => exact h.elim
theorem xb (hu : X.A.units + 64 < cLine) : OpR X (compareOp .Eq) (fun x y H Q => rEq x y H Q \/ qev X.K x y H Q) := qfr.or (qd8 hu)
theorem qaQ (hu : X.A.units + 64 < cLine) : OpR X (compareOp .NotEq) (fun x y H Q => rNe x y H Q \/ qdK X.K x y H Q) := qfi.or (qdL hu)
theorem qc1 : Vj X Y7 (fun xs H Q => ∃ p ys, xs = [.ref p] /\ (SqL X.K H p ys \/ SqT X.K H p ys) /\ ∀ l, H l = none -> Q (.ref l) (upd H l (.lst ys))) := by
 intro B H H' σ δ vs xs Q E R s vr h
 match xs, vr, h with
 | [(.lst l, k)], vr, h =>
  obtain ⟨v, rfl, r⟩ := J9 vr
  obtain ⟨a, us, rfl, q, g⟩ := VR.items R r
  exact ⟨a, us, rfl, .inl q, fun p hp => h _ _ (vt hp) (VR.laid (R.more s) qw.refl hp (low_ne _ _) g)⟩
 | [(.tup l, k)], vr, h =>
  obtain ⟨v, rfl, r⟩ := J9 vr
  obtain ⟨a, us, rfl, q, g⟩ := VR.XB R r
  exact ⟨a, us, rfl, .inr q, fun p hp => h _ _ (vt hp) (VR.laid (R.more s) qw.refl hp (low_ne _ _) g)⟩
 | [], _, h => exact h.elim
 | [(.int _, _)], _, h => exact h.elim
 | [(.bl _, _)], _, h => exact h.elim
 | [(.non, _)], _, h => exact h.elim
 | [(.fn _, _)], _, h => exact h.elim
 | [(.obj _ _ _, _)], _, h => exact h.elim
 | _ :: _ :: _, _, h => revert h; simp only [Y7]; exact fun h => h.elim
theorem uT : bootBuiltins "list" = some (.type "list") := by decide +kernel
theorem W2 : bootBuiltins "max" = some (.builtin "max") := by decide +kernel
theorem qae : bootBuiltins "min" = some (.builtin "min") := by decide +kernel
theorem J7 : bootBuiltins "abs" = some (.builtin "abs") := by decide +kernel
theorem wd : bootBuiltins "len" = some (.builtin "len") := by decide +kernel
theorem qaw {a : Expr} {ta : TA} {p : Pos} (hg : Gl X "range") (hm : X.mg "range" = none) (ha : PA X [a] ta) (hs : autoParam (starEach [a] X.env = [(false, eval a X.env)]) qm._auto_1) :
  PE X (.Call (.Name "range" p) [a] [] pos) (fun σ H Q => ta σ H fun vs H1 => ∃ j : Int, vs = [.int j] /\ ∀ q, H1 q = none -> Q (.ref q) (upd H1 q (.rng 0 j))) := by
 intro pins s σ H Q I h
 refine Call_ (uQ I hg hm boot_range (PyProof.Rows.callWith_type1 (thn (ha pos pins s σ H _ I h) fun us s1 ⟨vs, H1, I1, r1, q1⟩ => ?_) hs rfl))
 obtain ⟨j, e, q⟩ := q1
 subst e
 cases r1 with
 | cons r rr =>
  cases rr
  obtain ⟨t, rfl⟩ := r
  refine call_range_1 ⟨.ref _, _, I1.laid (t' := s1.toks + 1 + 1) (o := .rng 0 j) (fun _ _ q => Heap.get?_push_of_some _ q) (Nat.le_refl _) ⟨_, _, _, Heap.get?_push_size _ rfl⟩, rfl, q _ I1.fresh⟩
theorem Wh (hc : X.calm = true) : j4 X (.type "list") (fun xs H Q => ∃ p n, xs = [.ref p] /\ H p = some (.rng 0 n) /\ -1000000 < n /\ n < 1000000 /\ ∀ l, H l = none -> Q (.ref l) (upd H l (.lst ((List.range n.toNat).map fun (k : Nat) => V.int k)))) := by
 intro pins s σ H xs us Q I r h
 obtain ⟨p, n, rfl, hp, hn0, hn, q⟩ := h
 rw [Vals.qfS r]
 obtain ⟨t, u, v, e⟩ := I.hok p _ hp
 have hsm := PySem.small_one (a := 0) (b := n) (by lia) (by lia) (by lia) (by lia)
 refine call_list_range (n := n.toNat) (I.ok.hd hc) e hsm (by rw [PySem.rangeSize_one]; split <;> lia) (by lia) fun h' tk acc' c' hk hS hi => ?_
 have hv : Vals ((List.range n.toNat).map fun (k : Nat) => V.int k) acc'.toList := by
  have len : acc'.toList.length = n.toNat := by rw [Array.length_toList]; exact hi.1
  have gen : ∀ (l : List Value) (m : Nat), (∀ (j : Nat) (v : Value), l[j]? = some v -> ∃ t, v = Value.int ((m : Int) + j) t) -> Vals ((List.range' m l.length).map fun (k : Nat) => V.int k) l := by
   intro l
   induction l with
   | nil => intro m _; exact .nil
   | cons a r ih =>
    intro m hj
    rw [List.length_cons, List.range'_succ, List.map_cons]
    refine .cons ?_ (ih (m + 1) fun j v e => ?_)
    ·obtain ⟨t, e⟩ := hj 0 a rfl
     exact ⟨t, by rw [e]; simp⟩
    ·obtain ⟨t, e2⟩ := hj (j + 1) v (by simpa using e)
     exact ⟨t, by rw [e2]; congr 1; lia⟩
  have g := gen acc'.toList 0 fun j v e => by
   obtain ⟨t, e2⟩ := hi.2 j v (by simpa using e)
   exact ⟨t, by rw [e2]; congr 1; lia⟩
  rw [len, <- List.range_eq_range'] at g
  exact g
 refine ⟨.ref _, _, I.laid (t' := tk) (o := .lst ((List.range n.toNat).map fun (k : Nat) => V.int k)) hk (Nat.le_refl _) ⟨?_, acc'.toList, c', hv, by simpa using hS⟩, rfl, q _ I.fresh⟩
 rw [List.length_map, List.length_range]
 have : (sizeLine : Nat) = 16777216 := rfl
 lia
theorem ZV {a : Expr} {r : RE} {p p2 pos2 : Pos} (hc : X.calm = true) (hl : Gl X "list") (hlm : X.mg "list" = none) (hg : Gl X "range") (hm : X.mg "range" = none) (ha : PE X a (TEx X E r)) (hs : autoParam (starEach [a] X.env = [(false, eval a X.env)]) qm._auto_1) :
  PE X (.Call (.Name "list" p) [.Call (.Name "range" p2) [a] [] pos2] [] pos) (TEx X E (vB y3 (qc r qi))) := by
 refine qZ (jX (Wh hc) hl hlm uT (vH (qaw hg hm (qe ha qo hs) hs) zp)) fun σ H Q ⟨B, δ, R, h⟩ => ?_
 refine jM R h fun xs vs H1 s1 vrs h1 => ?_
 match xs, vrs, h1 with
 | [(.int i, k)], vrs, h1 =>
  obtain ⟨v, rfl, vr⟩ := J9 vrs
  simp only [y3] at h1
  by_cases c : -1000000 < i /\ i < 1000000
  ·rw [if_pos c] at h1
   refine ⟨i, by rw [qM R vr], fun q hq => ⟨q, i, rfl, qJ, c.1, c.2, fun l hl => ?_⟩⟩
   have s2 := vt (o := .rng 0 i) hq
   have s3 := vt (o := .lst ((List.range i.toNat).map fun (k : Nat) => V.int k)) hl
   refine h1 _ _ (s2.trans s3) ⟨l, _, rfl, rfl, ?_, s2.free hl, ?_⟩
   ·rw [List.all_map]
    exact List.all_eq_true.mpr fun _ _ => rfl
   ·rw [qJ, List.map_map]
    rfl
  ·rw [if_neg c] at h1
   exact h1.elim
 | [], _, h1 => exact h1.elim
 | [(.lst _, _)], _, h1 => exact h1.elim
 | [(.bl _, _)], _, h1 => exact h1.elim
 | [(.tup _, _)], _, h1 => exact h1.elim
 | [(.non, _)], _, h1 => exact h1.elim
 | [(.fn _, _)], _, h1 => exact h1.elim
 | [(.obj _ _ _, _)], _, h1 => exact h1.elim
 | _ :: _ :: _, _, h1 => revert h1; simp only [y3]; exact fun h => h.elim
end
end L2.Ir
set_option maxHeartbeats 4000000
namespace L2.Ir
open PySem PySem.Spec PyProof.Rows
theorem Wz {h h' B B' : Heap} : ∀ {l : List Env}, h.FunFrames B l -> (∀ b ∈ frs l, ∀ o, h.get? b = some o -> h'.get? b = some o) -> (∀ b ∈ frs l, B'.get? b = none) -> h'.FunFrames B' l
 | [], _, _, _ => trivial
 | env :: r, ⟨hk, ⟨L, o, hf, _, ho, hd⟩, hr⟩, k, hB => by
  have hL : L ∈ frs (env :: r) := by unfold frs; rw [List.filterMap_cons, hf]; exact List.mem_cons_self
  have sub : ∀ b ∈ frs r, b ∈ frs (env :: r) := fun b hb => by unfold frs; rw [List.filterMap_cons, hf]; exact List.mem_cons_of_mem _ hb
  exact ⟨hk, ⟨L, o, hf, hB L hL, k L hL o ho, hd⟩, Wz hr (fun b hb => k b (sub b hb)) fun b hb => hB b (sub b hb)⟩
theorem qdR {h : Heap} {C b : Addr} {o : Obj} (e : (PySem.W.hideAll h [C]).get? b = some o) : h.get? b = some o /\ b ≠ C := by
 refine ⟨PySem.W.of_hideAll _ e, fun z => ?_⟩
 have q : (PySem.W.hideAll h [C]).get? b = none := PySem.W.hideAll_none _ (by rw [z]; exact List.mem_singleton_self _)
 rw [q] at e
 cases e
theorem Wc {h : Heap} {C b : Addr} (e : h.get? b = none) : (PySem.W.hideAll h [C]).get? b = none := by
 cases q : (PySem.W.hideAll h [C]).get? b with
 | none => rfl
 | some o =>
  have := (qdR q).1
  rw [e] at this
  cases this
theorem Js {B h h' : Heap} {l : List Env} {e C : Addr} {cls : Value} {m : Str -> Option Value} (x : yY B l e cls h) (hC : h.Ns C m) (hf : C ∉ frs l) (sb : Heap.SameBut C h h') : yY (PySem.W.hideAll B [C]) l e cls h' := by
 obtain ⟨kb, hen, hl, oe, vs, a0, he, hcls, hd, h0, T, oT, ts, f, h1, hnT, hTe, hT, hdT, h3⟩ := x
 obtain ⟨oc, es, ep, hoc, hdc, _⟩ := hC
 have ne : ∀ {b : Addr} {o : Obj} {ws : Array Value}, h.get? b = some o -> o.data = .fields ws -> b ≠ C := fun {b o ws} e1 e2 z => by
  rw [z, hoc] at e1
  cases e1
  rw [hdc] at e2
  cases e2
 have keep : ∀ b o, b ≠ C -> h.get? b = some o -> h'.get? b = some o := fun b o n e1 => (sb.2 b n).trans e1
 refine ⟨fun b o e1 => keep b o (qdR e1).2 (kb b o (qdR e1).1), Wc hen, Wz hl (fun b hb o e1 => keep b o (fun z => hf (by rw [<- z]; exact hb)) e1) (fun b hb => Wc (hl.mem hb).1), oe, vs, a0, keep _ _ (ne he hd) he, hcls, hd, h0, T, oT, ts, f, h1, Wc hnT, hTe, keep _ _ (ne hT hdT) hT, hdT, h3⟩
noncomputable abbrev xn (X : Cx) (E : XK) (s : Shared) (H : Hp) (scope : Scope) (cenv : Env) (fp : List Addr) : Cx := (X.blk s H scope cenv fp).xV (Arr (X.blk s H scope cenv fp) E)
section
variable {X : Cx} {E : XK}
theorem YQ {pins : List (Addr × Obj)} {s : Shared} {σ : St} {H : Hp} {Q : VK} {elt tg iter : Expr} {ifs : List Expr} {scope : Scope} {own : List (Str × Nat)} {pos pos' : Pos} {wi : TI} {g : TG} {tt : TT} {te : TE} {use : Option (Value -> Sem Unit)} {Qf : Value -> Shared -> Prop} {LF : Addr}
  (hc : X.calm = true) (hN : X.N.Nodup) (acc : Acc X E) (hst : X.stack = X.env :: X.outer) (hfr : X.env.frame = some LF) (I : Inv X pins σ H s) (hi : PI X tg iter wi) (ok : Ja X.N X.env.scope scope own)
  (hg : ∀ (s : Shared) (H : Hp) (C : Addr) (cl : List (Str × Addr)) (fp : List Addr), PG (xn X E s H scope (compEnvC scope cl C X.env) fp) tg g) (ht : ∀ (s : Shared) (H : Hp) (C : Addr) (cl : List (Str × Addr)) (fp : List Addr), PTs (xn X E s H scope (compEnvC scope cl C X.env) fp) ifs tt)
  (he : ∀ (s : Shared) (H : Hp) (C : Addr) (cl : List (Str × Addr)) (fp : List Addr), PE (xn X E s H scope (compEnvC scope cl C X.env) fp) elt te) (hs : ∀ x, foldedSetIterable iter X.env x = pure x)
  (h : tLc wi g tt te (own.map (·.2)) σ H Q)
  (hRR : ∀ D C s' m H', Inv X pins σ H' s' -> Q (.ref D) H' -> s'.heap.Ns C m -> jH X pins H' C -> compPost (model X.prog X.w) X.A X.xe use Qf (.ref D) C (.ok .next) s') :
  wpAny (model X.prog X.w) X.A (comprehension (.ListComp elt [⟨tg, iter, ifs, 0⟩] scope pos) scope X.env pos' (newList []) false (eval iter X.env) use) Qf X.xe s := by
 have hfree : ∀ y ∈ scope.names, y.2 = .free -> ∃ c, X.env.cells.lookup y.1 = some c := fun y hy e => by
  rcases ok.free y hy e with k | k
  ·exact I.ok.has _ (.inl k)
  ·exact I.ok.has _ (.inr k)
 refine wpAny_comprehension_free (use := use) rfl hs (VL hfree) ok.kind (fun y hy e => by rw [ok.uniq y hy, e])
  (thn (hi pins s σ H _ I h) fun xv s1 hx => thn hx fun itv s2 h2 => ?_)
 obtain ⟨it, fp, tn, J, H2, e, I2, T, st2, f2, q⟩ := h2
 subst e
 refine wpAny_newObj_type (Z8 ?_) (by show 0 <= sizeLine; decide)
 generalize hD : s2.heap.objs.size = D
 have hDn : H2 D = none := I2.hok.fresh (Nat.le_of_eq hD)
 obtain ⟨W, ⟨m0, w0⟩, turn⟩ := q D hDn
 generalize hs3 : ({ s2 with heap := s2.heap.push { cls := .type "list", data := .seq ([] : List Value).toArray } } : Shared) = s3
 have I3 : Inv X pins σ (upd H2 D (.lst [])) s3 := by
  rw [<- hs3]
  refine I2.laid (t' := s2.toks) (fun b o e => Heap.get?_push_of_some _ e) (Nat.le_of_eq hD) ⟨Nat.zero_le _, [], 0, .nil, ?_⟩
  rw [<- hD]
  exact Heap.get?_push_size _ rfl
 have h3 : s3.heap = s2.heap.push { cls := .type "list", data := .seq ([] : List Value).toArray } := by rw [<- hs3]
 have sz : ∀ b ∈ fp, b < s2.heap.objs.size := fun b hb => by
  obtain ⟨o, e, _⟩ := T.obj _ _ st2 b hb
  exact Heap.lt_size e
 have f3 : ∀ b ∈ fp, jH X pins (upd H2 D (.lst [])) b /\ b < s3.heap.objs.size := fun b hb => by
  have hlt := sz b hb
  refine ⟨⟨?_, (f2 b hb).2⟩, by rw [h3, Heap.size_push]; exact Nat.lt_succ_of_lt hlt⟩
  rw [qy (by rw [<- hD]; exact Nat.ne_of_lt hlt)]
  exact (f2 b hb).1
 have st3 : tn 0 s3.heap := T.keep _ _ _ st2 fun b _ o e => by rw [h3]; exact Heap.get?_push_of_some _ e
 have I4 := YY I3 ok hN f3
 have pg := hg s3 (upd H2 D (.lst [])) s3.heap.objs.size (cellsFrom (s3.heap.objs.size + 1) scope.names (qL X.env.cells scope.names [])) fp
 have pt := ht s3 (upd H2 D (.lst [])) s3.heap.objs.size (cellsFrom (s3.heap.objs.size + 1) scope.names (qL X.env.cells scope.names [])) fp
 have pe := he s3 (upd H2 D (.lst [])) s3.heap.objs.size (cellsFrom (s3.heap.objs.size + 1) scope.names (qL X.env.cells scope.names [])) fp
 show codeAny _ _ (.compStart (.ListComp elt [⟨tg, iter, ifs, 0⟩] scope pos) 0 (.ref it) (.ref D) (compEnvC scope (cellsFrom (s3.heap.objs.size + 1) scope.names (qL X.env.cells scope.names [])) s3.heap.objs.size X.env)) (compPost (model X.prog X.w) X.A X.xe use Qf (.ref D) s3.heap.objs.size) { s3 with heap := pushCells (s3.heap.push { cls := .type "dict", data := .dict #[] }) scope.names }
 have nfp : ∀ b ∈ fp, (upd H2 D (.lst [])) b = none := fun b hb => (f3 b hb).1.1
 generalize hce : compEnvC scope (cellsFrom (s3.heap.objs.size + 1) scope.names (qL X.env.cells scope.names [])) s3.heap.objs.size X.env = ce at I4 pg pt pe ⊢
 have cL : ce.locals = s3.heap.objs.size := by subst hce; rfl
 have cF : ce.frame = some LF := by subst hce; exact hfr
 generalize hH3 : upd H2 D (.lst []) = H3 at I3 I4 pg pt pe w0 nfp f3
 generalize hs4 : ({ s3 with heap := pushCells (s3.heap.push { cls := .type "dict", data := .dict #[] }) scope.names } : Shared) = s4 at I4 ⊢
 have st4 : tn 0 s4.heap := T.keep _ _ _ st3 fun b _ o e => by rw [<- hs4]; exact pushCells_keeps _ _ _ _ (Heap.get?_push_of_some _ e)
 have stat : ∀ {σ' : St} {H' : Hp} {s' : Shared}, Inv (X.blk s3 H3 scope ce fp) [] σ' H' s' -> (∀ b ∈ fp, H' b = none) -> ∀ b ∈ fp, jH (X.blk s3 H3 scope ce fp) [] H' b := fun {σ' H' s'} I' hn b hb =>
  ⟨hn b hb, (I'.ok.exf b hb).1, I'.ok.exfs b hb, .inl hb, fun x c e => (I'.ok.exf b hb).2 x c e, fun p hp => absurd (show p ∈ ([] : List (Addr × Obj)) ++ [] from hp) (by simp)⟩
 -- an exception out of the block
 have exc : ∀ (e : Value) (s5 : Shared), Arr (X.blk s3 H3 scope ce fp) E e s5 -> notedBy (model X.prog X.w) X.A ce (fun e s' => compPost (model X.prog X.w) X.A X.xe use Qf (.ref D) s3.heap.objs.size (.error e) s') e s5 := fun e s5 x => by
  obtain ⟨a, cls, Bh, H', pins', σ', rfl, I5, hd, kb, q⟩ := x
  have hfrm : X.A.frames = some (X.env :: X.outer) := by rw [<- hst]; exact I3.ok.frames
  have hd0 : Hand Bh (X.env :: X.outer) a cls s5.heap := by rw [<- hst]; exact hd
  refine yJ hfrm hfr cF hd0 fun h1 hd1 up1 => ?_
  rw [<- hst] at hd1
  obtain ⟨I6, kb1⟩ := wQ I5 hd kb hd1.hand up1
  obtain ⟨m, hn, _⟩ := I6.loc
  have hn : h1.Ns ce.locals m := hn
  rw [cL] at hn
  refine ⟨m, hn, fun h' sb cenv hcl => ?_⟩
  have nC : H' s3.heap.objs.size = none := by
   have z : H' ce.locals = none := I6.free
   rw [cL] at z
   exact z
  have fC : jH X pins H' s3.heap.objs.size := I3.Jw (Nat.le_refl _) nC
  have I7 : Inv X pins σ H' { s5 with heap := h1 } := I3.qbX (ch := fp) I6.os I6.base I6.hok I6.bare fun b hb => ⟨(f3 b hb).1.2.2.2.1, (f3 b hb).1.2.1, (f3 b hb).1.2.2.2.2.1, (f3 b hb).1.2.2.2.2.2⟩
  obtain ⟨g0, g1, g2, g3, g4, g5⟩ := fC
  have I8 : Inv X pins σ H' { s5 with heap := h' } := I7.turned (t' := s5.toks) (fun b o hb e => (sb.2 b hb).trans e) g0 g1 g3 g4 g5
  have cf : s3.heap.objs.size ∉ frs X.stack := fun z => by
   rcases List.mem_cons.mp (I3.yE _ z) with z | z
   ·exact g1 z
   ·exact g2 z
  have hd2 := Js hd1 hn cf sb
  have relN : ∀ b, Rel X pins H' b -> b ≠ s3.heap.objs.size /\ Rel (X.blk s3 H3 scope ce fp) pins' H' b := fun b r => by
   have inS3 : (¬ H' b ≠ none) -> ∃ o, s3.heap.get? b = some o := fun hn' => by
    rcases r with r | r
    ·exact absurd r hn'
    ·exact QV I3 (.inr r)
   by_cases hb : H' b ≠ none
   ·exact ⟨fun z => hb (by rw [z]; exact nC), .inl hb⟩
   ·obtain ⟨o, eo⟩ := inS3 hb
    refine ⟨Nat.ne_of_lt (Heap.lt_size eo), .inr (.inl ⟨o, eo, fun hfp => ?_⟩)⟩
    obtain ⟨k0, k1, k2, k3, k4, k5⟩ := (f3 b hfp).1
    rcases r with r | ⟨o', e', nx⟩ | ⟨y, e'⟩ | e' | ⟨p, hp, e'⟩
    ·exact hb r
    ·rcases k3 with k3 | k3
     ·exact nx k3
     ·exact absurd (Nat.lt_of_lt_of_le (Heap.lt_size e') k3) (Nat.lt_irrefl _)
    ·exact k4 y b e' rfl
    ·exact k1 e'
    ·exact k5 p hp e'
  have kb2 : ∀ b o, h'.get? b = some o -> b ∉ frs X.stack -> Rel X pins H' b -> (PySem.W.hideAll Bh [s3.heap.objs.size]).get? b = some o := fun b o hb hf r => by
   obtain ⟨nb, r2⟩ := relN b r
   have e1 : h1.get? b = some o := (sb.2 b nb).symm.trans hb
   exact PySem.W.hideAll_get _ (kb1 b o e1 hf r2) (by simpa using nb)
  unfold PySem.passOn
  refine wpAny_bind (jt hd2 fun T => ?_)
  rw [if_neg (show ¬ ((Value.ref T == Value.none) = true) from by simp)]
  refine wpAny_bind (zf hd2 fun h3' hd3 up3 => wpAny_throw ?_)
  obtain ⟨I9, kb3⟩ := wQ I8 hd2.hand kb2 hd3.hand up3
  exact acc _ _ ⟨a, cls, _, H', pins, σ, rfl, I9, hd3.hand, kb3, q⟩
 have thnX : ∀ {α : Type} {t : Sem α} {P P' : α -> Shared -> Prop} {s' : Shared}, wpAny (model X.prog X.w) X.A t P (Arr (X.blk s3 H3 scope ce fp) E) s' -> (∀ a s, P a s -> P' a s) -> wpAny (model X.prog X.w) X.A t P' (notedBy (model X.prog X.w) X.A ce (fun e s' => compPost (model X.prog X.w) X.A X.xe use Qf (.ref D) s3.heap.objs.size (.error e) s')) s' :=
  fun {α t P P' s'} h hP => wpAny_mono h hP exc
 have loop : codeAny (model X.prog X.w) X.A (.compLoop (.ListComp elt [⟨tg, iter, ifs, 0⟩] scope pos) 0 (.ref it) (.ref D) ce) (compPost (model X.prog X.w) X.A X.xe use Qf (.ref D) s3.heap.objs.size) s4 := by
  refine Zk (fun n s' => ∃ i H', Inv (X.blk s3 H3 scope ce fp) [] (wipe σ (own.map (·.2))) H' s' /\ tn i s'.heap /\ (∀ b ∈ fp, H' b = none) /\ W i n H') ?_ m0 ⟨0, H3, I4, st4, nfp, w0⟩
  rintro n s5 ⟨i, H5, I5, st5, n5, w5⟩
  rcases turn i n H5 w5 with ⟨stop, qq⟩ | ⟨go, Nx, hNx, step⟩
  ·have td := T.done (X.blk s3 H3 scope ce fp) rfl rfl rfl hc i [] s5 _ H5 (fun _ _ => False) I5 (stat I5 n5) st5 stop
   refine qd5 td fun r s6 ⟨hr, I6⟩ => ?_
   subst hr
   have I7 : Inv X pins σ H5 s6 := I3.qbX (ch := fp) I6.os I6.base I6.hok I6.bare fun b hb => ⟨(f3 b hb).1.2.2.2.1, (f3 b hb).1.2.1, (f3 b hb).1.2.2.2.2.1, (f3 b hb).1.2.2.2.2.2⟩
   have nC : H5 s3.heap.objs.size = none := by
    have z : H5 ce.locals = none := I6.free
    rw [cL] at z
    exact z
   obtain ⟨m, hn, _⟩ := I6.loc
   have hn : s6.heap.Ns ce.locals m := hn
   rw [cL] at hn
   exact hRR D s3.heap.objs.size s6 m H5 I7 qq hn (I3.Jw (Nat.le_refl _) nC)
  ·have ti := T.item (X.blk s3 H3 scope ce fp) rfl rfl rfl hc i [] s5 _ H5 (fun _ _ => False) I5 (stat I5 n5) st5 go
   refine qd5 ti fun r s6 ⟨u, hr, h6⟩ => ?_
   subst hr
   refine qd5 h6 fun _ s7 ⟨x, H7, I7, r7, y7, st7, n7⟩ => ?_
   have I7' := (I7.pinned (stat I7 n7) (T.obj _ _ st7)).xV (Arr (X.blk s3 H3 scope ce fp) E)
   refine thnX (pg _ s7 _ H7 x u _ I7' r7 (step x H7 y7)) fun _ s8 ⟨σ8, H8, I8, hw8, q8⟩ => ?_
   refine thnX (pt _ s8 σ8 H8 _ I8 q8) fun b s9 ⟨H9, I9, q9⟩ => ?_
   have fin : ∀ {s' : Shared} {H' : Hp}, Inv (X.blk s3 H3 scope ce fp) ([] ++ V0 fp s7.heap) σ8 H' s' -> Nx H' -> ∃ m, m < n /\ ∃ i H', Inv (X.blk s3 H3 scope ce fp) [] (wipe σ (own.map (·.2))) H' s' /\ tn i s'.heap /\ (∀ b ∈ fp, H' b = none) /\ W i m H' := fun {s' H'} I' nx => by
    obtain ⟨m', hm, w'⟩ := hNx H' nx
    have pin' : ∀ b ∈ fp, ∀ o, s7.heap.get? b = some o -> s'.heap.get? b = some o /\ H' b = none := fun b hb o e =>
     let z := I'.pin (b, o) (List.mem_append_right _ (List.mem_append_right _ (uA hb e)))
     ⟨z.1, z.2.1⟩
    have hl : (wipe σ (own.map (·.2))).length = σ8.length := by rw [<- hw8, vS]
    refine ⟨m', hm, i + 1, H', (I'.jh (pins := [])).weak hl (fun j v e => ?_), T.keep _ _ _ st7 fun b hb o e => (pin' b hb o e).1, fun b hb => ?_, w'⟩
    ·rw [<- hw8] at e
     exact (zj e).1
    ·obtain ⟨o, e, _⟩ := T.obj _ _ st7 b hb
     exact (pin' b hb o e).2
   cases b with
   | false =>
    simp only [Bool.false_eq_true, if_false] at q9 ⊢
    exact fin I9.zM q9
   | true =>
    simp only [if_true] at q9 ⊢
    refine thnX (pe _ s9 σ8 H9 _ I9 q9) fun z s10 ⟨yv, H10, I10, r10, acc, hD10, hz10, nx⟩ => ?_
    exact qeq (X := X.blk s3 H3 scope ce fp) I10.zM hD10 hz10 r10 fun s11 I11 => fin I11 nx
 exact codeAny_compStart_list loop (T.self X.A 0 _ _ _ st4 loop)
theorem qbC {elt tg iter : Expr} {ifs : List Expr} {scope : Scope} {own : List (Str × Nat)} {pos : Pos} {wi : TI} {g : TG} {tt : TT} {te : TE} {LF : Addr} (hc : X.calm = true) (hN : X.N.Nodup) (acc : Acc X E) (hst : X.stack = X.env :: X.outer) (hfr : X.env.frame = some LF) (hi : PI X tg iter wi) (ok : Ja X.N X.env.scope scope own)
  (hg : ∀ (s : Shared) (H : Hp) (C : Addr) (cl : List (Str × Addr)) (fp : List Addr), PG (xn X E s H scope (compEnvC scope cl C X.env) fp) tg g) (ht : ∀ (s : Shared) (H : Hp) (C : Addr) (cl : List (Str × Addr)) (fp : List Addr), PTs (xn X E s H scope (compEnvC scope cl C X.env) fp) ifs tt)
  (he : ∀ (s : Shared) (H : Hp) (C : Addr) (cl : List (Str × Addr)) (fp : List Addr), PE (xn X E s H scope (compEnvC scope cl C X.env) fp) elt te) (hs : autoParam (∀ x, foldedSetIterable iter X.env x = pure x) yB._auto_1) :
  PE X (.ListComp elt [⟨tg, iter, ifs, 0⟩] scope pos) (tLc wi g tt te (own.map (·.2))) := by
 intro pins s σ H Q I h
 rw [eval_ListComp]
 refine YQ hc hN acc hst hfr I hi ok hg ht he hs h fun D C s' m H' I' q hn f => ⟨m, hn, fun h'' sb => ?_⟩
 obtain ⟨f0, f1, f2, f3, f4, f5⟩ := f
 exact ⟨.ref D, H', I'.turned (t' := s'.toks) (fun b o hb e => (sb.2 b hb).trans e) f0 f1 f3 f4 f5, rfl, q⟩
end
theorem WA (δ : Dl) : ∀ vs : List Nat, (clear δ vs).length = δ.length
 | [] => rfl
 | v :: vs => by show ((clear δ vs).set v .un).length = _; rw [List.length_set, WA δ vs]
theorem zi {δ : Dl} {i : Nat} {x : Sl} : ∀ {vs : List Nat}, (clear δ vs)[i]? = some x -> x = .un \/ (i ∉ vs /\ δ[i]? = some x)
 | [], h => .inr ⟨by simp, h⟩
 | v :: vs, h => by
  have h : ((clear δ vs).set v .un)[i]? = some x := h
  by_cases e : v = i
  ·subst e
   by_cases hl : v < (clear δ vs).length
   ·rw [List.getElem?_set_self hl] at h
    exact .inl (Option.some.inj h).symm
   ·rw [List.getElem?_eq_none (by rw [List.length_set]; lia)] at h
    cases h
  ·rw [List.getElem?_set_ne e] at h
   rcases zi h with z | ⟨z1, z2⟩
   ·exact .inl z
   ·exact .inr ⟨by simp [z1, Ne.symm e], z2⟩
section
variable {mg : Str -> Option Value} {K : PySem.W.Frag} {B : Bs} {H H1 H' H'' : Hp} {σ : St} {δ : Dl} {D0 : Addr} {vs : List Nat}
noncomputable def Bd (B : Bs) (σ : St) (δ : Dl) (vs : List Nat) (D0 : Addr) : Bs := ⟨B.H0, fun p => p = D0 \/ (vn B σ δ p /\ ¬ ∃ (i : Nat) (ds : List D), (clear δ vs)[i]? = some (.own ds) /\ (wipe σ vs)[i]? = some (some (.ref p)))⟩
theorem qaK {p : Addr} (h : ∃ (i : Nat) (ds : List D), (clear δ vs)[i]? = some (.own ds) /\ (wipe σ vs)[i]? = some (some (.ref p))) : vn B σ δ p := by
 obtain ⟨i, ds, e1, e2⟩ := h
 rcases zi e1 with z | ⟨_, z⟩
 ·cases z
 ·exact .inr ⟨i, ds, z, (zj e2).1⟩
theorem xH {p : Addr} : vn (Bd B σ δ vs D0) (wipe σ vs) (clear δ vs) p ↔ p = D0 \/ vn B σ δ p := by
 constructor
 ·rintro ((h | h) | h)
  ·exact .inl h
  ·exact .inr h.1
  ·exact .inr (qaK h)
 ·rintro (h | h)
  ·exact .inl (.inl h)
  ·by_cases c : ∃ (i : Nat) (ds : List D), (clear δ vs)[i]? = some (.own ds) /\ (wipe σ vs)[i]? = some (some (.ref p))
   ·exact .inr c
   ·exact .inl (.inr ⟨h, c⟩)
theorem qfQ (R : Rl mg K B H σ δ) {p : Addr} (h : B.P p) : (Bd B σ δ vs D0).P p := by
 refine .inr ⟨.inl h, fun ⟨i, ds, e1, e2⟩ => ?_⟩
 rcases zi e1 with z | ⟨_, z⟩
 ·cases z
 ·obtain ⟨_, q, e3, _, np, _⟩ := R.own i ds z
  have := (zj e2).1
  rw [this] at e3
  cases e3
  exact np h
theorem Rl.blk (R : Rl mg K B H σ δ) (hD : H D0 = none) (o : HO) : Rl mg K (Bd B σ δ vs D0) (upd H D0 o) (wipe σ vs) (clear δ vs) := by
 have s := vt (o := o) hD
 have hne : ∀ a, H a ≠ none -> a ≠ D0 := fun a ha z => ha (by rw [z]; exact hD)
 refine ⟨R.same.trans s, fun p hp => ?_, by rw [vS, WA]; exact R.len, fun i d k e => ?_, fun i ds e => ?_, fun i j p ds es e1 e2 e3 e4 => ?_⟩
 ·rcases hp with rfl | ⟨hp, _⟩
  ·rw [qJ]; exact fun z => nomatch z
  ·exact fun z => R.owned hp (s.free z)
 ·rcases zi e with z | ⟨nv, z⟩
  ·cases z
  ·obtain ⟨v, e1, e2⟩ := R.val i d k z
   refine ⟨v, by rw [xF nv]; exact e1, ?_⟩
   refine Rp.same (Rp.weak (Rp.there _ _ e2) fun a g => ⟨fun z => ?_, g.1.2⟩) s
   rcases xH.mp z with z | z
   ·exact hne a g.2 z
   ·exact g.1.1 z
 ·rcases zi e with z | ⟨nv, z⟩
  ·cases z
  ·obtain ⟨c, p, e1, e2, np, e3⟩ := R.own i ds z
   have hp : H p ≠ none := by rw [e3]; exact fun z => nomatch z
   refine ⟨c, p, by rw [xF nv]; exact e1, e2, fun q => ?_, s _ _ e3⟩
   rcases q with q | ⟨_, q⟩
   ·exact hne p hp q
   ·exact q ⟨i, ds, e, by rw [xF nv]; exact e1⟩
 ·rcases zi e1 with z | ⟨n1, z1⟩
  ·cases z
  ·rcases zi e2 with z | ⟨n2, z2⟩
   ·cases z
   ·exact R.apart i j p ds es z1 z2 (zj e3).1 (zj e4).1
theorem Rl.made {B' : Bs} {σ' : St} {δ' : Dl} (R : Rl mg K B' H σ' δ') (hP : B'.P D0) (h0 : B'.H0 D0 = none) (o : HO) : Rl mg K B' (upd H D0 o) σ' δ' := by
 refine ⟨fun b q e => ?_, fun p hp => ?_, R.len, fun i d k e => ?_, fun i ds e => ?_, R.apart⟩
 ·rw [qy (vf e h0)]
  exact R.same b q e
 ·by_cases c : p = D0
  ·rw [c, qJ]; exact fun z => nomatch z
  ·rw [qy c]; exact R.pd p hp
 ·obtain ⟨v, e1, e2⟩ := R.val i d k e
  exact ⟨v, e1, e2.mono fun a g => ⟨g, fun q z => by rw [qy (fun w => g.1 (.inl (by rw [w]; exact hP)))]; exact z⟩⟩
 ·obtain ⟨c, p, e1, e2, np, e3⟩ := R.own i ds e
  exact ⟨c, p, e1, e2, np, by rw [qy (fun w => np (by rw [w]; exact hP))]; exact e3⟩
theorem XT {k l : Kd} {a : Addr} (g : Gk B σ δ k a) : Gk B σ δ (k.low l) a := by
 cases k <;> cases l <;> first | exact g | exact g.1 | exact fun z => g (.inl z) | exact fun z => g.1 (.inl z)
inductive VAs (mg : Str -> Option Value) (K : PySem.W.Frag) (B : Bs) (σ : St) (δ : Dl) (H : Hp) : List V -> List DK -> Prop
 | nil : VAs mg K B σ δ H [] []
 | snoc {vs : List V} {xs : List DK} {v : V} {x : DK} : VAs mg K B σ δ H vs xs -> Rp mg K (Gk B σ δ (x.2.low .nw)) H v x.1 -> VAs mg K B σ δ H (vs ++ [v]) (xs ++ [x])
theorem VAs.to {vs : List V} {xs : List DK} (h : VAs mg K B σ δ H vs xs) (k : ∀ a, ¬ B.P a -> ∀ o, H a = some o -> H' a = some o) : VAs mg K B σ δ H' vs xs := by
 induction h with
 | nil => exact .nil
 | snoc _ r ih =>
  refine .snoc ih (r.mono fun a g => ⟨g, k a ?_⟩)
  have g2 := XT (l := .bo) g
  rename_i x _
  revert g2
  cases x.2 <;> exact fun g => g
theorem VAs.len {vs : List V} {xs : List DK} (h : VAs mg K B σ δ H vs xs) : vs.length = xs.length := by
 induction h with
 | nil => rfl
 | snoc _ _ ih => rw [List.length_append, List.length_append, ih]; rfl
theorem VAs.sc {vs : List V} {xs : List DK} (h : VAs mg K B σ δ H vs xs) (c : (xs.map (·.1)).all D.sc = true) : vs = (xs.map (·.1)).map toV := by
 induction h with
 | nil => rfl
 | snoc _ r ih =>
  rw [List.map_append, List.all_append, Bool.and_eq_true] at c
  rw [ih c.1, List.map_append, List.map_append]
  have c2 := c.2
  simp at c2
  rw [r.sc c2]
  rfl
theorem j5 : ∀ (xs : List DK) (x : DK), qT (xs ++ [x]) = if x.1.sc = true then qT xs else (qT xs).low x.2
 | [], x => by
  show qT [x] = _
  unfold qT
  split
  ·rfl
  ·show x.2.low .nw = Kd.low .nw x.2
   exact Q2 _ _
 | y :: r, x => by
  show qT (y :: (r ++ [x])) = _
  unfold qT
  rw [j5 r x]
  split <;> split <;> first | rfl | (rw [xY])
theorem VAs.kinds {vs : List V} {xs : List DK} (h : VAs mg K B σ δ H vs xs) : qt mg K (Gk B σ δ (qT xs)) H vs (xs.map (·.1)) := by
 induction h with
 | nil => exact .nil
 | @snoc vs xs v x _ r ih =>
  rw [List.map_append, j5]
  cases c : x.1.sc with
  | true =>
   rw [if_pos rfl]
   refine ih.append (.cons ?_ .nil)
   rw [r.sc c]
   exact Rp.wL c
  | false =>
   rw [if_neg (by decide)]
   refine (ih.weak fun a g => XT g).append (.cons (r.weak fun a g => ?_) .nil)
   rw [Q2]
   have e : (x.2.low .nw).low (qT xs) = x.2.low (qT xs) := by
    have n := z6 xs
    cases x.2 <;> cases h : qT xs <;> first | rfl | exact absurd h n
   rw [<- e]
   exact XT g
end
inductive FAs (H : Hp) (D0 : Addr) (H' : Hp) : List V -> List DK -> Prop
 | nil : FAs H D0 H' [] []
 | snoc {vs : List V} {xs : List DK} {q : Addr} {ds : List D} : FAs H D0 H' vs xs -> q ≠ D0 -> H q = none -> V.ref q ∉ vs -> ds.all D.sc = true -> H' q = some (.lst (ds.map toV)) -> FAs H D0 H' (vs ++ [.ref q]) (xs ++ [(.lst ds, .fr)])
structure FA (H : Hp) (D0 : Addr) (H' : Hp) (vs : List V) (ys : List DK) : Prop where
 len : vs.length = ys.length
 all : (∀ y ∈ ys, y.2 = .fr) -> FAs H D0 H' vs ys
theorem FA.nil {H : Hp} {D0 : Addr} {H' : Hp} : FA H D0 H' [] [] := ⟨rfl, fun _ => .nil⟩
theorem FAs.to {H : Hp} {D0 : Addr} {H1 H2 : Hp} {vs : List V} {ys : List DK} (h : FAs H D0 H1 vs ys) (k : ∀ a, a ≠ D0 -> ∀ o, H1 a = some o -> H2 a = some o) : FAs H D0 H2 vs ys := by
 induction h with
 | nil => exact .nil
 | snoc _ a b c d e ih => exact .snoc ih a b c d (k _ a _ e)
theorem FA.to {H : Hp} {D0 : Addr} {H1 H2 : Hp} {vs : List V} {ys : List DK} (h : FA H D0 H1 vs ys) (k : ∀ a, a ≠ D0 -> ∀ o, H1 a = some o -> H2 a = some o) : FA H D0 H2 vs ys := ⟨h.len, fun z => (h.all z).to k⟩
theorem FAs.at_ {H : Hp} {D0 : Addr} {H1 : Hp} {vs : List V} {ys : List DK} (h : FAs H D0 H1 vs ys) {p : Addr} : V.ref p ∈ vs -> H1 p ≠ none := by
 induction h with
 | nil => intro z; cases z
 | snoc _ a b c d e ih =>
  intro z
  rcases List.mem_append.mp z with z | z
  ·exact ih z
  ·cases List.mem_singleton.mp z
   rw [e]
   exact fun z => nomatch z
theorem FA.snoc {mg : Str -> Option Value} {K : PySem.W.Frag} {B : Bs} {σ : St} {δ : Dl} {H : Hp} {D0 : Addr} {H1 H2 : Hp} {vs acc : List V} {ys : List DK} {y : DK} {w : V} (h : FA H D0 H1 vs ys) (s : qw H H1) (hD : H1 D0 = some (.lst acc)) (s2 : qw H1 H2) (vw : VR mg K B H1 H2 σ δ y.2 w y.1) : FA H D0 H2 (vs ++ [w]) (ys ++ [y]) := by
 refine ⟨by rw [List.length_append, List.length_append, h.len]; rfl, fun z => ?_⟩
 have hy := z y (List.mem_append_right _ (List.mem_singleton_self _))
 have h0 := h.all fun x hx => z x (List.mem_append_left _ hx)
 obtain ⟨d, k⟩ := y
 cases hy
 obtain ⟨p, ds, rfl, e, c, n1, n2⟩ := vw
 have e : d = .lst ds := e
 subst e
 exact .snoc (h0.to fun a _ o e => s2 a o e) (fun q => by rw [q, hD] at n1; cases n1) (s.free n1) (fun q => h0.at_ q n1) c n2
section
variable {X : Cx} {E : XK} {pos : Pos}
theorem V7 {σ σ' : St} {i : Nat} {v : V} {vs : List Nat} (hi : i ∈ vs) : wipe (σ.set i (some v)) vs = wipe σ vs := by
 have gen : ∀ (vs : List Nat) (x : Option V), wipe (σ.set i x) vs = (if i ∈ vs then wipe σ vs else (wipe σ vs).set i x) := by
  intro vs
  induction vs with
  | nil => intro x; rfl
  | cons w r ih =>
   intro x
   show (wipe (σ.set i x) r).set w none = _
   rw [ih x]
   by_cases h1 : i ∈ r
   ·rw [if_pos h1, if_pos (List.mem_cons_of_mem _ h1)]
    rfl
   ·rw [if_neg h1]
    by_cases h2 : i = w
    ·subst h2
     rw [if_pos List.mem_cons_self, List.set_set]
     rfl
    ·rw [if_neg (by simp [h2, h1]), List.set_comm _ _ h2]
     rfl
 rw [gen vs (some v), if_pos hi]
theorem J4 {tg : Tg} {σ σ2 : St} {vs : List Nat} (h : tg.sets σ σ2) (hv : tg.within vs) : wipe σ2 vs = wipe σ vs := by
 cases tg with
 | one i => obtain ⟨v, rfl⟩ := h; exact V7 (σ' := σ) hv
 | two i j =>
  obtain ⟨v, w, rfl⟩ := h
  rw [V7 (σ' := σ) hv.2, V7 (σ' := σ) hv.1]
theorem Jy (σ : St) (vs : List Nat) : wipe (wipe σ vs) vs = wipe σ vs := by
 refine List.ext_getElem? fun i => ?_
 by_cases h : i ∈ vs
 ·by_cases hl : i < σ.length
  ·have a : ∀ τ : St, τ.length = σ.length -> (wipe τ vs)[i]? = some none := fun τ hτ => by
    have l : i < (wipe τ vs).length := by rw [vS, hτ]; exact hl
    cases e : (wipe τ vs)[i] with
    | none => rw [List.getElem?_eq_getElem l, e]
    | some x =>
     have := (zj (show (wipe τ vs)[i]? = some (some x) by rw [List.getElem?_eq_getElem l, e])).2
     exact absurd h this
   rw [a _ (vS σ vs), a _ rfl]
  ·rw [List.getElem?_eq_none (by rw [vS, vS]; lia), List.getElem?_eq_none (by rw [vS]; lia)]
 ·rw [xF h]
theorem u6 {i j : Nat} {x : DK} {δ δ' : Dl} (h : put i x δ = some δ') (n : i ≠ j) : δ'[j]? = δ[j]? := by
 obtain ⟨d, k⟩ := x
 have fin : ∀ s : Sl, δ' = δ.set i s -> δ'[j]? = δ[j]? := fun s e => by rw [e, List.getElem?_set_ne n]
 cases k with
 | bo =>
  have h2 : (if d.sc = true then some (δ.set i (.val d true)) else none) = some δ' := h
  by_cases c : d.sc = true
  ·rw [if_pos c] at h2; exact fin _ (Option.some.inj h2).symm
  ·rw [if_neg c] at h2; cases h2
 | sh => exact fin _ (Option.some.inj (show some (δ.set i (y6 (d, if d.sc = true then .nw else .sh))) = some δ' from h)).symm
 | nw => exact fin _ (Option.some.inj (show some (δ.set i (y6 (d, if d.sc = true then .nw else .nw))) = some δ' from h)).symm
 | fr => exact fin _ (Option.some.inj (show some (δ.set i (y6 (d, if d.sc = true then .nw else .fr))) = some δ' from h)).symm
theorem Tg.u6 {tg : Tg} {j : Nat} {x : DK} {δ δ' : Dl} {vs : List Nat} (h : tg.put x δ = some δ') (hv : tg.within vs) (n : j ∉ vs) : δ'[j]? = δ[j]? := by
 cases tg with
 | one i => exact Ir.u6 (show Ir.put i x δ = some δ' from h) fun z => n (by rw [<- z]; exact hv)
 | two i k =>
  obtain ⟨d, kd⟩ := x
  have go : ∀ a b, d = .tup [a, b] -> δ'[j]? = δ[j]? := fun a b e => by
   subst e
   have h : (Ir.put i (a, kd) δ).bind (Ir.put k (b, kd)) = some δ' := h
   cases h1 : Ir.put i (a, kd) δ with
   | none => rw [h1] at h; cases h
   | some δ1 =>
    rw [h1] at h
    rw [Ir.u6 (show Ir.put k (b, kd) δ1 = some δ' from h) fun z => n (by rw [<- z]; exact hv.2), Ir.u6 h1 fun z => n (by rw [<- z]; exact hv.1)]
  cases d with
  | tup l =>
   match l, go, h with
   | [a, b], go, _ => exact go a b rfl
   | [], _, h => cases h
   | [_], _, h => cases h
   | _ :: _ :: _ :: _, _, h => cases h
  | _ => cases h
theorem qaD {tg : Tg} {j : Nat} {σ σ' : St} {vs : List Nat} (h : tg.sets σ σ') (hv : tg.within vs) (n : j ∉ vs) : σ'[j]? = σ[j]? := by
 cases tg with
 | one i => obtain ⟨v, rfl⟩ := h; rw [List.getElem?_set_ne fun z => n (by rw [<- z]; exact hv)]
 | two i k =>
  obtain ⟨v, w, rfl⟩ := h
  rw [List.getElem?_set_ne fun z => n (by rw [<- z]; exact hv.2), List.getElem?_set_ne fun z => n (by rw [<- z]; exact hv.1)]
theorem qc4 {tg : Tg} {x : DK} {B' : Bs} {σ σ3 : St} {δ δ2 : Dl} {vs : List Nat} {a : Addr} (hp : tg.put x (clear δ vs) = some δ2) (st : tg.sets (wipe σ vs) σ3) (hv : tg.within vs) (h : vn B' (wipe σ vs) (clear δ vs) a) : vn B' σ3 δ2 a := by
 rcases h with h | ⟨j, ds, e1, e2⟩
 ·exact .inl h
 ·rcases zi e1 with z | ⟨n, _⟩
  ·cases z
  ·exact .inr ⟨j, ds, by rw [Tg.u6 hp hv n]; exact e1, by rw [qaD st hv n]; exact e2⟩
theorem Z9 {g : TG} {tg : Tg} {src : RI} {t : RT} {r : RE} {vs : List Nat} {σ : St} {H : Hp} {Q : VK} (hv : tg.within vs)
  (h : ∃ B δ, Rl X.mg X.K B H σ δ /\ qk X.mg E H (src δ) fun x => x.2.length < LIM /\ qk X.mg E H (items tg t r (clear δ vs) x.2) fun ys => ∀ D0 acc H', H D0 = none -> qw H H' -> H' D0 = some (.lst acc) -> (VAs X.mg X.K (Bd B σ δ vs D0) (wipe σ vs) (clear δ vs) H' acc ys /\ FA H D0 H' acc ys) -> Q (.ref D0) H') :
  tLc (tI X E g tg src) g (TTx X E t) (TEx X E r) vs σ H Q := by
 obtain ⟨B, δ, R, h⟩ := h
 refine ⟨B, δ, R, ?_⟩
 refine qk.imp h fun x h1 J H1 s1 W D0 hD => ?_
 obtain ⟨fl, xs⟩ := x
 have R1 := R.more s1
 have h0 : B.H0 D0 = none := R1.same.free hD
 have hDH : H D0 = none := s1.free hD
 have hP : (Bd B σ δ vs D0).P D0 := .inl rfl
 obtain ⟨c, h1⟩ := h1
 dsimp only at c h1
 refine ⟨fun i m H' => m = xs.length - i /\ i <= xs.length /\ Rl X.mg X.K (Bd B σ δ vs D0) H' (wipe σ vs) (clear δ vs) /\ qw H1 H' /\ ∃ acc ys, H' D0 = some (.lst acc) /\ (VAs X.mg X.K (Bd B σ δ vs D0) (wipe σ vs) (clear δ vs) H' acc ys /\ FA H D0 H' acc ys) /\ ys.length <= i /\
  qk X.mg E H1 (items tg t r (clear δ vs) (xs.drop i)) fun zs => ∀ D0 acc H', H D0 = none -> qw H H' -> H' D0 = some (.lst acc) -> (VAs X.mg X.K (Bd B σ δ vs D0) (wipe σ vs) (clear δ vs) H' acc (ys ++ zs) /\ FA H D0 H' acc (ys ++ zs)) -> Q (.ref D0) H', ⟨xs.length, by lia, Nat.zero_le _, R1.blk hD _, vt hD, [], [], qJ, ⟨.nil, FA.nil⟩, Nat.le_refl _, qk.more h1 s1⟩, ?_⟩
 rintro i m H2 ⟨rfl, hi, R2, s2, acc, ys, hacc, va, hys, h2⟩
 have kp : Kp fl B (Bd B σ δ vs D0) σ δ H1 (wipe σ vs) (clear δ vs) H2 := by
  refine ⟨rfl, fun b o e n => ⟨s2 b o e, fun z => ?_⟩, fun _ => s2⟩
  rcases xH.mp z with z | z
  ·rw [z, hD] at e
   cases e
  ·exact n z
 by_cases hlt : i < xs.length
 ·right
  have hx : xs[i]? = some xs[i] := List.getElem?_eq_getElem hlt
  rw [List.drop_eq_getElem_cons hlt] at h2
  unfold items at h2
  cases hp : tg.put xs[i] (clear δ vs) with
  | none => rw [hp] at h2; exact h2.elim
  | some δ2 =>
   rw [hp] at h2
   obtain ⟨go, yl⟩ := W.1 (Bd B σ δ vs D0) i xs[i] (wipe σ vs) (clear δ vs) δ2 H2 hx R2 kp hp
   refine ⟨go, fun H' => i + 1 <= xs.length /\ Rl X.mg X.K (Bd B σ δ vs D0) H' (wipe σ vs) (clear δ vs) /\ qw H1 H' /\ ∃ acc ys, H' D0 = some (.lst acc) /\ (VAs X.mg X.K (Bd B σ δ vs D0) (wipe σ vs) (clear δ vs) H' acc ys /\ FA H D0 H' acc ys) /\ ys.length <= i + 1 /\
    qk X.mg E H1 (items tg t r (clear δ vs) (xs.drop (i + 1))) fun zs => ∀ D0 acc H', H D0 = none -> qw H H' -> H' D0 = some (.lst acc) -> (VAs X.mg X.K (Bd B σ δ vs D0) (wipe σ vs) (clear δ vs) H' acc (ys ++ zs) /\ FA H D0 H' acc (ys ++ zs)) -> Q (.ref D0) H', fun H' q => ⟨xs.length - (i + 1), by lia, rfl, q.1, q.2⟩, fun v H3 hy => ?_⟩
   refine yl v H3 hy _ fun σ3 H4 R4 f4 s4 st4 => ⟨by rw [J4 st4 hv, Jy], ?_⟩
   refine ⟨Bd B σ δ vs D0, δ2, R4, ?_⟩
   have h2 := qk.bind h2
   refine qk.imp (qk.more h2 (s2.trans s4)) fun b h3 H5 s5 => ?_
   have s45 := s4.trans s5
   have R5 : Rl X.mg X.K (Bd B σ δ vs D0) H5 (wipe σ vs) (clear δ vs) := R2.more s45
   cases b with
   | false =>
    simp only [Bool.false_eq_true, if_false] at h3 ⊢
    exact ⟨hlt, R5, s2.trans s45, acc, ys, s45 _ _ hacc, ⟨va.1.to fun a _ o e => s45 a o e, va.2.to fun a _ o e => s45 a o e⟩, by lia, h3⟩
   | true =>
    simp only [if_true] at h3 ⊢
    refine ⟨Bd B σ δ vs D0, δ2, R4.more s5, ?_⟩
    have h3 := qk.bind h3
    refine qk.imp (qk.more h3 (s2.trans s45)) fun y h4 w H6 s6 vw => ?_
    have s46 := s45.trans s6
    have hD6 : H6 D0 = some (.lst acc) := s46 _ _ hacc
    have hl := va.1.len
    refine ⟨acc, hD6, by have e : LIM = 16777216 := rfl; have e2 : (sizeLine : Nat) = 16777216 := rfl; lia, ?_⟩
    have R45 := R4.more s5
    have rw1 : Rp X.mg X.K (Gk (Bd B σ δ vs D0) (wipe σ vs) (clear δ vs) (y.2.low .nw)) H6 w y.1 := by
     have q := VR.low R45 .nw vw
     rw [VR.gk (low_ne _ _)] at q
     refine q.weak fun a g => ?_
     have nb : ¬ vn (Bd B σ δ vs D0) σ3 δ2 a -> ¬ vn (Bd B σ δ vs D0) (wipe σ vs) (clear δ vs) a := fun n z => n (qc4 hp st4 hv z)
     revert g
     cases y.2.low .nw with
     | bo => exact fun g => g
     | sh => exact nb
     | nw => exact fun g => ⟨nb g.1, g.2⟩
     | fr => exact fun g => ⟨nb g.1, g.2⟩
    have keepD : ∀ a, ¬ (Bd B σ δ vs D0).P a -> ∀ o, H6 a = some o -> upd H6 D0 (.lst (acc ++ [w])) a = some o := fun a n o e => by
     rw [qy fun z => n (by rw [z]; exact hP)]
     exact e
    have va6 : VAs X.mg X.K (Bd B σ δ vs D0) (wipe σ vs) (clear δ vs) (upd H6 D0 (.lst (acc ++ [w]))) (acc ++ [w]) (ys ++ [y]) := (VAs.snoc (va.1.to fun a _ o e => s46 a o e) rw1).to keepD
    have fa6 : FA H D0 (upd H6 D0 (.lst (acc ++ [w]))) (acc ++ [w]) (ys ++ [y]) := (FA.snoc (va.2.to fun a _ o e => s45 a o e) (s1.trans (s2.trans s45)) (s45 _ _ hacc) s6 vw).to fun a n o e => by
     rw [qy n]
     exact e
    have s16 : qw H1 (upd H6 D0 (.lst (acc ++ [w]))) := fun b o e => by
     rw [qy (vf e hD)]
     exact s46 _ _ (s2 _ _ e)
    refine ⟨hlt, ((R2.more s46).made hP h0 _), s16, acc ++ [w], ys ++ [y], qJ, ⟨va6, fa6⟩, by rw [List.length_append]; exact Nat.add_le_add_right hys 1, ?_⟩
    have h5 := qk.bind h4
    cases hi2 : items tg t r (clear δ vs) (xs.drop (i + 1)) with
    | er c2 =>
     rw [hi2] at h5
     exact h5
    | no => rw [hi2] at h5; exact h5
    | ok zs =>
     rw [hi2] at h5
     have h6 := h5
     intro D1 acc1 H7 q1 q2 q3 q4
     rw [List.append_assoc] at q4
     exact h6 D1 acc1 H7 q1 q2 q3 q4
 ·left
  have e : i = xs.length := by lia
  subst e
  rw [List.drop_length] at h2
  refine ⟨W.2 (Bd B σ δ vs D0) _ _ _ H2 (Nat.le_refl _) R2 kp, ?_⟩
  have h3 := h2 D0 acc H2 hDH (s1.trans s2) hacc
  rw [List.append_nil] at h3
  exact h3 va
theorem qcA {g : TG} {tg : Tg} {src : RI} {t : RT} {r : RE} {vs : List Nat} {σ : St} {H : Hp} {Q : VK} (hv : tg.within vs) (h : TEx X E (zS tg src t r vs) σ H Q) :
  tLc (tI X E g tg src) g (TTx X E t) (TEx X E r) vs σ H Q := by
 obtain ⟨B, δ, R, h⟩ := h
 refine Z9 hv ⟨B, δ, R, qk.imp (qk.bind h) fun x h1 => ?_⟩
 by_cases c : x.2.length < LIM
 ·rw [if_pos c] at h1
  refine ⟨c, qk.imp (qk.bind h1) fun ys h3 D0 acc H2 hDH s hacc va => ?_⟩
  have h3 : Fin X.mg X.K E B H σ δ (.ok (.lst (ys.map (·.1)), kL (ys.map (·.1)) (qT ys))) Q := h3
  refine h3 (.ref D0) H2 s ?_
  show VR _ _ _ _ _ _ _ (kL _ _) _ _
  unfold kL
  split
  ·rename_i cs
   exact ⟨D0, _, rfl, rfl, cs, hDH, by rw [hacc, va.1.sc cs]⟩
  ·rw [VR.gk (z6 ys)]
   have n1 := R.fresh hDH
   have n2 := R.same.free hDH
   refine .lst ?_ (.of hacc) (va.1.kinds.weak fun a g => ?_)
   ·have n3 := z6 ys
    cases hk : qT ys with
    | bo => exact fun z => n1 (.inl z)
    | sh => exact n1
    | nw => exact ⟨n1, n2⟩
    | fr => exact absurd hk n3
   ·have nb : ¬ vn (Bd B σ δ vs D0) (wipe σ vs) (clear δ vs) a -> ¬ vn B σ δ a := fun n z => n (xH.mpr (.inr z))
    revert g
    cases qT ys with
    | bo => exact fun g z => g (qfQ R z)
    | sh => exact nb
    | nw => exact fun g => ⟨nb g.1, g.2⟩
    | fr => exact fun g => ⟨nb g.1, g.2⟩
 ·rw [if_neg c] at h1
  exact h1.elim
theorem yc : PTs X [] (TTx X E zZ) := fun pins s σ H Q I ⟨B, δ, R, h⟩ => qcP pins s σ H Q I (h H qw.refl)
theorem uW {elt tgE iter : Expr} {ifs : List Expr} {scope : Scope} {own : List (Str × Nat)} {g : TG} {tg : Tg} {src : RI} {t : RT} {r : RE} {LF : Addr} (hc : X.calm = true) (hN : X.N.Nodup) (acc : Acc X E) (hst : X.stack = X.env :: X.outer) (hfr : X.env.frame = some LF)
  (hi : PI X tgE iter (tI X E g tg src)) (ok : jT X.N X.env.scope scope own = true) (hv : tg.within (own.map (·.2)))
  (hg : ∀ (s : Shared) (H : Hp) (C : Addr) (cl : List (Str × Addr)) (fp : List Addr), PG (xn X E s H scope (compEnvC scope cl C X.env) fp) tgE g)
  (ht : ∀ (s : Shared) (H : Hp) (C : Addr) (cl : List (Str × Addr)) (fp : List Addr), PTs (xn X E s H scope (compEnvC scope cl C X.env) fp) ifs (TTx X E t))
  (he : ∀ (s : Shared) (H : Hp) (C : Addr) (cl : List (Str × Addr)) (fp : List Addr), PE (xn X E s H scope (compEnvC scope cl C X.env) fp) elt (TEx X E r)) (hs : autoParam (∀ x, foldedSetIterable iter X.env x = pure x) yB._auto_1) :
  PE X (.ListComp elt [⟨tgE, iter, ifs, 0⟩] scope pos) (TEx X E (zS tg src t r (own.map (·.2)))) :=
 qZ (qbC hc hN acc hst hfr hi (VV ok) hg ht he hs) fun _ _ _ h => qcA hv h
theorem qfI {i : Nat} {y : Str} {py : Pos} {elt tgE iter : Expr} {ifs : List Expr} {scope : Scope} {own : List (Str × Nat)} {g : TG} {tg : Tg} {src : RI} {t : RT} {r : RE} {LF : Addr} {cpos : Pos} {T : TS} (hc : X.calm = true) (hN : X.N.Nodup) (acc : Acc X E) (hst : X.stack = X.env :: X.outer) (hfr : X.env.frame = some LF)
  (hy : X.N[i]? = some y) (hyl : X.env.scope.names.lookup y = some .local) (hsw : swapsWith (.ListComp elt [⟨tgE, iter, ifs, 0⟩] scope cpos) (some (.Name y py)) pos.line X.env = pure true)
  (hi : PI X tgE iter (tI X E g tg src)) (ok : jT X.N X.env.scope scope own = true) (hv : tg.within (own.map (·.2)))
  (hg : ∀ (s : Shared) (H : Hp) (C : Addr) (cl : List (Str × Addr)) (fp : List Addr), PG (xn X E s H scope (compEnvC scope cl C X.env) fp) tgE g)
  (ht : ∀ (s : Shared) (H : Hp) (C : Addr) (cl : List (Str × Addr)) (fp : List Addr), PTs (xn X E s H scope (compEnvC scope cl C X.env) fp) ifs (TTx X E t))
  (he : ∀ (s : Shared) (H : Hp) (C : Addr) (cl : List (Str × Addr)) (fp : List Addr), PE (xn X E s H scope (compEnvC scope cl C X.env) fp) elt (TEx X E r)) (hs : autoParam (∀ x, foldedSetIterable iter X.env x = pure x) yB._auto_1) (hT : ∀ D σ H, T D σ H -> tLc (tI X E g tg src) g (TTx X E t) (TEx X E r) (own.map (·.2)) σ H (fun x H1 => wz i x σ H1 D.nx)) :
  PS X (.Assign [.Name y py] (.ListComp elt [⟨tgE, iter, ifs, 0⟩] scope cpos) pos) T := by
 intro pins s σ H D I h
 have h := hT D σ H h
 rw [exec_Assign_Name_used _ _ _ _ hsw]
 refine wpAny_bind (wpAny_standAt (wpAny_bind ?_))
 show wpAny _ X.A (do let _ <- comprehension (.ListComp elt [⟨tgE, iter, ifs, 0⟩] scope cpos) scope X.env (firstIterPos [⟨tgE, iter, ifs, 0⟩] cpos) (newList []) false (eval iter X.env) (some (assign (.Name y py) X.env))) _ _ s
 refine wpAny_bind (thn (YQ (Qf := fun _ s' => SP X pins D .next s') hc hN acc hst hfr I hi (VV ok) hg ht he hs h fun L C s' m H' I' q hn f => ?_) fun _ s' hq => wpAny_pure (wpAny_pure hq))
 show wpAny _ _ (assign (.Name y py) X.env (.ref L)) _ _ _
 refine wpAny_assign_Name (WS (v := V.ref L) I' hN hy (.inl hyl) rfl (fun s2 I2 ⟨a, sb, ha⟩ => ?_) (.inr hyl))
 obtain ⟨f0, f1, f2, f3, f4, f5⟩ := f
 have haC : C ≠ a := by
  rcases ha with z | z
  ·rw [z]; exact f1
  ·exact fun e => f4 y a z e.symm
 refine ⟨m, hn.sameBut sb haC, fun h3 sb3 => ?_⟩
 exact ⟨_, H', I2.turned (t' := s2.toks) (fun b o hb e => (sb3.2 b hb).trans e) f0 f1 f3 f4 f5, q⟩
end
noncomputable abbrev uK (P : Program) (w : World) (K : PySem.W.Frag) (mg : Str -> Option Value) (base : Heap) (N : List Str) (qual : Str) (scope : Scope) (f : Addr) (cd : Value) (A : Around) (outer : List Env) (s : Shared) (H : Hp) (E : XK) : Cx :=
 (xo (CX1 P w) P w K mg base N qual scope f cd A outer s H E).xV (Arr (xo (CX1 P w) P w K mg base N qual scope f cd A outer s H E) E)
theorem QK {P : Program} {w : World} {K : PySem.W.Frag} {mg : Str -> Option Value} {base : Heap} {N : List Str} {qual : Str} {scope : Scope} {f : Addr} {cd : Value} {A : Around} {outer : List Env} {s : Shared} {H : Hp} {E : XK} (nd : N.Nodup) : Gd (uK P w K mg base N qual scope f cd A outer s H E) E :=
 ⟨rfl, nd, yN, UC (X := xo (CX1 P w) P w K mg base N qual scope f cd A outer s H E) rfl rfl⟩
noncomputable def sl0 (N : List Str) (ds : List D) : Dl := ds.map (fun d => Sl.val d false) ++ List.replicate (N.length - ds.length) .un
noncomputable def res : Out -> Rs (D × Bool)
 | .rt d k => .ok (d, k)
 | .nx _ => .ok (.non, false)
 | .er c => .er c
 | _ => .no
theorem rl0 {mg : Str -> Option Value} {K : PySem.W.Frag} {H : Hp} {N : List Str} {vs : List V} {ds : List D} (r : qt mg K (fun _ => True) H vs ds) : Rl mg K ⟨H, fun _ => False⟩ H (start N vs) (sl0 N ds) := by
 have get : ∀ {i : Nat} {s : Sl}, (sl0 N ds)[i]? = some s -> (∃ d, ds[i]? = some d /\ s = .val d false) \/ s = .un := fun {i s} e => by
  unfold sl0 at e
  by_cases h : i < ds.length
  ·rw [List.getElem?_append_left (by rw [List.length_map]; exact h), List.getElem?_map, List.getElem?_eq_getElem h] at e
   exact .inl ⟨ds[i], List.getElem?_eq_getElem h, (Option.some.inj e).symm⟩
  ·rw [List.getElem?_append_right (by rw [List.length_map]; lia)] at e
   right
   have := List.mem_of_getElem? e
   exact (List.mem_replicate.mp this).2
 have own : ∀ {p : Addr}, ¬ vn ⟨H, fun _ => False⟩ (start N vs) (sl0 N ds) p := fun {p} h => by
  rcases h with h | ⟨i, es, e, _⟩
  ·exact h
  ·rcases get e with ⟨d, _, z⟩ | z <;> cases z
 refine ⟨qw.refl, fun _ h => h.elim, ?_, fun i d k e => ?_, fun i es e => ?_, fun i j p es fs e _ _ _ => ?_⟩
 ·unfold start sl0
  rw [List.length_append, List.length_append, List.length_map, List.length_map, List.length_replicate, List.length_replicate, r.len]
 ·rcases get e with ⟨d', hd, z⟩ | z
  ·cases z
   obtain ⟨v, hv, rp⟩ := r.getD hd
   refine ⟨v, ?_, rp.weak fun a _ => ⟨own, fun z => nomatch z⟩⟩
   have hl : i < vs.length := (List.getElem?_eq_some_iff.mp hv).1
   unfold start
   rw [List.getElem?_append_left (by rw [List.length_map]; exact hl), List.getElem?_map, hv]
   rfl
  ·cases z
 ·rcases get e with ⟨d, _, z⟩ | z <;> cases z
 ·rcases get e with ⟨d, _, z⟩ | z <;> cases z
section
variable {P : Program} {w : World} {K : PySem.W.Frag} {mg : Str -> Option Value} {base : Heap}
theorem VI {X : Cx} {E : XK} {st : List Stmt} {t : TS} (h : PSs (X.xV (Arr X E)) st t) (acc : Acc X E) : PSs X st t := fun pins s σ H D I hw =>
 wpAny_mono (h pins s σ H D (I.xV _) hw) (fun _ _ q => q.zM) fun e s' a => acc e s' a
theorem qe8 {x : Str} {st : Stmt} {f : Addr} {fd : FuncData} {N ps : List Str} {k n : Nat} {g : Fn} {r : RS} (F : Fun K x x st f fd) (S : qu N ps (qf st)) (hm : mg x = some (.ref f)) (hb : Binds K fd ps []) (hn : ps.length = n)
  (body : ∀ (cdv : Value) (A : Around) (outer : List Env) (s : Shared) (H : Hp) (E : XK), wG k (A.deeper (envOfC x (qf st) s.heap.objs.size f cdv)) ->
   PSs (uK P w K mg base N x (qf st) f cdv A outer s H E) (vE st) (tS mg K E r))
  (hr : ∀ ds : List D, ds.length = n -> g ds = .no \/ res (r (sl0 N ds)) = g ds) : Fd P w K mg base (k + 1) x n g := by
 obtain ⟨oc, od, kV, doc, pm, an, cdv, ct, osl, rfl, lk, hcd⟩ := F.ex
 refine ⟨f, _, ps, U5 lk hcd S ?_ fun A outer s H vs Q E hroom hsp => ?_, hm, F.kp, hb⟩
 ·rintro vs H Q E ⟨ds, hl, rp, _⟩
  rw [rp.len, hl, hn]
 ·obtain ⟨ds, hl, rp, h⟩ := hsp
  refine ⟨_, VI (body cdv A outer s H E hroom) Zz, ⟨H, fun _ => False⟩, sl0 N ds, rl0 rp, ?_⟩
  rcases hr ds hl with e | e
  ·rw [e] at h
   exact h.elim
  ·rw [<- e] at h
   cases ho : r (sl0 N ds) with
   | rt d k => rw [ho] at h; exact fun v H' s rr => h v H' s rr
   | nx δ' => rw [ho] at h; exact fun σ' H' R _ => h .non H' R.same Rp.non
   | er c => rw [ho] at h; exact fun C H' e s => h C H' e s
   | bk δ' => rw [ho] at h; exact h.elim
   | ct δ' => rw [ho] at h; exact h.elim
   | no => rw [ho] at h; exact h.elim
end
end L2.Ir
namespace L2.Ir
open PySem PySem.Spec PyProof.Rows
open PySem.W (WData Codec OpenSpec Well WellAll ReadsW ReadsAllW)
noncomputable def Yv (l : List (Str × Int)) (o : Rs (D × Bool)) : Option (List D) := match o with
 | .ok (.lst zs, true) => some (.int 0 :: zs)
 | .er c => (l.lookup c).map fun k => [.int (-k)]
 | _ => none
noncomputable def qbG (mg : Str -> Option Value) (K : PySem.W.Frag) (n : Nat) (g : Fn) (l : List (Str × Int)) (P : Addr) : Sp := fun vs H Q _ => ∃ ds zs, ds.length = n /\ H P = some (.tbl #[]) /\ qt mg K (fun _ => True) H vs ds /\ Yv l (g ds) = some zs /\ zs.length <= LIM /\
 ∀ H' p, H' p = some (.lst (zs.map toV)) -> Q (.ref p) H'
structure Uw (mg : Str -> Option Value) (K : PySem.W.Frag) (l : List (Str × Int)) (la : List (Addr × Int)) : Prop where
 at_ : ∀ c C k, mg c = some (.ref C) -> l.lookup c = some k -> qR K C = true /\ la.lookup C = some k
theorem qcn {α β : Type} (f : α -> β) (xs : List α) : (xs.map f).length = xs.length := List.length_map f
mutual
noncomputable def ofW : WData -> D
 | .none => .non
 | .bool b => .bl b
 | .int i => .int i
 | .list xs => .lst (Yn xs)
 | .tuple xs => .tup (Yn xs)
 | _ => .non
noncomputable def Yn : List WData -> List D
 | [] => []
 | x :: r => ofW x :: Yn r
/-- numbers, truth values, lists and tuples of them -/
noncomputable def plD : WData -> Bool
 | .none => true
 | .bool _ => true
 | .int _ => true
 | .list xs => ZQ xs
 | .tuple xs => ZQ xs
 | _ => false
noncomputable def ZQ : List WData -> Bool
 | [] => true
 | x :: r => plD x && ZQ r
end
mutual
theorem qeU {mg : Str -> Option Value} {K : PySem.W.Frag} {H : Hp} : ∀ (d : WData) (v : V), plD d = true -> Dw K H v d -> Rp mg K (fun _ => True) H v (ofW d)
 | .none, _, _, h => by cases h; exact .non
 | .bool b, _, _, h => by cases h; exact .bl b
 | .int i, _, _, h => by cases h; exact .int i
 | .list xs, _, p, h => by cases h with | lst s a => exact Rp.ofL s (fun _ => trivial) (Vb xs _ p a)
 | .tuple xs, _, p, h => by
  cases h with
  | tup s a =>
   rcases s with s | s
   ·exact .tup trivial s (Vb xs _ p a)
   ·exact .tupK (fun _ => .inr s) (Vb xs _ p a)
 | .str _, _, p, _ => nomatch p
 | .bytes _, _, p, _ => nomatch p
 | .float _, _, p, _ => nomatch p
 | .dict _, _, p, _ => nomatch p
 | .bytearray _, _, p, _ => nomatch p
 | .set _, _, p, _ => nomatch p
 | .frozenset _, _, p, _ => nomatch p
 | .obj _ _, _, p, _ => nomatch p
theorem Vb {mg : Str -> Option Value} {K : PySem.W.Frag} {H : Hp} : ∀ (ds : List WData) (vs : List V), ZQ ds = true -> zA K H vs ds -> qt mg K (fun _ => True) H vs (Yn ds)
 | [], _, _, h => by cases h; exact .nil
 | d :: ds, _, p, h => by
  cases h with
  | cons a b =>
   have q : plD d = true /\ ZQ ds = true := Bool.and_eq_true_iff.mp p
   exact .cons (qeU d _ q.1 a) (Vb ds _ q.2 b)
end
theorem WD : ∀ ns : List Int, Yn (ns.map WData.int) = ns.map D.int
 | [] => rfl
 | n :: r => by show D.int n :: Yn (r.map WData.int) = _; rw [WD r]; rfl
theorem WX : ∀ ns : List Int, ZQ (ns.map WData.int) = true
 | [] => rfl
 | n :: r => by show (true && ZQ (r.map WData.int)) = true; rw [WX r]; rfl
mutual
theorem Dw.same {K : PySem.W.Frag} {H H' : Hp} (s : qw H H') : ∀ (d : WData) (v : V), Dw K H v d -> Dw K H' v d
 | .none, _, h => by cases h; exact .non
 | .bool b, _, h => by cases h; exact .bl b
 | .int i, _, h => by cases h; exact .int i
 | .str x, _, h => by cases h; exact .str x
 | .bytes b, _, h => by
  cases h with
  | byt b => exact .byt b
 | .list xs, _, h => by cases h with | lst q a => exact .lst (s.seq q) (zA.same s xs _ a)
 | .tuple xs, _, h => by
  cases h with
  | tup q a =>
   refine .tup ?_ (zA.same s xs _ a)
   rcases q with (q | ⟨o, q⟩) | q
   ·exact .inl (.inl (s _ _ q))
   ·exact .inl (.inr ⟨o, s _ _ q⟩)
   ·exact .inr q
 | .float _, _, h => by cases h
 | .dict _, _, h => by cases h
 | .bytearray _, _, h => by cases h
 | .set _, _, h => by cases h
 | .frozenset _, _, h => by cases h
 | .obj _ _, _, h => by cases h
theorem zA.same {K : PySem.W.Frag} {H H' : Hp} (s : qw H H') : ∀ (ds : List WData) (vs : List V), zA K H vs ds -> zA K H' vs ds
 | [], _, h => by cases h; exact .nil
 | d :: ds, _, h => by cases h with | cons a b => exact .cons (Dw.same s d _ a) (zA.same s ds _ b)
end
theorem qbi {P : Program} {w : World} {K : PySem.W.Frag} {mg mb : Str -> Option Value} {k : Nat} {fa c PT : Addr} {fd : FuncData} {ps : List Str} {sp : Sp} {s₁ : Shared} {vals : List Value} {ds : List WData} {R : PySem.W.WRecords} {cl : Str -> Option Addr} {d0 : WData}
  (KX : K.In s₁.heap) (hno : PySem.W.noTabs K = true) (hns : s₁.heap.Ns mainGlobals mg) (hb : s₁.heap.Ns builtinsNs mb) (hbb : ∀ x : Str, x ≠ "__name__" -> mb x = bootBuiltins x) (hlim : s₁.heap.NoLimit) (hg : s₁.gens = #[])
  (hc : PySem.W.CodeHd s₁.heap c PT) (htab : s₁.heap.get? PT = some (PySem.W.tabObj #[])) (hbm : ∃ bm ob, mg "__builtins__" = some (.ref bm) /\ bm ≠ builtinsNs /\ s₁.heap.get? bm = some ob /\ ob.cls = .type "module" /\ ob.dict = some builtinsNs /\ ob.data = .plain)
  (hwl : WellAll w.params s₁.heap vals ds) (hpl : Qn ds = true) (hwt : ∀ d ∈ ds, d.weight <= 1048576) (hr : wG k callerA)
  (F : ∀ base : Heap, K.In base -> base.Ns mainGlobals mg -> y8 mg base c PT -> y4 P w K mg base (CX1 P w) k fa fd ps sp) (hbind : ∀ (s : Shared) (us : List Value), us.length = ps.length -> BindsTo s fd ⟨us, []⟩ (ps.zip us)) (hlen : ds.length = ps.length)
  (hsp : ∀ (H : Hp) (xs : List V), H PT = some (.tbl #[]) -> zA K H xs ds -> sp xs H (fun v H' => Dw K H' v d0) fun _ _ _ => False) :
  codeAny (model P w) callerA (.call (.ref fa) ⟨vals, []⟩) (fun r s' => ∃ u as, r = .ok (.ret u) /\ ReadsW R cl s'.heap u d0 as /\ OldK s₁.heap s'.heap /\ s'.os = s₁.os /\ AllBare s'.gens) s₁ := by
 obtain ⟨A, ho, ar⟩ := jj ds vals hwl hpl hwt
 have hO : qdw (yW K s₁.heap A) := JB ar
 have hok0 : HOk P w (yW K s₁.heap A) s₁.heap := qdc ar
 have hS0 := Zi KX ar ds vals hwl hpl ho
 have hV := yK ho
 have hK0 : ∀ b u, yW K s₁.heap A b = some u -> K.lookup b = none := fun b u q => (QW ar q).1
 -- what is tracked is a list or a tuple
 have seqs : ∀ {b : Addr} {o : Obj}, s₁.heap.get? b = some o -> (∀ vs n, o.data ≠ .seq vs n) -> yW K s₁.heap A b = none := fun {b o} e d => by
  cases q : yW K s₁.heap A b with
  | none => rfl
  | some u =>
   obtain ⟨_, vs, _, _, ⟨e2, _⟩ | ⟨e2, _⟩⟩ := QW ar q
   ·rw [e2] at e
    cases e
    exact absurd rfl (d vs.toArray _)
   ·rw [e2] at e
    cases e
    exact absurd rfl (d vs.toArray _)
 generalize yW K s₁.heap A = H0 at hO hok0 hS0 hK0 seqs
 have hP0 : H0 PT = none := seqs htab fun vs n z => nomatch z
 have sameH : qw H0 (upd H0 PT (.tbl #[])) := vt hP0
 have hok : HOk P w (upd H0 PT (.tbl #[])) s₁.heap := fun b u q => by
  by_cases hb : b = PT
  ·subst hb
   rw [qJ] at q
   cases q
   exact htab
  ·rw [qy hb] at q
   exact (hok0 b u q).Wu (fun _ _ _ q => q) (fun c q => sameH _ _ q) fun c xs q => sameH _ _ q
 have hS := zA.same sameH ds _ hS0
 have nPK : K.lookup PT = none := by
  cases q : K.lookup PT with
  | none => rfl
  | some o =>
   have e := KX PT o q
   rw [htab] at e
   cases e
   have h2 := List.all_eq_true.mp hno (PT, _) (PySem.W.mem_of_lookupK q)
   exact absurd (show false = true from h2) Bool.false_ne_true
 have hK : ∀ b u, (upd H0 PT (.tbl #[])) b = some u -> K.lookup b = none := fun b u q => by
  by_cases hb : b = PT
  ·rw [hb]; exact nPK
  ·rw [qy hb] at q; exact hK0 b u q
 have noS : ∀ {b : Addr} {o : Obj}, s₁.heap.get? b = some o -> (∀ vs n, o.data ≠ .seq vs n) -> (∀ vs, o.data ≠ .fields vs \/ o.cls ≠ .none) -> (upd H0 PT (.tbl #[])) b = none := fun {b o} e d d2 => by
  rw [qy]
  ·exact seqs e d
  ·intro z
   rw [z, htab] at e
   cases e
   rcases d2 #[] with q | q <;> exact q rfl
 generalize hH : upd H0 PT (.tbl #[]) = H at hok hS hK noS
 have hPH : H PT = some (.tbl #[]) := by rw [<- hH]; exact qJ
 have base_of : ∀ {b : Addr} {o : Obj}, s₁.heap.get? b = some o -> H b = none -> (Wk s₁.heap H).get? b = some o := fun e n => qbV e n
 have nsK : ∀ {b : Addr} {m : Str -> Option Value}, s₁.heap.Ns b m -> (Wk s₁.heap H).Ns b m := fun {b m} ⟨o, es, ep, e, d, r⟩ => ⟨o, es, ep, base_of e (noS e (fun vs n z => by rw [d] at z; cases z) fun vs => .inl fun z => by rw [d] at z; cases z), d, r⟩
 have nK : ∀ b o, K.lookup b = some o -> H b = none := fun b o e => by
  cases q : H b with
  | none => rfl
  | some u =>
   rw [hK b u q] at e
   cases e
 have hKb : K.In (Wk s₁.heap H) := fun b o e => base_of (KX b o e) (nK b o e)
 have hM : Mod K mg (Wk s₁.heap H) := ⟨hKb, nsK hns, ⟨mb, nsK hb, hbb⟩, let ⟨mc, h1, h2⟩ := hlim; ⟨mc, nsK h1, h2⟩⟩
 have e0 : Wr P w K mg (Wk s₁.heap H) callerA [] s₁ H := ⟨rfl, hM, fun b o e => qcg e, Nat.le_of_eq (JT _ _), trivial, fun b hb => absurd (show b ∈ ([] : List Addr) from hb) (by simp), hok, .of_eq hg⟩
 have hl : vals.length = ps.length := by rw [yj hwl]; exact hlen
 have BL : y8 mg (Wk s₁.heap H) c PT := by
  refine ⟨?_, ?_⟩
  ·obtain ⟨o, vs, file, tf, flags, tg, inF, text, tt, e1, e2, e3, r⟩ := hc
   exact ⟨o, vs, file, tf, flags, tg, inF, text, tt, base_of e1 (noS e1 (fun vs n z => by rw [e3] at z; cases z) fun vs => .inr fun z => by rw [e2] at z; cases z), e2, e3, r⟩
  ·obtain ⟨bm, ob, b1, b2, b3, b4, b5, b6⟩ := hbm
   exact ⟨bm, ob, b1, b2, base_of b3 (noS b3 (fun vs n z => by rw [b6] at z; cases z) fun vs => .inl fun z => by rw [b6] at z; cases z), b4, b5, b6⟩
 refine codeAny_mono ((F _ hKb (nsK hns) BL).run callerA [] s₁ H ⟨vals, []⟩ vals (vals.map L2.toV) _ _ hr e0 (hbind s₁ vals hl) hV (hsp H _ hPH hS)) fun r s' x => ?_
 cases r with
 | error e =>
  obtain ⟨_, _, _, _, _, _, _, _, _, _, _, q⟩ := x
  exact q.elim
 | ok fl =>
  cases fl with
  | next => exact False.elim x
  | brk => exact False.elim x
  | cont => exact False.elim x
  | ret u =>
   obtain ⟨v, H', os, bare, un, hok', r', q⟩ := x
   have kept : ∀ b o, b ≠ PT -> s₁.heap.get? b = some o -> s'.heap.get? b = some o := fun b o hb e => by
    cases q2 : H b with
    | none => exact un.keep b o e q2 (by intro z; exact absurd (show b ∈ ([] : List Addr) from z) (by simp)) (by simp)
    | some u2 =>
     have q3 := q2
     rw [<- hH, qy hb] at q3
     rcases hO b with z | ⟨ob, u3, z⟩
     ·rw [q3] at z
      cases z
     ·rw [q3] at z
      cases z
      have z2 := un.frzs b ob _ q2
      obtain ⟨e1, _⟩ := hok b _ q2
      obtain ⟨e2, _⟩ := hok' b _ z2
      rw [e] at e1
      cases e1
      exact e2
   obtain ⟨more, hm⟩ := un.tbls PT #[] hPH
   have tab' : s'.heap.get? PT = some { cls := .none, data := .fields (#[] ++ more) } := hok' PT _ hm
   have KX' : K.In s'.heap := fun b o e => kept b o (fun z => by rw [z, nPK] at e; cases e) (KX b o e)
   obtain ⟨as, hrd⟩ := Dw.reads (R := R) (cl := cl) hok' KX' d0 v u q r'
   refine ⟨u, as, rfl, hrd, ⟨fun b o e => ?_, fun b o e => ?_⟩, os, bare⟩
   ·by_cases hb : b = PT
    ·subst hb
     rw [htab] at e
     cases e
     exact .inr (.inl ⟨(hc.tab htab).isCodeTable, rfl, #[], more, rfl, tab'⟩)
    ·exact .inl (kept b o hb e)
   ·by_cases hb : b = PT
    ·subst hb
     exact ⟨_, tab'⟩
    ·exact ⟨o, kept b o hb e⟩
theorem qbD {r : OpenSpec} {k : Nat} {q : Program} {loose : List Str} {XP : (Str -> Option Value) -> Heap -> Prop} {YP : World -> Heap -> Prop} {d : DefRec} {K : Params -> PySem.W.Frag} {ps : List Str} {sp : PySem.W.Frag -> (Str -> Option Value) -> Addr -> Sp} {c PT : Params -> Addr}
  (hwell : r.wellSaid = true) (hlen : r.args.length = ps.length) (hr : wG k callerA)
  (hY : ∀ (w : World) (h : Heap), YP w h -> (K w.params).In h) (hno : ∀ p, PySem.W.noTabs (K p) = true) (htab : ∀ p, PySem.W.tabIn (K p) d.name = some (c p, PT p)) (hrec : (PyProof.Rows.recsOf q).find? (fun e => e.name == d.name) = some d)
  (F : ∀ (w : World) (mg : Str -> Option Value) (fa : Addr) (h : Heap), YP w h -> (K w.params).In h -> h.Ns mainGlobals mg -> mg d.name = some (.ref fa) ->
   ∃ fd : FuncData, (∀ (s : Shared) (us : List Value), us.length = ps.length -> BindsTo s fd ⟨us, []⟩ (ps.zip us)) /\
    ∀ base : Heap, (K w.params).In base -> base.Ns mainGlobals mg -> y8 mg base (c w.params) (PT w.params) -> y4 r.prog w (K w.params) mg base (CX1 r.prog w) k fa fd ps (sp (K w.params) mg (PT w.params)))
  (hsp : ∀ (K : PySem.W.Frag) (mg : Str -> Option Value) (PT : Addr) (H : Hp) (xs : List V) (a : Codec.denoteAll r.args), H PT = some (.tbl #[]) -> Codec.withinAll r.args a = true -> Codec.app r.args r.asked a = true -> zA K H xs (Codec.encAll r.args a) ->
   sp K mg PT xs H (fun v H' => Dw K H' v (r.ret.enc (Codec.app r.args r.f a))) fun _ _ _ => False) :
  PySem.W.WalkOS q loose XP YP r d [] (fun f vs => PySem.call f vs) := by
 intro w s_0 s₁ mg mb G Y fa o pm cd doc dV kV ho hd hcd hD hmg hg args vals as hpre hlay hrd hwl hlo
 obtain ⟨a, e1, e2⟩ := PySem.W.os_pre_some hpre
 obtain ⟨e3, hwi⟩ := Codec.encAll_of_decAll r.args args a e1
 subst e3
 have KX := hY w _ Y
 obtain ⟨fd, hb, hF⟩ := F w mg fa _ Y KX G.T.g hmg
 obtain ⟨hc, ht⟩ := PySem.W.tab_of G.T KX hrec (htab w.params)
 refine PySem.W.enter_call (codeAny_mono (qbi (R := []) (cl := classAt s_0.heap) (d0 := r.ret.enc (Codec.app r.args r.f a)) KX (hno _) G.T.g G.T.b G.T.builtins G.T.nolimit hg hc ht G.T.bmain hwl (W0 _ _) (Vn hlay) hr hF hb (by rw [VS]; exact hlen)
  (fun H xs hP hS => hsp (K w.params) mg _ H xs a hP hwi e2 hS)) fun r' s' hq => ?_)
 obtain ⟨u, as', rfl, h1, h2, h3, h4⟩ := hq
 exact ⟨.inl ⟨u, _, as', rfl, fun _ => rfl, h1, (OpenSpec.post_iff hwell hwi _ _).mpr rfl, fun z => Bool.noConfusion (show false = true from z)⟩, h2, h3, h4⟩
theorem qam {K : PySem.W.Frag} {x : Str} {c PT f : Addr} {oc : Value} {od : Option Addr} {fd : FuncData} {osl : Array (Option Value)} (h : PySem.W.tabIn K x = some (c, PT)) (hn : PySem.W.nsIn K mainGlobals x = some (some (.ref f))) (lk : K.lookup f = some ⟨oc, od, .func fd, osl⟩) : fd.code = .ref c := by
 unfold PySem.W.tabIn at h
 rw [hn] at h
 dsimp only at h
 rw [lk] at h
 dsimp only at h
 split at h
 ·rename_i c' e
  split at h
  ·split at h
   ·cases h
    exact e
   ·cases h
  ·cases h
 ·cases h
inductive qbJ (P : Program) (w : World) (K : PySem.W.Frag) (mg : Str -> Option Value) (base : Heap) (st2 : Stmt) (la : List (Addr × Int)) : Prop
 | mk (f2 : Addr) (oc : Value) (od : Option Addr) (kV doc pm : Value) (an : Option Addr) (cdv ct : Value) (osl : Array (Option Value)) (h0 : ExceptHandler) (hs : List ExceptHandler) (q1 q2 q3 q4 q5 q6 q7 q8 q9 q10 : Pos) (j : Nat)
  (lk : K.lookup f2 = some ⟨oc, od, .func (PySem.W.fnOf "answered" "answered" (wR st2) (vE st2) (qf st2) .none kV doc pm an cdv ct), osl⟩) (cd : PySem.W.codeIn K cdv "answered" = true) (kp : PySem.W.keepIn K (.ref f2) = true) (hm : mg "answered" = some (.ref f2))
  (hb : vE st2 = ZS (h0 :: hs) q1 q2 q3 q4 q5 q6 q7 q8 q9 q10 j) (S : qu ["work", "told"] ["work"] (qf st2)) (hw : (qf st2).names.lookup ("work" : Str) = some .local) (ht : (qf st2).names.lookup ("told" : Str) = some .local)
  (bi : ∀ (s : Shared) (u : Value), BindsTo s (PySem.W.fnOf "answered" "answered" (wR st2) (vE st2) (qf st2) .none kV doc pm an cdv ct) ⟨[u], []⟩ ((["work"] : List Str).zip [u]))
  (hH : ∀ (A : Around) (outer : List Env) (s : Shared) (H : Hp) (E : XK), Hs (xo (CX1 P w) P w K mg base ["work", "told"] "answered" (qf st2) f2 cdv A outer s H E) (h0 :: hs) la) : qbJ P w K mg base st2 la
section
variable {X : Cx} {E : XK} {pos : Pos}
theorem xv (i : Nat) {x : Str} (hN : autoParam (X.N[i]? = some x) qm._auto_1) (hv : autoParam (Vis X.env.scope x) Ub._auto_1) (hd : autoParam ((x == ("__debug__" : Str)) = false) qV._auto_1)
  (hcd : autoParam ((x == ("__classdict__" : Str)) = false) qV._auto_1) : PE X (.Name x pos) (TEx X E (qa i)) := qdZ hN hv hd hcd
theorem xI (i : Nat) {x : Str} {e : Expr} {r : RE} {pos' : Pos} (g : Gd X E) (he : PE X e (TEx X E r)) (hi : autoParam (X.N[i]? = some x) qm._auto_1) (hx : autoParam (Loc X.env.scope x) Vd._auto_1) (hs : autoParam (swapsWith e (some (.Name x pos')) pos.line X.env = pure false) qm._auto_1)
  (hf : autoParam (X.fn x = true \/ X.env.scope.names.lookup x = some .local) Vv._auto_1) : PS X (.Assign [.Name x pos'] e pos) (TSx X E (we i r)) := qea g hi hx he hs hf
theorem qef (i : Nat) {x : Str} {p : Pos} (hN : autoParam (X.N[i]? = some x) qm._auto_1) (hv : autoParam (Vis X.env.scope x) Ub._auto_1) (hd : autoParam ((x == ("__debug__" : Str)) = false) qV._auto_1) (hcd : autoParam ((x == ("__classdict__" : Str)) = false) qV._auto_1) :
  PS X (.Return (some (.Name x p)) pos) (TSx X E (Qh i)) := qc7 hN hv hd hcd
theorem pgn (i : Nat) {x : Str} (hN : X.N.Nodup) (hi : autoParam (X.N[i]? = some x) qm._auto_1) (hx : autoParam (Loc X.env.scope x) Vd._auto_1) (hf : autoParam (X.fn x = true \/ X.env.scope.names.lookup x = some .local) Vv._auto_1) : PG X (.Name x pos) (wz i) := qcF hN hi hx hf
theorem pg2 {i j : Nat} {a b : Expr} {k : Nat} (hc : X.calm = true) (ha : PG X a (wz i)) (hb : PG X b (wz j)) (hn : autoParam ((assignEach [a, b] X.env).length = 2) qm._auto_1) (h1 : autoParam ((assignEach [a, b] X.env).map (·.2) = assign a X.env :: (assignEach [b] X.env).map (·.2)) qm._auto_1)
  (h2 : autoParam ((assignEach [b] X.env).map (·.2) = assign b X.env :: (assignEach [] X.env).map (·.2)) qm._auto_1) (hst : autoParam ((assignEach [a, b] X.env).findIdx? (·.1) = none) qm._auto_1) : PG X (.Tuple [a, b] k pos) (qcG X.K 2 (V8 (wz i) (V8 (wz j) qb3))) := qdV hc (YM ha (YM hb qb2 h2) h1) hn hst
theorem Jf {tgE : Expr} {x : Str} {p : Pos} {body : List Stmt} {g : TG} {tg : Tg} {i : Nat} {rb : RS} (G : Gd X E) (hi : PI X tgE (.Name x p) (tI X E g tg (iOf (qa i)))) (hg : PG X tgE g) (hb : PSs X body (TSx X E rb)) : PS X (.For tgE (.Name x p) body [] pos) (TSx X E (Ww tg i rb)) := by
 refine vK (X7 G hi hg hb) fun D σ H ⟨B, δ, R, h⟩ => ?_
 unfold Ww at h
 cases hδ : δ[i]? with
 | none => rw [hδ] at h; exact ⟨B, δ, R, h⟩
 | some s =>
  rw [hδ] at h
  cases s with
  | own ds =>
   have q := R.qfF hδ
   exact ⟨B, _, q.1, xf.later h q.2⟩
  | un => exact ⟨B, δ, R, h⟩
  | val d k => exact ⟨B, δ, R, h⟩
end
end L2.Ir
namespace Dm
theorem two_pow_pos (k : Nat) : 0 < 2 ^ k := Nat.two_pow_pos k
theorem vD (n d c : Nat) (hc : 0 < c) : Pv.nearest (n * c) (d * c) = Pv.nearest n d := by
 unfold Pv.nearest
 rw [Nat.mul_mod_mul_right, Nat.mul_div_mul_right _ _ hc]
 have e1 : (d * c < 2 * (n % d * c)) ↔ (d < 2 * (n % d)) := by
  rw [<- Nat.mul_assoc]
  exact Nat.mul_lt_mul_right hc
 have e2 : (2 * (n % d * c) = d * c) ↔ (2 * (n % d) = d) := by
  rw [<- Nat.mul_assoc]
  exact Nat.mul_left_inj (Nat.pos_iff_ne_zero.mp hc)
 simp only [e1, e2]
theorem jo {x k : Nat} (h1 : 2 ^ k <= x) (h2 : x < 2 ^ (k + 1)) : x.log2 = k :=
 (Nat.log2_eq_iff (Nat.pos_iff_ne_zero.mp (Nat.lt_of_lt_of_le (two_pow_pos k) h1))).mpr ⟨h1, h2⟩
theorem je {x : Nat} (h : x ≠ 0) : 2 ^ x.log2 <= x := (Nat.le_log2 h).mp (Nat.le_refl _)
theorem uh {x : Nat} (h : x ≠ 0) : x < 2 ^ (x.log2 + 1) := (Nat.log2_lt h).mp (Nat.lt_succ_self _)
theorem Yk (x a : Nat) (h : x ≠ 0) : (x * 2 ^ a).log2 = x.log2 + a := by
 refine jo ?_ ?_
 ·rw [Nat.pow_add]
  exact Nat.mul_le_mul_right _ (je h)
 ·rw [show x.log2 + a + 1 = x.log2 + 1 + a by lia, Nat.pow_add]
  exact Nat.mul_lt_mul_of_pos_right (uh h) (two_pow_pos a)
theorem YO (x b : Nat) : (x / 2 ^ b).log2 = x.log2 - b := by
 by_cases h : x = 0
 ·subst h; simp
 by_cases hb : b <= x.log2
 ·refine jo ?_ ?_
  ·rw [Nat.le_div_iff_mul_le (two_pow_pos b), <- Nat.pow_add, Nat.sub_add_cancel hb]
   exact je h
  ·rw [Nat.div_lt_iff_lt_mul (two_pow_pos b), <- Nat.pow_add, show x.log2 - b + 1 + b = x.log2 + 1 by lia]
   exact uh h
 ·have hx : x / 2 ^ b = 0 := by
   rw [Nat.div_eq_zero_iff]
   right
   exact Nat.lt_of_lt_of_le (uh h) (Nat.pow_le_pow_right (by decide) (by lia))
  rw [hx, Nat.log2_zero]; lia
noncomputable def nw (whole k : Nat) : Nat :=
 if k = 0 then whole else
 if 2 ^ (k - 1) < whole - whole / 2 ^ k * 2 ^ k \/ (whole - whole / 2 ^ k * 2 ^ k = 2 ^ (k - 1) /\ whole / 2 ^ k % 2 = 1) then whole / 2 ^ k + 1 else whole / 2 ^ k
theorem VA (whole k : Nat) : nw whole k = Pv.nearest whole (2 ^ k) := by
 unfold nw Pv.nearest
 by_cases hk : k = 0
 ·subst hk
  simp [Nat.mod_one]
 ·rw [if_neg hk]
  have e : whole - whole / 2 ^ k * 2 ^ k = whole % 2 ^ k := by
   have := Nat.div_add_mod whole (2 ^ k)
   rw [Nat.mul_comm] at this
   lia
  have e2 : 2 ^ k = 2 * 2 ^ (k - 1) := by
   rw [<- Nat.pow_succ']
   congr 1
   lia
  have c1 : 2 ^ k < 2 * (whole % 2 ^ k) ↔ 2 ^ (k - 1) < whole % 2 ^ k := by lia
  have c2 : 2 * (whole % 2 ^ k) = 2 ^ k ↔ whole % 2 ^ k = 2 ^ (k - 1) := by lia
  rw [e]
  simp only [c1, c2]
theorem uw (n d : Nat) (hd : 0 < d) : Pv.nearest (n * d) d = n := by
 unfold Pv.nearest
 rw [Nat.mul_mod_left, Nat.mul_div_cancel _ hd]
 rw [if_neg]
 lia
theorem Vl (n d m : Nat) (hd : 0 < d) (h : n < m * d) : Pv.nearest n d <= m := by
 have : n / d < m := (Nat.div_lt_iff_lt_mul hd).mpr h
 unfold Pv.nearest
 split <;> lia
theorem VM (n d m : Nat) (hd : 0 < d) (h : m * d <= n) : m <= Pv.nearest n d := by
 have : m <= n / d := (Nat.le_div_iff_mul_le hd).mpr h
 unfold Pv.nearest
 split <;> lia
theorem Jk (neg : Bool) (e kept : Nat) (h1 : kept <= 2 ^ 53) (h2 : e = 0 \/ 2 ^ 52 <= kept) :
  Pv.pack neg (2 ^ e * kept) = if 9218868437227405312 <= e * 2 ^ 52 + kept then none else some ((if neg = true then 2 ^ 63 else 0) + (e * 2 ^ 52 + kept)) := by
 have key : (Pv.LIMIT <= 2 ^ e * kept ↔ 9218868437227405312 <= e * 2 ^ 52 + kept) := by
  unfold Pv.LIMIT
  rcases h2 with rfl | h2
  ·constructor
   ·intro h
    have h54 : (2 : Nat) ^ 54 <= 2 ^ 2098 := Nat.pow_le_pow_right (by decide) (by decide)
    rw [Nat.pow_zero, Nat.one_mul] at h
    have := Nat.le_trans h54 h
    exact absurd this (by lia)
   ·intro h
    exact absurd h (by lia)
  ·constructor
   ·intro h
    have h3 : 2 ^ e * kept <= 2 ^ (e + 53) := by
     rw [Nat.pow_add]
     exact Nat.mul_le_mul_left _ h1
    have h4 : 2098 <= e + 53 := (Nat.pow_le_pow_iff_right (by decide)).mp (Nat.le_trans h h3)
    by_cases he : e = 2045
    ·subst he
     have h5 : 2 ^ 2045 * 2 ^ 53 <= 2 ^ 2045 * kept := by rw [<- Nat.pow_add]; exact h
     clear h
     have := Nat.le_of_mul_le_mul_left h5 (two_pow_pos 2045)
     clear h5 h3
     lia
    ·lia
   ·intro h
    by_cases he : 2046 <= e
    ·have h3 : 2 ^ (e + 52) <= 2 ^ e * kept := by
      rw [Nat.pow_add]
      exact Nat.mul_le_mul_left _ h2
     exact Nat.le_trans (Nat.pow_le_pow_right (by decide) (by lia)) h3
    ·have he' : e = 2045 := by lia
     subst he'
     have hk : kept = 2 ^ 53 := by lia
     rw [hk, <- Nat.pow_add]
     exact Nat.le_refl _
 unfold Pv.pack
 by_cases hl : Pv.LIMIT <= 2 ^ e * kept
 ·rw [if_pos hl, if_pos (key.mp hl)]
 ·rw [if_neg hl, if_neg (fun z => hl (key.mpr z))]
  congr 2
  rcases h2 with rfl | h2
  ·rw [Nat.pow_zero, Nat.one_mul, Nat.zero_mul, Nat.zero_add]
   by_cases hs : kept < 2 ^ 52
   ·rw [if_pos hs]
   ·rw [if_neg hs]
    by_cases h53 : kept = 2 ^ 53
    ·subst h53
     rw [Nat.log2_two_pow]
    ·rw [jo (k := 52) (by lia) (by lia)]
     lia
  ·have hge : 2 ^ 52 <= 2 ^ e * kept := Nat.le_trans h2 (Nat.le_mul_of_pos_left _ (two_pow_pos e))
   rw [if_neg (by lia)]
   have hk0 : kept ≠ 0 := by lia
   have hlog : (2 ^ e * kept).log2 = kept.log2 + e := by rw [Nat.mul_comm]; exact Yk _ _ hk0
   by_cases h53 : kept = 2 ^ 53
   ·subst h53
    rw [hlog, Nat.log2_two_pow]
    have : 2 ^ e * 2 ^ 53 / 2 ^ (53 + e - 52) = 2 ^ 52 := by
     rw [<- Nat.pow_add, Nat.pow_div (by lia) (by decide)]
     congr 1
     lia
    rw [this]
    lia
   ·have hk2 : kept.log2 = 52 := jo (by lia) (by lia)
    rw [hlog, hk2]
    have : 2 ^ e * kept / 2 ^ (52 + e - 52) = kept := by
     rw [show 52 + e - 52 = e by lia, Nat.mul_div_cancel_left _ (two_pow_pos e)]
    rw [this]
    lia
noncomputable def rnd (neg : Bool) (whole : Nat) (q : Int) : Option Nat :=
 if whole = 0 then some (if neg = true then 2 ^ 63 else 0) else
 let drop : Int := max (((whole.log2 + 1 : Nat) : Int) - 53) (-q)
 let kept : Nat := if drop <= 0 then whole * 2 ^ (-drop).toNat else nw whole drop.toNat
 let size : Nat := (q + drop).toNat * 2 ^ 52 + kept
 if 9218868437227405312 <= size then none else some ((if neg = true then 2 ^ 63 else 0) + size)
theorem qew (neg : Bool) (whole n d a b : Nat) (hd : 0 < d) (h : n * 2 ^ b = whole * 2 ^ a * d) : rnd neg whole ((a : Int) - b) = Pv.pack neg (Pv.rounded n d) := by
 have hnd : n / d = whole * 2 ^ a / 2 ^ b := by
  have e1 : n / d = n * 2 ^ b / (d * 2 ^ b) := (Nat.mul_div_mul_right _ _ (two_pow_pos b)).symm
  rw [e1, h, Nat.mul_comm d, Nat.mul_div_mul_right _ _ hd]
 unfold rnd
 by_cases hw : whole = 0
 ·subst hw
  rw [if_pos rfl]
  have hn : n = 0 := by
   rw [Nat.zero_mul, Nat.zero_mul] at h
   rcases Nat.mul_eq_zero.mp h with h | h
   ·exact h
   ·exact absurd h (Nat.pos_iff_ne_zero.mp (two_pow_pos b))
  subst hn
  have : Pv.rounded 0 d = 0 := by
   unfold Pv.rounded Pv.nearest
   simp
  rw [this]
  unfold Pv.pack Pv.LIMIT
  rw [if_neg (fun z => absurd z (Nat.not_le.mpr (two_pow_pos 2098))), if_pos (two_pow_pos 52), Nat.add_zero]
 rw [if_neg hw]
 -- the exponent of a last place
 have hlog : (n / d).log2 = whole.log2 + a - b := by rw [hnd, YO, Yk _ _ hw]
 generalize hL : whole.log2 = L at hlog
 have lo : 2 ^ L <= whole := by rw [<- hL]; exact je hw
 have hi : whole < 2 ^ (L + 1) := by rw [<- hL]; exact uh hw
 generalize he : L + a - b - 52 = e
 have hap : Pv.apart (n / d) = 2 ^ e := by
  unfold Pv.apart
  rw [hlog, he]
 have hdrop : max (((L + 1 : Nat) : Int) - 53) (-((a : Int) - b)) = (e : Int) - a + b := by lia
 dsimp only
 rw [hdrop]
 have hq : ((a : Int) - b + ((e : Int) - a + b)).toNat = e := by lia
 rw [hq]
 have hnear : Pv.nearest n (d * 2 ^ e) = Pv.nearest (whole * 2 ^ a) (2 ^ (e + b)) := by
  rw [<- vD n (d * 2 ^ e) (2 ^ b) (two_pow_pos b), h, show d * 2 ^ e * 2 ^ b = 2 ^ (e + b) * d by rw [Nat.pow_add, Nat.mul_comm d, Nat.mul_assoc, Nat.mul_assoc, Nat.mul_comm d]]
  exact vD _ _ _ hd
 have hkept : (if (e : Int) - a + b <= 0 then whole * 2 ^ (-((e : Int) - a + b)).toNat else nw whole ((e : Int) - a + b).toNat) = Pv.nearest n (d * 2 ^ e) := by
  rw [hnear]
  by_cases hc : (e : Int) - a + b <= 0
  ·rw [if_pos hc]
   have e3 : whole * 2 ^ a = whole * 2 ^ (-((e : Int) - a + b)).toNat * 2 ^ (e + b) := by
    rw [Nat.mul_assoc, <- Nat.pow_add]
    congr 2
    lia
   rw [e3, uw _ _ (two_pow_pos _)]
  ·rw [if_neg hc, VA]
   have e3 : 2 ^ (e + b) = 2 ^ ((e : Int) - a + b).toNat * 2 ^ a := by
    rw [<- Nat.pow_add]
    congr 1
    lia
   rw [e3, vD _ _ _ (two_pow_pos _)]
 rw [hkept]
 unfold Pv.rounded
 rw [hap]
 -- bounds
 have up : Pv.nearest n (d * 2 ^ e) <= 2 ^ 53 := by
  rw [hnear]
  refine Vl _ _ _ (two_pow_pos _) ?_
  rw [<- Nat.pow_add]
  refine Nat.lt_of_lt_of_le (Nat.mul_lt_mul_of_pos_right hi (two_pow_pos a)) ?_
  rw [<- Nat.pow_add]
  exact Nat.pow_le_pow_right (by decide) (by lia)
 have dn : e = 0 \/ 2 ^ 52 <= Pv.nearest n (d * 2 ^ e) := by
  by_cases h0 : e = 0
  ·exact .inl h0
  ·right
   rw [hnear]
   refine VM _ _ _ (two_pow_pos _) ?_
   rw [<- Nat.pow_add]
   refine Nat.le_trans ?_ (Nat.mul_le_mul_right _ lo)
   rw [<- Nat.pow_add]
   exact Nat.pow_le_pow_right (by decide) (by lia)
 exact (Jk neg e _ up dn).symm
end Dm
set_option exponentiation.threshold 4000
namespace Dm
theorem qa0 (neg : Bool) (whole n d a b : Nat) (hw : whole ≠ 0) (hlog : (n / d).log2 = whole.log2 + a - b)
  (hnear : Pv.nearest n (d * 2 ^ (whole.log2 + a - b - 52)) = Pv.nearest (whole * 2 ^ a) (2 ^ (whole.log2 + a - b - 52 + b))) : rnd neg whole ((a : Int) - b) = Pv.pack neg (Pv.rounded n d) := by
 unfold rnd
 rw [if_neg hw]
 generalize hL : whole.log2 = L at hlog hnear
 have lo : 2 ^ L <= whole := by rw [<- hL]; exact je hw
 have hi : whole < 2 ^ (L + 1) := by rw [<- hL]; exact uh hw
 generalize he : L + a - b - 52 = e at hnear
 have hap : Pv.apart (n / d) = 2 ^ e := by
  unfold Pv.apart
  rw [hlog, he]
 have hdrop : max (((L + 1 : Nat) : Int) - 53) (-((a : Int) - b)) = (e : Int) - a + b := by lia
 dsimp only
 rw [hdrop]
 have hq : ((a : Int) - b + ((e : Int) - a + b)).toNat = e := by lia
 rw [hq]
 have hkept : (if (e : Int) - a + b <= 0 then whole * 2 ^ (-((e : Int) - a + b)).toNat else nw whole ((e : Int) - a + b).toNat) = Pv.nearest n (d * 2 ^ e) := by
  rw [hnear]
  by_cases hc : (e : Int) - a + b <= 0
  ·rw [if_pos hc]
   have e3 : whole * 2 ^ a = whole * 2 ^ (-((e : Int) - a + b)).toNat * 2 ^ (e + b) := by
    rw [Nat.mul_assoc, <- Nat.pow_add]
    congr 2
    lia
   rw [e3, uw _ _ (two_pow_pos _)]
  ·rw [if_neg hc, VA]
   have e3 : 2 ^ (e + b) = 2 ^ ((e : Int) - a + b).toNat * 2 ^ a := by
    rw [<- Nat.pow_add]
    congr 1
    lia
   rw [e3, vD _ _ _ (two_pow_pos _)]
 rw [hkept]
 unfold Pv.rounded
 rw [hap]
 have up : Pv.nearest n (d * 2 ^ e) <= 2 ^ 53 := by
  rw [hnear]
  refine Vl _ _ _ (two_pow_pos _) ?_
  rw [<- Nat.pow_add]
  refine Nat.lt_of_lt_of_le (Nat.mul_lt_mul_of_pos_right hi (two_pow_pos a)) ?_
  rw [<- Nat.pow_add]
  exact Nat.pow_le_pow_right (by decide) (by lia)
 have dn : e = 0 \/ 2 ^ 52 <= Pv.nearest n (d * 2 ^ e) := by
  by_cases h0 : e = 0
  ·exact .inl h0
  ·right
   rw [hnear]
   refine VM _ _ _ (two_pow_pos _) ?_
   rw [<- Nat.pow_add]
   refine Nat.le_trans ?_ (Nat.mul_le_mul_right _ lo)
   rw [<- Nat.pow_add]
   exact Nat.pow_le_pow_right (by decide) (by lia)
 exact (Jk neg e _ up dn).symm
noncomputable def v3 (N M : Nat) : Nat := N / M * 2 + (if N % M = 0 then 0 else 1)
theorem XO {N M c : Nat} (hM : 0 < M) (h : N % M ≠ 0) : M * c < N ↔ c <= N / M := by
 have e := Nat.div_add_mod N M
 constructor
 ·intro q
  exact (Nat.le_div_iff_mul_le hM).mpr (by rw [Nat.mul_comm]; lia)
 ·intro q
  have : M * c <= M * (N / M) := Nat.mul_le_mul_left _ q
  lia
theorem VG (N M k : Nat) (hM : 0 < M) (hk : 2 <= k) : Pv.nearest (2 * N) (M * 2 ^ k) = Pv.nearest (v3 N M) (2 ^ k) := by
 obtain ⟨h, rfl⟩ : ∃ h, k = h + 2 := ⟨k - 2, by lia⟩
 by_cases hz : N % M = 0
 ·have e := Nat.div_add_mod N M
  rw [hz, Nat.add_zero] at e
  have hT : v3 N M = N / M * 2 := by unfold v3; rw [if_pos hz, Nat.add_zero]
  rw [hT]
  have e2 : 2 * N = N / M * 2 * M := by
   rw [Nat.mul_right_comm, Nat.mul_comm (N / M) M, e, Nat.mul_comm]
  rw [e2, Nat.mul_comm M]
  exact vD _ _ _ hM
 ·have hT : v3 N M = 2 * (N / M) + 1 := by unfold v3; rw [if_neg hz]; lia
  rw [hT]
  have hpow : 2 ^ (h + 2) = 4 * 2 ^ h := by rw [Nat.pow_add]; lia
  have hpos : 0 < 2 ^ h := two_pow_pos h
  generalize hf : N / M = f
  have e := Nat.div_add_mod N M
  rw [hf] at e
  have hlt : N % M < M := Nat.mod_lt _ hM
  -- the floors are the same
  have hq : 2 * N / M = 2 * f \/ 2 * N / M = 2 * f + 1 := by
   have e1 : 2 * N = M * (2 * f) + 2 * (N % M) := by
    rw [Nat.mul_left_comm]; lia
   rw [e1, Nat.mul_add_div hM]
   have h2 : 2 * (N % M) / M < 2 := (Nat.div_lt_iff_lt_mul hM).mpr (by lia)
   generalize 2 * (N % M) / M = z at h2
   lia
  have hF : 2 * N / (M * 2 ^ (h + 2)) = (2 * f + 1) / 2 ^ (h + 2) := by
   rw [<- Nat.div_div_eq_div_mul]
   have e2 : ∀ z, z / 2 ^ (h + 2) = z / 2 / 2 ^ (h + 1) := fun z => by
    rw [Nat.div_div_eq_div_mul]
    congr 1
    rw [Nat.pow_succ 2 (h + 1), Nat.mul_comm]
   rw [e2 (2 * N / M), e2 (2 * f + 1)]
   congr 1
   lia
  generalize hFF : (2 * f + 1) / 2 ^ (h + 2) = F at hF
  -- the halves
  have r1 := Nat.div_add_mod (2 * N) (M * 2 ^ (h + 2))
  have r2 := Nat.div_add_mod (2 * f + 1) (2 ^ (h + 2))
  rw [hF] at r1
  rw [hFF] at r2
  have key : M * (2 ^ h * (2 * F + 1)) < N ↔ 2 ^ h * (2 * F + 1) <= f := by
   have := XO (c := 2 ^ h * (2 * F + 1)) hM hz
   rw [hf] at this
   exact this
  have hne : ¬ (M * (2 ^ h * (2 * F + 1)) = N) := fun z => hz (by rw [<- z]; exact Nat.mul_mod_right _ _)
  have ex1 : M * 2 ^ (h + 2) * F = 2 * (2 * (M * (2 ^ h * F))) := by
   rw [hpow, Nat.mul_left_comm M, Nat.mul_assoc, Nat.mul_assoc]
   lia
  have ex2 : M * 2 ^ (h + 2) = 2 * (2 * (M * 2 ^ h)) := by
   rw [hpow, Nat.mul_left_comm M]
   lia
  have ex3 : M * (2 ^ h * (2 * F + 1)) = 2 * (M * (2 ^ h * F)) + M * 2 ^ h := by
   rw [Nat.mul_add, Nat.mul_add, Nat.mul_one, Nat.mul_left_comm (2 ^ h) 2, Nat.mul_left_comm M 2]
  have ex4 : 2 ^ (h + 2) * F = 2 * (2 * (2 ^ h * F)) := by
   rw [hpow, Nat.mul_assoc]; lia
  have ex5 : 2 ^ h * (2 * F + 1) = 2 * (2 ^ h * F) + 2 ^ h := by
   rw [Nat.mul_add, Nat.mul_one, Nat.mul_left_comm (2 ^ h) 2]
  rw [ex3, ex5] at key
  rw [ex3] at hne
  have c1 : M * 2 ^ (h + 2) < 2 * (2 * N % (M * 2 ^ (h + 2))) ↔ 2 ^ (h + 2) < 2 * ((2 * f + 1) % 2 ^ (h + 2)) := by lia
  have c2 : ¬ (2 * (2 * N % (M * 2 ^ (h + 2))) = M * 2 ^ (h + 2)) := by lia
  have c3 : ¬ (2 * ((2 * f + 1) % 2 ^ (h + 2)) = 2 ^ (h + 2)) := by lia
  unfold Pv.nearest
  rw [hF, hFF]
  simp only [c1, c2, c3, false_and, or_false]
theorem Ug (N M : Nat) (hM : 0 < M) (hf : 1 <= N / M) : 2 ^ (v3 N M).log2 <= N / M * 2 /\ (N / M + 1) * 2 <= 2 ^ ((v3 N M).log2 + 1) := by
 have hs : v3 N M = N / M * 2 \/ v3 N M = N / M * 2 + 1 := by unfold v3; split <;> lia
 generalize N / M = f at hs hf
 generalize v3 N M = T at hs
 have hT : T ≠ 0 := by lia
 have lo := je hT
 have hi := uh hT
 have hL : 1 <= T.log2 := by
  refine (Nat.le_log2 hT).mpr ?_
  lia
 obtain ⟨l, e⟩ : ∃ l, T.log2 = l + 1 := ⟨T.log2 - 1, by lia⟩
 rw [e] at lo hi ⊢
 rw [Nat.pow_succ] at lo hi ⊢
 rw [Nat.pow_succ] at hi ⊢
 lia
theorem XN (neg : Bool) (N M n d a b : Nat) (hM : 0 < M) (hd : 0 < d) (big : 2 ^ 54 <= N / M) (h : n * 2 ^ b * M = 2 * N * 2 ^ a * d) : rnd neg (v3 N M) ((a : Int) - b) = Pv.pack neg (Pv.rounded n d) := by
 have hs := Ug N M hM (Nat.le_trans (two_pow_pos 54) big)
 have hT : N / M * 2 <= v3 N M := by unfold v3; lia
 have hw : v3 N M ≠ 0 := by
  have := two_pow_pos 54
  lia
 have hL : 55 <= (v3 N M).log2 := (Nat.le_log2 hw).mpr (Nat.le_trans (by lia) hT)
 have hnd : n / d = 2 * N * 2 ^ a / M / 2 ^ b := by
  have e1 : n / d = n * (2 ^ b * M) / (d * (2 ^ b * M)) := (Nat.mul_div_mul_right _ _ (Nat.mul_pos (two_pow_pos b) hM)).symm
  rw [e1, <- Nat.mul_assoc, h, Nat.mul_comm d, Nat.mul_div_mul_right _ _ hd, Nat.div_div_eq_div_mul, Nat.mul_comm M]
 refine qa0 neg _ n d a b hw ?_ ?_
 ·rw [hnd, YO]
  congr 1
  generalize hLL : (v3 N M).log2 = L at hs
  refine jo ?_ ?_
  ·rw [Nat.le_div_iff_mul_le hM, Nat.pow_add, Nat.mul_right_comm]
   refine Nat.mul_le_mul_right _ ?_
   have e := Nat.div_mul_le_self N M
   calc 2 ^ L * M <= N / M * 2 * M := Nat.mul_le_mul_right _ hs.1
    _ = 2 * (N / M * M) := by rw [Nat.mul_right_comm, Nat.mul_comm]
    _ <= 2 * N := Nat.mul_le_mul_left _ e
  ·rw [Nat.div_lt_iff_lt_mul hM]
   rw [show L + a + 1 = L + 1 + a by lia, Nat.pow_add, Nat.mul_right_comm (2 ^ (L + 1))]
   refine Nat.mul_lt_mul_of_pos_right ?_ (two_pow_pos a)
   have e : N < (N / M + 1) * M := by
    have := Nat.lt_mul_div_succ N hM
    rw [Nat.mul_comm]; exact this
   calc 2 * N < 2 * ((N / M + 1) * M) := by lia
    _ = (N / M + 1) * 2 * M := by rw [Nat.mul_right_comm, Nat.mul_comm]
    _ <= 2 ^ (L + 1) * M := Nat.mul_le_mul_right _ hs.2
 ·generalize hLL : (v3 N M).log2 = L at hL
  generalize he : L + a - b - 52 = e
  obtain ⟨k, ek⟩ : ∃ k, e + b = k + a := ⟨e + b - a, by lia⟩
  have hk : 2 <= k := by lia
  have e1 : Pv.nearest n (d * 2 ^ e) = Pv.nearest (2 * N * 2 ^ a) (M * 2 ^ (e + b)) := by
   rw [<- vD n (d * 2 ^ e) (2 ^ b * M) (Nat.mul_pos (two_pow_pos b) hM), <- Nat.mul_assoc, h, show d * 2 ^ e * (2 ^ b * M) = M * 2 ^ (e + b) * d by rw [Nat.pow_add, Nat.mul_comm d, Nat.mul_assoc, Nat.mul_comm M, Nat.mul_assoc (2 ^ e * 2 ^ b), Nat.mul_comm M d, Nat.mul_assoc, Nat.mul_left_comm d]]
   exact vD _ _ _ hd
  rw [e1, ek, Nat.pow_add, <- Nat.mul_assoc, vD _ _ _ (two_pow_pos a), vD _ _ _ (two_pow_pos a)]
  exact VG N M k hM hk
noncomputable def sg (x : Nat) : Nat := x / 2 ^ 63
noncomputable def sz (x : Nat) : Nat := x % 2 ^ 63
noncomputable def wh (x : Nat) : Nat := if sz x = x % 2 ^ 52 then x % 2 ^ 52 else x % 2 ^ 52 + 2 ^ 52
noncomputable def ex (x : Nat) : Nat := max (sz x / 2 ^ 52) 1 - 1
noncomputable def sw (x : Nat) : Int := if sg x = 1 then -(wh x : Int) else wh x
theorem zg (x : Nat) : Pv.exponent x = sz x / 2 ^ 52 := by
 unfold Pv.exponent sz
 omega
theorem yP (x : Nat) (h : x < 2 ^ 64) : Pv.isNeg x = decide (sg x = 1) := by
 unfold Pv.isNeg sg
 rw [Nat.testBit_eq_decide_div_mod_eq]
 congr 1
 have : x / 2 ^ 63 < 2 := by lia
 rw [Nat.mod_eq_of_lt this]
theorem j8 (x : Nat) : sz x = x % 2 ^ 52 ↔ Pv.exponent x = 0 := by
 rw [zg]
 unfold sz
 lia
theorem jz (x : Nat) : Pv.mag x = wh x * 2 ^ ex x := by
 unfold Pv.mag wh ex
 by_cases h : Pv.exponent x = 0
 ·rw [if_pos h, if_pos ((j8 x).mpr h)]
  rw [zg] at h
  rw [h]
  simp
 ·rw [if_neg h, if_neg (fun z => h ((j8 x).mp z)), Nat.add_comm]
  rw [zg] at h ⊢
  rw [Nat.max_eq_left (by lia)]
theorem val_eq (x : Nat) (h : x < 2 ^ 64) : Pv.val x = sw x * 2 ^ ex x := by
 unfold Pv.val sw
 rw [yP x h, jz]
 by_cases hs : sg x = 1
 ·rw [if_pos (decide_eq_true hs), if_pos hs]
  simp [Int.neg_mul]
 ·rw [if_neg (by simpa using hs), if_neg hs]
  simp
theorem YK (x : Nat) : wh x < 2 ^ 53 := by unfold wh; split <;> lia
theorem xW (x : Nat) : wh x = 0 ↔ sz x = 0 := by
 unfold wh sz
 split <;> lia
theorem y9 (x : Nat) : Pv.mag x = 0 ↔ sz x = 0 := by
 rw [jz, Nat.mul_eq_zero, xW]
 constructor
 ·rintro (h | h)
  ·exact h
  ·exact absurd h (Nat.pos_iff_ne_zero.mp (two_pow_pos _))
 ·exact .inl
theorem X3 (x : Nat) : Pv.isFinite x = decide (sz x < 9218868437227405312) := by
 unfold Pv.isFinite
 rw [zg]
 have : sz x < 2 ^ 63 := by unfold sz; lia
 by_cases h : sz x < 9218868437227405312
 ·rw [decide_eq_true h]
  have : sz x / 2 ^ 52 < 2047 := by lia
  simp only [bne_iff_ne, ne_eq]
  lia
 ·rw [decide_eq_false h]
  have : sz x / 2 ^ 52 = 2047 := by lia
  rw [this]
  rfl
noncomputable def flip (x : Nat) : Nat := if sg x = 1 then x - 2 ^ 63 else x + 2 ^ 63
theorem Y9 (x : Nat) (h : x < 2 ^ 64) : Pv.minus x = flip x := by
 unfold Pv.minus flip
 rw [yP x h]
 by_cases hs : sg x = 1
 ·rw [if_pos (decide_eq_true hs), if_pos hs]
 ·rw [if_neg (by simpa using hs), if_neg hs]
theorem qcz (x : Nat) (h : x < 2 ^ 64) : flip x < 2 ^ 64 := by
 unfold flip sg
 split <;> lia
theorem qaq (x : Nat) (h : x < 2 ^ 64) : x ^^^ 2 ^ 63 = flip x := by
 unfold flip sg
 refine Nat.eq_of_testBit_eq fun i => ?_
 rw [Nat.testBit_xor, Nat.testBit_two_pow]
 split
 ·rename_i hs
  have hx : x = 2 ^ 63 + (x - 2 ^ 63) := by lia
  have hlt : x - 2 ^ 63 < 2 ^ 63 := by lia
  generalize x - 2 ^ 63 = y at hx hlt
  subst hx
  by_cases hi : i = 63
  ·subst hi
   simp only [decide_true]
   rw [Nat.testBit_two_pow_add_eq, Nat.testBit_lt_two_pow hlt]
   rfl
  ·rw [decide_eq_false (fun z => hi z.symm), Bool.xor_false]
   by_cases h2 : i < 63
   ·exact Nat.testBit_two_pow_add_gt h2 y
   ·rw [Nat.testBit_lt_two_pow (Nat.lt_of_lt_of_le hlt (Nat.pow_le_pow_right (by decide) (by lia))), Nat.testBit_lt_two_pow]
    exact Nat.lt_of_lt_of_le h (Nat.pow_le_pow_right (by decide) (by lia))
 ·rename_i hs
  have hlt : x < 2 ^ 63 := by lia
  rw [Nat.add_comm x]
  by_cases hi : i = 63
  ·subst hi
   simp only [decide_true]
   rw [Nat.testBit_two_pow_add_eq, Nat.testBit_lt_two_pow hlt]
   rfl
  ·rw [decide_eq_false (fun z => hi z.symm), Bool.xor_false]
   by_cases h2 : i < 63
   ·exact (Nat.testBit_two_pow_add_gt h2 x).symm
   ·rw [Nat.testBit_lt_two_pow (Nat.lt_of_lt_of_le hlt (Nat.pow_le_pow_right (by decide) (by lia))), Nat.testBit_lt_two_pow]
    exact Nat.lt_of_lt_of_le (show 2 ^ 63 + x < 2 ^ 64 by lia) (Nat.pow_le_pow_right (by decide) (by lia))
noncomputable def XF (x y z : Nat) : Option Nat :=
 let pxy : Int := ex x + ex y - 2148
 let pz : Int := ex z - 1074
 let low : Int := min pxy pz
 let total : Int := sw x * sw y * 2 ^ (pxy - low).toNat + sw z * 2 ^ (pz - low).toNat
 if total = 0 then some (if (sg x ≠ sg y) /\ sg z = 1 then 2 ^ 63 else 0)
 else rnd (decide (total < 0)) total.natAbs (low + 1074)
noncomputable def jQ (x y : Nat) : Option Nat := if sz y = 0 then none else rnd (decide (sg x ≠ sg y)) (v3 (wh x * 2 ^ 112) (wh y)) ((ex x : Int) - ex y + 961)
theorem qaI {x y : Nat} (hx : x < 2 ^ 64) (hy : y < 2 ^ 64) : (Pv.isNeg x != Pv.isNeg y) = decide (sg x ≠ sg y) := by
 rw [yP x hx, yP y hy]
 have h1 : sg x = 0 \/ sg x = 1 := by unfold sg; lia
 have h2 : sg y = 0 \/ sg y = 1 := by unfold sg; lia
 rcases h1 with h1 | h1 <;> rcases h2 with h2 | h2 <;> rw [h1, h2] <;> rfl
theorem qbb : (Pv.UNIT : Int) = 2 ^ 1074 := by
 unfold Pv.UNIT
 rw [Int.natCast_pow]
 rfl
theorem qbs {x y z : Nat} (hx : x < 2 ^ 64) (hy : y < 2 ^ 64) (hz : z < 2 ^ 64) : XF x y z = Pv.fused x y z := by
 unfold XF Pv.fused Pv.ofSum
 dsimp only
 generalize hlow : min ((ex x : Int) + ex y - 2148) ((ex z : Int) - 1074) = low
 obtain ⟨a, ha⟩ : ∃ a : Nat, low + 2148 = a := ⟨(low + 2148).toNat, by lia⟩
 have e1 : ((ex x : Int) + ex y - 2148 - low).toNat + a = ex x + ex y := by lia
 have e2 : ((ex z : Int) - 1074 - low).toNat + a = ex z + 1074 := by lia
 generalize ((ex x : Int) + ex y - 2148 - low).toNat = u at e1
 generalize ((ex z : Int) - 1074 - low).toNat = v at e2
 have hs : Pv.val x * Pv.val y + Pv.val z * (Pv.UNIT : Int) = (sw x * sw y * 2 ^ u + sw z * 2 ^ v) * 2 ^ a := by
  rw [val_eq x hx, val_eq y hy, val_eq z hz, Int.add_mul]
  congr 1
  ·rw [Int.mul_assoc (sw x * sw y), <- Int.pow_add, e1, Int.pow_add]
   ac_rfl
  ·rw [Int.mul_assoc, Int.mul_assoc, <- Int.pow_add, e2]
   rw [Int.pow_add, qbb]
 rw [hs]
 generalize htot : sw x * sw y * 2 ^ u + sw z * 2 ^ v = total
 have hpa : (2 : Int) ^ a ≠ 0 := Int.ne_of_gt (Int.pow_pos (by decide))
 by_cases h0 : total = 0
 ·rw [if_pos h0, h0, Int.zero_mul, if_pos rfl]
  rw [yP z hz, qaI hx hy]
  congr 1
  by_cases c1 : sg x ≠ sg y <;> by_cases c2 : sg z = 1 <;> simp [c1, c2]
 ·rw [if_neg h0, if_neg (fun q => (Int.mul_eq_zero.mp q).elim h0 hpa)]
  have hneg : decide (total * 2 ^ a < 0) = decide (total < 0) := by
   congr 1
   refine propext ⟨fun q => ?_, fun q => ?_⟩
   ·refine Int.not_le.mp fun z => ?_
    exact absurd (Int.mul_nonneg z (Int.le_of_lt (Int.pow_pos (by decide) : (0 : Int) < 2 ^ a))) (Int.not_le.mpr q)
   ·exact Int.mul_neg_of_neg_of_pos q (Int.pow_pos (by decide))
  rw [hneg]
  have hq : low + 1074 = (a : Int) - (1074 : Nat) := by lia
  rw [hq]
  refine qew _ _ _ _ a 1074 (two_pow_pos 1074) ?_
  rw [Int.natAbs_mul, Int.natAbs_pow]
  rfl
theorem qdJ {x y : Nat} (hx : x < 2 ^ 64) (hy : y < 2 ^ 64) : jQ x y = Pv.div x y := by
 unfold jQ Pv.div
 by_cases h0 : sz y = 0
 ·rw [if_pos h0, if_pos ((y9 y).mpr h0)]
 rw [if_neg h0, if_neg (fun z => h0 ((y9 y).mp z)), qaI hx hy]
 have hM : 0 < wh y := Nat.pos_of_ne_zero fun z => h0 ((xW y).mp z)
 by_cases hx0 : wh x = 0
 ·have hm : Pv.mag x = 0 := by rw [jz, hx0, Nat.zero_mul]
  rw [hx0, hm]
  have : v3 (0 * 2 ^ 112) (wh y) = 0 := by unfold v3; simp
  rw [this, Nat.zero_mul]
  have hr : Pv.rounded 0 (Pv.mag y) = 0 := by unfold Pv.rounded Pv.nearest; simp
  rw [hr]
  unfold rnd Pv.pack Pv.LIMIT
  rw [if_pos rfl, if_neg (fun z => absurd z (Nat.not_le.mpr (two_pow_pos 2098))), if_pos (two_pow_pos 52), Nat.add_zero]
 ·have big : 2 ^ 54 <= wh x * 2 ^ 112 / wh y := by
   rw [Nat.le_div_iff_mul_le hM]
   have := YK y
   calc 2 ^ 54 * wh y <= 2 ^ 54 * 2 ^ 53 := Nat.mul_le_mul_left _ (Nat.le_of_lt this)
    _ <= 1 * 2 ^ 112 := by decide
    _ <= wh x * 2 ^ 112 := Nat.mul_le_mul_right _ (by lia)
  have := XN (decide (sg x ≠ sg y)) (wh x * 2 ^ 112) (wh y) (Pv.mag x * Pv.UNIT) (Pv.mag y) (ex x + 961) (ex y) hM (by
   rw [jz]; exact Nat.mul_pos hM (two_pow_pos _)) big (by
   rw [jz, jz]
   unfold Pv.UNIT
   have e : (2 : Nat) ^ 1074 = 2 * 2 ^ 112 * 2 ^ 961 := by
    rw [show (1074 : Nat) = 1 + 112 + 961 from rfl, Nat.pow_add, Nat.pow_add]
   rw [e, Nat.pow_add]
   ac_rfl)
  rw [<- this]
  congr 1
  lia
end Dm
set_option maxHeartbeats 2000000
namespace Dt
open PySem L2 L2.Ir
open Classical in
noncomputable def fn1 (P : Int -> Prop) (h : Int -> Rs (D × Bool)) : Fn
 | [.int x] => if P x then h x else .no
 | _ => .no
open Classical in
noncomputable def fn2 (P : Int -> Int -> Prop) (h : Int -> Int -> Rs (D × Bool)) : Fn
 | [.int x, .int y] => if P x y then h x y else .no
 | _ => .no
open Classical in
noncomputable def fn3 (P : Int -> Int -> Int -> Prop) (h : Int -> Int -> Int -> Rs (D × Bool)) : Fn
 | [.int x, .int y, .int z] => if P x y z then h x y z else .no
 | _ => .no
theorem zU {P : Int -> Prop} {h : Int -> Rs (D × Bool)} {x : Int} (p : P x) : fn1 P h [.int x] = h x := by unfold fn1; exact if_pos p
theorem Z2 {P : Int -> Int -> Prop} {h : Int -> Int -> Rs (D × Bool)} {x y : Int} (p : P x y) : fn2 P h [.int x, .int y] = h x y := by unfold fn2; exact if_pos p
theorem Zc {P : Int -> Int -> Int -> Prop} {h : Int -> Int -> Int -> Rs (D × Bool)} {x y z : Int} (p : P x y z) : fn3 P h [.int x, .int y, .int z] = h x y z := by unfold fn3; exact if_pos p
theorem xQ {P : Int -> Prop} {h : Int -> Rs (D × Bool)} {r : RS} {N : List Str} (q : ∀ x, P x -> res (r (sl0 N [.int x])) = h x) : ∀ ds : List D, ds.length = 1 -> fn1 P h ds = .no \/ res (r (sl0 N ds)) = fn1 P h ds := by
 intro ds hl
 match ds, hl with
 | [.int x], _ =>
  by_cases p : P x
  ·right; rw [zU p]; exact q x p
  ·left; unfold fn1; exact if_neg p
 | [.non], _ => exact .inl rfl
 | [.bl _], _ => exact .inl rfl
 | [.lst _], _ => exact .inl rfl
 | [.tup _], _ => exact .inl rfl
 | [.fn _], _ => exact .inl rfl
 | [.obj _ _ _], _ => exact .inl rfl
theorem qbm {P : Int -> Int -> Prop} {h : Int -> Int -> Rs (D × Bool)} {r : RS} {N : List Str} (q : ∀ x y, P x y -> res (r (sl0 N [.int x, .int y])) = h x y) : ∀ ds : List D, ds.length = 2 -> fn2 P h ds = .no \/ res (r (sl0 N ds)) = fn2 P h ds := by
 intro ds hl
 match ds, hl with
 | [a, b], _ =>
  cases a with
  | int x =>
   cases b with
   | int y =>
    by_cases p : P x y
    ·right; rw [Z2 p]; exact q x y p
    ·left; unfold fn2; exact if_neg p
   | _ => exact .inl rfl
  | _ => exact .inl rfl
theorem qaU {P : Int -> Int -> Int -> Prop} {h : Int -> Int -> Int -> Rs (D × Bool)} {r : RS} {N : List Str} (q : ∀ x y z, P x y z -> res (r (sl0 N [.int x, .int y, .int z])) = h x y z) : ∀ ds : List D, ds.length = 3 -> fn3 P h ds = .no \/ res (r (sl0 N ds)) = fn3 P h ds := by
 intro ds hl
 match ds, hl with
 | [a, b, e], _ =>
  cases a with
  | int x =>
   cases b with
   | int y =>
    cases e with
    | int z =>
     by_cases p : P x y z
     ·right; rw [Zc p]; exact q x y z p
     ·left; unfold fn3; exact if_neg p
    | _ => exact .inl rfl
   | _ => exact .inl rfl
  | _ => exact .inl rfl
noncomputable def U64 (x : Int) : Prop := 0 <= x /\ x < 18446744073709551616
noncomputable instance (x : Int) : Decidable (U64 x) := inferInstanceAs (Decidable (0 <= x /\ x < 18446744073709551616))
noncomputable def Fi (x : Int) : Prop := U64 x /\ x % 9223372036854775808 < 9218868437227405312
noncomputable instance (x : Int) : Decidable (Fi x) := inferInstanceAs (Decidable (U64 x /\ x % 9223372036854775808 < 9218868437227405312))
noncomputable def iv (i : Int) : Rs (D × Bool) := .ok (.int i, false)
noncomputable def bv (b : Bool) : Rs (D × Bool) := .ok (.bl b, false)
noncomputable def qA : Fn := fn1 U64 fun x => iv (x % 9223372036854775808)
noncomputable def wN : Fn := fn1 U64 fun x => bv (decide (x % 9223372036854775808 < 9218868437227405312))
noncomputable def Wl : List D -> Option (List Nat)
 | [] => some []
 | .lst l :: r => (Wl r).map (l.length :: ·)
 | _ => none
noncomputable def qY : Fn
 | [.lst ss, .lst ls, .lst cs] => match intsOf ss, Wl ls, intsOf cs with
  | some ns, some ks, some ms => if (ns.all fun n => decide (1 <= n /\ n <= 16)) = true /\ ((ks.zip ms).all fun p => decide ((p.1 : Int) = p.2)) = true then .ok (.non, false) else .er "WrongCount"
  | _, _, _ => .no
 | _ => .no
noncomputable def qQ : Fn
 | [.lst xs] => match intsOf xs with
  | some ns => if ∀ n ∈ ns, U64 n then (if ∀ n ∈ ns, Fi n then .ok (.non, false) else .er "NotFinite") else .no
  | none => .no
 | _ => .no
noncomputable def vC : Fn
 | [.lst xs] => if xs.all D.sc = true /\ xs.length < LIM then .ok (.lst (.int xs.length :: xs), true) else .no
 | _ => .no
noncomputable def ze (a : PvCalls.Answer) : Rs (D × Bool) := match a with
 | .refused z => if z = -1 then .er "WrongCount" else if z = -2 then .er "NotFinite" else if z = -3 then .er "StepNotFinite" else if z = -4 then .er "NotAsTold" else .no
 | a => .ok (.lst ((TableNeutral.told a).tail.map D.int), true)
noncomputable abbrev jc (ns : List Int) : Prop := ∀ n ∈ ns, U64 n
noncomputable def nats (ns : List Int) : List Nat := ns.map Int.toNat
noncomputable def jP : RS := (v7 (qd (jG Builtin.bitAnd) (qa 0) (qd wD (rC (.int (9223372036854775808))) (rC (.int 1)))))
noncomputable def yp : RS := (v7 (qd (yg fun i j => decide (i < j)) (qg qA (qc (qa 0) qi)) (rC (.int (9218868437227405312)))))
noncomputable def zl : RS := (wx (Ww (.one 3) 0 (sIf (Wv (tBl (qd (yg fun i j => decide (i < j)) (qa 3) (rC (.int 1)))) (tBl (qd (yg fun i j => decide (j < i)) (qa 3) (rC (.int (16)))))) (zR "WrongCount") zu)) (Xj (.two 4 5) (XR (qa 1) (qa 2)) (sIf (tBl (qd (oEq true) (vB wV (qc (qa 4) qi)) (qa 5))) (zR "WrongCount") zu)))
noncomputable def zv : RS := (Ww (.one 1) 0 (sIf (Ym (tBl (qg wN (qc (qa 1) qi)))) (zR "NotFinite") zu))
noncomputable def jm : RS := (v7 (qd vx (yU (qc (vB wV (qc (qa 0) qi)) qi)) (qa 0)))
noncomputable abbrev Hr (r : RS) (N : List Str) (n : Nat) (g : Fn) : Prop := ∀ ds : List D, ds.length = n -> g ds = .no \/ res (r (sl0 N ds)) = g ds
theorem JE (x : Int) (h : U64 x) : res (jP (sl0 ["x"] [.int x])) = iv (x % 9223372036854775808) := by
 have e : Builtin.bitAnd x (2 ^ 63 - 1) = x % 2 ^ 63 := Bits.j9 63 h.1
 have e2 : Builtin.bitAnd x (9223372036854775808 - 1) = x % 9223372036854775808 := e
 show (Rs.ok (D.int (Builtin.bitAnd x (9223372036854775808 - 1)), false) : Rs (D × Bool)) = _
 rw [e2]
 rfl
theorem XD : Hr jP ["x"] 1 qA := xQ JE
theorem yQ {x : Int} (h : U64 x) : qA [.int x] = iv (x % 9223372036854775808) := zU h
theorem Yf (x : Int) (h : U64 x) : res (yp (sl0 ["x"] [.int x])) = bv (decide (x % 9223372036854775808 < 9218868437227405312)) := by
 simp [yp, sl0, v7, freeze, frz, qd, qa, rC, qg, qc, qi, yg, res, bv, iv, Rs.bind, yQ h, kB]
theorem W7 : Hr yp ["x"] 1 wN := xQ Yf
theorem Qc {x : Int} (h : U64 x) : wN [.int x] = bv (decide (x % 9223372036854775808 < 9218868437227405312)) := zU h
theorem yy {tg : Tg} {body : RS} {c : Str} {good : DK -> Prop} {J : Dl -> Prop} : ∀ {xs : List DK}, (∀ x ∈ xs, ∀ δ, J δ -> ∃ δ1, tg.put x δ = some δ1 /\ (good x -> ∃ δ2, body δ1 = .nx δ2 /\ J δ2) /\ (¬ good x -> body δ1 = .er c)) ->
  ∀ δ, J δ -> ((∀ x ∈ xs, good x) -> ∃ δ', turns tg body xs δ = .nx δ' /\ J δ') /\ (¬ (∀ x ∈ xs, good x) -> turns tg body xs δ = .er c)
 | [], _, δ, j => ⟨fun _ => ⟨δ, rfl, j⟩, fun h => absurd (fun x hx => absurd hx (by simp)) h⟩
 | x :: r, st, δ, j => by
  obtain ⟨δ1, hp, h1, h2⟩ := st x (List.mem_cons_self) δ j
  have ih := yy (xs := r) fun y hy => st y (List.mem_cons_of_mem _ hy)
  by_cases g : good x
  ·obtain ⟨δ2, hb, j2⟩ := h1 g
   obtain ⟨k1, k2⟩ := ih δ2 j2
   have e : turns tg body (x :: r) δ = turns tg body r δ2 := by
    show (match tg.put x δ with | none => _ | some δ1 => _) = _
    rw [hp]
    dsimp only
    rw [hb]
   rw [e]
   exact ⟨fun h => k1 fun y hy => h y (List.mem_cons_of_mem _ hy), fun h => k2 fun q => h fun y hy => by
    rcases List.mem_cons.mp hy with rfl | hy
    ·exact g
    ·exact q y hy⟩
  ·refine ⟨fun h => absurd (h x (List.mem_cons_self)) g, fun _ => ?_⟩
   show (match tg.put x δ with | none => _ | some δ1 => _) = _
   rw [hp]
   dsimp only
   rw [h2 g]
theorem U9 : ∀ {ls : List D} {ks : List Nat}, Wl ls = some ks -> ∃ xss : List (List D), ls = xss.map D.lst /\ ks = xss.map List.length
 | [], ks, h => by cases h; exact ⟨[], rfl, rfl⟩
 | .lst l :: r, ks, h => by
  have h : (Wl r).map (l.length :: ·) = some ks := h
  cases e : Wl r with
  | none => rw [e] at h; cases h
  | some q =>
   rw [e] at h
   cases h
   obtain ⟨xss, e1, e2⟩ := U9 e
   exact ⟨l :: xss, by rw [e1]; rfl, by rw [e2]; rfl⟩
 | .non :: _, _, h => nomatch h
 | .bl _ :: _, _, h => nomatch h
 | .int _ :: _, _, h => nomatch h
 | .tup _ :: _, _, h => nomatch h
 | .fn _ :: _, _, h => nomatch h
 | .obj _ _ _ :: _, _, h => nomatch h
theorem Yl : ∀ xss : List (List D), Wl (xss.map D.lst) = some (xss.map List.length)
 | [] => rfl
 | x :: r => by show (Wl (r.map D.lst)).map (x.length :: ·) = _; rw [Yl r]; rfl
theorem Z0 {α β γ δ : Type} (f : α -> γ) (g : β -> δ) : ∀ (xs : List α) (ys : List β), (xs.map f).zip (ys.map g) = (xs.zip ys).map fun p => (f p.1, g p.2)
 | [], _ => rfl
 | _ :: _, [] => rfl
 | x :: xs, y :: ys => by
  rw [List.map_cons, List.map_cons, List.zip_cons_cons, List.zip_cons_cons, List.map_cons, Z0 f g xs ys]
theorem VW (ns ms : List Int) (xss : List (List D)) : res (zl (sl0 ["sizes", "lists", "counts", "size", "numbers", "count"] [.lst (ns.map .int), .lst (xss.map .lst), .lst (ms.map .int)])) =
  if (ns.all fun n => decide (1 <= n /\ n <= 16)) = true /\ (((xss.map List.length).zip ms).all fun p => decide ((p.1 : Int) = p.2)) = true then .ok (.non, false) else .er "WrongCount" := by
 have hs : sl0 ["sizes", "lists", "counts", "size", "numbers", "count"] [.lst (ns.map .int), .lst (xss.map .lst), .lst (ms.map .int)] = [.val (.lst (ns.map .int)) false, .val (.lst (xss.map .lst)) false, .val (.lst (ms.map .int)) false, .un, .un, .un] := rfl
 rw [hs]
 generalize hA : Sl.val (.lst (ns.map .int)) false = A
 generalize hB : Sl.val (.lst (xss.map .lst)) false = B
 generalize hC : Sl.val (.lst (ms.map .int)) false = C
 -- the sizes
 have L1 := yy (tg := .one 3) (c := "WrongCount") (body := sIf (Wv (tBl (qd (yg fun i j => decide (i < j)) (qa 3) (rC (.int 1)))) (tBl (qd (yg fun i j => decide (j < i)) (qa 3) (rC (.int (16)))))) (zR "WrongCount") zu)
  (good := fun x => ∃ n, x.1 = .int n /\ 1 <= n /\ n <= 16) (J := fun δ => ∃ s : Sl, δ = [A, B, C, s, .un, .un]) (xs := (ns.map D.int).map fun d => (d, Kd.sh)) (by
   rintro x hx δ ⟨s, rfl⟩
   rw [List.map_map] at hx
   obtain ⟨n, _, rfl⟩ := List.mem_map.mp hx
   refine ⟨[A, B, C, .val (.int n) true, .un, .un], rfl, fun ⟨m, e, h1, h2⟩ => ⟨[A, B, C, .val (.int n) true, .un, .un], ?_, .val (.int n) true, rfl⟩, fun h => ?_⟩
   ·cases e
    have e1 : ¬ n < 1 := by lia
    have e2 : ¬ 16 < n := by lia
    simp [sIf, Wv, tBl, qd, qa, rC, yg, Rs.bind, zu, e1, e2]
   ·by_cases h1 : n < 1
    ·simp [sIf, Wv, tBl, qd, qa, rC, yg, Rs.bind, zR, h1]
    ·have h2 : 16 < n := by
      refine Int.not_le.mp fun q => h ⟨n, rfl, by lia, q⟩
     simp [sIf, Wv, tBl, qd, qa, rC, yg, Rs.bind, zR, h1, h2]) [A, B, C, .un, .un, .un] ⟨.un, rfl⟩
 have g1 : (∀ x ∈ (ns.map D.int).map fun d => (d, Kd.sh), ∃ n, x.1 = .int n /\ 1 <= n /\ n <= 16) ↔ (ns.all fun n => decide (1 <= n /\ n <= 16)) = true := by
  rw [List.all_eq_true]
  constructor
  ·intro h n hn
   obtain ⟨m, e, h1, h2⟩ := h (.int n, .sh) (by rw [List.map_map]; exact List.mem_map.mpr ⟨n, hn, rfl⟩)
   cases e
   exact decide_eq_true ⟨h1, h2⟩
  ·intro h x hx
   rw [List.map_map] at hx
   obtain ⟨n, hn, rfl⟩ := List.mem_map.mp hx
   have := of_decide_eq_true (h n hn)
   exact ⟨n, rfl, this.1, this.2⟩
 have f1 : ∀ rb, Ww (.one 3) 0 rb [A, B, C, .un, .un, .un] = turns (.one 3) rb ((ns.map D.int).map fun d => (d, Kd.sh)) [A, B, C, .un, .un, .un] := fun rb => by rw [<- hA]; rfl
 unfold zl wx
 rw [f1]
 by_cases c1 : (ns.all fun n => decide (1 <= n /\ n <= 16)) = true
 ·obtain ⟨δ', e1, s, rfl⟩ := L1.1 (g1.mpr c1)
  rw [e1]
  dsimp only [Out.andThen]
  have f2 : ∀ rb, Xj (.two 4 5) (XR (qa 1) (qa 2)) rb [A, B, C, s, .un, .un] = turns (.two 4 5) rb (((xss.map D.lst).zip (ms.map D.int)).map fun p => (.tup [p.1, p.2], Kd.sh)) [A, B, C, s, .un, .un] := fun rb => by rw [<- hB, <- hC]; rfl
  rw [f2, Z0, List.map_map]
  have L2 := yy (tg := .two 4 5) (c := "WrongCount") (body := sIf (tBl (qd (oEq true) (vB wV (qc (qa 4) qi)) (qa 5))) (zR "WrongCount") zu)
   (good := fun x => ∃ l m, x.1 = .tup [.lst l, .int m] /\ (l.length : Int) = m) (J := fun δ => ∃ s1 s2 : Sl, δ = [A, B, C, s, s1, s2]) (xs := (xss.zip ms).map ((fun p : D × D => (D.tup [p.1, p.2], Kd.sh)) ∘ fun p : List D × Int => (D.lst p.1, D.int p.2))) (by
    rintro x hx δ ⟨s1, s2, rfl⟩
    obtain ⟨⟨l, m⟩, hp, rfl⟩ := List.mem_map.mp hx
    refine ⟨[A, B, C, s, .val (.lst l) false, .val (.int m) true], rfl, fun ⟨l', m', e, h1⟩ => ⟨[A, B, C, s, .val (.lst l) false, .val (.int m) true], ?_, _, _, rfl⟩, fun h => ?_⟩
    ·cases e
     unfold sIf
     rw [show tBl (qd (oEq true) (vB wV (qc (qa 4) qi)) (qa 5)) [A, B, C, s, .val (.lst l) false, .val (.int m) true] = .ok (!decide ((l.length : Int) = m)) from rfl, decide_eq_true h1]
     rfl
    ·have h1 : ¬ (l.length : Int) = m := fun q => h ⟨l, m, rfl, q⟩
     unfold sIf
     rw [show tBl (qd (oEq true) (vB wV (qc (qa 4) qi)) (qa 5)) [A, B, C, s, .val (.lst l) false, .val (.int m) true] = .ok (!decide ((l.length : Int) = m)) from rfl, decide_eq_false h1]
     rfl) [A, B, C, s, .un, .un] ⟨.un, .un, rfl⟩
  have g2 : (∀ x ∈ (xss.zip ms).map ((fun p : D × D => (D.tup [p.1, p.2], Kd.sh)) ∘ fun p : List D × Int => (D.lst p.1, D.int p.2)), ∃ l m, x.1 = .tup [.lst l, .int m] /\ (l.length : Int) = m) ↔ (((xss.map List.length).zip ms).all fun p => decide ((p.1 : Int) = p.2)) = true := by
   have e : (xss.map List.length).zip ms = (xss.zip ms).map fun p => (p.1.length, p.2) := by
    have := Z0 List.length (id : Int -> Int) xss ms
    rw [List.map_id] at this
    exact this
   rw [e, List.all_map, List.all_eq_true]
   constructor
   ·intro h p hp
    obtain ⟨l, m, e, h1⟩ := h _ (List.mem_map.mpr ⟨p, hp, rfl⟩)
    cases e
    exact decide_eq_true h1
   ·intro h x hx
    obtain ⟨p, hp, rfl⟩ := List.mem_map.mp hx
    exact ⟨p.1, p.2, rfl, of_decide_eq_true (h p hp)⟩
  by_cases c2 : (((xss.map List.length).zip ms).all fun p => decide ((p.1 : Int) = p.2)) = true
  ·obtain ⟨δ', e2, _⟩ := L2.1 (g2.mpr c2)
   rw [e2, if_pos ⟨c1, c2⟩]
   rfl
  ·rw [L2.2 (fun h => c2 (g2.mp h)), if_neg (fun h => c2 h.2)]
   rfl
 ·have e1 := L1.2 (fun h => c1 (g1.mp h))
  rw [e1, if_neg (fun h => c1 h.1)]
  rfl
theorem QA : Hr zl ["sizes", "lists", "counts", "size", "numbers", "count"] 3 qY := by
 intro ds hl
 match ds, hl with
 | [a, b, c], _ =>
  cases a with
  | lst ss =>
   cases b with
   | lst ls =>
    cases c with
    | lst cs =>
     show (match intsOf ss, Wl ls, intsOf cs with | some ns, some ks, some ms => _ | _, _, _ => Rs.no) = .no \/ _ = (match intsOf ss, Wl ls, intsOf cs with | some ns, some ks, some ms => _ | _, _, _ => Rs.no)
     cases e1 : intsOf ss with
     | none => exact .inl rfl
     | some ns =>
      cases e2 : Wl ls with
      | none => exact .inl rfl
      | some ks =>
       cases e3 : intsOf cs with
       | none => exact .inl rfl
       | some ms =>
        right
        obtain ⟨xss, rfl, rfl⟩ := U9 e2
        have h1 := wX e1
        have h3 := wX e3
        subst h1 h3
        exact VW ns ms xss
    | _ => exact .inl rfl
   | _ => exact .inl rfl
  | _ => exact .inl rfl
theorem VJ (ns : List Int) (h : jc ns) : res (zv (sl0 ["numbers", "x"] [.lst (ns.map .int)])) = if ∀ n ∈ ns, Fi n then Rs.ok (D.non, false) else Rs.er "NotFinite" := by
 have hs : sl0 ["numbers", "x"] [.lst (ns.map .int)] = [.val (.lst (ns.map .int)) false, .un] := rfl
 rw [hs]
 generalize hA : Sl.val (.lst (ns.map .int)) false = A
 have L1 := yy (tg := .one 1) (c := "NotFinite") (body := sIf (Ym (tBl (qg wN (qc (qa 1) qi)))) (zR "NotFinite") zu)
  (good := fun x => ∃ n, x.1 = .int n /\ Fi n) (J := fun δ => ∃ s : Sl, δ = [A, s]) (xs := (ns.map D.int).map fun d => (d, Kd.sh)) (by
   rintro x hx δ ⟨s, rfl⟩
   rw [List.map_map] at hx
   obtain ⟨n, hn, rfl⟩ := List.mem_map.mp hx
   have hu := h n hn
   refine ⟨[A, .val (.int n) true], rfl, fun ⟨m, e, h1⟩ => ⟨[A, .val (.int n) true], ?_, _, rfl⟩, fun q => ?_⟩
   ·cases e
    simp [sIf, Ym, tBl, qg, qc, qi, qa, Rs.bind, zu, Qc hu, bv, h1.2]
   ·have h1 : ¬ n % 9223372036854775808 < 9218868437227405312 := fun z => q ⟨n, rfl, hu, z⟩
    simp [sIf, Ym, tBl, qg, qc, qi, qa, Rs.bind, zR, Qc hu, bv, h1]) [A, .un] ⟨.un, rfl⟩
 have g1 : (∀ x ∈ (ns.map D.int).map fun d => (d, Kd.sh), ∃ n, x.1 = .int n /\ Fi n) ↔ ∀ n ∈ ns, Fi n := by
  constructor
  ·intro q n hn
   obtain ⟨m, e, h1⟩ := q (.int n, .sh) (by rw [List.map_map]; exact List.mem_map.mpr ⟨n, hn, rfl⟩)
   cases e
   exact h1
  ·intro q x hx
   rw [List.map_map] at hx
   obtain ⟨n, hn, rfl⟩ := List.mem_map.mp hx
   exact ⟨n, rfl, q n hn⟩
 have f1 : ∀ rb, Ww (.one 1) 0 rb [A, .un] = turns (.one 1) rb ((ns.map D.int).map fun d => (d, Kd.sh)) [A, .un] := fun rb => by rw [<- hA]; rfl
 unfold zv
 rw [f1]
 by_cases c : ∀ n ∈ ns, Fi n
 ·obtain ⟨δ', e, _⟩ := L1.1 (g1.mpr c)
  rw [e, if_pos c]
  rfl
 ·rw [L1.2 (fun q => c (g1.mp q)), if_neg c]
  rfl
theorem Qs : Hr zv ["numbers", "x"] 1 qQ := by
 intro ds hl
 match ds, hl with
 | [.lst xs], _ =>
  unfold qQ
  dsimp only
  cases e : intsOf xs with
  | none => exact .inl rfl
  | some ns =>
   dsimp only
   by_cases c : ∀ n ∈ ns, U64 n
   ·right
    rw [if_pos c]
    have q := wX e
    subst q
    rw [VJ ns c]
   ·left; exact if_neg c
 | [.non], _ => exact .inl rfl
 | [.bl _], _ => exact .inl rfl
 | [.int _], _ => exact .inl rfl
 | [.tup _], _ => exact .inl rfl
 | [.fn _], _ => exact .inl rfl
 | [.obj _ _ _], _ => exact .inl rfl
theorem Q3 {ns : List Int} (h : jc ns) : qQ [.lst (ns.map .int)] = if ∀ n ∈ ns, Fi n then Rs.ok (D.non, false) else Rs.er "NotFinite" := by
 unfold qQ
 dsimp only
 rw [ints_map]
 exact if_pos h
theorem V1 (ns ms : List Int) (xss : List (List D)) : qY [.lst (ns.map .int), .lst (xss.map .lst), .lst (ms.map .int)] =
  if (ns.all fun n => decide (1 <= n /\ n <= 16)) = true /\ (((xss.map List.length).zip ms).all fun p => decide ((p.1 : Int) = p.2)) = true then .ok (.non, false) else .er "WrongCount" := by
 unfold qY
 dsimp only
 rw [ints_map, Yl, ints_map]
theorem ZJ {r : RE} {δ : Dl} {ds : List D} (h : r (freeze δ) = .ok (.lst ds, .fr)) : v7 r δ = .rt (.lst ds) true := by unfold v7; rw [h]
theorem wo {r : RE} {δ : Dl} {d : D} (h : r (freeze δ) = .ok (d, .nw)) : v7 r δ = .rt d false := by
 unfold v7
 rw [h]
 cases d <;> rfl
theorem xh {r : RE} {δ : Dl} {c : Str} (h : r (freeze δ) = .er c) : v7 r δ = .er c := by unfold v7; rw [h]
theorem vV {r : RE} {δ : Dl} {i : Nat} {d : D} {k : Kd} (h : r δ = .ok (d, k)) (c : d.sc = true) : we i r δ = .nx (δ.set i (.val d true)) := by
 unfold we
 rw [h]
 cases k <;> cases d <;> first | rfl | cases c
theorem Yx {r : RE} {δ : Dl} {x : DK} (h : r δ = .ok x) : uv r δ = .nx δ := by unfold uv; rw [h]
theorem YF {r : RE} {δ : Dl} {c : Str} (h : r δ = .er c) : uv r δ = .er c := by unfold uv; rw [h]
theorem qX {a b : RS} {δ δ1 : Dl} (h : a δ = .nx δ1) : wx a b δ = b δ1 := by unfold wx; rw [h]; rfl
theorem QL {a b : RS} {δ : Dl} {c : Str} (h : a δ = .er c) : wx a b δ = .er c := by unfold wx; rw [h]; rfl
theorem u5 {a b : RS} {δ : Dl} {d : D} {k : Bool} (h : a δ = .rt d k) : wx a b δ = .rt d k := by unfold wx; rw [h]; rfl
theorem Qa {t : RT} {a b : RS} {δ : Dl} (h : t δ = .ok true) : sIf t a b δ = a δ := by unfold sIf; rw [h]; rfl
theorem qdy {t : RT} {a b : RS} {δ : Dl} (h : t δ = .ok false) : sIf t a b δ = b δ := by unfold sIf; rw [h]; rfl
theorem qav {α β : Type} {p : α -> Option β} {h : α -> β} : ∀ {l : List α}, (∀ x ∈ l, p x = some (h x)) -> l.filterMap p = l.map h
 | [], _ => rfl
 | x :: r, k => by
  rw [List.filterMap_cons, k x (List.mem_cons_self), List.map_cons, qav fun y hy => k y (List.mem_cons_of_mem _ hy)]
theorem Wt : Hr jm ["numbers"] 1 vC := by
 intro ds hl
 match ds, hl with
 | [.lst xs], _ =>
  unfold vC
  dsimp only
  by_cases c : xs.all D.sc = true /\ xs.length < LIM
  ·right
   rw [if_pos c]
   have hl2 : 1 + xs.length <= LIM := by have := c.2; lia
   have hl3 : (D.int xs.length :: xs).all D.sc = true := by rw [List.all_cons, c.1]; rfl
   have hx : v7 (qd vx (yU (qc (vB wV (qc (qa 0) qi)) qi)) (qa 0)) [.val (.lst xs) false] = .rt (.lst (.int xs.length :: xs)) true := by
    refine ZJ ?_
    show (if 1 + xs.length <= LIM then Rs.ok (D.lst ([D.int xs.length] ++ xs), kL ([D.int xs.length] ++ xs) (Kd.low .fr .sh)) else .no) = _
    rw [if_pos hl2]
    show Rs.ok (D.lst (D.int xs.length :: xs), kL (D.int xs.length :: xs) (Kd.low .fr .sh)) = _
    unfold kL
    rw [if_pos hl3]
   show res (v7 _ _) = _
   rw [show sl0 ["numbers"] [.lst xs] = [.val (.lst xs) false] from rfl, hx]
   rfl
  ·left; exact if_neg c
 | [.non], _ => exact .inl rfl
 | [.bl _], _ => exact .inl rfl
 | [.int _], _ => exact .inl rfl
 | [.tup _], _ => exact .inl rfl
 | [.fn _], _ => exact .inl rfl
 | [.obj _ _ _], _ => exact .inl rfl
theorem Za {xs : List D} (h : xs.all D.sc = true) (hl : xs.length < LIM) : vC [.lst xs] = .ok (.lst (.int xs.length :: xs), true) := by
 unfold vC
 exact if_pos ⟨h, hl⟩
theorem qh {ra : RE} {rr : RA} {δ : Dl} {x : DK} {xs : List DK} (h : ra δ = .ok x) (h2 : rr δ = .ok xs) : qc ra rr δ = .ok (x :: xs) := by unfold qc; rw [h, h2]; rfl
theorem qB {δ : Dl} : qi δ = .ok [] := rfl
theorem QO {r : RA} {δ : Dl} {xs : List DK} (h : r δ = .ok xs) (hl : xs.length <= LIM) : yU r δ = .ok (.lst (xs.map (·.1)), kL (xs.map (·.1)) (qT xs)) := by
 unfold yU
 rw [h]
 exact if_pos hl
theorem qj {f : DK -> DK -> Rs DK} {ra rb : RE} {δ : Dl} {x y : DK} (h : ra δ = .ok x) (h2 : rb δ = .ok y) : qd f ra rb δ = f x y := by unfold qd; rw [h, h2]; rfl
theorem yV {f : DK -> Rs DK} {ra : RE} {δ : Dl} {x : DK} (h : ra δ = .ok x) : rUn f ra δ = f x := by unfold rUn; rw [h]; rfl
theorem qK {g : Fn} {r : RA} {δ : Dl} {xs : List DK} (h : r δ = .ok xs) : qg g r δ = (g (xs.map (·.1))).bind fun y => .ok (y.1, kB y.2) := by unfold qg; rw [h]; rfl
theorem jv {xs : List D} {k : Kd} (h : xs.all D.sc = true) : kL xs k = .fr := by unfold kL; exact if_pos h
theorem qcw {tg : Tg} {src : RI} {body : RS} {δ : Dl} {xs : List DK} (h : src δ = .ok (true, xs)) : Xj tg src body δ = turns tg body xs δ := by unfold Xj; rw [h]
theorem zC {r : RE} {δ : Dl} {n : Nat} {k : Kd} (h : r δ = .ok (.int n, k)) (hn : n < 1000000) : vU r δ = .ok (true, (List.range n).map fun (k : Nat) => (D.int k, .nw)) := by
 unfold vU
 rw [h]
 rw [Rs.ve]
 dsimp only
 rw [if_pos (by lia), Int.toNat_natCast]
theorem uk {ra : RE} {rl rh rs : RO} {δ : Dl} {xs : List D} {k : Kd} {lo hi st : Option Int} (h : ra δ = .ok (.lst xs, k)) (hl : rl δ = .ok lo) (hh : rh δ = .ok hi) (hs : rs δ = .ok st) (h0 : st ≠ some 0) :
  vN ra rl rh rs δ = .ok (.lst (pick xs lo hi st), kL (pick xs lo hi st) (k.low .nw)) := by
 unfold vN
 rw [h, hl, hh, hs]
 exact if_neg h0
theorem uF {x : Int} (k : Nat) (hk : k <= 60000) (h : x.natAbs < 2 ^ k) : few x := Nat.lt_of_lt_of_le h (Nat.pow_le_pow_right (by decide) hk)
theorem UQ {x : Int} (h : U64 x) : few x := uF 64 (by decide) (by obtain ⟨a, b⟩ := h; lia)
theorem Vg {i j : Int} {k l : Kd} (hi : few i) (hj : few j) : Q8 (.int i, k) (.int j, l) = .ok (.int (i * j), .nw) := by
 unfold Q8
 exact if_pos ⟨hi, hj⟩
theorem qbh {m : Int} (h : U64 m) : (1 <= m /\ m <= 16) ↔ PvCalls.size m.toNat = true := by
 unfold PvCalls.size PvCalls.SIZE
 obtain ⟨a, b⟩ := h
 rw [Bool.and_eq_true, decide_eq_true_eq, decide_eq_true_eq]
 lia
theorem Jn {x : Int} (h : U64 x) : Fi x ↔ Pv.isFinite x.toNat = true := by
 rw [Dm.X3, decide_eq_true_eq]
 unfold Fi Dm.sz
 obtain ⟨a, b⟩ := h
 constructor
 ·rintro ⟨_, q⟩; lia
 ·intro q; exact ⟨⟨a, b⟩, by lia⟩
theorem qa4 {ns : List Int} (h : jc ns) : (∀ n ∈ ns, Fi n) ↔ (nats ns).all Pv.isFinite = true := by
 rw [List.all_eq_true]
 unfold nats
 constructor
 ·intro q x hx
  obtain ⟨n, hn, rfl⟩ := List.mem_map.mp hx
  exact (Jn (h n hn)).mp (q n hn)
 ·intro q n hn
  exact (Jn (h n hn)).mpr (q _ (List.mem_map.mpr ⟨n, hn, rfl⟩))
theorem uX (ns : List Int) : (nats ns).length = ns.length := List.length_map _
theorem qeP {ns : List Int} (h : jc ns) (k : Nat) : (((nats ns).getD k 0 : Nat) : Int) = ns.getD k 0 := by
 unfold nats
 rw [List.getD_eq_getElem?_getD, List.getElem?_map, List.getD_eq_getElem?_getD]
 cases e : ns[k]? with
 | none => rfl
 | some x =>
  have := (h x (List.mem_of_getElem? e)).1
  show ((x.toNat : Nat) : Int) = x
  lia
theorem J5 {ns : List Int} (h : jc ns) : (nats ns).map (fun (n : Nat) => (n : Int)) = ns := by
 unfold nats
 rw [List.map_map]
 conv => rhs; rw [<- List.map_id ns]
 refine List.map_congr_left fun n hn => ?_
 have := (h n hn).1
 show ((n.toNat : Nat) : Int) = n
 lia
theorem Us {α : Type} (rows : List (Nat × List Nat)) (x : Pv.Did α) (f : α -> PvCalls.Answer) : ze (PvCalls.given rows x f) =
  if PvCalls.fits rows = true then (if (rows.all fun r => r.2.all Pv.isFinite) = true then ze (match x with | .error e => .refused e | .ok y => f y) else .er "NotFinite") else .er "WrongCount" := by
 unfold PvCalls.given PvCalls.no
 cases h1 : PvCalls.fits rows with
 | false => rfl
 | true =>
  cases h2 : (rows.all fun r => r.2.all Pv.isFinite) with
  | false => rfl
  | true =>
   simp only [Bool.true_eq_false, if_false, if_true]
   cases x <;> rfl
theorem YJ (c : PvCalls.Call) : ze (PvCalls.answer c) = if PvCalls.goes c = true then ze (PvCalls.reckon c) else .er "WrongCount" := by
 unfold PvCalls.answer PvCalls.no
 cases h : PvCalls.goes c with
 | false => rfl
 | true => rfl
theorem qaC (l : List Nat) : ze (.row l) = .ok (.lst (.int l.length :: l.map fun (n : Nat) => D.int n), true) := by
 show Rs.ok (D.lst (((TableNeutral.rowN (TableNeutral.ints l))).map D.int), true) = _
 unfold TableNeutral.rowN TableNeutral.ints
 rw [List.map_cons, List.map_map, List.length_map]
 rfl
noncomputable abbrev LL : List (Str × Int) := [("WrongCount", 1), ("NotFinite", 2), ("StepNotFinite", 3), ("NotAsTold", 4)]
noncomputable def Few : PvCalls.Answer -> Prop
 | .refused z => z = -1 \/ z = -2 \/ z = -3 \/ z = -4
 | .row l => l.length <= 1000
 | .number _ => True
 | .rows l k => l.length <= 1000 /\ k.length <= 1000
 | .lu x p _ => x.length <= 1000 /\ p.length <= 1000
 | .told _ l => l.length <= 100000
theorem qan {a : PvCalls.Answer} (h : Few a) : Yv LL (ze a) = some ((TableNeutral.told a).map D.int) := by
 cases a with
 | refused z => rcases h with rfl | rfl | rfl | rfl <;> rfl
 | number x => rfl
 | row l => rfl
 | rows l k => rfl
 | lu x p t => rfl
 | told e l => rfl
theorem qaM {a : PvCalls.Answer} (h : Few a) : ((TableNeutral.told a).map D.int).length <= LIM := by
 rw [List.length_map]
 show _ <= 16777216
 cases a with
 | refused z => exact Nat.le_of_ble_eq_true rfl
 | number x => exact Nat.le_of_ble_eq_true rfl
 | row l => simp only [TableNeutral.told, TableNeutral.rowN, TableNeutral.ints, List.length_cons, List.length_map]; have : l.length <= 1000 := h; lia
 | rows l k => simp only [TableNeutral.told, TableNeutral.rowN, TableNeutral.ints, List.length_cons, List.length_map, List.length_append]; have : l.length <= 1000 /\ k.length <= 1000 := h; lia
 | lu x p t => simp only [TableNeutral.told, TableNeutral.rowN, TableNeutral.ints, List.length_cons, List.length_map, List.length_append, List.length_nil]; have : x.length <= 1000 /\ p.length <= 1000 := h; lia
 | told e l => simp only [TableNeutral.told, TableNeutral.rowN, TableNeutral.ints, List.length_cons, List.length_map]; have : l.length <= 100000 := h; lia
theorem YC {z : Int} (h : U64 z) : TableNeutral.nat z = some z.toNat := by
 unfold TableNeutral.nat
 exact if_neg (by have := h.1; lia)
theorem Xa : ∀ {ns : List Int}, jc ns -> ns.mapM TableNeutral.nat = some (nats ns)
 | [], _ => rfl
 | n :: r, h => by
  rw [List.mapM_cons, YC (h n (List.mem_cons_self)), Xa fun x hx => h x (List.mem_cons_of_mem _ hx)]
  rfl
theorem qeG {c : PvCalls.Call} (h : PvCalls.goes c = true -> Few (PvCalls.reckon c)) : Few (PvCalls.answer c) := by
 unfold PvCalls.answer PvCalls.no
 cases e : PvCalls.goes c with
 | false => exact .inl rfl
 | true => exact h e
theorem JZ {α : Type} {rows : List (Nat × List Nat)} {x : Pv.Did α} {f : α -> PvCalls.Answer} (h : match x with | .error e => Few (.refused e) | .ok y => Few (f y)) : Few (PvCalls.given rows x f) := by
 unfold PvCalls.given PvCalls.no
 split
 ·exact .inl rfl
 ·split
  ·exact .inr (.inl rfl)
  ·cases x with
   | error e => exact h
   | ok y => exact h
theorem Ju {m n : Nat} (hm : PvCalls.size m = true) (hn : PvCalls.size n = true) : m * n <= 1000 := by
 unfold PvCalls.size PvCalls.SIZE at hm hn
 rw [Bool.and_eq_true, decide_eq_true_eq, decide_eq_true_eq] at hm hn
 have : m * n <= 16 * 16 := Nat.mul_le_mul hm.2 hn.2
 lia
open PySem.W (Codec)
theorem qbn {z : Int} (h : Codec.inInt 0 18446744073709551615 z = true) : U64 z := by
 have := Codec.inInt_iff.mp h
 exact ⟨this.1, by lia⟩
theorem qcp {ns : List Int} (h : ns.all (Codec.inInt 0 18446744073709551615) = true) : jc ns := fun n hn => qbn (List.all_eq_true.mp h n hn)
theorem Vc (ns : List Int) : (ns.map D.int).map Ir.toV = ns.map V.int := by
 rw [List.map_map]
 rfl
theorem yk {K : PySem.W.Frag} {C N : Addr} {nm q bs hdct sn sub ab col dd k0 k1 k2 k3 k5} (l : K.lookup C = some (excClassObj nm q C N bs xD hdct sn sub ab col dd k0 k1 k2 k3 k5 ZD)) (h1 : PySem.W.nsOkIn K N = true) (h2 : PySem.W.nsIn K N "__init__" = some none) : qR K C = true := by
 exact (@decide_eq_true_iff (qd7 K C) (Classical.propDecidable _)).mpr ⟨_, _, _, _, _, _, _, _, _, _, _, _, _, _, _, l, h1, h2⟩
theorem QY {K : PySem.W.Frag} {N : Addr} {oc od es n sl} (l : K.lookup N = some ⟨oc, od, .dict es n, sl⟩) (h : (es.toList.all fun e => match e.key with | .str _ _ => true | _ => false) = true) : PySem.W.nsOkIn K N = true := by
 unfold PySem.W.nsOkIn
 rw [l]
 show (es.all fun e => match e.key with | .str _ _ => true | _ => false) = true
 rw [<- Array.all_toList]
 exact h
theorem qfK {mg : Str -> Option Value} {K : PySem.W.Frag} {C1 C2 C3 C4 : Addr} (m1 : mg "WrongCount" = some (.ref C1)) (m2 : mg "NotFinite" = some (.ref C2)) (m3 : mg "StepNotFinite" = some (.ref C3)) (m4 : mg "NotAsTold" = some (.ref C4))
  (x1 : qR K C1 = true) (x2 : qR K C2 = true) (x3 : qR K C3 = true) (x4 : qR K C4 = true) (e2 : (C2 == C1) = false) (e3 : (C3 == C1) = false) (e4 : (C3 == C2) = false) (e5 : (C4 == C1) = false) (e6 : (C4 == C2) = false) (e7 : (C4 == C3) = false)
  {c : Str} {C : Addr} {k : Int} (hC : mg c = some (.ref C)) (hl : LL.lookup c = some k) : qR K C = true /\ List.lookup C [(C1, (1 : Int)), (C2, 2), (C3, 3), (C4, 4)] = some k := by
 have key : ∀ {x : Str} {D : Addr}, c = x -> mg x = some (.ref D) -> C = D := fun {x D} e m => by
  subst e
  rw [hC] at m
  cases m
  rfl
 unfold LL at hl
 rw [List.lookup_cons] at hl
 by_cases h1 : c = "WrongCount"
 ·have z := key h1 m1
  subst h1 z
  cases hl
  exact ⟨x1, by rw [List.lookup_cons, beq_self_eq_true]⟩
 rw [beq_eq_false_iff_ne.mpr h1, List.lookup_cons] at hl
 by_cases h2 : c = "NotFinite"
 ·have z := key h2 m2
  subst h2 z
  cases hl
  exact ⟨x2, by rw [List.lookup_cons, e2, List.lookup_cons, beq_self_eq_true]⟩
 rw [beq_eq_false_iff_ne.mpr h2, List.lookup_cons] at hl
 by_cases h3 : c = "StepNotFinite"
 ·have z := key h3 m3
  subst h3 z
  cases hl
  exact ⟨x3, by rw [List.lookup_cons, e3, List.lookup_cons, e4, List.lookup_cons, beq_self_eq_true]⟩
 rw [beq_eq_false_iff_ne.mpr h3, List.lookup_cons] at hl
 by_cases h4 : c = "NotAsTold"
 ·have z := key h4 m4
  subst h4 z
  cases hl
  exact ⟨x4, by rw [List.lookup_cons, e5, List.lookup_cons, e6, List.lookup_cons, e7, List.lookup_cons, beq_self_eq_true]⟩
 rw [beq_eq_false_iff_ne.mpr h4] at hl
 cases hl
theorem qeD {A B C : RA} {e : RE} {rest : RS} {δ : Dl} {va vb vc : List DK} {ss cs ns : List Int} {xss : List (List D)} {k : Kd}
  (hA : A δ = .ok va) (la : va.length <= LIM) (ea : va.map (·.1) = ss.map D.int) (hB : B δ = .ok vb) (lb : vb.length <= LIM) (eb : vb.map (·.1) = xss.map D.lst) (hC : C δ = .ok vc) (lc : vc.length <= LIM) (ec : vc.map (·.1) = cs.map D.int)
  (hE : e δ = .ok (.lst (ns.map .int), k)) (hn : jc ns) :
  res (wx (uv (qg qY (qc (yU A) (qc (yU B) (qc (yU C) qi))))) (wx (uv (qg qQ (qc e qi))) rest) δ) =
   if (ss.all fun n => decide (1 <= n /\ n <= 16)) = true /\ (((xss.map List.length).zip cs).all fun p => decide ((p.1 : Int) = p.2)) = true then (if ∀ n ∈ ns, Fi n then res (rest δ) else .er "NotFinite") else .er "WrongCount" := by
 have h1 : qg qY (qc (yU A) (qc (yU B) (qc (yU C) qi))) δ = if (ss.all fun n => decide (1 <= n /\ n <= 16)) = true /\ (((xss.map List.length).zip cs).all fun p => decide ((p.1 : Int) = p.2)) = true then .ok (.non, .nw) else .er "WrongCount" := by
  rw [qK (qh (QO hA la) (qh (QO hB lb) (qh (QO hC lc) qB)))]
  show (qY [.lst (va.map (·.1)), .lst (vb.map (·.1)), .lst (vc.map (·.1))]).bind _ = _
  rw [ea, eb, ec, V1]
  split <;> rfl
 by_cases c : (ss.all fun n => decide (1 <= n /\ n <= 16)) = true /\ (((xss.map List.length).zip cs).all fun p => decide ((p.1 : Int) = p.2)) = true
 ·rw [if_pos c] at h1 ⊢
  rw [qX (Yx h1)]
  have h2 : qg qQ (qc e qi) δ = if ∀ n ∈ ns, Fi n then .ok (.non, .nw) else .er "NotFinite" := by
   rw [qK (qh hE qB)]
   show (qQ [.lst (ns.map .int)]).bind _ = _
   rw [Q3 hn]
   split <;> rfl
  by_cases c2 : ∀ n ∈ ns, Fi n
  ·rw [if_pos c2] at h2 ⊢
   rw [qX (Yx h2)]
  ·rw [if_neg c2] at h2 ⊢
   rw [QL (YF h2)]
   rfl
 ·rw [if_neg c] at h1 ⊢
  rw [QL (YF h1)]
  rfl
noncomputable def qee {α : Type} (x : Pv.Did α) (f : α -> PvCalls.Answer) : PvCalls.Answer := match x with
 | .error e => .refused e
 | .ok y => f y
theorem checked {α : Type} {p q : Prop} [Decidable p] [Decidable q] {c : PvCalls.Call} {rows : List (Nat × List Nat)} {x : Pv.Did α} {f : α -> PvCalls.Answer} {R : Rs (D × Bool)} 
  (h1 : p ↔ PvCalls.goes c = true /\ PvCalls.fits rows = true) (h2 : q ↔ (rows.all fun r => r.2.all Pv.isFinite) = true) (h3 : p -> q -> R = ze (qee x f)) (hc : PvCalls.reckon c = PvCalls.given rows x f) :
  (if p then (if q then R else .er "NotFinite") else .er "WrongCount") = ze (PvCalls.answer c) := by
 rw [YJ, hc, Us]
 by_cases a : p
 ·obtain ⟨g1, g2⟩ := h1.mp a
  rw [if_pos a, if_pos g1, if_pos g2]
  by_cases b : q
  ·rw [if_pos b, if_pos (h2.mp b), h3 a b]
   rfl
  ·rw [if_neg b, if_neg (fun z => b (h2.mpr z))]
 ·rw [if_neg a]
  by_cases g1 : PvCalls.goes c = true
  ·rw [if_pos g1, if_neg (fun z => a (h1.mpr ⟨g1, z⟩))]
  ·rw [if_neg g1]
theorem ZE {m n : Int} {ns : List Int} (hm : U64 m) (hn : U64 n) : (ns.length : Int) = m * n ↔ (nats ns).length = m.toNat * n.toNat := by
 have e : m * n = ((m.toNat * n.toNat : Nat) : Int) := by
  have h1 : ((m.toNat : Nat) : Int) = m := Int.toNat_of_nonneg hm.1
  have h2 : ((n.toNat : Nat) : Int) = n := Int.toNat_of_nonneg hn.1
  rw [Int.natCast_mul, h1, h2]
 rw [e, uX]
 lia
theorem Yq {xs ys : List D} {k l : Kd} (h : xs.length + ys.length <= LIM) : vx (.lst xs, k) (.lst ys, l) = .ok (.lst (xs ++ ys), kL (xs ++ ys) (k.low l)) := if_pos h
noncomputable def vJ : Fn := fn1 U64 fun x => bv (decide (x % 9223372036854775808 = 0))
noncomputable def ue : RS := (v7 (qd (oEq false) (qg qA (qc (qa 0) qi)) (rC (.int 0))))
theorem Jv (x : Int) (h : U64 x) : res (ue (sl0 ["x"] [.int x])) = bv (decide (x % 9223372036854775808 = 0)) := by
 unfold ue
 have h1 : qg qA (qc (qa 0) qi) [.val (.int x) false] = .ok (.int (x % 9223372036854775808), .nw) := by
  rw [qK (qh (x := (.int x, .sh)) rfl qB)]
  show (qA [.int x]).bind _ = _
  rw [yQ h]
  rfl
 rw [show sl0 ["x"] [.int x] = [.val (.int x) false] from rfl, wo (d := .bl (decide (x % 9223372036854775808 = 0))) ((qj h1 (y := (.int 0, .nw)) rfl).trans rfl)]
 rfl
theorem Ut : Hr ue ["x"] 1 vJ := xQ Jv
theorem WO {x : Int} (h : U64 x) : vJ [.int x] = bv (decide (x % 9223372036854775808 = 0)) := zU h
noncomputable def asks : List Bool -> List D -> Option (List Int × List (List Int))
 | [], [] => some ([], [])
 | false :: s, .int i :: r => (asks s r).map fun x => (i :: x.1, x.2)
 | true :: s, .lst l :: r => (intsOf l).bind fun ns => (asks s r).map fun x => (x.1, ns :: x.2)
 | _, _ => none
noncomputable def unp : List Bool -> List Int -> List (List Int) -> List D
 | false :: s, i :: is, ls => .int i :: unp s is ls
 | true :: s, is, l :: ls => .lst (l.map .int) :: unp s is ls
 | _, _, _ => []
theorem QZ : ∀ {sh : List Bool} {ds : List D} {is : List Int} {ls : List (List Int)}, asks sh ds = some (is, ls) -> ds = unp sh is ls /\ is.length = sh.count false /\ ls.length = sh.count true
 | [], [], _, _, h => by cases h; exact ⟨rfl, rfl, rfl⟩
 | [], _ :: _, _, _, h => nomatch h
 | false :: s, .int i :: r, is, ls, h => by
  have h : (asks s r).map (fun x => (i :: x.1, x.2)) = some (is, ls) := h
  cases e : asks s r with
  | none => rw [e] at h; cases h
  | some q =>
   rw [e] at h
   cases h
   obtain ⟨e1, e2, e3⟩ := QZ (is := q.1) (ls := q.2) e
   exact ⟨by show _ = D.int i :: unp s q.1 q.2; rw [<- e1], by rw [List.length_cons, e2, List.count_cons_self], by rw [e3]; exact (List.count_cons_of_ne (by decide)).symm⟩
 | true :: s, .lst l :: r, is, ls, h => by
  have h : ((intsOf l).bind fun ns => (asks s r).map fun x => (x.1, ns :: x.2)) = some (is, ls) := h
  cases e0 : intsOf l with
  | none => rw [e0] at h; cases h
  | some ns =>
   rw [e0] at h
   have h : (asks s r).map (fun x => (x.1, ns :: x.2)) = some (is, ls) := h
   cases e : asks s r with
   | none => rw [e] at h; cases h
   | some q =>
    rw [e] at h
    cases h
    obtain ⟨e1, e2, e3⟩ := QZ (is := q.1) (ls := q.2) e
    exact ⟨by show _ = D.lst (ns.map .int) :: unp s q.1 q.2; rw [<- e1, <- wX e0], by rw [e2]; exact (List.count_cons_of_ne (by decide)).symm, by rw [List.length_cons, e3, List.count_cons_self]⟩
 | false :: _, [], _, _, h => nomatch h
 | true :: _, [], _, _, h => nomatch h
 | false :: _, .non :: _, _, _, h => nomatch h
 | false :: _, .bl _ :: _, _, _, h => nomatch h
 | false :: _, .lst _ :: _, _, _, h => nomatch h
 | false :: _, .tup _ :: _, _, _, h => nomatch h
 | false :: _, .fn _ :: _, _, _, h => nomatch h
 | false :: _, .obj _ _ _ :: _, _, _, h => nomatch h
 | true :: _, .non :: _, _, _, h => nomatch h
 | true :: _, .bl _ :: _, _, _, h => nomatch h
 | true :: _, .int _ :: _, _, _, h => nomatch h
 | true :: _, .tup _ :: _, _, _, h => nomatch h
 | true :: _, .fn _ :: _, _, _, h => nomatch h
 | true :: _, .obj _ _ _ :: _, _, _, h => nomatch h
theorem QI : ∀ {sh : List Bool} {is : List Int} {ls : List (List Int)}, is.length = sh.count false -> ls.length = sh.count true -> asks sh (unp sh is ls) = some (is, ls)
 | [], [], [], _, _ => rfl
 | [], _ :: _, _, h, _ => nomatch h
 | [], [], _ :: _, _, h => nomatch h
 | false :: s, i :: is, ls, h1, h2 => by
  rw [List.length_cons, List.count_cons_self] at h1
  rw [List.count_cons_of_ne (by decide)] at h2
  show (asks s (unp s is ls)).map _ = _
  rw [QI (by lia) h2]
  rfl
 | true :: s, is, l :: ls, h1, h2 => by
  rw [List.length_cons, List.count_cons_self] at h2
  rw [List.count_cons_of_ne (by decide)] at h1
  show ((intsOf (l.map D.int)).bind fun ns => (asks s (unp s is ls)).map fun x => (x.1, ns :: x.2)) = _
  rw [ints_map, QI h1 (by lia)]
  rfl
 | false :: s, [], _, h1, _ => by rw [List.count_cons_self] at h1; cases h1
 | true :: s, _, [], _, h2 => by rw [List.count_cons_self] at h2; cases h2
noncomputable abbrev Good (is : List Int) (ls : List (List Int)) : Prop := (∀ i ∈ is, U64 i) /\ ∀ l ∈ ls, jc l /\ l.length <= 300
open Classical in
noncomputable def j6 (sh : List Bool) (F : List Int -> List (List Int) -> PvCalls.Call) : Fn := fun ds => match asks sh ds with
 | some x => if Good x.1 x.2 then ze (PvCalls.answer (F x.1 x.2)) else .no
 | none => .no
theorem Y6 {sh : List Bool} {F : List Int -> List (List Int) -> PvCalls.Call} {is : List Int} {ls : List (List Int)} (h1 : is.length = sh.count false) (h2 : ls.length = sh.count true) (g : Good is ls) : j6 sh F (unp sh is ls) = ze (PvCalls.answer (F is ls)) := by
 unfold j6
 rw [QI h1 h2]
 exact if_pos g
theorem qa3 {sh : List Bool} {F : List Int -> List (List Int) -> PvCalls.Call} {is : List Int} {ls : List (List Int)} {c : TableNeutral.Call} (h1 : is.length = sh.count false) (h2 : ls.length = sh.count true) (g : Good is ls) (hc : TableNeutral.callOf c = some (F is ls)) (hf : Few (PvCalls.answer (F is ls))) :
  Yv LL (j6 sh F (unp sh is ls)) = some ((TableNeutral.f c).map D.int) /\ ((TableNeutral.f c).map D.int).length <= LIM := by
 have e : TableNeutral.f c = TableNeutral.told (PvCalls.answer (F is ls)) := by
  unfold TableNeutral.f
  rw [hc]
 rw [e, Y6 h1 h2 g]
 exact ⟨qan hf, qaM hf⟩
theorem qcO {α : Type} {l : List α} (h : l.length = 1) : ∃ a, l = [a] := match l, h with | [a], _ => ⟨a, rfl⟩
theorem qdI {α : Type} {l : List α} (h : l.length = 4) : ∃ a b c d, l = [a, b, c, d] := match l, h with | [a, b, c, d], _ => ⟨a, b, c, d, rfl⟩
theorem yG {m : Int} (h : U64 m) : ∃ M : Nat, m = M := ⟨m.toNat, by have := h.1; lia⟩
theorem pick_run {α : Type} (xs : List α) (lo n : Nat) (hl : lo + n <= xs.length) (d : α) : pick xs (some (lo : Int)) (some ((lo + n : Nat) : Int)) none = (List.range n).map fun j => xs.getD (lo + j) d := by
 have hb : sliceBounds (some (lo : Int)) (some ((lo + n : Nat) : Int)) none xs.length = ((lo : Int), ((lo + n : Nat) : Int), 1) := by
  unfold sliceBounds
  simp only [Option.getD_none, if_pos (show (1 : Int) > 0 by decide)]
  refine Prod.ext ?_ (Prod.ext ?_ rfl)
  ·show max 0 (min (if (lo : Int) < 0 then (lo : Int) + xs.length else lo) xs.length) = (lo : Int)
   rw [if_neg (by lia)]
   lia
  ·show max 0 (min (if ((lo + n : Nat) : Int) < 0 then ((lo + n : Nat) : Int) + xs.length else ((lo + n : Nat) : Int)) xs.length) = ((lo + n : Nat) : Int)
   rw [if_neg (by lia)]
   lia
 unfold pick
 rw [hb]
 dsimp only
 by_cases hn : n = 0
 ·subst hn
  unfold sliceRange
  simp
 unfold sliceRange
 dsimp only
 have hc : ((((lo + n : Nat) : Int) - lo + 1 - 1) / 1).toNat = n := by
  rw [Int.ediv_one]
  lia
 rw [if_pos (by decide), if_pos (by lia), hc, List.filterMap_map]
 refine qav fun i hi => ?_
 have hi := List.mem_range.mp hi
 have e : ((lo : Int) + 1 * (i : Int)).toNat = lo + i := by lia
 show xs[((lo : Int) + 1 * (i : Int)).toNat]? = some (xs.getD (lo + i) d)
 rw [e, List.getD_eq_getElem?_getD, List.getElem?_eq_getElem (by lia)]
 rfl
theorem Vy {r : RE} {δ : Dl} {i : Int} {k : Kd} (h : r δ = .ok (.int i, k)) : v9 r δ = .ok (some i) := by unfold v9; rw [h]; rfl
theorem yS {α : Type} (l : List α) (d : α) : l = (List.range l.length).map fun k => l.getD k d := by
 refine List.ext_getElem? fun k => ?_
 rw [List.getElem?_map]
 by_cases h : k < l.length
 ·rw [List.getElem?_range h, List.getElem?_eq_getElem h]
  show _ = some (l.getD k d)
  rw [List.getD_eq_getElem?_getD, List.getElem?_eq_getElem h]
  rfl
 ·rw [List.getElem?_eq_none (by lia), List.getElem?_eq_none (by rw [List.length_range]; lia)]
  rfl
theorem zo {i j : Int} {k l : Kd} (h1 : 0 <= j) (h2 : j <= 60000) (h3 : few i) : w4 (.int i, k) (.int j, l) = .ok (.int (i * 2 ^ j.toNat), .nw) := by
 unfold w4
 exact if_pos ⟨h1, h2, h3⟩
theorem Zw {i j : Int} {k l : Kd} (h1 : 0 <= j) : jF (.int i, k) (.int j, l) = .ok (.int (i / 2 ^ j.toNat), .nw) := by
 unfold jF
 exact if_pos h1
theorem x9 {f : List DK -> Rs DK} {r : RA} {δ : Dl} {xs : List DK} (h : r δ = .ok xs) : vB f r δ = f xs := by unfold vB; rw [h]; rfl
theorem zx {g : Fn} {a : RE} {δ : Dl} {x : DK} {y : D × Bool} (h : a δ = .ok x) (hg : g [x.1] = .ok y) : qg g (qc a qi) δ = .ok (y.1, kB y.2) := by rw [qK (qh h qB)]; show (g [x.1]).bind _ = _; rw [hg]; rfl
theorem Z5 {i : Nat} {δ : Dl} {d : D} {k : Bool} (h : δ[i]? = some (.val d k)) (c : d.sc = true) : Qh i δ = .rt d false := by
 unfold Qh
 rw [h]
 exact if_pos (.inl c)
theorem zP {r : RE} {δ : Dl} {b : Bool} {k : Kd} (h : r δ = .ok (.bl b, k)) : tBl r δ = .ok b := by unfold tBl; rw [h]; rfl
theorem UG {t : RT} {a b : RE} {δ : Dl} (h : t δ = .ok true) : jW t a b δ = a δ := by unfold jW; rw [h]; rfl
theorem XC {t : RT} {a b : RE} {δ : Dl} (h : t δ = .ok false) : jW t a b δ = b δ := by unfold jW; rw [h]; rfl
theorem Zt {n : Nat} (k : Nat) (hk : k <= 60000) (h : n < 2 ^ k) : few (n : Int) := uF k hk (by rw [Int.natAbs_natCast]; exact h)
theorem zG {x : Nat} (h : x < 2 ^ 64) : U64 (x : Int) := ⟨by lia, by lia⟩
theorem z8 {t : RT} {a : RS} {δ : Dl} (h : t δ = .ok false) : sIf t a zu δ = .nx δ := (qdy h).trans rfl
theorem vy {a b : Int} (h : a = b) : (Rs.ok (D.int a, Kd.nw) : Rs DK) = .ok (.int b, .nw) := by rw [h]
theorem jf {a b : Nat} : decide ((a : Int) = (b : Int)) = decide (a = b) := decide_eq_decide.mpr (by lia)
noncomputable def qO : Fn := fn1 U64 fun x => iv (Dm.sg x.toNat)
noncomputable def qP : Fn := fn1 U64 fun x => iv (Dm.wh x.toNat)
noncomputable def qG : Fn := fn1 U64 fun x => iv (Dm.sw x.toNat)
noncomputable def qF : Fn := fn1 U64 fun x => iv ((Dm.ex x.toNat : Int) - 1074)
noncomputable def wu : Fn := fn1 U64 fun x => iv (Dm.flip x.toNat)
noncomputable def ua : RS := (v7 (qd jF (qa 0) (rC (.int 63))))
noncomputable def xk : RS := (wx (we 1 (qd (jG Builtin.bitAnd) (qa 0) (qd wD (qd w4 (rC (.int 1)) (rC (.int (52)))) (rC (.int 1))))) (wx (sIf (tBl (qd (oEq false) (qg qA (qc (qa 0) qi)) (qa 1))) (Qh 1) zu) (v7 (qd vx (qa 1) (qd w4 (rC (.int 1)) (rC (.int (52))))))))
noncomputable def zq : RS := (v7 (jW (tBl (qd (oEq false) (qg qO (qc (qa 0) qi)) (rC (.int 1)))) (rUn Qo (qg qP (qc (qa 0) qi))) (qg qP (qc (qa 0) qi))))
noncomputable def xc : RS := (v7 (qd vx (qd wD (vB XW (qc (qd jF (qg qA (qc (qa 0) qi)) (rC (.int (52)))) (qc (rC (.int 1)) qi))) (rC (.int 1))) (rC (.int (-1074)))))
noncomputable def xi : RS := (v7 (qd (jG Builtin.bitXor) (qa 0) (rC (.int (9223372036854775808)))))
theorem JI (x : Int) (h : U64 x) : res (ua (sl0 ["x"] [.int x])) = iv (Dm.sg x.toNat) := by
 unfold ua
 rw [wo (d := .int (Dm.sg x.toNat)) ((qj (x := (.int x, .sh)) (y := (.int 63, .nw)) rfl rfl).trans ((Zw (by decide)).trans ?_))]
 ·rfl
 ·refine vy ?_
  unfold Dm.sg
  obtain ⟨X, rfl⟩ := yG h
  rw [Int.toNat_natCast, Int.natCast_ediv]
  rfl
theorem XI : Hr ua ["x"] 1 qO := xQ JI
theorem ui {x : Int} (h : U64 x) : qO [.int x] = iv (Dm.sg x.toNat) := zU h
theorem X2 (x : Int) (h : U64 x) : res (xk (sl0 ["x", "fraction"] [.int x])) = iv (Dm.wh x.toNat) := by
 obtain ⟨X, rfl⟩ := yG h
 rw [Int.toNat_natCast]
 have sh1 : ∀ δ, qd w4 (rC (.int 1)) (rC (.int (52))) δ = .ok (.int 4503599627370496, .nw) := fun δ => (qj (x := (.int 1, .nw)) (y := (.int 52, .nw)) rfl rfl).trans (zo (by decide) (by decide) (uF 4 (by decide) (by decide)))
 have hf : qd (jG Builtin.bitAnd) (qa 0) (qd wD (qd w4 (rC (.int 1)) (rC (.int (52)))) (rC (.int 1))) [.val (.int X) false, .un] = .ok (.int ((X % 2 ^ 52 : Nat) : Int), .nw) := by
  rw [qj (x := (.int X, .sh)) (y := (.int (4503599627370496 - 1), .nw)) rfl ((qj (sh1 _) (y := (.int 1, .nw)) rfl).trans rfl)]
  have e : Builtin.bitAnd (X : Int) (2 ^ 52 - 1) = (X : Int) % 2 ^ 52 := Bits.j9 52 h.1
  show Rs.ok (D.int (Builtin.bitAnd (X : Int) (2 ^ 52 - 1)), Kd.nw) = _
  rw [e, Int.natCast_emod]
  rfl
 unfold xk
 rw [show sl0 ["x", "fraction"] [.int (X : Int)] = [.val (.int X) false, .un] from rfl]
 rw [qX (show we 1 _ [.val (.int X) false, .un] = .nx [.val (.int X) false, .val (.int ((X % 2 ^ 52 : Nat) : Int)) true] from vV hf rfl)]
 have hs : qg qA (qc (qa 0) qi) [.val (.int X) false, .val (.int ((X % 2 ^ 52 : Nat) : Int)) true] = .ok (.int ((Dm.sz X : Nat) : Int), .nw) := (zx (x := (.int X, .sh)) rfl (yQ h)).trans (by
  show Rs.ok (D.int ((X : Int) % 9223372036854775808), Kd.nw) = _
  unfold Dm.sz
  rw [Int.natCast_emod]
  rfl)
 have ht : tBl (qd (oEq false) (qg qA (qc (qa 0) qi)) (qa 1)) [.val (.int X) false, .val (.int ((X % 2 ^ 52 : Nat) : Int)) true] = .ok (decide (Dm.sz X = X % 2 ^ 52)) := by
  refine zP (k := .nw) ((qj (y := (.int ((X % 2 ^ 52 : Nat) : Int), .nw)) hs rfl).trans ?_)
  show Rs.ok (D.bl (decide (((Dm.sz X : Nat) : Int) = ((X % 2 ^ 52 : Nat) : Int))), Kd.nw) = _
  rw [jf]
 unfold Dm.wh
 by_cases c : Dm.sz X = X % 2 ^ 52
 ·rw [decide_eq_true c] at ht
  rw [if_pos c, u5 ((Qa ht).trans (Z5 rfl rfl))]
  rfl
 ·rw [decide_eq_false c] at ht
  rw [if_neg c, qX (z8 ht)]
  rw [wo (d := .int ((X % 2 ^ 52 + 2 ^ 52 : Nat) : Int)) ((qj (x := (.int ((X % 2 ^ 52 : Nat) : Int), .nw)) rfl (sh1 _)).trans ?_)]
  ·rfl
  ·show Rs.ok (D.int (((X % 2 ^ 52 : Nat) : Int) + 4503599627370496), Kd.nw) = _
   rw [Int.natCast_add]
   rfl
theorem Ya : Hr xk ["x", "fraction"] 1 qP := xQ X2
theorem uN {x : Int} (h : U64 x) : qP [.int x] = iv (Dm.wh x.toNat) := zU h
theorem VX (x : Int) (h : U64 x) : res (zq (sl0 ["x"] [.int x])) = iv (Dm.sw x.toNat) := by
 unfold zq
 rw [show sl0 ["x"] [.int x] = [.val (.int x) false] from rfl]
 have hw : qg qP (qc (qa 0) qi) [.val (.int x) false] = .ok (.int (Dm.wh x.toNat), .nw) := zx (x := (.int x, .sh)) rfl (uN h)
 have ht : tBl (qd (oEq false) (qg qO (qc (qa 0) qi)) (rC (.int 1))) [.val (.int x) false] = .ok (decide (Dm.sg x.toNat = 1)) := by
  refine zP (k := .nw) ((qj (x := (.int (Dm.sg x.toNat), .nw)) (y := (.int 1, .nw)) (zx (x := (.int x, .sh)) rfl (ui h)) rfl).trans ?_)
  show Rs.ok (D.bl (decide (((Dm.sg x.toNat : Nat) : Int) = ((1 : Nat) : Int))), Kd.nw) = _
  rw [jf]
 unfold Dm.sw
 by_cases c : Dm.sg x.toNat = 1
 ·rw [decide_eq_true c] at ht
  rw [if_pos c, wo (d := .int (-(Dm.wh x.toNat : Int))) ((UG ht).trans ((yV hw).trans rfl))]
  rfl
 ·rw [decide_eq_false c] at ht
  rw [if_neg c, wo (d := .int (Dm.wh x.toNat)) ((XC ht).trans hw)]
  rfl
theorem Qv : Hr zq ["x"] 1 qG := xQ VX
theorem VT {x : Int} (h : U64 x) : qG [.int x] = iv (Dm.sw x.toNat) := zU h
theorem XZ (x : Int) (h : U64 x) : res (xc (sl0 ["x"] [.int x])) = iv ((Dm.ex x.toNat : Int) - 1074) := by
 obtain ⟨X, rfl⟩ := yG h
 rw [Int.toNat_natCast]
 unfold xc
 rw [show sl0 ["x"] [.int (X : Int)] = [.val (.int X) false] from rfl]
 have hs : qd jF (qg qA (qc (qa 0) qi)) (rC (.int (52))) [.val (.int X) false] = .ok (.int ((Dm.sz X / 2 ^ 52 : Nat) : Int), .nw) := (qj (x := (.int ((X : Int) % 9223372036854775808), .nw)) (y := (.int 52, .nw)) (zx (x := (.int X, .sh)) rfl (yQ h)) rfl).trans ((Zw (by decide)).trans (by
  refine vy ?_
  unfold Dm.sz
  rw [Int.natCast_ediv, Int.natCast_emod]
  rfl))
 have hm : vB XW (qc (qd jF (qg qA (qc (qa 0) qi)) (rC (.int (52)))) (qc (rC (.int 1)) qi)) [.val (.int X) false] = .ok (.int ((max (Dm.sz X / 2 ^ 52) 1 : Nat) : Int), .nw) := (x9 (qh hs (qh (x := (.int 1, .nw)) rfl qB))).trans (by
  show Rs.ok (D.int (if (1 : Int) > ((Dm.sz X / 2 ^ 52 : Nat) : Int) then 1 else ((Dm.sz X / 2 ^ 52 : Nat) : Int)), Kd.nw) = _
  refine vy ?_
  split <;> lia)
 have hv : qd vx (qd wD (vB XW (qc (qd jF (qg qA (qc (qa 0) qi)) (rC (.int (52)))) (qc (rC (.int 1)) qi))) (rC (.int 1))) (rC (.int (-1074))) [.val (.int X) false] = .ok (.int ((Dm.ex X : Int) - 1074), .nw) := by
  have h1 : qd wD (vB XW (qc (qd jF (qg qA (qc (qa 0) qi)) (rC (.int (52)))) (qc (rC (.int 1)) qi))) (rC (.int 1)) [.val (.int X) false] = .ok (.int (((max (Dm.sz X / 2 ^ 52) 1 : Nat) : Int) - 1), .nw) := (qj hm (y := (.int 1, .nw)) rfl).trans rfl
  refine (qj h1 (y := (.int (-1074), .nw)) rfl).trans ?_
  refine vy ?_
  unfold Dm.ex
  generalize Dm.sz X / 2 ^ 52 = q
  lia
 rw [wo (δ := [.val (.int X) false]) hv]
 rfl
theorem YD : Hr xc ["x"] 1 qF := xQ XZ
theorem uH {x : Int} (h : U64 x) : qF [.int x] = iv ((Dm.ex x.toNat : Int) - 1074) := zU h
theorem Uo (x : Int) (h : U64 x) : res (xi (sl0 ["x"] [.int x])) = iv (Dm.flip x.toNat) := by
 obtain ⟨X, rfl⟩ := yG h
 rw [Int.toNat_natCast]
 unfold xi
 rw [wo (d := .int (Dm.flip X)) ((qj (x := (.int (X : Int), .sh)) (y := (.int 9223372036854775808, .nw)) rfl rfl).trans ?_)]
 ·rfl
 ·show Rs.ok (D.int (Builtin.bitXor (X : Int) ((2 ^ 63 : Nat) : Int)), Kd.nw) = _
  rw [<- Dm.qaq X (by have := h.2; lia)]
  exact vy (Bits.Jt (by lia) (by decide))
theorem Y2 : Hr xi ["x"] 1 wu := xQ Uo
theorem UB {x : Int} (h : U64 x) : wu [.int x] = iv (Dm.flip x.toNat) := zU h
noncomputable def lt2 (n k : Nat) : Prop := n < 2 ^ k
theorem lt2.few {n k : Nat} (h : lt2 n k) (hk : k <= 60000) : few (n : Int) := Zt k hk h
theorem lt2.qb0 {i : Int} {k : Nat} (h : lt2 i.natAbs k) (hk : k <= 60000) : Ir.few i := uF k hk h
theorem lt2.mono {n m k : Nat} (h : lt2 n k) (hm : m <= n) : lt2 m k := Nat.lt_of_le_of_lt hm h
theorem lt2.up {n k l : Nat} (h : lt2 n k) (hl : k <= l) : lt2 n l := Nat.lt_of_lt_of_le h (Nat.pow_le_pow_right (by decide) hl)
theorem lt2.mul {n m k l : Nat} (h : lt2 n k) (h2 : lt2 m l) : lt2 (n * m) (k + l) := by
 unfold lt2 at *
 rw [Nat.pow_add]
 exact Nat.mul_lt_mul'' h h2
theorem lt2.add {n m k : Nat} (h : lt2 n k) (h2 : lt2 m k) : lt2 (n + m) (k + 1) := by
 unfold lt2 at *
 rw [Nat.pow_succ]
 lia
theorem lt2.pow (k : Nat) : lt2 (2 ^ k) (k + 1) := Nat.pow_lt_pow_right (by decide) (by lia)
theorem lt2.log {n k : Nat} (h : lt2 n k) (hk : 0 < k) : n.log2 < k := by
 by_cases z : n = 0
 ·rw [z, Nat.log2_zero]; exact hk
 ·exact (Nat.log2_lt z).mpr h
theorem qcJ {a b : RT} {δ : Dl} {x y : Bool} (ha : a δ = .ok x) (hb : b δ = .ok y) : Wv a b δ = .ok (x || y) := by
 unfold Wv
 rw [ha, Rs.ve]
 cases x
 ·rw [if_neg (by decide), hb]; rfl
 ·rfl
theorem qa9 {a b : RT} {δ : Dl} {x y : Bool} (ha : a δ = .ok x) (hb : b δ = .ok y) : Yy a b δ = .ok (x && y) := by
 unfold Yy
 rw [ha, Rs.ve]
 cases x
 ·rfl
 ·rw [if_pos rfl, hb]; rfl
noncomputable def vz : Fn := fn2 (fun w d => 0 <= w /\ lt2 w.natAbs 30000 /\ -9000 <= d /\ d <= 55000) fun w d => iv (if d <= 0 then w * 2 ^ (-d).toNat else (Dm.nw w.toNat d.toNat : Int))
noncomputable def za : RS := (wx (sIf (tBl (qd (yg fun i j => decide (i <= j)) (qa 1) (rC (.int 0)))) (v7 (qd w4 (qa 0) (rUn Qo (qa 1)))) zu) (wx (we 2 (qd jF (qa 0) (qa 1))) (wx (we 3 (qd wD (qa 0) (qd w4 (qa 2) (qa 1)))) (wx (we 4 (qd w4 (rC (.int 1)) (qd wD (qa 1) (rC (.int 1))))) (wx (sIf (Wv (tBl (qd (yg fun i j => decide (j < i)) (qa 3) (qa 4))) (Yy (tBl (qd (oEq false) (qa 3) (qa 4))) (tBl (qd (oEq false) (qd oMod (qa 2) (rC (.int 2))) (rC (.int 1)))))) (v7 (qd vx (qa 2) (rC (.int 1)))) zu) (Qh 2))))))
theorem Qw (w d : Int) (h : 0 <= w /\ lt2 w.natAbs 30000 /\ -9000 <= d /\ d <= 55000) : res (za (sl0 ["whole", "drop", "kept", "left", "half"] [.int w, .int d])) = iv (if d <= 0 then w * 2 ^ (-d).toNat else (Dm.nw w.toNat d.toNat : Int)) := by
 obtain ⟨h0, hw, hd1, hd2⟩ := h
 obtain ⟨W, rfl⟩ : ∃ W : Nat, w = W := ⟨w.toNat, by lia⟩
 rw [Int.natAbs_natCast] at hw
 unfold za
 rw [show sl0 ["whole", "drop", "kept", "left", "half"] [.int (W : Int), .int d] = [.val (.int W) false, .val (.int d) false, .un, .un, .un] from rfl]
 have ht : tBl (qd (yg fun i j => decide (i <= j)) (qa 1) (rC (.int 0))) [.val (.int W) false, .val (.int d) false, .un, .un, .un] = .ok (decide (d <= 0)) := zP (k := .nw) ((qj (x := (.int d, .sh)) (y := (.int 0, .nw)) rfl rfl).trans rfl)
 by_cases c : d <= 0
 ·rw [decide_eq_true c] at ht
  rw [if_pos c]
  have hv : qd w4 (qa 0) (rUn Qo (qa 1)) [.val (.int W) false, .val (.int d) false, .un, .un, .un] = .ok (.int ((W : Int) * 2 ^ (-d).toNat), .nw) := (qj (x := (.int W, .sh)) (y := (.int (-d), .nw)) rfl ((yV (x := (.int d, .sh)) rfl).trans rfl)).trans (zo (by lia) (by lia) (hw.few (by decide)))
  rw [u5 ((Qa ht).trans (wo (δ := [.val (.int W) false, .val (.int d) false, .un, .un, .un]) hv))]
  rfl
 ·rw [decide_eq_false c] at ht
  rw [if_neg c, Int.toNat_natCast]
  obtain ⟨K, rfl⟩ : ∃ K : Nat, d = K := ⟨d.toNat, by lia⟩
  rw [Int.toNat_natCast]
  rw [qX (z8 ht)]
  have e2 : qd jF (qa 0) (qa 1) [.val (.int W) false, .val (.int K) false, .un, .un, .un] = .ok (.int ((W / 2 ^ K : Nat) : Int), .nw) := (qj (x := (.int W, .sh)) (y := (.int K, .sh)) rfl rfl).trans ((Zw (by lia)).trans (vy (by rw [Int.toNat_natCast, Int.natCast_ediv, Int.natCast_pow]; rfl)))
  rw [qX (show we 2 _ [.val (.int W) false, .val (.int K) false, .un, .un, .un] = .nx [.val (.int W) false, .val (.int K) false, .val (.int ((W / 2 ^ K : Nat) : Int)) true, .un, .un] from vV e2 rfl)]
  have hdiv : W / 2 ^ K <= W := Nat.div_le_self _ _
  have hmulle : W / 2 ^ K * 2 ^ K <= W := Nat.div_mul_le_self _ _
  have e3 : qd wD (qa 0) (qd w4 (qa 2) (qa 1)) [.val (.int W) false, .val (.int K) false, .val (.int ((W / 2 ^ K : Nat) : Int)) true, .un, .un] = .ok (.int ((W - W / 2 ^ K * 2 ^ K : Nat) : Int), .nw) := by
   have q : qd w4 (qa 2) (qa 1) [.val (.int W) false, .val (.int K) false, .val (.int ((W / 2 ^ K : Nat) : Int)) true, .un, .un] = .ok (.int ((W / 2 ^ K * 2 ^ K : Nat) : Int), .nw) := (qj (x := (.int ((W / 2 ^ K : Nat) : Int), .nw)) (y := (.int K, .sh)) rfl rfl).trans ((zo (by lia) (by lia) ((hw.mono hdiv).few (by decide))).trans (vy (by rw [Int.toNat_natCast, Int.natCast_mul, Int.natCast_pow]; rfl)))
   exact (qj (x := (.int W, .sh)) rfl q).trans (vy (by rw [Int.natCast_sub hmulle]))
  rw [qX (show we 3 _ _ = .nx [.val (.int W) false, .val (.int K) false, .val (.int ((W / 2 ^ K : Nat) : Int)) true, .val (.int ((W - W / 2 ^ K * 2 ^ K : Nat) : Int)) true, .un] from vV e3 rfl)]
  have e4 : qd w4 (rC (.int 1)) (qd wD (qa 1) (rC (.int 1))) [.val (.int W) false, .val (.int K) false, .val (.int ((W / 2 ^ K : Nat) : Int)) true, .val (.int ((W - W / 2 ^ K * 2 ^ K : Nat) : Int)) true, .un] = .ok (.int ((2 ^ (K - 1) : Nat) : Int), .nw) := (qj (x := (.int 1, .nw)) (y := (.int ((K : Int) - 1), .nw)) rfl ((qj (x := (.int K, .sh)) (y := (.int 1, .nw)) rfl rfl).trans rfl)).trans ((zo (by lia) (by lia) (uF 4 (by decide) (by decide))).trans (vy (by rw [show ((K : Int) - 1).toNat = K - 1 by lia, Int.natCast_pow, Int.one_mul]; rfl)))
  rw [qX (show we 4 _ _ = .nx [.val (.int W) false, .val (.int K) false, .val (.int ((W / 2 ^ K : Nat) : Int)) true, .val (.int ((W - W / 2 ^ K * 2 ^ K : Nat) : Int)) true, .val (.int ((2 ^ (K - 1) : Nat) : Int)) true] from vV e4 rfl)]
  unfold Dm.nw
  rw [if_neg (show ¬ K = 0 by lia)]
  generalize W / 2 ^ K * 2 ^ K = u at *
  generalize W / 2 ^ K = kept at *
  generalize 2 ^ (K - 1) = half at *
  generalize W - u = left at *
  have tt : Wv (tBl (qd (yg fun i j => decide (j < i)) (qa 3) (qa 4))) (Yy (tBl (qd (oEq false) (qa 3) (qa 4))) (tBl (qd (oEq false) (qd oMod (qa 2) (rC (.int 2))) (rC (.int 1))))) [.val (.int W) false, .val (.int K) false, .val (.int kept) true, .val (.int left) true, .val (.int half) true] = .ok (decide (half < left) || (decide (left = half) && decide (kept % 2 = 1))) := by
   refine qcJ (zP (k := .nw) ((qj (x := (.int left, .nw)) (y := (.int half, .nw)) rfl rfl).trans ?_)) (qa9 (zP (k := .nw) ((qj (x := (.int left, .nw)) (y := (.int half, .nw)) rfl rfl).trans ?_)) (zP (k := .nw) ((qj (x := (.int ((kept : Int) % 2), .nw)) (y := (.int 1, .nw)) ((qj (x := (.int kept, .nw)) (y := (.int 2, .nw)) rfl rfl).trans rfl) rfl).trans ?_)))
   ·show Rs.ok (D.bl (decide ((half : Int) < left)), Kd.nw) = _
    rw [show decide ((half : Int) < left) = decide (half < left) from decide_eq_decide.mpr (by lia)]
   ·show Rs.ok (D.bl (decide ((left : Int) = half)), Kd.nw) = _
    rw [jf]
   ·show Rs.ok (D.bl (decide ((kept : Int) % 2 = 1)), Kd.nw) = _
    rw [show decide ((kept : Int) % 2 = 1) = decide (kept % 2 = 1) from decide_eq_decide.mpr (by lia)]
  by_cases cc : half < left \/ (left = half /\ kept % 2 = 1)
  ·have tb : (decide (half < left) || (decide (left = half) && decide (kept % 2 = 1))) = true := by
    rw [Bool.or_eq_true, Bool.and_eq_true, decide_eq_true_eq, decide_eq_true_eq, decide_eq_true_eq]; exact cc
   rw [tb] at tt
   rw [if_pos cc]
   have hv : qd vx (qa 2) (rC (.int 1)) [.val (.int W) false, .val (.int K) false, .val (.int kept) true, .val (.int left) true, .val (.int half) true] = .ok (.int ((kept + 1 : Nat) : Int), .nw) := (qj (x := (.int kept, .nw)) (y := (.int 1, .nw)) rfl rfl).trans (vy (by lia))
   rw [u5 ((Qa tt).trans (wo (δ := [.val (.int W) false, .val (.int K) false, .val (.int kept) true, .val (.int left) true, .val (.int half) true]) hv))]
   rfl
  ·have tb : (decide (half < left) || (decide (left = half) && decide (kept % 2 = 1))) = false := by
    rw [Bool.eq_false_iff]
    intro z
    rw [Bool.or_eq_true, Bool.and_eq_true, decide_eq_true_eq, decide_eq_true_eq, decide_eq_true_eq] at z
    exact cc z
   rw [tb] at tt
   rw [if_neg cc, qX (z8 tt), Z5 (δ := [.val (.int W) false, .val (.int K) false, .val (.int kept) true, .val (.int left) true, .val (.int half) true]) (d := .int kept) (k := true) rfl rfl]
   rfl
theorem j3 : Hr za ["whole", "drop", "kept", "left", "half"] 2 vz := qbm Qw
theorem Qp {w d : Int} (h : 0 <= w /\ lt2 w.natAbs 30000 /\ -9000 <= d /\ d <= 55000) : vz [.int w, .int d] = iv (if d <= 0 then w * 2 ^ (-d).toNat else (Dm.nw w.toNat d.toNat : Int)) := Z2 h
noncomputable def wI : Option Nat -> Rs (D × Bool)
 | some r => iv r
 | none => .er "StepNotFinite"
noncomputable def wc : Fn := fn3 (fun s w p => (s = 0 \/ s = 1) /\ 0 <= w /\ lt2 w.natAbs 20000 /\ -8000 <= p /\ p <= 8000) fun s w p => wI (Dm.rnd (decide (s = 1)) w.toNat (p + 1074))
noncomputable def ud : RS := (wx (sIf (tBl (qd (oEq false) (qa 1) (rC (.int 0)))) (v7 (qd w4 (qa 0) (rC (.int 63)))) zu) (wx (we 3 (vB XW (qc (qd wD (qd wD (rUn oBits (qa 1)) (rC (.int (52)))) (rC (.int 1))) (qc (qd wD (rC (.int (-1074))) (qa 2)) qi)))) (wx (we 4 (qg vz (qc (qa 1) (qc (qa 3) qi)))) (wx (we 5 (qd vx (qd w4 (qd wD (qd vx (qa 2) (qa 3)) (rC (.int (-1074)))) (rC (.int (52)))) (qa 4))) (wx (sIf (tBl (qd (yg fun i j => decide (j <= i)) (qa 5) (rC (.int (9218868437227405312))))) (zR "StepNotFinite") zu) (v7 (qd vx (qd w4 (qa 0) (rC (.int 63))) (qa 5))))))))
theorem JN (s w p : Int) (h : (s = 0 \/ s = 1) /\ 0 <= w /\ lt2 w.natAbs 20000 /\ -8000 <= p /\ p <= 8000) : res (ud (sl0 ["sign", "whole", "power", "drop", "kept", "size"] [.int s, .int w, .int p])) = wI (Dm.rnd (decide (s = 1)) w.toNat (p + 1074)) := by
 obtain ⟨hs, h0, hw, hp1, hp2⟩ := h
 obtain ⟨W, rfl⟩ : ∃ W : Nat, w = W := ⟨w.toNat, by lia⟩
 rw [Int.natAbs_natCast] at hw
 unfold ud
 rw [show sl0 ["sign", "whole", "power", "drop", "kept", "size"] [.int s, .int (W : Int), .int p] = [.val (.int s) false, .val (.int W) false, .val (.int p) false, .un, .un, .un] from rfl]
 rw [Int.toNat_natCast]
 have hsg : s * 2 ^ 63 = ((if decide (s = 1) = true then 2 ^ 63 else 0 : Nat) : Int) := by rcases hs with rfl | rfl <;> rfl
 have fs : few s := uF 4 (by decide) (by rcases hs with rfl | rfl <;> decide)
 have ht : tBl (qd (oEq false) (qa 1) (rC (.int 0))) [.val (.int s) false, .val (.int W) false, .val (.int p) false, .un, .un, .un] = .ok (decide (W = 0)) := zP (k := .nw) ((qj (x := (.int W, .sh)) (y := (.int 0, .nw)) rfl rfl).trans (by
  show Rs.ok (D.bl (decide ((W : Int) = ((0 : Nat) : Int))), Kd.nw) = _
  rw [jf]))
 unfold Dm.rnd
 by_cases c : W = 0
 ·rw [decide_eq_true c] at ht
  rw [if_pos c]
  have hv : qd w4 (qa 0) (rC (.int 63)) [.val (.int s) false, .val (.int W) false, .val (.int p) false, .un, .un, .un] = .ok (.int ((if decide (s = 1) = true then 2 ^ 63 else 0 : Nat) : Int), .nw) := (qj (x := (.int s, .sh)) (y := (.int 63, .nw)) rfl rfl).trans ((zo (by decide) (by decide) fs).trans (vy hsg))
  rw [u5 ((Qa ht).trans (wo (δ := [.val (.int s) false, .val (.int W) false, .val (.int p) false, .un, .un, .un]) hv))]
  rfl
 ·rw [decide_eq_false c] at ht
  rw [if_neg c, qX (z8 ht)]
  have hlog : W.log2 < 20000 := hw.log (by decide)
  obtain ⟨d, hd⟩ : ∃ d : Int, d = max (((W.log2 + 1 : Nat) : Int) - 53) (-(p + 1074)) := ⟨_, rfl⟩
  rw [<- hd]
  show _ = wI (if 9218868437227405312 <= (p + 1074 + d).toNat * 2 ^ 52 + (if d <= 0 then W * 2 ^ (-d).toNat else Dm.nw W d.toNat) then none else some ((if decide (s = 1) = true then 2 ^ 63 else 0) + ((p + 1074 + d).toNat * 2 ^ 52 + (if d <= 0 then W * 2 ^ (-d).toNat else Dm.nw W d.toNat))))
  have hd1 : -9000 <= d /\ d <= 55000 := by lia
  have e3 : vB XW (qc (qd wD (qd wD (rUn oBits (qa 1)) (rC (.int (52)))) (rC (.int 1))) (qc (qd wD (rC (.int (-1074))) (qa 2)) qi)) [.val (.int s) false, .val (.int W) false, .val (.int p) false, .un, .un, .un] = .ok (.int d, .nw) := by
   have b1 : rUn oBits (qa 1) [.val (.int s) false, .val (.int W) false, .val (.int p) false, .un, .un, .un] = .ok (.int ((W.log2 + 1 : Nat) : Int), .nw) := (yV (x := (.int W, .sh)) rfl).trans (vy (by
    rw [if_neg (by lia), Int.natAbs_natCast]))
   have b2 : qd wD (qd wD (rUn oBits (qa 1)) (rC (.int (52)))) (rC (.int 1)) [.val (.int s) false, .val (.int W) false, .val (.int p) false, .un, .un, .un] = .ok (.int (((W.log2 + 1 : Nat) : Int) - 52 - 1), .nw) := (qj (y := (.int 1, .nw)) ((qj b1 (y := (.int 52, .nw)) rfl).trans rfl) rfl).trans rfl
   have b3 : qd wD (rC (.int (-1074))) (qa 2) [.val (.int s) false, .val (.int W) false, .val (.int p) false, .un, .un, .un] = .ok (.int (-1074 - p), .nw) := (qj (x := (.int (-1074), .nw)) (y := (.int p, .sh)) rfl rfl).trans rfl
   refine (x9 (qh b2 (qh b3 qB))).trans ?_
   show Rs.ok (D.int (if (-1074 - p) > ((W.log2 + 1 : Nat) : Int) - 52 - 1 then -1074 - p else ((W.log2 + 1 : Nat) : Int) - 52 - 1), Kd.nw) = _
   refine vy ?_
   rw [hd]
   split <;> lia
  rw [qX (show we 3 _ _ = .nx [.val (.int s) false, .val (.int W) false, .val (.int p) false, .val (.int d) true, .un, .un] from vV e3 rfl)]
  obtain ⟨kept, hk⟩ : ∃ kept : Nat, kept = if d <= 0 then W * 2 ^ (-d).toNat else Dm.nw W d.toNat := ⟨_, rfl⟩
  rw [<- hk]
  have e4 : qg vz (qc (qa 1) (qc (qa 3) qi)) [.val (.int s) false, .val (.int W) false, .val (.int p) false, .val (.int d) true, .un, .un] = .ok (.int kept, .nw) := by
   rw [qK (qh (x := (.int W, .sh)) rfl (qh (x := (.int d, .nw)) rfl qB))]
   show (vz [.int W, .int d]).bind _ = _
   rw [Qp ⟨by lia, by rw [Int.natAbs_natCast]; exact hw.up (by decide), hd1.1, hd1.2⟩]
   show Rs.ok (D.int (if d <= 0 then (W : Int) * 2 ^ (-d).toNat else (Dm.nw (W : Int).toNat d.toNat : Int)), Kd.nw) = _
   refine vy ?_
   rw [hk, Int.toNat_natCast]
   split
   ·rw [Int.natCast_mul, Int.natCast_pow]; rfl
   ·rfl
  rw [qX (show we 4 _ _ = .nx [.val (.int s) false, .val (.int W) false, .val (.int p) false, .val (.int d) true, .val (.int kept) true, .un] from vV e4 rfl)]
  obtain ⟨E, hE⟩ : ∃ E : Nat, (E : Int) = p + 1074 + d := ⟨(p + 1074 + d).toNat, by lia⟩
  rw [<- hE, Int.toNat_natCast]
  have hEs : E < 2 ^ 20 := by lia
  have e5 : qd vx (qd w4 (qd wD (qd vx (qa 2) (qa 3)) (rC (.int (-1074)))) (rC (.int (52)))) (qa 4) [.val (.int s) false, .val (.int W) false, .val (.int p) false, .val (.int d) true, .val (.int kept) true, .un] = .ok (.int ((E * 2 ^ 52 + kept : Nat) : Int), .nw) := by
   have b1 : qd wD (qd vx (qa 2) (qa 3)) (rC (.int (-1074))) [.val (.int s) false, .val (.int W) false, .val (.int p) false, .val (.int d) true, .val (.int kept) true, .un] = .ok (.int E, .nw) := (qj (x := (.int (p + d), .nw)) (y := (.int (-1074), .nw)) ((qj (x := (.int p, .sh)) (y := (.int d, .nw)) rfl rfl).trans rfl) rfl).trans (vy (by lia))
   have b2 : qd w4 (qd wD (qd vx (qa 2) (qa 3)) (rC (.int (-1074)))) (rC (.int (52))) [.val (.int s) false, .val (.int W) false, .val (.int p) false, .val (.int d) true, .val (.int kept) true, .un] = .ok (.int ((E * 2 ^ 52 : Nat) : Int), .nw) := (qj b1 (y := (.int 52, .nw)) rfl).trans ((zo (by decide) (by decide) (Zt 20 (by decide) hEs)).trans (vy (by rw [Int.natCast_mul]; rfl)))
   exact (qj b2 (y := (.int kept, .nw)) rfl).trans (vy (by rw [Int.natCast_add]))
  generalize E * 2 ^ 52 + kept = size at *
  rw [qX (show we 5 _ _ = .nx [.val (.int s) false, .val (.int W) false, .val (.int p) false, .val (.int d) true, .val (.int kept) true, .val (.int size) true] from vV e5 rfl)]
  have ht2 : tBl (qd (yg fun i j => decide (j <= i)) (qa 5) (rC (.int (9218868437227405312)))) [.val (.int s) false, .val (.int W) false, .val (.int p) false, .val (.int d) true, .val (.int kept) true, .val (.int size) true] = .ok (decide (9218868437227405312 <= size)) := zP (k := .nw) ((qj (x := (.int size, .nw)) (y := (.int 9218868437227405312, .nw)) rfl rfl).trans (by
   show Rs.ok (D.bl (decide ((9218868437227405312 : Int) <= size)), Kd.nw) = _
   rw [show decide ((9218868437227405312 : Int) <= size) = decide (9218868437227405312 <= size) from decide_eq_decide.mpr (by lia)]))
  by_cases c2 : 9218868437227405312 <= size
  ·rw [decide_eq_true c2] at ht2
   rw [if_pos c2, QL ((Qa ht2).trans rfl)]
   rfl
  ·rw [decide_eq_false c2] at ht2
   rw [if_neg c2, qX (z8 ht2)]
   have hv : qd vx (qd w4 (qa 0) (rC (.int 63))) (qa 5) [.val (.int s) false, .val (.int W) false, .val (.int p) false, .val (.int d) true, .val (.int kept) true, .val (.int size) true] = .ok (.int (((if decide (s = 1) = true then 2 ^ 63 else 0) + size : Nat) : Int), .nw) := by
    have b1 : qd w4 (qa 0) (rC (.int 63)) [.val (.int s) false, .val (.int W) false, .val (.int p) false, .val (.int d) true, .val (.int kept) true, .val (.int size) true] = .ok (.int ((if decide (s = 1) = true then 2 ^ 63 else 0 : Nat) : Int), .nw) := (qj (x := (.int s, .sh)) (y := (.int 63, .nw)) rfl rfl).trans ((zo (by decide) (by decide) fs).trans (vy hsg))
    exact (qj b1 (y := (.int size, .nw)) rfl).trans (vy (by rw [Int.natCast_add]))
   rw [wo (δ := [.val (.int s) false, .val (.int W) false, .val (.int p) false, .val (.int d) true, .val (.int kept) true, .val (.int size) true]) hv]
   rfl
theorem Xx : Hr ud ["sign", "whole", "power", "drop", "kept", "size"] 3 wc := qaU JN
theorem WZ {s w p : Int} (h : (s = 0 \/ s = 1) /\ 0 <= w /\ lt2 w.natAbs 20000 /\ -8000 <= p /\ p <= 8000) : wc [.int s, .int w, .int p] = wI (Dm.rnd (decide (s = 1)) w.toNat (p + 1074)) := Zc h
noncomputable abbrev U3 (x y z : Int) : Prop := U64 x /\ U64 y /\ U64 z
noncomputable abbrev U2 (x y : Int) : Prop := U64 x /\ U64 y
noncomputable def ym : Fn := fn3 U3 fun x y z => wI (Pv.fused x.toNat y.toNat z.toNat)
noncomputable def QQ : RS := (wx (we 3 (qd vx (qg qF (qc (qa 0) qi)) (qg qF (qc (qa 1) qi)))) (wx (we 4 (vB qex (qc (qa 3) (qc (qg qF (qc (qa 2) qi)) qi)))) (wx (we 5 (qd w4 (qd Q8 (qg qG (qc (qa 0) qi)) (qg qG (qc (qa 1) qi))) (qd wD (qa 3) (qa 4)))) (wx (we 6 (qd vx (qa 5) (qd w4 (qg qG (qc (qa 2) qi)) (qd wD (qg qF (qc (qa 2) qi)) (qa 4))))) (wx (sIf (tBl (qd (oEq false) (qa 6) (rC (.int 0)))) (v7 (qd w4 (qd (jG Builtin.bitAnd) (qd (jG Builtin.bitXor) (qg qO (qc (qa 0) qi)) (qg qO (qc (qa 1) qi))) (qg qO (qc (qa 2) qi))) (rC (.int 63)))) zu) (v7 (qg wc (qc (jW (tBl (qd (yg fun i j => decide (i < j)) (qa 6) (rC (.int 0)))) (rC (.int 1)) (rC (.int 0))) (qc (vB qet (qc (qa 6) qi)) (qc (qa 4) qi))))))))))
theorem qaA {p : Prop} [Decidable p] : decide ((if p then (1 : Int) else 0) = 1) = decide p := by by_cases h : p <;> simp [h]
theorem Q4 {r : RE} {δ : Dl} {o : Option Nat} (h : r δ = (wI o).bind fun y => .ok (y.1, kB y.2)) (hf : autoParam (freeze δ = δ) qm._auto_1) : res (v7 r δ) = wI o := by
 cases o with
 | none => rw [xh (c := "StepNotFinite") (by rw [hf, h]; rfl)]; rfl
 | some v => rw [wo (d := .int v) (by rw [hf, h]; rfl)]; rfl
theorem Yp {x : Nat} (h : x < 2 ^ 64) : Dm.ex x <= 2046 := by
 unfold Dm.ex Dm.sz
 lia
theorem YL {x : Nat} (h : x < 2 ^ 64) : Dm.sg x = 0 \/ Dm.sg x = 1 := by
 unfold Dm.sg
 lia
theorem qbv (x : Nat) : lt2 (Dm.sw x).natAbs 53 := by
 unfold Dm.sw
 split
 ·rw [Int.natAbs_neg, Int.natAbs_natCast]; exact Dm.YK x
 ·rw [Int.natAbs_natCast]; exact Dm.YK x
theorem jr {X : Nat} (h : U64 (X : Int)) : X < 2 ^ 64 := by have := h.2; lia
theorem qb6 (x y z : Int) (h : U3 x y z) : res (QQ (sl0 ["x", "y", "z", "power", "low", "product_part", "total"] [.int x, .int y, .int z])) = wI (Pv.fused x.toNat y.toNat z.toNat) := by
 obtain ⟨hx, hy, hz⟩ := h
 obtain ⟨X, rfl⟩ := yG hx
 obtain ⟨Y, rfl⟩ := yG hy
 obtain ⟨Z, rfl⟩ := yG hz
 have lx := jr hx
 have ly := jr hy
 have lz := jr hz
 rw [Int.toNat_natCast, Int.toNat_natCast, Int.toNat_natCast, <- Dm.qbs lx ly lz]
 unfold QQ
 rw [show sl0 ["x", "y", "z", "power", "low", "product_part", "total"] [.int (X : Int), .int (Y : Int), .int (Z : Int)] = [.val (.int X) false, .val (.int Y) false, .val (.int Z) false, .un, .un, .un, .un] from rfl]
 have pw : ∀ {i : Nat} {V : Nat} {δ : Dl} {k : Kd}, U64 (V : Int) -> qa i δ = .ok (.int V, k) -> qg qF (qc (qa i) qi) δ = .ok (.int ((Dm.ex V : Int) - 1074), .nw) := fun {i V δ k} u e => (zx e (uH u)).trans rfl
 have sww : ∀ {i : Nat} {V : Nat} {δ : Dl} {k : Kd}, U64 (V : Int) -> qa i δ = .ok (.int V, k) -> qg qG (qc (qa i) qi) δ = .ok (.int (Dm.sw V), .nw) := fun {i V δ k} u e => (zx e (VT u)).trans rfl
 have sgg : ∀ {i : Nat} {V : Nat} {δ : Dl} {k : Kd}, U64 (V : Int) -> qa i δ = .ok (.int V, k) -> qg qO (qc (qa i) qi) δ = .ok (.int (Dm.sg V), .nw) := fun {i V δ k} u e => (zx e (ui u)).trans rfl
 obtain ⟨P, hP⟩ : ∃ P : Int, P = (Dm.ex X : Int) + Dm.ex Y - 2148 := ⟨_, rfl⟩
 obtain ⟨Q, hQ⟩ : ∃ Q : Int, Q = (Dm.ex Z : Int) - 1074 := ⟨_, rfl⟩
 obtain ⟨L, hL⟩ : ∃ L : Int, L = min P Q := ⟨_, rfl⟩
 have bx := Yp lx
 have by_ := Yp ly
 have bz := Yp lz
 obtain ⟨T, hT⟩ : ∃ T : Int, T = Dm.sw X * Dm.sw Y * 2 ^ (P - L).toNat + Dm.sw Z * 2 ^ (Q - L).toNat := ⟨_, rfl⟩
 have hm : Dm.XF X Y Z = if T = 0 then some (if (Dm.sg X ≠ Dm.sg Y) /\ Dm.sg Z = 1 then 2 ^ 63 else 0) else Dm.rnd (decide (T < 0)) T.natAbs (L + 1074) := by
  rw [hT, hL, hP, hQ]
  rfl
 rw [hm]
 have e3 : qd vx (qg qF (qc (qa 0) qi)) (qg qF (qc (qa 1) qi)) [.val (.int X) false, .val (.int Y) false, .val (.int Z) false, .un, .un, .un, .un] = .ok (.int P, .nw) := (qj (pw hx rfl) (pw hy rfl)).trans (vy (by rw [hP]; lia))
 rw [qX (show we 3 _ _ = .nx [.val (.int X) false, .val (.int Y) false, .val (.int Z) false, .val (.int P) true, .un, .un, .un] from vV e3 rfl)]
 have e4 : vB qex (qc (qa 3) (qc (qg qF (qc (qa 2) qi)) qi)) [.val (.int X) false, .val (.int Y) false, .val (.int Z) false, .val (.int P) true, .un, .un, .un] = .ok (.int L, .nw) := (x9 (qh (x := (.int P, .nw)) rfl (qh (pw hz rfl) qB))).trans (by
  show Rs.ok (D.int (if (Dm.ex Z : Int) - 1074 < P then (Dm.ex Z : Int) - 1074 else P), Kd.nw) = _
  refine vy ?_
  rw [hL, hQ]
  split <;> lia)
 rw [qX (show we 4 _ _ = .nx [.val (.int X) false, .val (.int Y) false, .val (.int Z) false, .val (.int P) true, .val (.int L) true, .un, .un] from vV e4 rfl)]
 have fx := qbv X
 have fy := qbv Y
 have fz := qbv Z
 have fxy : lt2 (Dm.sw X * Dm.sw Y).natAbs 106 := by rw [Int.natAbs_mul]; exact fx.mul fy
 have e5 : qd w4 (qd Q8 (qg qG (qc (qa 0) qi)) (qg qG (qc (qa 1) qi))) (qd wD (qa 3) (qa 4)) [.val (.int X) false, .val (.int Y) false, .val (.int Z) false, .val (.int P) true, .val (.int L) true, .un, .un] = .ok (.int (Dm.sw X * Dm.sw Y * 2 ^ (P - L).toNat), .nw) :=
  (qj (x := (.int (Dm.sw X * Dm.sw Y), .nw)) (y := (.int (P - L), .nw)) ((qj (sww hx rfl) (sww hy rfl)).trans (Vg (fx.qb0 (by decide)) (fy.qb0 (by decide)))) ((qj (x := (.int P, .nw)) (y := (.int L, .nw)) rfl rfl).trans rfl)).trans (zo (by lia) (by lia) (fxy.qb0 (by decide)))
 rw [qX (show we 5 _ _ = .nx [.val (.int X) false, .val (.int Y) false, .val (.int Z) false, .val (.int P) true, .val (.int L) true, .val (.int (Dm.sw X * Dm.sw Y * 2 ^ (P - L).toNat)) true, .un] from vV e5 rfl)]
 have e6 : qd vx (qa 5) (qd w4 (qg qG (qc (qa 2) qi)) (qd wD (qg qF (qc (qa 2) qi)) (qa 4))) [.val (.int X) false, .val (.int Y) false, .val (.int Z) false, .val (.int P) true, .val (.int L) true, .val (.int (Dm.sw X * Dm.sw Y * 2 ^ (P - L).toNat)) true, .un] = .ok (.int T, .nw) := by
  have b1 : qd w4 (qg qG (qc (qa 2) qi)) (qd wD (qg qF (qc (qa 2) qi)) (qa 4)) [.val (.int X) false, .val (.int Y) false, .val (.int Z) false, .val (.int P) true, .val (.int L) true, .val (.int (Dm.sw X * Dm.sw Y * 2 ^ (P - L).toNat)) true, .un] = .ok (.int (Dm.sw Z * 2 ^ (Q - L).toNat), .nw) :=
   (qj (y := (.int (Q - L), .nw)) (sww hz rfl) ((qj (y := (.int L, .nw)) (pw hz rfl) rfl).trans (vy (by rw [hQ])))).trans (zo (by lia) (by lia) (fz.qb0 (by decide)))
  exact (qj (x := (.int (Dm.sw X * Dm.sw Y * 2 ^ (P - L).toNat), .nw)) rfl b1).trans (vy hT.symm)
 rw [qX (show we 6 _ _ = .nx [.val (.int X) false, .val (.int Y) false, .val (.int Z) false, .val (.int P) true, .val (.int L) true, .val (.int (Dm.sw X * Dm.sw Y * 2 ^ (P - L).toNat)) true, .val (.int T) true] from vV e6 rfl)]
 have fT : lt2 T.natAbs 20000 := by
  have a1 : lt2 (Dm.sw X * Dm.sw Y * 2 ^ (P - L).toNat).natAbs 19999 := by
   rw [Int.natAbs_mul, Int.natAbs_pow]
   exact (fxy.mul (lt2.pow (P - L).toNat)).up (by lia)
  have a2 : lt2 (Dm.sw Z * 2 ^ (Q - L).toNat).natAbs 19999 := by
   rw [Int.natAbs_mul, Int.natAbs_pow]
   exact (fz.mul (lt2.pow (Q - L).toNat)).up (by lia)
  rw [hT]
  exact (a1.add a2).mono (Int.natAbs_add_le _ _)
 generalize Dm.sw X * Dm.sw Y * 2 ^ (P - L).toNat = pp
 have ht : tBl (qd (oEq false) (qa 6) (rC (.int 0))) [.val (.int X) false, .val (.int Y) false, .val (.int Z) false, .val (.int P) true, .val (.int L) true, .val (.int pp) true, .val (.int T) true] = .ok (decide (T = 0)) := zP (k := .nw) ((qj (x := (.int T, .nw)) (y := (.int 0, .nw)) rfl rfl).trans rfl)
 by_cases c : T = 0
 ·rw [decide_eq_true c] at ht
  rw [if_pos c]
  have hv : qd w4 (qd (jG Builtin.bitAnd) (qd (jG Builtin.bitXor) (qg qO (qc (qa 0) qi)) (qg qO (qc (qa 1) qi))) (qg qO (qc (qa 2) qi))) (rC (.int 63)) [.val (.int X) false, .val (.int Y) false, .val (.int Z) false, .val (.int P) true, .val (.int L) true, .val (.int pp) true, .val (.int T) true] = .ok (.int ((if (Dm.sg X ≠ Dm.sg Y) /\ Dm.sg Z = 1 then 2 ^ 63 else 0 : Nat) : Int), .nw) := by
   have b : Builtin.bitAnd (Builtin.bitXor (Dm.sg X) (Dm.sg Y)) (Dm.sg Z) = ((if (Dm.sg X ≠ Dm.sg Y) /\ Dm.sg Z = 1 then 1 else 0 : Nat) : Int) := by
    rcases YL lx with a | a <;> rcases YL ly with b | b <;> rcases YL lz with d | d <;> rw [a, b, d] <;> decide
   have b1 := (qj (f := jG Builtin.bitAnd) (x := (.int (Builtin.bitXor (Dm.sg X) (Dm.sg Y)), .nw)) ((qj (f := jG Builtin.bitXor) (sgg (i := 0) (δ := [.val (.int X) false, .val (.int Y) false, .val (.int Z) false, .val (.int P) true, .val (.int L) true, .val (.int pp) true, .val (.int T) true]) hx rfl) (sgg (i := 1) hy rfl)).trans rfl) (sgg (i := 2) hz rfl)).trans (vy b)
   refine (qj b1 (y := (.int 63, .nw)) rfl).trans ((zo (by decide) (by decide) (Zt 4 (by decide) (by split <;> decide))).trans (vy ?_))
   split <;> rfl
  rw [u5 ((Qa ht).trans (wo (δ := [.val (.int X) false, .val (.int Y) false, .val (.int Z) false, .val (.int P) true, .val (.int L) true, .val (.int pp) true, .val (.int T) true]) hv))]
  rfl
 ·rw [decide_eq_false c] at ht
  rw [if_neg c, qX (z8 ht)]
  have hs : jW (tBl (qd (yg fun i j => decide (i < j)) (qa 6) (rC (.int 0)))) (rC (.int 1)) (rC (.int 0)) [.val (.int X) false, .val (.int Y) false, .val (.int Z) false, .val (.int P) true, .val (.int L) true, .val (.int pp) true, .val (.int T) true] = .ok (.int (if T < 0 then 1 else 0), .nw) := by
   have tt : tBl (qd (yg fun i j => decide (i < j)) (qa 6) (rC (.int 0))) [.val (.int X) false, .val (.int Y) false, .val (.int Z) false, .val (.int P) true, .val (.int L) true, .val (.int pp) true, .val (.int T) true] = .ok (decide (T < 0)) := zP (k := .nw) ((qj (x := (.int T, .nw)) (y := (.int 0, .nw)) rfl rfl).trans rfl)
   by_cases q : T < 0
   ·rw [decide_eq_true q] at tt
    rw [UG tt, if_pos q]
    rfl
   ·rw [decide_eq_false q] at tt
    rw [XC tt, if_neg q]
    rfl
  have ha : vB qet (qc (qa 6) qi) [.val (.int X) false, .val (.int Y) false, .val (.int Z) false, .val (.int P) true, .val (.int L) true, .val (.int pp) true, .val (.int T) true] = .ok (.int (T.natAbs : Int), .nw) := (x9 (qh (x := (.int T, .nw)) rfl qB)).trans (vy (by split <;> lia))
  have hg : wc [.int (if T < 0 then 1 else 0), .int (T.natAbs : Int), .int L] = wI (Dm.rnd (decide (T < 0)) T.natAbs (L + 1074)) := by
   rw [WZ ⟨by split <;> simp, by lia, by rw [Int.natAbs_natCast]; exact fT, by lia, by lia⟩, Int.toNat_natCast]
   rw [qaA]
  have hcall := qK (g := wc) (δ := [.val (.int X) false, .val (.int Y) false, .val (.int Z) false, .val (.int P) true, .val (.int L) true, .val (.int pp) true, .val (.int T) true]) (qh hs (qh ha (qh (ra := qa 4) (x := (.int L, .nw)) rfl qB)))
  exact Q4 (δ := [.val (.int X) false, .val (.int Y) false, .val (.int Z) false, .val (.int P) true, .val (.int L) true, .val (.int pp) true, .val (.int T) true]) (hcall.trans (congrArg (fun q => Rs.bind q _) hg))
theorem qbH : Hr QQ ["x", "y", "z", "power", "low", "product_part", "total"] 3 ym := qaU qb6
theorem qcH {x y z : Int} (h : U64 x) (h2 : U64 y) (h3 : U64 z) : ym [.int x, .int y, .int z] = wI (Pv.fused x.toNat y.toNat z.toNat) := Zc ⟨h, h2, h3⟩
theorem UO {neg : Bool} {m r : Nat} (h : Pv.pack neg m = some r) : r < 2 ^ 64 := by
 unfold Pv.pack at h
 split at h
 ·cases h
 ·rename_i hm
  have hm : m < 2 ^ 2098 := Nat.lt_of_not_le hm
  cases h
  have a : (if neg = true then 2 ^ 63 else 0) <= 2 ^ 63 := by split <;> decide
  have b : (if m < 2 ^ 52 then m else (m.log2 - 51) * 2 ^ 52 + m / 2 ^ (m.log2 - 52) % 2 ^ 52) < 2 ^ 63 := by
   split
   ·rename_i q; exact Nat.lt_trans q (by decide)
   ·have hl : m.log2 < 2098 := by
     by_cases z : m = 0
     ·rw [z, Nat.log2_zero]; decide
     ·exact (Nat.log2_lt z).mpr hm
    have q := Nat.mod_lt (m / 2 ^ (m.log2 - 52)) (show 0 < 2 ^ 52 by decide)
    generalize m / 2 ^ (m.log2 - 52) % 2 ^ 52 = v at q ⊢
    generalize m.log2 = u at hl ⊢
    clear hm
    lia
  clear hm
  lia
theorem qaZ {s : Int} {d : Nat} {b : Bool} {r : Nat} (h : Pv.ofSum s d b = some r) : r < 2 ^ 64 := by
 unfold Pv.ofSum at h
 split at h
 ·cases h; split <;> decide
 ·exact UO h
theorem qby {x y z r : Nat} (h : Pv.fused x y z = some r) : r < 2 ^ 64 := qaZ h
theorem X9 {r : RE} {δ : Dl} {xs : List D} {k : Kd} (h : r δ = .ok (.lst xs, k)) : iOf r δ = .ok (k.safe, xs.map fun d => (d, k.low .nw)) := by unfold iOf; rw [h]; rfl
theorem VZ {x : Option Nat} : ∀ {e}, Pv.step x = .error e -> e = -3 := by
 intro e h
 cases x with
 | none => cases h; rfl
 | some y => cases h
open Classical in
noncomputable def gSh (sh : List Bool) (P : List Int -> List (List Int) -> Prop) (h : List Int -> List (List Int) -> Rs (D × Bool)) : Fn := fun ds => match asks sh ds with
 | some x => if P x.1 x.2 then h x.1 x.2 else .no
 | none => .no
theorem qbZ {sh : List Bool} {P : List Int -> List (List Int) -> Prop} {h : List Int -> List (List Int) -> Rs (D × Bool)} {is : List Int} {ls : List (List Int)} (h1 : is.length = sh.count false) (h2 : ls.length = sh.count true) (g : P is ls) : gSh sh P h (unp sh is ls) = h is ls := by
 unfold gSh
 rw [QI h1 h2]
 exact if_pos g
theorem qeW {sh : List Bool} {P : List Int -> List (List Int) -> Prop} {h : List Int -> List (List Int) -> Rs (D × Bool)} {r : RS} {N : List Str} {n : Nat}
  (q : ∀ is ls, is.length = sh.count false -> ls.length = sh.count true -> P is ls -> res (r (sl0 N (unp sh is ls))) = h is ls) : Hr r N n (gSh sh P h) := by
 intro ds _
 cases e : asks sh ds with
 | none => left; unfold gSh; rw [e]
 | some x =>
  obtain ⟨is, ls⟩ := x
  by_cases g : P is ls
  ·right
   obtain ⟨e1, e2, e3⟩ := QZ e
   rw [e1, q is ls e2 e3 g, qbZ e2 e3 g]
  ·left
   unfold gSh
   rw [e]
   exact if_neg g
theorem J6 {ns : List Int} (h : jc ns) : ns.map D.int = (nats ns).map fun (n : Nat) => D.int n := by
 conv => lhs; rw [<- J5 h]
 rw [List.map_map]
 rfl
theorem Jb {ns : List Int} (h : jc ns) : ∀ v ∈ nats ns, v < 2 ^ 64 := fun v hv => by
 obtain ⟨x, hx, rfl⟩ := List.mem_map.mp hv
 obtain ⟨h1, h2⟩ := h x hx
 lia
theorem yA {xs : List D} {k l : Kd} {i : Nat} {d : D} (h : xs[i]? = some d) : oIx (.lst xs, k) (.int (i : Nat), l) = .ok (d, k.low .nw) := by
 have hi : i < xs.length := (List.getElem?_eq_some_iff.mp h).1
 have e : yh xs.length (i : Nat) = some i := by
  unfold yh
  rw [if_pos (by lia), if_pos (by lia), Int.toNat_natCast]
 unfold oIx
 dsimp only
 rw [e]
 show (match xs[i]? with | some d => Rs.ok (d, k.low .nw) | none => .no) = _
 rw [h]
theorem VH {α β γ : Type} (f : α -> β) (g : α -> γ) : ∀ l : List α, (l.map f).zip (l.map g) = l.map fun x => (f x, g x)
 | [] => rfl
 | x :: l => by rw [List.map_cons, List.map_cons, List.zip_cons_cons, VH f g l, List.map_cons]
theorem qbf {l : List Nat} (k : Nat) : (l.map fun (n : Nat) => D.int n).getD k (.int 0) = .int (l.getD k 0 : Nat) := by
 rw [List.getD_eq_getElem?_getD, List.getElem?_map, List.getD_eq_getElem?_getD]
 cases l[k]? <;> rfl
theorem WL {l : List Nat} (h : ∀ v ∈ l, v < 2 ^ 64) (k : Nat) : l.getD k 0 < 2 ^ 64 := by
 rw [List.getD_eq_getElem?_getD]
 cases e : l[k]? with
 | none => decide
 | some x => exact h x (List.mem_of_getElem? e)
theorem ji {β γ : Type} {f : β -> Pv.Did γ} : ∀ {l : List β} {rs : List γ}, l.mapM f = .ok rs -> ∀ r ∈ rs, ∃ x ∈ l, f x = .ok r
 | [], rs, h, r, hr => by cases h; cases hr
 | x :: l, rs, h, r, hr => by
  rw [List.mapM_cons] at h
  cases e : f x with
  | error z => rw [e] at h; cases h
  | ok v =>
   rw [e] at h
   cases e2 : l.mapM f with
   | error z => rw [e2] at h; cases h
   | ok q =>
    rw [e2] at h
    cases h
    rcases List.mem_cons.mp hr with rfl | hr
    ·exact ⟨x, List.mem_cons_self, e⟩
    ·obtain ⟨y, hy, e3⟩ := ji e2 r hr
     exact ⟨y, List.mem_cons_of_mem _ hy, e3⟩
theorem uV {β γ : Type} {f : β -> Pv.Did γ} : ∀ {l : List β} {z : Int}, l.mapM f = .error z -> ∃ x ∈ l, f x = .error z
 | [], _, h => by cases h
 | x :: l, z, h => by
  rw [List.mapM_cons] at h
  cases e : f x with
  | error y => rw [e] at h; cases h; exact ⟨x, List.mem_cons_self, e⟩
  | ok v =>
   rw [e] at h
   cases e2 : l.mapM f with
   | error y =>
    rw [e2] at h
    cases h
    obtain ⟨y, hy, e3⟩ := uV e2
    exact ⟨y, List.mem_cons_of_mem _ hy, e3⟩
   | ok q => rw [e2] at h; cases h
end Dt
set_option maxHeartbeats 4000000
set_option maxHeartbeats 2000000
namespace Dt
open PySem L2 L2.Ir
theorem qa1 {i j : Int} {k l : Kd} (h1 : 0 < j) (h2 : j.natAbs.log2 < 9000) : WE (.int i, k) (.int j, l) = .ok (.int (i / j), .nw) := if_pos ⟨h1, h2⟩
theorem qcE {i j : Int} {k l : Kd} (h1 : 0 < j) : oMod (.int i, k) (.int j, l) = .ok (.int (i % j), .nw) := if_pos h1
noncomputable def qeR : List Int -> List (List Int) -> Prop
 | [s, w, _, p], [] => (s = 0 \/ s = 1) /\ 0 <= w /\ lt2 w.natAbs 19000 /\ -7000 <= p /\ p <= 7000
 | _, _ => False
noncomputable def qfo : List Int -> List (List Int) -> Rs (D × Bool)
 | [s, w, l, p], [] => wI (Dm.rnd (decide (s = 1)) (w.toNat * 2 + (if l = 0 then 0 else 1)) (p + 1073))
 | _, _ => .no
noncomputable def qU : Fn := gSh [false, false, false, false] qeR qfo
noncomputable def wb : RS := (wx (we 4 (jW (tBl (qd (oEq false) (qa 2) (rC (.int 0)))) (rC (.int 0)) (rC (.int 1)))) (v7 (qg wc (qc (qa 0) (qc (qd vx (qd Q8 (qa 1) (rC (.int 2))) (qa 4)) (qc (qd wD (qa 3) (rC (.int 1))) qi))))))
theorem um (s w l p : Int) (h : (s = 0 \/ s = 1) /\ 0 <= w /\ lt2 w.natAbs 19000 /\ -7000 <= p /\ p <= 7000) : res (wb (sl0 ["sign", "whole", "left", "power", "behind"] [.int s, .int w, .int l, .int p])) = wI (Dm.rnd (decide (s = 1)) (w.toNat * 2 + (if l = 0 then 0 else 1)) (p + 1073)) := by
 obtain ⟨hs, h0, hw, hp1, hp2⟩ := h
 obtain ⟨W, rfl⟩ : ∃ W : Nat, w = W := ⟨w.toNat, by lia⟩
 rw [Int.natAbs_natCast] at hw
 rw [Int.toNat_natCast]
 unfold wb
 rw [show sl0 ["sign", "whole", "left", "power", "behind"] [.int s, .int (W : Int), .int l, .int p] = [.val (.int s) false, .val (.int W) false, .val (.int l) false, .val (.int p) false, .un] from rfl]
 obtain ⟨B, hB⟩ : ∃ B : Nat, B = if l = 0 then 0 else 1 := ⟨_, rfl⟩
 rw [<- hB]
 have hB1 : B <= 1 := by rw [hB]; split <;> lia
 have e4 : jW (tBl (qd (oEq false) (qa 2) (rC (.int 0)))) (rC (.int 0)) (rC (.int 1)) [.val (.int s) false, .val (.int W) false, .val (.int l) false, .val (.int p) false, .un] = .ok (.int B, .nw) := by
  have tt : tBl (qd (oEq false) (qa 2) (rC (.int 0))) [.val (.int s) false, .val (.int W) false, .val (.int l) false, .val (.int p) false, .un] = .ok (decide (l = 0)) := zP (k := .nw) ((qj (x := (.int l, .sh)) (y := (.int 0, .nw)) rfl rfl).trans rfl)
  by_cases c : l = 0
  ·rw [decide_eq_true c] at tt
   rw [UG tt, hB, if_pos c]
   rfl
  ·rw [decide_eq_false c] at tt
   rw [XC tt, hB, if_neg c]
   rfl
 rw [qX (show we 4 _ _ = .nx [.val (.int s) false, .val (.int W) false, .val (.int l) false, .val (.int p) false, .val (.int B) true] from vV e4 rfl)]
 have b1 : qd vx (qd Q8 (qa 1) (rC (.int 2))) (qa 4) [.val (.int s) false, .val (.int W) false, .val (.int l) false, .val (.int p) false, .val (.int B) true] = .ok (.int ((W * 2 + B : Nat) : Int), .nw) := (qj (y := (.int B, .nw)) ((qj (x := (.int W, .sh)) (y := (.int 2, .nw)) rfl rfl).trans (Vg (hw.few (by decide)) (uF 4 (by decide) (by decide)))) rfl).trans (vy (by rw [Int.natCast_add, Int.natCast_mul]; rfl))
 have b2 : qd wD (qa 3) (rC (.int 1)) [.val (.int s) false, .val (.int W) false, .val (.int l) false, .val (.int p) false, .val (.int B) true] = .ok (.int (p - 1), .nw) := (qj (x := (.int p, .sh)) (y := (.int 1, .nw)) rfl rfl).trans rfl
 have f2 : lt2 (W * 2 + B) 20000 := ((hw.mul (show lt2 2 2 by unfold lt2; decide)).add ((show lt2 B 2 by unfold lt2; lia).up (by decide))).up (by decide)
 have hg := WZ (s := s) (w := ((W * 2 + B : Nat) : Int)) (p := p - 1) ⟨hs, by lia, by rw [Int.natAbs_natCast]; exact f2, by lia, by lia⟩
 rw [Int.toNat_natCast, show p - 1 + 1074 = p + 1073 by lia] at hg
 have hcall := qK (g := wc) (δ := [.val (.int s) false, .val (.int W) false, .val (.int l) false, .val (.int p) false, .val (.int B) true]) (qh (ra := qa 0) (x := (.int s, .sh)) rfl (qh b1 (qh b2 qB)))
 exact Q4 (δ := [.val (.int s) false, .val (.int W) false, .val (.int l) false, .val (.int p) false, .val (.int B) true]) (hcall.trans (congrArg (fun q => Rs.bind q _) hg))
theorem xU : Hr wb ["sign", "whole", "left", "power", "behind"] 4 qU := qeW fun is ls h1 h2 g => by
 obtain ⟨s, w, l, p, rfl⟩ := qdI h1
 obtain rfl := List.eq_nil_of_length_eq_zero h2
 exact um s w l p g
theorem uo {s w l p : Int} (h : (s = 0 \/ s = 1) /\ 0 <= w /\ lt2 w.natAbs 19000 /\ -7000 <= p /\ p <= 7000) : qU [.int s, .int w, .int l, .int p] = wI (Dm.rnd (decide (s = 1)) (w.toNat * 2 + (if l = 0 then 0 else 1)) (p + 1073)) := qbZ (sh := [false, false, false, false]) (P := qeR) (h := qfo) (is := [s, w, l, p]) (ls := []) rfl rfl h
noncomputable def vg : Fn := fn2 U2 fun x y => wI (Pv.div x.toNat y.toNat)
noncomputable def xa : RS := (wx (sIf (tBl (qg vJ (qc (qa 1) qi))) (zR "StepNotFinite") zu) (wx (we 2 (qd w4 (qg qP (qc (qa 0) qi)) (rC (.int (112))))) (wx (we 3 (qd WE (qa 2) (qg qP (qc (qa 1) qi)))) (wx (we 4 (qd oMod (qa 2) (qg qP (qc (qa 1) qi)))) (v7 (qg qU (qc (qd (jG Builtin.bitXor) (qg qO (qc (qa 0) qi)) (qg qO (qc (qa 1) qi))) (qc (qa 3) (qc (qa 4) (qc (qd wD (qd wD (qg qF (qc (qa 0) qi)) (qg qF (qc (qa 1) qi))) (rC (.int (112)))) qi))))))))))
theorem Xu (x y : Int) (h : U2 x y) : res (xa (sl0 ["x", "y", "widened", "whole", "left"] [.int x, .int y])) = wI (Pv.div x.toNat y.toNat) := by
 obtain ⟨hx, hy⟩ := h
 obtain ⟨X, rfl⟩ := yG hx
 obtain ⟨Y, rfl⟩ := yG hy
 have lx := jr hx
 have ly := jr hy
 rw [Int.toNat_natCast, Int.toNat_natCast, <- Dm.qdJ lx ly]
 unfold xa Dm.jQ
 rw [show sl0 ["x", "y", "widened", "whole", "left"] [.int (X : Int), .int (Y : Int)] = [.val (.int X) false, .val (.int Y) false, .un, .un, .un] from rfl]
 have ht : tBl (qg vJ (qc (qa 1) qi)) [.val (.int X) false, .val (.int Y) false, .un, .un, .un] = .ok (decide (Dm.sz Y = 0)) := zP (k := .nw) ((zx (x := (.int Y, .sh)) rfl (WO hy)).trans (by
  show Rs.ok (D.bl (decide ((Y : Int) % 9223372036854775808 = 0)), Kd.nw) = _
  rw [show decide ((Y : Int) % 9223372036854775808 = 0) = decide (Dm.sz Y = 0) from decide_eq_decide.mpr (by unfold Dm.sz; lia)]))
 by_cases c : Dm.sz Y = 0
 ·rw [decide_eq_true c] at ht
  rw [if_pos c, QL ((Qa ht).trans rfl)]
  rfl
 ·rw [decide_eq_false c] at ht
  rw [if_neg c, qX (z8 ht)]
  have hwy : 0 < Dm.wh Y := Nat.pos_of_ne_zero fun z => c ((Dm.xW Y).mp z)
  have w1 : lt2 (Dm.wh X) 53 := Dm.YK _
  have w2 : lt2 (Dm.wh Y) 53 := Dm.YK _
  have bx := Yp lx
  have by_ := Yp ly
  have wwx : ∀ {δ : Dl} {k : Kd}, qa 0 δ = .ok (.int X, k) -> qg qP (qc (qa 0) qi) δ = .ok (.int (Dm.wh X), .nw) := fun e => (zx e (uN hx)).trans rfl
  have wwy : ∀ {δ : Dl} {k : Kd}, qa 1 δ = .ok (.int Y, k) -> qg qP (qc (qa 1) qi) δ = .ok (.int (Dm.wh Y), .nw) := fun e => (zx e (uN hy)).trans rfl
  obtain ⟨V, hV⟩ : ∃ V : Nat, V = Dm.wh X * 2 ^ 112 := ⟨_, rfl⟩
  rw [<- hV]
  have fV : lt2 V 166 := by rw [hV]; exact w1.mul (lt2.pow 112)
  have e2 : qd w4 (qg qP (qc (qa 0) qi)) (rC (.int (112))) [.val (.int X) false, .val (.int Y) false, .un, .un, .un] = .ok (.int V, .nw) := (qj (y := (.int 112, .nw)) (wwx rfl) rfl).trans ((zo (by decide) (by decide) (w1.few (by decide))).trans (vy (by rw [hV, Int.natCast_mul]; rfl)))
  rw [qX (show we 2 _ _ = .nx [.val (.int X) false, .val (.int Y) false, .val (.int V) true, .un, .un] from vV e2 rfl)]
  have e3 : qd WE (qa 2) (qg qP (qc (qa 1) qi)) [.val (.int X) false, .val (.int Y) false, .val (.int V) true, .un, .un] = .ok (.int ((V / Dm.wh Y : Nat) : Int), .nw) := (qj (x := (.int V, .nw)) rfl (wwy rfl)).trans ((qa1 (by lia) (by rw [Int.natAbs_natCast]; exact Nat.lt_of_lt_of_le (w2.log (by decide)) (by decide))).trans (vy (by rw [Int.natCast_ediv])))
  rw [qX (show we 3 _ _ = .nx [.val (.int X) false, .val (.int Y) false, .val (.int V) true, .val (.int ((V / Dm.wh Y : Nat) : Int)) true, .un] from vV e3 rfl)]
  have e4 : qd oMod (qa 2) (qg qP (qc (qa 1) qi)) [.val (.int X) false, .val (.int Y) false, .val (.int V) true, .val (.int ((V / Dm.wh Y : Nat) : Int)) true, .un] = .ok (.int ((V % Dm.wh Y : Nat) : Int), .nw) := (qj (x := (.int V, .nw)) rfl (wwy rfl)).trans ((qcE (by lia)).trans (vy (by rw [Int.natCast_emod])))
  rw [qX (show we 4 _ _ = .nx [.val (.int X) false, .val (.int Y) false, .val (.int V) true, .val (.int ((V / Dm.wh Y : Nat) : Int)) true, .val (.int ((V % Dm.wh Y : Nat) : Int)) true] from vV e4 rfl)]
  have s1 : qd (jG Builtin.bitXor) (qg qO (qc (qa 0) qi)) (qg qO (qc (qa 1) qi)) [.val (.int X) false, .val (.int Y) false, .val (.int V) true, .val (.int ((V / Dm.wh Y : Nat) : Int)) true, .val (.int ((V % Dm.wh Y : Nat) : Int)) true] = .ok (.int (if Dm.sg X ≠ Dm.sg Y then 1 else 0), .nw) := (qj ((zx (x := (.int X, .sh)) rfl (ui hx)).trans rfl) ((zx (x := (.int Y, .sh)) rfl (ui hy)).trans rfl)).trans (vy (by
   rw [Int.toNat_natCast, Int.toNat_natCast]
   rcases YL lx with a | a <;> rcases YL ly with b | b <;> rw [a, b] <;> decide))
  have p1 : qd wD (qd wD (qg qF (qc (qa 0) qi)) (qg qF (qc (qa 1) qi))) (rC (.int (112))) [.val (.int X) false, .val (.int Y) false, .val (.int V) true, .val (.int ((V / Dm.wh Y : Nat) : Int)) true, .val (.int ((V % Dm.wh Y : Nat) : Int)) true] = .ok (.int ((Dm.ex X : Int) - Dm.ex Y - 112), .nw) := (qj (x := (.int ((Dm.ex X : Int) - Dm.ex Y), .nw)) (y := (.int 112, .nw)) ((qj ((zx (x := (.int X, .sh)) rfl (uH hx)).trans rfl) ((zx (x := (.int Y, .sh)) rfl (uH hy)).trans rfl)).trans (vy (by rw [Int.toNat_natCast, Int.toNat_natCast]; lia))) rfl).trans rfl
  have hg := uo (s := if Dm.sg X ≠ Dm.sg Y then 1 else 0) (w := ((V / Dm.wh Y : Nat) : Int)) (l := ((V % Dm.wh Y : Nat) : Int)) (p := (Dm.ex X : Int) - Dm.ex Y - 112) ⟨by split <;> simp, Int.natCast_nonneg _, by rw [Int.natAbs_natCast]; exact (fV.mono (Nat.div_le_self _ _)).up (by decide), by lia, by lia⟩
  have es : (if ((V % Dm.wh Y : Nat) : Int) = 0 then 0 else 1 : Nat) = if V % Dm.wh Y = 0 then 0 else 1 := by
   by_cases q : V % Dm.wh Y = 0
   ·rw [if_pos q, if_pos (by rw [q]; rfl)]
   ·rw [if_neg q, if_neg (by lia)]
  rw [Int.toNat_natCast, qaA, es, show (Dm.ex X : Int) - Dm.ex Y - 112 + 1073 = (Dm.ex X : Int) - Dm.ex Y + 961 by lia] at hg
  have hcall := qK (g := qU) (δ := [.val (.int X) false, .val (.int Y) false, .val (.int V) true, .val (.int ((V / Dm.wh Y : Nat) : Int)) true, .val (.int ((V % Dm.wh Y : Nat) : Int)) true]) (qh s1 (qh (ra := qa 3) (x := (.int ((V / Dm.wh Y : Nat) : Int), .nw)) rfl (qh (ra := qa 4) (x := (.int ((V % Dm.wh Y : Nat) : Int), .nw)) rfl (qh p1 qB))))
  exact Q4 (δ := [.val (.int X) false, .val (.int Y) false, .val (.int V) true, .val (.int ((V / Dm.wh Y : Nat) : Int)) true, .val (.int ((V % Dm.wh Y : Nat) : Int)) true]) (hcall.trans (congrArg (fun q => Rs.bind q _) hg))
theorem Yj : Hr xa ["x", "y", "widened", "whole", "left"] 2 vg := qbm Xu
theorem Vw {x y : Int} (h : U64 x) (h2 : U64 y) : vg [.int x, .int y] = wI (Pv.div x.toNat y.toNat) := Z2 ⟨h, h2⟩
end Dt
namespace L2.Ir
open PySem
inductive Itm where
 | v (d : D) (k : Bool) | c (n : Nat)
inductive Cell where
 | lst (xs : List Itm) | ins (c : Str) (ns : List Str) (xs : List Itm)
structure MS where
 s : List (Option Itm)
 μ : List Cell
inductive vX where
 | nx (m : MS) | rt (x : Itm) (μ : List Cell) | bk (m : MS) | ct (m : MS) | er (c : Str) | no
noncomputable abbrev RM := MS -> vX
noncomputable def wg (μ : List Cell) : Nat -> Itm -> Option D
 | _, .v d _ => some d
 | 0, .c _ => none
 | f + 1, .c n => match μ[n]? with
  | some (.lst xs) => (xs.mapM (wg μ f)).map D.lst
  | some (.ins c ns xs) => (xs.mapM (wg μ f)).map (D.obj c ns)
  | none => none
noncomputable def qa8 (μ : List Cell) : Option Itm -> Sl
 | none => .un
 | some x => match wg μ 3 x with
  | some d => .val d false
  | none => .un
noncomputable def qC (m : MS) : Dl := m.s.map (qa8 m.μ)
noncomputable def zN : Option Itm -> Sl
 | some (.v d k) => .val d k
 | _ => .un
noncomputable def vL (m : MS) : Dl := m.s.map zN
noncomputable def jK : DK -> Option Itm
 | (d, k) => if d.sc = true then some (.v d true) else match k with
  | .nw => some (.v d true)
  | .fr => some (.v d true)
  | _ => none
noncomputable def qE : DK -> Option Itm
 | (d, k) => if d.sc = true then some (.v d true) else match k with
  | .nw => some (.v d true)
  | .fr => some (.v d true)
  | .sh => some (.v d false)
  | _ => none
noncomputable abbrev IE := MS -> Rs Itm
noncomputable abbrev NE := MS -> Rs (List Itm)
noncomputable def xT : Option Itm -> Rs Itm
 | some x => .ok x
 | none => .no
noncomputable def zV (r : RE) : IE := fun m => (r (qC m)).bind fun y => xT (jK y)
noncomputable def qe0 (r : RE) : IE := fun m => (r (vL m)).bind fun y => xT (qE y)
noncomputable def ieV (i : Nat) : IE := fun m => match m.s[i]? with
 | some (some x) => .ok x
 | _ => .no
noncomputable def cellAt (m : MS) : Itm -> Option (Nat × Cell)
 | .c n => (m.μ[n]?).map fun x => (n, x)
 | _ => none
noncomputable def qez (c f : Str) : Option (Nat × Cell) -> Rs Itm
 | some (_, .ins c' ns xs) => if c' = c then xT ((ns.zip xs).lookup f) else .no
 | _ => .no
noncomputable def xJ (c f : Str) (e : IE) : IE := fun m => (e m).bind fun x => qez c f (cellAt m x)
noncomputable def qfc : Option (Nat × Cell) -> D -> Rs Itm
 | some (_, .lst xs), .int z => xT ((yh xs.length z).bind fun j => xs[j]?)
 | _, _ => .no
noncomputable def Up (e : IE) (r : RE) : IE := fun m => (e m).bind fun x => (r (qC m)).bind fun y => qfc (cellAt m x) y.1
noncomputable def qai : NE := fun _ => .ok []
noncomputable def xm : List IE -> MS -> Rs (List Itm)
 | [], _ => .ok []
 | e :: r, m => (e m).bind fun x => (xm r m).bind fun xs => .ok (x :: xs)
noncomputable def j7 : RM := fun m => .nx m
noncomputable def vX.andThen (o : vX) (f : RM) : vX := match o with
 | .nx m => f m
 | o => o
noncomputable def wY (a b : RM) : RM := fun m => (a m).andThen b
noncomputable def mDo {α : Type} (x : Rs α) (f : α -> vX) : vX := match x with
 | .ok a => f a
 | .er c => .er c
 | .no => .no
noncomputable def jS (i : Nat) (e : IE) : RM := fun m => mDo (e m) fun x => .nx ⟨m.s.set i (some x), m.μ⟩
noncomputable def Wj (i : Nat) (e : NE) : RM := fun m => mDo (e m) fun xs => .nx ⟨m.s.set i (some (.c m.μ.length)), m.μ ++ [.lst xs]⟩
noncomputable def setCell (m : MS) : Option (Nat × Cell) -> D -> Itm -> vX
 | some (n, .lst xs), .int z, x => match yh xs.length z with
  | some j => .nx ⟨m.s, m.μ.set n (.lst (xs.set j x))⟩
  | none => .no
 | _, _, _ => .no
noncomputable def wm (ec : IE) (ri : RE) (ev : IE) : RM := fun m => mDo (ev m) fun x => mDo (ec m) fun y => mDo (ri (qC m)) fun z => setCell m (cellAt m y) z.1 x
noncomputable def Qq (f : Str) (x : Itm) : List Str -> List Itm -> List Str × List Itm
 | g :: ns, y :: xs => if g = f then (g :: ns, x :: xs) else (g :: (Qq f x ns xs).1, y :: (Qq f x ns xs).2)
 | _, _ => ([f], [x])
noncomputable def ZC (c f : Str) (m : MS) : Option (Nat × Cell) -> Itm -> List Cell -> vX
 | some (n, .ins c' ns xs), x, μ => if c' = c /\ ns.length < 1000 /\ ns.length = xs.length then .nx ⟨m.s, μ.set n (.ins c' (Qq f x ns xs).1 (Qq f x ns xs).2)⟩ else .no
 | _, _, _ => .no
noncomputable def Xh (c f : Str) (ec ev : IE) : RM := fun m => mDo (ev m) fun x => mDo (ec m) fun y => ZC c f m (cellAt m y) x m.μ
noncomputable def xy (c f : Str) (ec : IE) (ev : NE) : RM := fun m => mDo (ev m) fun xs => mDo (ec m) fun y => ZC c f m (cellAt m y) (.c m.μ.length) (m.μ ++ [.lst xs])
noncomputable def mIf (t : RT) (a b : RM) : RM := fun m => mDo (t (qC m)) fun x => if x = true then a m else b m
noncomputable def XX (e : IE) : RM := fun m => mDo (e m) fun x => .rt x m.μ
noncomputable def Q7 (c : Str) : RM := fun _ => .er c
inductive qbx where
 | ok (x : Itm) (μ : List Cell) | er (c : Str) | no
noncomputable abbrev Fm := List Itm -> List Cell -> qbx
noncomputable def yd (g : Fm) (es : List IE) : RM := fun m => mDo (xm es m) fun xs => match g xs m.μ with
 | .ok _ μ => .nx ⟨m.s, μ⟩
 | .er c => .er c
 | .no => .no
noncomputable def X1 (i : Nat) (c : Str) (g : Fm) (es : List IE) : RM := fun m => mDo (xm es m) fun xs => match g (.c m.μ.length :: xs) (m.μ ++ [.ins c [] []]) with
 | .ok _ μ => .nx ⟨m.s.set i (some (.c m.μ.length)), μ⟩
 | .er c => .er c
 | .no => .no
noncomputable def Tg.VO : Tg -> DK -> MS -> Option MS
 | .one i, x, m => (qE x).map fun y => ⟨m.s.set i (some y), m.μ⟩
 | .two i j, (.tup [a, b], k), m => (qE (a, k)).bind fun y => (qE (b, k)).map fun z => ⟨(m.s.set i (some y)).set j (some z), m.μ⟩
 | _, _, _ => none
noncomputable def w6 (tg : Tg) (body : RM) : List DK -> RM
 | [], m => .nx m
 | x :: r, m => match tg.VO x m with
  | none => .no
  | some m1 => match body m1 with
   | .nx m2 => w6 tg body r m2
   | .ct m2 => w6 tg body r m2
   | .bk m2 => .nx m2
   | o => o
noncomputable abbrev MI := MS -> Rs (List DK)
noncomputable def qdP (src : RI) : MI := fun m => (src (vL m)).bind fun x => if x.1 = true then .ok x.2 else .no
noncomputable def qS (src : RI) : MI := fun m => (src (qC m)).bind fun x => .ok x.2
noncomputable def uq (tg : Tg) (src : MI) (body : RM) : RM := fun m => mDo (src m) fun xs => w6 tg body xs m
noncomputable def xK : vX -> qbx
 | .rt x μ => .ok x μ
 | .nx m => .ok (.v .non true) m.μ
 | .er c => .er c
 | _ => .no
noncomputable def ms0 (N : List Str) (xs : List Itm) : List (Option Itm) := xs.map some ++ List.replicate (N.length - xs.length) none
noncomputable def zy (μ : List Cell) : Nat -> Itm -> Option D
 | _, .v d k => if d.sc = true \/ k = true then some d else none
 | 0, .c _ => none
 | f + 1, .c n => match μ[n]? with
  | some (.lst xs) => (xs.mapM (zy μ f)).map D.lst
  | some (.ins c ns xs) => (xs.mapM (zy μ f)).map (D.obj c ns)
  | none => none
noncomputable def Zv (μ : List Cell) (x : Itm) : Rs (D × Bool) := match zy μ 3 x with
 | some d => match x, d with
  | .c _, .lst ds => .ok (.lst ds, ds.all D.sc)
  | _, d => .ok (d, false)
 | none => .no
noncomputable def QD : vX -> Rs (D × Bool)
 | .rt x μ => Zv μ x
 | .nx _ => .ok (.non, false)
 | .er c => .er c
 | _ => .no
noncomputable def it0 (ds : List D) : List Itm := ds.map fun d => .v d false
noncomputable def wB : List DK -> Rs (List Itm)
 | [] => .ok []
 | y :: ys => (xT (qE (y.1, y.2.low .nw))).bind fun x => (wB ys).bind fun xs => .ok (x :: xs)
noncomputable def z9 (tg : Tg) (src : RI) (t : RT) (r : RE) (vs : List Nat) : NE := fun m => (src (vL m)).bind fun xs => if xs.2.length < LIM then (items tg t r (clear (vL m) vs) xs.2).bind wB else .no
noncomputable def qbI (r : RE) : NE := fun m => (r (qC m)).bind fun y => match y with
 | (.lst ds, .fr) => .ok (ds.map fun d => .v d true)
 | _ => .no
noncomputable def qek : Itm -> Rs (List Itm)
 | .v (.lst ds) k => .ok (ds.map fun d => .v d k)
 | _ => .no
noncomputable def X4 (e : IE) : NE := fun m => (e m).bind qek
noncomputable def Qm (i j c : Int) : Option (List Int) :=
 if (-1000000 < i /\ i < 1000000) /\ (-1000000 < j /\ j < 1000000) /\ (-1000000 < c /\ c < 1000000) then (if c = -1 then some ((List.range (i - j).toNat).map fun (k : Nat) => i - k)
  else if 0 < c /\ i = 0 then some ((List.range ((j + c - 1) / c).toNat).map fun (k : Nat) => k * c) else none) else none
noncomputable def yo (r q t : RE) : RI := fun δ => (r δ).bind fun x => (q δ).bind fun y => (t δ).bind fun z => match x.1, y.1, z.1 with
 | .int i, .int j, .int c => match Qm i j c with
  | some l => .ok (true, l.map fun n => (D.int n, .nw))
  | none => .no
 | _, _, _ => .no
noncomputable def qcK (m : MS) : Option (Nat × Cell) -> D -> vX
 | some (n, .lst xs), .lst ds => if ds.all D.sc = true /\ xs.length + ds.length <= LIM then .nx ⟨m.s, m.μ.set n (.lst (xs ++ ds.map fun d => .v d true))⟩ else .no
 | _, _ => .no
noncomputable def Q1 (ec : IE) (r : RE) : RM := fun m => mDo (ec m) fun y => match cellAt m y with
 | some (n, .lst xs) => mDo (r (vL m)) fun x => qcK m (some (n, .lst xs)) x.1
 | _ => .no
end L2.Ir
namespace Gr
open PySem L2 L2.Ir Dt
noncomputable abbrev rD (r : List Nat) : D := .lst (r.map fun (n : Nat) => D.int n)
noncomputable abbrev tD (t : List (List Nat)) : D := .lst (t.map rD)
noncomputable abbrev R64 (r : List Nat) : Prop := ∀ v ∈ r, v < 2 ^ 64
noncomputable abbrev T64 (t : List (List Nat)) : Prop := ∀ r ∈ t, R64 r
noncomputable abbrev Wide (n : Nat) (t : List (List Nat)) : Prop := ∀ r ∈ t, r.length = n
noncomputable def erz {α : Type} (z : Int) : Rs α := if z = -4 then .er "NotAsTold" else .er "StepNotFinite"
noncomputable def dK {α : Type} (f : α -> DK) : Pv.Did α -> Rs DK
 | .ok a => .ok (f a)
 | .error z => erz z
noncomputable def dB {α : Type} (f : α -> D × Bool) : Pv.Did α -> Rs (D × Bool)
 | .ok a => .ok (f a)
 | .error z => erz z
noncomputable def dM {α β : Type} (f : α -> β) : Pv.Did α -> Rs β
 | .ok a => .ok (f a)
 | .error z => erz z
theorem zK {α β : Type} (z : Int) (f : α -> Rs β) : (erz z : Rs α).bind f = erz z := by
 unfold erz
 split <;> rfl
theorem yx {α : Type} (f : α -> D × Bool) (x : Pv.Did α) : (dB f x).bind (fun y => .ok (y.1, kB y.2)) = dK (fun a => ((f a).1, kB (f a).2)) x := by
 cases x with
 | ok a => rfl
 | error z => exact zK z _
theorem Zg (o : Option Nat) : wI o = dB (fun (n : Nat) => (D.int n, false)) (Pv.step o) := by cases o <;> rfl
theorem zQ (r : List Nat) : (r.map fun (n : Nat) => D.int n).all D.sc = true := by
 rw [List.all_map, List.all_eq_true]
 intro x _
 rfl
theorem yw {β γ : Type} (g : β -> γ) : ∀ l : List β, l.mapM (fun x => (Except.ok (g x) : Pv.Did γ)) = .ok (l.map g)
 | [] => rfl
 | x :: l => by rw [List.mapM_cons, yw g l]; rfl
theorem qaN {tg : Tg} {src : RI} {r : RE} {vs : List Nat} {δ : Dl} {b : Bool} {xs : List DK} (hsrc : src δ = .ok (b, xs)) (hl : xs.length < LIM) : zS tg src zZ r vs δ = (items tg zZ r (clear δ vs) xs).bind fun ys => .ok (.lst (ys.map (·.1)), kL (ys.map (·.1)) (qT ys)) := by
 unfold zS
 rw [hsrc, Rs.ve, if_pos hl]
theorem u7 {β γ : Type} {tg : Tg} {r : RE} {δ : Dl} {enc : β -> DK} {f : β -> Pv.Did γ} {dec : γ -> DK} : ∀ {l : List β}, (∀ b ∈ l, ∃ δ1, tg.put (enc b) δ = some δ1 /\ r δ1 = dK dec (f b)) -> items tg zZ r δ (l.map enc) = dM (fun ys => ys.map dec) (l.mapM f)
 | [], _ => rfl
 | b :: l, h => by
  obtain ⟨δ1, e1, e2⟩ := h b (List.mem_cons_self)
  have ih := u7 fun x hx => h x (List.mem_cons_of_mem _ hx)
  show (match tg.put (enc b) δ with | none => _ | some δ1 => _) = _
  rw [e1]
  dsimp only
  show (Rs.ok true).bind _ = _
  rw [Rs.ve, if_pos rfl, e2, ih, List.mapM_cons]
  cases f b with
  | error z => exact zK z _
  | ok v =>
   show (dM (fun ys => ys.map dec) (l.mapM f)).bind _ = _
   cases l.mapM f with
   | error z => exact zK z _
   | ok q => rfl
theorem Vx {β γ : Type} {tg : Tg} {src : RI} {r : RE} {vs : List Nat} {δ : Dl} {b : Bool} {enc : β -> DK} {f : β -> Pv.Did γ} {dec : γ -> DK} {l : List β} (hsrc : src δ = .ok (b, l.map enc)) (hl : l.length < LIM)
  (hi : ∀ x ∈ l, ∃ δ1, tg.put (enc x) (clear δ vs) = some δ1 /\ r δ1 = dK dec (f x)) : zS tg src zZ r vs δ = dK (fun ys => (.lst (ys.map fun y => (dec y).1), kL (ys.map fun y => (dec y).1) (qT (ys.map dec)))) (l.mapM f) := by
 rw [qaN hsrc (by rw [List.length_map]; exact hl), u7 hi]
 cases l.mapM f with
 | error z => exact zK z _
 | ok ys =>
  show Rs.ok (D.lst ((ys.map dec).map (·.1)), kL ((ys.map dec).map (·.1)) (qT (ys.map dec))) = _
  rw [List.map_map]
  rfl
theorem Vi {β : Type} {tg : Tg} {src : RI} {r : RE} {vs : List Nat} {δ : Dl} {b : Bool} {enc : β -> DK} {f : β -> Pv.Did Nat} {k : Kd} {l : List β} (hsrc : src δ = .ok (b, l.map enc)) (hl : l.length < LIM)
  (hi : ∀ x ∈ l, ∃ δ1, tg.put (enc x) (clear δ vs) = some δ1 /\ r δ1 = dK (fun (n : Nat) => (D.int n, k)) (f x)) : zS tg src zZ r vs δ = dK (fun ys => (rD ys, .fr)) (l.mapM f) := by
 rw [Vx hsrc hl hi]
 cases l.mapM f with
 | error z => rfl
 | ok ys =>
  show Rs.ok (D.lst (ys.map fun (y : Nat) => D.int y), kL (ys.map fun (y : Nat) => D.int y) _) = _
  rw [jv (zQ ys)]
  rfl
theorem Yo {k : Kd} (hk : k = .fr \/ k = .nw) : ∀ ys : List (List Nat), qT (ys.map fun r => (rD r, k)) = .nw
 | [] => rfl
 | y :: ys => by
  show (if (rD y).sc = true then _ else k.low (qT (ys.map fun r => (rD r, k)))) = _
  rw [if_neg (show ¬ ((rD y).sc = true) from Bool.false_ne_true), Yo hk ys]
  rcases hk with rfl | rfl <;> rfl
noncomputable def kT (t : List (List Nat)) : Kd := if t = [] then .fr else .nw
theorem qcM (t : List (List Nat)) : kL (t.map rD) .nw = kT t := by
 unfold kT
 cases t with
 | nil => rfl
 | cons r t => rw [if_neg (fun z => nomatch z)]; exact if_neg (fun z => nomatch z)
theorem qe7 {t : List (List Nat)} (h : 0 < t.length) : kT t = .nw := by
 unfold kT
 exact if_neg (fun z => by rw [z] at h; exact absurd h (Nat.lt_irrefl _))
theorem Vm {β : Type} {tg : Tg} {src : RI} {r : RE} {vs : List Nat} {δ : Dl} {b : Bool} {enc : β -> DK} {f : β -> Pv.Did (List Nat)} {k : Kd} {l : List β} (hk : k = .fr \/ k = .nw) (hsrc : src δ = .ok (b, l.map enc)) (hl : l.length < LIM)
  (hi : ∀ x ∈ l, ∃ δ1, tg.put (enc x) (clear δ vs) = some δ1 /\ r δ1 = dK (fun r => (rD r, k)) (f x)) : zS tg src zZ r vs δ = dK (fun t => (tD t, kT t)) (l.mapM f) := by
 rw [Vx hsrc hl hi]
 cases l.mapM f with
 | error z => rfl
 | ok ys =>
  show Rs.ok (D.lst (ys.map fun y => rD y), kL (ys.map fun y => rD y) (qT (ys.map fun r => (rD r, k)))) = _
  rw [Yo hk, qcM]
  rfl
theorem X6 {r : RE} {δ : Dl} {α : Type} {f : α -> List D} {x : Pv.Did α} (hf : freeze δ = δ) (h : r δ = dK (fun a => (.lst (f a), .fr)) x) : res (v7 r δ) = dB (fun a => (.lst (f a), true)) x := by
 cases x with
 | ok a => rw [ZJ (by rw [hf]; exact h)]; rfl
 | error z =>
  have h : r δ = erz z := h
  show _ = erz z
  unfold erz at h ⊢
  by_cases c : z = -4
  ·rw [if_pos c] at h ⊢; rw [xh (by rw [hf]; exact h)]; rfl
  ·rw [if_neg c] at h ⊢; rw [xh (by rw [hf]; exact h)]; rfl
theorem ZH {r : RE} {δ : Dl} {x : Pv.Did (List (List Nat))} (hf : freeze δ = δ) (h : r δ = dK (fun t => (tD t, kT t)) x) (hne : ∀ t, x = .ok t -> 0 < t.length) : res (v7 r δ) = dB (fun t => (tD t, false)) x := by
 cases x with
 | ok a =>
  have h : r δ = .ok (tD a, kT a) := h
  rw [qe7 (hne a rfl)] at h
  rw [wo (by rw [hf]; exact h)]
  rfl
 | error z =>
  have h : r δ = erz z := h
  show _ = erz z
  unfold erz at h ⊢
  by_cases c : z = -4
  ·rw [if_pos c] at h ⊢; rw [xh (by rw [hf]; exact h)]; rfl
  ·rw [if_neg c] at h ⊢; rw [xh (by rw [hf]; exact h)]; rfl
theorem xw {r : RE} {δ : Dl} {α : Type} {f : α -> D} {x : Pv.Did α} (hf : freeze δ = δ) (h : r δ = dK (fun a => (f a, .nw)) x) : res (v7 r δ) = dB (fun a => (f a, false)) x := by
 cases x with
 | ok a => rw [wo (by rw [hf]; exact h)]; rfl
 | error z =>
  have h : r δ = erz z := h
  show _ = erz z
  unfold erz at h ⊢
  by_cases c : z = -4
  ·rw [if_pos c] at h ⊢; rw [xh (by rw [hf]; exact h)]; rfl
  ·rw [if_neg c] at h ⊢; rw [xh (by rw [hf]; exact h)]; rfl
theorem Zs {g : Fn} {r : RA} {δ : Dl} {xs : List DK} {α : Type} {f : α -> D × Bool} {x : Pv.Did α} (h : r δ = .ok xs) (hg : g (xs.map (·.1)) = dB f x) : qg g r δ = dK (fun a => ((f a).1, kB (f a).2)) x := by
 rw [qK h, hg, yx]
theorem yC {r : RE} {δ : Dl} {xs : List D} {k : Kd} (h : r δ = .ok (.lst xs, k)) : vB wV (qc r qi) δ = .ok (.int (xs.length : Nat), .nw) := by
 unfold vB
 rw [qh h qB]
 rfl
theorem ZK (r : List Nat) (j : Nat) (h : j < r.length) : (r.map fun (n : Nat) => D.int n)[j]? = some (.int (r.getD j 0 : Nat)) := by
 rw [List.getElem?_map, List.getElem?_eq_getElem h, List.getD_eq_getElem?_getD, List.getElem?_eq_getElem h]
 rfl
theorem zY (t : List (List Nat)) (i : Nat) (h : i < t.length) : (t.map rD)[i]? = some (rD (t.getD i [])) := by
 rw [List.getElem?_map, List.getElem?_eq_getElem h, List.getD_eq_getElem?_getD, List.getElem?_eq_getElem h]
 rfl
noncomputable def xS : RS := (v7 (zS (.one 2) (iOf (qa 0)) zZ (qd oIx (qa 2) (qa 1)) [2]))
noncomputable def yr : Fn := fun ds => res (xS (sl0 ["grid", "j", "row"] ds))
theorem Yr {t : List (List Nat)} {j : Nat} (hl : t.length < LIM) (h : ∀ r ∈ t, j < r.length) : yr [tD t, .int j] = .ok (rD (t.map fun r => r.getD j 0), true) := by
 show res (xS [.val (tD t) false, .val (.int j) false, .un]) = _
 unfold xS
 have hc := Vi (tg := .one 2) (src := iOf (qa 0)) (r := qd oIx (qa 2) (qa 1)) (vs := [2]) (δ := [.val (tD t) false, .val (.int j) false, .un]) (b := true) (enc := fun r => (rD r, .sh)) (f := fun r => .ok (r.getD j 0)) (k := .sh) (l := t) (by
   show Rs.ok (true, (t.map rD).map fun d => (d, Kd.sh)) = _
   rw [List.map_map]
   rfl) hl (fun r hr => ⟨[.val (tD t) false, .val (.int j) false, .val (rD r) false], rfl, (qj (x := (rD r, .sh)) (y := (.int j, .sh)) rfl rfl).trans (yA (ZK r j (h r hr)))⟩)
 rw [yw] at hc
 exact (X6 (α := List Nat) (f := fun ys => ys.map fun (n : Nat) => D.int n) rfl hc)
noncomputable def yT : RS := (v7 (zS (.one 1) (vU (vB wV (qc (qd oIx (qa 0) (rC (.int 0))) qi))) zZ (qg yr (qc (qa 0) (qc (qa 1) qi))) [1]))
noncomputable def W6 : Fn := fun ds => res (yT (sl0 ["grid", "j"] ds))
theorem qcC {t : List (List Nat)} {m n : Nat} (hm : t.length = m) (h0 : 0 < m) (hl : m < LIM) (h : Wide n t) (hn : 0 < n) (hn2 : n < 1000000) : W6 [tD t] = .ok (tD ((List.range n).map fun j => t.map fun r => r.getD j 0), false) := by
 show res (yT [.val (tD t) false, .un]) = _
 unfold yT
 have hix : qd oIx (qa 0) (rC (.int 0)) [.val (tD t) false, .un] = .ok (rD (t.getD 0 []), .sh) := (qj (x := (tD t, .sh)) (y := (.int ((0 : Nat) : Int), .nw)) rfl rfl).trans (yA (zY t 0 (by lia)))
 have hlen : (t.getD 0 []).length = n := by
  rw [List.getD_eq_getElem?_getD, List.getElem?_eq_getElem (by lia : 0 < t.length)]
  exact h _ (List.getElem_mem _)
 have hsrc : vU (vB wV (qc (qd oIx (qa 0) (rC (.int 0))) qi)) [.val (tD t) false, .un] = .ok (true, (List.range n).map fun (k : Nat) => (D.int k, .nw)) := by
  refine zC (k := .nw) ?_ hn2
  rw [yC hix, List.length_map, hlen]
 have hc := Vm (tg := .one 1) (r := qg yr (qc (qa 0) (qc (qa 1) qi))) (vs := [1]) (f := fun j => .ok (t.map fun r => r.getD j 0)) (.inl rfl) hsrc (by rw [List.length_range]; show n < 16777216; lia) (fun j hj => ⟨[.val (tD t) false, .val (.int j) true], rfl, by
  rw [qK (qh (x := (tD t, .sh)) rfl (qh (x := (.int j, .nw)) rfl qB))]
  show (yr [tD t, .int j]).bind _ = _
  rw [Yr (by lia) (fun r hr => by rw [h r hr]; exact List.mem_range.mp hj)]
  rfl⟩)
 rw [yw] at hc
 exact ZH rfl hc (fun t ht => by cases ht; rw [List.length_map, List.length_range]; exact hn)
noncomputable def zX : RS := (v7 (zS (.one 3) (vU (qa 1)) zZ (jW (tBl (qd (oEq false) (qa 3) (qa 2))) (qa 0) (rC (.int 0))) [3]))
noncomputable def wt : Fn := fun ds => res (zX (sl0 ["x", "n", "i", "j"] ds))
theorem ZM {x n i : Nat} (hn : n < 1000000) : wt [.int x, .int n, .int i] = .ok (rD ((List.range n).map fun j => if i = j then x else Pv.ZERO), true) := by
 show res (zX [.val (.int x) false, .val (.int n) false, .val (.int i) false, .un]) = _
 unfold zX
 have hc := Vx (tg := .one 3) (r := jW (tBl (qd (oEq false) (qa 3) (qa 2))) (qa 0) (rC (.int 0))) (vs := [3]) (δ := [.val (.int x) false, .val (.int n) false, .val (.int i) false, .un]) (dec := fun (p : Nat × Kd) => (D.int p.1, p.2)) (f := fun j => .ok (if i = j then (x, Kd.sh) else (Pv.ZERO, Kd.nw))) (zC (r := qa 1) (k := .sh) rfl hn) (by rw [List.length_range]; show n < 16777216; lia) (fun j hj => ⟨[.val (.int x) false, .val (.int n) false, .val (.int i) false, .val (.int j) true], rfl, by
  unfold jW
  rw [show tBl (qd (oEq false) (qa 3) (qa 2)) [.val (.int x) false, .val (.int n) false, .val (.int i) false, .val (.int j) true] = .ok (decide ((j : Int) = (i : Int))) from rfl]
  by_cases c : i = j
  ·subst c
   rw [Rs.ve, if_pos (by simp), if_pos rfl]
   rfl
  ·rw [Rs.ve, if_neg (by simp; lia), if_neg c]
   rfl⟩)
 rw [yw] at hc
 have e : (((List.range n).map fun j => if i = j then (x, Kd.sh) else (Pv.ZERO, Kd.nw)).map fun (p : Nat × Kd) => D.int p.1) = ((List.range n).map fun j => if i = j then x else Pv.ZERO).map fun (n : Nat) => D.int n := by
  rw [List.map_map, List.map_map]
  refine List.map_congr_left fun j _ => ?_
  show D.int ((if i = j then (x, Kd.sh) else (Pv.ZERO, Kd.nw)).1 : Nat) = D.int ((if i = j then x else Pv.ZERO) : Nat)
  split <;> rfl
 have hc : _ = Rs.ok (D.lst (((List.range n).map fun j => if i = j then (x, Kd.sh) else (Pv.ZERO, Kd.nw)).map fun (p : Nat × Kd) => D.int p.1), kL (((List.range n).map fun j => if i = j then (x, Kd.sh) else (Pv.ZERO, Kd.nw)).map fun (p : Nat × Kd) => D.int p.1) _) := hc
 rw [e, jv (zQ _)] at hc
 exact (X6 (α := List Nat) (f := fun ys => ys.map fun (n : Nat) => D.int n) (x := .ok _) rfl hc)
noncomputable def zF : RS := (v7 (zS (.one 2) (vU (qa 1)) zZ (qg wt (qc (qa 0) (qc (qa 1) (qc (qa 2) qi)))) [2]))
noncomputable def wA : Fn := fun ds => res (zF (sl0 ["x", "n", "i"] ds))
theorem Wo {x n : Nat} (h0 : 0 < n) (hn : n < 1000000) : wA [.int x, .int n] = .ok (tD (Pv.tableBy n n fun i j => if i = j then x else Pv.ZERO), false) := by
 show res (zF [.val (.int x) false, .val (.int n) false, .un]) = _
 unfold zF
 have hc := Vm (tg := .one 2) (r := qg wt (qc (qa 0) (qc (qa 1) (qc (qa 2) qi)))) (vs := [2]) (δ := [.val (.int x) false, .val (.int n) false, .un]) (f := fun i => .ok ((List.range n).map fun j => if i = j then x else Pv.ZERO)) (.inl rfl) (zC (r := qa 1) (k := .sh) rfl hn) (by rw [List.length_range]; show n < 16777216; lia) (fun i hi => ⟨[.val (.int x) false, .val (.int n) false, .val (.int i) true], rfl, by
  rw [qK (qh (x := (.int x, .sh)) rfl (qh (x := (.int n, .sh)) rfl (qh (x := (.int i, .nw)) rfl qB)))]
  show (wt [.int x, .int n, .int i]).bind _ = _
  rw [ZM hn]
  rfl⟩)
 rw [yw] at hc
 exact ZH rfl hc (fun t ht => by cases ht; rw [List.length_map, List.length_range]; exact h0)
noncomputable def yu : RS := (v7 (qg wA (qc (rC (.int (4607182418800017408))) (qc (qa 0) qi))))
noncomputable def wK : Fn := fun ds => res (yu (sl0 ["n"] ds))
theorem Xe {n : Nat} (h0 : 0 < n) (hn : n < 1000000) : wK [.int n] = .ok (tD (Pv.unit_ n), false) := by
 show res (yu [.val (.int n) false]) = _
 unfold yu
 have hc := Zs (g := wA) (r := qc (rC (.int (4607182418800017408))) (qc (qa 0) qi)) (δ := [.val (.int n) false]) (f := fun t => (tD t, false)) (x := .ok (Pv.unit_ n)) (qh (x := (.int ((4607182418800017408 : Nat) : Int), .nw)) rfl (qh (x := (.int n, .sh)) rfl qB)) (Wo h0 hn)
 exact xw (f := fun t => tD t) (x := .ok (Pv.unit_ n)) rfl hc
noncomputable def ug : RS := (v7 (zS (.one 2) (yo (rC (.int 0)) (vB wV (qc (qa 0) qi)) (qa 1)) zZ (vN (qa 0) (v9 (qa 2)) (v9 (qd vx (qa 2) (qa 1))) qx) [2]))
noncomputable def z5 : Fn := fun ds => res (ug (sl0 ["numbers", "n", "start"] ds))
theorem qao {m n : Nat} (hn : 0 < n) : (((m * n : Nat) : Int) + (n : Int) - 1) / (n : Int) = m := by
 have e : ((m * n : Nat) : Int) + (n : Int) - 1 = (n : Int) - 1 + (n : Int) * m := by
  rw [Int.natCast_mul, Int.mul_comm]
  lia
 rw [e, Int.add_mul_ediv_left _ _ (by lia), Int.ediv_eq_zero_of_lt (by lia) (by lia), Int.zero_add]
theorem qce {m n : Nat} (hn : 0 < n) (h : m * n < 1000000) (h2 : n <= 1000) : Qm 0 ((m * n : Nat) : Int) n = some ((List.range m).map fun (k : Nat) => (k : Int) * n) := by
 have c1 : (-1000000 < (0 : Int) /\ (0 : Int) < 1000000) /\ (-1000000 < ((m * n : Nat) : Int) /\ ((m * n : Nat) : Int) < 1000000) /\ (-1000000 < (n : Int) /\ (n : Int) < 1000000) := by
  generalize m * n = q at h
  lia
 unfold Qm
 rw [if_pos c1, if_neg (by lia), if_pos ⟨by lia, rfl⟩, qao hn, Int.toNat_natCast]
theorem Wa {r q t : RE} {δ : Dl} {i j c : Int} {k1 k2 k3 : Kd} {l : List Int} (h1 : r δ = .ok (.int i, k1)) (h2 : q δ = .ok (.int j, k2)) (h3 : t δ = .ok (.int c, k3)) (h : Qm i j c = some l) : yo r q t δ = .ok (true, l.map fun n => (D.int n, .nw)) := by
 unfold yo
 rw [h1, h2, h3, Rs.ve, Rs.ve, Rs.ve]
 dsimp only
 rw [h]
theorem JL {a : List Nat} {m n : Nat} (ha : a.length = m * n) (hm : 0 < m) (hm2 : m <= 1000) (hn : 0 < n) (hn2 : n <= 1000) (hmn : m * n < 1000000) : z5 [rD a, .int n] = .ok (tD (PvCalls.tableOf m n a), false) := by
 show res (ug [.val (rD a) false, .val (.int n) false, .un]) = _
 unfold ug
 have hsrc : yo (rC (.int 0)) (vB wV (qc (qa 0) qi)) (qa 1) [.val (rD a) false, .val (.int n) false, .un] = .ok (true, (List.range m).map fun (k : Nat) => (D.int ((k * n : Nat) : Int), .nw)) := by
  refine (Wa (i := 0) (j := ((m * n : Nat) : Int)) (c := n) rfl ((yC (r := qa 0) (k := .sh) rfl).trans (by rw [List.length_map, ha])) rfl (qce hn hmn hn2)).trans ?_
  rw [List.map_map]
  have e : ((fun n => (D.int n, Kd.nw)) ∘ fun (k : Nat) => (k : Int) * n) = fun (k : Nat) => (D.int ((k * n : Nat) : Int), Kd.nw) := by
   funext k
   show (D.int ((k : Int) * n), Kd.nw) = _
   rw [Int.natCast_mul]
  rw [e]
 have hc := Vm (tg := .one 2) (r := vN (qa 0) (v9 (qa 2)) (v9 (qd vx (qa 2) (qa 1))) qx) (vs := [2]) (δ := [.val (rD a) false, .val (.int n) false, .un]) (f := fun i => .ok ((List.range n).map fun j => a.getD (n * i + j) 0)) (.inl rfl) hsrc (by rw [List.length_range]; show m < 16777216; lia) (fun i hi => ⟨[.val (rD a) false, .val (.int n) false, .val (.int ((i * n : Nat) : Int)) true], rfl, by
  have hi := List.mem_range.mp hi
  have hin : i * n + n <= m * n := by rw [<- Nat.succ_mul]; exact Nat.mul_le_mul_right _ hi
  have q := uk (ra := qa 0) (rl := v9 (qa 2)) (rh := v9 (qd vx (qa 2) (qa 1))) (rs := qx) (δ := [.val (rD a) false, .val (.int n) false, .val (.int ((i * n : Nat) : Int)) true]) (xs := a.map fun (n : Nat) => D.int n) (k := .sh) (lo := some ((i * n : Nat) : Int)) (hi := some ((i * n + n : Nat) : Int)) (st := none) rfl rfl (Vy (k := .nw) ((qj (x := (.int ((i * n : Nat) : Int), .nw)) (y := (.int n, .sh)) rfl rfl).trans (vy (by rw [Int.natCast_add])))) rfl (by intro z; cases z)
  rw [q, pick_run (a.map fun (n : Nat) => D.int n) (i * n) n (by rw [List.length_map, ha]; exact hin) (.int 0)]
  have e : ((List.range n).map fun j => (a.map fun (n : Nat) => D.int n).getD (i * n + j) (.int 0)) = ((List.range n).map fun j => a.getD (n * i + j) 0).map fun (n : Nat) => D.int n := by
   rw [List.map_map]
   refine List.map_congr_left fun j _ => ?_
   rw [qbf, Nat.mul_comm i n]
   rfl
  rw [e, jv (zQ _)]
  rfl⟩)
 rw [yw] at hc
 exact ZH rfl hc (fun t ht => by cases ht; rw [List.length_map, List.length_range]; exact hm)
noncomputable def ya (z : Int) : vX := if z = -4 then .er "NotAsTold" else .er "StepNotFinite"
theorem Qi {β : Type} {tg : Tg} {body : RM} {enc : β -> DK} {b : β} {l : List β} {m m1 : MS} (hp : tg.VO (enc b) m = some m1) : w6 tg body ((b :: l).map enc) m = (match body m1 with | .nx m2 => w6 tg body (l.map enc) m2 | .ct m2 => w6 tg body (l.map enc) m2 | .bk m2 => .nx m2 | o => o) := by
 show (match tg.VO (enc b) m with | none => _ | some m1 => _) = _
 rw [hp]
 all_goals rfl
theorem Jx {tg : Tg} {body : RM} {xs : List DK} (z : Int) : (match ya z with | .nx m2 => w6 tg body xs m2 | .ct m2 => w6 tg body xs m2 | .bk m2 => .nx m2 | o => o) = ya z := by
 unfold ya
 by_cases c : z = -4
 ·rw [if_pos c]
 ·rw [if_neg c]
theorem wM {β S : Type} {tg : Tg} {body : RM} {enc : β -> DK} {f : S -> β -> Pv.Did S} {J : S -> MS -> Prop} : ∀ {l : List β}, (∀ b ∈ l, ∀ s m, J s m -> ∃ m1, tg.VO (enc b) m = some m1 /\ (∀ s', f s b = .ok s' -> ∃ m2, body m1 = .nx m2 /\ J s' m2) /\ (∀ z, f s b = .error z -> body m1 = ya z)) ->
  ∀ s m, J s m -> (∀ s', l.foldlM f s = .ok s' -> ∃ m', w6 tg body (l.map enc) m = .nx m' /\ J s' m') /\ (∀ z, l.foldlM f s = .error z -> w6 tg body (l.map enc) m = ya z)
 | [], _, s, m, j => ⟨fun s' e => (by cases e; exact ⟨m, rfl, j⟩), fun z e => (by cases e)⟩
 | b :: l, ok, s, m, j => by
  obtain ⟨m1, hp, h1, h2⟩ := ok b List.mem_cons_self s m j
  rw [List.foldlM_cons, Qi hp]
  cases e : f s b with
  | error z =>
   rw [h2 z e, Jx]
   exact ⟨fun s' q => (by cases q), fun z' q => (by cases q; rfl)⟩
  | ok s1 =>
   obtain ⟨m2, hb, j2⟩ := h1 s1 e
   rw [hb]
   exact wM (fun x hx => ok x (List.mem_cons_of_mem _ hx)) s1 m2 j2
theorem vd {a b : RM} {m m1 : MS} (h : a m = .nx m1) : wY a b m = b m1 := by unfold wY; rw [h]; rfl
theorem xx {a b : RM} {m : MS} {z : Int} (h : a m = ya z) : wY a b m = ya z := by
 unfold wY
 rw [h]
 unfold ya
 split <;> rfl
theorem jw (z : Int) : QD (ya z) = erz z := by
 unfold ya erz
 split <;> rfl
theorem w9 {tg : Tg} {src : MI} {body : RM} {m : MS} {xs : List DK} (h : src m = .ok xs) : uq tg src body m = w6 tg body xs m := by unfold uq mDo; rw [h]
theorem QR {α : Type} {f : α -> DK} {x : Pv.Did α} {r : RE} {m : MS} {y : α -> Itm} (h : r (qC m) = dK f x) (hy : ∀ a, x = .ok a -> jK (f a) = some (y a)) : zV r m = dM y x := by
 unfold zV
 rw [h]
 cases x with
 | ok a => show xT (jK (f a)) = _; rw [hy a rfl]; rfl
 | error z => exact zK z _
theorem Zq {α β : Type} {f : α -> β} {x : Pv.Did α} {k : β -> vX} : mDo (dM f x) k = (match x with | .ok a => k (f a) | .error z => ya z) := by
 cases x with
 | ok a => rfl
 | error z =>
  show mDo (erz z) k = ya z
  unfold erz ya
  split <;> rfl
theorem x6 (μ : List Cell) (f : Nat) : ∀ ds : List D, (ds.map fun d => Itm.v d true).mapM (zy μ f) = some ds
 | [] => rfl
 | d :: ds => by
  rw [List.map_cons, List.mapM_cons, x6 μ f ds]
  have e : zy μ f (.v d true) = some d := by
   cases f <;> exact if_pos (.inr rfl)
  rw [e]
  rfl
theorem uG (μ : List Cell) (f : Nat) (k : Bool) : ∀ ds : List D, (ds.map fun d => Itm.v d k).mapM (wg μ f) = some ds
 | [] => rfl
 | d :: ds => by
  rw [List.map_cons, List.mapM_cons, uG μ f k ds]
  have e : wg μ f (.v d k) = some d := by cases f <;> rfl
  rw [e]
  rfl
noncomputable def ZA : RM := (wY (Wj 1 qai) (wY (uq (.one 2) (qdP (iOf (qa 0))) (Q1 (ieV 1) (qa 2))) (XX (ieV 1))))
noncomputable def xM : Fn := fun ds => QD (ZA ⟨ms0 ["grid", "numbers", "row"] (it0 ds), []⟩)
theorem Qg {t : List (List Nat)} : ∀ {n : Nat}, Wide n t -> (PvCalls.flat t).length = t.length * n := fun {n} h => by
 unfold PvCalls.flat
 induction t with
 | nil => simp
 | cons r t ih =>
  rw [List.flatMap_cons, List.length_append, ih (fun x hx => h x (List.mem_cons_of_mem _ hx)), h r List.mem_cons_self, List.length_cons, Nat.succ_mul]
  lia
theorem qdF {t : List (List Nat)} {n : Nat} (h : Wide n t) (hl : t.length * n <= 1000000) : xM [tD t] = .ok (rD (PvCalls.flat t), true) := by
 show QD (ZA ⟨[some (.v (tD t) false), none, none], []⟩) = _
 unfold ZA
 rw [vd (show Wj 1 qai ⟨[some (.v (tD t) false), none, none], []⟩ = .nx ⟨[some (.v (tD t) false), some (.c 0), none], [.lst []]⟩ from rfl)]
 have hsrc : qdP (iOf (qa 0)) ⟨[some (.v (tD t) false), some (.c 0), none], [.lst []]⟩ = .ok (t.map fun r => (rD r, .sh)) := by
  show Rs.ok ((t.map rD).map fun d => (d, Kd.sh)) = _
  rw [List.map_map]
  rfl
 have hb : ∀ s : List Nat, ∀ l : List (List Nat), (∀ x ∈ l, x ∈ t) -> s.length + l.length * n <= 1000000 -> ∀ u : Option Itm, ∃ u', w6 (.one 2) (Q1 (ieV 1) (qa 2)) (l.map fun r => (rD r, Kd.sh)) ⟨[some (.v (tD t) false), some (.c 0), u], [.lst ((s.map fun (n : Nat) => D.int n).map fun d => .v d true)]⟩ = .nx ⟨[some (.v (tD t) false), some (.c 0), u'], [.lst (((s ++ PvCalls.flat l).map fun (n : Nat) => D.int n).map fun d => .v d true)]⟩ := by
  intro s l
  induction l generalizing s with
  | nil => intro _ _ u; exact ⟨u, by show vX.nx _ = _; rw [show PvCalls.flat [] = [] from rfl, List.append_nil]⟩
  | cons r l ih =>
   intro hx hs u
   have hr : r.length = n := h r (hx r List.mem_cons_self)
   rw [List.length_cons, Nat.succ_mul] at hs
   rw [Qi (m1 := ⟨[some (.v (tD t) false), some (.c 0), some (.v (rD r) false)], [.lst ((s.map fun (n : Nat) => D.int n).map fun d => .v d true)]⟩) rfl]
   have hbody : Q1 (ieV 1) (qa 2) ⟨[some (.v (tD t) false), some (.c 0), some (.v (rD r) false)], [.lst ((s.map fun (n : Nat) => D.int n).map fun d => .v d true)]⟩ = .nx ⟨[some (.v (tD t) false), some (.c 0), some (.v (rD r) false)], [.lst (((s ++ r).map fun (n : Nat) => D.int n).map fun d => .v d true)]⟩ := by
    show (if (r.map fun (n : Nat) => D.int n).all D.sc = true /\ ((s.map fun (n : Nat) => D.int n).map fun d => Itm.v d true).length + (r.map fun (n : Nat) => D.int n).length <= LIM then _ else _) = _
    rw [if_pos ⟨zQ r, by rw [List.length_map, List.length_map, List.length_map]; show _ <= 16777216; lia⟩]
    show vX.nx ⟨_, [Cell.lst (((s.map fun (n : Nat) => D.int n).map fun d => Itm.v d true) ++ ((r.map fun (n : Nat) => D.int n).map fun d => Itm.v d true))]⟩ = _
    rw [<- List.map_append, <- List.map_append]
   rw [hbody]
   obtain ⟨u', q⟩ := ih (s ++ r) (fun x hx' => hx x (List.mem_cons_of_mem _ hx')) (by rw [List.length_append]; lia) (some (.v (rD r) false))
   refine ⟨u', ?_⟩
   show w6 _ _ _ _ = _
   rw [q, show PvCalls.flat (r :: l) = r ++ PvCalls.flat l from rfl, List.append_assoc]
 obtain ⟨u', q⟩ := hb [] t (fun _ h => h) (by simpa using hl) none
 rw [vd ((w9 hsrc).trans q), List.nil_append]
 show Zv [.lst (((PvCalls.flat t).map fun (n : Nat) => D.int n).map fun d => Itm.v d true)] (.c 0) = _
 have e : zy [.lst (((PvCalls.flat t).map fun (n : Nat) => D.int n).map fun d => Itm.v d true)] 3 (.c 0) = some (rD (PvCalls.flat t)) := by
  show (List.mapM (zy _ 2) _).map D.lst = _
  rw [x6]
  rfl
 unfold Zv
 rw [e]
 show Rs.ok (rD (PvCalls.flat t), ((PvCalls.flat t).map fun (n : Nat) => D.int n).all D.sc) = _
 rw [zQ]
noncomputable def yi : RS := (v7 (qg vC (qc (qg xM (qc (qa 0) qi)) qi)))
noncomputable def zh : Fn := fun ds => res (yi (sl0 ["grid"] ds))
theorem Yh {t : List (List Nat)} {n : Nat} (h : Wide n t) (hl : t.length * n <= 1000000) : zh [tD t] = .ok (.lst (.int (PvCalls.flat t).length :: (PvCalls.flat t).map fun (n : Nat) => D.int n), true) := by
 show res (yi [.val (tD t) false]) = _
 unfold yi
 have hfl : qg xM (qc (qa 0) qi) [.val (tD t) false] = .ok (rD (PvCalls.flat t), .fr) := by
  rw [qK (qh (x := (tD t, .sh)) rfl qB)]
  show (xM [tD t]).bind _ = _
  rw [qdF h hl]
  rfl
 have hw : qg vC (qc (qg xM (qc (qa 0) qi)) qi) [.val (tD t) false] = .ok (.lst (.int (PvCalls.flat t).length :: (PvCalls.flat t).map fun (n : Nat) => D.int n), .fr) := by
  rw [qK (qh hfl qB)]
  show (vC [rD (PvCalls.flat t)]).bind _ = _
  rw [Za (zQ _) (by rw [List.length_map, Qg h]; show _ < 16777216; lia), List.length_map]
  rfl
 rw [ZJ hw]
 rfl
theorem xq {β γ : Type} {f : β -> Pv.Did γ} : ∀ {l : List β} {rs : List γ}, l.mapM f = .ok rs -> rs.length = l.length
 | [], rs, h => by cases h; rfl
 | x :: l, rs, h => by
  rw [List.mapM_cons] at h
  cases e : f x with
  | error z => rw [e] at h; cases h
  | ok y =>
   rw [e] at h
   cases e2 : l.mapM f with
   | error z => rw [e2] at h; cases h
   | ok ys => rw [e2] at h; cases h; rw [List.length_cons, List.length_cons, xq e2]
theorem getD_mem {α : Type} {l : List α} {i : Nat} (d : α) (h : i < l.length) : l.getD i d ∈ l := by
 rw [List.getD_eq_getElem?_getD, List.getElem?_eq_getElem h]
 exact List.getElem_mem h
theorem Xt {β γ : Type} (d : β) (l : List β) (f : β -> Pv.Did γ) : l.mapM f = (List.range l.length).mapM fun i => f (l.getD i d) := by
 conv => lhs; rw [yS l d]
 rw [List.mapM_map]
 rfl
structure Tb (m n : Nat) (t : List (List Nat)) : Prop where
 len : t.length = m
 wide : Wide n t
 b64 : T64 t
theorem Tb.jn {m n : Nat} {t : List (List Nat)} (h : Tb m n t) (i j : Nat) : Pv.Table.at_ t i j < 2 ^ 64 := by
 unfold Pv.Table.at_
 by_cases hi : i < t.length
 ·exact WL (h.b64 _ (getD_mem [] hi)) j
 ·have e : t.getD i [] = [] := by rw [List.getD_eq_getElem?_getD, List.getElem?_eq_none (by lia)]; rfl
  rw [e]
  exact (by decide : (0 : Nat) < 2 ^ 64)
theorem qaG {m n : Nat} {f : Nat -> Nat -> Nat} (hf : ∀ i j, f i j < 2 ^ 64) : Tb m n (Pv.tableBy m n f) := by
 unfold Pv.tableBy
 refine ⟨by rw [List.length_map, List.length_range], fun r hr => ?_, fun r hr v hv => ?_⟩
 ·obtain ⟨i, _, rfl⟩ := List.mem_map.mp hr
  rw [List.length_map, List.length_range]
 ·obtain ⟨i, _, rfl⟩ := List.mem_map.mp hr
  obtain ⟨j, _, rfl⟩ := List.mem_map.mp hv
  exact hf i j
theorem ZP (n : Nat) : Tb n n (Pv.unit_ n) := qaG fun i j => by split <;> decide
theorem Vt {m n : Nat} {l : List Nat} (h : R64 l) : Tb m n (PvCalls.tableOf m n l) := qaG fun i j => WL h _
noncomputable abbrev kOf (y : D × Bool) : Rs DK := .ok (y.1, kB y.2)
theorem qaz {sh : List Bool} {F : List Int -> List (List Int) -> PvCalls.Call} {r : RE} {N : List Str}
  (h : ∀ is ls, is.length = sh.count false -> ls.length = sh.count true -> Good is ls -> r (sl0 N (unp sh is ls)) = (ze (PvCalls.answer (F is ls))).bind kOf) (ds : List D) : j6 sh F ds = .no \/ r (sl0 N ds) = (j6 sh F ds).bind kOf := by
 cases e : asks sh ds with
 | none => left; unfold j6; rw [e]
 | some x =>
  obtain ⟨is, ls⟩ := x
  by_cases g : Good is ls
  ·right
   obtain ⟨e1, e2, e3⟩ := QZ e
   rw [e1, h is ls e2 e3 g, Y6 e2 e3 g]
  ·left
   unfold j6
   rw [e]
   exact if_neg g
theorem qdu {g : Fn} {r : RE} {δ : Dl} {R : Rs (D × Bool)} (h : r δ = R.bind kOf) : qg g (qc r qi) δ = (R.bind fun y => g [y.1]).bind kOf := by
 unfold qg qc
 rw [h]
 cases R with
 | ok y => rfl
 | er c => rfl
 | no => rfl
theorem call_K {g : Fn} {r : RA} {δ : Dl} {xs : List DK} (h : r δ = .ok xs) : qg g r δ = (g (xs.map (·.1))).bind kOf := qK h
theorem qa2 {T : Pv.Did Pv.Table} {m n : Nat} (h : ∀ t, T = .ok t -> Tb m n t) (hl : m * n <= 1000000) (he : ∀ z, T = .error z -> z = -3 \/ z = -4) : (dB (fun t => (tD t, false)) T).bind (fun y => zh [y.1]) = ze (qee T PvCalls.table) := by
 cases e : T with
 | ok t =>
  have ht := h t e
  show zh [tD t] = _
  rw [Yh ht.wide (by rw [ht.len]; exact hl)]
  show _ = ze (.row (PvCalls.flat t))
  rw [qaC]
 | error z => rcases he z e with rfl | rfl <;> rfl
noncomputable def yt : RS := (wx (uv (qg qY (qc (yU (qc (qa 0) qi)) (qc (yU (qc (qa 1) qi)) (qc (yU (qc (qd Q8 (qa 0) (qa 0)) qi)) qi))))) (wx (uv (qg qQ (qc (qa 1) qi))) (v7 (qg z5 (qc (qa 1) (qc (qa 0) qi))))))
noncomputable def zH : Fn := fun ds => res (yt (sl0 ["n", "a"] ds))
theorem Y8 {n : Int} {a : List Int} (hn : U64 n) (ha : jc a) (la : a.length <= 300) : zH [.int n, .lst (a.map .int)] =
  if (([n] : List Int).all fun n => decide (1 <= n /\ n <= 16)) = true /\ ((([a.map D.int] : List (List D)).map List.length).zip [n * n]).all (fun p => decide ((p.1 : Int) = p.2)) = true then (if ∀ v ∈ a, Fi v then .ok (tD (PvCalls.tableOf n.toNat n.toNat (nats a)), false) else .er "NotFinite") else .er "WrongCount" := by
 show res (yt [.val (.int n) false, .val (.lst (a.map .int)) false]) = _
 unfold yt
 have v0 : qa 0 [.val (.int n) false, .val (.lst (a.map .int)) false] = .ok (.int n, .sh) := rfl
 have v1 : qa 1 [.val (.int n) false, .val (.lst (a.map .int)) false] = .ok (.lst (a.map .int), .sh) := rfl
 have hmul : qd Q8 (qa 0) (qa 0) [.val (.int n) false, .val (.lst (a.map .int)) false] = .ok (.int (n * n), .nw) := (qj v0 v0).trans (Vg (UQ hn) (UQ hn))
 rw [qeD (ss := [n]) (xss := [a.map .int]) (cs := [n * n]) (qh v0 qB) (Nat.le_of_ble_eq_true rfl) rfl (qh v1 qB) (Nat.le_of_ble_eq_true rfl) rfl (qh hmul qB) (Nat.le_of_ble_eq_true rfl) rfl v1 ha]
 by_cases c1 : (([n] : List Int).all fun n => decide (1 <= n /\ n <= 16)) = true /\ ((([a.map D.int] : List (List D)).map List.length).zip [n * n]).all (fun p => decide ((p.1 : Int) = p.2)) = true
 ·rw [if_pos c1, if_pos c1]
  by_cases c2 : ∀ v ∈ a, Fi v
  ·rw [if_pos c2, if_pos c2]
   obtain ⟨N, rfl⟩ := yG hn
   rw [Int.toNat_natCast]
   obtain ⟨h1, h2⟩ := c1
   simp at h1 h2
   have hla : a.length = N * N := by
    have := (ZE (ns := a) hn hn).mp h2
    rw [uX, Int.toNat_natCast] at this
    exact this
   have hN : N * N <= 16 * 16 := Nat.mul_le_mul (by lia) (by lia)
   refine xw (α := Unit) (f := fun _ => tD (PvCalls.tableOf N N (nats a))) (x := .ok ()) rfl ?_
   rw [call_K (qh v1 (qh v0 qB))]
   show (z5 [.lst (a.map .int), .int N]).bind _ = _
   rw [J6 ha, JL (m := N) (by rw [uX]; exact hla) (by lia) (by lia) (by lia) (by lia) (by lia)]
   rfl
  ·rw [if_neg c2, if_neg c2]
 ·rw [if_neg c1, if_neg c1]
theorem YI {n : Int} {a : List Int} {c : PvCalls.Call} {α : Type} {x : Pv.Did α} {f : α -> PvCalls.Answer} {k : D × Bool -> Rs (D × Bool)} (hn : U64 n) (ha : jc a) (la : a.length <= 300) (hgo : PvCalls.goes c = PvCalls.size n.toNat) (hc : PvCalls.reckon c = PvCalls.given [(n.toNat * n.toNat, nats a)] x f)
  (hk : 1 <= n.toNat -> n.toNat <= 16 -> a.length = n.toNat * n.toNat -> (∀ v ∈ a, Fi v) -> k (tD (PvCalls.tableOf n.toNat n.toNat (nats a)), false) = ze (qee x f)) : (zH [.int n, .lst (a.map .int)]).bind k = ze (PvCalls.answer c) := by
 rw [Y8 hn ha la]
 have e : ∀ {p q : Prop} [Decidable p] [Decidable q] (R : Rs (D × Bool)), (if p then (if q then R else .er "NotFinite") else .er "WrongCount" : Rs (D × Bool)).bind k = if p then (if q then R.bind k else .er "NotFinite") else .er "WrongCount" := by
  intro p q _ _ R
  split
  ·split <;> rfl
  ·rfl
 rw [e]
 refine checked (x := x) (f := f) (rows := [(n.toNat * n.toNat, nats a)]) ?_ ?_ ?_ hc
 ·rw [hgo]
  show _ ↔ PvCalls.size n.toNat = true /\ ((_ == _) && true) = true
  rw [<- qbh hn, Bool.and_true, beq_iff_eq, <- ZE hn hn]
  simp
 ·rw [List.all_cons, List.all_nil, Bool.and_true, qa4 ha]
 ·intro hp hq
  obtain ⟨h1, h2⟩ := hp
  simp at h1 h2
  refine hk (by lia) (by lia) ?_ hq
  have := (ZE (ns := a) hn hn).mp h2
  rw [uX] at this
  exact this
theorem qdd {T : Pv.Did Pv.Table} {m n : Nat} (h : ∀ t, T = .ok t -> Tb m n t) (hl : m * n <= 1000) (he : ∀ z, T = .error z -> z = -3 \/ z = -4) {rows : List (Nat × List Nat)} : Few (PvCalls.given rows T PvCalls.table) := by
  refine JZ ?_
  cases e : T with
  | error z => rcases he z e with rfl | rfl
               · exact .inr (.inr (.inl rfl))
               · exact .inr (.inr (.inr rfl))
  | ok t =>
    show (PvCalls.flat t).length <= 1000
    rw [Qg (h t e).wide, (h t e).len]
    exact hl
theorem size_pos {n : Nat} (h : PvCalls.size n = true) : 1 <= n /\ n <= 16 := by
 unfold PvCalls.size PvCalls.SIZE at h
 rw [Bool.and_eq_true, decide_eq_true_eq, decide_eq_true_eq] at h
 exact h
theorem Yt {x : Nat} (h : x < 2 ^ 63) : Pv.isNeg x = false := by
 rw [Dm.yP x (by lia)]
 refine decide_eq_false ?_
 show ¬ (Dm.sg x = 1)
 unfold Dm.sg
 lia
theorem Yi {x y : Nat} (hx : x < y) (hy : y < 2 ^ 63) : Pv.mag x < Pv.mag y := by
 have sx : Dm.sz x = x := by unfold Dm.sz; lia
 have sy : Dm.sz y = y := by unfold Dm.sz; lia
 have ex := Dm.zg x
 have ey := Dm.zg y
 rw [sx] at ex
 rw [sy] at ey
 unfold Pv.mag
 rw [ex, ey]
 by_cases h0 : x / 2 ^ 52 = 0
 ·rw [if_pos h0]
  by_cases h1 : y / 2 ^ 52 = 0
  ·rw [if_pos h1]; lia
  ·rw [if_neg h1]
   have p : 1 <= 2 ^ (y / 2 ^ 52 - 1) := Nat.one_le_two_pow
   have q : (2 ^ 52 + y % 2 ^ 52) * 1 <= (2 ^ 52 + y % 2 ^ 52) * 2 ^ (y / 2 ^ 52 - 1) := Nat.mul_le_mul_left _ p
   have z := Nat.mod_lt x (show 0 < 2 ^ 52 by decide)
   lia
 ·rw [if_neg h0]
  have h1 : y / 2 ^ 52 ≠ 0 := by lia
  rw [if_neg h1]
  by_cases h2 : x / 2 ^ 52 = y / 2 ^ 52
  ·rw [<- h2]
   refine (Nat.mul_lt_mul_right (Nat.two_pow_pos _)).mpr ?_
   lia
  ·have hle : x / 2 ^ 52 < y / 2 ^ 52 := by lia
   obtain ⟨d, hd⟩ : ∃ d, y / 2 ^ 52 - 1 = (x / 2 ^ 52 - 1) + 1 + d := ⟨y / 2 ^ 52 - 1 - (x / 2 ^ 52), by lia⟩
   rw [hd, Nat.pow_add, Nat.pow_add]
   have z := Nat.mod_lt x (show 0 < 2 ^ 52 by decide)
   generalize hA : 2 ^ (x / 2 ^ 52 - 1) = A
   have hA0 : 0 < A := by rw [<- hA]; exact Nat.two_pow_pos _
   generalize hB : 2 ^ d = B
   have hB0 : 1 <= B := by rw [<- hB]; exact Nat.one_le_two_pow
   calc (2 ^ 52 + x % 2 ^ 52) * A < (2 ^ 52 * 2) * A := (Nat.mul_lt_mul_right hA0).mpr (by lia)
    _ = 2 ^ 52 * (A * 2 ^ 1 * 1) := by rw [Nat.mul_one, Nat.pow_one, Nat.mul_assoc, Nat.mul_comm 2 A]
    _ <= (2 ^ 52 + y % 2 ^ 52) * (A * 2 ^ 1 * B) := Nat.mul_le_mul (Nat.le_add_right _ _) (Nat.mul_le_mul_left _ hB0)
theorem qcj {x y : Nat} (hx : x < 2 ^ 63) (hy : y < 2 ^ 63) : Pv.less x y = decide (x < y) := by
 unfold Pv.less Pv.val
 rw [Yt hx, Yt hy]
 simp only [Bool.false_eq_true, if_false]
 refine decide_eq_decide.mpr ⟨fun h => ?_, fun h => ?_⟩
 ·rcases Nat.lt_trichotomy x y with q | q | q
  ·exact q
  ·rw [q] at h; lia
  ·have := Yi q hx; lia
 ·have := Yi h hy
  lia
theorem Qk (x : Nat) : Pv.absolute x < 2 ^ 63 := Nat.mod_lt _ (by decide)
theorem qbj {α : Type} (xs : List α) (n : Nat) (h : n <= xs.length) (d : α) : (List.range n).map (fun j => xs.getD (0 + j) d) = xs.take n := by
 refine List.ext_getElem (by rw [List.length_map, List.length_range, List.length_take]; lia) fun i h1 h2 => ?_
 rw [List.length_map, List.length_range] at h1
 rw [List.getElem_map, List.getElem_range, List.getElem_take, Nat.zero_add, List.getD_eq_getElem?_getD, List.getElem?_eq_getElem (by lia)]
 rfl
theorem V5 {α : Type} (xs : List α) (lo : Nat) (h : lo <= xs.length) (d : α) : (List.range (xs.length - lo)).map (fun j => xs.getD (lo + j) d) = xs.drop lo := by
 refine List.ext_getElem (by rw [List.length_map, List.length_range, List.length_drop]) fun i h1 h2 => ?_
 rw [List.length_map, List.length_range] at h1
 rw [List.getElem_map, List.getElem_range, List.getElem_drop, List.getD_eq_getElem?_getD, List.getElem?_eq_getElem (by lia)]
 rfl
theorem qag {α : Type} (xs : List α) (n : Nat) (h : n <= xs.length) (d : α) : pick xs none (some (n : Int)) none = xs.take n := by
 have e : pick xs none (some (n : Int)) none = pick xs (some ((0 : Nat) : Int)) (some ((0 + n : Nat) : Int)) none := by
  unfold pick
  have hb : sliceBounds none (some (n : Int)) none xs.length = sliceBounds (some ((0 : Nat) : Int)) (some ((0 + n : Nat) : Int)) none xs.length := by
   unfold sliceBounds
   rw [Nat.zero_add]
   simp
   lia
  rw [hb]
 rw [e, pick_run xs 0 n (by lia) d, qbj xs n h d]
theorem WB {α : Type} (xs : List α) (lo : Nat) (h : lo <= xs.length) (d : α) : pick xs (some (lo : Int)) none none = xs.drop lo := by
 have e : pick xs (some (lo : Int)) none none = pick xs (some (lo : Int)) (some ((lo + (xs.length - lo) : Nat) : Int)) none := by
  unfold pick
  have hb : sliceBounds (some (lo : Int)) none none xs.length = sliceBounds (some (lo : Int)) (some ((lo + (xs.length - lo) : Nat) : Int)) none xs.length := by
   unfold sliceBounds
   simp only [Option.getD_none, if_pos (show (1 : Int) > 0 by decide)]
   refine Prod.ext rfl (Prod.ext ?_ rfl)
   show (xs.length : Int) = max 0 (min (if ((lo + (xs.length - lo) : Nat) : Int) < 0 then ((lo + (xs.length - lo) : Nat) : Int) + xs.length else ((lo + (xs.length - lo) : Nat) : Int)) xs.length)
   rw [if_neg (by lia)]
   lia
  rw [hb]
 rw [e, pick_run xs lo (xs.length - lo) (by lia) d, V5 xs lo h d]
theorem uD {r q : RE} {δ : Dl} {i j : Nat} {k l : Kd} (h1 : r δ = .ok (.int i, k)) (h2 : q δ = .ok (.int j, l)) (hi : i < 1000000) (hj : j < 1000000) : wW r q δ = .ok (true, (Pv.span i j).map fun (k : Nat) => (D.int k, .nw)) := by
 unfold wW
 rw [h1, h2, Rs.ve, Rs.ve]
 dsimp only
 rw [if_pos ⟨⟨by lia, by lia⟩, by lia, by lia⟩]
 unfold Pv.span
 rw [List.map_map]
 have e : ((j : Int) - (i : Int)).toNat = j - i := by lia
 rw [e]
 congr 2
theorem jb {i j k : Nat} (h : k ∈ Pv.span i j) : i <= k /\ k < j := by
 unfold Pv.span at h
 obtain ⟨d, hd, rfl⟩ := List.mem_map.mp h
 have := List.mem_range.mp hd
 lia
noncomputable def z4 : RS := (v7 (zS (.two 3 4) (XR (qa 0) (qa 2)) zZ (qg ym (qc (qg wu (qc (qa 1) qi)) (qc (qa 4) (qc (qa 3) qi)))) [3, 4]))
noncomputable def qD : Fn := fun ds => res (z4 (sl0 ["row", "factor", "other", "s", "y"] ds))
theorem jg {row other : List Nat} {f : Nat} (hr : R64 row) (ho : R64 other) (hf : f < 2 ^ 64) (hl : row.length < LIM) : qD [rD row, .int f, rD other] = dB (fun l => (rD l, true)) ((row.zip other).mapM fun p => Pv.F (Pv.minus f) p.2 p.1) := by
 show res (z4 [.val (rD row) false, .val (.int f) false, .val (rD other) false, .un, .un]) = _
 unfold z4
 have hc := Vi (tg := .two 3 4) (src := XR (qa 0) (qa 2)) (r := qg ym (qc (qg wu (qc (qa 1) qi)) (qc (qa 4) (qc (qa 3) qi)))) (vs := [3, 4]) (δ := [.val (rD row) false, .val (.int f) false, .val (rD other) false, .un, .un]) (b := true) (enc := fun (p : Nat × Nat) => (D.tup [.int (p.1 : Nat), .int (p.2 : Nat)], .sh)) (k := .nw) (f := fun p => Pv.F (Pv.minus f) p.2 p.1) (l := row.zip other) (by
   show Rs.ok (true, ((row.map fun (n : Nat) => D.int n).zip (other.map fun (n : Nat) => D.int n)).map fun p => (D.tup [p.1, p.2], Kd.sh)) = _
   rw [Z0, List.map_map]
   rfl) (by rw [List.length_zip]; exact Nat.lt_of_le_of_lt (Nat.min_le_left _ _) hl) (by
   rintro ⟨s, y⟩ hp
   have hs := hr s (List.of_mem_zip hp).1
   have hy := ho y (List.of_mem_zip hp).2
   refine ⟨[.val (rD row) false, .val (.int f) false, .val (rD other) false, .val (.int s) true, .val (.int y) true], rfl, ?_⟩
   have e1 : qg wu (qc (qa 1) qi) [.val (rD row) false, .val (.int f) false, .val (rD other) false, .val (.int s) true, .val (.int y) true] = .ok (.int (Pv.minus f : Nat), .nw) := by
    rw [qK (qh (x := (.int f, .sh)) rfl qB)]
    show (wu [.int f]).bind _ = _
    rw [UB (zG hf), Int.toNat_natCast, Dm.Y9 f hf]
    rfl
   rw [qK (qh e1 (qh (x := (.int y, .nw)) rfl (qh (x := (.int s, .nw)) rfl qB)))]
   show (ym [.int (Pv.minus f : Nat), .int y, .int s]).bind _ = _
   rw [qcH (zG (by rw [Dm.Y9 f hf]; exact Dm.qcz f hf)) (zG hy) (zG hs), Int.toNat_natCast, Int.toNat_natCast, Int.toNat_natCast, Zg, yx]
   rfl)
 exact (X6 (α := List Nat) (f := fun ys => ys.map fun (n : Nat) => D.int n) rfl hc)
theorem Qe {β S : Type} {tg : Tg} {body : RS} {enc : β -> DK} {f : S -> β -> S} {J : S -> Dl -> Prop} : ∀ {l : List β}, (∀ b ∈ l, ∀ s δ, J s δ -> ∃ δ1 δ2, tg.put (enc b) δ = some δ1 /\ body δ1 = .nx δ2 /\ J (f s b) δ2) -> ∀ s δ, J s δ -> ∃ δ', turns tg body (l.map enc) δ = .nx δ' /\ J (l.foldl f s) δ'
 | [], _, s, δ, j => ⟨δ, rfl, j⟩
 | b :: l, ok, s, δ, j => by
  obtain ⟨δ1, δ2, hp, hb, j2⟩ := ok b List.mem_cons_self s δ j
  obtain ⟨δ', h1, h2⟩ := Qe (fun x hx => ok x (List.mem_cons_of_mem _ hx)) (f s b) δ2 j2
  refine ⟨δ', ?_, h2⟩
  show (match tg.put (enc b) δ with | none => _ | some δ1 => _) = _
  rw [hp]
  dsimp only
  rw [hb]
  exact h1
theorem uS {r i j : RE} {δ : Dl} {t : List (List Nat)} {I J : Nat} {k ki kj : Kd} {n : Nat} (h : r δ = .ok (tD t, k)) (hi : i δ = .ok (.int I, ki)) (hj : j δ = .ok (.int J, kj)) (hI : I < t.length) (hw : Wide n t) (hJ : J < n) : qd oIx (qd oIx r i) j δ = .ok (.int (Pv.Table.at_ t I J : Nat), (k.low .nw).low .nw) := by
 rw [qj ((qj h hi).trans (yA (zY t I hI))) hj]
 exact yA (ZK _ J (by rw [hw _ (getD_mem [] hI)]; exact hJ))
noncomputable def zr : RS := (wx (we 2 (qa 1)) (wx (Xj (.one 3) (wW (qd vx (qa 1) (rC (.int 1))) (vB wV (qc (qa 0) qi))) (sIf (tBl (qd (yg fun i j => decide (j < i)) (qg qA (qc (qd oIx (qd oIx (qa 0) (qa 3)) (qa 1)) qi)) (qg qA (qc (qd oIx (qd oIx (qa 0) (qa 2)) (qa 1)) qi)))) (we 2 (qa 3)) zu)) (Qh 2)))
noncomputable def vp : Fn := fun ds => res (zr (sl0 ["x", "k", "found", "i"] ds))
theorem YX {n k : Nat} {x : Pv.Table} (hk : k < n) : k <= Pv.pivot n k x /\ Pv.pivot n k x < n := by
 unfold Pv.pivot
 have key : ∀ (l : List Nat) (r : Nat), (∀ i ∈ l, k <= i /\ i < n) -> k <= r /\ r < n -> k <= l.foldl (fun (r i : Nat) => if Pv.less (Pv.absolute (x.at_ r k)) (Pv.absolute (x.at_ i k)) = true then i else r) r /\ l.foldl (fun (r i : Nat) => if Pv.less (Pv.absolute (x.at_ r k)) (Pv.absolute (x.at_ i k)) = true then i else r) r < n := by
  intro l
  induction l with
  | nil => intro r _ h; exact h
  | cons i l ih =>
   intro r h hr
   rw [List.foldl_cons]
   refine ih _ (fun j hj => h j (List.mem_cons_of_mem _ hj)) ?_
   split
   ·exact h i List.mem_cons_self
   ·exact hr
 refine key _ k (fun i hi => ?_) ⟨Nat.le_refl _, hk⟩
 have := jb hi
 lia
theorem Vs {n k : Nat} {x : List (List Nat)} (h : Tb n n x) (hk : k < n) (hn : n < 1000) : vp [tD x, .int k] = .ok (.int (Pv.pivot n k x : Nat), false) := by
 show res (zr [.val (tD x) false, .val (.int k) false, .un, .un]) = _
 unfold zr
 generalize hX : Sl.val (tD x) false = X
 rw [qX (show we 2 (qa 1) _ = .nx [X, .val (.int k) false, .val (.int k) true, .un] from vV (k := .sh) rfl rfl)]
 have hsrc : wW (qd vx (qa 1) (rC (.int 1))) (vB wV (qc (qa 0) qi)) [X, .val (.int k) false, .val (.int k) true, .un] = .ok (true, (Pv.span (k + 1) n).map fun (k : Nat) => (D.int k, .nw)) := by
  refine uD (k := .nw) (l := .nw) ((qj (x := (.int k, .sh)) (y := (.int 1, .nw)) rfl rfl).trans (vy (by lia))) ?_ (by lia) (by lia)
  rw [yC (r := qa 0) (k := .sh) (xs := x.map rD) (by rw [<- hX]; rfl), List.length_map, h.len]
 obtain ⟨δ', h1, h2⟩ := Qe (tg := .one 3) (body := sIf (tBl (qd (yg fun i j => decide (j < i)) (qg qA (qc (qd oIx (qd oIx (qa 0) (qa 3)) (qa 1)) qi)) (qg qA (qc (qd oIx (qd oIx (qa 0) (qa 2)) (qa 1)) qi)))) (we 2 (qa 3)) zu) (enc := fun (i : Nat) => (D.int i, Kd.nw)) (l := Pv.span (k + 1) n)
  (f := fun (r i : Nat) => if Pv.less (Pv.absolute (Pv.Table.at_ x r k)) (Pv.absolute (Pv.Table.at_ x i k)) = true then i else r) (J := fun r δ => r < n /\ ∃ u, δ = [X, .val (.int k) false, .val (.int (r : Nat)) true, u]) (by
   rintro i hi r δ ⟨hr, u, rfl⟩
   have hi := jb hi
   refine ⟨[X, .val (.int k) false, .val (.int (r : Nat)) true, .val (.int (i : Nat)) true], ?_⟩
   have sz : ∀ (q : RE) (v : Nat) (kd : Kd), v < 2 ^ 64 -> q [X, .val (.int k) false, .val (.int (r : Nat)) true, .val (.int (i : Nat)) true] = .ok (.int v, kd) -> qg qA (qc q qi) [X, .val (.int k) false, .val (.int (r : Nat)) true, .val (.int (i : Nat)) true] = .ok (.int (Pv.absolute v : Nat), .nw) := fun q v kd hv hq => by
    rw [qK (qh hq qB)]
    show (qA [.int v]).bind _ = _
    rw [yQ (zG hv)]
    show Rs.ok (D.int ((v : Int) % 9223372036854775808), Kd.nw) = .ok (.int ((v % 2 ^ 63 : Nat) : Int), .nw)
    exact vy (by lia)
   have e0 : qa 0 [X, .val (.int k) false, .val (.int (r : Nat)) true, .val (.int (i : Nat)) true] = .ok (tD x, .sh) := by rw [<- hX]; rfl
   have a1 := sz _ _ _ (h.jn i k) (uS (n := n) e0 (i := qa 3) (j := qa 1) (ki := .nw) (kj := .sh) rfl rfl (by rw [h.len]; lia) h.wide hk)
   have a2 := sz _ _ _ (h.jn r k) (uS (n := n) e0 (i := qa 2) (j := qa 1) (ki := .nw) (kj := .sh) rfl rfl (by rw [h.len]; lia) h.wide hk)
   have ht : tBl (qd (yg fun i j => decide (j < i)) (qg qA (qc (qd oIx (qd oIx (qa 0) (qa 3)) (qa 1)) qi)) (qg qA (qc (qd oIx (qd oIx (qa 0) (qa 2)) (qa 1)) qi))) [X, .val (.int k) false, .val (.int (r : Nat)) true, .val (.int (i : Nat)) true] = .ok (Pv.less (Pv.absolute (Pv.Table.at_ x r k)) (Pv.absolute (Pv.Table.at_ x i k))) := by
    unfold tBl
    rw [qj a1 a2]
    show Rs.ok (decide (((Pv.absolute (Pv.Table.at_ x r k) : Nat) : Int) < ((Pv.absolute (Pv.Table.at_ x i k) : Nat) : Int))) = _
    rw [qcj (Qk _) (Qk _)]
    congr 1
    exact decide_eq_decide.mpr (by lia)
   by_cases c : Pv.less (Pv.absolute (Pv.Table.at_ x r k)) (Pv.absolute (Pv.Table.at_ x i k)) = true
   ·rw [c] at ht
    refine ⟨[X, .val (.int k) false, .val (.int (i : Nat)) true, .val (.int (i : Nat)) true], rfl, (Qa ht).trans (vV (k := .nw) rfl rfl), ?_⟩
    rw [if_pos c]
    exact ⟨hi.2, _, rfl⟩
   ·rw [Bool.eq_false_iff.mpr c] at ht
    refine ⟨[X, .val (.int k) false, .val (.int (r : Nat)) true, .val (.int (i : Nat)) true], rfl, qdy ht, ?_⟩
    rw [if_neg c]
    exact ⟨hr, _, rfl⟩) k [X, .val (.int k) false, .val (.int k) true, .un] ⟨hk, _, rfl⟩
 obtain ⟨_, u, rfl⟩ := h2
 rw [qX ((qcw hsrc).trans h1)]
 rfl
theorem vP {s : List (Option Itm)} {μ : List Cell} {i : Nat} {x : Itm} {d : D} (h : s[i]? = some (some x)) (hv : wg μ 3 x = some d) : qa i (qC ⟨s, μ⟩) = .ok (d, .sh) := by
 have e : (qC ⟨s, μ⟩)[i]? = some (.val d false) := by
  show (s.map (qa8 μ))[i]? = _
  rw [List.getElem?_map, h]
  show some (match wg μ 3 x with | some d => Sl.val d false | none => .un) = _
  rw [hv]
 unfold qa
 rw [e]
 rfl
theorem vQ {s : List (Option Itm)} {μ : List Cell} {i : Nat} {d : D} {k : Bool} (h : s[i]? = some (some (.v d k))) : qa i (qC ⟨s, μ⟩) = .ok (d, .sh) := vP h rfl
theorem xC {n i : Nat} (h : i < n) : yh n (i : Nat) = some i := by
 unfold yh
 rw [if_pos (by lia), if_pos (by lia), Int.toNat_natCast]
noncomputable def yZ : RM := (wY (jS 3 (Up (ieV 0) (qa 1))) (wY (wm (ieV 0) (qa 1) (Up (ieV 0) (qa 2))) (wm (ieV 0) (qa 2) (ieV 3))))
noncomputable def vZ : Fm := fun xs μ => xK (yZ ⟨ms0 ["numbers", "r", "k", "kept"] xs, μ⟩)
theorem VD {n r k : Nat} {kr kk : Bool} {μ : List Cell} {xs : List Itm} {x y : Itm} (hn : μ[n]? = some (.lst xs)) (hr : xs[r]? = some x) (hk : xs[k]? = some y) : vZ [.c n, .v (.int r) kr, .v (.int k) kk] μ = .ok (.v .non true) (μ.set n (.lst ((xs.set r y).set k x))) := by
 show xK (yZ ⟨[some (.c n), some (.v (.int r) kr), some (.v (.int k) kk), none], μ⟩) = _
 unfold yZ
 have hrl : r < xs.length := (List.getElem?_eq_some_iff.mp hr).1
 have hkl : k < xs.length := (List.getElem?_eq_some_iff.mp hk).1
 have hnl : n < μ.length := (List.getElem?_eq_some_iff.mp hn).1
 have cell : ∀ (s : List (Option Itm)) (ν : List Cell) (zs : List Itm), ν[n]? = some (.lst zs) -> cellAt ⟨s, ν⟩ (.c n) = some (n, .lst zs) := fun s ν zs h => by
  show (ν[n]?).map _ = _
  rw [h]
  rfl
 have rd : ∀ (s : List (Option Itm)) (ν : List Cell) (zs : List Itm) (q : RE) (i : Nat) (kd : Kd) (z : Itm), s[0]? = some (some (.c n)) -> ν[n]? = some (.lst zs) -> q (qC ⟨s, ν⟩) = .ok (.int i, kd) -> zs[i]? = some z -> Up (ieV 0) q ⟨s, ν⟩ = .ok z := fun s ν zs q i kd z hs h hq hz => by
  unfold Up
  have e : ieV 0 ⟨s, ν⟩ = .ok (.c n) := by show (match s[0]? with | some (some x) => _ | _ => _) = _; rw [hs]
  rw [e, hq, Rs.ve, Rs.ve, cell s ν zs h]
  show xT ((yh zs.length (i : Nat)).bind fun j => zs[j]?) = _
  rw [xC (List.getElem?_eq_some_iff.mp hz).1]
  show xT (zs[i]?) = _
  rw [hz]
  rfl
 have h1 : jS 3 (Up (ieV 0) (qa 1)) ⟨[some (.c n), some (.v (.int r) kr), some (.v (.int k) kk), none], μ⟩ = .nx ⟨[some (.c n), some (.v (.int r) kr), some (.v (.int k) kk), some x], μ⟩ := by
  unfold jS
  rw [rd _ μ xs (qa 1) r .sh x rfl hn rfl hr]
  rfl
 have h2 : wm (ieV 0) (qa 1) (Up (ieV 0) (qa 2)) ⟨[some (.c n), some (.v (.int r) kr), some (.v (.int k) kk), some x], μ⟩ = .nx ⟨[some (.c n), some (.v (.int r) kr), some (.v (.int k) kk), some x], μ.set n (.lst (xs.set r y))⟩ := by
  unfold wm
  rw [rd _ μ xs (qa 2) k .sh y rfl hn rfl hk]
  show setCell _ (cellAt _ (.c n)) (.int r) y = _
  rw [cell _ μ xs hn]
  show (match yh xs.length (r : Nat) with | some j => vX.nx _ | none => .no) = _
  rw [xC hrl]
 have hn2 : (μ.set n (.lst (xs.set r y)))[n]? = some (.lst (xs.set r y)) := List.getElem?_set_self hnl
 have h3 : wm (ieV 0) (qa 2) (ieV 3) ⟨[some (.c n), some (.v (.int r) kr), some (.v (.int k) kk), some x], μ.set n (.lst (xs.set r y))⟩ = .nx ⟨[some (.c n), some (.v (.int r) kr), some (.v (.int k) kk), some x], μ.set n (.lst ((xs.set r y).set k x))⟩ := by
  unfold wm
  show setCell _ (cellAt _ (.c n)) (.int k) x = _
  rw [cell _ _ _ hn2]
  show (match yh (xs.set r y).length (k : Nat) with | some j => vX.nx ⟨_, (μ.set n (.lst (xs.set r y))).set n (.lst ((xs.set r y).set j x))⟩ | none => .no) = _
  rw [xC (by rw [List.length_set]; exact hkl)]
  show vX.nx ⟨_, (μ.set n (.lst (xs.set r y))).set n (.lst ((xs.set r y).set k x))⟩ = _
  rw [List.set_set]
 rw [vd h1, vd h2, h3]
 rfl
noncomputable abbrev vI (d : D) : Itm := .v d true
noncomputable abbrev luX (x : List (List Nat)) : Cell := .lst ((x.map rD).map vI)
noncomputable abbrev luP (p : List Nat) : Cell := .lst ((p.map fun (n : Nat) => D.int n).map vI)
noncomputable abbrev sgn (b : Bool) : Int := if b = true then -1 else 1
noncomputable abbrev luM (x : List (List Nat)) (p : List Nat) (b : Bool) : List Cell := [.ins "Factors" ["x", "p", "sign"] [.c 1, .c 2, .v (.int (sgn b)) true], luX x, luP p]
noncomputable abbrev luD (x : List (List Nat)) (p : List Nat) (b : Bool) : D := .obj "Factors" ["x", "p", "sign"] [tD x, rD p, .int (sgn b)]
theorem VU (x : List (List Nat)) (p : List Nat) (b : Bool) (f : Nat) : wg (luM x p b) (f + 1) (.c 1) = some (tD x) := by
 show ((((x.map rD).map vI).mapM (wg (luM x p b) f)).map D.lst) = _
 rw [uG]
 rfl
theorem qaJ (x : List (List Nat)) (p : List Nat) (b : Bool) (f : Nat) : wg (luM x p b) (f + 1) (.c 2) = some (rD p) := by
 show ((((p.map fun (n : Nat) => D.int n).map vI).mapM (wg (luM x p b) f)).map D.lst) = _
 rw [uG]
 rfl
theorem U6 (x : List (List Nat)) (p : List Nat) (b : Bool) : wg (luM x p b) 3 (.c 0) = some (luD x p b) := by
 show ([Itm.c 1, .c 2, .v (.int (sgn b)) true].mapM (wg (luM x p b) 2)).map (D.obj "Factors" ["x", "p", "sign"]) = _
 rw [List.mapM_cons, VU, List.mapM_cons, qaJ, List.mapM_cons, List.mapM_nil]
 rfl
theorem qes (x : List (List Nat)) (p : List Nat) (b : Bool) : zy (luM x p b) 3 (.c 0) = some (luD x p b) := by
 show ([Itm.c 1, .c 2, .v (.int (sgn b)) true].mapM (zy (luM x p b) 2)).map (D.obj "Factors" ["x", "p", "sign"]) = _
 have e1 : zy (luM x p b) 2 (.c 1) = some (tD x) := by
  show ((((x.map rD).map vI).mapM (zy (luM x p b) 1)).map D.lst) = _
  rw [x6]
  rfl
 have e2 : zy (luM x p b) 2 (.c 2) = some (rD p) := by
  show ((((p.map fun (n : Nat) => D.int n).map vI).mapM (zy (luM x p b) 1)).map D.lst) = _
  rw [x6]
  rfl
 have e3 : zy (luM x p b) 2 (.v (.int (sgn b)) true) = some (.int (sgn b)) := if_pos (.inr rfl)
 rw [List.mapM_cons, e1, List.mapM_cons, e2, List.mapM_cons, e3, List.mapM_nil]
 rfl
theorem YR {α β : Type} (f : α -> β) (l : List α) (r k : Nat) (d : α) : ((l.map f).set r (f (l.getD k d))).set k (f (l.getD r d)) = (Pv.swapped l r k d).map f := by
 unfold Pv.swapped
 rw [List.map_set, List.map_set]
noncomputable def w8 : RM := (wY (yd vZ [(xJ "Factors" "x" (ieV 0)), (ieV 1), (ieV 2)]) (wY (yd vZ [(xJ "Factors" "p" (ieV 0)), (ieV 1), (ieV 2)]) (Xh "Factors" "sign" (ieV 0) (zV (rUn Qo (rUn (v8 "Factors" "sign") (qa 0)))))))
noncomputable def vA : Fm := fun xs μ => xK (w8 ⟨ms0 ["factors", "r", "k"] xs, μ⟩)
theorem QC {x : List (List Nat)} {p : List Nat} {b : Bool} {r k : Nat} {kr kk : Bool} (hx : r < x.length) (hx2 : k < x.length) (hp : r < p.length) (hp2 : k < p.length) : vA [.c 0, .v (.int r) kr, .v (.int k) kk] (luM x p b) = .ok (.v .non true) (luM (Pv.swapped x r k []) (Pv.swapped p r k 0) (!b)) := by
 show xK (w8 ⟨[some (.c 0), some (.v (.int r) kr), some (.v (.int k) kk)], luM x p b⟩) = _
 unfold w8
 have gx : ∀ i, i < x.length -> ((x.map rD).map vI)[i]? = some (vI (rD (x.getD i []))) := fun i hi => by rw [List.getElem?_map, zY x i hi]; rfl
 have gp : ∀ i, i < p.length -> ((p.map fun (n : Nat) => D.int n).map vI)[i]? = some (vI (.int (p.getD i 0 : Nat))) := fun i hi => by rw [List.getElem?_map, ZK p i hi]; rfl
 have h1 : yd vZ [(xJ "Factors" "x" (ieV 0)), (ieV 1), (ieV 2)] ⟨[some (.c 0), some (.v (.int r) kr), some (.v (.int k) kk)], luM x p b⟩ = .nx ⟨[some (.c 0), some (.v (.int r) kr), some (.v (.int k) kk)], luM (Pv.swapped x r k []) p b⟩ := by
  show (match vZ [.c 1, .v (.int r) kr, .v (.int k) kk] (luM x p b) with | .ok _ μ => vX.nx ⟨_, μ⟩ | .er c => .er c | .no => .no) = _
  rw [VD (xs := (x.map rD).map vI) rfl (gx r hx) (gx k hx2)]
  show vX.nx ⟨_, [_, Cell.lst ((((x.map rD).map vI).set r (vI (rD (x.getD k [])))).set k (vI (rD (x.getD r [])))), luP p]⟩ = _
  have e := YR (fun q => vI (rD q)) x r k []
  rw [List.map_map]
  have e2 : (x.map ((fun d => vI d) ∘ rD)) = x.map fun q => vI (rD q) := rfl
  rw [e2, e]
  show _ = vX.nx ⟨_, [_, Cell.lst (((Pv.swapped x r k []).map rD).map vI), luP p]⟩
  rw [List.map_map]
  rfl
 have h2 : yd vZ [(xJ "Factors" "p" (ieV 0)), (ieV 1), (ieV 2)] ⟨[some (.c 0), some (.v (.int r) kr), some (.v (.int k) kk)], luM (Pv.swapped x r k []) p b⟩ = .nx ⟨[some (.c 0), some (.v (.int r) kr), some (.v (.int k) kk)], luM (Pv.swapped x r k []) (Pv.swapped p r k 0) b⟩ := by
  show (match vZ [.c 2, .v (.int r) kr, .v (.int k) kk] (luM (Pv.swapped x r k []) p b) with | .ok _ μ => vX.nx ⟨_, μ⟩ | .er c => .er c | .no => .no) = _
  rw [VD (xs := (p.map fun (n : Nat) => D.int n).map vI) rfl (gp r hp) (gp k hp2)]
  show vX.nx ⟨_, [_, luX _, Cell.lst ((((p.map fun (n : Nat) => D.int n).map vI).set r (vI (.int (p.getD k 0 : Nat)))).set k (vI (.int (p.getD r 0 : Nat))))]⟩ = _
  have e := YR (fun (q : Nat) => vI (.int (q : Nat))) p r k 0
  rw [List.map_map]
  have e2 : (p.map ((fun d => vI d) ∘ fun (n : Nat) => D.int n)) = p.map fun (q : Nat) => vI (.int (q : Nat)) := rfl
  rw [e2, e]
  show _ = vX.nx ⟨_, [_, luX _, Cell.lst (((Pv.swapped p r k 0).map fun (n : Nat) => D.int n).map vI)]⟩
  rw [List.map_map]
  rfl
 rw [vd h1, vd h2]
 have hv : rUn Qo (rUn (v8 "Factors" "sign") (qa 0)) (qC ⟨[some (.c 0), some (.v (.int r) kr), some (.v (.int k) kk)], luM (Pv.swapped x r k []) (Pv.swapped p r k 0) b⟩) = .ok (.int (-(sgn b)), .nw) := by
  have e0 := vP (s := [some (.c 0), some (.v (.int r) kr), some (.v (.int k) kk)]) (i := 0) rfl (U6 (Pv.swapped x r k []) (Pv.swapped p r k 0) b)
  exact (yV (f := Qo) ((yV (f := v8 "Factors" "sign") e0).trans (show _ = Rs.ok (D.int (sgn b), Kd.sh) from rfl))).trans rfl
 unfold Xh zV
 rw [hv]
 have hs : -(sgn b) = sgn (!b) := by cases b <;> rfl
 rw [hs]
 rfl
theorem qbl {f : DK -> DK -> Rs DK} {ra rb : RE} {δ : Dl} {x : DK} {z : Int} (h : ra δ = .ok x) (h2 : rb δ = erz z) : qd f ra rb δ = erz z := by
 unfold qd
 rw [h, h2]
 exact zK z _
theorem X5 {x y r : Nat} (h : Pv.div x y = some r) : r < 2 ^ 64 := by
 unfold Pv.div at h
 split at h
 ·cases h
 ·exact UO h
theorem Tb.set {m n : Nat} {x : List (List Nat)} (h : Tb m n x) (i : Nat) {row : List Nat} (hl : row.length = n) (hr : R64 row) : Tb m n (x.set i row) := by
 refine ⟨by rw [List.length_set]; exact h.len, fun r hr' => ?_, fun r hr' => ?_⟩
 ·rcases List.mem_or_eq_of_mem_set hr' with q | q
  ·exact h.wide r q
  ·rw [q]; exact hl
 ·rcases List.mem_or_eq_of_mem_set hr' with q | q
  ·exact h.b64 r q
  ·rw [q]; exact hr
theorem qfp {x y z r : Nat} (h : Pv.F x y z = .ok r) : r < 2 ^ 64 := by
 unfold Pv.F at h
 cases e : Pv.fused x y z with
 | none => rw [e] at h; cases h
 | some w => rw [e] at h; cases h; exact qby e
theorem qdp {x y z : Nat} {e : Int} (h : Pv.F x y z = .error e) : e = -3 := VZ h
theorem Uk {a b : List Nat} {n k : Nat} (ha : a.length = n) (hb : b.length = n) (hk : k <= n) : (a.drop k).zip (b.drop k) = (Pv.span k n).map fun j => (a.getD j 0, b.getD j 0) := by
 rw [<- V5 a k (by lia) 0, <- V5 b k (by lia) 0, ha, hb, VH]
 unfold Pv.span
 rw [List.map_map]
 rfl
noncomputable def qaO (z : Int) : qbx := if z = -4 then .er "NotAsTold" else .er "StepNotFinite"
theorem qbz (z : Int) : xK (ya z) = qaO z := by
 unfold ya qaO
 split <;> rfl
theorem uM (n k : Nat) (x : Pv.Table) (i : Nat) : Pv.cleared n k x i = (Pv.step (Pv.div (x.at_ i k) (x.at_ k k))) >>= fun l => ((Pv.span (k + 1) n).mapM fun j => Pv.F (Pv.minus l) (x.at_ k j) (x.at_ i j)) >>= fun r => .ok (x.set i ((x.getD i []).take k ++ l :: r)) := rfl
theorem Ui {n k i : Nat} {x x' : Pv.Table} (h : Tb n n x) (hk : k < n) (hi : i < n) (e : Pv.cleared n k x i = .ok x') : Tb n n x' := by
 rw [uM] at e
 cases hq : Pv.step (Pv.div (x.at_ i k) (x.at_ k k)) with
 | error z => rw [hq] at e; cases e
 | ok l =>
  rw [hq] at e
  cases hr : (Pv.span (k + 1) n).mapM fun j => Pv.F (Pv.minus l) (x.at_ k j) (x.at_ i j) with
  | error z => simp only [hr, bind, Except.bind] at e; cases e
  | ok r =>
   simp only [hr, bind, Except.bind] at e
   cases e
   have hl64 : l < 2 ^ 64 := by
    cases e2 : Pv.div (x.at_ i k) (x.at_ k k) with
    | none => rw [e2] at hq; cases hq
    | some w => rw [e2] at hq; cases hq; exact X5 e2
   have hw : (x.getD i []).length = n := h.wide _ (getD_mem [] (by rw [h.len]; exact hi))
   refine h.set i ?_ fun v hv => ?_
   ·rw [List.length_append, List.length_take, List.length_cons, xq hr, hw]
    unfold Pv.span
    rw [List.length_map, List.length_range]
    lia
   ·rcases List.mem_append.mp hv with q | q
    ·exact h.b64 _ (getD_mem [] (by rw [h.len]; exact hi)) v (List.mem_of_mem_take q)
    ·rcases List.mem_cons.mp q with q | q
     ·rw [q]; exact hl64
     ·obtain ⟨j, _, e3⟩ := ji hr v q
      exact qfp e3
noncomputable def wF : RM := (uq (.one 2) (qS (wW (qd vx (qa 1) (rC (.int 1))) (vB wV (qc (qa 0) qi)))) (wY (jS 3 (zV (qg vg (qc (qd oIx (qd oIx (qa 0) (qa 2)) (qa 1)) (qc (qd oIx (qd oIx (qa 0) (qa 1)) (qa 1)) qi))))) (wm (ieV 0) (qa 2) (zV (qd vx (qd vx (vN (qd oIx (qa 0) (qa 2)) qx (v9 (qa 1)) qx) (yU (qc (qa 3) qi))) (qg qD (qc (vN (qd oIx (qa 0) (qa 2)) (v9 (qd vx (qa 1) (rC (.int 1)))) qx qx) (qc (qa 3) (qc (vN (qd oIx (qa 0) (qa 1)) (v9 (qd vx (qa 1) (rC (.int 1)))) qx qx) qi)))))))))
noncomputable def qW : Fm := fun xs μ => xK (wF ⟨ms0 ["x", "k", "i", "factor"] xs, μ⟩)
theorem jk {n k : Nat} {x : List (List Nat)} {p : List Nat} {b kk : Bool} (h : Tb n n x) (hk : k < n) (hn : n < 1000) : qW [.c 1, .v (.int k) kk] (luM x p b) = (match (Pv.span (k + 1) n).foldlM (Pv.cleared n k) x with | .ok x' => .ok (.v .non true) (luM x' p b) | .error z => qaO z) /\ (∀ x', (Pv.span (k + 1) n).foldlM (Pv.cleared n k) x = .ok x' -> Tb n n x') := by
 have hfor := wM (tg := .one 2) (body := wY (jS 3 (zV (qg vg (qc (qd oIx (qd oIx (qa 0) (qa 2)) (qa 1)) (qc (qd oIx (qd oIx (qa 0) (qa 1)) (qa 1)) qi))))) (wm (ieV 0) (qa 2) (zV (qd vx (qd vx (vN (qd oIx (qa 0) (qa 2)) qx (v9 (qa 1)) qx) (yU (qc (qa 3) qi))) (qg qD (qc (vN (qd oIx (qa 0) (qa 2)) (v9 (qd vx (qa 1) (rC (.int 1)))) qx qx) (qc (qa 3) (qc (vN (qd oIx (qa 0) (qa 1)) (v9 (qd vx (qa 1) (rC (.int 1)))) qx qx) qi))))))))
  (enc := fun (i : Nat) => (D.int i, Kd.nw)) (l := Pv.span (k + 1) n) (f := Pv.cleared n k) (J := fun y m => Tb n n y /\ ∃ u v, m = ⟨[some (.c 1), some (.v (.int k) kk), u, v], luM y p b⟩) (by
   rintro i hi y m ⟨hy, u, v, rfl⟩
   have hi := jb hi
   refine ⟨⟨[some (.c 1), some (.v (.int k) kk), some (.v (.int (i : Nat)) true), v], luM y p b⟩, rfl, ?_⟩
   have e0 : ∀ w, qa 0 (qC ⟨[some (.c 1), some (.v (.int k) kk), some (.v (.int (i : Nat)) true), w], luM y p b⟩) = .ok (tD y, .sh) := fun w => vP rfl (VU y p b 2)
   have e1 : ∀ w, qa 1 (qC ⟨[some (.c 1), some (.v (.int k) kk), some (.v (.int (i : Nat)) true), w], luM y p b⟩) = .ok (.int k, .sh) := fun w => vQ rfl
   have e2 : ∀ w, qa 2 (qC ⟨[some (.c 1), some (.v (.int k) kk), some (.v (.int (i : Nat)) true), w], luM y p b⟩) = .ok (.int (i : Nat), .sh) := fun w => vQ rfl
   have hil : i < y.length := by rw [hy.len]; exact hi.2
   have hkl : k < y.length := by rw [hy.len]; exact hk
   have q1 : qg vg (qc (qd oIx (qd oIx (qa 0) (qa 2)) (qa 1)) (qc (qd oIx (qd oIx (qa 0) (qa 1)) (qa 1)) qi)) (qC ⟨[some (.c 1), some (.v (.int k) kk), some (.v (.int (i : Nat)) true), v], luM y p b⟩) = dK (fun (n : Nat) => (D.int n, .nw)) (Pv.step (Pv.div (Pv.Table.at_ y i k) (Pv.Table.at_ y k k))) := by
    rw [qK (qh (uS (e0 v) (e2 v) (e1 v) hil hy.wide hk) (qh (uS (e0 v) (e1 v) (e1 v) hkl hy.wide hk) qB))]
    show (vg [.int (Pv.Table.at_ y i k : Nat), .int (Pv.Table.at_ y k k : Nat)]).bind _ = _
    rw [Vw (zG (hy.jn i k)) (zG (hy.jn k k)), Int.toNat_natCast, Int.toNat_natCast, Zg, yx]
    rfl
   have a1 : jS 3 (zV (qg vg (qc (qd oIx (qd oIx (qa 0) (qa 2)) (qa 1)) (qc (qd oIx (qd oIx (qa 0) (qa 1)) (qa 1)) qi)))) ⟨[some (.c 1), some (.v (.int k) kk), some (.v (.int (i : Nat)) true), v], luM y p b⟩ = (match Pv.step (Pv.div (Pv.Table.at_ y i k) (Pv.Table.at_ y k k)) with | .ok l => .nx ⟨[some (.c 1), some (.v (.int k) kk), some (.v (.int (i : Nat)) true), some (.v (.int l) true)], luM y p b⟩ | .error z => ya z) := by
    unfold jS
    rw [QR (y := fun (n : Nat) => Itm.v (.int n) true) q1 (fun a _ => rfl), Zq]
    cases Pv.step (Pv.div (Pv.Table.at_ y i k) (Pv.Table.at_ y k k)) <;> rfl
   have hci : Pv.cleared n k y i = _ := uM n k y i
   cases hq : Pv.step (Pv.div (Pv.Table.at_ y i k) (Pv.Table.at_ y k k)) with
   | error z =>
    rw [hq] at a1
    rw [hci, hq]
    refine ⟨fun s' e => (by cases e), fun z' e => ?_⟩
    cases e
    exact xx a1
   | ok l =>
    rw [hq] at a1
    have hl64 : l < 2 ^ 64 := by
     cases e2 : Pv.div (Pv.Table.at_ y i k) (Pv.Table.at_ y k k) with
     | none => rw [e2] at hq; cases hq
     | some w => rw [e2] at hq; cases hq; exact X5 e2
    generalize hw : (⟨[some (.c 1), some (.v (.int k) kk), some (.v (.int (i : Nat)) true), some (.v (.int l) true)], luM y p b⟩ : MS) = w
    have f0 : qa 0 (qC w) = .ok (tD y, .sh) := by rw [<- hw]; exact e0 _
    have f1 : qa 1 (qC w) = .ok (.int k, .sh) := by rw [<- hw]; exact e1 _
    have f2 : qa 2 (qC w) = .ok (.int (i : Nat), .sh) := by rw [<- hw]; exact e2 _
    have f3 : qa 3 (qC w) = .ok (.int l, .sh) := by rw [<- hw]; exact vQ rfl
    have hyi := getD_mem ([] : List Nat) hil
    have hyk := getD_mem ([] : List Nat) hkl
    have wi := hy.wide _ hyi
    have wk := hy.wide _ hyk
    have ri : qd oIx (qa 0) (qa 2) (qC w) = .ok (rD (y.getD i []), .sh) := (qj f0 f2).trans (yA (zY y i hil))
    have rk : qd oIx (qa 0) (qa 1) (qC w) = .ok (rD (y.getD k []), .sh) := (qj f0 f1).trans (yA (zY y k hkl))
    have k1 : v9 (qd vx (qa 1) (rC (.int 1))) (qC w) = .ok (some ((k + 1 : Nat) : Int)) := Vy (k := .nw) ((qj f1 (y := (.int 1, .nw)) rfl).trans (vy (by lia)))
    have s1 : vN (qd oIx (qa 0) (qa 2)) qx (v9 (qa 1)) qx (qC w) = .ok (rD ((y.getD i []).take k), .fr) := by
     rw [uk ri (rl := qx) (lo := none) rfl (Vy f1) (rs := qx) (st := none) rfl (by intro z; cases z), qag _ k (by rw [List.length_map, wi]; lia) (.int 0), <- List.map_take, jv (zQ _)]
    have s2 : vN (qd oIx (qa 0) (qa 2)) (v9 (qd vx (qa 1) (rC (.int 1)))) qx qx (qC w) = .ok (rD ((y.getD i []).drop (k + 1)), .fr) := by
     rw [uk ri k1 (rh := qx) (hi := none) rfl (rs := qx) (st := none) rfl (by intro z; cases z), WB _ (k + 1) (by rw [List.length_map, wi]; lia) (.int 0), <- List.map_drop, jv (zQ _)]
    have s3 : vN (qd oIx (qa 0) (qa 1)) (v9 (qd vx (qa 1) (rC (.int 1)))) qx qx (qC w) = .ok (rD ((y.getD k []).drop (k + 1)), .fr) := by
     rw [uk rk k1 (rh := qx) (hi := none) rfl (rs := qx) (st := none) rfl (by intro z; cases z), WB _ (k + 1) (by rw [List.length_map, wk]; lia) (.int 0), <- List.map_drop, jv (zQ _)]
    have s4 : qd vx (vN (qd oIx (qa 0) (qa 2)) qx (v9 (qa 1)) qx) (yU (qc (qa 3) qi)) (qC w) = .ok (rD ((y.getD i []).take k ++ [l]), .fr) := by
     rw [qj s1 (y := (rD [l], .fr)) ((QO (qh f3 qB) (Nat.le_of_ble_eq_true rfl)).trans rfl), Yq (by rw [List.length_map, List.length_map, List.length_take, wi]; show _ <= 16777216; simp; lia), <- List.map_append, jv (zQ _)]
    have s5 : qg qD (qc (vN (qd oIx (qa 0) (qa 2)) (v9 (qd vx (qa 1) (rC (.int 1)))) qx qx) (qc (qa 3) (qc (vN (qd oIx (qa 0) (qa 1)) (v9 (qd vx (qa 1) (rC (.int 1)))) qx qx) qi))) (qC w) = dK (fun r => (rD r, .fr)) ((Pv.span (k + 1) n).mapM fun j => Pv.F (Pv.minus l) (Pv.Table.at_ y k j) (Pv.Table.at_ y i j)) := by
     rw [qK (qh s2 (qh f3 (qh s3 qB)))]
     show (qD [rD ((y.getD i []).drop (k + 1)), .int l, rD ((y.getD k []).drop (k + 1))]).bind _ = _
     rw [jg (fun v hv => hy.b64 _ hyi v (List.mem_of_mem_drop hv)) (fun v hv => hy.b64 _ hyk v (List.mem_of_mem_drop hv)) hl64 (by rw [List.length_drop, wi]; show _ < 16777216; lia), Uk wi wk (by lia), List.mapM_map, yx]
     rfl
    have s6 : qd vx (qd vx (vN (qd oIx (qa 0) (qa 2)) qx (v9 (qa 1)) qx) (yU (qc (qa 3) qi))) (qg qD (qc (vN (qd oIx (qa 0) (qa 2)) (v9 (qd vx (qa 1) (rC (.int 1)))) qx qx) (qc (qa 3) (qc (vN (qd oIx (qa 0) (qa 1)) (v9 (qd vx (qa 1) (rC (.int 1)))) qx qx) qi)))) (qC w) = dK (fun r => (rD ((y.getD i []).take k ++ l :: r), .fr)) ((Pv.span (k + 1) n).mapM fun j => Pv.F (Pv.minus l) (Pv.Table.at_ y k j) (Pv.Table.at_ y i j)) := by
     cases hr : (Pv.span (k + 1) n).mapM fun j => Pv.F (Pv.minus l) (Pv.Table.at_ y k j) (Pv.Table.at_ y i j) with
     | error z =>
      rw [hr] at s5
      exact qbl s4 s5
     | ok r =>
      rw [hr] at s5
      have hrl : r.length = n - (k + 1) := by rw [xq hr]; unfold Pv.span; rw [List.length_map, List.length_range]
      rw [qj s4 s5, Yq (by rw [List.length_map, List.length_map, List.length_append, List.length_take, wi, hrl]; show _ <= 16777216; simp; lia), <- List.map_append, jv (zQ _), List.append_assoc]
      rfl
    have a2 : wm (ieV 0) (qa 2) (zV (qd vx (qd vx (vN (qd oIx (qa 0) (qa 2)) qx (v9 (qa 1)) qx) (yU (qc (qa 3) qi))) (qg qD (qc (vN (qd oIx (qa 0) (qa 2)) (v9 (qd vx (qa 1) (rC (.int 1)))) qx qx) (qc (qa 3) (qc (vN (qd oIx (qa 0) (qa 1)) (v9 (qd vx (qa 1) (rC (.int 1)))) qx qx) qi)))))) w = (match ((Pv.span (k + 1) n).mapM fun j => Pv.F (Pv.minus l) (Pv.Table.at_ y k j) (Pv.Table.at_ y i j)) with | .ok r => .nx ⟨[some (.c 1), some (.v (.int k) kk), some (.v (.int (i : Nat)) true), some (.v (.int l) true)], luM (y.set i ((y.getD i []).take k ++ l :: r)) p b⟩ | .error z => ya z) := by
     unfold wm
     rw [QR (y := fun r => Itm.v (rD ((y.getD i []).take k ++ l :: r)) true) s6 (fun a _ => rfl), Zq]
     cases (Pv.span (k + 1) n).mapM fun j => Pv.F (Pv.minus l) (Pv.Table.at_ y k j) (Pv.Table.at_ y i j) with
     | error z => rfl
     | ok r =>
      show mDo (ieV 0 w) _ = _
      rw [show ieV 0 w = .ok (.c 1) by rw [<- hw]; rfl]
      show mDo (qa 2 (qC w)) _ = _
      rw [f2]
      show setCell w (cellAt w (.c 1)) (.int (i : Nat)) _ = _
      rw [<- hw]
      show (match yh ((y.map rD).map vI).length (i : Nat) with | some j => vX.nx ⟨_, [_, Cell.lst (((y.map rD).map vI).set j (Itm.v (rD ((y.getD i []).take k ++ l :: r)) true)), luP p]⟩ | none => .no) = _
      rw [xC (by rw [List.length_map, List.length_map]; exact hil)]
      show vX.nx ⟨_, [_, Cell.lst (((y.map rD).map vI).set i (vI (rD ((y.getD i []).take k ++ l :: r)))), luP p]⟩ = _
      rw [<- List.map_set, <- List.map_set]
    dsimp only at a1
    rw [hw] at a1
    rw [hci, hq]
    show (∀ s', (((Pv.span (k + 1) n).mapM fun j => Pv.F (Pv.minus l) (Pv.Table.at_ y k j) (Pv.Table.at_ y i j)) >>= fun r => (.ok (y.set i ((y.getD i []).take k ++ l :: r)) : Pv.Did Pv.Table)) = .ok s' -> _) /\ (∀ z, (((Pv.span (k + 1) n).mapM fun j => Pv.F (Pv.minus l) (Pv.Table.at_ y k j) (Pv.Table.at_ y i j)) >>= fun r => (.ok (y.set i ((y.getD i []).take k ++ l :: r)) : Pv.Did Pv.Table)) = .error z -> _)
    cases hr : (Pv.span (k + 1) n).mapM fun j => Pv.F (Pv.minus l) (Pv.Table.at_ y k j) (Pv.Table.at_ y i j) with
    | error z =>
     rw [hr] at a2
     refine ⟨fun s' e => (by cases e), fun z' e => ?_⟩
     cases e
     exact (vd a1).trans a2
    | ok r =>
     rw [hr] at a2
     refine ⟨fun s' e => ?_, fun z' e => (by cases e)⟩
     cases e
     refine ⟨_, (vd a1).trans a2, ?_, _, _, rfl⟩
     refine Ui hy hk hi.2 (i := i) ?_
     rw [hci, hq]
     show (((Pv.span (k + 1) n).mapM fun j => Pv.F (Pv.minus l) (Pv.Table.at_ y k j) (Pv.Table.at_ y i j)) >>= fun r => (.ok (y.set i ((y.getD i []).take k ++ l :: r)) : Pv.Did Pv.Table)) = _
     rw [hr]
     rfl) x ⟨[some (.c 1), some (.v (.int k) kk), none, none], luM x p b⟩ ⟨h, none, none, rfl⟩
 have hsrc : qS (wW (qd vx (qa 1) (rC (.int 1))) (vB wV (qc (qa 0) qi))) ⟨[some (.c 1), some (.v (.int k) kk), none, none], luM x p b⟩ = .ok ((Pv.span (k + 1) n).map fun (k : Nat) => (D.int k, .nw)) := by
  unfold qS
  rw [uD (i := k + 1) (j := n) (k := .nw) (l := .nw) ((qj (x := (.int k, .sh)) (y := (.int 1, .nw)) (vQ rfl) rfl).trans (vy (by lia))) ((yC (vP (i := 0) (s := [some (.c 1), some (.v (.int k) kk), none, none]) rfl (VU x p b 2))).trans (by rw [List.length_map, h.len])) (by lia) (by lia)]
  rfl
 constructor
 ·show xK (wF ⟨[some (.c 1), some (.v (.int k) kk), none, none], luM x p b⟩) = _
  unfold wF
  rw [w9 hsrc]
  cases hT : (Pv.span (k + 1) n).foldlM (Pv.cleared n k) x with
  | error z => rw [hfor.2 z hT, qbz]
  | ok x' =>
   obtain ⟨m', q1, q2, u, v, rfl⟩ := hfor.1 x' hT
   rw [q1]
   rfl
 ·intro x' hT
  obtain ⟨m', q1, q2, u, v, rfl⟩ := hfor.1 x' hT
  exact q2
theorem x9 {f : List DK -> Rs DK} {r : RA} {δ : Dl} {xs : List DK} (h : r δ = .ok xs) : vB f r δ = f xs := by unfold vB; rw [h]; rfl
theorem JD {n : Nat} {k : Kd} (h : n < 1000000) : y3 [(.int n, k)] = .ok (rD (List.range n), .fr) := by
 unfold y3
 dsimp only
 rw [if_pos ⟨by lia, by lia⟩, Int.toNat_natCast]
theorem qfu {t : RT} {a b : RM} {m : MS} (h : t (qC m) = .ok true) : mIf t a b m = a m := by unfold mIf; rw [h]; rfl
theorem qe1 {t : RT} {a b : RM} {m : MS} (h : t (qC m) = .ok false) : mIf t a b m = b m := by unfold mIf; rw [h]; rfl
theorem WN {β : Type} (f : β -> D) (k : Kd) (hk : k = .fr \/ k = .nw) : ∀ l : List β, wB (l.map fun x => (f x, k)) = .ok ((l.map f).map fun d => Itm.v d true)
 | [] => rfl
 | x :: l => by
  have ih := WN f k hk l
  show (xT (qE (f x, k.low .nw))).bind (fun y => (wB (l.map fun x => (f x, k))).bind fun ys => .ok (y :: ys)) = _
  have e : qE (f x, k.low .nw) = some (.v (f x) true) := by
   have e1 : k.low .nw = .nw := by rcases hk with rfl | rfl <;> rfl
   rw [e1]
   show (if (f x).sc = true then _ else some (Itm.v (f x) true)) = _
   split <;> rfl
  rw [e, ih]
  rfl
noncomputable def wO : RM := (wY (xy "Factors" "x" (ieV 0) (z9 (.one 2) (iOf (qa 1)) zZ (vB Y7 (qc (qa 2) qi)) [2])) (wY (xy "Factors" "p" (ieV 0) (qbI (vB y3 (qc (vB wV (qc (qa 1) qi)) qi)))) (Xh "Factors" "sign" (ieV 0) (qe0 (rC (.int 1))))))
noncomputable def vG : Fm := fun xs μ => xK (wO ⟨ms0 ["self", "a", "row"] xs, μ⟩)
theorem VB {a : List (List Nat)} {n : Nat} {k : Bool} (h : a.length = n) (hn : n < 1000000) : vG [.c 0, .v (tD a) k] [.ins "Factors" [] []] = .ok (.v .non true) (luM a (List.range n) false) := by
 show xK (wO ⟨[some (.c 0), some (.v (tD a) k), none], [.ins "Factors" [] []]⟩) = _
 unfold wO
 have h1 : z9 (.one 2) (iOf (qa 1)) zZ (vB Y7 (qc (qa 2) qi)) [2] ⟨[some (.c 0), some (.v (tD a) k), none], [.ins "Factors" [] []]⟩ = .ok ((a.map rD).map vI) := by
  unfold z9
  have hsrc : iOf (qa 1) (vL ⟨[some (.c 0), some (.v (tD a) k), none], [.ins "Factors" [] []]⟩) = .ok (true, a.map fun r => (rD r, (if k = true then Kd.nw else Kd.sh).low .nw)) := by
   have e : qa 1 (vL ⟨[some (.c 0), some (.v (tD a) k), none], [.ins "Factors" [] []]⟩) = .ok (tD a, if k = true then Kd.nw else Kd.sh) := rfl
   rw [X9 e, List.map_map]
   cases k <;> rfl
  rw [hsrc, Rs.ve, if_pos (by rw [List.length_map, h]; show n < 16777216; lia)]
  rw [u7 (f := fun r => .ok r) (dec := fun r => (rD r, .fr)) (fun r _ => by
   refine ⟨[.un, .val (tD a) k, .val (rD r) k], by cases k <;> rfl, ?_⟩
   show Rs.ok (rD r, kL (r.map fun (n : Nat) => D.int n) _) = _
   rw [jv (zQ _)]
   rfl), yw]
  show wB ((a.map fun r => r).map fun r => (rD r, .fr)) = _
  rw [List.map_id', WN rD .fr (.inl rfl)]
 have h2 : qbI (vB y3 (qc (vB wV (qc (qa 1) qi)) qi)) ⟨[some (.c 0), some (.v (tD a) k), none], [.ins "Factors" ["x"] [.c 1], luX a]⟩ = .ok (((List.range n).map fun (n : Nat) => D.int n).map vI) := by
  unfold qbI
  have e1 : vB wV (qc (qa 1) qi) (qC ⟨[some (.c 0), some (.v (tD a) k), none], [.ins "Factors" ["x"] [.c 1], luX a]⟩) = .ok (.int n, .nw) := (yC (vQ rfl)).trans (by rw [List.length_map, h])
  have e2 : vB y3 (qc (vB wV (qc (qa 1) qi)) qi) (qC ⟨[some (.c 0), some (.v (tD a) k), none], [.ins "Factors" ["x"] [.c 1], luX a]⟩) = .ok (rD (List.range n), .fr) := by
   exact (x9 (qh e1 qB)).trans (JD hn)
  rw [e2]
  rfl
 have s1 : xy "Factors" "x" (ieV 0) (z9 (.one 2) (iOf (qa 1)) zZ (vB Y7 (qc (qa 2) qi)) [2]) ⟨[some (.c 0), some (.v (tD a) k), none], [.ins "Factors" [] []]⟩ = .nx ⟨[some (.c 0), some (.v (tD a) k), none], [.ins "Factors" ["x"] [.c 1], luX a]⟩ := by
  unfold xy
  rw [h1]
  rfl
 have s2 : xy "Factors" "p" (ieV 0) (qbI (vB y3 (qc (vB wV (qc (qa 1) qi)) qi))) ⟨[some (.c 0), some (.v (tD a) k), none], [.ins "Factors" ["x"] [.c 1], luX a]⟩ = .nx ⟨[some (.c 0), some (.v (tD a) k), none], [.ins "Factors" ["x", "p"] [.c 1, .c 2], luX a, luP (List.range n)]⟩ := by
  unfold xy
  rw [h2]
  rfl
 rw [vd s1, vd s2]
 rfl
noncomputable def JC (r : RM) : Prop := ∀ m x μ, r m ≠ .rt x μ
theorem YT {a b : RM} (ha : JC a) (hb : JC b) : JC (wY a b) := fun m x μ h => by
 unfold wY vX.andThen at h
 cases e : a m with
 | nx m1 => rw [e] at h; exact hb m1 x μ h
 | rt y ν => exact ha m y ν e
 | bk m1 => rw [e] at h; cases h
 | ct m1 => rw [e] at h; cases h
 | er c => rw [e] at h; cases h
 | no => rw [e] at h; cases h
theorem QU {α : Type} {x : Rs α} {f : α -> vX} (h : ∀ a y μ, f a ≠ .rt y μ) (y : Itm) (μ : List Cell) : mDo x f ≠ .rt y μ := by
 cases x with
 | ok a => exact h a y μ
 | er c => intro z; cases z
 | no => intro z; cases z
theorem WW {c f : Str} {m : MS} {o : Option (Nat × Cell)} {x : Itm} {μ : List Cell} (y : Itm) (ν : List Cell) : ZC c f m o x μ ≠ .rt y ν := by
 intro h
 match o, h with
 | some (n, .ins c' ns xs), h =>
  have h : (if c' = c /\ ns.length < 1000 /\ ns.length = xs.length then vX.nx _ else .no) = .rt y ν := h
  split at h <;> cases h
 | some (n, .lst xs), h => cases h
 | none, h => cases h
theorem JG {c f : Str} {ec ev : IE} : JC (Xh c f ec ev) := fun m x μ => QU (fun a y ν => QU (fun b z ξ => WW z ξ) y ν) x μ
theorem VY {c f : Str} {ec : IE} {ev : NE} : JC (xy c f ec ev) := fun m x μ => QU (fun a y ν => QU (fun b z ξ => WW z ξ) y ν) x μ
theorem qeg {r : RM} (h : JC r) {m : MS} {x : Itm} {μ : List Cell} (e : xK (r m) = .ok x μ) : x = .v .non true := by
 cases q : r m with
 | rt y ν => exact absurd q (h m y ν)
 | nx m1 => rw [q] at e; cases e; rfl
 | bk m1 => rw [q] at e; cases e
 | ct m1 => rw [q] at e; cases e
 | er c => rw [q] at e; cases e
 | no => rw [q] at e; cases e
theorem jI (xs : List Itm) (μ : List Cell) (x : Itm) (μ' : List Cell) (e : vG xs μ = .ok x μ') : x = .v .non true :=
 qeg (r := wO) (YT VY (YT VY JG)) e
noncomputable def QS : RM := (wY (X1 1 "Factors" vG [(ieV 0)]) (wY (uq (.one 2) (qS (vU (vB wV (qc (qa 0) qi)))) (wY (jS 3 (zV (qg vp (qc (rUn (v8 "Factors" "x") (qa 1)) (qc (qa 2) qi))))) (wY (mIf (tBl (qg vJ (qc (qd oIx (qd oIx (rUn (v8 "Factors" "x") (qa 1)) (qa 3)) (qa 2)) qi))) (Q7 "NotAsTold") j7) (wY (mIf (tBl (qd (oEq true) (qa 3) (qa 2))) (yd vA [(ieV 1), (ieV 3), (ieV 2)]) j7) (yd qW [(xJ "Factors" "x" (ieV 1)), (ieV 2)]))))) (XX (ieV 1))))
noncomputable def yX : Fn := fun ds => QD (QS ⟨ms0 ["a", "factors", "k", "r"] (it0 ds), []⟩)
theorem jC (n : Nat) (s : Pv.Lu) (k : Nat) : Pv.luStep n s k = if Pv.mag (s.x.at_ (Pv.pivot n k s.x) k) = 0 then .error (-4) else ((Pv.span (k + 1) n).foldlM (Pv.cleared n k) (Pv.exchanged s (Pv.pivot n k s.x) k).x) >>= fun x => .ok ⟨x, (Pv.exchanged s (Pv.pivot n k s.x) k).p, (Pv.exchanged s (Pv.pivot n k s.x) k).turned⟩ := rfl
theorem qc0 {n r k : Nat} {x : List (List Nat)} (h : Tb n n x) (hr : r < n) (hk : k < n) : Tb n n (Pv.swapped x r k []) := by
 unfold Pv.swapped
 have g : ∀ i, i < n -> (x.getD i []) ∈ x := fun i hi => getD_mem [] (by rw [h.len]; exact hi)
 exact (h.set r (h.wide _ (g k hk)) (h.b64 _ (g k hk))).set k (h.wide _ (g r hr)) (h.b64 _ (g r hr))
theorem qbO {x : Nat} (h : x < 2 ^ 64) : (decide (((x : Nat) : Int) % 9223372036854775808 = 0)) = decide (Pv.mag x = 0) := by
 refine decide_eq_decide.mpr ?_
 rw [Dm.y9]
 unfold Dm.sz
 lia
theorem U8 {s : Pv.Lu} {r k : Nat} (h : r = k) : Pv.exchanged s r k = s := by unfold Pv.exchanged; exact if_pos h
theorem US {s : Pv.Lu} {r k : Nat} (h : r ≠ k) : Pv.exchanged s r k = ⟨Pv.swapped s.x r k [], Pv.swapped s.p r k 0, !s.turned⟩ := by unfold Pv.exchanged; exact if_neg h
theorem qcx {n : Nat} {a : List (List Nat)} (h : Tb n n a) (h0 : 0 < n) (hn : n < 1000) : yX [tD a] = dB (fun s => (luD s.x s.p s.turned, false)) (Pv.lu n a) /\ (∀ s, Pv.lu n a = .ok s -> Tb n n s.x /\ s.p.length = n) /\ (∀ z, Pv.lu n a = .error z -> z = -3 \/ z = -4) := by
 have hfor := wM (tg := .one 2) (body := (wY (jS 3 (zV (qg vp (qc (rUn (v8 "Factors" "x") (qa 1)) (qc (qa 2) qi))))) (wY (mIf (tBl (qg vJ (qc (qd oIx (qd oIx (rUn (v8 "Factors" "x") (qa 1)) (qa 3)) (qa 2)) qi))) (Q7 "NotAsTold") j7) (wY (mIf (tBl (qd (oEq true) (qa 3) (qa 2))) (yd vA [(ieV 1), (ieV 3), (ieV 2)]) j7) (yd qW [(xJ "Factors" "x" (ieV 1)), (ieV 2)])))))
  (enc := fun (i : Nat) => (D.int i, Kd.nw)) (l := List.range n) (f := Pv.luStep n) (J := fun s m => (Tb n n s.x /\ s.p.length = n) /\ ∃ u v, m = ⟨[some (.v (tD a) false), some (.c 0), u, v], luM s.x s.p s.turned⟩) (by
   rintro k hk s m ⟨⟨hx, hp⟩, u, v, rfl⟩
   have hk := List.mem_range.mp hk
   refine ⟨⟨[some (.v (tD a) false), some (.c 0), some (.v (.int (k : Nat)) true), v], luM s.x s.p s.turned⟩, rfl, ?_⟩
   have e1 : ∀ w, qa 1 (qC ⟨[some (.v (tD a) false), some (.c 0), some (.v (.int (k : Nat)) true), w], luM s.x s.p s.turned⟩) = .ok (luD s.x s.p s.turned, .sh) := fun w => vP rfl (U6 _ _ _)
   have e2 : ∀ w, qa 2 (qC ⟨[some (.v (tD a) false), some (.c 0), some (.v (.int (k : Nat)) true), w], luM s.x s.p s.turned⟩) = .ok (.int (k : Nat), .sh) := fun w => vQ rfl
   have ex : ∀ w, rUn (v8 "Factors" "x") (qa 1) (qC ⟨[some (.v (tD a) false), some (.c 0), some (.v (.int (k : Nat)) true), w], luM s.x s.p s.turned⟩) = .ok (tD s.x, .sh) := fun w => (yV (e1 w)).trans rfl
   generalize hr : Pv.pivot n k s.x = r
   have hrl := YX (x := s.x) hk
   rw [hr] at hrl
   have a1 : jS 3 (zV (qg vp (qc (rUn (v8 "Factors" "x") (qa 1)) (qc (qa 2) qi)))) ⟨[some (.v (tD a) false), some (.c 0), some (.v (.int (k : Nat)) true), v], luM s.x s.p s.turned⟩ = .nx ⟨[some (.v (tD a) false), some (.c 0), some (.v (.int (k : Nat)) true), some (.v (.int (r : Nat)) true)], luM s.x s.p s.turned⟩ := by
    have q : qg vp (qc (rUn (v8 "Factors" "x") (qa 1)) (qc (qa 2) qi)) (qC ⟨[some (.v (tD a) false), some (.c 0), some (.v (.int (k : Nat)) true), v], luM s.x s.p s.turned⟩) = .ok (.int (r : Nat), .nw) := by
     rw [qK (qh (ex v) (qh (e2 v) qB))]
     show (vp [tD s.x, .int (k : Nat)]).bind _ = _
     rw [Vs hx hk hn, hr]
     rfl
    unfold jS zV
    rw [q]
    rfl
   have hz : tBl (qg vJ (qc (qd oIx (qd oIx (rUn (v8 "Factors" "x") (qa 1)) (qa 3)) (qa 2)) qi)) (qC ⟨[some (.v (tD a) false), some (.c 0), some (.v (.int (k : Nat)) true), some (.v (.int (r : Nat)) true)], luM s.x s.p s.turned⟩) = .ok (decide (Pv.mag (Pv.Table.at_ s.x r k) = 0)) := by
    unfold tBl
    rw [qK (qh (uS (ex _) (i := qa 3) (j := qa 2) (vQ rfl) (e2 _) (by rw [hx.len]; exact hrl.2) hx.wide hk) qB)]
    show ((vJ [.int (Pv.Table.at_ s.x r k : Nat)]).bind _).bind _ = _
    rw [WO (zG (hx.jn r k)), qbO (hx.jn r k)]
    rfl
   rw [jC, hr]
   by_cases c0 : Pv.mag (Pv.Table.at_ s.x r k) = 0
   ·rw [if_pos c0]
    rw [decide_eq_true c0] at hz
    refine ⟨fun s' e => (by cases e), fun z e => ?_⟩
    cases e
    rw [vd a1]
    unfold wY
    rw [show mIf (tBl (qg vJ (qc (qd oIx (qd oIx (rUn (v8 "Factors" "x") (qa 1)) (qa 3)) (qa 2)) qi))) (Q7 "NotAsTold") j7 ⟨[some (.v (tD a) false), some (.c 0), some (.v (.int (k : Nat)) true), some (.v (.int (r : Nat)) true)], luM s.x s.p s.turned⟩ = .er "NotAsTold" by unfold mIf; rw [hz]; rfl]
    rfl
   ·rw [if_neg c0]
    rw [decide_eq_false c0] at hz
    have a2 : mIf (tBl (qg vJ (qc (qd oIx (qd oIx (rUn (v8 "Factors" "x") (qa 1)) (qa 3)) (qa 2)) qi))) (Q7 "NotAsTold") j7 ⟨[some (.v (tD a) false), some (.c 0), some (.v (.int (k : Nat)) true), some (.v (.int (r : Nat)) true)], luM s.x s.p s.turned⟩ = .nx ⟨[some (.v (tD a) false), some (.c 0), some (.v (.int (k : Nat)) true), some (.v (.int (r : Nat)) true)], luM s.x s.p s.turned⟩ := by
     unfold mIf
     rw [hz]
     rfl
    have ht : tBl (qd (oEq true) (qa 3) (qa 2)) (qC ⟨[some (.v (tD a) false), some (.c 0), some (.v (.int (k : Nat)) true), some (.v (.int (r : Nat)) true)], luM s.x s.p s.turned⟩) = .ok (!decide (r = k)) := by
     unfold tBl
     rw [qj (vQ (i := 3) (d := .int (r : Nat)) rfl) (e2 _)]
     show Rs.ok (!decide (((r : Nat) : Int) = (k : Nat))) = _
     congr 2
     exact decide_eq_decide.mpr (by lia)
    generalize ht' : Pv.exchanged s r k = t
    have hT : (Tb n n t.x /\ t.p.length = n) /\ mIf (tBl (qd (oEq true) (qa 3) (qa 2))) (yd vA [(ieV 1), (ieV 3), (ieV 2)]) j7 ⟨[some (.v (tD a) false), some (.c 0), some (.v (.int (k : Nat)) true), some (.v (.int (r : Nat)) true)], luM s.x s.p s.turned⟩ = .nx ⟨[some (.v (tD a) false), some (.c 0), some (.v (.int (k : Nat)) true), some (.v (.int (r : Nat)) true)], luM t.x t.p t.turned⟩ := by
     by_cases c : r = k
     ·rw [U8 c] at ht'
      subst ht'
      rw [decide_eq_true c] at ht
      exact ⟨⟨hx, hp⟩, qe1 ht⟩
     ·rw [US c] at ht'
      subst ht'
      rw [decide_eq_false c] at ht
      rw [qfu ht]
      refine ⟨⟨qc0 hx hrl.2 hk, ?_⟩, ?_⟩
      ·unfold Pv.swapped
       rw [List.length_set, List.length_set]
       exact hp
      ·show (match vA [.c 0, .v (.int (r : Nat)) true, .v (.int (k : Nat)) true] (luM s.x s.p s.turned) with | .ok _ μ => vX.nx ⟨_, μ⟩ | .er c => .er c | .no => .no) = _
       rw [QC (by rw [hx.len]; exact hrl.2) (by rw [hx.len]; exact hk) (by rw [hp]; exact hrl.2) (by rw [hp]; exact hk)]
    obtain ⟨⟨tx, tp⟩, a3⟩ := hT
    obtain ⟨q1, q2⟩ := jk (p := t.p) (b := t.turned) (kk := true) tx hk hn
    have a4 : yd qW [(xJ "Factors" "x" (ieV 1)), (ieV 2)] ⟨[some (.v (tD a) false), some (.c 0), some (.v (.int (k : Nat)) true), some (.v (.int (r : Nat)) true)], luM t.x t.p t.turned⟩ = (match (Pv.span (k + 1) n).foldlM (Pv.cleared n k) t.x with | .ok x' => .nx ⟨[some (.v (tD a) false), some (.c 0), some (.v (.int (k : Nat)) true), some (.v (.int (r : Nat)) true)], luM x' t.p t.turned⟩ | .error z => ya z) := by
     show (match qW [.c 1, .v (.int (k : Nat)) true] (luM t.x t.p t.turned) with | .ok _ μ => vX.nx ⟨_, μ⟩ | .er c => .er c | .no => .no) = _
     rw [q1]
     cases (Pv.span (k + 1) n).foldlM (Pv.cleared n k) t.x with
     | ok x' => rfl
     | error z =>
      show (match qaO z with | .ok _ μ => vX.nx ⟨_, μ⟩ | .er c => .er c | .no => .no) = ya z
      unfold qaO ya
      by_cases c : z = -4
      ·rw [if_pos c, if_pos c]
      ·rw [if_neg c, if_neg c]
    cases hT : (Pv.span (k + 1) n).foldlM (Pv.cleared n k) t.x with
    | error z =>
     rw [hT] at a4
     refine ⟨fun s' e => (by cases e), fun z' e => ?_⟩
     cases e
     exact (vd a1).trans ((vd a2).trans ((vd a3).trans a4))
    | ok x' =>
     rw [hT] at a4
     refine ⟨fun s' e => ?_, fun z' e => (by cases e)⟩
     cases e
     exact ⟨_, (vd a1).trans ((vd a2).trans ((vd a3).trans a4)), ⟨q2 x' hT, tp⟩, _, _, rfl⟩) ⟨a, List.range n, false⟩ ⟨[some (.v (tD a) false), some (.c 0), none, none], luM a (List.range n) false⟩ ⟨⟨h, List.length_range⟩, none, none, rfl⟩
 have hlu : Pv.lu n a = (List.range n).foldlM (Pv.luStep n) ⟨a, List.range n, false⟩ := rfl
 have herr : ∀ (l : List Nat) (s : Pv.Lu) (z : Int), l.foldlM (Pv.luStep n) s = .error z -> z = -3 \/ z = -4 := by
  intro l
  induction l with
  | nil => intro s z e; cases e
  | cons k l ih =>
   intro s z e
   rw [List.foldlM_cons] at e
   cases e1 : Pv.luStep n s k with
   | ok s1 => rw [e1] at e; exact ih s1 z e
   | error z1 =>
    rw [e1] at e
    cases e
    rw [jC] at e1
    split at e1
    ·cases e1; exact .inr rfl
    ·cases e2 : (Pv.span (k + 1) n).foldlM (Pv.cleared n k) (Pv.exchanged s (Pv.pivot n k s.x) k).x with
     | ok x' => rw [e2] at e1; cases e1
     | error z2 =>
      rw [e2] at e1
      cases e1
      left
      clear ih
      have key : ∀ (l : List Nat) (x : Pv.Table), l.foldlM (Pv.cleared n k) x = .error z -> z = -3 := by
       intro l
       induction l with
       | nil => intro x e; cases e
       | cons i l ih =>
        intro x e
        rw [List.foldlM_cons] at e
        cases e1 : Pv.cleared n k x i with
        | ok x1 => rw [e1] at e; exact ih x1 e
        | error z1 =>
         rw [e1] at e
         cases e
         rw [uM] at e1
         cases hq : Pv.step (Pv.div (x.at_ i k) (x.at_ k k)) with
         | error z => rw [hq] at e1; cases e1; exact VZ hq
         | ok l =>
          rw [hq] at e1
          cases hr : (Pv.span (k + 1) n).mapM fun j => Pv.F (Pv.minus l) (x.at_ k j) (x.at_ i j) with
          | error z =>
           simp only [hr, bind, Except.bind] at e1
           cases e1
           obtain ⟨j, _, e3⟩ := uV hr
           exact qdp e3
          | ok r => simp only [hr, bind, Except.bind] at e1; cases e1
      exact key _ _ e2
 refine ⟨?_, fun s e => ?_, fun z e => herr _ _ z e⟩
 ·show QD (QS ⟨[some (.v (tD a) false), none, none, none], []⟩) = _
  unfold QS
  have h1 : X1 1 "Factors" vG [(ieV 0)] ⟨[some (.v (tD a) false), none, none, none], []⟩ = .nx ⟨[some (.v (tD a) false), some (.c 0), none, none], luM a (List.range n) false⟩ := by
   show (match vG [.c 0, .v (tD a) false] [.ins "Factors" [] []] with | .ok _ μ => vX.nx ⟨_, μ⟩ | .er c => .er c | .no => .no) = _
   rw [VB h.len (by lia)]
   rfl
  have hsrc : qS (vU (vB wV (qc (qa 0) qi))) ⟨[some (.v (tD a) false), some (.c 0), none, none], luM a (List.range n) false⟩ = .ok ((List.range n).map fun (k : Nat) => (D.int k, .nw)) := by
   unfold qS
   rw [zC (n := n) (k := .nw) ((yC (vQ rfl)).trans (by rw [List.length_map, h.len])) (by lia)]
   rfl
  rw [vd h1, hlu]
  cases hT : (List.range n).foldlM (Pv.luStep n) ⟨a, List.range n, false⟩ with
  | error z =>
   rw [xx ((w9 hsrc).trans (hfor.2 z hT)), jw]
   rfl
  | ok s =>
   obtain ⟨m', q1, _, u, v, rfl⟩ := hfor.1 s hT
   rw [vd ((w9 hsrc).trans q1)]
   show Zv (luM s.x s.p s.turned) (.c 0) = _
   unfold Zv
   rw [qes]
   rfl
 ·obtain ⟨m', q1, q2, u, v, rfl⟩ := hfor.1 s e
  exact q2
theorem J8 (R : Rs (D × Bool)) (f g : D × Bool -> Rs (D × Bool)) : (R.bind f).bind g = R.bind fun y => (f y).bind g := by cases R <;> rfl
noncomputable def dO {α : Type} (f : α -> vX) : Pv.Did α -> vX
 | .ok a => f a
 | .error z => ya z
noncomputable abbrev vh (y : List (List Nat)) (fl : List Bool) : List Itm := List.zipWith (fun r f => Itm.v (rD r) f) y fl
theorem qaX (μ : List Cell) (f : Nat) : ∀ (y : List (List Nat)) (fl : List Bool), fl.length = y.length -> (vh y fl).mapM (wg μ f) = some (y.map rD)
 | [], [], _ => rfl
 | r :: y, b :: fl, h => by
  show (Itm.v (rD r) b :: vh y fl).mapM (wg μ f) = _
  rw [List.mapM_cons, qaX μ f y fl (by simpa using h)]
  have e : wg μ f (.v (rD r) b) = some (rD r) := by cases f <;> rfl
  rw [e]
  rfl
 | [], _ :: _, h => nomatch h
 | _ :: _, [], h => nomatch h
theorem qdj (μ : List Cell) (f : Nat) : ∀ (y : List (List Nat)) (fl : List Bool), fl.length = y.length -> (∀ b ∈ fl, b = true) -> (vh y fl).mapM (zy μ f) = some (y.map rD)
 | [], [], _, _ => rfl
 | r :: y, b :: fl, h, hb => by
  have e0 := hb b List.mem_cons_self
  subst e0
  show (Itm.v (rD r) true :: vh y fl).mapM (zy μ f) = _
  rw [List.mapM_cons, qdj μ f y fl (by simpa using h) (fun b hb' => hb b (List.mem_cons_of_mem _ hb'))]
  have e : zy μ f (.v (rD r) true) = some (rD r) := by cases f <;> exact if_pos (.inr rfl)
  rw [e]
  rfl
 | [], _ :: _, h, _ => nomatch h
 | _ :: _, [], h, _ => nomatch h
theorem qdz (r : List Nat) : ∀ (y : List (List Nat)) (fl : List Bool) (i : Nat), (vh y fl).set i (.v (rD r) true) = vh (y.set i r) (fl.set i true)
 | [], _, _ => by simp [vh]
 | _ :: _, [], i => by cases i <;> simp [vh]
 | q :: y, b :: fl, 0 => rfl
 | q :: y, b :: fl, i + 1 => by
  show Itm.v (rD q) b :: (vh y fl).set i _ = Itm.v (rD q) b :: vh (y.set i r) (fl.set i true)
  rw [qdz r y fl i]
theorem UR (k : Bool) : ∀ y : List (List Nat), (y.map rD).map (fun d => Itm.v d k) = vh y (List.replicate y.length k)
 | [] => rfl
 | r :: y => by
  show Itm.v (rD r) k :: (y.map rD).map (fun d => Itm.v d k) = Itm.v (rD r) k :: vh y (List.replicate y.length k)
  rw [UR k y]
theorem jy {y : List (List Nat)} {fl : List Bool} (h : fl.length = y.length) (f : Nat) : wg [.lst (vh y fl)] (f + 1) (.c 0) = some (tD y) := by
 show ((vh y fl).mapM (wg _ f)).map D.lst = _
 rw [qaX _ f y fl h]
 rfl
theorem Xl {n m : Nat} {y : Pv.Table} (hy : Tb n m y) {i j : Nat} (hi : i < n) (hj : j < n) (l : Nat) : ((y.getD i []).zip (y.getD j [])).mapM (fun p => Pv.F (Pv.minus l) p.2 p.1) >>= (fun r => (.ok (y.set i r) : Pv.Did Pv.Table)) = Pv.rowLess m y i j l := by
 have wi : (y.getD i []).length = m := hy.wide _ (getD_mem [] (by rw [hy.len]; exact hi))
 have wj : (y.getD j []).length = m := hy.wide _ (getD_mem [] (by rw [hy.len]; exact hj))
 have e : (y.getD i []).zip (y.getD j []) = (List.range m).map fun c => (Pv.Table.at_ y i c, Pv.Table.at_ y j c) := by
  conv => lhs; rw [yS (y.getD i []) 0, wi, yS (y.getD j []) 0, wj]
  rw [VH]
  rfl
 rw [e, List.mapM_map]
 rfl
theorem uJ {n m : Nat} {y y' : Pv.Table} (hy : Tb n m y) {i j l : Nat} (h : Pv.rowLess m y i j l = .ok y') : Tb n m y' := by
 unfold Pv.rowLess at h
 cases hr : (List.range m).mapM fun c => Pv.F (Pv.minus l) (y.at_ j c) (y.at_ i c) with
 | error z => rw [hr] at h; cases h
 | ok r =>
  rw [hr] at h
  cases h
  refine hy.set i (by rw [xq hr, List.length_range]) fun v hv => ?_
  obtain ⟨c, _, e⟩ := ji hr v hv
  exact qfp e
theorem xB {m : Nat} {y : Pv.Table} {i j l : Nat} {z : Int} (h : Pv.rowLess m y i j l = .error z) : z = -3 := by
 unfold Pv.rowLess at h
 cases hr : (List.range m).mapM fun c => Pv.F (Pv.minus l) (y.at_ j c) (y.at_ i c) with
 | error z => rw [hr] at h; cases h; obtain ⟨c, _, e⟩ := uV hr; exact qdp e
 | ok r => rw [hr] at h; cases h
theorem XY {n m : Nat} {y y' : Pv.Table} (hy : Tb n m y) {i d : Nat} (h : Pv.rowOver m y i d = .ok y') : Tb n m y' := by
 unfold Pv.rowOver at h
 cases hr : (List.range m).mapM fun c => Pv.step (Pv.div (y.at_ i c) d) with
 | error z => rw [hr] at h; cases h
 | ok r =>
  rw [hr] at h
  cases h
  refine hy.set i (by rw [xq hr, List.length_range]) fun v hv => ?_
  obtain ⟨c, _, e⟩ := ji hr v hv
  cases e2 : Pv.div (y.at_ i c) d with
  | none => rw [e2] at e; cases e
  | some w => rw [e2] at e; cases e; exact X5 e2
theorem YB {m : Nat} {y : Pv.Table} {i d : Nat} {z : Int} (h : Pv.rowOver m y i d = .error z) : z = -3 := by
 unfold Pv.rowOver at h
 cases hr : (List.range m).mapM fun c => Pv.step (Pv.div (y.at_ i c) d) with
 | error z => rw [hr] at h; cases h; obtain ⟨c, _, e⟩ := uV hr; exact VZ e
 | ok r => rw [hr] at h; cases h
noncomputable abbrev uu (rx : RE) : RM := wm (ieV 2) (qa 3) (zV (qg qD (qc (qd oIx (qa 2) (qa 3)) (qc (qd oIx (qd oIx rx (qa 3)) (qa 4)) (qc (qd oIx (qa 2) (qa 4)) qi)))))
theorem qfb (s : List (Option Itm)) (xs : List Itm) : cellAt ⟨s, [.lst xs]⟩ (.c 0) = some (0, .lst xs) := rfl
theorem qah {y : List (List Nat)} {fl : List Bool} (h : fl.length = y.length) : (vh y fl).length = y.length := by
 unfold vh
 rw [List.length_zipWith, h, Nat.min_self]
theorem qdn {s : List (Option Itm)} {y : List (List Nat)} {fl : List Bool} {i : Nat} {r : RE} {α : Type} {x : Pv.Did α} {f : α -> List Nat} {k : α -> Kd} {n : Nat} (hs : s[2]? = some (some (.c 0))) (hi : s[3]? = some (some (.v (.int (i : Nat)) true))) (hf : fl.length = y.length) (hl : i < y.length) (h : r (qC ⟨s, [.lst (vh y fl)]⟩) = dK (fun a => (rD (f a), k a)) x) (hk : ∀ a, k a = .fr \/ k a = .nw) :
  wm (ieV 2) (qa 3) (zV r) ⟨s, [.lst (vh y fl)]⟩ = dO (fun a => .nx ⟨s, [.lst (vh (y.set i (f a)) (fl.set i true))]⟩) x := by
 unfold wm
 rw [QR (y := fun a => Itm.v (rD (f a)) true) h (fun a _ => by rcases hk a with q | q <;> (rw [q]; rfl)), Zq]
 cases x with
 | error z => rfl
 | ok a =>
  have e : ieV 2 ⟨s, [.lst (vh y fl)]⟩ = .ok (.c 0) := by show (match s[2]? with | some (some x) => _ | _ => _) = _; rw [hs]
  show mDo (ieV 2 ⟨s, [.lst (vh y fl)]⟩) _ = _
  rw [e]
  show mDo (qa 3 (qC ⟨s, [.lst (vh y fl)]⟩)) _ = _
  rw [vQ hi]
  show setCell ⟨s, [.lst (vh y fl)]⟩ (cellAt ⟨s, [.lst (vh y fl)]⟩ (.c 0)) (.int (i : Nat)) (Itm.v (rD (f a)) true) = _
  rw [qfb]
  show (match yh (vh y fl).length (i : Nat) with | some j => vX.nx ⟨s, [Cell.lst ((vh y fl).set j (Itm.v (rD (f a)) true))]⟩ | none => .no) = _
  rw [xC (by rw [qah hf]; exact hl)]
  show vX.nx ⟨s, [Cell.lst ((vh y fl).set i (Itm.v (rD (f a)) true))]⟩ = _
  rw [qdz]
  rfl
theorem Xb {n m N : Nat} {s : List (Option Itm)} {x y : List (List Nat)} {fl : List Bool} {i j : Nat} {rx : RE} {kx : Kd} (hx : Tb n N x) (hy : Tb n m y) (hm : m < 1000000) (hi : i < n) (hj : j < n) (hjN : j < N) (hs : s[2]? = some (some (.c 0))) (h3 : s[3]? = some (some (.v (.int (i : Nat)) true))) (h4 : s[4]? = some (some (.v (.int (j : Nat)) true))) (hf : fl.length = n)
  (hrx : rx (qC ⟨s, [.lst (vh y fl)]⟩) = .ok (tD x, kx)) : uu rx ⟨s, [.lst (vh y fl)]⟩ = dO (fun y' => .nx ⟨s, [.lst (vh y' (fl.set i true))]⟩) (Pv.rowLess m y i j (Pv.Table.at_ x i j)) := by
 have hfy : fl.length = y.length := by rw [hf, hy.len]
 have e2 : qa 2 (qC ⟨s, [.lst (vh y fl)]⟩) = .ok (tD y, .sh) := vP hs (jy hfy 2)
 have e3 : qa 3 (qC ⟨s, [.lst (vh y fl)]⟩) = .ok (.int (i : Nat), .sh) := vQ h3
 have e4 : qa 4 (qC ⟨s, [.lst (vh y fl)]⟩) = .ok (.int (j : Nat), .sh) := vQ h4
 have hil : i < y.length := by rw [hy.len]; exact hi
 have hjl : j < y.length := by rw [hy.len]; exact hj
 have a1 : qd oIx (qa 2) (qa 3) (qC ⟨s, [.lst (vh y fl)]⟩) = .ok (rD (y.getD i []), .sh) := (qj e2 e3).trans (yA (zY y i hil))
 have a2 : qd oIx (qa 2) (qa 4) (qC ⟨s, [.lst (vh y fl)]⟩) = .ok (rD (y.getD j []), .sh) := (qj e2 e4).trans (yA (zY y j hjl))
 have a3 := uS (n := N) hrx e3 e4 (by rw [hx.len]; exact hi) hx.wide hjN
 have hcall : qg qD (qc (qd oIx (qa 2) (qa 3)) (qc (qd oIx (qd oIx rx (qa 3)) (qa 4)) (qc (qd oIx (qa 2) (qa 4)) qi))) (qC ⟨s, [.lst (vh y fl)]⟩) = dK (fun r => (rD r, .fr)) (((y.getD i []).zip (y.getD j [])).mapM fun p => Pv.F (Pv.minus (Pv.Table.at_ x i j)) p.2 p.1) := by
  rw [qK (qh a1 (qh a3 (qh a2 qB)))]
  show (qD [rD (y.getD i []), .int (Pv.Table.at_ x i j : Nat), rD (y.getD j [])]).bind _ = _
  rw [jg (hy.b64 _ (getD_mem [] hil)) (hy.b64 _ (getD_mem [] hjl)) (hx.jn i j) (by rw [hy.wide _ (getD_mem [] hil)]; show m < 16777216; lia), yx]
  rfl
 show wm (ieV 2) (qa 3) (zV _) ⟨s, [.lst (vh y fl)]⟩ = _
 rw [qdn (n := n) (f := fun r => r) (k := fun _ => .fr) hs h3 hfy hil hcall (fun _ => .inl rfl), <- Xl hy hi hj]
 cases ((y.getD i []).zip (y.getD j [])).mapM fun p => Pv.F (Pv.minus (Pv.Table.at_ x i j)) p.2 p.1 <;> rfl
theorem WY {S : Type} (f : S -> Nat -> Pv.Did S) : ∀ (l : List Nat) (d : List Nat) (s : S), l.foldlM (fun (t : List Nat × S) i => (f t.2 i) >>= fun s' => (.ok (i :: t.1, s') : Pv.Did (List Nat × S))) (d, s) = (l.foldlM f s) >>= fun s' => .ok (l.reverse ++ d, s')
 | [], d, s => rfl
 | i :: l, d, s => by
  rw [List.foldlM_cons, List.foldlM_cons]
  show ((f s i) >>= fun s' => (.ok (i :: d, s') : Pv.Did (List Nat × S))) >>= _ = _
  cases e : f s i with
  | error z => rfl
  | ok s1 =>
   show l.foldlM _ (i :: d, s1) = _
   rw [WY f l (i :: d) s1]
   show _ = (l.foldlM f s1) >>= _
   rw [List.reverse_cons, List.append_assoc]
   rfl
noncomputable def zE : RM := (wY (Wj 2 (X4 (ieV 1))) (wY (uq (.one 3) (qS (yo (qd wD (vB wV (qc (qa 2) qi)) (rC (.int 1))) (rUn Qo (rC (.int 1))) (rUn Qo (rC (.int 1))))) (wY (uq (.one 4) (qS (wW (qd vx (qa 3) (rC (.int 1))) (vB wV (qc (qa 2) qi)))) (wm (ieV 2) (qa 3) (zV (qg qD (qc (qd oIx (qa 2) (qa 3)) (qc (qd oIx (qd oIx (qa 0) (qa 3)) (qa 4)) (qc (qd oIx (qa 2) (qa 4)) qi))))))) (wm (ieV 2) (qa 3) (zV (zS (.one 5) (iOf (qd oIx (qa 2) (qa 3))) zZ (qg vg (qc (qa 5) (qc (qd oIx (qd oIx (qa 0) (qa 3)) (qa 3)) qi))) [5]))))) (XX (ieV 2))))
noncomputable def v5 : Fn := fun ds => QD (zE ⟨ms0 ["x", "start", "y", "i", "j", "s"] (it0 ds), []⟩)
noncomputable def yR (n m : Nat) (x : Pv.Table) (z : Pv.Table) (i : Nat) : Pv.Did Pv.Table := ((Pv.span (i + 1) n).foldlM (fun (w : Pv.Table) (j : Nat) => Pv.rowLess m w i j (x.at_ i j)) z) >>= fun w => Pv.rowOver m w i (x.at_ i i)
theorem U1 (n m : Nat) (x y : Pv.Table) : Pv.backwards n m x y = (List.range n).reverse.foldlM (yR n m x) y := rfl
theorem JW {n : Nat} (h : n < 1000000) : Qm ((n : Int) - 1) (-1) (-1) = some ((List.range n).reverse.map fun (k : Nat) => (k : Int)) := by
 unfold Qm
 rw [if_pos ⟨by lia, by lia, by lia⟩, if_pos rfl]
 have e : ((n : Int) - 1 - -1).toNat = n := by lia
 rw [e]
 congr 1
 refine List.ext_getElem (by simp) fun i h1 h2 => ?_
 simp
 simp at h1
 lia
noncomputable abbrev vJt (i : Nat) : Option Itm := some (.v (.int i) true)
noncomputable abbrev bSt (A B : Itm) (a u v : Option Itm) : List (Option Itm) := [some A, some B, some (.c 0), a, u, v]
noncomputable abbrev bMS (A B : Itm) (a u v : Option Itm) (w : List (List Nat)) (fl : List Bool) : MS := ⟨bSt A B a u v, [.lst (vh w fl)]⟩
noncomputable abbrev yI (m : Nat) (x : Pv.Table) (i : Nat) (w : Pv.Table) (j : Nat) : Pv.Did Pv.Table := Pv.rowLess m w i j (Pv.Table.at_ x i j)
theorem yF {n m N : Nat} {x y : List (List Nat)} (hx : Tb n N x) (hN : n <= N) (hy : Tb n m y) (h0 : 0 < n) (hn : n < 1000) (hm : m < 1000) : v5 [tD x, tD y] = dB (fun t => (tD t, false)) (Pv.backwards n m x y) /\ (∀ t, Pv.backwards n m x y = .ok t -> Tb n m t) /\ (∀ z, Pv.backwards n m x y = .error z -> z = -3) := by
 generalize hA : Itm.v (tD x) false = A
 generalize hB : Itm.v (tD y) false = B
 have inner : ∀ (i : Nat), i < n -> ∀ (w : List (List Nat)) (fl : List Bool) (u v : Option Itm), Tb n m w -> fl.length = n ->
   (∀ w', (Pv.span (i + 1) n).foldlM (yI m x i) w = .ok w' -> Tb n m w' /\ ∃ fl' u', (fl'.length = n /\ ∀ j, fl.getD j false = true -> fl'.getD j false = true) /\ uq (.one 4) (qS (wW (qd vx (qa 3) (rC (.int 1))) (vB wV (qc (qa 2) qi)))) (uu (qa 0)) (bMS A B (vJt i) u v w fl) = .nx (bMS A B (vJt i) u' v w' fl')) /\
   (∀ z, (Pv.span (i + 1) n).foldlM (yI m x i) w = .error z -> z = -3 /\ uq (.one 4) (qS (wW (qd vx (qa 3) (rC (.int 1))) (vB wV (qc (qa 2) qi)))) (uu (qa 0)) (bMS A B (vJt i) u v w fl) = ya z) := by
  intro i hi w fl u v hw hfl
  have hfor := wM (tg := .one 4) (body := uu (qa 0)) (enc := fun (j : Nat) => (D.int j, Kd.nw)) (l := Pv.span (i + 1) n) (f := yI m x i)
   (J := fun w' ms => Tb n m w' /\ ∃ fl' u', (fl'.length = n /\ ∀ j, fl.getD j false = true -> fl'.getD j false = true) /\ ms = (bMS A B (vJt i) u' v w' fl')) (by
    rintro j hj w' ms ⟨hw', fl', u', ⟨hfl', hmono⟩, rfl⟩
    have hj := jb hj
    refine ⟨(bMS A B (vJt i) (vJt j) v w' fl'), rfl, ?_⟩
    have q : uu (qa 0) (bMS A B (vJt i) (vJt j) v w' fl') = dO (fun y' => .nx (bMS A B (vJt i) (vJt j) v y' (fl'.set i true))) (yI m x i w' j) := Xb (s := bSt A B (vJt i) (vJt j) v) (fl := fl') (rx := qa 0) (kx := .sh) hx hw' (by lia) hi hj.2 (by lia) rfl rfl rfl hfl' (by rw [<- hA]; exact vQ rfl)
    rw [q]
    cases e : yI m x i w' j with
    | error z => exact ⟨fun s' e' => (by cases e'), fun z' e' => (by cases e'; rfl)⟩
    | ok w2 =>
     refine ⟨fun s' e' => ?_, fun z' e' => (by cases e')⟩
     cases e'
     refine ⟨_, rfl, uJ hw' e, fl'.set i true, _, ⟨by rw [List.length_set]; exact hfl', fun j hj => ?_⟩, rfl⟩
     have := hmono j hj
     rw [List.getD_eq_getElem?_getD] at this ⊢
     by_cases c : i = j
     ·subst c
      rw [List.getElem?_set_self (by lia)]
      rfl
     ·rw [List.getElem?_set_ne c]
      exact this) w (bMS A B (vJt i) u v w fl) ⟨hw, fl, u, ⟨hfl, fun _ h => h⟩, rfl⟩
  have hsrc : qS (wW (qd vx (qa 3) (rC (.int 1))) (vB wV (qc (qa 2) qi))) (bMS A B (vJt i) u v w fl) = .ok ((Pv.span (i + 1) n).map fun (k : Nat) => (D.int k, .nw)) := by
   unfold qS
   rw [uD (i := i + 1) (j := n) (k := .nw) (l := .nw) ((qj (x := (.int (i : Nat), .sh)) (y := (.int 1, .nw)) (vQ rfl) rfl).trans (vy (by lia))) ((yC (vP (i := 2) rfl (jy (by rw [hfl, hw.len]) 2))).trans (by rw [List.length_map, hw.len])) (by lia) (by lia)]
   rfl
  refine ⟨fun w' e => ?_, fun z e => ⟨?_, (w9 hsrc).trans (hfor.2 z e)⟩⟩
  ·obtain ⟨m', q1, q2, fl', u', q3, rfl⟩ := hfor.1 w' e
   exact ⟨q2, fl', u', q3, (w9 hsrc).trans q1⟩
  ·have key : ∀ (l : List Nat) (w : Pv.Table), l.foldlM (yI m x i) w = .error z -> z = -3 := by
    intro l
    induction l with
    | nil => intro w e; cases e
    | cons j l ih =>
     intro w e
     rw [List.foldlM_cons] at e
     cases e1 : yI m x i w j with
     | error z1 => rw [e1] at e; cases e; exact xB e1
     | ok w1 => rw [e1] at e; exact ih w1 e
   exact key _ _ e
 have hfor := wM (tg := .one 3) (body := wY (uq (.one 4) (qS (wW (qd vx (qa 3) (rC (.int 1))) (vB wV (qc (qa 2) qi)))) (uu (qa 0))) (wm (ieV 2) (qa 3) (zV (zS (.one 5) (iOf (qd oIx (qa 2) (qa 3))) zZ (qg vg (qc (qa 5) (qc (qd oIx (qd oIx (qa 0) (qa 3)) (qa 3)) qi))) [5]))))
  (enc := fun (i : Nat) => (D.int i, Kd.nw)) (l := (List.range n).reverse) (f := fun (t : List Nat × Pv.Table) i => (yR n m x t.2 i) >>= fun s' => (.ok (i :: t.1, s') : Pv.Did (List Nat × Pv.Table)))
  (J := fun t ms => Tb n m t.2 /\ ∃ fl u v w, (fl.length = n /\ ∀ j ∈ t.1, fl.getD j false = true) /\ ms = (bMS A B u v w (t.2) fl)) (by
   rintro i hi ⟨done, z0⟩ ms ⟨hz, fl, u, v, w, ⟨hfl, hdone⟩, rfl⟩
   have hi : i < n := List.mem_range.mp (List.mem_reverse.mp hi)
   refine ⟨(bMS A B (vJt i) v w z0 fl), rfl, ?_⟩
   obtain ⟨n1, n2⟩ := inner i hi z0 fl v w hz hfl
   show (∀ s', (((Pv.span (i + 1) n).foldlM (yI m x i) z0 >>= fun w => Pv.rowOver m w i (Pv.Table.at_ x i i)) >>= fun s' => (.ok (i :: done, s') : Pv.Did (List Nat × Pv.Table))) = .ok s' -> _) /\ (∀ z, (((Pv.span (i + 1) n).foldlM (yI m x i) z0 >>= fun w => Pv.rowOver m w i (Pv.Table.at_ x i i)) >>= fun s' => (.ok (i :: done, s') : Pv.Did (List Nat × Pv.Table))) = .error z -> _)
   cases e1 : (Pv.span (i + 1) n).foldlM (yI m x i) z0 with
   | error z =>
    refine ⟨fun s' e => (by cases e), fun z' e => ?_⟩
    cases e
    exact xx (n2 z e1).2
   | ok w1 =>
    obtain ⟨hw1, fl1, u1, ⟨hfl1, hmono⟩, q1⟩ := n1 w1 e1
    change _ = vX.nx ⟨bSt A B (vJt i) u1 w, [.lst (vh w1 fl1)]⟩ at q1
    generalize hs : bSt A B (vJt i) u1 w = s at q1
    have hfy : fl1.length = w1.length := by rw [hfl1, hw1.len]
    have hil : i < w1.length := by rw [hw1.len]; exact hi
    have e2 : qa 2 (qC ⟨s, [.lst (vh w1 fl1)]⟩) = .ok (tD w1, .sh) := vP (by rw [<- hs]; rfl) (jy hfy 2)
    have e3 : qa 3 (qC ⟨s, [.lst (vh w1 fl1)]⟩) = .ok (.int (i : Nat), .sh) := vQ (by rw [<- hs]; rfl)
    have a1 : qd oIx (qa 2) (qa 3) (qC ⟨s, [.lst (vh w1 fl1)]⟩) = .ok (rD (w1.getD i []), .sh) := (qj e2 e3).trans (yA (zY w1 i hil))
    have wi := hw1.wide _ (getD_mem [] hil)
    have hcomp : zS (.one 5) (iOf (qd oIx (qa 2) (qa 3))) zZ (qg vg (qc (qa 5) (qc (qd oIx (qd oIx (qa 0) (qa 3)) (qa 3)) qi))) [5] (qC ⟨s, [.lst (vh w1 fl1)]⟩) = dK (fun r => (rD r, .fr)) ((List.range m).mapM fun c => Pv.step (Pv.div (Pv.Table.at_ w1 i c) (Pv.Table.at_ x i i))) := by
     refine (Vi (tg := .one 5) (enc := fun (v : Nat) => (D.int v, .sh)) (f := fun v => Pv.step (Pv.div v (Pv.Table.at_ x i i))) (k := .nw) (l := w1.getD i []) (b := true) ?_ (by rw [wi]; show m < 16777216; lia) ?_).trans ?_
     ·rw [X9 a1, List.map_map]
      rfl
     ·intro v hv
      have hv64 : v < 2 ^ 64 := hw1.b64 _ (getD_mem [] hil) v hv
      refine ⟨(clear (qC ⟨s, [.lst (vh w1 fl1)]⟩) [5]).set 5 (.val (.int v) true), rfl, ?_⟩
      rw [<- hs]
      have e0 : qa 0 ((clear (qC (bMS A B (vJt i) u1 w w1 fl1)) [5]).set 5 (.val (.int v) true)) = .ok (tD x, .sh) := by rw [<- hA]; rfl
      have e3' : qa 3 ((clear (qC (bMS A B (vJt i) u1 w w1 fl1)) [5]).set 5 (.val (.int v) true)) = .ok (.int (i : Nat), .sh) := rfl
      rw [qK (qh (x := (.int v, .nw)) rfl (qh (uS (n := N) e0 e3' e3' (by rw [hx.len]; exact hi) hx.wide (by lia)) qB))]
      show (vg [.int v, .int (Pv.Table.at_ x i i : Nat)]).bind _ = _
      rw [Vw (zG hv64) (zG (hx.jn i i)), Int.toNat_natCast, Int.toNat_natCast, Zg, yx]
      rfl
     ·rw [Xt 0, wi]
      rfl
    have q2 := qdn (n := n) (f := fun r => r) (k := fun _ => .fr) (s := s) (y := w1) (fl := fl1) (i := i) (by rw [<- hs]; rfl) (by rw [<- hs]; rfl) hfy hil hcomp (fun _ => .inl rfl)
    have hov : Pv.rowOver m w1 i (Pv.Table.at_ x i i) = ((List.range m).mapM fun c => Pv.step (Pv.div (Pv.Table.at_ w1 i c) (Pv.Table.at_ x i i))) >>= fun r => .ok (w1.set i r) := rfl
    show (∀ s', ((Pv.rowOver m w1 i (Pv.Table.at_ x i i)) >>= fun s' => (.ok (i :: done, s') : Pv.Did (List Nat × Pv.Table))) = .ok s' -> _) /\ (∀ z, ((Pv.rowOver m w1 i (Pv.Table.at_ x i i)) >>= fun s' => (.ok (i :: done, s') : Pv.Did (List Nat × Pv.Table))) = .error z -> _)
    cases e4 : Pv.rowOver m w1 i (Pv.Table.at_ x i i) with
    | error z =>
     refine ⟨fun s' e => (by cases e), fun z' e => ?_⟩
     cases e
     rw [hov] at e4
     cases hr : (List.range m).mapM fun c => Pv.step (Pv.div (Pv.Table.at_ w1 i c) (Pv.Table.at_ x i i)) with
     | ok r => rw [hr] at e4; cases e4
     | error z2 =>
      rw [hr] at e4 q2
      cases e4
      exact (vd q1).trans q2
    | ok w2 =>
     refine ⟨fun s' e => ?_, fun z' e => (by cases e)⟩
     cases e
     have hw2 := XY hw1 e4
     rw [hov] at e4
     cases hr : (List.range m).mapM fun c => Pv.step (Pv.div (Pv.Table.at_ w1 i c) (Pv.Table.at_ x i i)) with
     | error z2 => rw [hr] at e4; cases e4
     | ok r =>
      rw [hr] at e4 q2
      cases e4
      refine ⟨_, (vd q1).trans q2, hw2, fl1.set i true, _, _, _, ⟨by rw [List.length_set]; exact hfl1, fun j hj => ?_⟩, by rw [<- hs]⟩
      rw [List.getD_eq_getElem?_getD]
      by_cases c : i = j
      ·subst c
       rw [List.getElem?_set_self (by lia)]
       rfl
      ·rw [List.getElem?_set_ne c]
       have hj2 : j ∈ done := (List.mem_cons.mp hj).resolve_left fun z => c z.symm
       have := hmono j (hdone j hj2)
       rw [List.getD_eq_getElem?_getD] at this
       exact this) ([], y) (bMS A B none none none y (List.replicate y.length false)) ⟨hy, _, _, _, _, ⟨by rw [List.length_replicate, hy.len], fun j hj => nomatch hj⟩, rfl⟩
 have hfd := WY (yR n m x) (List.range n).reverse [] y
 rw [<- U1] at hfd
 have hsrc : qS (yo (qd wD (vB wV (qc (qa 2) qi)) (rC (.int 1))) (rUn Qo (rC (.int 1))) (rUn Qo (rC (.int 1)))) (bMS A B none none none y (List.replicate y.length false)) = .ok ((List.range n).reverse.map fun (k : Nat) => (D.int k, .nw)) := by
  unfold qS
  rw [Wa (i := (n : Int) - 1) (j := -1) (c := -1) (k1 := .nw) (k2 := .nw) (k3 := .nw) ((qj (y := (.int 1, .nw)) ((yC (vP (i := 2) rfl (jy (by rw [List.length_replicate]) 2))).trans (by rw [List.length_map, hy.len])) rfl).trans rfl) rfl rfl (JW (by lia)), List.map_map]
  rfl
 have h1 : Wj 2 (X4 (ieV 1)) ⟨[some A, some B, none, none, none, none], []⟩ = .nx (bMS A B none none none y (List.replicate y.length false)) := by
  rw [<- hB]
  show vX.nx ⟨_, [Cell.lst ((y.map rD).map fun d => Itm.v d false)]⟩ = _
  rw [UR]
  rfl
 refine ⟨?_, fun t e => ?_, fun z e => ?_⟩
 ·show QD (zE ⟨[some (.v (tD x) false), some (.v (tD y) false), none, none, none, none], []⟩) = _
  rw [hA, hB]
  unfold zE
  rw [vd h1]
  cases hT : Pv.backwards n m x y with
  | error z =>
   rw [hT] at hfd
   rw [xx ((w9 hsrc).trans (hfor.2 z hfd)), jw]
   rfl
  | ok t =>
   rw [hT] at hfd
   obtain ⟨m', q1, q2, fl, u, v, w, ⟨hfl, hd⟩, rfl⟩ := hfor.1 _ hfd
   rw [vd ((w9 hsrc).trans q1)]
   have ht : t.length = n := q2.len
   have hall : ∀ b ∈ fl, b = true := fun b hb => by
    obtain ⟨j, hj, rfl⟩ := List.mem_iff_getElem.mp hb
    have := hd j (by rw [List.reverse_reverse, List.append_nil]; exact List.mem_range.mpr (by lia))
    rw [List.getD_eq_getElem?_getD, List.getElem?_eq_getElem hj] at this
    exact this
   show Zv [.lst (vh t fl)] (.c 0) = _
   have e : zy [.lst (vh t fl)] 3 (.c 0) = some (tD t) := by
    show ((vh t fl).mapM (zy _ 2)).map D.lst = _
    rw [qdj _ 2 t fl (by rw [hfl, ht]) hall]
    rfl
   unfold Zv
   rw [e]
   show Rs.ok (tD t, (t.map rD).all D.sc) = .ok (tD t, false)
   cases t with
   | nil => exact absurd ht.symm (by show ¬ n = 0; lia)
   | cons r t => rfl
 ·rw [e] at hfd
  obtain ⟨m', q1, q2, _⟩ := hfor.1 _ hfd
  exact q2
 ·have key : ∀ (l : List Nat) (w : Pv.Table), l.foldlM (yR n m x) w = .error z -> z = -3 := by
   intro l
   induction l with
   | nil => intro w e; cases e
   | cons i l ih =>
    intro w e
    rw [List.foldlM_cons] at e
    cases e1 : yR n m x w i with
    | ok w1 => rw [e1] at e; exact ih w1 e
    | error z1 =>
     rw [e1] at e
     cases e
     unfold yR at e1
     cases e2 : (Pv.span (i + 1) n).foldlM (yI m x i) w with
     | ok w2 => rw [e2] at e1; exact YB e1
     | error z2 =>
      rw [e2] at e1
      cases e1
      have key2 : ∀ (l : List Nat) (w : Pv.Table), l.foldlM (yI m x i) w = .error z -> z = -3 := by
       intro l
       induction l with
       | nil => intro w e; cases e
       | cons j l ih =>
        intro w e
        rw [List.foldlM_cons] at e
        cases e1 : yI m x i w j with
        | error z1 => rw [e1] at e; cases e; exact xB e1
        | ok w1 => rw [e1] at e; exact ih w1 e
      exact key2 _ _ e2
  rw [U1] at e
  exact key _ _ e
theorem Xz {ra : RE} {rr : RA} {δ : Dl} {z : Int} (h : ra δ = erz z) : qc ra rr δ = erz z := by unfold qc; rw [h]; exact zK z _
theorem J1 {g : Fn} {r : RA} {δ : Dl} {z : Int} (h : r δ = erz z) : qg g r δ = erz z := by unfold qg; rw [h]; exact zK z _
theorem qaB {n r k : Nat} {p : List Nat} (hl : p.length = n) (hp : ∀ v ∈ p, v < n) (hr : r < n) (hk : k < n) : ∀ v ∈ Pv.swapped p r k 0, v < n := fun v hv => by
 unfold Pv.swapped at hv
 rcases List.mem_or_eq_of_mem_set hv with q | q
 ·rcases List.mem_or_eq_of_mem_set q with q | q
  ·exact hp v q
  ·rw [q]; exact hp _ (getD_mem 0 (by lia))
 ·rw [q]; exact hp _ (getD_mem 0 (by lia))
theorem qfJ {n : Nat} {a : Pv.Table} {s : Pv.Lu} (h : Pv.lu n a = .ok s) : s.p.length = n /\ ∀ v ∈ s.p, v < n := by
 have key : ∀ (l : List Nat) (s0 : Pv.Lu), (∀ k ∈ l, k < n) -> (s0.p.length = n /\ ∀ v ∈ s0.p, v < n) -> ∀ s, l.foldlM (Pv.luStep n) s0 = .ok s -> s.p.length = n /\ ∀ v ∈ s.p, v < n := by
  intro l
  induction l with
  | nil => intro s0 _ h0 s e; cases e; exact h0
  | cons k l ih =>
   intro s0 hl h0 s e
   rw [List.foldlM_cons] at e
   cases e1 : Pv.luStep n s0 k with
   | error z => rw [e1] at e; cases e
   | ok s1 =>
    rw [e1] at e
    refine ih s1 (fun j hj => hl j (List.mem_cons_of_mem _ hj)) ?_ s e
    have hk := hl k List.mem_cons_self
    have hr := YX (x := s0.x) hk
    rw [jC] at e1
    split at e1
    ·cases e1
    ·cases e2 : (Pv.span (k + 1) n).foldlM (Pv.cleared n k) (Pv.exchanged s0 (Pv.pivot n k s0.x) k).x with
     | error z => rw [e2] at e1; cases e1
     | ok x' =>
      rw [e2] at e1
      cases e1
      show (Pv.exchanged s0 (Pv.pivot n k s0.x) k).p.length = n /\ ∀ v ∈ (Pv.exchanged s0 (Pv.pivot n k s0.x) k).p, v < n
      by_cases c : Pv.pivot n k s0.x = k
      ·rw [U8 c]; exact h0
      ·rw [US c]
       refine ⟨?_, qaB h0.1 h0.2 hr.2 hk⟩
       show (Pv.swapped s0.p _ k 0).length = n
       unfold Pv.swapped
       rw [List.length_set, List.length_set]
       exact h0.1
 exact key (List.range n) ⟨a, List.range n, false⟩ (fun k hk => List.mem_range.mp hk) ⟨List.length_range, fun v hv => List.mem_range.mp hv⟩ s h
theorem Jq {β : Type} (f : β -> List Nat) : ∀ l : List β, wB (l.map fun x => (rD (f x), Kd.sh)) = .ok (vh (l.map f) (List.replicate l.length false))
 | [] => rfl
 | x :: l => by
  have ih := Jq f l
  show (xT (qE (rD (f x), Kd.sh))).bind (fun y => (wB (l.map fun x => (rD (f x), Kd.sh))).bind fun ys => .ok (y :: ys)) = _
  rw [ih]
  rfl
theorem qcc {n m : Nat} {b : Pv.Table} {p : List Nat} (hb : Tb n m b) (hl : p.length = n) (hp : ∀ v ∈ p, v < n) : p.map (fun v => b.getD v []) = Pv.rows n m b p := by
 unfold Pv.rows Pv.tableBy
 conv => lhs; rw [yS p 0, hl]
 rw [List.map_map]
 refine List.map_congr_left fun i hi => ?_
 have hi := List.mem_range.mp hi
 have hv : p.getD i 0 < n := hp _ (getD_mem 0 (by lia))
 have hw : (b.getD (p.getD i 0) []).length = m := hb.wide _ (getD_mem [] (by rw [hb.len]; exact hv))
 show b.getD (p.getD i 0) [] = _
 conv => lhs; rw [yS (b.getD (p.getD i 0) []) 0, hw]
 rfl
theorem qcY {n m : Nat} {b : Pv.Table} {p : List Nat} (hb : Tb n m b) : Tb n m (Pv.rows n m b p) := qaG fun i j => hb.jn _ _
theorem Xd {n m i : Nat} {x : Pv.Table} : ∀ (l : List Nat) (w w' : Pv.Table), Tb n m w -> l.foldlM (fun (z : Pv.Table) (j : Nat) => Pv.rowLess m z i j (x.at_ i j)) w = .ok w' -> Tb n m w'
 | [], w, w', h, e => by cases e; exact h
 | j :: l, w, w', h, e => by
  rw [List.foldlM_cons] at e
  cases e1 : Pv.rowLess m w i j (x.at_ i j) with
  | error z => rw [e1] at e; cases e
  | ok w1 => rw [e1] at e; exact Xd l w1 w' (uJ h e1) e
theorem Jj {m i : Nat} {x : Pv.Table} {z : Int} : ∀ (l : List Nat) (w : Pv.Table), l.foldlM (fun (z : Pv.Table) (j : Nat) => Pv.rowLess m z i j (x.at_ i j)) w = .error z -> z = -3
 | [], w, e => by cases e
 | j :: l, w, e => by
  rw [List.foldlM_cons] at e
  cases e1 : Pv.rowLess m w i j (x.at_ i j) with
  | error z => rw [e1] at e; cases e; exact xB e1
  | ok w1 => rw [e1] at e; exact Jj l w1 e
noncomputable def fwd (n m : Nat) (x y : Pv.Table) : Pv.Did Pv.Table := (List.range n).foldlM (fun (y : Pv.Table) (i : Nat) => (List.range i).foldlM (fun (z : Pv.Table) (j : Nat) => Pv.rowLess m z i j (x.at_ i j)) y) y
theorem uB (n m : Nat) (s : Pv.Lu) (b : Pv.Table) : Pv.solveBy n m s b = (fwd n m s.x (Pv.rows n m b s.p)) >>= fun y => Pv.backwards n m s.x y := rfl
noncomputable def yz : RM := (wY (Wj 2 (z9 (.one 5) (iOf (rUn (v8 "Factors" "p") (qa 0))) zZ (qd oIx (qa 1) (qa 5)) [5])) (wY (uq (.one 3) (qS (vU (vB wV (qc (qa 2) qi)))) (uq (.one 4) (qS (vU (qa 3))) (wm (ieV 2) (qa 3) (zV (qg qD (qc (qd oIx (qa 2) (qa 3)) (qc (qd oIx (qd oIx (rUn (v8 "Factors" "x") (qa 0)) (qa 3)) (qa 4)) (qc (qd oIx (qa 2) (qa 4)) qi)))))))) (XX (zV (qg v5 (qc (rUn (v8 "Factors" "x") (qa 0)) (qc (qa 2) qi)))))))
noncomputable def zL : Fn := fun ds => QD (yz ⟨ms0 ["factors", "b", "y", "i", "j", "r"] (it0 ds), []⟩)
theorem Y5 {n m : Nat} {x b : List (List Nat)} {p : List Nat} {t : Bool} (hx : Tb n n x) (hl : p.length = n) (hp : ∀ v ∈ p, v < n) (hb : Tb n m b) (h0 : 0 < n) (hn : n < 1000) (hm : m < 1000) : zL [luD x p t, tD b] = dB (fun t => (tD t, false)) (Pv.solveBy n m ⟨x, p, t⟩ b) /\ (∀ y, Pv.solveBy n m ⟨x, p, t⟩ b = .ok y -> Tb n m y) /\ (∀ z, Pv.solveBy n m ⟨x, p, t⟩ b = .error z -> z = -3) := by
 generalize hA : Itm.v (luD x p t) false = A
 generalize hB : Itm.v (tD b) false = B
 have hR := qcY (p := p) hb
 have hnew : Wj 2 (z9 (.one 5) (iOf (rUn (v8 "Factors" "p") (qa 0))) zZ (qd oIx (qa 1) (qa 5)) [5]) ⟨[some A, some B, none, none, none, none], []⟩ = .nx ⟨[some A, some B, some (.c 0), none, none, none], [.lst (vh (Pv.rows n m b p) (List.replicate n false))]⟩ := by
  have hsrc : iOf (rUn (v8 "Factors" "p") (qa 0)) (vL ⟨[some A, some B, none, none, none, none], []⟩) = .ok (true, p.map fun (v : Nat) => (D.int v, Kd.sh)) := by
   have e : rUn (v8 "Factors" "p") (qa 0) (vL ⟨[some A, some B, none, none, none, none], []⟩) = .ok (rD p, .sh) := (yV (x := (luD x p t, .sh)) (by rw [<- hA]; rfl)).trans rfl
   rw [X9 e, List.map_map]
   rfl
  have hn1 : z9 (.one 5) (iOf (rUn (v8 "Factors" "p") (qa 0))) zZ (qd oIx (qa 1) (qa 5)) [5] ⟨[some A, some B, none, none, none, none], []⟩ = .ok (vh (Pv.rows n m b p) (List.replicate n false)) := by
   unfold z9
   rw [hsrc, Rs.ve, if_pos (by rw [List.length_map, hl]; show n < 16777216; lia)]
   rw [u7 (f := fun v => .ok v) (dec := fun v => (rD (b.getD v []), .sh)) (fun v hv => by
    refine ⟨[zN (some A), zN (some B), .un, .un, .un, .val (.int v) true], rfl, ?_⟩
    rw [qj (x := (tD b, .sh)) (y := (.int v, .nw)) (by rw [<- hB]; rfl) rfl]
    exact yA (zY b v (by rw [hb.len]; exact hp v hv))), yw]
   show wB ((p.map fun v => v).map fun v => (rD (b.getD v []), Kd.sh)) = _
   rw [List.map_id', Jq (fun v => b.getD v []), qcc hb hl hp, hl]
  unfold Wj
  rw [hn1]
  rfl
 have inner : ∀ (i : Nat), i < n -> ∀ (w : List (List Nat)) (fl : List Bool) (u v : Option Itm), Tb n m w -> fl.length = n ->
   (∀ w', (List.range i).foldlM (fun (z : Pv.Table) (j : Nat) => Pv.rowLess m z i j (Pv.Table.at_ x i j)) w = .ok w' -> ∃ fl' u', fl'.length = n /\ uq (.one 4) (qS (vU (qa 3))) (uu (rUn (v8 "Factors" "x") (qa 0))) ⟨[some A, some B, some (.c 0), some (.v (.int (i : Nat)) true), u, v], [.lst (vh w fl)]⟩ = .nx ⟨[some A, some B, some (.c 0), some (.v (.int (i : Nat)) true), u', v], [.lst (vh w' fl')]⟩) /\
   (∀ z, (List.range i).foldlM (fun (z : Pv.Table) (j : Nat) => Pv.rowLess m z i j (Pv.Table.at_ x i j)) w = .error z -> uq (.one 4) (qS (vU (qa 3))) (uu (rUn (v8 "Factors" "x") (qa 0))) ⟨[some A, some B, some (.c 0), some (.v (.int (i : Nat)) true), u, v], [.lst (vh w fl)]⟩ = ya z) := by
  intro i hi w fl u v hw hfl
  have hfor := wM (tg := .one 4) (body := uu (rUn (v8 "Factors" "x") (qa 0))) (enc := fun (j : Nat) => (D.int j, Kd.nw)) (l := List.range i) (f := fun (w : Pv.Table) (j : Nat) => Pv.rowLess m w i j (Pv.Table.at_ x i j))
   (J := fun w' ms => Tb n m w' /\ ∃ fl' u', fl'.length = n /\ ms = ⟨[some A, some B, some (.c 0), some (.v (.int (i : Nat)) true), u', v], [.lst (vh w' fl')]⟩) (by
    rintro j hj w' ms ⟨hw', fl', u', hfl', rfl⟩
    have hj := List.mem_range.mp hj
    refine ⟨⟨[some A, some B, some (.c 0), some (.v (.int (i : Nat)) true), some (.v (.int (j : Nat)) true), v], [.lst (vh w' fl')]⟩, rfl, ?_⟩
    have q := Xb (s := [some A, some B, some (.c 0), some (.v (.int (i : Nat)) true), some (.v (.int (j : Nat)) true), v]) (fl := fl') (rx := rUn (v8 "Factors" "x") (qa 0)) (kx := .sh) hx hw' (by lia) hi (show j < n by lia) (by lia) rfl rfl rfl hfl' ((yV (x := (luD x p t, .sh)) (by rw [<- hA]; exact vQ rfl)).trans rfl)
    rw [q]
    cases e : Pv.rowLess m w' i j (Pv.Table.at_ x i j) with
    | error z => exact ⟨fun s' e' => (by cases e'), fun z' e' => (by cases e'; rfl)⟩
    | ok w2 =>
     refine ⟨fun s' e' => ?_, fun z' e' => (by cases e')⟩
     cases e'
     exact ⟨_, rfl, uJ hw' e, fl'.set i true, _, by rw [List.length_set]; exact hfl', rfl⟩) w ⟨[some A, some B, some (.c 0), some (.v (.int (i : Nat)) true), u, v], [.lst (vh w fl)]⟩ ⟨hw, fl, u, hfl, rfl⟩
  have hsrc : qS (vU (qa 3)) ⟨[some A, some B, some (.c 0), some (.v (.int (i : Nat)) true), u, v], [.lst (vh w fl)]⟩ = .ok ((List.range i).map fun (k : Nat) => (D.int k, .nw)) := by
   unfold qS
   rw [zC (n := i) (k := .sh) (vQ rfl) (by lia)]
   rfl
  refine ⟨fun w' e => ?_, fun z e => (w9 hsrc).trans (hfor.2 z e)⟩
  obtain ⟨m', q1, q2, fl', u', q3, rfl⟩ := hfor.1 w' e
  exact ⟨fl', u', q3, (w9 hsrc).trans q1⟩
 have hfor := wM (tg := .one 3) (body := uq (.one 4) (qS (vU (qa 3))) (uu (rUn (v8 "Factors" "x") (qa 0)))) (enc := fun (i : Nat) => (D.int i, Kd.nw)) (l := List.range n) (f := fun (y : Pv.Table) (i : Nat) => (List.range i).foldlM (fun (z : Pv.Table) (j : Nat) => Pv.rowLess m z i j (Pv.Table.at_ x i j)) y)
  (J := fun y ms => Tb n m y /\ ∃ fl u v, fl.length = n /\ ms = ⟨[some A, some B, some (.c 0), u, v, none], [.lst (vh y fl)]⟩) (by
   rintro i hi y ms ⟨hy, fl, u, v, hfl, rfl⟩
   have hi := List.mem_range.mp hi
   refine ⟨⟨[some A, some B, some (.c 0), some (.v (.int (i : Nat)) true), v, none], [.lst (vh y fl)]⟩, rfl, ?_⟩
   obtain ⟨n1, n2⟩ := inner i hi y fl v none hy hfl
   refine ⟨fun y' e => ?_, fun z e => n2 z e⟩
   obtain ⟨fl', u', h1, h2⟩ := n1 y' e
   exact ⟨_, h2, Xd _ _ _ hy e, fl', _, _, h1, rfl⟩) (Pv.rows n m b p) ⟨[some A, some B, some (.c 0), none, none, none], [.lst (vh (Pv.rows n m b p) (List.replicate n false))]⟩ ⟨hR, _, _, _, List.length_replicate, rfl⟩
 have hfwd : fwd n m x (Pv.rows n m b p) = (List.range n).foldlM (fun (y : Pv.Table) (i : Nat) => (List.range i).foldlM (fun (z : Pv.Table) (j : Nat) => Pv.rowLess m z i j (Pv.Table.at_ x i j)) y) (Pv.rows n m b p) := rfl
 have ferr : ∀ (l : List Nat) (y : Pv.Table) (z : Int), l.foldlM (fun (y : Pv.Table) (i : Nat) => (List.range i).foldlM (fun (z : Pv.Table) (j : Nat) => Pv.rowLess m z i j (Pv.Table.at_ x i j)) y) y = .error z -> z = -3 := by
  intro l
  induction l with
  | nil => intro y z e; cases e
  | cons i l ih =>
   intro y z e
   rw [List.foldlM_cons] at e
   cases e1 : (List.range i).foldlM (fun (z : Pv.Table) (j : Nat) => Pv.rowLess m z i j (Pv.Table.at_ x i j)) y with
   | error z1 => rw [e1] at e; cases e; exact Jj _ _ e1
   | ok y1 => rw [e1] at e; exact ih y1 z e
 have hsrc : qS (vU (vB wV (qc (qa 2) qi))) ⟨[some A, some B, some (.c 0), none, none, none], [.lst (vh (Pv.rows n m b p) (List.replicate n false))]⟩ = .ok ((List.range n).map fun (k : Nat) => (D.int k, .nw)) := by
  unfold qS
  rw [zC (n := n) (k := .nw) ((yC (vP (i := 2) rfl (jy (by rw [List.length_replicate, hR.len]) 2))).trans (by rw [List.length_map, hR.len])) (by lia)]
  rfl
 refine ⟨?_, fun y e => ?_, fun z e => ?_⟩
 ·show QD (yz ⟨[some (.v (luD x p t) false), some (.v (tD b) false), none, none, none, none], []⟩) = _
  rw [hA, hB]
  unfold yz
  rw [vd hnew, uB]
  show _ = dB _ ((fwd n m x (Pv.rows n m b p)) >>= fun y => Pv.backwards n m x y)
  cases hT : fwd n m x (Pv.rows n m b p) with
  | error z =>
   rw [xx ((w9 hsrc).trans (hfor.2 z hT)), jw]
   rfl
  | ok y =>
   obtain ⟨m', q1, hy, fl, u, v, hfl, rfl⟩ := hfor.1 y hT
   rw [vd ((w9 hsrc).trans q1)]
   obtain ⟨b1, b2, b3⟩ := yF hx (Nat.le_refl _) hy h0 hn hm
   have hcall : qg v5 (qc (rUn (v8 "Factors" "x") (qa 0)) (qc (qa 2) qi)) (qC ⟨[some A, some B, some (.c 0), u, v, none], [.lst (vh y fl)]⟩) = dK (fun t => (tD t, .nw)) (Pv.backwards n m x y) := by
    rw [qK (qh (x := (tD x, .sh)) ((yV (x := (luD x p t, .sh)) (by rw [<- hA]; exact vQ rfl)).trans rfl) (qh (vP (i := 2) rfl (jy (by rw [hfl, hy.len]) 2)) qB))]
    show (v5 [tD x, tD y]).bind _ = _
    rw [b1, yx]
    rfl
   show QD (XX (zV _) _) = dB _ (Pv.backwards n m x y)
   unfold XX
   rw [QR (y := fun t => Itm.v (tD t) true) hcall (fun a _ => rfl), Zq]
   cases Pv.backwards n m x y with
   | error z => exact jw z
   | ok r => rfl
 ·rw [uB] at e
  cases hT : fwd n m x (Pv.rows n m b p) with
  | error z => simp only [hT, bind, Except.bind] at e; cases e
  | ok y1 =>
   simp only [hT, bind, Except.bind] at e
   obtain ⟨m', q1, hy, _⟩ := hfor.1 y1 hT
   exact (yF hx (Nat.le_refl _) hy h0 hn hm).2.1 y e
 ·rw [uB] at e
  cases hT : fwd n m x (Pv.rows n m b p) with
  | error z' => simp only [hT, bind, Except.bind] at e; cases e; exact ferr _ _ _ hT
  | ok y1 =>
   simp only [hT, bind, Except.bind] at e
   obtain ⟨m', q1, hy, _⟩ := hfor.1 y1 hT
   exact (yF hx (Nat.le_refl _) hy h0 hn hm).2.2 z e
noncomputable def zB : RS := (v7 (qg zL (qc (qg yX (qc (qa 0) qi)) (qc (qa 1) qi))))
noncomputable def yb : Fn := fun ds => res (zB (sl0 ["a", "b"] ds))
theorem uI {n m : Nat} {a b : List (List Nat)} (ha : Tb n n a) (hb : Tb n m b) (h0 : 0 < n) (hn : n < 1000) (hm : m < 1000) : yb [tD a, tD b] = dB (fun t => (tD t, false)) (Pv.solve n m a b) /\ (∀ y, Pv.solve n m a b = .ok y -> Tb n m y) /\ (∀ z, Pv.solve n m a b = .error z -> z = -3 \/ z = -4) := by
 obtain ⟨c1, c2, c3⟩ := qcx ha h0 hn
 have hs : Pv.solve n m a b = (Pv.lu n a) >>= fun s => Pv.solveBy n m s b := rfl
 rw [hs]
 have hcall : qg yX (qc (qa 0) qi) [.val (tD a) false, .val (tD b) false] = dK (fun s => (luD s.x s.p s.turned, .nw)) (Pv.lu n a) := by
  rw [qK (qh (x := (tD a, .sh)) rfl qB)]
  show (yX [tD a]).bind _ = _
  rw [c1, yx]
  rfl
 cases hL : Pv.lu n a with
 | error z =>
  rw [hL] at hcall
  refine ⟨?_, fun y e => (by cases e), fun z' e => (by cases e; exact c3 z hL)⟩
  show res (zB [.val (tD a) false, .val (tD b) false]) = erz z
  unfold zB
  refine xw (α := Unit) (f := fun _ => .non) (x := .error z) rfl ?_
  exact J1 (Xz hcall)
 | ok s =>
  rw [hL] at hcall
  obtain ⟨hx, _⟩ := c2 s hL
  obtain ⟨hl, hp⟩ := qfJ hL
  obtain ⟨b1, b2, b3⟩ := Y5 (t := s.turned) hx hl hp hb h0 hn hm
  refine ⟨?_, b2, fun z e => .inl (b3 z e)⟩
  show res (zB [.val (tD a) false, .val (tD b) false]) = _
  unfold zB
  refine xw rfl (Zs (f := fun t => (tD t, false)) (qh hcall (qh (x := (tD b, .sh)) rfl qB)) ?_)
  exact b1
noncomputable def z3 : RS := (v7 (qg yb (qc (qa 0) (qc (qg wK (qc (vB wV (qc (qa 0) qi)) qi)) qi))))
noncomputable def zt : Fn := fun ds => res (z3 (sl0 ["a"] ds))
theorem W5 {n : Nat} {a : List (List Nat)} (ha : Tb n n a) (h0 : 0 < n) (hn : n < 1000) : zt [tD a] = dB (fun t => (tD t, false)) (Pv.solve n n a (Pv.unit_ n)) := by
 show res (z3 [.val (tD a) false]) = _
 unfold z3
 have hu : qg wK (qc (vB wV (qc (qa 0) qi)) qi) [.val (tD a) false] = .ok (tD (Pv.unit_ n), .nw) := by
  rw [qK (qh ((yC (r := qa 0) (k := .sh) rfl).trans (by rw [List.length_map, ha.len])) qB)]
  show (wK [.int n]).bind _ = _
  rw [Xe h0 (by lia)]
  rfl
 exact xw rfl (Zs (f := fun t => (tD t, false)) (qh (x := (tD a, .sh)) rfl (qh hu qB)) (uI ha (ZP n) h0 hn hn).1)
noncomputable def qem : List Int -> List (List Int) -> PvCalls.Call
 | [n], [a] => .inverse n.toNat (nats a)
 | _, _ => .trace 0 []
noncomputable def zD : Fn := j6 [false, true] qem
noncomputable def xg : RE := qg zh (qc (qg zt (qc (qg zH (qc (qa 0) (qc (qa 1) qi))) qi)) qi)
theorem Xn (ds : List D) : zD ds = .no \/ xg (sl0 ["n", "a"] ds) = (zD ds).bind kOf := by
 refine qaz (fun is ls h1 h2 g => ?_) ds
 obtain ⟨n, rfl⟩ := qcO h1
 obtain ⟨a, rfl⟩ := qcO h2
 have hn := g.1 n (by simp)
 obtain ⟨ha, la⟩ := g.2 a (by simp)
 show xg [.val (.int n) false, .val (.lst (a.map .int)) false] = _
 unfold xg
 rw [qdu (qdu (call_K (qh (x := (.int n, .sh)) rfl (qh (x := (.lst (a.map .int), .sh)) rfl qB))))]
 refine congrArg (fun R => Rs.bind R kOf) ?_
 rw [J8]
 refine YI (c := qem [n] [a]) (x := Pv.solve n.toNat n.toNat (PvCalls.tableOf n.toNat n.toNat (nats a)) (Pv.unit_ n.toNat)) (f := PvCalls.table) hn ha la rfl rfl fun q1 q2 q3 q4 => ?_
 have hT : Tb n.toNat n.toNat (PvCalls.tableOf n.toNat n.toNat (nats a)) := Vt (Jb ha)
 obtain ⟨p1, p2, p3⟩ := uI hT (ZP n.toNat) (by lia) (by lia) (by lia)
 show ((zt [tD (PvCalls.tableOf n.toNat n.toNat (nats a))]).bind _) = _
 rw [W5 hT (by lia) (by lia)]
 have hl : n.toNat * n.toNat <= 16 * 16 := Nat.mul_le_mul q2 q2
 exact qa2 p2 (by lia) p3
theorem Y1 {n : Nat} {a : List Nat} (ha : R64 a) : Few (PvCalls.answer (.inverse n a)) := qeG fun g => by
 have g : PvCalls.size n = true := g
 obtain ⟨g1, g2⟩ := size_pos g
 obtain ⟨p1, p2, p3⟩ := uI (Vt (m := n) (n := n) ha) (ZP n) (by lia) (by lia) (by lia)
 exact qdd p2 (Ju g g) p3
theorem Yg {n : Int} {a : List Int} (hn : U64 n) (ha : jc a) (la : a.length <= 300) :
  Yv LL (zD [.int n, .lst (a.map .int)]) = some ((PyYqpvta.inverse n a).map D.int) /\ ((PyYqpvta.inverse n a).map D.int).length <= LIM := by
 refine qa3 (sh := [false, true]) (F := qem) (is := [n]) (ls := [a]) (c := [[16, n], a]) rfl rfl ⟨by intro i hi; simp at hi; subst hi; assumption, by intro l hl; simp at hl; subst hl; exact ⟨ha, la⟩⟩ ?_ (Y1 (Jb ha))
 have q : TableNeutral.callOf [[16, n], a] = (do some (.inverse (<- TableNeutral.nat n) (<- a.mapM TableNeutral.nat))) := rfl
 rw [q, YC hn, Xa ha]
 rfl
end Gr
namespace L2.Ir
open PySem PySem.Spec PyProof.Rows
section
variable (mg : Str -> Option Value) (K : PySem.W.Frag) (Gl : Addr -> Prop) (κ : List Addr) (H : Hp)
noncomputable def ItR : V -> Itm -> Prop
 | w, .v d k => Rp mg K (fun a => a ∉ κ /\ (k = true -> Gl a)) H w d
 | w, .c n => ∃ p, κ[n]? = some p /\ w = .ref p
noncomputable def Its : List V -> List Itm -> Prop
 | [], [] => True
 | w :: vs, x :: xs => ItR mg K Gl κ H w x /\ Its vs xs
 | _, _ => False
noncomputable def Yc (p : Addr) : Cell -> Prop
 | .lst xs => ∃ vs, H p = some (.lst vs) /\ Its mg K Gl κ H vs xs
 | .ins c ns xs => ∃ C dx vs, mg c = some (.ref C) /\ H p = some (.ins C dx (ns.zip vs)) /\ ns.length = vs.length /\ Its mg K Gl κ H vs xs
structure Mem (μ : List Cell) : Prop where
 nd : κ.Nodup
 len : κ.length = μ.length
 cel : ∀ (n : Nat) (p : Addr) (x : Cell), κ[n]? = some p -> μ[n]? = some x -> Yc mg K Gl κ H p x
 gl : ∀ a : Addr, H a = none -> Gl a
structure MR (σ : St) (m : MS) : Prop where
 mem : Mem mg K Gl κ H m.μ
 len : σ.length = m.s.length
 sl : ∀ (i : Nat) (x : Itm), m.s[i]? = some (some x) -> ∃ w, σ[i]? = some (some w) /\ ItR mg K Gl κ H w x
end
structure Ext (κ : List Addr) (H : Hp) (κ' : List Addr) (H' : Hp) : Prop where
 pre : ∀ (n : Nat) (p : Addr), κ[n]? = some p -> κ'[n]? = some p
 old : ∀ p ∈ κ', p ∈ κ \/ H p = none
 keep : ∀ (a : Addr) (o : HO), H a = some o -> a ∉ κ -> H' a = some o
section
variable {mg : Str -> Option Value} {K : PySem.W.Frag} {Gl : Addr -> Prop} {κ κ' κ1 : List Addr} {H H' H1 : Hp} {μ : List Cell} {σ : St} {m : MS} {w : V} {x : Itm}
theorem Ext.same (s : qw H H') : Ext κ H κ H' := ⟨fun _ _ e => e, fun _ h => .inl h, fun a o e _ => s a o e⟩
theorem Ext.refl : Ext κ H κ H := Ext.same fun _ _ e => e
theorem Ext.trans (a : Ext κ H κ1 H1) (b : Ext κ1 H1 κ' H') : Ext κ H κ' H' := by
 refine ⟨fun n p e => b.pre n p (a.pre n p e), fun p h => ?_, fun c o e n => ?_⟩
 ·rcases b.old p h with h | h
  ·exact a.old p h
  ·by_cases c : p ∈ κ
   ·exact .inl c
   ·right
    cases e : H p with
    | none => rfl
    | some o =>
     have := a.keep p o e c
     rw [h] at this
     cases this
 ·refine b.keep c o (a.keep c o e n) fun z => ?_
  rcases a.old c z with q | q
  ·exact n q
  ·rw [e] at q
   cases q
theorem ItR.ext (e : Ext κ H κ' H') : ∀ {w : V} {x : Itm}, ItR mg K Gl κ H w x -> ItR mg K Gl κ' H' w x
 | w, .v d k, h => by
  refine Rp.mono (fun a g => ?_) d w (Rp.there _ _ h)
  obtain ⟨⟨g1, g2⟩, n⟩ := g
  refine ⟨⟨fun z => ?_, g2⟩, fun o q => e.keep a o q g1⟩
  rcases e.old a z with q | q
  ·exact g1 q
  ·exact n q
 | w, .c n, h => by
  obtain ⟨p, h1, h2⟩ := h
  exact ⟨p, e.pre n p h1, h2⟩
theorem Its.ext (e : Ext κ H κ' H') : ∀ {vs : List V} {xs : List Itm}, Its mg K Gl κ H vs xs -> Its mg K Gl κ' H' vs xs
 | [], [], _ => trivial
 | _ :: _, _ :: _, h => ⟨h.1.ext e, Its.ext e h.2⟩
 | [], _ :: _, h => h.elim
 | _ :: _, [], h => h.elim
theorem Its.len : ∀ {vs : List V} {xs : List Itm}, Its mg K Gl κ H vs xs -> vs.length = xs.length
 | [], [], _ => rfl
 | _ :: _, _ :: _, h => by rw [List.length_cons, List.length_cons, Its.len h.2]
 | [], _ :: _, h => h.elim
 | _ :: _, [], h => h.elim
theorem Its.get : ∀ {vs : List V} {xs : List Itm} {i : Nat} {x : Itm}, Its mg K Gl κ H vs xs -> xs[i]? = some x -> ∃ w, vs[i]? = some w /\ ItR mg K Gl κ H w x
 | [], [], _, _, _, e => by simp at e
 | w :: _, y :: _, 0, _, h, e => by simp at e; subst e; exact ⟨w, rfl, h.1⟩
 | _ :: _, _ :: _, i + 1, x, h, e => by
  obtain ⟨w, q1, q2⟩ := Its.get (i := i) (x := x) h.2 (by simpa using e)
  exact ⟨w, by simpa using q1, q2⟩
 | [], _ :: _, _, _, h, _ => h.elim
 | _ :: _, [], _, _, h, _ => h.elim
theorem Its.set {w : V} {x : Itm} (hx : ItR mg K Gl κ H w x) : ∀ {vs : List V} {xs : List Itm} (j : Nat), Its mg K Gl κ H vs xs -> Its mg K Gl κ H (vs.set j w) (xs.set j x)
 | [], [], _, _ => trivial
 | _ :: _, _ :: _, 0, h => ⟨hx, h.2⟩
 | _ :: _, _ :: _, j + 1, h => ⟨h.1, Its.set hx j h.2⟩
 | [], _ :: _, _, h => h.elim
 | _ :: _, [], _, h => h.elim
theorem Its.append : ∀ {vs us : List V} {xs ys : List Itm}, Its mg K Gl κ H vs xs -> Its mg K Gl κ H us ys -> Its mg K Gl κ H (vs ++ us) (xs ++ ys)
 | [], _, [], _, _, h => h
 | _ :: _, _, _ :: _, _, h, h2 => ⟨h.1, Its.append h.2 h2⟩
 | [], _, _ :: _, _, h, _ => h.elim
 | _ :: _, _, [], _, h, _ => h.elim
theorem Its.vals {k : Bool} : ∀ {vs : List V} {ds : List D}, qt mg K (fun a => a ∉ κ /\ (k = true -> Gl a)) H vs ds -> Its mg K Gl κ H vs (ds.map fun d => Itm.v d k)
 | _, _, .nil => trivial
 | _, _, .cons a b => ⟨a, Its.vals b⟩
theorem Yc.some {p : Addr} {x : Cell} (h : Yc mg K Gl κ H p x) : H p ≠ none := by
 cases x with
 | lst xs => obtain ⟨vs, e, _⟩ := h; rw [e]; exact fun z => nomatch z
 | ins c ns xs => obtain ⟨C, dx, vs, _, e, _⟩ := h; rw [e]; exact fun z => nomatch z
theorem Mem.at_ (M : Mem mg K Gl κ H μ) {p : Addr} (h : p ∈ κ) : H p ≠ none := by
 obtain ⟨n, hn, e⟩ := List.mem_iff_getElem.mp h
 have e1 : κ[n]? = .some p := by rw [List.getElem?_eq_getElem hn, e]
 have hm : n < μ.length := by rw [<- M.len]; exact hn
 exact (M.cel n p μ[n] e1 (List.getElem?_eq_getElem hm)).some
theorem Yc.ext {p : Addr} {x : Cell} (e : Ext κ H κ' H') (hp : H' p = H p) (h : Yc mg K Gl κ H p x) : Yc mg K Gl κ' H' p x := by
 cases x with
 | lst xs => obtain ⟨vs, q, r⟩ := h; exact ⟨vs, hp.trans q, r.ext e⟩
 | ins c ns xs => obtain ⟨C, dx, vs, a, q, l, r⟩ := h; exact ⟨C, dx, vs, a, hp.trans q, l, r.ext e⟩
theorem Mem.more (M : Mem mg K Gl κ H μ) (s : qw H H') : Mem mg K Gl κ H' μ := by
 refine ⟨M.nd, M.len, fun n p x e1 e2 => ?_, fun a h => M.gl a (s.free h)⟩
 have q := M.cel n p x e1 e2
 refine q.ext (Ext.same s) ?_
 cases e : H p with
 | none => exact absurd e q.some
 | some o => exact s p o e
theorem MR.more (R : MR mg K Gl κ H σ m) (s : qw H H') : MR mg K Gl κ H' σ m :=
 ⟨R.mem.more s, R.len, fun i x e => let ⟨w, a, b⟩ := R.sl i x e; ⟨w, a, b.ext (Ext.same s)⟩⟩
theorem qay {α : Type} : ∀ {l : List α} {i j : Nat} {a : α}, l.Nodup -> l[i]? = some a -> l[j]? = some a -> i = j
 | [], i, _, _, _, h, _ => by simp at h
 | x :: l, 0, 0, _, _, _, _ => rfl
 | x :: l, 0, j + 1, a, n, h1, h2 => by
  simp at h1 h2
  subst h1
  rw [List.nodup_cons] at n
  exact absurd (List.mem_of_getElem? h2) n.1
 | x :: l, i + 1, 0, a, n, h1, h2 => by
  simp at h1 h2
  subst h2
  rw [List.nodup_cons] at n
  exact absurd (List.mem_of_getElem? h1) n.1
 | x :: l, i + 1, j + 1, a, n, h1, h2 => by
  simp at h1 h2
  rw [List.nodup_cons] at n
  rw [qay n.2 h1 h2]
theorem Mem.mut (M : Mem mg K Gl κ H μ) {n : Nat} {p : Addr} {o : HO} {x : Cell} (hn : κ[n]? = .some p) (hx : Yc mg K Gl κ (upd H p o) p x) : Mem mg K Gl κ (upd H p o) (μ.set n x) /\ Ext κ H κ (upd H p o) := by
 have hp : p ∈ κ := List.mem_of_getElem? hn
 have ex : Ext κ H κ (upd H p o) := ⟨fun _ _ e => e, fun _ h => .inl h, fun a q e na => by
  rw [qy (fun z => na (by rw [z]; exact hp))]
  exact e⟩
 refine ⟨⟨M.nd, by rw [List.length_set]; exact M.len, fun k q y e1 e2 => ?_, fun a h => ?_⟩, ex⟩
 ·by_cases hk : n = k
  ·subst hk
   rw [hn] at e1
   cases e1
   have hlt : n < μ.length := by rw [<- M.len]; exact (List.getElem?_eq_some_iff.mp hn).1
   rw [List.getElem?_set_self hlt] at e2
   cases e2
   exact hx
  ·rw [List.getElem?_set_ne hk] at e2
   have hq : q ≠ p := fun z => by
    subst z
    exact hk (qay M.nd hn e1)
   exact (M.cel k q y e1 e2).ext ex (qy hq)
 ·by_cases ha : a = p
  ·rw [ha, qJ] at h
   cases h
  ·rw [qy ha] at h
   exact M.gl a h
theorem Mem.new (M : Mem mg K Gl κ H μ) {p : Addr} {x : Cell} (s : qw H H') (hp : H p = none) (hx : Yc mg K Gl (κ ++ [p]) H' p x) : Mem mg K Gl (κ ++ [p]) H' (μ ++ [x]) /\ Ext κ H (κ ++ [p]) H' := by
 have np : p ∉ κ := fun z => M.at_ z hp
 have ex : Ext κ H (κ ++ [p]) H' := by
  refine ⟨fun n q e => ?_, fun q h => ?_, fun a o e _ => s a o e⟩
  ·rw [List.getElem?_append_left (List.getElem?_eq_some_iff.mp e).1]
   exact e
  ·rcases List.mem_append.mp h with h | h
   ·exact .inl h
   ·right
    rw [List.mem_singleton.mp h]
    exact hp
 refine ⟨⟨?_, by rw [List.length_append, List.length_append, M.len]; rfl, fun n q y e1 e2 => ?_, fun a h => M.gl a (s.free h)⟩, ex⟩
 ·rw [List.nodup_append]
  refine ⟨M.nd, List.pairwise_singleton _ _, fun a ha b hb => ?_⟩
  rw [List.mem_singleton.mp hb]
  exact fun z => np (by rw [<- z]; exact ha)
 ·by_cases hn : n < κ.length
  ·rw [List.getElem?_append_left hn] at e1
   rw [List.getElem?_append_left (by rw [<- M.len]; exact hn)] at e2
   have q0 := M.cel n q y e1 e2
   refine q0.ext ex ?_
   cases e : H q with
   | none => exact absurd e q0.some
   | some o => exact s q o e
  ·rw [List.getElem?_append_right (by lia)] at e1
   rw [List.getElem?_append_right (by rw [<- M.len]; lia)] at e2
   have h0 : n - κ.length = 0 := by
    have := (List.getElem?_eq_some_iff.mp e1).1
    rw [List.length_singleton] at this
    lia
   rw [h0] at e1
   rw [<- M.len, h0] at e2
   cases e1
   cases e2
   exact hx
theorem MR.qcf (R : MR mg K Gl κ H σ m) {i : Nat} (hx : ItR mg K Gl κ H w x) : MR mg K Gl κ H (σ.set i (some w)) ⟨m.s.set i (some x), m.μ⟩ := by
 refine ⟨R.mem, by rw [List.length_set, List.length_set]; exact R.len, fun j y e => ?_⟩
 have e : (m.s.set i (some x))[j]? = some (some y) := e
 by_cases hj : i = j
 ·subst hj
  by_cases hi : i < m.s.length
  ·rw [List.getElem?_set_self hi] at e
   cases e
   exact ⟨w, List.getElem?_set_self (by rw [R.len]; exact hi), hx⟩
  ·rw [List.getElem?_eq_none (by rw [List.length_set]; lia)] at e
   cases e
 ·rw [List.getElem?_set_ne hj] at e ⊢
  exact R.sl j y e
theorem MR.after (R : MR mg K Gl κ H σ m) (e : Ext κ H κ' H') (M : Mem mg K Gl κ' H' μ) : MR mg K Gl κ' H' σ ⟨m.s, μ⟩ :=
 ⟨M, R.len, fun i x h => let ⟨w, a, b⟩ := R.sl i x h; ⟨w, a, b.ext e⟩⟩
theorem mapM_some {α β : Type} {f : α -> Option β} {x : α} {xs : List α} {ys : List β} (h : (x :: xs).mapM f = some ys) : ∃ y r, f x = some y /\ xs.mapM f = some r /\ ys = y :: r := by
 rw [List.mapM_cons] at h
 cases h1 : f x with
 | none => rw [h1] at h; cases h
 | some y =>
  rw [h1] at h
  cases h2 : xs.mapM f with
  | none => rw [h2] at h; cases h
  | some r => rw [h2] at h; exact ⟨y, r, rfl, rfl, (Option.some.inj h).symm⟩
theorem yL {G : Addr -> Prop} {g : Itm -> Option D} (hg : ∀ w x d, g x = some d -> ItR mg K Gl κ H w x -> Rp mg K G H w d) : ∀ {vs : List V} {xs : List Itm} {ds : List D}, Its mg K Gl κ H vs xs -> xs.mapM g = some ds -> qt mg K G H vs ds
 | [], [], ds, _, e => by cases e; exact .nil
 | w :: vs, x :: xs, ds, h, e => by
  obtain ⟨y, r, e1, e2, rfl⟩ := mapM_some e
  exact .cons (hg w x y e1 h.1) (yL hg h.2 e2)
 | [], _ :: _, _, h, _ => h.elim
 | _ :: _, [], _, h, _ => h.elim
theorem Zy (M : Mem mg K Gl κ H μ) : ∀ (f : Nat) (w : V) (x : Itm) (d : D), wg μ f x = some d -> ItR mg K Gl κ H w x -> Rp mg K (fun _ => True) H w d
 | 0, w, .v d k, _, e, h => by cases e; exact Rp.weak h fun _ _ => trivial
 | f + 1, w, .v d k, _, e, h => by cases e; exact Rp.weak h fun _ _ => trivial
 | 0, w, .c n, d, e, h => by cases e
 | f + 1, w, .c n, d, e, h => by
  obtain ⟨p, hp, rfl⟩ := h
  unfold wg at e
  cases hn : μ[n]? with
  | none => rw [hn] at e; cases e
  | some y =>
   rw [hn] at e
   have q := M.cel n p y hp hn
   cases y with
   | lst xs =>
    obtain ⟨vs, q1, q2⟩ := q
    cases hm : xs.mapM (wg μ f) with
    | none => dsimp only at e; rw [hm] at e; cases e
    | some ds =>
     dsimp only at e
     rw [hm] at e
     cases e
     exact .lst trivial (.of q1) (yL (fun w x d e h => Zy M f w x d e h) q2 hm)
   | ins c ns xs =>
    obtain ⟨C, dx, vs, q0, q1, ql, q2⟩ := q
    cases hm : xs.mapM (wg μ f) with
    | none => dsimp only at e; rw [hm] at e; cases e
    | some ds =>
     dsimp only at e
     rw [hm] at e
     cases e
     exact .obj trivial q0 q1 ql (yL (fun w x d e h => Zy M f w x d e h) q2 hm)
theorem vj (R : MR mg K Gl κ H σ m) : Rl mg K ⟨H, fun _ => False⟩ H σ (qC m) := by
 have noown : ∀ (i : Nat) (ds : List D), (qC m)[i]? ≠ some (.own ds) := fun i ds e => by
  unfold qC at e
  rw [List.getElem?_map] at e
  cases hs : m.s[i]? with
  | none => rw [hs] at e; cases e
  | some o =>
   rw [hs] at e
   cases o with
   | none => cases e
   | some x =>
    have e : some (match wg m.μ 3 x with | some d => Sl.val d false | none => .un) = some (.own ds) := e
    cases hv : wg m.μ 3 x with
    | none => rw [hv] at e; cases e
    | some d => rw [hv] at e; cases e
 refine ⟨fun _ _ e => e, fun _ h => h.elim, by unfold qC; rw [List.length_map]; exact R.len, fun i d k e => ?_, fun i ds e => absurd e (noown i ds), fun i j p ds es e _ _ _ => absurd e (noown i ds)⟩
 unfold qC at e
 rw [List.getElem?_map] at e
 cases hs : m.s[i]? with
 | none => rw [hs] at e; cases e
 | some o =>
  rw [hs] at e
  cases o with
  | none => cases e
  | some x =>
   have e : some (match wg m.μ 3 x with | some d => Sl.val d false | none => .un) = some (.val d k) := e
   cases hv : wg m.μ 3 x with
   | none => rw [hv] at e; cases e
   | some d' =>
    rw [hv] at e
    cases e
    obtain ⟨w, h1, h2⟩ := R.sl i x hs
    refine ⟨w, h1, Rp.weak (Zy R.mem 3 w x d hv h2) fun a _ => ⟨fun z => ?_, fun z => nomatch z⟩⟩
    rcases z with z | ⟨j, ds, z, _⟩
    ·exact z
    ·exact noown j ds z
open Classical in
noncomputable def V9 (Gl : Addr -> Prop) (κ : List Addr) (H : Hp) : Hp := fun a => if Gl a \/ a ∈ κ then none else H a
theorem Uj {a : Addr} (h : Gl a) : V9 Gl κ H a = none := by unfold V9; exact if_pos (.inl h)
theorem u9 {a : Addr} (hg : ∀ a, H a = none -> Gl a) (h : V9 Gl κ H a = none) (n : a ∉ κ) : Gl a := by
 unfold V9 at h
 by_cases c : Gl a \/ a ∈ κ
 ·exact c.elim id fun z => absurd z n
 ·rw [if_neg c] at h
  exact hg a h
theorem Ua (e : Ext κ H κ' H') : qw (V9 Gl κ H) H' := fun a o h => by
 unfold V9 at h
 by_cases c : Gl a \/ a ∈ κ
 ·rw [if_pos c] at h
  cases h
 ·rw [if_neg c] at h
  exact e.keep a o h fun z => c (.inr z)
theorem jx (m : MS) (i : Nat) (ds : List D) : (vL m)[i]? ≠ some (.own ds) := fun e => by
 unfold vL at e
 rw [List.getElem?_map] at e
 cases hs : m.s[i]? with
 | none => rw [hs] at e; cases e
 | some o =>
  rw [hs] at e
  cases o with
  | none => cases e
  | some x => cases x <;> cases e
noncomputable abbrev B1 (Gl : Addr -> Prop) (κ : List Addr) (H : Hp) (κ' : List Addr) : Bs := ⟨V9 Gl κ H, fun a => a ∈ κ'⟩
theorem Um {a : Addr} {κ0 : List Addr} {H0 : Hp} (h : vn (B1 Gl κ0 H0 κ) σ (vL m) a) : a ∈ κ := by
 rcases h with h | ⟨i, ds, e, _⟩
 ·exact h
 ·exact absurd e (jx m i ds)
theorem ye {κ0 : List Addr} {H0 : Hp} (e : Ext κ0 H0 κ H) (R : MR mg K Gl κ H σ m) : Rl mg K (B1 Gl κ0 H0 κ) H σ (vL m) := by
 refine ⟨Ua e, fun p h => R.mem.at_ h, by unfold vL; rw [List.length_map]; exact R.len, fun i d k q => ?_, fun i ds q => absurd q (jx m i ds), fun i j p ds es q _ _ _ => absurd q (jx m i ds)⟩
 unfold vL at q
 rw [List.getElem?_map] at q
 cases hs : m.s[i]? with
 | none => rw [hs] at q; cases q
 | some o =>
  rw [hs] at q
  cases o with
  | none => cases q
  | some x =>
   cases x with
   | c n => cases q
   | v d' k' =>
    cases q
    obtain ⟨w, h1, h2⟩ := R.sl i _ hs
    exact ⟨w, h1, Rp.weak h2 fun a g => ⟨fun z => g.1 (Um z), fun z => Uj (g.2 z)⟩⟩
theorem Ue {d : D} {k : Bool} (c : d.sc = true) (G : Addr -> Prop) (r : Rp mg K G H w d) : ItR mg K Gl κ H w (.v d k) := by
 rw [r.sc c]
 exact Rp.wL c
theorem JQ {y : DK} (R : MR mg K Gl κ H σ m) (s : qw H H') (r : VR mg K ⟨H, fun _ => False⟩ H H' σ (qC m) y.2 w y.1) (h : jK y = some x) : ItR mg K Gl κ H' w x := by
 obtain ⟨d, k⟩ := y
 have R0 := vj R
 have new : VR mg K ⟨H, fun _ => False⟩ H H' σ (qC m) .nw w d -> ItR mg K Gl κ H' w (.v d true) := fun r => by
  refine Rp.weak r fun a g => ⟨fun z => R.mem.at_ z g.2, fun _ => R.mem.gl a g.2⟩
 unfold jK at h
 dsimp only at h
 by_cases c : d.sc = true
 ·rw [if_pos c] at h
  cases h
  exact Ue c _ (r.rp R0)
 ·rw [if_neg c] at h
  cases k with
  | bo => cases h
  | sh => cases h
  | nw => cases h; exact new r
  | fr => cases h; exact new (VR.zJ R0 r)
theorem qaa {y : DK} {κ0 : List Addr} {H0 : Hp} (e : Ext κ0 H0 κ H) (hg : ∀ a, H0 a = none -> Gl a) (R : MR mg K Gl κ H σ m) (s : qw H H') (r : VR mg K (B1 Gl κ0 H0 κ) H H' σ (vL m) y.2 w y.1) (h : qE y = some x) : ItR mg K Gl κ H' w x := by
 obtain ⟨d, k⟩ := y
 have R0 := ye e R
 have new : VR mg K (B1 Gl κ0 H0 κ) H H' σ (vL m) .nw w d -> ItR mg K Gl κ H' w (.v d true) := fun r => by
  refine Rp.weak r fun a g => ?_
  have n : a ∉ κ := fun z => g.1 (.inl z)
  refine ⟨n, fun _ => u9 hg g.2 fun z => n ?_⟩
  obtain ⟨i, hi, q⟩ := List.mem_iff_getElem.mp z
  exact List.mem_of_getElem? (e.pre i a (by rw [List.getElem?_eq_getElem hi, q]))
 unfold qE at h
 dsimp only at h
 by_cases c : d.sc = true
 ·rw [if_pos c] at h
  cases h
  exact Ue c _ (r.rp R0)
 ·rw [if_neg c] at h
  cases k with
  | bo => cases h
  | sh => cases h; exact Rp.weak r fun a g => ⟨fun z => g (.inl z), fun z => nomatch z⟩
  | nw => cases h; exact new r
  | fr => cases h; exact new (VR.zJ R0 r)
end
noncomputable def vT (mg : Str -> Option Value) (K : PySem.W.Frag) (E : XK) (Gn : Addr -> Prop) (κ : List Addr) (H : Hp) (o : vX) (D : Ends) : Prop := match o with
 | .nx m => ∀ κ' σ' H', MR mg K Gn κ' H' σ' m -> Ext κ H κ' H' -> D.nx σ' H'
 | .bk m => ∀ κ' σ' H', MR mg K Gn κ' H' σ' m -> Ext κ H κ' H' -> D.bk σ' H'
 | .ct m => ∀ κ' σ' H', MR mg K Gn κ' H' σ' m -> Ext κ H κ' H' -> D.ct σ' H'
 | .rt x μ => ∀ w κ' H', Mem mg K Gn κ' H' μ -> ItR mg K Gn κ' H' w x -> Ext κ H κ' H' -> D.rt w H'
 | .er c => ∀ C H', mg c = some (.ref C) -> (∀ a o, H a = some o -> a ∉ κ -> H' a = some o) -> E (.ref C) none H'
 | .no => False
noncomputable def tM (mg : Str -> Option Value) (K : PySem.W.Frag) (E : XK) (r : RM) : TS := fun D σ H => ∃ Gn κ m, MR mg K Gn κ H σ m /\ vT mg K E Gn κ H (r m) D
noncomputable abbrev TMx (X : Cx) (E : XK) (r : RM) : TS := tM X.mg X.K E r
noncomputable def tIe (X : Cx) (E : XK) (e : IE) : TE := fun σ H Q => ∃ Gn κ m, MR X.mg X.K Gn κ H σ m /\ qk X.mg E H (e m) fun x => ∀ w H', qw H H' -> ItR X.mg X.K Gn κ H' w x -> Q w H'
noncomputable def tNe (X : Cx) (E : XK) (e : NE) : TE := fun σ H Q => ∃ Gn κ m, MR X.mg X.K Gn κ H σ m /\ qk X.mg E H (e m) fun xs => ∀ p vs H', H p = none -> qw H H' -> H' p = some (.lst vs) -> Its X.mg X.K Gn (κ ++ [p]) H' vs xs -> Q (.ref p) H'
noncomputable def tMA (X : Cx) (E : XK) (es : List IE) : TA := fun σ H Q => ∃ Gn κ m, MR X.mg X.K Gn κ H σ m /\ qk X.mg E H (xm es m) fun xs => ∀ vs H', qw H H' -> Its X.mg X.K Gn κ H' vs xs -> Q vs H'
section
variable {mg : Str -> Option Value} {K : PySem.W.Frag} {E : XK} {Gn : Addr -> Prop} {κ κ' κ1 : List Addr} {H H' H1 : Hp} {D : Ends} {o : vX}
theorem vT.later (h : vT mg K E Gn κ H o D) (e : Ext κ H κ1 H1) : vT mg K E Gn κ1 H1 o D := by
 cases o with
 | nx m => exact fun κ' σ' H' R f => h κ' σ' H' R (e.trans f)
 | bk m => exact fun κ' σ' H' R f => h κ' σ' H' R (e.trans f)
 | ct m => exact fun κ' σ' H' R f => h κ' σ' H' R (e.trans f)
 | rt x μ => exact fun w κ' H' M r f => h w κ' H' M r (e.trans f)
 | er c =>
  refine fun C H' hC k => h C H' hC fun a o q n => k a o (e.keep a o q n) fun z => ?_
  rcases e.old a z with y | y
  ·exact n y
  ·rw [q] at y
   cases y
 | no => exact h
theorem qf6 {c : Str} (h : vT mg K E Gn κ H (.er c) D) : ∀ C H', mg c = some (.ref C) -> qw H H' -> E (.ref C) none H' := fun C H' e s => h C H' e fun a o q _ => s a o q
theorem vT.do_ {α : Type} {x : Rs α} {f : α -> vX} {k : α -> Prop} (h : vT mg K E Gn κ H (mDo x f) D) (i : ∀ a, x = .ok a -> vT mg K E Gn κ H (f a) D -> k a) : qk mg E H x k := by
 cases x with
 | ok a => exact i a rfl h
 | er c => exact qf6 h
 | no => exact h
theorem Ext.upd {p : Addr} {o : HO} (hp : p ∈ κ) : Ext κ H κ (L2.upd H p o) := ⟨fun _ _ e => e, fun _ h => .inl h, fun a q e na => by
 rw [qy (fun z => na (by rw [z]; exact hp))]
 exact e⟩
theorem uf {m : MS} {x : Itm} {n : Nat} {y : Cell} (h : cellAt m x = some (n, y)) : x = .c n /\ m.μ[n]? = some y := by
 cases x with
 | v d k => cases h
 | c k =>
  have h : (m.μ[k]?).map (fun x => (k, x)) = some (n, y) := h
  cases e : m.μ[k]? with
  | none => rw [e] at h; cases h
  | some z => rw [e] at h; cases h; exact ⟨rfl, e⟩
theorem Xg {f : Str} {y : Itm} : ∀ {ns : List Str} {vs : List V} {xs : List Itm}, Its mg K Gn κ H vs xs -> (ns.zip xs).lookup f = some y -> ∃ w, (ns.zip vs).lookup f = some w /\ ItR mg K Gn κ H w y
 | [], _, _, _, e => by simp at e
 | _ :: _, [], [], _, e => by simp at e
 | g :: ns, w :: vs, x :: xs, h, e => by
  rw [List.zip_cons_cons, List.lookup_cons] at e ⊢
  cases hg : f == g with
  | true => rw [hg] at e; cases e; exact ⟨w, rfl, h.1⟩
  | false => rw [hg] at e; exact Xg h.2 e
 | _ :: _, [], _ :: _, h, _ => h.elim
 | _ :: _, _ :: _, [], h, _ => h.elim
theorem Jd {f : Str} {w : V} {x : Itm} (hx : ItR mg K Gn κ H w x) : ∀ {ns : List Str} {vs : List V} {xs : List Itm}, ns.length = vs.length -> Its mg K Gn κ H vs xs -> ∃ vs', yD f w (ns.zip vs) = (Qq f x ns xs).1.zip vs' /\ (Qq f x ns xs).1.length = vs'.length /\ Its mg K Gn κ H vs' (Qq f x ns xs).2
 | [], [], [], _, _ => ⟨[w], rfl, rfl, hx, trivial⟩
 | g :: ns, u :: vs, y :: xs, hl, h => by
  unfold Qq
  by_cases c : g = f
  ·rw [if_pos c, List.zip_cons_cons]
   refine ⟨w :: vs, ?_, hl, hx, h.2⟩
   show (if g = f then (g, w) :: ns.zip vs else _) = _
   rw [if_pos c]
   rfl
  ·rw [if_neg c, List.zip_cons_cons]
   obtain ⟨vs', q1, q2, q3⟩ := Jd (f := f) hx (ns := ns) (vs := vs) (xs := xs) (by simpa using hl) h.2
   refine ⟨u :: vs', ?_, by simpa using q2, h.1, q3⟩
   show (if g = f then _ else (g, u) :: yD f w (ns.zip vs)) = _
   rw [if_neg c, q1]
   rfl
 | [], _ :: _, _, hl, _ => nomatch hl
 | _ :: _, [], _, hl, _ => nomatch hl
 | _, [], _ :: _, _, h => h.elim
 | _, _ :: _, [], _, h => h.elim
end
section
variable {X : Cx} {E : XK} {pos : Pos}
theorem Qj {e : Expr} {r : RE} (h : PE X e (TEx X E r)) : PE X e (tIe X E (zV r)) := by
 refine qZ h fun σ H Q ⟨Gn, κ, m, R, h⟩ => ⟨_, _, vj R, ?_⟩
 refine qk.imp (qk.bind h) fun y h1 w H' s vr => ?_
 cases e : jK y with
 | none => rw [e] at h1; exact h1.elim
 | some x => rw [e] at h1; exact h1 w H' s (JQ R s vr e)
theorem qeY {e : Expr} {r : RE} (h : PE X e (TEx X E r)) : PE X e (tIe X E (qe0 r)) := by
 refine qZ h fun σ H Q ⟨Gn, κ, m, R, h⟩ => ⟨_, _, ye Ext.refl R, ?_⟩
 refine qk.imp (qk.bind h) fun y h1 w H' s vr => ?_
 cases e : qE y with
 | none => rw [e] at h1; exact h1.elim
 | some x => rw [e] at h1; exact h1 w H' s (qaa Ext.refl R.mem.gl R s vr e)
theorem zk (i : Nat) {x : Str} (hN : autoParam (X.N[i]? = some x) qm._auto_1) (hv : autoParam (Vis X.env.scope x) Ub._auto_1) (hd : autoParam ((x == ("__debug__" : Str)) = false) qV._auto_1)
  (hcd : autoParam ((x == ("__classdict__" : Str)) = false) qV._auto_1) : PE X (.Name x pos) (tIe X E (ieV i)) := by
 refine qZ (Q9 hN hv hd hcd) fun σ H Q ⟨Gn, κ, m, R, h⟩ => ?_
 unfold ieV at h
 cases hs : m.s[i]? with
 | none => rw [hs] at h; exact h.elim
 | some o =>
  rw [hs] at h
  cases o with
  | none => exact h.elim
  | some y =>
   obtain ⟨w, h1, h2⟩ := R.sl i y hs
   exact ⟨w, h1, h w H (fun _ _ e => e) h2⟩
theorem ZF {c f : Str} {e : Expr} {ie : IE} (hC : ∀ C, X.mg c = some (.ref C) -> Cls X.K C /\ vM X.K C f) (he : PE X e (tIe X E ie)) (hb : autoParam (attributeBase e f X.env (eval e X.env) = eval e X.env) qm._auto_1) : PE X (.Attribute e f pos) (tIe X E (xJ c f ie)) := by
 refine qZ (qbu he hb) fun σ H Q ⟨Gn, κ, m, R, h⟩ => ⟨Gn, κ, m, R, ?_⟩
 refine qk.imp (qk.bind h) fun x h1 w H1 s1 hw => ?_
 cases e : cellAt m x with
 | none => rw [e] at h1; exact h1.elim
 | some y =>
  obtain ⟨n, y⟩ := y
  obtain ⟨rfl, hn⟩ := uf e
  rw [e] at h1
  cases y with
  | lst xs => exact h1.elim
  | ins c' ns xs =>
   have h1 : qk X.mg E H (if c' = c then xT ((ns.zip xs).lookup f) else .no) fun x => ∀ w H', qw H H' -> ItR X.mg X.K Gn κ H' w x -> Q w H' := h1
   by_cases cc : c' = c
   ·subst cc
    rw [if_pos rfl] at h1
    obtain ⟨p, hp, rfl⟩ := hw
    obtain ⟨C, dx, vs, g0, g1, g2, g3⟩ := (R.more s1).mem.cel n p _ hp hn
    cases hl : (ns.zip xs).lookup f with
    | none => rw [hl] at h1; exact h1.elim
    | some y =>
     rw [hl] at h1
     obtain ⟨w, l1, l2⟩ := Xg g3 hl
     exact ⟨p, C, dx, _, w, rfl, g1, (hC C g0).1, (hC C g0).2, l1, h1 w H1 s1 l2⟩
   ·rw [if_neg cc] at h1
    exact h1.elim
theorem qdx {a b : Expr} {ie : IE} {r : RE} (ha : PE X a (tIe X E ie)) (hb : PE X b (TEx X E r)) (hs : autoParam (Z3 b) qeh._auto_1) : PE X (.Subscript a b pos) (tIe X E (Up ie r)) := by
 refine qZ (qdh UP ha hb hs) fun σ H Q ⟨Gn, κ, m, R, h⟩ => ⟨Gn, κ, m, R, ?_⟩
 refine qk.imp (qk.bind h) fun x h1 w H1 s1 hw => ⟨_, _, vj (R.more s1), ?_⟩
 refine qk.imp (qk.more (qk.bind h1) s1) fun y h2 u H2 s2 vu => ?_
 obtain ⟨dy, ky⟩ := y
 cases e : cellAt m x with
 | none => rw [e] at h2; exact h2.elim
 | some y =>
  obtain ⟨n, y⟩ := y
  obtain ⟨rfl, hn⟩ := uf e
  rw [e] at h2
  cases y with
  | ins c' ns xs => exact h2.elim
  | lst xs =>
   cases dy with
   | int z =>
    obtain ⟨p, hp, rfl⟩ := hw
    have s12 := s1.trans s2
    obtain ⟨vs, g1, g3⟩ := (R.more s12).mem.cel n p _ hp hn
    have eu := qM (vj (R.more s1)) vu
    subst eu
    have h2 : qk X.mg E H (xT ((yh xs.length z).bind fun j => xs[j]?)) fun x => ∀ w H', qw H H' -> ItR X.mg X.K Gn κ H' w x -> Q w H' := h2
    cases hj : yh xs.length z with
    | none => rw [hj] at h2; exact h2.elim
    | some j =>
     rw [hj] at h2
     have h2 : qk X.mg E H (xT (xs[j]?)) fun x => ∀ w H', qw H H' -> ItR X.mg X.K Gn κ H' w x -> Q w H' := h2
     cases hx : xs[j]? with
     | none => rw [hx] at h2; exact h2.elim
     | some y =>
      rw [hx] at h2
      obtain ⟨w, l1, l2⟩ := g3.get hx
      refine ⟨p, vs, z, w, rfl, rfl, SqL.of g1, ?_, h2 w H2 s12 l2⟩
      unfold atI
      have hj' : ixN vs.length z = some j := by rw [g3.len]; exact hj
      rw [hj']
      exact l1
   | _ => exact h2.elim
theorem jL : PA X [] (tMA X E []) := Zl zp fun σ H Q ⟨Gn, κ, m, R, h⟩ => h [] H (fun _ _ e => e) trivial
theorem wU {e : Expr} {es : List Expr} {ie : IE} {ies : List IE} (ha : PE X e (tIe X E ie)) (hr : PA X es (tMA X E ies)) (hs : autoParam (starEach (e :: es) X.env = (false, eval e X.env) :: starEach es X.env) qm._auto_1) : PA X (e :: es) (tMA X E (ie :: ies)) := by
 refine Zl (vH ha hr hs) fun σ H Q ⟨Gn, κ, m, R, h⟩ => ⟨Gn, κ, m, R, ?_⟩
 refine qk.imp (qk.bind h) fun x h1 v H1 s1 r1 => ⟨Gn, κ, m, R.more s1, ?_⟩
 refine qk.imp (qk.more (qk.bind h1) s1) fun xs h2 vs H2 s2 r2 => ?_
 exact h2 (v :: vs) H2 (s1.trans s2) ⟨r1.ext (Ext.same s2), r2⟩
theorem ne_nil : PE X (.List [] pos) (tNe X E qai) := by
 refine qZ (Zp zp) fun σ H Q ⟨Gn, κ, m, R, h⟩ => ?_
 exact ⟨Nat.zero_le _, fun p hp => h p [] _ hp (vt hp) qJ trivial⟩
end
section
variable {X : Cx} {E : XK} {pos : Pos}
theorem UI : PSs X [] (TMx X E j7) := u0 Jp fun D σ H ⟨Gn, κ, m, R, h⟩ => h κ σ H R Ext.refl
theorem qc9 {a b : RM} {D : Ends} {σ : St} {H : Hp} (h : TMx X E (wY a b) D σ H) : TMx X E a { D with nx := TMx X E b D } σ H := by
 obtain ⟨Gn, κ, m, R, h⟩ := h
 refine ⟨Gn, κ, m, R, ?_⟩
 unfold wY vX.andThen at h
 cases ha : a m with
 | nx m1 =>
  rw [ha] at h
  exact fun κ1 σ1 H1 R1 f1 => ⟨Gn, κ1, m1, R1, vT.later h f1⟩
 | bk m1 => rw [ha] at h; exact h
 | ct m1 => rw [ha] at h; exact h
 | rt x μ => rw [ha] at h; exact h
 | er c => rw [ha] at h; exact h
 | no => rw [ha] at h; exact h
theorem vo {st : Stmt} {rest : List Stmt} {a b : RM} (h1 : PS X st (TMx X E a)) (h2 : PSs X rest (TMx X E b)) : PSs X (st :: rest) (TMx X E (wY a b)) := u0 (Vq h1 h2) fun _ _ _ h => qc9 h
theorem vY {st : Stmt} {a : RM} (h1 : PS X st (TMx X E a)) : PSs X [st] (TMx X E a) := xZ h1
theorem qci {i : Nat} {e : IE} {D : Ends} {σ : St} {H : Hp} (h : TMx X E (jS i e) D σ H) : Ur (tIe X E e) (wz i) D σ H := by
 obtain ⟨Gn, κ, m, R, h⟩ := h
 refine ⟨Gn, κ, m, R, vT.do_ h fun x _ h1 w H' s hw => ?_⟩
 exact h1 κ _ H' ((R.more s).qcf hw) (Ext.same s)
theorem Uc (i : Nat) {x : Str} {e : Expr} {ie : IE} {pos' : Pos} (g : Gd X E) (he : PE X e (tIe X E ie)) (hi : autoParam (X.N[i]? = some x) qm._auto_1) (hx : autoParam (Loc X.env.scope x) Vd._auto_1) (hs : autoParam (swapsWith e (some (.Name x pos')) pos.line X.env = pure false) qm._auto_1)
  (hf : autoParam (X.fn x = true \/ X.env.scope.names.lookup x = some .local) Vv._auto_1) : PS X (.Assign [.Name x pos'] e pos) (TMx X E (jS i ie)) := vK (VC g.nd hi hx he hs hf) fun _ _ _ h => qci h
theorem U0 {i : Nat} {e : NE} {D : Ends} {σ : St} {H : Hp} (h : TMx X E (Wj i e) D σ H) : Ur (tNe X E e) (wz i) D σ H := by
 obtain ⟨Gn, κ, m, R, h⟩ := h
 refine ⟨Gn, κ, m, R, vT.do_ h fun xs _ h1 p vs H' hp s hv hi => ?_⟩
 obtain ⟨M, ex⟩ := R.mem.new (x := .lst xs) s hp ⟨vs, hv, hi⟩
 refine h1 (κ ++ [p]) _ H' ((R.after ex M).qcf (m := ⟨m.s, m.μ ++ [.lst xs]⟩) (x := .c m.μ.length) ⟨p, ?_, rfl⟩) ex
 rw [<- R.mem.len, List.getElem?_append_right (Nat.le_refl _), Nat.sub_self]
 rfl
theorem qbP (i : Nat) {x : Str} {e : Expr} {ie : NE} {pos' : Pos} (g : Gd X E) (he : PE X e (tNe X E ie)) (hi : autoParam (X.N[i]? = some x) qm._auto_1) (hx : autoParam (Loc X.env.scope x) Vd._auto_1) (hs : autoParam (swapsWith e (some (.Name x pos')) pos.line X.env = pure false) qm._auto_1)
  (hf : autoParam (X.fn x = true \/ X.env.scope.names.lookup x = some .local) Vv._auto_1) : PS X (.Assign [.Name x pos'] e pos) (TMx X E (Wj i ie)) := vK (VC g.nd hi hx he hs hf) fun _ _ _ h => U0 h
theorem yO {st : Stmt} {ec ev : IE} {ri : RE} (h : PS X st (Ur (tIe X E ev) (qfB (tIe X E ec) (TEx X E ri) qdm))) : PS X st (TMx X E (wm ec ri ev)) := by
 refine vK h fun D σ H ⟨Gn, κ, m, R, h⟩ => ⟨Gn, κ, m, R, vT.do_ h fun x _ h1 w H1 s1 hw => ⟨Gn, κ, m, R.more s1, ?_⟩⟩
 refine qk.more (vT.do_ h1 fun y _ h2 w2 H2 s2 hw2 => ⟨_, _, vj ((R.more s1).more s2), ?_⟩) s1
 have s12 := s1.trans s2
 refine qk.more (vT.do_ h2 fun z _ h3 u H3 s3 vu => ?_) s12
 obtain ⟨dz, kz⟩ := z
 cases e : cellAt m y with
 | none => rw [e] at h3; exact h3.elim
 | some q =>
  obtain ⟨n, q⟩ := q
  obtain ⟨rfl, hn⟩ := uf e
  rw [e] at h3
  cases q with
  | ins c' ns xs => exact h3.elim
  | lst xs =>
   cases dz with
   | int z =>
    obtain ⟨p, hp, rfl⟩ := hw2
    have s13 := s12.trans s3
    have R3 := R.more s13
    obtain ⟨vs, g1, g3⟩ := R3.mem.cel n p _ hp hn
    have eu := qM (vj ((R.more s1).more s2)) vu
    subst eu
    have h3 : vT X.mg X.K E Gn κ H (match yh xs.length z with | some j => .nx ⟨m.s, m.μ.set n (.lst (xs.set j x))⟩ | none => .no) D := h3
    cases hj : yh xs.length z with
    | none => rw [hj] at h3; exact h3.elim
    | some j =>
     rw [hj] at h3
     have hj' : ixN vs.length z = some j := by rw [g3.len]; exact hj
     refine ⟨p, vs, z, j, rfl, rfl, g1, hj', ?_⟩
     have pk : p ∈ κ := List.mem_of_getElem? hp
     have ex : Ext κ H3 κ (upd H3 p (.lst (vs.set j w))) := Ext.upd pk
     have hw3 : ItR X.mg X.K Gn κ (upd H3 p (.lst (vs.set j w))) w x := ItR.ext ((Ext.same (s2.trans s3)).trans ex) hw
     obtain ⟨M, _⟩ := R3.mem.mut (x := .lst (xs.set j x)) (o := .lst (vs.set j w)) hp ⟨_, qJ, (g3.ext ex).set hw3 j⟩
     exact h3 κ σ _ (R3.after ex M) ((Ext.same s13).trans ex)
   | _ => exact h3.elim
theorem WI {c f : Str} {Gn : Addr -> Prop} {κ : List Addr} {H : Hp} {σ : St} {s : List (Option Itm)} {μ : List Cell} {D : Ends} (hC : ∀ C, X.mg c = some (.ref C) -> Cls X.K C /\ vM X.K C f) (R2 : MR X.mg X.K Gn κ H σ ⟨s, μ⟩) {n : Nat} {c' : Str} {ns : List Str} {xs : List Itm} {w w2 : V} {x : Itm} (hn : μ[n]? = some (.ins c' ns xs)) (hw2 : ItR X.mg X.K Gn κ H w2 (.c n)) (hw : ItR X.mg X.K Gn κ H w x)
  (h5 : vT X.mg X.K E Gn κ H (if c' = c /\ ns.length < 1000 /\ ns.length = xs.length then .nx ⟨s, μ.set n (.ins c' (Qq f x ns xs).1 (Qq f x ns xs).2)⟩ else .no) D) :
  ∃ a C dx fs, w2 = .ref a /\ H a = some (.ins C dx fs) /\ Cls X.K C /\ vM X.K C f /\ fs.length < 1000 /\ D.nx σ (upd H a (.ins C dx (yD f w fs))) := by
 by_cases cc : c' = c /\ ns.length < 1000 /\ ns.length = xs.length
 ·rw [if_pos cc] at h5
  obtain ⟨rfl, hl, _⟩ := cc
  obtain ⟨p, hp, rfl⟩ := hw2
  obtain ⟨C, dx, vs, g0, g1, g2, g3⟩ := R2.mem.cel n p _ hp hn
  refine ⟨p, C, dx, _, rfl, g1, (hC C g0).1, (hC C g0).2, by rw [List.length_zip]; lia, ?_⟩
  have ex : Ext κ H κ (upd H p (.ins C dx (yD f w (ns.zip vs)))) := Ext.upd (List.mem_of_getElem? hp)
  obtain ⟨vs', q1, q2, q3⟩ := Jd (f := f) (ItR.ext ex hw) g2 (g3.ext ex)
  obtain ⟨M, _⟩ := R2.mem.mut (x := .ins c' (Qq f x ns xs).1 (Qq f x ns xs).2) (o := .ins C dx (yD f w (ns.zip vs))) hp ⟨C, dx, vs', g0, by rw [qJ, q1], q2, q3⟩
  exact h5 κ σ _ (R2.after ex M) ex
 ·rw [if_neg cc] at h5
  exact h5.elim
theorem UN {c f : Str} {o value : Expr} {ec ev : IE} {pos' : Pos} (hC : ∀ C, X.mg c = some (.ref C) -> Cls X.K C /\ vM X.K C f) (ha : PE X o (tIe X E ec)) (hv : PE X value (tIe X E ev)) (hs : autoParam (swapsWith value (some (.Attribute o f pos')) pos.line X.env = pure false) qm._auto_1) :
  PS X (.Assign [.Attribute o f pos'] value pos) (TMx X E (Xh c f ec ev)) := by
 refine vK (qba ha hv hs) fun D σ H ⟨Gn, κ, m, R, h⟩ => ⟨Gn, κ, m, R, vT.do_ h fun x _ h1 w H1 s1 hw => ⟨Gn, κ, m, R.more s1, ?_⟩⟩
 refine qk.more (vT.do_ h1 fun y _ h2 w2 H2 s2 hw2 => ?_) s1
 have s12 := s1.trans s2
 cases e : cellAt m y with
 | none => rw [e] at h2; exact h2.elim
 | some q =>
  obtain ⟨n, q⟩ := q
  obtain ⟨rfl, hn⟩ := uf e
  rw [e] at h2
  cases q with
  | lst xs => exact h2.elim
  | ins c' ns xs => exact WI hC (R.more s12) hn hw2 (ItR.ext (Ext.same s2) hw) (vT.later h2 (Ext.same s12))
theorem Ye {c f : Str} {o value : Expr} {ec : IE} {ev : NE} {pos' : Pos} (hC : ∀ C, X.mg c = some (.ref C) -> Cls X.K C /\ vM X.K C f) (ha : PE X o (tIe X E ec)) (hec : autoParam (∀ s μ x, ec ⟨s, μ ++ [x]⟩ = ec ⟨s, μ⟩) qeH._auto_1) (hv : PE X value (tNe X E ev)) (hs : autoParam (swapsWith value (some (.Attribute o f pos')) pos.line X.env = pure false) qm._auto_1) :
  PS X (.Assign [.Attribute o f pos'] value pos) (TMx X E (xy c f ec ev)) := by
 refine vK (qba ha hv hs) fun D σ H ⟨Gn, κ, m, R, h⟩ => ⟨Gn, κ, m, R, vT.do_ h fun xs' _ h1 pn vsn H1 hpn s1 hvn hin => ?_⟩
 obtain ⟨M1, ex1⟩ := R.mem.new (x := .lst xs') s1 hpn ⟨vsn, hvn, hin⟩
 have R1 := R.after ex1 M1
 refine ⟨Gn, κ ++ [pn], ⟨m.s, m.μ ++ [.lst xs']⟩, R1, ?_⟩
 rw [hec m.s m.μ]
 refine qk.more (vT.do_ h1 fun y _ h2 w2 H2 s2 hw2 => ?_) s1
 cases e : cellAt m y with
 | none => rw [e] at h2; exact h2.elim
 | some q =>
  obtain ⟨n, q⟩ := q
  obtain ⟨rfl, hn⟩ := uf e
  rw [e] at h2
  cases q with
  | lst xs => exact h2.elim
  | ins c' ns xs =>
   have hn2 : (m.μ ++ [Cell.lst xs'])[n]? = some (.ins c' ns xs) := by
    rw [List.getElem?_append_left (List.getElem?_eq_some_iff.mp hn).1]
    exact hn
   exact WI (x := .c m.μ.length) hC (R1.more s2) hn2 hw2 ⟨pn, by
    rw [<- R.mem.len, List.getElem?_append_right (Nat.le_refl _), Nat.sub_self]
    rfl, rfl⟩ (vT.later h2 (ex1.trans (Ext.same s2)))
theorem qdv {c : Expr} {a b : List Stmt} {t : RT} {ra rb : RM} (hc : PT X c (TTx X E t)) (ha : PSs X a (TMx X E ra)) (hb : PSs X b (TMx X E rb)) : PS X (.If c a b pos) (TMx X E (mIf t ra rb)) := by
 refine vK (qdB hc ha hb) fun D σ H ⟨Gn, κ, m, R, h⟩ => ⟨_, _, vj R, vT.do_ h fun x _ h1 H1 s1 => ?_⟩
 cases x with
 | true => exact ⟨Gn, κ, m, R.more s1, vT.later h1 (Ext.same s1)⟩
 | false => exact ⟨Gn, κ, m, R.more s1, vT.later h1 (Ext.same s1)⟩
theorem Zu {e : Expr} {ie : IE} (he : PE X e (tIe X E ie)) : PS X (.Return (some e) pos) (TMx X E (XX ie)) := by
 refine vK (jE he) fun D σ H ⟨Gn, κ, m, R, h⟩ => ⟨Gn, κ, m, R, vT.do_ h fun x _ h1 w H' s hw => ?_⟩
 exact h1 w κ H' (R.more s).mem hw (Ext.same s)
theorem qaR {x : Str} {C : Addr} {np cpos : Pos} (g : Gd X E) (hg : Gl X x) (hm : X.mg x = some (.ref C)) (hC : qR X.K C = true) (hd : autoParam ((x == ("__debug__" : Str)) = false) qV._auto_1) : PS X (.Raise (some (.Call (.Name x np) [] [] cpos)) none pos) (TMx X E (Q7 x)) :=
 vK (Yz g.calm g.acc hg hm hC hd) fun D σ H ⟨Gn, κ, m, R, h⟩ => h C H hm fun _ _ e _ => e
end
noncomputable def qa6 (X : Cx) (Gn : Addr -> Prop) (κ : List Addr) (H1 : Hp) (g : TG) (tg : Tg) (J : It) (xs : List DK) : Prop :=
 (∀ (i : Nat) (x : DK) (κ' : List Addr) (σ' : St) (m' m2 : MS) (H2 : Hp), xs[i]? = some x -> MR X.mg X.K Gn κ' H2 σ' m' -> Ext κ H1 κ' H2 -> tg.VO x m' = some m2 ->
  J.go i H2 /\ ∀ v H3, J.yld i H2 v H3 -> ∀ Q : St -> Hp -> Prop, (∀ σ2 H4, MR X.mg X.K Gn κ' H4 σ2 m2 -> qw H2 H4 -> Q σ2 H4) -> g v σ' H3 Q) /\
 ∀ (i : Nat) (κ' : List Addr) (σ' : St) (m' : MS) (H2 : Hp), xs.length <= i -> MR X.mg X.K Gn κ' H2 σ' m' -> Ext κ H1 κ' H2 -> J.stop i H2
noncomputable def tMI (X : Cx) (E : XK) (g : TG) (tg : Tg) (src : MI) : TI := fun σ H R => ∃ Gn κ m, MR X.mg X.K Gn κ H σ m /\ qk X.mg E H (src m) fun xs => ∀ J H1, qw H H1 -> qa6 X Gn κ H1 g tg J xs -> R J H1
theorem ux {i : Nat} {x : DK} {y : Itm} {s : List (Option Itm)} (h : qE x = some y) : put i x (s.map zN) = some ((s.set i (some y)).map zN) := by
 obtain ⟨d, k⟩ := x
 unfold qE at h
 dsimp only at h
 rw [List.map_set]
 by_cases c : d.sc = true
 ·rw [if_pos c] at h
  cases h
  cases k with
  | bo => exact if_pos c
  | sh => show some ((s.map zN).set i (y6 (d, if d.sc = true then .nw else .sh))) = _; rw [if_pos c]; rfl
  | nw => show some ((s.map zN).set i (y6 (d, if d.sc = true then .nw else .nw))) = _; rw [if_pos c]; rfl
  | fr => show some ((s.map zN).set i (y6 (d, if d.sc = true then .nw else .fr))) = _; rw [if_pos c]; rfl
 ·rw [if_neg c] at h
  cases k with
  | bo => cases h
  | sh => cases h; show some ((s.map zN).set i (y6 (d, if d.sc = true then .nw else .sh))) = _; rw [if_neg c]; rfl
  | nw => cases h; show some ((s.map zN).set i (y6 (d, if d.sc = true then .nw else .nw))) = _; rw [if_neg c]; rfl
  | fr => cases h; show some ((s.map zN).set i (y6 (d, if d.sc = true then .nw else .fr))) = _; rw [if_neg c]; rfl
theorem JJ {tg : Tg} {x : DK} {m m2 : MS} (h : tg.VO x m = some m2) : tg.put x (vL m) = some (vL m2) := by
 cases tg with
 | one i =>
  have h : (qE x).map (fun y => (⟨m.s.set i (some y), m.μ⟩ : MS)) = some m2 := h
  cases e : qE x with
  | none => rw [e] at h; cases h
  | some y => rw [e] at h; cases h; exact ux e
 | two i j =>
  obtain ⟨d, k⟩ := x
  match d, h with
  | .tup [a, b], h =>
   have h : (qE (a, k)).bind (fun y => (qE (b, k)).map fun z => (⟨(m.s.set i (some y)).set j (some z), m.μ⟩ : MS)) = some m2 := h
   cases e : qE (a, k) with
   | none => rw [e] at h; cases h
   | some y =>
    cases e2 : qE (b, k) with
    | none => rw [e, e2] at h; cases h
    | some z =>
     rw [e, e2] at h
     cases h
     show (put i (a, k) (m.s.map zN)).bind (put j (b, k)) = _
     rw [ux e]
     exact ux e2
theorem VE {x : DK} {n : Nat} (h : qE x = some (.c n)) : False := by
 obtain ⟨d, k⟩ := x
 unfold qE at h
 dsimp only at h
 by_cases c : d.sc = true
 ·rw [if_pos c] at h; cases h
 ·rw [if_neg c] at h
  cases k <;> cases h
theorem VP {s : List (Option Itm)} {i l n : Nat} {y : Itm} (h : (s.set i (some y))[l]? = some (some (.c n))) (hy : ∀ n, y ≠ .c n) : i ≠ l /\ s[l]? = some (some (.c n)) := by
 by_cases c : i = l
 ·subst c
  by_cases hi : i < s.length
  ·rw [List.getElem?_set_self hi] at h
   exact absurd (Option.some.inj (Option.some.inj h)) (hy n)
  ·rw [List.getElem?_eq_none (by rw [List.length_set]; lia)] at h
   cases h
 ·rw [List.getElem?_set_ne c] at h
  exact ⟨c, h⟩
theorem Jr {tg : Tg} {x : DK} {m m2 : MS} {l n : Nat} {σ σ2 : St} (h : tg.VO x m = some m2) (st : tg.sets σ σ2) (e : m2.s[l]? = some (some (.c n))) : m.s[l]? = some (some (.c n)) /\ σ2[l]? = σ[l]? := by
 cases tg with
 | one i =>
  have h : (qE x).map (fun y => (⟨m.s.set i (some y), m.μ⟩ : MS)) = some m2 := h
  cases q : qE x with
  | none => rw [q] at h; cases h
  | some y =>
   rw [q] at h
   cases h
   obtain ⟨c, r⟩ := VP e (fun n z => by rw [z] at q; exact VE q)
   obtain ⟨v, rfl⟩ := st
   exact ⟨r, List.getElem?_set_ne c⟩
 | two i j =>
  obtain ⟨d, k⟩ := x
  match d, h with
  | .tup [a, b], h =>
   have h : (qE (a, k)).bind (fun y => (qE (b, k)).map fun z => (⟨(m.s.set i (some y)).set j (some z), m.μ⟩ : MS)) = some m2 := h
   cases q : qE (a, k) with
   | none => rw [q] at h; cases h
   | some y =>
    cases q2 : qE (b, k) with
    | none => rw [q, q2] at h; cases h
    | some z =>
     rw [q, q2] at h
     cases h
     obtain ⟨c2, r2⟩ := VP e (fun n w => by rw [w] at q2; exact VE q2)
     obtain ⟨c1, r1⟩ := VP r2 (fun n w => by rw [w] at q; exact VE q)
     obtain ⟨v, w, rfl⟩ := st
     exact ⟨r1, by rw [List.getElem?_set_ne c2, List.getElem?_set_ne c1]⟩
theorem qcv {tg : Tg} {x : DK} {m m2 : MS} (h : tg.VO x m = some m2) : m2.μ = m.μ := by
 cases tg with
 | one i =>
  have h : (qE x).map (fun y => (⟨m.s.set i (some y), m.μ⟩ : MS)) = some m2 := h
  cases q : qE x with
  | none => rw [q] at h; cases h
  | some y => rw [q] at h; cases h; rfl
 | two i j =>
  obtain ⟨d, k⟩ := x
  match d, h with
  | .tup [a, b], h =>
   have h : (qE (a, k)).bind (fun y => (qE (b, k)).map fun z => (⟨(m.s.set i (some y)).set j (some z), m.μ⟩ : MS)) = some m2 := h
   cases q : qE (a, k) with
   | none => rw [q] at h; cases h
   | some y =>
    cases q2 : qE (b, k) with
    | none => rw [q, q2] at h; cases h
    | some z => rw [q, q2] at h; cases h; rfl
theorem qbN {mg : Str -> Option Value} {K : PySem.W.Frag} {Gn : Addr -> Prop} {κ κ' : List Addr} {H H2 H4 : Hp} {σ' σ2 : St} {m' m2 : MS} {tg : Tg} {x : DK} (hg : ∀ a, H a = none -> Gn a) (e : Ext κ H κ' H2) (R' : MR mg K Gn κ' H2 σ' m') (s : qw H2 H4) (R4 : Rl mg K (B1 Gn κ H κ') H4 σ2 (vL m2)) (st : tg.sets σ' σ2) (hp : tg.VO x m' = some m2) : MR mg K Gn κ' H4 σ2 m2 := by
 refine ⟨by rw [qcv hp]; exact R'.mem.more s, ?_, fun l y q => ?_⟩
 ·have := R4.len
  unfold vL at this
  rw [List.length_map] at this
  exact this
 ·cases y with
  | c n =>
   obtain ⟨q1, q2⟩ := Jr hp st q
   rw [q2]
   obtain ⟨w, g1, g2⟩ := R'.sl l _ q1
   exact ⟨w, g1, g2.ext (Ext.same s)⟩
  | v d k =>
   obtain ⟨w, g1, g2⟩ := R4.val l d k (by unfold vL; rw [List.getElem?_map, q]; rfl)
   refine ⟨w, g1, Rp.weak g2 fun a g => ?_⟩
   have n : a ∉ κ' := fun z => g.1 (.inl z)
   refine ⟨n, fun z => u9 hg (g.2 z) fun y => n ?_⟩
   obtain ⟨i, hi, w⟩ := List.mem_iff_getElem.mp y
   exact List.mem_of_getElem? (e.pre i a (by rw [List.getElem?_eq_getElem hi, w]))
section
variable {X : Cx} {E : XK} {pos : Pos}
theorem qe4 {tgE iter : Expr} {g : TG} {tg : Tg} {src : RI} (h : PI X tgE iter (tI X E g tg src)) : PI X tgE iter (tMI X E g tg (qdP src)) := by
 refine zW h fun σ H R ⟨Gn, κ, m, R0, h⟩ => ⟨_, _, ye Ext.refl R0, ?_⟩
 refine qk.imp (qk.bind h) fun x h1 J H1 s1 W => ?_
 obtain ⟨fl, xs⟩ := x
 cases fl with
 | false => exact h1.elim
 | true =>
  refine h1 J H1 s1 ⟨fun i x κ' σ' m' m2 H2 hx R' e hp => ?_, fun i κ' σ' m' H2 hi R' e => ?_⟩
  ·have e0 : Ext κ H κ' H2 := (Ext.same s1).trans e
   have kp : Kp true (B1 Gn κ H κ) (B1 Gn κ H κ') σ (vL m) H1 σ' (vL m') H2 := ⟨rfl, fun b o q n => ⟨e.keep b o q fun z => n (.inl z), fun z => by
    rcases e.old b (Um z) with y | y
    ·exact n (.inl y)
    ·rw [q] at y; cases y⟩, fun z => nomatch z⟩
   obtain ⟨go, yl⟩ := W.1 (B1 Gn κ H κ') i x σ' (vL m') (vL m2) H2 hx (ye e0 R') kp (JJ hp)
   refine ⟨go, fun v H3 hy Q hQ => yl v H3 hy Q fun σ2 H4 R4 _ s4 st4 => hQ σ2 H4 (qbN R0.mem.gl e0 R' s4 R4 st4 hp) s4⟩
  ·have e0 : Ext κ H κ' H2 := (Ext.same s1).trans e
   have kp : Kp true (B1 Gn κ H κ) (B1 Gn κ H κ') σ (vL m) H1 σ' (vL m') H2 := ⟨rfl, fun b o q n => ⟨e.keep b o q fun z => n (.inl z), fun z => by
    rcases e.old b (Um z) with y | y
    ·exact n (.inl y)
    ·rw [q] at y; cases y⟩, fun z => nomatch z⟩
   exact W.2 (B1 Gn κ H κ') i σ' (vL m') H2 hi (ye e0 R') kp
theorem uz {tgE iter : Expr} {body : List Stmt} {g : TG} {tg : Tg} {src : MI} {rb : RM} (G : Gd X E) (hi : PI X tgE iter (tMI X E g tg src)) (hg : PG X tgE g) (hb : PSs X body (TMx X E rb)) (hs : autoParam (∀ x, foldedSetIterable iter X.env x = pure x) yB._auto_1) :
  PS X (.For tgE iter body [] pos) (TMx X E (uq tg src rb)) := by
 refine vK (qaj G.own G.calm hi hg hb hs) fun D σ H ⟨Gn, κ, m, R, h⟩ => ⟨Gn, κ, m, R, vT.do_ h fun xs _ h0 J H1 s1 W => ?_⟩
 have h1 := vT.later h0 (Ext.same s1)
 refine ⟨fun i k σ' H' => k = xs.length - i /\ i <= xs.length /\ ∃ κ' m', MR X.mg X.K Gn κ' H' σ' m' /\ Ext κ H1 κ' H' /\ vT X.mg X.K E Gn κ' H' (w6 tg rb (xs.drop i) m') D, ⟨xs.length, by lia, Nat.zero_le _, κ, m, R.more s1, Ext.refl, h1⟩, ?_⟩
 rintro i k σ' H' ⟨rfl, hi, κ', m', R', f', h'⟩
 by_cases hlt : i < xs.length
 ·right
  have hx : xs[i]? = some xs[i] := List.getElem?_eq_getElem hlt
  rw [List.drop_eq_getElem_cons hlt] at h'
  unfold w6 at h'
  cases hp : tg.VO xs[i] m' with
  | none => rw [hp] at h'; exact h'.elim
  | some m2 =>
   rw [hp] at h'
   obtain ⟨go, yl⟩ := W.1 i xs[i] κ' σ' m' m2 H' hx R' f' hp
   refine ⟨go, fun σ2 H2 => i + 1 <= xs.length /\ ∃ κ2 m3, MR X.mg X.K Gn κ2 H2 σ2 m3 /\ Ext κ H1 κ2 H2 /\ vT X.mg X.K E Gn κ2 H2 (w6 tg rb (xs.drop (i + 1)) m3) D, fun σ2 H2 ⟨q1, κ2, m3, q2, q3, q4⟩ => ⟨xs.length - (i + 1), by lia, rfl, q1, κ2, m3, q2, q3, q4⟩, fun v H3 hy => ?_⟩
   refine yl v H3 hy _ fun σ2 H4 R2 s4 => ⟨Gn, κ', m2, R2, ?_⟩
   have f4 := f'.trans (Ext.same s4)
   dsimp only at h'
   cases hb : rb m2 with
   | nx m3 => rw [hb] at h'; exact fun κ3 σ3 H5 R3 f3 => ⟨hlt, κ3, m3, R3, f4.trans f3, vT.later h' ((Ext.same s4).trans f3)⟩
   | ct m3 => rw [hb] at h'; exact fun κ3 σ3 H5 R3 f3 => ⟨hlt, κ3, m3, R3, f4.trans f3, vT.later h' ((Ext.same s4).trans f3)⟩
   | bk m3 => rw [hb] at h'; exact fun κ3 σ3 H5 R3 f3 => h' κ3 σ3 H5 R3 ((Ext.same s4).trans f3)
   | rt x μ => rw [hb] at h'; exact vT.later (o := .rt x μ) h' (Ext.same s4)
   | er c => rw [hb] at h'; exact vT.later (o := .er c) h' (Ext.same s4)
   | no => rw [hb] at h'; exact h'
 ·left
  have e : i = xs.length := by lia
  subst e
  rw [List.drop_length] at h'
  exact ⟨W.2 _ κ' σ' m' H' (Nat.le_refl _) R' f', h' κ' σ' H' R' Ext.refl⟩
theorem ZX {i : Nat} {z : Int} {κ' : List Addr} {σ' : St} {m' m2 : MS} {H2 : Hp} {Gn : Addr -> Prop} (R' : MR X.mg X.K Gn κ' H2 σ' m') (hp : (Tg.one i).VO (.int z, .nw) m' = some m2) : MR X.mg X.K Gn κ' H2 (σ'.set i (some (.int z))) m2 := by
 have hp : (some ⟨m'.s.set i (some (.v (.int z) true)), m'.μ⟩ : Option MS) = some m2 := hp
 cases hp
 exact R'.qcf (Rp.int z)
theorem jN {i : Nat} {tgE a : Expr} {r : RE} {p : Pos} (hg : Gl X "range") (hm : X.mg "range" = none) (ha : PE X a (TEx X E r)) (hs : autoParam (starEach [a] X.env = [(false, eval a X.env)]) qm._auto_1) : PI X tgE (.Call (.Name "range" p) [a] [] pos) (tMI X E (wz i) (.one i) (qS (vU r))) := by
 refine zW (WM hg hm (vH ha zp hs) hs) fun σ H R ⟨Gn, κ, m, R0, h⟩ => ⟨_, _, vj R0, ?_⟩
 refine qk.imp (qk.bind (qk.bind h)) fun x h1 v H1 s1 vr => ?_
 obtain ⟨d, k⟩ := x
 obtain ⟨z, e, g9⟩ := qfj h1
 clear h1
 subst e
 by_cases c : -1000000 < z /\ z < 1000000
 ·rw [if_pos c] at g9
  have ev := qM (vj R0) vr
  subst ev
  refine ⟨z, rfl, by lia, by lia, g9 _ H1 s1 ⟨fun n x κ' σ' m' m2 H2 hx R' f hp => ?_, fun n κ' σ' m' H2 hn R' f => (show z.toNat <= n by rw [List.length_map, List.length_range] at hn; exact hn)⟩⟩
  rw [List.getElem?_map] at hx
  cases hd : (List.range z.toNat)[n]? with
  | none => rw [hd] at hx; cases hx
  | some l =>
   rw [hd] at hx
   cases hx
   obtain ⟨hlt, e⟩ := List.getElem?_eq_some_iff.mp hd
   rw [List.length_range] at hlt
   rw [List.getElem_range] at e
   subst e
   refine ⟨hlt, fun u H3 hy Q hQ => ?_⟩
   obtain ⟨rfl, rfl⟩ := hy
   refine hQ _ _ ?_ fun _ _ e => e
   rw [Int.zero_add]
   exact ZX R' hp
 ·rw [if_neg c] at g9
  exact g9.elim
theorem WV {i : Nat} {tgE a b : Expr} {r q : RE} {p : Pos} (hg : Gl X "range") (hm : X.mg "range" = none) (ha : PE X a (TEx X E r)) (hb : PE X b (TEx X E q)) (hs : autoParam (starEach [a, b] X.env = [(false, eval a X.env), (false, eval b X.env)]) qm._auto_1) (hs2 : autoParam (starEach [b] X.env = [(false, eval b X.env)]) qm._auto_1) :
  PI X tgE (.Call (.Name "range" p) [a, b] [] pos) (tMI X E (wz i) (.one i) (qS (wW r q))) := by
 refine zW (WH hg hm (vH ha (vH hb zp hs2) (by rw [hs, hs2])) hs hs2) fun σ H R ⟨Gn, κ, m, R0, h⟩ => ⟨_, _, vj R0, ?_⟩
 refine qk.imp (qk.bind (qk.bind h)) fun x h1 v H1 s1 vr => ⟨_, _, vj (R0.more s1), ?_⟩
 refine qk.imp (qk.more (qk.bind h1) s1) fun y h2 w H2 s2 vw => ?_
 obtain ⟨d, k⟩ := x
 obtain ⟨d', k'⟩ := y
 obtain ⟨z, y, e, e2, g9⟩ := qff h2
 clear h2
 subst e e2
 by_cases c : (-1000000 < z /\ z < 1000000) /\ -1000000 < y /\ y < 1000000
 ·rw [if_pos c] at g9
  have ev := qM (vj R0) vr
  subst ev
  have ew := qM (vj (R0.more s1)) vw
  subst ew
  refine ⟨z, y, rfl, by lia, g9 _ H2 (s1.trans s2) ⟨fun n x κ' σ' m' m2 H2 hx R' f hp => ?_, fun n κ' σ' m' H2 hn R' f => (show (y - z).toNat <= n by rw [List.length_map, List.length_range] at hn; exact hn)⟩⟩
  rw [List.getElem?_map] at hx
  cases hd : (List.range (y - z).toNat)[n]? with
  | none => rw [hd] at hx; cases hx
  | some l =>
   rw [hd] at hx
   cases hx
   obtain ⟨hlt, e⟩ := List.getElem?_eq_some_iff.mp hd
   rw [List.length_range] at hlt
   rw [List.getElem_range] at e
   subst e
   refine ⟨hlt, fun u H3 hy Q hQ => ?_⟩
   obtain ⟨rfl, rfl⟩ := hy
   exact hQ _ _ (ZX R' hp) fun _ _ e => e
 ·rw [if_neg c] at g9
  exact g9.elim
end
noncomputable def qaE (mg : Str -> Option Value) (K : PySem.W.Frag) (E : XK) (Gn : Addr -> Prop) (κ : List Addr) (H : Hp) (o : qbx) (Q : VK) : Prop := match o with
 | .ok x μ => ∀ w κ' H', Mem mg K Gn κ' H' μ -> ItR mg K Gn κ' H' w x -> Ext κ H κ' H' -> Q w H'
 | .er c => ∀ C H', mg c = some (.ref C) -> (∀ a o, H a = some o -> a ∉ κ -> H' a = some o) -> E (.ref C) none H'
 | .no => False
noncomputable def spM (mg : Str -> Option Value) (K : PySem.W.Frag) (n : Nat) (g : Fm) : Sp := fun vs H Q E => ∃ Gn κ μ xs, xs.length = n /\ Mem mg K Gn κ H μ /\ Its mg K Gn κ H vs xs /\ qaE mg K E Gn κ H (g xs μ) Q
noncomputable def FdM (P : Program) (w : World) (K : PySem.W.Frag) (mg : Str -> Option Value) (base : Heap) (k : Nat) (x : Str) (n : Nat) (g : Fm) : Prop :=
 ∃ (f : Addr) (fd : FuncData) (ps : List Str), y4 P w K mg base (CX1 P w) k f fd ps (spM mg K n g) /\ mg x = some (.ref f) /\ PySem.W.keepIn K (.ref f) = true /\ Binds K fd ps []
noncomputable def FdI (P : Program) (w : World) (K : PySem.W.Frag) (mg : Str -> Option Value) (base : Heap) (k : Nat) (c : Str) (n : Nat) (g : Fm) : Prop :=
 ∃ (C f : Addr) (fd : FuncData) (ps : List Str), Mk K C f /\ y4 P w K mg base (CX1 P w) k f fd ps (spM mg K n g) /\ mg c = some (.ref C) /\ Binds K fd ps []
theorem mr0 {mg : Str -> Option Value} {K : PySem.W.Frag} {Gn : Addr -> Prop} {κ : List Addr} {H : Hp} {N : List Str} {vs : List V} {xs : List Itm} {μ : List Cell} (M : Mem mg K Gn κ H μ) (r : Its mg K Gn κ H vs xs) : MR mg K Gn κ H (start N vs) ⟨ms0 N xs, μ⟩ := by
 refine ⟨M, ?_, fun i x e => ?_⟩
 ·unfold start ms0
  rw [List.length_append, List.length_append, List.length_map, List.length_map, List.length_replicate, List.length_replicate, r.len]
 ·have e : (ms0 N xs)[i]? = some (some x) := e
  unfold ms0 at e
  by_cases h : i < xs.length
  ·rw [List.getElem?_append_left (by rw [List.length_map]; exact h), List.getElem?_map, List.getElem?_eq_getElem h] at e
   have e2 : xs[i]? = some x := by rw [List.getElem?_eq_getElem h]; exact Option.some.inj e
   obtain ⟨w, h1, h2⟩ := r.get e2
   refine ⟨w, ?_, h2⟩
   have hl : i < vs.length := (List.getElem?_eq_some_iff.mp h1).1
   unfold start
   rw [List.getElem?_append_left (by rw [List.length_map]; exact hl), List.getElem?_map, h1]
   rfl
  ·rw [List.getElem?_append_right (by rw [List.length_map]; lia)] at e
   have := (List.mem_replicate.mp (List.mem_of_getElem? e)).2
   cases this
section
variable {P : Program} {w : World} {K : PySem.W.Frag} {mg : Str -> Option Value} {base : Heap}
theorem Xp {x q : Str} {st : Stmt} {f : Addr} {fd : FuncData} {N ps : List Str} {k n : Nat} {r : RM} (F : Fun K x q st f fd) (S : qu N ps (qf st)) (hn : ps.length = n)
  (body : ∀ (cdv : Value) (A : Around) (outer : List Env) (s : Shared) (H : Hp) (E : XK), wG k (A.deeper (envOfC q (qf st) s.heap.objs.size f cdv)) ->
   PSs (uK P w K mg base N q (qf st) f cdv A outer s H E) (vE st) (tM mg K E r)) : y4 P w K mg base (CX1 P w) (k + 1) f fd ps (spM mg K n fun xs μ => xK (r ⟨ms0 N xs, μ⟩)) := by
 obtain ⟨oc, od, kV, doc, pm, an, cdv, ct, osl, rfl, lk, hcd⟩ := F.ex
 refine U5 lk hcd S ?_ fun A outer s H vs Q E hroom hsp => ?_
 ·rintro vs H Q E ⟨Gn, κ, μ, xs, hl, _, rp, _⟩
  rw [rp.len, hl, hn]
 ·obtain ⟨Gn, κ, μ, xs, hl, M, rp, h⟩ := hsp
  refine ⟨_, VI (body cdv A outer s H E hroom) Zz, Gn, κ, ⟨ms0 N xs, μ⟩, mr0 M rp, ?_⟩
  have h : qaE mg K E Gn κ H (xK (r ⟨ms0 N xs, μ⟩)) Q := h
  cases ho : r ⟨ms0 N xs, μ⟩ with
  | rt x μ' => rw [ho] at h; exact fun w κ' H' M' r' e => h w κ' H' M' r' e
  | nx m' => rw [ho] at h; exact fun κ' σ' H' R e => h .non κ' H' R.mem Rp.non e
  | er c => rw [ho] at h; exact fun C H' e s => h C H' e s
  | bk m' => rw [ho] at h; exact h.elim
  | ct m' => rw [ho] at h; exact h.elim
  | no => rw [ho] at h; exact h.elim
theorem qdO {x : Str} {st : Stmt} {f : Addr} {fd : FuncData} {N ps : List Str} {k n : Nat} {r : RM} {g : Fm} (F : Fun K x x st f fd) (S : qu N ps (qf st)) (hm : mg x = some (.ref f)) (hb : Binds K fd ps []) (hn : ps.length = n)
  (body : ∀ (cdv : Value) (A : Around) (outer : List Env) (s : Shared) (H : Hp) (E : XK), wG k (A.deeper (envOfC x (qf st) s.heap.objs.size f cdv)) ->
   PSs (uK P w K mg base N x (qf st) f cdv A outer s H E) (vE st) (tM mg K E r)) (hg : ∀ xs μ, g xs μ = xK (r ⟨ms0 N xs, μ⟩)) : FdM P w K mg base (k + 1) x n g := by
 have e : g = fun xs μ => xK (r ⟨ms0 N xs, μ⟩) := by funext xs μ; exact hg xs μ
 rw [e]
 exact ⟨f, fd, ps, Xp F S hn body, hm, F.kp, hb⟩
end
theorem W8 {mg : Str -> Option Value} {K : PySem.W.Frag} {Gn : Addr -> Prop} {κ : List Addr} {H : Hp} {μ : List Cell} (M : Mem mg K Gn κ H μ) (hk : ∀ p ∈ κ, Gn p) : ∀ (f : Nat) (w : V) (x : Itm) (d : D), zy μ f x = some d -> ItR mg K Gn κ H w x -> Rp mg K Gn H w d
 | f, w, .v d k, d', e, h => by
  have e : (if d.sc = true \/ k = true then some d else none) = some d' := by cases f <;> exact e
  by_cases c : d.sc = true \/ k = true
  ·rw [if_pos c] at e
   cases e
   rcases c with c | c
   ·rw [Rp.sc h c]
    exact Rp.wL c
   ·exact Rp.weak h fun a g => g.2 c
  ·rw [if_neg c] at e
   cases e
 | 0, w, .c n, d, e, h => by cases e
 | f + 1, w, .c n, d, e, h => by
  obtain ⟨p, hp, rfl⟩ := h
  have gp : Gn p := hk p (List.mem_of_getElem? hp)
  unfold zy at e
  cases hn : μ[n]? with
  | none => rw [hn] at e; cases e
  | some y =>
   rw [hn] at e
   have q := M.cel n p y hp hn
   cases y with
   | lst xs =>
    obtain ⟨vs, q1, q2⟩ := q
    cases hm : xs.mapM (zy μ f) with
    | none => dsimp only at e; rw [hm] at e; cases e
    | some ds =>
     dsimp only at e
     rw [hm] at e
     cases e
     exact .lst gp (.of q1) (yL (fun w x d e h => W8 M hk f w x d e h) q2 hm)
   | ins c ns xs =>
    obtain ⟨C, dx, vs, q0, q1, ql, q2⟩ := q
    cases hm : xs.mapM (zy μ f) with
    | none => dsimp only at e; rw [hm] at e; cases e
    | some ds =>
     dsimp only at e
     rw [hm] at e
     cases e
     exact .obj gp q0 q1 ql (yL (fun w x d e h => W8 M hk f w x d e h) q2 hm)
section
variable {P : Program} {w : World} {K : PySem.W.Frag} {mg : Str -> Option Value} {base : Heap}
theorem qdD {x : Str} {st : Stmt} {f : Addr} {fd : FuncData} {N ps : List Str} {k n : Nat} {r : RM} {g : Fn} (F : Fun K x x st f fd) (S : qu N ps (qf st)) (hm : mg x = some (.ref f)) (hb : Binds K fd ps []) (hn : ps.length = n)
  (body : ∀ (cdv : Value) (A : Around) (outer : List Env) (s : Shared) (H : Hp) (E : XK), wG k (A.deeper (envOfC x (qf st) s.heap.objs.size f cdv)) ->
   PSs (uK P w K mg base N x (qf st) f cdv A outer s H E) (vE st) (tM mg K E r)) (hg : ∀ ds, g ds = QD (r ⟨ms0 N (it0 ds), []⟩)) : Fd P w K mg base (k + 1) x n g := by
 refine ⟨f, fd, ps, y4.imp (Xp F S hn body) fun vs H Q E ⟨ds, hl, rp, h⟩ => ?_, hm, F.kp, hb⟩
 refine ⟨fun a => H a = none, [], [], it0 ds, by unfold it0; rw [List.length_map]; exact hl, ⟨List.nodup_nil, rfl, fun n p x e _ => (by simp at e), fun a e => e⟩, ?_, ?_⟩
 ·exact Its.vals (rp.weak fun a _ => ⟨(fun z => by cases z), fun z => by cases z⟩)
 rw [hg ds] at h
 show qaE mg K E (fun a => H a = none) [] H (xK (r ⟨ms0 N (it0 ds), []⟩)) Q
 cases ho : r ⟨ms0 N (it0 ds), []⟩ with
 | bk m' => rw [ho] at h; exact h.elim
 | ct m' => rw [ho] at h; exact h.elim
 | no => rw [ho] at h; exact h.elim
 | er c => rw [ho] at h; exact fun C H' e s => h C H' e fun a o q => s a o q (fun z => nomatch z)
 | nx m' =>
  rw [ho] at h
  intro w κ' H' M' r' e
  have h : ∀ v H', qw H H' -> RR mg K H H' false v .non -> Q v H' := h
  cases r' with
  | non => exact h .non H' (fun a o q => e.keep a o q (fun z => nomatch z)) Rp.non
 | rt x μ' =>
  rw [ho] at h
  intro w κ' H' M' r' e
  have sm : qw H H' := fun a o q => e.keep a o q (fun z => nomatch z)
  have hk : ∀ p ∈ κ', H p = none := fun p hp => (e.old p hp).elim (fun z => nomatch z) id
  have h : qk mg E H (Zv μ' x) fun y => ∀ v H', qw H H' -> RR mg K H H' y.2 v y.1 -> Q v H' := h
  unfold Zv at h
  cases hv : zy μ' 3 x with
  | none => rw [hv] at h; exact h.elim
  | some d =>
   rw [hv] at h
   have rp2 := W8 (Gn := fun a => H a = none) M' hk 3 w x d hv r'
   cases x with
   | v d' k' =>
    have h : ∀ v H', qw H H' -> RR mg K H H' false v d -> Q v H' := by cases d <;> exact h
    exact h w H' sm rp2
   | c n' =>
    cases d with
    | lst ds' =>
     have h : ∀ v H', qw H H' -> RR mg K H H' (ds'.all D.sc) v (.lst ds') -> Q v H' := h
     refine h w H' sm ?_
     cases c : ds'.all D.sc with
     | false => exact rp2
     | true =>
      obtain ⟨p, hp, rfl⟩ := r'
      have e3 : (match μ'[n']? with
       | some (.lst xs) => (xs.mapM (zy μ' 2)).map D.lst
       | some (.ins c ns xs) => (xs.mapM (zy μ' 2)).map (D.obj c ns)
       | none => none) = some (.lst ds') := hv
      cases hn' : μ'[n']? with
      | none => rw [hn'] at e3; cases e3
      | some y =>
       rw [hn'] at e3
       cases y with
       | ins c ns xs =>
        dsimp only at e3
        cases hm' : xs.mapM (zy μ' 2) with
        | none => rw [hm'] at e3; cases e3
        | some es => rw [hm'] at e3; cases e3
       | lst xs =>
        dsimp only at e3
        cases hm' : xs.mapM (zy μ' 2) with
        | none => rw [hm'] at e3; cases e3
        | some es =>
         rw [hm'] at e3
         cases e3
         obtain ⟨vs', q1, q2⟩ := M'.cel n' p _ hp hn'
         have ra := yL (fun w x d e h => W8 M' hk 2 w x d e h) q2 hm'
         refine ⟨p, _, rfl, rfl, c, hk p (List.mem_of_getElem? hp), ?_⟩
         rw [q1, ra.sc c]
    | obj c ns ds' => exact h w H' sm rp2
    | non => exact h w H' sm rp2
    | bl b => exact h w H' sm rp2
    | int z => exact h w H' sm rp2
    | tup ts => exact h w H' sm rp2
    | fn y => exact h w H' sm rp2
end
section
variable {X : Cx} {E : XK} {pos : Pos}
theorem qaV {g : Fm} {n : Nat} {es : List IE} {σ : St} {H : Hp} {Q : VK} (hn : es.length = n)
  (h : ∃ Gn κ m, MR X.mg X.K Gn κ H σ m /\ qk X.mg E H (xm es m) fun xs => ∀ vs H1, qw H H1 -> Its X.mg X.K Gn κ H1 vs xs -> qaE X.mg X.K E Gn κ H1 (g xs m.μ) Q) : qbk (spM X.mg X.K n g) [] E (tMA X E es) σ H Q := by
 obtain ⟨Gn, κ, m, R, h⟩ := h
 refine ⟨Gn, κ, m, R, ?_⟩
 have hl : ∀ {es : List IE} {xs : List Itm}, xm es m = .ok xs -> xs.length = es.length := by
  intro es
  induction es with
  | nil => intro xs e; cases e; rfl
  | cons e es ih =>
   intro xs h
   have h : (e m).bind (fun x => (xm es m).bind fun xs => .ok (x :: xs)) = .ok xs := h
   cases h1 : e m with
   | er c => rw [h1] at h; cases h
   | no => rw [h1] at h; cases h
   | ok x =>
    cases h2 : xm es m with
    | er c => rw [h1, Rs.ve, h2] at h; cases h
    | no => rw [h1, Rs.ve, h2] at h; cases h
    | ok ys =>
     rw [h1, Rs.ve, h2] at h
     cases h
     rw [List.length_cons, List.length_cons, ih h2]
 cases ha : xm es m with
 | er c => rw [ha] at h; exact h
 | no => rw [ha] at h; exact h
 | ok xs =>
  rw [ha] at h
  intro vs H1 s1 r
  exact ⟨Gn, κ, m.μ, xs, by rw [hl ha, hn], (R.more s1).mem, by rw [List.append_nil]; exact r, h vs H1 s1 r⟩
theorem qd2 {Gn : Addr -> Prop} {κ : List Addr} {H H1 : Hp} {D : Ends} {o : qbx} {Q : VK} {f : Itm -> List Cell -> vX} (s1 : qw H H1)
  (h : vT X.mg X.K E Gn κ H (match o with | .ok x μ => f x μ | .er c => .er c | .no => .no) D) (k : ∀ x μ, vT X.mg X.K E Gn κ H1 (f x μ) D -> ∀ w κ' H', Mem X.mg X.K Gn κ' H' μ -> ItR X.mg X.K Gn κ' H' w x -> Ext κ H1 κ' H' -> Q w H') : qaE X.mg X.K E Gn κ H1 o Q := by
 cases o with
 | ok x μ => exact k x μ (vT.later h (Ext.same s1))
 | er c => exact vT.later (o := .er c) h (Ext.same s1)
 | no => exact h.elim
theorem uU {x : Str} {p : Pos} {e : Expr} {es : List Expr} {ies : List IE} {g : Fm} {n k : Nat} (acc : Acc X E) (F : FdM X.prog X.w X.K X.mg X.base k x n g) (hr : wG k X.A) (hg : Gl X x) (hn : ies.length = n) (ha : PA X (e :: es) (tMA X E ies))
  (hdb : autoParam ((x == ("__debug__" : Str)) = false) qV._auto_1) (he : autoParam (starEach (e :: es) X.env = (false, eval e X.env) :: starEach es X.env) qm._auto_1) {cpos : Pos} (hpl : autoParam ((backTo cpos (starEach es X.env)).any (·.1) = false) qm._auto_1) (hs : autoParam (swapsWith (.Call (.Name x p) (e :: es) [] cpos) none pos.line X.env = pure false) qm._auto_1) :
  PS X (.Expr (.Call (.Name x p) (e :: es) [] cpos) pos) (TMx X E (yd g ies)) := by
 obtain ⟨f, fd, ps, F, hm, hk, hb⟩ := F
 refine vK (ZT (UM F hr hg hm hk hb .nil (xR acc) ha hdb he hpl) hs) fun D σ H ⟨Gn, κ, m, R, h⟩ => qaV hn ⟨Gn, κ, m, R, ?_⟩
 refine vT.do_ h fun xs _ h1 vs H1 s1 r => qd2 (f := fun _ μ => .nx ⟨m.s, μ⟩) s1 h1 fun x μ h2 w κ' H' M _ ex => ?_
 exact h2 κ' σ H' ((R.more s1).after ex M) ex
theorem qak (i : Nat) {c y : Str} {p pos' : Pos} {e : Expr} {es : List Expr} {ies : List IE} {g : Fm} {n k : Nat} (G : Gd X E) (F : FdI X.prog X.w X.K X.mg X.base k c (n + 1) g) (hr : wG (k + 1) X.A) (hg : Gl X c) (hn : ies.length = n) (ha : PA X (e :: es) (tMA X E ies))
  (hdb : autoParam ((c == ("__debug__" : Str)) = false) qV._auto_1) (he : autoParam (starEach (e :: es) X.env = (false, eval e X.env) :: starEach es X.env) qm._auto_1) {cpos : Pos} (hpl : autoParam ((backTo cpos (starEach es X.env)).any (·.1) = false) qm._auto_1)
  (hi : autoParam (X.N[i]? = some y) qm._auto_1) (hx : autoParam (Loc X.env.scope y) Vd._auto_1) (hs : autoParam (swapsWith (.Call (.Name c p) (e :: es) [] cpos) (some (.Name y pos')) pos.line X.env = pure false) qm._auto_1)
  (hf : autoParam (X.fn y = true \/ X.env.scope.names.lookup y = some .local) Vv._auto_1) (hret : ∀ xs μ x μ', g xs μ = .ok x μ' -> x = .v .non true) : PS X (.Assign [.Name y pos'] (.Call (.Name c p) (e :: es) [] cpos) pos) (TMx X E (X1 i c g ies)) := by
 obtain ⟨C, f, fd, ps, Mk, F, hm, hb⟩ := F
 refine vK (VC G.nd hi hx (qcB Mk F hr hg hm hb .nil (xR G.acc) ha hdb he hpl) hs hf) fun D σ H ⟨Gn, κ, m, R, h⟩ => ⟨Gn, κ, m, R, ?_⟩
 have hl : ∀ {es : List IE} {xs : List Itm}, xm es m = .ok xs -> xs.length = es.length := by
  intro es
  induction es with
  | nil => intro xs e; cases e; rfl
  | cons e es ih =>
   intro xs h
   have h : (e m).bind (fun x => (xm es m).bind fun xs => .ok (x :: xs)) = .ok xs := h
   cases h1 : e m with
   | er c => rw [h1] at h; cases h
   | no => rw [h1] at h; cases h
   | ok x =>
    cases h2 : xm es m with
    | er c => rw [h1, Rs.ve, h2] at h; cases h
    | no => rw [h1, Rs.ve, h2] at h; cases h
    | ok ys =>
     rw [h1, Rs.ve, h2] at h
     cases h
     rw [List.length_cons, List.length_cons, ih h2]
 refine vT.do_ h fun xs hxs h1 vs H1 s1 r q dq hq hdq hne => ?_
 have R1 := R.more s1
 have sd : qw H1 (upd H1 dq (.own q)) := vt hdq
 have hq2 : (upd H1 dq (.own q)) q = none := by rw [qy (fun z => hne z.symm)]; exact hq
 have sq : qw (upd H1 dq (.own q)) (upd (upd H1 dq (.own q)) q (.ins C dq [])) := vt hq2
 obtain ⟨M2, ex2⟩ := R1.mem.new (x := .ins c [] []) (sd.trans sq) hq ⟨C, dq, [], hm, by rw [qJ]; rfl, rfl, trivial⟩
 have R2 := R1.after ex2 M2
 have hc : ItR X.mg X.K Gn (κ ++ [q]) (upd (upd H1 dq (.own q)) q (.ins C dq [])) (.ref q) (.c m.μ.length) := ⟨q, by
  rw [<- R.mem.len, List.getElem?_append_right (Nat.le_refl _), Nat.sub_self]
  rfl, rfl⟩
 refine ⟨Gn, κ ++ [q], m.μ ++ [.ins c [] []], .c m.μ.length :: xs, by rw [List.length_cons, hl hxs, hn], M2, by rw [List.append_nil]; exact ⟨hc, r.ext ex2⟩, ?_⟩
 have ex12 := (Ext.same s1).trans ex2
 have h1 := vT.later h1 ex12
 cases hres : g (.c m.μ.length :: xs) (m.μ ++ [.ins c [] []]) with
 | no => rw [hres] at h1; exact h1.elim
 | er c' => rw [hres] at h1; exact h1
 | ok x μ =>
  rw [hres] at h1
  intro w κ' H' M rw' ex
  have ex0 := hret _ _ _ _ hres
  subst ex0
  cases (show Rp _ _ _ _ w .non from rw') with
  | non =>
   refine ⟨rfl, ?_⟩
   have hc' := hc.ext ex
   exact h1 κ' _ H' ((R2.after ex M).qcf (m := ⟨m.s, μ⟩) hc') ex
end
end L2.Ir
set_option maxHeartbeats 4000000
namespace L2.Ir
open PySem PySem.Spec PyProof.Rows
section
variable {X : Cx} {E : XK} {pos : Pos}
theorem Q6 : ∀ {ys : List DK} {y : DK} {xs : List Itm}, wB (ys ++ [y]) = .ok xs -> ∃ xs' x, wB ys = .ok xs' /\ qE (y.1, y.2.low .nw) = some x /\ xs = xs' ++ [x]
 | [], y, xs, h => by
  have h : (xT (qE (y.1, y.2.low .nw))).bind (fun x => (wB []).bind fun xs => .ok (x :: xs)) = .ok xs := h
  cases e : qE (y.1, y.2.low .nw) with
  | none => rw [e] at h; cases h
  | some x => rw [e] at h; cases h; exact ⟨[], x, rfl, rfl, rfl⟩
 | z :: ys, y, xs, h => by
  have h : (xT (qE (z.1, z.2.low .nw))).bind (fun x => (wB (ys ++ [y])).bind fun xs => .ok (x :: xs)) = .ok xs := h
  cases e : qE (z.1, z.2.low .nw) with
  | none => rw [e] at h; cases h
  | some x =>
   rw [e] at h
   cases e2 : wB (ys ++ [y]) with
   | er c => rw [e2] at h; cases h
   | no => rw [e2] at h; cases h
   | ok rs =>
    rw [e2] at h
    cases h
    obtain ⟨xs', x2, q1, q2, rfl⟩ := Q6 e2
    refine ⟨x :: xs', x2, ?_, q2, rfl⟩
    show (xT (qE (z.1, z.2.low .nw))).bind (fun x => (wB ys).bind fun xs => .ok (x :: xs)) = _
    rw [e, q1]
    rfl
theorem qeo {Gn : Addr -> Prop} {κ : List Addr} {H H' : Hp} {σ : St} {m : MS} {vs : List Nat} {D0 : Addr} (hg : ∀ a, H a = none -> Gn a) {acc : List V} {ys : List DK} (h : VAs X.mg X.K (Bd (B1 Gn κ H κ) σ (vL m) vs D0) (wipe σ vs) (clear (vL m) vs) H' acc ys) : ∀ {xs : List Itm}, wB ys = .ok xs -> Its X.mg X.K Gn (κ ++ [D0]) H' acc xs := by
 induction h with
 | nil => intro xs e; cases e; trivial
 | @snoc ws ys v y _ r ih =>
  intro xs e
  obtain ⟨xs', x, q1, q2, rfl⟩ := Q6 e
  refine (ih q1).append ⟨?_, trivial⟩
  have nk : ∀ a, ¬ vn (Bd (B1 Gn κ H κ) σ (vL m) vs D0) (wipe σ vs) (clear (vL m) vs) a -> a ∉ κ ++ [D0] /\ a ∉ κ := fun a n => by
   have n1 : a ∉ κ := fun z => n (xH.mpr (.inr (.inl z)))
   refine ⟨fun z => ?_, n1⟩
   rcases List.mem_append.mp z with z | z
   ·exact n1 z
   ·exact n (xH.mpr (.inl (List.mem_singleton.mp z)))
  unfold qE at q2
  dsimp only at q2
  by_cases c : y.1.sc = true
  ·rw [if_pos c] at q2
   cases q2
   exact Ue c _ r
  ·rw [if_neg c] at q2
   revert r q2
   cases y.2.low .nw with
   | bo => intro _ q2; cases q2
   | sh => intro r q2; cases q2; exact Rp.weak r fun a g => ⟨(nk a g).1, fun z => nomatch z⟩
   | nw => intro r q2; cases q2; exact Rp.weak r fun a g => ⟨(nk a g.1).1, fun _ => u9 hg g.2 (nk a g.1).2⟩
   | fr => intro r q2; cases q2; exact Rp.weak r fun a g => ⟨(nk a g.1).1, fun _ => u9 hg g.2 (nk a g.1).2⟩
theorem YA {g : TG} {tg : Tg} {src : RI} {t : RT} {r : RE} {vs : List Nat} {σ : St} {H : Hp} {Q : VK} (hv : tg.within vs) (h : tNe X E (z9 tg src t r vs) σ H Q) :
  tLc (tI X E g tg src) g (TTx X E t) (TEx X E r) vs σ H Q := by
 obtain ⟨Gn, κ, m, R, h⟩ := h
 refine Z9 hv ⟨_, _, ye Ext.refl R, qk.imp (qk.bind h) fun x h1 => ?_⟩
 by_cases c : x.2.length < LIM
 ·rw [if_pos c] at h1
  refine ⟨c, qk.imp (qk.bind h1) fun ys h2 D0 acc H' hD s hacc va => ?_⟩
  cases e : wB ys with
  | no => rw [e] at h2; exact h2.elim
  | er c =>
   exfalso
   clear h2 va hacc
   induction ys with
   | nil => cases e
   | cons y ys ih =>
    have e : (xT (qE (y.1, y.2.low .nw))).bind (fun x => (wB ys).bind fun xs => .ok (x :: xs)) = .er c := e
    cases e1 : qE (y.1, y.2.low .nw) with
    | none => rw [e1] at e; cases e
    | some x =>
     rw [e1] at e
     cases e2 : wB ys with
     | no => rw [e2] at e; cases e
     | ok xs => rw [e2] at e; cases e
     | er c2 => rw [e2] at e; cases e; exact ih e2
  | ok xs =>
   rw [e] at h2
   exact h2 D0 acc H' hD s hacc (qeo R.mem.gl va.1 e)
 ·rw [if_neg c] at h1
  exact h1.elim
theorem qcN {elt tgE iter : Expr} {ifs : List Expr} {scope : Scope} {own : List (Str × Nat)} {g : TG} {tg : Tg} {src : RI} {t : RT} {r : RE} {LF : Addr} (hc : X.calm = true) (hN : X.N.Nodup) (acc : Acc X E) (hst : X.stack = X.env :: X.outer) (hfr : X.env.frame = some LF)
  (hi : PI X tgE iter (tI X E g tg src)) (ok : jT X.N X.env.scope scope own = true) (hv : tg.within (own.map (·.2)))
  (hg : ∀ (s : Shared) (H : Hp) (C : Addr) (cl : List (Str × Addr)) (fp : List Addr), PG (xn X E s H scope (compEnvC scope cl C X.env) fp) tgE g)
  (ht : ∀ (s : Shared) (H : Hp) (C : Addr) (cl : List (Str × Addr)) (fp : List Addr), PTs (xn X E s H scope (compEnvC scope cl C X.env) fp) ifs (TTx X E t))
  (he : ∀ (s : Shared) (H : Hp) (C : Addr) (cl : List (Str × Addr)) (fp : List Addr), PE (xn X E s H scope (compEnvC scope cl C X.env) fp) elt (TEx X E r)) (hs : autoParam (∀ x, foldedSetIterable iter X.env x = pure x) yB._auto_1) :
  PE X (.ListComp elt [⟨tgE, iter, ifs, 0⟩] scope pos) (tNe X E (z9 tg src t r (own.map (·.2)))) :=
 qZ (qbC hc hN acc hst hfr hi (VV ok) hg ht he hs) fun _ _ _ h => YA hv h
theorem XQ {i : Nat} {y : Str} {py : Pos} {elt tgE iter : Expr} {ifs : List Expr} {scope : Scope} {own : List (Str × Nat)} {g : TG} {tg : Tg} {src : RI} {t : RT} {r : RE} {LF : Addr} {cpos : Pos} (hc : X.calm = true) (hN : X.N.Nodup) (acc : Acc X E) (hst : X.stack = X.env :: X.outer) (hfr : X.env.frame = some LF)
  (hy : X.N[i]? = some y) (hyl : X.env.scope.names.lookup y = some .local) (hsw : swapsWith (.ListComp elt [⟨tgE, iter, ifs, 0⟩] scope cpos) (some (.Name y py)) pos.line X.env = pure true)
  (hi : PI X tgE iter (tI X E g tg src)) (ok : jT X.N X.env.scope scope own = true) (hv : tg.within (own.map (·.2)))
  (hg : ∀ (s : Shared) (H : Hp) (C : Addr) (cl : List (Str × Addr)) (fp : List Addr), PG (xn X E s H scope (compEnvC scope cl C X.env) fp) tgE g)
  (ht : ∀ (s : Shared) (H : Hp) (C : Addr) (cl : List (Str × Addr)) (fp : List Addr), PTs (xn X E s H scope (compEnvC scope cl C X.env) fp) ifs (TTx X E t))
  (he : ∀ (s : Shared) (H : Hp) (C : Addr) (cl : List (Str × Addr)) (fp : List Addr), PE (xn X E s H scope (compEnvC scope cl C X.env) fp) elt (TEx X E r)) (hs : autoParam (∀ x, foldedSetIterable iter X.env x = pure x) yB._auto_1) :
  PS X (.Assign [.Name y py] (.ListComp elt [⟨tgE, iter, ifs, 0⟩] scope cpos) pos) (TMx X E (Wj i (z9 tg src t r (own.map (·.2))))) :=
 qfI hc hN acc hst hfr hy hyl hsw hi ok hv hg ht he hs fun _ _ _ h => YA hv (U0 h)
theorem qfk {e : Expr} {r : RE} (h : PE X e (TEx X E r)) : PE X e (tNe X E (qbI r)) := by
 refine qZ h fun σ H Q ⟨Gn, κ, m, R, h⟩ => ⟨_, _, vj R, qk.imp (qk.bind h) fun y h1 w H' s vr => ?_⟩
 obtain ⟨d, k⟩ := y
 cases k with
 | fr =>
  obtain ⟨p, ds, rfl, rfl, c, e1, e2⟩ := vr
  have h1 : ∀ p vs H', H p = none -> qw H H' -> H' p = some (.lst vs) -> Its X.mg X.K Gn (κ ++ [p]) H' vs (ds.map fun d => Itm.v d true) -> Q (.ref p) H' := h1
  exact h1 p _ H' e1 s e2 (Its.vals (qt.wL c))
 | bo => cases d <;> exact h1.elim
 | sh => cases d <;> exact h1.elim
 | nw => cases d <;> exact h1.elim
theorem qcW {e : Expr} {ie : IE} (h : PE X e (tCB (fun xs H Q => ∃ p ys, xs = [.ref p] /\ (SqL X.K H p ys \/ SqT X.K H p ys) /\ ∀ l, H l = none -> Q (.ref l) (upd H l (.lst ys))) (tMA X E [ie]))) : PE X e (tNe X E (X4 ie)) := by
 refine qZ h fun σ H Q ⟨Gn, κ, m, R, h⟩ => ⟨Gn, κ, m, R, ?_⟩
 have h := qk.bind h
 show qk X.mg E H ((ie m).bind fun x => .ok [x]) _
 cases hx : ie m with
 | er c => rw [hx] at h; exact h
 | no => rw [hx] at h; exact h
 | ok x =>
  rw [hx] at h
  intro vs H1 s1 r
  match vs, r with
  | [w], r =>
   have hw := r.1
   cases x with
   | c n => exact h.elim
   | v d k =>
    cases d with
    | lst ds =>
     have h : ∀ p vs H', H p = none -> qw H H' -> H' p = some (.lst vs) -> Its X.mg X.K Gn (κ ++ [p]) H' vs (ds.map fun d => Itm.v d k) -> Q (.ref p) H' := h
     have fin : ∀ {a : Addr} {us : List V}, qt X.mg X.K (fun a => a ∉ κ /\ (k = true -> Gn a)) H1 us ds -> ∀ l, H1 l = none -> Q (.ref l) (upd H1 l (.lst us)) := fun {a us} ra l hl => by
      refine h l us _ (s1.free hl) (s1.trans (vt hl)) qJ (Its.vals ?_)
      refine qt.mono (fun b g => ?_) _ _ (qt.there _ _ ra)
      obtain ⟨⟨g1, g2⟩, n⟩ := g
      have nl : b ≠ l := fun z => n (by rw [z]; exact hl)
      refine ⟨⟨fun z => ?_, g2⟩, fun o q => by rw [qy nl]; exact q⟩
      rcases List.mem_append.mp z with z | z
      ·exact g1 z
      ·exact nl (List.mem_singleton.mp z)
     cases (show Rp X.mg X.K _ H1 w (.lst ds) from hw) with
     | lst g s q => exact ⟨_, _, rfl, .inl (.inl s), fin (a := 0) q⟩
     | lstK s q => exact ⟨_, _, rfl, .inl (s _), fin (a := 0) q⟩
    | _ => exact h.elim
end
end L2.Ir
namespace L2.Ir
open PySem PySem.Spec PyProof.Rows
open PySem.W (WData Codec OpenSpec Well WellAll ReadsW ReadsAllW)
theorem qcS {mg : Str -> Option Value} {K : PySem.W.Frag} {gs : Fn} {r : RE} {l : List (Str × Int)} {la : List (Addr × Int)} {P : Addr} {n : Nat} {N : List Str} {vs : List V} {H : Hp} {Q : VK} {ds zs : List D} (Er : Uw mg K l la) (hP : H P = some (.tbl #[])) (rp : qt mg K (fun _ => True) H vs ds)
  (ha : Yv l (gs ds) = some zs) (hz : zs.length <= LIM) (hQ : ∀ H' p, H' p = some (.lst (zs.map toV)) -> Q (.ref p) H') (hargs : gs ds = .no \/ r (sl0 N ds) = (gs ds).bind fun y => .ok (y.1, kB y.2)) :
  qeB K la P (fun E => tE mg K E r) (start N vs) H Q := by
 refine ⟨hP, fun more f => ?_⟩
 have rp' : qt mg K (fun _ => True) (upd H P (.tbl more)) vs ds := by
  refine qt.mono (G := fun a => H a ≠ some (.tbl #[])) (fun a g => ⟨trivial, fun o e => by rw [qy (fun z => g (by rw [z]; exact hP))]; exact e⟩) _ _ ?_
  have gen : (∀ (d : D) (v : V), Rp mg K (fun _ => True) H v d -> Rp mg K (fun a => H a ≠ some (.tbl #[])) H v d) := by
   intro d v h
   have ne : ∀ {a : Addr} {u : HO}, Rd H a u -> (∀ ps, u ≠ .tbl ps) -> H a ≠ some (.tbl #[]) := fun {a u} h n z => by
    rcases h with h | ⟨o, h⟩
    ·rw [z] at h; exact n _ (Option.some.inj h).symm
    ·rw [z] at h; cases h
   exact h.rec (motive_1 := fun v d _ => Rp mg K (fun a => H a ≠ some (.tbl #[])) H v d) (motive_2 := fun vs ds _ => qt mg K (fun a => H a ≠ some (.tbl #[])) H vs ds)
    .non (fun b => .bl b) (fun i => .int i) (fun e => .fn e) (fun _ s _ ih => .lst (ne s fun ps z => nomatch z) s ih) (fun s _ ih => .lstK s ih) (fun _ s _ ih => .tup (ne s fun ps z => nomatch z) s ih) (fun s _ ih => .tupK s ih) (fun _ m s l _ ih => .obj (by rw [s]; exact fun z => nomatch z) m s l ih) .nil fun _ _ ih1 ih2 => .cons ih1 ih2
  have all : ∀ {vs : List V} {ds : List D}, qt mg K (fun _ => True) H vs ds -> qt mg K (fun a => H a ≠ some (.tbl #[])) H vs ds := by
   intro vs ds h
   induction ds generalizing vs with
   | nil => cases h; exact .nil
   | cons d ds ih => cases h with | cons a b => exact .cons (gen _ _ a) (ih b)
  exact all rp
 refine ⟨⟨upd H P (.tbl more), fun _ => False⟩, sl0 N ds, rl0 rp', ?_⟩
 rcases hargs with e1 | e1
 ·rw [e1] at ha
  cases ha
 rw [e1]
 cases hg : gs ds with
 | no => rw [hg] at ha; cases ha
 | er c =>
  rw [hg] at ha
  have ha : (l.lookup c).map (fun k => [D.int (-k)]) = some zs := ha
  cases hl : l.lookup c with
  | none => rw [hl] at ha; cases ha
  | some k =>
   rw [hl] at ha
   cases ha
   intro C H' hC s
   obtain ⟨h1, h2⟩ := Er.at_ c C k hC hl
   exact ⟨C, k, rfl, h1, h2, fun p hp => hQ _ p (by rw [qJ]; rfl)⟩
 | ok y =>
  rw [hg] at ha
  obtain ⟨d, b⟩ := y
  cases b with
  | false => cases d <;> cases ha
  | true =>
   cases d with
   | lst ws =>
    cases ha
    intro v H' s vr
    obtain ⟨p, es, rfl, e, c, h1, h2⟩ := vr
    cases e
    refine qbw ⟨p, _, rfl, h2, ?_, fun q hq p' hp' => hQ _ p' ?_⟩
    ·rw [qcn]
     have e : (sizeLine : Nat) = LIM := rfl
     rw [e]
     exact hz
    ·rw [qJ]
     rfl
   | _ => cases ha
section
variable {P : Program} {w : World} {K : PySem.W.Frag} {mg : Str -> Option Value} {base : Heap}
theorem qco {x : Str} {st st2 : Stmt} {f c PT : Addr} {fd : FuncData} {ps : List Str} {k n : Nat} {gs : Fn} {r : RE} {l : List (Str × Int)} {la : List (Addr × Int)} {p pos rpos lpos : Pos} {params : Arguments} {body : Expr} {ls : Scope}
  (F : Fun K x x st f fd) (S : qu ps ps (qf st)) (hn : ps.length = n) (htab : PySem.W.tabIn K x = some (c, PT)) (hns : PySem.W.nsIn K mainGlobals x = some (some (.ref f))) (BL : y8 mg base c PT) (A2 : qbJ P w K mg base st2 la) (Er : Uw mg K l la)
  (hbody : vE st = [.Return (some (.Call (.Name "answered" p) [.Lambda params body ls lpos] [] pos)) rpos]) (L : jd (qf st) ls) (hgl : (qf st).names.lookup ("answered" : Str) = some .globalImplicit) (hdef : ∀ env : Env, defaultsOf params env = ([], []))
  (hbind : ∀ (q : Str) (c' : Addr) (clos : List (Str × Addr)) (pm ctv : Value), bindArgs (PySem.W.kla_fn "<lambda>" q params body ls clos pm (.ref c') ctv) ⟨[], []⟩ = pure [])
  (hcall : ∀ (cdv : Value) (A : Around) (outer : List Env) (s0 : Shared) (H0 : Hp) (E0 : XK) (Y : Cx) (q : Str) (f' : Addr) (cd : Value) (s : Shared) (H : Hp) (E' : XK), wG k (Y.A.deeper (uP (xo (CX1 P w) P w K mg base ps x (qf st) f cdv A outer s0 H0 E0) q ls f' cd s)) ->
   PE (V3 (xo (CX1 P w) P w K mg base ps x (qf st) f cdv A outer s0 H0 E0) Y q ls f' cd s H E') body (tE mg K E' r))
  (hargs : ∀ ds : List D, ds.length = n -> gs ds = .no \/ r (sl0 ps ds) = (gs ds).bind fun y => .ok (y.1, kB y.2)) : y4 P w K mg base (CX1 P w) (k + 3) f fd ps (qbG mg K n gs l PT) := by
 obtain ⟨oc, od, kV, doc, pm, an, cdv, ct, osl, rfl, lk, hcd⟩ := F.ex
 have hc : cdv = .ref c := qam htab hns lk
 refine U5 lk hcd S ?_ fun A outer s H vs Q E hroom hsp => ?_
 ·rintro vs H Q E ⟨ds, zs, hl, _, rp, _⟩
  rw [rp.len, hl, hn]
 ·obtain ⟨ds, zs, hl, hP, rp, ha, hz, hQ⟩ := hsp
  obtain ⟨f2, oc2, od2, kV2, doc2, pm2, an2, cdv2, ct2, osl2, h0, hs, q1, q2, q3, q4, q5, q6, q7, q8, q9, q10, j, lk2, hcd2, hk2, hm2, hb2, S2, hw2, ht2, bi2, hH2⟩ := A2
  rw [hbody]
  rw [hb2] at lk2 bi2
  refine ⟨qdY (qeB K la PT fun E' => tE mg K E' r), xZ (jE ?_), ?_⟩
  ·have q := YV (X := xo (CX1 P w) P w K mg base ps x (qf st) f cdv A outer s H E) (c := c) (P := PT) (f2 := f2) (k := k) (E := E) (l := la) (tb := fun E' => tE mg K E' r) (pos := pos) (p := p) (lpos := lpos) (params := params) (body := body) (ls := ls)
    BL hc (fun _ => rfl) rfl L (hdef _) hroom hgl hm2 hk2 lk2 hcd2 S2 hw2 ht2 (fun s u => bi2 s u) (fun s H => hH2 _ _ s H E) (fun c' clos pm ctv => hbind _ c' clos pm ctv) Zz (fun Y f' cd s' H' E' hr' => hcall _ _ _ _ _ _ Y _ f' cd s' H' E' hr')
   exact q
  ·exact qcS (N := ps) (n := n) Er hP rp ha hz hQ (hargs ds hl)
end
section
variable {X : Cx} {E : XK} {pos : Pos}
theorem W3 {mg : Str -> Option Value} {K : PySem.W.Frag} {G : Addr -> Prop} {H : Hp} {f : Str} {d : D} : ∀ {ns : List Str} {vs : List V} {ds : List D}, qt mg K G H vs ds -> (ns.zip ds).lookup f = some d -> ∃ w, (ns.zip vs).lookup f = some w /\ Rp mg K G H w d
 | [], _, _, _, e => by simp at e
 | _ :: _, [], [], _, e => by simp at e
 | g :: ns, w :: vs, x :: xs, .cons a b, e => by
  rw [List.zip_cons_cons, List.lookup_cons] at e ⊢
  cases hg : f == g with
  | true => rw [hg] at e; cases e; exact ⟨w, rfl, a⟩
  | false => rw [hg] at e; exact W3 b e
theorem x5 {c f : Str} {e : Expr} {r : RE} (hC : ∀ C, X.mg c = some (.ref C) -> Cls X.K C /\ vM X.K C f) (he : PE X e (TEx X E r)) (hb : autoParam (attributeBase e f X.env (eval e X.env) = eval e X.env) qm._auto_1) : PE X (.Attribute e f pos) (TEx X E (rUn (v8 c f) r)) := by
 refine qZ (qbu he hb) fun σ H Q ⟨B, δ, R, h⟩ => ⟨B, δ, R, ?_⟩
 refine qk.imp (qk.bind h) fun x h1 w H1 s1 vr => ?_
 obtain ⟨d, k⟩ := x
 have vr : VR X.mg X.K B H H1 σ δ k w d := vr
 cases d with
 | obj c' ns ds =>
  unfold v8 at h1
  dsimp only at h1
  by_cases cc : c' = c
  ·subst cc
   rw [if_pos rfl] at h1
   have rp := VR.low R .nw vr
   rw [VR.gk (low_ne _ _)] at rp
   cases rp with
   | @obj a C dx _ _ xs _ g m s l ra =>
    cases hl : (ns.zip ds).lookup f with
    | none => rw [hl] at h1; exact h1.elim
    | some d =>
     rw [hl] at h1
     obtain ⟨u, l1, l2⟩ := W3 ra hl
     refine ⟨a, C, dx, _, u, rfl, s, (hC C m).1, (hC C m).2, l1, h1 u H1 s1 ?_⟩
     show VR _ _ _ _ _ _ _ (k.low .nw) _ _
     rw [VR.gk (low_ne _ _)]
     exact l2
  ·rw [if_neg cc] at h1
   exact h1.elim
 | _ => exact h1.elim
end
theorem Zr (l b : Addr) (us vs : Array Value) (n k : Nat) (dd : Option Addr) (sl : Array (Option Value)) (h0 : ¬(!us.isEmpty && Builtin.List.listTooLong (us.size + vs.size)) = true) (h1 : us.size <= sizeLine) (h2 : us.size + vs.size <= sizeLine + 1) :
  Meets (Builtin.«list.extend» ⟨[.ref l, .ref b], []⟩) (fun _ R s => s.heap.get? l = some { cls := .type "list", data := .seq us n } /\ s.heap.get? b = some ⟨.type "list", dd, .seq vs k, sl⟩ /\ R (.ok (.ret Value.none)) { s with heap := s.heap.update l (Obj.mapSeq fun x => x ++ vs) }) :=
 .of_wp fun prog w A R s q => by
  obtain ⟨hp, gs, dr, tk, os⟩ := s
  obtain ⟨ql, qb, q⟩ := q
  have i1 := AutoSeq1.idx_int
  have i2 := AutoSeq1.sub_tuple_tuple
  have i3 := AutoSeq1.sub_list_list
  have i4 := AutoSeq1.sub_tuple_list
  have i5 := AutoSeq1.sub_list_tuple
  have hz : (us ++ vs).size <= sizeLine + 1 := by
   rw [Array.size_append]
   exact h2
  wp_walk using (wpAny_updateSeq ql rfl (hz := h1) (_hz' := hz)), AutoSeq1.wpAny_loadPart' ql, AutoSeq1.wpAny_loadPart' qb
  exact ⟨_, rfl, q⟩
section
variable {X : Cx} {E : XK} {pos : Pos}
noncomputable def qdk (K : PySem.W.Frag) : V -> List V -> Hp -> VK -> Prop := fun x vs H Q => ∃ l b xs zs, x = .ref l /\ vs = [.ref b] /\ H l = some (.lst xs) /\ SqL K H b zs /\ xs.length + zs.length <= sizeLine /\ Q .non (upd H l (.lst (xs ++ zs)))
theorem Xv : MtM X "list.extend" (qdk X.K) := by
 intro pins s σ H x vs v us Q I rx rv h
 obtain ⟨l, b, xs, zs, rfl, rfl, hH, hB, hz, q⟩ := h
 cases rx
 obtain ⟨u, rfl, ru⟩ := rv.one
 cases ru
 obtain ⟨z1, ts, n, r1, hl, e1⟩ := I.XA hH
 obtain ⟨ts2, r2, p2, z2⟩ := I.list hB
 obtain ⟨⟨cls, dd, data, sl⟩, e2, hc, n2, hd⟩ := id p2.isList
 simp only at hc hd
 subst hc hd
 have l2 := r2.length
 have hsz : ts.toArray.size + ts2.toArray.size <= sizeLine := by rw [List.size_toArray, List.size_toArray]; lia
 refine call_meets PySem.F.slot_list_extend ⟨_, e1, rfl⟩ PySem.F.entry_list_extend (PySem.F.args_list_extend_2 _ _) (Zr l b ts.toArray ts2.toArray n n2 dd sl (by rw [Vo hsz, Bool.and_false]; exact Bool.false_ne_true) (by rw [List.size_toArray]; lia) (by lia)) ⟨e1, e2, ?_⟩
 refine ⟨.non, _, I.qdE (its' := ts ++ ts2) hH e1 (by simp) (r1.append r2) ?_, rfl, q⟩
 rw [List.length_append]
 lia
theorem JR {e : Expr} {ec : IE} {r : RE} (h : PE X e (tBM X.K "list" (qdk X.K) (tIe X E ec) (qbp (TEx X E r) qeu))) (hsw : autoParam (swapsWith e none pos.line X.env = pure false) qm._auto_1) : PS X (.Expr e pos) (TMx X E (Q1 ec r)) := by
 refine vK (ZT h hsw) fun D σ H ⟨Gn, κ, m, R, h⟩ => ⟨Gn, κ, m, R, vT.do_ h fun y _ h1 w H1 s1 hw => ?_⟩
 cases e : cellAt m y with
 | none => rw [e] at h1; exact h1.elim
 | some q =>
  obtain ⟨n, q⟩ := q
  obtain ⟨rfl, hn⟩ := uf e
  rw [e] at h1
  cases q with
  | ins c' ns xs => exact h1.elim
  | lst xs =>
   obtain ⟨p, hp, rfl⟩ := hw
   obtain ⟨vs1, g1, g3⟩ := (R.more s1).mem.cel n p _ hp hn
   have Rv := ye (m := m) (Ext.refl (κ := κ) (H := H1)) (R.more s1)
   refine ⟨.inl ⟨rfl, _, SqL.of g1⟩, _, _, Rv, ?_⟩
   refine qk.more (vT.do_ h1 fun x _ h2 u H2 s2 vu => ?_) s1
   obtain ⟨dx, kx⟩ := x
   have s12 := s1.trans s2
   have R2 := R.more s12
   obtain ⟨vs, g1, g3⟩ := R2.mem.cel n p _ hp hn
   cases dx with
   | lst ds =>
    have h2 : vT X.mg X.K E Gn κ H (if ds.all Ir.D.sc = true /\ xs.length + ds.length <= LIM then .nx ⟨m.s, m.μ.set n (.lst (xs ++ ds.map fun d => .v d true))⟩ else .no) D := h2
    by_cases c : ds.all Ir.D.sc = true /\ xs.length + ds.length <= LIM
    ·rw [if_pos c] at h2
     obtain ⟨a, us, rfl, sq, ra⟩ := VR.items Rv vu
     have hus := ra.sc c.1
     refine ⟨p, a, vs, us, rfl, rfl, g1, sq, ?_, ?_⟩
     ·rw [g3.len, ra.len]; exact c.2
     have pk : p ∈ κ := List.mem_of_getElem? hp
     have ex : Ext κ H2 κ (upd H2 p (.lst (vs ++ us))) := Ext.upd pk
     obtain ⟨M, _⟩ := R2.mem.mut (x := .lst (xs ++ ds.map fun d => .v d true)) (o := .lst (vs ++ us)) hp ⟨_, qJ, (g3.ext ex).append (by rw [hus]; exact Its.vals (qt.wL c.1))⟩
     exact h2 κ σ _ (R2.after ex M) ((Ext.same s12).trans ex)
    ·rw [if_neg c] at h2
     exact h2.elim
   | _ => exact h2.elim
theorem RgC.up {j c : Int} (hc : 0 < c) (hc2 : c < 1000000) (hj : -1000000 < j) (hj2 : j < 1000000) : RgC 0 j c ((j + c - 1) / c).toNat := by
 have fit : ∀ z : Int, -4000000 < z /\ z < 4000000 -> Builtin.Range.rangeFitsLong z = true := fun z h1 => by
  unfold Builtin.Range.rangeFitsLong
  simp
  lia
 have hsz : Builtin.Range.rangeSize 0 j c = (((j + c - 1) / c).toNat : Int) := by
  unfold Builtin.Range.rangeSize
  rw [if_pos (by lia)]
  by_cases h : 0 < j
  ·rw [if_pos h]
   have e : j + c - 1 = (j - 0 - 1) + c * 1 := by lia
   rw [e, Int.add_mul_ediv_left _ _ (by lia)]
   have : 0 <= (j - 0 - 1) / c := Int.ediv_nonneg (by lia) (by lia)
   lia
  ·rw [if_neg h]
   have : (j + c - 1) / c <= 0 := by
    have h3 : (j + c - 1) / c < 1 := by
     refine Int.ediv_lt_of_lt_mul hc ?_
     lia
    lia
   lia
 have hb : (((j + c - 1) / c).toNat : Int) <= 2000000 := by
  have : (j + c - 1) / c <= 2000000 := by
   by_cases h : 0 <= j + c - 1
   ·exact Int.le_trans (Int.ediv_le_self _ h) (by lia)
   ·have : (j + c - 1) / c < 0 := Int.ediv_neg_of_neg_of_pos (by lia) hc
    lia
  lia
 refine ⟨by lia, by lia, ?_, hsz⟩
 unfold Builtin.Range.small
 rw [hsz, fit 0 (by decide), fit j ⟨Int.lt_trans (by decide) hj, Int.lt_trans hj2 (by decide)⟩, fit c ⟨Int.lt_trans (by decide) hc, Int.lt_trans hc2 (by decide)⟩, fit _ (by lia), if_pos (by lia), fit (j + (c - 1)) (by lia)]
 simp
theorem UX {i j c : Int} {l : List Int} (h : Qm i j c = some l) : ∃ n, RgC i j c n /\ l.length = n /\ ∀ k : Nat, k < n -> l[k]? = some (i + k * c) := by
 unfold Qm at h
 by_cases b : (-1000000 < i /\ i < 1000000) /\ (-1000000 < j /\ j < 1000000) /\ (-1000000 < c /\ c < 1000000)
 ·rw [if_pos b] at h
  by_cases c1 : c = -1
  ·rw [if_pos c1] at h
   cases h
   subst c1
   refine ⟨(i - j).toNat, RgC.neg (by lia) (by lia) (by lia) (by lia), by rw [List.length_map, List.length_range], fun k hk => ?_⟩
   rw [List.getElem?_map, List.getElem?_range hk]
   show some (i - (k : Int)) = some (i + (k : Int) * -1)
   congr 1
   lia
  ·rw [if_neg c1] at h
   by_cases c2 : 0 < c /\ i = 0
   ·rw [if_pos c2] at h
    cases h
    obtain ⟨c3, rfl⟩ := c2
    refine ⟨((j + c - 1) / c).toNat, RgC.up c3 (by lia) (by lia) (by lia), by rw [List.length_map, List.length_range], fun k hk => ?_⟩
    rw [List.getElem?_map, List.getElem?_range hk, Int.zero_add]
    rfl
   ·rw [if_neg c2] at h
    cases h
 ·rw [if_neg b] at h
  cases h
theorem JK {i : Nat} {tgE a b c : Expr} {r q t : RE} {p : Pos} (hg : Gl X "range") (hm : X.mg "range" = none) (ha : PE X a (TEx X E r)) (hb : PE X b (TEx X E q)) (hc : PE X c (TEx X E t)) (hs : autoParam (starEach [a, b, c] X.env = (false, eval a X.env) :: starEach [b, c] X.env) qm._auto_1)
  (hs2 : autoParam (starEach [b, c] X.env = (false, eval b X.env) :: starEach [c] X.env) qm._auto_1) (hs3 : autoParam (starEach [c] X.env = (false, eval c X.env) :: starEach [] X.env) qm._auto_1) (hpl : autoParam ((backTo pos (starEach [b, c] X.env)).any (·.1) = false) qm._auto_1) :
  PI X tgE (.Call (.Name "range" p) [a, b, c] [] pos) (tI X E (wz i) (.one i) (yo r q t)) := by
 refine zW (WJ hg hm (vH ha (vH hb (vH hc zp hs3) hs2) hs) hs hpl) fun σ H R ⟨B, δ, R0, h⟩ => ⟨B, δ, R0, ?_⟩
 refine qk.imp (qk.bind h) fun x h1 v H1 s1 vr => ⟨B, δ, R0.more s1, ?_⟩
 refine qk.imp (qk.more (qk.bind h1) s1) fun y h2 w H2 s2 vw => ⟨B, δ, (R0.more s1).more s2, ?_⟩
 refine qk.imp (qk.more (qk.more (qk.bind h2) s1) s2) fun z h3 u H3 s3 vu => ?_
 obtain ⟨d, k⟩ := x
 obtain ⟨d', k'⟩ := y
 obtain ⟨d2, k2⟩ := z
 have vr : VR X.mg X.K B H H1 σ δ k v d := vr
 have vw : VR X.mg X.K B H1 H2 σ δ k' w d' := vw
 have vu : VR X.mg X.K B H2 H3 σ δ k2 u d2 := vu
 have key : ∀ i1 j1 c1 : Int, d = .int i1 -> d' = .int j1 -> d2 = .int c1 -> ∃ (i j c : Int) (n : Nat), [v, w, u] = [.int i, .int j, .int c] /\ RgC i j c n /\ R (Itc i c n) H3 := fun i1 j1 c1 e1 e2 e3 => by
  subst e1 e2 e3
  have ev := qM R0 vr
  have ew := qM (R0.more s1) vw
  have eu := qM ((R0.more s1).more s2) vu
  subst ev ew eu
  have h3 : qk X.mg E H (match Qm i1 j1 c1 with | some l => .ok (true, l.map fun n => (D.int n, Kd.nw)) | none => .no) fun x => ∀ J H1, qw H H1 -> Walks X B H1 σ δ (wz i) (.one i) J x.1 x.2 -> R J H1 := h3
  cases hr : Qm i1 j1 c1 with
  | none => rw [hr] at h3; exact h3.elim
  | some l =>
   rw [hr] at h3
   obtain ⟨n, rg, hl, hk⟩ := UX hr
   refine ⟨i1, j1, c1, n, rfl, rg, h3 _ H3 (s1.trans (s2.trans s3)) ⟨fun B' n' x σ' δ' δ2 H2 hx R' f hp => ?_, fun B' n' σ' δ' H2 hn R' f => (show n <= n' by rw [List.length_map, hl] at hn; exact hn)⟩⟩
   have hlt : n' < n := by
    have := (List.getElem?_eq_some_iff.mp hx).1
    rw [List.length_map, hl] at this
    exact this
   rw [List.getElem?_map, hk n' hlt] at hx
   cases hx
   refine ⟨hlt, fun u H3 hy Q hQ => ?_⟩
   obtain ⟨rfl, rfl⟩ := hy
   have hp : put i (D.int (i1 + (n' : Nat) * c1), .nw) δ' = some δ2 := hp
   have q := jZ (v := .int (i1 + (n' : Nat) * c1)) R' (Rp.int _) hp
   exact hQ _ _ q.1 q.2 qw.refl ⟨_, rfl⟩
 obtain ⟨i1, j1, c1, e1, e2, e3, _⟩ := qfA h3
 exact key i1 j1 c1 e1 e2 e3
theorem JF {i : Nat} {tgE a b c : Expr} {r q t : RE} {p : Pos} (hg : Gl X "range") (hm : X.mg "range" = none) (ha : PE X a (TEx X E r)) (hb : PE X b (TEx X E q)) (hc : PE X c (TEx X E t)) (hs : autoParam (starEach [a, b, c] X.env = (false, eval a X.env) :: starEach [b, c] X.env) qm._auto_1)
  (hs2 : autoParam (starEach [b, c] X.env = (false, eval b X.env) :: starEach [c] X.env) qm._auto_1) (hs3 : autoParam (starEach [c] X.env = (false, eval c X.env) :: starEach [] X.env) qm._auto_1) (hpl : autoParam ((backTo pos (starEach [b, c] X.env)).any (·.1) = false) qm._auto_1) :
  PI X tgE (.Call (.Name "range" p) [a, b, c] [] pos) (tMI X E (wz i) (.one i) (qS (yo r q t))) := by
 refine zW (WJ hg hm (vH ha (vH hb (vH hc zp hs3) hs2) hs) hs hpl) fun σ H R ⟨Gn, κ, m, R0, h⟩ => ⟨_, _, vj R0, ?_⟩
 refine qk.imp (qk.bind (qk.bind h)) fun x h1 v H1 s1 vr => ⟨_, _, vj (R0.more s1), ?_⟩
 refine qk.imp (qk.more (qk.bind h1) s1) fun y h2 w H2 s2 vw => ⟨_, _, vj ((R0.more s1).more s2), ?_⟩
 refine qk.imp (qk.more (qk.more (qk.bind h2) s1) s2) fun z h3 u H3 s3 vu => ?_
 obtain ⟨d, k⟩ := x
 obtain ⟨d', k'⟩ := y
 obtain ⟨d2, k2⟩ := z
 have key : ∀ i1 j1 c1 : Int, d = .int i1 -> d' = .int j1 -> d2 = .int c1 -> ∃ (i j c : Int) (n : Nat), [v, w, u] = [.int i, .int j, .int c] /\ RgC i j c n /\ R (Itc i c n) H3 := fun i1 j1 c1 e1 e2 e3 => by
  subst e1 e2 e3
  have ev := qM (vj R0) vr
  have ew := qM (vj (R0.more s1)) vw
  have eu := qM (vj ((R0.more s1).more s2)) vu
  subst ev ew eu
  have h3 : qk X.mg E H (match Qm i1 j1 c1 with | some l => .ok (true, l.map fun n => (D.int n, Kd.nw)) | none => .no) fun x => ∀ J H1, qw H H1 -> qa6 X Gn κ H1 (wz i) (.one i) J x.2 -> R J H1 := h3
  cases hr : Qm i1 j1 c1 with
  | none => rw [hr] at h3; exact h3.elim
  | some l =>
   rw [hr] at h3
   obtain ⟨n, rg, hl, hk⟩ := UX hr
   refine ⟨i1, j1, c1, n, rfl, rg, h3 _ H3 (s1.trans (s2.trans s3)) ⟨fun n' x κ' σ' m' m2 H2 hx R' f hp => ?_, fun n' κ' σ' m' H2 hn R' f => (show n <= n' by rw [List.length_map, hl] at hn; exact hn)⟩⟩
   have hlt : n' < n := by
    have := (List.getElem?_eq_some_iff.mp hx).1
    rw [List.length_map, hl] at this
    exact this
   rw [List.getElem?_map, hk n' hlt] at hx
   cases hx
   refine ⟨hlt, fun u H3 hy Q hQ => ?_⟩
   obtain ⟨rfl, rfl⟩ := hy
   exact hQ _ _ (ZX R' hp) fun _ _ e => e
 obtain ⟨i1, j1, c1, e1, e2, e3, _⟩ := qfA h3
 exact key i1 j1 c1 e1 e2 e3
end
section
variable {P : Program} {w : World} {K : PySem.W.Frag} {mg : Str -> Option Value} {base : Heap}
noncomputable abbrev Zx (P : Program) (w : World) (K : PySem.W.Frag) (mg : Str -> Option Value) (base : Heap) (k : Nat) (N : List Str) (q : Str) (st : Stmt) (f : Addr) (t : XK -> TS) : Prop := ∀ (cdv : Value) (A : Around) (outer : List Env) (s : Shared) (H : Hp) (E : XK), wG k (A.deeper (envOfC q (qf st) s.heap.objs.size f cdv)) -> N.Nodup -> Gd (uK P w K mg base N q (qf st) f cdv A outer s H E) E -> PSs (uK P w K mg base N q (qf st) f cdv A outer s H E) (vE st) (t E)
theorem fd2 {x : Str} {st : Stmt} {f : Addr} {fd : FuncData} {N ps : List Str} {k n : Nat} {g : Fn} {r : RS} (F : Fun K x x st f fd) (S : qu N ps (qf st)) (hm : mg x = some (.ref f)) (hb : Binds K fd ps []) (hn : ps.length = n) (body : Zx P w K mg base k N x st f fun E => tS mg K E r)
  (hr : ∀ ds : List D, ds.length = n -> g ds = .no \/ res (r (sl0 N ds)) = g ds) : Fd P w K mg base (k + 1) x n g := qe8 F S hm hb hn (fun cdv A outer s H E h => body cdv A outer s H E h S.nd (QK S.nd)) hr
theorem qb9 {x : Str} {st : Stmt} {f : Addr} {fd : FuncData} {N ps : List Str} {k n : Nat} {r : RM} {g : Fn} (F : Fun K x x st f fd) (S : qu N ps (qf st)) (hm : mg x = some (.ref f)) (hb : Binds K fd ps []) (hn : ps.length = n) (body : Zx P w K mg base k N x st f fun E => tM mg K E r)
  (hg : ∀ ds, g ds = QD (r ⟨ms0 N (it0 ds), []⟩)) : Fd P w K mg base (k + 1) x n g := qdD F S hm hb hn (fun cdv A outer s H E h => body cdv A outer s H E h S.nd (QK S.nd)) hg
theorem qeJ {x : Str} {st : Stmt} {f : Addr} {fd : FuncData} {N ps : List Str} {k n : Nat} {r : RM} {g : Fm} (F : Fun K x x st f fd) (S : qu N ps (qf st)) (hm : mg x = some (.ref f)) (hb : Binds K fd ps []) (hn : ps.length = n) (body : Zx P w K mg base k N x st f fun E => tM mg K E r)
  (hg : ∀ xs μ, g xs μ = xK (r ⟨ms0 N xs, μ⟩)) : FdM P w K mg base (k + 1) x n g := qdO F S hm hb hn (fun cdv A outer s H E h => body cdv A outer s H E h S.nd (QK S.nd)) hg
theorem qf7 {x q : Str} {st : Stmt} {f : Addr} {fd : FuncData} {N ps : List Str} {k n : Nat} {r : RM} (F : Fun K x q st f fd) (S : qu N ps (qf st)) (hn : ps.length = n) (body : Zx P w K mg base k N q st f fun E => tM mg K E r) : y4 P w K mg base (CX1 P w) (k + 1) f fd ps (spM mg K n fun xs μ => xK (r ⟨ms0 N xs, μ⟩)) :=
 Xp F S hn fun cdv A outer s H E h => body cdv A outer s H E h S.nd (QK S.nd)
end
end L2.Ir
namespace Lw
open PySem.W (nsIn codeIn keepIn fnOf mg_of mg_none_of nsOkIn findIn makesIn isFn plainGet hasDictIn plainOver tabIn Frag)
open PySem PySem.Spec PyProof.Rows L2 L2.Ir Dt 
noncomputable def top (i : Nat) : Stmt := PySem.Challenge.pw_doubletables_s16_inverse.main.body.getD i (.Pass ⟨0, 0, 0, 0⟩)
noncomputable def Jh (i j : Nat) : Stmt := match top i with
 | .ClassDef (body := b) .. => b.getD j (.Pass ⟨0, 0, 0, 0⟩)
 | _ => .Pass ⟨0, 0, 0, 0⟩
theorem qcO {α : Type} {p : List α -> Prop} (h : ∀ a0, p [a0]) : ∀ us, us.length = 1 -> p us
 | [_], _ => h _
theorem qe2 {α : Type} {p : List α -> Prop} (h : ∀ a0 a1, p [a0, a1]) : ∀ us, us.length = 2 -> p us
 | [_, _], _ => h _ _
theorem qfR {α : Type} {p : List α -> Prop} (h : ∀ a0 a1 a2, p [a0, a1, a2]) : ∀ us, us.length = 3 -> p us
 | [_, _, _], _ => h _ _ _
theorem qdI {α : Type} {p : List α -> Prop} (h : ∀ a0 a1 a2 a3, p [a0, a1, a2, a3]) : ∀ us, us.length = 4 -> p us
 | [_, _, _, _], _ => h _ _ _ _
theorem uR {K : Frag} {x q : Str} {st : Stmt} {f : Addr} {fd : FuncData} {p0 : Str} (F : Fun K x q st f fd) (h : ∀ (kV doc pm : Value) (an : Option Addr) (cdv ct a0 : Value), bindArgs (fnOf x q (wR st) (vE st) (qf st) .none kV doc pm an cdv ct) ⟨[a0], []⟩ = pure [(p0, a0)]) : Binds K fd [p0] [] := F.binds fun kV doc pm an cdv ct => qcO fun a0 => h kV doc pm an cdv ct a0
theorem Q5 {K : Frag} {x q : Str} {st : Stmt} {f : Addr} {fd : FuncData} {p0 p1 : Str} (F : Fun K x q st f fd) (h : ∀ (kV doc pm : Value) (an : Option Addr) (cdv ct a0 a1 : Value), bindArgs (fnOf x q (wR st) (vE st) (qf st) .none kV doc pm an cdv ct) ⟨[a0, a1], []⟩ = pure [(p0, a0), (p1, a1)]) : Binds K fd [p0, p1] [] := F.binds fun kV doc pm an cdv ct => qe2 fun a0 a1 => h kV doc pm an cdv ct a0 a1
theorem Uy {K : Frag} {x q : Str} {st : Stmt} {f : Addr} {fd : FuncData} {p0 p1 p2 : Str} (F : Fun K x q st f fd) (h : ∀ (kV doc pm : Value) (an : Option Addr) (cdv ct a0 a1 a2 : Value), bindArgs (fnOf x q (wR st) (vE st) (qf st) .none kV doc pm an cdv ct) ⟨[a0, a1, a2], []⟩ = pure [(p0, a0), (p1, a1), (p2, a2)]) : Binds K fd [p0, p1, p2] [] := F.binds fun kV doc pm an cdv ct => qfR fun a0 a1 a2 => h kV doc pm an cdv ct a0 a1 a2
theorem qfN {K : Frag} {x q : Str} {st : Stmt} {f : Addr} {fd : FuncData} {p0 p1 p2 p3 : Str} (F : Fun K x q st f fd) (h : ∀ (kV doc pm : Value) (an : Option Addr) (cdv ct a0 a1 a2 a3 : Value), bindArgs (fnOf x q (wR st) (vE st) (qf st) .none kV doc pm an cdv ct) ⟨[a0, a1, a2, a3], []⟩ = pure [(p0, a0), (p1, a1), (p2, a2), (p3, a3)]) : Binds K fd [p0, p1, p2, p3] [] := F.binds fun kV doc pm an cdv ct => qdI fun a0 a1 a2 a3 => h kV doc pm an cdv ct a0 a1 a2 a3
theorem wH {N P : List Str} {sc : Scope} (a : sc.kind = .function) (b : sc.isCoroutine = false) (c : sc.isGenerator = false) (d : N.take P.length = P) (h : N.Nodup /\ (∀ x ∈ P, sc.names.lookup x = some .local \/ sc.names.lookup x = some .cell) /\ ∀ y ∈ sc.names, y.2 ≠ .free) : qu N P sc := ⟨a, b, c, h.1, d, h.2.1, h.2.2⟩
section
variable {P : Program} {w : World} {K : Frag} {mg : Str -> Option Value} {base : Heap}
theorem Uu : qu ["x"] ["x"] (qf (top 8)) := wH rfl rfl rfl rfl (by decide +kernel)
theorem Uz {f : Addr} {fd : FuncData} (F : Fun K "sign_of" "sign_of" (top 8) f fd) (hm : mg "sign_of" = some (.ref f)) (hb : Binds K fd ["x"] [])  : Fd P w K mg base 1 "sign_of" 1 Dt.qO :=
 fd2 (r := Dt.ua) F Uu hm hb rfl (fun a b c d e f hr nd G => (qz (vF (qv Uh Ux (xv 0) qH)))) Dt.XI
theorem XM : qu ["x"] ["x"] (qf (top 9)) := wH rfl rfl rfl rfl (by decide +kernel)
theorem XU {f : Addr} {fd : FuncData} (F : Fun K "size_of" "size_of" (top 9) f fd) (hm : mg "size_of" = some (.ref f)) (hb : Binds K fd ["x"] []) (c_SIGN_BIT : ∃ t, mg "SIGN_BIT" = some (.int 9223372036854775808 t)) : Fd P w K mg base 1 "size_of" 1 Dt.qA :=
 fd2 (r := Dt.jP) F XM hm hb rfl (fun a b c d e f hr nd G => (qz (vF (qv Xo (jJ _) (xv 0) (qv zd zc (wa rfl c_SIGN_BIT) qH))))) Dt.XD
theorem Y3 : qu ["x"] ["x"] (qf (top 10)) := wH rfl rfl rfl rfl (by decide +kernel)
theorem YE {f : Addr} {fd : FuncData} (F : Fun K "opposite" "opposite" (top 10) f fd) (hm : mg "opposite" = some (.ref f)) (hb : Binds K fd ["x"] []) (c_SIGN_BIT : ∃ t, mg "SIGN_BIT" = some (.int 9223372036854775808 t)) : Fd P w K mg base 1 "opposite" 1 Dt.wu :=
 fd2 (r := Dt.xi) F Y3 hm hb rfl (fun a b c d e f hr nd G => (qz (vF (qv Uq (jJ _) (xv 0) (wa rfl c_SIGN_BIT))))) Dt.Y2
theorem Zn : qu ["x"] ["x"] (qf (top 11)) := wH rfl rfl rfl rfl (by decide +kernel)
theorem ZR {f : Addr} {fd : FuncData} (F : Fun K "is_finite" "is_finite" (top 11) f fd) (hm : mg "is_finite" = some (.ref f)) (hb : Binds K fd ["x"] []) (c_INFINITE : ∃ t, mg "INFINITE" = some (.int 9218868437227405312 t)) (f_size_of : Fd P w K mg base 1 "size_of" 1 Dt.qA) : Fd P w K mg base 2 "is_finite" 1 Dt.wN :=
 fd2 (r := Dt.yp) F Zn hm hb rfl (fun a b c d e f hr nd G => (qz (vF (qbg qas (xG _) (wq _) (qp G.acc f_size_of (hr.mono (by decide)) rfl (.cons (.nil)) (qe (xv 0) qo)) (wa rfl c_INFINITE))))) Dt.W7
theorem Xq : qu ["x"] ["x"] (qf (top 12)) := wH rfl rfl rfl rfl (by decide +kernel)
theorem XG {f : Addr} {fd : FuncData} (F : Fun K "is_zero" "is_zero" (top 12) f fd) (hm : mg "is_zero" = some (.ref f)) (hb : Binds K fd ["x"] []) (f_size_of : Fd P w K mg base 1 "size_of" 1 Dt.qA) : Fd P w K mg base 2 "is_zero" 1 Dt.vJ :=
 fd2 (r := Dt.ue) F Xq hm hb rfl (fun a b c d e f hr nd G => (qz (vF (qbg (xb hr.units) jl (wq _) (qp G.acc f_size_of (hr.mono (by decide)) rfl (.cons (.nil)) (qe (xv 0) qo)) qH)))) Dt.Ut
theorem YZ : qu ["x", "fraction"] ["x"] (qf (top 13)) := wH rfl rfl rfl rfl (by decide +kernel)
theorem Yb {f : Addr} {fd : FuncData} (F : Fun K "whole_of" "whole_of" (top 13) f fd) (hm : mg "whole_of" = some (.ref f)) (hb : Binds K fd ["x"] []) (c_FRACTION_BITS : ∃ t, mg "FRACTION_BITS" = some (.int 52 t)) (f_size_of : Fd P w K mg base 1 "size_of" 1 Dt.qA) : Fd P w K mg base 2 "whole_of" 1 Dt.qP :=
 fd2 (r := Dt.xk) F YZ hm hb rfl (fun a b c d e f hr nd G => (qI (xI 1 G (qv Xo (jJ _) (xv 0) (qv zd zc (qv zb zO qH (wa rfl c_FRACTION_BITS)) qH))) (qI (xt (wJ (xb hr.units) jl (wq _) (qp G.acc f_size_of (hr.mono (by decide)) rfl (.cons (.nil)) (qe (xv 0) qo)) (xv 1)) (qz (qef 1)) zm) (qz (vF (qv vR wC (xv 1) (qv zb zO qH (wa rfl c_FRACTION_BITS)))))))) Dt.Ya
theorem QG : qu ["x"] ["x"] (qf (top 14)) := wH rfl rfl rfl rfl (by decide +kernel)
theorem Qx {f : Addr} {fd : FuncData} (F : Fun K "signed_whole" "signed_whole" (top 14) f fd) (hm : mg "signed_whole" = some (.ref f)) (hb : Binds K fd ["x"] []) (f_sign_of : Fd P w K mg base 1 "sign_of" 1 Dt.qO) (f_whole_of : Fd P w K mg base 2 "whole_of" 1 Dt.qP) : Fd P w K mg base 3 "signed_whole" 1 Dt.qG :=
 fd2 (r := Dt.zq) F QG hm hb rfl (fun a b c d e f hr nd G => (qz (vF (UT (wJ (xb hr.units) jl (wq _) (qp G.acc f_sign_of (hr.mono (by decide)) rfl (.cons (.nil)) (qe (xv 0) qo)) qH) (Vh (qp G.acc f_whole_of (hr.mono (by decide)) rfl (.cons (.nil)) (qe (xv 0) qo))) (qp G.acc f_whole_of (hr.mono (by decide)) rfl (.cons (.nil)) (qe (xv 0) qo)))))) Dt.Qv
theorem YS : qu ["x"] ["x"] (qf (top 15)) := wH rfl rfl rfl rfl (by decide +kernel)
theorem Yw {f : Addr} {fd : FuncData} (F : Fun K "power_of" "power_of" (top 15) f fd) (hm : mg "power_of" = some (.ref f)) (hb : Binds K fd ["x"] []) (c_FRACTION_BITS : ∃ t, mg "FRACTION_BITS" = some (.int 52 t)) (c_LEAST_POWER : ∃ t, mg "LEAST_POWER" = some (.int (-1074) t)) (n_max : mg "max" = none) (f_size_of : Fd P w K mg base 1 "size_of" 1 Dt.qA) : Fd P w K mg base 2 "power_of" 1 Dt.qF :=
 fd2 (r := Dt.xc) F YS hm hb rfl (fun a b c d e f hr nd G => (qz (vF (qv vR wC (qv zd zc (wZ (vO (WG rfl) rfl n_max W2 (qe (qv Uh Ux (qp G.acc f_size_of (hr.mono (by decide)) rfl (.cons (.nil)) (qe (xv 0) qo)) (wa rfl c_FRACTION_BITS)) (qe qH qo))) qbM) qH) (wa rfl c_LEAST_POWER))))) Dt.YD
theorem jV : qu ["whole", "drop", "kept", "left", "half"] ["whole", "drop"] (qf (top 16)) := wH rfl rfl rfl rfl (by decide +kernel)
theorem jO {f : Addr} {fd : FuncData} (F : Fun K "nearest_whole" "nearest_whole" (top 16) f fd) (hm : mg "nearest_whole" = some (.ref f)) (hb : Binds K fd ["whole", "drop"] [])  : Fd P w K mg base 1 "nearest_whole" 2 Dt.vz :=
 fd2 (r := Dt.za) F jV hm hb rfl (fun a b c d e f hr nd G => (qI (xt (wJ qe3 (xG _) (wq _) (xv 1) qH) (qz (vF (qv zb zO (xv 0) (Vh (xv 1))))) zm) (qI (xI 2 G (qv Uh Ux (xv 0) (xv 1))) (qI (xI 3 G (qv zd zc (xv 0) (qv zb zO (xv 2) (xv 1)))) (qI (xI 4 G (qv zb zO qH (qv zd zc (xv 1) qH))) (qI (xt (ZZ (qdt (wJ qaW (xG _) (wq _) (xv 3) (xv 4)) (qbT (ZZ (qey (wJ (xb hr.units) jl (wq _) (xv 3) (xv 4)) (qdg (wJ (xb hr.units) jl (wq _) (qv qbe qaS (xv 2) qH) qH))))))) (qz (vF (qv vR wC (xv 2) qH))) zm) (qz (qef 2)))))))) Dt.j3
theorem X8 : qu ["sign", "whole", "power", "drop", "kept", "size"] ["sign", "whole", "power"] (qf (top 17)) := wH rfl rfl rfl rfl (by decide +kernel)
theorem Xy {f : Addr} {fd : FuncData} (F : Fun K "rounded" "rounded" (top 17) f fd) (hm : mg "rounded" = some (.ref f)) (hb : Binds K fd ["sign", "whole", "power"] []) {C_StepNotFinite : Addr} (c_FRACTION_BITS : ∃ t, mg "FRACTION_BITS" = some (.int 52 t)) (c_INFINITE : ∃ t, mg "INFINITE" = some (.int 9218868437227405312 t)) (c_LEAST_POWER : ∃ t, mg "LEAST_POWER" = some (.int (-1074) t)) (n_max : mg "max" = none) (m_StepNotFinite : mg "StepNotFinite" = some (.ref C_StepNotFinite)) (x_StepNotFinite : qR K C_StepNotFinite = true) (f_nearest_whole : Fd P w K mg base 1 "nearest_whole" 2 Dt.vz) : Fd P w K mg base 2 "rounded" 3 Dt.wc :=
 fd2 (r := Dt.ud) F X8 hm hb rfl (fun a b c d e f hr nd G => (qI (xt (wJ (xb hr.units) jl (wq _) (xv 1) qH) (qz (vF (qv zb zO (xv 0) qH))) zm) (qI (xI 3 G (wZ (vO (WG rfl) rfl n_max W2 (qe (qv zd zc (qv zd zc (qch (qdN PySem.F.plainAttrs_int PySem.F.slot_int_bit_length PySem.F.type_int_bit_length qcs (xv 1))) (wa rfl c_FRACTION_BITS)) qH) (qe (qv zd zc (wa rfl c_LEAST_POWER) (xv 2)) qo))) qbM)) (qI (xI 4 G (qp G.acc f_nearest_whole (hr.mono (by decide)) rfl (.cons (.cons (.nil))) (qe (xv 1) (qe (xv 3) qo)))) (qI (xI 5 G (qv vR wC (qv zb zO (qv zd zc (qv vR wC (xv 2) (xv 3)) (wa rfl c_LEAST_POWER)) (wa rfl c_FRACTION_BITS)) (xv 4))) (qI (xt (wJ qfs (xG _) (wq _) (xv 5) (wa rfl c_INFINITE)) (qz (xN G rfl m_StepNotFinite x_StepNotFinite)) zm) (qz (vF (qv vR wC (qv zb zO (xv 0) qH) (xv 5)))))))))) Dt.Xx
theorem xP : qu ["sign", "whole", "left", "power", "behind"] ["sign", "whole", "left", "power"] (qf (top 18)) := wH rfl rfl rfl rfl (by decide +kernel)
theorem xp {f : Addr} {fd : FuncData} (F : Fun K "rounded_with_rest" "rounded_with_rest" (top 18) f fd) (hm : mg "rounded_with_rest" = some (.ref f)) (hb : Binds K fd ["sign", "whole", "left", "power"] []) (f_rounded : Fd P w K mg base 2 "rounded" 3 Dt.wc) : Fd P w K mg base 3 "rounded_with_rest" 4 Dt.qU :=
 fd2 (r := Dt.wb) F xP hm hb rfl (fun a b c d e f hr nd G => (qI (xI 4 G (UT (wJ (xb hr.units) jl (wq _) (xv 2) qH) qH qH)) (qz (vF (qp G.acc f_rounded (hr.mono (by decide)) rfl (.cons (.cons (.cons (.nil)))) (qe (xv 0) (qe (qv vR wC (qv (Zf.or Xk) Ul (xv 1) qH) (xv 4)) (qe (qv zd zc (xv 3) qH) qo)))))))) Dt.xU
theorem qa5 : qu ["x", "y", "z", "power", "low", "product_part", "total"] ["x", "y", "z"] (qf (top 19)) := wH rfl rfl rfl rfl (by decide +kernel)
theorem qbK {f : Addr} {fd : FuncData} (F : Fun K "fused" "fused" (top 19) f fd) (hm : mg "fused" = some (.ref f)) (hb : Binds K fd ["x", "y", "z"] []) (n_abs : mg "abs" = none) (n_min : mg "min" = none) (f_power_of : Fd P w K mg base 2 "power_of" 1 Dt.qF) (f_rounded : Fd P w K mg base 2 "rounded" 3 Dt.wc) (f_sign_of : Fd P w K mg base 1 "sign_of" 1 Dt.qO) (f_signed_whole : Fd P w K mg base 3 "signed_whole" 1 Dt.qG) : Fd P w K mg base 4 "fused" 3 Dt.ym :=
 fd2 (r := Dt.QQ) F qa5 hm hb rfl (fun a b c d e f hr nd G => (qI (xI 3 G (qv vR wC (qp G.acc f_power_of (hr.mono (by decide)) rfl (.cons (.nil)) (qe (xv 0) qo)) (qp G.acc f_power_of (hr.mono (by decide)) rfl (.cons (.nil)) (qe (xv 1) qo)))) (qI (xI 4 G (wZ (vO (JH rfl) rfl n_min qae (qe (xv 3) (qe (qp G.acc f_power_of (hr.mono (by decide)) rfl (.cons (.nil)) (qe (xv 2) qo)) qo))) qeC)) (qI (xI 5 G (qv zb zO (qv (Zf.or Xk) Ul (qp G.acc f_signed_whole (hr.mono (by decide)) rfl (.cons (.nil)) (qe (xv 0) qo)) (qp G.acc f_signed_whole (hr.mono (by decide)) rfl (.cons (.nil)) (qe (xv 1) qo))) (qv zd zc (xv 3) (xv 4)))) (qI (xI 6 G (qv vR wC (xv 5) (qv zb zO (qp G.acc f_signed_whole (hr.mono (by decide)) rfl (.cons (.nil)) (qe (xv 2) qo)) (qv zd zc (qp G.acc f_power_of (hr.mono (by decide)) rfl (.cons (.nil)) (qe (xv 2) qo)) (xv 4))))) (qI (xt (wJ (xb hr.units) jl (wq _) (xv 6) qH) (qz (vF (qv zb zO (qv Xo (jJ _) (qv Uq (jJ _) (qp G.acc f_sign_of (hr.mono (by decide)) rfl (.cons (.nil)) (qe (xv 0) qo)) (qp G.acc f_sign_of (hr.mono (by decide)) rfl (.cons (.nil)) (qe (xv 1) qo))) (qp G.acc f_sign_of (hr.mono (by decide)) rfl (.cons (.nil)) (qe (xv 2) qo))) qH))) zm) (qz (vF (qp G.acc f_rounded (hr.mono (by decide)) rfl (.cons (.cons (.cons (.nil)))) (qe (UT (wJ qas (xG _) (wq _) (xv 6) qH) qH qH) (qe (wZ (vO qbF rfl n_abs J7 (qe (xv 6) qo)) qen) (qe (xv 4) qo)))))))))))) Dt.qbH
theorem Xc : qu ["x", "y", "widened", "whole", "left"] ["x", "y"] (qf (top 20)) := wH rfl rfl rfl rfl (by decide +kernel)
theorem Y4 {f : Addr} {fd : FuncData} (F : Fun K "quotient" "quotient" (top 20) f fd) (hm : mg "quotient" = some (.ref f)) (hb : Binds K fd ["x", "y"] []) {C_StepNotFinite : Addr} (c_WIDER : ∃ t, mg "WIDER" = some (.int 112 t)) (m_StepNotFinite : mg "StepNotFinite" = some (.ref C_StepNotFinite)) (x_StepNotFinite : qR K C_StepNotFinite = true) (f_is_zero : Fd P w K mg base 2 "is_zero" 1 Dt.vJ) (f_power_of : Fd P w K mg base 2 "power_of" 1 Dt.qF) (f_rounded_with_rest : Fd P w K mg base 3 "rounded_with_rest" 4 Dt.qU) (f_sign_of : Fd P w K mg base 1 "sign_of" 1 Dt.qO) (f_whole_of : Fd P w K mg base 2 "whole_of" 1 Dt.qP) : Fd P w K mg base 4 "quotient" 2 Dt.vg :=
 fd2 (r := Dt.xa) F Xc hm hb rfl (fun a b c d e f hr nd G => (qI (xt (XH (qp G.acc f_is_zero (hr.mono (by decide)) rfl (.cons (.nil)) (qe (xv 1) qo))) (qz (xN G rfl m_StepNotFinite x_StepNotFinite)) zm) (qI (xI 2 G (qv zb zO (qp G.acc f_whole_of (hr.mono (by decide)) rfl (.cons (.nil)) (qe (xv 0) qo)) (wa rfl c_WIDER))) (qI (xI 3 G (qv qbE qcI (xv 2) (qp G.acc f_whole_of (hr.mono (by decide)) rfl (.cons (.nil)) (qe (xv 1) qo)))) (qI (xI 4 G (qv qbe qaS (xv 2) (qp G.acc f_whole_of (hr.mono (by decide)) rfl (.cons (.nil)) (qe (xv 1) qo)))) (qz (vF (qp G.acc f_rounded_with_rest (hr.mono (by decide)) rfl (.cons (.cons (.cons (.cons (.nil))))) (qe (qv Uq (jJ _) (qp G.acc f_sign_of (hr.mono (by decide)) rfl (.cons (.nil)) (qe (xv 0) qo)) (qp G.acc f_sign_of (hr.mono (by decide)) rfl (.cons (.nil)) (qe (xv 1) qo))) (qe (xv 3) (qe (xv 4) (qe (qv zd zc (qv zd zc (qp G.acc f_power_of (hr.mono (by decide)) rfl (.cons (.nil)) (qe (xv 0) qo)) (qp G.acc f_power_of (hr.mono (by decide)) rfl (.cons (.nil)) (qe (xv 1) qo))) (wa rfl c_WIDER)) qo)))))))))))) Dt.Yj
theorem X0 : qu ["numbers", "n", "start"] ["numbers", "n"] (qf (top 22)) := wH rfl rfl rfl rfl (by decide +kernel)
theorem Xs {f : Addr} {fd : FuncData} (F : Fun K "grid_of" "grid_of" (top 22) f fd) (hm : mg "grid_of" = some (.ref f)) (hb : Binds K fd ["numbers", "n"] []) (n_len : mg "len" = none) (n_range : mg "range" = none) : Fd P w K mg base 1 "grid_of" 2 Gr.z5 :=
 fd2 (r := Gr.ug) F X0 hm hb rfl (fun a b c d e f hr nd G => (qz (vF (uW (hc := rfl) (hN := nd) (acc := G.acc) (hst := rfl) (hfr := rfl) (hi := (JK (i := 2) rfl n_range qH (wZ (vO vq rfl n_len wd (qe (xv 0) qo)) yf) (xv 1))) (own := [("start", 2)]) (ok := by show jT ["numbers", "n", "start"] (qf (top 22)) _ _ = true; decide +kernel) (hv := by simp [Tg.within]) (hg := fun s H C cl fp => (pgn 2 nd)) (ht := fun s H C cl fp => yc) (he := fun s H C cl fp => (ja (xv 0) (jq (xv 2)) (jq (qv vR wC (xv 2) (xv 1))) xj)))))) (fun _ _ => .inr rfl)
theorem qdf : qu ["grid", "numbers", "row"] ["grid"] (qf (top 23)) := wH rfl rfl rfl rfl (by decide +kernel)
theorem qck {f : Addr} {fd : FuncData} (F : Fun K "flat" "flat" (top 23) f fd) (hm : mg "flat" = some (.ref f)) (hb : Binds K fd ["grid"] [])  : Fd P w K mg base 1 "flat" 1 Gr.xM :=
 qb9 (r := Gr.ZA) F qdf hm hb rfl (fun a b c d e f hr nd G => (vo (qbP 1 G ne_nil) (vo (uz G (qe4 (x8 (i := 2) (xv 0))) (pgn 2 nd) (vY (JR (qfd PySem.F.plainAttrs_list PySem.F.slot_list_extend PySem.F.type_list_extend Xv (zk 1) (vH (xv 2) zp))))) (vY (Zu (zk 1)))))) (fun _ => rfl)
theorem We : qu ["x", "n", "i", "j"] ["x", "n", "i"] (qf (top 24)) := wH rfl rfl rfl rfl (by decide +kernel)
theorem Wm {f : Addr} {fd : FuncData} (F : Fun K "middle_row" "middle_row" (top 24) f fd) (hm : mg "middle_row" = some (.ref f)) (hb : Binds K fd ["x", "n", "i"] []) (n_range : mg "range" = none) : Fd P w K mg base 1 "middle_row" 3 Gr.wt :=
 fd2 (r := Gr.zX) F We hm hb rfl (fun a b c d e f hr nd G => (qz (vF (uW (hc := rfl) (hN := nd) (acc := G.acc) (hst := rfl) (hfr := rfl) (hi := (WR (i := 3) rfl n_range (xv 1))) (own := [("j", 3)]) (ok := by show jT ["x", "n", "i", "j"] (qf (top 24)) _ _ = true; decide +kernel) (hv := by simp [Tg.within]) (hg := fun s H C cl fp => (pgn 3 nd)) (ht := fun s H C cl fp => yc) (he := fun s H C cl fp => (UT (wJ (xb hr.units) jl (wq _) (xv 3) (xv 2)) (xv 0) qH)))))) (fun _ _ => .inr rfl)
theorem Vz : qu ["x", "n", "i"] ["x", "n"] (qf (top 25)) := wH rfl rfl rfl rfl (by decide +kernel)
theorem Wb {f : Addr} {fd : FuncData} (F : Fun K "middle_grid" "middle_grid" (top 25) f fd) (hm : mg "middle_grid" = some (.ref f)) (hb : Binds K fd ["x", "n"] []) (n_range : mg "range" = none) (f_middle_row : Fd P w K mg base 1 "middle_row" 3 Gr.wt) : Fd P w K mg base 2 "middle_grid" 2 Gr.wA :=
 fd2 (r := Gr.zF) F Vz hm hb rfl (fun a b c d e f hr nd G => (qz (vF (uW (hc := rfl) (hN := nd) (acc := G.acc) (hst := rfl) (hfr := rfl) (hi := (WR (i := 2) rfl n_range (xv 1))) (own := [("i", 2)]) (ok := by show jT ["x", "n", "i"] (qf (top 25)) _ _ = true; decide +kernel) (hv := by simp [Tg.within]) (hg := fun s H C cl fp => (pgn 2 nd)) (ht := fun s H C cl fp => yc) (he := fun s H C cl fp => (qp yN f_middle_row (hr.mono (by decide)) rfl (.cons (.cons (.cons (.nil)))) (qe (xv 0) (qe (xv 1) (qe (xv 2) qo))))))))) (fun _ _ => .inr rfl)
theorem W4 : qu ["n"] ["n"] (qf (top 26)) := wH rfl rfl rfl rfl (by decide +kernel)
theorem ZI {f : Addr} {fd : FuncData} (F : Fun K "unit_grid" "unit_grid" (top 26) f fd) (hm : mg "unit_grid" = some (.ref f)) (hb : Binds K fd ["n"] []) (c_ONE : ∃ t, mg "ONE" = some (.int 4607182418800017408 t)) (f_middle_grid : Fd P w K mg base 2 "middle_grid" 2 Gr.wA) : Fd P w K mg base 3 "unit_grid" 1 Gr.wK :=
 fd2 (r := Gr.yu) F W4 hm hb rfl (fun a b c d e f hr nd G => (qz (vF (qp G.acc f_middle_grid (hr.mono (by decide)) rfl (.cons (.cons (.nil))) (qe (wa rfl c_ONE) (qe (xv 0) qo)))))) (fun _ _ => .inr rfl)
theorem QH : qu ["sizes", "lists", "counts", "size", "numbers", "count"] ["sizes", "lists", "counts"] (qf (top 33)) := wH rfl rfl rfl rfl (by decide +kernel)
theorem Ql {f : Addr} {fd : FuncData} (F : Fun K "check_counts" "check_counts" (top 33) f fd) (hm : mg "check_counts" = some (.ref f)) (hb : Binds K fd ["sizes", "lists", "counts"] []) {C_WrongCount : Addr} (c_GREATEST_SIZE : ∃ t, mg "GREATEST_SIZE" = some (.int 16 t)) (n_len : mg "len" = none) (n_zip : mg "zip" = none) (m_WrongCount : mg "WrongCount" = some (.ref C_WrongCount)) (x_WrongCount : qR K C_WrongCount = true) : Fd P w K mg base 1 "check_counts" 3 Dt.qY :=
 fd2 (r := Dt.zl) F QH hm hb rfl (fun a b c d e f hr nd G => (qI (Jf G (x8 (i := 3) (xv 0)) (pgn 3 nd) (qz (xt (ZZ (qdt (wJ qas (xG _) (wq _) (xv 3) qH) (qbT (wJ qaW (xG _) (wq _) (xv 3) (wa rfl c_GREATEST_SIZE))))) (qz (xN G rfl m_WrongCount x_WrongCount)) zm))) (qz (X7 G (qaY (i := 4) (j := 5) rfl n_zip (xv 1) (xv 2)) (pg2 rfl (pgn 4 nd) (pgn 5 nd)) (qz (xt (wJ (qaQ hr.units) qds (wq _) (wZ (vO vq rfl n_len wd (qe (xv 4) qo)) yf) (xv 5)) (qz (xN G rfl m_WrongCount x_WrongCount)) zm)))))) Dt.QA
theorem Qz : qu ["numbers", "x"] ["numbers"] (qf (top 34)) := wH rfl rfl rfl rfl (by decide +kernel)
theorem QB {f : Addr} {fd : FuncData} (F : Fun K "check_finite" "check_finite" (top 34) f fd) (hm : mg "check_finite" = some (.ref f)) (hb : Binds K fd ["numbers"] []) {C_NotFinite : Addr} (m_NotFinite : mg "NotFinite" = some (.ref C_NotFinite)) (x_NotFinite : qR K C_NotFinite = true) (f_is_finite : Fd P w K mg base 2 "is_finite" 1 Dt.wN) : Fd P w K mg base 3 "check_finite" 1 Dt.qQ :=
 fd2 (r := Dt.zv) F Qz hm hb rfl (fun a b c d e f hr nd G => (qz (Jf G (x8 (i := 1) (xv 0)) (pgn 1 nd) (qz (xt (qec (XH (qp G.acc f_is_finite (hr.mono (by decide)) rfl (.cons (.nil)) (qe (xv 1) qo)))) (qz (xN G rfl m_NotFinite x_NotFinite)) zm))))) Dt.Qs
theorem QF : qu ["self", "a", "row"] ["self", "a"] (qf (Jh 36 0)) := wH rfl rfl rfl rfl (by decide +kernel)
theorem Qt {f : Addr} {fd : FuncData} (F : Fun K "__init__" "Factors.__init__" (Jh 36 0) f fd) (n_len : mg "len" = none) (n_list : mg "list" = none) (n_range : mg "range" = none) (k_Factors_p : ∀ C, mg "Factors" = some (.ref C) -> Cls K C /\ vM K C "p") (k_Factors_sign : ∀ C, mg "Factors" = some (.ref C) -> Cls K C /\ vM K C "sign") (k_Factors_x : ∀ C, mg "Factors" = some (.ref C) -> Cls K C /\ vM K C "x") : y4 P w K mg base (CX1 P w) 1 f fd ["self", "a"] (spM mg K 2 Gr.vG) :=
 qf7 (r := Gr.wO) F QF rfl (fun a b c d e f hr nd G => (vo (Ye k_Factors_x (zk 0) (hv := (qcN (hc := rfl) (hN := nd) (acc := G.acc) (hst := rfl) (hfr := rfl) (hi := (x8 (i := 2) (xv 1))) (own := [("row", 2)]) (ok := by show jT ["self", "a", "row"] (qf (Jh 36 0)) _ _ = true; decide +kernel) (hv := by simp [Tg.within]) (hg := fun s H C cl fp => (pgn 2 nd)) (ht := fun s H C cl fp => yc) (he := fun s H C cl fp => (wZ (jX uZ rfl n_list uT (qe (xv 2) qo)) qc1))))) (vo (Ye k_Factors_p (zk 0) (hv := (qfk (ZV rfl rfl n_list rfl n_range (wZ (vO vq rfl n_len wd (qe (xv 1) qo)) yf))))) (vY (UN k_Factors_sign (zk 0) (qeY qH))))))
theorem Wq : qu ["row", "factor", "other", "s", "y"] ["row", "factor", "other"] (qf (top 37)) := wH rfl rfl rfl rfl (by decide +kernel)
theorem Ws {f : Addr} {fd : FuncData} (F : Fun K "less_times" "less_times" (top 37) f fd) (hm : mg "less_times" = some (.ref f)) (hb : Binds K fd ["row", "factor", "other"] []) (n_zip : mg "zip" = none) (f_fused : Fd P w K mg base 4 "fused" 3 Dt.ym) (f_opposite : Fd P w K mg base 1 "opposite" 1 Dt.wu) : Fd P w K mg base 5 "less_times" 3 Gr.qD :=
 fd2 (r := Gr.z4) F Wq hm hb rfl (fun a b c d e f hr nd G => (qz (vF (uW (hc := rfl) (hN := nd) (acc := G.acc) (hst := rfl) (hfr := rfl) (hi := (qaY (i := 3) (j := 4) rfl n_zip (xv 0) (xv 2))) (own := [("s", 3), ("y", 4)]) (ok := by show jT ["row", "factor", "other", "s", "y"] (qf (top 37)) _ _ = true; decide +kernel) (hv := by simp [Tg.within]) (hg := fun s H C cl fp => (pg2 rfl (pgn 3 nd) (pgn 4 nd))) (ht := fun s H C cl fp => yc) (he := fun s H C cl fp => (qp yN f_fused (hr.mono (by decide)) rfl (.cons (.cons (.cons (.nil)))) (qe (qp yN f_opposite (hr.mono (by decide)) rfl (.cons (.nil)) (qe (xv 1) qo)) (qe (xv 4) (qe (xv 3) qo))))))))) (fun _ _ => .inr rfl)
theorem QE : qu ["x", "k", "found", "i"] ["x", "k"] (qf (top 38)) := wH rfl rfl rfl rfl (by decide +kernel)
theorem Qu {f : Addr} {fd : FuncData} (F : Fun K "greatest_row" "greatest_row" (top 38) f fd) (hm : mg "greatest_row" = some (.ref f)) (hb : Binds K fd ["x", "k"] []) (n_len : mg "len" = none) (n_range : mg "range" = none) (f_size_of : Fd P w K mg base 1 "size_of" 1 Dt.qA) : Fd P w K mg base 2 "greatest_row" 2 Gr.vp :=
 fd2 (r := Gr.zr) F QE hm hb rfl (fun a b c d e f hr nd G => (qI (xI 2 G (xv 1)) (qI (X7 G (J2 (i := 3) rfl n_range (qv vR wC (xv 1) qH) (wZ (vO vq rfl n_len wd (qe (xv 0) qo)) yf)) (pgn 3 nd) (qz (xt (wJ qaW (xG _) (wq _) (qp G.acc f_size_of (hr.mono (by decide)) rfl (.cons (.nil)) (qe (wy (wy (xv 0) (xv 3) (fun _ _ => rfl)) (xv 1) (fun _ _ => rfl)) qo)) (qp G.acc f_size_of (hr.mono (by decide)) rfl (.cons (.nil)) (qe (wy (wy (xv 0) (xv 2) (fun _ _ => rfl)) (xv 1) (fun _ _ => rfl)) qo))) (qz (xI 2 G (xv 3))) zm))) (qz (qef 2))))) (fun _ _ => .inr rfl)
theorem YH : qu ["numbers", "r", "k", "kept"] ["numbers", "r", "k"] (qf (top 39)) := wH rfl rfl rfl rfl (by decide +kernel)
theorem Y0 {f : Addr} {fd : FuncData} (F : Fun K "exchange" "exchange" (top 39) f fd) (hm : mg "exchange" = some (.ref f)) (hb : Binds K fd ["numbers", "r", "k"] [])  : FdM P w K mg base 1 "exchange" 3 Gr.vZ :=
 qeJ (r := Gr.yZ) F YH hm hb rfl (fun a b c d e f hr nd G => (vo (Uc 3 G (qdx (zk 0) (xv 1))) (vo (yO (jD (qdx (zk 0) (xv 2)) (j0 (zk 0) (xv 1) set_list))) (vY (yO (jD (zk 3) (j0 (zk 0) (xv 2) set_list))))))) (fun _ _ => rfl)
theorem jA : qu ["factors", "r", "k"] ["factors", "r", "k"] (qf (top 40)) := wH rfl rfl rfl rfl (by decide +kernel)
theorem jU {f : Addr} {fd : FuncData} (F : Fun K "exchange_rows" "exchange_rows" (top 40) f fd) (hm : mg "exchange_rows" = some (.ref f)) (hb : Binds K fd ["factors", "r", "k"] []) (M_exchange : FdM P w K mg base 1 "exchange" 3 Gr.vZ) (k_Factors_p : ∀ C, mg "Factors" = some (.ref C) -> Cls K C /\ vM K C "p") (k_Factors_sign : ∀ C, mg "Factors" = some (.ref C) -> Cls K C /\ vM K C "sign") (k_Factors_x : ∀ C, mg "Factors" = some (.ref C) -> Cls K C /\ vM K C "x") : FdM P w K mg base 2 "exchange_rows" 3 Gr.vA :=
 qeJ (r := Gr.w8) F jA hm hb rfl (fun a b c d e f hr nd G => (vo (uU G.acc M_exchange (hr.mono (by decide)) rfl rfl (wU (ZF k_Factors_x (zk 0)) (wU (zk 1) (wU (zk 2) jL)))) (vo (uU G.acc M_exchange (hr.mono (by decide)) rfl rfl (wU (ZF k_Factors_p (zk 0)) (wU (zk 1) (wU (zk 2) jL)))) (vY (UN k_Factors_sign (zk 0) (Qj (Vh (x5 k_Factors_sign (xv 0))))))))) (fun _ _ => rfl)
theorem uL : qu ["x", "k", "i", "factor"] ["x", "k"] (qf (top 41)) := wH rfl rfl rfl rfl (by decide +kernel)
theorem uy {f : Addr} {fd : FuncData} (F : Fun K "eliminate_below" "eliminate_below" (top 41) f fd) (hm : mg "eliminate_below" = some (.ref f)) (hb : Binds K fd ["x", "k"] []) (n_len : mg "len" = none) (n_range : mg "range" = none) (f_less_times : Fd P w K mg base 5 "less_times" 3 Gr.qD) (f_quotient : Fd P w K mg base 4 "quotient" 2 Dt.vg) : FdM P w K mg base 6 "eliminate_below" 2 Gr.qW :=
 qeJ (r := Gr.wF) F uL hm hb rfl (fun a b c d e f hr nd G => (vY (uz G (WV (i := 2) rfl n_range (qv vR wC (xv 1) qH) (wZ (vO vq rfl n_len wd (qe (xv 0) qo)) yf)) (pgn 2 nd) (vo (Uc 3 G (Qj (qp G.acc f_quotient (hr.mono (by decide)) rfl (.cons (.cons (.nil))) (qe (wy (wy (xv 0) (xv 2) (fun _ _ => rfl)) (xv 1) (fun _ _ => rfl)) (qe (wy (wy (xv 0) (xv 1) (fun _ _ => rfl)) (xv 1) (fun _ _ => rfl)) qo))))) (vY (yO (jD (Qj (qv vR wC (qv vR wC (ja (wy (xv 0) (xv 2) (fun _ _ => rfl)) xj (jq (xv 1)) xj) (VQ (qe (xv 3) qo))) (qp G.acc f_less_times (hr.mono (by decide)) rfl (.cons (.cons (.cons (.nil)))) (qe (ja (wy (xv 0) (xv 2) (fun _ _ => rfl)) (jq (qv vR wC (xv 1) qH)) xj xj) (qe (xv 3) (qe (ja (wy (xv 0) (xv 1) (fun _ _ => rfl)) (jq (qv vR wC (xv 1) qH)) xj xj) qo)))))) (j0 (zk 0) (xv 2) set_list)))))))) (fun _ _ => rfl)
theorem qbU : qu ["a", "factors", "k", "r"] ["a"] (qf (top 42)) := wH rfl rfl rfl rfl (by decide +kernel)
theorem qa7 {f : Addr} {fd : FuncData} (F : Fun K "lu_of" "lu_of" (top 42) f fd) (hm : mg "lu_of" = some (.ref f)) (hb : Binds K fd ["a"] []) {C_NotAsTold : Addr} (n_len : mg "len" = none) (n_range : mg "range" = none) (m_NotAsTold : mg "NotAsTold" = some (.ref C_NotAsTold)) (x_NotAsTold : qR K C_NotAsTold = true) (f_greatest_row : Fd P w K mg base 2 "greatest_row" 2 Gr.vp) (f_is_zero : Fd P w K mg base 2 "is_zero" 1 Dt.vJ) (M_eliminate_below : FdM P w K mg base 6 "eliminate_below" 2 Gr.qW) (M_exchange_rows : FdM P w K mg base 2 "exchange_rows" 3 Gr.vA) (i_Factors : FdI P w K mg base 1 "Factors" 2 Gr.vG) (k_Factors_x : ∀ C, mg "Factors" = some (.ref C) -> Cls K C /\ vM K C "x") : Fd P w K mg base 7 "lu_of" 1 Gr.yX :=
 qb9 (r := Gr.QS) F qbU hm hb rfl (fun a b c d e f hr nd G => (vo (qak 1 G i_Factors (hr.mono (by decide)) rfl rfl (wU (zk 0) jL) (hret := Gr.jI)) (vo (uz G (jN (i := 2) rfl n_range (wZ (vO vq rfl n_len wd (qe (xv 0) qo)) yf)) (pgn 2 nd) (vo (Uc 3 G (Qj (qp G.acc f_greatest_row (hr.mono (by decide)) rfl (.cons (.cons (.nil))) (qe (x5 k_Factors_x (xv 1)) (qe (xv 2) qo))))) (vo (qdv (XH (qp G.acc f_is_zero (hr.mono (by decide)) rfl (.cons (.nil)) (qe (wy (wy (x5 k_Factors_x (xv 1)) (xv 3) (fun _ _ => rfl)) (xv 2) (fun _ _ => rfl)) qo))) (vY (qaR G rfl m_NotAsTold x_NotAsTold)) UI) (vo (qdv (wJ (qaQ hr.units) qds (wq _) (xv 3) (xv 2)) (vY (uU G.acc M_exchange_rows (hr.mono (by decide)) rfl rfl (wU (zk 1) (wU (zk 3) (wU (zk 2) jL))))) UI) (vY (uU G.acc M_eliminate_below (hr.mono (by decide)) rfl rfl (wU (ZF k_Factors_x (zk 1)) (wU (zk 2) jL)))))))) (vY (Zu (zk 1)))))) (fun _ => rfl)
theorem Vr : qu ["x", "start", "y", "i", "j", "s"] ["x", "start"] (qf (top 43)) := wH rfl rfl rfl rfl (by decide +kernel)
theorem V6 {f : Addr} {fd : FuncData} (F : Fun K "back_solved" "back_solved" (top 43) f fd) (hm : mg "back_solved" = some (.ref f)) (hb : Binds K fd ["x", "start"] []) (n_len : mg "len" = none) (n_list : mg "list" = none) (n_range : mg "range" = none) (f_less_times : Fd P w K mg base 5 "less_times" 3 Gr.qD) (f_quotient : Fd P w K mg base 4 "quotient" 2 Dt.vg) : Fd P w K mg base 6 "back_solved" 2 Gr.v5 :=
 qb9 (r := Gr.zE) F Vr hm hb rfl (fun a b c d e f hr nd G => (vo (qbP 2 G (qcW (jX uZ rfl n_list uT (wU (zk 1) jL)))) (vo (uz G (JF (i := 3) rfl n_range (qv zd zc (wZ (vO vq rfl n_len wd (qe (xv 2) qo)) yf) qH) (Vh qH) (Vh qH)) (pgn 3 nd) (vo (uz G (WV (i := 4) rfl n_range (qv vR wC (xv 3) qH) (wZ (vO vq rfl n_len wd (qe (xv 2) qo)) yf)) (pgn 4 nd) (vY (yO (jD (Qj (qp G.acc f_less_times (hr.mono (by decide)) rfl (.cons (.cons (.cons (.nil)))) (qe (wy (xv 2) (xv 3) (fun _ _ => rfl)) (qe (wy (wy (xv 0) (xv 3) (fun _ _ => rfl)) (xv 4) (fun _ _ => rfl)) (qe (wy (xv 2) (xv 4) (fun _ _ => rfl)) qo))))) (j0 (zk 2) (xv 3) set_list))))) (vY (yO (jD (Qj (uW (hc := rfl) (hN := nd) (acc := G.acc) (hst := rfl) (hfr := rfl) (hi := (x8 (i := 5) (wy (xv 2) (xv 3) (fun _ _ => rfl)))) (own := [("s", 5)]) (ok := by show jT ["x", "start", "y", "i", "j", "s"] (qf (top 43)) _ _ = true; decide +kernel) (hv := by simp [Tg.within]) (hg := fun s H C cl fp => (pgn 5 nd)) (ht := fun s H C cl fp => yc) (he := fun s H C cl fp => (qp yN f_quotient (hr.mono (by decide)) rfl (.cons (.cons (.nil))) (qe (xv 5) (qe (wy (wy (xv 0) (xv 3) (fun _ _ => rfl)) (xv 3) (fun _ _ => rfl)) qo)))))) (j0 (zk 2) (xv 3) set_list)))))) (vY (Zu (zk 2)))))) (fun _ => rfl)
theorem ZU : qu ["factors", "b", "y", "i", "j", "r"] ["factors", "b"] (qf (top 44)) := wH rfl rfl rfl rfl (by decide +kernel)
theorem Zo {f : Addr} {fd : FuncData} (F : Fun K "solved_by" "solved_by" (top 44) f fd) (hm : mg "solved_by" = some (.ref f)) (hb : Binds K fd ["factors", "b"] []) (n_len : mg "len" = none) (n_range : mg "range" = none) (f_back_solved : Fd P w K mg base 6 "back_solved" 2 Gr.v5) (f_less_times : Fd P w K mg base 5 "less_times" 3 Gr.qD) (k_Factors_p : ∀ C, mg "Factors" = some (.ref C) -> Cls K C /\ vM K C "p") (k_Factors_x : ∀ C, mg "Factors" = some (.ref C) -> Cls K C /\ vM K C "x") : Fd P w K mg base 7 "solved_by" 2 Gr.zL :=
 qb9 (r := Gr.yz) F ZU hm hb rfl (fun a b c d e f hr nd G => (vo (XQ (i := 2) (hc := rfl) (hN := nd) (acc := G.acc) (hst := rfl) (hfr := rfl) (hy := rfl) (hyl := rfl) (hsw := qca rfl rfl rfl (by decide +kernel)) (hi := (x8 (i := 5) (x5 k_Factors_p (xv 0)))) (own := [("r", 5)]) (ok := by show jT ["factors", "b", "y", "i", "j", "r"] (qf (top 44)) _ _ = true; decide +kernel) (hv := by simp [Tg.within]) (hg := fun s H C cl fp => (pgn 5 nd)) (ht := fun s H C cl fp => yc) (he := fun s H C cl fp => (wy (xv 1) (xv 5) (fun _ _ => rfl)))) (vo (uz G (jN (i := 3) rfl n_range (wZ (vO vq rfl n_len wd (qe (xv 2) qo)) yf)) (pgn 3 nd) (vY (uz G (jN (i := 4) rfl n_range (xv 3)) (pgn 4 nd) (vY (yO (jD (Qj (qp G.acc f_less_times (hr.mono (by decide)) rfl (.cons (.cons (.cons (.nil)))) (qe (wy (xv 2) (xv 3) (fun _ _ => rfl)) (qe (wy (wy (x5 k_Factors_x (xv 0)) (xv 3) (fun _ _ => rfl)) (xv 4) (fun _ _ => rfl)) (qe (wy (xv 2) (xv 4) (fun _ _ => rfl)) qo))))) (j0 (zk 2) (xv 3) set_list))))))) (vY (Zu (Qj (qp G.acc f_back_solved (hr.mono (by decide)) rfl (.cons (.cons (.nil))) (qe (x5 k_Factors_x (xv 0)) (qe (xv 2) qo))))))))) (fun _ => rfl)
theorem Z7 : qu ["a", "b"] ["a", "b"] (qf (top 45)) := wH rfl rfl rfl rfl (by decide +kernel)
theorem YW {f : Addr} {fd : FuncData} (F : Fun K "solve_of" "solve_of" (top 45) f fd) (hm : mg "solve_of" = some (.ref f)) (hb : Binds K fd ["a", "b"] []) (f_lu_of : Fd P w K mg base 7 "lu_of" 1 Gr.yX) (f_solved_by : Fd P w K mg base 7 "solved_by" 2 Gr.zL) : Fd P w K mg base 8 "solve_of" 2 Gr.yb :=
 fd2 (r := Gr.zB) F Z7 hm hb rfl (fun a b c d e f hr nd G => (qz (vF (qp G.acc f_solved_by (hr.mono (by decide)) rfl (.cons (.cons (.nil))) (qe (qp G.acc f_lu_of (hr.mono (by decide)) rfl (.cons (.nil)) (qe (xv 0) qo)) (qe (xv 1) qo)))))) (fun _ _ => .inr rfl)
theorem Wf : qu ["a"] ["a"] (qf (top 46)) := wH rfl rfl rfl rfl (by decide +kernel)
theorem Wi {f : Addr} {fd : FuncData} (F : Fun K "inverse_of" "inverse_of" (top 46) f fd) (hm : mg "inverse_of" = some (.ref f)) (hb : Binds K fd ["a"] []) (n_len : mg "len" = none) (f_solve_of : Fd P w K mg base 8 "solve_of" 2 Gr.yb) (f_unit_grid : Fd P w K mg base 3 "unit_grid" 1 Gr.wK) : Fd P w K mg base 9 "inverse_of" 1 Gr.zt :=
 fd2 (r := Gr.z3) F Wf hm hb rfl (fun a b c d e f hr nd G => (qz (vF (qp G.acc f_solve_of (hr.mono (by decide)) rfl (.cons (.cons (.nil))) (qe (xv 0) (qe (qp G.acc f_unit_grid (hr.mono (by decide)) rfl (.cons (.nil)) (qe (wZ (vO vq rfl n_len wd (qe (xv 0) qo)) yf) qo)) qo)))))) (fun _ _ => .inr rfl)
theorem Wg : qu ["numbers"] ["numbers"] (qf (top 48)) := wH rfl rfl rfl rfl (by decide +kernel)
theorem Wn {f : Addr} {fd : FuncData} (F : Fun K "with_count" "with_count" (top 48) f fd) (hm : mg "with_count" = some (.ref f)) (hb : Binds K fd ["numbers"] []) (n_len : mg "len" = none) : Fd P w K mg base 1 "with_count" 1 Dt.vC :=
 fd2 (r := Dt.jm) F Wg hm hb rfl (fun a b c d e f hr nd G => (qz (vF (qv vR wC (VQ (qe (wZ (vO vq rfl n_len wd (qe (xv 0) qo)) yf) qo)) (xv 0))))) Dt.Wt
theorem Zd : qu ["grid"] ["grid"] (qf (top 49)) := wH rfl rfl rfl rfl (by decide +kernel)
theorem Zh {f : Addr} {fd : FuncData} (F : Fun K "grid_told" "grid_told" (top 49) f fd) (hm : mg "grid_told" = some (.ref f)) (hb : Binds K fd ["grid"] []) (f_flat : Fd P w K mg base 1 "flat" 1 Gr.xM) (f_with_count : Fd P w K mg base 1 "with_count" 1 Dt.vC) : Fd P w K mg base 2 "grid_told" 1 Gr.zh :=
 fd2 (r := Gr.yi) F Zd hm hb rfl (fun a b c d e f hr nd G => (qz (vF (qp G.acc f_with_count (hr.mono (by decide)) rfl (.cons (.nil)) (qe (qp G.acc f_flat (hr.mono (by decide)) rfl (.cons (.nil)) (qe (xv 0) qo)) qo))))) (fun _ _ => .inr rfl)
theorem ZG : qu ["n", "a"] ["n", "a"] (qf (top 50)) := wH rfl rfl rfl rfl (by decide +kernel)
theorem ZN {f : Addr} {fd : FuncData} (F : Fun K "square_of" "square_of" (top 50) f fd) (hm : mg "square_of" = some (.ref f)) (hb : Binds K fd ["n", "a"] []) (f_check_counts : Fd P w K mg base 1 "check_counts" 3 Dt.qY) (f_check_finite : Fd P w K mg base 3 "check_finite" 1 Dt.qQ) (f_grid_of : Fd P w K mg base 1 "grid_of" 2 Gr.z5) : Fd P w K mg base 4 "square_of" 2 Gr.zH :=
 fd2 (r := Gr.yt) F ZG hm hb rfl (fun a b c d e f hr nd G => (qI (Jo (qp G.acc f_check_counts (hr.mono (by decide)) rfl (.cons (.cons (.cons (.nil)))) (qe (VQ (qe (xv 0) qo)) (qe (VQ (qe (xv 1) qo)) (qe (VQ (qe (qv (Zf.or Xk) Ul (xv 0) (xv 0)) qo)) qo))))) (qI (Jo (qp G.acc f_check_finite (hr.mono (by decide)) rfl (.cons (.nil)) (qe (xv 1) qo))) (qz (vF (qp G.acc f_grid_of (hr.mono (by decide)) rfl (.cons (.cons (.nil))) (qe (xv 1) (qe (xv 0) qo)))))))) (fun _ _ => .inr rfl)
end
theorem Z6 : qu ["work", "told"] ["work"] (qf (top 32)) := wH rfl rfl rfl rfl (by decide +kernel)
theorem Xr : qu ["n", "a"] ["n", "a"] (qf (top 51)) := wH rfl rfl rfl rfl (by decide +kernel)
noncomputable def qfV : Scope := match vE (top 51) with
 | [.Return (some (.Call _ (.Lambda _ _ ls _ :: _) _ _)) _] => ls
 | _ => qf (top 51)
theorem ZL : jd (qf (top 51)) qfV := ⟨rfl, rfl, rfl, by decide +kernel, by decide +kernel, by decide +kernel⟩
theorem all_mk {P : Program} {w : World} {K : Frag} {h : Heap} {mg : Str -> Option Value} {fa c PT : Addr} (X : K.In h) (G : h.Ns mainGlobals mg) (hfa : mg "inverse" = some (.ref fa))
  {C_Factors : Addr}
  {f_x20 : Addr} {d_x20 : FuncData}
  {f_x0 : Addr} {d_x0 : FuncData}
  {f_x1 : Addr} {d_x1 : FuncData}
  {f_x2 : Addr} {d_x2 : FuncData}
  {f_x3 : Addr} {d_x3 : FuncData}
  {f_x4 : Addr} {d_x4 : FuncData}
  {f_x5 : Addr} {d_x5 : FuncData}
  {f_x6 : Addr} {d_x6 : FuncData}
  {f_x7 : Addr} {d_x7 : FuncData}
  {f_x8 : Addr} {d_x8 : FuncData}
  {f_x9 : Addr} {d_x9 : FuncData}
  {f_x10 : Addr} {d_x10 : FuncData}
  {f_x11 : Addr} {d_x11 : FuncData}
  {f_x12 : Addr} {d_x12 : FuncData}
  {f_x13 : Addr} {d_x13 : FuncData}
  {f_x14 : Addr} {d_x14 : FuncData}
  {f_x15 : Addr} {d_x15 : FuncData}
  {f_x16 : Addr} {d_x16 : FuncData}
  {f_x17 : Addr} {d_x17 : FuncData}
  {f_x18 : Addr} {d_x18 : FuncData}
  {f_x19 : Addr} {d_x19 : FuncData}
  {f_x21 : Addr} {d_x21 : FuncData}
  {f_x22 : Addr} {d_x22 : FuncData}
  {f_x23 : Addr} {d_x23 : FuncData}
  {f_x24 : Addr} {d_x24 : FuncData}
  {f_x25 : Addr} {d_x25 : FuncData}
  {f_x26 : Addr} {d_x26 : FuncData}
  {f_x27 : Addr} {d_x27 : FuncData}
  {f_x28 : Addr} {d_x28 : FuncData}
  {f_x29 : Addr} {d_x29 : FuncData}
  {f_x30 : Addr} {d_x30 : FuncData}
  {f_x31 : Addr} {d_x31 : FuncData}
  {f_x32 : Addr} {d_x32 : FuncData}
  {f_x33 : Addr} {d_x33 : FuncData}
  {f_x34 : Addr} {oc_x34 kV_x34 dc_x34 pm_x34 cd_x34 ct_x34 : Value} {od_x34 an_x34 : Option Addr} {sl_x34 : Array (Option Value)}
  {f_x35 : Addr} {oc_x35 kV_x35 dc_x35 pm_x35 cd_x35 ct_x35 : Value} {od_x35 an_x35 : Option Addr} {sl_x35 : Array (Option Value)}
  {C_WrongCount C_NotFinite C_StepNotFinite C_NotAsTold : Addr}
  {t_FRACTION_BITS : _}
  {t_GREATEST_SIZE : _}
  {t_INFINITE : _}
  {t_LEAST_POWER : _}
  {t_ONE : _}
  {t_SIGN_BIT : _}
  {t_WIDER : _}
  (a_Factors : mg "Factors" = some (.ref C_Factors))
  (a_x20 : findIn K (.ref C_Factors) "__init__" = some (some (.ref f_x20))) (F_x20 : Fun K "__init__" "Factors.__init__" (Jh 36 0) f_x20 d_x20)
  (a_x0 : mg "sign_of" = some (.ref f_x0)) (F_x0 : Fun K "sign_of" "sign_of" (top 8) f_x0 d_x0)
  (a_x1 : mg "size_of" = some (.ref f_x1)) (F_x1 : Fun K "size_of" "size_of" (top 9) f_x1 d_x1)
  (a_x2 : mg "opposite" = some (.ref f_x2)) (F_x2 : Fun K "opposite" "opposite" (top 10) f_x2 d_x2)
  (a_x3 : mg "is_finite" = some (.ref f_x3)) (F_x3 : Fun K "is_finite" "is_finite" (top 11) f_x3 d_x3)
  (a_x4 : mg "is_zero" = some (.ref f_x4)) (F_x4 : Fun K "is_zero" "is_zero" (top 12) f_x4 d_x4)
  (a_x5 : mg "whole_of" = some (.ref f_x5)) (F_x5 : Fun K "whole_of" "whole_of" (top 13) f_x5 d_x5)
  (a_x6 : mg "signed_whole" = some (.ref f_x6)) (F_x6 : Fun K "signed_whole" "signed_whole" (top 14) f_x6 d_x6)
  (a_x7 : mg "power_of" = some (.ref f_x7)) (F_x7 : Fun K "power_of" "power_of" (top 15) f_x7 d_x7)
  (a_x8 : mg "nearest_whole" = some (.ref f_x8)) (F_x8 : Fun K "nearest_whole" "nearest_whole" (top 16) f_x8 d_x8)
  (a_x9 : mg "rounded" = some (.ref f_x9)) (F_x9 : Fun K "rounded" "rounded" (top 17) f_x9 d_x9)
  (a_x10 : mg "rounded_with_rest" = some (.ref f_x10)) (F_x10 : Fun K "rounded_with_rest" "rounded_with_rest" (top 18) f_x10 d_x10)
  (a_x11 : mg "fused" = some (.ref f_x11)) (F_x11 : Fun K "fused" "fused" (top 19) f_x11 d_x11)
  (a_x12 : mg "quotient" = some (.ref f_x12)) (F_x12 : Fun K "quotient" "quotient" (top 20) f_x12 d_x12)
  (a_x13 : mg "grid_of" = some (.ref f_x13)) (F_x13 : Fun K "grid_of" "grid_of" (top 22) f_x13 d_x13)
  (a_x14 : mg "flat" = some (.ref f_x14)) (F_x14 : Fun K "flat" "flat" (top 23) f_x14 d_x14)
  (a_x15 : mg "middle_row" = some (.ref f_x15)) (F_x15 : Fun K "middle_row" "middle_row" (top 24) f_x15 d_x15)
  (a_x16 : mg "middle_grid" = some (.ref f_x16)) (F_x16 : Fun K "middle_grid" "middle_grid" (top 25) f_x16 d_x16)
  (a_x17 : mg "unit_grid" = some (.ref f_x17)) (F_x17 : Fun K "unit_grid" "unit_grid" (top 26) f_x17 d_x17)
  (a_x18 : mg "check_counts" = some (.ref f_x18)) (F_x18 : Fun K "check_counts" "check_counts" (top 33) f_x18 d_x18)
  (a_x19 : mg "check_finite" = some (.ref f_x19)) (F_x19 : Fun K "check_finite" "check_finite" (top 34) f_x19 d_x19)
  (a_x21 : mg "less_times" = some (.ref f_x21)) (F_x21 : Fun K "less_times" "less_times" (top 37) f_x21 d_x21)
  (a_x22 : mg "greatest_row" = some (.ref f_x22)) (F_x22 : Fun K "greatest_row" "greatest_row" (top 38) f_x22 d_x22)
  (a_x23 : mg "exchange" = some (.ref f_x23)) (F_x23 : Fun K "exchange" "exchange" (top 39) f_x23 d_x23)
  (a_x24 : mg "exchange_rows" = some (.ref f_x24)) (F_x24 : Fun K "exchange_rows" "exchange_rows" (top 40) f_x24 d_x24)
  (a_x25 : mg "eliminate_below" = some (.ref f_x25)) (F_x25 : Fun K "eliminate_below" "eliminate_below" (top 41) f_x25 d_x25)
  (a_x26 : mg "lu_of" = some (.ref f_x26)) (F_x26 : Fun K "lu_of" "lu_of" (top 42) f_x26 d_x26)
  (a_x27 : mg "back_solved" = some (.ref f_x27)) (F_x27 : Fun K "back_solved" "back_solved" (top 43) f_x27 d_x27)
  (a_x28 : mg "solved_by" = some (.ref f_x28)) (F_x28 : Fun K "solved_by" "solved_by" (top 44) f_x28 d_x28)
  (a_x29 : mg "solve_of" = some (.ref f_x29)) (F_x29 : Fun K "solve_of" "solve_of" (top 45) f_x29 d_x29)
  (a_x30 : mg "inverse_of" = some (.ref f_x30)) (F_x30 : Fun K "inverse_of" "inverse_of" (top 46) f_x30 d_x30)
  (a_x31 : mg "with_count" = some (.ref f_x31)) (F_x31 : Fun K "with_count" "with_count" (top 48) f_x31 d_x31)
  (a_x32 : mg "grid_told" = some (.ref f_x32)) (F_x32 : Fun K "grid_told" "grid_told" (top 49) f_x32 d_x32)
  (a_x33 : mg "square_of" = some (.ref f_x33)) (F_x33 : Fun K "square_of" "square_of" (top 50) f_x33 d_x33)
  (a_x34 : mg "answered" = some (.ref f_x34)) (l_x34 : K.lookup f_x34 = some ⟨oc_x34, od_x34, .func (fnOf "answered" "answered" (wR (top 32)) (vE (top 32)) (qf (top 32)) .none kV_x34 dc_x34 pm_x34 an_x34 cd_x34 ct_x34), sl_x34⟩) (c_x34 : codeIn K cd_x34 "answered" = true) (k_x34 : keepIn K (.ref f_x34) = true)
  (a_x35 : nsIn K mainGlobals "inverse" = some (some (.ref f_x35))) (l_x35 : K.lookup f_x35 = some ⟨oc_x35, od_x35, .func (fnOf "inverse" "inverse" (wR (top 51)) (vE (top 51)) (qf (top 51)) .none kV_x35 dc_x35 pm_x35 an_x35 cd_x35 ct_x35), sl_x35⟩) (c_x35 : codeIn K cd_x35 "inverse" = true) (k_x35 : keepIn K (.ref f_x35) = true)
  (s_FRACTION_BITS : mg "FRACTION_BITS" = some (.int (52) t_FRACTION_BITS))
  (s_GREATEST_SIZE : mg "GREATEST_SIZE" = some (.int (16) t_GREATEST_SIZE))
  (s_INFINITE : mg "INFINITE" = some (.int (9218868437227405312) t_INFINITE))
  (s_LEAST_POWER : mg "LEAST_POWER" = some (.int (-1074) t_LEAST_POWER))
  (s_ONE : mg "ONE" = some (.int (4607182418800017408) t_ONE))
  (s_SIGN_BIT : mg "SIGN_BIT" = some (.int (9223372036854775808) t_SIGN_BIT))
  (s_WIDER : mg "WIDER" = some (.int (112) t_WIDER))
  (q_WrongCount : mg "WrongCount" = some (.ref C_WrongCount)) (x_WrongCount : qR K C_WrongCount = true)
  (q_NotFinite : mg "NotFinite" = some (.ref C_NotFinite)) (x_NotFinite : qR K C_NotFinite = true)
  (q_StepNotFinite : mg "StepNotFinite" = some (.ref C_StepNotFinite)) (x_StepNotFinite : qR K C_StepNotFinite = true)
  (q_NotAsTold : mg "NotAsTold" = some (.ref C_NotAsTold)) (x_NotAsTold : qR K C_NotAsTold = true)
  (z_abs : mg "abs" = none)
  (z_len : mg "len" = none)
  (z_list : mg "list" = none)
  (z_max : mg "max" = none)
  (z_min : mg "min" = none)
  (z_range : mg "range" = none)
  (z_zip : mg "zip" = none)
  (e2 : (C_NotFinite == C_WrongCount) = false) (e3 : (C_StepNotFinite == C_WrongCount) = false) (e4 : (C_StepNotFinite == C_NotFinite) = false) (e5 : (C_NotAsTold == C_WrongCount) = false) (e6 : (C_NotAsTold == C_NotFinite) = false) (e7 : (C_NotAsTold == C_StepNotFinite) = false)
  (y1_Factors : makesIn K C_Factors = true) (y2_Factors : isFn K (.ref f_x20) = true) (y3_Factors : keepIn K (.ref C_Factors) = true) (y4_Factors : plainGet K C_Factors Str.empty = true) (y5_Factors : hasDictIn K C_Factors = true) (y6_Factors : plainOver K C_Factors = true) (y7_Factors : findIn K (.ref C_Factors) "__setattr__" = some (some (.builtin "object.__setattr__")))
  (y_Factors_x : findIn K (.ref C_Factors) "x" = some none)
  (y_Factors_p : findIn K (.ref C_Factors) "p" = some none)
  (y_Factors_sign : findIn K (.ref C_Factors) "sign" = some none)
  (htab : tabIn K "inverse" = some (c, PT)) :
  ∃ fd : FuncData, (∀ (s : Shared) (us : List Value), us.length = (["n", "a"] : List Str).length -> BindsTo s fd ⟨us, []⟩ ((["n", "a"] : List Str).zip us)) /\ ∀ base : Heap, K.In base -> base.Ns mainGlobals mg -> y8 mg base c PT -> y4 P w K mg base (CX1 P w) 12 fa fd ["n", "a"] (qbG mg K 2 Gr.zD LL PT) := by
 have e := hfa.symm.trans (mg_of X G a_x35)
 cases e
 have b_x0 : Binds K _ ["x"] [] := uR F_x0 fun a a a a a a a => rfl
 have b_x1 : Binds K _ ["x"] [] := uR F_x1 fun a a a a a a a => rfl
 have b_x2 : Binds K _ ["x"] [] := uR F_x2 fun a a a a a a a => rfl
 have b_x3 : Binds K _ ["x"] [] := uR F_x3 fun a a a a a a a => rfl
 have b_x4 : Binds K _ ["x"] [] := uR F_x4 fun a a a a a a a => rfl
 have b_x5 : Binds K _ ["x"] [] := uR F_x5 fun a a a a a a a => rfl
 have b_x6 : Binds K _ ["x"] [] := uR F_x6 fun a a a a a a a => rfl
 have b_x7 : Binds K _ ["x"] [] := uR F_x7 fun a a a a a a a => rfl
 have b_x8 : Binds K _ ["whole", "drop"] [] := Q5 F_x8 fun a a a a a a a a => rfl
 have b_x9 : Binds K _ ["sign", "whole", "power"] [] := Uy F_x9 fun a a a a a a a a a => rfl
 have b_x10 : Binds K _ ["sign", "whole", "left", "power"] [] := qfN F_x10 fun a a a a a a a a a a => rfl
 have b_x11 : Binds K _ ["x", "y", "z"] [] := Uy F_x11 fun a a a a a a a a a => rfl
 have b_x12 : Binds K _ ["x", "y"] [] := Q5 F_x12 fun a a a a a a a a => rfl
 have b_x13 : Binds K _ ["numbers", "n"] [] := Q5 F_x13 fun a a a a a a a a => rfl
 have b_x14 : Binds K _ ["grid"] [] := uR F_x14 fun a a a a a a a => rfl
 have b_x15 : Binds K _ ["x", "n", "i"] [] := Uy F_x15 fun a a a a a a a a a => rfl
 have b_x16 : Binds K _ ["x", "n"] [] := Q5 F_x16 fun a a a a a a a a => rfl
 have b_x17 : Binds K _ ["n"] [] := uR F_x17 fun a a a a a a a => rfl
 have b_x18 : Binds K _ ["sizes", "lists", "counts"] [] := Uy F_x18 fun a a a a a a a a a => rfl
 have b_x19 : Binds K _ ["numbers"] [] := uR F_x19 fun a a a a a a a => rfl
 have b_x20 : Binds K _ ["self", "a"] [] := Q5 F_x20 fun a a a a a a a a => rfl
 have b_x21 : Binds K _ ["row", "factor", "other"] [] := Uy F_x21 fun a a a a a a a a a => rfl
 have b_x22 : Binds K _ ["x", "k"] [] := Q5 F_x22 fun a a a a a a a a => rfl
 have b_x23 : Binds K _ ["numbers", "r", "k"] [] := Uy F_x23 fun a a a a a a a a a => rfl
 have b_x24 : Binds K _ ["factors", "r", "k"] [] := Uy F_x24 fun a a a a a a a a a => rfl
 have b_x25 : Binds K _ ["x", "k"] [] := Q5 F_x25 fun a a a a a a a a => rfl
 have b_x26 : Binds K _ ["a"] [] := uR F_x26 fun a a a a a a a => rfl
 have b_x27 : Binds K _ ["x", "start"] [] := Q5 F_x27 fun a a a a a a a a => rfl
 have b_x28 : Binds K _ ["factors", "b"] [] := Q5 F_x28 fun a a a a a a a a => rfl
 have b_x29 : Binds K _ ["a", "b"] [] := Q5 F_x29 fun a a a a a a a a => rfl
 have b_x30 : Binds K _ ["a"] [] := uR F_x30 fun a a a a a a a => rfl
 have b_x31 : Binds K _ ["numbers"] [] := uR F_x31 fun a a a a a a a => rfl
 have b_x32 : Binds K _ ["grid"] [] := uR F_x32 fun a a a a a a a => rfl
 have b_x33 : Binds K _ ["n", "a"] [] := Q5 F_x33 fun a a a a a a a a => rfl
 have F_x34 := qN (st := (top 32)) l_x34 c_x34 k_x34
 have F_x35 := qN (st := (top 51)) l_x35 c_x35 k_x35
 refine ⟨fnOf "inverse" "inverse" (wR (top 51)) (vE (top 51)) (qf (top 51)) .none kV_x35 dc_x35 pm_x35 an_x35 cd_x35 ct_x35, fun s => qe2 fun _ _ => .of_eq rfl, fun base _ _ BL => ?_⟩
 have y_Factors_x : ∀ C, mg "Factors" = some (.ref C) -> Cls K C /\ vM K C "x" := fun C hC => by
  have e := hC.symm.trans a_Factors
  cases e
  exact ⟨⟨y4_Factors, y5_Factors, y6_Factors, y7_Factors⟩, y_Factors_x⟩
 have y_Factors_p : ∀ C, mg "Factors" = some (.ref C) -> Cls K C /\ vM K C "p" := fun C hC => by
  have e := hC.symm.trans a_Factors
  cases e
  exact ⟨⟨y4_Factors, y5_Factors, y6_Factors, y7_Factors⟩, y_Factors_p⟩
 have y_Factors_sign : ∀ C, mg "Factors" = some (.ref C) -> Cls K C /\ vM K C "sign" := fun C hC => by
  have e := hC.symm.trans a_Factors
  cases e
  exact ⟨⟨y4_Factors, y5_Factors, y6_Factors, y7_Factors⟩, y_Factors_sign⟩
 have g_FRACTION_BITS : ∃ t, mg "FRACTION_BITS" = some (.int (52) t) := ⟨_, s_FRACTION_BITS⟩
 have g_GREATEST_SIZE : ∃ t, mg "GREATEST_SIZE" = some (.int (16) t) := ⟨_, s_GREATEST_SIZE⟩
 have g_INFINITE : ∃ t, mg "INFINITE" = some (.int (9218868437227405312) t) := ⟨_, s_INFINITE⟩
 have g_LEAST_POWER : ∃ t, mg "LEAST_POWER" = some (.int (-1074) t) := ⟨_, s_LEAST_POWER⟩
 have g_ONE : ∃ t, mg "ONE" = some (.int (4607182418800017408) t) := ⟨_, s_ONE⟩
 have g_SIGN_BIT : ∃ t, mg "SIGN_BIT" = some (.int (9223372036854775808) t) := ⟨_, s_SIGN_BIT⟩
 have g_WIDER : ∃ t, mg "WIDER" = some (.int (112) t) := ⟨_, s_WIDER⟩
 have D_x0 : Fd P w K mg base 1 "sign_of" 1 Dt.qO := Uz F_x0 a_x0 b_x0
 have D_x1 : Fd P w K mg base 1 "size_of" 1 Dt.qA := XU F_x1 a_x1 b_x1 g_SIGN_BIT
 have D_x2 : Fd P w K mg base 1 "opposite" 1 Dt.wu := YE F_x2 a_x2 b_x2 g_SIGN_BIT
 have D_x3 : Fd P w K mg base 2 "is_finite" 1 Dt.wN := ZR F_x3 a_x3 b_x3 g_INFINITE D_x1
 have D_x4 : Fd P w K mg base 2 "is_zero" 1 Dt.vJ := XG F_x4 a_x4 b_x4 D_x1
 have D_x5 : Fd P w K mg base 2 "whole_of" 1 Dt.qP := Yb F_x5 a_x5 b_x5 g_FRACTION_BITS D_x1
 have D_x6 : Fd P w K mg base 3 "signed_whole" 1 Dt.qG := Qx F_x6 a_x6 b_x6 D_x0 D_x5
 have D_x7 : Fd P w K mg base 2 "power_of" 1 Dt.qF := Yw F_x7 a_x7 b_x7 g_FRACTION_BITS g_LEAST_POWER z_max D_x1
 have D_x8 : Fd P w K mg base 1 "nearest_whole" 2 Dt.vz := jO F_x8 a_x8 b_x8
 have D_x9 : Fd P w K mg base 2 "rounded" 3 Dt.wc := Xy F_x9 a_x9 b_x9 g_FRACTION_BITS g_INFINITE g_LEAST_POWER z_max q_StepNotFinite x_StepNotFinite D_x8
 have D_x10 : Fd P w K mg base 3 "rounded_with_rest" 4 Dt.qU := xp F_x10 a_x10 b_x10 D_x9
 have D_x11 : Fd P w K mg base 4 "fused" 3 Dt.ym := qbK F_x11 a_x11 b_x11 z_abs z_min D_x7 D_x9 D_x0 D_x6
 have D_x12 : Fd P w K mg base 4 "quotient" 2 Dt.vg := Y4 F_x12 a_x12 b_x12 g_WIDER q_StepNotFinite x_StepNotFinite D_x4 D_x7 D_x10 D_x0 D_x5
 have D_x13 : Fd P w K mg base 1 "grid_of" 2 Gr.z5 := Xs F_x13 a_x13 b_x13 z_len z_range
 have D_x14 : Fd P w K mg base 1 "flat" 1 Gr.xM := qck F_x14 a_x14 b_x14
 have D_x15 : Fd P w K mg base 1 "middle_row" 3 Gr.wt := Wm F_x15 a_x15 b_x15 z_range
 have D_x16 : Fd P w K mg base 2 "middle_grid" 2 Gr.wA := Wb F_x16 a_x16 b_x16 z_range D_x15
 have D_x17 : Fd P w K mg base 3 "unit_grid" 1 Gr.wK := ZI F_x17 a_x17 b_x17 g_ONE D_x16
 have D_x18 : Fd P w K mg base 1 "check_counts" 3 Dt.qY := Ql F_x18 a_x18 b_x18 g_GREATEST_SIZE z_len z_zip q_WrongCount x_WrongCount
 have D_x19 : Fd P w K mg base 3 "check_finite" 1 Dt.qQ := QB F_x19 a_x19 b_x19 q_NotFinite x_NotFinite D_x3
 have D_x20 : FdI P w K mg base 1 "Factors" 2 Gr.vG := ⟨C_Factors, f_x20, _, _, ⟨y1_Factors, a_x20, y2_Factors, y3_Factors⟩, Qt F_x20 z_len z_list z_range y_Factors_p y_Factors_sign y_Factors_x, a_Factors, b_x20⟩
 have D_x21 : Fd P w K mg base 5 "less_times" 3 Gr.qD := Ws F_x21 a_x21 b_x21 z_zip D_x11 D_x2
 have D_x22 : Fd P w K mg base 2 "greatest_row" 2 Gr.vp := Qu F_x22 a_x22 b_x22 z_len z_range D_x1
 have D_x23 : FdM P w K mg base 1 "exchange" 3 Gr.vZ := Y0 F_x23 a_x23 b_x23
 have D_x24 : FdM P w K mg base 2 "exchange_rows" 3 Gr.vA := jU F_x24 a_x24 b_x24 D_x23 y_Factors_p y_Factors_sign y_Factors_x
 have D_x25 : FdM P w K mg base 6 "eliminate_below" 2 Gr.qW := uy F_x25 a_x25 b_x25 z_len z_range D_x21 D_x12
 have D_x26 : Fd P w K mg base 7 "lu_of" 1 Gr.yX := qa7 F_x26 a_x26 b_x26 z_len z_range q_NotAsTold x_NotAsTold D_x22 D_x4 D_x25 D_x24 D_x20 y_Factors_x
 have D_x27 : Fd P w K mg base 6 "back_solved" 2 Gr.v5 := V6 F_x27 a_x27 b_x27 z_len z_list z_range D_x21 D_x12
 have D_x28 : Fd P w K mg base 7 "solved_by" 2 Gr.zL := Zo F_x28 a_x28 b_x28 z_len z_range D_x27 D_x21 y_Factors_p y_Factors_x
 have D_x29 : Fd P w K mg base 8 "solve_of" 2 Gr.yb := YW F_x29 a_x29 b_x29 D_x26 D_x28
 have D_x30 : Fd P w K mg base 9 "inverse_of" 1 Gr.zt := Wi F_x30 a_x30 b_x30 z_len D_x29 D_x17
 have D_x31 : Fd P w K mg base 1 "with_count" 1 Dt.vC := Wn F_x31 a_x31 b_x31 z_len
 have D_x32 : Fd P w K mg base 2 "grid_told" 1 Gr.zh := Zh F_x32 a_x32 b_x32 D_x14 D_x31
 have D_x33 : Fd P w K mg base 4 "square_of" 2 Gr.zH := ZN F_x33 a_x33 b_x33 D_x18 D_x19 D_x13
 have AO : qbJ P w K mg base (top 32) [(C_WrongCount, 1), (C_NotFinite, 2), (C_StepNotFinite, 3), (C_NotAsTold, 4)] := ⟨f_x34, _, _, _, _, _, _, _, _, _, _, _, _, _, _, _, _, _, _, _, _, _, _, l_x34, c_x34, k_x34, a_x34, rfl, Z6, rfl, rfl, fun s u => .of_eq rfl,
  fun A outer s H E => .cons rfl q_WrongCount x_WrongCount (by decide) (.cons rfl q_NotFinite x_NotFinite (by decide) (.cons rfl q_StepNotFinite x_StepNotFinite (by decide) (.cons rfl q_NotAsTold x_NotAsTold (by decide) .nil)))⟩
 have ER : Uw mg K LL [(C_WrongCount, 1), (C_NotFinite, 2), (C_StepNotFinite, 3), (C_NotAsTold, 4)] := ⟨fun c C k hC hl => qfK q_WrongCount q_NotFinite q_StepNotFinite q_NotAsTold x_WrongCount x_NotFinite x_StepNotFinite x_NotAsTold e2 e3 e4 e5 e6 e7 hC hl⟩
 exact qco (st := top 51) (st2 := top 32) (gs := Gr.zD) (r := Gr.xg) F_x35 Xr rfl htab a_x35 BL AO ER rfl ZL rfl (fun _ => rfl) (fun _ _ _ _ _ => rfl)
  (fun cdv A outer s0 H0 E0 Y q f2 cd s H E2 hr => (qp (Zb ZL) D_x32 (hr.mono (by decide)) rfl (.cons (.nil)) (qe (qp (Zb ZL) D_x30 (hr.mono (by decide)) rfl (.cons (.nil)) (qe (qp (Zb ZL) D_x33 (hr.mono (by decide)) rfl (.cons (.cons (.nil))) (qe (xv 0) (qe (xv 1) qo))) qo)) qo))) (fun ds hl => Gr.Xn ds)
end Lw
open PySem PySem.W PyProof.Rows
set_option maxRecDepth 100000 in
set_option maxHeartbeats 0 in
theorem PySem.Challenge.cw_doubletables_s16_inverse_holds : PySem.Challenge.rw_doubletables_s16_inverse.Holds := by
 w_on; k_headS; (case hw => exact ⟨[.int 0, .list []], by decide +kernel, by decide +kernel⟩)
 k_fillS
 refine L2.Ir.qbD (r := PySem.Challenge.rw_doubletables_s16_inverse) (k := 12) (ps := ["n", "a"]) (sp := fun K mg PT => L2.Ir.qbG mg K 2 Gr.zD Dt.LL PT) (c := ?c) (PT := ?PT) (by decide +kernel) rfl ⟨rfl, by decide, by decide⟩ (fun w h Y => PySem.W.kIn_of Y) ?no ?tab rfl ?F ?S
 (case tab => intro p; exact rfl)
 (case no => intro p; exact rfl)
 case F =>
  intro w mg fa h Y KX G hmg
  refine' Lw.all_mk KX G hmg ?a_Factors ?a_x20 ?F_x20 ?a_x0 ?F_x0 ?a_x1 ?F_x1 ?a_x2 ?F_x2 ?a_x3 ?F_x3 ?a_x4 ?F_x4 ?a_x5 ?F_x5 ?a_x6 ?F_x6 ?a_x7 ?F_x7 ?a_x8 ?F_x8 ?a_x9 ?F_x9 ?a_x10 ?F_x10 ?a_x11 ?F_x11 ?a_x12 ?F_x12 ?a_x13 ?F_x13 ?a_x14 ?F_x14 ?a_x15 ?F_x15 ?a_x16 ?F_x16 ?a_x17 ?F_x17 ?a_x18 ?F_x18 ?a_x19 ?F_x19 ?a_x21 ?F_x21 ?a_x22 ?F_x22 ?a_x23 ?F_x23 ?a_x24 ?F_x24 ?a_x25 ?F_x25 ?a_x26 ?F_x26 ?a_x27 ?F_x27 ?a_x28 ?F_x28 ?a_x29 ?F_x29 ?a_x30 ?F_x30 ?a_x31 ?F_x31 ?a_x32 ?F_x32 ?a_x33 ?F_x33 ?a_x34 ?l_x34 ?c_x34 ?k_x34 ?a_x35 ?l_x35 ?c_x35 ?k_x35 ?s_FRACTION_BITS ?s_GREATEST_SIZE ?s_INFINITE ?s_LEAST_POWER ?s_ONE ?s_SIGN_BIT ?s_WIDER ?q_WrongCount ?x_WrongCount ?q_NotFinite ?x_NotFinite ?q_StepNotFinite ?x_StepNotFinite ?q_NotAsTold ?x_NotAsTold ?z_abs ?z_len ?z_list ?z_max ?z_min ?z_range ?z_zip ?e2 ?e3 ?e4 ?e5 ?e6 ?e7 ?y1_Factors ?y2_Factors ?y3_Factors ?y4_Factors ?y5_Factors ?y6_Factors ?y7_Factors ?y_Factors_x ?y_Factors_p ?y_Factors_sign ?htab
  (case a_Factors => (refine' PySem.W.mg_of KX G ?g1; (case g1 => k_is))); (case a_x20 => k_is); (case F_x20 => (refine' L2.qN ?g1 ?g2 ?g3; (case g1 => k_is); (case g2 => k_is); (case g3 => k_is))); (case a_x0 => (refine' PySem.W.mg_of KX G ?g1; (case g1 => k_is))); (case F_x0 => (refine' L2.qN ?g1 ?g2 ?g3; (case g1 => k_is); (case g2 => k_is); (case g3 => k_is))); (case a_x1 => (refine' PySem.W.mg_of KX G ?g1; (case g1 => k_is))); (case F_x1 => (refine' L2.qN ?g1 ?g2 ?g3; (case g1 => k_is); (case g2 => k_is); (case g3 => k_is))); (case a_x2 => (refine' PySem.W.mg_of KX G ?g1; (case g1 => k_is))); (case F_x2 => (refine' L2.qN ?g1 ?g2 ?g3; (case g1 => k_is); (case g2 => k_is); (case g3 => k_is))); (case a_x3 => (refine' PySem.W.mg_of KX G ?g1; (case g1 => k_is))); (case F_x3 => (refine' L2.qN ?g1 ?g2 ?g3; (case g1 => k_is); (case g2 => k_is); (case g3 => k_is))); (case a_x4 => (refine' PySem.W.mg_of KX G ?g1; (case g1 => k_is))); (case F_x4 => (refine' L2.qN ?g1 ?g2 ?g3; (case g1 => k_is); (case g2 => k_is); (case g3 => k_is))); (case a_x5 => (refine' PySem.W.mg_of KX G ?g1; (case g1 => k_is))); (case F_x5 => (refine' L2.qN ?g1 ?g2 ?g3; (case g1 => k_is); (case g2 => k_is); (case g3 => k_is))); (case a_x6 => (refine' PySem.W.mg_of KX G ?g1; (case g1 => k_is))); (case F_x6 => (refine' L2.qN ?g1 ?g2 ?g3; (case g1 => k_is); (case g2 => k_is); (case g3 => k_is))); (case a_x7 => (refine' PySem.W.mg_of KX G ?g1; (case g1 => k_is))); (case F_x7 => (refine' L2.qN ?g1 ?g2 ?g3; (case g1 => k_is); (case g2 => k_is); (case g3 => k_is))); (case a_x8 => (refine' PySem.W.mg_of KX G ?g1; (case g1 => k_is))); (case F_x8 => (refine' L2.qN ?g1 ?g2 ?g3; (case g1 => k_is); (case g2 => k_is); (case g3 => k_is))); (case a_x9 => (refine' PySem.W.mg_of KX G ?g1; (case g1 => k_is))); (case F_x9 => (refine' L2.qN ?g1 ?g2 ?g3; (case g1 => k_is); (case g2 => k_is); (case g3 => k_is))); (case a_x10 => (refine' PySem.W.mg_of KX G ?g1; (case g1 => k_is))); (case F_x10 => (refine' L2.qN ?g1 ?g2 ?g3; (case g1 => k_is); (case g2 => k_is); (case g3 => k_is))); (case a_x11 => (refine' PySem.W.mg_of KX G ?g1; (case g1 => k_is))); (case F_x11 => (refine' L2.qN ?g1 ?g2 ?g3; (case g1 => k_is); (case g2 => k_is); (case g3 => k_is))); (case a_x12 => (refine' PySem.W.mg_of KX G ?g1; (case g1 => k_is))); (case F_x12 => (refine' L2.qN ?g1 ?g2 ?g3; (case g1 => k_is); (case g2 => k_is); (case g3 => k_is))); (case a_x13 => (refine' PySem.W.mg_of KX G ?g1; (case g1 => k_is))); (case F_x13 => (refine' L2.qN ?g1 ?g2 ?g3; (case g1 => k_is); (case g2 => k_is); (case g3 => k_is))); (case a_x14 => (refine' PySem.W.mg_of KX G ?g1; (case g1 => k_is))); (case F_x14 => (refine' L2.qN ?g1 ?g2 ?g3; (case g1 => k_is); (case g2 => k_is); (case g3 => k_is))); (case a_x15 => (refine' PySem.W.mg_of KX G ?g1; (case g1 => k_is))); (case F_x15 => (refine' L2.qN ?g1 ?g2 ?g3; (case g1 => k_is); (case g2 => k_is); (case g3 => k_is))); (case a_x16 => (refine' PySem.W.mg_of KX G ?g1; (case g1 => k_is))); (case F_x16 => (refine' L2.qN ?g1 ?g2 ?g3; (case g1 => k_is); (case g2 => k_is); (case g3 => k_is))); (case a_x17 => (refine' PySem.W.mg_of KX G ?g1; (case g1 => k_is))); (case F_x17 => (refine' L2.qN ?g1 ?g2 ?g3; (case g1 => k_is); (case g2 => k_is); (case g3 => k_is))); (case a_x18 => (refine' PySem.W.mg_of KX G ?g1; (case g1 => k_is))); (case F_x18 => (refine' L2.qN ?g1 ?g2 ?g3; (case g1 => k_is); (case g2 => k_is); (case g3 => k_is))); (case a_x19 => (refine' PySem.W.mg_of KX G ?g1; (case g1 => k_is))); (case F_x19 => (refine' L2.qN ?g1 ?g2 ?g3; (case g1 => k_is); (case g2 => k_is); (case g3 => k_is))); (case a_x21 => (refine' PySem.W.mg_of KX G ?g1; (case g1 => k_is))); (case F_x21 => (refine' L2.qN ?g1 ?g2 ?g3; (case g1 => k_is); (case g2 => k_is); (case g3 => k_is))); (case a_x22 => (refine' PySem.W.mg_of KX G ?g1; (case g1 => k_is))); (case F_x22 => (refine' L2.qN ?g1 ?g2 ?g3; (case g1 => k_is); (case g2 => k_is); (case g3 => k_is))); (case a_x23 => (refine' PySem.W.mg_of KX G ?g1; (case g1 => k_is))); (case F_x23 => (refine' L2.qN ?g1 ?g2 ?g3; (case g1 => k_is); (case g2 => k_is); (case g3 => k_is))); (case a_x24 => (refine' PySem.W.mg_of KX G ?g1; (case g1 => k_is))); (case F_x24 => (refine' L2.qN ?g1 ?g2 ?g3; (case g1 => k_is); (case g2 => k_is); (case g3 => k_is))); (case a_x25 => (refine' PySem.W.mg_of KX G ?g1; (case g1 => k_is))); (case F_x25 => (refine' L2.qN ?g1 ?g2 ?g3; (case g1 => k_is); (case g2 => k_is); (case g3 => k_is))); (case a_x26 => (refine' PySem.W.mg_of KX G ?g1; (case g1 => k_is))); (case F_x26 => (refine' L2.qN ?g1 ?g2 ?g3; (case g1 => k_is); (case g2 => k_is); (case g3 => k_is))); (case a_x27 => (refine' PySem.W.mg_of KX G ?g1; (case g1 => k_is))); (case F_x27 => (refine' L2.qN ?g1 ?g2 ?g3; (case g1 => k_is); (case g2 => k_is); (case g3 => k_is))); (case a_x28 => (refine' PySem.W.mg_of KX G ?g1; (case g1 => k_is))); (case F_x28 => (refine' L2.qN ?g1 ?g2 ?g3; (case g1 => k_is); (case g2 => k_is); (case g3 => k_is))); (case a_x29 => (refine' PySem.W.mg_of KX G ?g1; (case g1 => k_is))); (case F_x29 => (refine' L2.qN ?g1 ?g2 ?g3; (case g1 => k_is); (case g2 => k_is); (case g3 => k_is))); (case a_x30 => (refine' PySem.W.mg_of KX G ?g1; (case g1 => k_is))); (case F_x30 => (refine' L2.qN ?g1 ?g2 ?g3; (case g1 => k_is); (case g2 => k_is); (case g3 => k_is))); (case a_x31 => (refine' PySem.W.mg_of KX G ?g1; (case g1 => k_is))); (case F_x31 => (refine' L2.qN ?g1 ?g2 ?g3; (case g1 => k_is); (case g2 => k_is); (case g3 => k_is))); (case a_x32 => (refine' PySem.W.mg_of KX G ?g1; (case g1 => k_is))); (case F_x32 => (refine' L2.qN ?g1 ?g2 ?g3; (case g1 => k_is); (case g2 => k_is); (case g3 => k_is))); (case a_x33 => (refine' PySem.W.mg_of KX G ?g1; (case g1 => k_is))); (case F_x33 => (refine' L2.qN ?g1 ?g2 ?g3; (case g1 => k_is); (case g2 => k_is); (case g3 => k_is))); (case a_x34 => (refine' PySem.W.mg_of KX G ?g1; (case g1 => k_is))); (case l_x34 => k_is); (case c_x34 => k_is); (case k_x34 => k_is); (case a_x35 => k_is); (case l_x35 => k_is); (case c_x35 => k_is); (case k_x35 => k_is); (case s_FRACTION_BITS => (refine' PySem.W.mg_of KX G ?g1; (case g1 => k_is))); (case s_GREATEST_SIZE => (refine' PySem.W.mg_of KX G ?g1; (case g1 => k_is))); (case s_INFINITE => (refine' PySem.W.mg_of KX G ?g1; (case g1 => k_is))); (case s_LEAST_POWER => (refine' PySem.W.mg_of KX G ?g1; (case g1 => k_is))); (case s_ONE => (refine' PySem.W.mg_of KX G ?g1; (case g1 => k_is))); (case s_SIGN_BIT => (refine' PySem.W.mg_of KX G ?g1; (case g1 => k_is))); (case s_WIDER => (refine' PySem.W.mg_of KX G ?g1; (case g1 => k_is))); (case q_WrongCount => (refine' PySem.W.mg_of KX G ?g1; (case g1 => k_is))); (case x_WrongCount => (refine' Dt.yk ?g1 ?g2 ?g3; (case g1 => k_is); (case g2 => (refine' Dt.QY ?l ?h; (case l => k_is); (case h => exact rfl))); (case g3 => k_is))); (case q_NotFinite => (refine' PySem.W.mg_of KX G ?g1; (case g1 => k_is))); (case x_NotFinite => (refine' Dt.yk ?g1 ?g2 ?g3; (case g1 => k_is); (case g2 => (refine' Dt.QY ?l ?h; (case l => k_is); (case h => exact rfl))); (case g3 => k_is))); (case q_StepNotFinite => (refine' PySem.W.mg_of KX G ?g1; (case g1 => k_is))); (case x_StepNotFinite => (refine' Dt.yk ?g1 ?g2 ?g3; (case g1 => k_is); (case g2 => (refine' Dt.QY ?l ?h; (case l => k_is); (case h => exact rfl))); (case g3 => k_is))); (case q_NotAsTold => (refine' PySem.W.mg_of KX G ?g1; (case g1 => k_is))); (case x_NotAsTold => (refine' Dt.yk ?g1 ?g2 ?g3; (case g1 => k_is); (case g2 => (refine' Dt.QY ?l ?h; (case l => k_is); (case h => exact rfl))); (case g3 => k_is))); (case z_abs => (refine' PySem.W.mg_none_of KX G ?g1; (case g1 => k_is))); (case z_len => (refine' PySem.W.mg_none_of KX G ?g1; (case g1 => k_is))); (case z_list => (refine' PySem.W.mg_none_of KX G ?g1; (case g1 => k_is))); (case z_max => (refine' PySem.W.mg_none_of KX G ?g1; (case g1 => k_is))); (case z_min => (refine' PySem.W.mg_none_of KX G ?g1; (case g1 => k_is))); (case z_range => (refine' PySem.W.mg_none_of KX G ?g1; (case g1 => k_is))); (case z_zip => (refine' PySem.W.mg_none_of KX G ?g1; (case g1 => k_is)))
  (case e2 => decide +kernel); (case e3 => decide +kernel); (case e4 => decide +kernel); (case e5 => decide +kernel); (case e6 => decide +kernel); (case e7 => decide +kernel)
  (case y1_Factors => first | k_is | exact rfl | decide +kernel); (case y2_Factors => first | k_is | exact rfl | decide +kernel); (case y3_Factors => first | k_is | exact rfl | decide +kernel); (case y4_Factors => first | k_is | exact rfl | decide +kernel); (case y5_Factors => first | k_is | exact rfl | decide +kernel); (case y6_Factors => first | k_is | exact rfl | decide +kernel); (case y7_Factors => first | k_is | exact rfl | decide +kernel); (case y_Factors_x => first | k_is | exact rfl | decide +kernel); (case y_Factors_p => first | k_is | exact rfl | decide +kernel); (case y_Factors_sign => first | k_is | exact rfl | decide +kernel)
  (case htab => exact rfl)
 case S =>
  intro K mg PT H xs a hP hwi hask hx
  have e : L2.Ir.Yn (Codec.encAll PySem.Challenge.rw_doubletables_s16_inverse.args a) = [.int a.1, .lst (a.2.1.map L2.Ir.D.int)] := by
   show [L2.Ir.D.int a.1, L2.Ir.D.lst (L2.Ir.Yn (a.2.1.map WData.int))] = _
   rw [L2.Ir.WD a.2.1]
  have pl : L2.Ir.ZQ (Codec.encAll PySem.Challenge.rw_doubletables_s16_inverse.args a) = true := by
   show (true && (L2.Ir.ZQ (a.2.1.map WData.int) && true)) = true
   rw [L2.Ir.WX a.2.1]; rfl
  have q : (Codec.inInt 0 18446744073709551615 a.1 && ((Codec.inLen 0 300 a.2.1 && a.2.1.all (Codec.inInt 0 18446744073709551615)) && true)) = true := hwi
  simp only [Bool.and_eq_true] at q
  obtain ⟨h1, h2⟩ := Gr.Yg (Dt.qbn q.1) (Dt.qcp q.2.1.2) (Codec.inNat_iff.mp q.2.1.1).2
  refine ⟨_, _, rfl, hP, by rw [<- e]; exact L2.Ir.Vb _ _ pl hx, h1, h2, fun H2 p hp => ?_⟩
  rw [Dt.Vc] at hp
  exact .lst (L2.SqL.of hp) (L2.U4 _)
