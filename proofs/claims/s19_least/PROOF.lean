import PyProof.Rows.All
import Wide.All
import OpenK.AllK
import Wide.FinOn
import PyProof.EqAt
import PyProof.EqKinds
import PyProof.TupleCall
import KE.BitLaws
import Open.SpecLaws
import KE.OsHead
import KE.OsGo
import PyProof.StationsW
import PyProof.ExcBaseAll.Exception
import KE.KLam
import PyProof.SliceList
import KE.KNestM
import PySem.Challenge.RW_doubletables_s19_least
set_option bootstrap.genMatcherCode false
set_option compiler.extract_closed false
set_option genSizeOf false
set_option genInjectivity false
set_option Elab.async false
set_option linter.all false
set_option maxRecDepth 100000
theorem We {p:Prop} (h:p:=by first | exact .inl rfl | exact .inr rfl | assumption):p:=h
theorem vd {p:Prop} (h:p:=by decide):p:=h
theorem xI {p:Prop} (h:p:=by intro _;rfl):p:=h
theorem qt {p:Prop} (h:p:=by rfl):p:=h
theorem Jx {p:Prop} (h:p:=by first | exact Or.inl rfl | exact Or.inr (Or.inl rfl) | exact Or.inr (Or.inr rfl)):p:=h
theorem Wb {p:Prop} (h:p:=by first | exact Or.inl rfl | exact Or.inr rfl):p:=h
theorem WM {p:Prop} (h:p:=by first | exact .inl rfl | exact .inr rfl):p:=h
theorem qfz {p:Prop} (h:p:=by exact fun _ _=>rfl):p:=h
theorem qfw {p:Prop} (h:p:=by exact fun _ _ _=>rfl):p:=h
namespace L2
open PySem PySem.Spec PyProof.Rows
noncomputable abbrev Key:=Sum Int Str
noncomputable def qeV:Key->Value->Bool
 | .inl k,v=>Value.isInt k v
 | .inr x,v=>Value.isStrOf x v
noncomputable def qhA (w:World):Key->Int
 | .inl k=>hashInt k
 | .inr x=>hashStr w x
theorem vZ:∀ {k:Key}{v:Value},qeV k v=true->(∃ i t,k=Sum.inl i/\v=Value.int i t)\/(∃ x t,k=Sum.inr x/\v=Value.str x t)
 | .inl i,v,h=>by
  obtain⟨t,e⟩:=Value.isInt_shape (k:=i) (v:=v) h
  exact .inl ⟨i,t,rfl,e⟩
 | .inr x,v,h=>by
  obtain⟨t,e⟩:=Value.isStrOf_shape (x:=x) (v:=v) h
  exact .inr ⟨x,t,rfl,e⟩
theorem qfA (a b:Int):decide ((Sum.inl a:Key)=Sum.inl b)=(a==b):=by
 by_cases e:a=b
 ·subst e;simp
 ·have h:¬ (Sum.inl a:Key)=Sum.inl b:=fun q=>e (Sum.inl.inj q)
  rw[decide_eq_false h]
  exact (beq_eq_false_iff_ne.mpr e).symm
theorem qfE (a b:Str):decide ((Sum.inr a:Key)=Sum.inr b)=decide (a=b):=by
 by_cases e:a=b
 ·subst e;simp
 ·have h:¬ (Sum.inr a:Key)=Sum.inr b:=fun q=>e (Sum.inr.inj q)
  rw[decide_eq_false h,decide_eq_false e]
theorem qgv (a:Int) (b:Str):decide ((Sum.inl a:Key)=Sum.inr b)=false:=decide_eq_false (fun q=>nomatch q)
theorem qgf (a:Str) (b:Int):decide ((Sum.inr a:Key)=Sum.inl b)=false:=decide_eq_false (fun q=>nomatch q)
noncomputable def qaa (prog:Program) (w:World):PySem.KeyKind prog w Key where
 is:=qeV
 hash:=qhA w
 inj:=fun v a b ha hb=>by
  rcases vZ ha with ⟨i,t,rfl,rfl⟩ | ⟨x,t,rfl,rfl⟩
  ·rcases vZ hb with ⟨j,u,rfl,e⟩ | ⟨y,u,rfl,e⟩
   ·injection e with e1 _;rw[e1]
   ·exact nomatch e
  ·rcases vZ hb with ⟨j,u,rfl,e⟩ | ⟨y,u,rfl,e⟩
   ·exact nomatch e
   ·injection e with e1 _;rw[e1]
 byValue:=fun k v h=>by
  rcases vZ h with ⟨i,t,rfl,rfl⟩ | ⟨x,t,rfl,rfl⟩ <;> rfl
 pyHash:=fun hv h=>by
  rcases vZ hv with ⟨i,t,rfl,rfl⟩ | ⟨x,t,rfl,rfl⟩
  ·exact wpAny_pyHash_int h
  ·exact wpAny_pyHash_str h
 eqBool:=fun hu hv h=>by
  rcases vZ hu with ⟨i,t,rfl,rfl⟩ | ⟨x,t,rfl,rfl⟩
  ·rcases vZ hv with ⟨j,u,rfl,rfl⟩ | ⟨y,u,rfl,rfl⟩
   ·rw[qfA] at h;exact wpAny_eqBool_int h
   ·rw[qgv] at h;exact SeqAt.EqAt.int_str i t y u _ _ _ _ h
  ·rcases vZ hv with ⟨j,u,rfl,rfl⟩ | ⟨y,u,rfl,rfl⟩
   ·rw[qgf] at h;exact SeqAt.EqAt.str_int x t j u _ _ _ _ h
   ·rw[qfE] at h;exact wpAny_eqBool_str h
 «strs» := fun k x t v h=>by
  rcases vZ h with ⟨i,u,rfl,e⟩ | ⟨y,u,rfl,e⟩
  ·exact nomatch e
  ·injection e with e1 _
   subst e1
   cases v <;> rfl
set_option genInjectivity true in
inductive V where
 | non | bl (b:Bool) | int (i:Int) | str (x:Str) | byt (b:Array UInt8) | flt (b:UInt64) | ref (a:Addr) | ty (n:String)
 deriving DecidableEq
noncomputable def RelV:V->Value->Prop
 | .non,u=>u=Value.none
 | .bl b,u=>u=Value.bool b
 | .int i,u=>∃ t,u=Value.int i t
 | .str x,u=>∃ t,u=Value.str x t
 | .byt b,u=>∃ t,u=Value.bytes b t
 | .flt b,u=>∃ t,u=Value.float b t
 | .ref a,u=>u=Value.ref a
 | .ty n,u=>u=Value.type n
noncomputable abbrev Vals:List V->List Value->Prop:=Paired RelV
theorem Vals.length {xs:List V}{us:List Value} (r:Vals xs us):xs.length=us.length:=Paired.length r
theorem Vals.get:∀ {xs:List V}{us:List Value}{i:Nat}{x:V},Vals xs us->xs[i]?=some x->∃ u,us[i]?=some u/\RelV x u
 | _,_,_,_,.nil,e=>by simp at e
 | _,_,0,_,.cons r _,e=>by simp at e;subst e;exact⟨_,rfl,r⟩
 | _,_,i+1,x,.cons _ t,e=>by
  obtain⟨u,h1,h2⟩:=Vals.get (i:=i) (x:=x) t (by simpa using e)
  exact⟨u,by simpa using h1,h2⟩
theorem Vals.set {x:V}{u:Value} (r:RelV x u):∀ {xs:List V}{us:List Value} (i:Nat),Vals xs us->Vals (xs.set i x) (us.set i u)
 | _,_,_,.nil=>.nil
 | _,_,0,.cons _ t=>.cons r t
 | _,_,i+1,.cons q t=>.cons q (Vals.set r i t)
theorem Vals.append:∀ {xs ys:List V}{us ws:List Value},Vals xs us->Vals ys ws->Vals (xs++ys) (us++ws)
 | _,_,_,_,.nil,s=>s
 | _,_,_,_,.cons r t,s=>.cons r (Vals.append t s)
theorem Vals.take:∀ {xs:List V}{us:List Value} (n:Nat),Vals xs us->Vals (xs.take n) (us.take n)
 | _,_,0,_=>.nil
 | _,_,_+1,.nil=>.nil
 | _,_,n+1,.cons r t=>.cons r (Vals.take n t)
theorem Vals.drop:∀ {xs:List V}{us:List Value} (n:Nat),Vals xs us->Vals (xs.drop n) (us.drop n)
 | _,_,0,r=>r
 | _,_,_+1,.nil=>.nil
 | _,_,n+1,.cons _ t=>Vals.drop n t
theorem Vals.none_of:∀ {xs:List V}{us:List Value}{i:Nat},Vals xs us->xs[i]?=none->us[i]?=none:=fun {xs us i} r e=>by
 have h1:=r.length
 have h2:xs.length <= i:=List.getElem?_eq_none_iff.mp e
 exact List.getElem?_eq_none_iff.mpr (by lia)
noncomputable def JO:Option V->Option Value->Prop
 | some v,some u=>RelV v u
 | none,none=>True
 | _,_=>False
noncomputable def KV {κ:Type}:List (κ × V)->List (κ × Value)->Prop:=Paired fun (p:κ × V) (q:κ × Value)=>p.1=q.1/\RelV p.2 q.2
noncomputable def kV:Key->V
 | .inl i=>.int i
 | .inr x=>.str x
inductive HO where
 /-- a list -/
 | lst (xs:List V)
 /-- a tuple (never changes) -/
 | tup (xs:List V)
 /-- a dict whose keys are ints and texts; one whose keys are tuples of ints and texts (the empty one is both) -/
 | dK (kvs:List (Key × V)) | dT (kvs:List (List Key × V))
 /-- a set of ints: its members, its size -/
 | set (S:Int->Bool) (n:Nat)
 /-- an instance of the class at C, its dict at dx, its attributes -/
 | ins (C dx:Addr) (fs:List (Str × V))
 /-- the dict of the instance at x -/
 | own (x:Addr)
 /-- the dict of an exception -/
 | xd (fs:List (Str × V))
 /-- a bound method, f of x -/
 | met (f x:Addr)
 /-- a range object lo, lo + 1, .. below hi -/
 | rng (lo hi:Int)
 /-- a thing that is known to the object (the script; a dict while a loop walks it): read, never written while it is so -/
 | frz (o:Obj) (u:HO)
 /-- a code object's table -/
 | tbl (ps:Array Value)
 /-- any other thing, by what is true of its one object (a def of one's own: SetO a S n := HO.ext fun h => ..) -/
 | ext (φ:Heap->Prop)
noncomputable abbrev Hp:=Addr->Option HO
noncomputable def upd (H:Hp) (a:Addr) (o:HO):Hp:=fun b=>if b=a then some o else H b
theorem qL {H:Hp}{a:Addr}{o:HO}:upd H a o a=some o:=by unfold upd;rw[if_pos rfl]
theorem qA {H:Hp}{a b:Addr}{o:HO} (h:b≠a):upd H a o b=H b:=by unfold upd;rw[if_neg h]
theorem vj {H:Hp}{a b:Addr}{o:HO} (h:H a=some o) (h':H b=none):a≠b:=by
 intro e;subst e;rw[h] at h';cases h'
section
variable (P:Program) (w:World)
noncomputable def zE (H:Hp) (h:Heap) (a:Addr):HO->Prop
 | .lst xs=>xs.length <= sizeLine/\∃ (its:List Value) (n:Nat),Vals xs its/\h.get? a=some {cls:=.type "list",data:=.seq its.toArray n}
 | .tup xs=>xs.length <= sizeLine/\∃ its:List Value,Vals xs its/\IsTup h a its.toArray
 | .dK kvs=>kvs.length <= sizeLine/\(a==sysModules)=false/\∃ vs,KV kvs vs/\h.DictOf (qaa P w) a vs
 | .dT kvs=>kvs.length <= sizeLine/\(a==sysModules)=false/\∃ xs:List (List Key × Addr × Value),
   Paired (fun (p:List Key × V) (q:List Key × Addr × Value)=>p.1=q.1/\H q.2.1=some (.tup (p.1.map kV))/\RelV p.2 q.2.2) kvs xs /\
   ∃ o es ep,h.get? a=some o/\o.ExactDict/\o.data = .dict es ep/\es.toList=xs.map (entryOfKey (tupleKind (qaa P w)))/\(xs.map (·.1)).Nodup
 | .set S n=>h.SetOf (intKind P w) a S n
 | .ins C dx fs=>H dx=some (.own a)/\fs.length <= 1000/\dx≠a/\h.get? a=some (PySem.W.instObj C dx) /\
   ∃ mA,h.Ns1 dx mA/\(∀ f,JO (fs.lookup f) (mA f))/\PySem.Within mA (fs.map (·.1))
 | .own _=>∃ o,h.get? a=some o
 | .xd fs=>∃ mA,h.Ns1 a mA/\∀ f,JO (fs.lookup f) (mA f)
 | .rng lo hi=>∃ t u v,h.get? a=some {cls:=.type "range",data:=.fields #[.int lo t,.int hi u,.int 1 v]}
 | .frz o u=>h.get? a=some o/\zE H h a u
 | .tbl ps=>h.get? a=some {cls:=.none,data:=.fields ps}
 | .met f x=>h.get? a=some (PySem.W.methodObj (.ref f) (.ref x))
 | .ext φ=>φ h/\(∃ o,h.get? a=some o)/\∀ h1 h2:Heap,φ h1->(∀ o,h1.get? a=some o->h2.get? a=some o)->φ h2
noncomputable def HOk (H:Hp) (h:Heap):Prop:=∀ a o,H a=some o->zE P w H h a o
end
section
variable {P:Program}{w:World}{H H':Hp}{h h':Heap}{a:Addr}{o:HO}
theorem zE.lt (x:zE P w H h a o):a<h.objs.size:=by
 cases o with
 | lst xs=>obtain⟨_,_,_,_,e⟩:=x;exact Heap.lt_size e
 | tup xs=>obtain⟨_,_,_,p⟩:=x;exact p.lt
 | dK kvs=>obtain⟨_,_,_,_,o,_,_,e,_⟩:=x;exact Heap.lt_size e
 | dT kvs=>obtain⟨_,_,_,_,o,_,_,e,_⟩:=x;exact Heap.lt_size e
 | set S n=>obtain⟨o,_,_,_,e,_⟩:=x;exact Heap.lt_size e
 | ins C dx fs=>obtain⟨_,_,_,e,_⟩:=x;exact Heap.lt_size e
 | own y=>obtain⟨_,e⟩:=x;exact Heap.lt_size e
 | xd fs=>obtain⟨_,⟨_,_,_,e,_⟩,_⟩:=x;exact Heap.lt_size e
 | rng lo hi=>obtain⟨_,_,_,e⟩:=x;exact Heap.lt_size e
 | frz ob u=>obtain⟨e,_⟩:=x;exact Heap.lt_size e
 | tbl ps=>exact Heap.lt_size (show h.get? a=some _ from x)
 | met f y=>exact Heap.lt_size (show h.get? a=some _ from x)
 | ext φ=>obtain⟨_,⟨_,e⟩,_⟩:=x;exact Heap.lt_size e
theorem Paired.qhg {α β:Type}{F G:α->β->Prop}:∀ {l₁:List α}{l₂:List β},Paired F l₁ l₂->(∀ a b,F a b->G a b)->Paired G l₁ l₂
 | _,_,.nil,_=>.nil
 | _,_,.cons r t,f=>.cons (f _ _ r) (Paired.qhg t f)
theorem zE.Zm (x:zE P w H h a o) (k:∀ b u,(b=a\/H b=some (.own a))->h.get? b=some u->h'.get? b=some u)
  (ho:∀ b,H b=some (.own a)->H' b=some (.own a)) (ht:∀ b xs,H b=some (.tup xs)->H' b=some (.tup xs)):zE P w H' h' a o:=by
 induction o with
 | lst xs=>obtain⟨z,its,n,r,e⟩:=x;exact⟨z,its,n,r,k _ _ (.inl rfl) e⟩
 | tup xs=>obtain⟨z,its,r,ob,e,c⟩:=x;exact⟨z,its,r,ob,k _ _ (.inl rfl) e,c⟩
 | dK kvs=>obtain⟨z,y,vs,r,ob,es,ep,e,c⟩:=x;exact⟨z,y,vs,r,ob,es,ep,k _ _ (.inl rfl) e,c⟩
 | dT kvs =>
  obtain⟨z,y,xs,r,ob,es,ep,e,c⟩:=x
  exact⟨z,y,xs,Paired.qhg r fun p q z=>⟨z.1,ht _ _ z.2.1,z.2.2⟩,ob,es,ep,k _ _ (.inl rfl) e,c⟩
 | set S n=>obtain⟨ob,es,ep,t,e,c⟩:=x;exact⟨ob,es,ep,t,k _ _ (.inl rfl) e,c⟩
 | ins C dx fs =>
  obtain⟨d,z,ne,e,mA,⟨od,es,ep,e2,c⟩,r⟩:=x
  exact⟨ho _ d,z,ne,k _ _ (.inl rfl) e,mA,⟨od,es,ep,k _ _ (.inr d) e2,c⟩,r⟩
 | own y=>obtain⟨ob,e⟩:=x;exact⟨ob,k _ _ (.inl rfl) e⟩
 | xd fs=>obtain⟨mA,⟨od,es,ep,e,c⟩,r⟩:=x;exact⟨mA,⟨od,es,ep,k _ _ (.inl rfl) e,c⟩,r⟩
 | rng lo hi=>obtain⟨t,u,v,e⟩:=x;exact⟨t,u,v,k _ _ (.inl rfl) e⟩
 | frz ob u ih=>obtain⟨e,q⟩:=x;exact⟨k _ _ (.inl rfl) e,ih q⟩
 | tbl ps =>
  have e:h.get? a=some {cls:=.none,data:=.fields ps}:=x
  show h'.get? a=some {cls:=.none,data:=.fields ps}
  exact k a _ (.inl rfl) e
 | met f y =>
  have e:h.get? a=some (PySem.W.methodObj (.ref f) (.ref y)):=x
  show h'.get? a=some (PySem.W.methodObj (.ref f) (.ref y))
  exact k a _ (.inl rfl) e
 | ext φ=>obtain⟨p,⟨o,e⟩,st⟩:=x;exact⟨st _ _ p fun o q=>k _ _ (.inl rfl) q,⟨o,k _ _ (.inl rfl) e⟩,st⟩
theorem HOk.lt (x:HOk P w H h) (e:H a=some o):a<h.objs.size:=(x a o e).lt
theorem HOk.fresh (x:HOk P w H h) (e:h.objs.size <= a):H a=none:=by
 cases q:H a with
 | none=>rfl
 | some u=>exact absurd (Nat.lt_of_lt_of_le (x.lt q) e) (Nat.lt_irrefl _)
theorem HOk.kept (x:HOk P w H h) (k:∀ b u,h.get? b=some u->h'.get? b=some u):HOk P w H h':=fun a o e =>
 (x a o e).Zm (fun b u _ q=>k b u q) (fun _ q=>q) fun _ _ q=>q
theorem HOk.laid (x:HOk P w H h) (k:∀ b u,h.get? b=some u->h'.get? b=some u) (hp:h.objs.size <= a) (new:zE P w (upd H a o) h' a o):HOk P w (upd H a o) h':=fun b u e=>by
 have hn:=x.fresh hp
 by_cases hb:b=a
 ·subst hb;rw[qL] at e;cases e;exact new
 ·rw[qA hb] at e
  exact (x b u e).Zm (fun c v _ q=>k c v q) (fun c q=>by rw[qA (vj q hn)];exact q) fun c xs q=>by rw[qA (vj q hn)];exact q
end
noncomputable def Rd (H:Hp) (a:Addr) (u:HO):Prop:=H a=some u\/∃ o,H a=some (.frz o u)
theorem Rd.of {H:Hp}{a:Addr}{u:HO} (h:H a=some u):Rd H a u:=.inl h
theorem Rd.ok {P:Program}{w:World}{H:Hp}{h:Heap}{a:Addr}{u:HO} (r:Rd H a u) (x:HOk P w H h):zE P w H h a u:=by
 rcases r with r | ⟨o,r⟩
 ·exact x a u r
 ·obtain⟨_,q⟩:=x a _ r
  exact q
noncomputable def Mut:Option HO->Prop
 | some (.lst _)=>True
 | some (.dK _)=>True
 | some (.dT _)=>True
 | some (.set _ _)=>True
 | some (.ins _ _ _)=>True
 | some (.ext _)=>True
 | _=>False
section
variable {P:Program}{w:World}{H:Hp}{h h':Heap}{x e:Addr}{o':HO}
theorem HOk.write (ok:HOk P w H h) (mu:Mut (H x)) (he:e=x\/H e=some (.own x)) (k:∀ b u,b≠e->h.get? b=some u->h'.get? b=some u) (heo:∃ u,h'.get? e=some u)
  (new:zE P w (upd H x o') h' x o'):HOk P w (upd H x o') h':=fun b u q=>by
 have nown:∀ c y,H c=some (.own y)->c≠x:=fun c y r z=>by subst z;rw[r] at mu;exact mu
 have ntup:∀ c xs,H c=some (.tup xs)->c≠x:=fun c xs r z=>by subst z;rw[r] at mu;exact mu
 by_cases hb:b=x
 ·subst hb;rw[qL] at q;cases q;exact new
 ·rw[qA hb] at q
  by_cases hbe:b=e
  ·have q':H b=some (.own x):=by
    rcases he with z | z
    ·exact absurd (hbe.trans z) hb
    ·rw[hbe];exact z
   rw[q] at q';cases q'
   obtain⟨v,hv⟩:=heo
   exact⟨v,by rw[hbe];exact hv⟩
  ·refine (ok b u q).Zm (fun c v hc r=>k c v ?_ r) (fun c r=>by rw[qA (nown c b r)];exact r) fun c xs r=>by rw[qA (ntup c xs r)];exact r
   rcases hc with rfl | hc
   ·exact hbe
   ·rintro rfl
    rcases he with z | z
    ·exact nown c b hc z
    ·rw[hc] at z;cases z;exact hb rfl
end
structure Un (fs ex:List Addr) (H H':Hp) (h h':Heap):Prop where
 keep:∀ b o,h.get? b=some o->H b=none->b∉fs->b∉ex->h'.get? b=some o
 slot:∀ b o,h.get? b=some o->H b=none->b∈fs->b∉ex->∃ sl,h'.get? b=some {o with slots:=sl}
 free:∀ b o,h.get? b=some o->H b=none->b∉ex->H' b=none
 there:∀ b o,h.get? b=some o->b∉ex->∃ o',h'.get? b=some o'
 tups:∀ b xs,H b=some (.tup xs)->H' b=some (.tup xs)
 frzs:∀ b o u,H b=some (.frz o u)->H' b=some (.frz o u)
 tbls:∀ b ps,H b=some (.tbl ps)->∃ more,H' b=some (.tbl (ps++more))
section
variable {fs fs' ex ex':List Addr}{H H1 H2:Hp}{h h1 h2 h':Heap}{a x e:Addr}{o:HO}
theorem Un.any (u:Un fs ex H H1 h h1) {b:Addr}{ob:Obj} (q:h.get? b=some ob) (n:H b=none) (hx:b∉ex):∃ sl,h1.get? b=some {ob with slots:=sl}:=by
 by_cases hb:b∈fs
 ·exact u.slot b ob q n hb hx
 ·exact⟨ob.slots,u.keep b ob q n hb hx⟩
theorem Un.kept (k:∀ b u,h.get? b=some u->h'.get? b=some u):Un fs ex H H h h' :=
 ⟨fun b ob q _ _ _=>k b ob q,fun b ob q _ _ _=>⟨ob.slots,k b ob q⟩,fun _ _ _ n _=>n,fun b ob q _=>⟨ob,k b ob q⟩,fun _ _ q=>q,fun _ _ _ q=>q,fun _ ps q=>⟨#[],by rw[q];simp⟩⟩
theorem Un.refl:Un fs ex H H h h:=Un.kept fun _ _ q=>q
theorem Un.laid (k:∀ b u,h.get? b=some u->h'.get? b=some u) (hp:h.objs.size <= a) (hn:H a=none):Un fs ex H (upd H a o) h h' where
 keep:=fun b u q _ _ _=>k b u q
 slot:=fun b u q _ _ _=>⟨u.slots,k b u q⟩
 free:=fun b u q n _=>by rw[qA (Nat.ne_of_lt (Nat.lt_of_lt_of_le (Heap.lt_size q) hp))];exact n
 there:=fun b u q _=>⟨u,k b u q⟩
 tups:=fun b xs q=>by rw[qA (vj q hn)];exact q
 frzs:=fun b u xs q=>by rw[qA (vj q hn)];exact q
 tbls:=fun b ps q=>⟨#[],by rw[qA (vj q hn),q];simp⟩
theorem Un.write (mu:Mut (H x)) (he:e=x\/H e=some (.own x)) (k:∀ b u,b≠e->h.get? b=some u->h'.get? b=some u) (heo:∃ u,h'.get? e=some u):Un fs ex H (upd H x o) h h':=by
 have hx:∀ b,H b=none->b≠x:=fun b n z=>by subst z;rw[n] at mu;exact mu
 have hb:∀ b,H b=none->b≠e:=fun b n z=>by
  subst z
  rcases he with r | r
  ·exact hx b n r
  ·rw[n] at r;cases r
 have hm:∀ b u,H b=some u->¬ Mut (some u)->b≠x:=fun b u q nm z=>by subst z;rw[q] at mu;exact nm mu
 refine⟨fun b u q n _ _=>k b u (hb b n) q,fun b u q n _ _=>⟨u.slots,k b u (hb b n) q⟩,fun b u q n _=>by rw[qA (hx b n)];exact n,fun b u q _=>?_,
  fun b xs q=>by rw[qA (hm b _ q fun z=>z)];exact q,fun b u xs q=>by rw[qA (hm b _ q fun z=>z)];exact q,fun b ps q=>⟨#[],by rw[qA (hm b _ q fun z=>z),q];simp⟩⟩
 by_cases hbe:b=e
 ·subst hbe;exact heo
 ·exact⟨u,k b u hbe q⟩
end
noncomputable def trk (h:Heap) (H:Hp):List Addr:=(List.range h.objs.size).filter fun a=>(H a).isSome
noncomputable def W4 (h:Heap) (H:Hp):Heap:=PySem.W.hideAll h (trk h H)
theorem qaV (h:Heap) (H:Hp):(W4 h H).objs.size=h.objs.size:=PySem.W.hideAll_size _ _
theorem qbP {h:Heap}{H:Hp}{b:Addr}{o:Obj} (e:h.get? b=some o) (n:H b=none):(W4 h H).get? b=some o :=
 PySem.W.hideAll_get _ e fun hm=>by
  have q:(H b).isSome=true:=(List.mem_filter.mp hm).2
  rw[n] at q;simp at q
theorem qeH {h:Heap}{H:Hp}{b:Addr}{o:Obj} (e:(W4 h H).get? b=some o):h.get? b=some o/\H b=none:=by
 have e':h.get? b=some o:=PySem.W.of_hideAll (trk h H) e
 refine⟨e',?_⟩
 cases q:H b with
 | none=>rfl
 | some x =>
  have hm:b∈trk h H:=List.mem_filter.mpr ⟨List.mem_range.mpr (Heap.lt_size e'),by simp [q]⟩
  have z:(W4 h H).get? b=none:=PySem.W.hideAll_none (trk h H) hm
  rw[z] at e;cases e
structure Mod (K:PySem.W.Frag) (mg:Str->Option Value) (base:Heap):Prop where
 kin:K.In base
 glob:base.Ns mainGlobals mg
 blt:∃ mb,base.Ns builtinsNs mb/\∀ x:Str,x≠"__name__"->mb x=bootBuiltins x
 nolimit:base.NoLimit
structure Cx where
 prog:Program
 w:World
 K:PySem.W.Frag
 mg:Str->Option Value
 base:Heap
 A:Around
 N:List Str
 s_0:Shared
 H_0:Hp
 env:Env
 outer:List Env
 stack:List Env
 ex:List Addr
 fn:Str->Bool
 calm:Bool
 pn:List (Addr × Obj)
 xe:Value->Shared->Prop
noncomputable def frs (l:List Env):List Addr:=l.filterMap (·.frame)
noncomputable abbrev Cx.fs (X:Cx):List Addr:=frs X.outer
noncomputable def Vis (sc:Scope) (x:Str):Prop:=sc.names.lookup x=some .local\/sc.names.lookup x=some .cell\/sc.names.lookup x=some .free
noncomputable def Loc (sc:Scope) (x:Str):Prop:=sc.names.lookup x=some .local\/sc.names.lookup x=some .cell
noncomputable def Look (env:Env) (h:Heap) (m:Str->Option Value) (x:Str) (u:Value):Prop :=
 (env.kindOf x=some .local/\m x=some u)\/((env.kindOf x=some .cell\/env.kindOf x=some .free)/\∃ c,env.cells.lookup x=some c/\h.IsCell c (some u))
structure Cx.Ok (X:Cx):Prop where
 mod:Mod X.K X.mg X.base
 kind:X.env.scope.kind = .function
 glob:X.env.globals=mainGlobals
 blt:X.env.builtins=builtinsNs
 above:X.s_0.heap.objs.size <= X.env.locals
 inj:∀ x y c,X.env.cells.lookup x=some c->X.env.cells.lookup y=some c->x=y
 has:∀ x,(X.env.kindOf x=some .cell\/X.env.kindOf x=some .free)->∃ c,X.env.cells.lookup x=some c
 cab:∀ x c,X.fn x=true->X.env.cells.lookup x=some c->X.s_0.heap.objs.size <= c
 hd:X.calm=true->X.A.handled=none
 frames:X.A.frames=some X.stack
 stk:X.stack=X.outer\/(X.stack=X.env::X.outer/\X.env.frame=some X.env.locals)
 exf:∀ b∈X.ex,b≠X.env.locals/\∀ x c,X.env.cells.lookup x=some c->c≠b
 bs:∀ b o,X.base.get? b=some o->X.s_0.heap.get? b=some o/\X.H_0 b=none
 bsz:X.base.objs.size <= X.s_0.heap.objs.size
 noex:∀ b o,X.base.get? b=some o->b∉X.ex
 exfs:∀ b∈X.ex,b∉X.fs
 ji:X.s_0.heap.FunFrames X.base X.outer
 frf:∀ b∈X.fs,X.H_0 b=none
structure Inv (X:Cx) (pins:List (Addr × Obj)) (σ:List (Option V)) (H:Hp) (s:Shared):Prop where
 ok:X.Ok
 os:s.os=X.s_0.os
 bare:AllBare s.gens
 base:Un X.fs X.ex X.H_0 H X.s_0.heap s.heap
 loc:∃ m,s.heap.Ns X.env.locals m/\∀ (i:Nat) (x:Str) (v:V),X.N[i]?=some x->σ[i]?=some (some v)->Vis X.env.scope x->∃ u,RelV v u/\Look X.env s.heap m x u
 cell:∀ x c,X.env.cells.lookup x=some c->∃ v,s.heap.IsCell c v
 free:H X.env.locals=none
 freeC:∀ x c,X.env.cells.lookup x=some c->H c=none
 pin:∀ p∈X.pn++pins,s.heap.get? p.1=some p.2/\H p.1=none/\p.1≠X.env.locals/\p.1∉X.fs/\∀ v,p.2.data ≠ .cell v
 hok:HOk X.prog X.w H s.heap
 len:σ.length=X.N.length
section
variable {X:Cx}{pins:List (Addr × Obj)}{σ:List (Option V)}{H H':Hp}{s:Shared}{h':Heap}
theorem Cx.Ok.qhF (ok:X.Ok) {b:Addr}{o:Obj} (e:X.base.get? b=some o):b∉X.fs:=fun hb=>by
 have:=(ok.ji.mem hb).1
 rw[e] at this;cases this
theorem Inv.bs (I:Inv X pins σ H s):∀ b o,X.base.get? b=some o->s.heap.get? b=some o/\H b=none:=fun b o e =>
 ⟨I.base.keep b o (I.ok.bs b o e).1 (I.ok.bs b o e).2 (I.ok.qhF e) (I.ok.noex b o e),I.base.free b o (I.ok.bs b o e).1 (I.ok.bs b o e).2 (I.ok.noex b o e)⟩
theorem Inv.bk (I:Inv X pins σ H s):∀ b o,X.base.get? b=some o->s.heap.get? b=some o:=fun b o e=>(I.bs b o e).1
theorem Inv.mod (I:Inv X pins σ H s):Mod X.K X.mg X.base:=I.ok.mod
theorem Inv.kIn (I:Inv X pins σ H s):X.K.In s.heap:=I.ok.mod.kin.keeps I.bk
theorem Inv.nolimit (I:Inv X pins σ H s):s.heap.NoLimit:=I.ok.mod.nolimit.keeps I.bk
theorem Inv.lt (I:Inv X pins σ H s):X.env.locals<s.heap.objs.size:=let ⟨_,hn,_⟩:=I.loc;hn.lt
theorem Inv.sz (I:Inv X pins σ H s):X.s_0.heap.objs.size <= s.heap.objs.size:=Nat.le_trans I.ok.above (Nat.le_of_lt I.lt)
theorem Inv.qhd (I:Inv X pins σ H s) {a:Addr} (h:s.heap.objs.size <= a):a∉X.fs:=fun hb=>by
 obtain⟨_,o,ho,_⟩:=I.ok.ji.mem hb
 exact absurd (Nat.lt_of_lt_of_le (Heap.lt_size ho) (Nat.le_trans I.sz h)) (Nat.lt_irrefl _)
theorem Inv.cne (I:Inv X pins σ H s):∀ x c,X.env.cells.lookup x=some c->c≠X.env.locals:=fun x c e z=>by
 obtain⟨v,o,ho,hd⟩:=I.cell x c e
 obtain⟨m,⟨o',es,ep,ho',hd',_⟩,_⟩:=I.loc
 rw[z,ho'] at ho;cases ho;rw[hd'] at hd;cases hd
theorem Inv.ji (I:Inv X pins σ H s):s.heap.FunFrames X.base X.outer:=by
 have all:∀ (l:List Env),(∀ b∈frs l,b∈X.fs)->X.s_0.heap.FunFrames X.base l->s.heap.FunFrames X.base l:=by
  intro l
  induction l with
  | nil=>intro _ _;trivial
  | cons env r ih =>
   intro hs hl
   obtain⟨hk,⟨L,o,hf,hn,ho,hd⟩,hr⟩:=hl
   have hL:L∈X.fs:=hs L (by unfold frs;rw[List.filterMap_cons,hf];exact List.mem_cons_self)
   obtain⟨sl,e⟩:=I.base.slot L o ho (I.ok.frf L hL) hL fun z=>I.ok.exfs L z hL
   exact⟨hk,⟨L,_,hf,hn,e,hd⟩,ih (fun b hb=>hs b (by unfold frs;rw[List.filterMap_cons,hf];exact List.mem_cons_of_mem _ hb)) hr⟩
 exact all X.outer (fun _ hb=>hb) I.ok.ji
theorem Inv.stack (I:Inv X pins σ H s):s.heap.FunFrames X.base X.stack:=by
 rcases I.ok.stk with e | ⟨e,hf⟩
 ·rw[e];exact I.ji
 ·rw[e]
  obtain⟨m,hn,_⟩:=I.loc
  refine .cons (by rw[I.ok.kind];decide) hf hn ?_ I.ji
  exact Heap.get?_none_of_le (Nat.le_trans I.ok.bsz I.ok.above)
theorem Inv.y8 (I:Inv X pins σ H s):∀ b∈frs X.stack,b∈X.env.locals::X.fs:=fun b hb=>by
 rcases I.ok.stk with e | ⟨e,hf⟩
 ·rw[e] at hb;exact List.mem_cons_of_mem _ hb
 ·rw[e] at hb
  unfold frs at hb
  rw[List.filterMap_cons,hf] at hb
  exact hb
theorem Inv.YX (I:Inv X pins σ H s):∀ b∈frs X.stack,H b=none:=fun b hb=>by
 rcases List.mem_cons.mp (I.y8 b hb) with e | hb
 ·rw[e];exact I.free
 ·obtain⟨_,o,ho,_⟩:=I.ok.ji.mem hb
  exact I.base.free b o ho (I.ok.frf b hb) fun z=>I.ok.exfs b z hb
theorem Inv.step {g':Array GenState}{t':Nat}{d':Drawn}{ch:List Addr} (I:Inv X pins σ H s)
  (hch:∀ b∈ch,(b∈X.ex\/X.s_0.heap.objs.size <= b)/\b≠X.env.locals/\(∀ x c,X.env.cells.lookup x=some c->c≠b)/\∀ p∈X.pn++pins,p.1≠b)
  (keep:∀ b o,b≠X.env.locals->b∉X.fs->b∉ch->s.heap.get? b=some o->H b=none->h'.get? b=some o)
  (slot:∀ b o,b≠X.env.locals->b∈X.fs->b∉ch->s.heap.get? b=some o->H b=none->∃ sl,h'.get? b=some {o with slots:=sl}) (free:∀ b o,b∉ch->s.heap.get? b=some o->H b=none->H' b=none)
  (there:∀ b o,b∉ch->s.heap.get? b=some o->∃ o',h'.get? b=some o')
  (tups:∀ b xs,H b=some (.tup xs)->H' b=some (.tup xs)) (frzs:∀ b o u,H b=some (.frz o u)->H' b=some (.frz o u)) (tbls:∀ b ps,H b=some (.tbl ps)->∃ more,H' b=some (.tbl (ps++more)))
  (ns:∀ m,s.heap.Ns X.env.locals m->h'.Ns X.env.locals m) (hok:HOk X.prog X.w H' h') (hg:AllBare g') :
  Inv X pins σ H' {s with heap:=h',gens:=g',drawn:=d',toks:=t'}:=by
 have neL:∀ b o,X.s_0.heap.get? b=some o->b≠X.env.locals:=fun b o e=>Nat.ne_of_lt (Nat.lt_of_lt_of_le (Heap.lt_size e) I.ok.above)
 have neC:∀ b o,X.s_0.heap.get? b=some o->b∉X.ex->b∉ch:=fun b o e hx hb=>by
  rcases (hch b hb).1 with z | z
  ·exact hx z
  ·exact absurd (Nat.lt_of_lt_of_le (Heap.lt_size e) z) (Nat.lt_irrefl _)
 have cellK:∀ x c,X.env.cells.lookup x=some c->∀ v,s.heap.IsCell c v->h'.IsCell c v:=fun x c e v ⟨o,ho,hd⟩=>by
  have nch:c∉ch:=fun z=>(hch c z).2.2.1 x c e rfl
  by_cases hc:c∈X.fs
  ·obtain⟨sl,q⟩:=slot c o (I.cne x c e) hc nch ho (I.freeC x c e)
   exact⟨_,q,hd⟩
  ·exact⟨o,keep c o (I.cne x c e) hc nch ho (I.freeC x c e),hd⟩
 refine⟨I.ok,I.os,hg,⟨fun b o e n hb hx=>?_,fun b o e n hb hx=>?_,fun b o e n hx=>?_,fun b o e hx=>?_,fun b xs e=>tups b xs (I.base.tups b xs e),fun b o xs e=>frzs b o xs (I.base.frzs b o xs e),fun b ps e=>?_⟩,?_,fun x c e=>?_,?_,fun x c e=>?_,fun p hp=>?_,hok,I.len⟩
 ·exact keep b o (neL b o e) hb (neC b o e hx) (I.base.keep b o e n hb hx) (I.base.free b o e n hx)
 ·obtain⟨sl,e1⟩:=I.base.slot b o e n hb hx
  obtain⟨sl',e2⟩:=slot b _ (neL b o e) hb (neC b o e hx) e1 (I.base.free b o e n hx)
  exact⟨sl',e2⟩
 ·obtain⟨o',e1⟩:=I.base.there b o e hx
  exact free b o' (neC b o e hx) e1 (I.base.free b o e n hx)
 ·obtain⟨o',e1⟩:=I.base.there b o e hx
  exact there b o' (neC b o e hx) e1
 ·obtain⟨m1,e1⟩:=I.base.tbls b ps e
  obtain⟨m2,e2⟩:=tbls b _ e1
  exact⟨m1++m2,by rw[e2,Array.append_assoc]⟩
 ·obtain⟨m,hn,hl⟩:=I.loc
  refine⟨m,ns m hn,fun i x v e1 e2 e3=>?_⟩
  obtain⟨u,r,l⟩:=hl i x v e1 e2 e3
  refine⟨u,r,?_⟩
  rcases l with l | ⟨k,c,e,z⟩
  ·exact .inl l
  ·exact .inr ⟨k,c,e,cellK x c e _ z⟩
 ·obtain⟨v,z⟩:=I.cell x c e
  exact⟨v,cellK x c e v z⟩
 ·obtain⟨m,⟨o,_,_,ho,_⟩,_⟩:=I.loc
  exact free _ o (fun z=>(hch _ z).2.1 rfl) ho I.free
 ·obtain⟨v,o,ho,hd⟩:=I.cell x c e
  exact free c o (fun z=>(hch c z).2.2.1 x c e rfl) ho (I.freeC x c e)
 ·obtain⟨e,n,ne,nf,d⟩:=I.pin p hp
  have nch:p.1∉ch:=fun z=>(hch p.1 z).2.2.2 p hp rfl
  exact⟨keep p.1 p.2 ne nf nch e n,free p.1 p.2 nch e n,ne,nf,d⟩
theorem Inv.un {t':Nat} (I:Inv X pins σ H s) (u:Un X.fs [] H H' s.heap h') (hok:HOk X.prog X.w H' h'):Inv X pins σ H' {s with heap:=h',toks:=t'}:=by
 obtain⟨m,⟨o,es,ep,ho,r⟩,_⟩:=id I.loc
 obtain⟨sl,hL⟩:=u.any ho I.free (by simp)
 exact I.step (g':=s.gens) (d':=s.drawn) (ch:=[]) (fun _ z=>nomatch z) (fun b o _ hb _ e n=>u.keep b o e n hb (by simp)) (fun b o _ hb _ e n=>u.slot b o e n hb (by simp)) (fun b o _ e n=>u.free b o e n (by simp)) (fun b o _ e=>u.there b o e (by simp)) u.tups u.frzs u.tbls (fun m' hm=>by
  obtain⟨o',es',ep',ho',r'⟩:=hm
  rw[ho] at ho';cases ho'
  exact⟨_,es',ep',hL,r'⟩) hok I.bare
theorem Inv.call {g':Array GenState}{t':Nat}{d':Drawn}{ch:List Addr} (I:Inv X pins σ H s) (u:Un (frs X.stack) ch H H' s.heap h') (hok:HOk X.prog X.w H' h') (hg:AllBare g')
  (hch:∀ b∈ch,(b∈X.ex\/X.s_0.heap.objs.size <= b)/\b≠X.env.locals/\(∀ x c,X.env.cells.lookup x=some c->c≠b)/\∀ p∈X.pn++pins,p.1≠b) :
  Inv X pins σ H' {s with heap:=h',gens:=g',drawn:=d',toks:=t'}:=by
 obtain⟨m,⟨o,es,ep,ho,r⟩,_⟩:=id I.loc
 obtain⟨sl,hL⟩:=u.any ho I.free fun z=>(hch _ z).2.1 rfl
 exact I.step (ch:=ch) hch (fun b o hL hb hc e n=>u.keep b o e n (fun z=>(List.mem_cons.mp (I.y8 b z)).elim hL hb) hc) (fun b o _ _ hc e n=>u.any e n hc) (fun b o hc e n=>u.free b o e n hc) (fun b o hc e=>u.there b o e hc) u.tups u.frzs u.tbls (fun m' hm=>by
  obtain⟨o',es',ep',ho',r'⟩:=hm
  rw[ho] at ho';cases ho'
  exact⟨_,es',ep',hL,r'⟩) hok hg
theorem Inv.turned {t':Nat}{it:Addr} (I:Inv X pins σ H s) (k:∀ b o,b≠it->s.heap.get? b=some o->h'.get? b=some o) (hn:H it=none) (hL:it≠X.env.locals)
  (h1:it∈X.ex\/X.s_0.heap.objs.size <= it) (h2:∀ x c,X.env.cells.lookup x=some c->c≠it) (h3:∀ p∈X.pn++pins,p.1≠it):Inv X pins σ H {s with heap:=h',toks:=t'}:=by
 have nit:∀ b u,H b=some u->b≠it:=fun b u e z=>by rw[z,hn] at e;cases e
 refine I.step (g':=s.gens) (d':=s.drawn) (ch:=[it]) (fun b hb=>?_) (fun b o _ _ hc e _=>k b o (fun z=>hc (by simp [z])) e) (fun b o _ _ hc e _=>⟨o.slots,k b o (fun z=>hc (by simp [z])) e⟩) (fun _ _ _ _ n=>n)
  (fun b o hc e=>⟨o,k b o (fun z=>hc (by simp [z])) e⟩) (fun _ _ e=>e) (fun _ _ _ e=>e) (fun b ps e=>⟨#[],by rw[e];simp⟩) (fun m hm=>?_) (fun b u e=>?_) I.bare
 ·have e:b=it:=by simpa using hb
  subst e
  exact⟨h1,hL,h2,h3⟩
 ·obtain⟨o,es,ep,ho,r⟩:=hm
  exact⟨o,es,ep,k _ o (Ne.symm hL) ho,r⟩
 ·refine (I.hok b u e).Zm (fun c v hc q=>k c v ?_ q) (fun _ q=>q) fun _ _ q=>q
  rcases hc with z | z
  ·rw[z];exact nit b u e
  ·exact nit c _ z
theorem Inv.tok (I:Inv X pins σ H s) (t:Nat):Inv X pins σ H {s with toks:=t}:=I.un (h':=s.heap) (t':=t) Un.refl I.hok
theorem Inv.kept {t':Nat} (I:Inv X pins σ H s) (k:∀ b u,s.heap.get? b=some u->h'.get? b=some u):Inv X pins σ H {s with heap:=h',toks:=t'}:=I.un (Un.kept k) (I.hok.kept k)
theorem Inv.laid {a:Addr}{o:HO}{t':Nat} (I:Inv X pins σ H s) (k:∀ b u,s.heap.get? b=some u->h'.get? b=some u) (hp:s.heap.objs.size <= a) (new:zE X.prog X.w (upd H a o) h' a o) :
  Inv X pins σ (upd H a o) {s with heap:=h',toks:=t'}:=I.un (Un.laid k hp (I.hok.fresh hp)) (I.hok.laid k hp new)
theorem Inv.write {x e:Addr}{o:HO}{t':Nat} (I:Inv X pins σ H s) (mu:Mut (H x)) (he:e=x\/H e=some (.own x)) (k:∀ b u,b≠e->s.heap.get? b=some u->h'.get? b=some u) (heo:∃ u,h'.get? e=some u)
  (new:zE X.prog X.w (upd H x o) h' x o):Inv X pins σ (upd H x o) {s with heap:=h',toks:=t'}:=I.un (Un.write mu he k heo) (I.hok.write mu he k heo new)
theorem Inv.weak {σ':List (Option V)} (I:Inv X pins σ H s) (hl:σ'.length=σ.length) (w:∀ (i:Nat) v,σ'[i]?=some (some v)->σ[i]?=some (some v)):Inv X pins σ' H s :=
 ⟨I.ok,I.os,I.bare,I.base,let ⟨m,hn,hl'⟩:=I.loc;⟨m,hn,fun i x v e1 e2 e3=>hl' i x v e1 (w i v e2) e3⟩,I.cell,I.free,I.freeC,I.pin,I.hok,hl.trans I.len⟩
theorem Inv.qat {pins':List (Addr × Obj)} (I:Inv X pins σ H s) (h:∀ p∈pins',s.heap.get? p.1=some p.2/\H p.1=none/\p.1≠X.env.locals/\p.1∉X.fs/\∀ v,p.2.data ≠ .cell v):Inv X pins' σ H s :=
 ⟨I.ok,I.os,I.bare,I.base,I.loc,I.cell,I.free,I.freeC,fun p hp=>(List.mem_append.mp hp).elim (fun z=>I.pin p (List.mem_append_left _ z)) (h p),I.hok,I.len⟩
theorem VE {N:List Str} (hN:N.Nodup) {i j:Nat}{x:Str} (a:N[i]?=some x) (b:N[j]?=some x):i=j:=by
 obtain⟨h1,e1⟩:=List.getElem?_eq_some_iff.mp a
 obtain⟨h2,e2⟩:=List.getElem?_eq_some_iff.mp b
 exact (List.getElem_inj hN).mp (e1.trans e2.symm)
theorem qbt {M:Model}{A:Around}{E:Value->Shared->Prop}{i:Nat}{x:Str}{v:V}{u:Value}{Q:Unit->Shared->Prop} (I:Inv X pins σ H s) (hN:X.N.Nodup) (hi:X.N[i]?=some x) (hx:Loc X.env.scope x) (r:RelV v u)
  (h:∀ s',Inv X pins (σ.set i (some v)) H s'->(∃ a,Heap.SameBut a s.heap s'.heap/\(a=X.env.locals\/X.env.cells.lookup x=some a))->Q () s') (hf:autoParam (X.fn x=true\/X.env.scope.names.lookup x=some .local) We._auto_1):wpAny M A (storeName X.env x u) Q E s:=by
 obtain⟨m,hn,hl⟩:=id I.loc
 have hcls:(X.env.scope.kind == .class||(X.env.scope.kind == .module&&X.env.locals != X.env.globals))=false:=by rw[I.ok.kind];rfl
 have hiσ:i<σ.length:=by rw[I.len];exact (List.getElem?_eq_some_iff.mp hi).1
 have cne:=I.cne
 have tracked:∀ {a:Addr}{h':Heap},(∃ o,s.heap.get? a=some o/\H a=none)->Heap.SameBut a s.heap h'->HOk X.prog X.w H h':=fun {a h'} ha hs b ob e=>by
  obtain⟨_,_,hfree⟩:=ha
  refine (I.hok b ob e).Zm (fun c w' hc q=>(hs.2 c ?_).trans q) (fun _ q=>q) fun _ _ q=>q
  rintro rfl
  rcases hc with rfl | hc
  ·rw[hfree] at e;cases e
  ·rw[hfree] at hc;cases hc
 rcases hx with hk | hk
 ·refine wpAny_storeName_local hk hn (fun h' hn' hs=>?_) hcls
  obtain⟨oL,_,_,hoL,_⟩:=id hn
  refine h _ ⟨I.ok,I.os,I.bare,⟨fun b o e n hb hx=>?_,fun b o e n hb hx=>?_,I.base.free,fun b o e hx=>?_,I.base.tups,I.base.frzs,I.base.tbls⟩,⟨_,hn',fun j y v' e1 e2 e3=>?_⟩,fun y c e=>?_,I.free,I.freeC,fun p hp=>?_,tracked ⟨oL,hoL,I.free⟩ hs,by simpa using I.len⟩ ⟨_,hs,.inl rfl⟩
  ·exact (hs.2 b (Nat.ne_of_lt (Nat.lt_of_lt_of_le (Heap.lt_size e) I.ok.above))).trans (I.base.keep b o e n hb hx)
  ·obtain⟨sl,e1⟩:=I.base.slot b o e n hb hx
   exact⟨sl,(hs.2 b (Nat.ne_of_lt (Nat.lt_of_lt_of_le (Heap.lt_size e) I.ok.above))).trans e1⟩
  ·obtain⟨o',e1⟩:=I.base.there b o e hx
   exact⟨o',(hs.2 b (Nat.ne_of_lt (Nat.lt_of_lt_of_le (Heap.lt_size e) I.ok.above))).trans e1⟩
  ·by_cases hj:j=i
   ·subst hj
    rw[hi] at e1;cases e1
    rw[List.getElem?_set_self hiσ] at e2
    cases e2
    exact⟨u,r,.inl ⟨hk,by simp⟩⟩
   ·rw[List.getElem?_set_ne (Ne.symm hj)] at e2
    obtain⟨u',r',q⟩:=hl j y v' e1 e2 e3
    refine⟨u',r',?_⟩
    rcases q with ⟨k,e⟩ | ⟨k,c,e,z⟩
    ·refine .inl ⟨k,?_⟩
     have:y≠x:=fun e=>hj (VE hN e1 (e▸hi))
     simp [this,e]
    ·exact .inr ⟨k,c,e,z.sameBut hs (cne y c e)⟩
  ·obtain⟨w',z⟩:=I.cell y c e
   exact⟨w',z.sameBut hs (cne y c e)⟩
  ·obtain⟨e,n,ne,nf,d⟩:=I.pin p hp
   exact⟨(hs.2 p.1 ne).trans e,n,ne,nf,d⟩
 ·have hfn:X.fn x=true:=by
   rcases hf with z | z
   ·exact z
   ·rw[z] at hk;cases hk
  obtain⟨c,hc⟩:=I.ok.has x (.inl hk)
  obtain⟨w',z⟩:=I.cell x c hc
  refine wpAny_storeName_cell I.ok.kind hk hc z (fun h' hc' hs=>?_)
  obtain⟨oc,hoc,hocd⟩:=id z
  refine h {s with heap:=h'} ⟨I.ok,I.os,I.bare,⟨fun b o e n hb hx=>?_,fun b o e n hb hx=>?_,I.base.free,fun b o e hx=>?_,I.base.tups,I.base.frzs,I.base.tbls⟩,⟨m,hn.sameBut hs (Ne.symm (cne x c hc)),fun j y v' e1 e2 e3=>?_⟩,fun y c' e=>?_,I.free,I.freeC,fun p hp=>?_,tracked ⟨oc,hoc,I.freeC x c hc⟩ hs,by simpa using I.len⟩ ⟨c,hs,.inr hc⟩
  ·exact (hs.2 b (Nat.ne_of_lt (Nat.lt_of_lt_of_le (Heap.lt_size e) (I.ok.cab x c hfn hc)))).trans (I.base.keep b o e n hb hx)
  ·obtain⟨sl,e1⟩:=I.base.slot b o e n hb hx
   exact⟨sl,(hs.2 b (Nat.ne_of_lt (Nat.lt_of_lt_of_le (Heap.lt_size e) (I.ok.cab x c hfn hc)))).trans e1⟩
  ·obtain⟨o',e1⟩:=I.base.there b o e hx
   exact⟨o',(hs.2 b (Nat.ne_of_lt (Nat.lt_of_lt_of_le (Heap.lt_size e) (I.ok.cab x c hfn hc)))).trans e1⟩
  ·by_cases hj:j=i
   ·subst hj
    rw[hi] at e1;cases e1
    rw[List.getElem?_set_self hiσ] at e2
    cases e2
    exact⟨u,r,.inr ⟨.inl hk,c,hc,hc'⟩⟩
   ·rw[List.getElem?_set_ne (Ne.symm hj)] at e2
    obtain⟨u',r',q⟩:=hl j y v' e1 e2 e3
    refine⟨u',r',?_⟩
    rcases q with q | ⟨k,c',e,z'⟩
    ·exact .inl q
    ·refine .inr ⟨k,c',e,z'.sameBut hs ?_⟩
     rintro rfl
     exact hj (VE hN e1 (I.ok.inj _ _ _ e hc▸hi))
  ·by_cases hcc:c'=c
   ·subst hcc;exact⟨_,hc'⟩
   ·obtain⟨w2,z2⟩:=I.cell y c' e
    exact⟨w2,z2.sameBut hs hcc⟩
  ·obtain⟨e,n,ne,nf,d⟩:=I.pin p hp
   refine⟨(hs.2 p.1 ?_).trans e,n,ne,nf,d⟩
   intro q
   rw[q,hoc] at e
   have q':oc=p.2:=Option.some.inj e
   exact d w' (by rw[<- q'];exact hocd)
theorem XY {M:Model}{A:Around}{E:Value->Shared->Prop}{i:Nat}{x:Str}{v:V}{u:Value}{Q:Unit->Shared->Prop} (I:Inv X pins σ H s) (hN:X.N.Nodup) (hi:X.N[i]?=some x) (hx:Loc X.env.scope x) (r:RelV v u)
  (h:∀ s',Inv X pins (σ.set i (some v)) H s'->Q () s') (hf:autoParam (X.fn x=true\/X.env.scope.names.lookup x=some .local) We._auto_1):wpAny M A (storeName X.env x u) Q E s :=
 qbt I hN hi hx r (fun s' I' _=>h s' I') hf
theorem Inv.qbK {s':Shared}{ch:List Addr} (I:Inv X pins σ H s) (ho:s'.os=s.os) (u:Un (frs X.stack) ch H H' s.heap s'.heap) (hok:HOk X.prog X.w H' s'.heap) (hg:AllBare s'.gens)
  (hch:∀ b∈ch,(b∈X.ex\/X.s_0.heap.objs.size <= b)/\b≠X.env.locals/\(∀ x c,X.env.cells.lookup x=some c->c≠b)/\∀ p∈X.pn++pins,p.1≠b):Inv X pins σ H' s':=by
 obtain⟨h',g',d',t',o'⟩:=s'
 have e:o'=s.os:=ho
 subst e
 exact I.call (g':=g') (t':=t') (d':=d') u hok hg hch
end
noncomputable abbrev XK:=Value->Option Addr->Hp->Prop
noncomputable abbrev St:=List (Option V)
noncomputable abbrev VK:=V->Hp->Prop
noncomputable abbrev TE:=St->Hp->VK->Prop
noncomputable abbrev TT:=St->Hp->(Bool->Hp->Prop)->Prop
noncomputable abbrev TA:=St->Hp->(List V->Hp->Prop)->Prop
structure Ends where
 nx:St->Hp->Prop
 rt:VK
 bk:St->Hp->Prop:=fun _ _=>False
 ct:St->Hp->Prop:=fun _ _=>False
noncomputable abbrev TS:=Ends->St->Hp->Prop
noncomputable def EP (X:Cx) (pins:List (Addr × Obj)) (σ:St) (Q:VK) (u:Value) (s':Shared):Prop:=∃ v H',Inv X pins σ H' s'/\RelV v u/\Q v H'
noncomputable def TP (X:Cx) (pins:List (Addr × Obj)) (σ:St) (Q:Bool->Hp->Prop) (b:Bool) (s':Shared):Prop:=∃ H',Inv X pins σ H' s'/\Q b H'
noncomputable def AP (X:Cx) (pins:List (Addr × Obj)) (σ:St) (Q:List V->Hp->Prop) (us:List Value) (s':Shared):Prop:=∃ vs H',Inv X pins σ H' s'/\Vals vs us/\Q vs H'
noncomputable def SP (X:Cx) (pins:List (Addr × Obj)) (D:Ends) (f:Flow) (s':Shared):Prop :=
 match f with
 | .next=>∃ σ' H',Inv X pins σ' H' s'/\D.nx σ' H'
 | .brk=>∃ σ' H',Inv X pins σ' H' s'/\D.bk σ' H'
 | .cont=>∃ σ' H',Inv X pins σ' H' s'/\D.ct σ' H'
 | .ret u=>∃ v σ' H',Inv X pins σ' H' s'/\RelV v u/\D.rt v H'
noncomputable def PE (X:Cx) (e:Expr) (t:TE):Prop :=
 ∀ (pins:List (Addr × Obj)) (s:Shared) (σ:St) (H:Hp) (Q:VK),Inv X pins σ H s->t σ H Q->wpAny (model X.prog X.w) X.A (eval e X.env) (EP X pins σ Q) X.xe s
noncomputable def PT (X:Cx) (e:Expr) (t:TT):Prop :=
 ∀ (pins:List (Addr × Obj)) (s:Shared) (σ:St) (H:Hp) (Q:Bool->Hp->Prop),Inv X pins σ H s->t σ H Q->wpAny (model X.prog X.w) X.A (isTrue e X.env (eval e X.env)) (TP X pins σ Q) X.xe s
noncomputable def PW (X:Cx) (e:Expr) (t:TT):Prop :=
 ∀ (whole:Sem Value) (pins:List (Addr × Obj)) (s:Shared) (σ:St) (H:Hp) (Q:Bool->Hp->Prop),Inv X pins σ H s->t σ H Q->wpAny (model X.prog X.w) X.A (isTrue e X.env whole) (TP X pins σ Q) X.xe s
theorem PW.pt {X:Cx}{e:Expr}{t:TT} (h:PW X e t):PT X e t:=h _
noncomputable def PA (X:Cx) (es:List Expr) (t:TA):Prop :=
 ∀ (pos:Pos) (pins:List (Addr × Obj)) (s:Shared) (σ:St) (H:Hp) (Q:List V->Hp->Prop),Inv X pins σ H s->t σ H Q->wpAny (model X.prog X.w) X.A (spliced (backTo pos (starEach es X.env))) (AP X pins σ Q) X.xe s
noncomputable def PS (X:Cx) (st:Stmt) (t:TS):Prop :=
 ∀ (pins:List (Addr × Obj)) (s:Shared) (σ:St) (H:Hp) (D:Ends),Inv X pins σ H s->t D σ H->wpAny (model X.prog X.w) X.A (exec st X.env) (SP X pins D) X.xe s
noncomputable def PSs (X:Cx) (st:List Stmt) (t:TS):Prop :=
 ∀ (pins:List (Addr × Obj)) (s:Shared) (σ:St) (H:Hp) (D:Ends),Inv X pins σ H s->t D σ H->wpAny (model X.prog X.w) X.A (execs st X.env) (SP X pins D) X.xe s
theorem thn {α:Type}{t:Sem α}{Q Q':α->Shared->Prop}{M:Model}{A:Around}{E:Value->Shared->Prop}{s:Shared} (h:wpAny M A t Q E s) (hQ:∀ a s,Q a s->Q' a s):wpAny M A t Q' E s:=wpAny_mono h hQ fun _ _ x=>x
section
variable {X:Cx}
noncomputable def qgY (i:Nat):TE:=fun σ H Q=>∃ v,σ[i]?=some (some v)/\Q v H
noncomputable def tC (v:V):TE:=fun _ H Q=>Q v H
theorem Wk {i:Nat}{x:Str}{pos:Pos} (hN:X.N[i]?=some x) (hv:Vis X.env.scope x) (hd:autoParam ((x==("__debug__":Str))=false) vd._auto_1) (hcd:autoParam ((x==("__classdict__":Str))=false) vd._auto_1):PE X (.Name x pos) (qgY i):=by
 intro pins s σ H Q I h
 obtain⟨v,e,h⟩:=h
 obtain⟨m,hn,hl⟩:=I.loc
 obtain⟨u,r,l⟩:=hl i x v hN e hv
 have fin:EP X pins σ Q u s:=⟨v,H,I,r,h⟩
 rcases l with ⟨hk,hm⟩ | ⟨hk,c,hc,hcell⟩
 ·exact wpAny_Name (wpAny_loadName_local I.ok.kind hk hn hm fin) hd
 ·rcases hk with hk | hk
  ·exact wpAny_Name (wpAny_loadName_cell I.ok.kind hk hc hcell fin) hd
  ·exact wpAny_Name (wpAny_loadName_free I.ok.kind hk hc hcell fin hcd) hd
theorem JM {i j pos}:PE X (.Constant (.int i) j pos) (tC (.int i)):=fun _ _ _ H _ I h=>wpAny_Constant_int ⟨.int i,H,I.tok _,⟨_,rfl⟩,h⟩
noncomputable def Gl (X:Cx) (x:Str):Prop:=X.env.kindOf x=some .globalImplicit
theorem uT {E:Value->Shared->Prop}{pins:List (Addr × Obj)}{s:Shared}{σ:St}{H:Hp}{x:Str}{u:Value}{pos:Pos}{Q:Value->Shared->Prop} (I:Inv X pins σ H s) (hg:Gl X x) (hm:X.mg x=some u) (h:Q u s)
  (hd:autoParam ((x==("__debug__":Str))=false) vd._auto_1):wpAny (model X.prog X.w) X.A (eval (.Name x pos) X.env) Q E s :=
 Calls.Name_function_global I.ok.kind hg (Calls.loadGlobal_global (by rw[I.ok.glob];exact I.mod.glob.keeps I.bk) hm h) hd
theorem Qu {E:Value->Shared->Prop}{pins:List (Addr × Obj)}{s:Shared}{σ:St}{H:Hp}{x:Str}{u:Value}{pos:Pos}{Q:Value->Shared->Prop} (I:Inv X pins σ H s) (hg:Gl X x) (hm:X.mg x=none) (hv:bootBuiltins x=some u) (h:Q u s)
  (hn:autoParam (x≠"__name__") vd._auto_1) (hd:autoParam ((x==("__debug__":Str))=false) vd._auto_1):wpAny (model X.prog X.w) X.A (eval (.Name x pos) X.env) Q E s:=by
 obtain⟨mb,h1,h2⟩:=I.mod.blt
 exact Calls.Name_function_global I.ok.kind hg (Calls.loadGlobal_builtin (by rw[I.ok.glob];exact I.mod.glob.keeps I.bk) hm (by rw[I.ok.blt];exact h1.keeps I.bk) ((h2 x hn).trans hv) h) hd
theorem qd9 {x:Str}{v:V}{u:Value}{pos:Pos} (hg:Gl X x) (hm:X.mg x=some u) (r:RelV v u) (hd:autoParam ((x==("__debug__":Str))=false) vd._auto_1):PE X (.Name x pos) (tC v) :=
 fun _ _ _ H _ I h=>uT I hg hm ⟨v,H,I,r,h⟩ hd
variable {a b:Expr}{ta tb:TE}{pos:Pos}
noncomputable def tB (t:TE):TT:=fun σ H Q=>t σ H fun x H1=>∃ c,x = .bl c/\Q c H1
theorem qgm {e:Expr}{t:TE} (h:PE X e t) (he:autoParam (∀ whole,isTrue e X.env whole=(do let v <- whole;standAt e.pos;holding [v] (truthy v))) xI._auto_1):PT X e (tB t):=by
 intro pins s σ H Q I hw
 refine isTrue_plain (thn (h pins s σ H _ I hw) fun v s1 ⟨x,H1,I1,r1,q1⟩=>?_) (he _)
 obtain⟨d,rfl,q⟩:=q1
 cases r1
 exact wpAny_truthy_bool ⟨H1,I1,q⟩
variable {tA tB':TT}{rest:List Expr}
noncomputable def qhn (t u:TT):TT:=fun σ H Q=>t σ H fun c H1=>if c=true then u σ H1 Q else Q false H1
noncomputable def tOr (t u:TT):TT:=fun σ H Q=>t σ H fun c H1=>if c=true then Q true H1 else u σ H1 Q
noncomputable def qht (t:TT):TT:=fun σ H Q=>t σ H fun c H1=>Q (!c) H1
theorem qeD (ha:PT X a tA):PW X (.BoolOp .And [a] pos) tA:=by
 intro wh pins s σ H Q I h
 refine isTrue_and (thn (ha pins s σ H Q I h) fun c s1 e=>?_)
 cases c with
 | true=>exact isTrue_and_nil e
 | false=>exact e
theorem qfH (ha:PT X a tA):PW X (.BoolOp .Or [a] pos) tA:=by
 intro wh pins s σ H Q I h
 refine isTrue_or (thn (ha pins s σ H Q I h) fun c s1 e=>?_)
 cases c with
 | false=>exact isTrue_or_nil e
 | true=>exact e
theorem qfF (ha:PT X a tA) (hb:PW X (.BoolOp .And (b::rest) pos) tB'):PW X (.BoolOp .And (a::b::rest) pos) (qhn tA tB'):=by
 intro wh pins s σ H Q I h
 refine isTrue_and (thn (ha pins s σ H _ I h) fun c s1 ⟨H1,I1,q1⟩=>?_)
 cases c with
 | true=>exact hb wh pins s1 σ H1 Q I1 q1
 | false=>exact⟨H1,I1,q1⟩
theorem qgF (ha:PT X a tA) (hb:PW X (.BoolOp .Or (b::rest) pos) tB'):PW X (.BoolOp .Or (a::b::rest) pos) (tOr tA tB'):=by
 intro wh pins s σ H Q I h
 refine isTrue_or (thn (ha pins s σ H _ I h) fun c s1 ⟨H1,I1,q1⟩=>?_)
 cases c with
 | true=>exact⟨H1,I1,q1⟩
 | false=>exact hb wh pins s1 σ H1 Q I1 q1
theorem qfI (ha:PT X a tA):PT X (.UnaryOp .Not a pos) (qht tA):=by
 intro pins s σ H Q I h
 exact isTrue_not (ha pins s σ H (fun c H1=>Q (!c) H1) I h)
noncomputable def tIf (t:TT) (ta tb:TE):TE:=fun σ H Q=>t σ H fun c H1=>if c=true then ta σ H1 Q else tb σ H1 Q
theorem qc6 {c:Expr} (hc:PT X c tA) (ha:PE X a ta) (hb:PE X b tb):PE X (.IfExp c a b pos) (tIf tA ta tb):=by
 intro pins s σ H Q I h
 refine wpAny_IfExp (thn (hc pins s σ H _ I h) fun d s1 ⟨H1,I1,q1⟩=>?_)
 cases d with
 | true=>exact ha pins s1 σ H1 Q I1 q1
 | false=>exact hb pins s1 σ H1 Q I1 q1
end
noncomputable def SqL (K:PySem.W.Frag) (H:Hp) (a:Addr) (xs:List V):Prop :=
 Rd H a (.lst xs) \/
  ∃ (o:Obj) (its:Array Value) (n:Nat),K.lookup a=some o/\o.cls = .type "list"/\o.dict=none/\o.data = .seq its n/\its.size <= sizeLine/\Vals xs its.toList
noncomputable def SqT (K:PySem.W.Frag) (H:Hp) (a:Addr) (xs:List V):Prop :=
 Rd H a (.tup xs) \/
  ∃ (o:Obj) (its:Array Value) (n:Nat),K.lookup a=some o/\o.cls = .type "tuple"/\o.data = .seq its n/\its.size <= sizeLine/\Vals xs its.toList
noncomputable def qhH:Value->Option V
 | .none=>some .non
 | .bool b=>some (.bl b)
 | .int i _=>some (.int i)
 | .str x _=>some (.str x)
 | .bytes b _=>some (.byt b)
 | .float b _=>some (.flt b)
 | .ref a=>some (.ref a)
 | .type n=>some (.ty n)
 | _=>none
theorem RelV.abs {x:V}{u:Value} (r:RelV x u):qhH u=some x:=by
 cases x with
 | non=>cases r;rfl
 | bl _=>cases r;rfl
 | int _=>obtain⟨t,rfl⟩:=r;rfl
 | str _=>obtain⟨t,rfl⟩:=r;rfl
 | byt _=>obtain⟨t,rfl⟩:=r;rfl
 | flt _=>obtain⟨t,rfl⟩:=r;rfl
 | ref _=>cases r;rfl
 | ty _=>cases r;rfl
theorem RelV.inj {x y:V}{u:Value} (r:RelV x u) (q:RelV y u):x=y:=Option.some.inj (r.abs.symm.trans q.abs)
theorem Vals.inj:∀ {xs ys:List V}{us:List Value},Vals xs us->Vals ys us->xs=ys
 | _,_,_,.nil,.nil=>rfl
 | _,_,_,.cons r t,.cons r' t'=>by rw[r.inj r',Vals.inj t t']
section
variable {X:Cx}{pins:List (Addr × Obj)}{σ:St}{H:Hp}{s:Shared}{a:Addr}{xs ys:List V}
theorem SqL.of {K:PySem.W.Frag} (h:H a=some (.lst xs)):SqL K H a xs:=.inl (.inl h)
theorem SqT.of {K:PySem.W.Frag} (h:H a=some (.tup xs)):SqT K H a xs:=.inl (.inl h)
theorem Inv.list (I:Inv X pins σ H s) (h:SqL X.K H a xs):∃ its:List Value,Vals xs its/\PlainL s.heap a its.toArray/\xs.length <= sizeLine:=by
 rcases h with h | ⟨o,its,n,hk,hc,hd,hs,hz,r⟩
 ·obtain⟨z,its,n,r,e⟩:=h.ok I.hok
  exact⟨its,r,⟨_,n,e,rfl,rfl,rfl⟩,z⟩
 ·refine⟨its.toList,r,⟨o,n,I.kIn a o hk,hc,hd,by simpa using hs⟩,?_⟩
  have e:=r.length
  simp only[Array.length_toList] at e
  lia
theorem Inv.tuple (I:Inv X pins σ H s) (h:SqT X.K H a xs):∃ its:List Value,Vals xs its/\IsTup s.heap a its.toArray/\xs.length <= sizeLine:=by
 rcases h with h | ⟨o,its,n,hk,hc,hs,hz,r⟩
 ·obtain⟨z,its,r,p⟩:=h.ok I.hok
  exact⟨its,r,p,z⟩
 ·refine⟨its.toList,r,⟨o,I.kIn a o hk,hc,n,by simpa using hs⟩,?_⟩
  have e:=r.length
  simp only[Array.length_toList] at e
  lia
theorem Inv.WQ (I:Inv X pins σ H s) (h:SqL X.K H a xs) (h':SqL X.K H a ys):xs=ys:=by
 obtain⟨its,r,⟨o,n,e,_,_,d⟩,_⟩:=I.list h
 obtain⟨its',r',⟨o',n',e',_,_,d'⟩,_⟩:=I.list h'
 rw[e] at e';cases e'
 rw[d] at d'
 injection d' with d1 _
 have:its=its':=by simpa using congrArg Array.toList d1
 subst this
 exact r.inj r'
end
noncomputable abbrev Cx.uD (X:Cx) (E:Value->Shared->Prop):Cx:={X with xe:=E}
theorem Cx.Ok.uD {X:Cx} (ok:X.Ok) (E:Value->Shared->Prop):(X.uD E).Ok :=
 ⟨ok.mod,ok.kind,ok.glob,ok.blt,ok.above,ok.inj,ok.has,ok.cab,ok.hd,ok.frames,ok.stk,ok.exf,ok.bs,ok.bsz,ok.noex,ok.exfs,ok.ji,ok.frf⟩
theorem Cx.Ok.yf {X:Cx}{E:Value->Shared->Prop} (ok:(X.uD E).Ok):X.Ok :=
 ⟨ok.mod,ok.kind,ok.glob,ok.blt,ok.above,ok.inj,ok.has,ok.cab,ok.hd,ok.frames,ok.stk,ok.exf,ok.bs,ok.bsz,ok.noex,ok.exfs,ok.ji,ok.frf⟩
section
variable {X:Cx}{pins:List (Addr × Obj)}{σ:St}{H:Hp}{s:Shared}{E:Value->Shared->Prop}
theorem Inv.uD (I:Inv X pins σ H s) (E:Value->Shared->Prop):Inv (X.uD E) pins σ H s:=⟨I.ok.uD E,I.os,I.bare,I.base,I.loc,I.cell,I.free,I.freeC,I.pin,I.hok,I.len⟩
theorem Inv.yf (I:Inv (X.uD E) pins σ H s):Inv X pins σ H s:=⟨I.ok.yf,I.os,I.bare,I.base,I.loc,I.cell,I.free,I.freeC,I.pin,I.hok,I.len⟩
theorem SP.yf {D:Ends}{f:Flow}{s':Shared} (h:SP (X.uD E) pins D f s'):SP X pins D f s':=by
 cases f with
 | next=>obtain⟨σ',H',I,q⟩:=h;exact⟨σ',H',I.yf,q⟩
 | brk=>obtain⟨σ',H',I,q⟩:=h;exact⟨σ',H',I.yf,q⟩
 | cont=>obtain⟨σ',H',I,q⟩:=h;exact⟨σ',H',I.yf,q⟩
 | ret u=>obtain⟨v,σ',H',I,r,q⟩:=h;exact⟨v,σ',H',I.yf,r,q⟩
end
section
variable {X:Cx}{st:Stmt}{rest:List Stmt}{t u:TS}{e:Expr}{te:TE}{pos:Pos}
noncomputable def qgN:TS:=fun D σ H=>D.nx σ H
noncomputable def qhw (t u:TS):TS:=fun D σ H=>t {D with nx:=u D} σ H
theorem JZ:PSs X [] qgN:=fun _ _ σ H _ I h=>wpAny_execs_nil ⟨σ,H,I,h⟩
theorem Wg (h1:PS X st t) (h2:PSs X rest u):PSs X (st::rest) (qhw t u):=by
 intro pins s σ H D I h
 refine wpAny_execs_cons (thn (h1 pins s σ H {D with nx:=u D} I h) fun f s1 q=>?_)
 cases f with
 | next =>
  obtain⟨σ',H',I',q⟩:=q
  exact h2 pins s1 σ' H' D I' q
 | ret v=>exact q
 | brk=>exact q
 | cont=>exact q
theorem u6 (h1:PS X st t):PSs X [st] t:=by
 intro pins s σ H D I h
 refine wpAny_execs_cons (thn (h1 pins s σ H D I h) fun f s1 q=>?_)
 cases f with
 | next=>exact wpAny_execs_nil q
 | ret v=>exact q
 | brk=>exact q
 | cont=>exact q
theorem Inv.quiet {pins:List (Addr × Obj)}{σ:St}{H:Hp}{s:Shared} (I:Inv X pins σ H s):interactive X.env=false:=by simp [interactive,I.ok.kind]
noncomputable def qhc (te:TE):TS:=fun D σ H=>te σ H fun _ H1=>D.nx σ H1
theorem Q7 (he:PE X e te) (hs:autoParam (swapsWith e none pos.line X.env=pure false) qt._auto_1):PS X (.Expr e pos) (qhc te):=by
 intro pins s σ H D I h
 exact wpAny_Expr_any (thn (he pins s σ H _ I h) fun v s1 ⟨x,H1,I1,r1,q1⟩=>⟨σ,H1,I1,q1⟩) I.quiet hs
noncomputable def qf2 (te:TE):TS:=fun D σ H=>te σ H D.rt
theorem uh (he:PE X e te):PS X (.Return (some e) pos) (qf2 te):=by
 intro pins s σ H D I h
 exact wpAny_Return_some (thn (he pins s σ H _ I h) fun v s1 ⟨x,H1,I1,r1,q1⟩=>⟨x,σ,H1,I1,r1,q1⟩)
noncomputable def qhq (c:TT) (t u:TS):TS:=fun D σ H=>c σ H fun b H1=>if b=true then t D σ H1 else u D σ H1
theorem qeU {c:Expr}{a b:List Stmt}{tc:TT} (hc:PT X c tc) (ha:PSs X a t) (hb:PSs X b u):PS X (.If c a b pos) (qhq tc t u):=by
 intro pins s σ H D I h
 refine wpAny_If (thn (hc pins s σ H _ I h) fun d s1 ⟨H1,I1,q1⟩=>?_)
 cases d with
 | true=>exact ha pins s1 σ H1 D I1 q1
 | false=>exact hb pins s1 σ H1 D I1 q1
end
noncomputable abbrev TG:=V->St->Hp->(St->Hp->Prop)->Prop
noncomputable abbrev TGs:=List V->St->Hp->(St->Hp->Prop)->Prop
noncomputable def PG (X:Cx) (target:Expr) (t:TG):Prop :=
 ∀ (pins:List (Addr × Obj)) (s:Shared) (σ:St) (H:Hp) (v:V) (u:Value) (Q:St->Hp->Prop),Inv X pins σ H s->RelV v u->t v σ H Q ->
  wpAny (model X.prog X.w) X.A (assign target X.env u) (fun _ s'=>∃ σ' H',Inv X pins σ' H' s'/\Q σ' H') X.xe s
noncomputable def PGs (X:Cx) (ts:List Expr) (t:TGs):Prop :=
 ∀ (pins:List (Addr × Obj)) (s:Shared) (σ:St) (H:Hp) (vs:List V) (us:List Value) (Q:St->Hp->Prop),Inv X pins σ H s->Vals vs us->t vs σ H Q ->
  wpAny (model X.prog X.w) X.A (assignInOrder ((assignEach ts X.env).map (·.2)) us) (fun _ s'=>∃ σ' H',Inv X pins σ' H' s'/\Q σ' H') X.xe s
noncomputable abbrev qgx:=V->V->V->Hp->(Hp->Prop)->Prop
noncomputable def qgQ (X:Cx) (t:qgx):Prop :=
 ∀ (pins:List (Addr × Obj)) (s:Shared) (σ:St) (H:Hp) (o i v:V) (ov iv u:Value) (Q:Hp->Prop),Inv X pins σ H s->RelV o ov->RelV i iv->RelV v u->t o i v H Q ->
  wpAny (model X.prog X.w) X.A (setItem ov iv u) (fun _ s'=>∃ H',Inv X pins σ H' s'/\Q H') X.xe s
section
variable {X:Cx}{pos:Pos}
noncomputable def w4 (i:Nat):TG:=fun v σ H Q=>Q (σ.set i (some v)) H
theorem qed {i:Nat}{x:Str} (hN:X.N.Nodup) (hi:X.N[i]?=some x) (hx:Loc X.env.scope x) (hf:autoParam (X.fn x=true\/X.env.scope.names.lookup x=some .local) We._auto_1):PG X (.Name x pos) (w4 i):=by
 intro pins s σ H v u Q I r h
 exact wpAny_assign_Name (XY I hN hi hx r (fun s' I'=>⟨_,H,I',h⟩) hf)
noncomputable def qeg:TGs:=fun vs σ H Q=>vs=[]/\Q σ H
noncomputable def V9 (t:TG) (u:TGs):TGs:=fun vs σ H Q=>∃ v r,vs=v::r/\t v σ H fun σ' H'=>u r σ' H' Q
theorem qet:PGs X [] qeg:=by
 intro pins s σ H vs us Q I r h
 obtain⟨e,h⟩:=h
 subst e
 cases r
 exact assignInOrder_nil ⟨σ,H,I,h⟩
theorem Ui {e:Expr}{es:List Expr}{t:TG}{u:TGs} (h1:PG X e t) (h2:PGs X es u)
  (hs:autoParam ((assignEach (e::es) X.env).map (·.2)=assign e X.env::(assignEach es X.env).map (·.2)) qt._auto_1):PGs X (e::es) (V9 t u):=by
 intro pins s σ H vs us Q I r h
 obtain⟨v,vr,e1,h⟩:=h
 subst e1
 cases r with
 | cons r rr =>
  rw[hs]
  refine assignInOrder_cons (thn (h1 pins s σ H _ _ _ I r h) fun _ s1 ⟨σ1,H1,I1,q1⟩=>?_)
  exact h2 pins s1 σ1 H1 _ _ Q I1 rr q1
noncomputable def qdZ (K:PySem.W.Frag) (n:Nat) (t:TGs):TG:=fun v σ H Q=>∃ a xs,v = .ref a/\SqT K H a xs/\xs.length=n/\t xs σ H Q
theorem qgj {es:List Expr}{k:Nat}{t:TGs}{n:Nat} (hc:X.calm=true) (h:PGs X es t)
  (hn:autoParam ((assignEach es X.env).length=n) qt._auto_1) (hst:autoParam ((assignEach es X.env).findIdx? (·.1)=none) qt._auto_1):PG X (.Tuple es k pos) (qdZ X.K n t):=by
 intro pins s σ H v u Q I r hw
 obtain⟨a,xs,e1,hq,hl,hw⟩:=hw
 subst e1
 cases r
 obtain⟨its,rv,ht,hz⟩:=I.tuple hq
 refine assign_Tuple_tuple (I.ok.hd hc) ht (by simp [hn,<- hl,rv.length]) hst fun h' hx=>?_
 have I1:Inv X pins σ H {s with heap:=h'}:=I.kept (t':=s.toks) fun b o e=>hx b o (Nat.ne_of_lt (Heap.lt_size e)) e
 exact h pins _ σ H xs _ Q I1 (by simpa using rv) hw
noncomputable def qhb (to ti:TE) (t:qgx):TG:=fun v σ H Q=>to σ H fun o H1=>ti σ H1 fun i H2=>t o i v H2 fun H3=>Q σ H3
theorem WL {o i:Expr}{to ti:TE}{t:qgx} (ho:PE X o to) (hi:PE X i ti) (hs:qgQ X t)
  (ha:∀ v,assign (.Subscript o i pos) X.env v=(do
   let ov <- holding [v] (eval o X.env)
   let iv <- holding [v,ov] (eval i X.env)
   standAt pos
   holding [v,ov,iv] (setItem ov iv v)
   release [v,ov,iv] []):=by intro _;rfl):PG X (.Subscript o i pos) (qhb to ti t):=by
 intro pins s σ H v u Q I r h
 rw[ha]
 refine wpAny_bind (wpAny_holding (thn (ho pins s σ H _ I h) fun ov s1 ⟨x,H1,I1,r1,q1⟩=>?_))
 refine wpAny_bind (wpAny_holding (thn (hi pins s1 σ H1 _ I1 q1) fun iv s2 ⟨y,H2,I2,r2,q2⟩=>?_))
 refine wpAny_bind (wpAny_standAt (wpAny_bind (wpAny_holding (thn (hs pins s2 σ H2 x y v ov iv u _ I2 r1 r2 r q2) fun _ s3 ⟨H3,I3,q3⟩=>?_))))
 exact wpAny_release ⟨σ,H3,I3,q3⟩
noncomputable def Uz (te:TE) (g:TG):TS:=fun D σ H=>te σ H fun x H1=>g x σ H1 D.nx
theorem WO {tg e:Expr}{te:TE}{g:TG} (he:PE X e te) (hg:PG X tg g) (hs:autoParam (swapsWithSole [tg] e pos.line X.env=pure false) qt._auto_1) (hw:autoParam (swappedStores [tg] e X.env=pure none) qt._auto_1)
  (h1:autoParam ((assignEach [tg] X.env).map (·.2)=[assign tg X.env]) qt._auto_1):PS X (.Assign [tg] e pos) (Uz te g):=by
 intro pins s σ H D I h
 refine wpAny_Assign_stores (thn (he pins s σ H _ I h) fun v s1 ⟨x,H1,I1,r1,q1⟩=>?_) hs hw
 rw[h1]
 exact thn (hg pins s1 σ H1 x v _ I1 r1 q1) fun _ s2 q=>q
theorem Wv {i:Nat}{x:Str}{e:Expr}{te:TE}{pos':Pos} (hN:X.N.Nodup) (hi:X.N[i]?=some x) (hx:Loc X.env.scope x) (he:PE X e te) (hs:autoParam (swapsWith e (some (.Name x pos')) pos.line X.env=pure false) qt._auto_1) (hf:autoParam (X.fn x=true\/X.env.scope.names.lookup x=some .local) We._auto_1) :
  PS X (.Assign [.Name x pos'] e pos) (Uz te (w4 i)):=by
 intro pins s σ H D I h
 refine wpAny_Assign_Name (thn (he pins s σ H _ I h) fun v s1 ⟨y,H1,I1,r1,q1⟩=>?_) hs
 exact XY I1 hN hi hx r1 (fun s2 I2=>⟨_,H1,I2,q1⟩) hf
end
section
variable {X:Cx}{pos:Pos}
noncomputable def qfK (c:TT) (tb:TS):TS:=fun D σ H=>∃ W:Nat->St->Hp->Prop,(∃ m,W m σ H)/\∀ m σ H,W m σ H ->
 c σ H fun b H1=>if b=true then ∃ N:St->Hp->Prop,(∀ σ' H',N σ' H'->∃ m',m'<m/\W m' σ' H')/\tb {D with nx:=N,ct:=N,bk:=D.nx} σ H1 else D.nx σ H1
theorem qdh {c:Expr}{body:List Stmt}{tc:TT}{tb:TS} (hp:PassesOwn (model X.prog X.w) X.A X.env X.xe) (hc:PT X c tc) (hb:PSs X body tb):PS X (.While c body [] pos) (qfK tc tb):=by
 intro pins s σ H D I h
 obtain⟨W,⟨m0,w0⟩,turn⟩:=h
 refine wpAny_While (codeAny_whileLoop (fun n s'=>∃ σ' H',Inv X pins σ' H' s'/\W n σ' H') ?_ m0 ⟨σ,H,I,w0⟩)
 rintro n s1 ⟨σ1,H1,I1,w1⟩
 refine wpAny_passesOwn hp (thn (hc pins s1 σ1 H1 _ I1 (turn n σ1 H1 w1)) fun b s2 ⟨H2,I2,q2⟩=>?_)
 cases b with
 | true =>
  obtain⟨N,hN,q2⟩:=q2
  rw[if_pos rfl]
  refine wpAny_passesOwn hp (thn (hb pins s2 σ1 H2 _ I2 q2) fun f s3 q3=>?_)
  cases f with
  | next =>
   obtain⟨σ3,H3,I3,n3⟩:=q3
   obtain⟨m',hm,w3⟩:=hN σ3 H3 n3
   exact⟨m',hm,σ3,H3,I3,w3⟩
  | cont =>
   obtain⟨σ3,H3,I3,n3⟩:=q3
   obtain⟨m',hm,w3⟩:=hN σ3 H3 n3
   exact⟨m',hm,σ3,H3,I3,w3⟩
  | brk=>exact q3
  | ret v=>exact q3
 | false =>
  rw[if_neg Bool.false_ne_true]
  exact wpAny_execs_nil ⟨σ1,H2,I2,q2⟩
end
structure It where
 go:Nat->Hp->Prop
 yld:Nat->Hp->V->Hp->Prop
 stop:Nat->Hp->Prop
noncomputable def Qk (X:Cx) (pins:List (Addr × Obj)) (H:Hp) (b:Addr):Prop :=
 H b=none/\b≠X.env.locals/\b∉X.fs/\(b∈X.ex\/X.s_0.heap.objs.size <= b)/\(∀ x c,X.env.cells.lookup x=some c->c≠b)/\∀ p∈X.pn++pins,p.1≠b
theorem Inv.qaG {X:Cx}{pins:List (Addr × Obj)}{σ:St}{H H':Hp}{s:Shared}{b:Addr} (I:Inv X pins σ H s) (hb:s.heap.objs.size <= b) (hn:H' b=none):Qk X pins H' b:=by
 refine⟨hn,Nat.ne_of_gt (Nat.lt_of_lt_of_le I.lt hb),I.qhd hb,.inr (Nat.le_trans I.sz hb),fun x c e z=>?_,fun p hp z=>?_⟩
 ·obtain⟨v,q⟩:=I.cell x c e
  exact absurd (Nat.lt_of_lt_of_le q.lt (by rw[z];exact hb)) (Nat.lt_irrefl _)
 ·exact absurd (Nat.lt_of_lt_of_le (Heap.lt_size (I.pin p hp).1) (by rw[z];exact hb)) (Nat.lt_irrefl _)
structure Turn (P:Program) (w:World) (K:PySem.W.Frag) (tg:Expr) (J:It) (fp:List Addr) (it:Addr) (tn:Nat->Heap->Prop):Prop where
 mem:it∈fp
 obj:∀ i h,tn i h->∀ b∈fp,∃ o,h.get? b=some o/\∀ v,o.data ≠ .cell v
 keep:∀ i h h',tn i h->(∀ b∈fp,∀ o,h.get? b=some o->h'.get? b=some o)->tn i h'
 item:∀ (X:Cx),X.prog=P->X.w=w->X.K=K->X.calm=true->∀ (i:Nat) (pins:List (Addr × Obj)) (s:Shared) (σ:St) (H:Hp) (E:Value->Shared->Prop),Inv X pins σ H s->(∀ b∈fp,Qk X pins H b)->tn i s.heap->J.go i H ->
  wpAny (model P w) X.A (pyNext (.ref it)) (fun r s1=>∃ u,r=some u /\
   wpAny (model P w) X.A (letOwnedTupleGo tg (.ref it) u) (fun _ s2=>∃ x H',Inv X pins σ H' s2/\RelV x u/\J.yld i H x H'/\tn (i+1) s2.heap/\∀ b∈fp,H' b=none) E s1) E s
 done:∀ (X:Cx),X.prog=P->X.w=w->X.K=K->X.calm=true->∀ (i:Nat) (pins:List (Addr × Obj)) (s:Shared) (σ:St) (H:Hp) (E:Value->Shared->Prop),Inv X pins σ H s->(∀ b∈fp,Qk X pins H b)->tn i s.heap->J.stop i H ->
  wpAny (model P w) X.A (pyNext (.ref it)) (fun r s1=>r=none/\Inv X pins σ H s1) E s
 self:∀ (A:Around) (i:Nat) (s:Shared) (Q:Value->Shared->Prop) (E:Value->Shared->Prop),tn i s.heap->Q (.ref it) s->wpAny (model P w) A (pyIter (.ref it)) Q E s
noncomputable abbrev TI:=St->Hp->(It->Hp->Prop)->Prop
noncomputable def PIE (X:Cx) (pins:List (Addr × Obj)) (σ:St) (tg:Expr) (R:It->Hp->Prop) (itv:Value) (s2:Shared):Prop :=
 ∃ (it:Addr) (fp:List Addr) (tn:Nat->Heap->Prop) (J:It) (H':Hp),itv = .ref it/\Inv X pins σ H' s2/\Turn X.prog X.w X.K tg J fp it tn/\tn 0 s2.heap/\(∀ b∈fp,Qk X pins H' b)/\R J H'
noncomputable def PI (X:Cx) (tg iter:Expr) (wi:TI):Prop :=
 ∀ (pins:List (Addr × Obj)) (s:Shared) (σ:St) (H:Hp) (R:It->Hp->Prop),Inv X pins σ H s->wi σ H R ->
  wpAny (model X.prog X.w) X.A (eval iter X.env) (fun v s1=>wpAny (model X.prog X.w) X.A (pyIter v) (PIE X pins σ tg R) X.xe s1) X.xe s
theorem qco {M : Model} {A : Around} {E : Value -> Shared -> Prop} {s : Shared} {tg : Expr} {it : Addr} {u : Value} {o : Obj} {n : String} {vs : Array Value} {Q : Unit -> Shared -> Prop} (ho : s.heap.get? it = some o) (hc : o.cls = .type n) (hd : o.data = .fields vs)
    (hn:["enumerate","zip","dict_itemiterator","dict_reverseitemiterator","odict_iterator","itertools.zip_longest","itertools.pairwise"].contains n=false) (hQ:Q () s):wpAny M A (letOwnedTupleGo tg (.ref it) u) Q E s:=by
  unfold letOwnedTupleGo
  cases tg <;> first
    | exact wpAny_pure hQ
    | (cases u <;> first
        | exact wpAny_pure hQ
        | (refine wpAny_bind (wpAny_load ho ?_)
           rw[hc,hd]
           show wpAny M A (if (["enumerate","zip","dict_itemiterator","dict_reverseitemiterator","odict_iterator","itertools.zip_longest","itertools.pairwise"].contains n&&vs[0]?==some (rawInt _))=true then _ else _) Q E s
           rw[if_neg (by intro h;rw[hn,Bool.false_and] at h;cases h)]
           exact wpAny_pure hQ))
noncomputable def Itl (K:PySem.W.Frag) (a:Addr):It :=
 ⟨fun i H=>∃ xs x,SqL K H a xs/\xs[i]?=some x,fun i H x H'=>H'=H/\∀ xs,SqL K H a xs->xs[i]?=some x,fun i H=>∃ xs,SqL K H a xs/\xs.length <= i⟩
noncomputable def Itr (lo:Int) (n:Nat):It:=⟨fun i _=>i<n,fun i H x H'=>H'=H/\x = .int (lo+i),fun i _=>n <= i⟩
theorem qaW {P:Program}{w:World}{K:PySem.W.Frag}{tg:Expr} (a it:Addr):Turn P w K tg (Itl K a) [it] it (fun i h=>h.IsListIter it a i) where
 mem:=by simp
 obj:=fun i h st b hb=>by
  have e:b=it:=by simpa using hb
  subst e
  obtain⟨o,e,c,d⟩:=st
  exact⟨o,e,fun v z=>by rw[d] at z;cases z⟩
 keep:=fun i h h' st k=>st.at fun o e=>k it (by simp) o e
 item:=by
  intro X hP hw hK hc i pins s σ H E I hf st hg
  subst hP hw hK
  obtain⟨xs,x,hq,hx⟩:=hg
  obtain⟨its,rv,p,hz⟩:=I.list hq
  obtain⟨u,hu,ru⟩:=rv.get hx
  obtain⟨f0,f1,f2,f3,f4,f5⟩:=hf it (by simp)
  refine wpAny_pyNext_list_item st p.isList (x:=u) (by simpa using hu) fun h' st' sb=>?_
  have I1:Inv X pins σ H {s with heap:=h'}:=I.turned (t':=s.toks) (fun b o hb e=>(sb.2 b hb).trans e) f0 f1 f3 f4 f5
  obtain⟨o,e,c,d⟩:=id st'
  exact⟨u,rfl,qco (s:={s with heap:=h'}) e c d (by decide) ⟨x,H,I1,ru,⟨rfl,fun ys hy=>by rw[I.WQ hy hq];exact hx⟩,st',fun b hb=>(hf b hb).1⟩⟩
 done:=by
  intro X hP hw hK hc i pins s σ H E I hf st hg
  subst hP hw hK
  obtain⟨xs,hq,hx⟩:=hg
  obtain⟨its,rv,p,hz⟩:=I.list hq
  obtain⟨f0,f1,f2,f3,f4,f5⟩:=hf it (by simp)
  have hl:=rv.length
  exact wpAny_pyNext_list_end (I.ok.hd hc) st p.isList (by simp;lia) fun h' eb=>⟨rfl,I.turned (t':=s.toks) (fun b o hb e=>eb b o hb e) f0 f1 f3 f4 f5⟩
 self:=fun _ _ _ _ _ st h=>wpAny_pyIter_listiter st h
theorem JS {P:Program}{w:World}{K:PySem.W.Frag}{tg:Expr} (it:Addr) (lo:Int) (n:Nat):Turn P w K tg (Itr lo n) [it] it (fun i h=>IsRangeIter h it (lo+(i:Nat)*1) ((n:Int)-(i:Nat)) 1) where
 mem:=by simp
 obj:=fun i h st b hb=>by
  have e:b=it:=by simpa using hb
  subst e
  exact⟨_,st,fun v z=>by
   have z':Data.fields _=Data.cell v:=z
   cases z'⟩
 keep:=fun i h h' st k=>k it (by simp) _ st
 item:=by
  intro X hP hw hK hc i pins s σ H E I hf st hg
  subst hP hw hK
  obtain⟨f0,f1,f2,f3,f4,f5⟩:=hf it (by simp)
  have W:=Walks.range (prog:=X.prog) (w:=X.w) (I.ok.hd hc) it lo 1 n
  refine W.item i s _ _ hg st fun v h' tk hv st' kk=>?_
  obtain⟨t,rfl⟩:=hv
  have I1:Inv X pins σ H {s with heap:=h',toks:=tk}:=I.turned (fun b o hb e=>kk b o (by simpa using hb) e) f0 f1 f3 f4 f5
  refine⟨_,rfl,qco (s:={s with heap:=h',toks:=tk}) (n:="range_iterator") st' rfl rfl (by decide) ⟨.int (lo+i),H,I1,⟨t,?_⟩,⟨rfl,rfl⟩,st',fun b hb=>(hf b hb).1⟩⟩
  rw[Int.mul_one]
 done:=by
  intro X hP hw hK hc i pins s σ H E I hf st hg
  subst hP hw hK
  obtain⟨f0,f1,f2,f3,f4,f5⟩:=hf it (by simp)
  exact wpAny_pyNext_range_end (I.ok.hd hc) st (by have:n <= i:=hg;lia) fun h' eb=>⟨rfl,I.turned (t':=s.toks) (fun b o hb e=>eb b o hb e) f0 f1 f3 f4 f5⟩
 self:=fun _ _ _ _ _ st h=>wpAny_pyIter_rangeiter st h
section
variable {X:Cx}{tg:Expr}
noncomputable def qgI (K:PySem.W.Frag) (tl:TE):TI:=fun σ H R=>tl σ H fun x H1=>∃ a,x = .ref a/\(∃ xs,SqL K H1 a xs)/\R (Itl K a) H1
theorem qdR {l:Expr}{tl:TE} (hl:PE X l tl):PI X tg l (qgI X.K tl):=by
 intro pins s σ H R I h
 refine thn (hl pins s σ H _ I h) fun v s1 ⟨x,H1,I1,r1,q1⟩=>?_
 obtain⟨a,e,⟨xs,hq⟩,q⟩:=q1
 subst e
 cases r1
 obtain⟨its,rv,p,hz⟩:=I1.list hq
 refine wpAny_pyIter_list p.isList ?_
 refine⟨s1.heap.objs.size,[s1.heap.objs.size],_,_,H1,rfl,I1.kept (t':=s1.toks) fun b o e=>Heap.get?_push_of_some _ e,qaW a _,⟨_,Heap.get?_push_size _ rfl,rfl,rfl⟩,fun b hb=>?_,q⟩
 have e:b=s1.heap.objs.size:=by simpa using hb
 subst e
 exact I1.qaG (Nat.le_refl _) (I1.hok.fresh (Nat.le_refl _))
theorem Uq {pins:List (Addr × Obj)}{σ:St}{H:Hp}{s:Shared}{R:It->Hp->Prop}{E:Value->Shared->Prop}{lo hi:Int}{t u v:Tok}{tk:Nat} (I:Inv X pins σ H s) (h1 : -(2^62) <= lo) (h2:lo<2^62) (h3 : -(2^62) <= hi) (h4:hi<2^62)
  (q:R (Itr lo (hi-lo).toNat) H):wpAny (model X.prog X.w) X.A (pyIter (.ref s.heap.objs.size)) (PIE X pins σ tg R) E {s with heap:=s.heap.push {cls:=.type "range",data:=.fields #[.int lo t,.int hi u,.int 1 v]},toks:=tk}:=by
 refine wpAny_pyIter_range (IsRange.new ..) (small_one h1 h2 h3 h4) ?_
 have I1:Inv X pins σ H {s with heap:=s.heap.push {cls:=.type "range",data:=.fields #[.int lo t,.int hi u,.int 1 v]},toks:=tk}:=I.kept fun b o e=>Heap.get?_push_of_some _ e
 refine⟨(s.heap.push {cls:=.type "range",data:=.fields #[.int lo t,.int hi u,.int 1 v]}).objs.size,[(s.heap.push {cls:=.type "range",data:=.fields #[.int lo t,.int hi u,.int 1 v]}).objs.size],_,_,H,rfl,
  I1.kept (t':=tk) fun b o e=>Heap.get?_push_of_some _ e,JS _ lo (hi-lo).toNat,?_,fun b hb=>?_,q⟩
 ·have e1:lo+((0:Nat):Int)*1=lo:=by simp
  have e2:(((hi-lo).toNat:Nat):Int)-((0:Nat):Int)=Builtin.Range.rangeSize lo hi 1:=by rw[rangeSize_one];split <;> lia
  show IsRangeIter _ _ (lo+((0:Nat):Int)*1) ((((hi-lo).toNat:Nat):Int)-((0:Nat):Int)) 1
  rw[e1,e2]
  exact Heap.get?_push_size _ rfl
 ·have e:b=(s.heap.push {cls:=.type "range",data:=.fields #[.int lo t,.int hi u,.int 1 v]}).objs.size:=by simpa using hb
  subst e
  exact I1.qaG (Nat.le_refl _) (I1.hok.fresh (Nat.le_refl _))
noncomputable def qgP (ta:TA):TI:=fun σ H R=>ta σ H fun vs H1=>∃ j:Int,vs=[.int j] /\ -(2^62) <= j/\j<2^62/\R (Itr 0 j.toNat) H1
noncomputable def qgK (ta:TA):TI:=fun σ H R=>ta σ H fun vs H1=>∃ i j:Int,vs=[.int i,.int j]/\(-(2^62) <= i/\i<2^62 /\ -(2^62) <= j/\j<2^62)/\R (Itr i (j-i).toNat) H1
theorem ZH {a:Expr}{ta:TA}{p pos:Pos} (hg:Gl X "range") (hm:X.mg "range"=none) (ha:PA X [a] ta) (hs:autoParam (starEach [a] X.env=[(false,eval a X.env)]) qt._auto_1):PI X tg (.Call (.Name "range" p) [a] [] pos) (qgP ta):=by
 intro pins s σ H R I h
 refine Call_ (Qu I hg hm boot_range (PyProof.Rows.callWith_type1 (thn (ha pos pins s σ H _ I h) fun us s1 ⟨vs,H1,I1,r1,q1⟩=>?_) hs rfl))
 obtain⟨j,e,q1,q2,q⟩:=q1
 subst e
 cases r1 with
 | cons r rr =>
  cases rr
  obtain⟨t,rfl⟩:=r
  exact call_range_1 (Uq I1 (by lia) (by lia) q1 q2 (by simpa using q))
theorem qbx {a b:Expr}{ta:TA}{p pos:Pos} (hg:Gl X "range") (hm:X.mg "range"=none) (ha:PA X [a,b] ta) (hs:autoParam (starEach [a,b] X.env=[(false,eval a X.env),(false,eval b X.env)]) qt._auto_1) (hs2:autoParam (starEach [b] X.env=[(false,eval b X.env)]) qt._auto_1) :
  PI X tg (.Call (.Name "range" p) [a,b] [] pos) (qgK ta):=by
 intro pins s σ H R I h
 refine Call_ (Qu I hg hm boot_range (PyProof.Rows.callWith_type1 (thn (ha pos pins s σ H _ I h) fun us s1 ⟨vs,H1,I1,r1,q1⟩=>?_) (by rw[hs,hs2]) (by rw[hs2];rfl)))
 obtain⟨i,j,e,⟨q1,q2,q3,q4⟩,q⟩:=q1
 subst e
 cases r1 with
 | cons r rr =>
  cases rr with
  | cons r' rr =>
   cases rr
   obtain⟨t,rfl⟩:=r
   obtain⟨t',rfl⟩:=r'
   exact call_range_2 (Uq I1 q1 q2 q3 q4 q)
noncomputable def qhl (wi:TI) (g:TG) (tb:TS):TS:=fun D σ H=>wi σ H fun J H1=>∃ W:Nat->Nat->St->Hp->Prop,(∃ m,W 0 m σ H1)/\∀ i m σ H,W i m σ H ->
 (J.stop i H/\D.nx σ H)\/(J.go i H/\∃ N:St->Hp->Prop,(∀ σ' H',N σ' H'->∃ m',m'<m/\W (i+1) m' σ' H')/\∀ x H',J.yld i H x H'->g x σ H' fun σ2 H2=>tb {D with nx:=N,ct:=N,bk:=D.nx} σ2 H2)
noncomputable def WE (fp:List Addr) (h:Heap):List (Addr × Obj):=fp.filterMap fun b=>(h.get? b).map fun o=>(b,o)
theorem jz {fp:List Addr}{h:Heap}{b:Addr}{o:Obj} (hb:b∈fp) (e:h.get? b=some o):(b,o)∈WE fp h:=List.mem_filterMap.mpr ⟨b,hb,by rw[e];rfl⟩
theorem qaU {fp:List Addr}{h:Heap}{p:Addr × Obj} (hp:p∈WE fp h):p.1∈fp/\h.get? p.1=some p.2:=by
 obtain⟨b,hb,e⟩:=List.mem_filterMap.mp hp
 cases q:h.get? b with
 | none=>rw[q] at e;cases e
 | some o =>
  rw[q] at e
  have e':(b,o)=p:=Option.some.inj e
  subst e'
  exact⟨hb,q⟩
theorem Inv.pinned {pins:List (Addr × Obj)}{σ:St}{H:Hp}{s:Shared}{fp:List Addr} (I:Inv X pins σ H s) (hf:∀ b∈fp,Qk X pins H b) (ho:∀ b∈fp,∃ o,s.heap.get? b=some o/\∀ v,o.data ≠ .cell v):Inv X (pins++WE fp s.heap) σ H s :=
 I.qat fun p hp=>(List.mem_append.mp hp).elim (fun z=>I.pin p (List.mem_append_right _ z)) fun z=>by
  obtain⟨hb,e⟩:=qaU z
  obtain⟨f0,f1,f2,_⟩:=hf p.1 hb
  obtain⟨o,e',d⟩:=ho p.1 hb
  rw[e] at e';cases e'
  exact⟨e,f0,f1,f2,d⟩
theorem Inv.j7 {pins pl:List (Addr × Obj)}{σ:St}{H:Hp}{s:Shared} (I:Inv X (pins++pl) σ H s):Inv X pins σ H s:=I.qat fun p hp=>I.pin p (List.mem_append_right _ (List.mem_append_left _ hp))
theorem qcL {iter:Expr}{body:List Stmt}{wi:TI}{g:TG}{tb:TS}{pos:Pos} (hp:PassesOwn (model X.prog X.w) X.A X.env X.xe) (hc:X.calm=true) (hi:PI X tg iter wi) (hg:PG X tg g) (hb:PSs X body tb)
  (hs:autoParam (∀ x,foldedSetIterable iter X.env x=pure x) xI._auto_1):PS X (.For tg iter body [] pos) (qhl wi g tb):=by
 intro pins s σ H D I h
 refine wpAny_For (thn (hi pins s σ H _ I h) fun v s1 h1=>thn h1 fun itv s2 h2=>?_) hs
 obtain⟨it,fp,tn,J,H2,e,I2,T,st2,f2,W,⟨m0,w0⟩,turn⟩:=h2
 subst e
 -- what stays true of the iterator's objects through the loop
 have stat:∀ {H':Hp},(∀ b∈fp,H' b=none)->∀ b∈fp,Qk X pins H' b:=fun hn b hb=>⟨hn b hb,(f2 b hb).2⟩
 refine codeAny_forLoop_any (fun n s'=>∃ i σ' H',Inv X pins σ' H' s'/\tn i s'.heap/\(∀ b∈fp,H' b=none)/\W i n σ' H') ?_ m0 ⟨0,σ,H2,I2,st2,fun b hb=>(f2 b hb).1,w0⟩
 rintro n s3 ⟨i,σ3,H3,I3,st3,fr3,w3⟩
 rcases turn i n σ3 H3 w3 with ⟨stop,qn⟩ | ⟨go,N,hN,step⟩
 ·refine wpAny_passesOwn hp (thn (T.done X rfl rfl rfl hc i pins s3 σ3 H3 X.xe I3 (stat fr3) st3 stop) fun r s4 ⟨hr,I4⟩=>?_)
  subst hr
  exact wpAny_execs_nil ⟨σ3,H3,I4,qn⟩
 ·refine wpAny_passesOwn hp (thn (T.item X rfl rfl rfl hc i pins s3 σ3 H3 X.xe I3 (stat fr3) st3 go) fun r s4 ⟨u,hr,h4⟩=>?_)
  subst hr
  refine wpAny_passesOwn hp (thn h4 fun _ s5 ⟨x,H5,I5,r5,y5,st5,fr5⟩=>?_)
  have I5':=I5.pinned (stat fr5) (T.obj _ _ st5)
  refine wpAny_passesOwn hp (thn (hg _ s5 σ3 H5 x u _ I5' r5 (step x H5 y5)) fun _ s6 ⟨σ6,H6,I6,q6⟩=>?_)
  refine wpAny_passesOwn hp (thn (hb _ s6 σ6 H6 _ I6 q6) fun f s7 q7=>?_)
  have again:∀ {σ7:St}{H7:Hp},Inv X (pins++WE fp s5.heap) σ7 H7 s7->N σ7 H7->∃ m,m<n/\∃ i σ' H',Inv X pins σ' H' s7/\tn i s7.heap/\(∀ b∈fp,H' b=none)/\W i m σ' H':=fun {σ7 H7} I7 n7=>by
   obtain⟨m',hm,w7⟩:=hN σ7 H7 n7
   refine⟨m',hm,i+1,σ7,H7,I7.j7,T.keep _ _ _ st5 fun b hb o e=>(I7.pin (b,o) (List.mem_append_right _ (List.mem_append_right _ (jz hb e)))).1,fun b hb=>?_,w7⟩
   obtain⟨o,e,d⟩:=T.obj _ _ st5 b hb
   exact (I7.pin (b,o) (List.mem_append_right _ (List.mem_append_right _ (jz hb e)))).2.1
  cases f with
  | next=>obtain⟨σ7,H7,I7,n7⟩:=q7;exact again I7 n7
  | cont=>obtain⟨σ7,H7,I7,n7⟩:=q7;exact again I7 n7
  | brk=>obtain⟨σ7,H7,I7,q7⟩:=q7;exact⟨σ7,H7,I7.j7,q7⟩
  | ret v=>obtain⟨x7,σ7,H7,I7,r7,q7⟩:=q7;exact⟨x7,σ7,H7,I7.j7,r7,q7⟩
end
noncomputable abbrev R2:=V->V->Hp->VK->Prop
noncomputable def OpR (X:Cx) (f:Value->Value->Sem Value) (r:R2):Prop :=
 ∀ (pins:List (Addr × Obj)) (s:Shared) (σ:St) (H:Hp) (x y:V) (v u:Value) (Q:VK),Inv X pins σ H s->RelV x v->RelV y u->r x y H Q ->
  wpAny (model X.prog X.w) X.A (f v u) (EP X pins σ Q) X.xe s
noncomputable def UnR (X:Cx) (f:Value->Sem Value) (r:V->Hp->VK->Prop):Prop :=
 ∀ (pins:List (Addr × Obj)) (s:Shared) (σ:St) (H:Hp) (x:V) (v:Value) (Q:VK),Inv X pins σ H s->RelV x v->r x H Q ->
  wpAny (model X.prog X.w) X.A (f v) (EP X pins σ Q) X.xe s
noncomputable def WU (X:Cx) (f:Value) (r:List V->Hp->VK->Prop):Prop :=
 ∀ (pins:List (Addr × Obj)) (s:Shared) (σ:St) (H:Hp) (xs:List V) (us:List Value) (Q:VK),Inv X pins σ H s->Vals xs us->r xs H Q ->
  wpAny (model X.prog X.w) X.A (call f us) (EP X pins σ Q) X.xe s
noncomputable def tOp (r:R2) (ta tb:TE):TE:=fun σ H Q=>ta σ H fun x H1=>tb σ H1 fun y H2=>r x y H2 Q
noncomputable def tUn (r:V->Hp->VK->Prop) (ta:TE):TE:=fun σ H Q=>ta σ H fun x H1=>r x H1 Q
noncomputable def rI (C:Int->Int->Prop) (g:Int->Int->V):R2:=fun x y H Q=>∃ i j,x = .int i/\y = .int j/\C i j/\Q (g i j) H
noncomputable def rI0 (g:Int->Int->V):R2:=fun x y H Q=>∃ i j,x = .int i/\y = .int j/\Q (g i j) H
noncomputable def rU (g:Int->V):V->Hp->VK->Prop:=fun x H Q=>∃ i,x = .int i/\Q (g i) H
section
variable {X:Cx}{a b c:Expr}{ta tb tc:TE}{pos:Pos}
theorem qf8 (ha:PE X a ta) (hb:PE X b tb) {pins:List (Addr × Obj)}{s:Shared}{σ:St}{H:Hp}{R:V->V->Hp->Prop} (I:Inv X pins σ H s)
  (h:ta σ H fun x H1=>tb σ H1 fun y H2=>R x y H2) {Q:Value->Shared->Prop}{f:Value->Value->Sem Value}
  (hf:∀ v u s2 x y H2,Inv X pins σ H2 s2->RelV x v->RelV y u->R x y H2->wpAny (model X.prog X.w) X.A (f v u) Q X.xe s2) :
  wpAny (model X.prog X.w) X.A (eval a X.env) (fun v s₁=>wpAny (model X.prog X.w) X.A (eval b X.env) (fun u s₂=>wpAny (model X.prog X.w) X.A (f v u) Q X.xe s₂) X.xe s₁) X.xe s:=by
 refine thn (ha pins s σ H _ I h) fun v s1 ⟨x,H1,I1,r1,q1⟩=>?_
 refine thn (hb pins s1 σ H1 _ I1 q1) fun u s2 ⟨y,H2,I2,r2,q2⟩=>?_
 exact hf v u s2 x y H2 I2 r1 r2 q2
theorem qe8 {op:Operator}{r:R2} (ho:OpR X (binaryOp op) r) (ha:PE X a ta) (hb:PE X b tb):PE X (.BinOp a op b pos) (tOp r ta tb):=by
 intro pins s σ H Q I h
 exact wpAny_BinOp (qf8 ha hb I h fun v u s2 x y H2 I2 rx ry q=>ho pins s2 σ H2 x y v u Q I2 rx ry q)
theorem qe6 {op:UnaryOp}{r:V->Hp->VK->Prop} (ho:UnR X (unaryOp op) r) (ha:PE X a ta):PE X (.UnaryOp op a pos) (tUn r ta):=by
 intro pins s σ H Q I h
 exact UnaryOp_ (thn (ha pins s σ H _ I h) fun v s1 ⟨x,H1,I1,r1,q1⟩=>ho pins s1 σ H1 x v Q I1 r1 q1)
theorem opI {f:Value->Value->Sem Value}{C:Int->Int->Prop}{g:Int->Int->Int}
  (rule:∀ (i j:Int) (t u:Tok) (s:Shared) (Q:Value->Shared->Prop) (E:Value->Shared->Prop),C i j->Q (.int (g i j) s.toks) {s with toks:=s.toks+1}->wpAny (model X.prog X.w) X.A (f (.int i t) (.int j u)) Q E s) :
  OpR X f (rI C fun i j=>.int (g i j)):=by
 intro pins s σ H x y v u Q I rx ry h
 obtain⟨i,j,rfl,rfl,hc,q⟩:=h
 obtain⟨t,rfl⟩:=rx
 obtain⟨t',rfl⟩:=ry
 exact rule i j t t' s _ _ hc ⟨.int (g i j),H,I.tok _,⟨_,rfl⟩,q⟩
theorem qeT {f:Value->Value->Sem Value}{g:Int->Int->Int}
  (rule:∀ (i j:Int) (t u:Tok) (s:Shared) (Q:Value->Shared->Prop) (E:Value->Shared->Prop),Q (.int (g i j) s.toks) {s with toks:=s.toks+1}->wpAny (model X.prog X.w) X.A (f (.int i t) (.int j u)) Q E s) :
  OpR X f (rI0 fun i j=>.int (g i j)):=by
 intro pins s σ H x y v u Q I rx ry h
 obtain⟨i,j,rfl,rfl,q⟩:=h
 obtain⟨t,rfl⟩:=rx
 obtain⟨t',rfl⟩:=ry
 exact rule i j t t' s _ _ ⟨.int (g i j),H,I.tok _,⟨_,rfl⟩,q⟩
theorem qen {f:Value->Value->Sem Value}{g:Int->Int->Bool}
  (rule:∀ (i j:Int) (t u:Tok) (s:Shared) (Q:Value->Shared->Prop) (E:Value->Shared->Prop),Q (.bool (g i j)) s->wpAny (model X.prog X.w) X.A (f (.int i t) (.int j u)) Q E s) :
  OpR X f (rI0 fun i j=>.bl (g i j)):=by
 intro pins s σ H x y v u Q I rx ry h
 obtain⟨i,j,rfl,rfl,q⟩:=h
 obtain⟨t,rfl⟩:=rx
 obtain⟨t',rfl⟩:=ry
 exact rule i j t t' s _ _ ⟨.bl (g i j),H,I,rfl,q⟩
theorem Jv (k:Nat):(0:Int) <= 2^k:=by
 rw[two_pow_cast]
 exact Int.natCast_nonneg _
theorem qgb:OpR X (binaryOp .Add) (rI0 fun i j=>.int (i+j)):=qeT fun _ _ _ _ _ _ _ q=>add_int q
theorem wL:OpR X (binaryOp .Sub) (rI0 fun i j=>.int (i-j)):=qeT fun _ _ _ _ _ _ _ q=>sub_int q
theorem JR:OpR X (binaryOp .Mod) (rI (fun _ j=>0<j) fun i j=>.int (i%j)):=opI fun i j _ _ _ _ _ hc q=>by
 have h1:(0:Int)<j:=hc
 exact mod_int' (by lia) (by rw[Int.fmod_eq_emod_of_nonneg i (by lia)];exact q)
theorem Jn:OpR X (binaryOp .RShift) (rI (fun _ j=>0 <= j) fun i j=>.int (i / 2^j.toNat)):=opI fun i j _ _ _ _ _ hc q =>
 rshift_int hc (by rw[Int.fdiv_eq_ediv_of_nonneg i (Jv _)];exact q)
theorem UL:OpR X (binaryOp .BitAnd) (rI0 fun i j=>.int (Builtin.bitAnd i j)):=qeT fun _ _ _ _ _ _ _ q=>and_int q
theorem UB:OpR X (binaryOp .BitXor) (rI0 fun i j=>.int (Builtin.bitXor i j)):=qeT fun _ _ _ _ _ _ _ q=>xor_int q
theorem unI {f:Value->Sem Value}{g:Int->Int}
  (rule:∀ (i:Int) (t:Tok) (s:Shared) (Q:Value->Shared->Prop) (E:Value->Shared->Prop),Q (.int (g i) s.toks) {s with toks:=s.toks+1}->wpAny (model X.prog X.w) X.A (f (.int i t)) Q E s) :
  UnR X f (rU fun i=>.int (g i)):=by
 intro pins s σ H x v Q I rx h
 obtain⟨i,rfl,q⟩:=h
 obtain⟨t,rfl⟩:=rx
 exact rule i t s _ _ ⟨.int (g i),H,I.tok _,⟨_,rfl⟩,q⟩
theorem qcO:UnR X (unaryOp .USub) (rU fun i=>.int (-i)):=unI fun _ _ _ _ _ q=>neg_int q
end
noncomputable def qdt:V->V->Bool
 | .non,.non=>true | .non,.int _=>true | .int _,.non=>true | .non,.bl _=>true | .bl _,.non=>true | .non,.str _=>true | .str _,.non=>true
 | .int _,.int _=>true | .bl _,.bl _=>true | .str _,.str _=>true | .byt _,.byt _=>true
 | .int _,.str _=>true | .str _,.int _=>true | .bl _,.str _=>true | .str _,.bl _=>true
 | _,_=>false
noncomputable def rEq:R2:=fun x y H Q=>qdt x y=true/\Q (.bl (decide (x=y))) H
noncomputable def rNe:R2:=fun x y H Q=>qdt x y=true/\Q (.bl (!decide (x=y))) H
theorem Q4 {i j:Int}:decide (V.int i=V.int j)=(i==j):=by
 rw[Bool.eq_iff_iff]
 simp
theorem Yv {i j:Bool}:decide (V.bl i=V.bl j)=(i==j):=by
 rw[Bool.eq_iff_iff]
 simp
theorem J0 {i j:Str}:decide (V.str i=V.str j)=(i==j):=by
 rw[Bool.eq_iff_iff]
 simp
theorem JU {i j:Array UInt8}:decide (V.byt i=V.byt j)=(i.toList==j.toList):=by
 rw[Bool.eq_iff_iff]
 cases i
 cases j
 simp
section
variable {X:Cx}{a b c:Expr}{ta tb tc:TE}{pos:Pos}
theorem vt {pins:List (Addr × Obj)}{σ:St}{H:Hp}{s:Shared}{Q:VK}{k k':Bool} (I:Inv X pins σ H s) (q:Q (.bl k) H) (e:k=k'):EP X pins σ Q (.bool k') s:=by
 subst e
 exact⟨.bl k,H,I,rfl,q⟩
theorem qgO:OpR X (compareOp .Eq) rEq:=by
 intro pins s σ H x y v u Q I rx ry h
 obtain⟨hs,q⟩:=h
 cases x with
 | non =>
  cases rx
  cases y with
  | non=>cases ry;exact PySem.EqNone.eq_none_none (vt I q (by simp))
  | bl j=>cases ry;exact PySem.EqNone.eq_none_bool (vt I q (by simp))
  | int j=>obtain⟨t',rfl⟩:=ry;exact PySem.EqNone.eq_none_int (vt I q (by simp))
  | str j=>obtain⟨t',rfl⟩:=ry;exact PySem.EqNone.eq_none_str (vt I q (by simp))
  | _=>exact absurd (show false=true from hs) Bool.false_ne_true
 | bl i =>
  cases rx
  cases y with
  | non=>cases ry;exact PySem.EqNone.eq_bool_none (vt I q (by simp))
  | bl j=>cases ry;exact eq_bool (vt I q Yv)
  | str j=>obtain⟨t',rfl⟩:=ry;exact PySem.EqMixed.eq_bool_str (vt I q (by simp))
  | _=>exact absurd (show false=true from hs) Bool.false_ne_true
 | int i =>
  obtain⟨t,rfl⟩:=rx
  cases y with
  | non=>cases ry;exact PySem.EqNone.eq_int_none (vt I q (by simp))
  | int j=>obtain⟨t',rfl⟩:=ry;exact eq_int (vt I q Q4)
  | str j=>obtain⟨t',rfl⟩:=ry;exact PySem.EqMixed.eq_int_str (vt I q (by simp))
  | _=>exact absurd (show false=true from hs) Bool.false_ne_true
 | str i =>
  obtain⟨t,rfl⟩:=rx
  cases y with
  | non=>cases ry;exact PySem.EqNone.eq_str_none (vt I q (by simp))
  | bl j=>cases ry;exact PySem.EqMixed.eq_str_bool (vt I q (by simp))
  | int j=>obtain⟨t',rfl⟩:=ry;exact PySem.EqMixed.eq_str_int (vt I q (by simp))
  | str j=>obtain⟨t',rfl⟩:=ry;exact eq_str (vt I q J0)
  | _=>exact absurd (show false=true from hs) Bool.false_ne_true
 | byt i =>
  obtain⟨t,rfl⟩:=rx
  cases y with
  | byt j=>obtain⟨t',rfl⟩:=ry;exact PySem.W.eq_bytes (vt I q JU)
  | _=>exact absurd (show false=true from hs) Bool.false_ne_true
 | _=>cases y <;> exact absurd (show false=true from hs) Bool.false_ne_true
theorem qgC:OpR X (compareOp .NotEq) rNe:=by
 intro pins s σ H x y v u Q I rx ry h
 obtain⟨hs,q⟩:=h
 cases x with
 | non =>
  cases rx
  cases y with
  | non=>cases ry;exact PySem.EqNone.ne_none_none (vt I q (by simp))
  | bl j=>cases ry;exact PySem.EqNone.ne_none_bool (vt I q (by simp))
  | int j=>obtain⟨t',rfl⟩:=ry;exact PySem.EqNone.ne_none_int (vt I q (by simp))
  | str j=>obtain⟨t',rfl⟩:=ry;exact PySem.EqNone.ne_none_str (vt I q (by simp))
  | _=>exact absurd (show false=true from hs) Bool.false_ne_true
 | bl i =>
  cases rx
  cases y with
  | non=>cases ry;exact PySem.EqNone.ne_bool_none (vt I q (by simp))
  | bl j=>cases ry;exact ne_bool (vt I q (congrArg not Yv))
  | str j=>obtain⟨t',rfl⟩:=ry;exact PySem.EqMixed.ne_bool_str (vt I q (by simp))
  | _=>exact absurd (show false=true from hs) Bool.false_ne_true
 | int i =>
  obtain⟨t,rfl⟩:=rx
  cases y with
  | non=>cases ry;exact PySem.EqNone.ne_int_none (vt I q (by simp))
  | int j=>obtain⟨t',rfl⟩:=ry;exact ne_int (vt I q (congrArg not Q4))
  | str j=>obtain⟨t',rfl⟩:=ry;exact PySem.EqMixed.ne_int_str (vt I q (by simp))
  | _=>exact absurd (show false=true from hs) Bool.false_ne_true
 | str i =>
  obtain⟨t,rfl⟩:=rx
  cases y with
  | non=>cases ry;exact PySem.EqNone.ne_str_none (vt I q (by simp))
  | bl j=>cases ry;exact PySem.EqMixed.ne_str_bool (vt I q (by simp))
  | int j=>obtain⟨t',rfl⟩:=ry;exact PySem.EqMixed.ne_str_int (vt I q (by simp))
  | str j=>obtain⟨t',rfl⟩:=ry;exact ne_str (vt I q (congrArg not J0))
  | _=>exact absurd (show false=true from hs) Bool.false_ne_true
 | byt i =>
  obtain⟨t,rfl⟩:=rx
  cases y with
  | byt j=>obtain⟨t',rfl⟩:=ry;exact PySem.W.ne_bytes (vt I q (congrArg not JU))
  | _=>exact absurd (show false=true from hs) Bool.false_ne_true
 | _=>cases y <;> exact absurd (show false=true from hs) Bool.false_ne_true
theorem Xp:OpR X (compareOp .Lt) (rI0 fun i j=>.bl (decide (i<j))):=qen fun _ _ _ _ _ _ _ q=>lt_int q
theorem qgA:OpR X (compareOp .LtE) (rI0 fun i j=>.bl (decide (i <= j))):=qen fun _ _ _ _ _ _ _ q=>le_int q
theorem qeZ:OpR X (compareOp .Gt) (rI0 fun i j=>.bl (decide (j<i))):=qen fun _ _ _ _ _ _ _ q=>gt_int q
theorem qhh:OpR X (compareOp .GtE) (rI0 fun i j=>.bl (decide (j <= i))):=qen fun _ _ _ _ _ _ _ q=>ge_int q
theorem OpR.or {f:Value->Value->Sem Value}{r r':R2} (h:OpR X f r) (h':OpR X f r'):OpR X f (fun x y H Q=>r x y H Q\/r' x y H Q):=by
 intro pins s σ H x y v u Q I rx ry q
 rcases q with q | q
 ·exact h pins s σ H x y v u Q I rx ry q
 ·exact h' pins s σ H x y v u Q I rx ry q
theorem wy (b:Expr) {op:CmpOp} (h:autoParam (op ≠ .In) vd._auto_1) (h2:autoParam (op ≠ .NotIn) vd._auto_1):behindInMarks op b=false:=by
 have e1:(op==CmpOp.In)=false:=by cases op <;> first | rfl | exact absurd rfl h
 have e2:(op==CmpOp.NotIn)=false:=by cases op <;> first | rfl | exact absurd rfl h2
 cases b <;> simp [behindInMarks,e1,e2]
theorem qd1 {op:CmpOp}{r:R2} (ho:OpR X (compareOp op) r) (ha:PE X a ta) (hb:PE X b tb) (hm:behindInMarks op b=false):PE X (.Compare a [op] [b] pos) (tOp r ta tb):=by
 intro pins s σ H Q I h
 exact wpAny_Compare1 (qf8 ha hb I h fun v u s2 x y H2 I2 rx ry q=>ho pins s2 σ H2 x y v u Q I2 rx ry q) hm
noncomputable def qgZ (t:TE):TT:=fun σ H Q=>t σ H fun x H'=>∃ k,x = .bl k/\Q k H'
theorem qdw {op:CmpOp}{r:R2} (ho:OpR X (compareOp op) r) (ha:PE X a ta) (hb:PE X b tb) (hm:behindInMarks op b=false):PT X (.Compare a [op] [b] pos) (qgZ (tOp r ta tb)):=by
 intro pins s σ H Q I h
 refine wpAny_isTrue_Compare1 (thn (ha pins s σ H _ I h) fun v s1 ⟨x,H1,I1,r1,q1⟩=>thn (hb pins s1 σ H1 _ I1 q1) fun u s2 ⟨y,H2,I2,r2,q2⟩ =>
  thn (ho pins s2 σ H2 x y v u _ I2 r1 r2 q2) fun c s3 ⟨z,H3,I3,r3,k,e,q3⟩=>?_) hm
 subst e
 cases r3
 exact wpAny_truthy_bool ⟨H3,I3,q3⟩
theorem YZ:(sizeLine:Nat)<2^63:=by rw[sizeLine_eq];decide
theorem vals1 {x:V}{us:List Value} (r:Vals [x] us):∃ u,us=[u]/\RelV x u:=by
 cases r with
 | cons r1 r2=>cases r2;exact⟨_,rfl,r1⟩
theorem vals2 {x y:V}{us:List Value} (r:Vals [x,y] us):∃ u w',us=[u,w']/\RelV x u/\RelV y w':=by
 cases r with
 | cons r1 r2 =>
  cases r2 with
  | cons r3 r4=>cases r4;exact⟨_,_,rfl,r1,r3⟩
theorem qcf:WU X (.builtin "abs") (fun xs H Q=>∃ i,xs=[.int i]/\Q (.int (if i<0 then -i else i)) H):=by
 intro pins s σ H xs us Q I r h
 obtain⟨i,rfl,q⟩:=h
 obtain⟨u,rfl,t,rfl⟩:=vals1 r
 exact call_abs_int fun u tk=>⟨.int (if i<0 then -i else i),H,I.tok _,⟨_,rfl⟩,q⟩
theorem ZJ (hc:X.calm=true):WU X (.builtin "max") (fun xs H Q=>∃ i j,xs=[.int i,.int j]/\Q (.int (if j>i then j else i)) H):=by
 intro pins s σ H xs us Q I r h
 obtain⟨i,j,rfl,q⟩:=h
 obtain⟨u,w',rfl,⟨t,rfl⟩,⟨t',rfl⟩⟩:=vals2 r
 refine max_two_ints (I.ok.hd hc) fun h' tk k=>⟨_,H,I.kept k,?_,q⟩
 by_cases hj:j>i
 ·rw[if_pos hj,if_pos hj];exact⟨_,rfl⟩
 ·rw[if_neg hj,if_neg hj];exact⟨_,rfl⟩
theorem qbr (hc:X.calm=true):WU X (.builtin "min") (fun xs H Q=>∃ i j,xs=[.int i,.int j]/\Q (.int (if j<i then j else i)) H):=by
 intro pins s σ H xs us Q I r h
 obtain⟨i,j,rfl,q⟩:=h
 obtain⟨u,w',rfl,⟨t,rfl⟩,⟨t',rfl⟩⟩:=vals2 r
 refine min_two_ints (I.ok.hd hc) fun h' tk k=>⟨_,H,I.kept k,?_,q⟩
 by_cases hj:j<i
 ·rw[if_pos hj,if_pos hj];exact⟨_,rfl⟩
 ·rw[if_neg hj,if_neg hj];exact⟨_,rfl⟩
end
structure qaN (h:Heap) (x dx C:Addr) (mA:Str->Option Value):Prop where
 obj:h.get? x=some (PySem.W.instObj C dx)
 ns:h.Ns1 dx mA
 ne:dx≠x
theorem qaT {h:Heap}{dx:Addr}{mA:Str->Option Value} (n:h.Ns1 dx mA):∃ od,h.get? dx=some od/\∀ name,PySem.W.lookIn name od=some (mA name):=by
 obtain⟨o,es,ep,ho,hd,hk,_,hm⟩:=n
 refine⟨o,ho,fun name=>?_⟩
 have e:=hm name
 unfold nsFind findBy at e
 rw[<- Array.find?_toList] at e
 unfold PySem.W.lookIn
 rw[hd]
 dsimp only
 split
 ·rename_i y q
  rw[q] at e
  exact congrArg some e
 ·rename_i q
  rw[q] at e
  have a:es.toList.any (·.refKey)=false:=by
   rw[List.any_eq_false]
   intro y hy
   obtain⟨z,t,hkey⟩:=hk y (Array.mem_toList_iff.mp hy)
   simp [DictEntry.refKey,hkey]
  have a':¬ es.toList.any (·.refKey)=true:=by rw[a];exact Bool.false_ne_true
  rw[if_neg a']
  exact congrArg some e
theorem qaN.look {h:Heap}{x dx C:Addr}{mA:Str->Option Value} (I:qaN h x dx C mA):∃ od,PySem.W.InstAt h x (PySem.W.instObj C dx) C (some od)/\∀ name,PySem.W.lookIn name od=some (mA name) :=
 let ⟨od,ho,hl⟩:=qaT I.ns
 ⟨od,⟨I.obj,rfl,rfl,ho⟩,hl⟩
section
variable {prog:Program}{w:World}{A:Around}{E:Value->Shared->Prop}{s:Shared}{K:PySem.W.Frag}{x dx C f:Addr}{mA:Str->Option Value}{name:Str}{v:Value}
theorem get_map {expr:Bool}{Q:Value->Shared->Prop} (X:K.In s.heap) (I:qaN s.heap x dx C mA) (hg:PySem.W.plainGet K C name=true) (hh:PySem.W.hasDictIn K C=true)
  (ha:PySem.W.findIn K (.ref C) name=some none) (hv:mA name=some v) (hv':PySem.W.handedIn v=true) (h:Q v {s with toks:=s.toks+1}) :
  wpAny (model prog w) A (getAttr (.ref x) name expr) Q E s:=by
 obtain⟨od,J,hl⟩:=I.look
 exact PySem.W.get_value X J (PySem.W.plainGet_of hg).1 (PySem.W.findObj_own hh ha rfl (by rw[hl,hv])) hv' h
theorem qeP {ns:List Str}{Q:Unit->Shared->Prop} (X:K.In s.heap) (I:qaN s.heap x dx C mA)
  (hs:PySem.W.findIn K (.ref C) "__setattr__"=some (some (.builtin "object.__setattr__"))) (hp:PySem.W.plainOver K C=true) (ht:PySem.W.takerIn K C name=some none) (hh:PySem.W.hasDictIn K C=true)
  (hw:PySem.Within mA ns) (hsz:ns.length <= sizeLine)
  (h:∀ h',qaN h' x dx C (fun y=>if y=name then some v else mA y)->Heap.SameBut dx s.heap h'->Q () {s with heap:=h',toks:=s.toks+2}) :
  wpAny (model prog w) A (setAttr (.ref x) name v) Q E s:=by
 obtain⟨od,J,hl⟩:=I.look
 refine PySem.W.set_plain X J hs (PySem.W.osa_open (s:={s with toks:=s.toks+1}) (r:=none) X J hp ht fun b=>?_)
 obtain⟨cd,hc,hd'⟩:=PySem.W.any_some hh
 have hx:s.heap.get? x=some ⟨.ref C,some dx,.plain,#[]⟩:=I.obj
 refine wpAny_bind (wpAny_pure (wpAny_bind (wpAny_bind (wpAny_loadPart hx (wpAny_bind (PySem.W.Looks.here (s:={s with toks:=s.toks+1}) (PySem.W.looks_clsIn X hc) ?_))))))
 rw[hd']
 refine wpAny_pure (a:=some dx) (wpAny_bind (wpAny_pure (wpAny_bind ?_)))
 refine wpAny_nsSet1 (s:={s with toks:=s.toks+1}) I.ns fun h' hn2 hs2=>?_
 obtain⟨oD,esD,epD,hoD,hdD,hcD⟩:=hn2.count (PySem.Within.cons name v hw)
 refine wpAny_bind (wpAny_lookBehind hoD (by rw[hdD];exact pastItsLine_dict (Nat.le_trans hcD (by rw[List.length_cons];lia))) ?_)
 exact wpAny_pure (h _ ⟨(hs2.2 _ (Ne.symm I.ne)).trans I.obj,hn2,I.ne⟩ hs2)
theorem qb6 {R:Result->Shared->Prop}{vs:List Value}{kw:List (Str × Value)} (X:K.In s.heap) (hm:PySem.W.makesIn K C=true)
  (hi:PySem.W.findIn K (.ref C) "__init__"=some (some (.ref f))) (hf:PySem.W.typeIn K (.ref f)=some (.type "function"))
  (h:codeAny (model prog w) (A.under (.builtin "type.__call__" ⟨.ref C::vs,kw⟩)) (.call (.ref f) ⟨.ref (s.heap.objs.size+1)::vs,kw⟩) (PySem.W.InitBack (s.heap.objs.size+1) R)
   {s with heap:=(s.heap.push PySem.W.emptyDict).push (PySem.W.instObj C s.heap.objs.size)}) :
  codeAny (model prog w) A (.call (.ref C) ⟨vs,kw⟩) R s:=by
 obtain⟨hh,g,d,t,os⟩:=s
 exact PySem.W.make_core (PySem.W.makes_of X hm) (PySem.W.looks_findIn X hi) (fun self=>PySem.W.bind_fn X self hf) (.inl rfl) h
end
noncomputable def y9 (f:Str) (v:V):List (Str × V)->List (Str × V)
 | []=>[(f,v)]
 | (g,x)::r=>if g=f then (g,v)::r else (g,x)::y9 f v r
theorem QE (f g:Str) (v:V):∀ fs:List (Str × V),(y9 f v fs).lookup g=if g=f then some v else fs.lookup g
 | []=>by
  show List.lookup g [(f,v)]=_
  by_cases h:g=f
  ·have hb:(g==f)=true:=beq_iff_eq.mpr h
   simp only[List.lookup,hb,if_pos h]
  ·have hb:(g==f)=false:=beq_eq_false_iff_ne.mpr h
   simp only[List.lookup,hb,if_neg h]
 | (k,x)::r=>by
  have ih:=QE f g v r
  rw[show y9 f v ((k,x)::r)=(if k=f then (k,v)::r else (k,x)::y9 f v r) from rfl]
  by_cases hk:k=f
  ·rw[if_pos hk]
   by_cases h:g=k
   ·have hb:(g==k)=true:=beq_iff_eq.mpr h
    simp only[List.lookup,hb,if_pos (h.trans hk)]
   ·have hb:(g==k)=false:=beq_eq_false_iff_ne.mpr h
    simp only[List.lookup,hb,if_neg (fun e:g=f=>h (e.trans hk.symm))]
  ·rw[if_neg hk]
   by_cases h:g=k
   ·have hb:(g==k)=true:=beq_iff_eq.mpr h
    simp only[List.lookup,hb,if_neg (fun e:g=f=>hk (h.symm.trans e))]
   ·have hb:(g==k)=false:=beq_eq_false_iff_ne.mpr h
    simp only[List.lookup,hb]
    exact ih
theorem Qw (f:Str) (v:V):∀ fs:List (Str × V),f∈(y9 f v fs).map (·.1)/\∀ g,g∈fs.map (·.1)->g∈(y9 f v fs).map (·.1)
 | []=>⟨by simp [y9],fun g h=>by simp at h⟩
 | (k,x)::r=>by
  obtain⟨i1,i2⟩:=Qw f v r
  rw[show y9 f v ((k,x)::r)=(if k=f then (k,v)::r else (k,x)::y9 f v r) from rfl]
  by_cases hk:k=f
  ·rw[if_pos hk]
   subst hk
   exact⟨by simp,fun g h=>by simpa using h⟩
  ·rw[if_neg hk]
   refine⟨?_,fun g h=>?_⟩
   ·rw[List.map_cons]
    exact List.mem_cons_of_mem _ i1
   ·rw[List.map_cons] at h ⊢
    rcases List.mem_cons.mp h with e | e
    ·exact List.mem_cons.mpr (.inl e)
    ·exact List.mem_cons_of_mem _ (i2 g e)
theorem QF (f:Str) (v:V):∀ fs:List (Str × V),(y9 f v fs).length <= fs.length+1
 | []=>by simp [y9]
 | (k,x)::r=>by
  have ih:=QF f v r
  rw[show y9 f v ((k,x)::r)=(if k=f then (k,v)::r else (k,x)::y9 f v r) from rfl]
  by_cases hk:k=f
  ·rw[if_pos hk,List.length_cons,List.length_cons];lia
  ·rw[if_neg hk,List.length_cons,List.length_cons];lia
theorem JO.some_of {v:V}{o:Option Value} (r:JO (some v) o):∃ u,o=some u/\RelV v u:=by
 cases o with
 | none=>exact (show False from r).elim
 | some u=>exact⟨u,rfl,r⟩
theorem qbg {v:V}{u:Value} (r:RelV v u):PySem.W.handedIn u=true:=by
 cases v with
 | non=>cases (show u=Value.none from r);rfl
 | bl b=>cases (show u=Value.bool b from r);rfl
 | int i=>obtain⟨t,e⟩:=(show ∃ t,u=Value.int i t from r);cases e;rfl
 | str x=>obtain⟨t,e⟩:=(show ∃ t,u=Value.str x t from r);cases e;rfl
 | byt b=>obtain⟨t,e⟩:=(show ∃ t,u=Value.bytes b t from r);cases e;rfl
 | flt b=>obtain⟨t,e⟩:=(show ∃ t,u=Value.float b t from r);cases e;rfl
 | ref a=>cases (show u=Value.ref a from r);rfl
 | ty n=>cases (show u=Value.type n from r);rfl
section
variable {P:Program}{w:World}{H H':Hp}{h h':Heap}{a C dx:Addr}{fs fs':List (Str × V)}
theorem J3 (hok:HOk P w H h) (e:H a=some (.ins C dx fs)):∃ mA,qaN h a dx C mA/\(∀ f,JO (fs.lookup f) (mA f))/\PySem.Within mA (fs.map (·.1))/\fs.length <= 1000/\H dx=some (.own a):=by
 obtain⟨d,z,ne,ob,mA,n,r,q⟩:=(show zE P w H h a (.ins C dx fs) from hok a _ e)
 exact⟨mA,⟨ob,n,ne⟩,r,q,z,d⟩
end
structure Cls (K:PySem.W.Frag) (C:Addr):Prop where
 pg:PySem.W.plainGet K C Str.empty=true
 hd:PySem.W.hasDictIn K C=true
 po:PySem.W.plainOver K C=true
 sa:PySem.W.findIn K (.ref C) "__setattr__"=some (some (.builtin "object.__setattr__"))
theorem Cls.get {K:PySem.W.Frag}{C:Addr} (c:Cls K C) (f:Str):PySem.W.plainGet K C f=true:=c.pg
noncomputable def vD (K:PySem.W.Frag) (C:Addr) (f:Str):Prop:=PySem.W.findIn K (.ref C) f=some none
theorem vD.qgB {K:PySem.W.Frag}{C:Addr}{f:Str} (n:vD K C f):PySem.W.takerIn K C f=some none:=by
 unfold PySem.W.takerIn
 rw[show PySem.W.findIn K (.ref C) f=some none from n]
 rfl
section
variable {X:Cx}{pins:List (Addr × Obj)}{σ:St}{H:Hp}{s:Shared}{a C dx:Addr}{fs:List (Str × V)}{f:Str}{v:V}{A:Around}{E:Value->Shared->Prop}
theorem UN {b:Bool}{Q:Value->Shared->Prop} (I:Inv X pins σ H s) (e:H a=some (.ins C dx fs)) (c:Cls X.K C) (n:vD X.K C f) (l:fs.lookup f=some v)
  (h:∀ u s',Inv X pins σ H s'->RelV v u->Q u s'):wpAny (model X.prog X.w) A (getAttr (.ref a) f b) Q E s:=by
 obtain⟨mA,O,r,_,_,_⟩:=J3 I.hok e
 obtain⟨u,hu,ru⟩:=JO.some_of (v:=v) (o:=mA f) (by rw[<- l];exact r f)
 exact get_map I.kIn O (c.get f) c.hd n hu (qbg ru) (h u _ (I.tok _) ru)
theorem Uw {y:V}{u:Value}{Q:Unit->Shared->Prop} (I:Inv X pins σ H s) (e:H a=some (.ins C dx fs)) (c:Cls X.K C) (n:vD X.K C f) (hl:fs.length<1000) (ry:RelV y u)
  (h:∀ s',Inv X pins σ (upd H a (.ins C dx (y9 f y fs))) s'->Q () s'):wpAny (model X.prog X.w) A (setAttr (.ref a) f u) Q E s:=by
 obtain⟨mA,O,r,wi,_,ho⟩:=J3 I.hok e
 have hz:(fs.map (·.1)).length <= sizeLine:=by rw[List.length_map,sizeLine_eq];lia
 refine qeP I.kIn O c.sa c.po n.qgB c.hd wi hz fun h' O' sb=>h _ ?_
 have hd:∃ o,h'.get? dx=some o:=let ⟨o,_,_,e',_⟩:=O'.ns;⟨o,e'⟩
 refine I.write (x:=a) (e:=dx) (by rw[e];exact True.intro) (.inr ho) (fun b q hb z=>(sb.2 b hb).trans z) hd ?_
 refine⟨by rw[qA O.ne];exact ho,?_,O.ne,O'.obj,_,O'.ns,fun g=>?_,fun g hg=>?_⟩
 ·have:=QF f y fs;lia
 ·show JO ((y9 f y fs).lookup g) (if g=f then some u else mA g)
  rw[QE]
  by_cases q:g=f
  ·rw[if_pos q,if_pos q];exact ry
  ·rw[if_neg q,if_neg q];exact r g
 ·by_cases q:g=f
  ·rw[q];exact (Qw f y fs).1
  ·refine (Qw f y fs).2 g (wi g fun z=>hg ?_)
   show (if g=f then some u else mA g)=none
   rw[if_neg q];exact z
theorem Inv.made (I:Inv X pins σ H s):Inv X pins σ (upd (upd H s.heap.objs.size (.own (s.heap.objs.size+1))) (s.heap.objs.size+1) (.ins C s.heap.objs.size []))
  {s with heap:=(s.heap.push PySem.W.emptyDict).push (PySem.W.instObj C s.heap.objs.size)}:=by
 have e1:(s.heap.push PySem.W.emptyDict).get? s.heap.objs.size=some PySem.W.emptyDict:=Heap.get?_push_size s.heap rfl
 have e2:((s.heap.push PySem.W.emptyDict).push (PySem.W.instObj C s.heap.objs.size)).get? (s.heap.objs.size+1)=some (PySem.W.instObj C s.heap.objs.size):=by
  have:=Heap.get?_push_size (s.heap.push PySem.W.emptyDict) (o:=PySem.W.instObj C s.heap.objs.size) rfl
  rwa [Heap.size_push] at this
 have e3:(s.heap.push PySem.W.emptyDict).Ns s.heap.objs.size (fun _=>none):=⟨PySem.W.emptyDict,#[],_,e1,rfl,(fun e he=>absurd he (by simp)),fun _=>rfl⟩
 have I1:=I.laid (a:=s.heap.objs.size) (o:=.own (s.heap.objs.size+1)) (h':=s.heap.push PySem.W.emptyDict) (t':=s.toks) (fun b u q=>Heap.get?_push_of_some _ q) (Nat.le_refl _) ⟨_,e1⟩
 refine I1.laid (a:=s.heap.objs.size+1) (o:=.ins C s.heap.objs.size []) (t':=s.toks) (fun b u q=>Heap.get?_push_of_some _ q) (Nat.le_of_eq (Heap.size_push _ _)) ?_
 have ne:s.heap.objs.size≠s.heap.objs.size+1:=Nat.ne_of_lt (Nat.lt_succ_self _)
 refine⟨by rw[qA ne,qL],Nat.zero_le _,ne,e2,fun _=>none,(Heap.Ns1.of_empty e3).at fun o q=>Heap.get?_push_of_some _ q,fun _=>True.intro,fun y hy=>absurd rfl hy⟩
theorem qd3 {prog:Program}{w:World}{env:Env}{e:Expr}{f:Str}{pos:Pos}{s:Shared}{Q:Value->Shared->Prop} (hb:attributeBase e f env (eval e env)=eval e env)
  (h:wpAny (model prog w) A (eval e env) (fun o s₁=>wpAny (model prog w) A (getAttr o f true) Q E s₁) E s):wpAny (model prog w) A (eval (.Attribute e f pos) env) Q E s :=
 Attribute_any_ h (by rw[arm_eval_Attribute,hb])
end
noncomputable def qhu (K:PySem.W.Frag) (ta:TE) (f:Str):TE:=fun σ H Q=>ta σ H fun x H1=>∃ a C dx fs v,x = .ref a/\H1 a=some (.ins C dx fs)/\Cls K C/\vD K C f/\fs.lookup f=some v/\Q v H1
noncomputable def qhz (K:PySem.W.Frag) (ta tv:TE) (f:Str):TS:=fun D σ H=>tv σ H fun y H1=>ta σ H1 fun x H2=>∃ a C dx fs,x = .ref a/\H2 a=some (.ins C dx fs)/\Cls K C/\vD K C f/\fs.length<1000 /\
 D.nx σ (upd H2 a (.ins C dx (y9 f y fs)))
section
variable {X:Cx}{o e value:Expr}{f:Str}{pos pos' tpos:Pos}{ta tv:TE}
theorem qbU (he:PE X e ta) (hb:attributeBase e f X.env (eval e X.env)=eval e X.env):PE X (.Attribute e f pos) (qhu X.K ta f):=by
 intro pins s σ H Q I h
 refine qd3 hb (thn (he pins s σ H _ I h) fun u s1 ⟨x,H1,I1,rx,a,C,dx,fs,v,ex,ea,c,n,l,q⟩=>?_)
 subst ex
 obtain rfl:u=Value.ref a:=rx
 exact UN I1 ea c n l fun u' s2 I2 ru=>⟨v,H1,I2,ru,q⟩
theorem qbN (ha:PE X o ta) (hv:PE X value tv) (hs:swapsWith value (some (.Attribute o f pos')) pos.line X.env=pure false):PS X (.Assign [.Attribute o f pos'] value pos) (qhz X.K ta tv f):=by
 intro pins s σ H D I h
 refine plainObj_wpAny_Assign_Attribute (thn (hv pins s σ H _ I h) fun u s1 ⟨y,H1,I1,ry,q⟩=>thn (ha pins s1 σ H1 _ I1 q) fun ov s2 ⟨x,H2,I2,rx,a,C,dx,fs,ex,ea,c,n,l,q2⟩=>?_) hs
 subst ex
 obtain rfl:ov=Value.ref a:=rx
 exact Uw I2 ea c n l ry fun s3 I3=>⟨σ,_,I3,q2⟩
end
structure wN (k:Nat) (A:Around):Prop where
 hd:A.handled=none
 dp:A.depth+3*k+5<recursionLimit
 un:A.units+16*k+200<cLine
theorem wN.mono {j k:Nat}{A:Around} (r:wN k A) (h:j <= k):wN j A:=⟨r.hd,by have:=r.dp;lia,by have:=r.un;lia⟩
theorem wN.deeper {k:Nat}{A:Around} (r:wN (k+1) A) (env:Env):wN k (A.deeper env) :=
 ⟨r.hd,by have:=r.dp;show A.depth+1+3*k+5<_;lia,by have:=r.un;show A.units+3+16*k+200<_;lia⟩
theorem JC {A:Around}{C:Addr}{us:List Value}{kw:List (Str × Value)}:(A.under (.builtin "type.__call__" ⟨.ref C::us,kw⟩)).depth=A.depth+1:=by
 first | rfl | simp [Around.under,Code.weight,Code.isCreation,Code.isGuard,Code.isCaller,Code.frames,Code.isFrame,guardIds]
theorem JK {A:Around}{C:Addr}{us:List Value}{kw:List (Str × Value)}:(A.under (.builtin "type.__call__" ⟨.ref C::us,kw⟩)).units=A.units+1:=by
 first | rfl | simp [Around.under,Code.cUnits,Code.frames,Code.isFrame]
theorem wN.make {k:Nat}{A:Around} (r:wN (k+1) A) (C:Addr) (us:List Value) (kw:List (Str × Value)):wN k (A.under (.builtin "type.__call__" ⟨.ref C::us,kw⟩)) :=
 ⟨r.hd,by have:=r.dp;rw[JC];lia,by have:=r.un;rw[JK];lia⟩
theorem wN.depth {k:Nat}{A:Around} (r:wN k A):A.depth<recursionLimit:=by have:=r.dp;lia
theorem wN.units {k:Nat}{A:Around} (r:wN k A):A.units+64<cLine:=by have:=r.un;lia
noncomputable def qeK:TA:=fun _ H Q=>Q [] H
noncomputable def qar (ta:TE) (tr:TA):TA:=fun σ H Q=>ta σ H fun x H1=>tr σ H1 fun xs H2=>Q (x::xs) H2
section
variable {X:Cx}{e:Expr}{es:List Expr}{te:TE}{t:TA}{pos:Pos}
theorem zS:PA X [] qeK:=fun _ _ _ _ H Q I h=>Calls.spliced_nil ⟨[],H,I,.nil,h⟩
theorem vQ (ha:PE X e te) (hr:PA X es t) (hs:autoParam (starEach (e::es) X.env=(false,eval e X.env)::starEach es X.env) qt._auto_1):PA X (e::es) (qar te t):=by
 intro pos pins s σ H Q I h
 rw[hs]
 show wpAny _ _ (spliced ((false,eval e X.env)::backTo pos (starEach es X.env))) _ _ s
 refine Calls.spliced_cons (thn (ha pins s σ H _ I h) fun u s1 ⟨x,H1,I1,r1,q1⟩=>?_)
 exact thn (hr pos pins s1 σ H1 _ I1 q1) fun us s2 ⟨xs,H2,I2,r2,q2⟩=>⟨x::xs,H2,I2,.cons r1 r2,q2⟩
noncomputable def qgU (t:TA):TE:=fun σ H Q=>t σ H fun xs H1=>xs.length <= sizeLine/\∀ p,H1 p=none->Q (.ref p) (upd H1 p (.lst xs))
theorem Xc (h:PA X es t):PE X (.List es pos) (qgU t):=by
 intro pins s σ H Q I hq
 refine wpAny_List_spliced (thn (h pos pins s σ H _ I hq) fun us s1 ⟨xs,H1,I1,r,z,q⟩=>⟨by rw[<- r.length];exact z,?_⟩)
 have hf:H1 s1.heap.objs.size=none:=I1.hok.fresh (Nat.le_refl _)
 refine⟨.ref s1.heap.objs.size,upd H1 s1.heap.objs.size (.lst xs),I1.laid (t':=s1.toks) (fun b u e=>Heap.get?_push_of_some _ e) (Nat.le_refl _) ?_,rfl,q _ hf⟩
 exact⟨z,us,0,r,Heap.get?_push_size _ rfl⟩
end
noncomputable abbrev Sp:=List V->Hp->VK->XK->Prop
noncomputable abbrev CXT:=List Env->Hp->Shared->XK->Value->Shared->Prop
structure Zh (P:Program) (w:World) (K:PySem.W.Frag) (mg:Str->Option Value) (base:Heap) (A:Around) (outer:List Env) (s:Shared) (H:Hp):Prop where
 frames:A.frames=some outer
 mod:Mod K mg base
 bs:∀ b o,base.get? b=some o->s.heap.get? b=some o/\H b=none
 bsz:base.objs.size <= s.heap.objs.size
 ji:s.heap.FunFrames base outer
 frf:∀ b∈frs outer,H b=none
 hok:HOk P w H s.heap
 bare:AllBare s.gens
noncomputable def CE (outer:List Env) (P:Program) (w:World) (H:Hp) (s:Shared) (Q:VK) (u:Value) (s':Shared):Prop :=
 ∃ v H',s'.os=s.os/\AllBare s'.gens/\Un (frs outer) [] H H' s.heap s'.heap/\HOk P w H' s'.heap/\RelV v u/\Q v H'
noncomputable def CR (CX:CXT) (outer:List Env) (P:Program) (w:World) (H:Hp) (s:Shared) (Q:VK) (E:XK) (r:Result) (s':Shared):Prop :=
 match r with
 | .ok (.ret u)=>CE outer P w H s Q u s'
 | .ok _=>False
 | .error e=>CX outer H s E e s'
structure xX (P:Program) (w:World) (K:PySem.W.Frag) (mg:Str->Option Value) (base:Heap) (CX:CXT) (k:Nat) (f:Addr) (fd:FuncData) (ps:List Str) (sp:Sp):Prop where
 len:∀ vs H Q E,sp vs H Q E->vs.length=ps.length
 run:∀ (A:Around) (outer:List Env) (s:Shared) (H:Hp) (args:Args) (us:List Value) (vs:List V) (Q:VK) (E:XK),wN k A->Zh P w K mg base A outer s H->BindsTo s fd args (ps.zip us)->Vals vs us->sp vs H Q E ->
  codeAny (model P w) A (.call (.ref f) args) (CR CX outer P w H s Q E) s
theorem xX.imp {P:Program}{w:World}{K:PySem.W.Frag}{mg:Str->Option Value}{base:Heap}{CX:CXT}{k:Nat}{f:Addr}{fd:FuncData}{ps:List Str}{sp sp':Sp} (F:xX P w K mg base CX k f fd ps sp)
  (h:∀ vs H Q E,sp' vs H Q E->sp vs H Q E):xX P w K mg base CX k f fd ps sp' :=
 ⟨fun vs H Q E q=>F.len vs H Q E (h _ _ _ _ q),fun A outer s H args us vs Q E hr he hb hv hs=>F.run A outer s H args us vs Q E hr he hb hv (h _ _ _ _ hs)⟩
theorem Zh.make {P:Program}{w:World}{K:PySem.W.Frag}{mg:Str->Option Value}{base:Heap}{A:Around}{outer:List Env}{s:Shared}{H:Hp} (e:Zh P w K mg base A outer s H) (C:Addr) (us:List Value) (kw:List (Str × Value)) :
  Zh P w K mg base (A.under (.builtin "type.__call__" ⟨.ref C::us,kw⟩)) outer s H:=⟨by first | exact e.frames | (simpa [Around.under,Code.envs,Code.isFrame,pushEnvs] using e.frames),e.mod,e.bs,e.bsz,e.ji,e.frf,e.hok,e.bare⟩
section
variable {X:Cx}{pins:List (Addr × Obj)}{σ:St}{H:Hp}{s s':Shared}
theorem Inv.qd2 (I:Inv X pins σ H s):Zh X.prog X.w X.K X.mg X.base X.A X.stack s H :=
 ⟨I.ok.frames,I.ok.mod,I.bs,Nat.le_trans I.ok.bsz I.sz,I.stack,I.YX,I.hok,I.bare⟩
theorem Inv.after {Q:VK}{u:Value} (I:Inv X pins σ H s) (h:CE X.stack X.prog X.w H s Q u s'):EP X pins σ Q u s':=by
 obtain⟨v,H',os,bare,un,hok,r,q⟩:=h
 obtain⟨hh,g,d,t,os'⟩:=s'
 obtain rfl:os'=s.os:=os
 exact⟨v,H',I.call (h':=hh) (g':=g) (d':=d) (t':=t) (ch:=[]) un hok bare (fun b z=>absurd z (by simp)),r,q⟩
end
noncomputable def qbM (sp:Sp) (dvs:List V) (E:XK) (t:TA):TE:=fun σ H Q=>t σ H fun vs H1=>sp (vs++dvs) H1 Q E
noncomputable def qg7 (C:Addr) (sp:Sp) (dvs:List V) (E:XK) (t:TA):TE:=fun σ H Q=>t σ H fun vs H1=>∀ x dx,H1 x=none->H1 dx=none->dx≠x ->
 sp (.ref x::(vs++dvs)) (upd (upd H1 dx (.own x)) x (.ins C dx [])) (fun v H2=>v = .non/\Q (.ref x) H2) E
noncomputable def Binds (K:PySem.W.Frag) (fd:FuncData) (ps:List Str) (ds:List Value):Prop :=
 ∀ (s:Shared) (us:List Value),K.In s.heap->(us++ds).length=ps.length->BindsTo s fd ⟨us,[]⟩ (ps.zip (us++ds))
theorem Binds.all {K:PySem.W.Frag}{fd:FuncData}{ps:List Str} (h:∀ us:List Value,us.length=ps.length->bindArgs fd ⟨us,[]⟩=pure (ps.zip us)):Binds K fd ps []:=fun s us _ hl=>by
 rw[List.append_nil] at hl ⊢
 exact .of_eq (h us hl)
noncomputable def Passes (CX:CXT) (X:Cx) (E:XK):Prop:=∀ (pins:List (Addr × Obj)) (σ:St) (H:Hp) (s:Shared) (e:Value) (s':Shared),Inv X pins σ H s->CX X.stack H s E e s'->X.xe e s'
section
variable {X:Cx}{CX:CXT}{k:Nat}{f C:Addr}{fd:FuncData}{ps:List Str}{sp:Sp}{dvs:List V}{ds:List Value}{E:XK}{x m:Str}{p pos apos:Pos}{e o:Expr}{es:List Expr}{ta:TE}{t:TA}
theorem qfQ {pins:List (Addr × Obj)}{σ:St}{H:Hp}{s:Shared}{Q:VK}{us:List Value}{vs:List V} (F:xX X.prog X.w X.K X.mg X.base CX k f fd ps sp) (hr:wN k X.A) (hb:Binds X.K fd ps ds) (hd:Vals dvs ds) (hx:Passes CX X E)
  (I:Inv X pins σ H s) (r:Vals vs us) (h:sp (vs++dvs) H Q E):wpAny (model X.prog X.w) X.A (call (.ref f) us) (EP X pins σ Q) X.xe s:=by
 have r2:Vals (vs++dvs) (us++ds):=r.append hd
 have hl:(us++ds).length=ps.length:=by rw[<- r2.length];exact F.len _ _ _ _ h
 refine wpAny_call (codeAny_mono (F.run X.A X.stack s H ⟨us,[]⟩ (us++ds) (vs++dvs) Q E hr I.qd2 (hb s us I.kIn hl) r2 h) fun r s' hq=>?_)
 cases r with
 | error e=>exact hx pins σ H s e s' I hq
 | ok fl =>
  cases fl with
  | ret u=>exact I.after hq
  | next=>exact False.elim hq
  | brk=>exact False.elim hq
  | cont=>exact False.elim hq
theorem YN (F:xX X.prog X.w X.K X.mg X.base CX k f fd ps sp) (hr:wN k X.A) (hg:Gl X x) (hm:X.mg x=some (.ref f)) (hk:PySem.W.keepIn X.K (.ref f)=true) (hb:Binds X.K fd ps ds) (hd:Vals dvs ds) (hx:Passes CX X E)
  (ha:PA X (e::es) t) (hdb:autoParam ((x==("__debug__":Str))=false) vd._auto_1) (he:autoParam (starEach (e::es) X.env=(false,eval e X.env)::starEach es X.env) qt._auto_1) (hpl:autoParam ((backTo pos (starEach es X.env)).any (·.1)=false) qt._auto_1) :
  PE X (.Call (.Name x p) (e::es) [] pos) (qbM sp dvs E t):=by
 intro pins s σ H Q I h
 refine wpAny_Call_Name_kw (uT I hg hm ?_ hdb)
 refine PySem.W.callWith_K (h₀:=X.base) I.ok.mod.kin hk (thn (ha pos pins s σ H _ I h) fun us s1 ⟨vs,H1,I1,r,q⟩=>⟨I1.kIn,?_⟩) he hpl
 exact qfQ F hr hb hd hx I1 r q
structure Mk (K:PySem.W.Frag) (C f:Addr):Prop where
 makes:PySem.W.makesIn K C=true
 init:PySem.W.findIn K (.ref C) "__init__"=some (some (.ref f))
 fn:PySem.W.isFn K (.ref f)=true
 kp:PySem.W.keepIn K (.ref C)=true
theorem qcl {pins:List (Addr × Obj)}{σ:St}{H:Hp}{s:Shared}{Q:VK}{us:List Value}{vs:List V} (M:Mk X.K C f) (F:xX X.prog X.w X.K X.mg X.base CX k f fd ps sp) (hr:wN (k+1) X.A) (hb:Binds X.K fd ps ds) (hd:Vals dvs ds)
  (hx:Passes CX X E) (I:Inv X pins σ H s) (r:Vals vs us)
  (h:∀ x dx,H x=none->H dx=none->dx≠x->sp (.ref x::(vs++dvs)) (upd (upd H dx (.own x)) x (.ins C dx [])) (fun v H2=>v = .non/\Q (.ref x) H2) E) :
  wpAny (model X.prog X.w) X.A (call (.ref C) us) (EP X pins σ Q) X.xe s:=by
 have hq:=h (s.heap.objs.size+1) s.heap.objs.size (I.hok.fresh (Nat.le_succ _)) (I.hok.fresh (Nat.le_refl _)) (Nat.ne_of_lt (Nat.lt_succ_self _))
 have I2:=Inv.made (C:=C) I
 have r2:Vals (V.ref (s.heap.objs.size+1)::(vs++dvs)) (Value.ref (s.heap.objs.size+1)::(us++ds)):=.cons rfl (r.append hd)
 have hl:(Value.ref (s.heap.objs.size+1)::us++ds).length=ps.length:=by
  have e:=r2.length
  rw[F.len _ _ _ _ hq] at e
  exact e.symm
 refine wpAny_call (qb6 (f:=f) I.kIn M.makes M.init (beq_iff_eq.mp M.fn) (codeAny_mono (F.run _ X.stack _ _ ⟨Value.ref (s.heap.objs.size+1)::us,[]⟩ (Value.ref (s.heap.objs.size+1)::(us++ds)) _ _ E (hr.make C us [])
  (I2.qd2.make C us []) (hb _ (Value.ref (s.heap.objs.size+1)::us) I2.kIn hl) r2 hq) fun r s' hq'=>?_))
 cases r with
 | error e=>exact hx pins σ _ _ e s' I2 hq'
 | ok fl =>
  cases fl with
  | ret u =>
   obtain⟨v,H',I3,rv,ev,q3⟩:=I2.after hq'
   subst ev
   exact⟨rv,⟨V.ref (s.heap.objs.size+1),H',I3,rfl,q3⟩⟩
  | next=>exact False.elim hq'
  | brk=>exact False.elim hq'
  | cont=>exact False.elim hq'
theorem qd4 (M:Mk X.K C f) (F:xX X.prog X.w X.K X.mg X.base CX k f fd ps sp) (hr:wN (k+1) X.A) (hg:Gl X x) (hm:X.mg x=some (.ref C)) (hb:Binds X.K fd ps ds) (hd:Vals dvs ds) (hx:Passes CX X E)
  (ha:PA X (e::es) t) (hdb:autoParam ((x==("__debug__":Str))=false) vd._auto_1) (he:autoParam (starEach (e::es) X.env=(false,eval e X.env)::starEach es X.env) qt._auto_1) (hpl:autoParam ((backTo pos (starEach es X.env)).any (·.1)=false) qt._auto_1) :
  PE X (.Call (.Name x p) (e::es) [] pos) (qg7 C sp dvs E t):=by
 intro pins s σ H Q I h
 refine wpAny_Call_Name_kw (uT I hg hm ?_ hdb)
 refine PySem.W.callWith_K (h₀:=X.base) I.ok.mod.kin M.kp (thn (ha pos pins s σ H _ I h) fun us s1 ⟨vs,H1,I1,r,q⟩=>⟨I1.kIn,?_⟩) he hpl
 exact qcl M F hr hb hd hx I1 r q
end
structure qw (N P:List Str) (sc:Scope):Prop where
 kind:sc.kind = .function
 co:sc.isCoroutine=false
 gen:sc.isGenerator=false
 nd:N.Nodup
 pre:N.take P.length=P
 par:∀ x∈P,sc.names.lookup x=some .local\/sc.names.lookup x=some .cell
 nofree:∀ y∈sc.names,y.2 ≠ .free
theorem Zv {kindOf:Str->Option NameKind}{x:Str}:∀ {binds:List (Str × Value)}{m:Str->Option Value},(∀ v,(x,v)∉binds)->bindL kindOf binds m x=m x
 | [],_,_=>rfl
 | (n,v)::r,m,h=>by
  unfold bindL
  rw[Zv fun w hw=>h w (List.mem_cons_of_mem _ hw)]
  split
  ·have:x≠n:=by rintro rfl;exact h v List.mem_cons_self
   simp [this]
  ·rfl
theorem ZT {kindOf:Str->Option NameKind}{x:Str}:∀ {binds:List (Str × Value)}{m:Str->Option Value},(∀ v,(x,v)∉binds)->bindC kindOf binds m x=m x
 | [],_,_=>rfl
 | (n,v)::r,m,h=>by
  unfold bindC
  rw[ZT fun w hw=>h w (List.mem_cons_of_mem _ hw)]
  split
  ·rfl
  ·have:x≠n:=by rintro rfl;exact h v List.mem_cons_self
   simp [this]
theorem ZE {kindOf:Str->Option NameKind}{x:Str}{v:Value}:∀ {P:List Str}{vs:List Value}{i:Nat}{m:Str->Option Value},P.Nodup->P[i]?=some x->vs[i]?=some v->kindOf x=some .local ->
  bindL kindOf (P.zip vs) m x=some v
 | [],_,_,_,_,h,_,_=>by simp at h
 | _::_,[],_,_,_,_,h,_=>by simp at h
 | p::P,w::vs,0,m,nd,h1,h2,hk=>by
  simp at h1 h2;subst h1;subst h2
  show bindL kindOf ((p,w)::P.zip vs) m p=_
  unfold bindL
  rw[Zv fun v hv=>(List.nodup_cons.mp nd).1 (List.of_mem_zip hv).1,if_pos hk]
  simp
 | p::P,w::vs,i+1,m,nd,h1,h2,hk=>by
  show bindL kindOf ((p,w)::P.zip vs) m x=_
  unfold bindL
  exact ZE (i:=i) (List.nodup_cons.mp nd).2 (by simpa using h1) (by simpa using h2) hk
theorem ZM {kindOf:Str->Option NameKind}{x:Str}{v:Value}:∀ {P:List Str}{vs:List Value}{i:Nat}{m:Str->Option Value},P.Nodup->P[i]?=some x->vs[i]?=some v->kindOf x≠some .local ->
  bindC kindOf (P.zip vs) m x=some v
 | [],_,_,_,_,h,_,_=>by simp at h
 | _::_,[],_,_,_,_,h,_=>by simp at h
 | p::P,w::vs,0,m,nd,h1,h2,hk=>by
  simp at h1 h2;subst h1;subst h2
  show bindC kindOf ((p,w)::P.zip vs) m p=_
  unfold bindC
  rw[ZT fun v hv=>(List.nodup_cons.mp nd).1 (List.of_mem_zip hv).1,if_neg hk]
  simp
 | p::P,w::vs,i+1,m,nd,h1,h2,hk=>by
  show bindC kindOf ((p,w)::P.zip vs) m x=_
  unfold bindC
  exact ZM (i:=i) (List.nodup_cons.mp nd).2 (by simpa using h1) (by simpa using h2) hk
noncomputable def start (N:List Str) (vs:List V):St:=vs.map some++List.replicate (N.length-vs.length) none
noncomputable def ua (CX:CXT) (P:Program) (w:World) (K:PySem.W.Frag) (mg:Str->Option Value) (base:Heap) (N:List Str) (qual:Str) (scope:Scope) (f:Addr) (cd:Value) (A:Around) (outer:List Env) (s:Shared) (H:Hp) (E:XK):Cx where
 prog:=P
 w:=w
 K:=K
 mg:=mg
 base:=base
 A:=A.deeper (envOfC qual scope s.heap.objs.size f cd)
 N:=N
 s_0:=s
 H_0:=H
 env:=envOfC qual scope s.heap.objs.size f cd
 outer:=outer
 stack:=envOfC qual scope s.heap.objs.size f cd::outer
 ex:=[]
 calm:=true
 fn:=fun _=>true
 pn:=[]
 xe:=fun e s'=>wpAny (model P w) (A.deeper (envOfC qual scope s.heap.objs.size f cd)) (leaving (envOfC qual scope s.heap.objs.size f cd) e) (fun _ s''=>CX outer H s E e s'') (fun e' s''=>CX outer H s E e' s'') s'
theorem Us {sc:Scope}{n:Nat}{x:Str} (h:sc.names.lookup x=some .cell):∃ c,(cellsFrom n sc.names []).lookup x=some c:=by
 have q:=PySem.W.cellsFrom_some sc.names n [] (.inl h)
 exact Option.isSome_iff_exists.mp q
theorem Z2 {CX:CXT}{P:Program}{w:World}{K:PySem.W.Frag}{mg:Str->Option Value}{base:Heap}{N ps:List Str}{qual:Str}{scope:Scope}{f:Addr}{cd:Value}{A:Around}{outer:List Env}{s s1:Shared}{H:Hp}{E:XK}{us:List Value}{vs:List V}
  (S:qw N ps scope) (hd:A.handled=none) (e0:Zh P w K mg base A outer s H) (hl:vs.length=ps.length) (r:Vals vs us)
  (x:InCallC s s.heap.objs.size (bindL (envOfC qual scope s.heap.objs.size f cd).kindOf (ps.zip us) fun _=>none) (cellsFrom (s.heap.objs.size+1) scope.names []) (bindC (envOfC qual scope s.heap.objs.size f cd).kindOf (ps.zip us) fun _=>none) s1) :
  Inv (ua CX P w K mg base N qual scope f cd A outer s H E) [] (start N vs) H s1:=by
 have hpl:ps.length <= N.length:=by have:=congrArg List.length S.pre;rw[List.length_take] at this;lia
 obtain⟨h1,tk,rfl,hk⟩:=x.done
 have noA:∀ b:Addr,b∉(ua CX P w K mg base N qual scope f cd A outer s H E).ex:=fun b z=>absurd (show b∈([]:List Addr) from z) (by simp)
 refine⟨⟨e0.mod,S.kind,rfl,rfl,Nat.le_refl _,fun y z c h1 h2=>?_,fun y hy=>?_,fun y c _ h=>?_,fun _=>hd,Around.frames_deeper e0.frames,.inr ⟨rfl,rfl⟩,fun b z=>absurd z (noA b),e0.bs,e0.bsz,fun b _ _=>noA b,fun b z=>absurd z (noA b),e0.ji,e0.frf⟩,
  rfl,e0.bare,Un.kept hk,⟨_,x.toInCall.ns,fun i y v h1 h2 h3=>?_⟩,fun y c h=>⟨_,x.cell y c h⟩,e0.hok.fresh (Nat.le_refl _),fun y c h=>?_,fun p hp=>absurd (show p∈([]:List (Addr × Obj)) from hp) (by simp),e0.hok.kept hk,?_⟩
 ·exact name_of_addr x.apart (PySem.mem_of_lookup h1) (PySem.mem_of_lookup h2)
 ·have hy:scope.names.lookup y=some .cell\/scope.names.lookup y=some .free:=hy
  rcases hy with hy | hy
  ·exact Us hy
  ·exact absurd rfl (S.nofree _ (PySem.mem_of_lookup hy))
 ·exact Nat.le_of_lt (x.above y c (PySem.mem_of_lookup h))
 ·have hi:i<vs.length:=by
   unfold start at h2
   by_cases hi:i<vs.length
   ·exact hi
   ·rw[List.getElem?_append_right (by simpa using hi)] at h2
    rw[List.getElem?_replicate] at h2
    split at h2 <;> cases h2
  have ha:vs[i]?=some v:=by
   unfold start at h2
   rw[List.getElem?_append_left (by simpa using hi),List.getElem?_map] at h2
   cases e:vs[i]? with
   | none=>rw[e] at h2;cases h2
   | some a=>rw[e] at h2;cases h2;rfl
  obtain⟨u,hu,rv⟩:=r.get ha
  have hp:ps[i]?=some y:=by
   rw[<- S.pre,List.getElem?_take_of_lt (by lia)];exact h1
  have ndP:ps.Nodup:=by rw[<- S.pre];exact S.nd.sublist (List.take_sublist _ _)
  refine⟨u,rv,?_⟩
  rcases S.par y (List.mem_of_getElem? hp) with k | k
  ·exact .inl ⟨k,ZE ndP hp hu k⟩
  ·obtain⟨c,e⟩:=Us (n:=s.heap.objs.size+1) k
   refine .inr ⟨.inl k,c,e,?_⟩
   have q:=x.cell y c e
   rw[ZM ndP hp hu (by show scope.names.lookup y≠_;rw[k];decide)] at q
   exact q
 ·exact e0.hok.fresh (Nat.le_of_lt (x.above y c (PySem.mem_of_lookup h)))
 ·unfold start
  show _=N.length
  rw[List.length_append,List.length_map,List.length_replicate]
  lia
theorem qak {CX:CXT}{P:Program}{w:World}{K:PySem.W.Frag}{mg:Str->Option Value}{base:Heap}{k:Nat}{f:Addr}{name qual:Str}{params:Arguments}{body:List Stmt}{scope:Scope}{dV kV doc pm cdv ct oc:Value}{an od:Option Addr}
  {osl:Array (Option Value)}{N ps:List Str}{sp:Sp} (lk:K.lookup f=some ⟨oc,od,.func (PySem.W.fnOf name qual params body scope dV kV doc pm an cdv ct),osl⟩) (hcd:PySem.W.codeIn K cdv qual=true) (S:qw N ps scope)
  (len:∀ vs H Q E,sp vs H Q E->vs.length=ps.length)
  (hbody:∀ (A:Around) (outer:List Env) (s:Shared) (H:Hp) (vs:List V) (Q:VK) (E:XK),wN k (A.deeper (envOfC qual scope s.heap.objs.size f cdv))->sp vs H Q E ->
   ∃ t,PSs (ua CX P w K mg base N qual scope f cdv A outer s H E) body t/\t {nx:=fun _ H'=>Q .non H',rt:=Q} (start N vs) H) :
  xX P w K mg base CX (k+1) f (PySem.W.fnOf name qual params body scope dV kV doc pm an cdv ct) ps sp:=by
 refine⟨len,fun A outer s H args us vs Q E hr e0 hb r hsp=>?_⟩
 have hl:=len _ _ _ _ hsp
 have KX:K.In s.heap:=e0.mod.kin.keeps fun b o e=>(e0.bs b o e).1
 have lim:s.heap.NoLimit:=e0.mod.nolimit.keeps fun b o e=>(e0.bs b o e).1
 have hkind:∀ y∈ps.zip us,scope.names.lookup y.1=some .local\/(scope.names.lookup y.1=some .cell/\((cellsFrom (s.heap.objs.size+1) scope.names []).lookup y.1).isSome=true):=fun⟨n,v⟩ hy=>by
  rcases S.par n (List.of_mem_zip hy).1 with q | q
  ·exact .inl q
  ·exact .inr ⟨q,PySem.W.cellsFrom_some _ _ _ (.inl q)⟩
 refine codeAny_call_function hr.depth (KX _ _ lk) rfl S.co S.gen rfl (PySem.W.codeRec_of KX hcd) (hb _ _ _ _ ?_)
 refine wpAny_newFunctionEnv_cells S.kind hkind fun env he s1 x=>?_
 subst he
 refine⟨lim.keeps x.toInCall.keep,codeAny_func ?_⟩
 obtain⟨t,ht,hq⟩:=hbody A outer s H vs Q E (hr.deeper _) hsp
 have I:Inv (ua CX P w K mg base N qual scope f cdv A outer s H E) [] (start N vs) H s1:=Z2 S hr.hd e0 hl r x
 refine wpAny_mono (ht [] s1 (start N vs) H _ I hq) (fun fl s' hs=>?_) fun e s' hs=>hs
 have fin:∀ {σ':St}{H':Hp}{v:V}{u:Value},Inv (ua CX P w K mg base N qual scope f cdv A outer s H E) [] σ' H' s'->RelV v u->Q v H'->CE outer P w H s Q u s' :=
  fun {σ' H' v u} J rv q=>⟨v,H',J.os,J.bare,J.base,J.hok,rv,q⟩
 cases fl with
 | ret u =>
  obtain⟨v,σ',H',J,rv,q⟩:=hs
  exact fin J rv q
 | next =>
  obtain⟨σ',H',J,q⟩:=hs
  exact fin (v:=V.non) (u:=Value.none) J rfl q
 | brk =>
  obtain⟨_,_,_,q⟩:=hs
  exact False.elim q
 | cont =>
  obtain⟨_,_,_,q⟩:=hs
  exact False.elim q
section
variable {X:Cx}{x:Str}{p pos:Pos}{e:Expr}{es:List Expr}{t:TA}{id T:String}{r:List V->Hp->VK->Prop}
noncomputable def tCB (r:List V->Hp->VK->Prop) (t:TA):TE:=fun σ H Q=>t σ H fun vs H1=>r vs H1 Q
theorem vO (hc:WU X (.builtin id) r) (hg:Gl X x) (hm:X.mg x=none) (hv:bootBuiltins x=some (.builtin id)) (ha:PA X (e::es) t) (hn:autoParam (x≠"__name__") vd._auto_1) (hdb:autoParam ((x==("__debug__":Str))=false) vd._auto_1)
  (he:autoParam (starEach (e::es) X.env=(false,eval e X.env)::starEach es X.env) qt._auto_1) (hpl:autoParam ((backTo pos (starEach es X.env)).any (·.1)=false) qt._auto_1):PE X (.Call (.Name x p) (e::es) [] pos) (tCB r t):=by
 intro pins s σ H Q I h
 refine wpAny_Call_Name_kw (Qu I hg hm hv ?_ hn hdb)
 exact PyProof.Rows.callWith_builtin1 (thn (ha pos pins s σ H _ I h) fun us s1 ⟨vs,H1,I1,r1,q1⟩=>hc pins s1 σ H1 vs us Q I1 r1 q1) he hpl
theorem qbC (hc:WU X (.type T) r) (hg:Gl X x) (hm:X.mg x=none) (hv:bootBuiltins x=some (.type T)) (ha:PA X (e::es) t) (hn:autoParam (x≠"__name__") vd._auto_1) (hdb:autoParam ((x==("__debug__":Str))=false) vd._auto_1)
  (he:autoParam (starEach (e::es) X.env=(false,eval e X.env)::starEach es X.env) qt._auto_1) (hpl:autoParam ((backTo pos (starEach es X.env)).any (·.1)=false) qt._auto_1):PE X (.Call (.Name x p) (e::es) [] pos) (tCB r t):=by
 intro pins s σ H Q I h
 refine wpAny_Call_Name_kw (Qu I hg hm hv ?_ hn hdb)
 exact PyProof.Rows.callWith_type1 (thn (ha pos pins s σ H _ I h) fun us s1 ⟨vs,H1,I1,r1,q1⟩=>hc pins s1 σ H1 vs us Q I1 r1 q1) he hpl
end
end L2
namespace HT
open PySem PyProof.Rows
section
variable {prog:Program}{w:World}{A:Around}{E:Value->Shared->Prop}{s:Shared}
noncomputable def sIx (n d:Nat):Option Int->Nat
 | none=>d
 | some v=>if v<0 then (v+(n:Int)).toNat else min v.toNat n
end
end HT
namespace L2
open PySem PySem.Spec PyProof.Rows
noncomputable abbrev TO:=St->Hp->(Option Int->Hp->Prop)->Prop
noncomputable def PO (X:Cx) (e:Option Expr) (t:TO):Prop :=
 ∀ (pins:List (Addr × Obj)) (s:Shared) (σ:St) (H:Hp) (Q:Option Int->Hp->Prop),Inv X pins σ H s->t σ H Q ->
  wpAny (model X.prog X.w) X.A (evalPart e X.env) (fun u s'=>∃ o H',Inv X pins σ H' s'/\IsPart u o/\Q o H') X.xe s
noncomputable def qdV:TO:=fun _ H Q=>Q none H
noncomputable def qgT (t:TE):TO:=fun σ H Q=>t σ H fun x H1=>∃ i,x = .int i/\Q (some i) H1
section
variable {X:Cx}{e:Expr}{te:TE}{lo hi:Option Expr}{tl th:TO}{pos p2:Pos}
theorem qdL:PO X none qdV:=by
 intro pins s σ H Q I h
 rw[evalPart_none]
 exact wpAny_pure ⟨none,H,I,.none,h⟩
theorem qeA (h:PE X e te):PO X (some e) (qgT te):=by
 intro pins s σ H Q I hw
 rw[evalPart_some]
 refine thn (h pins s σ H _ I hw) fun u s1 ⟨x,H1,I1,r1,q1⟩=>?_
 obtain⟨i,rfl,q⟩:=q1
 obtain⟨t,rfl⟩:=r1
 exact⟨some i,H1,I1,.int i t,q⟩
noncomputable def SlR (X:Cx) (r:V->Option Int->Option Int->Hp->VK->Prop):Prop :=
 ∀ (pins:List (Addr × Obj)) (s:Shared) (σ:St) (H:Hp) (x:V) (v vl vu:Value) (lo hi:Option Int) (sl:Addr) (Q:VK),Inv X pins σ H s->RelV x v->s.heap.IsSliceOf sl vl vu .none->IsPart vl lo->IsPart vu hi->r x lo hi H Q ->
  ∃ T id,typeLookup (.type T) "__getitem__"=pure (some (.builtin id))/\s.TypeIs v T/\wpAny (model X.prog X.w) X.A (getItem v (.ref sl)) (EP X pins σ Q) X.xe s
noncomputable def qez (xs:List V) (lo hi:Option Int):List V:=(xs.drop (HT.sIx xs.length 0 lo)).take (HT.sIx xs.length xs.length hi-HT.sIx xs.length 0 lo)
theorem XA (xs:List V) (lo hi:Option Int):(qez xs lo hi).length <= xs.length:=by
 unfold qez
 rw[List.length_take,List.length_drop]
 lia
end
noncomputable def ixN (n:Nat) (i:Int):Option Nat:=if 0 <= i then (if i<n then some i.toNat else none) else if -(n:Int) <= i then some (i+n).toNat else none
noncomputable def atI {α:Type} (xs:List α) (i:Int):Option α:=(ixN xs.length i).bind fun j=>xs[j]?
theorem J1 {n:Nat}{i:Int}{j:Nat} (h:ixN n i=some j):seqIndex? i n=some j/\j<n /\ -(n:Int) <= i/\i<n:=by
 unfold ixN at h
 by_cases h0:0 <= i
 ·rw[if_pos h0] at h
  by_cases h1:i<n
  ·rw[if_pos h1] at h
   have e:i.toNat=j:=Option.some.inj h
   exact⟨by rw[seqIndex_of h0 h1,e],by lia,by lia,h1⟩
  ·rw[if_neg h1] at h;cases h
 ·rw[if_neg h0] at h
  by_cases h1 : -(n:Int) <= i
  ·rw[if_pos h1] at h
   have e:(i+n).toNat=j:=Option.some.inj h
   exact⟨by rw[seqIndex_neg (by lia) h1,e],by lia,h1,by lia⟩
  ·rw[if_neg h1] at h;cases h
theorem JY {α:Type}{xs:List α}{i:Int}{v:α} (h:atI xs i=some v):∃ j,seqIndex? i xs.length=some j/\xs[j]?=some v/\j<xs.length /\ -(xs.length:Int) <= i/\i<xs.length:=by
 unfold atI at h
 cases e:ixN xs.length i with
 | none=>rw[e] at h;cases h
 | some j =>
  rw[e] at h
  obtain⟨h1,h2,h3,h4⟩:=J1 e
  exact⟨j,h1,h,h2,h3,h4⟩
noncomputable def YR (b:Expr):Prop:=∀ o i,subscripted b false o i=operate [o,i] (getItem o i)
noncomputable def IxR (X:Cx) (r:R2):Prop :=
 ∀ (value slice:Expr) (pins:List (Addr × Obj)) (s:Shared) (σ:St) (H:Hp) (x y:V) (v u:Value) (Q:VK),Inv X pins σ H s->RelV x v->RelV y u->r x y H Q ->
  subscripted slice false v u=operate [v,u] (getItem v u)->wpAny (model X.prog X.w) X.A (subscriptTail value slice v u) (EP X pins σ Q) X.xe s
noncomputable def MtR (X:Cx) (id:String) (r:V->List V->Hp->VK->Prop):Prop :=
 ∀ (pins:List (Addr × Obj)) (s:Shared) (σ:St) (H:Hp) (x:V) (xs:List V) (v:Value) (us:List Value) (Q:VK),Inv X pins σ H s->RelV x v->Vals xs us->r x xs H Q ->
  wpAny (model X.prog X.w) X.A (call (.builtin id) (v::us)) (EP X pins σ Q) X.xe s
section
variable {X:Cx}{a b:Expr}{ta tb:TE}{pos:Pos}
theorem IxR.or {r r':R2} (h:IxR X r) (h':IxR X r'):IxR X (fun x y H Q=>r x y H Q\/r' x y H Q):=by
 intro value slice pins s σ H x y v u Q I rx ry q hs
 rcases q with q | q
 ·exact h value slice pins s σ H x y v u Q I rx ry q hs
 ·exact h' value slice pins s σ H x y v u Q I rx ry q hs
theorem qe2 {r:R2} (hr:IxR X r) (ha:PE X a ta) (hb:PE X b tb) (hs:YR b):PE X (.Subscript a b pos) (tOp r ta tb):=by
 intro pins s σ H Q I h
 exact Subscript_ (qf8 ha hb I h fun v u s2 x y H2 I2 rx ry q=>hr a b pins s2 σ H2 x y v u Q I2 rx ry q (hs _ _))
noncomputable def qg4 (K:PySem.W.Frag):R2:=fun x y H Q=>∃ p xs i v,x = .ref p/\y = .int i/\SqL K H p xs/\atI xs i=some v/\Q v H
noncomputable def qgH (K:PySem.W.Frag):R2:=fun x y H Q=>∃ p xs i v,x = .ref p/\y = .int i/\SqT K H p xs/\atI xs i=some v/\Q v H
theorem qag:IxR X (qg4 X.K):=by
 intro value slice pins s σ H x y v u Q I rx ry h hs
 obtain⟨p,xs,i,z,rfl,rfl,hq,he,q⟩:=h
 cases rx
 obtain⟨t,rfl⟩:=ry
 obtain⟨its,r,pl,hz⟩:=I.list hq
 obtain⟨j,h1,h2,h3,h4,h5⟩:=JY he
 obtain⟨w,ew,rw'⟩:=r.get h2
 have hl:=r.length
 have hn:=YZ
 have fin:EP X pins σ Q w s:=⟨z,H,I,rw',q⟩
 by_cases h0:0 <= i
 ·have hj:i.toNat=j:=by
   rw[seqIndex_of h0 h5] at h1
   exact Option.some.inj h1
  exact item_listR pl.isList h0 (by lia) (by rw[hj];simpa using ew) fin hs
 ·have hj:(i+(its.toArray.size:Int)).toNat=j:=by
   rw[seqIndex_neg (by lia) h4] at h1
   rw[List.size_toArray,<- hl]
   exact Option.some.inj h1
  exact subscriptTail_builtinR (x:=w) pl.isList.typeIs slot_list_getitem.lookup
   (wpAny_getItem_list_neg (Q:=fun r s'=>r=w/\EP X pins σ Q r s') pl.isList (by lia) (by rw[List.size_toArray] <;> lia) (by lia) (by rw[hj];simpa using ew) ⟨rfl,fin⟩) hs
theorem qfg:IxR X (qgH X.K):=by
 intro value slice pins s σ H x y v u Q I rx ry h hs
 obtain⟨p,xs,i,z,rfl,rfl,hq,he,q⟩:=h
 cases rx
 obtain⟨t,rfl⟩:=ry
 obtain⟨its,r,pl,hz⟩:=I.tuple hq
 obtain⟨j,h1,h2,h3,h4,h5⟩:=JY he
 obtain⟨w,ew,rw'⟩:=r.get h2
 have hl:=r.length
 have hn:=YZ
 have fin:EP X pins σ Q w s:=⟨z,H,I,rw',q⟩
 exact subscriptTail_builtinR (x:=w) pl.typeIs slot_tuple_getitem.lookup
  (getItem_tuple (j:=j) (Q:=fun r s'=>r=w/\EP X pins σ Q r s') pl (by lia) (by lia) (by rw[List.size_toArray,<- hl];exact h1) (by simpa using ew) ⟨rfl,fin⟩) hs
theorem Uy (its:List Value) (n j:Nat) (u:Value):Obj.mapSeq (·.setIfInBounds j u) {cls:=.type "list",data:=.seq its.toArray n}={cls:=.type "list",data:=.seq (its.set j u).toArray n}:=by
 simp [Obj.mapSeq]
theorem Inv.lst {pins:List (Addr × Obj)}{σ:St}{H:Hp}{s:Shared}{p:Addr}{xs:List V} (I:Inv X pins σ H s) (h:H p=some (.lst xs)) :
  ∃ (its:List Value) (n:Nat),Vals xs its/\s.heap.get? p=some {cls:=.type "list",data:=.seq its.toArray n}/\xs.length <= sizeLine:=by
 obtain⟨z,its,n,r,e⟩:=I.hok p _ h
 exact⟨its,n,r,e,z⟩
theorem Inv.qgq {pins:List (Addr × Obj)}{σ:St}{H:Hp}{s:Shared}{p:Addr}{xs ys:List V}{its its':List Value}{n n':Nat}{f:Obj->Obj} (I:Inv X pins σ H s) (h:H p=some (.lst xs))
  (ho:s.heap.get? p=some {cls:=.type "list",data:=.seq its.toArray n}) (hf:f {cls:=.type "list",data:=.seq its.toArray n}={cls:=.type "list",data:=.seq its'.toArray n'}) (r:Vals ys its') (hz:ys.length <= sizeLine) (t:Nat) :
  Inv X pins σ (upd H p (.lst ys)) {s with heap:=s.heap.update p f,toks:=t}:=by
 have e:(s.heap.update p f).get? p=some {cls:=.type "list",data:=.seq its'.toArray n'}:=by
  rw[Heap.get?_update_self f ho (by rw[hf] <;> rfl),hf]
 refine I.write (x:=p) (e:=p) (by rw[h];trivial) (.inl rfl) (fun b u hb q=>(Heap.get?_update_other _ _ (Ne.symm hb)).trans q) ⟨_,e⟩ ?_
 exact⟨hz,its',n',r,e⟩
noncomputable def qeW:V->V->V->Hp->(Hp->Prop)->Prop:=fun o i v H Q=>∃ p xs k j,o = .ref p/\i = .int k/\H p=some (.lst xs)/\ixN xs.length k=some j/\Q (upd H p (.lst (xs.set j v)))
theorem set_list:qgQ X qeW:=by
 intro pins s σ H o i v ov iv u Q I ro ri rv h
 obtain⟨p,xs,k,j,rfl,rfl,hp,hj,q⟩:=h
 cases ro
 obtain⟨t,rfl⟩:=ri
 obtain⟨its,n,r,ho,hz⟩:=I.lst hp
 obtain⟨h1,h2,h3,h4⟩:=J1 hj
 have hl:=r.length
 have hn:=YZ
 have I':Inv X pins σ (upd H p (.lst (xs.set j v))) {s with heap:=s.heap.update p (Obj.mapSeq (·.setIfInBounds j u))} :=
  I.qgq hp ho (Uy its n j u) (r.set rv j) (by rw[List.length_set];exact hz) s.toks
 by_cases h0:0 <= k
 ·have hk:k.toNat=j:=by
   rw[seqIndex_of h0 h4] at h1
   exact Option.some.inj h1
  exact PySem.W.ki_setAt ho h0 (by lia) (by rw[List.size_toArray,<- hl];exact h4) (by rw[hk];exact⟨_,I',q⟩)
 ·have hk:(k+(its.toArray.size:Int)).toNat=j:=by
   rw[seqIndex_neg (by lia) h3] at h1
   rw[List.size_toArray,<- hl]
   exact Option.some.inj h1
  exact PySem.W.ki_setBack ho (by lia) (by rw[List.size_toArray,<- hl];exact h3) (by lia) (by rw[hk];exact⟨_,I',q⟩)
theorem Yh (lo hi:Option Int) (n:Nat):(sliceBounds lo hi none n).1=((HT.sIx n 0 lo:Nat):Int)/\(sliceBounds lo hi none n).2.1=((HT.sIx n n hi:Nat):Int)/\(sliceBounds lo hi none n).2.2=1:=by
 refine⟨?_,?_,rfl⟩
 ·cases lo with
  | none=>simp [sliceBounds,HT.sIx]
  | some i =>
   simp only[sliceBounds,HT.sIx,Option.getD_none,show (1:Int)>0 by decide,if_true]
   by_cases h:i<0
   ·simp only[h,if_true] <;> lia
   ·simp only[h,if_false] <;> lia
 ·cases hi with
  | none=>simp [sliceBounds,HT.sIx]
  | some i =>
   simp only[sliceBounds,HT.sIx,Option.getD_none,show (1:Int)>0 by decide,if_true]
   by_cases h:i<0
   ·simp only[h,if_true] <;> lia
   ·simp only[h,if_false] <;> lia
theorem W3 (its:List Value) (lo hi:Option Int):slicePick its.toArray lo hi none=((its.drop (HT.sIx its.length 0 lo)).take (HT.sIx its.length its.length hi-HT.sIx its.length 0 lo)).toArray:=by
 obtain⟨h1,h2,h3⟩:=Yh lo hi its.toArray.size
 unfold slicePick
 rw[h1,h2,h3]
 simp only[sliceRange_one,pick_run,List.size_toArray] <;> rfl
noncomputable def qhG (K:PySem.W.Frag):V->Option Int->Option Int->Hp->VK->Prop:=fun x lo hi H Q=>∃ a xs,x = .ref a/\SqL K H a xs/\∀ p,H p=none->Q (.ref p) (upd H p (.lst (qez xs lo hi)))
theorem qhj:SlR X (qhG X.K):=by
 intro pins s σ H x v vl vu lo hi sl Q I rx hs pl pu h
 obtain⟨a,xs,rfl,hx,q⟩:=h
 cases rx
 obtain⟨its,r,ht,hz⟩:=I.list hx
 have hlen:=r.length
 refine⟨"list",_,slot_list_getitem.lookup,ht.isList.typeIs,?_⟩
 refine wpAny_getItem_list_slice ht.isList hs pl pu .none (by simp) ?_ (by rw[List.size_toArray] <;> lia)
 rw[W3,<- hlen]
 refine⟨.ref s.heap.objs.size,_,I.laid (t':=s.toks) (o:=.lst (qez xs lo hi)) (fun b ob q=>Heap.get?_push_of_some _ q) (Nat.le_refl _) ?_,rfl,q _ (I.hok.fresh (Nat.le_refl _))⟩
 exact⟨Nat.le_trans (XA xs lo hi) hz,_,0,(r.drop (HT.sIx xs.length 0 lo)).take (HT.sIx xs.length xs.length hi-HT.sIx xs.length 0 lo),Heap.get?_push_size _ rfl⟩
theorem vh:WU X (.builtin "len") (fun xs H Q=>∃ p ys,xs=[.ref p]/\(SqL X.K H p ys\/SqT X.K H p ys)/\Q (.int ys.length) H):=by
 intro pins s σ H xs us Q I r h
 obtain⟨p,ys,rfl,hq,q⟩:=h
 obtain⟨u,rfl,rx⟩:=vals1 r
 cases rx
 have hn:=YZ
 rcases hq with hq | hq
 ·obtain⟨its,r',pl,hz⟩:=I.list hq
  have hlen:=r'.length
  exact Calls.call_len_list pl.isList (by simp only[List.size_toArray] <;> lia) ⟨.int ys.length,H,I.tok _,⟨s.toks+1,by rw[List.size_toArray,hlen]⟩,q⟩
 ·obtain⟨its,r',pl,hz⟩:=I.tuple hq
  have hlen:=r'.length
  exact len_tuple pl (by simp only[List.size_toArray] <;> lia) ⟨.int ys.length,H,I.tok _,⟨s.toks+1,by rw[List.size_toArray,hlen]⟩,q⟩
theorem Xg:WU X (.type "list") (fun xs H Q=>∃ p ys,xs=[.ref p]/\(SqL X.K H p ys\/SqT X.K H p ys)/\∀ l,H l=none->Q (.ref l) (upd H l (.lst ys))):=by
 intro pins s σ H xs us Q I r h
 obtain⟨p,ys,rfl,hq,q⟩:=h
 obtain⟨u,rfl,rx⟩:=vals1 r
 cases rx
 have fin:∀ (its:List Value),Vals ys its->ys.length <= sizeLine->∀ (h':Heap) (c':Nat),(∀ b o',s.heap.get? b=some o'->h'.get? b=some o') ->
   h'.get? s.heap.objs.size=some {cls:=.type "list",dict:=none,data:=.seq its.toArray c',slots := #[]}->EP X pins σ Q (.ref s.heap.objs.size) {s with heap:=h'}:=fun its r' hz h' c' kp e =>
  ⟨.ref s.heap.objs.size,_,I.laid (t':=s.toks) kp (Nat.le_refl _) (show zE X.prog X.w _ h' _ (.lst ys) from ⟨hz,its,c',r',e⟩),rfl,q _ (I.hok.fresh (Nat.le_refl _))⟩
 rcases hq with hq | hq
 ·obtain⟨its,r',pl,hz⟩:=I.list hq
  have hlen:=r'.length
  obtain⟨o,ho,hc,n,hd⟩:=pl.isList
  exact call_list_seq p (.inl rfl) ho hc hd (fun h' c' kp e=>fin its r' hz h' c' kp e) (by simp only[List.size_toArray] <;> lia)
 ·obtain⟨its,r',pl,hz⟩:=I.tuple hq
  have hlen:=r'.length
  obtain⟨o,ho,hc,n,hd⟩:=pl
  exact call_list_seq p (.inr rfl) ho hc hd (fun h' c' kp e=>fin its r' hz h' c' kp e) (by simp only[List.size_toArray] <;> lia)
noncomputable def tyV (K:PySem.W.Frag) (T:String) (x:V) (H:Hp):Prop:=match x with
 | .str _=>T="str"
 | .int _=>T="int"
 | .ref p=>(T="list"/\∃ xs,SqL K H p xs)\/(T="tuple"/\∃ o,K.lookup p=some o/\o.cls = .type "tuple"/\o.dict=none) \/
   (T="dict"/\((∃ kvs,H p=some (.dK kvs))\/∃ kvs,H p=some (.dT kvs)))\/(T="set"/\∃ S n,H p=some (.set S n))
 | _=>False
theorem qbH {pins:List (Addr × Obj)}{σ:St}{H:Hp}{s:Shared}{T:String}{x:V}{v:Value} (I:Inv X pins σ H s) (r:RelV x v) (ty:tyV X.K T x H) :
  s.TypeIs v T/\∀ a,v = .ref a->∃ ob,s.heap.get? a=some ob/\ob.dict=none:=by
 cases x with
 | str z =>
  obtain⟨t,rfl⟩:=r
  cases (show T="str" from ty)
  exact⟨typeIs_str s z t,fun _ e=>nomatch e⟩
 | int i =>
  obtain⟨t,rfl⟩:=r
  cases (show T="int" from ty)
  exact⟨typeIs_int s i t,fun _ e=>nomatch e⟩
 | ref p =>
  cases r
  rcases ty with ⟨rfl,xs,hq⟩ | ⟨rfl,o,hk,hc,hd⟩ | ⟨rfl,hk⟩ | ⟨rfl,S,n,hk⟩
  ·obtain⟨its,_,pl,_⟩:=I.list hq
   refine⟨pl.isList.typeIs,fun a e=>?_⟩
   cases e
   obtain⟨o,n,e,c,hd,_⟩:=pl
   exact⟨o,e,hd⟩
  ·refine⟨⟨o,I.kIn p o hk,hc⟩,fun a e=>?_⟩
   cases e
   exact⟨o,I.kIn _ o hk,hd⟩
  ·have z:∃ o,s.heap.get? p=some o/\o.ExactDict:=by
    rcases hk with ⟨kvs,hk⟩ | ⟨kvs,hk⟩
    ·obtain⟨_,_,_,_,o,_,_,e,ex,_⟩:=I.hok p _ hk
     exact⟨o,e,ex⟩
    ·obtain⟨_,_,_,_,o,_,_,e,ex,_⟩:=I.hok p _ hk
     exact⟨o,e,ex⟩
   obtain⟨o,e,ex⟩:=z
   refine⟨⟨o,e,ex.1⟩,fun a e2=>?_⟩
   cases e2
   exact⟨o,e,ex.2.1⟩
  ·obtain⟨o,_,_,_,e,ex,_⟩:=I.hok p _ hk
   refine⟨⟨o,e,ex.1⟩,fun a e2=>?_⟩
   cases e2
   exact⟨o,e,ex.2.1⟩
 | _=>exact False.elim ty
noncomputable def qgJ (K:PySem.W.Frag) (T:String) (r:V->List V->Hp->VK->Prop) (to:TE):TE:=fun σ H Q=>to σ H fun x H1=>tyV K T x H1/\r x [] H1 Q
noncomputable def tBM (K:PySem.W.Frag) (T:String) (r:V->List V->Hp->VK->Prop) (to:TE) (t:TA):TE:=fun σ H Q=>to σ H fun x H1=>tyV K T x H1/\t σ H1 fun xs H2=>r x xs H2 Q
variable {o e:Expr}{es:List Expr}{to:TE}{t:TA}{name:Str}{apos cpos:Pos}{T id:String}{r:V->List V->Hp->VK->Prop}
theorem qbY (pa:PlainAttrs T) (slot:Slot T name id) (hty:typeOf (.builtin id)=pure (.type "method_descriptor")) (hm:MtR X id r) (ho:PE X o to)
  (hbase:autoParam (attributeBase o name X.env (eval o X.env)=eval o X.env) qt._auto_1) (hline:autoParam ((apos.endLine==cpos.line)=true) qt._auto_1):PE X (.Call (.Attribute o name apos) [] [] cpos) (qgJ X.K T r to):=by
 intro pins s σ H Q I h
 refine wpAny_Call_method0_late hbase hline (thn (ho pins s σ H _ I h) fun v s1 ⟨x,H1,I1,r1,ty,q1⟩=>?_)
 obtain⟨h1,h2⟩:=qbH I1 r1 ty
 exact⟨T,id,pa,slot,hty,h1,h2,Calls.callWith_builtin rfl (PySem.evalArgs_none (hm pins s1 σ H1 x [] v [] Q I1 r1 .nil q1))⟩
theorem qcU (pa:PlainAttrs T) (slot:Slot T name id) (hty:typeOf (.builtin id)=pure (.type "method_descriptor")) (hm:MtR X id r) (ho:PE X o to) (ha:PA X (e::es) t)
  (hbase:autoParam (attributeBase o name X.env (eval o X.env)=eval o X.env) qt._auto_1)
  (hfew:((backTo cpos (starEach (e::es) X.env)).all (fun x => !x.1)&&(backToKw cpos (keywordEach [] X.env)).all (fun x=>x.1.isSome)
   && decide ((e::es).length+([]:List Keyword).length+(if ([]:List Keyword).isEmpty then 0 else 1)<30))=true:=by rfl)
  (hline:autoParam ((apos.endLine==cpos.line)=true) qt._auto_1) (hs:autoParam (starEach (e::es) X.env=(false,eval e X.env)::starEach es X.env) qt._auto_1) (hplain:autoParam ((backTo cpos (starEach es X.env)).any (·.1)=false) qt._auto_1) :
  PE X (.Call (.Attribute o name apos) (e::es) [] cpos) (tBM X.K T r to t):=by
 intro pins s σ H Q I h
 refine wpAny_Call_method_late hbase hfew hline rfl (thn (ho pins s σ H _ I h) fun v s1 ⟨x,H1,I1,r1,ty,q1⟩=>?_)
 obtain⟨h1,h2⟩:=qbH I1 r1 ty
 refine⟨T,id,pa,slot,hty,h1,h2,?_⟩
 have hA:=ha cpos pins s1 σ H1 _ I1 q1
 rw[hs] at hA ⊢
 refine Calls.callWith_builtin (by show (false||(backTo cpos (starEach es X.env)).any (·.1))=false;rw[hplain] <;> rfl) (Calls.evalArgs_plain ?_)
 exact thn hA fun us s2 ⟨vs,H2,I2,r2,q2⟩=>hm pins s2 σ H2 x vs v us Q I2 r1 r2 q2
end
noncomputable def MtM (X:Cx) (id:String) (r:V->List V->Hp->VK->Prop):Prop :=
 ∀ (pins:List (Addr × Obj)) (s:Shared) (σ:St) (H:Hp) (x:V) (xs:List V) (v:Value) (us:List Value) (Q:VK),Inv X pins σ H s->RelV x v->Vals xs us->r x xs H Q ->
  wpAny (model X.prog X.w) X.A (call (.builtin id) (v::us)) (EP X pins σ Q) X.xe s
theorem Vals.one:∀ {x:V}{us:List Value},Vals [x] us->∃ u,us=[u]/\RelV x u
 | _,_,.cons r .nil=>⟨_,rfl,r⟩
theorem Vals.rep {xs:List V}{us:List Value} (h:Vals xs us):∀ k:Nat,Vals (List.replicate k xs).flatten (List.replicate k us).flatten
 | 0=>.nil
 | k+1=>by
  rw[List.replicate_succ,List.replicate_succ,List.flatten_cons,List.flatten_cons]
  exact Vals.append h (Vals.rep h k)
theorem foldl_rep (its:List Value):∀ (k:Nat) (acc:List Value),
  List.foldl (fun x1 x2=>x1++x2) acc.toArray (List.replicate k its.toArray)=(acc++(List.replicate k its).flatten).toArray
 | 0,acc=>by simp
 | k+1,acc=>by
  have e:acc.toArray++its.toArray=(acc++its).toArray:=by simp
  have e2:(acc++its)++(List.replicate k its).flatten=acc++(List.replicate (k+1) its).flatten:=by
   rw[List.replicate_succ,List.flatten_cons,List.append_assoc]
  rw[<- e2,<- foldl_rep its k (acc++its),<- e,List.replicate_succ,List.foldl_cons]
section
variable {X:Cx}{pins:List (Addr × Obj)}{σ:St}{H:Hp}{s:Shared}{l b:Addr}{xs ys zs:List V}
theorem Inv.qfk {its its':List Value}{n:Nat}{f:Array Value->Array Value}{t':Nat} (I:Inv X pins σ H s) (hH:H l=some (.lst xs))
  (e:s.heap.get? l=some {cls:=.type "list",data:=.seq its.toArray n}) (hf:f its.toArray=its'.toArray) (hv:Vals ys its') (hz:ys.length <= sizeLine) :
  Inv X pins σ (upd H l (.lst ys)) {s with heap:=s.heap.update l (Obj.mapSeq f),toks:=t'}:=by
 have q:=PySem.IsL.update e f
 rw[hf] at q
 refine I.write (x:=l) (e:=l) (by rw[hH];exact trivial) (.inl rfl) (fun b' u hb hu=>(Heap.get?_update_other s.heap (Obj.mapSeq f) (Ne.symm hb)).trans hu) ⟨_,q⟩ ?_
 exact⟨hz,its',_,hv,q⟩
theorem Inv.qeu {its:List Value}{t':Nat} (I:Inv X pins σ H s) (hv:Vals ys its) (hz:ys.length <= sizeLine) :
  Inv X pins σ (upd H s.heap.objs.size (.lst ys)) {s with heap:=s.heap.push {cls:=.type "list",data:=.seq its.toArray},toks:=t'} :=
 I.laid (fun _ _ q=>Heap.get?_push_of_some _ q) (Nat.le_refl _) ⟨hz,its,0,hv,Heap.get?_push_size _ rfl⟩
theorem Inv.fresh (I:Inv X pins σ H s):H s.heap.objs.size=none:=I.hok.fresh (Nat.le_refl _)
theorem Inv.Jz (I:Inv X pins σ H s) (hH:H l=some (.lst xs)):xs.length <= sizeLine/\∃ (its:List Value) (n:Nat),Vals xs its/\xs.length=its.length/\s.heap.get? l=some {cls:=.type "list",data:=.seq its.toArray n}:=by
 obtain⟨z,its,n,r,e⟩:=I.hok l _ hH
 exact⟨z,its,n,r,r.length,e⟩
theorem VD {n:Nat} (h:n <= sizeLine):Builtin.List.listTooLong n=false:=by
 unfold Builtin.List.listTooLong
 exact decide_eq_false (by lia)
end
section
variable {X:Cx}
noncomputable def qav:V->List V->Hp->VK->Prop:=fun x vs H Q=>∃ l xs y,x = .ref l/\vs=[y]/\H l=some (.lst xs)/\xs.length<sizeLine/\Q .non (upd H l (.lst (xs++[y])))
theorem ZI:MtM X "list.append" qav:=by
 intro pins s σ H x vs v us Q I rx rv h
 obtain⟨l,xs,y,rfl,rfl,hH,hz,q⟩:=h
 cases rx
 obtain⟨u,rfl,ru⟩:=rv.one
 obtain⟨z,its,n,r,hl,e⟩:=I.Jz hH
 refine call_meets F.slot_list_append ⟨_,e,rfl⟩ F.entry_list_append (F.args_list_append_2 _ _) (PySem.list_append l its.toArray n u (by rw[List.size_toArray];lia)) ⟨e,?_⟩
 refine⟨.non,_,I.qfk (its':=its++[u]) hH e (by simp) (r.append (.cons ru .nil)) ?_,rfl,q⟩
 rw[List.length_append,List.length_singleton]
 lia
noncomputable def qek:V->List V->Hp->VK->Prop:=fun x vs H Q=>∃ l b xs zs,x = .ref l/\vs=[.ref b]/\H l=some (.lst xs)/\H b=some (.lst zs)/\xs.length+zs.length <= sizeLine/\Q .non (upd H l (.lst (xs++zs)))
theorem qgz:MtM X "list.extend" qek:=by
 intro pins s σ H x vs v us Q I rx rv h
 obtain⟨l,b,xs,zs,rfl,rfl,hH,hB,hz,q⟩:=h
 cases rx
 obtain⟨u,rfl,ru⟩:=rv.one
 cases ru
 obtain⟨z,its,n,r,hl,e⟩:=I.Jz hH
 obtain⟨z2,its2,n2,r2,hl2,e2⟩:=I.Jz hB
 have hsz:its.toArray.size+its2.toArray.size <= sizeLine:=by rw[List.size_toArray,List.size_toArray];lia
 have hlong:¬ (!its.toArray.isEmpty&&Builtin.List.listTooLong (its.toArray.size+its2.toArray.size))=true:=by
  rw[VD hsz,Bool.and_false]
  exact Bool.false_ne_true
 refine call_meets F.slot_list_extend ⟨_,e,rfl⟩ F.entry_list_extend (F.args_list_extend_2 _ _)
  (AutoSeq1.list_extend_list_list_0 l its.toArray n b its2.toArray n2 hlong (by rw[List.size_toArray];lia) (by lia)) ⟨e,e2,?_⟩
 refine⟨.non,_,I.qfk (its':=its++its2) hH e (by simp) (r.append r2) ?_,rfl,q⟩
 rw[List.length_append]
 lia
noncomputable def qg1:R2:=fun x y H Q=>∃ l b xs zs,x = .ref l/\y = .ref b/\H l=some (.lst xs)/\H b=some (.lst zs)/\xs.length+zs.length <= sizeLine/\∀ p,H p=none->Q (.ref p) (upd H p (.lst (xs++zs)))
theorem qfv:OpR X (binaryOp .Add) qg1:=by
 intro pins s σ H x y v u Q I rx ry h
 obtain⟨l,b,xs,zs,rfl,rfl,hH,hB,hz,q⟩:=h
 cases rx
 cases ry
 obtain⟨z,its,n,r,hl,e⟩:=I.Jz hH
 obtain⟨z2,its2,n2,r2,hl2,e2⟩:=I.Jz hB
 refine PySem.P.add_list e e2 ?_ (by rw[List.size_toArray,List.size_toArray];lia)
 have ea:its.toArray++its2.toArray=(its++its2).toArray:=by simp
 rw[ea]
 exact⟨.ref _,_,I.qeu (t':=s.toks) (r.append r2) (by rw[List.length_append];lia),rfl,q _ I.fresh⟩
noncomputable def qg8:R2:=fun x y H Q=>∃ l k xs,x = .ref l/\y = .int k/\H l=some (.lst xs) /\ -(2^63) <= k/\k<2^63/\xs.length*k.toNat <= sizeLine /\
 ∀ p,H p=none->Q (.ref p) (upd H p (.lst (List.replicate k.toNat xs).flatten))
theorem len_rep {α:Type} (xs:List α) (k:Nat):(List.replicate k xs).flatten.length=k*xs.length:=by
 induction k with
 | zero=>simp
 | succ k ih=>rw[List.replicate_succ,List.flatten_cons,List.length_append,ih,Nat.succ_mul,Nat.add_comm]
theorem jH:OpR X (binaryOp .Mult) qg8:=by
 intro pins s σ H x y v u Q I rx ry h
 obtain⟨l,k,xs,rfl,rfl,hH,h1,h2,hz,q⟩:=h
 cases rx
 obtain⟨t,rfl⟩:=ry
 obtain⟨z,its,n,r,hl,e⟩:=I.Jz hH
 have hlen:its.toArray.size*k.toNat <= sizeLine:=by rw[List.size_toArray,<- hl];exact hz
 have hcap:¬ its.toArray.size*k.toNat>(2^63-1) / 8:=by
  have:(sizeLine:Nat) <= (2^63-1) / 8:=by decide
  lia
 have hfit:¬ (!Builtin.List.listFitsIndex k)=true:=by
  rw[fitsIndex_both h1 h2]
  exact Bool.false_ne_true
 have hlong:¬ Builtin.List.listTooLong (its.toArray.size*k.toNat)=true:=by
  rw[VD hlen]
  exact Bool.false_ne_true
 have hnew:List.foldl (fun x1 x2=>x1++x2) #[] (List.replicate (if its.toArray.isEmpty=true then 0 else k.toNat) its.toArray)=(List.replicate k.toNat its).flatten.toArray:=by
  have f0:∀ m:Nat,List.foldl (fun x1 x2=>x1++x2) #[] (List.replicate m its.toArray)=(List.replicate m its).flatten.toArray:=fun m=>by
   have:=foldl_rep its m []
   rw[List.nil_append] at this
   exact this
  rw[f0]
  cases its with
  | nil=>simp
  | cons a r'=>rw[if_neg (by simp)]
 refine wpAny_binaryOp_repeat_ref (T:="list") (U:="int") (by decide) ⟨_,e,rfl⟩ (fun s'=>typeIs_int s' k t) noFill_list_mul F.fills_int_mul F.slot_int_rmul repeat_list F.slot_int_index.lookup
  (call_meets F.slot_int_rmul (typeIs_int s k t) F.entry_int_rmul (F.args_int_rmul_2 _ _) (int___rmul___int_list k t l its.toArray n)
   ⟨e,rfl,⟨_,e,rfl⟩,call_meets F.slot_list_mul ⟨_,e,rfl⟩ F.entry_list_mul (F.args_list_mul_2 _ _) (AutoListH.list___mul___list_int_3 l its.toArray n k t hfit hcap hlong) ⟨e,?_⟩⟩)
 rw[hnew]
 exact⟨.ref _,_,I.qeu (t':=s.toks) (r.rep k.toNat) (by rw[len_rep,Nat.mul_comm];exact hz),rfl,q _ I.fresh⟩
end
mutual
inductive Dp (K:PySem.W.Frag) (H:Hp):V->PyData->Prop
 | non:Dp K H .non .none
 | bl (b:Bool):Dp K H (.bl b) (.bool b)
 | int (i:Int):Dp K H (.int i) (.int i)
 | str (x:Str):Dp K H (.str x) (.str x)
 | lst {a:Addr}{xs:List V}{ds:List PyData}:SqL K H a xs->VO K H xs ds->Dp K H (.ref a) (.list ds)
 | tup {a:Addr}{xs:List V}{ds:List PyData}:SqT K H a xs->VO K H xs ds->Dp K H (.ref a) (.tuple ds)
inductive VO (K:PySem.W.Frag) (H:Hp):List V->List PyData->Prop
 | nil:VO K H [] []
 | cons {v:V}{vs:List V}{d:PyData}{ds:List PyData}:Dp K H v d->VO K H vs ds->VO K H (v::vs) (d::ds)
end
section
variable {X:Cx}{pins:List (Addr × Obj)}{σ:St}{H:Hp}{s:Shared}
mutual
theorem Dp.reads (I:Inv X pins σ H s):∀ (d:PyData) (v:V) (u:Value),Dp X.K H v d->RelV v u->∃ as,Reads s.heap u d as
 | .none,_,_,h,r=>by
  cases h
  cases r
  exact⟨_,Reads.none⟩
 | .bool b,_,_,h,r=>by
  cases h
  cases r
  exact⟨_,Reads.bool b⟩
 | .int i,_,_,h,r=>by
  cases h
  obtain⟨t,rfl⟩:=r
  exact⟨_,Reads.int i t⟩
 | .str x,_,_,h,r=>by
  cases h
  obtain⟨t,rfl⟩:=r
  exact⟨_,Reads.str x t⟩
 | .list ds,_,_,h,r=>by
  cases h with
  | lst hs ha =>
   cases r
   obtain⟨its,rv,⟨o,n,ho,hc,_,hd⟩,_⟩:=I.list hs
   obtain⟨as,hr⟩:=Dp.readsAll I ds _ its ha rv
   exact⟨_,Reads.list ho hc hd hr⟩
 | .tuple ds,_,_,h,r=>by
  cases h with
  | tup hs ha =>
   cases r
   obtain⟨its,rv,⟨o,ho,hc,n,hd⟩,_⟩:=I.tuple hs
   obtain⟨as,hr⟩:=Dp.readsAll I ds _ its ha rv
   exact⟨_,Reads.tuple ho hc hd hr⟩
 | .dict _,_,_,h,_=>by cases h
theorem Dp.readsAll (I:Inv X pins σ H s):∀ (ds:List PyData) (vs:List V) (us:List Value),VO X.K H vs ds->Vals vs us->∃ as,ReadsAll s.heap us ds as
 | [],_,_,h,r=>by
  cases h
  cases r
  exact⟨_,ReadsAll.nil⟩
 | d::ds,_,_,h,r=>by
  cases h with
  | cons h1 h2 =>
   cases r with
   | cons r1 r2 =>
    obtain⟨as,q1⟩:=Dp.reads I d _ _ h1 r1
    obtain⟨bs,q2⟩:=Dp.readsAll I ds _ _ h2 r2
    exact⟨_,ReadsAll.cons q1 q2⟩
end
end
section
variable {X:Cx}
noncomputable def qgk (K:PySem.W.Frag):R2:=fun x y H Q=>∃ d e,Dp K H x d/\Dp K H y e/\SeqAt.shaped d=true/\SeqAt.shaped e=true/\Q (.bl (PyData.eqv d e)) H
noncomputable def qgp (K:PySem.W.Frag):R2:=fun x y H Q=>∃ d e,Dp K H x d/\Dp K H y e/\SeqAt.shaped d=true/\SeqAt.shaped e=true/\Q (.bl (!PyData.eqv d e)) H
theorem qf5 (hu:X.A.units+64<cLine):OpR X (compareOp .Eq) (qgk X.K):=by
 intro pins s σ H x y v u Q I rx ry h
 obtain⟨d,e,hd,he,sd,se,q⟩:=h
 obtain⟨as,r1⟩:=Dp.reads I d x v hd rx
 obtain⟨bs,r2⟩:=Dp.reads I e y u he ry
 exact SeqAt.compareEq_shaped r1 r2 sd se hu ⟨.bl _,H,I,rfl,q⟩
theorem qf6 (hu:X.A.units+64<cLine):OpR X (compareOp .NotEq) (qgp X.K):=by
 intro pins s σ H x y v u Q I rx ry h
 obtain⟨d,e,hd,he,sd,se,q⟩:=h
 obtain⟨as,r1⟩:=Dp.reads I d x v hd rx
 obtain⟨bs,r2⟩:=Dp.reads I e y u he ry
 exact SeqAt.compareNe_shaped r1 r2 sd se hu ⟨.bl _,H,I,rfl,q⟩
end
noncomputable abbrev qcM (h:Heap) (c:Addr) (v:Option Value):Prop:=h.IsCell c v
noncomputable def qhv (scope sc:Scope):Scope :=
 {scope with names:=scope.names.map fun (n,k)=>if (k == .free&&sc.kind == .function&&sc.names.lookup n==some .cell) then (n,.cell) else (n,k)}
noncomputable def qQ (cells:List (Str × Addr)):List (Str × NameKind)->List (Str × Addr)->List (Str × Addr)
 | [],acc=>acc
 | (n,k)::r,acc=>if k == .free then qQ cells r ((n,(cells.lookup n).getD 0)::acc) else qQ cells r acc
theorem jR (env:Env) (f:Str × NameKind->List (Str × Addr)->Sem (ForInStep (List (Str × Addr))))
  (hf:∀ n k c,f (n,k) c=if k == .free then (do let a <- cellOf env n;pure (.yield ((n,a)::c))) else pure (.yield c)) :
  ∀ (names:List (Str × NameKind)) (acc:List (Str × Addr)),(∀ y∈names,y.2 = .free->∃ c,env.cells.lookup y.1=some c)->forIn names acc f=pure (qQ env.cells names acc)
 | [],acc,_=>by rw[List.forIn_nil];rfl
 | (n,k)::r,acc,h=>by
  rw[List.forIn_cons,hf]
  have ih:=fun acc=>jR env f hf r acc fun y hy=>h y (List.mem_cons_of_mem _ hy)
  unfold qQ
  by_cases hk:(k==NameKind.free)=true
  ·rw[if_pos hk,if_pos hk]
   obtain⟨c,hc⟩:=h (n,k) List.mem_cons_self (by simpa using hk)
   have e:cellOf env n=pure c:=by unfold cellOf;rw[hc]
   rw[e]
   have e2:(env.cells.lookup n).getD 0=c:=by rw[hc];rfl
   rw[e2]
   exact ih _
  ·rw[if_neg hk,if_neg hk]
   exact ih _
theorem V0 {scope:Scope}{env:Env} (h:∀ y∈scope.names,y.2 = .free->∃ c,env.cells.lookup y.1=some c):closureFor scope env=pure (qQ env.cells scope.names []):=by
 simp only[closureFor]
 rw[jR env _ (fun n k c=>rfl) scope.names [] h]
 rfl
theorem mem_lookup {α:Type}:∀ {l:List (Str × α)}{n:Str}{c:α},(n,c)∈l->∃ c',l.lookup n=some c'
 | (k,v)::r,n,c,h=>by
  rw[List.lookup_cons]
  cases hb:n==k with
  | true=>exact⟨_,rfl⟩
  | false =>
   rcases List.mem_cons.mp h with e | h
   ·cases e;simp at hb
   ·exact mem_lookup h
theorem yb {cells:List (Str × Addr)}:∀ {names:List (Str × NameKind)}{acc:List (Str × Addr)}{n:Str}{c:Addr},(n,c)∈qQ cells names acc->(n,c)∈acc\/((n,.free)∈names/\c=(cells.lookup n).getD 0)
 | [],_,_,_,h=>.inl h
 | (m,k)::r,acc,n,c,h=>by
  unfold qQ at h
  split at h
  ·rename_i hk
   have hk:k = .free:=by simpa using hk
   rcases yb h with h | ⟨h1,h2⟩
   ·rcases List.mem_cons.mp h with e | h
    ·cases e;exact .inr ⟨hk▸List.mem_cons_self,rfl⟩
    ·exact .inl h
   ·exact .inr ⟨List.mem_cons_of_mem _ h1,h2⟩
  ·rcases yb h with h | ⟨h1,h2⟩
   ·exact .inl h
   ·exact .inr ⟨List.mem_cons_of_mem _ h1,h2⟩
theorem uG {cells:List (Str × Addr)}:∀ {names:List (Str × NameKind)}{acc:List (Str × Addr)}{p:Str × Addr},p∈acc->p∈qQ cells names acc
 | [],_,_,h=>h
 | (m,k)::r,acc,p,h=>by
  unfold qQ
  split
  ·exact uG (List.mem_cons_of_mem _ h)
  ·exact uG h
theorem y3 {cells:List (Str × Addr)}:∀ {names:List (Str × NameKind)}{acc:List (Str × Addr)}{n:Str},(n,.free)∈names->(n,(cells.lookup n).getD 0)∈qQ cells names acc
 | (m,k)::r,acc,n,h=>by
  unfold qQ
  rcases List.mem_cons.mp h with e | h
  ·cases e
   exact uG List.mem_cons_self
  ·split
   ·exact y3 h
   ·exact y3 h
theorem xp:∀ {names:List (Str × NameKind)}{h:Heap}{acc:List (Str × Addr)}{x:Str}{c:Addr},(x,c)∈cellsFrom h.objs.size names acc ->
  (x,c)∈acc\/((x,.cell)∈names/\h.objs.size <= c/\qcM (pushCells h names) c none)
 | [],_,_,_,_,h=>.inl h
 | (n,k)::r,h,acc,x,c,hm=>by
  unfold cellsFrom at hm
  unfold pushCells
  split at hm
  ·rename_i hk
   rw[if_pos hk]
   have hk:k = .cell:=by simpa using hk
   rw[<- Heap.size_push h {cls:=.type "cell",data:=.cell none}] at hm
   rcases xp hm with hm | ⟨h1,h2,h3⟩
   ·rcases List.mem_cons.mp hm with e | hm
    ·cases e
     exact .inr ⟨hk▸List.mem_cons_self,Nat.le_refl _,_,pushCells_keeps r _ _ _ (Heap.get?_push_size _ rfl),rfl⟩
    ·exact .inl hm
   ·rw[Heap.size_push] at h2
    exact .inr ⟨List.mem_cons_of_mem _ h1,Nat.le_of_succ_le h2,h3⟩
  ·rename_i hk
   rw[if_neg hk]
   rcases xp hm with hm | ⟨h1,h2,h3⟩
   ·exact .inl hm
   ·exact .inr ⟨List.mem_cons_of_mem _ h1,h2,h3⟩
theorem uR:∀ {names:List (Str × NameKind)}{n:Nat}{acc:List (Str × Addr)}{p:Str × Addr},p∈acc->p∈cellsFrom n names acc
 | [],_,_,_,h=>h
 | (m,k)::r,n,acc,p,h=>by
  unfold cellsFrom
  split
  ·exact uR (List.mem_cons_of_mem _ h)
  ·exact uR h
theorem QB:∀ {names:List (Str × NameKind)}{n:Nat}{acc:List (Str × Addr)}{x:Str},(x,.cell)∈names->∃ c,(x,c)∈cellsFrom n names acc
 | (m,k)::r,n,acc,x,h=>by
  unfold cellsFrom
  rcases List.mem_cons.mp h with e | h
  ·cases e
   exact⟨n,uR List.mem_cons_self⟩
  ·split
   ·exact QB h
   ·exact QB h
theorem Qo:∀ {names:List (Str × NameKind)}{h:Heap}{acc:List (Str × Addr)}{x y:Str}{c:Addr},(∀ p∈acc,p.2<h.objs.size)->(∀ x y c,(x,c)∈acc->(y,c)∈acc->x=y) ->
  (x,c)∈cellsFrom h.objs.size names acc->(y,c)∈cellsFrom h.objs.size names acc->x=y
 | [],_,_,_,_,_,_,hi,h1,h2=>hi _ _ _ h1 h2
 | (n,k)::r,h,acc,x,y,c,hl,hi,h1,h2=>by
  unfold cellsFrom at h1 h2
  split at h1
  ·rename_i hk
   rw[if_pos hk] at h2
   rw[<- Heap.size_push h {cls:=.type "cell",data:=.cell none}] at h1 h2
   refine Qo (h:=h.push _) (fun p hp=>?_) (fun x y c a b=>?_) h1 h2
   ·rw[Heap.size_push]
    rcases List.mem_cons.mp hp with rfl | hp
    ·exact Nat.lt_succ_self _
    ·exact Nat.lt_succ_of_lt (hl p hp)
   ·rcases List.mem_cons.mp a with e | a <;> rcases List.mem_cons.mp b with e' | b
    ·cases e;cases e';rfl
    ·cases e;exact absurd (hl _ b) (Nat.lt_irrefl _)
    ·cases e';exact absurd (hl _ a) (Nat.lt_irrefl _)
    ·exact hi _ _ _ a b
  ·rename_i hk
   rw[if_neg hk] at h2
   exact Qo hl hi h1 h2
theorem X1 {M:Model}{A:Around}{E:Value->Shared->Prop}{s:Shared}{scope:Scope}{globals:Addr}{closure:List (Str × Addr)}{qual:Str}{func:Option Addr}{code:Value}{around:Env}{builtins:Addr}{Q:Env->Shared->Prop}
  (h:Q (newEnv scope s.heap.objs.size globals (cellsFrom (s.heap.objs.size+1) scope.names closure) qual func code (some around) builtins)
   {s with heap:=pushCells (s.heap.push {cls:=.type "dict",data:=.dict #[]}) scope.names}) :
  wpAny M A (newFunctionEnv scope globals closure [] qual func code (some around) builtins) Q E s:=by
 simp only[newFunctionEnv,Option.isSome_some,if_true]
 refine wpAny_bind (wpAny_alloc ?_)
 refine wpAny_bind (wpAny_layCells _ (fun n k c=>rfl) scope.names closure _ _ ?_)
 rw[show ({s with heap:=s.heap.push {cls:=.type "dict",data:=.dict #[]} }:Shared).heap.objs.size=s.heap.objs.size+1 from Heap.size_push ..]
 rw[List.forIn_nil]
 exact wpAny_bind (wpAny_pure (wpAny_pure h))
theorem uq {sc:Scope}:∀ {names:List (Str × NameKind)}{x:Str}{k:NameKind},
  (names.map fun (n,k)=>if (k==NameKind.free&&sc.kind == .function&&sc.names.lookup n==some .cell) then (n,NameKind.cell) else (n,k)).lookup x=some k ->
  ∃ k',names.lookup x=some k'/\(k=k'\/(k' = .free/\k = .cell))
 | [],_,_,h=>by simp at h
 | (n,k₀)::r,x,k,h=>by
  have ih := @uq sc r x k
  have h':List.lookup x ((if (k₀==NameKind.free&&sc.kind == .function&&sc.names.lookup n==some .cell)=true then (n,NameKind.cell) else (n,k₀))::(r.map _))=some k:=h
  cases hx:x==n with
  | true =>
   simp only[List.lookup_cons,hx]
   by_cases hc:(k₀==NameKind.free&&sc.kind == .function&&sc.names.lookup n==some .cell)=true
   ·rw[if_pos hc] at h'
    simp only[List.lookup_cons,hx] at h'
    cases h'
    simp only[Bool.and_eq_true,beq_iff_eq] at hc
    exact⟨k₀,rfl,.inr ⟨hc.1.1,rfl⟩⟩
   ·rw[if_neg hc] at h'
    simp only[List.lookup_cons,hx] at h'
    cases h'
    exact⟨_,rfl,.inl rfl⟩
  | false =>
   simp only[List.lookup_cons,hx]
   by_cases hc:(k₀==NameKind.free&&sc.kind == .function&&sc.names.lookup n==some .cell)=true
   ·rw[if_pos hc] at h'
    simp only[List.lookup_cons,hx] at h'
    exact ih h'
   ·rw[if_neg hc] at h'
    simp only[List.lookup_cons,hx] at h'
    exact ih h'
structure qah (N:List Str) (sc scope:Scope) (own:List (Str × Nat)):Prop where
 kind:scope.kind = .function
 uniq:∀ y∈scope.names,scope.names.lookup y.1=some y.2
 ix:∀ p∈own,N[p.2]?=some p.1
 free:∀ y∈scope.names,y.2 = .free->sc.names.lookup y.1=some .cell\/sc.names.lookup y.1=some .free
 own:∀ y∈scope.names,y.2 = .local\/y.2 = .cell->y.1∈own.map (·.1)\/y.1∉N
noncomputable def wipe (σ:St):List Nat->St
 | []=>σ
 | v::vs=>(wipe σ vs).set v none
theorem v5 (σ:St):∀ vs:List Nat,(wipe σ vs).length=σ.length
 | []=>rfl
 | v::vs=>by unfold wipe;rw[List.length_set,v5 σ vs]
theorem zz {σ:St}{i:Nat}{x:V}:∀ {vs:List Nat},(wipe σ vs)[i]?=some (some x)->σ[i]?=some (some x)/\i∉vs
 | [],h=>⟨h,by simp⟩
 | v::vs,h=>by
  unfold wipe at h
  by_cases hi:v=i
  ·subst hi
   by_cases hv:v<(wipe σ vs).length
   ·rw[List.getElem?_set_self hv] at h;cases h
   ·rw[List.getElem?_eq_none (by simpa using hv)] at h;cases h
  ·rw[List.getElem?_set_ne hi] at h
   obtain⟨h1,h2⟩:=zz h
   exact⟨h1,by simp only[List.mem_cons,not_or];exact⟨fun e=>hi e.symm,h2⟩⟩
noncomputable abbrev Cx.blk (X:Cx) (s:Shared) (H:Hp) (scope:Scope) (cenv:Env) (fp:List Addr):Cx:={X with s_0:=s,H_0:=H,env:=cenv,outer:=X.stack,ex:=fp,fn:=fun x=>scope.names.lookup x==some .cell,pn:=[],xe:=fun _ _=>False}
section
variable {X:Cx}{pins:List (Addr × Obj)}{σ:St}{H:Hp}{s:Shared}
theorem Ut {scope:Scope}{own:List (Str × Nat)}{fp:List Addr} (I:Inv X pins σ H s) (ok:qah X.N X.env.scope scope own) (hN:X.N.Nodup) (hfp:∀ b∈fp,Qk X pins H b/\b<s.heap.objs.size) :
  Inv (X.blk s H scope (compEnvC scope (cellsFrom (s.heap.objs.size+1) scope.names (qQ X.env.cells scope.names [])) s.heap.objs.size X.env) fp) [] (wipe σ (own.map (·.2))) H {s with heap:=pushCells (s.heap.push {cls:=.type "dict",data:=.dict #[]}) scope.names}:=by
 have hfree:∀ y∈scope.names,y.2 = .free->∃ c,X.env.cells.lookup y.1=some c:=fun y hy e=>by
  rcases ok.free y hy e with k | k
  ·exact I.ok.has _ (.inl k)
  ·exact I.ok.has _ (.inr k)
 generalize hcenv:compEnvC scope (cellsFrom (s.heap.objs.size+1) scope.names (qQ X.env.cells scope.names [])) s.heap.objs.size X.env=cenv
 have kp:∀ b o,s.heap.get? b=some o->(pushCells (s.heap.push {cls:=.type "dict",data:=.dict #[]}) scope.names).get? b=some o:=fun b o e=>pushCells_keeps _ _ _ _ (Heap.get?_push_of_some _ e)
 have hL:cenv.locals=s.heap.objs.size:=by rw[<- hcenv];rfl
 have hcl:cenv.cells=cellsFrom (s.heap.objs.size+1) scope.names (qQ X.env.cells scope.names []):=by rw[<- hcenv];rfl
 have hsc:cenv.scope=qhv scope X.env.scope:=by rw[<- hcenv];rfl
 rw[<- Heap.size_push s.heap {cls:=.type "dict",data:=.dict #[]}] at hcl
 have cm:∀ {y c},(y,c)∈qQ X.env.cells scope.names []->X.env.cells.lookup y=some c/\c<s.heap.objs.size:=fun {y c} hm=>by
  rcases yb hm with hm | ⟨h1,rfl⟩
  ·cases hm
  ·obtain⟨c,hc⟩:=hfree _ h1 rfl
   rw[hc]
   obtain⟨w,z⟩:=I.cell _ _ hc
   exact⟨rfl,z.lt⟩
 have mem:∀ {y c},cenv.cells.lookup y=some c->(X.env.cells.lookup y=some c/\c<s.heap.objs.size)\/(s.heap.objs.size+1 <= c/\qcM (pushCells (s.heap.push {cls:=.type "dict",data:=.dict #[]}) scope.names) c none):=fun {y c} e=>by
  rw[hcl] at e
  rcases xp (PySem.mem_of_lookup e) with hm | ⟨_,h2,h3⟩
  ·exact .inl (cm hm)
  ·rw[Heap.size_push] at h2;exact .inr ⟨h2,h3⟩
 have look:∀ {y},scope.names.lookup y=some .free->∃ c,cenv.cells.lookup y=some c/\X.env.cells.lookup y=some c:=fun {y} hl=>by
  have hy:(y,NameKind.free)∈scope.names:=PySem.mem_of_lookup hl
  obtain⟨c',e'⟩:=mem_lookup (uR (names:=scope.names) (n:=(s.heap.push {cls:=.type "dict",data:=.dict #[]}).objs.size) (y3 (cells:=X.env.cells) (acc:=[]) hy))
  rw[<- hcl] at e'
  refine⟨c',e',?_⟩
  rw[hcl] at e'
  rcases xp (PySem.mem_of_lookup e') with hm | ⟨h1,_,_⟩
  ·exact (cm hm).1
  ·have:=ok.uniq _ h1
   rw[hl] at this;cases this
 have okB:(X.blk s H scope cenv fp).Ok:=by
  refine⟨I.ok.mod,by show cenv.scope.kind=_;rw[hsc];exact ok.kind,by show cenv.globals=_;rw[<- hcenv];exact I.ok.glob,by show cenv.builtins=_;rw[<- hcenv];exact I.ok.blt,by show s.heap.objs.size <= cenv.locals;rw[hL];exact Nat.le_refl _,
   fun y z c e1 e2=>?_,fun y hy=>?_,fun y c z e=>?_,I.ok.hd,I.ok.frames,.inl rfl,fun b hb=>⟨?_,fun y c e z=>?_⟩,I.bs,Nat.le_trans I.ok.bsz I.sz,fun b o e hb=>?_,fun b hb z=>?_,I.stack,I.YX⟩
  ·have e1:cenv.cells.lookup y=some c:=e1
   have e2:cenv.cells.lookup z=some c:=e2
   rw[hcl] at e1 e2
   refine Qo (fun p hp=>?_) (fun y z c a b=>I.ok.inj y z c (cm a).1 (cm b).1) (PySem.mem_of_lookup e1) (PySem.mem_of_lookup e2)
   rw[Heap.size_push]
   exact Nat.lt_succ_of_lt (cm (y:=p.1) (c:=p.2) hp).2
  ·show ∃ c,cenv.cells.lookup y=some c
   have key:∀ k,cenv.kindOf y=some k->(k = .cell\/k = .free)->∃ c,cenv.cells.lookup y=some c:=fun k hk hk'=>by
    unfold Env.kindOf at hk
    rw[hsc] at hk
    obtain⟨k',e,r⟩:=uq hk
    have:k' = .cell\/k' = .free:=by
     rcases r with rfl | ⟨rfl,_⟩
     ·exact hk'
     ·exact .inr rfl
    rcases this with rfl | rfl
    ·obtain⟨c,hm⟩:=QB (n:=(s.heap.push {cls:=.type "dict",data:=.dict #[]}).objs.size) (acc:=qQ X.env.cells scope.names []) (PySem.mem_of_lookup e)
     obtain⟨c',e'⟩:=mem_lookup hm
     exact⟨c',by rw[hcl];exact e'⟩
    ·obtain⟨c,h1,_⟩:=look e
     exact⟨c,h1⟩
   rcases hy with hy | hy
   ·exact key _ hy (.inl rfl)
   ·exact key _ hy (.inr rfl)
  ·have z:(scope.names.lookup y==some NameKind.cell)=true:=z
   have z:scope.names.lookup y=some .cell:=by simpa using z
   have e:cenv.cells.lookup y=some c:=e
   rw[hcl] at e
   rcases xp (PySem.mem_of_lookup e) with hm | ⟨_,h2,_⟩
   ·rcases yb hm with hm | ⟨h1,_⟩
    ·cases hm
    ·have q:=ok.uniq _ h1
     rw[z] at q;cases q
   ·rw[Heap.size_push] at h2
    exact Nat.le_of_succ_le h2
  ·show b≠cenv.locals
   rw[hL];exact Nat.ne_of_lt (hfp b hb).2
  ·have e:cenv.cells.lookup y=some c:=e
   rcases mem e with ⟨h1,_⟩ | ⟨h1,_⟩
   ·exact (hfp b hb).1.2.2.2.2.1 y c h1 z
   ·have h2:s.heap.objs.size+1 <= b:=by rw[<- z];exact h1
    exact absurd (Nat.lt_of_lt_of_le (hfp b hb).2 (Nat.le_of_succ_le h2)) (Nat.lt_irrefl _)
  ·rcases (hfp b hb).1.2.2.2.1 with z | z
   ·exact I.ok.noex b o e z
   ·exact absurd (Nat.lt_of_lt_of_le (Heap.lt_size e) (Nat.le_trans I.ok.bsz z)) (Nat.lt_irrefl _)
  ·rcases List.mem_cons.mp (I.y8 b z) with z | z
   ·exact (hfp b hb).1.2.1 z
   ·exact (hfp b hb).1.2.2.1 z
 refine⟨okB,rfl,I.bare,Un.kept kp,⟨fun _=>none,?_,fun i y av e1 e2 e3=>?_⟩,fun y c e=>?_,?_,fun y c e=>?_,fun p hp=>?_,I.hok.kept kp,by rw[v5];exact I.len⟩
 ·show Heap.Ns _ cenv.locals _
  rw[hL]
  exact Heap.Ns.keeps (Heap.Ns.new ..) fun b o e=>pushCells_keeps _ _ _ _ e
 ·obtain⟨e2,hne⟩:=zz e2
  have hfr:scope.names.lookup y=some .free/\(cenv.kindOf y=some .cell\/cenv.kindOf y=some .free):=by
   have key:∀ k,cenv.scope.names.lookup y=some k->k = .local\/k = .cell\/k = .free->scope.names.lookup y=some .free/\(cenv.kindOf y=some .cell\/cenv.kindOf y=some .free):=fun k hk hk'=>by
    have hk0:=hk
    rw[hsc] at hk
    obtain⟨k',e,r⟩:=uq hk
    have no:¬ (k' = .local\/k' = .cell):=fun hh=>by
     rcases ok.own _ (PySem.mem_of_lookup e) hh with e' | e'
     ·obtain⟨p,hp,hpy⟩:=List.mem_map.mp e'
      have e3:=ok.ix p hp
      have:p.1=y:=hpy
      rw[this] at e3
      exact hne (List.mem_map.mpr ⟨p,hp,VE hN e3 e1⟩)
     ·exact e' (List.mem_of_getElem? e1)
    rcases r with rfl | ⟨rfl,rfl⟩
    ·rcases hk' with rfl | rfl | rfl
     ·exact absurd (.inl rfl) no
     ·exact absurd (.inr rfl) no
     ·exact⟨e,.inr hk0⟩
    ·exact⟨e,.inl hk0⟩
   have e3:Vis cenv.scope y:=e3
   rcases e3 with e3 | e3 | e3
   ·exact key _ e3 (.inl rfl)
   ·exact key _ e3 (.inr (.inl rfl))
   ·exact key _ e3 (.inr (.inr rfl))
  obtain⟨m,hn,hl⟩:=I.loc
  have hvis:Vis X.env.scope y:=(ok.free _ (PySem.mem_of_lookup hfr.1) rfl).elim (fun k=>.inr (.inl k)) (fun k=>.inr (.inr k))
  obtain⟨w,r,q⟩:=hl i y av e1 e2 hvis
  refine⟨w,r,.inr ⟨hfr.2,?_⟩⟩
  obtain⟨c,h1,h2⟩:=look hfr.1
  rcases q with ⟨k,_⟩ | ⟨_,c',e',z⟩
  ·have k:X.env.scope.names.lookup y=some .local:=k
   rcases ok.free _ (PySem.mem_of_lookup hfr.1) rfl with k' | k' <;> rw[show X.env.scope.names.lookup y=_ from k'] at k <;> cases k
  ·rw[h2] at e';cases e'
   exact⟨c,h1,z.keeps kp⟩
 ·have e:cenv.cells.lookup y=some c:=e
  rcases mem e with ⟨h1,_⟩ | ⟨_,z⟩
  ·obtain⟨w,z⟩:=I.cell y c h1
   exact⟨w,z.keeps kp⟩
  ·exact⟨_,z⟩
 ·show H cenv.locals=none
  rw[hL];exact I.hok.fresh (Nat.le_refl _)
 ·have e:cenv.cells.lookup y=some c:=e
  rcases mem e with ⟨h1,_⟩ | ⟨h1,_⟩
  ·exact I.freeC y c h1
  ·exact I.hok.fresh (Nat.le_of_succ_le h1)
 ·exact absurd (show p∈([]:List (Addr × Obj))++[] from hp) (by simp)
theorem qfl {E:Value->Shared->Prop}{D:Addr}{xs:List V}{y:V}{v:Value}{Q:Value->Shared->Prop} (I:Inv X pins σ H s) (hD:H D=some (.lst xs)) (hz:xs.length<sizeLine) (r:RelV y v)
  (h:∀ s',Inv X pins σ (upd H D (.lst (xs++[y]))) s'->Q .none s'):wpAny (model X.prog X.w) X.A (call (.builtin "list.append") [.ref D,v]) Q E s:=by
 obtain⟨hz',its,n,ri,e⟩:=I.hok D _ hD
 have hl:=ri.length
 refine append_at (hsz:=by rw[List.size_toArray];lia) e fun h' sb ho'=>?_
 refine h {s with heap:=h'} (I.write (t':=s.toks) (by rw[hD];trivial) (.inl rfl) (fun b u hb q=>(sb.2 b hb).trans q) ⟨_,ho'⟩ ⟨by rw[List.length_append];exact hz,its++[v],n+1,ri.append (.cons r .nil),?_⟩)
 rw[ho']
 simp
noncomputable def PTs (X:Cx) (ifs:List Expr) (t:TT):Prop :=
 ∀ (pins:List (Addr × Obj)) (s:Shared) (σ:St) (H:Hp) (Q:Bool->Hp->Prop),Inv X pins σ H s->t σ H Q ->
  wpAny (model X.prog X.w) X.A (forIn ifs true fun c r=>if r=true then do let ok <- isTrue c X.env (eval c X.env);pure (ForInStep.yield ok) else pure (ForInStep.yield r)) (TP X pins σ Q) X.xe s
noncomputable def zK:TT:=fun _ H Q=>Q true H
theorem qdB:PTs X [] zK:=fun _ _ _ H _ I h=>wpAny_tests_nil ⟨H,I,h⟩
end
theorem qga {α:Type}{t:Sem α}{Q Q':α->Shared->Prop}{M:Model}{A:Around}{E:Value->Shared->Prop}{s:Shared} (h:wpAny M A t Q (fun _ _=>False) s) (hQ:∀ a s,Q a s->Q' a s):wpAny M A t Q' E s:=wpAny_mono h hQ fun _ _ z=>False.elim z
theorem Ya {prog:Program}{w:World}{A:Around}{R:Result->Shared->Prop}{s:Shared}{elt target iter:Expr}{ifs:List Expr}{scope:Scope}{pos:Pos}{it acc:Value}{env:Env} (I:Nat->Shared->Prop)
  (turn:∀ n s,I n s->wpAny (model prog w) A (pyNext it) (fun r s₁=>match r with
   | none=>R (.ok .next) s₁
   | some v=>wpAny (model prog w) A (letOwnedTupleGo target it v) (fun _ s₁'=>wpAny (model prog w) A (assign target env v) (fun _ s₂ =>
     wpAny (model prog w) A (forIn ifs true fun c r=>if r=true then do let ok <- isTrue c env (eval c env);pure (ForInStep.yield ok) else pure (ForInStep.yield r)) (fun ok s₃ =>
      if ok=true then wpAny (model prog w) A (eval elt env) (fun x s₄ =>
       wpAny (model prog w) A (call (.builtin "list.append") [acc,x]) (fun _ s₅=>∃ m,m<n/\I m s₅) (notedBy (model prog w) A env fun e s'=>R (.error e) s') s₄) (notedBy (model prog w) A env fun e s'=>R (.error e) s') s₃
      else ∃ m,m<n/\I m s₃) (notedBy (model prog w) A env fun e s'=>R (.error e) s') s₂) (notedBy (model prog w) A env fun e s'=>R (.error e) s') s₁') (notedBy (model prog w) A env fun e s'=>R (.error e) s') s₁) (notedBy (model prog w) A env fun e s'=>R (.error e) s') s)
  (n:Nat) (h:I n s) :
  codeAny (model prog w) A (.compLoop (.ListComp elt [⟨target,iter,ifs,0⟩] scope pos) 0 it acc env) R s:=by
 refine codeAny_loop rfl I (fun n s hI=>?_) n h
 show wpAny _ A ((compTurn (.ListComp elt [⟨target,iter,ifs,0⟩] scope pos) 0 it acc env).onRaise (fun x=>do noteFrame x env;theTreesLotGoes x)) _ _ s
 refine wpAny_noted ?_
 rw[compTurn_list]
 refine wpAny_bind (wpAny_standAt (wpAny_bind (wpAny_mono (turn n s hI) (fun r s₁ h₁=>?_) fun _ _ h'=>h')))
 cases r with
 | none=>exact wpAny_pure h₁
 | some v =>
  refine wpAny_bind (wpAny_mono h₁ (fun _ s₁' h₁'=>?_) fun _ _ h'=>h')
  refine wpAny_bind (wpAny_mono h₁' (fun _ s₂ h₂=>wpAny_bind (wpAny_mono h₂ (fun ok s₃ h₃=>?_) fun _ _ h'=>h')) fun _ _ h'=>h')
  cases ok with
  | false=>exact wpAny_pure ⟨rfl,h₃⟩
  | true =>
   exact wpAny_bind (wpAny_bind (wpAny_mono h₃ (fun x s₄ h₄=>wpAny_bind (wpAny_mono h₄ (fun _ s₅ h₅=>wpAny_pure (wpAny_pure ⟨rfl,h₅⟩)) fun _ _ h'=>h')) fun _ _ h'=>h'))
section
variable {X:Cx}
noncomputable def tLc (wi:TI) (g:TG) (tt:TT) (te:TE) (vs:List Nat):TE:=fun σ H Q=>wi σ H fun J H1=>∀ D,H1 D=none->∃ W:Nat->Nat->Hp->Prop,(∃ m,W 0 m (upd H1 D (.lst [])))/\∀ i m H,W i m H ->
 (J.stop i H/\Q (.ref D) H)\/(J.go i H/\∃ Nx:Hp->Prop,(∀ H',Nx H'->∃ m',m'<m/\W (i+1) m' H')/\∀ x H',J.yld i H x H'->g x (wipe σ vs) H' fun σ2 H2=>wipe σ2 vs=wipe σ vs/\tt σ2 H2 fun b H3 =>
  if b=true then te σ2 H3 fun y H4=>∃ acc,H4 D=some (.lst acc)/\acc.length<sizeLine/\Nx (upd H4 D (.lst (acc++[y]))) else Nx H3)
end
noncomputable def jw (N:List Str) (sc scope:Scope) (own:List (Str × Nat)):Bool :=
 (match scope.kind with | .function=>true | _=>false)&&(scope.names.all fun y=>decide (scope.names.lookup y.1=some y.2))&&(own.all fun p=>decide (N[p.2]?=some p.1)) &&
  (scope.names.all fun y=>match y.2 with
   | .free=>(match sc.names.lookup y.1 with | some .cell=>true | some .free=>true | _=>false)
   | .local=>decide (y.1∈own.map (·.1))||decide (y.1∉N)
   | .cell=>decide (y.1∈own.map (·.1))||decide (y.1∉N)
   | _=>true)
theorem WI {N:List Str}{sc scope:Scope}{own:List (Str × Nat)} (h:jw N sc scope own=true):qah N sc scope own:=by
 unfold jw at h
 simp only[Bool.and_eq_true,List.all_eq_true,decide_eq_true_eq] at h
 obtain⟨⟨⟨h1,h2⟩,h3⟩,h4⟩:=h
 refine⟨?_,h2,h3,fun y hy e=>?_,fun y hy e=>?_⟩
 ·split at h1
  ·assumption
  ·cases h1
 ·have q:=h4 y hy
  simp only[e] at q
  split at q <;> first | exact .inl (by assumption) | exact .inr (by assumption) | cases q
 ·have q:=h4 y hy
  rcases e with e | e <;> (simp only[e,Bool.or_eq_true,decide_eq_true_eq] at q;exact q)
theorem uc {σ:St}{i:Nat}:∀ {vs:List Nat},i∉vs->(wipe σ vs)[i]?=σ[i]?
 | [],_=>rfl
 | v::vs,h=>by
  have h1:v≠i:=fun e=>h (by rw[e];exact List.mem_cons_self)
  have h2:i∉vs:=fun m=>h (List.mem_cons_of_mem _ m)
  unfold wipe
  rw[List.getElem?_set_ne h1]
  exact uc h2
section
variable {X:Cx}{pins:List (Addr × Obj)}{σ:St}{H:Hp}{s:Shared}{h':Heap}
theorem Inv.qdN {t':Nat}{ch:List Addr} (I:Inv X pins σ H s) (k:∀ b o,b∉ch->s.heap.get? b=some o->h'.get? b=some o) (hf:∀ b∈ch,Qk X pins H b):Inv X pins σ H {s with heap:=h',toks:=t'}:=by
 have nit:∀ b u,H b=some u->b∉ch:=fun b u e z=>by
  have q:=(hf b z).1
  rw[q] at e;cases e
 refine I.step (g':=s.gens) (d':=s.drawn) (ch:=ch) (fun b hb=>⟨(hf b hb).2.2.2.1,(hf b hb).2.1,(hf b hb).2.2.2.2.1,(hf b hb).2.2.2.2.2⟩) (fun b o _ _ hc e _=>k b o hc e) (fun b o _ _ hc e _=>⟨o.slots,k b o hc e⟩)
  (fun _ _ _ _ n=>n) (fun b o hc e=>⟨o,k b o hc e⟩) (fun _ _ e=>e) (fun _ _ _ e=>e) (fun b ps e=>⟨#[],by rw[e];simp⟩) (fun m hm=>?_) (fun b u e=>?_) I.bare
 ·obtain⟨o,es,ep,ho,r⟩:=hm
  exact⟨o,es,ep,k _ o (fun z=>(hf _ z).2.1 rfl) ho,r⟩
 ·refine (I.hok b u e).Zm (fun c v hc q=>k c v ?_ q) (fun _ q=>q) fun _ _ q=>q
  rcases hc with z | z
  ·rw[z];exact nit b u e
  ·exact nit c _ z
theorem Inv.qbn {t':Nat}{ch:List Addr}{T:Addr}{ob:HO} (I:Inv X pins σ H s) (k:∀ b o,b∉ch->s.heap.get? b=some o->h'.get? b=some o) (hf:∀ b∈ch,Qk X pins H b) (hT:s.heap.objs.size <= T)
  (new:zE X.prog X.w (upd H T ob) h' T ob):Inv X pins σ (upd H T ob) {s with heap:=h',toks:=t'}:=by
 have hn:H T=none:=I.hok.fresh hT
 have nit:∀ b u,H b=some u->b∉ch:=fun b u e z=>by
  have q:=(hf b z).1
  rw[q] at e;cases e
 refine I.step (g':=s.gens) (d':=s.drawn) (ch:=ch) (fun b hb=>⟨(hf b hb).2.2.2.1,(hf b hb).2.1,(hf b hb).2.2.2.2.1,(hf b hb).2.2.2.2.2⟩) (fun b o _ _ hc e _=>k b o hc e) (fun b o _ _ hc e _=>⟨o.slots,k b o hc e⟩)
  (fun b o _ e n=>?_) (fun b o hc e=>⟨o,k b o hc e⟩) (fun b xs e=>?_) (fun b o u e=>?_) (fun b ps e=>⟨#[],?_⟩) (fun m hm=>?_) (fun b u e=>?_) I.bare
 ·rw[qA (Nat.ne_of_lt (Nat.lt_of_lt_of_le (Heap.lt_size e) hT))];exact n
 ·rw[qA (vj e hn)];exact e
 ·rw[qA (vj e hn)];exact e
 ·rw[qA (vj e hn),e];simp
 ·obtain⟨o,es,ep,ho,r⟩:=hm
  exact⟨o,es,ep,k _ o (fun z=>(hf _ z).2.1 rfl) ho,r⟩
 ·by_cases hb:b=T
  ·subst hb
   rw[qL] at e
   cases e
   exact new
  ·rw[qA hb] at e
   refine (I.hok b u e).Zm (fun c v hc q=>k c v ?_ q) (fun c q=>by rw[qA (vj q hn)];exact q) fun c xs q=>by rw[qA (vj q hn)];exact q
   rcases hc with z | z
   ·rw[z];exact nit b u e
   ·exact nit c _ z
end
section
variable {X:Cx}
theorem qf3 {tg:Expr}{pins:List (Addr × Obj)}{σ:St}{H:Hp}{s:Shared}{R:It->Hp->Prop}{J:It}{tn:Nat->Heap->Prop}{tk:Nat} (I:Inv X pins σ H s) (o:Obj)
  (T:Turn X.prog X.w X.K tg J [s.heap.objs.size] s.heap.objs.size tn) (st:tn 0 (s.heap.push o)) (q:R J H):PIE X pins σ tg R (.ref s.heap.objs.size) {s with heap:=s.heap.push o,toks:=tk}:=by
 refine⟨s.heap.objs.size,[s.heap.objs.size],tn,J,H,rfl,I.kept fun b ob e=>Heap.get?_push_of_some _ e,T,st,fun b hb=>?_,q⟩
 have e:b=s.heap.objs.size:=by simpa using hb
 subst e
 exact I.qaG (Nat.le_refl _) (I.hok.fresh (Nat.le_refl _))
end
noncomputable def Itc (lo c:Int) (n:Nat):It:=⟨fun i _=>i<n,fun i H x H'=>H'=H/\x = .int (lo+(i:Nat)*c),fun i _=>n <= i⟩
theorem Xu {P:Program}{w:World}{K:PySem.W.Frag}{tg:Expr} (it:Addr) (lo c:Int) (n:Nat):Turn P w K tg (Itc lo c n) [it] it (fun i h=>IsRangeIter h it (lo+(i:Nat)*c) ((n:Int)-(i:Nat)) c) where
 mem:=by simp
 obj:=fun i h st b hb=>by
  have e:b=it:=by simpa using hb
  subst e
  exact⟨_,st,fun v z=>nomatch z⟩
 keep:=fun i h h' st k=>k it (by simp) _ st
 item:=by
  intro X hP hw hK hc i pins s σ H E I hf st hg
  subst hP hw hK
  obtain⟨f0,f1,f2,f3,f4,f5⟩:=hf it (by simp)
  have W:=Walks.range (prog:=X.prog) (w:=X.w) (I.ok.hd hc) it lo c n
  refine W.item i s _ _ hg st fun v h' tk hv st' kk=>?_
  obtain⟨t,rfl⟩:=hv
  have I1:Inv X pins σ H {s with heap:=h',toks:=tk}:=I.turned (fun b o hb e=>kk b o (by simpa using hb) e) f0 f1 f3 f4 f5
  exact⟨_,rfl,qco (s:={s with heap:=h',toks:=tk}) (n:="range_iterator") st' rfl rfl (by decide) ⟨.int (lo+(i:Nat)*c),H,I1,⟨t,rfl⟩,⟨rfl,rfl⟩,st',fun b hb=>(hf b hb).1⟩⟩
 done:=by
  intro X hP hw hK hc i pins s σ H E I hf st hg
  subst hP hw hK
  obtain⟨f0,f1,f2,f3,f4,f5⟩:=hf it (by simp)
  exact wpAny_pyNext_range_end (I.ok.hd hc) st (by have:n <= i:=hg;lia) fun h' eb=>⟨rfl,I.turned (t':=s.toks) (fun b o hb e=>eb b o hb e) f0 f1 f3 f4 f5⟩
 self:=fun A i s Q E st h=>wpAny_pyIter_rangeiter st h
noncomputable def RgC (i j c:Int) (n:Nat):Prop:=c≠0/\c.natAbs<1073741824/\Builtin.Range.small i j c=true/\Builtin.Range.rangeSize i j c=n
theorem RgC.neg {i j:Int} (ha : -(2^62) <= i) (ha':i<2^62) (hb : -(2^62) <= j) (hb':j<2^62):RgC i j (-1) (i-j).toNat :=
 ⟨by decide,by decide,PySem.W.small_down ha ha' hb hb',PySem.W.rangeSize_downNat i j⟩
noncomputable def qgW (ta:TA):TI:=fun σ H R=>ta σ H fun vs H1=>∃ (i j c:Int) (n:Nat),vs=[.int i,.int j,.int c]/\RgC i j c n/\R (Itc i c n) H1
section
variable {X:Cx}{tg:Expr}
theorem ZP {a b c:Expr}{ta:TA}{p pos:Pos} (hg:Gl X "range") (hm:X.mg "range"=none) (ha:PA X [a,b,c] ta)
  (hs:autoParam (starEach [a,b,c] X.env=(false,eval a X.env)::starEach [b,c] X.env) qt._auto_1) (hpl:autoParam ((backTo pos (starEach [b,c] X.env)).any (·.1)=false) qt._auto_1) :
  PI X tg (.Call (.Name "range" p) [a,b,c] [] pos) (qgW ta):=by
 intro pins s σ H R I h
 refine Call_ (Qu I hg hm boot_range (PyProof.Rows.callWith_type1 (thn (ha pos pins s σ H _ I h) fun us s1 ⟨vs,H1,I1,r1,q1⟩=>?_) hs hpl))
 obtain⟨i,j,k,n,e,⟨c0,c1,c2,c3⟩,q⟩:=q1
 subst e
 cases r1 with
 | cons r rr =>
  cases rr with
  | cons r' rr =>
   cases rr with
   | cons r'' rr =>
    cases rr
    obtain⟨t,rfl⟩:=r
    obtain⟨t',rfl⟩:=r'
    obtain⟨t'',rfl⟩:=r''
    refine call_range_3 c0 ?_ (.inl (PyProof.noPylong_small c1))
    refine wpAny_pyIter_range (IsRange.new ..) c2 ?_
    have I2:Inv X pins σ H1 {s1 with heap:=s1.heap.push {cls:=.type "range",data:=.fields #[.int i t,.int j t',.int k t'']} }:=I1.kept (t':=s1.toks) fun b o e=>Heap.get?_push_of_some _ e
    refine qf3 (tk:=s1.toks) I2 _ (Xu _ i k n) ?_ q
    have e1:i+((0:Nat):Int)*k=i:=by simp
    have e2:(n:Int)-((0:Nat):Int)=Builtin.Range.rangeSize i j k:=by rw[c3];simp
    show IsRangeIter _ _ (i+((0:Nat):Int)*k) ((n:Int)-((0:Nat):Int)) k
    rw[e1,e2]
    exact Heap.get?_push_size _ rfl
end
theorem qaR:bootBuiltins "zip"=some (.type "zip"):=by decide +kernel
noncomputable def Itz (K:PySem.W.Frag) (a b:Addr):It :=
 ⟨fun i H=>∃ (xs ys:List V) (x y:V),SqL K H a xs/\SqL K H b ys/\xs[i]?=some x/\ys[i]?=some y,
  fun i H v H'=>∃ T x y,v = .ref T/\H T=none/\H'=upd H T (.tup [x,y])/\(∀ xs,SqL K H a xs->xs[i]?=some x)/\∀ ys,SqL K H b ys->ys[i]?=some y,
  fun i H=>∃ xs ys:List V,SqL K H a xs/\SqL K H b ys/\(xs.length <= i\/ys.length <= i)⟩
theorem qdr {P:Program}{w:World}{K:PySem.W.Frag}{elts:List Expr}{kk:Nat}{tpos:Pos}{a b z TI TO i1 i2:Addr} (D:ZipApart z TI TO i1 i2 a b) :
  Turn P w K (.Tuple elts kk tpos) (Itz K a b) [z,TI,TO,i1,i2] z (fun i h=>IsZip h z TI TO .none/\IsPair h TI (.ref i1) (.ref i2)/\(∃ x y,IsPair h TO x y)/\h.IsListIter i1 a i/\h.IsListIter i2 b i) where
 mem:=by simp
 obj:=fun i h st c hc=>by
  obtain⟨hz,hTI,⟨x,y,hTO⟩,⟨o1,e1,_,d1⟩,⟨o2,e2,_,d2⟩⟩:=st
  have e':c=z\/c=TI\/c=TO\/c=i1\/c=i2:=by simpa using hc
  rcases e' with q | q | q | q | q
  ·rw[q];exact⟨_,hz,fun v q=>nomatch q⟩
  ·rw[q];exact⟨_,hTI,fun v q=>nomatch q⟩
  ·rw[q];exact⟨_,hTO,fun v q=>nomatch q⟩
  ·rw[q];exact⟨o1,e1,fun v q=>by rw[d1] at q;cases q⟩
  ·rw[q];exact⟨o2,e2,fun v q=>by rw[d2] at q;cases q⟩
 keep:=fun i h h' st k=>by
  obtain⟨hz,hTI,⟨x,y,hTO⟩,h1,h2⟩:=st
  exact⟨k z (by simp) _ hz,k TI (by simp) _ hTI,⟨x,y,k TO (by simp) _ hTO⟩,h1.at fun o q=>k i1 (by simp) o q,h2.at fun o q=>k i2 (by simp) o q⟩
 item:=by
  intro X hP hw hK hc i pins s σ H E I hf st hg
  subst hP hw hK
  obtain⟨hz,hTI,⟨x0,y0,hTO⟩,h1,h2⟩:=st
  obtain⟨xs,ys,x,y,hqx,hqy,hx,hy⟩:=hg
  obtain⟨its,rv,p,_⟩:=I.list hqx
  obtain⟨its2,rv2,p2,_⟩:=I.list hqy
  obtain⟨u,hu,ru⟩:=rv.get hx
  obtain⟨u2,hu2,ru2⟩:=rv2.get hy
  have hzl:z<s.heap.objs.size:=Heap.lt_size hz
  refine wpAny_pyNext_zip_item D hz hTI hTO h1 h2 p.isList p2.isList (x:=u) (y:=u2) (by simpa using hu) (by simpa using hu2) fun h' z' TO' h1' h2' hT hsz hk=>?_
  refine⟨_,rfl,wpAny_letOwnedTupleGo_zip (s:={s with heap:=h'}) z' fun h'' z'' sb=>?_⟩
  have hT2:h''.get? s.heap.objs.size=some {cls:=.type "tuple",data:=.seq #[u,u2]}:=(sb.2 _ (Nat.ne_of_gt hzl)).trans hT
  have new:zE X.prog X.w (upd H s.heap.objs.size (.tup [x,y])) h'' s.heap.objs.size (.tup [x,y]) :=
   ⟨by show 2 <= sizeLine;decide,[u,u2],.cons ru (.cons ru2 .nil),⟨_,hT2,rfl,_,rfl⟩⟩
  have I1:Inv X pins σ (upd H s.heap.objs.size (.tup [x,y])) {s with heap:=h''} :=
   I.qbn (t':=s.toks) (ch:=[z,TI,TO,i1,i2]) (fun c o hb q=>(sb.2 c (fun q'=>hb (by simp [q']))).trans (hk c o (fun q'=>hb (by simp [q'])) (fun q'=>hb (by simp [q'])) (fun q'=>hb (by simp [q'])) (fun q'=>hb (by simp [q'])) q)) hf (Nat.le_refl _) new
  refine⟨.ref s.heap.objs.size,_,I1,rfl,⟨_,x,y,rfl,I.hok.fresh (Nat.le_refl _),rfl,fun l hl=>by rw[I.WQ hl hqx];exact hx,fun l hl=>by rw[I.WQ hl hqy];exact hy⟩,⟨z'',?_,⟨u,u2,?_⟩,?_,?_⟩,fun c hcm=>?_⟩
  ·exact (sb.2 _ D.TIz).trans (hk _ _ D.TIz D.TITO D.TIi1 D.TIi2 hTI)
  ·exact (sb.2 _ D.TOz).trans TO'
  ·exact h1'.at fun o q=>(sb.2 _ D.i1z).trans q
  ·exact h2'.at fun o q=>(sb.2 _ D.i2z).trans q
  ·have hlt:c<s.heap.objs.size:=by
    have e':c=z\/c=TI\/c=TO\/c=i1\/c=i2:=by simpa using hcm
    rcases e' with q | q | q | q | q
    ·rw[q];exact hzl
    ·rw[q];exact Heap.lt_size hTI
    ·rw[q];exact Heap.lt_size hTO
    ·rw[q];obtain⟨_,e1,_⟩:=h1;exact Heap.lt_size e1
    ·rw[q];obtain⟨_,e2,_⟩:=h2;exact Heap.lt_size e2
   rw[qA (Nat.ne_of_lt hlt)]
   exact (hf c hcm).1
 done:=by
  intro X hP hw hK hc i pins s σ H E I hf st hg
  subst hP hw hK
  obtain⟨hz,hTI,⟨x0,y0,hTO⟩,h1,h2⟩:=st
  obtain⟨xs,ys,hqx,hqy,hend⟩:=hg
  obtain⟨its,rv,p,_⟩:=I.list hqx
  obtain⟨its2,rv2,p2,_⟩:=I.list hqy
  have l1:=rv.length
  have l2:=rv2.length
  have he:its.toArray[i]?=none\/its2.toArray[i]?=none:=by
   rcases hend with q | q
   ·exact .inl (by simp;lia)
   ·exact .inr (by simp;lia)
  exact wpAny_pyNext_zip_end (I.ok.hd hc) D hz hTI hTO h1 h2 p.isList p2.isList he fun h' hk=>⟨rfl,I.qdN (t':=s.toks) (ch:=[z,TI,TO,i1,i2]) (fun c o hb q =>
   hk c o (fun q'=>hb (by simp [q'])) (fun q'=>hb (by simp [q'])) (fun q'=>hb (by simp [q'])) (fun q'=>hb (by simp [q'])) q) hf⟩
 self:=fun A i s Q E st h=>wpAny_pyIter_zip st.1 h
noncomputable def j6 (K:PySem.W.Frag) (ta:TA):TI:=fun σ H R=>ta σ H fun vs H1=>∃ a b xs ys,vs=[.ref a,.ref b]/\SqL K H1 a xs/\SqL K H1 b ys/\R (Itz K a b) H1
theorem qfr {X:Cx}{e e2:Expr}{ta:TA}{p pos tpos:Pos}{elts:List Expr}{kk:Nat} (hg:Gl X "zip") (hm:X.mg "zip"=none) (ha:PA X [e,e2] ta)
  (hs:autoParam (starEach [e,e2] X.env=(false,eval e X.env)::starEach [e2] X.env) qt._auto_1) (hpl:autoParam ((backTo pos (starEach [e2] X.env)).any (·.1)=false) qt._auto_1) :
  PI X (.Tuple elts kk tpos) (.Call (.Name "zip" p) [e,e2] [] pos) (j6 X.K ta):=by
 intro pins s σ H R I h
 refine Call_ (Qu I hg hm qaR (PyProof.Rows.callWith_type1 (thn (ha pos pins s σ H _ I h) fun us s1 ⟨vs,H1,I1,r1,q1⟩=>?_) hs hpl))
 obtain⟨a,b,xs,ys,ex,hqx,hqy,q⟩:=q1
 subst ex
 cases r1 with
 | cons r rr =>
  cases rr with
  | cons r' rr =>
   cases rr
   cases r
   cases r'
   obtain⟨its,rv,p1,_⟩:=I1.list hqx
   obtain⟨its2,rv2,p2,_⟩:=I1.list hqy
   have la:a<s1.heap.objs.size:=p1.lt
   have lb:b<s1.heap.objs.size:=p2.lt
   refine call_zip_2 p1.isList p2.isList fun h' hz hTI hTO h1 h2 hsz hk=>wpAny_pyIter_zip hz ?_
   have I2:Inv X pins σ H1 {s1 with heap:=h'}:=I1.kept (t':=s1.toks) hk
   refine⟨s1.heap.objs.size+4,[s1.heap.objs.size+4,s1.heap.objs.size+2,s1.heap.objs.size+3,s1.heap.objs.size,s1.heap.objs.size+1],_,_,H1,rfl,I2,qdr (PySem.W.ktu_apart s1.heap.objs.size a b la lb),⟨hz,hTI,⟨_,_,hTO⟩,h1,h2⟩,fun c hcm=>?_,q⟩
   have e':c=s1.heap.objs.size+4\/c=s1.heap.objs.size+2\/c=s1.heap.objs.size+3\/c=s1.heap.objs.size\/c=s1.heap.objs.size+1:=by simpa using hcm
   have hle:s1.heap.objs.size <= c:=by
    rcases e' with z | z | z | z | z
    ·rw[z];exact Nat.le_add_right _ _
    ·rw[z];exact Nat.le_add_right _ _
    ·rw[z];exact Nat.le_add_right _ _
    ·rw[z];exact Nat.le_refl _
    ·rw[z];exact Nat.le_add_right _ _
   exact I1.qaG hle (I1.hok.fresh hle)
end L2
section 
namespace Bits
open PySem PyProof.Rows
theorem QK {x:Int} (k:Nat) (hx:0 <= x):Builtin.bitAnd x (2^k-1)=x%2^k:=by
 obtain⟨n,rfl⟩:=Int.eq_ofNat_of_zero_le hx
 have hp:0<2^k:=Nat.two_pow_pos k
 rw[two_pow_cast]
 have e:((2^k:Nat):Int)-1=((2^k-1:Nat):Int):=by
  generalize (2:Nat)^k=m at hp
  lia
 rw[e,bitAnd_pp (by lia) (by lia),Int.toNat_natCast,Int.toNat_natCast,Nat.and_two_pow_sub_one_eq_mod]
 first
  | rfl
  | exact Int.natCast_emod _ _
  | simp
theorem QT (m:Nat):∀ n:Nat,(m ^^^ n)+2*(m &&& n)=m+n:=by
 induction m using Nat.strongRecOn with
 | _ m ih =>
  intro n
  by_cases h0:m=0
  ·subst h0
   simp
  ·have ih':=ih (m / 2) (Nat.div_lt_self (Nat.pos_of_ne_zero h0) (by decide)) (n / 2)
   rw[<- Nat.xor_div_two,<- Nat.and_div_two] at ih'
   have o1:(m ^^^ n)%2+2*((m &&& n)%2)=m%2+n%2:=by
    have a1 := @Nat.and_mod_two_eq_one m n
    have x1 := @Nat.xor_mod_two_eq_one m n
    rcases Nat.mod_two_eq_zero_or_one m with hm | hm <;> rcases Nat.mod_two_eq_zero_or_one n with hn | hn <;> rcases Nat.mod_two_eq_zero_or_one (m &&& n) with ha | ha <;> rcases Nat.mod_two_eq_zero_or_one (m ^^^ n) with hx | hx <;> rw[hm,hn,ha] at a1 <;> rw[hm,hn,hx] at x1 <;> rw[hm,hn,ha,hx] <;> revert a1 x1 <;> decide
   rw[<- Nat.div_add_mod (m ^^^ n) 2,<- Nat.div_add_mod (m &&& n) 2]
   have e1:=Nat.div_add_mod m 2
   have e2:=Nat.div_add_mod n 2
   clear ih h0
   generalize (m ^^^ n) / 2=a at *
   generalize (m &&& n) / 2=b at *
   generalize (m ^^^ n)%2=c at *
   generalize (m &&& n)%2=d at *
   lia
theorem qbA {x y:Int} (hx:0 <= x) (hy:0 <= y):Builtin.bitXor x y=((x.toNat ^^^ y.toNat:Nat):Int):=by
 have e:=QT x.toNat y.toNat
 rw[bitXor_and,bitAnd_pp hx hy]
 lia
end Bits
end 
section 
end 
section
set_option maxHeartbeats 2000000
namespace L2
open PySem PySem.Spec PyProof.Rows
open PySem.W (WData Codec OpenSpec Well WellAll ReadsW ReadsAllW)
mutual
/-- x stands for the datum d, lists and tuples all the way -/
inductive Dw (K:PySem.W.Frag) (H:Hp):V->WData->Prop
 | non:Dw K H .non .none
 | bl (b:Bool):Dw K H (.bl b) (.bool b)
 | int (i:Int):Dw K H (.int i) (.int i)
 | str (x:Str):Dw K H (.str x) (.str x)
 | byt (b:Array UInt8):Dw K H (.byt b) (.bytes b.toList)
 | lst {a:Addr}{xs:List V}{ds:List WData}:SqL K H a xs->zU K H xs ds->Dw K H (.ref a) (.list ds)
 | tup {a:Addr}{xs:List V}{ds:List WData}:SqT K H a xs->zU K H xs ds->Dw K H (.ref a) (.tuple ds)
inductive zU (K:PySem.W.Frag) (H:Hp):List V->List WData->Prop
 | nil:zU K H [] []
 | cons {v:V}{vs:List V}{d:WData}{ds:List WData}:Dw K H v d->zU K H vs ds->zU K H (v::vs) (d::ds)
end
theorem J9 {K:PySem.W.Frag}{H:Hp}:∀ ns:List Int,zU K H (ns.map V.int) (ns.map WData.int)
 | []=>.nil
 | n::r=>.cons (.int n) (J9 r)
section
variable {P:Program}{w:World}{K:PySem.W.Frag}{H:Hp}{h:Heap}{R:PySem.W.WRecords}{cl:Str->Option Addr}
theorem qgd {a:Addr}{xs:List V} (hok:HOk P w H h) (KX:K.In h) (q:SqL K H a xs):∃ (its:List Value) (o:Obj) (n:Nat),Vals xs its/\h.get? a=some o/\o.cls = .type "list"/\o.data = .seq its.toArray n:=by
 rcases q with q | ⟨o,its,n,e,hc,_,hd,_,hv⟩
 ·obtain⟨_,its,n,hv,e⟩:=(show zE P w H h a (.lst xs) from q.ok hok)
  exact⟨its,_,n,hv,e,rfl,rfl⟩
 ·exact⟨its.toList,o,n,hv,KX _ _ e,hc,by simp [hd]⟩
theorem qfO {a:Addr}{xs:List V} (hok:HOk P w H h) (KX:K.In h) (q:SqT K H a xs):∃ (its:List Value) (o:Obj) (n:Nat),Vals xs its/\h.get? a=some o/\o.cls = .type "tuple"/\o.data = .seq its.toArray n:=by
 rcases q with q | ⟨o,its,n,e,hc,hd,_,hv⟩
 ·obtain⟨_,its,hv,o,e,hc,n,hd⟩:=(show zE P w H h a (.tup xs) from q.ok hok)
  exact⟨its,o,n,hv,e,hc,hd⟩
 ·exact⟨its.toList,o,n,hv,KX _ _ e,hc,by simp [hd]⟩
mutual
theorem Dw.reads (hok:HOk P w H h) (KX:K.In h):∀ (d:WData) (v:V) (u:Value),Dw K H v d->RelV v u->∃ as,ReadsW R cl h u d as
 | .none,_,_,x,r=>by
  cases x
  cases r
  exact⟨_,ReadsW.none⟩
 | .bool b,_,_,x,r=>by
  cases x
  cases r
  exact⟨_,ReadsW.bool b⟩
 | .int i,_,_,x,r=>by
  cases x
  obtain⟨t,rfl⟩:=r
  exact⟨_,ReadsW.int i t⟩
 | .str s,_,_,x,r=>by
  cases x
  obtain⟨t,rfl⟩:=r
  exact⟨_,ReadsW.str s t⟩
 | .bytes b,_,_,x,r=>by
  cases x
  obtain⟨t,rfl⟩:=r
  exact⟨_,ReadsW.bytes _ t⟩
 | .list ds,_,_,x,r=>by
  cases x with
  | lst hs ha =>
   cases r
   obtain⟨its,o,n,rv,ho,hc,hd⟩:=qgd hok KX hs
   obtain⟨as,hr⟩:=Dw.readsAll hok KX ds _ its ha rv
   exact⟨_,ReadsW.list ho hc hd hr⟩
 | .tuple ds,_,_,x,r=>by
  cases x with
  | tup hs ha =>
   cases r
   obtain⟨its,o,n,rv,ho,hc,hd⟩:=qfO hok KX hs
   obtain⟨as,hr⟩:=Dw.readsAll hok KX ds _ its ha rv
   exact⟨_,ReadsW.tuple ho hc hd hr⟩
 | .float _,_,_,x,_=>by cases x
 | .dict _,_,_,x,_=>by cases x
 | .bytearray _,_,_,x,_=>by cases x
 | .set _,_,_,x,_=>by cases x
 | .frozenset _,_,_,x,_=>by cases x
 | .obj _ _,_,_,x,_=>by cases x
theorem Dw.readsAll (hok:HOk P w H h) (KX:K.In h):∀ (ds:List WData) (vs:List V) (us:List Value),zU K H vs ds->Vals vs us->∃ as,ReadsAllW R cl h us ds as
 | [],_,_,x,r=>by
  cases x
  cases r
  exact⟨_,ReadsAllW.nil⟩
 | d::ds,_,_,x,r=>by
  cases x with
  | cons h1 h2 =>
   cases r with
   | cons r1 r2 =>
    obtain⟨as,q1⟩:=Dw.reads hok KX d _ _ h1 r1
    obtain⟨bs,q2⟩:=Dw.readsAll hok KX ds _ _ h2 r2
    exact⟨_,ReadsAllW.cons q1 q2⟩
end
end
mutual
/-- data that a codec tells -/
noncomputable def plW:WData->Bool
 | .none=>true
 | .bool _=>true
 | .int _=>true
 | .str _=>true
 | .bytes _=>true
 | .list xs=>Q1 xs
 | .tuple xs=>Q1 xs
 | _=>false
noncomputable def Q1:List WData->Bool
 | []=>true
 | x::r=>plW x&&Q1 r
end
theorem Uv {α:Type}{f:α->WData} (h:∀ a,plW (f a)=true):∀ l:List α,Q1 (l.map f)=true
 | []=>rfl
 | x::r=>by
  show (plW (f x)&&Q1 (r.map f))=true
  rw[h x,Uv h r] <;> rfl
theorem uC:∀ (c:Codec) (a:c.denote),plW (c.enc a)=true
 | .unit,_=>rfl
 | .bool,_=>rfl
 | .int _ _,_=>rfl
 | .nat _ _,_=>rfl
 | .u8,_=>rfl
 | .bytes _ _,_=>rfl
 | .text _ _ _ _,_=>rfl
 | .list _ _ c,a=>Uv (fun x=>uC c x) a
 | .pair c d,a=>by
  show (plW (c.enc a.1)&&(plW (d.enc a.2)&&true))=true
  rw[uC c a.1,uC d a.2] <;> rfl
 | .triple c d e,a=>by
  show (plW (c.enc a.1)&&(plW (d.enc a.2.1)&&(plW (e.enc a.2.2)&&true)))=true
  rw[uC c a.1,uC d a.2.1,uC e a.2.2] <;> rfl
 | .option c,none=>rfl
 | .option c,some x=>uC c x
theorem ZA:∀ (cs:List Codec) (a:Codec.denoteAll cs),Q1 (Codec.encAll cs a)=true
 | [],_=>rfl
 | c::cs,a=>by
  show (plW (c.enc a.1)&&Q1 (Codec.encAll cs a.2))=true
  rw[uC c a.1,ZA cs a.2] <;> rfl
theorem jE:∀ {xs:List WData}{d:WData},d∈xs->d.weight <= WData.weightAll xs
 | [],d,h=>absurd h (by simp)
 | x::r,d,h=>by
  show d.weight <= x.weight+1+WData.weightAll r
  rcases List.mem_cons.mp h with e | m
  ·rw[e]
   lia
  ·have z:=jE m
   lia
noncomputable def toV:Value->V
 | .none=>.non
 | .bool b=>.bl b
 | .int i _=>.int i
 | .str x _=>.str x
 | .bytes b _=>.byt b
 | .ref a=>.ref a
 | _=>.non
noncomputable def OkU (A:List Addr):Value->Prop
 | .none=>True
 | .bool _=>True
 | .int _ _=>True
 | .str _ _=>True
 | .bytes _ _=>True
 | .ref a=>a∈A
 | _=>False
theorem OkU.mono {A B:List Addr} (h:∀ a∈A,a∈B):∀ {u:Value},OkU A u->OkU B u:=fun {u} x=>by
 cases u with
 | ref a=>exact h a x
 | none=>trivial
 | bool b=>trivial
 | int i t=>trivial
 | str s t=>trivial
 | bytes b t=>trivial
 | _=>exact False.elim x
theorem qcZ {A:List Addr}{u:Value} (x:OkU A u):RelV (toV u) u:=by
 cases u with
 | ref a=>rfl
 | none=>rfl
 | bool b=>rfl
 | int i t=>exact⟨t,rfl⟩
 | str s t=>exact⟨t,rfl⟩
 | bytes b t=>exact⟨t,rfl⟩
 | _=>exact False.elim x
theorem xx {A:List Addr}:∀ {vs:List Value},(∀ u∈vs,OkU A u)->Vals (vs.map toV) vs
 | [],_=>.nil
 | u::r,h=>.cons (qcZ (h u (List.mem_cons_self ..))) (xx fun x hx=>h x (List.mem_cons_of_mem _ hx))
noncomputable def x8 (h:Heap) (A:List Addr) (a:Addr):Prop:=∃ vs:List Value,vs.length <= sizeLine/\(∀ u∈vs,OkU A u) /\
 (h.get? a=some {cls:=.type "list",data:=.seq vs.toArray}\/h.get? a=some {cls:=.type "tuple",data:=.seq vs.toArray})
theorem x8.mono {h:Heap}{A B:List Addr}{a:Addr} (k:∀ a∈A,a∈B) (x:x8 h A a):x8 h B a:=by
 obtain⟨vs,h1,h2,h3⟩:=x
 exact⟨vs,h1,fun u hu=>(h2 u hu).mono k,h3⟩
theorem yU {P:Params}{h:Heap}:∀ {vs:List Value}{ds:List WData},WellAll P h vs ds->vs.length=ds.length
 | _,_,.nil=>rfl
 | _,_,.cons _ b=>by
  show _+1=_+1
  rw[yU b]
theorem ZX {P:Params}{h:Heap}{v:Value}{ds:List WData} (x:Well P h v (.list ds)):∃ (a:Addr) (vs:List Value),v = .ref a/\h.get? a=some {cls:=.type "list",data:=.seq vs.toArray}/\WellAll P h vs ds:=by
 cases x with
 | list ho hall=>exact⟨_,_,rfl,ho,hall⟩
theorem WR {P:Params}{h:Heap}{v:Value}{ds:List WData} (x:Well P h v (.tuple ds)):∃ (a:Addr) (vs:List Value),v = .ref a/\h.get? a=some {cls:=.type "tuple",data:=.seq vs.toArray}/\WellAll P h vs ds:=by
 cases x with
 | tuple ho hall=>exact⟨_,_,rfl,ho,hall⟩
theorem ZF {P:Params}{h:Heap}{us:List Value}{d:WData}{ds:List WData} (x:WellAll P h us (d::ds)):∃ (v:Value) (vs:List Value),us=v::vs/\Well P h v d/\WellAll P h vs ds:=by
 cases x with
 | cons a b=>exact⟨_,_,rfl,a,b⟩
theorem qam {n:Nat} (h:n <= 1048576):n <= sizeLine:=Nat.le_trans h (by decide)
section
variable {P:Params}{h:Heap}
mutual
theorem qdf:∀ (d:WData) (v:Value),Well P h v d->plW d=true->d.weight <= 1048576->∃ A:List Addr,OkU A v/\∀ a∈A,x8 h A a
 | .none,_,x,_,_=>by
  cases x
  exact⟨[],trivial,fun a m=>absurd m (by simp)⟩
 | .bool b,_,x,_,_=>by
  cases x
  exact⟨[],trivial,fun a m=>absurd m (by simp)⟩
 | .int i,_,x,_,_=>by
  cases x
  exact⟨[],trivial,fun a m=>absurd m (by simp)⟩
 | .str s,_,x,_,_=>by
  cases x
  exact⟨[],trivial,fun a m=>absurd m (by simp)⟩
 | .bytes b,_,x,_,_=>by
  cases x
  exact⟨[],trivial,fun a m=>absurd m (by simp)⟩
 | .list ds,_,x,p,z=>by
  obtain⟨a,vs,rfl,ho,hall⟩:=ZX x
  have z2:WData.weightAll ds <= 1048576:=z
  obtain⟨A,h1,h2⟩:=j0 ds _ hall p fun d hd=>Nat.le_trans (jE hd) z2
  have k:∀ b∈A,b∈a::A:=fun b hb=>List.mem_cons_of_mem _ hb
  refine⟨a::A,List.mem_cons_self ..,fun b hb=>?_⟩
  rcases List.mem_cons.mp hb with e | m
  ·rw[e]
   exact⟨vs,qam (by rw[yU hall];exact Nat.le_trans (PySem.W.length_le_weightAllW ds) z2),fun u hu=>(h1 u hu).mono k,.inl ho⟩
  ·exact (h2 b m).mono k
 | .tuple ds,_,x,p,z=>by
  obtain⟨a,vs,rfl,ho,hall⟩:=WR x
  have z2:WData.weightAll ds <= 1048576:=z
  obtain⟨A,h1,h2⟩:=j0 ds _ hall p fun d hd=>Nat.le_trans (jE hd) z2
  have k:∀ b∈A,b∈a::A:=fun b hb=>List.mem_cons_of_mem _ hb
  refine⟨a::A,List.mem_cons_self ..,fun b hb=>?_⟩
  rcases List.mem_cons.mp hb with e | m
  ·rw[e]
   exact⟨vs,qam (by rw[yU hall];exact Nat.le_trans (PySem.W.length_le_weightAllW ds) z2),fun u hu=>(h1 u hu).mono k,.inr ho⟩
  ·exact (h2 b m).mono k
 | .float _,_,_,p,_=>Bool.noConfusion (show false=true from p)
 | .dict _,_,_,p,_=>Bool.noConfusion (show false=true from p)
 | .bytearray _,_,_,p,_=>Bool.noConfusion (show false=true from p)
 | .set _,_,_,p,_=>Bool.noConfusion (show false=true from p)
 | .frozenset _,_,_,p,_=>Bool.noConfusion (show false=true from p)
 | .obj _ _,_,_,p,_=>Bool.noConfusion (show false=true from p)
theorem j0:∀ (ds:List WData) (vs:List Value),WellAll P h vs ds->Q1 ds=true->(∀ d∈ds,d.weight <= 1048576)->∃ A:List Addr,(∀ u∈vs,OkU A u)/\∀ a∈A,x8 h A a
 | [],_,x,_,_=>by
  cases x
  exact⟨[],fun u m=>absurd m (by simp),fun a m=>absurd m (by simp)⟩
 | d::ds,_,x,p,z=>by
  obtain⟨v,vs,rfl,x1,x2⟩:=ZF x
  have q:plW d=true/\Q1 ds=true:=Bool.and_eq_true_iff.mp p
  obtain⟨A,a1,a2⟩:=qdf d v x1 q.1 (z d (List.mem_cons_self ..))
  obtain⟨B,b1,b2⟩:=j0 ds vs x2 q.2 fun e he=>z e (List.mem_cons_of_mem _ he)
  have kA:∀ b∈A,b∈A++B:=fun b hb=>List.mem_append.mpr (.inl hb)
  have kB:∀ b∈B,b∈A++B:=fun b hb=>List.mem_append.mpr (.inr hb)
  refine⟨A++B,fun u hu=>?_,fun b hb=>?_⟩
  ·rcases List.mem_cons.mp hu with e | m
   ·rw[e]
    exact a1.mono kA
   ·exact (b1 u m).mono kB
  ·rcases List.mem_append.mp hb with m | m
   ·exact (a2 b m).mono kA
   ·exact (b2 b m).mono kB
end
end
noncomputable def qeI (o:Obj):Option HO:=match o.data with
 | .seq vs _=>if (o.cls==Value.type "list")=true then some (.frz o (.lst (vs.toList.map toV))) else some (.frz o (.tup (vs.toList.map toV)))
 | _=>none
noncomputable def xM (K:PySem.W.Frag) (h:Heap) (A:List Addr):Hp:=fun b=>if b∈A then (if (K.lookup b).isNone=true then (h.get? b).bind qeI else none) else none
noncomputable def qfd (H:Hp):Prop:=∀ b,H b=none\/∃ o u,H b=some (.frz o u)
theorem XD (vs:List Value):qeI {cls:=.type "list",data:=.seq vs.toArray}=some (.frz {cls:=.type "list",data:=.seq vs.toArray} (.lst (vs.map toV))):=by
 show (if (Value.type "list"==Value.type "list")=true then some (HO.frz {cls:=.type "list",data:=.seq vs.toArray} (.lst (vs.toArray.toList.map toV))) else some (HO.frz {cls:=.type "list",data:=.seq vs.toArray} (.tup (vs.toArray.toList.map toV))))=_
 rw[if_pos (beq_self_eq_true _)]
theorem XJ (vs:List Value):qeI {cls:=.type "tuple",data:=.seq vs.toArray}=some (.frz {cls:=.type "tuple",data:=.seq vs.toArray} (.tup (vs.map toV))):=by
 show (if (Value.type "tuple"==Value.type "list")=true then some (HO.frz {cls:=.type "tuple",data:=.seq vs.toArray} (.lst (vs.toArray.toList.map toV))) else some (HO.frz {cls:=.type "tuple",data:=.seq vs.toArray} (.tup (vs.toArray.toList.map toV))))=_
 rw[if_neg (by decide)]
section
variable {P:Program}{w:World}{K:PySem.W.Frag}{h:Heap}{A:List Addr}
theorem Q9 {b:Addr}{o:Obj} (hb:b∈A) (hk:K.lookup b=none) (e:h.get? b=some o):xM K h A b=qeI o:=by
 unfold xM
 rw[if_pos hb,hk,if_pos (show (none:Option Obj).isNone=true from rfl),e] <;> rfl
theorem qdJ {b:Addr}{u:HO} (q:xM K h A b=some u):b∈A/\K.lookup b=none:=by
 unfold xM at q
 by_cases hb:b∈A
 ·rw[if_pos hb] at q
  cases hk:K.lookup b with
  | none=>exact⟨hb,rfl⟩
  | some o =>
   rw[hk,if_neg (by simp)] at q
   cases q
 ·rw[if_neg hb] at q
  cases q
theorem Vl (ar : ∀ a ∈ A, x8 h A a) {b : Addr} {u : HO} (q : xM K h A b = some u) : K.lookup b = none /\ ∃ vs : List Value, vs.length <= sizeLine /\ (∀ u ∈ vs, OkU A u) /\
    ((h.get? b=some {cls:=.type "list",data:=.seq vs.toArray}/\u = .frz {cls:=.type "list",data:=.seq vs.toArray} (.lst (vs.map toV))) \/
     (h.get? b=some {cls:=.type "tuple",data:=.seq vs.toArray}/\u = .frz {cls:=.type "tuple",data:=.seq vs.toArray} (.tup (vs.map toV)))):=by
  obtain⟨hb,hk⟩:=qdJ q
  obtain⟨vs,h1,h2,h3⟩:=ar b hb
  refine⟨hk,vs,h1,h2,?_⟩
  rcases h3 with e | e
  . rw[Q9 hb hk e,XD] at q
    exact .inl ⟨e,(Option.some.inj q).symm⟩
  . rw[Q9 hb hk e,XJ] at q
    exact .inr ⟨e,(Option.some.inj q).symm⟩
theorem qaO (ar:∀ a∈A,x8 h A a):qfd (xM K h A):=fun b=>by
 cases q:xM K h A b with
 | none=>exact .inl rfl
 | some u =>
  obtain⟨_,vs,_,_,⟨_,e⟩ | ⟨_,e⟩⟩:=Vl ar q
  ·exact .inr ⟨_,_,by rw[e]⟩
  ·exact .inr ⟨_,_,by rw[e]⟩
theorem qd8 (ar:∀ a∈A,x8 h A a):HOk P w (xM K h A) h:=fun b u q=>by
 obtain⟨_,vs,h1,h2,⟨e,rfl⟩ | ⟨e,rfl⟩⟩:=Vl ar q
 ·exact⟨e,by rw[List.length_map];exact h1,vs,_,xx h2,e⟩
 ·exact⟨e,by rw[List.length_map];exact h1,vs,xx h2,_,e,rfl,_,rfl⟩
theorem Va {c c':Value}{vs us:List Value} (e:(some {cls:=c,data:=.seq vs.toArray}:Option Obj)=some {cls:=c',data:=.seq us.toArray}):c=c'/\vs=us:=by
 have e1:=Option.some.inj e
 have e2:c=c':=congrArg Obj.cls e1
 have e3:Data.seq vs.toArray=Data.seq us.toArray:=congrArg Obj.data e1
 injection e3 with e4
 refine⟨e2,?_⟩
 have e5:=congrArg Array.toList e4
 simpa using e5
theorem qhs (KX:K.In h) (ar:∀ a∈A,x8 h A a) {a:Addr}{vs:List Value} (ha:a∈A) (e:h.get? a=some {cls:=.type "list",data:=.seq vs.toArray}):(∀ u∈vs,OkU A u)/\SqL K (xM K h A) a (vs.map toV):=by
 obtain⟨us,h1,h2,h3⟩:=ar a ha
 have hu:us=vs:=by
  rcases h3 with q | q
  ·rw[e] at q
   exact (Va q).2.symm
  ·rw[e] at q
   exact absurd (Value.type.inj (Va q).1) (by decide)
 subst hu
 refine⟨h2,?_⟩
 cases hk:K.lookup a with
 | none=>exact .inl (.inr ⟨_,by rw[Q9 ha hk e,XD]⟩)
 | some o =>
  have e2:=KX a o hk
  rw[e] at e2
  obtain rfl:=Option.some.inj e2
  exact .inr ⟨_,us.toArray,_,hk,rfl,rfl,rfl,by rw[List.size_toArray];exact h1,by simpa using xx h2⟩
theorem qhI (KX:K.In h) (ar:∀ a∈A,x8 h A a) {a:Addr}{vs:List Value} (ha:a∈A) (e:h.get? a=some {cls:=.type "tuple",data:=.seq vs.toArray}):(∀ u∈vs,OkU A u)/\SqT K (xM K h A) a (vs.map toV):=by
 obtain⟨us,h1,h2,h3⟩:=ar a ha
 have hu:us=vs:=by
  rcases h3 with q | q
  ·rw[e] at q
   exact absurd (Value.type.inj (Va q).1) (by decide)
  ·rw[e] at q
   exact (Va q).2.symm
 subst hu
 refine⟨h2,?_⟩
 cases hk:K.lookup a with
 | none=>exact .inl (.inr ⟨_,by rw[Q9 ha hk e,XJ]⟩)
 | some o =>
  have e2:=KX a o hk
  rw[e] at e2
  obtain rfl:=Option.some.inj e2
  exact .inr ⟨_,us.toArray,_,hk,rfl,rfl,by rw[List.size_toArray];exact h1,by simpa using xx h2⟩
mutual
theorem qfJ {Pm:Params} (KX:K.In h) (ar:∀ a∈A,x8 h A a):∀ (d:WData) (v:Value),Well Pm h v d->plW d=true->OkU A v->Dw K (xM K h A) (toV v) d
 | .none,_,x,_,_=>by
  cases x
  exact .non
 | .bool b,_,x,_,_=>by
  cases x
  exact .bl b
 | .int i,_,x,_,_=>by
  cases x
  exact .int i
 | .str s,_,x,_,_=>by
  cases x
  exact .str s
 | .bytes b,_,x,_,_=>by
  cases x
  have z:=Dw.byt (K:=K) (H:=xM K h A) b.toArray
  exact z
 | .list ds,_,x,p,hu=>by
  obtain⟨a,vs,rfl,ho,hall⟩:=ZX x
  obtain⟨h2,hs⟩:=qhs KX ar hu ho
  exact .lst hs (Yn KX ar ds _ hall p h2)
 | .tuple ds,_,x,p,hu=>by
  obtain⟨a,vs,rfl,ho,hall⟩:=WR x
  obtain⟨h2,hs⟩:=qhI KX ar hu ho
  exact .tup hs (Yn KX ar ds _ hall p h2)
 | .float _,_,_,p,_=>Bool.noConfusion (show false=true from p)
 | .dict _,_,_,p,_=>Bool.noConfusion (show false=true from p)
 | .bytearray _,_,_,p,_=>Bool.noConfusion (show false=true from p)
 | .set _,_,_,p,_=>Bool.noConfusion (show false=true from p)
 | .frozenset _,_,_,p,_=>Bool.noConfusion (show false=true from p)
 | .obj _ _,_,_,p,_=>Bool.noConfusion (show false=true from p)
theorem Yn {Pm:Params} (KX:K.In h) (ar:∀ a∈A,x8 h A a):∀ (ds:List WData) (vs:List Value),WellAll Pm h vs ds->Q1 ds=true->(∀ u∈vs,OkU A u)->zU K (xM K h A) (vs.map toV) ds
 | [],_,x,_,_=>by
  cases x
  exact .nil
 | d::ds,_,x,p,hu=>by
  obtain⟨v,vs,rfl,x1,x2⟩:=ZF x
  have q:plW d=true/\Q1 ds=true:=Bool.and_eq_true_iff.mp p
  exact .cons (qfJ KX ar d v x1 q.1 (hu _ (List.mem_cons_self ..))) (Yn KX ar ds vs x2 q.2 fun u m=>hu u (List.mem_cons_of_mem _ m))
end
end
theorem WA {ds:List WData} (h:WData.layableAll ds=true):∀ d∈ds,d.weight <= 1048576:=fun d hd =>
 (PySem.W.layableW_iff.mp (List.all_eq_true.mp h d hd)).2.2
theorem Vt:∀ (cs:List Codec) (a:Codec.denoteAll cs),(Codec.encAll cs a).length=cs.length
 | [],_=>rfl
 | c::cs,a=>by
  show (Codec.encAll cs a.2).length+1=cs.length+1
  rw[Vt cs a.2]
end L2
end
section
namespace L2
open PySem PySem.Spec PyProof.Rows
noncomputable def wQ (s:Stmt):Arguments:=match s with
 | .FunctionDef _ a _ _ _ _ _ _ _ _=>a
 | _=>{posonlyargs:=[],args:=[],vararg:=none,kwonlyargs:=[],kw_defaults:=[],kwarg:=none,defaults:=[]}
noncomputable def vC (s:Stmt):List Stmt:=match s with
 | .FunctionDef _ _ b _ _ _ _ _ _ _=>b
 | _=>[]
noncomputable def qg (s:Stmt):Scope:=match s with
 | .FunctionDef _ _ _ _ _ _ sc _ _ _=>sc
 | _=>{kind:=.function,names:=[],isGenerator:=false,isCoroutine:=false}
structure Fun (K:PySem.W.Frag) (x qual:Str) (st:Stmt) (f:Addr) (fd:FuncData):Prop where
 ex:∃ (oc:Value) (od:Option Addr) (kV doc pm:Value) (an:Option Addr) (cdv ct:Value) (osl:Array (Option Value)),
  fd=PySem.W.fnOf x qual (wQ st) (vC st) (qg st) .none kV doc pm an cdv ct/\K.lookup f=some ⟨oc,od,.func fd,osl⟩/\PySem.W.codeIn K cdv qual=true
 kp:PySem.W.keepIn K (.ref f)=true
section
variable {P:Program}{w:World}{K:PySem.W.Frag}{mg:Str->Option Value}{base:Heap}
theorem Fun.binds {x qual:Str}{st:Stmt}{f:Addr}{fd:FuncData}{ps:List Str} (F:Fun K x qual st f fd)
  (h:∀ (kV doc pm:Value) (an:Option Addr) (cdv ct:Value) (us:List Value),us.length=ps.length->bindArgs (PySem.W.fnOf x qual (wQ st) (vC st) (qg st) .none kV doc pm an cdv ct) ⟨us,[]⟩=pure (ps.zip us)):Binds K fd ps []:=by
 obtain⟨oc,od,kV,doc,pm,an,cdv,ct,osl,rfl,lk,hcd⟩:=F.ex
 exact .all (h kV doc pm an cdv ct)
theorem qN {x qual:Str}{st:Stmt}{f:Addr}{oc:Value}{od an:Option Addr}{osl:Array (Option Value)}{kV doc pm cdv ct:Value} (l:K.lookup f=some ⟨oc,od,.func (PySem.W.fnOf x qual (wQ st) (vC st) (qg st) .none kV doc pm an cdv ct),osl⟩)
  (c:PySem.W.codeIn K cdv qual=true) (k:PySem.W.keepIn K (.ref f)=true):Fun K x qual st f (PySem.W.fnOf x qual (wQ st) (vC st) (qg st) .none kV doc pm an cdv ct):=⟨⟨oc,od,kV,doc,pm,an,cdv,ct,osl,rfl,l,c⟩,k⟩
end
noncomputable def qy (H H':Hp):Prop:=∀ b o,H b=some o->H' b=some o
theorem qy.trans {H H1 H2:Hp} (a:qy H H1) (b:qy H1 H2):qy H H2:=fun c o h=>b c o (a c o h)
theorem qy.free {H H':Hp} (e:qy H H') {l:Addr} (h:H' l=Option.none):H l=Option.none:=by
 cases q:H l with
 | none=>rfl
 | some o =>
  rw[e l o q] at h
  cases h
theorem qy.seq {K:PySem.W.Frag}{H H':Hp}{a:Addr}{xs:List V} (e:qy H H') (h:SqL K H a xs):SqL K H' a xs:=by
 rcases h with (h | ⟨o,h⟩) | h
 ·exact .inl (.inl (e _ _ h))
 ·exact .inl (.inr ⟨o,e _ _ h⟩)
 ·exact .inr h
end L2
end
namespace L2
open PySem PySem.Spec PyProof.Rows
noncomputable def Rel (X:Cx) (pins:List (Addr × Obj)) (H:Hp) (b:Addr):Prop :=
 H b≠none\/(∃ o,X.s_0.heap.get? b=some o/\b∉X.ex)\/(∃ x,X.env.cells.lookup x=some b)\/b=X.env.locals\/∃ p∈X.pn++pins,p.1=b
theorem qbk {P:Program}{w:World}{H:Hp}{h:Heap}{a:Addr}{o:HO} (x:zE P w H h a o):∃ ob,h.get? a=some ob:=by
 cases o with
 | lst xs=>obtain⟨_,_,_,_,e⟩:=x;exact⟨_,e⟩
 | tup xs=>obtain⟨_,_,_,ob,p,_⟩:=x;exact⟨ob,p⟩
 | dK kvs=>obtain⟨_,_,_,_,o,_,_,e,_⟩:=x;exact⟨_,e⟩
 | dT kvs=>obtain⟨_,_,_,_,o,_,_,e,_⟩:=x;exact⟨_,e⟩
 | set S n=>obtain⟨o,_,_,_,e,_⟩:=x;exact⟨_,e⟩
 | ins C dx fs=>obtain⟨_,_,_,e,_⟩:=x;exact⟨_,e⟩
 | own y=>exact x
 | xd fs=>obtain⟨_,⟨o,_,_,e,_⟩,_⟩:=x;exact⟨_,e⟩
 | rng lo hi=>obtain⟨_,_,_,e⟩:=x;exact⟨_,e⟩
 | frz ob u=>exact⟨_,x.1⟩
 | tbl ps=>exact⟨_,x⟩
 | met f y=>exact⟨_,x⟩
 | ext φ=>exact x.2.1
section
variable {X:Cx}{pins:List (Addr × Obj)}{σ:St}{H H':Hp}{s s':Shared}{h':Heap}
theorem Vq (I:Inv X pins σ H s) {b:Addr} (r:Rel X pins H b):∃ o,s.heap.get? b=some o:=by
 rcases r with r | ⟨o,e,hx⟩ | ⟨x,e⟩ | rfl | ⟨p,hp,rfl⟩
 ·cases q:H b with
  | none=>exact absurd q r
  | some u=>exact qbk (I.hok b u q)
 ·exact I.base.there b o e hx
 ·obtain⟨v,o,ho,_⟩:=I.cell x b e
  exact⟨o,ho⟩
 ·obtain⟨m,⟨o,_,_,ho,_⟩,_⟩:=I.loc
  exact⟨o,ho⟩
 ·exact⟨_,(I.pin p hp).1⟩
theorem qc1 (I:Inv X pins σ H s) {b:Addr} (h:b∈X.fs):b∈frs X.stack:=by
 rcases I.ok.stk with e | ⟨e,hf⟩
 ·rw[e];exact h
 ·rw[e];unfold frs;rw[List.filterMap_cons,hf];exact List.mem_cons_of_mem _ h
theorem qa7 {t':Nat} (I:Inv X pins σ H s) (kp:∀ b o,Rel X pins H b->b∉frs X.stack->s.heap.get? b=some o->h'.get? b=some o)
  (sl:∀ b o,b∈frs X.stack->s.heap.get? b=some o->∃ sl,h'.get? b=some {o with slots:=sl}):Inv X pins σ H {s with heap:=h',toks:=t'}:=by
 have any:∀ b o,Rel X pins H b->s.heap.get? b=some o->∃ sl,h'.get? b=some {o with slots:=sl}:=fun b o r e=>by
  by_cases hb:b∈frs X.stack
  ·exact sl b o hb e
  ·exact⟨o.slots,kp b o r hb e⟩
 have cellK:∀ x c,X.env.cells.lookup x=some c->∀ v,s.heap.IsCell c v->h'.IsCell c v:=fun x c e v ⟨o,ho,hd⟩=>by
  obtain⟨sl',q⟩:=any c o (.inr (.inr (.inl ⟨x,e⟩))) ho
  exact⟨_,q,hd⟩
 refine⟨I.ok,I.os,I.bare,⟨fun b o e n hb hx=>?_,fun b o e n hb hx=>?_,I.base.free,fun b o e hx=>?_,I.base.tups,I.base.frzs,I.base.tbls⟩,?_,fun x c e=>?_,I.free,I.freeC,fun p hp=>?_,fun b u e=>?_,I.len⟩
 ·have q:=I.base.keep b o e n hb hx
  refine kp b o (.inr (.inl ⟨o,e,hx⟩)) (fun z=>?_) q
  rcases List.mem_cons.mp (I.y8 b z) with z | z
  ·exact absurd (Nat.lt_of_lt_of_le (Heap.lt_size e) I.ok.above) (by rw[z];exact Nat.lt_irrefl _)
  ·exact hb z
 ·obtain⟨s1,q⟩:=I.base.slot b o e n hb hx
  obtain⟨s2,q2⟩:=sl b _ (qc1 I hb) q
  exact⟨s2,q2⟩
 ·obtain⟨o',q⟩:=I.base.there b o e hx
  obtain⟨s2,q2⟩:=any b o' (.inr (.inl ⟨o,e,hx⟩)) q
  exact⟨_,q2⟩
 ·obtain⟨m,⟨o,es,ep,ho,r⟩,hl⟩:=I.loc
  obtain⟨s2,q2⟩:=any _ o (.inr (.inr (.inr (.inl rfl)))) ho
  refine⟨m,⟨_,es,ep,q2,r⟩,fun i x v e1 e2 e3=>?_⟩
  obtain⟨u,r,l⟩:=hl i x v e1 e2 e3
  refine⟨u,r,?_⟩
  rcases l with l | ⟨k,c,e,z⟩
  ·exact .inl l
  ·exact .inr ⟨k,c,e,cellK x c e _ z⟩
 ·obtain⟨v,z⟩:=I.cell x c e
  exact⟨v,cellK x c e v z⟩
 ·obtain⟨e,n,ne,nf,d⟩:=I.pin p hp
  refine⟨kp p.1 p.2 (.inr (.inr (.inr (.inr ⟨p,hp,rfl⟩)))) (fun z=>?_) e,n,ne,nf,d⟩
  rcases List.mem_cons.mp (I.y8 p.1 z) with z | z
  ·exact ne z
  ·exact nf z
 ·refine (I.hok b u e).Zm (fun c w hc q=>?_) (fun _ q=>q) fun _ _ q=>q
  have hne:H c≠none:=by
   rcases hc with z | z
   ·rw[z,e];exact fun z=>nomatch z
   ·rw[z];exact fun z=>nomatch z
  exact kp c w (.inl hne) (fun z=>hne (I.YX c z)) q
end
noncomputable def Trd (h B:Heap) (e:Addr) (cls:Value):Prop :=
 ∃ oe vs a0,h.get? e=some oe/\oe.cls=cls/\oe.data = .fields vs/\vs[0]?=some a0 /\
  (vs[1]?=some .none\/∃ T oT ts f,vs[1]?=some (.ref T)/\B.get? T=none/\T≠e/\h.get? T=some oT/\oT.data = .fields ts/\ts[3]?=some f)
noncomputable def qc9 (h B:Heap) (e:Addr) (cls:Value):Prop :=
 ∃ oe vs a0,h.get? e=some oe/\oe.cls=cls/\oe.data = .fields vs/\vs[0]?=some a0 /\
  ∃ T oT ts f,vs[1]?=some (.ref T)/\B.get? T=none/\T≠e/\h.get? T=some oT/\oT.data = .fields ts/\ts[3]?=some f
theorem qc9.trd {h B:Heap}{e:Addr}{cls:Value} (x:qc9 h B e cls):Trd h B e cls:=by
 obtain⟨oe,vs,a0,h1,h2,h3,h4,r⟩:=x
 exact⟨oe,vs,a0,h1,h2,h3,h4,.inr r⟩
noncomputable def Hand (B:Heap) (l:List Env) (e:Addr) (cls:Value) (h:Heap):Prop:=B.StaysIn h/\B.get? e=none/\h.FunFrames B l/\Trd h B e cls
noncomputable def xP (B:Heap) (l:List Env) (e:Addr) (cls:Value) (h:Heap):Prop:=B.StaysIn h/\B.get? e=none/\h.FunFrames B l/\qc9 h B e cls
theorem xP.hand {B:Heap}{l:List Env}{e:Addr}{cls:Value}{h:Heap} (x:xP B l e cls h):Hand B l e cls h:=⟨x.1,x.2.1,x.2.2.1,x.2.2.2.trd⟩
section
variable {M:Model}{A:Around}{E:Value->Shared->Prop}{s:Shared}{B:Heap}{env env':Env}{outer:List Env}{L e:Addr}{cls:Value}{Q:Unit->Shared->Prop}
theorem xu (hfr:A.frames=some (env::outer)) (hf:env.frame=some L) (hf':env'.frame=some L) (x:Hand B (env::outer) e cls s.heap)
  (h:∀ h',xP B (env::outer) e cls h'->s.heap.UpToSlots h'->Q () {s with heap:=h'}):wpAny M A (noteFrame (.ref e) env') Q E s:=by
 have en:noteFrame (.ref e) env'=noteFrame (.ref e) env:=by
  unfold noteFrame PySem.frameOf
  rw[hf,hf']
 rw[en]
 obtain⟨kb,hen,hl,oe,vs,a0,he,hcls,hd,h0,r⟩:=x
 subst hcls
 have fin:∀ h',Heap.NotedW B (env::outer) e oe.cls a0 (rawInt L) s.heap h'->Q () {s with heap:=h'}:=fun h' ⟨k1,k2,k3,k4⟩=>by
  obtain⟨oe',vs',T,oT,ts,g1,g2,g3,g4,g5,g6,g7,g8,g9⟩:=k3
  exact h h' ⟨k1,hen,k2,oe',vs',a0,g1,g2.1,g3,g2.2,T,oT,ts,_,g4,g5,g6,g7,g8,g9⟩ k4
 rcases r with h1 | ⟨T,oT,ts,f,h1,hnT,hTe,hT,hdT,h3⟩
 ·unfold noteFrame
  simp only[hf]
  refine wpAny_bind (wpAny_field he hd h1 ?_)
  rw[if_neg (by decide)]
  exact wpAny_entryW hfr hl hf he kb hen hd (Array.getElem?_eq_some_iff.mp h1).1 h0 fin
 ·unfold noteFrame
  simp only[hf]
  refine wpAny_bind (wpAny_field he hd h1 ?_)
  rw[if_pos (show (Value.ref T != Value.none)=true from by simp)]
  refine wpAny_bind (wpAny_field hT hdT h3 ?_)
  by_cases hc:(f==rawInt L)=true
  ·rw[if_pos hc]
   exact wpAny_pure (h s.heap ⟨kb,hen,hl,oe,vs,a0,he,rfl,hd,h0,T,oT,ts,f,h1,hnT,hTe,hT,hdT,h3⟩ (.refl _))
  ·rw[if_neg hc]
   refine wpAny_bind (wpAny_setField hT hdT (Array.getElem?_eq_some_iff.mp h3).1 ?_)
   have other:∀ b,b≠T->(s.heap.update T (Obj.mapFields (·.setIfInBounds 3 Value.none))).get? b=s.heap.get? b:=fun b hb=>Heap.get?_update_other _ _ (Ne.symm hb)
   have noRecord:∀ b o,s.heap.get? b=some o->(∀ vs,o.data ≠ .fields vs)->b≠T:=fun b o hb hnf q=>by
    rw[q,hT] at hb;injection hb with hb;subst hb;exact hnf ts hdT
   refine wpAny_entryW hfr (hl.of_keeps fun b o hb hnf=>⟨o,(other b (noRecord b o hb hnf)).trans hb,rfl⟩) hf ((other e (Ne.symm hTe)).trans he)
    (fun b o hbo=>(other b fun q=>by rw[q,hnT] at hbo;cases hbo).trans (kb b o hbo)) hen hd (Array.getElem?_eq_some_iff.mp h1).1 h0
    fun h' ⟨x1,x2,x3,x4⟩=>fin h' ⟨x1,x2,x3,fun b o hb hnf=>x4 b o ((other b (noRecord b o hb hnf)).trans hb) hnf⟩
theorem zu {l:List Env}{fr:Option Addr} (x:xP B l e cls s.heap) (h:∀ h',xP B l e cls h'->s.heap.UpToSlots h'->Q () {s with heap:=h'}):wpAny M A (setFlight (.ref e) fr) Q E s:=by
 obtain⟨kb,hen,hl,oe,vs,a0,he,hcls,hd,h0,T,oT,ts,f,h1,hnT,hTe,hT,hdT,h3⟩:=x
 have hsz:3<ts.size:=(Array.getElem?_eq_some_iff.mp h3).1
 unfold setFlight
 refine wpAny_bind (wpAny_field he hd h1 ?_)
 rw[if_pos (show (Value.ref T != Value.none)=true from by simp)]
 refine wpAny_setField hT hdT hsz ?_
 have other:∀ (v:Value) b,b≠T->(s.heap.update T (Obj.mapFields (·.setIfInBounds 3 v))).get? b=s.heap.get? b:=fun v b hb=>Heap.get?_update_other _ _ (Ne.symm hb)
 have noRecord:∀ b o,s.heap.get? b=some o->(∀ vs,o.data ≠ .fields vs)->b≠T:=fun b o hb hnf q=>by
  rw[q,hT] at hb;injection hb with hb;subst hb;exact hnf ts hdT
 refine h _ ⟨fun b o hbo=>(other _ b fun q=>by rw[q,hnT] at hbo;cases hbo).trans (kb b o hbo),hen,hl.of_keeps fun b o hb hnf=>⟨o,(other _ b (noRecord b o hb hnf)).trans hb,rfl⟩,
  oe,vs,a0,(other _ e (Ne.symm hTe)).trans he,hcls,hd,h0,T,_,_,fr.elim Value.none fun f=>rawInt f,h1,hnT,hTe,Heap.get?_update_self _ hT (Obj.isFreed_of_fields (Obj.data_mapFields hdT _)),Obj.data_mapFields hdT _,Array.getElem?_setIfInBounds_self_of_lt hsz⟩ fun b o hb hn=>⟨o.slots,(other _ b (noRecord b o hb hn)).trans hb⟩
theorem jU {l:List Env}{Q:Value->Shared->Prop} (x:xP B l e cls s.heap) (h:∀ T,Q (.ref T) s):wpAny M A (field (.ref e) 1) Q E s:=by
 obtain⟨kb,hen,hl,oe,vs,a0,he,hcls,hd,h0,T,oT,ts,f,h1,_⟩:=x
 exact wpAny_field he hd h1 (h T)
end
noncomputable def Arr (X:Cx) (E:XK) (e:Value) (s':Shared):Prop :=
 ∃ (a:Addr) (cls:Value) (B:Heap) (H':Hp) (pins:List (Addr × Obj)) (σ:St),e = .ref a/\Inv X pins σ H' s'/\Hand B X.stack a cls s'.heap /\
  (∀ b o,s'.heap.get? b=some o->b∉frs X.stack->Rel X pins H' b->B.get? b=some o)/\E cls none H'
noncomputable def CX1 (P:Program) (w:World):CXT:=fun outer H s E e s' =>
 ∃ (a:Addr) (cls:Value) (B:Heap) (H':Hp),e = .ref a/\s'.os=s.os/\AllBare s'.gens/\Un (frs outer) [] H H' s.heap s'.heap/\HOk P w H' s'.heap/\Hand B outer a cls s'.heap /\
  (∀ b o,s'.heap.get? b=some o->b∉frs outer->(H' b≠none\/∃ o',s.heap.get? b=some o')->B.get? b=some o)/\E cls none H'
theorem rebase {h base B:Heap}:∀ {l:List Env},h.FunFrames base l->(∀ b∈frs l,B.get? b=none)->h.FunFrames B l
 | [],_,_=>trivial
 | env::r,⟨hk,⟨L,o,hf,_,ho,hd⟩,hr⟩,hB=>by
  refine⟨hk,⟨L,o,hf,hB L ?_,ho,hd⟩,rebase hr fun b hb=>hB b ?_⟩
  ·unfold frs;rw[List.filterMap_cons,hf];exact List.mem_cons_self
  ·unfold frs;rw[List.filterMap_cons,hf];exact List.mem_cons_of_mem _ hb
section
variable {X:Cx}{pins:List (Addr × Obj)}{σ:St}{H H':Hp}{s s':Shared}{E E':XK}{e:Value}
theorem qgu (I:Inv X pins σ H s) (x:CX1 X.prog X.w X.stack H s E e s'):Arr X E e s':=by
 obtain⟨a,cls,B,H',e1,ho,hg,un,hok,hd,kb,q⟩:=x
 have I':Inv X pins σ H' s':=I.qbK (ch:=[]) ho un hok hg fun b z=>absurd z (by simp)
 refine⟨a,cls,B,H',pins,σ,e1,I',hd,fun b o hb hf r=>kb b o hb hf ?_,q⟩
 rcases r with r | r
 ·exact .inl r
 ·exact .inr (Vq I (.inr r))
theorem qbd {cls:Value}{a:Addr}{args:List Value}{h':Heap} (I:Inv X pins σ H s) (m:Heap.MadeExcOf s.heap h' a cls args) (q:E cls none H):Arr X E (.ref a) {s with heap:=h'}:=by
 have I':Inv X pins σ H {s with heap:=h'}:=I.kept (t':=s.toks) m.keeps
 have hideN:∀ b∈frs X.stack,(PySem.W.hideAll s.heap (frs X.stack)).get? b=none:=fun b hb=>PySem.W.hideAll_none _ hb
 refine⟨a,cls,PySem.W.hideAll s.heap (frs X.stack),H,pins,σ,rfl,I',⟨fun b o e=>m.keeps b o (PySem.W.of_hideAll _ e),?_,rebase I'.stack hideN,?_⟩,fun b o hb hf r=>?_,q⟩
 ·cases z:(PySem.W.hideAll s.heap (frs X.stack)).get? a with
  | none=>rfl
  | some o =>
   have:=PySem.W.of_hideAll _ z
   rw[m.new] at this
   cases this
 ·obtain⟨t,ht,_,_⟩:=m.there
  exact⟨_,_,_,ht,rfl,rfl,rfl,.inl rfl⟩
 ·obtain⟨o',ho'⟩:=Vq I r
  have z:=m.keeps b o' ho'
  have z2:h'.get? b=some o:=hb
  rw[z] at z2
  cases z2
  exact PySem.W.hideAll_get _ ho' hf
theorem w6 {a:Addr}{cls:Value}{B:Heap}{h':Heap} (I:Inv X pins σ H s) (hd:Hand B X.stack a cls s.heap) (kb:∀ b o,s.heap.get? b=some o->b∉frs X.stack->Rel X pins H b->B.get? b=some o)
  (hd':Hand B X.stack a cls h') (up:s.heap.UpToSlots h'):Inv X pins σ H {s with heap:=h'}/\∀ b o,h'.get? b=some o->b∉frs X.stack->Rel X pins H b->B.get? b=some o:=by
 refine⟨qa7 (t':=s.toks) I (fun b o r hf e=>hd'.1 b o (kb b o e hf r)) fun b o hf e=>?_,fun b o hb hf r=>?_⟩
 ·obtain⟨_,o',e',hn⟩:=hd.2.2.1.mem hf
  rw[e] at e'
  cases e'
  exact up b o e hn
 ·obtain⟨o',e'⟩:=Vq I r
  have z:=hd'.1 b o' (kb b o' e' hf r)
  rw[hb] at z
  cases z
  exact kb b o e' hf r
end
noncomputable def Acc (X:Cx) (E:XK):Prop:=∀ e s',Arr X E e s'->X.xe e s'
theorem xr {X:Cx}{E:XK} (x:Acc X E):Passes (CX1 X.prog X.w) X E:=fun pins σ H s e s' I h=>x e s' (qgu I h)
theorem Y5 {P:Program}{w:World}{K:PySem.W.Frag}{mg:Str->Option Value}{base:Heap}{N:List Str}{qual:Str}{scope:Scope}{f:Addr}{cd:Value}{A:Around}{outer:List Env}{s:Shared}{H:Hp}{E:XK} :
  Acc (ua (CX1 P w) P w K mg base N qual scope f cd A outer s H E) E:=by
 intro e s1 x
 obtain⟨a,cls,B,H',pins,σ,rfl,I,hd,kb,q⟩:=x
 show wpAny _ _ (leaving _ _) _ _ _
 unfold leaving
 refine wpAny_bind (xu (outer:=outer) I.ok.frames rfl rfl hd fun h1 hd1 up1=>?_)
 obtain⟨I1,kb1⟩:=w6 I hd kb hd1.hand up1
 refine zu hd1 fun h2 hd2 up2=>?_
 obtain⟨I2,kb2⟩:=w6 I1 hd1.hand kb1 hd2.hand up2
 obtain⟨g1,g2,⟨_,_,g3⟩,g4⟩:=hd2.hand
 refine⟨a,cls,B,H',rfl,I2.os,I2.bare,I2.base,I2.hok,⟨g1,g2,g3,g4⟩,fun b o hb hf r=>kb2 b o hb (fun z=>?_) ?_,q⟩
 ·rcases List.mem_cons.mp (I2.y8 b z) with z | z
  ·rcases r with r | ⟨o',r⟩
   ·exact r (by rw[z];exact I2.free)
   ·exact absurd (Nat.lt_of_lt_of_le (Heap.lt_size r) I2.ok.above) (by rw[z];exact Nat.lt_irrefl _)
  ·exact hf z
 ·rcases r with r | ⟨o',r⟩
  ·exact .inl r
  ·exact .inr (.inl ⟨o',r,fun z=>nomatch z⟩)
noncomputable abbrev uB:List Value:=[.type "Exception",.type "BaseException",.type "object"]
noncomputable abbrev Yr:String:="Exception.__new__"
noncomputable def ExcAt (h:Heap) (C:Addr):Prop:=∃ N nm q bs hdct sn sub ab col dd k0 k1 k2 k3 k5 mN,
 h.get? C=some (excClassObj nm q C N bs uB hdct sn sub ab col dd k0 k1 k2 k3 k5 Yr)/\h.Ns N mN/\mN "__init__"=none
noncomputable def qfL (K:PySem.W.Frag) (C:Addr):Prop:=∃ N nm q bs hdct sn sub ab col dd k0 k1 k2 k3 k5,
 K.lookup C=some (excClassObj nm q C N bs uB hdct sn sub ab col dd k0 k1 k2 k3 k5 Yr)/\PySem.W.nsOkIn K N=true/\PySem.W.nsIn K N "__init__"=some none
open Classical in
noncomputable def qO (K:PySem.W.Frag) (C:Addr):Bool:=decide (qfL K C)
theorem yO {K:PySem.W.Frag}{h:Heap}{C:Addr} (X:K.In h) (q:qO K C=true):ExcAt h C:=by
 obtain⟨N,nm,qn,bs,hd,sn,sub,ab,col,dd,k0,k1,k2,k3,k5,look,hns,hini⟩:=(@decide_eq_true_iff (qfL K C) (Classical.propDecidable _)).mp q
 exact⟨N,nm,qn,bs,hd,sn,sub,ab,col,dd,k0,k1,k2,k3,k5,_,X _ _ look,.of_isNs (PySem.W.isNs_of_in X hns),PySem.W.nsMap_none_of_in X hns hini⟩
section
variable {X:Cx}{E:XK}
noncomputable def qfM (E:XK) (C:Addr):TS:=fun _ _ H=>E (.ref C) none H
theorem XZ {x:Str}{C:Addr}{np cpos pos:Pos} (hc:X.calm=true) (acc:Acc X E) (hg:Gl X x) (hm:X.mg x=some (.ref C)) (hC:qO X.K C=true) (hd:autoParam ((x==("__debug__":Str))=false) vd._auto_1) :
  PS X (.Raise (some (.Call (.Name x np) [] [] cpos)) none pos) (qfM E C):=by
 intro pins s σ H D I h
 obtain⟨N,nm,q,bs,hdct,sn,sub,ab,col,dd,k0,k1,k2,k3,k5,mN,hC,hN,hi⟩:=yO I.kIn hC
 refine wpAny_Raise_call_subT (bmB:=uB) (C:=C) (N:=N) (mN:=mN) (newId:=Yr) (nm:=nm) (q:=q) (bs:=bs) (bm:=uB) (hdct:=hdct) (sn:=sn) (sub:=sub) (ab:=ab) (col:=col) (dd:=dd) (k0:=k0) (k1:=k1) (k2:=k2) (k3:=k3) (k5:=k5) PySem.F.excBase_Exception (by decide) (I.ok.hd hc) rfl hi ?_
 refine uT I hg hm ⟨rfl,PySem.evalArgs_none ⟨rfl,by show 0 <= sizeLine;decide,hC,hN,.base,fun h' e m=>?_⟩⟩ hd
 exact acc _ _ (qbd I m h)
end
structure j4 (sc ls:Scope):Prop where
 kind:ls.kind = .function
 co:ls.isCoroutine=false
 gen:ls.isGenerator=false
 only:∀ y∈ls.names,y.2 = .free\/y.2 = .globalImplicit
 uniq:∀ y∈ls.names,ls.names.lookup y.1=some y.2
 free:∀ y∈ls.names,y.2 = .free->sc.names.lookup y.1=some .cell
noncomputable abbrev jt (X:Cx) (qual:Str) (ls:Scope) (f:Addr) (cd:Value) (s:Shared):Env:=PySem.W.envX qual ls s.heap.objs.size f cd (qQ X.env.cells ls.names [])
noncomputable def V3 (X Y:Cx) (qual:Str) (ls:Scope) (f:Addr) (cd:Value) (s:Shared) (H:Hp) (E:XK):Cx where
 prog:=X.prog
 w:=X.w
 K:=X.K
 mg:=X.mg
 base:=X.base
 A:=Y.A.deeper (jt X qual ls f cd s)
 N:=X.N
 s_0:=s
 H_0:=H
 env:=jt X qual ls f cd s
 outer:=Y.stack
 stack:=jt X qual ls f cd s::Y.stack
 ex:=[]
 fn:=fun _=>false
 calm:=true
 pn:=[]
 xe:=fun e s'=>wpAny (model X.prog X.w) (Y.A.deeper (jt X qual ls f cd s)) (leaving (jt X qual ls f cd s) e) (fun _ s''=>CX1 X.prog X.w Y.stack H s E e s'') (fun e' s''=>CX1 X.prog X.w Y.stack H s E e' s'') s'
section
variable {X Y:Cx}{qual:Str}{ls:Scope}{f:Addr}{cd:Value}{s s1:Shared}{H H1:Hp}{E:XK}{pins:List (Addr × Obj)}{σ:St}
theorem ur (ok:X.Ok) (L:j4 X.env.scope ls) {x:Str}{c:Addr} (h:(qQ X.env.cells ls.names []).lookup x=some c):(x,NameKind.free)∈ls.names/\X.env.cells.lookup x=some c:=by
 rcases yb (PySem.mem_of_lookup h) with z | ⟨z,rfl⟩
 ·cases z
 ·obtain⟨c',e⟩:=ok.has x (.inl (L.free _ z rfl))
  exact⟨z,by rw[e];rfl⟩
theorem J5 (ok:X.Ok) (L:j4 X.env.scope ls) {x:Str} (h:(x,NameKind.free)∈ls.names):∃ c,(qQ X.env.cells ls.names []).lookup x=some c/\X.env.cells.lookup x=some c:=by
 obtain⟨c,e⟩:=mem_lookup (y3 (cells:=X.env.cells) (acc:=[]) h)
 exact⟨c,e,(ur ok L e).2⟩
theorem qex {h1:Heap}{tk:Nat} (L:j4 X.env.scope ls) (I1:Inv X pins σ H1 s1) (hcell:∀ x c v,X.env.cells.lookup x=some c->s1.heap.IsCell c v->s.heap.IsCell c v) (hfree:∀ x c,X.env.cells.lookup x=some c->H c=none)
  (hd:Y.A.handled=none) (e0:Zh X.prog X.w X.K X.mg X.base Y.A Y.stack s H) (hns:h1.Ns s.heap.objs.size (fun _=>none)) (kp:∀ b o,s.heap.get? b=some o->h1.get? b=some o) :
  Inv (V3 X Y qual ls f cd s H E) [] σ H {s with heap:=h1,toks:=tk}:=by
 have noA:∀ b:Addr,b∉(V3 X Y qual ls f cd s H E).ex:=fun b z=>absurd (show b∈([]:List Addr) from z) (by simp)
 refine⟨⟨e0.mod,L.kind,rfl,rfl,Nat.le_refl _,fun y z c h1 h2=>?_,fun y hy=>?_,fun y c z=>Bool.noConfusion (show false=true from z),fun _=>hd,Around.frames_deeper e0.frames,.inr ⟨rfl,rfl⟩,fun b z=>absurd z (noA b),e0.bs,e0.bsz,fun b _ _=>noA b,fun b z=>absurd z (noA b),e0.ji,e0.frf⟩,
  rfl,e0.bare,Un.kept kp,⟨_,hns,fun i y v h1 h2 h3=>?_⟩,fun y c h=>?_,e0.hok.fresh (Nat.le_refl _),fun y c h=>hfree y c (ur I1.ok L h).2,fun p hp=>absurd (show p∈([]:List (Addr × Obj)) from hp) (by simp),e0.hok.kept kp,I1.len⟩
 ·exact I1.ok.inj y z c (ur I1.ok L h1).2 (ur I1.ok L h2).2
 ·have hy:ls.names.lookup y=some .cell\/ls.names.lookup y=some .free:=hy
  rcases hy with hy | hy
  ·rcases L.only _ (PySem.mem_of_lookup hy) with z | z <;> cases z
  ·obtain⟨c,e,_⟩:=J5 I1.ok L (PySem.mem_of_lookup hy)
   exact⟨c,e⟩
 ·have h3:ls.names.lookup y=some .local\/ls.names.lookup y=some .cell\/ls.names.lookup y=some .free:=h3
  have hfr:ls.names.lookup y=some .free:=by
   rcases h3 with z | z | z
   ·rcases L.only _ (PySem.mem_of_lookup z) with q | q <;> cases q
   ·rcases L.only _ (PySem.mem_of_lookup z) with q | q <;> cases q
   ·exact z
  have hc:=L.free _ (PySem.mem_of_lookup hfr) rfl
  obtain⟨c,e1,e2⟩:=J5 I1.ok L (PySem.mem_of_lookup hfr)
  obtain⟨m,_,hl⟩:=I1.loc
  obtain⟨u,r,l⟩:=hl i y v h1 h2 (.inr (.inl hc))
  refine⟨u,r,.inr ⟨.inr hfr,c,e1,?_⟩⟩
  rcases l with ⟨k,_⟩ | ⟨_,c',e',z⟩
  ·have k:X.env.scope.names.lookup y=some .local:=k
   rw[show X.env.scope.names.lookup y=_ from hc] at k
   cases k
  ·rw[e2] at e'
   cases e'
   exact (hcell y c _ e2 z).keeps kp
 ·obtain⟨_,e⟩:=ur I1.ok L h
  obtain⟨v,z⟩:=I1.cell y c e
  exact⟨v,(hcell y c v e z).keeps kp⟩
theorem qeO (L:j4 X.env.scope ls):Acc (V3 X Y qual ls f cd s H E) E:=by
 intro e s1 x
 obtain⟨a,cls,B,H',pins,σ,rfl,I,hd,kb,q⟩:=x
 show wpAny _ _ (leaving _ _) _ _ _
 unfold leaving
 refine wpAny_bind (xu (outer:=Y.stack) I.ok.frames rfl rfl hd fun h1 hd1 up1=>?_)
 obtain⟨I1,kb1⟩:=w6 I hd kb hd1.hand up1
 refine zu hd1 fun h2 hd2 up2=>?_
 obtain⟨I2,kb2⟩:=w6 I1 hd1.hand kb1 hd2.hand up2
 obtain⟨g1,g2,⟨_,_,g3⟩,g4⟩:=hd2.hand
 refine⟨a,cls,B,H',rfl,I2.os,I2.bare,I2.base,I2.hok,⟨g1,g2,g3,g4⟩,fun b o hb hf r=>kb2 b o hb (fun z=>?_) ?_,q⟩
 ·rcases List.mem_cons.mp (I2.y8 b z) with z | z
  ·rcases r with r | ⟨o',r⟩
   ·exact r (by rw[z];exact I2.free)
   ·exact absurd (Nat.lt_of_lt_of_le (Heap.lt_size r) I2.ok.above) (by rw[z];exact Nat.lt_irrefl _)
  ·exact hf z
 ·rcases r with r | ⟨o',r⟩
  ·exact .inl r
  ·exact .inr (.inl ⟨o',r,fun z=>nomatch z⟩)
end
structure qe7 (s:Shared) (H:Hp) (fr:List Addr) (f c:Addr) (qual:Str) (params:Arguments) (body:Expr) (ls:Scope) (clos:List (Str × Addr)):Prop where
 obj:∃ pm ctv,s.heap.get? f=some (PySem.W.kla_obj "<lambda>" qual params body ls clos pm c ctv)
 fN:H f=none
 fF:f∉fr
 code:∃ oc vs t,s.heap.get? c=some oc/\oc.data = .fields vs/\vs[1]?=some (.str qual t)
 cN:H c=none
 cF:c∉fr
section
variable {X Y:Cx}{qual:Str}{params:Arguments}{body:Expr}{ls:Scope}{f c:Addr}{pins:List (Addr × Obj)}{σ1:St}{E:XK}{tb:TE}{k i:Nat}{x:Str}{p pos:Pos}
theorem qeb (I1:Inv X pins σ1 Y.H_0 Y.s_0) (eP:Y.prog=X.prog) (ew:Y.w=X.w) (eK:Y.K=X.K) (em:Y.mg=X.mg) (eb:Y.base=X.base) (eo:Y.outer=X.stack) (ex:Y.ex=[]) (hfn:∀ y,X.fn y=true) (L:j4 X.env.scope ls)
  (la:qe7 Y.s_0 Y.H_0 Y.fs f c qual params body ls (qQ X.env.cells ls.names [])) (hr:wN (k+1) Y.A) (acc:Acc Y E)
  (hbind:∀ pm ctv,bindArgs (PySem.W.kla_fn "<lambda>" qual params body ls (qQ X.env.cells ls.names []) pm (.ref c) ctv) ⟨[],[]⟩=pure [])
  (hb:∀ (s:Shared) (H:Hp),PE (V3 X Y qual ls f (.ref c) s H E) body tb) (hx:Y.N[i]?=some x) (hv:Vis Y.env.scope x) (hdb:autoParam ((x==("__debug__":Str))=false) vd._auto_1) (hcd:autoParam ((x==("__classdict__":Str))=false) vd._auto_1) :
  PE Y (.Call (.Name x p) [] [] pos) (fun σ H Q=>σ[i]?=some (some (.ref f))/\tb σ1 H Q):=by
 intro pins' s σ H Q I ⟨hσ,hq⟩
 refine wpAny_Call_Name_kw (thn (Wk hx hv hdb hcd pins' s σ H (fun v H'=>v = .ref f/\H'=H) I ⟨_,hσ,rfl,rfl⟩) fun u s2 ⟨v,H2,I2,ru,ev,eH⟩=>?_)
 subst ev eH
 cases (show u=Value.ref f from ru)
 have keep:∀ b o,Y.s_0.heap.get? b=some o->Y.H_0 b=none->b∉Y.fs->s2.heap.get? b=some o/\H2 b=none:=fun b o e n nf =>
  ⟨I2.base.keep b o e n nf (by rw[ex];simp),I2.base.free b o e n (by rw[ex];simp)⟩
 obtain⟨⟨pm,ctv,ho⟩,fN,fF,⟨oc,vs,t,hoc,hod,hov⟩,cN,cF⟩:=la
 have ho2:=(keep f _ ho fN fF).1
 have hoc2:=(keep c _ hoc cN cF).1
 have hcalm:Y.A.handled=none:=hr.hd
 refine PySem.W.callWith_F0 ⟨_,_,_,_,ho2⟩ ?_
 have lim:s2.heap.NoLimit:=I2.nolimit
 have cells:∀ y d,X.env.cells.lookup y=some d->d∉Y.fs:=fun y d e hd=>by
  have z:d∈X.env.locals::X.fs:=I1.y8 d (by rw[<- eo];exact hd)
  rcases List.mem_cons.mp z with z | z
  ·exact I1.cne y d e z
  ·obtain⟨_,o1,e1,_⟩:=I1.ok.ji.mem z
   exact absurd (Nat.lt_of_lt_of_le (Heap.lt_size e1) (I1.ok.cab y d (hfn y) e)) (Nat.lt_irrefl _)
 have hcell:∀ y d v,X.env.cells.lookup y=some d->Y.s_0.heap.IsCell d v->s2.heap.IsCell d v:=fun y d v e ⟨o,h1,h2⟩=>⟨o,(keep d o h1 (I1.freeC y d e) (cells y d e)).1,h2⟩
 have hfree:∀ y d,X.env.cells.lookup y=some d->H2 d=none:=fun y d e=>by
  obtain⟨v,o,h1,_⟩:=I1.cell y d e
  exact (keep d o h1 (I1.freeC y d e) (cells y d e)).2
 have e0:Zh X.prog X.w X.K X.mg X.base Y.A Y.stack s2 H2:=by
  have:=I2.qd2
  rw[eP,ew,eK,em,eb] at this
  exact this
 have body_ok:codeAny (model Y.prog Y.w) Y.A (.call (.ref f) ⟨[],[]⟩) (CR (CX1 Y.prog Y.w) Y.stack Y.prog Y.w H2 s2 Q E) s2:=by
  refine PySem.W.kla_callFunE hr.depth ho2 rfl L.co L.gen rfl ⟨c,oc,vs,t,rfl,hoc2,hod,hov⟩ ?_
  rw[hbind]
  refine wpAny_pure (wpAny_newFunctionEnv (fun y hy z=>?_) (fun y hy=>nomatch hy) (fun h1 hns hsb=>⟨lim.fresh _ hsb,PySem.W.kla_codeExpr ?_⟩) L.kind)
  ·rcases L.only y hy with q | q <;> (rw[q] at z;cases z)
  ·have kp:∀ b o,s2.heap.get? b=some o->h1.get? b=some o:=fun b o e=>(hsb.2 b (Nat.ne_of_lt (Heap.lt_size e))).trans (Heap.get?_push_of_some _ e)
   have I3:Inv (V3 X Y qual ls f (.ref c) s2 H2 E) [] σ1 H2 {s2 with heap:=h1,toks:=s2.toks+0}:=qex L I1 hcell hfree hcalm e0 hns kp
   rw[eP,ew]
   have q:=hb s2 H2 [] _ σ1 H2 Q I3 hq
   refine wpAny_mono q (fun v s' ⟨vv,H',J,rv,qq⟩=>?_) fun e s' hs=>?_
   ·exact⟨vv,H',J.os,J.bare,J.base,J.hok,rv,qq⟩
   ·exact hs
 refine wpAny_call (codeAny_mono body_ok fun r s' hq=>?_)
 cases r with
 | error e=>exact xr acc pins' σ H2 s2 e s' I2 hq
 | ok fl =>
  cases fl with
  | ret u=>exact I2.after hq
  | next=>exact False.elim hq
  | brk=>exact False.elim hq
  | cont=>exact False.elim hq
end
section
variable {M:Model}{A:Around}{E:Value->Shared->Prop}{s:Shared}{e C C':Addr}{oe:Obj}{Q:Bool->Shared->Prop}
theorem qdc (hC:ExcAt s.heap C) (he:s.heap.get? e=some oe) (hcls:oe.cls = .ref C) (h:Q true s):wpAny M A (excMatches (.ref e) (.ref C)) Q E s:=by
 obtain⟨N,nm,q,bs,hdct,sn,sub,ab,col,dd,k0,k1,k2,k3,k5,mN,hC,hN,hi⟩:=hC
 obtain⟨hp,g,d,tk,os⟩:=s
 exact wpAny_excMatches_sub_self hC he hcls (by decide) h
theorem qbc (hC:ExcAt s.heap C) (hC':ExcAt s.heap C') (he:s.heap.get? e=some oe) (hcls:oe.cls = .ref C) (hne:C≠C') (h:Q false s):wpAny M A (excMatches (.ref e) (.ref C')) Q E s:=by
 obtain⟨N,nm,q,bs,hdct,sn,sub,ab,col,dd,k0,k1,k2,k3,k5,mN,hC,hN,hi⟩:=hC
 obtain⟨N',nm',q',bs',hdct',sn',sub',ab',col',dd',k0',k1',k2',k3',k5',mN',hC',hN',hi'⟩:=hC'
 obtain⟨hp,g,d,tk,os⟩:=s
 have c1:(Value.ref C'::uB).contains (.type "BaseException")=true:=by
  rw[List.contains_cons,show uB.contains (.type "BaseException")=true by decide,Bool.or_true]
 have c2:(Value.ref C::uB).contains (.ref C')=false:=by
  rw[List.contains_cons]
  have:(Value.ref C'==Value.ref C)=false:=by
   rw[beq_eq_false_iff_ne]
   exact fun z=>hne (Value.ref.inj z).symm
  rw[this]
  rfl
 have f:=tc_notTuple
 unfold excMatches
 repeat (first | (with_reducible refine wpAny_loadPart_at he ?_;rw[hcls]) | with_reducible refine wpAny_loadPart_at hC' ?_ | with_reducible refine wpAny_loadPart_at hC ?_ | (with_reducible refine wpAny_isSubtype_exc hC' ?_;rw[c1]) | (with_reducible refine wpAny_isSubtype_exc hC ?_;rw[c2]) | wp_step)
 exact h
end
noncomputable abbrev Cx.marked (X:Cx) (e:Value):Cx:={X with A:=X.A.mark (some e),calm:=false,xe:=fun _ _=>False}
section
variable {X:Cx}{pins:List (Addr × Obj)}{σ:St}{H:Hp}{s:Shared}
theorem Wc (I:Inv X pins σ H s) (e:Value):Inv (X.marked e) pins σ H s :=
 ⟨⟨I.ok.mod,I.ok.kind,I.ok.glob,I.ok.blt,I.ok.above,I.ok.inj,I.ok.has,I.ok.cab,fun z=>Bool.noConfusion (show false=true from z),I.ok.frames,I.ok.stk,I.ok.exf,I.ok.bs,I.ok.bsz,I.ok.noex,I.ok.exfs,I.ok.ji,I.ok.frf⟩,I.os,I.bare,I.base,I.loc,I.cell,I.free,I.freeC,I.pin,I.hok,I.len⟩
theorem yt {e:Value} (I:Inv (X.marked e) pins σ H s) (ok:X.Ok):Inv X pins σ H s:=⟨ok,I.os,I.bare,I.base,I.loc,I.cell,I.free,I.freeC,I.pin,I.hok,I.len⟩
end
inductive Hs (X:Cx):List ExceptHandler->List (Addr × Int)->Prop
 | nil:Hs X [] []
 | cons {x:Str}{C:Addr}{k:Int}{r:List ExceptHandler}{l:List (Addr × Int)}{np p1 p2 p3 p4 p5:Pos}{j:Nat}:Gl X x->X.mg x=some (.ref C)->qO X.K C=true->(x==("__debug__":Str))=false->Hs X r l ->
   Hs X (.ExceptHandler (some (.Name x np)) none [.Return (some (.List [.UnaryOp .USub (.Constant (.int k) j p1) p2] p3)) p4] p5::r) ((C,k)::l)
section
variable {X:Cx}{pins:List (Addr × Obj)}{σ:St}{H:Hp}{s:Shared}{a C:Addr}{B:Heap}{D:Ends}
theorem qeQ {hs:List ExceptHandler}{l:List (Addr × Int)} (h:Hs X hs l):∀ {s:Shared}{k:Int},qO X.K C=true->Inv X pins σ H s->xP B X.stack a (.ref C) s.heap->(∀ b o,s.heap.get? b=some o->b∉frs X.stack->Rel X pins H b->B.get? b=some o) ->
  l.lookup C=some k->(∀ p,H p=none->D.rt (.ref p) (upd H p (.lst [.int (-k)])))->wpAny (model X.prog X.w) X.A (handleBy (.ref a) X.env hs) (SP X pins D) X.xe s:=by
 induction h with
 | nil=>intro s k _ _ _ _ hl;cases hl
 | @cons x C' k' r l np p1 p2 p3 p4 p5 j hg hm hC' hd _ ih =>
  intro s k hC I ha kb hl q
  have em:=hC
  refine wpAny_handleBy_cons (codeAny_handlers_test ?_) (by intro z;cases z)
  have IM:=Wc I (.ref a)
  refine uT (X:=X.marked (.ref a)) IM hg hm ?_ hd
  obtain⟨oe,vs,a0,he,hcls,hd',h0,rr⟩:=ha.2.2.2
  by_cases hcc:C=C'
  ·subst hcc
   have hk:k'=k:=by
    rw[List.lookup_cons_self] at hl
    exact Option.some.inj hl
   subst hk
   refine qdc (yO I.kIn hC) he hcls ?_
   show codeAny _ _ _ _ _
   refine codeAny_handlers_suite (zu ha fun h2 ha2 up=>?_)
   obtain⟨I2,kb2⟩:=w6 I ha.hand kb ha2.hand up
   have IM2:=Wc I2 (.ref a)
   have pe:PSs (X.marked (.ref a)) [.Return (some (.List [.UnaryOp .USub (.Constant (.int k') j p1) p2] p3)) p4] _:=u6 (uh (Xc (vQ (qe6 qcO JM) zS)))
   refine wpAny_mono (pe pins _ σ H D IM2 ⟨k',rfl,by show 1 <= sizeLine;decide,q⟩) (fun f s3 hs=>?_) fun _ _ z=>z.elim
   cases f with
   | ret u =>
    obtain⟨v,σ',H',J,rv,qq⟩:=hs
    exact⟨v,σ',H',yt J I.ok,rv,qq⟩
   | next=>obtain⟨σ',H',J,qq⟩:=hs;exact⟨σ',H',yt J I.ok,qq⟩
   | brk=>obtain⟨σ',H',J,qq⟩:=hs;exact⟨σ',H',yt J I.ok,qq⟩
   | cont=>obtain⟨σ',H',J,qq⟩:=hs;exact⟨σ',H',yt J I.ok,qq⟩
  ·refine qbc (yO I.kIn hC) (yO I.kIn hC') he hcls hcc ?_
   show wpAny _ _ _ _ _ _
   refine ih hC I ha kb ?_ q
   rw[List.lookup_cons] at hl
   rw[show (C==C')=false from beq_eq_false_iff_ne.mpr hcc] at hl
   exact hl
end
noncomputable def qf0 (K:PySem.W.Frag) (l:List (Addr × Int)) (rt:VK):XK:=fun c _ H=>∃ C k,c = .ref C/\qO K C=true/\l.lookup C=some k/\∀ p,H p=none->rt (.ref p) (upd H p (.lst [.int (-k)]))
noncomputable abbrev Cx.qb7 (X:Cx) (pins:List (Addr × Obj)):Cx:={X with pn:=X.pn++pins}
theorem qcX {X:Cx}{pins:List (Addr × Obj)}{σ:St}{H:Hp}{s:Shared} (I:Inv X pins σ H s):Inv (X.qb7 pins) [] σ H s :=
 ⟨⟨I.ok.mod,I.ok.kind,I.ok.glob,I.ok.blt,I.ok.above,I.ok.inj,I.ok.has,I.ok.cab,I.ok.hd,I.ok.frames,I.ok.stk,I.ok.exf,I.ok.bs,I.ok.bsz,I.ok.noex,I.ok.exfs,I.ok.ji,I.ok.frf⟩,I.os,I.bare,I.base,I.loc,I.cell,I.free,I.freeC,
  fun p hp=>I.pin p (by have z:p∈(X.pn++pins)++[]:=hp;rwa [List.append_nil] at z),I.hok,I.len⟩
theorem yH {X:Cx}{pins pins':List (Addr × Obj)}{σ:St}{H:Hp}{s:Shared} (I:Inv (X.qb7 pins) pins' σ H s) (ok:X.Ok):Inv X pins σ H s :=
 ⟨ok,I.os,I.bare,I.base,I.loc,I.cell,I.free,I.freeC,fun p hp=>I.pin p (List.mem_append_left _ hp),I.hok,I.len⟩
theorem qfY {X:Cx}{body:List Stmt}{h0:ExceptHandler}{hs:List ExceptHandler}{l:List (Addr × Int)}{pos:Pos}{tb:Ends->TS}{L:Addr} (hst:X.stack=X.env::X.outer) (hfr:X.env.frame=some L) (hH:Hs X (h0::hs) l)
  (hb:∀ (D:Ends) (pins:List (Addr × Obj)),PSs ((X.qb7 pins).uD (Arr (X.qb7 pins) (qf0 X.K l D.rt))) body (tb D)):PS X (.Try body (h0::hs) [] [] pos) (fun D σ H=>tb D D σ H):=by
 intro pins s σ H D I h
 refine wpAny_Try_except (wpAny_mono (hb D pins [] s σ H D ((qcX I).uD _) h) (fun f s1 q=>?_) fun e s1 x=>?_)
 ·have q:=q.yf
  cases f with
  | next=>obtain⟨σ',H',J,qq⟩:=q;exact wpAny_execs_nil ⟨σ',H',yH J I.ok,qq⟩
  | ret v=>obtain⟨v,σ',H',J,r,qq⟩:=q;exact⟨v,σ',H',yH J I.ok,r,qq⟩
  | brk=>obtain⟨σ',H',J,qq⟩:=q;exact⟨σ',H',yH J I.ok,qq⟩
  | cont=>obtain⟨σ',H',J,qq⟩:=q;exact⟨σ',H',yH J I.ok,qq⟩
 ·obtain⟨a,cls,B,H',pins',σ',rfl,J,hd,kb,C,k,rfl,hC,hl,q⟩:=x
  have hfrm:X.A.frames=some (X.env::X.outer):=by rw[<- hst];exact J.ok.frames
  have J:=yH J I.ok
  have hd:Hand B X.stack a (.ref C) s1.heap:=hd
  have kb:∀ b o,s1.heap.get? b=some o->b∉frs X.stack->Rel X pins H' b->B.get? b=some o:=fun b o h1 h2 r=>kb b o h1 h2 (by
   rcases r with r | r | r | r | ⟨p,hp,r⟩
   ·exact .inl r
   ·exact .inr (.inl r)
   ·exact .inr (.inr (.inl r))
   ·exact .inr (.inr (.inr (.inl r)))
   ·exact .inr (.inr (.inr (.inr ⟨p,List.mem_append_left _ hp,r⟩))))
  have hd0:=hd
  rw[hst] at hd0
  refine xu hfrm hfr hfr hd0 fun h1 hd1 up1=>?_
  rw[<- hst] at hd1
  obtain⟨I1,kb1⟩:=w6 J hd kb hd1.hand up1
  refine zu hd1 fun h2 hd2 up2=>?_
  obtain⟨I2,kb2⟩:=w6 I1 hd1.hand kb1 hd2.hand up2
  exact qeQ hH hC I2 hd2 kb2 hl q
theorem qcT {X:Cx}{pins:List (Addr × Obj)}{σ:St}{H:Hp}{s:Shared}{P:Addr}{ps more:Array Value}{h':Heap}{tk:Nat} (I:Inv X pins σ H s) (hP:H P=some (.tbl ps)) (hx:Heap.ExtBut P s.heap h')
  (hP':h'.get? P=some {cls:=.none,data:=.fields (ps++more)}):Inv X pins σ (upd H P (.tbl (ps++more))) {s with heap:=h',toks:=tk}:=by
 have ne:∀ b,H b=none->b≠P:=fun b n z=>by rw[z,hP] at n;cases n
 have ne2:∀ b u,H b=some u->(∀ ps,u ≠ .tbl ps)->b≠P:=fun b u n q z=>by rw[z,hP] at n;exact q ps (Option.some.inj n).symm
 refine I.un ⟨fun b o e n _ _=>hx b o (ne b n) e,fun b o e n _ _=>⟨o.slots,hx b o (ne b n) e⟩,fun b o e n _=>by rw[qA (ne b n)];exact n,fun b o e _=>?_,fun b xs e=>by rw[qA (ne2 b _ e fun _ z=>nomatch z)];exact e,
  fun b o u e=>by rw[qA (ne2 b _ e fun _ z=>nomatch z)];exact e,fun b qs e=>?_⟩ fun b u e=>?_
 ·by_cases hb:b=P
  ·rw[hb];exact⟨_,hP'⟩
  ·exact⟨o,hx b o hb e⟩
 ·by_cases hb:b=P
  ·subst hb
   rw[hP] at e
   cases e
   exact⟨more,qL⟩
  ·exact⟨#[],by rw[qA hb,e];simp⟩
 ·by_cases hb:b=P
  ·subst hb
   rw[qL] at e
   cases e
   exact hP'
  ·rw[qA hb] at e
   refine (I.hok b u e).Zm (fun c v hc q=>?_) (fun c q=>?_) fun c xs q=>?_
   ·refine hx c v ?_ q
    rcases hc with z | z
    ·rw[z];exact hb
    ·exact ne2 c _ z fun _ z=>nomatch z
   ·rw[qA (ne2 c _ q fun _ z=>nomatch z)];exact q
   ·rw[qA (ne2 c _ q fun _ z=>nomatch z)];exact q
theorem qfG {CX:CXT}{P:Program}{w:World}{K:PySem.W.Frag}{mg:Str->Option Value}{base:Heap}{k:Nat}{f:Addr}{name qual:Str}{params:Arguments}{body:List Stmt}{scope:Scope}{dV kV doc pm cdv ct oc:Value}{an od:Option Addr}
  {osl:Array (Option Value)}{N ps:List Str}{A:Around}{outer:List Env}{s:Shared}{H:Hp}{args:Args}{us:List Value}{vs:List V}{Q:VK}{E:XK}
  (lk:K.lookup f=some ⟨oc,od,.func (PySem.W.fnOf name qual params body scope dV kV doc pm an cdv ct),osl⟩) (hcd:PySem.W.codeIn K cdv qual=true) (S:qw N ps scope) (hl:vs.length=ps.length) (hr:wN (k+1) A)
  (e0:Zh P w K mg base A outer s H) (hb:BindsTo s (PySem.W.fnOf name qual params body scope dV kV doc pm an cdv ct) args (ps.zip us)) (r:Vals vs us)
  (hbody:∃ t,PSs (ua CX P w K mg base N qual scope f cdv A outer s H E) body t/\t {nx:=fun _ H'=>Q .non H',rt:=Q} (start N vs) H) :
  codeAny (model P w) A (.call (.ref f) args) (CR CX outer P w H s Q E) s:=by
 have F:=qak (P:=P) (w:=w) (mg:=mg) (base:=base) (CX:=CX) (k:=k) (sp:=fun vs' H' Q' E'=>vs'.length=ps.length/\False) lk hcd S (fun _ _ _ _ z=>z.1) fun _ _ _ _ _ _ _ _ z=>z.2.elim
 have KX:K.In s.heap:=e0.mod.kin.keeps fun b o e=>(e0.bs b o e).1
 have lim:s.heap.NoLimit:=e0.mod.nolimit.keeps fun b o e=>(e0.bs b o e).1
 have hkind:∀ y∈ps.zip us,scope.names.lookup y.1=some .local\/(scope.names.lookup y.1=some .cell/\((cellsFrom (s.heap.objs.size+1) scope.names []).lookup y.1).isSome=true):=fun⟨n,v⟩ hy=>by
  rcases S.par n (List.of_mem_zip hy).1 with q | q
  ·exact .inl q
  ·exact .inr ⟨q,PySem.W.cellsFrom_some _ _ _ (.inl q)⟩
 refine codeAny_call_function hr.depth (KX _ _ lk) rfl S.co S.gen rfl (PySem.W.codeRec_of KX hcd) (hb _ _ _ _ ?_)
 refine wpAny_newFunctionEnv_cells S.kind hkind fun env he s1 x=>?_
 subst he
 refine⟨lim.keeps x.toInCall.keep,codeAny_func ?_⟩
 obtain⟨t,ht,hq⟩:=hbody
 have I:Inv (ua CX P w K mg base N qual scope f cdv A outer s H E) [] (start N vs) H s1:=Z2 S hr.hd e0 hl r x
 refine wpAny_mono (ht [] s1 (start N vs) H _ I hq) (fun fl s' hs=>?_) fun e s' hs=>hs
 have fin:∀ {σ':St}{H':Hp}{v:V}{u:Value},Inv (ua CX P w K mg base N qual scope f cdv A outer s H E) [] σ' H' s'->RelV v u->Q v H'->CE outer P w H s Q u s' :=
  fun {σ' H' v u} J rv q=>⟨v,H',J.os,J.bare,J.base,J.hok,rv,q⟩
 cases fl with
 | ret u =>
  obtain⟨v,σ',H',J,rv,q⟩:=hs
  exact fin J rv q
 | next =>
  obtain⟨σ',H',J,q⟩:=hs
  exact fin (v:=V.non) (u:=Value.none) J rfl q
 | brk =>
  obtain⟨_,_,_,q⟩:=hs
  exact False.elim q
 | cont =>
  obtain⟨_,_,_,q⟩:=hs
  exact False.elim q
theorem zL {X:Cx}{E:XK}:Acc (X.uD (Arr X E)) E:=fun e s' x=>by
 obtain⟨a,cls,B,H',pins,σ,e1,I,hd,kb,q⟩:=x
 exact⟨a,cls,B,H',pins,σ,e1,I.yf,hd,kb,q⟩
structure xV (mg:Str->Option Value) (base:Heap) (c P:Addr):Prop where
 code:PySem.W.CodeHd base c P
 bm:∃ bm ob,mg "__builtins__"=some (.ref bm)/\bm≠builtinsNs/\base.get? bm=some ob/\ob.cls = .type "module"/\ob.dict=some builtinsNs/\ob.data = .plain
section
variable {X:Cx}{pins:List (Addr × Obj)}{σ:St}{H:Hp}{s:Shared}{c P:Addr}{params:Arguments}{body:Expr}{ls:Scope}{lpos:Pos}{E:Value->Shared->Prop}{Q:Value->Shared->Prop}
theorem qdb (I:Inv X pins σ H s) (BL:xV X.mg X.base c P) (hc:X.env.code = .ref c) (hP:H P=some (.tbl #[])) (L:j4 X.env.scope ls) (hdef:defaultsOf params X.env=([],[]))
  (h:∀ (s1:Shared) (more:Array Value) (f c':Addr),Inv X pins σ (upd H P (.tbl more)) s1->qe7 s1 (upd H P (.tbl more)) (frs X.stack) f c' (X.env.qual++"<lambda>") params body ls (qQ X.env.cells ls.names [])->Q (.ref f) s1) :
  wpAny (model X.prog X.w) X.A (eval (.Lambda params body ls lpos) X.env) Q E s:=by
 have hPo:s.heap.get? P=some (PySem.W.tabObj #[]):=I.hok P _ hP
 have hg:=I.mod.glob.keeps I.bk
 obtain⟨bm,ob,b1,b2,b3,b4,b5,b6⟩:=BL.bm
 have nP:∀ b o,X.base.get? b=some o->b≠P:=fun b o e z=>by
  have:=(I.bs b o e).2
  rw[z,hP] at this
  cases this
 have hgP:mainGlobals≠P:=by
  obtain⟨o,es,ep,e,_⟩:=I.mod.glob
  exact nP _ o e
 have hbG:bm≠mainGlobals:=fun z=>by
  obtain⟨o,es,ep,e,hd,_⟩:=I.mod.glob
  rw[z,e] at b3
  cases b3
  rw[hd] at b6
  cases b6
 have hclos:closureFor ls X.env=pure (qQ X.env.cells ls.names []):=V0 fun y hy e=>I.ok.has _ (.inl (L.free y hy e))
 refine PySem.W.kla_eval hdef (PySem.W.kla_makeFunction (mg:=X.mg) (P:=P) hclos I.ok.glob hg hc (BL.code.keeps I.bk) hPo trivial rfl hgP ⟨bm,ob,b1,b2,hbG,nP bm ob b3,I.bk bm ob b3,b4,b5,b6⟩ fun c' ctv h' tk hx hge hlt hrec htb=>?_)
 have I1:=qcT (tk:=tk) I hP hx htb
 have hPlt:P<s.heap.objs.size:=Heap.lt_size hPo
 obtain⟨c2,oc,vs,t,e2,hoc,hd,hv⟩:=hrec
 cases e2
 have cN:upd H P (.tbl (#[] ++ #[rawInt lpos.line,rawInt lpos.col,.ref c'])) c'=none:=by
  rw[qA (Nat.ne_of_gt (Nat.lt_of_lt_of_le hPlt hge))]
  exact I.hok.fresh hge
 have I2:=I1.kept (h':=h'.push (PySem.W.kla_obj "<lambda>" (X.env.qual++"<lambda>") params body ls (qQ X.env.cells ls.names []) ((X.mg "__name__").getD .none) c' ctv)) (t':=tk) fun b o e=>Heap.get?_push_of_some _ e
 have notF:∀ b,s.heap.objs.size <= b->b∉frs X.stack:=fun b hb z=>by
  rcases List.mem_cons.mp (I.y8 b z) with z | z
  ·exact absurd (Nat.lt_of_lt_of_le I.lt hb) (by rw[z];exact Nat.lt_irrefl _)
  ·exact I.qhd hb z
 exact h _ _ _ c' I2 ⟨⟨_,ctv,Heap.get?_push_size _ rfl⟩,I1.hok.fresh (Nat.le_refl _),notF _ (Nat.le_trans hge (Nat.le_of_lt hlt)),⟨oc,vs,t,Heap.get?_push_of_some _ hoc,hd,hv⟩,cN,notF _ hge⟩
end
noncomputable def Yw (hs:List ExceptHandler) (q1 q2 q3 q4 q5 q6 q7 q8 q9 q10:Pos) (j:Nat):List Stmt :=
 [.Try [.Assign [.Name "told" q1] (.Call (.Name "work" q2) [] [] q3) q4] hs [] [] q5,.Return (some (.BinOp (.List [.Constant (.int 0) j q6] q7) .Add (.Name "told" q8) q9)) q10]
noncomputable def qhr (Q:VK):VK:=fun v H=>∃ b zs,v = .ref b/\H b=some (.lst zs)/\zs.length+1 <= sizeLine/\∀ q,H q=none->∀ p,upd H q (.lst [.int 0]) p=none->Q (.ref p) (upd (upd H q (.lst [.int 0])) p (.lst (.int 0::zs)))
noncomputable def qeX (f:Addr) (Q:VK):VK:=fun v H=>qf2 (tOp qg1 (qgU (qar (tC (.int 0)) qeK)) (qgY 1)) {nx:=fun _ H'=>Q .non H',rt:=Q} [some (.ref f),some v] H
theorem qb4 {f:Addr}{Q:VK}{v:V}{H:Hp} (h:qhr Q v H):qeX f Q v H:=by
 obtain⟨b,zs,rfl,hb,hz,q⟩:=h
 refine⟨by show 1 <= sizeLine;decide,fun p hp=>⟨_,rfl,p,b,[.int 0],zs,rfl,rfl,qL,?_,by show 1+zs.length <= sizeLine;lia,q p hp⟩⟩
 rw[qA (vj hb hp)]
 exact hb
noncomputable def qf9 (K:PySem.W.Frag) (l:List (Addr × Int)) (P:Addr) (tb:XK->TE):TE:=fun σ H Q=>H P=some (.tbl #[])/\∀ more f,tb (qf0 K l Q) σ (upd H P (.tbl more)) (qeX f Q)
section
variable {X:Cx}{c P f2:Addr}{params:Arguments}{body:Expr}{ls:Scope}{lpos p pos:Pos}{tb:XK->TE}{k:Nat}{l:List (Addr × Int)}{E:XK}
 {args2:Arguments}{sc2:Scope}{dV kV doc pm cdv ct oc:Value}{an od:Option Addr}{osl:Array (Option Value)}{h0:ExceptHandler}{hs:List ExceptHandler}{q1 q2 q3 q4 q5 q6 q7 q8 q9 q10:Pos}{j:Nat}
theorem X6 (BL:xV X.mg X.base c P) (hc:X.env.code = .ref c) (hfn:∀ y,X.fn y=true) (hst:X.stack=X.env::X.outer) (L:j4 X.env.scope ls) (hdef:defaultsOf params X.env=([],[])) (hr:wN (k+2) X.A)
  (hg:Gl X "answered") (hm:X.mg "answered"=some (.ref f2)) (hk:PySem.W.keepIn X.K (.ref f2)=true)
  (lk:X.K.lookup f2=some ⟨oc,od,.func (PySem.W.fnOf "answered" "answered" args2 (Yw (h0::hs) q1 q2 q3 q4 q5 q6 q7 q8 q9 q10 j) sc2 dV kV doc pm an cdv ct),osl⟩) (hcd:PySem.W.codeIn X.K cdv "answered"=true)
  (S:qw ["work","told"] ["work"] sc2) (hw:sc2.names.lookup ("work":Str)=some .local) (ht:sc2.names.lookup ("told":Str)=some .local)
  (hb2:∀ (s:Shared) (u:Value),BindsTo s (PySem.W.fnOf "answered" "answered" args2 (Yw (h0::hs) q1 q2 q3 q4 q5 q6 q7 q8 q9 q10 j) sc2 dV kV doc pm an cdv ct) ⟨[u],[]⟩ ((["work"]:List Str).zip [u]))
  (hH:∀ (s:Shared) (H:Hp),Hs (ua (CX1 X.prog X.w) X.prog X.w X.K X.mg X.base ["work","told"] "answered" sc2 f2 cdv X.A X.stack s H E) (h0::hs) l)
  (hbind:∀ c' clos pm ctv,bindArgs (PySem.W.kla_fn "<lambda>" (X.env.qual++"<lambda>") params body ls clos pm (.ref c') ctv) ⟨[],[]⟩=pure [])
  (hE:Acc X E)
  (hb:∀ (Y:Cx) (f:Addr) (cd:Value) (s:Shared) (H:Hp) (E':XK),wN k (Y.A.deeper (jt X (X.env.qual++"<lambda>") ls f cd s))->PE (V3 X Y (X.env.qual++"<lambda>") ls f cd s H E') body (tb E')) :
  PE X (.Call (.Name "answered" p) [.Lambda params body ls lpos] [] pos) (qf9 X.K l P tb):=by
 intro pins s σ H Q I ⟨hP,h⟩
 refine wpAny_Call_Name_kw (uT I hg hm ?_ (by decide))
 refine PySem.W.callWith_K (h₀:=X.base) I.ok.mod.kin hk ?_ rfl rfl
 refine Calls.spliced_cons (qdb I BL hc hP L hdef fun s1 more f c' I1 la=>Calls.spliced_nil ⟨I1.kIn,?_⟩)
 have hr1:wN (k+1+1) X.A:=hr
 -- the def's body
 have body_ok:codeAny (model X.prog X.w) X.A (.call (.ref f2) ⟨[.ref f],[]⟩) (CR (CX1 X.prog X.w) X.stack X.prog X.w (upd H P (.tbl more)) s1 Q E) s1:=by
  refine qfG (N:=["work","told"]) (vs:=[.ref f]) lk hcd S rfl hr1 I1.qd2 (hb2 s1 (.ref f)) (.cons rfl .nil) ?_
  generalize hY:ua (CX1 X.prog X.w) X.prog X.w X.K X.mg X.base ["work","told"] "answered" sc2 f2 cdv X.A X.stack s1 (upd H P (.tbl more)) E=Y
  have hHs:Hs Y (h0::hs) l:=by rw[<- hY];exact hH s1 _
  have room:wN (k+1) Y.A:=by rw[<- hY];exact hr1.deeper _
  refine⟨_,Wg (qfY (X:=Y) (L:=s1.heap.objs.size) (tb:=fun D=>Uz (fun σ' H' Q'=>σ'[0]?=some (some (.ref f))/\tb (qf0 Y.K l D.rt) σ H' Q') (w4 1)) (by rw[<- hY];rfl) (by rw[<- hY];rfl) hHs fun D pins'=>u6 (Wv (i:=1) (X:=(Y.qb7 pins').uD _) ?nd ?ni ?nl ?work ?sw ?fn)) (u6 (uh (qe8 qfv (Xc (vQ JM zS)) (Wk (i:=1) ?vi ?vv)))),?_⟩
  case nd=>subst hY;exact S.nd
  case ni=>subst hY;rfl
  case nl=>subst hY;exact .inl ht
  case sw=>subst hY;rfl
  case fn=>subst hY;exact .inl rfl
  case vi=>subst hY;rfl
  case vv=>subst hY;exact .inl ht
  case work =>
   subst hY
   exact qeb (X:=X) (k:=k) I1 rfl rfl rfl rfl rfl rfl rfl hfn L la room zL (fun pm ctv=>hbind c' _ pm ctv) (fun s' H'=>hb _ f (.ref c') s' H' _ (room.deeper _)) rfl (.inl hw)
  ·subst hY
   exact⟨rfl,h more f⟩
 refine wpAny_call (codeAny_mono body_ok fun r s' hq=>?_)
 cases r with
 | error e=>exact xr hE pins σ _ s1 e s' I1 hq
 | ok fl =>
  cases fl with
  | ret u=>exact I1.after hq
  | next=>exact False.elim hq
  | brk=>exact False.elim hq
  | cont=>exact False.elim hq
end
end L2
namespace L2.Ir
open PySem
set_option genInjectivity true in
inductive D where
 | non | bl (b:Bool) | int (i:Int) | lst (xs:List D) | tup (xs:List D) | fn (x:Str) | obj (c:Str) (ns:List Str) (xs:List D)
noncomputable def D.sc:D->Bool
 | .non=>true
 | .bl _=>true
 | .int _=>true
 | _=>false
inductive Kd where
 | bo | sh | nw | fr
noncomputable def Kd.low:Kd->Kd->Kd
 | .bo,_=>.bo
 | _,.bo=>.bo
 | .sh,_=>.sh
 | _,.sh=>.sh
 | _,_=>.nw
set_option genInjectivity true in
inductive Rs (α:Type) where
 | ok (a:α) | er (c:Str) | no
noncomputable def Rs.bind {α β:Type} (x:Rs α) (f:α->Rs β):Rs β:=match x with
 | .ok a=>f a
 | .er c=>.er c
 | .no=>.no
@[simp] theorem Rs.qP {α β:Type} (a:α) (f:α->Rs β):(Rs.ok a).bind f=f a:=rfl
inductive Sl where
 | un | val (d:D) (k:Bool) | own (ds:List D)
noncomputable abbrev Dl:=List Sl
noncomputable abbrev DK:=D × Kd
noncomputable abbrev RE:=Dl->Rs DK
noncomputable abbrev RA:=Dl->Rs (List DK)
noncomputable def qa (i:Nat):RE:=fun δ=>match δ[i]? with
 | some (.val d k)=>.ok (d,if k=true then .nw else .sh)
 | some (.own ds)=>.ok (.lst ds,.bo)
 | _=>.no
noncomputable def rC (d:D):RE:=fun _=>.ok (d,.nw)
noncomputable def qf (f:DK->DK->Rs DK) (ra rb:RE):RE:=fun δ=>(ra δ).bind fun x=>(rb δ).bind fun y=>f x y
noncomputable def rUn (f:DK->Rs DK) (ra:RE):RE:=fun δ=>(ra δ).bind f
noncomputable def kL (xs:List D) (k:Kd):Kd:=if xs.all D.sc=true then .fr else k
noncomputable abbrev LIM:Nat:=16777216
noncomputable def few (i:Int):Prop:=i.natAbs<2^60000
noncomputable instance (i:Int):Decidable (few i):=inferInstanceAs (Decidable (i.natAbs<2^60000))
noncomputable def vR:DK->DK->Rs DK
 | (.int i,_),(.int j,_)=>.ok (.int (i+j),.nw)
 | (.lst xs,k),(.lst ys,l)=>if xs.length+ys.length <= LIM then .ok (.lst (xs++ys),kL (xs++ys) (k.low l)) else .no
 | _,_=>.no
noncomputable def wb:DK->DK->Rs DK
 | (.int i,_),(.int j,_)=>.ok (.int (i-j),.nw)
 | _,_=>.no
open Classical in
noncomputable def y6:DK->DK->Rs DK
 | (.int i,_),(.int j,_)=>if few i/\few j then .ok (.int (i*j),.nw) else .no
 | (.lst xs,.fr),(.int j,_)=>if (0 <= j/\j<1000000)/\xs.length*j.toNat <= LIM then .ok (.lst (List.replicate j.toNat xs).flatten,kL (List.replicate j.toNat xs).flatten .nw) else .no
 | _,_=>.no
noncomputable def wF:DK->DK->Rs DK
 | (.int i,_),(.int j,_)=>if 0<j/\j.natAbs.log2<9000 then .ok (.int (i / j),.nw) else .no
 | _,_=>.no
noncomputable def oMod:DK->DK->Rs DK
 | (.int i,_),(.int j,_)=>if 0<j then .ok (.int (i%j),.nw) else .no
 | _,_=>.no
open Classical in
noncomputable def wJ:DK->DK->Rs DK
 | (.int i,_),(.int j,_)=>if 0 <= j/\j <= 60000/\few i then .ok (.int (i*2^j.toNat),.nw) else .no
 | _,_=>.no
noncomputable def Qh:DK->DK->Rs DK
 | (.int i,_),(.int j,_)=>if 0 <= j then .ok (.int (i / 2^j.toNat),.nw) else .no
 | _,_=>.no
noncomputable def Qp (f:Int->Int->Int):DK->DK->Rs DK
 | (.int i,_),(.int j,_)=>.ok (.int (f i j),.nw)
 | _,_=>.no
noncomputable def yk (f:Int->Int->Bool):DK->DK->Rs DK
 | (.int i,_),(.int j,_)=>.ok (.bl (f i j),.nw)
 | _,_=>.no
noncomputable def intsOf:List D->Option (List Int)
 | []=>some []
 | .int i::r=>(intsOf r).map (i :: ·)
 | _=>none
noncomputable def oEq (neg:Bool):DK->DK->Rs DK
 | (.int i,_),(.int j,_)=>.ok (.bl (if neg=true then !decide (i=j) else decide (i=j)),.nw)
 | (.bl i,_),(.bl j,_)=>.ok (.bl (if neg=true then !decide (i=j) else decide (i=j)),.nw)
 | (.lst xs,_),(.lst ys,_)=>match intsOf xs,intsOf ys with
  | some ns,some ms=>.ok (.bl (if neg=true then !decide (ns=ms) else decide (ns=ms)),.nw)
  | _,_=>.no
 | _,_=>.no
noncomputable def YH:DK->Rs DK
 | (.int i,_)=>.ok (.int (-i),.nw)
 | _=>.no
noncomputable def yL (n:Nat) (i:Int):Option Nat:=if 0 <= i then (if i<n then some i.toNat else none) else if -(n:Int) <= i then some (i+n).toNat else none
noncomputable def oIx:DK->DK->Rs DK
 | (.lst xs,k),(.int i,_)=>match (yL xs.length i).bind fun j=>xs[j]? with
  | some d=>.ok (d,k.low .nw)
  | none=>.no
 | (.tup xs,k),(.int i,_)=>match (yL xs.length i).bind fun j=>xs[j]? with
  | some d=>.ok (d,k.low .nw)
  | none=>.no
 | _,_=>.no
noncomputable def yh (c f:Str):DK->Rs DK
 | (.obj c' ns ds,k)=>if c'=c then (match (ns.zip ds).lookup f with
  | some d=>.ok (d,k.low .nw)
  | none=>.no) else .no
 | _=>.no
noncomputable def pick {α:Type} (xs:List α) (lo hi st:Option Int):List α :=
 (sliceRange (sliceBounds lo hi st xs.length).1 (sliceBounds lo hi st xs.length).2.1 (sliceBounds lo hi st xs.length).2.2).filterMap (xs[·]?)
noncomputable abbrev RO:=Dl->Rs (Option Int)
noncomputable def Vd:RO:=fun _=>.ok none
noncomputable def jS (r:RE):RO:=fun δ=>(r δ).bind fun x=>match x.1 with
 | .int i=>.ok (some i)
 | _=>.no
noncomputable def WK (ra:RE) (rl rh rs:RO):RE:=fun δ=>(ra δ).bind fun x=>(rl δ).bind fun lo=>(rh δ).bind fun hi=>(rs δ).bind fun st=>match x.1 with
 | .lst xs=>if st=some 0 then .no else .ok (.lst (pick xs lo hi st),kL (pick xs lo hi st) (x.2.low .nw))
 | _=>.no
noncomputable def qk:RA:=fun _=>.ok []
noncomputable def qd (ra:RE) (rr:RA):RA:=fun δ=>(ra δ).bind fun x=>(rr δ).bind fun xs=>.ok (x::xs)
noncomputable def qZ:List DK->Kd
 | []=>.nw
 | x::r=>if x.1.sc=true then qZ r else x.2.low (qZ r)
noncomputable def ub (r:RA):RE:=fun δ=>(r δ).bind fun xs=>if xs.length <= LIM then .ok (.lst (xs.map (·.1)),kL (xs.map (·.1)) (qZ xs)) else .no
noncomputable abbrev Fn:=List D->Rs (D × Bool)
noncomputable def kB (b:Bool):Kd:=if b=true then .fr else .nw
noncomputable def qi (g:Fn) (r:RA):RE:=fun δ=>(r δ).bind fun xs=>(g (xs.map (·.1))).bind fun y=>.ok (y.1,kB y.2)
noncomputable def vM (f:List DK->Rs DK) (r:RA):RE:=fun δ=>(r δ).bind f
noncomputable def wO:List DK->Rs DK
 | [(.lst xs,_)]=>.ok (.int xs.length,.nw)
 | [(.tup xs,_)]=>.ok (.int xs.length,.nw)
 | _=>.no
noncomputable def qfj:List DK->Rs DK
 | [(.int i,_)]=>.ok (.int (if i<0 then -i else i),.nw)
 | _=>.no
noncomputable def UZ:List DK->Rs DK
 | [(.int i,_),(.int j,_)]=>.ok (.int (if j>i then j else i),.nw)
 | _=>.no
noncomputable def qfh:List DK->Rs DK
 | [(.int i,_),(.int j,_)]=>.ok (.int (if j<i then j else i),.nw)
 | _=>.no
noncomputable def oBits:DK->Rs DK
 | (.int i,_)=>.ok (.int (if i=0 then 0 else i.natAbs.log2+1:Nat),.nw)
 | _=>.no
noncomputable abbrev RT:=Dl->Rs Bool
noncomputable def tBl (r:RE):RT:=fun δ=>(r δ).bind fun x=>match x.1 with
 | .bl b=>.ok b
 | _=>.no
noncomputable def XI (a b:RT):RT:=fun δ=>(a δ).bind fun x=>if x=true then b δ else .ok false
noncomputable def W6 (a b:RT):RT:=fun δ=>(a δ).bind fun x=>if x=true then .ok true else b δ
noncomputable def Up (a:RT):RT:=fun δ=>(a δ).bind fun x=>.ok (!x)
noncomputable def Zk (t:RT) (a b:RE):RE:=fun δ=>(t δ).bind fun x=>if x=true then a δ else b δ
noncomputable abbrev RI:=Dl->Rs (Bool × List DK)
noncomputable def Kd.safe:Kd->Bool
 | .bo=>false
 | _=>true
noncomputable def iOf (r:RE):RI:=fun δ=>(r δ).bind fun x=>match x.1 with
 | .lst xs=>.ok (x.2.safe,xs.map fun d=>(d,x.2.low .nw))
 | _=>.no
noncomputable def wA (r:RE):RI:=fun δ=>(r δ).bind fun x=>match x.1 with
 | .int i=>if -1000000<i/\i<1000000 then .ok (true,(List.range i.toNat).map fun (k:Nat)=>(D.int k,.nw)) else .no
 | _=>.no
noncomputable def zC (r q:RE):RI:=fun δ=>(r δ).bind fun x=>(q δ).bind fun y=>match x.1,y.1 with
 | .int i,.int j=>if (-1000000<i/\i<1000000) /\ -1000000<j/\j<1000000 then .ok (true,(List.range (j-i).toNat).map fun (k:Nat)=>(D.int (i+k),.nw)) else .no
 | _,_=>.no
noncomputable def j6 (r q:RE):RI:=fun δ=>(r δ).bind fun x=>(q δ).bind fun y=>match x.1,y.1 with
 | .lst xs,.lst ys=>.ok (x.2.safe&&y.2.safe,(xs.zip ys).map fun p=>(.tup [p.1,p.2],x.2.low y.2))
 | _,_=>.no
inductive Tg where
 | one (i:Nat) | two (i j:Nat)
noncomputable def xy (x:DK):Sl:=.val x.1 (match x.2 with | .nw=>true | .fr=>true | _=>false)
noncomputable def put (i:Nat) (x:DK) (δ:Dl):Option Dl:=match x with
 | (d,.bo)=>if d.sc=true then some (δ.set i (.val d true)) else none
 | (d,k)=>some (δ.set i (xy (d,if d.sc=true then .nw else k)))
noncomputable def Tg.put:Tg->DK->Dl->Option Dl
 | .one i,x,δ=>Ir.put i x δ
 | .two i j,(.tup [a,b],k),δ=>(Ir.put i (a,k) δ).bind (Ir.put j (b,k))
 | _,_,_=>none
inductive Out where
 | nx (δ:Dl) | rt (d:D) (k:Bool) | bk (δ:Dl) | ct (δ:Dl) | er (c:Str) | no
noncomputable abbrev RS:=Dl->Out
noncomputable def zt:RS:=fun δ=>.nx δ
noncomputable def Out.andThen (o:Out) (f:RS):Out:=match o with
 | .nx δ=>f δ
 | o=>o
noncomputable def vK (a b:RS):RS:=fun δ=>(a δ).andThen b
noncomputable def frz:Sl->Sl
 | .own ds=>.val (.lst ds) true
 | x=>x
noncomputable def freeze (δ:Dl):Dl:=δ.map frz
noncomputable def vn (i:Nat) (r:RE):RS:=fun δ=>match r δ with
 | .ok (.lst ds,.fr)=>.nx (δ.set i (.own ds))
 | .ok (d,.bo)=>if d.sc=true then .nx (δ.set i (.val d true)) else .nx ((freeze δ).set i (.val d false))
 | .ok (d,k)=>.nx (δ.set i (xy (d,if d.sc=true then .nw else k)))
 | .er c=>.er c
 | .no=>.no
noncomputable def x9 (r:RE):RS:=fun δ=>match r δ with
 | .ok _=>.nx δ
 | .er c=>.er c
 | .no=>.no
noncomputable def sIf (t:RT) (a b:RS):RS:=fun δ=>match t δ with
 | .ok x=>if x=true then a δ else b δ
 | .er c=>.er c
 | .no=>.no
noncomputable def vV (r:RE):RS:=fun δ=>match r (freeze δ) with
 | .ok (.lst ds,.fr)=>.rt (.lst ds) true
 | .ok (d,.nw)=>.rt d false
 | .ok (d,_)=>if d.sc=true then .rt d false else .no
 | .er c=>.er c
 | .no=>.no
noncomputable def jr (i:Nat):RS:=fun δ=>match δ[i]? with
 | some (.own ds)=>.rt (.lst ds) true
 | some (.val d k)=>if d.sc=true\/k=true then .rt d false else .no
 | _=>.no
noncomputable def zR (c:Str):RS:=fun _=>.er c
noncomputable def turns (tg:Tg) (body:RS):List DK->RS
 | [],δ=>.nx δ
 | x::r,δ=>match tg.put x δ with
  | none=>.no
  | some δ1=>match body δ1 with
   | .nx δ2=>turns tg body r δ2
   | .ct δ2=>turns tg body r δ2
   | .bk δ2=>.nx δ2
   | o=>o
noncomputable def XN (tg:Tg) (src:RI) (body:RS):RS:=fun δ=>match src δ with
 | .ok (true,xs)=>turns tg body xs δ
 | .ok (false,_)=>.no
 | .er c=>.er c
 | .no=>.no
noncomputable def Zy (tg:Tg) (i:Nat) (body:RS):RS:=fun δ=>XN tg (iOf (qa i)) body (match δ[i]? with
 | some (.own ds)=>δ.set i (.val (.lst ds) true)
 | _=>δ)
noncomputable def wl (t:RT) (body:RS):Nat->RS
 | 0,_=>.no
 | n+1,δ=>match t δ with
  | .ok x=>if x=true then (match body δ with
   | .nx δ2=>wl t body n δ2
   | .ct δ2=>wl t body n δ2
   | .bk δ2=>.nx δ2
   | o=>o) else .nx δ
  | .er c=>.er c
  | .no=>.no
open Classical in
noncomputable def VY (t:RT) (body:RS):RS:=fun δ=>if h:∃ n,wl t body n δ ≠ .no then wl t body h.choose δ else .no
theorem Q6 {t:RT}{body:RS}:∀ {n m:Nat}{δ:Dl},wl t body n δ ≠ .no->n <= m->wl t body m δ=wl t body n δ
 | 0,_,_,h,_=>absurd rfl h
 | n+1,0,_,_,hm=>absurd hm (by lia)
 | n+1,m+1,δ,h,hm=>by
  unfold wl at h ⊢
  cases ht:t δ with
  | er c=>rfl
  | no=>rfl
  | ok x =>
   rw[ht] at h
   cases x with
   | false=>rfl
   | true =>
    simp only[if_true] at h ⊢
    cases hb:body δ with
    | nx δ2=>rw[hb] at h;exact Q6 h (by lia)
    | ct δ2=>rw[hb] at h;exact Q6 h (by lia)
    | bk δ2=>rfl
    | rt d k=>rfl
    | er c=>rfl
    | no=>rfl
theorem qaK {t:RT}{body:RS}{n:Nat}{δ:Dl}{o:Out} (h:wl t body n δ=o) (ho:o ≠ .no):VY t body δ=o:=by
 have ex:∃ n,wl t body n δ ≠ .no:=⟨n,by rw[h];exact ho⟩
 unfold VY
 rw[dif_pos ex]
 rcases Nat.le_total n ex.choose with q | q
 ·rw[Q6 (by rw[h];exact ho) q,h]
 ·rw[<- h,Q6 ex.choose_spec q]
noncomputable def items (tg:Tg) (t:RT) (r:RE) (δ:Dl):List DK->Rs (List DK)
 | []=>.ok []
 | x::xs=>match tg.put x δ with
  | none=>.no
  | some δ1=>(t δ1).bind fun b=>if b=true then (r δ1).bind fun y=>(items tg t r δ xs).bind fun ys=>.ok (y::ys) else items tg t r δ xs
noncomputable def zK:RT:=fun _=>.ok true
noncomputable def clear (δ:Dl):List Nat->Dl
 | []=>δ
 | v::vs=>(clear δ vs).set v .un
noncomputable def zx (tg:Tg) (src:RI) (t:RT) (r:RE) (vs:List Nat):RE:=fun δ=>(src δ).bind fun xs=>if xs.2.length<LIM then (items tg t r (clear δ vs) xs.2).bind fun ys =>
 .ok (.lst (ys.map (·.1)),kL (ys.map (·.1)) (qZ ys)) else .no
noncomputable def Tg.within:Tg->List Nat->Prop
 | .one i,vs=>i∈vs
 | .two i j,vs=>i∈vs/\j∈vs
end L2.Ir
namespace L2.Ir
open PySem PySem.Spec PyProof.Rows
section
variable (mg:Str->Option Value) (K:PySem.W.Frag)
mutual
/-- the value v stands for the datum d, all addresses within in G -/
inductive Rp (G:Addr->Prop) (H:Hp):V->D->Prop
 | non:Rp G H .non .non
 | bl (b:Bool):Rp G H (.bl b) (.bl b)
 | int (i:Int):Rp G H (.int i) (.int i)
 | fn {x:Str}{a:Addr}:mg x=some (.ref a)->Rp G H (.ref a) (.fn x)
 | lst {a:Addr}{xs:List V}{ds:List D}:G a->Rd H a (.lst xs)->qv G H xs ds->Rp G H (.ref a) (.lst ds)
 | lstK {a:Addr}{xs:List V}{ds:List D}:(∀ H',SqL K H' a xs)->qv G H xs ds->Rp G H (.ref a) (.lst ds)
 | tup {a:Addr}{xs:List V}{ds:List D}:G a->Rd H a (.tup xs)->qv G H xs ds->Rp G H (.ref a) (.tup ds)
 | tupK {a:Addr}{xs:List V}{ds:List D}:(∀ H',SqT K H' a xs)->qv G H xs ds->Rp G H (.ref a) (.tup ds)
 | obj {a C dx:Addr}{c:Str}{ns:List Str}{xs:List V}{ds:List D}:G a->mg c=some (.ref C)->H a=some (.ins C dx (ns.zip xs))->ns.length=xs.length->qv G H xs ds->Rp G H (.ref a) (.obj c ns ds)
inductive qv (G:Addr->Prop) (H:Hp):List V->List D->Prop
 | nil:qv G H [] []
 | cons {v:V}{vs:List V}{d:D}{ds:List D}:Rp G H v d->qv G H vs ds->qv G H (v::vs) (d::ds)
end
end
section
variable {mg:Str->Option Value}{K:PySem.W.Frag}
theorem qb2 {H H':Hp}{a:Addr}{u:HO} (h:Rd H a u) (k:∀ o,H a=some o->H' a=some o):Rd H' a u:=by
 rcases h with h | ⟨o,h⟩
 ·exact .inl (k _ h)
 ·exact .inr ⟨o,k _ h⟩
theorem YV {H:Hp}{a:Addr}{u:HO} (h:Rd H a u):H a≠none:=by
 rcases h with h | ⟨o,h⟩ <;> (rw[h];exact fun z=>nomatch z)
theorem Rp.ofL {G:Addr->Prop}{H:Hp}{a:Addr}{xs:List V}{ds:List D} (s:SqL K H a xs) (g:H a≠none->G a) (r:qv mg K G H xs ds):Rp mg K G H (.ref a) (.lst ds):=by
 rcases s with s | s
 ·exact .lst (g (YV s)) s r
 ·exact .lstK (fun _=>.inr s) r
mutual
theorem Rp.mono {G G':Addr->Prop}{H H':Hp} (k:∀ a,G a->G' a/\∀ o,H a=some o->H' a=some o):∀ (d:D) (v:V),Rp mg K G H v d->Rp mg K G' H' v d
 | .non,_,h=>by cases h;exact .non
 | .bl b,_,h=>by cases h;exact .bl b
 | .int i,_,h=>by cases h;exact .int i
 | .fn x,_,h=>by cases h with | fn e=>exact .fn e
 | .lst ds,_,h=>by
  cases h with
  | lst g s r=>exact .lst (k _ g).1 (qb2 s (k _ g).2) (qv.mono k ds _ r)
  | lstK s r=>exact .lstK s (qv.mono k ds _ r)
 | .tup ds,_,h=>by
  cases h with
  | tup g s r=>exact .tup (k _ g).1 (qb2 s (k _ g).2) (qv.mono k ds _ r)
  | tupK s r=>exact .tupK s (qv.mono k ds _ r)
 | .obj c ns ds,_,h=>by
  cases h with
  | obj g m s l r=>exact .obj (k _ g).1 m ((k _ g).2 _ s) l (qv.mono k ds _ r)
theorem qv.mono {G G':Addr->Prop}{H H':Hp} (k:∀ a,G a->G' a/\∀ o,H a=some o->H' a=some o):∀ (ds:List D) (vs:List V),qv mg K G H vs ds->qv mg K G' H' vs ds
 | [],_,h=>by cases h;exact .nil
 | d::ds,_,h=>by cases h with | cons a b=>exact .cons (Rp.mono k d _ a) (qv.mono k ds _ b)
end
mutual
/-- tracked addresses are there -/
theorem Rp.there {G:Addr->Prop}{H:Hp}:∀ (d:D) (v:V),Rp mg K G H v d->Rp mg K (fun a=>G a/\H a≠none) H v d
 | .non,_,h=>by cases h;exact .non
 | .bl b,_,h=>by cases h;exact .bl b
 | .int i,_,h=>by cases h;exact .int i
 | .fn x,_,h=>by cases h with | fn e=>exact .fn e
 | .lst ds,_,h=>by
  cases h with
  | lst g s r=>exact .lst ⟨g,YV s⟩ s (qv.there ds _ r)
  | lstK s r=>exact .lstK s (qv.there ds _ r)
 | .tup ds,_,h=>by
  cases h with
  | tup g s r=>exact .tup ⟨g,YV s⟩ s (qv.there ds _ r)
  | tupK s r=>exact .tupK s (qv.there ds _ r)
 | .obj c ns ds,_,h=>by
  cases h with
  | obj g m s l r=>exact .obj ⟨g,by rw[s];exact fun z=>nomatch z⟩ m s l (qv.there ds _ r)
theorem qv.there {G:Addr->Prop}{H:Hp}:∀ (ds:List D) (vs:List V),qv mg K G H vs ds->qv mg K (fun a=>G a/\H a≠none) H vs ds
 | [],_,h=>by cases h;exact .nil
 | d::ds,_,h=>by cases h with | cons a b=>exact .cons (Rp.there d _ a) (qv.there ds _ b)
end
theorem Rp.weak {G G':Addr->Prop}{H:Hp}{v:V}{d:D} (h:Rp mg K G H v d) (k:∀ a,G a->G' a):Rp mg K G' H v d:=h.mono (fun a g=>⟨k a g,fun _ e=>e⟩)
theorem Rp.same {G:Addr->Prop}{H H':Hp}{v:V}{d:D} (h:Rp mg K G H v d) (s:qy H H'):Rp mg K G H' v d:=h.mono (fun a g=>⟨g,fun o e=>s a o e⟩)
theorem qv.weak {G G':Addr->Prop}{H:Hp}{v:List V}{d:List D} (h:qv mg K G H v d) (k:∀ a,G a->G' a):qv mg K G' H v d:=h.mono (fun a g=>⟨k a g,fun _ e=>e⟩)
theorem qv.same {G:Addr->Prop}{H H':Hp}{v:List V}{d:List D} (h:qv mg K G H v d) (s:qy H H'):qv mg K G H' v d:=h.mono (fun a g=>⟨g,fun o e=>s a o e⟩)
noncomputable def toV:D->V
 | .non=>.non
 | .bl b=>.bl b
 | .int i=>.int i
 | _=>.non
theorem Rp.wX {G:Addr->Prop}{H:Hp}:∀ {d:D},d.sc=true->Rp mg K G H (toV d) d
 | .non,_=>.non
 | .bl b,_=>.bl b
 | .int i,_=>.int i
 | .lst _,h=>nomatch h
 | .tup _,h=>nomatch h
 | .fn _,h=>nomatch h
 | .obj _ _ _,h=>nomatch h
theorem Rp.sc {G:Addr->Prop}{H:Hp}{v:V}{d:D} (h:Rp mg K G H v d) (s:d.sc=true):v=toV d:=by
 cases h <;> first | rfl | cases s
theorem qv.wX {G:Addr->Prop}{H:Hp}:∀ {ds:List D},ds.all D.sc=true->qv mg K G H (ds.map toV) ds
 | [],_=>.nil
 | d::ds,h=>by
  rw[List.all_cons,Bool.and_eq_true] at h
  exact .cons (.wX h.1) (qv.wX h.2)
theorem qv.sc {G:Addr->Prop}{H:Hp}:∀ {vs:List V}{ds:List D},qv mg K G H vs ds->ds.all D.sc=true->vs=ds.map toV
 | _,[],.nil,_=>rfl
 | _,d::ds,.cons a b,h=>by
  rw[List.all_cons,Bool.and_eq_true] at h
  rw[a.sc h.1,qv.sc b h.2]
  rfl
theorem qv.len {G:Addr->Prop}{H:Hp}:∀ {vs:List V}{ds:List D},qv mg K G H vs ds->vs.length=ds.length
 | _,_,.nil=>rfl
 | _,_,.cons _ b=>by rw[List.length_cons,List.length_cons,qv.len b]
theorem qv.get {G:Addr->Prop}{H:Hp}:∀ {vs:List V}{ds:List D}{i:Nat}{v:V},qv mg K G H vs ds->vs[i]?=some v->∃ d,ds[i]?=some d/\Rp mg K G H v d
 | _,_,i,_,.nil,e=>by simp at e
 | _,_,0,_,.cons a _,e=>by simp at e;subst e;exact⟨_,rfl,a⟩
 | _,_,i+1,v,.cons _ b,e=>by
  obtain⟨d,h1,h2⟩:=qv.get (i:=i) (v:=v) b (by simpa using e)
  exact⟨d,by simpa using h1,h2⟩
theorem qv.getD {G:Addr->Prop}{H:Hp}:∀ {vs:List V}{ds:List D}{i:Nat}{d:D},qv mg K G H vs ds->ds[i]?=some d->∃ v,vs[i]?=some v/\Rp mg K G H v d
 | _,_,i,_,.nil,e=>by simp at e
 | _,_,0,_,.cons a _,e=>by simp at e;subst e;exact⟨_,rfl,a⟩
 | _,_,i+1,d,.cons _ b,e=>by
  obtain⟨v,h1,h2⟩:=qv.getD (i:=i) (d:=d) b (by simpa using e)
  exact⟨v,by simpa using h1,h2⟩
theorem qv.append {G:Addr->Prop}{H:Hp}:∀ {vs us:List V}{ds es:List D},qv mg K G H vs ds->qv mg K G H us es->qv mg K G H (vs++us) (ds++es)
 | _,_,_,_,.nil,h=>h
 | _,_,_,_,.cons a b,h=>.cons a (qv.append b h)
theorem qv.rep {G:Addr->Prop}{H:Hp}{vs:List V}{ds:List D} (h:qv mg K G H vs ds):∀ n:Nat,qv mg K G H (List.replicate n vs).flatten (List.replicate n ds).flatten
 | 0=>.nil
 | n+1=>by
  rw[List.replicate_succ,List.replicate_succ,List.flatten_cons,List.flatten_cons]
  exact h.append (qv.rep h n)
end
structure Bs where
 H0:Hp
 P:Addr->Prop
noncomputable def vx (B:Bs) (σ:St) (δ:Dl) (p:Addr):Prop:=B.P p\/∃ (i:Nat) (ds:List D),δ[i]?=some (.own ds)/\σ[i]?=some (some (.ref p))
structure Rl (mg:Str->Option Value) (K:PySem.W.Frag) (B:Bs) (H:Hp) (σ:St) (δ:Dl):Prop where
 same:qy B.H0 H
 pd:∀ p,B.P p->H p≠none
 len:σ.length=δ.length
 val:∀ (i:Nat) (d:D) (k:Bool),δ[i]?=some (.val d k)->∃ v,σ[i]?=some (some v)/\Rp mg K (fun a=>¬ vx B σ δ a/\(k=true->B.H0 a=none)) H v d
 own:∀ (i:Nat) (ds:List D),δ[i]?=some (.own ds)->ds.all D.sc=true/\∃ p,σ[i]?=some (some (.ref p))/\B.H0 p=none/\¬ B.P p/\H p=some (.lst (ds.map toV))
 apart:∀ (i j:Nat) (p:Addr) (ds es:List D),δ[i]?=some (.own ds)->δ[j]?=some (.own es)->σ[i]?=some (some (.ref p))->σ[j]?=some (some (.ref p))->i=j
noncomputable def VR (mg:Str->Option Value) (K:PySem.W.Frag) (B:Bs) (H H':Hp) (σ:St) (δ:Dl):Kd->V->D->Prop
 | .bo,v,d=>Rp mg K (fun a=>¬ B.P a) H' v d
 | .sh,v,d=>Rp mg K (fun a=>¬ vx B σ δ a) H' v d
 | .nw,v,d=>Rp mg K (fun a=>¬ vx B σ δ a/\B.H0 a=none) H' v d
 | .fr,v,d=>∃ p ds,v = .ref p/\d = .lst ds/\ds.all D.sc=true/\H p=none/\H' p=some (.lst (ds.map toV))
section
variable {mg:Str->Option Value}{K:PySem.W.Frag}{B:Bs}{H H1 H' H'':Hp}{σ:St}{δ:Dl}{k l:Kd}{v:V}{d:D}
theorem qy.refl {H:Hp}:qy H H:=fun _ _ e=>e
theorem Rl.more (R:Rl mg K B H σ δ) (s:qy H H'):Rl mg K B H' σ δ :=
 ⟨R.same.trans s,fun p h=>fun z=>R.pd p h (s.free z),R.len,fun i d k e=>let ⟨v,a,b⟩:=R.val i d k e;⟨v,a,b.same s⟩,fun i ds e=>let ⟨a,p,b,c,n,x⟩:=R.own i ds e;⟨a,p,b,c,n,s _ _ x⟩,R.apart⟩
theorem Rl.owned (R:Rl mg K B H σ δ) {p:Addr} (h:vx B σ δ p):H p≠none:=by
 rcases h with h | ⟨i,ds,e,e2⟩
 ·exact R.pd p h
 ·obtain⟨_,q,e3,_,_,e4⟩:=R.own i ds e
  rw[e2] at e3
  cases e3
  rw[e4]
  exact fun z=>nomatch z
theorem Rl.fresh (R:Rl mg K B H σ δ) {p:Addr} (h:H p=none):¬ vx B σ δ p:=fun o=>R.owned o h
theorem VR.later (h:VR mg K B H H' σ δ k v d) (s:qy H' H''):VR mg K B H H'' σ δ k v d:=by
 cases k with
 | bo=>exact Rp.same h s
 | sh=>exact Rp.same h s
 | nw=>exact Rp.same h s
 | fr=>obtain⟨p,ds,a,b,c,e,f⟩:=h;exact⟨p,ds,a,b,c,e,s _ _ f⟩
theorem VR.VA (h:VR mg K B H1 H' σ δ k v d) (s:qy H H1):VR mg K B H H' σ δ k v d:=by
 cases k with
 | bo=>exact h
 | sh=>exact h
 | nw=>exact h
 | fr=>obtain⟨p,ds,a,b,c,e,f⟩:=h;exact⟨p,ds,a,b,c,s.free e,f⟩
theorem VR.z9 (R:Rl mg K B H σ δ) (h:VR mg K B H H' σ δ .fr v d):VR mg K B H H' σ δ .nw v d:=by
 obtain⟨p,ds,rfl,rfl,c,e,f⟩:=h
 exact .lst ⟨R.fresh e,R.same.free e⟩ (.of f) (.wX c)
theorem VR.xq (h:VR mg K B H H' σ δ .nw v d):VR mg K B H H' σ δ .sh v d:=Rp.weak h fun _ g=>g.1
theorem VR.VJ (h:VR mg K B H H' σ δ .sh v d):VR mg K B H H' σ δ .bo v d:=Rp.weak h fun _ g z=>g (.inl z)
theorem VR.bo' (R:Rl mg K B H σ δ) (h:VR mg K B H H' σ δ k v d):VR mg K B H H' σ δ .bo v d:=by
 cases k with
 | bo=>exact h
 | sh=>exact VR.VJ h
 | nw=>exact VR.VJ (VR.xq h)
 | fr=>exact VR.VJ (VR.xq (VR.z9 R h))
theorem VR.rp (R:Rl mg K B H σ δ) (h:VR mg K B H H' σ δ k v d):Rp mg K (fun _=>True) H' v d:=by
 exact Rp.weak (VR.bo' R h) fun _ _=>trivial
theorem VR.low (R:Rl mg K B H σ δ) (l:Kd) (h:VR mg K B H H' σ δ k v d):VR mg K B H H' σ δ (k.low l) v d:=by
 cases k <;> cases l <;> first | exact h | exact VR.bo' R h | exact VR.z9 R h | exact VR.xq h | exact VR.xq (VR.z9 R h)
theorem VR.qg5 (R:Rl mg K B H σ δ) (l:Kd) (h:VR mg K B H H' σ δ k v d):VR mg K B H H' σ δ (l.low k) v d:=by
 cases k <;> cases l <;> first | exact h | exact VR.bo' R h | exact VR.z9 R h | exact VR.xq h | exact VR.xq (VR.z9 R h)
theorem VR.wX (k:Kd) (hk:k ≠ .fr) (s:d.sc=true):VR mg K B H H' σ δ k (toV d) d:=by
 cases k <;> first | exact Rp.wX s | exact absurd rfl hk
theorem VR.int (i:Int):VR mg K B H H' σ δ .nw (.int i) (.int i):=Rp.int i
theorem VR.bl (b:Bool):VR mg K B H H' σ δ .nw (.bl b) (.bl b):=Rp.bl b
noncomputable def Gk (B:Bs) (σ:St) (δ:Dl):Kd->Addr->Prop
 | .bo,a=>¬ B.P a
 | .sh,a=>¬ vx B σ δ a
 | _,a=>¬ vx B σ δ a/\B.H0 a=none
theorem VR.gk (hk:k ≠ .fr):VR mg K B H H' σ δ k v d=Rp mg K (Gk B σ δ k) H' v d:=by
 cases k <;> first | rfl | exact absurd rfl hk
theorem low_ne (k l:Kd):k.low l ≠ .fr:=by cases k <;> cases l <;> intro z <;> cases z
theorem VR.items {ds:List D} (R:Rl mg K B H σ δ) (h:VR mg K B H H' σ δ k v (.lst ds)):∃ a xs,v = .ref a/\SqL K H' a xs/\qv mg K (Gk B σ δ (k.low .nw)) H' xs ds:=by
 have h2:=VR.low R .nw h
 rw[VR.gk (low_ne _ _)] at h2
 cases h2 with
 | lst g s r=>exact⟨_,_,rfl,.inl s,r⟩
 | lstK s r=>exact⟨_,_,rfl,s _,r⟩
theorem VR.qcB {ds:List D} (R:Rl mg K B H σ δ) (h:VR mg K B H H' σ δ k v (.tup ds)):∃ a xs,v = .ref a/\SqT K H' a xs/\qv mg K (Gk B σ δ (k.low .nw)) H' xs ds:=by
 have h2:=VR.low R .nw h
 rw[VR.gk (low_ne _ _)] at h2
 cases h2 with
 | tup g s r=>exact⟨_,_,rfl,.inl s,r⟩
 | tupK s r=>exact⟨_,_,rfl,s _,r⟩
theorem VR.laid {p:Addr}{xs:List V}{ds:List D} (R:Rl mg K B H σ δ) (s:qy H H') (hp:H' p=none) (hk:k ≠ .fr) (h:qv mg K (Gk B σ δ k) H' xs ds):VR mg K B H (upd H' p (.lst xs)) σ δ (kL ds k) (.ref p) (.lst ds):=by
 unfold kL
 split
 ·rename_i c
  refine⟨p,ds,rfl,rfl,c,s.free hp,?_⟩
  rw[qL,qv.sc h c]
 ·rw[VR.gk hk]
  have sm:qy H' (upd H' p (.lst xs)):=fun b o e=>by rw[qA (vj e hp)];exact e
  refine .lst ?_ (.of qL) (h.same sm)
  cases k with
  | bo=>exact fun z=>R.pd p z (s.free hp)
  | sh=>exact R.fresh (s.free hp)
  | nw=>exact⟨R.fresh (s.free hp),R.same.free (s.free hp)⟩
  | fr=>exact absurd rfl hk
theorem vX {p:Addr}{o:HO} (hp:H p=none):qy H (upd H p o):=fun b q e=>by rw[qA (vj e hp)];exact e
end
noncomputable def qo {α:Type} (mg:Str->Option Value) (E:XK) (H:Hp) (o:Rs α) (k:α->Prop):Prop:=match o with
 | .ok a=>k a
 | .er c=>∀ C H',mg c=some (.ref C)->qy H H'->E (.ref C) none H'
 | .no=>False
noncomputable def Fin (mg:Str->Option Value) (K:PySem.W.Frag) (E:XK) (B:Bs) (H:Hp) (σ:St) (δ:Dl) (o:Rs DK) (Q:VK):Prop :=
 qo mg E H o fun x=>∀ v H',qy H H'->VR mg K B H H' σ δ x.2 v x.1->Q v H'
noncomputable def tE (mg:Str->Option Value) (K:PySem.W.Frag) (E:XK) (r:RE):TE:=fun σ H Q=>∃ B δ,Rl mg K B H σ δ/\Fin mg K E B H σ δ (r δ) Q
noncomputable def UC (mg:Str->Option Value) (E:XK) (H:Hp) (o:Rs Bool) (Q:Bool->Hp->Prop):Prop:=qo mg E H o fun b=>∀ H',qy H H'->Q b H'
noncomputable def tT (mg:Str->Option Value) (K:PySem.W.Frag) (E:XK) (r:RT):TT:=fun σ H Q=>∃ B δ,Rl mg K B H σ δ/\UC mg E H (r δ) Q
inductive VRs (mg:Str->Option Value) (K:PySem.W.Frag) (B:Bs) (H H':Hp) (σ:St) (δ:Dl):List V->List DK->Prop
 | nil:VRs mg K B H H' σ δ [] []
 | cons {v:V}{vs:List V}{x:DK}{xs:List DK}:VR mg K B H H' σ δ x.2 v x.1->VRs mg K B H H' σ δ vs xs->VRs mg K B H H' σ δ (v::vs) (x::xs)
noncomputable def FinA (mg:Str->Option Value) (K:PySem.W.Frag) (E:XK) (B:Bs) (H:Hp) (σ:St) (δ:Dl) (o:Rs (List DK)) (Q:List V->Hp->Prop):Prop :=
 qo mg E H o fun xs=>∀ vs H',qy H H'->VRs mg K B H H' σ δ vs xs->Q vs H'
noncomputable def tA (mg:Str->Option Value) (K:PySem.W.Frag) (E:XK) (r:RA):TA:=fun σ H Q=>∃ B δ,Rl mg K B H σ δ/\FinA mg K E B H σ δ (r δ) Q
section
variable {mg:Str->Option Value}{K:PySem.W.Frag}{E:XK}{B:Bs}{H H1 H' H'':Hp}{σ:St}{δ:Dl}{k l:Kd}{v:V}{d:D}{Q:VK}
theorem qo.bind {α β:Type}{x:Rs α}{f:α->Rs β}{k:β->Prop} (h:qo mg E H (x.bind f) k):qo mg E H x fun a=>qo mg E H (f a) k:=by
 cases x with
 | ok a=>exact h
 | er c=>exact h
 | no=>exact h
theorem qo.imp {α:Type}{x:Rs α}{k k':α->Prop} (h:qo mg E H x k) (i:∀ a,k a->k' a):qo mg E H x k':=by
 cases x with
 | ok a=>exact i a h
 | er c=>exact h
 | no=>exact h
theorem qo.more {α:Type}{x:Rs α}{k:α->Prop} (h:qo mg E H x k) (s:qy H H'):qo mg E H' x k:=by
 cases x with
 | ok a=>exact h
 | er c=>exact fun C H2 e s2=>h C H2 e (s.trans s2)
 | no=>exact h
theorem Fin.more {o:Rs DK} (h:Fin mg K E B H σ δ o Q) (s:qy H H'):Fin mg K E B H' σ δ o Q :=
 qo.more (qo.imp h fun x q v H2 s2 r=>q v H2 (s.trans s2) (r.VA s)) s
theorem UC.more {o:Rs Bool}{Q:Bool->Hp->Prop} (h:UC mg E H o Q) (s:qy H H'):UC mg E H' o Q:=qo.more (qo.imp h fun x q H2 s2=>q H2 (s.trans s2)) s
theorem VRs.VA {vs:List V}{xs:List DK} (h:VRs mg K B H1 H' σ δ vs xs) (s:qy H H1):VRs mg K B H H' σ δ vs xs:=by
 induction h with
 | nil=>exact .nil
 | cons a _ ih=>exact .cons (a.VA s) ih
theorem VRs.rp (R:Rl mg K B H σ δ) {vs:List V}{xs:List DK} (h:VRs mg K B H H' σ δ vs xs):qv mg K (fun _=>True) H' vs (xs.map (·.1)):=by
 induction h with
 | nil=>exact .nil
 | cons a _ ih=>exact .cons (a.rp R) ih
theorem VR.qaZ (R:Rl mg K B H σ δ) {x:DK} (h:VR mg K B H H' σ δ x.2 v x.1) (l:Kd) (s:x.1.sc=false->∃ m,l=x.2.low m\/l=Kd.low m x.2) (hl:l ≠ .fr):Rp mg K (Gk B σ δ l) H' v x.1:=by
 rw[<- VR.gk (H:=H) hl]
 cases c:x.1.sc with
 | true =>
  have e:=(h.rp R).sc c
  rw[e]
  exact VR.wX l hl c
 | false =>
  obtain⟨m,e | e⟩:=s c
  ·rw[e];exact VR.low R m h
  ·rw[e];exact VR.qg5 R m h
theorem uZ (a b c:Kd):(a.low b).low c=a.low (b.low c):=by cases a <;> cases b <;> cases c <;> rfl
theorem WJ (a b:Kd):a.low b=b.low a:=by cases a <;> cases b <;> rfl
theorem yB:∀ xs:List DK,qZ xs ≠ .fr
 | []=>fun z=>nomatch z
 | x::r=>by
  unfold qZ
  split
  ·exact yB r
  ·exact low_ne _ _
theorem VRs.kinds (R:Rl mg K B H σ δ):∀ {vs:List V}{xs:List DK},VRs mg K B H H' σ δ vs xs->∀ m:Kd,m ≠ .fr->qv mg K (Gk B σ δ (m.low (qZ xs))) H' vs (xs.map (·.1))
 | _,_,.nil,_,_=>.nil
 | _,_,@VRs.cons _ _ _ _ _ _ _ v vs x xs a b,m,hm=>by
  refine .cons ?_ ?_
  ·refine VR.qaZ R a _ (fun s=>?_) (low_ne _ _)
   unfold qZ
   rw[if_neg (by rw[s];decide),<- uZ,WJ m,uZ]
   exact⟨_,.inl rfl⟩
  ·unfold qZ
   split
   ·exact VRs.kinds R b m hm
   ·rw[<- uZ]
    exact VRs.kinds R b _ (low_ne _ _)
theorem VRs.qfN (R:Rl mg K B H σ δ) {vs:List V}{xs:List DK} (h:VRs mg K B H H' σ δ vs xs):qv mg K (Gk B σ δ (qZ xs)) H' vs (xs.map (·.1)):=by
 have q:=VRs.kinds R h .nw (fun z=>nomatch z)
 have e:Kd.low .nw (qZ xs)=qZ xs:=by
  have:=yB xs
  cases h:qZ xs <;> first | rfl | exact absurd h this
 rw[e] at q
 exact q
end
section
variable {X:Cx}{E:XK}{a b:Expr}{ra rb:RE}{pos:Pos}
theorem vq {e:Expr}{t t':TE} (h:PE X e t) (i:∀ σ H Q,t' σ H Q->t σ H Q):PE X e t':=fun pins s σ H Q I hw=>h pins s σ H Q I (i σ H Q hw)
theorem Y2 {e:Expr}{t t':TT} (h:PT X e t) (i:∀ σ H Q,t' σ H Q->t σ H Q):PT X e t':=fun pins s σ H Q I hw=>h pins s σ H Q I (i σ H Q hw)
theorem vp {e:Stmt}{t t':TS} (h:PS X e t) (i:∀ D σ H,t' D σ H->t D σ H):PS X e t':=fun pins s σ H D I hw=>h pins s σ H D I (i D σ H hw)
noncomputable abbrev TEx (X:Cx) (E:XK) (r:RE):TE:=tE X.mg X.K E r
noncomputable abbrev TTx (X:Cx) (E:XK) (r:RT):TT:=tT X.mg X.K E r
noncomputable abbrev TAx (X:Cx) (E:XK) (r:RA):TA:=tA X.mg X.K E r
theorem qfq {i:Nat}{x:Str} (hN:X.N[i]?=some x) (hv:Vis X.env.scope x) (hd:autoParam ((x==("__debug__":Str))=false) vd._auto_1) (hcd:autoParam ((x==("__classdict__":Str))=false) vd._auto_1):PE X (.Name x pos) (TEx X E (qa i)):=by
 refine vq (Wk hN hv hd hcd) fun σ H Q ⟨B,δ,R,h⟩=>?_
 unfold qa Fin at h
 cases hδ:δ[i]? with
 | none=>rw[hδ] at h;exact h.elim
 | some s =>
  rw[hδ] at h
  cases s with
  | un=>exact h.elim
  | val d k =>
   obtain⟨v,e,q⟩:=R.val i d k hδ
   refine⟨v,e,h v H qy.refl ?_⟩
   cases k with
   | true=>exact Rp.weak q fun a g=>⟨g.1,g.2 rfl⟩
   | false=>exact Rp.weak q fun a g=>g.1
  | own ds =>
   obtain⟨c,p,e,_,np,q⟩:=R.own i ds hδ
   exact⟨.ref p,e,h (.ref p) H qy.refl (Rp.lst np (.of q) (.wX c))⟩
theorem qB {i:Int}{j:Nat}:PE X (.Constant (.int i) j pos) (TEx X E (rC (.int i))):=vq JM fun σ H Q ⟨B,δ,R,h⟩=>h (.int i) H qy.refl (VR.int i)
theorem vY {x:Str}{i:Int} (hg:Gl X x) (hm:∃ t,X.mg x=some (.int i t)) (hd:autoParam ((x==("__debug__":Str))=false) vd._auto_1):PE X (.Name x pos) (TEx X E (rC (.int i))):=by
 obtain⟨t,hm⟩:=hm
 exact vq (qd9 (v:=.int i) hg hm ⟨t,rfl⟩ hd) fun σ H Q ⟨B,δ,R,h⟩=>h (.int i) H qy.refl (VR.int i)
noncomputable def zT (X:Cx) (f:DK->DK->Rs DK) (rr:R2):Prop:=∀ (B:Bs) (H H':Hp) (σ:St) (δ:Dl) (x y:V) (dx dy:DK) (Q:VK) (E:XK),Rl X.mg X.K B H σ δ->qy H H'->VR X.mg X.K B H H' σ δ dx.2 x dx.1->VR X.mg X.K B H H' σ δ dy.2 y dy.1 ->
 Fin X.mg X.K E B H' σ δ (f dx dy) Q->rr x y H' Q
theorem two {f:DK->DK->Rs DK}{rr:R2} (F:zT X f rr) {σ:St}{H:Hp}{Q:VK} (h:TEx X E (qf f ra rb) σ H Q):tOp rr (TEx X E ra) (TEx X E rb) σ H Q:=by
 obtain⟨B,δ,R,h⟩:=h
 refine⟨B,δ,R,qo.imp (qo.bind h) fun dx h1 v H1 s1 r1=>?_⟩
 refine⟨B,δ,R.more s1,?_⟩
 refine qo.imp (qo.more (qo.bind h1) s1) fun dy h2 w H2 s2 r2=>?_
 exact F B H H2 σ δ v w dx dy Q E R (s1.trans s2) (r1.later s2) (r2.VA s1) (Fin.more h2 (s1.trans s2))
theorem qu {op:Operator}{f:DK->DK->Rs DK}{rr:R2} (ho:OpR X (binaryOp op) rr) (F:zT X f rr) (ha:PE X a (TEx X E ra)) (hb:PE X b (TEx X E rb)):PE X (.BinOp a op b pos) (TEx X E (qf f ra rb)) :=
 vq (qe8 ho ha hb) fun _ _ _ h=>two F h
theorem qcj {op:CmpOp}{f:DK->DK->Rs DK}{rr:R2} (ho:OpR X (compareOp op) rr) (F:zT X f rr) (hm:behindInMarks op b=false) (ha:PE X a (TEx X E ra)) (hb:PE X b (TEx X E rb)):PE X (.Compare a [op] [b] pos) (TEx X E (qf f ra rb)) :=
 vq (qd1 ho ha hb hm) fun _ _ _ h=>two F h
theorem qaf {r:RE}{σ:St}{H:Hp}{Q:Bool->Hp->Prop} (h:TTx X E (tBl r) σ H Q):TEx X E r σ H fun x H'=>∃ k,x = .bl k/\Q k H':=by
 obtain⟨B,δ,R,h⟩:=h
 refine⟨B,δ,R,?_⟩
 unfold tBl UC at h
 refine qo.imp (qo.bind h) fun x h1 v H1 s1 r1=>?_
 obtain⟨d,k⟩:=x
 cases d with
 | bl b =>
  have e:v=toV (.bl b):=(r1.rp R).sc rfl
  exact⟨b,e,h1 H1 s1⟩
 | non=>exact h1.elim
 | int i=>exact h1.elim
 | lst l=>exact h1.elim
 | tup l=>exact h1.elim
 | fn x=>exact h1.elim
 | obj c ns l=>exact h1.elim
theorem wY {op:CmpOp}{f:DK->DK->Rs DK}{rr:R2} (ho:OpR X (compareOp op) rr) (F:zT X f rr) (hm:behindInMarks op b=false) (ha:PE X a (TEx X E ra)) (hb:PE X b (TEx X E rb)):PT X (.Compare a [op] [b] pos) (TTx X E (tBl (qf f ra rb))) :=
 Y2 (qdw ho ha hb hm) fun _ _ _ h=>two F (qaf h)
theorem Y6 {r:RE} (ha:PE X a (TEx X E r)) (he:autoParam (∀ whole,isTrue a X.env whole=(do let v <- whole;standAt a.pos;holding [v] (truthy v))) xI._auto_1):PT X a (TTx X E (tBl r)) :=
 Y2 (qgm ha he) fun _ _ _ h=>qaf h
theorem qgl {r:RT} (ha:PT X a (TTx X E r)):PT X (.UnaryOp .Not a pos) (TTx X E (Up r)):=by
 refine Y2 (qfI ha) fun σ H Q ⟨B,δ,R,h⟩=>⟨B,δ,R,?_⟩
 exact qo.imp (qo.bind h) fun x h1 H1 s1=>h1 H1 s1
theorem JV {e:Expr}{t t':TT} (h:PW X e t) (i:∀ σ H Q,t' σ H Q->t σ H Q):PW X e t':=fun wh pins s σ H Q I hw=>h wh pins s σ H Q I (i σ H Q hw)
theorem qdQ {r:RT} (ha:PT X a (TTx X E r)):PW X (.BoolOp .And [a] pos) (TTx X E r):=qeD ha
theorem qcV {r:RT} (ha:PT X a (TTx X E r)):PW X (.BoolOp .Or [a] pos) (TTx X E r):=qfH ha
theorem qfC {rest:List Expr}{r q:RT} (ha:PT X a (TTx X E r)) (hb:PW X (.BoolOp .And (b::rest) pos) (TTx X E q)):PW X (.BoolOp .And (a::b::rest) pos) (TTx X E (XI r q)):=by
 refine JV (qfF ha hb) fun σ H Q ⟨B,δ,R,h⟩=>⟨B,δ,R,?_⟩
 refine qo.imp (qo.bind h) fun x h1 H1 s1=>?_
 cases x with
 | true=>exact⟨B,δ,R.more s1,UC.more h1 s1⟩
 | false=>exact h1 H1 s1
theorem qeY {rest:List Expr}{r q:RT} (ha:PT X a (TTx X E r)) (hb:PW X (.BoolOp .Or (b::rest) pos) (TTx X E q)):PW X (.BoolOp .Or (a::b::rest) pos) (TTx X E (W6 r q)):=by
 refine JV (qgF ha hb) fun σ H Q ⟨B,δ,R,h⟩=>⟨B,δ,R,?_⟩
 refine qo.imp (qo.bind h) fun x h1 H1 s1=>?_
 cases x with
 | true=>exact h1 H1 s1
 | false=>exact⟨B,δ,R.more s1,UC.more h1 s1⟩
theorem Y8 {op:BoolOp}{es:List Expr}{r:RT} (h:PW X (.BoolOp op es pos) (TTx X E r)):PT X (.BoolOp op es pos) (TTx X E r):=h.pt
theorem qde {c:Expr}{t:RT} (hc:PT X c (TTx X E t)) (ha:PE X a (TEx X E ra)) (hb:PE X b (TEx X E rb)):PE X (.IfExp c a b pos) (TEx X E (Zk t ra rb)):=by
 refine vq (qc6 hc ha hb) fun σ H Q ⟨B,δ,R,h⟩=>⟨B,δ,R,?_⟩
 refine qo.imp (qo.bind h) fun x h1 H1 s1=>?_
 cases x with
 | true=>exact⟨B,δ,R.more s1,Fin.more h1 s1⟩
 | false=>exact⟨B,δ,R.more s1,Fin.more h1 s1⟩
theorem qm:PA X [] (TAx X E qk):=fun pos pins s σ H Q I ⟨B,δ,R,h⟩=>zS pos pins s σ H Q I (h [] H qy.refl .nil)
theorem YB {es:List Expr}{t t':TA} (h:PA X es t) (i:∀ σ H Q,t' σ H Q->t σ H Q):PA X es t':=fun pos pins s σ H Q I hw=>h pos pins s σ H Q I (i σ H Q hw)
theorem qe {es:List Expr}{r:RE}{rr:RA} (ha:PE X a (TEx X E r)) (hr:PA X es (TAx X E rr)) (hs:autoParam (starEach (a::es) X.env=(false,eval a X.env)::starEach es X.env) qt._auto_1):PA X (a::es) (TAx X E (qd r rr)):=by
 refine YB (vQ ha hr hs) fun σ H Q ⟨B,δ,R,h⟩=>⟨B,δ,R,?_⟩
 refine qo.imp (qo.bind h) fun x h1 v H1 s1 r1=>⟨B,δ,R.more s1,?_⟩
 refine qo.imp (qo.more (qo.bind h1) s1) fun xs h2 vs H2 s2 r2=>?_
 exact h2 (v::vs) H2 (s1.trans s2) (.cons (r1.later s2) (r2.VA s1))
theorem ZY {r:RA}{σ:St}{H:Hp}{B:Bs}{δ:Dl} (R:Rl X.mg X.K B H σ δ) {Q:VK}{f:List DK->Rs DK}{Q':List V->Hp->Prop} (h:Fin X.mg X.K E B H σ δ ((r δ).bind f) Q)
  (i:∀ xs vs H1,qy H H1->VRs X.mg X.K B H H1 σ δ vs xs->Fin X.mg X.K E B H1 σ δ (f xs) Q->Q' vs H1):TAx X E r σ H Q' :=
 ⟨B,δ,R,qo.imp (qo.bind h) fun xs h1 vs H1 s1 r1=>i xs vs H1 s1 r1 (Fin.more h1 s1)⟩
theorem VRs.len {mg:Str->Option Value}{K:PySem.W.Frag}{B:Bs}{H H':Hp}{σ:St}{δ:Dl}{vs:List V}{xs:List DK} (h:VRs mg K B H H' σ δ vs xs):vs.length=xs.length:=by
 induction h with
 | nil=>rfl
 | cons _ _ ih=>rw[List.length_cons,List.length_cons,ih]
theorem QA {es:List Expr}{r:RA} (h:PA X es (TAx X E r)):PE X (.List es pos) (TEx X E (ub r)):=by
 refine vq (Xc h) fun σ H Q ⟨B,δ,R,h⟩=>?_
 refine ZY R h fun xs vs H1 s1 r1 h1=>?_
 by_cases hl:xs.length <= LIM
 ·rw[if_pos hl] at h1
  refine⟨by rw[r1.len];exact hl,fun p hp=>?_⟩
  refine h1 (.ref p) _ (vX hp) ?_
  exact VR.laid (R.more s1) qy.refl hp (yB xs) (r1.qfN R)
 ·rw[if_neg hl] at h1
  exact h1.elim
end
theorem VB {i:Int} (h:few i):Builtin.Int.intBits i <= 60000:=by
 unfold Builtin.Int.intBits
 split
 ·exact Nat.zero_le _
 ·have hn:i.natAbs<2^60000:=h
  have:i.natAbs.log2<60000:=by
   rcases Nat.eq_zero_or_pos i.natAbs with h0 | hp
   ·rw[h0,Nat.log2_zero];exact Nat.zero_lt_of_lt (by exact (show 0<60000 by decide))
   ·exact (Nat.log2_lt (Nat.ne_of_gt hp)).mpr hn
  lia
theorem qdC {i j:Int} (h:few i) (h':few j):IntMulOk i j:=by
 unfold IntMulOk
 have a:=VB h
 have b:=VB h'
 have c:Builtin.Int.intTooBig (Builtin.Int.intBits i+Builtin.Int.intBits j)=false:=by
  unfold Builtin.Int.intTooBig
  refine decide_eq_false ?_
  have e:bitsLine=134217728:=by decide
  lia
 rw[c]
 simp
section
variable {X:Cx}
theorem xT:OpR X (binaryOp .Mult) (rI (fun i j=>few i/\few j) fun i j=>.int (i*j)):=opI fun _ _ _ _ _ _ _ hc q=>mul_int q (qdC hc.1 hc.2)
theorem wR:OpR X (binaryOp .LShift) (rI (fun i j=>0 <= j/\j <= 60000/\few i) fun i j=>.int (i*2^j.toNat)):=opI fun i j _ _ _ _ _ hc q=>by
 refine lshift_int hc.1 ?_ q
 have a:=VB hc.2.2
 have b:=hc.2.1
 have e:(2:Int)^27=134217728:=by decide
 lia
theorem yJ:OpR X (binaryOp .FloorDiv) (rI (fun _ j=>0<j/\j.natAbs.log2<9000) fun i j=>.int (i / j)):=opI fun i j _ _ _ _ _ hc q=>by
 refine floordiv_int (Int.ne_of_gt hc.1) ?_ (.inl (PyProof.noPylong_of_log2 hc.2))
 rw[Int.fdiv_eq_ediv_of_nonneg _ (Int.le_of_lt hc.1)]
 exact q
noncomputable def qb3 (K:PySem.W.Frag):R2:=fun x y H Q=>∃ l b xs zs,x = .ref l/\y = .ref b/\SqL K H l xs/\SqL K H b zs/\xs.length+zs.length <= sizeLine/\∀ p,H p=none->Q (.ref p) (upd H p (.lst (xs++zs)))
theorem qeE:OpR X (binaryOp .Add) (qb3 X.K):=by
 intro pins s σ H x y v u Q I rx ry h
 obtain⟨l,b,xs,zs,rfl,rfl,hH,hB,hz,q⟩:=h
 cases rx
 cases ry
 obtain⟨its,r,p1,z1⟩:=I.list hH
 obtain⟨its2,r2,p2,z2⟩:=I.list hB
 have l1:=r.length
 have l2:=r2.length
 obtain⟨⟨cls,dd,data,sl⟩,ho,hc,n,hd⟩:=id p1.isList
 obtain⟨⟨cls2,dd2,data2,sl2⟩,ho2,hc2,n2,hd2⟩:=id p2.isList
 simp only at hc hd hc2 hd2
 subst hc hd hc2 hd2
 have e:its.toArray++its2.toArray=(its++its2).toArray:=by simp
 refine concat_meets ⟨_,ho,rfl⟩ ⟨_,ho2,rfl⟩ noFill_list_add seq_list_add PySem.F.slot_list_add PySem.F.entry_list_add (PySem.F.args_list_add_2 _ _) (list_addW l b its.toArray its2.toArray n n2 dd dd2 sl sl2 (by rw[List.size_toArray,List.size_toArray];lia)) ⟨ho,ho2,?_⟩
 rw[e]
 exact⟨.ref _,_,I.qeu (t':=s.toks) (r.append r2) (by rw[List.length_append];lia),rfl,q _ I.fresh⟩
theorem vf {mg:Str->Option Value}{K:PySem.W.Frag}{B:Bs}{H H':Hp}{σ:St}{δ:Dl}{k:Kd}{v:V}{i:Int} (R:Rl mg K B H σ δ) (h:VR mg K B H H' σ δ k v (.int i)):v = .int i:=(h.rp R).sc rfl
theorem qaA {mg:Str->Option Value}{K:PySem.W.Frag}{B:Bs}{H H':Hp}{σ:St}{δ:Dl}{k:Kd}{v:V}{i:Bool} (R:Rl mg K B H σ δ) (h:VR mg K B H H' σ δ k v (.bl i)):v = .bl i:=(h.rp R).sc rfl
theorem wM:zT X vR (fun x y H Q=>rI0 (fun i j=>.int (i+j)) x y H Q\/qb3 X.K x y H Q):=by
 rintro B H H' σ δ x y ⟨dx,kx⟩ ⟨dy,ky⟩ Q E R s r1 r2 h
 cases dx with
 | int i =>
  cases dy with
  | int j=>exact .inl ⟨i,j,vf R r1,vf R r2,h _ H' qy.refl (VR.int _)⟩
  | _=>exact h.elim
 | lst xs =>
  cases dy with
  | lst ys =>
   right
   obtain⟨a,vs,rfl,q1,g1⟩:=VR.items R r1
   obtain⟨b,us,rfl,q2,g2⟩:=VR.items R r2
   unfold vR at h
   dsimp only at h
   by_cases hl:xs.length+ys.length <= LIM
   ·rw[if_pos hl] at h
    refine⟨a,b,vs,us,rfl,rfl,q1,q2,by rw[g1.len,g2.len];exact hl,fun p hp=>?_⟩
    refine h _ _ (vX hp) (VR.laid (R.more s) qy.refl hp (low_ne _ _) (qv.append ?_ ?_))
    ·refine g1.weak fun a g=>?_
     revert g
     cases kx <;> cases ky <;> first | exact fun g=>g | exact fun g=>g.1 | exact fun g z=>g (.inl z) | exact fun g z=>g.1 (.inl z)
    ·refine g2.weak fun a g=>?_
     revert g
     cases kx <;> cases ky <;> first | exact fun g=>g | exact fun g=>g.1 | exact fun g z=>g (.inl z) | exact fun g z=>g.1 (.inl z)
   ·rw[if_neg hl] at h
    exact h.elim
  | _=>exact h.elim
 | _=>exact h.elim
theorem vU:OpR X (binaryOp .Add) (fun x y H Q=>rI0 (fun i j=>.int (i+j)) x y H Q\/qb3 X.K x y H Q):=qgb.or qeE
theorem Yb {f:DK->DK->Rs DK}{g:Int->Int->V}{c:Int->Int->D} (hf:∀ dx dy,f dx dy=match dx.1,dy.1 with | .int i,.int j=>.ok (c i j,.nw) | _,_=>.no) (hg:∀ i j,g i j=toV (c i j)) (hc:∀ i j,(c i j).sc=true):zT X f (rI0 g):=by
 rintro B H H' σ δ x y ⟨dx,kx⟩ ⟨dy,ky⟩ Q E R s r1 r2 h
 rw[hf] at h
 cases dx with
 | int i =>
  cases dy with
  | int j=>exact⟨i,j,vf R r1,vf R r2,by rw[hg];exact h _ H' qy.refl (VR.wX _ (fun z=>nomatch z) (hc i j))⟩
  | _=>exact h.elim
 | _=>exact h.elim
theorem Vj {f:DK->DK->Rs DK}{C:Int->Int->Prop}{g:Int->Int->V}{c:Int->Int->D} (h1:∀ i j k l,C i j->f (.int i,k) (.int j,l) = .ok (c i j,.nw)) (h2:∀ i j k l,¬ C i j->f (.int i,k) (.int j,l) = .no)
  (h3:∀ dx dy,(∀ i k,dx≠(.int i,k))\/(∀ i k,dy≠(.int i,k))->f dx dy = .no) (hg:∀ i j,g i j=toV (c i j)) (hc:∀ i j,(c i j).sc=true):zT X f (rI C g):=by
 rintro B H H' σ δ x y ⟨dx,kx⟩ ⟨dy,ky⟩ Q E R s r1 r2 h
 by_cases ex:∃ i,dx = .int i
 ·obtain⟨i,rfl⟩:=ex
  by_cases ey:∃ j,dy = .int j
  ·obtain⟨j,rfl⟩:=ey
   by_cases cc:C i j
   ·rw[h1 i j _ _ cc] at h
    exact⟨i,j,vf R r1,vf R r2,cc,by rw[hg];exact h _ H' qy.refl (VR.wX _ (fun z=>nomatch z) (hc i j))⟩
   ·rw[h2 i j _ _ cc] at h
    exact h.elim
  ·rw[h3 _ _ (.inr fun j k z=>ey ⟨j,congrArg Prod.fst z⟩)] at h
   exact h.elim
 ·rw[h3 _ _ (.inl fun j k z=>ex ⟨j,congrArg Prod.fst z⟩)] at h
  exact h.elim
theorem wK:zT X wb (rI0 fun i j=>.int (i-j)):=Yb (c:=fun i j=>.int (i-j)) (by rintro⟨dx,kx⟩ ⟨dy,ky⟩;cases dx <;> cases dy <;> rfl) (fun _ _=>rfl) fun _ _=>rfl
theorem Qc (g:Int->Int->Int):zT X (Qp g) (rI0 fun i j=>.int (g i j)):=Yb (c:=fun i j=>.int (g i j)) (by rintro⟨dx,kx⟩ ⟨dy,ky⟩;cases dx <;> cases dy <;> rfl) (fun _ _=>rfl) fun _ _=>rfl
theorem xE (g:Int->Int->Bool):zT X (yk g) (rI0 fun i j=>.bl (g i j)):=Yb (c:=fun i j=>.bl (g i j)) (by rintro⟨dx,kx⟩ ⟨dy,ky⟩;cases dx <;> cases dy <;> rfl) (fun _ _=>rfl) fun _ _=>rfl
theorem xW:zT X wF (rI (fun _ j=>0<j/\j.natAbs.log2<9000) fun i j=>.int (i / j)):=Vj (c:=fun i j=>.int (i / j)) (fun i j k l c=>by unfold wF;exact if_pos c) (fun i j k l c=>by unfold wF;exact if_neg c)
 (fun⟨dx,kx⟩ ⟨dy,ky⟩ h=>by cases dx <;> cases dy <;> first | rfl | (rcases h with h | h <;> exact absurd rfl (h _ _))) (fun _ _=>rfl) fun _ _=>rfl
theorem Jf:zT X oMod (rI (fun _ j=>0<j) fun i j=>.int (i%j)):=Vj (c:=fun i j=>.int (i%j)) (fun i j k l c=>by unfold oMod;exact if_pos c) (fun i j k l c=>by unfold oMod;exact if_neg c)
 (fun⟨dx,kx⟩ ⟨dy,ky⟩ h=>by cases dx <;> cases dy <;> first | rfl | (rcases h with h | h <;> exact absurd rfl (h _ _))) (fun _ _=>rfl) fun _ _=>rfl
theorem zH:zT X wJ (rI (fun i j=>0 <= j/\j <= 60000/\few i) fun i j=>.int (i*2^j.toNat)):=Vj (c:=fun i j=>.int (i*2^j.toNat)) (fun i j k l c=>by unfold wJ;exact if_pos c) (fun i j k l c=>by unfold wJ;exact if_neg c)
 (fun⟨dx,kx⟩ ⟨dy,ky⟩ h=>by cases dx <;> cases dy <;> first | rfl | (rcases h with h | h <;> exact absurd rfl (h _ _))) (fun _ _=>rfl) fun _ _=>rfl
theorem UO:zT X Qh (rI (fun _ j=>0 <= j) fun i j=>.int (i / 2^j.toNat)):=Vj (c:=fun i j=>.int (i / 2^j.toNat)) (fun i j k l c=>by unfold Qh;exact if_pos c) (fun i j k l c=>by unfold Qh;exact if_neg c)
 (fun⟨dx,kx⟩ ⟨dy,ky⟩ h=>by cases dx <;> cases dy <;> first | rfl | (rcases h with h | h <;> exact absurd rfl (h _ _))) (fun _ _=>rfl) fun _ _=>rfl
theorem jx:zT X y6 (fun x y H Q=>rI (fun i j=>few i/\few j) (fun i j=>.int (i*j)) x y H Q\/qg8 x y H Q):=by
 rintro B H H' σ δ x y ⟨dx,kx⟩ ⟨dy,ky⟩ Q E R s r1 r2 h
 cases dx with
 | int i =>
  cases dy with
  | int j =>
   unfold y6 at h
   dsimp only at h
   by_cases c:few i/\few j
   ·rw[if_pos c] at h
    exact .inl ⟨i,j,vf R r1,vf R r2,c,h _ H' qy.refl (VR.int _)⟩
   ·rw[if_neg c] at h
    exact h.elim
  | _=>exact h.elim
 | lst xs =>
  cases dy with
  | int j =>
   right
   unfold y6 at h
   cases kx with
   | fr =>
    obtain⟨p,ds,rfl,e,c,_,hp⟩:=r1
    cases e
    dsimp only at h
    by_cases c2:(0 <= j/\j<1000000)/\xs.length*j.toNat <= LIM
    ·rw[if_pos c2] at h
     refine⟨p,j,_,rfl,vf R r2,hp,by lia,by lia,by rw[List.length_map];exact c2.2,fun q hq=>?_⟩
     refine h _ _ (vX hq) (VR.laid (k:=.nw) (R.more s) qy.refl hq (fun z=>nomatch z) (qv.rep (.wX c) _))
    ·rw[if_neg c2] at h
     exact h.elim
   | _=>exact h.elim
  | _=>cases kx <;> exact False.elim h
 | _=>exact h.elim
end
noncomputable def RR (mg:Str->Option Value) (K:PySem.W.Frag) (H H':Hp):Bool->V->D->Prop
 | true,v,d=>∃ p ds,v = .ref p/\d = .lst ds/\ds.all D.sc=true/\H p=none/\H' p=some (.lst (ds.map toV))
 | false,v,d=>Rp mg K (fun a=>H a=none) H' v d
noncomputable def Frm (B:Bs) (σ:St) (δ:Dl) (H:Hp) (σ':St) (δ':Dl) (H':Hp):Prop:=∀ b o,H b=some o->¬ vx B σ δ b->H' b=some o/\¬ vx B σ' δ' b
theorem Frm.refl {B:Bs}{σ:St}{δ:Dl}{H:Hp}:Frm B σ δ H σ δ H:=fun _ _ e n=>⟨e,n⟩
theorem Frm.trans {B:Bs}{σ σ1 σ2:St}{δ δ1 δ2:Dl}{H H1 H2:Hp} (a:Frm B σ δ H σ1 δ1 H1) (b:Frm B σ1 δ1 H1 σ2 δ2 H2):Frm B σ δ H σ2 δ2 H2:=fun c o e n=>b c o (a c o e n).1 (a c o e n).2
theorem Frm.grow {B:Bs}{σ:St}{δ:Dl}{H H':Hp} (s:qy H H'):Frm B σ δ H σ δ H':=fun b o e n=>⟨s b o e,n⟩
noncomputable def yr (mg:Str->Option Value) (K:PySem.W.Frag) (E:XK) (B:Bs) (H:Hp) (σ:St) (δ:Dl) (o:Out) (D:Ends):Prop:=match o with
 | .nx δ'=>∀ σ' H',Rl mg K B H' σ' δ'->Frm B σ δ H σ' δ' H'->D.nx σ' H'
 | .bk δ'=>∀ σ' H',Rl mg K B H' σ' δ'->Frm B σ δ H σ' δ' H'->D.bk σ' H'
 | .ct δ'=>∀ σ' H',Rl mg K B H' σ' δ'->Frm B σ δ H σ' δ' H'->D.ct σ' H'
 | .rt d k=>∀ v H',qy B.H0 H'->RR mg K B.H0 H' k v d->D.rt v H'
 | .er c=>∀ C H',mg c=some (.ref C)->qy B.H0 H'->E (.ref C) none H'
 | .no=>False
noncomputable def tS (mg:Str->Option Value) (K:PySem.W.Frag) (E:XK) (r:RS):TS:=fun D σ H=>∃ B δ,Rl mg K B H σ δ/\yr mg K E B H σ δ (r δ) D
noncomputable abbrev TSx (X:Cx) (E:XK) (r:RS):TS:=tS X.mg X.K E r
section
variable {mg:Str->Option Value}{K:PySem.W.Frag}{E:XK}{B:Bs}{H H1 H':Hp}{σ σ1:St}{δ δ1:Dl}{v:V}{d:D}{i:Nat}
theorem yr.later {o:Out}{D:Ends} (h:yr mg K E B H σ δ o D) (f:Frm B σ δ H σ1 δ1 H1):yr mg K E B H1 σ1 δ1 o D:=by
 cases o with
 | nx δ'=>exact fun σ' H' R f'=>h σ' H' R (f.trans f')
 | bk δ'=>exact fun σ' H' R f'=>h σ' H' R (f.trans f')
 | ct δ'=>exact fun σ' H' R f'=>h σ' H' R (f.trans f')
 | rt d k=>exact h
 | er c=>exact h
 | no=>exact h
theorem uz {s:Sl} (hs:∀ ds,s ≠ .own ds) {w:Option V}{p:Addr} (h:vx B (σ.set i w) (δ.set i s) p):vx B σ δ p:=by
 rcases h with h | ⟨j,ds,e1,e2⟩
 ·exact .inl h
 ·right
  by_cases hj:i=j
  ·subst hj
   by_cases hi:i<δ.length
   ·rw[List.getElem?_set_self hi] at e1
    exact absurd (Option.some.inj e1) (hs ds)
   ·rw[List.getElem?_eq_none (by rw[List.length_set];lia)] at e1
    cases e1
  ·rw[List.getElem?_set_ne hj] at e1 e2
   exact⟨j,ds,e1,e2⟩
theorem Rl.U9 {k:Bool} (R:Rl mg K B H σ δ) (r:Rp mg K (fun a=>¬ vx B σ δ a/\(k=true->B.H0 a=none)) H v d):Rl mg K B H (σ.set i (some v)) (δ.set i (.val d k)):=by
 have sub:∀ a,¬ vx B σ δ a->¬ vx B (σ.set i (some v)) (δ.set i (.val d k)) a:=fun a n z=>n (uz (fun _ q=>by cases q) z)
 refine⟨R.same,R.pd,by rw[List.length_set,List.length_set];exact R.len,fun j d' k' e=>?_,fun j ds e=>?_,fun j l p ds es e1 e2 e3 e4=>?_⟩
 ·by_cases hj:i=j
  ·subst hj
   by_cases hi:i<δ.length
   ·rw[List.getElem?_set_self hi] at e
    cases e
    exact⟨v,List.getElem?_set_self (by rw[R.len];exact hi),r.weak fun a g=>⟨sub a g.1,g.2⟩⟩
   ·rw[List.getElem?_eq_none (by rw[List.length_set];lia)] at e
    cases e
  ·rw[List.getElem?_set_ne hj] at e ⊢
   obtain⟨w,h1,h2⟩:=R.val j d' k' e
   exact⟨w,h1,h2.weak fun a g=>⟨sub a g.1,g.2⟩⟩
 ·by_cases hj:i=j
  ·subst hj
   by_cases hi:i<δ.length
   ·rw[List.getElem?_set_self hi] at e
    cases e
   ·rw[List.getElem?_eq_none (by rw[List.length_set];lia)] at e
    cases e
  ·rw[List.getElem?_set_ne hj] at e ⊢
   exact R.own j ds e
 ·have ne:∀ {j:Nat}{ds:List D},(δ.set i (.val d k))[j]?=some (.own ds)->i≠j:=fun {j ds} e q=>by
   subst q
   by_cases hi:i<δ.length
   ·rw[List.getElem?_set_self hi] at e
    cases e
   ·rw[List.getElem?_eq_none (by rw[List.length_set];lia)] at e
    cases e
  have n1:=ne e1
  have n2:=ne e2
  rw[List.getElem?_set_ne n1] at e1 e3
  rw[List.getElem?_set_ne n2] at e2 e4
  exact R.apart j l p ds es e1 e2 e3 e4
theorem jK {k:Bool}:Frm B σ δ H (σ.set i (some v)) (δ.set i (.val d k)) H:=fun b o e n=>⟨e,fun z=>n (uz (fun _ q=>by cases q) z)⟩
theorem Rl.qgt {p:Addr}{ds:List D} (R:Rl mg K B H σ δ) (s:qy H H') (hp:H p=none) (hp':H' p=some (.lst (ds.map toV))) (c:ds.all D.sc=true):Rl mg K B H' (σ.set i (some (.ref p))) (δ.set i (.own ds))/\Frm B σ δ H (σ.set i (some (.ref p))) (δ.set i (.own ds)) H':=by
 have get:∀ {j:Nat}{x:Sl},(δ.set i (.own ds))[j]?=some x->(i=j/\i<δ.length/\x = .own ds)\/(i≠j/\δ[j]?=some x):=fun {j x} e=>by
  by_cases hj:i=j
  ·subst hj
   by_cases hi:i<δ.length
   ·rw[List.getElem?_set_self hi] at e
    exact .inl ⟨rfl,hi,(Option.some.inj e).symm⟩
   ·rw[List.getElem?_eq_none (by rw[List.length_set];lia)] at e
    cases e
  ·rw[List.getElem?_set_ne hj] at e
   exact .inr ⟨hj,e⟩
 have sub:∀ a,H a≠none->¬ vx B σ δ a->¬ vx B (σ.set i (some (.ref p))) (δ.set i (.own ds)) a:=fun a ha n z=>by
  rcases z with z | ⟨j,es,e1,e2⟩
  ·exact n (.inl z)
  ·rcases get e1 with ⟨rfl,hi,_⟩ | ⟨hj,e1⟩
   ·rw[List.getElem?_set_self (by rw[R.len];exact hi)] at e2
    cases e2
    exact ha hp
   ·rw[List.getElem?_set_ne hj] at e2
    exact n (.inr ⟨j,es,e1,e2⟩)
 have R':=R.more s
 refine⟨⟨R'.same,R'.pd,by rw[List.length_set,List.length_set];exact R.len,fun j d' k' e=>?_,fun j es e=>?_,fun j l q es fs e1 e2 e3 e4=>?_⟩,fun b o e n=>⟨s b o e,sub b (by rw[e];exact fun z=>nomatch z) n⟩⟩
 ·rcases get e with ⟨_,_,z⟩ | ⟨hj,e⟩
  ·cases z
  ·obtain⟨w,h1,h2⟩:=R.val j d' k' e
   rw[List.getElem?_set_ne hj]
   exact⟨w,h1,(Rp.weak (Rp.there _ _ h2) fun a g=>⟨sub a g.2 g.1.1,g.1.2⟩).same s⟩
 ·rcases get e with ⟨rfl,hi,z⟩ | ⟨hj,e⟩
  ·cases z
   exact⟨c,p,List.getElem?_set_self (by rw[R.len];exact hi),R.same.free hp,fun z=>R.pd p z hp,hp'⟩
  ·rw[List.getElem?_set_ne hj]
   exact R'.own j es e
 ·have pne:∀ {j:Nat}{es:List D}{q:Addr},δ[j]?=some (.own es)->σ[j]?=some (some (.ref q))->q≠p:=fun {j es q} e1 e2 z=>by
   have:=R.owned (.inr ⟨j,es,e1,e2⟩)
   rw[z] at this
   exact this hp
  rcases get e1 with ⟨h1,hi,_⟩ | ⟨h1,e1⟩
  ·rcases get e2 with ⟨h2,_,_⟩ | ⟨h2,e2⟩
   ·exact h1.symm.trans h2
   ·subst h1
    rw[List.getElem?_set_self (by rw[R.len];exact hi)] at e3
    rw[List.getElem?_set_ne h2] at e4
    cases e3
    exact absurd rfl (pne e2 e4)
  ·rw[List.getElem?_set_ne h1] at e3
   rcases get e2 with ⟨h2,hi,_⟩ | ⟨h2,e2⟩
   ·subst h2
    rw[List.getElem?_set_self (by rw[R.len];exact hi)] at e4
    cases e4
    exact absurd rfl (pne e1 e3)
   ·rw[List.getElem?_set_ne h2] at e4
    exact R.apart j l q es fs e1 e2 e3 e4
theorem Vp {δ:Dl}{j:Nat}{x:Sl} (h:(freeze δ)[j]?=some x):∃ y,δ[j]?=some y/\x=frz y:=by
 unfold freeze at h
 rw[List.getElem?_map] at h
 cases e:δ[j]? with
 | none=>rw[e] at h;cases h
 | some y=>rw[e] at h;exact⟨y,rfl,(Option.some.inj h).symm⟩
theorem uS {p:Addr} (h:vx B σ (freeze δ) p):B.P p:=by
 rcases h with h | ⟨j,ds,e,_⟩
 ·exact h
 ·obtain⟨y,_,z⟩:=Vp e
  cases y <;> cases z
theorem Rl.frz (R:Rl mg K B H σ δ):Rl mg K B H σ (freeze δ):=by
 refine⟨R.same,R.pd,by unfold freeze;rw[List.length_map];exact R.len,fun j d k e=>?_,fun j ds e=>?_,fun j l p ds es e1 _ _ _=>?_⟩
 ·obtain⟨y,h,z⟩:=Vp e
  cases y with
  | un=>cases z
  | val d' k' =>
   cases z
   obtain⟨w,h1,h2⟩:=R.val j _ _ h
   exact⟨w,h1,h2.weak fun a g=>⟨fun z=>g.1 (.inl (uS z)),g.2⟩⟩
  | own ds =>
   cases z
   obtain⟨c,p,h1,h2,h3,h4⟩:=R.own j ds h
   exact⟨.ref p,h1,.lst ⟨fun z=>h3 (uS z),fun _=>h2⟩ (.of h4) (.wX c)⟩
 ·obtain⟨y,_,z⟩:=Vp e
  cases y <;> cases z
 ·obtain⟨y,_,z⟩:=Vp e1
  cases y <;> cases z
theorem qd0:Frm B σ δ H σ (freeze δ) H:=fun b o e n=>⟨e,fun z=>n (.inl (uS z))⟩
theorem Rl.qho {ds:List D} (R:Rl mg K B H σ δ) (hδ:δ[i]?=some (.own ds)):Rl mg K B H σ (δ.set i (.val (.lst ds) true))/\Frm B σ δ H σ (δ.set i (.val (.lst ds) true)) H:=by
 obtain⟨c,p,h1,h2,h3,h4⟩:=R.own i ds hδ
 have hi:i<σ.length:=(List.getElem?_eq_some_iff.mp h1).1
 have e:σ.set i (some (.ref p))=σ:=by
  refine List.ext_getElem? fun j=>?_
  by_cases hj:i=j
  ·subst hj
   rw[List.getElem?_set_self hi,h1]
  ·rw[List.getElem?_set_ne hj]
 have sub:∀ a,vx B σ (δ.set i (.val (.lst ds) true)) a->vx B σ δ a:=fun a z=>by
  rw[<- e] at z
  exact uz (fun _ q=>by cases q) z
 have np:¬ vx B σ (δ.set i (.val (.lst ds) true)) p:=fun z=>by
  rcases z with z | ⟨j,es,e1,e2⟩
  ·exact h3 z
  ·by_cases hj:i=j
   ·subst hj
    rw[List.getElem?_set_self (by rw[<- R.len];exact hi)] at e1
    cases e1
   ·rw[List.getElem?_set_ne hj] at e1
    exact hj (R.apart i j p ds es hδ e1 h1 e2)
 refine⟨⟨R.same,R.pd,by rw[List.length_set];exact R.len,fun j d k q=>?_,fun j es q=>?_,fun j l q fs gs e1 e2 e3 e4=>?_⟩,fun b o q n=>⟨q,fun z=>n (sub b z)⟩⟩
 ·by_cases hj:i=j
  ·subst hj
   rw[List.getElem?_set_self (by rw[<- R.len];exact hi)] at q
   cases q
   exact⟨_,h1,.lst ⟨np,fun _=>h2⟩ (.of h4) (.wX c)⟩
  ·rw[List.getElem?_set_ne hj] at q
   obtain⟨w,g1,g2⟩:=R.val j d k q
   exact⟨w,g1,g2.weak fun a g=>⟨fun z=>g.1 (sub a z),g.2⟩⟩
 ·by_cases hj:i=j
  ·subst hj
   rw[List.getElem?_set_self (by rw[<- R.len];exact hi)] at q
   cases q
  ·rw[List.getElem?_set_ne hj] at q
   exact R.own j es q
 ·have get:∀ {j:Nat}{es:List D},(δ.set i (.val (.lst ds) true))[j]?=some (.own es)->δ[j]?=some (.own es):=fun {j es} q=>by
   by_cases hj:i=j
   ·subst hj
    rw[List.getElem?_set_self (by rw[<- R.len];exact hi)] at q
    cases q
   ·rw[List.getElem?_set_ne hj] at q
    exact q
  exact R.apart j l q fs gs (get e1) (get e2) e3 e4
theorem VR.slot {k:Kd} (R:Rl mg K B H σ δ) (s:qy H H') (r:VR mg K B H H' σ δ k v d) (h:k ≠ .bo\/d.sc=true):∃ d' b,xy (d,if d.sc=true then .nw else k) = .val d' b/\d'=d/\Rp mg K (fun a=>¬ vx B σ δ a/\(b=true->B.H0 a=none)) H' v d:=by
 refine⟨d,_,rfl,rfl,?_⟩
 cases c:d.sc with
 | true =>
  have e:=(r.rp R).sc c
  rw[e]
  exact Rp.wX c
 | false =>
  rw[if_neg (by decide)]
  rcases h with h | h
  ·cases k with
   | bo=>exact absurd rfl h
   | sh=>exact Rp.weak r fun a g=>⟨g,fun z=>nomatch z⟩
   | nw=>exact Rp.weak r fun a g=>⟨g.1,fun _=>g.2⟩
   | fr=>exact Rp.weak (VR.z9 R r) fun a g=>⟨g.1,fun _=>g.2⟩
  ·rw[c] at h
   cases h
end
structure Gd (X:Cx) (E:XK):Prop where
 calm:X.calm=true
 nd:X.N.Nodup
 acc:Acc X E
 own:PassesOwn (model X.prog X.w) X.A X.env X.xe
theorem UM {X:Cx}{E:XK}{L:Addr} (hst:X.stack=X.env::X.outer) (hfr:X.env.frame=some L):PassesOwn (model X.prog X.w) X.A X.env (Arr X E):=by
 intro e s1 x
 obtain⟨a,cls,B,H',pins,σ,rfl,I,hd,kb,q⟩:=x
 have hfrm:X.A.frames=some (X.env::X.outer):=by rw[<- hst];exact I.ok.frames
 have hd0:=hd
 rw[hst] at hd0
 refine xu hfrm hfr hfr hd0 fun h1 hd1 up1=>?_
 rw[<- hst] at hd1
 obtain⟨I1,kb1⟩:=w6 I hd kb hd1.hand up1
 unfold cameBackBy
 refine wpAny_bind (jU hd1 fun T=>?_)
 rw[if_neg (show ¬ ((Value.ref T==Value.none)=true) from by simp)]
 refine zu hd1 fun h2 hd2 up2=>?_
 obtain⟨I2,kb2⟩:=w6 I1 hd1.hand kb1 hd2.hand up2
 exact⟨a,cls,B,H',pins,σ,rfl,I2,hd2.hand,kb2,q⟩
section
variable {X:Cx}{E:XK}{pos:Pos}
theorem j3 {st:List Stmt}{t t':TS} (h:PSs X st t) (i:∀ D σ H,t' D σ H->t D σ H):PSs X st t':=fun pins s σ H D I hw=>h pins s σ H D I (i D σ H hw)
theorem ze:PSs X [] (TSx X E zt):=j3 JZ fun D σ H ⟨B,δ,R,h⟩=>h σ H R Frm.refl
theorem qfs {a b:RS}{D:Ends}{σ:St}{H:Hp} (h:TSx X E (vK a b) D σ H):TSx X E a {D with nx:=TSx X E b D} σ H:=by
 obtain⟨B,δ,R,h⟩:=h
 refine⟨B,δ,R,?_⟩
 unfold vK Out.andThen at h
 cases ha:a δ with
 | nx δ1 =>
  rw[ha] at h
  exact fun σ1 H1 R1 f1=>⟨B,δ1,R1,yr.later h f1⟩
 | bk δ1=>rw[ha] at h;exact h
 | ct δ1=>rw[ha] at h;exact h
 | rt d k=>rw[ha] at h;exact h
 | er c=>rw[ha] at h;exact h
 | no=>rw[ha] at h;exact h
theorem qz {st:Stmt}{rest:List Stmt}{a b:RS} (h1:PS X st (TSx X E a)) (h2:PSs X rest (TSx X E b)):PSs X (st::rest) (TSx X E (vK a b)):=j3 (Wg h1 h2) fun _ _ _ h=>qfs h
theorem qx {st:Stmt}{a:RS} (h1:PS X st (TSx X E a)):PSs X [st] (TSx X E a):=u6 h1
theorem ZR {mg:Str->Option Value}{K:PySem.W.Frag}{B:Bs}{H:Hp}{σ:St}{δ:Dl}{c:Str} (R:Rl mg K B H σ δ) (h:∀ C H',mg c=some (.ref C)->qy B.H0 H'->E (.ref C) none H'):∀ C H',mg c=some (.ref C)->qy H H'->E (.ref C) none H':=fun C H' e s=>h C H' e (R.same.trans s)
theorem Yy {e:Expr}{r:RE} (he:PE X e (TEx X E r)) (hs:autoParam (swapsWith e none pos.line X.env=pure false) qt._auto_1):PS X (.Expr e pos) (TSx X E (x9 r)):=by
 refine vp (Q7 he hs) fun D σ H ⟨B,δ,R,h⟩=>⟨B,δ,R,?_⟩
 unfold x9 at h
 cases hr:r δ with
 | ok x=>rw[hr] at h;exact fun v H' s _=>h σ H' (R.more s) (Frm.grow s)
 | er c=>rw[hr] at h;exact ZR R h
 | no=>rw[hr] at h;exact h
theorem qfi {i:Nat}{r:RE}{D:Ends}{σ:St}{H:Hp} (h:TSx X E (vn i r) D σ H):Uz (TEx X E r) (w4 i) D σ H:=by
 obtain⟨B,δ,R,h⟩:=h
 refine⟨B,δ,R,?_⟩
 unfold vn at h
 cases hr:r δ with
 | er c=>rw[hr] at h;exact ZR R h
 | no=>rw[hr] at h;exact h
 | ok x =>
  rw[hr] at h
  obtain⟨d,k⟩:=x
  intro v H' s vr
  have vr:VR X.mg X.K B H H' σ δ k v d:=vr
  show D.nx (σ.set i (some v)) H'
  -- a value that is no list just made
  have plain:(k ≠ .bo\/d.sc=true)->yr X.mg X.K E B H σ δ (.nx (δ.set i (xy (d,if d.sc=true then .nw else k)))) D->D.nx (σ.set i (some v)) H':=fun hk q=>by
   obtain⟨d',b,e,e2,rp⟩:=VR.slot R s vr hk
   subst e2
   rw[e] at q
   exact q _ _ ((R.more s).U9 rp) ((Frm.grow s).trans jK)
  cases k with
  | fr =>
   obtain⟨p,ds,rfl,rfl,c,e1,e2⟩:=vr
   have q:=R.qgt (i:=i) s e1 e2 c
   exact h _ _ q.1 q.2
  | bo =>
   cases hsc:d.sc with
   | true =>
    refine plain (.inr hsc) ?_
    rw[if_pos hsc]
    cases d <;> first | exact h | cases hsc
   | false =>
    have h':yr X.mg X.K E B H σ δ (.nx ((freeze δ).set i (.val d false))) D:=by
     cases d <;> first | exact h | cases hsc
    refine h' _ _ ((R.more s).frz.U9 ?_) ((Frm.grow s).trans (qd0.trans jK))
    exact Rp.weak vr fun a g=>⟨fun z=>g (uS z),fun z=>nomatch z⟩
  | sh =>
   refine plain (.inl fun z=>nomatch z) ?_
   cases d <;> exact h
  | nw =>
   refine plain (.inl fun z=>nomatch z) ?_
   cases d <;> exact h
theorem qfm {i:Nat}{x:Str}{e:Expr}{r:RE}{pos':Pos} (g:Gd X E) (hi:X.N[i]?=some x) (hx:Loc X.env.scope x) (he:PE X e (TEx X E r)) (hs:autoParam (swapsWith e (some (.Name x pos')) pos.line X.env=pure false) qt._auto_1) (hf:autoParam (X.fn x=true\/X.env.scope.names.lookup x=some .local) We._auto_1) :
  PS X (.Assign [.Name x pos'] e pos) (TSx X E (vn i r)):=vp (Wv g.nd hi hx he hs hf) fun _ _ _ h=>qfi h
theorem xw {c:Expr}{a b:List Stmt}{t:RT}{ra rb:RS} (hc:PT X c (TTx X E t)) (ha:PSs X a (TSx X E ra)) (hb:PSs X b (TSx X E rb)):PS X (.If c a b pos) (TSx X E (sIf t ra rb)):=by
 refine vp (qeU hc ha hb) fun D σ H ⟨B,δ,R,h⟩=>⟨B,δ,R,?_⟩
 unfold sIf at h
 cases hr:t δ with
 | er c=>rw[hr] at h;exact ZR R h
 | no=>rw[hr] at h;exact h
 | ok x =>
  rw[hr] at h
  intro H1 s1
  cases x with
  | true=>exact⟨B,δ,R.more s1,yr.later h (Frm.grow s1)⟩
  | false=>exact⟨B,δ,R.more s1,yr.later h (Frm.grow s1)⟩
theorem vE {e:Expr}{r:RE} (he:PE X e (TEx X E r)):PS X (.Return (some e) pos) (TSx X E (vV r)):=by
 refine vp (uh he) fun D σ H ⟨B,δ,R,h⟩=>⟨B,freeze δ,R.frz,?_⟩
 unfold vV at h
 cases hr:r (freeze δ) with
 | er c=>rw[hr] at h;exact ZR R h
 | no=>rw[hr] at h;exact h
 | ok x =>
  rw[hr] at h
  obtain⟨d,k⟩:=x
  intro v H' s vr
  have vr:VR X.mg X.K B H H' σ (freeze δ) k v d:=vr
  have same:=R.same.trans s
  have qdt:d.sc=true->RR X.mg X.K B.H0 H' false v d:=fun c=>by
   have e:=(vr.rp R.frz).sc c
   rw[e]
   exact Rp.wX c
  cases k with
  | fr =>
   obtain⟨p,ds,rfl,rfl,c,e1,e2⟩:=vr
   exact h _ H' same ⟨p,ds,rfl,rfl,c,R.same.free e1,e2⟩
  | nw =>
   have h':yr X.mg X.K E B H σ δ (.rt d false) D:=by cases d <;> exact h
   exact h' v H' same (Rp.weak vr fun a g=>g.2)
  | sh =>
   have h':yr X.mg X.K E B H σ δ (if d.sc=true then .rt d false else .no) D:=by cases d <;> exact h
   cases c:d.sc with
   | true=>rw[if_pos c] at h';exact h' v H' same (qdt c)
   | false=>rw[if_neg (by rw[c];decide)] at h';exact h'.elim
  | bo =>
   have h':yr X.mg X.K E B H σ δ (if d.sc=true then .rt d false else .no) D:=by cases d <;> exact h
   cases c:d.sc with
   | true=>rw[if_pos c] at h';exact h' v H' same (qdt c)
   | false=>rw[if_neg (by rw[c];decide)] at h';exact h'.elim
theorem qdP {i:Nat}{x:Str}{p:Pos} (hN:X.N[i]?=some x) (hv:Vis X.env.scope x) (hd:autoParam ((x==("__debug__":Str))=false) vd._auto_1) (hcd:autoParam ((x==("__classdict__":Str))=false) vd._auto_1):PS X (.Return (some (.Name x p)) pos) (TSx X E (jr i)):=by
 refine vp (uh (Wk hN hv hd hcd)) fun D σ H ⟨B,δ,R,h⟩=>?_
 unfold jr at h
 cases hδ:δ[i]? with
 | none=>rw[hδ] at h;exact h.elim
 | some s =>
  rw[hδ] at h
  cases s with
  | un=>exact h.elim
  | own ds =>
   obtain⟨c,q,e1,e2,_,e3⟩:=R.own i ds hδ
   exact⟨_,e1,h _ H R.same ⟨q,ds,rfl,rfl,c,e2,e3⟩⟩
  | val d k =>
   obtain⟨v,e1,r⟩:=R.val i d k hδ
   refine⟨v,e1,?_⟩
   dsimp only at h
   by_cases c:d.sc=true\/k=true
   ·rw[if_pos c] at h
    refine h v H R.same ?_
    rcases c with c | c
    ·have e:=r.sc c
     rw[e]
     exact Rp.wX c
    ·exact Rp.weak r fun a g=>g.2 c
   ·rw[if_neg c] at h
    exact h.elim
theorem yI {x:Str}{C:Addr}{np cpos:Pos} (g:Gd X E) (hg:Gl X x) (hm:X.mg x=some (.ref C)) (hC:qO X.K C=true) (hd:autoParam ((x==("__debug__":Str))=false) vd._auto_1):PS X (.Raise (some (.Call (.Name x np) [] [] cpos)) none pos) (TSx X E (zR x)) :=
 vp (XZ g.calm g.acc hg hm hC hd) fun D σ H ⟨B,δ,R,h⟩=>h C H hm R.same
theorem qep (n:Nat) (i:Int):yL n i=ixN n i:=rfl
noncomputable def Kp (fl:Bool) (B B':Bs) (σ:St) (δ:Dl) (H1:Hp) (σ':St) (δ':Dl) (H2:Hp):Prop :=
 B'.H0=B.H0/\(∀ b o,H1 b=some o->¬ vx B σ δ b->H2 b=some o/\¬ vx B' σ' δ' b)/\(fl=false->qy H1 H2)
theorem Kp.of {B:Bs}{σ σ':St}{δ δ':Dl}{H1 H2:Hp} (f:Frm B σ δ H1 σ' δ' H2):Kp true B B σ δ H1 σ' δ' H2:=⟨rfl,f,fun z=>nomatch z⟩
noncomputable def Tg.sets:Tg->St->St->Prop
 | .one i,σ,σ2=>∃ v,σ2=σ.set i (some v)
 | .two i j,σ,σ2=>∃ v w,σ2=(σ.set i (some v)).set j (some w)
noncomputable def Walks (X:Cx) (B:Bs) (H1:Hp) (σ:St) (δ:Dl) (g:TG) (tg:Tg) (J:It) (fl:Bool) (xs:List DK):Prop :=
 (∀ (B':Bs) (i:Nat) (x:DK) (σ':St) (δ' δ2:Dl) (H2:Hp),xs[i]?=some x->Rl X.mg X.K B' H2 σ' δ'->Kp fl B B' σ δ H1 σ' δ' H2->tg.put x δ'=some δ2 ->
  J.go i H2/\∀ v H3,J.yld i H2 v H3->∀ Q:St->Hp->Prop,(∀ σ2 H4,Rl X.mg X.K B' H4 σ2 δ2->Frm B' σ' δ' H2 σ2 δ2 H4->qy H2 H4->tg.sets σ' σ2->Q σ2 H4)->g v σ' H3 Q) /\
 ∀ (B':Bs) (i:Nat) (σ':St) (δ':Dl) (H2:Hp),xs.length <= i->Rl X.mg X.K B' H2 σ' δ'->Kp fl B B' σ δ H1 σ' δ' H2->J.stop i H2
noncomputable def tI (X:Cx) (E:XK) (g:TG) (tg:Tg) (src:RI):TI:=fun σ H R=>∃ B δ,Rl X.mg X.K B H σ δ/\qo X.mg E H (src δ) fun x=>∀ J H1,qy H H1->Walks X B H1 σ δ g tg J x.1 x.2->R J H1
theorem JJ {tgE iter:Expr}{body:List Stmt}{g:TG}{tg:Tg}{src:RI}{rb:RS} (G:Gd X E) (hi:PI X tgE iter (tI X E g tg src)) (hg:PG X tgE g) (hb:PSs X body (TSx X E rb)) (hs:autoParam (∀ x,foldedSetIterable iter X.env x=pure x) xI._auto_1) :
  PS X (.For tgE iter body [] pos) (TSx X E (XN tg src rb)):=by
 refine vp (qcL G.own G.calm hi hg hb hs) fun D σ H ⟨B,δ,R,h⟩=>⟨B,δ,R,?_⟩
 unfold XN at h
 cases hr:src δ with
 | er c=>rw[hr] at h;exact ZR R h
 | no=>rw[hr] at h;exact h
 | ok x =>
  rw[hr] at h
  obtain⟨fl,xs⟩:=x
  cases fl with
  | false=>exact h.elim
  | true =>
   intro J H1 s1 W
   have h:yr X.mg X.K E B H σ δ (turns tg rb xs δ) D:=h
   have h1:=yr.later h (Frm.grow (σ:=σ) s1)
   refine⟨fun i m σ' H'=>m=xs.length-i/\i <= xs.length/\∃ δ',Rl X.mg X.K B H' σ' δ'/\Frm B σ δ H1 σ' δ' H'/\yr X.mg X.K E B H' σ' δ' (turns tg rb (xs.drop i) δ') D,⟨xs.length,by lia,Nat.zero_le _,δ,R.more s1,Frm.refl,h1⟩,?_⟩
   rintro i m σ' H' ⟨rfl,hi,δ',R',f',h'⟩
   by_cases hlt:i<xs.length
   ·right
    have hx:xs[i]?=some xs[i]:=List.getElem?_eq_getElem hlt
    rw[List.drop_eq_getElem_cons hlt] at h'
    unfold turns at h'
    cases hp:tg.put xs[i] δ' with
    | none=>rw[hp] at h';exact h'.elim
    | some δ2 =>
     rw[hp] at h'
     obtain⟨go,yl⟩:=W.1 B i xs[i] σ' δ' δ2 H' hx R' (Kp.of f') hp
     refine⟨go,fun σ2 H2=>i+1 <= xs.length/\∃ δ3,Rl X.mg X.K B H2 σ2 δ3/\Frm B σ δ H1 σ2 δ3 H2/\yr X.mg X.K E B H2 σ2 δ3 (turns tg rb (xs.drop (i+1)) δ3) D,fun σ2 H2 ⟨q1,δ3,q2,q3,q4⟩=>⟨xs.length-(i+1),by lia,rfl,q1,δ3,q2,q3,q4⟩,fun v H3 hy=>?_⟩
     refine yl v H3 hy _ fun σ2 H4 R2 f2 _ _=>⟨B,δ2,R2,?_⟩
     have f4:=f'.trans f2
     dsimp only at h'
     cases hb:rb δ2 with
     | nx δ3=>rw[hb] at h';exact fun σ3 H5 R3 f3=>⟨hlt,δ3,R3,f4.trans f3,yr.later h' (f2.trans f3)⟩
     | ct δ3=>rw[hb] at h';exact fun σ3 H5 R3 f3=>⟨hlt,δ3,R3,f4.trans f3,yr.later h' (f2.trans f3)⟩
     | bk δ3=>rw[hb] at h';exact fun σ3 H5 R3 f3=>h' σ3 H5 R3 (f2.trans f3)
     | rt d k=>rw[hb] at h';exact h'
     | er c=>rw[hb] at h';exact h'
     | no=>rw[hb] at h';exact h'
   ·left
    have e:i=xs.length:=by lia
    subst e
    rw[List.drop_length] at h'
    exact⟨W.2 B _ σ' δ' H' (Nat.le_refl _) R' (Kp.of f'),h' σ' H' R' Frm.refl⟩
theorem qda {c:Expr}{body:List Stmt}{t:RT}{rb:RS} (G:Gd X E) (hc:PT X c (TTx X E t)) (hb:PSs X body (TSx X E rb)):PS X (.While c body [] pos) (TSx X E (VY t rb)):=by
 refine vp (qdh G.own hc hb) fun D σ H ⟨B,δ,R,h⟩=>?_
 have hn:∃ n,yr X.mg X.K E B H σ δ (wl t rb n δ) D:=by
  unfold VY at h
  split at h
  ·exact⟨_,h⟩
  ·exact h.elim
 obtain⟨n,h⟩:=hn
 refine⟨fun m σ' H'=>∃ δ',Rl X.mg X.K B H' σ' δ'/\yr X.mg X.K E B H' σ' δ' (wl t rb m δ') D,⟨n,δ,R,h⟩,?_⟩
 rintro m σ' H' ⟨δ',R',h'⟩
 refine⟨B,δ',R',?_⟩
 cases m with
 | zero=>exact h'.elim
 | succ m =>
  unfold wl at h'
  cases ht:t δ' with
  | er c=>rw[ht] at h';exact ZR R' h'
  | no=>rw[ht] at h';exact h'
  | ok x =>
   rw[ht] at h'
   intro H1 s1
   cases x with
   | false=>exact h' σ' H1 (R'.more s1) (Frm.grow s1)
   | true =>
    simp only[if_true] at h' ⊢
    refine⟨fun σ2 H2=>∃ δ2,Rl X.mg X.K B H2 σ2 δ2/\yr X.mg X.K E B H2 σ2 δ2 (wl t rb m δ2) D,fun σ2 H2 q=>⟨m,Nat.lt_succ_self _,q⟩,B,δ',R'.more s1,?_⟩
    cases hb:rb δ' with
    | nx δ3=>rw[hb] at h';exact fun σ3 H5 R3 f3=>⟨δ3,R3,yr.later h' ((Frm.grow s1).trans f3)⟩
    | ct δ3=>rw[hb] at h';exact fun σ3 H5 R3 f3=>⟨δ3,R3,yr.later h' ((Frm.grow s1).trans f3)⟩
    | bk δ3=>rw[hb] at h';exact fun σ3 H5 R3 f3=>h' σ3 H5 R3 ((Frm.grow s1).trans f3)
    | rt d k=>rw[hb] at h';exact h'
    | er c=>rw[hb] at h';exact h'
    | no=>rw[hb] at h';exact h'
end
section
variable {mg:Str->Option Value}{E:XK}{H:Hp}{α:Type}{d d' d2:D}{k:α->Prop}
theorem qg2 {f:Int->Rs α} (h:qo mg E H (match d with | .int i=>f i | _=>.no) k):∃ i,d = .int i/\qo mg E H (f i) k:=by
 cases d with
 | int i=>exact⟨i,rfl,h⟩
 | _=>exact h.elim
theorem qhJ {f:Int->Int->Rs α} (h:qo mg E H (match d,d' with | .int i,.int j=>f i j | _,_=>.no) k):∃ i j,d = .int i/\d' = .int j/\qo mg E H (f i j) k:=by
 cases d with
 | int i =>
  cases d' with
  | int j=>exact⟨i,j,rfl,rfl,h⟩
  | _=>exact h.elim
 | _=>exact h.elim
theorem qgL {f:List D->List D->Rs α} (h:qo mg E H (match d,d' with | .lst i,.lst j=>f i j | _,_=>.no) k):∃ i j,d = .lst i/\d' = .lst j/\qo mg E H (f i j) k:=by
 cases d with
 | lst i =>
  cases d' with
  | lst j=>exact⟨i,j,rfl,rfl,h⟩
  | _=>exact h.elim
 | _=>exact h.elim
theorem qgS {f:Int->Int->Int->Rs α} (h:qo mg E H (match d,d',d2 with | .int i,.int j,.int c=>f i j c | _,_,_=>.no) k):∃ i j c,d = .int i/\d' = .int j/\d2 = .int c/\qo mg E H (f i j c) k:=by
 cases d with
 | int i =>
  cases d' with
  | int j =>
   cases d2 with
   | int c=>exact⟨i,j,c,rfl,rfl,rfl,h⟩
   | _=>exact h.elim
  | _=>exact h.elim
 | _=>exact h.elim
end
section
variable {mg:Str->Option Value}{K:PySem.W.Frag}{B:Bs}{H H1 H2 H':Hp}{σ σ':St}{δ δ' δ2:Dl}{v:V}{d:D}{i j:Nat}{k:Kd}
theorem Vr {fl:Bool}{B':Bs} (f:Kp fl B B' σ δ H1 σ' δ' H2) (hk:d.sc=true\/k ≠ .bo) (r:Rp mg K (Gk B σ δ k) H1 v d):Rp mg K (Gk B' σ' δ' k) H2 v d:=by
 rcases hk with c | hk
 ·rw[r.sc c]
  exact Rp.wX c
 obtain⟨f0,f2,f3⟩:=f
 refine Rp.mono (fun a g=>?_) d v (Rp.there _ _ r)
 obtain⟨g,n⟩:=g
 have viaOwn:¬ vx B σ δ a->¬ vx B' σ' δ' a/\∀ o,H1 a=some o->H2 a=some o:=fun no=>by
  cases e:H1 a with
  | none=>exact absurd e n
  | some o=>exact⟨(f2 a o e no).2,fun o' e'=>by cases e';exact (f2 a o e no).1⟩
 cases k with
 | bo=>exact absurd rfl hk
 | sh=>exact viaOwn g
 | nw=>exact⟨⟨(viaOwn g.1).1,by rw[f0];exact g.2⟩,(viaOwn g.1).2⟩
 | fr=>exact⟨⟨(viaOwn g.1).1,by rw[f0];exact g.2⟩,(viaOwn g.1).2⟩
theorem jV (h:put i (d,k) δ=some δ'):d.sc=true\/k ≠ .bo:=by
 cases k with
 | bo =>
  have h2:(if d.sc=true then some (δ.set i (.val d true)) else none)=some δ':=h
  by_cases c:d.sc=true
  ·exact .inl c
  ·rw[if_neg c] at h2
   cases h2
 | sh=>exact .inr fun z=>nomatch z
 | nw=>exact .inr fun z=>nomatch z
 | fr=>exact .inr fun z=>nomatch z
theorem qcx (f:Frm B σ δ H1 σ' δ' H2) (hk:d.sc=true\/k ≠ .bo) (r:Rp mg K (Gk B σ δ k) H1 v d):Rp mg K (Gk B σ' δ' k) H2 v d:=Vr (Kp.of f) hk r
theorem VL (R:Rl mg K B H σ δ) (r:Rp mg K (Gk B σ δ k) H v d) (h:put i (d,k) δ=some δ'):Rl mg K B H (σ.set i (some v)) δ'/\Frm B σ δ H (σ.set i (some v)) δ' H:=by
 have fin:∀ b:Bool,δ'=δ.set i (.val d b)->Rp mg K (fun a=>¬ vx B σ δ a/\(b=true->B.H0 a=none)) H v d->Rl mg K B H (σ.set i (some v)) δ'/\Frm B σ δ H (σ.set i (some v)) δ' H:=fun b e q=>by
  rw[e]
  exact⟨R.U9 q,jK⟩
 cases c:d.sc with
 | true =>
  have e:=r.sc c
  subst e
  refine fin true ?_ (Rp.wX c)
  cases k with
  | bo =>
   have h2:(if d.sc=true then some (δ.set i (.val d true)) else none)=some δ':=h
   rw[if_pos c] at h2
   exact (Option.some.inj h2).symm
  | sh =>
   have h2:some (δ.set i (xy (d,if d.sc=true then .nw else .sh)))=some δ':=h
   rw[if_pos c] at h2
   exact (Option.some.inj h2).symm
  | nw =>
   have h2:some (δ.set i (xy (d,if d.sc=true then .nw else .nw)))=some δ':=h
   rw[if_pos c] at h2
   exact (Option.some.inj h2).symm
  | fr =>
   have h2:some (δ.set i (xy (d,if d.sc=true then .nw else .fr)))=some δ':=h
   rw[if_pos c] at h2
   exact (Option.some.inj h2).symm
 | false =>
  have cn:¬ (d.sc=true):=by rw[c];decide
  cases k with
  | bo =>
   have h2:(if d.sc=true then some (δ.set i (.val d true)) else none)=some δ':=h
   rw[if_neg cn] at h2
   cases h2
  | sh =>
   have h2:some (δ.set i (xy (d,if d.sc=true then .nw else .sh)))=some δ':=h
   rw[if_neg cn] at h2
   exact fin false (Option.some.inj h2).symm (r.weak fun a g=>⟨g,fun z=>nomatch z⟩)
  | nw =>
   have h2:some (δ.set i (xy (d,if d.sc=true then .nw else .nw)))=some δ':=h
   rw[if_neg cn] at h2
   exact fin true (Option.some.inj h2).symm (r.weak fun a g=>⟨g.1,fun _=>g.2⟩)
  | fr =>
   have h2:some (δ.set i (xy (d,if d.sc=true then .nw else .fr)))=some δ':=h
   rw[if_neg cn] at h2
   exact fin true (Option.some.inj h2).symm (r.weak fun a g=>⟨g.1,fun _=>g.2⟩)
end
section
variable {X:Cx}{E:XK}{pos:Pos}{tgE:Expr}
theorem y1 {tg iter:Expr}{w w':TI} (h:PI X tg iter w) (i:∀ σ H R,w' σ H R->w σ H R):PI X tg iter w':=fun pins s σ H R I hw=>h pins s σ H R I (i σ H R hw)
theorem Z9 {k:Kd} (h:k.safe=true):k ≠ .bo:=fun z=>by rw[z] at h;cases h
theorem qaX {k:Kd} (h:k ≠ .bo):k.low .nw ≠ .bo:=by cases k <;> first | exact absurd rfl h | exact fun z=>nomatch z
theorem qcP {B:Bs}{σ:St}{δ:Dl}{k:Kd}{a:Addr} (h:k ≠ .bo) (g:Gk B σ δ k a):¬ vx B σ δ a:=by
 cases k with
 | bo=>exact absurd rfl h
 | sh=>exact g
 | nw=>exact g.1
 | fr=>exact g.1
theorem jI {mg:Str->Option Value}{K:PySem.W.Frag}{B:Bs}{H1:Hp}{σ:St}{δ:Dl}{k:Kd}{v:V}{ds:List D}{fl:Bool} (hk:fl=true->k ≠ .bo) (r:Rp mg K (Gk B σ δ k) H1 v (.lst ds)):∃ a vs,v = .ref a/\SqL K H1 a vs/\qv mg K (Gk B σ δ k) H1 vs ds /\
  ∀ (B':Bs) (H2:Hp) (σ':St) (δ':Dl),Kp fl B B' σ δ H1 σ' δ' H2->SqL K H2 a vs:=by
 cases r with
 | lst g s q =>
  refine⟨_,_,rfl,.inl s,q,fun B' H2 σ' δ' f=>.inl (qb2 s fun o e=>?_)⟩
  cases fl with
  | true=>exact (f.2.1 _ o e (qcP (hk rfl) g)).1
  | false=>exact f.2.2 rfl _ o e
 | lstK s q=>exact⟨_,_,rfl,s _,q,fun B' H2 _ _ _=>s H2⟩
theorem uK {i:Nat}{iter:Expr}{r:RE} (hl:PE X iter (TEx X E r)):PI X tgE iter (tI X E (w4 i) (.one i) (iOf r)):=by
 refine y1 (qdR hl) fun σ H R ⟨B,δ,R0,h⟩=>⟨B,δ,R0,?_⟩
 refine qo.imp (qo.bind h) fun x h1 v H1 s1 vr=>?_
 obtain⟨d,k⟩:=x
 have vr:VR X.mg X.K B H H1 σ δ k v d:=vr
 cases d with
 | lst ds =>
  have h2:=h1
  have hk:k.safe=true->k.low .nw ≠ .bo:=fun z=>qaX (Z9 z)
  have rp:=VR.low R0 .nw vr
  rw[VR.gk (low_ne _ _)] at rp
  obtain⟨a,vs,rfl,sq,ra,st⟩:=jI (fl:=k.safe) hk rp
  refine⟨a,rfl,⟨vs,sq⟩,h2 (Itl X.K a) H1 s1 ⟨fun B' n x σ' δ' δ2 H2 hx R' f hp=>?_,fun B' n σ' δ' H2 hn R' f=>⟨vs,st B' H2 σ' δ' f,by rw[ra.len];simpa using hn⟩⟩⟩
  have sq2:=st B' H2 σ' δ' f
  rw[List.getElem?_map] at hx
  cases hd:ds[n]? with
  | none=>rw[hd] at hx;cases hx
  | some d =>
   rw[hd] at hx
   cases hx
   obtain⟨w,hw,rw'⟩:=ra.getD hd
   refine⟨⟨vs,w,sq2,hw⟩,fun u H3 hy Q hQ=>?_⟩
   obtain⟨rfl,hu⟩:=hy
   have e:=hu vs sq2
   rw[hw] at e
   cases e
   have q:=VL R' (Vr f (jV (show put i (d,k.low .nw) δ'=some δ2 from hp)) rw') hp
   exact hQ _ _ q.1 q.2 qy.refl ⟨_,rfl⟩
 | _=>exact h1.elim
theorem jd {i:Nat}{a:Expr}{r:RE}{p:Pos} (hg:Gl X "range") (hm:X.mg "range"=none) (ha:PE X a (TEx X E r)) (hs:autoParam (starEach [a] X.env=[(false,eval a X.env)]) qt._auto_1):PI X tgE (.Call (.Name "range" p) [a] [] pos) (tI X E (w4 i) (.one i) (wA r)):=by
 refine y1 (ZH hg hm (vQ ha zS hs) hs) fun σ H R ⟨B,δ,R0,h⟩=>⟨B,δ,R0,?_⟩
 refine qo.imp (qo.bind h) fun x h1 v H1 s1 vr=>?_
 obtain⟨d,k⟩:=x
 have vr:VR X.mg X.K B H H1 σ δ k v d:=vr
 obtain⟨z,e,g9⟩:=qg2 h1
 clear h1
 subst e
 by_cases c : -1000000<z/\z<1000000
 ·rw[if_pos c] at g9
  have ev:=vf R0 vr
  subst ev
  refine⟨z,rfl,by lia,by lia,g9 _ H1 s1 ⟨fun B' n x σ' δ' δ2 H2 hx R' f hp=>?_,fun B' n σ' δ' H2 hn R' f=>(show z.toNat <= n by rw[List.length_map,List.length_range] at hn;exact hn)⟩⟩
  rw[List.getElem?_map] at hx
  cases hd:(List.range z.toNat)[n]? with
  | none=>rw[hd] at hx;cases hx
  | some m =>
   rw[hd] at hx
   cases hx
   obtain⟨hlt,e⟩:=List.getElem?_eq_some_iff.mp hd
   rw[List.length_range] at hlt
   rw[List.getElem_range] at e
   subst e
   refine⟨hlt,fun u H3 hy Q hQ=>?_⟩
   obtain⟨rfl,rfl⟩:=hy
   have hp:put i (D.int (n:Nat),.nw) δ'=some δ2:=hp
   have q:=VL (v:=.int (0+(n:Nat))) R' (by rw[Int.zero_add];exact Rp.int _) hp
   exact hQ _ _ q.1 q.2 qy.refl ⟨_,rfl⟩
 ·rw[if_neg c] at g9
  exact g9.elim
theorem qb8 {K:PySem.W.Frag}{mg:Str->Option Value}{B B':Bs}{H1 H2:Hp}{σ σ':St}{δ δ' δ2:Dl}{i j:Nat}{k:Kd}{x y:V}{dx dy:D}{T:Addr}{fl:Bool} (R':Rl mg K B' H2 σ' δ') (f:Kp fl B B' σ δ H1 σ' δ' H2) (rx:Rp mg K (Gk B σ δ k) H1 x dx) (ry:Rp mg K (Gk B σ δ k) H1 y dy) (hT:H2 T=none)
  (hp:(Tg.two i j).put (.tup [dx,dy],k) δ'=some δ2) (Q:St->Hp->Prop) (hQ:∀ σ2 H4,Rl mg K B' H4 σ2 δ2->Frm B' σ' δ' H2 σ2 δ2 H4->qy H2 H4->(Tg.two i j).sets σ' σ2->Q σ2 H4) :
  qdZ K 2 (V9 (w4 i) (V9 (w4 j) qeg)) (.ref T) σ' (upd H2 T (.tup [x,y])) Q:=by
 have s2:=vX (o:=.tup [x,y]) hT
 have hp:(put i (dx,k) δ').bind (put j (dy,k))=some δ2:=hp
 cases h1:put i (dx,k) δ' with
 | none=>rw[h1] at hp;cases hp
 | some δ1 =>
  rw[h1] at hp
  have hp:put j (dy,k) δ1=some δ2:=hp
  have q1:=VL (R'.more s2) ((Vr f (jV h1) rx).same s2) h1
  have ry2:Rp mg K (Gk B' (σ'.set i (some x)) δ1 k) (upd H2 T (.tup [x,y])) y dy:=qcx q1.2 (jV hp) ((Vr f (jV hp) ry).same s2)
  have q2:=VL q1.1 ry2 hp
  refine⟨T,[x,y],rfl,SqT.of qL,rfl,x,[y],rfl,y,[],rfl,rfl,?_⟩
  exact hQ _ _ q2.1 ((Frm.grow s2).trans (q1.2.trans q2.2)) s2 ⟨_,_,rfl⟩
theorem Vx {i j:Nat}{e e2:Expr}{r q:RE}{p tpos:Pos}{elts:List Expr}{kk:Nat} (hg:Gl X "zip") (hm:X.mg "zip"=none) (ha:PE X e (TEx X E r)) (hb:PE X e2 (TEx X E q))
  (hs:autoParam (starEach [e,e2] X.env=(false,eval e X.env)::starEach [e2] X.env) qt._auto_1) (hs2:autoParam (starEach [e2] X.env=(false,eval e2 X.env)::starEach [] X.env) qt._auto_1) (hpl:autoParam ((backTo pos (starEach [e2] X.env)).any (·.1)=false) qt._auto_1) :
  PI X (.Tuple elts kk tpos) (.Call (.Name "zip" p) [e,e2] [] pos) (tI X E (qdZ X.K 2 (V9 (w4 i) (V9 (w4 j) qeg))) (.two i j) (j6 r q)):=by
 refine y1 (qfr hg hm (vQ ha (vQ hb zS hs2) hs) hs hpl) fun σ H R ⟨B,δ,R0,h⟩=>⟨B,δ,R0,?_⟩
 refine qo.imp (qo.bind h) fun x h1 v H1 s1 vr=>⟨B,δ,R0.more s1,?_⟩
 refine qo.imp (qo.more (qo.bind h1) s1) fun y h2 w H2 s2 vw=>?_
 obtain⟨d,k⟩:=x
 obtain⟨d',k'⟩:=y
 have vr:VR X.mg X.K B H H1 σ δ k v d:=vr
 have vw:VR X.mg X.K B H1 H2 σ δ k' w d':=vw
 obtain⟨xs,ys,e,e2,g9⟩:=qgL h2
 clear h2
 subst e e2
 have h3:=g9
 have hkk:(k.safe&&k'.safe)=true->k.low k' ≠ .bo:=fun z=>by
  rw[Bool.and_eq_true] at z
  have hk:=Z9 z.1
  have hk':=Z9 z.2
  cases k <;> cases k' <;> first | exact absurd rfl hk | exact absurd rfl hk' | exact fun z=>nomatch z
 have rx:=VR.low R0 k' (vr.later s2)
 have ry:=VR.qg5 (R0.more s1) k vw
 rw[VR.gk (low_ne _ _)] at rx ry
 obtain⟨a,vs,rfl,sqa,ra,sta⟩:=jI (fl:=k.safe&&k'.safe) hkk rx
 obtain⟨b,us,rfl,sqb,rb,stb⟩:=jI (fl:=k.safe&&k'.safe) hkk ry
 refine⟨a,b,vs,us,rfl,sqa,sqb,h3 (Itz X.K a b) H2 (s1.trans s2) ⟨fun B' n x σ' δ' δ2 H3 hx R' f hp=>?_,fun B' n σ' δ' H3 hn R' f=>⟨vs,us,sta B' H3 σ' δ' f,stb B' H3 σ' δ' f,?_⟩⟩⟩
 ·rw[List.getElem?_map] at hx
  cases hd:(xs.zip ys)[n]? with
  | none=>rw[hd] at hx;cases hx
  | some pr =>
   rw[hd] at hx
   cases hx
   rw[List.getElem?_zip_eq_some] at hd
   obtain⟨x,hx,rx'⟩:=ra.getD hd.1
   obtain⟨y,hy,ry'⟩:=rb.getD hd.2
   have sa:=sta B' H3 σ' δ' f
   have sb:=stb B' H3 σ' δ' f
   refine⟨⟨vs,us,x,y,sa,sb,hx,hy⟩,fun u H4 hyl Q hQ=>?_⟩
   obtain⟨T,x2,y2,rfl,hT,rfl,e1,e2⟩:=hyl
   have e1:=e1 vs sa
   have e2:=e2 us sb
   rw[hx] at e1
   rw[hy] at e2
   cases e1
   cases e2
   exact qb8 R' f rx' ry' hT hp Q hQ
 ·rw[List.length_map,List.length_zip] at hn
  rw[ra.len,rb.len]
  lia
end
section
variable {X:Cx}{E:XK}{pos:Pos}
noncomputable def spD (mg:Str->Option Value) (K:PySem.W.Frag) (n:Nat) (g:Fn):Sp:=fun vs H Q E=>∃ ds:List D,ds.length=n/\qv mg K (fun _=>True) H vs ds/\qo mg E H (g ds) fun y=>∀ v H',qy H H'->RR mg K H H' y.2 v y.1->Q v H'
noncomputable def Fd (P:Program) (w:World) (K:PySem.W.Frag) (mg:Str->Option Value) (base:Heap) (k:Nat) (x:Str) (n:Nat) (g:Fn):Prop :=
 ∃ (f:Addr) (fd:FuncData) (ps:List Str),xX P w K mg base (CX1 P w) k f fd ps (spD mg K n g)/\mg x=some (.ref f)/\PySem.W.keepIn K (.ref f)=true/\Binds K fd ps []
theorem qef {r:RA}{g:Fn}{n:Nat}{σ:St}{H:Hp}{Q:VK} (hn:∀ δ xs,r δ = .ok xs->xs.length=n) (h:TEx X E (qi g r) σ H Q):qbM (spD X.mg X.K n g) [] E (TAx X E r) σ H Q:=by
 obtain⟨B,δ,R,h⟩:=h
 refine⟨B,δ,R,?_⟩
 have e:∀ xs,r δ = .ok xs->xs.length=n:=fun xs=>hn δ xs
 cases hr:r δ with
 | er c =>
  unfold qi at h
  rw[hr] at h
  exact h
 | no =>
  unfold qi at h
  rw[hr] at h
  exact h
 | ok xs =>
  unfold qi at h
  rw[hr] at h
  intro vs H1 s1 vrs
  refine⟨xs.map (·.1),by rw[List.length_map];exact e xs hr,by rw[List.append_nil];exact vrs.rp R,?_⟩
  refine qo.imp (qo.more (qo.bind h) s1) fun y q v H2 s2 rr=>?_
  refine q v H2 (s1.trans s2) ?_
  show VR _ _ _ _ _ _ _ (kB y.2) _ _
  have R1:=R.more s1
  cases hb:y.2 with
  | true =>
   rw[hb] at rr
   obtain⟨p,ds,a,b,c,e1,e2⟩:=rr
   exact⟨p,ds,a,b,c,s1.free e1,e2⟩
  | false =>
   rw[hb] at rr
   exact Rp.weak rr fun a g=>⟨R1.fresh g,R1.same.free g⟩
inductive qba:RA->Nat->Prop
 | nil:qba qk 0
 | cons {r:RE}{rr:RA}{n:Nat}:qba rr n->qba (qd r rr) (n+1)
theorem qba.is {r:RA}{n:Nat} (h:qba r n):∀ δ xs,r δ = .ok xs->xs.length=n:=by
 induction h with
 | nil=>intro δ xs e;cases e;rfl
 | @cons r rr n _ ih =>
  intro δ xs e
  unfold qd at e
  cases h1:r δ with
  | er c=>rw[h1] at e;cases e
  | no=>rw[h1] at e;cases e
  | ok x =>
   rw[h1] at e
   cases h2:rr δ with
   | er c=>rw[Rs.qP,h2] at e;cases e
   | no=>rw[Rs.qP,h2] at e;cases e
   | ok ys =>
    rw[Rs.qP,h2] at e
    cases e
    rw[List.length_cons,ih δ ys h2]
theorem qp {x:Str}{p:Pos}{e:Expr}{es:List Expr}{r:RA}{g:Fn}{n k:Nat} (acc:Acc X E) (F:Fd X.prog X.w X.K X.mg X.base k x n g) (hr:wN k X.A) (hg:Gl X x) (hn:qba r n) (ha:PA X (e::es) (TAx X E r))
  (hdb:autoParam ((x==("__debug__":Str))=false) vd._auto_1) (he:autoParam (starEach (e::es) X.env=(false,eval e X.env)::starEach es X.env) qt._auto_1) (hpl:autoParam ((backTo pos (starEach es X.env)).any (·.1)=false) qt._auto_1) :
  PE X (.Call (.Name x p) (e::es) [] pos) (TEx X E (qi g r)):=by
 obtain⟨f,fd,ps,F,hm,hk,hb⟩:=F
 exact vq (YN F hr hg hm hk hb .nil (xr acc) ha hdb he hpl) fun σ H Q h=>qef hn.is h
noncomputable def Zt (X:Cx) (f:List DK->Rs DK) (rr:List V->Hp->VK->Prop):Prop:=∀ (B:Bs) (H H':Hp) (σ:St) (δ:Dl) (vs:List V) (xs:List DK) (Q:VK) (E:XK),Rl X.mg X.K B H σ δ->qy H H'->VRs X.mg X.K B H H' σ δ vs xs->Fin X.mg X.K E B H' σ δ (f xs) Q->rr vs H' Q
theorem zg {e:Expr}{r:RA}{f:List DK->Rs DK}{rr:List V->Hp->VK->Prop} (h:PE X e (tCB rr (TAx X E r))) (F:Zt X f rr):PE X e (TEx X E (vM f r)) :=
 vq h fun σ H Q ⟨B,δ,R,h⟩=>ZY R h fun xs vs H1 s1 vrs h1=>F B H H1 σ δ vs xs Q E R s1 vrs h1
theorem qfU {mg:Str->Option Value}{K:PySem.W.Frag}{B:Bs}{H H':Hp}{σ:St}{δ:Dl}{vs:List V}{x:DK} (h:VRs mg K B H H' σ δ vs [x]):∃ v,vs=[v]/\VR mg K B H H' σ δ x.2 v x.1:=by
 cases h with
 | cons a b=>cases b;exact⟨_,rfl,a⟩
theorem qhN {mg:Str->Option Value}{K:PySem.W.Frag}{B:Bs}{H H':Hp}{σ:St}{δ:Dl}{vs:List V}{x y:DK} (h:VRs mg K B H H' σ δ vs [x,y]):∃ v w,vs=[v,w]/\VR mg K B H H' σ δ x.2 v x.1/\VR mg K B H H' σ δ y.2 w y.1:=by
 cases h with
 | cons a b=>cases b with | cons c d=>cases d;exact⟨_,_,rfl,a,c⟩
theorem yg:Zt X wO (fun xs H Q=>∃ p ys,xs=[.ref p]/\(SqL X.K H p ys\/SqT X.K H p ys)/\Q (.int ys.length) H):=by
 intro B H H' σ δ vs xs Q E R s vr h
 match xs,vr,h with
 | [(.lst l,k)],vr,h =>
  obtain⟨v,rfl,r⟩:=qfU vr
  obtain⟨a,us,rfl,q,g⟩:=VR.items R r
  exact⟨a,us,rfl,.inl q,by rw[g.len];exact h _ H' qy.refl (VR.int _)⟩
 | [(.tup l,k)],vr,h =>
  obtain⟨v,rfl,r⟩:=qfU vr
  obtain⟨a,us,rfl,q,g⟩:=VR.qcB R r
  exact⟨a,us,rfl,.inr q,by rw[g.len];exact h _ H' qy.refl (VR.int _)⟩
 | [],_,h=>exact h.elim
 | [(.int _,_)],_,h=>exact h.elim
 | [(.bl _,_)],_,h=>exact h.elim
 | [(.non,_)],_,h=>exact h.elim
 | [(.fn _,_)],_,h=>exact h.elim
 | [(.obj _ _ _,_)],_,h=>exact h.elim
 | (.lst _,_)::_::_,_,h=>exact h.elim
 | (.tup _,_)::_::_,_,h=>exact h.elim
 | (.int _,_)::_::_,_,h=>exact h.elim
 | (.bl _,_)::_::_,_,h=>exact h.elim
 | (.non,_)::_::_,_,h=>exact h.elim
 | (.fn _,_)::_::_,_,h=>exact h.elim
 | (.obj _ _ _,_)::_::_,_,h=>exact h.elim
theorem qfy:Zt X qfj (fun xs H Q=>∃ i,xs=[.int i]/\Q (.int (if i<0 then -i else i)) H):=by
 intro B H H' σ δ vs xs Q E R s vr h
 match xs,vr,h with
 | [(.int i,k)],vr,h =>
  obtain⟨v,rfl,r⟩:=qfU vr
  exact⟨i,by rw[vf R r],h _ H' qy.refl (VR.int _)⟩
 | [],_,h=>exact h.elim
 | [(.lst _,_)],_,h=>exact h.elim
 | [(.tup _,_)],_,h=>exact h.elim
 | [(.bl _,_)],_,h=>exact h.elim
 | [(.non,_)],_,h=>exact h.elim
 | [(.fn _,_)],_,h=>exact h.elim
 | [(.obj _ _ _,_)],_,h=>exact h.elim
 | (.lst _,_)::_::_,_,h=>exact h.elim
 | (.tup _,_)::_::_,_,h=>exact h.elim
 | (.int _,_)::_::_,_,h=>exact h.elim
 | (.bl _,_)::_::_,_,h=>exact h.elim
 | (.non,_)::_::_,_,h=>exact h.elim
 | (.fn _,_)::_::_,_,h=>exact h.elim
 | (.obj _ _ _,_)::_::_,_,h=>exact h.elim
theorem qbZ {f:List DK->Rs DK}{g:Int->Int->Int} (h1:∀ i j k l,f [(.int i,k),(.int j,l)] = .ok (.int (g i j),.nw)) (h2:∀ xs,(∀ i j k l,xs≠[(.int i,k),(.int j,l)])->f xs = .no):Zt X f (fun xs H Q=>∃ i j,xs=[.int i,.int j]/\Q (.int (g i j)) H):=by
 intro B H H' σ δ vs xs Q E R s vr h
 by_cases c:∃ i j k l,xs=[(.int i,k),(.int j,l)]
 ·obtain⟨i,j,k,l,rfl⟩:=c
  obtain⟨v,w,rfl,r1,r2⟩:=qhN vr
  rw[h1] at h
  exact⟨i,j,by rw[vf R r1,vf R r2],h _ H' qy.refl (VR.int _)⟩
 ·rw[h2 xs fun i j k l e=>c ⟨i,j,k,l,e⟩] at h
  exact h.elim
theorem qcF {f:List DK->Rs DK}{xs:List DK} (h0:f [] = .no) (h1:∀ x,f [x] = .no) (h2:∀ x y,(∀ i j k l,[x,y]≠[(.int i,k),(.int j,l)])->f [x,y] = .no) (h3:∀ x y z r,f (x::y::z::r) = .no) (h:∀ i j k l,xs≠[(.int i,k),(.int j,l)]):f xs = .no:=by
 match xs,h with
 | [],_=>exact h0
 | [x],_=>exact h1 x
 | [x,y],h=>exact h2 x y h
 | x::y::z::r,_=>exact h3 x y z r
theorem qcs:Zt X UZ (fun xs H Q=>∃ i j,xs=[.int i,.int j]/\Q (.int (if j>i then j else i)) H) :=
 qbZ (fun _ _ _ _=>rfl) fun xs h=>qcF rfl (fun⟨x,k⟩=>by cases x <;> rfl) (fun⟨x,k⟩ ⟨y,l⟩ h=>by cases x <;> cases y <;> first | rfl | exact absurd rfl (h _ _ _ _)) (fun⟨x,k⟩ ⟨y,l⟩ z r=>by cases x <;> cases y <;> rfl) h
theorem qfu:Zt X qfh (fun xs H Q=>∃ i j,xs=[.int i,.int j]/\Q (.int (if j<i then j else i)) H) :=
 qbZ (fun _ _ _ _=>rfl) fun xs h=>qcF rfl (fun⟨x,k⟩=>by cases x <;> rfl) (fun⟨x,k⟩ ⟨y,l⟩ h=>by cases x <;> cases y <;> first | rfl | exact absurd rfl (h _ _ _ _)) (fun⟨x,k⟩ ⟨y,l⟩ z r=>by cases x <;> cases y <;> rfl) h
end
section
variable {X:Cx}{E:XK}{pos:Pos}
theorem qaS {vs:List V}{us:List Value} (h:Vals vs us) (js:List Nat):Vals (js.filterMap (vs[·]?)) (js.filterMap (us[·]?)):=by
 induction js with
 | nil=>exact .nil
 | cons j js ih =>
  cases e:vs[j]? with
  | none=>rw[List.filterMap_cons,List.filterMap_cons];simp only[e,h.none_of e];exact ih
  | some v =>
   obtain⟨u,e2,r⟩:=h.get e
   rw[List.filterMap_cons,List.filterMap_cons]
   simp only[e,e2]
   exact .cons r ih
theorem qdK {mg:Str->Option Value}{K:PySem.W.Frag}{G:Addr->Prop}{H:Hp}{vs:List V}{ds:List D} (h:qv mg K G H vs ds) (js:List Nat):qv mg K G H (js.filterMap (vs[·]?)) (js.filterMap (ds[·]?)):=by
 induction js with
 | nil=>exact .nil
 | cons j js ih =>
  cases e:vs[j]? with
  | none =>
   have e2:ds[j]?=none:=by
    rw[List.getElem?_eq_none_iff] at e ⊢
    rw[<- h.len]
    exact e
   rw[List.filterMap_cons,List.filterMap_cons];simp only[e,e2];exact ih
  | some v =>
   obtain⟨d,e2,r⟩:=h.get e
   rw[List.filterMap_cons,List.filterMap_cons]
   simp only[e,e2]
   exact .cons r ih
theorem qdO {α:Type} (xs:List α) (lo hi st:Option Int) (h0:st≠some 0):(pick xs lo hi st).length <= xs.length:=by
 have e:∀ {β:Type} (f:α->β) ,((pick xs lo hi st).map f)=pick (xs.map f) lo hi st:=fun {β} f=>by
  unfold pick
  rw[List.length_map,List.map_filterMap]
  congr 1
  funext j
  rw[List.getElem?_map]
 have q:=PySem.slicePick_size_le (xs.map fun _=>Value.none).toArray lo hi st
 have e2:(slicePick (xs.map fun _=>Value.none).toArray lo hi st).size=(pick xs lo hi st).length:=by
  rw[<- List.length_map (f:=fun _=>Value.none),e (fun _=>Value.none)]
  unfold slicePick pick
  simp
 rw[e2] at q
 simpa using q
noncomputable def qhC (K:PySem.W.Frag):V->Option Int->Option Int->Option Int->Hp->VK->Prop:=fun x lo hi st H Q=>∃ a xs,x = .ref a/\SqL K H a xs/\st≠some 0/\∀ p,H p=none->Q (.ref p) (upd H p (.lst (pick xs lo hi st)))
noncomputable def qhk (K:PySem.W.Frag) (te:TE) (tl th ts:TO):TE:=fun σ H Q=>te σ H fun x H1=>tl σ H1 fun l H2=>th σ H2 fun u H3=>ts σ H3 fun st H4=>qhC K x l u st H4 Q
theorem qaI {e:Expr}{te:TE}{lo hi st:Option Expr}{tl th ts:TO}{p2:Pos} (he:PE X e te) (hl:PO X lo tl) (hu:PO X hi th) (hst:PO X st ts):PE X (.Subscript e (.Slice lo hi st p2) pos) (qhk X.K te tl th ts):=by
 intro pins s σ H Q I h
 refine Subscript_ (thn (he pins s σ H _ I h) fun v s1 ⟨x,H1,I1,r1,q1⟩=>?_)
 refine wpAny_Slice (thn (hl pins s1 σ H1 _ I1 q1) fun vl s2 ⟨l,H2,I2,pl,q2⟩=>thn (hu pins s2 σ H2 _ I2 q2) fun vu s3 ⟨u,H3,I3,pu,q3⟩=>thn (hst pins s3 σ H3 _ I3 q3) fun vk s4 ⟨k,H4,I4,pk,q4⟩=>?_)
 have I5:Inv X pins σ H4 {s4 with heap:=s4.heap.push {cls:=.type "slice",data:=.fields #[vl,vu,vk]} }:=I4.kept (t':=s4.toks) fun b ob q=>Heap.get?_push_of_some _ q
 obtain⟨a,xs,rfl,hx,h0,q⟩:=q4
 cases r1
 obtain⟨its,r,ht,hz⟩:=I5.list hx
 have hlen:=r.length
 show wpAny (model X.prog X.w) X.A (subscriptTail e (.Slice lo hi st p2) (.ref a) (.ref s4.heap.objs.size)) (EP X pins σ Q) X.xe {s4 with heap:=s4.heap.push {cls:=.type "slice",data:=.fields #[vl,vu,vk]} }
 have tail:∀ {Q':Value->Shared->Prop}{s':Shared},s'.TypeIs (.ref a) "list"->wpAny (model X.prog X.w) X.A (getItem (.ref a) (.ref s4.heap.objs.size)) Q' X.xe s'->wpAny (model X.prog X.w) X.A (subscriptTail e (.Slice lo hi st p2) (.ref a) (.ref s4.heap.objs.size)) Q' X.xe s':=fun {Q' s'} ty hg=>by
  cases st with
  | none=>exact tail_any (ops:=[.ref s4.heap.objs.size,.ref a]) ty slot_list_getitem.lookup hg (by with_unfolding_all rfl)
  | some z=>exact tail_any (ops:=[.ref a,.ref s4.heap.objs.size]) ty slot_list_getitem.lookup hg (by with_unfolding_all rfl)
 refine tail ht.isList.typeIs ?_
 refine wpAny_getItem_list_slice ht.isList (Heap.IsSliceOf.new ..) pl pu pk h0 ?_ (by rw[List.size_toArray];lia)
 have e:slicePick its.toArray l u k=(pick its l u k).toArray:=by
  unfold slicePick pick
  simp
 rw[e]
 have hv:Vals (pick xs l u k) (pick its l u k):=by
  unfold pick
  rw[hlen]
  exact qaS r _
 exact⟨.ref _,_,I5.qeu (t':=s4.toks) hv (Nat.le_trans (qdO xs l u k h0) hz),rfl,q _ I5.fresh⟩
noncomputable def tO (mg:Str->Option Value) (K:PySem.W.Frag) (E:XK) (r:RO):TO:=fun σ H Q=>∃ B δ,Rl mg K B H σ δ/\qo mg E H (r δ) fun x=>∀ H',qy H H'->Q x H'
noncomputable abbrev TOx (X:Cx) (E:XK) (r:RO):TO:=tO X.mg X.K E r
theorem qay {e:Option Expr}{t t':TO} (h:PO X e t) (i:∀ σ H Q,t' σ H Q->t σ H Q):PO X e t':=fun pins s σ H Q I hw=>h pins s σ H Q I (i σ H Q hw)
theorem qeS:PO X none (TOx X E Vd):=qay qdL fun σ H Q ⟨B,δ,R,h⟩=>h H qy.refl
theorem qaz {e:Expr}{r:RE} (h:PE X e (TEx X E r)):PO X (some e) (TOx X E (jS r)):=by
 refine qay (qeA h) fun σ H Q ⟨B,δ,R,h⟩=>⟨B,δ,R,?_⟩
 refine qo.imp (qo.bind h) fun x h1 v H1 s1 vr=>?_
 obtain⟨d,k⟩:=x
 have vr:VR X.mg X.K B H H1 σ δ k v d:=vr
 cases d with
 | int i=>exact⟨i,vf R vr,h1 H1 s1⟩
 | _=>exact h1.elim
theorem qc0 {e:Expr}{r:RE}{lo hi st:Option Expr}{rl rh rs:RO}{p2:Pos} (he:PE X e (TEx X E r)) (hl:PO X lo (TOx X E rl)) (hu:PO X hi (TOx X E rh)) (hst:PO X st (TOx X E rs)):PE X (.Subscript e (.Slice lo hi st p2) pos) (TEx X E (WK r rl rh rs)):=by
 refine vq (qaI he hl hu hst) fun σ H Q ⟨B,δ,R,h⟩=>⟨B,δ,R,?_⟩
 refine qo.imp (qo.bind h) fun x h1 v H1 s1 vr=>⟨B,δ,R.more s1,?_⟩
 refine qo.imp (qo.more (qo.bind h1) s1) fun l h2 H2 s2=>⟨B,δ,(R.more s1).more s2,?_⟩
 refine qo.imp (qo.more (qo.bind h2) (s1.trans s2)) fun u h3 H3 s3=>⟨B,δ,((R.more s1).more s2).more s3,?_⟩
 refine qo.imp (qo.more (qo.bind h3) ((s1.trans s2).trans s3)) fun k h4 H4 s4=>?_
 have sA:qy H H4:=((s1.trans s2).trans s3).trans s4
 obtain⟨d,kd⟩:=x
 have vr:VR X.mg X.K B H H1 σ δ kd v d:=vr
 cases d with
 | lst ds =>
  have h5:Fin X.mg X.K E B H σ δ (if k=some 0 then .no else .ok (.lst (pick ds l u k),kL (pick ds l u k) (kd.low .nw))) Q:=h4
  by_cases h0:k=some 0
  ·rw[if_pos h0] at h5
   exact h5.elim
  ·rw[if_neg h0] at h5
   obtain⟨a,us,rfl,q,g⟩:=VR.items R (vr.later (s2.trans (s3.trans s4)))
   refine⟨a,us,rfl,q,h0,fun p hp=>?_⟩
   refine h5 _ _ (sA.trans (vX hp)) ?_
   refine VR.laid R sA hp (low_ne _ _) ?_
   unfold pick
   rw[g.len]
   exact qdK g _
 | _=>exact h4.elim
theorem qgV:zT X oIx (fun x y H Q=>qg4 X.K x y H Q\/qgH X.K x y H Q):=by
 rintro B H H' σ δ x y ⟨dx,kx⟩ ⟨dy,ky⟩ Q E R s r1 r2 h
 have fin:∀ {vs:List V}{ds:List D}{i:Int}{d:D},qv X.mg X.K (Gk B σ δ (kx.low .nw)) H' vs ds->(yL ds.length i).bind (fun j=>ds[j]?)=some d->Fin X.mg X.K E B H' σ δ (.ok (d,kx.low .nw)) Q->∃ v,atI vs i=some v/\Q v H':=fun {vs ds i d} g e q=>by
  cases hj:yL ds.length i with
  | none=>rw[hj] at e;cases e
  | some j =>
   rw[hj] at e
   obtain⟨v,e1,e2⟩:=g.getD (show ds[j]?=some d from e)
   refine⟨v,?_,q v H' qy.refl (by show VR _ _ _ _ _ _ _ (kx.low .nw) _ _;rw[VR.gk (low_ne _ _)];exact e2)⟩
   unfold atI
   rw[g.len,<- qep,hj]
   exact e1
 cases dx with
 | lst ds =>
  cases dy with
  | int i =>
   left
   obtain⟨a,vs,rfl,q,g⟩:=VR.items R r1
   unfold oIx at h
   dsimp only at h
   cases e:(yL ds.length i).bind (fun j=>ds[j]?) with
   | none=>rw[e] at h;exact h.elim
   | some d =>
    rw[e] at h
    obtain⟨v,e1,e2⟩:=fin g e h
    exact⟨a,vs,i,v,rfl,vf R r2,q,e1,e2⟩
  | _=>exact h.elim
 | tup ds =>
  cases dy with
  | int i =>
   right
   obtain⟨a,vs,rfl,q,g⟩:=VR.qcB R r1
   unfold oIx at h
   dsimp only at h
   cases e:(yL ds.length i).bind (fun j=>ds[j]?) with
   | none=>rw[e] at h;exact h.elim
   | some d =>
    rw[e] at h
    obtain⟨v,e1,e2⟩:=fin g e h
    exact⟨a,vs,i,v,rfl,vf R r2,q,e1,e2⟩
  | _=>exact h.elim
 | _=>exact h.elim
theorem yG {a b:Expr}{ra rb:RE} (ha:PE X a (TEx X E ra)) (hb:PE X b (TEx X E rb)) (hs:YR b):PE X (.Subscript a b pos) (TEx X E (qf oIx ra rb)) :=
 vq (qe2 (qag.or qfg) ha hb hs) fun _ _ _ h=>two qgV h
noncomputable def qfb (X:Cx) (f:DK->Rs DK) (rr:V->Hp->VK->Prop):Prop:=∀ (B:Bs) (H H':Hp) (σ:St) (δ:Dl) (x:V) (dx:DK) (Q:VK) (E:XK),Rl X.mg X.K B H σ δ->qy H H'->VR X.mg X.K B H H' σ δ dx.2 x dx.1->Fin X.mg X.K E B H' σ δ (f dx) Q->rr x H' Q
theorem one {f:DK->Rs DK}{rr:V->Hp->VK->Prop}{ra:RE} (F:qfb X f rr) {σ:St}{H:Hp}{Q:VK} (h:TEx X E (rUn f ra) σ H Q):tUn rr (TEx X E ra) σ H Q:=by
 obtain⟨B,δ,R,h⟩:=h
 exact⟨B,δ,R,qo.imp (qo.bind h) fun dx h1 v H1 s1 r1=>F B H H1 σ δ v dx Q E R s1 r1 (Fin.more h1 s1)⟩
theorem qgs:qfb X YH (rU fun i=>.int (-i)):=by
 rintro B H H' σ δ x ⟨dx,kx⟩ Q E R s r1 h
 cases dx with
 | int i=>exact⟨i,vf R r1,h _ H' qy.refl (VR.int _)⟩
 | _=>exact h.elim
theorem Y7 {a:Expr}{ra:RE} (ha:PE X a (TEx X E ra)):PE X (.UnaryOp .USub a pos) (TEx X E (rUn YH ra)):=vq (qe6 qcO ha) fun _ _ _ h=>one qgs h
noncomputable def qe1:V->List V->Hp->VK->Prop:=fun x vs H Q=>∃ i,x = .int i/\vs=[]/\Q (.int (Builtin.Int.intBits i:Nat)) H
theorem qaB:MtR X "int.bit_length" qe1:=by
 intro pins s σ H x vs v us Q I rx rv h
 obtain⟨i,rfl,rfl,q⟩:=h
 obtain⟨t,rfl⟩:=rx
 cases rv
 refine call_gives PySem.F.slot_int_bit_length (typeIs_int s i t) PySem.F.entry_int_bit_length (PySem.F.args_int_bit_length_1 _) (PySem.AutoIntG2.int_bit_length_int_0 i t) ?_
 exact⟨.int _,H,I.tok _,⟨_,rfl⟩,q⟩
theorem qdU (i:Int):Builtin.Int.intBits i=if i=0 then 0 else i.natAbs.log2+1:=by
 unfold Builtin.Int.intBits
 by_cases h:i=0
 ·subst h;rfl
 ·rw[if_neg h]
  split
  ·rename_i z;exact absurd (by simpa using z) h
  ·rfl
theorem J7 {e:Expr}{r:RE} (h:PE X e (qgJ X.K "int" qe1 (TEx X E r))):PE X e (TEx X E (rUn oBits r)):=by
 refine vq h fun σ H Q ⟨B,δ,R,h⟩=>⟨B,δ,R,?_⟩
 refine qo.imp (qo.bind h) fun x h1 v H1 s1 vr=>?_
 obtain⟨d,k⟩:=x
 have vr:VR X.mg X.K B H H1 σ δ k v d:=vr
 cases d with
 | int i =>
  have e:=vf R vr
  subst e
  refine⟨rfl,i,rfl,rfl,?_⟩
  rw[qdU]
  exact h1 _ H1 s1 (VR.int _)
 | _=>exact h1.elim
end
section
variable {X:Cx}{E:XK}{pos:Pos}
theorem zb:∀ {ds:List D}{ns:List Int},intsOf ds=some ns->ds=ns.map D.int
 | [],ns,h=>by cases h;rfl
 | .int i::r,ns,h=>by
  have h:(intsOf r).map (i :: ·)=some ns:=h
  cases e:intsOf r with
  | none=>rw[e] at h;cases h
  | some ms=>rw[e] at h;cases h;rw[zb e];rfl
 | .non::_,_,h=>nomatch h
 | .bl _::_,_,h=>nomatch h
 | .lst _::_,_,h=>nomatch h
 | .tup _::_,_,h=>nomatch h
 | .fn _::_,_,h=>nomatch h
 | .obj _ _ _::_,_,h=>nomatch h
theorem ints_map:∀ ns:List Int,intsOf (ns.map D.int)=some ns
 | []=>rfl
 | n::r=>by
  show (intsOf (r.map D.int)).map (n :: ·)=_
  rw[ints_map r]
  rfl
theorem Q5:∀ ns:List Int,(ns.map D.int).all D.sc=true
 | []=>rfl
 | _::r=>Q5 r
theorem WD (ns:List Int):(ns.map D.int).map toV=ns.map V.int:=by
 rw[List.map_map]
 rfl
theorem um:∀ ns ms:List Int,PyData.eqvAll (ns.map PyData.int) (ms.map PyData.int)=decide (ns=ms)
 | [],[]=>rfl
 | [],_::_=>rfl
 | _::_,[]=>rfl
 | a::r,b::q=>by
  show (PyData.eqv (.int a) (.int b)&&PyData.eqvAll (r.map PyData.int) (q.map PyData.int))=_
  rw[um r q]
  show ((a==b)&&_)=_
  by_cases h:a=b
  ·subst h;simp
  ·simp [h]
theorem jO {K:PySem.W.Frag}{H:Hp}:∀ ns:List Int,VO K H (ns.map V.int) (ns.map PyData.int)
 | []=>.nil
 | n::r=>.cons (.int n) (jO r)
theorem lay_ints:∀ ns:List Int,PyData.canLayAll0 (ns.map PyData.int)=true
 | []=>rfl
 | n::r=>by
  show (PyData.canLay0 (.int n)&&PyData.canLayAll0 (r.map PyData.int))=true
  rw[lay_ints r]
  rfl
theorem VC:∀ ns:List Int,PyData.depthAll (ns.map PyData.int) <= 1
 | []=>Nat.zero_le _
 | n::r=>by
  show max (PyData.depth (.int n)) (PyData.depthAll (r.map PyData.int)) <= 1
  have a:=VC r
  have b:PyData.depth (.int n) <= 1:=by first | exact Nat.le_refl _ | exact Nat.zero_le _
  lia
theorem shaped_ints (ns:List Int):SeqAt.shaped (.list (ns.map PyData.int))=true:=by
 unfold SeqAt.shaped
 have a:PyData.canLay0 (.list (ns.map PyData.int))=true:=lay_ints ns
 have b:PyData.depth (.list (ns.map PyData.int)) <= 64:=by
  show PyData.depthAll (ns.map PyData.int)+1 <= 64
  have:=VC ns
  lia
 rw[a,decide_eq_true b]
 rfl
theorem Q3 {mg:Str->Option Value}{K:PySem.W.Frag}{B:Bs}{H H':Hp}{σ:St}{δ:Dl}{k:Kd}{v:V}{ns:List Int} (R:Rl mg K B H σ δ) (h:VR mg K B H H' σ δ k v (.lst (ns.map D.int))):∃ a,v = .ref a/\SqL K H' a (ns.map V.int):=by
 obtain⟨a,vs,rfl,q,g⟩:=VR.items R h
 have e:=g.sc (Q5 ns)
 rw[WD] at e
 subst e
 exact⟨a,rfl,q⟩
theorem Qb:zT X (oEq false) (fun x y H Q=>rEq x y H Q\/qgk X.K x y H Q):=by
 rintro B H H' σ δ x y ⟨dx,kx⟩ ⟨dy,ky⟩ Q E R s r1 r2 h
 cases dx with
 | int i =>
  cases dy with
  | int j =>
   left
   rw[vf R r1,vf R r2]
   refine⟨rfl,?_⟩
   rw[Q4,Bool.beq_eq_decide_eq]
   exact h _ H' qy.refl (VR.bl _)
  | _=>exact h.elim
 | bl i =>
  cases dy with
  | bl j =>
   left
   rw[qaA R r1,qaA R r2]
   refine⟨rfl,?_⟩
   rw[Yv,Bool.beq_eq_decide_eq]
   exact h _ H' qy.refl (VR.bl _)
  | _=>exact h.elim
 | lst xs =>
  cases dy with
  | lst ys =>
   right
   unfold oEq at h
   dsimp only at h
   cases e1:intsOf xs with
   | none=>rw[e1] at h;exact h.elim
   | some ns =>
    cases e2:intsOf ys with
    | none=>rw[e1,e2] at h;exact h.elim
    | some ms =>
     rw[e1,e2] at h
     have q1:=zb e1
     have q2:=zb e2
     subst q1 q2
     obtain⟨a,rfl,s1⟩:=Q3 R r1
     obtain⟨b,rfl,s2⟩:=Q3 R r2
     refine⟨_,_,.lst s1 (jO ns),.lst s2 (jO ms),shaped_ints ns,shaped_ints ms,?_⟩
     show Q (.bl (PyData.eqvAll _ _)) H'
     rw[um]
     exact h _ H' qy.refl (VR.bl _)
  | _=>exact h.elim
 | _=>exact h.elim
theorem qhf:zT X (oEq true) (fun x y H Q=>rNe x y H Q\/qgp X.K x y H Q):=by
 rintro B H H' σ δ x y ⟨dx,kx⟩ ⟨dy,ky⟩ Q E R s r1 r2 h
 cases dx with
 | int i =>
  cases dy with
  | int j =>
   left
   rw[vf R r1,vf R r2]
   refine⟨rfl,?_⟩
   rw[Q4,Bool.beq_eq_decide_eq]
   exact h _ H' qy.refl (VR.bl _)
  | _=>exact h.elim
 | bl i =>
  cases dy with
  | bl j =>
   left
   rw[qaA R r1,qaA R r2]
   refine⟨rfl,?_⟩
   rw[Yv,Bool.beq_eq_decide_eq]
   exact h _ H' qy.refl (VR.bl _)
  | _=>exact h.elim
 | lst xs =>
  cases dy with
  | lst ys =>
   right
   unfold oEq at h
   dsimp only at h
   cases e1:intsOf xs with
   | none=>rw[e1] at h;exact h.elim
   | some ns =>
    cases e2:intsOf ys with
    | none=>rw[e1,e2] at h;exact h.elim
    | some ms =>
     rw[e1,e2] at h
     have q1:=zb e1
     have q2:=zb e2
     subst q1 q2
     obtain⟨a,rfl,s1⟩:=Q3 R r1
     obtain⟨b,rfl,s2⟩:=Q3 R r2
     refine⟨_,_,.lst s1 (jO ns),.lst s2 (jO ms),shaped_ints ns,shaped_ints ms,?_⟩
     show Q (.bl (!PyData.eqvAll _ _)) H'
     rw[um]
     exact h _ H' qy.refl (VR.bl _)
  | _=>exact h.elim
 | _=>exact h.elim
theorem xO (hu:X.A.units+64<cLine):OpR X (compareOp .Eq) (fun x y H Q=>rEq x y H Q\/qgk X.K x y H Q):=qgO.or (qf5 hu)
theorem qfD (hu:X.A.units+64<cLine):OpR X (compareOp .NotEq) (fun x y H Q=>rNe x y H Q\/qgp X.K x y H Q):=qgC.or (qf6 hu)
theorem Ux:bootBuiltins "list"=some (.type "list"):=by decide +kernel
theorem ZO:bootBuiltins "max"=some (.builtin "max"):=by decide +kernel
theorem qbo:bootBuiltins "min"=some (.builtin "min"):=by decide +kernel
theorem qa4:bootBuiltins "abs"=some (.builtin "abs"):=by decide +kernel
theorem vW:bootBuiltins "len"=some (.builtin "len"):=by decide +kernel
end
end L2.Ir
set_option maxHeartbeats 4000000
namespace L2.Ir
open PySem PySem.Spec PyProof.Rows
theorem Z5 {h h' B B':Heap}:∀ {l:List Env},h.FunFrames B l->(∀ b∈frs l,∀ o,h.get? b=some o->h'.get? b=some o)->(∀ b∈frs l,B'.get? b=none)->h'.FunFrames B' l
 | [],_,_,_=>trivial
 | env::r,⟨hk,⟨L,o,hf,_,ho,hd⟩,hr⟩,k,hB=>by
  have hL:L∈frs (env::r):=by unfold frs;rw[List.filterMap_cons,hf];exact List.mem_cons_self
  have sub:∀ b∈frs r,b∈frs (env::r):=fun b hb=>by unfold frs;rw[List.filterMap_cons,hf];exact List.mem_cons_of_mem _ hb
  exact⟨hk,⟨L,o,hf,hB L hL,k L hL o ho,hd⟩,Z5 hr (fun b hb=>k b (sub b hb)) fun b hb=>hB b (sub b hb)⟩
theorem qfV {h:Heap}{C b:Addr}{o:Obj} (e:(PySem.W.hideAll h [C]).get? b=some o):h.get? b=some o/\b≠C:=by
 refine⟨PySem.W.of_hideAll _ e,fun z=>?_⟩
 have q:(PySem.W.hideAll h [C]).get? b=none:=PySem.W.hideAll_none _ (by rw[z];exact List.mem_singleton_self _)
 rw[q] at e
 cases e
theorem WW {h:Heap}{C b:Addr} (e:h.get? b=none):(PySem.W.hideAll h [C]).get? b=none:=by
 cases q:(PySem.W.hideAll h [C]).get? b with
 | none=>rfl
 | some o =>
  have:=(qfV q).1
  rw[e] at this
  cases this
theorem qaH {B h h':Heap}{l:List Env}{e C:Addr}{cls:Value}{m:Str->Option Value} (x:xP B l e cls h) (hC:h.Ns C m) (hf:C∉frs l) (sb:Heap.SameBut C h h'):xP (PySem.W.hideAll B [C]) l e cls h':=by
 obtain⟨kb,hen,hl,oe,vs,a0,he,hcls,hd,h0,T,oT,ts,f,h1,hnT,hTe,hT,hdT,h3⟩:=x
 obtain⟨oc,es,ep,hoc,hdc,_⟩:=hC
 have ne:∀ {b:Addr}{o:Obj}{ws:Array Value},h.get? b=some o->o.data = .fields ws->b≠C:=fun {b o ws} e1 e2 z=>by
  rw[z,hoc] at e1
  cases e1
  rw[hdc] at e2
  cases e2
 have keep:∀ b o,b≠C->h.get? b=some o->h'.get? b=some o:=fun b o n e1=>(sb.2 b n).trans e1
 refine⟨fun b o e1=>keep b o (qfV e1).2 (kb b o (qfV e1).1),WW hen,Z5 hl (fun b hb o e1=>keep b o (fun z=>hf (by rw[<- z];exact hb)) e1) (fun b hb=>WW (hl.mem hb).1),oe,vs,a0,keep _ _ (ne he hd) he,hcls,hd,h0,T,oT,ts,f,h1,WW hnT,hTe,keep _ _ (ne hT hdT) hT,hdT,h3⟩
noncomputable abbrev jA (X:Cx) (E:XK) (s:Shared) (H:Hp) (scope:Scope) (cenv:Env) (fp:List Addr):Cx:=(X.blk s H scope cenv fp).uD (Arr (X.blk s H scope cenv fp) E)
section
variable {X:Cx}{E:XK}
theorem qcb {pins:List (Addr × Obj)}{s:Shared}{σ:St}{H:Hp}{Q:VK}{elt tg iter:Expr}{ifs:List Expr}{scope:Scope}{own:List (Str × Nat)}{pos pos':Pos}{wi:TI}{g:TG}{tt:TT}{te:TE}{use:Option (Value->Sem Unit)}{Qf:Value->Shared->Prop}{LF:Addr}
  (hc:X.calm=true) (hN:X.N.Nodup) (acc:Acc X E) (hst:X.stack=X.env::X.outer) (hfr:X.env.frame=some LF) (I:Inv X pins σ H s) (hi:PI X tg iter wi) (ok:qah X.N X.env.scope scope own)
  (hg:∀ (s:Shared) (H:Hp) (C:Addr) (cl:List (Str × Addr)) (fp:List Addr),PG (jA X E s H scope (compEnvC scope cl C X.env) fp) tg g) (ht:∀ (s:Shared) (H:Hp) (C:Addr) (cl:List (Str × Addr)) (fp:List Addr),PTs (jA X E s H scope (compEnvC scope cl C X.env) fp) ifs tt)
  (he:∀ (s:Shared) (H:Hp) (C:Addr) (cl:List (Str × Addr)) (fp:List Addr),PE (jA X E s H scope (compEnvC scope cl C X.env) fp) elt te) (hs:∀ x,foldedSetIterable iter X.env x=pure x)
  (h:tLc wi g tt te (own.map (·.2)) σ H Q)
  (hRR:∀ D C s' m H',Inv X pins σ H' s'->Q (.ref D) H'->s'.heap.Ns C m->Qk X pins H' C->compPost (model X.prog X.w) X.A X.xe use Qf (.ref D) C (.ok .next) s') :
  wpAny (model X.prog X.w) X.A (comprehension (.ListComp elt [⟨tg,iter,ifs,0⟩] scope pos) scope X.env pos' (newList []) false (eval iter X.env) use) Qf X.xe s:=by
 have hfree:∀ y∈scope.names,y.2 = .free->∃ c,X.env.cells.lookup y.1=some c:=fun y hy e=>by
  rcases ok.free y hy e with k | k
  ·exact I.ok.has _ (.inl k)
  ·exact I.ok.has _ (.inr k)
 refine wpAny_comprehension_free (use:=use) rfl hs (V0 hfree) ok.kind (fun y hy e=>by rw[ok.uniq y hy,e])
  (thn (hi pins s σ H _ I h) fun xv s1 hx=>thn hx fun itv s2 h2=>?_)
 obtain⟨it,fp,tn,J,H2,e,I2,T,st2,f2,q⟩:=h2
 subst e
 refine wpAny_newObj_type (X1 ?_) (by show 0 <= sizeLine;decide)
 generalize hD:s2.heap.objs.size=D
 have hDn:H2 D=none:=I2.hok.fresh (Nat.le_of_eq hD)
 obtain⟨W,⟨m0,w0⟩,turn⟩:=q D hDn
 generalize hs3:({s2 with heap:=s2.heap.push {cls:=.type "list",data:=.seq ([]:List Value).toArray} }:Shared)=s3
 have I3:Inv X pins σ (upd H2 D (.lst [])) s3:=by
  rw[<- hs3]
  refine I2.laid (t':=s2.toks) (fun b o e=>Heap.get?_push_of_some _ e) (Nat.le_of_eq hD) ⟨Nat.zero_le _,[],0,.nil,?_⟩
  rw[<- hD]
  exact Heap.get?_push_size _ rfl
 have h3:s3.heap=s2.heap.push {cls:=.type "list",data:=.seq ([]:List Value).toArray}:=by rw[<- hs3]
 have sz:∀ b∈fp,b<s2.heap.objs.size:=fun b hb=>by
  obtain⟨o,e,_⟩:=T.obj _ _ st2 b hb
  exact Heap.lt_size e
 have f3:∀ b∈fp,Qk X pins (upd H2 D (.lst [])) b/\b<s3.heap.objs.size:=fun b hb=>by
  have hlt:=sz b hb
  refine⟨⟨?_,(f2 b hb).2⟩,by rw[h3,Heap.size_push];exact Nat.lt_succ_of_lt hlt⟩
  rw[qA (by rw[<- hD];exact Nat.ne_of_lt hlt)]
  exact (f2 b hb).1
 have st3:tn 0 s3.heap:=T.keep _ _ _ st2 fun b _ o e=>by rw[h3];exact Heap.get?_push_of_some _ e
 have I4:=Ut I3 ok hN f3
 have pg:=hg s3 (upd H2 D (.lst [])) s3.heap.objs.size (cellsFrom (s3.heap.objs.size+1) scope.names (qQ X.env.cells scope.names [])) fp
 have pt:=ht s3 (upd H2 D (.lst [])) s3.heap.objs.size (cellsFrom (s3.heap.objs.size+1) scope.names (qQ X.env.cells scope.names [])) fp
 have pe:=he s3 (upd H2 D (.lst [])) s3.heap.objs.size (cellsFrom (s3.heap.objs.size+1) scope.names (qQ X.env.cells scope.names [])) fp
 show codeAny _ _ (.compStart (.ListComp elt [⟨tg,iter,ifs,0⟩] scope pos) 0 (.ref it) (.ref D) (compEnvC scope (cellsFrom (s3.heap.objs.size+1) scope.names (qQ X.env.cells scope.names [])) s3.heap.objs.size X.env)) (compPost (model X.prog X.w) X.A X.xe use Qf (.ref D) s3.heap.objs.size) {s3 with heap:=pushCells (s3.heap.push {cls:=.type "dict",data:=.dict #[]}) scope.names}
 have nfp:∀ b∈fp,(upd H2 D (.lst [])) b=none:=fun b hb=>(f3 b hb).1.1
 generalize hce:compEnvC scope (cellsFrom (s3.heap.objs.size+1) scope.names (qQ X.env.cells scope.names [])) s3.heap.objs.size X.env=ce at I4 pg pt pe ⊢
 have cL:ce.locals=s3.heap.objs.size:=by subst hce;rfl
 have cF:ce.frame=some LF:=by subst hce;exact hfr
 generalize hH3:upd H2 D (.lst [])=H3 at I3 I4 pg pt pe w0 nfp f3
 generalize hs4:({s3 with heap:=pushCells (s3.heap.push {cls:=.type "dict",data:=.dict #[]}) scope.names}:Shared)=s4 at I4 ⊢
 have st4:tn 0 s4.heap:=T.keep _ _ _ st3 fun b _ o e=>by rw[<- hs4];exact pushCells_keeps _ _ _ _ (Heap.get?_push_of_some _ e)
 have stat:∀ {σ':St}{H':Hp}{s':Shared},Inv (X.blk s3 H3 scope ce fp) [] σ' H' s'->(∀ b∈fp,H' b=none)->∀ b∈fp,Qk (X.blk s3 H3 scope ce fp) [] H' b:=fun {σ' H' s'} I' hn b hb =>
  ⟨hn b hb,(I'.ok.exf b hb).1,I'.ok.exfs b hb,.inl hb,fun x c e=>(I'.ok.exf b hb).2 x c e,fun p hp=>absurd (show p∈([]:List (Addr × Obj))++[] from hp) (by simp)⟩
 -- an exception out of the block
 have exc:∀ (e:Value) (s5:Shared),Arr (X.blk s3 H3 scope ce fp) E e s5->notedBy (model X.prog X.w) X.A ce (fun e s'=>compPost (model X.prog X.w) X.A X.xe use Qf (.ref D) s3.heap.objs.size (.error e) s') e s5:=fun e s5 x=>by
  obtain⟨a,cls,Bh,H',pins',σ',rfl,I5,hd,kb,q⟩:=x
  have hfrm:X.A.frames=some (X.env::X.outer):=by rw[<- hst];exact I3.ok.frames
  have hd0:Hand Bh (X.env::X.outer) a cls s5.heap:=by rw[<- hst];exact hd
  refine xu hfrm hfr cF hd0 fun h1 hd1 up1=>?_
  rw[<- hst] at hd1
  obtain⟨I6,kb1⟩:=w6 I5 hd kb hd1.hand up1
  obtain⟨m,hn,_⟩:=I6.loc
  have hn:h1.Ns ce.locals m:=hn
  rw[cL] at hn
  refine⟨m,hn,fun h' sb cenv hcl=>?_⟩
  have nC:H' s3.heap.objs.size=none:=by
   have z:H' ce.locals=none:=I6.free
   rw[cL] at z
   exact z
  have fC:Qk X pins H' s3.heap.objs.size:=I3.qaG (Nat.le_refl _) nC
  have I7:Inv X pins σ H' {s5 with heap:=h1}:=I3.qbK (ch:=fp) I6.os I6.base I6.hok I6.bare fun b hb=>⟨(f3 b hb).1.2.2.2.1,(f3 b hb).1.2.1,(f3 b hb).1.2.2.2.2.1,(f3 b hb).1.2.2.2.2.2⟩
  obtain⟨g0,g1,g2,g3,g4,g5⟩:=fC
  have I8:Inv X pins σ H' {s5 with heap:=h'}:=I7.turned (t':=s5.toks) (fun b o hb e=>(sb.2 b hb).trans e) g0 g1 g3 g4 g5
  have cf:s3.heap.objs.size∉frs X.stack:=fun z=>by
   rcases List.mem_cons.mp (I3.y8 _ z) with z | z
   ·exact g1 z
   ·exact g2 z
  have hd2:=qaH hd1 hn cf sb
  have relN:∀ b,Rel X pins H' b->b≠s3.heap.objs.size/\Rel (X.blk s3 H3 scope ce fp) pins' H' b:=fun b r=>by
   have inS3:(¬ H' b≠none)->∃ o,s3.heap.get? b=some o:=fun hn'=>by
    rcases r with r | r
    ·exact absurd r hn'
    ·exact Vq I3 (.inr r)
   by_cases hb:H' b≠none
   ·exact⟨fun z=>hb (by rw[z];exact nC),.inl hb⟩
   ·obtain⟨o,eo⟩:=inS3 hb
    refine⟨Nat.ne_of_lt (Heap.lt_size eo),.inr (.inl ⟨o,eo,fun hfp=>?_⟩)⟩
    obtain⟨k0,k1,k2,k3,k4,k5⟩:=(f3 b hfp).1
    rcases r with r | ⟨o',e',nx⟩ | ⟨y,e'⟩ | e' | ⟨p,hp,e'⟩
    ·exact hb r
    ·rcases k3 with k3 | k3
     ·exact nx k3
     ·exact absurd (Nat.lt_of_lt_of_le (Heap.lt_size e') k3) (Nat.lt_irrefl _)
    ·exact k4 y b e' rfl
    ·exact k1 e'
    ·exact k5 p hp e'
  have kb2:∀ b o,h'.get? b=some o->b∉frs X.stack->Rel X pins H' b->(PySem.W.hideAll Bh [s3.heap.objs.size]).get? b=some o:=fun b o hb hf r=>by
   obtain⟨nb,r2⟩:=relN b r
   have e1:h1.get? b=some o:=(sb.2 b nb).symm.trans hb
   exact PySem.W.hideAll_get _ (kb1 b o e1 hf r2) (by simpa using nb)
  unfold PySem.passOn
  refine wpAny_bind (jU hd2 fun T=>?_)
  rw[if_neg (show ¬ ((Value.ref T==Value.none)=true) from by simp)]
  refine wpAny_bind (zu hd2 fun h3' hd3 up3=>wpAny_throw ?_)
  obtain⟨I9,kb3⟩:=w6 I8 hd2.hand kb2 hd3.hand up3
  exact acc _ _ ⟨a,cls,_,H',pins,σ,rfl,I9,hd3.hand,kb3,q⟩
 have thnX:∀ {α:Type}{t:Sem α}{P P':α->Shared->Prop}{s':Shared},wpAny (model X.prog X.w) X.A t P (Arr (X.blk s3 H3 scope ce fp) E) s'->(∀ a s,P a s->P' a s)->wpAny (model X.prog X.w) X.A t P' (notedBy (model X.prog X.w) X.A ce (fun e s'=>compPost (model X.prog X.w) X.A X.xe use Qf (.ref D) s3.heap.objs.size (.error e) s')) s' :=
  fun {α t P P' s'} h hP=>wpAny_mono h hP exc
 have loop:codeAny (model X.prog X.w) X.A (.compLoop (.ListComp elt [⟨tg,iter,ifs,0⟩] scope pos) 0 (.ref it) (.ref D) ce) (compPost (model X.prog X.w) X.A X.xe use Qf (.ref D) s3.heap.objs.size) s4:=by
  refine Ya (fun n s'=>∃ i H',Inv (X.blk s3 H3 scope ce fp) [] (wipe σ (own.map (·.2))) H' s'/\tn i s'.heap/\(∀ b∈fp,H' b=none)/\W i n H') ?_ m0 ⟨0,H3,I4,st4,nfp,w0⟩
  rintro n s5 ⟨i,H5,I5,st5,n5,w5⟩
  rcases turn i n H5 w5 with ⟨stop,qq⟩ | ⟨go,Nx,hNx,step⟩
  ·have td:=T.done (X.blk s3 H3 scope ce fp) rfl rfl rfl hc i [] s5 _ H5 (fun _ _=>False) I5 (stat I5 n5) st5 stop
   refine qga td fun r s6 ⟨hr,I6⟩=>?_
   subst hr
   have I7:Inv X pins σ H5 s6:=I3.qbK (ch:=fp) I6.os I6.base I6.hok I6.bare fun b hb=>⟨(f3 b hb).1.2.2.2.1,(f3 b hb).1.2.1,(f3 b hb).1.2.2.2.2.1,(f3 b hb).1.2.2.2.2.2⟩
   have nC:H5 s3.heap.objs.size=none:=by
    have z:H5 ce.locals=none:=I6.free
    rw[cL] at z
    exact z
   obtain⟨m,hn,_⟩:=I6.loc
   have hn:s6.heap.Ns ce.locals m:=hn
   rw[cL] at hn
   exact hRR D s3.heap.objs.size s6 m H5 I7 qq hn (I3.qaG (Nat.le_refl _) nC)
  ·have ti:=T.item (X.blk s3 H3 scope ce fp) rfl rfl rfl hc i [] s5 _ H5 (fun _ _=>False) I5 (stat I5 n5) st5 go
   refine qga ti fun r s6 ⟨u,hr,h6⟩=>?_
   subst hr
   refine qga h6 fun _ s7 ⟨x,H7,I7,r7,y7,st7,n7⟩=>?_
   have I7':=(I7.pinned (stat I7 n7) (T.obj _ _ st7)).uD (Arr (X.blk s3 H3 scope ce fp) E)
   refine thnX (pg _ s7 _ H7 x u _ I7' r7 (step x H7 y7)) fun _ s8 ⟨σ8,H8,I8,hw8,q8⟩=>?_
   refine thnX (pt _ s8 σ8 H8 _ I8 q8) fun b s9 ⟨H9,I9,q9⟩=>?_
   have fin:∀ {s':Shared}{H':Hp},Inv (X.blk s3 H3 scope ce fp) ([]++WE fp s7.heap) σ8 H' s'->Nx H'->∃ m,m<n/\∃ i H',Inv (X.blk s3 H3 scope ce fp) [] (wipe σ (own.map (·.2))) H' s'/\tn i s'.heap/\(∀ b∈fp,H' b=none)/\W i m H':=fun {s' H'} I' nx=>by
    obtain⟨m',hm,w'⟩:=hNx H' nx
    have pin':∀ b∈fp,∀ o,s7.heap.get? b=some o->s'.heap.get? b=some o/\H' b=none:=fun b hb o e =>
     let z:=I'.pin (b,o) (List.mem_append_right _ (List.mem_append_right _ (jz hb e)))
     ⟨z.1,z.2.1⟩
    have hl:(wipe σ (own.map (·.2))).length=σ8.length:=by rw[<- hw8,v5]
    refine⟨m',hm,i+1,H',(I'.j7 (pins:=[])).weak hl (fun j v e=>?_),T.keep _ _ _ st7 fun b hb o e=>(pin' b hb o e).1,fun b hb=>?_,w'⟩
    ·rw[<- hw8] at e
     exact (zz e).1
    ·obtain⟨o,e,_⟩:=T.obj _ _ st7 b hb
     exact (pin' b hb o e).2
   cases b with
   | false =>
    simp only[Bool.false_eq_true,if_false] at q9 ⊢
    exact fin I9.yf q9
   | true =>
    simp only[if_true] at q9 ⊢
    refine thnX (pe _ s9 σ8 H9 _ I9 q9) fun z s10 ⟨yv,H10,I10,r10,acc,hD10,hz10,nx⟩=>?_
    exact qfl (X:=X.blk s3 H3 scope ce fp) I10.yf hD10 hz10 r10 fun s11 I11=>fin I11 nx
 exact codeAny_compStart_list loop (T.self X.A 0 _ _ _ st4 loop)
theorem US {elt tg iter:Expr}{ifs:List Expr}{scope:Scope}{own:List (Str × Nat)}{pos:Pos}{wi:TI}{g:TG}{tt:TT}{te:TE}{LF:Addr} (hc:X.calm=true) (hN:X.N.Nodup) (acc:Acc X E) (hst:X.stack=X.env::X.outer) (hfr:X.env.frame=some LF) (hi:PI X tg iter wi) (ok:qah X.N X.env.scope scope own)
  (hg:∀ (s:Shared) (H:Hp) (C:Addr) (cl:List (Str × Addr)) (fp:List Addr),PG (jA X E s H scope (compEnvC scope cl C X.env) fp) tg g) (ht:∀ (s:Shared) (H:Hp) (C:Addr) (cl:List (Str × Addr)) (fp:List Addr),PTs (jA X E s H scope (compEnvC scope cl C X.env) fp) ifs tt)
  (he:∀ (s:Shared) (H:Hp) (C:Addr) (cl:List (Str × Addr)) (fp:List Addr),PE (jA X E s H scope (compEnvC scope cl C X.env) fp) elt te) (hs:autoParam (∀ x,foldedSetIterable iter X.env x=pure x) xI._auto_1) :
  PE X (.ListComp elt [⟨tg,iter,ifs,0⟩] scope pos) (tLc wi g tt te (own.map (·.2))):=by
 intro pins s σ H Q I h
 rw[eval_ListComp]
 refine qcb hc hN acc hst hfr I hi ok hg ht he hs h fun D C s' m H' I' q hn f=>⟨m,hn,fun h'' sb=>?_⟩
 obtain⟨f0,f1,f2,f3,f4,f5⟩:=f
 exact⟨.ref D,H',I'.turned (t':=s'.toks) (fun b o hb e=>(sb.2 b hb).trans e) f0 f1 f3 f4 f5,rfl,q⟩
end
theorem ZV (δ:Dl):∀ vs:List Nat,(clear δ vs).length=δ.length
 | []=>rfl
 | v::vs=>by show ((clear δ vs).set v .un).length=_;rw[List.length_set,ZV δ vs]
theorem zr {δ:Dl}{i:Nat}{x:Sl}:∀ {vs:List Nat},(clear δ vs)[i]?=some x->x = .un\/(i∉vs/\δ[i]?=some x)
 | [],h=>.inr ⟨by simp,h⟩
 | v::vs,h=>by
  have h:((clear δ vs).set v .un)[i]?=some x:=h
  by_cases e:v=i
  ·subst e
   by_cases hl:v<(clear δ vs).length
   ·rw[List.getElem?_set_self hl] at h
    exact .inl (Option.some.inj h).symm
   ·rw[List.getElem?_eq_none (by rw[List.length_set];lia)] at h
    cases h
  ·rw[List.getElem?_set_ne e] at h
   rcases zr h with z | ⟨z1,z2⟩
   ·exact .inl z
   ·exact .inr ⟨by simp [z1,Ne.symm e],z2⟩
section
variable {mg:Str->Option Value}{K:PySem.W.Frag}{B:Bs}{H H1 H' H'':Hp}{σ:St}{δ:Dl}{D0:Addr}{vs:List Nat}
noncomputable def Bd (B:Bs) (σ:St) (δ:Dl) (vs:List Nat) (D0:Addr):Bs:=⟨B.H0,fun p=>p=D0\/(vx B σ δ p/\¬ ∃ (i:Nat) (ds:List D),(clear δ vs)[i]?=some (.own ds)/\(wipe σ vs)[i]?=some (some (.ref p)))⟩
theorem qcy {p:Addr} (h:∃ (i:Nat) (ds:List D),(clear δ vs)[i]?=some (.own ds)/\(wipe σ vs)[i]?=some (some (.ref p))):vx B σ δ p:=by
 obtain⟨i,ds,e1,e2⟩:=h
 rcases zr e1 with z | ⟨_,z⟩
 ·cases z
 ·exact .inr ⟨i,ds,z,(zz e2).1⟩
theorem uj {p:Addr}:vx (Bd B σ δ vs D0) (wipe σ vs) (clear δ vs) p↔p=D0\/vx B σ δ p:=by
 constructor
 ·rintro ((h | h) | h)
  ·exact .inl h
  ·exact .inr h.1
  ·exact .inr (qcy h)
 ·rintro (h | h)
  ·exact .inl (.inl h)
  ·by_cases c:∃ (i:Nat) (ds:List D),(clear δ vs)[i]?=some (.own ds)/\(wipe σ vs)[i]?=some (some (.ref p))
   ·exact .inr c
   ·exact .inl (.inr ⟨h,c⟩)
theorem qhx (R:Rl mg K B H σ δ) {p:Addr} (h:B.P p):(Bd B σ δ vs D0).P p:=by
 refine .inr ⟨.inl h,fun⟨i,ds,e1,e2⟩=>?_⟩
 rcases zr e1 with z | ⟨_,z⟩
 ·cases z
 ·obtain⟨_,q,e3,_,np,_⟩:=R.own i ds z
  have:=(zz e2).1
  rw[this] at e3
  cases e3
  exact np h
theorem Rl.blk (R:Rl mg K B H σ δ) (hD:H D0=none) (o:HO):Rl mg K (Bd B σ δ vs D0) (upd H D0 o) (wipe σ vs) (clear δ vs):=by
 have s:=vX (o:=o) hD
 have hne:∀ a,H a≠none->a≠D0:=fun a ha z=>ha (by rw[z];exact hD)
 refine⟨R.same.trans s,fun p hp=>?_,by rw[v5,ZV];exact R.len,fun i d k e=>?_,fun i ds e=>?_,fun i j p ds es e1 e2 e3 e4=>?_⟩
 ·rcases hp with rfl | ⟨hp,_⟩
  ·rw[qL];exact fun z=>nomatch z
  ·exact fun z=>R.owned hp (s.free z)
 ·rcases zr e with z | ⟨nv,z⟩
  ·cases z
  ·obtain⟨v,e1,e2⟩:=R.val i d k z
   refine⟨v,by rw[uc nv];exact e1,?_⟩
   refine Rp.same (Rp.weak (Rp.there _ _ e2) fun a g=>⟨fun z=>?_,g.1.2⟩) s
   rcases uj.mp z with z | z
   ·exact hne a g.2 z
   ·exact g.1.1 z
 ·rcases zr e with z | ⟨nv,z⟩
  ·cases z
  ·obtain⟨c,p,e1,e2,np,e3⟩:=R.own i ds z
   have hp:H p≠none:=by rw[e3];exact fun z=>nomatch z
   refine⟨c,p,by rw[uc nv];exact e1,e2,fun q=>?_,s _ _ e3⟩
   rcases q with q | ⟨_,q⟩
   ·exact hne p hp q
   ·exact q ⟨i,ds,e,by rw[uc nv];exact e1⟩
 ·rcases zr e1 with z | ⟨n1,z1⟩
  ·cases z
  ·rcases zr e2 with z | ⟨n2,z2⟩
   ·cases z
   ·exact R.apart i j p ds es z1 z2 (zz e3).1 (zz e4).1
theorem Rl.made {B':Bs}{σ':St}{δ':Dl} (R:Rl mg K B' H σ' δ') (hP:B'.P D0) (h0:B'.H0 D0=none) (o:HO):Rl mg K B' (upd H D0 o) σ' δ':=by
 refine⟨fun b q e=>?_,fun p hp=>?_,R.len,fun i d k e=>?_,fun i ds e=>?_,R.apart⟩
 ·rw[qA (vj e h0)]
  exact R.same b q e
 ·by_cases c:p=D0
  ·rw[c,qL];exact fun z=>nomatch z
  ·rw[qA c];exact R.pd p hp
 ·obtain⟨v,e1,e2⟩:=R.val i d k e
  exact⟨v,e1,e2.mono fun a g=>⟨g,fun q z=>by rw[qA (fun w=>g.1 (.inl (by rw[w];exact hP)))];exact z⟩⟩
 ·obtain⟨c,p,e1,e2,np,e3⟩:=R.own i ds e
  exact⟨c,p,e1,e2,np,by rw[qA (fun w=>np (by rw[w];exact hP))];exact e3⟩
theorem JD {k l:Kd}{a:Addr} (g:Gk B σ δ k a):Gk B σ δ (k.low l) a:=by
 cases k <;> cases l <;> first | exact g | exact g.1 | exact fun z=>g (.inl z) | exact fun z=>g.1 (.inl z)
inductive VAs (mg:Str->Option Value) (K:PySem.W.Frag) (B:Bs) (σ:St) (δ:Dl) (H:Hp):List V->List DK->Prop
 | nil:VAs mg K B σ δ H [] []
 | snoc {vs:List V}{xs:List DK}{v:V}{x:DK}:VAs mg K B σ δ H vs xs->Rp mg K (Gk B σ δ (x.2.low .nw)) H v x.1->VAs mg K B σ δ H (vs++[v]) (xs++[x])
theorem VAs.to {vs:List V}{xs:List DK} (h:VAs mg K B σ δ H vs xs) (k:∀ a,¬ B.P a->∀ o,H a=some o->H' a=some o):VAs mg K B σ δ H' vs xs:=by
 induction h with
 | nil=>exact .nil
 | snoc _ r ih =>
  refine .snoc ih (r.mono fun a g=>⟨g,k a ?_⟩)
  have g2:=JD (l:=.bo) g
  rename_i x _
  revert g2
  cases x.2 <;> exact fun g=>g
theorem VAs.len {vs:List V}{xs:List DK} (h:VAs mg K B σ δ H vs xs):vs.length=xs.length:=by
 induction h with
 | nil=>rfl
 | snoc _ _ ih=>rw[List.length_append,List.length_append,ih];rfl
theorem VAs.sc {vs:List V}{xs:List DK} (h:VAs mg K B σ δ H vs xs) (c:(xs.map (·.1)).all D.sc=true):vs=(xs.map (·.1)).map toV:=by
 induction h with
 | nil=>rfl
 | snoc _ r ih =>
  rw[List.map_append,List.all_append,Bool.and_eq_true] at c
  rw[ih c.1,List.map_append,List.map_append]
  have c2:=c.2
  simp at c2
  rw[r.sc c2]
  rfl
theorem QD:∀ (xs:List DK) (x:DK),qZ (xs++[x])=if x.1.sc=true then qZ xs else (qZ xs).low x.2
 | [],x=>by
  show qZ [x]=_
  unfold qZ
  split
  ·rfl
  ·show x.2.low .nw=Kd.low .nw x.2
   exact WJ _ _
 | y::r,x=>by
  show qZ (y::(r++[x]))=_
  unfold qZ
  rw[QD r x]
  split <;> split <;> first | rfl | (rw[uZ])
theorem VAs.kinds {vs:List V}{xs:List DK} (h:VAs mg K B σ δ H vs xs):qv mg K (Gk B σ δ (qZ xs)) H vs (xs.map (·.1)):=by
 induction h with
 | nil=>exact .nil
 | @snoc vs xs v x _ r ih =>
  rw[List.map_append,QD]
  cases c:x.1.sc with
  | true =>
   rw[if_pos rfl]
   refine ih.append (.cons ?_ .nil)
   rw[r.sc c]
   exact Rp.wX c
  | false =>
   rw[if_neg (by decide)]
   refine (ih.weak fun a g=>JD g).append (.cons (r.weak fun a g=>?_) .nil)
   rw[WJ]
   have e:(x.2.low .nw).low (qZ xs)=x.2.low (qZ xs):=by
    have n:=yB xs
    cases x.2 <;> cases h:qZ xs <;> first | rfl | exact absurd h n
   rw[<- e]
   exact JD g
end
inductive FAs (H:Hp) (D0:Addr) (H':Hp):List V->List DK->Prop
 | nil:FAs H D0 H' [] []
 | snoc {vs:List V}{xs:List DK}{q:Addr}{ds:List D}:FAs H D0 H' vs xs->q≠D0->H q=none->V.ref q∉vs->ds.all D.sc=true->H' q=some (.lst (ds.map toV))->FAs H D0 H' (vs++[.ref q]) (xs++[(.lst ds,.fr)])
structure FA (H:Hp) (D0:Addr) (H':Hp) (vs:List V) (ys:List DK):Prop where
 len:vs.length=ys.length
 all:(∀ y∈ys,y.2 = .fr)->FAs H D0 H' vs ys
theorem FA.nil {H:Hp}{D0:Addr}{H':Hp}:FA H D0 H' [] []:=⟨rfl,fun _=>.nil⟩
theorem FAs.to {H:Hp}{D0:Addr}{H1 H2:Hp}{vs:List V}{ys:List DK} (h:FAs H D0 H1 vs ys) (k:∀ a,a≠D0->∀ o,H1 a=some o->H2 a=some o):FAs H D0 H2 vs ys:=by
 induction h with
 | nil=>exact .nil
 | snoc _ a b c d e ih=>exact .snoc ih a b c d (k _ a _ e)
theorem FA.to {H:Hp}{D0:Addr}{H1 H2:Hp}{vs:List V}{ys:List DK} (h:FA H D0 H1 vs ys) (k:∀ a,a≠D0->∀ o,H1 a=some o->H2 a=some o):FA H D0 H2 vs ys:=⟨h.len,fun z=>(h.all z).to k⟩
theorem FAs.at_ {H:Hp}{D0:Addr}{H1:Hp}{vs:List V}{ys:List DK} (h:FAs H D0 H1 vs ys) {p:Addr}:V.ref p∈vs->H1 p≠none:=by
 induction h with
 | nil=>intro z;cases z
 | snoc _ a b c d e ih =>
  intro z
  rcases List.mem_append.mp z with z | z
  ·exact ih z
  ·cases List.mem_singleton.mp z
   rw[e]
   exact fun z=>nomatch z
theorem FA.snoc {mg:Str->Option Value}{K:PySem.W.Frag}{B:Bs}{σ:St}{δ:Dl}{H:Hp}{D0:Addr}{H1 H2:Hp}{vs acc:List V}{ys:List DK}{y:DK}{w:V} (h:FA H D0 H1 vs ys) (s:qy H H1) (hD:H1 D0=some (.lst acc)) (s2:qy H1 H2) (vw:VR mg K B H1 H2 σ δ y.2 w y.1):FA H D0 H2 (vs++[w]) (ys++[y]):=by
 refine⟨by rw[List.length_append,List.length_append,h.len];rfl,fun z=>?_⟩
 have hy:=z y (List.mem_append_right _ (List.mem_singleton_self _))
 have h0:=h.all fun x hx=>z x (List.mem_append_left _ hx)
 obtain⟨d,k⟩:=y
 cases hy
 obtain⟨p,ds,rfl,e,c,n1,n2⟩:=vw
 have e:d = .lst ds:=e
 subst e
 exact .snoc (h0.to fun a _ o e=>s2 a o e) (fun q=>by rw[q,hD] at n1;cases n1) (s.free n1) (fun q=>h0.at_ q n1) c n2
section
variable {X:Cx}{E:XK}{pos:Pos}
theorem VM {σ σ':St}{i:Nat}{v:V}{vs:List Nat} (hi:i∈vs):wipe (σ.set i (some v)) vs=wipe σ vs:=by
 have gen:∀ (vs:List Nat) (x:Option V),wipe (σ.set i x) vs=(if i∈vs then wipe σ vs else (wipe σ vs).set i x):=by
  intro vs
  induction vs with
  | nil=>intro x;rfl
  | cons w r ih =>
   intro x
   show (wipe (σ.set i x) r).set w none=_
   rw[ih x]
   by_cases h1:i∈r
   ·rw[if_pos h1,if_pos (List.mem_cons_of_mem _ h1)]
    rfl
   ·rw[if_neg h1]
    by_cases h2:i=w
    ·subst h2
     rw[if_pos List.mem_cons_self,List.set_set]
     rfl
    ·rw[if_neg (by simp [h2,h1]),List.set_comm _ _ h2]
     rfl
 rw[gen vs (some v),if_pos hi]
theorem qbw {tg:Tg}{σ σ2:St}{vs:List Nat} (h:tg.sets σ σ2) (hv:tg.within vs):wipe σ2 vs=wipe σ vs:=by
 cases tg with
 | one i=>obtain⟨v,rfl⟩:=h;exact VM (σ':=σ) hv
 | two i j =>
  obtain⟨v,w,rfl⟩:=h
  rw[VM (σ':=σ) hv.2,VM (σ':=σ) hv.1]
theorem qbi (σ:St) (vs:List Nat):wipe (wipe σ vs) vs=wipe σ vs:=by
 refine List.ext_getElem? fun i=>?_
 by_cases h:i∈vs
 ·by_cases hl:i<σ.length
  ·have a:∀ τ:St,τ.length=σ.length->(wipe τ vs)[i]?=some none:=fun τ hτ=>by
    have l:i<(wipe τ vs).length:=by rw[v5,hτ];exact hl
    cases e:(wipe τ vs)[i] with
    | none=>rw[List.getElem?_eq_getElem l,e]
    | some x =>
     have:=(zz (show (wipe τ vs)[i]?=some (some x) by rw[List.getElem?_eq_getElem l,e])).2
     exact absurd h this
   rw[a _ (v5 σ vs),a _ rfl]
  ·rw[List.getElem?_eq_none (by rw[v5,v5];lia),List.getElem?_eq_none (by rw[v5];lia)]
 ·rw[uc h]
theorem jM {i j:Nat}{x:DK}{δ δ':Dl} (h:put i x δ=some δ') (n:i≠j):δ'[j]?=δ[j]?:=by
 obtain⟨d,k⟩:=x
 have fin:∀ s:Sl,δ'=δ.set i s->δ'[j]?=δ[j]?:=fun s e=>by rw[e,List.getElem?_set_ne n]
 cases k with
 | bo =>
  have h2:(if d.sc=true then some (δ.set i (.val d true)) else none)=some δ':=h
  by_cases c:d.sc=true
  ·rw[if_pos c] at h2;exact fin _ (Option.some.inj h2).symm
  ·rw[if_neg c] at h2;cases h2
 | sh=>exact fin _ (Option.some.inj (show some (δ.set i (xy (d,if d.sc=true then .nw else .sh)))=some δ' from h)).symm
 | nw=>exact fin _ (Option.some.inj (show some (δ.set i (xy (d,if d.sc=true then .nw else .nw)))=some δ' from h)).symm
 | fr=>exact fin _ (Option.some.inj (show some (δ.set i (xy (d,if d.sc=true then .nw else .fr)))=some δ' from h)).symm
theorem Tg.jM {tg:Tg}{j:Nat}{x:DK}{δ δ':Dl}{vs:List Nat} (h:tg.put x δ=some δ') (hv:tg.within vs) (n:j∉vs):δ'[j]?=δ[j]?:=by
 cases tg with
 | one i=>exact Ir.jM (show Ir.put i x δ=some δ' from h) fun z=>n (by rw[<- z];exact hv)
 | two i k =>
  obtain⟨d,kd⟩:=x
  have go:∀ a b,d = .tup [a,b]->δ'[j]?=δ[j]?:=fun a b e=>by
   subst e
   have h:(Ir.put i (a,kd) δ).bind (Ir.put k (b,kd))=some δ':=h
   cases h1:Ir.put i (a,kd) δ with
   | none=>rw[h1] at h;cases h
   | some δ1 =>
    rw[h1] at h
    rw[Ir.jM (show Ir.put k (b,kd) δ1=some δ' from h) fun z=>n (by rw[<- z];exact hv.2),Ir.jM h1 fun z=>n (by rw[<- z];exact hv.1)]
  cases d with
  | tup l =>
   match l,go,h with
   | [a,b],go,_=>exact go a b rfl
   | [],_,h=>cases h
   | [_],_,h=>cases h
   | _::_::_::_,_,h=>cases h
  | _=>cases h
theorem qdo {tg:Tg}{j:Nat}{σ σ':St}{vs:List Nat} (h:tg.sets σ σ') (hv:tg.within vs) (n:j∉vs):σ'[j]?=σ[j]?:=by
 cases tg with
 | one i=>obtain⟨v,rfl⟩:=h;rw[List.getElem?_set_ne fun z=>n (by rw[<- z];exact hv)]
 | two i k =>
  obtain⟨v,w,rfl⟩:=h
  rw[List.getElem?_set_ne fun z=>n (by rw[<- z];exact hv.2),List.getElem?_set_ne fun z=>n (by rw[<- z];exact hv.1)]
theorem qdz {tg:Tg}{x:DK}{B':Bs}{σ σ3:St}{δ δ2:Dl}{vs:List Nat}{a:Addr} (hp:tg.put x (clear δ vs)=some δ2) (st:tg.sets (wipe σ vs) σ3) (hv:tg.within vs) (h:vx B' (wipe σ vs) (clear δ vs) a):vx B' σ3 δ2 a:=by
 rcases h with h | ⟨j,ds,e1,e2⟩
 ·exact .inl h
 ·rcases zr e1 with z | ⟨n,_⟩
  ·cases z
  ·exact .inr ⟨j,ds,by rw[Tg.jM hp hv n];exact e1,by rw[qdo st hv n];exact e2⟩
theorem WN {g:TG}{tg:Tg}{src:RI}{t:RT}{r:RE}{vs:List Nat}{σ:St}{H:Hp}{Q:VK} (hv:tg.within vs)
  (h:∃ B δ,Rl X.mg X.K B H σ δ/\qo X.mg E H (src δ) fun x=>x.2.length<LIM/\qo X.mg E H (items tg t r (clear δ vs) x.2) fun ys=>∀ D0 acc H',H D0=none->qy H H'->H' D0=some (.lst acc)->(VAs X.mg X.K (Bd B σ δ vs D0) (wipe σ vs) (clear δ vs) H' acc ys/\FA H D0 H' acc ys)->Q (.ref D0) H') :
  tLc (tI X E g tg src) g (TTx X E t) (TEx X E r) vs σ H Q:=by
 obtain⟨B,δ,R,h⟩:=h
 refine⟨B,δ,R,?_⟩
 refine qo.imp h fun x h1 J H1 s1 W D0 hD=>?_
 obtain⟨fl,xs⟩:=x
 have R1:=R.more s1
 have h0:B.H0 D0=none:=R1.same.free hD
 have hDH:H D0=none:=s1.free hD
 have hP:(Bd B σ δ vs D0).P D0:=.inl rfl
 obtain⟨c,h1⟩:=h1
 dsimp only at c h1
 refine⟨fun i m H'=>m=xs.length-i/\i <= xs.length/\Rl X.mg X.K (Bd B σ δ vs D0) H' (wipe σ vs) (clear δ vs)/\qy H1 H'/\∃ acc ys,H' D0=some (.lst acc)/\(VAs X.mg X.K (Bd B σ δ vs D0) (wipe σ vs) (clear δ vs) H' acc ys/\FA H D0 H' acc ys)/\ys.length <= i /\
  qo X.mg E H1 (items tg t r (clear δ vs) (xs.drop i)) fun zs=>∀ D0 acc H',H D0=none->qy H H'->H' D0=some (.lst acc)->(VAs X.mg X.K (Bd B σ δ vs D0) (wipe σ vs) (clear δ vs) H' acc (ys++zs)/\FA H D0 H' acc (ys++zs))->Q (.ref D0) H',⟨xs.length,by lia,Nat.zero_le _,R1.blk hD _,vX hD,[],[],qL,⟨.nil,FA.nil⟩,Nat.le_refl _,qo.more h1 s1⟩,?_⟩
 rintro i m H2 ⟨rfl,hi,R2,s2,acc,ys,hacc,va,hys,h2⟩
 have kp:Kp fl B (Bd B σ δ vs D0) σ δ H1 (wipe σ vs) (clear δ vs) H2:=by
  refine⟨rfl,fun b o e n=>⟨s2 b o e,fun z=>?_⟩,fun _=>s2⟩
  rcases uj.mp z with z | z
  ·rw[z,hD] at e
   cases e
  ·exact n z
 by_cases hlt:i<xs.length
 ·right
  have hx:xs[i]?=some xs[i]:=List.getElem?_eq_getElem hlt
  rw[List.drop_eq_getElem_cons hlt] at h2
  unfold items at h2
  cases hp:tg.put xs[i] (clear δ vs) with
  | none=>rw[hp] at h2;exact h2.elim
  | some δ2 =>
   rw[hp] at h2
   obtain⟨go,yl⟩:=W.1 (Bd B σ δ vs D0) i xs[i] (wipe σ vs) (clear δ vs) δ2 H2 hx R2 kp hp
   refine⟨go,fun H'=>i+1 <= xs.length/\Rl X.mg X.K (Bd B σ δ vs D0) H' (wipe σ vs) (clear δ vs)/\qy H1 H'/\∃ acc ys,H' D0=some (.lst acc)/\(VAs X.mg X.K (Bd B σ δ vs D0) (wipe σ vs) (clear δ vs) H' acc ys/\FA H D0 H' acc ys)/\ys.length <= i+1 /\
    qo X.mg E H1 (items tg t r (clear δ vs) (xs.drop (i+1))) fun zs=>∀ D0 acc H',H D0=none->qy H H'->H' D0=some (.lst acc)->(VAs X.mg X.K (Bd B σ δ vs D0) (wipe σ vs) (clear δ vs) H' acc (ys++zs)/\FA H D0 H' acc (ys++zs))->Q (.ref D0) H',fun H' q=>⟨xs.length-(i+1),by lia,rfl,q.1,q.2⟩,fun v H3 hy=>?_⟩
   refine yl v H3 hy _ fun σ3 H4 R4 f4 s4 st4=>⟨by rw[qbw st4 hv,qbi],?_⟩
   refine⟨Bd B σ δ vs D0,δ2,R4,?_⟩
   have h2:=qo.bind h2
   refine qo.imp (qo.more h2 (s2.trans s4)) fun b h3 H5 s5=>?_
   have s45:=s4.trans s5
   have R5:Rl X.mg X.K (Bd B σ δ vs D0) H5 (wipe σ vs) (clear δ vs):=R2.more s45
   cases b with
   | false =>
    simp only[Bool.false_eq_true,if_false] at h3 ⊢
    exact⟨hlt,R5,s2.trans s45,acc,ys,s45 _ _ hacc,⟨va.1.to fun a _ o e=>s45 a o e,va.2.to fun a _ o e=>s45 a o e⟩,by lia,h3⟩
   | true =>
    simp only[if_true] at h3 ⊢
    refine⟨Bd B σ δ vs D0,δ2,R4.more s5,?_⟩
    have h3:=qo.bind h3
    refine qo.imp (qo.more h3 (s2.trans s45)) fun y h4 w H6 s6 vw=>?_
    have s46:=s45.trans s6
    have hD6:H6 D0=some (.lst acc):=s46 _ _ hacc
    have hl:=va.1.len
    refine⟨acc,hD6,by have e:LIM=16777216:=rfl;have e2:(sizeLine:Nat)=16777216:=rfl;lia,?_⟩
    have R45:=R4.more s5
    have rw1:Rp X.mg X.K (Gk (Bd B σ δ vs D0) (wipe σ vs) (clear δ vs) (y.2.low .nw)) H6 w y.1:=by
     have q:=VR.low R45 .nw vw
     rw[VR.gk (low_ne _ _)] at q
     refine q.weak fun a g=>?_
     have nb:¬ vx (Bd B σ δ vs D0) σ3 δ2 a->¬ vx (Bd B σ δ vs D0) (wipe σ vs) (clear δ vs) a:=fun n z=>n (qdz hp st4 hv z)
     revert g
     cases y.2.low .nw with
     | bo=>exact fun g=>g
     | sh=>exact nb
     | nw=>exact fun g=>⟨nb g.1,g.2⟩
     | fr=>exact fun g=>⟨nb g.1,g.2⟩
    have keepD:∀ a,¬ (Bd B σ δ vs D0).P a->∀ o,H6 a=some o->upd H6 D0 (.lst (acc++[w])) a=some o:=fun a n o e=>by
     rw[qA fun z=>n (by rw[z];exact hP)]
     exact e
    have va6:VAs X.mg X.K (Bd B σ δ vs D0) (wipe σ vs) (clear δ vs) (upd H6 D0 (.lst (acc++[w]))) (acc++[w]) (ys++[y]):=(VAs.snoc (va.1.to fun a _ o e=>s46 a o e) rw1).to keepD
    have fa6:FA H D0 (upd H6 D0 (.lst (acc++[w]))) (acc++[w]) (ys++[y]):=(FA.snoc (va.2.to fun a _ o e=>s45 a o e) (s1.trans (s2.trans s45)) (s45 _ _ hacc) s6 vw).to fun a n o e=>by
     rw[qA n]
     exact e
    have s16:qy H1 (upd H6 D0 (.lst (acc++[w]))):=fun b o e=>by
     rw[qA (vj e hD)]
     exact s46 _ _ (s2 _ _ e)
    refine⟨hlt,((R2.more s46).made hP h0 _),s16,acc++[w],ys++[y],qL,⟨va6,fa6⟩,by rw[List.length_append];exact Nat.add_le_add_right hys 1,?_⟩
    have h5:=qo.bind h4
    cases hi2:items tg t r (clear δ vs) (xs.drop (i+1)) with
    | er c2 =>
     rw[hi2] at h5
     exact h5
    | no=>rw[hi2] at h5;exact h5
    | ok zs =>
     rw[hi2] at h5
     have h6:=h5
     intro D1 acc1 H7 q1 q2 q3 q4
     rw[List.append_assoc] at q4
     exact h6 D1 acc1 H7 q1 q2 q3 q4
 ·left
  have e:i=xs.length:=by lia
  subst e
  rw[List.drop_length] at h2
  refine⟨W.2 (Bd B σ δ vs D0) _ _ _ H2 (Nat.le_refl _) R2 kp,?_⟩
  have h3:=h2 D0 acc H2 hDH (s1.trans s2) hacc
  rw[List.append_nil] at h3
  exact h3 va
theorem qdS {g:TG}{tg:Tg}{src:RI}{t:RT}{r:RE}{vs:List Nat}{σ:St}{H:Hp}{Q:VK} (hv:tg.within vs) (h:TEx X E (zx tg src t r vs) σ H Q) :
  tLc (tI X E g tg src) g (TTx X E t) (TEx X E r) vs σ H Q:=by
 obtain⟨B,δ,R,h⟩:=h
 refine WN hv ⟨B,δ,R,qo.imp (qo.bind h) fun x h1=>?_⟩
 by_cases c:x.2.length<LIM
 ·rw[if_pos c] at h1
  refine⟨c,qo.imp (qo.bind h1) fun ys h3 D0 acc H2 hDH s hacc va=>?_⟩
  have h3:Fin X.mg X.K E B H σ δ (.ok (.lst (ys.map (·.1)),kL (ys.map (·.1)) (qZ ys))) Q:=h3
  refine h3 (.ref D0) H2 s ?_
  show VR _ _ _ _ _ _ _ (kL _ _) _ _
  unfold kL
  split
  ·rename_i cs
   exact⟨D0,_,rfl,rfl,cs,hDH,by rw[hacc,va.1.sc cs]⟩
  ·rw[VR.gk (yB ys)]
   have n1:=R.fresh hDH
   have n2:=R.same.free hDH
   refine .lst ?_ (.of hacc) (va.1.kinds.weak fun a g=>?_)
   ·have n3:=yB ys
    cases hk:qZ ys with
    | bo=>exact fun z=>n1 (.inl z)
    | sh=>exact n1
    | nw=>exact⟨n1,n2⟩
    | fr=>exact absurd hk n3
   ·have nb:¬ vx (Bd B σ δ vs D0) (wipe σ vs) (clear δ vs) a->¬ vx B σ δ a:=fun n z=>n (uj.mpr (.inr z))
    revert g
    cases qZ ys with
    | bo=>exact fun g z=>g (qhx R z)
    | sh=>exact nb
    | nw=>exact fun g=>⟨nb g.1,g.2⟩
    | fr=>exact fun g=>⟨nb g.1,g.2⟩
 ·rw[if_neg c] at h1
  exact h1.elim
theorem zi:PTs X [] (TTx X E zK):=fun pins s σ H Q I ⟨B,δ,R,h⟩=>qdB pins s σ H Q I (h H qy.refl)
theorem yX {elt tgE iter:Expr}{ifs:List Expr}{scope:Scope}{own:List (Str × Nat)}{g:TG}{tg:Tg}{src:RI}{t:RT}{r:RE}{LF:Addr} (hc:X.calm=true) (hN:X.N.Nodup) (acc:Acc X E) (hst:X.stack=X.env::X.outer) (hfr:X.env.frame=some LF)
  (hi:PI X tgE iter (tI X E g tg src)) (ok:jw X.N X.env.scope scope own=true) (hv:tg.within (own.map (·.2)))
  (hg:∀ (s:Shared) (H:Hp) (C:Addr) (cl:List (Str × Addr)) (fp:List Addr),PG (jA X E s H scope (compEnvC scope cl C X.env) fp) tgE g)
  (ht:∀ (s:Shared) (H:Hp) (C:Addr) (cl:List (Str × Addr)) (fp:List Addr),PTs (jA X E s H scope (compEnvC scope cl C X.env) fp) ifs (TTx X E t))
  (he:∀ (s:Shared) (H:Hp) (C:Addr) (cl:List (Str × Addr)) (fp:List Addr),PE (jA X E s H scope (compEnvC scope cl C X.env) fp) elt (TEx X E r)) (hs:autoParam (∀ x,foldedSetIterable iter X.env x=pure x) xI._auto_1) :
  PE X (.ListComp elt [⟨tgE,iter,ifs,0⟩] scope pos) (TEx X E (zx tg src t r (own.map (·.2)))) :=
 vq (US hc hN acc hst hfr hi (WI ok) hg ht he hs) fun _ _ _ h=>qdS hv h
end
noncomputable abbrev jv (P:Program) (w:World) (K:PySem.W.Frag) (mg:Str->Option Value) (base:Heap) (N:List Str) (qual:Str) (scope:Scope) (f:Addr) (cd:Value) (A:Around) (outer:List Env) (s:Shared) (H:Hp) (E:XK):Cx :=
 (ua (CX1 P w) P w K mg base N qual scope f cd A outer s H E).uD (Arr (ua (CX1 P w) P w K mg base N qual scope f cd A outer s H E) E)
theorem Vm {P:Program}{w:World}{K:PySem.W.Frag}{mg:Str->Option Value}{base:Heap}{N:List Str}{qual:Str}{scope:Scope}{f:Addr}{cd:Value}{A:Around}{outer:List Env}{s:Shared}{H:Hp}{E:XK} (nd:N.Nodup):Gd (jv P w K mg base N qual scope f cd A outer s H E) E :=
 ⟨rfl,nd,zL,UM (X:=ua (CX1 P w) P w K mg base N qual scope f cd A outer s H E) rfl rfl⟩
noncomputable def sl0 (N:List Str) (ds:List D):Dl:=ds.map (fun d=>Sl.val d false)++List.replicate (N.length-ds.length) .un
noncomputable def res:Out->Rs (D × Bool)
 | .rt d k=>.ok (d,k)
 | .nx _=>.ok (.non,false)
 | .er c=>.er c
 | _=>.no
theorem rl0 {mg:Str->Option Value}{K:PySem.W.Frag}{H:Hp}{N:List Str}{vs:List V}{ds:List D} (r:qv mg K (fun _=>True) H vs ds):Rl mg K ⟨H,fun _=>False⟩ H (start N vs) (sl0 N ds):=by
 have get:∀ {i:Nat}{s:Sl},(sl0 N ds)[i]?=some s->(∃ d,ds[i]?=some d/\s = .val d false)\/s = .un:=fun {i s} e=>by
  unfold sl0 at e
  by_cases h:i<ds.length
  ·rw[List.getElem?_append_left (by rw[List.length_map];exact h),List.getElem?_map,List.getElem?_eq_getElem h] at e
   exact .inl ⟨ds[i],List.getElem?_eq_getElem h,(Option.some.inj e).symm⟩
  ·rw[List.getElem?_append_right (by rw[List.length_map];lia)] at e
   right
   have:=List.mem_of_getElem? e
   exact (List.mem_replicate.mp this).2
 have own:∀ {p:Addr},¬ vx ⟨H,fun _=>False⟩ (start N vs) (sl0 N ds) p:=fun {p} h=>by
  rcases h with h | ⟨i,es,e,_⟩
  ·exact h
  ·rcases get e with ⟨d,_,z⟩ | z <;> cases z
 refine⟨qy.refl,fun _ h=>h.elim,?_,fun i d k e=>?_,fun i es e=>?_,fun i j p es fs e _ _ _=>?_⟩
 ·unfold start sl0
  rw[List.length_append,List.length_append,List.length_map,List.length_map,List.length_replicate,List.length_replicate,r.len]
 ·rcases get e with ⟨d',hd,z⟩ | z
  ·cases z
   obtain⟨v,hv,rp⟩:=r.getD hd
   refine⟨v,?_,rp.weak fun a _=>⟨own,fun z=>nomatch z⟩⟩
   have hl:i<vs.length:=(List.getElem?_eq_some_iff.mp hv).1
   unfold start
   rw[List.getElem?_append_left (by rw[List.length_map];exact hl),List.getElem?_map,hv]
   rfl
  ·cases z
 ·rcases get e with ⟨d,_,z⟩ | z <;> cases z
 ·rcases get e with ⟨d,_,z⟩ | z <;> cases z
section
variable {P:Program}{w:World}{K:PySem.W.Frag}{mg:Str->Option Value}{base:Heap}
theorem Wa {X:Cx}{E:XK}{st:List Stmt}{t:TS} (h:PSs (X.uD (Arr X E)) st t) (acc:Acc X E):PSs X st t:=fun pins s σ H D I hw =>
 wpAny_mono (h pins s σ H D (I.uD _) hw) (fun _ _ q=>q.yf) fun e s' a=>acc e s' a
theorem qhi {x:Str}{st:Stmt}{f:Addr}{fd:FuncData}{N ps:List Str}{k n:Nat}{g:Fn}{r:RS} (F:Fun K x x st f fd) (S:qw N ps (qg st)) (hm:mg x=some (.ref f)) (hb:Binds K fd ps []) (hn:ps.length=n)
  (body:∀ (cdv:Value) (A:Around) (outer:List Env) (s:Shared) (H:Hp) (E:XK),wN k (A.deeper (envOfC x (qg st) s.heap.objs.size f cdv)) ->
   PSs (jv P w K mg base N x (qg st) f cdv A outer s H E) (vC st) (tS mg K E r))
  (hr:∀ ds:List D,ds.length=n->g ds = .no\/res (r (sl0 N ds))=g ds):Fd P w K mg base (k+1) x n g:=by
 obtain⟨oc,od,kV,doc,pm,an,cdv,ct,osl,rfl,lk,hcd⟩:=F.ex
 refine⟨f,_,ps,qak lk hcd S ?_ fun A outer s H vs Q E hroom hsp=>?_,hm,F.kp,hb⟩
 ·rintro vs H Q E ⟨ds,hl,rp,_⟩
  rw[rp.len,hl,hn]
 ·obtain⟨ds,hl,rp,h⟩:=hsp
  refine⟨_,Wa (body cdv A outer s H E hroom) Y5,⟨H,fun _=>False⟩,sl0 N ds,rl0 rp,?_⟩
  rcases hr ds hl with e | e
  ·rw[e] at h
   exact h.elim
  ·rw[<- e] at h
   cases ho:r (sl0 N ds) with
   | rt d k=>rw[ho] at h;exact fun v H' s rr=>h v H' s rr
   | nx δ'=>rw[ho] at h;exact fun σ' H' R _=>h .non H' R.same Rp.non
   | er c=>rw[ho] at h;exact fun C H' e s=>h C H' e s
   | bk δ'=>rw[ho] at h;exact h.elim
   | ct δ'=>rw[ho] at h;exact h.elim
   | no=>rw[ho] at h;exact h.elim
end
end L2.Ir
namespace L2.Ir
open PySem PySem.Spec PyProof.Rows
open PySem.W (WData Codec OpenSpec Well WellAll ReadsW ReadsAllW)
noncomputable def JT (l:List (Str × Int)) (o:Rs (D × Bool)):Option (List D):=match o with
 | .ok (.lst zs,true)=>some (.int 0::zs)
 | .er c=>(l.lookup c).map fun k=>[.int (-k)]
 | _=>none
noncomputable def qbT (mg:Str->Option Value) (K:PySem.W.Frag) (n:Nat) (g:Fn) (l:List (Str × Int)) (P:Addr):Sp:=fun vs H Q _=>∃ ds zs,ds.length=n/\H P=some (.tbl #[])/\qv mg K (fun _=>True) H vs ds/\JT l (g ds)=some zs/\zs.length <= LIM /\
 ∀ H' p,H' p=some (.lst (zs.map toV))->Q (.ref p) H'
structure Jy (mg:Str->Option Value) (K:PySem.W.Frag) (l:List (Str × Int)) (la:List (Addr × Int)):Prop where
 at_:∀ c C k,mg c=some (.ref C)->l.lookup c=some k->qO K C=true/\la.lookup C=some k
theorem qdW {α β:Type} (f:α->β) (xs:List α):(xs.map f).length=xs.length:=List.length_map f
theorem qf7 {mg:Str->Option Value}{K:PySem.W.Frag}{g:Fn}{r:RA}{l:List (Str × Int)}{la:List (Addr × Int)}{P:Addr}{n:Nat}{N:List Str}{vs:List V}{H:Hp}{Q:VK}{ds zs:List D} (Er:Jy mg K l la) (hP:H P=some (.tbl #[])) (rp:qv mg K (fun _=>True) H vs ds)
  (ha:JT l (g ds)=some zs) (hz:zs.length <= LIM) (hQ:∀ H' p,H' p=some (.lst (zs.map toV))->Q (.ref p) H') (hargs:∃ ks,r (sl0 N ds) = .ok ks/\ks.map (·.1)=ds) :
  qf9 K la P (fun E=>tE mg K E (qi g r)) (start N vs) H Q:=by
 refine⟨hP,fun more f=>?_⟩
 have rp':qv mg K (fun _=>True) (upd H P (.tbl more)) vs ds:=by
  refine qv.mono (G:=fun a=>H a≠some (.tbl #[])) (fun a g=>⟨trivial,fun o e=>by rw[qA (fun z=>g (by rw[z];exact hP))];exact e⟩) _ _ ?_
  have gen:(∀ (d:D) (v:V),Rp mg K (fun _=>True) H v d->Rp mg K (fun a=>H a≠some (.tbl #[])) H v d):=by
   intro d v h
   have ne:∀ {a:Addr}{u:HO},Rd H a u->(∀ ps,u ≠ .tbl ps)->H a≠some (.tbl #[]):=fun {a u} h n z=>by
    rcases h with h | ⟨o,h⟩
    ·rw[z] at h;exact n _ (Option.some.inj h).symm
    ·rw[z] at h;cases h
   exact h.rec (motive_1:=fun v d _=>Rp mg K (fun a=>H a≠some (.tbl #[])) H v d) (motive_2:=fun vs ds _=>qv mg K (fun a=>H a≠some (.tbl #[])) H vs ds)
    .non (fun b=>.bl b) (fun i=>.int i) (fun e=>.fn e) (fun _ s _ ih=>.lst (ne s fun ps z=>nomatch z) s ih) (fun s _ ih=>.lstK s ih) (fun _ s _ ih=>.tup (ne s fun ps z=>nomatch z) s ih) (fun s _ ih=>.tupK s ih) (fun _ m s l _ ih=>.obj (by rw[s];exact fun z=>nomatch z) m s l ih) .nil fun _ _ ih1 ih2=>.cons ih1 ih2
  have all:∀ {vs:List V}{ds:List D},qv mg K (fun _=>True) H vs ds->qv mg K (fun a=>H a≠some (.tbl #[])) H vs ds:=by
   intro vs ds h
   induction ds generalizing vs with
   | nil=>cases h;exact .nil
   | cons d ds ih=>cases h with | cons a b=>exact .cons (gen _ _ a) (ih b)
  exact all rp
 refine⟨⟨upd H P (.tbl more),fun _=>False⟩,sl0 N ds,rl0 rp',?_⟩
 obtain⟨ks,e1,e2⟩:=hargs
 unfold qi
 rw[e1]
 show Fin _ _ _ _ _ _ _ ((g (ks.map (·.1))).bind _) _
 rw[e2]
 cases hg:g ds with
 | no=>rw[hg] at ha;cases ha
 | er c =>
  rw[hg] at ha
  have ha:(l.lookup c).map (fun k=>[D.int (-k)])=some zs:=ha
  cases hl:l.lookup c with
  | none=>rw[hl] at ha;cases ha
  | some k =>
   rw[hl] at ha
   cases ha
   intro C H' hC s
   obtain⟨h1,h2⟩:=Er.at_ c C k hC hl
   exact⟨C,k,rfl,h1,h2,fun p hp=>hQ _ p (by rw[qL];rfl)⟩
 | ok y =>
  rw[hg] at ha
  obtain⟨d,b⟩:=y
  cases b with
  | false=>cases d <;> cases ha
  | true =>
   cases d with
   | lst ws =>
    cases ha
    intro v H' s vr
    obtain⟨p,es,rfl,e,c,h1,h2⟩:=vr
    cases e
    refine qb4 ⟨p,_,rfl,h2,?_,fun q hq p' hp'=>hQ _ p' ?_⟩
    ·rw[qdW]
     have e:(sizeLine:Nat)=LIM:=rfl
     rw[e]
     exact hz
    ·rw[qL]
     rfl
   | _=>cases ha
mutual
noncomputable def ofW:WData->D
 | .none=>.non
 | .bool b=>.bl b
 | .int i=>.int i
 | .list xs=>.lst (YI xs)
 | .tuple xs=>.tup (YI xs)
 | _=>.non
noncomputable def YI:List WData->List D
 | []=>[]
 | x::r=>ofW x::YI r
/-- numbers, truth values, lists and tuples of them -/
noncomputable def plD:WData->Bool
 | .none=>true
 | .bool _=>true
 | .int _=>true
 | .list xs=>W8 xs
 | .tuple xs=>W8 xs
 | _=>false
noncomputable def W8:List WData->Bool
 | []=>true
 | x::r=>plD x&&W8 r
end
mutual
theorem qgD {mg:Str->Option Value}{K:PySem.W.Frag}{H:Hp}:∀ (d:WData) (v:V),plD d=true->Dw K H v d->Rp mg K (fun _=>True) H v (ofW d)
 | .none,_,_,h=>by cases h;exact .non
 | .bool b,_,_,h=>by cases h;exact .bl b
 | .int i,_,_,h=>by cases h;exact .int i
 | .list xs,_,p,h=>by cases h with | lst s a=>exact Rp.ofL s (fun _=>trivial) (Wq xs _ p a)
 | .tuple xs,_,p,h=>by
  cases h with
  | tup s a =>
   rcases s with s | s
   ·exact .tup trivial s (Wq xs _ p a)
   ·exact .tupK (fun _=>.inr s) (Wq xs _ p a)
 | .str _,_,p,_=>nomatch p
 | .bytes _,_,p,_=>nomatch p
 | .float _,_,p,_=>nomatch p
 | .dict _,_,p,_=>nomatch p
 | .bytearray _,_,p,_=>nomatch p
 | .set _,_,p,_=>nomatch p
 | .frozenset _,_,p,_=>nomatch p
 | .obj _ _,_,p,_=>nomatch p
theorem Wq {mg:Str->Option Value}{K:PySem.W.Frag}{H:Hp}:∀ (ds:List WData) (vs:List V),W8 ds=true->zU K H vs ds->qv mg K (fun _=>True) H vs (YI ds)
 | [],_,_,h=>by cases h;exact .nil
 | d::ds,_,p,h=>by
  cases h with
  | cons a b =>
   have q:plD d=true/\W8 ds=true:=Bool.and_eq_true_iff.mp p
   exact .cons (qgD d _ q.1 a) (Wq ds _ q.2 b)
end
theorem Qg:∀ ns:List Int,YI (ns.map WData.int)=ns.map D.int
 | []=>rfl
 | n::r=>by show D.int n::YI (r.map WData.int)=_;rw[Qg r];rfl
theorem Qj:∀ ns:List Int,W8 (ns.map WData.int)=true
 | []=>rfl
 | n::r=>by show (true&&W8 (r.map WData.int))=true;rw[Qj r];rfl
mutual
theorem Dw.same {K:PySem.W.Frag}{H H':Hp} (s:qy H H'):∀ (d:WData) (v:V),Dw K H v d->Dw K H' v d
 | .none,_,h=>by cases h;exact .non
 | .bool b,_,h=>by cases h;exact .bl b
 | .int i,_,h=>by cases h;exact .int i
 | .str x,_,h=>by cases h;exact .str x
 | .bytes b,_,h=>by
  cases h with
  | byt b=>exact .byt b
 | .list xs,_,h=>by cases h with | lst q a=>exact .lst (s.seq q) (zU.same s xs _ a)
 | .tuple xs,_,h=>by
  cases h with
  | tup q a =>
   refine .tup ?_ (zU.same s xs _ a)
   rcases q with (q | ⟨o,q⟩) | q
   ·exact .inl (.inl (s _ _ q))
   ·exact .inl (.inr ⟨o,s _ _ q⟩)
   ·exact .inr q
 | .float _,_,h=>by cases h
 | .dict _,_,h=>by cases h
 | .bytearray _,_,h=>by cases h
 | .set _,_,h=>by cases h
 | .frozenset _,_,h=>by cases h
 | .obj _ _,_,h=>by cases h
theorem zU.same {K:PySem.W.Frag}{H H':Hp} (s:qy H H'):∀ (ds:List WData) (vs:List V),zU K H vs ds->zU K H' vs ds
 | [],_,h=>by cases h;exact .nil
 | d::ds,_,h=>by cases h with | cons a b=>exact .cons (Dw.same s d _ a) (zU.same s ds _ b)
end
theorem qcJ {P:Program}{w:World}{K:PySem.W.Frag}{mg mb:Str->Option Value}{k:Nat}{fa c PT:Addr}{fd:FuncData}{ps:List Str}{sp:Sp}{s₁:Shared}{vals:List Value}{ds:List WData}{R:PySem.W.WRecords}{cl:Str->Option Addr}{d0:WData}
  (KX:K.In s₁.heap) (hno:PySem.W.noTabs K=true) (hns:s₁.heap.Ns mainGlobals mg) (hb:s₁.heap.Ns builtinsNs mb) (hbb:∀ x:Str,x≠"__name__"->mb x=bootBuiltins x) (hlim:s₁.heap.NoLimit) (hg:s₁.gens = #[])
  (hc:PySem.W.CodeHd s₁.heap c PT) (htab:s₁.heap.get? PT=some (PySem.W.tabObj #[])) (hbm:∃ bm ob,mg "__builtins__"=some (.ref bm)/\bm≠builtinsNs/\s₁.heap.get? bm=some ob/\ob.cls = .type "module"/\ob.dict=some builtinsNs/\ob.data = .plain)
  (hwl:WellAll w.params s₁.heap vals ds) (hpl:Q1 ds=true) (hwt:∀ d∈ds,d.weight <= 1048576) (hr:wN k callerA)
  (F:∀ base:Heap,K.In base->base.Ns mainGlobals mg->xV mg base c PT->xX P w K mg base (CX1 P w) k fa fd ps sp) (hbind:∀ (s:Shared) (us:List Value),us.length=ps.length->BindsTo s fd ⟨us,[]⟩ (ps.zip us)) (hlen:ds.length=ps.length)
  (hsp:∀ (H:Hp) (xs:List V),H PT=some (.tbl #[])->zU K H xs ds->sp xs H (fun v H'=>Dw K H' v d0) fun _ _ _=>False) :
  codeAny (model P w) callerA (.call (.ref fa) ⟨vals,[]⟩) (fun r s'=>∃ u as,r = .ok (.ret u)/\ReadsW R cl s'.heap u d0 as/\OldK s₁.heap s'.heap/\s'.os=s₁.os/\AllBare s'.gens) s₁:=by
 obtain⟨A,ho,ar⟩:=j0 ds vals hwl hpl hwt
 have hO:qfd (xM K s₁.heap A):=qaO ar
 have hok0:HOk P w (xM K s₁.heap A) s₁.heap:=qd8 ar
 have hS0:=Yn KX ar ds vals hwl hpl ho
 have hV:=xx ho
 have hK0:∀ b u,xM K s₁.heap A b=some u->K.lookup b=none:=fun b u q=>(Vl ar q).1
 -- what is tracked is a list or a tuple
 have seqs:∀ {b:Addr}{o:Obj},s₁.heap.get? b=some o->(∀ vs n,o.data ≠ .seq vs n)->xM K s₁.heap A b=none:=fun {b o} e d=>by
  cases q:xM K s₁.heap A b with
  | none=>rfl
  | some u =>
   obtain⟨_,vs,_,_,⟨e2,_⟩ | ⟨e2,_⟩⟩:=Vl ar q
   ·rw[e2] at e
    cases e
    exact absurd rfl (d vs.toArray _)
   ·rw[e2] at e
    cases e
    exact absurd rfl (d vs.toArray _)
 generalize xM K s₁.heap A=H0 at hO hok0 hS0 hK0 seqs
 have hP0:H0 PT=none:=seqs htab fun vs n z=>nomatch z
 have sameH:qy H0 (upd H0 PT (.tbl #[])):=vX hP0
 have hok:HOk P w (upd H0 PT (.tbl #[])) s₁.heap:=fun b u q=>by
  by_cases hb:b=PT
  ·subst hb
   rw[qL] at q
   cases q
   exact htab
  ·rw[qA hb] at q
   exact (hok0 b u q).Zm (fun _ _ _ q=>q) (fun c q=>sameH _ _ q) fun c xs q=>sameH _ _ q
 have hS:=zU.same sameH ds _ hS0
 have nPK:K.lookup PT=none:=by
  cases q:K.lookup PT with
  | none=>rfl
  | some o =>
   have e:=KX PT o q
   rw[htab] at e
   cases e
   have h2:=List.all_eq_true.mp hno (PT,_) (PySem.W.mem_of_lookupK q)
   exact absurd (show false=true from h2) Bool.false_ne_true
 have hK:∀ b u,(upd H0 PT (.tbl #[])) b=some u->K.lookup b=none:=fun b u q=>by
  by_cases hb:b=PT
  ·rw[hb];exact nPK
  ·rw[qA hb] at q;exact hK0 b u q
 have noS:∀ {b:Addr}{o:Obj},s₁.heap.get? b=some o->(∀ vs n,o.data ≠ .seq vs n)->(∀ vs,o.data ≠ .fields vs\/o.cls ≠ .none)->(upd H0 PT (.tbl #[])) b=none:=fun {b o} e d d2=>by
  rw[qA]
  ·exact seqs e d
  ·intro z
   rw[z,htab] at e
   cases e
   rcases d2 #[] with q | q <;> exact q rfl
 generalize hH:upd H0 PT (.tbl #[])=H at hok hS hK noS
 have hPH:H PT=some (.tbl #[]):=by rw[<- hH];exact qL
 have base_of:∀ {b:Addr}{o:Obj},s₁.heap.get? b=some o->H b=none->(W4 s₁.heap H).get? b=some o:=fun e n=>qbP e n
 have nsK:∀ {b:Addr}{m:Str->Option Value},s₁.heap.Ns b m->(W4 s₁.heap H).Ns b m:=fun {b m} ⟨o,es,ep,e,d,r⟩=>⟨o,es,ep,base_of e (noS e (fun vs n z=>by rw[d] at z;cases z) fun vs=>.inl fun z=>by rw[d] at z;cases z),d,r⟩
 have nK:∀ b o,K.lookup b=some o->H b=none:=fun b o e=>by
  cases q:H b with
  | none=>rfl
  | some u =>
   rw[hK b u q] at e
   cases e
 have hKb:K.In (W4 s₁.heap H):=fun b o e=>base_of (KX b o e) (nK b o e)
 have hM:Mod K mg (W4 s₁.heap H):=⟨hKb,nsK hns,⟨mb,nsK hb,hbb⟩,let ⟨mc,h1,h2⟩:=hlim;⟨mc,nsK h1,h2⟩⟩
 have e0:Zh P w K mg (W4 s₁.heap H) callerA [] s₁ H:=⟨rfl,hM,fun b o e=>qeH e,Nat.le_of_eq (qaV _ _),trivial,fun b hb=>absurd (show b∈([]:List Addr) from hb) (by simp),hok,.of_eq hg⟩
 have hl:vals.length=ps.length:=by rw[yU hwl];exact hlen
 have BL:xV mg (W4 s₁.heap H) c PT:=by
  refine⟨?_,?_⟩
  ·obtain⟨o,vs,file,tf,flags,tg,inF,text,tt,e1,e2,e3,r⟩:=hc
   exact⟨o,vs,file,tf,flags,tg,inF,text,tt,base_of e1 (noS e1 (fun vs n z=>by rw[e3] at z;cases z) fun vs=>.inr fun z=>by rw[e2] at z;cases z),e2,e3,r⟩
  ·obtain⟨bm,ob,b1,b2,b3,b4,b5,b6⟩:=hbm
   exact⟨bm,ob,b1,b2,base_of b3 (noS b3 (fun vs n z=>by rw[b6] at z;cases z) fun vs=>.inl fun z=>by rw[b6] at z;cases z),b4,b5,b6⟩
 refine codeAny_mono ((F _ hKb (nsK hns) BL).run callerA [] s₁ H ⟨vals,[]⟩ vals (vals.map L2.toV) _ _ hr e0 (hbind s₁ vals hl) hV (hsp H _ hPH hS)) fun r s' x=>?_
 cases r with
 | error e =>
  obtain⟨_,_,_,_,_,_,_,_,_,_,_,q⟩:=x
  exact q.elim
 | ok fl =>
  cases fl with
  | next=>exact False.elim x
  | brk=>exact False.elim x
  | cont=>exact False.elim x
  | ret u =>
   obtain⟨v,H',os,bare,un,hok',r',q⟩:=x
   have kept:∀ b o,b≠PT->s₁.heap.get? b=some o->s'.heap.get? b=some o:=fun b o hb e=>by
    cases q2:H b with
    | none=>exact un.keep b o e q2 (by intro z;exact absurd (show b∈([]:List Addr) from z) (by simp)) (by simp)
    | some u2 =>
     have q3:=q2
     rw[<- hH,qA hb] at q3
     rcases hO b with z | ⟨ob,u3,z⟩
     ·rw[q3] at z
      cases z
     ·rw[q3] at z
      cases z
      have z2:=un.frzs b ob _ q2
      obtain⟨e1,_⟩:=hok b _ q2
      obtain⟨e2,_⟩:=hok' b _ z2
      rw[e] at e1
      cases e1
      exact e2
   obtain⟨more,hm⟩:=un.tbls PT #[] hPH
   have tab':s'.heap.get? PT=some {cls:=.none,data:=.fields (#[]++more)}:=hok' PT _ hm
   have KX':K.In s'.heap:=fun b o e=>kept b o (fun z=>by rw[z,nPK] at e;cases e) (KX b o e)
   obtain⟨as,hrd⟩:=Dw.reads (R:=R) (cl:=cl) hok' KX' d0 v u q r'
   refine⟨u,as,rfl,hrd,⟨fun b o e=>?_,fun b o e=>?_⟩,os,bare⟩
   ·by_cases hb:b=PT
    ·subst hb
     rw[htab] at e
     cases e
     exact .inr (.inl ⟨(hc.tab htab).isCodeTable,rfl,#[],more,rfl,tab'⟩)
    ·exact .inl (kept b o hb e)
   ·by_cases hb:b=PT
    ·subst hb
     exact⟨_,tab'⟩
    ·exact⟨o,kept b o hb e⟩
theorem qcW {r:OpenSpec}{k:Nat}{q:Program}{loose:List Str}{XP:(Str->Option Value)->Heap->Prop}{YP:World->Heap->Prop}{d:DefRec}{K:Params->PySem.W.Frag}{ps:List Str}{sp:PySem.W.Frag->(Str->Option Value)->Addr->Sp}{c PT:Params->Addr}
  (hwell:r.wellSaid=true) (hlen:r.args.length=ps.length) (hr:wN k callerA)
  (hY:∀ (w:World) (h:Heap),YP w h->(K w.params).In h) (hno:∀ p,PySem.W.noTabs (K p)=true) (htab:∀ p,PySem.W.tabIn (K p) d.name=some (c p,PT p)) (hrec:(PyProof.Rows.recsOf q).find? (fun e=>e.name==d.name)=some d)
  (F:∀ (w:World) (mg:Str->Option Value) (fa:Addr) (h:Heap),YP w h->(K w.params).In h->h.Ns mainGlobals mg->mg d.name=some (.ref fa) ->
   ∃ fd:FuncData,(∀ (s:Shared) (us:List Value),us.length=ps.length->BindsTo s fd ⟨us,[]⟩ (ps.zip us)) /\
    ∀ base:Heap,(K w.params).In base->base.Ns mainGlobals mg->xV mg base (c w.params) (PT w.params)->xX r.prog w (K w.params) mg base (CX1 r.prog w) k fa fd ps (sp (K w.params) mg (PT w.params)))
  (hsp:∀ (K:PySem.W.Frag) (mg:Str->Option Value) (PT:Addr) (H:Hp) (xs:List V) (a:Codec.denoteAll r.args),H PT=some (.tbl #[])->Codec.withinAll r.args a=true->Codec.app r.args r.asked a=true->zU K H xs (Codec.encAll r.args a) ->
   sp K mg PT xs H (fun v H'=>Dw K H' v (r.ret.enc (Codec.app r.args r.f a))) fun _ _ _=>False) :
  PySem.W.WalkOS q loose XP YP r d [] (fun f vs=>PySem.call f vs):=by
 intro w s_0 s₁ mg mb G Y fa o pm cd doc dV kV ho hd hcd hD hmg hg args vals as hpre hlay hrd hwl hlo
 obtain⟨a,e1,e2⟩:=PySem.W.os_pre_some hpre
 obtain⟨e3,hwi⟩:=Codec.encAll_of_decAll r.args args a e1
 subst e3
 have KX:=hY w _ Y
 obtain⟨fd,hb,hF⟩:=F w mg fa _ Y KX G.T.g hmg
 obtain⟨hc,ht⟩:=PySem.W.tab_of G.T KX hrec (htab w.params)
 refine PySem.W.enter_call (codeAny_mono (qcJ (R:=[]) (cl:=classAt s_0.heap) (d0:=r.ret.enc (Codec.app r.args r.f a)) KX (hno _) G.T.g G.T.b G.T.builtins G.T.nolimit hg hc ht G.T.bmain hwl (ZA _ _) (WA hlay) hr hF hb (by rw[Vt];exact hlen)
  (fun H xs hP hS=>hsp (K w.params) mg _ H xs a hP hwi e2 hS)) fun r' s' hq=>?_)
 obtain⟨u,as',rfl,h1,h2,h3,h4⟩:=hq
 exact⟨.inl ⟨u,_,as',rfl,fun _=>rfl,h1,(OpenSpec.post_iff hwell hwi _ _).mpr rfl,fun z=>Bool.noConfusion (show false=true from z)⟩,h2,h3,h4⟩
theorem qct {K:PySem.W.Frag}{x:Str}{c PT f:Addr}{oc:Value}{od:Option Addr}{fd:FuncData}{osl:Array (Option Value)} (h:PySem.W.tabIn K x=some (c,PT)) (hn:PySem.W.nsIn K mainGlobals x=some (some (.ref f))) (lk:K.lookup f=some ⟨oc,od,.func fd,osl⟩):fd.code = .ref c:=by
 unfold PySem.W.tabIn at h
 rw[hn] at h
 dsimp only at h
 rw[lk] at h
 dsimp only at h
 split at h
 ·rename_i c' e
  split at h
  ·split at h
   ·cases h
    exact e
   ·cases h
  ·cases h
 ·cases h
inductive qca (P:Program) (w:World) (K:PySem.W.Frag) (mg:Str->Option Value) (base:Heap) (st2:Stmt) (la:List (Addr × Int)):Prop
 | mk (f2:Addr) (oc:Value) (od:Option Addr) (kV doc pm:Value) (an:Option Addr) (cdv ct:Value) (osl:Array (Option Value)) (h0:ExceptHandler) (hs:List ExceptHandler) (q1 q2 q3 q4 q5 q6 q7 q8 q9 q10:Pos) (j:Nat)
  (lk:K.lookup f2=some ⟨oc,od,.func (PySem.W.fnOf "answered" "answered" (wQ st2) (vC st2) (qg st2) .none kV doc pm an cdv ct),osl⟩) (cd:PySem.W.codeIn K cdv "answered"=true) (kp:PySem.W.keepIn K (.ref f2)=true) (hm:mg "answered"=some (.ref f2))
  (hb:vC st2=Yw (h0::hs) q1 q2 q3 q4 q5 q6 q7 q8 q9 q10 j) (S:qw ["work","told"] ["work"] (qg st2)) (hw:(qg st2).names.lookup ("work":Str)=some .local) (ht:(qg st2).names.lookup ("told":Str)=some .local)
  (bi:∀ (s:Shared) (u:Value),BindsTo s (PySem.W.fnOf "answered" "answered" (wQ st2) (vC st2) (qg st2) .none kV doc pm an cdv ct) ⟨[u],[]⟩ ((["work"]:List Str).zip [u]))
  (hH:∀ (A:Around) (outer:List Env) (s:Shared) (H:Hp) (E:XK),Hs (ua (CX1 P w) P w K mg base ["work","told"] "answered" (qg st2) f2 cdv A outer s H E) (h0::hs) la):qca P w K mg base st2 la
section
variable {P:Program}{w:World}{K:PySem.W.Frag}{mg:Str->Option Value}{base:Heap}
theorem qgo {x:Str}{st st2:Stmt}{f c PT:Addr}{fd:FuncData}{ps:List Str}{k n:Nat}{g:Fn}{r:RA}{l:List (Str × Int)}{la:List (Addr × Int)}{p pos rpos lpos:Pos}{params:Arguments}{body:Expr}{ls:Scope}
  (F:Fun K x x st f fd) (S:qw ps ps (qg st)) (hn:ps.length=n) (htab:PySem.W.tabIn K x=some (c,PT)) (hns:PySem.W.nsIn K mainGlobals x=some (some (.ref f))) (BL:xV mg base c PT) (A2:qca P w K mg base st2 la) (Er:Jy mg K l la)
  (hbody:vC st=[.Return (some (.Call (.Name "answered" p) [.Lambda params body ls lpos] [] pos)) rpos]) (L:j4 (qg st) ls) (hgl:(qg st).names.lookup ("answered":Str)=some .globalImplicit) (hdef:∀ env:Env,defaultsOf params env=([],[]))
  (hbind:∀ (q:Str) (c':Addr) (clos:List (Str × Addr)) (pm ctv:Value),bindArgs (PySem.W.kla_fn "<lambda>" q params body ls clos pm (.ref c') ctv) ⟨[],[]⟩=pure [])
  (hcall:∀ (cdv:Value) (A:Around) (outer:List Env) (s0:Shared) (H0:Hp) (E0:XK) (Y:Cx) (q:Str) (f':Addr) (cd:Value) (s:Shared) (H:Hp) (E':XK),wN k (Y.A.deeper (jt (ua (CX1 P w) P w K mg base ps x (qg st) f cdv A outer s0 H0 E0) q ls f' cd s)) ->
   PE (V3 (ua (CX1 P w) P w K mg base ps x (qg st) f cdv A outer s0 H0 E0) Y q ls f' cd s H E') body (tE mg K E' (qi g r)))
  (hargs:∀ ds:List D,ds.length=n->∃ ks,r (sl0 ps ds) = .ok ks/\ks.map (·.1)=ds):xX P w K mg base (CX1 P w) (k+3) f fd ps (qbT mg K n g l PT):=by
 obtain⟨oc,od,kV,doc,pm,an,cdv,ct,osl,rfl,lk,hcd⟩:=F.ex
 have hc:cdv = .ref c:=qct htab hns lk
 refine qak lk hcd S ?_ fun A outer s H vs Q E hroom hsp=>?_
 ·rintro vs H Q E ⟨ds,zs,hl,_,rp,_⟩
  rw[rp.len,hl,hn]
 ·obtain⟨ds,zs,hl,hP,rp,ha,hz,hQ⟩:=hsp
  obtain⟨f2,oc2,od2,kV2,doc2,pm2,an2,cdv2,ct2,osl2,h0,hs,q1,q2,q3,q4,q5,q6,q7,q8,q9,q10,j,lk2,hcd2,hk2,hm2,hb2,S2,hw2,ht2,bi2,hH2⟩:=A2
  rw[hbody]
  rw[hb2] at lk2 bi2
  refine⟨qf2 (qf9 K la PT fun E'=>tE mg K E' (qi g r)),u6 (uh ?_),?_⟩
  ·have q:=X6 (X:=ua (CX1 P w) P w K mg base ps x (qg st) f cdv A outer s H E) (c:=c) (P:=PT) (f2:=f2) (k:=k) (E:=E) (l:=la) (tb:=fun E'=>tE mg K E' (qi g r)) (pos:=pos) (p:=p) (lpos:=lpos) (params:=params) (body:=body) (ls:=ls)
    BL hc (fun _=>rfl) rfl L (hdef _) hroom hgl hm2 hk2 lk2 hcd2 S2 hw2 ht2 (fun s u=>bi2 s u) (fun s H=>hH2 _ _ s H E) (fun c' clos pm ctv=>hbind _ c' clos pm ctv) Y5 (fun Y f' cd s' H' E' hr'=>hcall _ _ _ _ _ _ Y _ f' cd s' H' E' hr')
   exact q
  ·exact qf7 (N:=ps) (n:=n) Er hP rp ha hz hQ (hargs ds hl)
end
section
variable {X:Cx}{E:XK}{pos:Pos}
theorem xv (i:Nat) {x:Str} (hN:autoParam (X.N[i]?=some x) qt._auto_1) (hv:autoParam (Vis X.env.scope x) Jx._auto_1) (hd:autoParam ((x==("__debug__":Str))=false) vd._auto_1)
  (hcd:autoParam ((x==("__classdict__":Str))=false) vd._auto_1):PE X (.Name x pos) (TEx X E (qa i)):=qfq hN hv hd hcd
theorem yd (i:Nat) {x:Str}{e:Expr}{r:RE}{pos':Pos} (g:Gd X E) (he:PE X e (TEx X E r)) (hi:autoParam (X.N[i]?=some x) qt._auto_1) (hx:autoParam (Loc X.env.scope x) Wb._auto_1) (hs:autoParam (swapsWith e (some (.Name x pos')) pos.line X.env=pure false) qt._auto_1)
  (hf:autoParam (X.fn x=true\/X.env.scope.names.lookup x=some .local) WM._auto_1):PS X (.Assign [.Name x pos'] e pos) (TSx X E (vn i r)):=qfm g hi hx he hs hf
theorem qbR (i:Nat) {x:Str}{p:Pos} (hN:autoParam (X.N[i]?=some x) qt._auto_1) (hv:autoParam (Vis X.env.scope x) Jx._auto_1) (hd:autoParam ((x==("__debug__":Str))=false) vd._auto_1) (hcd:autoParam ((x==("__classdict__":Str))=false) vd._auto_1) :
  PS X (.Return (some (.Name x p)) pos) (TSx X E (jr i)):=qdP hN hv hd hcd
theorem pgn (i:Nat) {x:Str} (hN:X.N.Nodup) (hi:autoParam (X.N[i]?=some x) qt._auto_1) (hx:autoParam (Loc X.env.scope x) Wb._auto_1) (hf:autoParam (X.fn x=true\/X.env.scope.names.lookup x=some .local) WM._auto_1):PG X (.Name x pos) (w4 i):=qed hN hi hx hf
theorem pg2 {i j:Nat}{a b:Expr}{k:Nat} (hc:X.calm=true) (ha:PG X a (w4 i)) (hb:PG X b (w4 j)) (hn:autoParam ((assignEach [a,b] X.env).length=2) qt._auto_1) (h1:autoParam ((assignEach [a,b] X.env).map (·.2)=assign a X.env::(assignEach [b] X.env).map (·.2)) qt._auto_1)
  (h2:autoParam ((assignEach [b] X.env).map (·.2)=assign b X.env::(assignEach [] X.env).map (·.2)) qt._auto_1) (hst:autoParam ((assignEach [a,b] X.env).findIdx? (·.1)=none) qt._auto_1):PG X (.Tuple [a,b] k pos) (qdZ X.K 2 (V9 (w4 i) (V9 (w4 j) qeg))):=qgj hc (Ui ha (Ui hb qet h2) h1) hn hst
theorem qal {tgE:Expr}{x:Str}{p:Pos}{body:List Stmt}{g:TG}{tg:Tg}{i:Nat}{rb:RS} (G:Gd X E) (hi:PI X tgE (.Name x p) (tI X E g tg (iOf (qa i)))) (hg:PG X tgE g) (hb:PSs X body (TSx X E rb)):PS X (.For tgE (.Name x p) body [] pos) (TSx X E (Zy tg i rb)):=by
 refine vp (JJ G hi hg hb) fun D σ H ⟨B,δ,R,h⟩=>?_
 unfold Zy at h
 cases hδ:δ[i]? with
 | none=>rw[hδ] at h;exact⟨B,δ,R,h⟩
 | some s =>
  rw[hδ] at h
  cases s with
  | own ds =>
   have q:=R.qho hδ
   exact⟨B,_,q.1,yr.later h q.2⟩
  | un=>exact⟨B,δ,R,h⟩
  | val d k=>exact⟨B,δ,R,h⟩
end
end L2.Ir
namespace Dm
theorem two_pow_pos (k:Nat):0<2^k:=Nat.two_pow_pos k
theorem vG (n d c:Nat) (hc:0<c):Pv.nearest (n*c) (d*c)=Pv.nearest n d:=by
 unfold Pv.nearest
 rw[Nat.mul_mod_mul_right,Nat.mul_div_mul_right _ _ hc]
 have e1:(d*c<2*(n%d*c))↔(d<2*(n%d)):=by
  rw[<- Nat.mul_assoc]
  exact Nat.mul_lt_mul_right hc
 have e2:(2*(n%d*c)=d*c)↔(2*(n%d)=d):=by
  rw[<- Nat.mul_assoc]
  exact Nat.mul_left_inj (Nat.pos_iff_ne_zero.mp hc)
 simp only[e1,e2]
theorem xZ {x k:Nat} (h1:2^k <= x) (h2:x<2^(k+1)):x.log2=k :=
 (Nat.log2_eq_iff (Nat.pos_iff_ne_zero.mp (Nat.lt_of_lt_of_le (two_pow_pos k) h1))).mpr ⟨h1,h2⟩
theorem uU {x:Nat} (h:x≠0):2^x.log2 <= x:=(Nat.le_log2 h).mp (Nat.le_refl _)
theorem yn {x:Nat} (h:x≠0):x<2^(x.log2+1):=(Nat.log2_lt h).mp (Nat.lt_succ_self _)
theorem Xh (x a:Nat) (h:x≠0):(x*2^a).log2=x.log2+a:=by
 refine xZ ?_ ?_
 ·rw[Nat.pow_add]
  exact Nat.mul_le_mul_right _ (uU h)
 ·rw[show x.log2+a+1=x.log2+1+a by lia,Nat.pow_add]
  exact Nat.mul_lt_mul_of_pos_right (yn h) (two_pow_pos a)
theorem Xx (x b:Nat):(x / 2^b).log2=x.log2-b:=by
 by_cases h:x=0
 ·subst h;simp
 by_cases hb:b <= x.log2
 ·refine xZ ?_ ?_
  ·rw[Nat.le_div_iff_mul_le (two_pow_pos b),<- Nat.pow_add,Nat.sub_add_cancel hb]
   exact uU h
  ·rw[Nat.div_lt_iff_lt_mul (two_pow_pos b),<- Nat.pow_add,show x.log2-b+1+b=x.log2+1 by lia]
   exact yn h
 ·have hx:x / 2^b=0:=by
   rw[Nat.div_eq_zero_iff]
   right
   exact Nat.lt_of_lt_of_le (yn h) (Nat.pow_le_pow_right (by decide) (by lia))
  rw[hx,Nat.log2_zero];lia
noncomputable def nw (whole k:Nat):Nat :=
 if k=0 then whole else
 if 2^(k-1)<whole-whole / 2^k*2^k\/(whole-whole / 2^k*2^k=2^(k-1)/\whole / 2^k%2=1) then whole / 2^k+1 else whole / 2^k
theorem jD (whole k:Nat):nw whole k=Pv.nearest whole (2^k):=by
 unfold nw Pv.nearest
 by_cases hk:k=0
 ·subst hk
  simp [Nat.mod_one]
 ·rw[if_neg hk]
  have e:whole-whole / 2^k*2^k=whole%2^k:=by
   have:=Nat.div_add_mod whole (2^k)
   rw[Nat.mul_comm] at this
   lia
  have e2:2^k=2*2^(k-1):=by
   rw[<- Nat.pow_succ']
   congr 1
   lia
  have c1:2^k<2*(whole%2^k)↔2^(k-1)<whole%2^k:=by lia
  have c2:2*(whole%2^k)=2^k↔whole%2^k=2^(k-1):=by lia
  rw[e]
  simp only[c1,c2]
theorem jn (n d:Nat) (hd:0<d):Pv.nearest (n*d) d=n:=by
 unfold Pv.nearest
 rw[Nat.mul_mod_left,Nat.mul_div_cancel _ hd]
 rw[if_neg]
 lia
theorem VF (n d m:Nat) (hd:0<d) (h:n<m*d):Pv.nearest n d <= m:=by
 have:n / d<m:=(Nat.div_lt_iff_lt_mul hd).mpr h
 unfold Pv.nearest
 split <;> lia
theorem V7 (n d m:Nat) (hd:0<d) (h:m*d <= n):m <= Pv.nearest n d:=by
 have:m <= n / d:=(Nat.le_div_iff_mul_le hd).mpr h
 unfold Pv.nearest
 split <;> lia
theorem YY (neg:Bool) (e kept:Nat) (h1:kept <= 2^53) (h2:e=0\/2^52 <= kept) :
  Pv.pack neg (2^e*kept)=if 9218868437227405312 <= e*2^52+kept then none else some ((if neg=true then 2^63 else 0)+(e*2^52+kept)):=by
 have key:(Pv.LIMIT <= 2^e*kept↔9218868437227405312 <= e*2^52+kept):=by
  unfold Pv.LIMIT
  rcases h2 with rfl | h2
  ·constructor
   ·intro h
    have h54:(2:Nat)^54 <= 2^2098:=Nat.pow_le_pow_right (by decide) (by decide)
    rw[Nat.pow_zero,Nat.one_mul] at h
    have:=Nat.le_trans h54 h
    exact absurd this (by lia)
   ·intro h
    exact absurd h (by lia)
  ·constructor
   ·intro h
    have h3:2^e*kept <= 2^(e+53):=by
     rw[Nat.pow_add]
     exact Nat.mul_le_mul_left _ h1
    have h4:2098 <= e+53:=(Nat.pow_le_pow_iff_right (by decide)).mp (Nat.le_trans h h3)
    by_cases he:e=2045
    ·subst he
     have h5:2^2045*2^53 <= 2^2045*kept:=by rw[<- Nat.pow_add];exact h
     clear h
     have:=Nat.le_of_mul_le_mul_left h5 (two_pow_pos 2045)
     clear h5 h3
     lia
    ·lia
   ·intro h
    by_cases he:2046 <= e
    ·have h3:2^(e+52) <= 2^e*kept:=by
      rw[Nat.pow_add]
      exact Nat.mul_le_mul_left _ h2
     exact Nat.le_trans (Nat.pow_le_pow_right (by decide) (by lia)) h3
    ·have he':e=2045:=by lia
     subst he'
     have hk:kept=2^53:=by lia
     rw[hk,<- Nat.pow_add]
     exact Nat.le_refl _
 unfold Pv.pack
 by_cases hl:Pv.LIMIT <= 2^e*kept
 ·rw[if_pos hl,if_pos (key.mp hl)]
 ·rw[if_neg hl,if_neg (fun z=>hl (key.mpr z))]
  congr 2
  rcases h2 with rfl | h2
  ·rw[Nat.pow_zero,Nat.one_mul,Nat.zero_mul,Nat.zero_add]
   by_cases hs:kept<2^52
   ·rw[if_pos hs]
   ·rw[if_neg hs]
    by_cases h53:kept=2^53
    ·subst h53
     rw[Nat.log2_two_pow]
    ·rw[xZ (k:=52) (by lia) (by lia)]
     lia
  ·have hge:2^52 <= 2^e*kept:=Nat.le_trans h2 (Nat.le_mul_of_pos_left _ (two_pow_pos e))
   rw[if_neg (by lia)]
   have hk0:kept≠0:=by lia
   have hlog:(2^e*kept).log2=kept.log2+e:=by rw[Nat.mul_comm];exact Xh _ _ hk0
   by_cases h53:kept=2^53
   ·subst h53
    rw[hlog,Nat.log2_two_pow]
    have:2^e*2^53 / 2^(53+e-52)=2^52:=by
     rw[<- Nat.pow_add,Nat.pow_div (by lia) (by decide)]
     congr 1
     lia
    rw[this]
    lia
   ·have hk2:kept.log2=52:=xZ (by lia) (by lia)
    rw[hlog,hk2]
    have:2^e*kept / 2^(52+e-52)=kept:=by
     rw[show 52+e-52=e by lia,Nat.mul_div_cancel_left _ (two_pow_pos e)]
    rw[this]
    lia
noncomputable def rnd (neg:Bool) (whole:Nat) (q:Int):Option Nat :=
 if whole=0 then some (if neg=true then 2^63 else 0) else
 let drop:Int:=max (((whole.log2+1:Nat):Int)-53) (-q)
 let kept:Nat:=if drop <= 0 then whole*2^(-drop).toNat else nw whole drop.toNat
 let size:Nat:=(q+drop).toNat*2^52+kept
 if 9218868437227405312 <= size then none else some ((if neg=true then 2^63 else 0)+size)
theorem qfx (neg:Bool) (whole n d a b:Nat) (hd:0<d) (h:n*2^b=whole*2^a*d):rnd neg whole ((a:Int)-b)=Pv.pack neg (Pv.rounded n d):=by
 have hnd:n / d=whole*2^a / 2^b:=by
  have e1:n / d=n*2^b / (d*2^b):=(Nat.mul_div_mul_right _ _ (two_pow_pos b)).symm
  rw[e1,h,Nat.mul_comm d,Nat.mul_div_mul_right _ _ hd]
 unfold rnd
 by_cases hw:whole=0
 ·subst hw
  rw[if_pos rfl]
  have hn:n=0:=by
   rw[Nat.zero_mul,Nat.zero_mul] at h
   rcases Nat.mul_eq_zero.mp h with h | h
   ·exact h
   ·exact absurd h (Nat.pos_iff_ne_zero.mp (two_pow_pos b))
  subst hn
  have:Pv.rounded 0 d=0:=by
   unfold Pv.rounded Pv.nearest
   simp
  rw[this]
  unfold Pv.pack Pv.LIMIT
  rw[if_neg (fun z=>absurd z (Nat.not_le.mpr (two_pow_pos 2098))),if_pos (two_pow_pos 52),Nat.add_zero]
 rw[if_neg hw]
 -- the exponent of a last place
 have hlog:(n / d).log2=whole.log2+a-b:=by rw[hnd,Xx,Xh _ _ hw]
 generalize hL:whole.log2=L at hlog
 have lo:2^L <= whole:=by rw[<- hL];exact uU hw
 have hi:whole<2^(L+1):=by rw[<- hL];exact yn hw
 generalize he:L+a-b-52=e
 have hap:Pv.apart (n / d)=2^e:=by
  unfold Pv.apart
  rw[hlog,he]
 have hdrop:max (((L+1:Nat):Int)-53) (-((a:Int)-b))=(e:Int)-a+b:=by lia
 dsimp only
 rw[hdrop]
 have hq:((a:Int)-b+((e:Int)-a+b)).toNat=e:=by lia
 rw[hq]
 have hnear:Pv.nearest n (d*2^e)=Pv.nearest (whole*2^a) (2^(e+b)):=by
  rw[<- vG n (d*2^e) (2^b) (two_pow_pos b),h,show d*2^e*2^b=2^(e+b)*d by rw[Nat.pow_add,Nat.mul_comm d,Nat.mul_assoc,Nat.mul_assoc,Nat.mul_comm d]]
  exact vG _ _ _ hd
 have hkept:(if (e:Int)-a+b <= 0 then whole*2^(-((e:Int)-a+b)).toNat else nw whole ((e:Int)-a+b).toNat)=Pv.nearest n (d*2^e):=by
  rw[hnear]
  by_cases hc:(e:Int)-a+b <= 0
  ·rw[if_pos hc]
   have e3:whole*2^a=whole*2^(-((e:Int)-a+b)).toNat*2^(e+b):=by
    rw[Nat.mul_assoc,<- Nat.pow_add]
    congr 2
    lia
   rw[e3,jn _ _ (two_pow_pos _)]
  ·rw[if_neg hc,jD]
   have e3:2^(e+b)=2^((e:Int)-a+b).toNat*2^a:=by
    rw[<- Nat.pow_add]
    congr 1
    lia
   rw[e3,vG _ _ _ (two_pow_pos _)]
 rw[hkept]
 unfold Pv.rounded
 rw[hap]
 -- bounds
 have up:Pv.nearest n (d*2^e) <= 2^53:=by
  rw[hnear]
  refine VF _ _ _ (two_pow_pos _) ?_
  rw[<- Nat.pow_add]
  refine Nat.lt_of_lt_of_le (Nat.mul_lt_mul_of_pos_right hi (two_pow_pos a)) ?_
  rw[<- Nat.pow_add]
  exact Nat.pow_le_pow_right (by decide) (by lia)
 have dn:e=0\/2^52 <= Pv.nearest n (d*2^e):=by
  by_cases h0:e=0
  ·exact .inl h0
  ·right
   rw[hnear]
   refine V7 _ _ _ (two_pow_pos _) ?_
   rw[<- Nat.pow_add]
   refine Nat.le_trans ?_ (Nat.mul_le_mul_right _ lo)
   rw[<- Nat.pow_add]
   exact Nat.pow_le_pow_right (by decide) (by lia)
 exact (YY neg e _ up dn).symm
end Dm
set_option exponentiation.threshold 4000
namespace Dm
theorem qc3 (neg:Bool) (whole n d a b:Nat) (hw:whole≠0) (hlog:(n / d).log2=whole.log2+a-b)
  (hnear:Pv.nearest n (d*2^(whole.log2+a-b-52))=Pv.nearest (whole*2^a) (2^(whole.log2+a-b-52+b))):rnd neg whole ((a:Int)-b)=Pv.pack neg (Pv.rounded n d):=by
 unfold rnd
 rw[if_neg hw]
 generalize hL:whole.log2=L at hlog hnear
 have lo:2^L <= whole:=by rw[<- hL];exact uU hw
 have hi:whole<2^(L+1):=by rw[<- hL];exact yn hw
 generalize he:L+a-b-52=e at hnear
 have hap:Pv.apart (n / d)=2^e:=by
  unfold Pv.apart
  rw[hlog,he]
 have hdrop:max (((L+1:Nat):Int)-53) (-((a:Int)-b))=(e:Int)-a+b:=by lia
 dsimp only
 rw[hdrop]
 have hq:((a:Int)-b+((e:Int)-a+b)).toNat=e:=by lia
 rw[hq]
 have hkept:(if (e:Int)-a+b <= 0 then whole*2^(-((e:Int)-a+b)).toNat else nw whole ((e:Int)-a+b).toNat)=Pv.nearest n (d*2^e):=by
  rw[hnear]
  by_cases hc:(e:Int)-a+b <= 0
  ·rw[if_pos hc]
   have e3:whole*2^a=whole*2^(-((e:Int)-a+b)).toNat*2^(e+b):=by
    rw[Nat.mul_assoc,<- Nat.pow_add]
    congr 2
    lia
   rw[e3,jn _ _ (two_pow_pos _)]
  ·rw[if_neg hc,jD]
   have e3:2^(e+b)=2^((e:Int)-a+b).toNat*2^a:=by
    rw[<- Nat.pow_add]
    congr 1
    lia
   rw[e3,vG _ _ _ (two_pow_pos _)]
 rw[hkept]
 unfold Pv.rounded
 rw[hap]
 have up:Pv.nearest n (d*2^e) <= 2^53:=by
  rw[hnear]
  refine VF _ _ _ (two_pow_pos _) ?_
  rw[<- Nat.pow_add]
  refine Nat.lt_of_lt_of_le (Nat.mul_lt_mul_of_pos_right hi (two_pow_pos a)) ?_
  rw[<- Nat.pow_add]
  exact Nat.pow_le_pow_right (by decide) (by lia)
 have dn:e=0\/2^52 <= Pv.nearest n (d*2^e):=by
  by_cases h0:e=0
  ·exact .inl h0
  ·right
   rw[hnear]
   refine V7 _ _ _ (two_pow_pos _) ?_
   rw[<- Nat.pow_add]
   refine Nat.le_trans ?_ (Nat.mul_le_mul_right _ lo)
   rw[<- Nat.pow_add]
   exact Nat.pow_le_pow_right (by decide) (by lia)
 exact (YY neg e _ up dn).symm
noncomputable def wa (N M:Nat):Nat:=N / M*2+(if N%M=0 then 0 else 1)
theorem Jb {N M c:Nat} (hM:0<M) (h:N%M≠0):M*c<N↔c <= N / M:=by
 have e:=Nat.div_add_mod N M
 constructor
 ·intro q
  exact (Nat.le_div_iff_mul_le hM).mpr (by rw[Nat.mul_comm];lia)
 ·intro q
  have:M*c <= M*(N / M):=Nat.mul_le_mul_left _ q
  lia
theorem WZ (N M k:Nat) (hM:0<M) (hk:2 <= k):Pv.nearest (2*N) (M*2^k)=Pv.nearest (wa N M) (2^k):=by
 obtain⟨h,rfl⟩:∃ h,k=h+2:=⟨k-2,by lia⟩
 by_cases hz:N%M=0
 ·have e:=Nat.div_add_mod N M
  rw[hz,Nat.add_zero] at e
  have hT:wa N M=N / M*2:=by unfold wa;rw[if_pos hz,Nat.add_zero]
  rw[hT]
  have e2:2*N=N / M*2*M:=by
   rw[Nat.mul_right_comm,Nat.mul_comm (N / M) M,e,Nat.mul_comm]
  rw[e2,Nat.mul_comm M]
  exact vG _ _ _ hM
 ·have hT:wa N M=2*(N / M)+1:=by unfold wa;rw[if_neg hz];lia
  rw[hT]
  have hpow:2^(h+2)=4*2^h:=by rw[Nat.pow_add];lia
  have hpos:0<2^h:=two_pow_pos h
  generalize hf:N / M=f
  have e:=Nat.div_add_mod N M
  rw[hf] at e
  have hlt:N%M<M:=Nat.mod_lt _ hM
  -- the floors are the same
  have hq:2*N / M=2*f\/2*N / M=2*f+1:=by
   have e1:2*N=M*(2*f)+2*(N%M):=by
    rw[Nat.mul_left_comm];lia
   rw[e1,Nat.mul_add_div hM]
   have h2:2*(N%M) / M<2:=(Nat.div_lt_iff_lt_mul hM).mpr (by lia)
   generalize 2*(N%M) / M=z at h2
   lia
  have hF:2*N / (M*2^(h+2))=(2*f+1) / 2^(h+2):=by
   rw[<- Nat.div_div_eq_div_mul]
   have e2:∀ z,z / 2^(h+2)=z / 2 / 2^(h+1):=fun z=>by
    rw[Nat.div_div_eq_div_mul]
    congr 1
    rw[Nat.pow_succ 2 (h+1),Nat.mul_comm]
   rw[e2 (2*N / M),e2 (2*f+1)]
   congr 1
   lia
  generalize hFF:(2*f+1) / 2^(h+2)=F at hF
  -- the halves
  have r1:=Nat.div_add_mod (2*N) (M*2^(h+2))
  have r2:=Nat.div_add_mod (2*f+1) (2^(h+2))
  rw[hF] at r1
  rw[hFF] at r2
  have key:M*(2^h*(2*F+1))<N↔2^h*(2*F+1) <= f:=by
   have:=Jb (c:=2^h*(2*F+1)) hM hz
   rw[hf] at this
   exact this
  have hne:¬ (M*(2^h*(2*F+1))=N):=fun z=>hz (by rw[<- z];exact Nat.mul_mod_right _ _)
  have ex1:M*2^(h+2)*F=2*(2*(M*(2^h*F))):=by
   rw[hpow,Nat.mul_left_comm M,Nat.mul_assoc,Nat.mul_assoc]
   lia
  have ex2:M*2^(h+2)=2*(2*(M*2^h)):=by
   rw[hpow,Nat.mul_left_comm M]
   lia
  have ex3:M*(2^h*(2*F+1))=2*(M*(2^h*F))+M*2^h:=by
   rw[Nat.mul_add,Nat.mul_add,Nat.mul_one,Nat.mul_left_comm (2^h) 2,Nat.mul_left_comm M 2]
  have ex4:2^(h+2)*F=2*(2*(2^h*F)):=by
   rw[hpow,Nat.mul_assoc];lia
  have ex5:2^h*(2*F+1)=2*(2^h*F)+2^h:=by
   rw[Nat.mul_add,Nat.mul_one,Nat.mul_left_comm (2^h) 2]
  rw[ex3,ex5] at key
  rw[ex3] at hne
  have c1:M*2^(h+2)<2*(2*N%(M*2^(h+2)))↔2^(h+2)<2*((2*f+1)%2^(h+2)):=by lia
  have c2:¬ (2*(2*N%(M*2^(h+2)))=M*2^(h+2)):=by lia
  have c3:¬ (2*((2*f+1)%2^(h+2))=2^(h+2)):=by lia
  unfold Pv.nearest
  rw[hF,hFF]
  simp only[c1,c2,c3,false_and,or_false]
theorem UD (N M:Nat) (hM:0<M) (hf:1 <= N / M):2^(wa N M).log2 <= N / M*2/\(N / M+1)*2 <= 2^((wa N M).log2+1):=by
 have hs:wa N M=N / M*2\/wa N M=N / M*2+1:=by unfold wa;split <;> lia
 generalize N / M=f at hs hf
 generalize wa N M=T at hs
 have hT:T≠0:=by lia
 have lo:=uU hT
 have hi:=yn hT
 have hL:1 <= T.log2:=by
  refine (Nat.le_log2 hT).mpr ?_
  lia
 obtain⟨l,e⟩:∃ l,T.log2=l+1:=⟨T.log2-1,by lia⟩
 rw[e] at lo hi ⊢
 rw[Nat.pow_succ] at lo hi ⊢
 rw[Nat.pow_succ] at hi ⊢
 lia
theorem JA (neg:Bool) (N M n d a b:Nat) (hM:0<M) (hd:0<d) (big:2^54 <= N / M) (h:n*2^b*M=2*N*2^a*d):rnd neg (wa N M) ((a:Int)-b)=Pv.pack neg (Pv.rounded n d):=by
 have hs:=UD N M hM (Nat.le_trans (two_pow_pos 54) big)
 have hT:N / M*2 <= wa N M:=by unfold wa;lia
 have hw:wa N M≠0:=by
  have:=two_pow_pos 54
  lia
 have hL:55 <= (wa N M).log2:=(Nat.le_log2 hw).mpr (Nat.le_trans (by lia) hT)
 have hnd:n / d=2*N*2^a / M / 2^b:=by
  have e1:n / d=n*(2^b*M) / (d*(2^b*M)):=(Nat.mul_div_mul_right _ _ (Nat.mul_pos (two_pow_pos b) hM)).symm
  rw[e1,<- Nat.mul_assoc,h,Nat.mul_comm d,Nat.mul_div_mul_right _ _ hd,Nat.div_div_eq_div_mul,Nat.mul_comm M]
 refine qc3 neg _ n d a b hw ?_ ?_
 ·rw[hnd,Xx]
  congr 1
  generalize hLL:(wa N M).log2=L at hs
  refine xZ ?_ ?_
  ·rw[Nat.le_div_iff_mul_le hM,Nat.pow_add,Nat.mul_right_comm]
   refine Nat.mul_le_mul_right _ ?_
   have e:=Nat.div_mul_le_self N M
   calc 2^L*M <= N / M*2*M:=Nat.mul_le_mul_right _ hs.1
    _=2*(N / M*M):=by rw[Nat.mul_right_comm,Nat.mul_comm]
    _ <= 2*N:=Nat.mul_le_mul_left _ e
  ·rw[Nat.div_lt_iff_lt_mul hM]
   rw[show L+a+1=L+1+a by lia,Nat.pow_add,Nat.mul_right_comm (2^(L+1))]
   refine Nat.mul_lt_mul_of_pos_right ?_ (two_pow_pos a)
   have e:N<(N / M+1)*M:=by
    have:=Nat.lt_mul_div_succ N hM
    rw[Nat.mul_comm];exact this
   calc 2*N<2*((N / M+1)*M):=by lia
    _=(N / M+1)*2*M:=by rw[Nat.mul_right_comm,Nat.mul_comm]
    _ <= 2^(L+1)*M:=Nat.mul_le_mul_right _ hs.2
 ·generalize hLL:(wa N M).log2=L at hL
  generalize he:L+a-b-52=e
  obtain⟨k,ek⟩:∃ k,e+b=k+a:=⟨e+b-a,by lia⟩
  have hk:2 <= k:=by lia
  have e1:Pv.nearest n (d*2^e)=Pv.nearest (2*N*2^a) (M*2^(e+b)):=by
   rw[<- vG n (d*2^e) (2^b*M) (Nat.mul_pos (two_pow_pos b) hM),<- Nat.mul_assoc,h,show d*2^e*(2^b*M)=M*2^(e+b)*d by rw[Nat.pow_add,Nat.mul_comm d,Nat.mul_assoc,Nat.mul_comm M,Nat.mul_assoc (2^e*2^b),Nat.mul_comm M d,Nat.mul_assoc,Nat.mul_left_comm d]]
   exact vG _ _ _ hd
  rw[e1,ek,Nat.pow_add,<- Nat.mul_assoc,vG _ _ _ (two_pow_pos a),vG _ _ _ (two_pow_pos a)]
  exact WZ N M k hM hk
noncomputable def sg (x:Nat):Nat:=x / 2^63
noncomputable def sz (x:Nat):Nat:=x%2^63
noncomputable def wh (x:Nat):Nat:=if sz x=x%2^52 then x%2^52 else x%2^52+2^52
noncomputable def ex (x:Nat):Nat:=max (sz x / 2^52) 1-1
noncomputable def sw (x:Nat):Int:=if sg x=1 then -(wh x:Int) else wh x
theorem yP (x:Nat):Pv.exponent x=sz x / 2^52:=by
 unfold Pv.exponent sz
 omega
theorem xk (x:Nat) (h:x<2^64):Pv.isNeg x=decide (sg x=1):=by
 unfold Pv.isNeg sg
 rw[Nat.testBit_eq_decide_div_mod_eq]
 congr 1
 have:x / 2^63<2:=by lia
 rw[Nat.mod_eq_of_lt this]
theorem QL (x:Nat):sz x=x%2^52↔Pv.exponent x=0:=by
 rw[yP]
 unfold sz
 lia
theorem jB (x:Nat):Pv.mag x=wh x*2^ex x:=by
 unfold Pv.mag wh ex
 by_cases h:Pv.exponent x=0
 ·rw[if_pos h,if_pos ((QL x).mpr h)]
  rw[yP] at h
  rw[h]
  simp
 ·rw[if_neg h,if_neg (fun z=>h ((QL x).mp z)),Nat.add_comm]
  rw[yP] at h ⊢
  rw[Nat.max_eq_left (by lia)]
theorem val_eq (x:Nat) (h:x<2^64):Pv.val x=sw x*2^ex x:=by
 unfold Pv.val sw
 rw[xk x h,jB]
 by_cases hs:sg x=1
 ·rw[if_pos (decide_eq_true hs),if_pos hs]
  simp [Int.neg_mul]
 ·rw[if_neg (by simpa using hs),if_neg hs]
  simp
theorem VT (x:Nat):wh x<2^53:=by unfold wh;split <;> lia
theorem z8 (x:Nat):wh x=0↔sz x=0:=by
 unfold wh sz
 split <;> lia
theorem zD (x:Nat):Pv.mag x=0↔sz x=0:=by
 rw[jB,Nat.mul_eq_zero,z8]
 constructor
 ·rintro (h | h)
  ·exact h
  ·exact absurd h (Nat.pos_iff_ne_zero.mp (two_pow_pos _))
 ·exact .inl
theorem Jj (x:Nat):Pv.isFinite x=decide (sz x<9218868437227405312):=by
 unfold Pv.isFinite
 rw[yP]
 have:sz x<2^63:=by unfold sz;lia
 by_cases h:sz x<9218868437227405312
 ·rw[decide_eq_true h]
  have:sz x / 2^52<2047:=by lia
  simp only[bne_iff_ne,ne_eq]
  lia
 ·rw[decide_eq_false h]
  have:sz x / 2^52=2047:=by lia
  rw[this]
  rfl
noncomputable def flip (x:Nat):Nat:=if sg x=1 then x-2^63 else x+2^63
theorem XC (x:Nat) (h:x<2^64):Pv.minus x=flip x:=by
 unfold Pv.minus flip
 rw[xk x h]
 by_cases hs:sg x=1
 ·rw[if_pos (decide_eq_true hs),if_pos hs]
 ·rw[if_neg (by simpa using hs),if_neg hs]
theorem qeh (x:Nat) (h:x<2^64):flip x<2^64:=by
 unfold flip sg
 split <;> lia
theorem qbV (x:Nat) (h:x<2^64):x ^^^ 2^63=flip x:=by
 unfold flip sg
 refine Nat.eq_of_testBit_eq fun i=>?_
 rw[Nat.testBit_xor,Nat.testBit_two_pow]
 split
 ·rename_i hs
  have hx:x=2^63+(x-2^63):=by lia
  have hlt:x-2^63<2^63:=by lia
  generalize x-2^63=y at hx hlt
  subst hx
  by_cases hi:i=63
  ·subst hi
   simp only[decide_true]
   rw[Nat.testBit_two_pow_add_eq,Nat.testBit_lt_two_pow hlt]
   rfl
  ·rw[decide_eq_false (fun z=>hi z.symm),Bool.xor_false]
   by_cases h2:i<63
   ·exact Nat.testBit_two_pow_add_gt h2 y
   ·rw[Nat.testBit_lt_two_pow (Nat.lt_of_lt_of_le hlt (Nat.pow_le_pow_right (by decide) (by lia))),Nat.testBit_lt_two_pow]
    exact Nat.lt_of_lt_of_le h (Nat.pow_le_pow_right (by decide) (by lia))
 ·rename_i hs
  have hlt:x<2^63:=by lia
  rw[Nat.add_comm x]
  by_cases hi:i=63
  ·subst hi
   simp only[decide_true]
   rw[Nat.testBit_two_pow_add_eq,Nat.testBit_lt_two_pow hlt]
   rfl
  ·rw[decide_eq_false (fun z=>hi z.symm),Bool.xor_false]
   by_cases h2:i<63
   ·exact (Nat.testBit_two_pow_add_gt h2 x).symm
   ·rw[Nat.testBit_lt_two_pow (Nat.lt_of_lt_of_le hlt (Nat.pow_le_pow_right (by decide) (by lia))),Nat.testBit_lt_two_pow]
    exact Nat.lt_of_lt_of_le (show 2^63+x<2^64 by lia) (Nat.pow_le_pow_right (by decide) (by lia))
noncomputable def U8 (x y z:Nat):Option Nat :=
 let pxy:Int:=ex x+ex y-2148
 let pz:Int:=ex z-1074
 let low:Int:=min pxy pz
 let total:Int:=sw x*sw y*2^(pxy-low).toNat+sw z*2^(pz-low).toNat
 if total=0 then some (if (sg x≠sg y)/\sg z=1 then 2^63 else 0)
 else rnd (decide (total<0)) total.natAbs (low+1074)
noncomputable def Qt (x y:Nat):Option Nat:=if sz y=0 then none else rnd (decide (sg x≠sg y)) (wa (wh x*2^112) (wh y)) ((ex x:Int)-ex y+961)
noncomputable def isqrt (n:Nat):Nat:=Pv.root n
noncomputable def qbF (x:Nat):Option Nat :=
 if sz x=0 then some x else if sg x=1 then none else
 let N:=wh x*2^(112+ex x%2)
 rnd false (isqrt N*2+(if N=isqrt N*isqrt N then 0 else 1)) ((((ex x-ex x%2+962) / 2:Nat):Int)-1)
theorem qdp {x y:Nat} (hx:x<2^64) (hy:y<2^64):(Pv.isNeg x != Pv.isNeg y)=decide (sg x≠sg y):=by
 rw[xk x hx,xk y hy]
 have h1:sg x=0\/sg x=1:=by unfold sg;lia
 have h2:sg y=0\/sg y=1:=by unfold sg;lia
 rcases h1 with h1 | h1 <;> rcases h2 with h2 | h2 <;> rw[h1,h2] <;> rfl
theorem qdm:(Pv.UNIT:Int)=2^1074:=by
 unfold Pv.UNIT
 rw[Int.natCast_pow]
 rfl
theorem qbS {x y z:Nat} (hx:x<2^64) (hy:y<2^64) (hz:z<2^64):U8 x y z=Pv.fused x y z:=by
 unfold U8 Pv.fused Pv.ofSum
 dsimp only
 generalize hlow:min ((ex x:Int)+ex y-2148) ((ex z:Int)-1074)=low
 obtain⟨a,ha⟩:∃ a:Nat,low+2148=a:=⟨(low+2148).toNat,by lia⟩
 have e1:((ex x:Int)+ex y-2148-low).toNat+a=ex x+ex y:=by lia
 have e2:((ex z:Int)-1074-low).toNat+a=ex z+1074:=by lia
 generalize ((ex x:Int)+ex y-2148-low).toNat=u at e1
 generalize ((ex z:Int)-1074-low).toNat=v at e2
 have hs:Pv.val x*Pv.val y+Pv.val z*(Pv.UNIT:Int)=(sw x*sw y*2^u+sw z*2^v)*2^a:=by
  rw[val_eq x hx,val_eq y hy,val_eq z hz,Int.add_mul]
  congr 1
  ·rw[Int.mul_assoc (sw x*sw y),<- Int.pow_add,e1,Int.pow_add]
   ac_rfl
  ·rw[Int.mul_assoc,Int.mul_assoc,<- Int.pow_add,e2]
   rw[Int.pow_add,qdm]
 rw[hs]
 generalize htot:sw x*sw y*2^u+sw z*2^v=total
 have hpa:(2:Int)^a≠0:=Int.ne_of_gt (Int.pow_pos (by decide))
 by_cases h0:total=0
 ·rw[if_pos h0,h0,Int.zero_mul,if_pos rfl]
  rw[xk z hz,qdp hx hy]
  congr 1
  by_cases c1:sg x≠sg y <;> by_cases c2:sg z=1 <;> simp [c1,c2]
 ·rw[if_neg h0,if_neg (fun q=>(Int.mul_eq_zero.mp q).elim h0 hpa)]
  have hneg:decide (total*2^a<0)=decide (total<0):=by
   congr 1
   refine propext ⟨fun q=>?_,fun q=>?_⟩
   ·refine Int.not_le.mp fun z=>?_
    exact absurd (Int.mul_nonneg z (Int.le_of_lt (Int.pow_pos (by decide):(0:Int)<2^a))) (Int.not_le.mpr q)
   ·exact Int.mul_neg_of_neg_of_pos q (Int.pow_pos (by decide))
  rw[hneg]
  have hq:low+1074=(a:Int)-(1074:Nat):=by lia
  rw[hq]
  refine qfx _ _ _ _ a 1074 (two_pow_pos 1074) ?_
  rw[Int.natAbs_mul,Int.natAbs_pow]
  rfl
theorem qgh {x y:Nat} (hx:x<2^64) (hy:y<2^64):Qt x y=Pv.div x y:=by
 unfold Qt Pv.div
 by_cases h0:sz y=0
 ·rw[if_pos h0,if_pos ((zD y).mpr h0)]
 rw[if_neg h0,if_neg (fun z=>h0 ((zD y).mp z)),qdp hx hy]
 have hM:0<wh y:=Nat.pos_of_ne_zero fun z=>h0 ((z8 y).mp z)
 by_cases hx0:wh x=0
 ·have hm:Pv.mag x=0:=by rw[jB,hx0,Nat.zero_mul]
  rw[hx0,hm]
  have:wa (0*2^112) (wh y)=0:=by unfold wa;simp
  rw[this,Nat.zero_mul]
  have hr:Pv.rounded 0 (Pv.mag y)=0:=by unfold Pv.rounded Pv.nearest;simp
  rw[hr]
  unfold rnd Pv.pack Pv.LIMIT
  rw[if_pos rfl,if_neg (fun z=>absurd z (Nat.not_le.mpr (two_pow_pos 2098))),if_pos (two_pow_pos 52),Nat.add_zero]
 ·have big:2^54 <= wh x*2^112 / wh y:=by
   rw[Nat.le_div_iff_mul_le hM]
   have:=VT y
   calc 2^54*wh y <= 2^54*2^53:=Nat.mul_le_mul_left _ (Nat.le_of_lt this)
    _ <= 1*2^112:=by decide
    _ <= wh x*2^112:=Nat.mul_le_mul_right _ (by lia)
  have:=JA (decide (sg x≠sg y)) (wh x*2^112) (wh y) (Pv.mag x*Pv.UNIT) (Pv.mag y) (ex x+961) (ex y) hM (by
   rw[jB];exact Nat.mul_pos hM (two_pow_pos _)) big (by
   rw[jB,jB]
   unfold Pv.UNIT
   have e:(2:Nat)^1074=2*2^112*2^961:=by
    rw[show (1074:Nat)=1+112+961 from rfl,Nat.pow_add,Nat.pow_add]
   rw[e,Nat.pow_add]
   ac_rfl)
  rw[<- this]
  congr 1
  lia
theorem xf:∀ (k n x:Nat),x*x <= n->n<(x+2^k)*(x+2^k)->Pv.rootFrom k n x*Pv.rootFrom k n x <= n/\n<(Pv.rootFrom k n x+1)*(Pv.rootFrom k n x+1)
 | 0,n,x,h1,h2=>⟨h1,h2⟩
 | k+1,n,x,h1,h2=>by
  unfold Pv.rootFrom
  split
  ·rename_i h
   refine xf k n _ h ?_
   rw[Nat.add_assoc,show 2^k+2^k=2^(k+1) by rw[Nat.pow_succ];lia]
   exact h2
  ·rename_i h
   exact xf k n _ h1 (by lia)
theorem uX (n:Nat):Pv.root n*Pv.root n <= n/\n<(Pv.root n+1)*(Pv.root n+1):=by
 unfold Pv.root
 refine xf _ n 0 (Nat.zero_le _) ?_
 rw[Nat.zero_add]
 by_cases h:n=0
 ·subst h;decide
 ·have:=yn h
  exact Nat.lt_of_lt_of_le this (Nat.le_mul_of_pos_right _ (two_pow_pos _))
theorem qbb {n r:Nat} (h1:r*r <= n) (h2:n<(r+1)*(r+1)):Pv.root n=r:=by
 obtain⟨g1,g2⟩:=uX n
 generalize Pv.root n=s at g1 g2
 have a:¬ r<s:=fun z=>by
  have:=Nat.mul_le_mul (show r+1 <= s from z) (show r+1 <= s from z)
  lia
 have b:¬ s<r:=fun z=>by
  have:=Nat.mul_le_mul (show s+1 <= r from z) (show s+1 <= r from z)
  lia
 lia
theorem uP {a b:Nat}:a*a<b*b↔a<b:=by
 constructor
 ·intro h
  refine Nat.lt_of_not_le fun z=>?_
  have:=Nat.mul_le_mul z z
  lia
 ·intro h
  exact Nat.mul_lt_mul'' h h
theorem qbu {n f c:Nat} (h1:f*f <= n) (h2:n<(f+1)*(f+1)):c*c<n↔c<f\/(c=f/\n≠f*f):=by
 constructor
 ·intro h
  have:c<f+1:=uP.mp (Nat.lt_trans h h2)
  by_cases e:c=f
  ·subst e;exact .inr ⟨rfl,by lia⟩
  ·exact .inl (by lia)
 ·rintro (h | ⟨rfl,h⟩)
  ·exact Nat.lt_of_lt_of_le (uP.mpr h) h1
  ·lia
theorem qbI {o i j w:Nat} (ho:o%2=1) (hw:0<w) (h:o*2^j=w*2^i):o <= w:=by
 have hij:i <= j:=by
  refine Nat.le_of_not_lt fun z=>?_
  obtain⟨d,rfl⟩:∃ d,i=j+1+d:=⟨i-j-1,by lia⟩
  rw[show j+1+d=(1+d)+j by lia,Nat.pow_add 2 (1+d) j,<- Nat.mul_assoc] at h
  have:=Nat.eq_of_mul_eq_mul_right (two_pow_pos j) h
  rw[this,Nat.pow_add,Nat.pow_one,<- Nat.mul_assoc,Nat.mul_comm w,Nat.mul_assoc] at ho
  lia
 obtain⟨d,rfl⟩:∃ d,j=d+i:=⟨j-i,by lia⟩
 rw[Nat.pow_add,<- Nat.mul_assoc] at h
 have:=Nat.eq_of_mul_eq_mul_right (two_pow_pos i) h
 rw[<- this]
 exact Nat.le_mul_of_pos_right _ (two_pow_pos d)
theorem qdX {x:Nat} (hx:x<2^64) (hf:sz x<9218868437227405312):qbF x=Pv.sqrt x:=by
 unfold qbF Pv.sqrt
 by_cases h0:sz x=0
 ·rw[if_pos h0,if_pos ((zD x).mpr h0)]
 rw[if_neg h0,if_neg (fun z=>h0 ((zD x).mp z)),xk x hx]
 by_cases hs:sg x=1
 ·rw[if_pos hs,if_pos (decide_eq_true hs)]
 rw[if_neg hs,if_neg (by simpa using hs)]
 dsimp only
 generalize hr:(ex x-ex x%2+962) / 2=r
 generalize hN:wh x*2^(112+ex x%2)=N
 have hw:0<wh x:=Nat.pos_of_ne_zero fun z=>h0 ((z8 x).mp z)
 have hw2:=VT x
 have hn:Pv.mag x*Pv.UNIT=N*(2^r*2^r):=by
  rw[jB,<- hN]
  unfold Pv.UNIT
  rw[Nat.mul_assoc,Nat.mul_assoc,<- Nat.pow_add,<- Nat.pow_add,<- Nat.pow_add]
  congr 2
  lia
 rw[hn]
 unfold isqrt
 obtain⟨g1,g2⟩:=uX N
 generalize hfN:Pv.root N=f at g1 g2
 -- how large
 have hNlo:2^112 <= N:=by
  rw[<- hN,Nat.pow_add]
  exact Nat.le_trans (Nat.le_mul_of_pos_right _ (two_pow_pos _)) (Nat.le_mul_of_pos_left _ hw)
 have hf56:2^56 <= f:=by
  refine Nat.le_of_not_lt fun z=>?_
  have:=Nat.mul_le_mul (show f+1 <= 2^56 from z) (show f+1 <= 2^56 from z)
  have e:(2:Nat)^56*2^56=2^112:=by decide
  lia
 -- the root of n
 obtain⟨k1,k2⟩:=uX (N*(2^r*2^r))
 generalize hR:Pv.root (N*(2^r*2^r))=R at k1 k2
 have hRlo:f*2^r <= R:=by
  have:(f*2^r)*(f*2^r)<(R+1)*(R+1):=by
   refine Nat.lt_of_le_of_lt ?_ k2
   rw[Nat.mul_mul_mul_comm]
   exact Nat.mul_le_mul_right _ g1
  have:=uP.mp this
  lia
 have hRhi:R<(f+1)*2^r:=by
  refine uP.mp (Nat.lt_of_le_of_lt k1 ?_)
  rw[Nat.mul_mul_mul_comm]
  exact Nat.mul_lt_mul_of_pos_right g2 (Nat.mul_pos (two_pow_pos r) (two_pow_pos r))
 have hRf:R / 2^r=f:=by
  have a:f <= R / 2^r:=(Nat.le_div_iff_mul_le (two_pow_pos r)).mpr hRlo
  have b:R / 2^r<f+1:=(Nat.div_lt_iff_lt_mul (two_pow_pos r)).mpr hRhi
  lia
 -- logs
 have hf0:f≠0:=by
  have:=two_pow_pos 56
  lia
 generalize hlf:f.log2=l
 have llo:2^l <= f:=by rw[<- hlf];exact uU hf0
 have lhi:f<2^(l+1):=by rw[<- hlf];exact yn hf0
 have hl56:56 <= l:=by rw[<- hlf];exact (Nat.le_log2 hf0).mpr hf56
 have hlR:R.log2=l+r:=by
  refine xZ ?_ ?_
  ·rw[Nat.pow_add]
   exact Nat.le_trans (Nat.mul_le_mul_right _ llo) hRlo
  ·refine Nat.lt_of_lt_of_le hRhi ?_
   rw[show l+r+1=l+1+r by lia,Nat.pow_add]
   exact Nat.mul_le_mul_right _ lhi
 generalize hT:f*2+(if N=f*f then 0 else 1)=T
 have hTf:T=2*f\/T=2*f+1:=by rw[<- hT];split <;> lia
 have hlT:T.log2=l+1:=by
  refine xZ ?_ ?_
  ·rw[Nat.pow_succ];lia
  ·rw[Nat.pow_succ,Nat.mul_comm]
   rw[Nat.pow_succ] at lhi ⊢
   lia
 have hT0:T≠0:=by lia
 have hr481:481 <= r:=by lia
 -- both sides
 unfold Pv.rootRounded
 dsimp only
 rw[hR]
 have hap:Pv.apart R=2^(l+r-52):=by unfold Pv.apart;rw[hlR]
 rw[hap]
 have ht:R / 2^(l+r-52)=f / 2^(l-52):=by
  rw[show l+r-52=r+(l-52) by lia,Nat.pow_add,<- Nat.div_div_eq_div_mul,hRf]
 rw[ht]
 obtain⟨h,hh⟩:∃ h,l-52=h+1:=⟨l-53,by lia⟩
 -- T / 2^(l-51) is F
 generalize hF:f / 2^(l-52)=F
 have hTF:T / 2^(l-51)=F:=by
  rw[<- hF,show l-51=1+(l-52) by lia,Nat.pow_add,<- Nat.div_div_eq_div_mul]
  congr 1
  lia
 have hFlo:2^52 <= F:=by
  rw[<- hF,Nat.le_div_iff_mul_le (two_pow_pos _),<- Nat.pow_add]
  exact Nat.le_trans (Nat.pow_le_pow_right (by decide) (by lia)) llo
 have hFhi:F<2^53:=by
  rw[<- hF,Nat.div_lt_iff_lt_mul (two_pow_pos _),<- Nat.pow_add]
  exact Nat.lt_of_lt_of_le lhi (Nat.pow_le_pow_right (by decide) (by lia))
 -- the half
 have hc:(2*F+1)*(2*F+1)*2^(l+r-52)*2^(l+r-52)<4*(N*(2^r*2^r))↔(2*F+1)*2^h*((2*F+1)*2^h)<N:=by
  have e1:(2:Nat)^(l+r-52)=2*(2^h*2^r):=by
   rw[show l+r-52=(h+r)+1 by lia,Nat.pow_succ,Nat.pow_add,Nat.mul_comm]
  rw[e1]
  have e2:(2*F+1)*(2*F+1)*(2*(2^h*2^r))*(2*(2^h*2^r))=4*((2*F+1)*2^h*((2*F+1)*2^h))*(2^r*2^r):=by
   rw[show (4:Nat)=2*2 from rfl]
   ac_rfl
  rw[e2,<- Nat.mul_assoc 4 N,Nat.mul_lt_mul_right (Nat.mul_pos (two_pow_pos r) (two_pow_pos r)),Nat.mul_lt_mul_left (by decide)]
 simp only[hc]
 clear hc
 generalize hcc:(2*F+1)*2^h=c
 have hlt:=qbu (c:=c) g1 g2
 have hnt:¬ (c=f/\N=f*f):=by
  rintro⟨e1,e2⟩
  rw[<- e1,<- hcc,<- hN] at e2
  have hodd:((2*F+1)*(2*F+1))%2=1:=by
   rw[Nat.mul_mod]
   have:(2*F+1)%2=1:=by lia
   rw[this]
  have:=qbI (o:=(2*F+1)*(2*F+1)) (i:=112+ex x%2) (j:=h+h) (w:=wh x) hodd hw (by
   rw[e2,Nat.pow_add 2 h h]
   exact (Nat.mul_mul_mul_comm _ _ _ _).symm)
  have h3:2^53 <= 2*F+1:=by lia
  have:=Nat.mul_le_mul h3 h3
  have e:(2:Nat)^53 <= 2^53*2^53:=by decide
  lia
 have hround:Pv.nearest T (2^(l-51))=if c*c<N then F+1 else F:=by
  unfold Pv.nearest
  have r2:=Nat.div_add_mod T (2^(l-51))
  rw[hTF] at r2
  rw[hTF]
  have hp:2^(l-51)=4*2^h:=by
   rw[show l-51=h+2 by lia,Nat.pow_add];lia
  rw[hp] at r2 ⊢
  have e4:4*2^h*F=2*(2*(2^h*F)):=by rw[Nat.mul_assoc];lia
  have e5:c=2*(2^h*F)+2^h:=by
   rw[<- hcc,Nat.add_mul,Nat.one_mul,Nat.mul_assoc,Nat.mul_comm F]
  have hTc:c*c<N↔2*c<T:=by
   rw[hlt]
   constructor
   ·rintro (z | ⟨z,q⟩)
    ·lia
    ·rw[<- hT,if_neg q];lia
   ·intro z
    by_cases q:c=f
    ·refine .inr ⟨q,fun w=>?_⟩
     rw[<- hT,if_pos w] at z
     lia
    ·left
     lia
  have hTe:¬ (T=2*c):=fun z=>by
   by_cases q:N=f*f
   ·rw[<- hT,if_pos q] at z
    exact hnt ⟨by lia,q⟩
   ·rw[<- hT,if_neg q] at z
    lia
  have c1:(4*2^h<2*(T%(4*2^h))\/2*(T%(4*2^h))=4*2^h/\F%2=1)↔c*c<N:=by
   rw[hTc]
   constructor
   ·rintro (z | ⟨z,_⟩) <;> lia
   ·intro z
    left
    lia
  simp only[c1]
 rw[<- hround]
 have hk53:Pv.nearest T (2^(l-51)) <= 2^53:=by rw[hround];split <;> lia
 have hk52:2^52 <= Pv.nearest T (2^(l-51)):=by rw[hround];split <;> lia
 rw[YY false (l+r-52) _ hk53 (.inr hk52)]
 unfold rnd
 rw[if_neg hT0]
 dsimp only
 rw[hlT]
 have hdrop:max (((l+1+1:Nat):Int)-53) (-((r:Int)-1))=((l-51:Nat):Int):=by lia
 have h51:¬ (((l-51:Nat):Int) <= 0):=by lia
 rw[hdrop,if_neg h51,jD]
 have e6:((r:Int)-1+((l-51:Nat):Int)).toNat=l+r-52:=by lia
 rw[e6,Int.toNat_natCast]
end Dm
set_option maxHeartbeats 2000000
namespace Dt
open PySem L2 L2.Ir
open Classical in
noncomputable def fn1 (P:Int->Prop) (h:Int->Rs (D × Bool)):Fn
 | [.int x]=>if P x then h x else .no
 | _=>.no
open Classical in
noncomputable def fn2 (P:Int->Int->Prop) (h:Int->Int->Rs (D × Bool)):Fn
 | [.int x,.int y]=>if P x y then h x y else .no
 | _=>.no
open Classical in
noncomputable def fn3 (P:Int->Int->Int->Prop) (h:Int->Int->Int->Rs (D × Bool)):Fn
 | [.int x,.int y,.int z]=>if P x y z then h x y z else .no
 | _=>.no
theorem zG {P:Int->Prop}{h:Int->Rs (D × Bool)}{x:Int} (p:P x):fn1 P h [.int x]=h x:=by unfold fn1;exact if_pos p
theorem Xa {P:Int->Int->Prop}{h:Int->Int->Rs (D × Bool)}{x y:Int} (p:P x y):fn2 P h [.int x,.int y]=h x y:=by unfold fn2;exact if_pos p
theorem Yo {P:Int->Int->Int->Prop}{h:Int->Int->Int->Rs (D × Bool)}{x y z:Int} (p:P x y z):fn3 P h [.int x,.int y,.int z]=h x y z:=by unfold fn3;exact if_pos p
theorem xa {P:Int->Prop}{h:Int->Rs (D × Bool)}{r:RS}{N:List Str} (q:∀ x,P x->res (r (sl0 N [.int x]))=h x):∀ ds:List D,ds.length=1->fn1 P h ds = .no\/res (r (sl0 N ds))=fn1 P h ds:=by
 intro ds hl
 match ds,hl with
 | [.int x],_ =>
  by_cases p:P x
  ·right;rw[zG p];exact q x p
  ·left;unfold fn1;exact if_neg p
 | [.non],_=>exact .inl rfl
 | [.bl _],_=>exact .inl rfl
 | [.lst _],_=>exact .inl rfl
 | [.tup _],_=>exact .inl rfl
 | [.fn _],_=>exact .inl rfl
 | [.obj _ _ _],_=>exact .inl rfl
theorem qch {P:Int->Int->Prop}{h:Int->Int->Rs (D × Bool)}{r:RS}{N:List Str} (q:∀ x y,P x y->res (r (sl0 N [.int x,.int y]))=h x y):∀ ds:List D,ds.length=2->fn2 P h ds = .no\/res (r (sl0 N ds))=fn2 P h ds:=by
 intro ds hl
 match ds,hl with
 | [a,b],_ =>
  cases a with
  | int x =>
   cases b with
   | int y =>
    by_cases p:P x y
    ·right;rw[Xa p];exact q x y p
    ·left;unfold fn2;exact if_neg p
   | _=>exact .inl rfl
  | _=>exact .inl rfl
theorem qcS {P:Int->Int->Int->Prop}{h:Int->Int->Int->Rs (D × Bool)}{r:RS}{N:List Str} (q:∀ x y z,P x y z->res (r (sl0 N [.int x,.int y,.int z]))=h x y z):∀ ds:List D,ds.length=3->fn3 P h ds = .no\/res (r (sl0 N ds))=fn3 P h ds:=by
 intro ds hl
 match ds,hl with
 | [a,b,e],_ =>
  cases a with
  | int x =>
   cases b with
   | int y =>
    cases e with
    | int z =>
     by_cases p:P x y z
     ·right;rw[Yo p];exact q x y z p
     ·left;unfold fn3;exact if_neg p
    | _=>exact .inl rfl
   | _=>exact .inl rfl
  | _=>exact .inl rfl
noncomputable def U64 (x:Int):Prop:=0 <= x/\x<18446744073709551616
noncomputable instance (x:Int):Decidable (U64 x):=inferInstanceAs (Decidable (0 <= x/\x<18446744073709551616))
noncomputable def Fi (x:Int):Prop:=U64 x/\x%9223372036854775808<9218868437227405312
noncomputable instance (x:Int):Decidable (Fi x):=inferInstanceAs (Decidable (U64 x/\x%9223372036854775808<9218868437227405312))
noncomputable def iv (i:Int):Rs (D × Bool):=.ok (.int i,false)
noncomputable def bv (b:Bool):Rs (D × Bool):=.ok (.bl b,false)
noncomputable def qT:Fn:=fn1 U64 fun x=>iv (x%9223372036854775808)
noncomputable def wV:Fn:=fn1 U64 fun x=>bv (decide (x%9223372036854775808<9218868437227405312))
noncomputable def Ze:List D->Option (List Nat)
 | []=>some []
 | .lst l::r=>(Ze r).map (l.length :: ·)
 | _=>none
noncomputable def vg:Fn
 | [.lst ss,.lst ls,.lst cs]=>match intsOf ss,Ze ls,intsOf cs with
  | some ns,some ks,some ms=>if (ns.all fun n=>decide (1 <= n/\n <= 16))=true/\((ks.zip ms).all fun p=>decide ((p.1:Int)=p.2))=true then .ok (.non,false) else .er "WrongCount"
  | _,_,_=>.no
 | _=>.no
noncomputable def qV:Fn
 | [.lst xs]=>match intsOf xs with
  | some ns=>if ∀ n∈ns,U64 n then (if ∀ n∈ns,Fi n then .ok (.non,false) else .er "NotFinite") else .no
  | none=>.no
 | _=>.no
noncomputable def vF:Fn
 | [.lst xs]=>if xs.all D.sc=true/\xs.length<LIM then .ok (.lst (.int xs.length::xs),true) else .no
 | _=>.no
noncomputable def zo (a:PvCalls.Answer):Rs (D × Bool):=match a with
 | .refused z=>if z = -1 then .er "WrongCount" else if z = -2 then .er "NotFinite" else if z = -3 then .er "StepNotFinite" else if z = -4 then .er "NotAsTold" else .no
 | a=>.ok (.lst ((TableNeutral.told a).tail.map D.int),true)
noncomputable abbrev xn (ns:List Int):Prop:=∀ n∈ns,U64 n
noncomputable def nats (ns:List Int):List Nat:=ns.map Int.toNat
noncomputable def Qn:RS:=(vV (qf (Qp Builtin.bitAnd) (qa 0) (qf wb (rC (.int (9223372036854775808))) (rC (.int 1)))))
noncomputable def yV:RS:=(vV (qf (yk fun i j=>decide (i<j)) (qi qT (qd (qa 0) qk)) (rC (.int (9218868437227405312)))))
noncomputable def zI:RS:=(vK (Zy (.one 3) 0 (sIf (W6 (tBl (qf (yk fun i j=>decide (i<j)) (qa 3) (rC (.int 1)))) (tBl (qf (yk fun i j=>decide (j<i)) (qa 3) (rC (.int (16)))))) (zR "WrongCount") zt)) (XN (.two 4 5) (j6 (qa 1) (qa 2)) (sIf (tBl (qf (oEq true) (vM wO (qd (qa 4) qk)) (qa 5))) (zR "WrongCount") zt)))
noncomputable def zB:RS:=(Zy (.one 1) 0 (sIf (Up (tBl (qi wV (qd (qa 1) qk)))) (zR "NotFinite") zt))
noncomputable def j5:RS:=(vV (qf vR (ub (qd (vM wO (qd (qa 0) qk)) qk)) (qa 0)))
noncomputable abbrev Hr (r:RS) (N:List Str) (n:Nat) (g:Fn):Prop:=∀ ds:List D,ds.length=n->g ds = .no\/res (r (sl0 N ds))=g ds
theorem qbp (x:Int) (h:U64 x):res (Qn (sl0 ["x"] [.int x]))=iv (x%9223372036854775808):=by
 have e:Builtin.bitAnd x (2^63-1)=x%2^63:=Bits.QK 63 h.1
 have e2:Builtin.bitAnd x (9223372036854775808-1)=x%9223372036854775808:=e
 show (Rs.ok (D.int (Builtin.bitAnd x (9223372036854775808-1)),false):Rs (D × Bool))=_
 rw[e2]
 rfl
theorem UA:Hr Qn ["x"] 1 qT:=xa qbp
theorem jc {x:Int} (h:U64 x):qT [.int x]=iv (x%9223372036854775808):=zG h
theorem Ul (x:Int) (h:U64 x):res (yV (sl0 ["x"] [.int x]))=bv (decide (x%9223372036854775808<9218868437227405312)):=by
 simp [yV,sl0,vV,freeze,frz,qf,qa,rC,qi,qd,qk,yk,res,bv,iv,Rs.bind,jc h,kB]
theorem YU:Hr yV ["x"] 1 wV:=xa Ul
theorem QI {x:Int} (h:U64 x):wV [.int x]=bv (decide (x%9223372036854775808<9218868437227405312)):=zG h
theorem yT {tg:Tg}{body:RS}{c:Str}{good:DK->Prop}{J:Dl->Prop}:∀ {xs:List DK},(∀ x∈xs,∀ δ,J δ->∃ δ1,tg.put x δ=some δ1/\(good x->∃ δ2,body δ1 = .nx δ2/\J δ2)/\(¬ good x->body δ1 = .er c)) ->
  ∀ δ,J δ->((∀ x∈xs,good x)->∃ δ',turns tg body xs δ = .nx δ'/\J δ')/\(¬ (∀ x∈xs,good x)->turns tg body xs δ = .er c)
 | [],_,δ,j=>⟨fun _=>⟨δ,rfl,j⟩,fun h=>absurd (fun x hx=>absurd hx (by simp)) h⟩
 | x::r,st,δ,j=>by
  obtain⟨δ1,hp,h1,h2⟩:=st x (List.mem_cons_self) δ j
  have ih:=yT (xs:=r) fun y hy=>st y (List.mem_cons_of_mem _ hy)
  by_cases g:good x
  ·obtain⟨δ2,hb,j2⟩:=h1 g
   obtain⟨k1,k2⟩:=ih δ2 j2
   have e:turns tg body (x::r) δ=turns tg body r δ2:=by
    show (match tg.put x δ with | none=>_ | some δ1=>_)=_
    rw[hp]
    dsimp only
    rw[hb]
   rw[e]
   exact⟨fun h=>k1 fun y hy=>h y (List.mem_cons_of_mem _ hy),fun h=>k2 fun q=>h fun y hy=>by
    rcases List.mem_cons.mp hy with rfl | hy
    ·exact g
    ·exact q y hy⟩
  ·refine⟨fun h=>absurd (h x (List.mem_cons_self)) g,fun _=>?_⟩
   show (match tg.put x δ with | none=>_ | some δ1=>_)=_
   rw[hp]
   dsimp only
   rw[h2 g]
theorem qas:∀ {ls:List D}{ks:List Nat},Ze ls=some ks->∃ xss:List (List D),ls=xss.map D.lst/\ks=xss.map List.length
 | [],ks,h=>by cases h;exact⟨[],rfl,rfl⟩
 | .lst l::r,ks,h=>by
  have h:(Ze r).map (l.length :: ·)=some ks:=h
  cases e:Ze r with
  | none=>rw[e] at h;cases h
  | some q =>
   rw[e] at h
   cases h
   obtain⟨xss,e1,e2⟩:=qas e
   exact⟨l::xss,by rw[e1];rfl,by rw[e2];rfl⟩
 | .non::_,_,h=>nomatch h
 | .bl _::_,_,h=>nomatch h
 | .int _::_,_,h=>nomatch h
 | .tup _::_,_,h=>nomatch h
 | .fn _::_,_,h=>nomatch h
 | .obj _ _ _::_,_,h=>nomatch h
theorem XG:∀ xss:List (List D),Ze (xss.map D.lst)=some (xss.map List.length)
 | []=>rfl
 | x::r=>by show (Ze (r.map D.lst)).map (x.length :: ·)=_;rw[XG r];rfl
theorem jL {α β γ δ:Type} (f:α->γ) (g:β->δ):∀ (xs:List α) (ys:List β),(xs.map f).zip (ys.map g)=(xs.zip ys).map fun p=>(f p.1,g p.2)
 | [],_=>rfl
 | _::_,[]=>rfl
 | x::xs,y::ys=>by
  rw[List.map_cons,List.map_cons,List.zip_cons_cons,List.zip_cons_cons,List.map_cons,jL f g xs ys]
theorem Vw (ns ms:List Int) (xss:List (List D)):res (zI (sl0 ["sizes","lists","counts","size","numbers","count"] [.lst (ns.map .int),.lst (xss.map .lst),.lst (ms.map .int)])) =
  if (ns.all fun n=>decide (1 <= n/\n <= 16))=true/\(((xss.map List.length).zip ms).all fun p=>decide ((p.1:Int)=p.2))=true then .ok (.non,false) else .er "WrongCount":=by
 have hs:sl0 ["sizes","lists","counts","size","numbers","count"] [.lst (ns.map .int),.lst (xss.map .lst),.lst (ms.map .int)]=[.val (.lst (ns.map .int)) false,.val (.lst (xss.map .lst)) false,.val (.lst (ms.map .int)) false,.un,.un,.un]:=rfl
 rw[hs]
 generalize hA:Sl.val (.lst (ns.map .int)) false=A
 generalize hB:Sl.val (.lst (xss.map .lst)) false=B
 generalize hC:Sl.val (.lst (ms.map .int)) false=C
 -- the sizes
 have L1:=yT (tg:=.one 3) (c:="WrongCount") (body:=sIf (W6 (tBl (qf (yk fun i j=>decide (i<j)) (qa 3) (rC (.int 1)))) (tBl (qf (yk fun i j=>decide (j<i)) (qa 3) (rC (.int (16)))))) (zR "WrongCount") zt)
  (good:=fun x=>∃ n,x.1 = .int n/\1 <= n/\n <= 16) (J:=fun δ=>∃ s:Sl,δ=[A,B,C,s,.un,.un]) (xs:=(ns.map D.int).map fun d=>(d,Kd.sh)) (by
   rintro x hx δ ⟨s,rfl⟩
   rw[List.map_map] at hx
   obtain⟨n,_,rfl⟩:=List.mem_map.mp hx
   refine⟨[A,B,C,.val (.int n) true,.un,.un],rfl,fun⟨m,e,h1,h2⟩=>⟨[A,B,C,.val (.int n) true,.un,.un],?_,.val (.int n) true,rfl⟩,fun h=>?_⟩
   ·cases e
    have e1:¬ n<1:=by lia
    have e2:¬ 16<n:=by lia
    simp [sIf,W6,tBl,qf,qa,rC,yk,Rs.bind,zt,e1,e2]
   ·by_cases h1:n<1
    ·simp [sIf,W6,tBl,qf,qa,rC,yk,Rs.bind,zR,h1]
    ·have h2:16<n:=by
      refine Int.not_le.mp fun q=>h ⟨n,rfl,by lia,q⟩
     simp [sIf,W6,tBl,qf,qa,rC,yk,Rs.bind,zR,h1,h2]) [A,B,C,.un,.un,.un] ⟨.un,rfl⟩
 have g1:(∀ x∈(ns.map D.int).map fun d=>(d,Kd.sh),∃ n,x.1 = .int n/\1 <= n/\n <= 16)↔(ns.all fun n=>decide (1 <= n/\n <= 16))=true:=by
  rw[List.all_eq_true]
  constructor
  ·intro h n hn
   obtain⟨m,e,h1,h2⟩:=h (.int n,.sh) (by rw[List.map_map];exact List.mem_map.mpr ⟨n,hn,rfl⟩)
   cases e
   exact decide_eq_true ⟨h1,h2⟩
  ·intro h x hx
   rw[List.map_map] at hx
   obtain⟨n,hn,rfl⟩:=List.mem_map.mp hx
   have:=of_decide_eq_true (h n hn)
   exact⟨n,rfl,this.1,this.2⟩
 have f1:∀ rb,Zy (.one 3) 0 rb [A,B,C,.un,.un,.un]=turns (.one 3) rb ((ns.map D.int).map fun d=>(d,Kd.sh)) [A,B,C,.un,.un,.un]:=fun rb=>by rw[<- hA];rfl
 unfold zI vK
 rw[f1]
 by_cases c1:(ns.all fun n=>decide (1 <= n/\n <= 16))=true
 ·obtain⟨δ',e1,s,rfl⟩:=L1.1 (g1.mpr c1)
  rw[e1]
  dsimp only[Out.andThen]
  have f2:∀ rb,XN (.two 4 5) (j6 (qa 1) (qa 2)) rb [A,B,C,s,.un,.un]=turns (.two 4 5) rb (((xss.map D.lst).zip (ms.map D.int)).map fun p=>(.tup [p.1,p.2],Kd.sh)) [A,B,C,s,.un,.un]:=fun rb=>by rw[<- hB,<- hC];rfl
  rw[f2,jL,List.map_map]
  have L2:=yT (tg:=.two 4 5) (c:="WrongCount") (body:=sIf (tBl (qf (oEq true) (vM wO (qd (qa 4) qk)) (qa 5))) (zR "WrongCount") zt)
   (good:=fun x=>∃ l m,x.1 = .tup [.lst l,.int m]/\(l.length:Int)=m) (J:=fun δ=>∃ s1 s2:Sl,δ=[A,B,C,s,s1,s2]) (xs:=(xss.zip ms).map ((fun p:D × D=>(D.tup [p.1,p.2],Kd.sh)) ∘ fun p:List D × Int=>(D.lst p.1,D.int p.2))) (by
    rintro x hx δ ⟨s1,s2,rfl⟩
    obtain⟨⟨l,m⟩,hp,rfl⟩:=List.mem_map.mp hx
    refine⟨[A,B,C,s,.val (.lst l) false,.val (.int m) true],rfl,fun⟨l',m',e,h1⟩=>⟨[A,B,C,s,.val (.lst l) false,.val (.int m) true],?_,_,_,rfl⟩,fun h=>?_⟩
    ·cases e
     unfold sIf
     rw[show tBl (qf (oEq true) (vM wO (qd (qa 4) qk)) (qa 5)) [A,B,C,s,.val (.lst l) false,.val (.int m) true] = .ok (!decide ((l.length:Int)=m)) from rfl,decide_eq_true h1]
     rfl
    ·have h1:¬ (l.length:Int)=m:=fun q=>h ⟨l,m,rfl,q⟩
     unfold sIf
     rw[show tBl (qf (oEq true) (vM wO (qd (qa 4) qk)) (qa 5)) [A,B,C,s,.val (.lst l) false,.val (.int m) true] = .ok (!decide ((l.length:Int)=m)) from rfl,decide_eq_false h1]
     rfl) [A,B,C,s,.un,.un] ⟨.un,.un,rfl⟩
  have g2:(∀ x∈(xss.zip ms).map ((fun p:D × D=>(D.tup [p.1,p.2],Kd.sh)) ∘ fun p:List D × Int=>(D.lst p.1,D.int p.2)),∃ l m,x.1 = .tup [.lst l,.int m]/\(l.length:Int)=m)↔(((xss.map List.length).zip ms).all fun p=>decide ((p.1:Int)=p.2))=true:=by
   have e:(xss.map List.length).zip ms=(xss.zip ms).map fun p=>(p.1.length,p.2):=by
    have:=jL List.length (id:Int->Int) xss ms
    rw[List.map_id] at this
    exact this
   rw[e,List.all_map,List.all_eq_true]
   constructor
   ·intro h p hp
    obtain⟨l,m,e,h1⟩:=h _ (List.mem_map.mpr ⟨p,hp,rfl⟩)
    cases e
    exact decide_eq_true h1
   ·intro h x hx
    obtain⟨p,hp,rfl⟩:=List.mem_map.mp hx
    exact⟨p.1,p.2,rfl,of_decide_eq_true (h p hp)⟩
  by_cases c2:(((xss.map List.length).zip ms).all fun p=>decide ((p.1:Int)=p.2))=true
  ·obtain⟨δ',e2,_⟩:=L2.1 (g2.mpr c2)
   rw[e2,if_pos ⟨c1,c2⟩]
   rfl
  ·rw[L2.2 (fun h=>c2 (g2.mp h)),if_neg (fun h=>c2 h.2)]
   rfl
 ·have e1:=L1.2 (fun h=>c1 (g1.mp h))
  rw[e1,if_neg (fun h=>c1 h.1)]
  rfl
theorem Q0:Hr zI ["sizes","lists","counts","size","numbers","count"] 3 vg:=by
 intro ds hl
 match ds,hl with
 | [a,b,c],_ =>
  cases a with
  | lst ss =>
   cases b with
   | lst ls =>
    cases c with
    | lst cs =>
     show (match intsOf ss,Ze ls,intsOf cs with | some ns,some ks,some ms=>_ | _,_,_=>Rs.no) = .no\/_=(match intsOf ss,Ze ls,intsOf cs with | some ns,some ks,some ms=>_ | _,_,_=>Rs.no)
     cases e1:intsOf ss with
     | none=>exact .inl rfl
     | some ns =>
      cases e2:Ze ls with
      | none=>exact .inl rfl
      | some ks =>
       cases e3:intsOf cs with
       | none=>exact .inl rfl
       | some ms =>
        right
        obtain⟨xss,rfl,rfl⟩:=qas e2
        have h1:=zb e1
        have h3:=zb e3
        subst h1 h3
        exact Vw ns ms xss
    | _=>exact .inl rfl
   | _=>exact .inl rfl
  | _=>exact .inl rfl
theorem WS (ns:List Int) (h:xn ns):res (zB (sl0 ["numbers","x"] [.lst (ns.map .int)]))=if ∀ n∈ns,Fi n then Rs.ok (D.non,false) else Rs.er "NotFinite":=by
 have hs:sl0 ["numbers","x"] [.lst (ns.map .int)]=[.val (.lst (ns.map .int)) false,.un]:=rfl
 rw[hs]
 generalize hA:Sl.val (.lst (ns.map .int)) false=A
 have L1:=yT (tg:=.one 1) (c:="NotFinite") (body:=sIf (Up (tBl (qi wV (qd (qa 1) qk)))) (zR "NotFinite") zt)
  (good:=fun x=>∃ n,x.1 = .int n/\Fi n) (J:=fun δ=>∃ s:Sl,δ=[A,s]) (xs:=(ns.map D.int).map fun d=>(d,Kd.sh)) (by
   rintro x hx δ ⟨s,rfl⟩
   rw[List.map_map] at hx
   obtain⟨n,hn,rfl⟩:=List.mem_map.mp hx
   have hu:=h n hn
   refine⟨[A,.val (.int n) true],rfl,fun⟨m,e,h1⟩=>⟨[A,.val (.int n) true],?_,_,rfl⟩,fun q=>?_⟩
   ·cases e
    simp [sIf,Up,tBl,qi,qd,qk,qa,Rs.bind,zt,QI hu,bv,h1.2]
   ·have h1:¬ n%9223372036854775808<9218868437227405312:=fun z=>q ⟨n,rfl,hu,z⟩
    simp [sIf,Up,tBl,qi,qd,qk,qa,Rs.bind,zR,QI hu,bv,h1]) [A,.un] ⟨.un,rfl⟩
 have g1:(∀ x∈(ns.map D.int).map fun d=>(d,Kd.sh),∃ n,x.1 = .int n/\Fi n)↔∀ n∈ns,Fi n:=by
  constructor
  ·intro q n hn
   obtain⟨m,e,h1⟩:=q (.int n,.sh) (by rw[List.map_map];exact List.mem_map.mpr ⟨n,hn,rfl⟩)
   cases e
   exact h1
  ·intro q x hx
   rw[List.map_map] at hx
   obtain⟨n,hn,rfl⟩:=List.mem_map.mp hx
   exact⟨n,rfl,q n hn⟩
 have f1:∀ rb,Zy (.one 1) 0 rb [A,.un]=turns (.one 1) rb ((ns.map D.int).map fun d=>(d,Kd.sh)) [A,.un]:=fun rb=>by rw[<- hA];rfl
 unfold zB
 rw[f1]
 by_cases c:∀ n∈ns,Fi n
 ·obtain⟨δ',e,_⟩:=L1.1 (g1.mpr c)
  rw[e,if_pos c]
  rfl
 ·rw[L1.2 (fun q=>c (g1.mp q)),if_neg c]
  rfl
theorem QW:Hr zB ["numbers","x"] 1 qV:=by
 intro ds hl
 match ds,hl with
 | [.lst xs],_ =>
  unfold qV
  dsimp only
  cases e:intsOf xs with
  | none=>exact .inl rfl
  | some ns =>
   dsimp only
   by_cases c:∀ n∈ns,U64 n
   ·right
    rw[if_pos c]
    have q:=zb e
    subst q
    rw[WS ns c]
   ·left;exact if_neg c
 | [.non],_=>exact .inl rfl
 | [.bl _],_=>exact .inl rfl
 | [.int _],_=>exact .inl rfl
 | [.tup _],_=>exact .inl rfl
 | [.fn _],_=>exact .inl rfl
 | [.obj _ _ _],_=>exact .inl rfl
theorem VG {ns:List Int} (h:xn ns):qV [.lst (ns.map .int)]=if ∀ n∈ns,Fi n then Rs.ok (D.non,false) else Rs.er "NotFinite":=by
 unfold qV
 dsimp only
 rw[ints_map]
 exact if_pos h
theorem Wx (ns ms:List Int) (xss:List (List D)):vg [.lst (ns.map .int),.lst (xss.map .lst),.lst (ms.map .int)] =
  if (ns.all fun n=>decide (1 <= n/\n <= 16))=true/\(((xss.map List.length).zip ms).all fun p=>decide ((p.1:Int)=p.2))=true then .ok (.non,false) else .er "WrongCount":=by
 unfold vg
 dsimp only
 rw[ints_map,XG,ints_map]
theorem Q8 {r:RE}{δ:Dl}{ds:List D} (h:r (freeze δ) = .ok (.lst ds,.fr)):vV r δ = .rt (.lst ds) true:=by unfold vV;rw[h]
theorem wc {r:RE}{δ:Dl}{d:D} (h:r (freeze δ) = .ok (d,.nw)):vV r δ = .rt d false:=by
 unfold vV
 rw[h]
 cases d <;> rfl
theorem z7 {r:RE}{δ:Dl}{c:Str} (h:r (freeze δ) = .er c):vV r δ = .er c:=by unfold vV;rw[h]
theorem vo {r:RE}{δ:Dl}{i:Nat}{d:D}{k:Kd} (h:r δ = .ok (d,k)) (c:d.sc=true):vn i r δ = .nx (δ.set i (.val d true)):=by
 unfold vn
 rw[h]
 cases k <;> cases d <;> first | rfl | cases c
theorem qer {r:RE}{δ:Dl}{i:Nat}{d:D} (h:r δ = .ok (d,.nw)):vn i r δ = .nx (δ.set i (.val d true)):=by
 unfold vn
 rw[h]
 cases d <;> simp [xy]
theorem YM {r:RE}{δ:Dl}{i:Nat}{c:Str} (h:r δ = .er c):vn i r δ = .er c:=by unfold vn;rw[h]
theorem VN {r:RE}{δ:Dl}{x:DK} (h:r δ = .ok x):x9 r δ = .nx δ:=by unfold x9;rw[h]
theorem Wr {r:RE}{δ:Dl}{c:Str} (h:r δ = .er c):x9 r δ = .er c:=by unfold x9;rw[h]
theorem qF {a b:RS}{δ δ1:Dl} (h:a δ = .nx δ1):vK a b δ=b δ1:=by unfold vK;rw[h];rfl
theorem yx {a b:RS}{δ:Dl}{c:Str} (h:a δ = .er c):vK a b δ = .er c:=by unfold vK;rw[h];rfl
theorem jb {a b:RS}{δ:Dl}{d:D}{k:Bool} (h:a δ = .rt d k):vK a b δ = .rt d k:=by unfold vK;rw[h];rfl
theorem jq {t:RT}{a b:RS}{δ:Dl} (h:t δ = .ok true):sIf t a b δ=a δ:=by unfold sIf;rw[h];rfl
theorem qfe {t:RT}{a b:RS}{δ:Dl} (h:t δ = .ok false):sIf t a b δ=b δ:=by unfold sIf;rw[h];rfl
theorem qcc {α β:Type}{p:α->Option β}{h:α->β}:∀ {l:List α},(∀ x∈l,p x=some (h x))->l.filterMap p=l.map h
 | [],_=>rfl
 | x::r,k=>by
  rw[List.filterMap_cons,k x (List.mem_cons_self),List.map_cons,qcc fun y hy=>k y (List.mem_cons_of_mem _ hy)]
theorem Zd:Hr j5 ["numbers"] 1 vF:=by
 intro ds hl
 match ds,hl with
 | [.lst xs],_ =>
  unfold vF
  dsimp only
  by_cases c:xs.all D.sc=true/\xs.length<LIM
  ·right
   rw[if_pos c]
   have hl2:1+xs.length <= LIM:=by have:=c.2;lia
   have hl3:(D.int xs.length::xs).all D.sc=true:=by rw[List.all_cons,c.1];rfl
   have hx:vV (qf vR (ub (qd (vM wO (qd (qa 0) qk)) qk)) (qa 0)) [.val (.lst xs) false] = .rt (.lst (.int xs.length::xs)) true:=by
    refine Q8 ?_
    show (if 1+xs.length <= LIM then Rs.ok (D.lst ([D.int xs.length]++xs),kL ([D.int xs.length]++xs) (Kd.low .fr .sh)) else .no)=_
    rw[if_pos hl2]
    show Rs.ok (D.lst (D.int xs.length::xs),kL (D.int xs.length::xs) (Kd.low .fr .sh))=_
    unfold kL
    rw[if_pos hl3]
   show res (vV _ _)=_
   rw[show sl0 ["numbers"] [.lst xs]=[.val (.lst xs) false] from rfl,hx]
   rfl
  ·left;exact if_neg c
 | [.non],_=>exact .inl rfl
 | [.bl _],_=>exact .inl rfl
 | [.int _],_=>exact .inl rfl
 | [.tup _],_=>exact .inl rfl
 | [.fn _],_=>exact .inl rfl
 | [.obj _ _ _],_=>exact .inl rfl
theorem Yd {xs:List D} (h:xs.all D.sc=true) (hl:xs.length<LIM):vF [.lst xs] = .ok (.lst (.int xs.length::xs),true):=by
 unfold vF
 exact if_pos ⟨h,hl⟩
theorem qh {ra:RE}{rr:RA}{δ:Dl}{x:DK}{xs:List DK} (h:ra δ = .ok x) (h2:rr δ = .ok xs):qd ra rr δ = .ok (x::xs):=by unfold qd;rw[h,h2];rfl
theorem qD {δ:Dl}:qk δ = .ok []:=rfl
theorem Yf {r:RA}{δ:Dl}{xs:List DK} (h:r δ = .ok xs) (hl:xs.length <= LIM):ub r δ = .ok (.lst (xs.map (·.1)),kL (xs.map (·.1)) (qZ xs)):=by
 unfold ub
 rw[h]
 exact if_pos hl
theorem qj {f:DK->DK->Rs DK}{ra rb:RE}{δ:Dl}{x y:DK} (h:ra δ = .ok x) (h2:rb δ = .ok y):qf f ra rb δ=f x y:=by unfold qf;rw[h,h2];rfl
theorem uo {f:DK->Rs DK}{ra:RE}{δ:Dl}{x:DK} (h:ra δ = .ok x):rUn f ra δ=f x:=by unfold rUn;rw[h];rfl
theorem qR {g:Fn}{r:RA}{δ:Dl}{xs:List DK} (h:r δ = .ok xs):qi g r δ=(g (xs.map (·.1))).bind fun y=>.ok (y.1,kB y.2):=by unfold qi;rw[h];rfl
theorem Xt {xs:List D}{k:Kd} (h:xs.all D.sc=true):kL xs k = .fr:=by unfold kL;exact if_pos h
theorem Q5 (ns:List Int):(ns.map D.int).all D.sc=true:=by
 rw[List.all_map,List.all_eq_true]
 intro x _
 rfl
theorem qad {tg:Tg}{src:RI}{body:RS}{δ:Dl}{xs:List DK} (h:src δ = .ok (true,xs)):XN tg src body δ=turns tg body xs δ:=by unfold XN;rw[h]
theorem yD {r:RE}{δ:Dl}{n:Nat}{k:Kd} (h:r δ = .ok (.int n,k)) (hn:n<1000000):wA r δ = .ok (true,(List.range n).map fun (k:Nat)=>(D.int k,.nw)):=by
 unfold wA
 rw[h]
 rw[Rs.qP]
 dsimp only
 rw[if_pos (by lia),Int.toNat_natCast]
theorem qaE {ra:RE}{rl rh rs:RO}{δ:Dl}{xs:List D}{k:Kd}{lo hi st:Option Int} (h:ra δ = .ok (.lst xs,k)) (hl:rl δ = .ok lo) (hh:rh δ = .ok hi) (hs:rs δ = .ok st) (h0:st≠some 0) :
  WK ra rl rh rs δ = .ok (.lst (pick xs lo hi st),kL (pick xs lo hi st) (k.low .nw)):=by
 unfold WK
 rw[h,hl,hh,hs]
 exact if_neg h0
theorem uy {x:Int} (k:Nat) (hk:k <= 60000) (h:x.natAbs<2^k):few x:=Nat.lt_of_lt_of_le h (Nat.pow_le_pow_right (by decide) hk)
theorem Vn {x:Int} (h:U64 x):few x:=uy 64 (by decide) (by obtain⟨a,b⟩:=h;lia)
theorem uI {i j:Int}{k l:Kd} (hi:few i) (hj:few j):y6 (.int i,k) (.int j,l) = .ok (.int (i*j),.nw):=by
 unfold y6
 exact if_pos ⟨hi,hj⟩
theorem Wm {m:Int} (h:U64 m):(1 <= m/\m <= 16)↔PvCalls.size m.toNat=true:=by
 unfold PvCalls.size PvCalls.SIZE
 obtain⟨a,b⟩:=h
 rw[Bool.and_eq_true,decide_eq_true_eq,decide_eq_true_eq]
 lia
theorem qaC {x:Int} (h:U64 x):Fi x↔Pv.isFinite x.toNat=true:=by
 rw[Dm.Jj,decide_eq_true_eq]
 unfold Fi Dm.sz
 obtain⟨a,b⟩:=h
 constructor
 ·rintro⟨_,q⟩;lia
 ·intro q;exact⟨⟨a,b⟩,by lia⟩
theorem Ug {ns:List Int} (h:xn ns):(∀ n∈ns,Fi n)↔(nats ns).all Pv.isFinite=true:=by
 rw[List.all_eq_true]
 unfold nats
 constructor
 ·intro q x hx
  obtain⟨n,hn,rfl⟩:=List.mem_map.mp hx
  exact (qaC (h n hn)).mp (q n hn)
 ·intro q n hn
  exact (qaC (h n hn)).mpr (q _ (List.mem_map.mpr ⟨n,hn,rfl⟩))
theorem uk (ns:List Int):(nats ns).length=ns.length:=List.length_map _
theorem qgy {ns:List Int} (h:xn ns) (k:Nat):(((nats ns).getD k 0:Nat):Int)=ns.getD k 0:=by
 unfold nats
 rw[List.getD_eq_getElem?_getD,List.getElem?_map,List.getD_eq_getElem?_getD]
 cases e:ns[k]? with
 | none=>rfl
 | some x =>
  have:=(h x (List.mem_of_getElem? e)).1
  show ((x.toNat:Nat):Int)=x
  lia
theorem qa1 {ns:List Int} (h:xn ns):(nats ns).map (fun (n:Nat)=>(n:Int))=ns:=by
 unfold nats
 rw[List.map_map]
 conv=>rhs;rw[<- List.map_id ns]
 refine List.map_congr_left fun n hn=>?_
 have:=(h n hn).1
 show ((n.toNat:Nat):Int)=n
 lia
theorem JE {α:Type} (rows:List (Nat × List Nat)) (x:Pv.Did α) (f:α->PvCalls.Answer):zo (PvCalls.given rows x f) =
  if PvCalls.fits rows=true then (if (rows.all fun r=>r.2.all Pv.isFinite)=true then zo (match x with | .error e=>.refused e | .ok y=>f y) else .er "NotFinite") else .er "WrongCount":=by
 unfold PvCalls.given PvCalls.no
 cases h1:PvCalls.fits rows with
 | false=>rfl
 | true =>
  cases h2:(rows.all fun r=>r.2.all Pv.isFinite) with
  | false=>rfl
  | true =>
   simp only[Bool.true_eq_false,if_false,if_true]
   cases x <;> rfl
theorem X4 (c:PvCalls.Call):zo (PvCalls.answer c)=if PvCalls.goes c=true then zo (PvCalls.reckon c) else .er "WrongCount":=by
 unfold PvCalls.answer PvCalls.no
 cases h:PvCalls.goes c with
 | false=>rfl
 | true=>rfl
theorem qdd (l:List Nat):zo (.row l) = .ok (.lst (.int l.length::l.map fun (n:Nat)=>D.int n),true):=by
 show Rs.ok (D.lst (((TableNeutral.rowN (TableNeutral.ints l))).map D.int),true)=_
 unfold TableNeutral.rowN TableNeutral.ints
 rw[List.map_cons,List.map_map,List.length_map]
 rfl
noncomputable abbrev LL:List (Str × Int):=[("WrongCount",1),("NotFinite",2),("StepNotFinite",3),("NotAsTold",4)]
noncomputable def Few:PvCalls.Answer->Prop
 | .refused z=>z = -1\/z = -2\/z = -3\/z = -4
 | .row l=>l.length <= 1000
 | .number _=>True
 | .rows l k=>l.length <= 1000/\k.length <= 1000
 | .lu x p _=>x.length <= 1000/\p.length <= 1000
 | .told _ l=>l.length <= 100000
theorem qce {a:PvCalls.Answer} (h:Few a):JT LL (zo a)=some ((TableNeutral.told a).map D.int):=by
 cases a with
 | refused z=>rcases h with rfl | rfl | rfl | rfl <;> rfl
 | number x=>rfl
 | row l=>rfl
 | rows l k=>rfl
 | lu x p t=>rfl
 | told e l=>rfl
theorem qdj {a:PvCalls.Answer} (h:Few a):((TableNeutral.told a).map D.int).length <= LIM:=by
 rw[List.length_map]
 show _ <= 16777216
 cases a with
 | refused z=>exact Nat.le_of_ble_eq_true rfl
 | number x=>exact Nat.le_of_ble_eq_true rfl
 | row l=>simp only[TableNeutral.told,TableNeutral.rowN,TableNeutral.ints,List.length_cons,List.length_map];have:l.length <= 1000:=h;lia
 | rows l k=>simp only[TableNeutral.told,TableNeutral.rowN,TableNeutral.ints,List.length_cons,List.length_map,List.length_append];have:l.length <= 1000/\k.length <= 1000:=h;lia
 | lu x p t=>simp only[TableNeutral.told,TableNeutral.rowN,TableNeutral.ints,List.length_cons,List.length_map,List.length_append,List.length_nil];have:x.length <= 1000/\p.length <= 1000:=h;lia
 | told e l=>simp only[TableNeutral.told,TableNeutral.rowN,TableNeutral.ints,List.length_cons,List.length_map];have:l.length <= 100000:=h;lia
theorem Qa {z:Int} (h:U64 z):TableNeutral.nat z=some z.toNat:=by
 unfold TableNeutral.nat
 exact if_neg (by have:=h.1;lia)
theorem WG:∀ {ns:List Int},xn ns->ns.mapM TableNeutral.nat=some (nats ns)
 | [],_=>rfl
 | n::r,h=>by
  rw[List.mapM_cons,Qa (h n (List.mem_cons_self)),WG fun x hx=>h x (List.mem_cons_of_mem _ hx)]
  rfl
theorem qfX {c:PvCalls.Call} (h:PvCalls.goes c=true->Few (PvCalls.reckon c)):Few (PvCalls.answer c):=by
 unfold PvCalls.answer PvCalls.no
 cases e:PvCalls.goes c with
 | false=>exact .inl rfl
 | true=>exact h e
theorem qbz {α:Type}{rows:List (Nat × List Nat)}{x:Pv.Did α}{f:α->PvCalls.Answer} (h:match x with | .error e=>Few (.refused e) | .ok y=>Few (f y)):Few (PvCalls.given rows x f):=by
 unfold PvCalls.given PvCalls.no
 split
 ·exact .inl rfl
 ·split
  ·exact .inr (.inl rfl)
  ·cases x with
   | error e=>exact h
   | ok y=>exact h
theorem qbh {m n:Nat} (hm:PvCalls.size m=true) (hn:PvCalls.size n=true):m*n <= 1000:=by
 unfold PvCalls.size PvCalls.SIZE at hm hn
 rw[Bool.and_eq_true,decide_eq_true_eq,decide_eq_true_eq] at hm hn
 have:m*n <= 16*16:=Nat.mul_le_mul hm.2 hn.2
 lia
open PySem.W (Codec)
theorem Yp {z:Int} (h:Codec.inInt 0 18446744073709551615 z=true):U64 z:=by
 have:=Codec.inInt_iff.mp h
 exact⟨this.1,by lia⟩
theorem qao {ns:List Int} (h:ns.all (Codec.inInt 0 18446744073709551615)=true):xn ns:=fun n hn=>Yp (List.all_eq_true.mp h n hn)
theorem WD (ns:List Int):(ns.map D.int).map Ir.toV=ns.map V.int:=by
 rw[List.map_map]
 rfl
theorem yY {K:PySem.W.Frag}{C N:Addr}{nm q bs hdct sn sub ab col dd k0 k1 k2 k3 k5} (l:K.lookup C=some (excClassObj nm q C N bs uB hdct sn sub ab col dd k0 k1 k2 k3 k5 Yr)) (h1:PySem.W.nsOkIn K N=true) (h2:PySem.W.nsIn K N "__init__"=some none):qO K C=true:=by
 exact (@decide_eq_true_iff (qfL K C) (Classical.propDecidable _)).mpr ⟨_,_,_,_,_,_,_,_,_,_,_,_,_,_,_,l,h1,h2⟩
theorem Vi {K:PySem.W.Frag}{N:Addr}{oc od es n sl} (l:K.lookup N=some ⟨oc,od,.dict es n,sl⟩) (h:(es.toList.all fun e=>match e.key with | .str _ _=>true | _=>false)=true):PySem.W.nsOkIn K N=true:=by
 unfold PySem.W.nsOkIn
 rw[l]
 show (es.all fun e=>match e.key with | .str _ _=>true | _=>false)=true
 rw[<- Array.all_toList]
 exact h
theorem qhm {mg:Str->Option Value}{K:PySem.W.Frag}{C1 C2 C3 C4:Addr} (m1:mg "WrongCount"=some (.ref C1)) (m2:mg "NotFinite"=some (.ref C2)) (m3:mg "StepNotFinite"=some (.ref C3)) (m4:mg "NotAsTold"=some (.ref C4))
  (x1:qO K C1=true) (x2:qO K C2=true) (x3:qO K C3=true) (x4:qO K C4=true) (e2:(C2==C1)=false) (e3:(C3==C1)=false) (e4:(C3==C2)=false) (e5:(C4==C1)=false) (e6:(C4==C2)=false) (e7:(C4==C3)=false)
  {c:Str}{C:Addr}{k:Int} (hC:mg c=some (.ref C)) (hl:LL.lookup c=some k):qO K C=true/\List.lookup C [(C1,(1:Int)),(C2,2),(C3,3),(C4,4)]=some k:=by
 have key:∀ {x:Str}{D:Addr},c=x->mg x=some (.ref D)->C=D:=fun {x D} e m=>by
  subst e
  rw[hC] at m
  cases m
  rfl
 unfold LL at hl
 rw[List.lookup_cons] at hl
 by_cases h1:c="WrongCount"
 ·have z:=key h1 m1
  subst h1 z
  cases hl
  exact⟨x1,by rw[List.lookup_cons,beq_self_eq_true]⟩
 rw[beq_eq_false_iff_ne.mpr h1,List.lookup_cons] at hl
 by_cases h2:c="NotFinite"
 ·have z:=key h2 m2
  subst h2 z
  cases hl
  exact⟨x2,by rw[List.lookup_cons,e2,List.lookup_cons,beq_self_eq_true]⟩
 rw[beq_eq_false_iff_ne.mpr h2,List.lookup_cons] at hl
 by_cases h3:c="StepNotFinite"
 ·have z:=key h3 m3
  subst h3 z
  cases hl
  exact⟨x3,by rw[List.lookup_cons,e3,List.lookup_cons,e4,List.lookup_cons,beq_self_eq_true]⟩
 rw[beq_eq_false_iff_ne.mpr h3,List.lookup_cons] at hl
 by_cases h4:c="NotAsTold"
 ·have z:=key h4 m4
  subst h4 z
  cases hl
  exact⟨x4,by rw[List.lookup_cons,e5,List.lookup_cons,e6,List.lookup_cons,e7,List.lookup_cons,beq_self_eq_true]⟩
 rw[beq_eq_false_iff_ne.mpr h4] at hl
 cases hl
noncomputable def qfT {α:Type} (x:Pv.Did α) (f:α->PvCalls.Answer):PvCalls.Answer:=match x with
 | .error e=>.refused e
 | .ok y=>f y
theorem checked {α:Type}{p q:Prop} [Decidable p] [Decidable q] {c:PvCalls.Call}{rows:List (Nat × List Nat)}{x:Pv.Did α}{f:α->PvCalls.Answer}{R:Rs (D × Bool)}
  (h1:p↔PvCalls.goes c=true/\PvCalls.fits rows=true) (h2:q↔(rows.all fun r=>r.2.all Pv.isFinite)=true) (h3:p->q->R=zo (qfT x f)) (hc:PvCalls.reckon c=PvCalls.given rows x f) :
  (if p then (if q then R else .er "NotFinite") else .er "WrongCount")=zo (PvCalls.answer c):=by
 rw[X4,hc,JE]
 by_cases a:p
 ·obtain⟨g1,g2⟩:=h1.mp a
  rw[if_pos a,if_pos g1,if_pos g2]
  by_cases b:q
  ·rw[if_pos b,if_pos (h2.mp b),h3 a b]
   rfl
  ·rw[if_neg b,if_neg (fun z=>b (h2.mpr z))]
 ·rw[if_neg a]
  by_cases g1:PvCalls.goes c=true
  ·rw[if_pos g1,if_neg (fun z=>a (h1.mpr ⟨g1,z⟩))]
  ·rw[if_neg g1]
theorem Vo {m n:Int}{ns:List Int} (hm:U64 m) (hn:U64 n):(ns.length:Int)=m*n↔(nats ns).length=m.toNat*n.toNat:=by
 have e:m*n=((m.toNat*n.toNat:Nat):Int):=by
  have h1:((m.toNat:Nat):Int)=m:=Int.toNat_of_nonneg hm.1
  have h2:((n.toNat:Nat):Int)=n:=Int.toNat_of_nonneg hn.1
  rw[Int.natCast_mul,h1,h2]
 rw[e,uk]
 lia
theorem qc8 {xs ys:List D}{k l:Kd} (h:xs.length+ys.length <= LIM):vR (.lst xs,k) (.lst ys,l) = .ok (.lst (xs++ys),kL (xs++ys) (k.low l)):=if_pos h
noncomputable def vL:Fn:=fn1 U64 fun x=>bv (decide (x%9223372036854775808=0))
noncomputable def uJ:RS:=(vV (qf (oEq false) (qi qT (qd (qa 0) qk)) (rC (.int 0))))
theorem qby (x:Int) (h:U64 x):res (uJ (sl0 ["x"] [.int x]))=bv (decide (x%9223372036854775808=0)):=by
 unfold uJ
 have h1:qi qT (qd (qa 0) qk) [.val (.int x) false] = .ok (.int (x%9223372036854775808),.nw):=by
  rw[qR (qh (x:=(.int x,.sh)) rfl qD)]
  show (qT [.int x]).bind _=_
  rw[jc h]
  rfl
 rw[show sl0 ["x"] [.int x]=[.val (.int x) false] from rfl,wc (d:=.bl (decide (x%9223372036854775808=0))) ((qj h1 (y:=(.int 0,.nw)) rfl).trans rfl)]
 rfl
theorem JG:Hr uJ ["x"] 1 vL:=xa qby
theorem Ql {x:Int} (h:U64 x):vL [.int x]=bv (decide (x%9223372036854775808=0)):=zG h
noncomputable def asks:List Bool->List D->Option (List Int × List (List Int))
 | [],[]=>some ([],[])
 | false::s,.int i::r=>(asks s r).map fun x=>(i::x.1,x.2)
 | true::s,.lst l::r=>(intsOf l).bind fun ns=>(asks s r).map fun x=>(x.1,ns::x.2)
 | _,_=>none
noncomputable def unp:List Bool->List Int->List (List Int)->List D
 | false::s,i::is,ls=>.int i::unp s is ls
 | true::s,is,l::ls=>.lst (l.map .int)::unp s is ls
 | _,_,_=>[]
theorem Y0:∀ {sh:List Bool}{ds:List D}{is:List Int}{ls:List (List Int)},asks sh ds=some (is,ls)->ds=unp sh is ls/\is.length=sh.count false/\ls.length=sh.count true
 | [],[],_,_,h=>by cases h;exact⟨rfl,rfl,rfl⟩
 | [],_::_,_,_,h=>nomatch h
 | false::s,.int i::r,is,ls,h=>by
  have h:(asks s r).map (fun x=>(i::x.1,x.2))=some (is,ls):=h
  cases e:asks s r with
  | none=>rw[e] at h;cases h
  | some q =>
   rw[e] at h
   cases h
   obtain⟨e1,e2,e3⟩:=Y0 (is:=q.1) (ls:=q.2) e
   exact⟨by show _=D.int i::unp s q.1 q.2;rw[<- e1],by rw[List.length_cons,e2,List.count_cons_self],by rw[e3];exact (List.count_cons_of_ne (by decide)).symm⟩
 | true::s,.lst l::r,is,ls,h=>by
  have h:((intsOf l).bind fun ns=>(asks s r).map fun x=>(x.1,ns::x.2))=some (is,ls):=h
  cases e0:intsOf l with
  | none=>rw[e0] at h;cases h
  | some ns =>
   rw[e0] at h
   have h:(asks s r).map (fun x=>(x.1,ns::x.2))=some (is,ls):=h
   cases e:asks s r with
   | none=>rw[e] at h;cases h
   | some q =>
    rw[e] at h
    cases h
    obtain⟨e1,e2,e3⟩:=Y0 (is:=q.1) (ls:=q.2) e
    exact⟨by show _=D.lst (ns.map .int)::unp s q.1 q.2;rw[<- e1,<- zb e0],by rw[e2];exact (List.count_cons_of_ne (by decide)).symm,by rw[List.length_cons,e3,List.count_cons_self]⟩
 | false::_,[],_,_,h=>nomatch h
 | true::_,[],_,_,h=>nomatch h
 | false::_,.non::_,_,_,h=>nomatch h
 | false::_,.bl _::_,_,_,h=>nomatch h
 | false::_,.lst _::_,_,_,h=>nomatch h
 | false::_,.tup _::_,_,_,h=>nomatch h
 | false::_,.fn _::_,_,_,h=>nomatch h
 | false::_,.obj _ _ _::_,_,_,h=>nomatch h
 | true::_,.non::_,_,_,h=>nomatch h
 | true::_,.bl _::_,_,_,h=>nomatch h
 | true::_,.int _::_,_,_,h=>nomatch h
 | true::_,.tup _::_,_,_,h=>nomatch h
 | true::_,.fn _::_,_,_,h=>nomatch h
 | true::_,.obj _ _ _::_,_,_,h=>nomatch h
theorem Yt:∀ {sh:List Bool}{is:List Int}{ls:List (List Int)},is.length=sh.count false->ls.length=sh.count true->asks sh (unp sh is ls)=some (is,ls)
 | [],[],[],_,_=>rfl
 | [],_::_,_,h,_=>nomatch h
 | [],[],_::_,_,h=>nomatch h
 | false::s,i::is,ls,h1,h2=>by
  rw[List.length_cons,List.count_cons_self] at h1
  rw[List.count_cons_of_ne (by decide)] at h2
  show (asks s (unp s is ls)).map _=_
  rw[Yt (by lia) h2]
  rfl
 | true::s,is,l::ls,h1,h2=>by
  rw[List.length_cons,List.count_cons_self] at h2
  rw[List.count_cons_of_ne (by decide)] at h1
  show ((intsOf (l.map D.int)).bind fun ns=>(asks s (unp s is ls)).map fun x=>(x.1,ns::x.2))=_
  rw[ints_map,Yt h1 (by lia)]
  rfl
 | false::s,[],_,h1,_=>by rw[List.count_cons_self] at h1;cases h1
 | true::s,_,[],_,h2=>by rw[List.count_cons_self] at h2;cases h2
theorem qff {α:Type}{l:List α} (h:l.length=2):∃ a b,l=[a,b]:=match l,h with | [a,b],_=>⟨a,b,rfl⟩
theorem qfn {α:Type}{l:List α} (h:l.length=1):∃ a,l=[a]:=match l,h with | [a],_=>⟨a,rfl⟩
theorem qgn {α:Type}{l:List α} (h:l.length=4):∃ a b c d,l=[a,b,c,d]:=match l,h with | [a,b,c,d],_=>⟨a,b,c,d,rfl⟩
theorem zN {m:Int} (h:U64 m):∃ M:Nat,m=M:=⟨m.toNat,by have:=h.1;lia⟩
theorem pick_run {α:Type} (xs:List α) (lo n:Nat) (hl:lo+n <= xs.length) (d:α):pick xs (some (lo:Int)) (some ((lo+n:Nat):Int)) none=(List.range n).map fun j=>xs.getD (lo+j) d:=by
 have hb:sliceBounds (some (lo:Int)) (some ((lo+n:Nat):Int)) none xs.length=((lo:Int),((lo+n:Nat):Int),1):=by
  unfold sliceBounds
  simp only[Option.getD_none,if_pos (show (1:Int)>0 by decide)]
  refine Prod.ext ?_ (Prod.ext ?_ rfl)
  ·show max 0 (min (if (lo:Int)<0 then (lo:Int)+xs.length else lo) xs.length)=(lo:Int)
   rw[if_neg (by lia)]
   lia
  ·show max 0 (min (if ((lo+n:Nat):Int)<0 then ((lo+n:Nat):Int)+xs.length else ((lo+n:Nat):Int)) xs.length)=((lo+n:Nat):Int)
   rw[if_neg (by lia)]
   lia
 unfold pick
 rw[hb]
 dsimp only
 by_cases hn:n=0
 ·subst hn
  unfold sliceRange
  simp
 unfold sliceRange
 dsimp only
 have hc:((((lo+n:Nat):Int)-lo+1-1) / 1).toNat=n:=by
  rw[Int.ediv_one]
  lia
 rw[if_pos (by decide),if_pos (by lia),hc,List.filterMap_map]
 refine qcc fun i hi=>?_
 have hi:=List.mem_range.mp hi
 have e:((lo:Int)+1*(i:Int)).toNat=lo+i:=by lia
 show xs[((lo:Int)+1*(i:Int)).toNat]?=some (xs.getD (lo+i) d)
 rw[e,List.getD_eq_getElem?_getD,List.getElem?_eq_getElem (by lia)]
 rfl
theorem qcH {r:RE}{δ:Dl}{i:Int}{k:Kd} (h:r δ = .ok (.int i,k)):jS r δ = .ok (some i):=by unfold jS;rw[h];rfl
theorem zy {α:Type} (l:List α) (d:α):l=(List.range l.length).map fun k=>l.getD k d:=by
 refine List.ext_getElem? fun k=>?_
 rw[List.getElem?_map]
 by_cases h:k<l.length
 ·rw[List.getElem?_range h,List.getElem?_eq_getElem h]
  show _=some (l.getD k d)
  rw[List.getD_eq_getElem?_getD,List.getElem?_eq_getElem h]
  rfl
 ·rw[List.getElem?_eq_none (by lia),List.getElem?_eq_none (by rw[List.length_range];lia)]
  rfl
theorem zd {i j:Int}{k l:Kd} (h1:0 <= j) (h2:j <= 60000) (h3:few i):wJ (.int i,k) (.int j,l) = .ok (.int (i*2^j.toNat),.nw):=by
 unfold wJ
 exact if_pos ⟨h1,h2,h3⟩
theorem Xe {i j:Int}{k l:Kd} (h1:0 <= j):Qh (.int i,k) (.int j,l) = .ok (.int (i / 2^j.toNat),.nw):=by
 unfold Qh
 exact if_pos h1
theorem Vc {f:List DK->Rs DK}{r:RA}{δ:Dl}{xs:List DK} (h:r δ = .ok xs):vM f r δ=f xs:=by unfold vM;rw[h];rfl
theorem wg {g:Fn}{a:RE}{δ:Dl}{x:DK}{y:D × Bool} (h:a δ = .ok x) (hg:g [x.1] = .ok y):qi g (qd a qk) δ = .ok (y.1,kB y.2):=by rw[qR (qh h qD)];show (g [x.1]).bind _=_;rw[hg];rfl
theorem ud {i:Nat}{δ:Dl}{d:D}{k:Bool} (h:δ[i]?=some (.val d k)) (c:d.sc=true):jr i δ = .rt d false:=by
 unfold jr
 rw[h]
 exact if_pos (.inl c)
theorem zf {r:RE}{δ:Dl}{b:Bool}{k:Kd} (h:r δ = .ok (.bl b,k)):tBl r δ = .ok b:=by unfold tBl;rw[h];rfl
theorem UX {t:RT}{a b:RE}{δ:Dl} (h:t δ = .ok true):Zk t a b δ=a δ:=by unfold Zk;rw[h];rfl
theorem JB {t:RT}{a b:RE}{δ:Dl} (h:t δ = .ok false):Zk t a b δ=b δ:=by unfold Zk;rw[h];rfl
theorem YL {n:Nat} (k:Nat) (hk:k <= 60000) (h:n<2^k):few (n:Int):=uy k hk (by rw[Int.natAbs_natCast];exact h)
theorem wt {x:Nat} (h:x<2^64):U64 (x:Int):=⟨by lia,by lia⟩
theorem zA {t:RT}{a:RS}{δ:Dl} (h:t δ = .ok false):sIf t a zt δ = .nx δ:=(qfe h).trans rfl
theorem qW {a b:Int} (h:a=b):(Rs.ok (D.int a,Kd.nw):Rs DK) = .ok (.int b,.nw):=by rw[h]
theorem uA {a b:Nat}:decide ((a:Int)=(b:Int))=decide (a=b):=decide_eq_decide.mpr (by lia)
noncomputable def qJ:Fn:=fn1 U64 fun x=>iv (Dm.sg x.toNat)
noncomputable def qI:Fn:=fn1 U64 fun x=>iv (Dm.wh x.toNat)
noncomputable def qK:Fn:=fn1 U64 fun x=>iv (Dm.sw x.toNat)
noncomputable def qC:Fn:=fn1 U64 fun x=>iv ((Dm.ex x.toNat:Int)-1074)
noncomputable def wq:Fn:=fn1 U64 fun x=>iv (Dm.flip x.toNat)
noncomputable def u9:RS:=(vV (qf Qh (qa 0) (rC (.int 63))))
noncomputable def xN:RS:=(vK (vn 1 (qf (Qp Builtin.bitAnd) (qa 0) (qf wb (qf wJ (rC (.int 1)) (rC (.int (52)))) (rC (.int 1))))) (vK (sIf (tBl (qf (oEq false) (qi qT (qd (qa 0) qk)) (qa 1))) (jr 1) zt) (vV (qf vR (qa 1) (qf wJ (rC (.int 1)) (rC (.int (52))))))))
noncomputable def zP:RS:=(vV (Zk (tBl (qf (oEq false) (qi qJ (qd (qa 0) qk)) (rC (.int 1)))) (rUn YH (qi qI (qd (qa 0) qk))) (qi qI (qd (qa 0) qk))))
noncomputable def xK:RS:=(vV (qf vR (qf wb (vM UZ (qd (qf Qh (qi qT (qd (qa 0) qk)) (rC (.int (52)))) (qd (rC (.int 1)) qk))) (rC (.int 1))) (rC (.int (-1074)))))
noncomputable def xF:RS:=(vV (qf (Qp Builtin.bitXor) (qa 0) (rC (.int (9223372036854775808)))))
theorem qa9 (x:Int) (h:U64 x):res (u9 (sl0 ["x"] [.int x]))=iv (Dm.sg x.toNat):=by
 unfold u9
 rw[wc (d:=.int (Dm.sg x.toNat)) ((qj (x:=(.int x,.sh)) (y:=(.int 63,.nw)) rfl rfl).trans ((Xe (by decide)).trans ?_))]
 ·rfl
 ·refine qW ?_
  unfold Dm.sg
  obtain⟨X,rfl⟩:=zN h
  rw[Int.toNat_natCast,Int.natCast_ediv]
  rfl
theorem Ju:Hr u9 ["x"] 1 qJ:=xa qa9
theorem xt {x:Int} (h:U64 x):qJ [.int x]=iv (Dm.sg x.toNat):=zG h
theorem UI (x:Int) (h:U64 x):res (xN (sl0 ["x","fraction"] [.int x]))=iv (Dm.wh x.toNat):=by
 obtain⟨X,rfl⟩:=zN h
 rw[Int.toNat_natCast]
 have sh1:∀ δ,qf wJ (rC (.int 1)) (rC (.int (52))) δ = .ok (.int 4503599627370496,.nw):=fun δ=>(qj (x:=(.int 1,.nw)) (y:=(.int 52,.nw)) rfl rfl).trans (zd (by decide) (by decide) (uy 4 (by decide) (by decide)))
 have hf:qf (Qp Builtin.bitAnd) (qa 0) (qf wb (qf wJ (rC (.int 1)) (rC (.int (52)))) (rC (.int 1))) [.val (.int X) false,.un] = .ok (.int ((X%2^52:Nat):Int),.nw):=by
  rw[qj (x:=(.int X,.sh)) (y:=(.int (4503599627370496-1),.nw)) rfl ((qj (sh1 _) (y:=(.int 1,.nw)) rfl).trans rfl)]
  have e:Builtin.bitAnd (X:Int) (2^52-1)=(X:Int)%2^52:=Bits.QK 52 h.1
  show Rs.ok (D.int (Builtin.bitAnd (X:Int) (2^52-1)),Kd.nw)=_
  rw[e,Int.natCast_emod]
  rfl
 unfold xN
 rw[show sl0 ["x","fraction"] [.int (X:Int)]=[.val (.int X) false,.un] from rfl]
 rw[qF (show vn 1 _ [.val (.int X) false,.un] = .nx [.val (.int X) false,.val (.int ((X%2^52:Nat):Int)) true] from vo hf rfl)]
 have hs:qi qT (qd (qa 0) qk) [.val (.int X) false,.val (.int ((X%2^52:Nat):Int)) true] = .ok (.int ((Dm.sz X:Nat):Int),.nw):=(wg (x:=(.int X,.sh)) rfl (jc h)).trans (by
  show Rs.ok (D.int ((X:Int)%9223372036854775808),Kd.nw)=_
  unfold Dm.sz
  rw[Int.natCast_emod]
  rfl)
 have ht:tBl (qf (oEq false) (qi qT (qd (qa 0) qk)) (qa 1)) [.val (.int X) false,.val (.int ((X%2^52:Nat):Int)) true] = .ok (decide (Dm.sz X=X%2^52)):=by
  refine zf (k:=.nw) ((qj (y:=(.int ((X%2^52:Nat):Int),.nw)) hs rfl).trans ?_)
  show Rs.ok (D.bl (decide (((Dm.sz X:Nat):Int)=((X%2^52:Nat):Int))),Kd.nw)=_
  rw[uA]
 unfold Dm.wh
 by_cases c:Dm.sz X=X%2^52
 ·rw[decide_eq_true c] at ht
  rw[if_pos c,jb ((jq ht).trans (ud rfl rfl))]
  rfl
 ·rw[decide_eq_false c] at ht
  rw[if_neg c,qF (zA ht)]
  rw[wc (d:=.int ((X%2^52+2^52:Nat):Int)) ((qj (x:=(.int ((X%2^52:Nat):Int),.nw)) rfl (sh1 _)).trans ?_)]
  ·rfl
  ·show Rs.ok (D.int (((X%2^52:Nat):Int)+4503599627370496),Kd.nw)=_
   rw[Int.natCast_add]
   rfl
theorem Uc:Hr xN ["x","fraction"] 1 qI:=xa UI
theorem xG {x:Int} (h:U64 x):qI [.int x]=iv (Dm.wh x.toNat):=zG h
theorem WH (x:Int) (h:U64 x):res (zP (sl0 ["x"] [.int x]))=iv (Dm.sw x.toNat):=by
 unfold zP
 rw[show sl0 ["x"] [.int x]=[.val (.int x) false] from rfl]
 have hw:qi qI (qd (qa 0) qk) [.val (.int x) false] = .ok (.int (Dm.wh x.toNat),.nw):=wg (x:=(.int x,.sh)) rfl (xG h)
 have ht:tBl (qf (oEq false) (qi qJ (qd (qa 0) qk)) (rC (.int 1))) [.val (.int x) false] = .ok (decide (Dm.sg x.toNat=1)):=by
  refine zf (k:=.nw) ((qj (x:=(.int (Dm.sg x.toNat),.nw)) (y:=(.int 1,.nw)) (wg (x:=(.int x,.sh)) rfl (xt h)) rfl).trans ?_)
  show Rs.ok (D.bl (decide (((Dm.sg x.toNat:Nat):Int)=((1:Nat):Int))),Kd.nw)=_
  rw[uA]
 unfold Dm.sw
 by_cases c:Dm.sg x.toNat=1
 ·rw[decide_eq_true c] at ht
  rw[if_pos c,wc (d:=.int (-(Dm.wh x.toNat:Int))) ((UX ht).trans ((uo hw).trans rfl))]
  rfl
 ·rw[decide_eq_false c] at ht
  rw[if_neg c,wc (d:=.int (Dm.wh x.toNat)) ((JB ht).trans hw)]
  rfl
theorem QR:Hr zP ["x"] 1 qK:=xa WH
theorem Wt {x:Int} (h:U64 x):qK [.int x]=iv (Dm.sw x.toNat):=zG h
theorem JQ (x:Int) (h:U64 x):res (xK (sl0 ["x"] [.int x]))=iv ((Dm.ex x.toNat:Int)-1074):=by
 obtain⟨X,rfl⟩:=zN h
 rw[Int.toNat_natCast]
 unfold xK
 rw[show sl0 ["x"] [.int (X:Int)]=[.val (.int X) false] from rfl]
 have hs:qf Qh (qi qT (qd (qa 0) qk)) (rC (.int (52))) [.val (.int X) false] = .ok (.int ((Dm.sz X / 2^52:Nat):Int),.nw):=(qj (x:=(.int ((X:Int)%9223372036854775808),.nw)) (y:=(.int 52,.nw)) (wg (x:=(.int X,.sh)) rfl (jc h)) rfl).trans ((Xe (by decide)).trans (by
  refine qW ?_
  unfold Dm.sz
  rw[Int.natCast_ediv,Int.natCast_emod]
  rfl))
 have hm:vM UZ (qd (qf Qh (qi qT (qd (qa 0) qk)) (rC (.int (52)))) (qd (rC (.int 1)) qk)) [.val (.int X) false] = .ok (.int ((max (Dm.sz X / 2^52) 1:Nat):Int),.nw):=(Vc (qh hs (qh (x:=(.int 1,.nw)) rfl qD))).trans (by
  show Rs.ok (D.int (if (1:Int)>((Dm.sz X / 2^52:Nat):Int) then 1 else ((Dm.sz X / 2^52:Nat):Int)),Kd.nw)=_
  refine qW ?_
  split <;> lia)
 have hv:qf vR (qf wb (vM UZ (qd (qf Qh (qi qT (qd (qa 0) qk)) (rC (.int (52)))) (qd (rC (.int 1)) qk))) (rC (.int 1))) (rC (.int (-1074))) [.val (.int X) false] = .ok (.int ((Dm.ex X:Int)-1074),.nw):=by
  have h1:qf wb (vM UZ (qd (qf Qh (qi qT (qd (qa 0) qk)) (rC (.int (52)))) (qd (rC (.int 1)) qk))) (rC (.int 1)) [.val (.int X) false] = .ok (.int (((max (Dm.sz X / 2^52) 1:Nat):Int)-1),.nw):=(qj hm (y:=(.int 1,.nw)) rfl).trans rfl
  refine (qj h1 (y:=(.int (-1074),.nw)) rfl).trans ?_
  refine qW ?_
  unfold Dm.ex
  generalize Dm.sz X / 2^52=q
  lia
 rw[wc (δ:=[.val (.int X) false]) hv]
 rfl
theorem X3:Hr xK ["x"] 1 qC:=xa JQ
theorem xU {x:Int} (h:U64 x):qC [.int x]=iv ((Dm.ex x.toNat:Int)-1074):=zG h
theorem Jt (x:Int) (h:U64 x):res (xF (sl0 ["x"] [.int x]))=iv (Dm.flip x.toNat):=by
 obtain⟨X,rfl⟩:=zN h
 rw[Int.toNat_natCast]
 unfold xF
 rw[wc (d:=.int (Dm.flip X)) ((qj (x:=(.int (X:Int),.sh)) (y:=(.int 9223372036854775808,.nw)) rfl rfl).trans ?_)]
 ·rfl
 ·show Rs.ok (D.int (Builtin.bitXor (X:Int) ((2^63:Nat):Int)),Kd.nw)=_
  rw[<- Dm.qbV X (by have:=h.2;lia)]
  exact qW (Bits.qbA (by lia) (by decide))
theorem Xr:Hr xF ["x"] 1 wq:=xa Jt
theorem JH {x:Int} (h:U64 x):wq [.int x]=iv (Dm.flip x.toNat):=zG h
noncomputable def lt2 (n k:Nat):Prop:=n<2^k
theorem lt2.few {n k:Nat} (h:lt2 n k) (hk:k <= 60000):few (n:Int):=YL k hk h
theorem lt2.qem {i:Int}{k:Nat} (h:lt2 i.natAbs k) (hk:k <= 60000):Ir.few i:=uy k hk h
theorem lt2.mono {n m k:Nat} (h:lt2 n k) (hm:m <= n):lt2 m k:=Nat.lt_of_le_of_lt hm h
theorem lt2.up {n k l:Nat} (h:lt2 n k) (hl:k <= l):lt2 n l:=Nat.lt_of_lt_of_le h (Nat.pow_le_pow_right (by decide) hl)
theorem lt2.mul {n m k l:Nat} (h:lt2 n k) (h2:lt2 m l):lt2 (n*m) (k+l):=by
 unfold lt2 at *
 rw[Nat.pow_add]
 exact Nat.mul_lt_mul'' h h2
theorem lt2.add {n m k:Nat} (h:lt2 n k) (h2:lt2 m k):lt2 (n+m) (k+1):=by
 unfold lt2 at *
 rw[Nat.pow_succ]
 lia
theorem lt2.pow (k:Nat):lt2 (2^k) (k+1):=Nat.pow_lt_pow_right (by decide) (by lia)
theorem lt2.log {n k:Nat} (h:lt2 n k) (hk:0<k):n.log2<k:=by
 by_cases z:n=0
 ·rw[z,Nat.log2_zero];exact hk
 ·exact (Nat.log2_lt z).mpr h
theorem qeR {a b:RT}{δ:Dl}{x y:Bool} (ha:a δ = .ok x) (hb:b δ = .ok y):W6 a b δ = .ok (x||y):=by
 unfold W6
 rw[ha,Rs.qP]
 cases x
 ·rw[if_neg (by decide),hb];rfl
 ·rfl
theorem qcz {a b:RT}{δ:Dl}{x y:Bool} (ha:a δ = .ok x) (hb:b δ = .ok y):XI a b δ = .ok (x&&y):=by
 unfold XI
 rw[ha,Rs.qP]
 cases x
 ·rfl
 ·rw[if_pos rfl,hb];rfl
noncomputable def vB:Fn:=fn2 (fun w d=>0 <= w/\lt2 w.natAbs 30000 /\ -9000 <= d/\d <= 55000) fun w d=>iv (if d <= 0 then w*2^(-d).toNat else (Dm.nw w.toNat d.toNat:Int))
noncomputable def zk:RS:=(vK (sIf (tBl (qf (yk fun i j=>decide (i <= j)) (qa 1) (rC (.int 0)))) (vV (qf wJ (qa 0) (rUn YH (qa 1)))) zt) (vK (vn 2 (qf Qh (qa 0) (qa 1))) (vK (vn 3 (qf wb (qa 0) (qf wJ (qa 2) (qa 1)))) (vK (vn 4 (qf wJ (rC (.int 1)) (qf wb (qa 1) (rC (.int 1))))) (vK (sIf (W6 (tBl (qf (yk fun i j=>decide (j<i)) (qa 3) (qa 4))) (XI (tBl (qf (oEq false) (qa 3) (qa 4))) (tBl (qf (oEq false) (qf oMod (qa 2) (rC (.int 2))) (rC (.int 1)))))) (vV (qf vR (qa 2) (rC (.int 1)))) zt) (jr 2))))))
theorem QX (w d:Int) (h:0 <= w/\lt2 w.natAbs 30000 /\ -9000 <= d/\d <= 55000):res (zk (sl0 ["whole","drop","kept","left","half"] [.int w,.int d]))=iv (if d <= 0 then w*2^(-d).toNat else (Dm.nw w.toNat d.toNat:Int)):=by
 obtain⟨h0,hw,hd1,hd2⟩:=h
 obtain⟨W,rfl⟩:∃ W:Nat,w=W:=⟨w.toNat,by lia⟩
 rw[Int.natAbs_natCast] at hw
 unfold zk
 rw[show sl0 ["whole","drop","kept","left","half"] [.int (W:Int),.int d]=[.val (.int W) false,.val (.int d) false,.un,.un,.un] from rfl]
 have ht:tBl (qf (yk fun i j=>decide (i <= j)) (qa 1) (rC (.int 0))) [.val (.int W) false,.val (.int d) false,.un,.un,.un] = .ok (decide (d <= 0)):=zf (k:=.nw) ((qj (x:=(.int d,.sh)) (y:=(.int 0,.nw)) rfl rfl).trans rfl)
 by_cases c:d <= 0
 ·rw[decide_eq_true c] at ht
  rw[if_pos c]
  have hv:qf wJ (qa 0) (rUn YH (qa 1)) [.val (.int W) false,.val (.int d) false,.un,.un,.un] = .ok (.int ((W:Int)*2^(-d).toNat),.nw):=(qj (x:=(.int W,.sh)) (y:=(.int (-d),.nw)) rfl ((uo (x:=(.int d,.sh)) rfl).trans rfl)).trans (zd (by lia) (by lia) (hw.few (by decide)))
  rw[jb ((jq ht).trans (wc (δ:=[.val (.int W) false,.val (.int d) false,.un,.un,.un]) hv))]
  rfl
 ·rw[decide_eq_false c] at ht
  rw[if_neg c,Int.toNat_natCast]
  obtain⟨K,rfl⟩:∃ K:Nat,d=K:=⟨d.toNat,by lia⟩
  rw[Int.toNat_natCast]
  rw[qF (zA ht)]
  have e2:qf Qh (qa 0) (qa 1) [.val (.int W) false,.val (.int K) false,.un,.un,.un] = .ok (.int ((W / 2^K:Nat):Int),.nw):=(qj (x:=(.int W,.sh)) (y:=(.int K,.sh)) rfl rfl).trans ((Xe (by lia)).trans (qW (by rw[Int.toNat_natCast,Int.natCast_ediv,Int.natCast_pow];rfl)))
  rw[qF (show vn 2 _ [.val (.int W) false,.val (.int K) false,.un,.un,.un] = .nx [.val (.int W) false,.val (.int K) false,.val (.int ((W / 2^K:Nat):Int)) true,.un,.un] from vo e2 rfl)]
  have hdiv:W / 2^K <= W:=Nat.div_le_self _ _
  have hmulle:W / 2^K*2^K <= W:=Nat.div_mul_le_self _ _
  have e3:qf wb (qa 0) (qf wJ (qa 2) (qa 1)) [.val (.int W) false,.val (.int K) false,.val (.int ((W / 2^K:Nat):Int)) true,.un,.un] = .ok (.int ((W-W / 2^K*2^K:Nat):Int),.nw):=by
   have q:qf wJ (qa 2) (qa 1) [.val (.int W) false,.val (.int K) false,.val (.int ((W / 2^K:Nat):Int)) true,.un,.un] = .ok (.int ((W / 2^K*2^K:Nat):Int),.nw):=(qj (x:=(.int ((W / 2^K:Nat):Int),.nw)) (y:=(.int K,.sh)) rfl rfl).trans ((zd (by lia) (by lia) ((hw.mono hdiv).few (by decide))).trans (qW (by rw[Int.toNat_natCast,Int.natCast_mul,Int.natCast_pow];rfl)))
   exact (qj (x:=(.int W,.sh)) rfl q).trans (qW (by rw[Int.natCast_sub hmulle]))
  rw[qF (show vn 3 _ _ = .nx [.val (.int W) false,.val (.int K) false,.val (.int ((W / 2^K:Nat):Int)) true,.val (.int ((W-W / 2^K*2^K:Nat):Int)) true,.un] from vo e3 rfl)]
  have e4:qf wJ (rC (.int 1)) (qf wb (qa 1) (rC (.int 1))) [.val (.int W) false,.val (.int K) false,.val (.int ((W / 2^K:Nat):Int)) true,.val (.int ((W-W / 2^K*2^K:Nat):Int)) true,.un] = .ok (.int ((2^(K-1):Nat):Int),.nw):=(qj (x:=(.int 1,.nw)) (y:=(.int ((K:Int)-1),.nw)) rfl ((qj (x:=(.int K,.sh)) (y:=(.int 1,.nw)) rfl rfl).trans rfl)).trans ((zd (by lia) (by lia) (uy 4 (by decide) (by decide))).trans (qW (by rw[show ((K:Int)-1).toNat=K-1 by lia,Int.natCast_pow,Int.one_mul];rfl)))
  rw[qF (show vn 4 _ _ = .nx [.val (.int W) false,.val (.int K) false,.val (.int ((W / 2^K:Nat):Int)) true,.val (.int ((W-W / 2^K*2^K:Nat):Int)) true,.val (.int ((2^(K-1):Nat):Int)) true] from vo e4 rfl)]
  unfold Dm.nw
  rw[if_neg (show ¬ K=0 by lia)]
  generalize W / 2^K*2^K=u at *
  generalize W / 2^K=kept at *
  generalize 2^(K-1)=half at *
  generalize W-u=left at *
  have tt:W6 (tBl (qf (yk fun i j=>decide (j<i)) (qa 3) (qa 4))) (XI (tBl (qf (oEq false) (qa 3) (qa 4))) (tBl (qf (oEq false) (qf oMod (qa 2) (rC (.int 2))) (rC (.int 1))))) [.val (.int W) false,.val (.int K) false,.val (.int kept) true,.val (.int left) true,.val (.int half) true] = .ok (decide (half<left)||(decide (left=half)&&decide (kept%2=1))):=by
   refine qeR (zf (k:=.nw) ((qj (x:=(.int left,.nw)) (y:=(.int half,.nw)) rfl rfl).trans ?_)) (qcz (zf (k:=.nw) ((qj (x:=(.int left,.nw)) (y:=(.int half,.nw)) rfl rfl).trans ?_)) (zf (k:=.nw) ((qj (x:=(.int ((kept:Int)%2),.nw)) (y:=(.int 1,.nw)) ((qj (x:=(.int kept,.nw)) (y:=(.int 2,.nw)) rfl rfl).trans rfl) rfl).trans ?_)))
   ·show Rs.ok (D.bl (decide ((half:Int)<left)),Kd.nw)=_
    rw[show decide ((half:Int)<left)=decide (half<left) from decide_eq_decide.mpr (by lia)]
   ·show Rs.ok (D.bl (decide ((left:Int)=half)),Kd.nw)=_
    rw[uA]
   ·show Rs.ok (D.bl (decide ((kept:Int)%2=1)),Kd.nw)=_
    rw[show decide ((kept:Int)%2=1)=decide (kept%2=1) from decide_eq_decide.mpr (by lia)]
  by_cases cc:half<left\/(left=half/\kept%2=1)
  ·have tb:(decide (half<left)||(decide (left=half)&&decide (kept%2=1)))=true:=by
    rw[Bool.or_eq_true,Bool.and_eq_true,decide_eq_true_eq,decide_eq_true_eq,decide_eq_true_eq];exact cc
   rw[tb] at tt
   rw[if_pos cc]
   have hv:qf vR (qa 2) (rC (.int 1)) [.val (.int W) false,.val (.int K) false,.val (.int kept) true,.val (.int left) true,.val (.int half) true] = .ok (.int ((kept+1:Nat):Int),.nw):=(qj (x:=(.int kept,.nw)) (y:=(.int 1,.nw)) rfl rfl).trans (qW (by lia))
   rw[jb ((jq tt).trans (wc (δ:=[.val (.int W) false,.val (.int K) false,.val (.int kept) true,.val (.int left) true,.val (.int half) true]) hv))]
   rfl
  ·have tb:(decide (half<left)||(decide (left=half)&&decide (kept%2=1)))=false:=by
    rw[Bool.eq_false_iff]
    intro z
    rw[Bool.or_eq_true,Bool.and_eq_true,decide_eq_true_eq,decide_eq_true_eq,decide_eq_true_eq] at z
    exact cc z
   rw[tb] at tt
   rw[if_neg cc,qF (zA tt),ud (δ:=[.val (.int W) false,.val (.int K) false,.val (.int kept) true,.val (.int left) true,.val (.int half) true]) (d:=.int kept) (k:=true) rfl rfl]
   rfl
theorem Qi:Hr zk ["whole","drop","kept","left","half"] 2 vB:=qch QX
theorem QO {w d:Int} (h:0 <= w/\lt2 w.natAbs 30000 /\ -9000 <= d/\d <= 55000):vB [.int w,.int d]=iv (if d <= 0 then w*2^(-d).toNat else (Dm.nw w.toNat d.toNat:Int)):=Xa h
noncomputable def v9:Option Nat->Rs (D × Bool)
 | some r=>iv r
 | none=>.er "StepNotFinite"
noncomputable def wm:Fn:=fn3 (fun s w p=>(s=0\/s=1)/\0 <= w/\lt2 w.natAbs 20000 /\ -8000 <= p/\p <= 8000) fun s w p=>v9 (Dm.rnd (decide (s=1)) w.toNat (p+1074))
noncomputable def ja:RS:=(vK (sIf (tBl (qf (oEq false) (qa 1) (rC (.int 0)))) (vV (qf wJ (qa 0) (rC (.int 63)))) zt) (vK (vn 3 (vM UZ (qd (qf wb (qf wb (rUn oBits (qa 1)) (rC (.int (52)))) (rC (.int 1))) (qd (qf wb (rC (.int (-1074))) (qa 2)) qk)))) (vK (vn 4 (qi vB (qd (qa 1) (qd (qa 3) qk)))) (vK (vn 5 (qf vR (qf wJ (qf wb (qf vR (qa 2) (qa 3)) (rC (.int (-1074)))) (rC (.int (52)))) (qa 4))) (vK (sIf (tBl (qf (yk fun i j=>decide (j <= i)) (qa 5) (rC (.int (9218868437227405312))))) (zR "StepNotFinite") zt) (vV (qf vR (qf wJ (qa 0) (rC (.int 63))) (qa 5))))))))
theorem qbq (s w p:Int) (h:(s=0\/s=1)/\0 <= w/\lt2 w.natAbs 20000 /\ -8000 <= p/\p <= 8000):res (ja (sl0 ["sign","whole","power","drop","kept","size"] [.int s,.int w,.int p]))=v9 (Dm.rnd (decide (s=1)) w.toNat (p+1074)):=by
 obtain⟨hs,h0,hw,hp1,hp2⟩:=h
 obtain⟨W,rfl⟩:∃ W:Nat,w=W:=⟨w.toNat,by lia⟩
 rw[Int.natAbs_natCast] at hw
 unfold ja
 rw[show sl0 ["sign","whole","power","drop","kept","size"] [.int s,.int (W:Int),.int p]=[.val (.int s) false,.val (.int W) false,.val (.int p) false,.un,.un,.un] from rfl]
 rw[Int.toNat_natCast]
 have hsg:s*2^63=((if decide (s=1)=true then 2^63 else 0:Nat):Int):=by rcases hs with rfl | rfl <;> rfl
 have fs:few s:=uy 4 (by decide) (by rcases hs with rfl | rfl <;> decide)
 have ht:tBl (qf (oEq false) (qa 1) (rC (.int 0))) [.val (.int s) false,.val (.int W) false,.val (.int p) false,.un,.un,.un] = .ok (decide (W=0)):=zf (k:=.nw) ((qj (x:=(.int W,.sh)) (y:=(.int 0,.nw)) rfl rfl).trans (by
  show Rs.ok (D.bl (decide ((W:Int)=((0:Nat):Int))),Kd.nw)=_
  rw[uA]))
 unfold Dm.rnd
 by_cases c:W=0
 ·rw[decide_eq_true c] at ht
  rw[if_pos c]
  have hv:qf wJ (qa 0) (rC (.int 63)) [.val (.int s) false,.val (.int W) false,.val (.int p) false,.un,.un,.un] = .ok (.int ((if decide (s=1)=true then 2^63 else 0:Nat):Int),.nw):=(qj (x:=(.int s,.sh)) (y:=(.int 63,.nw)) rfl rfl).trans ((zd (by decide) (by decide) fs).trans (qW hsg))
  rw[jb ((jq ht).trans (wc (δ:=[.val (.int s) false,.val (.int W) false,.val (.int p) false,.un,.un,.un]) hv))]
  rfl
 ·rw[decide_eq_false c] at ht
  rw[if_neg c,qF (zA ht)]
  have hlog:W.log2<20000:=hw.log (by decide)
  obtain⟨d,hd⟩:∃ d:Int,d=max (((W.log2+1:Nat):Int)-53) (-(p+1074)):=⟨_,rfl⟩
  rw[<- hd]
  show _=v9 (if 9218868437227405312 <= (p+1074+d).toNat*2^52+(if d <= 0 then W*2^(-d).toNat else Dm.nw W d.toNat) then none else some ((if decide (s=1)=true then 2^63 else 0)+((p+1074+d).toNat*2^52+(if d <= 0 then W*2^(-d).toNat else Dm.nw W d.toNat))))
  have hd1 : -9000 <= d/\d <= 55000:=by lia
  have e3:vM UZ (qd (qf wb (qf wb (rUn oBits (qa 1)) (rC (.int (52)))) (rC (.int 1))) (qd (qf wb (rC (.int (-1074))) (qa 2)) qk)) [.val (.int s) false,.val (.int W) false,.val (.int p) false,.un,.un,.un] = .ok (.int d,.nw):=by
   have b1:rUn oBits (qa 1) [.val (.int s) false,.val (.int W) false,.val (.int p) false,.un,.un,.un] = .ok (.int ((W.log2+1:Nat):Int),.nw):=(uo (x:=(.int W,.sh)) rfl).trans (qW (by
    rw[if_neg (by lia),Int.natAbs_natCast]))
   have b2:qf wb (qf wb (rUn oBits (qa 1)) (rC (.int (52)))) (rC (.int 1)) [.val (.int s) false,.val (.int W) false,.val (.int p) false,.un,.un,.un] = .ok (.int (((W.log2+1:Nat):Int)-52-1),.nw):=(qj (y:=(.int 1,.nw)) ((qj b1 (y:=(.int 52,.nw)) rfl).trans rfl) rfl).trans rfl
   have b3:qf wb (rC (.int (-1074))) (qa 2) [.val (.int s) false,.val (.int W) false,.val (.int p) false,.un,.un,.un] = .ok (.int (-1074-p),.nw):=(qj (x:=(.int (-1074),.nw)) (y:=(.int p,.sh)) rfl rfl).trans rfl
   refine (Vc (qh b2 (qh b3 qD))).trans ?_
   show Rs.ok (D.int (if (-1074-p)>((W.log2+1:Nat):Int)-52-1 then -1074-p else ((W.log2+1:Nat):Int)-52-1),Kd.nw)=_
   refine qW ?_
   rw[hd]
   split <;> lia
  rw[qF (show vn 3 _ _ = .nx [.val (.int s) false,.val (.int W) false,.val (.int p) false,.val (.int d) true,.un,.un] from vo e3 rfl)]
  obtain⟨kept,hk⟩:∃ kept:Nat,kept=if d <= 0 then W*2^(-d).toNat else Dm.nw W d.toNat:=⟨_,rfl⟩
  rw[<- hk]
  have e4:qi vB (qd (qa 1) (qd (qa 3) qk)) [.val (.int s) false,.val (.int W) false,.val (.int p) false,.val (.int d) true,.un,.un] = .ok (.int kept,.nw):=by
   rw[qR (qh (x:=(.int W,.sh)) rfl (qh (x:=(.int d,.nw)) rfl qD))]
   show (vB [.int W,.int d]).bind _=_
   rw[QO ⟨by lia,by rw[Int.natAbs_natCast];exact hw.up (by decide),hd1.1,hd1.2⟩]
   show Rs.ok (D.int (if d <= 0 then (W:Int)*2^(-d).toNat else (Dm.nw (W:Int).toNat d.toNat:Int)),Kd.nw)=_
   refine qW ?_
   rw[hk,Int.toNat_natCast]
   split
   ·rw[Int.natCast_mul,Int.natCast_pow];rfl
   ·rfl
  rw[qF (show vn 4 _ _ = .nx [.val (.int s) false,.val (.int W) false,.val (.int p) false,.val (.int d) true,.val (.int kept) true,.un] from vo e4 rfl)]
  obtain⟨E,hE⟩:∃ E:Nat,(E:Int)=p+1074+d:=⟨(p+1074+d).toNat,by lia⟩
  rw[<- hE,Int.toNat_natCast]
  have hEs:E<2^20:=by lia
  have e5:qf vR (qf wJ (qf wb (qf vR (qa 2) (qa 3)) (rC (.int (-1074)))) (rC (.int (52)))) (qa 4) [.val (.int s) false,.val (.int W) false,.val (.int p) false,.val (.int d) true,.val (.int kept) true,.un] = .ok (.int ((E*2^52+kept:Nat):Int),.nw):=by
   have b1:qf wb (qf vR (qa 2) (qa 3)) (rC (.int (-1074))) [.val (.int s) false,.val (.int W) false,.val (.int p) false,.val (.int d) true,.val (.int kept) true,.un] = .ok (.int E,.nw):=(qj (x:=(.int (p+d),.nw)) (y:=(.int (-1074),.nw)) ((qj (x:=(.int p,.sh)) (y:=(.int d,.nw)) rfl rfl).trans rfl) rfl).trans (qW (by lia))
   have b2:qf wJ (qf wb (qf vR (qa 2) (qa 3)) (rC (.int (-1074)))) (rC (.int (52))) [.val (.int s) false,.val (.int W) false,.val (.int p) false,.val (.int d) true,.val (.int kept) true,.un] = .ok (.int ((E*2^52:Nat):Int),.nw):=(qj b1 (y:=(.int 52,.nw)) rfl).trans ((zd (by decide) (by decide) (YL 20 (by decide) hEs)).trans (qW (by rw[Int.natCast_mul];rfl)))
   exact (qj b2 (y:=(.int kept,.nw)) rfl).trans (qW (by rw[Int.natCast_add]))
  generalize E*2^52+kept=size at *
  rw[qF (show vn 5 _ _ = .nx [.val (.int s) false,.val (.int W) false,.val (.int p) false,.val (.int d) true,.val (.int kept) true,.val (.int size) true] from vo e5 rfl)]
  have ht2:tBl (qf (yk fun i j=>decide (j <= i)) (qa 5) (rC (.int (9218868437227405312)))) [.val (.int s) false,.val (.int W) false,.val (.int p) false,.val (.int d) true,.val (.int kept) true,.val (.int size) true] = .ok (decide (9218868437227405312 <= size)):=zf (k:=.nw) ((qj (x:=(.int size,.nw)) (y:=(.int 9218868437227405312,.nw)) rfl rfl).trans (by
   show Rs.ok (D.bl (decide ((9218868437227405312:Int) <= size)),Kd.nw)=_
   rw[show decide ((9218868437227405312:Int) <= size)=decide (9218868437227405312 <= size) from decide_eq_decide.mpr (by lia)]))
  by_cases c2:9218868437227405312 <= size
  ·rw[decide_eq_true c2] at ht2
   rw[if_pos c2,yx ((jq ht2).trans rfl)]
   rfl
  ·rw[decide_eq_false c2] at ht2
   rw[if_neg c2,qF (zA ht2)]
   have hv:qf vR (qf wJ (qa 0) (rC (.int 63))) (qa 5) [.val (.int s) false,.val (.int W) false,.val (.int p) false,.val (.int d) true,.val (.int kept) true,.val (.int size) true] = .ok (.int (((if decide (s=1)=true then 2^63 else 0)+size:Nat):Int),.nw):=by
    have b1:qf wJ (qa 0) (rC (.int 63)) [.val (.int s) false,.val (.int W) false,.val (.int p) false,.val (.int d) true,.val (.int kept) true,.val (.int size) true] = .ok (.int ((if decide (s=1)=true then 2^63 else 0:Nat):Int),.nw):=(qj (x:=(.int s,.sh)) (y:=(.int 63,.nw)) rfl rfl).trans ((zd (by decide) (by decide) fs).trans (qW hsg))
    exact (qj b1 (y:=(.int size,.nw)) rfl).trans (qW (by rw[Int.natCast_add]))
   rw[wc (δ:=[.val (.int s) false,.val (.int W) false,.val (.int p) false,.val (.int d) true,.val (.int kept) true,.val (.int size) true]) hv]
   rfl
theorem Jq:Hr ja ["sign","whole","power","drop","kept","size"] 3 wm:=qcS qbq
theorem ZQ {s w p:Int} (h:(s=0\/s=1)/\0 <= w/\lt2 w.natAbs 20000 /\ -8000 <= p/\p <= 8000):wm [.int s,.int w,.int p]=v9 (Dm.rnd (decide (s=1)) w.toNat (p+1074)):=Yo h
noncomputable abbrev U3 (x y z:Int):Prop:=U64 x/\U64 y/\U64 z
noncomputable abbrev U2 (x y:Int):Prop:=U64 x/\U64 y
noncomputable def zl:Fn:=fn3 U3 fun x y z=>v9 (Pv.fused x.toNat y.toNat z.toNat)
noncomputable def Vk:RS:=(vK (vn 3 (qf vR (qi qC (qd (qa 0) qk)) (qi qC (qd (qa 1) qk)))) (vK (vn 4 (vM qfh (qd (qa 3) (qd (qi qC (qd (qa 2) qk)) qk)))) (vK (vn 5 (qf wJ (qf y6 (qi qK (qd (qa 0) qk)) (qi qK (qd (qa 1) qk))) (qf wb (qa 3) (qa 4)))) (vK (vn 6 (qf vR (qa 5) (qf wJ (qi qK (qd (qa 2) qk)) (qf wb (qi qC (qd (qa 2) qk)) (qa 4))))) (vK (sIf (tBl (qf (oEq false) (qa 6) (rC (.int 0)))) (vV (qf wJ (qf (Qp Builtin.bitAnd) (qf (Qp Builtin.bitXor) (qi qJ (qd (qa 0) qk)) (qi qJ (qd (qa 1) qk))) (qi qJ (qd (qa 2) qk))) (rC (.int 63)))) zt) (vV (qi wm (qd (Zk (tBl (qf (yk fun i j=>decide (i<j)) (qa 6) (rC (.int 0)))) (rC (.int 1)) (rC (.int 0))) (qd (vM qfj (qd (qa 6) qk)) (qd (qa 4) qk))))))))))
theorem qcC {p:Prop} [Decidable p]:decide ((if p then (1:Int) else 0)=1)=decide p:=by by_cases h:p <;> simp [h]
theorem jW {r:RE}{δ:Dl}{o:Option Nat} (h:r δ=(v9 o).bind fun y=>.ok (y.1,kB y.2)) (hf:autoParam (freeze δ=δ) qt._auto_1):res (vV r δ)=v9 o:=by
 cases o with
 | none=>rw[z7 (c:="StepNotFinite") (by rw[hf,h];rfl)];rfl
 | some v=>rw[wc (d:=.int v) (by rw[hf,h];rfl)];rfl
theorem Z1 {x:Nat} (h:x<2^64):Dm.ex x <= 2046:=by
 unfold Dm.ex Dm.sz
 lia
theorem Ua {x:Nat} (h:x<2^64):Dm.sg x=0\/Dm.sg x=1:=by
 unfold Dm.sg
 lia
theorem qbJ (x:Nat):lt2 (Dm.sw x).natAbs 53:=by
 unfold Dm.sw
 split
 ·rw[Int.natAbs_neg,Int.natAbs_natCast];exact Dm.VT x
 ·rw[Int.natAbs_natCast];exact Dm.VT x
theorem xR {X:Nat} (h:U64 (X:Int)):X<2^64:=by have:=h.2;lia
theorem qd6 (x y z:Int) (h:U3 x y z):res (Vk (sl0 ["x","y","z","power","low","product_part","total"] [.int x,.int y,.int z]))=v9 (Pv.fused x.toNat y.toNat z.toNat):=by
 obtain⟨hx,hy,hz⟩:=h
 obtain⟨X,rfl⟩:=zN hx
 obtain⟨Y,rfl⟩:=zN hy
 obtain⟨Z,rfl⟩:=zN hz
 have lx:=xR hx
 have ly:=xR hy
 have lz:=xR hz
 rw[Int.toNat_natCast,Int.toNat_natCast,Int.toNat_natCast,<- Dm.qbS lx ly lz]
 unfold Vk
 rw[show sl0 ["x","y","z","power","low","product_part","total"] [.int (X:Int),.int (Y:Int),.int (Z:Int)]=[.val (.int X) false,.val (.int Y) false,.val (.int Z) false,.un,.un,.un,.un] from rfl]
 have pw:∀ {i:Nat}{V:Nat}{δ:Dl}{k:Kd},U64 (V:Int)->qa i δ = .ok (.int V,k)->qi qC (qd (qa i) qk) δ = .ok (.int ((Dm.ex V:Int)-1074),.nw):=fun {i V δ k} u e=>(wg e (xU u)).trans rfl
 have sww:∀ {i:Nat}{V:Nat}{δ:Dl}{k:Kd},U64 (V:Int)->qa i δ = .ok (.int V,k)->qi qK (qd (qa i) qk) δ = .ok (.int (Dm.sw V),.nw):=fun {i V δ k} u e=>(wg e (Wt u)).trans rfl
 have sgg:∀ {i:Nat}{V:Nat}{δ:Dl}{k:Kd},U64 (V:Int)->qa i δ = .ok (.int V,k)->qi qJ (qd (qa i) qk) δ = .ok (.int (Dm.sg V),.nw):=fun {i V δ k} u e=>(wg e (xt u)).trans rfl
 obtain⟨P,hP⟩:∃ P:Int,P=(Dm.ex X:Int)+Dm.ex Y-2148:=⟨_,rfl⟩
 obtain⟨Q,hQ⟩:∃ Q:Int,Q=(Dm.ex Z:Int)-1074:=⟨_,rfl⟩
 obtain⟨L,hL⟩:∃ L:Int,L=min P Q:=⟨_,rfl⟩
 have bx:=Z1 lx
 have by_:=Z1 ly
 have bz:=Z1 lz
 obtain⟨T,hT⟩:∃ T:Int,T=Dm.sw X*Dm.sw Y*2^(P-L).toNat+Dm.sw Z*2^(Q-L).toNat:=⟨_,rfl⟩
 have hm:Dm.U8 X Y Z=if T=0 then some (if (Dm.sg X≠Dm.sg Y)/\Dm.sg Z=1 then 2^63 else 0) else Dm.rnd (decide (T<0)) T.natAbs (L+1074):=by
  rw[hT,hL,hP,hQ]
  rfl
 rw[hm]
 have e3:qf vR (qi qC (qd (qa 0) qk)) (qi qC (qd (qa 1) qk)) [.val (.int X) false,.val (.int Y) false,.val (.int Z) false,.un,.un,.un,.un] = .ok (.int P,.nw):=(qj (pw hx rfl) (pw hy rfl)).trans (qW (by rw[hP];lia))
 rw[qF (show vn 3 _ _ = .nx [.val (.int X) false,.val (.int Y) false,.val (.int Z) false,.val (.int P) true,.un,.un,.un] from vo e3 rfl)]
 have e4:vM qfh (qd (qa 3) (qd (qi qC (qd (qa 2) qk)) qk)) [.val (.int X) false,.val (.int Y) false,.val (.int Z) false,.val (.int P) true,.un,.un,.un] = .ok (.int L,.nw):=(Vc (qh (x:=(.int P,.nw)) rfl (qh (pw hz rfl) qD))).trans (by
  show Rs.ok (D.int (if (Dm.ex Z:Int)-1074<P then (Dm.ex Z:Int)-1074 else P),Kd.nw)=_
  refine qW ?_
  rw[hL,hQ]
  split <;> lia)
 rw[qF (show vn 4 _ _ = .nx [.val (.int X) false,.val (.int Y) false,.val (.int Z) false,.val (.int P) true,.val (.int L) true,.un,.un] from vo e4 rfl)]
 have fx:=qbJ X
 have fy:=qbJ Y
 have fz:=qbJ Z
 have fxy:lt2 (Dm.sw X*Dm.sw Y).natAbs 106:=by rw[Int.natAbs_mul];exact fx.mul fy
 have e5:qf wJ (qf y6 (qi qK (qd (qa 0) qk)) (qi qK (qd (qa 1) qk))) (qf wb (qa 3) (qa 4)) [.val (.int X) false,.val (.int Y) false,.val (.int Z) false,.val (.int P) true,.val (.int L) true,.un,.un] = .ok (.int (Dm.sw X*Dm.sw Y*2^(P-L).toNat),.nw) :=
  (qj (x:=(.int (Dm.sw X*Dm.sw Y),.nw)) (y:=(.int (P-L),.nw)) ((qj (sww hx rfl) (sww hy rfl)).trans (uI (fx.qem (by decide)) (fy.qem (by decide)))) ((qj (x:=(.int P,.nw)) (y:=(.int L,.nw)) rfl rfl).trans rfl)).trans (zd (by lia) (by lia) (fxy.qem (by decide)))
 rw[qF (show vn 5 _ _ = .nx [.val (.int X) false,.val (.int Y) false,.val (.int Z) false,.val (.int P) true,.val (.int L) true,.val (.int (Dm.sw X*Dm.sw Y*2^(P-L).toNat)) true,.un] from vo e5 rfl)]
 have e6:qf vR (qa 5) (qf wJ (qi qK (qd (qa 2) qk)) (qf wb (qi qC (qd (qa 2) qk)) (qa 4))) [.val (.int X) false,.val (.int Y) false,.val (.int Z) false,.val (.int P) true,.val (.int L) true,.val (.int (Dm.sw X*Dm.sw Y*2^(P-L).toNat)) true,.un] = .ok (.int T,.nw):=by
  have b1:qf wJ (qi qK (qd (qa 2) qk)) (qf wb (qi qC (qd (qa 2) qk)) (qa 4)) [.val (.int X) false,.val (.int Y) false,.val (.int Z) false,.val (.int P) true,.val (.int L) true,.val (.int (Dm.sw X*Dm.sw Y*2^(P-L).toNat)) true,.un] = .ok (.int (Dm.sw Z*2^(Q-L).toNat),.nw) :=
   (qj (y:=(.int (Q-L),.nw)) (sww hz rfl) ((qj (y:=(.int L,.nw)) (pw hz rfl) rfl).trans (qW (by rw[hQ])))).trans (zd (by lia) (by lia) (fz.qem (by decide)))
  exact (qj (x:=(.int (Dm.sw X*Dm.sw Y*2^(P-L).toNat),.nw)) rfl b1).trans (qW hT.symm)
 rw[qF (show vn 6 _ _ = .nx [.val (.int X) false,.val (.int Y) false,.val (.int Z) false,.val (.int P) true,.val (.int L) true,.val (.int (Dm.sw X*Dm.sw Y*2^(P-L).toNat)) true,.val (.int T) true] from vo e6 rfl)]
 have fT:lt2 T.natAbs 20000:=by
  have a1:lt2 (Dm.sw X*Dm.sw Y*2^(P-L).toNat).natAbs 19999:=by
   rw[Int.natAbs_mul,Int.natAbs_pow]
   exact (fxy.mul (lt2.pow (P-L).toNat)).up (by lia)
  have a2:lt2 (Dm.sw Z*2^(Q-L).toNat).natAbs 19999:=by
   rw[Int.natAbs_mul,Int.natAbs_pow]
   exact (fz.mul (lt2.pow (Q-L).toNat)).up (by lia)
  rw[hT]
  exact (a1.add a2).mono (Int.natAbs_add_le _ _)
 generalize Dm.sw X*Dm.sw Y*2^(P-L).toNat=pp
 have ht:tBl (qf (oEq false) (qa 6) (rC (.int 0))) [.val (.int X) false,.val (.int Y) false,.val (.int Z) false,.val (.int P) true,.val (.int L) true,.val (.int pp) true,.val (.int T) true] = .ok (decide (T=0)):=zf (k:=.nw) ((qj (x:=(.int T,.nw)) (y:=(.int 0,.nw)) rfl rfl).trans rfl)
 by_cases c:T=0
 ·rw[decide_eq_true c] at ht
  rw[if_pos c]
  have hv:qf wJ (qf (Qp Builtin.bitAnd) (qf (Qp Builtin.bitXor) (qi qJ (qd (qa 0) qk)) (qi qJ (qd (qa 1) qk))) (qi qJ (qd (qa 2) qk))) (rC (.int 63)) [.val (.int X) false,.val (.int Y) false,.val (.int Z) false,.val (.int P) true,.val (.int L) true,.val (.int pp) true,.val (.int T) true] = .ok (.int ((if (Dm.sg X≠Dm.sg Y)/\Dm.sg Z=1 then 2^63 else 0:Nat):Int),.nw):=by
   have b:Builtin.bitAnd (Builtin.bitXor (Dm.sg X) (Dm.sg Y)) (Dm.sg Z)=((if (Dm.sg X≠Dm.sg Y)/\Dm.sg Z=1 then 1 else 0:Nat):Int):=by
    rcases Ua lx with a | a <;> rcases Ua ly with b | b <;> rcases Ua lz with d | d <;> rw[a,b,d] <;> decide
   have b1:=(qj (f:=Qp Builtin.bitAnd) (x:=(.int (Builtin.bitXor (Dm.sg X) (Dm.sg Y)),.nw)) ((qj (f:=Qp Builtin.bitXor) (sgg (i:=0) (δ:=[.val (.int X) false,.val (.int Y) false,.val (.int Z) false,.val (.int P) true,.val (.int L) true,.val (.int pp) true,.val (.int T) true]) hx rfl) (sgg (i:=1) hy rfl)).trans rfl) (sgg (i:=2) hz rfl)).trans (qW b)
   refine (qj b1 (y:=(.int 63,.nw)) rfl).trans ((zd (by decide) (by decide) (YL 4 (by decide) (by split <;> decide))).trans (qW ?_))
   split <;> rfl
  rw[jb ((jq ht).trans (wc (δ:=[.val (.int X) false,.val (.int Y) false,.val (.int Z) false,.val (.int P) true,.val (.int L) true,.val (.int pp) true,.val (.int T) true]) hv))]
  rfl
 ·rw[decide_eq_false c] at ht
  rw[if_neg c,qF (zA ht)]
  have hs:Zk (tBl (qf (yk fun i j=>decide (i<j)) (qa 6) (rC (.int 0)))) (rC (.int 1)) (rC (.int 0)) [.val (.int X) false,.val (.int Y) false,.val (.int Z) false,.val (.int P) true,.val (.int L) true,.val (.int pp) true,.val (.int T) true] = .ok (.int (if T<0 then 1 else 0),.nw):=by
   have tt:tBl (qf (yk fun i j=>decide (i<j)) (qa 6) (rC (.int 0))) [.val (.int X) false,.val (.int Y) false,.val (.int Z) false,.val (.int P) true,.val (.int L) true,.val (.int pp) true,.val (.int T) true] = .ok (decide (T<0)):=zf (k:=.nw) ((qj (x:=(.int T,.nw)) (y:=(.int 0,.nw)) rfl rfl).trans rfl)
   by_cases q:T<0
   ·rw[decide_eq_true q] at tt
    rw[UX tt,if_pos q]
    rfl
   ·rw[decide_eq_false q] at tt
    rw[JB tt,if_neg q]
    rfl
  have ha:vM qfj (qd (qa 6) qk) [.val (.int X) false,.val (.int Y) false,.val (.int Z) false,.val (.int P) true,.val (.int L) true,.val (.int pp) true,.val (.int T) true] = .ok (.int (T.natAbs:Int),.nw):=(Vc (qh (x:=(.int T,.nw)) rfl qD)).trans (qW (by split <;> lia))
  have hg:wm [.int (if T<0 then 1 else 0),.int (T.natAbs:Int),.int L]=v9 (Dm.rnd (decide (T<0)) T.natAbs (L+1074)):=by
   rw[ZQ ⟨by split <;> simp,by lia,by rw[Int.natAbs_natCast];exact fT,by lia,by lia⟩,Int.toNat_natCast]
   rw[qcC]
  have hcall:=qR (g:=wm) (δ:=[.val (.int X) false,.val (.int Y) false,.val (.int Z) false,.val (.int P) true,.val (.int L) true,.val (.int pp) true,.val (.int T) true]) (qh hs (qh ha (qh (ra:=qa 4) (x:=(.int L,.nw)) rfl qD)))
  exact jW (δ:=[.val (.int X) false,.val (.int Y) false,.val (.int Z) false,.val (.int P) true,.val (.int L) true,.val (.int pp) true,.val (.int T) true]) (hcall.trans (congrArg (fun q=>Rs.bind q _) hg))
theorem qbL:Hr Vk ["x","y","z","power","low","product_part","total"] 3 zl:=qcS qd6
theorem J4 {x y z:Int} (h:U64 x) (h2:U64 y) (h3:U64 z):zl [.int x,.int y,.int z]=v9 (Pv.fused x.toNat y.toNat z.toNat):=Yo ⟨h,h2,h3⟩
theorem YC {neg:Bool}{m r:Nat} (h:Pv.pack neg m=some r):r<2^64:=by
 unfold Pv.pack at h
 split at h
 ·cases h
 ·rename_i hm
  have hm:m<2^2098:=Nat.lt_of_not_le hm
  cases h
  have a:(if neg=true then 2^63 else 0) <= 2^63:=by split <;> decide
  have b:(if m<2^52 then m else (m.log2-51)*2^52+m / 2^(m.log2-52)%2^52)<2^63:=by
   split
   ·rename_i q;exact Nat.lt_trans q (by decide)
   ·have hl:m.log2<2098:=by
     by_cases z:m=0
     ·rw[z,Nat.log2_zero];decide
     ·exact (Nat.log2_lt z).mpr hm
    have q:=Nat.mod_lt (m / 2^(m.log2-52)) (show 0<2^52 by decide)
    generalize m / 2^(m.log2-52)%2^52=v at q ⊢
    generalize m.log2=u at hl ⊢
    clear hm
    lia
  clear hm
  lia
theorem qb1 {s:Int}{d:Nat}{b:Bool}{r:Nat} (h:Pv.ofSum s d b=some r):r<2^64:=by
 unfold Pv.ofSum at h
 split at h
 ·cases h;split <;> decide
 ·exact YC h
theorem Wf {x y z r:Nat} (h:Pv.fused x y z=some r):r<2^64:=qb1 h
theorem QH {β:Type}{tg:Tg}{body:RS}{enc:β->DK}{st:Nat->β->Option Nat}{J:Nat->Dl->Prop}:∀ {l:List β},(∀ b∈l,∀ s δ,J s δ->∃ δ1,tg.put (enc b) δ=some δ1/\(∀ r,st s b=some r->∃ δ2,body δ1 = .nx δ2/\J r δ2)/\(st s b=none->body δ1 = .er "StepNotFinite")) ->
  ∀ s δ,J s δ->(∃ r δ',l.foldlM (fun t b=>Pv.step (st t b)) s = .ok r/\turns tg body (l.map enc) δ = .nx δ'/\J r δ')\/(l.foldlM (fun t b=>Pv.step (st t b)) s = .error (-3)/\turns tg body (l.map enc) δ = .er "StepNotFinite")
 | [],_,s,δ,j=>.inl ⟨s,δ,rfl,rfl,j⟩
 | b::l,ok,s,δ,j=>by
  obtain⟨δ1,hp,h1,h2⟩:=ok b (List.mem_cons_self) s δ j
  have ht:∀ o,body δ1=o->turns tg body ((b::l).map enc) δ=(match o with | .nx δ2=>turns tg body (l.map enc) δ2 | .ct δ2=>turns tg body (l.map enc) δ2 | .bk δ2=>.nx δ2 | o=>o):=fun o e=>by
   show (match tg.put (enc b) δ with | none=>_ | some δ1=>_)=_
   rw[hp]
   dsimp only
   rw[e]
   all_goals (cases o <;> rfl)
  rw[List.foldlM_cons]
  cases e:st s b with
  | none=>exact .inr ⟨rfl,ht _ (h2 e)⟩
  | some r =>
   obtain⟨δ2,hb,j2⟩:=h1 r e
   rw[ht _ hb]
   exact QH (fun x hx=>ok x (List.mem_cons_of_mem _ hx)) r δ2 j2
theorem qgr {r:RE}{δ:Dl}{xs:List D}{k:Kd} (h:r δ = .ok (.lst xs,k)):iOf r δ = .ok (k.safe,xs.map fun d=>(d,k.low .nw)):=by unfold iOf;rw[h];rfl
theorem ue {x:Option Nat}:∀ {e},Pv.step x = .error e->e = -3:=by
 intro e h
 cases x with
 | none=>cases h;rfl
 | some y=>cases h
theorem Wd {β:Type}{f:Nat->β->Pv.Did Nat} (h:∀ t b e,f t b = .error e->e = -3):∀ {l:List β}{s:Nat}{e:Int},l.foldlM f s = .error e->e = -3
 | [],_,_,q=>by cases q
 | b::l,s,e,q=>by
  rw[List.foldlM_cons] at q
  cases c:f s b with
  | error z=>rw[c] at q;cases q;exact h _ _ _ c
  | ok r=>rw[c] at q;exact Wd h (l:=l) q
open Classical in
noncomputable def gSh (sh:List Bool) (P:List Int->List (List Int)->Prop) (h:List Int->List (List Int)->Rs (D × Bool)):Fn:=fun ds=>match asks sh ds with
 | some x=>if P x.1 x.2 then h x.1 x.2 else .no
 | none=>.no
theorem U7 {sh:List Bool}{P:List Int->List (List Int)->Prop}{h:List Int->List (List Int)->Rs (D × Bool)}{is:List Int}{ls:List (List Int)} (h1:is.length=sh.count false) (h2:ls.length=sh.count true) (g:P is ls):gSh sh P h (unp sh is ls)=h is ls:=by
 unfold gSh
 rw[Yt h1 h2]
 exact if_pos g
theorem qe3 {sh:List Bool}{P:List Int->List (List Int)->Prop}{h:List Int->List (List Int)->Rs (D × Bool)}{r:RS}{N:List Str}{n:Nat}
  (q:∀ is ls,is.length=sh.count false->ls.length=sh.count true->P is ls->res (r (sl0 N (unp sh is ls)))=h is ls):Hr r N n (gSh sh P h):=by
 intro ds _
 cases e:asks sh ds with
 | none=>left;unfold gSh;rw[e]
 | some x =>
  obtain⟨is,ls⟩:=x
  by_cases g:P is ls
  ·right
   obtain⟨e1,e2,e3⟩:=Y0 e
   rw[e1,q is ls e2 e3 g,U7 e2 e3 g]
  ·left
   unfold gSh
   rw[e]
   exact if_neg g
theorem uV {ns:List Int} (h:xn ns):ns.map D.int=(nats ns).map fun (n:Nat)=>D.int n:=by
 conv=>lhs;rw[<- qa1 h]
 rw[List.map_map]
 rfl
theorem uN {ns:List Int} (h:xn ns):∀ v∈nats ns,v<2^64:=fun v hv=>by
 obtain⟨x,hx,rfl⟩:=List.mem_map.mp hv
 obtain⟨h1,h2⟩:=h x hx
 lia
theorem ZD (l:List Nat):nats (l.map fun (n:Nat)=>(n:Int))=l:=by
 unfold nats
 rw[List.map_map]
 conv=>rhs;rw[<- List.map_id l]
 exact List.map_congr_left fun k _=>Int.toNat_natCast k
theorem Zz {l:List Nat} (h:∀ v∈l,v<2^64):xn (l.map fun (n:Nat)=>(n:Int)):=fun x hx=>by
 obtain⟨v,hv,rfl⟩:=List.mem_map.mp hx
 exact wt (h v hv)
noncomputable def Uu:Pv.Did Nat->Rs (D × Bool)
 | .ok r=>iv r
 | .error _=>.er "StepNotFinite"
noncomputable def Jg:List Int->List (List Int)->Prop
 | [s],[r,c]=>U64 s/\xn r/\xn c
 | _,_=>False
noncomputable def Jc:List Int->List (List Int)->Rs (D × Bool)
 | [s],[r,c]=>Uu (Pv.chain s.toNat ((nats r).zip (nats c)))
 | _,_=>.no
noncomputable def qE:Fn:=gSh [true,true,false] Jg Jc
noncomputable def zZ:RS:=(vK (vn 3 (qa 2)) (vK (XN (.two 4 5) (j6 (qa 0) (qa 1)) (vn 3 (qi zl (qd (qa 4) (qd (qa 5) (qd (qa 3) qk)))))) (jr 3)))
theorem Zi (s:Int) (a b:List Int) (hs:U64 s) (ha:xn a) (hb:xn b) :
  res (zZ (sl0 ["row","column","start","s","x","y"] [.lst (a.map .int),.lst (b.map .int),.int s]))=Uu (Pv.chain s.toNat ((nats a).zip (nats b))):=by
 obtain⟨S,rfl⟩:=zN hs
 rw[Int.toNat_natCast]
 unfold zZ
 rw[show sl0 ["row","column","start","s","x","y"] [.lst (a.map .int),.lst (b.map .int),.int (S:Int)]=[.val (.lst (a.map .int)) false,.val (.lst (b.map .int)) false,.val (.int S) false,.un,.un,.un] from rfl]
 rw[qF (show vn 3 (qa 2) _ = .nx [.val (.lst (a.map .int)) false,.val (.lst (b.map .int)) false,.val (.int S) false,.val (.int S) true,.un,.un] from vo (k:=.sh) rfl rfl)]
 have hz:j6 (qa 0) (qa 1) [.val (.lst (a.map .int)) false,.val (.lst (b.map .int)) false,.val (.int S) false,.val (.int S) true,.un,.un] = .ok (true,((nats a).zip (nats b)).map fun p=>(.tup [.int (p.1:Nat),.int (p.2:Nat)],.sh)):=by
  show Rs.ok (true,((a.map D.int).zip (b.map D.int)).map fun p=>(D.tup [p.1,p.2],Kd.sh))=_
  rw[uV ha,uV hb,jL,List.map_map]
  rfl
 have hfor:=QH (tg:=.two 4 5) (body:=vn 3 (qi zl (qd (qa 4) (qd (qa 5) (qd (qa 3) qk))))) (enc:=fun (p:Nat × Nat)=>(D.tup [.int (p.1:Nat),.int (p.2:Nat)],Kd.sh)) (st:=fun t p=>Pv.fused p.1 p.2 t) (l:=(nats a).zip (nats b))
  (J:=fun s δ=>s<2^64/\∃ u v,δ=[.val (.lst (a.map .int)) false,.val (.lst (b.map .int)) false,.val (.int S) false,.val (.int (s:Int)) true,u,v]) (by
   rintro⟨p,q⟩ hpq s δ ⟨hs,u,v,rfl⟩
   have hp:p<2^64:=uN ha p (List.of_mem_zip hpq).1
   have hq:q<2^64:=uN hb q (List.of_mem_zip hpq).2
   have hg:=J4 (wt hp) (wt hq) (wt hs)
   rw[Int.toNat_natCast,Int.toNat_natCast,Int.toNat_natCast] at hg
   have hcall:=(qR (g:=zl) (δ:=[.val (.lst (a.map .int)) false,.val (.lst (b.map .int)) false,.val (.int S) false,.val (.int (s:Int)) true,.val (.int (p:Int)) true,.val (.int (q:Int)) true]) (qh (ra:=qa 4) (x:=(.int p,.nw)) rfl (qh (ra:=qa 5) (x:=(.int q,.nw)) rfl (qh (ra:=qa 3) (x:=(.int s,.nw)) rfl qD)))).trans (congrArg (fun q=>Rs.bind q _) hg)
   refine⟨[.val (.lst (a.map .int)) false,.val (.lst (b.map .int)) false,.val (.int S) false,.val (.int (s:Int)) true,.val (.int (p:Int)) true,.val (.int (q:Int)) true],rfl,fun r hr=>?_,fun hr=>?_⟩
   ·have hr:Pv.fused p q s=some r:=hr
    rw[hr] at hcall
    exact⟨[.val (.lst (a.map .int)) false,.val (.lst (b.map .int)) false,.val (.int S) false,.val (.int (r:Int)) true,.val (.int (p:Int)) true,.val (.int (q:Int)) true],vo (k:=.nw) (d:=.int r) hcall rfl,Wf hr,_,_,rfl⟩
   ·have hr:Pv.fused p q s=none:=hr
    rw[hr] at hcall
    exact YM hcall) S [.val (.lst (a.map .int)) false,.val (.lst (b.map .int)) false,.val (.int S) false,.val (.int S) true,.un,.un] ⟨xR hs,.un,.un,rfl⟩
 unfold Pv.chain
 rcases hfor with ⟨r,δ',h1,h2,h3,u,v,rfl⟩ | ⟨h1,h2⟩
 ·have h1:((nats a).zip (nats b)).foldlM (fun t p=>Pv.F p.1 p.2 t) S = .ok r:=h1
  rw[qF ((qad hz).trans h2),h1,ud (δ:=[.val (.lst (a.map .int)) false,.val (.lst (b.map .int)) false,.val (.int S) false,.val (.int (r:Int)) true,u,v]) (d:=.int r) (k:=true) rfl rfl]
  rfl
 ·have h1:((nats a).zip (nats b)).foldlM (fun t p=>Pv.F p.1 p.2 t) S = .error (-3):=h1
  rw[yx ((qad hz).trans h2),h1]
  rfl
theorem VH:Hr zZ ["row","column","start","s","x","y"] 3 qE:=qe3 fun is ls h1 h2 g=>by
 obtain⟨s,rfl⟩:=qfn h1
 obtain⟨a,b,rfl⟩:=qff h2
 exact Zi s a b g.1 g.2.1 g.2.2
theorem xg {s:Nat}{r c:List Nat} (hs:s<2^64) (hr:∀ v∈r,v<2^64) (hc:∀ v∈c,v<2^64):qE [.lst (r.map fun (n:Nat)=>D.int n),.lst (c.map fun (n:Nat)=>D.int n),.int s]=Uu (Pv.chain s (r.zip c)):=by
 have q:=U7 (sh:=[true,true,false]) (P:=Jg) (h:=Jc) (is:=[(s:Int)]) (ls:=[r.map fun (n:Nat)=>(n:Int),c.map fun (n:Nat)=>(n:Int)]) rfl rfl ⟨wt hs,Zz hr,Zz hc⟩
 show gSh [true,true,false] Jg Jc _=_
 have e:unp [true,true,false] [(s:Int)] [r.map fun (n:Nat)=>(n:Int),c.map fun (n:Nat)=>(n:Int)]=[.lst (r.map fun (n:Nat)=>D.int n),.lst (c.map fun (n:Nat)=>D.int n),.int s]:=by
  show [D.lst ((r.map fun (n:Nat)=>(n:Int)).map D.int),D.lst ((c.map fun (n:Nat)=>(n:Int)).map D.int),D.int s]=_
  rw[List.map_map,List.map_map]
  rfl
 rw[e] at q
 rw[q]
 show Uu (Pv.chain (s:Int).toNat ((nats (r.map fun (n:Nat)=>(n:Int))).zip (nats (c.map fun (n:Nat)=>(n:Int)))))=_
 rw[ZD,ZD,Int.toNat_natCast]
theorem mapM_congr {β γ:Type}{f g:β->Pv.Did γ}:∀ {l:List β},(∀ x∈l,f x=g x)->l.mapM f=l.mapM g
 | [],_=>rfl
 | x::l,h=>by rw[List.mapM_cons,List.mapM_cons,h x (List.mem_cons_self),mapM_congr fun y hy=>h y (List.mem_cons_of_mem _ hy)]
theorem yF {xs:List D}{k l:Kd}{i:Nat}{d:D} (h:xs[i]?=some d):oIx (.lst xs,k) (.int (i:Nat),l) = .ok (d,k.low .nw):=by
 have hi:i<xs.length:=(List.getElem?_eq_some_iff.mp h).1
 have e:yL xs.length (i:Nat)=some i:=by
  unfold yL
  rw[if_pos (by lia),if_pos (by lia),Int.toNat_natCast]
 unfold oIx
 dsimp only
 rw[e]
 show (match xs[i]? with | some d=>Rs.ok (d,k.low .nw) | none=>.no)=_
 rw[h]
theorem jQ {α β γ:Type} (f:α->β) (g:α->γ):∀ l:List α,(l.map f).zip (l.map g)=l.map fun x=>(f x,g x)
 | []=>rfl
 | x::l=>by rw[List.map_cons,List.map_cons,List.zip_cons_cons,jQ f g l,List.map_cons]
theorem qbG {l:List Nat} (k:Nat):(l.map fun (n:Nat)=>D.int n).getD k (.int 0) = .int (l.getD k 0:Nat):=by
 rw[List.getD_eq_getElem?_getD,List.getElem?_map,List.getD_eq_getElem?_getD]
 cases l[k]? <;> rfl
theorem uY {l:List Nat} (h:∀ v∈l,v<2^64) (k:Nat):l.getD k 0<2^64:=by
 rw[List.getD_eq_getElem?_getD]
 cases e:l[k]? with
 | none=>decide
 | some x=>exact h x (List.mem_of_getElem? e)
theorem yc {β γ:Type}{f:β->Pv.Did γ}:∀ {l:List β}{rs:List γ},l.mapM f = .ok rs->∀ r∈rs,∃ x∈l,f x = .ok r
 | [],rs,h,r,hr=>by cases h;cases hr
 | x::l,rs,h,r,hr=>by
  rw[List.mapM_cons] at h
  cases e:f x with
  | error z=>rw[e] at h;cases h
  | ok v =>
   rw[e] at h
   cases e2:l.mapM f with
   | error z=>rw[e2] at h;cases h
   | ok q =>
    rw[e2] at h
    cases h
    rcases List.mem_cons.mp hr with rfl | hr
    ·exact⟨x,List.mem_cons_self,e⟩
    ·obtain⟨y,hy,e3⟩:=yc e2 r hr
     exact⟨y,List.mem_cons_of_mem _ hy,e3⟩
theorem yE {β γ:Type}{f:β->Pv.Did γ}:∀ {l:List β}{z:Int},l.mapM f = .error z->∃ x∈l,f x = .error z
 | [],_,h=>by cases h
 | x::l,z,h=>by
  rw[List.mapM_cons] at h
  cases e:f x with
  | error y=>rw[e] at h;cases h;exact⟨x,List.mem_cons_self,e⟩
  | ok v =>
   rw[e] at h
   cases e2:l.mapM f with
   | error y =>
    rw[e2] at h
    cases h
    obtain⟨y,hy,e3⟩:=yE e2
    exact⟨y,List.mem_cons_of_mem _ hy,e3⟩
   | ok q=>rw[e2] at h;cases h
theorem qci {m n:Nat}{f:Nat->Nat->Pv.Did Nat} (hf:∀ i j z,f i j = .error z->z = -3) {z:Int} (h:Pv.eachCell m n f = .error z):z = -3:=by
 unfold Pv.eachCell at h
 obtain⟨i,_,e⟩:=yE h
 obtain⟨j,_,e2⟩:=yE e
 exact hf i j z e2
theorem Wj {m n:Nat}{f g:Nat->Nat->Pv.Did Nat} (h:∀ i<m,∀ j<n,f i j=g i j):Pv.eachCell m n f=Pv.eachCell m n g:=by
 unfold Pv.eachCell
 exact mapM_congr fun i hi=>mapM_congr fun j hj=>h i (List.mem_range.mp hi) j (List.mem_range.mp hj)
theorem yC {s:Nat}{l:List (Nat × Nat)}{z:Int} (h:Pv.chain s l = .error z):z = -3:=Wd (fun t b e q=>ue q) h
end Dt
set_option maxHeartbeats 4000000
set_option maxHeartbeats 2000000
namespace Dt
open PySem L2 L2.Ir
theorem yK {i j:Int}{k l:Kd} (h1:0<j) (h2:j.natAbs.log2<9000):wF (.int i,k) (.int j,l) = .ok (.int (i / j),.nw):=if_pos ⟨h1,h2⟩
theorem qaD {i j:Int}{k l:Kd} (h1:0<j):oMod (.int i,k) (.int j,l) = .ok (.int (i%j),.nw):=if_pos h1
noncomputable def qg3:List Int->List (List Int)->Prop
 | [s,w,_,p],[]=>(s=0\/s=1)/\0 <= w/\lt2 w.natAbs 19000 /\ -7000 <= p/\p <= 7000
 | _,_=>False
noncomputable def qgE:List Int->List (List Int)->Rs (D × Bool)
 | [s,w,l,p],[]=>v9 (Dm.rnd (decide (s=1)) (w.toNat*2+(if l=0 then 0 else 1)) (p+1073))
 | _,_=>.no
noncomputable def qG:Fn:=gSh [false,false,false,false] qg3 qgE
noncomputable def we:RS:=(vK (vn 4 (Zk (tBl (qf (oEq false) (qa 2) (rC (.int 0)))) (rC (.int 0)) (rC (.int 1)))) (vV (qi wm (qd (qa 0) (qd (qf vR (qf y6 (qa 1) (rC (.int 2))) (qa 4)) (qd (qf wb (qa 3) (rC (.int 1))) qk))))))
theorem je (s w l p:Int) (h:(s=0\/s=1)/\0 <= w/\lt2 w.natAbs 19000 /\ -7000 <= p/\p <= 7000):res (we (sl0 ["sign","whole","left","power","behind"] [.int s,.int w,.int l,.int p]))=v9 (Dm.rnd (decide (s=1)) (w.toNat*2+(if l=0 then 0 else 1)) (p+1073)):=by
 obtain⟨hs,h0,hw,hp1,hp2⟩:=h
 obtain⟨W,rfl⟩:∃ W:Nat,w=W:=⟨w.toNat,by lia⟩
 rw[Int.natAbs_natCast] at hw
 rw[Int.toNat_natCast]
 unfold we
 rw[show sl0 ["sign","whole","left","power","behind"] [.int s,.int (W:Int),.int l,.int p]=[.val (.int s) false,.val (.int W) false,.val (.int l) false,.val (.int p) false,.un] from rfl]
 obtain⟨B,hB⟩:∃ B:Nat,B=if l=0 then 0 else 1:=⟨_,rfl⟩
 rw[<- hB]
 have hB1:B <= 1:=by rw[hB];split <;> lia
 have e4:Zk (tBl (qf (oEq false) (qa 2) (rC (.int 0)))) (rC (.int 0)) (rC (.int 1)) [.val (.int s) false,.val (.int W) false,.val (.int l) false,.val (.int p) false,.un] = .ok (.int B,.nw):=by
  have tt:tBl (qf (oEq false) (qa 2) (rC (.int 0))) [.val (.int s) false,.val (.int W) false,.val (.int l) false,.val (.int p) false,.un] = .ok (decide (l=0)):=zf (k:=.nw) ((qj (x:=(.int l,.sh)) (y:=(.int 0,.nw)) rfl rfl).trans rfl)
  by_cases c:l=0
  ·rw[decide_eq_true c] at tt
   rw[UX tt,hB,if_pos c]
   rfl
  ·rw[decide_eq_false c] at tt
   rw[JB tt,hB,if_neg c]
   rfl
 rw[qF (show vn 4 _ _ = .nx [.val (.int s) false,.val (.int W) false,.val (.int l) false,.val (.int p) false,.val (.int B) true] from vo e4 rfl)]
 have b1:qf vR (qf y6 (qa 1) (rC (.int 2))) (qa 4) [.val (.int s) false,.val (.int W) false,.val (.int l) false,.val (.int p) false,.val (.int B) true] = .ok (.int ((W*2+B:Nat):Int),.nw):=(qj (y:=(.int B,.nw)) ((qj (x:=(.int W,.sh)) (y:=(.int 2,.nw)) rfl rfl).trans (uI (hw.few (by decide)) (uy 4 (by decide) (by decide)))) rfl).trans (qW (by rw[Int.natCast_add,Int.natCast_mul];rfl))
 have b2:qf wb (qa 3) (rC (.int 1)) [.val (.int s) false,.val (.int W) false,.val (.int l) false,.val (.int p) false,.val (.int B) true] = .ok (.int (p-1),.nw):=(qj (x:=(.int p,.sh)) (y:=(.int 1,.nw)) rfl rfl).trans rfl
 have f2:lt2 (W*2+B) 20000:=((hw.mul (show lt2 2 2 by unfold lt2;decide)).add ((show lt2 B 2 by unfold lt2;lia).up (by decide))).up (by decide)
 have hg:=ZQ (s:=s) (w:=((W*2+B:Nat):Int)) (p:=p-1) ⟨hs,by lia,by rw[Int.natAbs_natCast];exact f2,by lia,by lia⟩
 rw[Int.toNat_natCast,show p-1+1074=p+1073 by lia] at hg
 have hcall:=qR (g:=wm) (δ:=[.val (.int s) false,.val (.int W) false,.val (.int l) false,.val (.int p) false,.val (.int B) true]) (qh (ra:=qa 0) (x:=(.int s,.sh)) rfl (qh b1 (qh b2 qD)))
 exact jW (δ:=[.val (.int s) false,.val (.int W) false,.val (.int l) false,.val (.int p) false,.val (.int B) true]) (hcall.trans (congrArg (fun q=>Rs.bind q _) hg))
theorem uu:Hr we ["sign","whole","left","power","behind"] 4 qG:=qe3 fun is ls h1 h2 g=>by
 obtain⟨s,w,l,p,rfl⟩:=qgn h1
 obtain rfl:=List.eq_nil_of_length_eq_zero h2
 exact je s w l p g
theorem yi {s w l p:Int} (h:(s=0\/s=1)/\0 <= w/\lt2 w.natAbs 19000 /\ -7000 <= p/\p <= 7000):qG [.int s,.int w,.int l,.int p]=v9 (Dm.rnd (decide (s=1)) (w.toNat*2+(if l=0 then 0 else 1)) (p+1073)):=U7 (sh:=[false,false,false,false]) (P:=qg3) (h:=qgE) (is:=[s,w,l,p]) (ls:=[]) rfl rfl h
noncomputable def vm:Fn:=fn2 U2 fun x y=>v9 (Pv.div x.toNat y.toNat)
noncomputable def x6:RS:=(vK (sIf (tBl (qi vL (qd (qa 1) qk))) (zR "StepNotFinite") zt) (vK (vn 2 (qf wJ (qi qI (qd (qa 0) qk)) (rC (.int (112))))) (vK (vn 3 (qf wF (qa 2) (qi qI (qd (qa 1) qk)))) (vK (vn 4 (qf oMod (qa 2) (qi qI (qd (qa 1) qk)))) (vV (qi qG (qd (qf (Qp Builtin.bitXor) (qi qJ (qd (qa 0) qk)) (qi qJ (qd (qa 1) qk))) (qd (qa 3) (qd (qa 4) (qd (qf wb (qf wb (qi qC (qd (qa 0) qk)) (qi qC (qd (qa 1) qk))) (rC (.int (112)))) qk))))))))))
theorem Jd (x y:Int) (h:U2 x y):res (x6 (sl0 ["x","y","widened","whole","left"] [.int x,.int y]))=v9 (Pv.div x.toNat y.toNat):=by
 obtain⟨hx,hy⟩:=h
 obtain⟨X,rfl⟩:=zN hx
 obtain⟨Y,rfl⟩:=zN hy
 have lx:=xR hx
 have ly:=xR hy
 rw[Int.toNat_natCast,Int.toNat_natCast,<- Dm.qgh lx ly]
 unfold x6 Dm.Qt
 rw[show sl0 ["x","y","widened","whole","left"] [.int (X:Int),.int (Y:Int)]=[.val (.int X) false,.val (.int Y) false,.un,.un,.un] from rfl]
 have ht:tBl (qi vL (qd (qa 1) qk)) [.val (.int X) false,.val (.int Y) false,.un,.un,.un] = .ok (decide (Dm.sz Y=0)):=zf (k:=.nw) ((wg (x:=(.int Y,.sh)) rfl (Ql hy)).trans (by
  show Rs.ok (D.bl (decide ((Y:Int)%9223372036854775808=0)),Kd.nw)=_
  rw[show decide ((Y:Int)%9223372036854775808=0)=decide (Dm.sz Y=0) from decide_eq_decide.mpr (by unfold Dm.sz;lia)]))
 by_cases c:Dm.sz Y=0
 ·rw[decide_eq_true c] at ht
  rw[if_pos c,yx ((jq ht).trans rfl)]
  rfl
 ·rw[decide_eq_false c] at ht
  rw[if_neg c,qF (zA ht)]
  have hwy:0<Dm.wh Y:=Nat.pos_of_ne_zero fun z=>c ((Dm.z8 Y).mp z)
  have w1:lt2 (Dm.wh X) 53:=Dm.VT _
  have w2:lt2 (Dm.wh Y) 53:=Dm.VT _
  have bx:=Z1 lx
  have by_:=Z1 ly
  have wwx:∀ {δ:Dl}{k:Kd},qa 0 δ = .ok (.int X,k)->qi qI (qd (qa 0) qk) δ = .ok (.int (Dm.wh X),.nw):=fun e=>(wg e (xG hx)).trans rfl
  have wwy:∀ {δ:Dl}{k:Kd},qa 1 δ = .ok (.int Y,k)->qi qI (qd (qa 1) qk) δ = .ok (.int (Dm.wh Y),.nw):=fun e=>(wg e (xG hy)).trans rfl
  obtain⟨V,hV⟩:∃ V:Nat,V=Dm.wh X*2^112:=⟨_,rfl⟩
  rw[<- hV]
  have fV:lt2 V 166:=by rw[hV];exact w1.mul (lt2.pow 112)
  have e2:qf wJ (qi qI (qd (qa 0) qk)) (rC (.int (112))) [.val (.int X) false,.val (.int Y) false,.un,.un,.un] = .ok (.int V,.nw):=(qj (y:=(.int 112,.nw)) (wwx rfl) rfl).trans ((zd (by decide) (by decide) (w1.few (by decide))).trans (qW (by rw[hV,Int.natCast_mul];rfl)))
  rw[qF (show vn 2 _ _ = .nx [.val (.int X) false,.val (.int Y) false,.val (.int V) true,.un,.un] from vo e2 rfl)]
  have e3:qf wF (qa 2) (qi qI (qd (qa 1) qk)) [.val (.int X) false,.val (.int Y) false,.val (.int V) true,.un,.un] = .ok (.int ((V / Dm.wh Y:Nat):Int),.nw):=(qj (x:=(.int V,.nw)) rfl (wwy rfl)).trans ((yK (by lia) (by rw[Int.natAbs_natCast];exact Nat.lt_of_lt_of_le (w2.log (by decide)) (by decide))).trans (qW (by rw[Int.natCast_ediv])))
  rw[qF (show vn 3 _ _ = .nx [.val (.int X) false,.val (.int Y) false,.val (.int V) true,.val (.int ((V / Dm.wh Y:Nat):Int)) true,.un] from vo e3 rfl)]
  have e4:qf oMod (qa 2) (qi qI (qd (qa 1) qk)) [.val (.int X) false,.val (.int Y) false,.val (.int V) true,.val (.int ((V / Dm.wh Y:Nat):Int)) true,.un] = .ok (.int ((V%Dm.wh Y:Nat):Int),.nw):=(qj (x:=(.int V,.nw)) rfl (wwy rfl)).trans ((qaD (by lia)).trans (qW (by rw[Int.natCast_emod])))
  rw[qF (show vn 4 _ _ = .nx [.val (.int X) false,.val (.int Y) false,.val (.int V) true,.val (.int ((V / Dm.wh Y:Nat):Int)) true,.val (.int ((V%Dm.wh Y:Nat):Int)) true] from vo e4 rfl)]
  have s1:qf (Qp Builtin.bitXor) (qi qJ (qd (qa 0) qk)) (qi qJ (qd (qa 1) qk)) [.val (.int X) false,.val (.int Y) false,.val (.int V) true,.val (.int ((V / Dm.wh Y:Nat):Int)) true,.val (.int ((V%Dm.wh Y:Nat):Int)) true] = .ok (.int (if Dm.sg X≠Dm.sg Y then 1 else 0),.nw):=(qj ((wg (x:=(.int X,.sh)) rfl (xt hx)).trans rfl) ((wg (x:=(.int Y,.sh)) rfl (xt hy)).trans rfl)).trans (qW (by
   rw[Int.toNat_natCast,Int.toNat_natCast]
   rcases Ua lx with a | a <;> rcases Ua ly with b | b <;> rw[a,b] <;> decide))
  have p1:qf wb (qf wb (qi qC (qd (qa 0) qk)) (qi qC (qd (qa 1) qk))) (rC (.int (112))) [.val (.int X) false,.val (.int Y) false,.val (.int V) true,.val (.int ((V / Dm.wh Y:Nat):Int)) true,.val (.int ((V%Dm.wh Y:Nat):Int)) true] = .ok (.int ((Dm.ex X:Int)-Dm.ex Y-112),.nw):=(qj (x:=(.int ((Dm.ex X:Int)-Dm.ex Y),.nw)) (y:=(.int 112,.nw)) ((qj ((wg (x:=(.int X,.sh)) rfl (xU hx)).trans rfl) ((wg (x:=(.int Y,.sh)) rfl (xU hy)).trans rfl)).trans (qW (by rw[Int.toNat_natCast,Int.toNat_natCast];lia))) rfl).trans rfl
  have hg:=yi (s:=if Dm.sg X≠Dm.sg Y then 1 else 0) (w:=((V / Dm.wh Y:Nat):Int)) (l:=((V%Dm.wh Y:Nat):Int)) (p:=(Dm.ex X:Int)-Dm.ex Y-112) ⟨by split <;> simp,Int.natCast_nonneg _,by rw[Int.natAbs_natCast];exact (fV.mono (Nat.div_le_self _ _)).up (by decide),by lia,by lia⟩
  have es:(if ((V%Dm.wh Y:Nat):Int)=0 then 0 else 1:Nat)=if V%Dm.wh Y=0 then 0 else 1:=by
   by_cases q:V%Dm.wh Y=0
   ·rw[if_pos q,if_pos (by rw[q];rfl)]
   ·rw[if_neg q,if_neg (by lia)]
  rw[Int.toNat_natCast,qcC,es,show (Dm.ex X:Int)-Dm.ex Y-112+1073=(Dm.ex X:Int)-Dm.ex Y+961 by lia] at hg
  have hcall:=qR (g:=qG) (δ:=[.val (.int X) false,.val (.int Y) false,.val (.int V) true,.val (.int ((V / Dm.wh Y:Nat):Int)) true,.val (.int ((V%Dm.wh Y:Nat):Int)) true]) (qh s1 (qh (ra:=qa 3) (x:=(.int ((V / Dm.wh Y:Nat):Int),.nw)) rfl (qh (ra:=qa 4) (x:=(.int ((V%Dm.wh Y:Nat):Int),.nw)) rfl (qh p1 qD))))
  exact jW (δ:=[.val (.int X) false,.val (.int Y) false,.val (.int V) true,.val (.int ((V / Dm.wh Y:Nat):Int)) true,.val (.int ((V%Dm.wh Y:Nat):Int)) true]) (hcall.trans (congrArg (fun q=>Rs.bind q _) hg))
theorem Xi:Hr x6 ["x","y","widened","whole","left"] 2 vm:=qch Jd
theorem V1 {x y:Int} (h:U64 x) (h2:U64 y):vm [.int x,.int y]=v9 (Pv.div x.toNat y.toNat):=Xa ⟨h,h2⟩
noncomputable def wB:Fn:=fn1 (fun w=>0<w/\lt2 w.natAbs 3000) fun w=>iv (Pv.root w.toNat)
noncomputable def ym:RS:=(vK (vn 1 (qf wJ (rC (.int 1)) (qf wF (qf vR (rUn oBits (qa 0)) (rC (.int 1))) (rC (.int 2))))) (vK (vn 2 (qf wF (qf vR (qa 1) (qf wF (qa 0) (qa 1))) (rC (.int 2)))) (vK (VY (tBl (qf (yk fun i j=>decide (i<j)) (qa 2) (qa 1))) (vK (vn 1 (qa 2)) (vn 2 (qf wF (qf vR (qa 1) (qf wF (qa 0) (qa 1))) (rC (.int 2)))))) (jr 1))))
noncomputable abbrev nwt (W g:Nat):Nat:=(g+W / g) / 2
theorem qgc {W g:Nat} (hg:0<g):W<(nwt W g+1)*(nwt W g+1):=by
 have h1:W<g*(W / g+1):=by
  have:=Nat.div_add_mod W g
  have:=Nat.mod_lt W hg
  rw[Nat.mul_succ]
  lia
 have h2:g+W / g+1 <= 2*(nwt W g+1):=by unfold nwt;lia
 generalize W / g=q at h1 h2
 generalize nwt W g+1=b at h2
 have h3:(g+q+1)*(g+q+1) <= (2*b)*(2*b):=Nat.mul_le_mul h2 h2
 have h4:4*(g*(q+1)) <= (g+q+1)*(g+q+1):=by
  have key:∀ a c:Nat,4*(a*c) <= (a+c)*(a+c):=by
   intro a c
   rcases Nat.le_total a c with h | h
   ·obtain⟨d,rfl⟩:=Nat.exists_eq_add_of_le h
    have:(a+(a+d))*(a+(a+d))=4*(a*(a+d))+d*d:=by
     simp only[Nat.mul_add,Nat.add_mul,Nat.mul_comm d a]
     lia
    lia
   ·obtain⟨d,rfl⟩:=Nat.exists_eq_add_of_le h
    have:(c+d+c)*(c+d+c)=4*((c+d)*c)+d*d:=by
     simp only[Nat.mul_add,Nat.add_mul,Nat.mul_comm d c]
     lia
    lia
  have:=key g (q+1)
  rw[<- Nat.add_assoc] at this
  exact this
 have h5:(2*b)*(2*b)=4*(b*b):=by
  rw[Nat.mul_mul_mul_comm]
 lia
theorem Zx {W:Nat} (hW:0<W):∀ (n g:Nat),g <= n->0<g->lt2 g 8000->W<(g+1)*(g+1) ->
  ∃ k,wl (tBl (qf (yk fun i j=>decide (i<j)) (qa 2) (qa 1))) (vK (vn 1 (qa 2)) (vn 2 (qf wF (qf vR (qa 1) (qf wF (qa 0) (qa 1))) (rC (.int 2))))) k [.val (.int W) false,.val (.int g) true,.val (.int (nwt W g:Nat)) true] = .nx [.val (.int W) false,.val (.int (Pv.root W:Nat)) true,.val (.int (nwt W (Pv.root W):Nat)) true]
 | 0,g,hn,hg,_,_=>absurd hg (by lia)
 | n+1,g,hn,hg,hl,hi=>by
  have ht:tBl (qf (yk fun i j=>decide (i<j)) (qa 2) (qa 1)) [.val (.int W) false,.val (.int g) true,.val (.int (nwt W g:Nat)) true] = .ok (decide (nwt W g<g)):=zf (k:=.nw) ((qj (x:=(.int (nwt W g:Nat),.nw)) (y:=(.int g,.nw)) rfl rfl).trans (by
   show Rs.ok (D.bl (decide ((nwt W g:Int)<g)),Kd.nw)=_
   rw[show decide ((nwt W g:Int)<g)=decide (nwt W g<g) from decide_eq_decide.mpr (by lia)]))
  have hb:=qgc (W:=W) hg
  by_cases c:nwt W g<g
  ·rw[decide_eq_true c] at ht
   generalize hB:nwt W g=B at *
   have hB0:0<B:=by
    rcases Nat.eq_zero_or_pos B with z | z
    ·rw[z] at hb;lia
    ·exact z
   have hlB:lt2 B 8000:=hl.mono (by lia)
   obtain⟨k,hk⟩:=Zx hW n B (by lia) hB0 hlB hb
   have a1:vn 1 (qa 2) [.val (.int W) false,.val (.int g) true,.val (.int B) true] = .nx [.val (.int W) false,.val (.int B) true,.val (.int B) true]:=vo (k:=.nw) rfl rfl
   have e0:qf wF (qa 0) (qa 1) [.val (.int W) false,.val (.int B) true,.val (.int B) true] = .ok (.int ((W / B:Nat):Int),.nw):=(qj (x:=(.int W,.sh)) (y:=(.int B,.nw)) rfl rfl).trans ((yK (by lia) (by rw[Int.natAbs_natCast];exact Nat.lt_of_lt_of_le (hlB.log (by decide)) (by decide))).trans (qW (by rw[Int.natCast_ediv])))
   have e1:qf wF (qf vR (qa 1) (qf wF (qa 0) (qa 1))) (rC (.int 2)) [.val (.int W) false,.val (.int B) true,.val (.int B) true] = .ok (.int ((nwt W B:Nat):Int),.nw):=(qj (y:=(.int 2,.nw)) ((qj (x:=(.int B,.nw)) rfl e0).trans (qW (by rw[<- Int.natCast_add]))) rfl).trans ((yK (by decide) (by decide)).trans (qW (by unfold nwt;rw[Int.natCast_ediv];rfl)))
   have a2:vn 2 (qf wF (qf vR (qa 1) (qf wF (qa 0) (qa 1))) (rC (.int 2))) [.val (.int W) false,.val (.int B) true,.val (.int B) true] = .nx [.val (.int W) false,.val (.int B) true,.val (.int (nwt W B:Nat)) true]:=vo e1 rfl
   refine⟨k+1,?_⟩
   unfold wl
   rw[ht]
   show (if true=true then _ else _)=_
   rw[if_pos rfl,qF a1,a2]
   exact hk
  ·rw[decide_eq_false c] at ht
   have hgg:g*g <= W:=by
    have q:g <= W / g:=by unfold nwt at c;lia
    exact Nat.le_trans (Nat.mul_le_mul_left g q) (Nat.mul_div_le W g)
   have hr:=Dm.qbb hgg hi
   refine⟨1,?_⟩
   unfold wl
   rw[ht,hr]
   rfl
theorem Yi (w:Int) (h:0<w/\lt2 w.natAbs 3000):res (ym (sl0 ["whole","guess","better"] [.int w]))=iv (Pv.root w.toNat):=by
 obtain⟨h0,hw⟩:=h
 obtain⟨W,rfl⟩:∃ W:Nat,w=W:=⟨w.toNat,by lia⟩
 rw[Int.natAbs_natCast] at hw
 rw[Int.toNat_natCast]
 unfold ym
 rw[show sl0 ["whole","guess","better"] [.int (W:Int)]=[.val (.int W) false,.un,.un] from rfl]
 have hW:0<W:=by lia
 have hlog:=hw.log (by decide)
 obtain⟨K,hK⟩:∃ K:Nat,K=(W.log2+1+1) / 2:=⟨_,rfl⟩
 have e1:qf wJ (rC (.int 1)) (qf wF (qf vR (rUn oBits (qa 0)) (rC (.int 1))) (rC (.int 2))) [.val (.int W) false,.un,.un] = .ok (.int ((2^K:Nat):Int),.nw):=by
  have b1:rUn oBits (qa 0) [.val (.int W) false,.un,.un] = .ok (.int ((W.log2+1:Nat):Int),.nw):=(uo (x:=(.int W,.sh)) rfl).trans (qW (by rw[if_neg (by lia),Int.natAbs_natCast]))
  have b2:qf wF (qf vR (rUn oBits (qa 0)) (rC (.int 1))) (rC (.int 2)) [.val (.int W) false,.un,.un] = .ok (.int (K:Int),.nw):=(qj (x:=(.int (((W.log2+1:Nat):Int)+1),.nw)) (y:=(.int 2,.nw)) ((qj b1 (y:=(.int 1,.nw)) rfl).trans rfl) rfl).trans ((yK (by decide) (by decide)).trans (qW (by lia)))
  refine (qj (x:=(.int 1,.nw)) rfl b2).trans ((zd (by lia) (by lia) (uy 4 (by decide) (by decide))).trans (qW ?_))
  rw[Int.toNat_natCast,Int.one_mul,Int.natCast_pow]
  rfl
 rw[qF (show vn 1 _ _ = .nx [.val (.int W) false,.val (.int ((2^K:Nat):Int)) true,.un] from vo e1 rfl)]
 have hg0:0<2^K:=Nat.two_pow_pos K
 have hgl:lt2 (2^K) 8000:=(lt2.pow K).up (by lia)
 have hgi:W<(2^K+1)*(2^K+1):=by
  have a:W<2^(W.log2+1):=Dm.yn (by lia)
  have b:2^(W.log2+1) <= 2^K*2^K:=by
   rw[<- Nat.pow_add]
   exact Nat.pow_le_pow_right (by decide) (by lia)
  have d:2^K*2^K <= (2^K+1)*(2^K+1):=Nat.mul_le_mul (by lia) (by lia)
  exact Nat.lt_of_lt_of_le a (Nat.le_trans b d)
 generalize 2^K=g at *
 have e0:qf wF (qa 0) (qa 1) [.val (.int W) false,.val (.int g) true,.un] = .ok (.int ((W / g:Nat):Int),.nw):=(qj (x:=(.int W,.sh)) (y:=(.int g,.nw)) rfl rfl).trans ((yK (by lia) (by rw[Int.natAbs_natCast];exact Nat.lt_of_lt_of_le (hgl.log (by decide)) (by decide))).trans (qW (by rw[Int.natCast_ediv])))
 have e2:qf wF (qf vR (qa 1) (qf wF (qa 0) (qa 1))) (rC (.int 2)) [.val (.int W) false,.val (.int g) true,.un] = .ok (.int ((nwt W g:Nat):Int),.nw):=(qj (y:=(.int 2,.nw)) ((qj (x:=(.int g,.nw)) rfl e0).trans (qW (by rw[<- Int.natCast_add]))) rfl).trans ((yK (by decide) (by decide)).trans (qW (by unfold nwt;rw[Int.natCast_ediv];rfl)))
 rw[qF (show vn 2 _ _ = .nx [.val (.int W) false,.val (.int g) true,.val (.int (nwt W g:Nat)) true] from vo e2 rfl)]
 obtain⟨k,hk⟩:=Zx hW g g (Nat.le_refl _) hg0 hgl hgi
 rw[qF (qaK hk (by intro z;cases z)),ud (δ:=[.val (.int W) false,.val (.int (Pv.root W:Nat)) true,.val (.int (nwt W (Pv.root W):Nat)) true]) (d:=.int (Pv.root W:Nat)) (k:=true) rfl rfl]
 rfl
theorem W5:Hr ym ["whole","guess","better"] 1 wB:=xa Yi
theorem Yq {w:Int} (h:0<w/\lt2 w.natAbs 3000):wB [.int w]=iv (Pv.root w.toNat):=zG h
noncomputable def uE:Fn:=fn1 Fi fun x=>v9 (Pv.sqrt x.toNat)
noncomputable def Xb:RS:=(vK (sIf (tBl (qi vL (qd (qa 0) qk))) (jr 0) zt) (vK (sIf (tBl (qf (oEq false) (qi qJ (qd (qa 0) qk)) (rC (.int 1)))) (zR "StepNotFinite") zt) (vK (vn 1 (qf oMod (qi qC (qd (qa 0) qk)) (rC (.int 2)))) (vK (vn 2 (qf wJ (qi qI (qd (qa 0) qk)) (qf vR (rC (.int (112))) (qa 1)))) (vK (vn 3 (qi wB (qd (qa 2) qk))) (vV (qi qG (qd (rC (.int 0)) (qd (qa 3) (qd (qf wb (qa 2) (qf y6 (qa 3) (qa 3))) (qd (qf wF (qf wb (qf wb (qi qC (qd (qa 0) qk)) (qa 1)) (rC (.int (112)))) (rC (.int 2))) qk)))))))))))
theorem qgw (x:Int) (h:Fi x):res (Xb (sl0 ["x","odd","widened","whole"] [.int x]))=v9 (Pv.sqrt x.toNat):=by
 obtain⟨hx,hf⟩:=h
 obtain⟨X,rfl⟩:=zN hx
 have lx:=xR hx
 have hfin:Dm.sz X<9218868437227405312:=by unfold Dm.sz;lia
 rw[Int.toNat_natCast,<- Dm.qdX lx hfin]
 unfold Xb Dm.qbF
 rw[show sl0 ["x","odd","widened","whole"] [.int (X:Int)]=[.val (.int X) false,.un,.un,.un] from rfl]
 have ht:tBl (qi vL (qd (qa 0) qk)) [.val (.int X) false,.un,.un,.un] = .ok (decide (Dm.sz X=0)):=zf (k:=.nw) ((wg (x:=(.int X,.sh)) rfl (Ql hx)).trans (by
  show Rs.ok (D.bl (decide ((X:Int)%9223372036854775808=0)),Kd.nw)=_
  rw[show decide ((X:Int)%9223372036854775808=0)=decide (Dm.sz X=0) from decide_eq_decide.mpr (by unfold Dm.sz;lia)]))
 by_cases c:Dm.sz X=0
 ·rw[decide_eq_true c] at ht
  rw[if_pos c,jb ((jq ht).trans (ud (d:=.int X) (k:=false) rfl rfl))]
  rfl
 ·rw[decide_eq_false c] at ht
  rw[if_neg c,qF (zA ht)]
  have ht2:tBl (qf (oEq false) (qi qJ (qd (qa 0) qk)) (rC (.int 1))) [.val (.int X) false,.un,.un,.un] = .ok (decide (Dm.sg X=1)):=by
   refine zf (k:=.nw) ((qj (x:=(.int (Dm.sg X),.nw)) (y:=(.int 1,.nw)) ((wg (x:=(.int X,.sh)) rfl (xt hx)).trans rfl) rfl).trans ?_)
   show Rs.ok (D.bl (decide (((Dm.sg X:Nat):Int)=((1:Nat):Int))),Kd.nw)=_
   rw[uA]
  by_cases c2:Dm.sg X=1
  ·rw[decide_eq_true c2] at ht2
   rw[if_pos c2,yx ((jq ht2).trans rfl)]
   rfl
  ·rw[decide_eq_false c2] at ht2
   rw[if_neg c2,qF (zA ht2)]
   have hwx:0<Dm.wh X:=Nat.pos_of_ne_zero fun z=>c ((Dm.z8 X).mp z)
   have w1:lt2 (Dm.wh X) 53:=Dm.VT _
   have bx:=Z1 lx
   have pw:∀ {δ:Dl}{k:Kd},qa 0 δ = .ok (.int X,k)->qi qC (qd (qa 0) qk) δ = .ok (.int ((Dm.ex X:Int)-1074),.nw):=fun e=>(wg e (xU hx)).trans rfl
   obtain⟨o,ho⟩:∃ o:Nat,o=Dm.ex X%2:=⟨_,rfl⟩
   show _=v9 (Dm.rnd false (Pv.root (Dm.wh X*2^(112+Dm.ex X%2))*2+(if Dm.wh X*2^(112+Dm.ex X%2)=Pv.root (Dm.wh X*2^(112+Dm.ex X%2))*Pv.root (Dm.wh X*2^(112+Dm.ex X%2)) then 0 else 1)) ((((Dm.ex X-Dm.ex X%2+962) / 2:Nat):Int)-1))
   rw[<- ho]
   have e1:qf oMod (qi qC (qd (qa 0) qk)) (rC (.int 2)) [.val (.int X) false,.un,.un,.un] = .ok (.int o,.nw):=(qj (y:=(.int 2,.nw)) (pw rfl) rfl).trans ((qaD (by decide)).trans (qW (by lia)))
   rw[qF (show vn 1 _ _ = .nx [.val (.int X) false,.val (.int o) true,.un,.un] from vo e1 rfl)]
   obtain⟨V,hV⟩:∃ V:Nat,V=Dm.wh X*2^(112+o):=⟨_,rfl⟩
   rw[<- hV]
   have fV:lt2 V 3000:=by rw[hV];exact (w1.mul (lt2.pow (112+o))).up (by lia)
   have hV0:0<V:=by rw[hV];exact Nat.mul_pos hwx (Nat.two_pow_pos _)
   have e2:qf wJ (qi qI (qd (qa 0) qk)) (qf vR (rC (.int (112))) (qa 1)) [.val (.int X) false,.val (.int o) true,.un,.un] = .ok (.int V,.nw):=(qj (x:=(.int (Dm.wh X),.nw)) (y:=(.int (112+(o:Int)),.nw)) ((wg (x:=(.int X,.sh)) rfl (xG hx)).trans rfl) ((qj (x:=(.int 112,.nw)) (y:=(.int o,.nw)) rfl rfl).trans rfl)).trans ((zd (by lia) (by lia) (w1.few (by decide))).trans (qW (by
    rw[hV,Int.natCast_mul,Int.natCast_pow,show (112+(o:Int)).toNat=112+o by lia]
    rfl)))
   rw[qF (show vn 2 _ _ = .nx [.val (.int X) false,.val (.int o) true,.val (.int V) true,.un] from vo e2 rfl)]
   have e3:qi wB (qd (qa 2) qk) [.val (.int X) false,.val (.int o) true,.val (.int V) true,.un] = .ok (.int (Pv.root V:Nat),.nw):=(wg (x:=(.int V,.nw)) rfl (Yq ⟨by lia,by rw[Int.natAbs_natCast];exact fV⟩)).trans rfl
   rw[qF (show vn 3 _ _ = .nx [.val (.int X) false,.val (.int o) true,.val (.int V) true,.val (.int (Pv.root V:Nat)) true] from vo e3 rfl)]
   have hsp:=Dm.uX V
   obtain⟨R,hR⟩:∃ R:Nat,R=Pv.root V:=⟨_,rfl⟩
   rw[<- hR] at hsp ⊢
   have fR:lt2 R 3000:=fV.mono (Nat.le_trans (by
    rcases Nat.eq_zero_or_pos R with z | z
    ·rw[z];lia
    ·exact Nat.le_mul_of_pos_left R z) hsp.1)
   have l1:qf wb (qa 2) (qf y6 (qa 3) (qa 3)) [.val (.int X) false,.val (.int o) true,.val (.int V) true,.val (.int (R:Nat)) true] = .ok (.int ((V:Int)-(R*R:Nat)),.nw):=(qj (x:=(.int V,.nw)) (y:=(.int ((R*R:Nat):Int),.nw)) rfl ((qj (x:=(.int (R:Nat),.nw)) (y:=(.int (R:Nat),.nw)) rfl rfl).trans ((uI (fR.few (by decide)) (fR.few (by decide))).trans (qW (by rw[Int.natCast_mul]))))).trans rfl
   have p1:qf wF (qf wb (qf wb (qi qC (qd (qa 0) qk)) (qa 1)) (rC (.int (112)))) (rC (.int 2)) [.val (.int X) false,.val (.int o) true,.val (.int V) true,.val (.int (R:Nat)) true] = .ok (.int (((Dm.ex X:Int)-1074-o-112) / 2),.nw):=(qj (x:=(.int ((Dm.ex X:Int)-1074-o-112),.nw)) (y:=(.int 2,.nw)) ((qj (x:=(.int ((Dm.ex X:Int)-1074-o),.nw)) (y:=(.int 112,.nw)) ((qj (y:=(.int o,.nw)) (pw rfl) rfl).trans rfl) rfl).trans rfl) rfl).trans (yK (by decide) (by decide))
   have hg:=yi (s:=0) (w:=(R:Int)) (l:=(V:Int)-(R*R:Nat)) (p:=((Dm.ex X:Int)-1074-o-112) / 2) ⟨.inl rfl,Int.natCast_nonneg _,by rw[Int.natAbs_natCast];exact fR.up (by decide),by lia,by lia⟩
   have es:(if (V:Int)-(R*R:Nat)=0 then 0 else 1:Nat)=if V=R*R then 0 else 1:=by
    by_cases q:V=R*R
    ·rw[if_pos q,if_pos (by omega)]
    ·rw[if_neg q,if_neg (by lia)]
   rw[Int.toNat_natCast,es,show ((Dm.ex X:Int)-1074-o-112) / 2+1073=(((Dm.ex X-o+962) / 2:Nat):Int)-1 by lia] at hg
   have hcall:=qR (g:=qG) (δ:=[.val (.int X) false,.val (.int o) true,.val (.int V) true,.val (.int (R:Nat)) true]) (qh (ra:=rC (.int 0)) (x:=(.int 0,.nw)) rfl (qh (ra:=qa 3) (x:=(.int (R:Nat),.nw)) rfl (qh l1 (qh p1 qD))))
   exact jW (δ:=[.val (.int X) false,.val (.int o) true,.val (.int V) true,.val (.int (R:Nat)) true]) (hcall.trans (congrArg (fun q=>Rs.bind q _) hg))
theorem qey:Hr Xb ["x","odd","widened","whole"] 1 uE:=xa qgw
theorem qfW {x:Int} (h:Fi x):uE [.int x]=v9 (Pv.sqrt x.toNat):=zG h
end Dt
namespace L2.Ir
open PySem
inductive Itm where
 | v (d:D) (k:Bool) | c (n:Nat)
inductive Cell where
 | lst (xs:List Itm) | ins (c:Str) (ns:List Str) (xs:List Itm)
structure MS where
 s:List (Option Itm)
 μ:List Cell
inductive wH where
 | nx (m:MS) | rt (x:Itm) (μ:List Cell) | bk (m:MS) | ct (m:MS) | er (c:Str) | no
noncomputable abbrev RM:=MS->wH
noncomputable def vS (μ:List Cell):Nat->Itm->Option D
 | _,.v d _=>some d
 | 0,.c _=>none
 | f+1,.c n=>match μ[n]? with
  | some (.lst xs)=>(xs.mapM (vS μ f)).map D.lst
  | some (.ins c ns xs)=>(xs.mapM (vS μ f)).map (D.obj c ns)
  | none=>none
noncomputable def qb5 (μ:List Cell):Option Itm->Sl
 | none=>.un
 | some x=>match vS μ 3 x with
  | some d=>.val d false
  | none=>.un
noncomputable def qX (m:MS):Dl:=m.s.map (qb5 m.μ)
noncomputable def zY:Option Itm->Sl
 | some (.v d k)=>.val d k
 | _=>.un
noncomputable def vy (m:MS):Dl:=m.s.map zY
noncomputable def Qs:DK->Option Itm
 | (d,k)=>if d.sc=true then some (.v d true) else match k with
  | .nw=>some (.v d true)
  | .fr=>some (.v d true)
  | _=>none
noncomputable def qH:DK->Option Itm
 | (d,k)=>if d.sc=true then some (.v d true) else match k with
  | .nw=>some (.v d true)
  | .fr=>some (.v d true)
  | .sh=>some (.v d false)
  | _=>none
noncomputable abbrev IE:=MS->Rs Itm
noncomputable abbrev NE:=MS->Rs (List Itm)
noncomputable def xJ:Option Itm->Rs Itm
 | some x=>.ok x
 | none=>.no
noncomputable def jj (r:RE):IE:=fun m=>(r (qX m)).bind fun y=>xJ (Qs y)
noncomputable def ye (r:RE):IE:=fun m=>(r (vy m)).bind fun y=>xJ (qH y)
noncomputable def ieV (i:Nat):IE:=fun m=>match m.s[i]? with
 | some (some x)=>.ok x
 | _=>.no
noncomputable def cellAt (m:MS):Itm->Option (Nat × Cell)
 | .c n=>(m.μ[n]?).map fun x=>(n,x)
 | _=>none
noncomputable def qgg (c f:Str):Option (Nat × Cell)->Rs Itm
 | some (_,.ins c' ns xs)=>if c'=c then xJ ((ns.zip xs).lookup f) else .no
 | _=>.no
noncomputable def wI (c f:Str) (e:IE):IE:=fun m=>(e m).bind fun x=>qgg c f (cellAt m x)
noncomputable def qg9:Option (Nat × Cell)->D->Rs Itm
 | some (_,.lst xs),.int z=>xJ ((yL xs.length z).bind fun j=>xs[j]?)
 | _,_=>.no
noncomputable def WV (e:IE) (r:RE):IE:=fun m=>(e m).bind fun x=>(r (qX m)).bind fun y=>qg9 (cellAt m x) y.1
noncomputable def VP:NE:=fun _=>.ok []
noncomputable def zv:List IE->MS->Rs (List Itm)
 | [],_=>.ok []
 | e::r,m=>(e m).bind fun x=>(zv r m).bind fun xs=>.ok (x::xs)
noncomputable def qcd:RM:=fun m=>.nx m
noncomputable def wH.andThen (o:wH) (f:RM):wH:=match o with
 | .nx m=>f m
 | o=>o
noncomputable def w9 (a b:RM):RM:=fun m=>(a m).andThen b
noncomputable def mDo {α:Type} (x:Rs α) (f:α->wH):wH:=match x with
 | .ok a=>f a
 | .er c=>.er c
 | .no=>.no
noncomputable def xb (i:Nat) (e:IE):RM:=fun m=>mDo (e m) fun x=>.nx ⟨m.s.set i (some x),m.μ⟩
noncomputable def Xq (i:Nat) (e:NE):RM:=fun m=>mDo (e m) fun xs=>.nx ⟨m.s.set i (some (.c m.μ.length)),m.μ++[.lst xs]⟩
noncomputable def setCell (m:MS):Option (Nat × Cell)->D->Itm->wH
 | some (n,.lst xs),.int z,x=>match yL xs.length z with
  | some j=>.nx ⟨m.s,m.μ.set n (.lst (xs.set j x))⟩
  | none=>.no
 | _,_,_=>.no
noncomputable def wZ (ec:IE) (ri:RE) (ev:IE):RM:=fun m=>mDo (ev m) fun x=>mDo (ec m) fun y=>mDo (ri (qX m)) fun z=>setCell m (cellAt m y) z.1 x
noncomputable def qap (m:MS):Option (Nat × Cell)->Itm->wH
 | some (n,.lst xs),x=>if xs.length<LIM then .nx ⟨m.s,m.μ.set n (.lst (xs++[x]))⟩ else .no
 | _,_=>.no
noncomputable def y4 (ec ev:IE):RM:=fun m=>mDo (ec m) fun y=>match cellAt m y with
 | some (n,.lst xs)=>mDo (ev m) fun x=>qap m (some (n,.lst xs)) x
 | _=>.no
noncomputable def Q2 (f:Str) (x:Itm):List Str->List Itm->List Str × List Itm
 | g::ns,y::xs=>if g=f then (g::ns,x::xs) else (g::(Q2 f x ns xs).1,y::(Q2 f x ns xs).2)
 | _,_=>([f],[x])
noncomputable def uQ (c f:Str) (m:MS):Option (Nat × Cell)->Itm->List Cell->wH
 | some (n,.ins c' ns xs),x,μ=>if c'=c/\ns.length<1000/\ns.length=xs.length then .nx ⟨m.s,μ.set n (.ins c' (Q2 f x ns xs).1 (Q2 f x ns xs).2)⟩ else .no
 | _,_,_=>.no
noncomputable def Y9 (c f:Str) (ec:IE) (ev:NE):RM:=fun m=>mDo (ev m) fun xs=>mDo (ec m) fun y=>uQ c f m (cellAt m y) (.c m.μ.length) (m.μ++[.lst xs])
noncomputable def mIf (t:RT) (a b:RM):RM:=fun m=>mDo (t (qX m)) fun x=>if x=true then a m else b m
noncomputable def qcG (e:IE):RM:=fun m=>mDo (e m) fun x=>.rt x m.μ
noncomputable def Yx (e:NE):RM:=fun m=>mDo (e m) fun xs=>.rt (.c m.μ.length) (m.μ++[.lst xs])
noncomputable def Js (c:Str):RM:=fun _=>.er c
inductive qaF where
 | ok (x:Itm) (μ:List Cell) | er (c:Str) | no
noncomputable abbrev Fm:=List Itm->List Cell->qaF
noncomputable def xi (g:Fm) (es:List IE):RM:=fun m=>mDo (zv es m) fun xs=>match g xs m.μ with
 | .ok _ μ=>.nx ⟨m.s,μ⟩
 | .er c=>.er c
 | .no=>.no
noncomputable def Vy (i:Nat) (c:Str) (g:Fm) (es:List IE):RM:=fun m=>mDo (zv es m) fun xs=>match g (.c m.μ.length::xs) (m.μ++[.ins c [] []]) with
 | .ok _ μ=>.nx ⟨m.s.set i (some (.c m.μ.length)),μ⟩
 | .er c=>.er c
 | .no=>.no
noncomputable def Tg.Qq:Tg->DK->MS->Option MS
 | .one i,x,m=>(qH x).map fun y=>⟨m.s.set i (some y),m.μ⟩
 | .two i j,(.tup [a,b],k),m=>(qH (a,k)).bind fun y=>(qH (b,k)).map fun z=>⟨(m.s.set i (some y)).set j (some z),m.μ⟩
 | _,_,_=>none
noncomputable def wk (tg:Tg) (body:RM):List DK->RM
 | [],m=>.nx m
 | x::r,m=>match tg.Qq x m with
  | none=>.no
  | some m1=>match body m1 with
   | .nx m2=>wk tg body r m2
   | .ct m2=>wk tg body r m2
   | .bk m2=>.nx m2
   | o=>o
noncomputable abbrev MI:=MS->Rs (List DK)
noncomputable def qb0 (src:RI):MI:=fun m=>(src (vy m)).bind fun x=>if x.1=true then .ok x.2 else .no
noncomputable def vP (src:RI):MI:=fun m=>(src (qX m)).bind fun x=>.ok x.2
noncomputable def Qz (tg:Tg) (src:MI) (body:RM):RM:=fun m=>mDo (src m) fun xs=>wk tg body xs m
noncomputable def xC:wH->qaF
 | .rt x μ=>.ok x μ
 | .nx m=>.ok (.v .non true) m.μ
 | .er c=>.er c
 | _=>.no
noncomputable def ms0 (N:List Str) (xs:List Itm):List (Option Itm):=xs.map some++List.replicate (N.length-xs.length) none
noncomputable def w8 (μ:List Cell):Nat->Itm->Option D
 | _,.v d k=>if d.sc=true\/k=true then some d else none
 | 0,.c _=>none
 | f+1,.c n=>match μ[n]? with
  | some (.lst xs)=>(xs.mapM (w8 μ f)).map D.lst
  | some (.ins c ns xs)=>(xs.mapM (w8 μ f)).map (D.obj c ns)
  | none=>none
noncomputable def WT (μ:List Cell) (x:Itm):Rs (D × Bool):=match w8 μ 3 x with
 | some d=>match x,d with
  | .c _,.lst ds=>.ok (.lst ds,ds.all D.sc)
  | _,d=>.ok (d,false)
 | none=>.no
noncomputable def V4:wH->Rs (D × Bool)
 | .rt x μ=>WT μ x
 | .nx _=>.ok (.non,false)
 | .er c=>.er c
 | _=>.no
noncomputable def it0 (ds:List D):List Itm:=ds.map fun d=>.v d false
noncomputable def zm:List DK->Rs (List Itm)
 | []=>.ok []
 | y::ys=>(xJ (qH (y.1,y.2.low .nw))).bind fun x=>(zm ys).bind fun xs=>.ok (x::xs)
noncomputable def VU (tg:Tg) (src:RI) (t:RT) (r:RE) (vs:List Nat):NE:=fun m=>(src (vy m)).bind fun xs=>if xs.2.length<LIM then (items tg t r (clear (vy m) vs) xs.2).bind zm else .no
noncomputable def qgi:Itm->Rs (List Itm)
 | .v (.lst ds) k=>.ok (ds.map fun d=>.v d k)
 | _=>.no
noncomputable def JF (e:IE):NE:=fun m=>(e m).bind qgi
noncomputable def QQ (i j c:Int):Option (List Int) :=
 if (-1000000<i/\i<1000000)/\(-1000000<j/\j<1000000)/\(-1000000<c/\c<1000000) then (if c = -1 then some ((List.range (i-j).toNat).map fun (k:Nat)=>i-k)
  else if 0<c/\i=0 then some ((List.range ((j+c-1) / c).toNat).map fun (k:Nat)=>k*c) else none) else none
noncomputable def yM (r q t:RE):RI:=fun δ=>(r δ).bind fun x=>(q δ).bind fun y=>(t δ).bind fun z=>match x.1,y.1,z.1 with
 | .int i,.int j,.int c=>match QQ i j c with
  | some l=>.ok (true,l.map fun n=>(D.int n,.nw))
  | none=>.no
 | _,_,_=>.no
noncomputable def qeq (m:MS):Option (Nat × Cell)->D->wH
 | some (n,.lst xs),.lst ds=>if ds.all D.sc=true/\xs.length+ds.length <= LIM then .nx ⟨m.s,m.μ.set n (.lst (xs++ds.map fun d=>.v d true))⟩ else .no
 | _,_=>.no
noncomputable def Vh (ec:IE) (r:RE):RM:=fun m=>mDo (ec m) fun y=>match cellAt m y with
 | some (n,.lst xs)=>mDo (r (vy m)) fun x=>qeq m (some (n,.lst xs)) x.1
 | _=>.no
end L2.Ir
namespace Gr
open PySem L2 L2.Ir Dt
noncomputable abbrev rD (r:List Nat):D:=.lst (r.map fun (n:Nat)=>D.int n)
noncomputable abbrev tD (t:List (List Nat)):D:=.lst (t.map rD)
noncomputable abbrev R64 (r:List Nat):Prop:=∀ v∈r,v<2^64
noncomputable abbrev T64 (t:List (List Nat)):Prop:=∀ r∈t,R64 r
noncomputable abbrev Wide (n:Nat) (t:List (List Nat)):Prop:=∀ r∈t,r.length=n
noncomputable def erz {α:Type} (z:Int):Rs α:=if z = -4 then .er "NotAsTold" else .er "StepNotFinite"
noncomputable def dK {α:Type} (f:α->DK):Pv.Did α->Rs DK
 | .ok a=>.ok (f a)
 | .error z=>erz z
noncomputable def dB {α:Type} (f:α->D × Bool):Pv.Did α->Rs (D × Bool)
 | .ok a=>.ok (f a)
 | .error z=>erz z
noncomputable def dM {α β:Type} (f:α->β):Pv.Did α->Rs β
 | .ok a=>.ok (f a)
 | .error z=>erz z
theorem zj {α β:Type} (z:Int) (f:α->Rs β):(erz z:Rs α).bind f=erz z:=by
 unfold erz
 split <;> rfl
theorem j8 {α:Type} (f:α->D × Bool) (x:Pv.Did α):(dB f x).bind (fun y=>.ok (y.1,kB y.2))=dK (fun a=>((f a).1,kB (f a).2)) x:=by
 cases x with
 | ok a=>rfl
 | error z=>exact zj z _
theorem Jm {x:Pv.Did Nat} (h:∀ z,x = .error z->z = -3):Uu x=dB (fun (n:Nat)=>(D.int n,false)) x:=by
 cases x with
 | ok a=>rfl
 | error z=>rw[h z rfl];rfl
theorem Vb (o:Option Nat):v9 o=dB (fun (n:Nat)=>(D.int n,false)) (Pv.step o):=by cases o <;> rfl
theorem jy (r:List Nat):(r.map fun (n:Nat)=>D.int n).all D.sc=true:=by
 rw[List.all_map,List.all_eq_true]
 intro x _
 rfl
theorem uO {β γ:Type} (g:β->γ):∀ l:List β,l.mapM (fun x=>(Except.ok (g x):Pv.Did γ)) = .ok (l.map g)
 | []=>rfl
 | x::l=>by rw[List.mapM_cons,uO g l];rfl
theorem qck {tg:Tg}{src:RI}{r:RE}{vs:List Nat}{δ:Dl}{b:Bool}{xs:List DK} (hsrc:src δ = .ok (b,xs)) (hl:xs.length<LIM):zx tg src zK r vs δ=(items tg zK r (clear δ vs) xs).bind fun ys=>.ok (.lst (ys.map (·.1)),kL (ys.map (·.1)) (qZ ys)):=by
 unfold zx
 rw[hsrc,Rs.qP,if_pos hl]
theorem V5 {β γ:Type}{tg:Tg}{r:RE}{δ:Dl}{enc:β->DK}{f:β->Pv.Did γ}{dec:γ->DK}:∀ {l:List β},(∀ b∈l,∃ δ1,tg.put (enc b) δ=some δ1/\r δ1=dK dec (f b))->items tg zK r δ (l.map enc)=dM (fun ys=>ys.map dec) (l.mapM f)
 | [],_=>rfl
 | b::l,h=>by
  obtain⟨δ1,e1,e2⟩:=h b (List.mem_cons_self)
  have ih:=V5 fun x hx=>h x (List.mem_cons_of_mem _ hx)
  show (match tg.put (enc b) δ with | none=>_ | some δ1=>_)=_
  rw[e1]
  dsimp only
  show (Rs.ok true).bind _=_
  rw[Rs.qP,if_pos rfl,e2,ih,List.mapM_cons]
  cases f b with
  | error z=>exact zj z _
  | ok v =>
   show (dM (fun ys=>ys.map dec) (l.mapM f)).bind _=_
   cases l.mapM f with
   | error z=>exact zj z _
   | ok q=>rfl
theorem Xm {β γ:Type}{tg:Tg}{src:RI}{r:RE}{vs:List Nat}{δ:Dl}{b:Bool}{enc:β->DK}{f:β->Pv.Did γ}{dec:γ->DK}{l:List β} (hsrc:src δ = .ok (b,l.map enc)) (hl:l.length<LIM)
  (hi:∀ x∈l,∃ δ1,tg.put (enc x) (clear δ vs)=some δ1/\r δ1=dK dec (f x)):zx tg src zK r vs δ=dK (fun ys=>(.lst (ys.map fun y=>(dec y).1),kL (ys.map fun y=>(dec y).1) (qZ (ys.map dec)))) (l.mapM f):=by
 rw[qck hsrc (by rw[List.length_map];exact hl),V5 hi]
 cases l.mapM f with
 | error z=>exact zj z _
 | ok ys =>
  show Rs.ok (D.lst ((ys.map dec).map (·.1)),kL ((ys.map dec).map (·.1)) (qZ (ys.map dec)))=_
  rw[List.map_map]
  rfl
theorem uv {β:Type}{tg:Tg}{src:RI}{r:RE}{vs:List Nat}{δ:Dl}{b:Bool}{enc:β->DK}{f:β->Pv.Did Nat}{k:Kd}{l:List β} (hsrc:src δ = .ok (b,l.map enc)) (hl:l.length<LIM)
  (hi:∀ x∈l,∃ δ1,tg.put (enc x) (clear δ vs)=some δ1/\r δ1=dK (fun (n:Nat)=>(D.int n,k)) (f x)):zx tg src zK r vs δ=dK (fun ys=>(rD ys,.fr)) (l.mapM f):=by
 rw[Xm hsrc hl hi]
 cases l.mapM f with
 | error z=>rfl
 | ok ys =>
  show Rs.ok (D.lst (ys.map fun (y:Nat)=>D.int y),kL (ys.map fun (y:Nat)=>D.int y) _)=_
  rw[Xt (jy ys)]
  rfl
theorem Uh {k:Kd} (hk:k = .fr\/k = .nw):∀ ys:List (List Nat),qZ (ys.map fun r=>(rD r,k)) = .nw
 | []=>rfl
 | y::ys=>by
  show (if (rD y).sc=true then _ else k.low (qZ (ys.map fun r=>(rD r,k))))=_
  rw[if_neg (show ¬ ((rD y).sc=true) from Bool.false_ne_true),Uh hk ys]
  rcases hk with rfl | rfl <;> rfl
noncomputable def kT (t:List (List Nat)):Kd:=if t=[] then .fr else .nw
theorem qeC (t:List (List Nat)):kL (t.map rD) .nw=kT t:=by
 unfold kT
 cases t with
 | nil=>rfl
 | cons r t=>rw[if_neg (fun z=>nomatch z)];exact if_neg (fun z=>nomatch z)
theorem qha {t:List (List Nat)} (h:0<t.length):kT t = .nw:=by
 unfold kT
 exact if_neg (fun z=>by rw[z] at h;exact absurd h (Nat.lt_irrefl _))
theorem VV {β:Type}{tg:Tg}{src:RI}{r:RE}{vs:List Nat}{δ:Dl}{b:Bool}{enc:β->DK}{f:β->Pv.Did (List Nat)}{k:Kd}{l:List β} (hk:k = .fr\/k = .nw) (hsrc:src δ = .ok (b,l.map enc)) (hl:l.length<LIM)
  (hi:∀ x∈l,∃ δ1,tg.put (enc x) (clear δ vs)=some δ1/\r δ1=dK (fun r=>(rD r,k)) (f x)):zx tg src zK r vs δ=dK (fun t=>(tD t,kT t)) (l.mapM f):=by
 rw[Xm hsrc hl hi]
 cases l.mapM f with
 | error z=>rfl
 | ok ys =>
  show Rs.ok (D.lst (ys.map fun y=>rD y),kL (ys.map fun y=>rD y) (qZ (ys.map fun r=>(rD r,k))))=_
  rw[Uh hk,qeC]
  rfl
theorem qcY {r:RE}{δ:Dl}{α:Type}{f:α->List D}{x:Pv.Did α} (hf:freeze δ=δ) (h:r δ=dK (fun a=>(.lst (f a),.fr)) x):res (vV r δ)=dB (fun a=>(.lst (f a),true)) x:=by
 cases x with
 | ok a=>rw[Q8 (by rw[hf];exact h)];rfl
 | error z =>
  have h:r δ=erz z:=h
  show _=erz z
  unfold erz at h ⊢
  by_cases c:z = -4
  ·rw[if_pos c] at h ⊢;rw[z7 (by rw[hf];exact h)];rfl
  ·rw[if_neg c] at h ⊢;rw[z7 (by rw[hf];exact h)];rfl
theorem YS {r:RE}{δ:Dl}{x:Pv.Did (List (List Nat))} (hf:freeze δ=δ) (h:r δ=dK (fun t=>(tD t,kT t)) x) (hne:∀ t,x = .ok t->0<t.length):res (vV r δ)=dB (fun t=>(tD t,false)) x:=by
 cases x with
 | ok a =>
  have h:r δ = .ok (tD a,kT a):=h
  rw[qha (hne a rfl)] at h
  rw[wc (by rw[hf];exact h)]
  rfl
 | error z =>
  have h:r δ=erz z:=h
  show _=erz z
  unfold erz at h ⊢
  by_cases c:z = -4
  ·rw[if_pos c] at h ⊢;rw[z7 (by rw[hf];exact h)];rfl
  ·rw[if_neg c] at h ⊢;rw[z7 (by rw[hf];exact h)];rfl
theorem XB {r:RE}{δ:Dl}{α:Type}{f:α->D}{x:Pv.Did α} (hf:freeze δ=δ) (h:r δ=dK (fun a=>(f a,.nw)) x):res (vV r δ)=dB (fun a=>(f a,false)) x:=by
 cases x with
 | ok a=>rw[wc (by rw[hf];exact h)];rfl
 | error z =>
  have h:r δ=erz z:=h
  show _=erz z
  unfold erz at h ⊢
  by_cases c:z = -4
  ·rw[if_pos c] at h ⊢;rw[z7 (by rw[hf];exact h)];rfl
  ·rw[if_neg c] at h ⊢;rw[z7 (by rw[hf];exact h)];rfl
theorem yy {g:Fn}{r:RA}{δ:Dl}{xs:List DK}{α:Type}{f:α->D × Bool}{x:Pv.Did α} (h:r δ = .ok xs) (hg:g (xs.map (·.1))=dB f x):qi g r δ=dK (fun a=>((f a).1,kB (f a).2)) x:=by
 rw[qR h,hg,j8]
theorem xY {r:RE}{δ:Dl}{xs:List D}{k:Kd} (h:r δ = .ok (.lst xs,k)):vM wO (qd r qk) δ = .ok (.int (xs.length:Nat),.nw):=by
 unfold vM
 rw[qh h qD]
 rfl
theorem qan (r:List Nat) (j:Nat) (h:j<r.length):(r.map fun (n:Nat)=>D.int n)[j]?=some (.int (r.getD j 0:Nat)):=by
 rw[List.getElem?_map,List.getElem?_eq_getElem h,List.getD_eq_getElem?_getD,List.getElem?_eq_getElem h]
 rfl
theorem z5 (t:List (List Nat)) (i:Nat) (h:i<t.length):(t.map rD)[i]?=some (rD (t.getD i [])):=by
 rw[List.getElem?_map,List.getElem?_eq_getElem h,List.getD_eq_getElem?_getD,List.getElem?_eq_getElem h]
 rfl
noncomputable def yS:RS:=(vV (zx (.one 2) (iOf (qa 0)) zK (qf oIx (qa 2) (qa 1)) [2]))
noncomputable def vJ:Fn:=fun ds=>res (yS (sl0 ["grid","j","row"] ds))
theorem QC {t:List (List Nat)}{j:Nat} (hl:t.length<LIM) (h:∀ r∈t,j<r.length):vJ [tD t,.int j] = .ok (rD (t.map fun r=>r.getD j 0),true):=by
 show res (yS [.val (tD t) false,.val (.int j) false,.un])=_
 unfold yS
 have hc:=uv (tg:=.one 2) (src:=iOf (qa 0)) (r:=qf oIx (qa 2) (qa 1)) (vs:=[2]) (δ:=[.val (tD t) false,.val (.int j) false,.un]) (b:=true) (enc:=fun r=>(rD r,.sh)) (f:=fun r=>.ok (r.getD j 0)) (k:=.sh) (l:=t) (by
   show Rs.ok (true,(t.map rD).map fun d=>(d,Kd.sh))=_
   rw[List.map_map]
   rfl) hl (fun r hr=>⟨[.val (tD t) false,.val (.int j) false,.val (rD r) false],rfl,(qj (x:=(rD r,.sh)) (y:=(.int j,.sh)) rfl rfl).trans (yF (qan r j (h r hr)))⟩)
 rw[uO] at hc
 exact (qcY (α:=List Nat) (f:=fun ys=>ys.map fun (n:Nat)=>D.int n) rfl hc)
noncomputable def yz:RS:=(vV (zx (.one 1) (wA (vM wO (qd (qf oIx (qa 0) (rC (.int 0))) qk))) zK (qi vJ (qd (qa 0) (qd (qa 1) qk))) [1]))
noncomputable def v8:Fn:=fun ds=>res (yz (sl0 ["grid","j"] ds))
theorem Ys {t:List (List Nat)}{m n:Nat} (hm:t.length=m) (h0:0<m) (hl:m<LIM) (h:Wide n t) (hn:0<n) (hn2:n<1000000):v8 [tD t] = .ok (tD ((List.range n).map fun j=>t.map fun r=>r.getD j 0),false):=by
 show res (yz [.val (tD t) false,.un])=_
 unfold yz
 have hix:qf oIx (qa 0) (rC (.int 0)) [.val (tD t) false,.un] = .ok (rD (t.getD 0 []),.sh):=(qj (x:=(tD t,.sh)) (y:=(.int ((0:Nat):Int),.nw)) rfl rfl).trans (yF (z5 t 0 (by lia)))
 have hlen:(t.getD 0 []).length=n:=by
  rw[List.getD_eq_getElem?_getD,List.getElem?_eq_getElem (by lia:0<t.length)]
  exact h _ (List.getElem_mem _)
 have hsrc:wA (vM wO (qd (qf oIx (qa 0) (rC (.int 0))) qk)) [.val (tD t) false,.un] = .ok (true,(List.range n).map fun (k:Nat)=>(D.int k,.nw)):=by
  refine yD (k:=.nw) ?_ hn2
  rw[xY hix,List.length_map,hlen]
 have hc:=VV (tg:=.one 1) (r:=qi vJ (qd (qa 0) (qd (qa 1) qk))) (vs:=[1]) (f:=fun j=>.ok (t.map fun r=>r.getD j 0)) (.inl rfl) hsrc (by rw[List.length_range];show n<16777216;lia) (fun j hj=>⟨[.val (tD t) false,.val (.int j) true],rfl,by
  rw[qR (qh (x:=(tD t,.sh)) rfl (qh (x:=(.int j,.nw)) rfl qD))]
  show (vJ [tD t,.int j]).bind _=_
  rw[QC (by lia) (fun r hr=>by rw[h r hr];exact List.mem_range.mp hj)]
  rfl⟩)
 rw[uO] at hc
 exact YS rfl hc (fun t ht=>by cases ht;rw[List.length_map,List.length_range];exact hn)
noncomputable def yN:RS:=(vV (zx (.one 2) (wA (qa 0)) zK (qf y6 (ub (qd (rC (.int 0)) qk)) (qa 1)) [2]))
noncomputable def wW:Fn:=fun ds=>res (yN (sl0 ["m","n","i"] ds))
theorem XM {m n:Nat} (hm:0<m) (hm2:m<1000000) (hn:n<1000000):wW [.int m,.int n] = .ok (tD (List.replicate m (List.replicate n 0)),false):=by
 show res (yN [.val (.int m) false,.val (.int n) false,.un])=_
 unfold yN
 have hc:=VV (tg:=.one 2) (r:=qf y6 (ub (qd (rC (.int 0)) qk)) (qa 1)) (vs:=[2]) (δ:=[.val (.int m) false,.val (.int n) false,.un]) (f:=fun _=>.ok (List.replicate n 0)) (.inl rfl) (yD (r:=qa 0) (k:=.sh) rfl hm2) (by rw[List.length_range];show m<16777216;lia) (fun j hj=>⟨[.val (.int m) false,.val (.int n) false,.val (.int j) true],rfl,by
  rw[qj (x:=(.lst [.int 0],.fr)) (y:=(.int n,.sh)) rfl rfl]
  unfold y6
  dsimp only
  rw[if_pos ⟨⟨by lia,by lia⟩,by rw[List.length_singleton,Int.toNat_natCast];show _ <= 16777216;lia⟩,Int.toNat_natCast]
  have e:(List.replicate n [D.int 0]).flatten=(List.replicate n 0).map fun (n:Nat)=>D.int n:=by
   rw[List.map_replicate]
   induction n with
   | zero=>rfl
   | succ n ih=>rw[List.replicate_succ,List.flatten_cons,List.replicate_succ,ih (by lia)];rfl
  rw[e,Xt (jy _)]
  rfl⟩)
 rw[uO] at hc
 have e:(List.range m).map (fun _=>List.replicate n 0)=List.replicate m (List.replicate n 0):=by
  rw[List.map_const',List.length_range]
 rw[e] at hc
 exact YS rfl hc (fun t ht=>by cases ht;rw[List.length_replicate];exact hm)
noncomputable def u5:RS:=(vV (zx (.one 2) (yM (rC (.int 0)) (vM wO (qd (qa 0) qk)) (qa 1)) zK (WK (qa 0) (jS (qa 2)) (jS (qf vR (qa 2) (qa 1))) Vd) [2]))
noncomputable def wG:Fn:=fun ds=>res (u5 (sl0 ["numbers","n","start"] ds))
theorem qcQ {m n:Nat} (hn:0<n):(((m*n:Nat):Int)+(n:Int)-1) / (n:Int)=m:=by
 have e:((m*n:Nat):Int)+(n:Int)-1=(n:Int)-1+(n:Int)*m:=by
  rw[Int.natCast_mul,Int.mul_comm]
  lia
 rw[e,Int.add_mul_ediv_left _ _ (by lia),Int.ediv_eq_zero_of_lt (by lia) (by lia),Int.zero_add]
theorem qej {m n:Nat} (hn:0<n) (h:m*n<1000000) (h2:n <= 1000):QQ 0 ((m*n:Nat):Int) n=some ((List.range m).map fun (k:Nat)=>(k:Int)*n):=by
 have c1:(-1000000<(0:Int)/\(0:Int)<1000000)/\(-1000000<((m*n:Nat):Int)/\((m*n:Nat):Int)<1000000)/\(-1000000<(n:Int)/\(n:Int)<1000000):=by
  generalize m*n=q at h
  lia
 unfold QQ
 rw[if_pos c1,if_neg (by lia),if_pos ⟨by lia,rfl⟩,qcQ hn,Int.toNat_natCast]
theorem Vs {r q t:RE}{δ:Dl}{i j c:Int}{k1 k2 k3:Kd}{l:List Int} (h1:r δ = .ok (.int i,k1)) (h2:q δ = .ok (.int j,k2)) (h3:t δ = .ok (.int c,k3)) (h:QQ i j c=some l):yM r q t δ = .ok (true,l.map fun n=>(D.int n,.nw)):=by
 unfold yM
 rw[h1,h2,h3,Rs.qP,Rs.qP,Rs.qP]
 dsimp only
 rw[h]
theorem ZZ {a:List Nat}{m n:Nat} (ha:a.length=m*n) (hm:0<m) (hm2:m <= 1000) (hn:0<n) (hn2:n <= 1000) (hmn:m*n<1000000):wG [rD a,.int n] = .ok (tD (PvCalls.tableOf m n a),false):=by
 show res (u5 [.val (rD a) false,.val (.int n) false,.un])=_
 unfold u5
 have hsrc:yM (rC (.int 0)) (vM wO (qd (qa 0) qk)) (qa 1) [.val (rD a) false,.val (.int n) false,.un] = .ok (true,(List.range m).map fun (k:Nat)=>(D.int ((k*n:Nat):Int),.nw)):=by
  refine (Vs (i:=0) (j:=((m*n:Nat):Int)) (c:=n) rfl ((xY (r:=qa 0) (k:=.sh) rfl).trans (by rw[List.length_map,ha])) rfl (qej hn hmn hn2)).trans ?_
  rw[List.map_map]
  have e:((fun n=>(D.int n,Kd.nw)) ∘ fun (k:Nat)=>(k:Int)*n)=fun (k:Nat)=>(D.int ((k*n:Nat):Int),Kd.nw):=by
   funext k
   show (D.int ((k:Int)*n),Kd.nw)=_
   rw[Int.natCast_mul]
  rw[e]
 have hc:=VV (tg:=.one 2) (r:=WK (qa 0) (jS (qa 2)) (jS (qf vR (qa 2) (qa 1))) Vd) (vs:=[2]) (δ:=[.val (rD a) false,.val (.int n) false,.un]) (f:=fun i=>.ok ((List.range n).map fun j=>a.getD (n*i+j) 0)) (.inl rfl) hsrc (by rw[List.length_range];show m<16777216;lia) (fun i hi=>⟨[.val (rD a) false,.val (.int n) false,.val (.int ((i*n:Nat):Int)) true],rfl,by
  have hi:=List.mem_range.mp hi
  have hin:i*n+n <= m*n:=by rw[<- Nat.succ_mul];exact Nat.mul_le_mul_right _ hi
  have q:=qaE (ra:=qa 0) (rl:=jS (qa 2)) (rh:=jS (qf vR (qa 2) (qa 1))) (rs:=Vd) (δ:=[.val (rD a) false,.val (.int n) false,.val (.int ((i*n:Nat):Int)) true]) (xs:=a.map fun (n:Nat)=>D.int n) (k:=.sh) (lo:=some ((i*n:Nat):Int)) (hi:=some ((i*n+n:Nat):Int)) (st:=none) rfl rfl (qcH (k:=.nw) ((qj (x:=(.int ((i*n:Nat):Int),.nw)) (y:=(.int n,.sh)) rfl rfl).trans (qW (by rw[Int.natCast_add])))) rfl (by intro z;cases z)
  rw[q,pick_run (a.map fun (n:Nat)=>D.int n) (i*n) n (by rw[List.length_map,ha];exact hin) (.int 0)]
  have e:((List.range n).map fun j=>(a.map fun (n:Nat)=>D.int n).getD (i*n+j) (.int 0))=((List.range n).map fun j=>a.getD (n*i+j) 0).map fun (n:Nat)=>D.int n:=by
   rw[List.map_map]
   refine List.map_congr_left fun j _=>?_
   rw[qbG,Nat.mul_comm i n]
   rfl
  rw[e,Xt (jy _)]
  rfl⟩)
 rw[uO] at hc
 exact YS rfl hc (fun t ht=>by cases ht;rw[List.length_map,List.length_range];exact hm)
noncomputable def zQ (z:Int):wH:=if z = -4 then .er "NotAsTold" else .er "StepNotFinite"
theorem yW {β:Type}{tg:Tg}{body:RM}{enc:β->DK}{b:β}{l:List β}{m m1:MS} (hp:tg.Qq (enc b) m=some m1):wk tg body ((b::l).map enc) m=(match body m1 with | .nx m2=>wk tg body (l.map enc) m2 | .ct m2=>wk tg body (l.map enc) m2 | .bk m2=>.nx m2 | o=>o):=by
 show (match tg.Qq (enc b) m with | none=>_ | some m1=>_)=_
 rw[hp]
 all_goals rfl
theorem Qx {tg:Tg}{body:RM}{xs:List DK} (z:Int):(match zQ z with | .nx m2=>wk tg body xs m2 | .ct m2=>wk tg body xs m2 | .bk m2=>.nx m2 | o=>o)=zQ z:=by
 unfold zQ
 by_cases c:z = -4
 ·rw[if_pos c]
 ·rw[if_neg c]
theorem yR {β S:Type}{tg:Tg}{body:RM}{enc:β->DK}{f:S->β->Pv.Did S}{J:S->MS->Prop}:∀ {l:List β},(∀ b∈l,∀ s m,J s m->∃ m1,tg.Qq (enc b) m=some m1/\(∀ s',f s b = .ok s'->∃ m2,body m1 = .nx m2/\J s' m2)/\(∀ z,f s b = .error z->body m1=zQ z)) ->
  ∀ s m,J s m->(∀ s',l.foldlM f s = .ok s'->∃ m',wk tg body (l.map enc) m = .nx m'/\J s' m')/\(∀ z,l.foldlM f s = .error z->wk tg body (l.map enc) m=zQ z)
 | [],_,s,m,j=>⟨fun s' e=>(by cases e;exact⟨m,rfl,j⟩),fun z e=>(by cases e)⟩
 | b::l,ok,s,m,j=>by
  obtain⟨m1,hp,h1,h2⟩:=ok b List.mem_cons_self s m j
  rw[List.foldlM_cons,yW hp]
  cases e:f s b with
  | error z =>
   rw[h2 z e,Qx]
   exact⟨fun s' q=>(by cases q),fun z' q=>(by cases q;rfl)⟩
  | ok s1 =>
   obtain⟨m2,hb,j2⟩:=h1 s1 e
   rw[hb]
   exact yR (fun x hx=>ok x (List.mem_cons_of_mem _ hx)) s1 m2 j2
theorem QJ {β γ:Type}{tg:Tg}{body:RM}{enc:β->DK}{f:β->Pv.Did γ}{J:Nat->List γ->MS->Prop}:∀ {l:List β},(∀ b∈l,∀ k s m,J (k+1) s m->∃ m1,tg.Qq (enc b) m=some m1/\(∀ r,f b = .ok r->∃ m2,body m1 = .nx m2/\J k (s++[r]) m2)/\(∀ z,f b = .error z->body m1=zQ z)) ->
  ∀ s m,J l.length s m->(∀ rs,l.mapM f = .ok rs->∃ m',wk tg body (l.map enc) m = .nx m'/\J 0 (s++rs) m')/\(∀ z,l.mapM f = .error z->wk tg body (l.map enc) m=zQ z)
 | [],_,s,m,j=>⟨fun s' e=>(by cases e;exact⟨m,rfl,by simpa using j⟩),fun z e=>(by cases e)⟩
 | b::l,ok,s,m,j=>by
  obtain⟨m1,hp,h1,h2⟩:=ok b List.mem_cons_self l.length s m j
  rw[List.mapM_cons,yW hp]
  cases e:f b with
  | error z =>
   rw[h2 z e,Qx]
   exact⟨fun s' q=>(by cases q),fun z' q=>(by cases q;rfl)⟩
  | ok r =>
   obtain⟨m2,hb,j2⟩:=h1 r e
   rw[hb]
   obtain⟨i1,i2⟩:=QJ (fun x hx=>ok x (List.mem_cons_of_mem _ hx)) (s++[r]) m2 j2
   constructor
   ·intro rs q
    cases e2:l.mapM f with
    | error z=>rw[e2] at q;cases q
    | ok rs' =>
     rw[e2] at q
     cases q
     obtain⟨m',q1,q2⟩:=i1 rs' e2
     exact⟨m',q1,by rw[List.append_assoc] at q2;exact q2⟩
   ·intro z q
    cases e2:l.mapM f with
    | error z'=>rw[e2] at q;cases q;exact i2 _ e2
    | ok rs'=>rw[e2] at q;cases q
theorem vz {a b:RM}{m m1:MS} (h:a m = .nx m1):w9 a b m=b m1:=by unfold w9;rw[h];rfl
theorem xB {a b:RM}{m:MS}{z:Int} (h:a m=zQ z):w9 a b m=zQ z:=by
 unfold w9
 rw[h]
 unfold zQ
 split <;> rfl
theorem VZ (z:Int):V4 (zQ z)=erz z:=by
 unfold zQ erz
 split <;> rfl
theorem zF {tg:Tg}{src:MI}{body:RM}{m:MS}{xs:List DK} (h:src m = .ok xs):Qz tg src body m=wk tg body xs m:=by unfold Qz mDo;rw[h]
theorem Ym {α:Type}{f:α->DK}{x:Pv.Did α}{r:RE}{m:MS}{y:α->Itm} (h:r (vy m)=dK f x) (hy:∀ a,x = .ok a->qH (f a)=some (y a)):ye r m=dM y x:=by
 unfold ye
 rw[h]
 cases x with
 | ok a=>show xJ (qH (f a))=_;rw[hy a rfl];rfl
 | error z=>exact zj z _
theorem Y4 {α:Type}{f:α->DK}{x:Pv.Did α}{r:RE}{m:MS}{y:α->Itm} (h:r (qX m)=dK f x) (hy:∀ a,x = .ok a->Qs (f a)=some (y a)):jj r m=dM y x:=by
 unfold jj
 rw[h]
 cases x with
 | ok a=>show xJ (Qs (f a))=_;rw[hy a rfl];rfl
 | error z=>exact zj z _
theorem Jh {α β:Type}{f:α->β}{x:Pv.Did α}{k:β->wH}:mDo (dM f x) k=(match x with | .ok a=>k (f a) | .error z=>zQ z):=by
 cases x with
 | ok a=>rfl
 | error z =>
  show mDo (erz z) k=zQ z
  unfold erz zQ
  split <;> rfl
theorem xm (μ:List Cell) (f:Nat):∀ ds:List D,(ds.map fun d=>Itm.v d true).mapM (w8 μ f)=some ds
 | []=>rfl
 | d::ds=>by
  rw[List.map_cons,List.mapM_cons,xm μ f ds]
  have e:w8 μ f (.v d true)=some d:=by
   cases f <;> exact if_pos (.inr rfl)
  rw[e]
  rfl
theorem jG (μ:List Cell) (f:Nat) (k:Bool):∀ ds:List D,(ds.map fun d=>Itm.v d k).mapM (vS μ f)=some ds
 | []=>rfl
 | d::ds=>by
  rw[List.map_cons,List.mapM_cons,jG μ f k ds]
  have e:vS μ f (.v d k)=some d:=by cases f <;> rfl
  rw[e]
  rfl
noncomputable def Yk:RM:=(w9 (Xq 1 VP) (w9 (Qz (.one 2) (qb0 (iOf (qa 0))) (Vh (ieV 1) (qa 2))) (qcG (ieV 1))))
noncomputable def ux:Fn:=fun ds=>V4 (Yk ⟨ms0 ["grid","numbers","row"] (it0 ds),[]⟩)
theorem QG {t:List (List Nat)}:∀ {n:Nat},Wide n t->(PvCalls.flat t).length=t.length*n:=fun {n} h=>by
 unfold PvCalls.flat
 induction t with
 | nil=>simp
 | cons r t ih =>
  rw[List.flatMap_cons,List.length_append,ih (fun x hx=>h x (List.mem_cons_of_mem _ hx)),h r List.mem_cons_self,List.length_cons,Nat.succ_mul]
  lia
theorem qf1 {t:List (List Nat)}{n:Nat} (h:Wide n t) (hl:t.length*n <= 1000000):ux [tD t] = .ok (rD (PvCalls.flat t),true):=by
 show V4 (Yk ⟨[some (.v (tD t) false),none,none],[]⟩)=_
 unfold Yk
 rw[vz (show Xq 1 VP ⟨[some (.v (tD t) false),none,none],[]⟩ = .nx ⟨[some (.v (tD t) false),some (.c 0),none],[.lst []]⟩ from rfl)]
 have hsrc:qb0 (iOf (qa 0)) ⟨[some (.v (tD t) false),some (.c 0),none],[.lst []]⟩ = .ok (t.map fun r=>(rD r,.sh)):=by
  show Rs.ok ((t.map rD).map fun d=>(d,Kd.sh))=_
  rw[List.map_map]
  rfl
 have hb:∀ s:List Nat,∀ l:List (List Nat),(∀ x∈l,x∈t)->s.length+l.length*n <= 1000000->∀ u:Option Itm,∃ u',wk (.one 2) (Vh (ieV 1) (qa 2)) (l.map fun r=>(rD r,Kd.sh)) ⟨[some (.v (tD t) false),some (.c 0),u],[.lst ((s.map fun (n:Nat)=>D.int n).map fun d=>.v d true)]⟩ = .nx ⟨[some (.v (tD t) false),some (.c 0),u'],[.lst (((s++PvCalls.flat l).map fun (n:Nat)=>D.int n).map fun d=>.v d true)]⟩:=by
  intro s l
  induction l generalizing s with
  | nil=>intro _ _ u;exact⟨u,by show wH.nx _=_;rw[show PvCalls.flat []=[] from rfl,List.append_nil]⟩
  | cons r l ih =>
   intro hx hs u
   have hr:r.length=n:=h r (hx r List.mem_cons_self)
   rw[List.length_cons,Nat.succ_mul] at hs
   rw[yW (m1:=⟨[some (.v (tD t) false),some (.c 0),some (.v (rD r) false)],[.lst ((s.map fun (n:Nat)=>D.int n).map fun d=>.v d true)]⟩) rfl]
   have hbody:Vh (ieV 1) (qa 2) ⟨[some (.v (tD t) false),some (.c 0),some (.v (rD r) false)],[.lst ((s.map fun (n:Nat)=>D.int n).map fun d=>.v d true)]⟩ = .nx ⟨[some (.v (tD t) false),some (.c 0),some (.v (rD r) false)],[.lst (((s++r).map fun (n:Nat)=>D.int n).map fun d=>.v d true)]⟩:=by
    show (if (r.map fun (n:Nat)=>D.int n).all D.sc=true/\((s.map fun (n:Nat)=>D.int n).map fun d=>Itm.v d true).length+(r.map fun (n:Nat)=>D.int n).length <= LIM then _ else _)=_
    rw[if_pos ⟨jy r,by rw[List.length_map,List.length_map,List.length_map];show _ <= 16777216;lia⟩]
    show wH.nx ⟨_,[Cell.lst (((s.map fun (n:Nat)=>D.int n).map fun d=>Itm.v d true)++((r.map fun (n:Nat)=>D.int n).map fun d=>Itm.v d true))]⟩=_
    rw[<- List.map_append,<- List.map_append]
   rw[hbody]
   obtain⟨u',q⟩:=ih (s++r) (fun x hx'=>hx x (List.mem_cons_of_mem _ hx')) (by rw[List.length_append];lia) (some (.v (rD r) false))
   refine⟨u',?_⟩
   show wk _ _ _ _=_
   rw[q,show PvCalls.flat (r::l)=r++PvCalls.flat l from rfl,List.append_assoc]
 obtain⟨u',q⟩:=hb [] t (fun _ h=>h) (by simpa using hl) none
 rw[vz ((zF hsrc).trans q),List.nil_append]
 show WT [.lst (((PvCalls.flat t).map fun (n:Nat)=>D.int n).map fun d=>Itm.v d true)] (.c 0)=_
 have e:w8 [.lst (((PvCalls.flat t).map fun (n:Nat)=>D.int n).map fun d=>Itm.v d true)] 3 (.c 0)=some (rD (PvCalls.flat t)):=by
  show (List.mapM (w8 _ 2) _).map D.lst=_
  rw[xm]
  rfl
 unfold WT
 rw[e]
 show Rs.ok (rD (PvCalls.flat t),((PvCalls.flat t).map fun (n:Nat)=>D.int n).all D.sc)=_
 rw[jy]
noncomputable def yZ:RS:=(vV (qi vF (qd (qi ux (qd (qa 0) qk)) qk)))
noncomputable def v7:Fn:=fun ds=>res (yZ (sl0 ["grid"] ds))
theorem X9 {t:List (List Nat)}{n:Nat} (h:Wide n t) (hl:t.length*n <= 1000000):v7 [tD t] = .ok (.lst (.int (PvCalls.flat t).length::(PvCalls.flat t).map fun (n:Nat)=>D.int n),true):=by
 show res (yZ [.val (tD t) false])=_
 unfold yZ
 have hfl:qi ux (qd (qa 0) qk) [.val (tD t) false] = .ok (rD (PvCalls.flat t),.fr):=by
  rw[qR (qh (x:=(tD t,.sh)) rfl qD)]
  show (ux [tD t]).bind _=_
  rw[qf1 h hl]
  rfl
 have hw:qi vF (qd (qi ux (qd (qa 0) qk)) qk) [.val (tD t) false] = .ok (.lst (.int (PvCalls.flat t).length::(PvCalls.flat t).map fun (n:Nat)=>D.int n),.fr):=by
  rw[qR (qh hfl qD)]
  show (vF [rD (PvCalls.flat t)]).bind _=_
  rw[Yd (jy _) (by rw[List.length_map,QG h];show _<16777216;lia),List.length_map]
  rfl
 rw[Q8 hw]
 rfl
theorem zJ {β γ:Type}{f:β->Pv.Did γ}:∀ {l:List β}{rs:List γ},l.mapM f = .ok rs->rs.length=l.length
 | [],rs,h=>by cases h;rfl
 | x::l,rs,h=>by
  rw[List.mapM_cons] at h
  cases e:f x with
  | error z=>rw[e] at h;cases h
  | ok y =>
   rw[e] at h
   cases e2:l.mapM f with
   | error z=>rw[e2] at h;cases h
   | ok ys=>rw[e2] at h;cases h;rw[List.length_cons,List.length_cons,zJ e2]
theorem getD_mem {α:Type}{l:List α}{i:Nat} (d:α) (h:i<l.length):l.getD i d∈l:=by
 rw[List.getD_eq_getElem?_getD,List.getElem?_eq_getElem h]
 exact List.getElem_mem h
theorem jF {β γ:Type} (d:β) (l:List β) (f:β->Pv.Did γ):l.mapM f=(List.range l.length).mapM fun i=>f (l.getD i d):=by
 conv=>lhs;rw[zy l d]
 rw[List.mapM_map]
 rfl
theorem X5 {α β:Type}{l:List α}{k:List β} (a:α) (b:β) (h:l.length=k.length) (i:Nat):(l.zip k).getD i (a,b)=(l.getD i a,k.getD i b):=by
 by_cases hi:i<l.length
 ·rw[List.getD_eq_getElem?_getD,List.getElem?_eq_getElem (by rw[List.length_zip];lia),List.getElem_zip,List.getD_eq_getElem?_getD,List.getElem?_eq_getElem hi,List.getD_eq_getElem?_getD,List.getElem?_eq_getElem (by lia:i<k.length)]
  rfl
 ·rw[List.getD_eq_getElem?_getD,List.getElem?_eq_none (by rw[List.length_zip];lia),List.getD_eq_getElem?_getD,List.getElem?_eq_none (by lia),List.getD_eq_getElem?_getD,List.getElem?_eq_none (by lia)]
  rfl
noncomputable def Xn (a b s:List (List Nat)) (n:Nat):Pv.Did (List (List Nat)):=(a.zip s).mapM fun p=>(((List.range n).map fun j=>b.map fun r=>r.getD j 0).zip p.2).mapM fun q=>Pv.chain q.2 (p.1.zip q.1)
theorem map_getD {α β:Type}{l:List α}{f:α->β}{i:Nat} (d:α) (e:β) (h:i<l.length):(l.map f).getD i e=f (l.getD i d):=by
 rw[List.getD_eq_getElem?_getD,List.getElem?_map,List.getElem?_eq_getElem h,List.getD_eq_getElem?_getD,List.getElem?_eq_getElem h]
 rfl
theorem range_getD {n j:Nat} (h:j<n) (d:Nat):(List.range n).getD j d=j:=by
 rw[List.getD_eq_getElem?_getD,List.getElem?_eq_getElem (by rw[List.length_range];exact h),List.getElem_range]
 rfl
theorem qdM {m k n:Nat}{a b s:List (List Nat)} (ha:a.length=m) (hak:Wide k a) (hb:b.length=k) (hs:s.length=m) (hsn:Wide n s):Xn a b s n=Pv.eachCell m n fun i j=>Pv.chain (Pv.Table.at_ s i j) ((List.range k).map fun t=>(Pv.Table.at_ a i t,Pv.Table.at_ b t j)):=by
 unfold Xn Pv.eachCell
 rw[jF ([],[])]
 have hl:(a.zip s).length=m:=by rw[List.length_zip];lia
 rw[hl]
 refine mapM_congr fun i hi=>?_
 have hi:=List.mem_range.mp hi
 rw[X5 [] [] (by lia)]
 have hsi:(s.getD i []).length=n:=hsn _ (getD_mem [] (by lia))
 have hai:(a.getD i []).length=k:=hak _ (getD_mem [] (by lia))
 rw[jF ([],0)]
 have hl2:(((List.range n).map fun j=>b.map fun r=>r.getD j 0).zip (s.getD i [])).length=n:=by rw[List.length_zip,List.length_map,List.length_range,hsi,Nat.min_self]
 rw[hl2]
 refine mapM_congr fun j hj=>?_
 have hj:=List.mem_range.mp hj
 rw[X5 [] 0 (by rw[List.length_map,List.length_range];exact hsi.symm),map_getD 0 [] (by rw[List.length_range];exact hj),range_getD hj]
 show Pv.chain ((s.getD i []).getD j 0) ((a.getD i []).zip (b.map fun r=>r.getD j 0))=_
 have e:(a.getD i []).zip (b.map fun r=>r.getD j 0)=(List.range k).map fun t=>(Pv.Table.at_ a i t,Pv.Table.at_ b t j):=by
  have e1:a.getD i []=(List.range k).map fun t=>(a.getD i []).getD t 0:=by
   conv=>lhs;rw[zy (a.getD i []) 0,hai]
  have e2:(b.map fun r=>r.getD j 0)=(List.range k).map fun t=>(b.getD t []).getD j 0:=by
   conv=>lhs;rw[zy b [],hb]
   rw[List.map_map]
   rfl
  rw[e2]
  conv=>lhs;rw[e1]
  rw[jQ]
  rfl
 rw[e]
 rfl
noncomputable def yq:RM:=(w9 (xb 3 (ye (qi v8 (qd (qa 1) qk)))) (w9 (Xq 4 VP) (w9 (Qz (.two 5 6) (qb0 (j6 (qa 0) (qa 2))) (y4 (ieV 4) (ye (zx (.two 7 8) (j6 (qa 3) (qa 6)) zK (qi qE (qd (qa 5) (qd (qa 7) (qd (qa 8) qk)))) [7,8])))) (qcG (ieV 4)))))
noncomputable def zc:Fn:=fun ds=>V4 (yq ⟨ms0 ["a","b","starts","columns","made","row","start_row","column","start"] (it0 ds),[]⟩)
theorem YQ {m k n:Nat}{a b s:List (List Nat)} (ha:a.length=m) (hb:b.length=k) (hbn:Wide n b) (hs:s.length=m) (h0:0<m) (hm:m<1000000) (hk0:0<k) (hk:k<1000000) (hn0:0<n) (hn:n<1000000) (oa:T64 a) (ob:T64 b) (os:T64 s) :
  zc [tD a,tD b,tD s]=dB (fun t=>(tD t,false)) (Xn a b s n):=by
 show V4 (yq ⟨[some (.v (tD a) false),some (.v (tD b) false),some (.v (tD s) false),none,none,none,none,none,none],[]⟩)=_
 unfold yq
 generalize hA:Itm.v (tD a) false=A
 generalize hB:Itm.v (tD b) false=B
 generalize hS:Itm.v (tD s) false=S
 generalize hC:((List.range n).map fun j=>b.map fun r=>r.getD j 0)=C
 have hCl:C.length=n:=by rw[<- hC,List.length_map,List.length_range]
 have oC:T64 C:=by
  rw[<- hC]
  intro r hr
  obtain⟨j,_,rfl⟩:=List.mem_map.mp hr
  intro v hv
  obtain⟨q,hq,rfl⟩:=List.mem_map.mp hv
  exact uY (ob q hq) j
 have h1:xb 3 (ye (qi v8 (qd (qa 1) qk))) ⟨[some A,some B,some S,none,none,none,none,none,none],[]⟩ = .nx ⟨[some A,some B,some S,some (.v (tD C) true),none,none,none,none,none],[]⟩:=by
  have hv:qi v8 (qd (qa 1) qk) (vy ⟨[some A,some B,some S,none,none,none,none,none,none],[]⟩) = .ok (tD C,.nw):=by
   rw[qR (qh (x:=(tD b,.sh)) (by rw[<- hB];rfl) qD)]
   show (v8 [tD b]).bind _=_
   rw[Ys hb hk0 (by show k<16777216;lia) hbn hn0 hn,hC]
   rfl
  unfold xb ye
  rw[hv]
  rfl
 rw[vz h1,vz (show Xq 4 VP _ = .nx ⟨[some A,some B,some S,some (.v (tD C) true),some (.c 0),none,none,none,none],[.lst []]⟩ from rfl)]
 have hsrc:qb0 (j6 (qa 0) (qa 2)) ⟨[some A,some B,some S,some (.v (tD C) true),some (.c 0),none,none,none,none],[.lst []]⟩ = .ok ((a.zip s).map fun p=>(.tup [rD p.1,rD p.2],.sh)):=by
  rw[<- hA,<- hS]
  show Rs.ok (((a.map rD).zip (s.map rD)).map fun p=>(D.tup [p.1,p.2],Kd.sh))=_
  rw[jL,List.map_map]
  rfl
 have hfor:=QJ (tg:=.two 5 6) (body:=y4 (ieV 4) (ye (zx (.two 7 8) (j6 (qa 3) (qa 6)) zK (qi qE (qd (qa 5) (qd (qa 7) (qd (qa 8) qk)))) [7,8]))) (enc:=fun (p:List Nat × List Nat)=>(D.tup [rD p.1,rD p.2],Kd.sh)) (l:=a.zip s)
  (f:=fun p=>(C.zip p.2).mapM fun q=>Pv.chain q.2 (p.1.zip q.1)) (J:=fun c rs μ=>rs.length+c <= 1000000/\∃ u v,μ=⟨[some A,some B,some S,some (.v (tD C) true),some (.c 0),u,v,none,none],[.lst ((rs.map rD).map fun d=>.v d true)]⟩/\True) (by
   rintro⟨row,srow⟩ hp c rs μ ⟨hlen,u,v,rfl,_⟩
   have hrow:row∈a:=(List.of_mem_zip hp).1
   have hsrow:srow∈s:=(List.of_mem_zip hp).2
   refine⟨⟨[some A,some B,some S,some (.v (tD C) true),some (.c 0),some (.v (rD row) false),some (.v (rD srow) false),none,none],[.lst ((rs.map rD).map fun d=>.v d true)]⟩,rfl,?_⟩
   have hcomp:=uv (tg:=.two 7 8) (src:=j6 (qa 3) (qa 6)) (r:=qi qE (qd (qa 5) (qd (qa 7) (qd (qa 8) qk)))) (vs:=[7,8]) (δ:=vy ⟨[some A,some B,some S,some (.v (tD C) true),some (.c 0),some (.v (rD row) false),some (.v (rD srow) false),none,none],[.lst ((rs.map rD).map fun d=>.v d true)]⟩)
    (b:=true) (enc:=fun (q:List Nat × Nat)=>(D.tup [rD q.1,.int (q.2:Nat)],Kd.sh)) (k:=.nw) (l:=C.zip srow) (f:=fun q=>Pv.chain q.2 (row.zip q.1)) (by
     show Rs.ok (true,((C.map rD).zip (srow.map fun (n:Nat)=>D.int n)).map fun p=>(D.tup [p.1,p.2],Kd.sh))=_
     rw[jL,List.map_map]
     rfl) (by rw[List.length_zip];show _<16777216;lia) (by
     rintro⟨col,st⟩ hq
     have hcol:col∈C:=(List.of_mem_zip hq).1
     have hst:st∈srow:=(List.of_mem_zip hq).2
     refine⟨[zY (some A),zY (some B),zY (some S),.val (tD C) true,.un,.val (rD row) false,.val (rD srow) false,.val (rD col) false,.val (.int st) true],rfl,?_⟩
     rw[qR (qh (x:=(rD row,.sh)) rfl (qh (x:=(rD col,.sh)) rfl (qh (x:=(.int st,.nw)) rfl qD)))]
     show (qE [rD row,rD col,.int st]).bind _=_
     rw[xg (os srow hsrow st hst) (oa row hrow) (oC col hcol),Jm (fun z hz=>yC hz),j8]
     rfl)
   constructor
   ·intro r hr
    have hr:(C.zip srow).mapM (fun q=>Pv.chain q.2 (row.zip q.1)) = .ok r:=hr
    rw[hr] at hcomp
    refine⟨⟨[some A,some B,some S,some (.v (tD C) true),some (.c 0),some (.v (rD row) false),some (.v (rD srow) false),none,none],[.lst (((rs++[r]).map rD).map fun d=>.v d true)]⟩,?_,?_,_,_,rfl,trivial⟩
    ·unfold y4
     show mDo (ye _ _) _=_
     unfold ye
     rw[hcomp]
     show (if ((rs.map rD).map fun d=>Itm.v d true).length<LIM then wH.nx ⟨_,[Cell.lst (((rs.map rD).map fun d=>Itm.v d true)++[Itm.v (rD r) true])]⟩ else .no)=_
     rw[if_pos (by rw[List.length_map,List.length_map];show _<16777216;lia),List.map_append,List.map_append]
     rfl
    ·rw[List.length_append,List.length_singleton];lia
   ·intro z hz
    have hz:(C.zip srow).mapM (fun q=>Pv.chain q.2 (row.zip q.1)) = .error z:=hz
    rw[hz] at hcomp
    unfold y4
    show mDo (ye _ _) _=_
    unfold ye
    rw[hcomp]
    show mDo ((erz z:Rs DK).bind _) _=_
    rw[zj]
    unfold erz zQ
    split <;> rfl) [] ⟨[some A,some B,some S,some (.v (tD C) true),some (.c 0),none,none,none,none],[.lst []]⟩ ⟨by rw[List.length_zip];show 0+_ <= _;lia,none,none,rfl,trivial⟩
 have e0:Xn a b s n=(a.zip s).mapM fun p=>(C.zip p.2).mapM fun q=>Pv.chain q.2 (p.1.zip q.1):=by unfold Xn;rw[hC]
 rw[e0]
 cases hT:(a.zip s).mapM fun p=>(C.zip p.2).mapM fun q=>Pv.chain q.2 (p.1.zip q.1) with
 | error z =>
  rw[xB ((zF hsrc).trans (hfor.2 z hT)),VZ]
  rfl
 | ok rs =>
  obtain⟨m',q1,q2,u,v,rfl,_⟩:=hfor.1 rs hT
  rw[List.nil_append] at q1 q2
  rw[vz ((zF hsrc).trans q1)]
  show WT [.lst ((rs.map rD).map fun d=>Itm.v d true)] (.c 0)=_
  have e:w8 [.lst ((rs.map rD).map fun d=>Itm.v d true)] 3 (.c 0)=some (tD rs):=by
   show (List.mapM (w8 _ 2) _).map D.lst=_
   rw[xm]
   rfl
  unfold WT
  rw[e]
  show Rs.ok (tD rs,(rs.map rD).all D.sc) = .ok (tD rs,false)
  have hne:rs≠[]:=fun z=>by
   have q:=zJ hT
   rw[z,List.length_zip] at q
   have:([]:List (List Nat)).length=0:=rfl
   lia
  cases rs with
  | nil=>exact absurd rfl hne
  | cons r rs=>rfl
theorem xo:∀ {l:List (Nat × Nat)}{s r:Nat},s<2^64->Pv.chain s l = .ok r->r<2^64
 | [],s,r,hs,h=>by cases h;exact hs
 | p::l,s,r,hs,h=>by
  unfold Pv.chain at h
  rw[List.foldlM_cons] at h
  cases e:Pv.F p.1 p.2 s with
  | error z=>rw[e] at h;cases h
  | ok v =>
   rw[e] at h
   refine xo (l:=l) ?_ h
   unfold Pv.F at e
   cases e2:Pv.fused p.1 p.2 s with
   | none=>rw[e2] at e;cases e
   | some w=>rw[e2] at e;cases e;exact Wf e2
structure Tb (m n:Nat) (t:List (List Nat)):Prop where
 len:t.length=m
 wide:Wide n t
 b64:T64 t
theorem Tb.qcA {m n:Nat}{t:List (List Nat)} (h:Tb m n t) (i j:Nat):Pv.Table.at_ t i j<2^64:=by
 unfold Pv.Table.at_
 by_cases hi:i<t.length
 ·exact uY (h.b64 _ (getD_mem [] hi)) j
 ·have e:t.getD i []=[]:=by rw[List.getD_eq_getElem?_getD,List.getElem?_eq_none (by lia)];rfl
  rw[e]
  exact (by decide:(0:Nat)<2^64)
theorem qeJ {m n:Nat}{f:Nat->Nat->Pv.Did Nat}{t:List (List Nat)} (hf:∀ i j r,i<m->j<n->f i j = .ok r->r<2^64) (h:Pv.eachCell m n f = .ok t):Tb m n t:=by
 unfold Pv.eachCell at h
 refine⟨by rw[zJ h,List.length_range],fun r hr=>?_,fun r hr v hv=>?_⟩
 ·obtain⟨i,_,e⟩:=yc h r hr
  rw[zJ e,List.length_range]
 ·obtain⟨i,hi,e⟩:=yc h r hr
  obtain⟨j,hj,e2⟩:=yc e v hv
  exact hf i j v (List.mem_range.mp hi) (List.mem_range.mp hj) e2
theorem Uj {m n:Nat}{f:Nat->Nat->Nat} (hf:∀ i j,f i j<2^64):Tb m n (Pv.tableBy m n f):=by
 unfold Pv.tableBy
 refine⟨by rw[List.length_map,List.length_range],fun r hr=>?_,fun r hr v hv=>?_⟩
 ·obtain⟨i,_,rfl⟩:=List.mem_map.mp hr
  rw[List.length_map,List.length_range]
 ·obtain⟨i,_,rfl⟩:=List.mem_map.mp hr
  obtain⟨j,_,rfl⟩:=List.mem_map.mp hv
  exact hf i j
theorem xQ {m n:Nat}{l:List Nat} (h:R64 l):Tb m n (PvCalls.tableOf m n l):=Uj fun i j=>uY h _
theorem J8 (m n:Nat):Tb m n (List.replicate m (List.replicate n 0)):=⟨List.length_replicate,fun r hr=>by rw[(List.mem_replicate.mp hr).2,List.length_replicate],fun r hr v hv=>by rw[(List.mem_replicate.mp hr).2] at hv;rw[(List.mem_replicate.mp hv).2];decide⟩
theorem VQ {m k n:Nat}{a b t:List (List Nat)} (h:Pv.times m k n a b = .ok t):Tb m n t:=qeJ (fun i j r _ _ e=>xo (by decide) e) h
theorem qel (m n i j:Nat):Pv.Table.at_ (List.replicate m (List.replicate n 0)) i j=0:=by
 unfold Pv.Table.at_
 have e:∀ (k:Nat),(List.replicate n 0).getD k 0=0:=fun k=>by
  rw[List.getD_eq_getElem?_getD,List.getElem?_replicate]
  split <;> rfl
 by_cases hi:i<m
 ·have e2:(List.replicate m (List.replicate n 0)).getD i []=List.replicate n 0:=by
   rw[List.getD_eq_getElem?_getD,List.getElem?_replicate,if_pos hi]
   rfl
  rw[e2]
  exact e j
 ·have e2:(List.replicate m (List.replicate n 0)).getD i []=[]:=by
   rw[List.getD_eq_getElem?_getD,List.getElem?_replicate,if_neg hi]
   rfl
  rw[e2]
  rfl
noncomputable def x5:RS:=(vV (qi zc (qd (qa 0) (qd (qa 1) (qd (qi wW (qd (vM wO (qd (qa 0) qk)) (qd (vM wO (qd (qf oIx (qa 1) (rC (.int 0))) qk)) qk))) qk)))))
noncomputable def zW:Fn:=fun ds=>res (x5 (sl0 ["a","b"] ds))
theorem Jl {m k n:Nat}{a b:List (List Nat)} (ha:Tb m k a) (hb:Tb k n b) (h0:0<m) (hm:m<1000000) (hk0:0<k) (hk:k<1000000) (hn0:0<n) (hn:n<1000000):zW [tD a,tD b]=dB (fun t=>(tD t,false)) (Pv.times m k n a b):=by
 show res (x5 [.val (tD a) false,.val (tD b) false])=_
 unfold x5
 have v0:qa 0 [.val (tD a) false,.val (tD b) false] = .ok (tD a,.sh):=rfl
 have v1:qa 1 [.val (tD a) false,.val (tD b) false] = .ok (tD b,.sh):=rfl
 have l0:vM wO (qd (qa 0) qk) [.val (tD a) false,.val (tD b) false] = .ok (.int m,.nw):=(xY v0).trans (by rw[List.length_map,ha.len])
 have hix:qf oIx (qa 1) (rC (.int 0)) [.val (tD a) false,.val (tD b) false] = .ok (rD (b.getD 0 []),.sh):=(qj v1 (y:=(.int ((0:Nat):Int),.nw)) rfl).trans (yF (z5 b 0 (by rw[hb.len];exact hk0)))
 have l1:vM wO (qd (qf oIx (qa 1) (rC (.int 0))) qk) [.val (tD a) false,.val (tD b) false] = .ok (.int n,.nw):=(xY hix).trans (by rw[List.length_map,hb.wide _ (getD_mem [] (by rw[hb.len];exact hk0))])
 have hz:qi wW (qd (vM wO (qd (qa 0) qk)) (qd (vM wO (qd (qf oIx (qa 1) (rC (.int 0))) qk)) qk)) [.val (tD a) false,.val (tD b) false] = .ok (tD (List.replicate m (List.replicate n 0)),.nw):=by
  rw[qR (qh l0 (qh l1 qD))]
  show (wW [.int m,.int n]).bind _=_
  rw[XM h0 hm hn]
  rfl
 have hz2:=J8 m n
 refine XB rfl (yy (f:=fun t=>(tD t,false)) (qh v0 (qh v1 (qh hz qD))) ?_)
 show zc [tD a,tD b,tD (List.replicate m (List.replicate n 0))]=_
 rw[YQ ha.len hb.len hb.wide hz2.len h0 hm hk0 hk hn0 hn ha.b64 hb.b64 hz2.b64,qdM ha.len ha.wide hb.len hz2.len hz2.wide]
 congr 1
 unfold Pv.times
 refine Wj fun i hi j hj=>?_
 rw[qel]
 rfl
theorem qbj {m k n:Nat}{a b:Pv.Table}{z:Int} (h:Pv.times m k n a b = .error z):z = -3:=qci (fun i j z q=>yC q) h
noncomputable abbrev kOf (y:D × Bool):Rs DK:=.ok (y.1,kB y.2)
theorem qhe {g:Fn}{r:RE}{δ:Dl}{R:Rs (D × Bool)} (h:r δ=R.bind kOf):qi g (qd r qk) δ=(R.bind fun y=>g [y.1]).bind kOf:=by
 unfold qi qd
 rw[h]
 cases R with
 | ok y=>rfl
 | er c=>rfl
 | no=>rfl
theorem call_K {g:Fn}{r:RA}{δ:Dl}{xs:List DK} (h:r δ = .ok xs):qi g r δ=(g (xs.map (·.1))).bind kOf:=qR h
theorem qc2 {T:Pv.Did Pv.Table}{m n:Nat} (h:∀ t,T = .ok t->Tb m n t) (hl:m*n <= 1000000) (he:∀ z,T = .error z->z = -3\/z = -4):(dB (fun t=>(tD t,false)) T).bind (fun y=>v7 [y.1])=zo (qfT T PvCalls.table):=by
 cases e:T with
 | ok t =>
  have ht:=h t e
  show v7 [tD t]=_
  rw[X9 ht.wide (by rw[ht.len];exact hl)]
  show _=zo (.row (PvCalls.flat t))
  rw[qdd]
 | error z=>rcases he z e with rfl | rfl <;> rfl
theorem qdG {T:Pv.Did Pv.Table}{m n:Nat} (h:∀ t,T = .ok t->Tb m n t) (hl:m*n <= 1000) (he:∀ z,T = .error z->z = -3\/z = -4) {rows:List (Nat × List Nat)}:Few (PvCalls.given rows T PvCalls.table):=by
  refine qbz ?_
  cases e:T with
  | error z => rcases he z e with rfl | rfl
               . exact .inr (.inr (.inl rfl))
               . exact .inr (.inr (.inr rfl))
  | ok t =>
    show (PvCalls.flat t).length <= 1000
    rw[QG (h t e).wide,(h t e).len]
    exact hl
theorem size_pos {n:Nat} (h:PvCalls.size n=true):1 <= n/\n <= 16:=by
 unfold PvCalls.size PvCalls.SIZE at h
 rw[Bool.and_eq_true,decide_eq_true_eq,decide_eq_true_eq] at h
 exact h
theorem qdA {neg:Bool}{m r:Nat} (h:Pv.pack neg m=some r):r%2^63<9218868437227405312/\(neg=false->r<2^63):=by
 unfold Pv.pack at h
 split at h
 ·cases h
 ·rename_i hm
  have hm:m<2^2098:=Nat.lt_of_not_le hm
  have b:(if m<2^52 then m else (m.log2-51)*2^52+m / 2^(m.log2-52)%2^52)<9218868437227405312:=by
   split
   ·rename_i q;exact Nat.lt_trans q (by decide)
   ·have hl:m.log2<2098:=by
     by_cases z:m=0
     ·rw[z,Nat.log2_zero];decide
     ·exact (Nat.log2_lt z).mpr hm
    have q:=Nat.mod_lt (m / 2^(m.log2-52)) (show 0<2^52 by decide)
    generalize m / 2^(m.log2-52)%2^52=v at q ⊢
    generalize m.log2=u at hl ⊢
    clear hm
    lia
  clear hm
  cases h
  generalize (if m<2^52 then m else (m.log2-51)*2^52+m / 2^(m.log2-52)%2^52)=v at b ⊢
  cases neg with
  | true =>
   refine⟨?_,fun z=>nomatch z⟩
   show (2^63+v)%2^63<_
   lia
  | false =>
   show (0+v)%2^63<_/\(_->0+v<2^63)
   lia
theorem qge {s:Int}{d:Nat}{b:Bool}{r:Nat} (h:Pv.ofSum s d b=some r):r%2^63<9218868437227405312:=by
 unfold Pv.ofSum at h
 split at h
 ·cases h;split <;> decide
 ·exact (qdA h).1
theorem Ub:∀ {l:List (Nat × Nat)}{s r:Nat},s%2^63<9218868437227405312->Pv.chain s l = .ok r->r%2^63<9218868437227405312
 | [],s,r,hs,h=>by cases h;exact hs
 | p::l,s,r,hs,h=>by
  unfold Pv.chain at h
  rw[List.foldlM_cons] at h
  cases e:Pv.F p.1 p.2 s with
  | error z=>rw[e] at h;cases h
  | ok v =>
   rw[e] at h
   refine Ub (l:=l) ?_ h
   unfold Pv.F at e
   cases e2:Pv.fused p.1 p.2 s with
   | none=>rw[e2] at e;cases e
   | some w=>rw[e2] at e;cases e;exact qge e2
theorem qft {x:Nat} (h:x<2^64) (h2:x%2^63<9218868437227405312):Fi (x:Int):=⟨wt h,by lia⟩
theorem qeG {r:RE}{δ:Dl}{R:Rs (D × Bool)} (hf:freeze δ=δ) (h:r δ=R.bind kOf) (hR:∀ y,R = .ok y->y.2=true->∃ ds,y.1 = .lst ds):res (vV r δ)=R:=by
 cases R with
 | ok y =>
  obtain⟨d,b⟩:=y
  cases b with
  | true =>
   obtain⟨ds,hd⟩:=hR _ rfl rfl
   have hd:d = .lst ds:=hd
   subst hd
   rw[Q8 (by rw[hf];exact h)]
   rfl
  | false=>rw[wc (by rw[hf];exact h)];rfl
 | er c=>rw[z7 (by rw[hf];exact h)];rfl
 | no =>
  have h:r δ = .no:=h
  unfold vV
  rw[hf,h]
  rfl
theorem WB {r q:RE}{δ:Dl}{i j:Nat}{k l:Kd} (h1:r δ = .ok (.int i,k)) (h2:q δ = .ok (.int j,l)) (hi:i<1000000) (hj:j<1000000):zC r q δ = .ok (true,(Pv.span i j).map fun (k:Nat)=>(D.int k,.nw)):=by
 unfold zC
 rw[h1,h2,Rs.qP,Rs.qP]
 dsimp only
 rw[if_pos ⟨⟨by lia,by lia⟩,by lia,by lia⟩]
 unfold Pv.span
 rw[List.map_map]
 have e:((j:Int)-(i:Int)).toNat=j-i:=by lia
 rw[e]
 congr 2
theorem Wu {i j k:Nat} (h:k∈Pv.span i j):i <= k/\k<j:=by
 unfold Pv.span at h
 obtain⟨d,hd,rfl⟩:=List.mem_map.mp h
 have:=List.mem_range.mp hd
 lia
noncomputable def yw:RS:=(vV (zx (.two 3 4) (j6 (qa 0) (qa 2)) zK (qi zl (qd (qi wq (qd (qa 1) qk)) (qd (qa 4) (qd (qa 3) qk)))) [3,4]))
noncomputable def qY:Fn:=fun ds=>res (yw (sl0 ["row","factor","other","s","y"] ds))
theorem jZ {row other:List Nat}{f:Nat} (hr:R64 row) (ho:R64 other) (hf:f<2^64) (hl:row.length<LIM):qY [rD row,.int f,rD other]=dB (fun l=>(rD l,true)) ((row.zip other).mapM fun p=>Pv.F (Pv.minus f) p.2 p.1):=by
 show res (yw [.val (rD row) false,.val (.int f) false,.val (rD other) false,.un,.un])=_
 unfold yw
 have hc:=uv (tg:=.two 3 4) (src:=j6 (qa 0) (qa 2)) (r:=qi zl (qd (qi wq (qd (qa 1) qk)) (qd (qa 4) (qd (qa 3) qk)))) (vs:=[3,4]) (δ:=[.val (rD row) false,.val (.int f) false,.val (rD other) false,.un,.un]) (b:=true) (enc:=fun (p:Nat × Nat)=>(D.tup [.int (p.1:Nat),.int (p.2:Nat)],.sh)) (k:=.nw) (f:=fun p=>Pv.F (Pv.minus f) p.2 p.1) (l:=row.zip other) (by
   show Rs.ok (true,((row.map fun (n:Nat)=>D.int n).zip (other.map fun (n:Nat)=>D.int n)).map fun p=>(D.tup [p.1,p.2],Kd.sh))=_
   rw[jL,List.map_map]
   rfl) (by rw[List.length_zip];exact Nat.lt_of_le_of_lt (Nat.min_le_left _ _) hl) (by
   rintro⟨s,y⟩ hp
   have hs:=hr s (List.of_mem_zip hp).1
   have hy:=ho y (List.of_mem_zip hp).2
   refine⟨[.val (rD row) false,.val (.int f) false,.val (rD other) false,.val (.int s) true,.val (.int y) true],rfl,?_⟩
   have e1:qi wq (qd (qa 1) qk) [.val (rD row) false,.val (.int f) false,.val (rD other) false,.val (.int s) true,.val (.int y) true] = .ok (.int (Pv.minus f:Nat),.nw):=by
    rw[qR (qh (x:=(.int f,.sh)) rfl qD)]
    show (wq [.int f]).bind _=_
    rw[JH (wt hf),Int.toNat_natCast,Dm.XC f hf]
    rfl
   rw[qR (qh e1 (qh (x:=(.int y,.nw)) rfl (qh (x:=(.int s,.nw)) rfl qD)))]
   show (zl [.int (Pv.minus f:Nat),.int y,.int s]).bind _=_
   rw[J4 (wt (by rw[Dm.XC f hf];exact Dm.qeh f hf)) (wt hy) (wt hs),Int.toNat_natCast,Int.toNat_natCast,Int.toNat_natCast,Vb,j8]
   rfl)
 exact (qcY (α:=List Nat) (f:=fun ys=>ys.map fun (n:Nat)=>D.int n) rfl hc)
theorem qdg {r i j:RE}{δ:Dl}{t:List (List Nat)}{I J:Nat}{k ki kj:Kd}{n:Nat} (h:r δ = .ok (tD t,k)) (hi:i δ = .ok (.int I,ki)) (hj:j δ = .ok (.int J,kj)) (hI:I<t.length) (hw:Wide n t) (hJ:J<n):qf oIx (qf oIx r i) j δ = .ok (.int (Pv.Table.at_ t I J:Nat),(k.low .nw).low .nw):=by
 rw[qj ((qj h hi).trans (yF (z5 t I hI))) hj]
 exact yF (qan _ J (by rw[hw _ (getD_mem [] hI)];exact hJ))
theorem zq {s:List (Option Itm)}{μ:List Cell}{i:Nat}{x:Itm}{d:D} (h:s[i]?=some (some x)) (hv:vS μ 3 x=some d):qa i (qX ⟨s,μ⟩) = .ok (d,.sh):=by
 have e:(qX ⟨s,μ⟩)[i]?=some (.val d false):=by
  show (s.map (qb5 μ))[i]?=_
  rw[List.getElem?_map,h]
  show some (match vS μ 3 x with | some d=>Sl.val d false | none=>.un)=_
  rw[hv]
 unfold qa
 rw[e]
 rfl
theorem yu {s:List (Option Itm)}{μ:List Cell}{i:Nat}{d:D}{k:Bool} (h:s[i]?=some (some (.v d k))):qa i (qX ⟨s,μ⟩) = .ok (d,.sh):=zq h rfl
theorem uH {n i:Nat} (h:i<n):yL n (i:Nat)=some i:=by
 unfold yL
 rw[if_pos (by lia),if_pos (by lia),Int.toNat_natCast]
noncomputable abbrev vI (d:D):Itm:=.v d true
theorem qdl {x y r:Nat} (h:Pv.div x y=some r):r<2^64:=by
 unfold Pv.div at h
 split at h
 ·cases h
 ·exact YC h
theorem Tb.set {m n:Nat}{x:List (List Nat)} (h:Tb m n x) (i:Nat) {row:List Nat} (hl:row.length=n) (hr:R64 row):Tb m n (x.set i row):=by
 refine⟨by rw[List.length_set];exact h.len,fun r hr'=>?_,fun r hr'=>?_⟩
 ·rcases List.mem_or_eq_of_mem_set hr' with q | q
  ·exact h.wide r q
  ·rw[q];exact hl
 ·rcases List.mem_or_eq_of_mem_set hr' with q | q
  ·exact h.b64 r q
  ·rw[q];exact hr
theorem qg0 {x y z r:Nat} (h:Pv.F x y z = .ok r):r<2^64:=by
 unfold Pv.F at h
 cases e:Pv.fused x y z with
 | none=>rw[e] at h;cases h
 | some w=>rw[e] at h;cases h;exact Wf e
theorem qfa {x y z:Nat}{e:Int} (h:Pv.F x y z = .error e):e = -3:=ue h
noncomputable def Je (z:Int):qaF:=if z = -4 then .er "NotAsTold" else .er "StepNotFinite"
theorem Vu (z:Int):xC (zQ z)=Je z:=by
 unfold zQ Je
 split <;> rfl
theorem qgM {t:RT}{a b:RM}{m:MS} (h:t (qX m) = .ok true):mIf t a b m=a m:=by unfold mIf;rw[h];rfl
theorem qgX {t:RT}{a b:RM}{m:MS} (h:t (qX m) = .ok false):mIf t a b m=b m:=by unfold mIf;rw[h];rfl
theorem ZW {β:Type} (f:β->D) (k:Kd) (hk:k = .fr\/k = .nw):∀ l:List β,zm (l.map fun x=>(f x,k)) = .ok ((l.map f).map fun d=>Itm.v d true)
 | []=>rfl
 | x::l=>by
  have ih:=ZW f k hk l
  show (xJ (qH (f x,k.low .nw))).bind (fun y=>(zm (l.map fun x=>(f x,k))).bind fun ys=>.ok (y::ys))=_
  have e:qH (f x,k.low .nw)=some (.v (f x) true):=by
   have e1:k.low .nw = .nw:=by rcases hk with rfl | rfl <;> rfl
   rw[e1]
   show (if (f x).sc=true then _ else some (Itm.v (f x) true))=_
   split <;> rfl
  rw[e,ih]
  rfl
noncomputable def qaL (r:RM):Prop:=∀ m x μ,r m ≠ .rt x μ
theorem Xv {a b:RM} (ha:qaL a) (hb:qaL b):qaL (w9 a b):=fun m x μ h=>by
 unfold w9 wH.andThen at h
 cases e:a m with
 | nx m1=>rw[e] at h;exact hb m1 x μ h
 | rt y ν=>exact ha m y ν e
 | bk m1=>rw[e] at h;cases h
 | ct m1=>rw[e] at h;cases h
 | er c=>rw[e] at h;cases h
 | no=>rw[e] at h;cases h
theorem Ve {α:Type}{x:Rs α}{f:α->wH} (h:∀ a y μ,f a ≠ .rt y μ) (y:Itm) (μ:List Cell):mDo x f ≠ .rt y μ:=by
 cases x with
 | ok a=>exact h a y μ
 | er c=>intro z;cases z
 | no=>intro z;cases z
theorem ZK {c f:Str}{m:MS}{o:Option (Nat × Cell)}{x:Itm}{μ:List Cell} (y:Itm) (ν:List Cell):uQ c f m o x μ ≠ .rt y ν:=by
 intro h
 match o,h with
 | some (n,.ins c' ns xs),h =>
  have h:(if c'=c/\ns.length<1000/\ns.length=xs.length then wH.nx _ else .no) = .rt y ν:=h
  split at h <;> cases h
 | some (n,.lst xs),h=>cases h
 | none,h=>cases h
theorem JL {c f:Str}{ec:IE}{ev:NE}:qaL (Y9 c f ec ev):=fun m x μ=>Ve (fun a y ν=>Ve (fun b z ξ=>ZK z ξ) y ν) x μ
theorem qfR {r:RM} (h:qaL r) {m:MS}{x:Itm}{μ:List Cell} (e:xC (r m) = .ok x μ):x = .v .non true:=by
 cases q:r m with
 | rt y ν=>exact absurd q (h m y ν)
 | nx m1=>rw[q] at e;cases e;rfl
 | bk m1=>rw[q] at e;cases e
 | ct m1=>rw[q] at e;cases e
 | er c=>rw[q] at e;cases e
 | no=>rw[q] at e;cases e
noncomputable def dO {α:Type} (f:α->wH):Pv.Did α->wH
 | .ok a=>f a
 | .error z=>zQ z
noncomputable abbrev vT (y:List (List Nat)) (fl:List Bool):List Itm:=List.zipWith (fun r f=>Itm.v (rD r) f) y fl
theorem qbW (μ:List Cell) (f:Nat):∀ (y:List (List Nat)) (fl:List Bool),fl.length=y.length->(vT y fl).mapM (vS μ f)=some (y.map rD)
 | [],[],_=>rfl
 | r::y,b::fl,h=>by
  show (Itm.v (rD r) b::vT y fl).mapM (vS μ f)=_
  rw[List.mapM_cons,qbW μ f y fl (by simpa using h)]
  have e:vS μ f (.v (rD r) b)=some (rD r):=by cases f <;> rfl
  rw[e]
  rfl
 | [],_::_,h=>nomatch h
 | _::_,[],h=>nomatch h
theorem qe9 (μ:List Cell) (f:Nat):∀ (y:List (List Nat)) (fl:List Bool),fl.length=y.length->(∀ b∈fl,b=true)->(vT y fl).mapM (w8 μ f)=some (y.map rD)
 | [],[],_,_=>rfl
 | r::y,b::fl,h,hb=>by
  have e0:=hb b List.mem_cons_self
  subst e0
  show (Itm.v (rD r) true::vT y fl).mapM (w8 μ f)=_
  rw[List.mapM_cons,qe9 μ f y fl (by simpa using h) (fun b hb'=>hb b (List.mem_cons_of_mem _ hb'))]
  have e:w8 μ f (.v (rD r) true)=some (rD r):=by cases f <;> exact if_pos (.inr rfl)
  rw[e]
  rfl
 | [],_::_,h,_=>nomatch h
 | _::_,[],h,_=>nomatch h
theorem qe5 (r:List Nat):∀ (y:List (List Nat)) (fl:List Bool) (i:Nat),(vT y fl).set i (.v (rD r) true)=vT (y.set i r) (fl.set i true)
 | [],_,_=>by simp [vT]
 | _::_,[],i=>by cases i <;> simp [vT]
 | q::y,b::fl,0=>rfl
 | q::y,b::fl,i+1=>by
  show Itm.v (rD q) b::(vT y fl).set i _=Itm.v (rD q) b::vT (y.set i r) (fl.set i true)
  rw[qe5 r y fl i]
theorem qaj (k:Bool):∀ y:List (List Nat),(y.map rD).map (fun d=>Itm.v d k)=vT y (List.replicate y.length k)
 | []=>rfl
 | r::y=>by
  show Itm.v (rD r) k::(y.map rD).map (fun d=>Itm.v d k)=Itm.v (rD r) k::vT y (List.replicate y.length k)
  rw[qaj k y]
theorem Yj {y:List (List Nat)}{fl:List Bool} (h:fl.length=y.length) (f:Nat):vS [.lst (vT y fl)] (f+1) (.c 0)=some (tD y):=by
 show ((vT y fl).mapM (vS _ f)).map D.lst=_
 rw[qbW _ f y fl h]
 rfl
theorem JN {n m:Nat}{y:Pv.Table} (hy:Tb n m y) {i j:Nat} (hi:i<n) (hj:j<n) (l:Nat):((y.getD i []).zip (y.getD j [])).mapM (fun p=>Pv.F (Pv.minus l) p.2 p.1)>>=(fun r=>(.ok (y.set i r):Pv.Did Pv.Table))=Pv.rowLess m y i j l:=by
 have wi:(y.getD i []).length=m:=hy.wide _ (getD_mem [] (by rw[hy.len];exact hi))
 have wj:(y.getD j []).length=m:=hy.wide _ (getD_mem [] (by rw[hy.len];exact hj))
 have e:(y.getD i []).zip (y.getD j [])=(List.range m).map fun c=>(Pv.Table.at_ y i c,Pv.Table.at_ y j c):=by
  conv=>lhs;rw[zy (y.getD i []) 0,wi,zy (y.getD j []) 0,wj]
  rw[jQ]
  rfl
 rw[e,List.mapM_map]
 rfl
theorem UE {n m:Nat}{y y':Pv.Table} (hy:Tb n m y) {i j l:Nat} (h:Pv.rowLess m y i j l = .ok y'):Tb n m y':=by
 unfold Pv.rowLess at h
 cases hr:(List.range m).mapM fun c=>Pv.F (Pv.minus l) (y.at_ j c) (y.at_ i c) with
 | error z=>rw[hr] at h;cases h
 | ok r =>
  rw[hr] at h
  cases h
  refine hy.set i (by rw[zJ hr,List.length_range]) fun v hv=>?_
  obtain⟨c,_,e⟩:=yc hr v hv
  exact qg0 e
theorem QM {m:Nat}{y:Pv.Table}{i j l:Nat}{z:Int} (h:Pv.rowLess m y i j l = .error z):z = -3:=by
 unfold Pv.rowLess at h
 cases hr:(List.range m).mapM fun c=>Pv.F (Pv.minus l) (y.at_ j c) (y.at_ i c) with
 | error z=>rw[hr] at h;cases h;obtain⟨c,_,e⟩:=yE hr;exact qfa e
 | ok r=>rw[hr] at h;cases h
theorem U0 {n m:Nat}{y y':Pv.Table} (hy:Tb n m y) {i d:Nat} (h:Pv.rowOver m y i d = .ok y'):Tb n m y':=by
 unfold Pv.rowOver at h
 cases hr:(List.range m).mapM fun c=>Pv.step (Pv.div (y.at_ i c) d) with
 | error z=>rw[hr] at h;cases h
 | ok r =>
  rw[hr] at h
  cases h
  refine hy.set i (by rw[zJ hr,List.length_range]) fun v hv=>?_
  obtain⟨c,_,e⟩:=yc hr v hv
  cases e2:Pv.div (y.at_ i c) d with
  | none=>rw[e2] at e;cases e
  | some w=>rw[e2] at e;cases e;exact qdl e2
theorem XO {m:Nat}{y:Pv.Table}{i d:Nat}{z:Int} (h:Pv.rowOver m y i d = .error z):z = -3:=by
 unfold Pv.rowOver at h
 cases hr:(List.range m).mapM fun c=>Pv.step (Pv.div (y.at_ i c) d) with
 | error z=>rw[hr] at h;cases h;obtain⟨c,_,e⟩:=yE hr;exact ue e
 | ok r=>rw[hr] at h;cases h
noncomputable abbrev Z7 (rx:RE):RM:=wZ (ieV 2) (qa 3) (jj (qi qY (qd (qf oIx (qa 2) (qa 3)) (qd (qf oIx (qf oIx rx (qa 3)) (qa 4)) (qd (qf oIx (qa 2) (qa 4)) qk)))))
theorem qg6 (s:List (Option Itm)) (xs:List Itm):cellAt ⟨s,[.lst xs]⟩ (.c 0)=some (0,.lst xs):=rfl
theorem qdk {y:List (List Nat)}{fl:List Bool} (h:fl.length=y.length):(vT y fl).length=y.length:=by
 unfold vT
 rw[List.length_zipWith,h,Nat.min_self]
theorem qe0 {s:List (Option Itm)}{y:List (List Nat)}{fl:List Bool}{i:Nat}{r:RE}{α:Type}{x:Pv.Did α}{f:α->List Nat}{k:α->Kd}{n:Nat} (hs:s[2]?=some (some (.c 0))) (hi:s[3]?=some (some (.v (.int (i:Nat)) true))) (hf:fl.length=y.length) (hl:i<y.length) (h:r (qX ⟨s,[.lst (vT y fl)]⟩)=dK (fun a=>(rD (f a),k a)) x) (hk:∀ a,k a = .fr\/k a = .nw) :
  wZ (ieV 2) (qa 3) (jj r) ⟨s,[.lst (vT y fl)]⟩=dO (fun a=>.nx ⟨s,[.lst (vT (y.set i (f a)) (fl.set i true))]⟩) x:=by
 unfold wZ
 rw[Y4 (y:=fun a=>Itm.v (rD (f a)) true) h (fun a _=>by rcases hk a with q | q <;> (rw[q];rfl)),Jh]
 cases x with
 | error z=>rfl
 | ok a =>
  have e:ieV 2 ⟨s,[.lst (vT y fl)]⟩ = .ok (.c 0):=by show (match s[2]? with | some (some x)=>_ | _=>_)=_;rw[hs]
  show mDo (ieV 2 ⟨s,[.lst (vT y fl)]⟩) _=_
  rw[e]
  show mDo (qa 3 (qX ⟨s,[.lst (vT y fl)]⟩)) _=_
  rw[yu hi]
  show setCell ⟨s,[.lst (vT y fl)]⟩ (cellAt ⟨s,[.lst (vT y fl)]⟩ (.c 0)) (.int (i:Nat)) (Itm.v (rD (f a)) true)=_
  rw[qg6]
  show (match yL (vT y fl).length (i:Nat) with | some j=>wH.nx ⟨s,[Cell.lst ((vT y fl).set j (Itm.v (rD (f a)) true))]⟩ | none=>.no)=_
  rw[uH (by rw[qdk hf];exact hl)]
  show wH.nx ⟨s,[Cell.lst ((vT y fl).set i (Itm.v (rD (f a)) true))]⟩=_
  rw[qe5]
  rfl
theorem qcw {n m N:Nat}{s:List (Option Itm)}{x y:List (List Nat)}{fl:List Bool}{i j:Nat}{rx:RE}{kx:Kd} (hx:Tb n N x) (hy:Tb n m y) (hm:m<1000000) (hi:i<n) (hj:j<n) (hjN:j<N) (hs:s[2]?=some (some (.c 0))) (h3:s[3]?=some (some (.v (.int (i:Nat)) true))) (h4:s[4]?=some (some (.v (.int (j:Nat)) true))) (hf:fl.length=n)
  (hrx:rx (qX ⟨s,[.lst (vT y fl)]⟩) = .ok (tD x,kx)):Z7 rx ⟨s,[.lst (vT y fl)]⟩=dO (fun y'=>.nx ⟨s,[.lst (vT y' (fl.set i true))]⟩) (Pv.rowLess m y i j (Pv.Table.at_ x i j)):=by
 have hfy:fl.length=y.length:=by rw[hf,hy.len]
 have e2:qa 2 (qX ⟨s,[.lst (vT y fl)]⟩) = .ok (tD y,.sh):=zq hs (Yj hfy 2)
 have e3:qa 3 (qX ⟨s,[.lst (vT y fl)]⟩) = .ok (.int (i:Nat),.sh):=yu h3
 have e4:qa 4 (qX ⟨s,[.lst (vT y fl)]⟩) = .ok (.int (j:Nat),.sh):=yu h4
 have hil:i<y.length:=by rw[hy.len];exact hi
 have hjl:j<y.length:=by rw[hy.len];exact hj
 have a1:qf oIx (qa 2) (qa 3) (qX ⟨s,[.lst (vT y fl)]⟩) = .ok (rD (y.getD i []),.sh):=(qj e2 e3).trans (yF (z5 y i hil))
 have a2:qf oIx (qa 2) (qa 4) (qX ⟨s,[.lst (vT y fl)]⟩) = .ok (rD (y.getD j []),.sh):=(qj e2 e4).trans (yF (z5 y j hjl))
 have a3:=qdg (n:=N) hrx e3 e4 (by rw[hx.len];exact hi) hx.wide hjN
 have hcall:qi qY (qd (qf oIx (qa 2) (qa 3)) (qd (qf oIx (qf oIx rx (qa 3)) (qa 4)) (qd (qf oIx (qa 2) (qa 4)) qk))) (qX ⟨s,[.lst (vT y fl)]⟩)=dK (fun r=>(rD r,.fr)) (((y.getD i []).zip (y.getD j [])).mapM fun p=>Pv.F (Pv.minus (Pv.Table.at_ x i j)) p.2 p.1):=by
  rw[qR (qh a1 (qh a3 (qh a2 qD)))]
  show (qY [rD (y.getD i []),.int (Pv.Table.at_ x i j:Nat),rD (y.getD j [])]).bind _=_
  rw[jZ (hy.b64 _ (getD_mem [] hil)) (hy.b64 _ (getD_mem [] hjl)) (hx.qcA i j) (by rw[hy.wide _ (getD_mem [] hil)];show m<16777216;lia),j8]
  rfl
 show wZ (ieV 2) (qa 3) (jj _) ⟨s,[.lst (vT y fl)]⟩=_
 rw[qe0 (n:=n) (f:=fun r=>r) (k:=fun _=>.fr) hs h3 hfy hil hcall (fun _=>.inl rfl),<- JN hy hi hj]
 cases ((y.getD i []).zip (y.getD j [])).mapM fun p=>Pv.F (Pv.minus (Pv.Table.at_ x i j)) p.2 p.1 <;> rfl
theorem ZS {S:Type} (f:S->Nat->Pv.Did S):∀ (l:List Nat) (d:List Nat) (s:S),l.foldlM (fun (t:List Nat × S) i=>(f t.2 i)>>=fun s'=>(.ok (i::t.1,s'):Pv.Did (List Nat × S))) (d,s)=(l.foldlM f s)>>=fun s'=>.ok (l.reverse++d,s')
 | [],d,s=>rfl
 | i::l,d,s=>by
  rw[List.foldlM_cons,List.foldlM_cons]
  show ((f s i)>>=fun s'=>(.ok (i::d,s'):Pv.Did (List Nat × S)))>>=_=_
  cases e:f s i with
  | error z=>rfl
  | ok s1 =>
   show l.foldlM _ (i::d,s1)=_
   rw[ZS f l (i::d) s1]
   show _=(l.foldlM f s1)>>=_
   rw[List.reverse_cons,List.append_assoc]
   rfl
noncomputable def z6:RM:=(w9 (Xq 2 (JF (ieV 1))) (w9 (Qz (.one 3) (vP (yM (qf wb (vM wO (qd (qa 2) qk)) (rC (.int 1))) (rUn YH (rC (.int 1))) (rUn YH (rC (.int 1))))) (w9 (Qz (.one 4) (vP (zC (qf vR (qa 3) (rC (.int 1))) (vM wO (qd (qa 2) qk)))) (wZ (ieV 2) (qa 3) (jj (qi qY (qd (qf oIx (qa 2) (qa 3)) (qd (qf oIx (qf oIx (qa 0) (qa 3)) (qa 4)) (qd (qf oIx (qa 2) (qa 4)) qk))))))) (wZ (ieV 2) (qa 3) (jj (zx (.one 5) (iOf (qf oIx (qa 2) (qa 3))) zK (qi vm (qd (qa 5) (qd (qf oIx (qf oIx (qa 0) (qa 3)) (qa 3)) qk))) [5]))))) (qcG (ieV 2))))
noncomputable def zh:Fn:=fun ds=>V4 (z6 ⟨ms0 ["x","start","y","i","j","s"] (it0 ds),[]⟩)
noncomputable def xA (n m:Nat) (x:Pv.Table) (z:Pv.Table) (i:Nat):Pv.Did Pv.Table:=((Pv.span (i+1) n).foldlM (fun (w:Pv.Table) (j:Nat)=>Pv.rowLess m w i j (x.at_ i j)) z)>>=fun w=>Pv.rowOver m w i (x.at_ i i)
theorem qab (n m:Nat) (x y:Pv.Table):Pv.backwards n m x y=(List.range n).reverse.foldlM (xA n m x) y:=rfl
theorem qaQ {n:Nat} (h:n<1000000):QQ ((n:Int)-1) (-1) (-1)=some ((List.range n).reverse.map fun (k:Nat)=>(k:Int)):=by
 unfold QQ
 rw[if_pos ⟨by lia,by lia,by lia⟩,if_pos rfl]
 have e:((n:Int)-1 - -1).toNat=n:=by lia
 rw[e]
 congr 1
 refine List.ext_getElem (by simp) fun i h1 h2=>?_
 simp
 simp at h1
 lia
noncomputable abbrev vJt (i:Nat):Option Itm:=some (.v (.int i) true)
noncomputable abbrev bSt (A B:Itm) (a u v:Option Itm):List (Option Itm):=[some A,some B,some (.c 0),a,u,v]
noncomputable abbrev bMS (A B:Itm) (a u v:Option Itm) (w:List (List Nat)) (fl:List Bool):MS:=⟨bSt A B a u v,[.lst (vT w fl)]⟩
noncomputable abbrev xj (m:Nat) (x:Pv.Table) (i:Nat) (w:Pv.Table) (j:Nat):Pv.Did Pv.Table:=Pv.rowLess m w i j (Pv.Table.at_ x i j)
theorem xh {n m N:Nat}{x y:List (List Nat)} (hx:Tb n N x) (hN:n <= N) (hy:Tb n m y) (h0:0<n) (hn:n<1000) (hm:m<1000):zh [tD x,tD y]=dB (fun t=>(tD t,false)) (Pv.backwards n m x y)/\(∀ t,Pv.backwards n m x y = .ok t->Tb n m t)/\(∀ z,Pv.backwards n m x y = .error z->z = -3):=by
 generalize hA:Itm.v (tD x) false=A
 generalize hB:Itm.v (tD y) false=B
 have inner:∀ (i:Nat),i<n->∀ (w:List (List Nat)) (fl:List Bool) (u v:Option Itm),Tb n m w->fl.length=n ->
   (∀ w',(Pv.span (i+1) n).foldlM (xj m x i) w = .ok w'->Tb n m w'/\∃ fl' u',(fl'.length=n/\∀ j,fl.getD j false=true->fl'.getD j false=true)/\Qz (.one 4) (vP (zC (qf vR (qa 3) (rC (.int 1))) (vM wO (qd (qa 2) qk)))) (Z7 (qa 0)) (bMS A B (vJt i) u v w fl) = .nx (bMS A B (vJt i) u' v w' fl')) /\
   (∀ z,(Pv.span (i+1) n).foldlM (xj m x i) w = .error z->z = -3/\Qz (.one 4) (vP (zC (qf vR (qa 3) (rC (.int 1))) (vM wO (qd (qa 2) qk)))) (Z7 (qa 0)) (bMS A B (vJt i) u v w fl)=zQ z):=by
  intro i hi w fl u v hw hfl
  have hfor:=yR (tg:=.one 4) (body:=Z7 (qa 0)) (enc:=fun (j:Nat)=>(D.int j,Kd.nw)) (l:=Pv.span (i+1) n) (f:=xj m x i)
   (J:=fun w' ms=>Tb n m w'/\∃ fl' u',(fl'.length=n/\∀ j,fl.getD j false=true->fl'.getD j false=true)/\ms=(bMS A B (vJt i) u' v w' fl')) (by
    rintro j hj w' ms ⟨hw',fl',u',⟨hfl',hmono⟩,rfl⟩
    have hj:=Wu hj
    refine⟨(bMS A B (vJt i) (vJt j) v w' fl'),rfl,?_⟩
    have q:Z7 (qa 0) (bMS A B (vJt i) (vJt j) v w' fl')=dO (fun y'=>.nx (bMS A B (vJt i) (vJt j) v y' (fl'.set i true))) (xj m x i w' j):=qcw (s:=bSt A B (vJt i) (vJt j) v) (fl:=fl') (rx:=qa 0) (kx:=.sh) hx hw' (by lia) hi hj.2 (by lia) rfl rfl rfl hfl' (by rw[<- hA];exact yu rfl)
    rw[q]
    cases e:xj m x i w' j with
    | error z=>exact⟨fun s' e'=>(by cases e'),fun z' e'=>(by cases e';rfl)⟩
    | ok w2 =>
     refine⟨fun s' e'=>?_,fun z' e'=>(by cases e')⟩
     cases e'
     refine⟨_,rfl,UE hw' e,fl'.set i true,_,⟨by rw[List.length_set];exact hfl',fun j hj=>?_⟩,rfl⟩
     have:=hmono j hj
     rw[List.getD_eq_getElem?_getD] at this ⊢
     by_cases c:i=j
     ·subst c
      rw[List.getElem?_set_self (by lia)]
      rfl
     ·rw[List.getElem?_set_ne c]
      exact this) w (bMS A B (vJt i) u v w fl) ⟨hw,fl,u,⟨hfl,fun _ h=>h⟩,rfl⟩
  have hsrc:vP (zC (qf vR (qa 3) (rC (.int 1))) (vM wO (qd (qa 2) qk))) (bMS A B (vJt i) u v w fl) = .ok ((Pv.span (i+1) n).map fun (k:Nat)=>(D.int k,.nw)):=by
   unfold vP
   rw[WB (i:=i+1) (j:=n) (k:=.nw) (l:=.nw) ((qj (x:=(.int (i:Nat),.sh)) (y:=(.int 1,.nw)) (yu rfl) rfl).trans (qW (by lia))) ((xY (zq (i:=2) rfl (Yj (by rw[hfl,hw.len]) 2))).trans (by rw[List.length_map,hw.len])) (by lia) (by lia)]
   rfl
  refine⟨fun w' e=>?_,fun z e=>⟨?_,(zF hsrc).trans (hfor.2 z e)⟩⟩
  ·obtain⟨m',q1,q2,fl',u',q3,rfl⟩:=hfor.1 w' e
   exact⟨q2,fl',u',q3,(zF hsrc).trans q1⟩
  ·have key:∀ (l:List Nat) (w:Pv.Table),l.foldlM (xj m x i) w = .error z->z = -3:=by
    intro l
    induction l with
    | nil=>intro w e;cases e
    | cons j l ih =>
     intro w e
     rw[List.foldlM_cons] at e
     cases e1:xj m x i w j with
     | error z1=>rw[e1] at e;cases e;exact QM e1
     | ok w1=>rw[e1] at e;exact ih w1 e
   exact key _ _ e
 have hfor:=yR (tg:=.one 3) (body:=w9 (Qz (.one 4) (vP (zC (qf vR (qa 3) (rC (.int 1))) (vM wO (qd (qa 2) qk)))) (Z7 (qa 0))) (wZ (ieV 2) (qa 3) (jj (zx (.one 5) (iOf (qf oIx (qa 2) (qa 3))) zK (qi vm (qd (qa 5) (qd (qf oIx (qf oIx (qa 0) (qa 3)) (qa 3)) qk))) [5]))))
  (enc:=fun (i:Nat)=>(D.int i,Kd.nw)) (l:=(List.range n).reverse) (f:=fun (t:List Nat × Pv.Table) i=>(xA n m x t.2 i)>>=fun s'=>(.ok (i::t.1,s'):Pv.Did (List Nat × Pv.Table)))
  (J:=fun t ms=>Tb n m t.2/\∃ fl u v w,(fl.length=n/\∀ j∈t.1,fl.getD j false=true)/\ms=(bMS A B u v w (t.2) fl)) (by
   rintro i hi ⟨done,z0⟩ ms ⟨hz,fl,u,v,w,⟨hfl,hdone⟩,rfl⟩
   have hi:i<n:=List.mem_range.mp (List.mem_reverse.mp hi)
   refine⟨(bMS A B (vJt i) v w z0 fl),rfl,?_⟩
   obtain⟨n1,n2⟩:=inner i hi z0 fl v w hz hfl
   show (∀ s',(((Pv.span (i+1) n).foldlM (xj m x i) z0>>=fun w=>Pv.rowOver m w i (Pv.Table.at_ x i i))>>=fun s'=>(.ok (i::done,s'):Pv.Did (List Nat × Pv.Table))) = .ok s'->_)/\(∀ z,(((Pv.span (i+1) n).foldlM (xj m x i) z0>>=fun w=>Pv.rowOver m w i (Pv.Table.at_ x i i))>>=fun s'=>(.ok (i::done,s'):Pv.Did (List Nat × Pv.Table))) = .error z->_)
   cases e1:(Pv.span (i+1) n).foldlM (xj m x i) z0 with
   | error z =>
    refine⟨fun s' e=>(by cases e),fun z' e=>?_⟩
    cases e
    exact xB (n2 z e1).2
   | ok w1 =>
    obtain⟨hw1,fl1,u1,⟨hfl1,hmono⟩,q1⟩:=n1 w1 e1
    change _=wH.nx ⟨bSt A B (vJt i) u1 w,[.lst (vT w1 fl1)]⟩ at q1
    generalize hs:bSt A B (vJt i) u1 w=s at q1
    have hfy:fl1.length=w1.length:=by rw[hfl1,hw1.len]
    have hil:i<w1.length:=by rw[hw1.len];exact hi
    have e2:qa 2 (qX ⟨s,[.lst (vT w1 fl1)]⟩) = .ok (tD w1,.sh):=zq (by rw[<- hs];rfl) (Yj hfy 2)
    have e3:qa 3 (qX ⟨s,[.lst (vT w1 fl1)]⟩) = .ok (.int (i:Nat),.sh):=yu (by rw[<- hs];rfl)
    have a1:qf oIx (qa 2) (qa 3) (qX ⟨s,[.lst (vT w1 fl1)]⟩) = .ok (rD (w1.getD i []),.sh):=(qj e2 e3).trans (yF (z5 w1 i hil))
    have wi:=hw1.wide _ (getD_mem [] hil)
    have hcomp:zx (.one 5) (iOf (qf oIx (qa 2) (qa 3))) zK (qi vm (qd (qa 5) (qd (qf oIx (qf oIx (qa 0) (qa 3)) (qa 3)) qk))) [5] (qX ⟨s,[.lst (vT w1 fl1)]⟩)=dK (fun r=>(rD r,.fr)) ((List.range m).mapM fun c=>Pv.step (Pv.div (Pv.Table.at_ w1 i c) (Pv.Table.at_ x i i))):=by
     refine (uv (tg:=.one 5) (enc:=fun (v:Nat)=>(D.int v,.sh)) (f:=fun v=>Pv.step (Pv.div v (Pv.Table.at_ x i i))) (k:=.nw) (l:=w1.getD i []) (b:=true) ?_ (by rw[wi];show m<16777216;lia) ?_).trans ?_
     ·rw[qgr a1,List.map_map]
      rfl
     ·intro v hv
      have hv64:v<2^64:=hw1.b64 _ (getD_mem [] hil) v hv
      refine⟨(clear (qX ⟨s,[.lst (vT w1 fl1)]⟩) [5]).set 5 (.val (.int v) true),rfl,?_⟩
      rw[<- hs]
      have e0:qa 0 ((clear (qX (bMS A B (vJt i) u1 w w1 fl1)) [5]).set 5 (.val (.int v) true)) = .ok (tD x,.sh):=by rw[<- hA];rfl
      have e3':qa 3 ((clear (qX (bMS A B (vJt i) u1 w w1 fl1)) [5]).set 5 (.val (.int v) true)) = .ok (.int (i:Nat),.sh):=rfl
      rw[qR (qh (x:=(.int v,.nw)) rfl (qh (qdg (n:=N) e0 e3' e3' (by rw[hx.len];exact hi) hx.wide (by lia)) qD))]
      show (vm [.int v,.int (Pv.Table.at_ x i i:Nat)]).bind _=_
      rw[V1 (wt hv64) (wt (hx.qcA i i)),Int.toNat_natCast,Int.toNat_natCast,Vb,j8]
      rfl
     ·rw[jF 0,wi]
      rfl
    have q2:=qe0 (n:=n) (f:=fun r=>r) (k:=fun _=>.fr) (s:=s) (y:=w1) (fl:=fl1) (i:=i) (by rw[<- hs];rfl) (by rw[<- hs];rfl) hfy hil hcomp (fun _=>.inl rfl)
    have hov:Pv.rowOver m w1 i (Pv.Table.at_ x i i)=((List.range m).mapM fun c=>Pv.step (Pv.div (Pv.Table.at_ w1 i c) (Pv.Table.at_ x i i)))>>=fun r=>.ok (w1.set i r):=rfl
    show (∀ s',((Pv.rowOver m w1 i (Pv.Table.at_ x i i))>>=fun s'=>(.ok (i::done,s'):Pv.Did (List Nat × Pv.Table))) = .ok s'->_)/\(∀ z,((Pv.rowOver m w1 i (Pv.Table.at_ x i i))>>=fun s'=>(.ok (i::done,s'):Pv.Did (List Nat × Pv.Table))) = .error z->_)
    cases e4:Pv.rowOver m w1 i (Pv.Table.at_ x i i) with
    | error z =>
     refine⟨fun s' e=>(by cases e),fun z' e=>?_⟩
     cases e
     rw[hov] at e4
     cases hr:(List.range m).mapM fun c=>Pv.step (Pv.div (Pv.Table.at_ w1 i c) (Pv.Table.at_ x i i)) with
     | ok r=>rw[hr] at e4;cases e4
     | error z2 =>
      rw[hr] at e4 q2
      cases e4
      exact (vz q1).trans q2
    | ok w2 =>
     refine⟨fun s' e=>?_,fun z' e=>(by cases e)⟩
     cases e
     have hw2:=U0 hw1 e4
     rw[hov] at e4
     cases hr:(List.range m).mapM fun c=>Pv.step (Pv.div (Pv.Table.at_ w1 i c) (Pv.Table.at_ x i i)) with
     | error z2=>rw[hr] at e4;cases e4
     | ok r =>
      rw[hr] at e4 q2
      cases e4
      refine⟨_,(vz q1).trans q2,hw2,fl1.set i true,_,_,_,⟨by rw[List.length_set];exact hfl1,fun j hj=>?_⟩,by rw[<- hs]⟩
      rw[List.getD_eq_getElem?_getD]
      by_cases c:i=j
      ·subst c
       rw[List.getElem?_set_self (by lia)]
       rfl
      ·rw[List.getElem?_set_ne c]
       have hj2:j∈done:=(List.mem_cons.mp hj).resolve_left fun z=>c z.symm
       have:=hmono j (hdone j hj2)
       rw[List.getD_eq_getElem?_getD] at this
       exact this) ([],y) (bMS A B none none none y (List.replicate y.length false)) ⟨hy,_,_,_,_,⟨by rw[List.length_replicate,hy.len],fun j hj=>nomatch hj⟩,rfl⟩
 have hfd:=ZS (xA n m x) (List.range n).reverse [] y
 rw[<- qab] at hfd
 have hsrc:vP (yM (qf wb (vM wO (qd (qa 2) qk)) (rC (.int 1))) (rUn YH (rC (.int 1))) (rUn YH (rC (.int 1)))) (bMS A B none none none y (List.replicate y.length false)) = .ok ((List.range n).reverse.map fun (k:Nat)=>(D.int k,.nw)):=by
  unfold vP
  rw[Vs (i:=(n:Int)-1) (j := -1) (c := -1) (k1:=.nw) (k2:=.nw) (k3:=.nw) ((qj (y:=(.int 1,.nw)) ((xY (zq (i:=2) rfl (Yj (by rw[List.length_replicate]) 2))).trans (by rw[List.length_map,hy.len])) rfl).trans rfl) rfl rfl (qaQ (by lia)),List.map_map]
  rfl
 have h1:Xq 2 (JF (ieV 1)) ⟨[some A,some B,none,none,none,none],[]⟩ = .nx (bMS A B none none none y (List.replicate y.length false)):=by
  rw[<- hB]
  show wH.nx ⟨_,[Cell.lst ((y.map rD).map fun d=>Itm.v d false)]⟩=_
  rw[qaj]
  rfl
 refine⟨?_,fun t e=>?_,fun z e=>?_⟩
 ·show V4 (z6 ⟨[some (.v (tD x) false),some (.v (tD y) false),none,none,none,none],[]⟩)=_
  rw[hA,hB]
  unfold z6
  rw[vz h1]
  cases hT:Pv.backwards n m x y with
  | error z =>
   rw[hT] at hfd
   rw[xB ((zF hsrc).trans (hfor.2 z hfd)),VZ]
   rfl
  | ok t =>
   rw[hT] at hfd
   obtain⟨m',q1,q2,fl,u,v,w,⟨hfl,hd⟩,rfl⟩:=hfor.1 _ hfd
   rw[vz ((zF hsrc).trans q1)]
   have ht:t.length=n:=q2.len
   have hall:∀ b∈fl,b=true:=fun b hb=>by
    obtain⟨j,hj,rfl⟩:=List.mem_iff_getElem.mp hb
    have:=hd j (by rw[List.reverse_reverse,List.append_nil];exact List.mem_range.mpr (by lia))
    rw[List.getD_eq_getElem?_getD,List.getElem?_eq_getElem hj] at this
    exact this
   show WT [.lst (vT t fl)] (.c 0)=_
   have e:w8 [.lst (vT t fl)] 3 (.c 0)=some (tD t):=by
    show ((vT t fl).mapM (w8 _ 2)).map D.lst=_
    rw[qe9 _ 2 t fl (by rw[hfl,ht]) hall]
    rfl
   unfold WT
   rw[e]
   show Rs.ok (tD t,(t.map rD).all D.sc) = .ok (tD t,false)
   cases t with
   | nil=>exact absurd ht.symm (by show ¬ n=0;lia)
   | cons r t=>rfl
 ·rw[e] at hfd
  obtain⟨m',q1,q2,_⟩:=hfor.1 _ hfd
  exact q2
 ·have key:∀ (l:List Nat) (w:Pv.Table),l.foldlM (xA n m x) w = .error z->z = -3:=by
   intro l
   induction l with
   | nil=>intro w e;cases e
   | cons i l ih =>
    intro w e
    rw[List.foldlM_cons] at e
    cases e1:xA n m x w i with
    | ok w1=>rw[e1] at e;exact ih w1 e
    | error z1 =>
     rw[e1] at e
     cases e
     unfold xA at e1
     cases e2:(Pv.span (i+1) n).foldlM (xj m x i) w with
     | ok w2=>rw[e2] at e1;exact XO e1
     | error z2 =>
      rw[e2] at e1
      cases e1
      have key2:∀ (l:List Nat) (w:Pv.Table),l.foldlM (xj m x i) w = .error z->z = -3:=by
       intro l
       induction l with
       | nil=>intro w e;cases e
       | cons j l ih =>
        intro w e
        rw[List.foldlM_cons] at e
        cases e1:xj m x i w j with
        | error z1=>rw[e1] at e;cases e;exact QM e1
        | ok w1=>rw[e1] at e;exact ih w1 e
      exact key2 _ _ e2
  rw[qab] at e
  exact key _ _ e
theorem Jr {ra:RE}{rr:RA}{δ:Dl}{z:Int} (h:ra δ=erz z):qd ra rr δ=erz z:=by unfold qd;rw[h];exact zj z _
theorem UK {ra:RE}{rr:RA}{δ:Dl}{x:DK}{z:Int} (h:ra δ = .ok x) (h2:rr δ=erz z):qd ra rr δ=erz z:=by unfold qd;rw[h,h2];exact zj z _
theorem qbD {g:Fn}{r:RA}{δ:Dl}{z:Int} (h:r δ=erz z):qi g r δ=erz z:=by unfold qi;rw[h];exact zj z _
theorem qdu {a:PvCalls.Answer}{y:D × Bool} (h:zo a = .ok y):∃ ds,y.1 = .lst ds:=by
 cases a with
 | refused z =>
  unfold zo at h
  dsimp only at h
  split at h
  ·cases h
  ·split at h
   ·cases h
   ·split at h
    ·cases h
    ·split at h <;> cases h
 | number x=>cases h;exact⟨_,rfl⟩
 | row l=>cases h;exact⟨_,rfl⟩
 | rows l k=>cases h;exact⟨_,rfl⟩
 | lu x p t=>cases h;exact⟨_,rfl⟩
 | told e l=>cases h;exact⟨_,rfl⟩
end Gr
namespace L2.Ir
open PySem
noncomputable abbrev NN:=MS->Rs (List (List D))
noncomputable def rowsOf:List DK->Rs (List (List D))
 | []=>.ok []
 | y::ys=>match y with
  | (.lst ds,.fr)=>(rowsOf ys).bind fun r=>.ok (ds::r)
  | _=>.no
noncomputable def WY (tg:Tg) (src:RI) (t:RT) (r:RE) (vs:List Nat):NN:=fun m=>(src (vy m)).bind fun xs=>if xs.2.length<LIM then (items tg t r (clear (vy m) vs) xs.2).bind rowsOf else .no
noncomputable def jh (ds:List D):Cell:=.lst (ds.map fun d=>.v d true)
noncomputable def qa5 (n k:Nat):Cell:=.lst ((List.range k).map fun i=>.c (n+i))
noncomputable def qfS (μ:List Cell) (xss:List (List D)):List Cell:=μ++(xss.map jh++[qa5 μ.length xss.length])
noncomputable def qdi (e:NN):RM:=fun m=>mDo (e m) fun xss=>.rt (.c (m.μ.length+xss.length)) (qfS m.μ xss)
end L2.Ir
namespace Gr
open PySem L2 L2.Ir Dt
noncomputable abbrev rX (r:List Nat):List D:=r.map fun (n:Nat)=>D.int n
structure TabAt (μ:List Cell) (k b:Nat) (t:List (List Nat)):Prop where
 rows:∀ i<t.length,μ[b+i]?=some (jh (rX (t.getD i [])))
 ref:μ[k]?=some (qa5 b t.length)
 out:k<b\/b+t.length <= k
theorem jC {g:Itm->Option D}{f:Nat->List Nat}{b:Nat}:∀ {l:List Nat},(∀ i∈l,g (.c (b+i))=some (rD (f i)))->(l.map fun i=>Itm.c (b+i)).mapM g=some (l.map fun i=>rD (f i))
 | [],_=>rfl
 | i::l,h=>by
  rw[List.map_cons,List.mapM_cons,h i List.mem_cons_self,jC fun x hx=>h x (List.mem_cons_of_mem _ hx)]
  rfl
theorem XR (t:List (List Nat)):((List.range t.length).map fun i=>rD (t.getD i []))=t.map rD:=by
 conv=>rhs;rw[zy t []]
 rw[List.map_map]
 rfl
theorem TabAt.view {μ:List Cell}{k b:Nat}{t:List (List Nat)} (T:TabAt μ k b t) (f:Nat):vS μ (f+2) (.c k)=some (tD t):=by
 unfold vS
 rw[T.ref]
 show (List.mapM (vS μ (f+1)) ((List.range t.length).map fun i=>Itm.c (b+i))).map D.lst=_
 rw[jC (f:=fun i=>t.getD i []) fun i hi=>?_,XR]
 ·rfl
 ·unfold vS
  rw[T.rows i (List.mem_range.mp hi)]
  show (List.mapM (vS μ f) ((rX (t.getD i [])).map fun d=>Itm.v d true)).map D.lst=_
  rw[jG]
  rfl
theorem TabAt.new {μ:List Cell}{k b:Nat}{t:List (List Nat)} (T:TabAt μ k b t) (f:Nat):w8 μ (f+2) (.c k)=some (tD t):=by
 unfold w8
 rw[T.ref]
 show (List.mapM (w8 μ (f+1)) ((List.range t.length).map fun i=>Itm.c (b+i))).map D.lst=_
 rw[jC (f:=fun i=>t.getD i []) fun i hi=>?_,XR]
 ·rfl
 ·unfold w8
  rw[T.rows i (List.mem_range.mp hi)]
  show (List.mapM (w8 μ f) ((rX (t.getD i [])).map fun d=>Itm.v d true)).map D.lst=_
  rw[xm]
  rfl
theorem TabAt.set {μ:List Cell}{k b:Nat}{t:List (List Nat)} (T:TabAt μ k b t) {i:Nat} (hi:i<t.length) (r:List Nat):TabAt (μ.set (b+i) (jh (rX r))) k b (t.set i r):=by
 have hl:b+i<μ.length:=(List.getElem?_eq_some_iff.mp (T.rows i hi)).1
 refine⟨fun j hj=>?_,?_,by rw[List.length_set];exact T.out⟩
 ·rw[List.length_set] at hj
  by_cases c:i=j
  ·subst c
   rw[List.getElem?_set_self hl,List.getD_eq_getElem?_getD,List.getElem?_set_self hi]
   rfl
  ·rw[List.getElem?_set_ne (by lia),T.rows j hj,List.getD_eq_getElem?_getD,List.getD_eq_getElem?_getD,List.getElem?_set_ne c]
 ·rw[List.length_set,List.getElem?_set_ne (by have:=T.out;lia)]
  exact T.ref
theorem Um {m:MS}{e:IE}{r:RE}{k b i:Nat}{t:List (List Nat)}{kd:Kd} (T:TabAt m.μ k b t) (he:e m = .ok (.c k)) (hr:r (qX m) = .ok (.int i,kd)) (hi:i<t.length):WV e r m = .ok (.c (b+i)):=by
 unfold WV
 rw[he,Rs.qP,hr,Rs.qP]
 have e1:cellAt m (.c k)=some (k,qa5 b t.length):=by
  show (m.μ[k]?).map _=_
  rw[T.ref]
  rfl
 rw[e1]
 show xJ ((yL ((List.range t.length).map fun i=>Itm.c (b+i)).length (i:Int)).bind fun j=>((List.range t.length).map fun i=>Itm.c (b+i))[j]?)=_
 rw[List.length_map,List.length_range,uH hi]
 show xJ (((List.range t.length).map fun i=>Itm.c (b+i))[i]?)=_
 rw[List.getElem?_map,List.getElem?_range hi]
 rfl
theorem V2 {m:MS}{ec ev:IE}{ri:RE}{k b i j y:Nat}{t:List (List Nat)}{kd:Kd} (T:TabAt m.μ k b t) (hc:ec m = .ok (.c (b+i))) (hi:i<t.length) (hr:ri (qX m) = .ok (.int j,kd)) (hj:j<(t.getD i []).length) (hv:ev m = .ok (.v (.int y) true)) :
  wZ ec ri ev m = .nx ⟨m.s,m.μ.set (b+i) (jh (rX ((t.getD i []).set j y)))⟩:=by
 unfold wZ
 rw[hv,hc,hr]
 show setCell m (cellAt m (.c (b+i))) (.int j) (.v (.int y) true)=_
 have e1:cellAt m (.c (b+i))=some (b+i,jh (rX (t.getD i []))):=by
  show (m.μ[b+i]?).map _=_
  rw[T.rows i hi]
  rfl
 rw[e1]
 show (match yL ((rX (t.getD i [])).map fun d=>Itm.v d true).length (j:Int) with | some j'=>wH.nx ⟨m.s,m.μ.set (b+i) (.lst (((rX (t.getD i [])).map fun d=>Itm.v d true).set j' (.v (.int y) true)))⟩ | none=>.no)=_
 rw[List.length_map,List.length_map,uH hj]
 show wH.nx ⟨m.s,m.μ.set (b+i) (.lst (((rX (t.getD i [])).map fun d=>Itm.v d true).set j (.v (.int y) true)))⟩=_
 unfold jh rX
 rw[List.map_set,List.map_set]
theorem Z3 {β:Type}{enc:β->DK}{f:β->List D}{tg:Tg}{r:RE}{δ:Dl}:∀ {l:List β},(∀ x∈l,∃ δ1,tg.put (enc x) δ=some δ1/\r δ1 = .ok (.lst (f x),.fr))->(items tg zK r δ (l.map enc)).bind rowsOf = .ok (l.map f)
 | [],_=>rfl
 | x::l,h=>by
  obtain⟨δ1,e1,e2⟩:=h x List.mem_cons_self
  have ih:=Z3 fun y hy=>h y (List.mem_cons_of_mem _ hy)
  rw[List.map_cons]
  unfold items
  rw[e1]
  dsimp only
  rw[show Ir.zK δ1 = .ok true from rfl,Rs.qP,if_pos rfl,e2,Rs.qP]
  cases hi:items tg zK r δ (l.map enc) with
  | er c=>rw[hi] at ih;cases ih
  | no=>rw[hi] at ih;cases ih
  | ok ys =>
   rw[hi] at ih
   show (rowsOf ys).bind (fun q=>Rs.ok (f x::q))=_
   have ih:rowsOf ys = .ok (l.map f):=ih
   rw[ih]
   rfl
theorem uf {m n i j v:Nat}{t:List (List Nat)} (h:Tb m n t) (hv:v<2^64) (hi:i<m):Tb m n (Pv.setAt t i j v):=by
 unfold Pv.setAt
 have hm:=getD_mem (l:=t) (i:=i) [] (by rw[h.len];exact hi)
 refine h.set i (by rw[List.length_set];exact h.wide _ hm) fun w hw=>?_
 rcases List.mem_or_eq_of_mem_set hw with q | q
 ·exact h.b64 _ hm w q
 ·rw[q];exact hv
noncomputable def YA (z:Int):Out:=if z = -4 then .er "NotAsTold" else .er "StepNotFinite"
theorem qbE {r:RE}{δ:Dl}{i:Nat}{z:Int} (h:r δ=erz z):vn i r δ=YA z:=by
 unfold erz at h
 unfold YA
 by_cases c:z = -4
 ·rw[if_pos c] at h ⊢;exact YM h
 ·rw[if_neg c] at h ⊢;exact YM h
theorem qa3 {a b:RS}{δ:Dl}{z:Int} (h:a δ=YA z):vK a b δ=YA z:=by
 unfold YA at h ⊢
 by_cases c:z = -4
 ·rw[if_pos c] at h ⊢;exact yx h
 ·rw[if_neg c] at h ⊢;exact yx h
theorem Xl (z:Int):res (YA z)=erz z:=by
 unfold YA erz
 split <;> rfl
theorem ZC {t:List (List Nat)}{i j v i' j':Nat} (h:i'≠i\/j'≠j):Pv.Table.at_ (Pv.setAt t i j v) i' j'=Pv.Table.at_ t i' j':=by
 unfold Pv.setAt Pv.Table.at_
 by_cases c:i'=i
 ·subst c
  have hj:j≠j':=by rcases h with h | h;exact absurd rfl h;exact fun z=>h z.symm
  by_cases hl:i'<t.length
  ·rw[List.getD_eq_getElem?_getD (l:=t.set _ _),List.getElem?_set_self hl]
   show ((t.getD i' []).set j v).getD j' 0=_
   rw[List.getD_eq_getElem?_getD,List.getElem?_set_ne hj,<- List.getD_eq_getElem?_getD]
  ·rw[List.set_eq_of_length_le (by lia)]
 ·rw[List.getD_eq_getElem?_getD (l:=t.set _ _),List.getElem?_set_ne (fun z=>c z.symm),<- List.getD_eq_getElem?_getD]
theorem qbe {m n i j v:Nat}{t:List (List Nat)} (h:Tb m n t) (hi:i<m) (hj:j<n):Pv.Table.at_ (Pv.setAt t i j v) i j=v:=by
 unfold Pv.setAt Pv.Table.at_
 have hl:i<t.length:=by rw[h.len];exact hi
 rw[List.getD_eq_getElem?_getD (l:=t.set _ _),List.getElem?_set_self hl]
 show ((t.getD i []).set j v).getD j 0=_
 rw[List.getD_eq_getElem?_getD,List.getElem?_set_self (by rw[h.wide _ (getD_mem [] hl)];exact hj)]
 rfl
noncomputable def yo:RM:=(qdi (WY (.one 2) (wA (qa 0)) zK (qf y6 (ub (qd (rC (.int 0)) qk)) (qa 1)) [2]))
noncomputable def zw:Fm:=fun xs μ=>xC (yo ⟨ms0 ["m","n","i"] xs,μ⟩)
theorem qae (n:Nat):∀ k,(List.replicate k [D.int ((n:Nat):Int)]).flatten=rX (List.replicate k n)
 | 0=>rfl
 | k+1=>by rw[List.replicate_succ,List.flatten_cons,qae n k,List.replicate_succ];rfl
theorem Y1 {m n:Nat}{k1 k2:Bool}{μ:List Cell} (hm:m<1000000) (hn:n<1000000):zw [.v (.int m) k1,.v (.int n) k2] μ = .ok (.c (μ.length+m)) (qfS μ ((List.replicate m (List.replicate n 0)).map rX)):=by
 have h1:WY (.one 2) (wA (qa 0)) zK (qf y6 (ub (qd (rC (.int 0)) qk)) (qa 1)) [2] ⟨[some (.v (.int m) k1),some (.v (.int n) k2),none],μ⟩ = .ok ((List.replicate m (List.replicate n 0)).map rX):=by
  unfold WY
  have hs:wA (qa 0) (vy ⟨[some (.v (.int m) k1),some (.v (.int n) k2),none],μ⟩) = .ok (true,(List.range m).map fun (k:Nat)=>(D.int k,.nw)):=yD (k:=if k1=true then .nw else .sh) rfl hm
  rw[hs,Rs.qP,if_pos (by show ((List.range m).map _).length<LIM;rw[List.length_map,List.length_range];show m<16777216;lia)]
  refine (Z3 (enc:=fun (k:Nat)=>(D.int k,Kd.nw)) (f:=fun _=>rX (List.replicate n 0)) fun j _=>⟨[.val (.int m) k1,.val (.int n) k2,.val (.int j) true],rfl,?_⟩).trans ?_
  ·rw[qj (x:=(.lst [.int ((0:Nat):Int)],.fr)) (y:=(.int n,if k2=true then .nw else .sh)) rfl rfl]
   unfold y6
   dsimp only
   rw[if_pos ⟨⟨by lia,by lia⟩,by rw[List.length_singleton,Int.toNat_natCast];show _ <= 16777216;lia⟩,Int.toNat_natCast,qae 0 n,Xt (jy _)]
  ·rw[List.map_const',List.length_range,List.map_replicate]
 show xC (yo ⟨[some (.v (.int m) k1),some (.v (.int n) k2),none],μ⟩)=_
 unfold yo qdi
 rw[h1]
 show qaF.ok (.c (μ.length+((List.replicate m (List.replicate n 0)).map rX).length)) _=_
 rw[List.length_map,List.length_replicate]
theorem qaw {x r:Nat} (hx:x<2^64) (h:Pv.sqrt x=some r):r<2^64:=by
 unfold Pv.sqrt at h
 split at h
 ·cases h;exact hx
 ·split at h
  ·cases h
  ·exact YC h
theorem Wy {β S:Type}{f:S->β->Pv.Did S}{P:S->Prop}:∀ {l:List β},(∀ s b s',b∈l->P s->f s b = .ok s'->P s')->∀ {s s':S},P s->l.foldlM f s = .ok s'->P s'
 | [],_,s,s',h,e=>by cases e;exact h
 | b::l,hf,s,s',h,e=>by
  rw[List.foldlM_cons] at e
  cases e1:f s b with
  | error z=>rw[e1] at e;cases e
  | ok s1=>rw[e1] at e;exact Wy (fun s b s' hb=>hf s b s' (List.mem_cons_of_mem _ hb)) (hf s b s1 List.mem_cons_self h e1) e
theorem YW {β S:Type}{f:S->β->Pv.Did S}{P:Int->Prop} (hf:∀ s b z,f s b = .error z->P z):∀ {l:List β}{s:S}{z:Int},l.foldlM f s = .error z->P z
 | [],_,_,h=>by cases h
 | b::l,s,z,h=>by
  rw[List.foldlM_cons] at h
  cases e:f s b with
  | error y=>rw[e] at h;cases h;exact hf s b _ e
  | ok s2=>rw[e] at h;exact YW hf (l:=l) (s:=s2) h
end Gr
namespace L2.Ir
open PySem
noncomputable def uF (c f:Str) (ec:IE) (g:Fm) (es:List IE):RM:=fun m=>mDo (zv es m) fun xs=>match g xs m.μ with
 | .ok x μ=>mDo (ec ⟨m.s,μ⟩) fun y=>uQ c f ⟨m.s,μ⟩ (cellAt ⟨m.s,μ⟩ y) x μ
 | .er c=>.er c
 | .no=>.no
end L2.Ir
namespace Gr
open PySem L2 L2.Ir Dt
noncomputable def wU (m:Nat) (t:Pv.Table) (j:Nat):List Nat:=(List.range m).map fun i=>Pv.Table.at_ t i j
noncomputable def putK (k:Nat) (t:Pv.Table) (j:Nat) (col:List Nat):Pv.Table:=(List.range k).foldl (fun y i=>Pv.setAt y i j (col.getD i 0)) t
theorem jX (m:Nat) (t:Pv.Table) (j:Nat):(wU m t j).length=m:=by unfold wU;rw[List.length_map,List.length_range]
theorem qeo {m n:Nat}{t:Pv.Table} (h:Tb m n t) (j:Nat):R64 (wU m t j):=fun v hv=>by
 unfold wU at hv
 obtain⟨i,_,rfl⟩:=List.mem_map.mp hv
 exact h.qcA i j
theorem yA (k:Nat) (t:Pv.Table) (j:Nat) (col:List Nat):putK (k+1) t j col=Pv.setAt (putK k t j col) k j (col.getD k 0):=by
 unfold putK
 rw[List.range_succ,List.foldl_append]
 rfl
theorem UW {k:Nat}{t:Pv.Table}{j:Nat}{c1 c2:List Nat}:(∀ i,i<k->c1.getD i 0=c2.getD i 0)->putK k t j c1=putK k t j c2:=by
 induction k with
 | zero=>intro _;rfl
 | succ k ih =>
  intro h
  rw[yA,yA,ih fun i hi=>h i (by lia),h k (by lia)]
theorem jY {m n k j:Nat}{t:Pv.Table}{col:List Nat} (h:Tb m n t) (hc:R64 col):k <= m->Tb m n (putK k t j col):=by
 induction k with
 | zero=>intro _;exact h
 | succ k ih =>
  intro hk
  rw[yA]
  exact uf (ih (by lia)) (uY hc k) (by lia)
theorem J6 {k j i j':Nat}{t:Pv.Table}{col:List Nat} (h:j'≠j\/k <= i):Pv.Table.at_ (putK k t j col) i j'=Pv.Table.at_ t i j':=by
 induction k with
 | zero=>rfl
 | succ k ih =>
  rw[yA,ZC (by rcases h with h | h;exact .inr h;exact .inl (by lia)),ih (by rcases h with h | h;exact .inl h;exact .inr (by lia))]
theorem qeN {m n k j i:Nat}{t:Pv.Table}{col:List Nat} (h:Tb m n t) (hc:R64 col) (hj:j<n):k <= m->i<k->Pv.Table.at_ (putK k t j col) i j=col.getD i 0:=by
 induction k with
 | zero=>intro _ h;exact absurd h (Nat.not_lt_zero _)
 | succ k ih =>
  intro hk hi
  rw[yA]
  by_cases c:i=k
  ·rw[c,qbe (jY h hc (by lia)) (by lia) hj]
  ·rw[ZC (.inl c),ih (by lia) (by lia)]
theorem vH {α β:Type} (a:α) (f:α->Pv.Did β):((Except.ok a:Pv.Did α)>>=f)=f a:=rfl
theorem XE {j:Nat}{t:Pv.Table} (f:Nat->Nat->Pv.Did Nat):∀ m,(List.range m).foldlM (fun (y:Pv.Table) i=>(f i (Pv.Table.at_ y i j))>>=fun v=>(.ok (Pv.setAt y i j v):Pv.Did Pv.Table)) t=((List.range m).mapM fun i=>f i (Pv.Table.at_ t i j))>>=fun col=>.ok (putK m t j col):=by
 intro m
 induction m with
 | zero=>rfl
 | succ m ih =>
  rw[List.range_succ,List.foldlM_append,List.mapM_append,ih]
  cases e:(List.range m).mapM fun i=>f i (Pv.Table.at_ t i j) with
  | error z=>rfl
  | ok col =>
   have hl:col.length=m:=by rw[zJ e,List.length_range]
   simp only[vH,List.foldlM_cons,List.foldlM_nil,List.mapM_cons,List.mapM_nil,J6 (t:=t) (j:=j) (col:=col) (j':=j) (.inr (Nat.le_refl m))]
   cases f m (Pv.Table.at_ t m j) with
   | error z=>rfl
   | ok v =>
    show Except.ok (Pv.setAt (putK m t j col) m j v)=Except.ok (putK (m+1) t j (col++[v]))
    rw[yA]
    have e1:(col++[v]).getD m 0=v:=by rw[List.getD_eq_getElem?_getD,List.getElem?_append_right (by lia),hl,Nat.sub_self];rfl
    have e2:putK m t j (col++[v])=putK m t j col:=UW fun i hi=>by
     rw[List.getD_eq_getElem?_getD,List.getElem?_append_left (by lia),<- List.getD_eq_getElem?_getD]
    rw[e1,e2]
theorem XT {m n j:Nat}{t:Pv.Table}{col:List Nat} (h:Tb m n t) (hc:R64 col) (hl:col.length=m) (hj:j<n):wU m (putK m t j col) j=col:=by
 unfold wU
 conv=>rhs;rw[zy col 0,hl]
 exact List.map_congr_left fun i hi=>qeN h hc hj (Nat.le_refl m) (List.mem_range.mp hi)
theorem qau {m j j':Nat}{t:Pv.Table}{col:List Nat} (h:j'≠j):wU m (putK m t j col) j'=wU m t j':=List.map_congr_left fun i _=>J6 (.inl h)
theorem Ww (m:Nat) (a b:Pv.Table) (i j:Nat):(wU m a i).zip (wU m b j)=(List.range m).map fun k=>(Pv.Table.at_ a k i,Pv.Table.at_ b k j):=by
 unfold wU
 rw[jQ]
noncomputable abbrev spN:List Str:=["x_columns","q_columns","r"]
noncomputable abbrev spD (xc qc rt:List (List Nat)):D:=.obj "Split" spN [tD xc,tD qc,tD rt]
structure zV (μ:List Cell) (n:Nat) (xc qc rt:List (List Nat)):Prop where
 ins:μ[0]?=some (.ins "Split" spN [.c 1,.c 2,.c (3+n)])
 xs:μ[1]?=some (.lst ((xc.map rD).map vI))
 qs:μ[2]?=some (.lst ((qc.map rD).map vI))
 r:TabAt μ (3+n) 3 rt
 rl:rt.length=n
theorem Xs {μ:List Cell}{k:Nat}{t:List (List Nat)} (h:μ[k]?=some (.lst ((t.map rD).map vI))) (f:Nat):vS μ (f+1) (.c k)=some (tD t):=by
 unfold vS
 rw[h]
 show (List.mapM (vS μ f) ((t.map rD).map vI)).map D.lst=_
 rw[jG]
 rfl
theorem qax {μ:List Cell}{k:Nat}{t:List (List Nat)} (h:μ[k]?=some (.lst ((t.map rD).map vI))) (f:Nat):w8 μ (f+1) (.c k)=some (tD t):=by
 unfold w8
 rw[h]
 show (List.mapM (w8 μ f) ((t.map rD).map vI)).map D.lst=_
 rw[xm]
 rfl
section
variable {μ:List Cell}{n:Nat}{xc qc rt:List (List Nat)}
theorem zV.view (S:zV μ n xc qc rt):vS μ 3 (.c 0)=some (spD xc qc rt):=by
 unfold vS
 rw[S.ins]
 show (List.mapM (vS μ 2) [Itm.c 1,.c 2,.c (3+n)]).map (D.obj "Split" spN)=_
 rw[List.mapM_cons,List.mapM_cons,List.mapM_cons,Xs S.xs 1,Xs S.qs 1,S.r.view 0]
 rfl
theorem zV.new (S:zV μ n xc qc rt):w8 μ 3 (.c 0)=some (spD xc qc rt):=by
 unfold w8
 rw[S.ins]
 show (List.mapM (w8 μ 2) [Itm.c 1,.c 2,.c (3+n)]).map (D.obj "Split" spN)=_
 rw[List.mapM_cons,List.mapM_cons,List.mapM_cons,qax S.xs 1,qax S.qs 1,S.r.new 0]
 rfl
theorem zV.qgG (S:zV μ n xc qc rt) {i:Nat} (hi:i<n) (row:List Nat):zV (μ.set (3+i) (jh (rX row))) n xc qc (rt.set i row) :=
 ⟨by rw[List.getElem?_set_ne (by lia)];exact S.ins,by rw[List.getElem?_set_ne (by lia)];exact S.xs,by rw[List.getElem?_set_ne (by lia)];exact S.qs,S.r.set (by rw[S.rl];exact hi) row,by rw[List.length_set];exact S.rl⟩
theorem TabAt.low {μ:List Cell}{k b:Nat}{t:List (List Nat)} (T:TabAt μ k b t) {i:Nat} (hi:i<b) (hk:i≠k) (c:Cell):TabAt (μ.set i c) k b t :=
 ⟨fun j hj=>by rw[List.getElem?_set_ne (by lia)];exact T.rows j hj,by rw[List.getElem?_set_ne hk];exact T.ref,T.out⟩
theorem zV.qhD (S:zV μ n xc qc rt) (xc':List (List Nat)):zV (μ.set 1 (.lst ((xc'.map rD).map vI))) n xc' qc rt :=
 ⟨by rw[List.getElem?_set_ne (by lia)];exact S.ins,by rw[List.getElem?_set_self (List.getElem?_eq_some_iff.mp S.xs).1],by rw[List.getElem?_set_ne (by lia)];exact S.qs,S.r.low (by lia) (by lia) _,S.rl⟩
theorem zV.qhB (S:zV μ n xc qc rt) (qc':List (List Nat)):zV (μ.set 2 (.lst ((qc'.map rD).map vI))) n xc qc' rt :=
 ⟨by rw[List.getElem?_set_ne (by lia)];exact S.ins,by rw[List.getElem?_set_ne (by lia)];exact S.xs,by rw[List.getElem?_set_self (List.getElem?_eq_some_iff.mp S.qs).1],S.r.low (by lia) (by lia) _,S.rl⟩
theorem uW (S:zV μ n xc qc rt) {s:List (Option Itm)} (hs:s[0]?=some (some (.c 0))):wI "Split" "x_columns" (ieV 0) ⟨s,μ⟩ = .ok (.c 1)/\wI "Split" "q_columns" (ieV 0) ⟨s,μ⟩ = .ok (.c 2)/\wI "Split" "r" (ieV 0) ⟨s,μ⟩ = .ok (.c (3+n)):=by
 have h0:ieV 0 ⟨s,μ⟩ = .ok (.c 0):=by unfold ieV;rw[hs]
 have h1:cellAt ⟨s,μ⟩ (.c 0)=some (0,.ins "Split" spN [.c 1,.c 2,.c (3+n)]):=by
  show (μ[0]?).map _=_
  rw[S.ins]
  rfl
 unfold wI
 simp only[h0,Rs.qP,h1]
 exact⟨rfl,rfl,rfl⟩
end
theorem Xj {m:MS}{e:IE}{r:RE}{k i:Nat}{t:List (List Nat)}{kd:Kd} (h:m.μ[k]?=some (.lst ((t.map rD).map vI))) (he:e m = .ok (.c k)) (hr:r (qX m) = .ok (.int i,kd)) (hi:i<t.length):WV e r m = .ok (.v (rD (t.getD i [])) true):=by
 unfold WV
 rw[he,Rs.qP,hr,Rs.qP]
 have e1:cellAt m (.c k)=some (k,.lst ((t.map rD).map vI)):=by
  show (m.μ[k]?).map _=_
  rw[h]
  rfl
 rw[e1]
 show xJ ((yL ((t.map rD).map vI).length (i:Int)).bind fun j=>((t.map rD).map vI)[j]?)=_
 rw[List.length_map,List.length_map,uH hi]
 show xJ (((t.map rD).map vI)[i]?)=_
 rw[List.getElem?_map,z5 t i hi]
 rfl
noncomputable def z4:RM:=(Yx (VU (.one 1) (wA (vM wO (qd (qf oIx (qa 0) (rC (.int 0))) qk))) zK (qi vJ (qd (qa 0) (qd (qa 1) qk))) [1]))
noncomputable def za:Fm:=fun xs μ=>xC (z4 ⟨ms0 ["grid","j"] xs,μ⟩)
theorem W2 {m n:Nat}{a:List (List Nat)}{k:Bool}{μ:List Cell} (h:Tb m n a) (h0:0<m) (hm:m<1000000) (hn:n<1000000):za [.v (tD a) k] μ = .ok (.c μ.length) (μ++[.lst ((((List.range n).map (wU m a)).map rD).map vI)]):=by
 have hlen:(a.getD 0 []).length=n:=h.wide _ (getD_mem [] (by rw[h.len];exact h0))
 have h1:VU (.one 1) (wA (vM wO (qd (qf oIx (qa 0) (rC (.int 0))) qk))) zK (qi vJ (qd (qa 0) (qd (qa 1) qk))) [1] ⟨[some (.v (tD a) k),none],μ⟩ = .ok ((((List.range n).map (wU m a)).map rD).map vI):=by
  unfold VU
  have v0:qa 0 (vy ⟨[some (.v (tD a) k),none],μ⟩) = .ok (tD a,if k=true then .nw else .sh):=rfl
  have hs:wA (vM wO (qd (qf oIx (qa 0) (rC (.int 0))) qk)) (vy ⟨[some (.v (tD a) k),none],μ⟩) = .ok (true,(List.range n).map fun (k:Nat)=>(D.int k,.nw)):=by
   refine yD (k:=.nw) ?_ hn
   rw[xY ((qj v0 (y:=(.int ((0:Nat):Int),.nw)) rfl).trans (yF (z5 a 0 (by rw[h.len];exact h0)))),List.length_map,hlen]
  rw[hs,Rs.qP,if_pos (by show ((List.range n).map _).length<LIM;rw[List.length_map,List.length_range];show n<16777216;lia)]
  rw[V5 (l:=List.range n) (enc:=fun (k:Nat)=>(D.int k,Kd.nw)) (f:=fun j=>.ok (wU m a j)) (dec:=fun r=>(rD r,.fr)) fun j hj=>⟨[.val (tD a) k,.val (.int j) true],rfl,by
   have hj:=List.mem_range.mp hj
   rw[qR (qh (x:=(tD a,if k=true then .nw else .sh)) rfl (qh (x:=(.int j,.nw)) rfl qD))]
   show (vJ [tD a,.int j]).bind _=_
   rw[QC (by rw[h.len];show m<16777216;lia) (fun r hr=>by rw[h.wide r hr];exact hj)]
   have e:(a.map fun r=>r.getD j 0)=wU m a j:=by
    unfold wU
    conv=>lhs;rw[zy a [],h.len]
    rw[List.map_map]
    rfl
   rw[e]
   rfl⟩,uO]
  show zm (((List.range n).map (wU m a)).map fun r=>(rD r,Kd.fr))=_
  rw[ZW rD .fr (.inl rfl)]
 show xC (z4 ⟨[some (.v (tD a) k),none],μ⟩)=_
 unfold z4 Yx
 rw[h1]
 rfl
noncomputable def zM:RM:=(w9 (uF "Split" "x_columns" (ieV 0) za [(ieV 1)]) (w9 (Y9 "Split" "q_columns" (ieV 0) VP) (uF "Split" "r" (ieV 0) zw [(ye (vM wO (qd (qf oIx (qa 1) (rC (.int 0))) qk))),(ye (vM wO (qd (qf oIx (qa 1) (rC (.int 0))) qk)))])))
noncomputable def wC:Fm:=fun xs μ=>xC (zM ⟨ms0 ["self","a"] xs,μ⟩)
theorem Ws {c f:Str}{ec:IE}{g:Fm}{es:List IE}:qaL (uF c f ec g es):=fun m x μ=>Ve (fun a y ν=>by
 show (match g a m.μ with | .ok x μ=>mDo (ec ⟨m.s,μ⟩) fun y=>uQ c f ⟨m.s,μ⟩ (cellAt ⟨m.s,μ⟩ y) x μ | .er c=>.er c | .no=>.no)≠_
 cases g a m.μ with
 | ok x μ=>exact Ve (fun b z ξ=>ZK z ξ) y ν
 | er c=>intro z;cases z
 | no=>intro z;cases z) x μ
theorem Wn (xs:List Itm) (μ:List Cell) (x:Itm) (μ':List Cell) (e:wC xs μ = .ok x μ'):x = .v .non true :=
 qfR (r:=zM) (Xv Ws (Xv JL Ws)) e
theorem Zw {c f:Str}{ec:IE}{g:Fm}{es:List IE}{m:MS}{xs:List Itm}{x:Itm}{μ:List Cell}{o:wH} (h1:zv es m = .ok xs) (h2:g xs m.μ = .ok x μ) (h3:(mDo (ec ⟨m.s,μ⟩) fun y=>uQ c f ⟨m.s,μ⟩ (cellAt ⟨m.s,μ⟩ y) x μ)=o):uF c f ec g es m=o:=by
 unfold uF
 rw[h1]
 show (match g xs m.μ with | .ok x μ=>_ | .er c=>_ | .no=>_)=_
 rw[h2]
 exact h3
theorem YG {m n:Nat}{a:List (List Nat)}{k:Bool} (h:Tb m n a) (h0:0<m) (hm:m<1000000) (hn:n<1000000):∃ μ,wC [.c 0,.v (tD a) k] [.ins "Split" [] []] = .ok (.v .non true) μ/\zV μ n ((List.range n).map (wU m a)) [] (List.replicate n (List.replicate n 0)):=by
 have hlen:(a.getD 0 []).length=n:=h.wide _ (getD_mem [] (by rw[h.len];exact h0))
 generalize hX:Cell.lst ((((List.range n).map (wU m a)).map rD).map vI)=X
 have s1:uF "Split" "x_columns" (ieV 0) za [(ieV 1)] ⟨[some (.c 0),some (.v (tD a) k)],[.ins "Split" [] []]⟩ = .nx ⟨[some (.c 0),some (.v (tD a) k)],[.ins "Split" ["x_columns"] [.c 1],X]⟩:=by
  refine Zw rfl (W2 (μ:=[.ins "Split" [] []]) h h0 hm hn) ?_
  rw[hX]
  rfl
 have s2:Y9 "Split" "q_columns" (ieV 0) VP ⟨[some (.c 0),some (.v (tD a) k)],[.ins "Split" ["x_columns"] [.c 1],X]⟩ = .nx ⟨[some (.c 0),some (.v (tD a) k)],[.ins "Split" ["x_columns","q_columns"] [.c 1,.c 2],X,.lst []]⟩:=rfl
 have ln:ye (vM wO (qd (qf oIx (qa 1) (rC (.int 0))) qk)) ⟨[some (.c 0),some (.v (tD a) k)],[.ins "Split" ["x_columns","q_columns"] [.c 1,.c 2],X,.lst []]⟩ = .ok (.v (.int n) true):=by
  unfold ye
  rw[xY ((qj (x:=(tD a,if k=true then .nw else .sh)) rfl (y:=(.int ((0:Nat):Int),.nw)) rfl).trans (yF (z5 a 0 (by rw[h.len];exact h0)))),List.length_map,hlen]
  rfl
 have ar:zv [(ye (vM wO (qd (qf oIx (qa 1) (rC (.int 0))) qk))),(ye (vM wO (qd (qf oIx (qa 1) (rC (.int 0))) qk)))] ⟨[some (.c 0),some (.v (tD a) k)],[.ins "Split" ["x_columns","q_columns"] [.c 1,.c 2],X,.lst []]⟩ = .ok [.v (.int n) true,.v (.int n) true]:=by
  unfold zv
  rw[ln,Rs.qP]
  unfold zv
  rw[ln,Rs.qP]
  rfl
 have s3:uF "Split" "r" (ieV 0) zw [(ye (vM wO (qd (qf oIx (qa 1) (rC (.int 0))) qk))),(ye (vM wO (qd (qf oIx (qa 1) (rC (.int 0))) qk)))] ⟨[some (.c 0),some (.v (tD a) k)],[.ins "Split" ["x_columns","q_columns"] [.c 1,.c 2],X,.lst []]⟩ = .nx ⟨[some (.c 0),some (.v (tD a) k)],[.ins "Split" spN [.c 1,.c 2,.c (3+n)],X,.lst []]++(((List.replicate n (List.replicate n 0)).map rX).map jh++[qa5 3 ((List.replicate n (List.replicate n 0)).map rX).length])⟩:=by
  exact Zw ar (Y1 (μ:=[.ins "Split" ["x_columns","q_columns"] [.c 1,.c 2],X,.lst []]) hn hn) rfl
 refine⟨[.ins "Split" spN [.c 1,.c 2,.c (3+n)],X,.lst []]++(((List.replicate n (List.replicate n 0)).map rX).map jh++[qa5 3 ((List.replicate n (List.replicate n 0)).map rX).length]),?_,?_⟩
 ·show xC (zM ⟨[some (.c 0),some (.v (tD a) k)],[.ins "Split" [] []]⟩)=_
  unfold zM
  rw[vz s1,vz s2,s3]
  rfl
 ·have hz:=J8 n n
  refine⟨rfl,by rw[hX];rfl,rfl,⟨fun i hi=>?_,?_,.inr (by rw[hz.len];exact Nat.le_refl _)⟩,hz.len⟩
  ·rw[hz.len] at hi
   rw[List.getElem?_append_right (by show 3 <= 3+i;lia)]
   show ((((List.replicate n (List.replicate n 0)).map rX).map jh)++_)[3+i-3]?=_
   rw[Nat.add_sub_cancel_left,List.getElem?_append_left (by rw[List.length_map,List.length_map,List.length_replicate];exact hi),List.getElem?_map,List.getElem?_map,List.getElem?_eq_getElem (by rw[List.length_replicate];exact hi),List.getD_eq_getElem?_getD,List.getElem?_eq_getElem (by rw[List.length_replicate];exact hi)]
   rfl
  ·rw[List.getElem?_append_right (by show 3 <= 3+n;lia)]
   show ((((List.replicate n (List.replicate n 0)).map rX).map jh)++_)[3+n-3]?=_
   rw[Nat.add_sub_cancel_left,List.getElem?_append_right (by rw[List.length_map,List.length_map,List.length_replicate];exact Nat.le_refl _)]
   simp only[List.length_map,List.length_replicate,Nat.sub_self]
   rfl
noncomputable def yQ:RM:=(w9 (xb 2 (WV (wI "Split" "x_columns" (ieV 0)) (qa 1))) (w9 (xb 3 (ye (qi qE (qd (qa 2) (qd (qa 2) (qd (rC (.int 0)) qk)))))) (w9 (mIf (tBl (qi vL (qd (qa 3) qk))) (Js "NotAsTold") qcd) (w9 (xb 4 (ye (qi uE (qd (qa 3) qk)))) (w9 (wZ (WV (wI "Split" "r" (ieV 0)) (qa 1)) (qa 1) (ieV 4)) (y4 (wI "Split" "q_columns" (ieV 0)) (ye (zx (.one 5) (iOf (qa 2)) zK (qi vm (qd (qa 5) (qd (qa 4) qk))) [5]))))))))
noncomputable def wo:Fm:=fun xs μ=>xC (yQ ⟨ms0 ["split","k","column","s","length","x"] xs,μ⟩)
noncomputable def QV (col:List Nat):Pv.Did (Nat × List Nat):=(Pv.chain 0 (col.zip col))>>=fun t=>if Pv.mag t=0 then .error (-4) else (Pv.step (Pv.sqrt t))>>=fun d=>(col.mapM fun x=>Pv.step (Pv.div x d))>>=fun q=>.ok (d,q)
theorem qa0 {δ:Dl}{i g:Nat}{k:Kd} (h:qa i δ = .ok (.int g,k)) (hg:g<2^64):tBl (qi vL (qd (qa i) qk)) δ = .ok (decide (Pv.mag g=0)):=by
 refine zf (k:=.nw) ((wg h (Ql (wt hg))).trans ?_)
 show Rs.ok (D.bl (decide ((g:Int)%9223372036854775808=0)),Kd.nw)=_
 have:((g:Int)%9223372036854775808=0)↔Pv.mag g=0:=by rw[Dm.zD];unfold Dm.sz;lia
 rw[decide_eq_decide.mpr this]
theorem yp {a b:RM}{m:MS}{z:Int} (h:a m=zQ z):xC (w9 a b m)=Je z:=by rw[xB h,Vu]
theorem Wl {i:Nat}{e:IE}{m:MS}{z:Int} (h:e m=erz z):xb i e m=zQ z:=by
 unfold xb
 rw[h]
 unfold erz zQ
 split <;> rfl
theorem u0 {i:Nat}{e:IE}{m:MS}{x:Itm} (h:e m = .ok x):xb i e m = .nx ⟨m.s.set i (some x),m.μ⟩:=by
 unfold xb
 rw[h]
 rfl
theorem XF {n k:Nat}{kk:Bool}{μ:List Cell}{xc qc rt:List (List Nat)} (S:zV μ n xc qc rt) (hr:Tb n n rt) (hk:k<n) (hx:xc.length=n) (h64:T64 xc) (hl:∀ c∈xc,c.length<1000000) (hq:qc.length<1000000) :
  (∀ dq,QV (xc.getD k []) = .ok dq->∃ μ',wo [.c 0,.v (.int k) kk] μ = .ok (.v .non true) μ'/\zV μ' n xc (qc++[dq.2]) (Pv.setAt rt k k dq.1))/\(∀ z,QV (xc.getD k []) = .error z->wo [.c 0,.v (.int k) kk] μ=Je z):=by
 have hm:=getD_mem (l:=xc) (i:=k) [] (by rw[hx];exact hk)
 generalize hC:xc.getD k []=col at hm ⊢
 have c64:=h64 col hm
 have cl:=hl col hm
 have key:∀ s:List (Option Itm),s=[some (.c 0),some (.v (.int k) kk),none,none,none,none]->wo [.c 0,.v (.int k) kk] μ=xC (yQ ⟨s,μ⟩):=fun s e=>by rw[e];rfl
 rw[key _ rfl]
 unfold yQ
 have v1:∀ u2 u3 u4 μ',qa 1 (qX ⟨[some (.c 0),some (.v (.int k) kk),u2,u3,u4,none],μ'⟩) = .ok (.int k,.sh):=fun _ _ _ _=>yu (k:=kk) rfl
 have s1:xb 2 (WV (wI "Split" "x_columns" (ieV 0)) (qa 1)) ⟨[some (.c 0),some (.v (.int k) kk),none,none,none,none],μ⟩ = .nx ⟨[some (.c 0),some (.v (.int k) kk),some (.v (rD col) true),none,none,none],μ⟩:=by
  have:=Xj (m:=⟨[some (.c 0),some (.v (.int k) kk),none,none,none,none],μ⟩) S.xs (uW S rfl).1 (v1 _ _ _ _) (by rw[hx];exact hk)
  rw[hC] at this
  exact u0 this
 rw[vz s1]
 have c1:qi qE (qd (qa 2) (qd (qa 2) (qd (rC (.int 0)) qk))) (vy ⟨[some (.c 0),some (.v (.int k) kk),some (.v (rD col) true),none,none,none],μ⟩)=dK (fun (n:Nat)=>(D.int n,.nw)) (Pv.chain 0 (col.zip col)):=by
  refine yy (f:=fun (n:Nat)=>(D.int n,false)) (qh (x:=(rD col,.nw)) rfl (qh (x:=(rD col,.nw)) rfl (qh (x:=(.int ((0:Nat):Int),.nw)) rfl qD))) ?_
  show qE [rD col,rD col,.int ((0:Nat):Int)]=_
  rw[xg (by decide) c64 c64,Jm (fun z hz=>yC hz)]
 have c2:=Ym (y:=fun (n:Nat)=>Itm.v (.int n) true) c1 fun a _=>rfl
 unfold QV
 cases x1:Pv.chain 0 (col.zip col) with
 | error z =>
  rw[x1] at c2
  exact⟨fun dq e=>(by cases e),fun z' e=>(by cases e;exact yp (Wl c2))⟩
 | ok t =>
 rw[x1] at c2
 have ht:t<2^64:=xo (by decide) x1
 have htf:=Ub (by decide) x1
 rw[vz (show xb 3 _ _ = .nx ⟨[some (.c 0),some (.v (.int k) kk),some (.v (rD col) true),some (.v (.int t) true),none,none],μ⟩ from u0 c2)]
 have t1:=qa0 (δ:=qX ⟨[some (.c 0),some (.v (.int k) kk),some (.v (rD col) true),some (.v (.int t) true),none,none],μ⟩) (i:=3) (g:=t) (k:=.sh) rfl ht
 rw[vH]
 by_cases c:Pv.mag t=0
 ·rw[if_pos c]
  rw[decide_eq_true c] at t1
  refine⟨fun dq e=>(by cases e),fun z e=>?_⟩
  cases e
  exact yp ((qgM t1).trans rfl)
 ·rw[if_neg c]
  rw[decide_eq_false c] at t1
  rw[vz (show mIf (tBl (qi vL (qd (qa 3) qk))) (Js "NotAsTold") qcd ⟨[some (.c 0),some (.v (.int k) kk),some (.v (rD col) true),some (.v (.int t) true),none,none],μ⟩ = .nx ⟨[some (.c 0),some (.v (.int k) kk),some (.v (rD col) true),some (.v (.int t) true),none,none],μ⟩ from (qgX t1).trans rfl)]
  have c3:qi uE (qd (qa 3) qk) (vy ⟨[some (.c 0),some (.v (.int k) kk),some (.v (rD col) true),some (.v (.int t) true),none,none],μ⟩)=dK (fun (n:Nat)=>(D.int n,.nw)) (Pv.step (Pv.sqrt t)):=by
   refine yy (f:=fun (n:Nat)=>(D.int n,false)) (qh (x:=(.int t,.nw)) rfl qD) ?_
   show uE [.int t]=_
   rw[qfW (qft ht htf),Int.toNat_natCast,Vb]
  have c4:=Ym (y:=fun (n:Nat)=>Itm.v (.int n) true) c3 fun a _=>rfl
  cases x2:Pv.step (Pv.sqrt t) with
  | error z =>
   rw[x2] at c4
   exact⟨fun dq e=>(by cases e),fun z' e=>(by cases e;exact yp (Wl c4))⟩
  | ok d =>
  rw[x2] at c4
  have hd:d<2^64:=by
   cases ed:Pv.sqrt t with
   | none=>rw[ed] at x2;cases x2
   | some r=>rw[ed] at x2;cases x2;exact qaw ht ed
  rw[vz (show xb 4 _ _ = .nx ⟨[some (.c 0),some (.v (.int k) kk),some (.v (rD col) true),some (.v (.int t) true),some (.v (.int d) true),none],μ⟩ from u0 c4)]
  have hkl:k<rt.length:=by rw[S.rl];exact hk
  have s5:=V2 (m:=⟨[some (.c 0),some (.v (.int k) kk),some (.v (rD col) true),some (.v (.int t) true),some (.v (.int d) true),none],μ⟩) (ev:=ieV 4) (ri:=qa 1) S.r (Um (e:=wI "Split" "r" (ieV 0)) (r:=qa 1) S.r (uW S rfl).2.2 (v1 _ _ _ _) hkl) hkl (v1 _ _ _ _) (by rw[hr.wide _ (getD_mem [] hkl)];exact hk) rfl
  rw[vz s5]
  have S2:zV (μ.set (3+k) (jh (rX ((rt.getD k []).set k d)))) n xc qc (Pv.setAt rt k k d):=S.qgG hk _
  generalize (μ.set (3+k) (jh (rX ((rt.getD k []).set k d))))=μ2 at S2 ⊢
  have c5:=uv (tg:=.one 5) (src:=iOf (qa 2)) (r:=qi vm (qd (qa 5) (qd (qa 4) qk))) (vs:=[5]) (δ:=vy ⟨[some (.c 0),some (.v (.int k) kk),some (.v (rD col) true),some (.v (.int t) true),some (.v (.int d) true),none],μ2⟩) (b:=true) (enc:=fun (n:Nat)=>(D.int n,.nw)) (k:=.nw) (f:=fun x=>Pv.step (Pv.div x d)) (l:=col) (by
    show Rs.ok (true,(col.map fun (n:Nat)=>D.int n).map fun d=>(d,Kd.nw))=_
    rw[List.map_map]
    rfl) (by show col.length<16777216;lia) (fun x hx=>⟨[.un,.val (.int k) kk,.val (rD col) true,.val (.int t) true,.val (.int d) true,.val (.int x) true],rfl,by
     refine yy (f:=fun (n:Nat)=>(D.int n,false)) (qh (x:=(.int x,.nw)) rfl (qh (x:=(.int d,.nw)) rfl qD)) ?_
     show vm [.int x,.int d]=_
     rw[V1 (wt (c64 x hx)) (wt hd),Int.toNat_natCast,Int.toNat_natCast,Vb]⟩)
  have c6:=Ym (y:=fun l=>Itm.v (rD l) true) c5 fun a _=>rfl
  have ap:∀ o,(mDo (ye (zx (.one 5) (iOf (qa 2)) zK (qi vm (qd (qa 5) (qd (qa 4) qk))) [5]) ⟨[some (.c 0),some (.v (.int k) kk),some (.v (rD col) true),some (.v (.int t) true),some (.v (.int d) true),none],μ2⟩) fun x=>qap ⟨[some (.c 0),some (.v (.int k) kk),some (.v (rD col) true),some (.v (.int t) true),some (.v (.int d) true),none],μ2⟩ (some (2,.lst ((qc.map rD).map vI))) x)=o->y4 (wI "Split" "q_columns" (ieV 0)) (ye (zx (.one 5) (iOf (qa 2)) zK (qi vm (qd (qa 5) (qd (qa 4) qk))) [5])) ⟨[some (.c 0),some (.v (.int k) kk),some (.v (rD col) true),some (.v (.int t) true),some (.v (.int d) true),none],μ2⟩=o:=fun o e=>by
   unfold y4
   rw[(uW S2 rfl).2.1]
   have:cellAt ⟨[some (.c 0),some (.v (.int k) kk),some (.v (rD col) true),some (.v (.int t) true),some (.v (.int d) true),none],μ2⟩ (.c 2)=some (2,.lst ((qc.map rD).map vI)):=by
    show (μ2[2]?).map _=_
    rw[S2.qs]
    rfl
   unfold mDo
   dsimp only
   rw[this]
   exact e
  rw[vH]
  cases x3:col.mapM fun x=>Pv.step (Pv.div x d) with
  | error z =>
   rw[x3] at c6
   refine⟨fun dq e=>(by cases e),fun z' e=>?_⟩
   cases e
   rw[ap (zQ z) (by rw[c6];exact Jh (f:=fun l=>Itm.v (rD l) true) (x:=.error z)),Vu]
  | ok q =>
   rw[x3] at c6
   refine⟨fun dq e=>?_,fun z' e=>(by cases e)⟩
   cases e
   refine⟨μ2.set 2 (.lst (((qc++[q]).map rD).map vI)),?_,S2.qhB _⟩
   rw[ap (.nx ⟨_,μ2.set 2 (.lst (((qc++[q]).map rD).map vI))⟩) (by
    rw[c6]
    show (if ((qc.map rD).map vI).length<LIM then wH.nx ⟨_,μ2.set 2 (.lst (((qc.map rD).map vI)++[Itm.v (rD q) true]))⟩ else .no)=_
    rw[if_pos (by rw[List.length_map,List.length_map];show _<16777216;lia),List.map_append,List.map_append]
    rfl)]
   rfl
noncomputable def wz:RM:=(w9 (xb 3 (WV (wI "Split" "q_columns" (ieV 0)) (qa 1))) (w9 (xb 4 (jj (qi qE (qd (qa 3) (qd (qf oIx (rUn (yh "Split" "x_columns") (qa 0)) (qa 2)) (qd (rC (.int 0)) qk)))))) (w9 (wZ (WV (wI "Split" "r" (ieV 0)) (qa 1)) (qa 2) (ieV 4)) (wZ (wI "Split" "x_columns" (ieV 0)) (qa 2) (jj (qi qY (qd (qf oIx (rUn (yh "Split" "x_columns") (qa 0)) (qa 2)) (qd (qa 4) (qd (qa 3) qk)))))))))
noncomputable def qM:Fm:=fun xs μ=>xC (wz ⟨ms0 ["split","k","j","q_column","s"] xs,μ⟩)
noncomputable def tfc (qcol xcol:List Nat):Pv.Did (Nat × List Nat):=(Pv.chain 0 (qcol.zip xcol))>>=fun t=>((xcol.zip qcol).mapM fun p=>Pv.F (Pv.minus t) p.2 p.1)>>=fun x=>.ok (t,x)
theorem qfB {n k j:Nat}{k1 k2:Bool}{μ:List Cell}{xc qc rt:List (List Nat)} (S:zV μ n xc qc rt) (hr:Tb n n rt) (hk:k<n) (hj:j<n) (hkq:k<qc.length) (hx:xc.length=n) (h64:T64 xc) (q64:T64 qc) (hl:∀ c∈xc,c.length<1000000) :
  (∀ tx,tfc (qc.getD k []) (xc.getD j []) = .ok tx->∃ μ',qM [.c 0,.v (.int k) k1,.v (.int j) k2] μ = .ok (.v .non true) μ'/\zV μ' n (xc.set j tx.2) qc (Pv.setAt rt k j tx.1))/\(∀ z,tfc (qc.getD k []) (xc.getD j []) = .error z->qM [.c 0,.v (.int k) k1,.v (.int j) k2] μ=Je z):=by
 have hjl:j<xc.length:=by rw[hx];exact hj
 have hmx:=getD_mem (l:=xc) (i:=j) [] hjl
 have hmq:=getD_mem (l:=qc) (i:=k) [] hkq
 generalize hXC:xc.getD j []=xcol at hmx ⊢
 generalize hQC:qc.getD k []=qcol at hmq ⊢
 have x64:=h64 xcol hmx
 have qq64:=q64 qcol hmq
 have xl:=hl xcol hmx
 have key:∀ s:List (Option Itm),s=[some (.c 0),some (.v (.int k) k1),some (.v (.int j) k2),none,none]->qM [.c 0,.v (.int k) k1,.v (.int j) k2] μ=xC (wz ⟨s,μ⟩):=fun s e=>by rw[e];rfl
 rw[key _ rfl]
 unfold wz
 have v1:∀ u3 u4 μ',qa 1 (qX ⟨[some (.c 0),some (.v (.int k) k1),some (.v (.int j) k2),u3,u4],μ'⟩) = .ok (.int k,.sh):=fun _ _ _=>yu (k:=k1) rfl
 have v2:∀ u3 u4 μ',qa 2 (qX ⟨[some (.c 0),some (.v (.int k) k1),some (.v (.int j) k2),u3,u4],μ'⟩) = .ok (.int j,.sh):=fun _ _ _=>yu (k:=k2) rfl
 have xcv:∀ {u3 u4 μ' rt'},zV μ' n xc qc rt'->qf oIx (rUn (yh "Split" "x_columns") (qa 0)) (qa 2) (qX ⟨[some (.c 0),some (.v (.int k) k1),some (.v (.int j) k2),u3,u4],μ'⟩) = .ok (rD xcol,.sh):=fun {u3 u4 μ' rt'} S'=>by
  have v0:qa 0 (qX ⟨[some (.c 0),some (.v (.int k) k1),some (.v (.int j) k2),u3,u4],μ'⟩) = .ok (spD xc qc rt',.sh):=zq (x:=.c 0) rfl S'.view
  rw[<- hXC]
  exact (qj (x:=(tD xc,.sh)) ((uo v0).trans rfl) (v2 _ _ _)).trans (yF (z5 xc j hjl))
 have s1:xb 3 (WV (wI "Split" "q_columns" (ieV 0)) (qa 1)) ⟨[some (.c 0),some (.v (.int k) k1),some (.v (.int j) k2),none,none],μ⟩ = .nx ⟨[some (.c 0),some (.v (.int k) k1),some (.v (.int j) k2),some (.v (rD qcol) true),none],μ⟩:=by
  have:=Xj (m:=⟨[some (.c 0),some (.v (.int k) k1),some (.v (.int j) k2),none,none],μ⟩) S.qs (uW S rfl).2.1 (v1 _ _ _) hkq
  rw[hQC] at this
  exact u0 this
 rw[vz s1]
 have c1:qi qE (qd (qa 3) (qd (qf oIx (rUn (yh "Split" "x_columns") (qa 0)) (qa 2)) (qd (rC (.int 0)) qk))) (qX ⟨[some (.c 0),some (.v (.int k) k1),some (.v (.int j) k2),some (.v (rD qcol) true),none],μ⟩)=dK (fun (n:Nat)=>(D.int n,.nw)) (Pv.chain 0 (qcol.zip xcol)):=by
  refine yy (f:=fun (n:Nat)=>(D.int n,false)) (qh (x:=(rD qcol,.sh)) rfl (qh (xcv S) (qh (x:=(.int ((0:Nat):Int),.nw)) rfl qD))) ?_
  show qE [rD qcol,rD xcol,.int ((0:Nat):Int)]=_
  rw[xg (by decide) qq64 x64,Jm (fun z hz=>yC hz)]
 have c2:=Y4 (y:=fun (n:Nat)=>Itm.v (.int n) true) c1 fun a _=>rfl
 unfold tfc
 cases x1:Pv.chain 0 (qcol.zip xcol) with
 | error z =>
  rw[x1] at c2
  exact⟨fun dq e=>(by cases e),fun z' e=>(by cases e;exact yp (Wl c2))⟩
 | ok t =>
 rw[x1] at c2
 have ht:t<2^64:=xo (by decide) x1
 rw[vz (show xb 4 _ _ = .nx ⟨[some (.c 0),some (.v (.int k) k1),some (.v (.int j) k2),some (.v (rD qcol) true),some (.v (.int t) true)],μ⟩ from u0 c2)]
 have hkl:k<rt.length:=by rw[S.rl];exact hk
 have s5:=V2 (m:=⟨[some (.c 0),some (.v (.int k) k1),some (.v (.int j) k2),some (.v (rD qcol) true),some (.v (.int t) true)],μ⟩) (ev:=ieV 4) (ri:=qa 2) S.r (Um (e:=wI "Split" "r" (ieV 0)) (r:=qa 1) S.r (uW S rfl).2.2 (v1 _ _ _) hkl) hkl (v2 _ _ _) (by rw[hr.wide _ (getD_mem [] hkl)];exact hj) rfl
 rw[vz s5]
 have S2:zV (μ.set (3+k) (jh (rX ((rt.getD k []).set j t)))) n xc qc (Pv.setAt rt k j t):=S.qgG hk _
 generalize (μ.set (3+k) (jh (rX ((rt.getD k []).set j t))))=μ2 at S2 ⊢
 have c5:qi qY (qd (qf oIx (rUn (yh "Split" "x_columns") (qa 0)) (qa 2)) (qd (qa 4) (qd (qa 3) qk))) (qX ⟨[some (.c 0),some (.v (.int k) k1),some (.v (.int j) k2),some (.v (rD qcol) true),some (.v (.int t) true)],μ2⟩)=dK (fun l=>(rD l,.fr)) ((xcol.zip qcol).mapM fun p=>Pv.F (Pv.minus t) p.2 p.1):=yy (f:=fun l=>(rD l,true)) (qh (xcv S2) (qh (x:=(.int t,.sh)) rfl (qh (x:=(rD qcol,.sh)) rfl qD))) (jZ x64 qq64 ht (by show _<16777216;lia))
 have c6:=Y4 (y:=fun l=>Itm.v (rD l) true) c5 fun a _=>rfl
 rw[vH]
 cases x3:(xcol.zip qcol).mapM fun p=>Pv.F (Pv.minus t) p.2 p.1 with
 | error z =>
  rw[x3] at c6
  refine⟨fun dq e=>(by cases e),fun z' e=>?_⟩
  cases e
  have:wZ (wI "Split" "x_columns" (ieV 0)) (qa 2) (jj (qi qY (qd (qf oIx (rUn (yh "Split" "x_columns") (qa 0)) (qa 2)) (qd (qa 4) (qd (qa 3) qk))))) ⟨[some (.c 0),some (.v (.int k) k1),some (.v (.int j) k2),some (.v (rD qcol) true),some (.v (.int t) true)],μ2⟩=zQ z:=by
   unfold wZ
   rw[c6]
   exact Jh (f:=fun l=>Itm.v (rD l) true) (x:=.error z)
  rw[this,Vu]
 | ok x =>
  rw[x3] at c6
  refine⟨fun dq e=>?_,fun z' e=>(by cases e)⟩
  cases e
  refine⟨μ2.set 1 (.lst (((xc.set j x).map rD).map vI)),?_,S2.qhD _⟩
  have:wZ (wI "Split" "x_columns" (ieV 0)) (qa 2) (jj (qi qY (qd (qf oIx (rUn (yh "Split" "x_columns") (qa 0)) (qa 2)) (qd (qa 4) (qd (qa 3) qk))))) ⟨[some (.c 0),some (.v (.int k) k1),some (.v (.int j) k2),some (.v (rD qcol) true),some (.v (.int t) true)],μ2⟩ = .nx ⟨[some (.c 0),some (.v (.int k) k1),some (.v (.int j) k2),some (.v (rD qcol) true),some (.v (.int t) true)],μ2.set 1 (.lst (((xc.set j x).map rD).map vI))⟩:=by
   unfold wZ
   rw[c6,(uW S2 rfl).1,v2]
   show setCell ⟨_,μ2⟩ (cellAt ⟨[some (.c 0),some (.v (.int k) k1),some (.v (.int j) k2),some (.v (rD qcol) true),some (.v (.int t) true)],μ2⟩ (.c 1)) (.int j) (.v (rD x) true)=_
   have e1:cellAt ⟨[some (.c 0),some (.v (.int k) k1),some (.v (.int j) k2),some (.v (rD qcol) true),some (.v (.int t) true)],μ2⟩ (.c 1)=some (1,.lst ((xc.map rD).map vI)):=by
    show (μ2[1]?).map _=_
    rw[S2.xs]
    rfl
   rw[e1]
   show (match yL ((xc.map rD).map vI).length (j:Int) with | some j'=>wH.nx ⟨_,μ2.set 1 (.lst (((xc.map rD).map vI).set j' (.v (rD x) true)))⟩ | none=>.no)=_
   rw[List.length_map,List.length_map,uH hjl]
   show wH.nx ⟨_,μ2.set 1 (.lst (((xc.map rD).map vI).set j (vI (rD x))))⟩=_
   rw[<- List.map_set,<- List.map_set]
  rw[this]
  rfl
theorem jT {β S:Type}{tg:Tg}{body:RM}{enc:β->DK}{f:S->β->Pv.Did S}{J:Nat->S->MS->Prop}:∀ {l:List β} (k:Nat),(∀ i b,l[i]?=some b->∀ s m,J (k+i) s m->∃ m1,tg.Qq (enc b) m=some m1/\(∀ s',f s b = .ok s'->∃ m2,body m1 = .nx m2/\J (k+i+1) s' m2)/\(∀ z,f s b = .error z->body m1=zQ z)) ->
  ∀ s m,J k s m->(∀ s',l.foldlM f s = .ok s'->∃ m',wk tg body (l.map enc) m = .nx m'/\J (k+l.length) s' m')/\(∀ z,l.foldlM f s = .error z->wk tg body (l.map enc) m=zQ z)
 | [],k,_,s,m,j=>⟨fun s' e=>(by cases e;exact⟨m,rfl,j⟩),fun z e=>(by cases e)⟩
 | b::l,k,ok,s,m,j=>by
  obtain⟨m1,hp,h1,h2⟩:=ok 0 b rfl s m j
  rw[List.foldlM_cons,yW hp]
  cases e:f s b with
  | error z =>
   rw[h2 z e,Qx]
   exact⟨fun s' q=>(by cases q),fun z' q=>(by cases q;rfl)⟩
  | ok s1 =>
   obtain⟨m2,hb,j2⟩:=h1 s1 e
   rw[hb]
   have:=jT (l:=l) (k+1) (fun i b q s m j=>by
    rw[Nat.add_right_comm] at j
    have:=ok (i+1) b (by simpa using q) s m j
    rw[Nat.add_right_comm k 1 i]
    exact this) s1 m2 j2
   rw[List.length_cons,Nat.add_comm l.length 1,<- Nat.add_assoc]
   exact this
theorem V8 (m k:Nat) (s:Pv.Qr) (j:Nat):Pv.qrOther m k s j=(tfc (wU m s.q k) (wU m s.x j))>>=fun tx=>.ok ⟨putK m s.x j tx.2,s.q,Pv.setAt s.r k j tx.1⟩:=by
 have h:Pv.qrOther m k s j=(Pv.chain Pv.ZERO ((List.range m).map fun i=>(s.q.at_ i k,s.x.at_ i j)))>>=fun t=>((List.range m).foldlM (fun (y:Pv.Table) i=>(Pv.F (Pv.minus t) (s.q.at_ i k) (y.at_ i j))>>=fun v=>(.ok (Pv.setAt y i j v):Pv.Did Pv.Table)) s.x)>>=fun x=>.ok ⟨x,s.q,Pv.setAt s.r k j t⟩:=rfl
 rw[h]
 unfold tfc
 rw[Ww,Ww]
 show ((Pv.chain 0 _)>>=_)=_
 cases Pv.chain 0 ((List.range m).map fun i=>(s.q.at_ i k,s.x.at_ i j)) with
 | error z=>rfl
 | ok t =>
  simp only[vH]
  rw[XE (fun i v=>Pv.F (Pv.minus t) (s.q.at_ i k) v),List.mapM_map]
  show (((List.range m).mapM fun i=>Pv.F (Pv.minus t) (s.q.at_ i k) (s.x.at_ i j))>>=_)>>=_=(((List.range m).mapM fun i=>Pv.F (Pv.minus t) (s.q.at_ i k) (s.x.at_ i j))>>=_)>>=_
  cases (List.range m).mapM fun i=>Pv.F (Pv.minus t) (s.q.at_ i k) (s.x.at_ i j) with
  | error z=>rfl
  | ok col=>rfl
theorem Wi (m n:Nat) (s:Pv.Qr) (k:Nat):Pv.qrStep m n s k=(QV (wU m s.x k))>>=fun dq=>(Pv.span (k+1) n).foldlM (Pv.qrOther m k) ⟨s.x,putK m s.q k dq.2,Pv.setAt s.r k k dq.1⟩:=by
 have h:Pv.qrStep m n s k=(Pv.chain Pv.ZERO ((List.range m).map fun i=>(s.x.at_ i k,s.x.at_ i k)))>>=fun t=>if Pv.mag t=0 then .error (-4) else (Pv.step (Pv.sqrt t))>>=fun d=>((List.range m).foldlM (fun (y:Pv.Table) i=>(Pv.step (Pv.div (s.x.at_ i k) d))>>=fun v=>(.ok (Pv.setAt y i k v):Pv.Did Pv.Table)) s.q)>>=fun q=>(Pv.span (k+1) n).foldlM (Pv.qrOther m k) ⟨s.x,q,Pv.setAt s.r k k d⟩:=rfl
 rw[h]
 unfold QV
 rw[Ww]
 show ((Pv.chain 0 _)>>=_)=_
 cases Pv.chain 0 ((List.range m).map fun i=>(s.x.at_ i k,s.x.at_ i k)) with
 | error z=>rfl
 | ok t =>
  simp only[vH]
  by_cases c:Pv.mag t=0
  ·rw[if_pos c,if_pos c]
   rfl
  ·rw[if_neg c,if_neg c]
   cases Pv.step (Pv.sqrt t) with
   | error z=>rfl
   | ok d =>
    simp only[vH]
    rw[XE (fun i _=>Pv.step (Pv.div (s.x.at_ i k) d))]
    unfold wU
    rw[List.mapM_map]
    show (((List.range m).mapM fun i=>Pv.step (Pv.div (s.x.at_ i k) d))>>=_)>>=_=(((List.range m).mapM fun i=>Pv.step (Pv.div (s.x.at_ i k) d))>>=_)>>=_
    cases (List.range m).mapM fun i=>Pv.step (Pv.div (s.x.at_ i k) d) with
    | error z=>rfl
    | ok col=>rfl
theorem qaq {col:List Nat}{dq:Nat × List Nat} (h:QV col = .ok dq):dq.1<2^64/\R64 dq.2/\dq.2.length=col.length:=by
 unfold QV at h
 cases x1:Pv.chain 0 (col.zip col) with
 | error z=>rw[x1] at h;cases h
 | ok t =>
  rw[x1,vH] at h
  split at h
  ·cases h
  ·cases x2:Pv.sqrt t with
   | none=>rw[x2] at h;cases h
   | some d =>
    rw[x2] at h
    have h:((col.mapM fun x=>Pv.step (Pv.div x d))>>=fun q=>(.ok (d,q):Pv.Did (Nat × List Nat))) = .ok dq:=h
    cases x3:col.mapM fun x=>Pv.step (Pv.div x d) with
    | error z=>rw[x3] at h;cases h
    | ok q =>
     rw[x3] at h
     cases h
     refine⟨qaw (xo (by decide) x1) x2,fun v hv=>?_,zJ x3⟩
     obtain⟨x,_,e⟩:=yc x3 v hv
     cases ed:Pv.div x d with
     | none=>rw[ed] at e;cases e
     | some r=>rw[ed] at e;cases e;exact qdl ed
theorem qcp {col:List Nat}{z:Int} (h:QV col = .error z):z = -3\/z = -4:=by
 unfold QV at h
 cases x1:Pv.chain 0 (col.zip col) with
 | error y=>rw[x1] at h;cases h;exact .inl (yC x1)
 | ok t =>
  rw[x1,vH] at h
  split at h
  ·cases h;exact .inr rfl
  ·cases x2:Pv.step (Pv.sqrt t) with
   | error y=>rw[x2] at h;cases h;exact .inl (ue x2)
   | ok d =>
    rw[x2,vH] at h
    cases x3:col.mapM fun x=>Pv.step (Pv.div x d) with
    | error y=>rw[x3] at h;cases h;obtain⟨x,_,e⟩:=yE x3;exact .inl (ue e)
    | ok q=>rw[x3] at h;cases h
theorem qc5 {q x:List Nat}{tx:Nat × List Nat} (h:tfc q x = .ok tx):tx.1<2^64/\R64 tx.2/\tx.2.length=(x.zip q).length:=by
 unfold tfc at h
 cases x1:Pv.chain 0 (q.zip x) with
 | error z=>rw[x1] at h;cases h
 | ok t =>
  rw[x1,vH] at h
  cases x3:(x.zip q).mapM fun p=>Pv.F (Pv.minus t) p.2 p.1 with
  | error z=>rw[x3] at h;cases h
  | ok c =>
   rw[x3] at h
   cases h
   refine⟨xo (by decide) x1,fun v hv=>?_,zJ x3⟩
   obtain⟨p,_,e⟩:=yc x3 v hv
   exact qg0 e
theorem qdy {q x:List Nat}{z:Int} (h:tfc q x = .error z):z = -3:=by
 unfold tfc at h
 cases x1:Pv.chain 0 (q.zip x) with
 | error y=>rw[x1] at h;cases h;exact yC x1
 | ok t =>
  rw[x1,vH] at h
  cases x3:(x.zip q).mapM fun p=>Pv.F (Pv.minus t) p.2 p.1 with
  | error y=>rw[x3] at h;cases h;obtain⟨p,_,e⟩:=yE x3;exact qfa e
  | ok c=>rw[x3] at h;cases h
structure W7 (m n:Nat) (s:Pv.Qr):Prop where
 x:Tb m n s.x
 q:Tb m n s.q
 r:Tb n n s.r
theorem qcq {m n k j:Nat}{s s':Pv.Qr} (h:W7 m n s) (hk:k<n) (hj:j<n) (e:Pv.qrOther m k s j = .ok s'):W7 m n s'/\s'.q=s.q:=by
 rw[V8] at e
 cases x1:tfc (wU m s.q k) (wU m s.x j) with
 | error z=>rw[x1] at e;cases e
 | ok tx =>
  rw[x1] at e
  cases e
  obtain⟨t1,t2,t3⟩:=qc5 x1
  exact⟨⟨jY h.x t2 (Nat.le_refl m),h.q,uf h.r t1 hk⟩,rfl⟩
theorem qcK {m n k:Nat}{s s':Pv.Qr} (h:W7 m n s) (hk:k<n) (e:Pv.qrStep m n s k = .ok s'):W7 m n s':=by
 rw[Wi] at e
 cases x1:QV (wU m s.x k) with
 | error z=>rw[x1] at e;cases e
 | ok dq =>
  rw[x1,vH] at e
  obtain⟨t1,t2,t3⟩:=qaq x1
  exact Wy (P:=W7 m n) (s:=⟨s.x,putK m s.q k dq.2,Pv.setAt s.r k k dq.1⟩) (fun s b s' hb hs e=>(qcq hs hk (Wu hb).2 e).1) ⟨h.x,jY h.q t2 (Nat.le_refl m),uf h.r t1 hk⟩ e
theorem qbO {m n:Nat}{a:Pv.Table}{s:Pv.Qr} (h:Tb m n a) (e:Pv.qr m n a = .ok s):W7 m n s :=
 Wy (l:=List.range n) (P:=W7 m n) (fun s b s' hb hs e=>qcK hs (List.mem_range.mp hb) e) ⟨h,Uj fun _ _=>by decide,Uj fun _ _=>by decide⟩ e
theorem qfZ {m n:Nat}{a:Pv.Table}{z:Int} (e:Pv.qr m n a = .error z):z = -3\/z = -4:=by
 refine YW (l:=List.range n) (f:=Pv.qrStep m n) (P:=fun z=>z = -3\/z = -4) (fun s k z e=>?_) e
 rw[Wi] at e
 cases x1:QV (wU m s.x k) with
 | error y=>rw[x1] at e;cases e;exact qcp x1
 | ok dq =>
  rw[x1,vH] at e
  refine .inl (YW (P:=fun z=>z = -3) (fun s j z e=>?_) e)
  rw[V8] at e
  cases x2:tfc (wU m s.q k) (wU m s.x j) with
  | error y=>rw[x2] at e;cases e;exact qdy x2
  | ok tx=>rw[x2] at e;cases e
noncomputable abbrev cols (m n:Nat) (t:Pv.Table):List (List Nat):=(List.range n).map (wU m t)
theorem u7 {m n j:Nat} (t:Pv.Table) (hj:j<n):(cols m n t).getD j []=wU m t j:=by
 rw[map_getD 0 [] (by rw[List.length_range];exact hj),range_getD hj]
theorem Vf {m n k:Nat}{t:Pv.Table} (h:Tb m n t):T64 (cols m k t):=fun c hc=>by
 obtain⟨j,_,rfl⟩:=List.mem_map.mp hc
 exact qeo h j
theorem Wz {m n:Nat}{t:Pv.Table}:∀ c∈cols m n t,c.length=m:=fun c hc=>by
 obtain⟨j,_,rfl⟩:=List.mem_map.mp hc
 exact jX m t j
theorem qcr {m n j:Nat}{t:Pv.Table}{col:List Nat} (h:Tb m n t) (hc:R64 col) (hl:col.length=m) (hj:j<n):(cols m n t).set j col=cols m n (putK m t j col):=by
 refine List.ext_getElem (by rw[List.length_set,List.length_map,List.length_map]) fun i h1 h2=>?_
 rw[List.length_set,List.length_map,List.length_range] at h1
 have e2:(cols m n (putK m t j col))[i]=wU m (putK m t j col) i:=by
  unfold cols
  rw[List.getElem_map,List.getElem_range]
 rw[e2,List.getElem_set]
 by_cases c:j=i
 ·rw[if_pos c,<- c,XT h hc hl hj]
 ·rw[if_neg c,List.getElem_map,List.getElem_range,qau (fun z=>c z.symm)]
theorem qbX {m n k:Nat}{t:Pv.Table}{col:List Nat} (h:Tb m n t) (hc:R64 col) (hl:col.length=m) (hk:k<n):cols m k t++[col]=cols m (k+1) (putK m t k col):=by
 unfold cols
 rw[List.range_succ,List.map_append,List.map_cons,List.map_nil,XT h hc hl hk]
 congr 1
 exact List.map_congr_left fun i hi=>(qau (by have:=List.mem_range.mp hi;lia)).symm
noncomputable abbrev qIn:RM:=xi qM [(ieV 1),(ieV 3),(ieV 4)]
noncomputable def Vg:RM:=(w9 (Vy 1 "Split" wC [(ieV 0)]) (w9 (xb 2 (jj (vM wO (qd (rUn (yh "Split" "r") (qa 1)) qk)))) (w9 (Qz (.one 3) (vP (wA (qa 2))) (w9 (xi wo [(ieV 1),(ieV 3)]) (Qz (.one 4) (vP (zC (qf vR (qa 3) (rC (.int 1))) (qa 2))) (xi qM [(ieV 1),(ieV 3),(ieV 4)])))) (qcG (ieV 1)))))
noncomputable def uL:Fn:=fun ds=>V4 (Vg ⟨ms0 ["a","split","n","k","j"] (it0 ds),[]⟩)
theorem Z4 {g:Fm}{es:List IE}{m:MS}{xs:List Itm}{x:Itm}{μ:List Cell} (h1:zv es m = .ok xs) (h2:g xs m.μ = .ok x μ):xi g es m = .nx ⟨m.s,μ⟩:=by
 unfold xi mDo
 rw[h1]
 dsimp only
 rw[h2]
theorem ZN {g:Fm}{es:List IE}{m:MS}{xs:List Itm}{z:Int} (h1:zv es m = .ok xs) (h2:g xs m.μ=Je z):xi g es m=zQ z:=by
 unfold xi mDo
 rw[h1]
 dsimp only
 rw[h2]
 unfold Je zQ
 by_cases c:z = -4
 ·rw[if_pos c,if_pos c]
 ·rw[if_neg c,if_neg c]
theorem qbf {i:Nat}{c:Str}{g:Fm}{es:List IE}{m:MS}{xs:List Itm}{x:Itm}{μ:List Cell} (h1:zv es m = .ok xs) (h2:g (.c m.μ.length::xs) (m.μ++[.ins c [] []]) = .ok x μ):Vy i c g es m = .nx ⟨m.s.set i (some (.c m.μ.length)),μ⟩:=by
 unfold Vy mDo
 rw[h1]
 dsimp only
 rw[h2]
noncomputable abbrev qS (A:Itm) (n:Nat) (u v:Option Itm):List (Option Itm):=[some A,some (.c 0),some (.v (.int n) true),u,v]
theorem qew {m n:Nat}{a:List (List Nat)} (h:Tb m n a) (h0:0<m) (hm:m<1000000) (hn:n<1000000):uL [tD a]=dB (fun s=>(spD (cols m n s.x) (cols m n s.q) s.r,false)) (Pv.qr m n a):=by
 show V4 (Vg ⟨[some (.v (tD a) false),none,none,none,none],[]⟩)=_
 unfold Vg
 obtain⟨μ0,i1,S0⟩:=YG (k:=false) h h0 hm hn
 have s1:Vy 1 "Split" wC [(ieV 0)] ⟨[some (.v (tD a) false),none,none,none,none],[]⟩ = .nx ⟨[some (.v (tD a) false),some (.c 0),none,none,none],μ0⟩:=qbf rfl i1
 have s2:xb 2 (jj (vM wO (qd (rUn (yh "Split" "r") (qa 1)) qk))) ⟨[some (.v (tD a) false),some (.c 0),none,none,none],μ0⟩ = .nx ⟨qS (.v (tD a) false) n none none,μ0⟩:=by
  have v1:qa 1 (qX ⟨[some (.v (tD a) false),some (.c 0),none,none,none],μ0⟩) = .ok (spD (cols m n a) [] (List.replicate n (List.replicate n 0)),.sh):=zq (x:=.c 0) rfl S0.view
  refine u0 (x:=.v (.int n) true) ?_
  unfold jj
  rw[xY (xs:=(List.replicate n (List.replicate n 0)).map rD) (k:=.sh) ((uo v1).trans rfl),List.length_map,List.length_replicate]
  rfl
 rw[vz s1,vz s2]
 generalize hA:Itm.v (tD a) false=A
 have hsrc:vP (wA (qa 2)) ⟨qS A n none none,μ0⟩ = .ok ((List.range n).map fun (k:Nat)=>(D.int k,.nw)):=by
  unfold vP
  rw[yD (r:=qa 2) (n:=n) (k:=.sh) rfl hn]
  rfl
 have hfor:=jT (tg:=.one 3) (body:=w9 (xi wo [(ieV 1),(ieV 3)]) (Qz (.one 4) (vP (zC (qf vR (qa 3) (rC (.int 1))) (qa 2))) (xi qM [(ieV 1),(ieV 3),(ieV 4)]))) (enc:=fun (k:Nat)=>(D.int k,Kd.nw)) (f:=Pv.qrStep m n) (l:=List.range n)
  (J:=fun k s M=>W7 m n s/\zV M.μ n (cols m n s.x) (cols m k s.q) s.r/\∃ u v,M.s=qS A n u v) 0 (by
   rintro i b hb s ⟨sl,μ⟩ ⟨hs,S,u,v,rfl⟩
   have S:zV μ n (cols m n s.x) (cols m (0+i) s.q) s.r:=S
   rw[Nat.zero_add] at S ⊢
   obtain⟨hi,hb⟩:=List.getElem?_eq_some_iff.mp hb
   rw[List.getElem_range] at hb
   subst hb
   rw[List.length_range] at hi
   refine⟨⟨qS A n (some (.v (.int i) true)) v,μ⟩,rfl,?_⟩
   rw[Wi]
   obtain⟨p1,p2⟩:=XF (kk:=true) S hs.r hi (by rw[List.length_map,List.length_range]) (Vf hs.x) (fun c hc=>by rw[Wz c hc];exact hm) (by rw[List.length_map,List.length_range];lia)
   rw[u7 s.x hi] at p1 p2
   cases x1:QV (wU m s.x i) with
   | error z =>
    refine⟨fun s' e=>(by cases e),fun z' e=>?_⟩
    cases e
    exact xB (ZN rfl (p2 z x1))
   | ok dq =>
   obtain⟨μ1,q1,S1⟩:=p1 dq x1
   obtain⟨d1,d2,d3⟩:=qaq x1
   rw[jX] at d3
   rw[qbX hs.q d2 d3 hi] at S1
   rw[vH,vz (Z4 (m:=⟨qS A n (some (.v (.int i) true)) v,μ⟩) rfl q1)]
   have hs1:W7 m n ⟨s.x,putK m s.q i dq.2,Pv.setAt s.r i i dq.1⟩:=⟨hs.x,jY hs.q d2 (Nat.le_refl m),uf hs.r d1 hi⟩
   have hsrc2:vP (zC (qf vR (qa 3) (rC (.int 1))) (qa 2)) ⟨qS A n (some (.v (.int i) true)) v,μ1⟩ = .ok ((Pv.span (i+1) n).map fun (k:Nat)=>(D.int k,.nw)):=by
    unfold vP
    rw[WB (i:=i+1) (j:=n) (k:=.nw) (l:=.sh) ((qj (x:=(.int i,.sh)) rfl (y:=(.int 1,.nw)) rfl).trans rfl) rfl (by lia) hn]
    rfl
   have hin:=yR (tg:=.one 4) (body:=qIn) (enc:=fun (k:Nat)=>(D.int k,Kd.nw)) (f:=Pv.qrOther m i) (l:=Pv.span (i+1) n)
    (J:=fun s' M=>W7 m n s'/\zV M.μ n (cols m n s'.x) (cols m (i+1) s'.q) s'.r/\∃ v,M.s=qS A n (some (.v (.int i) true)) v) (by
     rintro j hj s2 ⟨sl,μ2⟩ ⟨hs2,S2,v,rfl⟩
     have S2:zV μ2 n (cols m n s2.x) (cols m (i+1) s2.q) s2.r:=S2
     obtain⟨hj1,hj2⟩:=Wu hj
     refine⟨⟨qS A n (some (.v (.int i) true)) (some (.v (.int j) true)),μ2⟩,rfl,?_⟩
     obtain⟨o1,o2⟩:=qfB (k1:=true) (k2:=true) S2 hs2.r hi hj2 (by rw[List.length_map,List.length_range];lia) (by rw[List.length_map,List.length_range]) (Vf hs2.x) (Vf hs2.q) (fun c hc=>by rw[Wz c hc];exact hm)
     rw[u7 s2.x hj2,u7 s2.q (Nat.lt_succ_self i)] at o1 o2
     rw[V8]
     cases x2:tfc (wU m s2.q i) (wU m s2.x j) with
     | error z =>
      refine⟨fun s' e=>(by cases e),fun z' e=>?_⟩
      cases e
      exact ZN rfl (o2 z x2)
     | ok tx =>
      obtain⟨t1,t2,t3⟩:=qc5 x2
      rw[List.length_zip,jX,jX,Nat.min_self] at t3
      obtain⟨μ3,r1,S3⟩:=o1 tx x2
      rw[qcr hs2.x t2 t3 hj2] at S3
      refine⟨fun s' e=>?_,fun z' e=>(by cases e)⟩
      cases e
      exact⟨_,Z4 (m:=⟨qS A n (some (.v (.int i) true)) (some (.v (.int j) true)),μ2⟩) rfl r1,⟨jY hs2.x t2 (Nat.le_refl m),hs2.q,uf hs2.r t1 hi⟩,S3,_,rfl⟩) ⟨s.x,putK m s.q i dq.2,Pv.setAt s.r i i dq.1⟩ ⟨qS A n (some (.v (.int i) true)) v,μ1⟩ ⟨hs1,S1,v,rfl⟩
   refine⟨fun s' e=>?_,fun z e=>(zF hsrc2).trans (hin.2 z e)⟩
   obtain⟨⟨sl,μ'⟩,q,hs',S',w,rfl⟩:=hin.1 s' e
   exact⟨_,(zF hsrc2).trans q,hs',S',_,_,rfl⟩) ⟨a,Pv.tableBy m n (fun _ _=>Pv.ZERO),Pv.tableBy n n fun _ _=>Pv.ZERO⟩ ⟨qS A n none none,μ0⟩ (by
   refine⟨⟨h,Uj fun _ _=>by decide,Uj fun _ _=>by decide⟩,?_,none,none,rfl⟩
   have e:(Pv.tableBy n n fun _ _=>Pv.ZERO)=List.replicate n (List.replicate n 0):=by
    unfold Pv.tableBy
    rw[List.map_const',List.map_const',List.length_range]
    rfl
   show zV μ0 n (cols m n a) [] (Pv.tableBy n n fun _ _=>Pv.ZERO)
   rw[e]
   exact S0)
 rw[List.length_range,Nat.zero_add] at hfor
 cases e:Pv.qr m n a with
 | error z =>
  rw[xB ((zF hsrc).trans (hfor.2 z e)),VZ]
  rfl
 | ok s =>
  obtain⟨⟨sl,μ⟩,q,hs,S,u,v,rfl⟩:=hfor.1 s e
  rw[vz ((zF hsrc).trans q)]
  show WT μ (.c 0)=_
  unfold WT
  rw[show w8 μ 3 (.c 0)=some (spD (cols m n s.x) (cols m n s.q) s.r) from S.new]
  rfl
theorem UJ {A B C:RA}{rest:RS}{δ:Dl}{va vb vc:List DK}{ss cs:List Int}{xss:List (List D)}
  (hA:A δ = .ok va) (la:va.length <= LIM) (ea:va.map (·.1)=ss.map D.int) (hB:B δ = .ok vb) (lb:vb.length <= LIM) (eb:vb.map (·.1)=xss.map D.lst) (hC:C δ = .ok vc) (lc:vc.length <= LIM) (ec:vc.map (·.1)=cs.map D.int) :
  res (vK (x9 (qi vg (qd (ub A) (qd (ub B) (qd (ub C) qk))))) rest δ)=if (ss.all fun n=>decide (1 <= n/\n <= 16))=true/\(((xss.map List.length).zip cs).all fun p=>decide ((p.1:Int)=p.2))=true then res (rest δ) else .er "WrongCount":=by
 have h1:qi vg (qd (ub A) (qd (ub B) (qd (ub C) qk))) δ=if (ss.all fun n=>decide (1 <= n/\n <= 16))=true/\(((xss.map List.length).zip cs).all fun p=>decide ((p.1:Int)=p.2))=true then .ok (.non,.nw) else .er "WrongCount":=by
  rw[qR (qh (Yf hA la) (qh (Yf hB lb) (qh (Yf hC lc) qD)))]
  show (vg [.lst (va.map (·.1)),.lst (vb.map (·.1)),.lst (vc.map (·.1))]).bind _=_
  rw[ea,eb,ec,Wx]
  split <;> rfl
 by_cases c:(ss.all fun n=>decide (1 <= n/\n <= 16))=true/\(((xss.map List.length).zip cs).all fun p=>decide ((p.1:Int)=p.2))=true
 ·rw[if_pos c] at h1 ⊢
  rw[qF (VN h1)]
 ·rw[if_neg c] at h1 ⊢
  rw[yx (Wr h1)]
  rfl
theorem U1 {e:RE}{rest:RS}{δ:Dl}{ns:List Int}{k:Kd} (hE:e δ = .ok (.lst (ns.map .int),k)) (hn:xn ns):res (vK (x9 (qi qV (qd e qk))) rest δ)=if ∀ n∈ns,Fi n then res (rest δ) else .er "NotFinite":=by
 have h3:qi qV (qd e qk) δ=if ∀ n∈ns,Fi n then .ok (.non,.nw) else .er "NotFinite":=by
  rw[qR (qh hE qD)]
  show (qV [.lst (ns.map .int)]).bind _=_
  rw[VG hn]
  split <;> rfl
 by_cases c3:∀ n∈ns,Fi n
 ·rw[if_pos c3] at h3 ⊢
  rw[qF (VN h3)]
 ·rw[if_neg c3] at h3 ⊢
  rw[yx (Wr h3)]
  rfl
noncomputable def wx:RS:=(sIf (tBl (qf (yk fun i j=>decide (i<j)) (qa 0) (qa 1))) (zR "NotAsTold") zt)
noncomputable def qU:Fn:=fun ds=>res (wx (sl0 ["m","n"] ds))
theorem qd7 {m n:Int}:qU [.int m,.int n]=if m<n then .er "NotAsTold" else .ok (.non,false):=by
 show res (wx [.val (.int m) false,.val (.int n) false])=_
 unfold wx
 have ht:tBl (qf (yk fun i j=>decide (i<j)) (qa 0) (qa 1)) [.val (.int m) false,.val (.int n) false] = .ok (decide (m<n)):=rfl
 by_cases c:m<n
 ·rw[if_pos c]
  rw[decide_eq_true c] at ht
  rw[jq ht]
  rfl
 ·rw[if_neg c]
  rw[decide_eq_false c] at ht
  rw[qfe ht]
  rfl
theorem qaJ {r q:RE}{rest:RS}{δ:Dl}{m n:Int}{k1 k2:Kd} (h1:r δ = .ok (.int m,k1)) (h2:q δ = .ok (.int n,k2)):res (vK (x9 (qi qU (qd r (qd q qk)))) rest δ)=if m<n then .er "NotAsTold" else res (rest δ):=by
 have h3:qi qU (qd r (qd q qk)) δ=if m<n then .er "NotAsTold" else .ok (.non,.nw):=by
  rw[qR (qh h1 (qh h2 qD))]
  show (qU [.int m,.int n]).bind _=_
  rw[qd7]
  split <;> rfl
 by_cases c:m<n
 ·rw[if_pos c] at h3 ⊢
  rw[yx (Wr h3)]
  rfl
 ·rw[if_neg c] at h3 ⊢
  rw[qF (VN h3)]
theorem qeF {m n:Nat}{t:Pv.Table} (h:Tb m n t):Tb n m (cols m n t):=⟨by rw[List.length_map,List.length_range],fun c hc=>Wz c hc,Vf h⟩
theorem qei {m n i j:Nat}{t:Pv.Table} (hi:i<m) (hj:j<n):Pv.Table.at_ (cols m n t) j i=Pv.Table.at_ t i j:=by
 unfold Pv.Table.at_
 rw[u7 t hj]
 unfold wU
 rw[map_getD 0 0 (by rw[List.length_range];exact hi),range_getD hi]
 rfl
theorem Wo (m n k:Nat) (a b:Pv.Table):Pv.least m n k a b=(Pv.qr m n a)>>=fun s=>(Pv.times n m k (cols m n s.q) b)>>=fun y=>Pv.backwards n k s.r y:=by
 have h:Pv.least m n k a b=(Pv.qr m n a)>>=fun s=>(Pv.eachCell n k fun j c=>Pv.chain Pv.ZERO ((List.range m).map fun i=>(s.q.at_ i j,b.at_ i c)))>>=fun y=>Pv.backwards n k s.r y:=rfl
 rw[h]
 congr 1
 funext s
 congr 1
 unfold Pv.times
 refine Wj fun j hj c _=>?_
 congr 1
 refine List.map_congr_left fun i hi=>?_
 rw[qei (List.mem_range.mp hi) hj]
noncomputable def xH:RS:=(vK (vn 2 (qi uL (qd (qa 0) qk))) (vV (qi zh (qd (rUn (yh "Split" "r") (qa 2)) (qd (qi zW (qd (rUn (yh "Split" "q_columns") (qa 2)) (qd (qa 1) qk))) qk)))))
noncomputable def zp:Fn:=fun ds=>res (xH (sl0 ["a","b","split"] ds))
theorem qbs {r:RE}{δ:Dl}{z:Int} (hf:freeze δ=δ) (h:r δ=erz z):vV r δ=YA z:=by
 unfold erz at h
 unfold YA
 by_cases c:z = -4
 ·rw[if_pos c] at h ⊢;exact z7 (by rw[hf];exact h)
 ·rw[if_neg c] at h ⊢;exact z7 (by rw[hf];exact h)
theorem UU {m n k:Nat}{a b:List (List Nat)} (ha:Tb m n a) (hb:Tb m k b) (hm0:0<m) (hm:m<1000) (hn0:0<n) (hn:n<1000) (hk0:0<k) (hk:k<1000):zp [tD a,tD b]=dB (fun t=>(tD t,false)) (Pv.least m n k a b):=by
 show res (xH [.val (tD a) false,.val (tD b) false,.un])=_
 unfold xH
 rw[Wo]
 have q1:qi uL (qd (qa 0) qk) [.val (tD a) false,.val (tD b) false,.un]=dK (fun (s:Pv.Qr)=>(spD (cols m n s.x) (cols m n s.q) s.r,.nw)) (Pv.qr m n a):=yy (f:=fun (s:Pv.Qr)=>(spD (cols m n s.x) (cols m n s.q) s.r,false)) (qh (x:=(tD a,.sh)) rfl qD) (qew ha hm0 (by lia) (by lia))
 cases e:Pv.qr m n a with
 | error z =>
  rw[e] at q1
  rw[qa3 (qbE q1),Xl]
  rfl
 | ok s =>
  rw[e] at q1
  obtain⟨hx,hq,hr⟩:=qbO ha e
  rw[qF (show vn 2 _ _ = .nx [.val (tD a) false,.val (tD b) false,.val (spD (cols m n s.x) (cols m n s.q) s.r) true] from qer q1),vH]
  have v2:qa 2 [.val (tD a) false,.val (tD b) false,.val (spD (cols m n s.x) (cols m n s.q) s.r) true] = .ok (spD (cols m n s.x) (cols m n s.q) s.r,.nw):=rfl
  have a1:rUn (yh "Split" "r") (qa 2) [.val (tD a) false,.val (tD b) false,.val (spD (cols m n s.x) (cols m n s.q) s.r) true] = .ok (tD s.r,.nw):=(uo v2).trans rfl
  have a2:rUn (yh "Split" "q_columns") (qa 2) [.val (tD a) false,.val (tD b) false,.val (spD (cols m n s.x) (cols m n s.q) s.r) true] = .ok (tD (cols m n s.q),.nw):=(uo v2).trans rfl
  have c1:qi zW (qd (rUn (yh "Split" "q_columns") (qa 2)) (qd (qa 1) qk)) [.val (tD a) false,.val (tD b) false,.val (spD (cols m n s.x) (cols m n s.q) s.r) true]=dK (fun t=>(tD t,.nw)) (Pv.times n m k (cols m n s.q) b):=yy (f:=fun t=>(tD t,false)) (qh a2 (qh (x:=(tD b,.sh)) rfl qD)) (Jl (qeF hq) hb hn0 (by lia) hm0 (by lia) hk0 (by lia))
  cases ey:Pv.times n m k (cols m n s.q) b with
  | error z =>
   rw[ey] at c1
   rw[qbs rfl (qbD (UK a1 (Jr c1))),Xl]
   rfl
  | ok y =>
   rw[ey] at c1
   rw[vH]
   exact XB (f:=fun t=>tD t) rfl (yy (f:=fun t=>(tD t,false)) (qh a1 (qh c1 qD)) (xh hr (Nat.le_refl n) (VQ ey) hn0 hn hk).1)
theorem Uk {m n k:Nat}{a b t:Pv.Table} (ha:Tb m n a) (hn0:0<n) (hn:n<1000) (hk:k<1000) (h:Pv.least m n k a b = .ok t):Tb n k t:=by
 rw[Wo] at h
 cases e:Pv.qr m n a with
 | error z=>rw[e] at h;cases h
 | ok s =>
  rw[e,vH] at h
  cases ey:Pv.times n m k (cols m n s.q) b with
  | error z=>rw[ey] at h;cases h
  | ok y =>
   rw[ey,vH] at h
   exact (xh (qbO ha e).r (Nat.le_refl n) (VQ ey) hn0 hn hk).2.1 t h
theorem ZG {m n k:Nat}{a b:Pv.Table}{z:Int} (ha:Tb m n a) (hn0:0<n) (hn:n<1000) (hk:k<1000) (h:Pv.least m n k a b = .error z):z = -3\/z = -4:=by
 rw[Wo] at h
 cases e:Pv.qr m n a with
 | error y=>rw[e] at h;cases h;exact qfZ e
 | ok s =>
  rw[e,vH] at h
  cases ey:Pv.times n m k (cols m n s.q) b with
  | error y=>rw[ey] at h;cases h;exact .inl (qbj ey)
  | ok y =>
   rw[ey,vH] at h
   exact .inl ((xh (qbO ha e).r (Nat.le_refl n) (VQ ey) hn0 hn hk).2.2 z h)
noncomputable def yj:RS:=(vK (x9 (qi vg (qd (ub (qd (qa 0) (qd (qa 1) (qd (qa 2) qk)))) (qd (ub (qd (qa 3) (qd (qa 4) qk))) (qd (ub (qd (qf y6 (qa 0) (qa 1)) (qd (qf y6 (qa 0) (qa 2)) qk))) qk))))) (vK (x9 (qi qU (qd (qa 0) (qd (qa 1) qk)))) (vK (x9 (qi qV (qd (qf vR (qa 3) (qa 4)) qk))) (vV (qi v7 (qd (qi zp (qd (qi wG (qd (qa 3) (qd (qa 1) qk))) (qd (qi wG (qd (qa 4) (qd (qa 2) qk))) qk))) qk))))))
noncomputable def wu:Fn:=fun ds=>res (yj (sl0 ["m","n","k","a","b"] ds))
theorem Ye {m n k:Int}{a b:List Int} (hm:U64 m) (hn:U64 n) (hk:U64 k) (ha:xn a) (hb:xn b) (la:a.length <= 300) (lb:b.length <= 300):wu [.int m,.int n,.int k,.lst (a.map .int),.lst (b.map .int)]=zo (PvCalls.answer (.least m.toNat n.toNat k.toNat (nats a) (nats b))):=by
 show res (yj [.val (.int m) false,.val (.int n) false,.val (.int k) false,.val (.lst (a.map .int)) false,.val (.lst (b.map .int)) false])=_
 generalize hδ:[Sl.val (.int m) false,Sl.val (.int n) false,Sl.val (.int k) false,Sl.val (.lst (a.map .int)) false,Sl.val (.lst (b.map .int)) false]=δ
 have v0:qa 0 δ = .ok (.int m,.sh):=by rw[<- hδ];rfl
 have v1:qa 1 δ = .ok (.int n,.sh):=by rw[<- hδ];rfl
 have v2:qa 2 δ = .ok (.int k,.sh):=by rw[<- hδ];rfl
 have v3:qa 3 δ = .ok (.lst (a.map .int),.sh):=by rw[<- hδ];rfl
 have v4:qa 4 δ = .ok (.lst (b.map .int),.sh):=by rw[<- hδ];rfl
 have hfz:freeze δ=δ:=by rw[<- hδ];rfl
 have m1:qf y6 (qa 0) (qa 1) δ = .ok (.int (m*n),.nw):=(qj v0 v1).trans (uI (Vn hm) (Vn hn))
 have m2:qf y6 (qa 0) (qa 2) δ = .ok (.int (m*k),.nw):=(qj v0 v2).trans (uI (Vn hm) (Vn hk))
 have hE:qf vR (qa 3) (qa 4) δ = .ok (.lst ((a++b).map .int),.fr):=by
  rw[qj v3 v4,qc8 (by rw[List.length_map,List.length_map];show _ <= 16777216;lia),<- List.map_append,Xt (Dt.Q5 _)]
 have hab:xn (a++b):=fun y hy=>(List.mem_append.mp hy).elim (ha y) (hb y)
 unfold yj
 rw[UJ (ss:=[m,n,k]) (xss:=[a.map .int,b.map .int]) (cs:=[m*n,m*k]) (qh v0 (qh v1 (qh v2 qD))) (Nat.le_of_ble_eq_true rfl) rfl (qh v3 (qh v4 qD)) (Nat.le_of_ble_eq_true rfl) rfl (qh m1 (qh m2 qD)) (Nat.le_of_ble_eq_true rfl) rfl,qaJ v0 v1,U1 hE hab]
 have hp1:(([m,n,k]:List Int).all fun n=>decide (1 <= n/\n <= 16))=true/\((([a.map D.int,b.map D.int]:List (List D)).map List.length).zip [m*n,m*k]).all (fun p=>decide ((p.1:Int)=p.2))=true↔PvCalls.goes (.least m.toNat n.toNat k.toNat (nats a) (nats b))=true/\PvCalls.fits [(m.toNat*n.toNat,nats a),(m.toNat*k.toNat,nats b)]=true:=by
  show _↔(PvCalls.size m.toNat&&(PvCalls.size n.toNat&&PvCalls.size k.toNat))=true/\((_==_)&&((_==_)&&true))=true
  rw[Bool.and_eq_true,Bool.and_eq_true,<- Wm hm,<- Wm hn,<- Wm hk,Bool.and_eq_true,Bool.and_true,beq_iff_eq,beq_iff_eq,<- Vo hm hn,<- Vo hm hk]
  simp
 by_cases lt:m<n
 ·rw[if_pos lt]
  have ltn:m.toNat<n.toNat:=by have:=hm.1;lia
  unfold PvCalls.answer
  by_cases g:PvCalls.goes (.least m.toNat n.toNat k.toNat (nats a) (nats b))=true
  ·rw[g,if_neg (show ¬ (true=false) from fun z=>nomatch z)]
   show _=zo (if PvCalls.fits [(m.toNat*n.toNat,nats a),(m.toNat*k.toNat,nats b)]=true/\m.toNat<n.toNat then PvCalls.no (-4) else PvCalls.given _ _ _)
   by_cases f:PvCalls.fits [(m.toNat*n.toNat,nats a),(m.toNat*k.toNat,nats b)]=true
   ·rw[if_pos (hp1.mpr ⟨g,f⟩),if_pos ⟨f,ltn⟩]
    rfl
   ·rw[if_neg (fun z=>f (hp1.mp z).2),if_neg (fun z=>f z.1)]
    unfold PvCalls.given
    rw[if_pos (by rw[Bool.not_eq_true] at f;exact f)]
    rfl
  ·rw[if_neg (fun z=>g (hp1.mp z).1),if_pos (by rw[Bool.not_eq_true] at g;exact g)]
   rfl
 ·rw[if_neg lt]
  refine checked (x:=Pv.least m.toNat n.toNat k.toNat (PvCalls.tableOf m.toNat n.toNat (nats a)) (PvCalls.tableOf m.toNat k.toNat (nats b))) (f:=PvCalls.table) (rows:=[(m.toNat*n.toNat,nats a),(m.toNat*k.toNat,nats b)]) hp1 ?_ ?_ ?_
  ·rw[List.all_cons,List.all_cons,List.all_nil,Bool.and_true,Bool.and_eq_true,<- Ug ha,<- Ug hb]
   exact⟨fun h=>⟨fun y hy=>h y (List.mem_append_left _ hy),fun y hy=>h y (List.mem_append_right _ hy)⟩,fun h y hy=>(List.mem_append.mp hy).elim (h.1 y) (h.2 y)⟩
  ·intro hp _
   obtain⟨h1,h2⟩:=hp
   simp at h1 h2
   have ca:a.length=m.toNat*n.toNat:=by have:=(Vo (ns:=a) hm hn).mp h2.1;rw[uk] at this;exact this
   have cb:b.length=m.toNat*k.toNat:=by have:=(Vo (ns:=b) hm hk).mp h2.2;rw[uk] at this;exact this
   have hmn:m.toNat*n.toNat <= 16*16:=Nat.mul_le_mul (by lia) (by lia)
   have hmk:m.toNat*k.toNat <= 16*16:=Nat.mul_le_mul (by lia) (by lia)
   have hnk:n.toNat*k.toNat <= 16*16:=Nat.mul_le_mul (by lia) (by lia)
   obtain⟨M,rfl⟩:=zN hm
   obtain⟨N,rfl⟩:=zN hn
   obtain⟨K,rfl⟩:=zN hk
   simp only[Int.toNat_natCast] at ca cb hmn hmk hnk ⊢
   have hA:Tb M N (PvCalls.tableOf M N (nats a)):=xQ (uN ha)
   have hB:Tb M K (PvCalls.tableOf M K (nats b)):=xQ (uN hb)
   have g1:qi wG (qd (qa 3) (qd (qa 1) qk)) δ = .ok (tD (PvCalls.tableOf M N (nats a)),.nw):=by
    rw[call_K (qh v3 (qh v1 qD))]
    show (wG [.lst (a.map .int),.int N]).bind _=_
    rw[uV ha,ZZ (m:=M) (by rw[uk];exact ca) (by lia) (by lia) (by lia) (by lia) (by lia)]
    rfl
   have g2:qi wG (qd (qa 4) (qd (qa 2) qk)) δ = .ok (tD (PvCalls.tableOf M K (nats b)),.nw):=by
    rw[call_K (qh v4 (qh v2 qD))]
    show (wG [.lst (b.map .int),.int K]).bind _=_
    rw[uV hb,ZZ (m:=M) (by rw[uk];exact cb) (by lia) (by lia) (by lia) (by lia) (by lia)]
    rfl
   have hall:=qhe (g:=v7) (call_K (g:=zp) (qh g1 (qh g2 qD)))
   have e:((zp [tD (PvCalls.tableOf M N (nats a)),tD (PvCalls.tableOf M K (nats b))]).bind fun y=>v7 [y.1])=zo (qfT (Pv.least M N K (PvCalls.tableOf M N (nats a)) (PvCalls.tableOf M K (nats b))) PvCalls.table):=by
    rw[UU hA hB (by lia) (by lia) (by lia) (by lia) (by lia) (by lia)]
    exact qc2 (fun t e=>Uk hA (by lia) (by lia) (by lia) e) (by lia) fun z hz=>ZG hA (by lia) (by lia) (by lia) hz
   have hall2:=hall.trans (congrArg (fun R=>Rs.bind R kOf) e)
   exact qeG hfz hall2 fun y hy _=>qdu hy
  ·show (if PvCalls.fits [(m.toNat*n.toNat,nats a),(m.toNat*k.toNat,nats b)]=true/\m.toNat<n.toNat then PvCalls.no (-4) else PvCalls.given _ _ _)=_
   rw[if_neg (fun z=>by have:=z.2;have:=hm.1;have:=hn.1;lia)]
theorem ZL {m n k:Nat}{a b:List Nat} (ha:R64 a):Few (PvCalls.answer (.least m n k a b)):=qfX fun g=>by
 have g:(PvCalls.size m&&(PvCalls.size n&&PvCalls.size k))=true:=g
 rw[Bool.and_eq_true,Bool.and_eq_true] at g
 obtain⟨g1,g2⟩:=size_pos g.2.1
 obtain⟨g3,g4⟩:=size_pos g.2.2
 show Few (if PvCalls.fits [(m*n,a),(m*k,b)]=true/\m<n then PvCalls.no (-4) else PvCalls.given [(m*n,a),(m*k,b)] (Pv.least m n k (PvCalls.tableOf m n a) (PvCalls.tableOf m k b)) PvCalls.table)
 split
 ·exact .inr (.inr (.inr rfl))
 ·exact qdG (fun t e=>Uk (xQ ha) (by lia) (by lia) (by lia) e) (qbh g.2.1 g.2.2) fun z hz=>ZG (xQ ha) (by lia) (by lia) (by lia) hz
theorem qbl {m n k:Int}{a b:List Int} (hm:U64 m) (hn:U64 n) (hk:U64 k) (ha:xn a) (hb:xn b) (la:a.length <= 300) (lb:b.length <= 300) :
  JT LL (wu [.int m,.int n,.int k,.lst (a.map .int),.lst (b.map .int)])=some ((PyYqpvta.least m n k a b).map D.int)/\((PyYqpvta.least m n k a b).map D.int).length <= LIM:=by
 rw[Ye hm hn hk ha hb la lb]
 have e:PyYqpvta.least m n k a b=TableNeutral.told (PvCalls.answer (.least m.toNat n.toNat k.toNat (nats a) (nats b))):=by
  unfold PyYqpvta.least TableNeutral.f
  have q:TableNeutral.callOf [[19,m,n,k],a,b]=(do some (.least (<- TableNeutral.nat m) (<- TableNeutral.nat n) (<- TableNeutral.nat k) (<- a.mapM TableNeutral.nat) (<- b.mapM TableNeutral.nat))):=rfl
  rw[q,Qa hm,Qa hn,Qa hk,WG ha,WG hb]
  rfl
 rw[e]
 exact⟨qce (ZL (uN ha)),qdj (ZL (uN ha))⟩
end Gr
namespace L2.Ir
open PySem PySem.Spec PyProof.Rows
section
variable (mg:Str->Option Value) (K:PySem.W.Frag) (Gl:Addr->Prop) (κ:List Addr) (H:Hp)
noncomputable def ItR:V->Itm->Prop
 | w,.v d k=>Rp mg K (fun a=>a∉κ/\(k=true->Gl a)) H w d
 | w,.c n=>∃ p,κ[n]?=some p/\w = .ref p
noncomputable def Its:List V->List Itm->Prop
 | [],[]=>True
 | w::vs,x::xs=>ItR mg K Gl κ H w x/\Its vs xs
 | _,_=>False
noncomputable def Y3 (p:Addr):Cell->Prop
 | .lst xs=>∃ vs,H p=some (.lst vs)/\Its mg K Gl κ H vs xs
 | .ins c ns xs=>∃ C dx vs,mg c=some (.ref C)/\H p=some (.ins C dx (ns.zip vs))/\ns.length=vs.length/\Its mg K Gl κ H vs xs
structure Mem (μ:List Cell):Prop where
 nd:κ.Nodup
 len:κ.length=μ.length
 cel:∀ (n:Nat) (p:Addr) (x:Cell),κ[n]?=some p->μ[n]?=some x->Y3 mg K Gl κ H p x
 gl:∀ a:Addr,H a=none->Gl a
structure MR (σ:St) (m:MS):Prop where
 mem:Mem mg K Gl κ H m.μ
 len:σ.length=m.s.length
 sl:∀ (i:Nat) (x:Itm),m.s[i]?=some (some x)->∃ w,σ[i]?=some (some w)/\ItR mg K Gl κ H w x
end
structure Ext (κ:List Addr) (H:Hp) (κ':List Addr) (H':Hp):Prop where
 pre:∀ (n:Nat) (p:Addr),κ[n]?=some p->κ'[n]?=some p
 old:∀ p∈κ',p∈κ\/H p=none
 keep:∀ (a:Addr) (o:HO),H a=some o->a∉κ->H' a=some o
section
variable {mg:Str->Option Value}{K:PySem.W.Frag}{Gl:Addr->Prop}{κ κ' κ1:List Addr}{H H' H1:Hp}{μ:List Cell}{σ:St}{m:MS}{w:V}{x:Itm}
theorem Ext.same (s:qy H H'):Ext κ H κ H':=⟨fun _ _ e=>e,fun _ h=>.inl h,fun a o e _=>s a o e⟩
theorem Ext.refl:Ext κ H κ H:=Ext.same fun _ _ e=>e
theorem Ext.trans (a:Ext κ H κ1 H1) (b:Ext κ1 H1 κ' H'):Ext κ H κ' H':=by
 refine⟨fun n p e=>b.pre n p (a.pre n p e),fun p h=>?_,fun c o e n=>?_⟩
 ·rcases b.old p h with h | h
  ·exact a.old p h
  ·by_cases c:p∈κ
   ·exact .inl c
   ·right
    cases e:H p with
    | none=>rfl
    | some o =>
     have:=a.keep p o e c
     rw[h] at this
     cases this
 ·refine b.keep c o (a.keep c o e n) fun z=>?_
  rcases a.old c z with q | q
  ·exact n q
  ·rw[e] at q
   cases q
theorem ItR.ext (e:Ext κ H κ' H'):∀ {w:V}{x:Itm},ItR mg K Gl κ H w x->ItR mg K Gl κ' H' w x
 | w,.v d k,h=>by
  refine Rp.mono (fun a g=>?_) d w (Rp.there _ _ h)
  obtain⟨⟨g1,g2⟩,n⟩:=g
  refine⟨⟨fun z=>?_,g2⟩,fun o q=>e.keep a o q g1⟩
  rcases e.old a z with q | q
  ·exact g1 q
  ·exact n q
 | w,.c n,h=>by
  obtain⟨p,h1,h2⟩:=h
  exact⟨p,e.pre n p h1,h2⟩
theorem Its.ext (e:Ext κ H κ' H'):∀ {vs:List V}{xs:List Itm},Its mg K Gl κ H vs xs->Its mg K Gl κ' H' vs xs
 | [],[],_=>trivial
 | _::_,_::_,h=>⟨h.1.ext e,Its.ext e h.2⟩
 | [],_::_,h=>h.elim
 | _::_,[],h=>h.elim
theorem Its.len:∀ {vs:List V}{xs:List Itm},Its mg K Gl κ H vs xs->vs.length=xs.length
 | [],[],_=>rfl
 | _::_,_::_,h=>by rw[List.length_cons,List.length_cons,Its.len h.2]
 | [],_::_,h=>h.elim
 | _::_,[],h=>h.elim
theorem Its.get:∀ {vs:List V}{xs:List Itm}{i:Nat}{x:Itm},Its mg K Gl κ H vs xs->xs[i]?=some x->∃ w,vs[i]?=some w/\ItR mg K Gl κ H w x
 | [],[],_,_,_,e=>by simp at e
 | w::_,y::_,0,_,h,e=>by simp at e;subst e;exact⟨w,rfl,h.1⟩
 | _::_,_::_,i+1,x,h,e=>by
  obtain⟨w,q1,q2⟩:=Its.get (i:=i) (x:=x) h.2 (by simpa using e)
  exact⟨w,by simpa using q1,q2⟩
 | [],_::_,_,_,h,_=>h.elim
 | _::_,[],_,_,h,_=>h.elim
theorem Its.set {w:V}{x:Itm} (hx:ItR mg K Gl κ H w x):∀ {vs:List V}{xs:List Itm} (j:Nat),Its mg K Gl κ H vs xs->Its mg K Gl κ H (vs.set j w) (xs.set j x)
 | [],[],_,_=>trivial
 | _::_,_::_,0,h=>⟨hx,h.2⟩
 | _::_,_::_,j+1,h=>⟨h.1,Its.set hx j h.2⟩
 | [],_::_,_,h=>h.elim
 | _::_,[],_,h=>h.elim
theorem Its.append:∀ {vs us:List V}{xs ys:List Itm},Its mg K Gl κ H vs xs->Its mg K Gl κ H us ys->Its mg K Gl κ H (vs++us) (xs++ys)
 | [],_,[],_,_,h=>h
 | _::_,_,_::_,_,h,h2=>⟨h.1,Its.append h.2 h2⟩
 | [],_,_::_,_,h,_=>h.elim
 | _::_,_,[],_,h,_=>h.elim
theorem Its.vals {k:Bool}:∀ {vs:List V}{ds:List D},qv mg K (fun a=>a∉κ/\(k=true->Gl a)) H vs ds->Its mg K Gl κ H vs (ds.map fun d=>Itm.v d k)
 | _,_,.nil=>trivial
 | _,_,.cons a b=>⟨a,Its.vals b⟩
theorem Y3.some {p:Addr}{x:Cell} (h:Y3 mg K Gl κ H p x):H p≠none:=by
 cases x with
 | lst xs=>obtain⟨vs,e,_⟩:=h;rw[e];exact fun z=>nomatch z
 | ins c ns xs=>obtain⟨C,dx,vs,_,e,_⟩:=h;rw[e];exact fun z=>nomatch z
theorem Mem.at_ (M:Mem mg K Gl κ H μ) {p:Addr} (h:p∈κ):H p≠none:=by
 obtain⟨n,hn,e⟩:=List.mem_iff_getElem.mp h
 have e1:κ[n]? = .some p:=by rw[List.getElem?_eq_getElem hn,e]
 have hm:n<μ.length:=by rw[<- M.len];exact hn
 exact (M.cel n p μ[n] e1 (List.getElem?_eq_getElem hm)).some
theorem Y3.ext {p:Addr}{x:Cell} (e:Ext κ H κ' H') (hp:H' p=H p) (h:Y3 mg K Gl κ H p x):Y3 mg K Gl κ' H' p x:=by
 cases x with
 | lst xs=>obtain⟨vs,q,r⟩:=h;exact⟨vs,hp.trans q,r.ext e⟩
 | ins c ns xs=>obtain⟨C,dx,vs,a,q,l,r⟩:=h;exact⟨C,dx,vs,a,hp.trans q,l,r.ext e⟩
theorem Mem.more (M:Mem mg K Gl κ H μ) (s:qy H H'):Mem mg K Gl κ H' μ:=by
 refine⟨M.nd,M.len,fun n p x e1 e2=>?_,fun a h=>M.gl a (s.free h)⟩
 have q:=M.cel n p x e1 e2
 refine q.ext (Ext.same s) ?_
 cases e:H p with
 | none=>exact absurd e q.some
 | some o=>exact s p o e
theorem MR.more (R:MR mg K Gl κ H σ m) (s:qy H H'):MR mg K Gl κ H' σ m :=
 ⟨R.mem.more s,R.len,fun i x e=>let ⟨w,a,b⟩:=R.sl i x e;⟨w,a,b.ext (Ext.same s)⟩⟩
theorem qcD {α:Type}:∀ {l:List α}{i j:Nat}{a:α},l.Nodup->l[i]?=some a->l[j]?=some a->i=j
 | [],i,_,_,_,h,_=>by simp at h
 | x::l,0,0,_,_,_,_=>rfl
 | x::l,0,j+1,a,n,h1,h2=>by
  simp at h1 h2
  subst h1
  rw[List.nodup_cons] at n
  exact absurd (List.mem_of_getElem? h2) n.1
 | x::l,i+1,0,a,n,h1,h2=>by
  simp at h1 h2
  subst h2
  rw[List.nodup_cons] at n
  exact absurd (List.mem_of_getElem? h1) n.1
 | x::l,i+1,j+1,a,n,h1,h2=>by
  simp at h1 h2
  rw[List.nodup_cons] at n
  rw[qcD n.2 h1 h2]
theorem Mem.mut (M:Mem mg K Gl κ H μ) {n:Nat}{p:Addr}{o:HO}{x:Cell} (hn:κ[n]? = .some p) (hx:Y3 mg K Gl κ (upd H p o) p x):Mem mg K Gl κ (upd H p o) (μ.set n x)/\Ext κ H κ (upd H p o):=by
 have hp:p∈κ:=List.mem_of_getElem? hn
 have ex:Ext κ H κ (upd H p o):=⟨fun _ _ e=>e,fun _ h=>.inl h,fun a q e na=>by
  rw[qA (fun z=>na (by rw[z];exact hp))]
  exact e⟩
 refine⟨⟨M.nd,by rw[List.length_set];exact M.len,fun k q y e1 e2=>?_,fun a h=>?_⟩,ex⟩
 ·by_cases hk:n=k
  ·subst hk
   rw[hn] at e1
   cases e1
   have hlt:n<μ.length:=by rw[<- M.len];exact (List.getElem?_eq_some_iff.mp hn).1
   rw[List.getElem?_set_self hlt] at e2
   cases e2
   exact hx
  ·rw[List.getElem?_set_ne hk] at e2
   have hq:q≠p:=fun z=>by
    subst z
    exact hk (qcD M.nd hn e1)
   exact (M.cel k q y e1 e2).ext ex (qA hq)
 ·by_cases ha:a=p
  ·rw[ha,qL] at h
   cases h
  ·rw[qA ha] at h
   exact M.gl a h
theorem Mem.new (M:Mem mg K Gl κ H μ) {p:Addr}{x:Cell} (s:qy H H') (hp:H p=none) (hx:Y3 mg K Gl (κ++[p]) H' p x):Mem mg K Gl (κ++[p]) H' (μ++[x])/\Ext κ H (κ++[p]) H':=by
 have np:p∉κ:=fun z=>M.at_ z hp
 have ex:Ext κ H (κ++[p]) H':=by
  refine⟨fun n q e=>?_,fun q h=>?_,fun a o e _=>s a o e⟩
  ·rw[List.getElem?_append_left (List.getElem?_eq_some_iff.mp e).1]
   exact e
  ·rcases List.mem_append.mp h with h | h
   ·exact .inl h
   ·right
    rw[List.mem_singleton.mp h]
    exact hp
 refine⟨⟨?_,by rw[List.length_append,List.length_append,M.len];rfl,fun n q y e1 e2=>?_,fun a h=>M.gl a (s.free h)⟩,ex⟩
 ·rw[List.nodup_append]
  refine⟨M.nd,List.pairwise_singleton _ _,fun a ha b hb=>?_⟩
  rw[List.mem_singleton.mp hb]
  exact fun z=>np (by rw[<- z];exact ha)
 ·by_cases hn:n<κ.length
  ·rw[List.getElem?_append_left hn] at e1
   rw[List.getElem?_append_left (by rw[<- M.len];exact hn)] at e2
   have q0:=M.cel n q y e1 e2
   refine q0.ext ex ?_
   cases e:H q with
   | none=>exact absurd e q0.some
   | some o=>exact s q o e
  ·rw[List.getElem?_append_right (by lia)] at e1
   rw[List.getElem?_append_right (by rw[<- M.len];lia)] at e2
   have h0:n-κ.length=0:=by
    have:=(List.getElem?_eq_some_iff.mp e1).1
    rw[List.length_singleton] at this
    lia
   rw[h0] at e1
   rw[<- M.len,h0] at e2
   cases e1
   cases e2
   exact hx
theorem MR.qeL (R:MR mg K Gl κ H σ m) {i:Nat} (hx:ItR mg K Gl κ H w x):MR mg K Gl κ H (σ.set i (some w)) ⟨m.s.set i (some x),m.μ⟩:=by
 refine⟨R.mem,by rw[List.length_set,List.length_set];exact R.len,fun j y e=>?_⟩
 have e:(m.s.set i (some x))[j]?=some (some y):=e
 by_cases hj:i=j
 ·subst hj
  by_cases hi:i<m.s.length
  ·rw[List.getElem?_set_self hi] at e
   cases e
   exact⟨w,List.getElem?_set_self (by rw[R.len];exact hi),hx⟩
  ·rw[List.getElem?_eq_none (by rw[List.length_set];lia)] at e
   cases e
 ·rw[List.getElem?_set_ne hj] at e ⊢
  exact R.sl j y e
theorem MR.after (R:MR mg K Gl κ H σ m) (e:Ext κ H κ' H') (M:Mem mg K Gl κ' H' μ):MR mg K Gl κ' H' σ ⟨m.s,μ⟩ :=
 ⟨M,R.len,fun i x h=>let ⟨w,a,b⟩:=R.sl i x h;⟨w,a,b.ext e⟩⟩
theorem mapM_some {α β:Type}{f:α->Option β}{x:α}{xs:List α}{ys:List β} (h:(x::xs).mapM f=some ys):∃ y r,f x=some y/\xs.mapM f=some r/\ys=y::r:=by
 rw[List.mapM_cons] at h
 cases h1:f x with
 | none=>rw[h1] at h;cases h
 | some y =>
  rw[h1] at h
  cases h2:xs.mapM f with
  | none=>rw[h2] at h;cases h
  | some r=>rw[h2] at h;exact⟨y,r,rfl,rfl,(Option.some.inj h).symm⟩
theorem xD {G:Addr->Prop}{g:Itm->Option D} (hg:∀ w x d,g x=some d->ItR mg K Gl κ H w x->Rp mg K G H w d):∀ {vs:List V}{xs:List Itm}{ds:List D},Its mg K Gl κ H vs xs->xs.mapM g=some ds->qv mg K G H vs ds
 | [],[],ds,_,e=>by cases e;exact .nil
 | w::vs,x::xs,ds,h,e=>by
  obtain⟨y,r,e1,e2,rfl⟩:=mapM_some e
  exact .cons (hg w x y e1 h.1) (xD hg h.2 e2)
 | [],_::_,_,h,_=>h.elim
 | _::_,[],_,h,_=>h.elim
theorem Yz (M:Mem mg K Gl κ H μ):∀ (f:Nat) (w:V) (x:Itm) (d:D),vS μ f x=some d->ItR mg K Gl κ H w x->Rp mg K (fun _=>True) H w d
 | 0,w,.v d k,_,e,h=>by cases e;exact Rp.weak h fun _ _=>trivial
 | f+1,w,.v d k,_,e,h=>by cases e;exact Rp.weak h fun _ _=>trivial
 | 0,w,.c n,d,e,h=>by cases e
 | f+1,w,.c n,d,e,h=>by
  obtain⟨p,hp,rfl⟩:=h
  unfold vS at e
  cases hn:μ[n]? with
  | none=>rw[hn] at e;cases e
  | some y =>
   rw[hn] at e
   have q:=M.cel n p y hp hn
   cases y with
   | lst xs =>
    obtain⟨vs,q1,q2⟩:=q
    cases hm:xs.mapM (vS μ f) with
    | none=>dsimp only at e;rw[hm] at e;cases e
    | some ds =>
     dsimp only at e
     rw[hm] at e
     cases e
     exact .lst trivial (.of q1) (xD (fun w x d e h=>Yz M f w x d e h) q2 hm)
   | ins c ns xs =>
    obtain⟨C,dx,vs,q0,q1,ql,q2⟩:=q
    cases hm:xs.mapM (vS μ f) with
    | none=>dsimp only at e;rw[hm] at e;cases e
    | some ds =>
     dsimp only at e
     rw[hm] at e
     cases e
     exact .obj trivial q0 q1 ql (xD (fun w x d e h=>Yz M f w x d e h) q2 hm)
theorem vA (R:MR mg K Gl κ H σ m):Rl mg K ⟨H,fun _=>False⟩ H σ (qX m):=by
 have noown:∀ (i:Nat) (ds:List D),(qX m)[i]?≠some (.own ds):=fun i ds e=>by
  unfold qX at e
  rw[List.getElem?_map] at e
  cases hs:m.s[i]? with
  | none=>rw[hs] at e;cases e
  | some o =>
   rw[hs] at e
   cases o with
   | none=>cases e
   | some x =>
    have e:some (match vS m.μ 3 x with | some d=>Sl.val d false | none=>.un)=some (.own ds):=e
    cases hv:vS m.μ 3 x with
    | none=>rw[hv] at e;cases e
    | some d=>rw[hv] at e;cases e
 refine⟨fun _ _ e=>e,fun _ h=>h.elim,by unfold qX;rw[List.length_map];exact R.len,fun i d k e=>?_,fun i ds e=>absurd e (noown i ds),fun i j p ds es e _ _ _=>absurd e (noown i ds)⟩
 unfold qX at e
 rw[List.getElem?_map] at e
 cases hs:m.s[i]? with
 | none=>rw[hs] at e;cases e
 | some o =>
  rw[hs] at e
  cases o with
  | none=>cases e
  | some x =>
   have e:some (match vS m.μ 3 x with | some d=>Sl.val d false | none=>.un)=some (.val d k):=e
   cases hv:vS m.μ 3 x with
   | none=>rw[hv] at e;cases e
   | some d' =>
    rw[hv] at e
    cases e
    obtain⟨w,h1,h2⟩:=R.sl i x hs
    refine⟨w,h1,Rp.weak (Yz R.mem 3 w x d hv h2) fun a _=>⟨fun z=>?_,fun z=>nomatch z⟩⟩
    rcases z with z | ⟨j,ds,z,_⟩
    ·exact z
    ·exact noown j ds z
open Classical in
noncomputable def WX (Gl:Addr->Prop) (κ:List Addr) (H:Hp):Hp:=fun a=>if Gl a\/a∈κ then none else H a
theorem U6 {a:Addr} (h:Gl a):WX Gl κ H a=none:=by unfold WX;exact if_pos (.inl h)
theorem jP {a:Addr} (hg:∀ a,H a=none->Gl a) (h:WX Gl κ H a=none) (n:a∉κ):Gl a:=by
 unfold WX at h
 by_cases c:Gl a\/a∈κ
 ·exact c.elim id fun z=>absurd z n
 ·rw[if_neg c] at h
  exact hg a h
theorem JP (e:Ext κ H κ' H'):qy (WX Gl κ H) H':=fun a o h=>by
 unfold WX at h
 by_cases c:Gl a\/a∈κ
 ·rw[if_pos c] at h
  cases h
 ·rw[if_neg c] at h
  exact e.keep a o h fun z=>c (.inr z)
theorem Qd (m:MS) (i:Nat) (ds:List D):(vy m)[i]?≠some (.own ds):=fun e=>by
 unfold vy at e
 rw[List.getElem?_map] at e
 cases hs:m.s[i]? with
 | none=>rw[hs] at e;cases e
 | some o =>
  rw[hs] at e
  cases o with
  | none=>cases e
  | some x=>cases x <;> cases e
noncomputable abbrev B1 (Gl:Addr->Prop) (κ:List Addr) (H:Hp) (κ':List Addr):Bs:=⟨WX Gl κ H,fun a=>a∈κ'⟩
theorem JI {a:Addr}{κ0:List Addr}{H0:Hp} (h:vx (B1 Gl κ0 H0 κ) σ (vy m) a):a∈κ:=by
 rcases h with h | ⟨i,ds,e,_⟩
 ·exact h
 ·exact absurd e (Qd m i ds)
theorem ya {κ0:List Addr}{H0:Hp} (e:Ext κ0 H0 κ H) (R:MR mg K Gl κ H σ m):Rl mg K (B1 Gl κ0 H0 κ) H σ (vy m):=by
 refine⟨JP e,fun p h=>R.mem.at_ h,by unfold vy;rw[List.length_map];exact R.len,fun i d k q=>?_,fun i ds q=>absurd q (Qd m i ds),fun i j p ds es q _ _ _=>absurd q (Qd m i ds)⟩
 unfold vy at q
 rw[List.getElem?_map] at q
 cases hs:m.s[i]? with
 | none=>rw[hs] at q;cases q
 | some o =>
  rw[hs] at q
  cases o with
  | none=>cases q
  | some x =>
   cases x with
   | c n=>cases q
   | v d' k' =>
    cases q
    obtain⟨w,h1,h2⟩:=R.sl i _ hs
    exact⟨w,h1,Rp.weak h2 fun a g=>⟨fun z=>g.1 (JI z),fun z=>U6 (g.2 z)⟩⟩
theorem UQ {d:D}{k:Bool} (c:d.sc=true) (G:Addr->Prop) (r:Rp mg K G H w d):ItR mg K Gl κ H w (.v d k):=by
 rw[r.sc c]
 exact Rp.wX c
theorem qaP {y:DK} (R:MR mg K Gl κ H σ m) (s:qy H H') (r:VR mg K ⟨H,fun _=>False⟩ H H' σ (qX m) y.2 w y.1) (h:Qs y=some x):ItR mg K Gl κ H' w x:=by
 obtain⟨d,k⟩:=y
 have R0:=vA R
 have new:VR mg K ⟨H,fun _=>False⟩ H H' σ (qX m) .nw w d->ItR mg K Gl κ H' w (.v d true):=fun r=>by
  refine Rp.weak r fun a g=>⟨fun z=>R.mem.at_ z g.2,fun _=>R.mem.gl a g.2⟩
 unfold Qs at h
 dsimp only at h
 by_cases c:d.sc=true
 ·rw[if_pos c] at h
  cases h
  exact UQ c _ (r.rp R0)
 ·rw[if_neg c] at h
  cases k with
  | bo=>cases h
  | sh=>cases h
  | nw=>cases h;exact new r
  | fr=>cases h;exact new (VR.z9 R0 r)
theorem qbB {y:DK}{κ0:List Addr}{H0:Hp} (e:Ext κ0 H0 κ H) (hg:∀ a,H0 a=none->Gl a) (R:MR mg K Gl κ H σ m) (s:qy H H') (r:VR mg K (B1 Gl κ0 H0 κ) H H' σ (vy m) y.2 w y.1) (h:qH y=some x):ItR mg K Gl κ H' w x:=by
 obtain⟨d,k⟩:=y
 have R0:=ya e R
 have new:VR mg K (B1 Gl κ0 H0 κ) H H' σ (vy m) .nw w d->ItR mg K Gl κ H' w (.v d true):=fun r=>by
  refine Rp.weak r fun a g=>?_
  have n:a∉κ:=fun z=>g.1 (.inl z)
  refine⟨n,fun _=>jP hg g.2 fun z=>n ?_⟩
  obtain⟨i,hi,q⟩:=List.mem_iff_getElem.mp z
  exact List.mem_of_getElem? (e.pre i a (by rw[List.getElem?_eq_getElem hi,q]))
 unfold qH at h
 dsimp only at h
 by_cases c:d.sc=true
 ·rw[if_pos c] at h
  cases h
  exact UQ c _ (r.rp R0)
 ·rw[if_neg c] at h
  cases k with
  | bo=>cases h
  | sh=>cases h;exact Rp.weak r fun a g=>⟨fun z=>g (.inl z),fun z=>nomatch z⟩
  | nw=>cases h;exact new r
  | fr=>cases h;exact new (VR.z9 R0 r)
end
noncomputable def vN (mg:Str->Option Value) (K:PySem.W.Frag) (E:XK) (Gn:Addr->Prop) (κ:List Addr) (H:Hp) (o:wH) (D:Ends):Prop:=match o with
 | .nx m=>∀ κ' σ' H',MR mg K Gn κ' H' σ' m->Ext κ H κ' H'->D.nx σ' H'
 | .bk m=>∀ κ' σ' H',MR mg K Gn κ' H' σ' m->Ext κ H κ' H'->D.bk σ' H'
 | .ct m=>∀ κ' σ' H',MR mg K Gn κ' H' σ' m->Ext κ H κ' H'->D.ct σ' H'
 | .rt x μ=>∀ w κ' H',Mem mg K Gn κ' H' μ->ItR mg K Gn κ' H' w x->Ext κ H κ' H'->D.rt w H'
 | .er c=>∀ C H',mg c=some (.ref C)->(∀ a o,H a=some o->a∉κ->H' a=some o)->E (.ref C) none H'
 | .no=>False
noncomputable def tM (mg:Str->Option Value) (K:PySem.W.Frag) (E:XK) (r:RM):TS:=fun D σ H=>∃ Gn κ m,MR mg K Gn κ H σ m/\vN mg K E Gn κ H (r m) D
noncomputable abbrev TMx (X:Cx) (E:XK) (r:RM):TS:=tM X.mg X.K E r
noncomputable def tIe (X:Cx) (E:XK) (e:IE):TE:=fun σ H Q=>∃ Gn κ m,MR X.mg X.K Gn κ H σ m/\qo X.mg E H (e m) fun x=>∀ w H',qy H H'->ItR X.mg X.K Gn κ H' w x->Q w H'
noncomputable def tNe (X:Cx) (E:XK) (e:NE):TE:=fun σ H Q=>∃ Gn κ m,MR X.mg X.K Gn κ H σ m/\qo X.mg E H (e m) fun xs=>∀ p vs H',H p=none->qy H H'->H' p=some (.lst vs)->Its X.mg X.K Gn (κ++[p]) H' vs xs->Q (.ref p) H'
noncomputable def tMA (X:Cx) (E:XK) (es:List IE):TA:=fun σ H Q=>∃ Gn κ m,MR X.mg X.K Gn κ H σ m/\qo X.mg E H (zv es m) fun xs=>∀ vs H',qy H H'->Its X.mg X.K Gn κ H' vs xs->Q vs H'
section
variable {mg:Str->Option Value}{K:PySem.W.Frag}{E:XK}{Gn:Addr->Prop}{κ κ' κ1:List Addr}{H H' H1:Hp}{D:Ends}{o:wH}
theorem vN.later (h:vN mg K E Gn κ H o D) (e:Ext κ H κ1 H1):vN mg K E Gn κ1 H1 o D:=by
 cases o with
 | nx m=>exact fun κ' σ' H' R f=>h κ' σ' H' R (e.trans f)
 | bk m=>exact fun κ' σ' H' R f=>h κ' σ' H' R (e.trans f)
 | ct m=>exact fun κ' σ' H' R f=>h κ' σ' H' R (e.trans f)
 | rt x μ=>exact fun w κ' H' M r f=>h w κ' H' M r (e.trans f)
 | er c =>
  refine fun C H' hC k=>h C H' hC fun a o q n=>k a o (e.keep a o q n) fun z=>?_
  rcases e.old a z with y | y
  ·exact n y
  ·rw[q] at y
   cases y
 | no=>exact h
theorem qhy {c:Str} (h:vN mg K E Gn κ H (.er c) D):∀ C H',mg c=some (.ref C)->qy H H'->E (.ref C) none H':=fun C H' e s=>h C H' e fun a o q _=>s a o q
theorem vN.do_ {α:Type}{x:Rs α}{f:α->wH}{k:α->Prop} (h:vN mg K E Gn κ H (mDo x f) D) (i:∀ a,x = .ok a->vN mg K E Gn κ H (f a) D->k a):qo mg E H x k:=by
 cases x with
 | ok a=>exact i a rfl h
 | er c=>exact qhy h
 | no=>exact h
theorem Ext.upd {p:Addr}{o:HO} (hp:p∈κ):Ext κ H κ (L2.upd H p o):=⟨fun _ _ e=>e,fun _ h=>.inl h,fun a q e na=>by
 rw[qA (fun z=>na (by rw[z];exact hp))]
 exact e⟩
theorem xS {m:MS}{x:Itm}{n:Nat}{y:Cell} (h:cellAt m x=some (n,y)):x = .c n/\m.μ[n]?=some y:=by
 cases x with
 | v d k=>cases h
 | c k =>
  have h:(m.μ[k]?).map (fun x=>(k,x))=some (n,y):=h
  cases e:m.μ[k]? with
  | none=>rw[e] at h;cases h
  | some z=>rw[e] at h;cases h;exact⟨rfl,e⟩
theorem XS {f:Str}{y:Itm}:∀ {ns:List Str}{vs:List V}{xs:List Itm},Its mg K Gn κ H vs xs->(ns.zip xs).lookup f=some y->∃ w,(ns.zip vs).lookup f=some w/\ItR mg K Gn κ H w y
 | [],_,_,_,e=>by simp at e
 | _::_,[],[],_,e=>by simp at e
 | g::ns,w::vs,x::xs,h,e=>by
  rw[List.zip_cons_cons,List.lookup_cons] at e ⊢
  cases hg:f==g with
  | true=>rw[hg] at e;cases e;exact⟨w,rfl,h.1⟩
  | false=>rw[hg] at e;exact XS h.2 e
 | _::_,[],_::_,h,_=>h.elim
 | _::_,_::_,[],h,_=>h.elim
theorem qac {f:Str}{w:V}{x:Itm} (hx:ItR mg K Gn κ H w x):∀ {ns:List Str}{vs:List V}{xs:List Itm},ns.length=vs.length->Its mg K Gn κ H vs xs->∃ vs',y9 f w (ns.zip vs)=(Q2 f x ns xs).1.zip vs'/\(Q2 f x ns xs).1.length=vs'.length/\Its mg K Gn κ H vs' (Q2 f x ns xs).2
 | [],[],[],_,_=>⟨[w],rfl,rfl,hx,trivial⟩
 | g::ns,u::vs,y::xs,hl,h=>by
  unfold Q2
  by_cases c:g=f
  ·rw[if_pos c,List.zip_cons_cons]
   refine⟨w::vs,?_,hl,hx,h.2⟩
   show (if g=f then (g,w)::ns.zip vs else _)=_
   rw[if_pos c]
   rfl
  ·rw[if_neg c,List.zip_cons_cons]
   obtain⟨vs',q1,q2,q3⟩:=qac (f:=f) hx (ns:=ns) (vs:=vs) (xs:=xs) (by simpa using hl) h.2
   refine⟨u::vs',?_,by simpa using q2,h.1,q3⟩
   show (if g=f then _ else (g,u)::y9 f w (ns.zip vs))=_
   rw[if_neg c,q1]
   rfl
 | [],_::_,_,hl,_=>nomatch hl
 | _::_,[],_,hl,_=>nomatch hl
 | _,[],_::_,_,h=>h.elim
 | _,_::_,[],_,h=>h.elim
end
section
variable {X:Cx}{E:XK}{pos:Pos}
theorem Ud {e:Expr}{r:RE} (h:PE X e (TEx X E r)):PE X e (tIe X E (jj r)):=by
 refine vq h fun σ H Q ⟨Gn,κ,m,R,h⟩=>⟨_,_,vA R,?_⟩
 refine qo.imp (qo.bind h) fun y h1 w H' s vr=>?_
 cases e:Qs y with
 | none=>rw[e] at h1;exact h1.elim
 | some x=>rw[e] at h1;exact h1 w H' s (qaP R s vr e)
theorem V6 {e:Expr}{r:RE} (h:PE X e (TEx X E r)):PE X e (tIe X E (ye r)):=by
 refine vq h fun σ H Q ⟨Gn,κ,m,R,h⟩=>⟨_,_,ya Ext.refl R,?_⟩
 refine qo.imp (qo.bind h) fun y h1 w H' s vr=>?_
 cases e:qH y with
 | none=>rw[e] at h1;exact h1.elim
 | some x=>rw[e] at h1;exact h1 w H' s (qbB Ext.refl R.mem.gl R s vr e)
theorem zX (i:Nat) {x:Str} (hN:autoParam (X.N[i]?=some x) qt._auto_1) (hv:autoParam (Vis X.env.scope x) Jx._auto_1) (hd:autoParam ((x==("__debug__":Str))=false) vd._auto_1)
  (hcd:autoParam ((x==("__classdict__":Str))=false) vd._auto_1):PE X (.Name x pos) (tIe X E (ieV i)):=by
 refine vq (Wk hN hv hd hcd) fun σ H Q ⟨Gn,κ,m,R,h⟩=>?_
 unfold ieV at h
 cases hs:m.s[i]? with
 | none=>rw[hs] at h;exact h.elim
 | some o =>
  rw[hs] at h
  cases o with
  | none=>exact h.elim
  | some y =>
   obtain⟨w,h1,h2⟩:=R.sl i y hs
   exact⟨w,h1,h w H (fun _ _ e=>e) h2⟩
theorem uM {c f:Str}{e:Expr}{ie:IE} (hC:∀ C,X.mg c=some (.ref C)->Cls X.K C/\vD X.K C f) (he:PE X e (tIe X E ie)) (hb:autoParam (attributeBase e f X.env (eval e X.env)=eval e X.env) qt._auto_1):PE X (.Attribute e f pos) (tIe X E (wI c f ie)):=by
 refine vq (qbU he hb) fun σ H Q ⟨Gn,κ,m,R,h⟩=>⟨Gn,κ,m,R,?_⟩
 refine qo.imp (qo.bind h) fun x h1 w H1 s1 hw=>?_
 cases e:cellAt m x with
 | none=>rw[e] at h1;exact h1.elim
 | some y =>
  obtain⟨n,y⟩:=y
  obtain⟨rfl,hn⟩:=xS e
  rw[e] at h1
  cases y with
  | lst xs=>exact h1.elim
  | ins c' ns xs =>
   have h1:qo X.mg E H (if c'=c then xJ ((ns.zip xs).lookup f) else .no) fun x=>∀ w H',qy H H'->ItR X.mg X.K Gn κ H' w x->Q w H':=h1
   by_cases cc:c'=c
   ·subst cc
    rw[if_pos rfl] at h1
    obtain⟨p,hp,rfl⟩:=hw
    obtain⟨C,dx,vs,g0,g1,g2,g3⟩:=(R.more s1).mem.cel n p _ hp hn
    cases hl:(ns.zip xs).lookup f with
    | none=>rw[hl] at h1;exact h1.elim
    | some y =>
     rw[hl] at h1
     obtain⟨w,l1,l2⟩:=XS g3 hl
     exact⟨p,C,dx,_,w,rfl,g1,(hC C g0).1,(hC C g0).2,l1,h1 w H1 s1 l2⟩
   ·rw[if_neg cc] at h1
    exact h1.elim
theorem JX {a b:Expr}{ie:IE}{r:RE} (ha:PE X a (tIe X E ie)) (hb:PE X b (TEx X E r)) (hs:autoParam (YR b) qfz._auto_1):PE X (.Subscript a b pos) (tIe X E (WV ie r)):=by
 refine vq (qe2 qag ha hb hs) fun σ H Q ⟨Gn,κ,m,R,h⟩=>⟨Gn,κ,m,R,?_⟩
 refine qo.imp (qo.bind h) fun x h1 w H1 s1 hw=>⟨_,_,vA (R.more s1),?_⟩
 refine qo.imp (qo.more (qo.bind h1) s1) fun y h2 u H2 s2 vu=>?_
 obtain⟨dy,ky⟩:=y
 cases e:cellAt m x with
 | none=>rw[e] at h2;exact h2.elim
 | some y =>
  obtain⟨n,y⟩:=y
  obtain⟨rfl,hn⟩:=xS e
  rw[e] at h2
  cases y with
  | ins c' ns xs=>exact h2.elim
  | lst xs =>
   cases dy with
   | int z =>
    obtain⟨p,hp,rfl⟩:=hw
    have s12:=s1.trans s2
    obtain⟨vs,g1,g3⟩:=(R.more s12).mem.cel n p _ hp hn
    have eu:=vf (vA (R.more s1)) vu
    subst eu
    have h2:qo X.mg E H (xJ ((yL xs.length z).bind fun j=>xs[j]?)) fun x=>∀ w H',qy H H'->ItR X.mg X.K Gn κ H' w x->Q w H':=h2
    cases hj:yL xs.length z with
    | none=>rw[hj] at h2;exact h2.elim
    | some j =>
     rw[hj] at h2
     have h2:qo X.mg E H (xJ (xs[j]?)) fun x=>∀ w H',qy H H'->ItR X.mg X.K Gn κ H' w x->Q w H':=h2
     cases hx:xs[j]? with
     | none=>rw[hx] at h2;exact h2.elim
     | some y =>
      rw[hx] at h2
      obtain⟨w,l1,l2⟩:=g3.get hx
      refine⟨p,vs,z,w,rfl,rfl,SqL.of g1,?_,h2 w H2 s12 l2⟩
      unfold atI
      have hj':ixN vs.length z=some j:=by rw[g3.len];exact hj
      rw[hj']
      exact l1
   | _=>exact h2.elim
theorem Qv:PA X [] (tMA X E []):=YB zS fun σ H Q ⟨Gn,κ,m,R,h⟩=>h [] H (fun _ _ e=>e) trivial
theorem z3 {e:Expr}{es:List Expr}{ie:IE}{ies:List IE} (ha:PE X e (tIe X E ie)) (hr:PA X es (tMA X E ies)) (hs:autoParam (starEach (e::es) X.env=(false,eval e X.env)::starEach es X.env) qt._auto_1):PA X (e::es) (tMA X E (ie::ies)):=by
 refine YB (vQ ha hr hs) fun σ H Q ⟨Gn,κ,m,R,h⟩=>⟨Gn,κ,m,R,?_⟩
 refine qo.imp (qo.bind h) fun x h1 v H1 s1 r1=>⟨Gn,κ,m,R.more s1,?_⟩
 refine qo.imp (qo.more (qo.bind h1) s1) fun xs h2 vs H2 s2 r2=>?_
 exact h2 (v::vs) H2 (s1.trans s2) ⟨r1.ext (Ext.same s2),r2⟩
theorem ne_nil:PE X (.List [] pos) (tNe X E VP):=by
 refine vq (Xc zS) fun σ H Q ⟨Gn,κ,m,R,h⟩=>?_
 exact⟨Nat.zero_le _,fun p hp=>h p [] _ hp (vX hp) qL trivial⟩
end
section
variable {X:Cx}{E:XK}{pos:Pos}
theorem qee:PSs X [] (TMx X E qcd):=j3 JZ fun D σ H ⟨Gn,κ,m,R,h⟩=>h κ σ H R Ext.refl
theorem qdI {a b:RM}{D:Ends}{σ:St}{H:Hp} (h:TMx X E (w9 a b) D σ H):TMx X E a {D with nx:=TMx X E b D} σ H:=by
 obtain⟨Gn,κ,m,R,h⟩:=h
 refine⟨Gn,κ,m,R,?_⟩
 unfold w9 wH.andThen at h
 cases ha:a m with
 | nx m1 =>
  rw[ha] at h
  exact fun κ1 σ1 H1 R1 f1=>⟨Gn,κ1,m1,R1,vN.later h f1⟩
 | bk m1=>rw[ha] at h;exact h
 | ct m1=>rw[ha] at h;exact h
 | rt x μ=>rw[ha] at h;exact h
 | er c=>rw[ha] at h;exact h
 | no=>rw[ha] at h;exact h
theorem ve {st:Stmt}{rest:List Stmt}{a b:RM} (h1:PS X st (TMx X E a)) (h2:PSs X rest (TMx X E b)):PSs X (st::rest) (TMx X E (w9 a b)):=j3 (Wg h1 h2) fun _ _ _ h=>qdI h
theorem wd {st:Stmt}{a:RM} (h1:PS X st (TMx X E a)):PSs X [st] (TMx X E a):=u6 h1
theorem qdD {i:Nat}{e:IE}{D:Ends}{σ:St}{H:Hp} (h:TMx X E (xb i e) D σ H):Uz (tIe X E e) (w4 i) D σ H:=by
 obtain⟨Gn,κ,m,R,h⟩:=h
 refine⟨Gn,κ,m,R,vN.do_ h fun x _ h1 w H' s hw=>?_⟩
 exact h1 κ _ H' ((R.more s).qeL hw) (Ext.same s)
theorem jJ (i:Nat) {x:Str}{e:Expr}{ie:IE}{pos':Pos} (g:Gd X E) (he:PE X e (tIe X E ie)) (hi:autoParam (X.N[i]?=some x) qt._auto_1) (hx:autoParam (Loc X.env.scope x) Wb._auto_1) (hs:autoParam (swapsWith e (some (.Name x pos')) pos.line X.env=pure false) qt._auto_1)
  (hf:autoParam (X.fn x=true\/X.env.scope.names.lookup x=some .local) WM._auto_1):PS X (.Assign [.Name x pos'] e pos) (TMx X E (xb i ie)):=vp (Wv g.nd hi hx he hs hf) fun _ _ _ h=>qdD h
theorem qdY {i:Nat}{e:NE}{D:Ends}{σ:St}{H:Hp} (h:TMx X E (Xq i e) D σ H):Uz (tNe X E e) (w4 i) D σ H:=by
 obtain⟨Gn,κ,m,R,h⟩:=h
 refine⟨Gn,κ,m,R,vN.do_ h fun xs _ h1 p vs H' hp s hv hi=>?_⟩
 obtain⟨M,ex⟩:=R.mem.new (x:=.lst xs) s hp ⟨vs,hv,hi⟩
 refine h1 (κ++[p]) _ H' ((R.after ex M).qeL (m:=⟨m.s,m.μ++[.lst xs]⟩) (x:=.c m.μ.length) ⟨p,?_,rfl⟩) ex
 rw[<- R.mem.len,List.getElem?_append_right (Nat.le_refl _),Nat.sub_self]
 rfl
theorem U5 (i:Nat) {x:Str}{e:Expr}{ie:NE}{pos':Pos} (g:Gd X E) (he:PE X e (tNe X E ie)) (hi:autoParam (X.N[i]?=some x) qt._auto_1) (hx:autoParam (Loc X.env.scope x) Wb._auto_1) (hs:autoParam (swapsWith e (some (.Name x pos')) pos.line X.env=pure false) qt._auto_1)
  (hf:autoParam (X.fn x=true\/X.env.scope.names.lookup x=some .local) WM._auto_1):PS X (.Assign [.Name x pos'] e pos) (TMx X E (Xq i ie)):=vp (Wv g.nd hi hx he hs hf) fun _ _ _ h=>qdY h
theorem uw {st:Stmt}{ec ev:IE}{ri:RE} (h:PS X st (Uz (tIe X E ev) (qhb (tIe X E ec) (TEx X E ri) qeW))):PS X st (TMx X E (wZ ec ri ev)):=by
 refine vp h fun D σ H ⟨Gn,κ,m,R,h⟩=>⟨Gn,κ,m,R,vN.do_ h fun x _ h1 w H1 s1 hw=>⟨Gn,κ,m,R.more s1,?_⟩⟩
 refine qo.more (vN.do_ h1 fun y _ h2 w2 H2 s2 hw2=>⟨_,_,vA ((R.more s1).more s2),?_⟩) s1
 have s12:=s1.trans s2
 refine qo.more (vN.do_ h2 fun z _ h3 u H3 s3 vu=>?_) s12
 obtain⟨dz,kz⟩:=z
 cases e:cellAt m y with
 | none=>rw[e] at h3;exact h3.elim
 | some q =>
  obtain⟨n,q⟩:=q
  obtain⟨rfl,hn⟩:=xS e
  rw[e] at h3
  cases q with
  | ins c' ns xs=>exact h3.elim
  | lst xs =>
   cases dz with
   | int z =>
    obtain⟨p,hp,rfl⟩:=hw2
    have s13:=s12.trans s3
    have R3:=R.more s13
    obtain⟨vs,g1,g3⟩:=R3.mem.cel n p _ hp hn
    have eu:=vf (vA ((R.more s1).more s2)) vu
    subst eu
    have h3:vN X.mg X.K E Gn κ H (match yL xs.length z with | some j=>.nx ⟨m.s,m.μ.set n (.lst (xs.set j x))⟩ | none=>.no) D:=h3
    cases hj:yL xs.length z with
    | none=>rw[hj] at h3;exact h3.elim
    | some j =>
     rw[hj] at h3
     have hj':ixN vs.length z=some j:=by rw[g3.len];exact hj
     refine⟨p,vs,z,j,rfl,rfl,g1,hj',?_⟩
     have pk:p∈κ:=List.mem_of_getElem? hp
     have ex:Ext κ H3 κ (upd H3 p (.lst (vs.set j w))):=Ext.upd pk
     have hw3:ItR X.mg X.K Gn κ (upd H3 p (.lst (vs.set j w))) w x:=ItR.ext ((Ext.same (s2.trans s3)).trans ex) hw
     obtain⟨M,_⟩:=R3.mem.mut (x:=.lst (xs.set j x)) (o:=.lst (vs.set j w)) hp ⟨_,qL,(g3.ext ex).set hw3 j⟩
     exact h3 κ σ _ (R3.after ex M) ((Ext.same s13).trans ex)
   | _=>exact h3.elim
theorem Z0 {e:Expr}{ec ev:IE} (h:PE X e (tBM X.K "list" qav (tIe X E ec) (qar (tIe X E ev) qeK))) (hsw:autoParam (swapsWith e none pos.line X.env=pure false) qt._auto_1):PS X (.Expr e pos) (TMx X E (y4 ec ev)):=by
 refine vp (Q7 h hsw) fun D σ H ⟨Gn,κ,m,R,h⟩=>⟨Gn,κ,m,R,vN.do_ h fun y _ h1 w H1 s1 hw=>?_⟩
 cases e:cellAt m y with
 | none=>rw[e] at h1;exact h1.elim
 | some q =>
  obtain⟨n,q⟩:=q
  obtain⟨rfl,hn⟩:=xS e
  rw[e] at h1
  cases q with
  | ins c' ns xs=>exact h1.elim
  | lst xs =>
   obtain⟨p,hp,rfl⟩:=hw
   obtain⟨vs1,g1,g3⟩:=(R.more s1).mem.cel n p _ hp hn
   refine⟨.inl ⟨rfl,_,SqL.of g1⟩,Gn,κ,m,R.more s1,?_⟩
   refine qo.more (vN.do_ h1 fun x _ h2 u H2 s2 hu=>?_) s1
   have s12:=s1.trans s2
   have R2:=R.more s12
   obtain⟨vs,g1,g3⟩:=R2.mem.cel n p _ hp hn
   have h2:vN X.mg X.K E Gn κ H (if xs.length<LIM then .nx ⟨m.s,m.μ.set n (.lst (xs++[x]))⟩ else .no) D:=h2
   by_cases c:xs.length<LIM
   ·rw[if_pos c] at h2
    refine⟨p,vs,u,rfl,rfl,g1,by rw[g3.len];exact c,?_⟩
    have pk:p∈κ:=List.mem_of_getElem? hp
    have ex:Ext κ H2 κ (upd H2 p (.lst (vs++[u]))):=Ext.upd pk
    obtain⟨M,_⟩:=R2.mem.mut (x:=.lst (xs++[x])) (o:=.lst (vs++[u])) hp ⟨_,qL,(g3.ext ex).append ⟨hu.ext ex,trivial⟩⟩
    exact h2 κ σ _ (R2.after ex M) ((Ext.same s12).trans ex)
   ·rw[if_neg c] at h2
    exact h2.elim
theorem Zu {c f:Str}{Gn:Addr->Prop}{κ:List Addr}{H:Hp}{σ:St}{s:List (Option Itm)}{μ:List Cell}{D:Ends} (hC:∀ C,X.mg c=some (.ref C)->Cls X.K C/\vD X.K C f) (R2:MR X.mg X.K Gn κ H σ ⟨s,μ⟩) {n:Nat}{c':Str}{ns:List Str}{xs:List Itm}{w w2:V}{x:Itm} (hn:μ[n]?=some (.ins c' ns xs)) (hw2:ItR X.mg X.K Gn κ H w2 (.c n)) (hw:ItR X.mg X.K Gn κ H w x)
  (h5:vN X.mg X.K E Gn κ H (if c'=c/\ns.length<1000/\ns.length=xs.length then .nx ⟨s,μ.set n (.ins c' (Q2 f x ns xs).1 (Q2 f x ns xs).2)⟩ else .no) D) :
  ∃ a C dx fs,w2 = .ref a/\H a=some (.ins C dx fs)/\Cls X.K C/\vD X.K C f/\fs.length<1000/\D.nx σ (upd H a (.ins C dx (y9 f w fs))):=by
 by_cases cc:c'=c/\ns.length<1000/\ns.length=xs.length
 ·rw[if_pos cc] at h5
  obtain⟨rfl,hl,_⟩:=cc
  obtain⟨p,hp,rfl⟩:=hw2
  obtain⟨C,dx,vs,g0,g1,g2,g3⟩:=R2.mem.cel n p _ hp hn
  refine⟨p,C,dx,_,rfl,g1,(hC C g0).1,(hC C g0).2,by rw[List.length_zip];lia,?_⟩
  have ex:Ext κ H κ (upd H p (.ins C dx (y9 f w (ns.zip vs)))):=Ext.upd (List.mem_of_getElem? hp)
  obtain⟨vs',q1,q2,q3⟩:=qac (f:=f) (ItR.ext ex hw) g2 (g3.ext ex)
  obtain⟨M,_⟩:=R2.mem.mut (x:=.ins c' (Q2 f x ns xs).1 (Q2 f x ns xs).2) (o:=.ins C dx (y9 f w (ns.zip vs))) hp ⟨C,dx,vs',g0,by rw[qL,q1],q2,q3⟩
  exact h5 κ σ _ (R2.after ex M) ex
 ·rw[if_neg cc] at h5
  exact h5.elim
theorem qcm {c f:Str}{o value:Expr}{ec:IE}{ev:NE}{pos':Pos} (hC:∀ C,X.mg c=some (.ref C)->Cls X.K C/\vD X.K C f) (ha:PE X o (tIe X E ec)) (hec:autoParam (∀ s μ x,ec ⟨s,μ++[x]⟩=ec ⟨s,μ⟩) qfw._auto_1) (hv:PE X value (tNe X E ev)) (hs:autoParam (swapsWith value (some (.Attribute o f pos')) pos.line X.env=pure false) qt._auto_1) :
  PS X (.Assign [.Attribute o f pos'] value pos) (TMx X E (Y9 c f ec ev)):=by
 refine vp (qbN ha hv hs) fun D σ H ⟨Gn,κ,m,R,h⟩=>⟨Gn,κ,m,R,vN.do_ h fun xs' _ h1 pn vsn H1 hpn s1 hvn hin=>?_⟩
 obtain⟨M1,ex1⟩:=R.mem.new (x:=.lst xs') s1 hpn ⟨vsn,hvn,hin⟩
 have R1:=R.after ex1 M1
 refine⟨Gn,κ++[pn],⟨m.s,m.μ++[.lst xs']⟩,R1,?_⟩
 rw[hec m.s m.μ]
 refine qo.more (vN.do_ h1 fun y _ h2 w2 H2 s2 hw2=>?_) s1
 cases e:cellAt m y with
 | none=>rw[e] at h2;exact h2.elim
 | some q =>
  obtain⟨n,q⟩:=q
  obtain⟨rfl,hn⟩:=xS e
  rw[e] at h2
  cases q with
  | lst xs=>exact h2.elim
  | ins c' ns xs =>
   have hn2:(m.μ++[Cell.lst xs'])[n]?=some (.ins c' ns xs):=by
    rw[List.getElem?_append_left (List.getElem?_eq_some_iff.mp hn).1]
    exact hn
   exact Zu (x:=.c m.μ.length) hC (R1.more s2) hn2 hw2 ⟨pn,by
    rw[<- R.mem.len,List.getElem?_append_right (Nat.le_refl _),Nat.sub_self]
    rfl,rfl⟩ (vN.later h2 (ex1.trans (Ext.same s2)))
theorem qgR {c:Expr}{a b:List Stmt}{t:RT}{ra rb:RM} (hc:PT X c (TTx X E t)) (ha:PSs X a (TMx X E ra)) (hb:PSs X b (TMx X E rb)):PS X (.If c a b pos) (TMx X E (mIf t ra rb)):=by
 refine vp (qeU hc ha hb) fun D σ H ⟨Gn,κ,m,R,h⟩=>⟨_,_,vA R,vN.do_ h fun x _ h1 H1 s1=>?_⟩
 cases x with
 | true=>exact⟨Gn,κ,m,R.more s1,vN.later h1 (Ext.same s1)⟩
 | false=>exact⟨Gn,κ,m,R.more s1,vN.later h1 (Ext.same s1)⟩
theorem YJ {e:Expr}{ie:IE} (he:PE X e (tIe X E ie)):PS X (.Return (some e) pos) (TMx X E (qcG ie)):=by
 refine vp (uh he) fun D σ H ⟨Gn,κ,m,R,h⟩=>⟨Gn,κ,m,R,vN.do_ h fun x _ h1 w H' s hw=>?_⟩
 exact h1 w κ H' (R.more s).mem hw (Ext.same s)
theorem qa2 {e:Expr}{ie:NE} (he:PE X e (tNe X E ie)):PS X (.Return (some e) pos) (TMx X E (Yx ie)):=by
 refine vp (uh he) fun D σ H ⟨Gn,κ,m,R,h⟩=>⟨Gn,κ,m,R,vN.do_ h fun xs _ h1 p vs H' hp s hv hi=>?_⟩
 obtain⟨M,ex⟩:=R.mem.new (x:=.lst xs) s hp ⟨vs,hv,hi⟩
 refine h1 (.ref p) (κ++[p]) H' M ⟨p,?_,rfl⟩ ex
 rw[<- R.mem.len,List.getElem?_append_right (Nat.le_refl _),Nat.sub_self]
 rfl
theorem qdn {x:Str}{C:Addr}{np cpos:Pos} (g:Gd X E) (hg:Gl X x) (hm:X.mg x=some (.ref C)) (hC:qO X.K C=true) (hd:autoParam ((x==("__debug__":Str))=false) vd._auto_1):PS X (.Raise (some (.Call (.Name x np) [] [] cpos)) none pos) (TMx X E (Js x)) :=
 vp (XZ g.calm g.acc hg hm hC hd) fun D σ H ⟨Gn,κ,m,R,h⟩=>h C H hm fun _ _ e _=>e
end
noncomputable def qcE (X:Cx) (Gn:Addr->Prop) (κ:List Addr) (H1:Hp) (g:TG) (tg:Tg) (J:It) (xs:List DK):Prop :=
 (∀ (i:Nat) (x:DK) (κ':List Addr) (σ':St) (m' m2:MS) (H2:Hp),xs[i]?=some x->MR X.mg X.K Gn κ' H2 σ' m'->Ext κ H1 κ' H2->tg.Qq x m'=some m2 ->
  J.go i H2/\∀ v H3,J.yld i H2 v H3->∀ Q:St->Hp->Prop,(∀ σ2 H4,MR X.mg X.K Gn κ' H4 σ2 m2->qy H2 H4->Q σ2 H4)->g v σ' H3 Q) /\
 ∀ (i:Nat) (κ':List Addr) (σ':St) (m':MS) (H2:Hp),xs.length <= i->MR X.mg X.K Gn κ' H2 σ' m'->Ext κ H1 κ' H2->J.stop i H2
noncomputable def tMI (X:Cx) (E:XK) (g:TG) (tg:Tg) (src:MI):TI:=fun σ H R=>∃ Gn κ m,MR X.mg X.K Gn κ H σ m/\qo X.mg E H (src m) fun xs=>∀ J H1,qy H H1->qcE X Gn κ H1 g tg J xs->R J H1
theorem ju {i:Nat}{x:DK}{y:Itm}{s:List (Option Itm)} (h:qH x=some y):put i x (s.map zY)=some ((s.set i (some y)).map zY):=by
 obtain⟨d,k⟩:=x
 unfold qH at h
 dsimp only at h
 rw[List.map_set]
 by_cases c:d.sc=true
 ·rw[if_pos c] at h
  cases h
  cases k with
  | bo=>exact if_pos c
  | sh=>show some ((s.map zY).set i (xy (d,if d.sc=true then .nw else .sh)))=_;rw[if_pos c];rfl
  | nw=>show some ((s.map zY).set i (xy (d,if d.sc=true then .nw else .nw)))=_;rw[if_pos c];rfl
  | fr=>show some ((s.map zY).set i (xy (d,if d.sc=true then .nw else .fr)))=_;rw[if_pos c];rfl
 ·rw[if_neg c] at h
  cases k with
  | bo=>cases h
  | sh=>cases h;show some ((s.map zY).set i (xy (d,if d.sc=true then .nw else .sh)))=_;rw[if_neg c];rfl
  | nw=>cases h;show some ((s.map zY).set i (xy (d,if d.sc=true then .nw else .nw)))=_;rw[if_neg c];rfl
  | fr=>cases h;show some ((s.map zY).set i (xy (d,if d.sc=true then .nw else .fr)))=_;rw[if_neg c];rfl
theorem qaY {tg:Tg}{x:DK}{m m2:MS} (h:tg.Qq x m=some m2):tg.put x (vy m)=some (vy m2):=by
 cases tg with
 | one i =>
  have h:(qH x).map (fun y=>(⟨m.s.set i (some y),m.μ⟩:MS))=some m2:=h
  cases e:qH x with
  | none=>rw[e] at h;cases h
  | some y=>rw[e] at h;cases h;exact ju e
 | two i j =>
  obtain⟨d,k⟩:=x
  match d,h with
  | .tup [a,b],h =>
   have h:(qH (a,k)).bind (fun y=>(qH (b,k)).map fun z=>(⟨(m.s.set i (some y)).set j (some z),m.μ⟩:MS))=some m2:=h
   cases e:qH (a,k) with
   | none=>rw[e] at h;cases h
   | some y =>
    cases e2:qH (b,k) with
    | none=>rw[e,e2] at h;cases h
    | some z =>
     rw[e,e2] at h
     cases h
     show (put i (a,k) (m.s.map zY)).bind (put j (b,k))=_
     rw[ju e]
     exact ju e2
theorem Wh {x:DK}{n:Nat} (h:qH x=some (.c n)):False:=by
 obtain⟨d,k⟩:=x
 unfold qH at h
 dsimp only at h
 by_cases c:d.sc=true
 ·rw[if_pos c] at h;cases h
 ·rw[if_neg c] at h
  cases k <;> cases h
theorem W0 {s:List (Option Itm)}{i l n:Nat}{y:Itm} (h:(s.set i (some y))[l]?=some (some (.c n))) (hy:∀ n,y ≠ .c n):i≠l/\s[l]?=some (some (.c n)):=by
 by_cases c:i=l
 ·subst c
  by_cases hi:i<s.length
  ·rw[List.getElem?_set_self hi] at h
   exact absurd (Option.some.inj (Option.some.inj h)) (hy n)
  ·rw[List.getElem?_eq_none (by rw[List.length_set];lia)] at h
   cases h
 ·rw[List.getElem?_set_ne c] at h
  exact⟨c,h⟩
theorem qaM {tg:Tg}{x:DK}{m m2:MS}{l n:Nat}{σ σ2:St} (h:tg.Qq x m=some m2) (st:tg.sets σ σ2) (e:m2.s[l]?=some (some (.c n))):m.s[l]?=some (some (.c n))/\σ2[l]?=σ[l]?:=by
 cases tg with
 | one i =>
  have h:(qH x).map (fun y=>(⟨m.s.set i (some y),m.μ⟩:MS))=some m2:=h
  cases q:qH x with
  | none=>rw[q] at h;cases h
  | some y =>
   rw[q] at h
   cases h
   obtain⟨c,r⟩:=W0 e (fun n z=>by rw[z] at q;exact Wh q)
   obtain⟨v,rfl⟩:=st
   exact⟨r,List.getElem?_set_ne c⟩
 | two i j =>
  obtain⟨d,k⟩:=x
  match d,h with
  | .tup [a,b],h =>
   have h:(qH (a,k)).bind (fun y=>(qH (b,k)).map fun z=>(⟨(m.s.set i (some y)).set j (some z),m.μ⟩:MS))=some m2:=h
   cases q:qH (a,k) with
   | none=>rw[q] at h;cases h
   | some y =>
    cases q2:qH (b,k) with
    | none=>rw[q,q2] at h;cases h
    | some z =>
     rw[q,q2] at h
     cases h
     obtain⟨c2,r2⟩:=W0 e (fun n w=>by rw[w] at q2;exact Wh q2)
     obtain⟨c1,r1⟩:=W0 r2 (fun n w=>by rw[w] at q;exact Wh q)
     obtain⟨v,w,rfl⟩:=st
     exact⟨r1,by rw[List.getElem?_set_ne c2,List.getElem?_set_ne c1]⟩
theorem qdT {tg:Tg}{x:DK}{m m2:MS} (h:tg.Qq x m=some m2):m2.μ=m.μ:=by
 cases tg with
 | one i =>
  have h:(qH x).map (fun y=>(⟨m.s.set i (some y),m.μ⟩:MS))=some m2:=h
  cases q:qH x with
  | none=>rw[q] at h;cases h
  | some y=>rw[q] at h;cases h;rfl
 | two i j =>
  obtain⟨d,k⟩:=x
  match d,h with
  | .tup [a,b],h =>
   have h:(qH (a,k)).bind (fun y=>(qH (b,k)).map fun z=>(⟨(m.s.set i (some y)).set j (some z),m.μ⟩:MS))=some m2:=h
   cases q:qH (a,k) with
   | none=>rw[q] at h;cases h
   | some y =>
    cases q2:qH (b,k) with
    | none=>rw[q,q2] at h;cases h
    | some z=>rw[q,q2] at h;cases h;rfl
theorem qcv {mg:Str->Option Value}{K:PySem.W.Frag}{Gn:Addr->Prop}{κ κ':List Addr}{H H2 H4:Hp}{σ' σ2:St}{m' m2:MS}{tg:Tg}{x:DK} (hg:∀ a,H a=none->Gn a) (e:Ext κ H κ' H2) (R':MR mg K Gn κ' H2 σ' m') (s:qy H2 H4) (R4:Rl mg K (B1 Gn κ H κ') H4 σ2 (vy m2)) (st:tg.sets σ' σ2) (hp:tg.Qq x m'=some m2):MR mg K Gn κ' H4 σ2 m2:=by
 refine⟨by rw[qdT hp];exact R'.mem.more s,?_,fun l y q=>?_⟩
 ·have:=R4.len
  unfold vy at this
  rw[List.length_map] at this
  exact this
 ·cases y with
  | c n =>
   obtain⟨q1,q2⟩:=qaM hp st q
   rw[q2]
   obtain⟨w,g1,g2⟩:=R'.sl l _ q1
   exact⟨w,g1,g2.ext (Ext.same s)⟩
  | v d k =>
   obtain⟨w,g1,g2⟩:=R4.val l d k (by unfold vy;rw[List.getElem?_map,q];rfl)
   refine⟨w,g1,Rp.weak g2 fun a g=>?_⟩
   have n:a∉κ':=fun z=>g.1 (.inl z)
   refine⟨n,fun z=>jP hg (g.2 z) fun y=>n ?_⟩
   obtain⟨i,hi,w⟩:=List.mem_iff_getElem.mp y
   exact List.mem_of_getElem? (e.pre i a (by rw[List.getElem?_eq_getElem hi,w]))
section
variable {X:Cx}{E:XK}{pos:Pos}
theorem qfc {tgE iter:Expr}{g:TG}{tg:Tg}{src:RI} (h:PI X tgE iter (tI X E g tg src)):PI X tgE iter (tMI X E g tg (qb0 src)):=by
 refine y1 h fun σ H R ⟨Gn,κ,m,R0,h⟩=>⟨_,_,ya Ext.refl R0,?_⟩
 refine qo.imp (qo.bind h) fun x h1 J H1 s1 W=>?_
 obtain⟨fl,xs⟩:=x
 cases fl with
 | false=>exact h1.elim
 | true =>
  refine h1 J H1 s1 ⟨fun i x κ' σ' m' m2 H2 hx R' e hp=>?_,fun i κ' σ' m' H2 hi R' e=>?_⟩
  ·have e0:Ext κ H κ' H2:=(Ext.same s1).trans e
   have kp:Kp true (B1 Gn κ H κ) (B1 Gn κ H κ') σ (vy m) H1 σ' (vy m') H2:=⟨rfl,fun b o q n=>⟨e.keep b o q fun z=>n (.inl z),fun z=>by
    rcases e.old b (JI z) with y | y
    ·exact n (.inl y)
    ·rw[q] at y;cases y⟩,fun z=>nomatch z⟩
   obtain⟨go,yl⟩:=W.1 (B1 Gn κ H κ') i x σ' (vy m') (vy m2) H2 hx (ya e0 R') kp (qaY hp)
   refine⟨go,fun v H3 hy Q hQ=>yl v H3 hy Q fun σ2 H4 R4 _ s4 st4=>hQ σ2 H4 (qcv R0.mem.gl e0 R' s4 R4 st4 hp) s4⟩
  ·have e0:Ext κ H κ' H2:=(Ext.same s1).trans e
   have kp:Kp true (B1 Gn κ H κ) (B1 Gn κ H κ') σ (vy m) H1 σ' (vy m') H2:=⟨rfl,fun b o q n=>⟨e.keep b o q fun z=>n (.inl z),fun z=>by
    rcases e.old b (JI z) with y | y
    ·exact n (.inl y)
    ·rw[q] at y;cases y⟩,fun z=>nomatch z⟩
   exact W.2 (B1 Gn κ H κ') i σ' (vy m') H2 hi (ya e0 R') kp
theorem Qe {tgE iter:Expr}{body:List Stmt}{g:TG}{tg:Tg}{src:MI}{rb:RM} (G:Gd X E) (hi:PI X tgE iter (tMI X E g tg src)) (hg:PG X tgE g) (hb:PSs X body (TMx X E rb)) (hs:autoParam (∀ x,foldedSetIterable iter X.env x=pure x) xI._auto_1) :
  PS X (.For tgE iter body [] pos) (TMx X E (Qz tg src rb)):=by
 refine vp (qcL G.own G.calm hi hg hb hs) fun D σ H ⟨Gn,κ,m,R,h⟩=>⟨Gn,κ,m,R,vN.do_ h fun xs _ h0 J H1 s1 W=>?_⟩
 have h1:=vN.later h0 (Ext.same s1)
 refine⟨fun i k σ' H'=>k=xs.length-i/\i <= xs.length/\∃ κ' m',MR X.mg X.K Gn κ' H' σ' m'/\Ext κ H1 κ' H'/\vN X.mg X.K E Gn κ' H' (wk tg rb (xs.drop i) m') D,⟨xs.length,by lia,Nat.zero_le _,κ,m,R.more s1,Ext.refl,h1⟩,?_⟩
 rintro i k σ' H' ⟨rfl,hi,κ',m',R',f',h'⟩
 by_cases hlt:i<xs.length
 ·right
  have hx:xs[i]?=some xs[i]:=List.getElem?_eq_getElem hlt
  rw[List.drop_eq_getElem_cons hlt] at h'
  unfold wk at h'
  cases hp:tg.Qq xs[i] m' with
  | none=>rw[hp] at h';exact h'.elim
  | some m2 =>
   rw[hp] at h'
   obtain⟨go,yl⟩:=W.1 i xs[i] κ' σ' m' m2 H' hx R' f' hp
   refine⟨go,fun σ2 H2=>i+1 <= xs.length/\∃ κ2 m3,MR X.mg X.K Gn κ2 H2 σ2 m3/\Ext κ H1 κ2 H2/\vN X.mg X.K E Gn κ2 H2 (wk tg rb (xs.drop (i+1)) m3) D,fun σ2 H2 ⟨q1,κ2,m3,q2,q3,q4⟩=>⟨xs.length-(i+1),by lia,rfl,q1,κ2,m3,q2,q3,q4⟩,fun v H3 hy=>?_⟩
   refine yl v H3 hy _ fun σ2 H4 R2 s4=>⟨Gn,κ',m2,R2,?_⟩
   have f4:=f'.trans (Ext.same s4)
   dsimp only at h'
   cases hb:rb m2 with
   | nx m3=>rw[hb] at h';exact fun κ3 σ3 H5 R3 f3=>⟨hlt,κ3,m3,R3,f4.trans f3,vN.later h' ((Ext.same s4).trans f3)⟩
   | ct m3=>rw[hb] at h';exact fun κ3 σ3 H5 R3 f3=>⟨hlt,κ3,m3,R3,f4.trans f3,vN.later h' ((Ext.same s4).trans f3)⟩
   | bk m3=>rw[hb] at h';exact fun κ3 σ3 H5 R3 f3=>h' κ3 σ3 H5 R3 ((Ext.same s4).trans f3)
   | rt x μ=>rw[hb] at h';exact vN.later (o:=.rt x μ) h' (Ext.same s4)
   | er c=>rw[hb] at h';exact vN.later (o:=.er c) h' (Ext.same s4)
   | no=>rw[hb] at h';exact h'
 ·left
  have e:i=xs.length:=by lia
  subst e
  rw[List.drop_length] at h'
  exact⟨W.2 _ κ' σ' m' H' (Nat.le_refl _) R' f',h' κ' σ' H' R' Ext.refl⟩
theorem YF {i:Nat}{z:Int}{κ':List Addr}{σ':St}{m' m2:MS}{H2:Hp}{Gn:Addr->Prop} (R':MR X.mg X.K Gn κ' H2 σ' m') (hp:(Tg.one i).Qq (.int z,.nw) m'=some m2):MR X.mg X.K Gn κ' H2 (σ'.set i (some (.int z))) m2:=by
 have hp:(some ⟨m'.s.set i (some (.v (.int z) true)),m'.μ⟩:Option MS)=some m2:=hp
 cases hp
 exact R'.qeL (Rp.int z)
theorem qbv {i:Nat}{tgE a:Expr}{r:RE}{p:Pos} (hg:Gl X "range") (hm:X.mg "range"=none) (ha:PE X a (TEx X E r)) (hs:autoParam (starEach [a] X.env=[(false,eval a X.env)]) qt._auto_1):PI X tgE (.Call (.Name "range" p) [a] [] pos) (tMI X E (w4 i) (.one i) (vP (wA r))):=by
 refine y1 (ZH hg hm (vQ ha zS hs) hs) fun σ H R ⟨Gn,κ,m,R0,h⟩=>⟨_,_,vA R0,?_⟩
 refine qo.imp (qo.bind (qo.bind h)) fun x h1 v H1 s1 vr=>?_
 obtain⟨d,k⟩:=x
 obtain⟨z,e,g9⟩:=qg2 h1
 clear h1
 subst e
 by_cases c : -1000000<z/\z<1000000
 ·rw[if_pos c] at g9
  have ev:=vf (vA R0) vr
  subst ev
  refine⟨z,rfl,by lia,by lia,g9 _ H1 s1 ⟨fun n x κ' σ' m' m2 H2 hx R' f hp=>?_,fun n κ' σ' m' H2 hn R' f=>(show z.toNat <= n by rw[List.length_map,List.length_range] at hn;exact hn)⟩⟩
  rw[List.getElem?_map] at hx
  cases hd:(List.range z.toNat)[n]? with
  | none=>rw[hd] at hx;cases hx
  | some l =>
   rw[hd] at hx
   cases hx
   obtain⟨hlt,e⟩:=List.getElem?_eq_some_iff.mp hd
   rw[List.length_range] at hlt
   rw[List.getElem_range] at e
   subst e
   refine⟨hlt,fun u H3 hy Q hQ=>?_⟩
   obtain⟨rfl,rfl⟩:=hy
   refine hQ _ _ ?_ fun _ _ e=>e
   rw[Int.zero_add]
   exact YF R' hp
 ·rw[if_neg c] at g9
  exact g9.elim
theorem Z6 {i:Nat}{tgE a b:Expr}{r q:RE}{p:Pos} (hg:Gl X "range") (hm:X.mg "range"=none) (ha:PE X a (TEx X E r)) (hb:PE X b (TEx X E q)) (hs:autoParam (starEach [a,b] X.env=[(false,eval a X.env),(false,eval b X.env)]) qt._auto_1) (hs2:autoParam (starEach [b] X.env=[(false,eval b X.env)]) qt._auto_1) :
  PI X tgE (.Call (.Name "range" p) [a,b] [] pos) (tMI X E (w4 i) (.one i) (vP (zC r q))):=by
 refine y1 (qbx hg hm (vQ ha (vQ hb zS hs2) (by rw[hs,hs2])) hs hs2) fun σ H R ⟨Gn,κ,m,R0,h⟩=>⟨_,_,vA R0,?_⟩
 refine qo.imp (qo.bind (qo.bind h)) fun x h1 v H1 s1 vr=>⟨_,_,vA (R0.more s1),?_⟩
 refine qo.imp (qo.more (qo.bind h1) s1) fun y h2 w H2 s2 vw=>?_
 obtain⟨d,k⟩:=x
 obtain⟨d',k'⟩:=y
 obtain⟨z,y,e,e2,g9⟩:=qhJ h2
 clear h2
 subst e e2
 by_cases c:(-1000000<z/\z<1000000) /\ -1000000<y/\y<1000000
 ·rw[if_pos c] at g9
  have ev:=vf (vA R0) vr
  subst ev
  have ew:=vf (vA (R0.more s1)) vw
  subst ew
  refine⟨z,y,rfl,by lia,g9 _ H2 (s1.trans s2) ⟨fun n x κ' σ' m' m2 H2 hx R' f hp=>?_,fun n κ' σ' m' H2 hn R' f=>(show (y-z).toNat <= n by rw[List.length_map,List.length_range] at hn;exact hn)⟩⟩
  rw[List.getElem?_map] at hx
  cases hd:(List.range (y-z).toNat)[n]? with
  | none=>rw[hd] at hx;cases hx
  | some l =>
   rw[hd] at hx
   cases hx
   obtain⟨hlt,e⟩:=List.getElem?_eq_some_iff.mp hd
   rw[List.length_range] at hlt
   rw[List.getElem_range] at e
   subst e
   refine⟨hlt,fun u H3 hy Q hQ=>?_⟩
   obtain⟨rfl,rfl⟩:=hy
   exact hQ _ _ (YF R' hp) fun _ _ e=>e
 ·rw[if_neg c] at g9
  exact g9.elim
end
noncomputable def qbQ (mg:Str->Option Value) (K:PySem.W.Frag) (E:XK) (Gn:Addr->Prop) (κ:List Addr) (H:Hp) (o:qaF) (Q:VK):Prop:=match o with
 | .ok x μ=>∀ w κ' H',Mem mg K Gn κ' H' μ->ItR mg K Gn κ' H' w x->Ext κ H κ' H'->Q w H'
 | .er c=>∀ C H',mg c=some (.ref C)->(∀ a o,H a=some o->a∉κ->H' a=some o)->E (.ref C) none H'
 | .no=>False
noncomputable def spM (mg:Str->Option Value) (K:PySem.W.Frag) (n:Nat) (g:Fm):Sp:=fun vs H Q E=>∃ Gn κ μ xs,xs.length=n/\Mem mg K Gn κ H μ/\Its mg K Gn κ H vs xs/\qbQ mg K E Gn κ H (g xs μ) Q
noncomputable def FdM (P:Program) (w:World) (K:PySem.W.Frag) (mg:Str->Option Value) (base:Heap) (k:Nat) (x:Str) (n:Nat) (g:Fm):Prop :=
 ∃ (f:Addr) (fd:FuncData) (ps:List Str),xX P w K mg base (CX1 P w) k f fd ps (spM mg K n g)/\mg x=some (.ref f)/\PySem.W.keepIn K (.ref f)=true/\Binds K fd ps []
noncomputable def FdI (P:Program) (w:World) (K:PySem.W.Frag) (mg:Str->Option Value) (base:Heap) (k:Nat) (c:Str) (n:Nat) (g:Fm):Prop :=
 ∃ (C f:Addr) (fd:FuncData) (ps:List Str),Mk K C f/\xX P w K mg base (CX1 P w) k f fd ps (spM mg K n g)/\mg c=some (.ref C)/\Binds K fd ps []
theorem mr0 {mg:Str->Option Value}{K:PySem.W.Frag}{Gn:Addr->Prop}{κ:List Addr}{H:Hp}{N:List Str}{vs:List V}{xs:List Itm}{μ:List Cell} (M:Mem mg K Gn κ H μ) (r:Its mg K Gn κ H vs xs):MR mg K Gn κ H (start N vs) ⟨ms0 N xs,μ⟩:=by
 refine⟨M,?_,fun i x e=>?_⟩
 ·unfold start ms0
  rw[List.length_append,List.length_append,List.length_map,List.length_map,List.length_replicate,List.length_replicate,r.len]
 ·have e:(ms0 N xs)[i]?=some (some x):=e
  unfold ms0 at e
  by_cases h:i<xs.length
  ·rw[List.getElem?_append_left (by rw[List.length_map];exact h),List.getElem?_map,List.getElem?_eq_getElem h] at e
   have e2:xs[i]?=some x:=by rw[List.getElem?_eq_getElem h];exact Option.some.inj e
   obtain⟨w,h1,h2⟩:=r.get e2
   refine⟨w,?_,h2⟩
   have hl:i<vs.length:=(List.getElem?_eq_some_iff.mp h1).1
   unfold start
   rw[List.getElem?_append_left (by rw[List.length_map];exact hl),List.getElem?_map,h1]
   rfl
  ·rw[List.getElem?_append_right (by rw[List.length_map];lia)] at e
   have:=(List.mem_replicate.mp (List.mem_of_getElem? e)).2
   cases this
section
variable {P:Program}{w:World}{K:PySem.W.Frag}{mg:Str->Option Value}{base:Heap}
theorem UR {x q:Str}{st:Stmt}{f:Addr}{fd:FuncData}{N ps:List Str}{k n:Nat}{r:RM} (F:Fun K x q st f fd) (S:qw N ps (qg st)) (hn:ps.length=n)
  (body:∀ (cdv:Value) (A:Around) (outer:List Env) (s:Shared) (H:Hp) (E:XK),wN k (A.deeper (envOfC q (qg st) s.heap.objs.size f cdv)) ->
   PSs (jv P w K mg base N q (qg st) f cdv A outer s H E) (vC st) (tM mg K E r)):xX P w K mg base (CX1 P w) (k+1) f fd ps (spM mg K n fun xs μ=>xC (r ⟨ms0 N xs,μ⟩)):=by
 obtain⟨oc,od,kV,doc,pm,an,cdv,ct,osl,rfl,lk,hcd⟩:=F.ex
 refine qak lk hcd S ?_ fun A outer s H vs Q E hroom hsp=>?_
 ·rintro vs H Q E ⟨Gn,κ,μ,xs,hl,_,rp,_⟩
  rw[rp.len,hl,hn]
 ·obtain⟨Gn,κ,μ,xs,hl,M,rp,h⟩:=hsp
  refine⟨_,Wa (body cdv A outer s H E hroom) Y5,Gn,κ,⟨ms0 N xs,μ⟩,mr0 M rp,?_⟩
  have h:qbQ mg K E Gn κ H (xC (r ⟨ms0 N xs,μ⟩)) Q:=h
  cases ho:r ⟨ms0 N xs,μ⟩ with
  | rt x μ'=>rw[ho] at h;exact fun w κ' H' M' r' e=>h w κ' H' M' r' e
  | nx m'=>rw[ho] at h;exact fun κ' σ' H' R e=>h .non κ' H' R.mem Rp.non e
  | er c=>rw[ho] at h;exact fun C H' e s=>h C H' e s
  | bk m'=>rw[ho] at h;exact h.elim
  | ct m'=>rw[ho] at h;exact h.elim
  | no=>rw[ho] at h;exact h.elim
theorem qfo {x:Str}{st:Stmt}{f:Addr}{fd:FuncData}{N ps:List Str}{k n:Nat}{r:RM}{g:Fm} (F:Fun K x x st f fd) (S:qw N ps (qg st)) (hm:mg x=some (.ref f)) (hb:Binds K fd ps []) (hn:ps.length=n)
  (body:∀ (cdv:Value) (A:Around) (outer:List Env) (s:Shared) (H:Hp) (E:XK),wN k (A.deeper (envOfC x (qg st) s.heap.objs.size f cdv)) ->
   PSs (jv P w K mg base N x (qg st) f cdv A outer s H E) (vC st) (tM mg K E r)) (hg:∀ xs μ,g xs μ=xC (r ⟨ms0 N xs,μ⟩)):FdM P w K mg base (k+1) x n g:=by
 have e:g=fun xs μ=>xC (r ⟨ms0 N xs,μ⟩):=by funext xs μ;exact hg xs μ
 rw[e]
 exact⟨f,fd,ps,UR F S hn body,hm,F.kp,hb⟩
end
theorem YO {mg:Str->Option Value}{K:PySem.W.Frag}{Gn:Addr->Prop}{κ:List Addr}{H:Hp}{μ:List Cell} (M:Mem mg K Gn κ H μ) (hk:∀ p∈κ,Gn p):∀ (f:Nat) (w:V) (x:Itm) (d:D),w8 μ f x=some d->ItR mg K Gn κ H w x->Rp mg K Gn H w d
 | f,w,.v d k,d',e,h=>by
  have e:(if d.sc=true\/k=true then some d else none)=some d':=by cases f <;> exact e
  by_cases c:d.sc=true\/k=true
  ·rw[if_pos c] at e
   cases e
   rcases c with c | c
   ·rw[Rp.sc h c]
    exact Rp.wX c
   ·exact Rp.weak h fun a g=>g.2 c
  ·rw[if_neg c] at e
   cases e
 | 0,w,.c n,d,e,h=>by cases e
 | f+1,w,.c n,d,e,h=>by
  obtain⟨p,hp,rfl⟩:=h
  have gp:Gn p:=hk p (List.mem_of_getElem? hp)
  unfold w8 at e
  cases hn:μ[n]? with
  | none=>rw[hn] at e;cases e
  | some y =>
   rw[hn] at e
   have q:=M.cel n p y hp hn
   cases y with
   | lst xs =>
    obtain⟨vs,q1,q2⟩:=q
    cases hm:xs.mapM (w8 μ f) with
    | none=>dsimp only at e;rw[hm] at e;cases e
    | some ds =>
     dsimp only at e
     rw[hm] at e
     cases e
     exact .lst gp (.of q1) (xD (fun w x d e h=>YO M hk f w x d e h) q2 hm)
   | ins c ns xs =>
    obtain⟨C,dx,vs,q0,q1,ql,q2⟩:=q
    cases hm:xs.mapM (w8 μ f) with
    | none=>dsimp only at e;rw[hm] at e;cases e
    | some ds =>
     dsimp only at e
     rw[hm] at e
     cases e
     exact .obj gp q0 q1 ql (xD (fun w x d e h=>YO M hk f w x d e h) q2 hm)
section
variable {P:Program}{w:World}{K:PySem.W.Frag}{mg:Str->Option Value}{base:Heap}
theorem qfp {x:Str}{st:Stmt}{f:Addr}{fd:FuncData}{N ps:List Str}{k n:Nat}{r:RM}{g:Fn} (F:Fun K x x st f fd) (S:qw N ps (qg st)) (hm:mg x=some (.ref f)) (hb:Binds K fd ps []) (hn:ps.length=n)
  (body:∀ (cdv:Value) (A:Around) (outer:List Env) (s:Shared) (H:Hp) (E:XK),wN k (A.deeper (envOfC x (qg st) s.heap.objs.size f cdv)) ->
   PSs (jv P w K mg base N x (qg st) f cdv A outer s H E) (vC st) (tM mg K E r)) (hg:∀ ds,g ds=V4 (r ⟨ms0 N (it0 ds),[]⟩)):Fd P w K mg base (k+1) x n g:=by
 refine⟨f,fd,ps,xX.imp (UR F S hn body) fun vs H Q E ⟨ds,hl,rp,h⟩=>?_,hm,F.kp,hb⟩
 refine⟨fun a=>H a=none,[],[],it0 ds,by unfold it0;rw[List.length_map];exact hl,⟨List.nodup_nil,rfl,fun n p x e _=>(by simp at e),fun a e=>e⟩,?_,?_⟩
 ·exact Its.vals (rp.weak fun a _=>⟨(fun z=>by cases z),fun z=>by cases z⟩)
 rw[hg ds] at h
 show qbQ mg K E (fun a=>H a=none) [] H (xC (r ⟨ms0 N (it0 ds),[]⟩)) Q
 cases ho:r ⟨ms0 N (it0 ds),[]⟩ with
 | bk m'=>rw[ho] at h;exact h.elim
 | ct m'=>rw[ho] at h;exact h.elim
 | no=>rw[ho] at h;exact h.elim
 | er c=>rw[ho] at h;exact fun C H' e s=>h C H' e fun a o q=>s a o q (fun z=>nomatch z)
 | nx m' =>
  rw[ho] at h
  intro w κ' H' M' r' e
  have h:∀ v H',qy H H'->RR mg K H H' false v .non->Q v H':=h
  cases r' with
  | non=>exact h .non H' (fun a o q=>e.keep a o q (fun z=>nomatch z)) Rp.non
 | rt x μ' =>
  rw[ho] at h
  intro w κ' H' M' r' e
  have sm:qy H H':=fun a o q=>e.keep a o q (fun z=>nomatch z)
  have hk:∀ p∈κ',H p=none:=fun p hp=>(e.old p hp).elim (fun z=>nomatch z) id
  have h:qo mg E H (WT μ' x) fun y=>∀ v H',qy H H'->RR mg K H H' y.2 v y.1->Q v H':=h
  unfold WT at h
  cases hv:w8 μ' 3 x with
  | none=>rw[hv] at h;exact h.elim
  | some d =>
   rw[hv] at h
   have rp2:=YO (Gn:=fun a=>H a=none) M' hk 3 w x d hv r'
   cases x with
   | v d' k' =>
    have h:∀ v H',qy H H'->RR mg K H H' false v d->Q v H':=by cases d <;> exact h
    exact h w H' sm rp2
   | c n' =>
    cases d with
    | lst ds' =>
     have h:∀ v H',qy H H'->RR mg K H H' (ds'.all D.sc) v (.lst ds')->Q v H':=h
     refine h w H' sm ?_
     cases c:ds'.all D.sc with
     | false=>exact rp2
     | true =>
      obtain⟨p,hp,rfl⟩:=r'
      have e3:(match μ'[n']? with
       | some (.lst xs)=>(xs.mapM (w8 μ' 2)).map D.lst
       | some (.ins c ns xs)=>(xs.mapM (w8 μ' 2)).map (D.obj c ns)
       | none=>none)=some (.lst ds'):=hv
      cases hn':μ'[n']? with
      | none=>rw[hn'] at e3;cases e3
      | some y =>
       rw[hn'] at e3
       cases y with
       | ins c ns xs =>
        dsimp only at e3
        cases hm':xs.mapM (w8 μ' 2) with
        | none=>rw[hm'] at e3;cases e3
        | some es=>rw[hm'] at e3;cases e3
       | lst xs =>
        dsimp only at e3
        cases hm':xs.mapM (w8 μ' 2) with
        | none=>rw[hm'] at e3;cases e3
        | some es =>
         rw[hm'] at e3
         cases e3
         obtain⟨vs',q1,q2⟩:=M'.cel n' p _ hp hn'
         have ra:=xD (fun w x d e h=>YO M' hk 2 w x d e h) q2 hm'
         refine⟨p,_,rfl,rfl,c,hk p (List.mem_of_getElem? hp),?_⟩
         rw[q1,ra.sc c]
    | obj c ns ds'=>exact h w H' sm rp2
    | non=>exact h w H' sm rp2
    | bl b=>exact h w H' sm rp2
    | int z=>exact h w H' sm rp2
    | tup ts=>exact h w H' sm rp2
    | fn y=>exact h w H' sm rp2
end
section
variable {X:Cx}{E:XK}{pos:Pos}
theorem Xk {g:Fm}{n:Nat}{es:List IE}{σ:St}{H:Hp}{Q:VK} (hn:es.length=n)
  (h:∃ Gn κ m,MR X.mg X.K Gn κ H σ m/\qo X.mg E H (zv es m) fun xs=>∀ vs H1,qy H H1->Its X.mg X.K Gn κ H1 vs xs->qbQ X.mg X.K E Gn κ H1 (g xs m.μ) Q):qbM (spM X.mg X.K n g) [] E (tMA X E es) σ H Q:=by
 obtain⟨Gn,κ,m,R,h⟩:=h
 refine⟨Gn,κ,m,R,?_⟩
 have hl:∀ {es:List IE}{xs:List Itm},zv es m = .ok xs->xs.length=es.length:=by
  intro es
  induction es with
  | nil=>intro xs e;cases e;rfl
  | cons e es ih =>
   intro xs h
   have h:(e m).bind (fun x=>(zv es m).bind fun xs=>.ok (x::xs)) = .ok xs:=h
   cases h1:e m with
   | er c=>rw[h1] at h;cases h
   | no=>rw[h1] at h;cases h
   | ok x =>
    cases h2:zv es m with
    | er c=>rw[h1,Rs.qP,h2] at h;cases h
    | no=>rw[h1,Rs.qP,h2] at h;cases h
    | ok ys =>
     rw[h1,Rs.qP,h2] at h
     cases h
     rw[List.length_cons,List.length_cons,ih h2]
 cases ha:zv es m with
 | er c=>rw[ha] at h;exact h
 | no=>rw[ha] at h;exact h
 | ok xs =>
  rw[ha] at h
  intro vs H1 s1 r
  exact⟨Gn,κ,m.μ,xs,by rw[hl ha,hn],(R.more s1).mem,by rw[List.append_nil];exact r,h vs H1 s1 r⟩
theorem qcN {Gn:Addr->Prop}{κ:List Addr}{H H1:Hp}{D:Ends}{o:qaF}{Q:VK}{f:Itm->List Cell->wH} (s1:qy H H1)
  (h:vN X.mg X.K E Gn κ H (match o with | .ok x μ=>f x μ | .er c=>.er c | .no=>.no) D) (k:∀ x μ,vN X.mg X.K E Gn κ H1 (f x μ) D->∀ w κ' H',Mem X.mg X.K Gn κ' H' μ->ItR X.mg X.K Gn κ' H' w x->Ext κ H1 κ' H'->Q w H'):qbQ X.mg X.K E Gn κ H1 o Q:=by
 cases o with
 | ok x μ=>exact k x μ (vN.later h (Ext.same s1))
 | er c=>exact vN.later (o:=.er c) h (Ext.same s1)
 | no=>exact h.elim
theorem X2 {x:Str}{p:Pos}{e:Expr}{es:List Expr}{ies:List IE}{g:Fm}{n k:Nat} (acc:Acc X E) (F:FdM X.prog X.w X.K X.mg X.base k x n g) (hr:wN k X.A) (hg:Gl X x) (hn:ies.length=n) (ha:PA X (e::es) (tMA X E ies))
  (hdb:autoParam ((x==("__debug__":Str))=false) vd._auto_1) (he:autoParam (starEach (e::es) X.env=(false,eval e X.env)::starEach es X.env) qt._auto_1) {cpos:Pos} (hpl:autoParam ((backTo cpos (starEach es X.env)).any (·.1)=false) qt._auto_1) (hs:autoParam (swapsWith (.Call (.Name x p) (e::es) [] cpos) none pos.line X.env=pure false) qt._auto_1) :
  PS X (.Expr (.Call (.Name x p) (e::es) [] cpos) pos) (TMx X E (xi g ies)):=by
 obtain⟨f,fd,ps,F,hm,hk,hb⟩:=F
 refine vp (Q7 (YN F hr hg hm hk hb .nil (xr acc) ha hdb he hpl) hs) fun D σ H ⟨Gn,κ,m,R,h⟩=>Xk hn ⟨Gn,κ,m,R,?_⟩
 refine vN.do_ h fun xs _ h1 vs H1 s1 r=>qcN (f:=fun _ μ=>.nx ⟨m.s,μ⟩) s1 h1 fun x μ h2 w κ' H' M _ ex=>?_
 exact h2 κ' σ H' ((R.more s1).after ex M) ex
theorem qc4 (i:Nat) {c y:Str}{p pos':Pos}{e:Expr}{es:List Expr}{ies:List IE}{g:Fm}{n k:Nat} (G:Gd X E) (F:FdI X.prog X.w X.K X.mg X.base k c (n+1) g) (hr:wN (k+1) X.A) (hg:Gl X c) (hn:ies.length=n) (ha:PA X (e::es) (tMA X E ies))
  (hdb:autoParam ((c==("__debug__":Str))=false) vd._auto_1) (he:autoParam (starEach (e::es) X.env=(false,eval e X.env)::starEach es X.env) qt._auto_1) {cpos:Pos} (hpl:autoParam ((backTo cpos (starEach es X.env)).any (·.1)=false) qt._auto_1)
  (hi:autoParam (X.N[i]?=some y) qt._auto_1) (hx:autoParam (Loc X.env.scope y) Wb._auto_1) (hs:autoParam (swapsWith (.Call (.Name c p) (e::es) [] cpos) (some (.Name y pos')) pos.line X.env=pure false) qt._auto_1)
  (hf:autoParam (X.fn y=true\/X.env.scope.names.lookup y=some .local) WM._auto_1) (hret:∀ xs μ x μ',g xs μ = .ok x μ'->x = .v .non true):PS X (.Assign [.Name y pos'] (.Call (.Name c p) (e::es) [] cpos) pos) (TMx X E (Vy i c g ies)):=by
 obtain⟨C,f,fd,ps,Mk,F,hm,hb⟩:=F
 refine vp (Wv G.nd hi hx (qd4 Mk F hr hg hm hb .nil (xr G.acc) ha hdb he hpl) hs hf) fun D σ H ⟨Gn,κ,m,R,h⟩=>⟨Gn,κ,m,R,?_⟩
 have hl:∀ {es:List IE}{xs:List Itm},zv es m = .ok xs->xs.length=es.length:=by
  intro es
  induction es with
  | nil=>intro xs e;cases e;rfl
  | cons e es ih =>
   intro xs h
   have h:(e m).bind (fun x=>(zv es m).bind fun xs=>.ok (x::xs)) = .ok xs:=h
   cases h1:e m with
   | er c=>rw[h1] at h;cases h
   | no=>rw[h1] at h;cases h
   | ok x =>
    cases h2:zv es m with
    | er c=>rw[h1,Rs.qP,h2] at h;cases h
    | no=>rw[h1,Rs.qP,h2] at h;cases h
    | ok ys =>
     rw[h1,Rs.qP,h2] at h
     cases h
     rw[List.length_cons,List.length_cons,ih h2]
 refine vN.do_ h fun xs hxs h1 vs H1 s1 r q dq hq hdq hne=>?_
 have R1:=R.more s1
 have sd:qy H1 (upd H1 dq (.own q)):=vX hdq
 have hq2:(upd H1 dq (.own q)) q=none:=by rw[qA (fun z=>hne z.symm)];exact hq
 have sq:qy (upd H1 dq (.own q)) (upd (upd H1 dq (.own q)) q (.ins C dq [])):=vX hq2
 obtain⟨M2,ex2⟩:=R1.mem.new (x:=.ins c [] []) (sd.trans sq) hq ⟨C,dq,[],hm,by rw[qL];rfl,rfl,trivial⟩
 have R2:=R1.after ex2 M2
 have hc:ItR X.mg X.K Gn (κ++[q]) (upd (upd H1 dq (.own q)) q (.ins C dq [])) (.ref q) (.c m.μ.length):=⟨q,by
  rw[<- R.mem.len,List.getElem?_append_right (Nat.le_refl _),Nat.sub_self]
  rfl,rfl⟩
 refine⟨Gn,κ++[q],m.μ++[.ins c [] []],.c m.μ.length::xs,by rw[List.length_cons,hl hxs,hn],M2,by rw[List.append_nil];exact⟨hc,r.ext ex2⟩,?_⟩
 have ex12:=(Ext.same s1).trans ex2
 have h1:=vN.later h1 ex12
 cases hres:g (.c m.μ.length::xs) (m.μ++[.ins c [] []]) with
 | no=>rw[hres] at h1;exact h1.elim
 | er c'=>rw[hres] at h1;exact h1
 | ok x μ =>
  rw[hres] at h1
  intro w κ' H' M rw' ex
  have ex0:=hret _ _ _ _ hres
  subst ex0
  cases (show Rp _ _ _ _ w .non from rw') with
  | non =>
   refine⟨rfl,?_⟩
   have hc':=hc.ext ex
   exact h1 κ' _ H' ((R2.after ex M).qeL (m:=⟨m.s,μ⟩) hc') ex
end
end L2.Ir
set_option maxHeartbeats 4000000
namespace L2.Ir
open PySem PySem.Spec PyProof.Rows
section
variable {X:Cx}{E:XK}{pos:Pos}
theorem VS:∀ {ys:List DK}{y:DK}{xs:List Itm},zm (ys++[y]) = .ok xs->∃ xs' x,zm ys = .ok xs'/\qH (y.1,y.2.low .nw)=some x/\xs=xs'++[x]
 | [],y,xs,h=>by
  have h:(xJ (qH (y.1,y.2.low .nw))).bind (fun x=>(zm []).bind fun xs=>.ok (x::xs)) = .ok xs:=h
  cases e:qH (y.1,y.2.low .nw) with
  | none=>rw[e] at h;cases h
  | some x=>rw[e] at h;cases h;exact⟨[],x,rfl,rfl,rfl⟩
 | z::ys,y,xs,h=>by
  have h:(xJ (qH (z.1,z.2.low .nw))).bind (fun x=>(zm (ys++[y])).bind fun xs=>.ok (x::xs)) = .ok xs:=h
  cases e:qH (z.1,z.2.low .nw) with
  | none=>rw[e] at h;cases h
  | some x =>
   rw[e] at h
   cases e2:zm (ys++[y]) with
   | er c=>rw[e2] at h;cases h
   | no=>rw[e2] at h;cases h
   | ok rs =>
    rw[e2] at h
    cases h
    obtain⟨xs',x2,q1,q2,rfl⟩:=VS e2
    refine⟨x::xs',x2,?_,q2,rfl⟩
    show (xJ (qH (z.1,z.2.low .nw))).bind (fun x=>(zm ys).bind fun xs=>.ok (x::xs))=_
    rw[e,q1]
    rfl
theorem qfP {Gn:Addr->Prop}{κ:List Addr}{H H':Hp}{σ:St}{m:MS}{vs:List Nat}{D0:Addr} (hg:∀ a,H a=none->Gn a) {acc:List V}{ys:List DK} (h:VAs X.mg X.K (Bd (B1 Gn κ H κ) σ (vy m) vs D0) (wipe σ vs) (clear (vy m) vs) H' acc ys):∀ {xs:List Itm},zm ys = .ok xs->Its X.mg X.K Gn (κ++[D0]) H' acc xs:=by
 induction h with
 | nil=>intro xs e;cases e;trivial
 | @snoc ws ys v y _ r ih =>
  intro xs e
  obtain⟨xs',x,q1,q2,rfl⟩:=VS e
  refine (ih q1).append ⟨?_,trivial⟩
  have nk:∀ a,¬ vx (Bd (B1 Gn κ H κ) σ (vy m) vs D0) (wipe σ vs) (clear (vy m) vs) a->a∉κ++[D0]/\a∉κ:=fun a n=>by
   have n1:a∉κ:=fun z=>n (uj.mpr (.inr (.inl z)))
   refine⟨fun z=>?_,n1⟩
   rcases List.mem_append.mp z with z | z
   ·exact n1 z
   ·exact n (uj.mpr (.inl (List.mem_singleton.mp z)))
  unfold qH at q2
  dsimp only at q2
  by_cases c:y.1.sc=true
  ·rw[if_pos c] at q2
   cases q2
   exact UQ c _ r
  ·rw[if_neg c] at q2
   revert r q2
   cases y.2.low .nw with
   | bo=>intro _ q2;cases q2
   | sh=>intro r q2;cases q2;exact Rp.weak r fun a g=>⟨(nk a g).1,fun z=>nomatch z⟩
   | nw=>intro r q2;cases q2;exact Rp.weak r fun a g=>⟨(nk a g.1).1,fun _=>jP hg g.2 (nk a g.1).2⟩
   | fr=>intro r q2;cases q2;exact Rp.weak r fun a g=>⟨(nk a g.1).1,fun _=>jP hg g.2 (nk a g.1).2⟩
theorem qc7 {g:TG}{tg:Tg}{src:RI}{t:RT}{r:RE}{vs:List Nat}{σ:St}{H:Hp}{Q:VK} (hv:tg.within vs) (h:tNe X E (VU tg src t r vs) σ H Q) :
  tLc (tI X E g tg src) g (TTx X E t) (TEx X E r) vs σ H Q:=by
 obtain⟨Gn,κ,m,R,h⟩:=h
 refine WN hv ⟨_,_,ya Ext.refl R,qo.imp (qo.bind h) fun x h1=>?_⟩
 by_cases c:x.2.length<LIM
 ·rw[if_pos c] at h1
  refine⟨c,qo.imp (qo.bind h1) fun ys h2 D0 acc H' hD s hacc va=>?_⟩
  cases e:zm ys with
  | no=>rw[e] at h2;exact h2.elim
  | er c =>
   exfalso
   clear h2 va hacc
   induction ys with
   | nil=>cases e
   | cons y ys ih =>
    have e:(xJ (qH (y.1,y.2.low .nw))).bind (fun x=>(zm ys).bind fun xs=>.ok (x::xs)) = .er c:=e
    cases e1:qH (y.1,y.2.low .nw) with
    | none=>rw[e1] at e;cases e
    | some x =>
     rw[e1] at e
     cases e2:zm ys with
     | no=>rw[e2] at e;cases e
     | ok xs=>rw[e2] at e;cases e
     | er c2=>rw[e2] at e;cases e;exact ih e2
  | ok xs =>
   rw[e] at h2
   exact h2 D0 acc H' hD s hacc (qfP R.mem.gl va.1 e)
 ·rw[if_neg c] at h1
  exact h1.elim
theorem qdH {elt tgE iter:Expr}{ifs:List Expr}{scope:Scope}{own:List (Str × Nat)}{g:TG}{tg:Tg}{src:RI}{t:RT}{r:RE}{LF:Addr} (hc:X.calm=true) (hN:X.N.Nodup) (acc:Acc X E) (hst:X.stack=X.env::X.outer) (hfr:X.env.frame=some LF)
  (hi:PI X tgE iter (tI X E g tg src)) (ok:jw X.N X.env.scope scope own=true) (hv:tg.within (own.map (·.2)))
  (hg:∀ (s:Shared) (H:Hp) (C:Addr) (cl:List (Str × Addr)) (fp:List Addr),PG (jA X E s H scope (compEnvC scope cl C X.env) fp) tgE g)
  (ht:∀ (s:Shared) (H:Hp) (C:Addr) (cl:List (Str × Addr)) (fp:List Addr),PTs (jA X E s H scope (compEnvC scope cl C X.env) fp) ifs (TTx X E t))
  (he:∀ (s:Shared) (H:Hp) (C:Addr) (cl:List (Str × Addr)) (fp:List Addr),PE (jA X E s H scope (compEnvC scope cl C X.env) fp) elt (TEx X E r)) (hs:autoParam (∀ x,foldedSetIterable iter X.env x=pure x) xI._auto_1) :
  PE X (.ListComp elt [⟨tgE,iter,ifs,0⟩] scope pos) (tNe X E (VU tg src t r (own.map (·.2)))) :=
 vq (US hc hN acc hst hfr hi (WI ok) hg ht he hs) fun _ _ _ h=>qc7 hv h
theorem qd5 {e:Expr}{ie:IE} (h:PE X e (tCB (fun xs H Q=>∃ p ys,xs=[.ref p]/\(SqL X.K H p ys\/SqT X.K H p ys)/\∀ l,H l=none->Q (.ref l) (upd H l (.lst ys))) (tMA X E [ie]))):PE X e (tNe X E (JF ie)):=by
 refine vq h fun σ H Q ⟨Gn,κ,m,R,h⟩=>⟨Gn,κ,m,R,?_⟩
 have h:=qo.bind h
 show qo X.mg E H ((ie m).bind fun x=>.ok [x]) _
 cases hx:ie m with
 | er c=>rw[hx] at h;exact h
 | no=>rw[hx] at h;exact h
 | ok x =>
  rw[hx] at h
  intro vs H1 s1 r
  match vs,r with
  | [w],r =>
   have hw:=r.1
   cases x with
   | c n=>exact h.elim
   | v d k =>
    cases d with
    | lst ds =>
     have h:∀ p vs H',H p=none->qy H H'->H' p=some (.lst vs)->Its X.mg X.K Gn (κ++[p]) H' vs (ds.map fun d=>Itm.v d k)->Q (.ref p) H':=h
     have fin:∀ {a:Addr}{us:List V},qv X.mg X.K (fun a=>a∉κ/\(k=true->Gn a)) H1 us ds->∀ l,H1 l=none->Q (.ref l) (upd H1 l (.lst us)):=fun {a us} ra l hl=>by
      refine h l us _ (s1.free hl) (s1.trans (vX hl)) qL (Its.vals ?_)
      refine qv.mono (fun b g=>?_) _ _ (qv.there _ _ ra)
      obtain⟨⟨g1,g2⟩,n⟩:=g
      have nl:b≠l:=fun z=>n (by rw[z];exact hl)
      refine⟨⟨fun z=>?_,g2⟩,fun o q=>by rw[qA nl];exact q⟩
      rcases List.mem_append.mp z with z | z
      ·exact g1 z
      ·exact nl (List.mem_singleton.mp z)
     cases (show Rp X.mg X.K _ H1 w (.lst ds) from hw) with
     | lst g s q=>exact⟨_,_,rfl,.inl (.inl s),fin (a:=0) q⟩
     | lstK s q=>exact⟨_,_,rfl,.inl (s _),fin (a:=0) q⟩
    | _=>exact h.elim
end
noncomputable def zO (H:Hp):List Addr->List (List D)->Prop
 | [],[]=>True
 | q::qs,ds::r=>(ds.all D.sc=true/\H q=some (.lst (ds.map toV)))/\zO H qs r
 | _,_=>False
theorem zO.len {H:Hp}:∀ {qs:List Addr}{xss:List (List D)},zO H qs xss->qs.length=xss.length
 | [],[],_=>rfl
 | _::_,_::_,h=>by rw[List.length_cons,List.length_cons,zO.len h.2]
 | [],_::_,h=>h.elim
 | _::_,[],h=>h.elim
theorem zO.get {H:Hp}:∀ {qs:List Addr}{xss:List (List D)}{n:Nat}{q:Addr}{ds:List D},zO H qs xss->qs[n]?=some q->xss[n]?=some ds->ds.all D.sc=true/\H q=some (.lst (ds.map toV))
 | [],[],n,_,_,_,e,_=>by simp at e
 | q::_,d::_,0,_,_,h,e1,e2=>by simp at e1 e2;subst e1;subst e2;exact h.1
 | _::_,_::_,n+1,_,_,h,e1,e2=>zO.get (n:=n) h.2 (by simpa using e1) (by simpa using e2)
 | [],_::_,_,_,_,h,_,_=>h.elim
 | _::_,[],_,_,_,h,_,_=>h.elim
theorem zO.snoc {H:Hp}{q:Addr}{ds:List D} (hd:ds.all D.sc=true) (hq:H q=some (.lst (ds.map toV))):∀ {qs:List Addr}{xss:List (List D)},zO H qs xss->zO H (qs++[q]) (xss++[ds])
 | [],[],_=>⟨⟨hd,hq⟩,trivial⟩
 | _::_,_::_,h=>⟨h.1,zO.snoc hd hq h.2⟩
 | [],_::_,h=>h.elim
 | _::_,[],h=>h.elim
noncomputable def tNN (X:Cx) (E:XK) (e:NN):TE:=fun σ H Q=>∃ Gn κ m,MR X.mg X.K Gn κ H σ m/\qo X.mg E H (e m) fun xss=>∀ p qs H',H p=none->qy H H'->(qs++[p]).Nodup->(∀ q∈qs,H q=none)->H' p=some (.lst (qs.map V.ref))->zO H' qs xss->Q (.ref p) H'
section
variable {mg:Str->Option Value}{K:PySem.W.Frag}{Gl:Addr->Prop}{κ:List Addr}{H H':Hp}{μ:List Cell}
theorem Mem.news (M:Mem mg K Gl κ H μ) {ps:List Addr}{ys:List Cell} (s:qy H H') (nd:ps.Nodup) (hp:∀ p∈ps,H p=none) (hl:ps.length=ys.length) (hx:∀ (n:Nat) (p:Addr) (y:Cell),ps[n]? = .some p->ys[n]? = .some y->Y3 mg K Gl (κ++ps) H' p y):Mem mg K Gl (κ++ps) H' (μ++ys)/\Ext κ H (κ++ps) H':=by
 have ex:Ext κ H (κ++ps) H':=by
  refine⟨fun n q e=>?_,fun q h=>?_,fun a o e _=>s a o e⟩
  ·rw[List.getElem?_append_left (List.getElem?_eq_some_iff.mp e).1]
   exact e
  ·rcases List.mem_append.mp h with h | h
   ·exact .inl h
   ·exact .inr (hp q h)
 refine⟨⟨?_,by rw[List.length_append,List.length_append,M.len,hl],fun n q y e1 e2=>?_,fun a h=>M.gl a (s.free h)⟩,ex⟩
 ·rw[List.nodup_append]
  exact⟨M.nd,nd,fun a ha b hb z=>M.at_ ha (by rw[z];exact hp b hb)⟩
 ·by_cases hn:n<κ.length
  ·rw[List.getElem?_append_left hn] at e1
   rw[List.getElem?_append_left (by rw[<- M.len];exact hn)] at e2
   have q0:=M.cel n q y e1 e2
   refine q0.ext ex ?_
   cases e:H q with
   | none=>exact absurd e q0.some
   | some o=>exact s q o e
  ·rw[List.getElem?_append_right (by lia)] at e1
   rw[List.getElem?_append_right (by rw[<- M.len];lia),<- M.len] at e2
   exact hx _ q y e1 e2
theorem X0 {κ:List Addr}{k:Nat}:∀ {qs:List Addr} (b:Nat),(∀ (i:Nat) (q:Addr),qs[i]?=some q->κ[k+(b+i)]?=some q)->Its mg K Gl κ H (qs.map V.ref) ((List.range' b qs.length).map fun i=>.c (k+i))
 | [],_,_=>trivial
 | q::qs,b,h=>⟨⟨q,h 0 q rfl,rfl⟩,X0 (b+1) fun i p e=>by
  have:=h (i+1) p (by simpa using e)
  rw[show b+1+i=b+(i+1) by lia]
  exact this⟩
theorem qev (M:Mem mg K Gl κ H μ) {p:Addr}{qs:List Addr}{xss:List (List D)} (hp:H p=none) (s:qy H H') (nd:(qs++[p]).Nodup) (hq:∀ q∈qs,H q=none) (h1:H' p=some (.lst (qs.map V.ref))) (h2:zO H' qs xss) :
  Mem mg K Gl (κ++(qs++[p])) H' (qfS μ xss)/\Ext κ H (κ++(qs++[p])) H'/\ItR mg K Gl (κ++(qs++[p])) H' (.ref p) (.c (μ.length+xss.length)):=by
 have hl:=h2.len
 obtain⟨a,b⟩:=M.news (ps:=qs++[p]) (ys:=xss.map jh++[qa5 μ.length xss.length]) s nd (fun q h=>by
  rcases List.mem_append.mp h with h | h
  ·exact hq q h
  ·rw[List.mem_singleton.mp h];exact hp) (by rw[List.length_append,List.length_append,List.length_map,hl];rfl) (fun n q y e1 e2=>by
  by_cases hn:n<qs.length
  ·rw[List.getElem?_append_left hn] at e1
   rw[List.getElem?_append_left (by rw[List.length_map,<- hl];exact hn),List.getElem?_map] at e2
   cases hd:xss[n]? with
   | none=>rw[hd] at e2;cases e2
   | some ds =>
    rw[hd] at e2
    cases e2
    obtain⟨c1,c2⟩:=h2.get e1 hd
    exact⟨_,c2,Its.vals (qv.wX c1)⟩
  ·rw[List.getElem?_append_right (by lia)] at e1
   rw[List.getElem?_append_right (by rw[List.length_map,<- hl];lia),List.length_map,<- hl] at e2
   have h0:n-qs.length=0:=by
    have:=(List.getElem?_eq_some_iff.mp e1).1
    rw[List.length_singleton] at this
    lia
   rw[h0] at e1 e2
   cases e1
   cases e2
   refine⟨_,h1,?_⟩
   have:=X0 (mg:=mg) (K:=K) (Gl:=Gl) (H:=H') (κ:=κ++(qs++[p])) (k:=μ.length) (qs:=qs) 0 fun i q e=>by
    rw[List.getElem?_append_right (by rw[M.len];lia),M.len,show μ.length+(0+i)-μ.length=i by lia,List.getElem?_append_left (List.getElem?_eq_some_iff.mp e).1]
    exact e
   rw[<- List.range_eq_range'] at this
   exact this)
 refine⟨a,b,p,?_,rfl⟩
 rw[List.getElem?_append_right (by rw[M.len];lia),M.len,show μ.length+xss.length-μ.length=qs.length by lia,List.getElem?_append_right (Nat.le_refl _),Nat.sub_self]
 rfl
end
section
variable {X:Cx}{E:XK}{pos:Pos}
theorem qcn {H:Hp}{D0:Addr}{H':Hp}{acc:List V}{ys:List DK} (h:FAs H D0 H' acc ys):∀ {xss:List (List D)},rowsOf ys = .ok xss->∃ qs:List Addr,acc=qs.map V.ref/\(qs++[D0]).Nodup/\(∀ q∈qs,H q=none)/\zO H' qs xss:=by
 have sn:∀ {ys:List DK}{ds:List D}{xss:List (List D)},rowsOf (ys++[(.lst ds,.fr)]) = .ok xss->∃ r,rowsOf ys = .ok r/\xss=r++[ds]:=by
  intro ys
  induction ys with
  | nil=>intro ds xss e;cases e;exact⟨[],rfl,rfl⟩
  | cons y ys ih =>
   intro ds xss e
   obtain⟨d,k⟩:=y
   cases d with
   | lst es =>
    cases k with
    | fr =>
     have e:(rowsOf (ys++[(.lst ds,.fr)])).bind (fun r=>Rs.ok (es::r)) = .ok xss:=e
     cases e2:rowsOf (ys++[(.lst ds,.fr)]) with
     | er c=>rw[e2] at e;cases e
     | no=>rw[e2] at e;cases e
     | ok r =>
      rw[e2] at e
      cases e
      obtain⟨r',q1,rfl⟩:=ih e2
      refine⟨es::r',?_,rfl⟩
      show (rowsOf ys).bind (fun r=>Rs.ok (es::r))=_
      rw[q1]
      rfl
    | _=>cases e
   | _=>cases e
 induction h with
 | nil=>intro xss e;cases e;exact⟨[],rfl,List.pairwise_singleton _ _,(fun _ z=>by cases z),trivial⟩
 | @snoc vs xs q ds _ h1 h2 h3 h4 h5 ih =>
  intro xss e
  obtain⟨r,e1,rfl⟩:=sn e
  obtain⟨qs,rfl,i2,i3,i4⟩:=ih e1
  have nq:q∉qs:=fun z=>h3 (List.mem_map.mpr ⟨q,z,rfl⟩)
  refine⟨qs++[q],by rw[List.map_append];rfl,?_,fun p z=>?_,i4.snoc h4 h5⟩
  ·rw[List.nodup_append] at i2 ⊢
   refine⟨?_,i2.2.1,fun a ha b hb=>?_⟩
   ·rw[List.nodup_append]
    exact⟨i2.1,List.pairwise_singleton _ _,fun a ha b hb z=>by rw[List.mem_singleton.mp hb] at z;exact nq (by rw[<- z];exact ha)⟩
   ·rcases List.mem_append.mp ha with ha | ha
    ·exact i2.2.2 a ha b hb
    ·rw[List.mem_singleton.mp ha,List.mem_singleton.mp hb]
     exact h1
  ·rcases List.mem_append.mp z with z | z
   ·exact i3 p z
   ·rw[List.mem_singleton.mp z];exact h2
theorem JW:∀ {ys:List DK}{xss:List (List D)},rowsOf ys = .ok xss->∀ y∈ys,y.2 = .fr
 | [],_,_,_,h=>by cases h
 | (d,k)::ys,xss,e,y,h=>by
  cases d with
  | lst es =>
   cases k with
   | fr =>
    have e:(rowsOf ys).bind (fun r=>Rs.ok (es::r)) = .ok xss:=e
    cases e2:rowsOf ys with
    | er c=>rw[e2] at e;cases e
    | no=>rw[e2] at e;cases e
    | ok r =>
     rcases List.mem_cons.mp h with rfl | h
     ·rfl
     ·exact JW e2 y h
   | _=>cases e
  | _=>cases e
theorem J2:∀ {ys:List DK}{c:Str},rowsOf ys ≠ .er c
 | [],_,h=>by cases h
 | (d,k)::ys,c,e=>by
  cases d with
  | lst es =>
   cases k with
   | fr =>
    have e:(rowsOf ys).bind (fun r=>Rs.ok (es::r)) = .er c:=e
    cases e2:rowsOf ys with
    | er c2=>exact J2 e2
    | no=>rw[e2] at e;cases e
    | ok r=>rw[e2] at e;cases e
   | _=>cases e
  | _=>cases e
theorem qdv {g:TG}{tg:Tg}{src:RI}{t:RT}{r:RE}{vs:List Nat}{σ:St}{H:Hp}{Q:VK} (hv:tg.within vs) (h:tNN X E (WY tg src t r vs) σ H Q):tLc (tI X E g tg src) g (TTx X E t) (TEx X E r) vs σ H Q:=by
 obtain⟨Gn,κ,m,R,h⟩:=h
 refine WN hv ⟨_,_,ya Ext.refl R,qo.imp (qo.bind h) fun x h1=>?_⟩
 by_cases c:x.2.length<LIM
 ·rw[if_pos c] at h1
  refine⟨c,qo.imp (qo.bind h1) fun ys h2 D0 acc H' hD s hacc va=>?_⟩
  cases e:rowsOf ys with
  | no=>rw[e] at h2;exact h2.elim
  | er c=>exact absurd e J2
  | ok xss =>
   rw[e] at h2
   obtain⟨qs,rfl,q2,q3,q4⟩:=qcn (va.2.all (JW e)) e
   exact h2 D0 qs H' hD s q2 q3 hacc q4
 ·rw[if_neg c] at h1
  exact h1.elim
theorem qdE {elt tgE iter:Expr}{ifs:List Expr}{scope:Scope}{own:List (Str × Nat)}{g:TG}{tg:Tg}{src:RI}{t:RT}{r:RE}{LF:Addr} (hc:X.calm=true) (hN:X.N.Nodup) (acc:Acc X E) (hst:X.stack=X.env::X.outer) (hfr:X.env.frame=some LF)
  (hi:PI X tgE iter (tI X E g tg src)) (ok:jw X.N X.env.scope scope own=true) (hv:tg.within (own.map (·.2)))
  (hg:∀ (s:Shared) (H:Hp) (C:Addr) (cl:List (Str × Addr)) (fp:List Addr),PG (jA X E s H scope (compEnvC scope cl C X.env) fp) tgE g)
  (ht:∀ (s:Shared) (H:Hp) (C:Addr) (cl:List (Str × Addr)) (fp:List Addr),PTs (jA X E s H scope (compEnvC scope cl C X.env) fp) ifs (TTx X E t))
  (he:∀ (s:Shared) (H:Hp) (C:Addr) (cl:List (Str × Addr)) (fp:List Addr),PE (jA X E s H scope (compEnvC scope cl C X.env) fp) elt (TEx X E r)) (hs:autoParam (∀ x,foldedSetIterable iter X.env x=pure x) xI._auto_1) :
  PE X (.ListComp elt [⟨tgE,iter,ifs,0⟩] scope pos) (tNN X E (WY tg src t r (own.map (·.2)))) :=
 vq (US hc hN acc hst hfr hi (WI ok) hg ht he hs) fun _ _ _ h=>qdv hv h
theorem qea {e:Expr}{ie:NN} (he:PE X e (tNN X E ie)):PS X (.Return (some e) pos) (TMx X E (qdi ie)):=by
 refine vp (uh he) fun D σ H ⟨Gn,κ,m,R,h⟩=>⟨Gn,κ,m,R,vN.do_ h fun xss _ h1 p qs H' hp s nd hq e1 e2=>?_⟩
 obtain⟨M,ex,it⟩:=qev R.mem hp s nd hq e1 e2
 exact h1 (.ref p) (κ++(qs++[p])) H' M it ex
end
section
variable {X:Cx}{E:XK}{pos:Pos}
theorem Ue {c f x:Str}{o:Expr}{p pos':Pos}{e:Expr}{es:List Expr}{ec:IE}{ies:List IE}{g:Fm}{n k:Nat} (G:Gd X E) (hC:∀ C,X.mg c=some (.ref C)->Cls X.K C/\vD X.K C f) (F:FdM X.prog X.w X.K X.mg X.base k x n g) (hr:wN k X.A) (hg:Gl X x) (hn:ies.length=n) (ho:PE X o (tIe X E ec)) (ha:PA X (e::es) (tMA X E ies))
  (hdb:autoParam ((x==("__debug__":Str))=false) vd._auto_1) (he:autoParam (starEach (e::es) X.env=(false,eval e X.env)::starEach es X.env) qt._auto_1) {cpos:Pos} (hpl:autoParam ((backTo cpos (starEach es X.env)).any (·.1)=false) qt._auto_1)
  (hs:autoParam (swapsWith (.Call (.Name x p) (e::es) [] cpos) (some (.Attribute o f pos')) pos.line X.env=pure false) qt._auto_1) :
  PS X (.Assign [.Attribute o f pos'] (.Call (.Name x p) (e::es) [] cpos) pos) (TMx X E (uF c f ec g ies)):=by
 obtain⟨fa,fd,ps,F,hm,hk,hb⟩:=F
 refine vp (qbN ho (YN F hr hg hm hk hb .nil (xr G.acc) ha hdb he hpl) hs) fun D σ H ⟨Gn,κ,m,R,h⟩=>Xk hn ⟨Gn,κ,m,R,?_⟩
 refine vN.do_ h fun xs _ h1 vs H1 s1 r=>qcN (f:=fun x μ=>mDo (ec ⟨m.s,μ⟩) fun y=>uQ c f ⟨m.s,μ⟩ (cellAt ⟨m.s,μ⟩ y) x μ) s1 h1 fun x μ h2 w κ' H' M hw ex=>⟨Gn,κ',⟨m.s,μ⟩,(R.more s1).after ex M,?_⟩
 have R1:=(R.more s1).after ex M
 refine vN.do_ (vN.later h2 ex) fun y _ h3 w2 H2 s2 hw2=>?_
 cases e:cellAt ⟨m.s,μ⟩ y with
 | none=>rw[e] at h3;exact h3.elim
 | some q =>
  obtain⟨n',q⟩:=q
  obtain⟨rfl,hn'⟩:=xS e
  rw[e] at h3
  cases q with
  | lst xs=>exact h3.elim
  | ins c' ns xs=>exact Zu hC (R1.more s2) hn' hw2 (ItR.ext (Ext.same s2) hw) (vN.later h3 (Ext.same s2))
end
end L2.Ir
namespace L2.Ir
open PySem PySem.Spec PyProof.Rows
open PySem.W (WData Codec OpenSpec Well WellAll ReadsW ReadsAllW)
section
variable {X:Cx}{E:XK}{pos:Pos}
theorem ZU {mg:Str->Option Value}{K:PySem.W.Frag}{G:Addr->Prop}{H:Hp}{f:Str}{d:D}:∀ {ns:List Str}{vs:List V}{ds:List D},qv mg K G H vs ds->(ns.zip ds).lookup f=some d->∃ w,(ns.zip vs).lookup f=some w/\Rp mg K G H w d
 | [],_,_,_,e=>by simp at e
 | _::_,[],[],_,e=>by simp at e
 | g::ns,w::vs,x::xs,.cons a b,e=>by
  rw[List.zip_cons_cons,List.lookup_cons] at e ⊢
  cases hg:f==g with
  | true=>rw[hg] at e;cases e;exact⟨w,rfl,a⟩
  | false=>rw[hg] at e;exact ZU b e
theorem j9 {c f:Str}{e:Expr}{r:RE} (hC:∀ C,X.mg c=some (.ref C)->Cls X.K C/\vD X.K C f) (he:PE X e (TEx X E r)) (hb:autoParam (attributeBase e f X.env (eval e X.env)=eval e X.env) qt._auto_1):PE X (.Attribute e f pos) (TEx X E (rUn (yh c f) r)):=by
 refine vq (qbU he hb) fun σ H Q ⟨B,δ,R,h⟩=>⟨B,δ,R,?_⟩
 refine qo.imp (qo.bind h) fun x h1 w H1 s1 vr=>?_
 obtain⟨d,k⟩:=x
 have vr:VR X.mg X.K B H H1 σ δ k w d:=vr
 cases d with
 | obj c' ns ds =>
  unfold yh at h1
  dsimp only at h1
  by_cases cc:c'=c
  ·subst cc
   rw[if_pos rfl] at h1
   have rp:=VR.low R .nw vr
   rw[VR.gk (low_ne _ _)] at rp
   cases rp with
   | @obj a C dx _ _ xs _ g m s l ra =>
    cases hl:(ns.zip ds).lookup f with
    | none=>rw[hl] at h1;exact h1.elim
    | some d =>
     rw[hl] at h1
     obtain⟨u,l1,l2⟩:=ZU ra hl
     refine⟨a,C,dx,_,u,rfl,s,(hC C m).1,(hC C m).2,l1,h1 u H1 s1 ?_⟩
     show VR _ _ _ _ _ _ _ (k.low .nw) _ _
     rw[VR.gk (low_ne _ _)]
     exact l2
  ·rw[if_neg cc] at h1
   exact h1.elim
 | _=>exact h1.elim
end
theorem YE (l b:Addr) (us vs:Array Value) (n k:Nat) (dd:Option Addr) (sl:Array (Option Value)) (h0:¬(!us.isEmpty&&Builtin.List.listTooLong (us.size+vs.size))=true) (h1:us.size <= sizeLine) (h2:us.size+vs.size <= sizeLine+1) :
  Meets (Builtin.«list.extend» ⟨[.ref l,.ref b],[]⟩) (fun _ R s=>s.heap.get? l=some {cls:=.type "list",data:=.seq us n}/\s.heap.get? b=some ⟨.type "list",dd,.seq vs k,sl⟩/\R (.ok (.ret Value.none)) {s with heap:=s.heap.update l (Obj.mapSeq fun x=>x++vs)}) :=
 .of_wp fun prog w A R s q=>by
  obtain⟨hp,gs,dr,tk,os⟩:=s
  obtain⟨ql,qb,q⟩:=q
  have i1:=AutoSeq1.idx_int
  have i2:=AutoSeq1.sub_tuple_tuple
  have i3:=AutoSeq1.sub_list_list
  have i4:=AutoSeq1.sub_tuple_list
  have i5:=AutoSeq1.sub_list_tuple
  have hz:(us++vs).size <= sizeLine+1:=by
   rw[Array.size_append]
   exact h2
  wp_walk using (wpAny_updateSeq ql rfl (hz:=h1) (_hz':=hz)),AutoSeq1.wpAny_loadPart' ql,AutoSeq1.wpAny_loadPart' qb
  exact⟨_,rfl,q⟩
section
variable {X:Cx}{E:XK}{pos:Pos}
noncomputable def qe4 (K:PySem.W.Frag):V->List V->Hp->VK->Prop:=fun x vs H Q=>∃ l b xs zs,x = .ref l/\vs=[.ref b]/\H l=some (.lst xs)/\SqL K H b zs/\xs.length+zs.length <= sizeLine/\Q .non (upd H l (.lst (xs++zs)))
theorem Ji:MtM X "list.extend" (qe4 X.K):=by
 intro pins s σ H x vs v us Q I rx rv h
 obtain⟨l,b,xs,zs,rfl,rfl,hH,hB,hz,q⟩:=h
 cases rx
 obtain⟨u,rfl,ru⟩:=rv.one
 cases ru
 obtain⟨z1,ts,n,r1,hl,e1⟩:=I.Jz hH
 obtain⟨ts2,r2,p2,z2⟩:=I.list hB
 obtain⟨⟨cls,dd,data,sl⟩,e2,hc,n2,hd⟩:=id p2.isList
 simp only at hc hd
 subst hc hd
 have l2:=r2.length
 have hsz:ts.toArray.size+ts2.toArray.size <= sizeLine:=by rw[List.size_toArray,List.size_toArray];lia
 refine call_meets PySem.F.slot_list_extend ⟨_,e1,rfl⟩ PySem.F.entry_list_extend (PySem.F.args_list_extend_2 _ _) (YE l b ts.toArray ts2.toArray n n2 dd sl (by rw[VD hsz,Bool.and_false];exact Bool.false_ne_true) (by rw[List.size_toArray];lia) (by lia)) ⟨e1,e2,?_⟩
 refine⟨.non,_,I.qfk (its':=ts++ts2) hH e1 (by simp) (r1.append r2) ?_,rfl,q⟩
 rw[List.length_append]
 lia
theorem qa8 {e:Expr}{ec:IE}{r:RE} (h:PE X e (tBM X.K "list" (qe4 X.K) (tIe X E ec) (qar (TEx X E r) qeK))) (hsw:autoParam (swapsWith e none pos.line X.env=pure false) qt._auto_1):PS X (.Expr e pos) (TMx X E (Vh ec r)):=by
 refine vp (Q7 h hsw) fun D σ H ⟨Gn,κ,m,R,h⟩=>⟨Gn,κ,m,R,vN.do_ h fun y _ h1 w H1 s1 hw=>?_⟩
 cases e:cellAt m y with
 | none=>rw[e] at h1;exact h1.elim
 | some q =>
  obtain⟨n,q⟩:=q
  obtain⟨rfl,hn⟩:=xS e
  rw[e] at h1
  cases q with
  | ins c' ns xs=>exact h1.elim
  | lst xs =>
   obtain⟨p,hp,rfl⟩:=hw
   obtain⟨vs1,g1,g3⟩:=(R.more s1).mem.cel n p _ hp hn
   have Rv:=ya (m:=m) (Ext.refl (κ:=κ) (H:=H1)) (R.more s1)
   refine⟨.inl ⟨rfl,_,SqL.of g1⟩,_,_,Rv,?_⟩
   refine qo.more (vN.do_ h1 fun x _ h2 u H2 s2 vu=>?_) s1
   obtain⟨dx,kx⟩:=x
   have s12:=s1.trans s2
   have R2:=R.more s12
   obtain⟨vs,g1,g3⟩:=R2.mem.cel n p _ hp hn
   cases dx with
   | lst ds =>
    have h2:vN X.mg X.K E Gn κ H (if ds.all Ir.D.sc=true/\xs.length+ds.length <= LIM then .nx ⟨m.s,m.μ.set n (.lst (xs++ds.map fun d=>.v d true))⟩ else .no) D:=h2
    by_cases c:ds.all Ir.D.sc=true/\xs.length+ds.length <= LIM
    ·rw[if_pos c] at h2
     obtain⟨a,us,rfl,sq,ra⟩:=VR.items Rv vu
     have hus:=ra.sc c.1
     refine⟨p,a,vs,us,rfl,rfl,g1,sq,?_,?_⟩
     ·rw[g3.len,ra.len];exact c.2
     have pk:p∈κ:=List.mem_of_getElem? hp
     have ex:Ext κ H2 κ (upd H2 p (.lst (vs++us))):=Ext.upd pk
     obtain⟨M,_⟩:=R2.mem.mut (x:=.lst (xs++ds.map fun d=>.v d true)) (o:=.lst (vs++us)) hp ⟨_,qL,(g3.ext ex).append (by rw[hus];exact Its.vals (qv.wX c.1))⟩
     exact h2 κ σ _ (R2.after ex M) ((Ext.same s12).trans ex)
    ·rw[if_neg c] at h2
     exact h2.elim
   | _=>exact h2.elim
theorem RgC.up {j c:Int} (hc:0<c) (hc2:c<1000000) (hj : -1000000<j) (hj2:j<1000000):RgC 0 j c ((j+c-1) / c).toNat:=by
 have fit:∀ z:Int,-4000000<z/\z<4000000->Builtin.Range.rangeFitsLong z=true:=fun z h1=>by
  unfold Builtin.Range.rangeFitsLong
  simp
  lia
 have hsz:Builtin.Range.rangeSize 0 j c=(((j+c-1) / c).toNat:Int):=by
  unfold Builtin.Range.rangeSize
  rw[if_pos (by lia)]
  by_cases h:0<j
  ·rw[if_pos h]
   have e:j+c-1=(j-0-1)+c*1:=by lia
   rw[e,Int.add_mul_ediv_left _ _ (by lia)]
   have:0 <= (j-0-1) / c:=Int.ediv_nonneg (by lia) (by lia)
   lia
  ·rw[if_neg h]
   have:(j+c-1) / c <= 0:=by
    have h3:(j+c-1) / c<1:=by
     refine Int.ediv_lt_of_lt_mul hc ?_
     lia
    lia
   lia
 have hb:(((j+c-1) / c).toNat:Int) <= 2000000:=by
  have:(j+c-1) / c <= 2000000:=by
   by_cases h:0 <= j+c-1
   ·exact Int.le_trans (Int.ediv_le_self _ h) (by lia)
   ·have:(j+c-1) / c<0:=Int.ediv_neg_of_neg_of_pos (by lia) hc
    lia
  lia
 refine⟨by lia,by lia,?_,hsz⟩
 unfold Builtin.Range.small
 rw[hsz,fit 0 (by decide),fit j ⟨Int.lt_trans (by decide) hj,Int.lt_trans hj2 (by decide)⟩,fit c ⟨Int.lt_trans (by decide) hc,Int.lt_trans hc2 (by decide)⟩,fit _ (by lia),if_pos (by lia),fit (j+(c-1)) (by lia)]
 simp
theorem qai {i j c:Int}{l:List Int} (h:QQ i j c=some l):∃ n,RgC i j c n/\l.length=n/\∀ k:Nat,k<n->l[k]?=some (i+k*c):=by
 unfold QQ at h
 by_cases b:(-1000000<i/\i<1000000)/\(-1000000<j/\j<1000000)/\(-1000000<c/\c<1000000)
 ·rw[if_pos b] at h
  by_cases c1:c = -1
  ·rw[if_pos c1] at h
   cases h
   subst c1
   refine⟨(i-j).toNat,RgC.neg (by lia) (by lia) (by lia) (by lia),by rw[List.length_map,List.length_range],fun k hk=>?_⟩
   rw[List.getElem?_map,List.getElem?_range hk]
   show some (i-(k:Int))=some (i+(k:Int) * -1)
   congr 1
   lia
  ·rw[if_neg c1] at h
   by_cases c2:0<c/\i=0
   ·rw[if_pos c2] at h
    cases h
    obtain⟨c3,rfl⟩:=c2
    refine⟨((j+c-1) / c).toNat,RgC.up c3 (by lia) (by lia) (by lia),by rw[List.length_map,List.length_range],fun k hk=>?_⟩
    rw[List.getElem?_map,List.getElem?_range hk,Int.zero_add]
    rfl
   ·rw[if_neg c2] at h
    cases h
 ·rw[if_neg b] at h
  cases h
theorem qa6 {i:Nat}{tgE a b c:Expr}{r q t:RE}{p:Pos} (hg:Gl X "range") (hm:X.mg "range"=none) (ha:PE X a (TEx X E r)) (hb:PE X b (TEx X E q)) (hc:PE X c (TEx X E t)) (hs:autoParam (starEach [a,b,c] X.env=(false,eval a X.env)::starEach [b,c] X.env) qt._auto_1)
  (hs2:autoParam (starEach [b,c] X.env=(false,eval b X.env)::starEach [c] X.env) qt._auto_1) (hs3:autoParam (starEach [c] X.env=(false,eval c X.env)::starEach [] X.env) qt._auto_1) (hpl:autoParam ((backTo pos (starEach [b,c] X.env)).any (·.1)=false) qt._auto_1) :
  PI X tgE (.Call (.Name "range" p) [a,b,c] [] pos) (tI X E (w4 i) (.one i) (yM r q t)):=by
 refine y1 (ZP hg hm (vQ ha (vQ hb (vQ hc zS hs3) hs2) hs) hs hpl) fun σ H R ⟨B,δ,R0,h⟩=>⟨B,δ,R0,?_⟩
 refine qo.imp (qo.bind h) fun x h1 v H1 s1 vr=>⟨B,δ,R0.more s1,?_⟩
 refine qo.imp (qo.more (qo.bind h1) s1) fun y h2 w H2 s2 vw=>⟨B,δ,(R0.more s1).more s2,?_⟩
 refine qo.imp (qo.more (qo.more (qo.bind h2) s1) s2) fun z h3 u H3 s3 vu=>?_
 obtain⟨d,k⟩:=x
 obtain⟨d',k'⟩:=y
 obtain⟨d2,k2⟩:=z
 have vr:VR X.mg X.K B H H1 σ δ k v d:=vr
 have vw:VR X.mg X.K B H1 H2 σ δ k' w d':=vw
 have vu:VR X.mg X.K B H2 H3 σ δ k2 u d2:=vu
 have key:∀ i1 j1 c1:Int,d = .int i1->d' = .int j1->d2 = .int c1->∃ (i j c:Int) (n:Nat),[v,w,u]=[.int i,.int j,.int c]/\RgC i j c n/\R (Itc i c n) H3:=fun i1 j1 c1 e1 e2 e3=>by
  subst e1 e2 e3
  have ev:=vf R0 vr
  have ew:=vf (R0.more s1) vw
  have eu:=vf ((R0.more s1).more s2) vu
  subst ev ew eu
  have h3:qo X.mg E H (match QQ i1 j1 c1 with | some l=>.ok (true,l.map fun n=>(D.int n,Kd.nw)) | none=>.no) fun x=>∀ J H1,qy H H1->Walks X B H1 σ δ (w4 i) (.one i) J x.1 x.2->R J H1:=h3
  cases hr:QQ i1 j1 c1 with
  | none=>rw[hr] at h3;exact h3.elim
  | some l =>
   rw[hr] at h3
   obtain⟨n,rg,hl,hk⟩:=qai hr
   refine⟨i1,j1,c1,n,rfl,rg,h3 _ H3 (s1.trans (s2.trans s3)) ⟨fun B' n' x σ' δ' δ2 H2 hx R' f hp=>?_,fun B' n' σ' δ' H2 hn R' f=>(show n <= n' by rw[List.length_map,hl] at hn;exact hn)⟩⟩
   have hlt:n'<n:=by
    have:=(List.getElem?_eq_some_iff.mp hx).1
    rw[List.length_map,hl] at this
    exact this
   rw[List.getElem?_map,hk n' hlt] at hx
   cases hx
   refine⟨hlt,fun u H3 hy Q hQ=>?_⟩
   obtain⟨rfl,rfl⟩:=hy
   have hp:put i (D.int (i1+(n':Nat)*c1),.nw) δ'=some δ2:=hp
   have q:=VL (v:=.int (i1+(n':Nat)*c1)) R' (Rp.int _) hp
   exact hQ _ _ q.1 q.2 qy.refl ⟨_,rfl⟩
 obtain⟨i1,j1,c1,e1,e2,e3,_⟩:=qgS h3
 exact key i1 j1 c1 e1 e2 e3
theorem qbm {i:Nat}{tgE a b c:Expr}{r q t:RE}{p:Pos} (hg:Gl X "range") (hm:X.mg "range"=none) (ha:PE X a (TEx X E r)) (hb:PE X b (TEx X E q)) (hc:PE X c (TEx X E t)) (hs:autoParam (starEach [a,b,c] X.env=(false,eval a X.env)::starEach [b,c] X.env) qt._auto_1)
  (hs2:autoParam (starEach [b,c] X.env=(false,eval b X.env)::starEach [c] X.env) qt._auto_1) (hs3:autoParam (starEach [c] X.env=(false,eval c X.env)::starEach [] X.env) qt._auto_1) (hpl:autoParam ((backTo pos (starEach [b,c] X.env)).any (·.1)=false) qt._auto_1) :
  PI X tgE (.Call (.Name "range" p) [a,b,c] [] pos) (tMI X E (w4 i) (.one i) (vP (yM r q t))):=by
 refine y1 (ZP hg hm (vQ ha (vQ hb (vQ hc zS hs3) hs2) hs) hs hpl) fun σ H R ⟨Gn,κ,m,R0,h⟩=>⟨_,_,vA R0,?_⟩
 refine qo.imp (qo.bind (qo.bind h)) fun x h1 v H1 s1 vr=>⟨_,_,vA (R0.more s1),?_⟩
 refine qo.imp (qo.more (qo.bind h1) s1) fun y h2 w H2 s2 vw=>⟨_,_,vA ((R0.more s1).more s2),?_⟩
 refine qo.imp (qo.more (qo.more (qo.bind h2) s1) s2) fun z h3 u H3 s3 vu=>?_
 obtain⟨d,k⟩:=x
 obtain⟨d',k'⟩:=y
 obtain⟨d2,k2⟩:=z
 have key:∀ i1 j1 c1:Int,d = .int i1->d' = .int j1->d2 = .int c1->∃ (i j c:Int) (n:Nat),[v,w,u]=[.int i,.int j,.int c]/\RgC i j c n/\R (Itc i c n) H3:=fun i1 j1 c1 e1 e2 e3=>by
  subst e1 e2 e3
  have ev:=vf (vA R0) vr
  have ew:=vf (vA (R0.more s1)) vw
  have eu:=vf (vA ((R0.more s1).more s2)) vu
  subst ev ew eu
  have h3:qo X.mg E H (match QQ i1 j1 c1 with | some l=>.ok (true,l.map fun n=>(D.int n,Kd.nw)) | none=>.no) fun x=>∀ J H1,qy H H1->qcE X Gn κ H1 (w4 i) (.one i) J x.2->R J H1:=h3
  cases hr:QQ i1 j1 c1 with
  | none=>rw[hr] at h3;exact h3.elim
  | some l =>
   rw[hr] at h3
   obtain⟨n,rg,hl,hk⟩:=qai hr
   refine⟨i1,j1,c1,n,rfl,rg,h3 _ H3 (s1.trans (s2.trans s3)) ⟨fun n' x κ' σ' m' m2 H2 hx R' f hp=>?_,fun n' κ' σ' m' H2 hn R' f=>(show n <= n' by rw[List.length_map,hl] at hn;exact hn)⟩⟩
   have hlt:n'<n:=by
    have:=(List.getElem?_eq_some_iff.mp hx).1
    rw[List.length_map,hl] at this
    exact this
   rw[List.getElem?_map,hk n' hlt] at hx
   cases hx
   refine⟨hlt,fun u H3 hy Q hQ=>?_⟩
   obtain⟨rfl,rfl⟩:=hy
   exact hQ _ _ (YF R' hp) fun _ _ e=>e
 obtain⟨i1,j1,c1,e1,e2,e3,_⟩:=qgS h3
 exact key i1 j1 c1 e1 e2 e3
end
section
variable {P:Program}{w:World}{K:PySem.W.Frag}{mg:Str->Option Value}{base:Heap}
noncomputable abbrev Z8 (P:Program) (w:World) (K:PySem.W.Frag) (mg:Str->Option Value) (base:Heap) (k:Nat) (N:List Str) (q:Str) (st:Stmt) (f:Addr) (t:XK->TS):Prop:=∀ (cdv:Value) (A:Around) (outer:List Env) (s:Shared) (H:Hp) (E:XK),wN k (A.deeper (envOfC q (qg st) s.heap.objs.size f cdv))->N.Nodup->Gd (jv P w K mg base N q (qg st) f cdv A outer s H E) E->PSs (jv P w K mg base N q (qg st) f cdv A outer s H E) (vC st) (t E)
theorem fd2 {x:Str}{st:Stmt}{f:Addr}{fd:FuncData}{N ps:List Str}{k n:Nat}{g:Fn}{r:RS} (F:Fun K x x st f fd) (S:qw N ps (qg st)) (hm:mg x=some (.ref f)) (hb:Binds K fd ps []) (hn:ps.length=n) (body:Z8 P w K mg base k N x st f fun E=>tS mg K E r)
  (hr:∀ ds:List D,ds.length=n->g ds = .no\/res (r (sl0 N ds))=g ds):Fd P w K mg base (k+1) x n g:=qhi F S hm hb hn (fun cdv A outer s H E h=>body cdv A outer s H E h S.nd (Vm S.nd)) hr
theorem qeM {x:Str}{st:Stmt}{f:Addr}{fd:FuncData}{N ps:List Str}{k n:Nat}{r:RM}{g:Fn} (F:Fun K x x st f fd) (S:qw N ps (qg st)) (hm:mg x=some (.ref f)) (hb:Binds K fd ps []) (hn:ps.length=n) (body:Z8 P w K mg base k N x st f fun E=>tM mg K E r)
  (hg:∀ ds,g ds=V4 (r ⟨ms0 N (it0 ds),[]⟩)):Fd P w K mg base (k+1) x n g:=qfp F S hm hb hn (fun cdv A outer s H E h=>body cdv A outer s H E h S.nd (Vm S.nd)) hg
theorem qdF {x:Str}{st:Stmt}{f:Addr}{fd:FuncData}{N ps:List Str}{k n:Nat}{r:RM}{g:Fm} (F:Fun K x x st f fd) (S:qw N ps (qg st)) (hm:mg x=some (.ref f)) (hb:Binds K fd ps []) (hn:ps.length=n) (body:Z8 P w K mg base k N x st f fun E=>tM mg K E r)
  (hg:∀ xs μ,g xs μ=xC (r ⟨ms0 N xs,μ⟩)):FdM P w K mg base (k+1) x n g:=qfo F S hm hb hn (fun cdv A outer s H E h=>body cdv A outer s H E h S.nd (Vm S.nd)) hg
theorem qhE {x q:Str}{st:Stmt}{f:Addr}{fd:FuncData}{N ps:List Str}{k n:Nat}{r:RM} (F:Fun K x q st f fd) (S:qw N ps (qg st)) (hn:ps.length=n) (body:Z8 P w K mg base k N q st f fun E=>tM mg K E r):xX P w K mg base (CX1 P w) (k+1) f fd ps (spM mg K n fun xs μ=>xC (r ⟨ms0 N xs,μ⟩)) :=
 UR F S hn fun cdv A outer s H E h=>body cdv A outer s H E h S.nd (Vm S.nd)
end
end L2.Ir
namespace Lw
open PySem.W (nsIn codeIn keepIn fnOf mg_of mg_none_of nsOkIn findIn makesIn isFn plainGet hasDictIn plainOver tabIn Frag)
open PySem PySem.Spec PyProof.Rows L2 L2.Ir Dt 
noncomputable def top (i:Nat):Stmt:=PySem.Challenge.pw_doubletables_s19_least.main.body.getD i (.Pass ⟨0,0,0,0⟩)
noncomputable def qb9 (i j:Nat):Stmt:=match top i with
 | .ClassDef (body:=b) .. => b.getD j (.Pass ⟨0,0,0,0⟩)
 | _=>.Pass ⟨0,0,0,0⟩
theorem qfn {α:Type}{p:List α->Prop} (h:∀ a0,p [a0]):∀ us,us.length=1->p us
 | [_],_=>h _
theorem qff {α:Type}{p:List α->Prop} (h:∀ a0 a1,p [a0,a1]):∀ us,us.length=2->p us
 | [_,_],_=>h _ _
theorem qhM {α:Type}{p:List α->Prop} (h:∀ a0 a1 a2,p [a0,a1,a2]):∀ us,us.length=3->p us
 | [_,_,_],_=>h _ _ _
theorem qgn {α:Type}{p:List α->Prop} (h:∀ a0 a1 a2 a3,p [a0,a1,a2,a3]):∀ us,us.length=4->p us
 | [_,_,_,_],_=>h _ _ _ _
theorem qf4 {α:Type}{p:List α->Prop} (h:∀ a0 a1 a2 a3 a4,p [a0,a1,a2,a3,a4]):∀ us,us.length=5->p us
 | [_,_,_,_,_],_=>h _ _ _ _ _
theorem jg {K:Frag}{x q:Str}{st:Stmt}{f:Addr}{fd:FuncData}{p0:Str} (F:Fun K x q st f fd) (h:∀ (kV doc pm:Value) (an:Option Addr) (cdv ct a0:Value),bindArgs (fnOf x q (wQ st) (vC st) (qg st) .none kV doc pm an cdv ct) ⟨[a0],[]⟩=pure [(p0,a0)]):Binds K fd [p0] []:=F.binds fun kV doc pm an cdv ct=>qfn fun a0=>h kV doc pm an cdv ct a0
theorem VI {K:Frag}{x q:Str}{st:Stmt}{f:Addr}{fd:FuncData}{p0 p1:Str} (F:Fun K x q st f fd) (h:∀ (kV doc pm:Value) (an:Option Addr) (cdv ct a0 a1:Value),bindArgs (fnOf x q (wQ st) (vC st) (qg st) .none kV doc pm an cdv ct) ⟨[a0,a1],[]⟩=pure [(p0,a0),(p1,a1)]):Binds K fd [p0,p1] []:=F.binds fun kV doc pm an cdv ct=>qff fun a0 a1=>h kV doc pm an cdv ct a0 a1
theorem UG {K:Frag}{x q:Str}{st:Stmt}{f:Addr}{fd:FuncData}{p0 p1 p2:Str} (F:Fun K x q st f fd) (h:∀ (kV doc pm:Value) (an:Option Addr) (cdv ct a0 a1 a2:Value),bindArgs (fnOf x q (wQ st) (vC st) (qg st) .none kV doc pm an cdv ct) ⟨[a0,a1,a2],[]⟩=pure [(p0,a0),(p1,a1),(p2,a2)]):Binds K fd [p0,p1,p2] []:=F.binds fun kV doc pm an cdv ct=>qhM fun a0 a1 a2=>h kV doc pm an cdv ct a0 a1 a2
theorem qhK {K:Frag}{x q:Str}{st:Stmt}{f:Addr}{fd:FuncData}{p0 p1 p2 p3:Str} (F:Fun K x q st f fd) (h:∀ (kV doc pm:Value) (an:Option Addr) (cdv ct a0 a1 a2 a3:Value),bindArgs (fnOf x q (wQ st) (vC st) (qg st) .none kV doc pm an cdv ct) ⟨[a0,a1,a2,a3],[]⟩=pure [(p0,a0),(p1,a1),(p2,a2),(p3,a3)]):Binds K fd [p0,p1,p2,p3] []:=F.binds fun kV doc pm an cdv ct=>qgn fun a0 a1 a2 a3=>h kV doc pm an cdv ct a0 a1 a2 a3
theorem qhp {K:Frag}{x q:Str}{st:Stmt}{f:Addr}{fd:FuncData}{p0 p1 p2 p3 p4:Str} (F:Fun K x q st f fd) (h:∀ (kV doc pm:Value) (an:Option Addr) (cdv ct a0 a1 a2 a3 a4:Value),bindArgs (fnOf x q (wQ st) (vC st) (qg st) .none kV doc pm an cdv ct) ⟨[a0,a1,a2,a3,a4],[]⟩=pure [(p0,a0),(p1,a1),(p2,a2),(p3,a3),(p4,a4)]):Binds K fd [p0,p1,p2,p3,p4] []:=F.binds fun kV doc pm an cdv ct=>qf4 fun a0 a1 a2 a3 a4=>h kV doc pm an cdv ct a0 a1 a2 a3 a4
theorem wD {N P:List Str}{sc:Scope} (a:sc.kind = .function) (b:sc.isCoroutine=false) (c:sc.isGenerator=false) (d:N.take P.length=P) (h:N.Nodup/\(∀ x∈P,sc.names.lookup x=some .local\/sc.names.lookup x=some .cell)/\∀ y∈sc.names,y.2 ≠ .free):qw N P sc:=⟨a,b,c,h.1,d,h.2.1,h.2.2⟩
section
variable {P:Program}{w:World}{K:Frag}{mg:Str->Option Value}{base:Heap}
theorem Jp:qw ["x"] ["x"] (qg (top 7)):=wD rfl rfl rfl rfl (by decide +kernel)
theorem UH {f:Addr}{fd:FuncData} (F:Fun K "sign_of" "sign_of" (top 7) f fd) (hm:mg "sign_of"=some (.ref f)) (hb:Binds K fd ["x"] [])  : Fd P w K mg base 1 "sign_of" 1 Dt.qJ :=
 fd2 (r:=Dt.u9) F Jp hm hb rfl (fun a b c d e f hr nd G=>(qx (vE (qu Jn UO (xv 0) qB)))) Dt.Ju
theorem Jo:qw ["x"] ["x"] (qg (top 8)):=wD rfl rfl rfl rfl (by decide +kernel)
theorem Ja {f:Addr}{fd:FuncData} (F:Fun K "size_of" "size_of" (top 8) f fd) (hm:mg "size_of"=some (.ref f)) (hb:Binds K fd ["x"] []) (c_SIGN_BIT:∃ t,mg "SIGN_BIT"=some (.int 9223372036854775808 t)):Fd P w K mg base 1 "size_of" 1 Dt.qT :=
 fd2 (r:=Dt.Qn) F Jo hm hb rfl (fun a b c d e f hr nd G=>(qx (vE (qu UL (Qc _) (xv 0) (qu wL wK (vY rfl c_SIGN_BIT) qB))))) Dt.UA
theorem X7:qw ["x"] ["x"] (qg (top 9)):=wD rfl rfl rfl rfl (by decide +kernel)
theorem Xw {f:Addr}{fd:FuncData} (F:Fun K "opposite" "opposite" (top 9) f fd) (hm:mg "opposite"=some (.ref f)) (hb:Binds K fd ["x"] []) (c_SIGN_BIT:∃ t,mg "SIGN_BIT"=some (.int 9223372036854775808 t)):Fd P w K mg base 1 "opposite" 1 Dt.wq :=
 fd2 (r:=Dt.xF) F X7 hm hb rfl (fun a b c d e f hr nd G=>(qx (vE (qu UB (Qc _) (xv 0) (vY rfl c_SIGN_BIT))))) Dt.Xr
theorem Xd:qw ["x"] ["x"] (qg (top 10)):=wD rfl rfl rfl rfl (by decide +kernel)
theorem Yc {f:Addr}{fd:FuncData} (F:Fun K "is_finite" "is_finite" (top 10) f fd) (hm:mg "is_finite"=some (.ref f)) (hb:Binds K fd ["x"] []) (c_INFINITE:∃ t,mg "INFINITE"=some (.int 9218868437227405312 t)) (f_size_of:Fd P w K mg base 1 "size_of" 1 Dt.qT):Fd P w K mg base 2 "is_finite" 1 Dt.wV :=
 fd2 (r:=Dt.yV) F Xd hm hb rfl (fun a b c d e f hr nd G=>(qx (vE (qcj Xp (xE _) (wy _) (qp G.acc f_size_of (hr.mono (by decide)) rfl (.cons (.nil)) (qe (xv 0) qm)) (vY rfl c_INFINITE))))) Dt.YU
theorem UP:qw ["x"] ["x"] (qg (top 11)):=wD rfl rfl rfl rfl (by decide +kernel)
theorem UT {f:Addr}{fd:FuncData} (F:Fun K "is_zero" "is_zero" (top 11) f fd) (hm:mg "is_zero"=some (.ref f)) (hb:Binds K fd ["x"] []) (f_size_of:Fd P w K mg base 1 "size_of" 1 Dt.qT):Fd P w K mg base 2 "is_zero" 1 Dt.vL :=
 fd2 (r:=Dt.uJ) F UP hm hb rfl (fun a b c d e f hr nd G=>(qx (vE (qcj (xO hr.units) Qb (wy _) (qp G.acc f_size_of (hr.mono (by decide)) rfl (.cons (.nil)) (qe (xv 0) qm)) qB)))) Dt.JG
theorem Xz:qw ["x","fraction"] ["x"] (qg (top 12)):=wD rfl rfl rfl rfl (by decide +kernel)
theorem Ur {f:Addr}{fd:FuncData} (F:Fun K "whole_of" "whole_of" (top 12) f fd) (hm:mg "whole_of"=some (.ref f)) (hb:Binds K fd ["x"] []) (c_FRACTION_BITS:∃ t,mg "FRACTION_BITS"=some (.int 52 t)) (f_size_of:Fd P w K mg base 1 "size_of" 1 Dt.qT):Fd P w K mg base 2 "whole_of" 1 Dt.qI :=
 fd2 (r:=Dt.xN) F Xz hm hb rfl (fun a b c d e f hr nd G=>(qz (yd 1 G (qu UL (Qc _) (xv 0) (qu wL wK (qu wR zH qB (vY rfl c_FRACTION_BITS)) qB))) (qz (xw (wY (xO hr.units) Qb (wy _) (qp G.acc f_size_of (hr.mono (by decide)) rfl (.cons (.nil)) (qe (xv 0) qm)) (xv 1)) (qx (qbR 1)) ze) (qx (vE (qu vU wM (xv 1) (qu wR zH qB (vY rfl c_FRACTION_BITS)))))))) Dt.Uc
theorem QS:qw ["x"] ["x"] (qg (top 13)):=wD rfl rfl rfl rfl (by decide +kernel)
theorem QZ {f:Addr}{fd:FuncData} (F:Fun K "signed_whole" "signed_whole" (top 13) f fd) (hm:mg "signed_whole"=some (.ref f)) (hb:Binds K fd ["x"] []) (f_sign_of:Fd P w K mg base 1 "sign_of" 1 Dt.qJ) (f_whole_of:Fd P w K mg base 2 "whole_of" 1 Dt.qI):Fd P w K mg base 3 "signed_whole" 1 Dt.qK :=
 fd2 (r:=Dt.zP) F QS hm hb rfl (fun a b c d e f hr nd G=>(qx (vE (qde (wY (xO hr.units) Qb (wy _) (qp G.acc f_sign_of (hr.mono (by decide)) rfl (.cons (.nil)) (qe (xv 0) qm)) qB) (Y7 (qp G.acc f_whole_of (hr.mono (by decide)) rfl (.cons (.nil)) (qe (xv 0) qm))) (qp G.acc f_whole_of (hr.mono (by decide)) rfl (.cons (.nil)) (qe (xv 0) qm)))))) Dt.QR
theorem XQ:qw ["x"] ["x"] (qg (top 14)):=wD rfl rfl rfl rfl (by decide +kernel)
theorem XW {f:Addr}{fd:FuncData} (F:Fun K "power_of" "power_of" (top 14) f fd) (hm:mg "power_of"=some (.ref f)) (hb:Binds K fd ["x"] []) (c_FRACTION_BITS:∃ t,mg "FRACTION_BITS"=some (.int 52 t)) (c_LEAST_POWER:∃ t,mg "LEAST_POWER"=some (.int (-1074) t)) (n_max:mg "max"=none) (f_size_of:Fd P w K mg base 1 "size_of" 1 Dt.qT):Fd P w K mg base 2 "power_of" 1 Dt.qC :=
 fd2 (r:=Dt.xK) F XQ hm hb rfl (fun a b c d e f hr nd G=>(qx (vE (qu vU wM (qu wL wK (zg (vO (ZJ rfl) rfl n_max ZO (qe (qu Jn UO (qp G.acc f_size_of (hr.mono (by decide)) rfl (.cons (.nil)) (qe (xv 0) qm)) (vY rfl c_FRACTION_BITS)) (qe qB qm))) qcs) qB) (vY rfl c_LEAST_POWER))))) Dt.X3
theorem Qm:qw ["whole","drop","kept","left","half"] ["whole","drop"] (qg (top 15)):=wD rfl rfl rfl rfl (by decide +kernel)
theorem Qy {f:Addr}{fd:FuncData} (F:Fun K "nearest_whole" "nearest_whole" (top 15) f fd) (hm:mg "nearest_whole"=some (.ref f)) (hb:Binds K fd ["whole","drop"] [])  : Fd P w K mg base 1 "nearest_whole" 2 Dt.vB :=
 fd2 (r:=Dt.zk) F Qm hm hb rfl (fun a b c d e f hr nd G=>(qz (xw (wY qgA (xE _) (wy _) (xv 1) qB) (qx (vE (qu wR zH (xv 0) (Y7 (xv 1))))) ze) (qz (yd 2 G (qu Jn UO (xv 0) (xv 1))) (qz (yd 3 G (qu wL wK (xv 0) (qu wR zH (xv 2) (xv 1)))) (qz (yd 4 G (qu wR zH qB (qu wL wK (xv 1) qB))) (qz (xw (Y8 (qeY (wY qeZ (xE _) (wy _) (xv 3) (xv 4)) (qcV (Y8 (qfC (wY (xO hr.units) Qb (wy _) (xv 3) (xv 4)) (qdQ (wY (xO hr.units) Qb (wy _) (qu JR Jf (xv 2) qB) qB))))))) (qx (vE (qu vU wM (xv 2) qB))) ze) (qx (qbR 2)))))))) Dt.Qi
theorem Jw:qw ["sign","whole","power","drop","kept","size"] ["sign","whole","power"] (qg (top 16)):=wD rfl rfl rfl rfl (by decide +kernel)
theorem UY {f:Addr}{fd:FuncData} (F:Fun K "rounded" "rounded" (top 16) f fd) (hm:mg "rounded"=some (.ref f)) (hb:Binds K fd ["sign","whole","power"] []) {C_StepNotFinite:Addr} (c_FRACTION_BITS:∃ t,mg "FRACTION_BITS"=some (.int 52 t)) (c_INFINITE:∃ t,mg "INFINITE"=some (.int 9218868437227405312 t)) (c_LEAST_POWER:∃ t,mg "LEAST_POWER"=some (.int (-1074) t)) (n_max:mg "max"=none) (m_StepNotFinite:mg "StepNotFinite"=some (.ref C_StepNotFinite)) (x_StepNotFinite:qO K C_StepNotFinite=true) (f_nearest_whole:Fd P w K mg base 1 "nearest_whole" 2 Dt.vB):Fd P w K mg base 2 "rounded" 3 Dt.wm :=
 fd2 (r:=Dt.ja) F Jw hm hb rfl (fun a b c d e f hr nd G=>(qz (xw (wY (xO hr.units) Qb (wy _) (xv 1) qB) (qx (vE (qu wR zH (xv 0) qB))) ze) (qz (yd 3 G (zg (vO (ZJ rfl) rfl n_max ZO (qe (qu wL wK (qu wL wK (J7 (qbY PySem.F.plainAttrs_int PySem.F.slot_int_bit_length PySem.F.type_int_bit_length qaB (xv 1))) (vY rfl c_FRACTION_BITS)) qB) (qe (qu wL wK (vY rfl c_LEAST_POWER) (xv 2)) qm))) qcs)) (qz (yd 4 G (qp G.acc f_nearest_whole (hr.mono (by decide)) rfl (.cons (.cons (.nil))) (qe (xv 1) (qe (xv 3) qm)))) (qz (yd 5 G (qu vU wM (qu wR zH (qu wL wK (qu vU wM (xv 2) (xv 3)) (vY rfl c_LEAST_POWER)) (vY rfl c_FRACTION_BITS)) (xv 4))) (qz (xw (wY qhh (xE _) (wy _) (xv 5) (vY rfl c_INFINITE)) (qx (yI G rfl m_StepNotFinite x_StepNotFinite)) ze) (qx (vE (qu vU wM (qu wR zH (xv 0) qB) (xv 5)))))))))) Dt.Jq
theorem ui:qw ["sign","whole","left","power","behind"] ["sign","whole","left","power"] (qg (top 17)):=wD rfl rfl rfl rfl (by decide +kernel)
theorem ug {f:Addr}{fd:FuncData} (F:Fun K "rounded_with_rest" "rounded_with_rest" (top 17) f fd) (hm:mg "rounded_with_rest"=some (.ref f)) (hb:Binds K fd ["sign","whole","left","power"] []) (f_rounded:Fd P w K mg base 2 "rounded" 3 Dt.wm):Fd P w K mg base 3 "rounded_with_rest" 4 Dt.qG :=
 fd2 (r:=Dt.we) F ui hm hb rfl (fun a b c d e f hr nd G=>(qz (yd 4 G (qde (wY (xO hr.units) Qb (wy _) (xv 2) qB) qB qB)) (qx (vE (qp G.acc f_rounded (hr.mono (by decide)) rfl (.cons (.cons (.cons (.nil)))) (qe (xv 0) (qe (qu vU wM (qu (xT.or jH) jx (xv 1) qB) (xv 4)) (qe (qu wL wK (xv 3) qB) qm)))))))) Dt.uu
theorem qcu:qw ["x","y","z","power","low","product_part","total"] ["x","y","z"] (qg (top 18)):=wD rfl rfl rfl rfl (by decide +kernel)
theorem qcg {f:Addr}{fd:FuncData} (F:Fun K "fused" "fused" (top 18) f fd) (hm:mg "fused"=some (.ref f)) (hb:Binds K fd ["x","y","z"] []) (n_abs:mg "abs"=none) (n_min:mg "min"=none) (f_power_of:Fd P w K mg base 2 "power_of" 1 Dt.qC) (f_rounded:Fd P w K mg base 2 "rounded" 3 Dt.wm) (f_sign_of:Fd P w K mg base 1 "sign_of" 1 Dt.qJ) (f_signed_whole:Fd P w K mg base 3 "signed_whole" 1 Dt.qK):Fd P w K mg base 4 "fused" 3 Dt.zl :=
 fd2 (r:=Dt.Vk) F qcu hm hb rfl (fun a b c d e f hr nd G=>(qz (yd 3 G (qu vU wM (qp G.acc f_power_of (hr.mono (by decide)) rfl (.cons (.nil)) (qe (xv 0) qm)) (qp G.acc f_power_of (hr.mono (by decide)) rfl (.cons (.nil)) (qe (xv 1) qm)))) (qz (yd 4 G (zg (vO (qbr rfl) rfl n_min qbo (qe (xv 3) (qe (qp G.acc f_power_of (hr.mono (by decide)) rfl (.cons (.nil)) (qe (xv 2) qm)) qm))) qfu)) (qz (yd 5 G (qu wR zH (qu (xT.or jH) jx (qp G.acc f_signed_whole (hr.mono (by decide)) rfl (.cons (.nil)) (qe (xv 0) qm)) (qp G.acc f_signed_whole (hr.mono (by decide)) rfl (.cons (.nil)) (qe (xv 1) qm))) (qu wL wK (xv 3) (xv 4)))) (qz (yd 6 G (qu vU wM (xv 5) (qu wR zH (qp G.acc f_signed_whole (hr.mono (by decide)) rfl (.cons (.nil)) (qe (xv 2) qm)) (qu wL wK (qp G.acc f_power_of (hr.mono (by decide)) rfl (.cons (.nil)) (qe (xv 2) qm)) (xv 4))))) (qz (xw (wY (xO hr.units) Qb (wy _) (xv 6) qB) (qx (vE (qu wR zH (qu UL (Qc _) (qu UB (Qc _) (qp G.acc f_sign_of (hr.mono (by decide)) rfl (.cons (.nil)) (qe (xv 0) qm)) (qp G.acc f_sign_of (hr.mono (by decide)) rfl (.cons (.nil)) (qe (xv 1) qm))) (qp G.acc f_sign_of (hr.mono (by decide)) rfl (.cons (.nil)) (qe (xv 2) qm))) qB))) ze) (qx (vE (qp G.acc f_rounded (hr.mono (by decide)) rfl (.cons (.cons (.cons (.nil)))) (qe (qde (wY Xp (xE _) (wy _) (xv 6) qB) qB qB) (qe (zg (vO qcf rfl n_abs qa4 (qe (xv 6) qm)) qfy) (qe (xv 4) qm)))))))))))) Dt.qbL
theorem XH:qw ["x","y","widened","whole","left"] ["x","y"] (qg (top 19)):=wD rfl rfl rfl rfl (by decide +kernel)
theorem X8 {f:Addr}{fd:FuncData} (F:Fun K "quotient" "quotient" (top 19) f fd) (hm:mg "quotient"=some (.ref f)) (hb:Binds K fd ["x","y"] []) {C_StepNotFinite:Addr} (c_WIDER:∃ t,mg "WIDER"=some (.int 112 t)) (m_StepNotFinite:mg "StepNotFinite"=some (.ref C_StepNotFinite)) (x_StepNotFinite:qO K C_StepNotFinite=true) (f_is_zero:Fd P w K mg base 2 "is_zero" 1 Dt.vL) (f_power_of:Fd P w K mg base 2 "power_of" 1 Dt.qC) (f_rounded_with_rest:Fd P w K mg base 3 "rounded_with_rest" 4 Dt.qG) (f_sign_of:Fd P w K mg base 1 "sign_of" 1 Dt.qJ) (f_whole_of:Fd P w K mg base 2 "whole_of" 1 Dt.qI):Fd P w K mg base 4 "quotient" 2 Dt.vm :=
 fd2 (r:=Dt.x6) F XH hm hb rfl (fun a b c d e f hr nd G=>(qz (xw (Y6 (qp G.acc f_is_zero (hr.mono (by decide)) rfl (.cons (.nil)) (qe (xv 1) qm))) (qx (yI G rfl m_StepNotFinite x_StepNotFinite)) ze) (qz (yd 2 G (qu wR zH (qp G.acc f_whole_of (hr.mono (by decide)) rfl (.cons (.nil)) (qe (xv 0) qm)) (vY rfl c_WIDER))) (qz (yd 3 G (qu yJ xW (xv 2) (qp G.acc f_whole_of (hr.mono (by decide)) rfl (.cons (.nil)) (qe (xv 1) qm)))) (qz (yd 4 G (qu JR Jf (xv 2) (qp G.acc f_whole_of (hr.mono (by decide)) rfl (.cons (.nil)) (qe (xv 1) qm)))) (qx (vE (qp G.acc f_rounded_with_rest (hr.mono (by decide)) rfl (.cons (.cons (.cons (.cons (.nil))))) (qe (qu UB (Qc _) (qp G.acc f_sign_of (hr.mono (by decide)) rfl (.cons (.nil)) (qe (xv 0) qm)) (qp G.acc f_sign_of (hr.mono (by decide)) rfl (.cons (.nil)) (qe (xv 1) qm))) (qe (xv 3) (qe (xv 4) (qe (qu wL wK (qu wL wK (qp G.acc f_power_of (hr.mono (by decide)) rfl (.cons (.nil)) (qe (xv 0) qm)) (qp G.acc f_power_of (hr.mono (by decide)) rfl (.cons (.nil)) (qe (xv 1) qm))) (vY rfl c_WIDER)) qm)))))))))))) Dt.Xi
theorem Za:qw ["whole","guess","better"] ["whole"] (qg (top 20)):=wD rfl rfl rfl rfl (by decide +kernel)
theorem Zl {f:Addr}{fd:FuncData} (F:Fun K "whole_root" "whole_root" (top 20) f fd) (hm:mg "whole_root"=some (.ref f)) (hb:Binds K fd ["whole"] [])  : Fd P w K mg base 1 "whole_root" 1 Dt.wB :=
 fd2 (r:=Dt.ym) F Za hm hb rfl (fun a b c d e f hr nd G=>(qz (yd 1 G (qu wR zH qB (qu yJ xW (qu vU wM (J7 (qbY PySem.F.plainAttrs_int PySem.F.slot_int_bit_length PySem.F.type_int_bit_length qaB (xv 0))) qB) qB))) (qz (yd 2 G (qu yJ xW (qu vU wM (xv 1) (qu yJ xW (xv 0) (xv 1))) qB)) (qz (qda G (wY Xp (xE _) (wy _) (xv 2) (xv 1)) (qz (yd 1 G (xv 2)) (qx (yd 2 G (qu yJ xW (qu vU wM (xv 1) (qu yJ xW (xv 0) (xv 1))) qB))))) (qx (qbR 1)))))) Dt.W5
theorem qes:qw ["x","odd","widened","whole"] ["x"] (qg (top 21)):=wD rfl rfl rfl rfl (by decide +kernel)
theorem qeB {f:Addr}{fd:FuncData} (F:Fun K "root" "root" (top 21) f fd) (hm:mg "root"=some (.ref f)) (hb:Binds K fd ["x"] []) {C_StepNotFinite:Addr} (c_WIDER:∃ t,mg "WIDER"=some (.int 112 t)) (m_StepNotFinite:mg "StepNotFinite"=some (.ref C_StepNotFinite)) (x_StepNotFinite:qO K C_StepNotFinite=true) (f_is_zero:Fd P w K mg base 2 "is_zero" 1 Dt.vL) (f_power_of:Fd P w K mg base 2 "power_of" 1 Dt.qC) (f_rounded_with_rest:Fd P w K mg base 3 "rounded_with_rest" 4 Dt.qG) (f_sign_of:Fd P w K mg base 1 "sign_of" 1 Dt.qJ) (f_whole_of:Fd P w K mg base 2 "whole_of" 1 Dt.qI) (f_whole_root:Fd P w K mg base 1 "whole_root" 1 Dt.wB):Fd P w K mg base 4 "root" 1 Dt.uE :=
 fd2 (r:=Dt.Xb) F qes hm hb rfl (fun a b c d e f hr nd G=>(qz (xw (Y6 (qp G.acc f_is_zero (hr.mono (by decide)) rfl (.cons (.nil)) (qe (xv 0) qm))) (qx (qbR 0)) ze) (qz (xw (wY (xO hr.units) Qb (wy _) (qp G.acc f_sign_of (hr.mono (by decide)) rfl (.cons (.nil)) (qe (xv 0) qm)) qB) (qx (yI G rfl m_StepNotFinite x_StepNotFinite)) ze) (qz (yd 1 G (qu JR Jf (qp G.acc f_power_of (hr.mono (by decide)) rfl (.cons (.nil)) (qe (xv 0) qm)) qB)) (qz (yd 2 G (qu wR zH (qp G.acc f_whole_of (hr.mono (by decide)) rfl (.cons (.nil)) (qe (xv 0) qm)) (qu vU wM (vY rfl c_WIDER) (xv 1)))) (qz (yd 3 G (qp G.acc f_whole_root (hr.mono (by decide)) rfl (.cons (.nil)) (qe (xv 2) qm))) (qx (vE (qp G.acc f_rounded_with_rest (hr.mono (by decide)) rfl (.cons (.cons (.cons (.cons (.nil))))) (qe qB (qe (xv 3) (qe (qu wL wK (xv 2) (qu (xT.or jH) jx (xv 3) (xv 3))) (qe (qu yJ xW (qu wL wK (qu wL wK (qp G.acc f_power_of (hr.mono (by decide)) rfl (.cons (.nil)) (qe (xv 0) qm)) (xv 1)) (vY rfl c_WIDER)) qB) qm))))))))))))) Dt.qey
theorem U4:qw ["numbers","n","start"] ["numbers","n"] (qg (top 23)):=wD rfl rfl rfl rfl (by decide +kernel)
theorem Jk {f:Addr}{fd:FuncData} (F:Fun K "grid_of" "grid_of" (top 23) f fd) (hm:mg "grid_of"=some (.ref f)) (hb:Binds K fd ["numbers","n"] []) (n_len:mg "len"=none) (n_range:mg "range"=none):Fd P w K mg base 1 "grid_of" 2 Gr.wG :=
 fd2 (r:=Gr.u5) F U4 hm hb rfl (fun a b c d e f hr nd G=>(qx (vE (yX (hc:=rfl) (hN:=nd) (acc:=G.acc) (hst:=rfl) (hfr:=rfl) (hi:=(qa6 (i:=2) rfl n_range qB (zg (vO vh rfl n_len vW (qe (xv 0) qm)) yg) (xv 1))) (own:=[("start",2)]) (ok:=by show jw ["numbers","n","start"] (qg (top 23)) _ _=true;decide +kernel) (hv:=by simp [Tg.within]) (hg:=fun s H C cl fp=>(pgn 2 nd)) (ht:=fun s H C cl fp=>zi) (he:=fun s H C cl fp=>(qc0 (xv 0) (qaz (xv 2)) (qaz (qu vU wM (xv 2) (xv 1))) qeS)))))) (fun _ _=>.inr rfl)
theorem qdx:qw ["grid","numbers","row"] ["grid"] (qg (top 24)):=wD rfl rfl rfl rfl (by decide +kernel)
theorem qec {f:Addr}{fd:FuncData} (F:Fun K "flat" "flat" (top 24) f fd) (hm:mg "flat"=some (.ref f)) (hb:Binds K fd ["grid"] [])  : Fd P w K mg base 1 "flat" 1 Gr.ux :=
 qeM (r:=Gr.Yk) F qdx hm hb rfl (fun a b c d e f hr nd G=>(ve (U5 1 G ne_nil) (ve (Qe G (qfc (uK (i:=2) (xv 0))) (pgn 2 nd) (wd (qa8 (qcU PySem.F.plainAttrs_list PySem.F.slot_list_extend PySem.F.type_list_extend Ji (zX 1) (vQ (xv 2) zS))))) (wd (YJ (zX 1)))))) (fun _=>rfl)
theorem YK:qw ["grid","j","row"] ["grid","j"] (qg (top 25)):=wD rfl rfl rfl rfl (by decide +kernel)
theorem Yl {f:Addr}{fd:FuncData} (F:Fun K "column_of" "column_of" (top 25) f fd) (hm:mg "column_of"=some (.ref f)) (hb:Binds K fd ["grid","j"] [])  : Fd P w K mg base 1 "column_of" 2 Gr.vJ :=
 fd2 (r:=Gr.yS) F YK hm hb rfl (fun a b c d e f hr nd G=>(qx (vE (yX (hc:=rfl) (hN:=nd) (acc:=G.acc) (hst:=rfl) (hfr:=rfl) (hi:=(uK (i:=2) (xv 0))) (own:=[("row",2)]) (ok:=by show jw ["grid","j","row"] (qg (top 25)) _ _=true;decide +kernel) (hv:=by simp [Tg.within]) (hg:=fun s H C cl fp=>(pgn 2 nd)) (ht:=fun s H C cl fp=>zi) (he:=fun s H C cl fp=>(yG (xv 2) (xv 1) (fun _ _=>rfl))))))) (fun _ _=>.inr rfl)
theorem jo:qw ["grid","j"] ["grid"] (qg (top 26)):=wD rfl rfl rfl rfl (by decide +kernel)
theorem Zc {f:Addr}{fd:FuncData} (F:Fun K "columns_of" "columns_of" (top 26) f fd) (hm:mg "columns_of"=some (.ref f)) (hb:Binds K fd ["grid"] []) (n_len:mg "len"=none) (n_range:mg "range"=none) (f_column_of:Fd P w K mg base 1 "column_of" 2 Gr.vJ):Fd P w K mg base 2 "columns_of" 1 Gr.v8 :=
 fd2 (r:=Gr.yz) F jo hm hb rfl (fun a b c d e f hr nd G=>(qx (vE (yX (hc:=rfl) (hN:=nd) (acc:=G.acc) (hst:=rfl) (hfr:=rfl) (hi:=(jd (i:=1) rfl n_range (zg (vO vh rfl n_len vW (qe (yG (xv 0) qB (fun _ _=>rfl)) qm)) yg))) (own:=[("j",1)]) (ok:=by show jw ["grid","j"] (qg (top 26)) _ _=true;decide +kernel) (hv:=by simp [Tg.within]) (hg:=fun s H C cl fp=>(pgn 1 nd)) (ht:=fun s H C cl fp=>zi) (he:=fun s H C cl fp=>(qp zL f_column_of (hr.mono (by decide)) rfl (.cons (.cons (.nil))) (qe (xv 0) (qe (xv 1) qm)))))))) (fun _ _=>.inr rfl)
theorem WC {f:Addr}{fd:FuncData} (F:Fun K "columns_of" "columns_of" (top 26) f fd) (hm:mg "columns_of"=some (.ref f)) (hb:Binds K fd ["grid"] []) (n_len:mg "len"=none) (n_range:mg "range"=none) (f_column_of:Fd P w K mg base 1 "column_of" 2 Gr.vJ):FdM P w K mg base 2 "columns_of" 1 Gr.za :=
 qdF (r:=Gr.z4) F jo hm hb rfl (fun a b c d e f hr nd G=>(wd (qa2 (qdH (hc:=rfl) (hN:=nd) (acc:=G.acc) (hst:=rfl) (hfr:=rfl) (hi:=(jd (i:=1) rfl n_range (zg (vO vh rfl n_len vW (qe (yG (xv 0) qB (fun _ _=>rfl)) qm)) yg))) (own:=[("j",1)]) (ok:=by show jw ["grid","j"] (qg (top 26)) _ _=true;decide +kernel) (hv:=by simp [Tg.within]) (hg:=fun s H C cl fp=>(pgn 1 nd)) (ht:=fun s H C cl fp=>zi) (he:=fun s H C cl fp=>(qp zL f_column_of (hr.mono (by decide)) rfl (.cons (.cons (.nil))) (qe (xv 0) (qe (xv 1) qm)))))))) (fun _ _=>rfl)
theorem jN:qw ["m","n","i"] ["m","n"] (qg (top 27)):=wD rfl rfl rfl rfl (by decide +kernel)
theorem Yg {f:Addr}{fd:FuncData} (F:Fun K "zero_grid" "zero_grid" (top 27) f fd) (hm:mg "zero_grid"=some (.ref f)) (hb:Binds K fd ["m","n"] []) (n_range:mg "range"=none):Fd P w K mg base 1 "zero_grid" 2 Gr.wW :=
 fd2 (r:=Gr.yN) F jN hm hb rfl (fun a b c d e f hr nd G=>(qx (vE (yX (hc:=rfl) (hN:=nd) (acc:=G.acc) (hst:=rfl) (hfr:=rfl) (hi:=(jd (i:=2) rfl n_range (xv 0))) (own:=[("i",2)]) (ok:=by show jw ["m","n","i"] (qg (top 27)) _ _=true;decide +kernel) (hv:=by simp [Tg.within]) (hg:=fun s H C cl fp=>(pgn 2 nd)) (ht:=fun s H C cl fp=>zi) (he:=fun s H C cl fp=>(qu (xT.or jH) jx (QA (qe qB qm)) (xv 1))))))) (fun _ _=>.inr rfl)
theorem Zr {f:Addr}{fd:FuncData} (F:Fun K "zero_grid" "zero_grid" (top 27) f fd) (hm:mg "zero_grid"=some (.ref f)) (hb:Binds K fd ["m","n"] []) (n_range:mg "range"=none):FdM P w K mg base 1 "zero_grid" 2 Gr.zw :=
 qdF (r:=Gr.yo) F jN hm hb rfl (fun a b c d e f hr nd G=>(wd (qea (qdE (hc:=rfl) (hN:=nd) (acc:=G.acc) (hst:=rfl) (hfr:=rfl) (hi:=(jd (i:=2) rfl n_range (xv 0))) (own:=[("i",2)]) (ok:=by show jw ["m","n","i"] (qg (top 27)) _ _=true;decide +kernel) (hv:=by simp [Tg.within]) (hg:=fun s H C cl fp=>(pgn 2 nd)) (ht:=fun s H C cl fp=>zi) (he:=fun s H C cl fp=>(qu (xT.or jH) jx (QA (qe qB qm)) (xv 1))))))) (fun _ _=>rfl)
theorem Vz:qw ["row","column","start","s","x","y"] ["row","column","start"] (qg (top 28)):=wD rfl rfl rfl rfl (by decide +kernel)
theorem Vv {f:Addr}{fd:FuncData} (F:Fun K "fused_along" "fused_along" (top 28) f fd) (hm:mg "fused_along"=some (.ref f)) (hb:Binds K fd ["row","column","start"] []) (n_zip:mg "zip"=none) (f_fused:Fd P w K mg base 4 "fused" 3 Dt.zl):Fd P w K mg base 5 "fused_along" 3 Dt.qE :=
 fd2 (r:=Dt.zZ) F Vz hm hb rfl (fun a b c d e f hr nd G=>(qz (yd 3 G (xv 2)) (qz (JJ G (Vx (i:=4) (j:=5) rfl n_zip (xv 0) (xv 1)) (pg2 rfl (pgn 4 nd) (pgn 5 nd)) (qx (yd 3 G (qp G.acc f_fused (hr.mono (by decide)) rfl (.cons (.cons (.cons (.nil)))) (qe (xv 4) (qe (xv 5) (qe (xv 3) qm))))))) (qx (qbR 3))))) Dt.VH
theorem Zj:qw ["a","b","starts","columns","made","row","start_row","column","start"] ["a","b","starts"] (qg (top 29)):=wD rfl rfl rfl rfl (by decide +kernel)
theorem Zn {f:Addr}{fd:FuncData} (F:Fun K "times_onto" "times_onto" (top 29) f fd) (hm:mg "times_onto"=some (.ref f)) (hb:Binds K fd ["a","b","starts"] []) (n_zip:mg "zip"=none) (f_columns_of:Fd P w K mg base 2 "columns_of" 1 Gr.v8) (f_fused_along:Fd P w K mg base 5 "fused_along" 3 Dt.qE):Fd P w K mg base 6 "times_onto" 3 Gr.zc :=
 qeM (r:=Gr.yq) F Zj hm hb rfl (fun a b c d e f hr nd G=>(ve (jJ 3 G (V6 (qp G.acc f_columns_of (hr.mono (by decide)) rfl (.cons (.nil)) (qe (xv 1) qm)))) (ve (U5 4 G ne_nil) (ve (Qe G (qfc (Vx (i:=5) (j:=6) rfl n_zip (xv 0) (xv 2))) (pg2 rfl (pgn 5 nd) (pgn 6 nd)) (wd (Z0 (qcU PySem.F.plainAttrs_list PySem.F.slot_list_append PySem.F.type_list_append ZI (zX 4) (vQ (V6 (yX (hc:=rfl) (hN:=nd) (acc:=G.acc) (hst:=rfl) (hfr:=rfl) (hi:=(Vx (i:=7) (j:=8) rfl n_zip (xv 3) (xv 6))) (own:=[("column",7),("start",8)]) (ok:=by show jw ["a","b","starts","columns","made","row","start_row","column","start"] (qg (top 29)) _ _=true;decide +kernel) (hv:=by simp [Tg.within]) (hg:=fun s H C cl fp=>(pg2 rfl (pgn 7 nd) (pgn 8 nd))) (ht:=fun s H C cl fp=>zi) (he:=fun s H C cl fp=>(qp zL f_fused_along (hr.mono (by decide)) rfl (.cons (.cons (.cons (.nil)))) (qe (xv 5) (qe (xv 7) (qe (xv 8) qm))))))) zS))))) (wd (YJ (zX 4))))))) (fun _=>rfl)
theorem Xo:qw ["a","b"] ["a","b"] (qg (top 30)):=wD rfl rfl rfl rfl (by decide +kernel)
theorem XU {f:Addr}{fd:FuncData} (F:Fun K "times_of" "times_of" (top 30) f fd) (hm:mg "times_of"=some (.ref f)) (hb:Binds K fd ["a","b"] []) (n_len:mg "len"=none) (f_times_onto:Fd P w K mg base 6 "times_onto" 3 Gr.zc) (f_zero_grid:Fd P w K mg base 1 "zero_grid" 2 Gr.wW):Fd P w K mg base 7 "times_of" 2 Gr.zW :=
 fd2 (r:=Gr.x5) F Xo hm hb rfl (fun a b c d e f hr nd G=>(qx (vE (qp G.acc f_times_onto (hr.mono (by decide)) rfl (.cons (.cons (.cons (.nil)))) (qe (xv 0) (qe (xv 1) (qe (qp G.acc f_zero_grid (hr.mono (by decide)) rfl (.cons (.cons (.nil))) (qe (zg (vO vh rfl n_len vW (qe (xv 0) qm)) yg) (qe (zg (vO vh rfl n_len vW (qe (yG (xv 1) qB (fun _ _=>rfl)) qm)) yg) qm))) qm))))))) (fun _ _=>.inr rfl)
theorem QN:qw ["sizes","lists","counts","size","numbers","count"] ["sizes","lists","counts"] (qg (top 37)):=wD rfl rfl rfl rfl (by decide +kernel)
theorem QY {f:Addr}{fd:FuncData} (F:Fun K "check_counts" "check_counts" (top 37) f fd) (hm:mg "check_counts"=some (.ref f)) (hb:Binds K fd ["sizes","lists","counts"] []) {C_WrongCount:Addr} (c_GREATEST_SIZE:∃ t,mg "GREATEST_SIZE"=some (.int 16 t)) (n_len:mg "len"=none) (n_zip:mg "zip"=none) (m_WrongCount:mg "WrongCount"=some (.ref C_WrongCount)) (x_WrongCount:qO K C_WrongCount=true):Fd P w K mg base 1 "check_counts" 3 Dt.vg :=
 fd2 (r:=Dt.zI) F QN hm hb rfl (fun a b c d e f hr nd G=>(qz (qal G (uK (i:=3) (xv 0)) (pgn 3 nd) (qx (xw (Y8 (qeY (wY Xp (xE _) (wy _) (xv 3) qB) (qcV (wY qeZ (xE _) (wy _) (xv 3) (vY rfl c_GREATEST_SIZE))))) (qx (yI G rfl m_WrongCount x_WrongCount)) ze))) (qx (JJ G (Vx (i:=4) (j:=5) rfl n_zip (xv 1) (xv 2)) (pg2 rfl (pgn 4 nd) (pgn 5 nd)) (qx (xw (wY (qfD hr.units) qhf (wy _) (zg (vO vh rfl n_len vW (qe (xv 4) qm)) yg) (xv 5)) (qx (yI G rfl m_WrongCount x_WrongCount)) ze)))))) Dt.Q0
theorem jk:qw ["m","n"] ["m","n"] (qg (top 38)):=wD rfl rfl rfl rfl (by decide +kernel)
theorem jl {f:Addr}{fd:FuncData} (F:Fun K "check_rows_reach" "check_rows_reach" (top 38) f fd) (hm:mg "check_rows_reach"=some (.ref f)) (hb:Binds K fd ["m","n"] []) {C_NotAsTold:Addr} (m_NotAsTold:mg "NotAsTold"=some (.ref C_NotAsTold)) (x_NotAsTold:qO K C_NotAsTold=true):Fd P w K mg base 1 "check_rows_reach" 2 Gr.qU :=
 fd2 (r:=Gr.wx) F jk hm hb rfl (fun a b c d e f hr nd G=>(qx (xw (wY Xp (xE _) (wy _) (xv 0) (xv 1)) (qx (yI G rfl m_NotAsTold x_NotAsTold)) ze))) (fun _ _=>.inr rfl)
theorem QP:qw ["numbers","x"] ["numbers"] (qg (top 39)):=wD rfl rfl rfl rfl (by decide +kernel)
theorem QU {f:Addr}{fd:FuncData} (F:Fun K "check_finite" "check_finite" (top 39) f fd) (hm:mg "check_finite"=some (.ref f)) (hb:Binds K fd ["numbers"] []) {C_NotFinite:Addr} (m_NotFinite:mg "NotFinite"=some (.ref C_NotFinite)) (x_NotFinite:qO K C_NotFinite=true) (f_is_finite:Fd P w K mg base 2 "is_finite" 1 Dt.wV):Fd P w K mg base 3 "check_finite" 1 Dt.qV :=
 fd2 (r:=Dt.zB) F QP hm hb rfl (fun a b c d e f hr nd G=>(qx (qal G (uK (i:=1) (xv 0)) (pgn 1 nd) (qx (xw (qgl (Y6 (qp G.acc f_is_finite (hr.mono (by decide)) rfl (.cons (.nil)) (qe (xv 1) qm)))) (qx (yI G rfl m_NotFinite x_NotFinite)) ze))))) Dt.QW
theorem Zs:qw ["row","factor","other","s","y"] ["row","factor","other"] (qg (top 41)):=wD rfl rfl rfl rfl (by decide +kernel)
theorem W9 {f:Addr}{fd:FuncData} (F:Fun K "less_times" "less_times" (top 41) f fd) (hm:mg "less_times"=some (.ref f)) (hb:Binds K fd ["row","factor","other"] []) (n_zip:mg "zip"=none) (f_fused:Fd P w K mg base 4 "fused" 3 Dt.zl) (f_opposite:Fd P w K mg base 1 "opposite" 1 Dt.wq):Fd P w K mg base 5 "less_times" 3 Gr.qY :=
 fd2 (r:=Gr.yw) F Zs hm hb rfl (fun a b c d e f hr nd G=>(qx (vE (yX (hc:=rfl) (hN:=nd) (acc:=G.acc) (hst:=rfl) (hfr:=rfl) (hi:=(Vx (i:=3) (j:=4) rfl n_zip (xv 0) (xv 2))) (own:=[("s",3),("y",4)]) (ok:=by show jw ["row","factor","other","s","y"] (qg (top 41)) _ _=true;decide +kernel) (hv:=by simp [Tg.within]) (hg:=fun s H C cl fp=>(pg2 rfl (pgn 3 nd) (pgn 4 nd))) (ht:=fun s H C cl fp=>zi) (he:=fun s H C cl fp=>(qp zL f_fused (hr.mono (by decide)) rfl (.cons (.cons (.cons (.nil)))) (qe (qp zL f_opposite (hr.mono (by decide)) rfl (.cons (.nil)) (qe (xv 1) qm)) (qe (xv 4) (qe (xv 3) qm))))))))) (fun _ _=>.inr rfl)
theorem VW:qw ["x","start","y","i","j","s"] ["x","start"] (qg (top 42)):=wD rfl rfl rfl rfl (by decide +kernel)
theorem VX {f:Addr}{fd:FuncData} (F:Fun K "back_solved" "back_solved" (top 42) f fd) (hm:mg "back_solved"=some (.ref f)) (hb:Binds K fd ["x","start"] []) (n_len:mg "len"=none) (n_list:mg "list"=none) (n_range:mg "range"=none) (f_less_times:Fd P w K mg base 5 "less_times" 3 Gr.qY) (f_quotient:Fd P w K mg base 4 "quotient" 2 Dt.vm):Fd P w K mg base 6 "back_solved" 2 Gr.zh :=
 qeM (r:=Gr.z6) F VW hm hb rfl (fun a b c d e f hr nd G=>(ve (U5 2 G (qd5 (qbC Xg rfl n_list Ux (z3 (zX 1) Qv)))) (ve (Qe G (qbm (i:=3) rfl n_range (qu wL wK (zg (vO vh rfl n_len vW (qe (xv 2) qm)) yg) qB) (Y7 qB) (Y7 qB)) (pgn 3 nd) (ve (Qe G (Z6 (i:=4) rfl n_range (qu vU wM (xv 3) qB) (zg (vO vh rfl n_len vW (qe (xv 2) qm)) yg)) (pgn 4 nd) (wd (uw (WO (Ud (qp G.acc f_less_times (hr.mono (by decide)) rfl (.cons (.cons (.cons (.nil)))) (qe (yG (xv 2) (xv 3) (fun _ _=>rfl)) (qe (yG (yG (xv 0) (xv 3) (fun _ _=>rfl)) (xv 4) (fun _ _=>rfl)) (qe (yG (xv 2) (xv 4) (fun _ _=>rfl)) qm))))) (WL (zX 2) (xv 3) set_list))))) (wd (uw (WO (Ud (yX (hc:=rfl) (hN:=nd) (acc:=G.acc) (hst:=rfl) (hfr:=rfl) (hi:=(uK (i:=5) (yG (xv 2) (xv 3) (fun _ _=>rfl)))) (own:=[("s",5)]) (ok:=by show jw ["x","start","y","i","j","s"] (qg (top 42)) _ _=true;decide +kernel) (hv:=by simp [Tg.within]) (hg:=fun s H C cl fp=>(pgn 5 nd)) (ht:=fun s H C cl fp=>zi) (he:=fun s H C cl fp=>(qp zL f_quotient (hr.mono (by decide)) rfl (.cons (.cons (.nil))) (qe (xv 5) (qe (yG (yG (xv 0) (xv 3) (fun _ _=>rfl)) (xv 3) (fun _ _=>rfl)) qm)))))) (WL (zX 2) (xv 3) set_list)))))) (wd (YJ (zX 2)))))) (fun _=>rfl)
theorem Zb:qw ["self","a"] ["self","a"] (qg (qb9 43 0)):=wD rfl rfl rfl rfl (by decide +kernel)
theorem Zo {f:Addr}{fd:FuncData} (F:Fun K "__init__" "Split.__init__" (qb9 43 0) f fd) (n_len:mg "len"=none) (M_columns_of:FdM P w K mg base 2 "columns_of" 1 Gr.za) (M_zero_grid:FdM P w K mg base 1 "zero_grid" 2 Gr.zw) (k_Split_q_columns:∀ C,mg "Split"=some (.ref C)->Cls K C/\vD K C "q_columns") (k_Split_r:∀ C,mg "Split"=some (.ref C)->Cls K C/\vD K C "r") (k_Split_x_columns:∀ C,mg "Split"=some (.ref C)->Cls K C/\vD K C "x_columns"):xX P w K mg base (CX1 P w) 3 f fd ["self","a"] (spM mg K 2 Gr.wC) :=
 qhE (r:=Gr.zM) F Zb rfl (fun a b c d e f hr nd G=>(ve (Ue G k_Split_x_columns M_columns_of (hr.mono (by decide)) rfl rfl (zX 0) (by exact (z3 (zX 1) Qv))) (ve (qcm k_Split_q_columns (zX 0) (hv:=ne_nil)) (wd (Ue G k_Split_r M_zero_grid (hr.mono (by decide)) rfl rfl (zX 0) (by exact (z3 (V6 (zg (vO vh rfl n_len vW (qe (yG (xv 1) qB (fun _ _=>rfl)) qm)) yg)) (z3 (V6 (zg (vO vh rfl n_len vW (qe (yG (xv 1) qB (fun _ _=>rfl)) qm)) yg)) Qv))))))))
theorem YT:qw ["split","k","column","s","length","x"] ["split","k"] (qg (top 44)):=wD rfl rfl rfl rfl (by decide +kernel)
theorem YD {f:Addr}{fd:FuncData} (F:Fun K "split_off" "split_off" (top 44) f fd) (hm:mg "split_off"=some (.ref f)) (hb:Binds K fd ["split","k"] []) {C_NotAsTold:Addr} (m_NotAsTold:mg "NotAsTold"=some (.ref C_NotAsTold)) (x_NotAsTold:qO K C_NotAsTold=true) (f_fused_along:Fd P w K mg base 5 "fused_along" 3 Dt.qE) (f_is_zero:Fd P w K mg base 2 "is_zero" 1 Dt.vL) (f_quotient:Fd P w K mg base 4 "quotient" 2 Dt.vm) (f_root:Fd P w K mg base 4 "root" 1 Dt.uE) (k_Split_q_columns:∀ C,mg "Split"=some (.ref C)->Cls K C/\vD K C "q_columns") (k_Split_r:∀ C,mg "Split"=some (.ref C)->Cls K C/\vD K C "r") (k_Split_x_columns:∀ C,mg "Split"=some (.ref C)->Cls K C/\vD K C "x_columns"):FdM P w K mg base 6 "split_off" 2 Gr.wo :=
 qdF (r:=Gr.yQ) F YT hm hb rfl (fun a b c d e f hr nd G=>(ve (jJ 2 G (JX (uM k_Split_x_columns (zX 0)) (xv 1))) (ve (jJ 3 G (V6 (qp G.acc f_fused_along (hr.mono (by decide)) rfl (.cons (.cons (.cons (.nil)))) (qe (xv 2) (qe (xv 2) (qe qB qm)))))) (ve (qgR (Y6 (qp G.acc f_is_zero (hr.mono (by decide)) rfl (.cons (.nil)) (qe (xv 3) qm))) (wd (qdn G rfl m_NotAsTold x_NotAsTold)) qee) (ve (jJ 4 G (V6 (qp G.acc f_root (hr.mono (by decide)) rfl (.cons (.nil)) (qe (xv 3) qm)))) (ve (uw (WO (zX 4) (WL (JX (uM k_Split_r (zX 0)) (xv 1)) (xv 1) set_list))) (wd (Z0 (qcU PySem.F.plainAttrs_list PySem.F.slot_list_append PySem.F.type_list_append ZI (uM k_Split_q_columns (zX 0)) (vQ (V6 (yX (hc:=rfl) (hN:=nd) (acc:=G.acc) (hst:=rfl) (hfr:=rfl) (hi:=(uK (i:=5) (xv 2))) (own:=[("x",5)]) (ok:=by show jw ["split","k","column","s","length","x"] (qg (top 44)) _ _=true;decide +kernel) (hv:=by simp [Tg.within]) (hg:=fun s H C cl fp=>(pgn 5 nd)) (ht:=fun s H C cl fp=>zi) (he:=fun s H C cl fp=>(qp zL f_quotient (hr.mono (by decide)) rfl (.cons (.cons (.nil))) (qe (xv 5) (qe (xv 4) qm)))))) zS)))))))))) (fun _ _=>rfl)
theorem jm:qw ["split","k","j","q_column","s"] ["split","k","j"] (qg (top 45)):=wD rfl rfl rfl rfl (by decide +kernel)
theorem jf {f:Addr}{fd:FuncData} (F:Fun K "take_from_column" "take_from_column" (top 45) f fd) (hm:mg "take_from_column"=some (.ref f)) (hb:Binds K fd ["split","k","j"] []) (f_fused_along:Fd P w K mg base 5 "fused_along" 3 Dt.qE) (f_less_times:Fd P w K mg base 5 "less_times" 3 Gr.qY) (k_Split_q_columns:∀ C,mg "Split"=some (.ref C)->Cls K C/\vD K C "q_columns") (k_Split_r:∀ C,mg "Split"=some (.ref C)->Cls K C/\vD K C "r") (k_Split_x_columns:∀ C,mg "Split"=some (.ref C)->Cls K C/\vD K C "x_columns"):FdM P w K mg base 6 "take_from_column" 3 Gr.qM :=
 qdF (r:=Gr.wz) F jm hm hb rfl (fun a b c d e f hr nd G=>(ve (jJ 3 G (JX (uM k_Split_q_columns (zX 0)) (xv 1))) (ve (jJ 4 G (Ud (qp G.acc f_fused_along (hr.mono (by decide)) rfl (.cons (.cons (.cons (.nil)))) (qe (xv 3) (qe (yG (j9 k_Split_x_columns (xv 0)) (xv 2) (fun _ _=>rfl)) (qe qB qm)))))) (ve (uw (WO (zX 4) (WL (JX (uM k_Split_r (zX 0)) (xv 1)) (xv 2) set_list))) (wd (uw (WO (Ud (qp G.acc f_less_times (hr.mono (by decide)) rfl (.cons (.cons (.cons (.nil)))) (qe (yG (j9 k_Split_x_columns (xv 0)) (xv 2) (fun _ _=>rfl)) (qe (xv 4) (qe (xv 3) qm))))) (WL (uM k_Split_x_columns (zX 0)) (xv 2) set_list)))))))) (fun _ _=>rfl)
theorem qcI:qw ["a","split","n","k","j"] ["a"] (qg (top 46)):=wD rfl rfl rfl rfl (by decide +kernel)
theorem qdq {f:Addr}{fd:FuncData} (F:Fun K "qr_of" "qr_of" (top 46) f fd) (hm:mg "qr_of"=some (.ref f)) (hb:Binds K fd ["a"] []) (n_len:mg "len"=none) (n_range:mg "range"=none) (M_split_off:FdM P w K mg base 6 "split_off" 2 Gr.wo) (M_take_from_column:FdM P w K mg base 6 "take_from_column" 3 Gr.qM) (i_Split:FdI P w K mg base 3 "Split" 2 Gr.wC) (k_Split_r:∀ C,mg "Split"=some (.ref C)->Cls K C/\vD K C "r"):Fd P w K mg base 7 "qr_of" 1 Gr.uL :=
 qeM (r:=Gr.Vg) F qcI hm hb rfl (fun a b c d e f hr nd G=>(ve (qc4 1 G i_Split (hr.mono (by decide)) rfl rfl (z3 (zX 0) Qv) (hret:=Gr.Wn)) (ve (jJ 2 G (Ud (zg (vO vh rfl n_len vW (qe (j9 k_Split_r (xv 1)) qm)) yg))) (ve (Qe G (qbv (i:=3) rfl n_range (xv 2)) (pgn 3 nd) (ve (X2 G.acc M_split_off (hr.mono (by decide)) rfl rfl (z3 (zX 1) (z3 (zX 3) Qv))) (wd (Qe G (Z6 (i:=4) rfl n_range (qu vU wM (xv 3) qB) (xv 2)) (pgn 4 nd) (wd (X2 G.acc M_take_from_column (hr.mono (by decide)) rfl rfl (z3 (zX 1) (z3 (zX 3) (z3 (zX 4) Qv))))))))) (wd (YJ (zX 1))))))) (fun _=>rfl)
theorem Uo:qw ["a","b","split"] ["a","b"] (qg (top 47)):=wD rfl rfl rfl rfl (by decide +kernel)
theorem Xy {f:Addr}{fd:FuncData} (F:Fun K "least_of" "least_of" (top 47) f fd) (hm:mg "least_of"=some (.ref f)) (hb:Binds K fd ["a","b"] []) (f_back_solved:Fd P w K mg base 6 "back_solved" 2 Gr.zh) (f_qr_of:Fd P w K mg base 7 "qr_of" 1 Gr.uL) (f_times_of:Fd P w K mg base 7 "times_of" 2 Gr.zW) (k_Split_q_columns:∀ C,mg "Split"=some (.ref C)->Cls K C/\vD K C "q_columns") (k_Split_r:∀ C,mg "Split"=some (.ref C)->Cls K C/\vD K C "r"):Fd P w K mg base 8 "least_of" 2 Gr.zp :=
 fd2 (r:=Gr.xH) F Uo hm hb rfl (fun a b c d e f hr nd G=>(qz (yd 2 G (qp G.acc f_qr_of (hr.mono (by decide)) rfl (.cons (.nil)) (qe (xv 0) qm))) (qx (vE (qp G.acc f_back_solved (hr.mono (by decide)) rfl (.cons (.cons (.nil))) (qe (j9 k_Split_r (xv 2)) (qe (qp G.acc f_times_of (hr.mono (by decide)) rfl (.cons (.cons (.nil))) (qe (j9 k_Split_q_columns (xv 2)) (qe (xv 1) qm))) qm))))))) (fun _ _=>.inr rfl)
theorem Zp:qw ["numbers"] ["numbers"] (qg (top 49)):=wD rfl rfl rfl rfl (by decide +kernel)
theorem Zf {f:Addr}{fd:FuncData} (F:Fun K "with_count" "with_count" (top 49) f fd) (hm:mg "with_count"=some (.ref f)) (hb:Binds K fd ["numbers"] []) (n_len:mg "len"=none):Fd P w K mg base 1 "with_count" 1 Dt.vF :=
 fd2 (r:=Dt.j5) F Zp hm hb rfl (fun a b c d e f hr nd G=>(qx (vE (qu vU wM (QA (qe (zg (vO vh rfl n_len vW (qe (xv 0) qm)) yg) qm)) (xv 0))))) Dt.Zd
theorem Xf:qw ["grid"] ["grid"] (qg (top 50)):=wD rfl rfl rfl rfl (by decide +kernel)
theorem Yu {f:Addr}{fd:FuncData} (F:Fun K "grid_told" "grid_told" (top 50) f fd) (hm:mg "grid_told"=some (.ref f)) (hb:Binds K fd ["grid"] []) (f_flat:Fd P w K mg base 1 "flat" 1 Gr.ux) (f_with_count:Fd P w K mg base 1 "with_count" 1 Dt.vF):Fd P w K mg base 2 "grid_told" 1 Gr.v7 :=
 fd2 (r:=Gr.yZ) F Xf hm hb rfl (fun a b c d e f hr nd G=>(qx (vE (qp G.acc f_with_count (hr.mono (by decide)) rfl (.cons (.nil)) (qe (qp G.acc f_flat (hr.mono (by decide)) rfl (.cons (.nil)) (qe (xv 0) qm)) qm))))) (fun _ _=>.inr rfl)
theorem Zq:qw ["m","n","k","a","b"] ["m","n","k","a","b"] (qg (top 51)):=wD rfl rfl rfl rfl (by decide +kernel)
theorem Zg {f:Addr}{fd:FuncData} (F:Fun K "least_told" "least_told" (top 51) f fd) (hm:mg "least_told"=some (.ref f)) (hb:Binds K fd ["m","n","k","a","b"] []) (f_check_counts:Fd P w K mg base 1 "check_counts" 3 Dt.vg) (f_check_finite:Fd P w K mg base 3 "check_finite" 1 Dt.qV) (f_check_rows_reach:Fd P w K mg base 1 "check_rows_reach" 2 Gr.qU) (f_grid_of:Fd P w K mg base 1 "grid_of" 2 Gr.wG) (f_grid_told:Fd P w K mg base 2 "grid_told" 1 Gr.v7) (f_least_of:Fd P w K mg base 8 "least_of" 2 Gr.zp):Fd P w K mg base 9 "least_told" 5 Gr.wu :=
 fd2 (r:=Gr.yj) F Zq hm hb rfl (fun a b c d e f hr nd G=>(qz (Yy (qp G.acc f_check_counts (hr.mono (by decide)) rfl (.cons (.cons (.cons (.nil)))) (qe (QA (qe (xv 0) (qe (xv 1) (qe (xv 2) qm)))) (qe (QA (qe (xv 3) (qe (xv 4) qm))) (qe (QA (qe (qu (xT.or jH) jx (xv 0) (xv 1)) (qe (qu (xT.or jH) jx (xv 0) (xv 2)) qm))) qm))))) (qz (Yy (qp G.acc f_check_rows_reach (hr.mono (by decide)) rfl (.cons (.cons (.nil))) (qe (xv 0) (qe (xv 1) qm)))) (qz (Yy (qp G.acc f_check_finite (hr.mono (by decide)) rfl (.cons (.nil)) (qe (qu vU wM (xv 3) (xv 4)) qm))) (qx (vE (qp G.acc f_grid_told (hr.mono (by decide)) rfl (.cons (.nil)) (qe (qp G.acc f_least_of (hr.mono (by decide)) rfl (.cons (.cons (.nil))) (qe (qp G.acc f_grid_of (hr.mono (by decide)) rfl (.cons (.cons (.nil))) (qe (xv 3) (qe (xv 1) qm))) (qe (qp G.acc f_grid_of (hr.mono (by decide)) rfl (.cons (.cons (.nil))) (qe (xv 4) (qe (xv 2) qm))) qm))) qm)))))))) (fun _ _=>.inr rfl)
end
theorem XX:qw ["work","told"] ["work"] (qg (top 36)):=wD rfl rfl rfl rfl (by decide +kernel)
theorem qds:qw ["m","n","k","a","b"] ["m","n","k","a","b"] (qg (top 52)):=wD rfl rfl rfl rfl (by decide +kernel)
noncomputable def qhL:Scope:=match vC (top 52) with
 | [.Return (some (.Call _ (.Lambda _ _ ls _::_) _ _)) _]=>ls
 | _=>qg (top 52)
theorem qcR:j4 (qg (top 52)) qhL:=⟨rfl,rfl,rfl,by decide +kernel,by decide +kernel,by decide +kernel⟩
theorem all_mk {P:Program}{w:World}{K:Frag}{h:Heap}{mg:Str->Option Value}{fa c PT:Addr} (X:K.In h) (G:h.Ns mainGlobals mg) (hfa:mg "least"=some (.ref fa))
  {C_Split:Addr}
  {f_x28:Addr}{d_x28:FuncData}
  {f_x0:Addr}{d_x0:FuncData}
  {f_x1:Addr}{d_x1:FuncData}
  {f_x2:Addr}{d_x2:FuncData}
  {f_x3:Addr}{d_x3:FuncData}
  {f_x4:Addr}{d_x4:FuncData}
  {f_x5:Addr}{d_x5:FuncData}
  {f_x6:Addr}{d_x6:FuncData}
  {f_x7:Addr}{d_x7:FuncData}
  {f_x8:Addr}{d_x8:FuncData}
  {f_x9:Addr}{d_x9:FuncData}
  {f_x10:Addr}{d_x10:FuncData}
  {f_x11:Addr}{d_x11:FuncData}
  {f_x12:Addr}{d_x12:FuncData}
  {f_x13:Addr}{d_x13:FuncData}
  {f_x14:Addr}{d_x14:FuncData}
  {f_x15:Addr}{d_x15:FuncData}
  {f_x16:Addr}{d_x16:FuncData}
  {f_x17:Addr}{d_x17:FuncData}
  {f_x18:Addr}{d_x18:FuncData}
  {f_x19:Addr}{d_x19:FuncData}
  {f_x20:Addr}{d_x20:FuncData}
  {f_x21:Addr}{d_x21:FuncData}
  {f_x22:Addr}{d_x22:FuncData}
  {f_x23:Addr}{d_x23:FuncData}
  {f_x24:Addr}{d_x24:FuncData}
  {f_x25:Addr}{d_x25:FuncData}
  {f_x26:Addr}{d_x26:FuncData}
  {f_x27:Addr}{d_x27:FuncData}
  {f_x29:Addr}{d_x29:FuncData}
  {f_x30:Addr}{d_x30:FuncData}
  {f_x31:Addr}{d_x31:FuncData}
  {f_x32:Addr}{d_x32:FuncData}
  {f_x33:Addr}{d_x33:FuncData}
  {f_x34:Addr}{d_x34:FuncData}
  {f_x35:Addr}{d_x35:FuncData}
  {f_x36:Addr}{oc_x36 kV_x36 dc_x36 pm_x36 cd_x36 ct_x36:Value}{od_x36 an_x36:Option Addr}{sl_x36:Array (Option Value)}
  {f_x37:Addr}{oc_x37 kV_x37 dc_x37 pm_x37 cd_x37 ct_x37:Value}{od_x37 an_x37:Option Addr}{sl_x37:Array (Option Value)}
  {C_WrongCount C_NotFinite C_StepNotFinite C_NotAsTold:Addr}
  {t_FRACTION_BITS:_}
  {t_GREATEST_SIZE:_}
  {t_INFINITE:_}
  {t_LEAST_POWER:_}
  {t_SIGN_BIT:_}
  {t_WIDER:_}
  (a_Split:mg "Split"=some (.ref C_Split))
  (a_x28:findIn K (.ref C_Split) "__init__"=some (some (.ref f_x28))) (F_x28:Fun K "__init__" "Split.__init__" (qb9 43 0) f_x28 d_x28)
  (a_x0:mg "sign_of"=some (.ref f_x0)) (F_x0:Fun K "sign_of" "sign_of" (top 7) f_x0 d_x0)
  (a_x1:mg "size_of"=some (.ref f_x1)) (F_x1:Fun K "size_of" "size_of" (top 8) f_x1 d_x1)
  (a_x2:mg "opposite"=some (.ref f_x2)) (F_x2:Fun K "opposite" "opposite" (top 9) f_x2 d_x2)
  (a_x3:mg "is_finite"=some (.ref f_x3)) (F_x3:Fun K "is_finite" "is_finite" (top 10) f_x3 d_x3)
  (a_x4:mg "is_zero"=some (.ref f_x4)) (F_x4:Fun K "is_zero" "is_zero" (top 11) f_x4 d_x4)
  (a_x5:mg "whole_of"=some (.ref f_x5)) (F_x5:Fun K "whole_of" "whole_of" (top 12) f_x5 d_x5)
  (a_x6:mg "signed_whole"=some (.ref f_x6)) (F_x6:Fun K "signed_whole" "signed_whole" (top 13) f_x6 d_x6)
  (a_x7:mg "power_of"=some (.ref f_x7)) (F_x7:Fun K "power_of" "power_of" (top 14) f_x7 d_x7)
  (a_x8:mg "nearest_whole"=some (.ref f_x8)) (F_x8:Fun K "nearest_whole" "nearest_whole" (top 15) f_x8 d_x8)
  (a_x9:mg "rounded"=some (.ref f_x9)) (F_x9:Fun K "rounded" "rounded" (top 16) f_x9 d_x9)
  (a_x10:mg "rounded_with_rest"=some (.ref f_x10)) (F_x10:Fun K "rounded_with_rest" "rounded_with_rest" (top 17) f_x10 d_x10)
  (a_x11:mg "fused"=some (.ref f_x11)) (F_x11:Fun K "fused" "fused" (top 18) f_x11 d_x11)
  (a_x12:mg "quotient"=some (.ref f_x12)) (F_x12:Fun K "quotient" "quotient" (top 19) f_x12 d_x12)
  (a_x13:mg "whole_root"=some (.ref f_x13)) (F_x13:Fun K "whole_root" "whole_root" (top 20) f_x13 d_x13)
  (a_x14:mg "root"=some (.ref f_x14)) (F_x14:Fun K "root" "root" (top 21) f_x14 d_x14)
  (a_x15:mg "grid_of"=some (.ref f_x15)) (F_x15:Fun K "grid_of" "grid_of" (top 23) f_x15 d_x15)
  (a_x16:mg "flat"=some (.ref f_x16)) (F_x16:Fun K "flat" "flat" (top 24) f_x16 d_x16)
  (a_x17:mg "column_of"=some (.ref f_x17)) (F_x17:Fun K "column_of" "column_of" (top 25) f_x17 d_x17)
  (a_x18:mg "columns_of"=some (.ref f_x18)) (F_x18:Fun K "columns_of" "columns_of" (top 26) f_x18 d_x18)
  (a_x19:mg "zero_grid"=some (.ref f_x19)) (F_x19:Fun K "zero_grid" "zero_grid" (top 27) f_x19 d_x19)
  (a_x20:mg "fused_along"=some (.ref f_x20)) (F_x20:Fun K "fused_along" "fused_along" (top 28) f_x20 d_x20)
  (a_x21:mg "times_onto"=some (.ref f_x21)) (F_x21:Fun K "times_onto" "times_onto" (top 29) f_x21 d_x21)
  (a_x22:mg "times_of"=some (.ref f_x22)) (F_x22:Fun K "times_of" "times_of" (top 30) f_x22 d_x22)
  (a_x23:mg "check_counts"=some (.ref f_x23)) (F_x23:Fun K "check_counts" "check_counts" (top 37) f_x23 d_x23)
  (a_x24:mg "check_rows_reach"=some (.ref f_x24)) (F_x24:Fun K "check_rows_reach" "check_rows_reach" (top 38) f_x24 d_x24)
  (a_x25:mg "check_finite"=some (.ref f_x25)) (F_x25:Fun K "check_finite" "check_finite" (top 39) f_x25 d_x25)
  (a_x26:mg "less_times"=some (.ref f_x26)) (F_x26:Fun K "less_times" "less_times" (top 41) f_x26 d_x26)
  (a_x27:mg "back_solved"=some (.ref f_x27)) (F_x27:Fun K "back_solved" "back_solved" (top 42) f_x27 d_x27)
  (a_x29:mg "split_off"=some (.ref f_x29)) (F_x29:Fun K "split_off" "split_off" (top 44) f_x29 d_x29)
  (a_x30:mg "take_from_column"=some (.ref f_x30)) (F_x30:Fun K "take_from_column" "take_from_column" (top 45) f_x30 d_x30)
  (a_x31:mg "qr_of"=some (.ref f_x31)) (F_x31:Fun K "qr_of" "qr_of" (top 46) f_x31 d_x31)
  (a_x32:mg "least_of"=some (.ref f_x32)) (F_x32:Fun K "least_of" "least_of" (top 47) f_x32 d_x32)
  (a_x33:mg "with_count"=some (.ref f_x33)) (F_x33:Fun K "with_count" "with_count" (top 49) f_x33 d_x33)
  (a_x34:mg "grid_told"=some (.ref f_x34)) (F_x34:Fun K "grid_told" "grid_told" (top 50) f_x34 d_x34)
  (a_x35:mg "least_told"=some (.ref f_x35)) (F_x35:Fun K "least_told" "least_told" (top 51) f_x35 d_x35)
  (a_x36:mg "answered"=some (.ref f_x36)) (l_x36:K.lookup f_x36=some ⟨oc_x36,od_x36,.func (fnOf "answered" "answered" (wQ (top 36)) (vC (top 36)) (qg (top 36)) .none kV_x36 dc_x36 pm_x36 an_x36 cd_x36 ct_x36),sl_x36⟩) (c_x36:codeIn K cd_x36 "answered"=true) (k_x36:keepIn K (.ref f_x36)=true)
  (a_x37:nsIn K mainGlobals "least"=some (some (.ref f_x37))) (l_x37:K.lookup f_x37=some ⟨oc_x37,od_x37,.func (fnOf "least" "least" (wQ (top 52)) (vC (top 52)) (qg (top 52)) .none kV_x37 dc_x37 pm_x37 an_x37 cd_x37 ct_x37),sl_x37⟩) (c_x37:codeIn K cd_x37 "least"=true) (k_x37:keepIn K (.ref f_x37)=true)
  (s_FRACTION_BITS:mg "FRACTION_BITS"=some (.int (52) t_FRACTION_BITS))
  (s_GREATEST_SIZE:mg "GREATEST_SIZE"=some (.int (16) t_GREATEST_SIZE))
  (s_INFINITE:mg "INFINITE"=some (.int (9218868437227405312) t_INFINITE))
  (s_LEAST_POWER:mg "LEAST_POWER"=some (.int (-1074) t_LEAST_POWER))
  (s_SIGN_BIT:mg "SIGN_BIT"=some (.int (9223372036854775808) t_SIGN_BIT))
  (s_WIDER:mg "WIDER"=some (.int (112) t_WIDER))
  (q_WrongCount:mg "WrongCount"=some (.ref C_WrongCount)) (x_WrongCount:qO K C_WrongCount=true)
  (q_NotFinite:mg "NotFinite"=some (.ref C_NotFinite)) (x_NotFinite:qO K C_NotFinite=true)
  (q_StepNotFinite:mg "StepNotFinite"=some (.ref C_StepNotFinite)) (x_StepNotFinite:qO K C_StepNotFinite=true)
  (q_NotAsTold:mg "NotAsTold"=some (.ref C_NotAsTold)) (x_NotAsTold:qO K C_NotAsTold=true)
  (z_abs:mg "abs"=none)
  (z_len:mg "len"=none)
  (z_list:mg "list"=none)
  (z_max:mg "max"=none)
  (z_min:mg "min"=none)
  (z_range:mg "range"=none)
  (z_zip:mg "zip"=none)
  (e2:(C_NotFinite==C_WrongCount)=false) (e3:(C_StepNotFinite==C_WrongCount)=false) (e4:(C_StepNotFinite==C_NotFinite)=false) (e5:(C_NotAsTold==C_WrongCount)=false) (e6:(C_NotAsTold==C_NotFinite)=false) (e7:(C_NotAsTold==C_StepNotFinite)=false)
  (y1_Split:makesIn K C_Split=true) (y2_Split:isFn K (.ref f_x28)=true) (y3_Split:keepIn K (.ref C_Split)=true) (y4_Split:plainGet K C_Split Str.empty=true) (y5_Split:hasDictIn K C_Split=true) (y6_Split:plainOver K C_Split=true) (y7_Split:findIn K (.ref C_Split) "__setattr__"=some (some (.builtin "object.__setattr__")))
  (y_Split_x_columns:findIn K (.ref C_Split) "x_columns"=some none)
  (y_Split_q_columns:findIn K (.ref C_Split) "q_columns"=some none)
  (y_Split_r:findIn K (.ref C_Split) "r"=some none)
  (htab:tabIn K "least"=some (c,PT)) :
  ∃ fd:FuncData,(∀ (s:Shared) (us:List Value),us.length=(["m","n","k","a","b"]:List Str).length->BindsTo s fd ⟨us,[]⟩ ((["m","n","k","a","b"]:List Str).zip us))/\∀ base:Heap,K.In base->base.Ns mainGlobals mg->xV mg base c PT->xX P w K mg base (CX1 P w) 12 fa fd ["m","n","k","a","b"] (qbT mg K 5 Gr.wu LL PT):=by
 have e:=hfa.symm.trans (mg_of X G a_x37)
 cases e
 have b_x0:Binds K _ ["x"] []:=jg F_x0 fun a a a a a a a=>rfl
 have b_x1:Binds K _ ["x"] []:=jg F_x1 fun a a a a a a a=>rfl
 have b_x2:Binds K _ ["x"] []:=jg F_x2 fun a a a a a a a=>rfl
 have b_x3:Binds K _ ["x"] []:=jg F_x3 fun a a a a a a a=>rfl
 have b_x4:Binds K _ ["x"] []:=jg F_x4 fun a a a a a a a=>rfl
 have b_x5:Binds K _ ["x"] []:=jg F_x5 fun a a a a a a a=>rfl
 have b_x6:Binds K _ ["x"] []:=jg F_x6 fun a a a a a a a=>rfl
 have b_x7:Binds K _ ["x"] []:=jg F_x7 fun a a a a a a a=>rfl
 have b_x8:Binds K _ ["whole","drop"] []:=VI F_x8 fun a a a a a a a a=>rfl
 have b_x9:Binds K _ ["sign","whole","power"] []:=UG F_x9 fun a a a a a a a a a=>rfl
 have b_x10:Binds K _ ["sign","whole","left","power"] []:=qhK F_x10 fun a a a a a a a a a a=>rfl
 have b_x11:Binds K _ ["x","y","z"] []:=UG F_x11 fun a a a a a a a a a=>rfl
 have b_x12:Binds K _ ["x","y"] []:=VI F_x12 fun a a a a a a a a=>rfl
 have b_x13:Binds K _ ["whole"] []:=jg F_x13 fun a a a a a a a=>rfl
 have b_x14:Binds K _ ["x"] []:=jg F_x14 fun a a a a a a a=>rfl
 have b_x15:Binds K _ ["numbers","n"] []:=VI F_x15 fun a a a a a a a a=>rfl
 have b_x16:Binds K _ ["grid"] []:=jg F_x16 fun a a a a a a a=>rfl
 have b_x17:Binds K _ ["grid","j"] []:=VI F_x17 fun a a a a a a a a=>rfl
 have b_x18:Binds K _ ["grid"] []:=jg F_x18 fun a a a a a a a=>rfl
 have b_x19:Binds K _ ["m","n"] []:=VI F_x19 fun a a a a a a a a=>rfl
 have b_x20:Binds K _ ["row","column","start"] []:=UG F_x20 fun a a a a a a a a a=>rfl
 have b_x21:Binds K _ ["a","b","starts"] []:=UG F_x21 fun a a a a a a a a a=>rfl
 have b_x22:Binds K _ ["a","b"] []:=VI F_x22 fun a a a a a a a a=>rfl
 have b_x23:Binds K _ ["sizes","lists","counts"] []:=UG F_x23 fun a a a a a a a a a=>rfl
 have b_x24:Binds K _ ["m","n"] []:=VI F_x24 fun a a a a a a a a=>rfl
 have b_x25:Binds K _ ["numbers"] []:=jg F_x25 fun a a a a a a a=>rfl
 have b_x26:Binds K _ ["row","factor","other"] []:=UG F_x26 fun a a a a a a a a a=>rfl
 have b_x27:Binds K _ ["x","start"] []:=VI F_x27 fun a a a a a a a a=>rfl
 have b_x28:Binds K _ ["self","a"] []:=VI F_x28 fun a a a a a a a a=>rfl
 have b_x29:Binds K _ ["split","k"] []:=VI F_x29 fun a a a a a a a a=>rfl
 have b_x30:Binds K _ ["split","k","j"] []:=UG F_x30 fun a a a a a a a a a=>rfl
 have b_x31:Binds K _ ["a"] []:=jg F_x31 fun a a a a a a a=>rfl
 have b_x32:Binds K _ ["a","b"] []:=VI F_x32 fun a a a a a a a a=>rfl
 have b_x33:Binds K _ ["numbers"] []:=jg F_x33 fun a a a a a a a=>rfl
 have b_x34:Binds K _ ["grid"] []:=jg F_x34 fun a a a a a a a=>rfl
 have b_x35:Binds K _ ["m","n","k","a","b"] []:=qhp F_x35 fun a a a a a a a a a a a=>rfl
 have F_x36:=qN (st:=(top 36)) l_x36 c_x36 k_x36
 have F_x37:=qN (st:=(top 52)) l_x37 c_x37 k_x37
 refine⟨fnOf "least" "least" (wQ (top 52)) (vC (top 52)) (qg (top 52)) .none kV_x37 dc_x37 pm_x37 an_x37 cd_x37 ct_x37,fun s=>qf4 fun _ _ _ _ _=>.of_eq rfl,fun base _ _ BL=>?_⟩
 have y_Split_x_columns:∀ C,mg "Split"=some (.ref C)->Cls K C/\vD K C "x_columns":=fun C hC=>by
  have e:=hC.symm.trans a_Split
  cases e
  exact⟨⟨y4_Split,y5_Split,y6_Split,y7_Split⟩,y_Split_x_columns⟩
 have y_Split_q_columns:∀ C,mg "Split"=some (.ref C)->Cls K C/\vD K C "q_columns":=fun C hC=>by
  have e:=hC.symm.trans a_Split
  cases e
  exact⟨⟨y4_Split,y5_Split,y6_Split,y7_Split⟩,y_Split_q_columns⟩
 have y_Split_r:∀ C,mg "Split"=some (.ref C)->Cls K C/\vD K C "r":=fun C hC=>by
  have e:=hC.symm.trans a_Split
  cases e
  exact⟨⟨y4_Split,y5_Split,y6_Split,y7_Split⟩,y_Split_r⟩
 have g_FRACTION_BITS:∃ t,mg "FRACTION_BITS"=some (.int (52) t):=⟨_,s_FRACTION_BITS⟩
 have g_GREATEST_SIZE:∃ t,mg "GREATEST_SIZE"=some (.int (16) t):=⟨_,s_GREATEST_SIZE⟩
 have g_INFINITE:∃ t,mg "INFINITE"=some (.int (9218868437227405312) t):=⟨_,s_INFINITE⟩
 have g_LEAST_POWER:∃ t,mg "LEAST_POWER"=some (.int (-1074) t):=⟨_,s_LEAST_POWER⟩
 have g_SIGN_BIT:∃ t,mg "SIGN_BIT"=some (.int (9223372036854775808) t):=⟨_,s_SIGN_BIT⟩
 have g_WIDER:∃ t,mg "WIDER"=some (.int (112) t):=⟨_,s_WIDER⟩
 have D_x0:Fd P w K mg base 1 "sign_of" 1 Dt.qJ:=UH F_x0 a_x0 b_x0
 have D_x1:Fd P w K mg base 1 "size_of" 1 Dt.qT:=Ja F_x1 a_x1 b_x1 g_SIGN_BIT
 have D_x2:Fd P w K mg base 1 "opposite" 1 Dt.wq:=Xw F_x2 a_x2 b_x2 g_SIGN_BIT
 have D_x3:Fd P w K mg base 2 "is_finite" 1 Dt.wV:=Yc F_x3 a_x3 b_x3 g_INFINITE D_x1
 have D_x4:Fd P w K mg base 2 "is_zero" 1 Dt.vL:=UT F_x4 a_x4 b_x4 D_x1
 have D_x5:Fd P w K mg base 2 "whole_of" 1 Dt.qI:=Ur F_x5 a_x5 b_x5 g_FRACTION_BITS D_x1
 have D_x6:Fd P w K mg base 3 "signed_whole" 1 Dt.qK:=QZ F_x6 a_x6 b_x6 D_x0 D_x5
 have D_x7:Fd P w K mg base 2 "power_of" 1 Dt.qC:=XW F_x7 a_x7 b_x7 g_FRACTION_BITS g_LEAST_POWER z_max D_x1
 have D_x8:Fd P w K mg base 1 "nearest_whole" 2 Dt.vB:=Qy F_x8 a_x8 b_x8
 have D_x9:Fd P w K mg base 2 "rounded" 3 Dt.wm:=UY F_x9 a_x9 b_x9 g_FRACTION_BITS g_INFINITE g_LEAST_POWER z_max q_StepNotFinite x_StepNotFinite D_x8
 have D_x10:Fd P w K mg base 3 "rounded_with_rest" 4 Dt.qG:=ug F_x10 a_x10 b_x10 D_x9
 have D_x11:Fd P w K mg base 4 "fused" 3 Dt.zl:=qcg F_x11 a_x11 b_x11 z_abs z_min D_x7 D_x9 D_x0 D_x6
 have D_x12:Fd P w K mg base 4 "quotient" 2 Dt.vm:=X8 F_x12 a_x12 b_x12 g_WIDER q_StepNotFinite x_StepNotFinite D_x4 D_x7 D_x10 D_x0 D_x5
 have D_x13:Fd P w K mg base 1 "whole_root" 1 Dt.wB:=Zl F_x13 a_x13 b_x13
 have D_x14:Fd P w K mg base 4 "root" 1 Dt.uE:=qeB F_x14 a_x14 b_x14 g_WIDER q_StepNotFinite x_StepNotFinite D_x4 D_x7 D_x10 D_x0 D_x5 D_x13
 have D_x15:Fd P w K mg base 1 "grid_of" 2 Gr.wG:=Jk F_x15 a_x15 b_x15 z_len z_range
 have D_x16:Fd P w K mg base 1 "flat" 1 Gr.ux:=qec F_x16 a_x16 b_x16
 have D_x17:Fd P w K mg base 1 "column_of" 2 Gr.vJ:=Yl F_x17 a_x17 b_x17
 have D_x18:Fd P w K mg base 2 "columns_of" 1 Gr.v8:=Zc F_x18 a_x18 b_x18 z_len z_range D_x17
 have DM_x18:FdM P w K mg base 2 "columns_of" 1 Gr.za:=WC F_x18 a_x18 b_x18 z_len z_range D_x17
 have D_x19:Fd P w K mg base 1 "zero_grid" 2 Gr.wW:=Yg F_x19 a_x19 b_x19 z_range
 have DM_x19:FdM P w K mg base 1 "zero_grid" 2 Gr.zw:=Zr F_x19 a_x19 b_x19 z_range
 have D_x20:Fd P w K mg base 5 "fused_along" 3 Dt.qE:=Vv F_x20 a_x20 b_x20 z_zip D_x11
 have D_x21:Fd P w K mg base 6 "times_onto" 3 Gr.zc:=Zn F_x21 a_x21 b_x21 z_zip D_x18 D_x20
 have D_x22:Fd P w K mg base 7 "times_of" 2 Gr.zW:=XU F_x22 a_x22 b_x22 z_len D_x21 D_x19
 have D_x23:Fd P w K mg base 1 "check_counts" 3 Dt.vg:=QY F_x23 a_x23 b_x23 g_GREATEST_SIZE z_len z_zip q_WrongCount x_WrongCount
 have D_x24:Fd P w K mg base 1 "check_rows_reach" 2 Gr.qU:=jl F_x24 a_x24 b_x24 q_NotAsTold x_NotAsTold
 have D_x25:Fd P w K mg base 3 "check_finite" 1 Dt.qV:=QU F_x25 a_x25 b_x25 q_NotFinite x_NotFinite D_x3
 have D_x26:Fd P w K mg base 5 "less_times" 3 Gr.qY:=W9 F_x26 a_x26 b_x26 z_zip D_x11 D_x2
 have D_x27:Fd P w K mg base 6 "back_solved" 2 Gr.zh:=VX F_x27 a_x27 b_x27 z_len z_list z_range D_x26 D_x12
 have D_x28:FdI P w K mg base 3 "Split" 2 Gr.wC:=⟨C_Split,f_x28,_,_,⟨y1_Split,a_x28,y2_Split,y3_Split⟩,Zo F_x28 z_len DM_x18 DM_x19 y_Split_q_columns y_Split_r y_Split_x_columns,a_Split,b_x28⟩
 have D_x29:FdM P w K mg base 6 "split_off" 2 Gr.wo:=YD F_x29 a_x29 b_x29 q_NotAsTold x_NotAsTold D_x20 D_x4 D_x12 D_x14 y_Split_q_columns y_Split_r y_Split_x_columns
 have D_x30:FdM P w K mg base 6 "take_from_column" 3 Gr.qM:=jf F_x30 a_x30 b_x30 D_x20 D_x26 y_Split_q_columns y_Split_r y_Split_x_columns
 have D_x31:Fd P w K mg base 7 "qr_of" 1 Gr.uL:=qdq F_x31 a_x31 b_x31 z_len z_range D_x29 D_x30 D_x28 y_Split_r
 have D_x32:Fd P w K mg base 8 "least_of" 2 Gr.zp:=Xy F_x32 a_x32 b_x32 D_x27 D_x31 D_x22 y_Split_q_columns y_Split_r
 have D_x33:Fd P w K mg base 1 "with_count" 1 Dt.vF:=Zf F_x33 a_x33 b_x33 z_len
 have D_x34:Fd P w K mg base 2 "grid_told" 1 Gr.v7:=Yu F_x34 a_x34 b_x34 D_x16 D_x33
 have D_x35:Fd P w K mg base 9 "least_told" 5 Gr.wu:=Zg F_x35 a_x35 b_x35 D_x23 D_x25 D_x24 D_x15 D_x34 D_x32
 have AO:qca P w K mg base (top 36) [(C_WrongCount,1),(C_NotFinite,2),(C_StepNotFinite,3),(C_NotAsTold,4)]:=⟨f_x36,_,_,_,_,_,_,_,_,_,_,_,_,_,_,_,_,_,_,_,_,_,_,l_x36,c_x36,k_x36,a_x36,rfl,XX,rfl,rfl,fun s u=>.of_eq rfl,
  fun A outer s H E=>.cons rfl q_WrongCount x_WrongCount (by decide) (.cons rfl q_NotFinite x_NotFinite (by decide) (.cons rfl q_StepNotFinite x_StepNotFinite (by decide) (.cons rfl q_NotAsTold x_NotAsTold (by decide) .nil)))⟩
 have ER:Jy mg K LL [(C_WrongCount,1),(C_NotFinite,2),(C_StepNotFinite,3),(C_NotAsTold,4)]:=⟨fun c C k hC hl=>qhm q_WrongCount q_NotFinite q_StepNotFinite q_NotAsTold x_WrongCount x_NotFinite x_StepNotFinite x_NotAsTold e2 e3 e4 e5 e6 e7 hC hl⟩
 exact qgo (st:=top 52) (st2:=top 36) (g:=Gr.wu) F_x37 qds rfl htab a_x37 BL AO ER rfl qcR rfl (fun _=>rfl) (fun _ _ _ _ _=>rfl)
  (fun cdv A outer s0 H0 E0 Y q f2 cd s H E2 hr=>qp (qeO qcR) D_x35 hr rfl (.cons (.cons (.cons (.cons (.cons (.nil)))))) (qe (xv 0) (qe (xv 1) (qe (xv 2) (qe (xv 3) (qe (xv 4) qm)))))) (qf4 fun _ _ _ _ _=>⟨_,rfl,rfl⟩)
end Lw
open PySem PySem.W PyProof.Rows
def PySem.W.Fast.tw6668585181520811211:=()
def PySem.W.Fast.tw6353209604091093905:=()
def PySem.W.Fast.tw12524031235205197797:=()
def PySem.W.Fast.tw16548247257767117892:=()
def PySem.W.Fast.tw2791334315263586227:=()
def PySem.W.Fast.tw13137597081771814811:=()
def PySem.W.Fast.tw9702501757046539387:=()
def PySem.W.Fast.tw4134442785852903239:=()
def PySem.W.Fast.tw7712448607349331749:=()
def PySem.W.Fast.tw12857654064858281210:=()
set_option maxRecDepth 100000 in
set_option maxHeartbeats 0 in
theorem PySem.Challenge.cw_doubletables_s19_least_holds : PySem.Challenge.rw_doubletables_s19_least.Holds := by
 w_on;k_headS;(case hw=>exact⟨[.int 0,.int 0,.int 0,.list [],.list []],by decide +kernel,by decide +kernel⟩)
 k_fillS
 refine L2.Ir.qcW (r:=PySem.Challenge.rw_doubletables_s19_least) (k:=12) (ps:=["m","n","k","a","b"]) (sp:=fun K mg PT=>L2.Ir.qbT mg K 5 Gr.wu Dt.LL PT) (c:=?c) (PT:=?PT) (by decide +kernel) rfl ⟨rfl,by decide,by decide⟩ (fun w h Y=>PySem.W.kIn_of Y) ?no ?tab rfl ?F ?S
 (case tab=>intro p;exact rfl)
 (case no=>intro p;exact rfl)
 case F =>
  intro w mg fa h Y KX G hmg
  refine' Lw.all_mk KX G hmg ?a_Split ?a_x28 ?F_x28 ?a_x0 ?F_x0 ?a_x1 ?F_x1 ?a_x2 ?F_x2 ?a_x3 ?F_x3 ?a_x4 ?F_x4 ?a_x5 ?F_x5 ?a_x6 ?F_x6 ?a_x7 ?F_x7 ?a_x8 ?F_x8 ?a_x9 ?F_x9 ?a_x10 ?F_x10 ?a_x11 ?F_x11 ?a_x12 ?F_x12 ?a_x13 ?F_x13 ?a_x14 ?F_x14 ?a_x15 ?F_x15 ?a_x16 ?F_x16 ?a_x17 ?F_x17 ?a_x18 ?F_x18 ?a_x19 ?F_x19 ?a_x20 ?F_x20 ?a_x21 ?F_x21 ?a_x22 ?F_x22 ?a_x23 ?F_x23 ?a_x24 ?F_x24 ?a_x25 ?F_x25 ?a_x26 ?F_x26 ?a_x27 ?F_x27 ?a_x29 ?F_x29 ?a_x30 ?F_x30 ?a_x31 ?F_x31 ?a_x32 ?F_x32 ?a_x33 ?F_x33 ?a_x34 ?F_x34 ?a_x35 ?F_x35 ?a_x36 ?l_x36 ?c_x36 ?k_x36 ?a_x37 ?l_x37 ?c_x37 ?k_x37 ?s_FRACTION_BITS ?s_GREATEST_SIZE ?s_INFINITE ?s_LEAST_POWER ?s_SIGN_BIT ?s_WIDER ?q_WrongCount ?x_WrongCount ?q_NotFinite ?x_NotFinite ?q_StepNotFinite ?x_StepNotFinite ?q_NotAsTold ?x_NotAsTold ?z_abs ?z_len ?z_list ?z_max ?z_min ?z_range ?z_zip ?e2 ?e3 ?e4 ?e5 ?e6 ?e7 ?y1_Split ?y2_Split ?y3_Split ?y4_Split ?y5_Split ?y6_Split ?y7_Split ?y_Split_x_columns ?y_Split_q_columns ?y_Split_r ?htab
  (case a_Split=>(refine' PySem.W.mg_of KX G ?g1;(case g1=>k_is)));(case a_x28=>k_is);(case F_x28=>(refine' L2.qN ?g1 ?g2 ?g3;(case g1=>k_is);(case g2=>k_is);(case g3=>k_is)));(case a_x0=>(refine' PySem.W.mg_of KX G ?g1;(case g1=>k_is)));(case F_x0=>(refine' L2.qN ?g1 ?g2 ?g3;(case g1=>k_is);(case g2=>k_is);(case g3=>k_is)));(case a_x1=>(refine' PySem.W.mg_of KX G ?g1;(case g1=>k_is)));(case F_x1=>(refine' L2.qN ?g1 ?g2 ?g3;(case g1=>k_is);(case g2=>k_is);(case g3=>k_is)));(case a_x2=>(refine' PySem.W.mg_of KX G ?g1;(case g1=>k_is)));(case F_x2=>(refine' L2.qN ?g1 ?g2 ?g3;(case g1=>k_is);(case g2=>k_is);(case g3=>k_is)));(case a_x3=>(refine' PySem.W.mg_of KX G ?g1;(case g1=>k_is)));(case F_x3=>(refine' L2.qN ?g1 ?g2 ?g3;(case g1=>k_is);(case g2=>k_is);(case g3=>k_is)));(case a_x4=>(refine' PySem.W.mg_of KX G ?g1;(case g1=>k_is)));(case F_x4=>(refine' L2.qN ?g1 ?g2 ?g3;(case g1=>k_is);(case g2=>k_is);(case g3=>k_is)));(case a_x5=>(refine' PySem.W.mg_of KX G ?g1;(case g1=>k_is)));(case F_x5=>(refine' L2.qN ?g1 ?g2 ?g3;(case g1=>k_is);(case g2=>k_is);(case g3=>k_is)));(case a_x6=>(refine' PySem.W.mg_of KX G ?g1;(case g1=>k_is)));(case F_x6=>(refine' L2.qN ?g1 ?g2 ?g3;(case g1=>k_is);(case g2=>k_is);(case g3=>k_is)));(case a_x7=>(refine' PySem.W.mg_of KX G ?g1;(case g1=>k_is)));(case F_x7=>(refine' L2.qN ?g1 ?g2 ?g3;(case g1=>k_is);(case g2=>k_is);(case g3=>k_is)));(case a_x8=>(refine' PySem.W.mg_of KX G ?g1;(case g1=>k_is)));(case F_x8=>(refine' L2.qN ?g1 ?g2 ?g3;(case g1=>k_is);(case g2=>k_is);(case g3=>k_is)));(case a_x9=>(refine' PySem.W.mg_of KX G ?g1;(case g1=>k_is)));(case F_x9=>(refine' L2.qN ?g1 ?g2 ?g3;(case g1=>k_is);(case g2=>k_is);(case g3=>k_is)));(case a_x10=>(refine' PySem.W.mg_of KX G ?g1;(case g1=>k_is)));(case F_x10=>(refine' L2.qN ?g1 ?g2 ?g3;(case g1=>k_is);(case g2=>k_is);(case g3=>k_is)));(case a_x11=>(refine' PySem.W.mg_of KX G ?g1;(case g1=>k_is)));(case F_x11=>(refine' L2.qN ?g1 ?g2 ?g3;(case g1=>k_is);(case g2=>k_is);(case g3=>k_is)));(case a_x12=>(refine' PySem.W.mg_of KX G ?g1;(case g1=>k_is)));(case F_x12=>(refine' L2.qN ?g1 ?g2 ?g3;(case g1=>k_is);(case g2=>k_is);(case g3=>k_is)));(case a_x13=>(refine' PySem.W.mg_of KX G ?g1;(case g1=>k_is)));(case F_x13=>(refine' L2.qN ?g1 ?g2 ?g3;(case g1=>k_is);(case g2=>k_is);(case g3=>k_is)));(case a_x14=>(refine' PySem.W.mg_of KX G ?g1;(case g1=>k_is)));(case F_x14=>(refine' L2.qN ?g1 ?g2 ?g3;(case g1=>k_is);(case g2=>k_is);(case g3=>k_is)));(case a_x15=>(refine' PySem.W.mg_of KX G ?g1;(case g1=>k_is)));(case F_x15=>(refine' L2.qN ?g1 ?g2 ?g3;(case g1=>k_is);(case g2=>k_is);(case g3=>k_is)));(case a_x16=>(refine' PySem.W.mg_of KX G ?g1;(case g1=>k_is)));(case F_x16=>(refine' L2.qN ?g1 ?g2 ?g3;(case g1=>k_is);(case g2=>k_is);(case g3=>k_is)));(case a_x17=>(refine' PySem.W.mg_of KX G ?g1;(case g1=>k_is)));(case F_x17=>(refine' L2.qN ?g1 ?g2 ?g3;(case g1=>k_is);(case g2=>k_is);(case g3=>k_is)));(case a_x18=>(refine' PySem.W.mg_of KX G ?g1;(case g1=>k_is)));(case F_x18=>(refine' L2.qN ?g1 ?g2 ?g3;(case g1=>k_is);(case g2=>k_is);(case g3=>k_is)));(case a_x19=>(refine' PySem.W.mg_of KX G ?g1;(case g1=>k_is)));(case F_x19=>(refine' L2.qN ?g1 ?g2 ?g3;(case g1=>k_is);(case g2=>k_is);(case g3=>k_is)));(case a_x20=>(refine' PySem.W.mg_of KX G ?g1;(case g1=>k_is)));(case F_x20=>(refine' L2.qN ?g1 ?g2 ?g3;(case g1=>k_is);(case g2=>k_is);(case g3=>k_is)));(case a_x21=>(refine' PySem.W.mg_of KX G ?g1;(case g1=>k_is)));(case F_x21=>(refine' L2.qN ?g1 ?g2 ?g3;(case g1=>k_is);(case g2=>k_is);(case g3=>k_is)));(case a_x22=>(refine' PySem.W.mg_of KX G ?g1;(case g1=>k_is)));(case F_x22=>(refine' L2.qN ?g1 ?g2 ?g3;(case g1=>k_is);(case g2=>k_is);(case g3=>k_is)));(case a_x23=>(refine' PySem.W.mg_of KX G ?g1;(case g1=>k_is)));(case F_x23=>(refine' L2.qN ?g1 ?g2 ?g3;(case g1=>k_is);(case g2=>k_is);(case g3=>k_is)));(case a_x24=>(refine' PySem.W.mg_of KX G ?g1;(case g1=>k_is)));(case F_x24=>(refine' L2.qN ?g1 ?g2 ?g3;(case g1=>k_is);(case g2=>k_is);(case g3=>k_is)));(case a_x25=>(refine' PySem.W.mg_of KX G ?g1;(case g1=>k_is)));(case F_x25=>(refine' L2.qN ?g1 ?g2 ?g3;(case g1=>k_is);(case g2=>k_is);(case g3=>k_is)));(case a_x26=>(refine' PySem.W.mg_of KX G ?g1;(case g1=>k_is)));(case F_x26=>(refine' L2.qN ?g1 ?g2 ?g3;(case g1=>k_is);(case g2=>k_is);(case g3=>k_is)));(case a_x27=>(refine' PySem.W.mg_of KX G ?g1;(case g1=>k_is)));(case F_x27=>(refine' L2.qN ?g1 ?g2 ?g3;(case g1=>k_is);(case g2=>k_is);(case g3=>k_is)));(case a_x29=>(refine' PySem.W.mg_of KX G ?g1;(case g1=>k_is)));(case F_x29=>(refine' L2.qN ?g1 ?g2 ?g3;(case g1=>k_is);(case g2=>k_is);(case g3=>k_is)));(case a_x30=>(refine' PySem.W.mg_of KX G ?g1;(case g1=>k_is)));(case F_x30=>(refine' L2.qN ?g1 ?g2 ?g3;(case g1=>k_is);(case g2=>k_is);(case g3=>k_is)));(case a_x31=>(refine' PySem.W.mg_of KX G ?g1;(case g1=>k_is)));(case F_x31=>(refine' L2.qN ?g1 ?g2 ?g3;(case g1=>k_is);(case g2=>k_is);(case g3=>k_is)));(case a_x32=>(refine' PySem.W.mg_of KX G ?g1;(case g1=>k_is)));(case F_x32=>(refine' L2.qN ?g1 ?g2 ?g3;(case g1=>k_is);(case g2=>k_is);(case g3=>k_is)));(case a_x33=>(refine' PySem.W.mg_of KX G ?g1;(case g1=>k_is)));(case F_x33=>(refine' L2.qN ?g1 ?g2 ?g3;(case g1=>k_is);(case g2=>k_is);(case g3=>k_is)));(case a_x34=>(refine' PySem.W.mg_of KX G ?g1;(case g1=>k_is)));(case F_x34=>(refine' L2.qN ?g1 ?g2 ?g3;(case g1=>k_is);(case g2=>k_is);(case g3=>k_is)));(case a_x35=>(refine' PySem.W.mg_of KX G ?g1;(case g1=>k_is)));(case F_x35=>(refine' L2.qN ?g1 ?g2 ?g3;(case g1=>k_is);(case g2=>k_is);(case g3=>k_is)));(case a_x36=>(refine' PySem.W.mg_of KX G ?g1;(case g1=>k_is)));(case l_x36=>k_is);(case c_x36=>k_is);(case k_x36=>k_is);(case a_x37=>k_is);(case l_x37=>k_is);(case c_x37=>k_is);(case k_x37=>k_is);(case s_FRACTION_BITS=>(refine' PySem.W.mg_of KX G ?g1;(case g1=>k_is)));(case s_GREATEST_SIZE=>(refine' PySem.W.mg_of KX G ?g1;(case g1=>k_is)));(case s_INFINITE=>(refine' PySem.W.mg_of KX G ?g1;(case g1=>k_is)));(case s_LEAST_POWER=>(refine' PySem.W.mg_of KX G ?g1;(case g1=>k_is)));(case s_SIGN_BIT=>(refine' PySem.W.mg_of KX G ?g1;(case g1=>k_is)));(case s_WIDER=>(refine' PySem.W.mg_of KX G ?g1;(case g1=>k_is)));(case q_WrongCount=>(refine' PySem.W.mg_of KX G ?g1;(case g1=>k_is)));(case x_WrongCount=>(refine' Dt.yY ?g1 ?g2 ?g3;(case g1=>k_is);(case g2=>(refine' Dt.Vi ?l ?h;(case l=>k_is);(case h=>exact rfl)));(case g3=>k_is)));(case q_NotFinite=>(refine' PySem.W.mg_of KX G ?g1;(case g1=>k_is)));(case x_NotFinite=>(refine' Dt.yY ?g1 ?g2 ?g3;(case g1=>k_is);(case g2=>(refine' Dt.Vi ?l ?h;(case l=>k_is);(case h=>exact rfl)));(case g3=>k_is)));(case q_StepNotFinite=>(refine' PySem.W.mg_of KX G ?g1;(case g1=>k_is)));(case x_StepNotFinite=>(refine' Dt.yY ?g1 ?g2 ?g3;(case g1=>k_is);(case g2=>(refine' Dt.Vi ?l ?h;(case l=>k_is);(case h=>exact rfl)));(case g3=>k_is)));(case q_NotAsTold=>(refine' PySem.W.mg_of KX G ?g1;(case g1=>k_is)));(case x_NotAsTold=>(refine' Dt.yY ?g1 ?g2 ?g3;(case g1=>k_is);(case g2=>(refine' Dt.Vi ?l ?h;(case l=>k_is);(case h=>exact rfl)));(case g3=>k_is)));(case z_abs=>(refine' PySem.W.mg_none_of KX G ?g1;(case g1=>k_is)));(case z_len=>(refine' PySem.W.mg_none_of KX G ?g1;(case g1=>k_is)));(case z_list=>(refine' PySem.W.mg_none_of KX G ?g1;(case g1=>k_is)));(case z_max=>(refine' PySem.W.mg_none_of KX G ?g1;(case g1=>k_is)));(case z_min=>(refine' PySem.W.mg_none_of KX G ?g1;(case g1=>k_is)));(case z_range=>(refine' PySem.W.mg_none_of KX G ?g1;(case g1=>k_is)));(case z_zip=>(refine' PySem.W.mg_none_of KX G ?g1;(case g1=>k_is)))
  (case e2=>decide +kernel);(case e3=>decide +kernel);(case e4=>decide +kernel);(case e5=>decide +kernel);(case e6=>decide +kernel);(case e7=>decide +kernel)
  (case y1_Split=>first | k_is | exact rfl | decide +kernel);(case y2_Split=>first | k_is | exact rfl | decide +kernel);(case y3_Split=>first | k_is | exact rfl | decide +kernel);(case y4_Split=>first | k_is | exact rfl | decide +kernel);(case y5_Split=>first | k_is | exact rfl | decide +kernel);(case y6_Split=>first | k_is | exact rfl | decide +kernel);(case y7_Split=>first | k_is | exact rfl | decide +kernel);(case y_Split_x_columns=>first | k_is | exact rfl | decide +kernel);(case y_Split_q_columns=>first | k_is | exact rfl | decide +kernel);(case y_Split_r=>first | k_is | exact rfl | decide +kernel)
  (case htab=>exact rfl)
 case S =>
  intro K mg PT H xs a hP hwi hask hx
  have e:L2.Ir.YI (Codec.encAll PySem.Challenge.rw_doubletables_s19_least.args a)=[.int a.1,.int a.2.1,.int a.2.2.1,.lst (a.2.2.2.1.map L2.Ir.D.int),.lst (a.2.2.2.2.1.map L2.Ir.D.int)]:=by
   show [L2.Ir.D.int a.1,L2.Ir.D.int a.2.1,L2.Ir.D.int a.2.2.1,L2.Ir.D.lst (L2.Ir.YI (a.2.2.2.1.map WData.int)),L2.Ir.D.lst (L2.Ir.YI (a.2.2.2.2.1.map WData.int))]=_
   rw[L2.Ir.Qg a.2.2.2.1,L2.Ir.Qg a.2.2.2.2.1]
  have pl:L2.Ir.W8 (Codec.encAll PySem.Challenge.rw_doubletables_s19_least.args a)=true:=by
   show (true&&(true&&(true&&(L2.Ir.W8 (a.2.2.2.1.map WData.int)&&(L2.Ir.W8 (a.2.2.2.2.1.map WData.int)&&true)))))=true
   rw[L2.Ir.Qj a.2.2.2.1,L2.Ir.Qj a.2.2.2.2.1];rfl
  have q:(Codec.inInt 0 18446744073709551615 a.1&&(Codec.inInt 0 18446744073709551615 a.2.1&&(Codec.inInt 0 18446744073709551615 a.2.2.1&&((Codec.inLen 0 300 a.2.2.2.1&&a.2.2.2.1.all (Codec.inInt 0 18446744073709551615))&&((Codec.inLen 0 300 a.2.2.2.2.1&&a.2.2.2.2.1.all (Codec.inInt 0 18446744073709551615))&&true)))))=true:=hwi
  simp only[Bool.and_eq_true] at q
  obtain⟨h1,h2⟩:=Gr.qbl (Dt.Yp q.1) (Dt.Yp q.2.1) (Dt.Yp q.2.2.1) (Dt.qao q.2.2.2.1.2) (Dt.qao q.2.2.2.2.1.2) (Codec.inNat_iff.mp q.2.2.2.1.1).2 (Codec.inNat_iff.mp q.2.2.2.2.1.1).2
  refine⟨_,_,rfl,hP,by rw[<- e];exact L2.Ir.Wq _ _ pl hx,h1,h2,fun H2 p hp=>?_⟩
  rw[Dt.WD] at hp
  exact .lst (L2.SqL.of hp) (L2.J9 _)
