import PyProof.Rows.All
import Wide.All
import OpenK.AllK
import Wide.FinOn
import PyProof.EqAt
import PyProof.EqKinds
import PyProof.TupleCall
import KE.BitLaws
import Open.SpecLaws
import KE.OsHead
import KE.OsGo
import PyProof.StationsW
import PyProof.ExcBaseAll.Exception
import KE.KLam
import PyProof.SliceList
import KE.KNestM
import KE.KSortKeySt
import PySem.Challenge.RW_doubletables_s24_jacobi
set_option bootstrap.genMatcherCode false
set_option compiler.extract_closed false
set_option genSizeOf false
set_option genInjectivity false
set_option Elab.async false
set_option linter.all false
set_option maxRecDepth 100000
theorem Zo {p:Prop} (h:p:=by first | exact .inl rfl | exact .inr rfl | assumption):p:=h
theorem vh {p:Prop} (h:p:=by decide):p:=h
theorem uQ {p:Prop} (h:p:=by intro _;rfl):p:=h
theorem qt {p:Prop} (h:p:=by rfl):p:=h
theorem JT {p:Prop} (h:p:=by first | exact Or.inl rfl | exact Or.inr (Or.inl rfl) | exact Or.inr (Or.inr rfl)):p:=h
theorem WV {p:Prop} (h:p:=by first | exact Or.inl rfl | exact Or.inr rfl):p:=h
theorem Zl {p:Prop} (h:p:=by first | exact .inl rfl | exact .inr rfl):p:=h
theorem qg9 {p:Prop} (h:p:=by exact fun _ _=>rfl):p:=h
namespace L2
open PySem PySem.Spec PyProof.Rows
noncomputable abbrev Key:=Sum Int Str
noncomputable def qfY:Key->Value->Bool
 | .inl k,v=>Value.isInt k v
 | .inr x,v=>Value.isStrOf x v
noncomputable def qiB (w:World):Key->Int
 | .inl k=>hashInt k
 | .inr x=>hashStr w x
theorem wy:∀ {k:Key}{v:Value},qfY k v=true->(∃ i t,k=Sum.inl i/\v=Value.int i t)\/(∃ x t,k=Sum.inr x/\v=Value.str x t)
 | .inl i,v,h=>by
  obtain⟨t,e⟩:=Value.isInt_shape (k:=i) (v:=v) h
  exact .inl ⟨i,t,rfl,e⟩
 | .inr x,v,h=>by
  obtain⟨t,e⟩:=Value.isStrOf_shape (x:=x) (v:=v) h
  exact .inr ⟨x,t,rfl,e⟩
theorem qgP (a b:Int):decide ((Sum.inl a:Key)=Sum.inl b)=(a==b):=by
 by_cases e:a=b
 ·subst e;simp
 ·have h:¬ (Sum.inl a:Key)=Sum.inl b:=fun q=>e (Sum.inl.inj q)
  rw[decide_eq_false h]
  exact (beq_eq_false_iff_ne.mpr e).symm
theorem qgr (a b:Str):decide ((Sum.inr a:Key)=Sum.inr b)=decide (a=b):=by
 by_cases e:a=b
 ·subst e;simp
 ·have h:¬ (Sum.inr a:Key)=Sum.inr b:=fun q=>e (Sum.inr.inj q)
  rw[decide_eq_false h,decide_eq_false e]
theorem qgw (a:Int) (b:Str):decide ((Sum.inl a:Key)=Sum.inr b)=false:=decide_eq_false (fun q=>nomatch q)
theorem qho (a:Str) (b:Int):decide ((Sum.inr a:Key)=Sum.inl b)=false:=decide_eq_false (fun q=>nomatch q)
noncomputable def qa5 (prog:Program) (w:World):PySem.KeyKind prog w Key where
 is:=qfY
 hash:=qiB w
 inj:=fun v a b ha hb=>by
  rcases wy ha with ⟨i,t,rfl,rfl⟩ | ⟨x,t,rfl,rfl⟩
  ·rcases wy hb with ⟨j,u,rfl,e⟩ | ⟨y,u,rfl,e⟩
   ·injection e with e1 _;rw[e1]
   ·exact nomatch e
  ·rcases wy hb with ⟨j,u,rfl,e⟩ | ⟨y,u,rfl,e⟩
   ·exact nomatch e
   ·injection e with e1 _;rw[e1]
 byValue:=fun k v h=>by
  rcases wy h with ⟨i,t,rfl,rfl⟩ | ⟨x,t,rfl,rfl⟩ <;> rfl
 pyHash:=fun hv h=>by
  rcases wy hv with ⟨i,t,rfl,rfl⟩ | ⟨x,t,rfl,rfl⟩
  ·exact wpAny_pyHash_int h
  ·exact wpAny_pyHash_str h
 eqBool:=fun hu hv h=>by
  rcases wy hu with ⟨i,t,rfl,rfl⟩ | ⟨x,t,rfl,rfl⟩
  ·rcases wy hv with ⟨j,u,rfl,rfl⟩ | ⟨y,u,rfl,rfl⟩
   ·rw[qgP] at h;exact wpAny_eqBool_int h
   ·rw[qgw] at h;exact SeqAt.EqAt.int_str i t y u _ _ _ _ h
  ·rcases wy hv with ⟨j,u,rfl,rfl⟩ | ⟨y,u,rfl,rfl⟩
   ·rw[qho] at h;exact SeqAt.EqAt.str_int x t j u _ _ _ _ h
   ·rw[qgr] at h;exact wpAny_eqBool_str h
 «strs» := fun k x t v h=>by
  rcases wy h with ⟨i,u,rfl,e⟩ | ⟨y,u,rfl,e⟩
  ·exact nomatch e
  ·injection e with e1 _
   subst e1
   cases v <;> rfl
set_option genInjectivity true in
inductive V where
 | non | bl (b:Bool) | int (i:Int) | str (x:Str) | byt (b:Array UInt8) | flt (b:UInt64) | ref (a:Addr) | ty (n:String)
 deriving DecidableEq
noncomputable def RelV:V->Value->Prop
 | .non,u=>u=Value.none
 | .bl b,u=>u=Value.bool b
 | .int i,u=>∃ t,u=Value.int i t
 | .str x,u=>∃ t,u=Value.str x t
 | .byt b,u=>∃ t,u=Value.bytes b t
 | .flt b,u=>∃ t,u=Value.float b t
 | .ref a,u=>u=Value.ref a
 | .ty n,u=>u=Value.type n
noncomputable abbrev Vals:List V->List Value->Prop:=Paired RelV
theorem Vals.length {xs:List V}{us:List Value} (r:Vals xs us):xs.length=us.length:=Paired.length r
theorem Vals.get:∀ {xs:List V}{us:List Value}{i:Nat}{x:V},Vals xs us->xs[i]?=some x->∃ u,us[i]?=some u/\RelV x u
 | _,_,_,_,.nil,e=>by simp at e
 | _,_,0,_,.cons r _,e=>by simp at e;subst e;exact⟨_,rfl,r⟩
 | _,_,i+1,x,.cons _ t,e=>by
  obtain⟨u,h1,h2⟩:=Vals.get (i:=i) (x:=x) t (by simpa using e)
  exact⟨u,by simpa using h1,h2⟩
theorem Vals.set {x:V}{u:Value} (r:RelV x u):∀ {xs:List V}{us:List Value} (i:Nat),Vals xs us->Vals (xs.set i x) (us.set i u)
 | _,_,_,.nil=>.nil
 | _,_,0,.cons _ t=>.cons r t
 | _,_,i+1,.cons q t=>.cons q (Vals.set r i t)
theorem Vals.append:∀ {xs ys:List V}{us ws:List Value},Vals xs us->Vals ys ws->Vals (xs++ys) (us++ws)
 | _,_,_,_,.nil,s=>s
 | _,_,_,_,.cons r t,s=>.cons r (Vals.append t s)
theorem Vals.take:∀ {xs:List V}{us:List Value} (n:Nat),Vals xs us->Vals (xs.take n) (us.take n)
 | _,_,0,_=>.nil
 | _,_,_+1,.nil=>.nil
 | _,_,n+1,.cons r t=>.cons r (Vals.take n t)
theorem Vals.drop:∀ {xs:List V}{us:List Value} (n:Nat),Vals xs us->Vals (xs.drop n) (us.drop n)
 | _,_,0,r=>r
 | _,_,_+1,.nil=>.nil
 | _,_,n+1,.cons _ t=>Vals.drop n t
theorem Vals.none_of:∀ {xs:List V}{us:List Value}{i:Nat},Vals xs us->xs[i]?=none->us[i]?=none:=fun {xs us i} r e=>by
 have h1:=r.length
 have h2:xs.length <= i:=List.getElem?_eq_none_iff.mp e
 exact List.getElem?_eq_none_iff.mpr (by lia)
noncomputable def JM:Option V->Option Value->Prop
 | some v,some u=>RelV v u
 | none,none=>True
 | _,_=>False
noncomputable def KV {κ:Type}:List (κ × V)->List (κ × Value)->Prop:=Paired fun (p:κ × V) (q:κ × Value)=>p.1=q.1/\RelV p.2 q.2
noncomputable def kV:Key->V
 | .inl i=>.int i
 | .inr x=>.str x
inductive HO where
 /-- a list -/
 | lst (xs:List V)
 /-- a tuple (never changes) -/
 | tup (xs:List V)
 /-- a dict whose keys are ints and texts; one whose keys are tuples of ints and texts (the empty one is both) -/
 | dK (kvs:List (Key × V)) | dT (kvs:List (List Key × V))
 /-- a set of ints: its members, its size -/
 | set (S:Int->Bool) (n:Nat)
 /-- an instance of the class at C, its dict at dx, its attributes -/
 | ins (C dx:Addr) (fs:List (Str × V))
 /-- the dict of the instance at x -/
 | own (x:Addr)
 /-- the dict of an exception -/
 | xd (fs:List (Str × V))
 /-- a bound method, f of x -/
 | met (f x:Addr)
 /-- a range object lo, lo + 1, .. below hi -/
 | rng (lo hi:Int)
 /-- a thing that is known to the object (the script; a dict while a loop walks it): read, never written while it is so -/
 | frz (o:Obj) (u:HO)
 /-- a code object's table -/
 | tbl (ps:Array Value)
 /-- any other thing, by what is true of its one object (a def of one's own: SetO a S n := HO.ext fun h => ..) -/
 | ext (φ:Heap->Prop)
noncomputable abbrev Hp:=Addr->Option HO
noncomputable def upd (H:Hp) (a:Addr) (o:HO):Hp:=fun b=>if b=a then some o else H b
theorem qV {H:Hp}{a:Addr}{o:HO}:upd H a o a=some o:=by unfold upd;rw[if_pos rfl]
theorem qD {H:Hp}{a b:Addr}{o:HO} (h:b≠a):upd H a o b=H b:=by unfold upd;rw[if_neg h]
theorem vz {H:Hp}{a b:Addr}{o:HO} (h:H a=some o) (h':H b=none):a≠b:=by
 intro e;subst e;rw[h] at h';cases h'
section
variable (P:Program) (w:World)
noncomputable def yd (H:Hp) (h:Heap) (a:Addr):HO->Prop
 | .lst xs=>xs.length <= sizeLine/\∃ (its:List Value) (n:Nat),Vals xs its/\h.get? a=some {cls:=.type "list",data:=.seq its.toArray n}
 | .tup xs=>xs.length <= sizeLine/\∃ its:List Value,Vals xs its/\IsTup h a its.toArray
 | .dK kvs=>kvs.length <= sizeLine/\(a==sysModules)=false/\∃ vs,KV kvs vs/\h.DictOf (qa5 P w) a vs
 | .dT kvs=>kvs.length <= sizeLine/\(a==sysModules)=false/\∃ xs:List (List Key × Addr × Value),
   Paired (fun (p:List Key × V) (q:List Key × Addr × Value)=>p.1=q.1/\H q.2.1=some (.tup (p.1.map kV))/\RelV p.2 q.2.2) kvs xs /\
   ∃ o es ep,h.get? a=some o/\o.ExactDict/\o.data = .dict es ep/\es.toList=xs.map (entryOfKey (tupleKind (qa5 P w)))/\(xs.map (·.1)).Nodup
 | .set S n=>h.SetOf (intKind P w) a S n
 | .ins C dx fs=>H dx=some (.own a)/\fs.length <= 1000/\dx≠a/\h.get? a=some (PySem.W.instObj C dx) /\
   ∃ mA,h.Ns1 dx mA/\(∀ f,JM (fs.lookup f) (mA f))/\PySem.Within mA (fs.map (·.1))
 | .own _=>∃ o,h.get? a=some o
 | .xd fs=>∃ mA,h.Ns1 a mA/\∀ f,JM (fs.lookup f) (mA f)
 | .rng lo hi=>∃ t u v,h.get? a=some {cls:=.type "range",data:=.fields #[.int lo t,.int hi u,.int 1 v]}
 | .frz o u=>h.get? a=some o/\yd H h a u
 | .tbl ps=>h.get? a=some {cls:=.none,data:=.fields ps}
 | .met f x=>h.get? a=some (PySem.W.methodObj (.ref f) (.ref x))
 | .ext φ=>φ h/\(∃ o,h.get? a=some o)/\∀ h1 h2:Heap,φ h1->(∀ o,h1.get? a=some o->h2.get? a=some o)->φ h2
noncomputable def HOk (H:Hp) (h:Heap):Prop:=∀ a o,H a=some o->yd P w H h a o
end
section
variable {P:Program}{w:World}{H H':Hp}{h h':Heap}{a:Addr}{o:HO}
theorem yd.lt (x:yd P w H h a o):a<h.objs.size:=by
 cases o with
 | lst xs=>obtain⟨_,_,_,_,e⟩:=x;exact Heap.lt_size e
 | tup xs=>obtain⟨_,_,_,p⟩:=x;exact p.lt
 | dK kvs=>obtain⟨_,_,_,_,o,_,_,e,_⟩:=x;exact Heap.lt_size e
 | dT kvs=>obtain⟨_,_,_,_,o,_,_,e,_⟩:=x;exact Heap.lt_size e
 | set S n=>obtain⟨o,_,_,_,e,_⟩:=x;exact Heap.lt_size e
 | ins C dx fs=>obtain⟨_,_,_,e,_⟩:=x;exact Heap.lt_size e
 | own y=>obtain⟨_,e⟩:=x;exact Heap.lt_size e
 | xd fs=>obtain⟨_,⟨_,_,_,e,_⟩,_⟩:=x;exact Heap.lt_size e
 | rng lo hi=>obtain⟨_,_,_,e⟩:=x;exact Heap.lt_size e
 | frz ob u=>obtain⟨e,_⟩:=x;exact Heap.lt_size e
 | tbl ps=>exact Heap.lt_size (show h.get? a=some _ from x)
 | met f y=>exact Heap.lt_size (show h.get? a=some _ from x)
 | ext φ=>obtain⟨_,⟨_,e⟩,_⟩:=x;exact Heap.lt_size e
theorem Paired.qhY {α β:Type}{F G:α->β->Prop}:∀ {l₁:List α}{l₂:List β},Paired F l₁ l₂->(∀ a b,F a b->G a b)->Paired G l₁ l₂
 | _,_,.nil,_=>.nil
 | _,_,.cons r t,f=>.cons (f _ _ r) (Paired.qhY t f)
theorem yd.ZW (x:yd P w H h a o) (k:∀ b u,(b=a\/H b=some (.own a))->h.get? b=some u->h'.get? b=some u)
  (ho:∀ b,H b=some (.own a)->H' b=some (.own a)) (ht:∀ b xs,H b=some (.tup xs)->H' b=some (.tup xs)):yd P w H' h' a o:=by
 induction o with
 | lst xs=>obtain⟨z,its,n,r,e⟩:=x;exact⟨z,its,n,r,k _ _ (.inl rfl) e⟩
 | tup xs=>obtain⟨z,its,r,ob,e,c⟩:=x;exact⟨z,its,r,ob,k _ _ (.inl rfl) e,c⟩
 | dK kvs=>obtain⟨z,y,vs,r,ob,es,ep,e,c⟩:=x;exact⟨z,y,vs,r,ob,es,ep,k _ _ (.inl rfl) e,c⟩
 | dT kvs =>
  obtain⟨z,y,xs,r,ob,es,ep,e,c⟩:=x
  exact⟨z,y,xs,Paired.qhY r fun p q z=>⟨z.1,ht _ _ z.2.1,z.2.2⟩,ob,es,ep,k _ _ (.inl rfl) e,c⟩
 | set S n=>obtain⟨ob,es,ep,t,e,c⟩:=x;exact⟨ob,es,ep,t,k _ _ (.inl rfl) e,c⟩
 | ins C dx fs =>
  obtain⟨d,z,ne,e,mA,⟨od,es,ep,e2,c⟩,r⟩:=x
  exact⟨ho _ d,z,ne,k _ _ (.inl rfl) e,mA,⟨od,es,ep,k _ _ (.inr d) e2,c⟩,r⟩
 | own y=>obtain⟨ob,e⟩:=x;exact⟨ob,k _ _ (.inl rfl) e⟩
 | xd fs=>obtain⟨mA,⟨od,es,ep,e,c⟩,r⟩:=x;exact⟨mA,⟨od,es,ep,k _ _ (.inl rfl) e,c⟩,r⟩
 | rng lo hi=>obtain⟨t,u,v,e⟩:=x;exact⟨t,u,v,k _ _ (.inl rfl) e⟩
 | frz ob u ih=>obtain⟨e,q⟩:=x;exact⟨k _ _ (.inl rfl) e,ih q⟩
 | tbl ps =>
  have e:h.get? a=some {cls:=.none,data:=.fields ps}:=x
  show h'.get? a=some {cls:=.none,data:=.fields ps}
  exact k a _ (.inl rfl) e
 | met f y =>
  have e:h.get? a=some (PySem.W.methodObj (.ref f) (.ref y)):=x
  show h'.get? a=some (PySem.W.methodObj (.ref f) (.ref y))
  exact k a _ (.inl rfl) e
 | ext φ=>obtain⟨p,⟨o,e⟩,st⟩:=x;exact⟨st _ _ p fun o q=>k _ _ (.inl rfl) q,⟨o,k _ _ (.inl rfl) e⟩,st⟩
theorem HOk.lt (x:HOk P w H h) (e:H a=some o):a<h.objs.size:=(x a o e).lt
theorem HOk.fresh (x:HOk P w H h) (e:h.objs.size <= a):H a=none:=by
 cases q:H a with
 | none=>rfl
 | some u=>exact absurd (Nat.lt_of_lt_of_le (x.lt q) e) (Nat.lt_irrefl _)
theorem HOk.kept (x:HOk P w H h) (k:∀ b u,h.get? b=some u->h'.get? b=some u):HOk P w H h':=fun a o e =>
 (x a o e).ZW (fun b u _ q=>k b u q) (fun _ q=>q) fun _ _ q=>q
theorem HOk.laid (x:HOk P w H h) (k:∀ b u,h.get? b=some u->h'.get? b=some u) (hp:h.objs.size <= a) (new:yd P w (upd H a o) h' a o):HOk P w (upd H a o) h':=fun b u e=>by
 have hn:=x.fresh hp
 by_cases hb:b=a
 ·subst hb;rw[qV] at e;cases e;exact new
 ·rw[qD hb] at e
  exact (x b u e).ZW (fun c v _ q=>k c v q) (fun c q=>by rw[qD (vz q hn)];exact q) fun c xs q=>by rw[qD (vz q hn)];exact q
end
noncomputable def Rd (H:Hp) (a:Addr) (u:HO):Prop:=H a=some u\/∃ o,H a=some (.frz o u)
theorem Rd.of {H:Hp}{a:Addr}{u:HO} (h:H a=some u):Rd H a u:=.inl h
theorem Rd.ok {P:Program}{w:World}{H:Hp}{h:Heap}{a:Addr}{u:HO} (r:Rd H a u) (x:HOk P w H h):yd P w H h a u:=by
 rcases r with r | ⟨o,r⟩
 ·exact x a u r
 ·obtain⟨_,q⟩:=x a _ r
  exact q
noncomputable def Mut:Option HO->Prop
 | some (.lst _)=>True
 | some (.dK _)=>True
 | some (.dT _)=>True
 | some (.set _ _)=>True
 | some (.ins _ _ _)=>True
 | some (.ext _)=>True
 | _=>False
section
variable {P:Program}{w:World}{H:Hp}{h h':Heap}{x e:Addr}{o':HO}
theorem HOk.write (ok:HOk P w H h) (mu:Mut (H x)) (he:e=x\/H e=some (.own x)) (k:∀ b u,b≠e->h.get? b=some u->h'.get? b=some u) (heo:∃ u,h'.get? e=some u)
  (new:yd P w (upd H x o') h' x o'):HOk P w (upd H x o') h':=fun b u q=>by
 have nown:∀ c y,H c=some (.own y)->c≠x:=fun c y r z=>by subst z;rw[r] at mu;exact mu
 have ntup:∀ c xs,H c=some (.tup xs)->c≠x:=fun c xs r z=>by subst z;rw[r] at mu;exact mu
 by_cases hb:b=x
 ·subst hb;rw[qV] at q;cases q;exact new
 ·rw[qD hb] at q
  by_cases hbe:b=e
  ·have q':H b=some (.own x):=by
    rcases he with z | z
    ·exact absurd (hbe.trans z) hb
    ·rw[hbe];exact z
   rw[q] at q';cases q'
   obtain⟨v,hv⟩:=heo
   exact⟨v,by rw[hbe];exact hv⟩
  ·refine (ok b u q).ZW (fun c v hc r=>k c v ?_ r) (fun c r=>by rw[qD (nown c b r)];exact r) fun c xs r=>by rw[qD (ntup c xs r)];exact r
   rcases hc with rfl | hc
   ·exact hbe
   ·rintro rfl
    rcases he with z | z
    ·exact nown c b hc z
    ·rw[hc] at z;cases z;exact hb rfl
end
structure Un (fs ex:List Addr) (H H':Hp) (h h':Heap):Prop where
 keep:∀ b o,h.get? b=some o->H b=none->b∉fs->b∉ex->h'.get? b=some o
 slot:∀ b o,h.get? b=some o->H b=none->b∈fs->b∉ex->∃ sl,h'.get? b=some {o with slots:=sl}
 free:∀ b o,h.get? b=some o->H b=none->b∉ex->H' b=none
 there:∀ b o,h.get? b=some o->b∉ex->∃ o',h'.get? b=some o'
 tups:∀ b xs,H b=some (.tup xs)->H' b=some (.tup xs)
 frzs:∀ b o u,H b=some (.frz o u)->H' b=some (.frz o u)
 tbls:∀ b ps,H b=some (.tbl ps)->∃ more,H' b=some (.tbl (ps++more))
section
variable {fs fs' ex ex':List Addr}{H H1 H2:Hp}{h h1 h2 h':Heap}{a x e:Addr}{o:HO}
theorem Un.any (u:Un fs ex H H1 h h1) {b:Addr}{ob:Obj} (q:h.get? b=some ob) (n:H b=none) (hx:b∉ex):∃ sl,h1.get? b=some {ob with slots:=sl}:=by
 by_cases hb:b∈fs
 ·exact u.slot b ob q n hb hx
 ·exact⟨ob.slots,u.keep b ob q n hb hx⟩
theorem Un.kept (k:∀ b u,h.get? b=some u->h'.get? b=some u):Un fs ex H H h h' :=
 ⟨fun b ob q _ _ _=>k b ob q,fun b ob q _ _ _=>⟨ob.slots,k b ob q⟩,fun _ _ _ n _=>n,fun b ob q _=>⟨ob,k b ob q⟩,fun _ _ q=>q,fun _ _ _ q=>q,fun _ ps q=>⟨#[],by rw[q];simp⟩⟩
theorem Un.refl:Un fs ex H H h h:=Un.kept fun _ _ q=>q
theorem Un.laid (k:∀ b u,h.get? b=some u->h'.get? b=some u) (hp:h.objs.size <= a) (hn:H a=none):Un fs ex H (upd H a o) h h' where
 keep:=fun b u q _ _ _=>k b u q
 slot:=fun b u q _ _ _=>⟨u.slots,k b u q⟩
 free:=fun b u q n _=>by rw[qD (Nat.ne_of_lt (Nat.lt_of_lt_of_le (Heap.lt_size q) hp))];exact n
 there:=fun b u q _=>⟨u,k b u q⟩
 tups:=fun b xs q=>by rw[qD (vz q hn)];exact q
 frzs:=fun b u xs q=>by rw[qD (vz q hn)];exact q
 tbls:=fun b ps q=>⟨#[],by rw[qD (vz q hn),q];simp⟩
theorem Un.write (mu:Mut (H x)) (he:e=x\/H e=some (.own x)) (k:∀ b u,b≠e->h.get? b=some u->h'.get? b=some u) (heo:∃ u,h'.get? e=some u):Un fs ex H (upd H x o) h h':=by
 have hx:∀ b,H b=none->b≠x:=fun b n z=>by subst z;rw[n] at mu;exact mu
 have hb:∀ b,H b=none->b≠e:=fun b n z=>by
  subst z
  rcases he with r | r
  ·exact hx b n r
  ·rw[n] at r;cases r
 have hm:∀ b u,H b=some u->¬ Mut (some u)->b≠x:=fun b u q nm z=>by subst z;rw[q] at mu;exact nm mu
 refine⟨fun b u q n _ _=>k b u (hb b n) q,fun b u q n _ _=>⟨u.slots,k b u (hb b n) q⟩,fun b u q n _=>by rw[qD (hx b n)];exact n,fun b u q _=>?_,
  fun b xs q=>by rw[qD (hm b _ q fun z=>z)];exact q,fun b u xs q=>by rw[qD (hm b _ q fun z=>z)];exact q,fun b ps q=>⟨#[],by rw[qD (hm b _ q fun z=>z),q];simp⟩⟩
 by_cases hbe:b=e
 ·subst hbe;exact heo
 ·exact⟨u,k b u hbe q⟩
end
noncomputable def trk (h:Heap) (H:Hp):List Addr:=(List.range h.objs.size).filter fun a=>(H a).isSome
noncomputable def Ye (h:Heap) (H:Hp):Heap:=PySem.W.hideAll h (trk h H)
theorem qco (h:Heap) (H:Hp):(Ye h H).objs.size=h.objs.size:=PySem.W.hideAll_size _ _
theorem qdu {h:Heap}{H:Hp}{b:Addr}{o:Obj} (e:h.get? b=some o) (n:H b=none):(Ye h H).get? b=some o :=
 PySem.W.hideAll_get _ e fun hm=>by
  have q:(H b).isSome=true:=(List.mem_filter.mp hm).2
  rw[n] at q;simp at q
theorem qer {h:Heap}{H:Hp}{b:Addr}{o:Obj} (e:(Ye h H).get? b=some o):h.get? b=some o/\H b=none:=by
 have e':h.get? b=some o:=PySem.W.of_hideAll (trk h H) e
 refine⟨e',?_⟩
 cases q:H b with
 | none=>rfl
 | some x =>
  have hm:b∈trk h H:=List.mem_filter.mpr ⟨List.mem_range.mpr (Heap.lt_size e'),by simp [q]⟩
  have z:(Ye h H).get? b=none:=PySem.W.hideAll_none (trk h H) hm
  rw[z] at e;cases e
structure Mod (K:PySem.W.Frag) (mg:Str->Option Value) (base:Heap):Prop where
 kin:K.In base
 glob:base.Ns mainGlobals mg
 blt:∃ mb,base.Ns builtinsNs mb/\∀ x:Str,x≠"__name__"->mb x=bootBuiltins x
 nolimit:base.NoLimit
structure Cx where
 prog:Program
 w:World
 K:PySem.W.Frag
 mg:Str->Option Value
 base:Heap
 A:Around
 N:List Str
 s_0:Shared
 H_0:Hp
 env:Env
 outer:List Env
 stack:List Env
 ex:List Addr
 fn:Str->Bool
 calm:Bool
 pn:List (Addr × Obj)
 xe:Value->Shared->Prop
noncomputable def frs (l:List Env):List Addr:=l.filterMap (·.frame)
noncomputable abbrev Cx.fs (X:Cx):List Addr:=frs X.outer
noncomputable def Vis (sc:Scope) (x:Str):Prop:=sc.names.lookup x=some .local\/sc.names.lookup x=some .cell\/sc.names.lookup x=some .free
noncomputable def Loc (sc:Scope) (x:Str):Prop:=sc.names.lookup x=some .local\/sc.names.lookup x=some .cell
noncomputable def Look (env:Env) (h:Heap) (m:Str->Option Value) (x:Str) (u:Value):Prop :=
 (env.kindOf x=some .local/\m x=some u)\/((env.kindOf x=some .cell\/env.kindOf x=some .free)/\∃ c,env.cells.lookup x=some c/\h.IsCell c (some u))
structure Cx.Ok (X:Cx):Prop where
 mod:Mod X.K X.mg X.base
 kind:X.env.scope.kind = .function
 glob:X.env.globals=mainGlobals
 blt:X.env.builtins=builtinsNs
 above:X.s_0.heap.objs.size <= X.env.locals
 inj:∀ x y c,X.env.cells.lookup x=some c->X.env.cells.lookup y=some c->x=y
 has:∀ x,(X.env.kindOf x=some .cell\/X.env.kindOf x=some .free)->∃ c,X.env.cells.lookup x=some c
 cab:∀ x c,X.fn x=true->X.env.cells.lookup x=some c->X.s_0.heap.objs.size <= c
 hd:X.calm=true->X.A.handled=none
 frames:X.A.frames=some X.stack
 stk:X.stack=X.outer\/(X.stack=X.env::X.outer/\X.env.frame=some X.env.locals)
 exf:∀ b∈X.ex,b≠X.env.locals/\∀ x c,X.env.cells.lookup x=some c->c≠b
 bs:∀ b o,X.base.get? b=some o->X.s_0.heap.get? b=some o/\X.H_0 b=none
 bsz:X.base.objs.size <= X.s_0.heap.objs.size
 noex:∀ b o,X.base.get? b=some o->b∉X.ex
 exfs:∀ b∈X.ex,b∉X.fs
 jL:X.s_0.heap.FunFrames X.base X.outer
 frf:∀ b∈X.fs,X.H_0 b=none
structure Inv (X:Cx) (pins:List (Addr × Obj)) (σ:List (Option V)) (H:Hp) (s:Shared):Prop where
 ok:X.Ok
 os:s.os=X.s_0.os
 bare:AllBare s.gens
 base:Un X.fs X.ex X.H_0 H X.s_0.heap s.heap
 loc:∃ m,s.heap.Ns X.env.locals m/\∀ (i:Nat) (x:Str) (v:V),X.N[i]?=some x->σ[i]?=some (some v)->Vis X.env.scope x->∃ u,RelV v u/\Look X.env s.heap m x u
 cell:∀ x c,X.env.cells.lookup x=some c->∃ v,s.heap.IsCell c v
 free:H X.env.locals=none
 freeC:∀ x c,X.env.cells.lookup x=some c->H c=none
 pin:∀ p∈X.pn++pins,s.heap.get? p.1=some p.2/\H p.1=none/\p.1≠X.env.locals/\p.1∉X.fs/\∀ v,p.2.data ≠ .cell v
 hok:HOk X.prog X.w H s.heap
 len:σ.length=X.N.length
section
variable {X:Cx}{pins:List (Addr × Obj)}{σ:List (Option V)}{H H':Hp}{s:Shared}{h':Heap}
theorem Cx.Ok.qix (ok:X.Ok) {b:Addr}{o:Obj} (e:X.base.get? b=some o):b∉X.fs:=fun hb=>by
 have:=(ok.jL.mem hb).1
 rw[e] at this;cases this
theorem Inv.bs (I:Inv X pins σ H s):∀ b o,X.base.get? b=some o->s.heap.get? b=some o/\H b=none:=fun b o e =>
 ⟨I.base.keep b o (I.ok.bs b o e).1 (I.ok.bs b o e).2 (I.ok.qix e) (I.ok.noex b o e),I.base.free b o (I.ok.bs b o e).1 (I.ok.bs b o e).2 (I.ok.noex b o e)⟩
theorem Inv.bk (I:Inv X pins σ H s):∀ b o,X.base.get? b=some o->s.heap.get? b=some o:=fun b o e=>(I.bs b o e).1
theorem Inv.mod (I:Inv X pins σ H s):Mod X.K X.mg X.base:=I.ok.mod
theorem Inv.kIn (I:Inv X pins σ H s):X.K.In s.heap:=I.ok.mod.kin.keeps I.bk
theorem Inv.nolimit (I:Inv X pins σ H s):s.heap.NoLimit:=I.ok.mod.nolimit.keeps I.bk
theorem Inv.lt (I:Inv X pins σ H s):X.env.locals<s.heap.objs.size:=let ⟨_,hn,_⟩:=I.loc;hn.lt
theorem Inv.sz (I:Inv X pins σ H s):X.s_0.heap.objs.size <= s.heap.objs.size:=Nat.le_trans I.ok.above (Nat.le_of_lt I.lt)
theorem Inv.qhV (I:Inv X pins σ H s) {a:Addr} (h:s.heap.objs.size <= a):a∉X.fs:=fun hb=>by
 obtain⟨_,o,ho,_⟩:=I.ok.jL.mem hb
 exact absurd (Nat.lt_of_lt_of_le (Heap.lt_size ho) (Nat.le_trans I.sz h)) (Nat.lt_irrefl _)
theorem Inv.cne (I:Inv X pins σ H s):∀ x c,X.env.cells.lookup x=some c->c≠X.env.locals:=fun x c e z=>by
 obtain⟨v,o,ho,hd⟩:=I.cell x c e
 obtain⟨m,⟨o',es,ep,ho',hd',_⟩,_⟩:=I.loc
 rw[z,ho'] at ho;cases ho;rw[hd'] at hd;cases hd
theorem Inv.jL (I:Inv X pins σ H s):s.heap.FunFrames X.base X.outer:=by
 have all:∀ (l:List Env),(∀ b∈frs l,b∈X.fs)->X.s_0.heap.FunFrames X.base l->s.heap.FunFrames X.base l:=by
  intro l
  induction l with
  | nil=>intro _ _;trivial
  | cons env r ih =>
   intro hs hl
   obtain⟨hk,⟨L,o,hf,hn,ho,hd⟩,hr⟩:=hl
   have hL:L∈X.fs:=hs L (by unfold frs;rw[List.filterMap_cons,hf];exact List.mem_cons_self)
   obtain⟨sl,e⟩:=I.base.slot L o ho (I.ok.frf L hL) hL fun z=>I.ok.exfs L z hL
   exact⟨hk,⟨L,_,hf,hn,e,hd⟩,ih (fun b hb=>hs b (by unfold frs;rw[List.filterMap_cons,hf];exact List.mem_cons_of_mem _ hb)) hr⟩
 exact all X.outer (fun _ hb=>hb) I.ok.jL
theorem Inv.stack (I:Inv X pins σ H s):s.heap.FunFrames X.base X.stack:=by
 rcases I.ok.stk with e | ⟨e,hf⟩
 ·rw[e];exact I.jL
 ·rw[e]
  obtain⟨m,hn,_⟩:=I.loc
  refine .cons (by rw[I.ok.kind];decide) hf hn ?_ I.jL
  exact Heap.get?_none_of_le (Nat.le_trans I.ok.bsz I.ok.above)
theorem Inv.xQ (I:Inv X pins σ H s):∀ b∈frs X.stack,b∈X.env.locals::X.fs:=fun b hb=>by
 rcases I.ok.stk with e | ⟨e,hf⟩
 ·rw[e] at hb;exact List.mem_cons_of_mem _ hb
 ·rw[e] at hb
  unfold frs at hb
  rw[List.filterMap_cons,hf] at hb
  exact hb
theorem Inv.Xt (I:Inv X pins σ H s):∀ b∈frs X.stack,H b=none:=fun b hb=>by
 rcases List.mem_cons.mp (I.xQ b hb) with e | hb
 ·rw[e];exact I.free
 ·obtain⟨_,o,ho,_⟩:=I.ok.jL.mem hb
  exact I.base.free b o ho (I.ok.frf b hb) fun z=>I.ok.exfs b z hb
theorem Inv.step {g':Array GenState}{t':Nat}{d':Drawn}{ch:List Addr} (I:Inv X pins σ H s)
  (hch:∀ b∈ch,(b∈X.ex\/X.s_0.heap.objs.size <= b)/\b≠X.env.locals/\(∀ x c,X.env.cells.lookup x=some c->c≠b)/\∀ p∈X.pn++pins,p.1≠b)
  (keep:∀ b o,b≠X.env.locals->b∉X.fs->b∉ch->s.heap.get? b=some o->H b=none->h'.get? b=some o)
  (slot:∀ b o,b≠X.env.locals->b∈X.fs->b∉ch->s.heap.get? b=some o->H b=none->∃ sl,h'.get? b=some {o with slots:=sl}) (free:∀ b o,b∉ch->s.heap.get? b=some o->H b=none->H' b=none)
  (there:∀ b o,b∉ch->s.heap.get? b=some o->∃ o',h'.get? b=some o')
  (tups:∀ b xs,H b=some (.tup xs)->H' b=some (.tup xs)) (frzs:∀ b o u,H b=some (.frz o u)->H' b=some (.frz o u)) (tbls:∀ b ps,H b=some (.tbl ps)->∃ more,H' b=some (.tbl (ps++more)))
  (ns:∀ m,s.heap.Ns X.env.locals m->h'.Ns X.env.locals m) (hok:HOk X.prog X.w H' h') (hg:AllBare g') :
  Inv X pins σ H' {s with heap:=h',gens:=g',drawn:=d',toks:=t'}:=by
 have neL:∀ b o,X.s_0.heap.get? b=some o->b≠X.env.locals:=fun b o e=>Nat.ne_of_lt (Nat.lt_of_lt_of_le (Heap.lt_size e) I.ok.above)
 have neC:∀ b o,X.s_0.heap.get? b=some o->b∉X.ex->b∉ch:=fun b o e hx hb=>by
  rcases (hch b hb).1 with z | z
  ·exact hx z
  ·exact absurd (Nat.lt_of_lt_of_le (Heap.lt_size e) z) (Nat.lt_irrefl _)
 have cellK:∀ x c,X.env.cells.lookup x=some c->∀ v,s.heap.IsCell c v->h'.IsCell c v:=fun x c e v ⟨o,ho,hd⟩=>by
  have nch:c∉ch:=fun z=>(hch c z).2.2.1 x c e rfl
  by_cases hc:c∈X.fs
  ·obtain⟨sl,q⟩:=slot c o (I.cne x c e) hc nch ho (I.freeC x c e)
   exact⟨_,q,hd⟩
  ·exact⟨o,keep c o (I.cne x c e) hc nch ho (I.freeC x c e),hd⟩
 refine⟨I.ok,I.os,hg,⟨fun b o e n hb hx=>?_,fun b o e n hb hx=>?_,fun b o e n hx=>?_,fun b o e hx=>?_,fun b xs e=>tups b xs (I.base.tups b xs e),fun b o xs e=>frzs b o xs (I.base.frzs b o xs e),fun b ps e=>?_⟩,?_,fun x c e=>?_,?_,fun x c e=>?_,fun p hp=>?_,hok,I.len⟩
 ·exact keep b o (neL b o e) hb (neC b o e hx) (I.base.keep b o e n hb hx) (I.base.free b o e n hx)
 ·obtain⟨sl,e1⟩:=I.base.slot b o e n hb hx
  obtain⟨sl',e2⟩:=slot b _ (neL b o e) hb (neC b o e hx) e1 (I.base.free b o e n hx)
  exact⟨sl',e2⟩
 ·obtain⟨o',e1⟩:=I.base.there b o e hx
  exact free b o' (neC b o e hx) e1 (I.base.free b o e n hx)
 ·obtain⟨o',e1⟩:=I.base.there b o e hx
  exact there b o' (neC b o e hx) e1
 ·obtain⟨m1,e1⟩:=I.base.tbls b ps e
  obtain⟨m2,e2⟩:=tbls b _ e1
  exact⟨m1++m2,by rw[e2,Array.append_assoc]⟩
 ·obtain⟨m,hn,hl⟩:=I.loc
  refine⟨m,ns m hn,fun i x v e1 e2 e3=>?_⟩
  obtain⟨u,r,l⟩:=hl i x v e1 e2 e3
  refine⟨u,r,?_⟩
  rcases l with l | ⟨k,c,e,z⟩
  ·exact .inl l
  ·exact .inr ⟨k,c,e,cellK x c e _ z⟩
 ·obtain⟨v,z⟩:=I.cell x c e
  exact⟨v,cellK x c e v z⟩
 ·obtain⟨m,⟨o,_,_,ho,_⟩,_⟩:=I.loc
  exact free _ o (fun z=>(hch _ z).2.1 rfl) ho I.free
 ·obtain⟨v,o,ho,hd⟩:=I.cell x c e
  exact free c o (fun z=>(hch c z).2.2.1 x c e rfl) ho (I.freeC x c e)
 ·obtain⟨e,n,ne,nf,d⟩:=I.pin p hp
  have nch:p.1∉ch:=fun z=>(hch p.1 z).2.2.2 p hp rfl
  exact⟨keep p.1 p.2 ne nf nch e n,free p.1 p.2 nch e n,ne,nf,d⟩
theorem Inv.un {t':Nat} (I:Inv X pins σ H s) (u:Un X.fs [] H H' s.heap h') (hok:HOk X.prog X.w H' h'):Inv X pins σ H' {s with heap:=h',toks:=t'}:=by
 obtain⟨m,⟨o,es,ep,ho,r⟩,_⟩:=id I.loc
 obtain⟨sl,hL⟩:=u.any ho I.free (by simp)
 exact I.step (g':=s.gens) (d':=s.drawn) (ch:=[]) (fun _ z=>nomatch z) (fun b o _ hb _ e n=>u.keep b o e n hb (by simp)) (fun b o _ hb _ e n=>u.slot b o e n hb (by simp)) (fun b o _ e n=>u.free b o e n (by simp)) (fun b o _ e=>u.there b o e (by simp)) u.tups u.frzs u.tbls (fun m' hm=>by
  obtain⟨o',es',ep',ho',r'⟩:=hm
  rw[ho] at ho';cases ho'
  exact⟨_,es',ep',hL,r'⟩) hok I.bare
theorem Inv.call {g':Array GenState}{t':Nat}{d':Drawn}{ch:List Addr} (I:Inv X pins σ H s) (u:Un (frs X.stack) ch H H' s.heap h') (hok:HOk X.prog X.w H' h') (hg:AllBare g')
  (hch:∀ b∈ch,(b∈X.ex\/X.s_0.heap.objs.size <= b)/\b≠X.env.locals/\(∀ x c,X.env.cells.lookup x=some c->c≠b)/\∀ p∈X.pn++pins,p.1≠b) :
  Inv X pins σ H' {s with heap:=h',gens:=g',drawn:=d',toks:=t'}:=by
 obtain⟨m,⟨o,es,ep,ho,r⟩,_⟩:=id I.loc
 obtain⟨sl,hL⟩:=u.any ho I.free fun z=>(hch _ z).2.1 rfl
 exact I.step (ch:=ch) hch (fun b o hL hb hc e n=>u.keep b o e n (fun z=>(List.mem_cons.mp (I.xQ b z)).elim hL hb) hc) (fun b o _ _ hc e n=>u.any e n hc) (fun b o hc e n=>u.free b o e n hc) (fun b o hc e=>u.there b o e hc) u.tups u.frzs u.tbls (fun m' hm=>by
  obtain⟨o',es',ep',ho',r'⟩:=hm
  rw[ho] at ho';cases ho'
  exact⟨_,es',ep',hL,r'⟩) hok hg
theorem Inv.turned {t':Nat}{it:Addr} (I:Inv X pins σ H s) (k:∀ b o,b≠it->s.heap.get? b=some o->h'.get? b=some o) (hn:H it=none) (hL:it≠X.env.locals)
  (h1:it∈X.ex\/X.s_0.heap.objs.size <= it) (h2:∀ x c,X.env.cells.lookup x=some c->c≠it) (h3:∀ p∈X.pn++pins,p.1≠it):Inv X pins σ H {s with heap:=h',toks:=t'}:=by
 have nit:∀ b u,H b=some u->b≠it:=fun b u e z=>by rw[z,hn] at e;cases e
 refine I.step (g':=s.gens) (d':=s.drawn) (ch:=[it]) (fun b hb=>?_) (fun b o _ _ hc e _=>k b o (fun z=>hc (by simp [z])) e) (fun b o _ _ hc e _=>⟨o.slots,k b o (fun z=>hc (by simp [z])) e⟩) (fun _ _ _ _ n=>n)
  (fun b o hc e=>⟨o,k b o (fun z=>hc (by simp [z])) e⟩) (fun _ _ e=>e) (fun _ _ _ e=>e) (fun b ps e=>⟨#[],by rw[e];simp⟩) (fun m hm=>?_) (fun b u e=>?_) I.bare
 ·have e:b=it:=by simpa using hb
  subst e
  exact⟨h1,hL,h2,h3⟩
 ·obtain⟨o,es,ep,ho,r⟩:=hm
  exact⟨o,es,ep,k _ o (Ne.symm hL) ho,r⟩
 ·refine (I.hok b u e).ZW (fun c v hc q=>k c v ?_ q) (fun _ q=>q) fun _ _ q=>q
  rcases hc with z | z
  ·rw[z];exact nit b u e
  ·exact nit c _ z
theorem Inv.tok (I:Inv X pins σ H s) (t:Nat):Inv X pins σ H {s with toks:=t}:=I.un (h':=s.heap) (t':=t) Un.refl I.hok
theorem Inv.kept {t':Nat} (I:Inv X pins σ H s) (k:∀ b u,s.heap.get? b=some u->h'.get? b=some u):Inv X pins σ H {s with heap:=h',toks:=t'}:=I.un (Un.kept k) (I.hok.kept k)
theorem Inv.laid {a:Addr}{o:HO}{t':Nat} (I:Inv X pins σ H s) (k:∀ b u,s.heap.get? b=some u->h'.get? b=some u) (hp:s.heap.objs.size <= a) (new:yd X.prog X.w (upd H a o) h' a o) :
  Inv X pins σ (upd H a o) {s with heap:=h',toks:=t'}:=I.un (Un.laid k hp (I.hok.fresh hp)) (I.hok.laid k hp new)
theorem Inv.write {x e:Addr}{o:HO}{t':Nat} (I:Inv X pins σ H s) (mu:Mut (H x)) (he:e=x\/H e=some (.own x)) (k:∀ b u,b≠e->s.heap.get? b=some u->h'.get? b=some u) (heo:∃ u,h'.get? e=some u)
  (new:yd X.prog X.w (upd H x o) h' x o):Inv X pins σ (upd H x o) {s with heap:=h',toks:=t'}:=I.un (Un.write mu he k heo) (I.hok.write mu he k heo new)
theorem Inv.weak {σ':List (Option V)} (I:Inv X pins σ H s) (hl:σ'.length=σ.length) (w:∀ (i:Nat) v,σ'[i]?=some (some v)->σ[i]?=some (some v)):Inv X pins σ' H s :=
 ⟨I.ok,I.os,I.bare,I.base,let ⟨m,hn,hl'⟩:=I.loc;⟨m,hn,fun i x v e1 e2 e3=>hl' i x v e1 (w i v e2) e3⟩,I.cell,I.free,I.freeC,I.pin,I.hok,hl.trans I.len⟩
theorem Inv.qaP {pins':List (Addr × Obj)} (I:Inv X pins σ H s) (h:∀ p∈pins',s.heap.get? p.1=some p.2/\H p.1=none/\p.1≠X.env.locals/\p.1∉X.fs/\∀ v,p.2.data ≠ .cell v):Inv X pins' σ H s :=
 ⟨I.ok,I.os,I.bare,I.base,I.loc,I.cell,I.free,I.freeC,fun p hp=>(List.mem_append.mp hp).elim (fun z=>I.pin p (List.mem_append_left _ z)) (h p),I.hok,I.len⟩
theorem ZC {N:List Str} (hN:N.Nodup) {i j:Nat}{x:Str} (a:N[i]?=some x) (b:N[j]?=some x):i=j:=by
 obtain⟨h1,e1⟩:=List.getElem?_eq_some_iff.mp a
 obtain⟨h2,e2⟩:=List.getElem?_eq_some_iff.mp b
 exact (List.getElem_inj hN).mp (e1.trans e2.symm)
theorem qb7 {M:Model}{A:Around}{E:Value->Shared->Prop}{i:Nat}{x:Str}{v:V}{u:Value}{Q:Unit->Shared->Prop} (I:Inv X pins σ H s) (hN:X.N.Nodup) (hi:X.N[i]?=some x) (hx:Loc X.env.scope x) (r:RelV v u)
  (h:∀ s',Inv X pins (σ.set i (some v)) H s'->(∃ a,Heap.SameBut a s.heap s'.heap/\(a=X.env.locals\/X.env.cells.lookup x=some a))->Q () s') (hf:autoParam (X.fn x=true\/X.env.scope.names.lookup x=some .local) Zo._auto_1):wpAny M A (storeName X.env x u) Q E s:=by
 obtain⟨m,hn,hl⟩:=id I.loc
 have hcls:(X.env.scope.kind == .class||(X.env.scope.kind == .module&&X.env.locals != X.env.globals))=false:=by rw[I.ok.kind];rfl
 have hiσ:i<σ.length:=by rw[I.len];exact (List.getElem?_eq_some_iff.mp hi).1
 have cne:=I.cne
 have tracked:∀ {a:Addr}{h':Heap},(∃ o,s.heap.get? a=some o/\H a=none)->Heap.SameBut a s.heap h'->HOk X.prog X.w H h':=fun {a h'} ha hs b ob e=>by
  obtain⟨_,_,hfree⟩:=ha
  refine (I.hok b ob e).ZW (fun c w' hc q=>(hs.2 c ?_).trans q) (fun _ q=>q) fun _ _ q=>q
  rintro rfl
  rcases hc with rfl | hc
  ·rw[hfree] at e;cases e
  ·rw[hfree] at hc;cases hc
 rcases hx with hk | hk
 ·refine wpAny_storeName_local hk hn (fun h' hn' hs=>?_) hcls
  obtain⟨oL,_,_,hoL,_⟩:=id hn
  refine h _ ⟨I.ok,I.os,I.bare,⟨fun b o e n hb hx=>?_,fun b o e n hb hx=>?_,I.base.free,fun b o e hx=>?_,I.base.tups,I.base.frzs,I.base.tbls⟩,⟨_,hn',fun j y v' e1 e2 e3=>?_⟩,fun y c e=>?_,I.free,I.freeC,fun p hp=>?_,tracked ⟨oL,hoL,I.free⟩ hs,by simpa using I.len⟩ ⟨_,hs,.inl rfl⟩
  ·exact (hs.2 b (Nat.ne_of_lt (Nat.lt_of_lt_of_le (Heap.lt_size e) I.ok.above))).trans (I.base.keep b o e n hb hx)
  ·obtain⟨sl,e1⟩:=I.base.slot b o e n hb hx
   exact⟨sl,(hs.2 b (Nat.ne_of_lt (Nat.lt_of_lt_of_le (Heap.lt_size e) I.ok.above))).trans e1⟩
  ·obtain⟨o',e1⟩:=I.base.there b o e hx
   exact⟨o',(hs.2 b (Nat.ne_of_lt (Nat.lt_of_lt_of_le (Heap.lt_size e) I.ok.above))).trans e1⟩
  ·by_cases hj:j=i
   ·subst hj
    rw[hi] at e1;cases e1
    rw[List.getElem?_set_self hiσ] at e2
    cases e2
    exact⟨u,r,.inl ⟨hk,by simp⟩⟩
   ·rw[List.getElem?_set_ne (Ne.symm hj)] at e2
    obtain⟨u',r',q⟩:=hl j y v' e1 e2 e3
    refine⟨u',r',?_⟩
    rcases q with ⟨k,e⟩ | ⟨k,c,e,z⟩
    ·refine .inl ⟨k,?_⟩
     have:y≠x:=fun e=>hj (ZC hN e1 (e▸hi))
     simp [this,e]
    ·exact .inr ⟨k,c,e,z.sameBut hs (cne y c e)⟩
  ·obtain⟨w',z⟩:=I.cell y c e
   exact⟨w',z.sameBut hs (cne y c e)⟩
  ·obtain⟨e,n,ne,nf,d⟩:=I.pin p hp
   exact⟨(hs.2 p.1 ne).trans e,n,ne,nf,d⟩
 ·have hfn:X.fn x=true:=by
   rcases hf with z | z
   ·exact z
   ·rw[z] at hk;cases hk
  obtain⟨c,hc⟩:=I.ok.has x (.inl hk)
  obtain⟨w',z⟩:=I.cell x c hc
  refine wpAny_storeName_cell I.ok.kind hk hc z (fun h' hc' hs=>?_)
  obtain⟨oc,hoc,hocd⟩:=id z
  refine h {s with heap:=h'} ⟨I.ok,I.os,I.bare,⟨fun b o e n hb hx=>?_,fun b o e n hb hx=>?_,I.base.free,fun b o e hx=>?_,I.base.tups,I.base.frzs,I.base.tbls⟩,⟨m,hn.sameBut hs (Ne.symm (cne x c hc)),fun j y v' e1 e2 e3=>?_⟩,fun y c' e=>?_,I.free,I.freeC,fun p hp=>?_,tracked ⟨oc,hoc,I.freeC x c hc⟩ hs,by simpa using I.len⟩ ⟨c,hs,.inr hc⟩
  ·exact (hs.2 b (Nat.ne_of_lt (Nat.lt_of_lt_of_le (Heap.lt_size e) (I.ok.cab x c hfn hc)))).trans (I.base.keep b o e n hb hx)
  ·obtain⟨sl,e1⟩:=I.base.slot b o e n hb hx
   exact⟨sl,(hs.2 b (Nat.ne_of_lt (Nat.lt_of_lt_of_le (Heap.lt_size e) (I.ok.cab x c hfn hc)))).trans e1⟩
  ·obtain⟨o',e1⟩:=I.base.there b o e hx
   exact⟨o',(hs.2 b (Nat.ne_of_lt (Nat.lt_of_lt_of_le (Heap.lt_size e) (I.ok.cab x c hfn hc)))).trans e1⟩
  ·by_cases hj:j=i
   ·subst hj
    rw[hi] at e1;cases e1
    rw[List.getElem?_set_self hiσ] at e2
    cases e2
    exact⟨u,r,.inr ⟨.inl hk,c,hc,hc'⟩⟩
   ·rw[List.getElem?_set_ne (Ne.symm hj)] at e2
    obtain⟨u',r',q⟩:=hl j y v' e1 e2 e3
    refine⟨u',r',?_⟩
    rcases q with q | ⟨k,c',e,z'⟩
    ·exact .inl q
    ·refine .inr ⟨k,c',e,z'.sameBut hs ?_⟩
     rintro rfl
     exact hj (ZC hN e1 (I.ok.inj _ _ _ e hc▸hi))
  ·by_cases hcc:c'=c
   ·subst hcc;exact⟨_,hc'⟩
   ·obtain⟨w2,z2⟩:=I.cell y c' e
    exact⟨w2,z2.sameBut hs hcc⟩
  ·obtain⟨e,n,ne,nf,d⟩:=I.pin p hp
   refine⟨(hs.2 p.1 ?_).trans e,n,ne,nf,d⟩
   intro q
   rw[q,hoc] at e
   have q':oc=p.2:=Option.some.inj e
   exact d w' (by rw[<- q'];exact hocd)
theorem Ub {M:Model}{A:Around}{E:Value->Shared->Prop}{i:Nat}{x:Str}{v:V}{u:Value}{Q:Unit->Shared->Prop} (I:Inv X pins σ H s) (hN:X.N.Nodup) (hi:X.N[i]?=some x) (hx:Loc X.env.scope x) (r:RelV v u)
  (h:∀ s',Inv X pins (σ.set i (some v)) H s'->Q () s') (hf:autoParam (X.fn x=true\/X.env.scope.names.lookup x=some .local) Zo._auto_1):wpAny M A (storeName X.env x u) Q E s :=
 qb7 I hN hi hx r (fun s' I' _=>h s' I') hf
theorem Inv.qdJ {s':Shared}{ch:List Addr} (I:Inv X pins σ H s) (ho:s'.os=s.os) (u:Un (frs X.stack) ch H H' s.heap s'.heap) (hok:HOk X.prog X.w H' s'.heap) (hg:AllBare s'.gens)
  (hch:∀ b∈ch,(b∈X.ex\/X.s_0.heap.objs.size <= b)/\b≠X.env.locals/\(∀ x c,X.env.cells.lookup x=some c->c≠b)/\∀ p∈X.pn++pins,p.1≠b):Inv X pins σ H' s':=by
 obtain⟨h',g',d',t',o'⟩:=s'
 have e:o'=s.os:=ho
 subst e
 exact I.call (g':=g') (t':=t') (d':=d') u hok hg hch
end
noncomputable abbrev XK:=Value->Option Addr->Hp->Prop
noncomputable abbrev St:=List (Option V)
noncomputable abbrev VK:=V->Hp->Prop
noncomputable abbrev TE:=St->Hp->VK->Prop
noncomputable abbrev TT:=St->Hp->(Bool->Hp->Prop)->Prop
noncomputable abbrev TA:=St->Hp->(List V->Hp->Prop)->Prop
structure Ends where
 nx:St->Hp->Prop
 rt:VK
 bk:St->Hp->Prop:=fun _ _=>False
 ct:St->Hp->Prop:=fun _ _=>False
noncomputable abbrev TS:=Ends->St->Hp->Prop
noncomputable def EP (X:Cx) (pins:List (Addr × Obj)) (σ:St) (Q:VK) (u:Value) (s':Shared):Prop:=∃ v H',Inv X pins σ H' s'/\RelV v u/\Q v H'
noncomputable def TP (X:Cx) (pins:List (Addr × Obj)) (σ:St) (Q:Bool->Hp->Prop) (b:Bool) (s':Shared):Prop:=∃ H',Inv X pins σ H' s'/\Q b H'
noncomputable def AP (X:Cx) (pins:List (Addr × Obj)) (σ:St) (Q:List V->Hp->Prop) (us:List Value) (s':Shared):Prop:=∃ vs H',Inv X pins σ H' s'/\Vals vs us/\Q vs H'
noncomputable def SP (X:Cx) (pins:List (Addr × Obj)) (D:Ends) (f:Flow) (s':Shared):Prop :=
 match f with
 | .next=>∃ σ' H',Inv X pins σ' H' s'/\D.nx σ' H'
 | .brk=>∃ σ' H',Inv X pins σ' H' s'/\D.bk σ' H'
 | .cont=>∃ σ' H',Inv X pins σ' H' s'/\D.ct σ' H'
 | .ret u=>∃ v σ' H',Inv X pins σ' H' s'/\RelV v u/\D.rt v H'
noncomputable def PE (X:Cx) (e:Expr) (t:TE):Prop :=
 ∀ (pins:List (Addr × Obj)) (s:Shared) (σ:St) (H:Hp) (Q:VK),Inv X pins σ H s->t σ H Q->wpAny (model X.prog X.w) X.A (eval e X.env) (EP X pins σ Q) X.xe s
noncomputable def PT (X:Cx) (e:Expr) (t:TT):Prop :=
 ∀ (pins:List (Addr × Obj)) (s:Shared) (σ:St) (H:Hp) (Q:Bool->Hp->Prop),Inv X pins σ H s->t σ H Q->wpAny (model X.prog X.w) X.A (isTrue e X.env (eval e X.env)) (TP X pins σ Q) X.xe s
noncomputable def PW (X:Cx) (e:Expr) (t:TT):Prop :=
 ∀ (whole:Sem Value) (pins:List (Addr × Obj)) (s:Shared) (σ:St) (H:Hp) (Q:Bool->Hp->Prop),Inv X pins σ H s->t σ H Q->wpAny (model X.prog X.w) X.A (isTrue e X.env whole) (TP X pins σ Q) X.xe s
theorem PW.pt {X:Cx}{e:Expr}{t:TT} (h:PW X e t):PT X e t:=h _
noncomputable def PA (X:Cx) (es:List Expr) (t:TA):Prop :=
 ∀ (pos:Pos) (pins:List (Addr × Obj)) (s:Shared) (σ:St) (H:Hp) (Q:List V->Hp->Prop),Inv X pins σ H s->t σ H Q->wpAny (model X.prog X.w) X.A (spliced (backTo pos (starEach es X.env))) (AP X pins σ Q) X.xe s
noncomputable def PS (X:Cx) (st:Stmt) (t:TS):Prop :=
 ∀ (pins:List (Addr × Obj)) (s:Shared) (σ:St) (H:Hp) (D:Ends),Inv X pins σ H s->t D σ H->wpAny (model X.prog X.w) X.A (exec st X.env) (SP X pins D) X.xe s
noncomputable def PSs (X:Cx) (st:List Stmt) (t:TS):Prop :=
 ∀ (pins:List (Addr × Obj)) (s:Shared) (σ:St) (H:Hp) (D:Ends),Inv X pins σ H s->t D σ H->wpAny (model X.prog X.w) X.A (execs st X.env) (SP X pins D) X.xe s
theorem thn {α:Type}{t:Sem α}{Q Q':α->Shared->Prop}{M:Model}{A:Around}{E:Value->Shared->Prop}{s:Shared} (h:wpAny M A t Q E s) (hQ:∀ a s,Q a s->Q' a s):wpAny M A t Q' E s:=wpAny_mono h hQ fun _ _ x=>x
section
variable {X:Cx}
noncomputable def qhC (i:Nat):TE:=fun σ H Q=>∃ v,σ[i]?=some (some v)/\Q v H
noncomputable def tC (v:V):TE:=fun _ H Q=>Q v H
theorem Ze {i:Nat}{x:Str}{pos:Pos} (hN:X.N[i]?=some x) (hv:Vis X.env.scope x) (hd:autoParam ((x==("__debug__":Str))=false) vh._auto_1) (hcd:autoParam ((x==("__classdict__":Str))=false) vh._auto_1):PE X (.Name x pos) (qhC i):=by
 intro pins s σ H Q I h
 obtain⟨v,e,h⟩:=h
 obtain⟨m,hn,hl⟩:=I.loc
 obtain⟨u,r,l⟩:=hl i x v hN e hv
 have fin:EP X pins σ Q u s:=⟨v,H,I,r,h⟩
 rcases l with ⟨hk,hm⟩ | ⟨hk,c,hc,hcell⟩
 ·exact wpAny_Name (wpAny_loadName_local I.ok.kind hk hn hm fin) hd
 ·rcases hk with hk | hk
  ·exact wpAny_Name (wpAny_loadName_cell I.ok.kind hk hc hcell fin) hd
  ·exact wpAny_Name (wpAny_loadName_free I.ok.kind hk hc hcell fin hcd) hd
theorem J6 {i j pos}:PE X (.Constant (.int i) j pos) (tC (.int i)):=fun _ _ _ H _ I h=>wpAny_Constant_int ⟨.int i,H,I.tok _,⟨_,rfl⟩,h⟩
noncomputable def Gl (X:Cx) (x:Str):Prop:=X.env.kindOf x=some .globalImplicit
theorem jr {E:Value->Shared->Prop}{pins:List (Addr × Obj)}{s:Shared}{σ:St}{H:Hp}{x:Str}{u:Value}{pos:Pos}{Q:Value->Shared->Prop} (I:Inv X pins σ H s) (hg:Gl X x) (hm:X.mg x=some u) (h:Q u s)
  (hd:autoParam ((x==("__debug__":Str))=false) vh._auto_1):wpAny (model X.prog X.w) X.A (eval (.Name x pos) X.env) Q E s :=
 Calls.Name_function_global I.ok.kind hg (Calls.loadGlobal_global (by rw[I.ok.glob];exact I.mod.glob.keeps I.bk) hm h) hd
theorem QO {E:Value->Shared->Prop}{pins:List (Addr × Obj)}{s:Shared}{σ:St}{H:Hp}{x:Str}{u:Value}{pos:Pos}{Q:Value->Shared->Prop} (I:Inv X pins σ H s) (hg:Gl X x) (hm:X.mg x=none) (hv:bootBuiltins x=some u) (h:Q u s)
  (hn:autoParam (x≠"__name__") vh._auto_1) (hd:autoParam ((x==("__debug__":Str))=false) vh._auto_1):wpAny (model X.prog X.w) X.A (eval (.Name x pos) X.env) Q E s:=by
 obtain⟨mb,h1,h2⟩:=I.mod.blt
 exact Calls.Name_function_global I.ok.kind hg (Calls.loadGlobal_builtin (by rw[I.ok.glob];exact I.mod.glob.keeps I.bk) hm (by rw[I.ok.blt];exact h1.keeps I.bk) ((h2 x hn).trans hv) h) hd
theorem qfs {x:Str}{v:V}{u:Value}{pos:Pos} (hg:Gl X x) (hm:X.mg x=some u) (r:RelV v u) (hd:autoParam ((x==("__debug__":Str))=false) vh._auto_1):PE X (.Name x pos) (tC v) :=
 fun _ _ _ H _ I h=>jr I hg hm ⟨v,H,I,r,h⟩ hd
variable {a b:Expr}{ta tb:TE}{pos:Pos}
noncomputable def tB (t:TE):TT:=fun σ H Q=>t σ H fun x H1=>∃ c,x = .bl c/\Q c H1
theorem qgn {e:Expr}{t:TE} (h:PE X e t) (he:autoParam (∀ whole,isTrue e X.env whole=(do let v <- whole;standAt e.pos;holding [v] (truthy v))) uQ._auto_1):PT X e (tB t):=by
 intro pins s σ H Q I hw
 refine isTrue_plain (thn (h pins s σ H _ I hw) fun v s1 ⟨x,H1,I1,r1,q1⟩=>?_) (he _)
 obtain⟨d,rfl,q⟩:=q1
 cases r1
 exact wpAny_truthy_bool ⟨H1,I1,q⟩
variable {tA tB':TT}{rest:List Expr}
noncomputable def qip (t u:TT):TT:=fun σ H Q=>t σ H fun c H1=>if c=true then u σ H1 Q else Q false H1
noncomputable def tOr (t u:TT):TT:=fun σ H Q=>t σ H fun c H1=>if c=true then Q true H1 else u σ H1 Q
noncomputable def qin (t:TT):TT:=fun σ H Q=>t σ H fun c H1=>Q (!c) H1
theorem qfc (ha:PT X a tA):PW X (.BoolOp .And [a] pos) tA:=by
 intro wh pins s σ H Q I h
 refine isTrue_and (thn (ha pins s σ H Q I h) fun c s1 e=>?_)
 cases c with
 | true=>exact isTrue_and_nil e
 | false=>exact e
theorem qgS (ha:PT X a tA):PW X (.BoolOp .Or [a] pos) tA:=by
 intro wh pins s σ H Q I h
 refine isTrue_or (thn (ha pins s σ H Q I h) fun c s1 e=>?_)
 cases c with
 | false=>exact isTrue_or_nil e
 | true=>exact e
theorem qgT (ha:PT X a tA) (hb:PW X (.BoolOp .And (b::rest) pos) tB'):PW X (.BoolOp .And (a::b::rest) pos) (qip tA tB'):=by
 intro wh pins s σ H Q I h
 refine isTrue_and (thn (ha pins s σ H _ I h) fun c s1 ⟨H1,I1,q1⟩=>?_)
 cases c with
 | true=>exact hb wh pins s1 σ H1 Q I1 q1
 | false=>exact⟨H1,I1,q1⟩
theorem qhu (ha:PT X a tA) (hb:PW X (.BoolOp .Or (b::rest) pos) tB'):PW X (.BoolOp .Or (a::b::rest) pos) (tOr tA tB'):=by
 intro wh pins s σ H Q I h
 refine isTrue_or (thn (ha pins s σ H _ I h) fun c s1 ⟨H1,I1,q1⟩=>?_)
 cases c with
 | true=>exact⟨H1,I1,q1⟩
 | false=>exact hb wh pins s1 σ H1 Q I1 q1
theorem qgH (ha:PT X a tA):PT X (.UnaryOp .Not a pos) (qin tA):=by
 intro pins s σ H Q I h
 exact isTrue_not (ha pins s σ H (fun c H1=>Q (!c) H1) I h)
noncomputable def tIf (t:TT) (ta tb:TE):TE:=fun σ H Q=>t σ H fun c H1=>if c=true then ta σ H1 Q else tb σ H1 Q
theorem qc0 {c:Expr} (hc:PT X c tA) (ha:PE X a ta) (hb:PE X b tb):PE X (.IfExp c a b pos) (tIf tA ta tb):=by
 intro pins s σ H Q I h
 refine wpAny_IfExp (thn (hc pins s σ H _ I h) fun d s1 ⟨H1,I1,q1⟩=>?_)
 cases d with
 | true=>exact ha pins s1 σ H1 Q I1 q1
 | false=>exact hb pins s1 σ H1 Q I1 q1
end
noncomputable def SqL (K:PySem.W.Frag) (H:Hp) (a:Addr) (xs:List V):Prop :=
 Rd H a (.lst xs) \/
  ∃ (o:Obj) (its:Array Value) (n:Nat),K.lookup a=some o/\o.cls = .type "list"/\o.dict=none/\o.data = .seq its n/\its.size <= sizeLine/\Vals xs its.toList
noncomputable def SqT (K:PySem.W.Frag) (H:Hp) (a:Addr) (xs:List V):Prop :=
 Rd H a (.tup xs) \/
  ∃ (o:Obj) (its:Array Value) (n:Nat),K.lookup a=some o/\o.cls = .type "tuple"/\o.data = .seq its n/\its.size <= sizeLine/\Vals xs its.toList
noncomputable def qiD:Value->Option V
 | .none=>some .non
 | .bool b=>some (.bl b)
 | .int i _=>some (.int i)
 | .str x _=>some (.str x)
 | .bytes b _=>some (.byt b)
 | .float b _=>some (.flt b)
 | .ref a=>some (.ref a)
 | .type n=>some (.ty n)
 | _=>none
theorem RelV.abs {x:V}{u:Value} (r:RelV x u):qiD u=some x:=by
 cases x with
 | non=>cases r;rfl
 | bl _=>cases r;rfl
 | int _=>obtain⟨t,rfl⟩:=r;rfl
 | str _=>obtain⟨t,rfl⟩:=r;rfl
 | byt _=>obtain⟨t,rfl⟩:=r;rfl
 | flt _=>obtain⟨t,rfl⟩:=r;rfl
 | ref _=>cases r;rfl
 | ty _=>cases r;rfl
theorem RelV.inj {x y:V}{u:Value} (r:RelV x u) (q:RelV y u):x=y:=Option.some.inj (r.abs.symm.trans q.abs)
theorem Vals.inj:∀ {xs ys:List V}{us:List Value},Vals xs us->Vals ys us->xs=ys
 | _,_,_,.nil,.nil=>rfl
 | _,_,_,.cons r t,.cons r' t'=>by rw[r.inj r',Vals.inj t t']
section
variable {X:Cx}{pins:List (Addr × Obj)}{σ:St}{H:Hp}{s:Shared}{a:Addr}{xs ys:List V}
theorem SqL.of {K:PySem.W.Frag} (h:H a=some (.lst xs)):SqL K H a xs:=.inl (.inl h)
theorem SqT.of {K:PySem.W.Frag} (h:H a=some (.tup xs)):SqT K H a xs:=.inl (.inl h)
theorem Inv.list (I:Inv X pins σ H s) (h:SqL X.K H a xs):∃ its:List Value,Vals xs its/\PlainL s.heap a its.toArray/\xs.length <= sizeLine:=by
 rcases h with h | ⟨o,its,n,hk,hc,hd,hs,hz,r⟩
 ·obtain⟨z,its,n,r,e⟩:=h.ok I.hok
  exact⟨its,r,⟨_,n,e,rfl,rfl,rfl⟩,z⟩
 ·refine⟨its.toList,r,⟨o,n,I.kIn a o hk,hc,hd,by simpa using hs⟩,?_⟩
  have e:=r.length
  simp only[Array.length_toList] at e
  lia
theorem Inv.tuple (I:Inv X pins σ H s) (h:SqT X.K H a xs):∃ its:List Value,Vals xs its/\IsTup s.heap a its.toArray/\xs.length <= sizeLine:=by
 rcases h with h | ⟨o,its,n,hk,hc,hs,hz,r⟩
 ·obtain⟨z,its,r,p⟩:=h.ok I.hok
  exact⟨its,r,p,z⟩
 ·refine⟨its.toList,r,⟨o,I.kIn a o hk,hc,n,by simpa using hs⟩,?_⟩
  have e:=r.length
  simp only[Array.length_toList] at e
  lia
theorem Inv.W5 (I:Inv X pins σ H s) (h:SqL X.K H a xs) (h':SqL X.K H a ys):xs=ys:=by
 obtain⟨its,r,⟨o,n,e,_,_,d⟩,_⟩:=I.list h
 obtain⟨its',r',⟨o',n',e',_,_,d'⟩,_⟩:=I.list h'
 rw[e] at e';cases e'
 rw[d] at d'
 injection d' with d1 _
 have:its=its':=by simpa using congrArg Array.toList d1
 subst this
 exact r.inj r'
end
noncomputable abbrev Cx.u0 (X:Cx) (E:Value->Shared->Prop):Cx:={X with xe:=E}
theorem Cx.Ok.u0 {X:Cx} (ok:X.Ok) (E:Value->Shared->Prop):(X.u0 E).Ok :=
 ⟨ok.mod,ok.kind,ok.glob,ok.blt,ok.above,ok.inj,ok.has,ok.cab,ok.hd,ok.frames,ok.stk,ok.exf,ok.bs,ok.bsz,ok.noex,ok.exfs,ok.jL,ok.frf⟩
theorem Cx.Ok.yO {X:Cx}{E:Value->Shared->Prop} (ok:(X.u0 E).Ok):X.Ok :=
 ⟨ok.mod,ok.kind,ok.glob,ok.blt,ok.above,ok.inj,ok.has,ok.cab,ok.hd,ok.frames,ok.stk,ok.exf,ok.bs,ok.bsz,ok.noex,ok.exfs,ok.jL,ok.frf⟩
section
variable {X:Cx}{pins:List (Addr × Obj)}{σ:St}{H:Hp}{s:Shared}{E:Value->Shared->Prop}
theorem Inv.u0 (I:Inv X pins σ H s) (E:Value->Shared->Prop):Inv (X.u0 E) pins σ H s:=⟨I.ok.u0 E,I.os,I.bare,I.base,I.loc,I.cell,I.free,I.freeC,I.pin,I.hok,I.len⟩
theorem Inv.yO (I:Inv (X.u0 E) pins σ H s):Inv X pins σ H s:=⟨I.ok.yO,I.os,I.bare,I.base,I.loc,I.cell,I.free,I.freeC,I.pin,I.hok,I.len⟩
theorem SP.yO {D:Ends}{f:Flow}{s':Shared} (h:SP (X.u0 E) pins D f s'):SP X pins D f s':=by
 cases f with
 | next=>obtain⟨σ',H',I,q⟩:=h;exact⟨σ',H',I.yO,q⟩
 | brk=>obtain⟨σ',H',I,q⟩:=h;exact⟨σ',H',I.yO,q⟩
 | cont=>obtain⟨σ',H',I,q⟩:=h;exact⟨σ',H',I.yO,q⟩
 | ret u=>obtain⟨v,σ',H',I,r,q⟩:=h;exact⟨v,σ',H',I.yO,r,q⟩
end
section
variable {X:Cx}{st:Stmt}{rest:List Stmt}{t u:TS}{e:Expr}{te:TE}{pos:Pos}
noncomputable def qic:TS:=fun D σ H=>D.nx σ H
noncomputable def qig (t u:TS):TS:=fun D σ H=>t {D with nx:=u D} σ H
theorem qaO:PSs X [] qic:=fun _ _ σ H _ I h=>wpAny_execs_nil ⟨σ,H,I,h⟩
theorem W0 (h1:PS X st t) (h2:PSs X rest u):PSs X (st::rest) (qig t u):=by
 intro pins s σ H D I h
 refine wpAny_execs_cons (thn (h1 pins s σ H {D with nx:=u D} I h) fun f s1 q=>?_)
 cases f with
 | next =>
  obtain⟨σ',H',I',q⟩:=q
  exact h2 pins s1 σ' H' D I' q
 | ret v=>exact q
 | brk=>exact q
 | cont=>exact q
theorem jz (h1:PS X st t):PSs X [st] t:=by
 intro pins s σ H D I h
 refine wpAny_execs_cons (thn (h1 pins s σ H D I h) fun f s1 q=>?_)
 cases f with
 | next=>exact wpAny_execs_nil q
 | ret v=>exact q
 | brk=>exact q
 | cont=>exact q
theorem Inv.quiet {pins:List (Addr × Obj)}{σ:St}{H:Hp}{s:Shared} (I:Inv X pins σ H s):interactive X.env=false:=by simp [interactive,I.ok.kind]
noncomputable def qh2 (te:TE):TS:=fun D σ H=>te σ H fun _ H1=>D.nx σ H1
theorem V8 (he:PE X e te) (hs:autoParam (swapsWith e none pos.line X.env=pure false) qt._auto_1):PS X (.Expr e pos) (qh2 te):=by
 intro pins s σ H D I h
 exact wpAny_Expr_any (thn (he pins s σ H _ I h) fun v s1 ⟨x,H1,I1,r1,q1⟩=>⟨σ,H1,I1,q1⟩) I.quiet hs
noncomputable def qgY (te:TE):TS:=fun D σ H=>te σ H D.rt
theorem jj (he:PE X e te):PS X (.Return (some e) pos) (qgY te):=by
 intro pins s σ H D I h
 exact wpAny_Return_some (thn (he pins s σ H _ I h) fun v s1 ⟨x,H1,I1,r1,q1⟩=>⟨x,σ,H1,I1,r1,q1⟩)
noncomputable def qhM:TS:=fun D _ H=>D.rt .non H
theorem qeQ:PS X (.Return none pos) qhM:=fun _ _ σ H _ I h=>wpAny_Return_none ⟨.non,σ,H,I,rfl,h⟩
noncomputable def qiA (c:TT) (t u:TS):TS:=fun D σ H=>c σ H fun b H1=>if b=true then t D σ H1 else u D σ H1
theorem qgc {c:Expr}{a b:List Stmt}{tc:TT} (hc:PT X c tc) (ha:PSs X a t) (hb:PSs X b u):PS X (.If c a b pos) (qiA tc t u):=by
 intro pins s σ H D I h
 refine wpAny_If (thn (hc pins s σ H _ I h) fun d s1 ⟨H1,I1,q1⟩=>?_)
 cases d with
 | true=>exact ha pins s1 σ H1 D I1 q1
 | false=>exact hb pins s1 σ H1 D I1 q1
end
noncomputable abbrev TG:=V->St->Hp->(St->Hp->Prop)->Prop
noncomputable abbrev TGs:=List V->St->Hp->(St->Hp->Prop)->Prop
noncomputable def PG (X:Cx) (target:Expr) (t:TG):Prop :=
 ∀ (pins:List (Addr × Obj)) (s:Shared) (σ:St) (H:Hp) (v:V) (u:Value) (Q:St->Hp->Prop),Inv X pins σ H s->RelV v u->t v σ H Q ->
  wpAny (model X.prog X.w) X.A (assign target X.env u) (fun _ s'=>∃ σ' H',Inv X pins σ' H' s'/\Q σ' H') X.xe s
noncomputable def PGs (X:Cx) (ts:List Expr) (t:TGs):Prop :=
 ∀ (pins:List (Addr × Obj)) (s:Shared) (σ:St) (H:Hp) (vs:List V) (us:List Value) (Q:St->Hp->Prop),Inv X pins σ H s->Vals vs us->t vs σ H Q ->
  wpAny (model X.prog X.w) X.A (assignInOrder ((assignEach ts X.env).map (·.2)) us) (fun _ s'=>∃ σ' H',Inv X pins σ' H' s'/\Q σ' H') X.xe s
noncomputable abbrev qgm:=V->V->V->Hp->(Hp->Prop)->Prop
noncomputable def qhA (X:Cx) (t:qgm):Prop :=
 ∀ (pins:List (Addr × Obj)) (s:Shared) (σ:St) (H:Hp) (o i v:V) (ov iv u:Value) (Q:Hp->Prop),Inv X pins σ H s->RelV o ov->RelV i iv->RelV v u->t o i v H Q ->
  wpAny (model X.prog X.w) X.A (setItem ov iv u) (fun _ s'=>∃ H',Inv X pins σ H' s'/\Q H') X.xe s
section
variable {X:Cx}{pos:Pos}
noncomputable def zP (i:Nat):TG:=fun v σ H Q=>Q (σ.set i (some v)) H
theorem qfP {i:Nat}{x:Str} (hN:X.N.Nodup) (hi:X.N[i]?=some x) (hx:Loc X.env.scope x) (hf:autoParam (X.fn x=true\/X.env.scope.names.lookup x=some .local) Zo._auto_1):PG X (.Name x pos) (zP i):=by
 intro pins s σ H v u Q I r h
 exact wpAny_assign_Name (Ub I hN hi hx r (fun s' I'=>⟨_,H,I',h⟩) hf)
noncomputable def qe8:TGs:=fun vs σ H Q=>vs=[]/\Q σ H
noncomputable def W7 (t:TG) (u:TGs):TGs:=fun vs σ H Q=>∃ v r,vs=v::r/\t v σ H fun σ' H'=>u r σ' H' Q
theorem qfI:PGs X [] qe8:=by
 intro pins s σ H vs us Q I r h
 obtain⟨e,h⟩:=h
 subst e
 cases r
 exact assignInOrder_nil ⟨σ,H,I,h⟩
theorem Je {e:Expr}{es:List Expr}{t:TG}{u:TGs} (h1:PG X e t) (h2:PGs X es u)
  (hs:autoParam ((assignEach (e::es) X.env).map (·.2)=assign e X.env::(assignEach es X.env).map (·.2)) qt._auto_1):PGs X (e::es) (W7 t u):=by
 intro pins s σ H vs us Q I r h
 obtain⟨v,vr,e1,h⟩:=h
 subst e1
 cases r with
 | cons r rr =>
  rw[hs]
  refine assignInOrder_cons (thn (h1 pins s σ H _ _ _ I r h) fun _ s1 ⟨σ1,H1,I1,q1⟩=>?_)
  exact h2 pins s1 σ1 H1 _ _ Q I1 rr q1
noncomputable def qew (K:PySem.W.Frag) (n:Nat) (t:TGs):TG:=fun v σ H Q=>∃ a xs,v = .ref a/\SqT K H a xs/\xs.length=n/\t xs σ H Q
theorem qg5 {es:List Expr}{k:Nat}{t:TGs}{n:Nat} (hc:X.calm=true) (h:PGs X es t)
  (hn:autoParam ((assignEach es X.env).length=n) qt._auto_1) (hst:autoParam ((assignEach es X.env).findIdx? (·.1)=none) qt._auto_1):PG X (.Tuple es k pos) (qew X.K n t):=by
 intro pins s σ H v u Q I r hw
 obtain⟨a,xs,e1,hq,hl,hw⟩:=hw
 subst e1
 cases r
 obtain⟨its,rv,ht,hz⟩:=I.tuple hq
 refine assign_Tuple_tuple (I.ok.hd hc) ht (by simp [hn,<- hl,rv.length]) hst fun h' hx=>?_
 have I1:Inv X pins σ H {s with heap:=h'}:=I.kept (t':=s.toks) fun b o e=>hx b o (Nat.ne_of_lt (Heap.lt_size e)) e
 exact h pins _ σ H xs _ Q I1 (by simpa using rv) hw
noncomputable def qhS (to ti:TE) (t:qgm):TG:=fun v σ H Q=>to σ H fun o H1=>ti σ H1 fun i H2=>t o i v H2 fun H3=>Q σ H3
theorem xW {o i:Expr}{to ti:TE}{t:qgm} (ho:PE X o to) (hi:PE X i ti) (hs:qhA X t)
  (ha:∀ v,assign (.Subscript o i pos) X.env v=(do
   let ov <- holding [v] (eval o X.env)
   let iv <- holding [v,ov] (eval i X.env)
   standAt pos
   holding [v,ov,iv] (setItem ov iv v)
   release [v,ov,iv] []):=by intro _;rfl):PG X (.Subscript o i pos) (qhS to ti t):=by
 intro pins s σ H v u Q I r h
 rw[ha]
 refine wpAny_bind (wpAny_holding (thn (ho pins s σ H _ I h) fun ov s1 ⟨x,H1,I1,r1,q1⟩=>?_))
 refine wpAny_bind (wpAny_holding (thn (hi pins s1 σ H1 _ I1 q1) fun iv s2 ⟨y,H2,I2,r2,q2⟩=>?_))
 refine wpAny_bind (wpAny_standAt (wpAny_bind (wpAny_holding (thn (hs pins s2 σ H2 x y v ov iv u _ I2 r1 r2 r q2) fun _ s3 ⟨H3,I3,q3⟩=>?_))))
 exact wpAny_release ⟨σ,H3,I3,q3⟩
noncomputable def J4 (te:TE) (g:TG):TS:=fun D σ H=>te σ H fun x H1=>g x σ H1 D.nx
theorem xT {tg e:Expr}{te:TE}{g:TG} (he:PE X e te) (hg:PG X tg g) (hs:autoParam (swapsWithSole [tg] e pos.line X.env=pure false) qt._auto_1) (hw:autoParam (swappedStores [tg] e X.env=pure none) qt._auto_1)
  (h1:autoParam ((assignEach [tg] X.env).map (·.2)=[assign tg X.env]) qt._auto_1):PS X (.Assign [tg] e pos) (J4 te g):=by
 intro pins s σ H D I h
 refine wpAny_Assign_stores (thn (he pins s σ H _ I h) fun v s1 ⟨x,H1,I1,r1,q1⟩=>?_) hs hw
 rw[h1]
 exact thn (hg pins s1 σ H1 x v _ I1 r1 q1) fun _ s2 q=>q
theorem Zm {i:Nat}{x:Str}{e:Expr}{te:TE}{pos':Pos} (hN:X.N.Nodup) (hi:X.N[i]?=some x) (hx:Loc X.env.scope x) (he:PE X e te) (hs:autoParam (swapsWith e (some (.Name x pos')) pos.line X.env=pure false) qt._auto_1) (hf:autoParam (X.fn x=true\/X.env.scope.names.lookup x=some .local) Zo._auto_1) :
  PS X (.Assign [.Name x pos'] e pos) (J4 te (zP i)):=by
 intro pins s σ H D I h
 refine wpAny_Assign_Name (thn (he pins s σ H _ I h) fun v s1 ⟨y,H1,I1,r1,q1⟩=>?_) hs
 exact Ub I1 hN hi hx r1 (fun s2 I2=>⟨_,H1,I2,q1⟩) hf
end
section
variable {X:Cx}{pos:Pos}
noncomputable def qgk (c:TT) (tb:TS):TS:=fun D σ H=>∃ W:Nat->St->Hp->Prop,(∃ m,W m σ H)/\∀ m σ H,W m σ H ->
 c σ H fun b H1=>if b=true then ∃ N:St->Hp->Prop,(∀ σ' H',N σ' H'->∃ m',m'<m/\W m' σ' H')/\tb {D with nx:=N,ct:=N,bk:=D.nx} σ H1 else D.nx σ H1
theorem qdX {c:Expr}{body:List Stmt}{tc:TT}{tb:TS} (hp:PassesOwn (model X.prog X.w) X.A X.env X.xe) (hc:PT X c tc) (hb:PSs X body tb):PS X (.While c body [] pos) (qgk tc tb):=by
 intro pins s σ H D I h
 obtain⟨W,⟨m0,w0⟩,turn⟩:=h
 refine wpAny_While (codeAny_whileLoop (fun n s'=>∃ σ' H',Inv X pins σ' H' s'/\W n σ' H') ?_ m0 ⟨σ,H,I,w0⟩)
 rintro n s1 ⟨σ1,H1,I1,w1⟩
 refine wpAny_passesOwn hp (thn (hc pins s1 σ1 H1 _ I1 (turn n σ1 H1 w1)) fun b s2 ⟨H2,I2,q2⟩=>?_)
 cases b with
 | true =>
  obtain⟨N,hN,q2⟩:=q2
  rw[if_pos rfl]
  refine wpAny_passesOwn hp (thn (hb pins s2 σ1 H2 _ I2 q2) fun f s3 q3=>?_)
  cases f with
  | next =>
   obtain⟨σ3,H3,I3,n3⟩:=q3
   obtain⟨m',hm,w3⟩:=hN σ3 H3 n3
   exact⟨m',hm,σ3,H3,I3,w3⟩
  | cont =>
   obtain⟨σ3,H3,I3,n3⟩:=q3
   obtain⟨m',hm,w3⟩:=hN σ3 H3 n3
   exact⟨m',hm,σ3,H3,I3,w3⟩
  | brk=>exact q3
  | ret v=>exact q3
 | false =>
  rw[if_neg Bool.false_ne_true]
  exact wpAny_execs_nil ⟨σ1,H2,I2,q2⟩
end
structure It where
 go:Nat->Hp->Prop
 yld:Nat->Hp->V->Hp->Prop
 stop:Nat->Hp->Prop
noncomputable def Q8 (X:Cx) (pins:List (Addr × Obj)) (H:Hp) (b:Addr):Prop :=
 H b=none/\b≠X.env.locals/\b∉X.fs/\(b∈X.ex\/X.s_0.heap.objs.size <= b)/\(∀ x c,X.env.cells.lookup x=some c->c≠b)/\∀ p∈X.pn++pins,p.1≠b
theorem Inv.qcp {X:Cx}{pins:List (Addr × Obj)}{σ:St}{H H':Hp}{s:Shared}{b:Addr} (I:Inv X pins σ H s) (hb:s.heap.objs.size <= b) (hn:H' b=none):Q8 X pins H' b:=by
 refine⟨hn,Nat.ne_of_gt (Nat.lt_of_lt_of_le I.lt hb),I.qhV hb,.inr (Nat.le_trans I.sz hb),fun x c e z=>?_,fun p hp z=>?_⟩
 ·obtain⟨v,q⟩:=I.cell x c e
  exact absurd (Nat.lt_of_lt_of_le q.lt (by rw[z];exact hb)) (Nat.lt_irrefl _)
 ·exact absurd (Nat.lt_of_lt_of_le (Heap.lt_size (I.pin p hp).1) (by rw[z];exact hb)) (Nat.lt_irrefl _)
structure Turn (P:Program) (w:World) (K:PySem.W.Frag) (tg:Expr) (J:It) (fp:List Addr) (it:Addr) (tn:Nat->Heap->Prop):Prop where
 mem:it∈fp
 obj:∀ i h,tn i h->∀ b∈fp,∃ o,h.get? b=some o/\∀ v,o.data ≠ .cell v
 keep:∀ i h h',tn i h->(∀ b∈fp,∀ o,h.get? b=some o->h'.get? b=some o)->tn i h'
 item:∀ (X:Cx),X.prog=P->X.w=w->X.K=K->X.calm=true->∀ (i:Nat) (pins:List (Addr × Obj)) (s:Shared) (σ:St) (H:Hp) (E:Value->Shared->Prop),Inv X pins σ H s->(∀ b∈fp,Q8 X pins H b)->tn i s.heap->J.go i H ->
  wpAny (model P w) X.A (pyNext (.ref it)) (fun r s1=>∃ u,r=some u /\
   wpAny (model P w) X.A (letOwnedTupleGo tg (.ref it) u) (fun _ s2=>∃ x H',Inv X pins σ H' s2/\RelV x u/\J.yld i H x H'/\tn (i+1) s2.heap/\∀ b∈fp,H' b=none) E s1) E s
 done:∀ (X:Cx),X.prog=P->X.w=w->X.K=K->X.calm=true->∀ (i:Nat) (pins:List (Addr × Obj)) (s:Shared) (σ:St) (H:Hp) (E:Value->Shared->Prop),Inv X pins σ H s->(∀ b∈fp,Q8 X pins H b)->tn i s.heap->J.stop i H ->
  wpAny (model P w) X.A (pyNext (.ref it)) (fun r s1=>r=none/\Inv X pins σ H s1) E s
 self:∀ (A:Around) (i:Nat) (s:Shared) (Q:Value->Shared->Prop) (E:Value->Shared->Prop),tn i s.heap->Q (.ref it) s->wpAny (model P w) A (pyIter (.ref it)) Q E s
noncomputable abbrev TI:=St->Hp->(It->Hp->Prop)->Prop
noncomputable def PIE (X:Cx) (pins:List (Addr × Obj)) (σ:St) (tg:Expr) (R:It->Hp->Prop) (itv:Value) (s2:Shared):Prop :=
 ∃ (it:Addr) (fp:List Addr) (tn:Nat->Heap->Prop) (J:It) (H':Hp),itv = .ref it/\Inv X pins σ H' s2/\Turn X.prog X.w X.K tg J fp it tn/\tn 0 s2.heap/\(∀ b∈fp,Q8 X pins H' b)/\R J H'
noncomputable def PI (X:Cx) (tg iter:Expr) (wi:TI):Prop :=
 ∀ (pins:List (Addr × Obj)) (s:Shared) (σ:St) (H:Hp) (R:It->Hp->Prop),Inv X pins σ H s->wi σ H R ->
  wpAny (model X.prog X.w) X.A (eval iter X.env) (fun v s1=>wpAny (model X.prog X.w) X.A (pyIter v) (PIE X pins σ tg R) X.xe s1) X.xe s
theorem qek {M : Model} {A : Around} {E : Value -> Shared -> Prop} {s : Shared} {tg : Expr} {it : Addr} {u : Value} {o : Obj} {n : String} {vs : Array Value} {Q : Unit -> Shared -> Prop} (ho : s.heap.get? it = some o) (hc : o.cls = .type n) (hd : o.data = .fields vs)
    (hn:["enumerate","zip","dict_itemiterator","dict_reverseitemiterator","odict_iterator","itertools.zip_longest","itertools.pairwise"].contains n=false) (hQ:Q () s):wpAny M A (letOwnedTupleGo tg (.ref it) u) Q E s:=by
  unfold letOwnedTupleGo
  cases tg <;> first
    | exact wpAny_pure hQ
    | (cases u <;> first
        | exact wpAny_pure hQ
        | (refine wpAny_bind (wpAny_load ho ?_)
           rw[hc,hd]
           show wpAny M A (if (["enumerate","zip","dict_itemiterator","dict_reverseitemiterator","odict_iterator","itertools.zip_longest","itertools.pairwise"].contains n&&vs[0]?==some (rawInt _))=true then _ else _) Q E s
           rw[if_neg (by intro h;rw[hn,Bool.false_and] at h;cases h)]
           exact wpAny_pure hQ))
noncomputable def Itl (K:PySem.W.Frag) (a:Addr):It :=
 ⟨fun i H=>∃ xs x,SqL K H a xs/\xs[i]?=some x,fun i H x H'=>H'=H/\∀ xs,SqL K H a xs->xs[i]?=some x,fun i H=>∃ xs,SqL K H a xs/\xs.length <= i⟩
noncomputable def Itr (lo:Int) (n:Nat):It:=⟨fun i _=>i<n,fun i H x H'=>H'=H/\x = .int (lo+i),fun i _=>n <= i⟩
theorem qcj {P:Program}{w:World}{K:PySem.W.Frag}{tg:Expr} (a it:Addr):Turn P w K tg (Itl K a) [it] it (fun i h=>h.IsListIter it a i) where
 mem:=by simp
 obj:=fun i h st b hb=>by
  have e:b=it:=by simpa using hb
  subst e
  obtain⟨o,e,c,d⟩:=st
  exact⟨o,e,fun v z=>by rw[d] at z;cases z⟩
 keep:=fun i h h' st k=>st.at fun o e=>k it (by simp) o e
 item:=by
  intro X hP hw hK hc i pins s σ H E I hf st hg
  subst hP hw hK
  obtain⟨xs,x,hq,hx⟩:=hg
  obtain⟨its,rv,p,hz⟩:=I.list hq
  obtain⟨u,hu,ru⟩:=rv.get hx
  obtain⟨f0,f1,f2,f3,f4,f5⟩:=hf it (by simp)
  refine wpAny_pyNext_list_item st p.isList (x:=u) (by simpa using hu) fun h' st' sb=>?_
  have I1:Inv X pins σ H {s with heap:=h'}:=I.turned (t':=s.toks) (fun b o hb e=>(sb.2 b hb).trans e) f0 f1 f3 f4 f5
  obtain⟨o,e,c,d⟩:=id st'
  exact⟨u,rfl,qek (s:={s with heap:=h'}) e c d (by decide) ⟨x,H,I1,ru,⟨rfl,fun ys hy=>by rw[I.W5 hy hq];exact hx⟩,st',fun b hb=>(hf b hb).1⟩⟩
 done:=by
  intro X hP hw hK hc i pins s σ H E I hf st hg
  subst hP hw hK
  obtain⟨xs,hq,hx⟩:=hg
  obtain⟨its,rv,p,hz⟩:=I.list hq
  obtain⟨f0,f1,f2,f3,f4,f5⟩:=hf it (by simp)
  have hl:=rv.length
  exact wpAny_pyNext_list_end (I.ok.hd hc) st p.isList (by simp;lia) fun h' eb=>⟨rfl,I.turned (t':=s.toks) (fun b o hb e=>eb b o hb e) f0 f1 f3 f4 f5⟩
 self:=fun _ _ _ _ _ st h=>wpAny_pyIter_listiter st h
theorem qai {P:Program}{w:World}{K:PySem.W.Frag}{tg:Expr} (it:Addr) (lo:Int) (n:Nat):Turn P w K tg (Itr lo n) [it] it (fun i h=>IsRangeIter h it (lo+(i:Nat)*1) ((n:Int)-(i:Nat)) 1) where
 mem:=by simp
 obj:=fun i h st b hb=>by
  have e:b=it:=by simpa using hb
  subst e
  exact⟨_,st,fun v z=>by
   have z':Data.fields _=Data.cell v:=z
   cases z'⟩
 keep:=fun i h h' st k=>k it (by simp) _ st
 item:=by
  intro X hP hw hK hc i pins s σ H E I hf st hg
  subst hP hw hK
  obtain⟨f0,f1,f2,f3,f4,f5⟩:=hf it (by simp)
  have W:=Walks.range (prog:=X.prog) (w:=X.w) (I.ok.hd hc) it lo 1 n
  refine W.item i s _ _ hg st fun v h' tk hv st' kk=>?_
  obtain⟨t,rfl⟩:=hv
  have I1:Inv X pins σ H {s with heap:=h',toks:=tk}:=I.turned (fun b o hb e=>kk b o (by simpa using hb) e) f0 f1 f3 f4 f5
  refine⟨_,rfl,qek (s:={s with heap:=h',toks:=tk}) (n:="range_iterator") st' rfl rfl (by decide) ⟨.int (lo+i),H,I1,⟨t,?_⟩,⟨rfl,rfl⟩,st',fun b hb=>(hf b hb).1⟩⟩
  rw[Int.mul_one]
 done:=by
  intro X hP hw hK hc i pins s σ H E I hf st hg
  subst hP hw hK
  obtain⟨f0,f1,f2,f3,f4,f5⟩:=hf it (by simp)
  exact wpAny_pyNext_range_end (I.ok.hd hc) st (by have:n <= i:=hg;lia) fun h' eb=>⟨rfl,I.turned (t':=s.toks) (fun b o hb e=>eb b o hb e) f0 f1 f3 f4 f5⟩
 self:=fun _ _ _ _ _ st h=>wpAny_pyIter_rangeiter st h
section
variable {X:Cx}{tg:Expr}
noncomputable def qhW (K:PySem.W.Frag) (tl:TE):TI:=fun σ H R=>tl σ H fun x H1=>∃ a,x = .ref a/\(∃ xs,SqL K H1 a xs)/\R (Itl K a) H1
theorem qfk {l:Expr}{tl:TE} (hl:PE X l tl):PI X tg l (qhW X.K tl):=by
 intro pins s σ H R I h
 refine thn (hl pins s σ H _ I h) fun v s1 ⟨x,H1,I1,r1,q1⟩=>?_
 obtain⟨a,e,⟨xs,hq⟩,q⟩:=q1
 subst e
 cases r1
 obtain⟨its,rv,p,hz⟩:=I1.list hq
 refine wpAny_pyIter_list p.isList ?_
 refine⟨s1.heap.objs.size,[s1.heap.objs.size],_,_,H1,rfl,I1.kept (t':=s1.toks) fun b o e=>Heap.get?_push_of_some _ e,qcj a _,⟨_,Heap.get?_push_size _ rfl,rfl,rfl⟩,fun b hb=>?_,q⟩
 have e:b=s1.heap.objs.size:=by simpa using hb
 subst e
 exact I1.qcp (Nat.le_refl _) (I1.hok.fresh (Nat.le_refl _))
theorem Ud {pins:List (Addr × Obj)}{σ:St}{H:Hp}{s:Shared}{R:It->Hp->Prop}{E:Value->Shared->Prop}{lo hi:Int}{t u v:Tok}{tk:Nat} (I:Inv X pins σ H s) (h1 : -(2^62) <= lo) (h2:lo<2^62) (h3 : -(2^62) <= hi) (h4:hi<2^62)
  (q:R (Itr lo (hi-lo).toNat) H):wpAny (model X.prog X.w) X.A (pyIter (.ref s.heap.objs.size)) (PIE X pins σ tg R) E {s with heap:=s.heap.push {cls:=.type "range",data:=.fields #[.int lo t,.int hi u,.int 1 v]},toks:=tk}:=by
 refine wpAny_pyIter_range (IsRange.new ..) (small_one h1 h2 h3 h4) ?_
 have I1:Inv X pins σ H {s with heap:=s.heap.push {cls:=.type "range",data:=.fields #[.int lo t,.int hi u,.int 1 v]},toks:=tk}:=I.kept fun b o e=>Heap.get?_push_of_some _ e
 refine⟨(s.heap.push {cls:=.type "range",data:=.fields #[.int lo t,.int hi u,.int 1 v]}).objs.size,[(s.heap.push {cls:=.type "range",data:=.fields #[.int lo t,.int hi u,.int 1 v]}).objs.size],_,_,H,rfl,
  I1.kept (t':=tk) fun b o e=>Heap.get?_push_of_some _ e,qai _ lo (hi-lo).toNat,?_,fun b hb=>?_,q⟩
 ·have e1:lo+((0:Nat):Int)*1=lo:=by simp
  have e2:(((hi-lo).toNat:Nat):Int)-((0:Nat):Int)=Builtin.Range.rangeSize lo hi 1:=by rw[rangeSize_one];split <;> lia
  show IsRangeIter _ _ (lo+((0:Nat):Int)*1) ((((hi-lo).toNat:Nat):Int)-((0:Nat):Int)) 1
  rw[e1,e2]
  exact Heap.get?_push_size _ rfl
 ·have e:b=(s.heap.push {cls:=.type "range",data:=.fields #[.int lo t,.int hi u,.int 1 v]}).objs.size:=by simpa using hb
  subst e
  exact I1.qcp (Nat.le_refl _) (I1.hok.fresh (Nat.le_refl _))
noncomputable def qhD (ta:TA):TI:=fun σ H R=>ta σ H fun vs H1=>∃ j:Int,vs=[.int j] /\ -(2^62) <= j/\j<2^62/\R (Itr 0 j.toNat) H1
noncomputable def qhT (ta:TA):TI:=fun σ H R=>ta σ H fun vs H1=>∃ i j:Int,vs=[.int i,.int j]/\(-(2^62) <= i/\i<2^62 /\ -(2^62) <= j/\j<2^62)/\R (Itr i (j-i).toNat) H1
theorem YH {a:Expr}{ta:TA}{p pos:Pos} (hg:Gl X "range") (hm:X.mg "range"=none) (ha:PA X [a] ta) (hs:autoParam (starEach [a] X.env=[(false,eval a X.env)]) qt._auto_1):PI X tg (.Call (.Name "range" p) [a] [] pos) (qhD ta):=by
 intro pins s σ H R I h
 refine Call_ (QO I hg hm boot_range (PyProof.Rows.callWith_type1 (thn (ha pos pins s σ H _ I h) fun us s1 ⟨vs,H1,I1,r1,q1⟩=>?_) hs rfl))
 obtain⟨j,e,q1,q2,q⟩:=q1
 subst e
 cases r1 with
 | cons r rr =>
  cases rr
  obtain⟨t,rfl⟩:=r
  exact call_range_1 (Ud I1 (by lia) (by lia) q1 q2 (by simpa using q))
theorem qbZ {a b:Expr}{ta:TA}{p pos:Pos} (hg:Gl X "range") (hm:X.mg "range"=none) (ha:PA X [a,b] ta) (hs:autoParam (starEach [a,b] X.env=[(false,eval a X.env),(false,eval b X.env)]) qt._auto_1) (hs2:autoParam (starEach [b] X.env=[(false,eval b X.env)]) qt._auto_1) :
  PI X tg (.Call (.Name "range" p) [a,b] [] pos) (qhT ta):=by
 intro pins s σ H R I h
 refine Call_ (QO I hg hm boot_range (PyProof.Rows.callWith_type1 (thn (ha pos pins s σ H _ I h) fun us s1 ⟨vs,H1,I1,r1,q1⟩=>?_) (by rw[hs,hs2]) (by rw[hs2];rfl)))
 obtain⟨i,j,e,⟨q1,q2,q3,q4⟩,q⟩:=q1
 subst e
 cases r1 with
 | cons r rr =>
  cases rr with
  | cons r' rr =>
   cases rr
   obtain⟨t,rfl⟩:=r
   obtain⟨t',rfl⟩:=r'
   exact call_range_2 (Ud I1 q1 q2 q3 q4 q)
noncomputable def qiy (wi:TI) (g:TG) (tb:TS):TS:=fun D σ H=>wi σ H fun J H1=>∃ W:Nat->Nat->St->Hp->Prop,(∃ m,W 0 m σ H1)/\∀ i m σ H,W i m σ H ->
 (J.stop i H/\D.nx σ H)\/(J.go i H/\∃ N:St->Hp->Prop,(∀ σ' H',N σ' H'->∃ m',m'<m/\W (i+1) m' σ' H')/\∀ x H',J.yld i H x H'->g x σ H' fun σ2 H2=>tb {D with nx:=N,ct:=N,bk:=D.nx} σ2 H2)
noncomputable def Wi (fp:List Addr) (h:Heap):List (Addr × Obj):=fp.filterMap fun b=>(h.get? b).map fun o=>(b,o)
theorem j0 {fp:List Addr}{h:Heap}{b:Addr}{o:Obj} (hb:b∈fp) (e:h.get? b=some o):(b,o)∈Wi fp h:=List.mem_filterMap.mpr ⟨b,hb,by rw[e];rfl⟩
theorem qbL {fp:List Addr}{h:Heap}{p:Addr × Obj} (hp:p∈Wi fp h):p.1∈fp/\h.get? p.1=some p.2:=by
 obtain⟨b,hb,e⟩:=List.mem_filterMap.mp hp
 cases q:h.get? b with
 | none=>rw[q] at e;cases e
 | some o =>
  rw[q] at e
  have e':(b,o)=p:=Option.some.inj e
  subst e'
  exact⟨hb,q⟩
theorem Inv.pinned {pins:List (Addr × Obj)}{σ:St}{H:Hp}{s:Shared}{fp:List Addr} (I:Inv X pins σ H s) (hf:∀ b∈fp,Q8 X pins H b) (ho:∀ b∈fp,∃ o,s.heap.get? b=some o/\∀ v,o.data ≠ .cell v):Inv X (pins++Wi fp s.heap) σ H s :=
 I.qaP fun p hp=>(List.mem_append.mp hp).elim (fun z=>I.pin p (List.mem_append_right _ z)) fun z=>by
  obtain⟨hb,e⟩:=qbL z
  obtain⟨f0,f1,f2,_⟩:=hf p.1 hb
  obtain⟨o,e',d⟩:=ho p.1 hb
  rw[e] at e';cases e'
  exact⟨e,f0,f1,f2,d⟩
theorem Inv.Qz {pins pl:List (Addr × Obj)}{σ:St}{H:Hp}{s:Shared} (I:Inv X (pins++pl) σ H s):Inv X pins σ H s:=I.qaP fun p hp=>I.pin p (List.mem_append_right _ (List.mem_append_left _ hp))
theorem qc4 {iter:Expr}{body:List Stmt}{wi:TI}{g:TG}{tb:TS}{pos:Pos} (hp:PassesOwn (model X.prog X.w) X.A X.env X.xe) (hc:X.calm=true) (hi:PI X tg iter wi) (hg:PG X tg g) (hb:PSs X body tb)
  (hs:autoParam (∀ x,foldedSetIterable iter X.env x=pure x) uQ._auto_1):PS X (.For tg iter body [] pos) (qiy wi g tb):=by
 intro pins s σ H D I h
 refine wpAny_For (thn (hi pins s σ H _ I h) fun v s1 h1=>thn h1 fun itv s2 h2=>?_) hs
 obtain⟨it,fp,tn,J,H2,e,I2,T,st2,f2,W,⟨m0,w0⟩,turn⟩:=h2
 subst e
 -- what stays true of the iterator's objects through the loop
 have stat:∀ {H':Hp},(∀ b∈fp,H' b=none)->∀ b∈fp,Q8 X pins H' b:=fun hn b hb=>⟨hn b hb,(f2 b hb).2⟩
 refine codeAny_forLoop_any (fun n s'=>∃ i σ' H',Inv X pins σ' H' s'/\tn i s'.heap/\(∀ b∈fp,H' b=none)/\W i n σ' H') ?_ m0 ⟨0,σ,H2,I2,st2,fun b hb=>(f2 b hb).1,w0⟩
 rintro n s3 ⟨i,σ3,H3,I3,st3,fr3,w3⟩
 rcases turn i n σ3 H3 w3 with ⟨stop,qn⟩ | ⟨go,N,hN,step⟩
 ·refine wpAny_passesOwn hp (thn (T.done X rfl rfl rfl hc i pins s3 σ3 H3 X.xe I3 (stat fr3) st3 stop) fun r s4 ⟨hr,I4⟩=>?_)
  subst hr
  exact wpAny_execs_nil ⟨σ3,H3,I4,qn⟩
 ·refine wpAny_passesOwn hp (thn (T.item X rfl rfl rfl hc i pins s3 σ3 H3 X.xe I3 (stat fr3) st3 go) fun r s4 ⟨u,hr,h4⟩=>?_)
  subst hr
  refine wpAny_passesOwn hp (thn h4 fun _ s5 ⟨x,H5,I5,r5,y5,st5,fr5⟩=>?_)
  have I5':=I5.pinned (stat fr5) (T.obj _ _ st5)
  refine wpAny_passesOwn hp (thn (hg _ s5 σ3 H5 x u _ I5' r5 (step x H5 y5)) fun _ s6 ⟨σ6,H6,I6,q6⟩=>?_)
  refine wpAny_passesOwn hp (thn (hb _ s6 σ6 H6 _ I6 q6) fun f s7 q7=>?_)
  have again:∀ {σ7:St}{H7:Hp},Inv X (pins++Wi fp s5.heap) σ7 H7 s7->N σ7 H7->∃ m,m<n/\∃ i σ' H',Inv X pins σ' H' s7/\tn i s7.heap/\(∀ b∈fp,H' b=none)/\W i m σ' H':=fun {σ7 H7} I7 n7=>by
   obtain⟨m',hm,w7⟩:=hN σ7 H7 n7
   refine⟨m',hm,i+1,σ7,H7,I7.Qz,T.keep _ _ _ st5 fun b hb o e=>(I7.pin (b,o) (List.mem_append_right _ (List.mem_append_right _ (j0 hb e)))).1,fun b hb=>?_,w7⟩
   obtain⟨o,e,d⟩:=T.obj _ _ st5 b hb
   exact (I7.pin (b,o) (List.mem_append_right _ (List.mem_append_right _ (j0 hb e)))).2.1
  cases f with
  | next=>obtain⟨σ7,H7,I7,n7⟩:=q7;exact again I7 n7
  | cont=>obtain⟨σ7,H7,I7,n7⟩:=q7;exact again I7 n7
  | brk=>obtain⟨σ7,H7,I7,q7⟩:=q7;exact⟨σ7,H7,I7.Qz,q7⟩
  | ret v=>obtain⟨x7,σ7,H7,I7,r7,q7⟩:=q7;exact⟨x7,σ7,H7,I7.Qz,r7,q7⟩
end
noncomputable abbrev R2:=V->V->Hp->VK->Prop
noncomputable def OpR (X:Cx) (f:Value->Value->Sem Value) (r:R2):Prop :=
 ∀ (pins:List (Addr × Obj)) (s:Shared) (σ:St) (H:Hp) (x y:V) (v u:Value) (Q:VK),Inv X pins σ H s->RelV x v->RelV y u->r x y H Q ->
  wpAny (model X.prog X.w) X.A (f v u) (EP X pins σ Q) X.xe s
noncomputable def UnR (X:Cx) (f:Value->Sem Value) (r:V->Hp->VK->Prop):Prop :=
 ∀ (pins:List (Addr × Obj)) (s:Shared) (σ:St) (H:Hp) (x:V) (v:Value) (Q:VK),Inv X pins σ H s->RelV x v->r x H Q ->
  wpAny (model X.prog X.w) X.A (f v) (EP X pins σ Q) X.xe s
noncomputable def Wu (X:Cx) (f:Value) (r:List V->Hp->VK->Prop):Prop :=
 ∀ (pins:List (Addr × Obj)) (s:Shared) (σ:St) (H:Hp) (xs:List V) (us:List Value) (Q:VK),Inv X pins σ H s->Vals xs us->r xs H Q ->
  wpAny (model X.prog X.w) X.A (call f us) (EP X pins σ Q) X.xe s
noncomputable def tOp (r:R2) (ta tb:TE):TE:=fun σ H Q=>ta σ H fun x H1=>tb σ H1 fun y H2=>r x y H2 Q
noncomputable def tUn (r:V->Hp->VK->Prop) (ta:TE):TE:=fun σ H Q=>ta σ H fun x H1=>r x H1 Q
noncomputable def rI (C:Int->Int->Prop) (g:Int->Int->V):R2:=fun x y H Q=>∃ i j,x = .int i/\y = .int j/\C i j/\Q (g i j) H
noncomputable def rI0 (g:Int->Int->V):R2:=fun x y H Q=>∃ i j,x = .int i/\y = .int j/\Q (g i j) H
noncomputable def rU (g:Int->V):V->Hp->VK->Prop:=fun x H Q=>∃ i,x = .int i/\Q (g i) H
section
variable {X:Cx}{a b c:Expr}{ta tb tc:TE}{pos:Pos}
theorem qgh (ha:PE X a ta) (hb:PE X b tb) {pins:List (Addr × Obj)}{s:Shared}{σ:St}{H:Hp}{R:V->V->Hp->Prop} (I:Inv X pins σ H s)
  (h:ta σ H fun x H1=>tb σ H1 fun y H2=>R x y H2) {Q:Value->Shared->Prop}{f:Value->Value->Sem Value}
  (hf:∀ v u s2 x y H2,Inv X pins σ H2 s2->RelV x v->RelV y u->R x y H2->wpAny (model X.prog X.w) X.A (f v u) Q X.xe s2) :
  wpAny (model X.prog X.w) X.A (eval a X.env) (fun v s₁=>wpAny (model X.prog X.w) X.A (eval b X.env) (fun u s₂=>wpAny (model X.prog X.w) X.A (f v u) Q X.xe s₂) X.xe s₁) X.xe s:=by
 refine thn (ha pins s σ H _ I h) fun v s1 ⟨x,H1,I1,r1,q1⟩=>?_
 refine thn (hb pins s1 σ H1 _ I1 q1) fun u s2 ⟨y,H2,I2,r2,q2⟩=>?_
 exact hf v u s2 x y H2 I2 r1 r2 q2
theorem qfW {op:Operator}{r:R2} (ho:OpR X (binaryOp op) r) (ha:PE X a ta) (hb:PE X b tb):PE X (.BinOp a op b pos) (tOp r ta tb):=by
 intro pins s σ H Q I h
 exact wpAny_BinOp (qgh ha hb I h fun v u s2 x y H2 I2 rx ry q=>ho pins s2 σ H2 x y v u Q I2 rx ry q)
theorem qfS {op:UnaryOp}{r:V->Hp->VK->Prop} (ho:UnR X (unaryOp op) r) (ha:PE X a ta):PE X (.UnaryOp op a pos) (tUn r ta):=by
 intro pins s σ H Q I h
 exact UnaryOp_ (thn (ha pins s σ H _ I h) fun v s1 ⟨x,H1,I1,r1,q1⟩=>ho pins s1 σ H1 x v Q I1 r1 q1)
theorem opI {f:Value->Value->Sem Value}{C:Int->Int->Prop}{g:Int->Int->Int}
  (rule:∀ (i j:Int) (t u:Tok) (s:Shared) (Q:Value->Shared->Prop) (E:Value->Shared->Prop),C i j->Q (.int (g i j) s.toks) {s with toks:=s.toks+1}->wpAny (model X.prog X.w) X.A (f (.int i t) (.int j u)) Q E s) :
  OpR X f (rI C fun i j=>.int (g i j)):=by
 intro pins s σ H x y v u Q I rx ry h
 obtain⟨i,j,rfl,rfl,hc,q⟩:=h
 obtain⟨t,rfl⟩:=rx
 obtain⟨t',rfl⟩:=ry
 exact rule i j t t' s _ _ hc ⟨.int (g i j),H,I.tok _,⟨_,rfl⟩,q⟩
theorem qeP {f:Value->Value->Sem Value}{g:Int->Int->Int}
  (rule:∀ (i j:Int) (t u:Tok) (s:Shared) (Q:Value->Shared->Prop) (E:Value->Shared->Prop),Q (.int (g i j) s.toks) {s with toks:=s.toks+1}->wpAny (model X.prog X.w) X.A (f (.int i t) (.int j u)) Q E s) :
  OpR X f (rI0 fun i j=>.int (g i j)):=by
 intro pins s σ H x y v u Q I rx ry h
 obtain⟨i,j,rfl,rfl,q⟩:=h
 obtain⟨t,rfl⟩:=rx
 obtain⟨t',rfl⟩:=ry
 exact rule i j t t' s _ _ ⟨.int (g i j),H,I.tok _,⟨_,rfl⟩,q⟩
theorem qey {f:Value->Value->Sem Value}{g:Int->Int->Bool}
  (rule:∀ (i j:Int) (t u:Tok) (s:Shared) (Q:Value->Shared->Prop) (E:Value->Shared->Prop),Q (.bool (g i j)) s->wpAny (model X.prog X.w) X.A (f (.int i t) (.int j u)) Q E s) :
  OpR X f (rI0 fun i j=>.bl (g i j)):=by
 intro pins s σ H x y v u Q I rx ry h
 obtain⟨i,j,rfl,rfl,q⟩:=h
 obtain⟨t,rfl⟩:=rx
 obtain⟨t',rfl⟩:=ry
 exact rule i j t t' s _ _ ⟨.bl (g i j),H,I,rfl,q⟩
theorem qaE (k:Nat):(0:Int) <= 2^k:=by
 rw[two_pow_cast]
 exact Int.natCast_nonneg _
theorem qg8:OpR X (binaryOp .Add) (rI0 fun i j=>.int (i+j)):=qeP fun _ _ _ _ _ _ _ q=>add_int q
theorem wX:OpR X (binaryOp .Sub) (rI0 fun i j=>.int (i-j)):=qeP fun _ _ _ _ _ _ _ q=>sub_int q
theorem JR:OpR X (binaryOp .Mod) (rI (fun _ j=>0<j) fun i j=>.int (i%j)):=opI fun i j _ _ _ _ _ hc q=>by
 have h1:(0:Int)<j:=hc
 exact mod_int' (by lia) (by rw[Int.fmod_eq_emod_of_nonneg i (by lia)];exact q)
theorem qan:OpR X (binaryOp .RShift) (rI (fun _ j=>0 <= j) fun i j=>.int (i / 2^j.toNat)):=opI fun i j _ _ _ _ _ hc q =>
 rshift_int hc (by rw[Int.fdiv_eq_ediv_of_nonneg i (qaE _)];exact q)
theorem qad:OpR X (binaryOp .BitAnd) (rI0 fun i j=>.int (Builtin.bitAnd i j)):=qeP fun _ _ _ _ _ _ _ q=>and_int q
theorem Xe:OpR X (binaryOp .BitXor) (rI0 fun i j=>.int (Builtin.bitXor i j)):=qeP fun _ _ _ _ _ _ _ q=>xor_int q
theorem unI {f:Value->Sem Value}{g:Int->Int}
  (rule:∀ (i:Int) (t:Tok) (s:Shared) (Q:Value->Shared->Prop) (E:Value->Shared->Prop),Q (.int (g i) s.toks) {s with toks:=s.toks+1}->wpAny (model X.prog X.w) X.A (f (.int i t)) Q E s) :
  UnR X f (rU fun i=>.int (g i)):=by
 intro pins s σ H x v Q I rx h
 obtain⟨i,rfl,q⟩:=h
 obtain⟨t,rfl⟩:=rx
 exact rule i t s _ _ ⟨.int (g i),H,I.tok _,⟨_,rfl⟩,q⟩
theorem qec:UnR X (unaryOp .USub) (rU fun i=>.int (-i)):=unI fun _ _ _ _ _ q=>neg_int q
end
noncomputable def qeh:V->V->Bool
 | .non,.non=>true | .non,.int _=>true | .int _,.non=>true | .non,.bl _=>true | .bl _,.non=>true | .non,.str _=>true | .str _,.non=>true
 | .int _,.int _=>true | .bl _,.bl _=>true | .str _,.str _=>true | .byt _,.byt _=>true
 | .int _,.str _=>true | .str _,.int _=>true | .bl _,.str _=>true | .str _,.bl _=>true
 | _,_=>false
noncomputable def rEq:R2:=fun x y H Q=>qeh x y=true/\Q (.bl (decide (x=y))) H
noncomputable def rNe:R2:=fun x y H Q=>qeh x y=true/\Q (.bl (!decide (x=y))) H
theorem VX {i j:Int}:decide (V.int i=V.int j)=(i==j):=by
 rw[Bool.eq_iff_iff]
 simp
theorem Y1 {i j:Bool}:decide (V.bl i=V.bl j)=(i==j):=by
 rw[Bool.eq_iff_iff]
 simp
theorem qbk {i j:Str}:decide (V.str i=V.str j)=(i==j):=by
 rw[Bool.eq_iff_iff]
 simp
theorem qbp {i j:Array UInt8}:decide (V.byt i=V.byt j)=(i.toList==j.toList):=by
 rw[Bool.eq_iff_iff]
 cases i
 cases j
 simp
section
variable {X:Cx}{a b c:Expr}{ta tb tc:TE}{pos:Pos}
theorem vB {pins:List (Addr × Obj)}{σ:St}{H:Hp}{s:Shared}{Q:VK}{k k':Bool} (I:Inv X pins σ H s) (q:Q (.bl k) H) (e:k=k'):EP X pins σ Q (.bool k') s:=by
 subst e
 exact⟨.bl k,H,I,rfl,q⟩
theorem qhZ:OpR X (compareOp .Eq) rEq:=by
 intro pins s σ H x y v u Q I rx ry h
 obtain⟨hs,q⟩:=h
 cases x with
 | non =>
  cases rx
  cases y with
  | non=>cases ry;exact PySem.EqNone.eq_none_none (vB I q (by simp))
  | bl j=>cases ry;exact PySem.EqNone.eq_none_bool (vB I q (by simp))
  | int j=>obtain⟨t',rfl⟩:=ry;exact PySem.EqNone.eq_none_int (vB I q (by simp))
  | str j=>obtain⟨t',rfl⟩:=ry;exact PySem.EqNone.eq_none_str (vB I q (by simp))
  | _=>exact absurd (show false=true from hs) Bool.false_ne_true
 | bl i =>
  cases rx
  cases y with
  | non=>cases ry;exact PySem.EqNone.eq_bool_none (vB I q (by simp))
  | bl j=>cases ry;exact eq_bool (vB I q Y1)
  | str j=>obtain⟨t',rfl⟩:=ry;exact PySem.EqMixed.eq_bool_str (vB I q (by simp))
  | _=>exact absurd (show false=true from hs) Bool.false_ne_true
 | int i =>
  obtain⟨t,rfl⟩:=rx
  cases y with
  | non=>cases ry;exact PySem.EqNone.eq_int_none (vB I q (by simp))
  | int j=>obtain⟨t',rfl⟩:=ry;exact eq_int (vB I q VX)
  | str j=>obtain⟨t',rfl⟩:=ry;exact PySem.EqMixed.eq_int_str (vB I q (by simp))
  | _=>exact absurd (show false=true from hs) Bool.false_ne_true
 | str i =>
  obtain⟨t,rfl⟩:=rx
  cases y with
  | non=>cases ry;exact PySem.EqNone.eq_str_none (vB I q (by simp))
  | bl j=>cases ry;exact PySem.EqMixed.eq_str_bool (vB I q (by simp))
  | int j=>obtain⟨t',rfl⟩:=ry;exact PySem.EqMixed.eq_str_int (vB I q (by simp))
  | str j=>obtain⟨t',rfl⟩:=ry;exact eq_str (vB I q qbk)
  | _=>exact absurd (show false=true from hs) Bool.false_ne_true
 | byt i =>
  obtain⟨t,rfl⟩:=rx
  cases y with
  | byt j=>obtain⟨t',rfl⟩:=ry;exact PySem.W.eq_bytes (vB I q qbp)
  | _=>exact absurd (show false=true from hs) Bool.false_ne_true
 | _=>cases y <;> exact absurd (show false=true from hs) Bool.false_ne_true
theorem qhX:OpR X (compareOp .NotEq) rNe:=by
 intro pins s σ H x y v u Q I rx ry h
 obtain⟨hs,q⟩:=h
 cases x with
 | non =>
  cases rx
  cases y with
  | non=>cases ry;exact PySem.EqNone.ne_none_none (vB I q (by simp))
  | bl j=>cases ry;exact PySem.EqNone.ne_none_bool (vB I q (by simp))
  | int j=>obtain⟨t',rfl⟩:=ry;exact PySem.EqNone.ne_none_int (vB I q (by simp))
  | str j=>obtain⟨t',rfl⟩:=ry;exact PySem.EqNone.ne_none_str (vB I q (by simp))
  | _=>exact absurd (show false=true from hs) Bool.false_ne_true
 | bl i =>
  cases rx
  cases y with
  | non=>cases ry;exact PySem.EqNone.ne_bool_none (vB I q (by simp))
  | bl j=>cases ry;exact ne_bool (vB I q (congrArg not Y1))
  | str j=>obtain⟨t',rfl⟩:=ry;exact PySem.EqMixed.ne_bool_str (vB I q (by simp))
  | _=>exact absurd (show false=true from hs) Bool.false_ne_true
 | int i =>
  obtain⟨t,rfl⟩:=rx
  cases y with
  | non=>cases ry;exact PySem.EqNone.ne_int_none (vB I q (by simp))
  | int j=>obtain⟨t',rfl⟩:=ry;exact ne_int (vB I q (congrArg not VX))
  | str j=>obtain⟨t',rfl⟩:=ry;exact PySem.EqMixed.ne_int_str (vB I q (by simp))
  | _=>exact absurd (show false=true from hs) Bool.false_ne_true
 | str i =>
  obtain⟨t,rfl⟩:=rx
  cases y with
  | non=>cases ry;exact PySem.EqNone.ne_str_none (vB I q (by simp))
  | bl j=>cases ry;exact PySem.EqMixed.ne_str_bool (vB I q (by simp))
  | int j=>obtain⟨t',rfl⟩:=ry;exact PySem.EqMixed.ne_str_int (vB I q (by simp))
  | str j=>obtain⟨t',rfl⟩:=ry;exact ne_str (vB I q (congrArg not qbk))
  | _=>exact absurd (show false=true from hs) Bool.false_ne_true
 | byt i =>
  obtain⟨t,rfl⟩:=rx
  cases y with
  | byt j=>obtain⟨t',rfl⟩:=ry;exact PySem.W.ne_bytes (vB I q (congrArg not qbp))
  | _=>exact absurd (show false=true from hs) Bool.false_ne_true
 | _=>cases y <;> exact absurd (show false=true from hs) Bool.false_ne_true
theorem Yw:OpR X (compareOp .Lt) (rI0 fun i j=>.bl (decide (i<j))):=qey fun _ _ _ _ _ _ _ q=>lt_int q
theorem qhx:OpR X (compareOp .LtE) (rI0 fun i j=>.bl (decide (i <= j))):=qey fun _ _ _ _ _ _ _ q=>le_int q
theorem qc2:OpR X (compareOp .Gt) (rI0 fun i j=>.bl (decide (j<i))):=qey fun _ _ _ _ _ _ _ q=>gt_int q
theorem qh9:OpR X (compareOp .GtE) (rI0 fun i j=>.bl (decide (j <= i))):=qey fun _ _ _ _ _ _ _ q=>ge_int q
theorem OpR.or {f:Value->Value->Sem Value}{r r':R2} (h:OpR X f r) (h':OpR X f r'):OpR X f (fun x y H Q=>r x y H Q\/r' x y H Q):=by
 intro pins s σ H x y v u Q I rx ry q
 rcases q with q | q
 ·exact h pins s σ H x y v u Q I rx ry q
 ·exact h' pins s σ H x y v u Q I rx ry q
theorem vU (b:Expr) {op:CmpOp} (h:autoParam (op ≠ .In) vh._auto_1) (h2:autoParam (op ≠ .NotIn) vh._auto_1):behindInMarks op b=false:=by
 have e1:(op==CmpOp.In)=false:=by cases op <;> first | rfl | exact absurd rfl h
 have e2:(op==CmpOp.NotIn)=false:=by cases op <;> first | rfl | exact absurd rfl h2
 cases b <;> simp [behindInMarks,e1,e2]
theorem qfK {op:CmpOp}{r:R2} (ho:OpR X (compareOp op) r) (ha:PE X a ta) (hb:PE X b tb) (hm:behindInMarks op b=false):PE X (.Compare a [op] [b] pos) (tOp r ta tb):=by
 intro pins s σ H Q I h
 exact wpAny_Compare1 (qgh ha hb I h fun v u s2 x y H2 I2 rx ry q=>ho pins s2 σ H2 x y v u Q I2 rx ry q) hm
noncomputable def qhO (t:TE):TT:=fun σ H Q=>t σ H fun x H'=>∃ k,x = .bl k/\Q k H'
theorem qfD {op:CmpOp}{r:R2} (ho:OpR X (compareOp op) r) (ha:PE X a ta) (hb:PE X b tb) (hm:behindInMarks op b=false):PT X (.Compare a [op] [b] pos) (qhO (tOp r ta tb)):=by
 intro pins s σ H Q I h
 refine wpAny_isTrue_Compare1 (thn (ha pins s σ H _ I h) fun v s1 ⟨x,H1,I1,r1,q1⟩=>thn (hb pins s1 σ H1 _ I1 q1) fun u s2 ⟨y,H2,I2,r2,q2⟩ =>
  thn (ho pins s2 σ H2 x y v u _ I2 r1 r2 q2) fun c s3 ⟨z,H3,I3,r3,k,e,q3⟩=>?_) hm
 subst e
 cases r3
 exact wpAny_truthy_bool ⟨H3,I3,q3⟩
theorem Xu:(sizeLine:Nat)<2^63:=by rw[sizeLine_eq];decide
theorem vals1 {x:V}{us:List Value} (r:Vals [x] us):∃ u,us=[u]/\RelV x u:=by
 cases r with
 | cons r1 r2=>cases r2;exact⟨_,rfl,r1⟩
theorem vals2 {x y:V}{us:List Value} (r:Vals [x,y] us):∃ u w',us=[u,w']/\RelV x u/\RelV y w':=by
 cases r with
 | cons r1 r2 =>
  cases r2 with
  | cons r3 r4=>cases r4;exact⟨_,_,rfl,r1,r3⟩
theorem qdp:Wu X (.builtin "abs") (fun xs H Q=>∃ i,xs=[.int i]/\Q (.int (if i<0 then -i else i)) H):=by
 intro pins s σ H xs us Q I r h
 obtain⟨i,rfl,q⟩:=h
 obtain⟨u,rfl,t,rfl⟩:=vals1 r
 exact call_abs_int fun u tk=>⟨.int (if i<0 then -i else i),H,I.tok _,⟨_,rfl⟩,q⟩
theorem YG (hc:X.calm=true):Wu X (.builtin "max") (fun xs H Q=>∃ i j,xs=[.int i,.int j]/\Q (.int (if j>i then j else i)) H):=by
 intro pins s σ H xs us Q I r h
 obtain⟨i,j,rfl,q⟩:=h
 obtain⟨u,w',rfl,⟨t,rfl⟩,⟨t',rfl⟩⟩:=vals2 r
 refine max_two_ints (I.ok.hd hc) fun h' tk k=>⟨_,H,I.kept k,?_,q⟩
 by_cases hj:j>i
 ·rw[if_pos hj,if_pos hj];exact⟨_,rfl⟩
 ·rw[if_neg hj,if_neg hj];exact⟨_,rfl⟩
theorem Yg (hc:X.calm=true):Wu X (.builtin "min") (fun xs H Q=>∃ i j,xs=[.int i,.int j]/\Q (.int (if j<i then j else i)) H):=by
 intro pins s σ H xs us Q I r h
 obtain⟨i,j,rfl,q⟩:=h
 obtain⟨u,w',rfl,⟨t,rfl⟩,⟨t',rfl⟩⟩:=vals2 r
 refine min_two_ints (I.ok.hd hc) fun h' tk k=>⟨_,H,I.kept k,?_,q⟩
 by_cases hj:j<i
 ·rw[if_pos hj,if_pos hj];exact⟨_,rfl⟩
 ·rw[if_neg hj,if_neg hj];exact⟨_,rfl⟩
end
structure qct (h:Heap) (x dx C:Addr) (mA:Str->Option Value):Prop where
 obj:h.get? x=some (PySem.W.instObj C dx)
 ns:h.Ns1 dx mA
 ne:dx≠x
theorem qcf {h:Heap}{dx:Addr}{mA:Str->Option Value} (n:h.Ns1 dx mA):∃ od,h.get? dx=some od/\∀ name,PySem.W.lookIn name od=some (mA name):=by
 obtain⟨o,es,ep,ho,hd,hk,_,hm⟩:=n
 refine⟨o,ho,fun name=>?_⟩
 have e:=hm name
 unfold nsFind findBy at e
 rw[<- Array.find?_toList] at e
 unfold PySem.W.lookIn
 rw[hd]
 dsimp only
 split
 ·rename_i y q
  rw[q] at e
  exact congrArg some e
 ·rename_i q
  rw[q] at e
  have a:es.toList.any (·.refKey)=false:=by
   rw[List.any_eq_false]
   intro y hy
   obtain⟨z,t,hkey⟩:=hk y (Array.mem_toList_iff.mp hy)
   simp [DictEntry.refKey,hkey]
  have a':¬ es.toList.any (·.refKey)=true:=by rw[a];exact Bool.false_ne_true
  rw[if_neg a']
  exact congrArg some e
theorem qct.look {h:Heap}{x dx C:Addr}{mA:Str->Option Value} (I:qct h x dx C mA):∃ od,PySem.W.InstAt h x (PySem.W.instObj C dx) C (some od)/\∀ name,PySem.W.lookIn name od=some (mA name) :=
 let ⟨od,ho,hl⟩:=qcf I.ns
 ⟨od,⟨I.obj,rfl,rfl,ho⟩,hl⟩
section
variable {prog:Program}{w:World}{A:Around}{E:Value->Shared->Prop}{s:Shared}{K:PySem.W.Frag}{x dx C f:Addr}{mA:Str->Option Value}{name:Str}{v:Value}
theorem get_map {expr:Bool}{Q:Value->Shared->Prop} (X:K.In s.heap) (I:qct s.heap x dx C mA) (hg:PySem.W.plainGet K C name=true) (hh:PySem.W.hasDictIn K C=true)
  (ha:PySem.W.findIn K (.ref C) name=some none) (hv:mA name=some v) (hv':PySem.W.handedIn v=true) (h:Q v {s with toks:=s.toks+1}) :
  wpAny (model prog w) A (getAttr (.ref x) name expr) Q E s:=by
 obtain⟨od,J,hl⟩:=I.look
 exact PySem.W.get_value X J (PySem.W.plainGet_of hg).1 (PySem.W.findObj_own hh ha rfl (by rw[hl,hv])) hv' h
theorem qeX {ns:List Str}{Q:Unit->Shared->Prop} (X:K.In s.heap) (I:qct s.heap x dx C mA)
  (hs:PySem.W.findIn K (.ref C) "__setattr__"=some (some (.builtin "object.__setattr__"))) (hp:PySem.W.plainOver K C=true) (ht:PySem.W.takerIn K C name=some none) (hh:PySem.W.hasDictIn K C=true)
  (hw:PySem.Within mA ns) (hsz:ns.length <= sizeLine)
  (h:∀ h',qct h' x dx C (fun y=>if y=name then some v else mA y)->Heap.SameBut dx s.heap h'->Q () {s with heap:=h',toks:=s.toks+2}) :
  wpAny (model prog w) A (setAttr (.ref x) name v) Q E s:=by
 obtain⟨od,J,hl⟩:=I.look
 refine PySem.W.set_plain X J hs (PySem.W.osa_open (s:={s with toks:=s.toks+1}) (r:=none) X J hp ht fun b=>?_)
 obtain⟨cd,hc,hd'⟩:=PySem.W.any_some hh
 have hx:s.heap.get? x=some ⟨.ref C,some dx,.plain,#[]⟩:=I.obj
 refine wpAny_bind (wpAny_pure (wpAny_bind (wpAny_bind (wpAny_loadPart hx (wpAny_bind (PySem.W.Looks.here (s:={s with toks:=s.toks+1}) (PySem.W.looks_clsIn X hc) ?_))))))
 rw[hd']
 refine wpAny_pure (a:=some dx) (wpAny_bind (wpAny_pure (wpAny_bind ?_)))
 refine wpAny_nsSet1 (s:={s with toks:=s.toks+1}) I.ns fun h' hn2 hs2=>?_
 obtain⟨oD,esD,epD,hoD,hdD,hcD⟩:=hn2.count (PySem.Within.cons name v hw)
 refine wpAny_bind (wpAny_lookBehind hoD (by rw[hdD];exact pastItsLine_dict (Nat.le_trans hcD (by rw[List.length_cons];lia))) ?_)
 exact wpAny_pure (h _ ⟨(hs2.2 _ (Ne.symm I.ne)).trans I.obj,hn2,I.ne⟩ hs2)
theorem qdA {R:Result->Shared->Prop}{vs:List Value}{kw:List (Str × Value)} (X:K.In s.heap) (hm:PySem.W.makesIn K C=true)
  (hi:PySem.W.findIn K (.ref C) "__init__"=some (some (.ref f))) (hf:PySem.W.typeIn K (.ref f)=some (.type "function"))
  (h:codeAny (model prog w) (A.under (.builtin "type.__call__" ⟨.ref C::vs,kw⟩)) (.call (.ref f) ⟨.ref (s.heap.objs.size+1)::vs,kw⟩) (PySem.W.InitBack (s.heap.objs.size+1) R)
   {s with heap:=(s.heap.push PySem.W.emptyDict).push (PySem.W.instObj C s.heap.objs.size)}) :
  codeAny (model prog w) A (.call (.ref C) ⟨vs,kw⟩) R s:=by
 obtain⟨hh,g,d,t,os⟩:=s
 exact PySem.W.make_core (PySem.W.makes_of X hm) (PySem.W.looks_findIn X hi) (fun self=>PySem.W.bind_fn X self hf) (.inl rfl) h
end
noncomputable def xX (f:Str) (v:V):List (Str × V)->List (Str × V)
 | []=>[(f,v)]
 | (g,x)::r=>if g=f then (g,v)::r else (g,x)::xX f v r
theorem Vm (f g:Str) (v:V):∀ fs:List (Str × V),(xX f v fs).lookup g=if g=f then some v else fs.lookup g
 | []=>by
  show List.lookup g [(f,v)]=_
  by_cases h:g=f
  ·have hb:(g==f)=true:=beq_iff_eq.mpr h
   simp only[List.lookup,hb,if_pos h]
  ·have hb:(g==f)=false:=beq_eq_false_iff_ne.mpr h
   simp only[List.lookup,hb,if_neg h]
 | (k,x)::r=>by
  have ih:=Vm f g v r
  rw[show xX f v ((k,x)::r)=(if k=f then (k,v)::r else (k,x)::xX f v r) from rfl]
  by_cases hk:k=f
  ·rw[if_pos hk]
   by_cases h:g=k
   ·have hb:(g==k)=true:=beq_iff_eq.mpr h
    simp only[List.lookup,hb,if_pos (h.trans hk)]
   ·have hb:(g==k)=false:=beq_eq_false_iff_ne.mpr h
    simp only[List.lookup,hb,if_neg (fun e:g=f=>h (e.trans hk.symm))]
  ·rw[if_neg hk]
   by_cases h:g=k
   ·have hb:(g==k)=true:=beq_iff_eq.mpr h
    simp only[List.lookup,hb,if_neg (fun e:g=f=>hk (h.symm.trans e))]
   ·have hb:(g==k)=false:=beq_eq_false_iff_ne.mpr h
    simp only[List.lookup,hb]
    exact ih
theorem QL (f:Str) (v:V):∀ fs:List (Str × V),f∈(xX f v fs).map (·.1)/\∀ g,g∈fs.map (·.1)->g∈(xX f v fs).map (·.1)
 | []=>⟨by simp [xX],fun g h=>by simp at h⟩
 | (k,x)::r=>by
  obtain⟨i1,i2⟩:=QL f v r
  rw[show xX f v ((k,x)::r)=(if k=f then (k,v)::r else (k,x)::xX f v r) from rfl]
  by_cases hk:k=f
  ·rw[if_pos hk]
   subst hk
   exact⟨by simp,fun g h=>by simpa using h⟩
  ·rw[if_neg hk]
   refine⟨?_,fun g h=>?_⟩
   ·rw[List.map_cons]
    exact List.mem_cons_of_mem _ i1
   ·rw[List.map_cons] at h ⊢
    rcases List.mem_cons.mp h with e | e
    ·exact List.mem_cons.mpr (.inl e)
    ·exact List.mem_cons_of_mem _ (i2 g e)
theorem Vd (f:Str) (v:V):∀ fs:List (Str × V),(xX f v fs).length <= fs.length+1
 | []=>by simp [xX]
 | (k,x)::r=>by
  have ih:=Vd f v r
  rw[show xX f v ((k,x)::r)=(if k=f then (k,v)::r else (k,x)::xX f v r) from rfl]
  by_cases hk:k=f
  ·rw[if_pos hk,List.length_cons,List.length_cons];lia
  ·rw[if_neg hk,List.length_cons,List.length_cons];lia
theorem JM.some_of {v:V}{o:Option Value} (r:JM (some v) o):∃ u,o=some u/\RelV v u:=by
 cases o with
 | none=>exact (show False from r).elim
 | some u=>exact⟨u,rfl,r⟩
theorem qcb {v:V}{u:Value} (r:RelV v u):PySem.W.handedIn u=true:=by
 cases v with
 | non=>cases (show u=Value.none from r);rfl
 | bl b=>cases (show u=Value.bool b from r);rfl
 | int i=>obtain⟨t,e⟩:=(show ∃ t,u=Value.int i t from r);cases e;rfl
 | str x=>obtain⟨t,e⟩:=(show ∃ t,u=Value.str x t from r);cases e;rfl
 | byt b=>obtain⟨t,e⟩:=(show ∃ t,u=Value.bytes b t from r);cases e;rfl
 | flt b=>obtain⟨t,e⟩:=(show ∃ t,u=Value.float b t from r);cases e;rfl
 | ref a=>cases (show u=Value.ref a from r);rfl
 | ty n=>cases (show u=Value.type n from r);rfl
section
variable {P:Program}{w:World}{H H':Hp}{h h':Heap}{a C dx:Addr}{fs fs':List (Str × V)}
theorem qbb (hok:HOk P w H h) (e:H a=some (.ins C dx fs)):∃ mA,qct h a dx C mA/\(∀ f,JM (fs.lookup f) (mA f))/\PySem.Within mA (fs.map (·.1))/\fs.length <= 1000/\H dx=some (.own a):=by
 obtain⟨d,z,ne,ob,mA,n,r,q⟩:=(show yd P w H h a (.ins C dx fs) from hok a _ e)
 exact⟨mA,⟨ob,n,ne⟩,r,q,z,d⟩
end
structure Cls (K:PySem.W.Frag) (C:Addr):Prop where
 pg:PySem.W.plainGet K C Str.empty=true
 hd:PySem.W.hasDictIn K C=true
 po:PySem.W.plainOver K C=true
 sa:PySem.W.findIn K (.ref C) "__setattr__"=some (some (.builtin "object.__setattr__"))
theorem Cls.get {K:PySem.W.Frag}{C:Addr} (c:Cls K C) (f:Str):PySem.W.plainGet K C f=true:=c.pg
noncomputable def qN (K:PySem.W.Frag) (C:Addr) (f:Str):Prop:=PySem.W.findIn K (.ref C) f=some none
theorem qN.qhE {K:PySem.W.Frag}{C:Addr}{f:Str} (n:qN K C f):PySem.W.takerIn K C f=some none:=by
 unfold PySem.W.takerIn
 rw[show PySem.W.findIn K (.ref C) f=some none from n]
 rfl
section
variable {X:Cx}{pins:List (Addr × Obj)}{σ:St}{H:Hp}{s:Shared}{a C dx:Addr}{fs:List (Str × V)}{f:Str}{v:V}{A:Around}{E:Value->Shared->Prop}
theorem qaa {b:Bool}{Q:Value->Shared->Prop} (I:Inv X pins σ H s) (e:H a=some (.ins C dx fs)) (c:Cls X.K C) (n:qN X.K C f) (l:fs.lookup f=some v)
  (h:∀ u s',Inv X pins σ H s'->RelV v u->Q u s'):wpAny (model X.prog X.w) A (getAttr (.ref a) f b) Q E s:=by
 obtain⟨mA,O,r,_,_,_⟩:=qbb I.hok e
 obtain⟨u,hu,ru⟩:=JM.some_of (v:=v) (o:=mA f) (by rw[<- l];exact r f)
 exact get_map I.kIn O (c.get f) c.hd n hu (qcb ru) (h u _ (I.tok _) ru)
theorem qaG {y:V}{u:Value}{Q:Unit->Shared->Prop} (I:Inv X pins σ H s) (e:H a=some (.ins C dx fs)) (c:Cls X.K C) (n:qN X.K C f) (hl:fs.length<1000) (ry:RelV y u)
  (h:∀ s',Inv X pins σ (upd H a (.ins C dx (xX f y fs))) s'->Q () s'):wpAny (model X.prog X.w) A (setAttr (.ref a) f u) Q E s:=by
 obtain⟨mA,O,r,wi,_,ho⟩:=qbb I.hok e
 have hz:(fs.map (·.1)).length <= sizeLine:=by rw[List.length_map,sizeLine_eq];lia
 refine qeX I.kIn O c.sa c.po n.qhE c.hd wi hz fun h' O' sb=>h _ ?_
 have hd:∃ o,h'.get? dx=some o:=let ⟨o,_,_,e',_⟩:=O'.ns;⟨o,e'⟩
 refine I.write (x:=a) (e:=dx) (by rw[e];exact True.intro) (.inr ho) (fun b q hb z=>(sb.2 b hb).trans z) hd ?_
 refine⟨by rw[qD O.ne];exact ho,?_,O.ne,O'.obj,_,O'.ns,fun g=>?_,fun g hg=>?_⟩
 ·have:=Vd f y fs;lia
 ·show JM ((xX f y fs).lookup g) (if g=f then some u else mA g)
  rw[Vm]
  by_cases q:g=f
  ·rw[if_pos q,if_pos q];exact ry
  ·rw[if_neg q,if_neg q];exact r g
 ·by_cases q:g=f
  ·rw[q];exact (QL f y fs).1
  ·refine (QL f y fs).2 g (wi g fun z=>hg ?_)
   show (if g=f then some u else mA g)=none
   rw[if_neg q];exact z
theorem Inv.made (I:Inv X pins σ H s):Inv X pins σ (upd (upd H s.heap.objs.size (.own (s.heap.objs.size+1))) (s.heap.objs.size+1) (.ins C s.heap.objs.size []))
  {s with heap:=(s.heap.push PySem.W.emptyDict).push (PySem.W.instObj C s.heap.objs.size)}:=by
 have e1:(s.heap.push PySem.W.emptyDict).get? s.heap.objs.size=some PySem.W.emptyDict:=Heap.get?_push_size s.heap rfl
 have e2:((s.heap.push PySem.W.emptyDict).push (PySem.W.instObj C s.heap.objs.size)).get? (s.heap.objs.size+1)=some (PySem.W.instObj C s.heap.objs.size):=by
  have:=Heap.get?_push_size (s.heap.push PySem.W.emptyDict) (o:=PySem.W.instObj C s.heap.objs.size) rfl
  rwa [Heap.size_push] at this
 have e3:(s.heap.push PySem.W.emptyDict).Ns s.heap.objs.size (fun _=>none):=⟨PySem.W.emptyDict,#[],_,e1,rfl,(fun e he=>absurd he (by simp)),fun _=>rfl⟩
 have I1:=I.laid (a:=s.heap.objs.size) (o:=.own (s.heap.objs.size+1)) (h':=s.heap.push PySem.W.emptyDict) (t':=s.toks) (fun b u q=>Heap.get?_push_of_some _ q) (Nat.le_refl _) ⟨_,e1⟩
 refine I1.laid (a:=s.heap.objs.size+1) (o:=.ins C s.heap.objs.size []) (t':=s.toks) (fun b u q=>Heap.get?_push_of_some _ q) (Nat.le_of_eq (Heap.size_push _ _)) ?_
 have ne:s.heap.objs.size≠s.heap.objs.size+1:=Nat.ne_of_lt (Nat.lt_succ_self _)
 refine⟨by rw[qD ne,qV],Nat.zero_le _,ne,e2,fun _=>none,(Heap.Ns1.of_empty e3).at fun o q=>Heap.get?_push_of_some _ q,fun _=>True.intro,fun y hy=>absurd rfl hy⟩
theorem qe9 {prog:Program}{w:World}{env:Env}{e:Expr}{f:Str}{pos:Pos}{s:Shared}{Q:Value->Shared->Prop} (hb:attributeBase e f env (eval e env)=eval e env)
  (h:wpAny (model prog w) A (eval e env) (fun o s₁=>wpAny (model prog w) A (getAttr o f true) Q E s₁) E s):wpAny (model prog w) A (eval (.Attribute e f pos) env) Q E s :=
 Attribute_any_ h (by rw[arm_eval_Attribute,hb])
end
noncomputable def qil (K:PySem.W.Frag) (ta:TE) (f:Str):TE:=fun σ H Q=>ta σ H fun x H1=>∃ a C dx fs v,x = .ref a/\H1 a=some (.ins C dx fs)/\Cls K C/\qN K C f/\fs.lookup f=some v/\Q v H1
noncomputable def qiG (K:PySem.W.Frag) (ta tv:TE) (f:Str):TS:=fun D σ H=>tv σ H fun y H1=>ta σ H1 fun x H2=>∃ a C dx fs,x = .ref a/\H2 a=some (.ins C dx fs)/\Cls K C/\qN K C f/\fs.length<1000 /\
 D.nx σ (upd H2 a (.ins C dx (xX f y fs)))
section
variable {X:Cx}{o e value:Expr}{f:Str}{pos pos' tpos:Pos}{ta tv:TE}
theorem qc7 (he:PE X e ta) (hb:attributeBase e f X.env (eval e X.env)=eval e X.env):PE X (.Attribute e f pos) (qil X.K ta f):=by
 intro pins s σ H Q I h
 refine qe9 hb (thn (he pins s σ H _ I h) fun u s1 ⟨x,H1,I1,rx,a,C,dx,fs,v,ex,ea,c,n,l,q⟩=>?_)
 subst ex
 obtain rfl:u=Value.ref a:=rx
 exact qaa I1 ea c n l fun u' s2 I2 ru=>⟨v,H1,I2,ru,q⟩
theorem JN (ha:PE X o ta) (hv:PE X value tv) (hs:swapsWith value (some (.Attribute o f pos')) pos.line X.env=pure false):PS X (.Assign [.Attribute o f pos'] value pos) (qiG X.K ta tv f):=by
 intro pins s σ H D I h
 refine plainObj_wpAny_Assign_Attribute (thn (hv pins s σ H _ I h) fun u s1 ⟨y,H1,I1,ry,q⟩=>thn (ha pins s1 σ H1 _ I1 q) fun ov s2 ⟨x,H2,I2,rx,a,C,dx,fs,ex,ea,c,n,l,q2⟩=>?_) hs
 subst ex
 obtain rfl:ov=Value.ref a:=rx
 exact qaG I2 ea c n l ry fun s3 I3=>⟨σ,_,I3,q2⟩
end
structure zi (k:Nat) (A:Around):Prop where
 hd:A.handled=none
 dp:A.depth+3*k+5<recursionLimit
 un:A.units+16*k+200<cLine
theorem zi.mono {j k:Nat}{A:Around} (r:zi k A) (h:j <= k):zi j A:=⟨r.hd,by have:=r.dp;lia,by have:=r.un;lia⟩
theorem zi.deeper {k:Nat}{A:Around} (r:zi (k+1) A) (env:Env):zi k (A.deeper env) :=
 ⟨r.hd,by have:=r.dp;show A.depth+1+3*k+5<_;lia,by have:=r.un;show A.units+3+16*k+200<_;lia⟩
theorem Jl {A:Around}{C:Addr}{us:List Value}{kw:List (Str × Value)}:(A.under (.builtin "type.__call__" ⟨.ref C::us,kw⟩)).depth=A.depth+1:=by
 first | rfl | simp [Around.under,Code.weight,Code.isCreation,Code.isGuard,Code.isCaller,Code.frames,Code.isFrame,guardIds]
theorem JI {A:Around}{C:Addr}{us:List Value}{kw:List (Str × Value)}:(A.under (.builtin "type.__call__" ⟨.ref C::us,kw⟩)).units=A.units+1:=by
 first | rfl | simp [Around.under,Code.cUnits,Code.frames,Code.isFrame]
theorem zi.make {k:Nat}{A:Around} (r:zi (k+1) A) (C:Addr) (us:List Value) (kw:List (Str × Value)):zi k (A.under (.builtin "type.__call__" ⟨.ref C::us,kw⟩)) :=
 ⟨r.hd,by have:=r.dp;rw[Jl];lia,by have:=r.un;rw[JI];lia⟩
theorem zi.depth {k:Nat}{A:Around} (r:zi k A):A.depth<recursionLimit:=by have:=r.dp;lia
theorem zi.units {k:Nat}{A:Around} (r:zi k A):A.units+64<cLine:=by have:=r.un;lia
noncomputable def qhk:TA:=fun _ H Q=>Q [] H
noncomputable def qei (ta:TE) (tr:TA):TA:=fun σ H Q=>ta σ H fun x H1=>tr σ H1 fun xs H2=>Q (x::xs) H2
section
variable {X:Cx}{e:Expr}{es:List Expr}{te:TE}{t:TA}{pos:Pos}
theorem xp:PA X [] qhk:=fun _ _ _ _ H Q I h=>Calls.spliced_nil ⟨[],H,I,.nil,h⟩
theorem zm (ha:PE X e te) (hr:PA X es t) (hs:autoParam (starEach (e::es) X.env=(false,eval e X.env)::starEach es X.env) qt._auto_1):PA X (e::es) (qei te t):=by
 intro pos pins s σ H Q I h
 rw[hs]
 show wpAny _ _ (spliced ((false,eval e X.env)::backTo pos (starEach es X.env))) _ _ s
 refine Calls.spliced_cons (thn (ha pins s σ H _ I h) fun u s1 ⟨x,H1,I1,r1,q1⟩=>?_)
 exact thn (hr pos pins s1 σ H1 _ I1 q1) fun us s2 ⟨xs,H2,I2,r2,q2⟩=>⟨x::xs,H2,I2,.cons r1 r2,q2⟩
noncomputable def qhQ (t:TA):TE:=fun σ H Q=>t σ H fun xs H1=>xs.length <= sizeLine/\∀ p,H1 p=none->Q (.ref p) (upd H1 p (.lst xs))
theorem Y8 (h:PA X es t):PE X (.List es pos) (qhQ t):=by
 intro pins s σ H Q I hq
 refine wpAny_List_spliced (thn (h pos pins s σ H _ I hq) fun us s1 ⟨xs,H1,I1,r,z,q⟩=>⟨by rw[<- r.length];exact z,?_⟩)
 have hf:H1 s1.heap.objs.size=none:=I1.hok.fresh (Nat.le_refl _)
 refine⟨.ref s1.heap.objs.size,upd H1 s1.heap.objs.size (.lst xs),I1.laid (t':=s1.toks) (fun b u e=>Heap.get?_push_of_some _ e) (Nat.le_refl _) ?_,rfl,q _ hf⟩
 exact⟨z,us,0,r,Heap.get?_push_size _ rfl⟩
end
noncomputable abbrev Sp:=List V->Hp->VK->XK->Prop
noncomputable abbrev CXT:=List Env->Hp->Shared->XK->Value->Shared->Prop
structure ZY (P:Program) (w:World) (K:PySem.W.Frag) (mg:Str->Option Value) (base:Heap) (A:Around) (outer:List Env) (s:Shared) (H:Hp):Prop where
 frames:A.frames=some outer
 mod:Mod K mg base
 bs:∀ b o,base.get? b=some o->s.heap.get? b=some o/\H b=none
 bsz:base.objs.size <= s.heap.objs.size
 jL:s.heap.FunFrames base outer
 frf:∀ b∈frs outer,H b=none
 hok:HOk P w H s.heap
 bare:AllBare s.gens
noncomputable def CE (outer:List Env) (P:Program) (w:World) (H:Hp) (s:Shared) (Q:VK) (u:Value) (s':Shared):Prop :=
 ∃ v H',s'.os=s.os/\AllBare s'.gens/\Un (frs outer) [] H H' s.heap s'.heap/\HOk P w H' s'.heap/\RelV v u/\Q v H'
noncomputable def CR (CX:CXT) (outer:List Env) (P:Program) (w:World) (H:Hp) (s:Shared) (Q:VK) (E:XK) (r:Result) (s':Shared):Prop :=
 match r with
 | .ok (.ret u)=>CE outer P w H s Q u s'
 | .ok _=>False
 | .error e=>CX outer H s E e s'
structure uk (P:Program) (w:World) (K:PySem.W.Frag) (mg:Str->Option Value) (base:Heap) (CX:CXT) (k:Nat) (f:Addr) (fd:FuncData) (ps:List Str) (sp:Sp):Prop where
 len:∀ vs H Q E,sp vs H Q E->vs.length=ps.length
 run:∀ (A:Around) (outer:List Env) (s:Shared) (H:Hp) (args:Args) (us:List Value) (vs:List V) (Q:VK) (E:XK),zi k A->ZY P w K mg base A outer s H->BindsTo s fd args (ps.zip us)->Vals vs us->sp vs H Q E ->
  codeAny (model P w) A (.call (.ref f) args) (CR CX outer P w H s Q E) s
theorem uk.imp {P:Program}{w:World}{K:PySem.W.Frag}{mg:Str->Option Value}{base:Heap}{CX:CXT}{k:Nat}{f:Addr}{fd:FuncData}{ps:List Str}{sp sp':Sp} (F:uk P w K mg base CX k f fd ps sp)
  (h:∀ vs H Q E,sp' vs H Q E->sp vs H Q E):uk P w K mg base CX k f fd ps sp' :=
 ⟨fun vs H Q E q=>F.len vs H Q E (h _ _ _ _ q),fun A outer s H args us vs Q E hr he hb hv hs=>F.run A outer s H args us vs Q E hr he hb hv (h _ _ _ _ hs)⟩
theorem ZY.make {P:Program}{w:World}{K:PySem.W.Frag}{mg:Str->Option Value}{base:Heap}{A:Around}{outer:List Env}{s:Shared}{H:Hp} (e:ZY P w K mg base A outer s H) (C:Addr) (us:List Value) (kw:List (Str × Value)) :
  ZY P w K mg base (A.under (.builtin "type.__call__" ⟨.ref C::us,kw⟩)) outer s H:=⟨by first | exact e.frames | (simpa [Around.under,Code.envs,Code.isFrame,pushEnvs] using e.frames),e.mod,e.bs,e.bsz,e.jL,e.frf,e.hok,e.bare⟩
section
variable {X:Cx}{pins:List (Addr × Obj)}{σ:St}{H:Hp}{s s':Shared}
theorem Inv.qe6 (I:Inv X pins σ H s):ZY X.prog X.w X.K X.mg X.base X.A X.stack s H :=
 ⟨I.ok.frames,I.ok.mod,I.bs,Nat.le_trans I.ok.bsz I.sz,I.stack,I.Xt,I.hok,I.bare⟩
theorem Inv.after {Q:VK}{u:Value} (I:Inv X pins σ H s) (h:CE X.stack X.prog X.w H s Q u s'):EP X pins σ Q u s':=by
 obtain⟨v,H',os,bare,un,hok,r,q⟩:=h
 obtain⟨hh,g,d,t,os'⟩:=s'
 obtain rfl:os'=s.os:=os
 exact⟨v,H',I.call (h':=hh) (g':=g) (d':=d) (t':=t) (ch:=[]) un hok bare (fun b z=>absurd z (by simp)),r,q⟩
end
noncomputable def qc9 (sp:Sp) (dvs:List V) (E:XK) (t:TA):TE:=fun σ H Q=>t σ H fun vs H1=>sp (vs++dvs) H1 Q E
noncomputable def qhF (C:Addr) (sp:Sp) (dvs:List V) (E:XK) (t:TA):TE:=fun σ H Q=>t σ H fun vs H1=>∀ x dx,H1 x=none->H1 dx=none->dx≠x ->
 sp (.ref x::(vs++dvs)) (upd (upd H1 dx (.own x)) x (.ins C dx [])) (fun v H2=>v = .non/\Q (.ref x) H2) E
noncomputable def Binds (K:PySem.W.Frag) (fd:FuncData) (ps:List Str) (ds:List Value):Prop :=
 ∀ (s:Shared) (us:List Value),K.In s.heap->(us++ds).length=ps.length->BindsTo s fd ⟨us,[]⟩ (ps.zip (us++ds))
theorem Binds.all {K:PySem.W.Frag}{fd:FuncData}{ps:List Str} (h:∀ us:List Value,us.length=ps.length->bindArgs fd ⟨us,[]⟩=pure (ps.zip us)):Binds K fd ps []:=fun s us _ hl=>by
 rw[List.append_nil] at hl ⊢
 exact .of_eq (h us hl)
noncomputable def Passes (CX:CXT) (X:Cx) (E:XK):Prop:=∀ (pins:List (Addr × Obj)) (σ:St) (H:Hp) (s:Shared) (e:Value) (s':Shared),Inv X pins σ H s->CX X.stack H s E e s'->X.xe e s'
section
variable {X:Cx}{CX:CXT}{k:Nat}{f C:Addr}{fd:FuncData}{ps:List Str}{sp:Sp}{dvs:List V}{ds:List Value}{E:XK}{x m:Str}{p pos apos:Pos}{e o:Expr}{es:List Expr}{ta:TE}{t:TA}
theorem qgD {pins:List (Addr × Obj)}{σ:St}{H:Hp}{s:Shared}{Q:VK}{us:List Value}{vs:List V} (F:uk X.prog X.w X.K X.mg X.base CX k f fd ps sp) (hr:zi k X.A) (hb:Binds X.K fd ps ds) (hd:Vals dvs ds) (hx:Passes CX X E)
  (I:Inv X pins σ H s) (r:Vals vs us) (h:sp (vs++dvs) H Q E):wpAny (model X.prog X.w) X.A (call (.ref f) us) (EP X pins σ Q) X.xe s:=by
 have r2:Vals (vs++dvs) (us++ds):=r.append hd
 have hl:(us++ds).length=ps.length:=by rw[<- r2.length];exact F.len _ _ _ _ h
 refine wpAny_call (codeAny_mono (F.run X.A X.stack s H ⟨us,[]⟩ (us++ds) (vs++dvs) Q E hr I.qe6 (hb s us I.kIn hl) r2 h) fun r s' hq=>?_)
 cases r with
 | error e=>exact hx pins σ H s e s' I hq
 | ok fl =>
  cases fl with
  | ret u=>exact I.after hq
  | next=>exact False.elim hq
  | brk=>exact False.elim hq
  | cont=>exact False.elim hq
theorem VN (F:uk X.prog X.w X.K X.mg X.base CX k f fd ps sp) (hr:zi k X.A) (hg:Gl X x) (hm:X.mg x=some (.ref f)) (hk:PySem.W.keepIn X.K (.ref f)=true) (hb:Binds X.K fd ps ds) (hd:Vals dvs ds) (hx:Passes CX X E)
  (ha:PA X (e::es) t) (hdb:autoParam ((x==("__debug__":Str))=false) vh._auto_1) (he:autoParam (starEach (e::es) X.env=(false,eval e X.env)::starEach es X.env) qt._auto_1) (hpl:autoParam ((backTo pos (starEach es X.env)).any (·.1)=false) qt._auto_1) :
  PE X (.Call (.Name x p) (e::es) [] pos) (qc9 sp dvs E t):=by
 intro pins s σ H Q I h
 refine wpAny_Call_Name_kw (jr I hg hm ?_ hdb)
 refine PySem.W.callWith_K (h₀:=X.base) I.ok.mod.kin hk (thn (ha pos pins s σ H _ I h) fun us s1 ⟨vs,H1,I1,r,q⟩=>⟨I1.kIn,?_⟩) he hpl
 exact qgD F hr hb hd hx I1 r q
structure Mk (K:PySem.W.Frag) (C f:Addr):Prop where
 makes:PySem.W.makesIn K C=true
 init:PySem.W.findIn K (.ref C) "__init__"=some (some (.ref f))
 fn:PySem.W.isFn K (.ref f)=true
 kp:PySem.W.keepIn K (.ref C)=true
theorem qdP {pins:List (Addr × Obj)}{σ:St}{H:Hp}{s:Shared}{Q:VK}{us:List Value}{vs:List V} (M:Mk X.K C f) (F:uk X.prog X.w X.K X.mg X.base CX k f fd ps sp) (hr:zi (k+1) X.A) (hb:Binds X.K fd ps ds) (hd:Vals dvs ds)
  (hx:Passes CX X E) (I:Inv X pins σ H s) (r:Vals vs us)
  (h:∀ x dx,H x=none->H dx=none->dx≠x->sp (.ref x::(vs++dvs)) (upd (upd H dx (.own x)) x (.ins C dx [])) (fun v H2=>v = .non/\Q (.ref x) H2) E) :
  wpAny (model X.prog X.w) X.A (call (.ref C) us) (EP X pins σ Q) X.xe s:=by
 have hq:=h (s.heap.objs.size+1) s.heap.objs.size (I.hok.fresh (Nat.le_succ _)) (I.hok.fresh (Nat.le_refl _)) (Nat.ne_of_lt (Nat.lt_succ_self _))
 have I2:=Inv.made (C:=C) I
 have r2:Vals (V.ref (s.heap.objs.size+1)::(vs++dvs)) (Value.ref (s.heap.objs.size+1)::(us++ds)):=.cons rfl (r.append hd)
 have hl:(Value.ref (s.heap.objs.size+1)::us++ds).length=ps.length:=by
  have e:=r2.length
  rw[F.len _ _ _ _ hq] at e
  exact e.symm
 refine wpAny_call (qdA (f:=f) I.kIn M.makes M.init (beq_iff_eq.mp M.fn) (codeAny_mono (F.run _ X.stack _ _ ⟨Value.ref (s.heap.objs.size+1)::us,[]⟩ (Value.ref (s.heap.objs.size+1)::(us++ds)) _ _ E (hr.make C us [])
  (I2.qe6.make C us []) (hb _ (Value.ref (s.heap.objs.size+1)::us) I2.kIn hl) r2 hq) fun r s' hq'=>?_))
 cases r with
 | error e=>exact hx pins σ _ _ e s' I2 hq'
 | ok fl =>
  cases fl with
  | ret u =>
   obtain⟨v,H',I3,rv,ev,q3⟩:=I2.after hq'
   subst ev
   exact⟨rv,⟨V.ref (s.heap.objs.size+1),H',I3,rfl,q3⟩⟩
  | next=>exact False.elim hq'
  | brk=>exact False.elim hq'
  | cont=>exact False.elim hq'
theorem qes (M:Mk X.K C f) (F:uk X.prog X.w X.K X.mg X.base CX k f fd ps sp) (hr:zi (k+1) X.A) (hg:Gl X x) (hm:X.mg x=some (.ref C)) (hb:Binds X.K fd ps ds) (hd:Vals dvs ds) (hx:Passes CX X E)
  (ha:PA X (e::es) t) (hdb:autoParam ((x==("__debug__":Str))=false) vh._auto_1) (he:autoParam (starEach (e::es) X.env=(false,eval e X.env)::starEach es X.env) qt._auto_1) (hpl:autoParam ((backTo pos (starEach es X.env)).any (·.1)=false) qt._auto_1) :
  PE X (.Call (.Name x p) (e::es) [] pos) (qhF C sp dvs E t):=by
 intro pins s σ H Q I h
 refine wpAny_Call_Name_kw (jr I hg hm ?_ hdb)
 refine PySem.W.callWith_K (h₀:=X.base) I.ok.mod.kin M.kp (thn (ha pos pins s σ H _ I h) fun us s1 ⟨vs,H1,I1,r,q⟩=>⟨I1.kIn,?_⟩) he hpl
 exact qdP M F hr hb hd hx I1 r q
end
structure qp (N P:List Str) (sc:Scope):Prop where
 kind:sc.kind = .function
 co:sc.isCoroutine=false
 gen:sc.isGenerator=false
 nd:N.Nodup
 pre:N.take P.length=P
 par:∀ x∈P,sc.names.lookup x=some .local\/sc.names.lookup x=some .cell
 nofree:∀ y∈sc.names,y.2 ≠ .free
theorem Yv {kindOf:Str->Option NameKind}{x:Str}:∀ {binds:List (Str × Value)}{m:Str->Option Value},(∀ v,(x,v)∉binds)->bindL kindOf binds m x=m x
 | [],_,_=>rfl
 | (n,v)::r,m,h=>by
  unfold bindL
  rw[Yv fun w hw=>h w (List.mem_cons_of_mem _ hw)]
  split
  ·have:x≠n:=by rintro rfl;exact h v List.mem_cons_self
   simp [this]
  ·rfl
theorem YD {kindOf:Str->Option NameKind}{x:Str}:∀ {binds:List (Str × Value)}{m:Str->Option Value},(∀ v,(x,v)∉binds)->bindC kindOf binds m x=m x
 | [],_,_=>rfl
 | (n,v)::r,m,h=>by
  unfold bindC
  rw[YD fun w hw=>h w (List.mem_cons_of_mem _ hw)]
  split
  ·rfl
  ·have:x≠n:=by rintro rfl;exact h v List.mem_cons_self
   simp [this]
theorem YC {kindOf:Str->Option NameKind}{x:Str}{v:Value}:∀ {P:List Str}{vs:List Value}{i:Nat}{m:Str->Option Value},P.Nodup->P[i]?=some x->vs[i]?=some v->kindOf x=some .local ->
  bindL kindOf (P.zip vs) m x=some v
 | [],_,_,_,_,h,_,_=>by simp at h
 | _::_,[],_,_,_,_,h,_=>by simp at h
 | p::P,w::vs,0,m,nd,h1,h2,hk=>by
  simp at h1 h2;subst h1;subst h2
  show bindL kindOf ((p,w)::P.zip vs) m p=_
  unfold bindL
  rw[Yv fun v hv=>(List.nodup_cons.mp nd).1 (List.of_mem_zip hv).1,if_pos hk]
  simp
 | p::P,w::vs,i+1,m,nd,h1,h2,hk=>by
  show bindL kindOf ((p,w)::P.zip vs) m x=_
  unfold bindL
  exact YC (i:=i) (List.nodup_cons.mp nd).2 (by simpa using h1) (by simpa using h2) hk
theorem Yk {kindOf:Str->Option NameKind}{x:Str}{v:Value}:∀ {P:List Str}{vs:List Value}{i:Nat}{m:Str->Option Value},P.Nodup->P[i]?=some x->vs[i]?=some v->kindOf x≠some .local ->
  bindC kindOf (P.zip vs) m x=some v
 | [],_,_,_,_,h,_,_=>by simp at h
 | _::_,[],_,_,_,_,h,_=>by simp at h
 | p::P,w::vs,0,m,nd,h1,h2,hk=>by
  simp at h1 h2;subst h1;subst h2
  show bindC kindOf ((p,w)::P.zip vs) m p=_
  unfold bindC
  rw[YD fun v hv=>(List.nodup_cons.mp nd).1 (List.of_mem_zip hv).1,if_neg hk]
  simp
 | p::P,w::vs,i+1,m,nd,h1,h2,hk=>by
  show bindC kindOf ((p,w)::P.zip vs) m x=_
  unfold bindC
  exact Yk (i:=i) (List.nodup_cons.mp nd).2 (by simpa using h1) (by simpa using h2) hk
noncomputable def start (N:List Str) (vs:List V):St:=vs.map some++List.replicate (N.length-vs.length) none
noncomputable def uP (CX:CXT) (P:Program) (w:World) (K:PySem.W.Frag) (mg:Str->Option Value) (base:Heap) (N:List Str) (qual:Str) (scope:Scope) (f:Addr) (cd:Value) (A:Around) (outer:List Env) (s:Shared) (H:Hp) (E:XK):Cx where
 prog:=P
 w:=w
 K:=K
 mg:=mg
 base:=base
 A:=A.deeper (envOfC qual scope s.heap.objs.size f cd)
 N:=N
 s_0:=s
 H_0:=H
 env:=envOfC qual scope s.heap.objs.size f cd
 outer:=outer
 stack:=envOfC qual scope s.heap.objs.size f cd::outer
 ex:=[]
 calm:=true
 fn:=fun _=>true
 pn:=[]
 xe:=fun e s'=>wpAny (model P w) (A.deeper (envOfC qual scope s.heap.objs.size f cd)) (leaving (envOfC qual scope s.heap.objs.size f cd) e) (fun _ s''=>CX outer H s E e s'') (fun e' s''=>CX outer H s E e' s'') s'
theorem Ja {sc:Scope}{n:Nat}{x:Str} (h:sc.names.lookup x=some .cell):∃ c,(cellsFrom n sc.names []).lookup x=some c:=by
 have q:=PySem.W.cellsFrom_some sc.names n [] (.inl h)
 exact Option.isSome_iff_exists.mp q
theorem Yx {CX:CXT}{P:Program}{w:World}{K:PySem.W.Frag}{mg:Str->Option Value}{base:Heap}{N ps:List Str}{qual:Str}{scope:Scope}{f:Addr}{cd:Value}{A:Around}{outer:List Env}{s s1:Shared}{H:Hp}{E:XK}{us:List Value}{vs:List V}
  (S:qp N ps scope) (hd:A.handled=none) (e0:ZY P w K mg base A outer s H) (hl:vs.length=ps.length) (r:Vals vs us)
  (x:InCallC s s.heap.objs.size (bindL (envOfC qual scope s.heap.objs.size f cd).kindOf (ps.zip us) fun _=>none) (cellsFrom (s.heap.objs.size+1) scope.names []) (bindC (envOfC qual scope s.heap.objs.size f cd).kindOf (ps.zip us) fun _=>none) s1) :
  Inv (uP CX P w K mg base N qual scope f cd A outer s H E) [] (start N vs) H s1:=by
 have hpl:ps.length <= N.length:=by have:=congrArg List.length S.pre;rw[List.length_take] at this;lia
 obtain⟨h1,tk,rfl,hk⟩:=x.done
 have noA:∀ b:Addr,b∉(uP CX P w K mg base N qual scope f cd A outer s H E).ex:=fun b z=>absurd (show b∈([]:List Addr) from z) (by simp)
 refine⟨⟨e0.mod,S.kind,rfl,rfl,Nat.le_refl _,fun y z c h1 h2=>?_,fun y hy=>?_,fun y c _ h=>?_,fun _=>hd,Around.frames_deeper e0.frames,.inr ⟨rfl,rfl⟩,fun b z=>absurd z (noA b),e0.bs,e0.bsz,fun b _ _=>noA b,fun b z=>absurd z (noA b),e0.jL,e0.frf⟩,
  rfl,e0.bare,Un.kept hk,⟨_,x.toInCall.ns,fun i y v h1 h2 h3=>?_⟩,fun y c h=>⟨_,x.cell y c h⟩,e0.hok.fresh (Nat.le_refl _),fun y c h=>?_,fun p hp=>absurd (show p∈([]:List (Addr × Obj)) from hp) (by simp),e0.hok.kept hk,?_⟩
 ·exact name_of_addr x.apart (PySem.mem_of_lookup h1) (PySem.mem_of_lookup h2)
 ·have hy:scope.names.lookup y=some .cell\/scope.names.lookup y=some .free:=hy
  rcases hy with hy | hy
  ·exact Ja hy
  ·exact absurd rfl (S.nofree _ (PySem.mem_of_lookup hy))
 ·exact Nat.le_of_lt (x.above y c (PySem.mem_of_lookup h))
 ·have hi:i<vs.length:=by
   unfold start at h2
   by_cases hi:i<vs.length
   ·exact hi
   ·rw[List.getElem?_append_right (by simpa using hi)] at h2
    rw[List.getElem?_replicate] at h2
    split at h2 <;> cases h2
  have ha:vs[i]?=some v:=by
   unfold start at h2
   rw[List.getElem?_append_left (by simpa using hi),List.getElem?_map] at h2
   cases e:vs[i]? with
   | none=>rw[e] at h2;cases h2
   | some a=>rw[e] at h2;cases h2;rfl
  obtain⟨u,hu,rv⟩:=r.get ha
  have hp:ps[i]?=some y:=by
   rw[<- S.pre,List.getElem?_take_of_lt (by lia)];exact h1
  have ndP:ps.Nodup:=by rw[<- S.pre];exact S.nd.sublist (List.take_sublist _ _)
  refine⟨u,rv,?_⟩
  rcases S.par y (List.mem_of_getElem? hp) with k | k
  ·exact .inl ⟨k,YC ndP hp hu k⟩
  ·obtain⟨c,e⟩:=Ja (n:=s.heap.objs.size+1) k
   refine .inr ⟨.inl k,c,e,?_⟩
   have q:=x.cell y c e
   rw[Yk ndP hp hu (by show scope.names.lookup y≠_;rw[k];decide)] at q
   exact q
 ·exact e0.hok.fresh (Nat.le_of_lt (x.above y c (PySem.mem_of_lookup h)))
 ·unfold start
  show _=N.length
  rw[List.length_append,List.length_map,List.length_replicate]
  lia
theorem qa7 {CX:CXT}{P:Program}{w:World}{K:PySem.W.Frag}{mg:Str->Option Value}{base:Heap}{k:Nat}{f:Addr}{name qual:Str}{params:Arguments}{body:List Stmt}{scope:Scope}{dV kV doc pm cdv ct oc:Value}{an od:Option Addr}
  {osl:Array (Option Value)}{N ps:List Str}{sp:Sp} (lk:K.lookup f=some ⟨oc,od,.func (PySem.W.fnOf name qual params body scope dV kV doc pm an cdv ct),osl⟩) (hcd:PySem.W.codeIn K cdv qual=true) (S:qp N ps scope)
  (len:∀ vs H Q E,sp vs H Q E->vs.length=ps.length)
  (hbody:∀ (A:Around) (outer:List Env) (s:Shared) (H:Hp) (vs:List V) (Q:VK) (E:XK),zi k (A.deeper (envOfC qual scope s.heap.objs.size f cdv))->sp vs H Q E ->
   ∃ t,PSs (uP CX P w K mg base N qual scope f cdv A outer s H E) body t/\t {nx:=fun _ H'=>Q .non H',rt:=Q} (start N vs) H) :
  uk P w K mg base CX (k+1) f (PySem.W.fnOf name qual params body scope dV kV doc pm an cdv ct) ps sp:=by
 refine⟨len,fun A outer s H args us vs Q E hr e0 hb r hsp=>?_⟩
 have hl:=len _ _ _ _ hsp
 have KX:K.In s.heap:=e0.mod.kin.keeps fun b o e=>(e0.bs b o e).1
 have lim:s.heap.NoLimit:=e0.mod.nolimit.keeps fun b o e=>(e0.bs b o e).1
 have hkind:∀ y∈ps.zip us,scope.names.lookup y.1=some .local\/(scope.names.lookup y.1=some .cell/\((cellsFrom (s.heap.objs.size+1) scope.names []).lookup y.1).isSome=true):=fun⟨n,v⟩ hy=>by
  rcases S.par n (List.of_mem_zip hy).1 with q | q
  ·exact .inl q
  ·exact .inr ⟨q,PySem.W.cellsFrom_some _ _ _ (.inl q)⟩
 refine codeAny_call_function hr.depth (KX _ _ lk) rfl S.co S.gen rfl (PySem.W.codeRec_of KX hcd) (hb _ _ _ _ ?_)
 refine wpAny_newFunctionEnv_cells S.kind hkind fun env he s1 x=>?_
 subst he
 refine⟨lim.keeps x.toInCall.keep,codeAny_func ?_⟩
 obtain⟨t,ht,hq⟩:=hbody A outer s H vs Q E (hr.deeper _) hsp
 have I:Inv (uP CX P w K mg base N qual scope f cdv A outer s H E) [] (start N vs) H s1:=Yx S hr.hd e0 hl r x
 refine wpAny_mono (ht [] s1 (start N vs) H _ I hq) (fun fl s' hs=>?_) fun e s' hs=>hs
 have fin:∀ {σ':St}{H':Hp}{v:V}{u:Value},Inv (uP CX P w K mg base N qual scope f cdv A outer s H E) [] σ' H' s'->RelV v u->Q v H'->CE outer P w H s Q u s' :=
  fun {σ' H' v u} J rv q=>⟨v,H',J.os,J.bare,J.base,J.hok,rv,q⟩
 cases fl with
 | ret u =>
  obtain⟨v,σ',H',J,rv,q⟩:=hs
  exact fin J rv q
 | next =>
  obtain⟨σ',H',J,q⟩:=hs
  exact fin (v:=V.non) (u:=Value.none) J rfl q
 | brk =>
  obtain⟨_,_,_,q⟩:=hs
  exact False.elim q
 | cont =>
  obtain⟨_,_,_,q⟩:=hs
  exact False.elim q
section
variable {X:Cx}{x:Str}{p pos:Pos}{e:Expr}{es:List Expr}{t:TA}{id T:String}{r:List V->Hp->VK->Prop}
noncomputable def tCB (r:List V->Hp->VK->Prop) (t:TA):TE:=fun σ H Q=>t σ H fun vs H1=>r vs H1 Q
theorem wG (hc:Wu X (.builtin id) r) (hg:Gl X x) (hm:X.mg x=none) (hv:bootBuiltins x=some (.builtin id)) (ha:PA X (e::es) t) (hn:autoParam (x≠"__name__") vh._auto_1) (hdb:autoParam ((x==("__debug__":Str))=false) vh._auto_1)
  (he:autoParam (starEach (e::es) X.env=(false,eval e X.env)::starEach es X.env) qt._auto_1) (hpl:autoParam ((backTo pos (starEach es X.env)).any (·.1)=false) qt._auto_1):PE X (.Call (.Name x p) (e::es) [] pos) (tCB r t):=by
 intro pins s σ H Q I h
 refine wpAny_Call_Name_kw (QO I hg hm hv ?_ hn hdb)
 exact PyProof.Rows.callWith_builtin1 (thn (ha pos pins s σ H _ I h) fun us s1 ⟨vs,H1,I1,r1,q1⟩=>hc pins s1 σ H1 vs us Q I1 r1 q1) he hpl
theorem qbW (hc:Wu X (.type T) r) (hg:Gl X x) (hm:X.mg x=none) (hv:bootBuiltins x=some (.type T)) (ha:PA X (e::es) t) (hn:autoParam (x≠"__name__") vh._auto_1) (hdb:autoParam ((x==("__debug__":Str))=false) vh._auto_1)
  (he:autoParam (starEach (e::es) X.env=(false,eval e X.env)::starEach es X.env) qt._auto_1) (hpl:autoParam ((backTo pos (starEach es X.env)).any (·.1)=false) qt._auto_1):PE X (.Call (.Name x p) (e::es) [] pos) (tCB r t):=by
 intro pins s σ H Q I h
 refine wpAny_Call_Name_kw (QO I hg hm hv ?_ hn hdb)
 exact PyProof.Rows.callWith_type1 (thn (ha pos pins s σ H _ I h) fun us s1 ⟨vs,H1,I1,r1,q1⟩=>hc pins s1 σ H1 vs us Q I1 r1 q1) he hpl
end
end L2
namespace HT
open PySem PyProof.Rows
section
variable {prog:Program}{w:World}{A:Around}{E:Value->Shared->Prop}{s:Shared}
noncomputable def sIx (n d:Nat):Option Int->Nat
 | none=>d
 | some v=>if v<0 then (v+(n:Int)).toNat else min v.toNat n
end
end HT
namespace L2
open PySem PySem.Spec PyProof.Rows
noncomputable abbrev TO:=St->Hp->(Option Int->Hp->Prop)->Prop
noncomputable def PO (X:Cx) (e:Option Expr) (t:TO):Prop :=
 ∀ (pins:List (Addr × Obj)) (s:Shared) (σ:St) (H:Hp) (Q:Option Int->Hp->Prop),Inv X pins σ H s->t σ H Q ->
  wpAny (model X.prog X.w) X.A (evalPart e X.env) (fun u s'=>∃ o H',Inv X pins σ H' s'/\IsPart u o/\Q o H') X.xe s
noncomputable def qeC:TO:=fun _ H Q=>Q none H
noncomputable def qie (t:TE):TO:=fun σ H Q=>t σ H fun x H1=>∃ i,x = .int i/\Q (some i) H1
section
variable {X:Cx}{e:Expr}{te:TE}{lo hi:Option Expr}{tl th:TO}{pos p2:Pos}
theorem qeR:PO X none qeC:=by
 intro pins s σ H Q I h
 rw[evalPart_none]
 exact wpAny_pure ⟨none,H,I,.none,h⟩
theorem qeW (h:PE X e te):PO X (some e) (qie te):=by
 intro pins s σ H Q I hw
 rw[evalPart_some]
 refine thn (h pins s σ H _ I hw) fun u s1 ⟨x,H1,I1,r1,q1⟩=>?_
 obtain⟨i,rfl,q⟩:=q1
 obtain⟨t,rfl⟩:=r1
 exact⟨some i,H1,I1,.int i t,q⟩
noncomputable def SlR (X:Cx) (r:V->Option Int->Option Int->Hp->VK->Prop):Prop :=
 ∀ (pins:List (Addr × Obj)) (s:Shared) (σ:St) (H:Hp) (x:V) (v vl vu:Value) (lo hi:Option Int) (sl:Addr) (Q:VK),Inv X pins σ H s->RelV x v->s.heap.IsSliceOf sl vl vu .none->IsPart vl lo->IsPart vu hi->r x lo hi H Q ->
  ∃ T id,typeLookup (.type T) "__getitem__"=pure (some (.builtin id))/\s.TypeIs v T/\wpAny (model X.prog X.w) X.A (getItem v (.ref sl)) (EP X pins σ Q) X.xe s
noncomputable def qeO (xs:List V) (lo hi:Option Int):List V:=(xs.drop (HT.sIx xs.length 0 lo)).take (HT.sIx xs.length xs.length hi-HT.sIx xs.length 0 lo)
theorem UY (xs:List V) (lo hi:Option Int):(qeO xs lo hi).length <= xs.length:=by
 unfold qeO
 rw[List.length_take,List.length_drop]
 lia
end
noncomputable def ixN (n:Nat) (i:Int):Option Nat:=if 0 <= i then (if i<n then some i.toNat else none) else if -(n:Int) <= i then some (i+n).toNat else none
noncomputable def atI {α:Type} (xs:List α) (i:Int):Option α:=(ixN xs.length i).bind fun j=>xs[j]?
theorem qa0 {n:Nat}{i:Int}{j:Nat} (h:ixN n i=some j):seqIndex? i n=some j/\j<n /\ -(n:Int) <= i/\i<n:=by
 unfold ixN at h
 by_cases h0:0 <= i
 ·rw[if_pos h0] at h
  by_cases h1:i<n
  ·rw[if_pos h1] at h
   have e:i.toNat=j:=Option.some.inj h
   exact⟨by rw[seqIndex_of h0 h1,e],by lia,by lia,h1⟩
  ·rw[if_neg h1] at h;cases h
 ·rw[if_neg h0] at h
  by_cases h1 : -(n:Int) <= i
  ·rw[if_pos h1] at h
   have e:(i+n).toNat=j:=Option.some.inj h
   exact⟨by rw[seqIndex_neg (by lia) h1,e],by lia,h1,by lia⟩
  ·rw[if_neg h1] at h;cases h
theorem qbu {α:Type}{xs:List α}{i:Int}{v:α} (h:atI xs i=some v):∃ j,seqIndex? i xs.length=some j/\xs[j]?=some v/\j<xs.length /\ -(xs.length:Int) <= i/\i<xs.length:=by
 unfold atI at h
 cases e:ixN xs.length i with
 | none=>rw[e] at h;cases h
 | some j =>
  rw[e] at h
  obtain⟨h1,h2,h3,h4⟩:=qa0 e
  exact⟨j,h1,h,h2,h3,h4⟩
noncomputable def YY (b:Expr):Prop:=∀ o i,subscripted b false o i=operate [o,i] (getItem o i)
noncomputable def IxR (X:Cx) (r:R2):Prop :=
 ∀ (value slice:Expr) (pins:List (Addr × Obj)) (s:Shared) (σ:St) (H:Hp) (x y:V) (v u:Value) (Q:VK),Inv X pins σ H s->RelV x v->RelV y u->r x y H Q ->
  subscripted slice false v u=operate [v,u] (getItem v u)->wpAny (model X.prog X.w) X.A (subscriptTail value slice v u) (EP X pins σ Q) X.xe s
noncomputable def MtR (X:Cx) (id:String) (r:V->List V->Hp->VK->Prop):Prop :=
 ∀ (pins:List (Addr × Obj)) (s:Shared) (σ:St) (H:Hp) (x:V) (xs:List V) (v:Value) (us:List Value) (Q:VK),Inv X pins σ H s->RelV x v->Vals xs us->r x xs H Q ->
  wpAny (model X.prog X.w) X.A (call (.builtin id) (v::us)) (EP X pins σ Q) X.xe s
section
variable {X:Cx}{a b:Expr}{ta tb:TE}{pos:Pos}
theorem IxR.or {r r':R2} (h:IxR X r) (h':IxR X r'):IxR X (fun x y H Q=>r x y H Q\/r' x y H Q):=by
 intro value slice pins s σ H x y v u Q I rx ry q hs
 rcases q with q | q
 ·exact h value slice pins s σ H x y v u Q I rx ry q hs
 ·exact h' value slice pins s σ H x y v u Q I rx ry q hs
theorem qf9 {r:R2} (hr:IxR X r) (ha:PE X a ta) (hb:PE X b tb) (hs:YY b):PE X (.Subscript a b pos) (tOp r ta tb):=by
 intro pins s σ H Q I h
 exact Subscript_ (qgh ha hb I h fun v u s2 x y H2 I2 rx ry q=>hr a b pins s2 σ H2 x y v u Q I2 rx ry q (hs _ _))
noncomputable def qhH (K:PySem.W.Frag):R2:=fun x y H Q=>∃ p xs i v,x = .ref p/\y = .int i/\SqL K H p xs/\atI xs i=some v/\Q v H
noncomputable def qhz (K:PySem.W.Frag):R2:=fun x y H Q=>∃ p xs i v,x = .ref p/\y = .int i/\SqT K H p xs/\atI xs i=some v/\Q v H
theorem qa3:IxR X (qhH X.K):=by
 intro value slice pins s σ H x y v u Q I rx ry h hs
 obtain⟨p,xs,i,z,rfl,rfl,hq,he,q⟩:=h
 cases rx
 obtain⟨t,rfl⟩:=ry
 obtain⟨its,r,pl,hz⟩:=I.list hq
 obtain⟨j,h1,h2,h3,h4,h5⟩:=qbu he
 obtain⟨w,ew,rw'⟩:=r.get h2
 have hl:=r.length
 have hn:=Xu
 have fin:EP X pins σ Q w s:=⟨z,H,I,rw',q⟩
 by_cases h0:0 <= i
 ·have hj:i.toNat=j:=by
   rw[seqIndex_of h0 h5] at h1
   exact Option.some.inj h1
  exact item_listR pl.isList h0 (by lia) (by rw[hj];simpa using ew) fin hs
 ·have hj:(i+(its.toArray.size:Int)).toNat=j:=by
   rw[seqIndex_neg (by lia) h4] at h1
   rw[List.size_toArray,<- hl]
   exact Option.some.inj h1
  exact subscriptTail_builtinR (x:=w) pl.isList.typeIs slot_list_getitem.lookup
   (wpAny_getItem_list_neg (Q:=fun r s'=>r=w/\EP X pins σ Q r s') pl.isList (by lia) (by rw[List.size_toArray] <;> lia) (by lia) (by rw[hj];simpa using ew) ⟨rfl,fin⟩) hs
theorem qgK:IxR X (qhz X.K):=by
 intro value slice pins s σ H x y v u Q I rx ry h hs
 obtain⟨p,xs,i,z,rfl,rfl,hq,he,q⟩:=h
 cases rx
 obtain⟨t,rfl⟩:=ry
 obtain⟨its,r,pl,hz⟩:=I.tuple hq
 obtain⟨j,h1,h2,h3,h4,h5⟩:=qbu he
 obtain⟨w,ew,rw'⟩:=r.get h2
 have hl:=r.length
 have hn:=Xu
 have fin:EP X pins σ Q w s:=⟨z,H,I,rw',q⟩
 exact subscriptTail_builtinR (x:=w) pl.typeIs slot_tuple_getitem.lookup
  (getItem_tuple (j:=j) (Q:=fun r s'=>r=w/\EP X pins σ Q r s') pl (by lia) (by lia) (by rw[List.size_toArray,<- hl];exact h1) (by simpa using ew) ⟨rfl,fin⟩) hs
theorem Js (its:List Value) (n j:Nat) (u:Value):Obj.mapSeq (·.setIfInBounds j u) {cls:=.type "list",data:=.seq its.toArray n}={cls:=.type "list",data:=.seq (its.set j u).toArray n}:=by
 simp [Obj.mapSeq]
theorem Inv.lst {pins:List (Addr × Obj)}{σ:St}{H:Hp}{s:Shared}{p:Addr}{xs:List V} (I:Inv X pins σ H s) (h:H p=some (.lst xs)) :
  ∃ (its:List Value) (n:Nat),Vals xs its/\s.heap.get? p=some {cls:=.type "list",data:=.seq its.toArray n}/\xs.length <= sizeLine:=by
 obtain⟨z,its,n,r,e⟩:=I.hok p _ h
 exact⟨its,n,r,e,z⟩
theorem Inv.qgZ {pins:List (Addr × Obj)}{σ:St}{H:Hp}{s:Shared}{p:Addr}{xs ys:List V}{its its':List Value}{n n':Nat}{f:Obj->Obj} (I:Inv X pins σ H s) (h:H p=some (.lst xs))
  (ho:s.heap.get? p=some {cls:=.type "list",data:=.seq its.toArray n}) (hf:f {cls:=.type "list",data:=.seq its.toArray n}={cls:=.type "list",data:=.seq its'.toArray n'}) (r:Vals ys its') (hz:ys.length <= sizeLine) (t:Nat) :
  Inv X pins σ (upd H p (.lst ys)) {s with heap:=s.heap.update p f,toks:=t}:=by
 have e:(s.heap.update p f).get? p=some {cls:=.type "list",data:=.seq its'.toArray n'}:=by
  rw[Heap.get?_update_self f ho (by rw[hf] <;> rfl),hf]
 refine I.write (x:=p) (e:=p) (by rw[h];trivial) (.inl rfl) (fun b u hb q=>(Heap.get?_update_other _ _ (Ne.symm hb)).trans q) ⟨_,e⟩ ?_
 exact⟨hz,its',n',r,e⟩
noncomputable def qf4:V->V->V->Hp->(Hp->Prop)->Prop:=fun o i v H Q=>∃ p xs k j,o = .ref p/\i = .int k/\H p=some (.lst xs)/\ixN xs.length k=some j/\Q (upd H p (.lst (xs.set j v)))
theorem set_list:qhA X qf4:=by
 intro pins s σ H o i v ov iv u Q I ro ri rv h
 obtain⟨p,xs,k,j,rfl,rfl,hp,hj,q⟩:=h
 cases ro
 obtain⟨t,rfl⟩:=ri
 obtain⟨its,n,r,ho,hz⟩:=I.lst hp
 obtain⟨h1,h2,h3,h4⟩:=qa0 hj
 have hl:=r.length
 have hn:=Xu
 have I':Inv X pins σ (upd H p (.lst (xs.set j v))) {s with heap:=s.heap.update p (Obj.mapSeq (·.setIfInBounds j u))} :=
  I.qgZ hp ho (Js its n j u) (r.set rv j) (by rw[List.length_set];exact hz) s.toks
 by_cases h0:0 <= k
 ·have hk:k.toNat=j:=by
   rw[seqIndex_of h0 h4] at h1
   exact Option.some.inj h1
  exact PySem.W.ki_setAt ho h0 (by lia) (by rw[List.size_toArray,<- hl];exact h4) (by rw[hk];exact⟨_,I',q⟩)
 ·have hk:(k+(its.toArray.size:Int)).toNat=j:=by
   rw[seqIndex_neg (by lia) h3] at h1
   rw[List.size_toArray,<- hl]
   exact Option.some.inj h1
  exact PySem.W.ki_setBack ho (by lia) (by rw[List.size_toArray,<- hl];exact h3) (by lia) (by rw[hk];exact⟨_,I',q⟩)
theorem XC (lo hi:Option Int) (n:Nat):(sliceBounds lo hi none n).1=((HT.sIx n 0 lo:Nat):Int)/\(sliceBounds lo hi none n).2.1=((HT.sIx n n hi:Nat):Int)/\(sliceBounds lo hi none n).2.2=1:=by
 refine⟨?_,?_,rfl⟩
 ·cases lo with
  | none=>simp [sliceBounds,HT.sIx]
  | some i =>
   simp only[sliceBounds,HT.sIx,Option.getD_none,show (1:Int)>0 by decide,if_true]
   by_cases h:i<0
   ·simp only[h,if_true] <;> lia
   ·simp only[h,if_false] <;> lia
 ·cases hi with
  | none=>simp [sliceBounds,HT.sIx]
  | some i =>
   simp only[sliceBounds,HT.sIx,Option.getD_none,show (1:Int)>0 by decide,if_true]
   by_cases h:i<0
   ·simp only[h,if_true] <;> lia
   ·simp only[h,if_false] <;> lia
theorem ZX (its:List Value) (lo hi:Option Int):slicePick its.toArray lo hi none=((its.drop (HT.sIx its.length 0 lo)).take (HT.sIx its.length its.length hi-HT.sIx its.length 0 lo)).toArray:=by
 obtain⟨h1,h2,h3⟩:=XC lo hi its.toArray.size
 unfold slicePick
 rw[h1,h2,h3]
 simp only[sliceRange_one,pick_run,List.size_toArray] <;> rfl
noncomputable def qiz (K:PySem.W.Frag):V->Option Int->Option Int->Hp->VK->Prop:=fun x lo hi H Q=>∃ a xs,x = .ref a/\SqL K H a xs/\∀ p,H p=none->Q (.ref p) (upd H p (.lst (qeO xs lo hi)))
theorem qif:SlR X (qiz X.K):=by
 intro pins s σ H x v vl vu lo hi sl Q I rx hs pl pu h
 obtain⟨a,xs,rfl,hx,q⟩:=h
 cases rx
 obtain⟨its,r,ht,hz⟩:=I.list hx
 have hlen:=r.length
 refine⟨"list",_,slot_list_getitem.lookup,ht.isList.typeIs,?_⟩
 refine wpAny_getItem_list_slice ht.isList hs pl pu .none (by simp) ?_ (by rw[List.size_toArray] <;> lia)
 rw[ZX,<- hlen]
 refine⟨.ref s.heap.objs.size,_,I.laid (t':=s.toks) (o:=.lst (qeO xs lo hi)) (fun b ob q=>Heap.get?_push_of_some _ q) (Nat.le_refl _) ?_,rfl,q _ (I.hok.fresh (Nat.le_refl _))⟩
 exact⟨Nat.le_trans (UY xs lo hi) hz,_,0,(r.drop (HT.sIx xs.length 0 lo)).take (HT.sIx xs.length xs.length hi-HT.sIx xs.length 0 lo),Heap.get?_push_size _ rfl⟩
theorem wd:Wu X (.builtin "len") (fun xs H Q=>∃ p ys,xs=[.ref p]/\(SqL X.K H p ys\/SqT X.K H p ys)/\Q (.int ys.length) H):=by
 intro pins s σ H xs us Q I r h
 obtain⟨p,ys,rfl,hq,q⟩:=h
 obtain⟨u,rfl,rx⟩:=vals1 r
 cases rx
 have hn:=Xu
 rcases hq with hq | hq
 ·obtain⟨its,r',pl,hz⟩:=I.list hq
  have hlen:=r'.length
  exact Calls.call_len_list pl.isList (by simp only[List.size_toArray] <;> lia) ⟨.int ys.length,H,I.tok _,⟨s.toks+1,by rw[List.size_toArray,hlen]⟩,q⟩
 ·obtain⟨its,r',pl,hz⟩:=I.tuple hq
  have hlen:=r'.length
  exact len_tuple pl (by simp only[List.size_toArray] <;> lia) ⟨.int ys.length,H,I.tok _,⟨s.toks+1,by rw[List.size_toArray,hlen]⟩,q⟩
theorem XR:Wu X (.type "list") (fun xs H Q=>∃ p ys,xs=[.ref p]/\(SqL X.K H p ys\/SqT X.K H p ys)/\∀ l,H l=none->Q (.ref l) (upd H l (.lst ys))):=by
 intro pins s σ H xs us Q I r h
 obtain⟨p,ys,rfl,hq,q⟩:=h
 obtain⟨u,rfl,rx⟩:=vals1 r
 cases rx
 have fin:∀ (its:List Value),Vals ys its->ys.length <= sizeLine->∀ (h':Heap) (c':Nat),(∀ b o',s.heap.get? b=some o'->h'.get? b=some o') ->
   h'.get? s.heap.objs.size=some {cls:=.type "list",dict:=none,data:=.seq its.toArray c',slots := #[]}->EP X pins σ Q (.ref s.heap.objs.size) {s with heap:=h'}:=fun its r' hz h' c' kp e =>
  ⟨.ref s.heap.objs.size,_,I.laid (t':=s.toks) kp (Nat.le_refl _) (show yd X.prog X.w _ h' _ (.lst ys) from ⟨hz,its,c',r',e⟩),rfl,q _ (I.hok.fresh (Nat.le_refl _))⟩
 rcases hq with hq | hq
 ·obtain⟨its,r',pl,hz⟩:=I.list hq
  have hlen:=r'.length
  obtain⟨o,ho,hc,n,hd⟩:=pl.isList
  exact call_list_seq p (.inl rfl) ho hc hd (fun h' c' kp e=>fin its r' hz h' c' kp e) (by simp only[List.size_toArray] <;> lia)
 ·obtain⟨its,r',pl,hz⟩:=I.tuple hq
  have hlen:=r'.length
  obtain⟨o,ho,hc,n,hd⟩:=pl
  exact call_list_seq p (.inr rfl) ho hc hd (fun h' c' kp e=>fin its r' hz h' c' kp e) (by simp only[List.size_toArray] <;> lia)
noncomputable def tyV (K:PySem.W.Frag) (T:String) (x:V) (H:Hp):Prop:=match x with
 | .str _=>T="str"
 | .int _=>T="int"
 | .ref p=>(T="list"/\∃ xs,SqL K H p xs)\/(T="tuple"/\∃ o,K.lookup p=some o/\o.cls = .type "tuple"/\o.dict=none) \/
   (T="dict"/\((∃ kvs,H p=some (.dK kvs))\/∃ kvs,H p=some (.dT kvs)))\/(T="set"/\∃ S n,H p=some (.set S n))
 | _=>False
theorem qc1 {pins:List (Addr × Obj)}{σ:St}{H:Hp}{s:Shared}{T:String}{x:V}{v:Value} (I:Inv X pins σ H s) (r:RelV x v) (ty:tyV X.K T x H) :
  s.TypeIs v T/\∀ a,v = .ref a->∃ ob,s.heap.get? a=some ob/\ob.dict=none:=by
 cases x with
 | str z =>
  obtain⟨t,rfl⟩:=r
  cases (show T="str" from ty)
  exact⟨typeIs_str s z t,fun _ e=>nomatch e⟩
 | int i =>
  obtain⟨t,rfl⟩:=r
  cases (show T="int" from ty)
  exact⟨typeIs_int s i t,fun _ e=>nomatch e⟩
 | ref p =>
  cases r
  rcases ty with ⟨rfl,xs,hq⟩ | ⟨rfl,o,hk,hc,hd⟩ | ⟨rfl,hk⟩ | ⟨rfl,S,n,hk⟩
  ·obtain⟨its,_,pl,_⟩:=I.list hq
   refine⟨pl.isList.typeIs,fun a e=>?_⟩
   cases e
   obtain⟨o,n,e,c,hd,_⟩:=pl
   exact⟨o,e,hd⟩
  ·refine⟨⟨o,I.kIn p o hk,hc⟩,fun a e=>?_⟩
   cases e
   exact⟨o,I.kIn _ o hk,hd⟩
  ·have z:∃ o,s.heap.get? p=some o/\o.ExactDict:=by
    rcases hk with ⟨kvs,hk⟩ | ⟨kvs,hk⟩
    ·obtain⟨_,_,_,_,o,_,_,e,ex,_⟩:=I.hok p _ hk
     exact⟨o,e,ex⟩
    ·obtain⟨_,_,_,_,o,_,_,e,ex,_⟩:=I.hok p _ hk
     exact⟨o,e,ex⟩
   obtain⟨o,e,ex⟩:=z
   refine⟨⟨o,e,ex.1⟩,fun a e2=>?_⟩
   cases e2
   exact⟨o,e,ex.2.1⟩
  ·obtain⟨o,_,_,_,e,ex,_⟩:=I.hok p _ hk
   refine⟨⟨o,e,ex.1⟩,fun a e2=>?_⟩
   cases e2
   exact⟨o,e,ex.2.1⟩
 | _=>exact False.elim ty
noncomputable def qhv (K:PySem.W.Frag) (T:String) (r:V->List V->Hp->VK->Prop) (to:TE):TE:=fun σ H Q=>to σ H fun x H1=>tyV K T x H1/\r x [] H1 Q
noncomputable def tBM (K:PySem.W.Frag) (T:String) (r:V->List V->Hp->VK->Prop) (to:TE) (t:TA):TE:=fun σ H Q=>to σ H fun x H1=>tyV K T x H1/\t σ H1 fun xs H2=>r x xs H2 Q
variable {o e:Expr}{es:List Expr}{to:TE}{t:TA}{name:Str}{apos cpos:Pos}{T id:String}{r:V->List V->Hp->VK->Prop}
theorem qd3 (pa:PlainAttrs T) (slot:Slot T name id) (hty:typeOf (.builtin id)=pure (.type "method_descriptor")) (hm:MtR X id r) (ho:PE X o to)
  (hbase:autoParam (attributeBase o name X.env (eval o X.env)=eval o X.env) qt._auto_1) (hline:autoParam ((apos.endLine==cpos.line)=true) qt._auto_1):PE X (.Call (.Attribute o name apos) [] [] cpos) (qhv X.K T r to):=by
 intro pins s σ H Q I h
 refine wpAny_Call_method0_late hbase hline (thn (ho pins s σ H _ I h) fun v s1 ⟨x,H1,I1,r1,ty,q1⟩=>?_)
 obtain⟨h1,h2⟩:=qc1 I1 r1 ty
 exact⟨T,id,pa,slot,hty,h1,h2,Calls.callWith_builtin rfl (PySem.evalArgs_none (hm pins s1 σ H1 x [] v [] Q I1 r1 .nil q1))⟩
theorem qh4 (pa:PlainAttrs T) (slot:Slot T name id) (hty:typeOf (.builtin id)=pure (.type "method_descriptor")) (hm:MtR X id r) (ho:PE X o to) (ha:PA X (e::es) t)
  (hbase:autoParam (attributeBase o name X.env (eval o X.env)=eval o X.env) qt._auto_1)
  (hfew:((backTo cpos (starEach (e::es) X.env)).all (fun x => !x.1)&&(backToKw cpos (keywordEach [] X.env)).all (fun x=>x.1.isSome)
   && decide ((e::es).length+([]:List Keyword).length+(if ([]:List Keyword).isEmpty then 0 else 1)<30))=true:=by rfl)
  (hline:autoParam ((apos.endLine==cpos.line)=true) qt._auto_1) (hs:autoParam (starEach (e::es) X.env=(false,eval e X.env)::starEach es X.env) qt._auto_1) (hplain:autoParam ((backTo cpos (starEach es X.env)).any (·.1)=false) qt._auto_1) :
  PE X (.Call (.Attribute o name apos) (e::es) [] cpos) (tBM X.K T r to t):=by
 intro pins s σ H Q I h
 refine wpAny_Call_method_late hbase hfew hline rfl (thn (ho pins s σ H _ I h) fun v s1 ⟨x,H1,I1,r1,ty,q1⟩=>?_)
 obtain⟨h1,h2⟩:=qc1 I1 r1 ty
 refine⟨T,id,pa,slot,hty,h1,h2,?_⟩
 have hA:=ha cpos pins s1 σ H1 _ I1 q1
 rw[hs] at hA ⊢
 refine Calls.callWith_builtin (by show (false||(backTo cpos (starEach es X.env)).any (·.1))=false;rw[hplain] <;> rfl) (Calls.evalArgs_plain ?_)
 exact thn hA fun us s2 ⟨vs,H2,I2,r2,q2⟩=>hm pins s2 σ H2 x vs v us Q I2 r1 r2 q2
end
noncomputable def MtM (X:Cx) (id:String) (r:V->List V->Hp->VK->Prop):Prop :=
 ∀ (pins:List (Addr × Obj)) (s:Shared) (σ:St) (H:Hp) (x:V) (xs:List V) (v:Value) (us:List Value) (Q:VK),Inv X pins σ H s->RelV x v->Vals xs us->r x xs H Q ->
  wpAny (model X.prog X.w) X.A (call (.builtin id) (v::us)) (EP X pins σ Q) X.xe s
theorem Vals.one:∀ {x:V}{us:List Value},Vals [x] us->∃ u,us=[u]/\RelV x u
 | _,_,.cons r .nil=>⟨_,rfl,r⟩
theorem Vals.rep {xs:List V}{us:List Value} (h:Vals xs us):∀ k:Nat,Vals (List.replicate k xs).flatten (List.replicate k us).flatten
 | 0=>.nil
 | k+1=>by
  rw[List.replicate_succ,List.replicate_succ,List.flatten_cons,List.flatten_cons]
  exact Vals.append h (Vals.rep h k)
theorem foldl_rep (its:List Value):∀ (k:Nat) (acc:List Value),
  List.foldl (fun x1 x2=>x1++x2) acc.toArray (List.replicate k its.toArray)=(acc++(List.replicate k its).flatten).toArray
 | 0,acc=>by simp
 | k+1,acc=>by
  have e:acc.toArray++its.toArray=(acc++its).toArray:=by simp
  have e2:(acc++its)++(List.replicate k its).flatten=acc++(List.replicate (k+1) its).flatten:=by
   rw[List.replicate_succ,List.flatten_cons,List.append_assoc]
  rw[<- e2,<- foldl_rep its k (acc++its),<- e,List.replicate_succ,List.foldl_cons]
section
variable {X:Cx}{pins:List (Addr × Obj)}{σ:St}{H:Hp}{s:Shared}{l b:Addr}{xs ys zs:List V}
theorem Inv.qgj {its its':List Value}{n:Nat}{f:Array Value->Array Value}{t':Nat} (I:Inv X pins σ H s) (hH:H l=some (.lst xs))
  (e:s.heap.get? l=some {cls:=.type "list",data:=.seq its.toArray n}) (hf:f its.toArray=its'.toArray) (hv:Vals ys its') (hz:ys.length <= sizeLine) :
  Inv X pins σ (upd H l (.lst ys)) {s with heap:=s.heap.update l (Obj.mapSeq f),toks:=t'}:=by
 have q:=PySem.IsL.update e f
 rw[hf] at q
 refine I.write (x:=l) (e:=l) (by rw[hH];exact trivial) (.inl rfl) (fun b' u hb hu=>(Heap.get?_update_other s.heap (Obj.mapSeq f) (Ne.symm hb)).trans hu) ⟨_,q⟩ ?_
 exact⟨hz,its',_,hv,q⟩
theorem Inv.qe4 {its:List Value}{t':Nat} (I:Inv X pins σ H s) (hv:Vals ys its) (hz:ys.length <= sizeLine) :
  Inv X pins σ (upd H s.heap.objs.size (.lst ys)) {s with heap:=s.heap.push {cls:=.type "list",data:=.seq its.toArray},toks:=t'} :=
 I.laid (fun _ _ q=>Heap.get?_push_of_some _ q) (Nat.le_refl _) ⟨hz,its,0,hv,Heap.get?_push_size _ rfl⟩
theorem Inv.fresh (I:Inv X pins σ H s):H s.heap.objs.size=none:=I.hok.fresh (Nat.le_refl _)
theorem Inv.qax (I:Inv X pins σ H s) (hH:H l=some (.lst xs)):xs.length <= sizeLine/\∃ (its:List Value) (n:Nat),Vals xs its/\xs.length=its.length/\s.heap.get? l=some {cls:=.type "list",data:=.seq its.toArray n}:=by
 obtain⟨z,its,n,r,e⟩:=I.hok l _ hH
 exact⟨z,its,n,r,r.length,e⟩
theorem Wf {n:Nat} (h:n <= sizeLine):Builtin.List.listTooLong n=false:=by
 unfold Builtin.List.listTooLong
 exact decide_eq_false (by lia)
end
section
variable {X:Cx}
noncomputable def qfB:V->List V->Hp->VK->Prop:=fun x vs H Q=>∃ l xs y,x = .ref l/\vs=[y]/\H l=some (.lst xs)/\xs.length<sizeLine/\Q .non (upd H l (.lst (xs++[y])))
theorem qhr:MtM X "list.append" qfB:=by
 intro pins s σ H x vs v us Q I rx rv h
 obtain⟨l,xs,y,rfl,rfl,hH,hz,q⟩:=h
 cases rx
 obtain⟨u,rfl,ru⟩:=rv.one
 obtain⟨z,its,n,r,hl,e⟩:=I.qax hH
 refine call_meets F.slot_list_append ⟨_,e,rfl⟩ F.entry_list_append (F.args_list_append_2 _ _) (PySem.list_append l its.toArray n u (by rw[List.size_toArray];lia)) ⟨e,?_⟩
 refine⟨.non,_,I.qgj (its':=its++[u]) hH e (by simp) (r.append (.cons ru .nil)) ?_,rfl,q⟩
 rw[List.length_append,List.length_singleton]
 lia
noncomputable def qfJ:V->List V->Hp->VK->Prop:=fun x vs H Q=>∃ l b xs zs,x = .ref l/\vs=[.ref b]/\H l=some (.lst xs)/\H b=some (.lst zs)/\xs.length+zs.length <= sizeLine/\Q .non (upd H l (.lst (xs++zs)))
theorem qhs:MtM X "list.extend" qfJ:=by
 intro pins s σ H x vs v us Q I rx rv h
 obtain⟨l,b,xs,zs,rfl,rfl,hH,hB,hz,q⟩:=h
 cases rx
 obtain⟨u,rfl,ru⟩:=rv.one
 cases ru
 obtain⟨z,its,n,r,hl,e⟩:=I.qax hH
 obtain⟨z2,its2,n2,r2,hl2,e2⟩:=I.qax hB
 have hsz:its.toArray.size+its2.toArray.size <= sizeLine:=by rw[List.size_toArray,List.size_toArray];lia
 have hlong:¬ (!its.toArray.isEmpty&&Builtin.List.listTooLong (its.toArray.size+its2.toArray.size))=true:=by
  rw[Wf hsz,Bool.and_false]
  exact Bool.false_ne_true
 refine call_meets F.slot_list_extend ⟨_,e,rfl⟩ F.entry_list_extend (F.args_list_extend_2 _ _)
  (AutoSeq1.list_extend_list_list_0 l its.toArray n b its2.toArray n2 hlong (by rw[List.size_toArray];lia) (by lia)) ⟨e,e2,?_⟩
 refine⟨.non,_,I.qgj (its':=its++its2) hH e (by simp) (r.append r2) ?_,rfl,q⟩
 rw[List.length_append]
 lia
noncomputable def qh1:R2:=fun x y H Q=>∃ l b xs zs,x = .ref l/\y = .ref b/\H l=some (.lst xs)/\H b=some (.lst zs)/\xs.length+zs.length <= sizeLine/\∀ p,H p=none->Q (.ref p) (upd H p (.lst (xs++zs)))
theorem qha:OpR X (binaryOp .Add) qh1:=by
 intro pins s σ H x y v u Q I rx ry h
 obtain⟨l,b,xs,zs,rfl,rfl,hH,hB,hz,q⟩:=h
 cases rx
 cases ry
 obtain⟨z,its,n,r,hl,e⟩:=I.qax hH
 obtain⟨z2,its2,n2,r2,hl2,e2⟩:=I.qax hB
 refine PySem.P.add_list e e2 ?_ (by rw[List.size_toArray,List.size_toArray];lia)
 have ea:its.toArray++its2.toArray=(its++its2).toArray:=by simp
 rw[ea]
 exact⟨.ref _,_,I.qe4 (t':=s.toks) (r.append r2) (by rw[List.length_append];lia),rfl,q _ I.fresh⟩
noncomputable def qh6:R2:=fun x y H Q=>∃ l k xs,x = .ref l/\y = .int k/\H l=some (.lst xs) /\ -(2^63) <= k/\k<2^63/\xs.length*k.toNat <= sizeLine /\
 ∀ p,H p=none->Q (.ref p) (upd H p (.lst (List.replicate k.toNat xs).flatten))
theorem len_rep {α:Type} (xs:List α) (k:Nat):(List.replicate k xs).flatten.length=k*xs.length:=by
 induction k with
 | zero=>simp
 | succ k ih=>rw[List.replicate_succ,List.flatten_cons,List.length_append,ih,Nat.succ_mul,Nat.add_comm]
theorem ZG:OpR X (binaryOp .Mult) qh6:=by
 intro pins s σ H x y v u Q I rx ry h
 obtain⟨l,k,xs,rfl,rfl,hH,h1,h2,hz,q⟩:=h
 cases rx
 obtain⟨t,rfl⟩:=ry
 obtain⟨z,its,n,r,hl,e⟩:=I.qax hH
 have hlen:its.toArray.size*k.toNat <= sizeLine:=by rw[List.size_toArray,<- hl];exact hz
 have hcap:¬ its.toArray.size*k.toNat>(2^63-1) / 8:=by
  have:(sizeLine:Nat) <= (2^63-1) / 8:=by decide
  lia
 have hfit:¬ (!Builtin.List.listFitsIndex k)=true:=by
  rw[fitsIndex_both h1 h2]
  exact Bool.false_ne_true
 have hlong:¬ Builtin.List.listTooLong (its.toArray.size*k.toNat)=true:=by
  rw[Wf hlen]
  exact Bool.false_ne_true
 have hnew:List.foldl (fun x1 x2=>x1++x2) #[] (List.replicate (if its.toArray.isEmpty=true then 0 else k.toNat) its.toArray)=(List.replicate k.toNat its).flatten.toArray:=by
  have f0:∀ m:Nat,List.foldl (fun x1 x2=>x1++x2) #[] (List.replicate m its.toArray)=(List.replicate m its).flatten.toArray:=fun m=>by
   have:=foldl_rep its m []
   rw[List.nil_append] at this
   exact this
  rw[f0]
  cases its with
  | nil=>simp
  | cons a r'=>rw[if_neg (by simp)]
 refine wpAny_binaryOp_repeat_ref (T:="list") (U:="int") (by decide) ⟨_,e,rfl⟩ (fun s'=>typeIs_int s' k t) noFill_list_mul F.fills_int_mul F.slot_int_rmul repeat_list F.slot_int_index.lookup
  (call_meets F.slot_int_rmul (typeIs_int s k t) F.entry_int_rmul (F.args_int_rmul_2 _ _) (int___rmul___int_list k t l its.toArray n)
   ⟨e,rfl,⟨_,e,rfl⟩,call_meets F.slot_list_mul ⟨_,e,rfl⟩ F.entry_list_mul (F.args_list_mul_2 _ _) (AutoListH.list___mul___list_int_3 l its.toArray n k t hfit hcap hlong) ⟨e,?_⟩⟩)
 rw[hnew]
 exact⟨.ref _,_,I.qe4 (t':=s.toks) (r.rep k.toNat) (by rw[len_rep,Nat.mul_comm];exact hz),rfl,q _ I.fresh⟩
end
mutual
inductive Dp (K:PySem.W.Frag) (H:Hp):V->PyData->Prop
 | non:Dp K H .non .none
 | bl (b:Bool):Dp K H (.bl b) (.bool b)
 | int (i:Int):Dp K H (.int i) (.int i)
 | str (x:Str):Dp K H (.str x) (.str x)
 | lst {a:Addr}{xs:List V}{ds:List PyData}:SqL K H a xs->ZD K H xs ds->Dp K H (.ref a) (.list ds)
 | tup {a:Addr}{xs:List V}{ds:List PyData}:SqT K H a xs->ZD K H xs ds->Dp K H (.ref a) (.tuple ds)
inductive ZD (K:PySem.W.Frag) (H:Hp):List V->List PyData->Prop
 | nil:ZD K H [] []
 | cons {v:V}{vs:List V}{d:PyData}{ds:List PyData}:Dp K H v d->ZD K H vs ds->ZD K H (v::vs) (d::ds)
end
section
variable {X:Cx}{pins:List (Addr × Obj)}{σ:St}{H:Hp}{s:Shared}
mutual
theorem Dp.reads (I:Inv X pins σ H s):∀ (d:PyData) (v:V) (u:Value),Dp X.K H v d->RelV v u->∃ as,Reads s.heap u d as
 | .none,_,_,h,r=>by
  cases h
  cases r
  exact⟨_,Reads.none⟩
 | .bool b,_,_,h,r=>by
  cases h
  cases r
  exact⟨_,Reads.bool b⟩
 | .int i,_,_,h,r=>by
  cases h
  obtain⟨t,rfl⟩:=r
  exact⟨_,Reads.int i t⟩
 | .str x,_,_,h,r=>by
  cases h
  obtain⟨t,rfl⟩:=r
  exact⟨_,Reads.str x t⟩
 | .list ds,_,_,h,r=>by
  cases h with
  | lst hs ha =>
   cases r
   obtain⟨its,rv,⟨o,n,ho,hc,_,hd⟩,_⟩:=I.list hs
   obtain⟨as,hr⟩:=Dp.readsAll I ds _ its ha rv
   exact⟨_,Reads.list ho hc hd hr⟩
 | .tuple ds,_,_,h,r=>by
  cases h with
  | tup hs ha =>
   cases r
   obtain⟨its,rv,⟨o,ho,hc,n,hd⟩,_⟩:=I.tuple hs
   obtain⟨as,hr⟩:=Dp.readsAll I ds _ its ha rv
   exact⟨_,Reads.tuple ho hc hd hr⟩
 | .dict _,_,_,h,_=>by cases h
theorem Dp.readsAll (I:Inv X pins σ H s):∀ (ds:List PyData) (vs:List V) (us:List Value),ZD X.K H vs ds->Vals vs us->∃ as,ReadsAll s.heap us ds as
 | [],_,_,h,r=>by
  cases h
  cases r
  exact⟨_,ReadsAll.nil⟩
 | d::ds,_,_,h,r=>by
  cases h with
  | cons h1 h2 =>
   cases r with
   | cons r1 r2 =>
    obtain⟨as,q1⟩:=Dp.reads I d _ _ h1 r1
    obtain⟨bs,q2⟩:=Dp.readsAll I ds _ _ h2 r2
    exact⟨_,ReadsAll.cons q1 q2⟩
end
end
section
variable {X:Cx}
noncomputable def qgI (K:PySem.W.Frag):R2:=fun x y H Q=>∃ d e,Dp K H x d/\Dp K H y e/\SeqAt.shaped d=true/\SeqAt.shaped e=true/\Q (.bl (PyData.eqv d e)) H
noncomputable def qhq (K:PySem.W.Frag):R2:=fun x y H Q=>∃ d e,Dp K H x d/\Dp K H y e/\SeqAt.shaped d=true/\SeqAt.shaped e=true/\Q (.bl (!PyData.eqv d e)) H
theorem qhh (hu:X.A.units+64<cLine):OpR X (compareOp .Eq) (qgI X.K):=by
 intro pins s σ H x y v u Q I rx ry h
 obtain⟨d,e,hd,he,sd,se,q⟩:=h
 obtain⟨as,r1⟩:=Dp.reads I d x v hd rx
 obtain⟨bs,r2⟩:=Dp.reads I e y u he ry
 exact SeqAt.compareEq_shaped r1 r2 sd se hu ⟨.bl _,H,I,rfl,q⟩
theorem qgt (hu:X.A.units+64<cLine):OpR X (compareOp .NotEq) (qhq X.K):=by
 intro pins s σ H x y v u Q I rx ry h
 obtain⟨d,e,hd,he,sd,se,q⟩:=h
 obtain⟨as,r1⟩:=Dp.reads I d x v hd rx
 obtain⟨bs,r2⟩:=Dp.reads I e y u he ry
 exact SeqAt.compareNe_shaped r1 r2 sd se hu ⟨.bl _,H,I,rfl,q⟩
end
noncomputable abbrev qdn (h:Heap) (c:Addr) (v:Option Value):Prop:=h.IsCell c v
noncomputable def qiv (scope sc:Scope):Scope :=
 {scope with names:=scope.names.map fun (n,k)=>if (k == .free&&sc.kind == .function&&sc.names.lookup n==some .cell) then (n,.cell) else (n,k)}
noncomputable def qX (cells:List (Str × Addr)):List (Str × NameKind)->List (Str × Addr)->List (Str × Addr)
 | [],acc=>acc
 | (n,k)::r,acc=>if k == .free then qX cells r ((n,(cells.lookup n).getD 0)::acc) else qX cells r acc
theorem Qg (env:Env) (f:Str × NameKind->List (Str × Addr)->Sem (ForInStep (List (Str × Addr))))
  (hf:∀ n k c,f (n,k) c=if k == .free then (do let a <- cellOf env n;pure (.yield ((n,a)::c))) else pure (.yield c)) :
  ∀ (names:List (Str × NameKind)) (acc:List (Str × Addr)),(∀ y∈names,y.2 = .free->∃ c,env.cells.lookup y.1=some c)->forIn names acc f=pure (qX env.cells names acc)
 | [],acc,_=>by rw[List.forIn_nil];rfl
 | (n,k)::r,acc,h=>by
  rw[List.forIn_cons,hf]
  have ih:=fun acc=>Qg env f hf r acc fun y hy=>h y (List.mem_cons_of_mem _ hy)
  unfold qX
  by_cases hk:(k==NameKind.free)=true
  ·rw[if_pos hk,if_pos hk]
   obtain⟨c,hc⟩:=h (n,k) List.mem_cons_self (by simpa using hk)
   have e:cellOf env n=pure c:=by unfold cellOf;rw[hc]
   rw[e]
   have e2:(env.cells.lookup n).getD 0=c:=by rw[hc];rfl
   rw[e2]
   exact ih _
  ·rw[if_neg hk,if_neg hk]
   exact ih _
theorem Zi {scope:Scope}{env:Env} (h:∀ y∈scope.names,y.2 = .free->∃ c,env.cells.lookup y.1=some c):closureFor scope env=pure (qX env.cells scope.names []):=by
 simp only[closureFor]
 rw[Qg env _ (fun n k c=>rfl) scope.names [] h]
 rfl
theorem mem_lookup {α:Type}:∀ {l:List (Str × α)}{n:Str}{c:α},(n,c)∈l->∃ c',l.lookup n=some c'
 | (k,v)::r,n,c,h=>by
  rw[List.lookup_cons]
  cases hb:n==k with
  | true=>exact⟨_,rfl⟩
  | false =>
   rcases List.mem_cons.mp h with e | h
   ·cases e;simp at hb
   ·exact mem_lookup h
theorem yI {cells:List (Str × Addr)}:∀ {names:List (Str × NameKind)}{acc:List (Str × Addr)}{n:Str}{c:Addr},(n,c)∈qX cells names acc->(n,c)∈acc\/((n,.free)∈names/\c=(cells.lookup n).getD 0)
 | [],_,_,_,h=>.inl h
 | (m,k)::r,acc,n,c,h=>by
  unfold qX at h
  split at h
  ·rename_i hk
   have hk:k = .free:=by simpa using hk
   rcases yI h with h | ⟨h1,h2⟩
   ·rcases List.mem_cons.mp h with e | h
    ·cases e;exact .inr ⟨hk▸List.mem_cons_self,rfl⟩
    ·exact .inl h
   ·exact .inr ⟨List.mem_cons_of_mem _ h1,h2⟩
  ·rcases yI h with h | ⟨h1,h2⟩
   ·exact .inl h
   ·exact .inr ⟨List.mem_cons_of_mem _ h1,h2⟩
theorem ji {cells:List (Str × Addr)}:∀ {names:List (Str × NameKind)}{acc:List (Str × Addr)}{p:Str × Addr},p∈acc->p∈qX cells names acc
 | [],_,_,h=>h
 | (m,k)::r,acc,p,h=>by
  unfold qX
  split
  ·exact ji (List.mem_cons_of_mem _ h)
  ·exact ji h
theorem xB {cells:List (Str × Addr)}:∀ {names:List (Str × NameKind)}{acc:List (Str × Addr)}{n:Str},(n,.free)∈names->(n,(cells.lookup n).getD 0)∈qX cells names acc
 | (m,k)::r,acc,n,h=>by
  unfold qX
  rcases List.mem_cons.mp h with e | h
  ·cases e
   exact ji List.mem_cons_self
  ·split
   ·exact xB h
   ·exact xB h
theorem ub:∀ {names:List (Str × NameKind)}{h:Heap}{acc:List (Str × Addr)}{x:Str}{c:Addr},(x,c)∈cellsFrom h.objs.size names acc ->
  (x,c)∈acc\/((x,.cell)∈names/\h.objs.size <= c/\qdn (pushCells h names) c none)
 | [],_,_,_,_,h=>.inl h
 | (n,k)::r,h,acc,x,c,hm=>by
  unfold cellsFrom at hm
  unfold pushCells
  split at hm
  ·rename_i hk
   rw[if_pos hk]
   have hk:k = .cell:=by simpa using hk
   rw[<- Heap.size_push h {cls:=.type "cell",data:=.cell none}] at hm
   rcases ub hm with hm | ⟨h1,h2,h3⟩
   ·rcases List.mem_cons.mp hm with e | hm
    ·cases e
     exact .inr ⟨hk▸List.mem_cons_self,Nat.le_refl _,_,pushCells_keeps r _ _ _ (Heap.get?_push_size _ rfl),rfl⟩
    ·exact .inl hm
   ·rw[Heap.size_push] at h2
    exact .inr ⟨List.mem_cons_of_mem _ h1,Nat.le_of_succ_le h2,h3⟩
  ·rename_i hk
   rw[if_neg hk]
   rcases ub hm with hm | ⟨h1,h2,h3⟩
   ·exact .inl hm
   ·exact .inr ⟨List.mem_cons_of_mem _ h1,h2,h3⟩
theorem jn:∀ {names:List (Str × NameKind)}{n:Nat}{acc:List (Str × Addr)}{p:Str × Addr},p∈acc->p∈cellsFrom n names acc
 | [],_,_,_,h=>h
 | (m,k)::r,n,acc,p,h=>by
  unfold cellsFrom
  split
  ·exact jn (List.mem_cons_of_mem _ h)
  ·exact jn h
theorem Q4:∀ {names:List (Str × NameKind)}{n:Nat}{acc:List (Str × Addr)}{x:Str},(x,.cell)∈names->∃ c,(x,c)∈cellsFrom n names acc
 | (m,k)::r,n,acc,x,h=>by
  unfold cellsFrom
  rcases List.mem_cons.mp h with e | h
  ·cases e
   exact⟨n,jn List.mem_cons_self⟩
  ·split
   ·exact Q4 h
   ·exact Q4 h
theorem Q1:∀ {names:List (Str × NameKind)}{h:Heap}{acc:List (Str × Addr)}{x y:Str}{c:Addr},(∀ p∈acc,p.2<h.objs.size)->(∀ x y c,(x,c)∈acc->(y,c)∈acc->x=y) ->
  (x,c)∈cellsFrom h.objs.size names acc->(y,c)∈cellsFrom h.objs.size names acc->x=y
 | [],_,_,_,_,_,_,hi,h1,h2=>hi _ _ _ h1 h2
 | (n,k)::r,h,acc,x,y,c,hl,hi,h1,h2=>by
  unfold cellsFrom at h1 h2
  split at h1
  ·rename_i hk
   rw[if_pos hk] at h2
   rw[<- Heap.size_push h {cls:=.type "cell",data:=.cell none}] at h1 h2
   refine Q1 (h:=h.push _) (fun p hp=>?_) (fun x y c a b=>?_) h1 h2
   ·rw[Heap.size_push]
    rcases List.mem_cons.mp hp with rfl | hp
    ·exact Nat.lt_succ_self _
    ·exact Nat.lt_succ_of_lt (hl p hp)
   ·rcases List.mem_cons.mp a with e | a <;> rcases List.mem_cons.mp b with e' | b
    ·cases e;cases e';rfl
    ·cases e;exact absurd (hl _ b) (Nat.lt_irrefl _)
    ·cases e';exact absurd (hl _ a) (Nat.lt_irrefl _)
    ·exact hi _ _ _ a b
  ·rename_i hk
   rw[if_neg hk] at h2
   exact Q1 hl hi h1 h2
theorem X6 {M:Model}{A:Around}{E:Value->Shared->Prop}{s:Shared}{scope:Scope}{globals:Addr}{closure:List (Str × Addr)}{qual:Str}{func:Option Addr}{code:Value}{around:Env}{builtins:Addr}{Q:Env->Shared->Prop}
  (h:Q (newEnv scope s.heap.objs.size globals (cellsFrom (s.heap.objs.size+1) scope.names closure) qual func code (some around) builtins)
   {s with heap:=pushCells (s.heap.push {cls:=.type "dict",data:=.dict #[]}) scope.names}) :
  wpAny M A (newFunctionEnv scope globals closure [] qual func code (some around) builtins) Q E s:=by
 simp only[newFunctionEnv,Option.isSome_some,if_true]
 refine wpAny_bind (wpAny_alloc ?_)
 refine wpAny_bind (wpAny_layCells _ (fun n k c=>rfl) scope.names closure _ _ ?_)
 rw[show ({s with heap:=s.heap.push {cls:=.type "dict",data:=.dict #[]} }:Shared).heap.objs.size=s.heap.objs.size+1 from Heap.size_push ..]
 rw[List.forIn_nil]
 exact wpAny_bind (wpAny_pure (wpAny_pure h))
theorem u6 {sc:Scope}:∀ {names:List (Str × NameKind)}{x:Str}{k:NameKind},
  (names.map fun (n,k)=>if (k==NameKind.free&&sc.kind == .function&&sc.names.lookup n==some .cell) then (n,NameKind.cell) else (n,k)).lookup x=some k ->
  ∃ k',names.lookup x=some k'/\(k=k'\/(k' = .free/\k = .cell))
 | [],_,_,h=>by simp at h
 | (n,k₀)::r,x,k,h=>by
  have ih := @u6 sc r x k
  have h':List.lookup x ((if (k₀==NameKind.free&&sc.kind == .function&&sc.names.lookup n==some .cell)=true then (n,NameKind.cell) else (n,k₀))::(r.map _))=some k:=h
  cases hx:x==n with
  | true =>
   simp only[List.lookup_cons,hx]
   by_cases hc:(k₀==NameKind.free&&sc.kind == .function&&sc.names.lookup n==some .cell)=true
   ·rw[if_pos hc] at h'
    simp only[List.lookup_cons,hx] at h'
    cases h'
    simp only[Bool.and_eq_true,beq_iff_eq] at hc
    exact⟨k₀,rfl,.inr ⟨hc.1.1,rfl⟩⟩
   ·rw[if_neg hc] at h'
    simp only[List.lookup_cons,hx] at h'
    cases h'
    exact⟨_,rfl,.inl rfl⟩
  | false =>
   simp only[List.lookup_cons,hx]
   by_cases hc:(k₀==NameKind.free&&sc.kind == .function&&sc.names.lookup n==some .cell)=true
   ·rw[if_pos hc] at h'
    simp only[List.lookup_cons,hx] at h'
    exact ih h'
   ·rw[if_neg hc] at h'
    simp only[List.lookup_cons,hx] at h'
    exact ih h'
structure qbf (N:List Str) (sc scope:Scope) (own:List (Str × Nat)):Prop where
 kind:scope.kind = .function
 uniq:∀ y∈scope.names,scope.names.lookup y.1=some y.2
 ix:∀ p∈own,N[p.2]?=some p.1
 free:∀ y∈scope.names,y.2 = .free->sc.names.lookup y.1=some .cell\/sc.names.lookup y.1=some .free
 own:∀ y∈scope.names,y.2 = .local\/y.2 = .cell->y.1∈own.map (·.1)\/y.1∉N
noncomputable def wipe (σ:St):List Nat->St
 | []=>σ
 | v::vs=>(wipe σ vs).set v none
theorem wB (σ:St):∀ vs:List Nat,(wipe σ vs).length=σ.length
 | []=>rfl
 | v::vs=>by unfold wipe;rw[List.length_set,wB σ vs]
theorem z5 {σ:St}{i:Nat}{x:V}:∀ {vs:List Nat},(wipe σ vs)[i]?=some (some x)->σ[i]?=some (some x)/\i∉vs
 | [],h=>⟨h,by simp⟩
 | v::vs,h=>by
  unfold wipe at h
  by_cases hi:v=i
  ·subst hi
   by_cases hv:v<(wipe σ vs).length
   ·rw[List.getElem?_set_self hv] at h;cases h
   ·rw[List.getElem?_eq_none (by simpa using hv)] at h;cases h
  ·rw[List.getElem?_set_ne hi] at h
   obtain⟨h1,h2⟩:=z5 h
   exact⟨h1,by simp only[List.mem_cons,not_or];exact⟨fun e=>hi e.symm,h2⟩⟩
noncomputable abbrev Cx.blk (X:Cx) (s:Shared) (H:Hp) (scope:Scope) (cenv:Env) (fp:List Addr):Cx:={X with s_0:=s,H_0:=H,env:=cenv,outer:=X.stack,ex:=fp,fn:=fun x=>scope.names.lookup x==some .cell,pn:=[],xe:=fun _ _=>False}
section
variable {X:Cx}{pins:List (Addr × Obj)}{σ:St}{H:Hp}{s:Shared}
theorem U1 {scope:Scope}{own:List (Str × Nat)}{fp:List Addr} (I:Inv X pins σ H s) (ok:qbf X.N X.env.scope scope own) (hN:X.N.Nodup) (hfp:∀ b∈fp,Q8 X pins H b/\b<s.heap.objs.size) :
  Inv (X.blk s H scope (compEnvC scope (cellsFrom (s.heap.objs.size+1) scope.names (qX X.env.cells scope.names [])) s.heap.objs.size X.env) fp) [] (wipe σ (own.map (·.2))) H {s with heap:=pushCells (s.heap.push {cls:=.type "dict",data:=.dict #[]}) scope.names}:=by
 have hfree:∀ y∈scope.names,y.2 = .free->∃ c,X.env.cells.lookup y.1=some c:=fun y hy e=>by
  rcases ok.free y hy e with k | k
  ·exact I.ok.has _ (.inl k)
  ·exact I.ok.has _ (.inr k)
 generalize hcenv:compEnvC scope (cellsFrom (s.heap.objs.size+1) scope.names (qX X.env.cells scope.names [])) s.heap.objs.size X.env=cenv
 have kp:∀ b o,s.heap.get? b=some o->(pushCells (s.heap.push {cls:=.type "dict",data:=.dict #[]}) scope.names).get? b=some o:=fun b o e=>pushCells_keeps _ _ _ _ (Heap.get?_push_of_some _ e)
 have hL:cenv.locals=s.heap.objs.size:=by rw[<- hcenv];rfl
 have hcl:cenv.cells=cellsFrom (s.heap.objs.size+1) scope.names (qX X.env.cells scope.names []):=by rw[<- hcenv];rfl
 have hsc:cenv.scope=qiv scope X.env.scope:=by rw[<- hcenv];rfl
 rw[<- Heap.size_push s.heap {cls:=.type "dict",data:=.dict #[]}] at hcl
 have cm:∀ {y c},(y,c)∈qX X.env.cells scope.names []->X.env.cells.lookup y=some c/\c<s.heap.objs.size:=fun {y c} hm=>by
  rcases yI hm with hm | ⟨h1,rfl⟩
  ·cases hm
  ·obtain⟨c,hc⟩:=hfree _ h1 rfl
   rw[hc]
   obtain⟨w,z⟩:=I.cell _ _ hc
   exact⟨rfl,z.lt⟩
 have mem:∀ {y c},cenv.cells.lookup y=some c->(X.env.cells.lookup y=some c/\c<s.heap.objs.size)\/(s.heap.objs.size+1 <= c/\qdn (pushCells (s.heap.push {cls:=.type "dict",data:=.dict #[]}) scope.names) c none):=fun {y c} e=>by
  rw[hcl] at e
  rcases ub (PySem.mem_of_lookup e) with hm | ⟨_,h2,h3⟩
  ·exact .inl (cm hm)
  ·rw[Heap.size_push] at h2;exact .inr ⟨h2,h3⟩
 have look:∀ {y},scope.names.lookup y=some .free->∃ c,cenv.cells.lookup y=some c/\X.env.cells.lookup y=some c:=fun {y} hl=>by
  have hy:(y,NameKind.free)∈scope.names:=PySem.mem_of_lookup hl
  obtain⟨c',e'⟩:=mem_lookup (jn (names:=scope.names) (n:=(s.heap.push {cls:=.type "dict",data:=.dict #[]}).objs.size) (xB (cells:=X.env.cells) (acc:=[]) hy))
  rw[<- hcl] at e'
  refine⟨c',e',?_⟩
  rw[hcl] at e'
  rcases ub (PySem.mem_of_lookup e') with hm | ⟨h1,_,_⟩
  ·exact (cm hm).1
  ·have:=ok.uniq _ h1
   rw[hl] at this;cases this
 have okB:(X.blk s H scope cenv fp).Ok:=by
  refine⟨I.ok.mod,by show cenv.scope.kind=_;rw[hsc];exact ok.kind,by show cenv.globals=_;rw[<- hcenv];exact I.ok.glob,by show cenv.builtins=_;rw[<- hcenv];exact I.ok.blt,by show s.heap.objs.size <= cenv.locals;rw[hL];exact Nat.le_refl _,
   fun y z c e1 e2=>?_,fun y hy=>?_,fun y c z e=>?_,I.ok.hd,I.ok.frames,.inl rfl,fun b hb=>⟨?_,fun y c e z=>?_⟩,I.bs,Nat.le_trans I.ok.bsz I.sz,fun b o e hb=>?_,fun b hb z=>?_,I.stack,I.Xt⟩
  ·have e1:cenv.cells.lookup y=some c:=e1
   have e2:cenv.cells.lookup z=some c:=e2
   rw[hcl] at e1 e2
   refine Q1 (fun p hp=>?_) (fun y z c a b=>I.ok.inj y z c (cm a).1 (cm b).1) (PySem.mem_of_lookup e1) (PySem.mem_of_lookup e2)
   rw[Heap.size_push]
   exact Nat.lt_succ_of_lt (cm (y:=p.1) (c:=p.2) hp).2
  ·show ∃ c,cenv.cells.lookup y=some c
   have key:∀ k,cenv.kindOf y=some k->(k = .cell\/k = .free)->∃ c,cenv.cells.lookup y=some c:=fun k hk hk'=>by
    unfold Env.kindOf at hk
    rw[hsc] at hk
    obtain⟨k',e,r⟩:=u6 hk
    have:k' = .cell\/k' = .free:=by
     rcases r with rfl | ⟨rfl,_⟩
     ·exact hk'
     ·exact .inr rfl
    rcases this with rfl | rfl
    ·obtain⟨c,hm⟩:=Q4 (n:=(s.heap.push {cls:=.type "dict",data:=.dict #[]}).objs.size) (acc:=qX X.env.cells scope.names []) (PySem.mem_of_lookup e)
     obtain⟨c',e'⟩:=mem_lookup hm
     exact⟨c',by rw[hcl];exact e'⟩
    ·obtain⟨c,h1,_⟩:=look e
     exact⟨c,h1⟩
   rcases hy with hy | hy
   ·exact key _ hy (.inl rfl)
   ·exact key _ hy (.inr rfl)
  ·have z:(scope.names.lookup y==some NameKind.cell)=true:=z
   have z:scope.names.lookup y=some .cell:=by simpa using z
   have e:cenv.cells.lookup y=some c:=e
   rw[hcl] at e
   rcases ub (PySem.mem_of_lookup e) with hm | ⟨_,h2,_⟩
   ·rcases yI hm with hm | ⟨h1,_⟩
    ·cases hm
    ·have q:=ok.uniq _ h1
     rw[z] at q;cases q
   ·rw[Heap.size_push] at h2
    exact Nat.le_of_succ_le h2
  ·show b≠cenv.locals
   rw[hL];exact Nat.ne_of_lt (hfp b hb).2
  ·have e:cenv.cells.lookup y=some c:=e
   rcases mem e with ⟨h1,_⟩ | ⟨h1,_⟩
   ·exact (hfp b hb).1.2.2.2.2.1 y c h1 z
   ·have h2:s.heap.objs.size+1 <= b:=by rw[<- z];exact h1
    exact absurd (Nat.lt_of_lt_of_le (hfp b hb).2 (Nat.le_of_succ_le h2)) (Nat.lt_irrefl _)
  ·rcases (hfp b hb).1.2.2.2.1 with z | z
   ·exact I.ok.noex b o e z
   ·exact absurd (Nat.lt_of_lt_of_le (Heap.lt_size e) (Nat.le_trans I.ok.bsz z)) (Nat.lt_irrefl _)
  ·rcases List.mem_cons.mp (I.xQ b z) with z | z
   ·exact (hfp b hb).1.2.1 z
   ·exact (hfp b hb).1.2.2.1 z
 refine⟨okB,rfl,I.bare,Un.kept kp,⟨fun _=>none,?_,fun i y av e1 e2 e3=>?_⟩,fun y c e=>?_,?_,fun y c e=>?_,fun p hp=>?_,I.hok.kept kp,by rw[wB];exact I.len⟩
 ·show Heap.Ns _ cenv.locals _
  rw[hL]
  exact Heap.Ns.keeps (Heap.Ns.new ..) fun b o e=>pushCells_keeps _ _ _ _ e
 ·obtain⟨e2,hne⟩:=z5 e2
  have hfr:scope.names.lookup y=some .free/\(cenv.kindOf y=some .cell\/cenv.kindOf y=some .free):=by
   have key:∀ k,cenv.scope.names.lookup y=some k->k = .local\/k = .cell\/k = .free->scope.names.lookup y=some .free/\(cenv.kindOf y=some .cell\/cenv.kindOf y=some .free):=fun k hk hk'=>by
    have hk0:=hk
    rw[hsc] at hk
    obtain⟨k',e,r⟩:=u6 hk
    have no:¬ (k' = .local\/k' = .cell):=fun hh=>by
     rcases ok.own _ (PySem.mem_of_lookup e) hh with e' | e'
     ·obtain⟨p,hp,hpy⟩:=List.mem_map.mp e'
      have e3:=ok.ix p hp
      have:p.1=y:=hpy
      rw[this] at e3
      exact hne (List.mem_map.mpr ⟨p,hp,ZC hN e3 e1⟩)
     ·exact e' (List.mem_of_getElem? e1)
    rcases r with rfl | ⟨rfl,rfl⟩
    ·rcases hk' with rfl | rfl | rfl
     ·exact absurd (.inl rfl) no
     ·exact absurd (.inr rfl) no
     ·exact⟨e,.inr hk0⟩
    ·exact⟨e,.inl hk0⟩
   have e3:Vis cenv.scope y:=e3
   rcases e3 with e3 | e3 | e3
   ·exact key _ e3 (.inl rfl)
   ·exact key _ e3 (.inr (.inl rfl))
   ·exact key _ e3 (.inr (.inr rfl))
  obtain⟨m,hn,hl⟩:=I.loc
  have hvis:Vis X.env.scope y:=(ok.free _ (PySem.mem_of_lookup hfr.1) rfl).elim (fun k=>.inr (.inl k)) (fun k=>.inr (.inr k))
  obtain⟨w,r,q⟩:=hl i y av e1 e2 hvis
  refine⟨w,r,.inr ⟨hfr.2,?_⟩⟩
  obtain⟨c,h1,h2⟩:=look hfr.1
  rcases q with ⟨k,_⟩ | ⟨_,c',e',z⟩
  ·have k:X.env.scope.names.lookup y=some .local:=k
   rcases ok.free _ (PySem.mem_of_lookup hfr.1) rfl with k' | k' <;> rw[show X.env.scope.names.lookup y=_ from k'] at k <;> cases k
  ·rw[h2] at e';cases e'
   exact⟨c,h1,z.keeps kp⟩
 ·have e:cenv.cells.lookup y=some c:=e
  rcases mem e with ⟨h1,_⟩ | ⟨_,z⟩
  ·obtain⟨w,z⟩:=I.cell y c h1
   exact⟨w,z.keeps kp⟩
  ·exact⟨_,z⟩
 ·show H cenv.locals=none
  rw[hL];exact I.hok.fresh (Nat.le_refl _)
 ·have e:cenv.cells.lookup y=some c:=e
  rcases mem e with ⟨h1,_⟩ | ⟨h1,_⟩
  ·exact I.freeC y c h1
  ·exact I.hok.fresh (Nat.le_of_succ_le h1)
 ·exact absurd (show p∈([]:List (Addr × Obj))++[] from hp) (by simp)
theorem qg3 {E:Value->Shared->Prop}{D:Addr}{xs:List V}{y:V}{v:Value}{Q:Value->Shared->Prop} (I:Inv X pins σ H s) (hD:H D=some (.lst xs)) (hz:xs.length<sizeLine) (r:RelV y v)
  (h:∀ s',Inv X pins σ (upd H D (.lst (xs++[y]))) s'->Q .none s'):wpAny (model X.prog X.w) X.A (call (.builtin "list.append") [.ref D,v]) Q E s:=by
 obtain⟨hz',its,n,ri,e⟩:=I.hok D _ hD
 have hl:=ri.length
 refine append_at (hsz:=by rw[List.size_toArray];lia) e fun h' sb ho'=>?_
 refine h {s with heap:=h'} (I.write (t':=s.toks) (by rw[hD];trivial) (.inl rfl) (fun b u hb q=>(sb.2 b hb).trans q) ⟨_,ho'⟩ ⟨by rw[List.length_append];exact hz,its++[v],n+1,ri.append (.cons r .nil),?_⟩)
 rw[ho']
 simp
noncomputable def PTs (X:Cx) (ifs:List Expr) (t:TT):Prop :=
 ∀ (pins:List (Addr × Obj)) (s:Shared) (σ:St) (H:Hp) (Q:Bool->Hp->Prop),Inv X pins σ H s->t σ H Q ->
  wpAny (model X.prog X.w) X.A (forIn ifs true fun c r=>if r=true then do let ok <- isTrue c X.env (eval c X.env);pure (ForInStep.yield ok) else pure (ForInStep.yield r)) (TP X pins σ Q) X.xe s
noncomputable def xx:TT:=fun _ H Q=>Q true H
theorem qe0:PTs X [] xx:=fun _ _ _ H _ I h=>wpAny_tests_nil ⟨H,I,h⟩
end
theorem qhe {α:Type}{t:Sem α}{Q Q':α->Shared->Prop}{M:Model}{A:Around}{E:Value->Shared->Prop}{s:Shared} (h:wpAny M A t Q (fun _ _=>False) s) (hQ:∀ a s,Q a s->Q' a s):wpAny M A t Q' E s:=wpAny_mono h hQ fun _ _ z=>False.elim z
theorem XX {prog:Program}{w:World}{A:Around}{R:Result->Shared->Prop}{s:Shared}{elt target iter:Expr}{ifs:List Expr}{scope:Scope}{pos:Pos}{it acc:Value}{env:Env} (I:Nat->Shared->Prop)
  (turn:∀ n s,I n s->wpAny (model prog w) A (pyNext it) (fun r s₁=>match r with
   | none=>R (.ok .next) s₁
   | some v=>wpAny (model prog w) A (letOwnedTupleGo target it v) (fun _ s₁'=>wpAny (model prog w) A (assign target env v) (fun _ s₂ =>
     wpAny (model prog w) A (forIn ifs true fun c r=>if r=true then do let ok <- isTrue c env (eval c env);pure (ForInStep.yield ok) else pure (ForInStep.yield r)) (fun ok s₃ =>
      if ok=true then wpAny (model prog w) A (eval elt env) (fun x s₄ =>
       wpAny (model prog w) A (call (.builtin "list.append") [acc,x]) (fun _ s₅=>∃ m,m<n/\I m s₅) (notedBy (model prog w) A env fun e s'=>R (.error e) s') s₄) (notedBy (model prog w) A env fun e s'=>R (.error e) s') s₃
      else ∃ m,m<n/\I m s₃) (notedBy (model prog w) A env fun e s'=>R (.error e) s') s₂) (notedBy (model prog w) A env fun e s'=>R (.error e) s') s₁') (notedBy (model prog w) A env fun e s'=>R (.error e) s') s₁) (notedBy (model prog w) A env fun e s'=>R (.error e) s') s)
  (n:Nat) (h:I n s) :
  codeAny (model prog w) A (.compLoop (.ListComp elt [⟨target,iter,ifs,0⟩] scope pos) 0 it acc env) R s:=by
 refine codeAny_loop rfl I (fun n s hI=>?_) n h
 show wpAny _ A ((compTurn (.ListComp elt [⟨target,iter,ifs,0⟩] scope pos) 0 it acc env).onRaise (fun x=>do noteFrame x env;theTreesLotGoes x)) _ _ s
 refine wpAny_noted ?_
 rw[compTurn_list]
 refine wpAny_bind (wpAny_standAt (wpAny_bind (wpAny_mono (turn n s hI) (fun r s₁ h₁=>?_) fun _ _ h'=>h')))
 cases r with
 | none=>exact wpAny_pure h₁
 | some v =>
  refine wpAny_bind (wpAny_mono h₁ (fun _ s₁' h₁'=>?_) fun _ _ h'=>h')
  refine wpAny_bind (wpAny_mono h₁' (fun _ s₂ h₂=>wpAny_bind (wpAny_mono h₂ (fun ok s₃ h₃=>?_) fun _ _ h'=>h')) fun _ _ h'=>h')
  cases ok with
  | false=>exact wpAny_pure ⟨rfl,h₃⟩
  | true =>
   exact wpAny_bind (wpAny_bind (wpAny_mono h₃ (fun x s₄ h₄=>wpAny_bind (wpAny_mono h₄ (fun _ s₅ h₅=>wpAny_pure (wpAny_pure ⟨rfl,h₅⟩)) fun _ _ h'=>h')) fun _ _ h'=>h'))
section
variable {X:Cx}
noncomputable def tLc (wi:TI) (g:TG) (tt:TT) (te:TE) (vs:List Nat):TE:=fun σ H Q=>wi σ H fun J H1=>∀ D,H1 D=none->∃ W:Nat->Nat->Hp->Prop,(∃ m,W 0 m (upd H1 D (.lst [])))/\∀ i m H,W i m H ->
 (J.stop i H/\Q (.ref D) H)\/(J.go i H/\∃ Nx:Hp->Prop,(∀ H',Nx H'->∃ m',m'<m/\W (i+1) m' H')/\∀ x H',J.yld i H x H'->g x (wipe σ vs) H' fun σ2 H2=>wipe σ2 vs=wipe σ vs/\tt σ2 H2 fun b H3 =>
  if b=true then te σ2 H3 fun y H4=>∃ acc,H4 D=some (.lst acc)/\acc.length<sizeLine/\Nx (upd H4 D (.lst (acc++[y]))) else Nx H3)
end
noncomputable def Wq (N:List Str) (sc scope:Scope) (own:List (Str × Nat)):Bool :=
 (match scope.kind with | .function=>true | _=>false)&&(scope.names.all fun y=>decide (scope.names.lookup y.1=some y.2))&&(own.all fun p=>decide (N[p.2]?=some p.1)) &&
  (scope.names.all fun y=>match y.2 with
   | .free=>(match sc.names.lookup y.1 with | some .cell=>true | some .free=>true | _=>false)
   | .local=>decide (y.1∈own.map (·.1))||decide (y.1∉N)
   | .cell=>decide (y.1∈own.map (·.1))||decide (y.1∉N)
   | _=>true)
theorem X0 {N:List Str}{sc scope:Scope}{own:List (Str × Nat)} (h:Wq N sc scope own=true):qbf N sc scope own:=by
 unfold Wq at h
 simp only[Bool.and_eq_true,List.all_eq_true,decide_eq_true_eq] at h
 obtain⟨⟨⟨h1,h2⟩,h3⟩,h4⟩:=h
 refine⟨?_,h2,h3,fun y hy e=>?_,fun y hy e=>?_⟩
 ·split at h1
  ·assumption
  ·cases h1
 ·have q:=h4 y hy
  simp only[e] at q
  split at q <;> first | exact .inl (by assumption) | exact .inr (by assumption) | cases q
 ·have q:=h4 y hy
  rcases e with e | e <;> (simp only[e,Bool.or_eq_true,decide_eq_true_eq] at q;exact q)
theorem ja {σ:St}{i:Nat}:∀ {vs:List Nat},i∉vs->(wipe σ vs)[i]?=σ[i]?
 | [],_=>rfl
 | v::vs,h=>by
  have h1:v≠i:=fun e=>h (by rw[e];exact List.mem_cons_self)
  have h2:i∉vs:=fun m=>h (List.mem_cons_of_mem _ m)
  unfold wipe
  rw[List.getElem?_set_ne h1]
  exact ja h2
section
variable {X:Cx}{pins:List (Addr × Obj)}{σ:St}{H:Hp}{s:Shared}{h':Heap}
theorem Inv.qfR {t':Nat}{ch:List Addr} (I:Inv X pins σ H s) (k:∀ b o,b∉ch->s.heap.get? b=some o->h'.get? b=some o) (hf:∀ b∈ch,Q8 X pins H b):Inv X pins σ H {s with heap:=h',toks:=t'}:=by
 have nit:∀ b u,H b=some u->b∉ch:=fun b u e z=>by
  have q:=(hf b z).1
  rw[q] at e;cases e
 refine I.step (g':=s.gens) (d':=s.drawn) (ch:=ch) (fun b hb=>⟨(hf b hb).2.2.2.1,(hf b hb).2.1,(hf b hb).2.2.2.2.1,(hf b hb).2.2.2.2.2⟩) (fun b o _ _ hc e _=>k b o hc e) (fun b o _ _ hc e _=>⟨o.slots,k b o hc e⟩)
  (fun _ _ _ _ n=>n) (fun b o hc e=>⟨o,k b o hc e⟩) (fun _ _ e=>e) (fun _ _ _ e=>e) (fun b ps e=>⟨#[],by rw[e];simp⟩) (fun m hm=>?_) (fun b u e=>?_) I.bare
 ·obtain⟨o,es,ep,ho,r⟩:=hm
  exact⟨o,es,ep,k _ o (fun z=>(hf _ z).2.1 rfl) ho,r⟩
 ·refine (I.hok b u e).ZW (fun c v hc q=>k c v ?_ q) (fun _ q=>q) fun _ _ q=>q
  rcases hc with z | z
  ·rw[z];exact nit b u e
  ·exact nit c _ z
theorem Inv.qcc {t':Nat}{ch:List Addr}{T:Addr}{ob:HO} (I:Inv X pins σ H s) (k:∀ b o,b∉ch->s.heap.get? b=some o->h'.get? b=some o) (hf:∀ b∈ch,Q8 X pins H b) (hT:s.heap.objs.size <= T)
  (new:yd X.prog X.w (upd H T ob) h' T ob):Inv X pins σ (upd H T ob) {s with heap:=h',toks:=t'}:=by
 have hn:H T=none:=I.hok.fresh hT
 have nit:∀ b u,H b=some u->b∉ch:=fun b u e z=>by
  have q:=(hf b z).1
  rw[q] at e;cases e
 refine I.step (g':=s.gens) (d':=s.drawn) (ch:=ch) (fun b hb=>⟨(hf b hb).2.2.2.1,(hf b hb).2.1,(hf b hb).2.2.2.2.1,(hf b hb).2.2.2.2.2⟩) (fun b o _ _ hc e _=>k b o hc e) (fun b o _ _ hc e _=>⟨o.slots,k b o hc e⟩)
  (fun b o _ e n=>?_) (fun b o hc e=>⟨o,k b o hc e⟩) (fun b xs e=>?_) (fun b o u e=>?_) (fun b ps e=>⟨#[],?_⟩) (fun m hm=>?_) (fun b u e=>?_) I.bare
 ·rw[qD (Nat.ne_of_lt (Nat.lt_of_lt_of_le (Heap.lt_size e) hT))];exact n
 ·rw[qD (vz e hn)];exact e
 ·rw[qD (vz e hn)];exact e
 ·rw[qD (vz e hn),e];simp
 ·obtain⟨o,es,ep,ho,r⟩:=hm
  exact⟨o,es,ep,k _ o (fun z=>(hf _ z).2.1 rfl) ho,r⟩
 ·by_cases hb:b=T
  ·subst hb
   rw[qV] at e
   cases e
   exact new
  ·rw[qD hb] at e
   refine (I.hok b u e).ZW (fun c v hc q=>k c v ?_ q) (fun c q=>by rw[qD (vz q hn)];exact q) fun c xs q=>by rw[qD (vz q hn)];exact q
   rcases hc with z | z
   ·rw[z];exact nit b u e
   ·exact nit c _ z
end
section
variable {X:Cx}
theorem qhb {tg:Expr}{pins:List (Addr × Obj)}{σ:St}{H:Hp}{s:Shared}{R:It->Hp->Prop}{J:It}{tn:Nat->Heap->Prop}{tk:Nat} (I:Inv X pins σ H s) (o:Obj)
  (T:Turn X.prog X.w X.K tg J [s.heap.objs.size] s.heap.objs.size tn) (st:tn 0 (s.heap.push o)) (q:R J H):PIE X pins σ tg R (.ref s.heap.objs.size) {s with heap:=s.heap.push o,toks:=tk}:=by
 refine⟨s.heap.objs.size,[s.heap.objs.size],tn,J,H,rfl,I.kept fun b ob e=>Heap.get?_push_of_some _ e,T,st,fun b hb=>?_,q⟩
 have e:b=s.heap.objs.size:=by simpa using hb
 subst e
 exact I.qcp (Nat.le_refl _) (I.hok.fresh (Nat.le_refl _))
end
noncomputable def Itc (lo c:Int) (n:Nat):It:=⟨fun i _=>i<n,fun i H x H'=>H'=H/\x = .int (lo+(i:Nat)*c),fun i _=>n <= i⟩
theorem UL {P:Program}{w:World}{K:PySem.W.Frag}{tg:Expr} (it:Addr) (lo c:Int) (n:Nat):Turn P w K tg (Itc lo c n) [it] it (fun i h=>IsRangeIter h it (lo+(i:Nat)*c) ((n:Int)-(i:Nat)) c) where
 mem:=by simp
 obj:=fun i h st b hb=>by
  have e:b=it:=by simpa using hb
  subst e
  exact⟨_,st,fun v z=>nomatch z⟩
 keep:=fun i h h' st k=>k it (by simp) _ st
 item:=by
  intro X hP hw hK hc i pins s σ H E I hf st hg
  subst hP hw hK
  obtain⟨f0,f1,f2,f3,f4,f5⟩:=hf it (by simp)
  have W:=Walks.range (prog:=X.prog) (w:=X.w) (I.ok.hd hc) it lo c n
  refine W.item i s _ _ hg st fun v h' tk hv st' kk=>?_
  obtain⟨t,rfl⟩:=hv
  have I1:Inv X pins σ H {s with heap:=h',toks:=tk}:=I.turned (fun b o hb e=>kk b o (by simpa using hb) e) f0 f1 f3 f4 f5
  exact⟨_,rfl,qek (s:={s with heap:=h',toks:=tk}) (n:="range_iterator") st' rfl rfl (by decide) ⟨.int (lo+(i:Nat)*c),H,I1,⟨t,rfl⟩,⟨rfl,rfl⟩,st',fun b hb=>(hf b hb).1⟩⟩
 done:=by
  intro X hP hw hK hc i pins s σ H E I hf st hg
  subst hP hw hK
  obtain⟨f0,f1,f2,f3,f4,f5⟩:=hf it (by simp)
  exact wpAny_pyNext_range_end (I.ok.hd hc) st (by have:n <= i:=hg;lia) fun h' eb=>⟨rfl,I.turned (t':=s.toks) (fun b o hb e=>eb b o hb e) f0 f1 f3 f4 f5⟩
 self:=fun A i s Q E st h=>wpAny_pyIter_rangeiter st h
noncomputable def RgC (i j c:Int) (n:Nat):Prop:=c≠0/\c.natAbs<1073741824/\Builtin.Range.small i j c=true/\Builtin.Range.rangeSize i j c=n
theorem RgC.neg {i j:Int} (ha : -(2^62) <= i) (ha':i<2^62) (hb : -(2^62) <= j) (hb':j<2^62):RgC i j (-1) (i-j).toNat :=
 ⟨by decide,by decide,PySem.W.small_down ha ha' hb hb',PySem.W.rangeSize_downNat i j⟩
noncomputable def qhR (ta:TA):TI:=fun σ H R=>ta σ H fun vs H1=>∃ (i j c:Int) (n:Nat),vs=[.int i,.int j,.int c]/\RgC i j c n/\R (Itc i c n) H1
section
variable {X:Cx}{tg:Expr}
theorem qcx {a b c:Expr}{ta:TA}{p pos:Pos} (hg:Gl X "range") (hm:X.mg "range"=none) (ha:PA X [a,b,c] ta)
  (hs:autoParam (starEach [a,b,c] X.env=(false,eval a X.env)::starEach [b,c] X.env) qt._auto_1) (hpl:autoParam ((backTo pos (starEach [b,c] X.env)).any (·.1)=false) qt._auto_1) :
  PI X tg (.Call (.Name "range" p) [a,b,c] [] pos) (qhR ta):=by
 intro pins s σ H R I h
 refine Call_ (QO I hg hm boot_range (PyProof.Rows.callWith_type1 (thn (ha pos pins s σ H _ I h) fun us s1 ⟨vs,H1,I1,r1,q1⟩=>?_) hs hpl))
 obtain⟨i,j,k,n,e,⟨c0,c1,c2,c3⟩,q⟩:=q1
 subst e
 cases r1 with
 | cons r rr =>
  cases rr with
  | cons r' rr =>
   cases rr with
   | cons r'' rr =>
    cases rr
    obtain⟨t,rfl⟩:=r
    obtain⟨t',rfl⟩:=r'
    obtain⟨t'',rfl⟩:=r''
    refine call_range_3 c0 ?_ (.inl (PyProof.noPylong_small c1))
    refine wpAny_pyIter_range (IsRange.new ..) c2 ?_
    have I2:Inv X pins σ H1 {s1 with heap:=s1.heap.push {cls:=.type "range",data:=.fields #[.int i t,.int j t',.int k t'']} }:=I1.kept (t':=s1.toks) fun b o e=>Heap.get?_push_of_some _ e
    refine qhb (tk:=s1.toks) I2 _ (UL _ i k n) ?_ q
    have e1:i+((0:Nat):Int)*k=i:=by simp
    have e2:(n:Int)-((0:Nat):Int)=Builtin.Range.rangeSize i j k:=by rw[c3];simp
    show IsRangeIter _ _ (i+((0:Nat):Int)*k) ((n:Int)-((0:Nat):Int)) k
    rw[e1,e2]
    exact Heap.get?_push_size _ rfl
end
theorem qcv:bootBuiltins "zip"=some (.type "zip"):=by decide +kernel
noncomputable def Itz (K:PySem.W.Frag) (a b:Addr):It :=
 ⟨fun i H=>∃ (xs ys:List V) (x y:V),SqL K H a xs/\SqL K H b ys/\xs[i]?=some x/\ys[i]?=some y,
  fun i H v H'=>∃ T x y,v = .ref T/\H T=none/\H'=upd H T (.tup [x,y])/\(∀ xs,SqL K H a xs->xs[i]?=some x)/\∀ ys,SqL K H b ys->ys[i]?=some y,
  fun i H=>∃ xs ys:List V,SqL K H a xs/\SqL K H b ys/\(xs.length <= i\/ys.length <= i)⟩
theorem qcH {P:Program}{w:World}{K:PySem.W.Frag}{elts:List Expr}{kk:Nat}{tpos:Pos}{a b z TI TO i1 i2:Addr} (D:ZipApart z TI TO i1 i2 a b) :
  Turn P w K (.Tuple elts kk tpos) (Itz K a b) [z,TI,TO,i1,i2] z (fun i h=>IsZip h z TI TO .none/\IsPair h TI (.ref i1) (.ref i2)/\(∃ x y,IsPair h TO x y)/\h.IsListIter i1 a i/\h.IsListIter i2 b i) where
 mem:=by simp
 obj:=fun i h st c hc=>by
  obtain⟨hz,hTI,⟨x,y,hTO⟩,⟨o1,e1,_,d1⟩,⟨o2,e2,_,d2⟩⟩:=st
  have e':c=z\/c=TI\/c=TO\/c=i1\/c=i2:=by simpa using hc
  rcases e' with q | q | q | q | q
  ·rw[q];exact⟨_,hz,fun v q=>nomatch q⟩
  ·rw[q];exact⟨_,hTI,fun v q=>nomatch q⟩
  ·rw[q];exact⟨_,hTO,fun v q=>nomatch q⟩
  ·rw[q];exact⟨o1,e1,fun v q=>by rw[d1] at q;cases q⟩
  ·rw[q];exact⟨o2,e2,fun v q=>by rw[d2] at q;cases q⟩
 keep:=fun i h h' st k=>by
  obtain⟨hz,hTI,⟨x,y,hTO⟩,h1,h2⟩:=st
  exact⟨k z (by simp) _ hz,k TI (by simp) _ hTI,⟨x,y,k TO (by simp) _ hTO⟩,h1.at fun o q=>k i1 (by simp) o q,h2.at fun o q=>k i2 (by simp) o q⟩
 item:=by
  intro X hP hw hK hc i pins s σ H E I hf st hg
  subst hP hw hK
  obtain⟨hz,hTI,⟨x0,y0,hTO⟩,h1,h2⟩:=st
  obtain⟨xs,ys,x,y,hqx,hqy,hx,hy⟩:=hg
  obtain⟨its,rv,p,_⟩:=I.list hqx
  obtain⟨its2,rv2,p2,_⟩:=I.list hqy
  obtain⟨u,hu,ru⟩:=rv.get hx
  obtain⟨u2,hu2,ru2⟩:=rv2.get hy
  have hzl:z<s.heap.objs.size:=Heap.lt_size hz
  refine wpAny_pyNext_zip_item D hz hTI hTO h1 h2 p.isList p2.isList (x:=u) (y:=u2) (by simpa using hu) (by simpa using hu2) fun h' z' TO' h1' h2' hT hsz hk=>?_
  refine⟨_,rfl,wpAny_letOwnedTupleGo_zip (s:={s with heap:=h'}) z' fun h'' z'' sb=>?_⟩
  have hT2:h''.get? s.heap.objs.size=some {cls:=.type "tuple",data:=.seq #[u,u2]}:=(sb.2 _ (Nat.ne_of_gt hzl)).trans hT
  have new:yd X.prog X.w (upd H s.heap.objs.size (.tup [x,y])) h'' s.heap.objs.size (.tup [x,y]) :=
   ⟨by show 2 <= sizeLine;decide,[u,u2],.cons ru (.cons ru2 .nil),⟨_,hT2,rfl,_,rfl⟩⟩
  have I1:Inv X pins σ (upd H s.heap.objs.size (.tup [x,y])) {s with heap:=h''} :=
   I.qcc (t':=s.toks) (ch:=[z,TI,TO,i1,i2]) (fun c o hb q=>(sb.2 c (fun q'=>hb (by simp [q']))).trans (hk c o (fun q'=>hb (by simp [q'])) (fun q'=>hb (by simp [q'])) (fun q'=>hb (by simp [q'])) (fun q'=>hb (by simp [q'])) q)) hf (Nat.le_refl _) new
  refine⟨.ref s.heap.objs.size,_,I1,rfl,⟨_,x,y,rfl,I.hok.fresh (Nat.le_refl _),rfl,fun l hl=>by rw[I.W5 hl hqx];exact hx,fun l hl=>by rw[I.W5 hl hqy];exact hy⟩,⟨z'',?_,⟨u,u2,?_⟩,?_,?_⟩,fun c hcm=>?_⟩
  ·exact (sb.2 _ D.TIz).trans (hk _ _ D.TIz D.TITO D.TIi1 D.TIi2 hTI)
  ·exact (sb.2 _ D.TOz).trans TO'
  ·exact h1'.at fun o q=>(sb.2 _ D.i1z).trans q
  ·exact h2'.at fun o q=>(sb.2 _ D.i2z).trans q
  ·have hlt:c<s.heap.objs.size:=by
    have e':c=z\/c=TI\/c=TO\/c=i1\/c=i2:=by simpa using hcm
    rcases e' with q | q | q | q | q
    ·rw[q];exact hzl
    ·rw[q];exact Heap.lt_size hTI
    ·rw[q];exact Heap.lt_size hTO
    ·rw[q];obtain⟨_,e1,_⟩:=h1;exact Heap.lt_size e1
    ·rw[q];obtain⟨_,e2,_⟩:=h2;exact Heap.lt_size e2
   rw[qD (Nat.ne_of_lt hlt)]
   exact (hf c hcm).1
 done:=by
  intro X hP hw hK hc i pins s σ H E I hf st hg
  subst hP hw hK
  obtain⟨hz,hTI,⟨x0,y0,hTO⟩,h1,h2⟩:=st
  obtain⟨xs,ys,hqx,hqy,hend⟩:=hg
  obtain⟨its,rv,p,_⟩:=I.list hqx
  obtain⟨its2,rv2,p2,_⟩:=I.list hqy
  have l1:=rv.length
  have l2:=rv2.length
  have he:its.toArray[i]?=none\/its2.toArray[i]?=none:=by
   rcases hend with q | q
   ·exact .inl (by simp;lia)
   ·exact .inr (by simp;lia)
  exact wpAny_pyNext_zip_end (I.ok.hd hc) D hz hTI hTO h1 h2 p.isList p2.isList he fun h' hk=>⟨rfl,I.qfR (t':=s.toks) (ch:=[z,TI,TO,i1,i2]) (fun c o hb q =>
   hk c o (fun q'=>hb (by simp [q'])) (fun q'=>hb (by simp [q'])) (fun q'=>hb (by simp [q'])) (fun q'=>hb (by simp [q'])) q) hf⟩
 self:=fun A i s Q E st h=>wpAny_pyIter_zip st.1 h
noncomputable def X9 (K:PySem.W.Frag) (ta:TA):TI:=fun σ H R=>ta σ H fun vs H1=>∃ a b xs ys,vs=[.ref a,.ref b]/\SqL K H1 a xs/\SqL K H1 b ys/\R (Itz K a b) H1
theorem qgV {X:Cx}{e e2:Expr}{ta:TA}{p pos tpos:Pos}{elts:List Expr}{kk:Nat} (hg:Gl X "zip") (hm:X.mg "zip"=none) (ha:PA X [e,e2] ta)
  (hs:autoParam (starEach [e,e2] X.env=(false,eval e X.env)::starEach [e2] X.env) qt._auto_1) (hpl:autoParam ((backTo pos (starEach [e2] X.env)).any (·.1)=false) qt._auto_1) :
  PI X (.Tuple elts kk tpos) (.Call (.Name "zip" p) [e,e2] [] pos) (X9 X.K ta):=by
 intro pins s σ H R I h
 refine Call_ (QO I hg hm qcv (PyProof.Rows.callWith_type1 (thn (ha pos pins s σ H _ I h) fun us s1 ⟨vs,H1,I1,r1,q1⟩=>?_) hs hpl))
 obtain⟨a,b,xs,ys,ex,hqx,hqy,q⟩:=q1
 subst ex
 cases r1 with
 | cons r rr =>
  cases rr with
  | cons r' rr =>
   cases rr
   cases r
   cases r'
   obtain⟨its,rv,p1,_⟩:=I1.list hqx
   obtain⟨its2,rv2,p2,_⟩:=I1.list hqy
   have la:a<s1.heap.objs.size:=p1.lt
   have lb:b<s1.heap.objs.size:=p2.lt
   refine call_zip_2 p1.isList p2.isList fun h' hz hTI hTO h1 h2 hsz hk=>wpAny_pyIter_zip hz ?_
   have I2:Inv X pins σ H1 {s1 with heap:=h'}:=I1.kept (t':=s1.toks) hk
   refine⟨s1.heap.objs.size+4,[s1.heap.objs.size+4,s1.heap.objs.size+2,s1.heap.objs.size+3,s1.heap.objs.size,s1.heap.objs.size+1],_,_,H1,rfl,I2,qcH (PySem.W.ktu_apart s1.heap.objs.size a b la lb),⟨hz,hTI,⟨_,_,hTO⟩,h1,h2⟩,fun c hcm=>?_,q⟩
   have e':c=s1.heap.objs.size+4\/c=s1.heap.objs.size+2\/c=s1.heap.objs.size+3\/c=s1.heap.objs.size\/c=s1.heap.objs.size+1:=by simpa using hcm
   have hle:s1.heap.objs.size <= c:=by
    rcases e' with z | z | z | z | z
    ·rw[z];exact Nat.le_add_right _ _
    ·rw[z];exact Nat.le_add_right _ _
    ·rw[z];exact Nat.le_add_right _ _
    ·rw[z];exact Nat.le_refl _
    ·rw[z];exact Nat.le_add_right _ _
   exact I1.qcp hle (I1.hok.fresh hle)
end L2
section 
namespace Bits
open PySem PyProof.Rows
theorem Vf {x:Int} (k:Nat) (hx:0 <= x):Builtin.bitAnd x (2^k-1)=x%2^k:=by
 obtain⟨n,rfl⟩:=Int.eq_ofNat_of_zero_le hx
 have hp:0<2^k:=Nat.two_pow_pos k
 rw[two_pow_cast]
 have e:((2^k:Nat):Int)-1=((2^k-1:Nat):Int):=by
  generalize (2:Nat)^k=m at hp
  lia
 rw[e,bitAnd_pp (by lia) (by lia),Int.toNat_natCast,Int.toNat_natCast,Nat.and_two_pow_sub_one_eq_mod]
 first
  | rfl
  | exact Int.natCast_emod _ _
  | simp
theorem Vs (m:Nat):∀ n:Nat,(m ^^^ n)+2*(m &&& n)=m+n:=by
 induction m using Nat.strongRecOn with
 | _ m ih =>
  intro n
  by_cases h0:m=0
  ·subst h0
   simp
  ·have ih':=ih (m / 2) (Nat.div_lt_self (Nat.pos_of_ne_zero h0) (by decide)) (n / 2)
   rw[<- Nat.xor_div_two,<- Nat.and_div_two] at ih'
   have o1:(m ^^^ n)%2+2*((m &&& n)%2)=m%2+n%2:=by
    have a1 := @Nat.and_mod_two_eq_one m n
    have x1 := @Nat.xor_mod_two_eq_one m n
    rcases Nat.mod_two_eq_zero_or_one m with hm | hm <;> rcases Nat.mod_two_eq_zero_or_one n with hn | hn <;> rcases Nat.mod_two_eq_zero_or_one (m &&& n) with ha | ha <;> rcases Nat.mod_two_eq_zero_or_one (m ^^^ n) with hx | hx <;> rw[hm,hn,ha] at a1 <;> rw[hm,hn,hx] at x1 <;> rw[hm,hn,ha,hx] <;> revert a1 x1 <;> decide
   rw[<- Nat.div_add_mod (m ^^^ n) 2,<- Nat.div_add_mod (m &&& n) 2]
   have e1:=Nat.div_add_mod m 2
   have e2:=Nat.div_add_mod n 2
   clear ih h0
   generalize (m ^^^ n) / 2=a at *
   generalize (m &&& n) / 2=b at *
   generalize (m ^^^ n)%2=c at *
   generalize (m &&& n)%2=d at *
   lia
theorem qb2 {x y:Int} (hx:0 <= x) (hy:0 <= y):Builtin.bitXor x y=((x.toNat ^^^ y.toNat:Nat):Int):=by
 have e:=Vs x.toNat y.toNat
 rw[bitXor_and,bitAnd_pp hx hy]
 lia
end Bits
end 
section 
end 
section
set_option maxHeartbeats 2000000
namespace L2
open PySem PySem.Spec PyProof.Rows
open PySem.W (WData Codec OpenSpec Well WellAll ReadsW ReadsAllW)
mutual
/-- x stands for the datum d, lists and tuples all the way -/
inductive Dw (K:PySem.W.Frag) (H:Hp):V->WData->Prop
 | non:Dw K H .non .none
 | bl (b:Bool):Dw K H (.bl b) (.bool b)
 | int (i:Int):Dw K H (.int i) (.int i)
 | str (x:Str):Dw K H (.str x) (.str x)
 | byt (b:Array UInt8):Dw K H (.byt b) (.bytes b.toList)
 | lst {a:Addr}{xs:List V}{ds:List WData}:SqL K H a xs->yt K H xs ds->Dw K H (.ref a) (.list ds)
 | tup {a:Addr}{xs:List V}{ds:List WData}:SqT K H a xs->yt K H xs ds->Dw K H (.ref a) (.tuple ds)
inductive yt (K:PySem.W.Frag) (H:Hp):List V->List WData->Prop
 | nil:yt K H [] []
 | cons {v:V}{vs:List V}{d:WData}{ds:List WData}:Dw K H v d->yt K H vs ds->yt K H (v::vs) (d::ds)
end
theorem qbs {K:PySem.W.Frag}{H:Hp}:∀ ns:List Int,yt K H (ns.map V.int) (ns.map WData.int)
 | []=>.nil
 | n::r=>.cons (.int n) (qbs r)
section
variable {P:Program}{w:World}{K:PySem.W.Frag}{H:Hp}{h:Heap}{R:PySem.W.WRecords}{cl:Str->Option Addr}
theorem qgd {a:Addr}{xs:List V} (hok:HOk P w H h) (KX:K.In h) (q:SqL K H a xs):∃ (its:List Value) (o:Obj) (n:Nat),Vals xs its/\h.get? a=some o/\o.cls = .type "list"/\o.data = .seq its.toArray n:=by
 rcases q with q | ⟨o,its,n,e,hc,_,hd,_,hv⟩
 ·obtain⟨_,its,n,hv,e⟩:=(show yd P w H h a (.lst xs) from q.ok hok)
  exact⟨its,_,n,hv,e,rfl,rfl⟩
 ·exact⟨its.toList,o,n,hv,KX _ _ e,hc,by simp [hd]⟩
theorem qhg {a:Addr}{xs:List V} (hok:HOk P w H h) (KX:K.In h) (q:SqT K H a xs):∃ (its:List Value) (o:Obj) (n:Nat),Vals xs its/\h.get? a=some o/\o.cls = .type "tuple"/\o.data = .seq its.toArray n:=by
 rcases q with q | ⟨o,its,n,e,hc,hd,_,hv⟩
 ·obtain⟨_,its,hv,o,e,hc,n,hd⟩:=(show yd P w H h a (.tup xs) from q.ok hok)
  exact⟨its,o,n,hv,e,hc,hd⟩
 ·exact⟨its.toList,o,n,hv,KX _ _ e,hc,by simp [hd]⟩
mutual
theorem Dw.reads (hok:HOk P w H h) (KX:K.In h):∀ (d:WData) (v:V) (u:Value),Dw K H v d->RelV v u->∃ as,ReadsW R cl h u d as
 | .none,_,_,x,r=>by
  cases x
  cases r
  exact⟨_,ReadsW.none⟩
 | .bool b,_,_,x,r=>by
  cases x
  cases r
  exact⟨_,ReadsW.bool b⟩
 | .int i,_,_,x,r=>by
  cases x
  obtain⟨t,rfl⟩:=r
  exact⟨_,ReadsW.int i t⟩
 | .str s,_,_,x,r=>by
  cases x
  obtain⟨t,rfl⟩:=r
  exact⟨_,ReadsW.str s t⟩
 | .bytes b,_,_,x,r=>by
  cases x
  obtain⟨t,rfl⟩:=r
  exact⟨_,ReadsW.bytes _ t⟩
 | .list ds,_,_,x,r=>by
  cases x with
  | lst hs ha =>
   cases r
   obtain⟨its,o,n,rv,ho,hc,hd⟩:=qgd hok KX hs
   obtain⟨as,hr⟩:=Dw.readsAll hok KX ds _ its ha rv
   exact⟨_,ReadsW.list ho hc hd hr⟩
 | .tuple ds,_,_,x,r=>by
  cases x with
  | tup hs ha =>
   cases r
   obtain⟨its,o,n,rv,ho,hc,hd⟩:=qhg hok KX hs
   obtain⟨as,hr⟩:=Dw.readsAll hok KX ds _ its ha rv
   exact⟨_,ReadsW.tuple ho hc hd hr⟩
 | .float _,_,_,x,_=>by cases x
 | .dict _,_,_,x,_=>by cases x
 | .bytearray _,_,_,x,_=>by cases x
 | .set _,_,_,x,_=>by cases x
 | .frozenset _,_,_,x,_=>by cases x
 | .obj _ _,_,_,x,_=>by cases x
theorem Dw.readsAll (hok:HOk P w H h) (KX:K.In h):∀ (ds:List WData) (vs:List V) (us:List Value),yt K H vs ds->Vals vs us->∃ as,ReadsAllW R cl h us ds as
 | [],_,_,x,r=>by
  cases x
  cases r
  exact⟨_,ReadsAllW.nil⟩
 | d::ds,_,_,x,r=>by
  cases x with
  | cons h1 h2 =>
   cases r with
   | cons r1 r2 =>
    obtain⟨as,q1⟩:=Dw.reads hok KX d _ _ h1 r1
    obtain⟨bs,q2⟩:=Dw.readsAll hok KX ds _ _ h2 r2
    exact⟨_,ReadsAllW.cons q1 q2⟩
end
end
mutual
/-- data that a codec tells -/
noncomputable def plW:WData->Bool
 | .none=>true
 | .bool _=>true
 | .int _=>true
 | .str _=>true
 | .bytes _=>true
 | .list xs=>VE xs
 | .tuple xs=>VE xs
 | _=>false
noncomputable def VE:List WData->Bool
 | []=>true
 | x::r=>plW x&&VE r
end
theorem Jf {α:Type}{f:α->WData} (h:∀ a,plW (f a)=true):∀ l:List α,VE (l.map f)=true
 | []=>rfl
 | x::r=>by
  show (plW (f x)&&VE (r.map f))=true
  rw[h x,Jf h r] <;> rfl
theorem jg:∀ (c:Codec) (a:c.denote),plW (c.enc a)=true
 | .unit,_=>rfl
 | .bool,_=>rfl
 | .int _ _,_=>rfl
 | .nat _ _,_=>rfl
 | .u8,_=>rfl
 | .bytes _ _,_=>rfl
 | .text _ _ _ _,_=>rfl
 | .list _ _ c,a=>Jf (fun x=>jg c x) a
 | .pair c d,a=>by
  show (plW (c.enc a.1)&&(plW (d.enc a.2)&&true))=true
  rw[jg c a.1,jg d a.2] <;> rfl
 | .triple c d e,a=>by
  show (plW (c.enc a.1)&&(plW (d.enc a.2.1)&&(plW (e.enc a.2.2)&&true)))=true
  rw[jg c a.1,jg d a.2.1,jg e a.2.2] <;> rfl
 | .option c,none=>rfl
 | .option c,some x=>jg c x
theorem YF:∀ (cs:List Codec) (a:Codec.denoteAll cs),VE (Codec.encAll cs a)=true
 | [],_=>rfl
 | c::cs,a=>by
  show (plW (c.enc a.1)&&VE (Codec.encAll cs a.2))=true
  rw[jg c a.1,YF cs a.2] <;> rfl
theorem jZ:∀ {xs:List WData}{d:WData},d∈xs->d.weight <= WData.weightAll xs
 | [],d,h=>absurd h (by simp)
 | x::r,d,h=>by
  show d.weight <= x.weight+1+WData.weightAll r
  rcases List.mem_cons.mp h with e | m
  ·rw[e]
   lia
  ·have z:=jZ m
   lia
noncomputable def toV:Value->V
 | .none=>.non
 | .bool b=>.bl b
 | .int i _=>.int i
 | .str x _=>.str x
 | .bytes b _=>.byt b
 | .ref a=>.ref a
 | _=>.non
noncomputable def OkU (A:List Addr):Value->Prop
 | .none=>True
 | .bool _=>True
 | .int _ _=>True
 | .str _ _=>True
 | .bytes _ _=>True
 | .ref a=>a∈A
 | _=>False
theorem OkU.mono {A B:List Addr} (h:∀ a∈A,a∈B):∀ {u:Value},OkU A u->OkU B u:=fun {u} x=>by
 cases u with
 | ref a=>exact h a x
 | none=>trivial
 | bool b=>trivial
 | int i t=>trivial
 | str s t=>trivial
 | bytes b t=>trivial
 | _=>exact False.elim x
theorem qdd {A:List Addr}{u:Value} (x:OkU A u):RelV (toV u) u:=by
 cases u with
 | ref a=>rfl
 | none=>rfl
 | bool b=>rfl
 | int i t=>exact⟨t,rfl⟩
 | str s t=>exact⟨t,rfl⟩
 | bytes b t=>exact⟨t,rfl⟩
 | _=>exact False.elim x
theorem uf {A:List Addr}:∀ {vs:List Value},(∀ u∈vs,OkU A u)->Vals (vs.map toV) vs
 | [],_=>.nil
 | u::r,h=>.cons (qdd (h u (List.mem_cons_self ..))) (uf fun x hx=>h x (List.mem_cons_of_mem _ hx))
noncomputable def uN (h:Heap) (A:List Addr) (a:Addr):Prop:=∃ vs:List Value,vs.length <= sizeLine/\(∀ u∈vs,OkU A u) /\
 (h.get? a=some {cls:=.type "list",data:=.seq vs.toArray}\/h.get? a=some {cls:=.type "tuple",data:=.seq vs.toArray})
theorem uN.mono {h:Heap}{A B:List Addr}{a:Addr} (k:∀ a∈A,a∈B) (x:uN h A a):uN h B a:=by
 obtain⟨vs,h1,h2,h3⟩:=x
 exact⟨vs,h1,fun u hu=>(h2 u hu).mono k,h3⟩
theorem xO {P:Params}{h:Heap}:∀ {vs:List Value}{ds:List WData},WellAll P h vs ds->vs.length=ds.length
 | _,_,.nil=>rfl
 | _,_,.cons _ b=>by
  show _+1=_+1
  rw[xO b]
theorem Yj {P:Params}{h:Heap}{v:Value}{ds:List WData} (x:Well P h v (.list ds)):∃ (a:Addr) (vs:List Value),v = .ref a/\h.get? a=some {cls:=.type "list",data:=.seq vs.toArray}/\WellAll P h vs ds:=by
 cases x with
 | list ho hall=>exact⟨_,_,rfl,ho,hall⟩
theorem WD {P:Params}{h:Heap}{v:Value}{ds:List WData} (x:Well P h v (.tuple ds)):∃ (a:Addr) (vs:List Value),v = .ref a/\h.get? a=some {cls:=.type "tuple",data:=.seq vs.toArray}/\WellAll P h vs ds:=by
 cases x with
 | tuple ho hall=>exact⟨_,_,rfl,ho,hall⟩
theorem Yu {P:Params}{h:Heap}{us:List Value}{d:WData}{ds:List WData} (x:WellAll P h us (d::ds)):∃ (v:Value) (vs:List Value),us=v::vs/\Well P h v d/\WellAll P h vs ds:=by
 cases x with
 | cons a b=>exact⟨_,_,rfl,a,b⟩
theorem qaY {n:Nat} (h:n <= 1048576):n <= sizeLine:=Nat.le_trans h (by decide)
section
variable {P:Params}{h:Heap}
mutual
theorem qdF:∀ (d:WData) (v:Value),Well P h v d->plW d=true->d.weight <= 1048576->∃ A:List Addr,OkU A v/\∀ a∈A,uN h A a
 | .none,_,x,_,_=>by
  cases x
  exact⟨[],trivial,fun a m=>absurd m (by simp)⟩
 | .bool b,_,x,_,_=>by
  cases x
  exact⟨[],trivial,fun a m=>absurd m (by simp)⟩
 | .int i,_,x,_,_=>by
  cases x
  exact⟨[],trivial,fun a m=>absurd m (by simp)⟩
 | .str s,_,x,_,_=>by
  cases x
  exact⟨[],trivial,fun a m=>absurd m (by simp)⟩
 | .bytes b,_,x,_,_=>by
  cases x
  exact⟨[],trivial,fun a m=>absurd m (by simp)⟩
 | .list ds,_,x,p,z=>by
  obtain⟨a,vs,rfl,ho,hall⟩:=Yj x
  have z2:WData.weightAll ds <= 1048576:=z
  obtain⟨A,h1,h2⟩:=QB ds _ hall p fun d hd=>Nat.le_trans (jZ hd) z2
  have k:∀ b∈A,b∈a::A:=fun b hb=>List.mem_cons_of_mem _ hb
  refine⟨a::A,List.mem_cons_self ..,fun b hb=>?_⟩
  rcases List.mem_cons.mp hb with e | m
  ·rw[e]
   exact⟨vs,qaY (by rw[xO hall];exact Nat.le_trans (PySem.W.length_le_weightAllW ds) z2),fun u hu=>(h1 u hu).mono k,.inl ho⟩
  ·exact (h2 b m).mono k
 | .tuple ds,_,x,p,z=>by
  obtain⟨a,vs,rfl,ho,hall⟩:=WD x
  have z2:WData.weightAll ds <= 1048576:=z
  obtain⟨A,h1,h2⟩:=QB ds _ hall p fun d hd=>Nat.le_trans (jZ hd) z2
  have k:∀ b∈A,b∈a::A:=fun b hb=>List.mem_cons_of_mem _ hb
  refine⟨a::A,List.mem_cons_self ..,fun b hb=>?_⟩
  rcases List.mem_cons.mp hb with e | m
  ·rw[e]
   exact⟨vs,qaY (by rw[xO hall];exact Nat.le_trans (PySem.W.length_le_weightAllW ds) z2),fun u hu=>(h1 u hu).mono k,.inr ho⟩
  ·exact (h2 b m).mono k
 | .float _,_,_,p,_=>Bool.noConfusion (show false=true from p)
 | .dict _,_,_,p,_=>Bool.noConfusion (show false=true from p)
 | .bytearray _,_,_,p,_=>Bool.noConfusion (show false=true from p)
 | .set _,_,_,p,_=>Bool.noConfusion (show false=true from p)
 | .frozenset _,_,_,p,_=>Bool.noConfusion (show false=true from p)
 | .obj _ _,_,_,p,_=>Bool.noConfusion (show false=true from p)
theorem QB:∀ (ds:List WData) (vs:List Value),WellAll P h vs ds->VE ds=true->(∀ d∈ds,d.weight <= 1048576)->∃ A:List Addr,(∀ u∈vs,OkU A u)/\∀ a∈A,uN h A a
 | [],_,x,_,_=>by
  cases x
  exact⟨[],fun u m=>absurd m (by simp),fun a m=>absurd m (by simp)⟩
 | d::ds,_,x,p,z=>by
  obtain⟨v,vs,rfl,x1,x2⟩:=Yu x
  have q:plW d=true/\VE ds=true:=Bool.and_eq_true_iff.mp p
  obtain⟨A,a1,a2⟩:=qdF d v x1 q.1 (z d (List.mem_cons_self ..))
  obtain⟨B,b1,b2⟩:=QB ds vs x2 q.2 fun e he=>z e (List.mem_cons_of_mem _ he)
  have kA:∀ b∈A,b∈A++B:=fun b hb=>List.mem_append.mpr (.inl hb)
  have kB:∀ b∈B,b∈A++B:=fun b hb=>List.mem_append.mpr (.inr hb)
  refine⟨A++B,fun u hu=>?_,fun b hb=>?_⟩
  ·rcases List.mem_cons.mp hu with e | m
   ·rw[e]
    exact a1.mono kA
   ·exact (b1 u m).mono kB
  ·rcases List.mem_append.mp hb with m | m
   ·exact (a2 b m).mono kA
   ·exact (b2 b m).mono kB
end
end
noncomputable def qfp (o:Obj):Option HO:=match o.data with
 | .seq vs _=>if (o.cls==Value.type "list")=true then some (.frz o (.lst (vs.toList.map toV))) else some (.frz o (.tup (vs.toList.map toV)))
 | _=>none
noncomputable def ur (K:PySem.W.Frag) (h:Heap) (A:List Addr):Hp:=fun b=>if b∈A then (if (K.lookup b).isNone=true then (h.get? b).bind qfp else none) else none
noncomputable def qf5 (H:Hp):Prop:=∀ b,H b=none\/∃ o u,H b=some (.frz o u)
theorem U9 (vs:List Value):qfp {cls:=.type "list",data:=.seq vs.toArray}=some (.frz {cls:=.type "list",data:=.seq vs.toArray} (.lst (vs.map toV))):=by
 show (if (Value.type "list"==Value.type "list")=true then some (HO.frz {cls:=.type "list",data:=.seq vs.toArray} (.lst (vs.toArray.toList.map toV))) else some (HO.frz {cls:=.type "list",data:=.seq vs.toArray} (.tup (vs.toArray.toList.map toV))))=_
 rw[if_pos (beq_self_eq_true _)]
theorem U7 (vs:List Value):qfp {cls:=.type "tuple",data:=.seq vs.toArray}=some (.frz {cls:=.type "tuple",data:=.seq vs.toArray} (.tup (vs.map toV))):=by
 show (if (Value.type "tuple"==Value.type "list")=true then some (HO.frz {cls:=.type "tuple",data:=.seq vs.toArray} (.lst (vs.toArray.toList.map toV))) else some (HO.frz {cls:=.type "tuple",data:=.seq vs.toArray} (.tup (vs.toArray.toList.map toV))))=_
 rw[if_neg (by decide)]
section
variable {P:Program}{w:World}{K:PySem.W.Frag}{h:Heap}{A:List Addr}
theorem VQ {b:Addr}{o:Obj} (hb:b∈A) (hk:K.lookup b=none) (e:h.get? b=some o):ur K h A b=qfp o:=by
 unfold ur
 rw[if_pos hb,hk,if_pos (show (none:Option Obj).isNone=true from rfl),e] <;> rfl
theorem qfd {b:Addr}{u:HO} (q:ur K h A b=some u):b∈A/\K.lookup b=none:=by
 unfold ur at q
 by_cases hb:b∈A
 ·rw[if_pos hb] at q
  cases hk:K.lookup b with
  | none=>exact⟨hb,rfl⟩
  | some o =>
   rw[hk,if_neg (by simp)] at q
   cases q
 ·rw[if_neg hb] at q
  cases q
theorem V5 (ar : ∀ a ∈ A, uN h A a) {b : Addr} {u : HO} (q : ur K h A b = some u) : K.lookup b = none /\ ∃ vs : List Value, vs.length <= sizeLine /\ (∀ u ∈ vs, OkU A u) /\
    ((h.get? b=some {cls:=.type "list",data:=.seq vs.toArray}/\u = .frz {cls:=.type "list",data:=.seq vs.toArray} (.lst (vs.map toV))) \/
     (h.get? b=some {cls:=.type "tuple",data:=.seq vs.toArray}/\u = .frz {cls:=.type "tuple",data:=.seq vs.toArray} (.tup (vs.map toV)))):=by
  obtain⟨hb,hk⟩:=qfd q
  obtain⟨vs,h1,h2,h3⟩:=ar b hb
  refine⟨hk,vs,h1,h2,?_⟩
  rcases h3 with e | e
  . rw[VQ hb hk e,U9] at q
    exact .inl ⟨e,(Option.some.inj q).symm⟩
  . rw[VQ hb hk e,U7] at q
    exact .inr ⟨e,(Option.some.inj q).symm⟩
theorem qb5 (ar:∀ a∈A,uN h A a):qf5 (ur K h A):=fun b=>by
 cases q:ur K h A b with
 | none=>exact .inl rfl
 | some u =>
  obtain⟨_,vs,_,_,⟨_,e⟩ | ⟨_,e⟩⟩:=V5 ar q
  ·exact .inr ⟨_,_,by rw[e]⟩
  ·exact .inr ⟨_,_,by rw[e]⟩
theorem qfu (ar:∀ a∈A,uN h A a):HOk P w (ur K h A) h:=fun b u q=>by
 obtain⟨_,vs,h1,h2,⟨e,rfl⟩ | ⟨e,rfl⟩⟩:=V5 ar q
 ·exact⟨e,by rw[List.length_map];exact h1,vs,_,uf h2,e⟩
 ·exact⟨e,by rw[List.length_map];exact h1,vs,uf h2,_,e,rfl,_,rfl⟩
theorem V6 {c c':Value}{vs us:List Value} (e:(some {cls:=c,data:=.seq vs.toArray}:Option Obj)=some {cls:=c',data:=.seq us.toArray}):c=c'/\vs=us:=by
 have e1:=Option.some.inj e
 have e2:c=c':=congrArg Obj.cls e1
 have e3:Data.seq vs.toArray=Data.seq us.toArray:=congrArg Obj.data e1
 injection e3 with e4
 refine⟨e2,?_⟩
 have e5:=congrArg Array.toList e4
 simpa using e5
theorem qih (KX:K.In h) (ar:∀ a∈A,uN h A a) {a:Addr}{vs:List Value} (ha:a∈A) (e:h.get? a=some {cls:=.type "list",data:=.seq vs.toArray}):(∀ u∈vs,OkU A u)/\SqL K (ur K h A) a (vs.map toV):=by
 obtain⟨us,h1,h2,h3⟩:=ar a ha
 have hu:us=vs:=by
  rcases h3 with q | q
  ·rw[e] at q
   exact (V6 q).2.symm
  ·rw[e] at q
   exact absurd (Value.type.inj (V6 q).1) (by decide)
 subst hu
 refine⟨h2,?_⟩
 cases hk:K.lookup a with
 | none=>exact .inl (.inr ⟨_,by rw[VQ ha hk e,U9]⟩)
 | some o =>
  have e2:=KX a o hk
  rw[e] at e2
  obtain rfl:=Option.some.inj e2
  exact .inr ⟨_,us.toArray,_,hk,rfl,rfl,rfl,by rw[List.size_toArray];exact h1,by simpa using uf h2⟩
theorem qiu (KX:K.In h) (ar:∀ a∈A,uN h A a) {a:Addr}{vs:List Value} (ha:a∈A) (e:h.get? a=some {cls:=.type "tuple",data:=.seq vs.toArray}):(∀ u∈vs,OkU A u)/\SqT K (ur K h A) a (vs.map toV):=by
 obtain⟨us,h1,h2,h3⟩:=ar a ha
 have hu:us=vs:=by
  rcases h3 with q | q
  ·rw[e] at q
   exact absurd (Value.type.inj (V6 q).1) (by decide)
  ·rw[e] at q
   exact (V6 q).2.symm
 subst hu
 refine⟨h2,?_⟩
 cases hk:K.lookup a with
 | none=>exact .inl (.inr ⟨_,by rw[VQ ha hk e,U7]⟩)
 | some o =>
  have e2:=KX a o hk
  rw[e] at e2
  obtain rfl:=Option.some.inj e2
  exact .inr ⟨_,us.toArray,_,hk,rfl,rfl,by rw[List.size_toArray];exact h1,by simpa using uf h2⟩
mutual
theorem qhc {Pm:Params} (KX:K.In h) (ar:∀ a∈A,uN h A a):∀ (d:WData) (v:Value),Well Pm h v d->plW d=true->OkU A v->Dw K (ur K h A) (toV v) d
 | .none,_,x,_,_=>by
  cases x
  exact .non
 | .bool b,_,x,_,_=>by
  cases x
  exact .bl b
 | .int i,_,x,_,_=>by
  cases x
  exact .int i
 | .str s,_,x,_,_=>by
  cases x
  exact .str s
 | .bytes b,_,x,_,_=>by
  cases x
  have z:=Dw.byt (K:=K) (H:=ur K h A) b.toArray
  exact z
 | .list ds,_,x,p,hu=>by
  obtain⟨a,vs,rfl,ho,hall⟩:=Yj x
  obtain⟨h2,hs⟩:=qih KX ar hu ho
  exact .lst hs (Xc KX ar ds _ hall p h2)
 | .tuple ds,_,x,p,hu=>by
  obtain⟨a,vs,rfl,ho,hall⟩:=WD x
  obtain⟨h2,hs⟩:=qiu KX ar hu ho
  exact .tup hs (Xc KX ar ds _ hall p h2)
 | .float _,_,_,p,_=>Bool.noConfusion (show false=true from p)
 | .dict _,_,_,p,_=>Bool.noConfusion (show false=true from p)
 | .bytearray _,_,_,p,_=>Bool.noConfusion (show false=true from p)
 | .set _,_,_,p,_=>Bool.noConfusion (show false=true from p)
 | .frozenset _,_,_,p,_=>Bool.noConfusion (show false=true from p)
 | .obj _ _,_,_,p,_=>Bool.noConfusion (show false=true from p)
theorem Xc {Pm:Params} (KX:K.In h) (ar:∀ a∈A,uN h A a):∀ (ds:List WData) (vs:List Value),WellAll Pm h vs ds->VE ds=true->(∀ u∈vs,OkU A u)->yt K (ur K h A) (vs.map toV) ds
 | [],_,x,_,_=>by
  cases x
  exact .nil
 | d::ds,_,x,p,hu=>by
  obtain⟨v,vs,rfl,x1,x2⟩:=Yu x
  have q:plW d=true/\VE ds=true:=Bool.and_eq_true_iff.mp p
  exact .cons (qhc KX ar d v x1 q.1 (hu _ (List.mem_cons_self ..))) (Xc KX ar ds vs x2 q.2 fun u m=>hu u (List.mem_cons_of_mem _ m))
end
end
theorem Zf {ds:List WData} (h:WData.layableAll ds=true):∀ d∈ds,d.weight <= 1048576:=fun d hd =>
 (PySem.W.layableW_iff.mp (List.all_eq_true.mp h d hd)).2.2
theorem WJ:∀ (cs:List Codec) (a:Codec.denoteAll cs),(Codec.encAll cs a).length=cs.length
 | [],_=>rfl
 | c::cs,a=>by
  show (Codec.encAll cs a.2).length+1=cs.length+1
  rw[WJ cs a.2]
end L2
end
section
namespace L2
open PySem PySem.Spec PyProof.Rows
noncomputable def zH (s:Stmt):Arguments:=match s with
 | .FunctionDef _ a _ _ _ _ _ _ _ _=>a
 | _=>{posonlyargs:=[],args:=[],vararg:=none,kwonlyargs:=[],kw_defaults:=[],kwarg:=none,defaults:=[]}
noncomputable def vT (s:Stmt):List Stmt:=match s with
 | .FunctionDef _ _ b _ _ _ _ _ _ _=>b
 | _=>[]
noncomputable def qg (s:Stmt):Scope:=match s with
 | .FunctionDef _ _ _ _ _ _ sc _ _ _=>sc
 | _=>{kind:=.function,names:=[],isGenerator:=false,isCoroutine:=false}
structure Fun (K:PySem.W.Frag) (x qual:Str) (st:Stmt) (f:Addr) (fd:FuncData):Prop where
 ex:∃ (oc:Value) (od:Option Addr) (kV doc pm:Value) (an:Option Addr) (cdv ct:Value) (osl:Array (Option Value)),
  fd=PySem.W.fnOf x qual (zH st) (vT st) (qg st) .none kV doc pm an cdv ct/\K.lookup f=some ⟨oc,od,.func fd,osl⟩/\PySem.W.codeIn K cdv qual=true
 kp:PySem.W.keepIn K (.ref f)=true
section
variable {P:Program}{w:World}{K:PySem.W.Frag}{mg:Str->Option Value}{base:Heap}
theorem Fun.binds {x qual:Str}{st:Stmt}{f:Addr}{fd:FuncData}{ps:List Str} (F:Fun K x qual st f fd)
  (h:∀ (kV doc pm:Value) (an:Option Addr) (cdv ct:Value) (us:List Value),us.length=ps.length->bindArgs (PySem.W.fnOf x qual (zH st) (vT st) (qg st) .none kV doc pm an cdv ct) ⟨us,[]⟩=pure (ps.zip us)):Binds K fd ps []:=by
 obtain⟨oc,od,kV,doc,pm,an,cdv,ct,osl,rfl,lk,hcd⟩:=F.ex
 exact .all (h kV doc pm an cdv ct)
theorem qF {x qual:Str}{st:Stmt}{f:Addr}{oc:Value}{od an:Option Addr}{osl:Array (Option Value)}{kV doc pm cdv ct:Value} (l:K.lookup f=some ⟨oc,od,.func (PySem.W.fnOf x qual (zH st) (vT st) (qg st) .none kV doc pm an cdv ct),osl⟩)
  (c:PySem.W.codeIn K cdv qual=true) (k:PySem.W.keepIn K (.ref f)=true):Fun K x qual st f (PySem.W.fnOf x qual (zH st) (vT st) (qg st) .none kV doc pm an cdv ct):=⟨⟨oc,od,kV,doc,pm,an,cdv,ct,osl,rfl,l,c⟩,k⟩
end
noncomputable def qB (H H':Hp):Prop:=∀ b o,H b=some o->H' b=some o
theorem qB.trans {H H1 H2:Hp} (a:qB H H1) (b:qB H1 H2):qB H H2:=fun c o h=>b c o (a c o h)
theorem qB.free {H H':Hp} (e:qB H H') {l:Addr} (h:H' l=Option.none):H l=Option.none:=by
 cases q:H l with
 | none=>rfl
 | some o =>
  rw[e l o q] at h
  cases h
theorem qB.seq {K:PySem.W.Frag}{H H':Hp}{a:Addr}{xs:List V} (e:qB H H') (h:SqL K H a xs):SqL K H' a xs:=by
 rcases h with (h | ⟨o,h⟩) | h
 ·exact .inl (.inl (e _ _ h))
 ·exact .inl (.inr ⟨o,e _ _ h⟩)
 ·exact .inr h
end L2
end
namespace L2
open PySem PySem.Spec PyProof.Rows
noncomputable def Rel (X:Cx) (pins:List (Addr × Obj)) (H:Hp) (b:Addr):Prop :=
 H b≠none\/(∃ o,X.s_0.heap.get? b=some o/\b∉X.ex)\/(∃ x,X.env.cells.lookup x=some b)\/b=X.env.locals\/∃ p∈X.pn++pins,p.1=b
theorem qbC {P:Program}{w:World}{H:Hp}{h:Heap}{a:Addr}{o:HO} (x:yd P w H h a o):∃ ob,h.get? a=some ob:=by
 cases o with
 | lst xs=>obtain⟨_,_,_,_,e⟩:=x;exact⟨_,e⟩
 | tup xs=>obtain⟨_,_,_,ob,p,_⟩:=x;exact⟨ob,p⟩
 | dK kvs=>obtain⟨_,_,_,_,o,_,_,e,_⟩:=x;exact⟨_,e⟩
 | dT kvs=>obtain⟨_,_,_,_,o,_,_,e,_⟩:=x;exact⟨_,e⟩
 | set S n=>obtain⟨o,_,_,_,e,_⟩:=x;exact⟨_,e⟩
 | ins C dx fs=>obtain⟨_,_,_,e,_⟩:=x;exact⟨_,e⟩
 | own y=>exact x
 | xd fs=>obtain⟨_,⟨o,_,_,e,_⟩,_⟩:=x;exact⟨_,e⟩
 | rng lo hi=>obtain⟨_,_,_,e⟩:=x;exact⟨_,e⟩
 | frz ob u=>exact⟨_,x.1⟩
 | tbl ps=>exact⟨_,x⟩
 | met f y=>exact⟨_,x⟩
 | ext φ=>exact x.2.1
section
variable {X:Cx}{pins:List (Addr × Obj)}{σ:St}{H H':Hp}{s s':Shared}{h':Heap}
theorem VJ (I:Inv X pins σ H s) {b:Addr} (r:Rel X pins H b):∃ o,s.heap.get? b=some o:=by
 rcases r with r | ⟨o,e,hx⟩ | ⟨x,e⟩ | rfl | ⟨p,hp,rfl⟩
 ·cases q:H b with
  | none=>exact absurd q r
  | some u=>exact qbC (I.hok b u q)
 ·exact I.base.there b o e hx
 ·obtain⟨v,o,ho,_⟩:=I.cell x b e
  exact⟨o,ho⟩
 ·obtain⟨m,⟨o,_,_,ho,_⟩,_⟩:=I.loc
  exact⟨o,ho⟩
 ·exact⟨_,(I.pin p hp).1⟩
theorem qdh (I:Inv X pins σ H s) {b:Addr} (h:b∈X.fs):b∈frs X.stack:=by
 rcases I.ok.stk with e | ⟨e,hf⟩
 ·rw[e];exact h
 ·rw[e];unfold frs;rw[List.filterMap_cons,hf];exact List.mem_cons_of_mem _ h
theorem qbY {t':Nat} (I:Inv X pins σ H s) (kp:∀ b o,Rel X pins H b->b∉frs X.stack->s.heap.get? b=some o->h'.get? b=some o)
  (sl:∀ b o,b∈frs X.stack->s.heap.get? b=some o->∃ sl,h'.get? b=some {o with slots:=sl}):Inv X pins σ H {s with heap:=h',toks:=t'}:=by
 have any:∀ b o,Rel X pins H b->s.heap.get? b=some o->∃ sl,h'.get? b=some {o with slots:=sl}:=fun b o r e=>by
  by_cases hb:b∈frs X.stack
  ·exact sl b o hb e
  ·exact⟨o.slots,kp b o r hb e⟩
 have cellK:∀ x c,X.env.cells.lookup x=some c->∀ v,s.heap.IsCell c v->h'.IsCell c v:=fun x c e v ⟨o,ho,hd⟩=>by
  obtain⟨sl',q⟩:=any c o (.inr (.inr (.inl ⟨x,e⟩))) ho
  exact⟨_,q,hd⟩
 refine⟨I.ok,I.os,I.bare,⟨fun b o e n hb hx=>?_,fun b o e n hb hx=>?_,I.base.free,fun b o e hx=>?_,I.base.tups,I.base.frzs,I.base.tbls⟩,?_,fun x c e=>?_,I.free,I.freeC,fun p hp=>?_,fun b u e=>?_,I.len⟩
 ·have q:=I.base.keep b o e n hb hx
  refine kp b o (.inr (.inl ⟨o,e,hx⟩)) (fun z=>?_) q
  rcases List.mem_cons.mp (I.xQ b z) with z | z
  ·exact absurd (Nat.lt_of_lt_of_le (Heap.lt_size e) I.ok.above) (by rw[z];exact Nat.lt_irrefl _)
  ·exact hb z
 ·obtain⟨s1,q⟩:=I.base.slot b o e n hb hx
  obtain⟨s2,q2⟩:=sl b _ (qdh I hb) q
  exact⟨s2,q2⟩
 ·obtain⟨o',q⟩:=I.base.there b o e hx
  obtain⟨s2,q2⟩:=any b o' (.inr (.inl ⟨o,e,hx⟩)) q
  exact⟨_,q2⟩
 ·obtain⟨m,⟨o,es,ep,ho,r⟩,hl⟩:=I.loc
  obtain⟨s2,q2⟩:=any _ o (.inr (.inr (.inr (.inl rfl)))) ho
  refine⟨m,⟨_,es,ep,q2,r⟩,fun i x v e1 e2 e3=>?_⟩
  obtain⟨u,r,l⟩:=hl i x v e1 e2 e3
  refine⟨u,r,?_⟩
  rcases l with l | ⟨k,c,e,z⟩
  ·exact .inl l
  ·exact .inr ⟨k,c,e,cellK x c e _ z⟩
 ·obtain⟨v,z⟩:=I.cell x c e
  exact⟨v,cellK x c e v z⟩
 ·obtain⟨e,n,ne,nf,d⟩:=I.pin p hp
  refine⟨kp p.1 p.2 (.inr (.inr (.inr (.inr ⟨p,hp,rfl⟩)))) (fun z=>?_) e,n,ne,nf,d⟩
  rcases List.mem_cons.mp (I.xQ p.1 z) with z | z
  ·exact ne z
  ·exact nf z
 ·refine (I.hok b u e).ZW (fun c w hc q=>?_) (fun _ q=>q) fun _ _ q=>q
  have hne:H c≠none:=by
   rcases hc with z | z
   ·rw[z,e];exact fun z=>nomatch z
   ·rw[z];exact fun z=>nomatch z
  exact kp c w (.inl hne) (fun z=>hne (I.Xt c z)) q
end
noncomputable def Trd (h B:Heap) (e:Addr) (cls:Value):Prop :=
 ∃ oe vs a0,h.get? e=some oe/\oe.cls=cls/\oe.data = .fields vs/\vs[0]?=some a0 /\
  (vs[1]?=some .none\/∃ T oT ts f,vs[1]?=some (.ref T)/\B.get? T=none/\T≠e/\h.get? T=some oT/\oT.data = .fields ts/\ts[3]?=some f)
noncomputable def qcX (h B:Heap) (e:Addr) (cls:Value):Prop :=
 ∃ oe vs a0,h.get? e=some oe/\oe.cls=cls/\oe.data = .fields vs/\vs[0]?=some a0 /\
  ∃ T oT ts f,vs[1]?=some (.ref T)/\B.get? T=none/\T≠e/\h.get? T=some oT/\oT.data = .fields ts/\ts[3]?=some f
theorem qcX.trd {h B:Heap}{e:Addr}{cls:Value} (x:qcX h B e cls):Trd h B e cls:=by
 obtain⟨oe,vs,a0,h1,h2,h3,h4,r⟩:=x
 exact⟨oe,vs,a0,h1,h2,h3,h4,.inr r⟩
noncomputable def Hand (B:Heap) (l:List Env) (e:Addr) (cls:Value) (h:Heap):Prop:=B.StaysIn h/\B.get? e=none/\h.FunFrames B l/\Trd h B e cls
noncomputable def uz (B:Heap) (l:List Env) (e:Addr) (cls:Value) (h:Heap):Prop:=B.StaysIn h/\B.get? e=none/\h.FunFrames B l/\qcX h B e cls
theorem uz.hand {B:Heap}{l:List Env}{e:Addr}{cls:Value}{h:Heap} (x:uz B l e cls h):Hand B l e cls h:=⟨x.1,x.2.1,x.2.2.1,x.2.2.2.trd⟩
section
variable {M:Model}{A:Around}{E:Value->Shared->Prop}{s:Shared}{B:Heap}{env env':Env}{outer:List Env}{L e:Addr}{cls:Value}{Q:Unit->Shared->Prop}
theorem x5 (hfr:A.frames=some (env::outer)) (hf:env.frame=some L) (hf':env'.frame=some L) (x:Hand B (env::outer) e cls s.heap)
  (h:∀ h',uz B (env::outer) e cls h'->s.heap.UpToSlots h'->Q () {s with heap:=h'}):wpAny M A (noteFrame (.ref e) env') Q E s:=by
 have en:noteFrame (.ref e) env'=noteFrame (.ref e) env:=by
  unfold noteFrame PySem.frameOf
  rw[hf,hf']
 rw[en]
 obtain⟨kb,hen,hl,oe,vs,a0,he,hcls,hd,h0,r⟩:=x
 subst hcls
 have fin:∀ h',Heap.NotedW B (env::outer) e oe.cls a0 (rawInt L) s.heap h'->Q () {s with heap:=h'}:=fun h' ⟨k1,k2,k3,k4⟩=>by
  obtain⟨oe',vs',T,oT,ts,g1,g2,g3,g4,g5,g6,g7,g8,g9⟩:=k3
  exact h h' ⟨k1,hen,k2,oe',vs',a0,g1,g2.1,g3,g2.2,T,oT,ts,_,g4,g5,g6,g7,g8,g9⟩ k4
 rcases r with h1 | ⟨T,oT,ts,f,h1,hnT,hTe,hT,hdT,h3⟩
 ·unfold noteFrame
  simp only[hf]
  refine wpAny_bind (wpAny_field he hd h1 ?_)
  rw[if_neg (by decide)]
  exact wpAny_entryW hfr hl hf he kb hen hd (Array.getElem?_eq_some_iff.mp h1).1 h0 fin
 ·unfold noteFrame
  simp only[hf]
  refine wpAny_bind (wpAny_field he hd h1 ?_)
  rw[if_pos (show (Value.ref T != Value.none)=true from by simp)]
  refine wpAny_bind (wpAny_field hT hdT h3 ?_)
  by_cases hc:(f==rawInt L)=true
  ·rw[if_pos hc]
   exact wpAny_pure (h s.heap ⟨kb,hen,hl,oe,vs,a0,he,rfl,hd,h0,T,oT,ts,f,h1,hnT,hTe,hT,hdT,h3⟩ (.refl _))
  ·rw[if_neg hc]
   refine wpAny_bind (wpAny_setField hT hdT (Array.getElem?_eq_some_iff.mp h3).1 ?_)
   have other:∀ b,b≠T->(s.heap.update T (Obj.mapFields (·.setIfInBounds 3 Value.none))).get? b=s.heap.get? b:=fun b hb=>Heap.get?_update_other _ _ (Ne.symm hb)
   have noRecord:∀ b o,s.heap.get? b=some o->(∀ vs,o.data ≠ .fields vs)->b≠T:=fun b o hb hnf q=>by
    rw[q,hT] at hb;injection hb with hb;subst hb;exact hnf ts hdT
   refine wpAny_entryW hfr (hl.of_keeps fun b o hb hnf=>⟨o,(other b (noRecord b o hb hnf)).trans hb,rfl⟩) hf ((other e (Ne.symm hTe)).trans he)
    (fun b o hbo=>(other b fun q=>by rw[q,hnT] at hbo;cases hbo).trans (kb b o hbo)) hen hd (Array.getElem?_eq_some_iff.mp h1).1 h0
    fun h' ⟨x1,x2,x3,x4⟩=>fin h' ⟨x1,x2,x3,fun b o hb hnf=>x4 b o ((other b (noRecord b o hb hnf)).trans hb) hnf⟩
theorem z0 {l:List Env}{fr:Option Addr} (x:uz B l e cls s.heap) (h:∀ h',uz B l e cls h'->s.heap.UpToSlots h'->Q () {s with heap:=h'}):wpAny M A (setFlight (.ref e) fr) Q E s:=by
 obtain⟨kb,hen,hl,oe,vs,a0,he,hcls,hd,h0,T,oT,ts,f,h1,hnT,hTe,hT,hdT,h3⟩:=x
 have hsz:3<ts.size:=(Array.getElem?_eq_some_iff.mp h3).1
 unfold setFlight
 refine wpAny_bind (wpAny_field he hd h1 ?_)
 rw[if_pos (show (Value.ref T != Value.none)=true from by simp)]
 refine wpAny_setField hT hdT hsz ?_
 have other:∀ (v:Value) b,b≠T->(s.heap.update T (Obj.mapFields (·.setIfInBounds 3 v))).get? b=s.heap.get? b:=fun v b hb=>Heap.get?_update_other _ _ (Ne.symm hb)
 have noRecord:∀ b o,s.heap.get? b=some o->(∀ vs,o.data ≠ .fields vs)->b≠T:=fun b o hb hnf q=>by
  rw[q,hT] at hb;injection hb with hb;subst hb;exact hnf ts hdT
 refine h _ ⟨fun b o hbo=>(other _ b fun q=>by rw[q,hnT] at hbo;cases hbo).trans (kb b o hbo),hen,hl.of_keeps fun b o hb hnf=>⟨o,(other _ b (noRecord b o hb hnf)).trans hb,rfl⟩,
  oe,vs,a0,(other _ e (Ne.symm hTe)).trans he,hcls,hd,h0,T,_,_,fr.elim Value.none fun f=>rawInt f,h1,hnT,hTe,Heap.get?_update_self _ hT (Obj.isFreed_of_fields (Obj.data_mapFields hdT _)),Obj.data_mapFields hdT _,Array.getElem?_setIfInBounds_self_of_lt hsz⟩ fun b o hb hn=>⟨o.slots,(other _ b (noRecord b o hb hn)).trans hb⟩
theorem Qs {l:List Env}{Q:Value->Shared->Prop} (x:uz B l e cls s.heap) (h:∀ T,Q (.ref T) s):wpAny M A (field (.ref e) 1) Q E s:=by
 obtain⟨kb,hen,hl,oe,vs,a0,he,hcls,hd,h0,T,oT,ts,f,h1,_⟩:=x
 exact wpAny_field he hd h1 (h T)
end
noncomputable def Arr (X:Cx) (E:XK) (e:Value) (s':Shared):Prop :=
 ∃ (a:Addr) (cls:Value) (B:Heap) (H':Hp) (pins:List (Addr × Obj)) (σ:St),e = .ref a/\Inv X pins σ H' s'/\Hand B X.stack a cls s'.heap /\
  (∀ b o,s'.heap.get? b=some o->b∉frs X.stack->Rel X pins H' b->B.get? b=some o)/\E cls none H'
noncomputable def CX1 (P:Program) (w:World):CXT:=fun outer H s E e s' =>
 ∃ (a:Addr) (cls:Value) (B:Heap) (H':Hp),e = .ref a/\s'.os=s.os/\AllBare s'.gens/\Un (frs outer) [] H H' s.heap s'.heap/\HOk P w H' s'.heap/\Hand B outer a cls s'.heap /\
  (∀ b o,s'.heap.get? b=some o->b∉frs outer->(H' b≠none\/∃ o',s.heap.get? b=some o')->B.get? b=some o)/\E cls none H'
theorem rebase {h base B:Heap}:∀ {l:List Env},h.FunFrames base l->(∀ b∈frs l,B.get? b=none)->h.FunFrames B l
 | [],_,_=>trivial
 | env::r,⟨hk,⟨L,o,hf,_,ho,hd⟩,hr⟩,hB=>by
  refine⟨hk,⟨L,o,hf,hB L ?_,ho,hd⟩,rebase hr fun b hb=>hB b ?_⟩
  ·unfold frs;rw[List.filterMap_cons,hf];exact List.mem_cons_self
  ·unfold frs;rw[List.filterMap_cons,hf];exact List.mem_cons_of_mem _ hb
section
variable {X:Cx}{pins:List (Addr × Obj)}{σ:St}{H H':Hp}{s s':Shared}{E E':XK}{e:Value}
theorem qgN (I:Inv X pins σ H s) (x:CX1 X.prog X.w X.stack H s E e s'):Arr X E e s':=by
 obtain⟨a,cls,B,H',e1,ho,hg,un,hok,hd,kb,q⟩:=x
 have I':Inv X pins σ H' s':=I.qdJ (ch:=[]) ho un hok hg fun b z=>absurd z (by simp)
 refine⟨a,cls,B,H',pins,σ,e1,I',hd,fun b o hb hf r=>kb b o hb hf ?_,q⟩
 rcases r with r | r
 ·exact .inl r
 ·exact .inr (VJ I (.inr r))
theorem qbB {cls:Value}{a:Addr}{args:List Value}{h':Heap} (I:Inv X pins σ H s) (m:Heap.MadeExcOf s.heap h' a cls args) (q:E cls none H):Arr X E (.ref a) {s with heap:=h'}:=by
 have I':Inv X pins σ H {s with heap:=h'}:=I.kept (t':=s.toks) m.keeps
 have hideN:∀ b∈frs X.stack,(PySem.W.hideAll s.heap (frs X.stack)).get? b=none:=fun b hb=>PySem.W.hideAll_none _ hb
 refine⟨a,cls,PySem.W.hideAll s.heap (frs X.stack),H,pins,σ,rfl,I',⟨fun b o e=>m.keeps b o (PySem.W.of_hideAll _ e),?_,rebase I'.stack hideN,?_⟩,fun b o hb hf r=>?_,q⟩
 ·cases z:(PySem.W.hideAll s.heap (frs X.stack)).get? a with
  | none=>rfl
  | some o =>
   have:=PySem.W.of_hideAll _ z
   rw[m.new] at this
   cases this
 ·obtain⟨t,ht,_,_⟩:=m.there
  exact⟨_,_,_,ht,rfl,rfl,rfl,.inl rfl⟩
 ·obtain⟨o',ho'⟩:=VJ I r
  have z:=m.keeps b o' ho'
  have z2:h'.get? b=some o:=hb
  rw[z] at z2
  cases z2
  exact PySem.W.hideAll_get _ ho' hf
theorem zD {a:Addr}{cls:Value}{B:Heap}{h':Heap} (I:Inv X pins σ H s) (hd:Hand B X.stack a cls s.heap) (kb:∀ b o,s.heap.get? b=some o->b∉frs X.stack->Rel X pins H b->B.get? b=some o)
  (hd':Hand B X.stack a cls h') (up:s.heap.UpToSlots h'):Inv X pins σ H {s with heap:=h'}/\∀ b o,h'.get? b=some o->b∉frs X.stack->Rel X pins H b->B.get? b=some o:=by
 refine⟨qbY (t':=s.toks) I (fun b o r hf e=>hd'.1 b o (kb b o e hf r)) fun b o hf e=>?_,fun b o hb hf r=>?_⟩
 ·obtain⟨_,o',e',hn⟩:=hd.2.2.1.mem hf
  rw[e] at e'
  cases e'
  exact up b o e hn
 ·obtain⟨o',e'⟩:=VJ I r
  have z:=hd'.1 b o' (kb b o' e' hf r)
  rw[hb] at z
  cases z
  exact kb b o e' hf r
end
noncomputable def Acc (X:Cx) (E:XK):Prop:=∀ e s',Arr X E e s'->X.xe e s'
theorem xj {X:Cx}{E:XK} (x:Acc X E):Passes (CX1 X.prog X.w) X E:=fun pins σ H s e s' I h=>x e s' (qgN I h)
theorem XF {P:Program}{w:World}{K:PySem.W.Frag}{mg:Str->Option Value}{base:Heap}{N:List Str}{qual:Str}{scope:Scope}{f:Addr}{cd:Value}{A:Around}{outer:List Env}{s:Shared}{H:Hp}{E:XK} :
  Acc (uP (CX1 P w) P w K mg base N qual scope f cd A outer s H E) E:=by
 intro e s1 x
 obtain⟨a,cls,B,H',pins,σ,rfl,I,hd,kb,q⟩:=x
 show wpAny _ _ (leaving _ _) _ _ _
 unfold leaving
 refine wpAny_bind (x5 (outer:=outer) I.ok.frames rfl rfl hd fun h1 hd1 up1=>?_)
 obtain⟨I1,kb1⟩:=zD I hd kb hd1.hand up1
 refine z0 hd1 fun h2 hd2 up2=>?_
 obtain⟨I2,kb2⟩:=zD I1 hd1.hand kb1 hd2.hand up2
 obtain⟨g1,g2,⟨_,_,g3⟩,g4⟩:=hd2.hand
 refine⟨a,cls,B,H',rfl,I2.os,I2.bare,I2.base,I2.hok,⟨g1,g2,g3,g4⟩,fun b o hb hf r=>kb2 b o hb (fun z=>?_) ?_,q⟩
 ·rcases List.mem_cons.mp (I2.xQ b z) with z | z
  ·rcases r with r | ⟨o',r⟩
   ·exact r (by rw[z];exact I2.free)
   ·exact absurd (Nat.lt_of_lt_of_le (Heap.lt_size r) I2.ok.above) (by rw[z];exact Nat.lt_irrefl _)
  ·exact hf z
 ·rcases r with r | ⟨o',r⟩
  ·exact .inl r
  ·exact .inr (.inl ⟨o',r,fun z=>nomatch z⟩)
noncomputable abbrev uU:List Value:=[.type "Exception",.type "BaseException",.type "object"]
noncomputable abbrev Xl:String:="Exception.__new__"
noncomputable def ExcAt (h:Heap) (C:Addr):Prop:=∃ N nm q bs hdct sn sub ab col dd k0 k1 k2 k3 k5 mN,
 h.get? C=some (excClassObj nm q C N bs uU hdct sn sub ab col dd k0 k1 k2 k3 k5 Xl)/\h.Ns N mN/\mN "__init__"=none
noncomputable def qgR (K:PySem.W.Frag) (C:Addr):Prop:=∃ N nm q bs hdct sn sub ab col dd k0 k1 k2 k3 k5,
 K.lookup C=some (excClassObj nm q C N bs uU hdct sn sub ab col dd k0 k1 k2 k3 k5 Xl)/\PySem.W.nsOkIn K N=true/\PySem.W.nsIn K N "__init__"=some none
open Classical in
noncomputable def qY (K:PySem.W.Frag) (C:Addr):Bool:=decide (qgR K C)
theorem xM {K:PySem.W.Frag}{h:Heap}{C:Addr} (X:K.In h) (q:qY K C=true):ExcAt h C:=by
 obtain⟨N,nm,qn,bs,hd,sn,sub,ab,col,dd,k0,k1,k2,k3,k5,look,hns,hini⟩:=(@decide_eq_true_iff (qgR K C) (Classical.propDecidable _)).mp q
 exact⟨N,nm,qn,bs,hd,sn,sub,ab,col,dd,k0,k1,k2,k3,k5,_,X _ _ look,.of_isNs (PySem.W.isNs_of_in X hns),PySem.W.nsMap_none_of_in X hns hini⟩
section
variable {X:Cx}{E:XK}
noncomputable def qhm (E:XK) (C:Addr):TS:=fun _ _ H=>E (.ref C) none H
theorem qcE {x:Str}{C:Addr}{np cpos pos:Pos} (hc:X.calm=true) (acc:Acc X E) (hg:Gl X x) (hm:X.mg x=some (.ref C)) (hC:qY X.K C=true) (hd:autoParam ((x==("__debug__":Str))=false) vh._auto_1) :
  PS X (.Raise (some (.Call (.Name x np) [] [] cpos)) none pos) (qhm E C):=by
 intro pins s σ H D I h
 obtain⟨N,nm,q,bs,hdct,sn,sub,ab,col,dd,k0,k1,k2,k3,k5,mN,hC,hN,hi⟩:=xM I.kIn hC
 refine wpAny_Raise_call_subT (bmB:=uU) (C:=C) (N:=N) (mN:=mN) (newId:=Xl) (nm:=nm) (q:=q) (bs:=bs) (bm:=uU) (hdct:=hdct) (sn:=sn) (sub:=sub) (ab:=ab) (col:=col) (dd:=dd) (k0:=k0) (k1:=k1) (k2:=k2) (k3:=k3) (k5:=k5) PySem.F.excBase_Exception (by decide) (I.ok.hd hc) rfl hi ?_
 refine jr I hg hm ⟨rfl,PySem.evalArgs_none ⟨rfl,by show 0 <= sizeLine;decide,hC,hN,.base,fun h' e m=>?_⟩⟩ hd
 exact acc _ _ (qbB I m h)
end
structure Qw (sc ls:Scope):Prop where
 kind:ls.kind = .function
 co:ls.isCoroutine=false
 gen:ls.isGenerator=false
 only:∀ y∈ls.names,y.2 = .free\/y.2 = .globalImplicit
 uniq:∀ y∈ls.names,ls.names.lookup y.1=some y.2
 free:∀ y∈ls.names,y.2 = .free->sc.names.lookup y.1=some .cell
noncomputable abbrev jW (X:Cx) (qual:Str) (ls:Scope) (f:Addr) (cd:Value) (s:Shared):Env:=PySem.W.envX qual ls s.heap.objs.size f cd (qX X.env.cells ls.names [])
noncomputable def Zd (X Y:Cx) (qual:Str) (ls:Scope) (f:Addr) (cd:Value) (s:Shared) (H:Hp) (E:XK):Cx where
 prog:=X.prog
 w:=X.w
 K:=X.K
 mg:=X.mg
 base:=X.base
 A:=Y.A.deeper (jW X qual ls f cd s)
 N:=X.N
 s_0:=s
 H_0:=H
 env:=jW X qual ls f cd s
 outer:=Y.stack
 stack:=jW X qual ls f cd s::Y.stack
 ex:=[]
 fn:=fun _=>false
 calm:=true
 pn:=[]
 xe:=fun e s'=>wpAny (model X.prog X.w) (Y.A.deeper (jW X qual ls f cd s)) (leaving (jW X qual ls f cd s) e) (fun _ s''=>CX1 X.prog X.w Y.stack H s E e s'') (fun e' s''=>CX1 X.prog X.w Y.stack H s E e' s'') s'
section
variable {X Y:Cx}{qual:Str}{ls:Scope}{f:Addr}{cd:Value}{s s1:Shared}{H H1:Hp}{E:XK}{pins:List (Addr × Obj)}{σ:St}
theorem u7 (ok:X.Ok) (L:Qw X.env.scope ls) {x:Str}{c:Addr} (h:(qX X.env.cells ls.names []).lookup x=some c):(x,NameKind.free)∈ls.names/\X.env.cells.lookup x=some c:=by
 rcases yI (PySem.mem_of_lookup h) with z | ⟨z,rfl⟩
 ·cases z
 ·obtain⟨c',e⟩:=ok.has x (.inl (L.free _ z rfl))
  exact⟨z,by rw[e];rfl⟩
theorem qbq (ok:X.Ok) (L:Qw X.env.scope ls) {x:Str} (h:(x,NameKind.free)∈ls.names):∃ c,(qX X.env.cells ls.names []).lookup x=some c/\X.env.cells.lookup x=some c:=by
 obtain⟨c,e⟩:=mem_lookup (xB (cells:=X.env.cells) (acc:=[]) h)
 exact⟨c,e,(u7 ok L e).2⟩
theorem qeT {h1:Heap}{tk:Nat} (L:Qw X.env.scope ls) (I1:Inv X pins σ H1 s1) (hcell:∀ x c v,X.env.cells.lookup x=some c->s1.heap.IsCell c v->s.heap.IsCell c v) (hfree:∀ x c,X.env.cells.lookup x=some c->H c=none)
  (hd:Y.A.handled=none) (e0:ZY X.prog X.w X.K X.mg X.base Y.A Y.stack s H) (hns:h1.Ns s.heap.objs.size (fun _=>none)) (kp:∀ b o,s.heap.get? b=some o->h1.get? b=some o) :
  Inv (Zd X Y qual ls f cd s H E) [] σ H {s with heap:=h1,toks:=tk}:=by
 have noA:∀ b:Addr,b∉(Zd X Y qual ls f cd s H E).ex:=fun b z=>absurd (show b∈([]:List Addr) from z) (by simp)
 refine⟨⟨e0.mod,L.kind,rfl,rfl,Nat.le_refl _,fun y z c h1 h2=>?_,fun y hy=>?_,fun y c z=>Bool.noConfusion (show false=true from z),fun _=>hd,Around.frames_deeper e0.frames,.inr ⟨rfl,rfl⟩,fun b z=>absurd z (noA b),e0.bs,e0.bsz,fun b _ _=>noA b,fun b z=>absurd z (noA b),e0.jL,e0.frf⟩,
  rfl,e0.bare,Un.kept kp,⟨_,hns,fun i y v h1 h2 h3=>?_⟩,fun y c h=>?_,e0.hok.fresh (Nat.le_refl _),fun y c h=>hfree y c (u7 I1.ok L h).2,fun p hp=>absurd (show p∈([]:List (Addr × Obj)) from hp) (by simp),e0.hok.kept kp,I1.len⟩
 ·exact I1.ok.inj y z c (u7 I1.ok L h1).2 (u7 I1.ok L h2).2
 ·have hy:ls.names.lookup y=some .cell\/ls.names.lookup y=some .free:=hy
  rcases hy with hy | hy
  ·rcases L.only _ (PySem.mem_of_lookup hy) with z | z <;> cases z
  ·obtain⟨c,e,_⟩:=qbq I1.ok L (PySem.mem_of_lookup hy)
   exact⟨c,e⟩
 ·have h3:ls.names.lookup y=some .local\/ls.names.lookup y=some .cell\/ls.names.lookup y=some .free:=h3
  have hfr:ls.names.lookup y=some .free:=by
   rcases h3 with z | z | z
   ·rcases L.only _ (PySem.mem_of_lookup z) with q | q <;> cases q
   ·rcases L.only _ (PySem.mem_of_lookup z) with q | q <;> cases q
   ·exact z
  have hc:=L.free _ (PySem.mem_of_lookup hfr) rfl
  obtain⟨c,e1,e2⟩:=qbq I1.ok L (PySem.mem_of_lookup hfr)
  obtain⟨m,_,hl⟩:=I1.loc
  obtain⟨u,r,l⟩:=hl i y v h1 h2 (.inr (.inl hc))
  refine⟨u,r,.inr ⟨.inr hfr,c,e1,?_⟩⟩
  rcases l with ⟨k,_⟩ | ⟨_,c',e',z⟩
  ·have k:X.env.scope.names.lookup y=some .local:=k
   rw[show X.env.scope.names.lookup y=_ from hc] at k
   cases k
  ·rw[e2] at e'
   cases e'
   exact (hcell y c _ e2 z).keeps kp
 ·obtain⟨_,e⟩:=u7 I1.ok L h
  obtain⟨v,z⟩:=I1.cell y c e
  exact⟨v,(hcell y c v e z).keeps kp⟩
theorem qeZ (L:Qw X.env.scope ls):Acc (Zd X Y qual ls f cd s H E) E:=by
 intro e s1 x
 obtain⟨a,cls,B,H',pins,σ,rfl,I,hd,kb,q⟩:=x
 show wpAny _ _ (leaving _ _) _ _ _
 unfold leaving
 refine wpAny_bind (x5 (outer:=Y.stack) I.ok.frames rfl rfl hd fun h1 hd1 up1=>?_)
 obtain⟨I1,kb1⟩:=zD I hd kb hd1.hand up1
 refine z0 hd1 fun h2 hd2 up2=>?_
 obtain⟨I2,kb2⟩:=zD I1 hd1.hand kb1 hd2.hand up2
 obtain⟨g1,g2,⟨_,_,g3⟩,g4⟩:=hd2.hand
 refine⟨a,cls,B,H',rfl,I2.os,I2.bare,I2.base,I2.hok,⟨g1,g2,g3,g4⟩,fun b o hb hf r=>kb2 b o hb (fun z=>?_) ?_,q⟩
 ·rcases List.mem_cons.mp (I2.xQ b z) with z | z
  ·rcases r with r | ⟨o',r⟩
   ·exact r (by rw[z];exact I2.free)
   ·exact absurd (Nat.lt_of_lt_of_le (Heap.lt_size r) I2.ok.above) (by rw[z];exact Nat.lt_irrefl _)
  ·exact hf z
 ·rcases r with r | ⟨o',r⟩
  ·exact .inl r
  ·exact .inr (.inl ⟨o',r,fun z=>nomatch z⟩)
end
structure qfV (s:Shared) (H:Hp) (fr:List Addr) (f c:Addr) (qual:Str) (params:Arguments) (body:Expr) (ls:Scope) (clos:List (Str × Addr)):Prop where
 obj:∃ pm ctv,s.heap.get? f=some (PySem.W.kla_obj "<lambda>" qual params body ls clos pm c ctv)
 fN:H f=none
 fF:f∉fr
 code:∃ oc vs t,s.heap.get? c=some oc/\oc.data = .fields vs/\vs[1]?=some (.str qual t)
 cN:H c=none
 cF:c∉fr
section
variable {X Y:Cx}{qual:Str}{params:Arguments}{body:Expr}{ls:Scope}{f c:Addr}{pins:List (Addr × Obj)}{σ1:St}{E:XK}{tb:TE}{k i:Nat}{x:Str}{p pos:Pos}
theorem qeI (I1:Inv X pins σ1 Y.H_0 Y.s_0) (eP:Y.prog=X.prog) (ew:Y.w=X.w) (eK:Y.K=X.K) (em:Y.mg=X.mg) (eb:Y.base=X.base) (eo:Y.outer=X.stack) (ex:Y.ex=[]) (hfn:∀ y,X.fn y=true) (L:Qw X.env.scope ls)
  (la:qfV Y.s_0 Y.H_0 Y.fs f c qual params body ls (qX X.env.cells ls.names [])) (hr:zi (k+1) Y.A) (acc:Acc Y E)
  (hbind:∀ pm ctv,bindArgs (PySem.W.kla_fn "<lambda>" qual params body ls (qX X.env.cells ls.names []) pm (.ref c) ctv) ⟨[],[]⟩=pure [])
  (hb:∀ (s:Shared) (H:Hp),PE (Zd X Y qual ls f (.ref c) s H E) body tb) (hx:Y.N[i]?=some x) (hv:Vis Y.env.scope x) (hdb:autoParam ((x==("__debug__":Str))=false) vh._auto_1) (hcd:autoParam ((x==("__classdict__":Str))=false) vh._auto_1) :
  PE Y (.Call (.Name x p) [] [] pos) (fun σ H Q=>σ[i]?=some (some (.ref f))/\tb σ1 H Q):=by
 intro pins' s σ H Q I ⟨hσ,hq⟩
 refine wpAny_Call_Name_kw (thn (Ze hx hv hdb hcd pins' s σ H (fun v H'=>v = .ref f/\H'=H) I ⟨_,hσ,rfl,rfl⟩) fun u s2 ⟨v,H2,I2,ru,ev,eH⟩=>?_)
 subst ev eH
 cases (show u=Value.ref f from ru)
 have keep:∀ b o,Y.s_0.heap.get? b=some o->Y.H_0 b=none->b∉Y.fs->s2.heap.get? b=some o/\H2 b=none:=fun b o e n nf =>
  ⟨I2.base.keep b o e n nf (by rw[ex];simp),I2.base.free b o e n (by rw[ex];simp)⟩
 obtain⟨⟨pm,ctv,ho⟩,fN,fF,⟨oc,vs,t,hoc,hod,hov⟩,cN,cF⟩:=la
 have ho2:=(keep f _ ho fN fF).1
 have hoc2:=(keep c _ hoc cN cF).1
 have hcalm:Y.A.handled=none:=hr.hd
 refine PySem.W.callWith_F0 ⟨_,_,_,_,ho2⟩ ?_
 have lim:s2.heap.NoLimit:=I2.nolimit
 have cells:∀ y d,X.env.cells.lookup y=some d->d∉Y.fs:=fun y d e hd=>by
  have z:d∈X.env.locals::X.fs:=I1.xQ d (by rw[<- eo];exact hd)
  rcases List.mem_cons.mp z with z | z
  ·exact I1.cne y d e z
  ·obtain⟨_,o1,e1,_⟩:=I1.ok.jL.mem z
   exact absurd (Nat.lt_of_lt_of_le (Heap.lt_size e1) (I1.ok.cab y d (hfn y) e)) (Nat.lt_irrefl _)
 have hcell:∀ y d v,X.env.cells.lookup y=some d->Y.s_0.heap.IsCell d v->s2.heap.IsCell d v:=fun y d v e ⟨o,h1,h2⟩=>⟨o,(keep d o h1 (I1.freeC y d e) (cells y d e)).1,h2⟩
 have hfree:∀ y d,X.env.cells.lookup y=some d->H2 d=none:=fun y d e=>by
  obtain⟨v,o,h1,_⟩:=I1.cell y d e
  exact (keep d o h1 (I1.freeC y d e) (cells y d e)).2
 have e0:ZY X.prog X.w X.K X.mg X.base Y.A Y.stack s2 H2:=by
  have:=I2.qe6
  rw[eP,ew,eK,em,eb] at this
  exact this
 have body_ok:codeAny (model Y.prog Y.w) Y.A (.call (.ref f) ⟨[],[]⟩) (CR (CX1 Y.prog Y.w) Y.stack Y.prog Y.w H2 s2 Q E) s2:=by
  refine PySem.W.kla_callFunE hr.depth ho2 rfl L.co L.gen rfl ⟨c,oc,vs,t,rfl,hoc2,hod,hov⟩ ?_
  rw[hbind]
  refine wpAny_pure (wpAny_newFunctionEnv (fun y hy z=>?_) (fun y hy=>nomatch hy) (fun h1 hns hsb=>⟨lim.fresh _ hsb,PySem.W.kla_codeExpr ?_⟩) L.kind)
  ·rcases L.only y hy with q | q <;> (rw[q] at z;cases z)
  ·have kp:∀ b o,s2.heap.get? b=some o->h1.get? b=some o:=fun b o e=>(hsb.2 b (Nat.ne_of_lt (Heap.lt_size e))).trans (Heap.get?_push_of_some _ e)
   have I3:Inv (Zd X Y qual ls f (.ref c) s2 H2 E) [] σ1 H2 {s2 with heap:=h1,toks:=s2.toks+0}:=qeT L I1 hcell hfree hcalm e0 hns kp
   rw[eP,ew]
   have q:=hb s2 H2 [] _ σ1 H2 Q I3 hq
   refine wpAny_mono q (fun v s' ⟨vv,H',J,rv,qq⟩=>?_) fun e s' hs=>?_
   ·exact⟨vv,H',J.os,J.bare,J.base,J.hok,rv,qq⟩
   ·exact hs
 refine wpAny_call (codeAny_mono body_ok fun r s' hq=>?_)
 cases r with
 | error e=>exact xj acc pins' σ H2 s2 e s' I2 hq
 | ok fl =>
  cases fl with
  | ret u=>exact I2.after hq
  | next=>exact False.elim hq
  | brk=>exact False.elim hq
  | cont=>exact False.elim hq
end
section
variable {M:Model}{A:Around}{E:Value->Shared->Prop}{s:Shared}{e C C':Addr}{oe:Obj}{Q:Bool->Shared->Prop}
theorem qds (hC:ExcAt s.heap C) (he:s.heap.get? e=some oe) (hcls:oe.cls = .ref C) (h:Q true s):wpAny M A (excMatches (.ref e) (.ref C)) Q E s:=by
 obtain⟨N,nm,q,bs,hdct,sn,sub,ab,col,dd,k0,k1,k2,k3,k5,mN,hC,hN,hi⟩:=hC
 obtain⟨hp,g,d,tk,os⟩:=s
 exact wpAny_excMatches_sub_self hC he hcls (by decide) h
theorem qbM (hC:ExcAt s.heap C) (hC':ExcAt s.heap C') (he:s.heap.get? e=some oe) (hcls:oe.cls = .ref C) (hne:C≠C') (h:Q false s):wpAny M A (excMatches (.ref e) (.ref C')) Q E s:=by
 obtain⟨N,nm,q,bs,hdct,sn,sub,ab,col,dd,k0,k1,k2,k3,k5,mN,hC,hN,hi⟩:=hC
 obtain⟨N',nm',q',bs',hdct',sn',sub',ab',col',dd',k0',k1',k2',k3',k5',mN',hC',hN',hi'⟩:=hC'
 obtain⟨hp,g,d,tk,os⟩:=s
 have c1:(Value.ref C'::uU).contains (.type "BaseException")=true:=by
  rw[List.contains_cons,show uU.contains (.type "BaseException")=true by decide,Bool.or_true]
 have c2:(Value.ref C::uU).contains (.ref C')=false:=by
  rw[List.contains_cons]
  have:(Value.ref C'==Value.ref C)=false:=by
   rw[beq_eq_false_iff_ne]
   exact fun z=>hne (Value.ref.inj z).symm
  rw[this]
  rfl
 have f:=tc_notTuple
 unfold excMatches
 repeat (first | (with_reducible refine wpAny_loadPart_at he ?_;rw[hcls]) | with_reducible refine wpAny_loadPart_at hC' ?_ | with_reducible refine wpAny_loadPart_at hC ?_ | (with_reducible refine wpAny_isSubtype_exc hC' ?_;rw[c1]) | (with_reducible refine wpAny_isSubtype_exc hC ?_;rw[c2]) | wp_step)
 exact h
end
noncomputable abbrev Cx.marked (X:Cx) (e:Value):Cx:={X with A:=X.A.mark (some e),calm:=false,xe:=fun _ _=>False}
section
variable {X:Cx}{pins:List (Addr × Obj)}{σ:St}{H:Hp}{s:Shared}
theorem Wj (I:Inv X pins σ H s) (e:Value):Inv (X.marked e) pins σ H s :=
 ⟨⟨I.ok.mod,I.ok.kind,I.ok.glob,I.ok.blt,I.ok.above,I.ok.inj,I.ok.has,I.ok.cab,fun z=>Bool.noConfusion (show false=true from z),I.ok.frames,I.ok.stk,I.ok.exf,I.ok.bs,I.ok.bsz,I.ok.noex,I.ok.exfs,I.ok.jL,I.ok.frf⟩,I.os,I.bare,I.base,I.loc,I.cell,I.free,I.freeC,I.pin,I.hok,I.len⟩
theorem y9 {e:Value} (I:Inv (X.marked e) pins σ H s) (ok:X.Ok):Inv X pins σ H s:=⟨ok,I.os,I.bare,I.base,I.loc,I.cell,I.free,I.freeC,I.pin,I.hok,I.len⟩
end
inductive Hs (X:Cx):List ExceptHandler->List (Addr × Int)->Prop
 | nil:Hs X [] []
 | cons {x:Str}{C:Addr}{k:Int}{r:List ExceptHandler}{l:List (Addr × Int)}{np p1 p2 p3 p4 p5:Pos}{j:Nat}:Gl X x->X.mg x=some (.ref C)->qY X.K C=true->(x==("__debug__":Str))=false->Hs X r l ->
   Hs X (.ExceptHandler (some (.Name x np)) none [.Return (some (.List [.UnaryOp .USub (.Constant (.int k) j p1) p2] p3)) p4] p5::r) ((C,k)::l)
section
variable {X:Cx}{pins:List (Addr × Obj)}{σ:St}{H:Hp}{s:Shared}{a C:Addr}{B:Heap}{D:Ends}
theorem qeS {hs:List ExceptHandler}{l:List (Addr × Int)} (h:Hs X hs l):∀ {s:Shared}{k:Int},qY X.K C=true->Inv X pins σ H s->uz B X.stack a (.ref C) s.heap->(∀ b o,s.heap.get? b=some o->b∉frs X.stack->Rel X pins H b->B.get? b=some o) ->
  l.lookup C=some k->(∀ p,H p=none->D.rt (.ref p) (upd H p (.lst [.int (-k)])))->wpAny (model X.prog X.w) X.A (handleBy (.ref a) X.env hs) (SP X pins D) X.xe s:=by
 induction h with
 | nil=>intro s k _ _ _ _ hl;cases hl
 | @cons x C' k' r l np p1 p2 p3 p4 p5 j hg hm hC' hd _ ih =>
  intro s k hC I ha kb hl q
  have em:=hC
  refine wpAny_handleBy_cons (codeAny_handlers_test ?_) (by intro z;cases z)
  have IM:=Wj I (.ref a)
  refine jr (X:=X.marked (.ref a)) IM hg hm ?_ hd
  obtain⟨oe,vs,a0,he,hcls,hd',h0,rr⟩:=ha.2.2.2
  by_cases hcc:C=C'
  ·subst hcc
   have hk:k'=k:=by
    rw[List.lookup_cons_self] at hl
    exact Option.some.inj hl
   subst hk
   refine qds (xM I.kIn hC) he hcls ?_
   show codeAny _ _ _ _ _
   refine codeAny_handlers_suite (z0 ha fun h2 ha2 up=>?_)
   obtain⟨I2,kb2⟩:=zD I ha.hand kb ha2.hand up
   have IM2:=Wj I2 (.ref a)
   have pe:PSs (X.marked (.ref a)) [.Return (some (.List [.UnaryOp .USub (.Constant (.int k') j p1) p2] p3)) p4] _:=jz (jj (Y8 (zm (qfS qec J6) xp)))
   refine wpAny_mono (pe pins _ σ H D IM2 ⟨k',rfl,by show 1 <= sizeLine;decide,q⟩) (fun f s3 hs=>?_) fun _ _ z=>z.elim
   cases f with
   | ret u =>
    obtain⟨v,σ',H',J,rv,qq⟩:=hs
    exact⟨v,σ',H',y9 J I.ok,rv,qq⟩
   | next=>obtain⟨σ',H',J,qq⟩:=hs;exact⟨σ',H',y9 J I.ok,qq⟩
   | brk=>obtain⟨σ',H',J,qq⟩:=hs;exact⟨σ',H',y9 J I.ok,qq⟩
   | cont=>obtain⟨σ',H',J,qq⟩:=hs;exact⟨σ',H',y9 J I.ok,qq⟩
  ·refine qbM (xM I.kIn hC) (xM I.kIn hC') he hcls hcc ?_
   show wpAny _ _ _ _ _ _
   refine ih hC I ha kb ?_ q
   rw[List.lookup_cons] at hl
   rw[show (C==C')=false from beq_eq_false_iff_ne.mpr hcc] at hl
   exact hl
end
noncomputable def qgX (K:PySem.W.Frag) (l:List (Addr × Int)) (rt:VK):XK:=fun c _ H=>∃ C k,c = .ref C/\qY K C=true/\l.lookup C=some k/\∀ p,H p=none->rt (.ref p) (upd H p (.lst [.int (-k)]))
noncomputable abbrev Cx.qcZ (X:Cx) (pins:List (Addr × Obj)):Cx:={X with pn:=X.pn++pins}
theorem qdx {X:Cx}{pins:List (Addr × Obj)}{σ:St}{H:Hp}{s:Shared} (I:Inv X pins σ H s):Inv (X.qcZ pins) [] σ H s :=
 ⟨⟨I.ok.mod,I.ok.kind,I.ok.glob,I.ok.blt,I.ok.above,I.ok.inj,I.ok.has,I.ok.cab,I.ok.hd,I.ok.frames,I.ok.stk,I.ok.exf,I.ok.bs,I.ok.bsz,I.ok.noex,I.ok.exfs,I.ok.jL,I.ok.frf⟩,I.os,I.bare,I.base,I.loc,I.cell,I.free,I.freeC,
  fun p hp=>I.pin p (by have z:p∈(X.pn++pins)++[]:=hp;rwa [List.append_nil] at z),I.hok,I.len⟩
theorem xn {X:Cx}{pins pins':List (Addr × Obj)}{σ:St}{H:Hp}{s:Shared} (I:Inv (X.qcZ pins) pins' σ H s) (ok:X.Ok):Inv X pins σ H s :=
 ⟨ok,I.os,I.bare,I.base,I.loc,I.cell,I.free,I.freeC,fun p hp=>I.pin p (List.mem_append_left _ hp),I.hok,I.len⟩
theorem qgx {X:Cx}{body:List Stmt}{h0:ExceptHandler}{hs:List ExceptHandler}{l:List (Addr × Int)}{pos:Pos}{tb:Ends->TS}{L:Addr} (hst:X.stack=X.env::X.outer) (hfr:X.env.frame=some L) (hH:Hs X (h0::hs) l)
  (hb:∀ (D:Ends) (pins:List (Addr × Obj)),PSs ((X.qcZ pins).u0 (Arr (X.qcZ pins) (qgX X.K l D.rt))) body (tb D)):PS X (.Try body (h0::hs) [] [] pos) (fun D σ H=>tb D D σ H):=by
 intro pins s σ H D I h
 refine wpAny_Try_except (wpAny_mono (hb D pins [] s σ H D ((qdx I).u0 _) h) (fun f s1 q=>?_) fun e s1 x=>?_)
 ·have q:=q.yO
  cases f with
  | next=>obtain⟨σ',H',J,qq⟩:=q;exact wpAny_execs_nil ⟨σ',H',xn J I.ok,qq⟩
  | ret v=>obtain⟨v,σ',H',J,r,qq⟩:=q;exact⟨v,σ',H',xn J I.ok,r,qq⟩
  | brk=>obtain⟨σ',H',J,qq⟩:=q;exact⟨σ',H',xn J I.ok,qq⟩
  | cont=>obtain⟨σ',H',J,qq⟩:=q;exact⟨σ',H',xn J I.ok,qq⟩
 ·obtain⟨a,cls,B,H',pins',σ',rfl,J,hd,kb,C,k,rfl,hC,hl,q⟩:=x
  have hfrm:X.A.frames=some (X.env::X.outer):=by rw[<- hst];exact J.ok.frames
  have J:=xn J I.ok
  have hd:Hand B X.stack a (.ref C) s1.heap:=hd
  have kb:∀ b o,s1.heap.get? b=some o->b∉frs X.stack->Rel X pins H' b->B.get? b=some o:=fun b o h1 h2 r=>kb b o h1 h2 (by
   rcases r with r | r | r | r | ⟨p,hp,r⟩
   ·exact .inl r
   ·exact .inr (.inl r)
   ·exact .inr (.inr (.inl r))
   ·exact .inr (.inr (.inr (.inl r)))
   ·exact .inr (.inr (.inr (.inr ⟨p,List.mem_append_left _ hp,r⟩))))
  have hd0:=hd
  rw[hst] at hd0
  refine x5 hfrm hfr hfr hd0 fun h1 hd1 up1=>?_
  rw[<- hst] at hd1
  obtain⟨I1,kb1⟩:=zD J hd kb hd1.hand up1
  refine z0 hd1 fun h2 hd2 up2=>?_
  obtain⟨I2,kb2⟩:=zD I1 hd1.hand kb1 hd2.hand up2
  exact qeS hH hC I2 hd2 kb2 hl q
theorem qdN {X:Cx}{pins:List (Addr × Obj)}{σ:St}{H:Hp}{s:Shared}{P:Addr}{ps more:Array Value}{h':Heap}{tk:Nat} (I:Inv X pins σ H s) (hP:H P=some (.tbl ps)) (hx:Heap.ExtBut P s.heap h')
  (hP':h'.get? P=some {cls:=.none,data:=.fields (ps++more)}):Inv X pins σ (upd H P (.tbl (ps++more))) {s with heap:=h',toks:=tk}:=by
 have ne:∀ b,H b=none->b≠P:=fun b n z=>by rw[z,hP] at n;cases n
 have ne2:∀ b u,H b=some u->(∀ ps,u ≠ .tbl ps)->b≠P:=fun b u n q z=>by rw[z,hP] at n;exact q ps (Option.some.inj n).symm
 refine I.un ⟨fun b o e n _ _=>hx b o (ne b n) e,fun b o e n _ _=>⟨o.slots,hx b o (ne b n) e⟩,fun b o e n _=>by rw[qD (ne b n)];exact n,fun b o e _=>?_,fun b xs e=>by rw[qD (ne2 b _ e fun _ z=>nomatch z)];exact e,
  fun b o u e=>by rw[qD (ne2 b _ e fun _ z=>nomatch z)];exact e,fun b qs e=>?_⟩ fun b u e=>?_
 ·by_cases hb:b=P
  ·rw[hb];exact⟨_,hP'⟩
  ·exact⟨o,hx b o hb e⟩
 ·by_cases hb:b=P
  ·subst hb
   rw[hP] at e
   cases e
   exact⟨more,qV⟩
  ·exact⟨#[],by rw[qD hb,e];simp⟩
 ·by_cases hb:b=P
  ·subst hb
   rw[qV] at e
   cases e
   exact hP'
  ·rw[qD hb] at e
   refine (I.hok b u e).ZW (fun c v hc q=>?_) (fun c q=>?_) fun c xs q=>?_
   ·refine hx c v ?_ q
    rcases hc with z | z
    ·rw[z];exact hb
    ·exact ne2 c _ z fun _ z=>nomatch z
   ·rw[qD (ne2 c _ q fun _ z=>nomatch z)];exact q
   ·rw[qD (ne2 c _ q fun _ z=>nomatch z)];exact q
theorem qgQ {CX:CXT}{P:Program}{w:World}{K:PySem.W.Frag}{mg:Str->Option Value}{base:Heap}{k:Nat}{f:Addr}{name qual:Str}{params:Arguments}{body:List Stmt}{scope:Scope}{dV kV doc pm cdv ct oc:Value}{an od:Option Addr}
  {osl:Array (Option Value)}{N ps:List Str}{A:Around}{outer:List Env}{s:Shared}{H:Hp}{args:Args}{us:List Value}{vs:List V}{Q:VK}{E:XK}
  (lk:K.lookup f=some ⟨oc,od,.func (PySem.W.fnOf name qual params body scope dV kV doc pm an cdv ct),osl⟩) (hcd:PySem.W.codeIn K cdv qual=true) (S:qp N ps scope) (hl:vs.length=ps.length) (hr:zi (k+1) A)
  (e0:ZY P w K mg base A outer s H) (hb:BindsTo s (PySem.W.fnOf name qual params body scope dV kV doc pm an cdv ct) args (ps.zip us)) (r:Vals vs us)
  (hbody:∃ t,PSs (uP CX P w K mg base N qual scope f cdv A outer s H E) body t/\t {nx:=fun _ H'=>Q .non H',rt:=Q} (start N vs) H) :
  codeAny (model P w) A (.call (.ref f) args) (CR CX outer P w H s Q E) s:=by
 have F:=qa7 (P:=P) (w:=w) (mg:=mg) (base:=base) (CX:=CX) (k:=k) (sp:=fun vs' H' Q' E'=>vs'.length=ps.length/\False) lk hcd S (fun _ _ _ _ z=>z.1) fun _ _ _ _ _ _ _ _ z=>z.2.elim
 have KX:K.In s.heap:=e0.mod.kin.keeps fun b o e=>(e0.bs b o e).1
 have lim:s.heap.NoLimit:=e0.mod.nolimit.keeps fun b o e=>(e0.bs b o e).1
 have hkind:∀ y∈ps.zip us,scope.names.lookup y.1=some .local\/(scope.names.lookup y.1=some .cell/\((cellsFrom (s.heap.objs.size+1) scope.names []).lookup y.1).isSome=true):=fun⟨n,v⟩ hy=>by
  rcases S.par n (List.of_mem_zip hy).1 with q | q
  ·exact .inl q
  ·exact .inr ⟨q,PySem.W.cellsFrom_some _ _ _ (.inl q)⟩
 refine codeAny_call_function hr.depth (KX _ _ lk) rfl S.co S.gen rfl (PySem.W.codeRec_of KX hcd) (hb _ _ _ _ ?_)
 refine wpAny_newFunctionEnv_cells S.kind hkind fun env he s1 x=>?_
 subst he
 refine⟨lim.keeps x.toInCall.keep,codeAny_func ?_⟩
 obtain⟨t,ht,hq⟩:=hbody
 have I:Inv (uP CX P w K mg base N qual scope f cdv A outer s H E) [] (start N vs) H s1:=Yx S hr.hd e0 hl r x
 refine wpAny_mono (ht [] s1 (start N vs) H _ I hq) (fun fl s' hs=>?_) fun e s' hs=>hs
 have fin:∀ {σ':St}{H':Hp}{v:V}{u:Value},Inv (uP CX P w K mg base N qual scope f cdv A outer s H E) [] σ' H' s'->RelV v u->Q v H'->CE outer P w H s Q u s' :=
  fun {σ' H' v u} J rv q=>⟨v,H',J.os,J.bare,J.base,J.hok,rv,q⟩
 cases fl with
 | ret u =>
  obtain⟨v,σ',H',J,rv,q⟩:=hs
  exact fin J rv q
 | next =>
  obtain⟨σ',H',J,q⟩:=hs
  exact fin (v:=V.non) (u:=Value.none) J rfl q
 | brk =>
  obtain⟨_,_,_,q⟩:=hs
  exact False.elim q
 | cont =>
  obtain⟨_,_,_,q⟩:=hs
  exact False.elim q
theorem Qp {X:Cx}{E:XK}:Acc (X.u0 (Arr X E)) E:=fun e s' x=>by
 obtain⟨a,cls,B,H',pins,σ,e1,I,hd,kb,q⟩:=x
 exact⟨a,cls,B,H',pins,σ,e1,I.yO,hd,kb,q⟩
structure ux (mg:Str->Option Value) (base:Heap) (c P:Addr):Prop where
 code:PySem.W.CodeHd base c P
 bm:∃ bm ob,mg "__builtins__"=some (.ref bm)/\bm≠builtinsNs/\base.get? bm=some ob/\ob.cls = .type "module"/\ob.dict=some builtinsNs/\ob.data = .plain
section
variable {X:Cx}{pins:List (Addr × Obj)}{σ:St}{H:Hp}{s:Shared}{c P:Addr}{params:Arguments}{body:Expr}{ls:Scope}{lpos:Pos}{E:Value->Shared->Prop}{Q:Value->Shared->Prop}
theorem qdq (I:Inv X pins σ H s) (BL:ux X.mg X.base c P) (hc:X.env.code = .ref c) (hP:H P=some (.tbl #[])) (L:Qw X.env.scope ls) (hdef:defaultsOf params X.env=([],[]))
  (h:∀ (s1:Shared) (more:Array Value) (f c':Addr),Inv X pins σ (upd H P (.tbl more)) s1->qfV s1 (upd H P (.tbl more)) (frs X.stack) f c' (X.env.qual++"<lambda>") params body ls (qX X.env.cells ls.names [])->Q (.ref f) s1) :
  wpAny (model X.prog X.w) X.A (eval (.Lambda params body ls lpos) X.env) Q E s:=by
 have hPo:s.heap.get? P=some (PySem.W.tabObj #[]):=I.hok P _ hP
 have hg:=I.mod.glob.keeps I.bk
 obtain⟨bm,ob,b1,b2,b3,b4,b5,b6⟩:=BL.bm
 have nP:∀ b o,X.base.get? b=some o->b≠P:=fun b o e z=>by
  have:=(I.bs b o e).2
  rw[z,hP] at this
  cases this
 have hgP:mainGlobals≠P:=by
  obtain⟨o,es,ep,e,_⟩:=I.mod.glob
  exact nP _ o e
 have hbG:bm≠mainGlobals:=fun z=>by
  obtain⟨o,es,ep,e,hd,_⟩:=I.mod.glob
  rw[z,e] at b3
  cases b3
  rw[hd] at b6
  cases b6
 have hclos:closureFor ls X.env=pure (qX X.env.cells ls.names []):=Zi fun y hy e=>I.ok.has _ (.inl (L.free y hy e))
 refine PySem.W.kla_eval hdef (PySem.W.kla_makeFunction (mg:=X.mg) (P:=P) hclos I.ok.glob hg hc (BL.code.keeps I.bk) hPo trivial rfl hgP ⟨bm,ob,b1,b2,hbG,nP bm ob b3,I.bk bm ob b3,b4,b5,b6⟩ fun c' ctv h' tk hx hge hlt hrec htb=>?_)
 have I1:=qdN (tk:=tk) I hP hx htb
 have hPlt:P<s.heap.objs.size:=Heap.lt_size hPo
 obtain⟨c2,oc,vs,t,e2,hoc,hd,hv⟩:=hrec
 cases e2
 have cN:upd H P (.tbl (#[] ++ #[rawInt lpos.line,rawInt lpos.col,.ref c'])) c'=none:=by
  rw[qD (Nat.ne_of_gt (Nat.lt_of_lt_of_le hPlt hge))]
  exact I.hok.fresh hge
 have I2:=I1.kept (h':=h'.push (PySem.W.kla_obj "<lambda>" (X.env.qual++"<lambda>") params body ls (qX X.env.cells ls.names []) ((X.mg "__name__").getD .none) c' ctv)) (t':=tk) fun b o e=>Heap.get?_push_of_some _ e
 have notF:∀ b,s.heap.objs.size <= b->b∉frs X.stack:=fun b hb z=>by
  rcases List.mem_cons.mp (I.xQ b z) with z | z
  ·exact absurd (Nat.lt_of_lt_of_le I.lt hb) (by rw[z];exact Nat.lt_irrefl _)
  ·exact I.qhV hb z
 exact h _ _ _ c' I2 ⟨⟨_,ctv,Heap.get?_push_size _ rfl⟩,I1.hok.fresh (Nat.le_refl _),notF _ (Nat.le_trans hge (Nat.le_of_lt hlt)),⟨oc,vs,t,Heap.get?_push_of_some _ hoc,hd,hv⟩,cN,notF _ hge⟩
end
noncomputable def Y7 (hs:List ExceptHandler) (q1 q2 q3 q4 q5 q6 q7 q8 q9 q10:Pos) (j:Nat):List Stmt :=
 [.Try [.Assign [.Name "told" q1] (.Call (.Name "work" q2) [] [] q3) q4] hs [] [] q5,.Return (some (.BinOp (.List [.Constant (.int 0) j q6] q7) .Add (.Name "told" q8) q9)) q10]
noncomputable def qiq (Q:VK):VK:=fun v H=>∃ b zs,v = .ref b/\H b=some (.lst zs)/\zs.length+1 <= sizeLine/\∀ q,H q=none->∀ p,upd H q (.lst [.int 0]) p=none->Q (.ref p) (upd (upd H q (.lst [.int 0])) p (.lst (.int 0::zs)))
noncomputable def qgb (f:Addr) (Q:VK):VK:=fun v H=>qgY (tOp qh1 (qhQ (qei (tC (.int 0)) qhk)) (qhC 1)) {nx:=fun _ H'=>Q .non H',rt:=Q} [some (.ref f),some v] H
theorem qdG {f:Addr}{Q:VK}{v:V}{H:Hp} (h:qiq Q v H):qgb f Q v H:=by
 obtain⟨b,zs,rfl,hb,hz,q⟩:=h
 refine⟨by show 1 <= sizeLine;decide,fun p hp=>⟨_,rfl,p,b,[.int 0],zs,rfl,rfl,qV,?_,by show 1+zs.length <= sizeLine;lia,q p hp⟩⟩
 rw[qD (vz hb hp)]
 exact hb
noncomputable def qgf (K:PySem.W.Frag) (l:List (Addr × Int)) (P:Addr) (tb:XK->TE):TE:=fun σ H Q=>H P=some (.tbl #[])/\∀ more f,tb (qgX K l Q) σ (upd H P (.tbl more)) (qgb f Q)
section
variable {X:Cx}{c P f2:Addr}{params:Arguments}{body:Expr}{ls:Scope}{lpos p pos:Pos}{tb:XK->TE}{k:Nat}{l:List (Addr × Int)}{E:XK}
 {args2:Arguments}{sc2:Scope}{dV kV doc pm cdv ct oc:Value}{an od:Option Addr}{osl:Array (Option Value)}{h0:ExceptHandler}{hs:List ExceptHandler}{q1 q2 q3 q4 q5 q6 q7 q8 q9 q10:Pos}{j:Nat}
theorem Uu (BL:ux X.mg X.base c P) (hc:X.env.code = .ref c) (hfn:∀ y,X.fn y=true) (hst:X.stack=X.env::X.outer) (L:Qw X.env.scope ls) (hdef:defaultsOf params X.env=([],[])) (hr:zi (k+2) X.A)
  (hg:Gl X "answered") (hm:X.mg "answered"=some (.ref f2)) (hk:PySem.W.keepIn X.K (.ref f2)=true)
  (lk:X.K.lookup f2=some ⟨oc,od,.func (PySem.W.fnOf "answered" "answered" args2 (Y7 (h0::hs) q1 q2 q3 q4 q5 q6 q7 q8 q9 q10 j) sc2 dV kV doc pm an cdv ct),osl⟩) (hcd:PySem.W.codeIn X.K cdv "answered"=true)
  (S:qp ["work","told"] ["work"] sc2) (hw:sc2.names.lookup ("work":Str)=some .local) (ht:sc2.names.lookup ("told":Str)=some .local)
  (hb2:∀ (s:Shared) (u:Value),BindsTo s (PySem.W.fnOf "answered" "answered" args2 (Y7 (h0::hs) q1 q2 q3 q4 q5 q6 q7 q8 q9 q10 j) sc2 dV kV doc pm an cdv ct) ⟨[u],[]⟩ ((["work"]:List Str).zip [u]))
  (hH:∀ (s:Shared) (H:Hp),Hs (uP (CX1 X.prog X.w) X.prog X.w X.K X.mg X.base ["work","told"] "answered" sc2 f2 cdv X.A X.stack s H E) (h0::hs) l)
  (hbind:∀ c' clos pm ctv,bindArgs (PySem.W.kla_fn "<lambda>" (X.env.qual++"<lambda>") params body ls clos pm (.ref c') ctv) ⟨[],[]⟩=pure [])
  (hE:Acc X E)
  (hb:∀ (Y:Cx) (f:Addr) (cd:Value) (s:Shared) (H:Hp) (E':XK),zi k (Y.A.deeper (jW X (X.env.qual++"<lambda>") ls f cd s))->PE (Zd X Y (X.env.qual++"<lambda>") ls f cd s H E') body (tb E')) :
  PE X (.Call (.Name "answered" p) [.Lambda params body ls lpos] [] pos) (qgf X.K l P tb):=by
 intro pins s σ H Q I ⟨hP,h⟩
 refine wpAny_Call_Name_kw (jr I hg hm ?_ (by decide))
 refine PySem.W.callWith_K (h₀:=X.base) I.ok.mod.kin hk ?_ rfl rfl
 refine Calls.spliced_cons (qdq I BL hc hP L hdef fun s1 more f c' I1 la=>Calls.spliced_nil ⟨I1.kIn,?_⟩)
 have hr1:zi (k+1+1) X.A:=hr
 -- the def's body
 have body_ok:codeAny (model X.prog X.w) X.A (.call (.ref f2) ⟨[.ref f],[]⟩) (CR (CX1 X.prog X.w) X.stack X.prog X.w (upd H P (.tbl more)) s1 Q E) s1:=by
  refine qgQ (N:=["work","told"]) (vs:=[.ref f]) lk hcd S rfl hr1 I1.qe6 (hb2 s1 (.ref f)) (.cons rfl .nil) ?_
  generalize hY:uP (CX1 X.prog X.w) X.prog X.w X.K X.mg X.base ["work","told"] "answered" sc2 f2 cdv X.A X.stack s1 (upd H P (.tbl more)) E=Y
  have hHs:Hs Y (h0::hs) l:=by rw[<- hY];exact hH s1 _
  have room:zi (k+1) Y.A:=by rw[<- hY];exact hr1.deeper _
  refine⟨_,W0 (qgx (X:=Y) (L:=s1.heap.objs.size) (tb:=fun D=>J4 (fun σ' H' Q'=>σ'[0]?=some (some (.ref f))/\tb (qgX Y.K l D.rt) σ H' Q') (zP 1)) (by rw[<- hY];rfl) (by rw[<- hY];rfl) hHs fun D pins'=>jz (Zm (i:=1) (X:=(Y.qcZ pins').u0 _) ?nd ?ni ?nl ?work ?sw ?fn)) (jz (jj (qfW qha (Y8 (zm J6 xp)) (Ze (i:=1) ?vi ?vv)))),?_⟩
  case nd=>subst hY;exact S.nd
  case ni=>subst hY;rfl
  case nl=>subst hY;exact .inl ht
  case sw=>subst hY;rfl
  case fn=>subst hY;exact .inl rfl
  case vi=>subst hY;rfl
  case vv=>subst hY;exact .inl ht
  case work =>
   subst hY
   exact qeI (X:=X) (k:=k) I1 rfl rfl rfl rfl rfl rfl rfl hfn L la room Qp (fun pm ctv=>hbind c' _ pm ctv) (fun s' H'=>hb _ f (.ref c') s' H' _ (room.deeper _)) rfl (.inl hw)
  ·subst hY
   exact⟨rfl,h more f⟩
 refine wpAny_call (codeAny_mono body_ok fun r s' hq=>?_)
 cases r with
 | error e=>exact xj hE pins σ _ s1 e s' I1 hq
 | ok fl =>
  cases fl with
  | ret u=>exact I1.after hq
  | next=>exact False.elim hq
  | brk=>exact False.elim hq
  | cont=>exact False.elim hq
end
end L2
namespace L2.Ir
open PySem
set_option genInjectivity true in
inductive D where
 | non | bl (b:Bool) | int (i:Int) | lst (xs:List D) | tup (xs:List D) | fn (x:Str) | obj (c:Str) (ns:List Str) (xs:List D)
noncomputable def D.sc:D->Bool
 | .non=>true
 | .bl _=>true
 | .int _=>true
 | _=>false
inductive Kd where
 | bo | sh | nw | fr
noncomputable def Kd.low:Kd->Kd->Kd
 | .bo,_=>.bo
 | _,.bo=>.bo
 | .sh,_=>.sh
 | _,.sh=>.sh
 | _,_=>.nw
set_option genInjectivity true in
inductive Rs (α:Type) where
 | ok (a:α) | er (c:Str) | no
noncomputable def Rs.bind {α β:Type} (x:Rs α) (f:α->Rs β):Rs β:=match x with
 | .ok a=>f a
 | .er c=>.er c
 | .no=>.no
@[simp] theorem Rs.qM {α β:Type} (a:α) (f:α->Rs β):(Rs.ok a).bind f=f a:=rfl
inductive Sl where
 | un | val (d:D) (k:Bool) | own (ds:List D)
noncomputable abbrev Dl:=List Sl
noncomputable abbrev DK:=D × Kd
noncomputable abbrev RE:=Dl->Rs DK
noncomputable abbrev RA:=Dl->Rs (List DK)
noncomputable def qa (i:Nat):RE:=fun δ=>match δ[i]? with
 | some (.val d k)=>.ok (d,if k=true then .nw else .sh)
 | some (.own ds)=>.ok (.lst ds,.bo)
 | _=>.no
noncomputable def rC (d:D):RE:=fun _=>.ok (d,.nw)
noncomputable def qh (f:DK->DK->Rs DK) (ra rb:RE):RE:=fun δ=>(ra δ).bind fun x=>(rb δ).bind fun y=>f x y
noncomputable def rUn (f:DK->Rs DK) (ra:RE):RE:=fun δ=>(ra δ).bind f
noncomputable def kL (xs:List D) (k:Kd):Kd:=if xs.all D.sc=true then .fr else k
noncomputable abbrev LIM:Nat:=16777216
noncomputable def few (i:Int):Prop:=i.natAbs<2^60000
noncomputable instance (i:Int):Decidable (few i):=inferInstanceAs (Decidable (i.natAbs<2^60000))
noncomputable def wm:DK->DK->Rs DK
 | (.int i,_),(.int j,_)=>.ok (.int (i+j),.nw)
 | (.lst xs,k),(.lst ys,l)=>if xs.length+ys.length <= LIM then .ok (.lst (xs++ys),kL (xs++ys) (k.low l)) else .no
 | _,_=>.no
noncomputable def wg:DK->DK->Rs DK
 | (.int i,_),(.int j,_)=>.ok (.int (i-j),.nw)
 | _,_=>.no
open Classical in
noncomputable def jY:DK->DK->Rs DK
 | (.int i,_),(.int j,_)=>if few i/\few j then .ok (.int (i*j),.nw) else .no
 | (.lst xs,.fr),(.int j,_)=>if (0 <= j/\j<1000000)/\xs.length*j.toNat <= LIM then .ok (.lst (List.replicate j.toNat xs).flatten,kL (List.replicate j.toNat xs).flatten .nw) else .no
 | _,_=>.no
noncomputable def zk:DK->DK->Rs DK
 | (.int i,_),(.int j,_)=>if 0<j/\j.natAbs.log2<9000 then .ok (.int (i / j),.nw) else .no
 | _,_=>.no
noncomputable def oMod:DK->DK->Rs DK
 | (.int i,_),(.int j,_)=>if 0<j then .ok (.int (i%j),.nw) else .no
 | _,_=>.no
open Classical in
noncomputable def w4:DK->DK->Rs DK
 | (.int i,_),(.int j,_)=>if 0 <= j/\j <= 60000/\few i then .ok (.int (i*2^j.toNat),.nw) else .no
 | _,_=>.no
noncomputable def Vb:DK->DK->Rs DK
 | (.int i,_),(.int j,_)=>if 0 <= j then .ok (.int (i / 2^j.toNat),.nw) else .no
 | _,_=>.no
noncomputable def jT (f:Int->Int->Int):DK->DK->Rs DK
 | (.int i,_),(.int j,_)=>.ok (.int (f i j),.nw)
 | _,_=>.no
noncomputable def yq (f:Int->Int->Bool):DK->DK->Rs DK
 | (.int i,_),(.int j,_)=>.ok (.bl (f i j),.nw)
 | _,_=>.no
noncomputable def intsOf:List D->Option (List Int)
 | []=>some []
 | .int i::r=>(intsOf r).map (i :: ·)
 | _=>none
noncomputable def oEq (neg:Bool):DK->DK->Rs DK
 | (.int i,_),(.int j,_)=>.ok (.bl (if neg=true then !decide (i=j) else decide (i=j)),.nw)
 | (.bl i,_),(.bl j,_)=>.ok (.bl (if neg=true then !decide (i=j) else decide (i=j)),.nw)
 | (.lst xs,_),(.lst ys,_)=>match intsOf xs,intsOf ys with
  | some ns,some ms=>.ok (.bl (if neg=true then !decide (ns=ms) else decide (ns=ms)),.nw)
  | _,_=>.no
 | _,_=>.no
noncomputable def qb8:DK->Rs DK
 | (.int i,_)=>.ok (.int (-i),.nw)
 | _=>.no
noncomputable def ug (n:Nat) (i:Int):Option Nat:=if 0 <= i then (if i<n then some i.toNat else none) else if -(n:Int) <= i then some (i+n).toNat else none
noncomputable def oIx:DK->DK->Rs DK
 | (.lst xs,k),(.int i,_)=>match (ug xs.length i).bind fun j=>xs[j]? with
  | some d=>.ok (d,k.low .nw)
  | none=>.no
 | (.tup xs,k),(.int i,_)=>match (ug xs.length i).bind fun j=>xs[j]? with
  | some d=>.ok (d,k.low .nw)
  | none=>.no
 | _,_=>.no
noncomputable def vW (c f:Str):DK->Rs DK
 | (.obj c' ns ds,k)=>if c'=c then (match (ns.zip ds).lookup f with
  | some d=>.ok (d,k.low .nw)
  | none=>.no) else .no
 | _=>.no
noncomputable def pick {α:Type} (xs:List α) (lo hi st:Option Int):List α :=
 (sliceRange (sliceBounds lo hi st xs.length).1 (sliceBounds lo hi st xs.length).2.1 (sliceBounds lo hi st xs.length).2.2).filterMap (xs[·]?)
noncomputable abbrev RO:=Dl->Rs (Option Int)
noncomputable def VU:RO:=fun _=>.ok none
noncomputable def Qo (r:RE):RO:=fun δ=>(r δ).bind fun x=>match x.1 with
 | .int i=>.ok (some i)
 | _=>.no
noncomputable def Zt (ra:RE) (rl rh rs:RO):RE:=fun δ=>(ra δ).bind fun x=>(rl δ).bind fun lo=>(rh δ).bind fun hi=>(rs δ).bind fun st=>match x.1 with
 | .lst xs=>if st=some 0 then .no else .ok (.lst (pick xs lo hi st),kL (pick xs lo hi st) (x.2.low .nw))
 | _=>.no
noncomputable def qi:RA:=fun _=>.ok []
noncomputable def qc (ra:RE) (rr:RA):RA:=fun δ=>(ra δ).bind fun x=>(rr δ).bind fun xs=>.ok (x::xs)
noncomputable def vj:List DK->Kd
 | []=>.nw
 | x::r=>if x.1.sc=true then vj r else x.2.low (vj r)
noncomputable def Qh (r:RA):RE:=fun δ=>(r δ).bind fun xs=>if xs.length <= LIM then .ok (.lst (xs.map (·.1)),kL (xs.map (·.1)) (vj xs)) else .no
noncomputable abbrev Fn:=List D->Rs (D × Bool)
noncomputable def kB (b:Bool):Kd:=if b=true then .fr else .nw
noncomputable def qe (g:Fn) (r:RA):RE:=fun δ=>(r δ).bind fun xs=>(g (xs.map (·.1))).bind fun y=>.ok (y.1,kB y.2)
noncomputable def wu (f:List DK->Rs DK) (r:RA):RE:=fun δ=>(r δ).bind f
noncomputable def yX:List DK->Rs DK
 | [(.lst xs,_)]=>.ok (.int xs.length,.nw)
 | [(.tup xs,_)]=>.ok (.int xs.length,.nw)
 | _=>.no
noncomputable def qgJ:List DK->Rs DK
 | [(.int i,_)]=>.ok (.int (if i<0 then -i else i),.nw)
 | _=>.no
noncomputable def JU:List DK->Rs DK
 | [(.int i,_),(.int j,_)]=>.ok (.int (if j>i then j else i),.nw)
 | _=>.no
noncomputable def qci:List DK->Rs DK
 | [(.int i,_),(.int j,_)]=>.ok (.int (if j<i then j else i),.nw)
 | _=>.no
noncomputable def Uh:List DK->Rs DK
 | [(.lst xs,k)]=>.ok (.lst xs,kL xs (k.low .nw))
 | [(.tup xs,k)]=>.ok (.lst xs,kL xs (k.low .nw))
 | _=>.no
noncomputable def oBits:DK->Rs DK
 | (.int i,_)=>.ok (.int (if i=0 then 0 else i.natAbs.log2+1:Nat),.nw)
 | _=>.no
noncomputable abbrev RT:=Dl->Rs Bool
noncomputable def tBl (r:RE):RT:=fun δ=>(r δ).bind fun x=>match x.1 with
 | .bl b=>.ok b
 | _=>.no
noncomputable def Vk (a b:RT):RT:=fun δ=>(a δ).bind fun x=>if x=true then b δ else .ok false
noncomputable def Z6 (a b:RT):RT:=fun δ=>(a δ).bind fun x=>if x=true then .ok true else b δ
noncomputable def xK (a:RT):RT:=fun δ=>(a δ).bind fun x=>.ok (!x)
noncomputable def j8 (t:RT) (a b:RE):RE:=fun δ=>(t δ).bind fun x=>if x=true then a δ else b δ
noncomputable abbrev RI:=Dl->Rs (Bool × List DK)
noncomputable def Kd.safe:Kd->Bool
 | .bo=>false
 | _=>true
noncomputable def iOf (r:RE):RI:=fun δ=>(r δ).bind fun x=>match x.1 with
 | .lst xs=>.ok (x.2.safe,xs.map fun d=>(d,x.2.low .nw))
 | _=>.no
noncomputable def v8 (r:RE):RI:=fun δ=>(r δ).bind fun x=>match x.1 with
 | .int i=>if -1000000<i/\i<1000000 then .ok (true,(List.range i.toNat).map fun (k:Nat)=>(D.int k,.nw)) else .no
 | _=>.no
noncomputable def jo (r q:RE):RI:=fun δ=>(r δ).bind fun x=>(q δ).bind fun y=>match x.1,y.1 with
 | .int i,.int j=>if (-1000000<i/\i<1000000) /\ -1000000<j/\j<1000000 then .ok (true,(List.range (j-i).toNat).map fun (k:Nat)=>(D.int (i+k),.nw)) else .no
 | _,_=>.no
noncomputable def X9 (r q:RE):RI:=fun δ=>(r δ).bind fun x=>(q δ).bind fun y=>match x.1,y.1 with
 | .lst xs,.lst ys=>.ok (x.2.safe&&y.2.safe,(xs.zip ys).map fun p=>(.tup [p.1,p.2],x.2.low y.2))
 | _,_=>.no
inductive Tg where
 | one (i:Nat) | two (i j:Nat)
noncomputable def uo (x:DK):Sl:=.val x.1 (match x.2 with | .nw=>true | .fr=>true | _=>false)
noncomputable def put (i:Nat) (x:DK) (δ:Dl):Option Dl:=match x with
 | (d,.bo)=>if d.sc=true then some (δ.set i (.val d true)) else none
 | (d,k)=>some (δ.set i (uo (d,if d.sc=true then .nw else k)))
noncomputable def Tg.put:Tg->DK->Dl->Option Dl
 | .one i,x,δ=>Ir.put i x δ
 | .two i j,(.tup [a,b],k),δ=>(Ir.put i (a,k) δ).bind (Ir.put j (b,k))
 | _,_,_=>none
inductive Out where
 | nx (δ:Dl) | rt (d:D) (k:Bool) | bk (δ:Dl) | ct (δ:Dl) | er (c:Str) | no
noncomputable abbrev RS:=Dl->Out
noncomputable def wC:RS:=fun δ=>.nx δ
noncomputable def Out.andThen (o:Out) (f:RS):Out:=match o with
 | .nx δ=>f δ
 | o=>o
noncomputable def vt (a b:RS):RS:=fun δ=>(a δ).andThen b
noncomputable def frz:Sl->Sl
 | .own ds=>.val (.lst ds) true
 | x=>x
noncomputable def freeze (δ:Dl):Dl:=δ.map frz
noncomputable def vd (i:Nat) (r:RE):RS:=fun δ=>match r δ with
 | .ok (.lst ds,.fr)=>.nx (δ.set i (.own ds))
 | .ok (d,.bo)=>if d.sc=true then .nx (δ.set i (.val d true)) else .nx ((freeze δ).set i (.val d false))
 | .ok (d,k)=>.nx (δ.set i (uo (d,if d.sc=true then .nw else k)))
 | .er c=>.er c
 | .no=>.no
noncomputable def uV (r:RE):RS:=fun δ=>match r δ with
 | .ok _=>.nx δ
 | .er c=>.er c
 | .no=>.no
noncomputable def sIf (t:RT) (a b:RS):RS:=fun δ=>match t δ with
 | .ok x=>if x=true then a δ else b δ
 | .er c=>.er c
 | .no=>.no
noncomputable def vK (r:RE):RS:=fun δ=>match r (freeze δ) with
 | .ok (.lst ds,.fr)=>.rt (.lst ds) true
 | .ok (d,.nw)=>.rt d false
 | .ok (d,_)=>if d.sc=true then .rt d false else .no
 | .er c=>.er c
 | .no=>.no
noncomputable def Qe (i:Nat):RS:=fun δ=>match δ[i]? with
 | some (.own ds)=>.rt (.lst ds) true
 | some (.val d k)=>if d.sc=true\/k=true then .rt d false else .no
 | _=>.no
noncomputable def wJ (c:Str):RS:=fun _=>.er c
noncomputable def turns (tg:Tg) (body:RS):List DK->RS
 | [],δ=>.nx δ
 | x::r,δ=>match tg.put x δ with
  | none=>.no
  | some δ1=>match body δ1 with
   | .nx δ2=>turns tg body r δ2
   | .ct δ2=>turns tg body r δ2
   | .bk δ2=>.nx δ2
   | o=>o
noncomputable def qaw (tg:Tg) (src:RI) (body:RS):RS:=fun δ=>match src δ with
 | .ok (true,xs)=>turns tg body xs δ
 | .ok (false,_)=>.no
 | .er c=>.er c
 | .no=>.no
noncomputable def Yl (tg:Tg) (i:Nat) (body:RS):RS:=fun δ=>qaw tg (iOf (qa i)) body (match δ[i]? with
 | some (.own ds)=>δ.set i (.val (.lst ds) true)
 | _=>δ)
noncomputable def wl (t:RT) (body:RS):Nat->RS
 | 0,_=>.no
 | n+1,δ=>match t δ with
  | .ok x=>if x=true then (match body δ with
   | .nx δ2=>wl t body n δ2
   | .ct δ2=>wl t body n δ2
   | .bk δ2=>.nx δ2
   | o=>o) else .nx δ
  | .er c=>.er c
  | .no=>.no
open Classical in
noncomputable def ZJ (t:RT) (body:RS):RS:=fun δ=>if h:∃ n,wl t body n δ ≠ .no then wl t body h.choose δ else .no
theorem We {t:RT}{body:RS}:∀ {n m:Nat}{δ:Dl},wl t body n δ ≠ .no->n <= m->wl t body m δ=wl t body n δ
 | 0,_,_,h,_=>absurd rfl h
 | n+1,0,_,_,hm=>absurd hm (by lia)
 | n+1,m+1,δ,h,hm=>by
  unfold wl at h ⊢
  cases ht:t δ with
  | er c=>rfl
  | no=>rfl
  | ok x =>
   rw[ht] at h
   cases x with
   | false=>rfl
   | true =>
    simp only[if_true] at h ⊢
    cases hb:body δ with
    | nx δ2=>rw[hb] at h;exact We h (by lia)
    | ct δ2=>rw[hb] at h;exact We h (by lia)
    | bk δ2=>rfl
    | rt d k=>rfl
    | er c=>rfl
    | no=>rfl
theorem qck {t:RT}{body:RS}{n:Nat}{δ:Dl}{o:Out} (h:wl t body n δ=o) (ho:o ≠ .no):ZJ t body δ=o:=by
 have ex:∃ n,wl t body n δ ≠ .no:=⟨n,by rw[h];exact ho⟩
 unfold ZJ
 rw[dif_pos ex]
 rcases Nat.le_total n ex.choose with q | q
 ·rw[We (by rw[h];exact ho) q,h]
 ·rw[<- h,We ex.choose_spec q]
noncomputable def items (tg:Tg) (t:RT) (r:RE) (δ:Dl):List DK->Rs (List DK)
 | []=>.ok []
 | x::xs=>match tg.put x δ with
  | none=>.no
  | some δ1=>(t δ1).bind fun b=>if b=true then (r δ1).bind fun y=>(items tg t r δ xs).bind fun ys=>.ok (y::ys) else items tg t r δ xs
noncomputable def xx:RT:=fun _=>.ok true
noncomputable def clear (δ:Dl):List Nat->Dl
 | []=>δ
 | v::vs=>(clear δ vs).set v .un
noncomputable def uM (tg:Tg) (src:RI) (t:RT) (r:RE) (vs:List Nat):RE:=fun δ=>(src δ).bind fun xs=>if xs.2.length<LIM then (items tg t r (clear δ vs) xs.2).bind fun ys =>
 .ok (.lst (ys.map (·.1)),kL (ys.map (·.1)) (vj ys)) else .no
noncomputable def Tg.within:Tg->List Nat->Prop
 | .one i,vs=>i∈vs
 | .two i j,vs=>i∈vs/\j∈vs
end L2.Ir
namespace L2.Ir
open PySem PySem.Spec PyProof.Rows
section
variable (mg:Str->Option Value) (K:PySem.W.Frag)
mutual
/-- the value v stands for the datum d, all addresses within in G -/
inductive Rp (G:Addr->Prop) (H:Hp):V->D->Prop
 | non:Rp G H .non .non
 | bl (b:Bool):Rp G H (.bl b) (.bl b)
 | int (i:Int):Rp G H (.int i) (.int i)
 | fn {x:Str}{a:Addr}:mg x=some (.ref a)->Rp G H (.ref a) (.fn x)
 | lst {a:Addr}{xs:List V}{ds:List D}:G a->Rd H a (.lst xs)->qz G H xs ds->Rp G H (.ref a) (.lst ds)
 | lstK {a:Addr}{xs:List V}{ds:List D}:(∀ H',SqL K H' a xs)->qz G H xs ds->Rp G H (.ref a) (.lst ds)
 | tup {a:Addr}{xs:List V}{ds:List D}:G a->Rd H a (.tup xs)->qz G H xs ds->Rp G H (.ref a) (.tup ds)
 | tupK {a:Addr}{xs:List V}{ds:List D}:(∀ H',SqT K H' a xs)->qz G H xs ds->Rp G H (.ref a) (.tup ds)
 | obj {a C dx:Addr}{c:Str}{ns:List Str}{xs:List V}{ds:List D}:G a->mg c=some (.ref C)->H a=some (.ins C dx (ns.zip xs))->ns.length=xs.length->qz G H xs ds->Rp G H (.ref a) (.obj c ns ds)
inductive qz (G:Addr->Prop) (H:Hp):List V->List D->Prop
 | nil:qz G H [] []
 | cons {v:V}{vs:List V}{d:D}{ds:List D}:Rp G H v d->qz G H vs ds->qz G H (v::vs) (d::ds)
end
end
section
variable {mg:Str->Option Value}{K:PySem.W.Frag}
theorem qeg {H H':Hp}{a:Addr}{u:HO} (h:Rd H a u) (k:∀ o,H a=some o->H' a=some o):Rd H' a u:=by
 rcases h with h | ⟨o,h⟩
 ·exact .inl (k _ h)
 ·exact .inr ⟨o,k _ h⟩
theorem XA {H:Hp}{a:Addr}{u:HO} (h:Rd H a u):H a≠none:=by
 rcases h with h | ⟨o,h⟩ <;> (rw[h];exact fun z=>nomatch z)
theorem Rp.ofL {G:Addr->Prop}{H:Hp}{a:Addr}{xs:List V}{ds:List D} (s:SqL K H a xs) (g:H a≠none->G a) (r:qz mg K G H xs ds):Rp mg K G H (.ref a) (.lst ds):=by
 rcases s with s | s
 ·exact .lst (g (XA s)) s r
 ·exact .lstK (fun _=>.inr s) r
mutual
theorem Rp.mono {G G':Addr->Prop}{H H':Hp} (k:∀ a,G a->G' a/\∀ o,H a=some o->H' a=some o):∀ (d:D) (v:V),Rp mg K G H v d->Rp mg K G' H' v d
 | .non,_,h=>by cases h;exact .non
 | .bl b,_,h=>by cases h;exact .bl b
 | .int i,_,h=>by cases h;exact .int i
 | .fn x,_,h=>by cases h with | fn e=>exact .fn e
 | .lst ds,_,h=>by
  cases h with
  | lst g s r=>exact .lst (k _ g).1 (qeg s (k _ g).2) (qz.mono k ds _ r)
  | lstK s r=>exact .lstK s (qz.mono k ds _ r)
 | .tup ds,_,h=>by
  cases h with
  | tup g s r=>exact .tup (k _ g).1 (qeg s (k _ g).2) (qz.mono k ds _ r)
  | tupK s r=>exact .tupK s (qz.mono k ds _ r)
 | .obj c ns ds,_,h=>by
  cases h with
  | obj g m s l r=>exact .obj (k _ g).1 m ((k _ g).2 _ s) l (qz.mono k ds _ r)
theorem qz.mono {G G':Addr->Prop}{H H':Hp} (k:∀ a,G a->G' a/\∀ o,H a=some o->H' a=some o):∀ (ds:List D) (vs:List V),qz mg K G H vs ds->qz mg K G' H' vs ds
 | [],_,h=>by cases h;exact .nil
 | d::ds,_,h=>by cases h with | cons a b=>exact .cons (Rp.mono k d _ a) (qz.mono k ds _ b)
end
mutual
/-- tracked addresses are there -/
theorem Rp.there {G:Addr->Prop}{H:Hp}:∀ (d:D) (v:V),Rp mg K G H v d->Rp mg K (fun a=>G a/\H a≠none) H v d
 | .non,_,h=>by cases h;exact .non
 | .bl b,_,h=>by cases h;exact .bl b
 | .int i,_,h=>by cases h;exact .int i
 | .fn x,_,h=>by cases h with | fn e=>exact .fn e
 | .lst ds,_,h=>by
  cases h with
  | lst g s r=>exact .lst ⟨g,XA s⟩ s (qz.there ds _ r)
  | lstK s r=>exact .lstK s (qz.there ds _ r)
 | .tup ds,_,h=>by
  cases h with
  | tup g s r=>exact .tup ⟨g,XA s⟩ s (qz.there ds _ r)
  | tupK s r=>exact .tupK s (qz.there ds _ r)
 | .obj c ns ds,_,h=>by
  cases h with
  | obj g m s l r=>exact .obj ⟨g,by rw[s];exact fun z=>nomatch z⟩ m s l (qz.there ds _ r)
theorem qz.there {G:Addr->Prop}{H:Hp}:∀ (ds:List D) (vs:List V),qz mg K G H vs ds->qz mg K (fun a=>G a/\H a≠none) H vs ds
 | [],_,h=>by cases h;exact .nil
 | d::ds,_,h=>by cases h with | cons a b=>exact .cons (Rp.there d _ a) (qz.there ds _ b)
end
theorem Rp.weak {G G':Addr->Prop}{H:Hp}{v:V}{d:D} (h:Rp mg K G H v d) (k:∀ a,G a->G' a):Rp mg K G' H v d:=h.mono (fun a g=>⟨k a g,fun _ e=>e⟩)
theorem Rp.same {G:Addr->Prop}{H H':Hp}{v:V}{d:D} (h:Rp mg K G H v d) (s:qB H H'):Rp mg K G H' v d:=h.mono (fun a g=>⟨g,fun o e=>s a o e⟩)
theorem qz.weak {G G':Addr->Prop}{H:Hp}{v:List V}{d:List D} (h:qz mg K G H v d) (k:∀ a,G a->G' a):qz mg K G' H v d:=h.mono (fun a g=>⟨k a g,fun _ e=>e⟩)
theorem qz.same {G:Addr->Prop}{H H':Hp}{v:List V}{d:List D} (h:qz mg K G H v d) (s:qB H H'):qz mg K G H' v d:=h.mono (fun a g=>⟨g,fun o e=>s a o e⟩)
noncomputable def toV:D->V
 | .non=>.non
 | .bl b=>.bl b
 | .int i=>.int i
 | _=>.non
theorem Rp.zt {G:Addr->Prop}{H:Hp}:∀ {d:D},d.sc=true->Rp mg K G H (toV d) d
 | .non,_=>.non
 | .bl b,_=>.bl b
 | .int i,_=>.int i
 | .lst _,h=>nomatch h
 | .tup _,h=>nomatch h
 | .fn _,h=>nomatch h
 | .obj _ _ _,h=>nomatch h
theorem Rp.sc {G:Addr->Prop}{H:Hp}{v:V}{d:D} (h:Rp mg K G H v d) (s:d.sc=true):v=toV d:=by
 cases h <;> first | rfl | cases s
theorem qz.zt {G:Addr->Prop}{H:Hp}:∀ {ds:List D},ds.all D.sc=true->qz mg K G H (ds.map toV) ds
 | [],_=>.nil
 | d::ds,h=>by
  rw[List.all_cons,Bool.and_eq_true] at h
  exact .cons (.zt h.1) (qz.zt h.2)
theorem qz.sc {G:Addr->Prop}{H:Hp}:∀ {vs:List V}{ds:List D},qz mg K G H vs ds->ds.all D.sc=true->vs=ds.map toV
 | _,[],.nil,_=>rfl
 | _,d::ds,.cons a b,h=>by
  rw[List.all_cons,Bool.and_eq_true] at h
  rw[a.sc h.1,qz.sc b h.2]
  rfl
theorem qz.len {G:Addr->Prop}{H:Hp}:∀ {vs:List V}{ds:List D},qz mg K G H vs ds->vs.length=ds.length
 | _,_,.nil=>rfl
 | _,_,.cons _ b=>by rw[List.length_cons,List.length_cons,qz.len b]
theorem qz.get {G:Addr->Prop}{H:Hp}:∀ {vs:List V}{ds:List D}{i:Nat}{v:V},qz mg K G H vs ds->vs[i]?=some v->∃ d,ds[i]?=some d/\Rp mg K G H v d
 | _,_,i,_,.nil,e=>by simp at e
 | _,_,0,_,.cons a _,e=>by simp at e;subst e;exact⟨_,rfl,a⟩
 | _,_,i+1,v,.cons _ b,e=>by
  obtain⟨d,h1,h2⟩:=qz.get (i:=i) (v:=v) b (by simpa using e)
  exact⟨d,by simpa using h1,h2⟩
theorem qz.getD {G:Addr->Prop}{H:Hp}:∀ {vs:List V}{ds:List D}{i:Nat}{d:D},qz mg K G H vs ds->ds[i]?=some d->∃ v,vs[i]?=some v/\Rp mg K G H v d
 | _,_,i,_,.nil,e=>by simp at e
 | _,_,0,_,.cons a _,e=>by simp at e;subst e;exact⟨_,rfl,a⟩
 | _,_,i+1,d,.cons _ b,e=>by
  obtain⟨v,h1,h2⟩:=qz.getD (i:=i) (d:=d) b (by simpa using e)
  exact⟨v,by simpa using h1,h2⟩
theorem qz.append {G:Addr->Prop}{H:Hp}:∀ {vs us:List V}{ds es:List D},qz mg K G H vs ds->qz mg K G H us es->qz mg K G H (vs++us) (ds++es)
 | _,_,_,_,.nil,h=>h
 | _,_,_,_,.cons a b,h=>.cons a (qz.append b h)
theorem qz.rep {G:Addr->Prop}{H:Hp}{vs:List V}{ds:List D} (h:qz mg K G H vs ds):∀ n:Nat,qz mg K G H (List.replicate n vs).flatten (List.replicate n ds).flatten
 | 0=>.nil
 | n+1=>by
  rw[List.replicate_succ,List.replicate_succ,List.flatten_cons,List.flatten_cons]
  exact h.append (qz.rep h n)
end
structure Bs where
 H0:Hp
 P:Addr->Prop
noncomputable def vG (B:Bs) (σ:St) (δ:Dl) (p:Addr):Prop:=B.P p\/∃ (i:Nat) (ds:List D),δ[i]?=some (.own ds)/\σ[i]?=some (some (.ref p))
structure Rl (mg:Str->Option Value) (K:PySem.W.Frag) (B:Bs) (H:Hp) (σ:St) (δ:Dl):Prop where
 same:qB B.H0 H
 pd:∀ p,B.P p->H p≠none
 len:σ.length=δ.length
 val:∀ (i:Nat) (d:D) (k:Bool),δ[i]?=some (.val d k)->∃ v,σ[i]?=some (some v)/\Rp mg K (fun a=>¬ vG B σ δ a/\(k=true->B.H0 a=none)) H v d
 own:∀ (i:Nat) (ds:List D),δ[i]?=some (.own ds)->ds.all D.sc=true/\∃ p,σ[i]?=some (some (.ref p))/\B.H0 p=none/\¬ B.P p/\H p=some (.lst (ds.map toV))
 apart:∀ (i j:Nat) (p:Addr) (ds es:List D),δ[i]?=some (.own ds)->δ[j]?=some (.own es)->σ[i]?=some (some (.ref p))->σ[j]?=some (some (.ref p))->i=j
noncomputable def VR (mg:Str->Option Value) (K:PySem.W.Frag) (B:Bs) (H H':Hp) (σ:St) (δ:Dl):Kd->V->D->Prop
 | .bo,v,d=>Rp mg K (fun a=>¬ B.P a) H' v d
 | .sh,v,d=>Rp mg K (fun a=>¬ vG B σ δ a) H' v d
 | .nw,v,d=>Rp mg K (fun a=>¬ vG B σ δ a/\B.H0 a=none) H' v d
 | .fr,v,d=>∃ p ds,v = .ref p/\d = .lst ds/\ds.all D.sc=true/\H p=none/\H' p=some (.lst (ds.map toV))
section
variable {mg:Str->Option Value}{K:PySem.W.Frag}{B:Bs}{H H1 H' H'':Hp}{σ:St}{δ:Dl}{k l:Kd}{v:V}{d:D}
theorem qB.refl {H:Hp}:qB H H:=fun _ _ e=>e
theorem Rl.more (R:Rl mg K B H σ δ) (s:qB H H'):Rl mg K B H' σ δ :=
 ⟨R.same.trans s,fun p h=>fun z=>R.pd p h (s.free z),R.len,fun i d k e=>let ⟨v,a,b⟩:=R.val i d k e;⟨v,a,b.same s⟩,fun i ds e=>let ⟨a,p,b,c,n,x⟩:=R.own i ds e;⟨a,p,b,c,n,s _ _ x⟩,R.apart⟩
theorem Rl.owned (R:Rl mg K B H σ δ) {p:Addr} (h:vG B σ δ p):H p≠none:=by
 rcases h with h | ⟨i,ds,e,e2⟩
 ·exact R.pd p h
 ·obtain⟨_,q,e3,_,_,e4⟩:=R.own i ds e
  rw[e2] at e3
  cases e3
  rw[e4]
  exact fun z=>nomatch z
theorem Rl.fresh (R:Rl mg K B H σ δ) {p:Addr} (h:H p=none):¬ vG B σ δ p:=fun o=>R.owned o h
theorem VR.later (h:VR mg K B H H' σ δ k v d) (s:qB H' H''):VR mg K B H H'' σ δ k v d:=by
 cases k with
 | bo=>exact Rp.same h s
 | sh=>exact Rp.same h s
 | nw=>exact Rp.same h s
 | fr=>obtain⟨p,ds,a,b,c,e,f⟩:=h;exact⟨p,ds,a,b,c,e,s _ _ f⟩
theorem VR.Wg (h:VR mg K B H1 H' σ δ k v d) (s:qB H H1):VR mg K B H H' σ δ k v d:=by
 cases k with
 | bo=>exact h
 | sh=>exact h
 | nw=>exact h
 | fr=>obtain⟨p,ds,a,b,c,e,f⟩:=h;exact⟨p,ds,a,b,c,s.free e,f⟩
theorem VR.yN (R:Rl mg K B H σ δ) (h:VR mg K B H H' σ δ .fr v d):VR mg K B H H' σ δ .nw v d:=by
 obtain⟨p,ds,rfl,rfl,c,e,f⟩:=h
 exact .lst ⟨R.fresh e,R.same.free e⟩ (.of f) (.zt c)
theorem VR.ua (h:VR mg K B H H' σ δ .nw v d):VR mg K B H H' σ δ .sh v d:=Rp.weak h fun _ g=>g.1
theorem VR.WI (h:VR mg K B H H' σ δ .sh v d):VR mg K B H H' σ δ .bo v d:=Rp.weak h fun _ g z=>g (.inl z)
theorem VR.bo' (R:Rl mg K B H σ δ) (h:VR mg K B H H' σ δ k v d):VR mg K B H H' σ δ .bo v d:=by
 cases k with
 | bo=>exact h
 | sh=>exact VR.WI h
 | nw=>exact VR.WI (VR.ua h)
 | fr=>exact VR.WI (VR.ua (VR.yN R h))
theorem VR.rp (R:Rl mg K B H σ δ) (h:VR mg K B H H' σ δ k v d):Rp mg K (fun _=>True) H' v d:=by
 exact Rp.weak (VR.bo' R h) fun _ _=>trivial
theorem VR.low (R:Rl mg K B H σ δ) (l:Kd) (h:VR mg K B H H' σ δ k v d):VR mg K B H H' σ δ (k.low l) v d:=by
 cases k <;> cases l <;> first | exact h | exact VR.bo' R h | exact VR.yN R h | exact VR.ua h | exact VR.ua (VR.yN R h)
theorem VR.qhP (R:Rl mg K B H σ δ) (l:Kd) (h:VR mg K B H H' σ δ k v d):VR mg K B H H' σ δ (l.low k) v d:=by
 cases k <;> cases l <;> first | exact h | exact VR.bo' R h | exact VR.yN R h | exact VR.ua h | exact VR.ua (VR.yN R h)
theorem VR.zt (k:Kd) (hk:k ≠ .fr) (s:d.sc=true):VR mg K B H H' σ δ k (toV d) d:=by
 cases k <;> first | exact Rp.zt s | exact absurd rfl hk
theorem VR.int (i:Int):VR mg K B H H' σ δ .nw (.int i) (.int i):=Rp.int i
theorem VR.bl (b:Bool):VR mg K B H H' σ δ .nw (.bl b) (.bl b):=Rp.bl b
noncomputable def Gk (B:Bs) (σ:St) (δ:Dl):Kd->Addr->Prop
 | .bo,a=>¬ B.P a
 | .sh,a=>¬ vG B σ δ a
 | _,a=>¬ vG B σ δ a/\B.H0 a=none
theorem VR.gk (hk:k ≠ .fr):VR mg K B H H' σ δ k v d=Rp mg K (Gk B σ δ k) H' v d:=by
 cases k <;> first | rfl | exact absurd rfl hk
theorem low_ne (k l:Kd):k.low l ≠ .fr:=by cases k <;> cases l <;> intro z <;> cases z
theorem VR.items {ds:List D} (R:Rl mg K B H σ δ) (h:VR mg K B H H' σ δ k v (.lst ds)):∃ a xs,v = .ref a/\SqL K H' a xs/\qz mg K (Gk B σ δ (k.low .nw)) H' xs ds:=by
 have h2:=VR.low R .nw h
 rw[VR.gk (low_ne _ _)] at h2
 cases h2 with
 | lst g s r=>exact⟨_,_,rfl,.inl s,r⟩
 | lstK s r=>exact⟨_,_,rfl,s _,r⟩
theorem VR.JY {ds:List D} (R:Rl mg K B H σ δ) (h:VR mg K B H H' σ δ k v (.tup ds)):∃ a xs,v = .ref a/\SqT K H' a xs/\qz mg K (Gk B σ δ (k.low .nw)) H' xs ds:=by
 have h2:=VR.low R .nw h
 rw[VR.gk (low_ne _ _)] at h2
 cases h2 with
 | tup g s r=>exact⟨_,_,rfl,.inl s,r⟩
 | tupK s r=>exact⟨_,_,rfl,s _,r⟩
theorem VR.laid {p:Addr}{xs:List V}{ds:List D} (R:Rl mg K B H σ δ) (s:qB H H') (hp:H' p=none) (hk:k ≠ .fr) (h:qz mg K (Gk B σ δ k) H' xs ds):VR mg K B H (upd H' p (.lst xs)) σ δ (kL ds k) (.ref p) (.lst ds):=by
 unfold kL
 split
 ·rename_i c
  refine⟨p,ds,rfl,rfl,c,s.free hp,?_⟩
  rw[qV,qz.sc h c]
 ·rw[VR.gk hk]
  have sm:qB H' (upd H' p (.lst xs)):=fun b o e=>by rw[qD (vz e hp)];exact e
  refine .lst ?_ (.of qV) (h.same sm)
  cases k with
  | bo=>exact fun z=>R.pd p z (s.free hp)
  | sh=>exact R.fresh (s.free hp)
  | nw=>exact⟨R.fresh (s.free hp),R.same.free (s.free hp)⟩
  | fr=>exact absurd rfl hk
theorem wk {p:Addr}{o:HO} (hp:H p=none):qB H (upd H p o):=fun b q e=>by rw[qD (vz e hp)];exact e
end
noncomputable def qv {α:Type} (mg:Str->Option Value) (E:XK) (H:Hp) (o:Rs α) (k:α->Prop):Prop:=match o with
 | .ok a=>k a
 | .er c=>∀ C H',mg c=some (.ref C)->qB H H'->E (.ref C) none H'
 | .no=>False
noncomputable def Fin (mg:Str->Option Value) (K:PySem.W.Frag) (E:XK) (B:Bs) (H:Hp) (σ:St) (δ:Dl) (o:Rs DK) (Q:VK):Prop :=
 qv mg E H o fun x=>∀ v H',qB H H'->VR mg K B H H' σ δ x.2 v x.1->Q v H'
noncomputable def tE (mg:Str->Option Value) (K:PySem.W.Frag) (E:XK) (r:RE):TE:=fun σ H Q=>∃ B δ,Rl mg K B H σ δ/\Fin mg K E B H σ δ (r δ) Q
noncomputable def JP (mg:Str->Option Value) (E:XK) (H:Hp) (o:Rs Bool) (Q:Bool->Hp->Prop):Prop:=qv mg E H o fun b=>∀ H',qB H H'->Q b H'
noncomputable def tT (mg:Str->Option Value) (K:PySem.W.Frag) (E:XK) (r:RT):TT:=fun σ H Q=>∃ B δ,Rl mg K B H σ δ/\JP mg E H (r δ) Q
inductive VRs (mg:Str->Option Value) (K:PySem.W.Frag) (B:Bs) (H H':Hp) (σ:St) (δ:Dl):List V->List DK->Prop
 | nil:VRs mg K B H H' σ δ [] []
 | cons {v:V}{vs:List V}{x:DK}{xs:List DK}:VR mg K B H H' σ δ x.2 v x.1->VRs mg K B H H' σ δ vs xs->VRs mg K B H H' σ δ (v::vs) (x::xs)
noncomputable def FinA (mg:Str->Option Value) (K:PySem.W.Frag) (E:XK) (B:Bs) (H:Hp) (σ:St) (δ:Dl) (o:Rs (List DK)) (Q:List V->Hp->Prop):Prop :=
 qv mg E H o fun xs=>∀ vs H',qB H H'->VRs mg K B H H' σ δ vs xs->Q vs H'
noncomputable def tA (mg:Str->Option Value) (K:PySem.W.Frag) (E:XK) (r:RA):TA:=fun σ H Q=>∃ B δ,Rl mg K B H σ δ/\FinA mg K E B H σ δ (r δ) Q
section
variable {mg:Str->Option Value}{K:PySem.W.Frag}{E:XK}{B:Bs}{H H1 H' H'':Hp}{σ:St}{δ:Dl}{k l:Kd}{v:V}{d:D}{Q:VK}
theorem qv.bind {α β:Type}{x:Rs α}{f:α->Rs β}{k:β->Prop} (h:qv mg E H (x.bind f) k):qv mg E H x fun a=>qv mg E H (f a) k:=by
 cases x with
 | ok a=>exact h
 | er c=>exact h
 | no=>exact h
theorem qv.imp {α:Type}{x:Rs α}{k k':α->Prop} (h:qv mg E H x k) (i:∀ a,k a->k' a):qv mg E H x k':=by
 cases x with
 | ok a=>exact i a h
 | er c=>exact h
 | no=>exact h
theorem qv.more {α:Type}{x:Rs α}{k:α->Prop} (h:qv mg E H x k) (s:qB H H'):qv mg E H' x k:=by
 cases x with
 | ok a=>exact h
 | er c=>exact fun C H2 e s2=>h C H2 e (s.trans s2)
 | no=>exact h
theorem Fin.more {o:Rs DK} (h:Fin mg K E B H σ δ o Q) (s:qB H H'):Fin mg K E B H' σ δ o Q :=
 qv.more (qv.imp h fun x q v H2 s2 r=>q v H2 (s.trans s2) (r.Wg s)) s
theorem JP.more {o:Rs Bool}{Q:Bool->Hp->Prop} (h:JP mg E H o Q) (s:qB H H'):JP mg E H' o Q:=qv.more (qv.imp h fun x q H2 s2=>q H2 (s.trans s2)) s
theorem VRs.Wg {vs:List V}{xs:List DK} (h:VRs mg K B H1 H' σ δ vs xs) (s:qB H H1):VRs mg K B H H' σ δ vs xs:=by
 induction h with
 | nil=>exact .nil
 | cons a _ ih=>exact .cons (a.Wg s) ih
theorem VRs.rp (R:Rl mg K B H σ δ) {vs:List V}{xs:List DK} (h:VRs mg K B H H' σ δ vs xs):qz mg K (fun _=>True) H' vs (xs.map (·.1)):=by
 induction h with
 | nil=>exact .nil
 | cons a _ ih=>exact .cons (a.rp R) ih
theorem VR.qcd (R:Rl mg K B H σ δ) {x:DK} (h:VR mg K B H H' σ δ x.2 v x.1) (l:Kd) (s:x.1.sc=false->∃ m,l=x.2.low m\/l=Kd.low m x.2) (hl:l ≠ .fr):Rp mg K (Gk B σ δ l) H' v x.1:=by
 rw[<- VR.gk (H:=H) hl]
 cases c:x.1.sc with
 | true =>
  have e:=(h.rp R).sc c
  rw[e]
  exact VR.zt l hl c
 | false =>
  obtain⟨m,e | e⟩:=s c
  ·rw[e];exact VR.low R m h
  ·rw[e];exact VR.qhP R m h
theorem jK (a b c:Kd):(a.low b).low c=a.low (b.low c):=by cases a <;> cases b <;> cases c <;> rfl
theorem WY (a b:Kd):a.low b=b.low a:=by cases a <;> cases b <;> rfl
theorem xc:∀ xs:List DK,vj xs ≠ .fr
 | []=>fun z=>nomatch z
 | x::r=>by
  unfold vj
  split
  ·exact xc r
  ·exact low_ne _ _
theorem VRs.kinds (R:Rl mg K B H σ δ):∀ {vs:List V}{xs:List DK},VRs mg K B H H' σ δ vs xs->∀ m:Kd,m ≠ .fr->qz mg K (Gk B σ δ (m.low (vj xs))) H' vs (xs.map (·.1))
 | _,_,.nil,_,_=>.nil
 | _,_,@VRs.cons _ _ _ _ _ _ _ v vs x xs a b,m,hm=>by
  refine .cons ?_ ?_
  ·refine VR.qcd R a _ (fun s=>?_) (low_ne _ _)
   unfold vj
   rw[if_neg (by rw[s];decide),<- jK,WY m,jK]
   exact⟨_,.inl rfl⟩
  ·unfold vj
   split
   ·exact VRs.kinds R b m hm
   ·rw[<- jK]
    exact VRs.kinds R b _ (low_ne _ _)
theorem VRs.qgL (R:Rl mg K B H σ δ) {vs:List V}{xs:List DK} (h:VRs mg K B H H' σ δ vs xs):qz mg K (Gk B σ δ (vj xs)) H' vs (xs.map (·.1)):=by
 have q:=VRs.kinds R h .nw (fun z=>nomatch z)
 have e:Kd.low .nw (vj xs)=vj xs:=by
  have:=xc xs
  cases h:vj xs <;> first | rfl | exact absurd h this
 rw[e] at q
 exact q
end
section
variable {X:Cx}{E:XK}{a b:Expr}{ra rb:RE}{pos:Pos}
theorem vO {e:Expr}{t t':TE} (h:PE X e t) (i:∀ σ H Q,t' σ H Q->t σ H Q):PE X e t':=fun pins s σ H Q I hw=>h pins s σ H Q I (i σ H Q hw)
theorem Xi {e:Expr}{t t':TT} (h:PT X e t) (i:∀ σ H Q,t' σ H Q->t σ H Q):PT X e t':=fun pins s σ H Q I hw=>h pins s σ H Q I (i σ H Q hw)
theorem vx {e:Stmt}{t t':TS} (h:PS X e t) (i:∀ D σ H,t' D σ H->t D σ H):PS X e t':=fun pins s σ H D I hw=>h pins s σ H D I (i D σ H hw)
noncomputable abbrev TEx (X:Cx) (E:XK) (r:RE):TE:=tE X.mg X.K E r
noncomputable abbrev TTx (X:Cx) (E:XK) (r:RT):TT:=tT X.mg X.K E r
noncomputable abbrev TAx (X:Cx) (E:XK) (r:RA):TA:=tA X.mg X.K E r
theorem qgs {i:Nat}{x:Str} (hN:X.N[i]?=some x) (hv:Vis X.env.scope x) (hd:autoParam ((x==("__debug__":Str))=false) vh._auto_1) (hcd:autoParam ((x==("__classdict__":Str))=false) vh._auto_1):PE X (.Name x pos) (TEx X E (qa i)):=by
 refine vO (Ze hN hv hd hcd) fun σ H Q ⟨B,δ,R,h⟩=>?_
 unfold qa Fin at h
 cases hδ:δ[i]? with
 | none=>rw[hδ] at h;exact h.elim
 | some s =>
  rw[hδ] at h
  cases s with
  | un=>exact h.elim
  | val d k =>
   obtain⟨v,e,q⟩:=R.val i d k hδ
   refine⟨v,e,h v H qB.refl ?_⟩
   cases k with
   | true=>exact Rp.weak q fun a g=>⟨g.1,g.2 rfl⟩
   | false=>exact Rp.weak q fun a g=>g.1
  | own ds =>
   obtain⟨c,p,e,_,np,q⟩:=R.own i ds hδ
   exact⟨.ref p,e,h (.ref p) H qB.refl (Rp.lst np (.of q) (.zt c))⟩
theorem qI {i:Int}{j:Nat}:PE X (.Constant (.int i) j pos) (TEx X E (rC (.int i))):=vO J6 fun σ H Q ⟨B,δ,R,h⟩=>h (.int i) H qB.refl (VR.int i)
theorem vo {x:Str}{i:Int} (hg:Gl X x) (hm:∃ t,X.mg x=some (.int i t)) (hd:autoParam ((x==("__debug__":Str))=false) vh._auto_1):PE X (.Name x pos) (TEx X E (rC (.int i))):=by
 obtain⟨t,hm⟩:=hm
 exact vO (qfs (v:=.int i) hg hm ⟨t,rfl⟩ hd) fun σ H Q ⟨B,δ,R,h⟩=>h (.int i) H qB.refl (VR.int i)
noncomputable def yu (X:Cx) (f:DK->DK->Rs DK) (rr:R2):Prop:=∀ (B:Bs) (H H':Hp) (σ:St) (δ:Dl) (x y:V) (dx dy:DK) (Q:VK) (E:XK),Rl X.mg X.K B H σ δ->qB H H'->VR X.mg X.K B H H' σ δ dx.2 x dx.1->VR X.mg X.K B H H' σ δ dy.2 y dy.1 ->
 Fin X.mg X.K E B H' σ δ (f dx dy) Q->rr x y H' Q
theorem two {f:DK->DK->Rs DK}{rr:R2} (F:yu X f rr) {σ:St}{H:Hp}{Q:VK} (h:TEx X E (qh f ra rb) σ H Q):tOp rr (TEx X E ra) (TEx X E rb) σ H Q:=by
 obtain⟨B,δ,R,h⟩:=h
 refine⟨B,δ,R,qv.imp (qv.bind h) fun dx h1 v H1 s1 r1=>?_⟩
 refine⟨B,δ,R.more s1,?_⟩
 refine qv.imp (qv.more (qv.bind h1) s1) fun dy h2 w H2 s2 r2=>?_
 exact F B H H2 σ δ v w dx dy Q E R (s1.trans s2) (r1.later s2) (r2.Wg s1) (Fin.more h2 (s1.trans s2))
theorem qr {op:Operator}{f:DK->DK->Rs DK}{rr:R2} (ho:OpR X (binaryOp op) rr) (F:yu X f rr) (ha:PE X a (TEx X E ra)) (hb:PE X b (TEx X E rb)):PE X (.BinOp a op b pos) (TEx X E (qh f ra rb)) :=
 vO (qfW ho ha hb) fun _ _ _ h=>two F h
theorem Xx {op:CmpOp}{f:DK->DK->Rs DK}{rr:R2} (ho:OpR X (compareOp op) rr) (F:yu X f rr) (hm:behindInMarks op b=false) (ha:PE X a (TEx X E ra)) (hb:PE X b (TEx X E rb)):PE X (.Compare a [op] [b] pos) (TEx X E (qh f ra rb)) :=
 vO (qfK ho ha hb hm) fun _ _ _ h=>two F h
theorem qaZ {r:RE}{σ:St}{H:Hp}{Q:Bool->Hp->Prop} (h:TTx X E (tBl r) σ H Q):TEx X E r σ H fun x H'=>∃ k,x = .bl k/\Q k H':=by
 obtain⟨B,δ,R,h⟩:=h
 refine⟨B,δ,R,?_⟩
 unfold tBl JP at h
 refine qv.imp (qv.bind h) fun x h1 v H1 s1 r1=>?_
 obtain⟨d,k⟩:=x
 cases d with
 | bl b =>
  have e:v=toV (.bl b):=(r1.rp R).sc rfl
  exact⟨b,e,h1 H1 s1⟩
 | non=>exact h1.elim
 | int i=>exact h1.elim
 | lst l=>exact h1.elim
 | tup l=>exact h1.elim
 | fn x=>exact h1.elim
 | obj c ns l=>exact h1.elim
theorem wx {op:CmpOp}{f:DK->DK->Rs DK}{rr:R2} (ho:OpR X (compareOp op) rr) (F:yu X f rr) (hm:behindInMarks op b=false) (ha:PE X a (TEx X E ra)) (hb:PE X b (TEx X E rb)):PT X (.Compare a [op] [b] pos) (TTx X E (tBl (qh f ra rb))) :=
 Xi (qfD ho ha hb hm) fun _ _ _ h=>two F (qaZ h)
theorem QV {r:RE} (ha:PE X a (TEx X E r)) (he:autoParam (∀ whole,isTrue a X.env whole=(do let v <- whole;standAt a.pos;holding [v] (truthy v))) uQ._auto_1):PT X a (TTx X E (tBl r)) :=
 Xi (qgn ha he) fun _ _ _ h=>qaZ h
theorem qdz {r:RT} (ha:PT X a (TTx X E r)):PT X (.UnaryOp .Not a pos) (TTx X E (xK r)):=by
 refine Xi (qgH ha) fun σ H Q ⟨B,δ,R,h⟩=>⟨B,δ,R,?_⟩
 exact qv.imp (qv.bind h) fun x h1 H1 s1=>h1 H1 s1
theorem qbr {e:Expr}{t t':TT} (h:PW X e t) (i:∀ σ H Q,t' σ H Q->t σ H Q):PW X e t':=fun wh pins s σ H Q I hw=>h wh pins s σ H Q I (i σ H Q hw)
theorem qaW {r:RT} (ha:PT X a (TTx X E r)):PW X (.BoolOp .And [a] pos) (TTx X E r):=qfc ha
theorem qdo {r:RT} (ha:PT X a (TTx X E r)):PW X (.BoolOp .Or [a] pos) (TTx X E r):=qgS ha
theorem qdb {rest:List Expr}{r q:RT} (ha:PT X a (TTx X E r)) (hb:PW X (.BoolOp .And (b::rest) pos) (TTx X E q)):PW X (.BoolOp .And (a::b::rest) pos) (TTx X E (Vk r q)):=by
 refine qbr (qgT ha hb) fun σ H Q ⟨B,δ,R,h⟩=>⟨B,δ,R,?_⟩
 refine qv.imp (qv.bind h) fun x h1 H1 s1=>?_
 cases x with
 | true=>exact⟨B,δ,R.more s1,JP.more h1 s1⟩
 | false=>exact h1 H1 s1
theorem qfX {rest:List Expr}{r q:RT} (ha:PT X a (TTx X E r)) (hb:PW X (.BoolOp .Or (b::rest) pos) (TTx X E q)):PW X (.BoolOp .Or (a::b::rest) pos) (TTx X E (Z6 r q)):=by
 refine qbr (qhu ha hb) fun σ H Q ⟨B,δ,R,h⟩=>⟨B,δ,R,?_⟩
 refine qv.imp (qv.bind h) fun x h1 H1 s1=>?_
 cases x with
 | true=>exact h1 H1 s1
 | false=>exact⟨B,δ,R.more s1,JP.more h1 s1⟩
theorem V7 {op:BoolOp}{es:List Expr}{r:RT} (h:PW X (.BoolOp op es pos) (TTx X E r)):PT X (.BoolOp op es pos) (TTx X E r):=h.pt
theorem Yp {c:Expr}{t:RT} (hc:PT X c (TTx X E t)) (ha:PE X a (TEx X E ra)) (hb:PE X b (TEx X E rb)):PE X (.IfExp c a b pos) (TEx X E (j8 t ra rb)):=by
 refine vO (qc0 hc ha hb) fun σ H Q ⟨B,δ,R,h⟩=>⟨B,δ,R,?_⟩
 refine qv.imp (qv.bind h) fun x h1 H1 s1=>?_
 cases x with
 | true=>exact⟨B,δ,R.more s1,Fin.more h1 s1⟩
 | false=>exact⟨B,δ,R.more s1,Fin.more h1 s1⟩
theorem qm:PA X [] (TAx X E qi):=fun pos pins s σ H Q I ⟨B,δ,R,h⟩=>xp pos pins s σ H Q I (h [] H qB.refl .nil)
theorem Xq {es:List Expr}{t t':TA} (h:PA X es t) (i:∀ σ H Q,t' σ H Q->t σ H Q):PA X es t':=fun pos pins s σ H Q I hw=>h pos pins s σ H Q I (i σ H Q hw)
theorem qd {es:List Expr}{r:RE}{rr:RA} (ha:PE X a (TEx X E r)) (hr:PA X es (TAx X E rr)) (hs:autoParam (starEach (a::es) X.env=(false,eval a X.env)::starEach es X.env) qt._auto_1):PA X (a::es) (TAx X E (qc r rr)):=by
 refine Xq (zm ha hr hs) fun σ H Q ⟨B,δ,R,h⟩=>⟨B,δ,R,?_⟩
 refine qv.imp (qv.bind h) fun x h1 v H1 s1 r1=>⟨B,δ,R.more s1,?_⟩
 refine qv.imp (qv.more (qv.bind h1) s1) fun xs h2 vs H2 s2 r2=>?_
 exact h2 (v::vs) H2 (s1.trans s2) (.cons (r1.later s2) (r2.Wg s1))
theorem YA {r:RA}{σ:St}{H:Hp}{B:Bs}{δ:Dl} (R:Rl X.mg X.K B H σ δ) {Q:VK}{f:List DK->Rs DK}{Q':List V->Hp->Prop} (h:Fin X.mg X.K E B H σ δ ((r δ).bind f) Q)
  (i:∀ xs vs H1,qB H H1->VRs X.mg X.K B H H1 σ δ vs xs->Fin X.mg X.K E B H1 σ δ (f xs) Q->Q' vs H1):TAx X E r σ H Q' :=
 ⟨B,δ,R,qv.imp (qv.bind h) fun xs h1 vs H1 s1 r1=>i xs vs H1 s1 r1 (Fin.more h1 s1)⟩
theorem VRs.len {mg:Str->Option Value}{K:PySem.W.Frag}{B:Bs}{H H':Hp}{σ:St}{δ:Dl}{vs:List V}{xs:List DK} (h:VRs mg K B H H' σ δ vs xs):vs.length=xs.length:=by
 induction h with
 | nil=>rfl
 | cons _ _ ih=>rw[List.length_cons,List.length_cons,ih]
theorem YQ {es:List Expr}{r:RA} (h:PA X es (TAx X E r)):PE X (.List es pos) (TEx X E (Qh r)):=by
 refine vO (Y8 h) fun σ H Q ⟨B,δ,R,h⟩=>?_
 refine YA R h fun xs vs H1 s1 r1 h1=>?_
 by_cases hl:xs.length <= LIM
 ·rw[if_pos hl] at h1
  refine⟨by rw[r1.len];exact hl,fun p hp=>?_⟩
  refine h1 (.ref p) _ (wk hp) ?_
  exact VR.laid (R.more s1) qB.refl hp (xc xs) (r1.qgL R)
 ·rw[if_neg hl] at h1
  exact h1.elim
end
theorem WS {i:Int} (h:few i):Builtin.Int.intBits i <= 60000:=by
 unfold Builtin.Int.intBits
 split
 ·exact Nat.zero_le _
 ·have hn:i.natAbs<2^60000:=h
  have:i.natAbs.log2<60000:=by
   rcases Nat.eq_zero_or_pos i.natAbs with h0 | hp
   ·rw[h0,Nat.log2_zero];exact Nat.zero_lt_of_lt (by exact (show 0<60000 by decide))
   ·exact (Nat.log2_lt (Nat.ne_of_gt hp)).mpr hn
  lia
theorem qeB {i j:Int} (h:few i) (h':few j):IntMulOk i j:=by
 unfold IntMulOk
 have a:=WS h
 have b:=WS h'
 have c:Builtin.Int.intTooBig (Builtin.Int.intBits i+Builtin.Int.intBits j)=false:=by
  unfold Builtin.Int.intTooBig
  refine decide_eq_false ?_
  have e:bitsLine=134217728:=by decide
  lia
 rw[c]
 simp
section
variable {X:Cx}
theorem QD:OpR X (binaryOp .Mult) (rI (fun i j=>few i/\few j) fun i j=>.int (i*j)):=opI fun _ _ _ _ _ _ _ hc q=>mul_int q (qeB hc.1 hc.2)
theorem wV:OpR X (binaryOp .LShift) (rI (fun i j=>0 <= j/\j <= 60000/\few i) fun i j=>.int (i*2^j.toNat)):=opI fun i j _ _ _ _ _ hc q=>by
 refine lshift_int hc.1 ?_ q
 have a:=WS hc.2.2
 have b:=hc.2.1
 have e:(2:Int)^27=134217728:=by decide
 lia
theorem xo:OpR X (binaryOp .FloorDiv) (rI (fun _ j=>0<j/\j.natAbs.log2<9000) fun i j=>.int (i / j)):=opI fun i j _ _ _ _ _ hc q=>by
 refine floordiv_int (Int.ne_of_gt hc.1) ?_ (.inl (PyProof.noPylong_of_log2 hc.2))
 rw[Int.fdiv_eq_ediv_of_nonneg _ (Int.le_of_lt hc.1)]
 exact q
noncomputable def qcU (K:PySem.W.Frag):R2:=fun x y H Q=>∃ l b xs zs,x = .ref l/\y = .ref b/\SqL K H l xs/\SqL K H b zs/\xs.length+zs.length <= sizeLine/\∀ p,H p=none->Q (.ref p) (upd H p (.lst (xs++zs)))
theorem qfH:OpR X (binaryOp .Add) (qcU X.K):=by
 intro pins s σ H x y v u Q I rx ry h
 obtain⟨l,b,xs,zs,rfl,rfl,hH,hB,hz,q⟩:=h
 cases rx
 cases ry
 obtain⟨its,r,p1,z1⟩:=I.list hH
 obtain⟨its2,r2,p2,z2⟩:=I.list hB
 have l1:=r.length
 have l2:=r2.length
 obtain⟨⟨cls,dd,data,sl⟩,ho,hc,n,hd⟩:=id p1.isList
 obtain⟨⟨cls2,dd2,data2,sl2⟩,ho2,hc2,n2,hd2⟩:=id p2.isList
 simp only at hc hd hc2 hd2
 subst hc hd hc2 hd2
 have e:its.toArray++its2.toArray=(its++its2).toArray:=by simp
 refine concat_meets ⟨_,ho,rfl⟩ ⟨_,ho2,rfl⟩ noFill_list_add seq_list_add PySem.F.slot_list_add PySem.F.entry_list_add (PySem.F.args_list_add_2 _ _) (list_addW l b its.toArray its2.toArray n n2 dd dd2 sl sl2 (by rw[List.size_toArray,List.size_toArray];lia)) ⟨ho,ho2,?_⟩
 rw[e]
 exact⟨.ref _,_,I.qe4 (t':=s.toks) (r.append r2) (by rw[List.length_append];lia),rfl,q _ I.fresh⟩
theorem vC {mg:Str->Option Value}{K:PySem.W.Frag}{B:Bs}{H H':Hp}{σ:St}{δ:Dl}{k:Kd}{v:V}{i:Int} (R:Rl mg K B H σ δ) (h:VR mg K B H H' σ δ k v (.int i)):v = .int i:=(h.rp R).sc rfl
theorem qbh {mg:Str->Option Value}{K:PySem.W.Frag}{B:Bs}{H H':Hp}{σ:St}{δ:Dl}{k:Kd}{v:V}{i:Bool} (R:Rl mg K B H σ δ) (h:VR mg K B H H' σ δ k v (.bl i)):v = .bl i:=(h.rp R).sc rfl
theorem zg:yu X wm (fun x y H Q=>rI0 (fun i j=>.int (i+j)) x y H Q\/qcU X.K x y H Q):=by
 rintro B H H' σ δ x y ⟨dx,kx⟩ ⟨dy,ky⟩ Q E R s r1 r2 h
 cases dx with
 | int i =>
  cases dy with
  | int j=>exact .inl ⟨i,j,vC R r1,vC R r2,h _ H' qB.refl (VR.int _)⟩
  | _=>exact h.elim
 | lst xs =>
  cases dy with
  | lst ys =>
   right
   obtain⟨a,vs,rfl,q1,g1⟩:=VR.items R r1
   obtain⟨b,us,rfl,q2,g2⟩:=VR.items R r2
   unfold wm at h
   dsimp only at h
   by_cases hl:xs.length+ys.length <= LIM
   ·rw[if_pos hl] at h
    refine⟨a,b,vs,us,rfl,rfl,q1,q2,by rw[g1.len,g2.len];exact hl,fun p hp=>?_⟩
    refine h _ _ (wk hp) (VR.laid (R.more s) qB.refl hp (low_ne _ _) (qz.append ?_ ?_))
    ·refine g1.weak fun a g=>?_
     revert g
     cases kx <;> cases ky <;> first | exact fun g=>g | exact fun g=>g.1 | exact fun g z=>g (.inl z) | exact fun g z=>g.1 (.inl z)
    ·refine g2.weak fun a g=>?_
     revert g
     cases kx <;> cases ky <;> first | exact fun g=>g | exact fun g=>g.1 | exact fun g z=>g (.inl z) | exact fun g z=>g.1 (.inl z)
   ·rw[if_neg hl] at h
    exact h.elim
  | _=>exact h.elim
 | _=>exact h.elim
theorem wb:OpR X (binaryOp .Add) (fun x y H Q=>rI0 (fun i j=>.int (i+j)) x y H Q\/qcU X.K x y H Q):=qg8.or qfH
theorem XJ {f:DK->DK->Rs DK}{g:Int->Int->V}{c:Int->Int->D} (hf:∀ dx dy,f dx dy=match dx.1,dy.1 with | .int i,.int j=>.ok (c i j,.nw) | _,_=>.no) (hg:∀ i j,g i j=toV (c i j)) (hc:∀ i j,(c i j).sc=true):yu X f (rI0 g):=by
 rintro B H H' σ δ x y ⟨dx,kx⟩ ⟨dy,ky⟩ Q E R s r1 r2 h
 rw[hf] at h
 cases dx with
 | int i =>
  cases dy with
  | int j=>exact⟨i,j,vC R r1,vC R r2,by rw[hg];exact h _ H' qB.refl (VR.zt _ (fun z=>nomatch z) (hc i j))⟩
  | _=>exact h.elim
 | _=>exact h.elim
theorem Wc {f:DK->DK->Rs DK}{C:Int->Int->Prop}{g:Int->Int->V}{c:Int->Int->D} (h1:∀ i j k l,C i j->f (.int i,k) (.int j,l) = .ok (c i j,.nw)) (h2:∀ i j k l,¬ C i j->f (.int i,k) (.int j,l) = .no)
  (h3:∀ dx dy,(∀ i k,dx≠(.int i,k))\/(∀ i k,dy≠(.int i,k))->f dx dy = .no) (hg:∀ i j,g i j=toV (c i j)) (hc:∀ i j,(c i j).sc=true):yu X f (rI C g):=by
 rintro B H H' σ δ x y ⟨dx,kx⟩ ⟨dy,ky⟩ Q E R s r1 r2 h
 by_cases ex:∃ i,dx = .int i
 ·obtain⟨i,rfl⟩:=ex
  by_cases ey:∃ j,dy = .int j
  ·obtain⟨j,rfl⟩:=ey
   by_cases cc:C i j
   ·rw[h1 i j _ _ cc] at h
    exact⟨i,j,vC R r1,vC R r2,cc,by rw[hg];exact h _ H' qB.refl (VR.zt _ (fun z=>nomatch z) (hc i j))⟩
   ·rw[h2 i j _ _ cc] at h
    exact h.elim
  ·rw[h3 _ _ (.inr fun j k z=>ey ⟨j,congrArg Prod.fst z⟩)] at h
   exact h.elim
 ·rw[h3 _ _ (.inl fun j k z=>ex ⟨j,congrArg Prod.fst z⟩)] at h
  exact h.elim
theorem wY:yu X wg (rI0 fun i j=>.int (i-j)):=XJ (c:=fun i j=>.int (i-j)) (by rintro⟨dx,kx⟩ ⟨dy,ky⟩;cases dx <;> cases dy <;> rfl) (fun _ _=>rfl) fun _ _=>rfl
theorem j4 (g:Int->Int->Int):yu X (jT g) (rI0 fun i j=>.int (g i j)):=XJ (c:=fun i j=>.int (g i j)) (by rintro⟨dx,kx⟩ ⟨dy,ky⟩;cases dx <;> cases dy <;> rfl) (fun _ _=>rfl) fun _ _=>rfl
theorem xt (g:Int->Int->Bool):yu X (yq g) (rI0 fun i j=>.bl (g i j)):=XJ (c:=fun i j=>.bl (g i j)) (by rintro⟨dx,kx⟩ ⟨dy,ky⟩;cases dx <;> cases dy <;> rfl) (fun _ _=>rfl) fun _ _=>rfl
theorem uu:yu X zk (rI (fun _ j=>0<j/\j.natAbs.log2<9000) fun i j=>.int (i / j)):=Wc (c:=fun i j=>.int (i / j)) (fun i j k l c=>by unfold zk;exact if_pos c) (fun i j k l c=>by unfold zk;exact if_neg c)
 (fun⟨dx,kx⟩ ⟨dy,ky⟩ h=>by cases dx <;> cases dy <;> first | rfl | (rcases h with h | h <;> exact absurd rfl (h _ _))) (fun _ _=>rfl) fun _ _=>rfl
theorem Jp:yu X oMod (rI (fun _ j=>0<j) fun i j=>.int (i%j)):=Wc (c:=fun i j=>.int (i%j)) (fun i j k l c=>by unfold oMod;exact if_pos c) (fun i j k l c=>by unfold oMod;exact if_neg c)
 (fun⟨dx,kx⟩ ⟨dy,ky⟩ h=>by cases dx <;> cases dy <;> first | rfl | (rcases h with h | h <;> exact absurd rfl (h _ _))) (fun _ _=>rfl) fun _ _=>rfl
theorem zL:yu X w4 (rI (fun i j=>0 <= j/\j <= 60000/\few i) fun i j=>.int (i*2^j.toNat)):=Wc (c:=fun i j=>.int (i*2^j.toNat)) (fun i j k l c=>by unfold w4;exact if_pos c) (fun i j k l c=>by unfold w4;exact if_neg c)
 (fun⟨dx,kx⟩ ⟨dy,ky⟩ h=>by cases dx <;> cases dy <;> first | rfl | (rcases h with h | h <;> exact absurd rfl (h _ _))) (fun _ _=>rfl) fun _ _=>rfl
theorem JF:yu X Vb (rI (fun _ j=>0 <= j) fun i j=>.int (i / 2^j.toNat)):=Wc (c:=fun i j=>.int (i / 2^j.toNat)) (fun i j k l c=>by unfold Vb;exact if_pos c) (fun i j k l c=>by unfold Vb;exact if_neg c)
 (fun⟨dx,kx⟩ ⟨dy,ky⟩ h=>by cases dx <;> cases dy <;> first | rfl | (rcases h with h | h <;> exact absurd rfl (h _ _))) (fun _ _=>rfl) fun _ _=>rfl
theorem Wn:yu X jY (fun x y H Q=>rI (fun i j=>few i/\few j) (fun i j=>.int (i*j)) x y H Q\/qh6 x y H Q):=by
 rintro B H H' σ δ x y ⟨dx,kx⟩ ⟨dy,ky⟩ Q E R s r1 r2 h
 cases dx with
 | int i =>
  cases dy with
  | int j =>
   unfold jY at h
   dsimp only at h
   by_cases c:few i/\few j
   ·rw[if_pos c] at h
    exact .inl ⟨i,j,vC R r1,vC R r2,c,h _ H' qB.refl (VR.int _)⟩
   ·rw[if_neg c] at h
    exact h.elim
  | _=>exact h.elim
 | lst xs =>
  cases dy with
  | int j =>
   right
   unfold jY at h
   cases kx with
   | fr =>
    obtain⟨p,ds,rfl,e,c,_,hp⟩:=r1
    cases e
    dsimp only at h
    by_cases c2:(0 <= j/\j<1000000)/\xs.length*j.toNat <= LIM
    ·rw[if_pos c2] at h
     refine⟨p,j,_,rfl,vC R r2,hp,by lia,by lia,by rw[List.length_map];exact c2.2,fun q hq=>?_⟩
     refine h _ _ (wk hq) (VR.laid (k:=.nw) (R.more s) qB.refl hq (fun z=>nomatch z) (qz.rep (.zt c) _))
    ·rw[if_neg c2] at h
     exact h.elim
   | _=>exact h.elim
  | _=>cases kx <;> exact False.elim h
 | _=>exact h.elim
end
noncomputable def RR (mg:Str->Option Value) (K:PySem.W.Frag) (H H':Hp):Bool->V->D->Prop
 | true,v,d=>∃ p ds,v = .ref p/\d = .lst ds/\ds.all D.sc=true/\H p=none/\H' p=some (.lst (ds.map toV))
 | false,v,d=>Rp mg K (fun a=>H a=none) H' v d
noncomputable def Frm (B:Bs) (σ:St) (δ:Dl) (H:Hp) (σ':St) (δ':Dl) (H':Hp):Prop:=∀ b o,H b=some o->¬ vG B σ δ b->H' b=some o/\¬ vG B σ' δ' b
theorem Frm.refl {B:Bs}{σ:St}{δ:Dl}{H:Hp}:Frm B σ δ H σ δ H:=fun _ _ e n=>⟨e,n⟩
theorem Frm.trans {B:Bs}{σ σ1 σ2:St}{δ δ1 δ2:Dl}{H H1 H2:Hp} (a:Frm B σ δ H σ1 δ1 H1) (b:Frm B σ1 δ1 H1 σ2 δ2 H2):Frm B σ δ H σ2 δ2 H2:=fun c o e n=>b c o (a c o e n).1 (a c o e n).2
theorem Frm.grow {B:Bs}{σ:St}{δ:Dl}{H H':Hp} (s:qB H H'):Frm B σ δ H σ δ H':=fun b o e n=>⟨s b o e,n⟩
noncomputable def yV (mg:Str->Option Value) (K:PySem.W.Frag) (E:XK) (B:Bs) (H:Hp) (σ:St) (δ:Dl) (o:Out) (D:Ends):Prop:=match o with
 | .nx δ'=>∀ σ' H',Rl mg K B H' σ' δ'->Frm B σ δ H σ' δ' H'->D.nx σ' H'
 | .bk δ'=>∀ σ' H',Rl mg K B H' σ' δ'->Frm B σ δ H σ' δ' H'->D.bk σ' H'
 | .ct δ'=>∀ σ' H',Rl mg K B H' σ' δ'->Frm B σ δ H σ' δ' H'->D.ct σ' H'
 | .rt d k=>∀ v H',qB B.H0 H'->RR mg K B.H0 H' k v d->D.rt v H'
 | .er c=>∀ C H',mg c=some (.ref C)->qB B.H0 H'->E (.ref C) none H'
 | .no=>False
noncomputable def tS (mg:Str->Option Value) (K:PySem.W.Frag) (E:XK) (r:RS):TS:=fun D σ H=>∃ B δ,Rl mg K B H σ δ/\yV mg K E B H σ δ (r δ) D
noncomputable abbrev TSx (X:Cx) (E:XK) (r:RS):TS:=tS X.mg X.K E r
section
variable {mg:Str->Option Value}{K:PySem.W.Frag}{E:XK}{B:Bs}{H H1 H':Hp}{σ σ1:St}{δ δ1:Dl}{v:V}{d:D}{i:Nat}
theorem yV.later {o:Out}{D:Ends} (h:yV mg K E B H σ δ o D) (f:Frm B σ δ H σ1 δ1 H1):yV mg K E B H1 σ1 δ1 o D:=by
 cases o with
 | nx δ'=>exact fun σ' H' R f'=>h σ' H' R (f.trans f')
 | bk δ'=>exact fun σ' H' R f'=>h σ' H' R (f.trans f')
 | ct δ'=>exact fun σ' H' R f'=>h σ' H' R (f.trans f')
 | rt d k=>exact h
 | er c=>exact h
 | no=>exact h
theorem jc {s:Sl} (hs:∀ ds,s ≠ .own ds) {w:Option V}{p:Addr} (h:vG B (σ.set i w) (δ.set i s) p):vG B σ δ p:=by
 rcases h with h | ⟨j,ds,e1,e2⟩
 ·exact .inl h
 ·right
  by_cases hj:i=j
  ·subst hj
   by_cases hi:i<δ.length
   ·rw[List.getElem?_set_self hi] at e1
    exact absurd (Option.some.inj e1) (hs ds)
   ·rw[List.getElem?_eq_none (by rw[List.length_set];lia)] at e1
    cases e1
  ·rw[List.getElem?_set_ne hj] at e1 e2
   exact⟨j,ds,e1,e2⟩
theorem Rl.J0 {k:Bool} (R:Rl mg K B H σ δ) (r:Rp mg K (fun a=>¬ vG B σ δ a/\(k=true->B.H0 a=none)) H v d):Rl mg K B H (σ.set i (some v)) (δ.set i (.val d k)):=by
 have sub:∀ a,¬ vG B σ δ a->¬ vG B (σ.set i (some v)) (δ.set i (.val d k)) a:=fun a n z=>n (jc (fun _ q=>by cases q) z)
 refine⟨R.same,R.pd,by rw[List.length_set,List.length_set];exact R.len,fun j d' k' e=>?_,fun j ds e=>?_,fun j l p ds es e1 e2 e3 e4=>?_⟩
 ·by_cases hj:i=j
  ·subst hj
   by_cases hi:i<δ.length
   ·rw[List.getElem?_set_self hi] at e
    cases e
    exact⟨v,List.getElem?_set_self (by rw[R.len];exact hi),r.weak fun a g=>⟨sub a g.1,g.2⟩⟩
   ·rw[List.getElem?_eq_none (by rw[List.length_set];lia)] at e
    cases e
  ·rw[List.getElem?_set_ne hj] at e ⊢
   obtain⟨w,h1,h2⟩:=R.val j d' k' e
   exact⟨w,h1,h2.weak fun a g=>⟨sub a g.1,g.2⟩⟩
 ·by_cases hj:i=j
  ·subst hj
   by_cases hi:i<δ.length
   ·rw[List.getElem?_set_self hi] at e
    cases e
   ·rw[List.getElem?_eq_none (by rw[List.length_set];lia)] at e
    cases e
  ·rw[List.getElem?_set_ne hj] at e ⊢
   exact R.own j ds e
 ·have ne:∀ {j:Nat}{ds:List D},(δ.set i (.val d k))[j]?=some (.own ds)->i≠j:=fun {j ds} e q=>by
   subst q
   by_cases hi:i<δ.length
   ·rw[List.getElem?_set_self hi] at e
    cases e
   ·rw[List.getElem?_eq_none (by rw[List.length_set];lia)] at e
    cases e
  have n1:=ne e1
  have n2:=ne e2
  rw[List.getElem?_set_ne n1] at e1 e3
  rw[List.getElem?_set_ne n2] at e2 e4
  exact R.apart j l p ds es e1 e2 e3 e4
theorem jV {k:Bool}:Frm B σ δ H (σ.set i (some v)) (δ.set i (.val d k)) H:=fun b o e n=>⟨e,fun z=>n (jc (fun _ q=>by cases q) z)⟩
theorem Rl.qgg {p:Addr}{ds:List D} (R:Rl mg K B H σ δ) (s:qB H H') (hp:H p=none) (hp':H' p=some (.lst (ds.map toV))) (c:ds.all D.sc=true):Rl mg K B H' (σ.set i (some (.ref p))) (δ.set i (.own ds))/\Frm B σ δ H (σ.set i (some (.ref p))) (δ.set i (.own ds)) H':=by
 have get:∀ {j:Nat}{x:Sl},(δ.set i (.own ds))[j]?=some x->(i=j/\i<δ.length/\x = .own ds)\/(i≠j/\δ[j]?=some x):=fun {j x} e=>by
  by_cases hj:i=j
  ·subst hj
   by_cases hi:i<δ.length
   ·rw[List.getElem?_set_self hi] at e
    exact .inl ⟨rfl,hi,(Option.some.inj e).symm⟩
   ·rw[List.getElem?_eq_none (by rw[List.length_set];lia)] at e
    cases e
  ·rw[List.getElem?_set_ne hj] at e
   exact .inr ⟨hj,e⟩
 have sub:∀ a,H a≠none->¬ vG B σ δ a->¬ vG B (σ.set i (some (.ref p))) (δ.set i (.own ds)) a:=fun a ha n z=>by
  rcases z with z | ⟨j,es,e1,e2⟩
  ·exact n (.inl z)
  ·rcases get e1 with ⟨rfl,hi,_⟩ | ⟨hj,e1⟩
   ·rw[List.getElem?_set_self (by rw[R.len];exact hi)] at e2
    cases e2
    exact ha hp
   ·rw[List.getElem?_set_ne hj] at e2
    exact n (.inr ⟨j,es,e1,e2⟩)
 have R':=R.more s
 refine⟨⟨R'.same,R'.pd,by rw[List.length_set,List.length_set];exact R.len,fun j d' k' e=>?_,fun j es e=>?_,fun j l q es fs e1 e2 e3 e4=>?_⟩,fun b o e n=>⟨s b o e,sub b (by rw[e];exact fun z=>nomatch z) n⟩⟩
 ·rcases get e with ⟨_,_,z⟩ | ⟨hj,e⟩
  ·cases z
  ·obtain⟨w,h1,h2⟩:=R.val j d' k' e
   rw[List.getElem?_set_ne hj]
   exact⟨w,h1,(Rp.weak (Rp.there _ _ h2) fun a g=>⟨sub a g.2 g.1.1,g.1.2⟩).same s⟩
 ·rcases get e with ⟨rfl,hi,z⟩ | ⟨hj,e⟩
  ·cases z
   exact⟨c,p,List.getElem?_set_self (by rw[R.len];exact hi),R.same.free hp,fun z=>R.pd p z hp,hp'⟩
  ·rw[List.getElem?_set_ne hj]
   exact R'.own j es e
 ·have pne:∀ {j:Nat}{es:List D}{q:Addr},δ[j]?=some (.own es)->σ[j]?=some (some (.ref q))->q≠p:=fun {j es q} e1 e2 z=>by
   have:=R.owned (.inr ⟨j,es,e1,e2⟩)
   rw[z] at this
   exact this hp
  rcases get e1 with ⟨h1,hi,_⟩ | ⟨h1,e1⟩
  ·rcases get e2 with ⟨h2,_,_⟩ | ⟨h2,e2⟩
   ·exact h1.symm.trans h2
   ·subst h1
    rw[List.getElem?_set_self (by rw[R.len];exact hi)] at e3
    rw[List.getElem?_set_ne h2] at e4
    cases e3
    exact absurd rfl (pne e2 e4)
  ·rw[List.getElem?_set_ne h1] at e3
   rcases get e2 with ⟨h2,hi,_⟩ | ⟨h2,e2⟩
   ·subst h2
    rw[List.getElem?_set_self (by rw[R.len];exact hi)] at e4
    cases e4
    exact absurd rfl (pne e1 e3)
   ·rw[List.getElem?_set_ne h2] at e4
    exact R.apart j l q es fs e1 e2 e3 e4
theorem VZ {δ:Dl}{j:Nat}{x:Sl} (h:(freeze δ)[j]?=some x):∃ y,δ[j]?=some y/\x=frz y:=by
 unfold freeze at h
 rw[List.getElem?_map] at h
 cases e:δ[j]? with
 | none=>rw[e] at h;cases h
 | some y=>rw[e] at h;exact⟨y,rfl,(Option.some.inj h).symm⟩
theorem jB {p:Addr} (h:vG B σ (freeze δ) p):B.P p:=by
 rcases h with h | ⟨j,ds,e,_⟩
 ·exact h
 ·obtain⟨y,_,z⟩:=VZ e
  cases y <;> cases z
theorem Rl.frz (R:Rl mg K B H σ δ):Rl mg K B H σ (freeze δ):=by
 refine⟨R.same,R.pd,by unfold freeze;rw[List.length_map];exact R.len,fun j d k e=>?_,fun j ds e=>?_,fun j l p ds es e1 _ _ _=>?_⟩
 ·obtain⟨y,h,z⟩:=VZ e
  cases y with
  | un=>cases z
  | val d' k' =>
   cases z
   obtain⟨w,h1,h2⟩:=R.val j _ _ h
   exact⟨w,h1,h2.weak fun a g=>⟨fun z=>g.1 (.inl (jB z)),g.2⟩⟩
  | own ds =>
   cases z
   obtain⟨c,p,h1,h2,h3,h4⟩:=R.own j ds h
   exact⟨.ref p,h1,.lst ⟨fun z=>h3 (jB z),fun _=>h2⟩ (.of h4) (.zt c)⟩
 ·obtain⟨y,_,z⟩:=VZ e
  cases y <;> cases z
 ·obtain⟨y,_,z⟩:=VZ e1
  cases y <;> cases z
theorem qfC:Frm B σ δ H σ (freeze δ) H:=fun b o e n=>⟨e,fun z=>n (.inl (jB z))⟩
theorem Rl.qii {ds:List D} (R:Rl mg K B H σ δ) (hδ:δ[i]?=some (.own ds)):Rl mg K B H σ (δ.set i (.val (.lst ds) true))/\Frm B σ δ H σ (δ.set i (.val (.lst ds) true)) H:=by
 obtain⟨c,p,h1,h2,h3,h4⟩:=R.own i ds hδ
 have hi:i<σ.length:=(List.getElem?_eq_some_iff.mp h1).1
 have e:σ.set i (some (.ref p))=σ:=by
  refine List.ext_getElem? fun j=>?_
  by_cases hj:i=j
  ·subst hj
   rw[List.getElem?_set_self hi,h1]
  ·rw[List.getElem?_set_ne hj]
 have sub:∀ a,vG B σ (δ.set i (.val (.lst ds) true)) a->vG B σ δ a:=fun a z=>by
  rw[<- e] at z
  exact jc (fun _ q=>by cases q) z
 have np:¬ vG B σ (δ.set i (.val (.lst ds) true)) p:=fun z=>by
  rcases z with z | ⟨j,es,e1,e2⟩
  ·exact h3 z
  ·by_cases hj:i=j
   ·subst hj
    rw[List.getElem?_set_self (by rw[<- R.len];exact hi)] at e1
    cases e1
   ·rw[List.getElem?_set_ne hj] at e1
    exact hj (R.apart i j p ds es hδ e1 h1 e2)
 refine⟨⟨R.same,R.pd,by rw[List.length_set];exact R.len,fun j d k q=>?_,fun j es q=>?_,fun j l q fs gs e1 e2 e3 e4=>?_⟩,fun b o q n=>⟨q,fun z=>n (sub b z)⟩⟩
 ·by_cases hj:i=j
  ·subst hj
   rw[List.getElem?_set_self (by rw[<- R.len];exact hi)] at q
   cases q
   exact⟨_,h1,.lst ⟨np,fun _=>h2⟩ (.of h4) (.zt c)⟩
  ·rw[List.getElem?_set_ne hj] at q
   obtain⟨w,g1,g2⟩:=R.val j d k q
   exact⟨w,g1,g2.weak fun a g=>⟨fun z=>g.1 (sub a z),g.2⟩⟩
 ·by_cases hj:i=j
  ·subst hj
   rw[List.getElem?_set_self (by rw[<- R.len];exact hi)] at q
   cases q
  ·rw[List.getElem?_set_ne hj] at q
   exact R.own j es q
 ·have get:∀ {j:Nat}{es:List D},(δ.set i (.val (.lst ds) true))[j]?=some (.own es)->δ[j]?=some (.own es):=fun {j es} q=>by
   by_cases hj:i=j
   ·subst hj
    rw[List.getElem?_set_self (by rw[<- R.len];exact hi)] at q
    cases q
   ·rw[List.getElem?_set_ne hj] at q
    exact q
  exact R.apart j l q fs gs (get e1) (get e2) e3 e4
theorem VR.slot {k:Kd} (R:Rl mg K B H σ δ) (s:qB H H') (r:VR mg K B H H' σ δ k v d) (h:k ≠ .bo\/d.sc=true):∃ d' b,uo (d,if d.sc=true then .nw else k) = .val d' b/\d'=d/\Rp mg K (fun a=>¬ vG B σ δ a/\(b=true->B.H0 a=none)) H' v d:=by
 refine⟨d,_,rfl,rfl,?_⟩
 cases c:d.sc with
 | true =>
  have e:=(r.rp R).sc c
  rw[e]
  exact Rp.zt c
 | false =>
  rw[if_neg (by decide)]
  rcases h with h | h
  ·cases k with
   | bo=>exact absurd rfl h
   | sh=>exact Rp.weak r fun a g=>⟨g,fun z=>nomatch z⟩
   | nw=>exact Rp.weak r fun a g=>⟨g.1,fun _=>g.2⟩
   | fr=>exact Rp.weak (VR.yN R r) fun a g=>⟨g.1,fun _=>g.2⟩
  ·rw[c] at h
   cases h
end
structure Gd (X:Cx) (E:XK):Prop where
 calm:X.calm=true
 nd:X.N.Nodup
 acc:Acc X E
 own:PassesOwn (model X.prog X.w) X.A X.env X.xe
theorem Ju {X:Cx}{E:XK}{L:Addr} (hst:X.stack=X.env::X.outer) (hfr:X.env.frame=some L):PassesOwn (model X.prog X.w) X.A X.env (Arr X E):=by
 intro e s1 x
 obtain⟨a,cls,B,H',pins,σ,rfl,I,hd,kb,q⟩:=x
 have hfrm:X.A.frames=some (X.env::X.outer):=by rw[<- hst];exact I.ok.frames
 have hd0:=hd
 rw[hst] at hd0
 refine x5 hfrm hfr hfr hd0 fun h1 hd1 up1=>?_
 rw[<- hst] at hd1
 obtain⟨I1,kb1⟩:=zD I hd kb hd1.hand up1
 unfold cameBackBy
 refine wpAny_bind (Qs hd1 fun T=>?_)
 rw[if_neg (show ¬ ((Value.ref T==Value.none)=true) from by simp)]
 refine z0 hd1 fun h2 hd2 up2=>?_
 obtain⟨I2,kb2⟩:=zD I1 hd1.hand kb1 hd2.hand up2
 exact⟨a,cls,B,H',pins,σ,rfl,I2,hd2.hand,kb2,q⟩
section
variable {X:Cx}{E:XK}{pos:Pos}
theorem Qn {st:List Stmt}{t t':TS} (h:PSs X st t) (i:∀ D σ H,t' D σ H->t D σ H):PSs X st t':=fun pins s σ H D I hw=>h pins s σ H D I (i D σ H hw)
theorem ze:PSs X [] (TSx X E wC):=Qn qaO fun D σ H ⟨B,δ,R,h⟩=>h σ H R Frm.refl
theorem qg1 {a b:RS}{D:Ends}{σ:St}{H:Hp} (h:TSx X E (vt a b) D σ H):TSx X E a {D with nx:=TSx X E b D} σ H:=by
 obtain⟨B,δ,R,h⟩:=h
 refine⟨B,δ,R,?_⟩
 unfold vt Out.andThen at h
 cases ha:a δ with
 | nx δ1 =>
  rw[ha] at h
  exact fun σ1 H1 R1 f1=>⟨B,δ1,R1,yV.later h f1⟩
 | bk δ1=>rw[ha] at h;exact h
 | ct δ1=>rw[ha] at h;exact h
 | rt d k=>rw[ha] at h;exact h
 | er c=>rw[ha] at h;exact h
 | no=>rw[ha] at h;exact h
theorem qA {st:Stmt}{rest:List Stmt}{a b:RS} (h1:PS X st (TSx X E a)) (h2:PSs X rest (TSx X E b)):PSs X (st::rest) (TSx X E (vt a b)):=Qn (W0 h1 h2) fun _ _ _ h=>qg1 h
theorem qw {st:Stmt}{a:RS} (h1:PS X st (TSx X E a)):PSs X [st] (TSx X E a):=jz h1
theorem YI {mg:Str->Option Value}{K:PySem.W.Frag}{B:Bs}{H:Hp}{σ:St}{δ:Dl}{c:Str} (R:Rl mg K B H σ δ) (h:∀ C H',mg c=some (.ref C)->qB B.H0 H'->E (.ref C) none H'):∀ C H',mg c=some (.ref C)->qB H H'->E (.ref C) none H':=fun C H' e s=>h C H' e (R.same.trans s)
theorem Xp {e:Expr}{r:RE} (he:PE X e (TEx X E r)) (hs:autoParam (swapsWith e none pos.line X.env=pure false) qt._auto_1):PS X (.Expr e pos) (TSx X E (uV r)):=by
 refine vx (V8 he hs) fun D σ H ⟨B,δ,R,h⟩=>⟨B,δ,R,?_⟩
 unfold uV at h
 cases hr:r δ with
 | ok x=>rw[hr] at h;exact fun v H' s _=>h σ H' (R.more s) (Frm.grow s)
 | er c=>rw[hr] at h;exact YI R h
 | no=>rw[hr] at h;exact h
theorem qhd {i:Nat}{r:RE}{D:Ends}{σ:St}{H:Hp} (h:TSx X E (vd i r) D σ H):J4 (TEx X E r) (zP i) D σ H:=by
 obtain⟨B,δ,R,h⟩:=h
 refine⟨B,δ,R,?_⟩
 unfold vd at h
 cases hr:r δ with
 | er c=>rw[hr] at h;exact YI R h
 | no=>rw[hr] at h;exact h
 | ok x =>
  rw[hr] at h
  obtain⟨d,k⟩:=x
  intro v H' s vr
  have vr:VR X.mg X.K B H H' σ δ k v d:=vr
  show D.nx (σ.set i (some v)) H'
  -- a value that is no list just made
  have plain:(k ≠ .bo\/d.sc=true)->yV X.mg X.K E B H σ δ (.nx (δ.set i (uo (d,if d.sc=true then .nw else k)))) D->D.nx (σ.set i (some v)) H':=fun hk q=>by
   obtain⟨d',b,e,e2,rp⟩:=VR.slot R s vr hk
   subst e2
   rw[e] at q
   exact q _ _ ((R.more s).J0 rp) ((Frm.grow s).trans jV)
  cases k with
  | fr =>
   obtain⟨p,ds,rfl,rfl,c,e1,e2⟩:=vr
   have q:=R.qgg (i:=i) s e1 e2 c
   exact h _ _ q.1 q.2
  | bo =>
   cases hsc:d.sc with
   | true =>
    refine plain (.inr hsc) ?_
    rw[if_pos hsc]
    cases d <;> first | exact h | cases hsc
   | false =>
    have h':yV X.mg X.K E B H σ δ (.nx ((freeze δ).set i (.val d false))) D:=by
     cases d <;> first | exact h | cases hsc
    refine h' _ _ ((R.more s).frz.J0 ?_) ((Frm.grow s).trans (qfC.trans jV))
    exact Rp.weak vr fun a g=>⟨fun z=>g (jB z),fun z=>nomatch z⟩
  | sh =>
   refine plain (.inl fun z=>nomatch z) ?_
   cases d <;> exact h
  | nw =>
   refine plain (.inl fun z=>nomatch z) ?_
   cases d <;> exact h
theorem qgW {i:Nat}{x:Str}{e:Expr}{r:RE}{pos':Pos} (g:Gd X E) (hi:X.N[i]?=some x) (hx:Loc X.env.scope x) (he:PE X e (TEx X E r)) (hs:autoParam (swapsWith e (some (.Name x pos')) pos.line X.env=pure false) qt._auto_1) (hf:autoParam (X.fn x=true\/X.env.scope.names.lookup x=some .local) Zo._auto_1) :
  PS X (.Assign [.Name x pos'] e pos) (TSx X E (vd i r)):=vx (Zm g.nd hi hx he hs hf) fun _ _ _ h=>qhd h
theorem xg {c:Expr}{a b:List Stmt}{t:RT}{ra rb:RS} (hc:PT X c (TTx X E t)) (ha:PSs X a (TSx X E ra)) (hb:PSs X b (TSx X E rb)):PS X (.If c a b pos) (TSx X E (sIf t ra rb)):=by
 refine vx (qgc hc ha hb) fun D σ H ⟨B,δ,R,h⟩=>⟨B,δ,R,?_⟩
 unfold sIf at h
 cases hr:t δ with
 | er c=>rw[hr] at h;exact YI R h
 | no=>rw[hr] at h;exact h
 | ok x =>
  rw[hr] at h
  intro H1 s1
  cases x with
  | true=>exact⟨B,δ,R.more s1,yV.later h (Frm.grow s1)⟩
  | false=>exact⟨B,δ,R.more s1,yV.later h (Frm.grow s1)⟩
theorem qZ {e:Expr}{r:RE} (he:PE X e (TEx X E r)):PS X (.Return (some e) pos) (TSx X E (vK r)):=by
 refine vx (jj he) fun D σ H ⟨B,δ,R,h⟩=>⟨B,freeze δ,R.frz,?_⟩
 unfold vK at h
 cases hr:r (freeze δ) with
 | er c=>rw[hr] at h;exact YI R h
 | no=>rw[hr] at h;exact h
 | ok x =>
  rw[hr] at h
  obtain⟨d,k⟩:=x
  intro v H' s vr
  have vr:VR X.mg X.K B H H' σ (freeze δ) k v d:=vr
  have same:=R.same.trans s
  have qeh:d.sc=true->RR X.mg X.K B.H0 H' false v d:=fun c=>by
   have e:=(vr.rp R.frz).sc c
   rw[e]
   exact Rp.zt c
  cases k with
  | fr =>
   obtain⟨p,ds,rfl,rfl,c,e1,e2⟩:=vr
   exact h _ H' same ⟨p,ds,rfl,rfl,c,R.same.free e1,e2⟩
  | nw =>
   have h':yV X.mg X.K E B H σ δ (.rt d false) D:=by cases d <;> exact h
   exact h' v H' same (Rp.weak vr fun a g=>g.2)
  | sh =>
   have h':yV X.mg X.K E B H σ δ (if d.sc=true then .rt d false else .no) D:=by cases d <;> exact h
   cases c:d.sc with
   | true=>rw[if_pos c] at h';exact h' v H' same (qeh c)
   | false=>rw[if_neg (by rw[c];decide)] at h';exact h'.elim
  | bo =>
   have h':yV X.mg X.K E B H σ δ (if d.sc=true then .rt d false else .no) D:=by cases d <;> exact h
   cases c:d.sc with
   | true=>rw[if_pos c] at h';exact h' v H' same (qeh c)
   | false=>rw[if_neg (by rw[c];decide)] at h';exact h'.elim
theorem qfL {i:Nat}{x:Str}{p:Pos} (hN:X.N[i]?=some x) (hv:Vis X.env.scope x) (hd:autoParam ((x==("__debug__":Str))=false) vh._auto_1) (hcd:autoParam ((x==("__classdict__":Str))=false) vh._auto_1):PS X (.Return (some (.Name x p)) pos) (TSx X E (Qe i)):=by
 refine vx (jj (Ze hN hv hd hcd)) fun D σ H ⟨B,δ,R,h⟩=>?_
 unfold Qe at h
 cases hδ:δ[i]? with
 | none=>rw[hδ] at h;exact h.elim
 | some s =>
  rw[hδ] at h
  cases s with
  | un=>exact h.elim
  | own ds =>
   obtain⟨c,q,e1,e2,_,e3⟩:=R.own i ds hδ
   exact⟨_,e1,h _ H R.same ⟨q,ds,rfl,rfl,c,e2,e3⟩⟩
  | val d k =>
   obtain⟨v,e1,r⟩:=R.val i d k hδ
   refine⟨v,e1,?_⟩
   dsimp only at h
   by_cases c:d.sc=true\/k=true
   ·rw[if_pos c] at h
    refine h v H R.same ?_
    rcases c with c | c
    ·have e:=r.sc c
     rw[e]
     exact Rp.zt c
    ·exact Rp.weak r fun a g=>g.2 c
   ·rw[if_neg c] at h
    exact h.elim
theorem yM {x:Str}{C:Addr}{np cpos:Pos} (g:Gd X E) (hg:Gl X x) (hm:X.mg x=some (.ref C)) (hC:qY X.K C=true) (hd:autoParam ((x==("__debug__":Str))=false) vh._auto_1):PS X (.Raise (some (.Call (.Name x np) [] [] cpos)) none pos) (TSx X E (wJ x)) :=
 vx (qcE g.calm g.acc hg hm hC hd) fun D σ H ⟨B,δ,R,h⟩=>h C H hm R.same
theorem qfb (n:Nat) (i:Int):ug n i=ixN n i:=rfl
noncomputable def Kp (fl:Bool) (B B':Bs) (σ:St) (δ:Dl) (H1:Hp) (σ':St) (δ':Dl) (H2:Hp):Prop :=
 B'.H0=B.H0/\(∀ b o,H1 b=some o->¬ vG B σ δ b->H2 b=some o/\¬ vG B' σ' δ' b)/\(fl=false->qB H1 H2)
theorem Kp.of {B:Bs}{σ σ':St}{δ δ':Dl}{H1 H2:Hp} (f:Frm B σ δ H1 σ' δ' H2):Kp true B B σ δ H1 σ' δ' H2:=⟨rfl,f,fun z=>nomatch z⟩
noncomputable def Tg.sets:Tg->St->St->Prop
 | .one i,σ,σ2=>∃ v,σ2=σ.set i (some v)
 | .two i j,σ,σ2=>∃ v w,σ2=(σ.set i (some v)).set j (some w)
noncomputable def Walks (X:Cx) (B:Bs) (H1:Hp) (σ:St) (δ:Dl) (g:TG) (tg:Tg) (J:It) (fl:Bool) (xs:List DK):Prop :=
 (∀ (B':Bs) (i:Nat) (x:DK) (σ':St) (δ' δ2:Dl) (H2:Hp),xs[i]?=some x->Rl X.mg X.K B' H2 σ' δ'->Kp fl B B' σ δ H1 σ' δ' H2->tg.put x δ'=some δ2 ->
  J.go i H2/\∀ v H3,J.yld i H2 v H3->∀ Q:St->Hp->Prop,(∀ σ2 H4,Rl X.mg X.K B' H4 σ2 δ2->Frm B' σ' δ' H2 σ2 δ2 H4->qB H2 H4->tg.sets σ' σ2->Q σ2 H4)->g v σ' H3 Q) /\
 ∀ (B':Bs) (i:Nat) (σ':St) (δ':Dl) (H2:Hp),xs.length <= i->Rl X.mg X.K B' H2 σ' δ'->Kp fl B B' σ δ H1 σ' δ' H2->J.stop i H2
noncomputable def tI (X:Cx) (E:XK) (g:TG) (tg:Tg) (src:RI):TI:=fun σ H R=>∃ B δ,Rl X.mg X.K B H σ δ/\qv X.mg E H (src δ) fun x=>∀ J H1,qB H H1->Walks X B H1 σ δ g tg J x.1 x.2->R J H1
theorem J2 {tgE iter:Expr}{body:List Stmt}{g:TG}{tg:Tg}{src:RI}{rb:RS} (G:Gd X E) (hi:PI X tgE iter (tI X E g tg src)) (hg:PG X tgE g) (hb:PSs X body (TSx X E rb)) (hs:autoParam (∀ x,foldedSetIterable iter X.env x=pure x) uQ._auto_1) :
  PS X (.For tgE iter body [] pos) (TSx X E (qaw tg src rb)):=by
 refine vx (qc4 G.own G.calm hi hg hb hs) fun D σ H ⟨B,δ,R,h⟩=>⟨B,δ,R,?_⟩
 unfold qaw at h
 cases hr:src δ with
 | er c=>rw[hr] at h;exact YI R h
 | no=>rw[hr] at h;exact h
 | ok x =>
  rw[hr] at h
  obtain⟨fl,xs⟩:=x
  cases fl with
  | false=>exact h.elim
  | true =>
   intro J H1 s1 W
   have h:yV X.mg X.K E B H σ δ (turns tg rb xs δ) D:=h
   have h1:=yV.later h (Frm.grow (σ:=σ) s1)
   refine⟨fun i m σ' H'=>m=xs.length-i/\i <= xs.length/\∃ δ',Rl X.mg X.K B H' σ' δ'/\Frm B σ δ H1 σ' δ' H'/\yV X.mg X.K E B H' σ' δ' (turns tg rb (xs.drop i) δ') D,⟨xs.length,by lia,Nat.zero_le _,δ,R.more s1,Frm.refl,h1⟩,?_⟩
   rintro i m σ' H' ⟨rfl,hi,δ',R',f',h'⟩
   by_cases hlt:i<xs.length
   ·right
    have hx:xs[i]?=some xs[i]:=List.getElem?_eq_getElem hlt
    rw[List.drop_eq_getElem_cons hlt] at h'
    unfold turns at h'
    cases hp:tg.put xs[i] δ' with
    | none=>rw[hp] at h';exact h'.elim
    | some δ2 =>
     rw[hp] at h'
     obtain⟨go,yl⟩:=W.1 B i xs[i] σ' δ' δ2 H' hx R' (Kp.of f') hp
     refine⟨go,fun σ2 H2=>i+1 <= xs.length/\∃ δ3,Rl X.mg X.K B H2 σ2 δ3/\Frm B σ δ H1 σ2 δ3 H2/\yV X.mg X.K E B H2 σ2 δ3 (turns tg rb (xs.drop (i+1)) δ3) D,fun σ2 H2 ⟨q1,δ3,q2,q3,q4⟩=>⟨xs.length-(i+1),by lia,rfl,q1,δ3,q2,q3,q4⟩,fun v H3 hy=>?_⟩
     refine yl v H3 hy _ fun σ2 H4 R2 f2 _ _=>⟨B,δ2,R2,?_⟩
     have f4:=f'.trans f2
     dsimp only at h'
     cases hb:rb δ2 with
     | nx δ3=>rw[hb] at h';exact fun σ3 H5 R3 f3=>⟨hlt,δ3,R3,f4.trans f3,yV.later h' (f2.trans f3)⟩
     | ct δ3=>rw[hb] at h';exact fun σ3 H5 R3 f3=>⟨hlt,δ3,R3,f4.trans f3,yV.later h' (f2.trans f3)⟩
     | bk δ3=>rw[hb] at h';exact fun σ3 H5 R3 f3=>h' σ3 H5 R3 (f2.trans f3)
     | rt d k=>rw[hb] at h';exact h'
     | er c=>rw[hb] at h';exact h'
     | no=>rw[hb] at h';exact h'
   ·left
    have e:i=xs.length:=by lia
    subst e
    rw[List.drop_length] at h'
    exact⟨W.2 B _ σ' δ' H' (Nat.le_refl _) R' (Kp.of f'),h' σ' H' R' Frm.refl⟩
theorem qcN {c:Expr}{body:List Stmt}{t:RT}{rb:RS} (G:Gd X E) (hc:PT X c (TTx X E t)) (hb:PSs X body (TSx X E rb)):PS X (.While c body [] pos) (TSx X E (ZJ t rb)):=by
 refine vx (qdX G.own hc hb) fun D σ H ⟨B,δ,R,h⟩=>?_
 have hn:∃ n,yV X.mg X.K E B H σ δ (wl t rb n δ) D:=by
  unfold ZJ at h
  split at h
  ·exact⟨_,h⟩
  ·exact h.elim
 obtain⟨n,h⟩:=hn
 refine⟨fun m σ' H'=>∃ δ',Rl X.mg X.K B H' σ' δ'/\yV X.mg X.K E B H' σ' δ' (wl t rb m δ') D,⟨n,δ,R,h⟩,?_⟩
 rintro m σ' H' ⟨δ',R',h'⟩
 refine⟨B,δ',R',?_⟩
 cases m with
 | zero=>exact h'.elim
 | succ m =>
  unfold wl at h'
  cases ht:t δ' with
  | er c=>rw[ht] at h';exact YI R' h'
  | no=>rw[ht] at h';exact h'
  | ok x =>
   rw[ht] at h'
   intro H1 s1
   cases x with
   | false=>exact h' σ' H1 (R'.more s1) (Frm.grow s1)
   | true =>
    simp only[if_true] at h' ⊢
    refine⟨fun σ2 H2=>∃ δ2,Rl X.mg X.K B H2 σ2 δ2/\yV X.mg X.K E B H2 σ2 δ2 (wl t rb m δ2) D,fun σ2 H2 q=>⟨m,Nat.lt_succ_self _,q⟩,B,δ',R'.more s1,?_⟩
    cases hb:rb δ' with
    | nx δ3=>rw[hb] at h';exact fun σ3 H5 R3 f3=>⟨δ3,R3,yV.later h' ((Frm.grow s1).trans f3)⟩
    | ct δ3=>rw[hb] at h';exact fun σ3 H5 R3 f3=>⟨δ3,R3,yV.later h' ((Frm.grow s1).trans f3)⟩
    | bk δ3=>rw[hb] at h';exact fun σ3 H5 R3 f3=>h' σ3 H5 R3 ((Frm.grow s1).trans f3)
    | rt d k=>rw[hb] at h';exact h'
    | er c=>rw[hb] at h';exact h'
    | no=>rw[hb] at h';exact h'
end
section
variable {mg:Str->Option Value}{E:XK}{H:Hp}{α:Type}{d d' d2:D}{k:α->Prop}
theorem qh3 {f:Int->Rs α} (h:qv mg E H (match d with | .int i=>f i | _=>.no) k):∃ i,d = .int i/\qv mg E H (f i) k:=by
 cases d with
 | int i=>exact⟨i,rfl,h⟩
 | _=>exact h.elim
theorem qio {f:Int->Int->Rs α} (h:qv mg E H (match d,d' with | .int i,.int j=>f i j | _,_=>.no) k):∃ i j,d = .int i/\d' = .int j/\qv mg E H (f i j) k:=by
 cases d with
 | int i =>
  cases d' with
  | int j=>exact⟨i,j,rfl,rfl,h⟩
  | _=>exact h.elim
 | _=>exact h.elim
theorem qh5 {f:List D->List D->Rs α} (h:qv mg E H (match d,d' with | .lst i,.lst j=>f i j | _,_=>.no) k):∃ i j,d = .lst i/\d' = .lst j/\qv mg E H (f i j) k:=by
 cases d with
 | lst i =>
  cases d' with
  | lst j=>exact⟨i,j,rfl,rfl,h⟩
  | _=>exact h.elim
 | _=>exact h.elim
theorem qis {f:Int->Int->Int->Rs α} (h:qv mg E H (match d,d',d2 with | .int i,.int j,.int c=>f i j c | _,_,_=>.no) k):∃ i j c,d = .int i/\d' = .int j/\d2 = .int c/\qv mg E H (f i j c) k:=by
 cases d with
 | int i =>
  cases d' with
  | int j =>
   cases d2 with
   | int c=>exact⟨i,j,c,rfl,rfl,rfl,h⟩
   | _=>exact h.elim
  | _=>exact h.elim
 | _=>exact h.elim
end
section
variable {mg:Str->Option Value}{K:PySem.W.Frag}{B:Bs}{H H1 H2 H':Hp}{σ σ':St}{δ δ' δ2:Dl}{v:V}{d:D}{i j:Nat}{k:Kd}
theorem Wa {fl:Bool}{B':Bs} (f:Kp fl B B' σ δ H1 σ' δ' H2) (hk:d.sc=true\/k ≠ .bo) (r:Rp mg K (Gk B σ δ k) H1 v d):Rp mg K (Gk B' σ' δ' k) H2 v d:=by
 rcases hk with c | hk
 ·rw[r.sc c]
  exact Rp.zt c
 obtain⟨f0,f2,f3⟩:=f
 refine Rp.mono (fun a g=>?_) d v (Rp.there _ _ r)
 obtain⟨g,n⟩:=g
 have viaOwn:¬ vG B σ δ a->¬ vG B' σ' δ' a/\∀ o,H1 a=some o->H2 a=some o:=fun no=>by
  cases e:H1 a with
  | none=>exact absurd e n
  | some o=>exact⟨(f2 a o e no).2,fun o' e'=>by cases e';exact (f2 a o e no).1⟩
 cases k with
 | bo=>exact absurd rfl hk
 | sh=>exact viaOwn g
 | nw=>exact⟨⟨(viaOwn g.1).1,by rw[f0];exact g.2⟩,(viaOwn g.1).2⟩
 | fr=>exact⟨⟨(viaOwn g.1).1,by rw[f0];exact g.2⟩,(viaOwn g.1).2⟩
theorem Qy (h:put i (d,k) δ=some δ'):d.sc=true\/k ≠ .bo:=by
 cases k with
 | bo =>
  have h2:(if d.sc=true then some (δ.set i (.val d true)) else none)=some δ':=h
  by_cases c:d.sc=true
  ·exact .inl c
  ·rw[if_neg c] at h2
   cases h2
 | sh=>exact .inr fun z=>nomatch z
 | nw=>exact .inr fun z=>nomatch z
 | fr=>exact .inr fun z=>nomatch z
theorem qed (f:Frm B σ δ H1 σ' δ' H2) (hk:d.sc=true\/k ≠ .bo) (r:Rp mg K (Gk B σ δ k) H1 v d):Rp mg K (Gk B σ' δ' k) H2 v d:=Wa (Kp.of f) hk r
theorem WC (R:Rl mg K B H σ δ) (r:Rp mg K (Gk B σ δ k) H v d) (h:put i (d,k) δ=some δ'):Rl mg K B H (σ.set i (some v)) δ'/\Frm B σ δ H (σ.set i (some v)) δ' H:=by
 have fin:∀ b:Bool,δ'=δ.set i (.val d b)->Rp mg K (fun a=>¬ vG B σ δ a/\(b=true->B.H0 a=none)) H v d->Rl mg K B H (σ.set i (some v)) δ'/\Frm B σ δ H (σ.set i (some v)) δ' H:=fun b e q=>by
  rw[e]
  exact⟨R.J0 q,jV⟩
 cases c:d.sc with
 | true =>
  have e:=r.sc c
  subst e
  refine fin true ?_ (Rp.zt c)
  cases k with
  | bo =>
   have h2:(if d.sc=true then some (δ.set i (.val d true)) else none)=some δ':=h
   rw[if_pos c] at h2
   exact (Option.some.inj h2).symm
  | sh =>
   have h2:some (δ.set i (uo (d,if d.sc=true then .nw else .sh)))=some δ':=h
   rw[if_pos c] at h2
   exact (Option.some.inj h2).symm
  | nw =>
   have h2:some (δ.set i (uo (d,if d.sc=true then .nw else .nw)))=some δ':=h
   rw[if_pos c] at h2
   exact (Option.some.inj h2).symm
  | fr =>
   have h2:some (δ.set i (uo (d,if d.sc=true then .nw else .fr)))=some δ':=h
   rw[if_pos c] at h2
   exact (Option.some.inj h2).symm
 | false =>
  have cn:¬ (d.sc=true):=by rw[c];decide
  cases k with
  | bo =>
   have h2:(if d.sc=true then some (δ.set i (.val d true)) else none)=some δ':=h
   rw[if_neg cn] at h2
   cases h2
  | sh =>
   have h2:some (δ.set i (uo (d,if d.sc=true then .nw else .sh)))=some δ':=h
   rw[if_neg cn] at h2
   exact fin false (Option.some.inj h2).symm (r.weak fun a g=>⟨g,fun z=>nomatch z⟩)
  | nw =>
   have h2:some (δ.set i (uo (d,if d.sc=true then .nw else .nw)))=some δ':=h
   rw[if_neg cn] at h2
   exact fin true (Option.some.inj h2).symm (r.weak fun a g=>⟨g.1,fun _=>g.2⟩)
  | fr =>
   have h2:some (δ.set i (uo (d,if d.sc=true then .nw else .fr)))=some δ':=h
   rw[if_neg cn] at h2
   exact fin true (Option.some.inj h2).symm (r.weak fun a g=>⟨g.1,fun _=>g.2⟩)
end
section
variable {X:Cx}{E:XK}{pos:Pos}{tgE:Expr}
theorem uE {tg iter:Expr}{w w':TI} (h:PI X tg iter w) (i:∀ σ H R,w' σ H R->w σ H R):PI X tg iter w':=fun pins s σ H R I hw=>h pins s σ H R I (i σ H R hw)
theorem Xb {k:Kd} (h:k.safe=true):k ≠ .bo:=fun z=>by rw[z] at h;cases h
theorem qcr {k:Kd} (h:k ≠ .bo):k.low .nw ≠ .bo:=by cases k <;> first | exact absurd rfl h | exact fun z=>nomatch z
theorem qcO {B:Bs}{σ:St}{δ:Dl}{k:Kd}{a:Addr} (h:k ≠ .bo) (g:Gk B σ δ k a):¬ vG B σ δ a:=by
 cases k with
 | bo=>exact absurd rfl h
 | sh=>exact g
 | nw=>exact g.1
 | fr=>exact g.1
theorem j5 {mg:Str->Option Value}{K:PySem.W.Frag}{B:Bs}{H1:Hp}{σ:St}{δ:Dl}{k:Kd}{v:V}{ds:List D}{fl:Bool} (hk:fl=true->k ≠ .bo) (r:Rp mg K (Gk B σ δ k) H1 v (.lst ds)):∃ a vs,v = .ref a/\SqL K H1 a vs/\qz mg K (Gk B σ δ k) H1 vs ds /\
  ∀ (B':Bs) (H2:Hp) (σ':St) (δ':Dl),Kp fl B B' σ δ H1 σ' δ' H2->SqL K H2 a vs:=by
 cases r with
 | lst g s q =>
  refine⟨_,_,rfl,.inl s,q,fun B' H2 σ' δ' f=>.inl (qeg s fun o e=>?_)⟩
  cases fl with
  | true=>exact (f.2.1 _ o e (qcO (hk rfl) g)).1
  | false=>exact f.2.2 rfl _ o e
 | lstK s q=>exact⟨_,_,rfl,s _,q,fun B' H2 _ _ _=>s H2⟩
theorem Qt {i:Nat}{iter:Expr}{r:RE} (hl:PE X iter (TEx X E r)):PI X tgE iter (tI X E (zP i) (.one i) (iOf r)):=by
 refine uE (qfk hl) fun σ H R ⟨B,δ,R0,h⟩=>⟨B,δ,R0,?_⟩
 refine qv.imp (qv.bind h) fun x h1 v H1 s1 vr=>?_
 obtain⟨d,k⟩:=x
 have vr:VR X.mg X.K B H H1 σ δ k v d:=vr
 cases d with
 | lst ds =>
  have h2:=h1
  have hk:k.safe=true->k.low .nw ≠ .bo:=fun z=>qcr (Xb z)
  have rp:=VR.low R0 .nw vr
  rw[VR.gk (low_ne _ _)] at rp
  obtain⟨a,vs,rfl,sq,ra,st⟩:=j5 (fl:=k.safe) hk rp
  refine⟨a,rfl,⟨vs,sq⟩,h2 (Itl X.K a) H1 s1 ⟨fun B' n x σ' δ' δ2 H2 hx R' f hp=>?_,fun B' n σ' δ' H2 hn R' f=>⟨vs,st B' H2 σ' δ' f,by rw[ra.len];simpa using hn⟩⟩⟩
  have sq2:=st B' H2 σ' δ' f
  rw[List.getElem?_map] at hx
  cases hd:ds[n]? with
  | none=>rw[hd] at hx;cases hx
  | some d =>
   rw[hd] at hx
   cases hx
   obtain⟨w,hw,rw'⟩:=ra.getD hd
   refine⟨⟨vs,w,sq2,hw⟩,fun u H3 hy Q hQ=>?_⟩
   obtain⟨rfl,hu⟩:=hy
   have e:=hu vs sq2
   rw[hw] at e
   cases e
   have q:=WC R' (Wa f (Qy (show put i (d,k.low .nw) δ'=some δ2 from hp)) rw') hp
   exact hQ _ _ q.1 q.2 qB.refl ⟨_,rfl⟩
 | _=>exact h1.elim
theorem jA {i:Nat}{a:Expr}{r:RE}{p:Pos} (hg:Gl X "range") (hm:X.mg "range"=none) (ha:PE X a (TEx X E r)) (hs:autoParam (starEach [a] X.env=[(false,eval a X.env)]) qt._auto_1):PI X tgE (.Call (.Name "range" p) [a] [] pos) (tI X E (zP i) (.one i) (v8 r)):=by
 refine uE (YH hg hm (zm ha xp hs) hs) fun σ H R ⟨B,δ,R0,h⟩=>⟨B,δ,R0,?_⟩
 refine qv.imp (qv.bind h) fun x h1 v H1 s1 vr=>?_
 obtain⟨d,k⟩:=x
 have vr:VR X.mg X.K B H H1 σ δ k v d:=vr
 obtain⟨z,e,g9⟩:=qh3 h1
 clear h1
 subst e
 by_cases c : -1000000<z/\z<1000000
 ·rw[if_pos c] at g9
  have ev:=vC R0 vr
  subst ev
  refine⟨z,rfl,by lia,by lia,g9 _ H1 s1 ⟨fun B' n x σ' δ' δ2 H2 hx R' f hp=>?_,fun B' n σ' δ' H2 hn R' f=>(show z.toNat <= n by rw[List.length_map,List.length_range] at hn;exact hn)⟩⟩
  rw[List.getElem?_map] at hx
  cases hd:(List.range z.toNat)[n]? with
  | none=>rw[hd] at hx;cases hx
  | some m =>
   rw[hd] at hx
   cases hx
   obtain⟨hlt,e⟩:=List.getElem?_eq_some_iff.mp hd
   rw[List.length_range] at hlt
   rw[List.getElem_range] at e
   subst e
   refine⟨hlt,fun u H3 hy Q hQ=>?_⟩
   obtain⟨rfl,rfl⟩:=hy
   have hp:put i (D.int (n:Nat),.nw) δ'=some δ2:=hp
   have q:=WC (v:=.int (0+(n:Nat))) R' (by rw[Int.zero_add];exact Rp.int _) hp
   exact hQ _ _ q.1 q.2 qB.refl ⟨_,rfl⟩
 ·rw[if_neg c] at g9
  exact g9.elim
theorem qdZ {K:PySem.W.Frag}{mg:Str->Option Value}{B B':Bs}{H1 H2:Hp}{σ σ':St}{δ δ' δ2:Dl}{i j:Nat}{k:Kd}{x y:V}{dx dy:D}{T:Addr}{fl:Bool} (R':Rl mg K B' H2 σ' δ') (f:Kp fl B B' σ δ H1 σ' δ' H2) (rx:Rp mg K (Gk B σ δ k) H1 x dx) (ry:Rp mg K (Gk B σ δ k) H1 y dy) (hT:H2 T=none)
  (hp:(Tg.two i j).put (.tup [dx,dy],k) δ'=some δ2) (Q:St->Hp->Prop) (hQ:∀ σ2 H4,Rl mg K B' H4 σ2 δ2->Frm B' σ' δ' H2 σ2 δ2 H4->qB H2 H4->(Tg.two i j).sets σ' σ2->Q σ2 H4) :
  qew K 2 (W7 (zP i) (W7 (zP j) qe8)) (.ref T) σ' (upd H2 T (.tup [x,y])) Q:=by
 have s2:=wk (o:=.tup [x,y]) hT
 have hp:(put i (dx,k) δ').bind (put j (dy,k))=some δ2:=hp
 cases h1:put i (dx,k) δ' with
 | none=>rw[h1] at hp;cases hp
 | some δ1 =>
  rw[h1] at hp
  have hp:put j (dy,k) δ1=some δ2:=hp
  have q1:=WC (R'.more s2) ((Wa f (Qy h1) rx).same s2) h1
  have ry2:Rp mg K (Gk B' (σ'.set i (some x)) δ1 k) (upd H2 T (.tup [x,y])) y dy:=qed q1.2 (Qy hp) ((Wa f (Qy hp) ry).same s2)
  have q2:=WC q1.1 ry2 hp
  refine⟨T,[x,y],rfl,SqT.of qV,rfl,x,[y],rfl,y,[],rfl,rfl,?_⟩
  exact hQ _ _ q2.1 ((Frm.grow s2).trans (q1.2.trans q2.2)) s2 ⟨_,_,rfl⟩
theorem qcP {i j:Nat}{e e2:Expr}{r q:RE}{p tpos:Pos}{elts:List Expr}{kk:Nat} (hg:Gl X "zip") (hm:X.mg "zip"=none) (ha:PE X e (TEx X E r)) (hb:PE X e2 (TEx X E q))
  (hs:autoParam (starEach [e,e2] X.env=(false,eval e X.env)::starEach [e2] X.env) qt._auto_1) (hs2:autoParam (starEach [e2] X.env=(false,eval e2 X.env)::starEach [] X.env) qt._auto_1) (hpl:autoParam ((backTo pos (starEach [e2] X.env)).any (·.1)=false) qt._auto_1) :
  PI X (.Tuple elts kk tpos) (.Call (.Name "zip" p) [e,e2] [] pos) (tI X E (qew X.K 2 (W7 (zP i) (W7 (zP j) qe8))) (.two i j) (X9 r q)):=by
 refine uE (qgV hg hm (zm ha (zm hb xp hs2) hs) hs hpl) fun σ H R ⟨B,δ,R0,h⟩=>⟨B,δ,R0,?_⟩
 refine qv.imp (qv.bind h) fun x h1 v H1 s1 vr=>⟨B,δ,R0.more s1,?_⟩
 refine qv.imp (qv.more (qv.bind h1) s1) fun y h2 w H2 s2 vw=>?_
 obtain⟨d,k⟩:=x
 obtain⟨d',k'⟩:=y
 have vr:VR X.mg X.K B H H1 σ δ k v d:=vr
 have vw:VR X.mg X.K B H1 H2 σ δ k' w d':=vw
 obtain⟨xs,ys,e,e2,g9⟩:=qh5 h2
 clear h2
 subst e e2
 have h3:=g9
 have hkk:(k.safe&&k'.safe)=true->k.low k' ≠ .bo:=fun z=>by
  rw[Bool.and_eq_true] at z
  have hk:=Xb z.1
  have hk':=Xb z.2
  cases k <;> cases k' <;> first | exact absurd rfl hk | exact absurd rfl hk' | exact fun z=>nomatch z
 have rx:=VR.low R0 k' (vr.later s2)
 have ry:=VR.qhP (R0.more s1) k vw
 rw[VR.gk (low_ne _ _)] at rx ry
 obtain⟨a,vs,rfl,sqa,ra,sta⟩:=j5 (fl:=k.safe&&k'.safe) hkk rx
 obtain⟨b,us,rfl,sqb,rb,stb⟩:=j5 (fl:=k.safe&&k'.safe) hkk ry
 refine⟨a,b,vs,us,rfl,sqa,sqb,h3 (Itz X.K a b) H2 (s1.trans s2) ⟨fun B' n x σ' δ' δ2 H3 hx R' f hp=>?_,fun B' n σ' δ' H3 hn R' f=>⟨vs,us,sta B' H3 σ' δ' f,stb B' H3 σ' δ' f,?_⟩⟩⟩
 ·rw[List.getElem?_map] at hx
  cases hd:(xs.zip ys)[n]? with
  | none=>rw[hd] at hx;cases hx
  | some pr =>
   rw[hd] at hx
   cases hx
   rw[List.getElem?_zip_eq_some] at hd
   obtain⟨x,hx,rx'⟩:=ra.getD hd.1
   obtain⟨y,hy,ry'⟩:=rb.getD hd.2
   have sa:=sta B' H3 σ' δ' f
   have sb:=stb B' H3 σ' δ' f
   refine⟨⟨vs,us,x,y,sa,sb,hx,hy⟩,fun u H4 hyl Q hQ=>?_⟩
   obtain⟨T,x2,y2,rfl,hT,rfl,e1,e2⟩:=hyl
   have e1:=e1 vs sa
   have e2:=e2 us sb
   rw[hx] at e1
   rw[hy] at e2
   cases e1
   cases e2
   exact qdZ R' f rx' ry' hT hp Q hQ
 ·rw[List.length_map,List.length_zip] at hn
  rw[ra.len,rb.len]
  lia
end
section
variable {X:Cx}{E:XK}{pos:Pos}
noncomputable def spD (mg:Str->Option Value) (K:PySem.W.Frag) (n:Nat) (g:Fn):Sp:=fun vs H Q E=>∃ ds:List D,ds.length=n/\qz mg K (fun _=>True) H vs ds/\qv mg E H (g ds) fun y=>∀ v H',qB H H'->RR mg K H H' y.2 v y.1->Q v H'
noncomputable def Fd (P:Program) (w:World) (K:PySem.W.Frag) (mg:Str->Option Value) (base:Heap) (k:Nat) (x:Str) (n:Nat) (g:Fn):Prop :=
 ∃ (f:Addr) (fd:FuncData) (ps:List Str),uk P w K mg base (CX1 P w) k f fd ps (spD mg K n g)/\mg x=some (.ref f)/\PySem.W.keepIn K (.ref f)=true/\Binds K fd ps []
theorem qfO {r:RA}{g:Fn}{n:Nat}{σ:St}{H:Hp}{Q:VK} (hn:∀ δ xs,r δ = .ok xs->xs.length=n) (h:TEx X E (qe g r) σ H Q):qc9 (spD X.mg X.K n g) [] E (TAx X E r) σ H Q:=by
 obtain⟨B,δ,R,h⟩:=h
 refine⟨B,δ,R,?_⟩
 have e:∀ xs,r δ = .ok xs->xs.length=n:=fun xs=>hn δ xs
 cases hr:r δ with
 | er c =>
  unfold qe at h
  rw[hr] at h
  exact h
 | no =>
  unfold qe at h
  rw[hr] at h
  exact h
 | ok xs =>
  unfold qe at h
  rw[hr] at h
  intro vs H1 s1 vrs
  refine⟨xs.map (·.1),by rw[List.length_map];exact e xs hr,by rw[List.append_nil];exact vrs.rp R,?_⟩
  refine qv.imp (qv.more (qv.bind h) s1) fun y q v H2 s2 rr=>?_
  refine q v H2 (s1.trans s2) ?_
  show VR _ _ _ _ _ _ _ (kB y.2) _ _
  have R1:=R.more s1
  cases hb:y.2 with
  | true =>
   rw[hb] at rr
   obtain⟨p,ds,a,b,c,e1,e2⟩:=rr
   exact⟨p,ds,a,b,c,s1.free e1,e2⟩
  | false =>
   rw[hb] at rr
   exact Rp.weak rr fun a g=>⟨R1.fresh g,R1.same.free g⟩
inductive qbG:RA->Nat->Prop
 | nil:qbG qi 0
 | cons {r:RE}{rr:RA}{n:Nat}:qbG rr n->qbG (qc r rr) (n+1)
theorem qbG.is {r:RA}{n:Nat} (h:qbG r n):∀ δ xs,r δ = .ok xs->xs.length=n:=by
 induction h with
 | nil=>intro δ xs e;cases e;rfl
 | @cons r rr n _ ih =>
  intro δ xs e
  unfold qc at e
  cases h1:r δ with
  | er c=>rw[h1] at e;cases e
  | no=>rw[h1] at e;cases e
  | ok x =>
   rw[h1] at e
   cases h2:rr δ with
   | er c=>rw[Rs.qM,h2] at e;cases e
   | no=>rw[Rs.qM,h2] at e;cases e
   | ok ys =>
    rw[Rs.qM,h2] at e
    cases e
    rw[List.length_cons,ih δ ys h2]
theorem qj {x:Str}{p:Pos}{e:Expr}{es:List Expr}{r:RA}{g:Fn}{n k:Nat} (acc:Acc X E) (F:Fd X.prog X.w X.K X.mg X.base k x n g) (hr:zi k X.A) (hg:Gl X x) (hn:qbG r n) (ha:PA X (e::es) (TAx X E r))
  (hdb:autoParam ((x==("__debug__":Str))=false) vh._auto_1) (he:autoParam (starEach (e::es) X.env=(false,eval e X.env)::starEach es X.env) qt._auto_1) (hpl:autoParam ((backTo pos (starEach es X.env)).any (·.1)=false) qt._auto_1) :
  PE X (.Call (.Name x p) (e::es) [] pos) (TEx X E (qe g r)):=by
 obtain⟨f,fd,ps,F,hm,hk,hb⟩:=F
 exact vO (VN F hr hg hm hk hb .nil (xj acc) ha hdb he hpl) fun σ H Q h=>qfO hn.is h
noncomputable def ZK (X:Cx) (f:List DK->Rs DK) (rr:List V->Hp->VK->Prop):Prop:=∀ (B:Bs) (H H':Hp) (σ:St) (δ:Dl) (vs:List V) (xs:List DK) (Q:VK) (E:XK),Rl X.mg X.K B H σ δ->qB H H'->VRs X.mg X.K B H H' σ δ vs xs->Fin X.mg X.K E B H' σ δ (f xs) Q->rr vs H' Q
theorem zZ {e:Expr}{r:RA}{f:List DK->Rs DK}{rr:List V->Hp->VK->Prop} (h:PE X e (tCB rr (TAx X E r))) (F:ZK X f rr):PE X e (TEx X E (wu f r)) :=
 vO h fun σ H Q ⟨B,δ,R,h⟩=>YA R h fun xs vs H1 s1 vrs h1=>F B H H1 σ δ vs xs Q E R s1 vrs h1
theorem qdB {mg:Str->Option Value}{K:PySem.W.Frag}{B:Bs}{H H':Hp}{σ:St}{δ:Dl}{vs:List V}{x:DK} (h:VRs mg K B H H' σ δ vs [x]):∃ v,vs=[v]/\VR mg K B H H' σ δ x.2 v x.1:=by
 cases h with
 | cons a b=>cases b;exact⟨_,rfl,a⟩
theorem qim {mg:Str->Option Value}{K:PySem.W.Frag}{B:Bs}{H H':Hp}{σ:St}{δ:Dl}{vs:List V}{x y:DK} (h:VRs mg K B H H' σ δ vs [x,y]):∃ v w,vs=[v,w]/\VR mg K B H H' σ δ x.2 v x.1/\VR mg K B H H' σ δ y.2 w y.1:=by
 cases h with
 | cons a b=>cases b with | cons c d=>cases d;exact⟨_,_,rfl,a,c⟩
theorem uI:ZK X yX (fun xs H Q=>∃ p ys,xs=[.ref p]/\(SqL X.K H p ys\/SqT X.K H p ys)/\Q (.int ys.length) H):=by
 intro B H H' σ δ vs xs Q E R s vr h
 match xs,vr,h with
 | [(.lst l,k)],vr,h =>
  obtain⟨v,rfl,r⟩:=qdB vr
  obtain⟨a,us,rfl,q,g⟩:=VR.items R r
  exact⟨a,us,rfl,.inl q,by rw[g.len];exact h _ H' qB.refl (VR.int _)⟩
 | [(.tup l,k)],vr,h =>
  obtain⟨v,rfl,r⟩:=qdB vr
  obtain⟨a,us,rfl,q,g⟩:=VR.JY R r
  exact⟨a,us,rfl,.inr q,by rw[g.len];exact h _ H' qB.refl (VR.int _)⟩
 | [],_,h=>exact h.elim
 | [(.int _,_)],_,h=>exact h.elim
 | [(.bl _,_)],_,h=>exact h.elim
 | [(.non,_)],_,h=>exact h.elim
 | [(.fn _,_)],_,h=>exact h.elim
 | [(.obj _ _ _,_)],_,h=>exact h.elim
 | (.lst _,_)::_::_,_,h=>exact h.elim
 | (.tup _,_)::_::_,_,h=>exact h.elim
 | (.int _,_)::_::_,_,h=>exact h.elim
 | (.bl _,_)::_::_,_,h=>exact h.elim
 | (.non,_)::_::_,_,h=>exact h.elim
 | (.fn _,_)::_::_,_,h=>exact h.elim
 | (.obj _ _ _,_)::_::_,_,h=>exact h.elim
theorem qgl:ZK X qgJ (fun xs H Q=>∃ i,xs=[.int i]/\Q (.int (if i<0 then -i else i)) H):=by
 intro B H H' σ δ vs xs Q E R s vr h
 match xs,vr,h with
 | [(.int i,k)],vr,h =>
  obtain⟨v,rfl,r⟩:=qdB vr
  exact⟨i,by rw[vC R r],h _ H' qB.refl (VR.int _)⟩
 | [],_,h=>exact h.elim
 | [(.lst _,_)],_,h=>exact h.elim
 | [(.tup _,_)],_,h=>exact h.elim
 | [(.bl _,_)],_,h=>exact h.elim
 | [(.non,_)],_,h=>exact h.elim
 | [(.fn _,_)],_,h=>exact h.elim
 | [(.obj _ _ _,_)],_,h=>exact h.elim
 | (.lst _,_)::_::_,_,h=>exact h.elim
 | (.tup _,_)::_::_,_,h=>exact h.elim
 | (.int _,_)::_::_,_,h=>exact h.elim
 | (.bl _,_)::_::_,_,h=>exact h.elim
 | (.non,_)::_::_,_,h=>exact h.elim
 | (.fn _,_)::_::_,_,h=>exact h.elim
 | (.obj _ _ _,_)::_::_,_,h=>exact h.elim
theorem qd4 {f:List DK->Rs DK}{g:Int->Int->Int} (h1:∀ i j k l,f [(.int i,k),(.int j,l)] = .ok (.int (g i j),.nw)) (h2:∀ xs,(∀ i j k l,xs≠[(.int i,k),(.int j,l)])->f xs = .no):ZK X f (fun xs H Q=>∃ i j,xs=[.int i,.int j]/\Q (.int (g i j)) H):=by
 intro B H H' σ δ vs xs Q E R s vr h
 by_cases c:∃ i j k l,xs=[(.int i,k),(.int j,l)]
 ·obtain⟨i,j,k,l,rfl⟩:=c
  obtain⟨v,w,rfl,r1,r2⟩:=qim vr
  rw[h1] at h
  exact⟨i,j,by rw[vC R r1,vC R r2],h _ H' qB.refl (VR.int _)⟩
 ·rw[h2 xs fun i j k l e=>c ⟨i,j,k,l,e⟩] at h
  exact h.elim
theorem qep {f:List DK->Rs DK}{xs:List DK} (h0:f [] = .no) (h1:∀ x,f [x] = .no) (h2:∀ x y,(∀ i j k l,[x,y]≠[(.int i,k),(.int j,l)])->f [x,y] = .no) (h3:∀ x y z r,f (x::y::z::r) = .no) (h:∀ i j k l,xs≠[(.int i,k),(.int j,l)]):f xs = .no:=by
 match xs,h with
 | [],_=>exact h0
 | [x],_=>exact h1 x
 | [x,y],h=>exact h2 x y h
 | x::y::z::r,_=>exact h3 x y z r
theorem qcQ:ZK X JU (fun xs H Q=>∃ i j,xs=[.int i,.int j]/\Q (.int (if j>i then j else i)) H) :=
 qd4 (fun _ _ _ _=>rfl) fun xs h=>qep rfl (fun⟨x,k⟩=>by cases x <;> rfl) (fun⟨x,k⟩ ⟨y,l⟩ h=>by cases x <;> cases y <;> first | rfl | exact absurd rfl (h _ _ _ _)) (fun⟨x,k⟩ ⟨y,l⟩ z r=>by cases x <;> cases y <;> rfl) h
theorem qeb:ZK X qci (fun xs H Q=>∃ i j,xs=[.int i,.int j]/\Q (.int (if j<i then j else i)) H) :=
 qd4 (fun _ _ _ _=>rfl) fun xs h=>qep rfl (fun⟨x,k⟩=>by cases x <;> rfl) (fun⟨x,k⟩ ⟨y,l⟩ h=>by cases x <;> cases y <;> first | rfl | exact absurd rfl (h _ _ _ _)) (fun⟨x,k⟩ ⟨y,l⟩ z r=>by cases x <;> cases y <;> rfl) h
end
section
variable {X:Cx}{E:XK}{pos:Pos}
theorem qce {vs:List V}{us:List Value} (h:Vals vs us) (js:List Nat):Vals (js.filterMap (vs[·]?)) (js.filterMap (us[·]?)):=by
 induction js with
 | nil=>exact .nil
 | cons j js ih =>
  cases e:vs[j]? with
  | none=>rw[List.filterMap_cons,List.filterMap_cons];simp only[e,h.none_of e];exact ih
  | some v =>
   obtain⟨u,e2,r⟩:=h.get e
   rw[List.filterMap_cons,List.filterMap_cons]
   simp only[e,e2]
   exact .cons r ih
theorem qfM {mg:Str->Option Value}{K:PySem.W.Frag}{G:Addr->Prop}{H:Hp}{vs:List V}{ds:List D} (h:qz mg K G H vs ds) (js:List Nat):qz mg K G H (js.filterMap (vs[·]?)) (js.filterMap (ds[·]?)):=by
 induction js with
 | nil=>exact .nil
 | cons j js ih =>
  cases e:vs[j]? with
  | none =>
   have e2:ds[j]?=none:=by
    rw[List.getElem?_eq_none_iff] at e ⊢
    rw[<- h.len]
    exact e
   rw[List.filterMap_cons,List.filterMap_cons];simp only[e,e2];exact ih
  | some v =>
   obtain⟨d,e2,r⟩:=h.get e
   rw[List.filterMap_cons,List.filterMap_cons]
   simp only[e,e2]
   exact .cons r ih
theorem qeH {α:Type} (xs:List α) (lo hi st:Option Int) (h0:st≠some 0):(pick xs lo hi st).length <= xs.length:=by
 have e:∀ {β:Type} (f:α->β) ,((pick xs lo hi st).map f)=pick (xs.map f) lo hi st:=fun {β} f=>by
  unfold pick
  rw[List.length_map,List.map_filterMap]
  congr 1
  funext j
  rw[List.getElem?_map]
 have q:=PySem.slicePick_size_le (xs.map fun _=>Value.none).toArray lo hi st
 have e2:(slicePick (xs.map fun _=>Value.none).toArray lo hi st).size=(pick xs lo hi st).length:=by
  rw[<- List.length_map (f:=fun _=>Value.none),e (fun _=>Value.none)]
  unfold slicePick pick
  simp
 rw[e2] at q
 simpa using q
noncomputable def qiw (K:PySem.W.Frag):V->Option Int->Option Int->Option Int->Hp->VK->Prop:=fun x lo hi st H Q=>∃ a xs,x = .ref a/\SqL K H a xs/\st≠some 0/\∀ p,H p=none->Q (.ref p) (upd H p (.lst (pick xs lo hi st)))
noncomputable def qij (K:PySem.W.Frag) (te:TE) (tl th ts:TO):TE:=fun σ H Q=>te σ H fun x H1=>tl σ H1 fun l H2=>th σ H2 fun u H3=>ts σ H3 fun st H4=>qiw K x l u st H4 Q
theorem qch {e:Expr}{te:TE}{lo hi st:Option Expr}{tl th ts:TO}{p2:Pos} (he:PE X e te) (hl:PO X lo tl) (hu:PO X hi th) (hst:PO X st ts):PE X (.Subscript e (.Slice lo hi st p2) pos) (qij X.K te tl th ts):=by
 intro pins s σ H Q I h
 refine Subscript_ (thn (he pins s σ H _ I h) fun v s1 ⟨x,H1,I1,r1,q1⟩=>?_)
 refine wpAny_Slice (thn (hl pins s1 σ H1 _ I1 q1) fun vl s2 ⟨l,H2,I2,pl,q2⟩=>thn (hu pins s2 σ H2 _ I2 q2) fun vu s3 ⟨u,H3,I3,pu,q3⟩=>thn (hst pins s3 σ H3 _ I3 q3) fun vk s4 ⟨k,H4,I4,pk,q4⟩=>?_)
 have I5:Inv X pins σ H4 {s4 with heap:=s4.heap.push {cls:=.type "slice",data:=.fields #[vl,vu,vk]} }:=I4.kept (t':=s4.toks) fun b ob q=>Heap.get?_push_of_some _ q
 obtain⟨a,xs,rfl,hx,h0,q⟩:=q4
 cases r1
 obtain⟨its,r,ht,hz⟩:=I5.list hx
 have hlen:=r.length
 show wpAny (model X.prog X.w) X.A (subscriptTail e (.Slice lo hi st p2) (.ref a) (.ref s4.heap.objs.size)) (EP X pins σ Q) X.xe {s4 with heap:=s4.heap.push {cls:=.type "slice",data:=.fields #[vl,vu,vk]} }
 have tail:∀ {Q':Value->Shared->Prop}{s':Shared},s'.TypeIs (.ref a) "list"->wpAny (model X.prog X.w) X.A (getItem (.ref a) (.ref s4.heap.objs.size)) Q' X.xe s'->wpAny (model X.prog X.w) X.A (subscriptTail e (.Slice lo hi st p2) (.ref a) (.ref s4.heap.objs.size)) Q' X.xe s':=fun {Q' s'} ty hg=>by
  cases st with
  | none=>exact tail_any (ops:=[.ref s4.heap.objs.size,.ref a]) ty slot_list_getitem.lookup hg (by with_unfolding_all rfl)
  | some z=>exact tail_any (ops:=[.ref a,.ref s4.heap.objs.size]) ty slot_list_getitem.lookup hg (by with_unfolding_all rfl)
 refine tail ht.isList.typeIs ?_
 refine wpAny_getItem_list_slice ht.isList (Heap.IsSliceOf.new ..) pl pu pk h0 ?_ (by rw[List.size_toArray];lia)
 have e:slicePick its.toArray l u k=(pick its l u k).toArray:=by
  unfold slicePick pick
  simp
 rw[e]
 have hv:Vals (pick xs l u k) (pick its l u k):=by
  unfold pick
  rw[hlen]
  exact qce r _
 exact⟨.ref _,_,I5.qe4 (t':=s4.toks) hv (Nat.le_trans (qeH xs l u k h0) hz),rfl,q _ I5.fresh⟩
noncomputable def tO (mg:Str->Option Value) (K:PySem.W.Frag) (E:XK) (r:RO):TO:=fun σ H Q=>∃ B δ,Rl mg K B H σ δ/\qv mg E H (r δ) fun x=>∀ H',qB H H'->Q x H'
noncomputable abbrev TOx (X:Cx) (E:XK) (r:RO):TO:=tO X.mg X.K E r
theorem qa9 {e:Option Expr}{t t':TO} (h:PO X e t) (i:∀ σ H Q,t' σ H Q->t σ H Q):PO X e t':=fun pins s σ H Q I hw=>h pins s σ H Q I (i σ H Q hw)
theorem qfz:PO X none (TOx X E VU):=qa9 qeR fun σ H Q ⟨B,δ,R,h⟩=>h H qB.refl
theorem qaU {e:Expr}{r:RE} (h:PE X e (TEx X E r)):PO X (some e) (TOx X E (Qo r)):=by
 refine qa9 (qeW h) fun σ H Q ⟨B,δ,R,h⟩=>⟨B,δ,R,?_⟩
 refine qv.imp (qv.bind h) fun x h1 v H1 s1 vr=>?_
 obtain⟨d,k⟩:=x
 have vr:VR X.mg X.K B H H1 σ δ k v d:=vr
 cases d with
 | int i=>exact⟨i,vC R vr,h1 H1 s1⟩
 | _=>exact h1.elim
theorem qdv {e:Expr}{r:RE}{lo hi st:Option Expr}{rl rh rs:RO}{p2:Pos} (he:PE X e (TEx X E r)) (hl:PO X lo (TOx X E rl)) (hu:PO X hi (TOx X E rh)) (hst:PO X st (TOx X E rs)):PE X (.Subscript e (.Slice lo hi st p2) pos) (TEx X E (Zt r rl rh rs)):=by
 refine vO (qch he hl hu hst) fun σ H Q ⟨B,δ,R,h⟩=>⟨B,δ,R,?_⟩
 refine qv.imp (qv.bind h) fun x h1 v H1 s1 vr=>⟨B,δ,R.more s1,?_⟩
 refine qv.imp (qv.more (qv.bind h1) s1) fun l h2 H2 s2=>⟨B,δ,(R.more s1).more s2,?_⟩
 refine qv.imp (qv.more (qv.bind h2) (s1.trans s2)) fun u h3 H3 s3=>⟨B,δ,((R.more s1).more s2).more s3,?_⟩
 refine qv.imp (qv.more (qv.bind h3) ((s1.trans s2).trans s3)) fun k h4 H4 s4=>?_
 have sA:qB H H4:=((s1.trans s2).trans s3).trans s4
 obtain⟨d,kd⟩:=x
 have vr:VR X.mg X.K B H H1 σ δ kd v d:=vr
 cases d with
 | lst ds =>
  have h5:Fin X.mg X.K E B H σ δ (if k=some 0 then .no else .ok (.lst (pick ds l u k),kL (pick ds l u k) (kd.low .nw))) Q:=h4
  by_cases h0:k=some 0
  ·rw[if_pos h0] at h5
   exact h5.elim
  ·rw[if_neg h0] at h5
   obtain⟨a,us,rfl,q,g⟩:=VR.items R (vr.later (s2.trans (s3.trans s4)))
   refine⟨a,us,rfl,q,h0,fun p hp=>?_⟩
   refine h5 _ _ (sA.trans (wk hp)) ?_
   refine VR.laid R sA hp (low_ne _ _) ?_
   unfold pick
   rw[g.len]
   exact qfM g _
 | _=>exact h4.elim
theorem qhL:yu X oIx (fun x y H Q=>qhH X.K x y H Q\/qhz X.K x y H Q):=by
 rintro B H H' σ δ x y ⟨dx,kx⟩ ⟨dy,ky⟩ Q E R s r1 r2 h
 have fin:∀ {vs:List V}{ds:List D}{i:Int}{d:D},qz X.mg X.K (Gk B σ δ (kx.low .nw)) H' vs ds->(ug ds.length i).bind (fun j=>ds[j]?)=some d->Fin X.mg X.K E B H' σ δ (.ok (d,kx.low .nw)) Q->∃ v,atI vs i=some v/\Q v H':=fun {vs ds i d} g e q=>by
  cases hj:ug ds.length i with
  | none=>rw[hj] at e;cases e
  | some j =>
   rw[hj] at e
   obtain⟨v,e1,e2⟩:=g.getD (show ds[j]?=some d from e)
   refine⟨v,?_,q v H' qB.refl (by show VR _ _ _ _ _ _ _ (kx.low .nw) _ _;rw[VR.gk (low_ne _ _)];exact e2)⟩
   unfold atI
   rw[g.len,<- qfb,hj]
   exact e1
 cases dx with
 | lst ds =>
  cases dy with
  | int i =>
   left
   obtain⟨a,vs,rfl,q,g⟩:=VR.items R r1
   unfold oIx at h
   dsimp only at h
   cases e:(ug ds.length i).bind (fun j=>ds[j]?) with
   | none=>rw[e] at h;exact h.elim
   | some d =>
    rw[e] at h
    obtain⟨v,e1,e2⟩:=fin g e h
    exact⟨a,vs,i,v,rfl,vC R r2,q,e1,e2⟩
  | _=>exact h.elim
 | tup ds =>
  cases dy with
  | int i =>
   right
   obtain⟨a,vs,rfl,q,g⟩:=VR.JY R r1
   unfold oIx at h
   dsimp only at h
   cases e:(ug ds.length i).bind (fun j=>ds[j]?) with
   | none=>rw[e] at h;exact h.elim
   | some d =>
    rw[e] at h
    obtain⟨v,e1,e2⟩:=fin g e h
    exact⟨a,vs,i,v,rfl,vC R r2,q,e1,e2⟩
  | _=>exact h.elim
 | _=>exact h.elim
theorem yQ {a b:Expr}{ra rb:RE} (ha:PE X a (TEx X E ra)) (hb:PE X b (TEx X E rb)) (hs:YY b):PE X (.Subscript a b pos) (TEx X E (qh oIx ra rb)) :=
 vO (qf9 (qa3.or qgK) ha hb hs) fun _ _ _ h=>two qhL h
noncomputable def qf0 (X:Cx) (f:DK->Rs DK) (rr:V->Hp->VK->Prop):Prop:=∀ (B:Bs) (H H':Hp) (σ:St) (δ:Dl) (x:V) (dx:DK) (Q:VK) (E:XK),Rl X.mg X.K B H σ δ->qB H H'->VR X.mg X.K B H H' σ δ dx.2 x dx.1->Fin X.mg X.K E B H' σ δ (f dx) Q->rr x H' Q
theorem one {f:DK->Rs DK}{rr:V->Hp->VK->Prop}{ra:RE} (F:qf0 X f rr) {σ:St}{H:Hp}{Q:VK} (h:TEx X E (rUn f ra) σ H Q):tUn rr (TEx X E ra) σ H Q:=by
 obtain⟨B,δ,R,h⟩:=h
 exact⟨B,δ,R,qv.imp (qv.bind h) fun dx h1 v H1 s1 r1=>F B H H1 σ δ v dx Q E R s1 r1 (Fin.more h1 s1)⟩
theorem qgA:qf0 X qb8 (rU fun i=>.int (-i)):=by
 rintro B H H' σ δ x ⟨dx,kx⟩ Q E R s r1 h
 cases dx with
 | int i=>exact⟨i,vC R r1,h _ H' qB.refl (VR.int _)⟩
 | _=>exact h.elim
theorem Jy {a:Expr}{ra:RE} (ha:PE X a (TEx X E ra)):PE X (.UnaryOp .USub a pos) (TEx X E (rUn qb8 ra)):=vO (qfS qec ha) fun _ _ _ h=>one qgA h
noncomputable def qfU:V->List V->Hp->VK->Prop:=fun x vs H Q=>∃ i,x = .int i/\vs=[]/\Q (.int (Builtin.Int.intBits i:Nat)) H
theorem qaM:MtR X "int.bit_length" qfU:=by
 intro pins s σ H x vs v us Q I rx rv h
 obtain⟨i,rfl,rfl,q⟩:=h
 obtain⟨t,rfl⟩:=rx
 cases rv
 refine call_gives PySem.F.slot_int_bit_length (typeIs_int s i t) PySem.F.entry_int_bit_length (PySem.F.args_int_bit_length_1 _) (PySem.AutoIntG2.int_bit_length_int_0 i t) ?_
 exact⟨.int _,H,I.tok _,⟨_,rfl⟩,q⟩
theorem qfq (i:Int):Builtin.Int.intBits i=if i=0 then 0 else i.natAbs.log2+1:=by
 unfold Builtin.Int.intBits
 by_cases h:i=0
 ·subst h;rfl
 ·rw[if_neg h]
  split
  ·rename_i z;exact absurd (by simpa using z) h
  ·rfl
theorem qa4 {e:Expr}{r:RE} (h:PE X e (qhv X.K "int" qfU (TEx X E r))):PE X e (TEx X E (rUn oBits r)):=by
 refine vO h fun σ H Q ⟨B,δ,R,h⟩=>⟨B,δ,R,?_⟩
 refine qv.imp (qv.bind h) fun x h1 v H1 s1 vr=>?_
 obtain⟨d,k⟩:=x
 have vr:VR X.mg X.K B H H1 σ δ k v d:=vr
 cases d with
 | int i =>
  have e:=vC R vr
  subst e
  refine⟨rfl,i,rfl,rfl,?_⟩
  rw[qfq]
  exact h1 _ H1 s1 (VR.int _)
 | _=>exact h1.elim
end
section
variable {X:Cx}{E:XK}{pos:Pos}
theorem zJ:∀ {ds:List D}{ns:List Int},intsOf ds=some ns->ds=ns.map D.int
 | [],ns,h=>by cases h;rfl
 | .int i::r,ns,h=>by
  have h:(intsOf r).map (i :: ·)=some ns:=h
  cases e:intsOf r with
  | none=>rw[e] at h;cases h
  | some ms=>rw[e] at h;cases h;rw[zJ e];rfl
 | .non::_,_,h=>nomatch h
 | .bl _::_,_,h=>nomatch h
 | .lst _::_,_,h=>nomatch h
 | .tup _::_,_,h=>nomatch h
 | .fn _::_,_,h=>nomatch h
 | .obj _ _ _::_,_,h=>nomatch h
theorem ints_map:∀ ns:List Int,intsOf (ns.map D.int)=some ns
 | []=>rfl
 | n::r=>by
  show (intsOf (r.map D.int)).map (n :: ·)=_
  rw[ints_map r]
  rfl
theorem qbg:∀ ns:List Int,(ns.map D.int).all D.sc=true
 | []=>rfl
 | _::r=>qbg r
theorem Zc (ns:List Int):(ns.map D.int).map toV=ns.map V.int:=by
 rw[List.map_map]
 rfl
theorem uZ:∀ ns ms:List Int,PyData.eqvAll (ns.map PyData.int) (ms.map PyData.int)=decide (ns=ms)
 | [],[]=>rfl
 | [],_::_=>rfl
 | _::_,[]=>rfl
 | a::r,b::q=>by
  show (PyData.eqv (.int a) (.int b)&&PyData.eqvAll (r.map PyData.int) (q.map PyData.int))=_
  rw[uZ r q]
  show ((a==b)&&_)=_
  by_cases h:a=b
  ·subst h;simp
  ·simp [h]
theorem Qb {K:PySem.W.Frag}{H:Hp}:∀ ns:List Int,ZD K H (ns.map V.int) (ns.map PyData.int)
 | []=>.nil
 | n::r=>.cons (.int n) (Qb r)
theorem lay_ints:∀ ns:List Int,PyData.canLayAll0 (ns.map PyData.int)=true
 | []=>rfl
 | n::r=>by
  show (PyData.canLay0 (.int n)&&PyData.canLayAll0 (r.map PyData.int))=true
  rw[lay_ints r]
  rfl
theorem Zy:∀ ns:List Int,PyData.depthAll (ns.map PyData.int) <= 1
 | []=>Nat.zero_le _
 | n::r=>by
  show max (PyData.depth (.int n)) (PyData.depthAll (r.map PyData.int)) <= 1
  have a:=Zy r
  have b:PyData.depth (.int n) <= 1:=by first | exact Nat.le_refl _ | exact Nat.zero_le _
  lia
theorem shaped_ints (ns:List Int):SeqAt.shaped (.list (ns.map PyData.int))=true:=by
 unfold SeqAt.shaped
 have a:PyData.canLay0 (.list (ns.map PyData.int))=true:=lay_ints ns
 have b:PyData.depth (.list (ns.map PyData.int)) <= 64:=by
  show PyData.depthAll (ns.map PyData.int)+1 <= 64
  have:=Zy ns
  lia
 rw[a,decide_eq_true b]
 rfl
theorem VT {mg:Str->Option Value}{K:PySem.W.Frag}{B:Bs}{H H':Hp}{σ:St}{δ:Dl}{k:Kd}{v:V}{ns:List Int} (R:Rl mg K B H σ δ) (h:VR mg K B H H' σ δ k v (.lst (ns.map D.int))):∃ a,v = .ref a/\SqL K H' a (ns.map V.int):=by
 obtain⟨a,vs,rfl,q,g⟩:=VR.items R h
 have e:=g.sc (qbg ns)
 rw[Zc] at e
 subst e
 exact⟨a,rfl,q⟩
theorem uO:yu X (oEq false) (fun x y H Q=>rEq x y H Q\/qgI X.K x y H Q):=by
 rintro B H H' σ δ x y ⟨dx,kx⟩ ⟨dy,ky⟩ Q E R s r1 r2 h
 cases dx with
 | int i =>
  cases dy with
  | int j =>
   left
   rw[vC R r1,vC R r2]
   refine⟨rfl,?_⟩
   rw[VX,Bool.beq_eq_decide_eq]
   exact h _ H' qB.refl (VR.bl _)
  | _=>exact h.elim
 | bl i =>
  cases dy with
  | bl j =>
   left
   rw[qbh R r1,qbh R r2]
   refine⟨rfl,?_⟩
   rw[Y1,Bool.beq_eq_decide_eq]
   exact h _ H' qB.refl (VR.bl _)
  | _=>exact h.elim
 | lst xs =>
  cases dy with
  | lst ys =>
   right
   unfold oEq at h
   dsimp only at h
   cases e1:intsOf xs with
   | none=>rw[e1] at h;exact h.elim
   | some ns =>
    cases e2:intsOf ys with
    | none=>rw[e1,e2] at h;exact h.elim
    | some ms =>
     rw[e1,e2] at h
     have q1:=zJ e1
     have q2:=zJ e2
     subst q1 q2
     obtain⟨a,rfl,s1⟩:=VT R r1
     obtain⟨b,rfl,s2⟩:=VT R r2
     refine⟨_,_,.lst s1 (Qb ns),.lst s2 (Qb ms),shaped_ints ns,shaped_ints ms,?_⟩
     show Q (.bl (PyData.eqvAll _ _)) H'
     rw[uZ]
     exact h _ H' qB.refl (VR.bl _)
  | _=>exact h.elim
 | _=>exact h.elim
theorem qdT:yu X (oEq true) (fun x y H Q=>rNe x y H Q\/qhq X.K x y H Q):=by
 rintro B H H' σ δ x y ⟨dx,kx⟩ ⟨dy,ky⟩ Q E R s r1 r2 h
 cases dx with
 | int i =>
  cases dy with
  | int j =>
   left
   rw[vC R r1,vC R r2]
   refine⟨rfl,?_⟩
   rw[VX,Bool.beq_eq_decide_eq]
   exact h _ H' qB.refl (VR.bl _)
  | _=>exact h.elim
 | bl i =>
  cases dy with
  | bl j =>
   left
   rw[qbh R r1,qbh R r2]
   refine⟨rfl,?_⟩
   rw[Y1,Bool.beq_eq_decide_eq]
   exact h _ H' qB.refl (VR.bl _)
  | _=>exact h.elim
 | lst xs =>
  cases dy with
  | lst ys =>
   right
   unfold oEq at h
   dsimp only at h
   cases e1:intsOf xs with
   | none=>rw[e1] at h;exact h.elim
   | some ns =>
    cases e2:intsOf ys with
    | none=>rw[e1,e2] at h;exact h.elim
    | some ms =>
     rw[e1,e2] at h
     have q1:=zJ e1
     have q2:=zJ e2
     subst q1 q2
     obtain⟨a,rfl,s1⟩:=VT R r1
     obtain⟨b,rfl,s2⟩:=VT R r2
     refine⟨_,_,.lst s1 (Qb ns),.lst s2 (Qb ms),shaped_ints ns,shaped_ints ms,?_⟩
     show Q (.bl (!PyData.eqvAll _ _)) H'
     rw[uZ]
     exact h _ H' qB.refl (VR.bl _)
  | _=>exact h.elim
 | _=>exact h.elim
theorem yP (hu:X.A.units+64<cLine):OpR X (compareOp .Eq) (fun x y H Q=>rEq x y H Q\/qgI X.K x y H Q):=qhZ.or (qhh hu)
theorem JG (hu:X.A.units+64<cLine):OpR X (compareOp .NotEq) (fun x y H Q=>rNe x y H Q\/qhq X.K x y H Q):=qhX.or (qgt hu)
theorem qeu:ZK X Uh (fun xs H Q=>∃ p ys,xs=[.ref p]/\(SqL X.K H p ys\/SqT X.K H p ys)/\∀ l,H l=none->Q (.ref l) (upd H l (.lst ys))):=by
 intro B H H' σ δ vs xs Q E R s vr h
 match xs,vr,h with
 | [(.lst l,k)],vr,h =>
  obtain⟨v,rfl,r⟩:=qdB vr
  obtain⟨a,us,rfl,q,g⟩:=VR.items R r
  exact⟨a,us,rfl,.inl q,fun p hp=>h _ _ (wk hp) (VR.laid (R.more s) qB.refl hp (low_ne _ _) g)⟩
 | [(.tup l,k)],vr,h =>
  obtain⟨v,rfl,r⟩:=qdB vr
  obtain⟨a,us,rfl,q,g⟩:=VR.JY R r
  exact⟨a,us,rfl,.inr q,fun p hp=>h _ _ (wk hp) (VR.laid (R.more s) qB.refl hp (low_ne _ _) g)⟩
 | [],_,h=>exact h.elim
 | [(.int _,_)],_,h=>exact h.elim
 | [(.bl _,_)],_,h=>exact h.elim
 | [(.non,_)],_,h=>exact h.elim
 | [(.fn _,_)],_,h=>exact h.elim
 | [(.obj _ _ _,_)],_,h=>exact h.elim
 | _::_::_,_,h=>revert h;simp only[Uh];exact fun h=>h.elim
theorem qat:bootBuiltins "list"=some (.type "list"):=by decide +kernel
theorem Yt:bootBuiltins "max"=some (.builtin "max"):=by decide +kernel
theorem YJ:bootBuiltins "min"=some (.builtin "min"):=by decide +kernel
theorem qbE:bootBuiltins "abs"=some (.builtin "abs"):=by decide +kernel
theorem zI:bootBuiltins "len"=some (.builtin "len"):=by decide +kernel
end
end L2.Ir
set_option maxHeartbeats 4000000
namespace L2.Ir
open PySem PySem.Spec PyProof.Rows
theorem Yy {h h' B B':Heap}:∀ {l:List Env},h.FunFrames B l->(∀ b∈frs l,∀ o,h.get? b=some o->h'.get? b=some o)->(∀ b∈frs l,B'.get? b=none)->h'.FunFrames B' l
 | [],_,_,_=>trivial
 | env::r,⟨hk,⟨L,o,hf,_,ho,hd⟩,hr⟩,k,hB=>by
  have hL:L∈frs (env::r):=by unfold frs;rw[List.filterMap_cons,hf];exact List.mem_cons_self
  have sub:∀ b∈frs r,b∈frs (env::r):=fun b hb=>by unfold frs;rw[List.filterMap_cons,hf];exact List.mem_cons_of_mem _ hb
  exact⟨hk,⟨L,o,hf,hB L hL,k L hL o ho,hd⟩,Yy hr (fun b hb=>k b (sub b hb)) fun b hb=>hB b (sub b hb)⟩
theorem qhi {h:Heap}{C b:Addr}{o:Obj} (e:(PySem.W.hideAll h [C]).get? b=some o):h.get? b=some o/\b≠C:=by
 refine⟨PySem.W.of_hideAll _ e,fun z=>?_⟩
 have q:(PySem.W.hideAll h [C]).get? b=none:=PySem.W.hideAll_none _ (by rw[z];exact List.mem_singleton_self _)
 rw[q] at e
 cases e
theorem WN {h:Heap}{C b:Addr} (e:h.get? b=none):(PySem.W.hideAll h [C]).get? b=none:=by
 cases q:(PySem.W.hideAll h [C]).get? b with
 | none=>rfl
 | some o =>
  have:=(qhi q).1
  rw[e] at this
  cases this
theorem qcm {B h h':Heap}{l:List Env}{e C:Addr}{cls:Value}{m:Str->Option Value} (x:uz B l e cls h) (hC:h.Ns C m) (hf:C∉frs l) (sb:Heap.SameBut C h h'):uz (PySem.W.hideAll B [C]) l e cls h':=by
 obtain⟨kb,hen,hl,oe,vs,a0,he,hcls,hd,h0,T,oT,ts,f,h1,hnT,hTe,hT,hdT,h3⟩:=x
 obtain⟨oc,es,ep,hoc,hdc,_⟩:=hC
 have ne:∀ {b:Addr}{o:Obj}{ws:Array Value},h.get? b=some o->o.data = .fields ws->b≠C:=fun {b o ws} e1 e2 z=>by
  rw[z,hoc] at e1
  cases e1
  rw[hdc] at e2
  cases e2
 have keep:∀ b o,b≠C->h.get? b=some o->h'.get? b=some o:=fun b o n e1=>(sb.2 b n).trans e1
 refine⟨fun b o e1=>keep b o (qhi e1).2 (kb b o (qhi e1).1),WN hen,Yy hl (fun b hb o e1=>keep b o (fun z=>hf (by rw[<- z];exact hb)) e1) (fun b hb=>WN (hl.mem hb).1),oe,vs,a0,keep _ _ (ne he hd) he,hcls,hd,h0,T,oT,ts,f,h1,WN hnT,hTe,keep _ _ (ne hT hdT) hT,hdT,h3⟩
noncomputable abbrev Vu (X:Cx) (E:XK) (s:Shared) (H:Hp) (scope:Scope) (cenv:Env) (fp:List Addr):Cx:=(X.blk s H scope cenv fp).u0 (Arr (X.blk s H scope cenv fp) E)
section
variable {X:Cx}{E:XK}
theorem qcI {pins:List (Addr × Obj)}{s:Shared}{σ:St}{H:Hp}{Q:VK}{elt tg iter:Expr}{ifs:List Expr}{scope:Scope}{own:List (Str × Nat)}{pos pos':Pos}{wi:TI}{g:TG}{tt:TT}{te:TE}{use:Option (Value->Sem Unit)}{Qf:Value->Shared->Prop}{LF:Addr}
  (hc:X.calm=true) (hN:X.N.Nodup) (acc:Acc X E) (hst:X.stack=X.env::X.outer) (hfr:X.env.frame=some LF) (I:Inv X pins σ H s) (hi:PI X tg iter wi) (ok:qbf X.N X.env.scope scope own)
  (hg:∀ (s:Shared) (H:Hp) (C:Addr) (cl:List (Str × Addr)) (fp:List Addr),PG (Vu X E s H scope (compEnvC scope cl C X.env) fp) tg g) (ht:∀ (s:Shared) (H:Hp) (C:Addr) (cl:List (Str × Addr)) (fp:List Addr),PTs (Vu X E s H scope (compEnvC scope cl C X.env) fp) ifs tt)
  (he:∀ (s:Shared) (H:Hp) (C:Addr) (cl:List (Str × Addr)) (fp:List Addr),PE (Vu X E s H scope (compEnvC scope cl C X.env) fp) elt te) (hs:∀ x,foldedSetIterable iter X.env x=pure x)
  (h:tLc wi g tt te (own.map (·.2)) σ H Q)
  (hRR:∀ D C s' m H',Inv X pins σ H' s'->Q (.ref D) H'->s'.heap.Ns C m->Q8 X pins H' C->compPost (model X.prog X.w) X.A X.xe use Qf (.ref D) C (.ok .next) s') :
  wpAny (model X.prog X.w) X.A (comprehension (.ListComp elt [⟨tg,iter,ifs,0⟩] scope pos) scope X.env pos' (newList []) false (eval iter X.env) use) Qf X.xe s:=by
 have hfree:∀ y∈scope.names,y.2 = .free->∃ c,X.env.cells.lookup y.1=some c:=fun y hy e=>by
  rcases ok.free y hy e with k | k
  ·exact I.ok.has _ (.inl k)
  ·exact I.ok.has _ (.inr k)
 refine wpAny_comprehension_free (use:=use) rfl hs (Zi hfree) ok.kind (fun y hy e=>by rw[ok.uniq y hy,e])
  (thn (hi pins s σ H _ I h) fun xv s1 hx=>thn hx fun itv s2 h2=>?_)
 obtain⟨it,fp,tn,J,H2,e,I2,T,st2,f2,q⟩:=h2
 subst e
 refine wpAny_newObj_type (X6 ?_) (by show 0 <= sizeLine;decide)
 generalize hD:s2.heap.objs.size=D
 have hDn:H2 D=none:=I2.hok.fresh (Nat.le_of_eq hD)
 obtain⟨W,⟨m0,w0⟩,turn⟩:=q D hDn
 generalize hs3:({s2 with heap:=s2.heap.push {cls:=.type "list",data:=.seq ([]:List Value).toArray} }:Shared)=s3
 have I3:Inv X pins σ (upd H2 D (.lst [])) s3:=by
  rw[<- hs3]
  refine I2.laid (t':=s2.toks) (fun b o e=>Heap.get?_push_of_some _ e) (Nat.le_of_eq hD) ⟨Nat.zero_le _,[],0,.nil,?_⟩
  rw[<- hD]
  exact Heap.get?_push_size _ rfl
 have h3:s3.heap=s2.heap.push {cls:=.type "list",data:=.seq ([]:List Value).toArray}:=by rw[<- hs3]
 have sz:∀ b∈fp,b<s2.heap.objs.size:=fun b hb=>by
  obtain⟨o,e,_⟩:=T.obj _ _ st2 b hb
  exact Heap.lt_size e
 have f3:∀ b∈fp,Q8 X pins (upd H2 D (.lst [])) b/\b<s3.heap.objs.size:=fun b hb=>by
  have hlt:=sz b hb
  refine⟨⟨?_,(f2 b hb).2⟩,by rw[h3,Heap.size_push];exact Nat.lt_succ_of_lt hlt⟩
  rw[qD (by rw[<- hD];exact Nat.ne_of_lt hlt)]
  exact (f2 b hb).1
 have st3:tn 0 s3.heap:=T.keep _ _ _ st2 fun b _ o e=>by rw[h3];exact Heap.get?_push_of_some _ e
 have I4:=U1 I3 ok hN f3
 have pg:=hg s3 (upd H2 D (.lst [])) s3.heap.objs.size (cellsFrom (s3.heap.objs.size+1) scope.names (qX X.env.cells scope.names [])) fp
 have pt:=ht s3 (upd H2 D (.lst [])) s3.heap.objs.size (cellsFrom (s3.heap.objs.size+1) scope.names (qX X.env.cells scope.names [])) fp
 have pe:=he s3 (upd H2 D (.lst [])) s3.heap.objs.size (cellsFrom (s3.heap.objs.size+1) scope.names (qX X.env.cells scope.names [])) fp
 show codeAny _ _ (.compStart (.ListComp elt [⟨tg,iter,ifs,0⟩] scope pos) 0 (.ref it) (.ref D) (compEnvC scope (cellsFrom (s3.heap.objs.size+1) scope.names (qX X.env.cells scope.names [])) s3.heap.objs.size X.env)) (compPost (model X.prog X.w) X.A X.xe use Qf (.ref D) s3.heap.objs.size) {s3 with heap:=pushCells (s3.heap.push {cls:=.type "dict",data:=.dict #[]}) scope.names}
 have nfp:∀ b∈fp,(upd H2 D (.lst [])) b=none:=fun b hb=>(f3 b hb).1.1
 generalize hce:compEnvC scope (cellsFrom (s3.heap.objs.size+1) scope.names (qX X.env.cells scope.names [])) s3.heap.objs.size X.env=ce at I4 pg pt pe ⊢
 have cL:ce.locals=s3.heap.objs.size:=by subst hce;rfl
 have cF:ce.frame=some LF:=by subst hce;exact hfr
 generalize hH3:upd H2 D (.lst [])=H3 at I3 I4 pg pt pe w0 nfp f3
 generalize hs4:({s3 with heap:=pushCells (s3.heap.push {cls:=.type "dict",data:=.dict #[]}) scope.names}:Shared)=s4 at I4 ⊢
 have st4:tn 0 s4.heap:=T.keep _ _ _ st3 fun b _ o e=>by rw[<- hs4];exact pushCells_keeps _ _ _ _ (Heap.get?_push_of_some _ e)
 have stat:∀ {σ':St}{H':Hp}{s':Shared},Inv (X.blk s3 H3 scope ce fp) [] σ' H' s'->(∀ b∈fp,H' b=none)->∀ b∈fp,Q8 (X.blk s3 H3 scope ce fp) [] H' b:=fun {σ' H' s'} I' hn b hb =>
  ⟨hn b hb,(I'.ok.exf b hb).1,I'.ok.exfs b hb,.inl hb,fun x c e=>(I'.ok.exf b hb).2 x c e,fun p hp=>absurd (show p∈([]:List (Addr × Obj))++[] from hp) (by simp)⟩
 -- an exception out of the block
 have exc:∀ (e:Value) (s5:Shared),Arr (X.blk s3 H3 scope ce fp) E e s5->notedBy (model X.prog X.w) X.A ce (fun e s'=>compPost (model X.prog X.w) X.A X.xe use Qf (.ref D) s3.heap.objs.size (.error e) s') e s5:=fun e s5 x=>by
  obtain⟨a,cls,Bh,H',pins',σ',rfl,I5,hd,kb,q⟩:=x
  have hfrm:X.A.frames=some (X.env::X.outer):=by rw[<- hst];exact I3.ok.frames
  have hd0:Hand Bh (X.env::X.outer) a cls s5.heap:=by rw[<- hst];exact hd
  refine x5 hfrm hfr cF hd0 fun h1 hd1 up1=>?_
  rw[<- hst] at hd1
  obtain⟨I6,kb1⟩:=zD I5 hd kb hd1.hand up1
  obtain⟨m,hn,_⟩:=I6.loc
  have hn:h1.Ns ce.locals m:=hn
  rw[cL] at hn
  refine⟨m,hn,fun h' sb cenv hcl=>?_⟩
  have nC:H' s3.heap.objs.size=none:=by
   have z:H' ce.locals=none:=I6.free
   rw[cL] at z
   exact z
  have fC:Q8 X pins H' s3.heap.objs.size:=I3.qcp (Nat.le_refl _) nC
  have I7:Inv X pins σ H' {s5 with heap:=h1}:=I3.qdJ (ch:=fp) I6.os I6.base I6.hok I6.bare fun b hb=>⟨(f3 b hb).1.2.2.2.1,(f3 b hb).1.2.1,(f3 b hb).1.2.2.2.2.1,(f3 b hb).1.2.2.2.2.2⟩
  obtain⟨g0,g1,g2,g3,g4,g5⟩:=fC
  have I8:Inv X pins σ H' {s5 with heap:=h'}:=I7.turned (t':=s5.toks) (fun b o hb e=>(sb.2 b hb).trans e) g0 g1 g3 g4 g5
  have cf:s3.heap.objs.size∉frs X.stack:=fun z=>by
   rcases List.mem_cons.mp (I3.xQ _ z) with z | z
   ·exact g1 z
   ·exact g2 z
  have hd2:=qcm hd1 hn cf sb
  have relN:∀ b,Rel X pins H' b->b≠s3.heap.objs.size/\Rel (X.blk s3 H3 scope ce fp) pins' H' b:=fun b r=>by
   have inS3:(¬ H' b≠none)->∃ o,s3.heap.get? b=some o:=fun hn'=>by
    rcases r with r | r
    ·exact absurd r hn'
    ·exact VJ I3 (.inr r)
   by_cases hb:H' b≠none
   ·exact⟨fun z=>hb (by rw[z];exact nC),.inl hb⟩
   ·obtain⟨o,eo⟩:=inS3 hb
    refine⟨Nat.ne_of_lt (Heap.lt_size eo),.inr (.inl ⟨o,eo,fun hfp=>?_⟩)⟩
    obtain⟨k0,k1,k2,k3,k4,k5⟩:=(f3 b hfp).1
    rcases r with r | ⟨o',e',nx⟩ | ⟨y,e'⟩ | e' | ⟨p,hp,e'⟩
    ·exact hb r
    ·rcases k3 with k3 | k3
     ·exact nx k3
     ·exact absurd (Nat.lt_of_lt_of_le (Heap.lt_size e') k3) (Nat.lt_irrefl _)
    ·exact k4 y b e' rfl
    ·exact k1 e'
    ·exact k5 p hp e'
  have kb2:∀ b o,h'.get? b=some o->b∉frs X.stack->Rel X pins H' b->(PySem.W.hideAll Bh [s3.heap.objs.size]).get? b=some o:=fun b o hb hf r=>by
   obtain⟨nb,r2⟩:=relN b r
   have e1:h1.get? b=some o:=(sb.2 b nb).symm.trans hb
   exact PySem.W.hideAll_get _ (kb1 b o e1 hf r2) (by simpa using nb)
  unfold PySem.passOn
  refine wpAny_bind (Qs hd2 fun T=>?_)
  rw[if_neg (show ¬ ((Value.ref T==Value.none)=true) from by simp)]
  refine wpAny_bind (z0 hd2 fun h3' hd3 up3=>wpAny_throw ?_)
  obtain⟨I9,kb3⟩:=zD I8 hd2.hand kb2 hd3.hand up3
  exact acc _ _ ⟨a,cls,_,H',pins,σ,rfl,I9,hd3.hand,kb3,q⟩
 have thnX:∀ {α:Type}{t:Sem α}{P P':α->Shared->Prop}{s':Shared},wpAny (model X.prog X.w) X.A t P (Arr (X.blk s3 H3 scope ce fp) E) s'->(∀ a s,P a s->P' a s)->wpAny (model X.prog X.w) X.A t P' (notedBy (model X.prog X.w) X.A ce (fun e s'=>compPost (model X.prog X.w) X.A X.xe use Qf (.ref D) s3.heap.objs.size (.error e) s')) s' :=
  fun {α t P P' s'} h hP=>wpAny_mono h hP exc
 have loop:codeAny (model X.prog X.w) X.A (.compLoop (.ListComp elt [⟨tg,iter,ifs,0⟩] scope pos) 0 (.ref it) (.ref D) ce) (compPost (model X.prog X.w) X.A X.xe use Qf (.ref D) s3.heap.objs.size) s4:=by
  refine XX (fun n s'=>∃ i H',Inv (X.blk s3 H3 scope ce fp) [] (wipe σ (own.map (·.2))) H' s'/\tn i s'.heap/\(∀ b∈fp,H' b=none)/\W i n H') ?_ m0 ⟨0,H3,I4,st4,nfp,w0⟩
  rintro n s5 ⟨i,H5,I5,st5,n5,w5⟩
  rcases turn i n H5 w5 with ⟨stop,qq⟩ | ⟨go,Nx,hNx,step⟩
  ·have td:=T.done (X.blk s3 H3 scope ce fp) rfl rfl rfl hc i [] s5 _ H5 (fun _ _=>False) I5 (stat I5 n5) st5 stop
   refine qhe td fun r s6 ⟨hr,I6⟩=>?_
   subst hr
   have I7:Inv X pins σ H5 s6:=I3.qdJ (ch:=fp) I6.os I6.base I6.hok I6.bare fun b hb=>⟨(f3 b hb).1.2.2.2.1,(f3 b hb).1.2.1,(f3 b hb).1.2.2.2.2.1,(f3 b hb).1.2.2.2.2.2⟩
   have nC:H5 s3.heap.objs.size=none:=by
    have z:H5 ce.locals=none:=I6.free
    rw[cL] at z
    exact z
   obtain⟨m,hn,_⟩:=I6.loc
   have hn:s6.heap.Ns ce.locals m:=hn
   rw[cL] at hn
   exact hRR D s3.heap.objs.size s6 m H5 I7 qq hn (I3.qcp (Nat.le_refl _) nC)
  ·have ti:=T.item (X.blk s3 H3 scope ce fp) rfl rfl rfl hc i [] s5 _ H5 (fun _ _=>False) I5 (stat I5 n5) st5 go
   refine qhe ti fun r s6 ⟨u,hr,h6⟩=>?_
   subst hr
   refine qhe h6 fun _ s7 ⟨x,H7,I7,r7,y7,st7,n7⟩=>?_
   have I7':=(I7.pinned (stat I7 n7) (T.obj _ _ st7)).u0 (Arr (X.blk s3 H3 scope ce fp) E)
   refine thnX (pg _ s7 _ H7 x u _ I7' r7 (step x H7 y7)) fun _ s8 ⟨σ8,H8,I8,hw8,q8⟩=>?_
   refine thnX (pt _ s8 σ8 H8 _ I8 q8) fun b s9 ⟨H9,I9,q9⟩=>?_
   have fin:∀ {s':Shared}{H':Hp},Inv (X.blk s3 H3 scope ce fp) ([]++Wi fp s7.heap) σ8 H' s'->Nx H'->∃ m,m<n/\∃ i H',Inv (X.blk s3 H3 scope ce fp) [] (wipe σ (own.map (·.2))) H' s'/\tn i s'.heap/\(∀ b∈fp,H' b=none)/\W i m H':=fun {s' H'} I' nx=>by
    obtain⟨m',hm,w'⟩:=hNx H' nx
    have pin':∀ b∈fp,∀ o,s7.heap.get? b=some o->s'.heap.get? b=some o/\H' b=none:=fun b hb o e =>
     let z:=I'.pin (b,o) (List.mem_append_right _ (List.mem_append_right _ (j0 hb e)))
     ⟨z.1,z.2.1⟩
    have hl:(wipe σ (own.map (·.2))).length=σ8.length:=by rw[<- hw8,wB]
    refine⟨m',hm,i+1,H',(I'.Qz (pins:=[])).weak hl (fun j v e=>?_),T.keep _ _ _ st7 fun b hb o e=>(pin' b hb o e).1,fun b hb=>?_,w'⟩
    ·rw[<- hw8] at e
     exact (z5 e).1
    ·obtain⟨o,e,_⟩:=T.obj _ _ st7 b hb
     exact (pin' b hb o e).2
   cases b with
   | false =>
    simp only[Bool.false_eq_true,if_false] at q9 ⊢
    exact fin I9.yO q9
   | true =>
    simp only[if_true] at q9 ⊢
    refine thnX (pe _ s9 σ8 H9 _ I9 q9) fun z s10 ⟨yv,H10,I10,r10,acc,hD10,hz10,nx⟩=>?_
    exact qg3 (X:=X.blk s3 H3 scope ce fp) I10.yO hD10 hz10 r10 fun s11 I11=>fin I11 nx
 exact codeAny_compStart_list loop (T.self X.A 0 _ _ _ st4 loop)
theorem qdK {elt tg iter:Expr}{ifs:List Expr}{scope:Scope}{own:List (Str × Nat)}{pos:Pos}{wi:TI}{g:TG}{tt:TT}{te:TE}{LF:Addr} (hc:X.calm=true) (hN:X.N.Nodup) (acc:Acc X E) (hst:X.stack=X.env::X.outer) (hfr:X.env.frame=some LF) (hi:PI X tg iter wi) (ok:qbf X.N X.env.scope scope own)
  (hg:∀ (s:Shared) (H:Hp) (C:Addr) (cl:List (Str × Addr)) (fp:List Addr),PG (Vu X E s H scope (compEnvC scope cl C X.env) fp) tg g) (ht:∀ (s:Shared) (H:Hp) (C:Addr) (cl:List (Str × Addr)) (fp:List Addr),PTs (Vu X E s H scope (compEnvC scope cl C X.env) fp) ifs tt)
  (he:∀ (s:Shared) (H:Hp) (C:Addr) (cl:List (Str × Addr)) (fp:List Addr),PE (Vu X E s H scope (compEnvC scope cl C X.env) fp) elt te) (hs:autoParam (∀ x,foldedSetIterable iter X.env x=pure x) uQ._auto_1) :
  PE X (.ListComp elt [⟨tg,iter,ifs,0⟩] scope pos) (tLc wi g tt te (own.map (·.2))):=by
 intro pins s σ H Q I h
 rw[eval_ListComp]
 refine qcI hc hN acc hst hfr I hi ok hg ht he hs h fun D C s' m H' I' q hn f=>⟨m,hn,fun h'' sb=>?_⟩
 obtain⟨f0,f1,f2,f3,f4,f5⟩:=f
 exact⟨.ref D,H',I'.turned (t':=s'.toks) (fun b o hb e=>(sb.2 b hb).trans e) f0 f1 f3 f4 f5,rfl,q⟩
end
theorem Yn (δ:Dl):∀ vs:List Nat,(clear δ vs).length=δ.length
 | []=>rfl
 | v::vs=>by show ((clear δ vs).set v .un).length=_;rw[List.length_set,Yn δ vs]
theorem z4 {δ:Dl}{i:Nat}{x:Sl}:∀ {vs:List Nat},(clear δ vs)[i]?=some x->x = .un\/(i∉vs/\δ[i]?=some x)
 | [],h=>.inr ⟨by simp,h⟩
 | v::vs,h=>by
  have h:((clear δ vs).set v .un)[i]?=some x:=h
  by_cases e:v=i
  ·subst e
   by_cases hl:v<(clear δ vs).length
   ·rw[List.getElem?_set_self hl] at h
    exact .inl (Option.some.inj h).symm
   ·rw[List.getElem?_eq_none (by rw[List.length_set];lia)] at h
    cases h
  ·rw[List.getElem?_set_ne e] at h
   rcases z4 h with z | ⟨z1,z2⟩
   ·exact .inl z
   ·exact .inr ⟨by simp [z1,Ne.symm e],z2⟩
section
variable {mg:Str->Option Value}{K:PySem.W.Frag}{B:Bs}{H H1 H' H'':Hp}{σ:St}{δ:Dl}{D0:Addr}{vs:List Nat}
noncomputable def Bd (B:Bs) (σ:St) (δ:Dl) (vs:List Nat) (D0:Addr):Bs:=⟨B.H0,fun p=>p=D0\/(vG B σ δ p/\¬ ∃ (i:Nat) (ds:List D),(clear δ vs)[i]?=some (.own ds)/\(wipe σ vs)[i]?=some (some (.ref p)))⟩
theorem qdD {p:Addr} (h:∃ (i:Nat) (ds:List D),(clear δ vs)[i]?=some (.own ds)/\(wipe σ vs)[i]?=some (some (.ref p))):vG B σ δ p:=by
 obtain⟨i,ds,e1,e2⟩:=h
 rcases z4 e1 with z | ⟨_,z⟩
 ·cases z
 ·exact .inr ⟨i,ds,z,(z5 e2).1⟩
theorem Zp {p:Addr}:vG (Bd B σ δ vs D0) (wipe σ vs) (clear δ vs) p↔p=D0\/vG B σ δ p:=by
 constructor
 ·rintro ((h | h) | h)
  ·exact .inl h
  ·exact .inr h.1
  ·exact .inr (qdD h)
 ·rintro (h | h)
  ·exact .inl (.inl h)
  ·by_cases c:∃ (i:Nat) (ds:List D),(clear δ vs)[i]?=some (.own ds)/\(wipe σ vs)[i]?=some (some (.ref p))
   ·exact .inr c
   ·exact .inl (.inr ⟨h,c⟩)
theorem qir (R:Rl mg K B H σ δ) {p:Addr} (h:B.P p):(Bd B σ δ vs D0).P p:=by
 refine .inr ⟨.inl h,fun⟨i,ds,e1,e2⟩=>?_⟩
 rcases z4 e1 with z | ⟨_,z⟩
 ·cases z
 ·obtain⟨_,q,e3,_,np,_⟩:=R.own i ds z
  have:=(z5 e2).1
  rw[this] at e3
  cases e3
  exact np h
theorem Rl.blk (R:Rl mg K B H σ δ) (hD:H D0=none) (o:HO):Rl mg K (Bd B σ δ vs D0) (upd H D0 o) (wipe σ vs) (clear δ vs):=by
 have s:=wk (o:=o) hD
 have hne:∀ a,H a≠none->a≠D0:=fun a ha z=>ha (by rw[z];exact hD)
 refine⟨R.same.trans s,fun p hp=>?_,by rw[wB,Yn];exact R.len,fun i d k e=>?_,fun i ds e=>?_,fun i j p ds es e1 e2 e3 e4=>?_⟩
 ·rcases hp with rfl | ⟨hp,_⟩
  ·rw[qV];exact fun z=>nomatch z
  ·exact fun z=>R.owned hp (s.free z)
 ·rcases z4 e with z | ⟨nv,z⟩
  ·cases z
  ·obtain⟨v,e1,e2⟩:=R.val i d k z
   refine⟨v,by rw[ja nv];exact e1,?_⟩
   refine Rp.same (Rp.weak (Rp.there _ _ e2) fun a g=>⟨fun z=>?_,g.1.2⟩) s
   rcases Zp.mp z with z | z
   ·exact hne a g.2 z
   ·exact g.1.1 z
 ·rcases z4 e with z | ⟨nv,z⟩
  ·cases z
  ·obtain⟨c,p,e1,e2,np,e3⟩:=R.own i ds z
   have hp:H p≠none:=by rw[e3];exact fun z=>nomatch z
   refine⟨c,p,by rw[ja nv];exact e1,e2,fun q=>?_,s _ _ e3⟩
   rcases q with q | ⟨_,q⟩
   ·exact hne p hp q
   ·exact q ⟨i,ds,e,by rw[ja nv];exact e1⟩
 ·rcases z4 e1 with z | ⟨n1,z1⟩
  ·cases z
  ·rcases z4 e2 with z | ⟨n2,z2⟩
   ·cases z
   ·exact R.apart i j p ds es z1 z2 (z5 e3).1 (z5 e4).1
theorem Rl.made {B':Bs}{σ':St}{δ':Dl} (R:Rl mg K B' H σ' δ') (hP:B'.P D0) (h0:B'.H0 D0=none) (o:HO):Rl mg K B' (upd H D0 o) σ' δ':=by
 refine⟨fun b q e=>?_,fun p hp=>?_,R.len,fun i d k e=>?_,fun i ds e=>?_,R.apart⟩
 ·rw[qD (vz e h0)]
  exact R.same b q e
 ·by_cases c:p=D0
  ·rw[c,qV];exact fun z=>nomatch z
  ·rw[qD c];exact R.pd p hp
 ·obtain⟨v,e1,e2⟩:=R.val i d k e
  exact⟨v,e1,e2.mono fun a g=>⟨g,fun q z=>by rw[qD (fun w=>g.1 (.inl (by rw[w];exact hP)))];exact z⟩⟩
 ·obtain⟨c,p,e1,e2,np,e3⟩:=R.own i ds e
  exact⟨c,p,e1,e2,np,by rw[qD (fun w=>np (by rw[w];exact hP))];exact e3⟩
theorem qah {k l:Kd}{a:Addr} (g:Gk B σ δ k a):Gk B σ δ (k.low l) a:=by
 cases k <;> cases l <;> first | exact g | exact g.1 | exact fun z=>g (.inl z) | exact fun z=>g.1 (.inl z)
inductive VAs (mg:Str->Option Value) (K:PySem.W.Frag) (B:Bs) (σ:St) (δ:Dl) (H:Hp):List V->List DK->Prop
 | nil:VAs mg K B σ δ H [] []
 | snoc {vs:List V}{xs:List DK}{v:V}{x:DK}:VAs mg K B σ δ H vs xs->Rp mg K (Gk B σ δ (x.2.low .nw)) H v x.1->VAs mg K B σ δ H (vs++[v]) (xs++[x])
theorem VAs.to {vs:List V}{xs:List DK} (h:VAs mg K B σ δ H vs xs) (k:∀ a,¬ B.P a->∀ o,H a=some o->H' a=some o):VAs mg K B σ δ H' vs xs:=by
 induction h with
 | nil=>exact .nil
 | snoc _ r ih =>
  refine .snoc ih (r.mono fun a g=>⟨g,k a ?_⟩)
  have g2:=qah (l:=.bo) g
  rename_i x _
  revert g2
  cases x.2 <;> exact fun g=>g
theorem VAs.len {vs:List V}{xs:List DK} (h:VAs mg K B σ δ H vs xs):vs.length=xs.length:=by
 induction h with
 | nil=>rfl
 | snoc _ _ ih=>rw[List.length_append,List.length_append,ih];rfl
theorem VAs.sc {vs:List V}{xs:List DK} (h:VAs mg K B σ δ H vs xs) (c:(xs.map (·.1)).all D.sc=true):vs=(xs.map (·.1)).map toV:=by
 induction h with
 | nil=>rfl
 | snoc _ r ih =>
  rw[List.map_append,List.all_append,Bool.and_eq_true] at c
  rw[ih c.1,List.map_append,List.map_append]
  have c2:=c.2
  simp at c2
  rw[r.sc c2]
  rfl
theorem Vi:∀ (xs:List DK) (x:DK),vj (xs++[x])=if x.1.sc=true then vj xs else (vj xs).low x.2
 | [],x=>by
  show vj [x]=_
  unfold vj
  split
  ·rfl
  ·show x.2.low .nw=Kd.low .nw x.2
   exact WY _ _
 | y::r,x=>by
  show vj (y::(r++[x]))=_
  unfold vj
  rw[Vi r x]
  split <;> split <;> first | rfl | (rw[jK])
theorem VAs.kinds {vs:List V}{xs:List DK} (h:VAs mg K B σ δ H vs xs):qz mg K (Gk B σ δ (vj xs)) H vs (xs.map (·.1)):=by
 induction h with
 | nil=>exact .nil
 | @snoc vs xs v x _ r ih =>
  rw[List.map_append,Vi]
  cases c:x.1.sc with
  | true =>
   rw[if_pos rfl]
   refine ih.append (.cons ?_ .nil)
   rw[r.sc c]
   exact Rp.zt c
  | false =>
   rw[if_neg (by decide)]
   refine (ih.weak fun a g=>qah g).append (.cons (r.weak fun a g=>?_) .nil)
   rw[WY]
   have e:(x.2.low .nw).low (vj xs)=x.2.low (vj xs):=by
    have n:=xc xs
    cases x.2 <;> cases h:vj xs <;> first | rfl | exact absurd h n
   rw[<- e]
   exact qah g
end
inductive FAs (H:Hp) (D0:Addr) (H':Hp):List V->List DK->Prop
 | nil:FAs H D0 H' [] []
 | snoc {vs:List V}{xs:List DK}{q:Addr}{ds:List D}:FAs H D0 H' vs xs->q≠D0->H q=none->V.ref q∉vs->ds.all D.sc=true->H' q=some (.lst (ds.map toV))->FAs H D0 H' (vs++[.ref q]) (xs++[(.lst ds,.fr)])
structure FA (H:Hp) (D0:Addr) (H':Hp) (vs:List V) (ys:List DK):Prop where
 len:vs.length=ys.length
 all:(∀ y∈ys,y.2 = .fr)->FAs H D0 H' vs ys
theorem FA.nil {H:Hp}{D0:Addr}{H':Hp}:FA H D0 H' [] []:=⟨rfl,fun _=>.nil⟩
theorem FAs.to {H:Hp}{D0:Addr}{H1 H2:Hp}{vs:List V}{ys:List DK} (h:FAs H D0 H1 vs ys) (k:∀ a,a≠D0->∀ o,H1 a=some o->H2 a=some o):FAs H D0 H2 vs ys:=by
 induction h with
 | nil=>exact .nil
 | snoc _ a b c d e ih=>exact .snoc ih a b c d (k _ a _ e)
theorem FA.to {H:Hp}{D0:Addr}{H1 H2:Hp}{vs:List V}{ys:List DK} (h:FA H D0 H1 vs ys) (k:∀ a,a≠D0->∀ o,H1 a=some o->H2 a=some o):FA H D0 H2 vs ys:=⟨h.len,fun z=>(h.all z).to k⟩
theorem FAs.at_ {H:Hp}{D0:Addr}{H1:Hp}{vs:List V}{ys:List DK} (h:FAs H D0 H1 vs ys) {p:Addr}:V.ref p∈vs->H1 p≠none:=by
 induction h with
 | nil=>intro z;cases z
 | snoc _ a b c d e ih =>
  intro z
  rcases List.mem_append.mp z with z | z
  ·exact ih z
  ·cases List.mem_singleton.mp z
   rw[e]
   exact fun z=>nomatch z
theorem FA.snoc {mg:Str->Option Value}{K:PySem.W.Frag}{B:Bs}{σ:St}{δ:Dl}{H:Hp}{D0:Addr}{H1 H2:Hp}{vs acc:List V}{ys:List DK}{y:DK}{w:V} (h:FA H D0 H1 vs ys) (s:qB H H1) (hD:H1 D0=some (.lst acc)) (s2:qB H1 H2) (vw:VR mg K B H1 H2 σ δ y.2 w y.1):FA H D0 H2 (vs++[w]) (ys++[y]):=by
 refine⟨by rw[List.length_append,List.length_append,h.len];rfl,fun z=>?_⟩
 have hy:=z y (List.mem_append_right _ (List.mem_singleton_self _))
 have h0:=h.all fun x hx=>z x (List.mem_append_left _ hx)
 obtain⟨d,k⟩:=y
 cases hy
 obtain⟨p,ds,rfl,e,c,n1,n2⟩:=vw
 have e:d = .lst ds:=e
 subst e
 exact .snoc (h0.to fun a _ o e=>s2 a o e) (fun q=>by rw[q,hD] at n1;cases n1) (s.free n1) (fun q=>h0.at_ q n1) c n2
section
variable {X:Cx}{E:XK}{pos:Pos}
theorem WT {σ σ':St}{i:Nat}{v:V}{vs:List Nat} (hi:i∈vs):wipe (σ.set i (some v)) vs=wipe σ vs:=by
 have gen:∀ (vs:List Nat) (x:Option V),wipe (σ.set i x) vs=(if i∈vs then wipe σ vs else (wipe σ vs).set i x):=by
  intro vs
  induction vs with
  | nil=>intro x;rfl
  | cons w r ih =>
   intro x
   show (wipe (σ.set i x) r).set w none=_
   rw[ih x]
   by_cases h1:i∈r
   ·rw[if_pos h1,if_pos (List.mem_cons_of_mem _ h1)]
    rfl
   ·rw[if_neg h1]
    by_cases h2:i=w
    ·subst h2
     rw[if_pos List.mem_cons_self,List.set_set]
     rfl
    ·rw[if_neg (by simp [h2,h1]),List.set_comm _ _ h2]
     rfl
 rw[gen vs (some v),if_pos hi]
theorem qcu {tg:Tg}{σ σ2:St}{vs:List Nat} (h:tg.sets σ σ2) (hv:tg.within vs):wipe σ2 vs=wipe σ vs:=by
 cases tg with
 | one i=>obtain⟨v,rfl⟩:=h;exact WT (σ':=σ) hv
 | two i j =>
  obtain⟨v,w,rfl⟩:=h
  rw[WT (σ':=σ) hv.2,WT (σ':=σ) hv.1]
theorem qcs (σ:St) (vs:List Nat):wipe (wipe σ vs) vs=wipe σ vs:=by
 refine List.ext_getElem? fun i=>?_
 by_cases h:i∈vs
 ·by_cases hl:i<σ.length
  ·have a:∀ τ:St,τ.length=σ.length->(wipe τ vs)[i]?=some none:=fun τ hτ=>by
    have l:i<(wipe τ vs).length:=by rw[wB,hτ];exact hl
    cases e:(wipe τ vs)[i] with
    | none=>rw[List.getElem?_eq_getElem l,e]
    | some x =>
     have:=(z5 (show (wipe τ vs)[i]?=some (some x) by rw[List.getElem?_eq_getElem l,e])).2
     exact absurd h this
   rw[a _ (wB σ vs),a _ rfl]
  ·rw[List.getElem?_eq_none (by rw[wB,wB];lia),List.getElem?_eq_none (by rw[wB];lia)]
 ·rw[ja h]
theorem Qx {i j:Nat}{x:DK}{δ δ':Dl} (h:put i x δ=some δ') (n:i≠j):δ'[j]?=δ[j]?:=by
 obtain⟨d,k⟩:=x
 have fin:∀ s:Sl,δ'=δ.set i s->δ'[j]?=δ[j]?:=fun s e=>by rw[e,List.getElem?_set_ne n]
 cases k with
 | bo =>
  have h2:(if d.sc=true then some (δ.set i (.val d true)) else none)=some δ':=h
  by_cases c:d.sc=true
  ·rw[if_pos c] at h2;exact fin _ (Option.some.inj h2).symm
  ·rw[if_neg c] at h2;cases h2
 | sh=>exact fin _ (Option.some.inj (show some (δ.set i (uo (d,if d.sc=true then .nw else .sh)))=some δ' from h)).symm
 | nw=>exact fin _ (Option.some.inj (show some (δ.set i (uo (d,if d.sc=true then .nw else .nw)))=some δ' from h)).symm
 | fr=>exact fin _ (Option.some.inj (show some (δ.set i (uo (d,if d.sc=true then .nw else .fr)))=some δ' from h)).symm
theorem Tg.Qx {tg:Tg}{j:Nat}{x:DK}{δ δ':Dl}{vs:List Nat} (h:tg.put x δ=some δ') (hv:tg.within vs) (n:j∉vs):δ'[j]?=δ[j]?:=by
 cases tg with
 | one i=>exact Ir.Qx (show Ir.put i x δ=some δ' from h) fun z=>n (by rw[<- z];exact hv)
 | two i k =>
  obtain⟨d,kd⟩:=x
  have go:∀ a b,d = .tup [a,b]->δ'[j]?=δ[j]?:=fun a b e=>by
   subst e
   have h:(Ir.put i (a,kd) δ).bind (Ir.put k (b,kd))=some δ':=h
   cases h1:Ir.put i (a,kd) δ with
   | none=>rw[h1] at h;cases h
   | some δ1 =>
    rw[h1] at h
    rw[Ir.Qx (show Ir.put k (b,kd) δ1=some δ' from h) fun z=>n (by rw[<- z];exact hv.2),Ir.Qx h1 fun z=>n (by rw[<- z];exact hv.1)]
  cases d with
  | tup l =>
   match l,go,h with
   | [a,b],go,_=>exact go a b rfl
   | [],_,h=>cases h
   | [_],_,h=>cases h
   | _::_::_::_,_,h=>cases h
  | _=>cases h
theorem qc5 {tg:Tg}{j:Nat}{σ σ':St}{vs:List Nat} (h:tg.sets σ σ') (hv:tg.within vs) (n:j∉vs):σ'[j]?=σ[j]?:=by
 cases tg with
 | one i=>obtain⟨v,rfl⟩:=h;rw[List.getElem?_set_ne fun z=>n (by rw[<- z];exact hv)]
 | two i k =>
  obtain⟨v,w,rfl⟩:=h
  rw[List.getElem?_set_ne fun z=>n (by rw[<- z];exact hv.2),List.getElem?_set_ne fun z=>n (by rw[<- z];exact hv.1)]
theorem qfN {tg:Tg}{x:DK}{B':Bs}{σ σ3:St}{δ δ2:Dl}{vs:List Nat}{a:Addr} (hp:tg.put x (clear δ vs)=some δ2) (st:tg.sets (wipe σ vs) σ3) (hv:tg.within vs) (h:vG B' (wipe σ vs) (clear δ vs) a):vG B' σ3 δ2 a:=by
 rcases h with h | ⟨j,ds,e1,e2⟩
 ·exact .inl h
 ·rcases z4 e1 with z | ⟨n,_⟩
  ·cases z
  ·exact .inr ⟨j,ds,by rw[Tg.Qx hp hv n];exact e1,by rw[qc5 st hv n];exact e2⟩
theorem UC {g:TG}{tg:Tg}{src:RI}{t:RT}{r:RE}{vs:List Nat}{σ:St}{H:Hp}{Q:VK} (hv:tg.within vs)
  (h:∃ B δ,Rl X.mg X.K B H σ δ/\qv X.mg E H (src δ) fun x=>x.2.length<LIM/\qv X.mg E H (items tg t r (clear δ vs) x.2) fun ys=>∀ D0 acc H',H D0=none->qB H H'->H' D0=some (.lst acc)->(VAs X.mg X.K (Bd B σ δ vs D0) (wipe σ vs) (clear δ vs) H' acc ys/\FA H D0 H' acc ys)->Q (.ref D0) H') :
  tLc (tI X E g tg src) g (TTx X E t) (TEx X E r) vs σ H Q:=by
 obtain⟨B,δ,R,h⟩:=h
 refine⟨B,δ,R,?_⟩
 refine qv.imp h fun x h1 J H1 s1 W D0 hD=>?_
 obtain⟨fl,xs⟩:=x
 have R1:=R.more s1
 have h0:B.H0 D0=none:=R1.same.free hD
 have hDH:H D0=none:=s1.free hD
 have hP:(Bd B σ δ vs D0).P D0:=.inl rfl
 obtain⟨c,h1⟩:=h1
 dsimp only at c h1
 refine⟨fun i m H'=>m=xs.length-i/\i <= xs.length/\Rl X.mg X.K (Bd B σ δ vs D0) H' (wipe σ vs) (clear δ vs)/\qB H1 H'/\∃ acc ys,H' D0=some (.lst acc)/\(VAs X.mg X.K (Bd B σ δ vs D0) (wipe σ vs) (clear δ vs) H' acc ys/\FA H D0 H' acc ys)/\ys.length <= i /\
  qv X.mg E H1 (items tg t r (clear δ vs) (xs.drop i)) fun zs=>∀ D0 acc H',H D0=none->qB H H'->H' D0=some (.lst acc)->(VAs X.mg X.K (Bd B σ δ vs D0) (wipe σ vs) (clear δ vs) H' acc (ys++zs)/\FA H D0 H' acc (ys++zs))->Q (.ref D0) H',⟨xs.length,by lia,Nat.zero_le _,R1.blk hD _,wk hD,[],[],qV,⟨.nil,FA.nil⟩,Nat.le_refl _,qv.more h1 s1⟩,?_⟩
 rintro i m H2 ⟨rfl,hi,R2,s2,acc,ys,hacc,va,hys,h2⟩
 have kp:Kp fl B (Bd B σ δ vs D0) σ δ H1 (wipe σ vs) (clear δ vs) H2:=by
  refine⟨rfl,fun b o e n=>⟨s2 b o e,fun z=>?_⟩,fun _=>s2⟩
  rcases Zp.mp z with z | z
  ·rw[z,hD] at e
   cases e
  ·exact n z
 by_cases hlt:i<xs.length
 ·right
  have hx:xs[i]?=some xs[i]:=List.getElem?_eq_getElem hlt
  rw[List.drop_eq_getElem_cons hlt] at h2
  unfold items at h2
  cases hp:tg.put xs[i] (clear δ vs) with
  | none=>rw[hp] at h2;exact h2.elim
  | some δ2 =>
   rw[hp] at h2
   obtain⟨go,yl⟩:=W.1 (Bd B σ δ vs D0) i xs[i] (wipe σ vs) (clear δ vs) δ2 H2 hx R2 kp hp
   refine⟨go,fun H'=>i+1 <= xs.length/\Rl X.mg X.K (Bd B σ δ vs D0) H' (wipe σ vs) (clear δ vs)/\qB H1 H'/\∃ acc ys,H' D0=some (.lst acc)/\(VAs X.mg X.K (Bd B σ δ vs D0) (wipe σ vs) (clear δ vs) H' acc ys/\FA H D0 H' acc ys)/\ys.length <= i+1 /\
    qv X.mg E H1 (items tg t r (clear δ vs) (xs.drop (i+1))) fun zs=>∀ D0 acc H',H D0=none->qB H H'->H' D0=some (.lst acc)->(VAs X.mg X.K (Bd B σ δ vs D0) (wipe σ vs) (clear δ vs) H' acc (ys++zs)/\FA H D0 H' acc (ys++zs))->Q (.ref D0) H',fun H' q=>⟨xs.length-(i+1),by lia,rfl,q.1,q.2⟩,fun v H3 hy=>?_⟩
   refine yl v H3 hy _ fun σ3 H4 R4 f4 s4 st4=>⟨by rw[qcu st4 hv,qcs],?_⟩
   refine⟨Bd B σ δ vs D0,δ2,R4,?_⟩
   have h2:=qv.bind h2
   refine qv.imp (qv.more h2 (s2.trans s4)) fun b h3 H5 s5=>?_
   have s45:=s4.trans s5
   have R5:Rl X.mg X.K (Bd B σ δ vs D0) H5 (wipe σ vs) (clear δ vs):=R2.more s45
   cases b with
   | false =>
    simp only[Bool.false_eq_true,if_false] at h3 ⊢
    exact⟨hlt,R5,s2.trans s45,acc,ys,s45 _ _ hacc,⟨va.1.to fun a _ o e=>s45 a o e,va.2.to fun a _ o e=>s45 a o e⟩,by lia,h3⟩
   | true =>
    simp only[if_true] at h3 ⊢
    refine⟨Bd B σ δ vs D0,δ2,R4.more s5,?_⟩
    have h3:=qv.bind h3
    refine qv.imp (qv.more h3 (s2.trans s45)) fun y h4 w H6 s6 vw=>?_
    have s46:=s45.trans s6
    have hD6:H6 D0=some (.lst acc):=s46 _ _ hacc
    have hl:=va.1.len
    refine⟨acc,hD6,by have e:LIM=16777216:=rfl;have e2:(sizeLine:Nat)=16777216:=rfl;lia,?_⟩
    have R45:=R4.more s5
    have rw1:Rp X.mg X.K (Gk (Bd B σ δ vs D0) (wipe σ vs) (clear δ vs) (y.2.low .nw)) H6 w y.1:=by
     have q:=VR.low R45 .nw vw
     rw[VR.gk (low_ne _ _)] at q
     refine q.weak fun a g=>?_
     have nb:¬ vG (Bd B σ δ vs D0) σ3 δ2 a->¬ vG (Bd B σ δ vs D0) (wipe σ vs) (clear δ vs) a:=fun n z=>n (qfN hp st4 hv z)
     revert g
     cases y.2.low .nw with
     | bo=>exact fun g=>g
     | sh=>exact nb
     | nw=>exact fun g=>⟨nb g.1,g.2⟩
     | fr=>exact fun g=>⟨nb g.1,g.2⟩
    have keepD:∀ a,¬ (Bd B σ δ vs D0).P a->∀ o,H6 a=some o->upd H6 D0 (.lst (acc++[w])) a=some o:=fun a n o e=>by
     rw[qD fun z=>n (by rw[z];exact hP)]
     exact e
    have va6:VAs X.mg X.K (Bd B σ δ vs D0) (wipe σ vs) (clear δ vs) (upd H6 D0 (.lst (acc++[w]))) (acc++[w]) (ys++[y]):=(VAs.snoc (va.1.to fun a _ o e=>s46 a o e) rw1).to keepD
    have fa6:FA H D0 (upd H6 D0 (.lst (acc++[w]))) (acc++[w]) (ys++[y]):=(FA.snoc (va.2.to fun a _ o e=>s45 a o e) (s1.trans (s2.trans s45)) (s45 _ _ hacc) s6 vw).to fun a n o e=>by
     rw[qD n]
     exact e
    have s16:qB H1 (upd H6 D0 (.lst (acc++[w]))):=fun b o e=>by
     rw[qD (vz e hD)]
     exact s46 _ _ (s2 _ _ e)
    refine⟨hlt,((R2.more s46).made hP h0 _),s16,acc++[w],ys++[y],qV,⟨va6,fa6⟩,by rw[List.length_append];exact Nat.add_le_add_right hys 1,?_⟩
    have h5:=qv.bind h4
    cases hi2:items tg t r (clear δ vs) (xs.drop (i+1)) with
    | er c2 =>
     rw[hi2] at h5
     exact h5
    | no=>rw[hi2] at h5;exact h5
    | ok zs =>
     rw[hi2] at h5
     have h6:=h5
     intro D1 acc1 H7 q1 q2 q3 q4
     rw[List.append_assoc] at q4
     exact h6 D1 acc1 H7 q1 q2 q3 q4
 ·left
  have e:i=xs.length:=by lia
  subst e
  rw[List.drop_length] at h2
  refine⟨W.2 (Bd B σ δ vs D0) _ _ _ H2 (Nat.le_refl _) R2 kp,?_⟩
  have h3:=h2 D0 acc H2 hDH (s1.trans s2) hacc
  rw[List.append_nil] at h3
  exact h3 va
theorem qeV {g:TG}{tg:Tg}{src:RI}{t:RT}{r:RE}{vs:List Nat}{σ:St}{H:Hp}{Q:VK} (hv:tg.within vs) (h:TEx X E (uM tg src t r vs) σ H Q) :
  tLc (tI X E g tg src) g (TTx X E t) (TEx X E r) vs σ H Q:=by
 obtain⟨B,δ,R,h⟩:=h
 refine UC hv ⟨B,δ,R,qv.imp (qv.bind h) fun x h1=>?_⟩
 by_cases c:x.2.length<LIM
 ·rw[if_pos c] at h1
  refine⟨c,qv.imp (qv.bind h1) fun ys h3 D0 acc H2 hDH s hacc va=>?_⟩
  have h3:Fin X.mg X.K E B H σ δ (.ok (.lst (ys.map (·.1)),kL (ys.map (·.1)) (vj ys))) Q:=h3
  refine h3 (.ref D0) H2 s ?_
  show VR _ _ _ _ _ _ _ (kL _ _) _ _
  unfold kL
  split
  ·rename_i cs
   exact⟨D0,_,rfl,rfl,cs,hDH,by rw[hacc,va.1.sc cs]⟩
  ·rw[VR.gk (xc ys)]
   have n1:=R.fresh hDH
   have n2:=R.same.free hDH
   refine .lst ?_ (.of hacc) (va.1.kinds.weak fun a g=>?_)
   ·have n3:=xc ys
    cases hk:vj ys with
    | bo=>exact fun z=>n1 (.inl z)
    | sh=>exact n1
    | nw=>exact⟨n1,n2⟩
    | fr=>exact absurd hk n3
   ·have nb:¬ vG (Bd B σ δ vs D0) (wipe σ vs) (clear δ vs) a->¬ vG B σ δ a:=fun n z=>n (Zp.mpr (.inr z))
    revert g
    cases vj ys with
    | bo=>exact fun g z=>g (qir R z)
    | sh=>exact nb
    | nw=>exact fun g=>⟨nb g.1,g.2⟩
    | fr=>exact fun g=>⟨nb g.1,g.2⟩
 ·rw[if_neg c] at h1
  exact h1.elim
theorem xu:PTs X [] (TTx X E xx):=fun pins s σ H Q I ⟨B,δ,R,h⟩=>qe0 pins s σ H Q I (h H qB.refl)
theorem QA {elt tgE iter:Expr}{ifs:List Expr}{scope:Scope}{own:List (Str × Nat)}{g:TG}{tg:Tg}{src:RI}{t:RT}{r:RE}{LF:Addr} (hc:X.calm=true) (hN:X.N.Nodup) (acc:Acc X E) (hst:X.stack=X.env::X.outer) (hfr:X.env.frame=some LF)
  (hi:PI X tgE iter (tI X E g tg src)) (ok:Wq X.N X.env.scope scope own=true) (hv:tg.within (own.map (·.2)))
  (hg:∀ (s:Shared) (H:Hp) (C:Addr) (cl:List (Str × Addr)) (fp:List Addr),PG (Vu X E s H scope (compEnvC scope cl C X.env) fp) tgE g)
  (ht:∀ (s:Shared) (H:Hp) (C:Addr) (cl:List (Str × Addr)) (fp:List Addr),PTs (Vu X E s H scope (compEnvC scope cl C X.env) fp) ifs (TTx X E t))
  (he:∀ (s:Shared) (H:Hp) (C:Addr) (cl:List (Str × Addr)) (fp:List Addr),PE (Vu X E s H scope (compEnvC scope cl C X.env) fp) elt (TEx X E r)) (hs:autoParam (∀ x,foldedSetIterable iter X.env x=pure x) uQ._auto_1) :
  PE X (.ListComp elt [⟨tgE,iter,ifs,0⟩] scope pos) (TEx X E (uM tg src t r (own.map (·.2)))) :=
 vO (qdK hc hN acc hst hfr hi (X0 ok) hg ht he hs) fun _ _ _ h=>qeV hv h
end
noncomputable abbrev j6 (P:Program) (w:World) (K:PySem.W.Frag) (mg:Str->Option Value) (base:Heap) (N:List Str) (qual:Str) (scope:Scope) (f:Addr) (cd:Value) (A:Around) (outer:List Env) (s:Shared) (H:Hp) (E:XK):Cx :=
 (uP (CX1 P w) P w K mg base N qual scope f cd A outer s H E).u0 (Arr (uP (CX1 P w) P w K mg base N qual scope f cd A outer s H E) E)
theorem VW {P:Program}{w:World}{K:PySem.W.Frag}{mg:Str->Option Value}{base:Heap}{N:List Str}{qual:Str}{scope:Scope}{f:Addr}{cd:Value}{A:Around}{outer:List Env}{s:Shared}{H:Hp}{E:XK} (nd:N.Nodup):Gd (j6 P w K mg base N qual scope f cd A outer s H E) E :=
 ⟨rfl,nd,Qp,Ju (X:=uP (CX1 P w) P w K mg base N qual scope f cd A outer s H E) rfl rfl⟩
noncomputable def sl0 (N:List Str) (ds:List D):Dl:=ds.map (fun d=>Sl.val d false)++List.replicate (N.length-ds.length) .un
noncomputable def res:Out->Rs (D × Bool)
 | .rt d k=>.ok (d,k)
 | .nx _=>.ok (.non,false)
 | .er c=>.er c
 | _=>.no
theorem rl0 {mg:Str->Option Value}{K:PySem.W.Frag}{H:Hp}{N:List Str}{vs:List V}{ds:List D} (r:qz mg K (fun _=>True) H vs ds):Rl mg K ⟨H,fun _=>False⟩ H (start N vs) (sl0 N ds):=by
 have get:∀ {i:Nat}{s:Sl},(sl0 N ds)[i]?=some s->(∃ d,ds[i]?=some d/\s = .val d false)\/s = .un:=fun {i s} e=>by
  unfold sl0 at e
  by_cases h:i<ds.length
  ·rw[List.getElem?_append_left (by rw[List.length_map];exact h),List.getElem?_map,List.getElem?_eq_getElem h] at e
   exact .inl ⟨ds[i],List.getElem?_eq_getElem h,(Option.some.inj e).symm⟩
  ·rw[List.getElem?_append_right (by rw[List.length_map];lia)] at e
   right
   have:=List.mem_of_getElem? e
   exact (List.mem_replicate.mp this).2
 have own:∀ {p:Addr},¬ vG ⟨H,fun _=>False⟩ (start N vs) (sl0 N ds) p:=fun {p} h=>by
  rcases h with h | ⟨i,es,e,_⟩
  ·exact h
  ·rcases get e with ⟨d,_,z⟩ | z <;> cases z
 refine⟨qB.refl,fun _ h=>h.elim,?_,fun i d k e=>?_,fun i es e=>?_,fun i j p es fs e _ _ _=>?_⟩
 ·unfold start sl0
  rw[List.length_append,List.length_append,List.length_map,List.length_map,List.length_replicate,List.length_replicate,r.len]
 ·rcases get e with ⟨d',hd,z⟩ | z
  ·cases z
   obtain⟨v,hv,rp⟩:=r.getD hd
   refine⟨v,?_,rp.weak fun a _=>⟨own,fun z=>nomatch z⟩⟩
   have hl:i<vs.length:=(List.getElem?_eq_some_iff.mp hv).1
   unfold start
   rw[List.getElem?_append_left (by rw[List.length_map];exact hl),List.getElem?_map,hv]
   rfl
  ·cases z
 ·rcases get e with ⟨d,_,z⟩ | z <;> cases z
 ·rcases get e with ⟨d,_,z⟩ | z <;> cases z
section
variable {P:Program}{w:World}{K:PySem.W.Frag}{mg:Str->Option Value}{base:Heap}
theorem ZF {X:Cx}{E:XK}{st:List Stmt}{t:TS} (h:PSs (X.u0 (Arr X E)) st t) (acc:Acc X E):PSs X st t:=fun pins s σ H D I hw =>
 wpAny_mono (h pins s σ H D (I.u0 _) hw) (fun _ _ q=>q.yO) fun e s' a=>acc e s' a
theorem qhJ {x:Str}{st:Stmt}{f:Addr}{fd:FuncData}{N ps:List Str}{k n:Nat}{g:Fn}{r:RS} (F:Fun K x x st f fd) (S:qp N ps (qg st)) (hm:mg x=some (.ref f)) (hb:Binds K fd ps []) (hn:ps.length=n)
  (body:∀ (cdv:Value) (A:Around) (outer:List Env) (s:Shared) (H:Hp) (E:XK),zi k (A.deeper (envOfC x (qg st) s.heap.objs.size f cdv)) ->
   PSs (j6 P w K mg base N x (qg st) f cdv A outer s H E) (vT st) (tS mg K E r))
  (hr:∀ ds:List D,ds.length=n->g ds = .no\/res (r (sl0 N ds))=g ds):Fd P w K mg base (k+1) x n g:=by
 obtain⟨oc,od,kV,doc,pm,an,cdv,ct,osl,rfl,lk,hcd⟩:=F.ex
 refine⟨f,_,ps,qa7 lk hcd S ?_ fun A outer s H vs Q E hroom hsp=>?_,hm,F.kp,hb⟩
 ·rintro vs H Q E ⟨ds,hl,rp,_⟩
  rw[rp.len,hl,hn]
 ·obtain⟨ds,hl,rp,h⟩:=hsp
  refine⟨_,ZF (body cdv A outer s H E hroom) XF,⟨H,fun _=>False⟩,sl0 N ds,rl0 rp,?_⟩
  rcases hr ds hl with e | e
  ·rw[e] at h
   exact h.elim
  ·rw[<- e] at h
   cases ho:r (sl0 N ds) with
   | rt d k=>rw[ho] at h;exact fun v H' s rr=>h v H' s rr
   | nx δ'=>rw[ho] at h;exact fun σ' H' R _=>h .non H' R.same Rp.non
   | er c=>rw[ho] at h;exact fun C H' e s=>h C H' e s
   | bk δ'=>rw[ho] at h;exact h.elim
   | ct δ'=>rw[ho] at h;exact h.elim
   | no=>rw[ho] at h;exact h.elim
end
end L2.Ir
namespace L2.Ir
open PySem PySem.Spec PyProof.Rows
open PySem.W (WData Codec OpenSpec Well WellAll ReadsW ReadsAllW)
noncomputable def qbi (l:List (Str × Int)) (o:Rs (D × Bool)):Option (List D):=match o with
 | .ok (.lst zs,true)=>some (.int 0::zs)
 | .er c=>(l.lookup c).map fun k=>[.int (-k)]
 | _=>none
noncomputable def qd6 (mg:Str->Option Value) (K:PySem.W.Frag) (n:Nat) (g:Fn) (l:List (Str × Int)) (P:Addr):Sp:=fun vs H Q _=>∃ ds zs,ds.length=n/\H P=some (.tbl #[])/\qz mg K (fun _=>True) H vs ds/\qbi l (g ds)=some zs/\zs.length <= LIM /\
 ∀ H' p,H' p=some (.lst (zs.map toV))->Q (.ref p) H'
structure qab (mg:Str->Option Value) (K:PySem.W.Frag) (l:List (Str × Int)) (la:List (Addr × Int)):Prop where
 at_:∀ c C k,mg c=some (.ref C)->l.lookup c=some k->qY K C=true/\la.lookup C=some k
theorem qeL {α β:Type} (f:α->β) (xs:List α):(xs.map f).length=xs.length:=List.length_map f
theorem qg6 {mg:Str->Option Value}{K:PySem.W.Frag}{g:Fn}{r:RA}{l:List (Str × Int)}{la:List (Addr × Int)}{P:Addr}{n:Nat}{N:List Str}{vs:List V}{H:Hp}{Q:VK}{ds zs:List D} (Er:qab mg K l la) (hP:H P=some (.tbl #[])) (rp:qz mg K (fun _=>True) H vs ds)
  (ha:qbi l (g ds)=some zs) (hz:zs.length <= LIM) (hQ:∀ H' p,H' p=some (.lst (zs.map toV))->Q (.ref p) H') (hargs:∃ ks,r (sl0 N ds) = .ok ks/\ks.map (·.1)=ds) :
  qgf K la P (fun E=>tE mg K E (qe g r)) (start N vs) H Q:=by
 refine⟨hP,fun more f=>?_⟩
 have rp':qz mg K (fun _=>True) (upd H P (.tbl more)) vs ds:=by
  refine qz.mono (G:=fun a=>H a≠some (.tbl #[])) (fun a g=>⟨trivial,fun o e=>by rw[qD (fun z=>g (by rw[z];exact hP))];exact e⟩) _ _ ?_
  have gen:(∀ (d:D) (v:V),Rp mg K (fun _=>True) H v d->Rp mg K (fun a=>H a≠some (.tbl #[])) H v d):=by
   intro d v h
   have ne:∀ {a:Addr}{u:HO},Rd H a u->(∀ ps,u ≠ .tbl ps)->H a≠some (.tbl #[]):=fun {a u} h n z=>by
    rcases h with h | ⟨o,h⟩
    ·rw[z] at h;exact n _ (Option.some.inj h).symm
    ·rw[z] at h;cases h
   exact h.rec (motive_1:=fun v d _=>Rp mg K (fun a=>H a≠some (.tbl #[])) H v d) (motive_2:=fun vs ds _=>qz mg K (fun a=>H a≠some (.tbl #[])) H vs ds)
    .non (fun b=>.bl b) (fun i=>.int i) (fun e=>.fn e) (fun _ s _ ih=>.lst (ne s fun ps z=>nomatch z) s ih) (fun s _ ih=>.lstK s ih) (fun _ s _ ih=>.tup (ne s fun ps z=>nomatch z) s ih) (fun s _ ih=>.tupK s ih) (fun _ m s l _ ih=>.obj (by rw[s];exact fun z=>nomatch z) m s l ih) .nil fun _ _ ih1 ih2=>.cons ih1 ih2
  have all:∀ {vs:List V}{ds:List D},qz mg K (fun _=>True) H vs ds->qz mg K (fun a=>H a≠some (.tbl #[])) H vs ds:=by
   intro vs ds h
   induction ds generalizing vs with
   | nil=>cases h;exact .nil
   | cons d ds ih=>cases h with | cons a b=>exact .cons (gen _ _ a) (ih b)
  exact all rp
 refine⟨⟨upd H P (.tbl more),fun _=>False⟩,sl0 N ds,rl0 rp',?_⟩
 obtain⟨ks,e1,e2⟩:=hargs
 unfold qe
 rw[e1]
 show Fin _ _ _ _ _ _ _ ((g (ks.map (·.1))).bind _) _
 rw[e2]
 cases hg:g ds with
 | no=>rw[hg] at ha;cases ha
 | er c =>
  rw[hg] at ha
  have ha:(l.lookup c).map (fun k=>[D.int (-k)])=some zs:=ha
  cases hl:l.lookup c with
  | none=>rw[hl] at ha;cases ha
  | some k =>
   rw[hl] at ha
   cases ha
   intro C H' hC s
   obtain⟨h1,h2⟩:=Er.at_ c C k hC hl
   exact⟨C,k,rfl,h1,h2,fun p hp=>hQ _ p (by rw[qV];rfl)⟩
 | ok y =>
  rw[hg] at ha
  obtain⟨d,b⟩:=y
  cases b with
  | false=>cases d <;> cases ha
  | true =>
   cases d with
   | lst ws =>
    cases ha
    intro v H' s vr
    obtain⟨p,es,rfl,e,c,h1,h2⟩:=vr
    cases e
    refine qdG ⟨p,_,rfl,h2,?_,fun q hq p' hp'=>hQ _ p' ?_⟩
    ·rw[qeL]
     have e:(sizeLine:Nat)=LIM:=rfl
     rw[e]
     exact hz
    ·rw[qV]
     rfl
   | _=>cases ha
mutual
noncomputable def ofW:WData->D
 | .none=>.non
 | .bool b=>.bl b
 | .int i=>.int i
 | .list xs=>.lst (Ut xs)
 | .tuple xs=>.tup (Ut xs)
 | _=>.non
noncomputable def Ut:List WData->List D
 | []=>[]
 | x::r=>ofW x::Ut r
/-- numbers, truth values, lists and tuples of them -/
noncomputable def plD:WData->Bool
 | .none=>true
 | .bool _=>true
 | .int _=>true
 | .list xs=>Xa xs
 | .tuple xs=>Xa xs
 | _=>false
noncomputable def Xa:List WData->Bool
 | []=>true
 | x::r=>plD x&&Xa r
end
mutual
theorem qh7 {mg:Str->Option Value}{K:PySem.W.Frag}{H:Hp}:∀ (d:WData) (v:V),plD d=true->Dw K H v d->Rp mg K (fun _=>True) H v (ofW d)
 | .none,_,_,h=>by cases h;exact .non
 | .bool b,_,_,h=>by cases h;exact .bl b
 | .int i,_,_,h=>by cases h;exact .int i
 | .list xs,_,p,h=>by cases h with | lst s a=>exact Rp.ofL s (fun _=>trivial) (WG xs _ p a)
 | .tuple xs,_,p,h=>by
  cases h with
  | tup s a =>
   rcases s with s | s
   ·exact .tup trivial s (WG xs _ p a)
   ·exact .tupK (fun _=>.inr s) (WG xs _ p a)
 | .str _,_,p,_=>nomatch p
 | .bytes _,_,p,_=>nomatch p
 | .float _,_,p,_=>nomatch p
 | .dict _,_,p,_=>nomatch p
 | .bytearray _,_,p,_=>nomatch p
 | .set _,_,p,_=>nomatch p
 | .frozenset _,_,p,_=>nomatch p
 | .obj _ _,_,p,_=>nomatch p
theorem WG {mg:Str->Option Value}{K:PySem.W.Frag}{H:Hp}:∀ (ds:List WData) (vs:List V),Xa ds=true->yt K H vs ds->qz mg K (fun _=>True) H vs (Ut ds)
 | [],_,_,h=>by cases h;exact .nil
 | d::ds,_,p,h=>by
  cases h with
  | cons a b =>
   have q:plD d=true/\Xa ds=true:=Bool.and_eq_true_iff.mp p
   exact .cons (qh7 d _ q.1 a) (WG ds _ q.2 b)
end
theorem Yo:∀ ns:List Int,Ut (ns.map WData.int)=ns.map D.int
 | []=>rfl
 | n::r=>by show D.int n::Ut (r.map WData.int)=_;rw[Yo r];rfl
theorem Yh:∀ ns:List Int,Xa (ns.map WData.int)=true
 | []=>rfl
 | n::r=>by show (true&&Xa (r.map WData.int))=true;rw[Yh r];rfl
mutual
theorem Dw.same {K:PySem.W.Frag}{H H':Hp} (s:qB H H'):∀ (d:WData) (v:V),Dw K H v d->Dw K H' v d
 | .none,_,h=>by cases h;exact .non
 | .bool b,_,h=>by cases h;exact .bl b
 | .int i,_,h=>by cases h;exact .int i
 | .str x,_,h=>by cases h;exact .str x
 | .bytes b,_,h=>by
  cases h with
  | byt b=>exact .byt b
 | .list xs,_,h=>by cases h with | lst q a=>exact .lst (s.seq q) (yt.same s xs _ a)
 | .tuple xs,_,h=>by
  cases h with
  | tup q a =>
   refine .tup ?_ (yt.same s xs _ a)
   rcases q with (q | ⟨o,q⟩) | q
   ·exact .inl (.inl (s _ _ q))
   ·exact .inl (.inr ⟨o,s _ _ q⟩)
   ·exact .inr q
 | .float _,_,h=>by cases h
 | .dict _,_,h=>by cases h
 | .bytearray _,_,h=>by cases h
 | .set _,_,h=>by cases h
 | .frozenset _,_,h=>by cases h
 | .obj _ _,_,h=>by cases h
theorem yt.same {K:PySem.W.Frag}{H H':Hp} (s:qB H H'):∀ (ds:List WData) (vs:List V),yt K H vs ds->yt K H' vs ds
 | [],_,h=>by cases h;exact .nil
 | d::ds,_,h=>by cases h with | cons a b=>exact .cons (Dw.same s d _ a) (yt.same s ds _ b)
end
theorem qcC {P:Program}{w:World}{K:PySem.W.Frag}{mg mb:Str->Option Value}{k:Nat}{fa c PT:Addr}{fd:FuncData}{ps:List Str}{sp:Sp}{s₁:Shared}{vals:List Value}{ds:List WData}{R:PySem.W.WRecords}{cl:Str->Option Addr}{d0:WData}
  (KX:K.In s₁.heap) (hno:PySem.W.noTabs K=true) (hns:s₁.heap.Ns mainGlobals mg) (hb:s₁.heap.Ns builtinsNs mb) (hbb:∀ x:Str,x≠"__name__"->mb x=bootBuiltins x) (hlim:s₁.heap.NoLimit) (hg:s₁.gens = #[])
  (hc:PySem.W.CodeHd s₁.heap c PT) (htab:s₁.heap.get? PT=some (PySem.W.tabObj #[])) (hbm:∃ bm ob,mg "__builtins__"=some (.ref bm)/\bm≠builtinsNs/\s₁.heap.get? bm=some ob/\ob.cls = .type "module"/\ob.dict=some builtinsNs/\ob.data = .plain)
  (hwl:WellAll w.params s₁.heap vals ds) (hpl:VE ds=true) (hwt:∀ d∈ds,d.weight <= 1048576) (hr:zi k callerA)
  (F:∀ base:Heap,K.In base->base.Ns mainGlobals mg->ux mg base c PT->uk P w K mg base (CX1 P w) k fa fd ps sp) (hbind:∀ (s:Shared) (us:List Value),us.length=ps.length->BindsTo s fd ⟨us,[]⟩ (ps.zip us)) (hlen:ds.length=ps.length)
  (hsp:∀ (H:Hp) (xs:List V),H PT=some (.tbl #[])->yt K H xs ds->sp xs H (fun v H'=>Dw K H' v d0) fun _ _ _=>False) :
  codeAny (model P w) callerA (.call (.ref fa) ⟨vals,[]⟩) (fun r s'=>∃ u as,r = .ok (.ret u)/\ReadsW R cl s'.heap u d0 as/\OldK s₁.heap s'.heap/\s'.os=s₁.os/\AllBare s'.gens) s₁:=by
 obtain⟨A,ho,ar⟩:=QB ds vals hwl hpl hwt
 have hO:qf5 (ur K s₁.heap A):=qb5 ar
 have hok0:HOk P w (ur K s₁.heap A) s₁.heap:=qfu ar
 have hS0:=Xc KX ar ds vals hwl hpl ho
 have hV:=uf ho
 have hK0:∀ b u,ur K s₁.heap A b=some u->K.lookup b=none:=fun b u q=>(V5 ar q).1
 -- what is tracked is a list or a tuple
 have seqs:∀ {b:Addr}{o:Obj},s₁.heap.get? b=some o->(∀ vs n,o.data ≠ .seq vs n)->ur K s₁.heap A b=none:=fun {b o} e d=>by
  cases q:ur K s₁.heap A b with
  | none=>rfl
  | some u =>
   obtain⟨_,vs,_,_,⟨e2,_⟩ | ⟨e2,_⟩⟩:=V5 ar q
   ·rw[e2] at e
    cases e
    exact absurd rfl (d vs.toArray _)
   ·rw[e2] at e
    cases e
    exact absurd rfl (d vs.toArray _)
 generalize ur K s₁.heap A=H0 at hO hok0 hS0 hK0 seqs
 have hP0:H0 PT=none:=seqs htab fun vs n z=>nomatch z
 have sameH:qB H0 (upd H0 PT (.tbl #[])):=wk hP0
 have hok:HOk P w (upd H0 PT (.tbl #[])) s₁.heap:=fun b u q=>by
  by_cases hb:b=PT
  ·subst hb
   rw[qV] at q
   cases q
   exact htab
  ·rw[qD hb] at q
   exact (hok0 b u q).ZW (fun _ _ _ q=>q) (fun c q=>sameH _ _ q) fun c xs q=>sameH _ _ q
 have hS:=yt.same sameH ds _ hS0
 have nPK:K.lookup PT=none:=by
  cases q:K.lookup PT with
  | none=>rfl
  | some o =>
   have e:=KX PT o q
   rw[htab] at e
   cases e
   have h2:=List.all_eq_true.mp hno (PT,_) (PySem.W.mem_of_lookupK q)
   exact absurd (show false=true from h2) Bool.false_ne_true
 have hK:∀ b u,(upd H0 PT (.tbl #[])) b=some u->K.lookup b=none:=fun b u q=>by
  by_cases hb:b=PT
  ·rw[hb];exact nPK
  ·rw[qD hb] at q;exact hK0 b u q
 have noS:∀ {b:Addr}{o:Obj},s₁.heap.get? b=some o->(∀ vs n,o.data ≠ .seq vs n)->(∀ vs,o.data ≠ .fields vs\/o.cls ≠ .none)->(upd H0 PT (.tbl #[])) b=none:=fun {b o} e d d2=>by
  rw[qD]
  ·exact seqs e d
  ·intro z
   rw[z,htab] at e
   cases e
   rcases d2 #[] with q | q <;> exact q rfl
 generalize hH:upd H0 PT (.tbl #[])=H at hok hS hK noS
 have hPH:H PT=some (.tbl #[]):=by rw[<- hH];exact qV
 have base_of:∀ {b:Addr}{o:Obj},s₁.heap.get? b=some o->H b=none->(Ye s₁.heap H).get? b=some o:=fun e n=>qdu e n
 have nsK:∀ {b:Addr}{m:Str->Option Value},s₁.heap.Ns b m->(Ye s₁.heap H).Ns b m:=fun {b m} ⟨o,es,ep,e,d,r⟩=>⟨o,es,ep,base_of e (noS e (fun vs n z=>by rw[d] at z;cases z) fun vs=>.inl fun z=>by rw[d] at z;cases z),d,r⟩
 have nK:∀ b o,K.lookup b=some o->H b=none:=fun b o e=>by
  cases q:H b with
  | none=>rfl
  | some u =>
   rw[hK b u q] at e
   cases e
 have hKb:K.In (Ye s₁.heap H):=fun b o e=>base_of (KX b o e) (nK b o e)
 have hM:Mod K mg (Ye s₁.heap H):=⟨hKb,nsK hns,⟨mb,nsK hb,hbb⟩,let ⟨mc,h1,h2⟩:=hlim;⟨mc,nsK h1,h2⟩⟩
 have e0:ZY P w K mg (Ye s₁.heap H) callerA [] s₁ H:=⟨rfl,hM,fun b o e=>qer e,Nat.le_of_eq (qco _ _),trivial,fun b hb=>absurd (show b∈([]:List Addr) from hb) (by simp),hok,.of_eq hg⟩
 have hl:vals.length=ps.length:=by rw[xO hwl];exact hlen
 have BL:ux mg (Ye s₁.heap H) c PT:=by
  refine⟨?_,?_⟩
  ·obtain⟨o,vs,file,tf,flags,tg,inF,text,tt,e1,e2,e3,r⟩:=hc
   exact⟨o,vs,file,tf,flags,tg,inF,text,tt,base_of e1 (noS e1 (fun vs n z=>by rw[e3] at z;cases z) fun vs=>.inr fun z=>by rw[e2] at z;cases z),e2,e3,r⟩
  ·obtain⟨bm,ob,b1,b2,b3,b4,b5,b6⟩:=hbm
   exact⟨bm,ob,b1,b2,base_of b3 (noS b3 (fun vs n z=>by rw[b6] at z;cases z) fun vs=>.inl fun z=>by rw[b6] at z;cases z),b4,b5,b6⟩
 refine codeAny_mono ((F _ hKb (nsK hns) BL).run callerA [] s₁ H ⟨vals,[]⟩ vals (vals.map L2.toV) _ _ hr e0 (hbind s₁ vals hl) hV (hsp H _ hPH hS)) fun r s' x=>?_
 cases r with
 | error e =>
  obtain⟨_,_,_,_,_,_,_,_,_,_,_,q⟩:=x
  exact q.elim
 | ok fl =>
  cases fl with
  | next=>exact False.elim x
  | brk=>exact False.elim x
  | cont=>exact False.elim x
  | ret u =>
   obtain⟨v,H',os,bare,un,hok',r',q⟩:=x
   have kept:∀ b o,b≠PT->s₁.heap.get? b=some o->s'.heap.get? b=some o:=fun b o hb e=>by
    cases q2:H b with
    | none=>exact un.keep b o e q2 (by intro z;exact absurd (show b∈([]:List Addr) from z) (by simp)) (by simp)
    | some u2 =>
     have q3:=q2
     rw[<- hH,qD hb] at q3
     rcases hO b with z | ⟨ob,u3,z⟩
     ·rw[q3] at z
      cases z
     ·rw[q3] at z
      cases z
      have z2:=un.frzs b ob _ q2
      obtain⟨e1,_⟩:=hok b _ q2
      obtain⟨e2,_⟩:=hok' b _ z2
      rw[e] at e1
      cases e1
      exact e2
   obtain⟨more,hm⟩:=un.tbls PT #[] hPH
   have tab':s'.heap.get? PT=some {cls:=.none,data:=.fields (#[]++more)}:=hok' PT _ hm
   have KX':K.In s'.heap:=fun b o e=>kept b o (fun z=>by rw[z,nPK] at e;cases e) (KX b o e)
   obtain⟨as,hrd⟩:=Dw.reads (R:=R) (cl:=cl) hok' KX' d0 v u q r'
   refine⟨u,as,rfl,hrd,⟨fun b o e=>?_,fun b o e=>?_⟩,os,bare⟩
   ·by_cases hb:b=PT
    ·subst hb
     rw[htab] at e
     cases e
     exact .inr (.inl ⟨(hc.tab htab).isCodeTable,rfl,#[],more,rfl,tab'⟩)
    ·exact .inl (kept b o hb e)
   ·by_cases hb:b=PT
    ·subst hb
     exact⟨_,tab'⟩
    ·exact⟨o,kept b o hb e⟩
theorem qc6 {r:OpenSpec}{k:Nat}{q:Program}{loose:List Str}{XP:(Str->Option Value)->Heap->Prop}{YP:World->Heap->Prop}{d:DefRec}{K:Params->PySem.W.Frag}{ps:List Str}{sp:PySem.W.Frag->(Str->Option Value)->Addr->Sp}{c PT:Params->Addr}
  (hwell:r.wellSaid=true) (hlen:r.args.length=ps.length) (hr:zi k callerA)
  (hY:∀ (w:World) (h:Heap),YP w h->(K w.params).In h) (hno:∀ p,PySem.W.noTabs (K p)=true) (htab:∀ p,PySem.W.tabIn (K p) d.name=some (c p,PT p)) (hrec:(PyProof.Rows.recsOf q).find? (fun e=>e.name==d.name)=some d)
  (F:∀ (w:World) (mg:Str->Option Value) (fa:Addr) (h:Heap),YP w h->(K w.params).In h->h.Ns mainGlobals mg->mg d.name=some (.ref fa) ->
   ∃ fd:FuncData,(∀ (s:Shared) (us:List Value),us.length=ps.length->BindsTo s fd ⟨us,[]⟩ (ps.zip us)) /\
    ∀ base:Heap,(K w.params).In base->base.Ns mainGlobals mg->ux mg base (c w.params) (PT w.params)->uk r.prog w (K w.params) mg base (CX1 r.prog w) k fa fd ps (sp (K w.params) mg (PT w.params)))
  (hsp:∀ (K:PySem.W.Frag) (mg:Str->Option Value) (PT:Addr) (H:Hp) (xs:List V) (a:Codec.denoteAll r.args),H PT=some (.tbl #[])->Codec.withinAll r.args a=true->Codec.app r.args r.asked a=true->yt K H xs (Codec.encAll r.args a) ->
   sp K mg PT xs H (fun v H'=>Dw K H' v (r.ret.enc (Codec.app r.args r.f a))) fun _ _ _=>False) :
  PySem.W.WalkOS q loose XP YP r d [] (fun f vs=>PySem.call f vs):=by
 intro w s_0 s₁ mg mb G Y fa o pm cd doc dV kV ho hd hcd hD hmg hg args vals as hpre hlay hrd hwl hlo
 obtain⟨a,e1,e2⟩:=PySem.W.os_pre_some hpre
 obtain⟨e3,hwi⟩:=Codec.encAll_of_decAll r.args args a e1
 subst e3
 have KX:=hY w _ Y
 obtain⟨fd,hb,hF⟩:=F w mg fa _ Y KX G.T.g hmg
 obtain⟨hc,ht⟩:=PySem.W.tab_of G.T KX hrec (htab w.params)
 refine PySem.W.enter_call (codeAny_mono (qcC (R:=[]) (cl:=classAt s_0.heap) (d0:=r.ret.enc (Codec.app r.args r.f a)) KX (hno _) G.T.g G.T.b G.T.builtins G.T.nolimit hg hc ht G.T.bmain hwl (YF _ _) (Zf hlay) hr hF hb (by rw[WJ];exact hlen)
  (fun H xs hP hS=>hsp (K w.params) mg _ H xs a hP hwi e2 hS)) fun r' s' hq=>?_)
 obtain⟨u,as',rfl,h1,h2,h3,h4⟩:=hq
 exact⟨.inl ⟨u,_,as',rfl,fun _=>rfl,h1,(OpenSpec.post_iff hwell hwi _ _).mpr rfl,fun z=>Bool.noConfusion (show false=true from z)⟩,h2,h3,h4⟩
theorem qcT {K:PySem.W.Frag}{x:Str}{c PT f:Addr}{oc:Value}{od:Option Addr}{fd:FuncData}{osl:Array (Option Value)} (h:PySem.W.tabIn K x=some (c,PT)) (hn:PySem.W.nsIn K mainGlobals x=some (some (.ref f))) (lk:K.lookup f=some ⟨oc,od,.func fd,osl⟩):fd.code = .ref c:=by
 unfold PySem.W.tabIn at h
 rw[hn] at h
 dsimp only at h
 rw[lk] at h
 dsimp only at h
 split at h
 ·rename_i c' e
  split at h
  ·split at h
   ·cases h
    exact e
   ·cases h
  ·cases h
 ·cases h
inductive qcY (P:Program) (w:World) (K:PySem.W.Frag) (mg:Str->Option Value) (base:Heap) (st2:Stmt) (la:List (Addr × Int)):Prop
 | mk (f2:Addr) (oc:Value) (od:Option Addr) (kV doc pm:Value) (an:Option Addr) (cdv ct:Value) (osl:Array (Option Value)) (h0:ExceptHandler) (hs:List ExceptHandler) (q1 q2 q3 q4 q5 q6 q7 q8 q9 q10:Pos) (j:Nat)
  (lk:K.lookup f2=some ⟨oc,od,.func (PySem.W.fnOf "answered" "answered" (zH st2) (vT st2) (qg st2) .none kV doc pm an cdv ct),osl⟩) (cd:PySem.W.codeIn K cdv "answered"=true) (kp:PySem.W.keepIn K (.ref f2)=true) (hm:mg "answered"=some (.ref f2))
  (hb:vT st2=Y7 (h0::hs) q1 q2 q3 q4 q5 q6 q7 q8 q9 q10 j) (S:qp ["work","told"] ["work"] (qg st2)) (hw:(qg st2).names.lookup ("work":Str)=some .local) (ht:(qg st2).names.lookup ("told":Str)=some .local)
  (bi:∀ (s:Shared) (u:Value),BindsTo s (PySem.W.fnOf "answered" "answered" (zH st2) (vT st2) (qg st2) .none kV doc pm an cdv ct) ⟨[u],[]⟩ ((["work"]:List Str).zip [u]))
  (hH:∀ (A:Around) (outer:List Env) (s:Shared) (H:Hp) (E:XK),Hs (uP (CX1 P w) P w K mg base ["work","told"] "answered" (qg st2) f2 cdv A outer s H E) (h0::hs) la):qcY P w K mg base st2 la
section
variable {P:Program}{w:World}{K:PySem.W.Frag}{mg:Str->Option Value}{base:Heap}
theorem qgi {x:Str}{st st2:Stmt}{f c PT:Addr}{fd:FuncData}{ps:List Str}{k n:Nat}{g:Fn}{r:RA}{l:List (Str × Int)}{la:List (Addr × Int)}{p pos rpos lpos:Pos}{params:Arguments}{body:Expr}{ls:Scope}
  (F:Fun K x x st f fd) (S:qp ps ps (qg st)) (hn:ps.length=n) (htab:PySem.W.tabIn K x=some (c,PT)) (hns:PySem.W.nsIn K mainGlobals x=some (some (.ref f))) (BL:ux mg base c PT) (A2:qcY P w K mg base st2 la) (Er:qab mg K l la)
  (hbody:vT st=[.Return (some (.Call (.Name "answered" p) [.Lambda params body ls lpos] [] pos)) rpos]) (L:Qw (qg st) ls) (hgl:(qg st).names.lookup ("answered":Str)=some .globalImplicit) (hdef:∀ env:Env,defaultsOf params env=([],[]))
  (hbind:∀ (q:Str) (c':Addr) (clos:List (Str × Addr)) (pm ctv:Value),bindArgs (PySem.W.kla_fn "<lambda>" q params body ls clos pm (.ref c') ctv) ⟨[],[]⟩=pure [])
  (hcall:∀ (cdv:Value) (A:Around) (outer:List Env) (s0:Shared) (H0:Hp) (E0:XK) (Y:Cx) (q:Str) (f':Addr) (cd:Value) (s:Shared) (H:Hp) (E':XK),zi k (Y.A.deeper (jW (uP (CX1 P w) P w K mg base ps x (qg st) f cdv A outer s0 H0 E0) q ls f' cd s)) ->
   PE (Zd (uP (CX1 P w) P w K mg base ps x (qg st) f cdv A outer s0 H0 E0) Y q ls f' cd s H E') body (tE mg K E' (qe g r)))
  (hargs:∀ ds:List D,ds.length=n->∃ ks,r (sl0 ps ds) = .ok ks/\ks.map (·.1)=ds):uk P w K mg base (CX1 P w) (k+3) f fd ps (qd6 mg K n g l PT):=by
 obtain⟨oc,od,kV,doc,pm,an,cdv,ct,osl,rfl,lk,hcd⟩:=F.ex
 have hc:cdv = .ref c:=qcT htab hns lk
 refine qa7 lk hcd S ?_ fun A outer s H vs Q E hroom hsp=>?_
 ·rintro vs H Q E ⟨ds,zs,hl,_,rp,_⟩
  rw[rp.len,hl,hn]
 ·obtain⟨ds,zs,hl,hP,rp,ha,hz,hQ⟩:=hsp
  obtain⟨f2,oc2,od2,kV2,doc2,pm2,an2,cdv2,ct2,osl2,h0,hs,q1,q2,q3,q4,q5,q6,q7,q8,q9,q10,j,lk2,hcd2,hk2,hm2,hb2,S2,hw2,ht2,bi2,hH2⟩:=A2
  rw[hbody]
  rw[hb2] at lk2 bi2
  refine⟨qgY (qgf K la PT fun E'=>tE mg K E' (qe g r)),jz (jj ?_),?_⟩
  ·have q:=Uu (X:=uP (CX1 P w) P w K mg base ps x (qg st) f cdv A outer s H E) (c:=c) (P:=PT) (f2:=f2) (k:=k) (E:=E) (l:=la) (tb:=fun E'=>tE mg K E' (qe g r)) (pos:=pos) (p:=p) (lpos:=lpos) (params:=params) (body:=body) (ls:=ls)
    BL hc (fun _=>rfl) rfl L (hdef _) hroom hgl hm2 hk2 lk2 hcd2 S2 hw2 ht2 (fun s u=>bi2 s u) (fun s H=>hH2 _ _ s H E) (fun c' clos pm ctv=>hbind _ c' clos pm ctv) XF (fun Y f' cd s' H' E' hr'=>hcall _ _ _ _ _ _ Y _ f' cd s' H' E' hr')
   exact q
  ·exact qg6 (N:=ps) (n:=n) Er hP rp ha hz hQ (hargs ds hl)
end
section
variable {X:Cx}{E:XK}{pos:Pos}
theorem xv (i:Nat) {x:Str} (hN:autoParam (X.N[i]?=some x) qt._auto_1) (hv:autoParam (Vis X.env.scope x) JT._auto_1) (hd:autoParam ((x==("__debug__":Str))=false) vh._auto_1)
  (hcd:autoParam ((x==("__classdict__":Str))=false) vh._auto_1):PE X (.Name x pos) (TEx X E (qa i)):=qgs hN hv hd hcd
theorem yp (i:Nat) {x:Str}{e:Expr}{r:RE}{pos':Pos} (g:Gd X E) (he:PE X e (TEx X E r)) (hi:autoParam (X.N[i]?=some x) qt._auto_1) (hx:autoParam (Loc X.env.scope x) WV._auto_1) (hs:autoParam (swapsWith e (some (.Name x pos')) pos.line X.env=pure false) qt._auto_1)
  (hf:autoParam (X.fn x=true\/X.env.scope.names.lookup x=some .local) Zl._auto_1):PS X (.Assign [.Name x pos'] e pos) (TSx X E (vd i r)):=qgW g hi hx he hs hf
theorem qfo (i:Nat) {x:Str}{p:Pos} (hN:autoParam (X.N[i]?=some x) qt._auto_1) (hv:autoParam (Vis X.env.scope x) JT._auto_1) (hd:autoParam ((x==("__debug__":Str))=false) vh._auto_1) (hcd:autoParam ((x==("__classdict__":Str))=false) vh._auto_1) :
  PS X (.Return (some (.Name x p)) pos) (TSx X E (Qe i)):=qfL hN hv hd hcd
theorem pgn (i:Nat) {x:Str} (hN:X.N.Nodup) (hi:autoParam (X.N[i]?=some x) qt._auto_1) (hx:autoParam (Loc X.env.scope x) WV._auto_1) (hf:autoParam (X.fn x=true\/X.env.scope.names.lookup x=some .local) Zl._auto_1):PG X (.Name x pos) (zP i):=qfP hN hi hx hf
theorem pg2 {i j:Nat}{a b:Expr}{k:Nat} (hc:X.calm=true) (ha:PG X a (zP i)) (hb:PG X b (zP j)) (hn:autoParam ((assignEach [a,b] X.env).length=2) qt._auto_1) (h1:autoParam ((assignEach [a,b] X.env).map (·.2)=assign a X.env::(assignEach [b] X.env).map (·.2)) qt._auto_1)
  (h2:autoParam ((assignEach [b] X.env).map (·.2)=assign b X.env::(assignEach [] X.env).map (·.2)) qt._auto_1) (hst:autoParam ((assignEach [a,b] X.env).findIdx? (·.1)=none) qt._auto_1):PG X (.Tuple [a,b] k pos) (qew X.K 2 (W7 (zP i) (W7 (zP j) qe8))):=qg5 hc (Je ha (Je hb qfI h2) h1) hn hst
theorem qaX {tgE:Expr}{x:Str}{p:Pos}{body:List Stmt}{g:TG}{tg:Tg}{i:Nat}{rb:RS} (G:Gd X E) (hi:PI X tgE (.Name x p) (tI X E g tg (iOf (qa i)))) (hg:PG X tgE g) (hb:PSs X body (TSx X E rb)):PS X (.For tgE (.Name x p) body [] pos) (TSx X E (Yl tg i rb)):=by
 refine vx (J2 G hi hg hb) fun D σ H ⟨B,δ,R,h⟩=>?_
 unfold Yl at h
 cases hδ:δ[i]? with
 | none=>rw[hδ] at h;exact⟨B,δ,R,h⟩
 | some s =>
  rw[hδ] at h
  cases s with
  | own ds =>
   have q:=R.qii hδ
   exact⟨B,_,q.1,yV.later h q.2⟩
  | un=>exact⟨B,δ,R,h⟩
  | val d k=>exact⟨B,δ,R,h⟩
end
end L2.Ir
namespace Dm
theorem two_pow_pos (k:Nat):0<2^k:=Nat.two_pow_pos k
theorem vD (n d c:Nat) (hc:0<c):Pv.nearest (n*c) (d*c)=Pv.nearest n d:=by
 unfold Pv.nearest
 rw[Nat.mul_mod_mul_right,Nat.mul_div_mul_right _ _ hc]
 have e1:(d*c<2*(n%d*c))↔(d<2*(n%d)):=by
  rw[<- Nat.mul_assoc]
  exact Nat.mul_lt_mul_right hc
 have e2:(2*(n%d*c)=d*c)↔(2*(n%d)=d):=by
  rw[<- Nat.mul_assoc]
  exact Nat.mul_left_inj (Nat.pos_iff_ne_zero.mp hc)
 simp only[e1,e2]
theorem uF {x k:Nat} (h1:2^k <= x) (h2:x<2^(k+1)):x.log2=k :=
 (Nat.log2_eq_iff (Nat.pos_iff_ne_zero.mp (Nat.lt_of_lt_of_le (two_pow_pos k) h1))).mpr ⟨h1,h2⟩
theorem jy {x:Nat} (h:x≠0):2^x.log2 <= x:=(Nat.le_log2 h).mp (Nat.le_refl _)
theorem yS {x:Nat} (h:x≠0):x<2^(x.log2+1):=(Nat.log2_lt h).mp (Nat.lt_succ_self _)
theorem X5 (x a:Nat) (h:x≠0):(x*2^a).log2=x.log2+a:=by
 refine uF ?_ ?_
 ·rw[Nat.pow_add]
  exact Nat.mul_le_mul_right _ (jy h)
 ·rw[show x.log2+a+1=x.log2+1+a by lia,Nat.pow_add]
  exact Nat.mul_lt_mul_of_pos_right (yS h) (two_pow_pos a)
theorem Ur (x b:Nat):(x / 2^b).log2=x.log2-b:=by
 by_cases h:x=0
 ·subst h;simp
 by_cases hb:b <= x.log2
 ·refine uF ?_ ?_
  ·rw[Nat.le_div_iff_mul_le (two_pow_pos b),<- Nat.pow_add,Nat.sub_add_cancel hb]
   exact jy h
  ·rw[Nat.div_lt_iff_lt_mul (two_pow_pos b),<- Nat.pow_add,show x.log2-b+1+b=x.log2+1 by lia]
   exact yS h
 ·have hx:x / 2^b=0:=by
   rw[Nat.div_eq_zero_iff]
   right
   exact Nat.lt_of_lt_of_le (yS h) (Nat.pow_le_pow_right (by decide) (by lia))
  rw[hx,Nat.log2_zero];lia
noncomputable def nw (whole k:Nat):Nat :=
 if k=0 then whole else
 if 2^(k-1)<whole-whole / 2^k*2^k\/(whole-whole / 2^k*2^k=2^(k-1)/\whole / 2^k%2=1) then whole / 2^k+1 else whole / 2^k
theorem jR (whole k:Nat):nw whole k=Pv.nearest whole (2^k):=by
 unfold nw Pv.nearest
 by_cases hk:k=0
 ·subst hk
  simp [Nat.mod_one]
 ·rw[if_neg hk]
  have e:whole-whole / 2^k*2^k=whole%2^k:=by
   have:=Nat.div_add_mod whole (2^k)
   rw[Nat.mul_comm] at this
   lia
  have e2:2^k=2*2^(k-1):=by
   rw[<- Nat.pow_succ']
   congr 1
   lia
  have c1:2^k<2*(whole%2^k)↔2^(k-1)<whole%2^k:=by lia
  have c2:2*(whole%2^k)=2^k↔whole%2^k=2^(k-1):=by lia
  rw[e]
  simp only[c1,c2]
theorem jO (n d:Nat) (hd:0<d):Pv.nearest (n*d) d=n:=by
 unfold Pv.nearest
 rw[Nat.mul_mod_left,Nat.mul_div_cancel _ hd]
 rw[if_neg]
 lia
theorem Zu (n d m:Nat) (hd:0<d) (h:n<m*d):Pv.nearest n d <= m:=by
 have:n / d<m:=(Nat.div_lt_iff_lt_mul hd).mpr h
 unfold Pv.nearest
 split <;> lia
theorem Wt (n d m:Nat) (hd:0<d) (h:m*d <= n):m <= Pv.nearest n d:=by
 have:m <= n / d:=(Nat.le_div_iff_mul_le hd).mpr h
 unfold Pv.nearest
 split <;> lia
theorem Xw (neg:Bool) (e kept:Nat) (h1:kept <= 2^53) (h2:e=0\/2^52 <= kept) :
  Pv.pack neg (2^e*kept)=if 9218868437227405312 <= e*2^52+kept then none else some ((if neg=true then 2^63 else 0)+(e*2^52+kept)):=by
 have key:(Pv.LIMIT <= 2^e*kept↔9218868437227405312 <= e*2^52+kept):=by
  unfold Pv.LIMIT
  rcases h2 with rfl | h2
  ·constructor
   ·intro h
    have h54:(2:Nat)^54 <= 2^2098:=Nat.pow_le_pow_right (by decide) (by decide)
    rw[Nat.pow_zero,Nat.one_mul] at h
    have:=Nat.le_trans h54 h
    exact absurd this (by lia)
   ·intro h
    exact absurd h (by lia)
  ·constructor
   ·intro h
    have h3:2^e*kept <= 2^(e+53):=by
     rw[Nat.pow_add]
     exact Nat.mul_le_mul_left _ h1
    have h4:2098 <= e+53:=(Nat.pow_le_pow_iff_right (by decide)).mp (Nat.le_trans h h3)
    by_cases he:e=2045
    ·subst he
     have h5:2^2045*2^53 <= 2^2045*kept:=by rw[<- Nat.pow_add];exact h
     clear h
     have:=Nat.le_of_mul_le_mul_left h5 (two_pow_pos 2045)
     clear h5 h3
     lia
    ·lia
   ·intro h
    by_cases he:2046 <= e
    ·have h3:2^(e+52) <= 2^e*kept:=by
      rw[Nat.pow_add]
      exact Nat.mul_le_mul_left _ h2
     exact Nat.le_trans (Nat.pow_le_pow_right (by decide) (by lia)) h3
    ·have he':e=2045:=by lia
     subst he'
     have hk:kept=2^53:=by lia
     rw[hk,<- Nat.pow_add]
     exact Nat.le_refl _
 unfold Pv.pack
 by_cases hl:Pv.LIMIT <= 2^e*kept
 ·rw[if_pos hl,if_pos (key.mp hl)]
 ·rw[if_neg hl,if_neg (fun z=>hl (key.mpr z))]
  congr 2
  rcases h2 with rfl | h2
  ·rw[Nat.pow_zero,Nat.one_mul,Nat.zero_mul,Nat.zero_add]
   by_cases hs:kept<2^52
   ·rw[if_pos hs]
   ·rw[if_neg hs]
    by_cases h53:kept=2^53
    ·subst h53
     rw[Nat.log2_two_pow]
    ·rw[uF (k:=52) (by lia) (by lia)]
     lia
  ·have hge:2^52 <= 2^e*kept:=Nat.le_trans h2 (Nat.le_mul_of_pos_left _ (two_pow_pos e))
   rw[if_neg (by lia)]
   have hk0:kept≠0:=by lia
   have hlog:(2^e*kept).log2=kept.log2+e:=by rw[Nat.mul_comm];exact X5 _ _ hk0
   by_cases h53:kept=2^53
   ·subst h53
    rw[hlog,Nat.log2_two_pow]
    have:2^e*2^53 / 2^(53+e-52)=2^52:=by
     rw[<- Nat.pow_add,Nat.pow_div (by lia) (by decide)]
     congr 1
     lia
    rw[this]
    lia
   ·have hk2:kept.log2=52:=uF (by lia) (by lia)
    rw[hlog,hk2]
    have:2^e*kept / 2^(52+e-52)=kept:=by
     rw[show 52+e-52=e by lia,Nat.mul_div_cancel_left _ (two_pow_pos e)]
    rw[this]
    lia
noncomputable def rnd (neg:Bool) (whole:Nat) (q:Int):Option Nat :=
 if whole=0 then some (if neg=true then 2^63 else 0) else
 let drop:Int:=max (((whole.log2+1:Nat):Int)-53) (-q)
 let kept:Nat:=if drop <= 0 then whole*2^(-drop).toNat else nw whole drop.toNat
 let size:Nat:=(q+drop).toNat*2^52+kept
 if 9218868437227405312 <= size then none else some ((if neg=true then 2^63 else 0)+size)
theorem qdO (neg:Bool) (whole n d a b:Nat) (hd:0<d) (h:n*2^b=whole*2^a*d):rnd neg whole ((a:Int)-b)=Pv.pack neg (Pv.rounded n d):=by
 have hnd:n / d=whole*2^a / 2^b:=by
  have e1:n / d=n*2^b / (d*2^b):=(Nat.mul_div_mul_right _ _ (two_pow_pos b)).symm
  rw[e1,h,Nat.mul_comm d,Nat.mul_div_mul_right _ _ hd]
 unfold rnd
 by_cases hw:whole=0
 ·subst hw
  rw[if_pos rfl]
  have hn:n=0:=by
   rw[Nat.zero_mul,Nat.zero_mul] at h
   rcases Nat.mul_eq_zero.mp h with h | h
   ·exact h
   ·exact absurd h (Nat.pos_iff_ne_zero.mp (two_pow_pos b))
  subst hn
  have:Pv.rounded 0 d=0:=by
   unfold Pv.rounded Pv.nearest
   simp
  rw[this]
  unfold Pv.pack Pv.LIMIT
  rw[if_neg (fun z=>absurd z (Nat.not_le.mpr (two_pow_pos 2098))),if_pos (two_pow_pos 52),Nat.add_zero]
 rw[if_neg hw]
 -- the exponent of a last place
 have hlog:(n / d).log2=whole.log2+a-b:=by rw[hnd,Ur,X5 _ _ hw]
 generalize hL:whole.log2=L at hlog
 have lo:2^L <= whole:=by rw[<- hL];exact jy hw
 have hi:whole<2^(L+1):=by rw[<- hL];exact yS hw
 generalize he:L+a-b-52=e
 have hap:Pv.apart (n / d)=2^e:=by
  unfold Pv.apart
  rw[hlog,he]
 have hdrop:max (((L+1:Nat):Int)-53) (-((a:Int)-b))=(e:Int)-a+b:=by lia
 dsimp only
 rw[hdrop]
 have hq:((a:Int)-b+((e:Int)-a+b)).toNat=e:=by lia
 rw[hq]
 have hnear:Pv.nearest n (d*2^e)=Pv.nearest (whole*2^a) (2^(e+b)):=by
  rw[<- vD n (d*2^e) (2^b) (two_pow_pos b),h,show d*2^e*2^b=2^(e+b)*d by rw[Nat.pow_add,Nat.mul_comm d,Nat.mul_assoc,Nat.mul_assoc,Nat.mul_comm d]]
  exact vD _ _ _ hd
 have hkept:(if (e:Int)-a+b <= 0 then whole*2^(-((e:Int)-a+b)).toNat else nw whole ((e:Int)-a+b).toNat)=Pv.nearest n (d*2^e):=by
  rw[hnear]
  by_cases hc:(e:Int)-a+b <= 0
  ·rw[if_pos hc]
   have e3:whole*2^a=whole*2^(-((e:Int)-a+b)).toNat*2^(e+b):=by
    rw[Nat.mul_assoc,<- Nat.pow_add]
    congr 2
    lia
   rw[e3,jO _ _ (two_pow_pos _)]
  ·rw[if_neg hc,jR]
   have e3:2^(e+b)=2^((e:Int)-a+b).toNat*2^a:=by
    rw[<- Nat.pow_add]
    congr 1
    lia
   rw[e3,vD _ _ _ (two_pow_pos _)]
 rw[hkept]
 unfold Pv.rounded
 rw[hap]
 -- bounds
 have up:Pv.nearest n (d*2^e) <= 2^53:=by
  rw[hnear]
  refine Zu _ _ _ (two_pow_pos _) ?_
  rw[<- Nat.pow_add]
  refine Nat.lt_of_lt_of_le (Nat.mul_lt_mul_of_pos_right hi (two_pow_pos a)) ?_
  rw[<- Nat.pow_add]
  exact Nat.pow_le_pow_right (by decide) (by lia)
 have dn:e=0\/2^52 <= Pv.nearest n (d*2^e):=by
  by_cases h0:e=0
  ·exact .inl h0
  ·right
   rw[hnear]
   refine Wt _ _ _ (two_pow_pos _) ?_
   rw[<- Nat.pow_add]
   refine Nat.le_trans ?_ (Nat.mul_le_mul_right _ lo)
   rw[<- Nat.pow_add]
   exact Nat.pow_le_pow_right (by decide) (by lia)
 exact (Xw neg e _ up dn).symm
end Dm
set_option exponentiation.threshold 4000
namespace Dm
theorem qdE (neg:Bool) (whole n d a b:Nat) (hw:whole≠0) (hlog:(n / d).log2=whole.log2+a-b)
  (hnear:Pv.nearest n (d*2^(whole.log2+a-b-52))=Pv.nearest (whole*2^a) (2^(whole.log2+a-b-52+b))):rnd neg whole ((a:Int)-b)=Pv.pack neg (Pv.rounded n d):=by
 unfold rnd
 rw[if_neg hw]
 generalize hL:whole.log2=L at hlog hnear
 have lo:2^L <= whole:=by rw[<- hL];exact jy hw
 have hi:whole<2^(L+1):=by rw[<- hL];exact yS hw
 generalize he:L+a-b-52=e at hnear
 have hap:Pv.apart (n / d)=2^e:=by
  unfold Pv.apart
  rw[hlog,he]
 have hdrop:max (((L+1:Nat):Int)-53) (-((a:Int)-b))=(e:Int)-a+b:=by lia
 dsimp only
 rw[hdrop]
 have hq:((a:Int)-b+((e:Int)-a+b)).toNat=e:=by lia
 rw[hq]
 have hkept:(if (e:Int)-a+b <= 0 then whole*2^(-((e:Int)-a+b)).toNat else nw whole ((e:Int)-a+b).toNat)=Pv.nearest n (d*2^e):=by
  rw[hnear]
  by_cases hc:(e:Int)-a+b <= 0
  ·rw[if_pos hc]
   have e3:whole*2^a=whole*2^(-((e:Int)-a+b)).toNat*2^(e+b):=by
    rw[Nat.mul_assoc,<- Nat.pow_add]
    congr 2
    lia
   rw[e3,jO _ _ (two_pow_pos _)]
  ·rw[if_neg hc,jR]
   have e3:2^(e+b)=2^((e:Int)-a+b).toNat*2^a:=by
    rw[<- Nat.pow_add]
    congr 1
    lia
   rw[e3,vD _ _ _ (two_pow_pos _)]
 rw[hkept]
 unfold Pv.rounded
 rw[hap]
 have up:Pv.nearest n (d*2^e) <= 2^53:=by
  rw[hnear]
  refine Zu _ _ _ (two_pow_pos _) ?_
  rw[<- Nat.pow_add]
  refine Nat.lt_of_lt_of_le (Nat.mul_lt_mul_of_pos_right hi (two_pow_pos a)) ?_
  rw[<- Nat.pow_add]
  exact Nat.pow_le_pow_right (by decide) (by lia)
 have dn:e=0\/2^52 <= Pv.nearest n (d*2^e):=by
  by_cases h0:e=0
  ·exact .inl h0
  ·right
   rw[hnear]
   refine Wt _ _ _ (two_pow_pos _) ?_
   rw[<- Nat.pow_add]
   refine Nat.le_trans ?_ (Nat.mul_le_mul_right _ lo)
   rw[<- Nat.pow_add]
   exact Nat.pow_le_pow_right (by decide) (by lia)
 exact (Xw neg e _ up dn).symm
noncomputable def wL (N M:Nat):Nat:=N / M*2+(if N%M=0 then 0 else 1)
theorem qae {N M c:Nat} (hM:0<M) (h:N%M≠0):M*c<N↔c <= N / M:=by
 have e:=Nat.div_add_mod N M
 constructor
 ·intro q
  exact (Nat.le_div_iff_mul_le hM).mpr (by rw[Nat.mul_comm];lia)
 ·intro q
  have:M*c <= M*(N / M):=Nat.mul_le_mul_left _ q
  lia
theorem WW (N M k:Nat) (hM:0<M) (hk:2 <= k):Pv.nearest (2*N) (M*2^k)=Pv.nearest (wL N M) (2^k):=by
 obtain⟨h,rfl⟩:∃ h,k=h+2:=⟨k-2,by lia⟩
 by_cases hz:N%M=0
 ·have e:=Nat.div_add_mod N M
  rw[hz,Nat.add_zero] at e
  have hT:wL N M=N / M*2:=by unfold wL;rw[if_pos hz,Nat.add_zero]
  rw[hT]
  have e2:2*N=N / M*2*M:=by
   rw[Nat.mul_right_comm,Nat.mul_comm (N / M) M,e,Nat.mul_comm]
  rw[e2,Nat.mul_comm M]
  exact vD _ _ _ hM
 ·have hT:wL N M=2*(N / M)+1:=by unfold wL;rw[if_neg hz];lia
  rw[hT]
  have hpow:2^(h+2)=4*2^h:=by rw[Nat.pow_add];lia
  have hpos:0<2^h:=two_pow_pos h
  generalize hf:N / M=f
  have e:=Nat.div_add_mod N M
  rw[hf] at e
  have hlt:N%M<M:=Nat.mod_lt _ hM
  -- the floors are the same
  have hq:2*N / M=2*f\/2*N / M=2*f+1:=by
   have e1:2*N=M*(2*f)+2*(N%M):=by
    rw[Nat.mul_left_comm];lia
   rw[e1,Nat.mul_add_div hM]
   have h2:2*(N%M) / M<2:=(Nat.div_lt_iff_lt_mul hM).mpr (by lia)
   generalize 2*(N%M) / M=z at h2
   lia
  have hF:2*N / (M*2^(h+2))=(2*f+1) / 2^(h+2):=by
   rw[<- Nat.div_div_eq_div_mul]
   have e2:∀ z,z / 2^(h+2)=z / 2 / 2^(h+1):=fun z=>by
    rw[Nat.div_div_eq_div_mul]
    congr 1
    rw[Nat.pow_succ 2 (h+1),Nat.mul_comm]
   rw[e2 (2*N / M),e2 (2*f+1)]
   congr 1
   lia
  generalize hFF:(2*f+1) / 2^(h+2)=F at hF
  -- the halves
  have r1:=Nat.div_add_mod (2*N) (M*2^(h+2))
  have r2:=Nat.div_add_mod (2*f+1) (2^(h+2))
  rw[hF] at r1
  rw[hFF] at r2
  have key:M*(2^h*(2*F+1))<N↔2^h*(2*F+1) <= f:=by
   have:=qae (c:=2^h*(2*F+1)) hM hz
   rw[hf] at this
   exact this
  have hne:¬ (M*(2^h*(2*F+1))=N):=fun z=>hz (by rw[<- z];exact Nat.mul_mod_right _ _)
  have ex1:M*2^(h+2)*F=2*(2*(M*(2^h*F))):=by
   rw[hpow,Nat.mul_left_comm M,Nat.mul_assoc,Nat.mul_assoc]
   lia
  have ex2:M*2^(h+2)=2*(2*(M*2^h)):=by
   rw[hpow,Nat.mul_left_comm M]
   lia
  have ex3:M*(2^h*(2*F+1))=2*(M*(2^h*F))+M*2^h:=by
   rw[Nat.mul_add,Nat.mul_add,Nat.mul_one,Nat.mul_left_comm (2^h) 2,Nat.mul_left_comm M 2]
  have ex4:2^(h+2)*F=2*(2*(2^h*F)):=by
   rw[hpow,Nat.mul_assoc];lia
  have ex5:2^h*(2*F+1)=2*(2^h*F)+2^h:=by
   rw[Nat.mul_add,Nat.mul_one,Nat.mul_left_comm (2^h) 2]
  rw[ex3,ex5] at key
  rw[ex3] at hne
  have c1:M*2^(h+2)<2*(2*N%(M*2^(h+2)))↔2^(h+2)<2*((2*f+1)%2^(h+2)):=by lia
  have c2:¬ (2*(2*N%(M*2^(h+2)))=M*2^(h+2)):=by lia
  have c3:¬ (2*((2*f+1)%2^(h+2))=2^(h+2)):=by lia
  unfold Pv.nearest
  rw[hF,hFF]
  simp only[c1,c2,c3,false_and,or_false]
theorem Jk (N M:Nat) (hM:0<M) (hf:1 <= N / M):2^(wL N M).log2 <= N / M*2/\(N / M+1)*2 <= 2^((wL N M).log2+1):=by
 have hs:wL N M=N / M*2\/wL N M=N / M*2+1:=by unfold wL;split <;> lia
 generalize N / M=f at hs hf
 generalize wL N M=T at hs
 have hT:T≠0:=by lia
 have lo:=jy hT
 have hi:=yS hT
 have hL:1 <= T.log2:=by
  refine (Nat.le_log2 hT).mpr ?_
  lia
 obtain⟨l,e⟩:∃ l,T.log2=l+1:=⟨T.log2-1,by lia⟩
 rw[e] at lo hi ⊢
 rw[Nat.pow_succ] at lo hi ⊢
 rw[Nat.pow_succ] at hi ⊢
 lia
theorem qav (neg:Bool) (N M n d a b:Nat) (hM:0<M) (hd:0<d) (big:2^54 <= N / M) (h:n*2^b*M=2*N*2^a*d):rnd neg (wL N M) ((a:Int)-b)=Pv.pack neg (Pv.rounded n d):=by
 have hs:=Jk N M hM (Nat.le_trans (two_pow_pos 54) big)
 have hT:N / M*2 <= wL N M:=by unfold wL;lia
 have hw:wL N M≠0:=by
  have:=two_pow_pos 54
  lia
 have hL:55 <= (wL N M).log2:=(Nat.le_log2 hw).mpr (Nat.le_trans (by lia) hT)
 have hnd:n / d=2*N*2^a / M / 2^b:=by
  have e1:n / d=n*(2^b*M) / (d*(2^b*M)):=(Nat.mul_div_mul_right _ _ (Nat.mul_pos (two_pow_pos b) hM)).symm
  rw[e1,<- Nat.mul_assoc,h,Nat.mul_comm d,Nat.mul_div_mul_right _ _ hd,Nat.div_div_eq_div_mul,Nat.mul_comm M]
 refine qdE neg _ n d a b hw ?_ ?_
 ·rw[hnd,Ur]
  congr 1
  generalize hLL:(wL N M).log2=L at hs
  refine uF ?_ ?_
  ·rw[Nat.le_div_iff_mul_le hM,Nat.pow_add,Nat.mul_right_comm]
   refine Nat.mul_le_mul_right _ ?_
   have e:=Nat.div_mul_le_self N M
   calc 2^L*M <= N / M*2*M:=Nat.mul_le_mul_right _ hs.1
    _=2*(N / M*M):=by rw[Nat.mul_right_comm,Nat.mul_comm]
    _ <= 2*N:=Nat.mul_le_mul_left _ e
  ·rw[Nat.div_lt_iff_lt_mul hM]
   rw[show L+a+1=L+1+a by lia,Nat.pow_add,Nat.mul_right_comm (2^(L+1))]
   refine Nat.mul_lt_mul_of_pos_right ?_ (two_pow_pos a)
   have e:N<(N / M+1)*M:=by
    have:=Nat.lt_mul_div_succ N hM
    rw[Nat.mul_comm];exact this
   calc 2*N<2*((N / M+1)*M):=by lia
    _=(N / M+1)*2*M:=by rw[Nat.mul_right_comm,Nat.mul_comm]
    _ <= 2^(L+1)*M:=Nat.mul_le_mul_right _ hs.2
 ·generalize hLL:(wL N M).log2=L at hL
  generalize he:L+a-b-52=e
  obtain⟨k,ek⟩:∃ k,e+b=k+a:=⟨e+b-a,by lia⟩
  have hk:2 <= k:=by lia
  have e1:Pv.nearest n (d*2^e)=Pv.nearest (2*N*2^a) (M*2^(e+b)):=by
   rw[<- vD n (d*2^e) (2^b*M) (Nat.mul_pos (two_pow_pos b) hM),<- Nat.mul_assoc,h,show d*2^e*(2^b*M)=M*2^(e+b)*d by rw[Nat.pow_add,Nat.mul_comm d,Nat.mul_assoc,Nat.mul_comm M,Nat.mul_assoc (2^e*2^b),Nat.mul_comm M d,Nat.mul_assoc,Nat.mul_left_comm d]]
   exact vD _ _ _ hd
  rw[e1,ek,Nat.pow_add,<- Nat.mul_assoc,vD _ _ _ (two_pow_pos a),vD _ _ _ (two_pow_pos a)]
  exact WW N M k hM hk
noncomputable def sg (x:Nat):Nat:=x / 2^63
noncomputable def sz (x:Nat):Nat:=x%2^63
noncomputable def wh (x:Nat):Nat:=if sz x=x%2^52 then x%2^52 else x%2^52+2^52
noncomputable def ex (x:Nat):Nat:=max (sz x / 2^52) 1-1
noncomputable def sw (x:Nat):Int:=if sg x=1 then -(wh x:Int) else wh x
theorem w9 (x:Nat):Pv.exponent x=sz x / 2^52:=by
 unfold Pv.exponent sz
 omega
theorem zQ (x:Nat) (h:x<2^64):Pv.isNeg x=decide (sg x=1):=by
 unfold Pv.isNeg sg
 rw[Nat.testBit_eq_decide_div_mod_eq]
 congr 1
 have:x / 2^63<2:=by lia
 rw[Nat.mod_eq_of_lt this]
theorem Vj (x:Nat):sz x=x%2^52↔Pv.exponent x=0:=by
 rw[w9]
 unfold sz
 lia
theorem xk (x:Nat):Pv.mag x=wh x*2^ex x:=by
 unfold Pv.mag wh ex
 by_cases h:Pv.exponent x=0
 ·rw[if_pos h,if_pos ((Vj x).mpr h)]
  rw[w9] at h
  rw[h]
  simp
 ·rw[if_neg h,if_neg (fun z=>h ((Vj x).mp z)),Nat.add_comm]
  rw[w9] at h ⊢
  rw[Nat.max_eq_left (by lia)]
theorem val_eq (x:Nat) (h:x<2^64):Pv.val x=sw x*2^ex x:=by
 unfold Pv.val sw
 rw[zQ x h,xk]
 by_cases hs:sg x=1
 ·rw[if_pos (decide_eq_true hs),if_pos hs]
  simp [Int.neg_mul]
 ·rw[if_neg (by simpa using hs),if_neg hs]
  simp
theorem u4 (x:Nat):wh x<2^53:=by unfold wh;split <;> lia
theorem yL (x:Nat):wh x=0↔sz x=0:=by
 unfold wh sz
 split <;> lia
theorem v7 (x:Nat):Pv.mag x=0↔sz x=0:=by
 rw[xk,Nat.mul_eq_zero,yL]
 constructor
 ·rintro (h | h)
  ·exact h
  ·exact absurd h (Nat.pos_iff_ne_zero.mp (two_pow_pos _))
 ·exact .inl
theorem JV (x:Nat):Pv.isFinite x=decide (sz x<9218868437227405312):=by
 unfold Pv.isFinite
 rw[w9]
 have:sz x<2^63:=by unfold sz;lia
 by_cases h:sz x<9218868437227405312
 ·rw[decide_eq_true h]
  have:sz x / 2^52<2047:=by lia
  simp only[bne_iff_ne,ne_eq]
  lia
 ·rw[decide_eq_false h]
  have:sz x / 2^52=2047:=by lia
  rw[this]
  rfl
noncomputable def flip (x:Nat):Nat:=if sg x=1 then x-2^63 else x+2^63
theorem WQ (x:Nat) (h:x<2^64):Pv.minus x=flip x:=by
 unfold Pv.minus flip
 rw[zQ x h]
 by_cases hs:sg x=1
 ·rw[if_pos (decide_eq_true hs),if_pos hs]
 ·rw[if_neg (by simpa using hs),if_neg hs]
theorem qbl (x:Nat) (h:x<2^64):flip x<2^64:=by
 unfold flip sg
 split <;> lia
theorem qcz (x:Nat) (h:x<2^64):x ^^^ 2^63=flip x:=by
 unfold flip sg
 refine Nat.eq_of_testBit_eq fun i=>?_
 rw[Nat.testBit_xor,Nat.testBit_two_pow]
 split
 ·rename_i hs
  have hx:x=2^63+(x-2^63):=by lia
  have hlt:x-2^63<2^63:=by lia
  generalize x-2^63=y at hx hlt
  subst hx
  by_cases hi:i=63
  ·subst hi
   simp only[decide_true]
   rw[Nat.testBit_two_pow_add_eq,Nat.testBit_lt_two_pow hlt]
   rfl
  ·rw[decide_eq_false (fun z=>hi z.symm),Bool.xor_false]
   by_cases h2:i<63
   ·exact Nat.testBit_two_pow_add_gt h2 y
   ·rw[Nat.testBit_lt_two_pow (Nat.lt_of_lt_of_le hlt (Nat.pow_le_pow_right (by decide) (by lia))),Nat.testBit_lt_two_pow]
    exact Nat.lt_of_lt_of_le h (Nat.pow_le_pow_right (by decide) (by lia))
 ·rename_i hs
  have hlt:x<2^63:=by lia
  rw[Nat.add_comm x]
  by_cases hi:i=63
  ·subst hi
   simp only[decide_true]
   rw[Nat.testBit_two_pow_add_eq,Nat.testBit_lt_two_pow hlt]
   rfl
  ·rw[decide_eq_false (fun z=>hi z.symm),Bool.xor_false]
   by_cases h2:i<63
   ·exact (Nat.testBit_two_pow_add_gt h2 x).symm
   ·rw[Nat.testBit_lt_two_pow (Nat.lt_of_lt_of_le hlt (Nat.pow_le_pow_right (by decide) (by lia))),Nat.testBit_lt_two_pow]
    exact Nat.lt_of_lt_of_le (show 2^63+x<2^64 by lia) (Nat.pow_le_pow_right (by decide) (by lia))
noncomputable def XM (x y z:Nat):Option Nat :=
 let pxy:Int:=ex x+ex y-2148
 let pz:Int:=ex z-1074
 let low:Int:=min pxy pz
 let total:Int:=sw x*sw y*2^(pxy-low).toNat+sw z*2^(pz-low).toNat
 if total=0 then some (if (sg x≠sg y)/\sg z=1 then 2^63 else 0)
 else rnd (decide (total<0)) total.natAbs (low+1074)
noncomputable def Wh (x y:Nat):Option Nat:=rnd (decide (sg x≠sg y)) (wh x*wh y) ((ex x:Int)+ex y-1074)
noncomputable def Va (x y:Nat):Option Nat:=if sz y=0 then none else rnd (decide (sg x≠sg y)) (wL (wh x*2^112) (wh y)) ((ex x:Int)-ex y+961)
noncomputable def isqrt (n:Nat):Nat:=Pv.root n
noncomputable def qen (x:Nat):Option Nat :=
 if sz x=0 then some x else if sg x=1 then none else
 let N:=wh x*2^(112+ex x%2)
 rnd false (isqrt N*2+(if N=isqrt N*isqrt N then 0 else 1)) ((((ex x-ex x%2+962) / 2:Nat):Int)-1)
theorem JQ {x y:Nat} (hx:x<2^64) (hy:y<2^64):(Pv.isNeg x != Pv.isNeg y)=decide (sg x≠sg y):=by
 rw[zQ x hx,zQ y hy]
 have h1:sg x=0\/sg x=1:=by unfold sg;lia
 have h2:sg y=0\/sg y=1:=by unfold sg;lia
 rcases h1 with h1 | h1 <;> rcases h2 with h2 | h2 <;> rw[h1,h2] <;> rfl
theorem qgu {x y:Nat} (hx:x<2^64) (hy:y<2^64):Wh x y=Pv.mul x y:=by
 unfold Wh Pv.mul
 rw[JQ hx hy]
 have:=qdO (decide (sg x≠sg y)) (wh x*wh y) (Pv.mag x*Pv.mag y) Pv.UNIT (ex x+ex y) 1074 (two_pow_pos 1074) (by
  rw[xk,xk]
  unfold Pv.UNIT
  rw[Nat.pow_add,Nat.mul_mul_mul_comm])
 rw[<- this]
 congr 1
theorem qcS:(Pv.UNIT:Int)=2^1074:=by
 unfold Pv.UNIT
 rw[Int.natCast_pow]
 rfl
theorem ZO {x y z:Nat} (hx:x<2^64) (hy:y<2^64) (hz:z<2^64):XM x y z=Pv.fused x y z:=by
 unfold XM Pv.fused Pv.ofSum
 dsimp only
 generalize hlow:min ((ex x:Int)+ex y-2148) ((ex z:Int)-1074)=low
 obtain⟨a,ha⟩:∃ a:Nat,low+2148=a:=⟨(low+2148).toNat,by lia⟩
 have e1:((ex x:Int)+ex y-2148-low).toNat+a=ex x+ex y:=by lia
 have e2:((ex z:Int)-1074-low).toNat+a=ex z+1074:=by lia
 generalize ((ex x:Int)+ex y-2148-low).toNat=u at e1
 generalize ((ex z:Int)-1074-low).toNat=v at e2
 have hs:Pv.val x*Pv.val y+Pv.val z*(Pv.UNIT:Int)=(sw x*sw y*2^u+sw z*2^v)*2^a:=by
  rw[val_eq x hx,val_eq y hy,val_eq z hz,Int.add_mul]
  congr 1
  ·rw[Int.mul_assoc (sw x*sw y),<- Int.pow_add,e1,Int.pow_add]
   ac_rfl
  ·rw[Int.mul_assoc,Int.mul_assoc,<- Int.pow_add,e2]
   rw[Int.pow_add,qcS]
 rw[hs]
 generalize htot:sw x*sw y*2^u+sw z*2^v=total
 have hpa:(2:Int)^a≠0:=Int.ne_of_gt (Int.pow_pos (by decide))
 by_cases h0:total=0
 ·rw[if_pos h0,h0,Int.zero_mul,if_pos rfl]
  rw[zQ z hz,JQ hx hy]
  congr 1
  by_cases c1:sg x≠sg y <;> by_cases c2:sg z=1 <;> simp [c1,c2]
 ·rw[if_neg h0,if_neg (fun q=>(Int.mul_eq_zero.mp q).elim h0 hpa)]
  have hneg:decide (total*2^a<0)=decide (total<0):=by
   congr 1
   refine propext ⟨fun q=>?_,fun q=>?_⟩
   ·refine Int.not_le.mp fun z=>?_
    exact absurd (Int.mul_nonneg z (Int.le_of_lt (Int.pow_pos (by decide):(0:Int)<2^a))) (Int.not_le.mpr q)
   ·exact Int.mul_neg_of_neg_of_pos q (Int.pow_pos (by decide))
  rw[hneg]
  have hq:low+1074=(a:Int)-(1074:Nat):=by lia
  rw[hq]
  refine qdO _ _ _ _ a 1074 (two_pow_pos 1074) ?_
  rw[Int.natAbs_mul,Int.natAbs_pow]
  rfl
theorem val_one:Pv.val Pv.ONE=(Pv.UNIT:Int):=by decide +kernel
theorem qgU {x y:Nat} (hx:x<2^64) (hy:y<2^64):XM x 0x3FF0000000000000 y=Pv.add x y:=by
 rw[ZO hx (by decide) hy]
 unfold Pv.fused Pv.add Pv.ofSum
 have e1:Pv.val 0x3FF0000000000000=(Pv.UNIT:Int):=val_one
 have e2:Pv.isNeg 0x3FF0000000000000=false:=by decide +kernel
 rw[e1,e2,<- Int.add_mul]
 have hU:(Pv.UNIT:Int)≠0:=by
  have:=two_pow_pos 1074
  unfold Pv.UNIT
  lia
 have hUp:(0:Int)<(Pv.UNIT:Int):=by
  have:=two_pow_pos 1074
  unfold Pv.UNIT
  lia
 have hb:(Pv.isNeg x != false)=Pv.isNeg x:=by cases Pv.isNeg x <;> rfl
 rw[hb]
 generalize Pv.val x+Pv.val y=s
 by_cases h0:s=0
 ·rw[h0,Int.zero_mul,if_pos rfl,if_pos rfl]
 ·rw[if_neg h0,if_neg (fun q=>(Int.mul_eq_zero.mp q).elim h0 hU)]
  have hneg:decide (s*(Pv.UNIT:Int)<0)=decide (s<0):=by
   congr 1
   refine propext ⟨fun q=>?_,fun q=>?_⟩
   ·refine Int.not_le.mp fun z=>?_
    exact absurd (Int.mul_nonneg z (Int.le_of_lt hUp)) (Int.not_le.mpr q)
   ·exact Int.mul_neg_of_neg_of_pos q hUp
  rw[hneg,Int.natAbs_mul]
  congr 1
  have hUn:0<(Pv.UNIT:Int).natAbs:=by
   show 0<Pv.UNIT
   exact two_pow_pos 1074
  have e3:(Pv.UNIT:Int).natAbs=Pv.UNIT:=rfl
  rw[e3] at hUn ⊢
  unfold Pv.rounded
  rw[Nat.mul_div_cancel _ hUn,Nat.div_one,Nat.one_mul]
  congr 1
  rw[Nat.mul_comm Pv.UNIT]
  exact vD _ _ _ hUn
theorem qhf {x y:Nat} (hx:x<2^64) (hy:y<2^64):Va x y=Pv.div x y:=by
 unfold Va Pv.div
 by_cases h0:sz y=0
 ·rw[if_pos h0,if_pos ((v7 y).mpr h0)]
 rw[if_neg h0,if_neg (fun z=>h0 ((v7 y).mp z)),JQ hx hy]
 have hM:0<wh y:=Nat.pos_of_ne_zero fun z=>h0 ((yL y).mp z)
 by_cases hx0:wh x=0
 ·have hm:Pv.mag x=0:=by rw[xk,hx0,Nat.zero_mul]
  rw[hx0,hm]
  have:wL (0*2^112) (wh y)=0:=by unfold wL;simp
  rw[this,Nat.zero_mul]
  have hr:Pv.rounded 0 (Pv.mag y)=0:=by unfold Pv.rounded Pv.nearest;simp
  rw[hr]
  unfold rnd Pv.pack Pv.LIMIT
  rw[if_pos rfl,if_neg (fun z=>absurd z (Nat.not_le.mpr (two_pow_pos 2098))),if_pos (two_pow_pos 52),Nat.add_zero]
 ·have big:2^54 <= wh x*2^112 / wh y:=by
   rw[Nat.le_div_iff_mul_le hM]
   have:=u4 y
   calc 2^54*wh y <= 2^54*2^53:=Nat.mul_le_mul_left _ (Nat.le_of_lt this)
    _ <= 1*2^112:=by decide
    _ <= wh x*2^112:=Nat.mul_le_mul_right _ (by lia)
  have:=qav (decide (sg x≠sg y)) (wh x*2^112) (wh y) (Pv.mag x*Pv.UNIT) (Pv.mag y) (ex x+961) (ex y) hM (by
   rw[xk];exact Nat.mul_pos hM (two_pow_pos _)) big (by
   rw[xk,xk]
   unfold Pv.UNIT
   have e:(2:Nat)^1074=2*2^112*2^961:=by
    rw[show (1074:Nat)=1+112+961 from rfl,Nat.pow_add,Nat.pow_add]
   rw[e,Nat.pow_add]
   ac_rfl)
  rw[<- this]
  congr 1
  lia
theorem xS:∀ (k n x:Nat),x*x <= n->n<(x+2^k)*(x+2^k)->Pv.rootFrom k n x*Pv.rootFrom k n x <= n/\n<(Pv.rootFrom k n x+1)*(Pv.rootFrom k n x+1)
 | 0,n,x,h1,h2=>⟨h1,h2⟩
 | k+1,n,x,h1,h2=>by
  unfold Pv.rootFrom
  split
  ·rename_i h
   refine xS k n _ h ?_
   rw[Nat.add_assoc,show 2^k+2^k=2^(k+1) by rw[Nat.pow_succ];lia]
   exact h2
  ·rename_i h
   exact xS k n _ h1 (by lia)
theorem jm (n:Nat):Pv.root n*Pv.root n <= n/\n<(Pv.root n+1)*(Pv.root n+1):=by
 unfold Pv.root
 refine xS _ n 0 (Nat.zero_le _) ?_
 rw[Nat.zero_add]
 by_cases h:n=0
 ·subst h;decide
 ·have:=yS h
  exact Nat.lt_of_lt_of_le this (Nat.le_mul_of_pos_right _ (two_pow_pos _))
theorem qbR {n r:Nat} (h1:r*r <= n) (h2:n<(r+1)*(r+1)):Pv.root n=r:=by
 obtain⟨g1,g2⟩:=jm n
 generalize Pv.root n=s at g1 g2
 have a:¬ r<s:=fun z=>by
  have:=Nat.mul_le_mul (show r+1 <= s from z) (show r+1 <= s from z)
  lia
 have b:¬ s<r:=fun z=>by
  have:=Nat.mul_le_mul (show s+1 <= r from z) (show s+1 <= r from z)
  lia
 lia
theorem jI {a b:Nat}:a*a<b*b↔a<b:=by
 constructor
 ·intro h
  refine Nat.lt_of_not_le fun z=>?_
  have:=Nat.mul_le_mul z z
  lia
 ·intro h
  exact Nat.mul_lt_mul'' h h
theorem qb3 {n f c:Nat} (h1:f*f <= n) (h2:n<(f+1)*(f+1)):c*c<n↔c<f\/(c=f/\n≠f*f):=by
 constructor
 ·intro h
  have:c<f+1:=jI.mp (Nat.lt_trans h h2)
  by_cases e:c=f
  ·subst e;exact .inr ⟨rfl,by lia⟩
  ·exact .inl (by lia)
 ·rintro (h | ⟨rfl,h⟩)
  ·exact Nat.lt_of_lt_of_le (jI.mpr h) h1
  ·lia
theorem qdH {o i j w:Nat} (ho:o%2=1) (hw:0<w) (h:o*2^j=w*2^i):o <= w:=by
 have hij:i <= j:=by
  refine Nat.le_of_not_lt fun z=>?_
  obtain⟨d,rfl⟩:∃ d,i=j+1+d:=⟨i-j-1,by lia⟩
  rw[show j+1+d=(1+d)+j by lia,Nat.pow_add 2 (1+d) j,<- Nat.mul_assoc] at h
  have:=Nat.eq_of_mul_eq_mul_right (two_pow_pos j) h
  rw[this,Nat.pow_add,Nat.pow_one,<- Nat.mul_assoc,Nat.mul_comm w,Nat.mul_assoc] at ho
  lia
 obtain⟨d,rfl⟩:∃ d,j=d+i:=⟨j-i,by lia⟩
 rw[Nat.pow_add,<- Nat.mul_assoc] at h
 have:=Nat.eq_of_mul_eq_mul_right (two_pow_pos i) h
 rw[<- this]
 exact Nat.le_mul_of_pos_right _ (two_pow_pos d)
theorem qfe {x:Nat} (hx:x<2^64) (hf:sz x<9218868437227405312):qen x=Pv.sqrt x:=by
 unfold qen Pv.sqrt
 by_cases h0:sz x=0
 ·rw[if_pos h0,if_pos ((v7 x).mpr h0)]
 rw[if_neg h0,if_neg (fun z=>h0 ((v7 x).mp z)),zQ x hx]
 by_cases hs:sg x=1
 ·rw[if_pos hs,if_pos (decide_eq_true hs)]
 rw[if_neg hs,if_neg (by simpa using hs)]
 dsimp only
 generalize hr:(ex x-ex x%2+962) / 2=r
 generalize hN:wh x*2^(112+ex x%2)=N
 have hw:0<wh x:=Nat.pos_of_ne_zero fun z=>h0 ((yL x).mp z)
 have hw2:=u4 x
 have hn:Pv.mag x*Pv.UNIT=N*(2^r*2^r):=by
  rw[xk,<- hN]
  unfold Pv.UNIT
  rw[Nat.mul_assoc,Nat.mul_assoc,<- Nat.pow_add,<- Nat.pow_add,<- Nat.pow_add]
  congr 2
  lia
 rw[hn]
 unfold isqrt
 obtain⟨g1,g2⟩:=jm N
 generalize hfN:Pv.root N=f at g1 g2
 -- how large
 have hNlo:2^112 <= N:=by
  rw[<- hN,Nat.pow_add]
  exact Nat.le_trans (Nat.le_mul_of_pos_right _ (two_pow_pos _)) (Nat.le_mul_of_pos_left _ hw)
 have hf56:2^56 <= f:=by
  refine Nat.le_of_not_lt fun z=>?_
  have:=Nat.mul_le_mul (show f+1 <= 2^56 from z) (show f+1 <= 2^56 from z)
  have e:(2:Nat)^56*2^56=2^112:=by decide
  lia
 -- the root of n
 obtain⟨k1,k2⟩:=jm (N*(2^r*2^r))
 generalize hR:Pv.root (N*(2^r*2^r))=R at k1 k2
 have hRlo:f*2^r <= R:=by
  have:(f*2^r)*(f*2^r)<(R+1)*(R+1):=by
   refine Nat.lt_of_le_of_lt ?_ k2
   rw[Nat.mul_mul_mul_comm]
   exact Nat.mul_le_mul_right _ g1
  have:=jI.mp this
  lia
 have hRhi:R<(f+1)*2^r:=by
  refine jI.mp (Nat.lt_of_le_of_lt k1 ?_)
  rw[Nat.mul_mul_mul_comm]
  exact Nat.mul_lt_mul_of_pos_right g2 (Nat.mul_pos (two_pow_pos r) (two_pow_pos r))
 have hRf:R / 2^r=f:=by
  have a:f <= R / 2^r:=(Nat.le_div_iff_mul_le (two_pow_pos r)).mpr hRlo
  have b:R / 2^r<f+1:=(Nat.div_lt_iff_lt_mul (two_pow_pos r)).mpr hRhi
  lia
 -- logs
 have hf0:f≠0:=by
  have:=two_pow_pos 56
  lia
 generalize hlf:f.log2=l
 have llo:2^l <= f:=by rw[<- hlf];exact jy hf0
 have lhi:f<2^(l+1):=by rw[<- hlf];exact yS hf0
 have hl56:56 <= l:=by rw[<- hlf];exact (Nat.le_log2 hf0).mpr hf56
 have hlR:R.log2=l+r:=by
  refine uF ?_ ?_
  ·rw[Nat.pow_add]
   exact Nat.le_trans (Nat.mul_le_mul_right _ llo) hRlo
  ·refine Nat.lt_of_lt_of_le hRhi ?_
   rw[show l+r+1=l+1+r by lia,Nat.pow_add]
   exact Nat.mul_le_mul_right _ lhi
 generalize hT:f*2+(if N=f*f then 0 else 1)=T
 have hTf:T=2*f\/T=2*f+1:=by rw[<- hT];split <;> lia
 have hlT:T.log2=l+1:=by
  refine uF ?_ ?_
  ·rw[Nat.pow_succ];lia
  ·rw[Nat.pow_succ,Nat.mul_comm]
   rw[Nat.pow_succ] at lhi ⊢
   lia
 have hT0:T≠0:=by lia
 have hr481:481 <= r:=by lia
 -- both sides
 unfold Pv.rootRounded
 dsimp only
 rw[hR]
 have hap:Pv.apart R=2^(l+r-52):=by unfold Pv.apart;rw[hlR]
 rw[hap]
 have ht:R / 2^(l+r-52)=f / 2^(l-52):=by
  rw[show l+r-52=r+(l-52) by lia,Nat.pow_add,<- Nat.div_div_eq_div_mul,hRf]
 rw[ht]
 obtain⟨h,hh⟩:∃ h,l-52=h+1:=⟨l-53,by lia⟩
 -- T / 2^(l-51) is F
 generalize hF:f / 2^(l-52)=F
 have hTF:T / 2^(l-51)=F:=by
  rw[<- hF,show l-51=1+(l-52) by lia,Nat.pow_add,<- Nat.div_div_eq_div_mul]
  congr 1
  lia
 have hFlo:2^52 <= F:=by
  rw[<- hF,Nat.le_div_iff_mul_le (two_pow_pos _),<- Nat.pow_add]
  exact Nat.le_trans (Nat.pow_le_pow_right (by decide) (by lia)) llo
 have hFhi:F<2^53:=by
  rw[<- hF,Nat.div_lt_iff_lt_mul (two_pow_pos _),<- Nat.pow_add]
  exact Nat.lt_of_lt_of_le lhi (Nat.pow_le_pow_right (by decide) (by lia))
 -- the half
 have hc:(2*F+1)*(2*F+1)*2^(l+r-52)*2^(l+r-52)<4*(N*(2^r*2^r))↔(2*F+1)*2^h*((2*F+1)*2^h)<N:=by
  have e1:(2:Nat)^(l+r-52)=2*(2^h*2^r):=by
   rw[show l+r-52=(h+r)+1 by lia,Nat.pow_succ,Nat.pow_add,Nat.mul_comm]
  rw[e1]
  have e2:(2*F+1)*(2*F+1)*(2*(2^h*2^r))*(2*(2^h*2^r))=4*((2*F+1)*2^h*((2*F+1)*2^h))*(2^r*2^r):=by
   rw[show (4:Nat)=2*2 from rfl]
   ac_rfl
  rw[e2,<- Nat.mul_assoc 4 N,Nat.mul_lt_mul_right (Nat.mul_pos (two_pow_pos r) (two_pow_pos r)),Nat.mul_lt_mul_left (by decide)]
 simp only[hc]
 clear hc
 generalize hcc:(2*F+1)*2^h=c
 have hlt:=qb3 (c:=c) g1 g2
 have hnt:¬ (c=f/\N=f*f):=by
  rintro⟨e1,e2⟩
  rw[<- e1,<- hcc,<- hN] at e2
  have hodd:((2*F+1)*(2*F+1))%2=1:=by
   rw[Nat.mul_mod]
   have:(2*F+1)%2=1:=by lia
   rw[this]
  have:=qdH (o:=(2*F+1)*(2*F+1)) (i:=112+ex x%2) (j:=h+h) (w:=wh x) hodd hw (by
   rw[e2,Nat.pow_add 2 h h]
   exact (Nat.mul_mul_mul_comm _ _ _ _).symm)
  have h3:2^53 <= 2*F+1:=by lia
  have:=Nat.mul_le_mul h3 h3
  have e:(2:Nat)^53 <= 2^53*2^53:=by decide
  lia
 have hround:Pv.nearest T (2^(l-51))=if c*c<N then F+1 else F:=by
  unfold Pv.nearest
  have r2:=Nat.div_add_mod T (2^(l-51))
  rw[hTF] at r2
  rw[hTF]
  have hp:2^(l-51)=4*2^h:=by
   rw[show l-51=h+2 by lia,Nat.pow_add];lia
  rw[hp] at r2 ⊢
  have e4:4*2^h*F=2*(2*(2^h*F)):=by rw[Nat.mul_assoc];lia
  have e5:c=2*(2^h*F)+2^h:=by
   rw[<- hcc,Nat.add_mul,Nat.one_mul,Nat.mul_assoc,Nat.mul_comm F]
  have hTc:c*c<N↔2*c<T:=by
   rw[hlt]
   constructor
   ·rintro (z | ⟨z,q⟩)
    ·lia
    ·rw[<- hT,if_neg q];lia
   ·intro z
    by_cases q:c=f
    ·refine .inr ⟨q,fun w=>?_⟩
     rw[<- hT,if_pos w] at z
     lia
    ·left
     lia
  have hTe:¬ (T=2*c):=fun z=>by
   by_cases q:N=f*f
   ·rw[<- hT,if_pos q] at z
    exact hnt ⟨by lia,q⟩
   ·rw[<- hT,if_neg q] at z
    lia
  have c1:(4*2^h<2*(T%(4*2^h))\/2*(T%(4*2^h))=4*2^h/\F%2=1)↔c*c<N:=by
   rw[hTc]
   constructor
   ·rintro (z | ⟨z,_⟩) <;> lia
   ·intro z
    left
    lia
  simp only[c1]
 rw[<- hround]
 have hk53:Pv.nearest T (2^(l-51)) <= 2^53:=by rw[hround];split <;> lia
 have hk52:2^52 <= Pv.nearest T (2^(l-51)):=by rw[hround];split <;> lia
 rw[Xw false (l+r-52) _ hk53 (.inr hk52)]
 unfold rnd
 rw[if_neg hT0]
 dsimp only
 rw[hlT]
 have hdrop:max (((l+1+1:Nat):Int)-53) (-((r:Int)-1))=((l-51:Nat):Int):=by lia
 have h51:¬ (((l-51:Nat):Int) <= 0):=by lia
 rw[hdrop,if_neg h51,jR]
 have e6:((r:Int)-1+((l-51:Nat):Int)).toNat=l+r-52:=by lia
 rw[e6,Int.toNat_natCast]
end Dm
set_option maxHeartbeats 2000000
namespace Dt
open PySem L2 L2.Ir
open Classical in
noncomputable def fn1 (P:Int->Prop) (h:Int->Rs (D × Bool)):Fn
 | [.int x]=>if P x then h x else .no
 | _=>.no
open Classical in
noncomputable def fn2 (P:Int->Int->Prop) (h:Int->Int->Rs (D × Bool)):Fn
 | [.int x,.int y]=>if P x y then h x y else .no
 | _=>.no
open Classical in
noncomputable def fn3 (P:Int->Int->Int->Prop) (h:Int->Int->Int->Rs (D × Bool)):Fn
 | [.int x,.int y,.int z]=>if P x y z then h x y z else .no
 | _=>.no
theorem yb {P:Int->Prop}{h:Int->Rs (D × Bool)}{x:Int} (p:P x):fn1 P h [.int x]=h x:=by unfold fn1;exact if_pos p
theorem jD {P:Int->Int->Prop}{h:Int->Int->Rs (D × Bool)}{x y:Int} (p:P x y):fn2 P h [.int x,.int y]=h x y:=by unfold fn2;exact if_pos p
theorem XT {P:Int->Int->Int->Prop}{h:Int->Int->Int->Rs (D × Bool)}{x y z:Int} (p:P x y z):fn3 P h [.int x,.int y,.int z]=h x y z:=by unfold fn3;exact if_pos p
theorem xV {P:Int->Prop}{h:Int->Rs (D × Bool)}{r:RS}{N:List Str} (q:∀ x,P x->res (r (sl0 N [.int x]))=h x):∀ ds:List D,ds.length=1->fn1 P h ds = .no\/res (r (sl0 N ds))=fn1 P h ds:=by
 intro ds hl
 match ds,hl with
 | [.int x],_ =>
  by_cases p:P x
  ·right;rw[yb p];exact q x p
  ·left;unfold fn1;exact if_neg p
 | [.non],_=>exact .inl rfl
 | [.bl _],_=>exact .inl rfl
 | [.lst _],_=>exact .inl rfl
 | [.tup _],_=>exact .inl rfl
 | [.fn _],_=>exact .inl rfl
 | [.obj _ _ _],_=>exact .inl rfl
theorem Wm {P:Int->Int->Prop}{h:Int->Int->Rs (D × Bool)}{r:RS}{N:List Str} (q:∀ x y,P x y->res (r (sl0 N [.int x,.int y]))=h x y):∀ ds:List D,ds.length=2->fn2 P h ds = .no\/res (r (sl0 N ds))=fn2 P h ds:=by
 intro ds hl
 match ds,hl with
 | [a,b],_ =>
  cases a with
  | int x =>
   cases b with
   | int y =>
    by_cases p:P x y
    ·right;rw[jD p];exact q x y p
    ·left;unfold fn2;exact if_neg p
   | _=>exact .inl rfl
  | _=>exact .inl rfl
theorem qeo {P:Int->Int->Int->Prop}{h:Int->Int->Int->Rs (D × Bool)}{r:RS}{N:List Str} (q:∀ x y z,P x y z->res (r (sl0 N [.int x,.int y,.int z]))=h x y z):∀ ds:List D,ds.length=3->fn3 P h ds = .no\/res (r (sl0 N ds))=fn3 P h ds:=by
 intro ds hl
 match ds,hl with
 | [a,b,e],_ =>
  cases a with
  | int x =>
   cases b with
   | int y =>
    cases e with
    | int z =>
     by_cases p:P x y z
     ·right;rw[XT p];exact q x y z p
     ·left;unfold fn3;exact if_neg p
    | _=>exact .inl rfl
   | _=>exact .inl rfl
  | _=>exact .inl rfl
noncomputable def U64 (x:Int):Prop:=0 <= x/\x<18446744073709551616
noncomputable instance (x:Int):Decidable (U64 x):=inferInstanceAs (Decidable (0 <= x/\x<18446744073709551616))
noncomputable def Fi (x:Int):Prop:=U64 x/\x%9223372036854775808<9218868437227405312
noncomputable instance (x:Int):Decidable (Fi x):=inferInstanceAs (Decidable (U64 x/\x%9223372036854775808<9218868437227405312))
noncomputable def iv (i:Int):Rs (D × Bool):=.ok (.int i,false)
noncomputable def bv (b:Bool):Rs (D × Bool):=.ok (.bl b,false)
noncomputable def qG:Fn:=fn1 U64 fun x=>iv (x%9223372036854775808)
noncomputable def zz:Fn:=fn1 U64 fun x=>bv (decide (x%9223372036854775808<9218868437227405312))
noncomputable def Yb:List D->Option (List Nat)
 | []=>some []
 | .lst l::r=>(Yb r).map (l.length :: ·)
 | _=>none
noncomputable def vn:Fn
 | [.lst ss,.lst ls,.lst cs]=>match intsOf ss,Yb ls,intsOf cs with
  | some ns,some ks,some ms=>if (ns.all fun n=>decide (1 <= n/\n <= 16))=true/\((ks.zip ms).all fun p=>decide ((p.1:Int)=p.2))=true then .ok (.non,false) else .er "WrongCount"
  | _,_,_=>.no
 | _=>.no
noncomputable def vf:Fn
 | [.lst xs]=>match intsOf xs with
  | some ns=>if ∀ n∈ns,U64 n then (if ∀ n∈ns,Fi n then .ok (.non,false) else .er "NotFinite") else .no
  | none=>.no
 | _=>.no
noncomputable def qT:Fn
 | [.lst xs]=>if xs.all D.sc=true/\xs.length<LIM then .ok (.lst (.int xs.length::xs),true) else .no
 | _=>.no
noncomputable def yz (a:PvCalls.Answer):Rs (D × Bool):=match a with
 | .refused z=>if z = -1 then .er "WrongCount" else if z = -2 then .er "NotFinite" else if z = -3 then .er "StepNotFinite" else if z = -4 then .er "NotAsTold" else .no
 | a=>.ok (.lst ((TableNeutral.told a).tail.map D.int),true)
noncomputable abbrev je (ns:List Int):Prop:=∀ n∈ns,U64 n
noncomputable def nats (ns:List Int):List Nat:=ns.map Int.toNat
noncomputable def QU:RS:=(vK (qh (jT Builtin.bitAnd) (qa 0) (qh wg (rC (.int (9223372036854775808))) (rC (.int 1)))))
noncomputable def xE:RS:=(vK (qh (yq fun i j=>decide (i<j)) (qe qG (qc (qa 0) qi)) (rC (.int (9218868437227405312)))))
noncomputable def yk:RS:=(vt (Yl (.one 3) 0 (sIf (Z6 (tBl (qh (yq fun i j=>decide (i<j)) (qa 3) (rC (.int 1)))) (tBl (qh (yq fun i j=>decide (j<i)) (qa 3) (rC (.int (16)))))) (wJ "WrongCount") wC)) (qaw (.two 4 5) (X9 (qa 1) (qa 2)) (sIf (tBl (qh (oEq true) (wu yX (qc (qa 4) qi)) (qa 5))) (wJ "WrongCount") wC)))
noncomputable def ye:RS:=(Yl (.one 1) 0 (sIf (xK (tBl (qe zz (qc (qa 1) qi)))) (wJ "NotFinite") wC))
noncomputable def QE:RS:=(vK (qh wm (Qh (qc (wu yX (qc (qa 0) qi)) qi)) (qa 0)))
noncomputable abbrev Hr (r:RS) (N:List Str) (n:Nat) (g:Fn):Prop:=∀ ds:List D,ds.length=n->g ds = .no\/res (r (sl0 N ds))=g ds
theorem qcg (x:Int) (h:U64 x):res (QU (sl0 ["x"] [.int x]))=iv (x%9223372036854775808):=by
 have e:Builtin.bitAnd x (2^63-1)=x%2^63:=Bits.Vf 63 h.1
 have e2:Builtin.bitAnd x (9223372036854775808-1)=x%9223372036854775808:=e
 show (Rs.ok (D.int (Builtin.bitAnd x (9223372036854775808-1)),false):Rs (D × Bool))=_
 rw[e2]
 rfl
theorem JC:Hr QU ["x"] 1 qG:=xV qcg
theorem xf {x:Int} (h:U64 x):qG [.int x]=iv (x%9223372036854775808):=yb h
theorem Um (x:Int) (h:U64 x):res (xE (sl0 ["x"] [.int x]))=bv (decide (x%9223372036854775808<9218868437227405312)):=by
 simp [xE,sl0,vK,freeze,frz,qh,qa,rC,qe,qc,qi,yq,res,bv,iv,Rs.bind,xf h,kB]
theorem Xg:Hr xE ["x"] 1 zz:=xV Um
theorem Vg {x:Int} (h:U64 x):zz [.int x]=bv (decide (x%9223372036854775808<9218868437227405312)):=yb h
theorem xG {tg:Tg}{body:RS}{c:Str}{good:DK->Prop}{J:Dl->Prop}:∀ {xs:List DK},(∀ x∈xs,∀ δ,J δ->∃ δ1,tg.put x δ=some δ1/\(good x->∃ δ2,body δ1 = .nx δ2/\J δ2)/\(¬ good x->body δ1 = .er c)) ->
  ∀ δ,J δ->((∀ x∈xs,good x)->∃ δ',turns tg body xs δ = .nx δ'/\J δ')/\(¬ (∀ x∈xs,good x)->turns tg body xs δ = .er c)
 | [],_,δ,j=>⟨fun _=>⟨δ,rfl,j⟩,fun h=>absurd (fun x hx=>absurd hx (by simp)) h⟩
 | x::r,st,δ,j=>by
  obtain⟨δ1,hp,h1,h2⟩:=st x (List.mem_cons_self) δ j
  have ih:=xG (xs:=r) fun y hy=>st y (List.mem_cons_of_mem _ hy)
  by_cases g:good x
  ·obtain⟨δ2,hb,j2⟩:=h1 g
   obtain⟨k1,k2⟩:=ih δ2 j2
   have e:turns tg body (x::r) δ=turns tg body r δ2:=by
    show (match tg.put x δ with | none=>_ | some δ1=>_)=_
    rw[hp]
    dsimp only
    rw[hb]
   rw[e]
   exact⟨fun h=>k1 fun y hy=>h y (List.mem_cons_of_mem _ hy),fun h=>k2 fun q=>h fun y hy=>by
    rcases List.mem_cons.mp hy with rfl | hy
    ·exact g
    ·exact q y hy⟩
  ·refine⟨fun h=>absurd (h x (List.mem_cons_self)) g,fun _=>?_⟩
   show (match tg.put x δ with | none=>_ | some δ1=>_)=_
   rw[hp]
   dsimp only
   rw[h2 g]
theorem qaI:∀ {ls:List D}{ks:List Nat},Yb ls=some ks->∃ xss:List (List D),ls=xss.map D.lst/\ks=xss.map List.length
 | [],ks,h=>by cases h;exact⟨[],rfl,rfl⟩
 | .lst l::r,ks,h=>by
  have h:(Yb r).map (l.length :: ·)=some ks:=h
  cases e:Yb r with
  | none=>rw[e] at h;cases h
  | some q =>
   rw[e] at h
   cases h
   obtain⟨xss,e1,e2⟩:=qaI e
   exact⟨l::xss,by rw[e1];rfl,by rw[e2];rfl⟩
 | .non::_,_,h=>nomatch h
 | .bl _::_,_,h=>nomatch h
 | .int _::_,_,h=>nomatch h
 | .tup _::_,_,h=>nomatch h
 | .fn _::_,_,h=>nomatch h
 | .obj _ _ _::_,_,h=>nomatch h
theorem UX:∀ xss:List (List D),Yb (xss.map D.lst)=some (xss.map List.length)
 | []=>rfl
 | x::r=>by show (Yb (r.map D.lst)).map (x.length :: ·)=_;rw[UX r];rfl
theorem qac {α β γ δ:Type} (f:α->γ) (g:β->δ):∀ (xs:List α) (ys:List β),(xs.map f).zip (ys.map g)=(xs.zip ys).map fun p=>(f p.1,g p.2)
 | [],_=>rfl
 | _::_,[]=>rfl
 | x::xs,y::ys=>by
  rw[List.map_cons,List.map_cons,List.zip_cons_cons,List.zip_cons_cons,List.map_cons,qac f g xs ys]
theorem WX (ns ms:List Int) (xss:List (List D)):res (yk (sl0 ["sizes","lists","counts","size","numbers","count"] [.lst (ns.map .int),.lst (xss.map .lst),.lst (ms.map .int)])) =
  if (ns.all fun n=>decide (1 <= n/\n <= 16))=true/\(((xss.map List.length).zip ms).all fun p=>decide ((p.1:Int)=p.2))=true then .ok (.non,false) else .er "WrongCount":=by
 have hs:sl0 ["sizes","lists","counts","size","numbers","count"] [.lst (ns.map .int),.lst (xss.map .lst),.lst (ms.map .int)]=[.val (.lst (ns.map .int)) false,.val (.lst (xss.map .lst)) false,.val (.lst (ms.map .int)) false,.un,.un,.un]:=rfl
 rw[hs]
 generalize hA:Sl.val (.lst (ns.map .int)) false=A
 generalize hB:Sl.val (.lst (xss.map .lst)) false=B
 generalize hC:Sl.val (.lst (ms.map .int)) false=C
 -- the sizes
 have L1:=xG (tg:=.one 3) (c:="WrongCount") (body:=sIf (Z6 (tBl (qh (yq fun i j=>decide (i<j)) (qa 3) (rC (.int 1)))) (tBl (qh (yq fun i j=>decide (j<i)) (qa 3) (rC (.int (16)))))) (wJ "WrongCount") wC)
  (good:=fun x=>∃ n,x.1 = .int n/\1 <= n/\n <= 16) (J:=fun δ=>∃ s:Sl,δ=[A,B,C,s,.un,.un]) (xs:=(ns.map D.int).map fun d=>(d,Kd.sh)) (by
   rintro x hx δ ⟨s,rfl⟩
   rw[List.map_map] at hx
   obtain⟨n,_,rfl⟩:=List.mem_map.mp hx
   refine⟨[A,B,C,.val (.int n) true,.un,.un],rfl,fun⟨m,e,h1,h2⟩=>⟨[A,B,C,.val (.int n) true,.un,.un],?_,.val (.int n) true,rfl⟩,fun h=>?_⟩
   ·cases e
    have e1:¬ n<1:=by lia
    have e2:¬ 16<n:=by lia
    simp [sIf,Z6,tBl,qh,qa,rC,yq,Rs.bind,wC,e1,e2]
   ·by_cases h1:n<1
    ·simp [sIf,Z6,tBl,qh,qa,rC,yq,Rs.bind,wJ,h1]
    ·have h2:16<n:=by
      refine Int.not_le.mp fun q=>h ⟨n,rfl,by lia,q⟩
     simp [sIf,Z6,tBl,qh,qa,rC,yq,Rs.bind,wJ,h1,h2]) [A,B,C,.un,.un,.un] ⟨.un,rfl⟩
 have g1:(∀ x∈(ns.map D.int).map fun d=>(d,Kd.sh),∃ n,x.1 = .int n/\1 <= n/\n <= 16)↔(ns.all fun n=>decide (1 <= n/\n <= 16))=true:=by
  rw[List.all_eq_true]
  constructor
  ·intro h n hn
   obtain⟨m,e,h1,h2⟩:=h (.int n,.sh) (by rw[List.map_map];exact List.mem_map.mpr ⟨n,hn,rfl⟩)
   cases e
   exact decide_eq_true ⟨h1,h2⟩
  ·intro h x hx
   rw[List.map_map] at hx
   obtain⟨n,hn,rfl⟩:=List.mem_map.mp hx
   have:=of_decide_eq_true (h n hn)
   exact⟨n,rfl,this.1,this.2⟩
 have f1:∀ rb,Yl (.one 3) 0 rb [A,B,C,.un,.un,.un]=turns (.one 3) rb ((ns.map D.int).map fun d=>(d,Kd.sh)) [A,B,C,.un,.un,.un]:=fun rb=>by rw[<- hA];rfl
 unfold yk vt
 rw[f1]
 by_cases c1:(ns.all fun n=>decide (1 <= n/\n <= 16))=true
 ·obtain⟨δ',e1,s,rfl⟩:=L1.1 (g1.mpr c1)
  rw[e1]
  dsimp only[Out.andThen]
  have f2:∀ rb,qaw (.two 4 5) (X9 (qa 1) (qa 2)) rb [A,B,C,s,.un,.un]=turns (.two 4 5) rb (((xss.map D.lst).zip (ms.map D.int)).map fun p=>(.tup [p.1,p.2],Kd.sh)) [A,B,C,s,.un,.un]:=fun rb=>by rw[<- hB,<- hC];rfl
  rw[f2,qac,List.map_map]
  have L2:=xG (tg:=.two 4 5) (c:="WrongCount") (body:=sIf (tBl (qh (oEq true) (wu yX (qc (qa 4) qi)) (qa 5))) (wJ "WrongCount") wC)
   (good:=fun x=>∃ l m,x.1 = .tup [.lst l,.int m]/\(l.length:Int)=m) (J:=fun δ=>∃ s1 s2:Sl,δ=[A,B,C,s,s1,s2]) (xs:=(xss.zip ms).map ((fun p:D × D=>(D.tup [p.1,p.2],Kd.sh)) ∘ fun p:List D × Int=>(D.lst p.1,D.int p.2))) (by
    rintro x hx δ ⟨s1,s2,rfl⟩
    obtain⟨⟨l,m⟩,hp,rfl⟩:=List.mem_map.mp hx
    refine⟨[A,B,C,s,.val (.lst l) false,.val (.int m) true],rfl,fun⟨l',m',e,h1⟩=>⟨[A,B,C,s,.val (.lst l) false,.val (.int m) true],?_,_,_,rfl⟩,fun h=>?_⟩
    ·cases e
     unfold sIf
     rw[show tBl (qh (oEq true) (wu yX (qc (qa 4) qi)) (qa 5)) [A,B,C,s,.val (.lst l) false,.val (.int m) true] = .ok (!decide ((l.length:Int)=m)) from rfl,decide_eq_true h1]
     rfl
    ·have h1:¬ (l.length:Int)=m:=fun q=>h ⟨l,m,rfl,q⟩
     unfold sIf
     rw[show tBl (qh (oEq true) (wu yX (qc (qa 4) qi)) (qa 5)) [A,B,C,s,.val (.lst l) false,.val (.int m) true] = .ok (!decide ((l.length:Int)=m)) from rfl,decide_eq_false h1]
     rfl) [A,B,C,s,.un,.un] ⟨.un,.un,rfl⟩
  have g2:(∀ x∈(xss.zip ms).map ((fun p:D × D=>(D.tup [p.1,p.2],Kd.sh)) ∘ fun p:List D × Int=>(D.lst p.1,D.int p.2)),∃ l m,x.1 = .tup [.lst l,.int m]/\(l.length:Int)=m)↔(((xss.map List.length).zip ms).all fun p=>decide ((p.1:Int)=p.2))=true:=by
   have e:(xss.map List.length).zip ms=(xss.zip ms).map fun p=>(p.1.length,p.2):=by
    have:=qac List.length (id:Int->Int) xss ms
    rw[List.map_id] at this
    exact this
   rw[e,List.all_map,List.all_eq_true]
   constructor
   ·intro h p hp
    obtain⟨l,m,e,h1⟩:=h _ (List.mem_map.mpr ⟨p,hp,rfl⟩)
    cases e
    exact decide_eq_true h1
   ·intro h x hx
    obtain⟨p,hp,rfl⟩:=List.mem_map.mp hx
    exact⟨p.1,p.2,rfl,of_decide_eq_true (h p hp)⟩
  by_cases c2:(((xss.map List.length).zip ms).all fun p=>decide ((p.1:Int)=p.2))=true
  ·obtain⟨δ',e2,_⟩:=L2.1 (g2.mpr c2)
   rw[e2,if_pos ⟨c1,c2⟩]
   rfl
  ·rw[L2.2 (fun h=>c2 (g2.mp h)),if_neg (fun h=>c2 h.2)]
   rfl
 ·have e1:=L1.2 (fun h=>c1 (g1.mp h))
  rw[e1,if_neg (fun h=>c1 h.1)]
  rfl
theorem Vv:Hr yk ["sizes","lists","counts","size","numbers","count"] 3 vn:=by
 intro ds hl
 match ds,hl with
 | [a,b,c],_ =>
  cases a with
  | lst ss =>
   cases b with
   | lst ls =>
    cases c with
    | lst cs =>
     show (match intsOf ss,Yb ls,intsOf cs with | some ns,some ks,some ms=>_ | _,_,_=>Rs.no) = .no\/_=(match intsOf ss,Yb ls,intsOf cs with | some ns,some ks,some ms=>_ | _,_,_=>Rs.no)
     cases e1:intsOf ss with
     | none=>exact .inl rfl
     | some ns =>
      cases e2:Yb ls with
      | none=>exact .inl rfl
      | some ks =>
       cases e3:intsOf cs with
       | none=>exact .inl rfl
       | some ms =>
        right
        obtain⟨xss,rfl,rfl⟩:=qaI e2
        have h1:=zJ e1
        have h3:=zJ e3
        subst h1 h3
        exact WX ns ms xss
    | _=>exact .inl rfl
   | _=>exact .inl rfl
  | _=>exact .inl rfl
theorem W4 (ns:List Int) (h:je ns):res (ye (sl0 ["numbers","x"] [.lst (ns.map .int)]))=if ∀ n∈ns,Fi n then Rs.ok (D.non,false) else Rs.er "NotFinite":=by
 have hs:sl0 ["numbers","x"] [.lst (ns.map .int)]=[.val (.lst (ns.map .int)) false,.un]:=rfl
 rw[hs]
 generalize hA:Sl.val (.lst (ns.map .int)) false=A
 have L1:=xG (tg:=.one 1) (c:="NotFinite") (body:=sIf (xK (tBl (qe zz (qc (qa 1) qi)))) (wJ "NotFinite") wC)
  (good:=fun x=>∃ n,x.1 = .int n/\Fi n) (J:=fun δ=>∃ s:Sl,δ=[A,s]) (xs:=(ns.map D.int).map fun d=>(d,Kd.sh)) (by
   rintro x hx δ ⟨s,rfl⟩
   rw[List.map_map] at hx
   obtain⟨n,hn,rfl⟩:=List.mem_map.mp hx
   have hu:=h n hn
   refine⟨[A,.val (.int n) true],rfl,fun⟨m,e,h1⟩=>⟨[A,.val (.int n) true],?_,_,rfl⟩,fun q=>?_⟩
   ·cases e
    simp [sIf,xK,tBl,qe,qc,qi,qa,Rs.bind,wC,Vg hu,bv,h1.2]
   ·have h1:¬ n%9223372036854775808<9218868437227405312:=fun z=>q ⟨n,rfl,hu,z⟩
    simp [sIf,xK,tBl,qe,qc,qi,qa,Rs.bind,wJ,Vg hu,bv,h1]) [A,.un] ⟨.un,rfl⟩
 have g1:(∀ x∈(ns.map D.int).map fun d=>(d,Kd.sh),∃ n,x.1 = .int n/\Fi n)↔∀ n∈ns,Fi n:=by
  constructor
  ·intro q n hn
   obtain⟨m,e,h1⟩:=q (.int n,.sh) (by rw[List.map_map];exact List.mem_map.mpr ⟨n,hn,rfl⟩)
   cases e
   exact h1
  ·intro q x hx
   rw[List.map_map] at hx
   obtain⟨n,hn,rfl⟩:=List.mem_map.mp hx
   exact⟨n,rfl,q n hn⟩
 have f1:∀ rb,Yl (.one 1) 0 rb [A,.un]=turns (.one 1) rb ((ns.map D.int).map fun d=>(d,Kd.sh)) [A,.un]:=fun rb=>by rw[<- hA];rfl
 unfold ye
 rw[f1]
 by_cases c:∀ n∈ns,Fi n
 ·obtain⟨δ',e,_⟩:=L1.1 (g1.mpr c)
  rw[e,if_pos c]
  rfl
 ·rw[L1.2 (fun q=>c (g1.mp q)),if_neg c]
  rfl
theorem Vo:Hr ye ["numbers","x"] 1 vf:=by
 intro ds hl
 match ds,hl with
 | [.lst xs],_ =>
  unfold vf
  dsimp only
  cases e:intsOf xs with
  | none=>exact .inl rfl
  | some ns =>
   dsimp only
   by_cases c:∀ n∈ns,U64 n
   ·right
    rw[if_pos c]
    have q:=zJ e
    subst q
    rw[W4 ns c]
   ·left;exact if_neg c
 | [.non],_=>exact .inl rfl
 | [.bl _],_=>exact .inl rfl
 | [.int _],_=>exact .inl rfl
 | [.tup _],_=>exact .inl rfl
 | [.fn _],_=>exact .inl rfl
 | [.obj _ _ _],_=>exact .inl rfl
theorem Zg {ns:List Int} (h:je ns):vf [.lst (ns.map .int)]=if ∀ n∈ns,Fi n then Rs.ok (D.non,false) else Rs.er "NotFinite":=by
 unfold vf
 dsimp only
 rw[ints_map]
 exact if_pos h
theorem Zj (ns ms:List Int) (xss:List (List D)):vn [.lst (ns.map .int),.lst (xss.map .lst),.lst (ms.map .int)] =
  if (ns.all fun n=>decide (1 <= n/\n <= 16))=true/\(((xss.map List.length).zip ms).all fun p=>decide ((p.1:Int)=p.2))=true then .ok (.non,false) else .er "WrongCount":=by
 unfold vn
 dsimp only
 rw[ints_map,UX,ints_map]
theorem VM {r:RE}{δ:Dl}{ds:List D} (h:r (freeze δ) = .ok (.lst ds,.fr)):vK r δ = .rt (.lst ds) true:=by unfold vK;rw[h]
theorem vM {r:RE}{δ:Dl}{d:D} (h:r (freeze δ) = .ok (d,.nw)):vK r δ = .rt d false:=by
 unfold vK
 rw[h]
 cases d <;> rfl
theorem uD {r:RE}{δ:Dl}{c:Str} (h:r (freeze δ) = .er c):vK r δ = .er c:=by unfold vK;rw[h]
theorem vP {r:RE}{δ:Dl}{i:Nat}{d:D}{k:Kd} (h:r δ = .ok (d,k)) (c:d.sc=true):vd i r δ = .nx (δ.set i (.val d true)):=by
 unfold vd
 rw[h]
 cases k <;> cases d <;> first | rfl | cases c
theorem jH {r:RE}{δ:Dl}{i:Nat}{d:D} (h:r δ = .ok (d,.nw)):vd i r δ = .nx (δ.set i (.val d true)):=by
 unfold vd
 rw[h]
 cases d <;> simp [uo]
theorem XO {r:RE}{δ:Dl}{i:Nat}{c:Str} (h:r δ = .er c):vd i r δ = .er c:=by unfold vd;rw[h]
theorem Zk {r:RE}{δ:Dl}{x:DK} (h:r δ = .ok x):uV r δ = .nx δ:=by unfold uV;rw[h]
theorem Zb {r:RE}{δ:Dl}{c:Str} (h:r δ = .er c):uV r δ = .er c:=by unfold uV;rw[h]
theorem qE {a b:RS}{δ δ1:Dl} (h:a δ = .nx δ1):vt a b δ=b δ1:=by unfold vt;rw[h];rfl
theorem y8 {a b:RS}{δ:Dl}{c:Str} (h:a δ = .er c):vt a b δ = .er c:=by unfold vt;rw[h];rfl
theorem uB {a b:RS}{δ:Dl}{d:D}{k:Bool} (h:a δ = .rt d k):vt a b δ = .rt d k:=by unfold vt;rw[h];rfl
theorem uh {t:RT}{a b:RS}{δ:Dl} (h:t δ = .ok true):sIf t a b δ=a δ:=by unfold sIf;rw[h];rfl
theorem qbn {t:RT}{a b:RS}{δ:Dl} (h:t δ = .ok false):sIf t a b δ=b δ:=by unfold sIf;rw[h];rfl
theorem qcV {α β:Type}{p:α->Option β}{h:α->β}:∀ {l:List α},(∀ x∈l,p x=some (h x))->l.filterMap p=l.map h
 | [],_=>rfl
 | x::r,k=>by
  rw[List.filterMap_cons,k x (List.mem_cons_self),List.map_cons,qcV fun y hy=>k y (List.mem_cons_of_mem _ hy)]
theorem ZZ:Hr QE ["numbers"] 1 qT:=by
 intro ds hl
 match ds,hl with
 | [.lst xs],_ =>
  unfold qT
  dsimp only
  by_cases c:xs.all D.sc=true/\xs.length<LIM
  ·right
   rw[if_pos c]
   have hl2:1+xs.length <= LIM:=by have:=c.2;lia
   have hl3:(D.int xs.length::xs).all D.sc=true:=by rw[List.all_cons,c.1];rfl
   have hx:vK (qh wm (Qh (qc (wu yX (qc (qa 0) qi)) qi)) (qa 0)) [.val (.lst xs) false] = .rt (.lst (.int xs.length::xs)) true:=by
    refine VM ?_
    show (if 1+xs.length <= LIM then Rs.ok (D.lst ([D.int xs.length]++xs),kL ([D.int xs.length]++xs) (Kd.low .fr .sh)) else .no)=_
    rw[if_pos hl2]
    show Rs.ok (D.lst (D.int xs.length::xs),kL (D.int xs.length::xs) (Kd.low .fr .sh))=_
    unfold kL
    rw[if_pos hl3]
   show res (vK _ _)=_
   rw[show sl0 ["numbers"] [.lst xs]=[.val (.lst xs) false] from rfl,hx]
   rfl
  ·left;exact if_neg c
 | [.non],_=>exact .inl rfl
 | [.bl _],_=>exact .inl rfl
 | [.int _],_=>exact .inl rfl
 | [.tup _],_=>exact .inl rfl
 | [.fn _],_=>exact .inl rfl
 | [.obj _ _ _],_=>exact .inl rfl
theorem Qv {xs:List D} (h:xs.all D.sc=true) (hl:xs.length<LIM):qT [.lst xs] = .ok (.lst (.int xs.length::xs),true):=by
 unfold qT
 exact if_pos ⟨h,hl⟩
theorem qf {ra:RE}{rr:RA}{δ:Dl}{x:DK}{xs:List DK} (h:ra δ = .ok x) (h2:rr δ = .ok xs):qc ra rr δ = .ok (x::xs):=by unfold qc;rw[h,h2];rfl
theorem qu {δ:Dl}:qi δ = .ok []:=rfl
theorem XQ {r:RA}{δ:Dl}{xs:List DK} (h:r δ = .ok xs) (hl:xs.length <= LIM):Qh r δ = .ok (.lst (xs.map (·.1)),kL (xs.map (·.1)) (vj xs)):=by
 unfold Qh
 rw[h]
 exact if_pos hl
theorem qk {f:DK->DK->Rs DK}{ra rb:RE}{δ:Dl}{x y:DK} (h:ra δ = .ok x) (h2:rb δ = .ok y):qh f ra rb δ=f x y:=by unfold qh;rw[h,h2];rfl
theorem yf {f:DK->Rs DK}{ra:RE}{δ:Dl}{x:DK} (h:ra δ = .ok x):rUn f ra δ=f x:=by unfold rUn;rw[h];rfl
theorem qO {g:Fn}{r:RA}{δ:Dl}{xs:List DK} (h:r δ = .ok xs):qe g r δ=(g (xs.map (·.1))).bind fun y=>.ok (y.1,kB y.2):=by unfold qe;rw[h];rfl
theorem Ux {xs:List D}{k:Kd} (h:xs.all D.sc=true):kL xs k = .fr:=by unfold kL;exact if_pos h
theorem zA {r:RE}{δ:Dl}{n:Nat}{k:Kd} (h:r δ = .ok (.int n,k)) (hn:n<1000000):v8 r δ = .ok (true,(List.range n).map fun (k:Nat)=>(D.int k,.nw)):=by
 unfold v8
 rw[h]
 rw[Rs.qM]
 dsimp only
 rw[if_pos (by lia),Int.toNat_natCast]
theorem qbD {ra:RE}{rl rh rs:RO}{δ:Dl}{xs:List D}{k:Kd}{lo hi st:Option Int} (h:ra δ = .ok (.lst xs,k)) (hl:rl δ = .ok lo) (hh:rh δ = .ok hi) (hs:rs δ = .ok st) (h0:st≠some 0) :
  Zt ra rl rh rs δ = .ok (.lst (pick xs lo hi st),kL (pick xs lo hi st) (k.low .nw)):=by
 unfold Zt
 rw[h,hl,hh,hs]
 exact if_neg h0
theorem uW {x:Int} (k:Nat) (hk:k <= 60000) (h:x.natAbs<2^k):few x:=Nat.lt_of_lt_of_le h (Nat.pow_le_pow_right (by decide) hk)
theorem qaL {x:Int} (h:U64 x):few x:=uW 64 (by decide) (by obtain⟨a,b⟩:=h;lia)
theorem u9 {i j:Int}{k l:Kd} (hi:few i) (hj:few j):jY (.int i,k) (.int j,l) = .ok (.int (i*j),.nw):=by
 unfold jY
 exact if_pos ⟨hi,hj⟩
theorem qdc {m:Int} (h:U64 m):(1 <= m/\m <= 16)↔PvCalls.size m.toNat=true:=by
 unfold PvCalls.size PvCalls.SIZE
 obtain⟨a,b⟩:=h
 rw[Bool.and_eq_true,decide_eq_true_eq,decide_eq_true_eq]
 lia
theorem qbm {x:Int} (h:U64 x):Fi x↔Pv.isFinite x.toNat=true:=by
 rw[Dm.JV,decide_eq_true_eq]
 unfold Fi Dm.sz
 obtain⟨a,b⟩:=h
 constructor
 ·rintro⟨_,q⟩;lia
 ·intro q;exact⟨⟨a,b⟩,by lia⟩
theorem qde {ns:List Int} (h:je ns):(∀ n∈ns,Fi n)↔(nats ns).all Pv.isFinite=true:=by
 rw[List.all_eq_true]
 unfold nats
 constructor
 ·intro q x hx
  obtain⟨n,hn,rfl⟩:=List.mem_map.mp hx
  exact (qbm (h n hn)).mp (q n hn)
 ·intro q n hn
  exact (qbm (h n hn)).mpr (q _ (List.mem_map.mpr ⟨n,hn,rfl⟩))
theorem Qq (ns:List Int):(nats ns).length=ns.length:=List.length_map _
theorem Ys {ns:List Int} (h:je ns) (k:Nat):(((nats ns).getD k 0:Nat):Int)=ns.getD k 0:=by
 unfold nats
 rw[List.getD_eq_getElem?_getD,List.getElem?_map,List.getD_eq_getElem?_getD]
 cases e:ns[k]? with
 | none=>rfl
 | some x =>
  have:=(h x (List.mem_of_getElem? e)).1
  show ((x.toNat:Nat):Int)=x
  lia
theorem qb9 {ns:List Int} (h:je ns):(nats ns).map (fun (n:Nat)=>(n:Int))=ns:=by
 unfold nats
 rw[List.map_map]
 conv=>rhs;rw[<- List.map_id ns]
 refine List.map_congr_left fun n hn=>?_
 have:=(h n hn).1
 show ((n.toNat:Nat):Int)=n
 lia
theorem qaH {α:Type} (rows:List (Nat × List Nat)) (x:Pv.Did α) (f:α->PvCalls.Answer):yz (PvCalls.given rows x f) =
  if PvCalls.fits rows=true then (if (rows.all fun r=>r.2.all Pv.isFinite)=true then yz (match x with | .error e=>.refused e | .ok y=>f y) else .er "NotFinite") else .er "WrongCount":=by
 unfold PvCalls.given PvCalls.no
 cases h1:PvCalls.fits rows with
 | false=>rfl
 | true =>
  cases h2:(rows.all fun r=>r.2.all Pv.isFinite) with
  | false=>rfl
  | true =>
   simp only[Bool.true_eq_false,if_false,if_true]
   cases x <;> rfl
theorem Jg (c:PvCalls.Call):yz (PvCalls.answer c)=if PvCalls.goes c=true then yz (PvCalls.reckon c) else .er "WrongCount":=by
 unfold PvCalls.answer PvCalls.no
 cases h:PvCalls.goes c with
 | false=>rfl
 | true=>rfl
theorem qf1 {m n i j:Nat}{f:Nat->Nat->Pv.F64} (hi:i<m) (hj:j<n):(Pv.tableBy m n f).at_ i j=f i j:=by
 unfold Pv.tableBy Pv.Table.at_
 have e:((List.range m).map fun i=>(List.range n).map fun j=>f i j).getD i []=(List.range n).map fun j=>f i j:=by
  rw[List.getD_eq_getElem?_getD,List.getElem?_map,List.getElem?_range hi]
  rfl
 rw[e,List.getD_eq_getElem?_getD,List.getElem?_map,List.getElem?_range hj]
 rfl
noncomputable abbrev LL:List (Str × Int):=[("WrongCount",1),("NotFinite",2),("StepNotFinite",3),("NotAsTold",4)]
noncomputable def Few:PvCalls.Answer->Prop
 | .refused z=>z = -1\/z = -2\/z = -3\/z = -4
 | .row l=>l.length <= 1000
 | .number _=>True
 | .rows l k=>l.length <= 1000/\k.length <= 1000
 | .lu x p _=>x.length <= 1000/\p.length <= 1000
 | .told _ l=>l.length <= 100000
theorem qdg {a:PvCalls.Answer} (h:Few a):qbi LL (yz a)=some ((TableNeutral.told a).map D.int):=by
 cases a with
 | refused z=>rcases h with rfl | rfl | rfl | rfl <;> rfl
 | number x=>rfl
 | row l=>rfl
 | rows l k=>rfl
 | lu x p t=>rfl
 | told e l=>rfl
theorem qdt {a:PvCalls.Answer} (h:Few a):((TableNeutral.told a).map D.int).length <= LIM:=by
 rw[List.length_map]
 show _ <= 16777216
 cases a with
 | refused z=>exact Nat.le_of_ble_eq_true rfl
 | number x=>exact Nat.le_of_ble_eq_true rfl
 | row l=>simp only[TableNeutral.told,TableNeutral.rowN,TableNeutral.ints,List.length_cons,List.length_map];have:l.length <= 1000:=h;lia
 | rows l k=>simp only[TableNeutral.told,TableNeutral.rowN,TableNeutral.ints,List.length_cons,List.length_map,List.length_append];have:l.length <= 1000/\k.length <= 1000:=h;lia
 | lu x p t=>simp only[TableNeutral.told,TableNeutral.rowN,TableNeutral.ints,List.length_cons,List.length_map,List.length_append,List.length_nil];have:x.length <= 1000/\p.length <= 1000:=h;lia
 | told e l=>simp only[TableNeutral.told,TableNeutral.rowN,TableNeutral.ints,List.length_cons,List.length_map];have:l.length <= 100000:=h;lia
theorem ZI {z:Int} (h:U64 z):TableNeutral.nat z=some z.toNat:=by
 unfold TableNeutral.nat
 exact if_neg (by have:=h.1;lia)
theorem U8:∀ {ns:List Int},je ns->ns.mapM TableNeutral.nat=some (nats ns)
 | [],_=>rfl
 | n::r,h=>by
  rw[List.mapM_cons,ZI (h n (List.mem_cons_self)),U8 fun x hx=>h x (List.mem_cons_of_mem _ hx)]
  rfl
theorem qgC {c:PvCalls.Call} (h:PvCalls.goes c=true->Few (PvCalls.reckon c)):Few (PvCalls.answer c):=by
 unfold PvCalls.answer PvCalls.no
 cases e:PvCalls.goes c with
 | false=>exact .inl rfl
 | true=>exact h e
theorem qcw {α:Type}{rows:List (Nat × List Nat)}{x:Pv.Did α}{f:α->PvCalls.Answer} (h:match x with | .error e=>Few (.refused e) | .ok y=>Few (f y)):Few (PvCalls.given rows x f):=by
 unfold PvCalls.given PvCalls.no
 split
 ·exact .inl rfl
 ·split
  ·exact .inr (.inl rfl)
  ·cases x with
   | error e=>exact h
   | ok y=>exact h
theorem qbT {m n:Nat} (hm:PvCalls.size m=true) (hn:PvCalls.size n=true):m*n <= 1000:=by
 unfold PvCalls.size PvCalls.SIZE at hm hn
 rw[Bool.and_eq_true,decide_eq_true_eq,decide_eq_true_eq] at hm hn
 have:m*n <= 16*16:=Nat.mul_le_mul hm.2 hn.2
 lia
open PySem.W (Codec)
theorem qao {z:Int} (h:Codec.inInt 0 18446744073709551615 z=true):U64 z:=by
 have:=Codec.inInt_iff.mp h
 exact⟨this.1,by lia⟩
theorem qeJ {ns:List Int} (h:ns.all (Codec.inInt 0 18446744073709551615)=true):je ns:=fun n hn=>qao (List.all_eq_true.mp h n hn)
theorem Zc (ns:List Int):(ns.map D.int).map Ir.toV=ns.map V.int:=by
 rw[List.map_map]
 rfl
theorem xH {K:PySem.W.Frag}{C N:Addr}{nm q bs hdct sn sub ab col dd k0 k1 k2 k3 k5} (l:K.lookup C=some (excClassObj nm q C N bs uU hdct sn sub ab col dd k0 k1 k2 k3 k5 Xl)) (h1:PySem.W.nsOkIn K N=true) (h2:PySem.W.nsIn K N "__init__"=some none):qY K C=true:=by
 exact (@decide_eq_true_iff (qgR K C) (Classical.propDecidable _)).mpr ⟨_,_,_,_,_,_,_,_,_,_,_,_,_,_,_,l,h1,h2⟩
theorem VL {K:PySem.W.Frag}{N:Addr}{oc od es n sl} (l:K.lookup N=some ⟨oc,od,.dict es n,sl⟩) (h:(es.toList.all fun e=>match e.key with | .str _ _=>true | _=>false)=true):PySem.W.nsOkIn K N=true:=by
 unfold PySem.W.nsOkIn
 rw[l]
 show (es.all fun e=>match e.key with | .str _ _=>true | _=>false)=true
 rw[<- Array.all_toList]
 exact h
theorem qik {mg:Str->Option Value}{K:PySem.W.Frag}{C1 C2 C3 C4:Addr} (m1:mg "WrongCount"=some (.ref C1)) (m2:mg "NotFinite"=some (.ref C2)) (m3:mg "StepNotFinite"=some (.ref C3)) (m4:mg "NotAsTold"=some (.ref C4))
  (x1:qY K C1=true) (x2:qY K C2=true) (x3:qY K C3=true) (x4:qY K C4=true) (e2:(C2==C1)=false) (e3:(C3==C1)=false) (e4:(C3==C2)=false) (e5:(C4==C1)=false) (e6:(C4==C2)=false) (e7:(C4==C3)=false)
  {c:Str}{C:Addr}{k:Int} (hC:mg c=some (.ref C)) (hl:LL.lookup c=some k):qY K C=true/\List.lookup C [(C1,(1:Int)),(C2,2),(C3,3),(C4,4)]=some k:=by
 have key:∀ {x:Str}{D:Addr},c=x->mg x=some (.ref D)->C=D:=fun {x D} e m=>by
  subst e
  rw[hC] at m
  cases m
  rfl
 unfold LL at hl
 rw[List.lookup_cons] at hl
 by_cases h1:c="WrongCount"
 ·have z:=key h1 m1
  subst h1 z
  cases hl
  exact⟨x1,by rw[List.lookup_cons,beq_self_eq_true]⟩
 rw[beq_eq_false_iff_ne.mpr h1,List.lookup_cons] at hl
 by_cases h2:c="NotFinite"
 ·have z:=key h2 m2
  subst h2 z
  cases hl
  exact⟨x2,by rw[List.lookup_cons,e2,List.lookup_cons,beq_self_eq_true]⟩
 rw[beq_eq_false_iff_ne.mpr h2,List.lookup_cons] at hl
 by_cases h3:c="StepNotFinite"
 ·have z:=key h3 m3
  subst h3 z
  cases hl
  exact⟨x3,by rw[List.lookup_cons,e3,List.lookup_cons,e4,List.lookup_cons,beq_self_eq_true]⟩
 rw[beq_eq_false_iff_ne.mpr h3,List.lookup_cons] at hl
 by_cases h4:c="NotAsTold"
 ·have z:=key h4 m4
  subst h4 z
  cases hl
  exact⟨x4,by rw[List.lookup_cons,e5,List.lookup_cons,e6,List.lookup_cons,e7,List.lookup_cons,beq_self_eq_true]⟩
 rw[beq_eq_false_iff_ne.mpr h4] at hl
 cases hl
theorem qgq {A B C:RA}{e:RE}{rest:RS}{δ:Dl}{va vb vc:List DK}{ss cs ns:List Int}{xss:List (List D)}{k:Kd}
  (hA:A δ = .ok va) (la:va.length <= LIM) (ea:va.map (·.1)=ss.map D.int) (hB:B δ = .ok vb) (lb:vb.length <= LIM) (eb:vb.map (·.1)=xss.map D.lst) (hC:C δ = .ok vc) (lc:vc.length <= LIM) (ec:vc.map (·.1)=cs.map D.int)
  (hE:e δ = .ok (.lst (ns.map .int),k)) (hn:je ns) :
  res (vt (uV (qe vn (qc (Qh A) (qc (Qh B) (qc (Qh C) qi))))) (vt (uV (qe vf (qc e qi))) rest) δ) =
   if (ss.all fun n=>decide (1 <= n/\n <= 16))=true/\(((xss.map List.length).zip cs).all fun p=>decide ((p.1:Int)=p.2))=true then (if ∀ n∈ns,Fi n then res (rest δ) else .er "NotFinite") else .er "WrongCount":=by
 have h1:qe vn (qc (Qh A) (qc (Qh B) (qc (Qh C) qi))) δ=if (ss.all fun n=>decide (1 <= n/\n <= 16))=true/\(((xss.map List.length).zip cs).all fun p=>decide ((p.1:Int)=p.2))=true then .ok (.non,.nw) else .er "WrongCount":=by
  rw[qO (qf (XQ hA la) (qf (XQ hB lb) (qf (XQ hC lc) qu)))]
  show (vn [.lst (va.map (·.1)),.lst (vb.map (·.1)),.lst (vc.map (·.1))]).bind _=_
  rw[ea,eb,ec,Zj]
  split <;> rfl
 by_cases c:(ss.all fun n=>decide (1 <= n/\n <= 16))=true/\(((xss.map List.length).zip cs).all fun p=>decide ((p.1:Int)=p.2))=true
 ·rw[if_pos c] at h1 ⊢
  rw[qE (Zk h1)]
  have h2:qe vf (qc e qi) δ=if ∀ n∈ns,Fi n then .ok (.non,.nw) else .er "NotFinite":=by
   rw[qO (qf hE qu)]
   show (vf [.lst (ns.map .int)]).bind _=_
   rw[Zg hn]
   split <;> rfl
  by_cases c2:∀ n∈ns,Fi n
  ·rw[if_pos c2] at h2 ⊢
   rw[qE (Zk h2)]
  ·rw[if_neg c2] at h2 ⊢
   rw[y8 (Zb h2)]
   rfl
 ·rw[if_neg c] at h1 ⊢
  rw[y8 (Zb h1)]
  rfl
noncomputable def qib {α:Type} (x:Pv.Did α) (f:α->PvCalls.Answer):PvCalls.Answer:=match x with
 | .error e=>.refused e
 | .ok y=>f y
theorem checked {α:Type}{p q:Prop} [Decidable p] [Decidable q] {c:PvCalls.Call}{rows:List (Nat × List Nat)}{x:Pv.Did α}{f:α->PvCalls.Answer}{R:Rs (D × Bool)}
  (h1:p↔PvCalls.goes c=true/\PvCalls.fits rows=true) (h2:q↔(rows.all fun r=>r.2.all Pv.isFinite)=true) (h3:p->q->R=yz (qib x f)) (hc:PvCalls.reckon c=PvCalls.given rows x f) :
  (if p then (if q then R else .er "NotFinite") else .er "WrongCount")=yz (PvCalls.answer c):=by
 rw[Jg,hc,qaH]
 by_cases a:p
 ·obtain⟨g1,g2⟩:=h1.mp a
  rw[if_pos a,if_pos g1,if_pos g2]
  by_cases b:q
  ·rw[if_pos b,if_pos (h2.mp b),h3 a b]
   rfl
  ·rw[if_neg b,if_neg (fun z=>b (h2.mpr z))]
 ·rw[if_neg a]
  by_cases g1:PvCalls.goes c=true
  ·rw[if_pos g1,if_neg (fun z=>a (h1.mpr ⟨g1,z⟩))]
  ·rw[if_neg g1]
theorem XB {m n:Int}{ns:List Int} (hm:U64 m) (hn:U64 n):(ns.length:Int)=m*n↔(nats ns).length=m.toNat*n.toNat:=by
 have e:m*n=((m.toNat*n.toNat:Nat):Int):=by
  have h1:((m.toNat:Nat):Int)=m:=Int.toNat_of_nonneg hm.1
  have h2:((n.toNat:Nat):Int)=n:=Int.toNat_of_nonneg hn.1
  rw[Int.natCast_mul,h1,h2]
 rw[e,Qq]
 lia
theorem qcM {xs ys:List D}{k l:Kd} (h:xs.length+ys.length <= LIM):wm (.lst xs,k) (.lst ys,l) = .ok (.lst (xs++ys),kL (xs++ys) (k.low l)):=if_pos h
noncomputable def vQ:Fn:=fn1 U64 fun x=>bv (decide (x%9223372036854775808=0))
noncomputable def eqB (x y:Int):Bool:=decide (x=y)||(decide (x%9223372036854775808=0)&&decide (y%9223372036854775808=0))
noncomputable def jG:RS:=(vK (qh (oEq false) (qe qG (qc (qa 0) qi)) (rC (.int 0))))
theorem qb1 (x:Int) (h:U64 x):res (jG (sl0 ["x"] [.int x]))=bv (decide (x%9223372036854775808=0)):=by
 unfold jG
 have h1:qe qG (qc (qa 0) qi) [.val (.int x) false] = .ok (.int (x%9223372036854775808),.nw):=by
  rw[qO (qf (x:=(.int x,.sh)) rfl qu)]
  show (qG [.int x]).bind _=_
  rw[xf h]
  rfl
 rw[show sl0 ["x"] [.int x]=[.val (.int x) false] from rfl,vM (d:=.bl (decide (x%9223372036854775808=0))) ((qk h1 (y:=(.int 0,.nw)) rfl).trans rfl)]
 rfl
theorem JJ:Hr jG ["x"] 1 vQ:=xV qb1
theorem Q5 {x:Int} (h:U64 x):vQ [.int x]=bv (decide (x%9223372036854775808=0)):=yb h
theorem qba {x y:Nat} (h:Pv.mag x=Pv.mag y):Dm.sz x=Dm.sz y:=by
 have ex:Pv.exponent x=Dm.sz x / 2^52:=Dm.w9 x
 have ey:Pv.exponent y=Dm.sz y / 2^52:=Dm.w9 y
 have fx:x%2^52=Dm.sz x%2^52:=by unfold Dm.sz;lia
 have fy:y%2^52=Dm.sz y%2^52:=by unfold Dm.sz;lia
 unfold Pv.mag at h
 rw[fx,fy,ex,ey] at h
 generalize Dm.sz x=a at h
 generalize Dm.sz y=b at h
 have key:∀ a b:Nat,a / 2^52<b / 2^52->(if a / 2^52=0 then a%2^52 else (2^52+a%2^52)*2^(a / 2^52-1))<(if b / 2^52=0 then b%2^52 else (2^52+b%2^52)*2^(b / 2^52-1)):=by
  intro a b q
  have hb:¬ b / 2^52=0:=by lia
  rw[if_neg hb]
  by_cases ha:a / 2^52=0
  ·rw[if_pos ha]
   have:1 <= 2^(b / 2^52-1):=Nat.one_le_two_pow
   calc a%2^52<2^52:=Nat.mod_lt _ (by decide)
    _ <= (2^52+b%2^52)*1:=by lia
    _ <= _:=Nat.mul_le_mul_left _ this
  ·rw[if_neg ha]
   have p:2^(a / 2^52-1)*2 <= 2^(b / 2^52-1):=by
    rw[<- Nat.pow_succ]
    exact Nat.pow_le_pow_right (by decide) (by lia)
   have p0:0<2^(a / 2^52-1):=Nat.two_pow_pos _
   calc (2^52+a%2^52)*2^(a / 2^52-1)<(2^52+2^52)*2^(a / 2^52-1):=Nat.mul_lt_mul_of_pos_right (by have:=Nat.mod_lt a (show 0<2^52 by decide);lia) p0
    _=2^52*(2^(a / 2^52-1)*2):=by rw[<- Nat.mul_two,Nat.mul_assoc,Nat.mul_comm 2]
    _ <= 2^52*2^(b / 2^52-1):=Nat.mul_le_mul_left _ p
    _ <= _:=Nat.mul_le_mul_right _ (by lia)
 rcases Nat.lt_trichotomy (a / 2^52) (b / 2^52) with q | q | q
 ·exact absurd h (Nat.ne_of_lt (key a b q))
 ·rw[q] at h
  have m:a%2^52=b%2^52:=by
   split at h
   ·exact h
   ·have:=Nat.eq_of_mul_eq_mul_right (Nat.two_pow_pos _) h
    lia
  lia
 ·exact absurd h.symm (Nat.ne_of_lt (key b a q))
theorem qdm {x y:Int} (hx:U64 x) (hy:U64 y):eqB x y=Pv.equal x.toNat y.toNat:=by
 have hx':x.toNat<2^64:=by have:=hx.2;have:=hx.1;lia
 have hy':y.toNat<2^64:=by have:=hy.2;have:=hy.1;lia
 have zx:x%9223372036854775808=0↔Pv.mag x.toNat=0:=by rw[Dm.v7];unfold Dm.sz;have:=hx.1;lia
 have zy:y%9223372036854775808=0↔Pv.mag y.toNat=0:=by rw[Dm.v7];unfold Dm.sz;have:=hy.1;lia
 unfold Pv.equal
 rw[Bool.eq_iff_iff,decide_eq_true_eq]
 unfold eqB
 rw[Bool.or_eq_true,Bool.and_eq_true,decide_eq_true_eq,decide_eq_true_eq,decide_eq_true_eq,zx,zy]
 unfold Pv.val
 rw[Dm.zQ _ hx',Dm.zQ _ hy']
 constructor
 ·rintro (e | ⟨e1,e2⟩)
  ·rw[e]
  ·rw[e1,e2];split <;> split <;> rfl
 ·intro h
  have sxy:∀ {a b:Nat},Dm.sg a=Dm.sg b->Dm.sz a=Dm.sz b->a=b:=by
   intro a b h1 h2
   unfold Dm.sg at h1
   unfold Dm.sz at h2
   lia
  have s2:∀ {a:Nat},a<2^64->¬ Dm.sg a=1->Dm.sg a=0:=by
   intro a h1 h2
   unfold Dm.sg at h2 ⊢
   lia
  by_cases a:Dm.sg x.toNat=1 <;> by_cases b:Dm.sg y.toNat=1
  ·simp only[a,b,decide_true,if_true] at h
   have:=sxy (a.trans b.symm) (qba (show Pv.mag x.toNat=Pv.mag y.toNat by lia))
   have:=hx.1;have:=hy.1
   left;lia
  ·simp only[a,b,decide_true,decide_false,if_true] at h
   right
   simp at h
   lia
  ·simp only[a,b,decide_true,decide_false,if_true] at h
   right
   simp at h
   lia
  ·simp only[a,b,decide_false] at h
   have h:(Pv.mag x.toNat:Int)=Pv.mag y.toNat:=by simpa using h
   have:=sxy ((s2 hx' a).trans (s2 hy' b).symm) (qba (show Pv.mag x.toNat=Pv.mag y.toNat by lia))
   have:=hx.1;have:=hy.1
   left;lia
noncomputable def asks:List Bool->List D->Option (List Int × List (List Int))
 | [],[]=>some ([],[])
 | false::s,.int i::r=>(asks s r).map fun x=>(i::x.1,x.2)
 | true::s,.lst l::r=>(intsOf l).bind fun ns=>(asks s r).map fun x=>(x.1,ns::x.2)
 | _,_=>none
noncomputable def unp:List Bool->List Int->List (List Int)->List D
 | false::s,i::is,ls=>.int i::unp s is ls
 | true::s,is,l::ls=>.lst (l.map .int)::unp s is ls
 | _,_,_=>[]
theorem XD:∀ {sh:List Bool}{ds:List D}{is:List Int}{ls:List (List Int)},asks sh ds=some (is,ls)->ds=unp sh is ls/\is.length=sh.count false/\ls.length=sh.count true
 | [],[],_,_,h=>by cases h;exact⟨rfl,rfl,rfl⟩
 | [],_::_,_,_,h=>nomatch h
 | false::s,.int i::r,is,ls,h=>by
  have h:(asks s r).map (fun x=>(i::x.1,x.2))=some (is,ls):=h
  cases e:asks s r with
  | none=>rw[e] at h;cases h
  | some q =>
   rw[e] at h
   cases h
   obtain⟨e1,e2,e3⟩:=XD (is:=q.1) (ls:=q.2) e
   exact⟨by show _=D.int i::unp s q.1 q.2;rw[<- e1],by rw[List.length_cons,e2,List.count_cons_self],by rw[e3];exact (List.count_cons_of_ne (by decide)).symm⟩
 | true::s,.lst l::r,is,ls,h=>by
  have h:((intsOf l).bind fun ns=>(asks s r).map fun x=>(x.1,ns::x.2))=some (is,ls):=h
  cases e0:intsOf l with
  | none=>rw[e0] at h;cases h
  | some ns =>
   rw[e0] at h
   have h:(asks s r).map (fun x=>(x.1,ns::x.2))=some (is,ls):=h
   cases e:asks s r with
   | none=>rw[e] at h;cases h
   | some q =>
    rw[e] at h
    cases h
    obtain⟨e1,e2,e3⟩:=XD (is:=q.1) (ls:=q.2) e
    exact⟨by show _=D.lst (ns.map .int)::unp s q.1 q.2;rw[<- e1,<- zJ e0],by rw[e2];exact (List.count_cons_of_ne (by decide)).symm,by rw[List.length_cons,e3,List.count_cons_self]⟩
 | false::_,[],_,_,h=>nomatch h
 | true::_,[],_,_,h=>nomatch h
 | false::_,.non::_,_,_,h=>nomatch h
 | false::_,.bl _::_,_,_,h=>nomatch h
 | false::_,.lst _::_,_,_,h=>nomatch h
 | false::_,.tup _::_,_,_,h=>nomatch h
 | false::_,.fn _::_,_,_,h=>nomatch h
 | false::_,.obj _ _ _::_,_,_,h=>nomatch h
 | true::_,.non::_,_,_,h=>nomatch h
 | true::_,.bl _::_,_,_,h=>nomatch h
 | true::_,.int _::_,_,_,h=>nomatch h
 | true::_,.tup _::_,_,_,h=>nomatch h
 | true::_,.fn _::_,_,_,h=>nomatch h
 | true::_,.obj _ _ _::_,_,_,h=>nomatch h
theorem Y3:∀ {sh:List Bool}{is:List Int}{ls:List (List Int)},is.length=sh.count false->ls.length=sh.count true->asks sh (unp sh is ls)=some (is,ls)
 | [],[],[],_,_=>rfl
 | [],_::_,_,h,_=>nomatch h
 | [],[],_::_,_,h=>nomatch h
 | false::s,i::is,ls,h1,h2=>by
  rw[List.length_cons,List.count_cons_self] at h1
  rw[List.count_cons_of_ne (by decide)] at h2
  show (asks s (unp s is ls)).map _=_
  rw[Y3 (by lia) h2]
  rfl
 | true::s,is,l::ls,h1,h2=>by
  rw[List.length_cons,List.count_cons_self] at h2
  rw[List.count_cons_of_ne (by decide)] at h1
  show ((intsOf (l.map D.int)).bind fun ns=>(asks s (unp s is ls)).map fun x=>(x.1,ns::x.2))=_
  rw[ints_map,Y3 h1 (by lia)]
  rfl
 | false::s,[],_,h1,_=>by rw[List.count_cons_self] at h1;cases h1
 | true::s,_,[],_,h2=>by rw[List.count_cons_self] at h2;cases h2
theorem qgB {α:Type}{l:List α} (h:l.length=4):∃ a b c d,l=[a,b,c,d]:=match l,h with | [a,b,c,d],_=>⟨a,b,c,d,rfl⟩
theorem yh {m:Int} (h:U64 m):∃ M:Nat,m=M:=⟨m.toNat,by have:=h.1;lia⟩
theorem qb6 {as bs:List Int}{M N:Nat} (ha:as.length=M*N) (hb:bs.length=M*N) (f:Int->Int->Bool):((as.zip bs).all fun p=>f p.1 p.2)=(List.range M).all fun i=>(List.range N).all fun j=>f (as.getD (N*i+j) 0) (bs.getD (N*i+j) 0):=by
 rw[Bool.eq_iff_iff,List.all_eq_true,List.all_eq_true]
 constructor
 ·intro h i hi
  rw[List.all_eq_true]
  intro j hj
  have hi:=List.mem_range.mp hi
  have hj:=List.mem_range.mp hj
  have hk:N*i+j<M*N:=by
   calc N*i+j<N*i+N:=by lia
    _=N*(i+1):=by rw[Nat.mul_succ]
    _ <= N*M:=Nat.mul_le_mul_left _ hi
    _=M*N:=Nat.mul_comm _ _
  have e:(as.zip bs)[N*i+j]?=some (as.getD (N*i+j) 0,bs.getD (N*i+j) 0):=by
   rw[List.getElem?_zip_eq_some]
   rw[List.getD_eq_getElem?_getD,List.getD_eq_getElem?_getD,List.getElem?_eq_getElem (by lia),List.getElem?_eq_getElem (by lia)]
   exact⟨rfl,rfl⟩
  exact h _ (List.mem_of_getElem? e)
 ·intro h p hp
  obtain⟨k,hk⟩:=List.getElem?_of_mem hp
  obtain⟨e1,e2⟩:=List.getElem?_zip_eq_some.mp hk
  have hl:k<M*N:=by rw[<- ha];exact (List.getElem?_eq_some_iff.mp e1).1
  have hN:0<N:=by
   rcases Nat.eq_zero_or_pos N with z | z
   ·rw[z,Nat.mul_zero] at hl;lia
   ·exact z
  have:=List.all_eq_true.mp (h (k / N) (List.mem_range.mpr (Nat.div_lt_of_lt_mul (by rw[Nat.mul_comm];exact hl)))) (k%N) (List.mem_range.mpr (Nat.mod_lt _ hN))
  rw[Nat.div_add_mod] at this
  rw[List.getD_eq_getElem?_getD,List.getD_eq_getElem?_getD,e1,e2] at this
  exact this
theorem qfx {as bs:List Int}{M N:Nat} (ha:as.length=M*N) (hb:bs.length=M*N) (oa:je as) (ob:je bs):((as.zip bs).all fun p=>eqB p.1 p.2)=Pv.same M N (PvCalls.tableOf M N (nats as)) (PvCalls.tableOf M N (nats bs)):=by
 rw[qb6 ha hb]
 unfold Pv.same PvCalls.tableOf
 have gl:∀ {ns:List Int},je ns->∀ k,U64 (ns.getD k 0):=fun {ns} h k=>by
  rw[List.getD_eq_getElem?_getD]
  cases e:ns[k]? with
  | none=>exact⟨by decide,by decide⟩
  | some x=>exact h x (List.mem_of_getElem? e)
 rw[Bool.eq_iff_iff,List.all_eq_true,List.all_eq_true]
 refine forall_congr' fun i=>forall_congr' fun hi=>?_
 rw[List.all_eq_true,List.all_eq_true]
 refine forall_congr' fun j=>forall_congr' fun hj=>?_
 have hi:=List.mem_range.mp hi
 have hj:=List.mem_range.mp hj
 rw[qf1 hi hj,qf1 hi hj,qdm (gl oa _) (gl ob _)]
 rw[<- Ys oa,<- Ys ob,Int.toNat_natCast,Int.toNat_natCast]
theorem pick_run {α:Type} (xs:List α) (lo n:Nat) (hl:lo+n <= xs.length) (d:α):pick xs (some (lo:Int)) (some ((lo+n:Nat):Int)) none=(List.range n).map fun j=>xs.getD (lo+j) d:=by
 have hb:sliceBounds (some (lo:Int)) (some ((lo+n:Nat):Int)) none xs.length=((lo:Int),((lo+n:Nat):Int),1):=by
  unfold sliceBounds
  simp only[Option.getD_none,if_pos (show (1:Int)>0 by decide)]
  refine Prod.ext ?_ (Prod.ext ?_ rfl)
  ·show max 0 (min (if (lo:Int)<0 then (lo:Int)+xs.length else lo) xs.length)=(lo:Int)
   rw[if_neg (by lia)]
   lia
  ·show max 0 (min (if ((lo+n:Nat):Int)<0 then ((lo+n:Nat):Int)+xs.length else ((lo+n:Nat):Int)) xs.length)=((lo+n:Nat):Int)
   rw[if_neg (by lia)]
   lia
 unfold pick
 rw[hb]
 dsimp only
 by_cases hn:n=0
 ·subst hn
  unfold sliceRange
  simp
 unfold sliceRange
 dsimp only
 have hc:((((lo+n:Nat):Int)-lo+1-1) / 1).toNat=n:=by
  rw[Int.ediv_one]
  lia
 rw[if_pos (by decide),if_pos (by lia),hc,List.filterMap_map]
 refine qcV fun i hi=>?_
 have hi:=List.mem_range.mp hi
 have e:((lo:Int)+1*(i:Int)).toNat=lo+i:=by lia
 show xs[((lo:Int)+1*(i:Int)).toNat]?=some (xs.getD (lo+i) d)
 rw[e,List.getD_eq_getElem?_getD,List.getElem?_eq_getElem (by lia)]
 rfl
theorem qea {r:RE}{δ:Dl}{i:Int}{k:Kd} (h:r δ = .ok (.int i,k)):Qo r δ = .ok (some i):=by unfold Qo;rw[h];rfl
theorem QR {α:Type} (l:List α) (d:α):l=(List.range l.length).map fun k=>l.getD k d:=by
 refine List.ext_getElem? fun k=>?_
 rw[List.getElem?_map]
 by_cases h:k<l.length
 ·rw[List.getElem?_range h,List.getElem?_eq_getElem h]
  show _=some (l.getD k d)
  rw[List.getD_eq_getElem?_getD,List.getElem?_eq_getElem h]
  rfl
 ·rw[List.getElem?_eq_none (by lia),List.getElem?_eq_none (by rw[List.length_range];lia)]
  rfl
theorem zb {i j:Int}{k l:Kd} (h1:0 <= j) (h2:j <= 60000) (h3:few i):w4 (.int i,k) (.int j,l) = .ok (.int (i*2^j.toNat),.nw):=by
 unfold w4
 exact if_pos ⟨h1,h2,h3⟩
theorem XI {i j:Int}{k l:Kd} (h1:0 <= j):Vb (.int i,k) (.int j,l) = .ok (.int (i / 2^j.toNat),.nw):=by
 unfold Vb
 exact if_pos h1
theorem Wd {f:List DK->Rs DK}{r:RA}{δ:Dl}{xs:List DK} (h:r δ = .ok xs):wu f r δ=f xs:=by unfold wu;rw[h];rfl
theorem qU {g:Fn}{a:RE}{δ:Dl}{x:DK}{y:D × Bool} (h:a δ = .ok x) (hg:g [x.1] = .ok y):qe g (qc a qi) δ = .ok (y.1,kB y.2):=by rw[qO (qf h qu)];show (g [x.1]).bind _=_;rw[hg];rfl
theorem Qk {i:Nat}{δ:Dl}{d:D}{k:Bool} (h:δ[i]?=some (.val d k)) (c:d.sc=true):Qe i δ = .rt d false:=by
 unfold Qe
 rw[h]
 exact if_pos (.inl c)
theorem wQ {r:RE}{δ:Dl}{b:Bool}{k:Kd} (h:r δ = .ok (.bl b,k)):tBl r δ = .ok b:=by unfold tBl;rw[h];rfl
theorem Wz {t:RT}{a b:RE}{δ:Dl} (h:t δ = .ok true):j8 t a b δ=a δ:=by unfold j8;rw[h];rfl
theorem WR {t:RT}{a b:RE}{δ:Dl} (h:t δ = .ok false):j8 t a b δ=b δ:=by unfold j8;rw[h];rfl
theorem Qc {n:Nat} (k:Nat) (hk:k <= 60000) (h:n<2^k):few (n:Int):=uW k hk (by rw[Int.natAbs_natCast];exact h)
theorem qx {x:Nat} (h:x<2^64):U64 (x:Int):=⟨by lia,by lia⟩
theorem yi {t:RT}{a:RS}{δ:Dl} (h:t δ = .ok false):sIf t a wC δ = .nx δ:=(qbn h).trans rfl
theorem qP {a b:Int} (h:a=b):(Rs.ok (D.int a,Kd.nw):Rs DK) = .ok (.int b,.nw):=by rw[h]
theorem x9 {a b:Nat}:decide ((a:Int)=(b:Int))=decide (a=b):=decide_eq_decide.mpr (by lia)
noncomputable def qC:Fn:=fn1 U64 fun x=>iv (Dm.sg x.toNat)
noncomputable def qy:Fn:=fn1 U64 fun x=>iv (Dm.wh x.toNat)
noncomputable def qQ:Fn:=fn1 U64 fun x=>iv (Dm.sw x.toNat)
noncomputable def qo:Fn:=fn1 U64 fun x=>iv ((Dm.ex x.toNat:Int)-1074)
noncomputable def vI:Fn:=fn1 U64 fun x=>iv (Dm.flip x.toNat)
noncomputable def ju:RS:=(vK (qh Vb (qa 0) (rC (.int 63))))
noncomputable def uH:RS:=(vt (vd 1 (qh (jT Builtin.bitAnd) (qa 0) (qh wg (qh w4 (rC (.int 1)) (rC (.int (52)))) (rC (.int 1))))) (vt (sIf (tBl (qh (oEq false) (qe qG (qc (qa 0) qi)) (qa 1))) (Qe 1) wC) (vK (qh wm (qa 1) (qh w4 (rC (.int 1)) (rC (.int (52))))))))
noncomputable def yc:RS:=(vK (j8 (tBl (qh (oEq false) (qe qC (qc (qa 0) qi)) (rC (.int 1)))) (rUn qb8 (qe qy (qc (qa 0) qi))) (qe qy (qc (qa 0) qi))))
noncomputable def uG:RS:=(vK (qh wm (qh wg (wu JU (qc (qh Vb (qe qG (qc (qa 0) qi)) (rC (.int (52)))) (qc (rC (.int 1)) qi))) (rC (.int 1))) (rC (.int (-1074)))))
noncomputable def uw:RS:=(vK (qh (jT Builtin.bitXor) (qa 0) (rC (.int (9223372036854775808)))))
theorem qbS (x:Int) (h:U64 x):res (ju (sl0 ["x"] [.int x]))=iv (Dm.sg x.toNat):=by
 unfold ju
 rw[vM (d:=.int (Dm.sg x.toNat)) ((qk (x:=(.int x,.sh)) (y:=(.int 63,.nw)) rfl rfl).trans ((XI (by decide)).trans ?_))]
 ·rfl
 ·refine qP ?_
  unfold Dm.sg
  obtain⟨X,rfl⟩:=yh h
  rw[Int.toNat_natCast,Int.natCast_ediv]
  rfl
theorem J5:Hr ju ["x"] 1 qC:=xV qbS
theorem z3 {x:Int} (h:U64 x):qC [.int x]=iv (Dm.sg x.toNat):=yb h
theorem JL (x:Int) (h:U64 x):res (uH (sl0 ["x","fraction"] [.int x]))=iv (Dm.wh x.toNat):=by
 obtain⟨X,rfl⟩:=yh h
 rw[Int.toNat_natCast]
 have sh1:∀ δ,qh w4 (rC (.int 1)) (rC (.int (52))) δ = .ok (.int 4503599627370496,.nw):=fun δ=>(qk (x:=(.int 1,.nw)) (y:=(.int 52,.nw)) rfl rfl).trans (zb (by decide) (by decide) (uW 4 (by decide) (by decide)))
 have hf:qh (jT Builtin.bitAnd) (qa 0) (qh wg (qh w4 (rC (.int 1)) (rC (.int (52)))) (rC (.int 1))) [.val (.int X) false,.un] = .ok (.int ((X%2^52:Nat):Int),.nw):=by
  rw[qk (x:=(.int X,.sh)) (y:=(.int (4503599627370496-1),.nw)) rfl ((qk (sh1 _) (y:=(.int 1,.nw)) rfl).trans rfl)]
  have e:Builtin.bitAnd (X:Int) (2^52-1)=(X:Int)%2^52:=Bits.Vf 52 h.1
  show Rs.ok (D.int (Builtin.bitAnd (X:Int) (2^52-1)),Kd.nw)=_
  rw[e,Int.natCast_emod]
  rfl
 unfold uH
 rw[show sl0 ["x","fraction"] [.int (X:Int)]=[.val (.int X) false,.un] from rfl]
 rw[qE (show vd 1 _ [.val (.int X) false,.un] = .nx [.val (.int X) false,.val (.int ((X%2^52:Nat):Int)) true] from vP hf rfl)]
 have hs:qe qG (qc (qa 0) qi) [.val (.int X) false,.val (.int ((X%2^52:Nat):Int)) true] = .ok (.int ((Dm.sz X:Nat):Int),.nw):=(qU (x:=(.int X,.sh)) rfl (xf h)).trans (by
  show Rs.ok (D.int ((X:Int)%9223372036854775808),Kd.nw)=_
  unfold Dm.sz
  rw[Int.natCast_emod]
  rfl)
 have ht:tBl (qh (oEq false) (qe qG (qc (qa 0) qi)) (qa 1)) [.val (.int X) false,.val (.int ((X%2^52:Nat):Int)) true] = .ok (decide (Dm.sz X=X%2^52)):=by
  refine wQ (k:=.nw) ((qk (y:=(.int ((X%2^52:Nat):Int),.nw)) hs rfl).trans ?_)
  show Rs.ok (D.bl (decide (((Dm.sz X:Nat):Int)=((X%2^52:Nat):Int))),Kd.nw)=_
  rw[x9]
 unfold Dm.wh
 by_cases c:Dm.sz X=X%2^52
 ·rw[decide_eq_true c] at ht
  rw[if_pos c,uB ((uh ht).trans (Qk rfl rfl))]
  rfl
 ·rw[decide_eq_false c] at ht
  rw[if_neg c,qE (yi ht)]
  rw[vM (d:=.int ((X%2^52+2^52:Nat):Int)) ((qk (x:=(.int ((X%2^52:Nat):Int),.nw)) rfl (sh1 _)).trans ?_)]
  ·rfl
  ·show Rs.ok (D.int (((X%2^52:Nat):Int)+4503599627370496),Kd.nw)=_
   rw[Int.natCast_add]
   rfl
theorem Uq:Hr uH ["x","fraction"] 1 qy:=xV JL
theorem zC {x:Int} (h:U64 x):qy [.int x]=iv (Dm.wh x.toNat):=yb h
theorem Ww (x:Int) (h:U64 x):res (yc (sl0 ["x"] [.int x]))=iv (Dm.sw x.toNat):=by
 unfold yc
 rw[show sl0 ["x"] [.int x]=[.val (.int x) false] from rfl]
 have hw:qe qy (qc (qa 0) qi) [.val (.int x) false] = .ok (.int (Dm.wh x.toNat),.nw):=qU (x:=(.int x,.sh)) rfl (zC h)
 have ht:tBl (qh (oEq false) (qe qC (qc (qa 0) qi)) (rC (.int 1))) [.val (.int x) false] = .ok (decide (Dm.sg x.toNat=1)):=by
  refine wQ (k:=.nw) ((qk (x:=(.int (Dm.sg x.toNat),.nw)) (y:=(.int 1,.nw)) (qU (x:=(.int x,.sh)) rfl (z3 h)) rfl).trans ?_)
  show Rs.ok (D.bl (decide (((Dm.sg x.toNat:Nat):Int)=((1:Nat):Int))),Kd.nw)=_
  rw[x9]
 unfold Dm.sw
 by_cases c:Dm.sg x.toNat=1
 ·rw[decide_eq_true c] at ht
  rw[if_pos c,vM (d:=.int (-(Dm.wh x.toNat:Int))) ((Wz ht).trans ((yf hw).trans rfl))]
  rfl
 ·rw[decide_eq_false c] at ht
  rw[if_neg c,vM (d:=.int (Dm.wh x.toNat)) ((WR ht).trans hw)]
  rfl
theorem VB:Hr yc ["x"] 1 qQ:=xV Ww
theorem Ws {x:Int} (h:U64 x):qQ [.int x]=iv (Dm.sw x.toNat):=yb h
theorem qaD (x:Int) (h:U64 x):res (uG (sl0 ["x"] [.int x]))=iv ((Dm.ex x.toNat:Int)-1074):=by
 obtain⟨X,rfl⟩:=yh h
 rw[Int.toNat_natCast]
 unfold uG
 rw[show sl0 ["x"] [.int (X:Int)]=[.val (.int X) false] from rfl]
 have hs:qh Vb (qe qG (qc (qa 0) qi)) (rC (.int (52))) [.val (.int X) false] = .ok (.int ((Dm.sz X / 2^52:Nat):Int),.nw):=(qk (x:=(.int ((X:Int)%9223372036854775808),.nw)) (y:=(.int 52,.nw)) (qU (x:=(.int X,.sh)) rfl (xf h)) rfl).trans ((XI (by decide)).trans (by
  refine qP ?_
  unfold Dm.sz
  rw[Int.natCast_ediv,Int.natCast_emod]
  rfl))
 have hm:wu JU (qc (qh Vb (qe qG (qc (qa 0) qi)) (rC (.int (52)))) (qc (rC (.int 1)) qi)) [.val (.int X) false] = .ok (.int ((max (Dm.sz X / 2^52) 1:Nat):Int),.nw):=(Wd (qf hs (qf (x:=(.int 1,.nw)) rfl qu))).trans (by
  show Rs.ok (D.int (if (1:Int)>((Dm.sz X / 2^52:Nat):Int) then 1 else ((Dm.sz X / 2^52:Nat):Int)),Kd.nw)=_
  refine qP ?_
  split <;> lia)
 have hv:qh wm (qh wg (wu JU (qc (qh Vb (qe qG (qc (qa 0) qi)) (rC (.int (52)))) (qc (rC (.int 1)) qi))) (rC (.int 1))) (rC (.int (-1074))) [.val (.int X) false] = .ok (.int ((Dm.ex X:Int)-1074),.nw):=by
  have h1:qh wg (wu JU (qc (qh Vb (qe qG (qc (qa 0) qi)) (rC (.int (52)))) (qc (rC (.int 1)) qi))) (rC (.int 1)) [.val (.int X) false] = .ok (.int (((max (Dm.sz X / 2^52) 1:Nat):Int)-1),.nw):=(qk hm (y:=(.int 1,.nw)) rfl).trans rfl
  refine (qk h1 (y:=(.int (-1074),.nw)) rfl).trans ?_
  refine qP ?_
  unfold Dm.ex
  generalize Dm.sz X / 2^52=q
  lia
 rw[vM (δ:=[.val (.int X) false]) hv]
 rfl
theorem Jh:Hr uG ["x"] 1 qo:=xV qaD
theorem zr {x:Int} (h:U64 x):qo [.int x]=iv ((Dm.ex x.toNat:Int)-1074):=yb h
theorem Jq (x:Int) (h:U64 x):res (uw (sl0 ["x"] [.int x]))=iv (Dm.flip x.toNat):=by
 obtain⟨X,rfl⟩:=yh h
 rw[Int.toNat_natCast]
 unfold uw
 rw[vM (d:=.int (Dm.flip X)) ((qk (x:=(.int (X:Int),.sh)) (y:=(.int 9223372036854775808,.nw)) rfl rfl).trans ?_)]
 ·rfl
 ·show Rs.ok (D.int (Builtin.bitXor (X:Int) ((2^63:Nat):Int)),Kd.nw)=_
  rw[<- Dm.qcz X (by have:=h.2;lia)]
  exact qP (Bits.qb2 (by lia) (by decide))
theorem US:Hr uw ["x"] 1 vI:=xV Jq
theorem Wy {x:Int} (h:U64 x):vI [.int x]=iv (Dm.flip x.toNat):=yb h
noncomputable def lt2 (n k:Nat):Prop:=n<2^k
theorem lt2.few {n k:Nat} (h:lt2 n k) (hk:k <= 60000):few (n:Int):=Qc k hk h
theorem lt2.qff {i:Int}{k:Nat} (h:lt2 i.natAbs k) (hk:k <= 60000):Ir.few i:=uW k hk h
theorem lt2.mono {n m k:Nat} (h:lt2 n k) (hm:m <= n):lt2 m k:=Nat.lt_of_le_of_lt hm h
theorem lt2.up {n k l:Nat} (h:lt2 n k) (hl:k <= l):lt2 n l:=Nat.lt_of_lt_of_le h (Nat.pow_le_pow_right (by decide) hl)
theorem lt2.mul {n m k l:Nat} (h:lt2 n k) (h2:lt2 m l):lt2 (n*m) (k+l):=by
 unfold lt2 at *
 rw[Nat.pow_add]
 exact Nat.mul_lt_mul'' h h2
theorem lt2.add {n m k:Nat} (h:lt2 n k) (h2:lt2 m k):lt2 (n+m) (k+1):=by
 unfold lt2 at *
 rw[Nat.pow_succ]
 lia
theorem lt2.pow (k:Nat):lt2 (2^k) (k+1):=Nat.pow_lt_pow_right (by decide) (by lia)
theorem lt2.log {n k:Nat} (h:lt2 n k) (hk:0<k):n.log2<k:=by
 by_cases z:n=0
 ·rw[z,Nat.log2_zero];exact hk
 ·exact (Nat.log2_lt z).mpr h
theorem qet {a b:RT}{δ:Dl}{x y:Bool} (ha:a δ = .ok x) (hb:b δ = .ok y):Z6 a b δ = .ok (x||y):=by
 unfold Z6
 rw[ha,Rs.qM]
 cases x
 ·rw[if_neg (by decide),hb];rfl
 ·rfl
theorem qdW {a b:RT}{δ:Dl}{x y:Bool} (ha:a δ = .ok x) (hb:b δ = .ok y):Vk a b δ = .ok (x&&y):=by
 unfold Vk
 rw[ha,Rs.qM]
 cases x
 ·rfl
 ·rw[if_pos rfl,hb];rfl
noncomputable def vL:Fn:=fn2 (fun w d=>0 <= w/\lt2 w.natAbs 30000 /\ -9000 <= d/\d <= 55000) fun w d=>iv (if d <= 0 then w*2^(-d).toNat else (Dm.nw w.toNat d.toNat:Int))
noncomputable def zU:RS:=(vt (sIf (tBl (qh (yq fun i j=>decide (i <= j)) (qa 1) (rC (.int 0)))) (vK (qh w4 (qa 0) (rUn qb8 (qa 1)))) wC) (vt (vd 2 (qh Vb (qa 0) (qa 1))) (vt (vd 3 (qh wg (qa 0) (qh w4 (qa 2) (qa 1)))) (vt (vd 4 (qh w4 (rC (.int 1)) (qh wg (qa 1) (rC (.int 1))))) (vt (sIf (Z6 (tBl (qh (yq fun i j=>decide (j<i)) (qa 3) (qa 4))) (Vk (tBl (qh (oEq false) (qa 3) (qa 4))) (tBl (qh (oEq false) (qh oMod (qa 2) (rC (.int 2))) (rC (.int 1)))))) (vK (qh wm (qa 2) (rC (.int 1)))) wC) (Qe 2))))))
theorem Vy (w d:Int) (h:0 <= w/\lt2 w.natAbs 30000 /\ -9000 <= d/\d <= 55000):res (zU (sl0 ["whole","drop","kept","left","half"] [.int w,.int d]))=iv (if d <= 0 then w*2^(-d).toNat else (Dm.nw w.toNat d.toNat:Int)):=by
 obtain⟨h0,hw,hd1,hd2⟩:=h
 obtain⟨W,rfl⟩:∃ W:Nat,w=W:=⟨w.toNat,by lia⟩
 rw[Int.natAbs_natCast] at hw
 unfold zU
 rw[show sl0 ["whole","drop","kept","left","half"] [.int (W:Int),.int d]=[.val (.int W) false,.val (.int d) false,.un,.un,.un] from rfl]
 have ht:tBl (qh (yq fun i j=>decide (i <= j)) (qa 1) (rC (.int 0))) [.val (.int W) false,.val (.int d) false,.un,.un,.un] = .ok (decide (d <= 0)):=wQ (k:=.nw) ((qk (x:=(.int d,.sh)) (y:=(.int 0,.nw)) rfl rfl).trans rfl)
 by_cases c:d <= 0
 ·rw[decide_eq_true c] at ht
  rw[if_pos c]
  have hv:qh w4 (qa 0) (rUn qb8 (qa 1)) [.val (.int W) false,.val (.int d) false,.un,.un,.un] = .ok (.int ((W:Int)*2^(-d).toNat),.nw):=(qk (x:=(.int W,.sh)) (y:=(.int (-d),.nw)) rfl ((yf (x:=(.int d,.sh)) rfl).trans rfl)).trans (zb (by lia) (by lia) (hw.few (by decide)))
  rw[uB ((uh ht).trans (vM (δ:=[.val (.int W) false,.val (.int d) false,.un,.un,.un]) hv))]
  rfl
 ·rw[decide_eq_false c] at ht
  rw[if_neg c,Int.toNat_natCast]
  obtain⟨K,rfl⟩:∃ K:Nat,d=K:=⟨d.toNat,by lia⟩
  rw[Int.toNat_natCast]
  rw[qE (yi ht)]
  have e2:qh Vb (qa 0) (qa 1) [.val (.int W) false,.val (.int K) false,.un,.un,.un] = .ok (.int ((W / 2^K:Nat):Int),.nw):=(qk (x:=(.int W,.sh)) (y:=(.int K,.sh)) rfl rfl).trans ((XI (by lia)).trans (qP (by rw[Int.toNat_natCast,Int.natCast_ediv,Int.natCast_pow];rfl)))
  rw[qE (show vd 2 _ [.val (.int W) false,.val (.int K) false,.un,.un,.un] = .nx [.val (.int W) false,.val (.int K) false,.val (.int ((W / 2^K:Nat):Int)) true,.un,.un] from vP e2 rfl)]
  have hdiv:W / 2^K <= W:=Nat.div_le_self _ _
  have hmulle:W / 2^K*2^K <= W:=Nat.div_mul_le_self _ _
  have e3:qh wg (qa 0) (qh w4 (qa 2) (qa 1)) [.val (.int W) false,.val (.int K) false,.val (.int ((W / 2^K:Nat):Int)) true,.un,.un] = .ok (.int ((W-W / 2^K*2^K:Nat):Int),.nw):=by
   have q:qh w4 (qa 2) (qa 1) [.val (.int W) false,.val (.int K) false,.val (.int ((W / 2^K:Nat):Int)) true,.un,.un] = .ok (.int ((W / 2^K*2^K:Nat):Int),.nw):=(qk (x:=(.int ((W / 2^K:Nat):Int),.nw)) (y:=(.int K,.sh)) rfl rfl).trans ((zb (by lia) (by lia) ((hw.mono hdiv).few (by decide))).trans (qP (by rw[Int.toNat_natCast,Int.natCast_mul,Int.natCast_pow];rfl)))
   exact (qk (x:=(.int W,.sh)) rfl q).trans (qP (by rw[Int.natCast_sub hmulle]))
  rw[qE (show vd 3 _ _ = .nx [.val (.int W) false,.val (.int K) false,.val (.int ((W / 2^K:Nat):Int)) true,.val (.int ((W-W / 2^K*2^K:Nat):Int)) true,.un] from vP e3 rfl)]
  have e4:qh w4 (rC (.int 1)) (qh wg (qa 1) (rC (.int 1))) [.val (.int W) false,.val (.int K) false,.val (.int ((W / 2^K:Nat):Int)) true,.val (.int ((W-W / 2^K*2^K:Nat):Int)) true,.un] = .ok (.int ((2^(K-1):Nat):Int),.nw):=(qk (x:=(.int 1,.nw)) (y:=(.int ((K:Int)-1),.nw)) rfl ((qk (x:=(.int K,.sh)) (y:=(.int 1,.nw)) rfl rfl).trans rfl)).trans ((zb (by lia) (by lia) (uW 4 (by decide) (by decide))).trans (qP (by rw[show ((K:Int)-1).toNat=K-1 by lia,Int.natCast_pow,Int.one_mul];rfl)))
  rw[qE (show vd 4 _ _ = .nx [.val (.int W) false,.val (.int K) false,.val (.int ((W / 2^K:Nat):Int)) true,.val (.int ((W-W / 2^K*2^K:Nat):Int)) true,.val (.int ((2^(K-1):Nat):Int)) true] from vP e4 rfl)]
  unfold Dm.nw
  rw[if_neg (show ¬ K=0 by lia)]
  generalize W / 2^K*2^K=u at *
  generalize W / 2^K=kept at *
  generalize 2^(K-1)=half at *
  generalize W-u=left at *
  have tt:Z6 (tBl (qh (yq fun i j=>decide (j<i)) (qa 3) (qa 4))) (Vk (tBl (qh (oEq false) (qa 3) (qa 4))) (tBl (qh (oEq false) (qh oMod (qa 2) (rC (.int 2))) (rC (.int 1))))) [.val (.int W) false,.val (.int K) false,.val (.int kept) true,.val (.int left) true,.val (.int half) true] = .ok (decide (half<left)||(decide (left=half)&&decide (kept%2=1))):=by
   refine qet (wQ (k:=.nw) ((qk (x:=(.int left,.nw)) (y:=(.int half,.nw)) rfl rfl).trans ?_)) (qdW (wQ (k:=.nw) ((qk (x:=(.int left,.nw)) (y:=(.int half,.nw)) rfl rfl).trans ?_)) (wQ (k:=.nw) ((qk (x:=(.int ((kept:Int)%2),.nw)) (y:=(.int 1,.nw)) ((qk (x:=(.int kept,.nw)) (y:=(.int 2,.nw)) rfl rfl).trans rfl) rfl).trans ?_)))
   ·show Rs.ok (D.bl (decide ((half:Int)<left)),Kd.nw)=_
    rw[show decide ((half:Int)<left)=decide (half<left) from decide_eq_decide.mpr (by lia)]
   ·show Rs.ok (D.bl (decide ((left:Int)=half)),Kd.nw)=_
    rw[x9]
   ·show Rs.ok (D.bl (decide ((kept:Int)%2=1)),Kd.nw)=_
    rw[show decide ((kept:Int)%2=1)=decide (kept%2=1) from decide_eq_decide.mpr (by lia)]
  by_cases cc:half<left\/(left=half/\kept%2=1)
  ·have tb:(decide (half<left)||(decide (left=half)&&decide (kept%2=1)))=true:=by
    rw[Bool.or_eq_true,Bool.and_eq_true,decide_eq_true_eq,decide_eq_true_eq,decide_eq_true_eq];exact cc
   rw[tb] at tt
   rw[if_pos cc]
   have hv:qh wm (qa 2) (rC (.int 1)) [.val (.int W) false,.val (.int K) false,.val (.int kept) true,.val (.int left) true,.val (.int half) true] = .ok (.int ((kept+1:Nat):Int),.nw):=(qk (x:=(.int kept,.nw)) (y:=(.int 1,.nw)) rfl rfl).trans (qP (by lia))
   rw[uB ((uh tt).trans (vM (δ:=[.val (.int W) false,.val (.int K) false,.val (.int kept) true,.val (.int left) true,.val (.int half) true]) hv))]
   rfl
  ·have tb:(decide (half<left)||(decide (left=half)&&decide (kept%2=1)))=false:=by
    rw[Bool.eq_false_iff]
    intro z
    rw[Bool.or_eq_true,Bool.and_eq_true,decide_eq_true_eq,decide_eq_true_eq,decide_eq_true_eq] at z
    exact cc z
   rw[tb] at tt
   rw[if_neg cc,qE (yi tt),Qk (δ:=[.val (.int W) false,.val (.int K) false,.val (.int kept) true,.val (.int left) true,.val (.int half) true]) (d:=.int kept) (k:=true) rfl rfl]
   rfl
theorem QH:Hr zU ["whole","drop","kept","left","half"] 2 vL:=Wm Vy
theorem Vn {w d:Int} (h:0 <= w/\lt2 w.natAbs 30000 /\ -9000 <= d/\d <= 55000):vL [.int w,.int d]=iv (if d <= 0 then w*2^(-d).toNat else (Dm.nw w.toNat d.toNat:Int)):=jD h
noncomputable def vm:Option Nat->Rs (D × Bool)
 | some r=>iv r
 | none=>.er "StepNotFinite"
noncomputable def vR:Fn:=fn3 (fun s w p=>(s=0\/s=1)/\0 <= w/\lt2 w.natAbs 20000 /\ -8000 <= p/\p <= 8000) fun s w p=>vm (Dm.rnd (decide (s=1)) w.toNat (p+1074))
noncomputable def jC:RS:=(vt (sIf (tBl (qh (oEq false) (qa 1) (rC (.int 0)))) (vK (qh w4 (qa 0) (rC (.int 63)))) wC) (vt (vd 3 (wu JU (qc (qh wg (qh wg (rUn oBits (qa 1)) (rC (.int (52)))) (rC (.int 1))) (qc (qh wg (rC (.int (-1074))) (qa 2)) qi)))) (vt (vd 4 (qe vL (qc (qa 1) (qc (qa 3) qi)))) (vt (vd 5 (qh wm (qh w4 (qh wg (qh wm (qa 2) (qa 3)) (rC (.int (-1074)))) (rC (.int (52)))) (qa 4))) (vt (sIf (tBl (qh (yq fun i j=>decide (j <= i)) (qa 5) (rC (.int (9218868437227405312))))) (wJ "StepNotFinite") wC) (vK (qh wm (qh w4 (qa 0) (rC (.int 63))) (qa 5))))))))
theorem qbV (s w p:Int) (h:(s=0\/s=1)/\0 <= w/\lt2 w.natAbs 20000 /\ -8000 <= p/\p <= 8000):res (jC (sl0 ["sign","whole","power","drop","kept","size"] [.int s,.int w,.int p]))=vm (Dm.rnd (decide (s=1)) w.toNat (p+1074)):=by
 obtain⟨hs,h0,hw,hp1,hp2⟩:=h
 obtain⟨W,rfl⟩:∃ W:Nat,w=W:=⟨w.toNat,by lia⟩
 rw[Int.natAbs_natCast] at hw
 unfold jC
 rw[show sl0 ["sign","whole","power","drop","kept","size"] [.int s,.int (W:Int),.int p]=[.val (.int s) false,.val (.int W) false,.val (.int p) false,.un,.un,.un] from rfl]
 rw[Int.toNat_natCast]
 have hsg:s*2^63=((if decide (s=1)=true then 2^63 else 0:Nat):Int):=by rcases hs with rfl | rfl <;> rfl
 have fs:few s:=uW 4 (by decide) (by rcases hs with rfl | rfl <;> decide)
 have ht:tBl (qh (oEq false) (qa 1) (rC (.int 0))) [.val (.int s) false,.val (.int W) false,.val (.int p) false,.un,.un,.un] = .ok (decide (W=0)):=wQ (k:=.nw) ((qk (x:=(.int W,.sh)) (y:=(.int 0,.nw)) rfl rfl).trans (by
  show Rs.ok (D.bl (decide ((W:Int)=((0:Nat):Int))),Kd.nw)=_
  rw[x9]))
 unfold Dm.rnd
 by_cases c:W=0
 ·rw[decide_eq_true c] at ht
  rw[if_pos c]
  have hv:qh w4 (qa 0) (rC (.int 63)) [.val (.int s) false,.val (.int W) false,.val (.int p) false,.un,.un,.un] = .ok (.int ((if decide (s=1)=true then 2^63 else 0:Nat):Int),.nw):=(qk (x:=(.int s,.sh)) (y:=(.int 63,.nw)) rfl rfl).trans ((zb (by decide) (by decide) fs).trans (qP hsg))
  rw[uB ((uh ht).trans (vM (δ:=[.val (.int s) false,.val (.int W) false,.val (.int p) false,.un,.un,.un]) hv))]
  rfl
 ·rw[decide_eq_false c] at ht
  rw[if_neg c,qE (yi ht)]
  have hlog:W.log2<20000:=hw.log (by decide)
  obtain⟨d,hd⟩:∃ d:Int,d=max (((W.log2+1:Nat):Int)-53) (-(p+1074)):=⟨_,rfl⟩
  rw[<- hd]
  show _=vm (if 9218868437227405312 <= (p+1074+d).toNat*2^52+(if d <= 0 then W*2^(-d).toNat else Dm.nw W d.toNat) then none else some ((if decide (s=1)=true then 2^63 else 0)+((p+1074+d).toNat*2^52+(if d <= 0 then W*2^(-d).toNat else Dm.nw W d.toNat))))
  have hd1 : -9000 <= d/\d <= 55000:=by lia
  have e3:wu JU (qc (qh wg (qh wg (rUn oBits (qa 1)) (rC (.int (52)))) (rC (.int 1))) (qc (qh wg (rC (.int (-1074))) (qa 2)) qi)) [.val (.int s) false,.val (.int W) false,.val (.int p) false,.un,.un,.un] = .ok (.int d,.nw):=by
   have b1:rUn oBits (qa 1) [.val (.int s) false,.val (.int W) false,.val (.int p) false,.un,.un,.un] = .ok (.int ((W.log2+1:Nat):Int),.nw):=(yf (x:=(.int W,.sh)) rfl).trans (qP (by
    rw[if_neg (by lia),Int.natAbs_natCast]))
   have b2:qh wg (qh wg (rUn oBits (qa 1)) (rC (.int (52)))) (rC (.int 1)) [.val (.int s) false,.val (.int W) false,.val (.int p) false,.un,.un,.un] = .ok (.int (((W.log2+1:Nat):Int)-52-1),.nw):=(qk (y:=(.int 1,.nw)) ((qk b1 (y:=(.int 52,.nw)) rfl).trans rfl) rfl).trans rfl
   have b3:qh wg (rC (.int (-1074))) (qa 2) [.val (.int s) false,.val (.int W) false,.val (.int p) false,.un,.un,.un] = .ok (.int (-1074-p),.nw):=(qk (x:=(.int (-1074),.nw)) (y:=(.int p,.sh)) rfl rfl).trans rfl
   refine (Wd (qf b2 (qf b3 qu))).trans ?_
   show Rs.ok (D.int (if (-1074-p)>((W.log2+1:Nat):Int)-52-1 then -1074-p else ((W.log2+1:Nat):Int)-52-1),Kd.nw)=_
   refine qP ?_
   rw[hd]
   split <;> lia
  rw[qE (show vd 3 _ _ = .nx [.val (.int s) false,.val (.int W) false,.val (.int p) false,.val (.int d) true,.un,.un] from vP e3 rfl)]
  obtain⟨kept,hk⟩:∃ kept:Nat,kept=if d <= 0 then W*2^(-d).toNat else Dm.nw W d.toNat:=⟨_,rfl⟩
  rw[<- hk]
  have e4:qe vL (qc (qa 1) (qc (qa 3) qi)) [.val (.int s) false,.val (.int W) false,.val (.int p) false,.val (.int d) true,.un,.un] = .ok (.int kept,.nw):=by
   rw[qO (qf (x:=(.int W,.sh)) rfl (qf (x:=(.int d,.nw)) rfl qu))]
   show (vL [.int W,.int d]).bind _=_
   rw[Vn ⟨by lia,by rw[Int.natAbs_natCast];exact hw.up (by decide),hd1.1,hd1.2⟩]
   show Rs.ok (D.int (if d <= 0 then (W:Int)*2^(-d).toNat else (Dm.nw (W:Int).toNat d.toNat:Int)),Kd.nw)=_
   refine qP ?_
   rw[hk,Int.toNat_natCast]
   split
   ·rw[Int.natCast_mul,Int.natCast_pow];rfl
   ·rfl
  rw[qE (show vd 4 _ _ = .nx [.val (.int s) false,.val (.int W) false,.val (.int p) false,.val (.int d) true,.val (.int kept) true,.un] from vP e4 rfl)]
  obtain⟨E,hE⟩:∃ E:Nat,(E:Int)=p+1074+d:=⟨(p+1074+d).toNat,by lia⟩
  rw[<- hE,Int.toNat_natCast]
  have hEs:E<2^20:=by lia
  have e5:qh wm (qh w4 (qh wg (qh wm (qa 2) (qa 3)) (rC (.int (-1074)))) (rC (.int (52)))) (qa 4) [.val (.int s) false,.val (.int W) false,.val (.int p) false,.val (.int d) true,.val (.int kept) true,.un] = .ok (.int ((E*2^52+kept:Nat):Int),.nw):=by
   have b1:qh wg (qh wm (qa 2) (qa 3)) (rC (.int (-1074))) [.val (.int s) false,.val (.int W) false,.val (.int p) false,.val (.int d) true,.val (.int kept) true,.un] = .ok (.int E,.nw):=(qk (x:=(.int (p+d),.nw)) (y:=(.int (-1074),.nw)) ((qk (x:=(.int p,.sh)) (y:=(.int d,.nw)) rfl rfl).trans rfl) rfl).trans (qP (by lia))
   have b2:qh w4 (qh wg (qh wm (qa 2) (qa 3)) (rC (.int (-1074)))) (rC (.int (52))) [.val (.int s) false,.val (.int W) false,.val (.int p) false,.val (.int d) true,.val (.int kept) true,.un] = .ok (.int ((E*2^52:Nat):Int),.nw):=(qk b1 (y:=(.int 52,.nw)) rfl).trans ((zb (by decide) (by decide) (Qc 20 (by decide) hEs)).trans (qP (by rw[Int.natCast_mul];rfl)))
   exact (qk b2 (y:=(.int kept,.nw)) rfl).trans (qP (by rw[Int.natCast_add]))
  generalize E*2^52+kept=size at *
  rw[qE (show vd 5 _ _ = .nx [.val (.int s) false,.val (.int W) false,.val (.int p) false,.val (.int d) true,.val (.int kept) true,.val (.int size) true] from vP e5 rfl)]
  have ht2:tBl (qh (yq fun i j=>decide (j <= i)) (qa 5) (rC (.int (9218868437227405312)))) [.val (.int s) false,.val (.int W) false,.val (.int p) false,.val (.int d) true,.val (.int kept) true,.val (.int size) true] = .ok (decide (9218868437227405312 <= size)):=wQ (k:=.nw) ((qk (x:=(.int size,.nw)) (y:=(.int 9218868437227405312,.nw)) rfl rfl).trans (by
   show Rs.ok (D.bl (decide ((9218868437227405312:Int) <= size)),Kd.nw)=_
   rw[show decide ((9218868437227405312:Int) <= size)=decide (9218868437227405312 <= size) from decide_eq_decide.mpr (by lia)]))
  by_cases c2:9218868437227405312 <= size
  ·rw[decide_eq_true c2] at ht2
   rw[if_pos c2,y8 ((uh ht2).trans rfl)]
   rfl
  ·rw[decide_eq_false c2] at ht2
   rw[if_neg c2,qE (yi ht2)]
   have hv:qh wm (qh w4 (qa 0) (rC (.int 63))) (qa 5) [.val (.int s) false,.val (.int W) false,.val (.int p) false,.val (.int d) true,.val (.int kept) true,.val (.int size) true] = .ok (.int (((if decide (s=1)=true then 2^63 else 0)+size:Nat):Int),.nw):=by
    have b1:qh w4 (qa 0) (rC (.int 63)) [.val (.int s) false,.val (.int W) false,.val (.int p) false,.val (.int d) true,.val (.int kept) true,.val (.int size) true] = .ok (.int ((if decide (s=1)=true then 2^63 else 0:Nat):Int),.nw):=(qk (x:=(.int s,.sh)) (y:=(.int 63,.nw)) rfl rfl).trans ((zb (by decide) (by decide) fs).trans (qP hsg))
    exact (qk b1 (y:=(.int size,.nw)) rfl).trans (qP (by rw[Int.natCast_add]))
   rw[vM (δ:=[.val (.int s) false,.val (.int W) false,.val (.int p) false,.val (.int d) true,.val (.int kept) true,.val (.int size) true]) hv]
   rfl
theorem JW:Hr jC ["sign","whole","power","drop","kept","size"] 3 vR:=qeo qbV
theorem Q7 {s w p:Int} (h:(s=0\/s=1)/\0 <= w/\lt2 w.natAbs 20000 /\ -8000 <= p/\p <= 8000):vR [.int s,.int w,.int p]=vm (Dm.rnd (decide (s=1)) w.toNat (p+1074)):=XT h
noncomputable abbrev U3 (x y z:Int):Prop:=U64 x/\U64 y/\U64 z
noncomputable abbrev U2 (x y:Int):Prop:=U64 x/\U64 y
noncomputable def ve:Fn:=fn3 U3 fun x y z=>vm (Pv.fused x.toNat y.toNat z.toNat)
noncomputable def yw:Fn:=fn2 U2 fun x y=>vm (Pv.add x.toNat y.toNat)
noncomputable def yT:Fn:=fn2 U2 fun x y=>vm (Pv.sub x.toNat y.toNat)
noncomputable def wj:Fn:=fn2 U2 fun x y=>vm (Pv.mul x.toNat y.toNat)
noncomputable def V9:RS:=(vt (vd 3 (qh wm (qe qo (qc (qa 0) qi)) (qe qo (qc (qa 1) qi)))) (vt (vd 4 (wu qci (qc (qa 3) (qc (qe qo (qc (qa 2) qi)) qi)))) (vt (vd 5 (qh w4 (qh jY (qe qQ (qc (qa 0) qi)) (qe qQ (qc (qa 1) qi))) (qh wg (qa 3) (qa 4)))) (vt (vd 6 (qh wm (qa 5) (qh w4 (qe qQ (qc (qa 2) qi)) (qh wg (qe qo (qc (qa 2) qi)) (qa 4))))) (vt (sIf (tBl (qh (oEq false) (qa 6) (rC (.int 0)))) (vK (qh w4 (qh (jT Builtin.bitAnd) (qh (jT Builtin.bitXor) (qe qC (qc (qa 0) qi)) (qe qC (qc (qa 1) qi))) (qe qC (qc (qa 2) qi))) (rC (.int 63)))) wC) (vK (qe vR (qc (j8 (tBl (qh (yq fun i j=>decide (i<j)) (qa 6) (rC (.int 0)))) (rC (.int 1)) (rC (.int 0))) (qc (wu qgJ (qc (qa 6) qi)) (qc (qa 4) qi))))))))))
noncomputable def YM:RS:=(vK (qe ve (qc (qa 0) (qc (rC (.int (4607182418800017408))) (qc (qa 1) qi)))))
noncomputable def VP:RS:=(vK (qe yw (qc (qa 0) (qc (qe vI (qc (qa 1) qi)) qi))))
noncomputable def jE:RS:=(vK (qe vR (qc (qh (jT Builtin.bitXor) (qe qC (qc (qa 0) qi)) (qe qC (qc (qa 1) qi))) (qc (qh jY (qe qy (qc (qa 0) qi)) (qe qy (qc (qa 1) qi))) (qc (qh wm (qe qo (qc (qa 0) qi)) (qe qo (qc (qa 1) qi))) qi)))))
theorem Jr {p:Prop} [Decidable p]:decide ((if p then (1:Int) else 0)=1)=decide p:=by by_cases h:p <;> simp [h]
theorem xr {r:RE}{δ:Dl}{o:Option Nat} (h:r δ=(vm o).bind fun y=>.ok (y.1,kB y.2)) (hf:autoParam (freeze δ=δ) qt._auto_1):res (vK r δ)=vm o:=by
 cases o with
 | none=>rw[uD (c:="StepNotFinite") (by rw[hf,h];rfl)];rfl
 | some v=>rw[vM (d:=.int v) (by rw[hf,h];rfl)];rfl
theorem Vh {x:Nat} (h:x<2^64):Dm.ex x <= 2046:=by
 unfold Dm.ex Dm.sz
 lia
theorem Za {x:Nat} (h:x<2^64):Dm.sg x=0\/Dm.sg x=1:=by
 unfold Dm.sg
 lia
theorem qee (x:Nat):lt2 (Dm.sw x).natAbs 53:=by
 unfold Dm.sw
 split
 ·rw[Int.natAbs_neg,Int.natAbs_natCast];exact Dm.u4 x
 ·rw[Int.natAbs_natCast];exact Dm.u4 x
theorem jt {X:Nat} (h:U64 (X:Int)):X<2^64:=by have:=h.2;lia
theorem qfG (x y z:Int) (h:U3 x y z):res (V9 (sl0 ["x","y","z","power","low","product_part","total"] [.int x,.int y,.int z]))=vm (Pv.fused x.toNat y.toNat z.toNat):=by
 obtain⟨hx,hy,hz⟩:=h
 obtain⟨X,rfl⟩:=yh hx
 obtain⟨Y,rfl⟩:=yh hy
 obtain⟨Z,rfl⟩:=yh hz
 have lx:=jt hx
 have ly:=jt hy
 have lz:=jt hz
 rw[Int.toNat_natCast,Int.toNat_natCast,Int.toNat_natCast,<- Dm.ZO lx ly lz]
 unfold V9
 rw[show sl0 ["x","y","z","power","low","product_part","total"] [.int (X:Int),.int (Y:Int),.int (Z:Int)]=[.val (.int X) false,.val (.int Y) false,.val (.int Z) false,.un,.un,.un,.un] from rfl]
 have pw:∀ {i:Nat}{V:Nat}{δ:Dl}{k:Kd},U64 (V:Int)->qa i δ = .ok (.int V,k)->qe qo (qc (qa i) qi) δ = .ok (.int ((Dm.ex V:Int)-1074),.nw):=fun {i V δ k} u e=>(qU e (zr u)).trans rfl
 have sww:∀ {i:Nat}{V:Nat}{δ:Dl}{k:Kd},U64 (V:Int)->qa i δ = .ok (.int V,k)->qe qQ (qc (qa i) qi) δ = .ok (.int (Dm.sw V),.nw):=fun {i V δ k} u e=>(qU e (Ws u)).trans rfl
 have sgg:∀ {i:Nat}{V:Nat}{δ:Dl}{k:Kd},U64 (V:Int)->qa i δ = .ok (.int V,k)->qe qC (qc (qa i) qi) δ = .ok (.int (Dm.sg V),.nw):=fun {i V δ k} u e=>(qU e (z3 u)).trans rfl
 obtain⟨P,hP⟩:∃ P:Int,P=(Dm.ex X:Int)+Dm.ex Y-2148:=⟨_,rfl⟩
 obtain⟨Q,hQ⟩:∃ Q:Int,Q=(Dm.ex Z:Int)-1074:=⟨_,rfl⟩
 obtain⟨L,hL⟩:∃ L:Int,L=min P Q:=⟨_,rfl⟩
 have bx:=Vh lx
 have by_:=Vh ly
 have bz:=Vh lz
 obtain⟨T,hT⟩:∃ T:Int,T=Dm.sw X*Dm.sw Y*2^(P-L).toNat+Dm.sw Z*2^(Q-L).toNat:=⟨_,rfl⟩
 have hm:Dm.XM X Y Z=if T=0 then some (if (Dm.sg X≠Dm.sg Y)/\Dm.sg Z=1 then 2^63 else 0) else Dm.rnd (decide (T<0)) T.natAbs (L+1074):=by
  rw[hT,hL,hP,hQ]
  rfl
 rw[hm]
 have e3:qh wm (qe qo (qc (qa 0) qi)) (qe qo (qc (qa 1) qi)) [.val (.int X) false,.val (.int Y) false,.val (.int Z) false,.un,.un,.un,.un] = .ok (.int P,.nw):=(qk (pw hx rfl) (pw hy rfl)).trans (qP (by rw[hP];lia))
 rw[qE (show vd 3 _ _ = .nx [.val (.int X) false,.val (.int Y) false,.val (.int Z) false,.val (.int P) true,.un,.un,.un] from vP e3 rfl)]
 have e4:wu qci (qc (qa 3) (qc (qe qo (qc (qa 2) qi)) qi)) [.val (.int X) false,.val (.int Y) false,.val (.int Z) false,.val (.int P) true,.un,.un,.un] = .ok (.int L,.nw):=(Wd (qf (x:=(.int P,.nw)) rfl (qf (pw hz rfl) qu))).trans (by
  show Rs.ok (D.int (if (Dm.ex Z:Int)-1074<P then (Dm.ex Z:Int)-1074 else P),Kd.nw)=_
  refine qP ?_
  rw[hL,hQ]
  split <;> lia)
 rw[qE (show vd 4 _ _ = .nx [.val (.int X) false,.val (.int Y) false,.val (.int Z) false,.val (.int P) true,.val (.int L) true,.un,.un] from vP e4 rfl)]
 have fx:=qee X
 have fy:=qee Y
 have fz:=qee Z
 have fxy:lt2 (Dm.sw X*Dm.sw Y).natAbs 106:=by rw[Int.natAbs_mul];exact fx.mul fy
 have e5:qh w4 (qh jY (qe qQ (qc (qa 0) qi)) (qe qQ (qc (qa 1) qi))) (qh wg (qa 3) (qa 4)) [.val (.int X) false,.val (.int Y) false,.val (.int Z) false,.val (.int P) true,.val (.int L) true,.un,.un] = .ok (.int (Dm.sw X*Dm.sw Y*2^(P-L).toNat),.nw) :=
  (qk (x:=(.int (Dm.sw X*Dm.sw Y),.nw)) (y:=(.int (P-L),.nw)) ((qk (sww hx rfl) (sww hy rfl)).trans (u9 (fx.qff (by decide)) (fy.qff (by decide)))) ((qk (x:=(.int P,.nw)) (y:=(.int L,.nw)) rfl rfl).trans rfl)).trans (zb (by lia) (by lia) (fxy.qff (by decide)))
 rw[qE (show vd 5 _ _ = .nx [.val (.int X) false,.val (.int Y) false,.val (.int Z) false,.val (.int P) true,.val (.int L) true,.val (.int (Dm.sw X*Dm.sw Y*2^(P-L).toNat)) true,.un] from vP e5 rfl)]
 have e6:qh wm (qa 5) (qh w4 (qe qQ (qc (qa 2) qi)) (qh wg (qe qo (qc (qa 2) qi)) (qa 4))) [.val (.int X) false,.val (.int Y) false,.val (.int Z) false,.val (.int P) true,.val (.int L) true,.val (.int (Dm.sw X*Dm.sw Y*2^(P-L).toNat)) true,.un] = .ok (.int T,.nw):=by
  have b1:qh w4 (qe qQ (qc (qa 2) qi)) (qh wg (qe qo (qc (qa 2) qi)) (qa 4)) [.val (.int X) false,.val (.int Y) false,.val (.int Z) false,.val (.int P) true,.val (.int L) true,.val (.int (Dm.sw X*Dm.sw Y*2^(P-L).toNat)) true,.un] = .ok (.int (Dm.sw Z*2^(Q-L).toNat),.nw) :=
   (qk (y:=(.int (Q-L),.nw)) (sww hz rfl) ((qk (y:=(.int L,.nw)) (pw hz rfl) rfl).trans (qP (by rw[hQ])))).trans (zb (by lia) (by lia) (fz.qff (by decide)))
  exact (qk (x:=(.int (Dm.sw X*Dm.sw Y*2^(P-L).toNat),.nw)) rfl b1).trans (qP hT.symm)
 rw[qE (show vd 6 _ _ = .nx [.val (.int X) false,.val (.int Y) false,.val (.int Z) false,.val (.int P) true,.val (.int L) true,.val (.int (Dm.sw X*Dm.sw Y*2^(P-L).toNat)) true,.val (.int T) true] from vP e6 rfl)]
 have fT:lt2 T.natAbs 20000:=by
  have a1:lt2 (Dm.sw X*Dm.sw Y*2^(P-L).toNat).natAbs 19999:=by
   rw[Int.natAbs_mul,Int.natAbs_pow]
   exact (fxy.mul (lt2.pow (P-L).toNat)).up (by lia)
  have a2:lt2 (Dm.sw Z*2^(Q-L).toNat).natAbs 19999:=by
   rw[Int.natAbs_mul,Int.natAbs_pow]
   exact (fz.mul (lt2.pow (Q-L).toNat)).up (by lia)
  rw[hT]
  exact (a1.add a2).mono (Int.natAbs_add_le _ _)
 generalize Dm.sw X*Dm.sw Y*2^(P-L).toNat=pp
 have ht:tBl (qh (oEq false) (qa 6) (rC (.int 0))) [.val (.int X) false,.val (.int Y) false,.val (.int Z) false,.val (.int P) true,.val (.int L) true,.val (.int pp) true,.val (.int T) true] = .ok (decide (T=0)):=wQ (k:=.nw) ((qk (x:=(.int T,.nw)) (y:=(.int 0,.nw)) rfl rfl).trans rfl)
 by_cases c:T=0
 ·rw[decide_eq_true c] at ht
  rw[if_pos c]
  have hv:qh w4 (qh (jT Builtin.bitAnd) (qh (jT Builtin.bitXor) (qe qC (qc (qa 0) qi)) (qe qC (qc (qa 1) qi))) (qe qC (qc (qa 2) qi))) (rC (.int 63)) [.val (.int X) false,.val (.int Y) false,.val (.int Z) false,.val (.int P) true,.val (.int L) true,.val (.int pp) true,.val (.int T) true] = .ok (.int ((if (Dm.sg X≠Dm.sg Y)/\Dm.sg Z=1 then 2^63 else 0:Nat):Int),.nw):=by
   have b:Builtin.bitAnd (Builtin.bitXor (Dm.sg X) (Dm.sg Y)) (Dm.sg Z)=((if (Dm.sg X≠Dm.sg Y)/\Dm.sg Z=1 then 1 else 0:Nat):Int):=by
    rcases Za lx with a | a <;> rcases Za ly with b | b <;> rcases Za lz with d | d <;> rw[a,b,d] <;> decide
   have b1:=(qk (f:=jT Builtin.bitAnd) (x:=(.int (Builtin.bitXor (Dm.sg X) (Dm.sg Y)),.nw)) ((qk (f:=jT Builtin.bitXor) (sgg (i:=0) (δ:=[.val (.int X) false,.val (.int Y) false,.val (.int Z) false,.val (.int P) true,.val (.int L) true,.val (.int pp) true,.val (.int T) true]) hx rfl) (sgg (i:=1) hy rfl)).trans rfl) (sgg (i:=2) hz rfl)).trans (qP b)
   refine (qk b1 (y:=(.int 63,.nw)) rfl).trans ((zb (by decide) (by decide) (Qc 4 (by decide) (by split <;> decide))).trans (qP ?_))
   split <;> rfl
  rw[uB ((uh ht).trans (vM (δ:=[.val (.int X) false,.val (.int Y) false,.val (.int Z) false,.val (.int P) true,.val (.int L) true,.val (.int pp) true,.val (.int T) true]) hv))]
  rfl
 ·rw[decide_eq_false c] at ht
  rw[if_neg c,qE (yi ht)]
  have hs:j8 (tBl (qh (yq fun i j=>decide (i<j)) (qa 6) (rC (.int 0)))) (rC (.int 1)) (rC (.int 0)) [.val (.int X) false,.val (.int Y) false,.val (.int Z) false,.val (.int P) true,.val (.int L) true,.val (.int pp) true,.val (.int T) true] = .ok (.int (if T<0 then 1 else 0),.nw):=by
   have tt:tBl (qh (yq fun i j=>decide (i<j)) (qa 6) (rC (.int 0))) [.val (.int X) false,.val (.int Y) false,.val (.int Z) false,.val (.int P) true,.val (.int L) true,.val (.int pp) true,.val (.int T) true] = .ok (decide (T<0)):=wQ (k:=.nw) ((qk (x:=(.int T,.nw)) (y:=(.int 0,.nw)) rfl rfl).trans rfl)
   by_cases q:T<0
   ·rw[decide_eq_true q] at tt
    rw[Wz tt,if_pos q]
    rfl
   ·rw[decide_eq_false q] at tt
    rw[WR tt,if_neg q]
    rfl
  have ha:wu qgJ (qc (qa 6) qi) [.val (.int X) false,.val (.int Y) false,.val (.int Z) false,.val (.int P) true,.val (.int L) true,.val (.int pp) true,.val (.int T) true] = .ok (.int (T.natAbs:Int),.nw):=(Wd (qf (x:=(.int T,.nw)) rfl qu)).trans (qP (by split <;> lia))
  have hg:vR [.int (if T<0 then 1 else 0),.int (T.natAbs:Int),.int L]=vm (Dm.rnd (decide (T<0)) T.natAbs (L+1074)):=by
   rw[Q7 ⟨by split <;> simp,by lia,by rw[Int.natAbs_natCast];exact fT,by lia,by lia⟩,Int.toNat_natCast]
   rw[Jr]
  have hcall:=qO (g:=vR) (δ:=[.val (.int X) false,.val (.int Y) false,.val (.int Z) false,.val (.int P) true,.val (.int L) true,.val (.int pp) true,.val (.int T) true]) (qf hs (qf ha (qf (ra:=qa 4) (x:=(.int L,.nw)) rfl qu)))
  exact xr (δ:=[.val (.int X) false,.val (.int Y) false,.val (.int Z) false,.val (.int P) true,.val (.int L) true,.val (.int pp) true,.val (.int T) true]) (hcall.trans (congrArg (fun q=>Rs.bind q _) hg))
theorem qcK:Hr V9 ["x","y","z","power","low","product_part","total"] 3 ve:=qeo qfG
theorem uq {x y z:Int} (h:U64 x) (h2:U64 y) (h3:U64 z):ve [.int x,.int y,.int z]=vm (Pv.fused x.toNat y.toNat z.toNat):=XT ⟨h,h2,h3⟩
theorem qg0 (x y:Int) (h:U2 x y):res (YM (sl0 ["x","y"] [.int x,.int y]))=vm (Pv.add x.toNat y.toNat):=by
 have u1:U64 4607182418800017408:=⟨by decide,by decide⟩
 have l1:x.toNat<2^64:=by have:=h.1.1;have:=h.1.2;lia
 have l2:y.toNat<2^64:=by have:=h.2.1;have:=h.2.2;lia
 rw[<- Dm.qgU l1 l2,Dm.ZO l1 (by decide) l2]
 unfold YM
 have hcall:=qO (g:=ve) (δ:=[.val (.int x) false,.val (.int y) false]) (qf (ra:=qa 0) (x:=(.int x,.sh)) rfl (qf (ra:=rC (.int 4607182418800017408)) (x:=(.int 4607182418800017408,.nw)) rfl (qf (ra:=qa 1) (x:=(.int y,.sh)) rfl qu)))
 exact xr (δ:=[.val (.int x) false,.val (.int y) false]) (hcall.trans (congrArg (fun q=>Rs.bind q _) (uq h.1 u1 h.2)))
theorem qeN:Hr YM ["x","y"] 2 yw:=Wm qg0
theorem qau {x y:Int} (h:U64 x) (h2:U64 y):yw [.int x,.int y]=vm (Pv.add x.toNat y.toNat):=jD ⟨h,h2⟩
theorem qfi (x y:Int) (h:U2 x y):res (VP (sl0 ["x","y"] [.int x,.int y]))=vm (Pv.sub x.toNat y.toNat):=by
 have l2:y.toNat<2^64:=by have:=h.2.1;have:=h.2.2;lia
 unfold VP Pv.sub
 rw[Dm.WQ _ l2]
 have ho:qe vI (qc (qa 1) qi) [.val (.int x) false,.val (.int y) false] = .ok (.int (Dm.flip y.toNat),.nw):=(qU (x:=(.int y,.sh)) rfl (Wy h.2)).trans rfl
 have hcall:=qO (g:=yw) (δ:=[.val (.int x) false,.val (.int y) false]) (qf (ra:=qa 0) (x:=(.int x,.sh)) rfl (qf ho qu))
 have hg:=qau h.1 (qx (Dm.qbl _ l2))
 rw[Int.toNat_natCast] at hg
 exact xr (δ:=[.val (.int x) false,.val (.int y) false]) (hcall.trans (congrArg (fun q=>Rs.bind q _) hg))
theorem qej:Hr VP ["x","y"] 2 yT:=Wm qfi
theorem qfj {x y:Int} (h:U64 x) (h2:U64 y):yT [.int x,.int y]=vm (Pv.sub x.toNat y.toNat):=jD ⟨h,h2⟩
theorem qbP (x y:Int) (h:U2 x y):res (jE (sl0 ["x","y"] [.int x,.int y]))=vm (Pv.mul x.toNat y.toNat):=by
 have l1:x.toNat<2^64:=by have:=h.1.1;have:=h.1.2;lia
 have l2:y.toNat<2^64:=by have:=h.2.1;have:=h.2.2;lia
 rw[<- Dm.qgu l1 l2]
 unfold jE Dm.Wh
 have b1:=Vh l1
 have b2:=Vh l2
 have w1:lt2 (Dm.wh x.toNat) 53:=Dm.u4 _
 have w2:lt2 (Dm.wh y.toNat) 53:=Dm.u4 _
 have e1:qh (jT Builtin.bitXor) (qe qC (qc (qa 0) qi)) (qe qC (qc (qa 1) qi)) [.val (.int x) false,.val (.int y) false] = .ok (.int (if Dm.sg x.toNat≠Dm.sg y.toNat then 1 else 0),.nw):=(qk ((qU (x:=(.int x,.sh)) rfl (z3 h.1)).trans rfl) ((qU (x:=(.int y,.sh)) rfl (z3 h.2)).trans rfl)).trans (qP (by
  rcases Za l1 with a | a <;> rcases Za l2 with b | b <;> rw[a,b] <;> decide))
 have e2:qh jY (qe qy (qc (qa 0) qi)) (qe qy (qc (qa 1) qi)) [.val (.int x) false,.val (.int y) false] = .ok (.int ((Dm.wh x.toNat*Dm.wh y.toNat:Nat):Int),.nw):=(qk ((qU (x:=(.int x,.sh)) rfl (zC h.1)).trans rfl) ((qU (x:=(.int y,.sh)) rfl (zC h.2)).trans rfl)).trans ((u9 (w1.few (by decide)) (w2.few (by decide))).trans (qP (by rw[Int.natCast_mul])))
 have e3:qh wm (qe qo (qc (qa 0) qi)) (qe qo (qc (qa 1) qi)) [.val (.int x) false,.val (.int y) false] = .ok (.int ((Dm.ex x.toNat:Int)+Dm.ex y.toNat-2148),.nw):=(qk ((qU (x:=(.int x,.sh)) rfl (zr h.1)).trans rfl) ((qU (x:=(.int y,.sh)) rfl (zr h.2)).trans rfl)).trans (qP (by lia))
 have hg:vR [.int (if Dm.sg x.toNat≠Dm.sg y.toNat then 1 else 0),.int ((Dm.wh x.toNat*Dm.wh y.toNat:Nat):Int),.int ((Dm.ex x.toNat:Int)+Dm.ex y.toNat-2148)]=vm (Dm.rnd (decide (Dm.sg x.toNat≠Dm.sg y.toNat)) (Dm.wh x.toNat*Dm.wh y.toNat) ((Dm.ex x.toNat:Int)+Dm.ex y.toNat-1074)):=by
  rw[Q7 ⟨by split <;> simp,by lia,by rw[Int.natAbs_natCast];exact (w1.mul w2).up (by decide),by lia,by lia⟩,Int.toNat_natCast]
  rw[Jr]
  rw[show (Dm.ex x.toNat:Int)+Dm.ex y.toNat-2148+1074=(Dm.ex x.toNat:Int)+Dm.ex y.toNat-1074 by lia]
 have hcall:=qO (g:=vR) (δ:=[.val (.int x) false,.val (.int y) false]) (qf e1 (qf e2 (qf e3 qu)))
 exact xr (δ:=[.val (.int x) false,.val (.int y) false]) (hcall.trans (congrArg (fun q=>Rs.bind q _) hg))
theorem J7:Hr jE ["x","y"] 2 wj:=Wm qbP
theorem QG {x y:Int} (h:U64 x) (h2:U64 y):wj [.int x,.int y]=vm (Pv.mul x.toNat y.toNat):=jD ⟨h,h2⟩
theorem VY {neg:Bool}{m r:Nat} (h:Pv.pack neg m=some r):r<2^64:=by
 unfold Pv.pack at h
 split at h
 ·cases h
 ·rename_i hm
  have hm:m<2^2098:=Nat.lt_of_not_le hm
  cases h
  have a:(if neg=true then 2^63 else 0) <= 2^63:=by split <;> decide
  have b:(if m<2^52 then m else (m.log2-51)*2^52+m / 2^(m.log2-52)%2^52)<2^63:=by
   split
   ·rename_i q;exact Nat.lt_trans q (by decide)
   ·have hl:m.log2<2098:=by
     by_cases z:m=0
     ·rw[z,Nat.log2_zero];decide
     ·exact (Nat.log2_lt z).mpr hm
    have q:=Nat.mod_lt (m / 2^(m.log2-52)) (show 0<2^52 by decide)
    generalize m / 2^(m.log2-52)%2^52=v at q ⊢
    generalize m.log2=u at hl ⊢
    clear hm
    lia
  clear hm
  lia
theorem UA {s:Int}{d:Nat}{b:Bool}{r:Nat} (h:Pv.ofSum s d b=some r):r<2^64:=by
 unfold Pv.ofSum at h
 split at h
 ·cases h;split <;> decide
 ·exact VY h
theorem qdM {x y z r:Nat} (h:Pv.fused x y z=some r):r<2^64:=UA h
theorem Jo {x y r:Nat} (h:Pv.add x y=some r):r<2^64:=UA h
theorem UB {x:Option Nat}:∀ {e},Pv.step x = .error e->e = -3:=by
 intro e h
 cases x with
 | none=>cases h;rfl
 | some y=>cases h
open Classical in
noncomputable def gSh (sh:List Bool) (P:List Int->List (List Int)->Prop) (h:List Int->List (List Int)->Rs (D × Bool)):Fn:=fun ds=>match asks sh ds with
 | some x=>if P x.1 x.2 then h x.1 x.2 else .no
 | none=>.no
theorem qdr {sh:List Bool}{P:List Int->List (List Int)->Prop}{h:List Int->List (List Int)->Rs (D × Bool)}{is:List Int}{ls:List (List Int)} (h1:is.length=sh.count false) (h2:ls.length=sh.count true) (g:P is ls):gSh sh P h (unp sh is ls)=h is ls:=by
 unfold gSh
 rw[Y3 h1 h2]
 exact if_pos g
theorem qid {sh:List Bool}{P:List Int->List (List Int)->Prop}{h:List Int->List (List Int)->Rs (D × Bool)}{r:RS}{N:List Str}{n:Nat}
  (q:∀ is ls,is.length=sh.count false->ls.length=sh.count true->P is ls->res (r (sl0 N (unp sh is ls)))=h is ls):Hr r N n (gSh sh P h):=by
 intro ds _
 cases e:asks sh ds with
 | none=>left;unfold gSh;rw[e]
 | some x =>
  obtain⟨is,ls⟩:=x
  by_cases g:P is ls
  ·right
   obtain⟨e1,e2,e3⟩:=XD e
   rw[e1,q is ls e2 e3 g,qdr e2 e3 g]
  ·left
   unfold gSh
   rw[e]
   exact if_neg g
theorem qbA {ns:List Int} (h:je ns):ns.map D.int=(nats ns).map fun (n:Nat)=>D.int n:=by
 conv=>lhs;rw[<- qb9 h]
 rw[List.map_map]
 rfl
theorem XW {ns:List Int} (h:je ns):∀ v∈nats ns,v<2^64:=fun v hv=>by
 obtain⟨x,hx,rfl⟩:=List.mem_map.mp hv
 obtain⟨h1,h2⟩:=h x hx
 lia
theorem QW {xs:List D}{k l:Kd}{i:Nat}{d:D} (h:xs[i]?=some d):oIx (.lst xs,k) (.int (i:Nat),l) = .ok (d,k.low .nw):=by
 have hi:i<xs.length:=(List.getElem?_eq_some_iff.mp h).1
 have e:ug xs.length (i:Nat)=some i:=by
  unfold ug
  rw[if_pos (by lia),if_pos (by lia),Int.toNat_natCast]
 unfold oIx
 dsimp only
 rw[e]
 show (match xs[i]? with | some d=>Rs.ok (d,k.low .nw) | none=>.no)=_
 rw[h]
theorem qdy {l:List Nat} (k:Nat):(l.map fun (n:Nat)=>D.int n).getD k (.int 0) = .int (l.getD k 0:Nat):=by
 rw[List.getD_eq_getElem?_getD,List.getElem?_map,List.getD_eq_getElem?_getD]
 cases l[k]? <;> rfl
theorem YB {l:List Nat} (h:∀ v∈l,v<2^64) (k:Nat):l.getD k 0<2^64:=by
 rw[List.getD_eq_getElem?_getD]
 cases e:l[k]? with
 | none=>decide
 | some x=>exact h x (List.mem_of_getElem? e)
end Dt
set_option maxHeartbeats 4000000
set_option maxHeartbeats 2000000
namespace Dt
open PySem L2 L2.Ir
theorem xw {i j:Int}{k l:Kd} (h1:0<j) (h2:j.natAbs.log2<9000):zk (.int i,k) (.int j,l) = .ok (.int (i / j),.nw):=if_pos ⟨h1,h2⟩
theorem qbo {i j:Int}{k l:Kd} (h1:0<j):oMod (.int i,k) (.int j,l) = .ok (.int (i%j),.nw):=if_pos h1
noncomputable def qh0:List Int->List (List Int)->Prop
 | [s,w,_,p],[]=>(s=0\/s=1)/\0 <= w/\lt2 w.natAbs 19000 /\ -7000 <= p/\p <= 7000
 | _,_=>False
noncomputable def qhy:List Int->List (List Int)->Rs (D × Bool)
 | [s,w,l,p],[]=>vm (Dm.rnd (decide (s=1)) (w.toNat*2+(if l=0 then 0 else 1)) (p+1073))
 | _,_=>.no
noncomputable def qK:Fn:=gSh [false,false,false,false] qh0 qhy
noncomputable def wU:RS:=(vt (vd 4 (j8 (tBl (qh (oEq false) (qa 2) (rC (.int 0)))) (rC (.int 0)) (rC (.int 1)))) (vK (qe vR (qc (qa 0) (qc (qh wm (qh jY (qa 1) (rC (.int 2))) (qa 4)) (qc (qh wg (qa 3) (rC (.int 1))) qi))))))
theorem jN (s w l p:Int) (h:(s=0\/s=1)/\0 <= w/\lt2 w.natAbs 19000 /\ -7000 <= p/\p <= 7000):res (wU (sl0 ["sign","whole","left","power","behind"] [.int s,.int w,.int l,.int p]))=vm (Dm.rnd (decide (s=1)) (w.toNat*2+(if l=0 then 0 else 1)) (p+1073)):=by
 obtain⟨hs,h0,hw,hp1,hp2⟩:=h
 obtain⟨W,rfl⟩:∃ W:Nat,w=W:=⟨w.toNat,by lia⟩
 rw[Int.natAbs_natCast] at hw
 rw[Int.toNat_natCast]
 unfold wU
 rw[show sl0 ["sign","whole","left","power","behind"] [.int s,.int (W:Int),.int l,.int p]=[.val (.int s) false,.val (.int W) false,.val (.int l) false,.val (.int p) false,.un] from rfl]
 obtain⟨B,hB⟩:∃ B:Nat,B=if l=0 then 0 else 1:=⟨_,rfl⟩
 rw[<- hB]
 have hB1:B <= 1:=by rw[hB];split <;> lia
 have e4:j8 (tBl (qh (oEq false) (qa 2) (rC (.int 0)))) (rC (.int 0)) (rC (.int 1)) [.val (.int s) false,.val (.int W) false,.val (.int l) false,.val (.int p) false,.un] = .ok (.int B,.nw):=by
  have tt:tBl (qh (oEq false) (qa 2) (rC (.int 0))) [.val (.int s) false,.val (.int W) false,.val (.int l) false,.val (.int p) false,.un] = .ok (decide (l=0)):=wQ (k:=.nw) ((qk (x:=(.int l,.sh)) (y:=(.int 0,.nw)) rfl rfl).trans rfl)
  by_cases c:l=0
  ·rw[decide_eq_true c] at tt
   rw[Wz tt,hB,if_pos c]
   rfl
  ·rw[decide_eq_false c] at tt
   rw[WR tt,hB,if_neg c]
   rfl
 rw[qE (show vd 4 _ _ = .nx [.val (.int s) false,.val (.int W) false,.val (.int l) false,.val (.int p) false,.val (.int B) true] from vP e4 rfl)]
 have b1:qh wm (qh jY (qa 1) (rC (.int 2))) (qa 4) [.val (.int s) false,.val (.int W) false,.val (.int l) false,.val (.int p) false,.val (.int B) true] = .ok (.int ((W*2+B:Nat):Int),.nw):=(qk (y:=(.int B,.nw)) ((qk (x:=(.int W,.sh)) (y:=(.int 2,.nw)) rfl rfl).trans (u9 (hw.few (by decide)) (uW 4 (by decide) (by decide)))) rfl).trans (qP (by rw[Int.natCast_add,Int.natCast_mul];rfl))
 have b2:qh wg (qa 3) (rC (.int 1)) [.val (.int s) false,.val (.int W) false,.val (.int l) false,.val (.int p) false,.val (.int B) true] = .ok (.int (p-1),.nw):=(qk (x:=(.int p,.sh)) (y:=(.int 1,.nw)) rfl rfl).trans rfl
 have f2:lt2 (W*2+B) 20000:=((hw.mul (show lt2 2 2 by unfold lt2;decide)).add ((show lt2 B 2 by unfold lt2;lia).up (by decide))).up (by decide)
 have hg:=Q7 (s:=s) (w:=((W*2+B:Nat):Int)) (p:=p-1) ⟨hs,by lia,by rw[Int.natAbs_natCast];exact f2,by lia,by lia⟩
 rw[Int.toNat_natCast,show p-1+1074=p+1073 by lia] at hg
 have hcall:=qO (g:=vR) (δ:=[.val (.int s) false,.val (.int W) false,.val (.int l) false,.val (.int p) false,.val (.int B) true]) (qf (ra:=qa 0) (x:=(.int s,.sh)) rfl (qf b1 (qf b2 qu)))
 exact xr (δ:=[.val (.int s) false,.val (.int W) false,.val (.int l) false,.val (.int p) false,.val (.int B) true]) (hcall.trans (congrArg (fun q=>Rs.bind q _) hg))
theorem u5:Hr wU ["sign","whole","left","power","behind"] 4 qK:=qid fun is ls h1 h2 g=>by
 obtain⟨s,w,l,p,rfl⟩:=qgB h1
 obtain rfl:=List.eq_nil_of_length_eq_zero h2
 exact jN s w l p g
theorem yR {s w l p:Int} (h:(s=0\/s=1)/\0 <= w/\lt2 w.natAbs 19000 /\ -7000 <= p/\p <= 7000):qK [.int s,.int w,.int l,.int p]=vm (Dm.rnd (decide (s=1)) (w.toNat*2+(if l=0 then 0 else 1)) (p+1073)):=qdr (sh:=[false,false,false,false]) (P:=qh0) (h:=qhy) (is:=[s,w,l,p]) (ls:=[]) rfl rfl h
noncomputable def vg:Fn:=fn2 U2 fun x y=>vm (Pv.div x.toNat y.toNat)
noncomputable def uC:RS:=(vt (sIf (tBl (qe vQ (qc (qa 1) qi))) (wJ "StepNotFinite") wC) (vt (vd 2 (qh w4 (qe qy (qc (qa 0) qi)) (rC (.int (112))))) (vt (vd 3 (qh zk (qa 2) (qe qy (qc (qa 1) qi)))) (vt (vd 4 (qh oMod (qa 2) (qe qy (qc (qa 1) qi)))) (vK (qe qK (qc (qh (jT Builtin.bitXor) (qe qC (qc (qa 0) qi)) (qe qC (qc (qa 1) qi))) (qc (qa 3) (qc (qa 4) (qc (qh wg (qh wg (qe qo (qc (qa 0) qi)) (qe qo (qc (qa 1) qi))) (rC (.int (112)))) qi))))))))))
theorem qaq (x y:Int) (h:U2 x y):res (uC (sl0 ["x","y","widened","whole","left"] [.int x,.int y]))=vm (Pv.div x.toNat y.toNat):=by
 obtain⟨hx,hy⟩:=h
 obtain⟨X,rfl⟩:=yh hx
 obtain⟨Y,rfl⟩:=yh hy
 have lx:=jt hx
 have ly:=jt hy
 rw[Int.toNat_natCast,Int.toNat_natCast,<- Dm.qhf lx ly]
 unfold uC Dm.Va
 rw[show sl0 ["x","y","widened","whole","left"] [.int (X:Int),.int (Y:Int)]=[.val (.int X) false,.val (.int Y) false,.un,.un,.un] from rfl]
 have ht:tBl (qe vQ (qc (qa 1) qi)) [.val (.int X) false,.val (.int Y) false,.un,.un,.un] = .ok (decide (Dm.sz Y=0)):=wQ (k:=.nw) ((qU (x:=(.int Y,.sh)) rfl (Q5 hy)).trans (by
  show Rs.ok (D.bl (decide ((Y:Int)%9223372036854775808=0)),Kd.nw)=_
  rw[show decide ((Y:Int)%9223372036854775808=0)=decide (Dm.sz Y=0) from decide_eq_decide.mpr (by unfold Dm.sz;lia)]))
 by_cases c:Dm.sz Y=0
 ·rw[decide_eq_true c] at ht
  rw[if_pos c,y8 ((uh ht).trans rfl)]
  rfl
 ·rw[decide_eq_false c] at ht
  rw[if_neg c,qE (yi ht)]
  have hwy:0<Dm.wh Y:=Nat.pos_of_ne_zero fun z=>c ((Dm.yL Y).mp z)
  have w1:lt2 (Dm.wh X) 53:=Dm.u4 _
  have w2:lt2 (Dm.wh Y) 53:=Dm.u4 _
  have bx:=Vh lx
  have by_:=Vh ly
  have wwx:∀ {δ:Dl}{k:Kd},qa 0 δ = .ok (.int X,k)->qe qy (qc (qa 0) qi) δ = .ok (.int (Dm.wh X),.nw):=fun e=>(qU e (zC hx)).trans rfl
  have wwy:∀ {δ:Dl}{k:Kd},qa 1 δ = .ok (.int Y,k)->qe qy (qc (qa 1) qi) δ = .ok (.int (Dm.wh Y),.nw):=fun e=>(qU e (zC hy)).trans rfl
  obtain⟨V,hV⟩:∃ V:Nat,V=Dm.wh X*2^112:=⟨_,rfl⟩
  rw[<- hV]
  have fV:lt2 V 166:=by rw[hV];exact w1.mul (lt2.pow 112)
  have e2:qh w4 (qe qy (qc (qa 0) qi)) (rC (.int (112))) [.val (.int X) false,.val (.int Y) false,.un,.un,.un] = .ok (.int V,.nw):=(qk (y:=(.int 112,.nw)) (wwx rfl) rfl).trans ((zb (by decide) (by decide) (w1.few (by decide))).trans (qP (by rw[hV,Int.natCast_mul];rfl)))
  rw[qE (show vd 2 _ _ = .nx [.val (.int X) false,.val (.int Y) false,.val (.int V) true,.un,.un] from vP e2 rfl)]
  have e3:qh zk (qa 2) (qe qy (qc (qa 1) qi)) [.val (.int X) false,.val (.int Y) false,.val (.int V) true,.un,.un] = .ok (.int ((V / Dm.wh Y:Nat):Int),.nw):=(qk (x:=(.int V,.nw)) rfl (wwy rfl)).trans ((xw (by lia) (by rw[Int.natAbs_natCast];exact Nat.lt_of_lt_of_le (w2.log (by decide)) (by decide))).trans (qP (by rw[Int.natCast_ediv])))
  rw[qE (show vd 3 _ _ = .nx [.val (.int X) false,.val (.int Y) false,.val (.int V) true,.val (.int ((V / Dm.wh Y:Nat):Int)) true,.un] from vP e3 rfl)]
  have e4:qh oMod (qa 2) (qe qy (qc (qa 1) qi)) [.val (.int X) false,.val (.int Y) false,.val (.int V) true,.val (.int ((V / Dm.wh Y:Nat):Int)) true,.un] = .ok (.int ((V%Dm.wh Y:Nat):Int),.nw):=(qk (x:=(.int V,.nw)) rfl (wwy rfl)).trans ((qbo (by lia)).trans (qP (by rw[Int.natCast_emod])))
  rw[qE (show vd 4 _ _ = .nx [.val (.int X) false,.val (.int Y) false,.val (.int V) true,.val (.int ((V / Dm.wh Y:Nat):Int)) true,.val (.int ((V%Dm.wh Y:Nat):Int)) true] from vP e4 rfl)]
  have s1:qh (jT Builtin.bitXor) (qe qC (qc (qa 0) qi)) (qe qC (qc (qa 1) qi)) [.val (.int X) false,.val (.int Y) false,.val (.int V) true,.val (.int ((V / Dm.wh Y:Nat):Int)) true,.val (.int ((V%Dm.wh Y:Nat):Int)) true] = .ok (.int (if Dm.sg X≠Dm.sg Y then 1 else 0),.nw):=(qk ((qU (x:=(.int X,.sh)) rfl (z3 hx)).trans rfl) ((qU (x:=(.int Y,.sh)) rfl (z3 hy)).trans rfl)).trans (qP (by
   rw[Int.toNat_natCast,Int.toNat_natCast]
   rcases Za lx with a | a <;> rcases Za ly with b | b <;> rw[a,b] <;> decide))
  have p1:qh wg (qh wg (qe qo (qc (qa 0) qi)) (qe qo (qc (qa 1) qi))) (rC (.int (112))) [.val (.int X) false,.val (.int Y) false,.val (.int V) true,.val (.int ((V / Dm.wh Y:Nat):Int)) true,.val (.int ((V%Dm.wh Y:Nat):Int)) true] = .ok (.int ((Dm.ex X:Int)-Dm.ex Y-112),.nw):=(qk (x:=(.int ((Dm.ex X:Int)-Dm.ex Y),.nw)) (y:=(.int 112,.nw)) ((qk ((qU (x:=(.int X,.sh)) rfl (zr hx)).trans rfl) ((qU (x:=(.int Y,.sh)) rfl (zr hy)).trans rfl)).trans (qP (by rw[Int.toNat_natCast,Int.toNat_natCast];lia))) rfl).trans rfl
  have hg:=yR (s:=if Dm.sg X≠Dm.sg Y then 1 else 0) (w:=((V / Dm.wh Y:Nat):Int)) (l:=((V%Dm.wh Y:Nat):Int)) (p:=(Dm.ex X:Int)-Dm.ex Y-112) ⟨by split <;> simp,Int.natCast_nonneg _,by rw[Int.natAbs_natCast];exact (fV.mono (Nat.div_le_self _ _)).up (by decide),by lia,by lia⟩
  have es:(if ((V%Dm.wh Y:Nat):Int)=0 then 0 else 1:Nat)=if V%Dm.wh Y=0 then 0 else 1:=by
   by_cases q:V%Dm.wh Y=0
   ·rw[if_pos q,if_pos (by rw[q];rfl)]
   ·rw[if_neg q,if_neg (by lia)]
  rw[Int.toNat_natCast,Jr,es,show (Dm.ex X:Int)-Dm.ex Y-112+1073=(Dm.ex X:Int)-Dm.ex Y+961 by lia] at hg
  have hcall:=qO (g:=qK) (δ:=[.val (.int X) false,.val (.int Y) false,.val (.int V) true,.val (.int ((V / Dm.wh Y:Nat):Int)) true,.val (.int ((V%Dm.wh Y:Nat):Int)) true]) (qf s1 (qf (ra:=qa 3) (x:=(.int ((V / Dm.wh Y:Nat):Int),.nw)) rfl (qf (ra:=qa 4) (x:=(.int ((V%Dm.wh Y:Nat):Int),.nw)) rfl (qf p1 qu))))
  exact xr (δ:=[.val (.int X) false,.val (.int Y) false,.val (.int V) true,.val (.int ((V / Dm.wh Y:Nat):Int)) true,.val (.int ((V%Dm.wh Y:Nat):Int)) true]) (hcall.trans (congrArg (fun q=>Rs.bind q _) hg))
theorem Ul:Hr uC ["x","y","widened","whole","left"] 2 vg:=Wm qaq
theorem uA {x y:Int} (h:U64 x) (h2:U64 y):vg [.int x,.int y]=vm (Pv.div x.toNat y.toNat):=jD ⟨h,h2⟩
noncomputable def zc:Fn:=fn1 (fun w=>0<w/\lt2 w.natAbs 3000) fun w=>iv (Pv.root w.toNat)
noncomputable def y3:RS:=(vt (vd 1 (qh w4 (rC (.int 1)) (qh zk (qh wm (rUn oBits (qa 0)) (rC (.int 1))) (rC (.int 2))))) (vt (vd 2 (qh zk (qh wm (qa 1) (qh zk (qa 0) (qa 1))) (rC (.int 2)))) (vt (ZJ (tBl (qh (yq fun i j=>decide (i<j)) (qa 2) (qa 1))) (vt (vd 1 (qa 2)) (vd 2 (qh zk (qh wm (qa 1) (qh zk (qa 0) (qa 1))) (rC (.int 2)))))) (Qe 1))))
noncomputable abbrev nwt (W g:Nat):Nat:=(g+W / g) / 2
theorem qgv {W g:Nat} (hg:0<g):W<(nwt W g+1)*(nwt W g+1):=by
 have h1:W<g*(W / g+1):=by
  have:=Nat.div_add_mod W g
  have:=Nat.mod_lt W hg
  rw[Nat.mul_succ]
  lia
 have h2:g+W / g+1 <= 2*(nwt W g+1):=by unfold nwt;lia
 generalize W / g=q at h1 h2
 generalize nwt W g+1=b at h2
 have h3:(g+q+1)*(g+q+1) <= (2*b)*(2*b):=Nat.mul_le_mul h2 h2
 have h4:4*(g*(q+1)) <= (g+q+1)*(g+q+1):=by
  have key:∀ a c:Nat,4*(a*c) <= (a+c)*(a+c):=by
   intro a c
   rcases Nat.le_total a c with h | h
   ·obtain⟨d,rfl⟩:=Nat.exists_eq_add_of_le h
    have:(a+(a+d))*(a+(a+d))=4*(a*(a+d))+d*d:=by
     simp only[Nat.mul_add,Nat.add_mul,Nat.mul_comm d a]
     lia
    lia
   ·obtain⟨d,rfl⟩:=Nat.exists_eq_add_of_le h
    have:(c+d+c)*(c+d+c)=4*((c+d)*c)+d*d:=by
     simp only[Nat.mul_add,Nat.add_mul,Nat.mul_comm d c]
     lia
    lia
  have:=key g (q+1)
  rw[<- Nat.add_assoc] at this
  exact this
 have h5:(2*b)*(2*b)=4*(b*b):=by
  rw[Nat.mul_mul_mul_comm]
 lia
theorem Ym {W:Nat} (hW:0<W):∀ (n g:Nat),g <= n->0<g->lt2 g 8000->W<(g+1)*(g+1) ->
  ∃ k,wl (tBl (qh (yq fun i j=>decide (i<j)) (qa 2) (qa 1))) (vt (vd 1 (qa 2)) (vd 2 (qh zk (qh wm (qa 1) (qh zk (qa 0) (qa 1))) (rC (.int 2))))) k [.val (.int W) false,.val (.int g) true,.val (.int (nwt W g:Nat)) true] = .nx [.val (.int W) false,.val (.int (Pv.root W:Nat)) true,.val (.int (nwt W (Pv.root W):Nat)) true]
 | 0,g,hn,hg,_,_=>absurd hg (by lia)
 | n+1,g,hn,hg,hl,hi=>by
  have ht:tBl (qh (yq fun i j=>decide (i<j)) (qa 2) (qa 1)) [.val (.int W) false,.val (.int g) true,.val (.int (nwt W g:Nat)) true] = .ok (decide (nwt W g<g)):=wQ (k:=.nw) ((qk (x:=(.int (nwt W g:Nat),.nw)) (y:=(.int g,.nw)) rfl rfl).trans (by
   show Rs.ok (D.bl (decide ((nwt W g:Int)<g)),Kd.nw)=_
   rw[show decide ((nwt W g:Int)<g)=decide (nwt W g<g) from decide_eq_decide.mpr (by lia)]))
  have hb:=qgv (W:=W) hg
  by_cases c:nwt W g<g
  ·rw[decide_eq_true c] at ht
   generalize hB:nwt W g=B at *
   have hB0:0<B:=by
    rcases Nat.eq_zero_or_pos B with z | z
    ·rw[z] at hb;lia
    ·exact z
   have hlB:lt2 B 8000:=hl.mono (by lia)
   obtain⟨k,hk⟩:=Ym hW n B (by lia) hB0 hlB hb
   have a1:vd 1 (qa 2) [.val (.int W) false,.val (.int g) true,.val (.int B) true] = .nx [.val (.int W) false,.val (.int B) true,.val (.int B) true]:=vP (k:=.nw) rfl rfl
   have e0:qh zk (qa 0) (qa 1) [.val (.int W) false,.val (.int B) true,.val (.int B) true] = .ok (.int ((W / B:Nat):Int),.nw):=(qk (x:=(.int W,.sh)) (y:=(.int B,.nw)) rfl rfl).trans ((xw (by lia) (by rw[Int.natAbs_natCast];exact Nat.lt_of_lt_of_le (hlB.log (by decide)) (by decide))).trans (qP (by rw[Int.natCast_ediv])))
   have e1:qh zk (qh wm (qa 1) (qh zk (qa 0) (qa 1))) (rC (.int 2)) [.val (.int W) false,.val (.int B) true,.val (.int B) true] = .ok (.int ((nwt W B:Nat):Int),.nw):=(qk (y:=(.int 2,.nw)) ((qk (x:=(.int B,.nw)) rfl e0).trans (qP (by rw[<- Int.natCast_add]))) rfl).trans ((xw (by decide) (by decide)).trans (qP (by unfold nwt;rw[Int.natCast_ediv];rfl)))
   have a2:vd 2 (qh zk (qh wm (qa 1) (qh zk (qa 0) (qa 1))) (rC (.int 2))) [.val (.int W) false,.val (.int B) true,.val (.int B) true] = .nx [.val (.int W) false,.val (.int B) true,.val (.int (nwt W B:Nat)) true]:=vP e1 rfl
   refine⟨k+1,?_⟩
   unfold wl
   rw[ht]
   show (if true=true then _ else _)=_
   rw[if_pos rfl,qE a1,a2]
   exact hk
  ·rw[decide_eq_false c] at ht
   have hgg:g*g <= W:=by
    have q:g <= W / g:=by unfold nwt at c;lia
    exact Nat.le_trans (Nat.mul_le_mul_left g q) (Nat.mul_div_le W g)
   have hr:=Dm.qbR hgg hi
   refine⟨1,?_⟩
   unfold wl
   rw[ht,hr]
   rfl
theorem Y2 (w:Int) (h:0<w/\lt2 w.natAbs 3000):res (y3 (sl0 ["whole","guess","better"] [.int w]))=iv (Pv.root w.toNat):=by
 obtain⟨h0,hw⟩:=h
 obtain⟨W,rfl⟩:∃ W:Nat,w=W:=⟨w.toNat,by lia⟩
 rw[Int.natAbs_natCast] at hw
 rw[Int.toNat_natCast]
 unfold y3
 rw[show sl0 ["whole","guess","better"] [.int (W:Int)]=[.val (.int W) false,.un,.un] from rfl]
 have hW:0<W:=by lia
 have hlog:=hw.log (by decide)
 obtain⟨K,hK⟩:∃ K:Nat,K=(W.log2+1+1) / 2:=⟨_,rfl⟩
 have e1:qh w4 (rC (.int 1)) (qh zk (qh wm (rUn oBits (qa 0)) (rC (.int 1))) (rC (.int 2))) [.val (.int W) false,.un,.un] = .ok (.int ((2^K:Nat):Int),.nw):=by
  have b1:rUn oBits (qa 0) [.val (.int W) false,.un,.un] = .ok (.int ((W.log2+1:Nat):Int),.nw):=(yf (x:=(.int W,.sh)) rfl).trans (qP (by rw[if_neg (by lia),Int.natAbs_natCast]))
  have b2:qh zk (qh wm (rUn oBits (qa 0)) (rC (.int 1))) (rC (.int 2)) [.val (.int W) false,.un,.un] = .ok (.int (K:Int),.nw):=(qk (x:=(.int (((W.log2+1:Nat):Int)+1),.nw)) (y:=(.int 2,.nw)) ((qk b1 (y:=(.int 1,.nw)) rfl).trans rfl) rfl).trans ((xw (by decide) (by decide)).trans (qP (by lia)))
  refine (qk (x:=(.int 1,.nw)) rfl b2).trans ((zb (by lia) (by lia) (uW 4 (by decide) (by decide))).trans (qP ?_))
  rw[Int.toNat_natCast,Int.one_mul,Int.natCast_pow]
  rfl
 rw[qE (show vd 1 _ _ = .nx [.val (.int W) false,.val (.int ((2^K:Nat):Int)) true,.un] from vP e1 rfl)]
 have hg0:0<2^K:=Nat.two_pow_pos K
 have hgl:lt2 (2^K) 8000:=(lt2.pow K).up (by lia)
 have hgi:W<(2^K+1)*(2^K+1):=by
  have a:W<2^(W.log2+1):=Dm.yS (by lia)
  have b:2^(W.log2+1) <= 2^K*2^K:=by
   rw[<- Nat.pow_add]
   exact Nat.pow_le_pow_right (by decide) (by lia)
  have d:2^K*2^K <= (2^K+1)*(2^K+1):=Nat.mul_le_mul (by lia) (by lia)
  exact Nat.lt_of_lt_of_le a (Nat.le_trans b d)
 generalize 2^K=g at *
 have e0:qh zk (qa 0) (qa 1) [.val (.int W) false,.val (.int g) true,.un] = .ok (.int ((W / g:Nat):Int),.nw):=(qk (x:=(.int W,.sh)) (y:=(.int g,.nw)) rfl rfl).trans ((xw (by lia) (by rw[Int.natAbs_natCast];exact Nat.lt_of_lt_of_le (hgl.log (by decide)) (by decide))).trans (qP (by rw[Int.natCast_ediv])))
 have e2:qh zk (qh wm (qa 1) (qh zk (qa 0) (qa 1))) (rC (.int 2)) [.val (.int W) false,.val (.int g) true,.un] = .ok (.int ((nwt W g:Nat):Int),.nw):=(qk (y:=(.int 2,.nw)) ((qk (x:=(.int g,.nw)) rfl e0).trans (qP (by rw[<- Int.natCast_add]))) rfl).trans ((xw (by decide) (by decide)).trans (qP (by unfold nwt;rw[Int.natCast_ediv];rfl)))
 rw[qE (show vd 2 _ _ = .nx [.val (.int W) false,.val (.int g) true,.val (.int (nwt W g:Nat)) true] from vP e2 rfl)]
 obtain⟨k,hk⟩:=Ym hW g g (Nat.le_refl _) hg0 hgl hgi
 rw[qE (qck hk (by intro z;cases z)),Qk (δ:=[.val (.int W) false,.val (.int (Pv.root W:Nat)) true,.val (.int (nwt W (Pv.root W):Nat)) true]) (d:=.int (Pv.root W:Nat)) (k:=true) rfl rfl]
 rfl
theorem Yd:Hr y3 ["whole","guess","better"] 1 zc:=xV Y2
theorem Xy {w:Int} (h:0<w/\lt2 w.natAbs 3000):zc [.int w]=iv (Pv.root w.toNat):=yb h
noncomputable def yy:Fn:=fn1 Fi fun x=>vm (Pv.sqrt x.toNat)
noncomputable def YN:RS:=(vt (sIf (tBl (qe vQ (qc (qa 0) qi))) (Qe 0) wC) (vt (sIf (tBl (qh (oEq false) (qe qC (qc (qa 0) qi)) (rC (.int 1)))) (wJ "StepNotFinite") wC) (vt (vd 1 (qh oMod (qe qo (qc (qa 0) qi)) (rC (.int 2)))) (vt (vd 2 (qh w4 (qe qy (qc (qa 0) qi)) (qh wm (rC (.int (112))) (qa 1)))) (vt (vd 3 (qe zc (qc (qa 2) qi))) (vK (qe qK (qc (rC (.int 0)) (qc (qa 3) (qc (qh wg (qa 2) (qh jY (qa 3) (qa 3))) (qc (qh zk (qh wg (qh wg (qe qo (qc (qa 0) qi)) (qa 1)) (rC (.int (112)))) (rC (.int 2))) qi)))))))))))
theorem qg4 (x:Int) (h:Fi x):res (YN (sl0 ["x","odd","widened","whole"] [.int x]))=vm (Pv.sqrt x.toNat):=by
 obtain⟨hx,hf⟩:=h
 obtain⟨X,rfl⟩:=yh hx
 have lx:=jt hx
 have hfin:Dm.sz X<9218868437227405312:=by unfold Dm.sz;lia
 rw[Int.toNat_natCast,<- Dm.qfe lx hfin]
 unfold YN Dm.qen
 rw[show sl0 ["x","odd","widened","whole"] [.int (X:Int)]=[.val (.int X) false,.un,.un,.un] from rfl]
 have ht:tBl (qe vQ (qc (qa 0) qi)) [.val (.int X) false,.un,.un,.un] = .ok (decide (Dm.sz X=0)):=wQ (k:=.nw) ((qU (x:=(.int X,.sh)) rfl (Q5 hx)).trans (by
  show Rs.ok (D.bl (decide ((X:Int)%9223372036854775808=0)),Kd.nw)=_
  rw[show decide ((X:Int)%9223372036854775808=0)=decide (Dm.sz X=0) from decide_eq_decide.mpr (by unfold Dm.sz;lia)]))
 by_cases c:Dm.sz X=0
 ·rw[decide_eq_true c] at ht
  rw[if_pos c,uB ((uh ht).trans (Qk (d:=.int X) (k:=false) rfl rfl))]
  rfl
 ·rw[decide_eq_false c] at ht
  rw[if_neg c,qE (yi ht)]
  have ht2:tBl (qh (oEq false) (qe qC (qc (qa 0) qi)) (rC (.int 1))) [.val (.int X) false,.un,.un,.un] = .ok (decide (Dm.sg X=1)):=by
   refine wQ (k:=.nw) ((qk (x:=(.int (Dm.sg X),.nw)) (y:=(.int 1,.nw)) ((qU (x:=(.int X,.sh)) rfl (z3 hx)).trans rfl) rfl).trans ?_)
   show Rs.ok (D.bl (decide (((Dm.sg X:Nat):Int)=((1:Nat):Int))),Kd.nw)=_
   rw[x9]
  by_cases c2:Dm.sg X=1
  ·rw[decide_eq_true c2] at ht2
   rw[if_pos c2,y8 ((uh ht2).trans rfl)]
   rfl
  ·rw[decide_eq_false c2] at ht2
   rw[if_neg c2,qE (yi ht2)]
   have hwx:0<Dm.wh X:=Nat.pos_of_ne_zero fun z=>c ((Dm.yL X).mp z)
   have w1:lt2 (Dm.wh X) 53:=Dm.u4 _
   have bx:=Vh lx
   have pw:∀ {δ:Dl}{k:Kd},qa 0 δ = .ok (.int X,k)->qe qo (qc (qa 0) qi) δ = .ok (.int ((Dm.ex X:Int)-1074),.nw):=fun e=>(qU e (zr hx)).trans rfl
   obtain⟨o,ho⟩:∃ o:Nat,o=Dm.ex X%2:=⟨_,rfl⟩
   show _=vm (Dm.rnd false (Pv.root (Dm.wh X*2^(112+Dm.ex X%2))*2+(if Dm.wh X*2^(112+Dm.ex X%2)=Pv.root (Dm.wh X*2^(112+Dm.ex X%2))*Pv.root (Dm.wh X*2^(112+Dm.ex X%2)) then 0 else 1)) ((((Dm.ex X-Dm.ex X%2+962) / 2:Nat):Int)-1))
   rw[<- ho]
   have e1:qh oMod (qe qo (qc (qa 0) qi)) (rC (.int 2)) [.val (.int X) false,.un,.un,.un] = .ok (.int o,.nw):=(qk (y:=(.int 2,.nw)) (pw rfl) rfl).trans ((qbo (by decide)).trans (qP (by lia)))
   rw[qE (show vd 1 _ _ = .nx [.val (.int X) false,.val (.int o) true,.un,.un] from vP e1 rfl)]
   obtain⟨V,hV⟩:∃ V:Nat,V=Dm.wh X*2^(112+o):=⟨_,rfl⟩
   rw[<- hV]
   have fV:lt2 V 3000:=by rw[hV];exact (w1.mul (lt2.pow (112+o))).up (by lia)
   have hV0:0<V:=by rw[hV];exact Nat.mul_pos hwx (Nat.two_pow_pos _)
   have e2:qh w4 (qe qy (qc (qa 0) qi)) (qh wm (rC (.int (112))) (qa 1)) [.val (.int X) false,.val (.int o) true,.un,.un] = .ok (.int V,.nw):=(qk (x:=(.int (Dm.wh X),.nw)) (y:=(.int (112+(o:Int)),.nw)) ((qU (x:=(.int X,.sh)) rfl (zC hx)).trans rfl) ((qk (x:=(.int 112,.nw)) (y:=(.int o,.nw)) rfl rfl).trans rfl)).trans ((zb (by lia) (by lia) (w1.few (by decide))).trans (qP (by
    rw[hV,Int.natCast_mul,Int.natCast_pow,show (112+(o:Int)).toNat=112+o by lia]
    rfl)))
   rw[qE (show vd 2 _ _ = .nx [.val (.int X) false,.val (.int o) true,.val (.int V) true,.un] from vP e2 rfl)]
   have e3:qe zc (qc (qa 2) qi) [.val (.int X) false,.val (.int o) true,.val (.int V) true,.un] = .ok (.int (Pv.root V:Nat),.nw):=(qU (x:=(.int V,.nw)) rfl (Xy ⟨by lia,by rw[Int.natAbs_natCast];exact fV⟩)).trans rfl
   rw[qE (show vd 3 _ _ = .nx [.val (.int X) false,.val (.int o) true,.val (.int V) true,.val (.int (Pv.root V:Nat)) true] from vP e3 rfl)]
   have hsp:=Dm.jm V
   obtain⟨R,hR⟩:∃ R:Nat,R=Pv.root V:=⟨_,rfl⟩
   rw[<- hR] at hsp ⊢
   have fR:lt2 R 3000:=fV.mono (Nat.le_trans (by
    rcases Nat.eq_zero_or_pos R with z | z
    ·rw[z];lia
    ·exact Nat.le_mul_of_pos_left R z) hsp.1)
   have l1:qh wg (qa 2) (qh jY (qa 3) (qa 3)) [.val (.int X) false,.val (.int o) true,.val (.int V) true,.val (.int (R:Nat)) true] = .ok (.int ((V:Int)-(R*R:Nat)),.nw):=(qk (x:=(.int V,.nw)) (y:=(.int ((R*R:Nat):Int),.nw)) rfl ((qk (x:=(.int (R:Nat),.nw)) (y:=(.int (R:Nat),.nw)) rfl rfl).trans ((u9 (fR.few (by decide)) (fR.few (by decide))).trans (qP (by rw[Int.natCast_mul]))))).trans rfl
   have p1:qh zk (qh wg (qh wg (qe qo (qc (qa 0) qi)) (qa 1)) (rC (.int (112)))) (rC (.int 2)) [.val (.int X) false,.val (.int o) true,.val (.int V) true,.val (.int (R:Nat)) true] = .ok (.int (((Dm.ex X:Int)-1074-o-112) / 2),.nw):=(qk (x:=(.int ((Dm.ex X:Int)-1074-o-112),.nw)) (y:=(.int 2,.nw)) ((qk (x:=(.int ((Dm.ex X:Int)-1074-o),.nw)) (y:=(.int 112,.nw)) ((qk (y:=(.int o,.nw)) (pw rfl) rfl).trans rfl) rfl).trans rfl) rfl).trans (xw (by decide) (by decide))
   have hg:=yR (s:=0) (w:=(R:Int)) (l:=(V:Int)-(R*R:Nat)) (p:=((Dm.ex X:Int)-1074-o-112) / 2) ⟨.inl rfl,Int.natCast_nonneg _,by rw[Int.natAbs_natCast];exact fR.up (by decide),by lia,by lia⟩
   have es:(if (V:Int)-(R*R:Nat)=0 then 0 else 1:Nat)=if V=R*R then 0 else 1:=by
    by_cases q:V=R*R
    ·rw[if_pos q,if_pos (by omega)]
    ·rw[if_neg q,if_neg (by lia)]
   rw[Int.toNat_natCast,es,show ((Dm.ex X:Int)-1074-o-112) / 2+1073=(((Dm.ex X-o+962) / 2:Nat):Int)-1 by lia] at hg
   have hcall:=qO (g:=qK) (δ:=[.val (.int X) false,.val (.int o) true,.val (.int V) true,.val (.int (R:Nat)) true]) (qf (ra:=rC (.int 0)) (x:=(.int 0,.nw)) rfl (qf (ra:=qa 3) (x:=(.int (R:Nat),.nw)) rfl (qf l1 (qf p1 qu))))
   exact xr (δ:=[.val (.int X) false,.val (.int o) true,.val (.int V) true,.val (.int (R:Nat)) true]) (hcall.trans (congrArg (fun q=>Rs.bind q _) hg))
theorem qfg:Hr YN ["x","odd","widened","whole"] 1 yy:=xV qg4
theorem qef {x:Int} (h:Fi x):yy [.int x]=vm (Pv.sqrt x.toNat):=yb h
end Dt
namespace L2.Ir
open PySem
inductive Itm where
 | v (d:D) (k:Bool) | c (n:Nat)
inductive Cell where
 | lst (xs:List Itm) | ins (c:Str) (ns:List Str) (xs:List Itm)
structure MS where
 s:List (Option Itm)
 μ:List Cell
inductive z7 where
 | nx (m:MS) | rt (x:Itm) (μ:List Cell) | bk (m:MS) | ct (m:MS) | er (c:Str) | no
noncomputable abbrev RM:=MS->z7
noncomputable def zh (μ:List Cell):Nat->Itm->Option D
 | _,.v d _=>some d
 | 0,.c _=>none
 | f+1,.c n=>match μ[n]? with
  | some (.lst xs)=>(xs.mapM (zh μ f)).map D.lst
  | some (.ins c ns xs)=>(xs.mapM (zh μ f)).map (D.obj c ns)
  | none=>none
noncomputable def qcR (μ:List Cell):Option Itm->Sl
 | none=>.un
 | some x=>match zh μ 3 x with
  | some d=>.val d false
  | none=>.un
noncomputable def qJ (m:MS):Dl:=m.s.map (qcR m.μ)
noncomputable def xh:Option Itm->Sl
 | some (.v d k)=>.val d k
 | _=>.un
noncomputable def vY (m:MS):Dl:=m.s.map xh
noncomputable def QZ:DK->Option Itm
 | (d,k)=>if d.sc=true then some (.v d true) else match k with
  | .nw=>some (.v d true)
  | .fr=>some (.v d true)
  | _=>none
noncomputable def vJ:DK->Option Itm
 | (d,k)=>if d.sc=true then some (.v d true) else match k with
  | .nw=>some (.v d true)
  | .fr=>some (.v d true)
  | .sh=>some (.v d false)
  | _=>none
noncomputable abbrev IE:=MS->Rs Itm
noncomputable abbrev NE:=MS->Rs (List Itm)
noncomputable def jM:Option Itm->Rs Itm
 | some x=>.ok x
 | none=>.no
noncomputable def Qu (r:RE):IE:=fun m=>(r (qJ m)).bind fun y=>jM (QZ y)
noncomputable def jS (r:RE):IE:=fun m=>(r (vY m)).bind fun y=>jM (vJ y)
noncomputable def ieV (i:Nat):IE:=fun m=>match m.s[i]? with
 | some (some x)=>.ok x
 | _=>.no
noncomputable def cellAt (m:MS):Itm->Option (Nat × Cell)
 | .c n=>(m.μ[n]?).map fun x=>(n,x)
 | _=>none
noncomputable def J3 (c f:Str):Option (Nat × Cell)->Rs Itm
 | some (_,.ins c' ns xs)=>if c'=c then jM ((ns.zip xs).lookup f) else .no
 | _=>.no
noncomputable def zF (c f:Str) (e:IE):IE:=fun m=>(e m).bind fun x=>J3 c f (cellAt m x)
noncomputable def qhI:Option (Nat × Cell)->D->Rs Itm
 | some (_,.lst xs),.int z=>jM ((ug xs.length z).bind fun j=>xs[j]?)
 | _,_=>.no
noncomputable def wW (e:IE) (r:RE):IE:=fun m=>(e m).bind fun x=>(r (qJ m)).bind fun y=>qhI (cellAt m x) y.1
noncomputable def qcW:NE:=fun _=>.ok []
noncomputable def vE:List IE->MS->Rs (List Itm)
 | [],_=>.ok []
 | e::r,m=>(e m).bind fun x=>(vE r m).bind fun xs=>.ok (x::xs)
noncomputable def Uj:RM:=fun m=>.nx m
noncomputable def z7.andThen (o:z7) (f:RM):z7:=match o with
 | .nx m=>f m
 | o=>o
noncomputable def wI (a b:RM):RM:=fun m=>(a m).andThen b
noncomputable def mDo {α:Type} (x:Rs α) (f:α->z7):z7:=match x with
 | .ok a=>f a
 | .er c=>.er c
 | .no=>.no
noncomputable def yJ (i:Nat) (e:IE):RM:=fun m=>mDo (e m) fun x=>.nx ⟨m.s.set i (some x),m.μ⟩
noncomputable def qfh (i:Nat) (e:NE):RM:=fun m=>mDo (e m) fun xs=>.nx ⟨m.s.set i (some (.c m.μ.length)),m.μ++[.lst xs]⟩
noncomputable def Yr (r:RE):RM:=fun m=>mDo (r (qJ m)) fun _=>.nx m
noncomputable def setCell (m:MS):Option (Nat × Cell)->D->Itm->z7
 | some (n,.lst xs),.int z,x=>match ug xs.length z with
  | some j=>.nx ⟨m.s,m.μ.set n (.lst (xs.set j x))⟩
  | none=>.no
 | _,_,_=>.no
noncomputable def zK (ec:IE) (ri:RE) (ev:IE):RM:=fun m=>mDo (ev m) fun x=>mDo (ec m) fun y=>mDo (ri (qJ m)) fun z=>setCell m (cellAt m y) z.1 x
noncomputable def x6 (f:Str) (x:Itm):List Str->List Itm->List Str × List Itm
 | g::ns,y::xs=>if g=f then (g::ns,x::xs) else (g::(x6 f x ns xs).1,y::(x6 f x ns xs).2)
 | _,_=>([f],[x])
noncomputable def yE (c f:Str) (m:MS):Option (Nat × Cell)->Itm->List Cell->z7
 | some (n,.ins c' ns xs),x,μ=>if c'=c/\ns.length<1000/\ns.length=xs.length then .nx ⟨m.s,μ.set n (.ins c' (x6 f x ns xs).1 (x6 f x ns xs).2)⟩ else .no
 | _,_,_=>.no
noncomputable def xP (c f:Str) (ec ev:IE):RM:=fun m=>mDo (ev m) fun x=>mDo (ec m) fun y=>yE c f m (cellAt m y) x m.μ
noncomputable def mIf (t:RT) (a b:RM):RM:=fun m=>mDo (t (qJ m)) fun x=>if x=true then a m else b m
noncomputable def qhp (e:IE):RM:=fun m=>mDo (e m) fun x=>.rt x m.μ
inductive qbO where
 | ok (x:Itm) (μ:List Cell) | er (c:Str) | no
noncomputable abbrev Fm:=List Itm->List Cell->qbO
noncomputable def yx (g:Fm) (es:List IE):RM:=fun m=>mDo (vE es m) fun xs=>match g xs m.μ with
 | .ok _ μ=>.nx ⟨m.s,μ⟩
 | .er c=>.er c
 | .no=>.no
noncomputable def xZ (i:Nat) (c:Str) (g:Fm) (es:List IE):RM:=fun m=>mDo (vE es m) fun xs=>match g (.c m.μ.length::xs) (m.μ++[.ins c [] []]) with
 | .ok _ μ=>.nx ⟨m.s.set i (some (.c m.μ.length)),μ⟩
 | .er c=>.er c
 | .no=>.no
noncomputable def Tg.WK:Tg->DK->MS->Option MS
 | .one i,x,m=>(vJ x).map fun y=>⟨m.s.set i (some y),m.μ⟩
 | .two i j,(.tup [a,b],k),m=>(vJ (a,k)).bind fun y=>(vJ (b,k)).map fun z=>⟨(m.s.set i (some y)).set j (some z),m.μ⟩
 | _,_,_=>none
noncomputable def zM (tg:Tg) (body:RM):List DK->RM
 | [],m=>.nx m
 | x::r,m=>match tg.WK x m with
  | none=>.no
  | some m1=>match body m1 with
   | .nx m2=>zM tg body r m2
   | .ct m2=>zM tg body r m2
   | .bk m2=>.nx m2
   | o=>o
noncomputable abbrev MI:=MS->Rs (List DK)
noncomputable def qgo (src:RI):MI:=fun m=>(src (vY m)).bind fun x=>if x.1=true then .ok x.2 else .no
noncomputable def wt (src:RI):MI:=fun m=>(src (qJ m)).bind fun x=>.ok x.2
noncomputable def ZV (tg:Tg) (src:MI) (body:RM):RM:=fun m=>mDo (src m) fun xs=>zM tg body xs m
noncomputable def yj:z7->qbO
 | .rt x μ=>.ok x μ
 | .nx m=>.ok (.v .non true) m.μ
 | .er c=>.er c
 | _=>.no
noncomputable def ms0 (N:List Str) (xs:List Itm):List (Option Itm):=xs.map some++List.replicate (N.length-xs.length) none
noncomputable def yY (μ:List Cell):Nat->Itm->Option D
 | _,.v d k=>if d.sc=true\/k=true then some d else none
 | 0,.c _=>none
 | f+1,.c n=>match μ[n]? with
  | some (.lst xs)=>(xs.mapM (yY μ f)).map D.lst
  | some (.ins c ns xs)=>(xs.mapM (yY μ f)).map (D.obj c ns)
  | none=>none
noncomputable def qap (μ:List Cell) (x:Itm):Rs (D × Bool):=match yY μ 3 x with
 | some d=>match x,d with
  | .c _,.lst ds=>.ok (.lst ds,ds.all D.sc)
  | _,d=>.ok (d,false)
 | none=>.no
noncomputable def Jt:z7->Rs (D × Bool)
 | .rt x μ=>qap μ x
 | .nx _=>.ok (.non,false)
 | .er c=>.er c
 | _=>.no
noncomputable def it0 (ds:List D):List Itm:=ds.map fun d=>.v d false
noncomputable def UQ (i j c:Int):Option (List Int) :=
 if (-1000000<i/\i<1000000)/\(-1000000<j/\j<1000000)/\(-1000000<c/\c<1000000) then (if c = -1 then some ((List.range (i-j).toNat).map fun (k:Nat)=>i-k)
  else if 0<c/\i=0 then some ((List.range ((j+c-1) / c).toNat).map fun (k:Nat)=>k*c) else none) else none
noncomputable def Qm (r q t:RE):RI:=fun δ=>(r δ).bind fun x=>(q δ).bind fun y=>(t δ).bind fun z=>match x.1,y.1,z.1 with
 | .int i,.int j,.int c=>match UQ i j c with
  | some l=>.ok (true,l.map fun n=>(D.int n,.nw))
  | none=>.no
 | _,_,_=>.no
noncomputable def qe7 (m:MS):Option (Nat × Cell)->D->z7
 | some (n,.lst xs),.lst ds=>if ds.all D.sc=true/\xs.length+ds.length <= LIM then .nx ⟨m.s,m.μ.set n (.lst (xs++ds.map fun d=>.v d true))⟩ else .no
 | _,_=>.no
noncomputable def VS (ec:IE) (r:RE):RM:=fun m=>mDo (ec m) fun y=>match cellAt m y with
 | some (n,.lst xs)=>mDo (r (vY m)) fun x=>qe7 m (some (n,.lst xs)) x.1
 | _=>.no
end L2.Ir
namespace Gr
open PySem L2 L2.Ir Dt
noncomputable abbrev rD (r:List Nat):D:=.lst (r.map fun (n:Nat)=>D.int n)
noncomputable abbrev tD (t:List (List Nat)):D:=.lst (t.map rD)
noncomputable abbrev R64 (r:List Nat):Prop:=∀ v∈r,v<2^64
noncomputable abbrev T64 (t:List (List Nat)):Prop:=∀ r∈t,R64 r
noncomputable abbrev Wide (n:Nat) (t:List (List Nat)):Prop:=∀ r∈t,r.length=n
noncomputable def erz {α:Type} (z:Int):Rs α:=if z = -4 then .er "NotAsTold" else .er "StepNotFinite"
noncomputable def dK {α:Type} (f:α->DK):Pv.Did α->Rs DK
 | .ok a=>.ok (f a)
 | .error z=>erz z
noncomputable def dB {α:Type} (f:α->D × Bool):Pv.Did α->Rs (D × Bool)
 | .ok a=>.ok (f a)
 | .error z=>erz z
noncomputable def dM {α β:Type} (f:α->β):Pv.Did α->Rs β
 | .ok a=>.ok (f a)
 | .error z=>erz z
theorem zj {α β:Type} (z:Int) (f:α->Rs β):(erz z:Rs α).bind f=erz z:=by
 unfold erz
 split <;> rfl
theorem qeE {α:Type} (f:α->D × Bool) (x:Pv.Did α):(dB f x).bind (fun y=>.ok (y.1,kB y.2))=dK (fun a=>((f a).1,kB (f a).2)) x:=by
 cases x with
 | ok a=>rfl
 | error z=>exact zj z _
theorem qfr (o:Option Nat):vm o=dB (fun (n:Nat)=>(D.int n,false)) (Pv.step o):=by cases o <;> rfl
theorem xY (r:List Nat):(r.map fun (n:Nat)=>D.int n).all D.sc=true:=by
 rw[List.all_map,List.all_eq_true]
 intro x _
 rfl
theorem jl {β γ:Type} (g:β->γ):∀ l:List β,l.mapM (fun x=>(Except.ok (g x):Pv.Did γ)) = .ok (l.map g)
 | []=>rfl
 | x::l=>by rw[List.mapM_cons,jl g l];rfl
theorem qdI {tg:Tg}{src:RI}{r:RE}{vs:List Nat}{δ:Dl}{b:Bool}{xs:List DK} (hsrc:src δ = .ok (b,xs)) (hl:xs.length<LIM):uM tg src xx r vs δ=(items tg xx r (clear δ vs) xs).bind fun ys=>.ok (.lst (ys.map (·.1)),kL (ys.map (·.1)) (vj ys)):=by
 unfold uM
 rw[hsrc,Rs.qM,if_pos hl]
theorem Jd {β γ:Type}{tg:Tg}{r:RE}{δ:Dl}{enc:β->DK}{f:β->Pv.Did γ}{dec:γ->DK}:∀ {l:List β},(∀ b∈l,∃ δ1,tg.put (enc b) δ=some δ1/\r δ1=dK dec (f b))->items tg xx r δ (l.map enc)=dM (fun ys=>ys.map dec) (l.mapM f)
 | [],_=>rfl
 | b::l,h=>by
  obtain⟨δ1,e1,e2⟩:=h b (List.mem_cons_self)
  have ih:=Jd fun x hx=>h x (List.mem_cons_of_mem _ hx)
  show (match tg.put (enc b) δ with | none=>_ | some δ1=>_)=_
  rw[e1]
  dsimp only
  show (Rs.ok true).bind _=_
  rw[Rs.qM,if_pos rfl,e2,ih,List.mapM_cons]
  cases f b with
  | error z=>exact zj z _
  | ok v =>
   show (dM (fun ys=>ys.map dec) (l.mapM f)).bind _=_
   cases l.mapM f with
   | error z=>exact zj z _
   | ok q=>rfl
theorem Zq {β γ:Type}{tg:Tg}{src:RI}{r:RE}{vs:List Nat}{δ:Dl}{b:Bool}{enc:β->DK}{f:β->Pv.Did γ}{dec:γ->DK}{l:List β} (hsrc:src δ = .ok (b,l.map enc)) (hl:l.length<LIM)
  (hi:∀ x∈l,∃ δ1,tg.put (enc x) (clear δ vs)=some δ1/\r δ1=dK dec (f x)):uM tg src xx r vs δ=dK (fun ys=>(.lst (ys.map fun y=>(dec y).1),kL (ys.map fun y=>(dec y).1) (vj (ys.map dec)))) (l.mapM f):=by
 rw[qdI hsrc (by rw[List.length_map];exact hl),Jd hi]
 cases l.mapM f with
 | error z=>exact zj z _
 | ok ys =>
  show Rs.ok (D.lst ((ys.map dec).map (·.1)),kL ((ys.map dec).map (·.1)) (vj (ys.map dec)))=_
  rw[List.map_map]
  rfl
theorem X7 {β:Type}{tg:Tg}{src:RI}{r:RE}{vs:List Nat}{δ:Dl}{b:Bool}{enc:β->DK}{f:β->Pv.Did Nat}{k:Kd}{l:List β} (hsrc:src δ = .ok (b,l.map enc)) (hl:l.length<LIM)
  (hi:∀ x∈l,∃ δ1,tg.put (enc x) (clear δ vs)=some δ1/\r δ1=dK (fun (n:Nat)=>(D.int n,k)) (f x)):uM tg src xx r vs δ=dK (fun ys=>(rD ys,.fr)) (l.mapM f):=by
 rw[Zq hsrc hl hi]
 cases l.mapM f with
 | error z=>rfl
 | ok ys =>
  show Rs.ok (D.lst (ys.map fun (y:Nat)=>D.int y),kL (ys.map fun (y:Nat)=>D.int y) _)=_
  rw[Ux (xY ys)]
  rfl
theorem UJ {k:Kd} (hk:k = .fr\/k = .nw):∀ ys:List (List Nat),vj (ys.map fun r=>(rD r,k)) = .nw
 | []=>rfl
 | y::ys=>by
  show (if (rD y).sc=true then _ else k.low (vj (ys.map fun r=>(rD r,k))))=_
  rw[if_neg (show ¬ ((rD y).sc=true) from Bool.false_ne_true),UJ hk ys]
  rcases hk with rfl | rfl <;> rfl
noncomputable def kT (t:List (List Nat)):Kd:=if t=[] then .fr else .nw
theorem qfm (t:List (List Nat)):kL (t.map rD) .nw=kT t:=by
 unfold kT
 cases t with
 | nil=>rfl
 | cons r t=>rw[if_neg (fun z=>nomatch z)];exact if_neg (fun z=>nomatch z)
theorem qht {t:List (List Nat)} (h:0<t.length):kT t = .nw:=by
 unfold kT
 exact if_neg (fun z=>by rw[z] at h;exact absurd h (Nat.lt_irrefl _))
theorem UK {β:Type}{tg:Tg}{src:RI}{r:RE}{vs:List Nat}{δ:Dl}{b:Bool}{enc:β->DK}{f:β->Pv.Did (List Nat)}{k:Kd}{l:List β} (hk:k = .fr\/k = .nw) (hsrc:src δ = .ok (b,l.map enc)) (hl:l.length<LIM)
  (hi:∀ x∈l,∃ δ1,tg.put (enc x) (clear δ vs)=some δ1/\r δ1=dK (fun r=>(rD r,k)) (f x)):uM tg src xx r vs δ=dK (fun t=>(tD t,kT t)) (l.mapM f):=by
 rw[Zq hsrc hl hi]
 cases l.mapM f with
 | error z=>rfl
 | ok ys =>
  show Rs.ok (D.lst (ys.map fun y=>rD y),kL (ys.map fun y=>rD y) (vj (ys.map fun r=>(rD r,k))))=_
  rw[UJ hk,qfm]
  rfl
theorem qak {r:RE}{δ:Dl}{α:Type}{f:α->List D}{x:Pv.Did α} (hf:freeze δ=δ) (h:r δ=dK (fun a=>(.lst (f a),.fr)) x):res (vK r δ)=dB (fun a=>(.lst (f a),true)) x:=by
 cases x with
 | ok a=>rw[VM (by rw[hf];exact h)];rfl
 | error z =>
  have h:r δ=erz z:=h
  show _=erz z
  unfold erz at h ⊢
  by_cases c:z = -4
  ·rw[if_pos c] at h ⊢;rw[uD (by rw[hf];exact h)];rfl
  ·rw[if_neg c] at h ⊢;rw[uD (by rw[hf];exact h)];rfl
theorem qa8 {r:RE}{δ:Dl}{x:Pv.Did (List (List Nat))} (hf:freeze δ=δ) (h:r δ=dK (fun t=>(tD t,kT t)) x) (hne:∀ t,x = .ok t->0<t.length):res (vK r δ)=dB (fun t=>(tD t,false)) x:=by
 cases x with
 | ok a =>
  have h:r δ = .ok (tD a,kT a):=h
  rw[qht (hne a rfl)] at h
  rw[vM (by rw[hf];exact h)]
  rfl
 | error z =>
  have h:r δ=erz z:=h
  show _=erz z
  unfold erz at h ⊢
  by_cases c:z = -4
  ·rw[if_pos c] at h ⊢;rw[uD (by rw[hf];exact h)];rfl
  ·rw[if_neg c] at h ⊢;rw[uD (by rw[hf];exact h)];rfl
theorem WM {r:RE}{δ:Dl}{α:Type}{f:α->D}{x:Pv.Did α} (hf:freeze δ=δ) (h:r δ=dK (fun a=>(f a,.nw)) x):res (vK r δ)=dB (fun a=>(f a,false)) x:=by
 cases x with
 | ok a=>rw[vM (by rw[hf];exact h)];rfl
 | error z =>
  have h:r δ=erz z:=h
  show _=erz z
  unfold erz at h ⊢
  by_cases c:z = -4
  ·rw[if_pos c] at h ⊢;rw[uD (by rw[hf];exact h)];rfl
  ·rw[if_neg c] at h ⊢;rw[uD (by rw[hf];exact h)];rfl
theorem jx {g:Fn}{r:RA}{δ:Dl}{xs:List DK}{α:Type}{f:α->D × Bool}{x:Pv.Did α} (h:r δ = .ok xs) (hg:g (xs.map (·.1))=dB f x):qe g r δ=dK (fun a=>((f a).1,kB (f a).2)) x:=by
 rw[qO h,hg,qeE]
theorem j9 {r:RE}{δ:Dl}{xs:List D}{k:Kd} (h:r δ = .ok (.lst xs,k)):wu yX (qc r qi) δ = .ok (.int (xs.length:Nat),.nw):=by
 unfold wu
 rw[qf h qu]
 rfl
theorem V0 (r:List Nat) (j:Nat) (h:j<r.length):(r.map fun (n:Nat)=>D.int n)[j]?=some (.int (r.getD j 0:Nat)):=by
 rw[List.getElem?_map,List.getElem?_eq_getElem h,List.getD_eq_getElem?_getD,List.getElem?_eq_getElem h]
 rfl
theorem YL (t:List (List Nat)) (i:Nat) (h:i<t.length):(t.map rD)[i]?=some (rD (t.getD i [])):=by
 rw[List.getElem?_map,List.getElem?_eq_getElem h,List.getD_eq_getElem?_getD,List.getElem?_eq_getElem h]
 rfl
noncomputable def xC:RS:=(vK (uM (.one 2) (iOf (qa 0)) xx (qh oIx (qa 2) (qa 1)) [2]))
noncomputable def zB:Fn:=fun ds=>res (xC (sl0 ["grid","j","row"] ds))
theorem Ua {t:List (List Nat)}{j:Nat} (hl:t.length<LIM) (h:∀ r∈t,j<r.length):zB [tD t,.int j] = .ok (rD (t.map fun r=>r.getD j 0),true):=by
 show res (xC [.val (tD t) false,.val (.int j) false,.un])=_
 unfold xC
 have hc:=X7 (tg:=.one 2) (src:=iOf (qa 0)) (r:=qh oIx (qa 2) (qa 1)) (vs:=[2]) (δ:=[.val (tD t) false,.val (.int j) false,.un]) (b:=true) (enc:=fun r=>(rD r,.sh)) (f:=fun r=>.ok (r.getD j 0)) (k:=.sh) (l:=t) (by
   show Rs.ok (true,(t.map rD).map fun d=>(d,Kd.sh))=_
   rw[List.map_map]
   rfl) hl (fun r hr=>⟨[.val (tD t) false,.val (.int j) false,.val (rD r) false],rfl,(qk (x:=(rD r,.sh)) (y:=(.int j,.sh)) rfl rfl).trans (QW (V0 r j (h r hr)))⟩)
 rw[jl] at hc
 exact (qak (α:=List Nat) (f:=fun ys=>ys.map fun (n:Nat)=>D.int n) rfl hc)
noncomputable def yW:RS:=(vK (uM (.one 1) (v8 (wu yX (qc (qh oIx (qa 0) (rC (.int 0))) qi))) xx (qe zB (qc (qa 0) (qc (qa 1) qi))) [1]))
noncomputable def wa:Fn:=fun ds=>res (yW (sl0 ["grid","j"] ds))
theorem YZ {t:List (List Nat)}{m n:Nat} (hm:t.length=m) (h0:0<m) (hl:m<LIM) (h:Wide n t) (hn:0<n) (hn2:n<1000000):wa [tD t] = .ok (tD ((List.range n).map fun j=>t.map fun r=>r.getD j 0),false):=by
 show res (yW [.val (tD t) false,.un])=_
 unfold yW
 have hix:qh oIx (qa 0) (rC (.int 0)) [.val (tD t) false,.un] = .ok (rD (t.getD 0 []),.sh):=(qk (x:=(tD t,.sh)) (y:=(.int ((0:Nat):Int),.nw)) rfl rfl).trans (QW (YL t 0 (by lia)))
 have hlen:(t.getD 0 []).length=n:=by
  rw[List.getD_eq_getElem?_getD,List.getElem?_eq_getElem (by lia:0<t.length)]
  exact h _ (List.getElem_mem _)
 have hsrc:v8 (wu yX (qc (qh oIx (qa 0) (rC (.int 0))) qi)) [.val (tD t) false,.un] = .ok (true,(List.range n).map fun (k:Nat)=>(D.int k,.nw)):=by
  refine zA (k:=.nw) ?_ hn2
  rw[j9 hix,List.length_map,hlen]
 have hc:=UK (tg:=.one 1) (r:=qe zB (qc (qa 0) (qc (qa 1) qi))) (vs:=[1]) (f:=fun j=>.ok (t.map fun r=>r.getD j 0)) (.inl rfl) hsrc (by rw[List.length_range];show n<16777216;lia) (fun j hj=>⟨[.val (tD t) false,.val (.int j) true],rfl,by
  rw[qO (qf (x:=(tD t,.sh)) rfl (qf (x:=(.int j,.nw)) rfl qu))]
  show (zB [tD t,.int j]).bind _=_
  rw[Ua (by lia) (fun r hr=>by rw[h r hr];exact List.mem_range.mp hj)]
  rfl⟩)
 rw[jl] at hc
 exact qa8 rfl hc (fun t ht=>by cases ht;rw[List.length_map,List.length_range];exact hn)
noncomputable def yU:RS:=(vK (uM (.one 3) (v8 (qa 1)) xx (j8 (tBl (qh (oEq false) (qa 3) (qa 2))) (qa 0) (rC (.int 0))) [3]))
noncomputable def zd:Fn:=fun ds=>res (yU (sl0 ["x","n","i","j"] ds))
theorem Y4 {x n i:Nat} (hn:n<1000000):zd [.int x,.int n,.int i] = .ok (rD ((List.range n).map fun j=>if i=j then x else Pv.ZERO),true):=by
 show res (yU [.val (.int x) false,.val (.int n) false,.val (.int i) false,.un])=_
 unfold yU
 have hc:=Zq (tg:=.one 3) (r:=j8 (tBl (qh (oEq false) (qa 3) (qa 2))) (qa 0) (rC (.int 0))) (vs:=[3]) (δ:=[.val (.int x) false,.val (.int n) false,.val (.int i) false,.un]) (dec:=fun (p:Nat × Kd)=>(D.int p.1,p.2)) (f:=fun j=>.ok (if i=j then (x,Kd.sh) else (Pv.ZERO,Kd.nw))) (zA (r:=qa 1) (k:=.sh) rfl hn) (by rw[List.length_range];show n<16777216;lia) (fun j hj=>⟨[.val (.int x) false,.val (.int n) false,.val (.int i) false,.val (.int j) true],rfl,by
  unfold j8
  rw[show tBl (qh (oEq false) (qa 3) (qa 2)) [.val (.int x) false,.val (.int n) false,.val (.int i) false,.val (.int j) true] = .ok (decide ((j:Int)=(i:Int))) from rfl]
  by_cases c:i=j
  ·subst c
   rw[Rs.qM,if_pos (by simp),if_pos rfl]
   rfl
  ·rw[Rs.qM,if_neg (by simp;lia),if_neg c]
   rfl⟩)
 rw[jl] at hc
 have e:(((List.range n).map fun j=>if i=j then (x,Kd.sh) else (Pv.ZERO,Kd.nw)).map fun (p:Nat × Kd)=>D.int p.1)=((List.range n).map fun j=>if i=j then x else Pv.ZERO).map fun (n:Nat)=>D.int n:=by
  rw[List.map_map,List.map_map]
  refine List.map_congr_left fun j _=>?_
  show D.int ((if i=j then (x,Kd.sh) else (Pv.ZERO,Kd.nw)).1:Nat)=D.int ((if i=j then x else Pv.ZERO):Nat)
  split <;> rfl
 have hc:_=Rs.ok (D.lst (((List.range n).map fun j=>if i=j then (x,Kd.sh) else (Pv.ZERO,Kd.nw)).map fun (p:Nat × Kd)=>D.int p.1),kL (((List.range n).map fun j=>if i=j then (x,Kd.sh) else (Pv.ZERO,Kd.nw)).map fun (p:Nat × Kd)=>D.int p.1) _):=hc
 rw[e,Ux (xY _)] at hc
 exact (qak (α:=List Nat) (f:=fun ys=>ys.map fun (n:Nat)=>D.int n) (x:=.ok _) rfl hc)
noncomputable def jw:RS:=(vK (uM (.one 2) (Qm (rC (.int 0)) (wu yX (qc (qa 0) qi)) (qa 1)) xx (Zt (qa 0) (Qo (qa 2)) (Qo (qh wm (qa 2) (qa 1))) VU) [2]))
noncomputable def xb:Fn:=fun ds=>res (jw (sl0 ["numbers","n","start"] ds))
theorem qd2 {m n:Nat} (hn:0<n):(((m*n:Nat):Int)+(n:Int)-1) / (n:Int)=m:=by
 have e:((m*n:Nat):Int)+(n:Int)-1=(n:Int)-1+(n:Int)*m:=by
  rw[Int.natCast_mul,Int.mul_comm]
  lia
 rw[e,Int.add_mul_ediv_left _ _ (by lia),Int.ediv_eq_zero_of_lt (by lia) (by lia),Int.zero_add]
theorem qfw {m n:Nat} (hn:0<n) (h:m*n<1000000) (h2:n <= 1000):UQ 0 ((m*n:Nat):Int) n=some ((List.range m).map fun (k:Nat)=>(k:Int)*n):=by
 have c1:(-1000000<(0:Int)/\(0:Int)<1000000)/\(-1000000<((m*n:Nat):Int)/\((m*n:Nat):Int)<1000000)/\(-1000000<(n:Int)/\(n:Int)<1000000):=by
  generalize m*n=q at h
  lia
 unfold UQ
 rw[if_pos c1,if_neg (by lia),if_pos ⟨by lia,rfl⟩,qd2 hn,Int.toNat_natCast]
theorem J1 {r q t:RE}{δ:Dl}{i j c:Int}{k1 k2 k3:Kd}{l:List Int} (h1:r δ = .ok (.int i,k1)) (h2:q δ = .ok (.int j,k2)) (h3:t δ = .ok (.int c,k3)) (h:UQ i j c=some l):Qm r q t δ = .ok (true,l.map fun n=>(D.int n,.nw)):=by
 unfold Qm
 rw[h1,h2,h3,Rs.qM,Rs.qM,Rs.qM]
 dsimp only
 rw[h]
theorem qbF {a:List Nat}{m n:Nat} (ha:a.length=m*n) (hm:0<m) (hm2:m <= 1000) (hn:0<n) (hn2:n <= 1000) (hmn:m*n<1000000):xb [rD a,.int n] = .ok (tD (PvCalls.tableOf m n a),false):=by
 show res (jw [.val (rD a) false,.val (.int n) false,.un])=_
 unfold jw
 have hsrc:Qm (rC (.int 0)) (wu yX (qc (qa 0) qi)) (qa 1) [.val (rD a) false,.val (.int n) false,.un] = .ok (true,(List.range m).map fun (k:Nat)=>(D.int ((k*n:Nat):Int),.nw)):=by
  refine (J1 (i:=0) (j:=((m*n:Nat):Int)) (c:=n) rfl ((j9 (r:=qa 0) (k:=.sh) rfl).trans (by rw[List.length_map,ha])) rfl (qfw hn hmn hn2)).trans ?_
  rw[List.map_map]
  have e:((fun n=>(D.int n,Kd.nw)) ∘ fun (k:Nat)=>(k:Int)*n)=fun (k:Nat)=>(D.int ((k*n:Nat):Int),Kd.nw):=by
   funext k
   show (D.int ((k:Int)*n),Kd.nw)=_
   rw[Int.natCast_mul]
  rw[e]
 have hc:=UK (tg:=.one 2) (r:=Zt (qa 0) (Qo (qa 2)) (Qo (qh wm (qa 2) (qa 1))) VU) (vs:=[2]) (δ:=[.val (rD a) false,.val (.int n) false,.un]) (f:=fun i=>.ok ((List.range n).map fun j=>a.getD (n*i+j) 0)) (.inl rfl) hsrc (by rw[List.length_range];show m<16777216;lia) (fun i hi=>⟨[.val (rD a) false,.val (.int n) false,.val (.int ((i*n:Nat):Int)) true],rfl,by
  have hi:=List.mem_range.mp hi
  have hin:i*n+n <= m*n:=by rw[<- Nat.succ_mul];exact Nat.mul_le_mul_right _ hi
  have q:=qbD (ra:=qa 0) (rl:=Qo (qa 2)) (rh:=Qo (qh wm (qa 2) (qa 1))) (rs:=VU) (δ:=[.val (rD a) false,.val (.int n) false,.val (.int ((i*n:Nat):Int)) true]) (xs:=a.map fun (n:Nat)=>D.int n) (k:=.sh) (lo:=some ((i*n:Nat):Int)) (hi:=some ((i*n+n:Nat):Int)) (st:=none) rfl rfl (qea (k:=.nw) ((qk (x:=(.int ((i*n:Nat):Int),.nw)) (y:=(.int n,.sh)) rfl rfl).trans (qP (by rw[Int.natCast_add])))) rfl (by intro z;cases z)
  rw[q,pick_run (a.map fun (n:Nat)=>D.int n) (i*n) n (by rw[List.length_map,ha];exact hin) (.int 0)]
  have e:((List.range n).map fun j=>(a.map fun (n:Nat)=>D.int n).getD (i*n+j) (.int 0))=((List.range n).map fun j=>a.getD (n*i+j) 0).map fun (n:Nat)=>D.int n:=by
   rw[List.map_map]
   refine List.map_congr_left fun j _=>?_
   rw[qdy,Nat.mul_comm i n]
   rfl
  rw[e,Ux (xY _)]
  rfl⟩)
 rw[jl] at hc
 exact qa8 rfl hc (fun t ht=>by cases ht;rw[List.length_map,List.length_range];exact hm)
noncomputable def yr (z:Int):z7:=if z = -4 then .er "NotAsTold" else .er "StepNotFinite"
theorem Vc {β:Type}{tg:Tg}{body:RM}{enc:β->DK}{b:β}{l:List β}{m m1:MS} (hp:tg.WK (enc b) m=some m1):zM tg body ((b::l).map enc) m=(match body m1 with | .nx m2=>zM tg body (l.map enc) m2 | .ct m2=>zM tg body (l.map enc) m2 | .bk m2=>.nx m2 | o=>o):=by
 show (match tg.WK (enc b) m with | none=>_ | some m1=>_)=_
 rw[hp]
 all_goals rfl
theorem qby {tg:Tg}{body:RM}{xs:List DK} (z:Int):(match yr z with | .nx m2=>zM tg body xs m2 | .ct m2=>zM tg body xs m2 | .bk m2=>.nx m2 | o=>o)=yr z:=by
 unfold yr
 by_cases c:z = -4
 ·rw[if_pos c]
 ·rw[if_neg c]
theorem z6 {β S:Type}{tg:Tg}{body:RM}{enc:β->DK}{f:S->β->Pv.Did S}{J:S->MS->Prop}:∀ {l:List β},(∀ b∈l,∀ s m,J s m->∃ m1,tg.WK (enc b) m=some m1/\(∀ s',f s b = .ok s'->∃ m2,body m1 = .nx m2/\J s' m2)/\(∀ z,f s b = .error z->body m1=yr z)) ->
  ∀ s m,J s m->(∀ s',l.foldlM f s = .ok s'->∃ m',zM tg body (l.map enc) m = .nx m'/\J s' m')/\(∀ z,l.foldlM f s = .error z->zM tg body (l.map enc) m=yr z)
 | [],_,s,m,j=>⟨fun s' e=>(by cases e;exact⟨m,rfl,j⟩),fun z e=>(by cases e)⟩
 | b::l,ok,s,m,j=>by
  obtain⟨m1,hp,h1,h2⟩:=ok b List.mem_cons_self s m j
  rw[List.foldlM_cons,Vc hp]
  cases e:f s b with
  | error z =>
   rw[h2 z e,qby]
   exact⟨fun s' q=>(by cases q),fun z' q=>(by cases q;rfl)⟩
  | ok s1 =>
   obtain⟨m2,hb,j2⟩:=h1 s1 e
   rw[hb]
   exact z6 (fun x hx=>ok x (List.mem_cons_of_mem _ hx)) s1 m2 j2
theorem qS {a b:RM}{m m1:MS} (h:a m = .nx m1):wI a b m=b m1:=by unfold wI;rw[h];rfl
theorem ud {a b:RM}{m:MS}{z:Int} (h:a m=yr z):wI a b m=yr z:=by
 unfold wI
 rw[h]
 unfold yr
 split <;> rfl
theorem UW (z:Int):Jt (yr z)=erz z:=by
 unfold yr erz
 split <;> rfl
theorem xD {tg:Tg}{src:MI}{body:RM}{m:MS}{xs:List DK} (h:src m = .ok xs):ZV tg src body m=zM tg body xs m:=by unfold ZV mDo;rw[h]
theorem y4 {α:Type}{f:α->DK}{x:Pv.Did α}{r:RE}{m:MS}{y:α->Itm} (h:r (qJ m)=dK f x) (hy:∀ a,x = .ok a->QZ (f a)=some (y a)):Qu r m=dM y x:=by
 unfold Qu
 rw[h]
 cases x with
 | ok a=>show jM (QZ (f a))=_;rw[hy a rfl];rfl
 | error z=>exact zj z _
theorem qcy {α β:Type}{f:α->β}{x:Pv.Did α}{k:β->z7}:mDo (dM f x) k=(match x with | .ok a=>k (f a) | .error z=>yr z):=by
 cases x with
 | ok a=>rfl
 | error z =>
  show mDo (erz z) k=yr z
  unfold erz yr
  split <;> rfl
theorem Q6 (μ:List Cell) (f:Nat):∀ ds:List D,(ds.map fun d=>Itm.v d true).mapM (yY μ f)=some ds
 | []=>rfl
 | d::ds=>by
  rw[List.map_cons,List.mapM_cons,Q6 μ f ds]
  have e:yY μ f (.v d true)=some d:=by
   cases f <;> exact if_pos (.inr rfl)
  rw[e]
  rfl
theorem Wv (μ:List Cell) (f:Nat) (k:Bool):∀ ds:List D,(ds.map fun d=>Itm.v d k).mapM (zh μ f)=some ds
 | []=>rfl
 | d::ds=>by
  rw[List.map_cons,List.mapM_cons,Wv μ f k ds]
  have e:zh μ f (.v d k)=some d:=by cases f <;> rfl
  rw[e]
  rfl
noncomputable def XG:RM:=(wI (qfh 1 qcW) (wI (ZV (.one 2) (qgo (iOf (qa 0))) (VS (ieV 1) (qa 2))) (qhp (ieV 1))))
noncomputable def zu:Fn:=fun ds=>Jt (XG ⟨ms0 ["grid","numbers","row"] (it0 ds),[]⟩)
theorem yH {t:List (List Nat)}:∀ {n:Nat},Wide n t->(PvCalls.flat t).length=t.length*n:=fun {n} h=>by
 unfold PvCalls.flat
 induction t with
 | nil=>simp
 | cons r t ih =>
  rw[List.flatMap_cons,List.length_append,ih (fun x hx=>h x (List.mem_cons_of_mem _ hx)),h r List.mem_cons_self,List.length_cons,Nat.succ_mul]
  lia
theorem JO {t:List (List Nat)}{n:Nat} (h:Wide n t) (hl:t.length*n <= 1000000):zu [tD t] = .ok (rD (PvCalls.flat t),true):=by
 show Jt (XG ⟨[some (.v (tD t) false),none,none],[]⟩)=_
 unfold XG
 rw[qS (show qfh 1 qcW ⟨[some (.v (tD t) false),none,none],[]⟩ = .nx ⟨[some (.v (tD t) false),some (.c 0),none],[.lst []]⟩ from rfl)]
 have hsrc:qgo (iOf (qa 0)) ⟨[some (.v (tD t) false),some (.c 0),none],[.lst []]⟩ = .ok (t.map fun r=>(rD r,.sh)):=by
  show Rs.ok ((t.map rD).map fun d=>(d,Kd.sh))=_
  rw[List.map_map]
  rfl
 have hb:∀ s:List Nat,∀ l:List (List Nat),(∀ x∈l,x∈t)->s.length+l.length*n <= 1000000->∀ u:Option Itm,∃ u',zM (.one 2) (VS (ieV 1) (qa 2)) (l.map fun r=>(rD r,Kd.sh)) ⟨[some (.v (tD t) false),some (.c 0),u],[.lst ((s.map fun (n:Nat)=>D.int n).map fun d=>.v d true)]⟩ = .nx ⟨[some (.v (tD t) false),some (.c 0),u'],[.lst (((s++PvCalls.flat l).map fun (n:Nat)=>D.int n).map fun d=>.v d true)]⟩:=by
  intro s l
  induction l generalizing s with
  | nil=>intro _ _ u;exact⟨u,by show z7.nx _=_;rw[show PvCalls.flat []=[] from rfl,List.append_nil]⟩
  | cons r l ih =>
   intro hx hs u
   have hr:r.length=n:=h r (hx r List.mem_cons_self)
   rw[List.length_cons,Nat.succ_mul] at hs
   rw[Vc (m1:=⟨[some (.v (tD t) false),some (.c 0),some (.v (rD r) false)],[.lst ((s.map fun (n:Nat)=>D.int n).map fun d=>.v d true)]⟩) rfl]
   have hbody:VS (ieV 1) (qa 2) ⟨[some (.v (tD t) false),some (.c 0),some (.v (rD r) false)],[.lst ((s.map fun (n:Nat)=>D.int n).map fun d=>.v d true)]⟩ = .nx ⟨[some (.v (tD t) false),some (.c 0),some (.v (rD r) false)],[.lst (((s++r).map fun (n:Nat)=>D.int n).map fun d=>.v d true)]⟩:=by
    show (if (r.map fun (n:Nat)=>D.int n).all D.sc=true/\((s.map fun (n:Nat)=>D.int n).map fun d=>Itm.v d true).length+(r.map fun (n:Nat)=>D.int n).length <= LIM then _ else _)=_
    rw[if_pos ⟨xY r,by rw[List.length_map,List.length_map,List.length_map];show _ <= 16777216;lia⟩]
    show z7.nx ⟨_,[Cell.lst (((s.map fun (n:Nat)=>D.int n).map fun d=>Itm.v d true)++((r.map fun (n:Nat)=>D.int n).map fun d=>Itm.v d true))]⟩=_
    rw[<- List.map_append,<- List.map_append]
   rw[hbody]
   obtain⟨u',q⟩:=ih (s++r) (fun x hx'=>hx x (List.mem_cons_of_mem _ hx')) (by rw[List.length_append];lia) (some (.v (rD r) false))
   refine⟨u',?_⟩
   show zM _ _ _ _=_
   rw[q,show PvCalls.flat (r::l)=r++PvCalls.flat l from rfl,List.append_assoc]
 obtain⟨u',q⟩:=hb [] t (fun _ h=>h) (by simpa using hl) none
 rw[qS ((xD hsrc).trans q),List.nil_append]
 show qap [.lst (((PvCalls.flat t).map fun (n:Nat)=>D.int n).map fun d=>Itm.v d true)] (.c 0)=_
 have e:yY [.lst (((PvCalls.flat t).map fun (n:Nat)=>D.int n).map fun d=>Itm.v d true)] 3 (.c 0)=some (rD (PvCalls.flat t)):=by
  show (List.mapM (yY _ 2) _).map D.lst=_
  rw[Q6]
  rfl
 unfold qap
 rw[e]
 show Rs.ok (rD (PvCalls.flat t),((PvCalls.flat t).map fun (n:Nat)=>D.int n).all D.sc)=_
 rw[xY]
noncomputable def xF:RS:=(vK (qe qT (qc (qe zu (qc (qa 0) qi)) qi)))
noncomputable def zw:Fn:=fun ds=>res (xF (sl0 ["grid"] ds))
theorem Up {t:List (List Nat)}{n:Nat} (h:Wide n t) (hl:t.length*n <= 1000000):zw [tD t] = .ok (.lst (.int (PvCalls.flat t).length::(PvCalls.flat t).map fun (n:Nat)=>D.int n),true):=by
 show res (xF [.val (tD t) false])=_
 unfold xF
 have hfl:qe zu (qc (qa 0) qi) [.val (tD t) false] = .ok (rD (PvCalls.flat t),.fr):=by
  rw[qO (qf (x:=(tD t,.sh)) rfl qu)]
  show (zu [tD t]).bind _=_
  rw[JO h hl]
  rfl
 have hw:qe qT (qc (qe zu (qc (qa 0) qi)) qi) [.val (tD t) false] = .ok (.lst (.int (PvCalls.flat t).length::(PvCalls.flat t).map fun (n:Nat)=>D.int n),.fr):=by
  rw[qO (qf hfl qu)]
  show (qT [rD (PvCalls.flat t)]).bind _=_
  rw[Qv (xY _) (by rw[List.length_map,yH h];show _<16777216;lia),List.length_map]
  rfl
 rw[VM hw]
 rfl
theorem getD_mem {α:Type}{l:List α}{i:Nat} (d:α) (h:i<l.length):l.getD i d∈l:=by
 rw[List.getD_eq_getElem?_getD,List.getElem?_eq_getElem h]
 exact List.getElem_mem h
structure Tb (m n:Nat) (t:List (List Nat)):Prop where
 len:t.length=m
 wide:Wide n t
 b64:T64 t
theorem Tb.uT {m n:Nat}{t:List (List Nat)} (h:Tb m n t) (i j:Nat):Pv.Table.at_ t i j<2^64:=by
 unfold Pv.Table.at_
 by_cases hi:i<t.length
 ·exact YB (h.b64 _ (getD_mem [] hi)) j
 ·have e:t.getD i []=[]:=by rw[List.getD_eq_getElem?_getD,List.getElem?_eq_none (by lia)];rfl
  rw[e]
  exact (by decide:(0:Nat)<2^64)
theorem qfT {m n:Nat}{f:Nat->Nat->Nat} (hf:∀ i j,f i j<2^64):Tb m n (Pv.tableBy m n f):=by
 unfold Pv.tableBy
 refine⟨by rw[List.length_map,List.length_range],fun r hr=>?_,fun r hr v hv=>?_⟩
 ·obtain⟨i,_,rfl⟩:=List.mem_map.mp hr
  rw[List.length_map,List.length_range]
 ·obtain⟨i,_,rfl⟩:=List.mem_map.mp hr
  obtain⟨j,_,rfl⟩:=List.mem_map.mp hv
  exact hf i j
theorem qfy (n:Nat):Tb n n (Pv.unit_ n):=qfT fun i j=>by split <;> decide
theorem WZ {m n:Nat}{l:List Nat} (h:R64 l):Tb m n (PvCalls.tableOf m n l):=qfT fun i j=>YB h _
noncomputable abbrev kOf (y:D × Bool):Rs DK:=.ok (y.1,kB y.2)
theorem qhG {g:Fn}{r q:RE}{δ:Dl}{R:Rs (D × Bool)}{x:DK} (h:r δ=R.bind kOf) (hq:q δ = .ok x):qe g (qc r (qc q qi)) δ=(R.bind fun y=>g [y.1,x.1]).bind kOf:=by
 unfold qe
 have e:qc r (qc q qi) δ=R.bind fun y=>.ok [(y.1,kB y.2),x]:=by
  unfold qc
  rw[h,hq]
  cases R with
  | ok y=>rfl
  | er c=>rfl
  | no=>rfl
 rw[e]
 cases R with
 | ok y=>rfl
 | er c=>rfl
 | no=>rfl
theorem call_K {g:Fn}{r:RA}{δ:Dl}{xs:List DK} (h:r δ = .ok xs):qe g r δ=(g (xs.map (·.1))).bind kOf:=qO h
noncomputable def xy:RS:=(vt (uV (qe vn (qc (Qh (qc (qa 0) qi)) (qc (Qh (qc (qa 1) qi)) (qc (Qh (qc (qh jY (qa 0) (qa 0)) qi)) qi))))) (vt (uV (qe vf (qc (qa 1) qi))) (vK (qe xb (qc (qa 1) (qc (qa 0) qi))))))
noncomputable def zE:Fn:=fun ds=>res (xy (sl0 ["n","a"] ds))
theorem U5 {n:Int}{a:List Int} (hn:U64 n) (ha:je a) (la:a.length <= 300):zE [.int n,.lst (a.map .int)] =
  if (([n]:List Int).all fun n=>decide (1 <= n/\n <= 16))=true/\((([a.map D.int]:List (List D)).map List.length).zip [n*n]).all (fun p=>decide ((p.1:Int)=p.2))=true then (if ∀ v∈a,Fi v then .ok (tD (PvCalls.tableOf n.toNat n.toNat (nats a)),false) else .er "NotFinite") else .er "WrongCount":=by
 show res (xy [.val (.int n) false,.val (.lst (a.map .int)) false])=_
 unfold xy
 have v0:qa 0 [.val (.int n) false,.val (.lst (a.map .int)) false] = .ok (.int n,.sh):=rfl
 have v1:qa 1 [.val (.int n) false,.val (.lst (a.map .int)) false] = .ok (.lst (a.map .int),.sh):=rfl
 have hmul:qh jY (qa 0) (qa 0) [.val (.int n) false,.val (.lst (a.map .int)) false] = .ok (.int (n*n),.nw):=(qk v0 v0).trans (u9 (qaL hn) (qaL hn))
 rw[qgq (ss:=[n]) (xss:=[a.map .int]) (cs:=[n*n]) (qf v0 qu) (Nat.le_of_ble_eq_true rfl) rfl (qf v1 qu) (Nat.le_of_ble_eq_true rfl) rfl (qf hmul qu) (Nat.le_of_ble_eq_true rfl) rfl v1 ha]
 by_cases c1:(([n]:List Int).all fun n=>decide (1 <= n/\n <= 16))=true/\((([a.map D.int]:List (List D)).map List.length).zip [n*n]).all (fun p=>decide ((p.1:Int)=p.2))=true
 ·rw[if_pos c1,if_pos c1]
  by_cases c2:∀ v∈a,Fi v
  ·rw[if_pos c2,if_pos c2]
   obtain⟨N,rfl⟩:=yh hn
   rw[Int.toNat_natCast]
   obtain⟨h1,h2⟩:=c1
   simp at h1 h2
   have hla:a.length=N*N:=by
    have:=(XB (ns:=a) hn hn).mp h2
    rw[Qq,Int.toNat_natCast] at this
    exact this
   have hN:N*N <= 16*16:=Nat.mul_le_mul (by lia) (by lia)
   refine WM (α:=Unit) (f:=fun _=>tD (PvCalls.tableOf N N (nats a))) (x:=.ok ()) rfl ?_
   rw[call_K (qf v1 (qf v0 qu))]
   show (xb [.lst (a.map .int),.int N]).bind _=_
   rw[qbA ha,qbF (m:=N) (by rw[Qq];exact hla) (by lia) (by lia) (by lia) (by lia) (by lia)]
   rfl
  ·rw[if_neg c2,if_neg c2]
 ·rw[if_neg c1,if_neg c1]
theorem UU {n:Int}{a:List Int}{c:PvCalls.Call}{α:Type}{x:Pv.Did α}{f:α->PvCalls.Answer}{k:D × Bool->Rs (D × Bool)} (hn:U64 n) (ha:je a) (la:a.length <= 300) (hgo:PvCalls.goes c=PvCalls.size n.toNat) (hc:PvCalls.reckon c=PvCalls.given [(n.toNat*n.toNat,nats a)] x f)
  (hk:1 <= n.toNat->n.toNat <= 16->a.length=n.toNat*n.toNat->(∀ v∈a,Fi v)->k (tD (PvCalls.tableOf n.toNat n.toNat (nats a)),false)=yz (qib x f)):(zE [.int n,.lst (a.map .int)]).bind k=yz (PvCalls.answer c):=by
 rw[U5 hn ha la]
 have e:∀ {p q:Prop} [Decidable p] [Decidable q] (R:Rs (D × Bool)),(if p then (if q then R else .er "NotFinite") else .er "WrongCount":Rs (D × Bool)).bind k=if p then (if q then R.bind k else .er "NotFinite") else .er "WrongCount":=by
  intro p q _ _ R
  split
  ·split <;> rfl
  ·rfl
 rw[e]
 refine checked (x:=x) (f:=f) (rows:=[(n.toNat*n.toNat,nats a)]) ?_ ?_ ?_ hc
 ·rw[hgo]
  show _↔PvCalls.size n.toNat=true/\((_==_)&&true)=true
  rw[<- qdc hn,Bool.and_true,beq_iff_eq,<- XB hn hn]
  simp
 ·rw[List.all_cons,List.all_nil,Bool.and_true,qde ha]
 ·intro hp hq
  obtain⟨h1,h2⟩:=hp
  simp at h1 h2
  refine hk (by lia) (by lia) ?_ hq
  have:=(XB (ns:=a) hn hn).mp h2
  rw[Qq] at this
  exact this
theorem size_pos {n:Nat} (h:PvCalls.size n=true):1 <= n/\n <= 16:=by
 unfold PvCalls.size PvCalls.SIZE at h
 rw[Bool.and_eq_true,decide_eq_true_eq,decide_eq_true_eq] at h
 exact h
theorem qfQ {neg:Bool}{m r:Nat} (h:Pv.pack neg m=some r):r%2^63<9218868437227405312/\(neg=false->r<2^63):=by
 unfold Pv.pack at h
 split at h
 ·cases h
 ·rename_i hm
  have hm:m<2^2098:=Nat.lt_of_not_le hm
  have b:(if m<2^52 then m else (m.log2-51)*2^52+m / 2^(m.log2-52)%2^52)<9218868437227405312:=by
   split
   ·rename_i q;exact Nat.lt_trans q (by decide)
   ·have hl:m.log2<2098:=by
     by_cases z:m=0
     ·rw[z,Nat.log2_zero];decide
     ·exact (Nat.log2_lt z).mpr hm
    have q:=Nat.mod_lt (m / 2^(m.log2-52)) (show 0<2^52 by decide)
    generalize m / 2^(m.log2-52)%2^52=v at q ⊢
    generalize m.log2=u at hl ⊢
    clear hm
    lia
  clear hm
  cases h
  generalize (if m<2^52 then m else (m.log2-51)*2^52+m / 2^(m.log2-52)%2^52)=v at b ⊢
  cases neg with
  | true =>
   refine⟨?_,fun z=>nomatch z⟩
   show (2^63+v)%2^63<_
   lia
  | false =>
   show (0+v)%2^63<_/\(_->0+v<2^63)
   lia
theorem qhn {s:Int}{d:Nat}{b:Bool}{r:Nat} (h:Pv.ofSum s d b=some r):r%2^63<9218868437227405312:=by
 unfold Pv.ofSum at h
 split at h
 ·cases h;split <;> decide
 ·exact (qfQ h).1
theorem qdL {x:Nat} (h:x<2^64) (h2:x%2^63<9218868437227405312):Fi (x:Int):=⟨qx h,by lia⟩
theorem Uk {x y:Nat} (hx:x<y) (hy:y<2^63):Pv.mag x<Pv.mag y:=by
 have sx:Dm.sz x=x:=by unfold Dm.sz;lia
 have sy:Dm.sz y=y:=by unfold Dm.sz;lia
 have ex:=Dm.w9 x
 have ey:=Dm.w9 y
 rw[sx] at ex
 rw[sy] at ey
 unfold Pv.mag
 rw[ex,ey]
 by_cases h0:x / 2^52=0
 ·rw[if_pos h0]
  by_cases h1:y / 2^52=0
  ·rw[if_pos h1];lia
  ·rw[if_neg h1]
   have p:1 <= 2^(y / 2^52-1):=Nat.one_le_two_pow
   have q:(2^52+y%2^52)*1 <= (2^52+y%2^52)*2^(y / 2^52-1):=Nat.mul_le_mul_left _ p
   have z:=Nat.mod_lt x (show 0<2^52 by decide)
   lia
 ·rw[if_neg h0]
  have h1:y / 2^52≠0:=by lia
  rw[if_neg h1]
  by_cases h2:x / 2^52=y / 2^52
  ·rw[<- h2]
   refine (Nat.mul_lt_mul_right (Nat.two_pow_pos _)).mpr ?_
   lia
  ·have hle:x / 2^52<y / 2^52:=by lia
   obtain⟨d,hd⟩:∃ d,y / 2^52-1=(x / 2^52-1)+1+d:=⟨y / 2^52-1-(x / 2^52),by lia⟩
   rw[hd,Nat.pow_add,Nat.pow_add]
   have z:=Nat.mod_lt x (show 0<2^52 by decide)
   generalize hA:2^(x / 2^52-1)=A
   have hA0:0<A:=by rw[<- hA];exact Nat.two_pow_pos _
   generalize hB:2^d=B
   have hB0:1 <= B:=by rw[<- hB];exact Nat.one_le_two_pow
   calc (2^52+x%2^52)*A<(2^52*2)*A:=(Nat.mul_lt_mul_right hA0).mpr (by lia)
    _=2^52*(A*2^1*1):=by rw[Nat.mul_one,Nat.pow_one,Nat.mul_assoc,Nat.mul_comm 2 A]
    _ <= (2^52+y%2^52)*(A*2^1*B):=Nat.mul_le_mul (Nat.le_add_right _ _) (Nat.mul_le_mul_left _ hB0)
theorem qhl {m n:Nat}{a:List (List Nat)} (h:Tb m n a):a=(List.range m).map fun i=>(List.range n).map fun j=>Pv.Table.at_ a i j:=by
 conv=>lhs;rw[QR a [],h.len]
 refine List.map_congr_left fun i hi=>?_
 have hi:=List.mem_range.mp hi
 have hl:(a.getD i []).length=n:=h.wide _ (getD_mem [] (by rw[h.len];exact hi))
 conv=>lhs;rw[QR (a.getD i []) 0,hl]
 rfl
theorem qeF {l:List Nat} (h:l.length<LIM):qT [rD l] = .ok (.lst (.int l.length::l.map fun (n:Nat)=>D.int n),true):=by
 rw[Qv (xY _) (by rw[List.length_map];exact h),List.length_map]
theorem qar {r q:RE}{δ:Dl}{i j:Nat}{k l:Kd} (h1:r δ = .ok (.int i,k)) (h2:q δ = .ok (.int j,l)) (hi:i<1000000) (hj:j<1000000):jo r q δ = .ok (true,(Pv.span i j).map fun (k:Nat)=>(D.int k,.nw)):=by
 unfold jo
 rw[h1,h2,Rs.qM,Rs.qM]
 dsimp only
 rw[if_pos ⟨⟨by lia,by lia⟩,by lia,by lia⟩]
 unfold Pv.span
 rw[List.map_map]
 have e:((j:Int)-(i:Int)).toNat=j-i:=by lia
 rw[e]
 congr 2
theorem qdS {i j k:Nat} (h:k∈Pv.span i j):i <= k/\k<j:=by
 unfold Pv.span at h
 obtain⟨d,hd,rfl⟩:=List.mem_map.mp h
 have:=List.mem_range.mp hd
 lia
theorem wq {s:List (Option Itm)}{μ:List Cell}{i:Nat}{x:Itm}{d:D} (h:s[i]?=some (some x)) (hv:zh μ 3 x=some d):qa i (qJ ⟨s,μ⟩) = .ok (d,.sh):=by
 have e:(qJ ⟨s,μ⟩)[i]?=some (.val d false):=by
  show (s.map (qcR μ))[i]?=_
  rw[List.getElem?_map,h]
  show some (match zh μ 3 x with | some d=>Sl.val d false | none=>.un)=_
  rw[hv]
 unfold qa
 rw[e]
 rfl
theorem qL {s:List (Option Itm)}{μ:List Cell}{i:Nat}{d:D}{k:Bool} (h:s[i]?=some (some (.v d k))):qa i (qJ ⟨s,μ⟩) = .ok (d,.sh):=wq h rfl
theorem WH {n i:Nat} (h:i<n):ug n (i:Nat)=some i:=by
 unfold ug
 rw[if_pos (by lia),if_pos (by lia),Int.toNat_natCast]
theorem ZE {x y r:Nat} (h:Pv.div x y=some r):r<2^64:=by
 unfold Pv.div at h
 split at h
 ·cases h
 ·exact VY h
theorem Tb.set {m n:Nat}{x:List (List Nat)} (h:Tb m n x) (i:Nat) {row:List Nat} (hl:row.length=n) (hr:R64 row):Tb m n (x.set i row):=by
 refine⟨by rw[List.length_set];exact h.len,fun r hr'=>?_,fun r hr'=>?_⟩
 ·rcases List.mem_or_eq_of_mem_set hr' with q | q
  ·exact h.wide r q
  ·rw[q];exact hl
 ·rcases List.mem_or_eq_of_mem_set hr' with q | q
  ·exact h.b64 r q
  ·rw[q];exact hr
theorem qcq {x y z r:Nat} (h:Pv.F x y z = .ok r):r<2^64:=by
 unfold Pv.F at h
 cases e:Pv.fused x y z with
 | none=>rw[e] at h;cases h
 | some w=>rw[e] at h;cases h;exact qdM e
theorem qhw {x y z:Nat}{e:Int} (h:Pv.F x y z = .error e):e = -3:=UB h
noncomputable def Q0 (z:Int):qbO:=if z = -4 then .er "NotAsTold" else .er "StepNotFinite"
theorem ue (z:Int):yj (yr z)=Q0 z:=by
 unfold yr Q0
 split <;> rfl
theorem qga {t:RT}{a b:RM}{m:MS} (h:t (qJ m) = .ok true):mIf t a b m=a m:=by unfold mIf;rw[h];rfl
theorem qf7 {t:RT}{a b:RM}{m:MS} (h:t (qJ m) = .ok false):mIf t a b m=b m:=by unfold mIf;rw[h];rfl
noncomputable def Jm (r:RM):Prop:=∀ m x μ,r m ≠ .rt x μ
theorem jd {a b:RM} (ha:Jm a) (hb:Jm b):Jm (wI a b):=fun m x μ h=>by
 unfold wI z7.andThen at h
 cases e:a m with
 | nx m1=>rw[e] at h;exact hb m1 x μ h
 | rt y ν=>exact ha m y ν e
 | bk m1=>rw[e] at h;cases h
 | ct m1=>rw[e] at h;cases h
 | er c=>rw[e] at h;cases h
 | no=>rw[e] at h;cases h
theorem jF {α:Type}{x:Rs α}{f:α->z7} (h:∀ a y μ,f a ≠ .rt y μ) (y:Itm) (μ:List Cell):mDo x f ≠ .rt y μ:=by
 cases x with
 | ok a=>exact h a y μ
 | er c=>intro z;cases z
 | no=>intro z;cases z
theorem QP {c f:Str}{m:MS}{o:Option (Nat × Cell)}{x:Itm}{μ:List Cell} (y:Itm) (ν:List Cell):yE c f m o x μ ≠ .rt y ν:=by
 intro h
 match o,h with
 | some (n,.ins c' ns xs),h =>
  have h:(if c'=c/\ns.length<1000/\ns.length=xs.length then z7.nx _ else .no) = .rt y ν:=h
  split at h <;> cases h
 | some (n,.lst xs),h=>cases h
 | none,h=>cases h
theorem uj {c f:Str}{ec ev:IE}:Jm (xP c f ec ev):=fun m x μ=>jF (fun a y ν=>jF (fun b z ξ=>QP z ξ) y ν) x μ
theorem qcA {r:RM} (h:Jm r) {m:MS}{x:Itm}{μ:List Cell} (e:yj (r m) = .ok x μ):x = .v .non true:=by
 cases q:r m with
 | rt y ν=>exact absurd q (h m y ν)
 | nx m1=>rw[q] at e;cases e;rfl
 | bk m1=>rw[q] at e;cases e
 | ct m1=>rw[q] at e;cases e
 | er c=>rw[q] at e;cases e
 | no=>rw[q] at e;cases e
theorem qdY {r:RE}{rest:RS}{i:Nat}{δ:Dl}{R:Rs (D × Bool)} (h:r δ=R.bind kOf):res (vt (vd i r) rest δ)=R.bind fun y=>res (vt (vd i fun _=>kOf y) rest δ):=by
 cases R with
 | ok y =>
  show _=res (vt (vd i fun _=>kOf y) rest δ)
  have e:vd i r δ=vd i (fun _=>kOf y) δ:=by
   unfold vd
   rw[h]
   rfl
  unfold vt
  rw[e]
 | er c=>rw[y8 (XO h)];rfl
 | no =>
  have e:vd i r δ = .no:=by unfold vd;rw[h];rfl
  unfold vt
  rw[e]
  rfl
theorem qbI (R:Rs (D × Bool)) (f g:D × Bool->Rs (D × Bool)):(R.bind f).bind g=R.bind fun y=>(f y).bind g:=by cases R <;> rfl
theorem qgp {ra rb:RE}{δ:Dl}{xs ys:List D} (h1:ra δ = .ok (.lst xs,.fr)) (h2:rb δ = .ok (.lst ys,.fr)) (c1:xs.all D.sc=true) (c2:ys.all D.sc=true) (hl:xs.length+ys.length <= LIM):qh wm ra rb δ = .ok (.lst (xs++ys),.fr):=by
 rw[qk h1 h2,qcM hl,Ux (by rw[List.all_append,c1,c2];rfl)]
theorem qaQ {t:List (List Nat)}{m n:Nat} (hm:t.length=m):((List.range n).map fun j=>t.map fun r=>r.getD j 0)=Pv.flipped m n t:=by
 unfold Pv.flipped Pv.tableBy
 refine List.map_congr_left fun j _=>?_
 refine List.ext_getElem (by rw[List.length_map,List.length_map,List.length_range,hm]) fun i h1 h2=>?_
 rw[List.length_map] at h1
 rw[List.getElem_map,List.getElem_map,List.getElem_range]
 show _=(t.getD i []).getD j 0
 rw[List.getD_eq_getElem?_getD (l:=t),List.getElem?_eq_getElem h1]
 rfl
theorem qaN {t:List (List Nat)}{m n:Nat} (h:Tb m n t):Tb n m (Pv.flipped m n t):=by
 rw[<- qaQ h.len]
 refine⟨by rw[List.length_map,List.length_range],fun r hr=>?_,fun r hr v hv=>?_⟩
 ·obtain⟨j,_,rfl⟩:=List.mem_map.mp hr
  rw[List.length_map];exact h.len
 ·obtain⟨j,_,rfl⟩:=List.mem_map.mp hr
  obtain⟨q,hq,rfl⟩:=List.mem_map.mp hv
  rw[List.getD_eq_getElem?_getD]
  cases e:q[j]? with
  | none=>show 0<2^64;decide
  | some v=>exact h.b64 q hq v (List.mem_of_getElem? e)
noncomputable def rk (x:Nat):Int:=if Dm.sg x=1 then -(Dm.sz x:Int) else Dm.sz x
noncomputable def jJ:RS:=(vK (j8 (tBl (qh (oEq false) (qe qC (qc (qa 0) qi)) (rC (.int 1)))) (rUn qb8 (qe qG (qc (qa 0) qi))) (qe qG (qc (qa 0) qi))))
noncomputable def wZ:Fn:=fun ds=>res (jJ (sl0 ["x"] ds))
theorem QN {x:Int} (h:U64 x):wZ [.int x]=iv (rk x.toNat):=by
 show res (jJ [.val (.int x) false])=_
 unfold jJ
 have hw:qe qG (qc (qa 0) qi) [.val (.int x) false] = .ok (.int (Dm.sz x.toNat),.nw):=(qU (x:=(.int x,.sh)) rfl (xf h)).trans (qP (by unfold Dm.sz;have:=h.1;lia))
 have ht:tBl (qh (oEq false) (qe qC (qc (qa 0) qi)) (rC (.int 1))) [.val (.int x) false] = .ok (decide (Dm.sg x.toNat=1)):=by
  refine wQ (k:=.nw) ((qk (x:=(.int (Dm.sg x.toNat),.nw)) (y:=(.int 1,.nw)) (qU (x:=(.int x,.sh)) rfl (z3 h)) rfl).trans ?_)
  show Rs.ok (D.bl (decide (((Dm.sg x.toNat:Nat):Int)=((1:Nat):Int))),Kd.nw)=_
  rw[x9]
 unfold rk
 by_cases c:Dm.sg x.toNat=1
 ·rw[decide_eq_true c] at ht
  rw[if_pos c,vM (d:=.int (-(Dm.sz x.toNat:Int))) ((Wz ht).trans ((yf hw).trans rfl))]
  rfl
 ·rw[decide_eq_false c] at ht
  rw[if_neg c,vM (d:=.int (Dm.sz x.toNat)) ((WR ht).trans hw)]
  rfl
theorem qhj {x y:Int} (hx:U64 x) (hy:U64 y):eqB x y=decide (rk x.toNat=rk y.toNat):=by
 obtain⟨X,rfl⟩:=yh hx
 obtain⟨Y,rfl⟩:=yh hy
 have:=hx.2
 have:=hy.2
 rw[Int.toNat_natCast,Int.toNat_natCast]
 unfold eqB rk
 rw[Bool.eq_iff_iff,Bool.or_eq_true,Bool.and_eq_true,decide_eq_true_eq,decide_eq_true_eq,decide_eq_true_eq,decide_eq_true_eq]
 unfold Dm.sg Dm.sz
 split <;> split <;> lia
noncomputable def uv:RS:=(vK (qh (oEq false) (qe wZ (qc (qa 0) qi)) (qe wZ (qc (qa 1) qi))))
noncomputable def vF:Fn:=fun ds=>res (uv (sl0 ["x","y"] ds))
theorem JH {x y:Int} (h:U64 x) (h2:U64 y):vF [.int x,.int y]=bv (eqB x y):=by
 show res (uv [.val (.int x) false,.val (.int y) false])=_
 unfold uv
 have h1:qe wZ (qc (qa 0) qi) [.val (.int x) false,.val (.int y) false] = .ok (.int (rk x.toNat),.nw):=qU (x:=(.int x,.sh)) rfl (QN h)
 have h3:qe wZ (qc (qa 1) qi) [.val (.int x) false,.val (.int y) false] = .ok (.int (rk y.toNat),.nw):=qU (x:=(.int y,.sh)) rfl (QN h2)
 rw[vM (d:=.bl (decide (rk x.toNat=rk y.toNat))) ((qk h1 h3).trans rfl),qhj h h2]
 rfl
end Gr
set_option maxHeartbeats 4000000
set_option maxHeartbeats 2000000
namespace L2.Ir
open PySem PySem.Spec PyProof.Rows
section
variable (mg:Str->Option Value) (K:PySem.W.Frag) (Gl:Addr->Prop) (κ:List Addr) (H:Hp)
noncomputable def ItR:V->Itm->Prop
 | w,.v d k=>Rp mg K (fun a=>a∉κ/\(k=true->Gl a)) H w d
 | w,.c n=>∃ p,κ[n]?=some p/\w = .ref p
noncomputable def Its:List V->List Itm->Prop
 | [],[]=>True
 | w::vs,x::xs=>ItR mg K Gl κ H w x/\Its vs xs
 | _,_=>False
noncomputable def Xk (p:Addr):Cell->Prop
 | .lst xs=>∃ vs,H p=some (.lst vs)/\Its mg K Gl κ H vs xs
 | .ins c ns xs=>∃ C dx vs,mg c=some (.ref C)/\H p=some (.ins C dx (ns.zip vs))/\ns.length=vs.length/\Its mg K Gl κ H vs xs
structure Mem (μ:List Cell):Prop where
 nd:κ.Nodup
 len:κ.length=μ.length
 cel:∀ (n:Nat) (p:Addr) (x:Cell),κ[n]?=some p->μ[n]?=some x->Xk mg K Gl κ H p x
 gl:∀ a:Addr,H a=none->Gl a
structure MR (σ:St) (m:MS):Prop where
 mem:Mem mg K Gl κ H m.μ
 len:σ.length=m.s.length
 sl:∀ (i:Nat) (x:Itm),m.s[i]?=some (some x)->∃ w,σ[i]?=some (some w)/\ItR mg K Gl κ H w x
end
structure Ext (κ:List Addr) (H:Hp) (κ':List Addr) (H':Hp):Prop where
 pre:∀ (n:Nat) (p:Addr),κ[n]?=some p->κ'[n]?=some p
 old:∀ p∈κ',p∈κ\/H p=none
 keep:∀ (a:Addr) (o:HO),H a=some o->a∉κ->H' a=some o
section
variable {mg:Str->Option Value}{K:PySem.W.Frag}{Gl:Addr->Prop}{κ κ' κ1:List Addr}{H H' H1:Hp}{μ:List Cell}{σ:St}{m:MS}{w:V}{x:Itm}
theorem Ext.same (s:qB H H'):Ext κ H κ H':=⟨fun _ _ e=>e,fun _ h=>.inl h,fun a o e _=>s a o e⟩
theorem Ext.refl:Ext κ H κ H:=Ext.same fun _ _ e=>e
theorem Ext.trans (a:Ext κ H κ1 H1) (b:Ext κ1 H1 κ' H'):Ext κ H κ' H':=by
 refine⟨fun n p e=>b.pre n p (a.pre n p e),fun p h=>?_,fun c o e n=>?_⟩
 ·rcases b.old p h with h | h
  ·exact a.old p h
  ·by_cases c:p∈κ
   ·exact .inl c
   ·right
    cases e:H p with
    | none=>rfl
    | some o =>
     have:=a.keep p o e c
     rw[h] at this
     cases this
 ·refine b.keep c o (a.keep c o e n) fun z=>?_
  rcases a.old c z with q | q
  ·exact n q
  ·rw[e] at q
   cases q
theorem ItR.ext (e:Ext κ H κ' H'):∀ {w:V}{x:Itm},ItR mg K Gl κ H w x->ItR mg K Gl κ' H' w x
 | w,.v d k,h=>by
  refine Rp.mono (fun a g=>?_) d w (Rp.there _ _ h)
  obtain⟨⟨g1,g2⟩,n⟩:=g
  refine⟨⟨fun z=>?_,g2⟩,fun o q=>e.keep a o q g1⟩
  rcases e.old a z with q | q
  ·exact g1 q
  ·exact n q
 | w,.c n,h=>by
  obtain⟨p,h1,h2⟩:=h
  exact⟨p,e.pre n p h1,h2⟩
theorem Its.ext (e:Ext κ H κ' H'):∀ {vs:List V}{xs:List Itm},Its mg K Gl κ H vs xs->Its mg K Gl κ' H' vs xs
 | [],[],_=>trivial
 | _::_,_::_,h=>⟨h.1.ext e,Its.ext e h.2⟩
 | [],_::_,h=>h.elim
 | _::_,[],h=>h.elim
theorem Its.len:∀ {vs:List V}{xs:List Itm},Its mg K Gl κ H vs xs->vs.length=xs.length
 | [],[],_=>rfl
 | _::_,_::_,h=>by rw[List.length_cons,List.length_cons,Its.len h.2]
 | [],_::_,h=>h.elim
 | _::_,[],h=>h.elim
theorem Its.get:∀ {vs:List V}{xs:List Itm}{i:Nat}{x:Itm},Its mg K Gl κ H vs xs->xs[i]?=some x->∃ w,vs[i]?=some w/\ItR mg K Gl κ H w x
 | [],[],_,_,_,e=>by simp at e
 | w::_,y::_,0,_,h,e=>by simp at e;subst e;exact⟨w,rfl,h.1⟩
 | _::_,_::_,i+1,x,h,e=>by
  obtain⟨w,q1,q2⟩:=Its.get (i:=i) (x:=x) h.2 (by simpa using e)
  exact⟨w,by simpa using q1,q2⟩
 | [],_::_,_,_,h,_=>h.elim
 | _::_,[],_,_,h,_=>h.elim
theorem Its.set {w:V}{x:Itm} (hx:ItR mg K Gl κ H w x):∀ {vs:List V}{xs:List Itm} (j:Nat),Its mg K Gl κ H vs xs->Its mg K Gl κ H (vs.set j w) (xs.set j x)
 | [],[],_,_=>trivial
 | _::_,_::_,0,h=>⟨hx,h.2⟩
 | _::_,_::_,j+1,h=>⟨h.1,Its.set hx j h.2⟩
 | [],_::_,_,h=>h.elim
 | _::_,[],_,h=>h.elim
theorem Its.append:∀ {vs us:List V}{xs ys:List Itm},Its mg K Gl κ H vs xs->Its mg K Gl κ H us ys->Its mg K Gl κ H (vs++us) (xs++ys)
 | [],_,[],_,_,h=>h
 | _::_,_,_::_,_,h,h2=>⟨h.1,Its.append h.2 h2⟩
 | [],_,_::_,_,h,_=>h.elim
 | _::_,_,[],_,h,_=>h.elim
theorem Its.vals {k:Bool}:∀ {vs:List V}{ds:List D},qz mg K (fun a=>a∉κ/\(k=true->Gl a)) H vs ds->Its mg K Gl κ H vs (ds.map fun d=>Itm.v d k)
 | _,_,.nil=>trivial
 | _,_,.cons a b=>⟨a,Its.vals b⟩
theorem Xk.some {p:Addr}{x:Cell} (h:Xk mg K Gl κ H p x):H p≠none:=by
 cases x with
 | lst xs=>obtain⟨vs,e,_⟩:=h;rw[e];exact fun z=>nomatch z
 | ins c ns xs=>obtain⟨C,dx,vs,_,e,_⟩:=h;rw[e];exact fun z=>nomatch z
theorem Mem.at_ (M:Mem mg K Gl κ H μ) {p:Addr} (h:p∈κ):H p≠none:=by
 obtain⟨n,hn,e⟩:=List.mem_iff_getElem.mp h
 have e1:κ[n]? = .some p:=by rw[List.getElem?_eq_getElem hn,e]
 have hm:n<μ.length:=by rw[<- M.len];exact hn
 exact (M.cel n p μ[n] e1 (List.getElem?_eq_getElem hm)).some
theorem Xk.ext {p:Addr}{x:Cell} (e:Ext κ H κ' H') (hp:H' p=H p) (h:Xk mg K Gl κ H p x):Xk mg K Gl κ' H' p x:=by
 cases x with
 | lst xs=>obtain⟨vs,q,r⟩:=h;exact⟨vs,hp.trans q,r.ext e⟩
 | ins c ns xs=>obtain⟨C,dx,vs,a,q,l,r⟩:=h;exact⟨C,dx,vs,a,hp.trans q,l,r.ext e⟩
theorem Mem.more (M:Mem mg K Gl κ H μ) (s:qB H H'):Mem mg K Gl κ H' μ:=by
 refine⟨M.nd,M.len,fun n p x e1 e2=>?_,fun a h=>M.gl a (s.free h)⟩
 have q:=M.cel n p x e1 e2
 refine q.ext (Ext.same s) ?_
 cases e:H p with
 | none=>exact absurd e q.some
 | some o=>exact s p o e
theorem MR.more (R:MR mg K Gl κ H σ m) (s:qB H H'):MR mg K Gl κ H' σ m :=
 ⟨R.mem.more s,R.len,fun i x e=>let ⟨w,a,b⟩:=R.sl i x e;⟨w,a,b.ext (Ext.same s)⟩⟩
theorem qcD {α:Type}:∀ {l:List α}{i j:Nat}{a:α},l.Nodup->l[i]?=some a->l[j]?=some a->i=j
 | [],i,_,_,_,h,_=>by simp at h
 | x::l,0,0,_,_,_,_=>rfl
 | x::l,0,j+1,a,n,h1,h2=>by
  simp at h1 h2
  subst h1
  rw[List.nodup_cons] at n
  exact absurd (List.mem_of_getElem? h2) n.1
 | x::l,i+1,0,a,n,h1,h2=>by
  simp at h1 h2
  subst h2
  rw[List.nodup_cons] at n
  exact absurd (List.mem_of_getElem? h1) n.1
 | x::l,i+1,j+1,a,n,h1,h2=>by
  simp at h1 h2
  rw[List.nodup_cons] at n
  rw[qcD n.2 h1 h2]
theorem Mem.mut (M:Mem mg K Gl κ H μ) {n:Nat}{p:Addr}{o:HO}{x:Cell} (hn:κ[n]? = .some p) (hx:Xk mg K Gl κ (upd H p o) p x):Mem mg K Gl κ (upd H p o) (μ.set n x)/\Ext κ H κ (upd H p o):=by
 have hp:p∈κ:=List.mem_of_getElem? hn
 have ex:Ext κ H κ (upd H p o):=⟨fun _ _ e=>e,fun _ h=>.inl h,fun a q e na=>by
  rw[qD (fun z=>na (by rw[z];exact hp))]
  exact e⟩
 refine⟨⟨M.nd,by rw[List.length_set];exact M.len,fun k q y e1 e2=>?_,fun a h=>?_⟩,ex⟩
 ·by_cases hk:n=k
  ·subst hk
   rw[hn] at e1
   cases e1
   have hlt:n<μ.length:=by rw[<- M.len];exact (List.getElem?_eq_some_iff.mp hn).1
   rw[List.getElem?_set_self hlt] at e2
   cases e2
   exact hx
  ·rw[List.getElem?_set_ne hk] at e2
   have hq:q≠p:=fun z=>by
    subst z
    exact hk (qcD M.nd hn e1)
   exact (M.cel k q y e1 e2).ext ex (qD hq)
 ·by_cases ha:a=p
  ·rw[ha,qV] at h
   cases h
  ·rw[qD ha] at h
   exact M.gl a h
theorem Mem.new (M:Mem mg K Gl κ H μ) {p:Addr}{x:Cell} (s:qB H H') (hp:H p=none) (hx:Xk mg K Gl (κ++[p]) H' p x):Mem mg K Gl (κ++[p]) H' (μ++[x])/\Ext κ H (κ++[p]) H':=by
 have np:p∉κ:=fun z=>M.at_ z hp
 have ex:Ext κ H (κ++[p]) H':=by
  refine⟨fun n q e=>?_,fun q h=>?_,fun a o e _=>s a o e⟩
  ·rw[List.getElem?_append_left (List.getElem?_eq_some_iff.mp e).1]
   exact e
  ·rcases List.mem_append.mp h with h | h
   ·exact .inl h
   ·right
    rw[List.mem_singleton.mp h]
    exact hp
 refine⟨⟨?_,by rw[List.length_append,List.length_append,M.len];rfl,fun n q y e1 e2=>?_,fun a h=>M.gl a (s.free h)⟩,ex⟩
 ·rw[List.nodup_append]
  refine⟨M.nd,List.pairwise_singleton _ _,fun a ha b hb=>?_⟩
  rw[List.mem_singleton.mp hb]
  exact fun z=>np (by rw[<- z];exact ha)
 ·by_cases hn:n<κ.length
  ·rw[List.getElem?_append_left hn] at e1
   rw[List.getElem?_append_left (by rw[<- M.len];exact hn)] at e2
   have q0:=M.cel n q y e1 e2
   refine q0.ext ex ?_
   cases e:H q with
   | none=>exact absurd e q0.some
   | some o=>exact s q o e
  ·rw[List.getElem?_append_right (by lia)] at e1
   rw[List.getElem?_append_right (by rw[<- M.len];lia)] at e2
   have h0:n-κ.length=0:=by
    have:=(List.getElem?_eq_some_iff.mp e1).1
    rw[List.length_singleton] at this
    lia
   rw[h0] at e1
   rw[<- M.len,h0] at e2
   cases e1
   cases e2
   exact hx
theorem MR.qeU (R:MR mg K Gl κ H σ m) {i:Nat} (hx:ItR mg K Gl κ H w x):MR mg K Gl κ H (σ.set i (some w)) ⟨m.s.set i (some x),m.μ⟩:=by
 refine⟨R.mem,by rw[List.length_set,List.length_set];exact R.len,fun j y e=>?_⟩
 have e:(m.s.set i (some x))[j]?=some (some y):=e
 by_cases hj:i=j
 ·subst hj
  by_cases hi:i<m.s.length
  ·rw[List.getElem?_set_self hi] at e
   cases e
   exact⟨w,List.getElem?_set_self (by rw[R.len];exact hi),hx⟩
  ·rw[List.getElem?_eq_none (by rw[List.length_set];lia)] at e
   cases e
 ·rw[List.getElem?_set_ne hj] at e ⊢
  exact R.sl j y e
theorem MR.after (R:MR mg K Gl κ H σ m) (e:Ext κ H κ' H') (M:Mem mg K Gl κ' H' μ):MR mg K Gl κ' H' σ ⟨m.s,μ⟩ :=
 ⟨M,R.len,fun i x h=>let ⟨w,a,b⟩:=R.sl i x h;⟨w,a,b.ext e⟩⟩
theorem mapM_some {α β:Type}{f:α->Option β}{x:α}{xs:List α}{ys:List β} (h:(x::xs).mapM f=some ys):∃ y r,f x=some y/\xs.mapM f=some r/\ys=y::r:=by
 rw[List.mapM_cons] at h
 cases h1:f x with
 | none=>rw[h1] at h;cases h
 | some y =>
  rw[h1] at h
  cases h2:xs.mapM f with
  | none=>rw[h2] at h;cases h
  | some r=>rw[h2] at h;exact⟨y,r,rfl,rfl,(Option.some.inj h).symm⟩
theorem um {G:Addr->Prop}{g:Itm->Option D} (hg:∀ w x d,g x=some d->ItR mg K Gl κ H w x->Rp mg K G H w d):∀ {vs:List V}{xs:List Itm}{ds:List D},Its mg K Gl κ H vs xs->xs.mapM g=some ds->qz mg K G H vs ds
 | [],[],ds,_,e=>by cases e;exact .nil
 | w::vs,x::xs,ds,h,e=>by
  obtain⟨y,r,e1,e2,rfl⟩:=mapM_some e
  exact .cons (hg w x y e1 h.1) (um hg h.2 e2)
 | [],_::_,_,h,_=>h.elim
 | _::_,[],_,h,_=>h.elim
theorem Xo (M:Mem mg K Gl κ H μ):∀ (f:Nat) (w:V) (x:Itm) (d:D),zh μ f x=some d->ItR mg K Gl κ H w x->Rp mg K (fun _=>True) H w d
 | 0,w,.v d k,_,e,h=>by cases e;exact Rp.weak h fun _ _=>trivial
 | f+1,w,.v d k,_,e,h=>by cases e;exact Rp.weak h fun _ _=>trivial
 | 0,w,.c n,d,e,h=>by cases e
 | f+1,w,.c n,d,e,h=>by
  obtain⟨p,hp,rfl⟩:=h
  unfold zh at e
  cases hn:μ[n]? with
  | none=>rw[hn] at e;cases e
  | some y =>
   rw[hn] at e
   have q:=M.cel n p y hp hn
   cases y with
   | lst xs =>
    obtain⟨vs,q1,q2⟩:=q
    cases hm:xs.mapM (zh μ f) with
    | none=>dsimp only at e;rw[hm] at e;cases e
    | some ds =>
     dsimp only at e
     rw[hm] at e
     cases e
     exact .lst trivial (.of q1) (um (fun w x d e h=>Xo M f w x d e h) q2 hm)
   | ins c ns xs =>
    obtain⟨C,dx,vs,q0,q1,ql,q2⟩:=q
    cases hm:xs.mapM (zh μ f) with
    | none=>dsimp only at e;rw[hm] at e;cases e
    | some ds =>
     dsimp only at e
     rw[hm] at e
     cases e
     exact .obj trivial q0 q1 ql (um (fun w x d e h=>Xo M f w x d e h) q2 hm)
theorem wA (R:MR mg K Gl κ H σ m):Rl mg K ⟨H,fun _=>False⟩ H σ (qJ m):=by
 have noown:∀ (i:Nat) (ds:List D),(qJ m)[i]?≠some (.own ds):=fun i ds e=>by
  unfold qJ at e
  rw[List.getElem?_map] at e
  cases hs:m.s[i]? with
  | none=>rw[hs] at e;cases e
  | some o =>
   rw[hs] at e
   cases o with
   | none=>cases e
   | some x =>
    have e:some (match zh m.μ 3 x with | some d=>Sl.val d false | none=>.un)=some (.own ds):=e
    cases hv:zh m.μ 3 x with
    | none=>rw[hv] at e;cases e
    | some d=>rw[hv] at e;cases e
 refine⟨fun _ _ e=>e,fun _ h=>h.elim,by unfold qJ;rw[List.length_map];exact R.len,fun i d k e=>?_,fun i ds e=>absurd e (noown i ds),fun i j p ds es e _ _ _=>absurd e (noown i ds)⟩
 unfold qJ at e
 rw[List.getElem?_map] at e
 cases hs:m.s[i]? with
 | none=>rw[hs] at e;cases e
 | some o =>
  rw[hs] at e
  cases o with
  | none=>cases e
  | some x =>
   have e:some (match zh m.μ 3 x with | some d=>Sl.val d false | none=>.un)=some (.val d k):=e
   cases hv:zh m.μ 3 x with
   | none=>rw[hv] at e;cases e
   | some d' =>
    rw[hv] at e
    cases e
    obtain⟨w,h1,h2⟩:=R.sl i x hs
    refine⟨w,h1,Rp.weak (Xo R.mem 3 w x d hv h2) fun a _=>⟨fun z=>?_,fun z=>nomatch z⟩⟩
    rcases z with z | ⟨j,ds,z,_⟩
    ·exact z
    ·exact noown j ds z
open Classical in
noncomputable def Zn (Gl:Addr->Prop) (κ:List Addr) (H:Hp):Hp:=fun a=>if Gl a\/a∈κ then none else H a
theorem Jx {a:Addr} (h:Gl a):Zn Gl κ H a=none:=by unfold Zn;exact if_pos (.inl h)
theorem UP {a:Addr} (hg:∀ a,H a=none->Gl a) (h:Zn Gl κ H a=none) (n:a∉κ):Gl a:=by
 unfold Zn at h
 by_cases c:Gl a\/a∈κ
 ·exact c.elim id fun z=>absurd z n
 ·rw[if_neg c] at h
  exact hg a h
theorem qaB (e:Ext κ H κ' H'):qB (Zn Gl κ H) H':=fun a o h=>by
 unfold Zn at h
 by_cases c:Gl a\/a∈κ
 ·rw[if_pos c] at h
  cases h
 ·rw[if_neg c] at h
  exact e.keep a o h fun z=>c (.inr z)
theorem QT (m:MS) (i:Nat) (ds:List D):(vY m)[i]?≠some (.own ds):=fun e=>by
 unfold vY at e
 rw[List.getElem?_map] at e
 cases hs:m.s[i]? with
 | none=>rw[hs] at e;cases e
 | some o =>
  rw[hs] at e
  cases o with
  | none=>cases e
  | some x=>cases x <;> cases e
noncomputable abbrev B1 (Gl:Addr->Prop) (κ:List Addr) (H:Hp) (κ':List Addr):Bs:=⟨Zn Gl κ H,fun a=>a∈κ'⟩
theorem qay {a:Addr}{κ0:List Addr}{H0:Hp} (h:vG (B1 Gl κ0 H0 κ) σ (vY m) a):a∈κ:=by
 rcases h with h | ⟨i,ds,e,_⟩
 ·exact h
 ·exact absurd e (QT m i ds)
theorem xi {κ0:List Addr}{H0:Hp} (e:Ext κ0 H0 κ H) (R:MR mg K Gl κ H σ m):Rl mg K (B1 Gl κ0 H0 κ) H σ (vY m):=by
 refine⟨qaB e,fun p h=>R.mem.at_ h,by unfold vY;rw[List.length_map];exact R.len,fun i d k q=>?_,fun i ds q=>absurd q (QT m i ds),fun i j p ds es q _ _ _=>absurd q (QT m i ds)⟩
 unfold vY at q
 rw[List.getElem?_map] at q
 cases hs:m.s[i]? with
 | none=>rw[hs] at q;cases q
 | some o =>
  rw[hs] at q
  cases o with
  | none=>cases q
  | some x =>
   cases x with
   | c n=>cases q
   | v d' k' =>
    cases q
    obtain⟨w,h1,h2⟩:=R.sl i _ hs
    exact⟨w,h1,Rp.weak h2 fun a g=>⟨fun z=>g.1 (qay z),fun z=>Jx (g.2 z)⟩⟩
theorem qd5 {d:D}{k:Bool} (c:d.sc=true) (G:Addr->Prop) (r:Rp mg K G H w d):ItR mg K Gl κ H w (.v d k):=by
 rw[r.sc c]
 exact Rp.zt c
theorem qbU {y:DK} (R:MR mg K Gl κ H σ m) (s:qB H H') (r:VR mg K ⟨H,fun _=>False⟩ H H' σ (qJ m) y.2 w y.1) (h:QZ y=some x):ItR mg K Gl κ H' w x:=by
 obtain⟨d,k⟩:=y
 have R0:=wA R
 have new:VR mg K ⟨H,fun _=>False⟩ H H' σ (qJ m) .nw w d->ItR mg K Gl κ H' w (.v d true):=fun r=>by
  refine Rp.weak r fun a g=>⟨fun z=>R.mem.at_ z g.2,fun _=>R.mem.gl a g.2⟩
 unfold QZ at h
 dsimp only at h
 by_cases c:d.sc=true
 ·rw[if_pos c] at h
  cases h
  exact qd5 c _ (r.rp R0)
 ·rw[if_neg c] at h
  cases k with
  | bo=>cases h
  | sh=>cases h
  | nw=>cases h;exact new r
  | fr=>cases h;exact new (VR.yN R0 r)
theorem qb4 {y:DK}{κ0:List Addr}{H0:Hp} (e:Ext κ0 H0 κ H) (hg:∀ a,H0 a=none->Gl a) (R:MR mg K Gl κ H σ m) (s:qB H H') (r:VR mg K (B1 Gl κ0 H0 κ) H H' σ (vY m) y.2 w y.1) (h:vJ y=some x):ItR mg K Gl κ H' w x:=by
 obtain⟨d,k⟩:=y
 have R0:=xi e R
 have new:VR mg K (B1 Gl κ0 H0 κ) H H' σ (vY m) .nw w d->ItR mg K Gl κ H' w (.v d true):=fun r=>by
  refine Rp.weak r fun a g=>?_
  have n:a∉κ:=fun z=>g.1 (.inl z)
  refine⟨n,fun _=>UP hg g.2 fun z=>n ?_⟩
  obtain⟨i,hi,q⟩:=List.mem_iff_getElem.mp z
  exact List.mem_of_getElem? (e.pre i a (by rw[List.getElem?_eq_getElem hi,q]))
 unfold vJ at h
 dsimp only at h
 by_cases c:d.sc=true
 ·rw[if_pos c] at h
  cases h
  exact qd5 c _ (r.rp R0)
 ·rw[if_neg c] at h
  cases k with
  | bo=>cases h
  | sh=>cases h;exact Rp.weak r fun a g=>⟨fun z=>g (.inl z),fun z=>nomatch z⟩
  | nw=>cases h;exact new r
  | fr=>cases h;exact new (VR.yN R0 r)
end
noncomputable def vX (mg:Str->Option Value) (K:PySem.W.Frag) (E:XK) (Gn:Addr->Prop) (κ:List Addr) (H:Hp) (o:z7) (D:Ends):Prop:=match o with
 | .nx m=>∀ κ' σ' H',MR mg K Gn κ' H' σ' m->Ext κ H κ' H'->D.nx σ' H'
 | .bk m=>∀ κ' σ' H',MR mg K Gn κ' H' σ' m->Ext κ H κ' H'->D.bk σ' H'
 | .ct m=>∀ κ' σ' H',MR mg K Gn κ' H' σ' m->Ext κ H κ' H'->D.ct σ' H'
 | .rt x μ=>∀ w κ' H',Mem mg K Gn κ' H' μ->ItR mg K Gn κ' H' w x->Ext κ H κ' H'->D.rt w H'
 | .er c=>∀ C H',mg c=some (.ref C)->(∀ a o,H a=some o->a∉κ->H' a=some o)->E (.ref C) none H'
 | .no=>False
noncomputable def tM (mg:Str->Option Value) (K:PySem.W.Frag) (E:XK) (r:RM):TS:=fun D σ H=>∃ Gn κ m,MR mg K Gn κ H σ m/\vX mg K E Gn κ H (r m) D
noncomputable abbrev TMx (X:Cx) (E:XK) (r:RM):TS:=tM X.mg X.K E r
noncomputable def tIe (X:Cx) (E:XK) (e:IE):TE:=fun σ H Q=>∃ Gn κ m,MR X.mg X.K Gn κ H σ m/\qv X.mg E H (e m) fun x=>∀ w H',qB H H'->ItR X.mg X.K Gn κ H' w x->Q w H'
noncomputable def tNe (X:Cx) (E:XK) (e:NE):TE:=fun σ H Q=>∃ Gn κ m,MR X.mg X.K Gn κ H σ m/\qv X.mg E H (e m) fun xs=>∀ p vs H',H p=none->qB H H'->H' p=some (.lst vs)->Its X.mg X.K Gn (κ++[p]) H' vs xs->Q (.ref p) H'
noncomputable def tMA (X:Cx) (E:XK) (es:List IE):TA:=fun σ H Q=>∃ Gn κ m,MR X.mg X.K Gn κ H σ m/\qv X.mg E H (vE es m) fun xs=>∀ vs H',qB H H'->Its X.mg X.K Gn κ H' vs xs->Q vs H'
section
variable {mg:Str->Option Value}{K:PySem.W.Frag}{E:XK}{Gn:Addr->Prop}{κ κ' κ1:List Addr}{H H' H1:Hp}{D:Ends}{o:z7}
theorem vX.later (h:vX mg K E Gn κ H o D) (e:Ext κ H κ1 H1):vX mg K E Gn κ1 H1 o D:=by
 cases o with
 | nx m=>exact fun κ' σ' H' R f=>h κ' σ' H' R (e.trans f)
 | bk m=>exact fun κ' σ' H' R f=>h κ' σ' H' R (e.trans f)
 | ct m=>exact fun κ' σ' H' R f=>h κ' σ' H' R (e.trans f)
 | rt x μ=>exact fun w κ' H' M r f=>h w κ' H' M r (e.trans f)
 | er c =>
  refine fun C H' hC k=>h C H' hC fun a o q n=>k a o (e.keep a o q n) fun z=>?_
  rcases e.old a z with y | y
  ·exact n y
  ·rw[q] at y
   cases y
 | no=>exact h
theorem qit {c:Str} (h:vX mg K E Gn κ H (.er c) D):∀ C H',mg c=some (.ref C)->qB H H'->E (.ref C) none H':=fun C H' e s=>h C H' e fun a o q _=>s a o q
theorem vX.do_ {α:Type}{x:Rs α}{f:α->z7}{k:α->Prop} (h:vX mg K E Gn κ H (mDo x f) D) (i:∀ a,x = .ok a->vX mg K E Gn κ H (f a) D->k a):qv mg E H x k:=by
 cases x with
 | ok a=>exact i a rfl h
 | er c=>exact qit h
 | no=>exact h
theorem Ext.upd {p:Addr}{o:HO} (hp:p∈κ):Ext κ H κ (L2.upd H p o):=⟨fun _ _ e=>e,fun _ h=>.inl h,fun a q e na=>by
 rw[qD (fun z=>na (by rw[z];exact hp))]
 exact e⟩
theorem uK {m:MS}{x:Itm}{n:Nat}{y:Cell} (h:cellAt m x=some (n,y)):x = .c n/\m.μ[n]?=some y:=by
 cases x with
 | v d k=>cases h
 | c k =>
  have h:(m.μ[k]?).map (fun x=>(k,x))=some (n,y):=h
  cases e:m.μ[k]? with
  | none=>rw[e] at h;cases h
  | some z=>rw[e] at h;cases h;exact⟨rfl,e⟩
theorem UR {f:Str}{y:Itm}:∀ {ns:List Str}{vs:List V}{xs:List Itm},Its mg K Gn κ H vs xs->(ns.zip xs).lookup f=some y->∃ w,(ns.zip vs).lookup f=some w/\ItR mg K Gn κ H w y
 | [],_,_,_,e=>by simp at e
 | _::_,[],[],_,e=>by simp at e
 | g::ns,w::vs,x::xs,h,e=>by
  rw[List.zip_cons_cons,List.lookup_cons] at e ⊢
  cases hg:f==g with
  | true=>rw[hg] at e;cases e;exact⟨w,rfl,h.1⟩
  | false=>rw[hg] at e;exact UR h.2 e
 | _::_,[],_::_,h,_=>h.elim
 | _::_,_::_,[],h,_=>h.elim
theorem qaV {f:Str}{w:V}{x:Itm} (hx:ItR mg K Gn κ H w x):∀ {ns:List Str}{vs:List V}{xs:List Itm},ns.length=vs.length->Its mg K Gn κ H vs xs->∃ vs',xX f w (ns.zip vs)=(x6 f x ns xs).1.zip vs'/\(x6 f x ns xs).1.length=vs'.length/\Its mg K Gn κ H vs' (x6 f x ns xs).2
 | [],[],[],_,_=>⟨[w],rfl,rfl,hx,trivial⟩
 | g::ns,u::vs,y::xs,hl,h=>by
  unfold x6
  by_cases c:g=f
  ·rw[if_pos c,List.zip_cons_cons]
   refine⟨w::vs,?_,hl,hx,h.2⟩
   show (if g=f then (g,w)::ns.zip vs else _)=_
   rw[if_pos c]
   rfl
  ·rw[if_neg c,List.zip_cons_cons]
   obtain⟨vs',q1,q2,q3⟩:=qaV (f:=f) hx (ns:=ns) (vs:=vs) (xs:=xs) (by simpa using hl) h.2
   refine⟨u::vs',?_,by simpa using q2,h.1,q3⟩
   show (if g=f then _ else (g,u)::xX f w (ns.zip vs))=_
   rw[if_neg c,q1]
   rfl
 | [],_::_,_,hl,_=>nomatch hl
 | _::_,[],_,hl,_=>nomatch hl
 | _,[],_::_,_,h=>h.elim
 | _,_::_,[],_,h=>h.elim
end
section
variable {X:Cx}{E:XK}{pos:Pos}
theorem Qd {e:Expr}{r:RE} (h:PE X e (TEx X E r)):PE X e (tIe X E (Qu r)):=by
 refine vO h fun σ H Q ⟨Gn,κ,m,R,h⟩=>⟨_,_,wA R,?_⟩
 refine qv.imp (qv.bind h) fun y h1 w H' s vr=>?_
 cases e:QZ y with
 | none=>rw[e] at h1;exact h1.elim
 | some x=>rw[e] at h1;exact h1 w H' s (qbU R s vr e)
theorem Us {e:Expr}{r:RE} (h:PE X e (TEx X E r)):PE X e (tIe X E (jS r)):=by
 refine vO h fun σ H Q ⟨Gn,κ,m,R,h⟩=>⟨_,_,xi Ext.refl R,?_⟩
 refine qv.imp (qv.bind h) fun y h1 w H' s vr=>?_
 cases e:vJ y with
 | none=>rw[e] at h1;exact h1.elim
 | some x=>rw[e] at h1;exact h1 w H' s (qb4 Ext.refl R.mem.gl R s vr e)
theorem wc (i:Nat) {x:Str} (hN:autoParam (X.N[i]?=some x) qt._auto_1) (hv:autoParam (Vis X.env.scope x) JT._auto_1) (hd:autoParam ((x==("__debug__":Str))=false) vh._auto_1)
  (hcd:autoParam ((x==("__classdict__":Str))=false) vh._auto_1):PE X (.Name x pos) (tIe X E (ieV i)):=by
 refine vO (Ze hN hv hd hcd) fun σ H Q ⟨Gn,κ,m,R,h⟩=>?_
 unfold ieV at h
 cases hs:m.s[i]? with
 | none=>rw[hs] at h;exact h.elim
 | some o =>
  rw[hs] at h
  cases o with
  | none=>exact h.elim
  | some y =>
   obtain⟨w,h1,h2⟩:=R.sl i y hs
   exact⟨w,h1,h w H (fun _ _ e=>e) h2⟩
theorem jv {c f:Str}{e:Expr}{ie:IE} (hC:∀ C,X.mg c=some (.ref C)->Cls X.K C/\qN X.K C f) (he:PE X e (tIe X E ie)) (hb:autoParam (attributeBase e f X.env (eval e X.env)=eval e X.env) qt._auto_1):PE X (.Attribute e f pos) (tIe X E (zF c f ie)):=by
 refine vO (qc7 he hb) fun σ H Q ⟨Gn,κ,m,R,h⟩=>⟨Gn,κ,m,R,?_⟩
 refine qv.imp (qv.bind h) fun x h1 w H1 s1 hw=>?_
 cases e:cellAt m x with
 | none=>rw[e] at h1;exact h1.elim
 | some y =>
  obtain⟨n,y⟩:=y
  obtain⟨rfl,hn⟩:=uK e
  rw[e] at h1
  cases y with
  | lst xs=>exact h1.elim
  | ins c' ns xs =>
   have h1:qv X.mg E H (if c'=c then jM ((ns.zip xs).lookup f) else .no) fun x=>∀ w H',qB H H'->ItR X.mg X.K Gn κ H' w x->Q w H':=h1
   by_cases cc:c'=c
   ·subst cc
    rw[if_pos rfl] at h1
    obtain⟨p,hp,rfl⟩:=hw
    obtain⟨C,dx,vs,g0,g1,g2,g3⟩:=(R.more s1).mem.cel n p _ hp hn
    cases hl:(ns.zip xs).lookup f with
    | none=>rw[hl] at h1;exact h1.elim
    | some y =>
     rw[hl] at h1
     obtain⟨w,l1,l2⟩:=UR g3 hl
     exact⟨p,C,dx,_,w,rfl,g1,(hC C g0).1,(hC C g0).2,l1,h1 w H1 s1 l2⟩
   ·rw[if_neg cc] at h1
    exact h1.elim
theorem zo {a b:Expr}{ie:IE}{r:RE} (ha:PE X a (tIe X E ie)) (hb:PE X b (TEx X E r)) (hs:autoParam (YY b) qg9._auto_1):PE X (.Subscript a b pos) (tIe X E (wW ie r)):=by
 refine vO (qf9 qa3 ha hb hs) fun σ H Q ⟨Gn,κ,m,R,h⟩=>⟨Gn,κ,m,R,?_⟩
 refine qv.imp (qv.bind h) fun x h1 w H1 s1 hw=>⟨_,_,wA (R.more s1),?_⟩
 refine qv.imp (qv.more (qv.bind h1) s1) fun y h2 u H2 s2 vu=>?_
 obtain⟨dy,ky⟩:=y
 cases e:cellAt m x with
 | none=>rw[e] at h2;exact h2.elim
 | some y =>
  obtain⟨n,y⟩:=y
  obtain⟨rfl,hn⟩:=uK e
  rw[e] at h2
  cases y with
  | ins c' ns xs=>exact h2.elim
  | lst xs =>
   cases dy with
   | int z =>
    obtain⟨p,hp,rfl⟩:=hw
    have s12:=s1.trans s2
    obtain⟨vs,g1,g3⟩:=(R.more s12).mem.cel n p _ hp hn
    have eu:=vC (wA (R.more s1)) vu
    subst eu
    have h2:qv X.mg E H (jM ((ug xs.length z).bind fun j=>xs[j]?)) fun x=>∀ w H',qB H H'->ItR X.mg X.K Gn κ H' w x->Q w H':=h2
    cases hj:ug xs.length z with
    | none=>rw[hj] at h2;exact h2.elim
    | some j =>
     rw[hj] at h2
     have h2:qv X.mg E H (jM (xs[j]?)) fun x=>∀ w H',qB H H'->ItR X.mg X.K Gn κ H' w x->Q w H':=h2
     cases hx:xs[j]? with
     | none=>rw[hx] at h2;exact h2.elim
     | some y =>
      rw[hx] at h2
      obtain⟨w,l1,l2⟩:=g3.get hx
      refine⟨p,vs,z,w,rfl,rfl,SqL.of g1,?_,h2 w H2 s12 l2⟩
      unfold atI
      have hj':ixN vs.length z=some j:=by rw[g3.len];exact hj
      rw[hj']
      exact l1
   | _=>exact h2.elim
theorem uy:PA X [] (tMA X E []):=Xq xp fun σ H Q ⟨Gn,κ,m,R,h⟩=>h [] H (fun _ _ e=>e) trivial
theorem wD {e:Expr}{es:List Expr}{ie:IE}{ies:List IE} (ha:PE X e (tIe X E ie)) (hr:PA X es (tMA X E ies)) (hs:autoParam (starEach (e::es) X.env=(false,eval e X.env)::starEach es X.env) qt._auto_1):PA X (e::es) (tMA X E (ie::ies)):=by
 refine Xq (zm ha hr hs) fun σ H Q ⟨Gn,κ,m,R,h⟩=>⟨Gn,κ,m,R,?_⟩
 refine qv.imp (qv.bind h) fun x h1 v H1 s1 r1=>⟨Gn,κ,m,R.more s1,?_⟩
 refine qv.imp (qv.more (qv.bind h1) s1) fun xs h2 vs H2 s2 r2=>?_
 exact h2 (v::vs) H2 (s1.trans s2) ⟨r1.ext (Ext.same s2),r2⟩
theorem ne_nil:PE X (.List [] pos) (tNe X E qcW):=by
 refine vO (Y8 xp) fun σ H Q ⟨Gn,κ,m,R,h⟩=>?_
 exact⟨Nat.zero_le _,fun p hp=>h p [] _ hp (wk hp) qV trivial⟩
end
section
variable {X:Cx}{E:XK}{pos:Pos}
theorem qaS:PSs X [] (TMx X E Uj):=Qn qaO fun D σ H ⟨Gn,κ,m,R,h⟩=>h κ σ H R Ext.refl
theorem qeM {a b:RM}{D:Ends}{σ:St}{H:Hp} (h:TMx X E (wI a b) D σ H):TMx X E a {D with nx:=TMx X E b D} σ H:=by
 obtain⟨Gn,κ,m,R,h⟩:=h
 refine⟨Gn,κ,m,R,?_⟩
 unfold wI z7.andThen at h
 cases ha:a m with
 | nx m1 =>
  rw[ha] at h
  exact fun κ1 σ1 H1 R1 f1=>⟨Gn,κ1,m1,R1,vX.later h f1⟩
 | bk m1=>rw[ha] at h;exact h
 | ct m1=>rw[ha] at h;exact h
 | rt x μ=>rw[ha] at h;exact h
 | er c=>rw[ha] at h;exact h
 | no=>rw[ha] at h;exact h
theorem qH {st:Stmt}{rest:List Stmt}{a b:RM} (h1:PS X st (TMx X E a)) (h2:PSs X rest (TMx X E b)):PSs X (st::rest) (TMx X E (wI a b)):=Qn (W0 h1 h2) fun _ _ _ h=>qeM h
theorem v9 {st:Stmt}{a:RM} (h1:PS X st (TMx X E a)):PSs X [st] (TMx X E a):=jz h1
theorem qe2 {i:Nat}{e:IE}{D:Ends}{σ:St}{H:Hp} (h:TMx X E (yJ i e) D σ H):J4 (tIe X E e) (zP i) D σ H:=by
 obtain⟨Gn,κ,m,R,h⟩:=h
 refine⟨Gn,κ,m,R,vX.do_ h fun x _ h1 w H' s hw=>?_⟩
 exact h1 κ _ H' ((R.more s).qeU hw) (Ext.same s)
theorem xl (i:Nat) {x:Str}{e:Expr}{ie:IE}{pos':Pos} (g:Gd X E) (he:PE X e (tIe X E ie)) (hi:autoParam (X.N[i]?=some x) qt._auto_1) (hx:autoParam (Loc X.env.scope x) WV._auto_1) (hs:autoParam (swapsWith e (some (.Name x pos')) pos.line X.env=pure false) qt._auto_1)
  (hf:autoParam (X.fn x=true\/X.env.scope.names.lookup x=some .local) Zl._auto_1):PS X (.Assign [.Name x pos'] e pos) (TMx X E (yJ i ie)):=vx (Zm g.nd hi hx he hs hf) fun _ _ _ h=>qe2 h
theorem qfl {i:Nat}{e:NE}{D:Ends}{σ:St}{H:Hp} (h:TMx X E (qfh i e) D σ H):J4 (tNe X E e) (zP i) D σ H:=by
 obtain⟨Gn,κ,m,R,h⟩:=h
 refine⟨Gn,κ,m,R,vX.do_ h fun xs _ h1 p vs H' hp s hv hi=>?_⟩
 obtain⟨M,ex⟩:=R.mem.new (x:=.lst xs) s hp ⟨vs,hv,hi⟩
 refine h1 (κ++[p]) _ H' ((R.after ex M).qeU (m:=⟨m.s,m.μ++[.lst xs]⟩) (x:=.c m.μ.length) ⟨p,?_,rfl⟩) ex
 rw[<- R.mem.len,List.getElem?_append_right (Nat.le_refl _),Nat.sub_self]
 rfl
theorem qgE (i:Nat) {x:Str}{e:Expr}{ie:NE}{pos':Pos} (g:Gd X E) (he:PE X e (tNe X E ie)) (hi:autoParam (X.N[i]?=some x) qt._auto_1) (hx:autoParam (Loc X.env.scope x) WV._auto_1) (hs:autoParam (swapsWith e (some (.Name x pos')) pos.line X.env=pure false) qt._auto_1)
  (hf:autoParam (X.fn x=true\/X.env.scope.names.lookup x=some .local) Zl._auto_1):PS X (.Assign [.Name x pos'] e pos) (TMx X E (qfh i ie)):=vx (Zm g.nd hi hx he hs hf) fun _ _ _ h=>qfl h
theorem qe1 {e:Expr}{r:RE} (he:PE X e (TEx X E r)) (hs:autoParam (swapsWith e none pos.line X.env=pure false) qt._auto_1):PS X (.Expr e pos) (TMx X E (Yr r)):=by
 refine vx (V8 he hs) fun D σ H ⟨Gn,κ,m,R,h⟩=>⟨_,_,wA R,?_⟩
 exact vX.do_ h fun y _ h1 w H' s _=>h1 κ σ H' (R.more s) (Ext.same s)
theorem zR {st:Stmt}{ec ev:IE}{ri:RE} (h:PS X st (J4 (tIe X E ev) (qhS (tIe X E ec) (TEx X E ri) qf4))):PS X st (TMx X E (zK ec ri ev)):=by
 refine vx h fun D σ H ⟨Gn,κ,m,R,h⟩=>⟨Gn,κ,m,R,vX.do_ h fun x _ h1 w H1 s1 hw=>⟨Gn,κ,m,R.more s1,?_⟩⟩
 refine qv.more (vX.do_ h1 fun y _ h2 w2 H2 s2 hw2=>⟨_,_,wA ((R.more s1).more s2),?_⟩) s1
 have s12:=s1.trans s2
 refine qv.more (vX.do_ h2 fun z _ h3 u H3 s3 vu=>?_) s12
 obtain⟨dz,kz⟩:=z
 cases e:cellAt m y with
 | none=>rw[e] at h3;exact h3.elim
 | some q =>
  obtain⟨n,q⟩:=q
  obtain⟨rfl,hn⟩:=uK e
  rw[e] at h3
  cases q with
  | ins c' ns xs=>exact h3.elim
  | lst xs =>
   cases dz with
   | int z =>
    obtain⟨p,hp,rfl⟩:=hw2
    have s13:=s12.trans s3
    have R3:=R.more s13
    obtain⟨vs,g1,g3⟩:=R3.mem.cel n p _ hp hn
    have eu:=vC (wA ((R.more s1).more s2)) vu
    subst eu
    have h3:vX X.mg X.K E Gn κ H (match ug xs.length z with | some j=>.nx ⟨m.s,m.μ.set n (.lst (xs.set j x))⟩ | none=>.no) D:=h3
    cases hj:ug xs.length z with
    | none=>rw[hj] at h3;exact h3.elim
    | some j =>
     rw[hj] at h3
     have hj':ixN vs.length z=some j:=by rw[g3.len];exact hj
     refine⟨p,vs,z,j,rfl,rfl,g1,hj',?_⟩
     have pk:p∈κ:=List.mem_of_getElem? hp
     have ex:Ext κ H3 κ (upd H3 p (.lst (vs.set j w))):=Ext.upd pk
     have hw3:ItR X.mg X.K Gn κ (upd H3 p (.lst (vs.set j w))) w x:=ItR.ext ((Ext.same (s2.trans s3)).trans ex) hw
     obtain⟨M,_⟩:=R3.mem.mut (x:=.lst (xs.set j x)) (o:=.lst (vs.set j w)) hp ⟨_,qV,(g3.ext ex).set hw3 j⟩
     exact h3 κ σ _ (R3.after ex M) ((Ext.same s13).trans ex)
   | _=>exact h3.elim
theorem QS {c f:Str}{Gn:Addr->Prop}{κ:List Addr}{H:Hp}{σ:St}{s:List (Option Itm)}{μ:List Cell}{D:Ends} (hC:∀ C,X.mg c=some (.ref C)->Cls X.K C/\qN X.K C f) (R2:MR X.mg X.K Gn κ H σ ⟨s,μ⟩) {n:Nat}{c':Str}{ns:List Str}{xs:List Itm}{w w2:V}{x:Itm} (hn:μ[n]?=some (.ins c' ns xs)) (hw2:ItR X.mg X.K Gn κ H w2 (.c n)) (hw:ItR X.mg X.K Gn κ H w x)
  (h5:vX X.mg X.K E Gn κ H (if c'=c/\ns.length<1000/\ns.length=xs.length then .nx ⟨s,μ.set n (.ins c' (x6 f x ns xs).1 (x6 f x ns xs).2)⟩ else .no) D) :
  ∃ a C dx fs,w2 = .ref a/\H a=some (.ins C dx fs)/\Cls X.K C/\qN X.K C f/\fs.length<1000/\D.nx σ (upd H a (.ins C dx (xX f w fs))):=by
 by_cases cc:c'=c/\ns.length<1000/\ns.length=xs.length
 ·rw[if_pos cc] at h5
  obtain⟨rfl,hl,_⟩:=cc
  obtain⟨p,hp,rfl⟩:=hw2
  obtain⟨C,dx,vs,g0,g1,g2,g3⟩:=R2.mem.cel n p _ hp hn
  refine⟨p,C,dx,_,rfl,g1,(hC C g0).1,(hC C g0).2,by rw[List.length_zip];lia,?_⟩
  have ex:Ext κ H κ (upd H p (.ins C dx (xX f w (ns.zip vs)))):=Ext.upd (List.mem_of_getElem? hp)
  obtain⟨vs',q1,q2,q3⟩:=qaV (f:=f) (ItR.ext ex hw) g2 (g3.ext ex)
  obtain⟨M,_⟩:=R2.mem.mut (x:=.ins c' (x6 f x ns xs).1 (x6 f x ns xs).2) (o:=.ins C dx (xX f w (ns.zip vs))) hp ⟨C,dx,vs',g0,by rw[qV,q1],q2,q3⟩
  exact h5 κ σ _ (R2.after ex M) ex
 ·rw[if_neg cc] at h5
  exact h5.elim
theorem Qa {c f:Str}{o value:Expr}{ec ev:IE}{pos':Pos} (hC:∀ C,X.mg c=some (.ref C)->Cls X.K C/\qN X.K C f) (ha:PE X o (tIe X E ec)) (hv:PE X value (tIe X E ev)) (hs:autoParam (swapsWith value (some (.Attribute o f pos')) pos.line X.env=pure false) qt._auto_1) :
  PS X (.Assign [.Attribute o f pos'] value pos) (TMx X E (xP c f ec ev)):=by
 refine vx (JN ha hv hs) fun D σ H ⟨Gn,κ,m,R,h⟩=>⟨Gn,κ,m,R,vX.do_ h fun x _ h1 w H1 s1 hw=>⟨Gn,κ,m,R.more s1,?_⟩⟩
 refine qv.more (vX.do_ h1 fun y _ h2 w2 H2 s2 hw2=>?_) s1
 have s12:=s1.trans s2
 cases e:cellAt m y with
 | none=>rw[e] at h2;exact h2.elim
 | some q =>
  obtain⟨n,q⟩:=q
  obtain⟨rfl,hn⟩:=uK e
  rw[e] at h2
  cases q with
  | lst xs=>exact h2.elim
  | ins c' ns xs=>exact QS hC (R.more s12) hn hw2 (ItR.ext (Ext.same s2) hw) (vX.later h2 (Ext.same s12))
theorem qfZ {c:Expr}{a b:List Stmt}{t:RT}{ra rb:RM} (hc:PT X c (TTx X E t)) (ha:PSs X a (TMx X E ra)) (hb:PSs X b (TMx X E rb)):PS X (.If c a b pos) (TMx X E (mIf t ra rb)):=by
 refine vx (qgc hc ha hb) fun D σ H ⟨Gn,κ,m,R,h⟩=>⟨_,_,wA R,vX.do_ h fun x _ h1 H1 s1=>?_⟩
 cases x with
 | true=>exact⟨Gn,κ,m,R.more s1,vX.later h1 (Ext.same s1)⟩
 | false=>exact⟨Gn,κ,m,R.more s1,vX.later h1 (Ext.same s1)⟩
theorem qdQ {e:Expr}{ie:IE} (he:PE X e (tIe X E ie)):PS X (.Return (some e) pos) (TMx X E (qhp ie)):=by
 refine vx (jj he) fun D σ H ⟨Gn,κ,m,R,h⟩=>⟨Gn,κ,m,R,vX.do_ h fun x _ h1 w H' s hw=>?_⟩
 exact h1 w κ H' (R.more s).mem hw (Ext.same s)
end
noncomputable def qgy (X:Cx) (Gn:Addr->Prop) (κ:List Addr) (H1:Hp) (g:TG) (tg:Tg) (J:It) (xs:List DK):Prop :=
 (∀ (i:Nat) (x:DK) (κ':List Addr) (σ':St) (m' m2:MS) (H2:Hp),xs[i]?=some x->MR X.mg X.K Gn κ' H2 σ' m'->Ext κ H1 κ' H2->tg.WK x m'=some m2 ->
  J.go i H2/\∀ v H3,J.yld i H2 v H3->∀ Q:St->Hp->Prop,(∀ σ2 H4,MR X.mg X.K Gn κ' H4 σ2 m2->qB H2 H4->Q σ2 H4)->g v σ' H3 Q) /\
 ∀ (i:Nat) (κ':List Addr) (σ':St) (m':MS) (H2:Hp),xs.length <= i->MR X.mg X.K Gn κ' H2 σ' m'->Ext κ H1 κ' H2->J.stop i H2
noncomputable def tMI (X:Cx) (E:XK) (g:TG) (tg:Tg) (src:MI):TI:=fun σ H R=>∃ Gn κ m,MR X.mg X.K Gn κ H σ m/\qv X.mg E H (src m) fun xs=>∀ J H1,qB H H1->qgy X Gn κ H1 g tg J xs->R J H1
theorem jU {i:Nat}{x:DK}{y:Itm}{s:List (Option Itm)} (h:vJ x=some y):put i x (s.map xh)=some ((s.set i (some y)).map xh):=by
 obtain⟨d,k⟩:=x
 unfold vJ at h
 dsimp only at h
 rw[List.map_set]
 by_cases c:d.sc=true
 ·rw[if_pos c] at h
  cases h
  cases k with
  | bo=>exact if_pos c
  | sh=>show some ((s.map xh).set i (uo (d,if d.sc=true then .nw else .sh)))=_;rw[if_pos c];rfl
  | nw=>show some ((s.map xh).set i (uo (d,if d.sc=true then .nw else .nw)))=_;rw[if_pos c];rfl
  | fr=>show some ((s.map xh).set i (uo (d,if d.sc=true then .nw else .fr)))=_;rw[if_pos c];rfl
 ·rw[if_neg c] at h
  cases k with
  | bo=>cases h
  | sh=>cases h;show some ((s.map xh).set i (uo (d,if d.sc=true then .nw else .sh)))=_;rw[if_neg c];rfl
  | nw=>cases h;show some ((s.map xh).set i (uo (d,if d.sc=true then .nw else .nw)))=_;rw[if_neg c];rfl
  | fr=>cases h;show some ((s.map xh).set i (uo (d,if d.sc=true then .nw else .fr)))=_;rw[if_neg c];rfl
theorem qbJ {tg:Tg}{x:DK}{m m2:MS} (h:tg.WK x m=some m2):tg.put x (vY m)=some (vY m2):=by
 cases tg with
 | one i =>
  have h:(vJ x).map (fun y=>(⟨m.s.set i (some y),m.μ⟩:MS))=some m2:=h
  cases e:vJ x with
  | none=>rw[e] at h;cases h
  | some y=>rw[e] at h;cases h;exact jU e
 | two i j =>
  obtain⟨d,k⟩:=x
  match d,h with
  | .tup [a,b],h =>
   have h:(vJ (a,k)).bind (fun y=>(vJ (b,k)).map fun z=>(⟨(m.s.set i (some y)).set j (some z),m.μ⟩:MS))=some m2:=h
   cases e:vJ (a,k) with
   | none=>rw[e] at h;cases h
   | some y =>
    cases e2:vJ (b,k) with
    | none=>rw[e,e2] at h;cases h
    | some z =>
     rw[e,e2] at h
     cases h
     show (put i (a,k) (m.s.map xh)).bind (put j (b,k))=_
     rw[jU e]
     exact jU e2
theorem W6 {x:DK}{n:Nat} (h:vJ x=some (.c n)):False:=by
 obtain⟨d,k⟩:=x
 unfold vJ at h
 dsimp only at h
 by_cases c:d.sc=true
 ·rw[if_pos c] at h;cases h
 ·rw[if_neg c] at h
  cases k <;> cases h
theorem W9 {s:List (Option Itm)}{i l n:Nat}{y:Itm} (h:(s.set i (some y))[l]?=some (some (.c n))) (hy:∀ n,y ≠ .c n):i≠l/\s[l]?=some (some (.c n)):=by
 by_cases c:i=l
 ·subst c
  by_cases hi:i<s.length
  ·rw[List.getElem?_set_self hi] at h
   exact absurd (Option.some.inj (Option.some.inj h)) (hy n)
  ·rw[List.getElem?_eq_none (by rw[List.length_set];lia)] at h
   cases h
 ·rw[List.getElem?_set_ne c] at h
  exact⟨c,h⟩
theorem qbK {tg:Tg}{x:DK}{m m2:MS}{l n:Nat}{σ σ2:St} (h:tg.WK x m=some m2) (st:tg.sets σ σ2) (e:m2.s[l]?=some (some (.c n))):m.s[l]?=some (some (.c n))/\σ2[l]?=σ[l]?:=by
 cases tg with
 | one i =>
  have h:(vJ x).map (fun y=>(⟨m.s.set i (some y),m.μ⟩:MS))=some m2:=h
  cases q:vJ x with
  | none=>rw[q] at h;cases h
  | some y =>
   rw[q] at h
   cases h
   obtain⟨c,r⟩:=W9 e (fun n z=>by rw[z] at q;exact W6 q)
   obtain⟨v,rfl⟩:=st
   exact⟨r,List.getElem?_set_ne c⟩
 | two i j =>
  obtain⟨d,k⟩:=x
  match d,h with
  | .tup [a,b],h =>
   have h:(vJ (a,k)).bind (fun y=>(vJ (b,k)).map fun z=>(⟨(m.s.set i (some y)).set j (some z),m.μ⟩:MS))=some m2:=h
   cases q:vJ (a,k) with
   | none=>rw[q] at h;cases h
   | some y =>
    cases q2:vJ (b,k) with
    | none=>rw[q,q2] at h;cases h
    | some z =>
     rw[q,q2] at h
     cases h
     obtain⟨c2,r2⟩:=W9 e (fun n w=>by rw[w] at q2;exact W6 q2)
     obtain⟨c1,r1⟩:=W9 r2 (fun n w=>by rw[w] at q;exact W6 q)
     obtain⟨v,w,rfl⟩:=st
     exact⟨r1,by rw[List.getElem?_set_ne c2,List.getElem?_set_ne c1]⟩
theorem qeq {tg:Tg}{x:DK}{m m2:MS} (h:tg.WK x m=some m2):m2.μ=m.μ:=by
 cases tg with
 | one i =>
  have h:(vJ x).map (fun y=>(⟨m.s.set i (some y),m.μ⟩:MS))=some m2:=h
  cases q:vJ x with
  | none=>rw[q] at h;cases h
  | some y=>rw[q] at h;cases h;rfl
 | two i j =>
  obtain⟨d,k⟩:=x
  match d,h with
  | .tup [a,b],h =>
   have h:(vJ (a,k)).bind (fun y=>(vJ (b,k)).map fun z=>(⟨(m.s.set i (some y)).set j (some z),m.μ⟩:MS))=some m2:=h
   cases q:vJ (a,k) with
   | none=>rw[q] at h;cases h
   | some y =>
    cases q2:vJ (b,k) with
    | none=>rw[q,q2] at h;cases h
    | some z=>rw[q,q2] at h;cases h;rfl
theorem qcJ {mg:Str->Option Value}{K:PySem.W.Frag}{Gn:Addr->Prop}{κ κ':List Addr}{H H2 H4:Hp}{σ' σ2:St}{m' m2:MS}{tg:Tg}{x:DK} (hg:∀ a,H a=none->Gn a) (e:Ext κ H κ' H2) (R':MR mg K Gn κ' H2 σ' m') (s:qB H2 H4) (R4:Rl mg K (B1 Gn κ H κ') H4 σ2 (vY m2)) (st:tg.sets σ' σ2) (hp:tg.WK x m'=some m2):MR mg K Gn κ' H4 σ2 m2:=by
 refine⟨by rw[qeq hp];exact R'.mem.more s,?_,fun l y q=>?_⟩
 ·have:=R4.len
  unfold vY at this
  rw[List.length_map] at this
  exact this
 ·cases y with
  | c n =>
   obtain⟨q1,q2⟩:=qbK hp st q
   rw[q2]
   obtain⟨w,g1,g2⟩:=R'.sl l _ q1
   exact⟨w,g1,g2.ext (Ext.same s)⟩
  | v d k =>
   obtain⟨w,g1,g2⟩:=R4.val l d k (by unfold vY;rw[List.getElem?_map,q];rfl)
   refine⟨w,g1,Rp.weak g2 fun a g=>?_⟩
   have n:a∉κ':=fun z=>g.1 (.inl z)
   refine⟨n,fun z=>UP hg (g.2 z) fun y=>n ?_⟩
   obtain⟨i,hi,w⟩:=List.mem_iff_getElem.mp y
   exact List.mem_of_getElem? (e.pre i a (by rw[List.getElem?_eq_getElem hi,w]))
section
variable {X:Cx}{E:XK}{pos:Pos}
theorem qh8 {tgE iter:Expr}{g:TG}{tg:Tg}{src:RI} (h:PI X tgE iter (tI X E g tg src)):PI X tgE iter (tMI X E g tg (qgo src)):=by
 refine uE h fun σ H R ⟨Gn,κ,m,R0,h⟩=>⟨_,_,xi Ext.refl R0,?_⟩
 refine qv.imp (qv.bind h) fun x h1 J H1 s1 W=>?_
 obtain⟨fl,xs⟩:=x
 cases fl with
 | false=>exact h1.elim
 | true =>
  refine h1 J H1 s1 ⟨fun i x κ' σ' m' m2 H2 hx R' e hp=>?_,fun i κ' σ' m' H2 hi R' e=>?_⟩
  ·have e0:Ext κ H κ' H2:=(Ext.same s1).trans e
   have kp:Kp true (B1 Gn κ H κ) (B1 Gn κ H κ') σ (vY m) H1 σ' (vY m') H2:=⟨rfl,fun b o q n=>⟨e.keep b o q fun z=>n (.inl z),fun z=>by
    rcases e.old b (qay z) with y | y
    ·exact n (.inl y)
    ·rw[q] at y;cases y⟩,fun z=>nomatch z⟩
   obtain⟨go,yl⟩:=W.1 (B1 Gn κ H κ') i x σ' (vY m') (vY m2) H2 hx (xi e0 R') kp (qbJ hp)
   refine⟨go,fun v H3 hy Q hQ=>yl v H3 hy Q fun σ2 H4 R4 _ s4 st4=>hQ σ2 H4 (qcJ R0.mem.gl e0 R' s4 R4 st4 hp) s4⟩
  ·have e0:Ext κ H κ' H2:=(Ext.same s1).trans e
   have kp:Kp true (B1 Gn κ H κ) (B1 Gn κ H κ') σ (vY m) H1 σ' (vY m') H2:=⟨rfl,fun b o q n=>⟨e.keep b o q fun z=>n (.inl z),fun z=>by
    rcases e.old b (qay z) with y | y
    ·exact n (.inl y)
    ·rw[q] at y;cases y⟩,fun z=>nomatch z⟩
   exact W.2 (B1 Gn κ H κ') i σ' (vY m') H2 hi (xi e0 R') kp
theorem Q2 {tgE iter:Expr}{body:List Stmt}{g:TG}{tg:Tg}{src:MI}{rb:RM} (G:Gd X E) (hi:PI X tgE iter (tMI X E g tg src)) (hg:PG X tgE g) (hb:PSs X body (TMx X E rb)) (hs:autoParam (∀ x,foldedSetIterable iter X.env x=pure x) uQ._auto_1) :
  PS X (.For tgE iter body [] pos) (TMx X E (ZV tg src rb)):=by
 refine vx (qc4 G.own G.calm hi hg hb hs) fun D σ H ⟨Gn,κ,m,R,h⟩=>⟨Gn,κ,m,R,vX.do_ h fun xs _ h0 J H1 s1 W=>?_⟩
 have h1:=vX.later h0 (Ext.same s1)
 refine⟨fun i k σ' H'=>k=xs.length-i/\i <= xs.length/\∃ κ' m',MR X.mg X.K Gn κ' H' σ' m'/\Ext κ H1 κ' H'/\vX X.mg X.K E Gn κ' H' (zM tg rb (xs.drop i) m') D,⟨xs.length,by lia,Nat.zero_le _,κ,m,R.more s1,Ext.refl,h1⟩,?_⟩
 rintro i k σ' H' ⟨rfl,hi,κ',m',R',f',h'⟩
 by_cases hlt:i<xs.length
 ·right
  have hx:xs[i]?=some xs[i]:=List.getElem?_eq_getElem hlt
  rw[List.drop_eq_getElem_cons hlt] at h'
  unfold zM at h'
  cases hp:tg.WK xs[i] m' with
  | none=>rw[hp] at h';exact h'.elim
  | some m2 =>
   rw[hp] at h'
   obtain⟨go,yl⟩:=W.1 i xs[i] κ' σ' m' m2 H' hx R' f' hp
   refine⟨go,fun σ2 H2=>i+1 <= xs.length/\∃ κ2 m3,MR X.mg X.K Gn κ2 H2 σ2 m3/\Ext κ H1 κ2 H2/\vX X.mg X.K E Gn κ2 H2 (zM tg rb (xs.drop (i+1)) m3) D,fun σ2 H2 ⟨q1,κ2,m3,q2,q3,q4⟩=>⟨xs.length-(i+1),by lia,rfl,q1,κ2,m3,q2,q3,q4⟩,fun v H3 hy=>?_⟩
   refine yl v H3 hy _ fun σ2 H4 R2 s4=>⟨Gn,κ',m2,R2,?_⟩
   have f4:=f'.trans (Ext.same s4)
   dsimp only at h'
   cases hb:rb m2 with
   | nx m3=>rw[hb] at h';exact fun κ3 σ3 H5 R3 f3=>⟨hlt,κ3,m3,R3,f4.trans f3,vX.later h' ((Ext.same s4).trans f3)⟩
   | ct m3=>rw[hb] at h';exact fun κ3 σ3 H5 R3 f3=>⟨hlt,κ3,m3,R3,f4.trans f3,vX.later h' ((Ext.same s4).trans f3)⟩
   | bk m3=>rw[hb] at h';exact fun κ3 σ3 H5 R3 f3=>h' κ3 σ3 H5 R3 ((Ext.same s4).trans f3)
   | rt x μ=>rw[hb] at h';exact vX.later (o:=.rt x μ) h' (Ext.same s4)
   | er c=>rw[hb] at h';exact vX.later (o:=.er c) h' (Ext.same s4)
   | no=>rw[hb] at h';exact h'
 ·left
  have e:i=xs.length:=by lia
  subst e
  rw[List.drop_length] at h'
  exact⟨W.2 _ κ' σ' m' H' (Nat.le_refl _) R' f',h' κ' σ' H' R' Ext.refl⟩
theorem qbt {i:Nat}{z:Int}{κ':List Addr}{σ':St}{m' m2:MS}{H2:Hp}{Gn:Addr->Prop} (R':MR X.mg X.K Gn κ' H2 σ' m') (hp:(Tg.one i).WK (.int z,.nw) m'=some m2):MR X.mg X.K Gn κ' H2 (σ'.set i (some (.int z))) m2:=by
 have hp:(some ⟨m'.s.set i (some (.v (.int z) true)),m'.μ⟩:Option MS)=some m2:=hp
 cases hp
 exact R'.qeU (Rp.int z)
theorem jq {i:Nat}{tgE a:Expr}{r:RE}{p:Pos} (hg:Gl X "range") (hm:X.mg "range"=none) (ha:PE X a (TEx X E r)) (hs:autoParam (starEach [a] X.env=[(false,eval a X.env)]) qt._auto_1):PI X tgE (.Call (.Name "range" p) [a] [] pos) (tMI X E (zP i) (.one i) (wt (v8 r))):=by
 refine uE (YH hg hm (zm ha xp hs) hs) fun σ H R ⟨Gn,κ,m,R0,h⟩=>⟨_,_,wA R0,?_⟩
 refine qv.imp (qv.bind (qv.bind h)) fun x h1 v H1 s1 vr=>?_
 obtain⟨d,k⟩:=x
 obtain⟨z,e,g9⟩:=qh3 h1
 clear h1
 subst e
 by_cases c : -1000000<z/\z<1000000
 ·rw[if_pos c] at g9
  have ev:=vC (wA R0) vr
  subst ev
  refine⟨z,rfl,by lia,by lia,g9 _ H1 s1 ⟨fun n x κ' σ' m' m2 H2 hx R' f hp=>?_,fun n κ' σ' m' H2 hn R' f=>(show z.toNat <= n by rw[List.length_map,List.length_range] at hn;exact hn)⟩⟩
  rw[List.getElem?_map] at hx
  cases hd:(List.range z.toNat)[n]? with
  | none=>rw[hd] at hx;cases hx
  | some l =>
   rw[hd] at hx
   cases hx
   obtain⟨hlt,e⟩:=List.getElem?_eq_some_iff.mp hd
   rw[List.length_range] at hlt
   rw[List.getElem_range] at e
   subst e
   refine⟨hlt,fun u H3 hy Q hQ=>?_⟩
   obtain⟨rfl,rfl⟩:=hy
   refine hQ _ _ ?_ fun _ _ e=>e
   rw[Int.zero_add]
   exact qbt R' hp
 ·rw[if_neg c] at g9
  exact g9.elim
theorem qb0 {i:Nat}{tgE a b:Expr}{r q:RE}{p:Pos} (hg:Gl X "range") (hm:X.mg "range"=none) (ha:PE X a (TEx X E r)) (hb:PE X b (TEx X E q)) (hs:autoParam (starEach [a,b] X.env=[(false,eval a X.env),(false,eval b X.env)]) qt._auto_1) (hs2:autoParam (starEach [b] X.env=[(false,eval b X.env)]) qt._auto_1) :
  PI X tgE (.Call (.Name "range" p) [a,b] [] pos) (tMI X E (zP i) (.one i) (wt (jo r q))):=by
 refine uE (qbZ hg hm (zm ha (zm hb xp hs2) (by rw[hs,hs2])) hs hs2) fun σ H R ⟨Gn,κ,m,R0,h⟩=>⟨_,_,wA R0,?_⟩
 refine qv.imp (qv.bind (qv.bind h)) fun x h1 v H1 s1 vr=>⟨_,_,wA (R0.more s1),?_⟩
 refine qv.imp (qv.more (qv.bind h1) s1) fun y h2 w H2 s2 vw=>?_
 obtain⟨d,k⟩:=x
 obtain⟨d',k'⟩:=y
 obtain⟨z,y,e,e2,g9⟩:=qio h2
 clear h2
 subst e e2
 by_cases c:(-1000000<z/\z<1000000) /\ -1000000<y/\y<1000000
 ·rw[if_pos c] at g9
  have ev:=vC (wA R0) vr
  subst ev
  have ew:=vC (wA (R0.more s1)) vw
  subst ew
  refine⟨z,y,rfl,by lia,g9 _ H2 (s1.trans s2) ⟨fun n x κ' σ' m' m2 H2 hx R' f hp=>?_,fun n κ' σ' m' H2 hn R' f=>(show (y-z).toNat <= n by rw[List.length_map,List.length_range] at hn;exact hn)⟩⟩
  rw[List.getElem?_map] at hx
  cases hd:(List.range (y-z).toNat)[n]? with
  | none=>rw[hd] at hx;cases hx
  | some l =>
   rw[hd] at hx
   cases hx
   obtain⟨hlt,e⟩:=List.getElem?_eq_some_iff.mp hd
   rw[List.length_range] at hlt
   rw[List.getElem_range] at e
   subst e
   refine⟨hlt,fun u H3 hy Q hQ=>?_⟩
   obtain⟨rfl,rfl⟩:=hy
   exact hQ _ _ (qbt R' hp) fun _ _ e=>e
 ·rw[if_neg c] at g9
  exact g9.elim
end
noncomputable def qd7 (mg:Str->Option Value) (K:PySem.W.Frag) (E:XK) (Gn:Addr->Prop) (κ:List Addr) (H:Hp) (o:qbO) (Q:VK):Prop:=match o with
 | .ok x μ=>∀ w κ' H',Mem mg K Gn κ' H' μ->ItR mg K Gn κ' H' w x->Ext κ H κ' H'->Q w H'
 | .er c=>∀ C H',mg c=some (.ref C)->(∀ a o,H a=some o->a∉κ->H' a=some o)->E (.ref C) none H'
 | .no=>False
noncomputable def spM (mg:Str->Option Value) (K:PySem.W.Frag) (n:Nat) (g:Fm):Sp:=fun vs H Q E=>∃ Gn κ μ xs,xs.length=n/\Mem mg K Gn κ H μ/\Its mg K Gn κ H vs xs/\qd7 mg K E Gn κ H (g xs μ) Q
noncomputable def FdM (P:Program) (w:World) (K:PySem.W.Frag) (mg:Str->Option Value) (base:Heap) (k:Nat) (x:Str) (n:Nat) (g:Fm):Prop :=
 ∃ (f:Addr) (fd:FuncData) (ps:List Str),uk P w K mg base (CX1 P w) k f fd ps (spM mg K n g)/\mg x=some (.ref f)/\PySem.W.keepIn K (.ref f)=true/\Binds K fd ps []
noncomputable def FdI (P:Program) (w:World) (K:PySem.W.Frag) (mg:Str->Option Value) (base:Heap) (k:Nat) (c:Str) (n:Nat) (g:Fm):Prop :=
 ∃ (C f:Addr) (fd:FuncData) (ps:List Str),Mk K C f/\uk P w K mg base (CX1 P w) k f fd ps (spM mg K n g)/\mg c=some (.ref C)/\Binds K fd ps []
theorem mr0 {mg:Str->Option Value}{K:PySem.W.Frag}{Gn:Addr->Prop}{κ:List Addr}{H:Hp}{N:List Str}{vs:List V}{xs:List Itm}{μ:List Cell} (M:Mem mg K Gn κ H μ) (r:Its mg K Gn κ H vs xs):MR mg K Gn κ H (start N vs) ⟨ms0 N xs,μ⟩:=by
 refine⟨M,?_,fun i x e=>?_⟩
 ·unfold start ms0
  rw[List.length_append,List.length_append,List.length_map,List.length_map,List.length_replicate,List.length_replicate,r.len]
 ·have e:(ms0 N xs)[i]?=some (some x):=e
  unfold ms0 at e
  by_cases h:i<xs.length
  ·rw[List.getElem?_append_left (by rw[List.length_map];exact h),List.getElem?_map,List.getElem?_eq_getElem h] at e
   have e2:xs[i]?=some x:=by rw[List.getElem?_eq_getElem h];exact Option.some.inj e
   obtain⟨w,h1,h2⟩:=r.get e2
   refine⟨w,?_,h2⟩
   have hl:i<vs.length:=(List.getElem?_eq_some_iff.mp h1).1
   unfold start
   rw[List.getElem?_append_left (by rw[List.length_map];exact hl),List.getElem?_map,h1]
   rfl
  ·rw[List.getElem?_append_right (by rw[List.length_map];lia)] at e
   have:=(List.mem_replicate.mp (List.mem_of_getElem? e)).2
   cases this
section
variable {P:Program}{w:World}{K:PySem.W.Frag}{mg:Str->Option Value}{base:Heap}
theorem JZ {x q:Str}{st:Stmt}{f:Addr}{fd:FuncData}{N ps:List Str}{k n:Nat}{r:RM} (F:Fun K x q st f fd) (S:qp N ps (qg st)) (hn:ps.length=n)
  (body:∀ (cdv:Value) (A:Around) (outer:List Env) (s:Shared) (H:Hp) (E:XK),zi k (A.deeper (envOfC q (qg st) s.heap.objs.size f cdv)) ->
   PSs (j6 P w K mg base N q (qg st) f cdv A outer s H E) (vT st) (tM mg K E r)):uk P w K mg base (CX1 P w) (k+1) f fd ps (spM mg K n fun xs μ=>yj (r ⟨ms0 N xs,μ⟩)):=by
 obtain⟨oc,od,kV,doc,pm,an,cdv,ct,osl,rfl,lk,hcd⟩:=F.ex
 refine qa7 lk hcd S ?_ fun A outer s H vs Q E hroom hsp=>?_
 ·rintro vs H Q E ⟨Gn,κ,μ,xs,hl,_,rp,_⟩
  rw[rp.len,hl,hn]
 ·obtain⟨Gn,κ,μ,xs,hl,M,rp,h⟩:=hsp
  refine⟨_,ZF (body cdv A outer s H E hroom) XF,Gn,κ,⟨ms0 N xs,μ⟩,mr0 M rp,?_⟩
  have h:qd7 mg K E Gn κ H (yj (r ⟨ms0 N xs,μ⟩)) Q:=h
  cases ho:r ⟨ms0 N xs,μ⟩ with
  | rt x μ'=>rw[ho] at h;exact fun w κ' H' M' r' e=>h w κ' H' M' r' e
  | nx m'=>rw[ho] at h;exact fun κ' σ' H' R e=>h .non κ' H' R.mem Rp.non e
  | er c=>rw[ho] at h;exact fun C H' e s=>h C H' e s
  | bk m'=>rw[ho] at h;exact h.elim
  | ct m'=>rw[ho] at h;exact h.elim
  | no=>rw[ho] at h;exact h.elim
theorem qgO {x:Str}{st:Stmt}{f:Addr}{fd:FuncData}{N ps:List Str}{k n:Nat}{r:RM}{g:Fm} (F:Fun K x x st f fd) (S:qp N ps (qg st)) (hm:mg x=some (.ref f)) (hb:Binds K fd ps []) (hn:ps.length=n)
  (body:∀ (cdv:Value) (A:Around) (outer:List Env) (s:Shared) (H:Hp) (E:XK),zi k (A.deeper (envOfC x (qg st) s.heap.objs.size f cdv)) ->
   PSs (j6 P w K mg base N x (qg st) f cdv A outer s H E) (vT st) (tM mg K E r)) (hg:∀ xs μ,g xs μ=yj (r ⟨ms0 N xs,μ⟩)):FdM P w K mg base (k+1) x n g:=by
 have e:g=fun xs μ=>yj (r ⟨ms0 N xs,μ⟩):=by funext xs μ;exact hg xs μ
 rw[e]
 exact⟨f,fd,ps,JZ F S hn body,hm,F.kp,hb⟩
end
theorem Xz {mg:Str->Option Value}{K:PySem.W.Frag}{Gn:Addr->Prop}{κ:List Addr}{H:Hp}{μ:List Cell} (M:Mem mg K Gn κ H μ) (hk:∀ p∈κ,Gn p):∀ (f:Nat) (w:V) (x:Itm) (d:D),yY μ f x=some d->ItR mg K Gn κ H w x->Rp mg K Gn H w d
 | f,w,.v d k,d',e,h=>by
  have e:(if d.sc=true\/k=true then some d else none)=some d':=by cases f <;> exact e
  by_cases c:d.sc=true\/k=true
  ·rw[if_pos c] at e
   cases e
   rcases c with c | c
   ·rw[Rp.sc h c]
    exact Rp.zt c
   ·exact Rp.weak h fun a g=>g.2 c
  ·rw[if_neg c] at e
   cases e
 | 0,w,.c n,d,e,h=>by cases e
 | f+1,w,.c n,d,e,h=>by
  obtain⟨p,hp,rfl⟩:=h
  have gp:Gn p:=hk p (List.mem_of_getElem? hp)
  unfold yY at e
  cases hn:μ[n]? with
  | none=>rw[hn] at e;cases e
  | some y =>
   rw[hn] at e
   have q:=M.cel n p y hp hn
   cases y with
   | lst xs =>
    obtain⟨vs,q1,q2⟩:=q
    cases hm:xs.mapM (yY μ f) with
    | none=>dsimp only at e;rw[hm] at e;cases e
    | some ds =>
     dsimp only at e
     rw[hm] at e
     cases e
     exact .lst gp (.of q1) (um (fun w x d e h=>Xz M hk f w x d e h) q2 hm)
   | ins c ns xs =>
    obtain⟨C,dx,vs,q0,q1,ql,q2⟩:=q
    cases hm:xs.mapM (yY μ f) with
    | none=>dsimp only at e;rw[hm] at e;cases e
    | some ds =>
     dsimp only at e
     rw[hm] at e
     cases e
     exact .obj gp q0 q1 ql (um (fun w x d e h=>Xz M hk f w x d e h) q2 hm)
section
variable {P:Program}{w:World}{K:PySem.W.Frag}{mg:Str->Option Value}{base:Heap}
theorem qgz {x:Str}{st:Stmt}{f:Addr}{fd:FuncData}{N ps:List Str}{k n:Nat}{r:RM}{g:Fn} (F:Fun K x x st f fd) (S:qp N ps (qg st)) (hm:mg x=some (.ref f)) (hb:Binds K fd ps []) (hn:ps.length=n)
  (body:∀ (cdv:Value) (A:Around) (outer:List Env) (s:Shared) (H:Hp) (E:XK),zi k (A.deeper (envOfC x (qg st) s.heap.objs.size f cdv)) ->
   PSs (j6 P w K mg base N x (qg st) f cdv A outer s H E) (vT st) (tM mg K E r)) (hg:∀ ds,g ds=Jt (r ⟨ms0 N (it0 ds),[]⟩)):Fd P w K mg base (k+1) x n g:=by
 refine⟨f,fd,ps,uk.imp (JZ F S hn body) fun vs H Q E ⟨ds,hl,rp,h⟩=>?_,hm,F.kp,hb⟩
 refine⟨fun a=>H a=none,[],[],it0 ds,by unfold it0;rw[List.length_map];exact hl,⟨List.nodup_nil,rfl,fun n p x e _=>(by simp at e),fun a e=>e⟩,?_,?_⟩
 ·exact Its.vals (rp.weak fun a _=>⟨(fun z=>by cases z),fun z=>by cases z⟩)
 rw[hg ds] at h
 show qd7 mg K E (fun a=>H a=none) [] H (yj (r ⟨ms0 N (it0 ds),[]⟩)) Q
 cases ho:r ⟨ms0 N (it0 ds),[]⟩ with
 | bk m'=>rw[ho] at h;exact h.elim
 | ct m'=>rw[ho] at h;exact h.elim
 | no=>rw[ho] at h;exact h.elim
 | er c=>rw[ho] at h;exact fun C H' e s=>h C H' e fun a o q=>s a o q (fun z=>nomatch z)
 | nx m' =>
  rw[ho] at h
  intro w κ' H' M' r' e
  have h:∀ v H',qB H H'->RR mg K H H' false v .non->Q v H':=h
  cases r' with
  | non=>exact h .non H' (fun a o q=>e.keep a o q (fun z=>nomatch z)) Rp.non
 | rt x μ' =>
  rw[ho] at h
  intro w κ' H' M' r' e
  have sm:qB H H':=fun a o q=>e.keep a o q (fun z=>nomatch z)
  have hk:∀ p∈κ',H p=none:=fun p hp=>(e.old p hp).elim (fun z=>nomatch z) id
  have h:qv mg E H (qap μ' x) fun y=>∀ v H',qB H H'->RR mg K H H' y.2 v y.1->Q v H':=h
  unfold qap at h
  cases hv:yY μ' 3 x with
  | none=>rw[hv] at h;exact h.elim
  | some d =>
   rw[hv] at h
   have rp2:=Xz (Gn:=fun a=>H a=none) M' hk 3 w x d hv r'
   cases x with
   | v d' k' =>
    have h:∀ v H',qB H H'->RR mg K H H' false v d->Q v H':=by cases d <;> exact h
    exact h w H' sm rp2
   | c n' =>
    cases d with
    | lst ds' =>
     have h:∀ v H',qB H H'->RR mg K H H' (ds'.all D.sc) v (.lst ds')->Q v H':=h
     refine h w H' sm ?_
     cases c:ds'.all D.sc with
     | false=>exact rp2
     | true =>
      obtain⟨p,hp,rfl⟩:=r'
      have e3:(match μ'[n']? with
       | some (.lst xs)=>(xs.mapM (yY μ' 2)).map D.lst
       | some (.ins c ns xs)=>(xs.mapM (yY μ' 2)).map (D.obj c ns)
       | none=>none)=some (.lst ds'):=hv
      cases hn':μ'[n']? with
      | none=>rw[hn'] at e3;cases e3
      | some y =>
       rw[hn'] at e3
       cases y with
       | ins c ns xs =>
        dsimp only at e3
        cases hm':xs.mapM (yY μ' 2) with
        | none=>rw[hm'] at e3;cases e3
        | some es=>rw[hm'] at e3;cases e3
       | lst xs =>
        dsimp only at e3
        cases hm':xs.mapM (yY μ' 2) with
        | none=>rw[hm'] at e3;cases e3
        | some es =>
         rw[hm'] at e3
         cases e3
         obtain⟨vs',q1,q2⟩:=M'.cel n' p _ hp hn'
         have ra:=um (fun w x d e h=>Xz M' hk 2 w x d e h) q2 hm'
         refine⟨p,_,rfl,rfl,c,hk p (List.mem_of_getElem? hp),?_⟩
         rw[q1,ra.sc c]
    | obj c ns ds'=>exact h w H' sm rp2
    | non=>exact h w H' sm rp2
    | bl b=>exact h w H' sm rp2
    | int z=>exact h w H' sm rp2
    | tup ts=>exact h w H' sm rp2
    | fn y=>exact h w H' sm rp2
end
section
variable {X:Cx}{E:XK}{pos:Pos}
theorem Wl {g:Fm}{n:Nat}{es:List IE}{σ:St}{H:Hp}{Q:VK} (hn:es.length=n)
  (h:∃ Gn κ m,MR X.mg X.K Gn κ H σ m/\qv X.mg E H (vE es m) fun xs=>∀ vs H1,qB H H1->Its X.mg X.K Gn κ H1 vs xs->qd7 X.mg X.K E Gn κ H1 (g xs m.μ) Q):qc9 (spM X.mg X.K n g) [] E (tMA X E es) σ H Q:=by
 obtain⟨Gn,κ,m,R,h⟩:=h
 refine⟨Gn,κ,m,R,?_⟩
 have hl:∀ {es:List IE}{xs:List Itm},vE es m = .ok xs->xs.length=es.length:=by
  intro es
  induction es with
  | nil=>intro xs e;cases e;rfl
  | cons e es ih =>
   intro xs h
   have h:(e m).bind (fun x=>(vE es m).bind fun xs=>.ok (x::xs)) = .ok xs:=h
   cases h1:e m with
   | er c=>rw[h1] at h;cases h
   | no=>rw[h1] at h;cases h
   | ok x =>
    cases h2:vE es m with
    | er c=>rw[h1,Rs.qM,h2] at h;cases h
    | no=>rw[h1,Rs.qM,h2] at h;cases h
    | ok ys =>
     rw[h1,Rs.qM,h2] at h
     cases h
     rw[List.length_cons,List.length_cons,ih h2]
 cases ha:vE es m with
 | er c=>rw[ha] at h;exact h
 | no=>rw[ha] at h;exact h
 | ok xs =>
  rw[ha] at h
  intro vs H1 s1 r
  exact⟨Gn,κ,m.μ,xs,by rw[hl ha,hn],(R.more s1).mem,by rw[List.append_nil];exact r,h vs H1 s1 r⟩
theorem J8 {Gn:Addr->Prop}{κ:List Addr}{H H1:Hp}{D:Ends}{o:qbO}{Q:VK}{f:Itm->List Cell->z7} (s1:qB H H1)
  (h:vX X.mg X.K E Gn κ H (match o with | .ok x μ=>f x μ | .er c=>.er c | .no=>.no) D) (k:∀ x μ,vX X.mg X.K E Gn κ H1 (f x μ) D->∀ w κ' H',Mem X.mg X.K Gn κ' H' μ->ItR X.mg X.K Gn κ' H' w x->Ext κ H1 κ' H'->Q w H'):qd7 X.mg X.K E Gn κ H1 o Q:=by
 cases o with
 | ok x μ=>exact k x μ (vX.later h (Ext.same s1))
 | er c=>exact vX.later (o:=.er c) h (Ext.same s1)
 | no=>exact h.elim
theorem uS {x:Str}{p:Pos}{e:Expr}{es:List Expr}{ies:List IE}{g:Fm}{n k:Nat} (acc:Acc X E) (F:FdM X.prog X.w X.K X.mg X.base k x n g) (hr:zi k X.A) (hg:Gl X x) (hn:ies.length=n) (ha:PA X (e::es) (tMA X E ies))
  (hdb:autoParam ((x==("__debug__":Str))=false) vh._auto_1) (he:autoParam (starEach (e::es) X.env=(false,eval e X.env)::starEach es X.env) qt._auto_1) {cpos:Pos} (hpl:autoParam ((backTo cpos (starEach es X.env)).any (·.1)=false) qt._auto_1) (hs:autoParam (swapsWith (.Call (.Name x p) (e::es) [] cpos) none pos.line X.env=pure false) qt._auto_1) :
  PS X (.Expr (.Call (.Name x p) (e::es) [] cpos) pos) (TMx X E (yx g ies)):=by
 obtain⟨f,fd,ps,F,hm,hk,hb⟩:=F
 refine vx (V8 (VN F hr hg hm hk hb .nil (xj acc) ha hdb he hpl) hs) fun D σ H ⟨Gn,κ,m,R,h⟩=>Wl hn ⟨Gn,κ,m,R,?_⟩
 refine vX.do_ h fun xs _ h1 vs H1 s1 r=>J8 (f:=fun _ μ=>.nx ⟨m.s,μ⟩) s1 h1 fun x μ h2 w κ' H' M _ ex=>?_
 exact h2 κ' σ H' ((R.more s1).after ex M) ex
theorem UG (i:Nat) {c y:Str}{p pos':Pos}{e:Expr}{es:List Expr}{ies:List IE}{g:Fm}{n k:Nat} (G:Gd X E) (F:FdI X.prog X.w X.K X.mg X.base k c (n+1) g) (hr:zi (k+1) X.A) (hg:Gl X c) (hn:ies.length=n) (ha:PA X (e::es) (tMA X E ies))
  (hdb:autoParam ((c==("__debug__":Str))=false) vh._auto_1) (he:autoParam (starEach (e::es) X.env=(false,eval e X.env)::starEach es X.env) qt._auto_1) {cpos:Pos} (hpl:autoParam ((backTo cpos (starEach es X.env)).any (·.1)=false) qt._auto_1)
  (hi:autoParam (X.N[i]?=some y) qt._auto_1) (hx:autoParam (Loc X.env.scope y) WV._auto_1) (hs:autoParam (swapsWith (.Call (.Name c p) (e::es) [] cpos) (some (.Name y pos')) pos.line X.env=pure false) qt._auto_1)
  (hf:autoParam (X.fn y=true\/X.env.scope.names.lookup y=some .local) Zl._auto_1) (hret:∀ xs μ x μ',g xs μ = .ok x μ'->x = .v .non true):PS X (.Assign [.Name y pos'] (.Call (.Name c p) (e::es) [] cpos) pos) (TMx X E (xZ i c g ies)):=by
 obtain⟨C,f,fd,ps,Mk,F,hm,hb⟩:=F
 refine vx (Zm G.nd hi hx (qes Mk F hr hg hm hb .nil (xj G.acc) ha hdb he hpl) hs hf) fun D σ H ⟨Gn,κ,m,R,h⟩=>⟨Gn,κ,m,R,?_⟩
 have hl:∀ {es:List IE}{xs:List Itm},vE es m = .ok xs->xs.length=es.length:=by
  intro es
  induction es with
  | nil=>intro xs e;cases e;rfl
  | cons e es ih =>
   intro xs h
   have h:(e m).bind (fun x=>(vE es m).bind fun xs=>.ok (x::xs)) = .ok xs:=h
   cases h1:e m with
   | er c=>rw[h1] at h;cases h
   | no=>rw[h1] at h;cases h
   | ok x =>
    cases h2:vE es m with
    | er c=>rw[h1,Rs.qM,h2] at h;cases h
    | no=>rw[h1,Rs.qM,h2] at h;cases h
    | ok ys =>
     rw[h1,Rs.qM,h2] at h
     cases h
     rw[List.length_cons,List.length_cons,ih h2]
 refine vX.do_ h fun xs hxs h1 vs H1 s1 r q dq hq hdq hne=>?_
 have R1:=R.more s1
 have sd:qB H1 (upd H1 dq (.own q)):=wk hdq
 have hq2:(upd H1 dq (.own q)) q=none:=by rw[qD (fun z=>hne z.symm)];exact hq
 have sq:qB (upd H1 dq (.own q)) (upd (upd H1 dq (.own q)) q (.ins C dq [])):=wk hq2
 obtain⟨M2,ex2⟩:=R1.mem.new (x:=.ins c [] []) (sd.trans sq) hq ⟨C,dq,[],hm,by rw[qV];rfl,rfl,trivial⟩
 have R2:=R1.after ex2 M2
 have hc:ItR X.mg X.K Gn (κ++[q]) (upd (upd H1 dq (.own q)) q (.ins C dq [])) (.ref q) (.c m.μ.length):=⟨q,by
  rw[<- R.mem.len,List.getElem?_append_right (Nat.le_refl _),Nat.sub_self]
  rfl,rfl⟩
 refine⟨Gn,κ++[q],m.μ++[.ins c [] []],.c m.μ.length::xs,by rw[List.length_cons,hl hxs,hn],M2,by rw[List.append_nil];exact⟨hc,r.ext ex2⟩,?_⟩
 have ex12:=(Ext.same s1).trans ex2
 have h1:=vX.later h1 ex12
 cases hres:g (.c m.μ.length::xs) (m.μ++[.ins c [] []]) with
 | no=>rw[hres] at h1;exact h1.elim
 | er c'=>rw[hres] at h1;exact h1
 | ok x μ =>
  rw[hres] at h1
  intro w κ' H' M rw' ex
  have ex0:=hret _ _ _ _ hres
  subst ex0
  cases (show Rp _ _ _ _ w .non from rw') with
  | non =>
   refine⟨rfl,?_⟩
   have hc':=hc.ext ex
   exact h1 κ' _ H' ((R2.after ex M).qeU (m:=⟨m.s,μ⟩) hc') ex
end
end L2.Ir
set_option maxHeartbeats 4000000
namespace L2.Ir
open PySem PySem.Spec PyProof.Rows
open PySem.W (WData Codec OpenSpec Well WellAll ReadsW ReadsAllW)
section
variable {X:Cx}{E:XK}{pos:Pos}
theorem Yi {mg:Str->Option Value}{K:PySem.W.Frag}{G:Addr->Prop}{H:Hp}{f:Str}{d:D}:∀ {ns:List Str}{vs:List V}{ds:List D},qz mg K G H vs ds->(ns.zip ds).lookup f=some d->∃ w,(ns.zip vs).lookup f=some w/\Rp mg K G H w d
 | [],_,_,_,e=>by simp at e
 | _::_,[],[],_,e=>by simp at e
 | g::ns,w::vs,x::xs,.cons a b,e=>by
  rw[List.zip_cons_cons,List.lookup_cons] at e ⊢
  cases hg:f==g with
  | true=>rw[hg] at e;cases e;exact⟨w,rfl,a⟩
  | false=>rw[hg] at e;exact Yi b e
theorem zq {c f:Str}{e:Expr}{r:RE} (hC:∀ C,X.mg c=some (.ref C)->Cls X.K C/\qN X.K C f) (he:PE X e (TEx X E r)) (hb:autoParam (attributeBase e f X.env (eval e X.env)=eval e X.env) qt._auto_1):PE X (.Attribute e f pos) (TEx X E (rUn (vW c f) r)):=by
 refine vO (qc7 he hb) fun σ H Q ⟨B,δ,R,h⟩=>⟨B,δ,R,?_⟩
 refine qv.imp (qv.bind h) fun x h1 w H1 s1 vr=>?_
 obtain⟨d,k⟩:=x
 have vr:VR X.mg X.K B H H1 σ δ k w d:=vr
 cases d with
 | obj c' ns ds =>
  unfold vW at h1
  dsimp only at h1
  by_cases cc:c'=c
  ·subst cc
   rw[if_pos rfl] at h1
   have rp:=VR.low R .nw vr
   rw[VR.gk (low_ne _ _)] at rp
   cases rp with
   | @obj a C dx _ _ xs _ g m s l ra =>
    cases hl:(ns.zip ds).lookup f with
    | none=>rw[hl] at h1;exact h1.elim
    | some d =>
     rw[hl] at h1
     obtain⟨u,l1,l2⟩:=Yi ra hl
     refine⟨a,C,dx,_,u,rfl,s,(hC C m).1,(hC C m).2,l1,h1 u H1 s1 ?_⟩
     show VR _ _ _ _ _ _ _ (k.low .nw) _ _
     rw[VR.gk (low_ne _ _)]
     exact l2
  ·rw[if_neg cc] at h1
   exact h1.elim
 | _=>exact h1.elim
end
theorem YS (l b:Addr) (us vs:Array Value) (n k:Nat) (dd:Option Addr) (sl:Array (Option Value)) (h0:¬(!us.isEmpty&&Builtin.List.listTooLong (us.size+vs.size))=true) (h1:us.size <= sizeLine) (h2:us.size+vs.size <= sizeLine+1) :
  Meets (Builtin.«list.extend» ⟨[.ref l,.ref b],[]⟩) (fun _ R s=>s.heap.get? l=some {cls:=.type "list",data:=.seq us n}/\s.heap.get? b=some ⟨.type "list",dd,.seq vs k,sl⟩/\R (.ok (.ret Value.none)) {s with heap:=s.heap.update l (Obj.mapSeq fun x=>x++vs)}) :=
 .of_wp fun prog w A R s q=>by
  obtain⟨hp,gs,dr,tk,os⟩:=s
  obtain⟨ql,qb,q⟩:=q
  have i1:=AutoSeq1.idx_int
  have i2:=AutoSeq1.sub_tuple_tuple
  have i3:=AutoSeq1.sub_list_list
  have i4:=AutoSeq1.sub_tuple_list
  have i5:=AutoSeq1.sub_list_tuple
  have hz:(us++vs).size <= sizeLine+1:=by
   rw[Array.size_append]
   exact h2
  wp_walk using (wpAny_updateSeq ql rfl (hz:=h1) (_hz':=hz)),AutoSeq1.wpAny_loadPart' ql,AutoSeq1.wpAny_loadPart' qb
  exact⟨_,rfl,q⟩
section
variable {X:Cx}{E:XK}{pos:Pos}
noncomputable def qf8 (K:PySem.W.Frag):V->List V->Hp->VK->Prop:=fun x vs H Q=>∃ l b xs zs,x = .ref l/\vs=[.ref b]/\H l=some (.lst xs)/\SqL K H b zs/\xs.length+zs.length <= sizeLine/\Q .non (upd H l (.lst (xs++zs)))
theorem JX:MtM X "list.extend" (qf8 X.K):=by
 intro pins s σ H x vs v us Q I rx rv h
 obtain⟨l,b,xs,zs,rfl,rfl,hH,hB,hz,q⟩:=h
 cases rx
 obtain⟨u,rfl,ru⟩:=rv.one
 cases ru
 obtain⟨z1,ts,n,r1,hl,e1⟩:=I.qax hH
 obtain⟨ts2,r2,p2,z2⟩:=I.list hB
 obtain⟨⟨cls,dd,data,sl⟩,e2,hc,n2,hd⟩:=id p2.isList
 simp only at hc hd
 subst hc hd
 have l2:=r2.length
 have hsz:ts.toArray.size+ts2.toArray.size <= sizeLine:=by rw[List.size_toArray,List.size_toArray];lia
 refine call_meets PySem.F.slot_list_extend ⟨_,e1,rfl⟩ PySem.F.entry_list_extend (PySem.F.args_list_extend_2 _ _) (YS l b ts.toArray ts2.toArray n n2 dd sl (by rw[Wf hsz,Bool.and_false];exact Bool.false_ne_true) (by rw[List.size_toArray];lia) (by lia)) ⟨e1,e2,?_⟩
 refine⟨.non,_,I.qgj (its':=ts++ts2) hH e1 (by simp) (r1.append r2) ?_,rfl,q⟩
 rw[List.length_append]
 lia
theorem qbv {e:Expr}{ec:IE}{r:RE} (h:PE X e (tBM X.K "list" (qf8 X.K) (tIe X E ec) (qei (TEx X E r) qhk))) (hsw:autoParam (swapsWith e none pos.line X.env=pure false) qt._auto_1):PS X (.Expr e pos) (TMx X E (VS ec r)):=by
 refine vx (V8 h hsw) fun D σ H ⟨Gn,κ,m,R,h⟩=>⟨Gn,κ,m,R,vX.do_ h fun y _ h1 w H1 s1 hw=>?_⟩
 cases e:cellAt m y with
 | none=>rw[e] at h1;exact h1.elim
 | some q =>
  obtain⟨n,q⟩:=q
  obtain⟨rfl,hn⟩:=uK e
  rw[e] at h1
  cases q with
  | ins c' ns xs=>exact h1.elim
  | lst xs =>
   obtain⟨p,hp,rfl⟩:=hw
   obtain⟨vs1,g1,g3⟩:=(R.more s1).mem.cel n p _ hp hn
   have Rv:=xi (m:=m) (Ext.refl (κ:=κ) (H:=H1)) (R.more s1)
   refine⟨.inl ⟨rfl,_,SqL.of g1⟩,_,_,Rv,?_⟩
   refine qv.more (vX.do_ h1 fun x _ h2 u H2 s2 vu=>?_) s1
   obtain⟨dx,kx⟩:=x
   have s12:=s1.trans s2
   have R2:=R.more s12
   obtain⟨vs,g1,g3⟩:=R2.mem.cel n p _ hp hn
   cases dx with
   | lst ds =>
    have h2:vX X.mg X.K E Gn κ H (if ds.all Ir.D.sc=true/\xs.length+ds.length <= LIM then .nx ⟨m.s,m.μ.set n (.lst (xs++ds.map fun d=>.v d true))⟩ else .no) D:=h2
    by_cases c:ds.all Ir.D.sc=true/\xs.length+ds.length <= LIM
    ·rw[if_pos c] at h2
     obtain⟨a,us,rfl,sq,ra⟩:=VR.items Rv vu
     have hus:=ra.sc c.1
     refine⟨p,a,vs,us,rfl,rfl,g1,sq,?_,?_⟩
     ·rw[g3.len,ra.len];exact c.2
     have pk:p∈κ:=List.mem_of_getElem? hp
     have ex:Ext κ H2 κ (upd H2 p (.lst (vs++us))):=Ext.upd pk
     obtain⟨M,_⟩:=R2.mem.mut (x:=.lst (xs++ds.map fun d=>.v d true)) (o:=.lst (vs++us)) hp ⟨_,qV,(g3.ext ex).append (by rw[hus];exact Its.vals (qz.zt c.1))⟩
     exact h2 κ σ _ (R2.after ex M) ((Ext.same s12).trans ex)
    ·rw[if_neg c] at h2
     exact h2.elim
   | _=>exact h2.elim
theorem RgC.up {j c:Int} (hc:0<c) (hc2:c<1000000) (hj : -1000000<j) (hj2:j<1000000):RgC 0 j c ((j+c-1) / c).toNat:=by
 have fit:∀ z:Int,-4000000<z/\z<4000000->Builtin.Range.rangeFitsLong z=true:=fun z h1=>by
  unfold Builtin.Range.rangeFitsLong
  simp
  lia
 have hsz:Builtin.Range.rangeSize 0 j c=(((j+c-1) / c).toNat:Int):=by
  unfold Builtin.Range.rangeSize
  rw[if_pos (by lia)]
  by_cases h:0<j
  ·rw[if_pos h]
   have e:j+c-1=(j-0-1)+c*1:=by lia
   rw[e,Int.add_mul_ediv_left _ _ (by lia)]
   have:0 <= (j-0-1) / c:=Int.ediv_nonneg (by lia) (by lia)
   lia
  ·rw[if_neg h]
   have:(j+c-1) / c <= 0:=by
    have h3:(j+c-1) / c<1:=by
     refine Int.ediv_lt_of_lt_mul hc ?_
     lia
    lia
   lia
 have hb:(((j+c-1) / c).toNat:Int) <= 2000000:=by
  have:(j+c-1) / c <= 2000000:=by
   by_cases h:0 <= j+c-1
   ·exact Int.le_trans (Int.ediv_le_self _ h) (by lia)
   ·have:(j+c-1) / c<0:=Int.ediv_neg_of_neg_of_pos (by lia) hc
    lia
  lia
 refine⟨by lia,by lia,?_,hsz⟩
 unfold Builtin.Range.small
 rw[hsz,fit 0 (by decide),fit j ⟨Int.lt_trans (by decide) hj,Int.lt_trans hj2 (by decide)⟩,fit c ⟨Int.lt_trans (by decide) hc,Int.lt_trans hc2 (by decide)⟩,fit _ (by lia),if_pos (by lia),fit (j+(c-1)) (by lia)]
 simp
theorem qfA {i j c:Int}{l:List Int} (h:UQ i j c=some l):∃ n,RgC i j c n/\l.length=n/\∀ k:Nat,k<n->l[k]?=some (i+k*c):=by
 unfold UQ at h
 by_cases b:(-1000000<i/\i<1000000)/\(-1000000<j/\j<1000000)/\(-1000000<c/\c<1000000)
 ·rw[if_pos b] at h
  by_cases c1:c = -1
  ·rw[if_pos c1] at h
   cases h
   subst c1
   refine⟨(i-j).toNat,RgC.neg (by lia) (by lia) (by lia) (by lia),by rw[List.length_map,List.length_range],fun k hk=>?_⟩
   rw[List.getElem?_map,List.getElem?_range hk]
   show some (i-(k:Int))=some (i+(k:Int) * -1)
   congr 1
   lia
  ·rw[if_neg c1] at h
   by_cases c2:0<c/\i=0
   ·rw[if_pos c2] at h
    cases h
    obtain⟨c3,rfl⟩:=c2
    refine⟨((j+c-1) / c).toNat,RgC.up c3 (by lia) (by lia) (by lia),by rw[List.length_map,List.length_range],fun k hk=>?_⟩
    rw[List.getElem?_map,List.getElem?_range hk,Int.zero_add]
    rfl
   ·rw[if_neg c2] at h
    cases h
 ·rw[if_neg b] at h
  cases h
theorem qbH {i:Nat}{tgE a b c:Expr}{r q t:RE}{p:Pos} (hg:Gl X "range") (hm:X.mg "range"=none) (ha:PE X a (TEx X E r)) (hb:PE X b (TEx X E q)) (hc:PE X c (TEx X E t)) (hs:autoParam (starEach [a,b,c] X.env=(false,eval a X.env)::starEach [b,c] X.env) qt._auto_1)
  (hs2:autoParam (starEach [b,c] X.env=(false,eval b X.env)::starEach [c] X.env) qt._auto_1) (hs3:autoParam (starEach [c] X.env=(false,eval c X.env)::starEach [] X.env) qt._auto_1) (hpl:autoParam ((backTo pos (starEach [b,c] X.env)).any (·.1)=false) qt._auto_1) :
  PI X tgE (.Call (.Name "range" p) [a,b,c] [] pos) (tI X E (zP i) (.one i) (Qm r q t)):=by
 refine uE (qcx hg hm (zm ha (zm hb (zm hc xp hs3) hs2) hs) hs hpl) fun σ H R ⟨B,δ,R0,h⟩=>⟨B,δ,R0,?_⟩
 refine qv.imp (qv.bind h) fun x h1 v H1 s1 vr=>⟨B,δ,R0.more s1,?_⟩
 refine qv.imp (qv.more (qv.bind h1) s1) fun y h2 w H2 s2 vw=>⟨B,δ,(R0.more s1).more s2,?_⟩
 refine qv.imp (qv.more (qv.more (qv.bind h2) s1) s2) fun z h3 u H3 s3 vu=>?_
 obtain⟨d,k⟩:=x
 obtain⟨d',k'⟩:=y
 obtain⟨d2,k2⟩:=z
 have vr:VR X.mg X.K B H H1 σ δ k v d:=vr
 have vw:VR X.mg X.K B H1 H2 σ δ k' w d':=vw
 have vu:VR X.mg X.K B H2 H3 σ δ k2 u d2:=vu
 have key:∀ i1 j1 c1:Int,d = .int i1->d' = .int j1->d2 = .int c1->∃ (i j c:Int) (n:Nat),[v,w,u]=[.int i,.int j,.int c]/\RgC i j c n/\R (Itc i c n) H3:=fun i1 j1 c1 e1 e2 e3=>by
  subst e1 e2 e3
  have ev:=vC R0 vr
  have ew:=vC (R0.more s1) vw
  have eu:=vC ((R0.more s1).more s2) vu
  subst ev ew eu
  have h3:qv X.mg E H (match UQ i1 j1 c1 with | some l=>.ok (true,l.map fun n=>(D.int n,Kd.nw)) | none=>.no) fun x=>∀ J H1,qB H H1->Walks X B H1 σ δ (zP i) (.one i) J x.1 x.2->R J H1:=h3
  cases hr:UQ i1 j1 c1 with
  | none=>rw[hr] at h3;exact h3.elim
  | some l =>
   rw[hr] at h3
   obtain⟨n,rg,hl,hk⟩:=qfA hr
   refine⟨i1,j1,c1,n,rfl,rg,h3 _ H3 (s1.trans (s2.trans s3)) ⟨fun B' n' x σ' δ' δ2 H2 hx R' f hp=>?_,fun B' n' σ' δ' H2 hn R' f=>(show n <= n' by rw[List.length_map,hl] at hn;exact hn)⟩⟩
   have hlt:n'<n:=by
    have:=(List.getElem?_eq_some_iff.mp hx).1
    rw[List.length_map,hl] at this
    exact this
   rw[List.getElem?_map,hk n' hlt] at hx
   cases hx
   refine⟨hlt,fun u H3 hy Q hQ=>?_⟩
   obtain⟨rfl,rfl⟩:=hy
   have hp:put i (D.int (i1+(n':Nat)*c1),.nw) δ'=some δ2:=hp
   have q:=WC (v:=.int (i1+(n':Nat)*c1)) R' (Rp.int _) hp
   exact hQ _ _ q.1 q.2 qB.refl ⟨_,rfl⟩
 obtain⟨i1,j1,c1,e1,e2,e3,_⟩:=qis h3
 exact key i1 j1 c1 e1 e2 e3
end
section
variable {P:Program}{w:World}{K:PySem.W.Frag}{mg:Str->Option Value}{base:Heap}
noncomputable abbrev YT (P:Program) (w:World) (K:PySem.W.Frag) (mg:Str->Option Value) (base:Heap) (k:Nat) (N:List Str) (q:Str) (st:Stmt) (f:Addr) (t:XK->TS):Prop:=∀ (cdv:Value) (A:Around) (outer:List Env) (s:Shared) (H:Hp) (E:XK),zi k (A.deeper (envOfC q (qg st) s.heap.objs.size f cdv))->N.Nodup->Gd (j6 P w K mg base N q (qg st) f cdv A outer s H E) E->PSs (j6 P w K mg base N q (qg st) f cdv A outer s H E) (vT st) (t E)
theorem fd2 {x:Str}{st:Stmt}{f:Addr}{fd:FuncData}{N ps:List Str}{k n:Nat}{g:Fn}{r:RS} (F:Fun K x x st f fd) (S:qp N ps (qg st)) (hm:mg x=some (.ref f)) (hb:Binds K fd ps []) (hn:ps.length=n) (body:YT P w K mg base k N x st f fun E=>tS mg K E r)
  (hr:∀ ds:List D,ds.length=n->g ds = .no\/res (r (sl0 N ds))=g ds):Fd P w K mg base (k+1) x n g:=qhJ F S hm hb hn (fun cdv A outer s H E h=>body cdv A outer s H E h S.nd (VW S.nd)) hr
theorem qhU {x:Str}{st:Stmt}{f:Addr}{fd:FuncData}{N ps:List Str}{k n:Nat}{r:RM}{g:Fn} (F:Fun K x x st f fd) (S:qp N ps (qg st)) (hm:mg x=some (.ref f)) (hb:Binds K fd ps []) (hn:ps.length=n) (body:YT P w K mg base k N x st f fun E=>tM mg K E r)
  (hg:∀ ds,g ds=Jt (r ⟨ms0 N (it0 ds),[]⟩)):Fd P w K mg base (k+1) x n g:=qgz F S hm hb hn (fun cdv A outer s H E h=>body cdv A outer s H E h S.nd (VW S.nd)) hg
theorem Jj {x:Str}{st:Stmt}{f:Addr}{fd:FuncData}{N ps:List Str}{k n:Nat}{r:RM}{g:Fm} (F:Fun K x x st f fd) (S:qp N ps (qg st)) (hm:mg x=some (.ref f)) (hb:Binds K fd ps []) (hn:ps.length=n) (body:YT P w K mg base k N x st f fun E=>tM mg K E r)
  (hg:∀ xs μ,g xs μ=yj (r ⟨ms0 N xs,μ⟩)):FdM P w K mg base (k+1) x n g:=qgO F S hm hb hn (fun cdv A outer s H E h=>body cdv A outer s H E h S.nd (VW S.nd)) hg
theorem qhK {x q:Str}{st:Stmt}{f:Addr}{fd:FuncData}{N ps:List Str}{k n:Nat}{r:RM} (F:Fun K x q st f fd) (S:qp N ps (qg st)) (hn:ps.length=n) (body:YT P w K mg base k N q st f fun E=>tM mg K E r):uk P w K mg base (CX1 P w) (k+1) f fd ps (spM mg K n fun xs μ=>yj (r ⟨ms0 N xs,μ⟩)) :=
 JZ F S hn fun cdv A outer s H E h=>body cdv A outer s H E h S.nd (VW S.nd)
end
end L2.Ir
set_option maxHeartbeats 2000000
namespace Gr
open PySem L2 L2.Ir Dt
theorem QX (x:Nat):Pv.mag (Dm.sz x)=Pv.mag x:=by
 have e1:Pv.exponent (Dm.sz x)=Pv.exponent x:=by
  unfold Pv.exponent Dm.sz
  rw[show (2:Nat)^63=2^52*2048 by decide,Nat.mod_mul_right_div_self,Nat.mod_mod]
 have e2:Dm.sz x%2^52=x%2^52:=by
  unfold Dm.sz
  exact Nat.mod_mod_of_dvd _ ⟨2048,by decide⟩
 unfold Pv.mag
 rw[e1,e2]
theorem qfn {x y:Nat} (hx:x<2^64) (hy:y<2^64):Pv.less x y=decide (rk x<rk y):=by
 have bx:Dm.sz x<2^63:=Nat.mod_lt _ (by decide)
 have bY:Dm.sz y<2^63:=Nat.mod_lt _ (by decide)
 have zx:=Dm.v7 x
 have zy:=Dm.v7 y
 have hlt:Dm.sz x<Dm.sz y->Pv.mag x<Pv.mag y:=fun h=>by rw[<- QX x,<- QX y];exact Uk h bY
 have hgt:Dm.sz y<Dm.sz x->Pv.mag y<Pv.mag x:=fun h=>by rw[<- QX x,<- QX y];exact Uk h bx
 have heq:Dm.sz x=Dm.sz y->Pv.mag x=Pv.mag y:=fun h=>by rw[<- QX x,<- QX y,h]
 unfold Pv.less Pv.val rk
 rw[Dm.zQ x hx,Dm.zQ y hy]
 generalize Dm.sz x=a at *
 generalize Dm.sz y=b at *
 generalize Pv.mag x=A at *
 generalize Pv.mag y=B at *
 have tri:(a<b/\A<B)\/(a=b/\A=B)\/(b<a/\B<A):=by
  rcases Nat.lt_trichotomy a b with h | h | h
  ·exact .inl ⟨h,hlt h⟩
  ·exact .inr (.inl ⟨h,heq h⟩)
  ·exact .inr (.inr ⟨h,hgt h⟩)
 refine decide_eq_decide.mpr ?_
 by_cases c:Dm.sg x=1
 ·rw[if_pos (decide_eq_true c),if_pos c]
  by_cases d:Dm.sg y=1
  ·rw[if_pos (decide_eq_true d),if_pos d]
   clear zx zy hlt hgt heq
   lia
  ·rw[if_neg (by rw[decide_eq_false d];exact Bool.false_ne_true),if_neg d]
   clear hlt hgt heq
   lia
 ·rw[if_neg (by rw[decide_eq_false c];exact Bool.false_ne_true),if_neg c]
  by_cases d:Dm.sg y=1
  ·rw[if_pos (decide_eq_true d),if_pos d]
   clear hlt hgt heq
   lia
  ·rw[if_neg (by rw[decide_eq_false d];exact Bool.false_ne_true),if_neg d]
   clear zx zy hlt hgt heq
   lia
theorem Wo {x:Nat} (h:x<2^64):Pv.minus x<2^64:=by rw[Dm.WQ x h];exact Dm.qbl x h
end Gr
namespace L2.Ir
open PySem
noncomputable abbrev NN:=MS->Rs (List (List D))
noncomputable def rowsOf:List DK->Rs (List (List D))
 | []=>.ok []
 | y::ys=>match y with
  | (.lst ds,.fr)=>(rowsOf ys).bind fun r=>.ok (ds::r)
  | _=>.no
noncomputable def uJ (tg:Tg) (src:RI) (t:RT) (r:RE) (vs:List Nat):NN:=fun m=>(src (vY m)).bind fun xs=>if xs.2.length<LIM then (items tg t r (clear (vY m) vs) xs.2).bind rowsOf else .no
noncomputable def YK (ds:List D):Cell:=.lst (ds.map fun d=>.v d true)
noncomputable def qd8 (n k:Nat):Cell:=.lst ((List.range k).map fun i=>.c (n+i))
noncomputable def y1 (μ:List Cell) (xss:List (List D)):List Cell:=μ++(xss.map YK++[qd8 μ.length xss.length])
noncomputable def qcL (e:NN):RM:=fun m=>mDo (e m) fun xss=>.rt (.c (m.μ.length+xss.length)) (y1 m.μ xss)
end L2.Ir
namespace Gr
open PySem L2 L2.Ir Dt
noncomputable abbrev rX (r:List Nat):List D:=r.map fun (n:Nat)=>D.int n
structure TabAt (μ:List Cell) (k b:Nat) (t:List (List Nat)):Prop where
 rows:∀ i<t.length,μ[b+i]?=some (YK (rX (t.getD i [])))
 ref:μ[k]?=some (qd8 b t.length)
 out:k<b\/b+t.length <= k
theorem j7 {g:Itm->Option D}{f:Nat->List Nat}{b:Nat}:∀ {l:List Nat},(∀ i∈l,g (.c (b+i))=some (rD (f i)))->(l.map fun i=>Itm.c (b+i)).mapM g=some (l.map fun i=>rD (f i))
 | [],_=>rfl
 | i::l,h=>by
  rw[List.map_cons,List.mapM_cons,h i List.mem_cons_self,j7 fun x hx=>h x (List.mem_cons_of_mem _ hx)]
  rfl
theorem UZ (t:List (List Nat)):((List.range t.length).map fun i=>rD (t.getD i []))=t.map rD:=by
 conv=>rhs;rw[QR t []]
 rw[List.map_map]
 rfl
theorem TabAt.view {μ:List Cell}{k b:Nat}{t:List (List Nat)} (T:TabAt μ k b t) (f:Nat):zh μ (f+2) (.c k)=some (tD t):=by
 unfold zh
 rw[T.ref]
 show (List.mapM (zh μ (f+1)) ((List.range t.length).map fun i=>Itm.c (b+i))).map D.lst=_
 rw[j7 (f:=fun i=>t.getD i []) fun i hi=>?_,UZ]
 ·rfl
 ·unfold zh
  rw[T.rows i (List.mem_range.mp hi)]
  show (List.mapM (zh μ f) ((rX (t.getD i [])).map fun d=>Itm.v d true)).map D.lst=_
  rw[Wv]
  rfl
theorem TabAt.new {μ:List Cell}{k b:Nat}{t:List (List Nat)} (T:TabAt μ k b t) (f:Nat):yY μ (f+2) (.c k)=some (tD t):=by
 unfold yY
 rw[T.ref]
 show (List.mapM (yY μ (f+1)) ((List.range t.length).map fun i=>Itm.c (b+i))).map D.lst=_
 rw[j7 (f:=fun i=>t.getD i []) fun i hi=>?_,UZ]
 ·rfl
 ·unfold yY
  rw[T.rows i (List.mem_range.mp hi)]
  show (List.mapM (yY μ f) ((rX (t.getD i [])).map fun d=>Itm.v d true)).map D.lst=_
  rw[Q6]
  rfl
theorem TabAt.set {μ:List Cell}{k b:Nat}{t:List (List Nat)} (T:TabAt μ k b t) {i:Nat} (hi:i<t.length) (r:List Nat):TabAt (μ.set (b+i) (YK (rX r))) k b (t.set i r):=by
 have hl:b+i<μ.length:=(List.getElem?_eq_some_iff.mp (T.rows i hi)).1
 refine⟨fun j hj=>?_,?_,by rw[List.length_set];exact T.out⟩
 ·rw[List.length_set] at hj
  by_cases c:i=j
  ·subst c
   rw[List.getElem?_set_self hl,List.getD_eq_getElem?_getD,List.getElem?_set_self hi]
   rfl
  ·rw[List.getElem?_set_ne (by lia),T.rows j hj,List.getD_eq_getElem?_getD,List.getD_eq_getElem?_getD,List.getElem?_set_ne c]
 ·rw[List.length_set,List.getElem?_set_ne (by have:=T.out;lia)]
  exact T.ref
theorem UI {m:MS}{e:IE}{r:RE}{k b i:Nat}{t:List (List Nat)}{kd:Kd} (T:TabAt m.μ k b t) (he:e m = .ok (.c k)) (hr:r (qJ m) = .ok (.int i,kd)) (hi:i<t.length):wW e r m = .ok (.c (b+i)):=by
 unfold wW
 rw[he,Rs.qM,hr,Rs.qM]
 have e1:cellAt m (.c k)=some (k,qd8 b t.length):=by
  show (m.μ[k]?).map _=_
  rw[T.ref]
  rfl
 rw[e1]
 show jM ((ug ((List.range t.length).map fun i=>Itm.c (b+i)).length (i:Int)).bind fun j=>((List.range t.length).map fun i=>Itm.c (b+i))[j]?)=_
 rw[List.length_map,List.length_range,WH hi]
 show jM (((List.range t.length).map fun i=>Itm.c (b+i))[i]?)=_
 rw[List.getElem?_map,List.getElem?_range hi]
 rfl
theorem qag {m:MS}{ec ev:IE}{ri:RE}{k b i j y:Nat}{t:List (List Nat)}{kd:Kd} (T:TabAt m.μ k b t) (hc:ec m = .ok (.c (b+i))) (hi:i<t.length) (hr:ri (qJ m) = .ok (.int j,kd)) (hj:j<(t.getD i []).length) (hv:ev m = .ok (.v (.int y) true)) :
  zK ec ri ev m = .nx ⟨m.s,m.μ.set (b+i) (YK (rX ((t.getD i []).set j y)))⟩:=by
 unfold zK
 rw[hv,hc,hr]
 show setCell m (cellAt m (.c (b+i))) (.int j) (.v (.int y) true)=_
 have e1:cellAt m (.c (b+i))=some (b+i,YK (rX (t.getD i []))):=by
  show (m.μ[b+i]?).map _=_
  rw[T.rows i hi]
  rfl
 rw[e1]
 show (match ug ((rX (t.getD i [])).map fun d=>Itm.v d true).length (j:Int) with | some j'=>z7.nx ⟨m.s,m.μ.set (b+i) (.lst (((rX (t.getD i [])).map fun d=>Itm.v d true).set j' (.v (.int y) true)))⟩ | none=>.no)=_
 rw[List.length_map,List.length_map,WH hj]
 show z7.nx ⟨m.s,m.μ.set (b+i) (.lst (((rX (t.getD i [])).map fun d=>Itm.v d true).set j (.v (.int y) true)))⟩=_
 unfold YK rX
 rw[List.map_set,List.map_set]
theorem QY {β:Type}{enc:β->DK}{f:β->List D}{tg:Tg}{r:RE}{δ:Dl}:∀ {l:List β},(∀ x∈l,∃ δ1,tg.put (enc x) δ=some δ1/\r δ1 = .ok (.lst (f x),.fr))->(items tg xx r δ (l.map enc)).bind rowsOf = .ok (l.map f)
 | [],_=>rfl
 | x::l,h=>by
  obtain⟨δ1,e1,e2⟩:=h x List.mem_cons_self
  have ih:=QY fun y hy=>h y (List.mem_cons_of_mem _ hy)
  rw[List.map_cons]
  unfold items
  rw[e1]
  dsimp only
  rw[show Ir.xx δ1 = .ok true from rfl,Rs.qM,if_pos rfl,e2,Rs.qM]
  cases hi:items tg xx r δ (l.map enc) with
  | er c=>rw[hi] at ih;cases ih
  | no=>rw[hi] at ih;cases ih
  | ok ys =>
   rw[hi] at ih
   show (rowsOf ys).bind (fun q=>Rs.ok (f x::q))=_
   have ih:rowsOf ys = .ok (l.map f):=ih
   rw[ih]
   rfl
theorem zS {m n i j v:Nat}{t:List (List Nat)} (h:Tb m n t) (hv:v<2^64) (hi:i<m):Tb m n (Pv.setAt t i j v):=by
 unfold Pv.setAt
 have hm:=getD_mem (l:=t) (i:=i) [] (by rw[h.len];exact hi)
 refine h.set i (by rw[List.length_set];exact h.wide _ hm) fun w hw=>?_
 rcases List.mem_or_eq_of_mem_set hw with q | q
 ·exact h.b64 _ hm w q
 ·rw[q];exact hv
noncomputable def yC:RS:=(sIf (tBl (qh (yq fun i j=>decide (j<i)) (qa 0) (rC (.int (64))))) (wJ "WrongCount") wC)
noncomputable def wM:Fn:=fun ds=>res (yC (sl0 ["many"] ds))
theorem ZQ {k:Int}:wM [.int k]=if k <= 64 then .ok (.non,false) else .er "WrongCount":=by
 show res (yC [.val (.int k) false])=_
 unfold yC
 have ht:tBl (qh (yq fun i j=>decide (j<i)) (qa 0) (rC (.int (64)))) [.val (.int k) false] = .ok (decide (64<k)):=rfl
 by_cases c:k <= 64
 ·rw[if_pos c]
  rw[decide_eq_false (by lia)] at ht
  rw[qbn ht]
  rfl
 ·rw[if_neg c]
  rw[decide_eq_true (by lia)] at ht
  rw[uh ht]
  rfl
noncomputable def YX (z:Int):Out:=if z = -4 then .er "NotAsTold" else .er "StepNotFinite"
theorem xa {r:RE}{δ:Dl}{i:Nat}{z:Int} (h:r δ=erz z):vd i r δ=YX z:=by
 unfold erz at h
 unfold YX
 by_cases c:z = -4
 ·rw[if_pos c] at h ⊢;exact XO h
 ·rw[if_neg c] at h ⊢;exact XO h
theorem yA {a b:RS}{δ:Dl}{z:Int} (h:a δ=YX z):vt a b δ=YX z:=by
 unfold YX at h ⊢
 by_cases c:z = -4
 ·rw[if_pos c] at h ⊢;exact y8 h
 ·rw[if_neg c] at h ⊢;exact y8 h
theorem xm (z:Int):res (YX z)=erz z:=by
 unfold YX erz
 split <;> rfl
theorem qa2 {x r:Nat} (hx:x<2^64) (h:Pv.sqrt x=some r):r<2^64:=by
 unfold Pv.sqrt at h
 split at h
 ·cases h;exact hx
 ·split at h
  ·cases h
  ·exact VY h
end Gr
namespace L2.Ir
open PySem
noncomputable def Qr:RM:=fun m=>.rt (.v .non true) m.μ
noncomputable def Q9 (c f:Str) (ec:IE) (g:Fm) (es:List IE):RM:=fun m=>mDo (vE es m) fun xs=>match g xs m.μ with
 | .ok x μ=>mDo (ec ⟨m.s,μ⟩) fun y=>yE c f ⟨m.s,μ⟩ (cellAt ⟨m.s,μ⟩ y) x μ
 | .er c=>.er c
 | .no=>.no
end L2.Ir
namespace Gr
open PySem L2 L2.Ir Dt
theorem qR {α β:Type} (a:α) (f:α->Pv.Did β):((Except.ok a:Pv.Did α)>>=f)=f a:=rfl
theorem JK {c f:Str}{ec:IE}{g:Fm}{es:List IE}:Jm (Q9 c f ec g es):=fun m x μ=>jF (fun a y ν=>by
 show (match g a m.μ with | .ok x μ=>mDo (ec ⟨m.s,μ⟩) fun y=>yE c f ⟨m.s,μ⟩ (cellAt ⟨m.s,μ⟩ y) x μ | .er c=>.er c | .no=>.no)≠_
 cases g a m.μ with
 | ok x μ=>exact jF (fun b z ξ=>QP z ξ) y ν
 | er c=>intro z;cases z
 | no=>intro z;cases z) x μ
theorem qca {c f:Str}{ec:IE}{g:Fm}{es:List IE}{m:MS}{xs:List Itm}{x:Itm}{μ:List Cell}{o:z7} (h1:vE es m = .ok xs) (h2:g xs m.μ = .ok x μ) (h3:(mDo (ec ⟨m.s,μ⟩) fun y=>yE c f ⟨m.s,μ⟩ (cellAt ⟨m.s,μ⟩ y) x μ)=o):Q9 c f ec g es m=o:=by
 unfold Q9
 rw[h1]
 show (match g xs m.μ with | .ok x μ=>_ | .er c=>_ | .no=>_)=_
 rw[h2]
 exact h3
theorem vS {a b:RM}{m:MS}{z:Int} (h:a m=yr z):yj (wI a b m)=Q0 z:=by rw[ud h,ue]
theorem z8 {i:Nat}{e:IE}{m:MS}{x:Itm} (h:e m = .ok x):yJ i e m = .nx ⟨m.s.set i (some x),m.μ⟩:=by
 unfold yJ
 rw[h]
 rfl
noncomputable def xI:RS:=(vK (uM (.one 1) (v8 (wu yX (qc (qa 0) qi))) xx (qh oIx (qh oIx (qa 0) (qa 1)) (qa 1)) [1]))
noncomputable def w8:Fn:=fun ds=>res (xI (sl0 ["grid","i"] ds))
theorem Ug {n:Nat}{a:List (List Nat)} (h:Tb n n a) (hn:n<1000000):w8 [tD a] = .ok (rD ((List.range n).map fun i=>Pv.Table.at_ a i i),true):=by
 show res (xI [.val (tD a) false,.un])=_
 unfold xI
 have hc:=X7 (tg:=.one 1) (r:=qh oIx (qh oIx (qa 0) (qa 1)) (qa 1)) (vs:=[1]) (δ:=[.val (tD a) false,.un]) (k:=.sh) (f:=fun i=>.ok (Pv.Table.at_ a i i)) (zA (r:=wu yX (qc (qa 0) qi)) (n:=n) (k:=.nw) ((j9 (r:=qa 0) (k:=.sh) rfl).trans (by rw[List.length_map,h.len])) hn) (by rw[List.length_range];show n<16777216;lia) (fun i hi=>⟨[.val (tD a) false,.val (.int i) true],rfl,by
  have hi:=List.mem_range.mp hi
  have e1:qh oIx (qa 0) (qa 1) [.val (tD a) false,.val (.int i) true] = .ok (rD (a.getD i []),.sh):=(qk (x:=(tD a,.sh)) (y:=(.int i,.nw)) rfl rfl).trans (QW (YL a i (by rw[h.len];exact hi)))
  exact (qk e1 (y:=(.int i,.nw)) rfl).trans (QW (V0 _ i (by rw[h.wide _ (getD_mem [] (by rw[h.len];exact hi))];exact hi)))⟩)
 rw[jl] at hc
 exact (qak (α:=List Nat) (f:=fun ys=>ys.map fun (n:Nat)=>D.int n) rfl hc)
theorem x8 {g:Fm}{es:List IE}{m:MS}{xs:List Itm}{x:Itm}{μ:List Cell} (h1:vE es m = .ok xs) (h2:g xs m.μ = .ok x μ):yx g es m = .nx ⟨m.s,μ⟩:=by
 unfold yx mDo
 rw[h1]
 dsimp only
 rw[h2]
theorem ui {g:Fm}{es:List IE}{m:MS}{xs:List Itm}{z:Int} (h1:vE es m = .ok xs) (h2:g xs m.μ=Q0 z):yx g es m=yr z:=by
 unfold yx mDo
 rw[h1]
 dsimp only
 rw[h2]
 unfold Q0 yr
 by_cases c:z = -4
 ·rw[if_pos c,if_pos c]
 ·rw[if_neg c,if_neg c]
theorem Yz {i:Nat}{c:Str}{g:Fm}{es:List IE}{m:MS}{xs:List Itm}{x:Itm}{μ:List Cell} (h1:vE es m = .ok xs) (h2:g (.c m.μ.length::xs) (m.μ++[.ins c [] []]) = .ok x μ):xZ i c g es m = .nx ⟨m.s.set i (some (.c m.μ.length)),μ⟩:=by
 unfold xZ mDo
 rw[h1]
 dsimp only
 rw[h2]
theorem qcn (l k:List Nat):yz (.rows l k) = .ok (.lst ((.int l.length::l.map fun (n:Nat)=>D.int n)++(.int k.length::k.map fun (n:Nat)=>D.int n)),true):=by
 show Rs.ok (D.lst ((TableNeutral.rowN (TableNeutral.ints l)++TableNeutral.rowN (TableNeutral.ints k)).map D.int),true)=_
 rw[List.map_append]
 unfold TableNeutral.rowN TableNeutral.ints
 rw[List.map_cons,List.map_cons,List.map_map,List.map_map,List.length_map,List.length_map]
 rfl
theorem zG {o:Option Nat}{r:Nat} (ho:∀ v,o=some v->v<2^64) (h:Pv.step o = .ok r):r<2^64:=by
 cases o with
 | none=>cases h
 | some v=>cases h;exact ho _ rfl
theorem Xv {x y r:Nat} (h:Pv.mul x y=some r):r<2^64:=VY h
theorem jk {β S:Type}{f:S->β->Pv.Did S} (hf:∀ s b z,f s b = .error z->z = -3):∀ {l:List β}{s:S}{z:Int},l.foldlM f s = .error z->z = -3
 | [],_,_,h=>by cases h
 | b::l,s,z,h=>by
  rw[List.foldlM_cons] at h
  cases e:f s b with
  | error y=>rw[e] at h;cases h;exact hf s b _ e
  | ok s2=>rw[e] at h;exact jk hf (l:=l) (s:=s2) h
theorem qdl {q:RE}{δ:Dl}{t:Int}{k:Kd} (h:q δ = .ok (.int t,k)):qe wM (qc q qi) δ=if t <= 64 then .ok (.non,.nw) else .er "WrongCount":=by
 rw[qO (qf h qu)]
 show (wM [.int t]).bind _=_
 rw[ZQ]
 split <;> rfl
theorem qhN {c:PvCalls.Call} (h:PvCalls.goes c=false):yz (PvCalls.answer c) = .er "WrongCount":=by
 unfold PvCalls.answer
 rw[if_pos h]
 rfl
end Gr
namespace L2.Ir
open PySem
noncomputable def Qj (c f:Str) (ec:IE) (e:NN):RM:=fun m=>mDo (e m) fun xss=>mDo (ec ⟨m.s,y1 m.μ xss⟩) fun y=>yE c f ⟨m.s,y1 m.μ xss⟩ (cellAt ⟨m.s,y1 m.μ xss⟩ y) (.c (m.μ.length+xss.length)) (y1 m.μ xss)
noncomputable def qbd (g:Fm) (es:List IE):RM:=fun m=>mDo (vE es m) fun xs=>match g xs m.μ with
 | .ok x μ=>.rt x μ
 | .er c=>.er c
 | .no=>.no
end L2.Ir
namespace Gr
open PySem L2 L2.Ir Dt
theorem z9 {r:RE}{rr:RA}{δ:Dl}{z:Int} (h:r δ=erz z):qc r rr δ=erz z:=by unfold qc;rw[h,zj]
theorem yF {r:RE}{rr:RA}{δ:Dl}{z:Int}{x:DK} (h:r δ = .ok x) (h2:rr δ=erz z):qc r rr δ=erz z:=by unfold qc;rw[h,Rs.qM,h2,zj]
theorem xq {g:Fn}{r:RA}{δ:Dl}{z:Int} (h:r δ=erz z):qe g r δ=erz z:=by unfold qe;rw[h,zj]
theorem qf3 {r:RE}{δ:Dl}{z:Int} (hf:freeze δ=δ) (h:r δ=erz z):res (vK r δ)=erz z:=by
 unfold vK
 rw[hf,h]
 by_cases c:z = -4
 ·subst c;rfl
 ·unfold erz
  rw[if_neg c,if_neg c]
  rfl
theorem step_call {g:Fn}{r:RA}{δ:Dl}{xs:List DK}{o:Option Nat} (h:r δ = .ok xs) (hg:g (xs.map (·.1))=vm o):qe g r δ=dK (fun (n:Nat)=>(D.int n,.nw)) (Pv.step o):=jx (f:=fun (n:Nat)=>(D.int n,false)) h (hg.trans (qfr o))
theorem zW {x:Pv.Did Nat}{r:RE}{δ:Dl}{v:Nat} (h:r δ=dK (fun (n:Nat)=>(D.int n,.nw)) x) (e:x = .ok v):r δ = .ok (.int v,.nw):=by rw[h,e];rfl
theorem zV {x:Pv.Did Nat}{r:RE}{δ:Dl}{z:Int} (h:r δ=dK (fun (n:Nat)=>(D.int n,.nw)) x) (e:x = .error z):r δ=erz z:=by rw[h,e];rfl
theorem qia {x y z r:Nat} (h:Pv.F x y z = .ok r):r%2^63<9218868437227405312:=by
 unfold Pv.F at h
 cases e:Pv.fused x y z with
 | none=>rw[e] at h;cases h
 | some v=>rw[e] at h;cases h;exact qhn e
noncomputable def QC (p q t c s:Nat):D:=.obj "Turn" ["p","q","t","c","s"] [.int p,.int q,.int t,.int c,.int s]
noncomputable def ya:RS:=(vK (qe ve (qc (rUn (vW "Turn" "c") (qa 0)) (qc (qa 1) (qc (qe vI (qc (qe wj (qc (rUn (vW "Turn" "s") (qa 0)) (qc (qa 2) qi))) qi)) qi)))))
noncomputable def vH:Fn:=fun ds=>res (ya (sl0 ["turn","u","w"] ds))
noncomputable def Zz (c s u w:Nat):Pv.Did Nat:=(Pv.step (Pv.mul s w))>>=fun sw=>Pv.F c u (Pv.minus sw)
noncomputable def WA (c s u w:Nat):Pv.Did Nat:=(Pv.step (Pv.mul c w))>>=fun cw=>Pv.F s u cw
theorem YV (c s u w:Nat):Pv.turnPair c s u w=(Zz c s u w)>>=fun x=>(WA c s u w)>>=fun y=>.ok (x,y):=by
 unfold Pv.turnPair Zz WA
 cases Pv.step (Pv.mul s w) with
 | error z=>rfl
 | ok sw =>
  show ((Pv.F c u (Pv.minus sw))>>=_)=_
  rw[qR]
  cases Pv.F c u (Pv.minus sw) with
  | error z=>rfl
  | ok x =>
   rw[qR,qR]
   cases Pv.step (Pv.mul c w) with
   | error z=>rfl
   | ok cw =>
    rw[qR,qR]
    rfl
theorem Jz {r:RE}{δ:Dl}{v:Nat}{k:Kd} (h:r δ = .ok (.int v,k)) (hv:v<2^64):qe vI (qc r qi) δ = .ok (.int (Pv.minus v:Nat),.nw):=by
 refine (qU h (Wy (qx hv))).trans (qP ?_)
 rw[Int.toNat_natCast,Dm.WQ v hv]
theorem uR {p q t c s u w:Nat} (hc:c<2^64) (hs:s<2^64) (hu:u<2^64) (hw:w<2^64):vH [QC p q t c s,.int u,.int w]=dB (fun (n:Nat)=>(D.int n,false)) (Zz c s u w):=by
 show res (ya [.val (QC p q t c s) false,.val (.int u) false,.val (.int w) false])=_
 generalize hδ:[Sl.val (QC p q t c s) false,Sl.val (.int u) false,Sl.val (.int w) false]=δ
 have v0:rUn (vW "Turn" "c") (qa 0) δ = .ok (.int c,.sh):=by rw[<- hδ];rfl
 have v1:qa 1 δ = .ok (.int u,.sh):=by rw[<- hδ];rfl
 have v2:qa 2 δ = .ok (.int w,.sh):=by rw[<- hδ];rfl
 have vs:rUn (vW "Turn" "s") (qa 0) δ = .ok (.int s,.sh):=by rw[<- hδ];rfl
 have hfz:freeze δ=δ:=by rw[<- hδ];rfl
 have e1:=step_call (g:=wj) (r:=qc (rUn (vW "Turn" "s") (qa 0)) (qc (qa 2) qi)) (δ:=δ) (o:=Pv.mul s w) (qf vs (qf v2 qu)) (QG (qx hs) (qx hw))
 unfold ya Zz
 cases e:Pv.step (Pv.mul s w) with
 | error z =>
  refine qf3 hfz (xq (yF v0 (yF v1 (z9 (xq (z9 (zV e1 e)))))))
 | ok sw =>
  have hsw:sw<2^64:=zG (fun v q=>Xv q) e
  have e2:=step_call (g:=ve) (δ:=δ) (o:=Pv.fused c u (Pv.minus sw)) (qf v0 (qf v1 (qf (Jz (zW e1 e) hsw) qu))) (uq (qx hc) (qx hu) (qx (Wo hsw)))
  exact WM (f:=fun (n:Nat)=>D.int n) hfz e2
noncomputable def zY:RS:=(vK (qe ve (qc (rUn (vW "Turn" "s") (qa 0)) (qc (qa 1) (qc (qe wj (qc (rUn (vW "Turn" "c") (qa 0)) (qc (qa 2) qi))) qi)))))
noncomputable def vy:Fn:=fun ds=>res (zY (sl0 ["turn","u","w"] ds))
theorem uL {p q t c s u w:Nat} (hc:c<2^64) (hs:s<2^64) (hu:u<2^64) (hw:w<2^64):vy [QC p q t c s,.int u,.int w]=dB (fun (n:Nat)=>(D.int n,false)) (WA c s u w):=by
 show res (zY [.val (QC p q t c s) false,.val (.int u) false,.val (.int w) false])=_
 generalize hδ:[Sl.val (QC p q t c s) false,Sl.val (.int u) false,Sl.val (.int w) false]=δ
 have v0:rUn (vW "Turn" "c") (qa 0) δ = .ok (.int c,.sh):=by rw[<- hδ];rfl
 have v1:qa 1 δ = .ok (.int u,.sh):=by rw[<- hδ];rfl
 have v2:qa 2 δ = .ok (.int w,.sh):=by rw[<- hδ];rfl
 have vs:rUn (vW "Turn" "s") (qa 0) δ = .ok (.int s,.sh):=by rw[<- hδ];rfl
 have hfz:freeze δ=δ:=by rw[<- hδ];rfl
 have e1:=step_call (g:=wj) (r:=qc (rUn (vW "Turn" "c") (qa 0)) (qc (qa 2) qi)) (δ:=δ) (o:=Pv.mul c w) (qf v0 (qf v2 qu)) (QG (qx hc) (qx hw))
 unfold zY WA
 cases e:Pv.step (Pv.mul c w) with
 | error z =>
  refine qf3 hfz (xq (yF vs (yF v1 (z9 (zV e1 e)))))
 | ok cw =>
  have hcw:cw<2^64:=zG (fun v q=>Xv q) e
  have e2:=step_call (g:=ve) (δ:=δ) (o:=Pv.fused s u cw) (qf vs (qf v1 (qf (zW e1 e) qu))) (uq (qx hs) (qx hu) (qx hcw))
  exact WM (f:=fun (n:Nat)=>D.int n) hfz e2
theorem qcB {c s u w r:Nat} (h:Zz c s u w = .ok r):r<2^64:=by
 unfold Zz at h
 cases e:Pv.step (Pv.mul s w) with
 | error z=>rw[e] at h;cases h
 | ok v=>rw[e] at h;exact qcq h
theorem qcG {c s u w r:Nat} (h:WA c s u w = .ok r):r<2^64:=by
 unfold WA at h
 cases e:Pv.step (Pv.mul c w) with
 | error z=>rw[e] at h;cases h
 | ok v=>rw[e] at h;exact qcq h
noncomputable def yg:RS:=(vt (vd 2 (qh wm (qe qo (qc (qa 0) qi)) (rC (.int (500))))) (vt (vd 3 (wu qci (qc (qa 2) (qc (qe qo (qc (qa 1) qi)) qi)))) (vK (qh (yq fun i j=>decide (i<j)) (qh w4 (qe qy (qc (qa 0) qi)) (qh wg (qa 2) (qa 3))) (qh w4 (qe qy (qc (qa 1) qi)) (qh wg (qe qo (qc (qa 1) qi)) (qa 3)))))))
noncomputable def vV:Fn:=fun ds=>res (yg (sl0 ["z","e","power","low"] ds))
theorem qge {u w a b l:Nat} (ha:l <= a) (hb:l <= b):((u:Int)*2^(a-l)<(w:Int)*2^(b-l))↔u*2^a<w*2^b:=by
 have e1:u*2^a=u*2^(a-l)*2^l:=by rw[Nat.mul_assoc,<- Nat.pow_add,Nat.sub_add_cancel ha]
 have e2:w*2^b=w*2^(b-l)*2^l:=by rw[Nat.mul_assoc,<- Nat.pow_add,Nat.sub_add_cancel hb]
 rw[e1,e2,Nat.mul_lt_mul_right (Nat.two_pow_pos l)]
 constructor
 ·intro h;exact_mod_cast h
 ·intro h;exact_mod_cast h
theorem qf2 (x:Nat):Dm.ex x<2^11:=by
 have h:Dm.sz x<2^63:=Nat.mod_lt _ (by decide)
 unfold Dm.ex
 omega
theorem Wx {z e:Nat} (hz:z<2^64) (he:e<2^64):vV [.int z,.int e]=bv (decide (Pv.mag z*2^500<Pv.mag e)):=by
 show res (yg [.val (.int z) false,.val (.int e) false,.un,.un])=_
 have xz:Dm.ex z<2^11:=qf2 z
 have xe:Dm.ex e<2^11:=qf2 e
 generalize hA:Dm.ex z=A at xz
 generalize hB:Dm.ex e=B at xe
 have p0:∀ x y,qe qo (qc (qa 0) qi) [.val (.int z) false,.val (.int e) false,x,y] = .ok (.int ((A:Int)-1074),.nw):=fun x y=>(qU (x:=(.int z,.sh)) rfl (zr (qx hz))).trans (qP (by rw[Int.toNat_natCast,hA]))
 have p1:∀ x y,qe qo (qc (qa 1) qi) [.val (.int z) false,.val (.int e) false,x,y] = .ok (.int ((B:Int)-1074),.nw):=fun x y=>(qU (x:=(.int e,.sh)) rfl (zr (qx he))).trans (qP (by rw[Int.toNat_natCast,hB]))
 have w0:∀ x y,qe qy (qc (qa 0) qi) [.val (.int z) false,.val (.int e) false,x,y] = .ok (.int (Dm.wh z),.nw):=fun x y=>(qU (x:=(.int z,.sh)) rfl (zC (qx hz))).trans (qP (by rw[Int.toNat_natCast]))
 have w1:∀ x y,qe qy (qc (qa 1) qi) [.val (.int z) false,.val (.int e) false,x,y] = .ok (.int (Dm.wh e),.nw):=fun x y=>(qU (x:=(.int e,.sh)) rfl (zC (qx he))).trans (qP (by rw[Int.toNat_natCast]))
 unfold yg
 have s1:qh wm (qe qo (qc (qa 0) qi)) (rC (.int (500))) [.val (.int z) false,.val (.int e) false,.un,.un] = .ok (.int ((A:Int)-1074+500),.nw):=(qk (p0 _ _) (y:=(.int 500,.nw)) rfl).trans rfl
 rw[qE (jH s1)]
 obtain⟨l,hla,hlb,hl⟩:∃ l:Nat,l <= A+500/\l <= B/\(if (B:Int)-1074<(A:Int)-1074+500 then (B:Int)-1074 else (A:Int)-1074+500)=(l:Int)-1074:=by
  by_cases c:(B:Int)-1074<(A:Int)-1074+500
  ·exact⟨B,by lia,Nat.le_refl _,by rw[if_pos c]⟩
  ·exact⟨A+500,Nat.le_refl _,by lia,by rw[if_neg c];lia⟩
 have s2:wu qci (qc (qa 2) (qc (qe qo (qc (qa 1) qi)) qi)) [.val (.int z) false,.val (.int e) false,.val (.int ((A:Int)-1074+500)) true,.un] = .ok (.int ((l:Int)-1074),.nw):=by
  unfold wu
  rw[qf (x:=(.int ((A:Int)-1074+500),.nw)) rfl (qf (p1 _ _) qu)]
  show Rs.ok (D.int (if (B:Int)-1074<(A:Int)-1074+500 then (B:Int)-1074 else (A:Int)-1074+500),Kd.nw)=_
  rw[hl]
 show res (vt (vd 3 (wu qci (qc (qa 2) (qc (qe qo (qc (qa 1) qi)) qi)))) _ [.val (.int z) false,.val (.int e) false,.val (.int ((A:Int)-1074+500)) true,.un])=_
 rw[qE (jH s2)]
 have wz:=Dm.u4 z
 have we:=Dm.u4 e
 have a1:qh w4 (qe qy (qc (qa 0) qi)) (qh wg (qa 2) (qa 3)) [.val (.int z) false,.val (.int e) false,.val (.int ((A:Int)-1074+500)) true,.val (.int ((l:Int)-1074)) true] = .ok (.int ((Dm.wh z:Int)*2^(A+500-l)),.nw):=by
  rw[qk (w0 _ _) (y:=(.int ((A:Int)-1074+500-((l:Int)-1074)),.nw)) rfl,zb (by lia) (by lia) (Qc 53 (by decide) wz)]
  rw[show ((A:Int)-1074+500-((l:Int)-1074)).toNat=A+500-l by lia]
 have a2:qh w4 (qe qy (qc (qa 1) qi)) (qh wg (qe qo (qc (qa 1) qi)) (qa 3)) [.val (.int z) false,.val (.int e) false,.val (.int ((A:Int)-1074+500)) true,.val (.int ((l:Int)-1074)) true] = .ok (.int ((Dm.wh e:Int)*2^(B-l)),.nw):=by
  rw[qk (w1 _ _) ((qk (p1 _ _) (y:=(.int ((l:Int)-1074),.nw)) rfl).trans (show _=Rs.ok (D.int ((B:Int)-1074-((l:Int)-1074)),Kd.nw) from rfl)),zb (by lia) (by lia) (Qc 53 (by decide) we)]
  rw[show ((B:Int)-1074-((l:Int)-1074)).toNat=B-l by lia]
 have a3:=(qk (f:=yq fun i j=>decide (i<j)) a1 a2).trans (show _=Rs.ok (D.bl (decide ((Dm.wh z:Int)*2^(A+500-l)<(Dm.wh e:Int)*2^(B-l))),Kd.nw) from rfl)
 show res (vK _ [.val (.int z) false,.val (.int e) false,.val (.int ((A:Int)-1074+500)) true,.val (.int ((l:Int)-1074)) true])=_
 rw[vM a3]
 show Rs.ok (D.bl _,false)=Rs.ok (D.bl _,false)
 congr 3
 refine decide_eq_decide.mpr ?_
 rw[qge hla hlb,Dm.xk,Dm.xk,hA,hB,Nat.mul_assoc,<- Nat.pow_add]
noncomputable def y6:RS:=(vt (sIf (tBl (qe vV (qc (qa 0) (qc (qa 1) qi)))) (vK (qe vg (qc (qa 0) (qc (qa 1) qi)))) wC) (vt (vd 2 (qe vg (qc (qa 1) (qc (qe yw (qc (qa 0) (qc (qa 0) qi))) qi)))) (vt (vd 3 (qe yw (qc (qe qG (qc (qa 2) qi)) (qc (qe yy (qc (qe ve (qc (qa 2) (qc (qa 2) (qc (rC (.int (4607182418800017408))) qi)))) qi)) qi)))) (vt (vd 4 (qe vg (qc (rC (.int (4607182418800017408))) (qc (qa 3) qi)))) (vK (j8 (tBl (qh (yq fun i j=>decide (i<j)) (qe wZ (qc (qa 2) qi)) (rC (.int 0)))) (qe vI (qc (qa 4) qi)) (qa 4)))))))
noncomputable def zf:Fn:=fun ds=>res (y6 (sl0 ["z","e","h","g","t"] ds))
noncomputable def Qi (z e:Nat):Pv.Did Nat:=if Pv.mag z*2^500<Pv.mag e then Pv.step (Pv.div z e) else
 (Pv.step (Pv.add z z))>>=fun b=>(Pv.step (Pv.div e b))>>=fun h=>(Pv.F h h Pv.ONE)>>=fun r=>(Pv.step (Pv.sqrt r))>>=fun r=>(Pv.step (Pv.add (Pv.absolute h) r))>>=fun g=>(Pv.step (Pv.div Pv.ONE g))>>=fun t=>.ok (if Pv.less h Pv.ZERO=true then Pv.minus t else t)
theorem qeK (x:Pv.Table) (p q e:Nat):Pv.tangent x p q e=Qi (Pv.Table.at_ x p q) e:=rfl
theorem qg7 {r:RE}{δ:Dl}{z:Int} (hf:freeze δ=δ) (h:r δ=erz z):vK r δ=YX z:=by
 unfold vK
 rw[hf,h]
 by_cases c:z = -4
 ·subst c;rfl
 ·unfold erz YX
  rw[if_neg c,if_neg c]
theorem XU:Pv.ONE<2^64:=by decide
theorem Xh {z e:Nat} (hz:z<2^64) (he:e<2^64):zf [.int z,.int e]=dB (fun (n:Nat)=>(D.int n,false)) (Qi z e):=by
 show res (y6 [.val (.int z) false,.val (.int e) false,.un,.un,.un])=_
 unfold y6 Qi
 have t0:tBl (qe vV (qc (qa 0) (qc (qa 1) qi))) [.val (.int z) false,.val (.int e) false,.un,.un,.un] = .ok (decide (Pv.mag z*2^500<Pv.mag e)):=by
  refine wQ (k:=.nw) ?_
  rw[qO (qf (x:=(.int z,.sh)) rfl (qf (x:=(.int e,.sh)) rfl qu))]
  show (vV [.int z,.int e]).bind _=_
  rw[Wx hz he]
  rfl
 generalize Pv.mag z*2^500=M at t0 ⊢
 by_cases far:M<Pv.mag e
 ·rw[decide_eq_true far] at t0
  rw[if_pos far]
  have e1:=step_call (g:=vg) (r:=qc (qa 0) (qc (qa 1) qi)) (δ:=[.val (.int z) false,.val (.int e) false,.un,.un,.un]) (o:=Pv.div z e) (qf (x:=(.int z,.sh)) rfl (qf (x:=(.int e,.sh)) rfl qu)) (uA (qx hz) (qx he))
  cases q:Pv.step (Pv.div z e) with
  | error y=>rw[yA ((uh t0).trans (qg7 rfl (zV e1 q))),xm];rfl
  | ok y=>rw[uB ((uh t0).trans (vM (zW e1 q)))];rfl
 ·rw[decide_eq_false far] at t0
  have n0:sIf (tBl (qe vV (qc (qa 0) (qc (qa 1) qi)))) (vK (qe vg (qc (qa 0) (qc (qa 1) qi)))) wC [.val (.int z) false,.val (.int e) false,.un,.un,.un] = .nx [.val (.int z) false,.val (.int e) false,.un,.un,.un]:=(qbn t0).trans rfl
  rw[if_neg far,qE n0]
  have e1:=step_call (g:=yw) (r:=qc (qa 0) (qc (qa 0) qi)) (δ:=[.val (.int z) false,.val (.int e) false,.un,.un,.un]) (o:=Pv.add z z) (qf (x:=(.int z,.sh)) rfl (qf (x:=(.int z,.sh)) rfl qu)) (qau (qx hz) (qx hz))
  cases q1:Pv.step (Pv.add z z) with
  | error y=>rw[yA (xa (xq (yF (x:=(.int e,.sh)) rfl (z9 (zV e1 q1))))),xm];rfl
  | ok b =>
   have hb:b<2^64:=zG (fun v q=>Jo q) q1
   have e2:=step_call (g:=vg) (r:=qc (qa 1) (qc (qe yw (qc (qa 0) (qc (qa 0) qi))) qi)) (δ:=[.val (.int z) false,.val (.int e) false,.un,.un,.un]) (o:=Pv.div e b) (qf (x:=(.int e,.sh)) rfl (qf (zW e1 q1) qu)) (uA (qx he) (qx hb))
   rw[qR]
   cases q2:Pv.step (Pv.div e b) with
   | error y=>rw[yA (xa (zV e2 q2)),xm];rfl
   | ok h =>
    have hh:h<2^64:=zG (fun v q=>ZE q) q2
    rw[qE (jH (zW e2 q2)),qR]
    show res (vt _ _ [.val (.int z) false,.val (.int e) false,.val (.int h) true,.un,.un])=_
    have e3:=step_call (g:=ve) (r:=qc (qa 2) (qc (qa 2) (qc (rC (.int (4607182418800017408))) qi))) (δ:=[.val (.int z) false,.val (.int e) false,.val (.int h) true,.un,.un]) (o:=Pv.fused h h Pv.ONE) (qf (x:=(.int h,.nw)) rfl (qf (x:=(.int h,.nw)) rfl (qf (x:=(.int (Pv.ONE:Nat),.nw)) rfl qu))) (uq (qx hh) (qx hh) (qx XU))
    have s2:qe qG (qc (qa 2) qi) [.val (.int z) false,.val (.int e) false,.val (.int h) true,.un,.un] = .ok (.int (Pv.absolute h:Nat),.nw):=(qU (x:=(.int h,.nw)) rfl (xf (qx hh))).trans (qP (by unfold Pv.absolute;lia))
    cases q3:Pv.F h h Pv.ONE with
    | error y=>rw[yA (xa (xq (yF s2 (z9 (xq (z9 (zV e3 q3))))))),xm];rfl
    | ok r =>
     have hr:r<2^64:=qcq q3
     rw[qR]
     have e4:=step_call (g:=yy) (r:=qc (qe ve (qc (qa 2) (qc (qa 2) (qc (rC (.int (4607182418800017408))) qi)))) qi) (δ:=[.val (.int z) false,.val (.int e) false,.val (.int h) true,.un,.un]) (o:=Pv.sqrt r) (qf (zW e3 q3) qu) (qef (qdL hr (qia q3)))
     cases q4:Pv.step (Pv.sqrt r) with
     | error y=>rw[yA (xa (xq (yF s2 (z9 (zV e4 q4))))),xm];rfl
     | ok k =>
      have hk:k<2^64:=zG (fun v q=>qa2 hr q) q4
      have ha:Pv.absolute h<2^64:=by unfold Pv.absolute;lia
      rw[qR]
      have e5:=step_call (g:=yw) (r:=qc (qe qG (qc (qa 2) qi)) (qc (qe yy (qc (qe ve (qc (qa 2) (qc (qa 2) (qc (rC (.int (4607182418800017408))) qi)))) qi)) qi)) (δ:=[.val (.int z) false,.val (.int e) false,.val (.int h) true,.un,.un]) (o:=Pv.add (Pv.absolute h) k) (qf s2 (qf (zW e4 q4) qu)) (qau (qx ha) (qx hk))
      cases q5:Pv.step (Pv.add (Pv.absolute h) k) with
      | error y=>rw[yA (xa (zV e5 q5)),xm];rfl
      | ok g =>
       have hg:g<2^64:=zG (fun v q=>Jo q) q5
       rw[qE (jH (zW e5 q5)),qR]
       show res (vt _ _ [.val (.int z) false,.val (.int e) false,.val (.int h) true,.val (.int g) true,.un])=_
       have e6:=step_call (g:=vg) (r:=qc (rC (.int (4607182418800017408))) (qc (qa 3) qi)) (δ:=[.val (.int z) false,.val (.int e) false,.val (.int h) true,.val (.int g) true,.un]) (o:=Pv.div Pv.ONE g) (qf (x:=(.int (Pv.ONE:Nat),.nw)) rfl (qf (x:=(.int g,.nw)) rfl qu)) (uA (qx XU) (qx hg))
       cases q6:Pv.step (Pv.div Pv.ONE g) with
       | error y=>rw[yA (xa (zV e6 q6)),xm];rfl
       | ok t =>
        have ht:t<2^64:=zG (fun v q=>ZE q) q6
        rw[qE (jH (zW e6 q6)),qR]
        show res (vK _ [.val (.int z) false,.val (.int e) false,.val (.int h) true,.val (.int g) true,.val (.int t) true])=_
        have e7:tBl (qh (yq fun i j=>decide (i<j)) (qe wZ (qc (qa 2) qi)) (rC (.int 0))) [.val (.int z) false,.val (.int e) false,.val (.int h) true,.val (.int g) true,.val (.int t) true] = .ok (Pv.less h Pv.ZERO):=by
         refine wQ (k:=.nw) ((qk (x:=(.int (rk h),.nw)) (y:=(.int 0,.nw)) ((qU (x:=(.int h,.nw)) rfl (QN (qx hh))).trans (qP (by rw[Int.toNat_natCast]))) rfl).trans ?_)
         show Rs.ok (D.bl (decide (rk h<0)),Kd.nw)=_
         rw[qfn hh (by decide),show rk Pv.ZERO=0 by decide]
        cases cl:Pv.less h Pv.ZERO with
        | true =>
         rw[cl] at e7
         rw[vM (d:=.int (Pv.minus t:Nat)) ((Wz e7).trans (Jz (k:=.nw) rfl ht)),if_pos rfl]
         rfl
        | false =>
         rw[cl] at e7
         rw[vM (d:=.int t) ((WR e7).trans rfl),if_neg Bool.false_ne_true]
         rfl
theorem qfv {z e t:Nat} (h:Qi z e = .ok t):t<2^64:=by
 unfold Qi at h
 split at h
 ·exact zG (fun v q=>ZE q) h
 ·cases q1:Pv.step (Pv.add z z) with
  | error y=>rw[q1] at h;cases h
  | ok b =>
   rw[q1,qR] at h
   cases q2:Pv.step (Pv.div e b) with
   | error y=>rw[q2] at h;cases h
   | ok hh =>
    rw[q2,qR] at h
    cases q3:Pv.F hh hh Pv.ONE with
    | error y=>rw[q3] at h;cases h
    | ok r =>
     rw[q3,qR] at h
     cases q4:Pv.step (Pv.sqrt r) with
     | error y=>rw[q4] at h;cases h
     | ok k =>
      rw[q4,qR] at h
      cases q5:Pv.step (Pv.add (Pv.absolute hh) k) with
      | error y=>rw[q5] at h;cases h
      | ok g =>
       rw[q5,qR] at h
       cases q6:Pv.step (Pv.div Pv.ONE g) with
       | error y=>rw[q6] at h;cases h
       | ok t' =>
        rw[q6,qR] at h
        have ht:t'<2^64:=zG (fun v q=>ZE q) q6
        cases h
        split
        ·exact Wo ht
        ·exact ht
noncomputable def zp:RS:=(qaw (.two 1 2) (X9 (qe zu (qc (qa 0) qi)) (qe zu (qc (qe wa (qc (qa 0) qi)) qi))) (sIf (xK (tBl (qe vF (qc (qa 1) (qc (qa 2) qi))))) (wJ "NotAsTold") wC))
noncomputable def qW:Fn:=fun ds=>res (zp (sl0 ["a","x","y"] ds))
theorem Wr {A:Sl}:∀ (l:List (Nat × Nat)),(∀ p∈l,p.1<2^64/\p.2<2^64)->∀ u v,(((l.all fun p=>eqB p.1 p.2)=true->∃ u' v',turns (.two 1 2) (sIf (xK (tBl (qe vF (qc (qa 1) (qc (qa 2) qi))))) (wJ "NotAsTold") wC) (l.map fun p=>(.tup [.int p.1,.int p.2],.nw)) [A,u,v] = .nx [A,u',v']) /\
  ((l.all fun p=>eqB p.1 p.2)=false->turns (.two 1 2) (sIf (xK (tBl (qe vF (qc (qa 1) (qc (qa 2) qi))))) (wJ "NotAsTold") wC) (l.map fun p=>(.tup [.int p.1,.int p.2],.nw)) [A,u,v] = .er "NotAsTold"))
 | [],_,u,v=>⟨fun _=>⟨u,v,rfl⟩,fun h=>nomatch h⟩
 | p::l,hl,u,v=>by
  have hp:=hl p (.head _)
  have t0:xK (tBl (qe vF (qc (qa 1) (qc (qa 2) qi)))) [A,.val (.int p.1) true,.val (.int p.2) true] = .ok (!eqB p.1 p.2):=by
   have:tBl (qe vF (qc (qa 1) (qc (qa 2) qi))) [A,.val (.int p.1) true,.val (.int p.2) true] = .ok (eqB p.1 p.2):=by
    refine wQ (k:=.nw) ?_
    rw[qO (qf (x:=(.int p.1,.nw)) rfl (qf (x:=(.int p.2,.nw)) rfl qu))]
    show (vF [.int p.1,.int p.2]).bind _=_
    rw[JH (qx hp.1) (qx hp.2)]
    rfl
   unfold xK
   rw[this]
   rfl
  have ih:=Wr (A:=A) l (fun q hq=>hl q (.tail _ hq)) (.val (.int p.1) true) (.val (.int p.2) true)
  rw[List.map_cons,List.all_cons]
  have e:∀ r,turns (.two 1 2) (sIf (xK (tBl (qe vF (qc (qa 1) (qc (qa 2) qi))))) (wJ "NotAsTold") wC) ((D.tup [.int p.1,.int p.2],Kd.nw)::r) [A,u,v]=(match sIf (xK (tBl (qe vF (qc (qa 1) (qc (qa 2) qi))))) (wJ "NotAsTold") wC [A,.val (.int p.1) true,.val (.int p.2) true] with
   | .nx δ2=>turns (.two 1 2) (sIf (xK (tBl (qe vF (qc (qa 1) (qc (qa 2) qi))))) (wJ "NotAsTold") wC) r δ2
   | .ct δ2=>turns (.two 1 2) (sIf (xK (tBl (qe vF (qc (qa 1) (qc (qa 2) qi))))) (wJ "NotAsTold") wC) r δ2
   | .bk δ2=>.nx δ2
   | o=>o):=fun r=>rfl
  rw[e]
  cases c:eqB p.1 p.2 with
  | true =>
   rw[c] at t0
   rw[qbn t0,Bool.true_and]
   exact ih
  | false =>
   rw[c] at t0
   rw[uh t0,Bool.false_and]
   exact⟨fun h=>(by cases h),fun _=>rfl⟩
theorem flat_getD {n:Nat}:∀ {t:List (List Nat)},Wide n t->∀ i j,i<t.length->j<n->(PvCalls.flat t).getD (n*i+j) 0=Pv.Table.at_ t i j
 | [],_,i,j,hi,_=>absurd hi (Nat.not_lt_zero _)
 | r::t,h,i,j,hi,hj=>by
  have hr:r.length=n:=h r (.head _)
  have e:PvCalls.flat (r::t)=r++PvCalls.flat t:=by unfold PvCalls.flat;rw[List.flatMap_cons]
  rw[e,List.getD_eq_getElem?_getD]
  cases i with
  | zero =>
   rw[Nat.mul_zero,Nat.zero_add,List.getElem?_append_left (by lia),<- List.getD_eq_getElem?_getD]
   rfl
  | succ i =>
   have e2:n*(i+1)+j-r.length=n*i+j:=by rw[Nat.mul_succ,hr];lia
   rw[List.getElem?_append_right (by rw[Nat.mul_succ,hr];lia),e2,<- List.getD_eq_getElem?_getD,flat_getD (fun r hr=>h r (.tail _ hr)) i j (Nat.lt_of_succ_lt_succ hi) hj]
   rfl
theorem Ui {m n:Nat}{t:List (List Nat)} (h:Tb m n t):PvCalls.tableOf m n (PvCalls.flat t)=t:=by
 conv=>rhs;rw[qhl h]
 unfold PvCalls.tableOf Pv.tableBy
 refine List.map_congr_left fun i hi=>List.map_congr_left fun j hj=>?_
 exact flat_getD h.wide i j (by rw[h.len];exact List.mem_range.mp hi) (List.mem_range.mp hj)
theorem Wb {m n:Nat}{t:List (List Nat)} (h:Tb m n t):∀ v∈PvCalls.flat t,v<2^64:=fun v hv=>by
 unfold PvCalls.flat at hv
 obtain⟨r,hr,hv⟩:=List.mem_flatMap.mp hv
 exact h.b64 r hr v hv
theorem YE (l:List Nat):nats (l.map fun (n:Nat)=>(n:Int))=l:=by
 unfold nats
 rw[List.map_map]
 exact List.map_id'' (fun n=>Int.toNat_natCast n) l
theorem qeA {n:Nat}{a:List (List Nat)} (h:Tb n n a):(((PvCalls.flat a).zip (PvCalls.flat (Pv.flipped n n a))).all fun p=>eqB p.1 p.2)=Pv.mirrored n a:=by
 have hf:=qaN h
 have q:=qfx (as:=(PvCalls.flat a).map fun (n:Nat)=>(n:Int)) (bs:=(PvCalls.flat (Pv.flipped n n a)).map fun (n:Nat)=>(n:Int)) (M:=n) (N:=n) (by rw[List.length_map,yH h.wide,h.len]) (by rw[List.length_map,yH hf.wide,hf.len])
  (fun x hx=>by obtain⟨v,hv,rfl⟩:=List.mem_map.mp hx;exact qx (Wb h v hv)) (fun x hx=>by obtain⟨v,hv,rfl⟩:=List.mem_map.mp hx;exact qx (Wb hf v hv))
 rw[YE,YE,Ui h,Ui hf] at q
 unfold Pv.mirrored
 rw[<- q,List.zip_map,List.all_map]
 rfl
theorem Ql {n:Nat}{a:List (List Nat)} (h:Tb n n a) (h0:0<n) (hn:n <= 1000):qW [tD a]=if Pv.mirrored n a=true then .ok (.non,false) else .er "NotAsTold":=by
 show res (zp [.val (tD a) false,.un,.un])=_
 unfold zp
 have hf:=qaN h
 have hnn:n*n <= 1000*1000:=Nat.mul_le_mul hn hn
 have f1:qe zu (qc (qa 0) qi) [.val (tD a) false,.un,.un] = .ok (rD (PvCalls.flat a),.fr):=by
  rw[qO (qf (x:=(tD a,.sh)) rfl qu)]
  show (zu [tD a]).bind _=_
  rw[JO h.wide (by rw[h.len];lia)]
  rfl
 have f2:qe wa (qc (qa 0) qi) [.val (tD a) false,.un,.un] = .ok (tD (Pv.flipped n n a),.nw):=by
  rw[qO (qf (x:=(tD a,.sh)) rfl qu)]
  show (wa [tD a]).bind _=_
  rw[YZ h.len h0 (by show n<16777216;lia) h.wide h0 (by lia),qaQ h.len]
  rfl
 have f3:qe zu (qc (qe wa (qc (qa 0) qi)) qi) [.val (tD a) false,.un,.un] = .ok (rD (PvCalls.flat (Pv.flipped n n a)),.fr):=by
  rw[qO (qf f2 qu)]
  show (zu [tD (Pv.flipped n n a)]).bind _=_
  rw[JO hf.wide (by rw[hf.len];lia)]
  rfl
 have src:X9 (qe zu (qc (qa 0) qi)) (qe zu (qc (qe wa (qc (qa 0) qi)) qi)) [.val (tD a) false,.un,.un] = .ok (true,((PvCalls.flat a).zip (PvCalls.flat (Pv.flipped n n a))).map fun p=>(.tup [.int p.1,.int p.2],.nw)):=by
  unfold Ir.X9
  rw[f1,f3]
  show Rs.ok (true,(((PvCalls.flat a).map fun (n:Nat)=>D.int n).zip ((PvCalls.flat (Pv.flipped n n a)).map fun (n:Nat)=>D.int n)).map fun p=>(D.tup [p.1,p.2],Kd.nw))=_
  rw[List.zip_map,List.map_map]
  rfl
 have T:=Wr (A:=.val (tD a) false) ((PvCalls.flat a).zip (PvCalls.flat (Pv.flipped n n a))) (fun p hp=>⟨Wb h _ (List.of_mem_zip hp).1,Wb hf _ (List.of_mem_zip hp).2⟩) .un .un
 rw[qeA h] at T
 unfold qaw
 rw[src]
 dsimp only
 cases c:Pv.mirrored n a with
 | true =>
  obtain⟨u,v,e⟩:=T.1 c
  rw[e,if_pos rfl]
  rfl
 | false =>
  rw[T.2 c,if_neg Bool.false_ne_true]
  rfl
noncomputable abbrev vN (n:Nat):Itm:=.v (.int n) true
structure Kp (μ μ':List Cell) (b n:Nat):Prop where
 len:μ'.length=μ.length
 at_:∀ j,(j<b\/b+n <= j)->μ'[j]?=μ[j]?
theorem Kp.refl (μ:List Cell) (b n:Nat):Kp μ μ b n:=⟨rfl,fun _ _=>rfl⟩
theorem Kp.trans {μ ν ξ:List Cell}{b n:Nat} (h:Kp μ ν b n) (k:Kp ν ξ b n):Kp μ ξ b n:=⟨k.len.trans h.len,fun j hj=>(k.at_ j hj).trans (h.at_ j hj)⟩
theorem TabAt.kp {μ μ':List Cell}{k b b' n:Nat}{t:List (List Nat)} (T:TabAt μ k b t) (K:Kp μ μ' b' n) (hk:k<b'\/b'+n <= k) (hb:b+t.length <= b'\/b'+n <= b):TabAt μ' k b t :=
 ⟨fun i hi=>(K.at_ _ (by lia)).trans (T.rows i hi),(K.at_ k hk).trans T.ref,T.out⟩
theorem TabAt.app {μ:List Cell}{k b:Nat}{t:List (List Nat)} (T:TabAt μ k b t) (l:List Cell):TabAt (μ++l) k b t :=
 ⟨fun i hi=>by rw[List.getElem?_append_left (List.getElem?_eq_some_iff.mp (T.rows i hi)).1];exact T.rows i hi,by rw[List.getElem?_append_left (List.getElem?_eq_some_iff.mp T.ref).1];exact T.ref,T.out⟩
theorem jP {m:MS}{e:IE}{ri rj:RE}{k b n i j:Nat}{x:List (List Nat)}{k1 k2:Kd} (h:Tb n n x) (T:TabAt m.μ k b x) (he:e m = .ok (.c k)) (h1:ri (qJ m) = .ok (.int i,k1)) (h2:rj (qJ m) = .ok (.int j,k2)) (hi:i<n) (hj:j<n) :
  wW (wW e ri) rj m = .ok (vN (Pv.Table.at_ x i j)):=by
 have hil:i<x.length:=by rw[h.len];exact hi
 have hw:(x.getD i []).length=n:=h.wide _ (getD_mem [] hil)
 have e1:=UI T he h1 hil
 show (wW e ri m).bind _=_
 rw[e1,Rs.qM,h2,Rs.qM]
 have e2:cellAt m (.c (b+i))=some (b+i,YK (rX (x.getD i []))):=by
  show (m.μ[b+i]?).map _=_
  rw[T.rows i hil]
  rfl
 rw[e2]
 show jM ((ug ((rX (x.getD i [])).map fun d=>Itm.v d true).length (j:Int)).bind fun j'=>((rX (x.getD i [])).map fun d=>Itm.v d true)[j']?)=_
 rw[List.length_map,List.length_map,WH (by rw[hw];exact hj)]
 show jM (((rX (x.getD i [])).map fun d=>Itm.v d true)[j]?)=_
 rw[List.getElem?_map,V0 _ j (by rw[hw];exact hj)]
 rfl
theorem xU {m:MS}{e ev:IE}{ri rj:RE}{k b n i j y:Nat}{x:List (List Nat)}{k1 k2:Kd} (h:Tb n n x) (T:TabAt m.μ k b x) (he:e m = .ok (.c k)) (h1:ri (qJ m) = .ok (.int i,k1)) (h2:rj (qJ m) = .ok (.int j,k2)) (hv:ev m = .ok (vN y)) (hi:i<n) (hj:j<n) :
  ∃ μ',zK (wW e ri) rj ev m = .nx ⟨m.s,μ'⟩/\TabAt μ' k b (Pv.setAt x i j y)/\Kp m.μ μ' b n:=by
 have hil:i<x.length:=by rw[h.len];exact hi
 have hw:(x.getD i []).length=n:=h.wide _ (getD_mem [] hil)
 refine⟨_,qag T (UI T he h1 hil) hil h2 (by rw[hw];exact hj) hv,T.set hil _,by rw[List.length_set],fun l hl=>List.getElem?_set_ne (by lia)⟩
theorem QJ {m:MS}{ec ev:IE}{rj:RE}{α:Type}{f:α->Itm}{z:Int} (hv:ev m=dM f (.error z)):zK ec rj ev m=yr z:=by
 unfold zK
 rw[hv]
 exact qcy (f:=f) (x:=.error z)
noncomputable abbrev tnN:List Str:=["p","q","t","c","s"]
noncomputable def zl (μ:List Cell) (L p q t c s:Nat):Prop:=μ[L]?=some (.ins "Turn" tnN [vN p,vN q,vN t,vN c,vN s])
theorem zl.view {μ:List Cell}{L p q t c s:Nat} (W:zl μ L p q t c s):zh μ 3 (.c L)=some (QC p q t c s):=by
 unfold zh
 rw[show μ[L]?=_ from W]
 rfl
theorem zl.attr {s0:List (Option Itm)}{μ:List Cell}{L p q t c s i:Nat}{f:Str}{x:Itm} (W:zl μ L p q t c s) (hi:s0[i]?=some (some (.c L))) (hf:jM ((tnN.zip [vN p,vN q,vN t,vN c,vN s]).lookup f) = .ok x):zF "Turn" f (ieV i) ⟨s0,μ⟩ = .ok x:=by
 unfold zF ieV
 rw[hi]
 show J3 "Turn" f ((μ[L]?).map fun x=>(L,x))=_
 rw[show μ[L]?=_ from W]
 show (if ("Turn":Str)="Turn" then jM ((tnN.zip [vN p,vN q,vN t,vN c,vN s]).lookup f) else .no)=_
 rw[if_pos rfl]
 exact hf
theorem zl.kp {μ μ':List Cell}{L p q t c s b n:Nat} (W:zl μ L p q t c s) (K:Kp μ μ' b n) (hL:L<b\/b+n <= L):zl μ' L p q t c s:=(K.at_ L hL).trans W
noncomputable def yG:RM:=(wI (yJ 2 (zF "Turn" "p" (ieV 1))) (wI (yJ 3 (zF "Turn" "q" (ieV 1))) (wI (yJ 4 (wW (wW (ieV 0) (qa 2)) (qa 3))) (wI (zK (wW (ieV 0) (qa 2)) (qa 2) (Qu (qe ve (qc (qe vI (qc (rUn (vW "Turn" "t") (qa 1)) qi)) (qc (qa 4) (qc (qh oIx (qh oIx (qa 0) (qa 2)) (qa 2)) qi)))))) (wI (zK (wW (ieV 0) (qa 3)) (qa 3) (Qu (qe ve (qc (rUn (vW "Turn" "t") (qa 1)) (qc (qa 4) (qc (qh oIx (qh oIx (qa 0) (qa 3)) (qa 3)) qi)))))) (wI (zK (wW (ieV 0) (qa 2)) (qa 3) (jS (rC (.int 0)))) (zK (wW (ieV 0) (qa 3)) (qa 2) (jS (rC (.int 0))))))))))
noncomputable def wK:Fm:=fun xs μ=>yj (yG ⟨ms0 ["x","turn","p","q","z"] xs,μ⟩)
noncomputable def Uv (t p q:Nat) (x:Pv.Table):Pv.Did Pv.Table:=(Pv.F (Pv.minus t) (Pv.Table.at_ x p q) (Pv.Table.at_ x p p))>>=fun pp=>(Pv.F t (Pv.Table.at_ x p q) (Pv.Table.at_ x q q))>>=fun qq=>.ok (Pv.setAt (Pv.setAt (Pv.setAt (Pv.setAt x p p pp) q q qq) p q Pv.ZERO) q p Pv.ZERO)
theorem ZM {s0:List (Option Itm)}{μ:List Cell}{k b n i j a:Nat}{x:List (List Nat)}{ri rj:RE}{k1 k2:Kd} (h:Tb n n x) (T:TabAt μ k b x) (ha:s0[a]?=some (some (.c k))) (h1:ri (qJ ⟨s0,μ⟩) = .ok (.int i,k1)) (h2:rj (qJ ⟨s0,μ⟩) = .ok (.int j,k2)) (hi:i<n) (hj:j<n) :
  qh oIx (qh oIx (qa a) ri) rj (qJ ⟨s0,μ⟩) = .ok (.int (Pv.Table.at_ x i j),.sh):=by
 have hil:i<x.length:=by rw[h.len];exact hi
 have hw:(x.getD i []).length=n:=h.wide _ (getD_mem [] hil)
 exact (qk ((qk (wq ha (T.view 1)) h1).trans (QW (YL x i hil))) h2).trans (QW (V0 _ j (by rw[hw];exact hj)))
theorem qdw {x:Pv.Table}{i j i' j' v:Nat} (h:i'≠i\/j'≠j):Pv.Table.at_ (Pv.setAt x i j v) i' j'=Pv.Table.at_ x i' j':=by
 unfold Pv.Table.at_ Pv.setAt
 by_cases c:i=i'
 ·subst c
  have hj:j≠j':=by rcases h with h | h <;> lia
  by_cases hi:i<x.length
  ·have e:(x.set i ((x.getD i []).set j v)).getD i []=(x.getD i []).set j v:=by rw[List.getD_eq_getElem?_getD,List.getElem?_set_self hi];rfl
   rw[e,List.getD_eq_getElem?_getD,List.getElem?_set_ne hj,<- List.getD_eq_getElem?_getD]
  ·rw[List.set_eq_of_length_le (by lia)]
 ·have e:(x.set i ((x.getD i []).set j v)).getD i' []=x.getD i' []:=by rw[List.getD_eq_getElem?_getD,List.getElem?_set_ne c,<- List.getD_eq_getElem?_getD]
  rw[e]
theorem Yc {μ:List Cell}{k b L n p q t c s:Nat}{x:List (List Nat)} (h:Tb n n x) (T:TabAt μ k b x) (W:zl μ L p q t c s) (hp:p<n) (hq:q<n) (hpq:p≠q) (ht:t<2^64) (hL:L<b\/b+n <= L) :
  (∀ x',Uv t p q x = .ok x'->Tb n n x'/\∃ μ',wK [.c k,.c L] μ = .ok (.v .non true) μ'/\TabAt μ' k b x'/\Kp μ μ' b n)/\(∀ z,Uv t p q x = .error z->wK [.c k,.c L] μ=Q0 z):=by
 have e0:wK [.c k,.c L] μ=yj (yG ⟨[some (.c k),some (.c L),none,none,none],μ⟩):=rfl
 rw[e0]
 unfold yG
 have a1:yJ 2 (zF "Turn" "p" (ieV 1)) ⟨[some (.c k),some (.c L),none,none,none],μ⟩ = .nx ⟨[some (.c k),some (.c L),some (vN p),none,none],μ⟩:=z8 (W.attr rfl rfl)
 have a2:yJ 3 (zF "Turn" "q" (ieV 1)) ⟨[some (.c k),some (.c L),some (vN p),none,none],μ⟩ = .nx ⟨[some (.c k),some (.c L),some (vN p),some (vN q),none],μ⟩:=z8 (W.attr rfl rfl)
 have a3:yJ 4 (wW (wW (ieV 0) (qa 2)) (qa 3)) ⟨[some (.c k),some (.c L),some (vN p),some (vN q),none],μ⟩ = .nx ⟨[some (.c k),some (.c L),some (vN p),some (vN q),some (vN (Pv.Table.at_ x p q))],μ⟩:=z8 (jP h T rfl (qL (k:=true) rfl) (qL (k:=true) rfl) hp hq)
 rw[qS a1,qS a2,qS a3]
 generalize hz:Pv.Table.at_ x p q=z
 have hz64:z<2^64:=by rw[<- hz];exact h.uT p q
 generalize hs:[some (Itm.c k),some (Itm.c L),some (vN p),some (vN q),some (vN z)]=S
 have v1:∀ {ν:List Cell},zl ν L p q t c s->rUn (vW "Turn" "t") (qa 1) (qJ ⟨S,ν⟩) = .ok (.int t,.sh):=fun {ν} W=>by
  rw[<- hs]
  exact (yf (wq (x:=.c L) rfl W.view)).trans rfl
 have v2:∀ ν,qa 2 (qJ ⟨S,ν⟩) = .ok (.int p,.sh):=fun ν=>by rw[<- hs];exact qL (k:=true) rfl
 have v3:∀ ν,qa 3 (qJ ⟨S,ν⟩) = .ok (.int q,.sh):=fun ν=>by rw[<- hs];exact qL (k:=true) rfl
 have v4:∀ ν,qa 4 (qJ ⟨S,ν⟩) = .ok (.int z,.sh):=fun ν=>by rw[<- hs];exact qL (k:=true) rfl
 have i0:∀ ν,ieV 0 ⟨S,ν⟩ = .ok (.c k):=fun ν=>by rw[<- hs];rfl
 have s0:S[0]?=some (some (.c k)):=by rw[<- hs];rfl
 unfold Uv
 rw[hz]
 have f1:=step_call (g:=ve) (δ:=qJ ⟨S,μ⟩) (o:=Pv.fused (Pv.minus t) z (Pv.Table.at_ x p p)) (qf (Jz (v1 W) ht) (qf (v4 μ) (qf (ZM h T s0 (v2 μ) (v2 μ) hp hp) qu))) (uq (qx (Wo ht)) (qx hz64) (qx (h.uT p p)))
 have g1:=y4 (y:=fun (n:Nat)=>vN n) f1 fun a _=>rfl
 cases q1:Pv.F (Pv.minus t) z (Pv.Table.at_ x p p) with
 | error y =>
  have q1':Pv.step (Pv.fused (Pv.minus t) z (Pv.Table.at_ x p p)) = .error y:=q1
  rw[q1'] at g1
  refine⟨fun x' e=>(by cases e),fun z' e=>?_⟩
  cases e
  exact vS (QJ g1)
 | ok pp =>
  have q1':Pv.step (Pv.fused (Pv.minus t) z (Pv.Table.at_ x p p)) = .ok pp:=q1
  rw[q1'] at g1
  have hpp:pp<2^64:=qcq q1
  obtain⟨μ1,b1,T1,K1⟩:=xU (m:=⟨S,μ⟩) h T (i0 μ) (v2 μ) (v2 μ) g1 hp hp
  have h1:Tb n n (Pv.setAt x p p pp):=zS h hpp hp
  have W1:=W.kp K1 hL
  rw[qS b1,qR]
  have f2:=step_call (g:=ve) (δ:=qJ ⟨S,μ1⟩) (o:=Pv.fused t z (Pv.Table.at_ (Pv.setAt x p p pp) q q)) (qf (v1 W1) (qf (v4 μ1) (qf (ZM h1 T1 s0 (v3 μ1) (v3 μ1) hq hq) qu))) (uq (qx ht) (qx hz64) (qx (h1.uT q q)))
  rw[qdw (.inl (Ne.symm hpq))] at f2
  have g2:=y4 (y:=fun (n:Nat)=>vN n) f2 fun a _=>rfl
  cases q2:Pv.F t z (Pv.Table.at_ x q q) with
  | error y =>
   have q2':Pv.step (Pv.fused t z (Pv.Table.at_ x q q)) = .error y:=q2
   rw[q2'] at g2
   refine⟨fun x' e=>(by cases e),fun z' e=>?_⟩
   cases e
   exact vS (QJ g2)
  | ok qq =>
   have q2':Pv.step (Pv.fused t z (Pv.Table.at_ x q q)) = .ok qq:=q2
   rw[q2'] at g2
   have hqq:qq<2^64:=qcq q2
   obtain⟨μ2,b2,T2,K2⟩:=xU (m:=⟨S,μ1⟩) h1 T1 (i0 μ1) (v3 μ1) (v3 μ1) g2 hq hq
   have h2:Tb n n (Pv.setAt (Pv.setAt x p p pp) q q qq):=zS h1 hqq hq
   obtain⟨μ3,b3,T3,K3⟩:=xU (m:=⟨S,μ2⟩) (ev:=jS (rC (.int 0))) (y:=0) h2 T2 (i0 μ2) (v2 μ2) (v3 μ2) rfl hp hq
   have h3:Tb n n (Pv.setAt (Pv.setAt (Pv.setAt x p p pp) q q qq) p q 0):=zS h2 (by decide) hp
   obtain⟨μ4,b4,T4,K4⟩:=xU (m:=⟨S,μ3⟩) (ev:=jS (rC (.int 0))) (y:=0) h3 T3 (i0 μ3) (v3 μ3) (v2 μ3) rfl hq hp
   have h4:Tb n n (Pv.setAt (Pv.setAt (Pv.setAt (Pv.setAt x p p pp) q q qq) p q 0) q p 0):=zS h3 (by decide) hq
   rw[qS b2,qS b3,b4]
   refine⟨fun x' e=>?_,fun z' e=>(by cases e)⟩
   cases e
   exact⟨h4,μ4,rfl,T4,((K1.trans K2).trans K3).trans K4⟩
noncomputable def zO:RM:=(mIf (Vk (tBl (qh (oEq true) (qa 4) (qa 2))) (tBl (qh (oEq true) (qa 4) (qa 3)))) (wI (yJ 5 (wW (wW (ieV 0) (qa 4)) (qa 2))) (wI (yJ 6 (wW (wW (ieV 0) (qa 4)) (qa 3))) (wI (zK (wW (ieV 0) (qa 4)) (qa 2) (Qu (qe vH (qc (qa 1) (qc (qa 5) (qc (qa 6) qi)))))) (wI (zK (wW (ieV 0) (qa 2)) (qa 4) (wW (wW (ieV 0) (qa 4)) (qa 2))) (wI (zK (wW (ieV 0) (qa 4)) (qa 3) (Qu (qe vy (qc (qa 1) (qc (qa 5) (qc (qa 6) qi)))))) (zK (wW (ieV 0) (qa 3)) (qa 4) (wW (wW (ieV 0) (qa 4)) (qa 3)))))))) Uj)
noncomputable def yB:RM:=(wI (yJ 2 (zF "Turn" "p" (ieV 1))) (wI (yJ 3 (zF "Turn" "q" (ieV 1))) (ZV (.one 4) (wt (v8 (wu yX (qc (qa 0) qi)))) zO)))
noncomputable def wO:Fm:=fun xs μ=>yj (yB ⟨ms0 ["x","turn","p","q","i","u","w"] xs,μ⟩)
noncomputable def Z7 (c s p q:Nat) (y:Pv.Table) (i:Nat):Pv.Did Pv.Table:=if (i != p&&i != q)=true then (Pv.turnPair c s (Pv.Table.at_ y i p) (Pv.Table.at_ y i q))>>=fun u=>.ok (Pv.setAt (Pv.setAt (Pv.setAt (Pv.setAt y i p u.1) p i u.1) i q u.2) q i u.2) else .ok y
theorem UH {n i j v:Nat}{x:Pv.Table} (h:Tb n n x) (hi:i<n) (hj:j<n):Pv.Table.at_ (Pv.setAt x i j v) i j=v:=by
 unfold Pv.Table.at_ Pv.setAt
 have hil:i<x.length:=by rw[h.len];exact hi
 have hw:(x.getD i []).length=n:=h.wide _ (getD_mem [] hil)
 have e:(x.set i ((x.getD i []).set j v)).getD i []=(x.getD i []).set j v:=by rw[List.getD_eq_getElem?_getD,List.getElem?_set_self hil];rfl
 rw[e,List.getD_eq_getElem?_getD,List.getElem?_set_self (by rw[hw];exact hj)]
 rfl
theorem qaK {δ:Dl}{i j a c:Nat}{k1 k2:Kd} (h1:qa i δ = .ok (.int a,k1)) (h2:qa j δ = .ok (.int c,k2)):tBl (qh (oEq true) (qa i) (qa j)) δ = .ok (a != c):=by
 refine wQ (k:=.nw) ((qk h1 h2).trans ?_)
 show Rs.ok (D.bl (if true=true then !decide ((a:Int)=c) else _),Kd.nw)=_
 rw[if_pos rfl]
 have:(!decide ((a:Int)=c))=(a != c):=by
  rw[Bool.eq_iff_iff]
  simp
  lia
 rw[this]
theorem qdV {μ:List Cell}{k b L n p q t c s i:Nat}{y:List (List Nat)}{a5 a6:Option Itm} (h:Tb n n y) (T:TabAt μ k b y) (W:zl μ L p q t c s) (hp:p<n) (hq:q<n) (hpq:p≠q) (hi:i<n) (hc:c<2^64) (hs:s<2^64) (hL:L<b\/b+n <= L) :
  (∀ y',Z7 c s p q y i = .ok y'->∃ m',zO ⟨[some (.c k),some (.c L),some (vN p),some (vN q),some (vN i),a5,a6],μ⟩ = .nx m'/\Tb n n y'/\TabAt m'.μ k b y'/\Kp μ m'.μ b n/\∃ a5' a6',m'.s=[some (.c k),some (.c L),some (vN p),some (vN q),some (vN i),a5',a6']) /\
  (∀ z,Z7 c s p q y i = .error z->zO ⟨[some (.c k),some (.c L),some (vN p),some (vN q),some (vN i),a5,a6],μ⟩=yr z):=by
 unfold zO Z7
 have t0:Vk (tBl (qh (oEq true) (qa 4) (qa 2))) (tBl (qh (oEq true) (qa 4) (qa 3))) (qJ ⟨[some (.c k),some (.c L),some (vN p),some (vN q),some (vN i),a5,a6],μ⟩) = .ok (i != p&&i != q):=by
  unfold Vk
  rw[qaK (qL (k:=true) rfl) (qL (k:=true) rfl),Rs.qM,qaK (qL (k:=true) rfl) (qL (k:=true) rfl)]
  cases i != p <;> rfl
 cases g:(i != p&&i != q) with
 | false =>
  rw[g] at t0
  rw[qf7 t0,if_neg Bool.false_ne_true]
  refine⟨fun y' e=>?_,fun z e=>(by cases e)⟩
  cases e
  exact⟨_,rfl,h,T,Kp.refl _ _ _,_,_,rfl⟩
 | true =>
  rw[g] at t0
  have hip:i≠p:=by simp at g;exact g.1
  have hiq:i≠q:=by simp at g;exact g.2
  rw[qga t0,if_pos rfl,YV]
  have a1:yJ 5 (wW (wW (ieV 0) (qa 4)) (qa 2)) ⟨[some (.c k),some (.c L),some (vN p),some (vN q),some (vN i),a5,a6],μ⟩ = .nx ⟨[some (.c k),some (.c L),some (vN p),some (vN q),some (vN i),some (vN (Pv.Table.at_ y i p)),a6],μ⟩:=z8 (jP h T rfl (qL (k:=true) rfl) (qL (k:=true) rfl) hi hp)
  have a2:yJ 6 (wW (wW (ieV 0) (qa 4)) (qa 3)) ⟨[some (.c k),some (.c L),some (vN p),some (vN q),some (vN i),some (vN (Pv.Table.at_ y i p)),a6],μ⟩ = .nx ⟨[some (.c k),some (.c L),some (vN p),some (vN q),some (vN i),some (vN (Pv.Table.at_ y i p)),some (vN (Pv.Table.at_ y i q))],μ⟩:=z8 (jP h T rfl (qL (k:=true) rfl) (qL (k:=true) rfl) hi hq)
  rw[qS a1,qS a2]
  have hu:=h.uT i p
  have hw:=h.uT i q
  generalize Pv.Table.at_ y i p=u at hu ⊢
  generalize Pv.Table.at_ y i q=w at hw ⊢
  generalize hS:[some (Itm.c k),some (Itm.c L),some (vN p),some (vN q),some (vN i),some (vN u),some (vN w)]=S
  have v1:∀ {ν:List Cell},zl ν L p q t c s->qa 1 (qJ ⟨S,ν⟩) = .ok (QC p q t c s,.sh):=fun {ν} W=>by rw[<- hS];exact wq (x:=.c L) rfl W.view
  have v2:∀ ν,qa 2 (qJ ⟨S,ν⟩) = .ok (.int p,.sh):=fun ν=>by rw[<- hS];exact qL (k:=true) rfl
  have v3:∀ ν,qa 3 (qJ ⟨S,ν⟩) = .ok (.int q,.sh):=fun ν=>by rw[<- hS];exact qL (k:=true) rfl
  have v4:∀ ν,qa 4 (qJ ⟨S,ν⟩) = .ok (.int i,.sh):=fun ν=>by rw[<- hS];exact qL (k:=true) rfl
  have v5:∀ ν,qa 5 (qJ ⟨S,ν⟩) = .ok (.int u,.sh):=fun ν=>by rw[<- hS];exact qL (k:=true) rfl
  have v6:∀ ν,qa 6 (qJ ⟨S,ν⟩) = .ok (.int w,.sh):=fun ν=>by rw[<- hS];exact qL (k:=true) rfl
  have i0:∀ ν,ieV 0 ⟨S,ν⟩ = .ok (.c k):=fun ν=>by rw[<- hS];rfl
  have f1:qe vH (qc (qa 1) (qc (qa 5) (qc (qa 6) qi))) (qJ ⟨S,μ⟩)=dK (fun (n:Nat)=>(D.int n,.nw)) (Zz c s u w):=jx (f:=fun (n:Nat)=>(D.int n,false)) (qf (v1 W) (qf (v5 μ) (qf (v6 μ) qu))) (uR hc hs hu hw)
  have g1:=y4 (y:=fun (n:Nat)=>vN n) f1 fun a _=>rfl
  cases q1:Zz c s u w with
  | error z =>
   rw[q1] at g1
   refine⟨fun y' e=>(by cases e),fun z' e=>?_⟩
   cases e
   exact ud (QJ g1)
  | ok x1 =>
   rw[q1] at g1
   have hx1:x1<2^64:=qcB q1
   obtain⟨μ1,b1,T1,K1⟩:=xU (m:=⟨S,μ⟩) h T (i0 μ) (v4 μ) (v2 μ) g1 hi hp
   have h1:Tb n n (Pv.setAt y i p x1):=zS h hx1 hi
   have c1:=jP (m:=⟨S,μ1⟩) h1 T1 (i0 μ1) (v4 μ1) (v2 μ1) hi hp
   rw[UH h hi hp] at c1
   obtain⟨μ2,b2,T2,K2⟩:=xU (m:=⟨S,μ1⟩) h1 T1 (i0 μ1) (v2 μ1) (v4 μ1) c1 hp hi
   have h2:Tb n n (Pv.setAt (Pv.setAt y i p x1) p i x1):=zS h1 hx1 hp
   have W2:=(W.kp K1 hL).kp K2 hL
   have f2:qe vy (qc (qa 1) (qc (qa 5) (qc (qa 6) qi))) (qJ ⟨S,μ2⟩)=dK (fun (n:Nat)=>(D.int n,.nw)) (WA c s u w):=jx (f:=fun (n:Nat)=>(D.int n,false)) (qf (v1 W2) (qf (v5 μ2) (qf (v6 μ2) qu))) (uL hc hs hu hw)
   have g2:=y4 (y:=fun (n:Nat)=>vN n) f2 fun a _=>rfl
   rw[qS b1,qS b2,qR]
   cases q2:WA c s u w with
   | error z =>
    rw[q2] at g2
    refine⟨fun y' e=>(by cases e),fun z' e=>?_⟩
    cases e
    exact ud (QJ g2)
   | ok x2 =>
    rw[q2] at g2
    have hx2:x2<2^64:=qcG q2
    obtain⟨μ3,b3,T3,K3⟩:=xU (m:=⟨S,μ2⟩) h2 T2 (i0 μ2) (v4 μ2) (v3 μ2) g2 hi hq
    have h3:Tb n n (Pv.setAt (Pv.setAt (Pv.setAt y i p x1) p i x1) i q x2):=zS h2 hx2 hi
    have c3:=jP (m:=⟨S,μ3⟩) h3 T3 (i0 μ3) (v4 μ3) (v3 μ3) hi hq
    rw[UH h2 hi hq] at c3
    obtain⟨μ4,b4,T4,K4⟩:=xU (m:=⟨S,μ3⟩) h3 T3 (i0 μ3) (v3 μ3) (v4 μ3) c3 hq hi
    have h4:Tb n n (Pv.setAt (Pv.setAt (Pv.setAt (Pv.setAt y i p x1) p i x1) i q x2) q i x2):=zS h3 hx2 hq
    rw[qS b3,b4]
    refine⟨fun y' e=>?_,fun z' e=>(by cases e)⟩
    cases e
    exact⟨_,rfl,h4,T4,((K1.trans K2).trans K3).trans K4,_,_,hS.symm⟩
theorem Yf {μ:List Cell}{k b L n p q t c s:Nat}{x:List (List Nat)} (h:Tb n n x) (hn:n<1000000) (T:TabAt μ k b x) (W:zl μ L p q t c s) (hp:p<n) (hq:q<n) (hpq:p≠q) (hc:c<2^64) (hs:s<2^64) (hL:L<b\/b+n <= L) :
  (∀ x',(List.range n).foldlM (Z7 c s p q) x = .ok x'->Tb n n x'/\∃ μ',wO [.c k,.c L] μ = .ok (.v .non true) μ'/\TabAt μ' k b x'/\Kp μ μ' b n)/\(∀ z,(List.range n).foldlM (Z7 c s p q) x = .error z->wO [.c k,.c L] μ=Q0 z):=by
 have e0:wO [.c k,.c L] μ=yj (yB ⟨[some (.c k),some (.c L),none,none,none,none,none],μ⟩):=rfl
 rw[e0]
 unfold yB
 have a1:yJ 2 (zF "Turn" "p" (ieV 1)) ⟨[some (.c k),some (.c L),none,none,none,none,none],μ⟩ = .nx ⟨[some (.c k),some (.c L),some (vN p),none,none,none,none],μ⟩:=z8 (W.attr rfl rfl)
 have a2:yJ 3 (zF "Turn" "q" (ieV 1)) ⟨[some (.c k),some (.c L),some (vN p),none,none,none,none],μ⟩ = .nx ⟨[some (.c k),some (.c L),some (vN p),some (vN q),none,none,none],μ⟩:=z8 (W.attr rfl rfl)
 rw[qS a1,qS a2]
 have hsrc:wt (v8 (wu yX (qc (qa 0) qi))) ⟨[some (.c k),some (.c L),some (vN p),some (vN q),none,none,none],μ⟩ = .ok ((List.range n).map fun (k:Nat)=>(D.int k,.nw)):=by
  unfold wt
  rw[zA (n:=n) (k:=.nw) ((j9 (wq (x:=.c k) rfl (T.view 1))).trans (by rw[List.length_map,h.len])) hn]
  rfl
 have hfor:=z6 (tg:=.one 4) (body:=zO) (enc:=fun (k:Nat)=>(D.int k,Kd.nw)) (f:=Z7 c s p q) (l:=List.range n)
  (J:=fun y m=>Tb n n y/\TabAt m.μ k b y/\Kp μ m.μ b n/\∃ a4 a5 a6,m.s=[some (.c k),some (.c L),some (vN p),some (vN q),a4,a5,a6]) (by
   rintro i hi y ⟨s0,ν⟩ ⟨hy,Ty,Ky,a4,a5,a6,rfl⟩
   have B:=qdV (a5:=a5) (a6:=a6) hy Ty (W.kp Ky hL) hp hq hpq (List.mem_range.mp hi) hc hs hL
   refine⟨_,rfl,fun y' e=>?_,fun z e=>B.2 z e⟩
   obtain⟨m',r1,r2,r3,r4,a5',a6',r5⟩:=B.1 y' e
   exact⟨m',r1,r2,r3,Ky.trans r4,_,_,_,r5⟩) x ⟨[some (.c k),some (.c L),some (vN p),some (vN q),none,none,none],μ⟩ ⟨h,T,Kp.refl _ _ _,_,_,_,rfl⟩
 rw[xD hsrc]
 refine⟨fun x' e=>?_,fun z e=>?_⟩
 ·obtain⟨m',r1,r2,r3,r4,_⟩:=hfor.1 x' e
  rw[r1]
  exact⟨r2,m'.μ,rfl,r3,r4⟩
 ·rw[hfor.2 z e,ue]
noncomputable def zv:RM:=(wI (yJ 3 (wW (wW (ieV 0) (qa 2)) (rUn (vW "Turn" "p") (qa 1)))) (wI (yJ 4 (wW (wW (ieV 0) (qa 2)) (rUn (vW "Turn" "q") (qa 1)))) (wI (zK (wW (ieV 0) (qa 2)) (rUn (vW "Turn" "p") (qa 1)) (Qu (qe vH (qc (qa 1) (qc (qa 3) (qc (qa 4) qi)))))) (zK (wW (ieV 0) (qa 2)) (rUn (vW "Turn" "q") (qa 1)) (Qu (qe vy (qc (qa 1) (qc (qa 3) (qc (qa 4) qi)))))))))
noncomputable def yo:RM:=(ZV (.one 2) (wt (v8 (wu yX (qc (qa 0) qi)))) zv)
noncomputable def wo:Fm:=fun xs μ=>yj (yo ⟨ms0 ["v","turn","i","u","w"] xs,μ⟩)
noncomputable def Xf (c s p q:Nat) (y:Pv.Table) (i:Nat):Pv.Did Pv.Table:=(Pv.turnPair c s (Pv.Table.at_ y i p) (Pv.Table.at_ y i q))>>=fun z=>.ok (Pv.setAt (Pv.setAt y i p z.1) i q z.2)
theorem qem {μ:List Cell}{k b L n p q t c s i:Nat}{y:List (List Nat)}{a3 a4:Option Itm} (h:Tb n n y) (T:TabAt μ k b y) (W:zl μ L p q t c s) (hp:p<n) (hq:q<n) (hi:i<n) (hc:c<2^64) (hs:s<2^64) (hL:L<b\/b+n <= L) :
  (∀ y',Xf c s p q y i = .ok y'->∃ m',zv ⟨[some (.c k),some (.c L),some (vN i),a3,a4],μ⟩ = .nx m'/\Tb n n y'/\TabAt m'.μ k b y'/\Kp μ m'.μ b n/\∃ a3' a4',m'.s=[some (.c k),some (.c L),some (vN i),a3',a4']) /\
  (∀ z,Xf c s p q y i = .error z->zv ⟨[some (.c k),some (.c L),some (vN i),a3,a4],μ⟩=yr z):=by
 unfold zv Xf
 have vp:∀ {u w:Option Itm},rUn (vW "Turn" "p") (qa 1) (qJ ⟨[some (.c k),some (.c L),some (vN i),u,w],μ⟩) = .ok (.int p,.sh):=fun {u w}=>(yf (wq (x:=.c L) rfl W.view)).trans rfl
 have vq:∀ {u w:Option Itm},rUn (vW "Turn" "q") (qa 1) (qJ ⟨[some (.c k),some (.c L),some (vN i),u,w],μ⟩) = .ok (.int q,.sh):=fun {u w}=>(yf (wq (x:=.c L) rfl W.view)).trans rfl
 have a1:yJ 3 (wW (wW (ieV 0) (qa 2)) (rUn (vW "Turn" "p") (qa 1))) ⟨[some (.c k),some (.c L),some (vN i),a3,a4],μ⟩ = .nx ⟨[some (.c k),some (.c L),some (vN i),some (vN (Pv.Table.at_ y i p)),a4],μ⟩:=z8 (jP h T rfl (qL (k:=true) rfl) vp hi hp)
 have a2:yJ 4 (wW (wW (ieV 0) (qa 2)) (rUn (vW "Turn" "q") (qa 1))) ⟨[some (.c k),some (.c L),some (vN i),some (vN (Pv.Table.at_ y i p)),a4],μ⟩ = .nx ⟨[some (.c k),some (.c L),some (vN i),some (vN (Pv.Table.at_ y i p)),some (vN (Pv.Table.at_ y i q))],μ⟩:=z8 (jP h T rfl (qL (k:=true) rfl) vq hi hq)
 rw[qS a1,qS a2,YV]
 have hu:=h.uT i p
 have hw:=h.uT i q
 generalize Pv.Table.at_ y i p=u at hu ⊢
 generalize Pv.Table.at_ y i q=w at hw ⊢
 generalize hS:[some (Itm.c k),some (Itm.c L),some (vN i),some (vN u),some (vN w)]=S
 have v1:∀ {ν:List Cell},zl ν L p q t c s->qa 1 (qJ ⟨S,ν⟩) = .ok (QC p q t c s,.sh):=fun {ν} W=>by rw[<- hS];exact wq (x:=.c L) rfl W.view
 have v2:∀ ν,qa 2 (qJ ⟨S,ν⟩) = .ok (.int i,.sh):=fun ν=>by rw[<- hS];exact qL (k:=true) rfl
 have v3:∀ ν,qa 3 (qJ ⟨S,ν⟩) = .ok (.int u,.sh):=fun ν=>by rw[<- hS];exact qL (k:=true) rfl
 have v4:∀ ν,qa 4 (qJ ⟨S,ν⟩) = .ok (.int w,.sh):=fun ν=>by rw[<- hS];exact qL (k:=true) rfl
 have i0:∀ ν,ieV 0 ⟨S,ν⟩ = .ok (.c k):=fun ν=>by rw[<- hS];rfl
 have tp:∀ {ν:List Cell},zl ν L p q t c s->rUn (vW "Turn" "p") (qa 1) (qJ ⟨S,ν⟩) = .ok (.int p,.sh):=fun W=>(yf (v1 W)).trans rfl
 have tq:∀ {ν:List Cell},zl ν L p q t c s->rUn (vW "Turn" "q") (qa 1) (qJ ⟨S,ν⟩) = .ok (.int q,.sh):=fun W=>(yf (v1 W)).trans rfl
 have f1:qe vH (qc (qa 1) (qc (qa 3) (qc (qa 4) qi))) (qJ ⟨S,μ⟩)=dK (fun (n:Nat)=>(D.int n,.nw)) (Zz c s u w):=jx (f:=fun (n:Nat)=>(D.int n,false)) (qf (v1 W) (qf (v3 μ) (qf (v4 μ) qu))) (uR hc hs hu hw)
 have g1:=y4 (y:=fun (n:Nat)=>vN n) f1 fun a _=>rfl
 cases q1:Zz c s u w with
 | error z =>
  rw[q1] at g1
  refine⟨fun y' e=>(by cases e),fun z' e=>?_⟩
  cases e
  exact ud (QJ g1)
 | ok x1 =>
  rw[q1] at g1
  have hx1:x1<2^64:=qcB q1
  obtain⟨μ1,b1,T1,K1⟩:=xU (m:=⟨S,μ⟩) h T (i0 μ) (v2 μ) (tp W) g1 hi hp
  have h1:Tb n n (Pv.setAt y i p x1):=zS h hx1 hi
  have W1:=W.kp K1 hL
  have f2:qe vy (qc (qa 1) (qc (qa 3) (qc (qa 4) qi))) (qJ ⟨S,μ1⟩)=dK (fun (n:Nat)=>(D.int n,.nw)) (WA c s u w):=jx (f:=fun (n:Nat)=>(D.int n,false)) (qf (v1 W1) (qf (v3 μ1) (qf (v4 μ1) qu))) (uL hc hs hu hw)
  have g2:=y4 (y:=fun (n:Nat)=>vN n) f2 fun a _=>rfl
  rw[qS b1,qR]
  cases q2:WA c s u w with
  | error z =>
   rw[q2] at g2
   refine⟨fun y' e=>(by cases e),fun z' e=>?_⟩
   cases e
   exact QJ g2
  | ok x2 =>
   rw[q2] at g2
   have hx2:x2<2^64:=qcG q2
   obtain⟨μ2,b2,T2,K2⟩:=xU (m:=⟨S,μ1⟩) h1 T1 (i0 μ1) (v2 μ1) (tq W1) g2 hi hq
   rw[b2]
   refine⟨fun y' e=>?_,fun z' e=>(by cases e)⟩
   cases e
   exact⟨_,rfl,zS h1 hx2 hi,T2,K1.trans K2,_,_,hS.symm⟩
theorem Zr {μ:List Cell}{k b L n p q t c s:Nat}{x:List (List Nat)} (h:Tb n n x) (hn:n<1000000) (T:TabAt μ k b x) (W:zl μ L p q t c s) (hp:p<n) (hq:q<n) (hc:c<2^64) (hs:s<2^64) (hL:L<b\/b+n <= L) :
  (∀ x',(List.range n).foldlM (Xf c s p q) x = .ok x'->Tb n n x'/\∃ μ',wo [.c k,.c L] μ = .ok (.v .non true) μ'/\TabAt μ' k b x'/\Kp μ μ' b n)/\(∀ z,(List.range n).foldlM (Xf c s p q) x = .error z->wo [.c k,.c L] μ=Q0 z):=by
 have e0:wo [.c k,.c L] μ=yj (yo ⟨[some (.c k),some (.c L),none,none,none],μ⟩):=rfl
 rw[e0]
 unfold yo
 have hsrc:wt (v8 (wu yX (qc (qa 0) qi))) ⟨[some (.c k),some (.c L),none,none,none],μ⟩ = .ok ((List.range n).map fun (k:Nat)=>(D.int k,.nw)):=by
  unfold wt
  rw[zA (n:=n) (k:=.nw) ((j9 (wq (x:=.c k) rfl (T.view 1))).trans (by rw[List.length_map,h.len])) hn]
  rfl
 have hfor:=z6 (tg:=.one 2) (body:=zv) (enc:=fun (k:Nat)=>(D.int k,Kd.nw)) (f:=Xf c s p q) (l:=List.range n)
  (J:=fun y m=>Tb n n y/\TabAt m.μ k b y/\Kp μ m.μ b n/\∃ a2 a3 a4,m.s=[some (.c k),some (.c L),a2,a3,a4]) (by
   rintro i hi y ⟨s0,ν⟩ ⟨hy,Ty,Ky,a2,a3,a4,rfl⟩
   have B:=qem (a3:=a3) (a4:=a4) hy Ty (W.kp Ky hL) hp hq (List.mem_range.mp hi) hc hs hL
   refine⟨_,rfl,fun y' e=>?_,fun z e=>B.2 z e⟩
   obtain⟨m',r1,r2,r3,r4,a3',a4',r5⟩:=B.1 y' e
   exact⟨m',r1,r2,r3,Ky.trans r4,_,_,_,r5⟩) x ⟨[some (.c k),some (.c L),none,none,none],μ⟩ ⟨h,T,Kp.refl _ _ _,_,_,_,rfl⟩
 rw[xD hsrc]
 refine⟨fun x' e=>?_,fun z e=>?_⟩
 ·obtain⟨m',r1,r2,r3,r4,_⟩:=hfor.1 x' e
  rw[r1]
  exact⟨r2,m'.μ,rfl,r3,r4⟩
 ·rw[hfor.2 z e,ue]
noncomputable def yK:RM:=(wI (xP "Turn" "p" (ieV 0) (ieV 1)) (wI (xP "Turn" "q" (ieV 0) (ieV 2)) (wI (xP "Turn" "t" (ieV 0) (ieV 3)) (wI (xP "Turn" "c" (ieV 0) (jS (qe vg (qc (rC (.int (4607182418800017408))) (qc (qe yy (qc (qe ve (qc (qa 3) (qc (qa 3) (qc (rC (.int (4607182418800017408))) qi)))) qi)) qi))))) (xP "Turn" "s" (ieV 0) (Qu (qe wj (qc (qa 3) (qc (rUn (vW "Turn" "c") (qa 0)) qi)))))))))
noncomputable def wF:Fm:=fun xs μ=>yj (yK ⟨ms0 ["self","p","q","t"] xs,μ⟩)
theorem ZU (xs:List Itm) (μ:List Cell) (x:Itm) (μ':List Cell) (e:wF xs μ = .ok x μ'):x = .v .non true :=
 qcA (r:=yK) (jd uj (jd uj (jd uj (jd uj uj)))) e
theorem uc {s0:List (Option Itm)}{μ:List Cell}{c f:Str}{ns:List Str}{xs:List Itm}{x:Itm}{ev:IE} (h0:s0[0]?=some (some (.c μ.length))) (hv:ev ⟨s0,μ++[.ins c ns xs]⟩ = .ok x) (hl:ns.length<1000) (he:ns.length=xs.length) :
  xP c f (ieV 0) ev ⟨s0,μ++[.ins c ns xs]⟩ = .nx ⟨s0,μ++[.ins c (x6 f x ns xs).1 (x6 f x ns xs).2]⟩:=by
 unfold xP
 rw[hv]
 have e1:ieV 0 ⟨s0,μ++[.ins c ns xs]⟩ = .ok (.c μ.length):=by unfold ieV;rw[h0]
 show mDo (ieV 0 ⟨s0,μ++[.ins c ns xs]⟩) _=_
 rw[e1]
 have e2:cellAt ⟨s0,μ++[Cell.ins c ns xs]⟩ (.c μ.length)=some (μ.length,.ins c ns xs):=by
  show ((μ++[Cell.ins c ns xs])[μ.length]?).map _=_
  rw[List.getElem?_append_right (Nat.le_refl _),Nat.sub_self]
  rfl
 show yE c f _ (cellAt ⟨s0,μ++[Cell.ins c ns xs]⟩ (.c μ.length)) x _=_
 rw[e2]
 show (if c=c/\ns.length<1000/\ns.length=xs.length then z7.nx ⟨s0,(μ++[Cell.ins c ns xs]).set μ.length (.ins c (x6 f x ns xs).1 (x6 f x ns xs).2)⟩ else .no)=_
 rw[if_pos ⟨rfl,hl,he⟩,List.set_append_right _ _ (Nat.le_refl _),Nat.sub_self]
 rfl
theorem VV {m:MS}{c f:Str}{ec ev:IE}{α:Type}{g:α->Itm}{z:Int} (hv:ev m=dM g (.error z)):xP c f ec ev m=yr z:=by
 unfold xP
 rw[hv]
 exact qcy (f:=g) (x:=.error z)
theorem qcF {x:Pv.Did Nat}{r:RE}{m:MS} (h:r (vY m)=dK (fun (n:Nat)=>(D.int n,.nw)) x):jS r m=dM (fun (n:Nat)=>vN n) x:=by
 unfold jS
 rw[h]
 cases x with
 | ok a=>rfl
 | error z=>exact zj z _
noncomputable def Z5 (t:Nat):Pv.Did (Nat × Nat):=(Pv.F t t Pv.ONE)>>=fun k=>(Pv.step (Pv.sqrt k))>>=fun k=>(Pv.step (Pv.div Pv.ONE k))>>=fun c=>(Pv.step (Pv.mul t c))>>=fun s=>.ok (c,s)
theorem U6 {μ:List Cell}{p q t:Nat} (ht:t<2^64) :
  (∀ cs,Z5 t = .ok cs->cs.1<2^64/\cs.2<2^64/\wF [.c μ.length,vN p,vN q,vN t] (μ++[.ins "Turn" [] []]) = .ok (.v .non true) (μ++[.ins "Turn" tnN [vN p,vN q,vN t,vN cs.1,vN cs.2]]))/\(∀ z,Z5 t = .error z->wF [.c μ.length,vN p,vN q,vN t] (μ++[.ins "Turn" [] []])=Q0 z):=by
 have e0:wF [.c μ.length,vN p,vN q,vN t] (μ++[.ins "Turn" [] []])=yj (yK ⟨[some (.c μ.length),some (vN p),some (vN q),some (vN t)],μ++[.ins "Turn" [] []]⟩):=rfl
 rw[e0]
 unfold yK
 have s1:xP "Turn" "p" (ieV 0) (ieV 1) ⟨[some (.c μ.length),some (vN p),some (vN q),some (vN t)],μ++[.ins "Turn" [] []]⟩ = .nx ⟨[some (.c μ.length),some (vN p),some (vN q),some (vN t)],μ++[.ins "Turn" ["p"] [vN p]]⟩:=(uc (x:=vN p) rfl rfl (by decide) rfl).trans rfl
 have s2:xP "Turn" "q" (ieV 0) (ieV 2) ⟨[some (.c μ.length),some (vN p),some (vN q),some (vN t)],μ++[.ins "Turn" ["p"] [vN p]]⟩ = .nx ⟨[some (.c μ.length),some (vN p),some (vN q),some (vN t)],μ++[.ins "Turn" ["p","q"] [vN p,vN q]]⟩:=(uc (x:=vN q) rfl rfl (by show 1<1000;decide) rfl).trans rfl
 have s3:xP "Turn" "t" (ieV 0) (ieV 3) ⟨[some (.c μ.length),some (vN p),some (vN q),some (vN t)],μ++[.ins "Turn" ["p","q"] [vN p,vN q]]⟩ = .nx ⟨[some (.c μ.length),some (vN p),some (vN q),some (vN t)],μ++[.ins "Turn" ["p","q","t"] [vN p,vN q,vN t]]⟩:=(uc (x:=vN t) rfl rfl (by show 2<1000;decide) rfl).trans rfl
 rw[qS s1,qS s2,qS s3]
 generalize hm:(⟨[some (.c μ.length),some (vN p),some (vN q),some (vN t)],μ++[.ins "Turn" ["p","q","t"] [vN p,vN q,vN t]]⟩:MS)=m
 have v3:qa 3 (vY m) = .ok (.int t,.nw):=by rw[<- hm];rfl
 have f1:=step_call (g:=ve) (δ:=vY m) (o:=Pv.fused t t Pv.ONE) (qf v3 (qf v3 (qf (x:=(.int (Pv.ONE:Nat),.nw)) (ra:=rC (.int (4607182418800017408))) rfl qu))) (uq (qx ht) (qx ht) (qx XU))
 unfold Z5
 have q0:∀ z,qc (rC (.int (4607182418800017408))) z (vY m)=(z (vY m)).bind fun xs=>.ok ((.int (Pv.ONE:Nat),.nw)::xs):=fun z=>rfl
 cases q1:Pv.F t t Pv.ONE with
 | error y =>
  have g:=qcF (x:=.error y) (m:=m) (r:=qe vg (qc (rC (.int (4607182418800017408))) (qc (qe yy (qc (qe ve (qc (qa 3) (qc (qa 3) (qc (rC (.int (4607182418800017408))) qi)))) qi)) qi))) (xq (yF (x:=(.int (Pv.ONE:Nat),.nw)) rfl (z9 (xq (z9 (zV f1 q1))))))
  refine⟨fun cs e=>(by cases e),fun z' e=>?_⟩
  cases e
  exact vS (VV g)
 | ok k =>
  have hk:k<2^64:=qcq q1
  have f2:=step_call (g:=yy) (δ:=vY m) (o:=Pv.sqrt k) (qf (zW f1 q1) qu) (qef (qdL hk (qia q1)))
  rw[qR]
  cases q2:Pv.step (Pv.sqrt k) with
  | error y =>
   have g:=qcF (x:=.error y) (m:=m) (r:=qe vg (qc (rC (.int (4607182418800017408))) (qc (qe yy (qc (qe ve (qc (qa 3) (qc (qa 3) (qc (rC (.int (4607182418800017408))) qi)))) qi)) qi))) (xq (yF (x:=(.int (Pv.ONE:Nat),.nw)) rfl (z9 (zV f2 q2))))
   refine⟨fun cs e=>(by cases e),fun z' e=>?_⟩
   cases e
   exact vS (VV g)
  | ok r =>
   have hr:r<2^64:=zG (fun v q=>qa2 hk q) q2
   have f3:=step_call (g:=vg) (δ:=vY m) (o:=Pv.div Pv.ONE r) (qf (x:=(.int (Pv.ONE:Nat),.nw)) (ra:=rC (.int (4607182418800017408))) rfl (qf (zW f2 q2) qu)) (uA (qx XU) (qx hr))
   have g3:=qcF f3
   rw[qR]
   cases q3:Pv.step (Pv.div Pv.ONE r) with
   | error y =>
    rw[q3] at g3
    refine⟨fun cs e=>(by cases e),fun z' e=>?_⟩
    cases e
    exact vS (VV g3)
   | ok c =>
    rw[q3] at g3
    have hc:c<2^64:=zG (fun v q=>ZE q) q3
    rw[qR]
    subst hm
    have s4:=uc (f:="c") (x:=vN c) rfl g3 (by show 3<1000;decide) rfl
    have s4':=s4.trans (show _=z7.nx ⟨[some (.c μ.length),some (vN p),some (vN q),some (vN t)],μ++[.ins "Turn" ["p","q","t","c"] [vN p,vN q,vN t,vN c]]⟩ from rfl)
    rw[qS s4']
    have w0:rUn (vW "Turn" "c") (qa 0) (qJ ⟨[some (.c μ.length),some (vN p),some (vN q),some (vN t)],μ++[.ins "Turn" ["p","q","t","c"] [vN p,vN q,vN t,vN c]]⟩) = .ok (.int c,.sh):=by
     refine (yf (wq (x:=.c μ.length) (d:=.obj "Turn" ["p","q","t","c"] [.int p,.int q,.int t,.int c]) rfl ?_)).trans rfl
     unfold zh
     rw[List.getElem?_append_right (Nat.le_refl _),Nat.sub_self]
     rfl
    have f4:=step_call (g:=wj) (r:=qc (qa 3) (qc (rUn (vW "Turn" "c") (qa 0)) qi)) (δ:=qJ ⟨[some (.c μ.length),some (vN p),some (vN q),some (vN t)],μ++[.ins "Turn" ["p","q","t","c"] [vN p,vN q,vN t,vN c]]⟩) (o:=Pv.mul t c) (xs:=[(.int t,.sh),(.int c,.sh)]) (qf (qL (k:=true) rfl) (qf w0 qu)) (QG (qx ht) (qx hc))
    have g4:=y4 (y:=fun (n:Nat)=>vN n) f4 fun a _=>rfl
    cases q4:Pv.step (Pv.mul t c) with
    | error y =>
     rw[q4] at g4
     refine⟨fun cs e=>(by cases e),fun z' e=>?_⟩
     cases e
     rw[VV g4,ue]
    | ok s =>
     rw[q4] at g4
     have s5:=uc (f:="s") (x:=vN s) rfl g4 (by show 4<1000;decide) rfl
     refine⟨fun cs e=>?_,fun z' e=>(by cases e)⟩
     cases e
     refine⟨hc,zG (fun v q=>Xv q) q4,?_⟩
     rw[s5]
     rfl
noncomputable def ym:RM:=(qcL (uJ (.one 2) (v8 (qa 1)) xx (qe zd (qc (qa 0) (qc (qa 1) (qc (qa 2) qi)))) [2]))
noncomputable def zT:Fm:=fun xs μ=>yj (ym ⟨ms0 ["x","n","i"] xs,μ⟩)
theorem ZL {x n:Nat}{k1 k2:Bool}{μ:List Cell} (hn:n<1000000):zT [.v (.int x) k1,.v (.int n) k2] μ = .ok (.c (μ.length+n)) (y1 μ ((Pv.tableBy n n fun i j=>if i=j then x else Pv.ZERO).map rX)):=by
 have h1:uJ (.one 2) (v8 (qa 1)) xx (qe zd (qc (qa 0) (qc (qa 1) (qc (qa 2) qi)))) [2] ⟨[some (.v (.int x) k1),some (.v (.int n) k2),none],μ⟩ = .ok ((Pv.tableBy n n fun i j=>if i=j then x else Pv.ZERO).map rX):=by
  unfold uJ
  have hs:v8 (qa 1) (vY ⟨[some (.v (.int x) k1),some (.v (.int n) k2),none],μ⟩) = .ok (true,(List.range n).map fun (k:Nat)=>(D.int k,.nw)):=zA (k:=if k2=true then .nw else .sh) rfl hn
  rw[hs,Rs.qM,if_pos (by show ((List.range n).map _).length<LIM;rw[List.length_map,List.length_range];show n<16777216;lia)]
  refine (QY (enc:=fun (k:Nat)=>(D.int k,Kd.nw)) (f:=fun i=>rX ((List.range n).map fun j=>if i=j then x else Pv.ZERO)) fun j _=>⟨[.val (.int x) k1,.val (.int n) k2,.val (.int j) true],rfl,?_⟩).trans ?_
  ·rw[qO (qf (x:=(.int x,if k1=true then .nw else .sh)) rfl (qf (x:=(.int n,if k2=true then .nw else .sh)) rfl (qf (x:=(.int j,.nw)) rfl qu)))]
   show (zd [.int x,.int n,.int j]).bind _=_
   rw[Y4 hn]
   rfl
  ·unfold Pv.tableBy
   rw[List.map_map]
   rfl
 show yj (ym ⟨[some (.v (.int x) k1),some (.v (.int n) k2),none],μ⟩)=_
 unfold ym qcL
 rw[h1]
 show qbO.ok (.c (μ.length+((Pv.tableBy n n fun i j=>if i=j then x else Pv.ZERO).map rX).length)) _=_
 rw[List.length_map]
 unfold Pv.tableBy
 rw[List.length_map,List.length_range]
noncomputable def yZ:RM:=(qbd zT [(jS (rC (.int (4607182418800017408)))),(ieV 0)])
noncomputable def w6:Fm:=fun xs μ=>yj (yZ ⟨ms0 ["n"] xs,μ⟩)
theorem qc3 {g:Fm}{es:List IE}{m:MS}{xs:List Itm}{x:Itm}{μ:List Cell} (h1:vE es m = .ok xs) (h2:g xs m.μ = .ok x μ):qbd g es m = .rt x μ:=by
 unfold qbd mDo
 rw[h1]
 dsimp only
 rw[h2]
theorem XS {n:Nat}{k:Bool}{μ:List Cell} (hn:n<1000000):w6 [.v (.int n) k] μ = .ok (.c (μ.length+n)) (y1 μ ((Pv.unit_ n).map rX)):=by
 have e:vE [(jS (rC (.int (4607182418800017408)))),(ieV 0)] ⟨[some (.v (.int n) k)],μ⟩ = .ok [.v (.int (Pv.ONE:Nat)) true,.v (.int n) k]:=rfl
 have e2:=ZL (x:=Pv.ONE) (k1:=true) (k2:=k) (μ:=μ) hn
 have e3:yZ ⟨[some (.v (.int n) k)],μ⟩ = .rt _ _:=qc3 e e2
 have e4:w6 [.v (.int n) k] μ=yj (yZ ⟨[some (.v (.int n) k)],μ⟩):=by unfold w6;rfl
 rw[e4,e3]
 unfold Pv.unit_ yj
 rfl
noncomputable def zN:RM:=(wI (Qj "Turned" "x" (ieV 0) (uJ (.one 2) (iOf (qa 1)) xx (wu Uh (qc (qa 2) qi)) [2])) (Q9 "Turned" "v" (ieV 0) w6 [(jS (wu yX (qc (qa 1) qi)))]))
noncomputable def wR:Fm:=fun xs μ=>yj (zN ⟨ms0 ["self","a","row"] xs,μ⟩)
theorem UN {c f:Str}{ec:IE}{ev:NN}:Jm (Qj c f ec ev):=fun m x μ=>jF (fun a y ν=>jF (fun b z ξ=>QP z ξ) y ν) x μ
theorem Vt (xs:List Itm) (μ:List Cell) (x:Itm) (μ':List Cell) (e:wR xs μ = .ok x μ'):x = .v .non true :=
 qcA (r:=zN) (jd UN JK) e
structure Vw (μ:List Cell) (n:Nat) (x v:List (List Nat)):Prop where
 ins:μ[0]?=some (.ins "Turned" ["x","v"] [.c (1+n),.c (n+2+n)])
 tx:TabAt μ (1+n) 1 x
 tv:TabAt μ (n+2+n) (n+2) v
theorem Uy (μ:List Cell) (t:List (List Nat)):TabAt (y1 μ (t.map rX)) (μ.length+t.length) μ.length t:=by
 refine⟨fun i hi=>?_,?_,.inr (Nat.le_refl _)⟩
 ·unfold y1
  rw[List.getElem?_append_right (by lia),Nat.add_sub_cancel_left,List.getElem?_append_left (by rw[List.length_map,List.length_map];exact hi),List.getElem?_map,List.getElem?_map,List.getElem?_eq_getElem hi,List.getD_eq_getElem?_getD,List.getElem?_eq_getElem hi]
  rfl
 ·unfold y1
  rw[List.getElem?_append_right (by lia),Nat.add_sub_cancel_left,List.getElem?_append_right (by rw[List.length_map,List.length_map];exact Nat.le_refl _)]
  simp only[List.length_map,Nat.sub_self]
  rfl
theorem TabAt.qgG {μ:List Cell}{k b:Nat}{t:List (List Nat)} (T:TabAt μ k b t) (hk:0<k) (hb:0<b) (y:Cell):TabAt (μ.set 0 y) k b t :=
 ⟨fun i hi=>by rw[List.getElem?_set_ne (by lia)];exact T.rows i hi,by rw[List.getElem?_set_ne (by lia)];exact T.ref,T.out⟩
theorem Uc (μ:List Cell) (xss:List (List D)):(y1 μ xss).length=μ.length+xss.length+1:=by
 unfold y1
 rw[List.length_append,List.length_append,List.length_map]
 rfl
theorem qf6 {c f:Str}{s0:List (Option Itm)}{μ:List Cell}{ns:List Str}{xs:List Itm}{x:Itm} (h:μ[0]?=some (.ins c ns xs)) (h0:s0[0]?=some (some (.c 0))) (hl:ns.length<1000) (he:ns.length=xs.length) :
  (mDo (ieV 0 ⟨s0,μ⟩) fun y=>yE c f ⟨s0,μ⟩ (cellAt ⟨s0,μ⟩ y) x μ) = .nx ⟨s0,μ.set 0 (.ins c (x6 f x ns xs).1 (x6 f x ns xs).2)⟩:=by
 have e1:ieV 0 ⟨s0,μ⟩ = .ok (.c 0):=by unfold ieV;rw[h0]
 rw[e1]
 show yE c f ⟨s0,μ⟩ ((μ[0]?).map fun x=>(0,x)) x μ=_
 rw[h]
 show (if c=c/\ns.length<1000/\ns.length=xs.length then z7.nx ⟨s0,μ.set 0 (.ins c (x6 f x ns xs).1 (x6 f x ns xs).2)⟩ else .no)=_
 rw[if_pos ⟨rfl,hl,he⟩]
theorem Ya {n:Nat}{a:List (List Nat)} (h:Tb n n a) (hn:n<1000000):∃ μ,wR [.c 0,.v (tD a) false] [.ins "Turned" [] []] = .ok (.v .non true) μ/\Vw μ n a (Pv.unit_ n):=by
 show ∃ μ,yj (zN ⟨[some (.c 0),some (.v (tD a) false),none],[.ins "Turned" [] []]⟩) = .ok (.v .non true) μ/\_
 unfold zN
 generalize hA:Itm.v (tD a) false=A
 have h1:uJ (.one 2) (iOf (qa 1)) xx (wu Uh (qc (qa 2) qi)) [2] ⟨[some (.c 0),some A,none],[.ins "Turned" [] []]⟩ = .ok (a.map rX):=by
  unfold uJ
  have hs:iOf (qa 1) (vY ⟨[some (.c 0),some A,none],[.ins "Turned" [] []]⟩) = .ok (true,a.map fun r=>(rD r,Kd.sh)):=by
   rw[<- hA]
   show Rs.ok (true,(a.map rD).map fun d=>(d,Kd.sh))=_
   rw[List.map_map]
   rfl
  rw[hs,Rs.qM,if_pos (by show (a.map _).length<LIM;rw[List.length_map,h.len];show n<16777216;lia)]
  refine QY (enc:=fun r=>(rD r,Kd.sh)) (f:=rX) fun r hr=>⟨[.un,xh (some A),.val (rD r) false],rfl,?_⟩
  unfold wu
  rw[qf (x:=(rD r,.sh)) rfl qu]
  show Rs.ok (D.lst (rX r),kL (rX r) .sh)=_
  rw[Ux (xY r)]
 have T0:=Uy [Cell.ins "Turned" [] []] a
 have L0:=Uc [Cell.ins "Turned" [] []] (a.map rX)
 have I0:(y1 [Cell.ins "Turned" [] []] (a.map rX))[0]?=some (.ins "Turned" [] []):=rfl
 rw[h.len] at T0
 rw[List.length_map,h.len] at L0
 have s1:Qj "Turned" "x" (ieV 0) (uJ (.one 2) (iOf (qa 1)) xx (wu Uh (qc (qa 2) qi)) [2]) ⟨[some (.c 0),some A,none],[.ins "Turned" [] []]⟩ = .nx ⟨[some (.c 0),some A,none],(y1 [Cell.ins "Turned" [] []] (a.map rX)).set 0 (.ins "Turned" ["x"] [.c (1+n)])⟩:=by
  unfold Qj
  rw[h1]
  refine (qf6 (s0:=[some (.c 0),some A,none]) (f:="x") (x:=.c (1+(a.map rX).length)) I0 rfl (by decide) rfl).trans ?_
  rw[List.length_map,h.len]
  rfl
 rw[qS s1]
 have T1:=T0.qgG (Nat.lt_of_lt_of_le Nat.zero_lt_one (Nat.le_add_right 1 n)) (show 0<1 from Nat.zero_lt_one) (.ins "Turned" ["x"] [.c (1+n)])
 have I1:((y1 [Cell.ins "Turned" [] []] (a.map rX)).set 0 (.ins "Turned" ["x"] [.c (1+n)]))[0]?=some (.ins "Turned" ["x"] [.c (1+n)]):=rfl
 have L1:((y1 [Cell.ins "Turned" [] []] (a.map rX)).set 0 (.ins "Turned" ["x"] [.c (1+n)])).length=n+2:=by rw[List.length_set,L0];show 1+n+1=n+2;lia
 generalize (y1 [Cell.ins "Turned" [] []] (a.map rX)).set 0 (.ins "Turned" ["x"] [.c (1+n)])=μ1 at T1 I1 L1 ⊢
 have ln:vE [(jS (wu yX (qc (qa 1) qi)))] ⟨[some (.c 0),some A,none],μ1⟩ = .ok [.v (.int n) true]:=by
  have e:jS (wu yX (qc (qa 1) qi)) ⟨[some (.c 0),some A,none],μ1⟩ = .ok (.v (.int n) true):=by
   unfold jS
   rw[j9 (xs:=a.map rD) (k:=.sh) (by rw[<- hA];rfl),List.length_map,h.len]
   rfl
  unfold vE
  rw[e,Rs.qM]
  rfl
 have hu:(Pv.unit_ n).length=n:=by unfold Pv.unit_ Pv.tableBy;rw[List.length_map,List.length_range]
 have T2:=Uy μ1 (Pv.unit_ n)
 rw[hu,L1] at T2
 have X2:=T1.app (((Pv.unit_ n).map rX).map YK++[qd8 μ1.length ((Pv.unit_ n).map rX).length])
 have X2':TabAt (y1 μ1 ((Pv.unit_ n).map rX)) (1+n) 1 a:=X2
 have I2:(y1 μ1 ((Pv.unit_ n).map rX))[0]?=some (.ins "Turned" ["x"] [.c (1+n)]):=by
  unfold y1
  rw[List.getElem?_append_left (by lia)]
  exact I1
 have cu:=XS (k:=true) (μ:=μ1) hn
 rw[L1] at cu
 have s2:Q9 "Turned" "v" (ieV 0) w6 [(jS (wu yX (qc (qa 1) qi)))] ⟨[some (.c 0),some A,none],μ1⟩ = .nx ⟨[some (.c 0),some A,none],(y1 μ1 ((Pv.unit_ n).map rX)).set 0 (.ins "Turned" ["x","v"] [.c (1+n),.c (n+2+n)])⟩ :=
  qca ln cu ((qf6 (f:="v") (x:=.c (n+2+n)) I2 rfl (by show 1<1000;decide) rfl).trans rfl)
 rw[s2]
 refine⟨_,rfl,?_,X2'.qgG (by lia) (by lia) _,T2.qgG (by lia) (by lia) _⟩
 rw[List.getElem?_set_self (by rw[Uc];lia)]
theorem uX {β S:Type}{P:β->Bool}{f:S->β->Pv.Did S}:∀ (l:List β) (s:S),(l.filter P).foldlM f s=l.foldlM (fun s x=>if P x=true then f s x else .ok s) s
 | [],_=>rfl
 | x::l,s=>by
  cases c:P x with
  | true =>
   rw[List.filter_cons_of_pos c,List.foldlM_cons,List.foldlM_cons,c,if_pos rfl]
   congr 1
   funext s
   exact uX l s
  | false =>
   rw[List.filter_cons_of_neg (by rw[c];exact Bool.false_ne_true),List.foldlM_cons,c,if_neg Bool.false_ne_true,uX l s]
   rfl
theorem qbN (n:Nat) (w:Pv.Turn) (p q:Nat) (x:Pv.Table):Pv.turnBoth n w p q x=(Uv w.t p q x)>>=fun y=>(List.range n).foldlM (Z7 w.c w.s p q) y:=by
 unfold Pv.turnBoth Uv
 dsimp only
 cases Pv.F (Pv.minus w.t) (Pv.Table.at_ x p q) (Pv.Table.at_ x p p) with
 | error z=>rfl
 | ok pp =>
  simp only[qR]
  cases Pv.F w.t (Pv.Table.at_ x p q) (Pv.Table.at_ x q q) with
  | error z=>rfl
  | ok qq =>
   simp only[qR]
   rw[uX]
   rfl
theorem QQ {α β γ:Type} (x:Pv.Did α) (f:α->Pv.Did β) (g:β->Pv.Did γ):((x>>=f)>>=g)=x>>=fun a=>f a>>=g:=by
 cases x with
 | error z=>rfl
 | ok a=>rfl
theorem qbX (x:Pv.Table) (p q:Nat):Pv.turnOf x p q=(Pv.step (Pv.sub (Pv.Table.at_ x q q) (Pv.Table.at_ x p p)))>>=fun e=>(Qi (Pv.Table.at_ x p q) e)>>=fun t=>(Z5 t)>>=fun cs=>.ok ⟨t,cs.1,cs.2⟩:=by
 have tI:Pv.tangent x p q=Qi (Pv.Table.at_ x p q):=funext fun e=>qeK x p q e
 unfold Pv.turnOf Z5
 rw[tI]
 generalize Qi (Pv.Table.at_ x p q)=T
 generalize Pv.ONE=O
 simp only[QQ,qR]
 rfl
theorem Jw {r:RE}{δ:Dl}{g:Nat}{k:Kd} (h:r δ = .ok (.int g,k)) (hg:g<2^64):tBl (qe vQ (qc r qi)) δ = .ok (decide (Pv.mag g=0)):=by
 refine wQ (k:=.nw) ((qU h (Q5 (qx hg))).trans ?_)
 show Rs.ok (D.bl (decide ((g:Int)%9223372036854775808=0)),Kd.nw)=_
 have:((g:Int)%9223372036854775808=0)↔Pv.mag g=0:=by rw[Dm.v7];unfold Dm.sz;lia
 rw[decide_eq_decide.mpr this]
theorem qeG {a b:RM}{m:MS}{x:Itm}{μ:List Cell} (h:a m = .rt x μ):wI a b m = .rt x μ:=by unfold wI;rw[h];rfl
theorem qfF {α:Type}{x:Rs α}{f:α->z7}{z:Int} (h:x=erz z):mDo x f=yr z:=by
 rw[h]
 unfold erz yr
 by_cases c:z = -4
 ·rw[if_pos c,if_pos c];rfl
 ·rw[if_neg c,if_neg c];rfl
theorem X8 {i:Nat}{c:Str}{g:Fm}{es:List IE}{m:MS}{z:Int} (h:vE es m=erz z):xZ i c g es m=yr z:=qfF h
theorem qcl {i:Nat}{c:Str}{g:Fm}{es:List IE}{m:MS}{xs:List Itm}{z:Int} (h1:vE es m = .ok xs) (h2:g (.c m.μ.length::xs) (m.μ++[.ins c [] []])=Q0 z):xZ i c g es m=yr z:=by
 unfold xZ mDo
 rw[h1]
 dsimp only
 rw[h2]
 unfold Q0 yr
 by_cases c:z = -4
 ·rw[if_pos c,if_pos c]
 ·rw[if_neg c,if_neg c]
theorem qc8 {a b c:IE}{m:MS}{x y z:Itm} (h1:a m = .ok x) (h2:b m = .ok y) (h3:c m = .ok z):vE [a,b,c] m = .ok [x,y,z]:=by
 unfold vE vE vE vE
 rw[h1,h2,h3]
 rfl
theorem qbe {a b c:IE}{m:MS}{x y:Itm}{z:Int} (h1:a m = .ok x) (h2:b m = .ok y) (h3:c m=erz z):vE [a,b,c] m=erz z:=by
 unfold vE vE vE
 rw[h1,h2,h3,zj,Rs.qM,Rs.qM,zj,zj]
theorem qdf {a b:IE}{m:MS}{x y:Itm} (h1:a m = .ok x) (h2:b m = .ok y):vE [a,b] m = .ok [x,y]:=by
 unfold vE vE vE
 rw[h1,h2]
 rfl
theorem qa6 {s0:List (Option Itm)}{μ:List Cell}{i:Nat}{f:Str}{x a b:Itm} (h:μ[0]?=some (.ins "Turned" ["x","v"] [a,b])) (hi:s0[i]?=some (some (.c 0))) (hf:jM (((["x","v"]:List Str).zip [a,b]).lookup f) = .ok x):zF "Turned" f (ieV i) ⟨s0,μ⟩ = .ok x:=by
 unfold zF ieV
 rw[hi]
 show J3 "Turned" f ((μ[0]?).map fun x=>(0,x))=_
 rw[h]
 show (if ("Turned":Str)="Turned" then jM (((["x","v"]:List Str).zip [a,b]).lookup f) else .no)=_
 rw[if_pos rfl]
 exact hf
theorem sub_lt {x y r:Nat} (h:Pv.sub x y=some r):r<2^64:=Jo h
noncomputable def xA:RM:=(wI (yJ 3 (zF "Turned" "x" (ieV 0))) (wI (mIf (tBl (qe vQ (qc (qh oIx (qh oIx (qa 3) (qa 1)) (qa 2)) qi))) Qr Uj) (wI (xZ 4 "Turn" wF [(ieV 1),(ieV 2),(Qu (qe zf (qc (qh oIx (qh oIx (qa 3) (qa 1)) (qa 2)) (qc (qe yT (qc (qh oIx (qh oIx (qa 3) (qa 2)) (qa 2)) (qc (qh oIx (qh oIx (qa 3) (qa 1)) (qa 1)) qi))) qi))))]) (wI (yx wK [(ieV 3),(ieV 4)]) (wI (yx wO [(ieV 3),(ieV 4)]) (yx wo [(zF "Turned" "v" (ieV 0)),(ieV 4)]))))))
noncomputable def wH:Fm:=fun xs μ=>yj (xA ⟨ms0 ["turned","p","q","x","turn"] xs,μ⟩)
noncomputable def qdi (n p q:Nat) (x v:Pv.Table):Pv.Did (Pv.Table × Pv.Table) :=
 (Pv.step (Pv.sub (Pv.Table.at_ x q q) (Pv.Table.at_ x p p)))>>=fun e=>(Qi (Pv.Table.at_ x p q) e)>>=fun t=>(Z5 t)>>=fun cs=>(Uv t p q x)>>=fun y=>((List.range n).foldlM (Z7 cs.1 cs.2 p q) y)>>=fun x'=>((List.range n).foldlM (Xf cs.1 cs.2 p q) v)>>=fun v'=>.ok (x',v')
theorem Jb (n p q:Nat) (x v:Pv.Table):Pv.jacobiStep n (x,v) (p,q)=if Pv.mag (Pv.Table.at_ x p q)=0 then .ok (x,v) else qdi n p q x v:=by
 unfold Pv.jacobiStep qdi
 dsimp only
 rw[qbX]
 generalize Qi (Pv.Table.at_ x p q)=T
 generalize hI:Z5=I
 simp only[QQ,qR,qbN]
 rfl
theorem U0 {μ:List Cell}{n p q:Nat}{x v:List (List Nat)} (hx:Tb n n x) (hv:Tb n n v) (T:Vw μ n x v) (hn:n<1000000) (hp:p<n) (hq:q<n) (hpq:p≠q) :
  (∀ s,Pv.jacobiStep n (x,v) (p,q) = .ok s->Tb n n s.1/\Tb n n s.2/\∃ μ',wH [.c 0,vN p,vN q] μ = .ok (.v .non true) μ'/\Vw μ' n s.1 s.2)/\(∀ z,Pv.jacobiStep n (x,v) (p,q) = .error z->wH [.c 0,vN p,vN q] μ=Q0 z):=by
 have e0:wH [.c 0,vN p,vN q] μ=yj (xA ⟨[some (.c 0),some (vN p),some (vN q),none,none],μ⟩):=rfl
 rw[e0,Jb]
 unfold xA
 have a1:yJ 3 (zF "Turned" "x" (ieV 0)) ⟨[some (.c 0),some (vN p),some (vN q),none,none],μ⟩ = .nx ⟨[some (.c 0),some (vN p),some (vN q),some (.c (1+n)),none],μ⟩:=z8 (qa6 T.ins rfl rfl)
 rw[qS a1]
 have hL:n+2+n<μ.length:=(List.getElem?_eq_some_iff.mp T.tv.ref).1
 have g1:qh oIx (qh oIx (qa 3) (qa 1)) (qa 2) (qJ ⟨[some (.c 0),some (vN p),some (vN q),some (.c (1+n)),none],μ⟩) = .ok (.int (Pv.Table.at_ x p q),.sh):=ZM hx T.tx rfl (qL (k:=true) rfl) (qL (k:=true) rfl) hp hq
 have g2:qh oIx (qh oIx (qa 3) (qa 2)) (qa 2) (qJ ⟨[some (.c 0),some (vN p),some (vN q),some (.c (1+n)),none],μ⟩) = .ok (.int (Pv.Table.at_ x q q),.sh):=ZM hx T.tx rfl (qL (k:=true) rfl) (qL (k:=true) rfl) hq hq
 have g3:qh oIx (qh oIx (qa 3) (qa 1)) (qa 1) (qJ ⟨[some (.c 0),some (vN p),some (vN q),some (.c (1+n)),none],μ⟩) = .ok (.int (Pv.Table.at_ x p p),.sh):=ZM hx T.tx rfl (qL (k:=true) rfl) (qL (k:=true) rfl) hp hp
 have t0:=Jw g1 (hx.uT p q)
 by_cases hz:Pv.mag (Pv.Table.at_ x p q)=0
 ·rw[decide_eq_true hz] at t0
  have n0:mIf (tBl (qe vQ (qc (qh oIx (qh oIx (qa 3) (qa 1)) (qa 2)) qi))) Qr Uj ⟨[some (.c 0),some (vN p),some (vN q),some (.c (1+n)),none],μ⟩ = .rt (.v .non true) μ:=(qga t0).trans rfl
  rw[if_pos hz,qeG n0]
  refine⟨fun s e=>?_,fun z e=>(by cases e)⟩
  cases e
  exact⟨hx,hv,μ,rfl,T⟩
 ·rw[decide_eq_false hz] at t0
  have n0:mIf (tBl (qe vQ (qc (qh oIx (qh oIx (qa 3) (qa 1)) (qa 2)) qi))) Qr Uj ⟨[some (.c 0),some (vN p),some (vN q),some (.c (1+n)),none],μ⟩ = .nx ⟨[some (.c 0),some (vN p),some (vN q),some (.c (1+n)),none],μ⟩:=(qf7 t0).trans rfl
  rw[if_neg hz,qS n0]
  unfold qdi
  have f1:=step_call (g:=yT) (o:=Pv.sub (Pv.Table.at_ x q q) (Pv.Table.at_ x p p)) (qf g2 (qf g3 qu)) (qfj (qx (hx.uT q q)) (qx (hx.uT p p)))
  cases q1:Pv.step (Pv.sub (Pv.Table.at_ x q q) (Pv.Table.at_ x p p)) with
  | error y =>
   have f2:=y4 (f:=fun (n:Nat)=>(D.int n,Kd.nw)) (x:=.error y) (y:=fun (n:Nat)=>vN n) (r:=qe zf (qc (qh oIx (qh oIx (qa 3) (qa 1)) (qa 2)) (qc (qe yT (qc (qh oIx (qh oIx (qa 3) (qa 2)) (qa 2)) (qc (qh oIx (qh oIx (qa 3) (qa 1)) (qa 1)) qi))) qi))) (xq (yF g1 (z9 (zV f1 q1)))) fun a e=>(by cases e)
   refine⟨fun s e=>(by cases e),fun z e=>?_⟩
   cases e
   exact vS (X8 (qbe rfl rfl f2))
  | ok e =>
   have he:e<2^64:=zG (fun v q=>sub_lt q) q1
   have f2:qe zf (qc (qh oIx (qh oIx (qa 3) (qa 1)) (qa 2)) (qc (qe yT (qc (qh oIx (qh oIx (qa 3) (qa 2)) (qa 2)) (qc (qh oIx (qh oIx (qa 3) (qa 1)) (qa 1)) qi))) qi)) (qJ ⟨[some (.c 0),some (vN p),some (vN q),some (.c (1+n)),none],μ⟩)=dK (fun (n:Nat)=>(D.int n,.nw)) (Qi (Pv.Table.at_ x p q) e):=jx (f:=fun (n:Nat)=>(D.int n,false)) (qf g1 (qf (zW f1 q1) qu)) (Xh (hx.uT p q) he)
   have f3:=y4 (y:=fun (n:Nat)=>vN n) f2 fun a _=>rfl
   rw[qR]
   cases q2:Qi (Pv.Table.at_ x p q) e with
   | error y =>
    rw[q2] at f3
    refine⟨fun s e=>(by cases e),fun z e=>?_⟩
    cases e
    exact vS (X8 (qbe rfl rfl f3))
   | ok t =>
    rw[q2] at f3
    have ht:t<2^64:=qfv q2
    have A:=qc8 (a:=ieV 1) (b:=ieV 2) (x:=vN p) (y:=vN q) (m:=⟨[some (.c 0),some (vN p),some (vN q),some (.c (1+n)),none],μ⟩) rfl rfl f3
    obtain⟨i1,i2⟩:=U6 (μ:=μ) (p:=p) (q:=q) ht
    rw[qR]
    cases q3:Z5 t with
    | error y =>
     refine⟨fun s e=>(by cases e),fun z e=>?_⟩
     cases e
     exact vS (qcl A (i2 y q3))
    | ok cs =>
     obtain⟨hc,hs,i3⟩:=i1 cs q3
     have s2:xZ 4 "Turn" wF _ ⟨[some (.c 0),some (vN p),some (vN q),some (.c (1+n)),none],μ⟩ = .nx ⟨[some (.c 0),some (vN p),some (vN q),some (.c (1+n)),some (.c μ.length)],μ++[Cell.ins "Turn" tnN [vN p,vN q,vN t,vN cs.1,vN cs.2]]⟩:=Yz A i3
     rw[qR,qS s2]
     have W:zl (μ++[.ins "Turn" tnN [vN p,vN q,vN t,vN cs.1,vN cs.2]]) μ.length p q t cs.1 cs.2:=by
      show (μ++[Cell.ins "Turn" tnN [vN p,vN q,vN t,vN cs.1,vN cs.2]])[μ.length]?=_
      rw[List.getElem?_append_right (Nat.le_refl _),Nat.sub_self]
      rfl
     have I1:(μ++[Cell.ins "Turn" tnN [vN p,vN q,vN t,vN cs.1,vN cs.2]])[0]?=some (.ins "Turned" ["x","v"] [.c (1+n),.c (n+2+n)]):=by
      rw[List.getElem?_append_left (by lia)]
      exact T.ins
     have X1:=T.tx.app [Cell.ins "Turn" tnN [vN p,vN q,vN t,vN cs.1,vN cs.2]]
     have V1:=T.tv.app [Cell.ins "Turn" tnN [vN p,vN q,vN t,vN cs.1,vN cs.2]]
     generalize μ++[Cell.ins "Turn" tnN [vN p,vN q,vN t,vN cs.1,vN cs.2]]=μ1 at W I1 X1 V1 ⊢
     generalize μ.length=L at hL W ⊢
     generalize cs.1=c at hc W ⊢
     generalize cs.2=s at hs W ⊢
     have AX:∀ ν,vE [(ieV 3),(ieV 4)] ⟨[some (.c 0),some (vN p),some (vN q),some (.c (1+n)),some (.c L)],ν⟩ = .ok [.c (1+n),.c L]:=fun ν=>rfl
     have oL:L<1\/1+n <= L:=.inr (by lia)
     obtain⟨j1,j2⟩:=Yc hx X1 W hp hq hpq ht oL
     cases q4:Uv t p q x with
     | error y =>
      refine⟨fun s e=>(by cases e),fun z e=>?_⟩
      cases e
      exact vS (ui (AX _) (j2 y q4))
     | ok x1 =>
      obtain⟨hx1,μ2,j3,X2,K2⟩:=j1 x1 q4
      have W2:=W.kp K2 oL
      have V2:=V1.kp K2 (.inr (by lia)) (.inr (by lia))
      have I2:=(K2.at_ 0 (.inl Nat.zero_lt_one)).trans I1
      rw[qR,qS (x8 (AX _) j3)]
      obtain⟨k1,k2⟩:=Yf hx1 hn X2 W2 hp hq hpq hc hs oL
      cases q5:(List.range n).foldlM (Z7 c s p q) x1 with
      | error y =>
       refine⟨fun s e=>(by cases e),fun z e=>?_⟩
       cases e
       exact vS (ui (AX _) (k2 y q5))
      | ok x2 =>
       obtain⟨hx2,μ3,k3,X3,K3⟩:=k1 x2 q5
       have W3:=W2.kp K3 oL
       have V3:=V2.kp K3 (.inr (by lia)) (.inr (by lia))
       have I3:=(K3.at_ 0 (.inl Nat.zero_lt_one)).trans I2
       rw[qR,qS (x8 (AX _) k3)]
       have oV:L<n+2\/n+2+n <= L:=.inr (by lia)
       have AV:vE [(zF "Turned" "v" (ieV 0)),(ieV 4)] ⟨[some (.c 0),some (vN p),some (vN q),some (.c (1+n)),some (.c L)],μ3⟩ = .ok [.c (n+2+n),.c L]:=qdf (qa6 I3 rfl rfl) rfl
       obtain⟨l1,l2⟩:=Zr hv hn V3 W3 hp hq hc hs oV
       cases q6:(List.range n).foldlM (Xf c s p q) v with
       | error y =>
        refine⟨fun s e=>(by cases e),fun z e=>?_⟩
        cases e
        rw[ui AV (l2 y q6),ue]
       | ok v2 =>
        obtain⟨hv2,μ4,l3,V4,K4⟩:=l1 v2 q6
        have I4:=(K4.at_ 0 (.inl (by lia))).trans I3
        have X4:=X3.kp K4 (.inl (by lia)) (.inl (by rw[hx2.len];lia))
        rw[x8 AV l3]
        refine⟨fun s e=>?_,fun z e=>(by cases e)⟩
        cases e
        exact⟨hx2,hv2,μ4,rfl,I4,X4,V4⟩
noncomputable def tnD (x v:List (List Nat)):D:=.obj "Turned" ["x","v"] [tD x,tD v]
theorem Vw.view {μ:List Cell}{n:Nat}{x v:List (List Nat)} (T:Vw μ n x v):zh μ 3 (.c 0)=some (tnD x v):=by
 have h1:=T.tx.view 0
 have h2:=T.tv.view 0
 unfold zh
 rw[T.ins]
 dsimp only
 rw[List.mapM_cons,List.mapM_cons,List.mapM_nil]
 rw[h1,h2]
 rfl
theorem Vw.new {μ:List Cell}{n:Nat}{x v:List (List Nat)} (T:Vw μ n x v):yY μ 3 (.c 0)=some (tnD x v):=by
 have h1:=T.tx.new 0
 have h2:=T.tv.new 0
 unfold yY
 rw[T.ins]
 dsimp only
 rw[List.mapM_cons,List.mapM_cons,List.mapM_nil]
 rw[h1,h2]
 rfl
noncomputable def VO:RM:=(wI (yJ 1 (Qu (wu yX (qc (rUn (vW "Turned" "x") (qa 0)) qi)))) (ZV (.one 2) (wt (v8 (qh wg (qa 1) (rC (.int 1))))) (ZV (.one 3) (wt (jo (qh wm (qa 2) (rC (.int 1))) (qa 1))) (yx wH [(ieV 0),(ieV 2),(ieV 3)]))))
noncomputable def xJ:Fm:=fun xs μ=>yj (VO ⟨ms0 ["turned","n","p","q"] xs,μ⟩)
noncomputable def qbw (n p:Nat) (s:Pv.Table × Pv.Table):Pv.Did (Pv.Table × Pv.Table):=(Pv.span (p+1) n).foldlM (fun s q=>Pv.jacobiStep n s (p,q)) s
theorem Yq {α β S:Type}{f:S->β->Pv.Did S}{g:α->β}:∀ (l:List α) (s:S),(l.map g).foldlM f s=l.foldlM (fun s a=>f s (g a)) s
 | [],_=>rfl
 | a::l,s=>by
  rw[List.map_cons,List.foldlM_cons,List.foldlM_cons]
  congr 1
  funext t
  exact Yq l t
theorem Q3 {β S:Type}{f:S->β->Pv.Did S}:∀ (l k:List β) (s:S),(l++k).foldlM f s=(l.foldlM f s)>>=fun t=>k.foldlM f t
 | [],_,_=>rfl
 | a::l,k,s=>by
  rw[List.cons_append,List.foldlM_cons,List.foldlM_cons,QQ]
  congr 1
  funext t
  exact Q3 l k t
theorem Zw {α β S:Type}{f:S->β->Pv.Did S}{g:α->List β}:∀ (l:List α) (s:S),(l.flatMap g).foldlM f s=l.foldlM (fun s a=>(g a).foldlM f s) s
 | [],_=>rfl
 | a::l,s=>by
  rw[List.flatMap_cons,Q3,List.foldlM_cons]
  congr 1
  funext t
  exact Zw l t
theorem Jn (m:Nat) (s:Pv.Table × Pv.Table):(Pv.pairs (m+1)).foldlM (Pv.jacobiStep (m+1)) s=(List.range m).foldlM (fun s p=>qbw (m+1) p s) s:=by
 unfold Pv.pairs
 rw[Zw,List.range_succ,Q3]
 have e:(fun (s:Pv.Table × Pv.Table) (p:Nat)=>((Pv.span (p+1) (m+1)).map fun q=>(p,q)).foldlM (Pv.jacobiStep (m+1)) s)=fun s p=>qbw (m+1) p s:=by
  funext s p
  rw[Yq]
  rfl
 rw[e]
 cases (List.range m).foldlM (fun s p=>qbw (m+1) p s) s with
 | error z=>rfl
 | ok t =>
  have e2:Pv.span (m+1) (m+1)=[]:=by
   unfold Pv.span
   rw[Nat.sub_self]
   rfl
  show qbw (m+1) m t>>=_=_
  unfold qbw
  rw[e2]
  rfl
theorem qfa {μ:List Cell}{n:Nat}{x v:List (List Nat)} (hx:Tb n n x) (hv:Tb n n v) (T:Vw μ n x v) (h0:0<n) (hn:n<1000000) :
  (∀ s,(Pv.pairs n).foldlM (Pv.jacobiStep n) (x,v) = .ok s->Tb n n s.1/\Tb n n s.2/\∃ μ',xJ [.c 0] μ = .ok (.v .non true) μ'/\Vw μ' n s.1 s.2)/\(∀ z,(Pv.pairs n).foldlM (Pv.jacobiStep n) (x,v) = .error z->xJ [.c 0] μ=Q0 z):=by
 have e0:xJ [.c 0] μ=yj (VO ⟨[some (.c 0),none,none,none],μ⟩):=rfl
 rw[e0]
 unfold VO
 have s1:yJ 1 (Qu (wu yX (qc (rUn (vW "Turned" "x") (qa 0)) qi))) ⟨[some (.c 0),none,none,none],μ⟩ = .nx ⟨[some (.c 0),some (vN n),none,none],μ⟩:=by
  have v1:qa 0 (qJ ⟨[some (.c 0),none,none,none],μ⟩) = .ok (tnD x v,.sh):=wq (x:=.c 0) rfl T.view
  refine z8 (x:=vN n) ?_
  unfold Qu
  rw[j9 (xs:=x.map rD) (k:=.sh) ((yf v1).trans rfl),List.length_map,hx.len]
  rfl
 rw[qS s1]
 obtain⟨m,rfl⟩:∃ m,n=m+1:=⟨n-1,by lia⟩
 rw[Jn]
 have hsrc:wt (v8 (qh wg (qa 1) (rC (.int 1)))) ⟨[some (.c 0),some (vN (m+1)),none,none],μ⟩ = .ok ((List.range m).map fun (k:Nat)=>(D.int k,.nw)):=by
  unfold wt
  have e:qh wg (qa 1) (rC (.int 1)) (qJ ⟨[some (.c 0),some (vN (m+1)),none,none],μ⟩) = .ok (.int (m:Nat),.nw):=by
   refine (qk (x:=(.int ((m+1:Nat):Int),.sh)) (y:=(.int 1,.nw)) (qL (k:=true) rfl) rfl).trans ?_
   show Rs.ok (D.int (((m+1:Nat):Int)-1),Kd.nw)=_
   rw[show (((m+1:Nat):Int)-1)=(m:Nat) by lia]
  rw[zA e (by lia)]
  rfl
 have hfor:=z6 (tg:=.one 2) (body:=ZV (.one 3) (wt (jo (qh wm (qa 2) (rC (.int 1))) (qa 1))) (yx wH [(ieV 0),(ieV 2),(ieV 3)])) (enc:=fun (k:Nat)=>(D.int k,Kd.nw)) (f:=fun s p=>qbw (m+1) p s) (l:=List.range m)
  (J:=fun s M=>Tb (m+1) (m+1) s.1/\Tb (m+1) (m+1) s.2/\Vw M.μ (m+1) s.1 s.2/\∃ u w,M.s=[some (.c 0),some (vN (m+1)),u,w]) (by
   rintro p hp s ⟨sl,ν⟩ ⟨h1,h2,S,u,w,rfl⟩
   have hp:=List.mem_range.mp hp
   refine⟨⟨[some (.c 0),some (vN (m+1)),some (vN p),w],ν⟩,rfl,?_⟩
   have hsrc2:wt (jo (qh wm (qa 2) (rC (.int 1))) (qa 1)) ⟨[some (.c 0),some (vN (m+1)),some (vN p),w],ν⟩ = .ok ((Pv.span (p+1) (m+1)).map fun (k:Nat)=>(D.int k,.nw)):=by
    unfold wt
    rw[qar (i:=p+1) (j:=m+1) (k:=.nw) (l:=.sh) ((qk (x:=(.int p,.sh)) (qL (k:=true) rfl) (y:=(.int 1,.nw)) rfl).trans rfl) (qL (k:=true) rfl) (by lia) hn]
    rfl
   have hin:=z6 (tg:=.one 3) (body:=yx wH [(ieV 0),(ieV 2),(ieV 3)]) (enc:=fun (k:Nat)=>(D.int k,Kd.nw)) (f:=fun s q=>Pv.jacobiStep (m+1) s (p,q)) (l:=Pv.span (p+1) (m+1))
    (J:=fun s M=>Tb (m+1) (m+1) s.1/\Tb (m+1) (m+1) s.2/\Vw M.μ (m+1) s.1 s.2/\∃ w,M.s=[some (.c 0),some (vN (m+1)),some (vN p),w]) (by
     rintro q hq s ⟨sl,ξ⟩ ⟨h1,h2,S,w,rfl⟩
     obtain⟨hq1,hq2⟩:=qdS hq
     refine⟨⟨[some (.c 0),some (vN (m+1)),some (vN p),some (vN q)],ξ⟩,rfl,?_⟩
     have B:=U0 h1 h2 S hn (show p<m+1 by lia) hq2 (by lia)
     refine⟨fun s' e=>?_,fun z e=>ui rfl (B.2 z e)⟩
     obtain⟨r1,r2,ξ',r3,r4⟩:=B.1 s' e
     exact⟨_,x8 rfl r3,r1,r2,r4,_,rfl⟩) s ⟨[some (.c 0),some (vN (m+1)),some (vN p),w],ν⟩ ⟨h1,h2,S,w,rfl⟩
   refine⟨fun s' e=>?_,fun z e=>(xD hsrc2).trans (hin.2 z e)⟩
   obtain⟨⟨sl,ν'⟩,r1,r2,r3,r4,w',rfl⟩:=hin.1 s' e
   exact⟨_,(xD hsrc2).trans r1,r2,r3,r4,_,_,rfl⟩) (x,v) ⟨[some (.c 0),some (vN (m+1)),none,none],μ⟩ ⟨hx,hv,T,_,_,rfl⟩
 rw[xD hsrc]
 refine⟨fun s e=>?_,fun z e=>?_⟩
 ·obtain⟨M,r1,r2,r3,r4,_⟩:=hfor.1 s e
  rw[r1]
  exact⟨r2,r3,M.μ,rfl,r4⟩
 ·rw[hfor.2 z e,ue]
noncomputable def xN:RM:=(wI (Yr (qe qW (qc (qa 0) qi))) (wI (xZ 2 "Turned" wR [(ieV 0)]) (wI (ZV (.one 3) (wt (v8 (qa 1))) (yx xJ [(ieV 2)])) (qhp (ieV 2)))))
noncomputable def za:Fn:=fun ds=>Jt (xN ⟨ms0 ["a","sweeps","turned","done"] (it0 ds),[]⟩)
theorem jf (n:Nat):∀ (l:List Nat) (s:Pv.Table × Pv.Table),Pv.sweeps n l.length s=l.foldlM (fun s _=>(Pv.pairs n).foldlM (Pv.jacobiStep n) s) s
 | [],_=>rfl
 | _::l,s=>by
  rw[List.length_cons,List.foldlM_cons]
  show ((Pv.pairs n).foldlM (Pv.jacobiStep n) s)>>=_=_
  congr 1
  funext t
  exact jf n l t
theorem Vl {n K:Nat}{a:List (List Nat)} (h:Tb n n a) (h0:0<n) (hn:n <= 1000) (hK:K<1000000):za [tD a,.int K]=dB (fun s=>(tnD s.1 s.2,false)) (Pv.jacobi n a K)/\∀ s,Pv.jacobi n a K = .ok s->Tb n n s.1/\Tb n n s.2:=by
 have e0:za [tD a,.int K]=Jt (xN ⟨[some (.v (tD a) false),some (.v (.int K) false),none,none],[]⟩):=rfl
 rw[e0]
 unfold xN Pv.jacobi
 have c1:qe qW (qc (qa 0) qi) (qJ ⟨[some (.v (tD a) false),some (.v (.int K) false),none,none],[]⟩)=if Pv.mirrored n a=true then .ok (.non,.nw) else .er "NotAsTold":=by
  rw[qO (qf (x:=(tD a,.sh)) (qL (k:=false) rfl) qu)]
  show (qW [tD a]).bind _=_
  rw[Ql h h0 hn]
  split <;> rfl
 cases hm:Pv.mirrored n a with
 | false =>
  rw[hm,if_neg Bool.false_ne_true] at c1
  rw[if_pos rfl]
  have s1:Yr (qe qW (qc (qa 0) qi)) ⟨[some (.v (tD a) false),some (.v (.int K) false),none,none],[]⟩=yr (-4):=by
   unfold Yr mDo
   rw[c1]
   rfl
  refine⟨?_,fun s e=>(by cases e)⟩
  rw[ud s1,UW]
  rfl
 | true =>
  rw[hm,if_pos rfl] at c1
  rw[if_neg (show ¬ (true=false) from fun z=>nomatch z)]
  have s1:Yr (qe qW (qc (qa 0) qi)) ⟨[some (.v (tD a) false),some (.v (.int K) false),none,none],[]⟩ = .nx ⟨[some (.v (tD a) false),some (.v (.int K) false),none,none],[]⟩:=by
   unfold Yr mDo
   rw[c1]
  obtain⟨μ0,i1,T0⟩:=Ya h (by lia)
  have s2:xZ 2 "Turned" wR [(ieV 0)] ⟨[some (.v (tD a) false),some (.v (.int K) false),none,none],[]⟩ = .nx ⟨[some (.v (tD a) false),some (.v (.int K) false),some (.c 0),none],μ0⟩:=Yz rfl i1
  rw[qS s1,qS s2]
  generalize hA:Itm.v (tD a) false=A
  have hsrc:wt (v8 (qa 1)) ⟨[some A,some (.v (.int K) false),some (.c 0),none],μ0⟩ = .ok ((List.range K).map fun (k:Nat)=>(D.int k,.nw)):=by
   unfold wt
   rw[zA (r:=qa 1) (n:=K) (k:=.sh) (qL (k:=false) rfl) hK]
   rfl
  have hfor:=z6 (tg:=.one 3) (body:=yx xJ [(ieV 2)]) (enc:=fun (k:Nat)=>(D.int k,Kd.nw)) (f:=fun s _=>(Pv.pairs n).foldlM (Pv.jacobiStep n) s) (l:=List.range K)
   (J:=fun s M=>Tb n n s.1/\Tb n n s.2/\Vw M.μ n s.1 s.2/\∃ u,M.s=[some A,some (.v (.int K) false),some (.c 0),u]) (by
    rintro p hp s ⟨sl,ν⟩ ⟨h1,h2,S,u,rfl⟩
    refine⟨⟨[some A,some (.v (.int K) false),some (.c 0),some (vN p)],ν⟩,rfl,?_⟩
    have B:=qfa h1 h2 S h0 (by lia)
    refine⟨fun s' e=>?_,fun z e=>ui rfl (B.2 z e)⟩
    obtain⟨r1,r2,ξ',r3,r4⟩:=B.1 s' e
    exact⟨_,x8 rfl r3,r1,r2,r4,_,rfl⟩) (a,Pv.unit_ n) ⟨[some A,some (.v (.int K) false),some (.c 0),none],μ0⟩ ⟨h,qfy n,T0,_,rfl⟩
  have hs:=jf n (List.range K) (a,Pv.unit_ n)
  rw[List.length_range] at hs
  rw[<- hs] at hfor
  cases e:Pv.sweeps n K (a,Pv.unit_ n) with
  | error z =>
   refine⟨?_,fun s e=>(by cases e)⟩
   rw[ud ((xD hsrc).trans (hfor.2 z e)),UW]
   rfl
  | ok s =>
   obtain⟨⟨sl,μ⟩,q,t1,t2,S,u,rfl⟩:=hfor.1 s e
   refine⟨?_,fun s' e=>(by cases e;exact⟨t1,t2⟩)⟩
   rw[qS ((xD hsrc).trans q)]
   show qap μ (.c 0)=_
   unfold qap
   rw[show yY μ 3 (.c 0)=some (tnD s.1 s.2) from S.new]
   rfl
theorem vA {α β:Type}{x:Pv.Did α}{f:α->Pv.Did β} (h1:∀ z,x = .error z->z = -3) (h2:∀ a z,f a = .error z->z = -3):∀ z,(x>>=f) = .error z->z = -3:=by
 intro z h
 cases x with
 | error y=>cases h;exact h1 z rfl
 | ok a=>exact h2 a z h
theorem Ve {α:Type}{a:α}:∀ z,(Except.ok a:Pv.Did α) = .error z->z = -3:=fun z h=>by cases h
theorem zX {o:Option Nat}:∀ z,Pv.step o = .error z->z = -3:=fun z h=>UB h
theorem qbQ {x y w:Nat}:∀ z,Pv.F x y w = .error z->z = -3:=fun z h=>qhw h
theorem qe3 {y e:Nat}:∀ z,Qi y e = .error z->z = -3:=by
 unfold Qi
 generalize Pv.mag y*2^500=M
 split
 ·exact zX
 ·exact vA zX fun _=>vA zX fun _=>vA qbQ fun _=>vA zX fun _=>vA zX fun _=>vA zX fun _=>Ve
theorem qgF {t:Nat}:∀ z,Z5 t = .error z->z = -3:=by
 unfold Z5
 exact vA qbQ fun _=>vA zX fun _=>vA zX fun _=>vA zX fun _=>Ve
theorem qaT {c s u w:Nat}:∀ z,Pv.turnPair c s u w = .error z->z = -3:=by
 rw[YV]
 unfold Zz WA
 exact vA (vA zX fun _=>qbQ) fun _=>vA (vA zX fun _=>qbQ) fun _=>Ve
theorem qg2 {n p q:Nat}{x v:Pv.Table}:∀ z,qdi n p q x v = .error z->z = -3:=by
 unfold qdi Uv
 refine vA zX fun _=>vA qe3 fun _=>vA qgF fun _=>vA (vA qbQ fun _=>vA qbQ fun _=>Ve) fun _=>vA (fun z h=>jk (fun s b=>?_) h) fun _=>vA (fun z h=>jk (fun s b=>?_) h) fun _=>Ve
 ·unfold Z7
  split
  ·exact vA qaT fun _=>Ve
  ·exact Ve
 ·unfold Xf
  exact vA qaT fun _=>Ve
theorem qbc {n K:Nat}{a:Pv.Table}{z:Int} (h:Pv.jacobi n a K = .error z):z = -3\/z = -4:=by
 unfold Pv.jacobi at h
 cases hm:Pv.mirrored n a with
 | false=>rw[hm,if_pos rfl] at h;cases h;exact .inr rfl
 | true =>
  rw[hm,if_neg (show ¬ (true=false) from fun z=>nomatch z)] at h
  have e:=jf n (List.range K) (a,Pv.unit_ n)
  rw[List.length_range] at e
  rw[e] at h
  refine .inl (jk (fun s _ z h=>jk (fun s pq z h=>?_) h) h)
  obtain⟨x,v⟩:=s
  obtain⟨p,q⟩:=pq
  rw[Jb] at h
  split at h
  ·cases h
  ·exact qg2 z h
noncomputable def yD:RS:=(vt (uV (qe wM (qc (qa 1) qi))) (vt (vd 3 (qe za (qc (qe zE (qc (qa 0) (qc (qa 2) qi))) (qc (qa 1) qi)))) (vK (qh wm (qe qT (qc (qe w8 (qc (rUn (vW "Turned" "x") (qa 3)) qi)) qi)) (qe zw (qc (rUn (vW "Turned" "v") (qa 3)) qi))))))
noncomputable def wN:Fn:=fun ds=>res (yD (sl0 ["n","sweeps","a","turned"] ds))
theorem Z8 {n s:Int}{a:List Int} (hn:U64 n) (hs:U64 s) (ha:je a) (la:a.length <= 300):wN [.int n,.int s,.lst (a.map .int)]=yz (PvCalls.answer (.jacobi n.toNat s.toNat (nats a))):=by
 show res (yD [.val (.int n) false,.val (.int s) false,.val (.lst (a.map .int)) false,.un])=_
 unfold yD
 have k1:=qdl (q:=qa 1) (δ:=[.val (.int n) false,.val (.int s) false,.val (.lst (a.map .int)) false,.un]) (t:=s) (k:=.sh) rfl
 by_cases c1:s <= 64
 ·rw[if_pos c1] at k1
  rw[qE (Zk k1)]
  rw[qdY (qhG (g:=za) (q:=qa 1) (x:=(.int s,.sh)) (call_K (g:=zE) (δ:=[.val (.int n) false,.val (.int s) false,.val (.lst (a.map .int)) false,.un]) (qf (ra:=qa 0) (x:=(.int n,.sh)) rfl (qf (ra:=qa 2) (x:=(.lst (a.map .int),.sh)) rfl qu))) rfl),qbI]
  refine UU (c:=.jacobi n.toNat s.toNat (nats a)) (x:=Pv.jacobi n.toNat (PvCalls.tableOf n.toNat n.toNat (nats a)) s.toNat) (f:=fun z=>.rows ((List.range n.toNat).map fun (i:Nat)=>Pv.Table.at_ z.1 i i) (PvCalls.flat z.2)) hn ha la (by
   show (PvCalls.size n.toNat&&decide (s.toNat <= 64))=_
   rw[decide_eq_true (by lia),Bool.and_true]) rfl fun q1 q2 q3 q4=>?_
  have hT:Tb n.toNat n.toNat (PvCalls.tableOf n.toNat n.toNat (nats a)):=WZ (XW ha)
  generalize n.toNat=N at q1 q2 hT ⊢
  generalize PvCalls.tableOf N N (nats a)=A at hT ⊢
  obtain⟨K,rfl⟩:=yh hs
  rw[Int.toNat_natCast]
  obtain⟨j1,j2⟩:=Vl (K:=K) hT (by lia) (by lia) (by lia)
  show (za [tD A,.int K]).bind _=_
  rw[j1]
  have hl:N*N <= 16*16:=Nat.mul_le_mul q2 q2
  cases hS:Pv.jacobi N A K with
  | error z=>rcases qbc hS with rfl | rfl <;> rfl
  | ok t =>
   obtain⟨hx,hv⟩:=j2 t hS
   obtain⟨x,v⟩:=t
   have hx:Tb N N x:=hx
   have hv:Tb N N v:=hv
   have d1:dB (fun (s:Pv.Table × Pv.Table)=>(tnD s.1 s.2,false)) (.ok (x,v)) = .ok (tnD x v,false):=rfl
   rw[d1,Rs.qM]
   show _=yz (.rows ((List.range N).map fun (i:Nat)=>Pv.Table.at_ x i i) (PvCalls.flat v))
   rw[qE (show vd 3 (fun _=>kOf (tnD x v,false)) _ = .nx [.val (.int n) false,.val (.int K) false,.val (.lst (a.map .int)) false,.val (tnD x v) true] from jH rfl)]
   generalize hδ:[Sl.val (.int n) false,Sl.val (.int K) false,Sl.val (.lst (a.map .int)) false,Sl.val (tnD x v) true]=δ
   have hfz:freeze δ=δ:=by rw[<- hδ];rfl
   have v3:qa 3 δ = .ok (tnD x v,.nw):=by rw[<- hδ];rfl
   have lv:(PvCalls.flat v).length=N*N:=by rw[yH hv.wide,hv.len]
   have lm:((List.range N).map fun i=>Pv.Table.at_ x i i).length=N:=by rw[List.length_map,List.length_range]
   have m1:qe w8 (qc (rUn (vW "Turned" "x") (qa 3)) qi) δ = .ok (rD ((List.range N).map fun i=>Pv.Table.at_ x i i),.fr):=by
    rw[qO (qf (x:=(tD x,.nw)) ((yf v3).trans rfl) qu)]
    show (w8 [tD x]).bind _=_
    rw[Ug hx (by lia)]
    rfl
   generalize ((List.range N).map fun i=>Pv.Table.at_ x i i)=l at lm m1 ⊢
   have e1:qe qT (qc (qe w8 (qc (rUn (vW "Turned" "x") (qa 3)) qi)) qi) δ = .ok (.lst (.int l.length::l.map fun (n:Nat)=>D.int n),.fr):=by
    rw[qO (qf m1 qu)]
    show (qT [rD l]).bind _=_
    rw[qeF (by rw[lm];show _<16777216;lia)]
    rfl
   have e2:qe zw (qc (rUn (vW "Turned" "v") (qa 3)) qi) δ = .ok (.lst (.int (PvCalls.flat v).length::(PvCalls.flat v).map fun (n:Nat)=>D.int n),.fr):=by
    rw[qO (qf (x:=(tD v,.nw)) ((yf v3).trans rfl) qu)]
    show (zw [tD v]).bind _=_
    rw[Up hv.wide (by rw[hv.len];lia)]
    rfl
   have e3:=qgp e1 e2 (by rw[List.all_cons,xY];rfl) (by rw[List.all_cons,xY];rfl) (by simp only[List.length_cons,List.length_map,lv,lm];show _ <= 16777216;lia)
   rw[VM (by rw[hfz];exact e3),qcn]
   rfl
 ·rw[if_neg c1] at k1
  rw[y8 (Zb k1),qhN (by
   show (PvCalls.size n.toNat&&decide (s.toNat <= 64))=false
   rw[decide_eq_false (by lia:¬ s.toNat <= 64),Bool.and_false])]
  rfl
theorem WO {n s:Nat}{a:List Nat} (ha:R64 a):Few (PvCalls.answer (.jacobi n s a)):=qgC fun g=>by
 have g:(PvCalls.size n&&decide (s <= 64))=true:=g
 rw[Bool.and_eq_true,decide_eq_true_eq] at g
 obtain⟨g1,g2⟩:=size_pos g.1
 show Few (PvCalls.given [(n*n,a)] (Pv.jacobi n (PvCalls.tableOf n n a) s) fun z=>.rows ((List.range n).map fun (i:Nat)=>Pv.Table.at_ z.1 i i) (PvCalls.flat z.2))
 refine qcw ?_
 obtain⟨j1,j2⟩:=Vl (K:=s) (WZ (m:=n) (n:=n) ha) (by lia) (by lia) (by lia)
 cases e:Pv.jacobi n (PvCalls.tableOf n n a) s with
 | error z=>exact .inr (.inr (qbc e))
 | ok t =>
  obtain⟨hx,hv⟩:=j2 t e
  show ((List.range n).map _).length <= 1000/\(PvCalls.flat t.2).length <= 1000
  rw[List.length_map,List.length_range,yH hv.wide,hv.len]
  exact⟨by lia,qbT g.1 g.1⟩
theorem JD {n s:Int}{a:List Int} (hn:U64 n) (hs:U64 s) (ha:je a) (la:a.length <= 300) :
  qbi LL (wN [.int n,.int s,.lst (a.map .int)])=some ((PyYqpvta.jacobi n s a).map D.int)/\((PyYqpvta.jacobi n s a).map D.int).length <= LIM:=by
 rw[Z8 hn hs ha la]
 have e:PyYqpvta.jacobi n s a=TableNeutral.told (PvCalls.answer (.jacobi n.toNat s.toNat (nats a))):=by
  unfold PyYqpvta.jacobi TableNeutral.f
  have q:TableNeutral.callOf [[24,n,s],a]=(do some (.jacobi (<- TableNeutral.nat n) (<- TableNeutral.nat s) (<- a.mapM TableNeutral.nat))):=rfl
  rw[q,ZI hn,ZI hs,U8 ha]
  rfl
 rw[e]
 exact⟨qdg (WO (XW ha)),qdt (WO (XW ha))⟩
end Gr
set_option maxHeartbeats 4000000
namespace L2.Ir
open PySem PySem.Spec PyProof.Rows
noncomputable def yn (H:Hp):List Addr->List (List D)->Prop
 | [],[]=>True
 | q::qs,ds::r=>(ds.all D.sc=true/\H q=some (.lst (ds.map toV)))/\yn H qs r
 | _,_=>False
theorem yn.len {H:Hp}:∀ {qs:List Addr}{xss:List (List D)},yn H qs xss->qs.length=xss.length
 | [],[],_=>rfl
 | _::_,_::_,h=>by rw[List.length_cons,List.length_cons,yn.len h.2]
 | [],_::_,h=>h.elim
 | _::_,[],h=>h.elim
theorem yn.get {H:Hp}:∀ {qs:List Addr}{xss:List (List D)}{n:Nat}{q:Addr}{ds:List D},yn H qs xss->qs[n]?=some q->xss[n]?=some ds->ds.all D.sc=true/\H q=some (.lst (ds.map toV))
 | [],[],n,_,_,_,e,_=>by simp at e
 | q::_,d::_,0,_,_,h,e1,e2=>by simp at e1 e2;subst e1;subst e2;exact h.1
 | _::_,_::_,n+1,_,_,h,e1,e2=>yn.get (n:=n) h.2 (by simpa using e1) (by simpa using e2)
 | [],_::_,_,_,_,h,_,_=>h.elim
 | _::_,[],_,_,_,h,_,_=>h.elim
theorem yn.snoc {H:Hp}{q:Addr}{ds:List D} (hd:ds.all D.sc=true) (hq:H q=some (.lst (ds.map toV))):∀ {qs:List Addr}{xss:List (List D)},yn H qs xss->yn H (qs++[q]) (xss++[ds])
 | [],[],_=>⟨⟨hd,hq⟩,trivial⟩
 | _::_,_::_,h=>⟨h.1,yn.snoc hd hq h.2⟩
 | [],_::_,h=>h.elim
 | _::_,[],h=>h.elim
noncomputable def tNN (X:Cx) (E:XK) (e:NN):TE:=fun σ H Q=>∃ Gn κ m,MR X.mg X.K Gn κ H σ m/\qv X.mg E H (e m) fun xss=>∀ p qs H',H p=none->qB H H'->(qs++[p]).Nodup->(∀ q∈qs,H q=none)->H' p=some (.lst (qs.map V.ref))->yn H' qs xss->Q (.ref p) H'
section
variable {mg:Str->Option Value}{K:PySem.W.Frag}{Gl:Addr->Prop}{κ:List Addr}{H H':Hp}{μ:List Cell}
theorem Mem.news (M:Mem mg K Gl κ H μ) {ps:List Addr}{ys:List Cell} (s:qB H H') (nd:ps.Nodup) (hp:∀ p∈ps,H p=none) (hl:ps.length=ys.length) (hx:∀ (n:Nat) (p:Addr) (y:Cell),ps[n]? = .some p->ys[n]? = .some y->Xk mg K Gl (κ++ps) H' p y):Mem mg K Gl (κ++ps) H' (μ++ys)/\Ext κ H (κ++ps) H':=by
 have ex:Ext κ H (κ++ps) H':=by
  refine⟨fun n q e=>?_,fun q h=>?_,fun a o e _=>s a o e⟩
  ·rw[List.getElem?_append_left (List.getElem?_eq_some_iff.mp e).1]
   exact e
  ·rcases List.mem_append.mp h with h | h
   ·exact .inl h
   ·exact .inr (hp q h)
 refine⟨⟨?_,by rw[List.length_append,List.length_append,M.len,hl],fun n q y e1 e2=>?_,fun a h=>M.gl a (s.free h)⟩,ex⟩
 ·rw[List.nodup_append]
  exact⟨M.nd,nd,fun a ha b hb z=>M.at_ ha (by rw[z];exact hp b hb)⟩
 ·by_cases hn:n<κ.length
  ·rw[List.getElem?_append_left hn] at e1
   rw[List.getElem?_append_left (by rw[<- M.len];exact hn)] at e2
   have q0:=M.cel n q y e1 e2
   refine q0.ext ex ?_
   cases e:H q with
   | none=>exact absurd e q0.some
   | some o=>exact s q o e
  ·rw[List.getElem?_append_right (by lia)] at e1
   rw[List.getElem?_append_right (by rw[<- M.len];lia),<- M.len] at e2
   exact hx _ q y e1 e2
theorem Uo {κ:List Addr}{k:Nat}:∀ {qs:List Addr} (b:Nat),(∀ (i:Nat) (q:Addr),qs[i]?=some q->κ[k+(b+i)]?=some q)->Its mg K Gl κ H (qs.map V.ref) ((List.range' b qs.length).map fun i=>.c (k+i))
 | [],_,_=>trivial
 | q::qs,b,h=>⟨⟨q,h 0 q rfl,rfl⟩,Uo (b+1) fun i p e=>by
  have:=h (i+1) p (by simpa using e)
  rw[show b+1+i=b+(i+1) by lia]
  exact this⟩
theorem qaR (M:Mem mg K Gl κ H μ) {p:Addr}{qs:List Addr}{xss:List (List D)} (hp:H p=none) (s:qB H H') (nd:(qs++[p]).Nodup) (hq:∀ q∈qs,H q=none) (h1:H' p=some (.lst (qs.map V.ref))) (h2:yn H' qs xss) :
  Mem mg K Gl (κ++(qs++[p])) H' (y1 μ xss)/\Ext κ H (κ++(qs++[p])) H'/\ItR mg K Gl (κ++(qs++[p])) H' (.ref p) (.c (μ.length+xss.length)):=by
 have hl:=h2.len
 obtain⟨a,b⟩:=M.news (ps:=qs++[p]) (ys:=xss.map YK++[qd8 μ.length xss.length]) s nd (fun q h=>by
  rcases List.mem_append.mp h with h | h
  ·exact hq q h
  ·rw[List.mem_singleton.mp h];exact hp) (by rw[List.length_append,List.length_append,List.length_map,hl];rfl) (fun n q y e1 e2=>by
  by_cases hn:n<qs.length
  ·rw[List.getElem?_append_left hn] at e1
   rw[List.getElem?_append_left (by rw[List.length_map,<- hl];exact hn),List.getElem?_map] at e2
   cases hd:xss[n]? with
   | none=>rw[hd] at e2;cases e2
   | some ds =>
    rw[hd] at e2
    cases e2
    obtain⟨c1,c2⟩:=h2.get e1 hd
    exact⟨_,c2,Its.vals (qz.zt c1)⟩
  ·rw[List.getElem?_append_right (by lia)] at e1
   rw[List.getElem?_append_right (by rw[List.length_map,<- hl];lia),List.length_map,<- hl] at e2
   have h0:n-qs.length=0:=by
    have:=(List.getElem?_eq_some_iff.mp e1).1
    rw[List.length_singleton] at this
    lia
   rw[h0] at e1 e2
   cases e1
   cases e2
   refine⟨_,h1,?_⟩
   have:=Uo (mg:=mg) (K:=K) (Gl:=Gl) (H:=H') (κ:=κ++(qs++[p])) (k:=μ.length) (qs:=qs) 0 fun i q e=>by
    rw[List.getElem?_append_right (by rw[M.len];lia),M.len,show μ.length+(0+i)-μ.length=i by lia,List.getElem?_append_left (List.getElem?_eq_some_iff.mp e).1]
    exact e
   rw[<- List.range_eq_range'] at this
   exact this)
 refine⟨a,b,p,?_,rfl⟩
 rw[List.getElem?_append_right (by rw[M.len];lia),M.len,show μ.length+xss.length-μ.length=qs.length by lia,List.getElem?_append_right (Nat.le_refl _),Nat.sub_self]
 rfl
end
section
variable {X:Cx}{E:XK}{pos:Pos}
theorem qdj {H:Hp}{D0:Addr}{H':Hp}{acc:List V}{ys:List DK} (h:FAs H D0 H' acc ys):∀ {xss:List (List D)},rowsOf ys = .ok xss->∃ qs:List Addr,acc=qs.map V.ref/\(qs++[D0]).Nodup/\(∀ q∈qs,H q=none)/\yn H' qs xss:=by
 have sn:∀ {ys:List DK}{ds:List D}{xss:List (List D)},rowsOf (ys++[(.lst ds,.fr)]) = .ok xss->∃ r,rowsOf ys = .ok r/\xss=r++[ds]:=by
  intro ys
  induction ys with
  | nil=>intro ds xss e;cases e;exact⟨[],rfl,rfl⟩
  | cons y ys ih =>
   intro ds xss e
   obtain⟨d,k⟩:=y
   cases d with
   | lst es =>
    cases k with
    | fr =>
     have e:(rowsOf (ys++[(.lst ds,.fr)])).bind (fun r=>Rs.ok (es::r)) = .ok xss:=e
     cases e2:rowsOf (ys++[(.lst ds,.fr)]) with
     | er c=>rw[e2] at e;cases e
     | no=>rw[e2] at e;cases e
     | ok r =>
      rw[e2] at e
      cases e
      obtain⟨r',q1,rfl⟩:=ih e2
      refine⟨es::r',?_,rfl⟩
      show (rowsOf ys).bind (fun r=>Rs.ok (es::r))=_
      rw[q1]
      rfl
    | _=>cases e
   | _=>cases e
 induction h with
 | nil=>intro xss e;cases e;exact⟨[],rfl,List.pairwise_singleton _ _,(fun _ z=>by cases z),trivial⟩
 | @snoc vs xs q ds _ h1 h2 h3 h4 h5 ih =>
  intro xss e
  obtain⟨r,e1,rfl⟩:=sn e
  obtain⟨qs,rfl,i2,i3,i4⟩:=ih e1
  have nq:q∉qs:=fun z=>h3 (List.mem_map.mpr ⟨q,z,rfl⟩)
  refine⟨qs++[q],by rw[List.map_append];rfl,?_,fun p z=>?_,i4.snoc h4 h5⟩
  ·rw[List.nodup_append] at i2 ⊢
   refine⟨?_,i2.2.1,fun a ha b hb=>?_⟩
   ·rw[List.nodup_append]
    exact⟨i2.1,List.pairwise_singleton _ _,fun a ha b hb z=>by rw[List.mem_singleton.mp hb] at z;exact nq (by rw[<- z];exact ha)⟩
   ·rcases List.mem_append.mp ha with ha | ha
    ·exact i2.2.2 a ha b hb
    ·rw[List.mem_singleton.mp ha,List.mem_singleton.mp hb]
     exact h1
  ·rcases List.mem_append.mp z with z | z
   ·exact i3 p z
   ·rw[List.mem_singleton.mp z];exact h2
theorem qbj:∀ {ys:List DK}{xss:List (List D)},rowsOf ys = .ok xss->∀ y∈ys,y.2 = .fr
 | [],_,_,_,h=>by cases h
 | (d,k)::ys,xss,e,y,h=>by
  cases d with
  | lst es =>
   cases k with
   | fr =>
    have e:(rowsOf ys).bind (fun r=>Rs.ok (es::r)) = .ok xss:=e
    cases e2:rowsOf ys with
    | er c=>rw[e2] at e;cases e
    | no=>rw[e2] at e;cases e
    | ok r =>
     rcases List.mem_cons.mp h with rfl | h
     ·rfl
     ·exact qbj e2 y h
   | _=>cases e
  | _=>cases e
theorem qa1:∀ {ys:List DK}{c:Str},rowsOf ys ≠ .er c
 | [],_,h=>by cases h
 | (d,k)::ys,c,e=>by
  cases d with
  | lst es =>
   cases k with
   | fr =>
    have e:(rowsOf ys).bind (fun r=>Rs.ok (es::r)) = .er c:=e
    cases e2:rowsOf ys with
    | er c2=>exact qa1 e2
    | no=>rw[e2] at e;cases e
    | ok r=>rw[e2] at e;cases e
   | _=>cases e
  | _=>cases e
theorem qdk {g:TG}{tg:Tg}{src:RI}{t:RT}{r:RE}{vs:List Nat}{σ:St}{H:Hp}{Q:VK} (hv:tg.within vs) (h:tNN X E (uJ tg src t r vs) σ H Q):tLc (tI X E g tg src) g (TTx X E t) (TEx X E r) vs σ H Q:=by
 obtain⟨Gn,κ,m,R,h⟩:=h
 refine UC hv ⟨_,_,xi Ext.refl R,qv.imp (qv.bind h) fun x h1=>?_⟩
 by_cases c:x.2.length<LIM
 ·rw[if_pos c] at h1
  refine⟨c,qv.imp (qv.bind h1) fun ys h2 D0 acc H' hD s hacc va=>?_⟩
  cases e:rowsOf ys with
  | no=>rw[e] at h2;exact h2.elim
  | er c=>exact absurd e qa1
  | ok xss =>
   rw[e] at h2
   obtain⟨qs,rfl,q2,q3,q4⟩:=qdj (va.2.all (qbj e)) e
   exact h2 D0 qs H' hD s q2 q3 hacc q4
 ·rw[if_neg c] at h1
  exact h1.elim
theorem qaJ {elt tgE iter:Expr}{ifs:List Expr}{scope:Scope}{own:List (Str × Nat)}{g:TG}{tg:Tg}{src:RI}{t:RT}{r:RE}{LF:Addr} (hc:X.calm=true) (hN:X.N.Nodup) (acc:Acc X E) (hst:X.stack=X.env::X.outer) (hfr:X.env.frame=some LF)
  (hi:PI X tgE iter (tI X E g tg src)) (ok:Wq X.N X.env.scope scope own=true) (hv:tg.within (own.map (·.2)))
  (hg:∀ (s:Shared) (H:Hp) (C:Addr) (cl:List (Str × Addr)) (fp:List Addr),PG (Vu X E s H scope (compEnvC scope cl C X.env) fp) tgE g)
  (ht:∀ (s:Shared) (H:Hp) (C:Addr) (cl:List (Str × Addr)) (fp:List Addr),PTs (Vu X E s H scope (compEnvC scope cl C X.env) fp) ifs (TTx X E t))
  (he:∀ (s:Shared) (H:Hp) (C:Addr) (cl:List (Str × Addr)) (fp:List Addr),PE (Vu X E s H scope (compEnvC scope cl C X.env) fp) elt (TEx X E r)) (hs:autoParam (∀ x,foldedSetIterable iter X.env x=pure x) uQ._auto_1) :
  PE X (.ListComp elt [⟨tgE,iter,ifs,0⟩] scope pos) (tNN X E (uJ tg src t r (own.map (·.2)))) :=
 vO (qdK hc hN acc hst hfr hi (X0 ok) hg ht he hs) fun _ _ _ h=>qdk hv h
theorem qft {e:Expr}{ie:NN} (he:PE X e (tNN X E ie)):PS X (.Return (some e) pos) (TMx X E (qcL ie)):=by
 refine vx (jj he) fun D σ H ⟨Gn,κ,m,R,h⟩=>⟨Gn,κ,m,R,vX.do_ h fun xss _ h1 p qs H' hp s nd hq e1 e2=>?_⟩
 obtain⟨M,ex,it⟩:=qaR R.mem hp s nd hq e1 e2
 exact h1 (.ref p) (κ++(qs++[p])) H' M it ex
end
section
variable {X:Cx}{E:XK}{pos:Pos}
theorem qd1 {c f x:Str}{o:Expr}{p pos':Pos}{e:Expr}{es:List Expr}{ec:IE}{ies:List IE}{g:Fm}{n k:Nat} (G:Gd X E) (hC:∀ C,X.mg c=some (.ref C)->Cls X.K C/\qN X.K C f) (F:FdM X.prog X.w X.K X.mg X.base k x n g) (hr:zi k X.A) (hg:Gl X x) (hn:ies.length=n) (ho:PE X o (tIe X E ec)) (ha:PA X (e::es) (tMA X E ies))
  (hdb:autoParam ((x==("__debug__":Str))=false) vh._auto_1) (he:autoParam (starEach (e::es) X.env=(false,eval e X.env)::starEach es X.env) qt._auto_1) {cpos:Pos} (hpl:autoParam ((backTo cpos (starEach es X.env)).any (·.1)=false) qt._auto_1)
  (hs:autoParam (swapsWith (.Call (.Name x p) (e::es) [] cpos) (some (.Attribute o f pos')) pos.line X.env=pure false) qt._auto_1) :
  PS X (.Assign [.Attribute o f pos'] (.Call (.Name x p) (e::es) [] cpos) pos) (TMx X E (Q9 c f ec g ies)):=by
 obtain⟨fa,fd,ps,F,hm,hk,hb⟩:=F
 refine vx (JN ho (VN F hr hg hm hk hb .nil (xj G.acc) ha hdb he hpl) hs) fun D σ H ⟨Gn,κ,m,R,h⟩=>Wl hn ⟨Gn,κ,m,R,?_⟩
 refine vX.do_ h fun xs _ h1 vs H1 s1 r=>J8 (f:=fun x μ=>mDo (ec ⟨m.s,μ⟩) fun y=>yE c f ⟨m.s,μ⟩ (cellAt ⟨m.s,μ⟩ y) x μ) s1 h1 fun x μ h2 w κ' H' M hw ex=>⟨Gn,κ',⟨m.s,μ⟩,(R.more s1).after ex M,?_⟩
 have R1:=(R.more s1).after ex M
 refine vX.do_ (vX.later h2 ex) fun y _ h3 w2 H2 s2 hw2=>?_
 cases e:cellAt ⟨m.s,μ⟩ y with
 | none=>rw[e] at h3;exact h3.elim
 | some q =>
  obtain⟨n',q⟩:=q
  obtain⟨rfl,hn'⟩:=uK e
  rw[e] at h3
  cases q with
  | lst xs=>exact h3.elim
  | ins c' ns xs=>exact QS hC (R1.more s2) hn' hw2 (ItR.ext (Ext.same s2) hw) (vX.later h3 (Ext.same s2))
end
section
variable {X:Cx}{E:XK}{pos:Pos}
theorem qeD {x:Str}{p:Pos}{e:Expr}{es:List Expr}{ies:List IE}{g:Fm}{n k:Nat} (acc:Acc X E) (F:FdM X.prog X.w X.K X.mg X.base k x n g) (hr:zi k X.A) (hg:Gl X x) (hn:ies.length=n) (ha:PA X (e::es) (tMA X E ies))
  (hdb:autoParam ((x==("__debug__":Str))=false) vh._auto_1) (he:autoParam (starEach (e::es) X.env=(false,eval e X.env)::starEach es X.env) qt._auto_1) {cpos:Pos} (hpl:autoParam ((backTo cpos (starEach es X.env)).any (·.1)=false) qt._auto_1) :
  PS X (.Return (some (.Call (.Name x p) (e::es) [] cpos)) pos) (TMx X E (qbd g ies)):=by
 obtain⟨f,fd,ps,F,hm,hk,hb⟩:=F
 refine vx (jj (VN F hr hg hm hk hb .nil (xj acc) ha hdb he hpl)) fun D σ H ⟨Gn,κ,m,R,h⟩=>Wl hn ⟨Gn,κ,m,R,?_⟩
 refine vX.do_ h fun xs _ h1 vs H1 s1 r=>J8 (f:=fun x μ=>.rt x μ) s1 h1 fun x μ h2 w κ' H' M hw ex=>?_
 exact h2 w κ' H' M hw ex
theorem qbz {c f:Str}{o value:Expr}{ec:IE}{ev:NN}{pos':Pos} (hC:∀ C,X.mg c=some (.ref C)->Cls X.K C/\qN X.K C f) (ha:PE X o (tIe X E ec)) (hv:PE X value (tNN X E ev)) (hs:autoParam (swapsWith value (some (.Attribute o f pos')) pos.line X.env=pure false) qt._auto_1) :
  PS X (.Assign [.Attribute o f pos'] value pos) (TMx X E (Qj c f ec ev)):=by
 refine vx (JN ha hv hs) fun D σ H ⟨Gn,κ,m,R,h⟩=>⟨Gn,κ,m,R,vX.do_ h fun xss _ h1 p qs H1 hp s1 nd hq e1 e2=>?_⟩
 obtain⟨M,ex,it⟩:=qaR R.mem hp s1 nd hq e1 e2
 have R1:=R.after ex M
 refine⟨Gn,κ++(qs++[p]),⟨m.s,y1 m.μ xss⟩,R1,?_⟩
 refine vX.do_ (vX.later h1 ex) fun y _ h3 w2 H2 s2 hw2=>?_
 cases e:cellAt ⟨m.s,y1 m.μ xss⟩ y with
 | none=>rw[e] at h3;exact h3.elim
 | some q =>
  obtain⟨n',q⟩:=q
  obtain⟨rfl,hn'⟩:=uK e
  rw[e] at h3
  cases q with
  | lst xs=>exact h3.elim
  | ins c' ns xs=>exact QS hC (R1.more s2) hn' hw2 (ItR.ext (Ext.same s2) it) (vX.later h3 (Ext.same s2))
theorem J9:PS X (.Return none pos) (TMx X E Qr):=vx qeQ fun D σ H ⟨Gn,κ,m,R,h⟩=>h .non κ H R.mem Rp.non (Ext.same qB.refl)
end
end L2.Ir
namespace Lw
open PySem.W (nsIn codeIn keepIn fnOf mg_of mg_none_of nsOkIn findIn makesIn isFn plainGet hasDictIn plainOver tabIn Frag)
open PySem PySem.Spec PyProof.Rows L2 L2.Ir Dt 
noncomputable def top (i:Nat):Stmt:=PySem.Challenge.pw_doubletables_s24_jacobi.main.body.getD i (.Pass ⟨0,0,0,0⟩)
noncomputable def Zh (i j:Nat):Stmt:=match top i with
 | .ClassDef (body:=b) .. => b.getD j (.Pass ⟨0,0,0,0⟩)
 | _=>.Pass ⟨0,0,0,0⟩
theorem qiC {α:Type}{p:List α->Prop} (h:∀ a0,p [a0]):∀ us,us.length=1->p us
 | [_],_=>h _
theorem qiE {α:Type}{p:List α->Prop} (h:∀ a0 a1,p [a0,a1]):∀ us,us.length=2->p us
 | [_,_],_=>h _ _
theorem qgM {α:Type}{p:List α->Prop} (h:∀ a0 a1 a2,p [a0,a1,a2]):∀ us,us.length=3->p us
 | [_,_,_],_=>h _ _ _
theorem qgB {α:Type}{p:List α->Prop} (h:∀ a0 a1 a2 a3,p [a0,a1,a2,a3]):∀ us,us.length=4->p us
 | [_,_,_,_],_=>h _ _ _ _
theorem xR {K:Frag}{x q:Str}{st:Stmt}{f:Addr}{fd:FuncData}{p0:Str} (F:Fun K x q st f fd) (h:∀ (kV doc pm:Value) (an:Option Addr) (cdv ct a0:Value),bindArgs (fnOf x q (zH st) (vT st) (qg st) .none kV doc pm an cdv ct) ⟨[a0],[]⟩=pure [(p0,a0)]):Binds K fd [p0] []:=F.binds fun kV doc pm an cdv ct=>qiC fun a0=>h kV doc pm an cdv ct a0
theorem jh {K:Frag}{x q:Str}{st:Stmt}{f:Addr}{fd:FuncData}{p0 p1:Str} (F:Fun K x q st f fd) (h:∀ (kV doc pm:Value) (an:Option Addr) (cdv ct a0 a1:Value),bindArgs (fnOf x q (zH st) (vT st) (qg st) .none kV doc pm an cdv ct) ⟨[a0,a1],[]⟩=pure [(p0,a0),(p1,a1)]):Binds K fd [p0,p1] []:=F.binds fun kV doc pm an cdv ct=>qiE fun a0 a1=>h kV doc pm an cdv ct a0 a1
theorem Uz {K:Frag}{x q:Str}{st:Stmt}{f:Addr}{fd:FuncData}{p0 p1 p2:Str} (F:Fun K x q st f fd) (h:∀ (kV doc pm:Value) (an:Option Addr) (cdv ct a0 a1 a2:Value),bindArgs (fnOf x q (zH st) (vT st) (qg st) .none kV doc pm an cdv ct) ⟨[a0,a1,a2],[]⟩=pure [(p0,a0),(p1,a1),(p2,a2)]):Binds K fd [p0,p1,p2] []:=F.binds fun kV doc pm an cdv ct=>qgM fun a0 a1 a2=>h kV doc pm an cdv ct a0 a1 a2
theorem qhB {K:Frag}{x q:Str}{st:Stmt}{f:Addr}{fd:FuncData}{p0 p1 p2 p3:Str} (F:Fun K x q st f fd) (h:∀ (kV doc pm:Value) (an:Option Addr) (cdv ct a0 a1 a2 a3:Value),bindArgs (fnOf x q (zH st) (vT st) (qg st) .none kV doc pm an cdv ct) ⟨[a0,a1,a2,a3],[]⟩=pure [(p0,a0),(p1,a1),(p2,a2),(p3,a3)]):Binds K fd [p0,p1,p2,p3] []:=F.binds fun kV doc pm an cdv ct=>qgB fun a0 a1 a2 a3=>h kV doc pm an cdv ct a0 a1 a2 a3
theorem vZ {N P:List Str}{sc:Scope} (a:sc.kind = .function) (b:sc.isCoroutine=false) (c:sc.isGenerator=false) (d:N.take P.length=P) (h:N.Nodup/\(∀ x∈P,sc.names.lookup x=some .local\/sc.names.lookup x=some .cell)/\∀ y∈sc.names,y.2 ≠ .free):qp N P sc:=⟨a,b,c,h.1,d,h.2.1,h.2.2⟩
section
variable {P:Program}{w:World}{K:Frag}{mg:Str->Option Value}{base:Heap}
theorem qal:qp ["x"] ["x"] (qg (top 8)):=vZ rfl rfl rfl rfl (by decide +kernel)
theorem JE {f:Addr}{fd:FuncData} (F:Fun K "sign_of" "sign_of" (top 8) f fd) (hm:mg "sign_of"=some (.ref f)) (hb:Binds K fd ["x"] [])  : Fd P w K mg base 1 "sign_of" 1 Dt.qC :=
 fd2 (r:=Dt.ju) F qal hm hb rfl (fun a b c d e f hr nd G=>(qw (qZ (qr qan JF (xv 0) qI)))) Dt.J5
theorem JS:qp ["x"] ["x"] (qg (top 9)):=vZ rfl rfl rfl rfl (by decide +kernel)
theorem qaf {f:Addr}{fd:FuncData} (F:Fun K "size_of" "size_of" (top 9) f fd) (hm:mg "size_of"=some (.ref f)) (hb:Binds K fd ["x"] []) (c_SIGN_BIT:∃ t,mg "SIGN_BIT"=some (.int 9223372036854775808 t)):Fd P w K mg base 1 "size_of" 1 Dt.qG :=
 fd2 (r:=Dt.QU) F JS hm hb rfl (fun a b c d e f hr nd G=>(qw (qZ (qr qad (j4 _) (xv 0) (qr wX wY (vo rfl c_SIGN_BIT) qI))))) Dt.JC
theorem UE:qp ["x"] ["x"] (qg (top 10)):=vZ rfl rfl rfl rfl (by decide +kernel)
theorem Jc {f:Addr}{fd:FuncData} (F:Fun K "opposite" "opposite" (top 10) f fd) (hm:mg "opposite"=some (.ref f)) (hb:Binds K fd ["x"] []) (c_SIGN_BIT:∃ t,mg "SIGN_BIT"=some (.int 9223372036854775808 t)):Fd P w K mg base 1 "opposite" 1 Dt.vI :=
 fd2 (r:=Dt.uw) F UE hm hb rfl (fun a b c d e f hr nd G=>(qw (qZ (qr Xe (j4 _) (xv 0) (vo rfl c_SIGN_BIT))))) Dt.US
theorem XE:qp ["x"] ["x"] (qg (top 11)):=vZ rfl rfl rfl rfl (by decide +kernel)
theorem Xs {f:Addr}{fd:FuncData} (F:Fun K "is_finite" "is_finite" (top 11) f fd) (hm:mg "is_finite"=some (.ref f)) (hb:Binds K fd ["x"] []) (c_INFINITE:∃ t,mg "INFINITE"=some (.int 9218868437227405312 t)) (f_size_of:Fd P w K mg base 1 "size_of" 1 Dt.qG):Fd P w K mg base 2 "is_finite" 1 Dt.zz :=
 fd2 (r:=Dt.xE) F XE hm hb rfl (fun a b c d e f hr nd G=>(qw (qZ (Xx Yw (xt _) (vU _) (qj G.acc f_size_of (hr.mono (by decide)) rfl (.cons (.nil)) (qd (xv 0) qm)) (vo rfl c_INFINITE))))) Dt.Xg
theorem qam:qp ["x"] ["x"] (qg (top 12)):=vZ rfl rfl rfl rfl (by decide +kernel)
theorem qaC {f:Addr}{fd:FuncData} (F:Fun K "is_zero" "is_zero" (top 12) f fd) (hm:mg "is_zero"=some (.ref f)) (hb:Binds K fd ["x"] []) (f_size_of:Fd P w K mg base 1 "size_of" 1 Dt.qG):Fd P w K mg base 2 "is_zero" 1 Dt.vQ :=
 fd2 (r:=Dt.jG) F qam hm hb rfl (fun a b c d e f hr nd G=>(qw (qZ (Xx (yP hr.units) uO (vU _) (qj G.acc f_size_of (hr.mono (by decide)) rfl (.cons (.nil)) (qd (xv 0) qm)) qI)))) Dt.JJ
theorem qaA:qp ["x"] ["x"] (qg (top 13)):=vZ rfl rfl rfl rfl (by decide +kernel)
theorem qas {f:Addr}{fd:FuncData} (F:Fun K "rank_of" "rank_of" (top 13) f fd) (hm:mg "rank_of"=some (.ref f)) (hb:Binds K fd ["x"] []) (f_sign_of:Fd P w K mg base 1 "sign_of" 1 Dt.qC) (f_size_of:Fd P w K mg base 1 "size_of" 1 Dt.qG):Fd P w K mg base 2 "rank_of" 1 Gr.wZ :=
 fd2 (r:=Gr.jJ) F qaA hm hb rfl (fun a b c d e f hr nd G=>(qw (qZ (Yp (wx (yP hr.units) uO (vU _) (qj G.acc f_sign_of (hr.mono (by decide)) rfl (.cons (.nil)) (qd (xv 0) qm)) qI) (Jy (qj G.acc f_size_of (hr.mono (by decide)) rfl (.cons (.nil)) (qd (xv 0) qm))) (qj G.acc f_size_of (hr.mono (by decide)) rfl (.cons (.nil)) (qd (xv 0) qm)))))) (fun _ _=>.inr rfl)
theorem XZ:qp ["x","y"] ["x","y"] (qg (top 14)):=vZ rfl rfl rfl rfl (by decide +kernel)
theorem Ue {f:Addr}{fd:FuncData} (F:Fun K "is_equal" "is_equal" (top 14) f fd) (hm:mg "is_equal"=some (.ref f)) (hb:Binds K fd ["x","y"] []) (f_rank_of:Fd P w K mg base 2 "rank_of" 1 Gr.wZ):Fd P w K mg base 3 "is_equal" 2 Gr.vF :=
 fd2 (r:=Gr.uv) F XZ hm hb rfl (fun a b c d e f hr nd G=>(qw (qZ (Xx (yP hr.units) uO (vU _) (qj G.acc f_rank_of (hr.mono (by decide)) rfl (.cons (.nil)) (qd (xv 0) qm)) (qj G.acc f_rank_of (hr.mono (by decide)) rfl (.cons (.nil)) (qd (xv 1) qm)))))) (fun _ _=>.inr rfl)
theorem UO:qp ["x","fraction"] ["x"] (qg (top 15)):=vZ rfl rfl rfl rfl (by decide +kernel)
theorem UD {f:Addr}{fd:FuncData} (F:Fun K "whole_of" "whole_of" (top 15) f fd) (hm:mg "whole_of"=some (.ref f)) (hb:Binds K fd ["x"] []) (c_FRACTION_BITS:∃ t,mg "FRACTION_BITS"=some (.int 52 t)) (f_size_of:Fd P w K mg base 1 "size_of" 1 Dt.qG):Fd P w K mg base 2 "whole_of" 1 Dt.qy :=
 fd2 (r:=Dt.uH) F UO hm hb rfl (fun a b c d e f hr nd G=>(qA (yp 1 G (qr qad (j4 _) (xv 0) (qr wX wY (qr wV zL qI (vo rfl c_FRACTION_BITS)) qI))) (qA (xg (wx (yP hr.units) uO (vU _) (qj G.acc f_size_of (hr.mono (by decide)) rfl (.cons (.nil)) (qd (xv 0) qm)) (xv 1)) (qw (qfo 1)) ze) (qw (qZ (qr wb zg (xv 1) (qr wV zL qI (vo rfl c_FRACTION_BITS)))))))) Dt.Uq
theorem VA:qp ["x"] ["x"] (qg (top 16)):=vZ rfl rfl rfl rfl (by decide +kernel)
theorem Vx {f:Addr}{fd:FuncData} (F:Fun K "signed_whole" "signed_whole" (top 16) f fd) (hm:mg "signed_whole"=some (.ref f)) (hb:Binds K fd ["x"] []) (f_sign_of:Fd P w K mg base 1 "sign_of" 1 Dt.qC) (f_whole_of:Fd P w K mg base 2 "whole_of" 1 Dt.qy):Fd P w K mg base 3 "signed_whole" 1 Dt.qQ :=
 fd2 (r:=Dt.yc) F VA hm hb rfl (fun a b c d e f hr nd G=>(qw (qZ (Yp (wx (yP hr.units) uO (vU _) (qj G.acc f_sign_of (hr.mono (by decide)) rfl (.cons (.nil)) (qd (xv 0) qm)) qI) (Jy (qj G.acc f_whole_of (hr.mono (by decide)) rfl (.cons (.nil)) (qd (xv 0) qm))) (qj G.acc f_whole_of (hr.mono (by decide)) rfl (.cons (.nil)) (qd (xv 0) qm)))))) Dt.VB
theorem UM:qp ["x"] ["x"] (qg (top 17)):=vZ rfl rfl rfl rfl (by decide +kernel)
theorem U4 {f:Addr}{fd:FuncData} (F:Fun K "power_of" "power_of" (top 17) f fd) (hm:mg "power_of"=some (.ref f)) (hb:Binds K fd ["x"] []) (c_FRACTION_BITS:∃ t,mg "FRACTION_BITS"=some (.int 52 t)) (c_LEAST_POWER:∃ t,mg "LEAST_POWER"=some (.int (-1074) t)) (n_max:mg "max"=none) (f_size_of:Fd P w K mg base 1 "size_of" 1 Dt.qG):Fd P w K mg base 2 "power_of" 1 Dt.qo :=
 fd2 (r:=Dt.uG) F UM hm hb rfl (fun a b c d e f hr nd G=>(qw (qZ (qr wb zg (qr wX wY (zZ (wG (YG rfl) rfl n_max Yt (qd (qr qan JF (qj G.acc f_size_of (hr.mono (by decide)) rfl (.cons (.nil)) (qd (xv 0) qm)) (vo rfl c_FRACTION_BITS)) (qd qI qm))) qcQ) qI) (vo rfl c_LEAST_POWER))))) Dt.Jh
theorem QK:qp ["whole","drop","kept","left","half"] ["whole","drop"] (qg (top 18)):=vZ rfl rfl rfl rfl (by decide +kernel)
theorem QF {f:Addr}{fd:FuncData} (F:Fun K "nearest_whole" "nearest_whole" (top 18) f fd) (hm:mg "nearest_whole"=some (.ref f)) (hb:Binds K fd ["whole","drop"] [])  : Fd P w K mg base 1 "nearest_whole" 2 Dt.vL :=
 fd2 (r:=Dt.zU) F QK hm hb rfl (fun a b c d e f hr nd G=>(qA (xg (wx qhx (xt _) (vU _) (xv 1) qI) (qw (qZ (qr wV zL (xv 0) (Jy (xv 1))))) ze) (qA (yp 2 G (qr qan JF (xv 0) (xv 1))) (qA (yp 3 G (qr wX wY (xv 0) (qr wV zL (xv 2) (xv 1)))) (qA (yp 4 G (qr wV zL qI (qr wX wY (xv 1) qI))) (qA (xg (V7 (qfX (wx qc2 (xt _) (vU _) (xv 3) (xv 4)) (qdo (V7 (qdb (wx (yP hr.units) uO (vU _) (xv 3) (xv 4)) (qaW (wx (yP hr.units) uO (vU _) (qr JR Jp (xv 2) qI) qI))))))) (qw (qZ (qr wb zg (xv 2) qI))) ze) (qw (qfo 2)))))))) Dt.QH
theorem qaz:qp ["sign","whole","power","drop","kept","size"] ["sign","whole","power"] (qg (top 19)):=vZ rfl rfl rfl rfl (by decide +kernel)
theorem JB {f:Addr}{fd:FuncData} (F:Fun K "rounded" "rounded" (top 19) f fd) (hm:mg "rounded"=some (.ref f)) (hb:Binds K fd ["sign","whole","power"] []) {C_StepNotFinite:Addr} (c_FRACTION_BITS:∃ t,mg "FRACTION_BITS"=some (.int 52 t)) (c_INFINITE:∃ t,mg "INFINITE"=some (.int 9218868437227405312 t)) (c_LEAST_POWER:∃ t,mg "LEAST_POWER"=some (.int (-1074) t)) (n_max:mg "max"=none) (m_StepNotFinite:mg "StepNotFinite"=some (.ref C_StepNotFinite)) (x_StepNotFinite:qY K C_StepNotFinite=true) (f_nearest_whole:Fd P w K mg base 1 "nearest_whole" 2 Dt.vL):Fd P w K mg base 2 "rounded" 3 Dt.vR :=
 fd2 (r:=Dt.jC) F qaz hm hb rfl (fun a b c d e f hr nd G=>(qA (xg (wx (yP hr.units) uO (vU _) (xv 1) qI) (qw (qZ (qr wV zL (xv 0) qI))) ze) (qA (yp 3 G (zZ (wG (YG rfl) rfl n_max Yt (qd (qr wX wY (qr wX wY (qa4 (qd3 PySem.F.plainAttrs_int PySem.F.slot_int_bit_length PySem.F.type_int_bit_length qaM (xv 1))) (vo rfl c_FRACTION_BITS)) qI) (qd (qr wX wY (vo rfl c_LEAST_POWER) (xv 2)) qm))) qcQ)) (qA (yp 4 G (qj G.acc f_nearest_whole (hr.mono (by decide)) rfl (.cons (.cons (.nil))) (qd (xv 1) (qd (xv 3) qm)))) (qA (yp 5 G (qr wb zg (qr wV zL (qr wX wY (qr wb zg (xv 2) (xv 3)) (vo rfl c_LEAST_POWER)) (vo rfl c_FRACTION_BITS)) (xv 4))) (qA (xg (wx qh9 (xt _) (vU _) (xv 5) (vo rfl c_INFINITE)) (qw (yM G rfl m_StepNotFinite x_StepNotFinite)) ze) (qw (qZ (qr wb zg (qr wV zL (xv 0) qI) (xv 5)))))))))) Dt.JW
theorem uY:qp ["sign","whole","left","power","behind"] ["sign","whole","left","power"] (qg (top 20)):=vZ rfl rfl rfl rfl (by decide +kernel)
theorem jb {f:Addr}{fd:FuncData} (F:Fun K "rounded_with_rest" "rounded_with_rest" (top 20) f fd) (hm:mg "rounded_with_rest"=some (.ref f)) (hb:Binds K fd ["sign","whole","left","power"] []) (f_rounded:Fd P w K mg base 2 "rounded" 3 Dt.vR):Fd P w K mg base 3 "rounded_with_rest" 4 Dt.qK :=
 fd2 (r:=Dt.wU) F uY hm hb rfl (fun a b c d e f hr nd G=>(qA (yp 4 G (Yp (wx (yP hr.units) uO (vU _) (xv 2) qI) qI qI)) (qw (qZ (qj G.acc f_rounded (hr.mono (by decide)) rfl (.cons (.cons (.cons (.nil)))) (qd (xv 0) (qd (qr wb zg (qr (QD.or ZG) Wn (xv 1) qI) (xv 4)) (qd (qr wX wY (xv 3) qI) qm)))))))) Dt.u5
theorem qd9:qp ["x","y","z","power","low","product_part","total"] ["x","y","z"] (qg (top 21)):=vZ rfl rfl rfl rfl (by decide +kernel)
theorem qdC {f:Addr}{fd:FuncData} (F:Fun K "fused" "fused" (top 21) f fd) (hm:mg "fused"=some (.ref f)) (hb:Binds K fd ["x","y","z"] []) (n_abs:mg "abs"=none) (n_min:mg "min"=none) (f_power_of:Fd P w K mg base 2 "power_of" 1 Dt.qo) (f_rounded:Fd P w K mg base 2 "rounded" 3 Dt.vR) (f_sign_of:Fd P w K mg base 1 "sign_of" 1 Dt.qC) (f_signed_whole:Fd P w K mg base 3 "signed_whole" 1 Dt.qQ):Fd P w K mg base 4 "fused" 3 Dt.ve :=
 fd2 (r:=Dt.V9) F qd9 hm hb rfl (fun a b c d e f hr nd G=>(qA (yp 3 G (qr wb zg (qj G.acc f_power_of (hr.mono (by decide)) rfl (.cons (.nil)) (qd (xv 0) qm)) (qj G.acc f_power_of (hr.mono (by decide)) rfl (.cons (.nil)) (qd (xv 1) qm)))) (qA (yp 4 G (zZ (wG (Yg rfl) rfl n_min YJ (qd (xv 3) (qd (qj G.acc f_power_of (hr.mono (by decide)) rfl (.cons (.nil)) (qd (xv 2) qm)) qm))) qeb)) (qA (yp 5 G (qr wV zL (qr (QD.or ZG) Wn (qj G.acc f_signed_whole (hr.mono (by decide)) rfl (.cons (.nil)) (qd (xv 0) qm)) (qj G.acc f_signed_whole (hr.mono (by decide)) rfl (.cons (.nil)) (qd (xv 1) qm))) (qr wX wY (xv 3) (xv 4)))) (qA (yp 6 G (qr wb zg (xv 5) (qr wV zL (qj G.acc f_signed_whole (hr.mono (by decide)) rfl (.cons (.nil)) (qd (xv 2) qm)) (qr wX wY (qj G.acc f_power_of (hr.mono (by decide)) rfl (.cons (.nil)) (qd (xv 2) qm)) (xv 4))))) (qA (xg (wx (yP hr.units) uO (vU _) (xv 6) qI) (qw (qZ (qr wV zL (qr qad (j4 _) (qr Xe (j4 _) (qj G.acc f_sign_of (hr.mono (by decide)) rfl (.cons (.nil)) (qd (xv 0) qm)) (qj G.acc f_sign_of (hr.mono (by decide)) rfl (.cons (.nil)) (qd (xv 1) qm))) (qj G.acc f_sign_of (hr.mono (by decide)) rfl (.cons (.nil)) (qd (xv 2) qm))) qI))) ze) (qw (qZ (qj G.acc f_rounded (hr.mono (by decide)) rfl (.cons (.cons (.cons (.nil)))) (qd (Yp (wx Yw (xt _) (vU _) (xv 6) qI) qI qI) (qd (zZ (wG qdp rfl n_abs qbE (qd (xv 6) qm)) qgl) (qd (xv 4) qm)))))))))))) Dt.qcK
theorem qfE:qp ["x","y"] ["x","y"] (qg (top 22)):=vZ rfl rfl rfl rfl (by decide +kernel)
theorem qex {f:Addr}{fd:FuncData} (F:Fun K "plus" "plus" (top 22) f fd) (hm:mg "plus"=some (.ref f)) (hb:Binds K fd ["x","y"] []) (c_ONE:∃ t,mg "ONE"=some (.int 4607182418800017408 t)) (f_fused:Fd P w K mg base 4 "fused" 3 Dt.ve):Fd P w K mg base 5 "plus" 2 Dt.yw :=
 fd2 (r:=Dt.YM) F qfE hm hb rfl (fun a b c d e f hr nd G=>(qw (qZ (qj G.acc f_fused (hr.mono (by decide)) rfl (.cons (.cons (.cons (.nil)))) (qd (xv 0) (qd (vo rfl c_ONE) (qd (xv 1) qm))))))) Dt.qeN
theorem qdR:qp ["x","y"] ["x","y"] (qg (top 23)):=vZ rfl rfl rfl rfl (by decide +kernel)
theorem qda {f:Addr}{fd:FuncData} (F:Fun K "minus" "minus" (top 23) f fd) (hm:mg "minus"=some (.ref f)) (hb:Binds K fd ["x","y"] []) (f_opposite:Fd P w K mg base 1 "opposite" 1 Dt.vI) (f_plus:Fd P w K mg base 5 "plus" 2 Dt.yw):Fd P w K mg base 6 "minus" 2 Dt.yT :=
 fd2 (r:=Dt.VP) F qdR hm hb rfl (fun a b c d e f hr nd G=>(qw (qZ (qj G.acc f_plus (hr.mono (by decide)) rfl (.cons (.cons (.nil))) (qd (xv 0) (qd (qj G.acc f_opposite (hr.mono (by decide)) rfl (.cons (.nil)) (qd (xv 1) qm)) qm)))))) Dt.qej
theorem JA:qp ["x","y"] ["x","y"] (qg (top 24)):=vZ rfl rfl rfl rfl (by decide +kernel)
theorem Jv {f:Addr}{fd:FuncData} (F:Fun K "product" "product" (top 24) f fd) (hm:mg "product"=some (.ref f)) (hb:Binds K fd ["x","y"] []) (f_power_of:Fd P w K mg base 2 "power_of" 1 Dt.qo) (f_rounded:Fd P w K mg base 2 "rounded" 3 Dt.vR) (f_sign_of:Fd P w K mg base 1 "sign_of" 1 Dt.qC) (f_whole_of:Fd P w K mg base 2 "whole_of" 1 Dt.qy):Fd P w K mg base 3 "product" 2 Dt.wj :=
 fd2 (r:=Dt.jE) F JA hm hb rfl (fun a b c d e f hr nd G=>(qw (qZ (qj G.acc f_rounded (hr.mono (by decide)) rfl (.cons (.cons (.cons (.nil)))) (qd (qr Xe (j4 _) (qj G.acc f_sign_of (hr.mono (by decide)) rfl (.cons (.nil)) (qd (xv 0) qm)) (qj G.acc f_sign_of (hr.mono (by decide)) rfl (.cons (.nil)) (qd (xv 1) qm))) (qd (qr (QD.or ZG) Wn (qj G.acc f_whole_of (hr.mono (by decide)) rfl (.cons (.nil)) (qd (xv 0) qm)) (qj G.acc f_whole_of (hr.mono (by decide)) rfl (.cons (.nil)) (qd (xv 1) qm))) (qd (qr wb zg (qj G.acc f_power_of (hr.mono (by decide)) rfl (.cons (.nil)) (qd (xv 0) qm)) (qj G.acc f_power_of (hr.mono (by decide)) rfl (.cons (.nil)) (qd (xv 1) qm))) qm))))))) Dt.J7
theorem Ji:qp ["x","y","widened","whole","left"] ["x","y"] (qg (top 25)):=vZ rfl rfl rfl rfl (by decide +kernel)
theorem UT {f:Addr}{fd:FuncData} (F:Fun K "quotient" "quotient" (top 25) f fd) (hm:mg "quotient"=some (.ref f)) (hb:Binds K fd ["x","y"] []) {C_StepNotFinite:Addr} (c_WIDER:∃ t,mg "WIDER"=some (.int 112 t)) (m_StepNotFinite:mg "StepNotFinite"=some (.ref C_StepNotFinite)) (x_StepNotFinite:qY K C_StepNotFinite=true) (f_is_zero:Fd P w K mg base 2 "is_zero" 1 Dt.vQ) (f_power_of:Fd P w K mg base 2 "power_of" 1 Dt.qo) (f_rounded_with_rest:Fd P w K mg base 3 "rounded_with_rest" 4 Dt.qK) (f_sign_of:Fd P w K mg base 1 "sign_of" 1 Dt.qC) (f_whole_of:Fd P w K mg base 2 "whole_of" 1 Dt.qy):Fd P w K mg base 4 "quotient" 2 Dt.vg :=
 fd2 (r:=Dt.uC) F Ji hm hb rfl (fun a b c d e f hr nd G=>(qA (xg (QV (qj G.acc f_is_zero (hr.mono (by decide)) rfl (.cons (.nil)) (qd (xv 1) qm))) (qw (yM G rfl m_StepNotFinite x_StepNotFinite)) ze) (qA (yp 2 G (qr wV zL (qj G.acc f_whole_of (hr.mono (by decide)) rfl (.cons (.nil)) (qd (xv 0) qm)) (vo rfl c_WIDER))) (qA (yp 3 G (qr xo uu (xv 2) (qj G.acc f_whole_of (hr.mono (by decide)) rfl (.cons (.nil)) (qd (xv 1) qm)))) (qA (yp 4 G (qr JR Jp (xv 2) (qj G.acc f_whole_of (hr.mono (by decide)) rfl (.cons (.nil)) (qd (xv 1) qm)))) (qw (qZ (qj G.acc f_rounded_with_rest (hr.mono (by decide)) rfl (.cons (.cons (.cons (.cons (.nil))))) (qd (qr Xe (j4 _) (qj G.acc f_sign_of (hr.mono (by decide)) rfl (.cons (.nil)) (qd (xv 0) qm)) (qj G.acc f_sign_of (hr.mono (by decide)) rfl (.cons (.nil)) (qd (xv 1) qm))) (qd (xv 3) (qd (xv 4) (qd (qr wX wY (qr wX wY (qj G.acc f_power_of (hr.mono (by decide)) rfl (.cons (.nil)) (qd (xv 0) qm)) (qj G.acc f_power_of (hr.mono (by decide)) rfl (.cons (.nil)) (qd (xv 1) qm))) (vo rfl c_WIDER)) qm)))))))))))) Dt.Ul
theorem ZP:qp ["whole","guess","better"] ["whole"] (qg (top 26)):=vZ rfl rfl rfl rfl (by decide +kernel)
theorem Z9 {f:Addr}{fd:FuncData} (F:Fun K "whole_root" "whole_root" (top 26) f fd) (hm:mg "whole_root"=some (.ref f)) (hb:Binds K fd ["whole"] [])  : Fd P w K mg base 1 "whole_root" 1 Dt.zc :=
 fd2 (r:=Dt.y3) F ZP hm hb rfl (fun a b c d e f hr nd G=>(qA (yp 1 G (qr wV zL qI (qr xo uu (qr wb zg (qa4 (qd3 PySem.F.plainAttrs_int PySem.F.slot_int_bit_length PySem.F.type_int_bit_length qaM (xv 0))) qI) qI))) (qA (yp 2 G (qr xo uu (qr wb zg (xv 1) (qr xo uu (xv 0) (xv 1))) qI)) (qA (qcN G (wx Yw (xt _) (vU _) (xv 2) (xv 1)) (qA (yp 1 G (xv 2)) (qw (yp 2 G (qr xo uu (qr wb zg (xv 1) (qr xo uu (xv 0) (xv 1))) qI))))) (qw (qfo 1)))))) Dt.Yd
theorem qev:qp ["x","odd","widened","whole"] ["x"] (qg (top 27)):=vZ rfl rfl rfl rfl (by decide +kernel)
theorem qeY {f:Addr}{fd:FuncData} (F:Fun K "root" "root" (top 27) f fd) (hm:mg "root"=some (.ref f)) (hb:Binds K fd ["x"] []) {C_StepNotFinite:Addr} (c_WIDER:∃ t,mg "WIDER"=some (.int 112 t)) (m_StepNotFinite:mg "StepNotFinite"=some (.ref C_StepNotFinite)) (x_StepNotFinite:qY K C_StepNotFinite=true) (f_is_zero:Fd P w K mg base 2 "is_zero" 1 Dt.vQ) (f_power_of:Fd P w K mg base 2 "power_of" 1 Dt.qo) (f_rounded_with_rest:Fd P w K mg base 3 "rounded_with_rest" 4 Dt.qK) (f_sign_of:Fd P w K mg base 1 "sign_of" 1 Dt.qC) (f_whole_of:Fd P w K mg base 2 "whole_of" 1 Dt.qy) (f_whole_root:Fd P w K mg base 1 "whole_root" 1 Dt.zc):Fd P w K mg base 4 "root" 1 Dt.yy :=
 fd2 (r:=Dt.YN) F qev hm hb rfl (fun a b c d e f hr nd G=>(qA (xg (QV (qj G.acc f_is_zero (hr.mono (by decide)) rfl (.cons (.nil)) (qd (xv 0) qm))) (qw (qfo 0)) ze) (qA (xg (wx (yP hr.units) uO (vU _) (qj G.acc f_sign_of (hr.mono (by decide)) rfl (.cons (.nil)) (qd (xv 0) qm)) qI) (qw (yM G rfl m_StepNotFinite x_StepNotFinite)) ze) (qA (yp 1 G (qr JR Jp (qj G.acc f_power_of (hr.mono (by decide)) rfl (.cons (.nil)) (qd (xv 0) qm)) qI)) (qA (yp 2 G (qr wV zL (qj G.acc f_whole_of (hr.mono (by decide)) rfl (.cons (.nil)) (qd (xv 0) qm)) (qr wb zg (vo rfl c_WIDER) (xv 1)))) (qA (yp 3 G (qj G.acc f_whole_root (hr.mono (by decide)) rfl (.cons (.nil)) (qd (xv 2) qm))) (qw (qZ (qj G.acc f_rounded_with_rest (hr.mono (by decide)) rfl (.cons (.cons (.cons (.cons (.nil))))) (qd qI (qd (xv 3) (qd (qr wX wY (xv 2) (qr (QD.or ZG) Wn (xv 3) (xv 3))) (qd (qr xo uu (qr wX wY (qr wX wY (qj G.acc f_power_of (hr.mono (by decide)) rfl (.cons (.nil)) (qd (xv 0) qm)) (xv 1)) (vo rfl c_WIDER)) qI) qm))))))))))))) Dt.qfg
theorem qaj:qp ["numbers","n","start"] ["numbers","n"] (qg (top 29)):=vZ rfl rfl rfl rfl (by decide +kernel)
theorem qaF {f:Addr}{fd:FuncData} (F:Fun K "grid_of" "grid_of" (top 29) f fd) (hm:mg "grid_of"=some (.ref f)) (hb:Binds K fd ["numbers","n"] []) (n_len:mg "len"=none) (n_range:mg "range"=none):Fd P w K mg base 1 "grid_of" 2 Gr.xb :=
 fd2 (r:=Gr.jw) F qaj hm hb rfl (fun a b c d e f hr nd G=>(qw (qZ (QA (hc:=rfl) (hN:=nd) (acc:=G.acc) (hst:=rfl) (hfr:=rfl) (hi:=(qbH (i:=2) rfl n_range qI (zZ (wG wd rfl n_len zI (qd (xv 0) qm)) uI) (xv 1))) (own:=[("start",2)]) (ok:=by show Wq ["numbers","n","start"] (qg (top 29)) _ _=true;decide +kernel) (hv:=by simp [Tg.within]) (hg:=fun s H C cl fp=>(pgn 2 nd)) (ht:=fun s H C cl fp=>xu) (he:=fun s H C cl fp=>(qdv (xv 0) (qaU (xv 2)) (qaU (qr wb zg (xv 2) (xv 1))) qfz)))))) (fun _ _=>.inr rfl)
theorem qe5:qp ["grid","numbers","row"] ["grid"] (qg (top 30)):=vZ rfl rfl rfl rfl (by decide +kernel)
theorem qez {f:Addr}{fd:FuncData} (F:Fun K "flat" "flat" (top 30) f fd) (hm:mg "flat"=some (.ref f)) (hb:Binds K fd ["grid"] [])  : Fd P w K mg base 1 "flat" 1 Gr.zu :=
 qhU (r:=Gr.XG) F qe5 hm hb rfl (fun a b c d e f hr nd G=>(qH (qgE 1 G ne_nil) (qH (Q2 G (qh8 (Qt (i:=2) (xv 0))) (pgn 2 nd) (v9 (qbv (qh4 PySem.F.plainAttrs_list PySem.F.slot_list_extend PySem.F.type_list_extend JX (wc 1) (zm (xv 2) xp))))) (v9 (qdQ (wc 1)))))) (fun _=>rfl)
theorem Xn:qp ["grid","j","row"] ["grid","j"] (qg (top 31)):=vZ rfl rfl rfl rfl (by decide +kernel)
theorem Xr {f:Addr}{fd:FuncData} (F:Fun K "column_of" "column_of" (top 31) f fd) (hm:mg "column_of"=some (.ref f)) (hb:Binds K fd ["grid","j"] [])  : Fd P w K mg base 1 "column_of" 2 Gr.zB :=
 fd2 (r:=Gr.xC) F Xn hm hb rfl (fun a b c d e f hr nd G=>(qw (qZ (QA (hc:=rfl) (hN:=nd) (acc:=G.acc) (hst:=rfl) (hfr:=rfl) (hi:=(Qt (i:=2) (xv 0))) (own:=[("row",2)]) (ok:=by show Wq ["grid","j","row"] (qg (top 31)) _ _=true;decide +kernel) (hv:=by simp [Tg.within]) (hg:=fun s H C cl fp=>(pgn 2 nd)) (ht:=fun s H C cl fp=>xu) (he:=fun s H C cl fp=>(yQ (xv 2) (xv 1) (fun _ _=>rfl))))))) (fun _ _=>.inr rfl)
theorem Z3:qp ["grid","j"] ["grid"] (qg (top 32)):=vZ rfl rfl rfl rfl (by decide +kernel)
theorem ZR {f:Addr}{fd:FuncData} (F:Fun K "columns_of" "columns_of" (top 32) f fd) (hm:mg "columns_of"=some (.ref f)) (hb:Binds K fd ["grid"] []) (n_len:mg "len"=none) (n_range:mg "range"=none) (f_column_of:Fd P w K mg base 1 "column_of" 2 Gr.zB):Fd P w K mg base 2 "columns_of" 1 Gr.wa :=
 fd2 (r:=Gr.yW) F Z3 hm hb rfl (fun a b c d e f hr nd G=>(qw (qZ (QA (hc:=rfl) (hN:=nd) (acc:=G.acc) (hst:=rfl) (hfr:=rfl) (hi:=(jA (i:=1) rfl n_range (zZ (wG wd rfl n_len zI (qd (yQ (xv 0) qI (fun _ _=>rfl)) qm)) uI))) (own:=[("j",1)]) (ok:=by show Wq ["grid","j"] (qg (top 32)) _ _=true;decide +kernel) (hv:=by simp [Tg.within]) (hg:=fun s H C cl fp=>(pgn 1 nd)) (ht:=fun s H C cl fp=>xu) (he:=fun s H C cl fp=>(qj Qp f_column_of (hr.mono (by decide)) rfl (.cons (.cons (.nil))) (qd (xv 0) (qd (xv 1) qm)))))))) (fun _ _=>.inr rfl)
theorem Z2:qp ["x","n","i","j"] ["x","n","i"] (qg (top 33)):=vZ rfl rfl rfl rfl (by decide +kernel)
theorem ZS {f:Addr}{fd:FuncData} (F:Fun K "middle_row" "middle_row" (top 33) f fd) (hm:mg "middle_row"=some (.ref f)) (hb:Binds K fd ["x","n","i"] []) (n_range:mg "range"=none):Fd P w K mg base 1 "middle_row" 3 Gr.zd :=
 fd2 (r:=Gr.yU) F Z2 hm hb rfl (fun a b c d e f hr nd G=>(qw (qZ (QA (hc:=rfl) (hN:=nd) (acc:=G.acc) (hst:=rfl) (hfr:=rfl) (hi:=(jA (i:=3) rfl n_range (xv 1))) (own:=[("j",3)]) (ok:=by show Wq ["x","n","i","j"] (qg (top 33)) _ _=true;decide +kernel) (hv:=by simp [Tg.within]) (hg:=fun s H C cl fp=>(pgn 3 nd)) (ht:=fun s H C cl fp=>xu) (he:=fun s H C cl fp=>(Yp (wx (yP hr.units) uO (vU _) (xv 3) (xv 2)) (xv 0) qI)))))) (fun _ _=>.inr rfl)
theorem WU:qp ["x","n","i"] ["x","n"] (qg (top 34)):=vZ rfl rfl rfl rfl (by decide +kernel)
theorem Zv {f:Addr}{fd:FuncData} (F:Fun K "middle_grid" "middle_grid" (top 34) f fd) (hm:mg "middle_grid"=some (.ref f)) (hb:Binds K fd ["x","n"] []) (n_range:mg "range"=none) (f_middle_row:Fd P w K mg base 1 "middle_row" 3 Gr.zd):FdM P w K mg base 2 "middle_grid" 2 Gr.zT :=
 Jj (r:=Gr.ym) F WU hm hb rfl (fun a b c d e f hr nd G=>(v9 (qft (qaJ (hc:=rfl) (hN:=nd) (acc:=G.acc) (hst:=rfl) (hfr:=rfl) (hi:=(jA (i:=2) rfl n_range (xv 1))) (own:=[("i",2)]) (ok:=by show Wq ["x","n","i"] (qg (top 34)) _ _=true;decide +kernel) (hv:=by simp [Tg.within]) (hg:=fun s H C cl fp=>(pgn 2 nd)) (ht:=fun s H C cl fp=>xu) (he:=fun s H C cl fp=>(qj Qp f_middle_row (hr.mono (by decide)) rfl (.cons (.cons (.cons (.nil)))) (qd (xv 0) (qd (xv 1) (qd (xv 2) qm))))))))) (fun _ _=>rfl)
theorem Y0:qp ["n"] ["n"] (qg (top 35)):=vZ rfl rfl rfl rfl (by decide +kernel)
theorem Y9 {f:Addr}{fd:FuncData} (F:Fun K "unit_grid" "unit_grid" (top 35) f fd) (hm:mg "unit_grid"=some (.ref f)) (hb:Binds K fd ["n"] []) (c_ONE:∃ t,mg "ONE"=some (.int 4607182418800017408 t)) (M_middle_grid:FdM P w K mg base 2 "middle_grid" 2 Gr.zT):FdM P w K mg base 3 "unit_grid" 1 Gr.w6 :=
 Jj (r:=Gr.yZ) F Y0 hm hb rfl (fun a b c d e f hr nd G=>(v9 (qeD G.acc M_middle_grid (hr.mono (by decide)) rfl rfl (by exact (wD (Us (vo rfl c_ONE)) (wD (wc 0) uy)))))) (fun _ _=>rfl)
theorem YO:qp ["grid","i"] ["grid"] (qg (top 36)):=vZ rfl rfl rfl rfl (by decide +kernel)
theorem Y5 {f:Addr}{fd:FuncData} (F:Fun K "middle_of" "middle_of" (top 36) f fd) (hm:mg "middle_of"=some (.ref f)) (hb:Binds K fd ["grid"] []) (n_len:mg "len"=none) (n_range:mg "range"=none):Fd P w K mg base 1 "middle_of" 1 Gr.w8 :=
 fd2 (r:=Gr.xI) F YO hm hb rfl (fun a b c d e f hr nd G=>(qw (qZ (QA (hc:=rfl) (hN:=nd) (acc:=G.acc) (hst:=rfl) (hfr:=rfl) (hi:=(jA (i:=1) rfl n_range (zZ (wG wd rfl n_len zI (qd (xv 0) qm)) uI))) (own:=[("i",1)]) (ok:=by show Wq ["grid","i"] (qg (top 36)) _ _=true;decide +kernel) (hv:=by simp [Tg.within]) (hg:=fun s H C cl fp=>(pgn 1 nd)) (ht:=fun s H C cl fp=>xu) (he:=fun s H C cl fp=>(yQ (yQ (xv 0) (xv 1) (fun _ _=>rfl)) (xv 1) (fun _ _=>rfl))))))) (fun _ _=>.inr rfl)
theorem VG:qp ["sizes","lists","counts","size","numbers","count"] ["sizes","lists","counts"] (qg (top 44)):=vZ rfl rfl rfl rfl (by decide +kernel)
theorem Vz {f:Addr}{fd:FuncData} (F:Fun K "check_counts" "check_counts" (top 44) f fd) (hm:mg "check_counts"=some (.ref f)) (hb:Binds K fd ["sizes","lists","counts"] []) {C_WrongCount:Addr} (c_GREATEST_SIZE:∃ t,mg "GREATEST_SIZE"=some (.int 16 t)) (n_len:mg "len"=none) (n_zip:mg "zip"=none) (m_WrongCount:mg "WrongCount"=some (.ref C_WrongCount)) (x_WrongCount:qY K C_WrongCount=true):Fd P w K mg base 1 "check_counts" 3 Dt.vn :=
 fd2 (r:=Dt.yk) F VG hm hb rfl (fun a b c d e f hr nd G=>(qA (qaX G (Qt (i:=3) (xv 0)) (pgn 3 nd) (qw (xg (V7 (qfX (wx Yw (xt _) (vU _) (xv 3) qI) (qdo (wx qc2 (xt _) (vU _) (xv 3) (vo rfl c_GREATEST_SIZE))))) (qw (yM G rfl m_WrongCount x_WrongCount)) ze))) (qw (J2 G (qcP (i:=4) (j:=5) rfl n_zip (xv 1) (xv 2)) (pg2 rfl (pgn 4 nd) (pgn 5 nd)) (qw (xg (wx (JG hr.units) qdT (vU _) (zZ (wG wd rfl n_len zI (qd (xv 4) qm)) uI) (xv 5)) (qw (yM G rfl m_WrongCount x_WrongCount)) ze)))))) Dt.Vv
theorem Wk:qp ["many"] ["many"] (qg (top 45)):=vZ rfl rfl rfl rfl (by decide +kernel)
theorem W8 {f:Addr}{fd:FuncData} (F:Fun K "check_times" "check_times" (top 45) f fd) (hm:mg "check_times"=some (.ref f)) (hb:Binds K fd ["many"] []) {C_WrongCount:Addr} (c_GREATEST_TIMES:∃ t,mg "GREATEST_TIMES"=some (.int 64 t)) (m_WrongCount:mg "WrongCount"=some (.ref C_WrongCount)) (x_WrongCount:qY K C_WrongCount=true):Fd P w K mg base 1 "check_times" 1 Gr.wM :=
 fd2 (r:=Gr.yC) F Wk hm hb rfl (fun a b c d e f hr nd G=>(qw (xg (wx qc2 (xt _) (vU _) (xv 0) (vo rfl c_GREATEST_TIMES)) (qw (yM G rfl m_WrongCount x_WrongCount)) ze))) (fun _ _=>.inr rfl)
theorem Vq:qp ["numbers","x"] ["numbers"] (qg (top 46)):=vZ rfl rfl rfl rfl (by decide +kernel)
theorem VF {f:Addr}{fd:FuncData} (F:Fun K "check_finite" "check_finite" (top 46) f fd) (hm:mg "check_finite"=some (.ref f)) (hb:Binds K fd ["numbers"] []) {C_NotFinite:Addr} (m_NotFinite:mg "NotFinite"=some (.ref C_NotFinite)) (x_NotFinite:qY K C_NotFinite=true) (f_is_finite:Fd P w K mg base 2 "is_finite" 1 Dt.zz):Fd P w K mg base 3 "check_finite" 1 Dt.vf :=
 fd2 (r:=Dt.ye) F Vq hm hb rfl (fun a b c d e f hr nd G=>(qw (qaX G (Qt (i:=1) (xv 0)) (pgn 1 nd) (qw (xg (qdz (QV (qj G.acc f_is_finite (hr.mono (by decide)) rfl (.cons (.nil)) (qd (xv 1) qm)))) (qw (yM G rfl m_NotFinite x_NotFinite)) ze))))) Dt.Vo
theorem YR:qp ["self","p","q","t"] ["self","p","q","t"] (qg (Zh 49 0)):=vZ rfl rfl rfl rfl (by decide +kernel)
theorem XN {f:Addr}{fd:FuncData} (F:Fun K "__init__" "Turn.__init__" (Zh 49 0) f fd) (c_ONE:∃ t,mg "ONE"=some (.int 4607182418800017408 t)) (f_fused:Fd P w K mg base 4 "fused" 3 Dt.ve) (f_product:Fd P w K mg base 3 "product" 2 Dt.wj) (f_quotient:Fd P w K mg base 4 "quotient" 2 Dt.vg) (f_root:Fd P w K mg base 4 "root" 1 Dt.yy) (k_Turn_c:∀ C,mg "Turn"=some (.ref C)->Cls K C/\qN K C "c") (k_Turn_p:∀ C,mg "Turn"=some (.ref C)->Cls K C/\qN K C "p") (k_Turn_q:∀ C,mg "Turn"=some (.ref C)->Cls K C/\qN K C "q") (k_Turn_s:∀ C,mg "Turn"=some (.ref C)->Cls K C/\qN K C "s") (k_Turn_t:∀ C,mg "Turn"=some (.ref C)->Cls K C/\qN K C "t"):uk P w K mg base (CX1 P w) 5 f fd ["self","p","q","t"] (spM mg K 4 Gr.wF) :=
 qhK (r:=Gr.yK) F YR rfl (fun a b c d e f hr nd G=>(qH (Qa k_Turn_p (wc 0) (wc 1)) (qH (Qa k_Turn_q (wc 0) (wc 2)) (qH (Qa k_Turn_t (wc 0) (wc 3)) (qH (Qa k_Turn_c (wc 0) (Us (qj G.acc f_quotient (hr.mono (by decide)) rfl (.cons (.cons (.nil))) (qd (vo rfl c_ONE) (qd (qj G.acc f_root (hr.mono (by decide)) rfl (.cons (.nil)) (qd (qj G.acc f_fused (hr.mono (by decide)) rfl (.cons (.cons (.cons (.nil)))) (qd (xv 3) (qd (xv 3) (qd (vo rfl c_ONE) qm)))) qm)) qm))))) (v9 (Qa k_Turn_s (wc 0) (Qd (qj G.acc f_product (hr.mono (by decide)) rfl (.cons (.cons (.nil))) (qd (xv 3) (qd (zq k_Turn_c (xv 0)) qm)))))))))))
theorem ZA:qp ["self","a","row"] ["self","a"] (qg (Zh 50 0)):=vZ rfl rfl rfl rfl (by decide +kernel)
theorem Zs {f:Addr}{fd:FuncData} (F:Fun K "__init__" "Turned.__init__" (Zh 50 0) f fd) (n_len:mg "len"=none) (n_list:mg "list"=none) (M_unit_grid:FdM P w K mg base 3 "unit_grid" 1 Gr.w6) (k_Turned_v:∀ C,mg "Turned"=some (.ref C)->Cls K C/\qN K C "v") (k_Turned_x:∀ C,mg "Turned"=some (.ref C)->Cls K C/\qN K C "x"):uk P w K mg base (CX1 P w) 4 f fd ["self","a"] (spM mg K 2 Gr.wR) :=
 qhK (r:=Gr.zN) F ZA rfl (fun a b c d e f hr nd G=>(qH (qbz k_Turned_x (wc 0) (qaJ (hc:=rfl) (hN:=nd) (acc:=G.acc) (hst:=rfl) (hfr:=rfl) (hi:=(Qt (i:=2) (xv 1))) (own:=[("row",2)]) (ok:=by show Wq ["self","a","row"] (qg (Zh 50 0)) _ _=true;decide +kernel) (hv:=by simp [Tg.within]) (hg:=fun s H C cl fp=>(pgn 2 nd)) (ht:=fun s H C cl fp=>xu) (he:=fun s H C cl fp=>(zZ (qbW XR rfl n_list qat (qd (xv 2) qm)) qeu)))) (v9 (qd1 G k_Turned_v M_unit_grid (hr.mono (by decide)) rfl rfl (wc 0) (by exact (wD (Us (zZ (wG wd rfl n_len zI (qd (xv 1) qm)) uI)) uy))))))
theorem jQ:qp ["a","x","y"] ["a"] (qg (top 51)):=vZ rfl rfl rfl rfl (by decide +kernel)
theorem jX {f:Addr}{fd:FuncData} (F:Fun K "check_both_ways" "check_both_ways" (top 51) f fd) (hm:mg "check_both_ways"=some (.ref f)) (hb:Binds K fd ["a"] []) {C_NotAsTold:Addr} (n_zip:mg "zip"=none) (m_NotAsTold:mg "NotAsTold"=some (.ref C_NotAsTold)) (x_NotAsTold:qY K C_NotAsTold=true) (f_columns_of:Fd P w K mg base 2 "columns_of" 1 Gr.wa) (f_flat:Fd P w K mg base 1 "flat" 1 Gr.zu) (f_is_equal:Fd P w K mg base 3 "is_equal" 2 Gr.vF):Fd P w K mg base 4 "check_both_ways" 1 Gr.qW :=
 fd2 (r:=Gr.zp) F jQ hm hb rfl (fun a b c d e f hr nd G=>(qw (J2 G (qcP (i:=1) (j:=2) rfl n_zip (qj G.acc f_flat (hr.mono (by decide)) rfl (.cons (.nil)) (qd (xv 0) qm)) (qj G.acc f_flat (hr.mono (by decide)) rfl (.cons (.nil)) (qd (qj G.acc f_columns_of (hr.mono (by decide)) rfl (.cons (.nil)) (qd (xv 0) qm)) qm))) (pg2 rfl (pgn 1 nd) (pgn 2 nd)) (qw (xg (qdz (QV (qj G.acc f_is_equal (hr.mono (by decide)) rfl (.cons (.cons (.nil))) (qd (xv 1) (qd (xv 2) qm))))) (qw (yM G rfl m_NotAsTold x_NotAsTold)) ze))))) (fun _ _=>.inr rfl)
theorem Vp:qp ["z","e","power","low"] ["z","e"] (qg (top 52)):=vZ rfl rfl rfl rfl (by decide +kernel)
theorem VI {f:Addr}{fd:FuncData} (F:Fun K "is_far_below" "is_far_below" (top 52) f fd) (hm:mg "is_far_below"=some (.ref f)) (hb:Binds K fd ["z","e"] []) (c_FAR_POWER:∃ t,mg "FAR_POWER"=some (.int 500 t)) (n_min:mg "min"=none) (f_power_of:Fd P w K mg base 2 "power_of" 1 Dt.qo) (f_whole_of:Fd P w K mg base 2 "whole_of" 1 Dt.qy):Fd P w K mg base 3 "is_far_below" 2 Gr.vV :=
 fd2 (r:=Gr.yg) F Vp hm hb rfl (fun a b c d e f hr nd G=>(qA (yp 2 G (qr wb zg (qj G.acc f_power_of (hr.mono (by decide)) rfl (.cons (.nil)) (qd (xv 0) qm)) (vo rfl c_FAR_POWER))) (qA (yp 3 G (zZ (wG (Yg rfl) rfl n_min YJ (qd (xv 2) (qd (qj G.acc f_power_of (hr.mono (by decide)) rfl (.cons (.nil)) (qd (xv 1) qm)) qm))) qeb)) (qw (qZ (Xx Yw (xt _) (vU _) (qr wV zL (qj G.acc f_whole_of (hr.mono (by decide)) rfl (.cons (.nil)) (qd (xv 0) qm)) (qr wX wY (xv 2) (xv 3))) (qr wV zL (qj G.acc f_whole_of (hr.mono (by decide)) rfl (.cons (.nil)) (qd (xv 1) qm)) (qr wX wY (qj G.acc f_power_of (hr.mono (by decide)) rfl (.cons (.nil)) (qd (xv 1) qm)) (xv 3))))))))) (fun _ _=>.inr rfl)
theorem Z4:qp ["z","e","h","g","t"] ["z","e"] (qg (top 53)):=vZ rfl rfl rfl rfl (by decide +kernel)
theorem ZT {f:Addr}{fd:FuncData} (F:Fun K "tangent_of" "tangent_of" (top 53) f fd) (hm:mg "tangent_of"=some (.ref f)) (hb:Binds K fd ["z","e"] []) (c_ONE:∃ t,mg "ONE"=some (.int 4607182418800017408 t)) (f_fused:Fd P w K mg base 4 "fused" 3 Dt.ve) (f_is_far_below:Fd P w K mg base 3 "is_far_below" 2 Gr.vV) (f_opposite:Fd P w K mg base 1 "opposite" 1 Dt.vI) (f_plus:Fd P w K mg base 5 "plus" 2 Dt.yw) (f_quotient:Fd P w K mg base 4 "quotient" 2 Dt.vg) (f_rank_of:Fd P w K mg base 2 "rank_of" 1 Gr.wZ) (f_root:Fd P w K mg base 4 "root" 1 Dt.yy) (f_size_of:Fd P w K mg base 1 "size_of" 1 Dt.qG):Fd P w K mg base 6 "tangent_of" 2 Gr.zf :=
 fd2 (r:=Gr.y6) F Z4 hm hb rfl (fun a b c d e f hr nd G=>(qA (xg (QV (qj G.acc f_is_far_below (hr.mono (by decide)) rfl (.cons (.cons (.nil))) (qd (xv 0) (qd (xv 1) qm)))) (qw (qZ (qj G.acc f_quotient (hr.mono (by decide)) rfl (.cons (.cons (.nil))) (qd (xv 0) (qd (xv 1) qm))))) ze) (qA (yp 2 G (qj G.acc f_quotient (hr.mono (by decide)) rfl (.cons (.cons (.nil))) (qd (xv 1) (qd (qj G.acc f_plus (hr.mono (by decide)) rfl (.cons (.cons (.nil))) (qd (xv 0) (qd (xv 0) qm))) qm)))) (qA (yp 3 G (qj G.acc f_plus (hr.mono (by decide)) rfl (.cons (.cons (.nil))) (qd (qj G.acc f_size_of (hr.mono (by decide)) rfl (.cons (.nil)) (qd (xv 2) qm)) (qd (qj G.acc f_root (hr.mono (by decide)) rfl (.cons (.nil)) (qd (qj G.acc f_fused (hr.mono (by decide)) rfl (.cons (.cons (.cons (.nil)))) (qd (xv 2) (qd (xv 2) (qd (vo rfl c_ONE) qm)))) qm)) qm)))) (qA (yp 4 G (qj G.acc f_quotient (hr.mono (by decide)) rfl (.cons (.cons (.nil))) (qd (vo rfl c_ONE) (qd (xv 3) qm)))) (qw (qZ (Yp (wx Yw (xt _) (vU _) (qj G.acc f_rank_of (hr.mono (by decide)) rfl (.cons (.nil)) (qd (xv 2) qm)) qI) (qj G.acc f_opposite (hr.mono (by decide)) rfl (.cons (.nil)) (qd (xv 4) qm)) (xv 4))))))))) (fun _ _=>.inr rfl)
theorem VC:qp ["turn","u","w"] ["turn","u","w"] (qg (top 54)):=vZ rfl rfl rfl rfl (by decide +kernel)
theorem VD {f:Addr}{fd:FuncData} (F:Fun K "first_turned" "first_turned" (top 54) f fd) (hm:mg "first_turned"=some (.ref f)) (hb:Binds K fd ["turn","u","w"] []) (f_fused:Fd P w K mg base 4 "fused" 3 Dt.ve) (f_opposite:Fd P w K mg base 1 "opposite" 1 Dt.vI) (f_product:Fd P w K mg base 3 "product" 2 Dt.wj) (k_Turn_c:∀ C,mg "Turn"=some (.ref C)->Cls K C/\qN K C "c") (k_Turn_s:∀ C,mg "Turn"=some (.ref C)->Cls K C/\qN K C "s"):Fd P w K mg base 5 "first_turned" 3 Gr.vH :=
 fd2 (r:=Gr.ya) F VC hm hb rfl (fun a b c d e f hr nd G=>(qw (qZ (qj G.acc f_fused (hr.mono (by decide)) rfl (.cons (.cons (.cons (.nil)))) (qd (zq k_Turn_c (xv 0)) (qd (xv 1) (qd (qj G.acc f_opposite (hr.mono (by decide)) rfl (.cons (.nil)) (qd (qj G.acc f_product (hr.mono (by decide)) rfl (.cons (.cons (.nil))) (qd (zq k_Turn_s (xv 0)) (qd (xv 2) qm))) qm)) qm))))))) (fun _ _=>.inr rfl)
theorem QI:qp ["turn","u","w"] ["turn","u","w"] (qg (top 55)):=vZ rfl rfl rfl rfl (by decide +kernel)
theorem QM {f:Addr}{fd:FuncData} (F:Fun K "second_turned" "second_turned" (top 55) f fd) (hm:mg "second_turned"=some (.ref f)) (hb:Binds K fd ["turn","u","w"] []) (f_fused:Fd P w K mg base 4 "fused" 3 Dt.ve) (f_product:Fd P w K mg base 3 "product" 2 Dt.wj) (k_Turn_c:∀ C,mg "Turn"=some (.ref C)->Cls K C/\qN K C "c") (k_Turn_s:∀ C,mg "Turn"=some (.ref C)->Cls K C/\qN K C "s"):Fd P w K mg base 5 "second_turned" 3 Gr.vy :=
 fd2 (r:=Gr.zY) F QI hm hb rfl (fun a b c d e f hr nd G=>(qw (qZ (qj G.acc f_fused (hr.mono (by decide)) rfl (.cons (.cons (.cons (.nil)))) (qd (zq k_Turn_s (xv 0)) (qd (xv 1) (qd (qj G.acc f_product (hr.mono (by decide)) rfl (.cons (.cons (.nil))) (qd (zq k_Turn_c (xv 0)) (qd (xv 2) qm))) qm))))))) (fun _ _=>.inr rfl)
theorem ZH:qp ["x","turn","p","q","z"] ["x","turn"] (qg (top 56)):=vZ rfl rfl rfl rfl (by decide +kernel)
theorem WE {f:Addr}{fd:FuncData} (F:Fun K "turn_middle" "turn_middle" (top 56) f fd) (hm:mg "turn_middle"=some (.ref f)) (hb:Binds K fd ["x","turn"] []) (f_fused:Fd P w K mg base 4 "fused" 3 Dt.ve) (f_opposite:Fd P w K mg base 1 "opposite" 1 Dt.vI) (k_Turn_p:∀ C,mg "Turn"=some (.ref C)->Cls K C/\qN K C "p") (k_Turn_q:∀ C,mg "Turn"=some (.ref C)->Cls K C/\qN K C "q") (k_Turn_t:∀ C,mg "Turn"=some (.ref C)->Cls K C/\qN K C "t"):FdM P w K mg base 5 "turn_middle" 2 Gr.wK :=
 Jj (r:=Gr.yG) F ZH hm hb rfl (fun a b c d e f hr nd G=>(qH (xl 2 G (jv k_Turn_p (wc 1))) (qH (xl 3 G (jv k_Turn_q (wc 1))) (qH (xl 4 G (zo (zo (wc 0) (xv 2)) (xv 3))) (qH (zR (xT (Qd (qj G.acc f_fused (hr.mono (by decide)) rfl (.cons (.cons (.cons (.nil)))) (qd (qj G.acc f_opposite (hr.mono (by decide)) rfl (.cons (.nil)) (qd (zq k_Turn_t (xv 1)) qm)) (qd (xv 4) (qd (yQ (yQ (xv 0) (xv 2) (fun _ _=>rfl)) (xv 2) (fun _ _=>rfl)) qm))))) (xW (zo (wc 0) (xv 2)) (xv 2) set_list))) (qH (zR (xT (Qd (qj G.acc f_fused (hr.mono (by decide)) rfl (.cons (.cons (.cons (.nil)))) (qd (zq k_Turn_t (xv 1)) (qd (xv 4) (qd (yQ (yQ (xv 0) (xv 3) (fun _ _=>rfl)) (xv 3) (fun _ _=>rfl)) qm))))) (xW (zo (wc 0) (xv 3)) (xv 3) set_list))) (qH (zR (xT (Us qI) (xW (zo (wc 0) (xv 2)) (xv 3) set_list))) (v9 (zR (xT (Us qI) (xW (zo (wc 0) (xv 3)) (xv 2) set_list))))))))))) (fun _ _=>rfl)
theorem Zx:qp ["x","turn","p","q","i","u","w"] ["x","turn"] (qg (top 57)):=vZ rfl rfl rfl rfl (by decide +kernel)
theorem WL {f:Addr}{fd:FuncData} (F:Fun K "turn_others" "turn_others" (top 57) f fd) (hm:mg "turn_others"=some (.ref f)) (hb:Binds K fd ["x","turn"] []) (n_len:mg "len"=none) (n_range:mg "range"=none) (f_first_turned:Fd P w K mg base 5 "first_turned" 3 Gr.vH) (f_second_turned:Fd P w K mg base 5 "second_turned" 3 Gr.vy) (k_Turn_p:∀ C,mg "Turn"=some (.ref C)->Cls K C/\qN K C "p") (k_Turn_q:∀ C,mg "Turn"=some (.ref C)->Cls K C/\qN K C "q"):FdM P w K mg base 6 "turn_others" 2 Gr.wO :=
 Jj (r:=Gr.yB) F Zx hm hb rfl (fun a b c d e f hr nd G=>(qH (xl 2 G (jv k_Turn_p (wc 1))) (qH (xl 3 G (jv k_Turn_q (wc 1))) (v9 (Q2 G (jq (i:=4) rfl n_range (zZ (wG wd rfl n_len zI (qd (xv 0) qm)) uI)) (pgn 4 nd) (v9 (qfZ (V7 (qdb (wx (JG hr.units) qdT (vU _) (xv 4) (xv 2)) (qaW (wx (JG hr.units) qdT (vU _) (xv 4) (xv 3))))) (qH (xl 5 G (zo (zo (wc 0) (xv 4)) (xv 2))) (qH (xl 6 G (zo (zo (wc 0) (xv 4)) (xv 3))) (qH (zR (xT (Qd (qj G.acc f_first_turned (hr.mono (by decide)) rfl (.cons (.cons (.cons (.nil)))) (qd (xv 1) (qd (xv 5) (qd (xv 6) qm))))) (xW (zo (wc 0) (xv 4)) (xv 2) set_list))) (qH (zR (xT (zo (zo (wc 0) (xv 4)) (xv 2)) (xW (zo (wc 0) (xv 2)) (xv 4) set_list))) (qH (zR (xT (Qd (qj G.acc f_second_turned (hr.mono (by decide)) rfl (.cons (.cons (.cons (.nil)))) (qd (xv 1) (qd (xv 5) (qd (xv 6) qm))))) (xW (zo (wc 0) (xv 4)) (xv 3) set_list))) (v9 (zR (xT (zo (zo (wc 0) (xv 4)) (xv 3)) (xW (zo (wc 0) (xv 3)) (xv 4) set_list))))))))) qaS))))))) (fun _ _=>rfl)
theorem Vr:qp ["v","turn","i","u","w"] ["v","turn"] (qg (top 58)):=vZ rfl rfl rfl rfl (by decide +kernel)
theorem VH {f:Addr}{fd:FuncData} (F:Fun K "turn_columns" "turn_columns" (top 58) f fd) (hm:mg "turn_columns"=some (.ref f)) (hb:Binds K fd ["v","turn"] []) (n_len:mg "len"=none) (n_range:mg "range"=none) (f_first_turned:Fd P w K mg base 5 "first_turned" 3 Gr.vH) (f_second_turned:Fd P w K mg base 5 "second_turned" 3 Gr.vy) (k_Turn_p:∀ C,mg "Turn"=some (.ref C)->Cls K C/\qN K C "p") (k_Turn_q:∀ C,mg "Turn"=some (.ref C)->Cls K C/\qN K C "q"):FdM P w K mg base 6 "turn_columns" 2 Gr.wo :=
 Jj (r:=Gr.yo) F Vr hm hb rfl (fun a b c d e f hr nd G=>(v9 (Q2 G (jq (i:=2) rfl n_range (zZ (wG wd rfl n_len zI (qd (xv 0) qm)) uI)) (pgn 2 nd) (qH (xl 3 G (zo (zo (wc 0) (xv 2)) (zq k_Turn_p (xv 1)))) (qH (xl 4 G (zo (zo (wc 0) (xv 2)) (zq k_Turn_q (xv 1)))) (qH (zR (xT (Qd (qj G.acc f_first_turned (hr.mono (by decide)) rfl (.cons (.cons (.cons (.nil)))) (qd (xv 1) (qd (xv 3) (qd (xv 4) qm))))) (xW (zo (wc 0) (xv 2)) (zq k_Turn_p (xv 1)) set_list))) (v9 (zR (xT (Qd (qj G.acc f_second_turned (hr.mono (by decide)) rfl (.cons (.cons (.cons (.nil)))) (qd (xv 1) (qd (xv 3) (qd (xv 4) qm))))) (xW (zo (wc 0) (xv 2)) (zq k_Turn_q (xv 1)) set_list)))))))))) (fun _ _=>rfl)
theorem XH:qp ["turned","p","q","x","turn"] ["turned","p","q"] (qg (top 59)):=vZ rfl rfl rfl rfl (by decide +kernel)
theorem Y6 {f:Addr}{fd:FuncData} (F:Fun K "turn_once" "turn_once" (top 59) f fd) (hm:mg "turn_once"=some (.ref f)) (hb:Binds K fd ["turned","p","q"] []) (f_is_zero:Fd P w K mg base 2 "is_zero" 1 Dt.vQ) (f_minus:Fd P w K mg base 6 "minus" 2 Dt.yT) (f_tangent_of:Fd P w K mg base 6 "tangent_of" 2 Gr.zf) (M_turn_columns:FdM P w K mg base 6 "turn_columns" 2 Gr.wo) (M_turn_middle:FdM P w K mg base 5 "turn_middle" 2 Gr.wK) (M_turn_others:FdM P w K mg base 6 "turn_others" 2 Gr.wO) (i_Turn:FdI P w K mg base 5 "Turn" 4 Gr.wF) (k_Turned_v:∀ C,mg "Turned"=some (.ref C)->Cls K C/\qN K C "v") (k_Turned_x:∀ C,mg "Turned"=some (.ref C)->Cls K C/\qN K C "x"):FdM P w K mg base 7 "turn_once" 3 Gr.wH :=
 Jj (r:=Gr.xA) F XH hm hb rfl (fun a b c d e f hr nd G=>(qH (xl 3 G (jv k_Turned_x (wc 0))) (qH (qfZ (QV (qj G.acc f_is_zero (hr.mono (by decide)) rfl (.cons (.nil)) (qd (yQ (yQ (xv 3) (xv 1) (fun _ _=>rfl)) (xv 2) (fun _ _=>rfl)) qm))) (v9 J9) qaS) (qH (UG 4 G i_Turn (hr.mono (by decide)) rfl rfl (wD (wc 1) (wD (wc 2) (wD (Qd (qj G.acc f_tangent_of (hr.mono (by decide)) rfl (.cons (.cons (.nil))) (qd (yQ (yQ (xv 3) (xv 1) (fun _ _=>rfl)) (xv 2) (fun _ _=>rfl)) (qd (qj G.acc f_minus (hr.mono (by decide)) rfl (.cons (.cons (.nil))) (qd (yQ (yQ (xv 3) (xv 2) (fun _ _=>rfl)) (xv 2) (fun _ _=>rfl)) (qd (yQ (yQ (xv 3) (xv 1) (fun _ _=>rfl)) (xv 1) (fun _ _=>rfl)) qm))) qm)))) uy))) (hret:=Gr.ZU)) (qH (uS G.acc M_turn_middle (hr.mono (by decide)) rfl rfl (wD (wc 3) (wD (wc 4) uy))) (qH (uS G.acc M_turn_others (hr.mono (by decide)) rfl rfl (wD (wc 3) (wD (wc 4) uy))) (v9 (uS G.acc M_turn_columns (hr.mono (by decide)) rfl rfl (wD (jv k_Turned_v (wc 0)) (wD (wc 4) uy)))))))))) (fun _ _=>rfl)
theorem qdU:qp ["turned","n","p","q"] ["turned"] (qg (top 60)):=vZ rfl rfl rfl rfl (by decide +kernel)
theorem qd0 {f:Addr}{fd:FuncData} (F:Fun K "sweep" "sweep" (top 60) f fd) (hm:mg "sweep"=some (.ref f)) (hb:Binds K fd ["turned"] []) (n_len:mg "len"=none) (n_range:mg "range"=none) (M_turn_once:FdM P w K mg base 7 "turn_once" 3 Gr.wH) (k_Turned_x:∀ C,mg "Turned"=some (.ref C)->Cls K C/\qN K C "x"):FdM P w K mg base 8 "sweep" 1 Gr.xJ :=
 Jj (r:=Gr.VO) F qdU hm hb rfl (fun a b c d e f hr nd G=>(qH (xl 1 G (Qd (zZ (wG wd rfl n_len zI (qd (zq k_Turned_x (xv 0)) qm)) uI))) (v9 (Q2 G (jq (i:=2) rfl n_range (qr wX wY (xv 1) qI)) (pgn 2 nd) (v9 (Q2 G (qb0 (i:=3) rfl n_range (qr wb zg (xv 2) qI) (xv 1)) (pgn 3 nd) (v9 (uS G.acc M_turn_once (hr.mono (by decide)) rfl rfl (wD (wc 0) (wD (wc 2) (wD (wc 3) uy))))))))))) (fun _ _=>rfl)
theorem Xd:qp ["a","sweeps","turned","done"] ["a","sweeps"] (qg (top 61)):=vZ rfl rfl rfl rfl (by decide +kernel)
theorem YW {f:Addr}{fd:FuncData} (F:Fun K "jacobi_of" "jacobi_of" (top 61) f fd) (hm:mg "jacobi_of"=some (.ref f)) (hb:Binds K fd ["a","sweeps"] []) (n_range:mg "range"=none) (f_check_both_ways:Fd P w K mg base 4 "check_both_ways" 1 Gr.qW) (M_sweep:FdM P w K mg base 8 "sweep" 1 Gr.xJ) (i_Turned:FdI P w K mg base 4 "Turned" 2 Gr.wR):Fd P w K mg base 9 "jacobi_of" 2 Gr.za :=
 qhU (r:=Gr.xN) F Xd hm hb rfl (fun a b c d e f hr nd G=>(qH (qe1 (qj G.acc f_check_both_ways (hr.mono (by decide)) rfl (.cons (.nil)) (qd (xv 0) qm))) (qH (UG 2 G i_Turned (hr.mono (by decide)) rfl rfl (wD (wc 0) uy) (hret:=Gr.Vt)) (qH (Q2 G (jq (i:=3) rfl n_range (xv 1)) (pgn 3 nd) (v9 (uS G.acc M_sweep (hr.mono (by decide)) rfl rfl (wD (wc 2) uy)))) (v9 (qdQ (wc 2))))))) (fun _=>rfl)
theorem Z1:qp ["numbers"] ["numbers"] (qg (top 63)):=vZ rfl rfl rfl rfl (by decide +kernel)
theorem Z0 {f:Addr}{fd:FuncData} (F:Fun K "with_count" "with_count" (top 63) f fd) (hm:mg "with_count"=some (.ref f)) (hb:Binds K fd ["numbers"] []) (n_len:mg "len"=none):Fd P w K mg base 1 "with_count" 1 Dt.qT :=
 fd2 (r:=Dt.QE) F Z1 hm hb rfl (fun a b c d e f hr nd G=>(qw (qZ (qr wb zg (YQ (qd (zZ (wG wd rfl n_len zI (qd (xv 0) qm)) uI) qm)) (xv 0))))) Dt.ZZ
theorem Xj:qp ["grid"] ["grid"] (qg (top 64)):=vZ rfl rfl rfl rfl (by decide +kernel)
theorem YU {f:Addr}{fd:FuncData} (F:Fun K "grid_told" "grid_told" (top 64) f fd) (hm:mg "grid_told"=some (.ref f)) (hb:Binds K fd ["grid"] []) (f_flat:Fd P w K mg base 1 "flat" 1 Gr.zu) (f_with_count:Fd P w K mg base 1 "with_count" 1 Dt.qT):Fd P w K mg base 2 "grid_told" 1 Gr.zw :=
 fd2 (r:=Gr.xF) F Xj hm hb rfl (fun a b c d e f hr nd G=>(qw (qZ (qj G.acc f_with_count (hr.mono (by decide)) rfl (.cons (.nil)) (qd (qj G.acc f_flat (hr.mono (by decide)) rfl (.cons (.nil)) (qd (xv 0) qm)) qm))))) (fun _ _=>.inr rfl)
theorem Xm:qp ["n","a"] ["n","a"] (qg (top 65)):=vZ rfl rfl rfl rfl (by decide +kernel)
theorem XY {f:Addr}{fd:FuncData} (F:Fun K "square_of" "square_of" (top 65) f fd) (hm:mg "square_of"=some (.ref f)) (hb:Binds K fd ["n","a"] []) (f_check_counts:Fd P w K mg base 1 "check_counts" 3 Dt.vn) (f_check_finite:Fd P w K mg base 3 "check_finite" 1 Dt.vf) (f_grid_of:Fd P w K mg base 1 "grid_of" 2 Gr.xb):Fd P w K mg base 4 "square_of" 2 Gr.zE :=
 fd2 (r:=Gr.xy) F Xm hm hb rfl (fun a b c d e f hr nd G=>(qA (Xp (qj G.acc f_check_counts (hr.mono (by decide)) rfl (.cons (.cons (.cons (.nil)))) (qd (YQ (qd (xv 0) qm)) (qd (YQ (qd (xv 1) qm)) (qd (YQ (qd (qr (QD.or ZG) Wn (xv 0) (xv 0)) qm)) qm))))) (qA (Xp (qj G.acc f_check_finite (hr.mono (by decide)) rfl (.cons (.nil)) (qd (xv 1) qm))) (qw (qZ (qj G.acc f_grid_of (hr.mono (by decide)) rfl (.cons (.cons (.nil))) (qd (xv 1) (qd (xv 0) qm)))))))) (fun _ _=>.inr rfl)
theorem WB:qp ["n","sweeps","a","turned"] ["n","sweeps","a"] (qg (top 66)):=vZ rfl rfl rfl rfl (by decide +kernel)
theorem ZN {f:Addr}{fd:FuncData} (F:Fun K "jacobi_told" "jacobi_told" (top 66) f fd) (hm:mg "jacobi_told"=some (.ref f)) (hb:Binds K fd ["n","sweeps","a"] []) (f_check_times:Fd P w K mg base 1 "check_times" 1 Gr.wM) (f_grid_told:Fd P w K mg base 2 "grid_told" 1 Gr.zw) (f_jacobi_of:Fd P w K mg base 9 "jacobi_of" 2 Gr.za) (f_middle_of:Fd P w K mg base 1 "middle_of" 1 Gr.w8) (f_square_of:Fd P w K mg base 4 "square_of" 2 Gr.zE) (f_with_count:Fd P w K mg base 1 "with_count" 1 Dt.qT) (k_Turned_v:∀ C,mg "Turned"=some (.ref C)->Cls K C/\qN K C "v") (k_Turned_x:∀ C,mg "Turned"=some (.ref C)->Cls K C/\qN K C "x"):Fd P w K mg base 10 "jacobi_told" 3 Gr.wN :=
 fd2 (r:=Gr.yD) F WB hm hb rfl (fun a b c d e f hr nd G=>(qA (Xp (qj G.acc f_check_times (hr.mono (by decide)) rfl (.cons (.nil)) (qd (xv 1) qm))) (qA (yp 3 G (qj G.acc f_jacobi_of (hr.mono (by decide)) rfl (.cons (.cons (.nil))) (qd (qj G.acc f_square_of (hr.mono (by decide)) rfl (.cons (.cons (.nil))) (qd (xv 0) (qd (xv 2) qm))) (qd (xv 1) qm)))) (qw (qZ (qr wb zg (qj G.acc f_with_count (hr.mono (by decide)) rfl (.cons (.nil)) (qd (qj G.acc f_middle_of (hr.mono (by decide)) rfl (.cons (.nil)) (qd (zq k_Turned_x (xv 3)) qm)) qm)) (qj G.acc f_grid_told (hr.mono (by decide)) rfl (.cons (.nil)) (qd (zq k_Turned_v (xv 3)) qm)))))))) (fun _ _=>.inr rfl)
end
theorem Uw:qp ["work","told"] ["work"] (qg (top 43)):=vZ rfl rfl rfl rfl (by decide +kernel)
theorem qbx:qp ["n","sweeps","a"] ["n","sweeps","a"] (qg (top 67)):=vZ rfl rfl rfl rfl (by decide +kernel)
noncomputable def qiF:Scope:=match vT (top 67) with
 | [.Return (some (.Call _ (.Lambda _ _ ls _::_) _ _)) _]=>ls
 | _=>qg (top 67)
theorem qel:Qw (qg (top 67)) qiF:=⟨rfl,rfl,rfl,by decide +kernel,by decide +kernel,by decide +kernel⟩
theorem all_mk {P:Program}{w:World}{K:Frag}{h:Heap}{mg:Str->Option Value}{fa c PT:Addr} (X:K.In h) (G:h.Ns mainGlobals mg) (hfa:mg "jacobi"=some (.ref fa))
  {C_Turn:Addr}
  {f_x31:Addr}{d_x31:FuncData}
  {C_Turned:Addr}
  {f_x32:Addr}{d_x32:FuncData}
  {f_x0:Addr}{d_x0:FuncData}
  {f_x1:Addr}{d_x1:FuncData}
  {f_x2:Addr}{d_x2:FuncData}
  {f_x3:Addr}{d_x3:FuncData}
  {f_x4:Addr}{d_x4:FuncData}
  {f_x5:Addr}{d_x5:FuncData}
  {f_x6:Addr}{d_x6:FuncData}
  {f_x7:Addr}{d_x7:FuncData}
  {f_x8:Addr}{d_x8:FuncData}
  {f_x9:Addr}{d_x9:FuncData}
  {f_x10:Addr}{d_x10:FuncData}
  {f_x11:Addr}{d_x11:FuncData}
  {f_x12:Addr}{d_x12:FuncData}
  {f_x13:Addr}{d_x13:FuncData}
  {f_x14:Addr}{d_x14:FuncData}
  {f_x15:Addr}{d_x15:FuncData}
  {f_x16:Addr}{d_x16:FuncData}
  {f_x17:Addr}{d_x17:FuncData}
  {f_x18:Addr}{d_x18:FuncData}
  {f_x19:Addr}{d_x19:FuncData}
  {f_x20:Addr}{d_x20:FuncData}
  {f_x21:Addr}{d_x21:FuncData}
  {f_x22:Addr}{d_x22:FuncData}
  {f_x23:Addr}{d_x23:FuncData}
  {f_x24:Addr}{d_x24:FuncData}
  {f_x25:Addr}{d_x25:FuncData}
  {f_x26:Addr}{d_x26:FuncData}
  {f_x27:Addr}{d_x27:FuncData}
  {f_x28:Addr}{d_x28:FuncData}
  {f_x29:Addr}{d_x29:FuncData}
  {f_x30:Addr}{d_x30:FuncData}
  {f_x33:Addr}{d_x33:FuncData}
  {f_x34:Addr}{d_x34:FuncData}
  {f_x35:Addr}{d_x35:FuncData}
  {f_x36:Addr}{d_x36:FuncData}
  {f_x37:Addr}{d_x37:FuncData}
  {f_x38:Addr}{d_x38:FuncData}
  {f_x39:Addr}{d_x39:FuncData}
  {f_x40:Addr}{d_x40:FuncData}
  {f_x41:Addr}{d_x41:FuncData}
  {f_x42:Addr}{d_x42:FuncData}
  {f_x43:Addr}{d_x43:FuncData}
  {f_x44:Addr}{d_x44:FuncData}
  {f_x45:Addr}{d_x45:FuncData}
  {f_x46:Addr}{d_x46:FuncData}
  {f_x47:Addr}{d_x47:FuncData}
  {f_x48:Addr}{oc_x48 kV_x48 dc_x48 pm_x48 cd_x48 ct_x48:Value}{od_x48 an_x48:Option Addr}{sl_x48:Array (Option Value)}
  {f_x49:Addr}{oc_x49 kV_x49 dc_x49 pm_x49 cd_x49 ct_x49:Value}{od_x49 an_x49:Option Addr}{sl_x49:Array (Option Value)}
  {C_WrongCount C_NotFinite C_StepNotFinite C_NotAsTold:Addr}
  {t_FAR_POWER:_}
  {t_FRACTION_BITS:_}
  {t_GREATEST_SIZE:_}
  {t_GREATEST_TIMES:_}
  {t_INFINITE:_}
  {t_LEAST_POWER:_}
  {t_ONE:_}
  {t_SIGN_BIT:_}
  {t_WIDER:_}
  (a_Turn:mg "Turn"=some (.ref C_Turn))
  (a_x31:findIn K (.ref C_Turn) "__init__"=some (some (.ref f_x31))) (F_x31:Fun K "__init__" "Turn.__init__" (Zh 49 0) f_x31 d_x31)
  (a_Turned:mg "Turned"=some (.ref C_Turned))
  (a_x32:findIn K (.ref C_Turned) "__init__"=some (some (.ref f_x32))) (F_x32:Fun K "__init__" "Turned.__init__" (Zh 50 0) f_x32 d_x32)
  (a_x0:mg "sign_of"=some (.ref f_x0)) (F_x0:Fun K "sign_of" "sign_of" (top 8) f_x0 d_x0)
  (a_x1:mg "size_of"=some (.ref f_x1)) (F_x1:Fun K "size_of" "size_of" (top 9) f_x1 d_x1)
  (a_x2:mg "opposite"=some (.ref f_x2)) (F_x2:Fun K "opposite" "opposite" (top 10) f_x2 d_x2)
  (a_x3:mg "is_finite"=some (.ref f_x3)) (F_x3:Fun K "is_finite" "is_finite" (top 11) f_x3 d_x3)
  (a_x4:mg "is_zero"=some (.ref f_x4)) (F_x4:Fun K "is_zero" "is_zero" (top 12) f_x4 d_x4)
  (a_x5:mg "rank_of"=some (.ref f_x5)) (F_x5:Fun K "rank_of" "rank_of" (top 13) f_x5 d_x5)
  (a_x6:mg "is_equal"=some (.ref f_x6)) (F_x6:Fun K "is_equal" "is_equal" (top 14) f_x6 d_x6)
  (a_x7:mg "whole_of"=some (.ref f_x7)) (F_x7:Fun K "whole_of" "whole_of" (top 15) f_x7 d_x7)
  (a_x8:mg "signed_whole"=some (.ref f_x8)) (F_x8:Fun K "signed_whole" "signed_whole" (top 16) f_x8 d_x8)
  (a_x9:mg "power_of"=some (.ref f_x9)) (F_x9:Fun K "power_of" "power_of" (top 17) f_x9 d_x9)
  (a_x10:mg "nearest_whole"=some (.ref f_x10)) (F_x10:Fun K "nearest_whole" "nearest_whole" (top 18) f_x10 d_x10)
  (a_x11:mg "rounded"=some (.ref f_x11)) (F_x11:Fun K "rounded" "rounded" (top 19) f_x11 d_x11)
  (a_x12:mg "rounded_with_rest"=some (.ref f_x12)) (F_x12:Fun K "rounded_with_rest" "rounded_with_rest" (top 20) f_x12 d_x12)
  (a_x13:mg "fused"=some (.ref f_x13)) (F_x13:Fun K "fused" "fused" (top 21) f_x13 d_x13)
  (a_x14:mg "plus"=some (.ref f_x14)) (F_x14:Fun K "plus" "plus" (top 22) f_x14 d_x14)
  (a_x15:mg "minus"=some (.ref f_x15)) (F_x15:Fun K "minus" "minus" (top 23) f_x15 d_x15)
  (a_x16:mg "product"=some (.ref f_x16)) (F_x16:Fun K "product" "product" (top 24) f_x16 d_x16)
  (a_x17:mg "quotient"=some (.ref f_x17)) (F_x17:Fun K "quotient" "quotient" (top 25) f_x17 d_x17)
  (a_x18:mg "whole_root"=some (.ref f_x18)) (F_x18:Fun K "whole_root" "whole_root" (top 26) f_x18 d_x18)
  (a_x19:mg "root"=some (.ref f_x19)) (F_x19:Fun K "root" "root" (top 27) f_x19 d_x19)
  (a_x20:mg "grid_of"=some (.ref f_x20)) (F_x20:Fun K "grid_of" "grid_of" (top 29) f_x20 d_x20)
  (a_x21:mg "flat"=some (.ref f_x21)) (F_x21:Fun K "flat" "flat" (top 30) f_x21 d_x21)
  (a_x22:mg "column_of"=some (.ref f_x22)) (F_x22:Fun K "column_of" "column_of" (top 31) f_x22 d_x22)
  (a_x23:mg "columns_of"=some (.ref f_x23)) (F_x23:Fun K "columns_of" "columns_of" (top 32) f_x23 d_x23)
  (a_x24:mg "middle_row"=some (.ref f_x24)) (F_x24:Fun K "middle_row" "middle_row" (top 33) f_x24 d_x24)
  (a_x25:mg "middle_grid"=some (.ref f_x25)) (F_x25:Fun K "middle_grid" "middle_grid" (top 34) f_x25 d_x25)
  (a_x26:mg "unit_grid"=some (.ref f_x26)) (F_x26:Fun K "unit_grid" "unit_grid" (top 35) f_x26 d_x26)
  (a_x27:mg "middle_of"=some (.ref f_x27)) (F_x27:Fun K "middle_of" "middle_of" (top 36) f_x27 d_x27)
  (a_x28:mg "check_counts"=some (.ref f_x28)) (F_x28:Fun K "check_counts" "check_counts" (top 44) f_x28 d_x28)
  (a_x29:mg "check_times"=some (.ref f_x29)) (F_x29:Fun K "check_times" "check_times" (top 45) f_x29 d_x29)
  (a_x30:mg "check_finite"=some (.ref f_x30)) (F_x30:Fun K "check_finite" "check_finite" (top 46) f_x30 d_x30)
  (a_x33:mg "check_both_ways"=some (.ref f_x33)) (F_x33:Fun K "check_both_ways" "check_both_ways" (top 51) f_x33 d_x33)
  (a_x34:mg "is_far_below"=some (.ref f_x34)) (F_x34:Fun K "is_far_below" "is_far_below" (top 52) f_x34 d_x34)
  (a_x35:mg "tangent_of"=some (.ref f_x35)) (F_x35:Fun K "tangent_of" "tangent_of" (top 53) f_x35 d_x35)
  (a_x36:mg "first_turned"=some (.ref f_x36)) (F_x36:Fun K "first_turned" "first_turned" (top 54) f_x36 d_x36)
  (a_x37:mg "second_turned"=some (.ref f_x37)) (F_x37:Fun K "second_turned" "second_turned" (top 55) f_x37 d_x37)
  (a_x38:mg "turn_middle"=some (.ref f_x38)) (F_x38:Fun K "turn_middle" "turn_middle" (top 56) f_x38 d_x38)
  (a_x39:mg "turn_others"=some (.ref f_x39)) (F_x39:Fun K "turn_others" "turn_others" (top 57) f_x39 d_x39)
  (a_x40:mg "turn_columns"=some (.ref f_x40)) (F_x40:Fun K "turn_columns" "turn_columns" (top 58) f_x40 d_x40)
  (a_x41:mg "turn_once"=some (.ref f_x41)) (F_x41:Fun K "turn_once" "turn_once" (top 59) f_x41 d_x41)
  (a_x42:mg "sweep"=some (.ref f_x42)) (F_x42:Fun K "sweep" "sweep" (top 60) f_x42 d_x42)
  (a_x43:mg "jacobi_of"=some (.ref f_x43)) (F_x43:Fun K "jacobi_of" "jacobi_of" (top 61) f_x43 d_x43)
  (a_x44:mg "with_count"=some (.ref f_x44)) (F_x44:Fun K "with_count" "with_count" (top 63) f_x44 d_x44)
  (a_x45:mg "grid_told"=some (.ref f_x45)) (F_x45:Fun K "grid_told" "grid_told" (top 64) f_x45 d_x45)
  (a_x46:mg "square_of"=some (.ref f_x46)) (F_x46:Fun K "square_of" "square_of" (top 65) f_x46 d_x46)
  (a_x47:mg "jacobi_told"=some (.ref f_x47)) (F_x47:Fun K "jacobi_told" "jacobi_told" (top 66) f_x47 d_x47)
  (a_x48:mg "answered"=some (.ref f_x48)) (l_x48:K.lookup f_x48=some ⟨oc_x48,od_x48,.func (fnOf "answered" "answered" (zH (top 43)) (vT (top 43)) (qg (top 43)) .none kV_x48 dc_x48 pm_x48 an_x48 cd_x48 ct_x48),sl_x48⟩) (c_x48:codeIn K cd_x48 "answered"=true) (k_x48:keepIn K (.ref f_x48)=true)
  (a_x49:nsIn K mainGlobals "jacobi"=some (some (.ref f_x49))) (l_x49:K.lookup f_x49=some ⟨oc_x49,od_x49,.func (fnOf "jacobi" "jacobi" (zH (top 67)) (vT (top 67)) (qg (top 67)) .none kV_x49 dc_x49 pm_x49 an_x49 cd_x49 ct_x49),sl_x49⟩) (c_x49:codeIn K cd_x49 "jacobi"=true) (k_x49:keepIn K (.ref f_x49)=true)
  (s_FAR_POWER:mg "FAR_POWER"=some (.int (500) t_FAR_POWER))
  (s_FRACTION_BITS:mg "FRACTION_BITS"=some (.int (52) t_FRACTION_BITS))
  (s_GREATEST_SIZE:mg "GREATEST_SIZE"=some (.int (16) t_GREATEST_SIZE))
  (s_GREATEST_TIMES:mg "GREATEST_TIMES"=some (.int (64) t_GREATEST_TIMES))
  (s_INFINITE:mg "INFINITE"=some (.int (9218868437227405312) t_INFINITE))
  (s_LEAST_POWER:mg "LEAST_POWER"=some (.int (-1074) t_LEAST_POWER))
  (s_ONE:mg "ONE"=some (.int (4607182418800017408) t_ONE))
  (s_SIGN_BIT:mg "SIGN_BIT"=some (.int (9223372036854775808) t_SIGN_BIT))
  (s_WIDER:mg "WIDER"=some (.int (112) t_WIDER))
  (q_WrongCount:mg "WrongCount"=some (.ref C_WrongCount)) (x_WrongCount:qY K C_WrongCount=true)
  (q_NotFinite:mg "NotFinite"=some (.ref C_NotFinite)) (x_NotFinite:qY K C_NotFinite=true)
  (q_StepNotFinite:mg "StepNotFinite"=some (.ref C_StepNotFinite)) (x_StepNotFinite:qY K C_StepNotFinite=true)
  (q_NotAsTold:mg "NotAsTold"=some (.ref C_NotAsTold)) (x_NotAsTold:qY K C_NotAsTold=true)
  (z_abs:mg "abs"=none)
  (z_len:mg "len"=none)
  (z_list:mg "list"=none)
  (z_max:mg "max"=none)
  (z_min:mg "min"=none)
  (z_range:mg "range"=none)
  (z_zip:mg "zip"=none)
  (e2:(C_NotFinite==C_WrongCount)=false) (e3:(C_StepNotFinite==C_WrongCount)=false) (e4:(C_StepNotFinite==C_NotFinite)=false) (e5:(C_NotAsTold==C_WrongCount)=false) (e6:(C_NotAsTold==C_NotFinite)=false) (e7:(C_NotAsTold==C_StepNotFinite)=false)
  (y1_Turn:makesIn K C_Turn=true) (y2_Turn:isFn K (.ref f_x31)=true) (y3_Turn:keepIn K (.ref C_Turn)=true) (y4_Turn:plainGet K C_Turn Str.empty=true) (y5_Turn:hasDictIn K C_Turn=true) (y6_Turn:plainOver K C_Turn=true) (y7_Turn:findIn K (.ref C_Turn) "__setattr__"=some (some (.builtin "object.__setattr__")))
  (y_Turn_p:findIn K (.ref C_Turn) "p"=some none)
  (y_Turn_q:findIn K (.ref C_Turn) "q"=some none)
  (y_Turn_t:findIn K (.ref C_Turn) "t"=some none)
  (y_Turn_c:findIn K (.ref C_Turn) "c"=some none)
  (y_Turn_s:findIn K (.ref C_Turn) "s"=some none)
  (y1_Turned:makesIn K C_Turned=true) (y2_Turned:isFn K (.ref f_x32)=true) (y3_Turned:keepIn K (.ref C_Turned)=true) (y4_Turned:plainGet K C_Turned Str.empty=true) (y5_Turned:hasDictIn K C_Turned=true) (y6_Turned:plainOver K C_Turned=true) (y7_Turned:findIn K (.ref C_Turned) "__setattr__"=some (some (.builtin "object.__setattr__")))
  (y_Turned_x:findIn K (.ref C_Turned) "x"=some none)
  (y_Turned_v:findIn K (.ref C_Turned) "v"=some none)
  (htab:tabIn K "jacobi"=some (c,PT)) :
  ∃ fd:FuncData,(∀ (s:Shared) (us:List Value),us.length=(["n","sweeps","a"]:List Str).length->BindsTo s fd ⟨us,[]⟩ ((["n","sweeps","a"]:List Str).zip us))/\∀ base:Heap,K.In base->base.Ns mainGlobals mg->ux mg base c PT->uk P w K mg base (CX1 P w) 13 fa fd ["n","sweeps","a"] (qd6 mg K 3 Gr.wN LL PT):=by
 have e:=hfa.symm.trans (mg_of X G a_x49)
 cases e
 have b_x0:Binds K _ ["x"] []:=xR F_x0 fun a a a a a a a=>rfl
 have b_x1:Binds K _ ["x"] []:=xR F_x1 fun a a a a a a a=>rfl
 have b_x2:Binds K _ ["x"] []:=xR F_x2 fun a a a a a a a=>rfl
 have b_x3:Binds K _ ["x"] []:=xR F_x3 fun a a a a a a a=>rfl
 have b_x4:Binds K _ ["x"] []:=xR F_x4 fun a a a a a a a=>rfl
 have b_x5:Binds K _ ["x"] []:=xR F_x5 fun a a a a a a a=>rfl
 have b_x6:Binds K _ ["x","y"] []:=jh F_x6 fun a a a a a a a a=>rfl
 have b_x7:Binds K _ ["x"] []:=xR F_x7 fun a a a a a a a=>rfl
 have b_x8:Binds K _ ["x"] []:=xR F_x8 fun a a a a a a a=>rfl
 have b_x9:Binds K _ ["x"] []:=xR F_x9 fun a a a a a a a=>rfl
 have b_x10:Binds K _ ["whole","drop"] []:=jh F_x10 fun a a a a a a a a=>rfl
 have b_x11:Binds K _ ["sign","whole","power"] []:=Uz F_x11 fun a a a a a a a a a=>rfl
 have b_x12:Binds K _ ["sign","whole","left","power"] []:=qhB F_x12 fun a a a a a a a a a a=>rfl
 have b_x13:Binds K _ ["x","y","z"] []:=Uz F_x13 fun a a a a a a a a a=>rfl
 have b_x14:Binds K _ ["x","y"] []:=jh F_x14 fun a a a a a a a a=>rfl
 have b_x15:Binds K _ ["x","y"] []:=jh F_x15 fun a a a a a a a a=>rfl
 have b_x16:Binds K _ ["x","y"] []:=jh F_x16 fun a a a a a a a a=>rfl
 have b_x17:Binds K _ ["x","y"] []:=jh F_x17 fun a a a a a a a a=>rfl
 have b_x18:Binds K _ ["whole"] []:=xR F_x18 fun a a a a a a a=>rfl
 have b_x19:Binds K _ ["x"] []:=xR F_x19 fun a a a a a a a=>rfl
 have b_x20:Binds K _ ["numbers","n"] []:=jh F_x20 fun a a a a a a a a=>rfl
 have b_x21:Binds K _ ["grid"] []:=xR F_x21 fun a a a a a a a=>rfl
 have b_x22:Binds K _ ["grid","j"] []:=jh F_x22 fun a a a a a a a a=>rfl
 have b_x23:Binds K _ ["grid"] []:=xR F_x23 fun a a a a a a a=>rfl
 have b_x24:Binds K _ ["x","n","i"] []:=Uz F_x24 fun a a a a a a a a a=>rfl
 have b_x25:Binds K _ ["x","n"] []:=jh F_x25 fun a a a a a a a a=>rfl
 have b_x26:Binds K _ ["n"] []:=xR F_x26 fun a a a a a a a=>rfl
 have b_x27:Binds K _ ["grid"] []:=xR F_x27 fun a a a a a a a=>rfl
 have b_x28:Binds K _ ["sizes","lists","counts"] []:=Uz F_x28 fun a a a a a a a a a=>rfl
 have b_x29:Binds K _ ["many"] []:=xR F_x29 fun a a a a a a a=>rfl
 have b_x30:Binds K _ ["numbers"] []:=xR F_x30 fun a a a a a a a=>rfl
 have b_x31:Binds K _ ["self","p","q","t"] []:=qhB F_x31 fun a a a a a a a a a a=>rfl
 have b_x32:Binds K _ ["self","a"] []:=jh F_x32 fun a a a a a a a a=>rfl
 have b_x33:Binds K _ ["a"] []:=xR F_x33 fun a a a a a a a=>rfl
 have b_x34:Binds K _ ["z","e"] []:=jh F_x34 fun a a a a a a a a=>rfl
 have b_x35:Binds K _ ["z","e"] []:=jh F_x35 fun a a a a a a a a=>rfl
 have b_x36:Binds K _ ["turn","u","w"] []:=Uz F_x36 fun a a a a a a a a a=>rfl
 have b_x37:Binds K _ ["turn","u","w"] []:=Uz F_x37 fun a a a a a a a a a=>rfl
 have b_x38:Binds K _ ["x","turn"] []:=jh F_x38 fun a a a a a a a a=>rfl
 have b_x39:Binds K _ ["x","turn"] []:=jh F_x39 fun a a a a a a a a=>rfl
 have b_x40:Binds K _ ["v","turn"] []:=jh F_x40 fun a a a a a a a a=>rfl
 have b_x41:Binds K _ ["turned","p","q"] []:=Uz F_x41 fun a a a a a a a a a=>rfl
 have b_x42:Binds K _ ["turned"] []:=xR F_x42 fun a a a a a a a=>rfl
 have b_x43:Binds K _ ["a","sweeps"] []:=jh F_x43 fun a a a a a a a a=>rfl
 have b_x44:Binds K _ ["numbers"] []:=xR F_x44 fun a a a a a a a=>rfl
 have b_x45:Binds K _ ["grid"] []:=xR F_x45 fun a a a a a a a=>rfl
 have b_x46:Binds K _ ["n","a"] []:=jh F_x46 fun a a a a a a a a=>rfl
 have b_x47:Binds K _ ["n","sweeps","a"] []:=Uz F_x47 fun a a a a a a a a a=>rfl
 have F_x48:=qF (st:=(top 43)) l_x48 c_x48 k_x48
 have F_x49:=qF (st:=(top 67)) l_x49 c_x49 k_x49
 refine⟨fnOf "jacobi" "jacobi" (zH (top 67)) (vT (top 67)) (qg (top 67)) .none kV_x49 dc_x49 pm_x49 an_x49 cd_x49 ct_x49,fun s=>qgM fun _ _ _=>.of_eq rfl,fun base _ _ BL=>?_⟩
 have y_Turn_p:∀ C,mg "Turn"=some (.ref C)->Cls K C/\qN K C "p":=fun C hC=>by
  have e:=hC.symm.trans a_Turn
  cases e
  exact⟨⟨y4_Turn,y5_Turn,y6_Turn,y7_Turn⟩,y_Turn_p⟩
 have y_Turn_q:∀ C,mg "Turn"=some (.ref C)->Cls K C/\qN K C "q":=fun C hC=>by
  have e:=hC.symm.trans a_Turn
  cases e
  exact⟨⟨y4_Turn,y5_Turn,y6_Turn,y7_Turn⟩,y_Turn_q⟩
 have y_Turn_t:∀ C,mg "Turn"=some (.ref C)->Cls K C/\qN K C "t":=fun C hC=>by
  have e:=hC.symm.trans a_Turn
  cases e
  exact⟨⟨y4_Turn,y5_Turn,y6_Turn,y7_Turn⟩,y_Turn_t⟩
 have y_Turn_c:∀ C,mg "Turn"=some (.ref C)->Cls K C/\qN K C "c":=fun C hC=>by
  have e:=hC.symm.trans a_Turn
  cases e
  exact⟨⟨y4_Turn,y5_Turn,y6_Turn,y7_Turn⟩,y_Turn_c⟩
 have y_Turn_s:∀ C,mg "Turn"=some (.ref C)->Cls K C/\qN K C "s":=fun C hC=>by
  have e:=hC.symm.trans a_Turn
  cases e
  exact⟨⟨y4_Turn,y5_Turn,y6_Turn,y7_Turn⟩,y_Turn_s⟩
 have y_Turned_x:∀ C,mg "Turned"=some (.ref C)->Cls K C/\qN K C "x":=fun C hC=>by
  have e:=hC.symm.trans a_Turned
  cases e
  exact⟨⟨y4_Turned,y5_Turned,y6_Turned,y7_Turned⟩,y_Turned_x⟩
 have y_Turned_v:∀ C,mg "Turned"=some (.ref C)->Cls K C/\qN K C "v":=fun C hC=>by
  have e:=hC.symm.trans a_Turned
  cases e
  exact⟨⟨y4_Turned,y5_Turned,y6_Turned,y7_Turned⟩,y_Turned_v⟩
 have g_FAR_POWER:∃ t,mg "FAR_POWER"=some (.int (500) t):=⟨_,s_FAR_POWER⟩
 have g_FRACTION_BITS:∃ t,mg "FRACTION_BITS"=some (.int (52) t):=⟨_,s_FRACTION_BITS⟩
 have g_GREATEST_SIZE:∃ t,mg "GREATEST_SIZE"=some (.int (16) t):=⟨_,s_GREATEST_SIZE⟩
 have g_GREATEST_TIMES:∃ t,mg "GREATEST_TIMES"=some (.int (64) t):=⟨_,s_GREATEST_TIMES⟩
 have g_INFINITE:∃ t,mg "INFINITE"=some (.int (9218868437227405312) t):=⟨_,s_INFINITE⟩
 have g_LEAST_POWER:∃ t,mg "LEAST_POWER"=some (.int (-1074) t):=⟨_,s_LEAST_POWER⟩
 have g_ONE:∃ t,mg "ONE"=some (.int (4607182418800017408) t):=⟨_,s_ONE⟩
 have g_SIGN_BIT:∃ t,mg "SIGN_BIT"=some (.int (9223372036854775808) t):=⟨_,s_SIGN_BIT⟩
 have g_WIDER:∃ t,mg "WIDER"=some (.int (112) t):=⟨_,s_WIDER⟩
 have D_x0:Fd P w K mg base 1 "sign_of" 1 Dt.qC:=JE F_x0 a_x0 b_x0
 have D_x1:Fd P w K mg base 1 "size_of" 1 Dt.qG:=qaf F_x1 a_x1 b_x1 g_SIGN_BIT
 have D_x2:Fd P w K mg base 1 "opposite" 1 Dt.vI:=Jc F_x2 a_x2 b_x2 g_SIGN_BIT
 have D_x3:Fd P w K mg base 2 "is_finite" 1 Dt.zz:=Xs F_x3 a_x3 b_x3 g_INFINITE D_x1
 have D_x4:Fd P w K mg base 2 "is_zero" 1 Dt.vQ:=qaC F_x4 a_x4 b_x4 D_x1
 have D_x5:Fd P w K mg base 2 "rank_of" 1 Gr.wZ:=qas F_x5 a_x5 b_x5 D_x0 D_x1
 have D_x6:Fd P w K mg base 3 "is_equal" 2 Gr.vF:=Ue F_x6 a_x6 b_x6 D_x5
 have D_x7:Fd P w K mg base 2 "whole_of" 1 Dt.qy:=UD F_x7 a_x7 b_x7 g_FRACTION_BITS D_x1
 have D_x8:Fd P w K mg base 3 "signed_whole" 1 Dt.qQ:=Vx F_x8 a_x8 b_x8 D_x0 D_x7
 have D_x9:Fd P w K mg base 2 "power_of" 1 Dt.qo:=U4 F_x9 a_x9 b_x9 g_FRACTION_BITS g_LEAST_POWER z_max D_x1
 have D_x10:Fd P w K mg base 1 "nearest_whole" 2 Dt.vL:=QF F_x10 a_x10 b_x10
 have D_x11:Fd P w K mg base 2 "rounded" 3 Dt.vR:=JB F_x11 a_x11 b_x11 g_FRACTION_BITS g_INFINITE g_LEAST_POWER z_max q_StepNotFinite x_StepNotFinite D_x10
 have D_x12:Fd P w K mg base 3 "rounded_with_rest" 4 Dt.qK:=jb F_x12 a_x12 b_x12 D_x11
 have D_x13:Fd P w K mg base 4 "fused" 3 Dt.ve:=qdC F_x13 a_x13 b_x13 z_abs z_min D_x9 D_x11 D_x0 D_x8
 have D_x14:Fd P w K mg base 5 "plus" 2 Dt.yw:=qex F_x14 a_x14 b_x14 g_ONE D_x13
 have D_x15:Fd P w K mg base 6 "minus" 2 Dt.yT:=qda F_x15 a_x15 b_x15 D_x2 D_x14
 have D_x16:Fd P w K mg base 3 "product" 2 Dt.wj:=Jv F_x16 a_x16 b_x16 D_x9 D_x11 D_x0 D_x7
 have D_x17:Fd P w K mg base 4 "quotient" 2 Dt.vg:=UT F_x17 a_x17 b_x17 g_WIDER q_StepNotFinite x_StepNotFinite D_x4 D_x9 D_x12 D_x0 D_x7
 have D_x18:Fd P w K mg base 1 "whole_root" 1 Dt.zc:=Z9 F_x18 a_x18 b_x18
 have D_x19:Fd P w K mg base 4 "root" 1 Dt.yy:=qeY F_x19 a_x19 b_x19 g_WIDER q_StepNotFinite x_StepNotFinite D_x4 D_x9 D_x12 D_x0 D_x7 D_x18
 have D_x20:Fd P w K mg base 1 "grid_of" 2 Gr.xb:=qaF F_x20 a_x20 b_x20 z_len z_range
 have D_x21:Fd P w K mg base 1 "flat" 1 Gr.zu:=qez F_x21 a_x21 b_x21
 have D_x22:Fd P w K mg base 1 "column_of" 2 Gr.zB:=Xr F_x22 a_x22 b_x22
 have D_x23:Fd P w K mg base 2 "columns_of" 1 Gr.wa:=ZR F_x23 a_x23 b_x23 z_len z_range D_x22
 have D_x24:Fd P w K mg base 1 "middle_row" 3 Gr.zd:=ZS F_x24 a_x24 b_x24 z_range
 have D_x25:FdM P w K mg base 2 "middle_grid" 2 Gr.zT:=Zv F_x25 a_x25 b_x25 z_range D_x24
 have D_x26:FdM P w K mg base 3 "unit_grid" 1 Gr.w6:=Y9 F_x26 a_x26 b_x26 g_ONE D_x25
 have D_x27:Fd P w K mg base 1 "middle_of" 1 Gr.w8:=Y5 F_x27 a_x27 b_x27 z_len z_range
 have D_x28:Fd P w K mg base 1 "check_counts" 3 Dt.vn:=Vz F_x28 a_x28 b_x28 g_GREATEST_SIZE z_len z_zip q_WrongCount x_WrongCount
 have D_x29:Fd P w K mg base 1 "check_times" 1 Gr.wM:=W8 F_x29 a_x29 b_x29 g_GREATEST_TIMES q_WrongCount x_WrongCount
 have D_x30:Fd P w K mg base 3 "check_finite" 1 Dt.vf:=VF F_x30 a_x30 b_x30 q_NotFinite x_NotFinite D_x3
 have D_x31:FdI P w K mg base 5 "Turn" 4 Gr.wF:=⟨C_Turn,f_x31,_,_,⟨y1_Turn,a_x31,y2_Turn,y3_Turn⟩,XN F_x31 g_ONE D_x13 D_x16 D_x17 D_x19 y_Turn_c y_Turn_p y_Turn_q y_Turn_s y_Turn_t,a_Turn,b_x31⟩
 have D_x32:FdI P w K mg base 4 "Turned" 2 Gr.wR:=⟨C_Turned,f_x32,_,_,⟨y1_Turned,a_x32,y2_Turned,y3_Turned⟩,Zs F_x32 z_len z_list D_x26 y_Turned_v y_Turned_x,a_Turned,b_x32⟩
 have D_x33:Fd P w K mg base 4 "check_both_ways" 1 Gr.qW:=jX F_x33 a_x33 b_x33 z_zip q_NotAsTold x_NotAsTold D_x23 D_x21 D_x6
 have D_x34:Fd P w K mg base 3 "is_far_below" 2 Gr.vV:=VI F_x34 a_x34 b_x34 g_FAR_POWER z_min D_x9 D_x7
 have D_x35:Fd P w K mg base 6 "tangent_of" 2 Gr.zf:=ZT F_x35 a_x35 b_x35 g_ONE D_x13 D_x34 D_x2 D_x14 D_x17 D_x5 D_x19 D_x1
 have D_x36:Fd P w K mg base 5 "first_turned" 3 Gr.vH:=VD F_x36 a_x36 b_x36 D_x13 D_x2 D_x16 y_Turn_c y_Turn_s
 have D_x37:Fd P w K mg base 5 "second_turned" 3 Gr.vy:=QM F_x37 a_x37 b_x37 D_x13 D_x16 y_Turn_c y_Turn_s
 have D_x38:FdM P w K mg base 5 "turn_middle" 2 Gr.wK:=WE F_x38 a_x38 b_x38 D_x13 D_x2 y_Turn_p y_Turn_q y_Turn_t
 have D_x39:FdM P w K mg base 6 "turn_others" 2 Gr.wO:=WL F_x39 a_x39 b_x39 z_len z_range D_x36 D_x37 y_Turn_p y_Turn_q
 have D_x40:FdM P w K mg base 6 "turn_columns" 2 Gr.wo:=VH F_x40 a_x40 b_x40 z_len z_range D_x36 D_x37 y_Turn_p y_Turn_q
 have D_x41:FdM P w K mg base 7 "turn_once" 3 Gr.wH:=Y6 F_x41 a_x41 b_x41 D_x4 D_x15 D_x35 D_x40 D_x38 D_x39 D_x31 y_Turned_v y_Turned_x
 have D_x42:FdM P w K mg base 8 "sweep" 1 Gr.xJ:=qd0 F_x42 a_x42 b_x42 z_len z_range D_x41 y_Turned_x
 have D_x43:Fd P w K mg base 9 "jacobi_of" 2 Gr.za:=YW F_x43 a_x43 b_x43 z_range D_x33 D_x42 D_x32
 have D_x44:Fd P w K mg base 1 "with_count" 1 Dt.qT:=Z0 F_x44 a_x44 b_x44 z_len
 have D_x45:Fd P w K mg base 2 "grid_told" 1 Gr.zw:=YU F_x45 a_x45 b_x45 D_x21 D_x44
 have D_x46:Fd P w K mg base 4 "square_of" 2 Gr.zE:=XY F_x46 a_x46 b_x46 D_x28 D_x30 D_x20
 have D_x47:Fd P w K mg base 10 "jacobi_told" 3 Gr.wN:=ZN F_x47 a_x47 b_x47 D_x29 D_x45 D_x43 D_x27 D_x46 D_x44 y_Turned_v y_Turned_x
 have AO:qcY P w K mg base (top 43) [(C_WrongCount,1),(C_NotFinite,2),(C_StepNotFinite,3),(C_NotAsTold,4)]:=⟨f_x48,_,_,_,_,_,_,_,_,_,_,_,_,_,_,_,_,_,_,_,_,_,_,l_x48,c_x48,k_x48,a_x48,rfl,Uw,rfl,rfl,fun s u=>.of_eq rfl,
  fun A outer s H E=>.cons rfl q_WrongCount x_WrongCount (by decide) (.cons rfl q_NotFinite x_NotFinite (by decide) (.cons rfl q_StepNotFinite x_StepNotFinite (by decide) (.cons rfl q_NotAsTold x_NotAsTold (by decide) .nil)))⟩
 have ER:qab mg K LL [(C_WrongCount,1),(C_NotFinite,2),(C_StepNotFinite,3),(C_NotAsTold,4)]:=⟨fun c C k hC hl=>qik q_WrongCount q_NotFinite q_StepNotFinite q_NotAsTold x_WrongCount x_NotFinite x_StepNotFinite x_NotAsTold e2 e3 e4 e5 e6 e7 hC hl⟩
 exact qgi (st:=top 67) (st2:=top 43) (g:=Gr.wN) F_x49 qbx rfl htab a_x49 BL AO ER rfl qel rfl (fun _=>rfl) (fun _ _ _ _ _=>rfl)
  (fun cdv A outer s0 H0 E0 Y q f2 cd s H E2 hr=>qj (qeZ qel) D_x47 hr rfl (.cons (.cons (.cons (.nil)))) (qd (xv 0) (qd (xv 1) (qd (xv 2) qm)))) (qgM fun _ _ _=>⟨_,rfl,rfl⟩)
end Lw
open PySem PySem.W PyProof.Rows
def PySem.W.Fast.tw7426588851984982939:=()
def PySem.W.Fast.tw8103687113580708361:=()
def PySem.W.Fast.tw14820521065395639754:=()
def PySem.W.Fast.tw1029505804741367136:=()
def PySem.W.Fast.tw9764139921675440699:=()
def PySem.W.Fast.tw2719796882421064708:=()
def PySem.W.Fast.tw8867345125748346426:=()
def PySem.W.Fast.tw7373480358037147383:=()
def PySem.W.Fast.tw11649846803024764891:=()
def PySem.W.Fast.tw4929769835850312356:=()
def PySem.W.Fast.tw16537629324994639317:=()
set_option maxRecDepth 100000 in
set_option maxHeartbeats 0 in
theorem PySem.Challenge.cw_doubletables_s24_jacobi_holds : PySem.Challenge.rw_doubletables_s24_jacobi.Holds := by
 w_on;k_headS;(case hw=>exact⟨[.int 0,.int 0,.list []],by decide +kernel,by decide +kernel⟩)
 k_fillS
 refine L2.Ir.qc6 (r:=PySem.Challenge.rw_doubletables_s24_jacobi) (k:=13) (ps:=["n","sweeps","a"]) (sp:=fun K mg PT=>L2.Ir.qd6 mg K 3 Gr.wN Dt.LL PT) (c:=?c) (PT:=?PT) (by decide +kernel) rfl ⟨rfl,by decide,by decide⟩ (fun w h Y=>PySem.W.kIn_of Y) ?no ?tab rfl ?F ?S
 (case tab=>intro p;exact rfl)
 (case no=>intro p;exact rfl)
 case F =>
  intro w mg fa h Y KX G hmg
  refine' Lw.all_mk KX G hmg ?a_Turn ?a_x31 ?F_x31 ?a_Turned ?a_x32 ?F_x32 ?a_x0 ?F_x0 ?a_x1 ?F_x1 ?a_x2 ?F_x2 ?a_x3 ?F_x3 ?a_x4 ?F_x4 ?a_x5 ?F_x5 ?a_x6 ?F_x6 ?a_x7 ?F_x7 ?a_x8 ?F_x8 ?a_x9 ?F_x9 ?a_x10 ?F_x10 ?a_x11 ?F_x11 ?a_x12 ?F_x12 ?a_x13 ?F_x13 ?a_x14 ?F_x14 ?a_x15 ?F_x15 ?a_x16 ?F_x16 ?a_x17 ?F_x17 ?a_x18 ?F_x18 ?a_x19 ?F_x19 ?a_x20 ?F_x20 ?a_x21 ?F_x21 ?a_x22 ?F_x22 ?a_x23 ?F_x23 ?a_x24 ?F_x24 ?a_x25 ?F_x25 ?a_x26 ?F_x26 ?a_x27 ?F_x27 ?a_x28 ?F_x28 ?a_x29 ?F_x29 ?a_x30 ?F_x30 ?a_x33 ?F_x33 ?a_x34 ?F_x34 ?a_x35 ?F_x35 ?a_x36 ?F_x36 ?a_x37 ?F_x37 ?a_x38 ?F_x38 ?a_x39 ?F_x39 ?a_x40 ?F_x40 ?a_x41 ?F_x41 ?a_x42 ?F_x42 ?a_x43 ?F_x43 ?a_x44 ?F_x44 ?a_x45 ?F_x45 ?a_x46 ?F_x46 ?a_x47 ?F_x47 ?a_x48 ?l_x48 ?c_x48 ?k_x48 ?a_x49 ?l_x49 ?c_x49 ?k_x49 ?s_FAR_POWER ?s_FRACTION_BITS ?s_GREATEST_SIZE ?s_GREATEST_TIMES ?s_INFINITE ?s_LEAST_POWER ?s_ONE ?s_SIGN_BIT ?s_WIDER ?q_WrongCount ?x_WrongCount ?q_NotFinite ?x_NotFinite ?q_StepNotFinite ?x_StepNotFinite ?q_NotAsTold ?x_NotAsTold ?z_abs ?z_len ?z_list ?z_max ?z_min ?z_range ?z_zip ?e2 ?e3 ?e4 ?e5 ?e6 ?e7 ?y1_Turn ?y2_Turn ?y3_Turn ?y4_Turn ?y5_Turn ?y6_Turn ?y7_Turn ?y_Turn_p ?y_Turn_q ?y_Turn_t ?y_Turn_c ?y_Turn_s ?y1_Turned ?y2_Turned ?y3_Turned ?y4_Turned ?y5_Turned ?y6_Turned ?y7_Turned ?y_Turned_x ?y_Turned_v ?htab
  (case a_Turn=>(refine' PySem.W.mg_of KX G ?g1;(case g1=>k_is)));(case a_x31=>k_is);(case F_x31=>(refine' L2.qF ?g1 ?g2 ?g3;(case g1=>k_is);(case g2=>k_is);(case g3=>k_is)));(case a_Turned=>(refine' PySem.W.mg_of KX G ?g1;(case g1=>k_is)));(case a_x32=>k_is);(case F_x32=>(refine' L2.qF ?g1 ?g2 ?g3;(case g1=>k_is);(case g2=>k_is);(case g3=>k_is)));(case a_x0=>(refine' PySem.W.mg_of KX G ?g1;(case g1=>k_is)));(case F_x0=>(refine' L2.qF ?g1 ?g2 ?g3;(case g1=>k_is);(case g2=>k_is);(case g3=>k_is)));(case a_x1=>(refine' PySem.W.mg_of KX G ?g1;(case g1=>k_is)));(case F_x1=>(refine' L2.qF ?g1 ?g2 ?g3;(case g1=>k_is);(case g2=>k_is);(case g3=>k_is)));(case a_x2=>(refine' PySem.W.mg_of KX G ?g1;(case g1=>k_is)));(case F_x2=>(refine' L2.qF ?g1 ?g2 ?g3;(case g1=>k_is);(case g2=>k_is);(case g3=>k_is)));(case a_x3=>(refine' PySem.W.mg_of KX G ?g1;(case g1=>k_is)));(case F_x3=>(refine' L2.qF ?g1 ?g2 ?g3;(case g1=>k_is);(case g2=>k_is);(case g3=>k_is)));(case a_x4=>(refine' PySem.W.mg_of KX G ?g1;(case g1=>k_is)));(case F_x4=>(refine' L2.qF ?g1 ?g2 ?g3;(case g1=>k_is);(case g2=>k_is);(case g3=>k_is)));(case a_x5=>(refine' PySem.W.mg_of KX G ?g1;(case g1=>k_is)));(case F_x5=>(refine' L2.qF ?g1 ?g2 ?g3;(case g1=>k_is);(case g2=>k_is);(case g3=>k_is)));(case a_x6=>(refine' PySem.W.mg_of KX G ?g1;(case g1=>k_is)));(case F_x6=>(refine' L2.qF ?g1 ?g2 ?g3;(case g1=>k_is);(case g2=>k_is);(case g3=>k_is)));(case a_x7=>(refine' PySem.W.mg_of KX G ?g1;(case g1=>k_is)));(case F_x7=>(refine' L2.qF ?g1 ?g2 ?g3;(case g1=>k_is);(case g2=>k_is);(case g3=>k_is)));(case a_x8=>(refine' PySem.W.mg_of KX G ?g1;(case g1=>k_is)));(case F_x8=>(refine' L2.qF ?g1 ?g2 ?g3;(case g1=>k_is);(case g2=>k_is);(case g3=>k_is)));(case a_x9=>(refine' PySem.W.mg_of KX G ?g1;(case g1=>k_is)));(case F_x9=>(refine' L2.qF ?g1 ?g2 ?g3;(case g1=>k_is);(case g2=>k_is);(case g3=>k_is)));(case a_x10=>(refine' PySem.W.mg_of KX G ?g1;(case g1=>k_is)));(case F_x10=>(refine' L2.qF ?g1 ?g2 ?g3;(case g1=>k_is);(case g2=>k_is);(case g3=>k_is)));(case a_x11=>(refine' PySem.W.mg_of KX G ?g1;(case g1=>k_is)));(case F_x11=>(refine' L2.qF ?g1 ?g2 ?g3;(case g1=>k_is);(case g2=>k_is);(case g3=>k_is)));(case a_x12=>(refine' PySem.W.mg_of KX G ?g1;(case g1=>k_is)));(case F_x12=>(refine' L2.qF ?g1 ?g2 ?g3;(case g1=>k_is);(case g2=>k_is);(case g3=>k_is)));(case a_x13=>(refine' PySem.W.mg_of KX G ?g1;(case g1=>k_is)));(case F_x13=>(refine' L2.qF ?g1 ?g2 ?g3;(case g1=>k_is);(case g2=>k_is);(case g3=>k_is)));(case a_x14=>(refine' PySem.W.mg_of KX G ?g1;(case g1=>k_is)));(case F_x14=>(refine' L2.qF ?g1 ?g2 ?g3;(case g1=>k_is);(case g2=>k_is);(case g3=>k_is)));(case a_x15=>(refine' PySem.W.mg_of KX G ?g1;(case g1=>k_is)));(case F_x15=>(refine' L2.qF ?g1 ?g2 ?g3;(case g1=>k_is);(case g2=>k_is);(case g3=>k_is)));(case a_x16=>(refine' PySem.W.mg_of KX G ?g1;(case g1=>k_is)));(case F_x16=>(refine' L2.qF ?g1 ?g2 ?g3;(case g1=>k_is);(case g2=>k_is);(case g3=>k_is)));(case a_x17=>(refine' PySem.W.mg_of KX G ?g1;(case g1=>k_is)));(case F_x17=>(refine' L2.qF ?g1 ?g2 ?g3;(case g1=>k_is);(case g2=>k_is);(case g3=>k_is)));(case a_x18=>(refine' PySem.W.mg_of KX G ?g1;(case g1=>k_is)));(case F_x18=>(refine' L2.qF ?g1 ?g2 ?g3;(case g1=>k_is);(case g2=>k_is);(case g3=>k_is)));(case a_x19=>(refine' PySem.W.mg_of KX G ?g1;(case g1=>k_is)));(case F_x19=>(refine' L2.qF ?g1 ?g2 ?g3;(case g1=>k_is);(case g2=>k_is);(case g3=>k_is)));(case a_x20=>(refine' PySem.W.mg_of KX G ?g1;(case g1=>k_is)));(case F_x20=>(refine' L2.qF ?g1 ?g2 ?g3;(case g1=>k_is);(case g2=>k_is);(case g3=>k_is)));(case a_x21=>(refine' PySem.W.mg_of KX G ?g1;(case g1=>k_is)));(case F_x21=>(refine' L2.qF ?g1 ?g2 ?g3;(case g1=>k_is);(case g2=>k_is);(case g3=>k_is)));(case a_x22=>(refine' PySem.W.mg_of KX G ?g1;(case g1=>k_is)));(case F_x22=>(refine' L2.qF ?g1 ?g2 ?g3;(case g1=>k_is);(case g2=>k_is);(case g3=>k_is)));(case a_x23=>(refine' PySem.W.mg_of KX G ?g1;(case g1=>k_is)));(case F_x23=>(refine' L2.qF ?g1 ?g2 ?g3;(case g1=>k_is);(case g2=>k_is);(case g3=>k_is)));(case a_x24=>(refine' PySem.W.mg_of KX G ?g1;(case g1=>k_is)));(case F_x24=>(refine' L2.qF ?g1 ?g2 ?g3;(case g1=>k_is);(case g2=>k_is);(case g3=>k_is)));(case a_x25=>(refine' PySem.W.mg_of KX G ?g1;(case g1=>k_is)));(case F_x25=>(refine' L2.qF ?g1 ?g2 ?g3;(case g1=>k_is);(case g2=>k_is);(case g3=>k_is)));(case a_x26=>(refine' PySem.W.mg_of KX G ?g1;(case g1=>k_is)));(case F_x26=>(refine' L2.qF ?g1 ?g2 ?g3;(case g1=>k_is);(case g2=>k_is);(case g3=>k_is)));(case a_x27=>(refine' PySem.W.mg_of KX G ?g1;(case g1=>k_is)));(case F_x27=>(refine' L2.qF ?g1 ?g2 ?g3;(case g1=>k_is);(case g2=>k_is);(case g3=>k_is)));(case a_x28=>(refine' PySem.W.mg_of KX G ?g1;(case g1=>k_is)));(case F_x28=>(refine' L2.qF ?g1 ?g2 ?g3;(case g1=>k_is);(case g2=>k_is);(case g3=>k_is)));(case a_x29=>(refine' PySem.W.mg_of KX G ?g1;(case g1=>k_is)));(case F_x29=>(refine' L2.qF ?g1 ?g2 ?g3;(case g1=>k_is);(case g2=>k_is);(case g3=>k_is)));(case a_x30=>(refine' PySem.W.mg_of KX G ?g1;(case g1=>k_is)));(case F_x30=>(refine' L2.qF ?g1 ?g2 ?g3;(case g1=>k_is);(case g2=>k_is);(case g3=>k_is)));(case a_x33=>(refine' PySem.W.mg_of KX G ?g1;(case g1=>k_is)));(case F_x33=>(refine' L2.qF ?g1 ?g2 ?g3;(case g1=>k_is);(case g2=>k_is);(case g3=>k_is)));(case a_x34=>(refine' PySem.W.mg_of KX G ?g1;(case g1=>k_is)));(case F_x34=>(refine' L2.qF ?g1 ?g2 ?g3;(case g1=>k_is);(case g2=>k_is);(case g3=>k_is)));(case a_x35=>(refine' PySem.W.mg_of KX G ?g1;(case g1=>k_is)));(case F_x35=>(refine' L2.qF ?g1 ?g2 ?g3;(case g1=>k_is);(case g2=>k_is);(case g3=>k_is)));(case a_x36=>(refine' PySem.W.mg_of KX G ?g1;(case g1=>k_is)));(case F_x36=>(refine' L2.qF ?g1 ?g2 ?g3;(case g1=>k_is);(case g2=>k_is);(case g3=>k_is)));(case a_x37=>(refine' PySem.W.mg_of KX G ?g1;(case g1=>k_is)));(case F_x37=>(refine' L2.qF ?g1 ?g2 ?g3;(case g1=>k_is);(case g2=>k_is);(case g3=>k_is)));(case a_x38=>(refine' PySem.W.mg_of KX G ?g1;(case g1=>k_is)));(case F_x38=>(refine' L2.qF ?g1 ?g2 ?g3;(case g1=>k_is);(case g2=>k_is);(case g3=>k_is)));(case a_x39=>(refine' PySem.W.mg_of KX G ?g1;(case g1=>k_is)));(case F_x39=>(refine' L2.qF ?g1 ?g2 ?g3;(case g1=>k_is);(case g2=>k_is);(case g3=>k_is)));(case a_x40=>(refine' PySem.W.mg_of KX G ?g1;(case g1=>k_is)));(case F_x40=>(refine' L2.qF ?g1 ?g2 ?g3;(case g1=>k_is);(case g2=>k_is);(case g3=>k_is)));(case a_x41=>(refine' PySem.W.mg_of KX G ?g1;(case g1=>k_is)));(case F_x41=>(refine' L2.qF ?g1 ?g2 ?g3;(case g1=>k_is);(case g2=>k_is);(case g3=>k_is)));(case a_x42=>(refine' PySem.W.mg_of KX G ?g1;(case g1=>k_is)));(case F_x42=>(refine' L2.qF ?g1 ?g2 ?g3;(case g1=>k_is);(case g2=>k_is);(case g3=>k_is)));(case a_x43=>(refine' PySem.W.mg_of KX G ?g1;(case g1=>k_is)));(case F_x43=>(refine' L2.qF ?g1 ?g2 ?g3;(case g1=>k_is);(case g2=>k_is);(case g3=>k_is)));(case a_x44=>(refine' PySem.W.mg_of KX G ?g1;(case g1=>k_is)));(case F_x44=>(refine' L2.qF ?g1 ?g2 ?g3;(case g1=>k_is);(case g2=>k_is);(case g3=>k_is)));(case a_x45=>(refine' PySem.W.mg_of KX G ?g1;(case g1=>k_is)));(case F_x45=>(refine' L2.qF ?g1 ?g2 ?g3;(case g1=>k_is);(case g2=>k_is);(case g3=>k_is)));(case a_x46=>(refine' PySem.W.mg_of KX G ?g1;(case g1=>k_is)));(case F_x46=>(refine' L2.qF ?g1 ?g2 ?g3;(case g1=>k_is);(case g2=>k_is);(case g3=>k_is)));(case a_x47=>(refine' PySem.W.mg_of KX G ?g1;(case g1=>k_is)));(case F_x47=>(refine' L2.qF ?g1 ?g2 ?g3;(case g1=>k_is);(case g2=>k_is);(case g3=>k_is)));(case a_x48=>(refine' PySem.W.mg_of KX G ?g1;(case g1=>k_is)));(case l_x48=>k_is);(case c_x48=>k_is);(case k_x48=>k_is);(case a_x49=>k_is);(case l_x49=>k_is);(case c_x49=>k_is);(case k_x49=>k_is);(case s_FAR_POWER=>(refine' PySem.W.mg_of KX G ?g1;(case g1=>k_is)));(case s_FRACTION_BITS=>(refine' PySem.W.mg_of KX G ?g1;(case g1=>k_is)));(case s_GREATEST_SIZE=>(refine' PySem.W.mg_of KX G ?g1;(case g1=>k_is)));(case s_GREATEST_TIMES=>(refine' PySem.W.mg_of KX G ?g1;(case g1=>k_is)));(case s_INFINITE=>(refine' PySem.W.mg_of KX G ?g1;(case g1=>k_is)));(case s_LEAST_POWER=>(refine' PySem.W.mg_of KX G ?g1;(case g1=>k_is)));(case s_ONE=>(refine' PySem.W.mg_of KX G ?g1;(case g1=>k_is)));(case s_SIGN_BIT=>(refine' PySem.W.mg_of KX G ?g1;(case g1=>k_is)));(case s_WIDER=>(refine' PySem.W.mg_of KX G ?g1;(case g1=>k_is)));(case q_WrongCount=>(refine' PySem.W.mg_of KX G ?g1;(case g1=>k_is)));(case x_WrongCount=>(refine' Dt.xH ?g1 ?g2 ?g3;(case g1=>k_is);(case g2=>(refine' Dt.VL ?l ?h;(case l=>k_is);(case h=>exact rfl)));(case g3=>k_is)));(case q_NotFinite=>(refine' PySem.W.mg_of KX G ?g1;(case g1=>k_is)));(case x_NotFinite=>(refine' Dt.xH ?g1 ?g2 ?g3;(case g1=>k_is);(case g2=>(refine' Dt.VL ?l ?h;(case l=>k_is);(case h=>exact rfl)));(case g3=>k_is)));(case q_StepNotFinite=>(refine' PySem.W.mg_of KX G ?g1;(case g1=>k_is)));(case x_StepNotFinite=>(refine' Dt.xH ?g1 ?g2 ?g3;(case g1=>k_is);(case g2=>(refine' Dt.VL ?l ?h;(case l=>k_is);(case h=>exact rfl)));(case g3=>k_is)));(case q_NotAsTold=>(refine' PySem.W.mg_of KX G ?g1;(case g1=>k_is)));(case x_NotAsTold=>(refine' Dt.xH ?g1 ?g2 ?g3;(case g1=>k_is);(case g2=>(refine' Dt.VL ?l ?h;(case l=>k_is);(case h=>exact rfl)));(case g3=>k_is)));(case z_abs=>(refine' PySem.W.mg_none_of KX G ?g1;(case g1=>k_is)));(case z_len=>(refine' PySem.W.mg_none_of KX G ?g1;(case g1=>k_is)));(case z_list=>(refine' PySem.W.mg_none_of KX G ?g1;(case g1=>k_is)));(case z_max=>(refine' PySem.W.mg_none_of KX G ?g1;(case g1=>k_is)));(case z_min=>(refine' PySem.W.mg_none_of KX G ?g1;(case g1=>k_is)));(case z_range=>(refine' PySem.W.mg_none_of KX G ?g1;(case g1=>k_is)));(case z_zip=>(refine' PySem.W.mg_none_of KX G ?g1;(case g1=>k_is)))
  (case e2=>decide +kernel);(case e3=>decide +kernel);(case e4=>decide +kernel);(case e5=>decide +kernel);(case e6=>decide +kernel);(case e7=>decide +kernel)
  (case y1_Turn=>first | k_is | exact rfl | decide +kernel);(case y2_Turn=>first | k_is | exact rfl | decide +kernel);(case y3_Turn=>first | k_is | exact rfl | decide +kernel);(case y4_Turn=>first | k_is | exact rfl | decide +kernel);(case y5_Turn=>first | k_is | exact rfl | decide +kernel);(case y6_Turn=>first | k_is | exact rfl | decide +kernel);(case y7_Turn=>first | k_is | exact rfl | decide +kernel);(case y_Turn_p=>first | k_is | exact rfl | decide +kernel);(case y_Turn_q=>first | k_is | exact rfl | decide +kernel);(case y_Turn_t=>first | k_is | exact rfl | decide +kernel);(case y_Turn_c=>first | k_is | exact rfl | decide +kernel);(case y_Turn_s=>first | k_is | exact rfl | decide +kernel);(case y1_Turned=>first | k_is | exact rfl | decide +kernel);(case y2_Turned=>first | k_is | exact rfl | decide +kernel);(case y3_Turned=>first | k_is | exact rfl | decide +kernel);(case y4_Turned=>first | k_is | exact rfl | decide +kernel);(case y5_Turned=>first | k_is | exact rfl | decide +kernel);(case y6_Turned=>first | k_is | exact rfl | decide +kernel);(case y7_Turned=>first | k_is | exact rfl | decide +kernel);(case y_Turned_x=>first | k_is | exact rfl | decide +kernel);(case y_Turned_v=>first | k_is | exact rfl | decide +kernel)
  (case htab=>exact rfl)
 case S =>
  intro K mg PT H xs a hP hwi hask hx
  have e:L2.Ir.Ut (Codec.encAll PySem.Challenge.rw_doubletables_s24_jacobi.args a)=[.int a.1,.int a.2.1,.lst (a.2.2.1.map L2.Ir.D.int)]:=by
   show [L2.Ir.D.int a.1,L2.Ir.D.int a.2.1,L2.Ir.D.lst (L2.Ir.Ut (a.2.2.1.map WData.int))]=_
   rw[L2.Ir.Yo a.2.2.1]
  have pl:L2.Ir.Xa (Codec.encAll PySem.Challenge.rw_doubletables_s24_jacobi.args a)=true:=by
   show (true&&(true&&(L2.Ir.Xa (a.2.2.1.map WData.int)&&true)))=true
   rw[L2.Ir.Yh a.2.2.1];rfl
  have q:(Codec.inInt 0 18446744073709551615 a.1&&(Codec.inInt 0 18446744073709551615 a.2.1&&((Codec.inLen 0 300 a.2.2.1&&a.2.2.1.all (Codec.inInt 0 18446744073709551615))&&true)))=true:=hwi
  simp only[Bool.and_eq_true] at q
  obtain⟨h1,h2⟩:=Gr.JD (Dt.qao q.1) (Dt.qao q.2.1) (Dt.qeJ q.2.2.1.2) (Codec.inNat_iff.mp q.2.2.1.1).2
  refine⟨_,_,rfl,hP,by rw[<- e];exact L2.Ir.WG _ _ pl hx,h1,h2,fun H2 p hp=>?_⟩
  rw[Dt.Zc] at hp
  exact .lst (L2.SqL.of hp) (L2.qbs _)
