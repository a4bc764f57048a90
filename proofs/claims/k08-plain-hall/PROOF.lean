import PyProof.Rows.All
import Wide.All
import OpenK.AllK
import Wide.FinOn
import Lean
import PyProof.EqAt
import PyProof.EqKinds
import PyProof.TupleCall
import PyProof.Rows.SetFrom
import PySem.Challenge.RW_scriberow_k08_plain_hall
set_option Elab.async false
set_option linter.all false
set_option maxRecDepth 100000
set_option maxHeartbeats 8000000
noncomputable section
open PySem.W (Frag)
namespace L2
open PySem PySem.Spec PyProof.Rows
abbrev bh:=Sum Int Str
noncomputable def iw:bh->Value->Bool
 | .inl k,v=>Value.isInt k v
 | .inr x,v=>Value.isStrOf x v
noncomputable def Bj (w:World):bh->Int
 | .inl k=>hashInt k
 | .inr x=>hashStr w x
theorem bE:∀ {k:bh}{v:Value},iw k v=true->(∃ i t,k=Sum.inl i/\v=Value.int i t)\/(∃ x t,k=Sum.inr x/\v=Value.str x t)
 | .inl i,v,h=>by
  obtain ⟨t,e⟩:=Value.isInt_shape (k:=i) (v:=v) h;exact .inl ⟨i,t,rfl,e⟩
 | .inr x,v,h=>by
  obtain ⟨t,e⟩:=Value.isStrOf_shape (x:=x) (v:=v) h;exact .inr ⟨x,t,rfl,e⟩
theorem uq (i:Int) (t:Tok):iw (.inl i) (.int i t)=true:=by simp [iw,Value.isInt]
theorem uo (x:Str) (t:Tok):iw (.inr x) (.str x t)=true:=by simp [iw,Value.isStrOf]
theorem y9 (a b:Int):decide ((Sum.inl a:bh)=Sum.inl b)=(a==b):=by
 by_cases e:a=b
 ·subst e; simp
 ·have h:¬ (Sum.inl a:bh)=Sum.inl b:=fun q=>e (Sum.inl.inj q)
  rw [decide_eq_false h];exact (beq_eq_false_iff_ne.mpr e).symm
theorem y0 (a b:Str):decide ((Sum.inr a:bh)=Sum.inr b)=decide (a=b):=by
 by_cases e:a=b
 ·subst e; simp
 ·have h:¬ (Sum.inr a:bh)=Sum.inr b:=fun q=>e (Sum.inr.inj q)
  rw [decide_eq_false h,decide_eq_false e]
theorem y8 (a:Int) (b:Str):decide ((Sum.inl a:bh)=Sum.inr b)=false:=decide_eq_false (fun q=>nomatch q)
theorem y6 (a:Str) (b:Int):decide ((Sum.inr a:bh)=Sum.inl b)=false:=decide_eq_false (fun q=>nomatch q)
noncomputable def aY (prog:Program) (w:World):PySem.KeyKind prog w bh where
 is:=iw
 hash:=Bj w
 inj:=fun v a b ha hb=>by
  rcases bE ha with ⟨i,t,rfl,rfl⟩ | ⟨x,t,rfl,rfl⟩
  ·rcases bE hb with ⟨j,u,rfl,e⟩ | ⟨y,u,rfl,e⟩
   ·injection e with e1 _; rw [e1]
   ·exact nomatch e
  ·rcases bE hb with ⟨j,u,rfl,e⟩ | ⟨y,u,rfl,e⟩
   ·exact nomatch e
   ·injection e with e1 _; rw [e1]
 byValue:=fun k v h=>by
  rcases bE h with ⟨i,t,rfl,rfl⟩ | ⟨x,t,rfl,rfl⟩<;>rfl
 pyHash:=fun hv h=>by
  rcases bE hv with ⟨i,t,rfl,rfl⟩ | ⟨x,t,rfl,rfl⟩
  ·exact wpAny_pyHash_int h
  ·exact wpAny_pyHash_str h
 eqBool:=fun hu hv h=>by
  rcases bE hu with ⟨i,t,rfl,rfl⟩ | ⟨x,t,rfl,rfl⟩
  ·rcases bE hv with ⟨j,u,rfl,rfl⟩ | ⟨y,u,rfl,rfl⟩
   ·rw [y9] at h; exact wpAny_eqBool_int h
   ·rw [y8] at h; exact SeqAt.EqAt.int_str i t y u _ _ _ _ h
  ·rcases bE hv with ⟨j,u,rfl,rfl⟩ | ⟨y,u,rfl,rfl⟩
   ·rw [y6] at h; exact SeqAt.EqAt.str_int x t j u _ _ _ _ h
   ·rw [y0] at h; exact wpAny_eqBool_str h
 «strs»:=fun k x t v h=>by
  rcases bE h with ⟨i,u,rfl,e⟩ | ⟨y,u,rfl,e⟩
  ·exact nomatch e
  ·injection e with e1 _
   subst e1;cases v<;>rfl
theorem qj (prog:Program) (w:World) (i:Int) (t:Tok):(aY prog w).is (.inl i) (.int i t)=true:=uq i t
theorem qi (prog:Program) (w:World) (x:Str) (t:Tok):(aY prog w).is (.inr x) (.str x t)=true:=uo x t
inductive V where
 | non | bl (b:Bool) | int (i:Int) | str (x:Str) | byt (b:Array UInt8) | flt (b:UInt64) | ref (a:Addr) | ty (n:String)
 deriving DecidableEq
noncomputable def RelV:V->Value->Prop
 | .non,u=>u=Value.none
 | .bl b,u=>u=Value.bool b
 | .int i,u=>∃ t,u=Value.int i t
 | .str x,u=>∃ t,u=Value.str x t
 | .byt b,u=>∃ t,u=Value.bytes b t
 | .flt b,u=>∃ t,u=Value.float b t
 | .ref a,u=>u=Value.ref a
 | .ty n,u=>u=Value.type n
abbrev aU:List V->List Value->Prop:=Paired RelV
theorem aU.length {xs:List V}{us:List Value} (r:aU xs us):xs.length=us.length:=Paired.length r
theorem aU.get:∀ {xs:List V}{us:List Value}{i:Nat}{x:V},aU xs us->xs[i]? = some x->∃ u,us[i]? = some u/\RelV x u
 | _,_,_,_,.nil,e=>by simp at e
 | _,_,0,_,.cons r _,e=>by simp at e; subst e; exact ⟨_,rfl,r⟩
 | _,_,i+1,x,.cons _ t,e=>by
  obtain ⟨u,h1,h2⟩:=aU.get (i:=i) (x:=x) t (by simpa using e);exact ⟨u,by simpa using h1,h2⟩
theorem aU.set {x:V}{u:Value} (r:RelV x u):∀ {xs:List V}{us:List Value} (i:Nat),aU xs us->aU (xs.set i x) (us.set i u)
 | _,_,_,.nil=>.nil
 | _,_,0,.cons _ t=>.cons r t
 | _,_,i+1,.cons q t=>.cons q (aU.set r i t)
theorem aU.append:∀ {xs ys:List V}{us ws:List Value},aU xs us->aU ys ws->aU (xs++ys) (us++ws)
 | _,_,_,_,.nil,s=>s
 | _,_,_,_,.cons r t,s=>.cons r (aU.append t s)
theorem aU.take:∀ {xs:List V}{us:List Value} (n:Nat),aU xs us->aU (xs.take n) (us.take n)
 | _,_,0,_=>.nil
 | _,_,_+1,.nil=>.nil
 | _,_,n+1,.cons r t=>.cons r (aU.take n t)
theorem aU.drop:∀ {xs:List V}{us:List Value} (n:Nat),aU xs us->aU (xs.drop n) (us.drop n)
 | _,_,0,r=>r
 | _,_,_+1,.nil=>.nil
 | _,_,n+1,.cons _ t=>aU.drop n t
noncomputable def fz:Option V->Option Value->Prop
 | some v,some u=>RelV v u
 | none,none=>True
 | _,_=>False
noncomputable def KV {κ:Type}:List (κ×V)->List (κ×Value)->Prop:=Paired fun (p:κ×V) (q:κ×Value)=>p.1=q.1/\RelV p.2 q.2
noncomputable def kV:bh->V
 | .inl i=>.int i
 | .inr x=>.str x
inductive HO where
 /-- a list -/
 | lst (xs:List V)
 /-- a tuple (never changes) -/
 | tup (xs:List V)
 /-- a dict whose keys are ints and texts; one whose keys are tuples of ints and texts (the empty one is both) -/
 | dK (kvs:List (bh×V)) | dT (kvs:List (List bh×V))
 /-- a set of ints: its members,its size -/
 | set (S:Int->Bool) (n:Nat)
 /-- an instance of the class at C,its dict at dx,its attributes -/
 | ins (C dx:Addr) (fs:List (Str×V))
 /-- the dict of the instance at x -/
 | own (x:Addr)
 /-- the dict of an exception -/
 | xd (fs:List (Str×V))
 /-- a bound method,f of x -/
 | met (f x:Addr)
 /-- a range object lo,lo+1,.. below hi -/
 | rng (lo hi:Int)
 /-- a thing that is known to the object (the script; a dict while a loop walks it): read,never written while it is so -/
 | frz (o:Obj) (u:HO)
 /-- a code object's table -/
 | tbl (ps:Array Value)
 /-- any other thing,by what is true of its one object (a def of one's own: SetO a S n:=HO.ext fun h=>..) -/
 | ext (φ:Heap->Prop)
abbrev Hp:=Addr->Option HO
noncomputable def aA (H:Hp) (a:Addr) (o:HO):Hp:=fun b=>if b=a then some o else H b
theorem upd_same {H:Hp}{a:Addr}{o:HO}:aA H a o a=some o:=by unfold aA; rw [if_pos rfl]
theorem ag {H:Hp}{a b:Addr}{o:HO} (h:b≠a):aA H a o b=H b:=by unfold aA; rw [if_neg h]
theorem gL {H:Hp}{a b:Addr}{o u:HO} (h:H a=some o) (h':H b=some u) (d:o≠u):a≠b:=by
 intro e; subst e; rw [h] at h'; exact d (Option.some.inj h')
theorem ai {H:Hp}{a b:Addr}{o:HO} (h:H a=some o) (h':H b=none):a≠b:=by
 intro e; subst e; rw [h] at h'; cases h'
section
variable (P:Program) (w:World)
noncomputable def bq (H:Hp) (h:Heap) (a:Addr):HO->Prop
 | .lst xs=>xs.length<=sizeLine/\∃ (its:List Value) (n:Nat),aU xs its/\h.get? a=some { cls:=.type "list",data:=.seq its.toArray n }
 | .tup xs=>xs.length<=sizeLine/\∃ its:List Value,aU xs its/\IsTup h a its.toArray
 | .dK kvs=>kvs.length<=sizeLine/\(a==sysModules)=false/\∃ vs,KV kvs vs/\h.DictOf (aY P w) a vs
 | .dT kvs=>kvs.length<=sizeLine/\(a==sysModules)=false/\∃ xs:List (List bh×Addr×Value),
   Paired (fun (p:List bh×V) (q:List bh×Addr×Value)=>p.1=q.1/\H q.2.1=some (.tup (p.1.map kV))/\RelV p.2 q.2.2) kvs xs /\
   ∃ o es ep,h.get? a=some o/\o.ExactDict/\o.data=.dict es ep/\es.toList=xs.map (entryOfKey (tupleKind (aY P w)))/\(xs.map (·.1)).Nodup
 | .set S n=>h.SetOf (intKind P w) a S n
 | .ins C dx fs=>H dx=some (.own a)/\fs.length<=1000/\dx≠a/\h.get? a=some (PySem.W.instObj C dx) /\
   ∃ mA,h.Ns1 dx mA/\(∀ f,fz (fs.lookup f) (mA f))/\PySem.Within mA (fs.map (·.1))
 | .own _=>∃ o,h.get? a=some o
 | .xd fs=>∃ mA,h.Ns1 a mA/\∀ f,fz (fs.lookup f) (mA f)
 | .rng lo hi=>∃ t u v,h.get? a=some { cls:=.type "range",data:=.fields #[.int lo t,.int hi u,.int 1 v] }
 | .frz o u=>h.get? a=some o/\bq H h a u
 | .tbl ps=>h.get? a=some { cls:=.none,data:=.fields ps }
 | .met f x=>h.get? a=some (PySem.W.methodObj (.ref f) (.ref x))
 | .ext φ=>φ h/\(∃ o,h.get? a=some o)/\∀ h1 h2:Heap,φ h1->(∀ o,h1.get? a=some o->h2.get? a=some o)->φ h2
noncomputable def ge (H:Hp) (h:Heap):Prop:=∀ a o,H a=some o->bq P w H h a o
end
section
variable {P:Program}{w:World}{H H':Hp}{h h':Heap}{a:Addr}{o:HO}
theorem bq.lt (x:bq P w H h a o):a < h.objs.size:=by
 cases o with
 | lst xs=>obtain ⟨_,_,_,_,e⟩:=x; exact Heap.lt_size e
 | tup xs=>obtain ⟨_,_,_,p⟩:=x; exact p.lt
 | dK kvs=>obtain ⟨_,_,_,_,o,_,_,e,_⟩:=x; exact Heap.lt_size e
 | dT kvs=>obtain ⟨_,_,_,_,o,_,_,e,_⟩:=x; exact Heap.lt_size e
 | set S n=>obtain ⟨o,_,_,_,e,_⟩:=x; exact Heap.lt_size e
 | ins C dx fs=>obtain ⟨_,_,_,e,_⟩:=x; exact Heap.lt_size e
 | own y=>obtain ⟨_,e⟩:=x; exact Heap.lt_size e
 | xd fs=>obtain ⟨_,⟨_,_,_,e,_⟩,_⟩:=x; exact Heap.lt_size e
 | rng lo hi=>obtain ⟨_,_,_,e⟩:=x; exact Heap.lt_size e
 | frz ob u=>obtain ⟨e,_⟩:=x; exact Heap.lt_size e
 | tbl ps=>exact Heap.lt_size (show h.get? a=some _ from x)
 | met f y=>exact Heap.lt_size (show h.get? a=some _ from x)
 | ext φ=>obtain ⟨_,⟨_,e⟩,_⟩:=x; exact Heap.lt_size e
theorem Paired.mapP {α β:Type}{F G:α->β->Prop}:∀ {l₁:List α}{l₂:List β},Paired F l₁ l₂->(∀ a b,F a b->G a b)->Paired G l₁ l₂
 | _,_,.nil,_=>.nil
 | _,_,.cons r t,f=>.cons (f _ _ r) (Paired.mapP t f)
theorem bq.stay (x:bq P w H h a o) (k:∀ b u,(b=a\/H b=some (.own a))->h.get? b=some u->h'.get? b=some u)
  (ho:∀ b,H b=some (.own a)->H' b=some (.own a)) (ht:∀ b xs,H b=some (.tup xs)->H' b=some (.tup xs)):bq P w H' h' a o:=by
 induction o with
 | lst xs=>obtain ⟨z,its,n,r,e⟩:=x; exact ⟨z,its,n,r,k _ _ (.inl rfl) e⟩
 | tup xs=>obtain ⟨z,its,r,ob,e,c⟩:=x; exact ⟨z,its,r,ob,k _ _ (.inl rfl) e,c⟩
 | dK kvs=>obtain ⟨z,y,vs,r,ob,es,ep,e,c⟩:=x; exact ⟨z,y,vs,r,ob,es,ep,k _ _ (.inl rfl) e,c⟩
 | dT kvs =>
  obtain ⟨z,y,xs,r,ob,es,ep,e,c⟩:=x;exact ⟨z,y,xs,Paired.mapP r fun p q z=>⟨z.1,ht _ _ z.2.1,z.2.2⟩,ob,es,ep,k _ _ (.inl rfl) e,c⟩
 | set S n=>obtain ⟨ob,es,ep,t,e,c⟩:=x; exact ⟨ob,es,ep,t,k _ _ (.inl rfl) e,c⟩
 | ins C dx fs =>
  obtain ⟨d,z,ne,e,mA,⟨od,es,ep,e2,c⟩,r⟩:=x;exact ⟨ho _ d,z,ne,k _ _ (.inl rfl) e,mA,⟨od,es,ep,k _ _ (.inr d) e2,c⟩,r⟩
 | own y=>obtain ⟨ob,e⟩:=x; exact ⟨ob,k _ _ (.inl rfl) e⟩
 | xd fs=>obtain ⟨mA,⟨od,es,ep,e,c⟩,r⟩:=x; exact ⟨mA,⟨od,es,ep,k _ _ (.inl rfl) e,c⟩,r⟩
 | rng lo hi=>obtain ⟨t,u,v,e⟩:=x; exact ⟨t,u,v,k _ _ (.inl rfl) e⟩
 | frz ob u ih=>obtain ⟨e,q⟩:=x; exact ⟨k _ _ (.inl rfl) e,ih q⟩
 | tbl ps =>
  have e:h.get? a=some { cls:=.none,data:=.fields ps }:=x;show h'.get? a=some { cls:=.none,data:=.fields ps };exact k a _ (.inl rfl) e
 | met f y =>
  have e:h.get? a=some (PySem.W.methodObj (.ref f) (.ref y)):=x;show h'.get? a=some (PySem.W.methodObj (.ref f) (.ref y));exact k a _ (.inl rfl) e
 | ext φ=>obtain ⟨p,⟨o,e⟩,st⟩:=x; exact ⟨st _ _ p fun o q=>k _ _ (.inl rfl) q,⟨o,k _ _ (.inl rfl) e⟩,st⟩
theorem ge.lt (x:ge P w H h) (e:H a=some o):a < h.objs.size:=(x a o e).lt
theorem ge.fresh (x:ge P w H h) (e:h.objs.size<=a):H a=none:=by
 cases q:H a with
 | none=>rfl
 | some u=>exact absurd (Nat.lt_of_lt_of_le (x.lt q) e) (Nat.lt_irrefl _)
theorem ge.kept (x:ge P w H h) (k:∀ b u,h.get? b=some u->h'.get? b=some u):ge P w H h':=fun a o e =>
 (x a o e).stay (fun b u _ q=>k b u q) (fun _ q=>q) fun _ _ q=>q
theorem ge.laid (x:ge P w H h) (k:∀ b u,h.get? b=some u->h'.get? b=some u) (hp:h.objs.size<=a) (new:bq P w (aA H a o) h' a o):ge P w (aA H a o) h':=fun b u e=>by
 have hn:=x.fresh hp
 by_cases hb:b=a
 ·subst hb; rw [upd_same] at e; cases e; exact new
 ·rw [ag hb] at e
  exact (x b u e).stay (fun c v _ q=>k c v q) (fun c q=>by rw [ag (ai q hn)]; exact q) fun c xs q=>by rw [ag (ai q hn)]; exact q
end
noncomputable def Rd (H:Hp) (a:Addr) (u:HO):Prop:=H a=some u\/∃ o,H a=some (.frz o u)
theorem Rd.ok {P:Program}{w:World}{H:Hp}{h:Heap}{a:Addr}{u:HO} (r:Rd H a u) (x:ge P w H h):bq P w H h a u:=by
 rcases r with r | ⟨o,r⟩
 ·exact x a u r
 ·obtain ⟨_,q⟩:=x a _ r
  exact q
noncomputable def zA:Option HO->Prop
 | some (.lst _)=>True
 | some (.dK _)=>True
 | some (.dT _)=>True
 | some (.set _ _)=>True
 | some (.ins _ _ _)=>True
 | some (.ext _)=>True
 | _=>False
section
variable {P:Program}{w:World}{H:Hp}{h h':Heap}{x e:Addr}{o':HO}
theorem ge.write (ok:ge P w H h) (mu:zA (H x)) (he:e=x\/H e=some (.own x)) (k:∀ b u,b≠e->h.get? b=some u->h'.get? b=some u) (heo:∃ u,h'.get? e=some u)
  (new:bq P w (aA H x o') h' x o'):ge P w (aA H x o') h':=fun b u q=>by
 have nown:∀ c y,H c=some (.own y)->c≠x:=fun c y r z=>by subst z; rw [r] at mu; exact mu
 have ntup:∀ c xs,H c=some (.tup xs)->c≠x:=fun c xs r z=>by subst z; rw [r] at mu; exact mu
 by_cases hb:b=x
 ·subst hb; rw [upd_same] at q; cases q; exact new
 ·rw [ag hb] at q
  by_cases hbe:b=e
  ·have q':H b=some (.own x):=by
    rcases he with z | z
    ·exact absurd (hbe.trans z) hb
    ·rw [hbe]; exact z
   rw [q] at q'; cases q';obtain ⟨v,hv⟩:=heo;exact ⟨v,by rw [hbe]; exact hv⟩
  ·refine (ok b u q).stay (fun c v hc r=>k c v ?_ r) (fun c r=>by rw [ag (nown c b r)]; exact r) fun c xs r=>by rw [ag (ntup c xs r)]; exact r
   rcases hc with rfl | hc
   ·exact hbe
   ·rintro rfl
    rcases he with z | z
    ·exact nown c b hc z
    ·rw [hc] at z; cases z; exact hb rfl
end
structure Un (fs ex:List Addr) (H H':Hp) (h h':Heap):Prop where
 keep:∀ b o,h.get? b=some o->H b=none->b∉fs->b∉ex->h'.get? b=some o
 slot:∀ b o,h.get? b=some o->H b=none->b∈fs->b∉ex->∃ sl,h'.get? b=some { o with slots:=sl }
 free:∀ b o,h.get? b=some o->H b=none->b∉ex->H' b=none
 there:∀ b o,h.get? b=some o->b∉ex->∃ o',h'.get? b=some o'
 tups:∀ b xs,H b=some (.tup xs)->H' b=some (.tup xs)
 frzs:∀ b o u,H b=some (.frz o u)->H' b=some (.frz o u)
 tbls:∀ b ps,H b=some (.tbl ps)->∃ more,H' b=some (.tbl (ps++more))
section
variable {fs fs' ex ex':List Addr}{H H1 H2:Hp}{h h1 h2 h':Heap}{a x e:Addr}{o:HO}
theorem Un.any (u:Un fs ex H H1 h h1) {b:Addr}{ob:Obj} (q:h.get? b=some ob) (n:H b=none) (hx:b∉ex):∃ sl,h1.get? b=some { ob with slots:=sl }:=by
 by_cases hb:b∈fs
 ·exact u.slot b ob q n hb hx
 ·exact ⟨ob.slots,u.keep b ob q n hb hx⟩
theorem Un.kept (k:∀ b u,h.get? b=some u->h'.get? b=some u):Un fs ex H H h h' :=
 ⟨fun b ob q _ _ _=>k b ob q,fun b ob q _ _ _=>⟨ob.slots,k b ob q⟩,fun _ _ _ n _=>n,fun b ob q _=>⟨ob,k b ob q⟩,fun _ _ q=>q,fun _ _ _ q=>q,fun _ ps q=>⟨#[],by rw [q]; simp⟩⟩
theorem Un.refl:Un fs ex H H h h:=Un.kept fun _ _ q=>q
theorem Un.laid (k:∀ b u,h.get? b=some u->h'.get? b=some u) (hp:h.objs.size<=a) (hn:H a=none):Un fs ex H (aA H a o) h h' where
 keep:=fun b u q _ _ _=>k b u q
 slot:=fun b u q _ _ _=>⟨u.slots,k b u q⟩
 free:=fun b u q n _=>by rw [ag (Nat.ne_of_lt (Nat.lt_of_lt_of_le (Heap.lt_size q) hp))]; exact n
 there:=fun b u q _=>⟨u,k b u q⟩
 tups:=fun b xs q=>by rw [ag (ai q hn)]; exact q
 frzs:=fun b u xs q=>by rw [ag (ai q hn)]; exact q
 tbls:=fun b ps q=>⟨#[],by rw [ag (ai q hn),q]; simp⟩
theorem Un.write (mu:zA (H x)) (he:e=x\/H e=some (.own x)) (k:∀ b u,b≠e->h.get? b=some u->h'.get? b=some u) (heo:∃ u,h'.get? e=some u):Un fs ex H (aA H x o) h h':=by
 have hx:∀ b,H b=none->b≠x:=fun b n z=>by subst z; rw [n] at mu; exact mu
 have hb:∀ b,H b=none->b≠e:=fun b n z=>by
  subst z;rcases he with r | r
  ·exact hx b n r
  ·rw [n] at r; cases r
 have hm:∀ b u,H b=some u->¬ zA (some u)->b≠x:=fun b u q nm z=>by subst z; rw [q] at mu; exact nm mu
 refine ⟨fun b u q n _ _=>k b u (hb b n) q,fun b u q n _ _=>⟨u.slots,k b u (hb b n) q⟩,fun b u q n _=>by rw [ag (hx b n)]; exact n,fun b u q _=>?_,
  fun b xs q=>by rw [ag (hm b _ q fun z=>z)]; exact q,fun b u xs q=>by rw [ag (hm b _ q fun z=>z)]; exact q,fun b ps q=>⟨#[],by rw [ag (hm b _ q fun z=>z),q]; simp⟩⟩
 by_cases hbe:b=e
 ·subst hbe; exact heo
 ·exact ⟨u,k b u hbe q⟩
end
noncomputable def AC (h:Heap) (H:Hp):List Addr:=(List.range h.objs.size).filter fun a=>(H a).isSome
noncomputable def nE (h:Heap) (H:Hp):Heap:=PySem.W.hideAll h (AC h H)
theorem ut (h:Heap) (H:Hp):(nE h H).objs.size=h.objs.size:=PySem.W.hideAll_size _ _
theorem we {h:Heap}{H:Hp}{b:Addr}{o:Obj} (e:h.get? b=some o) (n:H b=none):(nE h H).get? b=some o :=
 PySem.W.hideAll_get _ e fun hm=>by
  have q:(H b).isSome=true:=(List.mem_filter.mp hm).2;rw [n] at q; simp at q
theorem xk {h:Heap}{H:Hp}{b:Addr}{o:Obj} (e:(nE h H).get? b=some o):h.get? b=some o/\H b=none:=by
 have e':h.get? b=some o:=PySem.W.of_hideAll (AC h H) e;refine ⟨e',?_⟩;cases q:H b with
 | none=>rfl
 | some x =>
  have hm:b∈AC h H:=List.mem_filter.mpr ⟨List.mem_range.mpr (Heap.lt_size e'),by simp [q]⟩;have z:(nE h H).get? b=none:=PySem.W.hideAll_none (AC h H) hm;rw [z] at e; cases e
structure Mod (K:Frag) (mg:Str->Option Value) (base:Heap):Prop where
 kin:K.In base
 glob:base.Ns mainGlobals mg
 blt:∃ mb,base.Ns builtinsNs mb/\∀ x:Str,x ≠ "__name__" -> mb x=bootBuiltins x
 nolimit:base.NoLimit
/-- the context: a def's body (or a comprehension's block) running. base: fixed through the whole law; s₀,H₀: the entry; outer: the frames whose slots others may change (a def's callers); stack: all frames that run; ex: iterators that were made ahead of the entry and are walked here (a comprehension's); fn: the names whose cells were made at the entry (a def: all; a comprehension's block: its own); calm: not within an except suite; pn: pins that every state bears; xe: what is wanted of an exception that leaves the code -/
structure Cx where
 prog:Program
 w:World
 K:Frag
 mg:Str->Option Value
 base:Heap
 A:Around
 N:List Str
 s₀:Shared
 H₀:Hp
 env:Env
 outer:List Env
 stack:List Env
 ex:List Addr
 fn:Str->Bool
 calm:Bool
 pn:List (Addr×Obj)
 xe:Value->Shared->Prop
noncomputable def mF (l:List Env):List Addr:=l.filterMap (·.frame)
abbrev Cx.fs (X:Cx):List Addr:=mF X.outer
noncomputable def AH (sc:Scope) (x:Str):Prop:=sc.names.lookup x=some .local\/sc.names.lookup x=some .cell\/sc.names.lookup x=some .free
noncomputable def wL (sc:Scope) (x:Str):Prop:=sc.names.lookup x=some .local\/sc.names.lookup x=some .cell
noncomputable def Bt (env:Env) (h:Heap) (m:Str->Option Value) (x:Str) (u:Value):Prop :=
 (env.kindOf x=some .local/\m x=some u)\/((env.kindOf x=some .cell\/env.kindOf x=some .free)/\∃ c,env.cells.lookup x=some c/\h.IsCell c (some u))
structure Cx.Ok (X:Cx):Prop where
 mod:Mod X.K X.mg X.base
 kind:X.env.scope.kind=.function
 glob:X.env.globals=mainGlobals
 blt:X.env.builtins=builtinsNs
 above:X.s₀.heap.objs.size<=X.env.locals
 inj:∀ x y c,X.env.cells.lookup x=some c->X.env.cells.lookup y=some c->x=y
 has:∀ x,(X.env.kindOf x=some .cell\/X.env.kindOf x=some .free)->∃ c,X.env.cells.lookup x=some c
 cab:∀ x c,X.fn x=true->X.env.cells.lookup x=some c->X.s₀.heap.objs.size<=c
 hd:X.calm=true->X.A.handled=none
 frames:X.A.frames=some X.stack
 stk:X.stack=X.outer\/(X.stack=X.env :: X.outer/\X.env.frame=some X.env.locals)
 exf:∀ b∈X.ex,b≠X.env.locals/\∀ x c,X.env.cells.lookup x=some c->c≠b
 bs:∀ b o,X.base.get? b=some o->X.s₀.heap.get? b=some o/\X.H₀ b=none
 bsz:X.base.objs.size<=X.s₀.heap.objs.size
 noex:∀ b o,X.base.get? b=some o->b∉X.ex
 exfs:∀ b∈X.ex,b∉X.fs
 funs:X.s₀.heap.FunFrames X.base X.outer
 frf:∀ b∈X.fs,X.H₀ b=none
structure Inv (X:Cx) (pins:List (Addr×Obj)) (σ:List (Option V)) (H:Hp) (s:Shared):Prop where
 ok:X.Ok
 os:s.os=X.s₀.os
 bare:AllBare s.gens
 base:Un X.fs X.ex X.H₀ H X.s₀.heap s.heap
 loc:∃ m,s.heap.Ns X.env.locals m/\∀ (i:Nat) (x:Str) (v:V),X.N[i]? = some x->σ[i]? = some (some v)->AH X.env.scope x->∃ u,RelV v u/\Bt X.env s.heap m x u
 cell:∀ x c,X.env.cells.lookup x=some c->∃ v,s.heap.IsCell c v
 free:H X.env.locals=none
 freeC:∀ x c,X.env.cells.lookup x=some c->H c=none
 pin:∀ p∈X.pn++pins,s.heap.get? p.1=some p.2/\H p.1=none/\p.1≠X.env.locals/\p.1∉X.fs/\∀ v,p.2.data≠.cell v
 hok:ge X.prog X.w H s.heap
 len:σ.length=X.N.length
section
variable {X:Cx}{pins:List (Addr×Obj)}{σ:List (Option V)}{H H':Hp}{s:Shared}{h':Heap}
theorem Cx.Ok.nofr (ok:X.Ok) {b:Addr}{o:Obj} (e:X.base.get? b=some o):b∉X.fs:=fun hb=>by
 have:=(ok.funs.mem hb).1;rw [e] at this; cases this
theorem Inv.bs (I:Inv X pins σ H s):∀ b o,X.base.get? b=some o->s.heap.get? b=some o/\H b=none:=fun b o e =>
 ⟨I.base.keep b o (I.ok.bs b o e).1 (I.ok.bs b o e).2 (I.ok.nofr e) (I.ok.noex b o e),I.base.free b o (I.ok.bs b o e).1 (I.ok.bs b o e).2 (I.ok.noex b o e)⟩
theorem Inv.bk (I:Inv X pins σ H s):∀ b o,X.base.get? b=some o->s.heap.get? b=some o:=fun b o e=>(I.bs b o e).1
theorem Inv.mod (I:Inv X pins σ H s):Mod X.K X.mg X.base:=I.ok.mod
theorem Inv.kIn (I:Inv X pins σ H s):X.K.In s.heap:=I.ok.mod.kin.keeps I.bk
theorem Inv.lt (I:Inv X pins σ H s):X.env.locals < s.heap.objs.size:=let ⟨_,hn,_⟩:=I.loc; hn.lt
theorem Inv.sz (I:Inv X pins σ H s):X.s₀.heap.objs.size<=s.heap.objs.size:=Nat.le_trans I.ok.above (Nat.le_of_lt I.lt)
theorem Inv.nofs (I:Inv X pins σ H s) {a:Addr} (h:s.heap.objs.size<=a):a∉X.fs:=fun hb=>by
 obtain ⟨_,o,ho,_⟩:=I.ok.funs.mem hb;exact absurd (Nat.lt_of_lt_of_le (Heap.lt_size ho) (Nat.le_trans I.sz h)) (Nat.lt_irrefl _)
theorem Inv.cne (I:Inv X pins σ H s):∀ x c,X.env.cells.lookup x=some c->c≠X.env.locals:=fun x c e z=>by
 obtain ⟨v,o,ho,hd⟩:=I.cell x c e;obtain ⟨m,⟨o',es,ep,ho',hd',_⟩,_⟩:=I.loc;rw [z,ho'] at ho; cases ho; rw [hd'] at hd; cases hd
theorem Inv.funs (I:Inv X pins σ H s):s.heap.FunFrames X.base X.outer:=by
 have all:∀ (l:List Env),(∀ b∈mF l,b∈X.fs)->X.s₀.heap.FunFrames X.base l->s.heap.FunFrames X.base l:=by
  intro l
  induction l with
  | nil=>intro _ _; trivial
  | cons env r ih =>
   intro hs hl;obtain ⟨hk,⟨L,o,hf,hn,ho,hd⟩,hr⟩:=hl;have hL:L∈X.fs:=hs L (by unfold mF; rw [List.filterMap_cons,hf]; exact List.mem_cons_self);obtain ⟨sl,e⟩:=I.base.slot L o ho (I.ok.frf L hL) hL fun z=>I.ok.exfs L z hL;exact ⟨hk,⟨L,_,hf,hn,e,hd⟩,ih (fun b hb=>hs b (by unfold mF; rw [List.filterMap_cons,hf]; exact List.mem_cons_of_mem _ hb)) hr⟩
 exact all X.outer (fun _ hb=>hb) I.ok.funs
theorem Inv.stack (I:Inv X pins σ H s):s.heap.FunFrames X.base X.stack:=by
 rcases I.ok.stk with e | ⟨e,hf⟩
 ·rw [e]; exact I.funs
 ·rw [e]
  obtain ⟨m,hn,_⟩:=I.loc;refine .cons (by rw [I.ok.kind]; decide) hf hn ?_ I.funs;exact Heap.get?_none_of_le (Nat.le_trans I.ok.bsz I.ok.above)
theorem Inv.stkSub (I:Inv X pins σ H s):∀ b∈mF X.stack,b∈X.env.locals :: X.fs:=fun b hb=>by
 rcases I.ok.stk with e | ⟨e,hf⟩
 ·rw [e] at hb; exact List.mem_cons_of_mem _ hb
 ·rw [e] at hb
  unfold mF at hb;rw [List.filterMap_cons,hf] at hb;exact hb
theorem Inv.stkFree (I:Inv X pins σ H s):∀ b∈mF X.stack,H b=none:=fun b hb=>by
 rcases List.mem_cons.mp (I.stkSub b hb) with e | hb
 ·rw [e]; exact I.free
 ·obtain ⟨_,o,ho,_⟩:=I.ok.funs.mem hb
  exact I.base.free b o ho (I.ok.frf b hb) fun z=>I.ok.exfs b z hb
theorem Inv.step {g':Array GenState}{t':Nat}{d':Drawn}{ch:List Addr} (I:Inv X pins σ H s)
  (hch:∀ b∈ch,(b∈X.ex\/X.s₀.heap.objs.size<=b)/\b≠X.env.locals/\(∀ x c,X.env.cells.lookup x=some c->c≠b)/\∀ p∈X.pn++pins,p.1≠b)
  (keep:∀ b o,b≠X.env.locals->b∉X.fs->b∉ch->s.heap.get? b=some o->H b=none->h'.get? b=some o)
  (slot:∀ b o,b≠X.env.locals->b∈X.fs->b∉ch->s.heap.get? b=some o->H b=none->∃ sl,h'.get? b=some { o with slots:=sl }) (free:∀ b o,b∉ch->s.heap.get? b=some o->H b=none->H' b=none)
  (there:∀ b o,b∉ch->s.heap.get? b=some o->∃ o',h'.get? b=some o')
  (tups:∀ b xs,H b=some (.tup xs)->H' b=some (.tup xs)) (frzs:∀ b o u,H b=some (.frz o u)->H' b=some (.frz o u)) (tbls:∀ b ps,H b=some (.tbl ps)->∃ more,H' b=some (.tbl (ps++more)))
  (ns:∀ m,s.heap.Ns X.env.locals m->h'.Ns X.env.locals m) (hok:ge X.prog X.w H' h') (hg:AllBare g') :
  Inv X pins σ H' { s with heap:=h',gens:=g',drawn:=d',toks:=t' }:=by
 have neL:∀ b o,X.s₀.heap.get? b=some o->b≠X.env.locals:=fun b o e=>Nat.ne_of_lt (Nat.lt_of_lt_of_le (Heap.lt_size e) I.ok.above);have neC:∀ b o,X.s₀.heap.get? b=some o->b∉X.ex->b∉ch:=fun b o e hx hb=>by
  rcases (hch b hb).1 with z | z
  ·exact hx z
  ·exact absurd (Nat.lt_of_lt_of_le (Heap.lt_size e) z) (Nat.lt_irrefl _)
 have cellK:∀ x c,X.env.cells.lookup x=some c->∀ v,s.heap.IsCell c v->h'.IsCell c v:=fun x c e v ⟨o,ho,hd⟩=>by
  have nch:c∉ch:=fun z=>(hch c z).2.2.1 x c e rfl
  by_cases hc:c∈X.fs
  ·obtain ⟨sl,q⟩:=slot c o (I.cne x c e) hc nch ho (I.freeC x c e)
   exact ⟨_,q,hd⟩
  ·exact ⟨o,keep c o (I.cne x c e) hc nch ho (I.freeC x c e),hd⟩
 refine ⟨I.ok,I.os,hg,⟨fun b o e n hb hx=>?_,fun b o e n hb hx=>?_,fun b o e n hx=>?_,fun b o e hx=>?_,fun b xs e=>tups b xs (I.base.tups b xs e),fun b o xs e=>frzs b o xs (I.base.frzs b o xs e),fun b ps e=>?_⟩,?_,fun x c e=>?_,?_,fun x c e=>?_,fun p hp=>?_,hok,I.len⟩
 ·exact keep b o (neL b o e) hb (neC b o e hx) (I.base.keep b o e n hb hx) (I.base.free b o e n hx)
 ·obtain ⟨sl,e1⟩:=I.base.slot b o e n hb hx
  obtain ⟨sl',e2⟩:=slot b _ (neL b o e) hb (neC b o e hx) e1 (I.base.free b o e n hx);exact ⟨sl',e2⟩
 ·obtain ⟨o',e1⟩:=I.base.there b o e hx
  exact free b o' (neC b o e hx) e1 (I.base.free b o e n hx)
 ·obtain ⟨o',e1⟩:=I.base.there b o e hx
  exact there b o' (neC b o e hx) e1
 ·obtain ⟨m1,e1⟩:=I.base.tbls b ps e
  obtain ⟨m2,e2⟩:=tbls b _ e1;exact ⟨m1++m2,by rw [e2,Array.append_assoc]⟩
 ·obtain ⟨m,hn,hl⟩:=I.loc
  refine ⟨m,ns m hn,fun i x v e1 e2 e3=>?_⟩;obtain ⟨u,r,l⟩:=hl i x v e1 e2 e3;refine ⟨u,r,?_⟩;rcases l with l | ⟨k,c,e,z⟩
  ·exact .inl l
  ·exact .inr ⟨k,c,e,cellK x c e _ z⟩
 ·obtain ⟨v,z⟩:=I.cell x c e
  exact ⟨v,cellK x c e v z⟩
 ·obtain ⟨m,⟨o,_,_,ho,_⟩,_⟩:=I.loc
  exact free _ o (fun z=>(hch _ z).2.1 rfl) ho I.free
 ·obtain ⟨v,o,ho,hd⟩:=I.cell x c e
  exact free c o (fun z=>(hch c z).2.2.1 x c e rfl) ho (I.freeC x c e)
 ·obtain ⟨e,n,ne,nf,d⟩:=I.pin p hp
  have nch:p.1∉ch:=fun z=>(hch p.1 z).2.2.2 p hp rfl;exact ⟨keep p.1 p.2 ne nf nch e n,free p.1 p.2 nch e n,ne,nf,d⟩
theorem Inv.un {t':Nat} (I:Inv X pins σ H s) (u:Un X.fs [] H H' s.heap h') (hok:ge X.prog X.w H' h'):Inv X pins σ H' { s with heap:=h',toks:=t' }:=by
 obtain ⟨m,⟨o,es,ep,ho,r⟩,_⟩:=id I.loc;obtain ⟨sl,hL⟩:=u.any ho I.free (by simp);exact I.step (g':=s.gens) (d':=s.drawn) (ch:=[]) (fun _ z=>nomatch z) (fun b o _ hb _ e n=>u.keep b o e n hb (by simp)) (fun b o _ hb _ e n=>u.slot b o e n hb (by simp)) (fun b o _ e n=>u.free b o e n (by simp)) (fun b o _ e=>u.there b o e (by simp)) u.tups u.frzs u.tbls (fun m' hm=>by
  obtain ⟨o',es',ep',ho',r'⟩:=hm;rw [ho] at ho'; cases ho';exact ⟨_,es',ep',hL,r'⟩) hok I.bare
theorem Inv.call {g':Array GenState}{t':Nat}{d':Drawn}{ch:List Addr} (I:Inv X pins σ H s) (u:Un (mF X.stack) ch H H' s.heap h') (hok:ge X.prog X.w H' h') (hg:AllBare g')
  (hch:∀ b∈ch,(b∈X.ex\/X.s₀.heap.objs.size<=b)/\b≠X.env.locals/\(∀ x c,X.env.cells.lookup x=some c->c≠b)/\∀ p∈X.pn++pins,p.1≠b) :
  Inv X pins σ H' { s with heap:=h',gens:=g',drawn:=d',toks:=t' }:=by
 obtain ⟨m,⟨o,es,ep,ho,r⟩,_⟩:=id I.loc;obtain ⟨sl,hL⟩:=u.any ho I.free fun z=>(hch _ z).2.1 rfl;exact I.step (ch:=ch) hch (fun b o hL hb hc e n=>u.keep b o e n (fun z=>(List.mem_cons.mp (I.stkSub b z)).elim hL hb) hc) (fun b o _ _ hc e n=>u.any e n hc) (fun b o hc e n=>u.free b o e n hc) (fun b o hc e=>u.there b o e hc) u.tups u.frzs u.tbls (fun m' hm=>by
  obtain ⟨o',es',ep',ho',r'⟩:=hm;rw [ho] at ho'; cases ho';exact ⟨_,es',ep',hL,r'⟩) hok hg
theorem Inv.turned {t':Nat}{it:Addr} (I:Inv X pins σ H s) (k:∀ b o,b≠it->s.heap.get? b=some o->h'.get? b=some o) (hn:H it=none) (hL:it≠X.env.locals)
  (h1:it∈X.ex\/X.s₀.heap.objs.size<=it) (h2:∀ x c,X.env.cells.lookup x=some c->c≠it) (h3:∀ p∈X.pn++pins,p.1≠it):Inv X pins σ H { s with heap:=h',toks:=t' }:=by
 have nit:∀ b u,H b=some u->b≠it:=fun b u e z=>by rw [z,hn] at e; cases e
 refine I.step (g':=s.gens) (d':=s.drawn) (ch:=[it]) (fun b hb=>?_) (fun b o _ _ hc e _=>k b o (fun z=>hc (by simp [z])) e) (fun b o _ _ hc e _=>⟨o.slots,k b o (fun z=>hc (by simp [z])) e⟩) (fun _ _ _ _ n=>n)
  (fun b o hc e=>⟨o,k b o (fun z=>hc (by simp [z])) e⟩) (fun _ _ e=>e) (fun _ _ _ e=>e) (fun b ps e=>⟨#[],by rw [e]; simp⟩) (fun m hm=>?_) (fun b u e=>?_) I.bare
 ·have e:b=it:=by simpa using hb
  subst e;exact ⟨h1,hL,h2,h3⟩
 ·obtain ⟨o,es,ep,ho,r⟩:=hm
  exact ⟨o,es,ep,k _ o (Ne.symm hL) ho,r⟩
 ·refine (I.hok b u e).stay (fun c v hc q=>k c v ?_ q) (fun _ q=>q) fun _ _ q=>q
  rcases hc with z | z
  ·rw [z]; exact nit b u e
  ·exact nit c _ z
theorem Inv.tok (I:Inv X pins σ H s) (t:Nat):Inv X pins σ H { s with toks:=t }:=I.un (h':=s.heap) (t':=t) Un.refl I.hok
theorem Inv.kept {t':Nat} (I:Inv X pins σ H s) (k:∀ b u,s.heap.get? b=some u->h'.get? b=some u):Inv X pins σ H { s with heap:=h',toks:=t' }:=I.un (Un.kept k) (I.hok.kept k)
theorem Inv.laid {a:Addr}{o:HO}{t':Nat} (I:Inv X pins σ H s) (k:∀ b u,s.heap.get? b=some u->h'.get? b=some u) (hp:s.heap.objs.size<=a) (new:bq X.prog X.w (aA H a o) h' a o) :
  Inv X pins σ (aA H a o) { s with heap:=h',toks:=t' }:=I.un (Un.laid k hp (I.hok.fresh hp)) (I.hok.laid k hp new)
theorem Inv.write {x e:Addr}{o:HO}{t':Nat} (I:Inv X pins σ H s) (mu:zA (H x)) (he:e=x\/H e=some (.own x)) (k:∀ b u,b≠e->s.heap.get? b=some u->h'.get? b=some u) (heo:∃ u,h'.get? e=some u)
  (new:bq X.prog X.w (aA H x o) h' x o):Inv X pins σ (aA H x o) { s with heap:=h',toks:=t' }:=I.un (Un.write mu he k heo) (I.hok.write mu he k heo new)
theorem Inv.weak {σ':List (Option V)} (I:Inv X pins σ H s) (hl:σ'.length=σ.length) (w:∀ (i:Nat) v,σ'[i]? = some (some v)->σ[i]? = some (some v)):Inv X pins σ' H s :=
 ⟨I.ok,I.os,I.bare,I.base,let ⟨m,hn,hl'⟩:=I.loc; ⟨m,hn,fun i x v e1 e2 e3=>hl' i x v e1 (w i v e2) e3⟩,I.cell,I.free,I.freeC,I.pin,I.hok,hl.trans I.len⟩
theorem Inv.pins_of {pins':List (Addr×Obj)} (I:Inv X pins σ H s) (h:∀ p∈pins',s.heap.get? p.1=some p.2/\H p.1=none/\p.1≠X.env.locals/\p.1∉X.fs/\∀ v,p.2.data≠.cell v):Inv X pins' σ H s :=
 ⟨I.ok,I.os,I.bare,I.base,I.loc,I.cell,I.free,I.freeC,fun p hp=>(List.mem_append.mp hp).elim (fun z=>I.pin p (List.mem_append_left _ z)) (h p),I.hok,I.len⟩
theorem pM {N:List Str} (hN:N.Nodup) {i j:Nat}{x:Str} (a:N[i]? = some x) (b:N[j]? = some x):i=j:=by
 obtain ⟨h1,e1⟩:=List.getElem?_eq_some_iff.mp a;obtain ⟨h2,e2⟩:=List.getElem?_eq_some_iff.mp b;exact (List.getElem_inj hN).mp (e1.trans e2.symm)
theorem mO {M:Model}{A:Around}{E:Value->Shared->Prop}{i:Nat}{x:Str}{v:V}{u:Value}{Q:Unit->Shared->Prop} (I:Inv X pins σ H s) (hN:X.N.Nodup) (hi:X.N[i]? = some x) (hx:wL X.env.scope x) (r:RelV v u)
  (h:∀ s',Inv X pins (σ.set i (some v)) H s'->(∃ a,Heap.SameBut a s.heap s'.heap/\(a=X.env.locals\/X.env.cells.lookup x=some a))->Q () s') (hf:X.fn x=true\/X.env.scope.names.lookup x=some .local:=by first | exact .inl rfl | exact .inr rfl | assumption):wpAny M A (storeName X.env x u) Q E s:=by
 obtain ⟨m,hn,hl⟩:=id I.loc;have hcls:(X.env.scope.kind==.class || (X.env.scope.kind==.module&&X.env.locals != X.env.globals))=false:=by rw [I.ok.kind]; rfl
 have hiσ:i < σ.length:=by rw [I.len]; exact (List.getElem?_eq_some_iff.mp hi).1
 have cne:=I.cne;have tracked:∀ {a:Addr}{h':Heap},(∃ o,s.heap.get? a=some o/\H a=none)->Heap.SameBut a s.heap h'->ge X.prog X.w H h':=fun {a h'} ha hs b ob e=>by
  obtain ⟨_,_,hfree⟩:=ha;refine (I.hok b ob e).stay (fun c w' hc q=>(hs.2 c ?_).trans q) (fun _ q=>q) fun _ _ q=>q;rintro rfl;rcases hc with rfl | hc
  ·rw [hfree] at e; cases e
  ·rw [hfree] at hc; cases hc
 rcases hx with hk | hk
 ·refine wpAny_storeName_local hk hn (fun h' hn' hs=>?_) hcls
  obtain ⟨oL,_,_,hoL,_⟩:=id hn;refine h _ ⟨I.ok,I.os,I.bare,⟨fun b o e n hb hx=>?_,fun b o e n hb hx=>?_,I.base.free,fun b o e hx=>?_,I.base.tups,I.base.frzs,I.base.tbls⟩,⟨_,hn',fun j y v' e1 e2 e3=>?_⟩,fun y c e=>?_,I.free,I.freeC,fun p hp=>?_,tracked ⟨oL,hoL,I.free⟩ hs,by simpa using I.len⟩ ⟨_,hs,.inl rfl⟩
  ·exact (hs.2 b (Nat.ne_of_lt (Nat.lt_of_lt_of_le (Heap.lt_size e) I.ok.above))).trans (I.base.keep b o e n hb hx)
  ·obtain ⟨sl,e1⟩:=I.base.slot b o e n hb hx
   exact ⟨sl,(hs.2 b (Nat.ne_of_lt (Nat.lt_of_lt_of_le (Heap.lt_size e) I.ok.above))).trans e1⟩
  ·obtain ⟨o',e1⟩:=I.base.there b o e hx
   exact ⟨o',(hs.2 b (Nat.ne_of_lt (Nat.lt_of_lt_of_le (Heap.lt_size e) I.ok.above))).trans e1⟩
  ·by_cases hj:j=i
   ·subst hj
    rw [hi] at e1; cases e1;rw [List.getElem?_set_self hiσ] at e2;cases e2;exact ⟨u,r,.inl ⟨hk,by simp⟩⟩
   ·rw [List.getElem?_set_ne (Ne.symm hj)] at e2
    obtain ⟨u',r',q⟩:=hl j y v' e1 e2 e3;refine ⟨u',r',?_⟩;rcases q with ⟨k,e⟩ | ⟨k,c,e,z⟩
    ·refine .inl ⟨k,?_⟩
     have:y≠x:=fun e=>hj (pM hN e1 (e ▸ hi))
     simp [this,e]
    ·exact .inr ⟨k,c,e,z.sameBut hs (cne y c e)⟩
  ·obtain ⟨w',z⟩:=I.cell y c e
   exact ⟨w',z.sameBut hs (cne y c e)⟩
  ·obtain ⟨e,n,ne,nf,d⟩:=I.pin p hp
   exact ⟨(hs.2 p.1 ne).trans e,n,ne,nf,d⟩
 ·have hfn:X.fn x=true:=by
   rcases hf with z | z
   ·exact z
   ·rw [z] at hk; cases hk
  obtain ⟨c,hc⟩:=I.ok.has x (.inl hk);obtain ⟨w',z⟩:=I.cell x c hc;refine wpAny_storeName_cell I.ok.kind hk hc z (fun h' hc' hs=>?_);obtain ⟨oc,hoc,hocd⟩:=id z;refine h { s with heap:=h' } ⟨I.ok,I.os,I.bare,⟨fun b o e n hb hx=>?_,fun b o e n hb hx=>?_,I.base.free,fun b o e hx=>?_,I.base.tups,I.base.frzs,I.base.tbls⟩,⟨m,hn.sameBut hs (Ne.symm (cne x c hc)),fun j y v' e1 e2 e3=>?_⟩,fun y c' e=>?_,I.free,I.freeC,fun p hp=>?_,tracked ⟨oc,hoc,I.freeC x c hc⟩ hs,by simpa using I.len⟩ ⟨c,hs,.inr hc⟩
  ·exact (hs.2 b (Nat.ne_of_lt (Nat.lt_of_lt_of_le (Heap.lt_size e) (I.ok.cab x c hfn hc)))).trans (I.base.keep b o e n hb hx)
  ·obtain ⟨sl,e1⟩:=I.base.slot b o e n hb hx
   exact ⟨sl,(hs.2 b (Nat.ne_of_lt (Nat.lt_of_lt_of_le (Heap.lt_size e) (I.ok.cab x c hfn hc)))).trans e1⟩
  ·obtain ⟨o',e1⟩:=I.base.there b o e hx
   exact ⟨o',(hs.2 b (Nat.ne_of_lt (Nat.lt_of_lt_of_le (Heap.lt_size e) (I.ok.cab x c hfn hc)))).trans e1⟩
  ·by_cases hj:j=i
   ·subst hj
    rw [hi] at e1; cases e1;rw [List.getElem?_set_self hiσ] at e2;cases e2;exact ⟨u,r,.inr ⟨.inl hk,c,hc,hc'⟩⟩
   ·rw [List.getElem?_set_ne (Ne.symm hj)] at e2
    obtain ⟨u',r',q⟩:=hl j y v' e1 e2 e3;refine ⟨u',r',?_⟩;rcases q with q | ⟨k,c',e,z'⟩
    ·exact .inl q
    ·refine .inr ⟨k,c',e,z'.sameBut hs ?_⟩
     rintro rfl;exact hj (pM hN e1 (I.ok.inj _ _ _ e hc ▸ hi))
  ·by_cases hcc:c'=c
   ·subst hcc; exact ⟨_,hc'⟩
   ·obtain ⟨w2,z2⟩:=I.cell y c' e
    exact ⟨w2,z2.sameBut hs hcc⟩
  ·obtain ⟨e,n,ne,nf,d⟩:=I.pin p hp
   refine ⟨(hs.2 p.1 ?_).trans e,n,ne,nf,d⟩;intro q;rw [q,hoc] at e;have q':oc=p.2:=Option.some.inj e;exact d w' (by rw [<- q']; exact hocd)
theorem kT {M:Model}{A:Around}{E:Value->Shared->Prop}{i:Nat}{x:Str}{v:V}{u:Value}{Q:Unit->Shared->Prop} (I:Inv X pins σ H s) (hN:X.N.Nodup) (hi:X.N[i]? = some x) (hx:wL X.env.scope x) (r:RelV v u)
  (h:∀ s',Inv X pins (σ.set i (some v)) H s'->Q () s') (hf:X.fn x=true\/X.env.scope.names.lookup x=some .local:=by first | exact .inl rfl | exact .inr rfl | assumption):wpAny M A (storeName X.env x u) Q E s :=
 mO I hN hi hx r (fun s' I' _=>h s' I') hf
theorem Inv.call' {s':Shared}{ch:List Addr} (I:Inv X pins σ H s) (ho:s'.os=s.os) (u:Un (mF X.stack) ch H H' s.heap s'.heap) (hok:ge X.prog X.w H' s'.heap) (hg:AllBare s'.gens)
  (hch:∀ b∈ch,(b∈X.ex\/X.s₀.heap.objs.size<=b)/\b≠X.env.locals/\(∀ x c,X.env.cells.lookup x=some c->c≠b)/\∀ p∈X.pn++pins,p.1≠b):Inv X pins σ H' s':=by
 obtain ⟨h',g',d',t',o'⟩:=s';have e:o'=s.os:=ho;subst e;exact I.call (g':=g') (t':=t') (d':=d') u hok hg hch
end
abbrev XK:=Value->Option Addr->Hp->Prop
abbrev St:=List (Option V)
abbrev VK:=V->Hp->Prop
abbrev TE:=St->Hp->VK->Prop
abbrev TT:=St->Hp->(Bool->Hp->Prop)->Prop
abbrev TA:=St->Hp->(List V->Hp->Prop)->Prop
structure Ends where
 nx:St->Hp->Prop
 rt:VK
 bk:St->Hp->Prop:=fun _ _=>False
 ct:St->Hp->Prop:=fun _ _=>False
abbrev TS:=Ends->St->Hp->Prop
noncomputable def EP (X:Cx) (pins:List (Addr×Obj)) (σ:St) (Q:VK) (u:Value) (s':Shared):Prop:=∃ v H',Inv X pins σ H' s'/\RelV v u/\Q v H'
noncomputable def TP (X:Cx) (pins:List (Addr×Obj)) (σ:St) (Q:Bool->Hp->Prop) (b:Bool) (s':Shared):Prop:=∃ H',Inv X pins σ H' s'/\Q b H'
noncomputable def AP (X:Cx) (pins:List (Addr×Obj)) (σ:St) (Q:List V->Hp->Prop) (us:List Value) (s':Shared):Prop:=∃ vs H',Inv X pins σ H' s'/\aU vs us/\Q vs H'
noncomputable def SP (X:Cx) (pins:List (Addr×Obj)) (D:Ends) (f:Flow) (s':Shared):Prop :=
 match f with
 | .next=>∃ σ' H',Inv X pins σ' H' s'/\D.nx σ' H'
 | .brk=>∃ σ' H',Inv X pins σ' H' s'/\D.bk σ' H'
 | .cont=>∃ σ' H',Inv X pins σ' H' s'/\D.ct σ' H'
 | .ret u=>∃ v σ' H',Inv X pins σ' H' s'/\RelV v u/\D.rt v H'
noncomputable def PE (X:Cx) (e:Expr) (t:TE):Prop :=
 ∀ (pins:List (Addr×Obj)) (s:Shared) (σ:St) (H:Hp) (Q:VK),Inv X pins σ H s->t σ H Q->wpAny (model X.prog X.w) X.A (eval e X.env) (EP X pins σ Q) X.xe s
noncomputable def PT (X:Cx) (e:Expr) (t:TT):Prop :=
 ∀ (pins:List (Addr×Obj)) (s:Shared) (σ:St) (H:Hp) (Q:Bool->Hp->Prop),Inv X pins σ H s->t σ H Q->wpAny (model X.prog X.w) X.A (isTrue e X.env (eval e X.env)) (TP X pins σ Q) X.xe s
noncomputable def PW (X:Cx) (e:Expr) (t:TT):Prop :=
 ∀ (whole:Sem Value) (pins:List (Addr×Obj)) (s:Shared) (σ:St) (H:Hp) (Q:Bool->Hp->Prop),Inv X pins σ H s->t σ H Q->wpAny (model X.prog X.w) X.A (isTrue e X.env whole) (TP X pins σ Q) X.xe s
theorem PW.pt {X:Cx}{e:Expr}{t:TT} (h:PW X e t):PT X e t:=h _
noncomputable def PA (X:Cx) (es:List Expr) (t:TA):Prop :=
 ∀ (pos:Pos) (pins:List (Addr×Obj)) (s:Shared) (σ:St) (H:Hp) (Q:List V->Hp->Prop),Inv X pins σ H s->t σ H Q->wpAny (model X.prog X.w) X.A (spliced (backTo pos (starEach es X.env))) (AP X pins σ Q) X.xe s
noncomputable def PS (X:Cx) (st:Stmt) (t:TS):Prop :=
 ∀ (pins:List (Addr×Obj)) (s:Shared) (σ:St) (H:Hp) (D:Ends),Inv X pins σ H s->t D σ H->wpAny (model X.prog X.w) X.A (exec st X.env) (SP X pins D) X.xe s
noncomputable def gI (X:Cx) (st:List Stmt) (t:TS):Prop :=
 ∀ (pins:List (Addr×Obj)) (s:Shared) (σ:St) (H:Hp) (D:Ends),Inv X pins σ H s->t D σ H->wpAny (model X.prog X.w) X.A (execs st X.env) (SP X pins D) X.xe s
theorem bz {α:Type}{t:Sem α}{Q Q':α->Shared->Prop}{M:Model}{A:Around}{E:Value->Shared->Prop}{s:Shared} (h:wpAny M A t Q E s) (hQ:∀ a s,Q a s->Q' a s):wpAny M A t Q' E s:=wpAny_mono h hQ fun _ _ x=>x
section
variable {X:Cx}
noncomputable def AV (i:Nat):TE:=fun σ H Q=>∃ v,σ[i]? = some (some v)/\Q v H
noncomputable def tC (v:V):TE:=fun _ H Q=>Q v H
theorem yN {i:Nat}{x:Str}{pos:Pos} (hN:X.N[i]? = some x) (hv:AH X.env.scope x) (hd:(x==("__debug__":Str))=false:=by decide) (hcd:(x==("__classdict__":Str))=false:=by decide):PE X (.Name x pos) (AV i):=by
 intro pins s σ H Q I h;obtain ⟨v,e,h⟩:=h;obtain ⟨m,hn,hl⟩:=I.loc;obtain ⟨u,r,l⟩:=hl i x v hN e hv;have fin:EP X pins σ Q u s:=⟨v,H,I,r,h⟩;rcases l with ⟨hk,hm⟩ | ⟨hk,c,hc,hcell⟩
 ·exact wpAny_Name (wpAny_loadName_local I.ok.kind hk hn hm fin) hd
 ·rcases hk with hk | hk
  ·exact wpAny_Name (wpAny_loadName_cell I.ok.kind hk hc hcell fin) hd
  ·exact wpAny_Name (wpAny_loadName_free I.ok.kind hk hc hcell fin hcd) hd
theorem ao {i j pos}:PE X (.Constant (.int i) j pos) (tC (.int i)):=fun _ _ _ H _ I h=>wpAny_Constant_int ⟨.int i,H,I.tok _,⟨_,rfl⟩,h⟩
theorem bo {b j pos}:PE X (.Constant (.bool b) j pos) (tC (.bl b)):=fun _ _ _ H _ I h=>Constant_bool ⟨.bl b,H,I,rfl,h⟩
theorem cg {j pos}:PE X (.Constant .none j pos) (tC .non):=fun _ _ _ H _ I h=>Constant_none ⟨.non,H,I,rfl,h⟩
theorem aB {x j pos}:PE X (.Constant (.str x) j pos) (tC (.str x)):=fun _ _ _ H _ I h=>Calls.Constant_str ⟨.str x,H,I.tok _,⟨_,rfl⟩,h⟩
noncomputable def Gl (X:Cx) (x:Str):Prop:=X.env.kindOf x=some .globalImplicit
theorem kB {E:Value->Shared->Prop}{pins:List (Addr×Obj)}{s:Shared}{σ:St}{H:Hp}{x:Str}{u:Value}{pos:Pos}{Q:Value->Shared->Prop} (I:Inv X pins σ H s) (hg:Gl X x) (hm:X.mg x=some u) (h:Q u s)
  (hd:(x==("__debug__":Str))=false:=by decide):wpAny (model X.prog X.w) X.A (eval (.Name x pos) X.env) Q E s :=
 Calls.Name_function_global I.ok.kind hg (Calls.loadGlobal_global (by rw [I.ok.glob]; exact I.mod.glob.keeps I.bk) hm h) hd
theorem kO {E:Value->Shared->Prop}{pins:List (Addr×Obj)}{s:Shared}{σ:St}{H:Hp}{x:Str}{u:Value}{pos:Pos}{Q:Value->Shared->Prop} (I:Inv X pins σ H s) (hg:Gl X x) (hm:X.mg x=none) (hv:bootBuiltins x=some u) (h:Q u s)
  (hn:x ≠ "__name__":=by decide) (hd:(x==("__debug__":Str))=false:=by decide):wpAny (model X.prog X.w) X.A (eval (.Name x pos) X.env) Q E s:=by
 obtain ⟨mb,h1,h2⟩:=I.mod.blt;exact Calls.Name_function_global I.ok.kind hg (Calls.loadGlobal_builtin (by rw [I.ok.glob]; exact I.mod.glob.keeps I.bk) hm (by rw [I.ok.blt]; exact h1.keeps I.bk) ((h2 x hn).trans hv) h) hd
theorem xc {x:Str}{v:V}{u:Value}{pos:Pos} (hg:Gl X x) (hm:X.mg x=none) (hv:bootBuiltins x=some u) (r:RelV v u) (hn:x ≠ "__name__":=by decide) (hd:(x==("__debug__":Str))=false:=by decide):PE X (.Name x pos) (tC v) :=
 fun _ _ _ H _ I h=>kO I hg hm hv ⟨v,H,I,r,h⟩ hn hd
variable {a b:Expr}{ta tb:TE}{pos:Pos}
noncomputable def tB (t:TE):TT:=fun σ H Q=>t σ H fun x H1=>∃ c,x=.bl c/\Q c H1
theorem bn {e:Expr}{t:TE} (h:PE X e t) (he:∀ whole,isTrue e X.env whole=(do let v <- whole; standAt e.pos; holding [v] (truthy v)):=by intro _; rfl):PT X e (tB t):=by
 intro pins s σ H Q I hw;refine isTrue_plain (bz (h pins s σ H _ I hw) fun v s1 ⟨x,H1,I1,r1,q1⟩=>?_) (he _);obtain ⟨d,rfl,q⟩:=q1;cases r1;exact wpAny_truthy_bool ⟨H1,I1,q⟩
variable {tA tB':TT}{rest:List Expr}
noncomputable def yi (t u:TT):TT:=fun σ H Q=>t σ H fun c H1=>if c=true then u σ H1 Q else Q false H1
noncomputable def zt (t u:TT):TT:=fun σ H Q=>t σ H fun c H1=>if c=true then Q true H1 else u σ H1 Q
noncomputable def AZ (t:TT):TT:=fun σ H Q=>t σ H fun c H1=>Q (!c) H1
theorem nZ (ha:PT X a tA):PW X (.BoolOp .And [a] pos) tA:=by
 intro wh pins s σ H Q I h;refine isTrue_and (bz (ha pins s σ H Q I h) fun c s1 e=>?_);cases c with
 | true=>exact isTrue_and_nil e
 | false=>exact e
theorem cX (ha:PT X a tA):PW X (.BoolOp .Or [a] pos) tA:=by
 intro wh pins s σ H Q I h;refine isTrue_or (bz (ha pins s σ H Q I h) fun c s1 e=>?_);cases c with
 | false=>exact isTrue_or_nil e
 | true=>exact e
theorem qL (ha:PT X a tA) (hb:PW X (.BoolOp .And (b :: rest) pos) tB'):PW X (.BoolOp .And (a :: b :: rest) pos) (yi tA tB'):=by
 intro wh pins s σ H Q I h;refine isTrue_and (bz (ha pins s σ H _ I h) fun c s1 ⟨H1,I1,q1⟩=>?_);cases c with
 | true=>exact hb wh pins s1 σ H1 Q I1 q1
 | false=>exact ⟨H1,I1,q1⟩
theorem dI (ha:PT X a tA) (hb:PW X (.BoolOp .Or (b :: rest) pos) tB'):PW X (.BoolOp .Or (a :: b :: rest) pos) (zt tA tB'):=by
 intro wh pins s σ H Q I h;refine isTrue_or (bz (ha pins s σ H _ I h) fun c s1 ⟨H1,I1,q1⟩=>?_);cases c with
 | true=>exact ⟨H1,I1,q1⟩
 | false=>exact hb wh pins s1 σ H1 Q I1 q1
theorem bZ (ha:PT X a tA):PT X (.UnaryOp .Not a pos) (AZ tA):=by
 intro pins s σ H Q I h;exact isTrue_not (ha pins s σ H (fun c H1=>Q (!c) H1) I h)
noncomputable def Ac (ta tb:TE):TE:=fun σ H Q=>ta σ H fun x H1=>∃ c,x=.bl c/\if c=true then tb σ H1 Q else Q (.bl false) H1
noncomputable def Aa (ta:TE):TE:=fun σ H Q=>ta σ H fun x H1=>∃ c,x=.bl c/\Q (.bl (!c)) H1
theorem g7 {op}{t:TE} (h:PE X a t):PE X (.BoolOp op [a] pos) t:=fun pins s σ H Q I hw=>BoolOp_one (h pins s σ H Q I hw)
theorem gg (ha:PE X a ta) (hb:PE X (.BoolOp .And (b :: rest) pos) tb):PE X (.BoolOp .And (a :: b :: rest) pos) (Ac ta tb):=by
 intro pins s σ H Q I h;refine BoolOp_and (bz (ha pins s σ H _ I h) fun v s1 ⟨x,H1,I1,r1,q1⟩=>?_);obtain ⟨c,rfl,q1⟩:=q1;cases r1;refine wpAny_truthy_bool ?_;cases c with
 | true=>exact hb pins s1 σ H1 Q I1 q1
 | false=>exact ⟨.bl false,H1,I1,rfl,q1⟩
theorem vm (ha:PE X a ta):PE X (.UnaryOp .Not a pos) (Aa ta):=by
 intro pins s σ H Q I h;refine UnaryOp_ (bz (ha pins s σ H _ I h) fun v s1 ⟨x,H1,I1,r1,q1⟩=>?_);obtain ⟨c,rfl,q1⟩:=q1;cases r1;exact not_of (wpAny_truthy_bool ⟨.bl (!c),H1,I1,rfl,q1⟩)
end
noncomputable def a9 (K:Frag) (H:Hp) (a:Addr) (xs:List V):Prop :=
 Rd H a (.lst xs) \/
  ∃ (o:Obj) (its:Array Value) (n:Nat),K.lookup a=some o/\o.cls=.type "list" /\ o.dict=none/\o.data=.seq its n/\its.size<=sizeLine/\aU xs its.toList
noncomputable def bu (K:Frag) (H:Hp) (a:Addr) (xs:List V):Prop :=
 Rd H a (.tup xs) \/
  ∃ (o:Obj) (its:Array Value) (n:Nat),K.lookup a=some o/\o.cls=.type "tuple" /\ o.data=.seq its n/\its.size<=sizeLine/\aU xs its.toList
noncomputable def ip:Value->Option V
 | .none=>some .non
 | .bool b=>some (.bl b)
 | .int i _=>some (.int i)
 | .str x _=>some (.str x)
 | .bytes b _=>some (.byt b)
 | .float b _=>some (.flt b)
 | .ref a=>some (.ref a)
 | .type n=>some (.ty n)
 | _=>none
theorem RelV.abs {x:V}{u:Value} (r:RelV x u):ip u=some x:=by
 cases x with
 | non=>cases r; rfl
 | bl _=>cases r; rfl
 | int _=>obtain ⟨t,rfl⟩:=r; rfl
 | str _=>obtain ⟨t,rfl⟩:=r; rfl
 | byt _=>obtain ⟨t,rfl⟩:=r; rfl
 | flt _=>obtain ⟨t,rfl⟩:=r; rfl
 | ref _=>cases r; rfl
 | ty _=>cases r; rfl
theorem RelV.inj {x y:V}{u:Value} (r:RelV x u) (q:RelV y u):x=y:=Option.some.inj (r.abs.symm.trans q.abs)
theorem aU.inj:∀ {xs ys:List V}{us:List Value},aU xs us->aU ys us->xs=ys
 | _,_,_,.nil,.nil=>rfl
 | _,_,_,.cons r t,.cons r' t'=>by rw [r.inj r',aU.inj t t']
section
variable {X:Cx}{pins:List (Addr×Obj)}{σ:St}{H:Hp}{s:Shared}{a:Addr}{xs ys:List V}
theorem a9.of {K:Frag} (h:H a=some (.lst xs)):a9 K H a xs:=.inl (.inl h)
theorem bu.of {K:Frag} (h:H a=some (.tup xs)):bu K H a xs:=.inl (.inl h)
theorem Inv.list (I:Inv X pins σ H s) (h:a9 X.K H a xs):∃ its:List Value,aU xs its/\PlainL s.heap a its.toArray/\xs.length<=sizeLine:=by
 rcases h with h | ⟨o,its,n,hk,hc,hd,hs,hz,r⟩
 ·obtain ⟨z,its,n,r,e⟩:=h.ok I.hok
  exact ⟨its,r,⟨_,n,e,rfl,rfl,rfl⟩,z⟩
 ·refine ⟨its.toList,r,⟨o,n,I.kIn a o hk,hc,hd,by simpa using hs⟩,?_⟩
  have e:=r.length;simp only [Array.length_toList] at e;omega
theorem Inv.tuple (I:Inv X pins σ H s) (h:bu X.K H a xs):∃ its:List Value,aU xs its/\IsTup s.heap a its.toArray/\xs.length<=sizeLine:=by
 rcases h with h | ⟨o,its,n,hk,hc,hs,hz,r⟩
 ·obtain ⟨z,its,r,p⟩:=h.ok I.hok
  exact ⟨its,r,p,z⟩
 ·refine ⟨its.toList,r,⟨o,I.kIn a o hk,hc,n,by simpa using hs⟩,?_⟩
  have e:=r.length;simp only [Array.length_toList] at e;omega
theorem Inv.list_inj (I:Inv X pins σ H s) (h:a9 X.K H a xs) (h':a9 X.K H a ys):xs=ys:=by
 obtain ⟨its,r,⟨o,n,e,_,_,d⟩,_⟩:=I.list h;obtain ⟨its',r',⟨o',n',e',_,_,d'⟩,_⟩:=I.list h';rw [e] at e'; cases e';rw [d] at d'
 injection d' with d1 _
 have:its=its':=by simpa using congrArg Array.toList d1
 subst this;exact r.inj r'
theorem Inv.tuple_inj (I:Inv X pins σ H s) (h:bu X.K H a xs) (h':bu X.K H a ys):xs=ys:=by
 obtain ⟨its,r,⟨o,e,_,n,d⟩,_⟩:=I.tuple h;obtain ⟨its',r',⟨o',e',_,n',d'⟩,_⟩:=I.tuple h';rw [e] at e'; cases e';rw [d] at d'
 injection d' with d1 _
 have:its=its':=by simpa using congrArg Array.toList d1
 subst this;exact r.inj r'
end
abbrev Cx.wish (X:Cx) (E:Value->Shared->Prop):Cx:={ X with xe:=E }
abbrev Cx.nox (X:Cx):Cx:=X.wish fun _ _=>False
theorem Cx.Ok.wish {X:Cx} (ok:X.Ok) (E:Value->Shared->Prop):(X.wish E).Ok :=
 ⟨ok.mod,ok.kind,ok.glob,ok.blt,ok.above,ok.inj,ok.has,ok.cab,ok.hd,ok.frames,ok.stk,ok.exf,ok.bs,ok.bsz,ok.noex,ok.exfs,ok.funs,ok.frf⟩
theorem Cx.Ok.unwish {X:Cx}{E:Value->Shared->Prop} (ok:(X.wish E).Ok):X.Ok :=
 ⟨ok.mod,ok.kind,ok.glob,ok.blt,ok.above,ok.inj,ok.has,ok.cab,ok.hd,ok.frames,ok.stk,ok.exf,ok.bs,ok.bsz,ok.noex,ok.exfs,ok.funs,ok.frf⟩
section
variable {X:Cx}{pins:List (Addr×Obj)}{σ:St}{H:Hp}{s:Shared}{E:Value->Shared->Prop}
theorem Inv.wish (I:Inv X pins σ H s) (E:Value->Shared->Prop):Inv (X.wish E) pins σ H s:=⟨I.ok.wish E,I.os,I.bare,I.base,I.loc,I.cell,I.free,I.freeC,I.pin,I.hok,I.len⟩
theorem Inv.unwish (I:Inv (X.wish E) pins σ H s):Inv X pins σ H s:=⟨I.ok.unwish,I.os,I.bare,I.base,I.loc,I.cell,I.free,I.freeC,I.pin,I.hok,I.len⟩
theorem SP.unwish {D:Ends}{f:Flow}{s':Shared} (h:SP (X.wish E) pins D f s'):SP X pins D f s':=by
 cases f with
 | next=>obtain ⟨σ',H',I,q⟩:=h; exact ⟨σ',H',I.unwish,q⟩
 | brk=>obtain ⟨σ',H',I,q⟩:=h; exact ⟨σ',H',I.unwish,q⟩
 | cont=>obtain ⟨σ',H',I,q⟩:=h; exact ⟨σ',H',I.unwish,q⟩
 | ret u=>obtain ⟨v,σ',H',I,r,q⟩:=h; exact ⟨v,σ',H',I.unwish,r,q⟩
theorem gI.nox {st:List Stmt}{t:TS} (h:gI X.nox st t):gI X st t:=fun pins s σ H D I hw =>
 wpAny_mono (h pins s σ H D (I.wish _) hw) (fun _ _ q=>q.unwish) fun _ _ z=>False.elim z
end
section
variable {X:Cx}{st:Stmt}{rest:List Stmt}{t u:TS}{e:Expr}{te:TE}{pos:Pos}
noncomputable def xP:TS:=fun D σ H=>D.nx σ H
noncomputable def yg (t u:TS):TS:=fun D σ H=>t { D with nx:=u D } σ H
theorem aC:gI X [] xP:=fun _ _ σ H _ I h=>wpAny_execs_nil ⟨σ,H,I,h⟩
theorem ad (h1:PS X st t) (h2:gI X rest u):gI X (st :: rest) (yg t u):=by
 intro pins s σ H D I h;refine wpAny_execs_cons (bz (h1 pins s σ H { D with nx:=u D } I h) fun f s1 q=>?_);cases f with
 | next =>
  obtain ⟨σ',H',I',q⟩:=q;exact h2 pins s1 σ' H' D I' q
 | ret v=>exact q
 | brk=>exact q
 | cont=>exact q
theorem aq (h1:PS X st t):gI X [st] t:=by
 intro pins s σ H D I h;refine wpAny_execs_cons (bz (h1 pins s σ H D I h) fun f s1 q=>?_);cases f with
 | next=>exact wpAny_execs_nil q
 | ret v=>exact q
 | brk=>exact q
 | cont=>exact q
theorem Inv.quiet {pins:List (Addr×Obj)}{σ:St}{H:Hp}{s:Shared} (I:Inv X pins σ H s):interactive X.env=false:=by simp [interactive,I.ok.kind]
noncomputable def rL (te:TE):TS:=fun D σ H=>te σ H fun _ H1=>D.nx σ H1
theorem a5 (he:PE X e te) (hs:swapsWith e none pos.line X.env=pure false:=by rfl):PS X (.Expr e pos) (rL te):=by
 intro pins s σ H D I h;exact wpAny_Expr_any (bz (he pins s σ H _ I h) fun v s1 ⟨x,H1,I1,r1,q1⟩=>⟨σ,H1,I1,q1⟩) I.quiet hs
noncomputable def AY (te:TE):TS:=fun D σ H=>te σ H D.rt
theorem az (he:PE X e te):PS X (.Return (some e) pos) (AY te):=by
 intro pins s σ H D I h;exact wpAny_Return_some (bz (he pins s σ H _ I h) fun v s1 ⟨x,H1,I1,r1,q1⟩=>⟨x,σ,H1,I1,r1,q1⟩)
noncomputable def z9:TS:=fun D _ H=>D.rt .non H
theorem w8:PS X (.Return none pos) z9:=fun _ _ σ H _ I h=>wpAny_Return_none ⟨.non,σ,H,I,rfl,h⟩
noncomputable def yh (c:TT) (t u:TS):TS:=fun D σ H=>c σ H fun b H1=>if b=true then t D σ H1 else u D σ H1
theorem aQ {c:Expr}{a b:List Stmt}{tc:TT} (hc:PT X c tc) (ha:gI X a t) (hb:gI X b u):PS X (.If c a b pos) (yh tc t u):=by
 intro pins s σ H D I h;refine wpAny_If (bz (hc pins s σ H _ I h) fun d s1 ⟨H1,I1,q1⟩=>?_);cases d with
 | true=>exact ha pins s1 σ H1 D I1 q1
 | false=>exact hb pins s1 σ H1 D I1 q1
noncomputable def yw:TS:=fun _ _ _=>False
theorem tY {sts:List Stmt}:gI X sts yw:=fun _ _ _ _ _ _ h=>h.elim
end
abbrev TG:=V->St->Hp->(St->Hp->Prop)->Prop
abbrev ye:=List V->St->Hp->(St->Hp->Prop)->Prop
noncomputable def PG (X:Cx) (target:Expr) (t:TG):Prop :=
 ∀ (pins:List (Addr×Obj)) (s:Shared) (σ:St) (H:Hp) (v:V) (u:Value) (Q:St->Hp->Prop),Inv X pins σ H s->RelV v u->t v σ H Q ->
  wpAny (model X.prog X.w) X.A (assign target X.env u) (fun _ s'=>∃ σ' H',Inv X pins σ' H' s'/\Q σ' H') X.xe s
noncomputable def AL (X:Cx) (ts:List Expr) (t:ye):Prop :=
 ∀ (pins:List (Addr×Obj)) (s:Shared) (σ:St) (H:Hp) (vs:List V) (us:List Value) (Q:St->Hp->Prop),Inv X pins σ H s->aU vs us->t vs σ H Q ->
  wpAny (model X.prog X.w) X.A (assignInOrder ((assignEach ts X.env).map (·.2)) us) (fun _ s'=>∃ σ' H',Inv X pins σ' H' s'/\Q σ' H') X.xe s
abbrev yo:=V->V->V->Hp->(Hp->Prop)->Prop
noncomputable def zS (X:Cx) (t:yo):Prop :=
 ∀ (pins:List (Addr×Obj)) (s:Shared) (σ:St) (H:Hp) (o i v:V) (ov iv u:Value) (Q:Hp->Prop),Inv X pins σ H s->RelV o ov->RelV i iv->RelV v u->t o i v H Q ->
  wpAny (model X.prog X.w) X.A (setItem ov iv u) (fun _ s'=>∃ H',Inv X pins σ H' s'/\Q H') X.xe s
abbrev AJ:=V->V->Hp->VK->Prop
noncomputable def BB (X:Cx) (op:Operator) (t:AJ):Prop :=
 ∀ (pins:List (Addr×Obj)) (s:Shared) (σ:St) (H:Hp) (x y:V) (v u:Value) (Q:VK),Inv X pins σ H s->RelV x v->RelV y u->t x y H Q ->
  wpAny (model X.prog X.w) X.A (inplaceOp op v u) (EP X pins σ Q) X.xe s
section
variable {X:Cx}{pos:Pos}
noncomputable def jE (i:Nat):TG:=fun v σ H Q=>Q (σ.set i (some v)) H
theorem sK {i:Nat}{x:Str} (hN:X.N.Nodup) (hi:X.N[i]? = some x) (hx:wL X.env.scope x) (hf:X.fn x=true\/X.env.scope.names.lookup x=some .local:=by first | exact .inl rfl | exact .inr rfl | assumption):PG X (.Name x pos) (jE i):=by
 intro pins s σ H v u Q I r h;exact wpAny_assign_Name (kT I hN hi hx r (fun s' I'=>⟨_,H,I',h⟩) hf)
noncomputable def Bo:ye:=fun vs σ H Q=>vs=[]/\Q σ H
noncomputable def Ay (t:TG) (u:ye):ye:=fun vs σ H Q=>∃ v r,vs=v :: r/\t v σ H fun σ' H'=>u r σ' H' Q
theorem sJ:AL X [] Bo:=by
 intro pins s σ H vs us Q I r h;obtain ⟨e,h⟩:=h;subst e;cases r;exact assignInOrder_nil ⟨σ,H,I,h⟩
theorem iG {e:Expr}{es:List Expr}{t:TG}{u:ye} (h1:PG X e t) (h2:AL X es u)
  (hs:(assignEach (e :: es) X.env).map (·.2)=assign e X.env :: (assignEach es X.env).map (·.2):=by rfl):AL X (e :: es) (Ay t u):=by
 intro pins s σ H vs us Q I r h;obtain ⟨v,vr,e1,h⟩:=h;subst e1;cases r with
 | cons r rr =>
  rw [hs];refine assignInOrder_cons (bz (h1 pins s σ H _ _ _ I r h) fun _ s1 ⟨σ1,H1,I1,q1⟩=>?_);exact h2 pins s1 σ1 H1 _ _ Q I1 rr q1
noncomputable def Bm (K:Frag) (n:Nat) (t:ye):TG:=fun v σ H Q=>∃ a xs,v=.ref a/\bu K H a xs/\xs.length=n/\t xs σ H Q
theorem vk {es:List Expr}{k:Nat}{t:ye}{n:Nat} (hc:X.calm=true) (h:AL X es t)
  (hn:(assignEach es X.env).length=n:=by rfl) (hst:(assignEach es X.env).findIdx? (·.1)=none:=by rfl):PG X (.Tuple es k pos) (Bm X.K n t):=by
 intro pins s σ H v u Q I r hw;obtain ⟨a,xs,e1,hq,hl,hw⟩:=hw;subst e1;cases r;obtain ⟨its,rv,ht,hz⟩:=I.tuple hq;refine assign_Tuple_tuple (I.ok.hd hc) ht (by simp [hn,<- hl,rv.length]) hst fun h' hx=>?_;have I1:Inv X pins σ H { s with heap:=h' }:=I.kept (t':=s.toks) fun b o e=>hx b o (Nat.ne_of_lt (Heap.lt_size e)) e;exact h pins _ σ H xs _ Q I1 (by simpa using rv) hw
noncomputable def Bn (to ti:TE) (t:yo):TG:=fun v σ H Q=>to σ H fun o H1=>ti σ H1 fun i H2=>t o i v H2 fun H3=>Q σ H3
theorem gZ {o i:Expr}{to ti:TE}{t:yo} (ho:PE X o to) (hi:PE X i ti) (hs:zS X t)
  (ha:∀ v,assign (.Subscript o i pos) X.env v=(do
   let ov <- holding [v] (eval o X.env)
   let iv <- holding [v,ov] (eval i X.env)
   standAt pos
   holding [v,ov,iv] (setItem ov iv v)
   release [v,ov,iv] []):=by intro _; rfl):PG X (.Subscript o i pos) (Bn to ti t):=by
 intro pins s σ H v u Q I r h;rw [ha];refine wpAny_bind (wpAny_holding (bz (ho pins s σ H _ I h) fun ov s1 ⟨x,H1,I1,r1,q1⟩=>?_));refine wpAny_bind (wpAny_holding (bz (hi pins s1 σ H1 _ I1 q1) fun iv s2 ⟨y,H2,I2,r2,q2⟩=>?_));refine wpAny_bind (wpAny_standAt (wpAny_bind (wpAny_holding (bz (hs pins s2 σ H2 x y v ov iv u _ I2 r1 r2 r q2) fun _ s3 ⟨H3,I3,q3⟩=>?_))));exact wpAny_release ⟨σ,H3,I3,q3⟩
noncomputable def wN (te:TE) (g:TG):TS:=fun D σ H=>te σ H fun x H1=>g x σ H1 D.nx
theorem gY {tg e:Expr}{te:TE}{g:TG} (he:PE X e te) (hg:PG X tg g) (hs:swapsWithSole [tg] e pos.line X.env=pure false:=by rfl) (hw:swappedStores [tg] e X.env=pure none:=by rfl)
  (h1:(assignEach [tg] X.env).map (·.2)=[assign tg X.env]:=by rfl):PS X (.Assign [tg] e pos) (wN te g):=by
 intro pins s σ H D I h;refine wpAny_Assign_stores (bz (he pins s σ H _ I h) fun v s1 ⟨x,H1,I1,r1,q1⟩=>?_) hs hw;rw [h1];exact bz (hg pins s1 σ H1 x v _ I1 r1 q1) fun _ s2 q=>q
theorem yK {i:Nat}{x:Str}{e:Expr}{te:TE}{pos':Pos} (hN:X.N.Nodup) (hi:X.N[i]? = some x) (hx:wL X.env.scope x) (he:PE X e te) (hs:swapsWith e (some (.Name x pos')) pos.line X.env=pure false:=by rfl) (hf:X.fn x=true\/X.env.scope.names.lookup x=some .local:=by first | exact .inl rfl | exact .inr rfl | assumption) :
  PS X (.Assign [.Name x pos'] e pos) (wN te (jE i)):=by
 intro pins s σ H D I h;refine wpAny_Assign_Name (bz (he pins s σ H _ I h) fun v s1 ⟨y,H1,I1,r1,q1⟩=>?_) hs;exact kT I1 hN hi hx r1 (fun s2 I2=>⟨_,H1,I2,q1⟩) hf
noncomputable def A_ (i:Nat) (te:TE) (ti:AJ):TS:=fun D σ H=>∃ x,σ[i]? = some (some x)/\te σ H fun y H1=>ti x y H1 fun z H2=>D.nx (σ.set i (some z)) H2
theorem yM {i:Nat}{x:Str}{e:Expr}{te:TE}{op:Operator}{ti:AJ}{pos':Pos} (hN:X.N.Nodup) (hi:X.N[i]? = some x) (hx:wL X.env.scope x) (he:PE X e te) (ho:BB X op ti) (hf:X.fn x=true\/X.env.scope.names.lookup x=some .local:=by first | exact .inl rfl | exact .inr rfl | assumption) :
  PS X (.AugAssign (.Name x pos') op e pos) (A_ i te ti):=by
 intro pins s σ H D I h;obtain ⟨v,e1,h⟩:=h;obtain ⟨m,hn,hl⟩:=I.loc;have vis:AH X.env.scope x:=by rcases hx with k | k; exact .inl k; exact .inr (.inl k)
 obtain ⟨u,r,l⟩:=hl i x v hi e1 vis;refine wpAny_AugAssign_Name ?_;have go:wpAny (model X.prog X.w) X.A (eval e X.env) (fun w s₂=>wpAny (model X.prog X.w) X.A (inplaceOp op u w) (fun r s₃=>wpAny (model X.prog X.w) X.A (storeName X.env x r) (fun _=>SP X pins D .next) X.xe s₃) X.xe s₂) X.xe s:=by
  refine bz (he pins s σ H _ I h) fun w s1 ⟨y,H1,I1,r1,q1⟩=>?_;refine bz (ho pins s1 σ H1 v y u w _ I1 r r1 q1) fun z s2 ⟨zv,H2,I2,r2,q2⟩=>?_;exact kT I2 hN hi hx r2 (fun s3 I3=>⟨_,H2,I3,q2⟩) hf
 rcases l with ⟨hk,hm⟩ | ⟨hk,c,hc,hcell⟩
 ·exact wpAny_loadName_local I.ok.kind hk hn hm go
 ·rcases hk with hk | hk
  ·exact wpAny_loadName_cell I.ok.kind hk hc hcell go
  ·rcases hx with k | k
   ·have:X.env.scope.names.lookup x=some .free:=hk
    rw [k] at this; cases this
   ·have:X.env.scope.names.lookup x=some .free:=hk
    rw [k] at this; cases this
noncomputable def BM (f:Int->Int->Int):AJ:=fun x y H Q=>∃ i j,x=.int i/\y=.int j/\Q (.int (f i j)) H
theorem zc:BB X .Add (BM fun i j=>i+j):=by
 intro pins s σ H x y v u Q I r1 r2 h;obtain ⟨i,j,e1,e2,q⟩:=h;subst e1; subst e2;obtain ⟨t,rfl⟩:=r1;obtain ⟨t',rfl⟩:=r2;exact iadd_int ⟨.int _,H,I.tok _,⟨_,rfl⟩,q⟩
end
section
variable {X:Cx}{pos:Pos}
noncomputable def yu (c:TT) (tb:TS):TS:=fun D σ H=>∃ W:Nat->St->Hp->Prop,(∃ m,W m σ H)/\∀ m σ H,W m σ H ->
 c σ H fun b H1=>if b=true then ∃ N:St->Hp->Prop,(∀ σ' H',N σ' H'->∃ m',m' < m/\W m' σ' H')/\tb { D with nx:=N,ct:=N,bk:=D.nx } σ H1 else D.nx σ H1
theorem iF {c:Expr}{body:List Stmt}{tc:TT}{tb:TS} (hp:PassesOwn (model X.prog X.w) X.A X.env X.xe) (hc:PT X c tc) (hb:gI X body tb):PS X (.While c body [] pos) (yu tc tb):=by
 intro pins s σ H D I h;obtain ⟨W,⟨m0,w0⟩,turn⟩:=h;refine wpAny_While (codeAny_whileLoop (fun n s'=>∃ σ' H',Inv X pins σ' H' s'/\W n σ' H') ?_ m0 ⟨σ,H,I,w0⟩);rintro n s1 ⟨σ1,H1,I1,w1⟩;refine wpAny_passesOwn hp (bz (hc pins s1 σ1 H1 _ I1 (turn n σ1 H1 w1)) fun b s2 ⟨H2,I2,q2⟩=>?_);cases b with
 | true =>
  obtain ⟨N,hN,q2⟩:=q2;rw [if_pos rfl];refine wpAny_passesOwn hp (bz (hb pins s2 σ1 H2 _ I2 q2) fun f s3 q3=>?_);cases f with
  | next =>
   obtain ⟨σ3,H3,I3,n3⟩:=q3;obtain ⟨m',hm,w3⟩:=hN σ3 H3 n3;exact ⟨m',hm,σ3,H3,I3,w3⟩
  | cont =>
   obtain ⟨σ3,H3,I3,n3⟩:=q3;obtain ⟨m',hm,w3⟩:=hN σ3 H3 n3;exact ⟨m',hm,σ3,H3,I3,w3⟩
  | brk=>exact q3
  | ret v=>exact q3
 | false =>
  rw [if_neg Bool.false_ne_true];exact wpAny_execs_nil ⟨σ1,H2,I2,q2⟩
end
structure It where
 go:Nat->Hp->Prop
 yld:Nat->Hp->V->Hp->Prop
 stop:Nat->Hp->Prop
noncomputable def FpOk (X:Cx) (pins:List (Addr×Obj)) (H:Hp) (b:Addr):Prop :=
 H b=none/\b≠X.env.locals/\b∉X.fs/\(b∈X.ex\/X.s₀.heap.objs.size<=b)/\(∀ x c,X.env.cells.lookup x=some c->c≠b)/\∀ p∈X.pn++pins,p.1≠b
theorem Inv.fpOk {X:Cx}{pins:List (Addr×Obj)}{σ:St}{H H':Hp}{s:Shared}{b:Addr} (I:Inv X pins σ H s) (hb:s.heap.objs.size<=b) (hn:H' b=none):FpOk X pins H' b:=by
 refine ⟨hn,Nat.ne_of_gt (Nat.lt_of_lt_of_le I.lt hb),I.nofs hb,.inr (Nat.le_trans I.sz hb),fun x c e z=>?_,fun p hp z=>?_⟩
 ·obtain ⟨v,q⟩:=I.cell x c e
  exact absurd (Nat.lt_of_lt_of_le q.lt (by rw [z]; exact hb)) (Nat.lt_irrefl _)
 ·exact absurd (Nat.lt_of_lt_of_le (Heap.lt_size (I.pin p hp).1) (by rw [z]; exact hb)) (Nat.lt_irrefl _)
structure Turn (P:Program) (w:World) (K:Frag) (tg:Expr) (J:It) (fp:List Addr) (it:Addr) (tn:Nat->Heap->Prop):Prop where
 mem:it∈fp
 obj:∀ i h,tn i h->∀ b∈fp,∃ o,h.get? b=some o/\∀ v,o.data≠.cell v
 keep:∀ i h h',tn i h->(∀ b∈fp,∀ o,h.get? b=some o->h'.get? b=some o)->tn i h'
 item:∀ (X:Cx),X.prog=P->X.w=w->X.K=K->X.calm=true->∀ (i:Nat) (pins:List (Addr×Obj)) (s:Shared) (σ:St) (H:Hp) (E:Value->Shared->Prop),Inv X pins σ H s->(∀ b∈fp,FpOk X pins H b)->tn i s.heap->J.go i H ->
  wpAny (model P w) X.A (pyNext (.ref it)) (fun r s1=>∃ u,r=some u /\
   wpAny (model P w) X.A (letOwnedTupleGo tg (.ref it) u) (fun _ s2=>∃ x H',Inv X pins σ H' s2/\RelV x u/\J.yld i H x H'/\tn (i+1) s2.heap/\∀ b∈fp,H' b=none) E s1) E s
 done:∀ (X:Cx),X.prog=P->X.w=w->X.K=K->X.calm=true->∀ (i:Nat) (pins:List (Addr×Obj)) (s:Shared) (σ:St) (H:Hp) (E:Value->Shared->Prop),Inv X pins σ H s->(∀ b∈fp,FpOk X pins H b)->tn i s.heap->J.stop i H ->
  wpAny (model P w) X.A (pyNext (.ref it)) (fun r s1=>r=none/\Inv X pins σ H s1) E s
 self:∀ (A:Around) (i:Nat) (s:Shared) (Q:Value->Shared->Prop) (E:Value->Shared->Prop),tn i s.heap->Q (.ref it) s->wpAny (model P w) A (pyIter (.ref it)) Q E s
abbrev TI:=St->Hp->(It->Hp->Prop)->Prop
noncomputable def BC (X:Cx) (pins:List (Addr×Obj)) (σ:St) (tg:Expr) (R:It->Hp->Prop) (itv:Value) (s2:Shared):Prop :=
 ∃ (it:Addr) (fp:List Addr) (tn:Nat->Heap->Prop) (J:It) (H':Hp),itv=.ref it/\Inv X pins σ H' s2/\Turn X.prog X.w X.K tg J fp it tn/\tn 0 s2.heap/\(∀ b∈fp,FpOk X pins H' b)/\R J H'
noncomputable def PI (X:Cx) (tg iter:Expr) (wi:TI):Prop :=
 ∀ (pins:List (Addr×Obj)) (s:Shared) (σ:St) (H:Hp) (R:It->Hp->Prop),Inv X pins σ H s->wi σ H R ->
  wpAny (model X.prog X.w) X.A (eval iter X.env) (fun v s1=>wpAny (model X.prog X.w) X.A (pyIter v) (BC X pins σ tg R) X.xe s1) X.xe s
theorem rQ {M:Model}{A:Around}{E:Value->Shared->Prop}{s:Shared}{tg:Expr}{it:Addr}{u:Value}{o:Obj}{n:String}{vs:Array Value}{Q:Unit->Shared->Prop} (ho:s.heap.get? it=some o) (hc:o.cls=.type n) (hd:o.data=.fields vs)
  (hn:["enumerate","zip","dict_itemiterator","dict_reverseitemiterator","odict_iterator","itertools.zip_longest","itertools.pairwise"].contains n=false) (hQ:Q () s):wpAny M A (letOwnedTupleGo tg (.ref it) u) Q E s:=by
 unfold letOwnedTupleGo;cases tg<;>first
  | exact wpAny_pure hQ
  | (cases u<;>first
    | exact wpAny_pure hQ
    | (refine wpAny_bind (wpAny_load ho ?_); rw [hc,hd]; show wpAny M A (if (["enumerate","zip","dict_itemiterator","dict_reverseitemiterator","odict_iterator","itertools.zip_longest","itertools.pairwise"].contains n&&vs[0]? == some (rawInt _))=true then _ else _) Q E s; rw [if_neg (by intro h; rw [hn,Bool.false_and] at h; cases h)]; exact wpAny_pure hQ))
noncomputable def xJ (K:Frag) (a:Addr):It :=
 ⟨fun i H=>∃ xs x,a9 K H a xs/\xs[i]? = some x,fun i H x H'=>H'=H/\∀ xs,a9 K H a xs->xs[i]? = some x,fun i H=>∃ xs,a9 K H a xs/\xs.length<=i⟩
noncomputable def zC (K:Frag) (a:Addr):It :=
 ⟨fun i H=>∃ xs x,bu K H a xs/\xs[i]? = some x,fun i H x H'=>H'=H/\∀ xs,bu K H a xs->xs[i]? = some x,fun i H=>∃ xs,bu K H a xs/\xs.length<=i⟩
noncomputable def wM (lo:Int) (n:Nat):It:=⟨fun i _=>i < n,fun i H x H'=>H'=H/\x=.int (lo+i),fun i _=>n<=i⟩
theorem tR {P:Program}{w:World}{K:Frag}{tg:Expr} (a it:Addr):Turn P w K tg (xJ K a) [it] it (fun i h=>h.IsListIter it a i) where
 mem:=by simp
 obj:=fun i h st b hb=>by
  have e:b=it:=by simpa using hb
  subst e;obtain ⟨o,e,c,d⟩:=st;exact ⟨o,e,fun v z=>by rw [d] at z; cases z⟩
 keep:=fun i h h' st k=>st.at fun o e=>k it (by simp) o e
 item:=by
  intro X hP hw hK hc i pins s σ H E I hf st hg;subst hP hw hK;obtain ⟨xs,x,hq,hx⟩:=hg;obtain ⟨its,rv,p,hz⟩:=I.list hq;obtain ⟨u,hu,ru⟩:=rv.get hx;obtain ⟨f0,f1,f2,f3,f4,f5⟩:=hf it (by simp);refine wpAny_pyNext_list_item st p.isList (x:=u) (by simpa using hu) fun h' st' sb=>?_;have I1:Inv X pins σ H { s with heap:=h' }:=I.turned (t':=s.toks) (fun b o hb e=>(sb.2 b hb).trans e) f0 f1 f3 f4 f5;obtain ⟨o,e,c,d⟩:=id st';exact ⟨u,rfl,rQ (s:={ s with heap:=h' }) e c d (by decide) ⟨x,H,I1,ru,⟨rfl,fun ys hy=>by rw [I.list_inj hy hq]; exact hx⟩,st',fun b hb=>(hf b hb).1⟩⟩
 done:=by
  intro X hP hw hK hc i pins s σ H E I hf st hg;subst hP hw hK;obtain ⟨xs,hq,hx⟩:=hg;obtain ⟨its,rv,p,hz⟩:=I.list hq;obtain ⟨f0,f1,f2,f3,f4,f5⟩:=hf it (by simp);have hl:=rv.length;exact wpAny_pyNext_list_end (I.ok.hd hc) st p.isList (by simp; omega) fun h' eb=>⟨rfl,I.turned (t':=s.toks) (fun b o hb e=>eb b o hb e) f0 f1 f3 f4 f5⟩
 self:=fun _ _ _ _ _ st h=>wpAny_pyIter_listiter st h
theorem qR {P:Program}{w:World}{K:Frag}{tg:Expr} (a it:Addr):Turn P w K tg (zC K a) [it] it (fun i h=>h.IsTupleIter it a i) where
 mem:=by simp
 obj:=fun i h st b hb=>by
  have e:b=it:=by simpa using hb
  subst e;obtain ⟨o,e,c,d⟩:=st;exact ⟨o,e,fun v z=>by rw [d] at z; cases z⟩
 keep:=fun i h h' st k=>st.at fun o e=>k it (by simp) o e
 item:=by
  intro X hP hw hK hc i pins s σ H E I hf st hg;subst hP hw hK;obtain ⟨xs,x,hq,hx⟩:=hg;obtain ⟨its,rv,p,hz⟩:=I.tuple hq;obtain ⟨u,hu,ru⟩:=rv.get hx;obtain ⟨f0,f1,f2,f3,f4,f5⟩:=hf it (by simp);refine wpAny_pyNext_tuple_item st (show s.heap.IsTuple a its.toArray from p) (x:=u) (by simpa using hu) fun h' st' sb=>?_;have I1:Inv X pins σ H { s with heap:=h' }:=I.turned (t':=s.toks) (fun b o hb e=>(sb.2 b hb).trans e) f0 f1 f3 f4 f5;obtain ⟨o,e,c,d⟩:=id st';exact ⟨u,rfl,rQ (s:={ s with heap:=h' }) e c d (by decide) ⟨x,H,I1,ru,⟨rfl,fun ys hy=>by rw [I.tuple_inj hy hq]; exact hx⟩,st',fun b hb=>(hf b hb).1⟩⟩
 done:=by
  intro X hP hw hK hc i pins s σ H E I hf st hg;subst hP hw hK;obtain ⟨xs,hq,hx⟩:=hg;obtain ⟨its,rv,p,hz⟩:=I.tuple hq;obtain ⟨f0,f1,f2,f3,f4,f5⟩:=hf it (by simp);have hl:=rv.length;exact wpAny_pyNext_tuple_end (I.ok.hd hc) st (show s.heap.IsTuple a its.toArray from p) (by simp; omega) fun h' eb=>⟨rfl,I.turned (t':=s.toks) (fun b o hb e=>eb b o hb e) f0 f1 f3 f4 f5⟩
 self:=fun _ _ _ _ _ st h=>wpAny_pyIter_tupleiter st h
theorem qS {P:Program}{w:World}{K:Frag}{tg:Expr} (it:Addr) (lo:Int) (n:Nat):Turn P w K tg (wM lo n) [it] it (fun i h=>IsRangeIter h it (lo+(i:Nat) * 1) ((n:Int) - (i:Nat)) 1) where
 mem:=by simp
 obj:=fun i h st b hb=>by
  have e:b=it:=by simpa using hb
  subst e;exact ⟨_,st,fun v z=>by
   have z':Data.fields _=Data.cell v:=z;cases z'⟩
 keep:=fun i h h' st k=>k it (by simp) _ st
 item:=by
  intro X hP hw hK hc i pins s σ H E I hf st hg;subst hP hw hK;obtain ⟨f0,f1,f2,f3,f4,f5⟩:=hf it (by simp);have W:=Walks.range (prog:=X.prog) (w:=X.w) (I.ok.hd hc) it lo 1 n;refine W.item i s _ _ hg st fun v h' tk hv st' kk=>?_;obtain ⟨t,rfl⟩:=hv;have I1:Inv X pins σ H { s with heap:=h',toks:=tk }:=I.turned (fun b o hb e=>kk b o (by simpa using hb) e) f0 f1 f3 f4 f5;refine ⟨_,rfl,rQ (s:={ s with heap:=h',toks:=tk }) (n:="range_iterator") st' rfl rfl (by decide) ⟨.int (lo+i),H,I1,⟨t,?_⟩,⟨rfl,rfl⟩,st',fun b hb=>(hf b hb).1⟩⟩;rw [Int.mul_one]
 done:=by
  intro X hP hw hK hc i pins s σ H E I hf st hg;subst hP hw hK;obtain ⟨f0,f1,f2,f3,f4,f5⟩:=hf it (by simp);exact wpAny_pyNext_range_end (I.ok.hd hc) st (by have:n<=i:=hg; omega) fun h' eb=>⟨rfl,I.turned (t':=s.toks) (fun b o hb e=>eb b o hb e) f0 f1 f3 f4 f5⟩
 self:=fun _ _ _ _ _ st h=>wpAny_pyIter_rangeiter st h
section
variable {X:Cx}{tg:Expr}
noncomputable def Ax (K:Frag) (tl:TE):TI:=fun σ H R=>tl σ H fun x H1=>∃ a,x=.ref a/\(∃ xs,a9 K H1 a xs)/\R (xJ K a) H1
noncomputable def Bl (K:Frag) (tl:TE):TI:=fun σ H R=>tl σ H fun x H1=>∃ a,x=.ref a/\(∃ xs,bu K H1 a xs)/\R (zC K a) H1
theorem cP {l:Expr}{tl:TE} (hl:PE X l tl):PI X tg l (Ax X.K tl):=by
 intro pins s σ H R I h;refine bz (hl pins s σ H _ I h) fun v s1 ⟨x,H1,I1,r1,q1⟩=>?_;obtain ⟨a,e,⟨xs,hq⟩,q⟩:=q1;subst e;cases r1;obtain ⟨its,rv,p,hz⟩:=I1.list hq;refine wpAny_pyIter_list p.isList ?_;refine ⟨s1.heap.objs.size,[s1.heap.objs.size],_,_,H1,rfl,I1.kept (t':=s1.toks) fun b o e=>Heap.get?_push_of_some _ e,tR a _,⟨_,Heap.get?_push_size _ rfl,rfl,rfl⟩,fun b hb=>?_,q⟩;have e:b=s1.heap.objs.size:=by simpa using hb
 subst e;exact I1.fpOk (Nat.le_refl _) (I1.hok.fresh (Nat.le_refl _))
theorem vj {l:Expr}{tl:TE} (hl:PE X l tl):PI X tg l (Bl X.K tl):=by
 intro pins s σ H R I h;refine bz (hl pins s σ H _ I h) fun v s1 ⟨x,H1,I1,r1,q1⟩=>?_;obtain ⟨a,e,⟨xs,hq⟩,q⟩:=q1;subst e;cases r1;obtain ⟨its,rv,p,hz⟩:=I1.tuple hq;refine wpAny_pyIter_tuple (show s1.heap.IsTuple a its.toArray from p) ?_;refine ⟨s1.heap.objs.size,[s1.heap.objs.size],_,_,H1,rfl,I1.kept (t':=s1.toks) fun b o e=>Heap.get?_push_of_some _ e,qR a _,⟨_,Heap.get?_push_size _ rfl,rfl,rfl⟩,fun b hb=>?_,q⟩;have e:b=s1.heap.objs.size:=by simpa using hb
 subst e;exact I1.fpOk (Nat.le_refl _) (I1.hok.fresh (Nat.le_refl _))
theorem vP {pins:List (Addr×Obj)}{σ:St}{H:Hp}{s:Shared}{R:It->Hp->Prop}{E:Value->Shared->Prop}{lo hi:Int}{t u v:Tok}{tk:Nat} (I:Inv X pins σ H s) (h1:-(2 ^ 62)<=lo) (h2:lo < 2 ^ 62) (h3:-(2 ^ 62)<=hi) (h4:hi < 2 ^ 62)
  (q:R (wM lo (hi - lo).toNat) H):wpAny (model X.prog X.w) X.A (pyIter (.ref s.heap.objs.size)) (BC X pins σ tg R) E { s with heap:=s.heap.push { cls:=.type "range",data:=.fields #[.int lo t,.int hi u,.int 1 v] },toks:=tk }:=by
 refine wpAny_pyIter_range (IsRange.new ..) (small_one h1 h2 h3 h4) ?_;have I1:Inv X pins σ H { s with heap:=s.heap.push { cls:=.type "range",data:=.fields #[.int lo t,.int hi u,.int 1 v] },toks:=tk }:=I.kept fun b o e=>Heap.get?_push_of_some _ e;refine ⟨(s.heap.push { cls:=.type "range",data:=.fields #[.int lo t,.int hi u,.int 1 v] }).objs.size,[(s.heap.push { cls:=.type "range",data:=.fields #[.int lo t,.int hi u,.int 1 v] }).objs.size],_,_,H,rfl,
  I1.kept (t':=tk) fun b o e=>Heap.get?_push_of_some _ e,qS _ lo (hi - lo).toNat,?_,fun b hb=>?_,q⟩
 ·have e1:lo+((0:Nat):Int) * 1=lo:=by simp
  have e2:(((hi - lo).toNat:Nat):Int) - ((0:Nat):Int)=Builtin.Range.rangeSize lo hi 1:=by rw [rangeSize_one]; split<;>omega
  show IsRangeIter _ _ (lo+((0:Nat):Int) * 1) ((((hi - lo).toNat:Nat):Int) - ((0:Nat):Int)) 1;rw [e1,e2];exact Heap.get?_push_size _ rfl
 ·have e:b=(s.heap.push { cls:=.type "range",data:=.fields #[.int lo t,.int hi u,.int 1 v] }).objs.size:=by simpa using hb
  subst e;exact I1.fpOk (Nat.le_refl _) (I1.hok.fresh (Nat.le_refl _))
noncomputable def Aw (ta:TA):TI:=fun σ H R=>ta σ H fun vs H1=>∃ j:Int,vs=[.int j] /\ -(2 ^ 62)<=j/\j < 2 ^ 62/\R (wM 0 j.toNat) H1
theorem cy {a:Expr}{ta:TA}{p pos:Pos} (hg:Gl X "range") (hm:X.mg "range" = none) (ha:PA X [a] ta) (hs:starEach [a] X.env=[(false,eval a X.env)]:=by rfl):PI X tg (.Call (.Name "range" p) [a] [] pos) (Aw ta):=by
 intro pins s σ H R I h;refine Call_ (kO I hg hm boot_range (PyProof.Rows.callWith_type1 (bz (ha pos pins s σ H _ I h) fun us s1 ⟨vs,H1,I1,r1,q1⟩=>?_) hs rfl));obtain ⟨j,e,q1,q2,q⟩:=q1;subst e;cases r1 with
 | cons r rr =>
  cases rr;obtain ⟨t,rfl⟩:=r;exact call_range_1 (vP I1 (by omega) (by omega) q1 q2 (by simpa using q))
noncomputable def A8 (wi:TI) (g:TG) (tb:TS):TS:=fun D σ H=>wi σ H fun J H1=>∃ W:Nat->Nat->St->Hp->Prop,(∃ m,W 0 m σ H1)/\∀ i m σ H,W i m σ H ->
 (J.stop i H/\D.nx σ H)\/(J.go i H/\∃ N:St->Hp->Prop,(∀ σ' H',N σ' H'->∃ m',m' < m/\W (i+1) m' σ' H')/\∀ x H',J.yld i H x H'->g x σ H' fun σ2 H2=>tb { D with nx:=N,ct:=N,bk:=D.nx } σ2 H2)
noncomputable def i6 (fp:List Addr) (h:Heap):List (Addr×Obj):=fp.filterMap fun b=>(h.get? b).map fun o=>(b,o)
theorem fS {fp:List Addr}{h:Heap}{b:Addr}{o:Obj} (hb:b∈fp) (e:h.get? b=some o):(b,o)∈i6 fp h:=List.mem_filterMap.mpr ⟨b,hb,by rw [e]; rfl⟩
theorem uh {fp:List Addr}{h:Heap}{p:Addr×Obj} (hp:p∈i6 fp h):p.1∈fp/\h.get? p.1=some p.2:=by
 obtain ⟨b,hb,e⟩:=List.mem_filterMap.mp hp;cases q:h.get? b with
 | none=>rw [q] at e; cases e
 | some o =>
  rw [q] at e;have e':(b,o)=p:=Option.some.inj e;subst e';exact ⟨hb,q⟩
theorem Inv.pinned {pins:List (Addr×Obj)}{σ:St}{H:Hp}{s:Shared}{fp:List Addr} (I:Inv X pins σ H s) (hf:∀ b∈fp,FpOk X pins H b) (ho:∀ b∈fp,∃ o,s.heap.get? b=some o/\∀ v,o.data≠.cell v):Inv X (pins++i6 fp s.heap) σ H s :=
 I.pins_of fun p hp=>(List.mem_append.mp hp).elim (fun z=>I.pin p (List.mem_append_right _ z)) fun z=>by
  obtain ⟨hb,e⟩:=uh z;obtain ⟨f0,f1,f2,_⟩:=hf p.1 hb;obtain ⟨o,e',d⟩:=ho p.1 hb;rw [e] at e'; cases e';exact ⟨e,f0,f1,f2,d⟩
theorem Inv.unpinned {pins pl:List (Addr×Obj)}{σ:St}{H:Hp}{s:Shared} (I:Inv X (pins++pl) σ H s):Inv X pins σ H s:=I.pins_of fun p hp=>I.pin p (List.mem_append_right _ (List.mem_append_left _ hp))
theorem cq {iter:Expr}{body:List Stmt}{wi:TI}{g:TG}{tb:TS}{pos:Pos} (hp:PassesOwn (model X.prog X.w) X.A X.env X.xe) (hc:X.calm=true) (hi:PI X tg iter wi) (hg:PG X tg g) (hb:gI X body tb)
  (hs:∀ x,foldedSetIterable iter X.env x=pure x:=by intro _; rfl):PS X (.For tg iter body [] pos) (A8 wi g tb):=by
 intro pins s σ H D I h;refine wpAny_For (bz (hi pins s σ H _ I h) fun v s1 h1=>bz h1 fun itv s2 h2=>?_) hs;obtain ⟨it,fp,tn,J,H2,e,I2,T,st2,f2,W,⟨m0,w0⟩,turn⟩:=h2;subst e;have stat:∀ {H':Hp},(∀ b∈fp,H' b=none)->∀ b∈fp,FpOk X pins H' b:=fun hn b hb=>⟨hn b hb,(f2 b hb).2⟩;refine codeAny_forLoop_any (fun n s'=>∃ i σ' H',Inv X pins σ' H' s'/\tn i s'.heap/\(∀ b∈fp,H' b=none)/\W i n σ' H') ?_ m0 ⟨0,σ,H2,I2,st2,fun b hb=>(f2 b hb).1,w0⟩;rintro n s3 ⟨i,σ3,H3,I3,st3,fr3,w3⟩;rcases turn i n σ3 H3 w3 with ⟨stop,qn⟩ | ⟨go,N,hN,step⟩
 ·refine wpAny_passesOwn hp (bz (T.done X rfl rfl rfl hc i pins s3 σ3 H3 X.xe I3 (stat fr3) st3 stop) fun r s4 ⟨hr,I4⟩=>?_)
  subst hr;exact wpAny_execs_nil ⟨σ3,H3,I4,qn⟩
 ·refine wpAny_passesOwn hp (bz (T.item X rfl rfl rfl hc i pins s3 σ3 H3 X.xe I3 (stat fr3) st3 go) fun r s4 ⟨u,hr,h4⟩=>?_)
  subst hr;refine wpAny_passesOwn hp (bz h4 fun _ s5 ⟨x,H5,I5,r5,y5,st5,fr5⟩=>?_);have I5':=I5.pinned (stat fr5) (T.obj _ _ st5);refine wpAny_passesOwn hp (bz (hg _ s5 σ3 H5 x u _ I5' r5 (step x H5 y5)) fun _ s6 ⟨σ6,H6,I6,q6⟩=>?_);refine wpAny_passesOwn hp (bz (hb _ s6 σ6 H6 _ I6 q6) fun f s7 q7=>?_);have again:∀ {σ7:St}{H7:Hp},Inv X (pins++i6 fp s5.heap) σ7 H7 s7->N σ7 H7->∃ m,m < n/\∃ i σ' H',Inv X pins σ' H' s7/\tn i s7.heap/\(∀ b∈fp,H' b=none)/\W i m σ' H':=fun {σ7 H7} I7 n7=>by
   obtain ⟨m',hm,w7⟩:=hN σ7 H7 n7;refine ⟨m',hm,i+1,σ7,H7,I7.unpinned,T.keep _ _ _ st5 fun b hb o e=>(I7.pin (b,o) (List.mem_append_right _ (List.mem_append_right _ (fS hb e)))).1,fun b hb=>?_,w7⟩;obtain ⟨o,e,d⟩:=T.obj _ _ st5 b hb;exact (I7.pin (b,o) (List.mem_append_right _ (List.mem_append_right _ (fS hb e)))).2.1
  cases f with
  | next=>obtain ⟨σ7,H7,I7,n7⟩:=q7; exact again I7 n7
  | cont=>obtain ⟨σ7,H7,I7,n7⟩:=q7; exact again I7 n7
  | brk=>obtain ⟨σ7,H7,I7,q7⟩:=q7; exact ⟨σ7,H7,I7.unpinned,q7⟩
  | ret v=>obtain ⟨x7,σ7,H7,I7,r7,q7⟩:=q7; exact ⟨x7,σ7,H7,I7.unpinned,r7,q7⟩
end
theorem fD {K:Frag}{a:Addr}{xs:List V}{g:TG}{tb:TS}{D:Ends}{σ:St}{H:Hp} (Pv:Nat->St->Hp->Prop) (h0:Pv 0 σ H) (hl:∀ i σ H,i<=xs.length->Pv i σ H->a9 K H a xs)
  (hs:∀ i x σ H,xs[i]? = some x->Pv i σ H->g x σ H fun σ2 H2=>tb { D with nx:=Pv (i+1),ct:=Pv (i+1),bk:=D.nx } σ2 H2) (hd:∀ σ H,Pv xs.length σ H->D.nx σ H) :
  ∃ W:Nat->Nat->St->Hp->Prop,(∃ m,W 0 m σ H)/\∀ i m σ H,W i m σ H ->
   ((xJ K a).stop i H/\D.nx σ H)\/((xJ K a).go i H/\∃ N:St->Hp->Prop,(∀ σ' H',N σ' H'->∃ m',m' < m/\W (i+1) m' σ' H')/\∀ x H',(xJ K a).yld i H x H'->g x σ H' fun σ2 H2=>tb { D with nx:=N,ct:=N,bk:=D.nx } σ2 H2):=by
 refine ⟨fun i m σ H=>m=xs.length - i/\i<=xs.length/\Pv i σ H,⟨xs.length,by simp,Nat.zero_le _,h0⟩,?_⟩;rintro i m σ H ⟨rfl,hi,p⟩;have q:=hl i σ H hi p
 by_cases hlt:i < xs.length
 ·refine .inr ⟨⟨xs,xs[i],q,by simp [hlt]⟩,Pv (i+1),fun σ' H' p'=>⟨xs.length - (i+1),by omega,rfl,hlt,p'⟩,fun x H' y=>?_⟩
  obtain ⟨e,y⟩:=y;subst e;exact hs i x σ _ (y xs q) p
 ·have e:i=xs.length:=by omega
  subst e;exact .inl ⟨⟨xs,q,Nat.le_refl _⟩,hd σ H p⟩
theorem sX {K:Frag}{a:Addr}{xs:List V}{g:TG}{tb:TS}{D:Ends}{σ:St}{H:Hp} (Pv:Nat->St->Hp->Prop) (h0:Pv 0 σ H) (hl:∀ i σ H,i<=xs.length->Pv i σ H->bu K H a xs)
  (hs:∀ i x σ H,xs[i]? = some x->Pv i σ H->g x σ H fun σ2 H2=>tb { D with nx:=Pv (i+1),ct:=Pv (i+1),bk:=D.nx } σ2 H2) (hd:∀ σ H,Pv xs.length σ H->D.nx σ H) :
  ∃ W:Nat->Nat->St->Hp->Prop,(∃ m,W 0 m σ H)/\∀ i m σ H,W i m σ H ->
   ((zC K a).stop i H/\D.nx σ H)\/((zC K a).go i H/\∃ N:St->Hp->Prop,(∀ σ' H',N σ' H'->∃ m',m' < m/\W (i+1) m' σ' H')/\∀ x H',(zC K a).yld i H x H'->g x σ H' fun σ2 H2=>tb { D with nx:=N,ct:=N,bk:=D.nx } σ2 H2):=by
 refine ⟨fun i m σ H=>m=xs.length - i/\i<=xs.length/\Pv i σ H,⟨xs.length,by simp,Nat.zero_le _,h0⟩,?_⟩;rintro i m σ H ⟨rfl,hi,p⟩;have q:=hl i σ H hi p
 by_cases hlt:i < xs.length
 ·refine .inr ⟨⟨xs,xs[i],q,by simp [hlt]⟩,Pv (i+1),fun σ' H' p'=>⟨xs.length - (i+1),by omega,rfl,hlt,p'⟩,fun x H' y=>?_⟩
  obtain ⟨e,y⟩:=y;subst e;exact hs i x σ _ (y xs q) p
 ·have e:i=xs.length:=by omega
  subst e;exact .inl ⟨⟨xs,q,Nat.le_refl _⟩,hd σ H p⟩
theorem cU {lo:Int}{n:Nat}{g:TG}{tb:TS}{D:Ends}{σ:St}{H:Hp} (Pv:Nat->St->Hp->Prop) (h0:Pv 0 σ H)
  (hs:∀ i σ H,i < n->Pv i σ H->g (.int (lo+i)) σ H fun σ2 H2=>tb { D with nx:=Pv (i+1),ct:=Pv (i+1),bk:=D.nx } σ2 H2) (hd:∀ σ H,Pv n σ H->D.nx σ H) :
  ∃ W:Nat->Nat->St->Hp->Prop,(∃ m,W 0 m σ H)/\∀ i m σ H,W i m σ H ->
   ((wM lo n).stop i H/\D.nx σ H)\/((wM lo n).go i H/\∃ N:St->Hp->Prop,(∀ σ' H',N σ' H'->∃ m',m' < m/\W (i+1) m' σ' H')/\∀ x H',(wM lo n).yld i H x H'->g x σ H' fun σ2 H2=>tb { D with nx:=N,ct:=N,bk:=D.nx } σ2 H2):=by
 refine ⟨fun i m σ H=>m=n - i/\i<=n/\Pv i σ H,⟨n,by simp,Nat.zero_le _,h0⟩,?_⟩;rintro i m σ H ⟨rfl,hi,p⟩
 by_cases hlt:i < n
 ·refine .inr ⟨hlt,Pv (i+1),fun σ' H' p'=>⟨n - (i+1),by omega,rfl,hlt,p'⟩,fun x H' y=>?_⟩
  obtain ⟨e,y⟩:=y;subst e y;exact hs i σ _ hlt p
 ·have e:i=n:=by omega
  subst e;exact .inl ⟨Nat.le_refl _,hd σ H p⟩
abbrev R2:=V->V->Hp->VK->Prop
noncomputable def eU (X:Cx) (f:Value->Value->Sem Value) (r:R2):Prop :=
 ∀ (pins:List (Addr×Obj)) (s:Shared) (σ:St) (H:Hp) (x y:V) (v u:Value) (Q:VK),Inv X pins σ H s->RelV x v->RelV y u->r x y H Q ->
  wpAny (model X.prog X.w) X.A (f v u) (EP X pins σ Q) X.xe s
noncomputable def AI (X:Cx) (f:Value->Sem Value) (r:V->Hp->VK->Prop):Prop :=
 ∀ (pins:List (Addr×Obj)) (s:Shared) (σ:St) (H:Hp) (x:V) (v:Value) (Q:VK),Inv X pins σ H s->RelV x v->r x H Q ->
  wpAny (model X.prog X.w) X.A (f v) (EP X pins σ Q) X.xe s
noncomputable def cE (X:Cx) (f:Value) (r:List V->Hp->VK->Prop):Prop :=
 ∀ (pins:List (Addr×Obj)) (s:Shared) (σ:St) (H:Hp) (xs:List V) (us:List Value) (Q:VK),Inv X pins σ H s->aU xs us->r xs H Q ->
  wpAny (model X.prog X.w) X.A (call f us) (EP X pins σ Q) X.xe s
noncomputable def wF (r:R2) (ta tb:TE):TE:=fun σ H Q=>ta σ H fun x H1=>tb σ H1 fun y H2=>r x y H2 Q
noncomputable def BG (r:V->Hp->VK->Prop) (ta:TE):TE:=fun σ H Q=>ta σ H fun x H1=>r x H1 Q
noncomputable def rI (C:Int->Int->Prop) (g:Int->Int->V):R2:=fun x y H Q=>∃ i j,x=.int i/\y=.int j/\C i j/\Q (g i j) H
noncomputable def wJ (g:Int->Int->V):R2:=fun x y H Q=>∃ i j,x=.int i/\y=.int j/\Q (g i j) H
noncomputable def rU (g:Int->V):V->Hp->VK->Prop:=fun x H Q=>∃ i,x=.int i/\Q (g i) H
section
variable {X:Cx}{a b c:Expr}{ta tb tc:TE}{pos:Pos}
theorem yn (ha:PE X a ta) (hb:PE X b tb) {pins:List (Addr×Obj)}{s:Shared}{σ:St}{H:Hp}{R:V->V->Hp->Prop} (I:Inv X pins σ H s)
  (h:ta σ H fun x H1=>tb σ H1 fun y H2=>R x y H2) {Q:Value->Shared->Prop}{f:Value->Value->Sem Value}
  (hf:∀ v u s2 x y H2,Inv X pins σ H2 s2->RelV x v->RelV y u->R x y H2->wpAny (model X.prog X.w) X.A (f v u) Q X.xe s2) :
  wpAny (model X.prog X.w) X.A (eval a X.env) (fun v s₁=>wpAny (model X.prog X.w) X.A (eval b X.env) (fun u s₂=>wpAny (model X.prog X.w) X.A (f v u) Q X.xe s₂) X.xe s₁) X.xe s:=by
 refine bz (ha pins s σ H _ I h) fun v s1 ⟨x,H1,I1,r1,q1⟩=>?_;refine bz (hb pins s1 σ H1 _ I1 q1) fun u s2 ⟨y,H2,I2,r2,q2⟩=>?_;exact hf v u s2 x y H2 I2 r1 r2 q2
theorem aE {op:Operator}{r:R2} (ho:eU X (binaryOp op) r) (ha:PE X a ta) (hb:PE X b tb):PE X (.BinOp a op b pos) (wF r ta tb):=by
 intro pins s σ H Q I h;exact wpAny_BinOp (yn ha hb I h fun v u s2 x y H2 I2 rx ry q=>ho pins s2 σ H2 x y v u Q I2 rx ry q)
theorem kJ {op:UnaryOp}{r:V->Hp->VK->Prop} (ho:AI X (unaryOp op) r) (ha:PE X a ta):PE X (.UnaryOp op a pos) (BG r ta):=by
 intro pins s σ H Q I h;exact UnaryOp_ (bz (ha pins s σ H _ I h) fun v s1 ⟨x,H1,I1,r1,q1⟩=>ho pins s1 σ H1 x v Q I1 r1 q1)
theorem AS {f:Value->Value->Sem Value}{C:Int->Int->Prop}{g:Int->Int->Int}
  (rule:∀ (i j:Int) (t u:Tok) (s:Shared) (Q:Value->Shared->Prop) (E:Value->Shared->Prop),C i j->Q (.int (g i j) s.toks) { s with toks:=s.toks+1 }->wpAny (model X.prog X.w) X.A (f (.int i t) (.int j u)) Q E s) :
  eU X f (rI C fun i j=>.int (g i j)):=by
 intro pins s σ H x y v u Q I rx ry h;obtain ⟨i,j,rfl,rfl,hc,q⟩:=h;obtain ⟨t,rfl⟩:=rx;obtain ⟨t',rfl⟩:=ry;exact rule i j t t' s _ _ hc ⟨.int (g i j),H,I.tok _,⟨_,rfl⟩,q⟩
theorem zK {f:Value->Value->Sem Value}{g:Int->Int->Int}
  (rule:∀ (i j:Int) (t u:Tok) (s:Shared) (Q:Value->Shared->Prop) (E:Value->Shared->Prop),Q (.int (g i j) s.toks) { s with toks:=s.toks+1 }->wpAny (model X.prog X.w) X.A (f (.int i t) (.int j u)) Q E s) :
  eU X f (wJ fun i j=>.int (g i j)):=by
 intro pins s σ H x y v u Q I rx ry h;obtain ⟨i,j,rfl,rfl,q⟩:=h;obtain ⟨t,rfl⟩:=rx;obtain ⟨t',rfl⟩:=ry;exact rule i j t t' s _ _ ⟨.int (g i j),H,I.tok _,⟨_,rfl⟩,q⟩
theorem wQ {f:Value->Value->Sem Value}{g:Int->Int->Bool}
  (rule:∀ (i j:Int) (t u:Tok) (s:Shared) (Q:Value->Shared->Prop) (E:Value->Shared->Prop),Q (.bool (g i j)) s->wpAny (model X.prog X.w) X.A (f (.int i t) (.int j u)) Q E s) :
  eU X f (wJ fun i j=>.bl (g i j)):=by
 intro pins s σ H x y v u Q I rx ry h;obtain ⟨i,j,rfl,rfl,q⟩:=h;obtain ⟨t,rfl⟩:=rx;obtain ⟨t',rfl⟩:=ry;exact rule i j t t' s _ _ ⟨.bl (g i j),H,I,rfl,q⟩
noncomputable def zY (i j:Int):Prop:=0 < j/\j < 1073741824
noncomputable def uQ (i j:Int):Prop:=(-(2 ^ 64) < i/\i < 2 ^ 64)\/(-(2 ^ 64) < j/\j < 2 ^ 64)
theorem uQ.ok {i j:Int} (h:uQ i j):IntMulOk i j:=by
 rcases h with ⟨h1,h2⟩ | ⟨h1,h2⟩
 ·exact .of_left (intBits_le_64 h1 h2)
 ·exact .of_right (intBits_le_64 h1 h2)
theorem yW:eU X (binaryOp .Add) (wJ fun i j=>.int (i+j)):=zK fun _ _ _ _ _ _ _ q=>add_int q
theorem yQ:eU X (binaryOp .Sub) (wJ fun i j=>.int (i - j)):=zK fun _ _ _ _ _ _ _ q=>sub_int q
theorem yS:eU X (binaryOp .Mult) (rI uQ fun i j=>.int (i * j)):=AS fun _ _ _ _ _ _ _ hc q=>mul_int q hc.ok
theorem xh:eU X (binaryOp .FloorDiv) (rI zY fun i j=>.int (i / j)):=AS fun i j _ _ _ _ _ hc q=>by
 have h1:(0:Int) < j:=hc.1;have h2:j < 1073741824:=hc.2;exact floordiv_int (by omega) (by rw [Int.fdiv_eq_ediv_of_nonneg i (by omega)]; exact q) (.inl (PyProof.noPylong_small (by omega)))
theorem yT:eU X (binaryOp .Mod) (rI (fun _ j=>0 < j) fun i j=>.int (i % j)):=AS fun i j _ _ _ _ _ hc q=>by
 have h1:(0:Int) < j:=hc;exact mod_int' (by omega) (by rw [Int.fmod_eq_emod_of_nonneg i (by omega)]; exact q)
theorem BF {f:Value->Sem Value}{g:Int->Int}
  (rule:∀ (i:Int) (t:Tok) (s:Shared) (Q:Value->Shared->Prop) (E:Value->Shared->Prop),Q (.int (g i) s.toks) { s with toks:=s.toks+1 }->wpAny (model X.prog X.w) X.A (f (.int i t)) Q E s) :
  AI X f (rU fun i=>.int (g i)):=by
 intro pins s σ H x v Q I rx h;obtain ⟨i,rfl,q⟩:=h;obtain ⟨t,rfl⟩:=rx;exact rule i t s _ _ ⟨.int (g i),H,I.tok _,⟨_,rfl⟩,q⟩
theorem yr:AI X (unaryOp .USub) (rU fun i=>.int (-i)):=BF fun _ _ _ _ _ q=>neg_int q
end
noncomputable def scal:V->V->Bool
 | .non,.non=>true | .non,.int _=>true | .int _,.non=>true | .non,.bl _=>true | .bl _,.non=>true | .non,.str _=>true | .str _,.non=>true
 | .int _,.int _=>true | .bl _,.bl _=>true | .str _,.str _=>true | .byt _,.byt _=>true
 | .int _,.str _=>true | .str _,.int _=>true | .bl _,.str _=>true | .str _,.bl _=>true
 | _,_=>false
noncomputable def BJ:R2:=fun x y H Q=>scal x y=true/\Q (.bl (decide (x=y))) H
noncomputable def BI:R2:=fun x y H Q=>scal x y=true/\Q (.bl (!decide (x=y))) H
theorem oj {i j:Int}:decide (V.int i=V.int j)=(i==j):=by
 rw [Bool.eq_iff_iff];simp
theorem qQ {i j:Bool}:decide (V.bl i=V.bl j)=(i==j):=by
 rw [Bool.eq_iff_iff];simp
theorem oi {i j:Str}:decide (V.str i=V.str j)=(i==j):=by
 rw [Bool.eq_iff_iff];simp
theorem tf {i j:Array UInt8}:decide (V.byt i=V.byt j)=(i.toList==j.toList):=by
 rw [Bool.eq_iff_iff];cases i;cases j;simp
section
variable {X:Cx}{a b c:Expr}{ta tb tc:TE}{pos:Pos}
theorem aZ {pins:List (Addr×Obj)}{σ:St}{H:Hp}{s:Shared}{Q:VK}{k k':Bool} (I:Inv X pins σ H s) (q:Q (.bl k) H) (e:k=k'):EP X pins σ Q (.bool k') s:=by
 subst e;exact ⟨.bl k,H,I,rfl,q⟩
theorem Au:eU X (compareOp .Eq) BJ:=by
 intro pins s σ H x y v u Q I rx ry h;obtain ⟨hs,q⟩:=h;cases x with
 | non =>
  cases rx;cases y with
  | non=>cases ry; exact PySem.EqNone.eq_none_none (aZ I q (by simp))
  | bl j=>cases ry; exact PySem.EqNone.eq_none_bool (aZ I q (by simp))
  | int j=>obtain ⟨t',rfl⟩:=ry; exact PySem.EqNone.eq_none_int (aZ I q (by simp))
  | str j=>obtain ⟨t',rfl⟩:=ry; exact PySem.EqNone.eq_none_str (aZ I q (by simp))
  | _=>exact absurd (show false=true from hs) Bool.false_ne_true
 | bl i =>
  cases rx;cases y with
  | non=>cases ry; exact PySem.EqNone.eq_bool_none (aZ I q (by simp))
  | bl j=>cases ry; exact eq_bool (aZ I q qQ)
  | str j=>obtain ⟨t',rfl⟩:=ry; exact PySem.EqMixed.eq_bool_str (aZ I q (by simp))
  | _=>exact absurd (show false=true from hs) Bool.false_ne_true
 | int i =>
  obtain ⟨t,rfl⟩:=rx;cases y with
  | non=>cases ry; exact PySem.EqNone.eq_int_none (aZ I q (by simp))
  | int j=>obtain ⟨t',rfl⟩:=ry; exact eq_int (aZ I q oj)
  | str j=>obtain ⟨t',rfl⟩:=ry; exact PySem.EqMixed.eq_int_str (aZ I q (by simp))
  | _=>exact absurd (show false=true from hs) Bool.false_ne_true
 | str i =>
  obtain ⟨t,rfl⟩:=rx;cases y with
  | non=>cases ry; exact PySem.EqNone.eq_str_none (aZ I q (by simp))
  | bl j=>cases ry; exact PySem.EqMixed.eq_str_bool (aZ I q (by simp))
  | int j=>obtain ⟨t',rfl⟩:=ry; exact PySem.EqMixed.eq_str_int (aZ I q (by simp))
  | str j=>obtain ⟨t',rfl⟩:=ry; exact eq_str (aZ I q oi)
  | _=>exact absurd (show false=true from hs) Bool.false_ne_true
 | byt i =>
  obtain ⟨t,rfl⟩:=rx;cases y with
  | byt j=>obtain ⟨t',rfl⟩:=ry; exact PySem.W.eq_bytes (aZ I q tf)
  | _=>exact absurd (show false=true from hs) Bool.false_ne_true
 | _=>cases y<;>exact absurd (show false=true from hs) Bool.false_ne_true
theorem Ao:eU X (compareOp .NotEq) BI:=by
 intro pins s σ H x y v u Q I rx ry h;obtain ⟨hs,q⟩:=h;cases x with
 | non =>
  cases rx;cases y with
  | non=>cases ry; exact PySem.EqNone.ne_none_none (aZ I q (by simp))
  | bl j=>cases ry; exact PySem.EqNone.ne_none_bool (aZ I q (by simp))
  | int j=>obtain ⟨t',rfl⟩:=ry; exact PySem.EqNone.ne_none_int (aZ I q (by simp))
  | str j=>obtain ⟨t',rfl⟩:=ry; exact PySem.EqNone.ne_none_str (aZ I q (by simp))
  | _=>exact absurd (show false=true from hs) Bool.false_ne_true
 | bl i =>
  cases rx;cases y with
  | non=>cases ry; exact PySem.EqNone.ne_bool_none (aZ I q (by simp))
  | bl j=>cases ry; exact ne_bool (aZ I q (congrArg not qQ))
  | str j=>obtain ⟨t',rfl⟩:=ry; exact PySem.EqMixed.ne_bool_str (aZ I q (by simp))
  | _=>exact absurd (show false=true from hs) Bool.false_ne_true
 | int i =>
  obtain ⟨t,rfl⟩:=rx;cases y with
  | non=>cases ry; exact PySem.EqNone.ne_int_none (aZ I q (by simp))
  | int j=>obtain ⟨t',rfl⟩:=ry; exact ne_int (aZ I q (congrArg not oj))
  | str j=>obtain ⟨t',rfl⟩:=ry; exact PySem.EqMixed.ne_int_str (aZ I q (by simp))
  | _=>exact absurd (show false=true from hs) Bool.false_ne_true
 | str i =>
  obtain ⟨t,rfl⟩:=rx;cases y with
  | non=>cases ry; exact PySem.EqNone.ne_str_none (aZ I q (by simp))
  | bl j=>cases ry; exact PySem.EqMixed.ne_str_bool (aZ I q (by simp))
  | int j=>obtain ⟨t',rfl⟩:=ry; exact PySem.EqMixed.ne_str_int (aZ I q (by simp))
  | str j=>obtain ⟨t',rfl⟩:=ry; exact ne_str (aZ I q (congrArg not oi))
  | _=>exact absurd (show false=true from hs) Bool.false_ne_true
 | byt i =>
  obtain ⟨t,rfl⟩:=rx;cases y with
  | byt j=>obtain ⟨t',rfl⟩:=ry; exact PySem.W.ne_bytes (aZ I q (congrArg not tf))
  | _=>exact absurd (show false=true from hs) Bool.false_ne_true
 | _=>cases y<;>exact absurd (show false=true from hs) Bool.false_ne_true
theorem Ap:eU X (compareOp .Lt) (wJ fun i j=>.bl (decide (i < j))):=wQ fun _ _ _ _ _ _ _ q=>lt_int q
theorem Aq:eU X (compareOp .LtE) (wJ fun i j=>.bl (decide (i<=j))):=wQ fun _ _ _ _ _ _ _ q=>le_int q
theorem As:eU X (compareOp .Gt) (wJ fun i j=>.bl (decide (j < i))):=wQ fun _ _ _ _ _ _ _ q=>gt_int q
theorem At:eU X (compareOp .GtE) (wJ fun i j=>.bl (decide (j<=i))):=wQ fun _ _ _ _ _ _ _ q=>ge_int q
theorem g8:eU X (compareOp .Is) (fun x y H Q=>y=.non/\Q (.bl (decide (x=.non))) H):=by
 intro pins s σ H x y v u Q I rx ry h;obtain ⟨rfl,q⟩:=h;cases ry;refine is_none_gen (aZ I q ?_);cases x<;>first
  | (cases rx; rfl)
  | (obtain ⟨t,rfl⟩:=rx; rfl)
theorem aK (b:Expr) {op:CmpOp} (h:op≠.In:=by decide) (h2:op≠.NotIn:=by decide):behindInMarks op b=false:=by
 have e1:(op==CmpOp.In)=false:=by cases op<;>first | rfl | exact absurd rfl h
 have e2:(op==CmpOp.NotIn)=false:=by cases op<;>first | rfl | exact absurd rfl h2
 cases b<;>simp [behindInMarks,e1,e2]
theorem cF {op:CmpOp}{r:R2} (ho:eU X (compareOp op) r) (ha:PE X a ta) (hb:PE X b tb) (hm:behindInMarks op b=false):PE X (.Compare a [op] [b] pos) (wF r ta tb):=by
 intro pins s σ H Q I h;exact wpAny_Compare1 (yn ha hb I h fun v u s2 x y H2 I2 rx ry q=>ho pins s2 σ H2 x y v u Q I2 rx ry q) hm
noncomputable def jD (t:TE):TT:=fun σ H Q=>t σ H fun x H'=>∃ k,x=.bl k/\Q k H'
theorem aF {op:CmpOp}{r:R2} (ho:eU X (compareOp op) r) (ha:PE X a ta) (hb:PE X b tb) (hm:behindInMarks op b=false):PT X (.Compare a [op] [b] pos) (jD (wF r ta tb)):=by
 intro pins s σ H Q I h;refine wpAny_isTrue_Compare1 (bz (ha pins s σ H _ I h) fun v s1 ⟨x,H1,I1,r1,q1⟩=>bz (hb pins s1 σ H1 _ I1 q1) fun u s2 ⟨y,H2,I2,r2,q2⟩ =>
  bz (ho pins s2 σ H2 x y v u _ I2 r1 r2 q2) fun c s3 ⟨z,H3,I3,r3,k,e,q3⟩=>?_) hm
 subst e;cases r3;exact wpAny_truthy_bool ⟨H3,I3,q3⟩
noncomputable def yC (r r':R2) (ta tb tc:TE):TE:=fun σ H Q=>ta σ H fun x H1=>tb σ H1 fun y H2=>r x y H2 fun z H3=>∃ k,z=.bl k /\
 (if k=true then tc σ H3 fun w' H4=>r' y w' H4 Q else Q (.bl false) H3)
theorem vT {op op':CmpOp}{r r':R2} (ho:eU X (compareOp op) r) (ho':eU X (compareOp op') r') (ha:PE X a ta) (hb:PE X b tb) (hc:PE X c tc)
  (hm:lastMarks [op,op'] [b,c]=false:=by with_unfolding_all rfl):PT X (.Compare a [op,op'] [b,c] pos) (jD (yC r r' ta tb tc)):=by
 intro pins s σ H Q I h;refine isTrue_chain (bz (ha pins s σ H _ I h) fun v s1 ⟨x,H1,I1,r1,q1⟩=>test_link (bz (hb pins s1 σ H1 _ I1 q1) fun u s2 ⟨y,H2,I2,r2,q2⟩ =>
  bz (ho pins s2 σ H2 x y v u _ I2 r1 r2 q2) fun d s3 ⟨z,H3,I3,r3,k,e,q3⟩=>?_)) hm
 subst e;cases r3;refine wpAny_truthy_bool ?_;cases k with
 | false =>
  obtain ⟨k',e',q'⟩:=q3;cases e';exact ite_ff ⟨H3,I3,q'⟩
 | true =>
  refine ite_tt (test_last (bz (hc pins s3 σ H3 _ I3 q3) fun w' s4 ⟨z',H4,I4,r4,q4⟩=>bz (ho' pins s4 σ H4 y z' u w' _ I4 r2 r4 q4) fun d' s5 ⟨z2,H5,I5,r5,k2,e2,q5⟩=>?_));subst e2;cases r5;exact wpAny_truthy_bool ⟨H5,I5,q5⟩
theorem i9:(sizeLine:Nat) < 2 ^ 63:=by rw [sizeLine_eq]; decide
theorem rc:eU X (binaryOp .Add) (fun x y H Q=>∃ i j,x=.str i/\y=.str j/\i.length+j.length<=sizeLine/\Q (.str (i++j)) H):=by
 intro pins s σ H x y v u Q I rx ry h;obtain ⟨i,j,rfl,rfl,hz,q⟩:=h;obtain ⟨t,rfl⟩:=rx;obtain ⟨t',rfl⟩:=ry;exact add_str (fun t' tk=>⟨.str (i++j),H,I.tok _,⟨_,rfl⟩,q⟩) hz
theorem fY {x:V}{us:List Value} (r:aU [x] us):∃ u,us=[u]/\RelV x u:=by
 cases r with
 | cons r1 r2=>cases r2; exact ⟨_,rfl,r1⟩
theorem xM {x y:V}{us:List Value} (r:aU [x,y] us):∃ u w',us=[u,w']/\RelV x u/\RelV y w':=by
 cases r with
 | cons r1 r2 =>
  cases r2 with
  | cons r3 r4=>cases r4; exact ⟨_,_,rfl,r1,r3⟩
theorem uG (hc:X.calm=true):cE X (.builtin "max") (fun xs H Q=>∃ i j,xs=[.int i,.int j]/\Q (.int (if j > i then j else i)) H):=by
 intro pins s σ H xs us Q I r h;obtain ⟨i,j,rfl,q⟩:=h;obtain ⟨u,w',rfl,⟨t,rfl⟩,⟨t',rfl⟩⟩:=xM r;refine max_two_ints (I.ok.hd hc) fun h' tk k=>⟨_,H,I.kept k,?_,q⟩
 by_cases hj:j > i
 ·rw [if_pos hj,if_pos hj]; exact ⟨_,rfl⟩
 ·rw [if_neg hj,if_neg hj]; exact ⟨_,rfl⟩
theorem uF (hc:X.calm=true):cE X (.builtin "min") (fun xs H Q=>∃ i j,xs=[.int i,.int j]/\Q (.int (if j < i then j else i)) H):=by
 intro pins s σ H xs us Q I r h;obtain ⟨i,j,rfl,q⟩:=h;obtain ⟨u,w',rfl,⟨t,rfl⟩,⟨t',rfl⟩⟩:=xM r;refine min_two_ints (I.ok.hd hc) fun h' tk k=>⟨_,H,I.kept k,?_,q⟩
 by_cases hj:j < i
 ·rw [if_pos hj,if_pos hj]; exact ⟨_,rfl⟩
 ·rw [if_neg hj,if_neg hj]; exact ⟨_,rfl⟩
theorem m_:cE X (.type "int") (fun xs H Q=>(∃ i,xs=[.int i]/\Q (.int i) H)\/∃ k,xs=[.bl k]/\Q (.int (if k then 1 else 0)) H):=by
 intro pins s σ H xs us Q I r h;rcases h with ⟨i,rfl,q⟩ | ⟨k,rfl,q⟩
 ·obtain ⟨u,rfl,t,rfl⟩:=fY r
  exact call_int_int ⟨.int i,H,I,⟨_,rfl⟩,q⟩
 ·obtain ⟨u,rfl,r1⟩:=fY r
  cases r1;exact call_int_bool ⟨.int (if k then 1 else 0),H,I.tok _,⟨_,rfl⟩,q⟩
end
structure ObjM (h:Heap) (x dx C:Addr) (mA:Str->Option Value):Prop where
 obj:h.get? x=some (PySem.W.instObj C dx)
 ns:h.Ns1 dx mA
 ne:dx≠x
theorem ul {h:Heap}{dx:Addr}{mA:Str->Option Value} (n:h.Ns1 dx mA):∃ od,h.get? dx=some od/\∀ name,PySem.W.lookIn name od=some (mA name):=by
 obtain ⟨o,es,ep,ho,hd,hk,_,hm⟩:=n;refine ⟨o,ho,fun name=>?_⟩;have e:=hm name;unfold nsFind findBy at e;rw [<- Array.find?_toList] at e;unfold PySem.W.lookIn;rw [hd];dsimp only;split
 ·rename_i y q
  rw [q] at e;exact congrArg some e
 ·rename_i q
  rw [q] at e;have a:es.toList.any (·.refKey)=false:=by
   rw [List.any_eq_false];intro y hy;obtain ⟨z,t,hkey⟩:=hk y (Array.mem_toList_iff.mp hy);simp [DictEntry.refKey,hkey]
  have a':¬ es.toList.any (·.refKey)=true:=by rw [a]; exact Bool.false_ne_true
  rw [if_neg a'];exact congrArg some e
theorem ObjM.look {h:Heap}{x dx C:Addr}{mA:Str->Option Value} (I:ObjM h x dx C mA):∃ od,PySem.W.InstAt h x (PySem.W.instObj C dx) C (some od)/\∀ name,PySem.W.lookIn name od=some (mA name) :=
 let ⟨od,ho,hl⟩:=ul I.ns
 ⟨od,⟨I.obj,rfl,rfl,ho⟩,hl⟩
section
variable {prog:Program}{w:World}{A:Around}{E:Value->Shared->Prop}{s:Shared}{K:Frag}{x dx C f:Addr}{mA:Str->Option Value}{name:Str}{v:Value}
theorem xy {expr:Bool}{Q:Value->Shared->Prop} (X:K.In s.heap) (I:ObjM s.heap x dx C mA) (hg:PySem.W.plainGet K C name=true) (hh:PySem.W.hasDictIn K C=true)
  (ha:PySem.W.findIn K (.ref C) name=some none) (hv:mA name=some v) (hv':PySem.W.handedIn v=true) (h:Q v { s with toks:=s.toks+1 }) :
  wpAny (model prog w) A (getAttr (.ref x) name expr) Q E s:=by
 obtain ⟨od,J,hl⟩:=I.look;exact PySem.W.get_value X J (PySem.W.plainGet_of hg).1 (PySem.W.findObj_own hh ha rfl (by rw [hl,hv])) hv' h
theorem wn {pl:Sem Bool}{Q:Value×List Value->Shared->Prop} (X:K.In s.heap) (I:ObjM s.heap x dx C mA) (hg:PySem.W.plainGet K C name=true)
  (hf:PySem.W.findIn K (.ref C) name=some (some (.ref f))) (ht:PySem.W.isFn K (.ref f)=true) (hv:mA name=none) (h:Q (.ref f,[.ref x]) s) :
  wpAny (model prog w) A (getMethod (.ref x) name pl) Q E s:=by
 obtain ⟨od,J,hl⟩:=I.look;exact PySem.W.method_fn X J (PySem.W.plainGet_of hg).1 (PySem.W.plainGet_of hg).2 hf (beq_iff_eq.mp ht) (by show (PySem.W.lookIn name od).map (·.isSome)=some false; rw [hl,hv]; rfl) h
theorem wZ {ns:List Str}{Q:Unit->Shared->Prop} (X:K.In s.heap) (I:ObjM s.heap x dx C mA)
  (hs:PySem.W.findIn K (.ref C) "__setattr__" = some (some (.builtin "object.__setattr__"))) (hp:PySem.W.plainOver K C=true) (ht:PySem.W.takerIn K C name=some none) (hh:PySem.W.hasDictIn K C=true)
  (hw:PySem.Within mA ns) (hsz:ns.length<=sizeLine)
  (h:∀ h',ObjM h' x dx C (fun y=>if y=name then some v else mA y)->Heap.SameBut dx s.heap h'->Q () { s with heap:=h',toks:=s.toks+2 }) :
  wpAny (model prog w) A (setAttr (.ref x) name v) Q E s:=by
 obtain ⟨od,J,hl⟩:=I.look;refine PySem.W.set_plain X J hs (PySem.W.osa_open (s:={ s with toks:=s.toks+1 }) (r:=none) X J hp ht fun b=>?_);obtain ⟨cd,hc,hd'⟩:=PySem.W.any_some hh;have hx:s.heap.get? x=some ⟨.ref C,some dx,.plain,#[]⟩:=I.obj;refine wpAny_bind (wpAny_pure (wpAny_bind (wpAny_bind (wpAny_loadPart hx (wpAny_bind (PySem.W.Looks.here (s:={ s with toks:=s.toks+1 }) (PySem.W.looks_clsIn X hc) ?_))))));rw [hd'];refine wpAny_pure (a:=some dx) (wpAny_bind (wpAny_pure (wpAny_bind ?_)));refine wpAny_nsSet1 (s:={ s with toks:=s.toks+1 }) I.ns fun h' hn2 hs2=>?_;obtain ⟨oD,esD,epD,hoD,hdD,hcD⟩:=hn2.count (PySem.Within.cons name v hw);refine wpAny_bind (wpAny_lookBehind hoD (by rw [hdD]; exact pastItsLine_dict (Nat.le_trans hcD (by rw [List.length_cons]; omega))) ?_);exact wpAny_pure (h _ ⟨(hs2.2 _ (Ne.symm I.ne)).trans I.obj,hn2,I.ne⟩ hs2)
theorem v_ {R:Result->Shared->Prop}{vs:List Value}{kw:List (Str×Value)} (X:K.In s.heap) (hm:PySem.W.makesIn K C=true)
  (hi:PySem.W.findIn K (.ref C) "__init__" = some (some (.ref f))) (hf:PySem.W.typeIn K (.ref f)=some (.type "function"))
  (h:codeAny (model prog w) (A.under (.builtin "type.__call__" ⟨.ref C :: vs,kw⟩)) (.call (.ref f) ⟨.ref (s.heap.objs.size+1) :: vs,kw⟩) (PySem.W.InitBack (s.heap.objs.size+1) R)
   { s with heap:=(s.heap.push PySem.W.emptyDict).push (PySem.W.instObj C s.heap.objs.size) }) :
  codeAny (model prog w) A (.call (.ref C) ⟨vs,kw⟩) R s:=by
 obtain ⟨hh,g,d,t,os⟩:=s;exact PySem.W.make_core (PySem.W.makes_of X hm) (PySem.W.looks_findIn X hi) (fun self=>PySem.W.bind_fn X self hf) (.inl rfl) h
end
noncomputable def b6 (f:Str) (v:V):List (Str×V)->List (Str×V)
 | []=>[(f,v)]
 | (g,x) :: r=>if g=f then (g,v) :: r else (g,x) :: b6 f v r
theorem jN (f g:Str) (v:V):∀ fs:List (Str×V),(b6 f v fs).lookup g=if g=f then some v else fs.lookup g
 | []=>by
  show List.lookup g [(f,v)]=_
  by_cases h:g=f
  ·have hb:(g==f)=true:=beq_iff_eq.mpr h
   simp only [List.lookup,hb,if_pos h]
  ·have hb:(g==f)=false:=beq_eq_false_iff_ne.mpr h
   simp only [List.lookup,hb,if_neg h]
 | (k,x) :: r=>by
  have ih:=jN f g v r;rw [show b6 f v ((k,x) :: r)=(if k=f then (k,v) :: r else (k,x) :: b6 f v r) from rfl]
  by_cases hk:k=f
  ·rw [if_pos hk]
   by_cases h:g=k
   ·have hb:(g==k)=true:=beq_iff_eq.mpr h
    simp only [List.lookup,hb,if_pos (h.trans hk)]
   ·have hb:(g==k)=false:=beq_eq_false_iff_ne.mpr h
    simp only [List.lookup,hb,if_neg (fun e:g=f=>h (e.trans hk.symm))]
  ·rw [if_neg hk]
   by_cases h:g=k
   ·have hb:(g==k)=true:=beq_iff_eq.mpr h
    simp only [List.lookup,hb,if_neg (fun e:g=f=>hk (h.symm.trans e))]
   ·have hb:(g==k)=false:=beq_eq_false_iff_ne.mpr h
    simp only [List.lookup,hb];exact ih
theorem jm (f:Str) (v:V):∀ fs:List (Str×V),f∈(b6 f v fs).map (·.1)/\∀ g,g∈fs.map (·.1)->g∈(b6 f v fs).map (·.1)
 | []=>⟨by simp [b6],fun g h=>by simp at h⟩
 | (k,x) :: r=>by
  obtain ⟨i1,i2⟩:=jm f v r;rw [show b6 f v ((k,x) :: r)=(if k=f then (k,v) :: r else (k,x) :: b6 f v r) from rfl]
  by_cases hk:k=f
  ·rw [if_pos hk]
   subst hk;exact ⟨by simp,fun g h=>by simpa using h⟩
  ·rw [if_neg hk]
   refine ⟨?_,fun g h=>?_⟩
   ·rw [List.map_cons]
    exact List.mem_cons_of_mem _ i1
   ·rw [List.map_cons] at h ⊢
    rcases List.mem_cons.mp h with e | e
    ·exact List.mem_cons.mpr (.inl e)
    ·exact List.mem_cons_of_mem _ (i2 g e)
theorem jO (f:Str) (v:V):∀ fs:List (Str×V),(b6 f v fs).length<=fs.length+1
 | []=>by simp [b6]
 | (k,x) :: r=>by
  have ih:=jO f v r;rw [show b6 f v ((k,x) :: r)=(if k=f then (k,v) :: r else (k,x) :: b6 f v r) from rfl]
  by_cases hk:k=f
  ·rw [if_pos hk,List.length_cons,List.length_cons]; omega
  ·rw [if_neg hk,List.length_cons,List.length_cons]; omega
theorem fz.some_of {v:V}{o:Option Value} (r:fz (some v) o):∃ u,o=some u/\RelV v u:=by
 cases o with
 | none=>exact (show False from r).elim
 | some u=>exact ⟨u,rfl,r⟩
theorem fz.none_of {o:Option Value} (r:fz none o):o=none:=by
 cases o with
 | none=>rfl
 | some u=>exact (show False from r).elim
theorem uu {v:V}{u:Value} (r:RelV v u):PySem.W.handedIn u=true:=by
 cases v with
 | non=>cases (show u=Value.none from r); rfl
 | bl b=>cases (show u=Value.bool b from r); rfl
 | int i=>obtain ⟨t,e⟩:=(show ∃ t,u=Value.int i t from r); cases e; rfl
 | str x=>obtain ⟨t,e⟩:=(show ∃ t,u=Value.str x t from r); cases e; rfl
 | byt b=>obtain ⟨t,e⟩:=(show ∃ t,u=Value.bytes b t from r); cases e; rfl
 | flt b=>obtain ⟨t,e⟩:=(show ∃ t,u=Value.float b t from r); cases e; rfl
 | ref a=>cases (show u=Value.ref a from r); rfl
 | ty n=>cases (show u=Value.type n from r); rfl
section
variable {P:Program}{w:World}{H H':Hp}{h h':Heap}{a C dx:Addr}{fs fs':List (Str×V)}
theorem kC (hok:ge P w H h) (e:H a=some (.ins C dx fs)):∃ mA,ObjM h a dx C mA/\(∀ f,fz (fs.lookup f) (mA f))/\PySem.Within mA (fs.map (·.1))/\fs.length<=1000/\H dx=some (.own a):=by
 obtain ⟨d,z,ne,ob,mA,n,r,q⟩:=(show bq P w H h a (.ins C dx fs) from hok a _ e);exact ⟨mA,⟨ob,n,ne⟩,r,q,z,d⟩
end
structure Cls (K:Frag) (C:Addr):Prop where
 pg:PySem.W.plainGet K C Str.empty=true
 hd:PySem.W.hasDictIn K C=true
 po:PySem.W.plainOver K C=true
 sa:PySem.W.findIn K (.ref C) "__setattr__" = some (some (.builtin "object.__setattr__"))
theorem Cls.get {K:Frag}{C:Addr} (c:Cls K C) (f:Str):PySem.W.plainGet K C f=true:=c.pg
noncomputable def bO (K:Frag) (C:Addr) (f:Str):Prop:=PySem.W.findIn K (.ref C) f=some none
theorem bO.taker {K:Frag}{C:Addr}{f:Str} (n:bO K C f):PySem.W.takerIn K C f=some none:=by
 unfold PySem.W.takerIn;rw [show PySem.W.findIn K (.ref C) f=some none from n];rfl
structure Meth (K:Frag) (C:Addr) (m:Str) (f:Addr):Prop where
 at_:PySem.W.findIn K (.ref C) m=some (some (.ref f))
 fn:PySem.W.isFn K (.ref f)=true
 kp:PySem.W.keepIn K (.ref f)=true
section
variable {X:Cx}{pins:List (Addr×Obj)}{σ:St}{H:Hp}{s:Shared}{a C dx:Addr}{fs:List (Str×V)}{f:Str}{v:V}{A:Around}{E:Value->Shared->Prop}
theorem rB {b:Bool}{Q:Value->Shared->Prop} (I:Inv X pins σ H s) (e:H a=some (.ins C dx fs)) (c:Cls X.K C) (n:bO X.K C f) (l:fs.lookup f=some v)
  (h:∀ u s',Inv X pins σ H s'->RelV v u->Q u s'):wpAny (model X.prog X.w) A (getAttr (.ref a) f b) Q E s:=by
 obtain ⟨mA,O,r,_,_,_⟩:=kC I.hok e;obtain ⟨u,hu,ru⟩:=fz.some_of (v:=v) (o:=mA f) (by rw [<- l]; exact r f);exact xy I.kIn O (c.get f) c.hd n hu (uu ru) (h u _ (I.tok _) ru)
theorem lN {m:Str}{g:Addr}{pl:Sem Bool}{Q:Value×List Value->Shared->Prop} (I:Inv X pins σ H s) (e:H a=some (.ins C dx fs)) (c:Cls X.K C) (k:Meth X.K C m g) (l:fs.lookup m=none)
  (h:Q (.ref g,[.ref a]) s):wpAny (model X.prog X.w) A (getMethod (.ref a) m pl) Q E s:=by
 obtain ⟨mA,O,r,_,_,_⟩:=kC I.hok e;have hn:mA m=none:=fz.none_of (by rw [<- l]; exact r m);exact wn I.kIn O (c.get m) k.at_ k.fn hn h
theorem qV {y:V}{u:Value}{Q:Unit->Shared->Prop} (I:Inv X pins σ H s) (e:H a=some (.ins C dx fs)) (c:Cls X.K C) (n:bO X.K C f) (hl:fs.length < 1000) (ry:RelV y u)
  (h:∀ s',Inv X pins σ (aA H a (.ins C dx (b6 f y fs))) s'->Q () s'):wpAny (model X.prog X.w) A (setAttr (.ref a) f u) Q E s:=by
 obtain ⟨mA,O,r,wi,_,ho⟩:=kC I.hok e;have hz:(fs.map (·.1)).length<=sizeLine:=by rw [List.length_map,sizeLine_eq]; omega
 refine wZ I.kIn O c.sa c.po n.taker c.hd wi hz fun h' O' sb=>h _ ?_;have hd:∃ o,h'.get? dx=some o:=let ⟨o,_,_,e',_⟩:=O'.ns; ⟨o,e'⟩;refine I.write (x:=a) (e:=dx) (by rw [e]; exact True.intro) (.inr ho) (fun b q hb z=>(sb.2 b hb).trans z) hd ?_;refine ⟨by rw [ag O.ne]; exact ho,?_,O.ne,O'.obj,_,O'.ns,fun g=>?_,fun g hg=>?_⟩
 ·have:=jO f y fs; omega
 ·show fz ((b6 f y fs).lookup g) (if g=f then some u else mA g)
  rw [jN]
  by_cases q:g=f
  ·rw [if_pos q,if_pos q]; exact ry
  ·rw [if_neg q,if_neg q]; exact r g
 ·by_cases q:g=f
  ·rw [q]; exact (jm f y fs).1
  ·refine (jm f y fs).2 g (wi g fun z=>hg ?_)
   show (if g=f then some u else mA g)=none;rw [if_neg q]; exact z
theorem Inv.made (I:Inv X pins σ H s):Inv X pins σ (aA (aA H s.heap.objs.size (.own (s.heap.objs.size+1))) (s.heap.objs.size+1) (.ins C s.heap.objs.size []))
  { s with heap:=(s.heap.push PySem.W.emptyDict).push (PySem.W.instObj C s.heap.objs.size) }:=by
 have e1:(s.heap.push PySem.W.emptyDict).get? s.heap.objs.size=some PySem.W.emptyDict:=Heap.get?_push_size s.heap rfl;have e2:((s.heap.push PySem.W.emptyDict).push (PySem.W.instObj C s.heap.objs.size)).get? (s.heap.objs.size+1)=some (PySem.W.instObj C s.heap.objs.size):=by
  have:=Heap.get?_push_size (s.heap.push PySem.W.emptyDict) (o:=PySem.W.instObj C s.heap.objs.size) rfl;rwa [Heap.size_push] at this
 have e3:(s.heap.push PySem.W.emptyDict).Ns s.heap.objs.size (fun _=>none):=⟨PySem.W.emptyDict,#[],_,e1,rfl,(fun e he=>absurd he (by simp)),fun _=>rfl⟩;have I1:=I.laid (a:=s.heap.objs.size) (o:=.own (s.heap.objs.size+1)) (h':=s.heap.push PySem.W.emptyDict) (t':=s.toks) (fun b u q=>Heap.get?_push_of_some _ q) (Nat.le_refl _) ⟨_,e1⟩;refine I1.laid (a:=s.heap.objs.size+1) (o:=.ins C s.heap.objs.size []) (t':=s.toks) (fun b u q=>Heap.get?_push_of_some _ q) (Nat.le_of_eq (Heap.size_push _ _)) ?_;have ne:s.heap.objs.size≠s.heap.objs.size+1:=Nat.ne_of_lt (Nat.lt_succ_self _);refine ⟨by rw [ag ne,upd_same],Nat.zero_le _,ne,e2,fun _=>none,(Heap.Ns1.of_empty e3).at fun o q=>Heap.get?_push_of_some _ q,fun _=>True.intro,fun y hy=>absurd rfl hy⟩
theorem xE {prog:Program}{w:World}{env:Env}{e:Expr}{f:Str}{pos:Pos}{s:Shared}{Q:Value->Shared->Prop} (hb:attributeBase e f env (eval e env)=eval e env)
  (h:wpAny (model prog w) A (eval e env) (fun o s₁=>wpAny (model prog w) A (getAttr o f true) Q E s₁) E s):wpAny (model prog w) A (eval (.Attribute e f pos) env) Q E s :=
 Attribute_any_ h (by rw [arm_eval_Attribute,hb])
end
noncomputable def zF (K:Frag) (ta:TE) (f:Str):TE:=fun σ H Q=>ta σ H fun x H1=>∃ a C dx fs v,x=.ref a/\H1 a=some (.ins C dx fs)/\Cls K C/\bO K C f/\fs.lookup f=some v/\Q v H1
noncomputable def Ba (K:Frag) (ta tv:TE) (f:Str):TS:=fun D σ H=>tv σ H fun y H1=>ta σ H1 fun x H2=>∃ a C dx fs,x=.ref a/\H2 a=some (.ins C dx fs)/\Cls K C/\bO K C f/\fs.length < 1000 /\
 D.nx σ (aA H2 a (.ins C dx (b6 f y fs)))
section
variable {X:Cx}{o e value:Expr}{f:Str}{pos pos' tpos:Pos}{ta tv:TE}
theorem aO (he:PE X e ta) (hb:attributeBase e f X.env (eval e X.env)=eval e X.env):PE X (.Attribute e f pos) (zF X.K ta f):=by
 intro pins s σ H Q I h;refine xE hb (bz (he pins s σ H _ I h) fun u s1 ⟨x,H1,I1,rx,a,C,dx,fs,v,ex,ea,c,n,l,q⟩=>?_);subst ex;obtain rfl:u=Value.ref a:=rx;exact rB I1 ea c n l fun u' s2 I2 ru=>⟨v,H1,I2,ru,q⟩
theorem ce (ha:PE X o ta) (hv:PE X value tv) (hs:swapsWith value (some (.Attribute o f pos')) pos.line X.env=pure false):PS X (.Assign [.Attribute o f pos'] value pos) (Ba X.K ta tv f):=by
 intro pins s σ H D I h;refine plainObj_wpAny_Assign_Attribute (bz (hv pins s σ H _ I h) fun u s1 ⟨y,H1,I1,ry,q⟩=>bz (ha pins s1 σ H1 _ I1 q) fun ov s2 ⟨x,H2,I2,rx,a,C,dx,fs,ex,ea,c,n,l,q2⟩=>?_) hs;subst ex;obtain rfl:ov=Value.ref a:=rx;exact qV I2 ea c n l ry fun s3 I3=>⟨σ,_,I3,q2⟩
end
section
variable {X:Cx}{pins:List (Addr×Obj)}{σ:St}{H:Hp}{s:Shared}{A:Around}{E:Value->Shared->Prop}{Q:Value->Shared->Prop}{c:Value}{b:Bool}
inductive TyOf (K:Frag) (H:Hp):V->Value->Prop where
 | non:TyOf K H .non (.type "NoneType")
 | bl (x:Bool):TyOf K H (.bl x) (.type "bool")
 | int (i:Int):TyOf K H (.int i) (.type "int")
 | str (x:Str):TyOf K H (.str x) (.type "str")
 | flt (x:UInt64):TyOf K H (.flt x) (.type "float")
 | lst {a:Addr}{xs:List V} (e:H a=some (.lst xs)):TyOf K H (.ref a) (.type "list")
 | frz {a:Addr}{o:Obj}{xs:List V} (e:H a=some (.frz o (.lst xs))):TyOf K H (.ref a) (.type "list")
 | tup {a:Addr}{xs:List V} (e:H a=some (.tup xs)):TyOf K H (.ref a) (.type "tuple")
 | dK {a:Addr}{kvs:List (bh×V)} (e:H a=some (.dK kvs)):TyOf K H (.ref a) (.type "dict")
 | dT {a:Addr}{kvs:List (List bh×V)} (e:H a=some (.dT kvs)):TyOf K H (.ref a) (.type "dict")
 | ins {a C dx:Addr}{fs:List (Str×V)} (e:H a=some (.ins C dx fs)) (cl:Cls K C) (ha:PySem.W.findIn K (.ref C) "__class__" = some (some (.builtin "object.__class__")))
   (hn:PySem.W.specialIn K (.builtin "object.__class__") "__get__" = some (some (.builtin "getset_descriptor.__get__"))) (htk:PySem.W.takesIn K (.builtin "object.__class__")=some true)
   (hm:PySem.W.mroIn K C (.type "object")=some true):TyOf K H (.ref a) (.ref C)
end
structure Room (k:Nat) (A:Around):Prop where
 hd:A.handled=none
 dp:A.depth+3 * k+5 < recursionLimit
 un:A.units+16 * k+200 < cLine
theorem Room.mono {j k:Nat}{A:Around} (r:Room k A) (h:j<=k):Room j A:=⟨r.hd,by have:=r.dp; omega,by have:=r.un; omega⟩
theorem Room.deeper {k:Nat}{A:Around} (r:Room (k+1) A) (env:Env):Room k (A.deeper env) :=
 ⟨r.hd,by have:=r.dp; show A.depth+1+3 * k+5 < _; omega,by have:=r.un; show A.units+3+16 * k+200 < _; omega⟩
theorem rj {A:Around}{C:Addr}{us:List Value}{kw:List (Str×Value)}:(A.under (.builtin "type.__call__" ⟨.ref C :: us,kw⟩)).depth=A.depth+1:=by
 first | rfl | simp [Around.under,Code.weight,Code.isCreation,Code.isGuard,Code.isCaller,Code.frames,Code.isFrame,guardIds]
theorem rg {A:Around}{C:Addr}{us:List Value}{kw:List (Str×Value)}:(A.under (.builtin "type.__call__" ⟨.ref C :: us,kw⟩)).units=A.units+1:=by
 first | rfl | simp [Around.under,Code.cUnits,Code.frames,Code.isFrame]
theorem Room.make {k:Nat}{A:Around} (r:Room (k+1) A) (C:Addr) (us:List Value) (kw:List (Str×Value)):Room k (A.under (.builtin "type.__call__" ⟨.ref C :: us,kw⟩)) :=
 ⟨r.hd,by have:=r.dp; rw [rj]; omega,by have:=r.un; rw [rg]; omega⟩
theorem Room.depth {k:Nat}{A:Around} (r:Room k A):A.depth < recursionLimit:=by have:=r.dp; omega
theorem Room.units {k:Nat}{A:Around} (r:Room k A):A.units+64 < cLine:=by have:=r.un; omega
noncomputable def nA:TA:=fun _ H Q=>Q [] H
noncomputable def uS (ta:TE) (tr:TA):TA:=fun σ H Q=>ta σ H fun x H1=>tr σ H1 fun xs H2=>Q (x :: xs) H2
section
variable {X:Cx}{e:Expr}{es:List Expr}{te:TE}{t:TA}{pos:Pos}
theorem aj:PA X [] nA:=fun _ _ _ _ H Q I h=>Calls.spliced_nil ⟨[],H,I,.nil,h⟩
theorem ac (ha:PE X e te) (hr:PA X es t) (hs:starEach (e :: es) X.env=(false,eval e X.env) :: starEach es X.env:=by rfl):PA X (e :: es) (uS te t):=by
 intro pos pins s σ H Q I h;rw [hs];show wpAny _ _ (spliced ((false,eval e X.env) :: backTo pos (starEach es X.env))) _ _ s;refine Calls.spliced_cons (bz (ha pins s σ H _ I h) fun u s1 ⟨x,H1,I1,r1,q1⟩=>?_);exact bz (hr pos pins s1 σ H1 _ I1 q1) fun us s2 ⟨xs,H2,I2,r2,q2⟩=>⟨x :: xs,H2,I2,.cons r1 r2,q2⟩
noncomputable def AW (t:TA):TE:=fun σ H Q=>t σ H fun xs H1=>xs.length<=sizeLine/\∀ p,H1 p=none->Q (.ref p) (aA H1 p (.tup xs))
noncomputable def uP (t:TA):TE:=fun σ H Q=>t σ H fun xs H1=>xs.length<=sizeLine/\∀ p,H1 p=none->Q (.ref p) (aA H1 p (.lst xs))
theorem cf {x1} (h:PA X es t):PE X (.Tuple es x1 pos) (AW t):=by
 intro pins s σ H Q I hq;refine wpAny_Tuple_spliced (bz (h pos pins s σ H _ I hq) fun us s1 ⟨xs,H1,I1,r,z,q⟩=>⟨by rw [<- r.length]; exact z,?_⟩);have hf:H1 s1.heap.objs.size=none:=I1.hok.fresh (Nat.le_refl _);refine ⟨.ref s1.heap.objs.size,aA H1 s1.heap.objs.size (.tup xs),I1.laid (t':=s1.toks) (fun b u e=>Heap.get?_push_of_some _ e) (Nat.le_refl _) ?_,rfl,q _ hf⟩;exact ⟨z,us,r,⟨_,Heap.get?_push_size _ rfl,rfl,_,rfl⟩⟩
theorem bx (h:PA X es t):PE X (.List es pos) (uP t):=by
 intro pins s σ H Q I hq;refine wpAny_List_spliced (bz (h pos pins s σ H _ I hq) fun us s1 ⟨xs,H1,I1,r,z,q⟩=>⟨by rw [<- r.length]; exact z,?_⟩);have hf:H1 s1.heap.objs.size=none:=I1.hok.fresh (Nat.le_refl _);refine ⟨.ref s1.heap.objs.size,aA H1 s1.heap.objs.size (.lst xs),I1.laid (t':=s1.toks) (fun b u e=>Heap.get?_push_of_some _ e) (Nat.le_refl _) ?_,rfl,q _ hf⟩;exact ⟨z,us,0,r,Heap.get?_push_size _ rfl⟩
end
abbrev Sp:=List V->Hp->VK->XK->Prop
abbrev uO:=List Env->Hp->Shared->XK->Value->Shared->Prop
structure Env0 (P:Program) (w:World) (K:Frag) (mg:Str->Option Value) (base:Heap) (A:Around) (outer:List Env) (s:Shared) (H:Hp):Prop where
 frames:A.frames=some outer
 mod:Mod K mg base
 bs:∀ b o,base.get? b=some o->s.heap.get? b=some o/\H b=none
 bsz:base.objs.size<=s.heap.objs.size
 funs:s.heap.FunFrames base outer
 frf:∀ b∈mF outer,H b=none
 hok:ge P w H s.heap
 bare:AllBare s.gens
noncomputable def CE (outer:List Env) (P:Program) (w:World) (H:Hp) (s:Shared) (Q:VK) (u:Value) (s':Shared):Prop :=
 ∃ v H',s'.os=s.os/\AllBare s'.gens/\Un (mF outer) [] H H' s.heap s'.heap/\ge P w H' s'.heap/\RelV v u/\Q v H'
noncomputable def CR (CX:uO) (outer:List Env) (P:Program) (w:World) (H:Hp) (s:Shared) (Q:VK) (E:XK) (r:Result) (s':Shared):Prop :=
 match r with
 | .ok (.ret u)=>CE outer P w H s Q u s'
 | .ok _=>False
 | .error e=>CX outer H s E e s'
structure FnOk (P:Program) (w:World) (K:Frag) (mg:Str->Option Value) (base:Heap) (CX:uO) (k:Nat) (f:Addr) (fd:FuncData) (ps:List Str) (sp:Sp):Prop where
 len:∀ vs H Q E,sp vs H Q E->vs.length=ps.length
 run:∀ (A:Around) (outer:List Env) (s:Shared) (H:Hp) (args:Args) (us:List Value) (vs:List V) (Q:VK) (E:XK),Room k A->Env0 P w K mg base A outer s H->BindsTo s fd args (ps.zip us)->aU vs us->sp vs H Q E ->
  codeAny (model P w) A (.call (.ref f) args) (CR CX outer P w H s Q E) s
theorem Env0.make {P:Program}{w:World}{K:Frag}{mg:Str->Option Value}{base:Heap}{A:Around}{outer:List Env}{s:Shared}{H:Hp} (e:Env0 P w K mg base A outer s H) (C:Addr) (us:List Value) (kw:List (Str×Value)) :
  Env0 P w K mg base (A.under (.builtin "type.__call__" ⟨.ref C :: us,kw⟩)) outer s H:=⟨by first | exact e.frames | (simpa [Around.under,Code.envs,Code.isFrame,pushEnvs] using e.frames),e.mod,e.bs,e.bsz,e.funs,e.frf,e.hok,e.bare⟩
section
variable {X:Cx}{pins:List (Addr×Obj)}{σ:St}{H:Hp}{s s':Shared}
theorem Inv.env0 (I:Inv X pins σ H s):Env0 X.prog X.w X.K X.mg X.base X.A X.stack s H :=
 ⟨I.ok.frames,I.ok.mod,I.bs,Nat.le_trans I.ok.bsz I.sz,I.stack,I.stkFree,I.hok,I.bare⟩
theorem Inv.after {Q:VK}{u:Value} (I:Inv X pins σ H s) (h:CE X.stack X.prog X.w H s Q u s'):EP X pins σ Q u s':=by
 obtain ⟨v,H',os,bare,un,hok,r,q⟩:=h;obtain ⟨hh,g,d,t,os'⟩:=s';obtain rfl:os'=s.os:=os;exact ⟨v,H',I.call (h':=hh) (g':=g) (d':=d) (t':=t) (ch:=[]) un hok bare (fun b z=>absurd z (by simp)),r,q⟩
end
noncomputable def uT (sp:Sp) (dvs:List V) (E:XK) (t:TA):TE:=fun σ H Q=>t σ H fun vs H1=>sp (vs++dvs) H1 Q E
noncomputable def pc (C:Addr) (m:Str) (sp:Sp) (dvs:List V) (E:XK) (ta:TE) (t:TA):TE:=fun σ H Q=>ta σ H fun x H1=>∃ a dx fs,x=.ref a/\H1 a=some (.ins C dx fs)/\fs.lookup m=none /\
 t σ H1 fun vs H2=>sp (x :: (vs++dvs)) H2 Q E
noncomputable def xQ (C:Addr) (sp:Sp) (dvs:List V) (E:XK) (t:TA):TE:=fun σ H Q=>t σ H fun vs H1=>∀ x dx,H1 x=none->H1 dx=none->dx≠x ->
 sp (.ref x :: (vs++dvs)) (aA (aA H1 dx (.own x)) x (.ins C dx [])) (fun v H2=>v=.non/\Q (.ref x) H2) E
noncomputable def fc (K:Frag) (fd:FuncData) (ps:List Str) (ds:List Value):Prop :=
 ∀ (s:Shared) (us:List Value),K.In s.heap->(us++ds).length=ps.length->BindsTo s fd ⟨us,[]⟩ (ps.zip (us++ds))
theorem fc.all {K:Frag}{fd:FuncData}{ps:List Str} (h:∀ us:List Value,us.length=ps.length->bindArgs fd ⟨us,[]⟩=pure (ps.zip us)):fc K fd ps []:=fun s us _ hl=>by
 rw [List.append_nil] at hl ⊢;exact .of_eq (h us hl)
noncomputable def d7 (CX:uO) (X:Cx) (E:XK):Prop:=∀ (pins:List (Addr×Obj)) (σ:St) (H:Hp) (s:Shared) (e:Value) (s':Shared),Inv X pins σ H s->CX X.stack H s E e s'->X.xe e s'
section
variable {X:Cx}{CX:uO}{k:Nat}{f C:Addr}{fd:FuncData}{ps:List Str}{sp:Sp}{dvs:List V}{ds:List Value}{E:XK}{x m:Str}{p pos apos:Pos}{e o:Expr}{es:List Expr}{ta:TE}{t:TA}
theorem qJ {pins:List (Addr×Obj)}{σ:St}{H:Hp}{s:Shared}{Q:VK}{us:List Value}{vs:List V} (F:FnOk X.prog X.w X.K X.mg X.base CX k f fd ps sp) (hr:Room k X.A) (hb:fc X.K fd ps ds) (hd:aU dvs ds) (hx:d7 CX X E)
  (I:Inv X pins σ H s) (r:aU vs us) (h:sp (vs++dvs) H Q E):wpAny (model X.prog X.w) X.A (call (.ref f) us) (EP X pins σ Q) X.xe s:=by
 have r2:aU (vs++dvs) (us++ds):=r.append hd;have hl:(us++ds).length=ps.length:=by rw [<- r2.length]; exact F.len _ _ _ _ h
 refine wpAny_call (codeAny_mono (F.run X.A X.stack s H ⟨us,[]⟩ (us++ds) (vs++dvs) Q E hr I.env0 (hb s us I.kIn hl) r2 h) fun r s' hq=>?_);cases r with
 | error e=>exact hx pins σ H s e s' I hq
 | ok fl =>
  cases fl with
  | ret u=>exact I.after hq
  | next=>exact False.elim hq
  | brk=>exact False.elim hq
  | cont=>exact False.elim hq
theorem sN (F:FnOk X.prog X.w X.K X.mg X.base CX k f fd ps sp) (hr:Room k X.A) (hg:Gl X x) (hm:X.mg x=some (.ref f)) (hk:PySem.W.keepIn X.K (.ref f)=true) (hb:fc X.K fd ps ds) (hd:aU dvs ds) (hx:d7 CX X E)
  (ha:PA X (e :: es) t) (hdb:(x==("__debug__":Str))=false:=by decide) (he:starEach (e :: es) X.env=(false,eval e X.env) :: starEach es X.env:=by rfl) (hpl:(backTo pos (starEach es X.env)).any (·.1)=false:=by rfl) :
  PE X (.Call (.Name x p) (e :: es) [] pos) (uT sp dvs E t):=by
 intro pins s σ H Q I h;refine wpAny_Call_Name_kw (kB I hg hm ?_ hdb);refine PySem.W.callWith_K (h₀:=X.base) I.ok.mod.kin hk (bz (ha pos pins s σ H _ I h) fun us s1 ⟨vs,H1,I1,r,q⟩=>⟨I1.kIn,?_⟩) he hpl;exact qJ F hr hb hd hx I1 r q
theorem sL {pl:Sem Bool} (he:PE X o ta) (c:Cls X.K C) (hm:Meth X.K C m f) (F:FnOk X.prog X.w X.K X.mg X.base CX k f fd ps sp) (hr:Room k X.A) (hb:fc X.K fd ps ds) (hd:aU dvs ds) (hx:d7 CX X E) (ha:PA X (e :: es) t)
  (hst:starEach (e :: es) X.env=(false,eval e X.env) :: starEach es X.env:=by rfl) (hpl:(backTo pos (starEach es X.env)).any (·.1)=false:=by rfl)
  (ht:eval (.Call (.Attribute o m apos) (e :: es) [] pos) X.env=(do
   let ov <- eval o X.env
   standAt apos.atName
   let (f,first) <- holding [ov] (getMethod ov m pl)
   callWith pos f first (backTo pos (starEach (e :: es) X.env)) (backToKw pos (keywordEach [] X.env))):=by rfl) :
  PE X (.Call (.Attribute o m apos) (e :: es) [] pos) (pc C m sp dvs E ta t):=by
 intro pins s σ H Q I h;refine PySem.W.methodCall_KW (pl:=pl) (bz (he pins s σ H _ I h) fun u s1 ⟨x,H1,I1,rx,a,dx,fs,ex,ea,l,q⟩=>?_) ht;subst ex;obtain rfl:u=Value.ref a:=rx;refine lN I1 ea c hm l ?_;refine PySem.W.callWith_K (first:=[.ref a]) (h₀:=X.base) I.ok.mod.kin hm.kp (bz (ha pos pins s1 σ H1 _ I1 q) fun us s2 ⟨vs,H2,I2,r,q2⟩=>⟨I2.kIn,?_⟩) hst hpl;exact qJ (us:=.ref a :: us) (vs:=.ref a :: vs) F hr hb hd hx I2 (.cons rfl r) q2
theorem vX {pl:Sem Bool} (he:PE X o ta) (c:Cls X.K C) (hm:Meth X.K C m f) (F:FnOk X.prog X.w X.K X.mg X.base CX k f fd ps sp) (hr:Room k X.A) (hb:fc X.K fd ps ds) (hd:aU dvs ds) (hx:d7 CX X E)
  (ht:eval (.Call (.Attribute o m apos) [] [] pos) X.env=(do
   let ov <- eval o X.env
   standAt apos.atName
   let (f,first) <- holding [ov] (getMethod ov m pl)
   callWith pos f first (backTo pos (starEach [] X.env)) (backToKw pos (keywordEach [] X.env))):=by rfl) :
  PE X (.Call (.Attribute o m apos) [] [] pos) (pc C m sp dvs E ta nA):=by
 intro pins s σ H Q I h;refine PySem.W.methodCall_KW (pl:=pl) (bz (he pins s σ H _ I h) fun u s1 ⟨x,H1,I1,rx,a,dx,fs,ex,ea,l,q⟩=>?_) ht;subst ex;obtain rfl:u=Value.ref a:=rx;refine lN I1 ea c hm l ?_;exact PySem.W.callWith_K0 (first:=[.ref a]) I1.kIn hm.kp (qJ (us:=[.ref a]) (vs:=[.ref a]) F hr hb hd hx I1 (.cons rfl .nil) q)
structure Mk (K:Frag) (C f:Addr):Prop where
 makes:PySem.W.makesIn K C=true
 init:PySem.W.findIn K (.ref C) "__init__" = some (some (.ref f))
 fn:PySem.W.isFn K (.ref f)=true
 kp:PySem.W.keepIn K (.ref C)=true
theorem vL {pins:List (Addr×Obj)}{σ:St}{H:Hp}{s:Shared}{Q:VK}{us:List Value}{vs:List V} (M:Mk X.K C f) (F:FnOk X.prog X.w X.K X.mg X.base CX k f fd ps sp) (hr:Room (k+1) X.A) (hb:fc X.K fd ps ds) (hd:aU dvs ds)
  (hx:d7 CX X E) (I:Inv X pins σ H s) (r:aU vs us)
  (h:∀ x dx,H x=none->H dx=none->dx≠x->sp (.ref x :: (vs++dvs)) (aA (aA H dx (.own x)) x (.ins C dx [])) (fun v H2=>v=.non/\Q (.ref x) H2) E) :
  wpAny (model X.prog X.w) X.A (call (.ref C) us) (EP X pins σ Q) X.xe s:=by
 have hq:=h (s.heap.objs.size+1) s.heap.objs.size (I.hok.fresh (Nat.le_succ _)) (I.hok.fresh (Nat.le_refl _)) (Nat.ne_of_lt (Nat.lt_succ_self _));have I2:=Inv.made (C:=C) I;have r2:aU (V.ref (s.heap.objs.size+1) :: (vs++dvs)) (Value.ref (s.heap.objs.size+1) :: (us++ds)):=.cons rfl (r.append hd);have hl:(Value.ref (s.heap.objs.size+1) :: us++ds).length=ps.length:=by
  have e:=r2.length;rw [F.len _ _ _ _ hq] at e;exact e.symm
 refine wpAny_call (v_ (f:=f) I.kIn M.makes M.init (beq_iff_eq.mp M.fn) (codeAny_mono (F.run _ X.stack _ _ ⟨Value.ref (s.heap.objs.size+1) :: us,[]⟩ (Value.ref (s.heap.objs.size+1) :: (us++ds)) _ _ E (hr.make C us [])
  (I2.env0.make C us []) (hb _ (Value.ref (s.heap.objs.size+1) :: us) I2.kIn hl) r2 hq) fun r s' hq'=>?_))
 cases r with
 | error e=>exact hx pins σ _ _ e s' I2 hq'
 | ok fl =>
  cases fl with
  | ret u =>
   obtain ⟨v,H',I3,rv,ev,q3⟩:=I2.after hq';subst ev;exact ⟨rv,⟨V.ref (s.heap.objs.size+1),H',I3,rfl,q3⟩⟩
  | next=>exact False.elim hq'
  | brk=>exact False.elim hq'
  | cont=>exact False.elim hq'
theorem xb (M:Mk X.K C f) (F:FnOk X.prog X.w X.K X.mg X.base CX k f fd ps sp) (hr:Room (k+1) X.A) (hg:Gl X x) (hm:X.mg x=some (.ref C)) (hb:fc X.K fd ps ds) (hd:aU dvs ds) (hx:d7 CX X E)
  (ha:PA X (e :: es) t) (hdb:(x==("__debug__":Str))=false:=by decide) (he:starEach (e :: es) X.env=(false,eval e X.env) :: starEach es X.env:=by rfl) (hpl:(backTo pos (starEach es X.env)).any (·.1)=false:=by rfl) :
  PE X (.Call (.Name x p) (e :: es) [] pos) (xQ C sp dvs E t):=by
 intro pins s σ H Q I h;refine wpAny_Call_Name_kw (kB I hg hm ?_ hdb);refine PySem.W.callWith_K (h₀:=X.base) I.ok.mod.kin M.kp (bz (ha pos pins s σ H _ I h) fun us s1 ⟨vs,H1,I1,r,q⟩=>⟨I1.kIn,?_⟩) he hpl;exact vL M F hr hb hd hx I1 r q
end
section
variable {X:Cx}{CX:uO}{k:Nat}{f C:Addr}{fd:FuncData}{ps ks:List Str}{sp:Sp}{E:XK}{x m:Str}{p pos apos kpos:Pos}{e o:Expr}{es:List Expr}{kws:List Keyword}{te ta:TE}{t tk:TA}{nm:Option Str}
variable {g:List Value->List Value->List Value}{gV:List V->List V->List V}
end
structure FnScope (N P:List Str) (sc:Scope):Prop where
 kind:sc.kind=.function
 co:sc.isCoroutine=false
 gen:sc.isGenerator=false
 nd:N.Nodup
 pre:N.take P.length=P
 par:∀ x∈P,sc.names.lookup x=some .local\/sc.names.lookup x=some .cell
 nofree:∀ y∈sc.names,y.2≠.free
theorem nc {kindOf:Str->Option NameKind}{x:Str}:∀ {binds:List (Str×Value)}{m:Str->Option Value},(∀ v,(x,v)∉binds)->bindL kindOf binds m x=m x
 | [],_,_=>rfl
 | (n,v) :: r,m,h=>by
  unfold bindL;rw [nc fun w hw=>h w (List.mem_cons_of_mem _ hw)];split
  ·have:x≠n:=by rintro rfl; exact h v List.mem_cons_self
   simp [this]
  ·rfl
theorem ni {kindOf:Str->Option NameKind}{x:Str}:∀ {binds:List (Str×Value)}{m:Str->Option Value},(∀ v,(x,v)∉binds)->bindC kindOf binds m x=m x
 | [],_,_=>rfl
 | (n,v) :: r,m,h=>by
  unfold bindC;rw [ni fun w hw=>h w (List.mem_cons_of_mem _ hw)];split
  ·rfl
  ·have:x≠n:=by rintro rfl; exact h v List.mem_cons_self
   simp [this]
theorem ng {kindOf:Str->Option NameKind}{x:Str}{v:Value}:∀ {P:List Str}{vs:List Value}{i:Nat}{m:Str->Option Value},P.Nodup->P[i]? = some x->vs[i]? = some v->kindOf x=some .local ->
  bindL kindOf (P.zip vs) m x=some v
 | [],_,_,_,_,h,_,_=>by simp at h
 | _ :: _,[],_,_,_,_,h,_=>by simp at h
 | p :: P,w :: vs,0,m,nd,h1,h2,hk=>by
  simp at h1 h2; subst h1; subst h2;show bindL kindOf ((p,w) :: P.zip vs) m p=_;unfold bindL;rw [nc fun v hv=>(List.nodup_cons.mp nd).1 (List.of_mem_zip hv).1,if_pos hk];simp
 | p :: P,w :: vs,i+1,m,nd,h1,h2,hk=>by
  show bindL kindOf ((p,w) :: P.zip vs) m x=_;unfold bindL;exact ng (i:=i) (List.nodup_cons.mp nd).2 (by simpa using h1) (by simpa using h2) hk
theorem nj {kindOf:Str->Option NameKind}{x:Str}{v:Value}:∀ {P:List Str}{vs:List Value}{i:Nat}{m:Str->Option Value},P.Nodup->P[i]? = some x->vs[i]? = some v->kindOf x≠some .local ->
  bindC kindOf (P.zip vs) m x=some v
 | [],_,_,_,_,h,_,_=>by simp at h
 | _ :: _,[],_,_,_,_,h,_=>by simp at h
 | p :: P,w :: vs,0,m,nd,h1,h2,hk=>by
  simp at h1 h2; subst h1; subst h2;show bindC kindOf ((p,w) :: P.zip vs) m p=_;unfold bindC;rw [ni fun v hv=>(List.nodup_cons.mp nd).1 (List.of_mem_zip hv).1,if_neg hk];simp
 | p :: P,w :: vs,i+1,m,nd,h1,h2,hk=>by
  show bindC kindOf ((p,w) :: P.zip vs) m x=_;unfold bindC;exact nj (i:=i) (List.nodup_cons.mp nd).2 (by simpa using h1) (by simpa using h2) hk
noncomputable def start (N:List Str) (vs:List V):St:=vs.map some++List.replicate (N.length - vs.length) none
noncomputable def jU (CX:uO) (P:Program) (w:World) (K:Frag) (mg:Str->Option Value) (base:Heap) (N:List Str) (qual:Str) (scope:Scope) (f:Addr) (cd:Value) (A:Around) (outer:List Env) (s:Shared) (H:Hp) (E:XK):Cx where
 prog:=P
 w:=w
 K:=K
 mg:=mg
 base:=base
 A:=A.deeper (envOfC qual scope s.heap.objs.size f cd)
 N:=N
 s₀:=s
 H₀:=H
 env:=envOfC qual scope s.heap.objs.size f cd
 outer:=outer
 stack:=envOfC qual scope s.heap.objs.size f cd :: outer
 ex:=[]
 calm:=true
 fn:=fun _=>true
 pn:=[]
 xe:=fun e s'=>wpAny (model P w) (A.deeper (envOfC qual scope s.heap.objs.size f cd)) (leaving (envOfC qual scope s.heap.objs.size f cd) e) (fun _ s''=>CX outer H s E e s'') (fun e' s''=>CX outer H s E e' s'') s'
theorem pW {sc:Scope}{n:Nat}{x:Str} (h:sc.names.lookup x=some .cell):∃ c,(cellsFrom n sc.names []).lookup x=some c:=by
 have q:=PySem.W.cellsFrom_some sc.names n [] (.inl h);exact Option.isSome_iff_exists.mp q
theorem ur {CX:uO}{P:Program}{w:World}{K:Frag}{mg:Str->Option Value}{base:Heap}{N ps:List Str}{qual:Str}{scope:Scope}{f:Addr}{cd:Value}{A:Around}{outer:List Env}{s s1:Shared}{H:Hp}{E:XK}{us:List Value}{vs:List V}
  (S:FnScope N ps scope) (hd:A.handled=none) (e0:Env0 P w K mg base A outer s H) (hl:vs.length=ps.length) (r:aU vs us)
  (x:InCallC s s.heap.objs.size (bindL (envOfC qual scope s.heap.objs.size f cd).kindOf (ps.zip us) fun _=>none) (cellsFrom (s.heap.objs.size+1) scope.names []) (bindC (envOfC qual scope s.heap.objs.size f cd).kindOf (ps.zip us) fun _=>none) s1) :
  Inv (jU CX P w K mg base N qual scope f cd A outer s H E) [] (start N vs) H s1:=by
 have hpl:ps.length<=N.length:=by have:=congrArg List.length S.pre; rw [List.length_take] at this; omega
 obtain ⟨h1,tk,rfl,hk⟩:=x.done;have noA:∀ b:Addr,b∉(jU CX P w K mg base N qual scope f cd A outer s H E).ex:=fun b z=>absurd (show b∈([]:List Addr) from z) (by simp);refine ⟨⟨e0.mod,S.kind,rfl,rfl,Nat.le_refl _,fun y z c h1 h2=>?_,fun y hy=>?_,fun y c _ h=>?_,fun _=>hd,Around.frames_deeper e0.frames,.inr ⟨rfl,rfl⟩,fun b z=>absurd z (noA b),e0.bs,e0.bsz,fun b _ _=>noA b,fun b z=>absurd z (noA b),e0.funs,e0.frf⟩,
  rfl,e0.bare,Un.kept hk,⟨_,x.toInCall.ns,fun i y v h1 h2 h3=>?_⟩,fun y c h=>⟨_,x.cell y c h⟩,e0.hok.fresh (Nat.le_refl _),fun y c h=>?_,fun p hp=>absurd (show p∈([]:List (Addr×Obj)) from hp) (by simp),e0.hok.kept hk,?_⟩
 ·exact name_of_addr x.apart (PySem.mem_of_lookup h1) (PySem.mem_of_lookup h2)
 ·have hy:scope.names.lookup y=some .cell\/scope.names.lookup y=some .free:=hy
  rcases hy with hy | hy
  ·exact pW hy
  ·exact absurd rfl (S.nofree _ (PySem.mem_of_lookup hy))
 ·exact Nat.le_of_lt (x.above y c (PySem.mem_of_lookup h))
 ·have hi:i < vs.length:=by
   unfold start at h2
   by_cases hi:i < vs.length
   ·exact hi
   ·rw [List.getElem?_append_right (by simpa using hi)] at h2
    rw [List.getElem?_replicate] at h2;split at h2<;>cases h2
  have ha:vs[i]? = some v:=by
   unfold start at h2;rw [List.getElem?_append_left (by simpa using hi),List.getElem?_map] at h2;cases e:vs[i]? with
   | none=>rw [e] at h2; cases h2
   | some a=>rw [e] at h2; cases h2; rfl
  obtain ⟨u,hu,rv⟩:=r.get ha;have hp:ps[i]? = some y:=by
   rw [<- S.pre,List.getElem?_take_of_lt (by omega)]; exact h1
  have ndP:ps.Nodup:=by rw [<- S.pre]; exact S.nd.sublist (List.take_sublist _ _)
  refine ⟨u,rv,?_⟩;rcases S.par y (List.mem_of_getElem? hp) with k | k
  ·exact .inl ⟨k,ng ndP hp hu k⟩
  ·obtain ⟨c,e⟩:=pW (n:=s.heap.objs.size+1) k
   refine .inr ⟨.inl k,c,e,?_⟩;have q:=x.cell y c e;rw [nj ndP hp hu (by show scope.names.lookup y≠_; rw [k]; decide)] at q;exact q
 ·exact e0.hok.fresh (Nat.le_of_lt (x.above y c (PySem.mem_of_lookup h)))
 ·unfold start
  show _=N.length;rw [List.length_append,List.length_map,List.length_replicate];omega
theorem ya {CX:uO}{P:Program}{w:World}{K:Frag}{mg:Str->Option Value}{base:Heap}{k:Nat}{f:Addr}{name qual:Str}{params:Arguments}{body:List Stmt}{scope:Scope}{dV kV doc pm cdv ct oc:Value}{an od:Option Addr}
  {osl:Array (Option Value)}{N ps:List Str}{sp:Sp} (lk:K.lookup f=some ⟨oc,od,.func (PySem.W.fnOf name qual params body scope dV kV doc pm an cdv ct),osl⟩) (hcd:PySem.W.codeIn K cdv qual=true) (S:FnScope N ps scope)
  (len:∀ vs H Q E,sp vs H Q E->vs.length=ps.length)
  (hbody:∀ (A:Around) (outer:List Env) (s:Shared) (H:Hp) (vs:List V) (Q:VK) (E:XK),Room k (A.deeper (envOfC qual scope s.heap.objs.size f cdv))->sp vs H Q E ->
   ∃ t,gI (jU CX P w K mg base N qual scope f cdv A outer s H E) body t/\t { nx:=fun _ H'=>Q .non H',rt:=Q } (start N vs) H) :
  FnOk P w K mg base CX (k+1) f (PySem.W.fnOf name qual params body scope dV kV doc pm an cdv ct) ps sp:=by
 refine ⟨len,fun A outer s H args us vs Q E hr e0 hb r hsp=>?_⟩;have hl:=len _ _ _ _ hsp;have KX:K.In s.heap:=e0.mod.kin.keeps fun b o e=>(e0.bs b o e).1;have lim:s.heap.NoLimit:=e0.mod.nolimit.keeps fun b o e=>(e0.bs b o e).1;have hkind:∀ y∈ps.zip us,scope.names.lookup y.1=some .local\/(scope.names.lookup y.1=some .cell/\((cellsFrom (s.heap.objs.size+1) scope.names []).lookup y.1).isSome=true):=fun ⟨n,v⟩ hy=>by
  rcases S.par n (List.of_mem_zip hy).1 with q | q
  ·exact .inl q
  ·exact .inr ⟨q,PySem.W.cellsFrom_some _ _ _ (.inl q)⟩
 refine codeAny_call_function hr.depth (KX _ _ lk) rfl S.co S.gen rfl (PySem.W.codeRec_of KX hcd) (hb _ _ _ _ ?_);refine wpAny_newFunctionEnv_cells S.kind hkind fun env he s1 x=>?_;subst he;refine ⟨lim.keeps x.toInCall.keep,codeAny_func ?_⟩;obtain ⟨t,ht,hq⟩:=hbody A outer s H vs Q E (hr.deeper _) hsp;have I:Inv (jU CX P w K mg base N qual scope f cdv A outer s H E) [] (start N vs) H s1:=ur S hr.hd e0 hl r x;refine wpAny_mono (ht [] s1 (start N vs) H _ I hq) (fun fl s' hs=>?_) fun e s' hs=>hs;have fin:∀ {σ':St}{H':Hp}{v:V}{u:Value},Inv (jU CX P w K mg base N qual scope f cdv A outer s H E) [] σ' H' s'->RelV v u->Q v H'->CE outer P w H s Q u s' :=
  fun {σ' H' v u} J rv q=>⟨v,H',J.os,J.bare,J.base,J.hok,rv,q⟩
 cases fl with
 | ret u =>
  obtain ⟨v,σ',H',J,rv,q⟩:=hs;exact fin J rv q
 | next =>
  obtain ⟨σ',H',J,q⟩:=hs;exact fin (v:=V.non) (u:=Value.none) J rfl q
 | brk =>
  obtain ⟨_,_,_,q⟩:=hs;exact False.elim q
 | cont =>
  obtain ⟨_,_,_,q⟩:=hs;exact False.elim q
section
variable {X:Cx}{x:Str}{p pos:Pos}{e:Expr}{es:List Expr}{t:TA}{id T:String}{r:List V->Hp->VK->Prop}
noncomputable def Bx (r:List V->Hp->VK->Prop) (t:TA):TE:=fun σ H Q=>t σ H fun vs H1=>r vs H1 Q
theorem aG (hc:cE X (.builtin id) r) (hg:Gl X x) (hm:X.mg x=none) (hv:bootBuiltins x=some (.builtin id)) (ha:PA X (e :: es) t) (hn:x ≠ "__name__":=by decide) (hdb:(x==("__debug__":Str))=false:=by decide)
  (he:starEach (e :: es) X.env=(false,eval e X.env) :: starEach es X.env:=by rfl) (hpl:(backTo pos (starEach es X.env)).any (·.1)=false:=by rfl):PE X (.Call (.Name x p) (e :: es) [] pos) (Bx r t):=by
 intro pins s σ H Q I h;refine wpAny_Call_Name_kw (kO I hg hm hv ?_ hn hdb);exact PyProof.Rows.callWith_builtin1 (bz (ha pos pins s σ H _ I h) fun us s1 ⟨vs,H1,I1,r1,q1⟩=>hc pins s1 σ H1 vs us Q I1 r1 q1) he hpl
theorem df (hc:cE X (.type T) r) (hg:Gl X x) (hm:X.mg x=none) (hv:bootBuiltins x=some (.type T)) (ha:PA X (e :: es) t) (hn:x ≠ "__name__":=by decide) (hdb:(x==("__debug__":Str))=false:=by decide)
  (he:starEach (e :: es) X.env=(false,eval e X.env) :: starEach es X.env:=by rfl) (hpl:(backTo pos (starEach es X.env)).any (·.1)=false:=by rfl):PE X (.Call (.Name x p) (e :: es) [] pos) (Bx r t):=by
 intro pins s σ H Q I h;refine wpAny_Call_Name_kw (kO I hg hm hv ?_ hn hdb);exact PyProof.Rows.callWith_type1 (bz (ha pos pins s σ H _ I h) fun us s1 ⟨vs,H1,I1,r1,q1⟩=>hc pins s1 σ H1 vs us Q I1 r1 q1) he hpl
end
end L2
namespace HT
open PySem PyProof.Rows
section
open PySem.SeqAt
open PySem.AutoSeq1 (wpAny_loadPart')
open PySem.MeetsSeq PySem.MeetsSeq2 PySem.MeetsSeq3
end
section
variable {prog:Program}{w:World}{A:Around}{E:Value->Shared->Prop}{s:Shared}
theorem xC {t b:Addr}{vs ws:List Value}{Q:Value->Shared->Prop} (ht:IsTup s.heap t vs.toArray) (hb:IsTup s.heap b ws.toArray) (hv:vs≠[])
  (h1:ws=[]->Q (.ref t) s) (h2:ws≠[]->Q (.ref s.heap.objs.size) { s with heap:=s.heap.push { cls:=.type "tuple",data:=.seq (vs++ws).toArray } })
  (hsz:vs.length+ws.length<=sizeLine):wpAny (model prog w) A (binaryOp .Add (.ref t) (.ref b)) Q E s:=by
 obtain ⟨⟨cls,dd,data,sl⟩,ho,hc,n,hd⟩:=id ht;obtain ⟨⟨cls2,dd2,data2,sl2⟩,ho2,hc2,n2,hd2⟩:=id hb;simp only at hc hd hc2 hd2;subst hc hd hc2 hd2;have e:vs.toArray++ws.toArray=(vs++ws).toArray:=by simp
 by_cases hw:ws=[]
 ·exact concat_meets ⟨_,ho,rfl⟩ ⟨_,ho2,rfl⟩ noFill_tuple_add seq_tuple_add PySem.F.slot_tuple_add PySem.F.entry_tuple_add (PySem.F.args_tuple_add_2 _ _)
   (tuple_addW1 t b vs.toArray ws.toArray n n2 dd dd2 sl sl2 (by simpa using hv) (by simp [hw])) ⟨ho,ho2,h1 hw⟩
 ·refine concat_meets ⟨_,ho,rfl⟩ ⟨_,ho2,rfl⟩ noFill_tuple_add seq_tuple_add PySem.F.slot_tuple_add PySem.F.entry_tuple_add (PySem.F.args_tuple_add_2 _ _)
   (tuple_addW2 t b vs.toArray ws.toArray n n2 dd dd2 sl sl2 (by simpa using hv) (by simpa using hw) (by rw [List.size_toArray,List.size_toArray]; exact hsz)) ⟨ho,ho2,?_⟩
  rw [e];exact h2 hw
noncomputable def sIx (n d:Nat):Option Int->Nat
 | none=>d
 | some v=>if v < 0 then (v+(n:Int)).toNat else min v.toNat n
theorem sE (n d k:Nat):sIx n d (some (k:Int))=min k n:=by
 show (if (k:Int) < 0 then ((k:Int)+(n:Int)).toNat else min (k:Int).toNat n)=min k n;rw [if_neg (by omega),Int.toNat_natCast]
theorem yI (n d:Nat) (hd:d<=n) (o:Option Int):sIx n d o<=n:=by
 cases o with
 | none=>exact hd
 | some v =>
  show (if v < 0 then (v+(n:Int)).toNat else min v.toNat n)<=n
  by_cases hv:v < 0
  ·rw [if_pos hv]; omega
  ·rw [if_neg hv]; exact Nat.min_le_right _ _
theorem tm (v:Int) (n d:Nat):(if v < 0 then max (v+(n:Int)) 0 else min v (n:Int))=((sIx n d (some v):Nat):Int):=by
 show (if v < 0 then max (v+(n:Int)) 0 else min v (n:Int))=(((if v < 0 then (v+(n:Int)).toNat else min v.toNat n):Nat):Int)
 by_cases hv:v < 0
 ·simp only [if_pos hv]; omega
 ·simp only [if_neg hv]; omega
theorem rK (lo hi:Option Int) (n:Nat):Builtin.Slice.sliceAdjust lo hi 1 (n:Int)=(((sIx n 0 lo:Nat):Int),((sIx n n hi:Nat):Int)):=by
 have h1:¬ ((1:Int) < 0):=by omega
 unfold Builtin.Slice.sliceAdjust;simp only [h1,if_false];refine Prod.ext ?_ ?_
 ·cases lo with
  | none=>rfl
  | some v=>exact tm v n 0
 ·cases hi with
  | none=>rfl
  | some v=>exact tm v n n
theorem qY (i j:Nat):Builtin.Slice.slicePlaces (i:Int) (j:Int) 1=j - i:=by
 unfold Builtin.Slice.slicePlaces;have h1:(1:Int) > 0:=by omega
 simp only [h1,if_true,Int.ediv_one];split<;>omega
theorem lA {v:Value}{o:Option Int}{Q:Option Int->Shared->Prop} (p:IsPart v o) (h:Q o s):wpAny (model prog w) A (Builtin.Slice.slicePartIndex v) Q E s:=by
 cases p with
 | none=>exact slicePart_none h
 | int i t=>exact slicePart_int h
theorem jv {sl:Addr}{vl vu:Value}{lo hi:Option Int}{n:Nat}{Q:Int×Int×Nat->Shared->Prop} (hs:s.heap.IsSliceOf sl vl vu .none) (pl:IsPart vl lo) (pu:IsPart vu hi)
  (h:Q (((sIx n 0 lo:Nat):Int),1,sIx n n hi - sIx n 0 lo) s):wpAny (model prog w) A (Builtin.Slice.sliceApplied (.ref sl) (pure (n:Int))) Q E s:=by
 obtain ⟨os,hos,hcs,hds⟩:=id hs;unfold Builtin.Slice.sliceApplied Builtin.Slice.sliceFields;refine wpAny_bind (wpAny_bind (wpAny_field hos hds (x:=vl) rfl (wpAny_bind (wpAny_field hos hds (x:=vu) rfl (wpAny_bind (wpAny_field hos hds (x:=.none) rfl (wpAny_pure ?_)))))));refine wpAny_bind (slicePart_none ?_);show wpAny _ _ (if ((1:Int)==0)=true then _ else _) _ _ s;rw [if_neg (by decide)];refine wpAny_bind (lA pl (wpAny_bind (lA pu (wpAny_bind (wpAny_pure ?_)))));show wpAny _ _ (match Builtin.Slice.sliceAdjust lo hi 1 (n:Int) with | (lo,hi)=>pure (lo,(1:Int),Builtin.Slice.slicePlaces lo hi 1)) _ _ s;rw [rK lo hi n];show wpAny _ _ (pure (((sIx n 0 lo:Nat):Int),(1:Int),Builtin.Slice.slicePlaces ((sIx n 0 lo:Nat):Int) ((sIx n n hi:Nat):Int) 1)) _ _ s;rw [qY];exact wpAny_pure h
theorem vV (xs:Array Value) (i k:Nat):((List.range k).filterMap fun (m:Nat)=>xs[((i:Int)+(m:Int) * 1).toNat]?).toArray=((xs.toList.drop i).take k).toArray:=by
 have e:(fun (m:Nat)=>xs[((i:Int)+(m:Int) * 1).toNat]?)=fun m=>xs[i+m]?:=by
  funext m
  have:((i:Int)+(m:Int) * 1).toNat=i+m:=by omega
  rw [this]
 rw [e];have:=pick_run xs i k;rw [List.filterMap_map] at this;have e2:((fun x=>xs[x]?) ∘ fun x=>i+x)=fun m=>xs[i+m]?:=rfl;rw [e2] at this;rw [this]
theorem i4 {t sl:Addr}{items:Array Value}{vl vu:Value}{lo hi:Option Int}{Q:Value->Shared->Prop} (ht:IsTup s.heap t items) (hs:s.heap.IsSliceOf sl vl vu .none) (pl:IsPart vl lo) (pu:IsPart vu hi)
  (hw:¬ (sIx items.size 0 lo=0/\sIx items.size items.size hi=items.size))
  (h:Q (.ref s.heap.objs.size) { s with heap:=s.heap.push { cls:=.type "tuple",data:=.seq ((items.toList.drop (sIx items.size 0 lo)).take (sIx items.size items.size hi - sIx items.size 0 lo)).toArray } })
  (hsz:items.size<=sizeLine):wpAny (model prog w) A (getItem (.ref t) (.ref sl)) Q E s:=by
 have htake:sizeOk (.seq ((items.toList.drop (sIx items.size 0 lo)).take (sIx items.size items.size hi - sIx items.size 0 lo)).toArray):=by
  show ((items.toList.drop (sIx items.size 0 lo)).take (sIx items.size items.size hi - sIx items.size 0 lo)).toArray.size<=sizeLine;rw [List.size_toArray,List.length_take,List.length_drop,Array.length_toList];omega
 have hj:sIx items.size items.size hi<=items.size:=yI _ _ (Nat.le_refl _) hi;obtain ⟨os,hos,hcs,hds⟩:=id hs;have hTs:s.TypeIs (.ref sl) "slice":=⟨os,hos,hcs⟩;unfold getItem
 try with_reducible refine wpAny_holding ?_
 first | refine wpAny_bind (wpAny_pure ?_) | skip
 refine wpAny_bind (wpAny_sequenceKey ht.typeIs (by decide) ?_);refine wpAny_bind (wpAny_callSpecial?_slot (name:=Str.ofString "__getitem__") ht.typeIs PyProof.Rows.slot_tuple_getitem
  (wpAny_call_entry PyProof.Rows.slot_tuple_getitem ht.typeIs entry_tuple_getitem ?_ (args_tuple_getitem _ _)))
 show wpAny _ _ (Builtin.Tuple.tupleItemsOf (.ref t) >>= _) _ _ s;refine wpAny_bind (tupleItemsOf_ ht ?_);refine wpAny_bind (wpAny_typeOf hTs ?_);rw [if_pos (by decide)];refine wpAny_bind (jv hs pl pu ?_);have hno:¬ ((((sIx items.size 0 lo:Nat):Int)==0&&(1:Int)==1&&(sIx items.size items.size hi - sIx items.size 0 lo)==items.size)=true):=by
  intro q;rw [Bool.and_eq_true,Bool.and_eq_true] at q;have q1:((sIx items.size 0 lo:Nat):Int)=0:=eq_of_beq q.1.1;have q2:sIx items.size items.size hi - sIx items.size 0 lo=items.size:=eq_of_beq q.2;exact hw ⟨by omega,by omega⟩
 show wpAny _ _ (if (((sIx items.size 0 lo:Nat):Int)==0&&(1:Int)==1&&(sIx items.size items.size hi - sIx items.size 0 lo)==items.size)=true then _ else _) _ _ s;rw [if_neg hno,vV]
 first
  | exact wpAny_bind (m:=Builtin.Tuple.tupleExact _) (wpAny_newObj_type (wpAny_pure ⟨_,rfl,wpAny_pure h⟩) htake)
  | exact wpAny_bind (m:=Builtin.Tuple.tupleExact _) (wpAny_newObj_type (wpAny_bind (wpAny_pure (wpAny_pure ⟨_,rfl,wpAny_pure h⟩))) htake)
  | exact wpAny_bind (wpAny_bind (m:=Builtin.Tuple.tupleExact _) (wpAny_newObj_type (wpAny_pure (wpAny_pure ⟨_,rfl,wpAny_pure h⟩)) htake))
  | exact wpAny_bind (wpAny_bind (m:=Builtin.Tuple.tupleExact _) (wpAny_newObj_type (wpAny_pure ⟨_,rfl,wpAny_pure h⟩) htake))
end
end HT
namespace L2
open PySem PySem.Spec PyProof.Rows
abbrev TO:=St->Hp->(Option Int->Hp->Prop)->Prop
noncomputable def PO (X:Cx) (e:Option Expr) (t:TO):Prop :=
 ∀ (pins:List (Addr×Obj)) (s:Shared) (σ:St) (H:Hp) (Q:Option Int->Hp->Prop),Inv X pins σ H s->t σ H Q ->
  wpAny (model X.prog X.w) X.A (evalPart e X.env) (fun u s'=>∃ o H',Inv X pins σ H' s'/\IsPart u o/\Q o H') X.xe s
noncomputable def wX:TO:=fun _ H Q=>Q none H
noncomputable def z_ (t:TE):TO:=fun σ H Q=>t σ H fun x H1=>∃ i,x=.int i/\Q (some i) H1
theorem lL {ns:List Int}:∀ {us:List Value},aU (ns.map V.int) us->IntsAre us ns:=by
 induction ns with
 | nil=>intro us r; rw [List.map_nil] at r; cases r; exact .nil
 | cons n ns ih =>
  intro us r;rw [List.map_cons] at r;cases r with
  | cons r1 r2 =>
   obtain ⟨t,e⟩:=r1;subst e;exact .cons n t (ih r2)
section
variable {X:Cx}{e:Expr}{te:TE}{lo hi:Option Expr}{tl th:TO}{pos p2:Pos}
theorem gA:PO X none wX:=by
 intro pins s σ H Q I h;rw [evalPart_none];exact wpAny_pure ⟨none,H,I,.none,h⟩
theorem c8 (h:PE X e te):PO X (some e) (z_ te):=by
 intro pins s σ H Q I hw;rw [evalPart_some];refine bz (h pins s σ H _ I hw) fun u s1 ⟨x,H1,I1,r1,q1⟩=>?_;obtain ⟨i,rfl,q⟩:=q1;obtain ⟨t,rfl⟩:=r1;exact ⟨some i,H1,I1,.int i t,q⟩
noncomputable def zy (X:Cx) (r:V->Option Int->Option Int->Hp->VK->Prop):Prop :=
 ∀ (pins:List (Addr×Obj)) (s:Shared) (σ:St) (H:Hp) (x:V) (v vl vu:Value) (lo hi:Option Int) (sl:Addr) (Q:VK),Inv X pins σ H s->RelV x v->s.heap.IsSliceOf sl vl vu .none->IsPart vl lo->IsPart vu hi->r x lo hi H Q ->
  ∃ T id,typeLookup (.type T) "__getitem__" = pure (some (.builtin id))/\s.TypeIs v T/\wpAny (model X.prog X.w) X.A (getItem v (.ref sl)) (EP X pins σ Q) X.xe s
noncomputable def BH (r:V->Option Int->Option Int->Hp->VK->Prop) (te:TE) (tl th:TO):TE:=fun σ H Q=>te σ H fun x H1=>tl σ H1 fun l H2=>th σ H2 fun u H3=>r x l u H3 Q
theorem dw {r:V->Option Int->Option Int->Hp->VK->Prop} (hr:zy X r) (he:PE X e te) (hl:PO X lo tl) (hu:PO X hi th):PE X (.Subscript e (.Slice lo hi none p2) pos) (BH r te tl th):=by
 intro pins s σ H Q I h;refine Subscript_ (bz (he pins s σ H _ I h) fun v s1 ⟨x,H1,I1,r1,q1⟩=>?_);refine wpAny_Slice (bz (hl pins s1 σ H1 _ I1 q1) fun vl s2 ⟨l,H2,I2,pl,q2⟩=>bz (hu pins s2 σ H2 _ I2 q2) fun vu s3 ⟨u,H3,I3,pu,q3⟩=>?_);rw [evalPart_none];refine wpAny_pure ?_;have I4:Inv X pins σ H3 { s3 with heap:=s3.heap.push { cls:=.type "slice",data:=.fields #[vl,vu,.none] } }:=I3.kept (t':=s3.toks) fun b ob q=>Heap.get?_push_of_some _ q;obtain ⟨T,id,hT,ht,hg⟩:=hr pins { s3 with heap:=s3.heap.push { cls:=.type "slice",data:=.fields #[vl,vu,.none] } } σ H3 x v vl vu l u s3.heap.objs.size Q I4 r1 (Heap.IsSliceOf.new ..) pl pu q3;show wpAny (model X.prog X.w) X.A (subscriptTail e (.Slice lo hi none p2) v (.ref s3.heap.objs.size)) (EP X pins σ Q) X.xe { s3 with heap:=s3.heap.push { cls:=.type "slice",data:=.fields #[vl,vu,.none] } };exact tail_any (ops:=[.ref s3.heap.objs.size,v]) ht hT hg (by with_unfolding_all rfl)
noncomputable def im (xs:List V) (lo hi:Option Int):List V:=(xs.drop (HT.sIx xs.length 0 lo)).take (HT.sIx xs.length xs.length hi - HT.sIx xs.length 0 lo)
theorem jR (xs:List V) (lo hi:Option Int):(im xs lo hi).length<=xs.length:=by
 unfold im;rw [List.length_take,List.length_drop];omega
noncomputable def zJ (K:Frag):V->Option Int->Option Int->Hp->VK->Prop:=fun x lo hi H Q=>∃ a xs,x=.ref a/\bu K H a xs /\
 ¬ (HT.sIx xs.length 0 lo=0/\HT.sIx xs.length xs.length hi=xs.length)/\∀ p,H p=none->Q (.ref p) (aA H p (.tup (im xs lo hi)))
theorem yD:zy X (zJ X.K):=by
 intro pins s σ H x v vl vu lo hi sl Q I rx hs pl pu h;obtain ⟨a,xs,rfl,hx,hw,q⟩:=h;cases rx;obtain ⟨its,r,ht,hz⟩:=I.tuple hx;have hlen:its.toArray.size=xs.length:=by rw [List.size_toArray]; exact r.length.symm
 refine ⟨"tuple",_,PyProof.Rows.slot_tuple_getitem.lookup,ht.typeIs,?_⟩;refine HT.i4 ht hs pl pu (by rw [hlen]; exact hw) ?_ (by rw [hlen]; exact hz);rw [hlen];refine ⟨.ref s.heap.objs.size,_,I.laid (t':=s.toks) (o:=.tup (im xs lo hi)) (fun b ob q=>Heap.get?_push_of_some _ q) (Nat.le_refl _) ?_,rfl,q _ (I.hok.fresh (Nat.le_refl _))⟩;exact ⟨Nat.le_trans (jR xs lo hi) hz,_,(r.drop (HT.sIx xs.length 0 lo)).take (HT.sIx xs.length xs.length hi - HT.sIx xs.length 0 lo),IsTup.new _ _⟩
noncomputable def Ak (K:Frag):R2:=fun x y H Q=>∃ a b xs ys,x=.ref a/\y=.ref b/\bu K H a xs/\bu K H b ys/\xs≠[]/\xs.length+ys.length<=sizeLine /\
 (ys=[]->Q (.ref a) H)/\(ys≠[]->∀ p,H p=none->Q (.ref p) (aA H p (.tup (xs++ys))))
theorem aU.nil_iff {xs:List V}{us:List Value} (r:aU xs us):us=[]↔xs=[]:=by
 cases r with
 | nil=>simp
 | cons _ _=>simp
theorem xi:eU X (binaryOp .Add) (Ak X.K):=by
 intro pins s σ H x y v u Q I rx ry h;obtain ⟨a,b,xs,ys,rfl,rfl,ha,hb,hx,hz,q1,q2⟩:=h;cases rx;cases ry;obtain ⟨its,r1,p1,_⟩:=I.tuple ha;obtain ⟨its2,r2,p2,_⟩:=I.tuple hb;refine HT.xC p1 p2 (fun z=>hx (r1.nil_iff.mp z)) (fun z=>⟨.ref a,H,I,rfl,q1 (r2.nil_iff.mp z)⟩) (fun z=>?_) (by rw [<- r1.length,<- r2.length]; exact hz);refine ⟨.ref s.heap.objs.size,_,I.laid (t':=s.toks) (o:=.tup (xs++ys)) (fun b ob q=>Heap.get?_push_of_some _ q) (Nat.le_refl _) ?_,rfl,q2 (fun w=>z (r2.nil_iff.mpr w)) _ (I.hok.fresh (Nat.le_refl _))⟩;exact ⟨by rw [List.length_append]; exact hz,_,r1.append r2,IsTup.new _ _⟩
end
noncomputable def wK (n:Nat) (i:Int):Option Nat:=if 0<=i then (if i < n then some i.toNat else none) else if -(n:Int)<=i then some (i+n).toNat else none
noncomputable def il {α:Type} (xs:List α) (i:Int):Option α:=(wK xs.length i).bind fun j=>xs[j]?
theorem sS {n:Nat}{i:Int}{j:Nat} (h:wK n i=some j):seqIndex? i n=some j/\j < n /\ -(n:Int)<=i/\i < n:=by
 unfold wK at h
 by_cases h0:0<=i
 ·rw [if_pos h0] at h
  by_cases h1:i < n
  ·rw [if_pos h1] at h
   have e:i.toNat=j:=Option.some.inj h;exact ⟨by rw [seqIndex_of h0 h1,e],by omega,by omega,h1⟩
  ·rw [if_neg h1] at h; cases h
 ·rw [if_neg h0] at h
  by_cases h1:-(n:Int)<=i
  ·rw [if_pos h1] at h
   have e:(i+n).toNat=j:=Option.some.inj h;exact ⟨by rw [seqIndex_neg (by omega) h1,e],by omega,h1,by omega⟩
  ·rw [if_neg h1] at h; cases h
theorem oq {α:Type}{xs:List α}{i:Int}{v:α} (h:il xs i=some v):∃ j,seqIndex? i xs.length=some j/\xs[j]? = some v/\j < xs.length /\ -(xs.length:Int)<=i/\i < xs.length:=by
 unfold il at h;cases e:wK xs.length i with
 | none=>rw [e] at h; cases h
 | some j =>
  rw [e] at h;obtain ⟨h1,h2,h3,h4⟩:=sS e;exact ⟨j,h1,h,h2,h3,h4⟩
theorem bT {α:Type}{xs:List α}{j:Nat}{v:α} (h:xs[j]? = some v):il xs (j:Int)=some v:=by
 have hj:j < xs.length:=(List.getElem?_eq_some_iff.mp h).1;have e:wK xs.length (j:Int)=some j:=by
  unfold wK;rw [if_pos (by omega),if_pos (by omega)]; simp
 unfold il; rw [e]; exact h
noncomputable def xG (b:Expr):Prop:=∀ o i,subscripted b false o i=operate [o,i] (getItem o i)
noncomputable def zq (X:Cx) (r:R2):Prop :=
 ∀ (value slice:Expr) (pins:List (Addr×Obj)) (s:Shared) (σ:St) (H:Hp) (x y:V) (v u:Value) (Q:VK),Inv X pins σ H s->RelV x v->RelV y u->r x y H Q ->
  subscripted slice false v u=operate [v,u] (getItem v u)->wpAny (model X.prog X.w) X.A (subscriptTail value slice v u) (EP X pins σ Q) X.xe s
noncomputable def zB (X:Cx) (id:String) (r:V->List V->Hp->VK->Prop):Prop :=
 ∀ (pins:List (Addr×Obj)) (s:Shared) (σ:St) (H:Hp) (x:V) (xs:List V) (v:Value) (us:List Value) (Q:VK),Inv X pins σ H s->RelV x v->aU xs us->r x xs H Q ->
  wpAny (model X.prog X.w) X.A (call (.builtin id) (v :: us)) (EP X pins σ Q) X.xe s
section
variable {X:Cx}{a b:Expr}{ta tb:TE}{pos:Pos}
theorem ax {r:R2} (hr:zq X r) (ha:PE X a ta) (hb:PE X b tb) (hs:xG b):PE X (.Subscript a b pos) (wF r ta tb):=by
 intro pins s σ H Q I h;exact Subscript_ (yn ha hb I h fun v u s2 x y H2 I2 rx ry q=>hr a b pins s2 σ H2 x y v u Q I2 rx ry q (hs _ _))
noncomputable def Bg (K:Frag):R2:=fun x y H Q=>∃ p xs i v,x=.ref p/\y=.int i/\a9 K H p xs/\il xs i=some v/\Q v H
noncomputable def Be (K:Frag):R2:=fun x y H Q=>∃ p xs i v,x=.ref p/\y=.int i/\bu K H p xs/\il xs i=some v/\Q v H
noncomputable def Bf:R2:=fun x y H Q=>∃ z i c,x=.str z/\y=.int i/\z.length<=sizeLine/\il z.cps.toList i=some c/\Q (.str ⟨#[c]⟩) H
theorem xt:zq X (Bg X.K):=by
 intro value slice pins s σ H x y v u Q I rx ry h hs;obtain ⟨p,xs,i,z,rfl,rfl,hq,he,q⟩:=h;cases rx;obtain ⟨t,rfl⟩:=ry;obtain ⟨its,r,pl,hz⟩:=I.list hq;obtain ⟨j,h1,h2,h3,h4,h5⟩:=oq he;obtain ⟨w,ew,rw'⟩:=r.get h2;have hl:=r.length;have hn:=i9;have fin:EP X pins σ Q w s:=⟨z,H,I,rw',q⟩
 by_cases h0:0<=i
 ·have hj:i.toNat=j:=by
   rw [seqIndex_of h0 h5] at h1;exact Option.some.inj h1
  exact item_listR pl.isList h0 (by omega) (by rw [hj]; simpa using ew) fin hs
 ·have hj:(i+(its.toArray.size:Int)).toNat=j:=by
   rw [seqIndex_neg (by omega) h4] at h1;rw [List.size_toArray,<- hl];exact Option.some.inj h1
  exact subscriptTail_builtinR (x:=w) pl.isList.typeIs slot_list_getitem.lookup
   (wpAny_getItem_list_neg (Q:=fun r s'=>r=w/\EP X pins σ Q r s') pl.isList (by omega) (by rw [List.size_toArray]<;>omega) (by omega) (by rw [hj]; simpa using ew) ⟨rfl,fin⟩) hs
theorem y_:zq X (Be X.K):=by
 intro value slice pins s σ H x y v u Q I rx ry h hs;obtain ⟨p,xs,i,z,rfl,rfl,hq,he,q⟩:=h;cases rx;obtain ⟨t,rfl⟩:=ry;obtain ⟨its,r,pl,hz⟩:=I.tuple hq;obtain ⟨j,h1,h2,h3,h4,h5⟩:=oq he;obtain ⟨w,ew,rw'⟩:=r.get h2;have hl:=r.length;have hn:=i9;have fin:EP X pins σ Q w s:=⟨z,H,I,rw',q⟩;exact subscriptTail_builtinR (x:=w) pl.typeIs slot_tuple_getitem.lookup
  (getItem_tuple (j:=j) (Q:=fun r s'=>r=w/\EP X pins σ Q r s') pl (by omega) (by omega) (by rw [List.size_toArray,<- hl]; exact h1) (by simpa using ew) ⟨rfl,fin⟩) hs
theorem za:zq X Bf:=by
 intro value slice pins s σ H x y v u Q I rx ry h hs;obtain ⟨z,i,c,rfl,rfl,hz,he,q⟩:=h;obtain ⟨t,rfl⟩:=rx;obtain ⟨t',rfl⟩:=ry;obtain ⟨j,h1,h2,h3,h4,h5⟩:=oq he;have hl:z.cps.toList.length=z.length:=by simp [Str.length]
 rw [hl] at h1 h4 h5;have hn:=i9;exact tail_any (typeIs_str s z t) slot_str_getitem.lookup (getItem_str (c:=c) (by
  have e1:decide (i < -(2 ^ 63:Int))=false:=decide_eq_false (by omega);have e2:decide (i>=2 ^ 63)=false:=decide_eq_false (by omega);rw [e1,e2,Bool.or_false]) (by rw [h1]; simpa using h2) ⟨.str ⟨#[c]⟩,H,I.tok _,⟨_,rfl⟩,q⟩) hs
theorem rf (its:List Value) (n j:Nat) (u:Value):Obj.mapSeq (·.setIfInBounds j u) { cls:=.type "list",data:=.seq its.toArray n }={ cls:=.type "list",data:=.seq (its.set j u).toArray n }:=by
 simp [Obj.mapSeq]
theorem Inv.lst {pins:List (Addr×Obj)}{σ:St}{H:Hp}{s:Shared}{p:Addr}{xs:List V} (I:Inv X pins σ H s) (h:H p=some (.lst xs)) :
  ∃ (its:List Value) (n:Nat),aU xs its/\s.heap.get? p=some { cls:=.type "list",data:=.seq its.toArray n }/\xs.length<=sizeLine:=by
 obtain ⟨z,its,n,r,e⟩:=I.hok p _ h;exact ⟨its,n,r,e,z⟩
theorem Inv.lstUpd {pins:List (Addr×Obj)}{σ:St}{H:Hp}{s:Shared}{p:Addr}{xs ys:List V}{its its':List Value}{n n':Nat}{f:Obj->Obj} (I:Inv X pins σ H s) (h:H p=some (.lst xs))
  (ho:s.heap.get? p=some { cls:=.type "list",data:=.seq its.toArray n }) (hf:f { cls:=.type "list",data:=.seq its.toArray n }={ cls:=.type "list",data:=.seq its'.toArray n' }) (r:aU ys its') (hz:ys.length<=sizeLine) (t:Nat) :
  Inv X pins σ (aA H p (.lst ys)) { s with heap:=s.heap.update p f,toks:=t }:=by
 have e:(s.heap.update p f).get? p=some { cls:=.type "list",data:=.seq its'.toArray n' }:=by
  rw [Heap.get?_update_self f ho (by rw [hf]<;>rfl),hf]
 refine I.write (x:=p) (e:=p) (by rw [h]; trivial) (.inl rfl) (fun b u hb q=>(Heap.get?_update_other _ _ (Ne.symm hb)).trans q) ⟨_,e⟩ ?_;exact ⟨hz,its',n',r,e⟩
noncomputable def Ai:V->V->V->Hp->(Hp->Prop)->Prop:=fun o i v H Q=>∃ p xs k j,o=.ref p/\i=.int k/\H p=some (.lst xs)/\wK xs.length k=some j/\Q (aA H p (.lst (xs.set j v)))
theorem eO:zS X Ai:=by
 intro pins s σ H o i v ov iv u Q I ro ri rv h;obtain ⟨p,xs,k,j,rfl,rfl,hp,hj,q⟩:=h;cases ro;obtain ⟨t,rfl⟩:=ri;obtain ⟨its,n,r,ho,hz⟩:=I.lst hp;obtain ⟨h1,h2,h3,h4⟩:=sS hj;have hl:=r.length;have hn:=i9;have I':Inv X pins σ (aA H p (.lst (xs.set j v))) { s with heap:=s.heap.update p (Obj.mapSeq (·.setIfInBounds j u)) } :=
  I.lstUpd hp ho (rf its n j u) (r.set rv j) (by rw [List.length_set]; exact hz) s.toks
 by_cases h0:0<=k
 ·have hk:k.toNat=j:=by
   rw [seqIndex_of h0 h4] at h1;exact Option.some.inj h1
  exact PySem.W.ki_setAt ho h0 (by omega) (by rw [List.size_toArray,<- hl]; exact h4) (by rw [hk]; exact ⟨_,I',q⟩)
 ·have hk:(k+(its.toArray.size:Int)).toNat=j:=by
   rw [seqIndex_neg (by omega) h3] at h1;rw [List.size_toArray,<- hl];exact Option.some.inj h1
  exact PySem.W.ki_setBack ho (by omega) (by rw [List.size_toArray,<- hl]; exact h3) (by omega) (by rw [hk]; exact ⟨_,I',q⟩)
theorem ox (lo hi:Option Int) (n:Nat):(sliceBounds lo hi none n).1=((HT.sIx n 0 lo:Nat):Int)/\(sliceBounds lo hi none n).2.1=((HT.sIx n n hi:Nat):Int)/\(sliceBounds lo hi none n).2.2=1:=by
 refine ⟨?_,?_,rfl⟩
 ·cases lo with
  | none=>simp [sliceBounds,HT.sIx]
  | some i =>
   simp only [sliceBounds,HT.sIx,Option.getD_none,show (1:Int) > 0 by decide,if_true]
   by_cases h:i < 0
   ·simp only [h,if_true]<;>omega
   ·simp only [h,if_false]<;>omega
 ·cases hi with
  | none=>simp [sliceBounds,HT.sIx]
  | some i =>
   simp only [sliceBounds,HT.sIx,Option.getD_none,show (1:Int) > 0 by decide,if_true]
   by_cases h:i < 0
   ·simp only [h,if_true]<;>omega
   ·simp only [h,if_false]<;>omega
theorem ma (its:List Value) (lo hi:Option Int):slicePick its.toArray lo hi none=((its.drop (HT.sIx its.length 0 lo)).take (HT.sIx its.length its.length hi - HT.sIx its.length 0 lo)).toArray:=by
 obtain ⟨h1,h2,h3⟩:=ox lo hi its.toArray.size;unfold slicePick;rw [h1,h2,h3];simp only [sliceRange_one,pick_run,List.size_toArray]<;>rfl
noncomputable def Bb (K:Frag):V->Option Int->Option Int->Hp->VK->Prop:=fun x lo hi H Q=>∃ a xs,x=.ref a/\a9 K H a xs/\∀ p,H p=none->Q (.ref p) (aA H p (.lst (im xs lo hi)))
theorem wY:zy X (Bb X.K):=by
 intro pins s σ H x v vl vu lo hi sl Q I rx hs pl pu h;obtain ⟨a,xs,rfl,hx,q⟩:=h;cases rx;obtain ⟨its,r,ht,hz⟩:=I.list hx;have hlen:=r.length;refine ⟨"list",_,slot_list_getitem.lookup,ht.isList.typeIs,?_⟩;refine wpAny_getItem_list_slice ht.isList hs pl pu .none (by simp) ?_ (by rw [List.size_toArray]<;>omega);rw [ma,<- hlen];refine ⟨.ref s.heap.objs.size,_,I.laid (t':=s.toks) (o:=.lst (im xs lo hi)) (fun b ob q=>Heap.get?_push_of_some _ q) (Nat.le_refl _) ?_,rfl,q _ (I.hok.fresh (Nat.le_refl _))⟩;exact ⟨Nat.le_trans (jR xs lo hi) hz,_,0,(r.drop (HT.sIx xs.length 0 lo)).take (HT.sIx xs.length xs.length hi - HT.sIx xs.length 0 lo),Heap.get?_push_size _ rfl⟩
theorem oX:cE X (.builtin "len") (fun xs H Q=>∃ p ys,xs=[.ref p]/\(a9 X.K H p ys\/bu X.K H p ys)/\Q (.int ys.length) H):=by
 intro pins s σ H xs us Q I r h;obtain ⟨p,ys,rfl,hq,q⟩:=h;obtain ⟨u,rfl,rx⟩:=fY r;cases rx;have hn:=i9;rcases hq with hq | hq
 ·obtain ⟨its,r',pl,hz⟩:=I.list hq
  have hlen:=r'.length;exact Calls.call_len_list pl.isList (by simp only [List.size_toArray]<;>omega) ⟨.int ys.length,H,I.tok _,⟨s.toks+1,by rw [List.size_toArray,hlen]⟩,q⟩
 ·obtain ⟨its,r',pl,hz⟩:=I.tuple hq
  have hlen:=r'.length;exact len_tuple pl (by simp only [List.size_toArray]<;>omega) ⟨.int ys.length,H,I.tok _,⟨s.toks+1,by rw [List.size_toArray,hlen]⟩,q⟩
theorem oW:cE X (.builtin "len") (fun xs H Q=>∃ z,xs=[.str z]/\z.length<=sizeLine/\Q (.int z.length) H):=by
 intro pins s σ H xs us Q I r h;obtain ⟨z,rfl,hz,q⟩:=h;obtain ⟨u,rfl,t,rfl⟩:=fY r;have hn:=i9;exact len_str (by omega) ⟨.int z.length,H,I.tok _,⟨_,rfl⟩,q⟩
theorem iW:cE X (.type "list") (fun xs H Q=>∃ p ys,xs=[.ref p]/\(a9 X.K H p ys\/bu X.K H p ys)/\∀ l,H l=none->Q (.ref l) (aA H l (.lst ys))):=by
 intro pins s σ H xs us Q I r h;obtain ⟨p,ys,rfl,hq,q⟩:=h;obtain ⟨u,rfl,rx⟩:=fY r;cases rx;have fin:∀ (its:List Value),aU ys its->ys.length<=sizeLine->∀ (h':Heap) (c':Nat),(∀ b o',s.heap.get? b=some o'->h'.get? b=some o') ->
   h'.get? s.heap.objs.size=some { cls:=.type "list",dict:=none,data:=.seq its.toArray c',slots:=#[] }->EP X pins σ Q (.ref s.heap.objs.size) { s with heap:=h' }:=fun its r' hz h' c' kp e =>
  ⟨.ref s.heap.objs.size,_,I.laid (t':=s.toks) kp (Nat.le_refl _) (show bq X.prog X.w _ h' _ (.lst ys) from ⟨hz,its,c',r',e⟩),rfl,q _ (I.hok.fresh (Nat.le_refl _))⟩
 rcases hq with hq | hq
 ·obtain ⟨its,r',pl,hz⟩:=I.list hq
  have hlen:=r'.length;obtain ⟨o,ho,hc,n,hd⟩:=pl.isList;exact call_list_seq p (.inl rfl) ho hc hd (fun h' c' kp e=>fin its r' hz h' c' kp e) (by simp only [List.size_toArray]<;>omega)
 ·obtain ⟨its,r',pl,hz⟩:=I.tuple hq
  have hlen:=r'.length;obtain ⟨o,ho,hc,n,hd⟩:=pl;exact call_list_seq p (.inr rfl) ho hc hd (fun h' c' kp e=>fin its r' hz h' c' kp e) (by simp only [List.size_toArray]<;>omega)
noncomputable def AB (K:Frag) (T:String) (x:V) (H:Hp):Prop:=match x with
 | .str _=>T = "str"
 | .int _=>T = "int"
 | .ref p=>(T = "list" /\ ∃ xs,a9 K H p xs)\/(T = "tuple" /\ ∃ o,K.lookup p=some o/\o.cls=.type "tuple" /\ o.dict=none) \/
   (T = "dict" /\ ((∃ kvs,H p=some (.dK kvs))\/∃ kvs,H p=some (.dT kvs)))\/(T = "set" /\ ∃ S n,H p=some (.set S n))
 | _=>False
theorem u7 {pins:List (Addr×Obj)}{σ:St}{H:Hp}{s:Shared}{T:String}{x:V}{v:Value} (I:Inv X pins σ H s) (r:RelV x v) (ty:AB X.K T x H) :
  s.TypeIs v T/\∀ a,v=.ref a->∃ ob,s.heap.get? a=some ob/\ob.dict=none:=by
 cases x with
 | str z =>
  obtain ⟨t,rfl⟩:=r;cases (show T = "str" from ty);exact ⟨typeIs_str s z t,fun _ e=>nomatch e⟩
 | int i =>
  obtain ⟨t,rfl⟩:=r;cases (show T = "int" from ty);exact ⟨typeIs_int s i t,fun _ e=>nomatch e⟩
 | ref p =>
  cases r;rcases ty with ⟨rfl,xs,hq⟩ | ⟨rfl,o,hk,hc,hd⟩ | ⟨rfl,hk⟩ | ⟨rfl,S,n,hk⟩
  ·obtain ⟨its,_,pl,_⟩:=I.list hq
   refine ⟨pl.isList.typeIs,fun a e=>?_⟩;cases e;obtain ⟨o,n,e,c,hd,_⟩:=pl;exact ⟨o,e,hd⟩
  ·refine ⟨⟨o,I.kIn p o hk,hc⟩,fun a e=>?_⟩
   cases e;exact ⟨o,I.kIn _ o hk,hd⟩
  ·have z:∃ o,s.heap.get? p=some o/\o.ExactDict:=by
    rcases hk with ⟨kvs,hk⟩ | ⟨kvs,hk⟩
    ·obtain ⟨_,_,_,_,o,_,_,e,ex,_⟩:=I.hok p _ hk
     exact ⟨o,e,ex⟩
    ·obtain ⟨_,_,_,_,o,_,_,e,ex,_⟩:=I.hok p _ hk
     exact ⟨o,e,ex⟩
   obtain ⟨o,e,ex⟩:=z;refine ⟨⟨o,e,ex.1⟩,fun a e2=>?_⟩;cases e2;exact ⟨o,e,ex.2.1⟩
  ·obtain ⟨o,_,_,_,e,ex,_⟩:=I.hok p _ hk
   refine ⟨⟨o,e,ex.1⟩,fun a e2=>?_⟩;cases e2;exact ⟨o,e,ex.2.1⟩
 | _=>exact False.elim ty
noncomputable def A9 (K:Frag) (T:String) (r:V->List V->Hp->VK->Prop) (to:TE):TE:=fun σ H Q=>to σ H fun x H1=>AB K T x H1/\r x [] H1 Q
noncomputable def AR (K:Frag) (T:String) (r:V->List V->Hp->VK->Prop) (to:TE) (t:TA):TE:=fun σ H Q=>to σ H fun x H1=>AB K T x H1/\t σ H1 fun xs H2=>r x xs H2 Q
variable {o e:Expr}{es:List Expr}{to:TE}{t:TA}{name:Str}{apos cpos:Pos}{T id:String}{r:V->List V->Hp->VK->Prop}
theorem yO (pa:PlainAttrs T) (slot:Slot T name id) (hty:typeOf (.builtin id)=pure (.type "method_descriptor")) (hm:zB X id r) (ho:PE X o to)
  (hbase:attributeBase o name X.env (eval o X.env)=eval o X.env:=by rfl) (hline:(apos.endLine==cpos.line)=true:=by rfl):PE X (.Call (.Attribute o name apos) [] [] cpos) (A9 X.K T r to):=by
 intro pins s σ H Q I h;refine wpAny_Call_method0_late hbase hline (bz (ho pins s σ H _ I h) fun v s1 ⟨x,H1,I1,r1,ty,q1⟩=>?_);obtain ⟨h1,h2⟩:=u7 I1 r1 ty;exact ⟨T,id,pa,slot,hty,h1,h2,Calls.callWith_builtin rfl (PySem.evalArgs_none (hm pins s1 σ H1 x [] v [] Q I1 r1 .nil q1))⟩
theorem eW (pa:PlainAttrs T) (slot:Slot T name id) (hty:typeOf (.builtin id)=pure (.type "method_descriptor")) (hm:zB X id r) (ho:PE X o to) (ha:PA X (e :: es) t)
  (hbase:attributeBase o name X.env (eval o X.env)=eval o X.env:=by rfl)
  (hfew:((backTo cpos (starEach (e :: es) X.env)).all (fun x=>!x.1)&&(backToKw cpos (keywordEach [] X.env)).all (fun x=>x.1.isSome)
   && decide ((e :: es).length+([]:List Keyword).length+(if ([]:List Keyword).isEmpty then 0 else 1) < 30))=true:=by rfl)
  (hline:(apos.endLine==cpos.line)=true:=by rfl) (hs:starEach (e :: es) X.env=(false,eval e X.env) :: starEach es X.env:=by rfl) (hplain:(backTo cpos (starEach es X.env)).any (·.1)=false:=by rfl) :
  PE X (.Call (.Attribute o name apos) (e :: es) [] cpos) (AR X.K T r to t):=by
 intro pins s σ H Q I h;refine wpAny_Call_method_late hbase hfew hline rfl (bz (ho pins s σ H _ I h) fun v s1 ⟨x,H1,I1,r1,ty,q1⟩=>?_);obtain ⟨h1,h2⟩:=u7 I1 r1 ty;refine ⟨T,id,pa,slot,hty,h1,h2,?_⟩;have hA:=ha cpos pins s1 σ H1 _ I1 q1;rw [hs] at hA ⊢;refine Calls.callWith_builtin (by show (false || (backTo cpos (starEach es X.env)).any (·.1))=false; rw [hplain]<;>rfl) (Calls.evalArgs_plain ?_);exact bz hA fun us s2 ⟨vs,H2,I2,r2,q2⟩=>hm pins s2 σ H2 x vs v us Q I2 r1 r2 q2
/- xs.append(e),list.index on a module's tuple .. are zB facts of 06m -/
end
noncomputable def BE (X:Cx) (id:String) (r:V->List V->Hp->VK->Prop):Prop :=
 ∀ (pins:List (Addr×Obj)) (s:Shared) (σ:St) (H:Hp) (x:V) (xs:List V) (v:Value) (us:List Value) (Q:VK),Inv X pins σ H s->RelV x v->aU xs us->r x xs H Q ->
  wpAny (model X.prog X.w) X.A (call (.builtin id) (v :: us)) (EP X pins σ Q) X.xe s
theorem aU.one:∀ {x:V}{us:List Value},aU [x] us->∃ u,us=[u]/\RelV x u
 | _,_,.cons r .nil=>⟨_,rfl,r⟩
theorem aU.two {x y : V}{us : List Value} (h : aU [x,y] us) : ∃ u v,us=[u,v]/\RelV x u/\RelV y v := by
 cases h with
 | cons r t =>
  cases t with
  | cons q t => cases t; exact ⟨_,_,rfl,r,q⟩
theorem aU.rep {xs:List V}{us:List Value} (h:aU xs us):∀ k:Nat,aU (List.replicate k xs).flatten (List.replicate k us).flatten
 | 0=>.nil
 | k+1=>by
  rw [List.replicate_succ,List.replicate_succ,List.flatten_cons,List.flatten_cons];exact aU.append h (aU.rep h k)
theorem mZ (its:List Value):∀ (k:Nat) (acc:List Value),
  List.foldl (fun x1 x2=>x1++x2) acc.toArray (List.replicate k its.toArray)=(acc++(List.replicate k its).flatten).toArray
 | 0,acc=>by simp
 | k+1,acc=>by
  have e:acc.toArray++its.toArray=(acc++its).toArray:=by simp
  have e2:(acc++its)++(List.replicate k its).flatten=acc++(List.replicate (k+1) its).flatten:=by
   rw [List.replicate_succ,List.flatten_cons,List.append_assoc]
  rw [<- e2,<- mZ its k (acc++its),<- e,List.replicate_succ,List.foldl_cons]
section
variable {X:Cx}{pins:List (Addr×Obj)}{σ:St}{H:Hp}{s:Shared}{l b:Addr}{xs ys zs:List V}
theorem Inv.lset {its its':List Value}{n:Nat}{f:Array Value->Array Value}{t':Nat} (I:Inv X pins σ H s) (hH:H l=some (.lst xs))
  (e:s.heap.get? l=some { cls:=.type "list",data:=.seq its.toArray n }) (hf:f its.toArray=its'.toArray) (hv:aU ys its') (hz:ys.length<=sizeLine) :
  Inv X pins σ (aA H l (.lst ys)) { s with heap:=s.heap.update l (Obj.mapSeq f),toks:=t' }:=by
 have q:=PySem.IsL.update e f;rw [hf] at q;refine I.write (x:=l) (e:=l) (by rw [hH]; exact trivial) (.inl rfl) (fun b' u hb hu=>(Heap.get?_update_other s.heap (Obj.mapSeq f) (Ne.symm hb)).trans hu) ⟨_,q⟩ ?_;exact ⟨hz,its',_,hv,q⟩
theorem Inv.lnew {its:List Value}{t':Nat} (I:Inv X pins σ H s) (hv:aU ys its) (hz:ys.length<=sizeLine) :
  Inv X pins σ (aA H s.heap.objs.size (.lst ys)) { s with heap:=s.heap.push { cls:=.type "list",data:=.seq its.toArray },toks:=t' } :=
 I.laid (fun _ _ q=>Heap.get?_push_of_some _ q) (Nat.le_refl _) ⟨hz,its,0,hv,Heap.get?_push_size _ rfl⟩
theorem Inv.fresh (I:Inv X pins σ H s):H s.heap.objs.size=none:=I.hok.fresh (Nat.le_refl _)
theorem Inv.lstM (I:Inv X pins σ H s) (hH:H l=some (.lst xs)):xs.length<=sizeLine/\∃ (its:List Value) (n:Nat),aU xs its/\xs.length=its.length/\s.heap.get? l=some { cls:=.type "list",data:=.seq its.toArray n }:=by
 obtain ⟨z,its,n,r,e⟩:=I.hok l _ hH;exact ⟨z,its,n,r,r.length,e⟩
theorem v8 {n:Nat} (h:n<=sizeLine):Builtin.List.listTooLong n=false:=by
 unfold Builtin.List.listTooLong;exact decide_eq_false (by omega)
end
section
variable {X:Cx}
noncomputable def nY:V->List V->Hp->VK->Prop:=fun x vs H Q=>∃ l xs y,x=.ref l/\vs=[y]/\H l=some (.lst xs)/\xs.length < sizeLine/\Q .non (aA H l (.lst (xs++[y])))
theorem bG:BE X "list.append" nY:=by
 intro pins s σ H x vs v us Q I rx rv h;obtain ⟨l,xs,y,rfl,rfl,hH,hz,q⟩:=h;cases rx;obtain ⟨u,rfl,ru⟩:=rv.one;obtain ⟨z,its,n,r,hl,e⟩:=I.lstM hH;refine call_meets F.slot_list_append ⟨_,e,rfl⟩ F.entry_list_append (F.args_list_append_2 _ _) (PySem.list_append l its.toArray n u (by rw [List.size_toArray]; omega)) ⟨e,?_⟩;refine ⟨.non,_,I.lset (its':=its++[u]) hH e (by simp) (r.append (.cons ru .nil)) ?_,rfl,q⟩;rw [List.length_append,List.length_singleton];omega
noncomputable def Bh:R2:=fun x y H Q=>∃ l b xs zs,x=.ref l/\y=.ref b/\H l=some (.lst xs)/\H b=some (.lst zs)/\xs.length+zs.length<=sizeLine/\∀ p,H p=none->Q (.ref p) (aA H p (.lst (xs++zs)))
theorem yV:eU X (binaryOp .Add) Bh:=by
 intro pins s σ H x y v u Q I rx ry h;obtain ⟨l,b,xs,zs,rfl,rfl,hH,hB,hz,q⟩:=h;cases rx;cases ry;obtain ⟨z,its,n,r,hl,e⟩:=I.lstM hH;obtain ⟨z2,its2,n2,r2,hl2,e2⟩:=I.lstM hB;refine PySem.P.add_list e e2 ?_ (by rw [List.size_toArray,List.size_toArray]; omega);have ea:its.toArray++its2.toArray=(its++its2).toArray:=by simp
 rw [ea];exact ⟨.ref _,_,I.lnew (t':=s.toks) (r.append r2) (by rw [List.length_append]; omega),rfl,q _ I.fresh⟩
noncomputable def Bc:R2:=fun x y H Q=>∃ l k xs,x=.ref l/\y=.int k/\H l=some (.lst xs) /\ -(2 ^ 63)<=k/\k < 2 ^ 63/\xs.length * k.toNat<=sizeLine /\
 ∀ p,H p=none->Q (.ref p) (aA H p (.lst (List.replicate k.toNat xs).flatten))
theorem xo {α:Type} (xs:List α) (k:Nat):(List.replicate k xs).flatten.length=k * xs.length:=by
 induction k with
 | zero=>simp
 | succ k ih=>rw [List.replicate_succ,List.flatten_cons,List.length_append,ih,Nat.succ_mul,Nat.add_comm]
theorem yR:eU X (binaryOp .Mult) Bc:=by
 intro pins s σ H x y v u Q I rx ry h;obtain ⟨l,k,xs,rfl,rfl,hH,h1,h2,hz,q⟩:=h;cases rx;obtain ⟨t,rfl⟩:=ry;obtain ⟨z,its,n,r,hl,e⟩:=I.lstM hH;have hlen:its.toArray.size * k.toNat<=sizeLine:=by rw [List.size_toArray,<- hl]; exact hz
 have hcap:¬ its.toArray.size * k.toNat > (2 ^ 63 - 1) / 8:=by
  have:(sizeLine:Nat)<=(2 ^ 63 - 1) / 8:=by decide
  omega
 have hfit:¬ (!Builtin.List.listFitsIndex k)=true:=by
  rw [fitsIndex_both h1 h2];exact Bool.false_ne_true
 have hlong:¬ Builtin.List.listTooLong (its.toArray.size * k.toNat)=true:=by
  rw [v8 hlen];exact Bool.false_ne_true
 have hnew:List.foldl (fun x1 x2=>x1++x2) #[] (List.replicate (if its.toArray.isEmpty=true then 0 else k.toNat) its.toArray)=(List.replicate k.toNat its).flatten.toArray:=by
  have f0:∀ m:Nat,List.foldl (fun x1 x2=>x1++x2) #[] (List.replicate m its.toArray)=(List.replicate m its).flatten.toArray:=fun m=>by
   have:=mZ its m [];rw [List.nil_append] at this;exact this
  rw [f0];cases its with
  | nil=>simp
  | cons a r'=>rw [if_neg (by simp)]
 refine wpAny_binaryOp_repeat_ref (T:="list") (U:="int") (by decide) ⟨_,e,rfl⟩ (fun s'=>typeIs_int s' k t) noFill_list_mul F.fills_int_mul F.slot_int_rmul repeat_list F.slot_int_index.lookup
  (call_meets F.slot_int_rmul (typeIs_int s k t) F.entry_int_rmul (F.args_int_rmul_2 _ _) (int___rmul___int_list k t l its.toArray n)
   ⟨e,rfl,⟨_,e,rfl⟩,call_meets F.slot_list_mul ⟨_,e,rfl⟩ F.entry_list_mul (F.args_list_mul_2 _ _) (AutoListH.list___mul___list_int_3 l its.toArray n k t hfit hcap hlong) ⟨e,?_⟩⟩)
 rw [hnew];exact ⟨.ref _,_,I.lnew (t':=s.toks) (r.rep k.toNat) (by rw [xo,Nat.mul_comm]; exact hz),rfl,q _ I.fresh⟩
end
section
variable {prog:Program}{w:World}{A:Around}{E:Value->Shared->Prop}{s:Shared}
end
section
variable {X:Cx}
end
section
variable {κ:Type} [DecidableEq κ]
noncomputable def bL (kvs:List (κ×V)) (k:κ):Option V:=(kvs.find? fun kv=>decide (kv.1=k)).map (·.2)
noncomputable def bB (kvs:List (κ×V)) (k:κ) (v:V):List (κ×V) :=
 if (kvs.any fun kv=>decide (kv.1=k))=true then kvs.map (fun kv=>if kv.1=k then (kv.1,v) else kv) else kvs++[(k,v)]
noncomputable def eZ (kvs:List (κ×V)) (k:κ):List (κ×V):=kvs.filter fun kv=>decide (kv.1≠k)
theorem gn {p:κ×V}{r:List (κ×V)}{k:κ} (e:p.1=k):bL (p :: r) k=some p.2:=by simp [bL,List.find?_cons,e]
theorem gq {p:κ×V}{r:List (κ×V)}{k:κ} (e:¬ p.1=k):bL (p :: r) k=bL r k:=by simp [bL,List.find?_cons,e]
theorem pj (k:κ):∀ kvs:List (κ×V),(kvs.any fun kv=>decide (kv.1=k))=(bL kvs k).isSome
 | []=>rfl
 | p :: r=>by
  rw [List.any_cons]
  by_cases e:p.1=k
  ·simp only [gn e,decide_eq_true e,Bool.true_or,Option.isSome_some]
  ·rw [gq e,decide_eq_false e,Bool.false_or]; exact pj k r
theorem d5 (kvs:List (κ×V)) (k:κ) (v:V):(bB kvs k v).length<=kvs.length+1:=by
 unfold bB;split
 ·rw [List.length_map]; omega
 ·rw [List.length_append,List.length_cons,List.length_nil]; omega
theorem fz.isSome_eq {o:Option V}{u:Option Value} (r:fz o u):o.isSome=u.isSome:=by
 cases o with
 | none=>cases u with
  | none=>rfl
  | some _=>exact (show False from r).elim
 | some _=>cases u with
  | none=>exact (show False from r).elim
  | some _=>rfl
theorem fz.getD {o:Option V}{u:Option Value}{d:V}{d':Value} (r:fz o u) (rd:RelV d d'):RelV (o.getD d) (u.getD d'):=by
 cases o with
 | none=>cases u with
  | none=>exact rd
  | some _=>exact (show False from r).elim
 | some _=>cases u with
  | none=>exact (show False from r).elim
  | some _=>exact r
theorem KV.val {kvs:List (κ×V)}{vs:List (κ×Value)} (r:KV kvs vs) (k:κ):fz (bL kvs k) (valueAt vs k):=by
 unfold KV at r
 induction r with
 | nil=>exact True.intro
 | @cons p q ps qs h t ih =>
  obtain ⟨h1,h2⟩:=h
  by_cases e:p.1=k
  ·have e':q.1=k:=h1.symm.trans e
   have b:valueAt (q :: qs) k=some q.2:=by simp [valueAt,List.find?_cons,e']
   rw [gn e,b]; exact h2
  ·have e':¬ q.1=k:=fun z=>e (h1.trans z)
   have b:valueAt (q :: qs) k=valueAt qs k:=by simp [valueAt,List.find?_cons,e']
   rw [gq e,b]; exact ih
theorem KV.any {kvs:List (κ×V)}{vs:List (κ×Value)} (r:KV kvs vs) (k:κ):(kvs.any fun kv=>decide (kv.1=k))=vs.any fun kv=>decide (kv.1=k):=by
 unfold KV at r
 induction r with
 | nil=>rfl
 | cons h t ih=>rw [List.any_cons,List.any_cons,ih,h.1]
theorem KV.repl {kvs:List (κ×V)}{vs:List (κ×Value)} (r:KV kvs vs) (k:κ) {y:V}{u:Value} (ry:RelV y u) :
  KV (kvs.map fun kv=>if kv.1=k then (kv.1,y) else kv) (vs.map fun kv=>if kv.1=k then (kv.1,u) else kv):=by
 unfold KV at r ⊢
 induction r with
 | nil=>exact .nil
 | @cons p q ps qs h t ih =>
  rw [List.map_cons,List.map_cons];refine .cons ?_ ih;obtain ⟨h1,h2⟩:=h
  by_cases e:p.1=k
  ·rw [if_pos e,if_pos (h1.symm.trans e)]; exact ⟨h1,ry⟩
  ·rw [if_neg e,if_neg (fun z=>e (h1.trans z))]; exact ⟨h1,h2⟩
theorem KV.put {kvs:List (κ×V)}{vs:List (κ×Value)} (r:KV kvs vs) (k:κ) {y:V}{u:Value} (ry:RelV y u):KV (bB kvs k y) (stored vs k u):=by
 unfold bB stored;rw [r.any k]
 by_cases e:(vs.any fun kv=>decide (kv.1=k))=true
 ·rw [if_pos e,if_pos e]; exact r.repl k ry
 ·rw [if_neg e,if_neg e]; exact Paired.snoc r ⟨rfl,ry⟩
theorem KV.drop {kvs:List (κ×V)}{vs:List (κ×Value)} (r:KV kvs vs) (k:κ):KV (eZ kvs k) (without vs k):=by
 unfold KV at r ⊢;unfold eZ without
 induction r with
 | nil=>exact .nil
 | @cons p q ps qs h t ih =>
  obtain ⟨h1,h2⟩:=h;rw [List.filter_cons,List.filter_cons]
  by_cases e:p.1=k
  ·have a:¬ decide (p.1≠k)=true:=by simp [e]
   have b:¬ decide (q.1≠k)=true:=by simp [h1.symm.trans e]
   rw [if_neg a,if_neg b]; exact ih
  ·have e':¬ q.1=k:=fun z=>e (h1.trans z)
   have a:decide (p.1≠k)=true:=by simp [e]
   have b:decide (q.1≠k)=true:=by simp [e']
   rw [if_pos a,if_pos b]; exact .cons ⟨h1,h2⟩ ih
theorem KV.keys {kvs:List (κ×V)}{vs:List (κ×Value)} (r:KV kvs vs):kvs.map (·.1)=vs.map (·.1):=by
 unfold KV at r
 induction r with
 | nil=>rfl
 | cons h t ih=>rw [List.map_cons,List.map_cons,ih,h.1]
theorem KV.length {kvs:List (κ×V)}{vs:List (κ×Value)} (r:KV kvs vs):kvs.length=vs.length:=Paired.length r
theorem wv (kvs:List (κ×V)) (k:κ):(eZ kvs k).length<=kvs.length:=List.length_filter_le _ _
end
theorem gM {P:Program}{w:World}{k:bh}{u:Value} (r:RelV (kV k) u):(aY P w).is k u=true:=by
 cases k with
 | inl i=>obtain ⟨t,e⟩:=(show ∃ t,u=Value.int i t from r); subst e; exact qj P w i t
 | inr x=>obtain ⟨t,e⟩:=(show ∃ t,u=Value.str x t from r); subst e; exact qi P w x t
theorem vq {a b:bh} (e:kV a=kV b):a=b:=by
 cases a with
 | inl i=>cases b with
  | inl j=>have e':V.int i=V.int j:=e; injection e' with e'; rw [e']
  | inr y=>exact nomatch (show V.int i=V.str y from e)
 | inr x=>cases b with
  | inl j=>exact nomatch (show V.str x=V.int j from e)
  | inr y=>have e':V.str x=V.str y:=e; injection e' with e'; rw [e']
theorem mW {P:Program}{w:World}:∀ {ks:List bh}{us:List Value},aU (ks.map kV) us->ItemsAre (aY P w) ks us
 | [],_,r=>by rw [List.map_nil] at r; cases r; exact .nil
 | k :: ks,_,r=>by
  rw [List.map_cons] at r;cases r with
  | cons h t=>exact .cons (gM h) (mW t)
abbrev KT (H:Hp):List (List bh×V)->List (List bh×Addr×Value)->Prop:=Paired fun p q=>p.1=q.1/\H q.2.1=some (.tup (p.1.map kV))/\RelV p.2 q.2.2
theorem KT.val {H:Hp}{kvs:List (List bh×V)}{xs:List (List bh×Addr×Value)} (r:KT H kvs xs) (k:List bh):fz (bL kvs k) ((atKey xs k).map (·.2)):=by
 induction r with
 | nil=>exact True.intro
 | @cons p q ps qs h t ih =>
  obtain ⟨h1,_,h2⟩:=h
  by_cases e:p.1=k
  ·have e':q.1=k:=h1.symm.trans e
   have b:atKey (q :: qs) k=some q.2:=by simp [atKey,List.find?_cons,e']
   rw [gn e,b]; exact h2
  ·have e':¬ q.1=k:=fun z=>e (h1.trans z)
   have b:atKey (q :: qs) k=atKey qs k:=by simp [atKey,List.find?_cons,e']
   rw [gq e,b]; exact ih
theorem KT.repl {H:Hp}{kvs:List (List bh×V)}{xs:List (List bh×Addr×Value)} (r:KT H kvs xs) (k:List bh) {y:V}{u:Value} (ry:RelV y u) :
  KT H (kvs.map fun kv=>if kv.1=k then (kv.1,y) else kv) (xs.map (putAt k u)):=by
 induction r with
 | nil=>exact .nil
 | @cons p q ps qs h t ih =>
  rw [List.map_cons,List.map_cons];refine .cons ?_ ih;obtain ⟨h1,h2,h3⟩:=h;unfold putAt
  by_cases e:p.1=k
  ·rw [if_pos e,if_pos (h1.symm.trans e)]; exact ⟨h1,h2,ry⟩
  ·rw [if_neg e,if_neg (fun z=>e (h1.trans z))]; exact ⟨h1,h2,h3⟩
theorem KT.put {H:Hp}{kvs:List (List bh×V)}{xs:List (List bh×Addr×Value)} (r:KT H kvs xs) (k:List bh) {b:Addr}{y:V}{u:Value} (hb:H b=some (.tup (k.map kV))) (ry:RelV y u) :
  KT H (bB kvs k y) (storedH xs k b u):=by
 have e:(kvs.any fun kv=>decide (kv.1=k))=(atKey xs k).isSome:=by
  rw [pj,(r.val k).isSome_eq,Option.isSome_map]
 unfold bB storedH;rw [e]
 by_cases q:(atKey xs k).isSome=true
 ·rw [if_pos q,if_pos q]; exact r.repl k ry
 ·rw [if_neg q,if_neg q]; exact Paired.snoc r ⟨rfl,hb,ry⟩
theorem KT.keeps {H H':Hp}{kvs:List (List bh×V)}{xs:List (List bh×Addr×Value)} (r:KT H kvs xs) (ht:∀ b ys,H b=some (.tup ys)->H' b=some (.tup ys)):KT H' kvs xs :=
 Paired.mapP r fun _ _ z=>⟨z.1,ht _ _ z.2.1,z.2.2⟩
section
variable {P:Program}{w:World}{H:Hp}{h:Heap}{a:Addr}
theorem xY {u:HO} (ok:ge P w H h) (e:Rd H a u):bq P w H h a u:=e.ok ok
theorem dL {kvs:List (bh×V)} (ok:ge P w H h) (e:Rd H a (.dK kvs)):kvs.length<=sizeLine/\(a==sysModules)=false/\∃ vs,KV kvs vs/\h.DictOf (aY P w) a vs :=
 show bq P w H h a (.dK kvs) from xY ok e
theorem pf {kvs:List (bh×V)} (ok:ge P w H h) (e:H a=some (.dK kvs)):kvs.length<=sizeLine/\(a==sysModules)=false/\∃ vs,KV kvs vs/\h.DictOf (aY P w) a vs:=dL ok (.inl e)
theorem ja {ks:List bh} (ok:ge P w H h) (e:H a=some (.tup (ks.map kV))):(tupleKind (aY P w)).is h ks a:=by
 obtain ⟨_,its,r,o,h1,h2,n,h3⟩:=(show bq P w H h a (.tup (ks.map kV)) from ok a _ e);exact ⟨o,its.toArray,n,h1,h2,h3,by simpa using mW r⟩
theorem kK {kvs:List (List bh×V)} (ok:ge P w H h) (e:Rd H a (.dT kvs)):kvs.length<=sizeLine/\(a==sysModules)=false /\
  ∃ xs,KT H kvs xs/\h.DictOfH (tupleKind (aY P w)) a xs:=by
 obtain ⟨z,y,xs,r,o,es,ep,h1,h2,h3,h4,h5⟩:=(show bq P w H h a (.dT kvs) from xY ok e);refine ⟨z,y,xs,r,o,es,ep,h1,h2,h3,h4,fun x hx=>?_,h5⟩;have all:∀ {l:List (List bh×V)}{m:List (List bh×Addr×Value)},KT H l m->∀ x∈m,(tupleKind (aY P w)).is h x.1 x.2.1:=by
  intro l m q
  induction q with
  | nil=>intro x hx; exact nomatch hx
  | @cons p q ps qs hq t ih =>
   intro x hx;rcases List.mem_cons.mp hx with e | hx
   ·subst e
    exact ja ok (by rw [<- hq.1]; exact hq.2.1)
   ·exact ih x hx
 exact all r x hx
theorem Az {kvs:List (List bh×V)} (ok:ge P w H h) (e:H a=some (.dT kvs)):kvs.length<=sizeLine/\(a==sysModules)=false /\
  ∃ xs,KT H kvs xs/\h.DictOfH (tupleKind (aY P w)) a xs:=kK ok (.inl e)
end
noncomputable def cJ (H:Hp) (a:Addr) (y:V) (r:Option V):Prop :=
 (∃ kvs k,Rd H a (.dK kvs)/\y=kV k/\r=bL kvs k)\/∃ kvs k b,Rd H a (.dT kvs)/\y=.ref b/\H b=some (.tup (k.map kV))/\r=bL kvs k
noncomputable def eK (H:Hp) (a:Addr) (y v:V) (H':Hp):Prop :=
 (∃ kvs k,H a=some (.dK kvs)/\y=kV k/\kvs.length < sizeLine/\H'=aA H a (.dK (bB kvs k v))) \/
 ∃ kvs k b,H a=some (.dT kvs)/\y=.ref b/\H b=some (.tup (k.map kV))/\kvs.length < sizeLine/\H'=aA H a (.dT (bB kvs k v))
theorem cJ.k {H:Hp}{a:Addr}{kvs:List (bh×V)}{k:bh} (e:H a=some (.dK kvs)):cJ H a (kV k) (bL kvs k):=.inl ⟨kvs,k,.inl e,rfl,rfl⟩
theorem eK.k {H:Hp}{a:Addr}{kvs:List (bh×V)}{k:bh}{v:V} (e:H a=some (.dK kvs)) (hl:kvs.length < sizeLine):eK H a (kV k) v (aA H a (.dK (bB kvs k v))):=.inl ⟨kvs,k,e,rfl,hl,rfl⟩
section
variable {X:Cx}{pins:List (Addr×Obj)}{σ:St}{H:Hp}{s:Shared}{a:Addr}{y v:V}{u r:Value}{o:Option V}{A:Around}{E:Value->Shared->Prop}
theorem Inv.big (I:Inv X pins σ H s):sysModules < s.heap.objs.size:=by
 have h:mainGlobals < s.heap.objs.size:=(I.mod.glob.keeps I.bk).lt;exact Nat.lt_trans (by decide) h
theorem uB {Q:Value->Shared->Prop} (hu:A.units+1 < cLine) (I:Inv X pins σ H s) (g:cJ H a y (some v)) (ry:RelV y u) (h:∀ w' s',Inv X pins σ H s'->RelV v w'->Q w' s') :
  wpAny (model X.prog X.w) A (getItem (.ref a) u) Q E s:=by
 rcases g with ⟨kvs,k,e,ey,l⟩ | ⟨kvs,k,b,e,ey,eb,l⟩
 ·subst ey
  obtain ⟨z,hd,vs,rel,dd⟩:=dL I.hok e;obtain ⟨w',hw,rw'⟩:=fz.some_of (v:=v) (o:=valueAt vs k) (by rw [l]; exact rel.val k);exact wpAny_getItem_of (gM ry) dd.mapOf hw (h w' _ (I.tok _) rw')
 ·subst ey
  cases (show u=Value.ref b from ry);obtain ⟨z,hd,xs,rel,dd⟩:=kK I.hok e;obtain ⟨w',hw,rw'⟩:=fz.some_of (v:=v) (o:=(atKey xs k).map (·.2)) (by rw [l]; exact rel.val k);obtain ⟨p,hp,hp2⟩:=Option.map_eq_some_iff.mp hw;refine wpAny_getItem_heap (tupleKind_room_in1 hu) (ja I.hok eb) dd hp ?_;rw [hp2];exact h w' _ (I.tok _) rw'
theorem Bq {Q:Value->Shared->Prop} (hu:A.units+1 < cLine) (I:Inv X pins σ H s) (g:cJ H a y o) (ry:RelV y u) (h:∀ s',Inv X pins σ H s'->Q (.bool o.isSome) s') :
  wpAny (model X.prog X.w) A (compareOp .In u (.ref a)) Q E s:=by
 rcases g with ⟨kvs,k,e,ey,l⟩ | ⟨kvs,k,b,e,ey,eb,l⟩
 ·subst ey
  obtain ⟨z,hd,vs,rel,dd⟩:=dL I.hok e;refine wpAny_in_of (gM ry) hd dd.mapOf ?_;rw [<- (rel.val k).isSome_eq,<- l];exact h _ (I.tok _)
 ·subst ey
  cases (show u=Value.ref b from ry);obtain ⟨z,hd,xs,rel,dd⟩:=kK I.hok e;refine wpAny_in_heap (tupleKind_room_in1 hu) (ja I.hok eb) hd dd ?_;have q:=(rel.val k).isSome_eq;rw [Option.isSome_map] at q;rw [<- q,<- l];exact h _ (I.tok _)
theorem xB {Q:Value->Shared->Prop} (hu:A.units+1 < cLine) (I:Inv X pins σ H s) (g:cJ H a y o) (ry:RelV y u) (h:∀ s',Inv X pins σ H s'->Q (.bool (!o.isSome)) s') :
  wpAny (model X.prog X.w) A (compareOp .NotIn u (.ref a)) Q E s:=by
 rcases g with ⟨kvs,k,e,ey,l⟩ | ⟨kvs,k,b,e,ey,eb,l⟩
 ·subst ey
  obtain ⟨z,hd,vs,rel,dd⟩:=dL I.hok e;refine wpAny_notIn_of (gM ry) hd dd.mapOf ?_;rw [<- (rel.val k).isSome_eq,<- l];exact h _ (I.tok _)
 ·subst ey
  cases (show u=Value.ref b from ry);obtain ⟨z,hd,xs,rel,dd⟩:=kK I.hok e;refine wpAny_notIn_heap (tupleKind_room_in1 hu) (ja I.hok eb) hd dd ?_;have q:=(rel.val k).isSome_eq;rw [Option.isSome_map] at q;rw [<- q,<- l];exact h _ (I.tok _)
theorem iC {h':Heap}{t':Nat}{ob:HO} (I:Inv X pins σ H s) (mu:zA (H a)) (hs:Heap.SameBut a s.heap h') (he:∃ q,h'.get? a=some q) (new:bq X.prog X.w (aA H a ob) h' a ob) :
  Inv X pins σ (aA H a ob) { s with heap:=h',toks:=t' } :=
 I.write (x:=a) (e:=a) mu (.inl rfl) (fun b q hb z=>(hs.2 b hb).trans z) he new
theorem kP {P:Program}{w:World}{H':Hp}{h':Heap}{kvs:List (bh×V)}{vs:List (bh×Value)} (z:kvs.length<=sizeLine) (hd:(a==sysModules)=false) (rel:KV kvs vs) (dd:h'.DictOf (aY P w) a vs) :
  bq P w H' h' a (.dK kvs):=⟨z,hd,vs,rel,dd⟩
theorem uA {H':Hp}{Q:Unit->Shared->Prop} (hu:A.units+1 < cLine) (I:Inv X pins σ H s) (g:eK H a y v H') (ry:RelV y u) (rv:RelV v r) (h:∀ s',Inv X pins σ H' s'->Q () s') :
  wpAny (model X.prog X.w) A (setItem (.ref a) u r) Q E s:=by
 rcases g with ⟨kvs,k,e,ey,l,eH⟩ | ⟨kvs,k,b,e,ey,eb,l,eH⟩
 ·subst ey eH
  obtain ⟨z,hd,vs,rel,dd⟩:=pf I.hok e;have hz:vs.length<=sizeLine:=by rw [<- rel.length]; exact z
  have hl:(bB kvs k v).length<=sizeLine:=by have:=d5 kvs k v; omega
  refine wpAny_setItem_pairs (hsz:=hz) (gM ry) dd fun h' dd' hs=>h _ ?_;have he:∃ q,h'.get? a=some q:=let ⟨q,_,_,hq,_⟩:=dd'; ⟨q,hq⟩;exact iC I (by rw [e]; exact True.intro) hs he (kP hl hd (rel.put k rv) dd')
 ·subst ey eH
  cases (show u=Value.ref b from ry);obtain ⟨z,hd,xs,rel,dd⟩:=Az I.hok e;have hz:xs.length<=sizeLine:=by rw [<- Paired.length rel]; exact z
  have hl:(bB kvs k v).length<=sizeLine:=by have:=d5 kvs k v; omega
  refine wpAny_setItem_heap (hsz:=hz) (tupleKind_room_in1 hu) (ja I.hok eb) dd fun h' dd' hs=>h _ ?_;obtain ⟨q,es,ep,hq,h2,h3,h4,_,h5⟩:=dd';refine iC I (by rw [e]; exact True.intro) hs ⟨q,hq⟩ ⟨hl,hd,_,(rel.put k eb rv).keeps fun c ys ec=>?_,q,es,ep,hq,h2,h3,h4,h5⟩;rw [ag (gL ec e (fun z=>nomatch z))];exact ec
end
section
variable {X:Cx}{pins:List (Addr×Obj)}{σ:St}{H:Hp}{s:Shared}{a:Addr}{kvs:List (bh×V)}{k:bh}{u:Value}{A:Around}{E:Value->Shared->Prop}
theorem yb {v:V}{more:List Value}{Q:Value->Shared->Prop} (I:Inv X pins σ H s) (e:H a=some (.dK kvs)) (ry:RelV (kV k) u) (l:bL kvs k=some v) (hm:more=[]\/∃ x,more=[x])
  (h:∀ w' s',Inv X pins σ (aA H a (.dK (eZ kvs k))) s'->RelV v w'->Q w' s'):wpAny (model X.prog X.w) A (call (.builtin "dict.pop") (.ref a :: u :: more)) Q E s:=by
 obtain ⟨z,hd,vs,rel,dd⟩:=pf I.hok e;obtain ⟨w',hw,rw'⟩:=fz.some_of (v:=v) (o:=valueAt vs k) (by rw [<- l]; exact rel.val k);have hp:(keyPart u).isSome=true:=by
  cases k with
  | inl i=>obtain ⟨t,q⟩:=(show ∃ t,u=Value.int i t from ry); subst q; rfl
  | inr x=>obtain ⟨t,q⟩:=(show ∃ t,u=Value.str x t from ry); subst q; rfl
 have ha:argsOk "dict.pop" ⟨.ref a :: u :: more,[]⟩:=by
  rcases hm with q | ⟨x,q⟩
  ·subst q; exact PySem.F.args_dict_pop_2 _ _
  ·subst q; exact PySem.F.args_dict_pop_3 _ _ _
 refine call_meetsIn PySem.F.slot_dict_pop dd.typeIs PySem.F.entry_dict_pop ha (meets_dict_pop_there (aY X.prog X.w) a (gM ry) more hm hp)
  ⟨vs,w',dd,by rw [<- rel.length]; exact z,hw,fun h' dd' hs=>h w' _ ?_ rw'⟩
 have he:∃ q,h'.get? a=some q:=let ⟨q,_,_,hq,_⟩:=dd'; ⟨q,hq⟩;exact iC I (by rw [e]; exact True.intro) hs he (kP (Nat.le_trans (wv kvs k) z) hd (rel.drop k) dd')
theorem zi {r:Value}{Q:Value->Shared->Prop} (I:Inv X pins σ H s) (e:H a=some (.dK kvs)) (ry:RelV (kV k) u) (l:bL kvs k=none) (h:∀ s',Inv X pins σ H s'->Q r s') :
  wpAny (model X.prog X.w) A (call (.builtin "dict.pop") [.ref a,u,r]) Q E s:=by
 obtain ⟨z,hd,vs,rel,dd⟩:=pf I.hok e;have hn:valueAt vs k=none:=fz.none_of (by rw [<- l]; exact rel.val k);have hp:(keyPart u).isSome=true:=by
  cases k with
  | inl i=>obtain ⟨t,q⟩:=(show ∃ t,u=Value.int i t from ry); subst q; rfl
  | inr x=>obtain ⟨t,q⟩:=(show ∃ t,u=Value.str x t from ry); subst q; rfl
 exact call_meetsIn PySem.F.slot_dict_pop dd.typeIs PySem.F.entry_dict_pop (PySem.F.args_dict_pop_3 _ _ _) (meets_dict_pop_default (aY X.prog X.w) a (gM ry) hd hp r) ⟨vs,dd,hn,h _ (I.tok _)⟩
theorem AA {Q:Value->Shared->Prop} (I:Inv X pins σ H s) (e:Rd H a (.dK kvs)) (h:∀ t s',Inv X pins σ H s'->Q (.int kvs.length t) s'):wpAny (model X.prog X.w) A (call (.builtin "len") [.ref a]) Q E s:=by
 obtain ⟨z,hd,vs,rel,dd⟩:=dL I.hok e;refine call_len_dict hd dd (by rw [<- rel.length]; rw [sizeLine_eq] at z; omega) ?_;rw [<- rel.length];exact h _ _ (I.tok _)
end
theorem qp {X:Cx}{pins:List (Addr×Obj)}{σ:St}{H:Hp}{s:Shared}{a:Addr}{y:V}{o:Option V} (I:Inv X pins σ H s) (g:cJ H a y o):s.TypeIs (.ref a) "dict":=by
 rcases g with ⟨kvs,k,e,_,_⟩ | ⟨kvs,k,b,e,_,_,_⟩
 ·obtain ⟨_,_,vs,_,dd⟩:=dL I.hok e
  exact dd.typeIs
 ·obtain ⟨_,_,xs,_,dd⟩:=kK I.hok e
  exact dd.typeIs
noncomputable def Ah (td ty tv:TE):TS:=fun D σ H=>tv σ H fun v H1=>td σ H1 fun x H2=>ty σ H2 fun y H3=>∃ a H4,x=.ref a/\eK H3 a y v H4/\D.nx σ H4
section
variable {X:Cx}{o i e value:Expr}{pos pos' tpos:Pos}{td ty tv:TE}
theorem b7 (hu:X.A.units+1 < cLine) (ho:PE X o td) (hi:PE X i ty) (hv:PE X value tv) (hs:swapsWith value (some (.Subscript o i pos')) pos.line X.env=pure false) :
  PS X (.Assign [.Subscript o i pos'] value pos) (Ah td ty tv):=by
 intro pins s σ H D I h;refine wpAny_Assign_Subscript (bz (hv pins s σ H _ I h) fun r s1 ⟨v,H1,I1,rv,q1⟩=>bz (ho pins s1 σ H1 _ I1 q1) fun u s2 ⟨x,H2,I2,rx,q2⟩=>bz (hi pins s2 σ H2 _ I2 q2) fun iv s3 ⟨y,H3,I3,ry,a,H4,ex,g,q3⟩=>?_) hs;subst ex;obtain rfl:u=Value.ref a:=rx;exact uA hu I3 g ry rv fun s4 I4=>⟨σ,H4,I4,q3⟩
end
theorem pT {P:Program}{w:World}{H:Hp} (h:Heap) (hb:sysModules < h.objs.size):bq P w H (h.push { cls:=.type "dict",data:=.dict #[] }) h.objs.size (.dK []) :=
 ⟨Nat.zero_le _,beq_eq_false_iff_ne.mpr (Ne.symm (Nat.ne_of_lt hb)),[],.nil,Heap.DictOf.new h⟩
noncomputable def yA:TE:=fun _ H Q=>∀ p,H p=none->Q (.ref p) (aA H p (.dK []))
section
variable {X:Cx}{pos:Pos}
theorem cM:PE X (.Dict [] [] pos) yA:=fun pins s σ H Q I h =>
 wpAny_Dict_empty ⟨.ref s.heap.objs.size,_,I.laid (a:=s.heap.objs.size) (o:=.dK []) (t':=s.toks) (fun _ _ q=>Heap.get?_push_of_some _ q) (Nat.le_refl _) (pT s.heap I.big),rfl,h _ (I.hok.fresh (Nat.le_refl _))⟩
end
noncomputable def qB:List (TE×TE)->St->Hp->(List (V×V)->Hp->Prop)->Prop
 | [],_,H,Q=>Q [] H
 | (tk,tv) :: r,σ,H,Q=>tk σ H fun x H1=>tv σ H1 fun y H2=>qB r σ H2 fun ps H3=>Q ((x,y) :: ps) H3
abbrev VV:List (V×V)->List (Value×Value)->Prop:=Paired fun p q=>RelV p.1 q.1/\RelV p.2 q.2
noncomputable def AK (X:Cx) (pos:Pos) (keys:List (Option Expr)) (values:List Expr) (trs:List (TE×TE)):Prop :=
 ∀ (pins:List (Addr×Obj)) (s:Shared) (σ:St) (H:Hp) (Q:List (V×V)->Hp->Prop),Inv X pins σ H s->qB trs σ H Q ->
  wpAny (model X.prog X.w) X.A (evalPairs (pairTrees keys values X.env pos)) (fun vs s'=>∃ ps H',Inv X pins σ H' s'/\VV ps vs/\Q ps H') X.xe s
theorem sH {X:Cx}{pos:Pos}:AK X pos [] [] []:=fun pins s σ H Q I h=>pairTrees_nil_walk ⟨[],H,I,.nil,h⟩
theorem dX {X:Cx}{pos:Pos}{k v:Expr}{ks:List (Option Expr)}{vs:List Expr}{tk tv:TE}{trs:List (TE×TE)} (hk:PE X k tk) (hv:PE X v tv) (hr:AK X pos ks vs trs) :
  AK X pos (some k :: ks) (v :: vs) ((tk,tv) :: trs):=fun pins s σ H Q I h =>
 pairTrees_cons_walk (bz (hk pins s σ H _ I h) fun u s1 ⟨x,H1,I1,rx,q1⟩=>bz (hv pins s1 σ H1 _ I1 q1) fun w2 s2 ⟨y,H2,I2,ry,q2⟩ =>
  bz (hr pins s2 σ H2 _ I2 q2) fun ws s3 ⟨ps,H3,I3,rel,q3⟩=>⟨(x,y) :: ps,H3,I3,.cons ⟨rx,ry⟩ rel,q3⟩)
noncomputable def g9 (kvs more:List (bh×V)):List (bh×V):=more.foldl (fun acc kv=>bB acc kv.1 kv.2) kvs
theorem KV.merge:∀ {more:List (bh×V)}{rs:List (bh×Value)}{kvs:List (bh×V)}{vs:List (bh×Value)},KV more rs->KV kvs vs->KV (g9 kvs more) (merged vs rs):=by
 intro more rs kvs vs r;unfold KV at r
 induction r generalizing kvs vs with
 | nil=>intro q; exact q
 | @cons p q ps qs h t ih =>
  intro r0;have e:KV (bB kvs p.1 p.2) (stored vs q.1 q.2):=by
   have:=r0.put p.1 h.2;rw [<- h.1]; exact this
  exact ih e
theorem gU:∀ (more kvs:List (bh×V)),(g9 kvs more).length<=kvs.length+more.length
 | [],kvs=>by show kvs.length<=kvs.length+0; omega
 | p :: r,kvs=>by
  have h1:=gU r (bB kvs p.1 p.2);have h2:=d5 kvs p.1 p.2;show (g9 (bB kvs p.1 p.2) r).length<=_;rw [List.length_cons]; omega
theorem lQ {P:Program}{w:World}:∀ {kvs:List (bh×V)}{ws:List (Value×Value)},VV (kvs.map fun kv=>(kV kv.1,kv.2)) ws->∃ rs,Carries (aY P w) ws rs/\KV kvs rs
 | [],_,r=>by rw [List.map_nil] at r; cases r; exact ⟨[],True.intro,.nil⟩
 | p :: kvs,_,r=>by
  rw [List.map_cons] at r;cases r with
  | @cons a b as bs h t =>
   obtain ⟨rs,c,q⟩:=lQ (P:=P) (w:=w) t;obtain ⟨b1,b2⟩:=b;exact ⟨(p.1,b2) :: rs,⟨gM h.1,rfl,c⟩,.cons ⟨rfl,h.2⟩ q⟩
noncomputable def Ab (trs:List (TE×TE)):TE:=fun σ H Q=>∀ p,H p=none->qB trs σ (aA H p (.dK [])) fun ps H2=>H2 p=some (.dK [])/\∃ kvs:List (bh×V),ps=kvs.map (fun kv=>(kV kv.1,kv.2))/\kvs.length<=15/\Q (.ref p) (aA H2 p (.dK (g9 [] kvs)))
theorem sM {X:Cx}{pos:Pos}{keys:List (Option Expr)}{values:List Expr}{trs:List (TE×TE)} (h:AK X pos keys values trs) (hall:keys.all (·.isSome)=true) (hl:keys.length=values.length) (h0:keys≠[])
  (h15:keys.length<=15):PE X (.Dict keys values pos) (Ab trs):=by
 intro pins s σ H Q I q;have hn:=I.hok.fresh (Nat.le_refl s.heap.objs.size);have I1:=I.laid (a:=s.heap.objs.size) (o:=.dK []) (h':=s.heap.push { cls:=.type "dict",data:=.dict #[] }) (t':=s.toks) (fun _ _ q=>Heap.get?_push_of_some _ q) (Nat.le_refl _) (pT s.heap I.big);refine wpAny_Dict_walk (knd:=aY X.prog X.w) hall hl h0 h15 (bz (h pins _ σ _ _ I1 (q _ hn)) fun ws s2 ⟨ps,H2,I2,rel,e,kvs,ep,lk,q2⟩=>?_);subst ep;obtain ⟨rs,c,rk⟩:=lQ (P:=X.prog) (w:=X.w) rel;obtain ⟨z,hd,vs0,r0,dd⟩:=pf I2.hok e;cases r0;refine ⟨rs,c,dd,fun h' dd' hs=>⟨.ref s.heap.objs.size,_,?_,rfl,q2⟩⟩;have hz:(g9 [] kvs).length<=sizeLine:=by
  have h1:=gU kvs [];rw [List.length_nil] at h1;rw [sizeLine_eq]; omega
 have he:∃ q,h'.get? s.heap.objs.size=some q:=let ⟨q,_,_,hq,_⟩:=dd'; ⟨q,hq⟩;exact iC I2 (by rw [e]; exact True.intro) hs he (kP hz hd (rk.merge .nil) dd')
structure M1 (X:Cx) (o:Expr) (m:Str) (apos:Pos) (e:Expr) (cpos:Pos):Prop where
 base:attributeBase o m X.env (eval o X.env)=eval o X.env
 few:((backTo cpos (starEach [e] X.env)).all (fun x=>!x.1)&&(backToKw cpos (keywordEach [] X.env)).all (fun x=>x.1.isSome)
  && decide (([e]:List Expr).length+([]:List Keyword).length+(if ([]:List Keyword).isEmpty then 0 else 1) < 30))=true
 line:(apos.endLine==cpos.line)=true
 trees:backTo cpos (starEach [e] X.env)=[(false,eval e X.env)]
structure M2 (X:Cx) (o:Expr) (m:Str) (apos:Pos) (e f:Expr) (cpos:Pos):Prop where
 base:attributeBase o m X.env (eval o X.env)=eval o X.env
 few:((backTo cpos (starEach [e,f] X.env)).all (fun x=>!x.1)&&(backToKw cpos (keywordEach [] X.env)).all (fun x=>x.1.isSome)
  && decide (([e,f]:List Expr).length+([]:List Keyword).length+(if ([]:List Keyword).isEmpty then 0 else 1) < 30))=true
 line:(apos.endLine==cpos.line)=true
 trees:backTo cpos (starEach [e,f] X.env)=[(false,eval e X.env),(false,eval f X.env)]
noncomputable def AM (H:Hp) (a:Addr):Prop:=(∃ kvs,Rd H a (.dK kvs))\/∃ kvs,Rd H a (.dT kvs)
theorem qN {X:Cx}{pins:List (Addr×Obj)}{σ:St}{H:Hp}{s:Shared}{a:Addr} (I:Inv X pins σ H s) (d:AM H a) :
  s.TypeIs (.ref a) "dict" /\ (∀ b,Value.ref a=.ref b->∃ ob,s.heap.get? b=some ob/\ob.dict=none)/\(a==sysModules)=false:=by
 rcases d with ⟨kvs,e⟩ | ⟨kvs,e⟩
 ·obtain ⟨_,hd,vs,_,dd⟩:=dL I.hok e
  refine ⟨dd.typeIs,fun b q=>?_,hd⟩;cases q;obtain ⟨ob,_,_,h1,h2,_⟩:=dd;exact ⟨ob,h1,h2.2.1⟩
 ·obtain ⟨_,hd,xs,_,dd⟩:=kK I.hok e
  refine ⟨dd.typeIs,fun b q=>?_,hd⟩;cases q;obtain ⟨ob,_,_,h1,h2,_⟩:=dd;exact ⟨ob,h1,h2.2.1⟩
section
variable {X:Cx}{pins:List (Addr×Obj)}{σ:St}{H:Hp}{s:Shared}{a:Addr}{y d:V}{u r:Value}{o:Option V}{A:Around}{E:Value->Shared->Prop}
theorem zj {Q:Value->Shared->Prop} (hu:A.units+1 < cLine) (I:Inv X pins σ H s) (g:cJ H a y o) (ry:RelV y u) (rd:RelV d r) (h:∀ w' s',Inv X pins σ H s'->RelV (o.getD d) w'->Q w' s') :
  wpAny (model X.prog X.w) A (call (.builtin "dict.get") [.ref a,u,r]) Q E s:=by
 rcases g with ⟨kvs,k,e,ey,l⟩ | ⟨kvs,k,b,e,ey,eb,l⟩
 ·subst ey
  obtain ⟨z,hd,vs,rel,dd⟩:=dL I.hok e;refine call_meetsIn PySem.F.slot_dict_get dd.typeIs PySem.F.entry_dict_get (PySem.F.args_dict_get_3 _ _ _) (meets_dict_get_default (aY X.prog X.w) a (gM ry) hd r) ⟨_,dd.mapOf,h _ _ (I.tok _) ?_⟩;rw [l];exact (rel.val k).getD rd
 ·subst ey
  cases (show u=Value.ref b from ry);obtain ⟨z,hd,xs,rel,dd⟩:=kK I.hok e;refine call_meetsIn PySem.F.slot_dict_get dd.typeIs PySem.F.entry_dict_get (PySem.F.args_dict_get_3 _ _ _) (meetsH_dict_get_default (tupleKind (aY X.prog X.w)) a b hd r) ⟨tupleKind_room_in1 hu,k,xs,ja I.hok eb,dd,h _ _ (I.tok _) ?_⟩;rw [l];exact (rel.val k).getD rd
end
noncomputable def yB (td ty tx:TE):TE:=fun σ H Q=>td σ H fun x H1=>∃ a,x=.ref a/\AM H1 a/\ty σ H1 fun y H2=>tx σ H2 fun z H3=>∃ o,cJ H3 a y o/\Q (o.getD z) H3
noncomputable def yz (td ty:TE):TE:=fun σ H Q=>td σ H fun x H1=>∃ a,x=.ref a/\AM H1 a/\ty σ H1 fun y H2=>∃ kvs k v,H2 a=some (.dK kvs)/\y=kV k/\bL kvs k=some v/\Q v (aA H2 a (.dK (eZ kvs k)))
noncomputable def yy (td ty tx:TE):TE:=fun σ H Q=>td σ H fun x H1=>∃ a,x=.ref a/\AM H1 a/\ty σ H1 fun y H2=>tx σ H2 fun z H3=>∃ kvs k,H3 a=some (.dK kvs)/\y=kV k /\
 (∀ v,bL kvs k=some v->Q v (aA H3 a (.dK (eZ kvs k))))/\(bL kvs k=none->Q z H3)
section
variable {X:Cx}{o e f:Expr}{apos cpos:Pos}{td ty tx:TE}
theorem v1 (hu:X.A.units+1 < cLine) (ho:PE X o td) (he:PE X e ty) (hf:PE X f tx) (m:M2 X o "get" apos e f cpos):PE X (.Call (.Attribute o "get" apos) [e,f] [] cpos) (yB td ty tx):=by
 intro pins s σ H Q I h;refine wpAny_Call_method m.base m.few m.line PySem.F.plainAttrs_dict PySem.F.slot_dict_get PySem.F.type_dict_get (bz (ho pins s σ H _ I h) fun u s1 ⟨x,H1,I1,rx,a,ex,d,q1⟩=>?_);subst ex;obtain rfl:u=Value.ref a:=rx;obtain ⟨t1,t2,_⟩:=qN I1 d;refine ⟨t1,t2,?_⟩;rw [m.trees];refine Calls.callWith_builtin rfl (Calls.evalArgs_plain (Calls.spliced_cons (bz (he pins s1 σ H1 _ I1 q1) fun iv s2 ⟨y,H2,I2,ry,q2⟩ =>
  Calls.spliced_cons (bz (hf pins s2 σ H2 _ I2 q2) fun fv s3 ⟨z,H3,I3,rz,ov,g,q3⟩=>Calls.spliced_nil ?_))))
 exact zj hu I3 g ry rz fun w' s4 I4 rw'=>⟨_,H3,I4,rw',q3⟩
theorem pK (ho:PE X o td) (he:PE X e ty) (m:M1 X o "pop" apos e cpos):PE X (.Call (.Attribute o "pop" apos) [e] [] cpos) (yz td ty):=by
 intro pins s σ H Q I h;refine wpAny_Call_method m.base m.few m.line PySem.F.plainAttrs_dict PySem.F.slot_dict_pop PySem.F.type_dict_pop (bz (ho pins s σ H _ I h) fun u s1 ⟨x,H1,I1,rx,a,ex,d,q1⟩=>?_);subst ex;obtain rfl:u=Value.ref a:=rx;obtain ⟨t1,t2,_⟩:=qN I1 d;refine ⟨t1,t2,?_⟩;rw [m.trees];refine Calls.callWith_builtin rfl (Calls.evalArgs_plain (Calls.spliced_cons (bz (he pins s1 σ H1 _ I1 q1) fun iv s2 ⟨y,H2,I2,ry,kvs,k,v,ea,ey,l,q2⟩=>Calls.spliced_nil ?_)));subst ey;exact yb I2 ea ry l (.inl rfl) fun w' s3 I3 rw'=>⟨v,_,I3,rw',q2⟩
theorem vZ (ho:PE X o td) (he:PE X e ty) (hf:PE X f tx) (m:M2 X o "pop" apos e f cpos):PE X (.Call (.Attribute o "pop" apos) [e,f] [] cpos) (yy td ty tx):=by
 intro pins s σ H Q I h;refine wpAny_Call_method m.base m.few m.line PySem.F.plainAttrs_dict PySem.F.slot_dict_pop PySem.F.type_dict_pop (bz (ho pins s σ H _ I h) fun u s1 ⟨x,H1,I1,rx,a,ex,d,q1⟩=>?_);subst ex;obtain rfl:u=Value.ref a:=rx;obtain ⟨t1,t2,_⟩:=qN I1 d;refine ⟨t1,t2,?_⟩;rw [m.trees];refine Calls.callWith_builtin rfl (Calls.evalArgs_plain (Calls.spliced_cons (bz (he pins s1 σ H1 _ I1 q1) fun iv s2 ⟨y,H2,I2,ry,q2⟩ =>
  Calls.spliced_cons (bz (hf pins s2 σ H2 _ I2 q2) fun fv s3 ⟨z,H3,I3,rz,kvs,k,ea,ey,q3,q4⟩=>Calls.spliced_nil ?_))))
 subst ey;cases l:bL kvs k with
 | some v=>exact yb I3 ea ry l (.inr ⟨fv,rfl⟩) fun w' s4 I4 rw'=>⟨v,_,I4,rw',q3 v l⟩
 | none=>exact zi I3 ea ry l fun s4 I4=>⟨z,H3,I4,rz,q4 l⟩
end
section
variable {X:Cx}{pins:List (Addr×Obj)}{σ:St}{H:Hp}{s:Shared}{a:Addr}{kvs:List (bh×V)}{A:Around}{E:Value->Shared->Prop}
theorem wy {Q:Value->Shared->Prop} (I:Inv X pins σ H s) (e:Rd H a (.dK kvs)) (h:∀ p s',H p=none->Inv X pins σ (aA H p (.dK kvs)) s'->Q (.ref p) s'):wpAny (model X.prog X.w) A (call (.type "dict") [.ref a]) Q E s:=by
 obtain ⟨z,hd,vs,rel,dd⟩:=dL I.hok e;refine kt_call_dict hd dd (by rw [<- rel.length]; exact z) fun h' dd' hs=>?_;refine h _ _ (I.hok.fresh (Nat.le_refl _)) (I.laid (a:=s.heap.objs.size) (o:=.dK kvs) (t':=s.toks) (fun b q hq=>?_) (Nat.le_refl _) (kP z (beq_eq_false_iff_ne.mpr (Ne.symm (Nat.ne_of_lt I.big))) rel dd'));exact (hs.2 b (Nat.ne_of_lt (Heap.lt_size hq))).trans (Heap.get?_push_of_some _ hq)
end
section
variable {X:Cx}{pins:List (Addr×Obj)}{σ:St}{H:Hp}{s:Shared}{a:Addr}{y:V}{u:Value}{A:Around}{E:Value->Shared->Prop}
end
end L2
namespace Att
open PySem PySem.W PySem.Calls PyProof.Rows
theorem j8 {P:Params}{h:Heap}:∀ (ns:List Int) (vs:List Value),WellAll P h vs (ns.map WData.int)->IntsAre vs ns:=by
 intro ns
 induction ns with
 | nil =>
  intro vs w;rw [List.map_nil] at w;cases w;exact .nil
 | cons n ns ih =>
  intro vs w;rw [List.map_cons] at w;cases w with
  | cons a b =>
   cases a;exact .cons _ _ (ih _ b)
theorem tV {l:OpenLaw}{n:Nat} (hn:l.most=some n) {P:Params}{h:Heap}{args:List WData}{vals:List Value}
  (hpre:l.row.toRowW.claim.pre args=true) (hwl:WellAll P h vals args) :
  ∃ a vs ns,vals=[Value.ref a]/\args=[WData.list (ns.map WData.int)]/\h.get? a=some { cls:=.type "list",data:=.seq vs.toArray }/\IntsAre vs ns/\ns.length<=n:=by
 have hsh:WShape.hasAll [] args [.list .int]=true:=(pre_splitW hpre).1;have hc:l.pre.holds [] { args:=args }=true:=(pre_splitW hpre).2;obtain ⟨d,r,rfl,h1,h2⟩:=hasAllW_cons hsh;obtain rfl:=hasAllW_nil h2;obtain ⟨xs,rfl,h3⟩:=hasW_list h1;obtain ⟨ns,rfl⟩:=items_int h3;have hlen:ns.length<=n:=by
  unfold OpenLaw.pre at hc;have h4:(WTm.not (.lt (.lit (.int (n:Int))) (.len (.arg 0)))).holds [] { args:=[.list (ns.map .int)] }=true:=by
   have h4:=(holds_andW hc).1;rw [hn] at h4;exact h4
  have h5:=condW_of h4 (w_not (w_lt w_lit (w_len_list (w_arg rfl))));rw [List.length_map] at h5;refine Nat.le_of_not_lt fun q=>?_;have q':(n:Int) < ((ns.length:Nat):Int):=by omega
  first
   | (rw [decide_eq_true q'] at h5; exact absurd h5 (by decide))
   | (simp at h5; omega)
 cases hwl with
 | cons w1 w2 =>
  cases w2;cases w1 with
  | list ho hall=>exact ⟨_,_,ns,rfl,rfl,ho,j8 ns _ hall,hlen⟩
theorem tZ (l:OpenLaw) (args:List WData):l.row.toRowW.claim.post args (.bool true) args=true :=
 postW_of (r:=l.row.toRowW) (X:=(true==true))
  (show WShape.has [] (.bool true) .bool=true by first | rfl | decide | simp [WShape.has,WShape.arms,WShape.armsAll])
  (show (WTm.eq .res (.lit (.bool true))).value [] { args:=args,res:=some (.bool true),after:=args }=some (.bool (true==true)) from w_eq_bool (w_res rfl) w_lit) rfl
theorem qt {l:OpenLaw}{n:Nat}{q:Program}{loose:List Str}{XP:(Str->Option Value)->Heap->Prop}{YP:World->Heap->Prop}{d:DefRec}
  (hn:l.most=some n) (hdf:d.params.defaults=[])
  (call:∀ (w:World) (s₀ s₁:Shared) (mg mb:Str->Option Value) (fa:Addr) (o:Obj) (pm cd doc:Value) (a:Addr) (vs:List Value) (ns:List Int),
   Ground q loose [] XP w s₀ mg mb s₁.heap->YP w s₁.heap ->
   s₁.heap.get? fa=some o->o.data=.func (docDef d.name d.params d.body d.scope pm cd doc)->s₁.heap.CodeRec cd d.name->mg d.name=some (.ref fa) ->
   s₁.heap.get? a=some { cls:=.type "list",data:=.seq vs.toArray }->IntsAre vs ns->ns.length<=n->s₁.gens=#[] ->
   codeAny (model l.prog w) callerA (.call (.ref fa) ⟨[.ref a],[]⟩) (fun r s'=>r=.ok (.ret (.bool true))/\OldK s₁.heap s'.heap/\s'.os=s₁.os/\AllBare s'.gens) s₁) :
  WalkO q loose XP YP l.row.toRowW d [] (fun f vs=>PySem.call f vs):=by
 intro w s₀ s₁ mg mb G Y fa o pm cd doc dV kV ho hd hcd hD hmg hg args vals as hpre hlay hrd hwl hlo;obtain rfl:dV=.none:=Dflts.none hD hdf;obtain rfl:kV=.none:=Dflts.noKw hD;obtain ⟨a,vs,ns,rfl,rfl,hobj,hints,hlen⟩:=tV hn hpre hwl;refine enter_call (codeAny_mono (call w s₀ s₁ mg mb fa o pm cd doc a vs ns G Y ho (fd_plain hd) hcd hmg hobj hints hlen hg) fun r s' hq=>?_);obtain ⟨rfl,h2,h3,h4⟩:=hq;exact ⟨.inl ⟨.bool true,.bool true,[],rfl,fun _=>rfl,.bool true,tZ l _,fun _=>⟨List.Pairwise.nil,fun _ hm=>(nomatch hm)⟩⟩,h2,h3,h4⟩
section
variable {prog:Program}{w:World}{A:Around}{E:Value->Shared->Prop}{s:Shared}{K:Frag}
end
end Att
namespace L2
open PySem PySem.Spec PyProof.Rows
theorem mK:∀ {vs:List Value}{ns:List Int},IntsAre vs ns->aU (ns.map V.int) vs
 | _,_,.nil=>.nil
 | _,_,.cons n t h=>.cons ⟨t,rfl⟩ (mK h)
noncomputable def wS (H:Hp):Prop:=∀ b,H b=none\/∃ o xs,H b=some (.frz o (.lst xs))
theorem wa {P:Program}{w:World}{K:Frag}{mg mb:Str->Option Value}{CX:uO}{k:Nat}{fa a:Addr}{fd:FuncData}{x:Str}{sp:Sp}{s₁:Shared}{vs:List Value}{ns:List Int}
  (KX:K.In s₁.heap) (hns:s₁.heap.Ns mainGlobals mg) (hb:s₁.heap.Ns builtinsNs mb) (hbb:∀ x:Str,x ≠ "__name__" -> mb x=bootBuiltins x) (hlim:s₁.heap.NoLimit) (hg:s₁.gens=#[])
  (ha:s₁.heap.get? a=some { cls:=.type "list",data:=.seq vs.toArray }) (hi:IntsAre vs ns) (hl:ns.length<=sizeLine) (hr:Room k callerA)
  (F:∀ base:Heap,K.In base->base.Ns mainGlobals mg->FnOk P w K mg base CX k fa fd [x] sp) (hbind:∀ (s:Shared) (u:Value),BindsTo s fd ⟨[u],[]⟩ [(x,u)])
  (hsp:∀ H:Hp,wS H->a9 K H a (ns.map V.int)->sp [.ref a] H (fun v _=>v=.bl true) fun _ _ _=>False)
  (hCX:∀ H e s',CX [] H s₁ (fun _ _ _=>False) e s'->False) :
  codeAny (model P w) callerA (.call (.ref fa) ⟨[.ref a],[]⟩) (fun r s'=>r=.ok (.ret (.bool true))/\OldK s₁.heap s'.heap/\s'.os=s₁.os/\AllBare s'.gens) s₁:=by
 have rv:=mK hi;have lenV:=hi.length;have core:∀ H:Hp,wS H->a9 K H a (ns.map V.int)->ge P w H s₁.heap->(∀ b,H b≠none->b=a)->(H a≠none->K.lookup a=none) ->
   codeAny (model P w) callerA (.call (.ref fa) ⟨[.ref a],[]⟩) (fun r s'=>r=.ok (.ret (.bool true))/\OldK s₁.heap s'.heap/\s'.os=s₁.os/\AllBare s'.gens) s₁:=by
  intro H hO hS hok hA hK;have base_of:∀ {b:Addr}{o:Obj},s₁.heap.get? b=some o->H b=none->(nE s₁.heap H).get? b=some o:=fun e n=>we e n;have noA:∀ {b:Addr}{o:Obj}{es:Array DictEntry}{ep:Nat},s₁.heap.get? b=some o->o.data=.dict es ep->H b=none:=fun {b o es ep} e d=>by
   cases q:H b with
   | none=>rfl
   | some u =>
    have e':b=a:=hA b (by rw [q]; simp);subst e';rw [ha] at e; cases e;have d':Data.seq vs.toArray _=Data.dict es ep:=d;cases d'
  have nsK:∀ {b:Addr}{m:Str->Option Value},s₁.heap.Ns b m->(nE s₁.heap H).Ns b m:=fun {b m} ⟨o,es,ep,e,d,r⟩=>⟨o,es,ep,base_of e (noA e d),d,r⟩;have hKb:K.In (nE s₁.heap H):=fun b o e=>base_of (KX b o e) (by
   cases q:H b with
   | none=>rfl
   | some u =>
    have e':b=a:=hA b (by rw [q]; simp);subst e';rw [hK (by rw [q]; simp)] at e; cases e)
  have hM:Mod K mg (nE s₁.heap H):=⟨hKb,nsK hns,⟨mb,nsK hb,hbb⟩,let ⟨mc,h1,h2⟩:=hlim; ⟨mc,nsK h1,h2⟩⟩;have e0:Env0 P w K mg (nE s₁.heap H) callerA [] s₁ H:=⟨rfl,hM,fun b o e=>xk e,Nat.le_of_eq (ut _ _),trivial,fun b hb=>absurd (show b∈([]:List Addr) from hb) (by simp),hok,.of_eq hg⟩;refine codeAny_mono ((F _ hKb (nsK hns)).run callerA [] s₁ H ⟨[.ref a],[]⟩ [.ref a] [.ref a] _ _ hr e0 (hbind s₁ (.ref a)) (.cons rfl .nil) (hsp H hO hS)) fun r s' h=>?_;cases r with
  | error e=>exact (hCX H e s' h).elim
  | ok fl =>
   cases fl with
   | next=>exact False.elim h
   | brk=>exact False.elim h
   | cont=>exact False.elim h
   | ret u =>
    obtain ⟨v,H',os,bare,un,hok',r',q⟩:=h;have q':v=.bl true:=q;subst q';obtain rfl:u=Value.bool true:=r';refine ⟨rfl,OldK.of_keep fun b o e=>?_,os,bare⟩;cases q:H b with
    | none=>exact un.keep b o e q (by intro z; exact absurd (show b∈([]:List Addr) from z) (by simp)) (by simp)
    | some u =>
     rcases hO b with z | ⟨ob,xs,z⟩
     ·rw [q] at z; cases z
     ·have z2:=un.frzs b ob _ z
      obtain ⟨e1,_⟩:=hok b _ z;obtain ⟨e2,_⟩:=hok' b _ z2;rw [e] at e1; cases e1;exact e2
 cases hk:K.lookup a with
 | some o =>
  have e:=KX a o hk;rw [ha] at e;cases e;refine core (fun _=>none) (fun _=>.inl rfl) (.inr ⟨_,vs.toArray,_,hk,rfl,rfl,rfl,by rw [List.size_toArray,lenV]; exact hl,by simpa using rv⟩) (fun b u z=>by have z':(none:Option HO)=some u:=z; cases z') (fun b z=>absurd rfl z) fun z=>absurd rfl z
 | none =>
  refine core (fun b=>if b=a then some (.frz { cls:=.type "list",data:=.seq vs.toArray } (.lst (ns.map V.int))) else none) (fun b=>?_) (.inl (.inr ⟨{ cls:=.type "list",data:=.seq vs.toArray },if_pos rfl⟩)) (fun b u z=>?_) (fun b z=>?_) fun _=>hk
  ·by_cases hb:b=a
   ·exact .inr ⟨_,_,if_pos hb⟩
   ·exact .inl (if_neg hb)
  ·by_cases hb:b=a
   ·have z':=(if_pos hb).symm.trans z
    cases z';subst hb;exact ⟨ha,by rw [List.length_map]; exact hl,vs,_,rv,ha⟩
   ·have z':=(if_neg hb).symm.trans z
    cases z'
  ·by_cases hb:b=a
   ·exact hb
   ·exact absurd (if_neg hb) z
theorem wW {l:PySem.W.OpenLaw}{n k:Nat}{q:Program}{loose:List Str}{XP:(Str->Option Value)->Heap->Prop}{YP:World->Heap->Prop}{d:DefRec}{K:Params->Frag}{CX:World->uO}{sp:World->Sp}{x:Str}
  (hn:l.most=some n) (hn2:n<=sizeLine) (hdf:d.params.defaults=[]) (hr:Room k callerA)
  (hY:∀ (w:World) (h:Heap),YP w h->(K w.params).In h)
  (F:∀ (w:World) (mg:Str->Option Value) (fa:Addr) (h:Heap),(K w.params).In h->h.Ns mainGlobals mg->mg d.name=some (.ref fa) ->
   ∃ fd:FuncData,(∀ (s:Shared) (u:Value),BindsTo s fd ⟨[u],[]⟩ [(x,u)]) /\
    ∀ base:Heap,(K w.params).In base->base.Ns mainGlobals mg->FnOk l.prog w (K w.params) mg base (CX w) k fa fd [x] (sp w))
  (hsp:∀ (w:World) (H:Hp) (a:Addr) (ns:List Int),ns.length<=n->wS H->a9 (K w.params) H a (ns.map V.int)->sp w [.ref a] H (fun v _=>v=.bl true) fun _ _ _=>False)
  (hCX:∀ (w:World) (H:Hp) (s:Shared) (e:Value) (s':Shared),CX w [] H s (fun _ _ _=>False) e s'->False) :
  PySem.W.WalkO q loose XP YP l.row.toRowW d [] (fun f vs=>PySem.call f vs):=by
 refine Att.qt hn hdf fun w s₀ s₁ mg mb fa o pm cd doc a vs ns G Y ho hd hcd hmg hobj hints hlen hg=>?_;have KX:=hY w _ Y;obtain ⟨fd,hb,hF⟩:=F w mg fa _ KX G.T.g hmg;exact wa KX G.T.g G.T.b G.T.builtins G.T.nolimit hg hobj hints (Nat.le_trans hlen hn2) hr hF hb (fun H hO hS=>hsp w H a ns hlen hO hS) fun H e s'=>hCX w H s₁ e s'
noncomputable def bA (s:Stmt) (j:Nat):Stmt:=match s with
 | .ClassDef _ _ _ body _ _ _ _ _ _ _=>body.getD j (.Pass ⟨0,0,0,0⟩)
 | _=>.Pass ⟨0,0,0,0⟩
noncomputable def dr (s:Stmt):Arguments:=match s with
 | .FunctionDef _ a _ _ _ _ _ _ _ _=>a
 | _=>{ posonlyargs:=[],args:=[],vararg:=none,kwonlyargs:=[],kw_defaults:=[],kwarg:=none,defaults:=[] }
noncomputable def bS (s:Stmt):List Stmt:=match s with
 | .FunctionDef _ _ b _ _ _ _ _ _ _=>b
 | _=>[]
noncomputable def aw (s:Stmt):Scope:=match s with
 | .FunctionDef _ _ _ _ _ _ sc _ _ _=>sc
 | _=>{ kind:=.function,names:=[],isGenerator:=false,isCoroutine:=false }
abbrev tH:uO:=fun _ _ _ _ _ _=>False
abbrev E0:XK:=fun _ _ _=>False
theorem rN {X:Cx}:d7 tH X E0:=fun _ _ _ _ _ _ _ h=>h.elim
structure Fun (K:Frag) (x qual:Str) (st:Stmt) (f:Addr) (fd:FuncData):Prop where
 ex:∃ (oc:Value) (od:Option Addr) (kV doc pm:Value) (an:Option Addr) (cdv ct:Value) (osl:Array (Option Value)),
  fd=PySem.W.fnOf x qual (dr st) (bS st) (aw st) .none kV doc pm an cdv ct/\K.lookup f=some ⟨oc,od,.func fd,osl⟩/\PySem.W.codeIn K cdv qual=true
 kp:PySem.W.keepIn K (.ref f)=true
section
variable {P:Program}{w:World}{K:Frag}{mg:Str->Option Value}{base:Heap}
theorem Fun.ok {x qual:Str}{st:Stmt}{f:Addr}{fd:FuncData}{N ps:List Str}{k:Nat}{sp:Sp} (F:Fun K x qual st f fd) (S:FnScope N ps (aw st)) (len:∀ vs H Q E,sp vs H Q E->vs.length=ps.length)
  (hbody:∀ (cdv:Value) (A:Around) (outer:List Env) (s:Shared) (H:Hp) (vs:List V) (Q:VK) (E:XK),Room k (A.deeper (envOfC qual (aw st) s.heap.objs.size f cdv))->sp vs H Q E ->
   ∃ t,gI (jU tH P w K mg base N qual (aw st) f cdv A outer s H E).nox (bS st) t/\t { nx:=fun _ H'=>Q .non H',rt:=Q } (start N vs) H):FnOk P w K mg base tH (k+1) f fd ps sp:=by
 obtain ⟨oc,od,kV,doc,pm,an,cdv,ct,osl,rfl,lk,hcd⟩:=F.ex;refine ya lk hcd S len fun A outer s H vs Q E hr hsp=>?_;obtain ⟨t,h,q⟩:=hbody cdv A outer s H vs Q E hr hsp;exact ⟨t,h.nox,q⟩
theorem qP {x qual:Str}{st:Stmt}{f:Addr}{oc:Value}{od an:Option Addr}{osl:Array (Option Value)}{kV doc pm cdv ct:Value} (l:K.lookup f=some ⟨oc,od,.func (PySem.W.fnOf x qual (dr st) (bS st) (aw st) .none kV doc pm an cdv ct),osl⟩)
  (c:PySem.W.codeIn K cdv qual=true) (k:PySem.W.keepIn K (.ref f)=true):Fun K x qual st f (PySem.W.fnOf x qual (dr st) (bS st) (aw st) .none kV doc pm an cdv ct):=⟨⟨oc,od,kV,doc,pm,an,cdv,ct,osl,rfl,l,c⟩,k⟩
end
theorem bM {A:Around}{k:Nat} (hr:Room k A):A.units+1 < cLine:=Nat.lt_of_le_of_lt (Nat.add_le_add_left (by decide:1<=64) _) hr.units
theorem aS {n:Nat} (h:n<=1000):n < sizeLine:=Nat.lt_of_le_of_lt h (by decide)
section
variable {X:Cx}
theorem uI:cE X (.builtin "len") (fun xs H Q=>∃ a kvs,xs=[V.ref a]/\H a=some (.dK kvs)/\Q (.int kvs.length) H):=by
 intro pins s σ H xs us Q I r h;obtain ⟨a,kvs,rfl,ha,q⟩:=h;obtain ⟨u,rfl,ru⟩:=fY r;cases ru;exact AA I (.inl ha) fun t s' I'=>⟨.int kvs.length,H,I',⟨t,rfl⟩,q⟩
end
theorem bU {A B:Prop} (h:B):if false=true then A else B:=by
 rw [if_neg Bool.false_ne_true];exact h
theorem bH {A B:Prop} (h:A):if true=true then A else B:=by
 rw [if_pos rfl];exact h
theorem fx {c A B:Prop} [Decidable c] (h1:c->A) (h2:¬ c->B):if c then A else B:=by
 by_cases h:c
 ·rw [if_pos h]
  exact h1 h
 ·rw [if_neg h]
  exact h2 h
theorem gN {c A B:Prop} [Decidable c] (hc:c) (h:B):if (!decide c)=true then A else B:=by
 rw [decide_eq_true hc];exact bU h
noncomputable def aV (H H':Hp):Prop:=∀ b o,H b=some o->H' b=some o
theorem aV.refl (H:Hp):aV H H:=fun _ _ h=>h
theorem aV.trans {H H1 H2:Hp} (a:aV H H1) (b:aV H1 H2):aV H H2:=fun c o h=>b c o (a c o h)
section
variable {κ:Type} [DecidableEq κ]
theorem sP:∀ {l:List κ}{k:κ},l.Nodup->¬ k∈l->(l++[k]).Nodup
 | [],k,_,_=>by simp
 | a :: r,k,h,hk=>by
  obtain ⟨h1,h2⟩:=List.nodup_cons.mp h;show (a :: (r++[k])).Nodup;refine List.nodup_cons.mpr ⟨fun m=>?_,sP h2 fun m=>hk (List.mem_cons.mpr (Or.inr m))⟩;rcases List.mem_append.mp m with q | q
  ·exact h1 q
  ·exact hk (List.mem_cons.mpr (Or.inl (List.mem_singleton.mp q).symm))
end
theorem iU {α β:Type}{f:α->β->Sem (ForInStep β)}{g:β->α->β}:∀ (l:List α) (c:β),(∀ x∈l,∀ c,f x c=pure (.yield (g c x)))->forIn l c f=pure (l.foldl g c)
 | [],c,_=>rfl
 | x :: l,c,h=>by
  rw [List.forIn_cons,h x List.mem_cons_self,pure_bind,List.foldl_cons];exact iU l (g c x) fun y hy=>h y (List.mem_cons_of_mem _ hy)
noncomputable def kF (env:Env) (cs:List (Str×Addr)) (x:Str×NameKind):List (Str×Addr) :=
 if x.2==NameKind.free then (match env.cells.lookup x.1 with | some c=>(x.1,c) :: cs | none=>cs) else cs
noncomputable def xH (env:Env) (names:List (Str×NameKind)):List (Str×Addr):=names.foldl (kF env) []
theorem gy {scope:Scope}{env:Env} (h:∀ x∈scope.names,x.2=.free->∃ c,env.cells.lookup x.1=some c):closureFor scope env=pure (xH env scope.names):=by
 simp only [closureFor];rw [iU (g:=kF env) scope.names [] (fun x hx c=>?_)]
 ·rfl
 ·obtain ⟨n,k⟩:=x
  by_cases e:k=.free
  ·subst e
   obtain ⟨a,ha⟩:=h _ hx rfl;have ha':env.cells.lookup n=some a:=ha;simp [cellOf,ha',kF]
  ·have e':(k==NameKind.free)=false:=by simpa using e
   simp [kF,e']
theorem tj {env:Env}:∀ (names:List (Str×NameKind)) (cs:List (Str×Addr)),(∀ p∈cs,env.cells.lookup p.1=some p.2)->∀ p∈names.foldl (kF env) cs,env.cells.lookup p.1=some p.2
 | [],cs,h,p,hp=>h p hp
 | x :: r,cs,h,p,hp=>by
  refine tj r (kF env cs x) (fun q hq=>?_) p hp;unfold kF at hq;split at hq
  ·split at hq
   ·rename_i c e
    rcases List.mem_cons.mp hq with z | z
    ·subst z; exact e
    ·exact h q z
   ·exact h q hq
  ·exact h q hq
theorem fE {env:Env}{names:List (Str×NameKind)}{x:Str}{c:Addr} (h:(xH env names).lookup x=some c):env.cells.lookup x=some c :=
 tj names [] (fun _ z=>nomatch z) (x,c) (PySem.mem_of_lookup h)
theorem mV {env:Env}{x:Str}:∀ (names:List (Str×NameKind)) (cs:List (Str×Addr)),(∃ c,cs.lookup x=some c)->∃ c,(names.foldl (kF env) cs).lookup x=some c
 | [],_,h=>h
 | y :: r,cs,h=>by
  refine mV r _ ?_;unfold kF;split
  ·split
   ·obtain ⟨c,hc⟩:=h
    rw [List.lookup_cons];split
    ·exact ⟨_,rfl⟩
    ·exact ⟨c,hc⟩
   ·exact h
  ·exact h
theorem oo {env:Env}{x:Str}{c:Addr} (hc:env.cells.lookup x=some c):∀ (names:List (Str×NameKind)) (cs:List (Str×Addr)),(x,NameKind.free)∈names->∃ c,(names.foldl (kF env) cs).lookup x=some c
 | [],_,h=>nomatch h
 | y :: r,cs,h=>by
  rcases List.mem_cons.mp h with e | e
  ·subst e
   refine mV r _ ?_;unfold kF;simp only [beq_self_eq_true,if_true];rw [hc];exact ⟨c,by simp [List.lookup_cons]⟩
  ·exact oo hc r _ e
structure CScope (scope:Scope):Prop where
 kind:scope.kind=.function
 nocell:∀ x∈scope.names,x.2≠.cell
 names:∀ x∈scope.names,x.2=.local->scope.names.lookup x.1=some .local
noncomputable def cC (X:Cx) (scope:Scope) (C:Addr) (N:List Str) (s₀:Shared) (H₀:Hp) (fp:List Addr):Cx :=
 { X with N:=N,s₀:=s₀,H₀:=H₀,env:=compEnvC scope (xH X.env scope.names) C X.env,outer:=X.stack,stack:=X.stack,ex:=fp,fn:=fun _=>false,pn:=[],xe:=fun _ _=>False }
section
variable {X:Cx}{scope:Scope}{pins:List (Addr×Obj)}{σ:St}{H:Hp}{s:Shared}{fp:List Addr}
theorem gx {env:Env}:∀ {names:List (Str×NameKind)}{x:Str},(∀ y∈names,y.2≠.cell) ->
  ((names.map fun (n,k)=>if (k==NameKind.free&&env.scope.kind==.function&&env.kindOf n==some .cell) then (n,NameKind.cell) else (n,k)).lookup x=some .cell\/(names.map fun (n,k)=>if (k==NameKind.free&&env.scope.kind==.function&&env.kindOf n==some .cell) then (n,NameKind.cell) else (n,k)).lookup x=some .free)->(x,NameKind.free)∈names
 | [],_,_,h=>by rcases h with h | h<;>simp at h
 | (n,k) :: r,x,hn,h=>by
  have ih:=@gx env r x (fun y hy=>hn y (List.mem_cons_of_mem _ hy));have hk:k≠.cell:=hn (n,k) List.mem_cons_self;rw [List.map_cons] at h
  by_cases hx:x=n
  ·subst hx
   have hf:k=.free:=by
    by_cases hc:(k==NameKind.free&&env.scope.kind==.function&&env.kindOf x==some .cell)=true
    ·simp only [Bool.and_eq_true,beq_iff_eq] at hc
     exact hc.1.1
    ·dsimp only at h
     rw [if_neg hc] at h;rcases h with h | h
     ·simp at h; exact absurd h hk
     ·simpa using h
   subst hf;exact List.mem_cons_self
  ·have hx':(x==n)=false:=by simpa using hx
   refine List.mem_cons_of_mem _ (ih ?_);dsimp only at h ⊢
   by_cases hc:(k==NameKind.free&&env.scope.kind==.function&&env.kindOf n==some .cell)=true
   ·rw [if_pos hc] at h
    simpa only [List.lookup_cons,hx'] using h
   ·rw [if_neg hc] at h
    simpa only [List.lookup_cons,hx'] using h
theorem uC {N:List Str} (I:Inv X pins σ H s) (S:CScope scope) (hf:∀ b∈fp,FpOk X pins H b) (hlt:∀ b∈fp,b < s.heap.objs.size)
  (hfree:∀ x,(x,NameKind.free)∈scope.names->∃ c,X.env.cells.lookup x=some c):(cC X scope s.heap.objs.size N s H fp).Ok where
 mod:=I.ok.mod
 kind:=S.kind
 glob:=I.ok.glob
 blt:=I.ok.blt
 above:=Nat.le_refl _
 inj:=fun x y c h1 h2=>I.ok.inj x y c (fE h1) (fE h2)
 has:=fun x hx=>by
  have hm:(x,NameKind.free)∈scope.names:=gx S.nocell hx;obtain ⟨c,hc⟩:=hfree x hm;exact oo hc scope.names [] hm
 cab:=fun x c h=>absurd (show false=true from h) Bool.false_ne_true
 hd:=I.ok.hd
 frames:=I.ok.frames
 stk:=.inl rfl
 exf:=fun b hb=>⟨Nat.ne_of_lt (hlt b hb),fun x c h=>(hf b hb).2.2.2.2.1 x c (fE h)⟩
 bs:=fun b o e=>I.bs b o e
 bsz:=Nat.le_trans I.ok.bsz I.sz
 noex:=fun b o e hb=>by
  rcases (hf b hb).2.2.2.1 with z | z
  ·exact I.ok.noex b o e z
  ·exact absurd (Nat.lt_of_lt_of_le (Heap.lt_size e) I.ok.bsz) (Nat.not_lt.mpr z)
 exfs:=fun b hb z=>by
  rcases List.mem_cons.mp (I.stkSub b z) with e | e
  ·exact (hf b hb).2.1 e
  ·exact (hf b hb).2.2.1 e
 funs:=I.stack
 frf:=I.stkFree
structure Caps (X:Cx) (scope:Scope) (fr:List Nat):Prop where
 cap:∀ j∈fr,∃ x,X.N[j]? = some x/\(X.env.scope.names.lookup x=some .cell\/X.env.scope.names.lookup x=some .free)/\scope.names.lookup x=some .free
 free:∀ x,(x,NameKind.free)∈scope.names->X.env.scope.names.lookup x=some .cell\/X.env.scope.names.lookup x=some .free
noncomputable def mE (X:Cx) (tgs:List Str) (fr:List Nat):List Str:=tgs++fr.map fun j=>X.N.getD j ""
noncomputable def l_ (k:Nat) (fr:List Nat) (σ:St):St:=List.replicate k none++fr.map fun j=>(σ[j]?).getD none
theorem iR {env:Env}:∀ {names:List (Str×NameKind)}{x:Str},names.lookup x=some .free ->
  ((names.map fun (n,k)=>if (k==NameKind.free&&env.scope.kind==.function&&env.kindOf n==some .cell) then (n,NameKind.cell) else (n,k)).lookup x=some .cell\/(names.map fun (n,k)=>if (k==NameKind.free&&env.scope.kind==.function&&env.kindOf n==some .cell) then (n,NameKind.cell) else (n,k)).lookup x=some .free)
 | [],_,h=>by simp at h
 | (n,k) :: r,x,h=>by
  have ih:=@iR env r x;rw [List.map_cons];dsimp only;cases hx:x==n with
  | true =>
   rw [List.lookup_cons,hx] at h;obtain rfl:k=.free:=by simpa using h
   by_cases hc:(NameKind.free==NameKind.free&&env.scope.kind==.function&&env.kindOf n==some .cell)=true
   ·rw [if_pos hc]; left; simp [List.lookup_cons,hx]
   ·rw [if_neg hc]; right; simp [List.lookup_cons,hx]
  | false =>
   rw [List.lookup_cons,hx] at h
   by_cases hc:(k==NameKind.free&&env.scope.kind==.function&&env.kindOf n==some .cell)=true
   ·rw [if_pos hc]; simpa only [List.lookup_cons,hx] using ih h
   ·rw [if_neg hc]; simpa only [List.lookup_cons,hx] using ih h
theorem wC {tgs:List Str}{fr:List Nat}{h₁:Heap}{tk:Nat} (I:Inv X pins σ H s) (S:CScope scope) (P:Caps X scope fr) (hf:∀ b∈fp,FpOk X pins H b) (hlt:∀ b∈fp,b < s.heap.objs.size)
  {m:Str->Option Value} (hns:h₁.Ns s.heap.objs.size m) (hk:∀ b o,s.heap.get? b=some o->h₁.get? b=some o) :
  Inv (cC X scope s.heap.objs.size (mE X tgs fr) s H fp) [] (l_ tgs.length fr σ) H { s with heap:=h₁,toks:=tk }:=by
 have hfree:∀ x,(x,NameKind.free)∈scope.names->∃ c,X.env.cells.lookup x=some c:=fun x hx=>I.ok.has x (P.free x hx);refine ⟨uC I S hf hlt hfree,rfl,I.bare,Un.kept hk,⟨m,hns,fun i x v h1 h2 h3=>?_⟩,fun x c h=>?_,I.hok.fresh (Nat.le_refl _),fun x c h=>I.freeC x c (fE h),fun p hp=>absurd (show p∈([]:List (Addr×Obj)) from hp) (by simp),I.hok.kept hk,?_⟩
 ·have hi:tgs.length<=i:=by
   by_cases hi:i < tgs.length
   ·unfold l_ at h2
    rw [List.getElem?_append_left (by simpa using hi),List.getElem?_replicate] at h2;split at h2<;>cases h2
   ·omega
  have h1':(fr.map fun j=>X.N.getD j "")[i - tgs.length]? = some x:=by
   have h1:(mE X tgs fr)[i]? = some x:=h1;unfold mE at h1;rw [List.getElem?_append_right hi] at h1;exact h1
  have h2':(fr.map fun j=>(σ[j]?).getD none)[i - tgs.length]? = some (some v):=by
   unfold l_ at h2;rw [List.getElem?_append_right (by simpa using hi),List.length_replicate] at h2;exact h2
  rw [List.getElem?_map] at h1' h2';cases ej:fr[i - tgs.length]? with
  | none=>rw [ej] at h1'; cases h1'
  | some j =>
   rw [ej] at h1' h2';have e1:X.N.getD j "" = x:=Option.some.inj h1';have e2:(σ[j]?).getD none=some v:=Option.some.inj h2';obtain ⟨y,hy,hkx,hks⟩:=P.cap j (List.mem_of_getElem? ej);have exy:x=y:=by
    rw [<- e1,List.getD_eq_getElem?_getD,hy]; rfl
   subst exy;have e3:σ[j]? = some (some v):=by
    cases q:σ[j]? with
    | none=>rw [q] at e2; cases e2
    | some o=>rw [q] at e2; exact congrArg some e2
   obtain ⟨m0,hn0,hl⟩:=I.loc;obtain ⟨u,r,l⟩:=hl j x v hy e3 (.inr hkx);refine ⟨u,r,.inr ⟨iR hks,?_⟩⟩;obtain ⟨c,hc⟩:=I.ok.has x hkx;obtain ⟨c',hc'⟩:=oo hc scope.names [] (PySem.mem_of_lookup hks);have hcc:X.env.cells.lookup x=some c':=fE hc';refine ⟨c',hc',?_⟩;rcases l with ⟨lk,_⟩ | ⟨_,c2,hc2,z⟩
   ·have lk:X.env.scope.names.lookup x=some .local:=lk
    rcases hkx with q | q<;>(rw [q] at lk; cases lk)
   ·rw [hc2] at hcc; cases hcc
    obtain ⟨o,ho,hd⟩:=z;exact ⟨o,hk _ o ho,hd⟩
 ·obtain ⟨v,o,ho,hd⟩:=I.cell x c (fE h)
  exact ⟨v,o,hk _ o ho,hd⟩
 ·show (l_ tgs.length fr σ).length=(mE X tgs fr).length
  unfold l_ mE;simp
theorem wB {N:List Str}{C:Addr}{σ':St}{H':Hp}{s':Shared}{h':Heap} (I:Inv X pins σ H s) (hC:C=s.heap.objs.size) (hf:∀ b∈fp,FpOk X pins H b) (J:Inv (cC X scope C N s H fp) [] σ' H' s')
  (hs:Heap.SameBut C s'.heap h'):Inv X pins σ H' { s' with heap:=h' }:=by
 have nC:H' C=none:=J.free;have neC:∀ b o,s.heap.get? b=some o->b≠C:=fun b o e=>by rw [hC]; exact Nat.ne_of_lt (Heap.lt_size e)
 have hok:ge X.prog X.w H' h':=fun b ob e=>by
  refine (J.hok b ob e).stay (fun c w' hc q=>(hs.2 c ?_).trans q) (fun _ q=>q) fun _ _ q=>q;rintro rfl;rcases hc with rfl | hc
  ·rw [nC] at e; cases e
  ·rw [nC] at hc; cases hc
 have u:Un (mF X.stack) fp H H' s.heap s'.heap:=J.base;refine I.call' (s':={ s' with heap:=h' }) (ch:=fp) J.os ⟨fun b o e n hb hx=>?_,fun b o e n hb hx=>?_,u.free,fun b o e hx=>?_,u.tups,u.frzs,u.tbls⟩ hok J.bare fun b hb=>?_
 ·exact (hs.2 b (neC b o e)).trans (u.keep b o e n hb hx)
 ·obtain ⟨sl,q⟩:=u.slot b o e n hb hx
  exact ⟨sl,(hs.2 b (neC b o e)).trans q⟩
 ·obtain ⟨o',q⟩:=u.there b o e hx
  exact ⟨o',(hs.2 b (neC b o e)).trans q⟩
 ·obtain ⟨_,f1,f2,f3,f4,f5⟩:=hf b hb
  exact ⟨f3,f1,f4,f5⟩
end
section
variable {prog:Program}{w:World}{A:Around}{R:Result->Shared->Prop}{s:Shared}
noncomputable def xK (M:Model) (A:Around) (env:Env):List Expr->(Bool->Shared->Prop)->Shared->Prop
 | [],Q,s=>Q true s
 | c :: _,Q,s=>wpAny M A (isTrue c env (eval c env)) Q (fun _ _=>False) s
theorem mJ {M:Model}{A:Around}{env:Env}{Q:Bool->Shared->Prop}{s:Shared}:xK M A env [] Q s=Q true s:=rfl
theorem oV {elt target iter:Expr}{ifs:List Expr}{scope:Scope}{pos:Pos}{it acc:Value}{env:Env} (hi:ifs=[]\/∃ c,ifs=[c]) (I:Nat->Shared->Prop)
  (turn:∀ n s,I n s->wpAny (model prog w) A (pyNext it) (fun r s₁=>match r with
   | none=>R (.ok .next) s₁
   | some v=>wpAny (model prog w) A (letOwnedTupleGo target it v) (fun _ s₁'=>wpAny (model prog w) A (assign target env v) (fun _ s₂=>xK (model prog w) A env ifs (fun ok s₃ =>
     if ok=true then wpAny (model prog w) A (eval elt env) (fun x s₄=>wpAny (model prog w) A (call (.builtin "list.append") [acc,x]) (fun _ s₅=>∃ m,m < n/\I m s₅) (fun _ _=>False) s₄) (fun _ _=>False) s₃
     else ∃ m,m < n/\I m s₃) s₂) (fun _ _=>False) s₁') (fun _ _=>False) s₁) (fun _ _=>False) s)
  (n:Nat) (h:I n s):codeAny (model prog w) A (.compLoop (.ListComp elt [⟨target,iter,ifs,0⟩] scope pos) 0 it acc env) R s:=by
 refine codeAny_loop rfl I (fun n s hI=>?_) n h;show wpAny _ _ ((compTurn (.ListComp elt [⟨target,iter,ifs,0⟩] scope pos) 0 it acc env).onRaise (fun x=>do noteFrame x env; theTreesLotGoes x)) _ _ s;refine wpAny_noted ?_;have F:∀ {α:Type}{m:Sem α}{Q:α->Shared->Prop}{E:Value->Shared->Prop}{s:Shared},wpAny (model prog w) A m Q (fun _ _=>False) s->wpAny (model prog w) A m Q E s:=fun h=>wpAny_mono h (fun _ _ q=>q) fun _ _ z=>z.elim;rcases hi with rfl | ⟨c,rfl⟩
 ·have e:compTurn (.ListComp elt [⟨target,iter,[],0⟩] scope pos) 0 it acc env=(standAt iter.pos >>= fun _=>pyNext it >>= fun r=>match r with
   | none=>pure (.done .next)
   | some v=>letOwnedTupleGo target it v >>= fun _=>assign target env v >>= fun _ =>
    (eval elt env >>= fun x=>call (.builtin "list.append") [acc,x] >>= fun _=>pure ()) >>= fun _ =>
     again (.compLoop (.ListComp elt [⟨target,iter,[],0⟩] scope pos) 0 it acc env)):=by rfl
  rw [e];refine wpAny_bind (wpAny_standAt (wpAny_bind (F (bz (turn n s hI) fun r s₁ h₁=>?_))));cases r with
  | none=>exact wpAny_pure h₁
  | some v =>
   refine wpAny_bind (F (bz h₁ fun _ s1 h1=>wpAny_bind (F (bz h1 fun _ s2 h2=>?_))));rw [mJ,if_pos rfl] at h2;exact wpAny_bind (wpAny_bind (F (bz h2 fun x s3 h3=>wpAny_bind (F (bz h3 fun _ s4 h4=>wpAny_pure (wpAny_pure ⟨rfl,h4⟩))))))
 ·have e:compTurn (.ListComp elt [⟨target,iter,[c],0⟩] scope pos) 0 it acc env=(standAt iter.pos >>= fun _=>pyNext it >>= fun r=>match r with
   | none=>pure (.done .next)
   | some v=>letOwnedTupleGo target it v >>= fun _=>assign target env v >>= fun _ =>
    (forIn [c] true fun c r=>if r=true then (do let ok <- isTrue c env (eval c env); pure (ForInStep.yield ok)) else pure (ForInStep.yield r)) >>= fun ok =>
     if ok=true then (eval elt env >>= fun x=>call (.builtin "list.append") [acc,x] >>= fun _=>pure ()) >>= fun _=>again (.compLoop (.ListComp elt [⟨target,iter,[c],0⟩] scope pos) 0 it acc env)
     else again (.compLoop (.ListComp elt [⟨target,iter,[c],0⟩] scope pos) 0 it acc env)):=by rfl
  rw [e];refine wpAny_bind (wpAny_standAt (wpAny_bind (F (bz (turn n s hI) fun r s₁ h₁=>?_))));cases r with
  | none=>exact wpAny_pure h₁
  | some v =>
   refine wpAny_bind (F (bz h₁ fun _ s1 h1=>wpAny_bind (F (bz h1 fun _ s2 h2=>?_))));have h2:wpAny (model prog w) A (isTrue c env (eval c env)) _ (fun _ _=>False) s2:=h2;refine wpAny_bind ?_;rw [List.forIn_cons];refine wpAny_bind ?_;rw [if_pos rfl];refine wpAny_bind (F (bz h2 fun ok s3 h3=>wpAny_pure ?_));show wpAny _ _ (forIn ([]:List Expr) ok _) _ _ s3;rw [List.forIn_nil];refine wpAny_pure ?_;cases ok with
   | true =>
    rw [if_pos rfl] at h3 ⊢;exact wpAny_bind (wpAny_bind (F (bz h3 fun x s4 h4=>wpAny_bind (F (bz h4 fun _ s5 h5=>wpAny_pure (wpAny_pure ⟨rfl,h5⟩))))))
   | false =>
    rw [if_neg Bool.false_ne_true] at h3 ⊢;exact wpAny_pure ⟨rfl,h3⟩
end
abbrev xI:=Option TT
noncomputable def qw:xI->TT
 | none=>fun _ H Q=>Q true H
 | some t=>t
theorem cR {σ:St}{H:Hp}{Q:Bool->Hp->Prop}:qw none σ H Q=Q true H:=rfl
noncomputable def Wk (σ σ2:St):Prop:=∀ (i:Nat) (v:V),σ[i]? = some (some v)->σ2[i]? = some (some v)
theorem Wk.refl (σ:St):Wk σ σ:=fun _ _ h=>h
theorem Wk.set {σ σ2:St}{i:Nat}{o:Option V} (w:Wk σ σ2) (hi:σ[i]? = some none):Wk σ (σ2.set i o):=fun j v h=>by
 by_cases e:i=j
 ·subst e; rw [hi] at h; cases h
 ·rw [List.getElem?_set_ne e]; exact w j v h
noncomputable def xR (wi:TI) (k:Nat) (fr:List Nat) (g:TG) (tt:xI) (te:TE):TE:=fun σ H Q=>wi σ H fun J H1=>∀ D,H1 D=none->∃ W:Nat->Nat->List V->Hp->Prop,(∃ m,W 0 m [] (aA H1 D (.lst []))) /\
 ∀ i m ys H,W i m ys H->(J.stop i H/\Q (.ref D) H)\/(J.go i H/\∀ x H',J.yld i H x H'->g x (l_ k fr σ) H' fun σ2 H2=>Wk (l_ k fr σ) σ2/\qw tt σ2 H2 fun c H3 =>
  if c=true then te σ2 H3 fun v H4=>H4 D=some (.lst ys)/\ys.length < sizeLine/\∃ m',m' < m/\W (i+1) m' (ys++[v]) (aA H4 D (.lst (ys++[v]))) else ∃ m',m' < m/\W (i+1) m' ys H3)
noncomputable def zT (X:Cx):List Expr->xI->Prop
 | [],none=>True
 | [c],some t=>PT X c t
 | _,_=>False
section
variable {X:Cx}{scope:Scope}{tg elt iter:Expr}{ifs:List Expr}{tgs:List Str}{fr:List Nat}{g:TG}{tt:xI}{te:TE}{pos:Pos}
structure Block (X:Cx) (scope:Scope) (tgs:List Str) (fr:List Nat) (tg elt:Expr) (ifs:List Expr) (g:TG) (tt:xI) (te:TE):Prop where
 sc:CScope scope
 caps:Caps X scope fr
 calm:X.calm=true
 tgt:∀ C s₀ H₀ fp,PG (cC X scope C (mE X tgs fr) s₀ H₀ fp) tg g
 ift:∀ C s₀ H₀ fp,zT (cC X scope C (mE X tgs fr) s₀ H₀ fp) ifs tt
 el:∀ C s₀ H₀ fp,PE (cC X scope C (mE X tgs fr) s₀ H₀ fp) elt te
theorem Block.few {X:Cx} (B:Block X scope tgs fr tg elt ifs g tt te) (s:Shared):ifs=[]\/∃ c,ifs=[c]:=by
 have h:=B.ift 0 s (fun _=>none) []
 match ifs,tt,h with
 | [],none,_=>exact .inl rfl
 | [c],some _,_=>exact .inr ⟨c,rfl⟩
theorem pV (B:Block X scope tgs fr tg elt ifs g tt te) {pins:List (Addr×Obj)}{σ:St}{H1:Hp}{s:Shared}{it:Addr}{fp:List Addr}{tn:Nat->Heap->Prop}{J:It}{Q:VK}{RR:Value->Addr->Result->Shared->Prop}{E:Value->Shared->Prop}
  (I:Inv X pins σ H1 s) (T:Turn X.prog X.w X.K tg J fp it tn) (t0:tn 0 s.heap) (hf:∀ b∈fp,FpOk X pins H1 b)
  (hw:∀ D,H1 D=none->∃ W:Nat->Nat->List V->Hp->Prop,(∃ m,W 0 m [] (aA H1 D (.lst []))) /\
   ∀ i m ys H,W i m ys H->(J.stop i H/\Q (.ref D) H)\/(J.go i H/\∀ x H',J.yld i H x H'->g x (l_ tgs.length fr σ) H' fun σ2 H2=>Wk (l_ tgs.length fr σ) σ2/\qw tt σ2 H2 fun c H3 =>
    if c=true then te σ2 H3 fun v H4=>H4 D=some (.lst ys)/\ys.length < sizeLine/\∃ m',m' < m/\W (i+1) m' (ys++[v]) (aA H4 D (.lst (ys++[v]))) else ∃ m',m' < m/\W (i+1) m' ys H3))
  (hR:∀ D C H' s',Inv X pins σ H' s'->H' C=none->C≠X.env.locals->X.s₀.heap.objs.size<=C->(∀ x c,X.env.cells.lookup x=some c->c≠C)->(∀ p∈X.pn++pins,p.1≠C)->(∃ m,s'.heap.Ns C m)->Q (.ref D) H'->RR (.ref D) C (.ok .next) s') :
  wpAny (model X.prog X.w) X.A (newList []) (fun acc s₃=>wpAny (model X.prog X.w) X.A (newFunctionEnv scope X.env.globals (xH X.env scope.names) [] X.env.qual none .none (some X.env)) (fun cenv s₄ =>
   codeAny (model X.prog X.w) X.A (.compStart (.ListComp elt [⟨tg,iter,ifs,0⟩] scope pos) 0 (.ref it) acc { cenv with scope:=relabel scope X.env }) (RR acc cenv.locals) s₄) E s₃) E s:=by
 have few:=B.few s;refine wpAny_newObj_type ?_ (Nat.zero_le _);have nD:H1 s.heap.objs.size=none:=I.hok.fresh (Nat.le_refl _);have I3:Inv X pins σ (aA H1 s.heap.objs.size (.lst [])) { s with heap:=s.heap.push { cls:=.type "list",data:=.seq ([]:List Value).toArray } } :=
  I.laid (t':=s.toks) (fun _ _ q=>Heap.get?_push_of_some _ q) (Nat.le_refl _) ⟨Nat.zero_le _,[],0,.nil,Heap.get?_push_size _ rfl⟩
 obtain ⟨W,⟨m0,w0⟩,turn⟩:=hw _ nD;have lt0:∀ b∈fp,b < s.heap.objs.size:=fun b hb=>let ⟨o,e,_⟩:=T.obj 0 _ t0 b hb; Heap.lt_size e;have hf3:∀ b∈fp,FpOk X pins (aA H1 s.heap.objs.size (.lst [])) b:=fun b hb=>by
  obtain ⟨a0,a1⟩:=hf b hb;exact ⟨by rw [ag (Nat.ne_of_lt (lt0 b hb))]; exact a0,a1⟩
 refine wpAny_newFunctionEnv B.sc.nocell (fun y hy=>nomatch hy) (fun h₁ hns hsb=>?_) B.sc.kind;generalize hs3:({ s with heap:=s.heap.push { cls:=.type "list",data:=.seq ([]:List Value).toArray } }:Shared)=s3 at I3 hns hsb ⊢;have lt3:∀ b∈fp,b < s3.heap.objs.size:=fun b hb=>by
  rw [<- hs3]; show b < (s.heap.push _).objs.size; rw [Heap.size_push]; exact Nat.lt_succ_of_lt (lt0 b hb)
 have k3:∀ b o,s3.heap.get? b=some o->h₁.get? b=some o:=fun b o e=>(hsb.2 b (Nat.ne_of_lt (Heap.lt_size e))).trans (Heap.get?_push_of_some _ e);have k0:∀ b o,s.heap.get? b=some o->s3.heap.get? b=some o:=fun b o e=>by rw [<- hs3]; exact Heap.get?_push_of_some _ e
 have JI:=wC (tgs:=tgs) (tk:=s3.toks+([]:List (Str×Value)).length) I3 B.sc B.caps hf3 lt3 hns k3;have t1:tn 0 h₁:=T.keep _ _ _ t0 fun b hb o e=>k3 b o (k0 b o e);have loop:codeAny (model X.prog X.w) X.A (.compLoop (.ListComp elt [⟨tg,iter,ifs,0⟩] scope pos) 0 (.ref it) (.ref s.heap.objs.size) (compEnvC scope (xH X.env scope.names) s3.heap.objs.size X.env))
   (RR (.ref s.heap.objs.size) s3.heap.objs.size) { s3 with heap:=h₁,toks:=s3.toks+([]:List (Str×Value)).length }:=by
  refine oV few (fun n s'=>∃ i ys σ' H',Inv (cC X scope s3.heap.objs.size (mE X tgs fr) s3 (aA H1 s.heap.objs.size (.lst [])) fp) [] σ' H' s'/\Wk (l_ tgs.length fr σ) σ'/\tn i s'.heap/\(∀ b∈fp,H' b=none)/\W i n ys H')
   ?_ m0 ⟨0,[],_,_,JI,Wk.refl _,t1,fun b hb=>(hf3 b hb).1,w0⟩
  rintro n s5 ⟨i,ys,σ5,H5,J5,wk5,t5,fr5,w5⟩;have fpo:∀ {H':Hp},(∀ b∈fp,H' b=none)->∀ b∈fp,FpOk (cC X scope s3.heap.objs.size (mE X tgs fr) s3 (aA H1 s.heap.objs.size (.lst [])) fp) [] H' b:=fun {H'} hn b hb =>
   ⟨hn b hb,(J5.ok.exf b hb).1,J5.ok.exfs b hb,.inl hb,fun x c e=>(J5.ok.exf b hb).2 x c e,fun p hp=>absurd (show p∈([]:List (Addr×Obj)) from hp) (by simp)⟩
  have J5':=J5.weak (σ':=l_ tgs.length fr σ) (by rw [J5.len]; exact JI.len) wk5;rcases turn i n ys H5 w5 with ⟨stop,q⟩ | ⟨go,step⟩
  ·refine bz (T.done (cC X scope s3.heap.objs.size (mE X tgs fr) s3 (aA H1 s.heap.objs.size (.lst [])) fp) rfl rfl rfl B.calm i [] s5 _ H5 _ J5' (fpo fr5) t5 stop) fun r s6 ⟨hr,J6⟩=>?_
   subst hr;have I6:Inv X pins σ H5 s6:=wB (h':=s6.heap) I3 rfl hf3 J6 (Heap.SameBut.refl ..);obtain ⟨m6,n6,_⟩:=J6.loc;have szC:=J6.ok.above;exact hR _ _ H5 s6 I6 J6.free (Nat.ne_of_gt I3.lt) I3.sz (fun x c e z=>by
    obtain ⟨v,o,ho,_⟩:=I3.cell x c e;exact absurd (Heap.lt_size ho) (by rw [z]; exact Nat.lt_irrefl _)) (fun p hp z=>absurd (Heap.lt_size (I3.pin p hp).1) (by rw [z]; exact Nat.lt_irrefl _)) ⟨m6,n6⟩ q
  ·refine bz (T.item (cC X scope s3.heap.objs.size (mE X tgs fr) s3 (aA H1 s.heap.objs.size (.lst [])) fp) rfl rfl rfl B.calm i [] s5 _ H5 _ J5' (fpo fr5) t5 go) fun r s6 ⟨u,hr,h6⟩=>?_
   subst hr;refine bz h6 fun _ s7 ⟨x,H7,J7,r7,y7,t7,fr7⟩=>?_;have J7':=J7.pinned (fpo fr7) (T.obj _ _ t7);refine bz (B.tgt _ _ _ _ _ s7 _ H7 x u _ J7' r7 (step x H7 y7)) fun _ s8 ⟨σ8,H8,J8,wk8,q8⟩=>?_;have again:∀ {s9:Shared}{H9:Hp}{zs:List V},Inv (cC X scope s3.heap.objs.size (mE X tgs fr) s3 (aA H1 s.heap.objs.size (.lst [])) fp) ([]++i6 fp s7.heap) σ8 H9 s9->(∃ m',m' < n/\W (i+1) m' zs H9) ->
     ∃ m,m < n/\∃ i ys σ' H',Inv (cC X scope s3.heap.objs.size (mE X tgs fr) s3 (aA H1 s.heap.objs.size (.lst [])) fp) [] σ' H' s9/\Wk (l_ tgs.length fr σ) σ'/\tn i s9.heap/\(∀ b∈fp,H' b=none)/\W i m ys H':=fun {s9 H9 zs} J9 ⟨m',hm,w9⟩=>by
    refine ⟨m',hm,i+1,zs,σ8,H9,J9.unpinned,wk8,T.keep _ _ _ t7 fun b hb o e=>(J9.pin (b,o) (List.mem_append_right _ (List.mem_append_right _ (fS hb e)))).1,fun b hb=>?_,w9⟩;obtain ⟨o,e,_⟩:=T.obj _ _ t7 b hb;exact (J9.pin (b,o) (List.mem_append_right _ (List.mem_append_right _ (fS hb e)))).2.1
   have fin:∀ {s9:Shared}{H9:Hp},Inv (cC X scope s3.heap.objs.size (mE X tgs fr) s3 (aA H1 s.heap.objs.size (.lst [])) fp) ([]++i6 fp s7.heap) σ8 H9 s9 ->
     te σ8 H9 (fun v H4=>H4 s.heap.objs.size=some (.lst ys)/\ys.length < sizeLine/\∃ m',m' < n/\W (i+1) m' (ys++[v]) (aA H4 s.heap.objs.size (.lst (ys++[v])))) ->
     wpAny (model X.prog X.w) X.A (eval elt (compEnvC scope (xH X.env scope.names) s3.heap.objs.size X.env)) (fun x s₄=>wpAny (model X.prog X.w) X.A (call (.builtin "list.append") [.ref s.heap.objs.size,x]) (fun _ s₅=>∃ m,m < n/\∃ i ys σ' H',Inv (cC X scope s3.heap.objs.size (mE X tgs fr) s3 (aA H1 s.heap.objs.size (.lst [])) fp) [] σ' H' s₅/\Wk (l_ tgs.length fr σ) σ'/\tn i s₅.heap/\(∀ b∈fp,H' b=none)/\W i m ys H') (fun _ _=>False) s₄) (fun _ _=>False) s9:=fun {s9 H9} J9 q9=>by
    refine bz (B.el _ _ _ _ _ s9 σ8 H9 _ J9 q9) fun v sA ⟨y,HA,JA,rA,eD,ez,qA⟩=>?_;exact bz (bG (X:=cC X scope s3.heap.objs.size (mE X tgs fr) s3 (aA H1 s.heap.objs.size (.lst [])) fp) _ sA σ8 HA (.ref s.heap.objs.size) [y] (.ref s.heap.objs.size) [v] (fun _ H'=>H'=aA HA s.heap.objs.size (.lst (ys++[y]))) JA rfl (.cons rA .nil)
     ⟨_,ys,y,rfl,rfl,eD,ez,rfl⟩) fun _ sB ⟨_,HB,JB,_,eB⟩=>by subst eB; exact again JB qA
   match ifs,tt,B.ift s3.heap.objs.size s3 (aA H1 s.heap.objs.size (.lst [])) fp,q8 with
   | [],none,_,q8 =>
    rw [cR,if_pos rfl] at q8;rw [mJ,if_pos rfl];exact fin J8 q8
   | [c],some t,hc,q8 =>
    show wpAny _ _ (isTrue c _ (eval c _)) _ _ s8;refine bz (hc _ s8 σ8 H8 _ J8 q8) fun ok s9 ⟨H9,J9,q9⟩=>?_;cases ok with
    | true =>
     rw [if_pos rfl] at q9 ⊢;exact fin J9 q9
    | false =>
     rw [if_neg Bool.false_ne_true] at q9 ⊢;exact again J9 q9
 refine codeAny_compStart_list loop (T.self _ _ _ _ _ t1 loop)
theorem fN {wi:TI} (hi:PI X tg iter wi) (B:Block X scope tgs fr tg elt ifs g tt te) (hs:∀ x,foldedSetIterable iter X.env x=pure x:=by intro _; rfl) :
  PE X (.ListComp elt [⟨tg,iter,ifs,0⟩] scope pos) (xR wi tgs.length fr g tt te):=by
 intro pins s σ H Q I h;rw [eval_ListComp];have hclo:closureFor scope X.env=pure (xH X.env scope.names):=gy fun x hx e=>I.ok.has x.1 (B.caps.free x.1 (by rw [<- e]; exact hx));refine wpAny_comprehension_free (use:=none) rfl hs hclo B.sc.kind B.sc.names (bz (hi pins s σ H _ I h) fun v s1 h1=>bz h1 fun itv s2 h2=>?_);obtain ⟨it,fp,tn,J,H2,e,I2,T,t0,f0,hw⟩:=h2;subst e;refine pV (RR:=fun acc C=>compPost (model X.prog X.w) X.A X.xe none (EP X pins σ Q) acc C) (Q:=Q) B I2 T t0 f0 hw fun D C H' s' I' nC c1 c2 c3 c4 ns q=>?_;obtain ⟨m,hm⟩:=ns;exact ⟨m,hm,fun h' sb=>⟨.ref D,H',I'.turned (t':=s'.toks) (fun b o hb e=>(sb.2 b hb).trans e) nC c1 (.inr c2) c3 c4,rfl,q⟩⟩
theorem lE (hN:X.N.Nodup) (i:Nat) {x:Str}{pos' spos:Pos}{wi:TI} (hi:PI X tg iter wi) (B:Block X scope tgs fr tg elt ifs g tt te) (hix:X.N[i]? = some x:=by rfl) (hx:wL X.env.scope x:=by first | exact Or.inl rfl | exact Or.inr rfl)
  (hsw:swapsWith (.ListComp elt [⟨tg,iter,ifs,0⟩] scope pos) (some (.Name x pos')) spos.line X.env=pure true:=by rfl)
  (hf:X.fn x=true\/X.env.scope.names.lookup x=some .local:=by first | exact .inl rfl | exact .inr rfl | assumption) (hs:∀ x,foldedSetIterable iter X.env x=pure x:=by intro _; rfl) :
  PS X (.Assign [.Name x pos'] (.ListComp elt [⟨tg,iter,ifs,0⟩] scope pos) spos) (wN (xR wi tgs.length fr g tt te) (jE i)):=by
 intro pins s σ H Dn I h;have hclo:closureFor scope X.env=pure (xH X.env scope.names):=gy fun x hx e=>I.ok.has x.1 (B.caps.free x.1 (by rw [<- e]; exact hx));rw [exec_Assign_Name_used _ _ _ _ hsw];refine wpAny_bind (wpAny_standAt (wpAny_bind ?_));show wpAny _ X.A (do let _ <- comprehension (.ListComp elt [⟨tg,iter,ifs,0⟩] scope pos) scope X.env _ (newList []) false (eval iter X.env) (some (assign (.Name x pos') X.env))) _ _ s;refine wpAny_bind (wpAny_mono (wpAny_comprehension_free (use:=some (assign (.Name x pos') X.env)) (Q:=fun _ s'=>SP X pins Dn .next s') rfl hs hclo B.sc.kind B.sc.names
  (bz (hi pins s σ H _ I h) fun v s1 h1=>bz h1 fun itv s2 h2=>?_)) (fun _ s' hq=>wpAny_pure (wpAny_pure hq)) fun _ _ e=>e)
 obtain ⟨it,fp,tn,J,H2,e,I2,T,t0,f0,hw⟩:=h2;subst e;refine pV (RR:=fun acc C=>compPost (model X.prog X.w) X.A X.xe (some (assign (.Name x pos') X.env)) (fun _ s'=>SP X pins Dn .next s') acc C) (Q:=fun y H1=>jE i y σ H1 Dn.nx) B I2 T t0 f0 hw fun D C H' s' I' nC c1 c2 c3 c4 ns q=>?_;obtain ⟨m,hm⟩:=ns;show wpAny _ X.A (assign (.Name x pos') X.env (.ref D)) _ _ s';refine wpAny_assign_Name (mO (v:=.ref D) I' hN hix hx rfl (fun s'' I'' ch=>?_) hf);obtain ⟨a,sb,ha⟩:=ch;have hCa:C≠a:=by
  rcases ha with ha | ha
  ·rw [ha]; exact c1
  ·exact fun z=>c3 x a ha z.symm
 refine ⟨m,hm.sameBut sb hCa,fun h' sb'=>⟨_,H',I''.turned (t':=s''.toks) (fun b o hb e=>(sb'.2 b hb).trans e) nC c1 (.inr c2) c3 c4,q⟩⟩
end
section
variable {X:Cx}
theorem PE.imp {e:Expr}{t t':TE} (h:PE X e t) (i:∀ σ H Q,t' σ H Q->t σ H Q):PE X e t':=fun pins s σ H Q I hw=>h pins s σ H Q I (i σ H Q hw)
theorem eU.imp {f:Value->Value->Sem Value}{r r':R2} (h:eU X f r) (i:∀ x y H Q,r' x y H Q->r x y H Q):eU X f r':=fun pins s σ H x y v u Q I rx ry hw=>h pins s σ H x y v u Q I rx ry (i x y H Q hw)
theorem cE.imp {f:Value}{r r':List V->Hp->VK->Prop} (h:cE X f r) (i:∀ xs H Q,r' xs H Q->r xs H Q):cE X f r':=fun pins s σ H xs us Q I rx hw=>h pins s σ H xs us Q I rx (i xs H Q hw)
noncomputable def gV (i:Nat):TE:=fun σ H Q=>match σ[i]? with
 | some (some v)=>Q v H
 | _=>False
theorem nv (i:Nat) {x:Str}{pos:Pos} (hN:X.N[i]? = some x:=by rfl) (hv:AH X.env.scope x:=by first | exact Or.inl rfl | exact Or.inr (Or.inl rfl) | exact Or.inr (Or.inr rfl)) (hd:(x==("__debug__":Str))=false:=by decide)
  (hcd:(x==("__classdict__":Str))=false:=by decide):PE X (.Name x pos) (gV i) :=
 (yN hN hv hd hcd).imp fun σ H Q h=>by
  unfold gV at h;split at h
  ·exact ⟨_,‹_›,h⟩
  ·exact h.elim
theorem nt {x:Str}{T:String}{pos:Pos} (hm:X.mg x=none) (hv:bootBuiltins x=some (.type T)) (hg:Gl X x:=by rfl) (hn:x ≠ "__name__":=by decide) (hd:(x==("__debug__":Str))=false:=by decide):PE X (.Name x pos) (tC (.ty T)):=xc hg hm hv rfl hn hd
theorem aH (hN:X.N.Nodup) (i:Nat) {x:Str}{e:Expr}{te:TE}{pos pos':Pos} (he:PE X e te) (hi:X.N[i]? = some x:=by rfl) (hx:wL X.env.scope x:=by first | exact Or.inl rfl | exact Or.inr rfl)
  (hs:swapsWith e (some (.Name x pos')) pos.line X.env=pure false:=by rfl) (hf:X.fn x=true\/X.env.scope.names.lookup x=some .local:=by first | exact .inl rfl | exact .inr rfl | assumption) :
  PS X (.Assign [.Name x pos'] e pos) (wN te (jE i)):=yK hN hi hx he hs hf
theorem bi (hN:X.N.Nodup) (i:Nat) {x:Str}{pos:Pos} (hi:X.N[i]? = some x:=by rfl) (hx:wL X.env.scope x:=by first | exact Or.inl rfl | exact Or.inr rfl) (hf:X.fn x=true\/X.env.scope.names.lookup x=some .local:=by first | exact .inl rfl | exact .inr rfl | assumption) :
  PG X (.Name x pos) (jE i):=sK hN hi hx hf
noncomputable def yl (K:Frag):R2:=fun x y H Q=>match x,y with
 | .int i,.int j=>Q (.int (i+j)) H
 | .str i,.str j=>i.length+j.length<=sizeLine/\Q (.str (i++j)) H
 | .ref a,.ref b=>(∃ xs zs,H a=some (.lst xs)/\H b=some (.lst zs)/\xs.length+zs.length<=sizeLine/\∀ p,H p=none->Q (.ref p) (aA H p (.lst (xs++zs)))) \/
   (∃ xs ys,bu K H a xs/\bu K H b ys/\xs≠[]/\ys≠[]/\xs.length+ys.length<=sizeLine/\∀ p,H p=none->Q (.ref p) (aA H p (.tup (xs++ys))))
 | _,_=>False
theorem bb:eU X (binaryOp .Add) (yl X.K):=by
 intro pins s σ H x y v u Q I rx ry h;unfold yl at h;split at h
 ·exact yW pins s σ H _ _ v u Q I rx ry ⟨_,_,rfl,rfl,h⟩
 ·exact rc pins s σ H _ _ v u Q I rx ry ⟨_,_,rfl,rfl,h.1,h.2⟩
 ·rcases h with ⟨xs,zs,h1,h2,h3,h4⟩ | ⟨xs,ys,h1,h2,h3,h4,h5,h6⟩
  ·exact yV pins s σ H _ _ v u Q I rx ry ⟨_,_,xs,zs,rfl,rfl,h1,h2,h3,h4⟩
  ·exact xi pins s σ H _ _ v u Q I rx ry ⟨_,_,xs,ys,rfl,rfl,h1,h2,h3,h5,fun z=>absurd z h4,fun _=>h6⟩
 ·exact h.elim
noncomputable def vw:R2:=fun x y H Q=>match x,y with
 | .int i,.int j=>Q (.int (i - j)) H
 | _,_=>False
theorem n9:eU X (binaryOp .Sub) vw:=yQ.imp fun x y H Q h=>by
 unfold vw at h;split at h
 ·exact ⟨_,_,rfl,rfl,h⟩
 ·exact h.elim
theorem rb:eU X (binaryOp .Mult) (fun x y H Q=>∃ z n,x=.str z/\y=.int n/\MulOk z n/\Q (.str (Txt.mul z n)) H):=by
 intro pins s σ H x y v u Q I rx ry h;obtain ⟨z,n,rfl,rfl,hm,q⟩:=h;obtain ⟨t,rfl⟩:=rx;obtain ⟨t',rfl⟩:=ry;exact SB.mul hm fun t' k=>⟨.str _,H,I.tok k,⟨t',rfl⟩,q⟩
noncomputable def zM:R2:=fun x y H Q=>match x,y with
 | .int i,.int j=>uQ i j/\Q (.int (i * j)) H
 | .str z,.int n=>MulOk z n/\Q (.str (Txt.mul z n)) H
 | .ref l,.int k=>∃ xs,H l=some (.lst xs) /\ -(2 ^ 63)<=k/\k < 2 ^ 63/\xs.length * k.toNat<=sizeLine/\∀ p,H p=none->Q (.ref p) (aA H p (.lst (List.replicate k.toNat xs).flatten))
 | _,_=>False
theorem a8:eU X (binaryOp .Mult) zM:=by
 intro pins s σ H x y v u Q I rx ry h;unfold zM at h;split at h
 ·exact yS pins s σ H _ _ v u Q I rx ry ⟨_,_,rfl,rfl,h.1,h.2⟩
 ·exact rb pins s σ H _ _ v u Q I rx ry ⟨_,_,rfl,rfl,h.1,h.2⟩
 ·obtain ⟨xs,h1,h2,h3,h4,h5⟩:=h
  exact yR pins s σ H _ _ v u Q I rx ry ⟨_,_,xs,rfl,rfl,h1,h2,h3,h4,h5⟩
 ·exact h.elim
noncomputable def zN:R2:=fun x y H Q=>match x,y with
 | .int i,.int j=>0 < j/\Q (.int (i % j)) H
 | _,_=>False
theorem aL:eU X (binaryOp .Mod) zN:=yT.imp fun x y H Q h=>by
 unfold zN at h;split at h
 ·exact ⟨_,_,rfl,rfl,h.1,h.2⟩
 ·exact h.elim
noncomputable def zR:R2:=fun x y H Q=>match x,y with
 | .int i,.int j=>zY i j/\Q (.int (i / j)) H
 | _,_=>False
theorem dY:eU X (binaryOp .FloorDiv) zR:=xh.imp fun x y H Q h=>by
 unfold zR at h;split at h
 ·exact ⟨_,_,rfl,rfl,h.1,h.2⟩
 ·exact h.elim
noncomputable def zL:V->Hp->VK->Prop:=fun x H Q=>match x with
 | .int i=>Q (.int (-i)) H
 | _=>False
theorem fM:AI X (unaryOp .USub) zL:=fun pins s σ H x v Q I rx h=>by
 unfold zL at h;split at h
 ·exact yr pins s σ H _ v Q I rx ⟨_,rfl,h⟩
 ·exact h.elim
noncomputable def tM (p:Int->Int->Bool):R2:=fun x y H Q=>match x,y with
 | .int i,.int j=>Q (.bl (p i j)) H
 | _,_=>False
theorem iL {f:Value->Value->Sem Value}{p:Int->Int->Bool} (h:eU X f (wJ fun i j=>.bl (p i j))):eU X f (tM p):=h.imp fun x y H Q h=>by
 unfold tM at h;split at h
 ·exact ⟨_,_,rfl,rfl,h⟩
 ·exact h.elim
theorem fL:eU X (compareOp .Lt) (tM fun i j=>decide (i < j)):=iL Ap
theorem yU:eU X (compareOp .LtE) (tM fun i j=>decide (i<=j)):=iL Aq
theorem gh:eU X (compareOp .Gt) (tM fun i j=>decide (j < i)):=iL As
theorem vo:eU X (compareOp .GtE) (tM fun i j=>decide (j<=i)):=iL At
inductive Item (K:Frag) (H:Hp):V->V->V->Prop where
 | lst {p:Addr}{xs:List V}{i:Int}{v:V} (h:a9 K H p xs) (e:il xs i=some v):Item K H (.ref p) (.int i) v
 | tup {p:Addr}{xs:List V}{i:Int}{v:V} (h:bu K H p xs) (e:il xs i=some v):Item K H (.ref p) (.int i) v
 | str {z:Str}{i:Int}{c:Nat} (hz:z.length<=sizeLine) (e:il z.cps.toList i=some c):Item K H (.str z) (.int i) (.str ⟨#[c]⟩)
 | dct {a:Addr}{y v:V} (g:cJ H a y (some v)):Item K H (.ref a) y v
theorem ba (hu:X.A.units+1 < cLine):zq X (fun x y H Q=>∃ v,Item X.K H x y v/\Q v H):=by
 intro value slice pins s σ H x y v u Q I rx ry h hs;obtain ⟨z,it,q⟩:=h;cases it with
 | lst h e=>exact xt value slice pins s σ H _ _ v u Q I rx ry ⟨_,_,_,_,rfl,rfl,h,e,q⟩ hs
 | tup h e=>exact y_ value slice pins s σ H _ _ v u Q I rx ry ⟨_,_,_,_,rfl,rfl,h,e,q⟩ hs
 | str h e=>exact za value slice pins s σ H _ _ v u Q I rx ry ⟨_,_,_,rfl,rfl,h,e,q⟩ hs
 | @dct a _ _ g =>
  obtain rfl:v=Value.ref a:=rx;exact tail_any (qp I g) PySem.F.slot_dict_getitem.lookup (uB hu I g ry fun w' s3 I3 rw'=>⟨_,H,I3,rw',q⟩) hs
theorem pk {pins:List (Addr×Obj)}{σ:St}{H:Hp}{s:Shared}{x:V}{u t:Value} (I:Inv X pins σ H s) (rx:RelV x u) (ty:TyOf X.K H x t):∃ P:Heap->Prop,PySem.W.KitX X.K u t P/\P s.heap/\u≠.builtin "__main__.__loader__#opaque":=by
 cases ty with
 | non=>cases (show u=Value.none from rx); exact ⟨_,PySem.W.kitx_none,True.intro,fun z=>nomatch z⟩
 | bl y=>cases (show u=Value.bool y from rx); exact ⟨_,PySem.W.kitx_bool,True.intro,fun z=>nomatch z⟩
 | int i=>obtain ⟨t,q⟩:=(show ∃ t,u=Value.int i t from rx); cases q; exact ⟨_,PySem.W.kitx_int,True.intro,fun z=>nomatch z⟩
 | str y=>obtain ⟨t,q⟩:=(show ∃ t,u=Value.str y t from rx); cases q; exact ⟨_,PySem.W.kitx_str,True.intro,fun z=>nomatch z⟩
 | flt y=>obtain ⟨t,q⟩:=(show ∃ t,u=Value.float y t from rx); cases q; exact ⟨_,PySem.W.kitx_float,True.intro,fun z=>nomatch z⟩
 | @lst a xs ea =>
  cases (show u=Value.ref a from rx);obtain ⟨_,_,n,_,h1⟩:=(show bq X.prog X.w H s.heap a (.lst xs) from I.hok a _ ea);exact ⟨_,PySem.W.kitx_list,⟨_,h1,rfl⟩,fun z=>nomatch z⟩
 | @frz a ob xs ea =>
  cases (show u=Value.ref a from rx);obtain ⟨_,_,_,n,_,h1⟩:=(show bq X.prog X.w H s.heap a (.frz ob (.lst xs)) from I.hok a _ ea);exact ⟨_,PySem.W.kitx_list,⟨_,h1,rfl⟩,fun z=>nomatch z⟩
 | @tup a xs ea =>
  cases (show u=Value.ref a from rx);obtain ⟨_,_,_,p⟩:=(show bq X.prog X.w H s.heap a (.tup xs) from I.hok a _ ea);obtain ⟨o,h1,h2,_⟩:=p;exact ⟨_,PySem.W.kitx_tuple,⟨o,h1,h2⟩,fun z=>nomatch z⟩
 | @dK a kvs ea =>
  cases (show u=Value.ref a from rx);obtain ⟨_,_,vs,_,p⟩:=(show bq X.prog X.w H s.heap a (.dK kvs) from I.hok a _ ea);obtain ⟨o,es,ep,h1,h2,_⟩:=p;exact ⟨_,PySem.W.kitx_dict,⟨o,h1,h2.1⟩,fun z=>nomatch z⟩
 | @dT a kvs ea =>
  cases (show u=Value.ref a from rx);obtain ⟨_,_,xs,_,o,es,ep,h1,h2,_⟩:=(show bq X.prog X.w H s.heap a (.dT kvs) from I.hok a _ ea);exact ⟨_,PySem.W.kitx_dict,⟨o,h1,h2.1⟩,fun z=>nomatch z⟩
 | @ins a C dx fs ea cl ha hn htk hm =>
  cases (show u=Value.ref a from rx);obtain ⟨mA,O,_⟩:=kC I.hok ea;obtain ⟨od,J,_⟩:=O.look;exact ⟨_,PySem.W.kitx_own (cl.get _) cl.hd ha hn htk hm,J,fun z=>nomatch z⟩
theorem rT:∀ {ns:List String}{us:List Value},aU (ns.map V.ty) us->us=ns.map Value.type
 | [],_,.nil=>rfl
 | n :: ns,_,.cons r t=>by
  cases (show _=Value.type n from r);rw [rT t]; rfl
noncomputable def zP (K:Frag):List V->Hp->VK->Prop:=fun xs H Q=>match xs with
 | [x,.ty n]=>∃ t b,TyOf K H x t/\PySem.W.kitOne K t (.type n)=some b/\Q (.bl b) H
 | [x,.ref tp]=>∃ (ns:List String) (t:Value) (b:Bool),H tp=some (.tup (ns.map V.ty))/\TyOf K H x t/\PySem.W.kitAny K t (ns.map Value.type)=some b/\Q (.bl b) H
 | _=>False
theorem aD:cE X (.builtin "isinstance") (zP X.K):=by
 intro pins s σ H xs us Q I r h;unfold zP at h;split at h
 ·obtain ⟨t,b,ty,e,q⟩:=h
  obtain ⟨u,v,rfl,ru,rv⟩:=aU.two r;cases (show v=Value.type _ from rv);obtain ⟨P,k,p,ne⟩:=pk I ru ty;exact PySem.W.kia_one k I.kIn p e ne fun tk=>⟨.bl b,H,I.tok tk,rfl,q⟩
 ·rename_i x tp
  obtain ⟨ns,t,b,htp,ty,e,q⟩:=h;obtain ⟨u,v,rfl,ru,rv⟩:=aU.two r;cases (show v=Value.ref tp from rv);obtain ⟨P,k,p,ne⟩:=pk I ru ty;obtain ⟨_,its,rt,⟨cls,dd,data,sl⟩,h1,h2,n,h3⟩:=(show bq X.prog X.w H s.heap tp (.tup (ns.map V.ty)) from I.hok tp _ htp);simp only at h2 h3;subst h2 h3;have hi:=rT rt;subst hi;exact PySem.W.kia_tup k I.kIn p h1 e ne fun tk=>⟨.bl b,H,I.tok tk,rfl,q⟩
 ·exact h.elim
noncomputable def zO:List V->Hp->VK->Prop:=fun xs H Q=>match xs with
 | [.int i,.int j]=>Q (.int (if j < i then j else i)) H
 | _=>False
theorem m7 (hc:X.calm=true:=by rfl):cE X (.builtin "min") zO:=(uF hc).imp fun xs H Q h=>by
 unfold zO at h;split at h
 ·exact ⟨_,_,rfl,h⟩
 ·exact h.elim
noncomputable def yk (K:Frag):List V->Hp->VK->Prop:=fun xs H Q=>match xs with
 | [.ref p]=>∃ n:Nat,((∃ ys,(a9 K H p ys\/bu K H p ys)/\n=ys.length)\/(∃ kvs:List (bh×V),H p=some (.dK kvs)/\n=kvs.length))/\Q (.int n) H
 | [.str z]=>z.length<=sizeLine/\Q (.int z.length) H
 | _=>False
theorem br:cE X (.builtin "len") (yk X.K):=by
 intro pins s σ H xs us Q I r h;unfold yk at h;split at h
 ·obtain ⟨n,h | h,q⟩:=h
  ·obtain ⟨ys,hy,rfl⟩:=h
   exact oX pins s σ H _ us Q I r ⟨_,ys,rfl,hy,q⟩
  ·obtain ⟨kvs,hk,rfl⟩:=h
   exact uI pins s σ H _ us Q I r ⟨_,kvs,rfl,hk,q⟩
 ·exact oW pins s σ H _ us Q I r ⟨_,rfl,h.1,h.2⟩
 ·exact h.elim
theorem oY:cE X (.type "int") (fun xs H Q=>∃ z n,xs=[.str z]/\PySem.intText? z=some n/\z.length<=640/\Q (.int n) H):=by
 intro pins s σ H xs us Q I r h;obtain ⟨z,n,rfl,e,hl,q⟩:=h;obtain ⟨u,rfl,t,rfl⟩:=fY r;exact PySem.W.KIN.call_text e hl ⟨.int n,H,I.tok _,⟨_,rfl⟩,q⟩
noncomputable def zQ:List V->Hp->VK->Prop:=fun xs H Q=>match xs with
 | [.str z]=>∃ n,PySem.intText? z=some n/\z.length<=640/\Q (.int n) H
 | [.bl b]=>Q (.int (if b then 1 else 0)) H
 | [.int i]=>Q (.int i) H
 | _=>False
theorem m9:cE X (.type "int") zQ:=by
 intro pins s σ H xs us Q I r h;unfold zQ at h;split at h
 ·obtain ⟨n,h1,h2,h3⟩:=h
  exact oY pins s σ H _ us Q I r ⟨_,n,rfl,h1,h2,h3⟩
 ·exact m_ pins s σ H _ us Q I r (.inr ⟨_,rfl,h⟩)
 ·exact m_ pins s σ H _ us Q I r (.inl ⟨_,rfl,h⟩)
 ·exact h.elim
end
structure DefAt (K:Frag) (mg:Str->Option Value) (x:Str) (st:Stmt) (ps:List Str):Prop where
 ex:∃ f fd,Fun K x x st f fd/\mg x=some (.ref f)/\∀ us:List Value,us.length=ps.length->bindArgs fd ⟨us,[]⟩=pure (ps.zip us)
structure Own (P:Program) (w:World) (K:Frag) (mg:Str->Option Value) (base:Heap) (x:Str) (k:Nat) (ps:List Str) (sp:Sp):Prop where
 ex:∃ f fd,FnOk P w K mg base tH k f fd ps sp/\mg x=some (.ref f)/\PySem.W.keepIn K (.ref f)=true/\∀ us:List Value,us.length=ps.length->bindArgs fd ⟨us,[]⟩=pure (ps.zip us)
theorem ee {N P:List Str}{sc:Scope} (a:sc.kind=.function:=by rfl) (b:sc.isCoroutine=false:=by rfl) (c:sc.isGenerator=false:=by rfl) (d:N.Nodup:=by decide +kernel) (e:N.take P.length=P:=by rfl)
  (f:∀ x∈P,sc.names.lookup x=some .local\/sc.names.lookup x=some .cell:=by decide +kernel) (g:∀ y∈sc.names,y.2≠.free:=by decide +kernel):FnScope N P sc:=⟨a,b,c,d,e,f,g⟩
theorem uZ {fd : FuncData}{ps : List Str} (h : ∀ a : Value, bindArgs fd { pos := [a] }=pure (ps.zip [a])) (us : List Value) (hl : us.length=1) : bindArgs fd { pos := us }=pure (ps.zip us) := by
  cases us with
  | nil => cases hl
  | cons a us =>
    cases us with
    | nil => exact h a
    | cons e us => cases hl
theorem uY {fd : FuncData}{ps : List Str} (h : ∀ a b : Value, bindArgs fd { pos := [a, b] }=pure (ps.zip [a, b])) (us : List Value) (hl : us.length=2) : bindArgs fd { pos := us }=pure (ps.zip us) := by
  cases us with
  | nil => cases hl
  | cons a us =>
    cases us with
    | nil => cases hl
    | cons b us =>
      cases us with
      | nil => exact h a b
      | cons e us => cases hl
theorem uX {fd : FuncData}{ps : List Str} (h : ∀ a b c : Value, bindArgs fd { pos := [a, b, c] }=pure (ps.zip [a, b, c])) (us : List Value) (hl : us.length=3) : bindArgs fd { pos := us }=pure (ps.zip us) := by
  cases us with
  | nil => cases hl
  | cons a us =>
    cases us with
    | nil => cases hl
    | cons b us =>
      cases us with
      | nil => cases hl
      | cons c us =>
        cases us with
        | nil => exact h a b c
        | cons e us => cases hl
theorem uW {fd : FuncData}{ps : List Str} (h : ∀ a b c d : Value, bindArgs fd { pos := [a, b, c, d] }=pure (ps.zip [a, b, c, d])) (us : List Value) (hl : us.length=4) : bindArgs fd { pos := us }=pure (ps.zip us) := by
  cases us with
  | nil => cases hl
  | cons a us =>
    cases us with
    | nil => cases hl
    | cons b us =>
      cases us with
      | nil => cases hl
      | cons c us =>
        cases us with
        | nil => cases hl
        | cons d us =>
          cases us with
          | nil => exact h a b c d
          | cons e us => cases hl
theorem aX {K:Frag}{h:Heap}{mg:Str->Option Value}{x:Str}{st:Stmt}{ps:List Str}{f:Addr}{oc kV doc pm cdv ct:Value}{od an:Option Addr}{osl:Array (Option Value)} (X:K.In h) (G:h.Ns mainGlobals mg)
  (a:PySem.W.nsIn K mainGlobals x=some (some (.ref f)):=by k_is) (l:K.lookup f=some ⟨oc,od,.func (PySem.W.fnOf x x (dr st) (bS st) (aw st) .none kV doc pm an cdv ct),osl⟩:=by k_is) (c:PySem.W.codeIn K cdv x=true:=by k_is) (k:PySem.W.keepIn K (.ref f)=true:=by k_is)
  (hb:∀ (kV doc pm:Value) (an:Option Addr) (cdv ct:Value) (us:List Value),us.length=ps.length->bindArgs (PySem.W.fnOf x x (dr st) (bS st) (aw st) .none kV doc pm an cdv ct) ⟨us,[]⟩=pure (ps.zip us):=by intro _ _ _ _ _ _ us hl; first | exact uZ (fun _=>rfl) us hl | exact uY (fun _ _=>rfl) us hl | exact uX (fun _ _ _=>rfl) us hl | exact uW (fun _ _ _ _=>rfl) us hl | exact bind0 rfl us hl):DefAt K mg x st ps :=
 ⟨f,_,qP l c k,PySem.W.mg_of X G a,hb kV doc pm an cdv ct⟩
section
variable {P:Program}{w:World}{K:Frag}{mg:Str->Option Value}{base:Heap}
theorem DefAt.own {x:Str}{st:Stmt}{N ps:List Str}{k:Nat}{sp:Sp} (D:DefAt K mg x st ps) (S:FnScope N ps (aw st)) (len:∀ vs H Q E,sp vs H Q E->vs.length=ps.length)
  (hbody:∀ (f:Addr) (cdv:Value) (A:Around) (outer:List Env) (s:Shared) (H:Hp) (vs:List V) (Q:VK) (E:XK),Room k (A.deeper (envOfC x (aw st) s.heap.objs.size f cdv))->sp vs H Q E ->
   ∃ t,gI (jU tH P w K mg base N x (aw st) f cdv A outer s H E).nox (bS st) t/\t { nx:=fun _ H'=>Q .non H',rt:=Q } (start N vs) H):Own P w K mg base x (k+1) ps sp:=by
 obtain ⟨f,fd,F,hm,hb⟩:=D.ex;exact ⟨f,fd,F.ok S len (hbody f),hm,F.kp,hb⟩
end
noncomputable def zE (sp:Sp) (t:TA):TE:=fun σ H Q=>t σ H fun vs H1=>sp vs H1 Q E0
section
variable {X:Cx}
theorem a_ {x:Str}{j k:Nat}{ps:List Str}{sp:Sp}{e:Expr}{es:List Expr}{t:TA}{p pos:Pos} (O:Own X.prog X.w X.K X.mg X.base x j ps sp) (hr:Room k X.A) (hg:Gl X x) (ha:PA X (e :: es) t) (hj:j<=k:=by first | decide | omega) (hdb:(x==("__debug__":Str))=false:=by decide)
  (he:starEach (e :: es) X.env=(false,eval e X.env) :: starEach es X.env:=by rfl) (hpl:(backTo pos (starEach es X.env)).any (·.1)=false:=by rfl):PE X (.Call (.Name x p) (e :: es) [] pos) (zE sp t):=by
 obtain ⟨f,fd,F,a,b,c⟩:=O.ex;refine (sN (dvs:=[]) (E:=E0) F (hr.mono hj) hg a b (fc.all c) .nil rN ha hdb he hpl).imp fun σ H Q h=>?_;unfold uT;unfold zE at h;simpa only [List.append_nil] using h
end
end L2
namespace L2
open PySem
theorem cK:bootBuiltins "len" = some (.builtin "len"):=by kernel_rfl
theorem vz:bootBuiltins "min" = some (.builtin "min"):=by kernel_rfl
theorem vA:bootBuiltins "max" = some (.builtin "max"):=by kernel_rfl
theorem ju:bootBuiltins "sorted" = some (.builtin "sorted"):=by kernel_rfl
theorem aI:bootBuiltins "isinstance" = some (.builtin "isinstance"):=by kernel_rfl
theorem kQ:bootBuiltins "int" = some (.type "int"):=by kernel_rfl
theorem gC:bootBuiltins "bool" = some (.type "bool"):=by kernel_rfl
theorem jc:bootBuiltins "str" = some (.type "str"):=by kernel_rfl
theorem du:bootBuiltins "list" = some (.type "list"):=by kernel_rfl
theorem tz:bootBuiltins "dict" = some (.type "dict"):=by kernel_rfl
theorem iO:bootBuiltins "tuple" = some (.type "tuple"):=by kernel_rfl
theorem eG (K:Frag):PySem.W.kitOne K (.type "bool") (.type "bool")=some true:=rfl
theorem ft (K:Frag):PySem.W.kitOne K (.type "int") (.type "bool")=some false:=rfl
theorem h8 (K:Frag):PySem.W.kitOne K (.type "int") (.type "int")=some true:=rfl
theorem lK (K:Frag):PySem.W.kitOne K (.type "int") (.type "str")=some false:=rfl
theorem jP (K:Frag):PySem.W.kitOne K (.type "str") (.type "bool")=some false:=rfl
theorem rl (K:Frag):PySem.W.kitOne K (.type "str") (.type "int")=some false:=rfl
theorem dQ (K:Frag):PySem.W.kitOne K (.type "str") (.type "str")=some true:=rfl
theorem oS (K:Frag):PySem.W.kitOne K (.type "list") (.type "bool")=some false:=rfl
theorem ql (K:Frag):PySem.W.kitOne K (.type "list") (.type "int")=some false:=rfl
theorem qk (K:Frag):PySem.W.kitOne K (.type "list") (.type "str")=some false:=rfl
theorem oR (K:Frag):PySem.W.kitOne K (.type "list") (.type "dict")=some false:=rfl
theorem gX (K:Frag):PySem.W.kitOne K (.type "list") (.type "tuple")=some false:=rfl
theorem dD (K:Frag):PySem.W.kitOne K (.type "list") (.type "list")=some true:=rfl
theorem mD (K:Frag):PySem.W.kitOne K (.type "tuple") (.type "bool")=some false:=rfl
theorem oQ (K:Frag):PySem.W.kitOne K (.type "tuple") (.type "int")=some false:=rfl
theorem oP (K:Frag):PySem.W.kitOne K (.type "tuple") (.type "str")=some false:=rfl
theorem mC (K:Frag):PySem.W.kitOne K (.type "tuple") (.type "dict")=some false:=rfl
theorem eQ (K:Frag):PySem.W.kitOne K (.type "tuple") (.type "tuple")=some true:=rfl
theorem gW (K:Frag):PySem.W.kitOne K (.type "tuple") (.type "list")=some false:=rfl
theorem rm (K:Frag):PySem.W.kitAny K (.type "list") (["list","tuple"].map Value.type)=some true:=rfl
theorem qm (K:Frag):PySem.W.kitAny K (.type "tuple") (["list","tuple"].map Value.type)=some true:=rfl
theorem au {H:Hp}{p:Addr}{o:HO} (h:H p=none):aV H (aA H p o):=fun b u e=>by rw [ag (ai e h)]; exact e
end L2
namespace L2
theorem bv {c A B:Prop} [Decidable c] (h:¬ c) (hb:B):if decide c=true then A else B:=by
 rw [decide_eq_false h]; exact bU hb
theorem cD {c A B:Prop} [Decidable c] (h:c) (ha:A):if decide c=true then A else B:=by
 rw [decide_eq_true h]; exact bH ha
theorem dJ {A B:Prop} (hb:B):if (!true)=true then A else B:=bU hb
theorem x8 {c A B:Prop} [Decidable c] (h:¬ c) (ha:A):if (!decide c)=true then A else B:=by
 rw [decide_eq_false h]; exact bH ha
end L2
namespace L2
open PySem PySem.W PyProof.Rows
theorem xq {p q:Program}{loose:List Str}{Xt:Shared->Bool}{α:Type}{Yf:Shared->α}{Ya:World->α}{N:Nat}{g0:Bool} (e:opening p=plainProg p.main.scope.names) (hN:Nat.ble 600 N=true) (f:∀ s,fenceModules? p s=some s)
  (h:∀ (w:World) (os:OsState),(topFrom treeTable p w N ⟨boot_heap w.params,Array.mk [],boot_drawn,boot_toks,os⟩).map (fun s=>(openSeen q loose (importedModules p.main.body) Xt g0 s,Yf s))=some (openGood q loose,Ya w)):LeftO p q loose Xt Yf Ya N g0:=fun w=>by
 obtain ⟨⟨hp,gs,d,k,os⟩,e1,e2⟩:=Option.map_eq_some_iff.mp (boot_open (p:=p) (N:=N) e hN f w);obtain ⟨rfl,rfl,rfl,rfl⟩:hp=boot_heap w.params/\gs=Array.mk []/\d=boot_drawn/\k=boot_toks:=by simpa using e2
 unfold openEnds;rw [e1];exact h w os
noncomputable def px (p p':Program) (H:Params->Heap) (w:World) (N:Nat) (os:OsState):Option Shared :=
 match (H w.params).isNs mainGlobals&&(Array.mk ([]:List GenState)).size==0 with
 | true=>(PySem.W.Fast.tw14082659384304107361 PySem.W.Fast.tw14364793385576792824 p' w (H w.params).objs.size ((H w.params).nsMap mainGlobals "__annotations__") N ⟨H w.params,Array.mk [],boot_drawn,boot_toks,os⟩ (topStub p')).bind fun s₁=>match staticsOk (importedModules p.main.body) (H w.params) s₁.heap&&namesBound p s₁.heap&&gensDone s₁&&laidKept (H w.params) s₁.heap with
   | true=>some s₁
   | false=>none
 | false=>none
theorem xp {p p' q:Program}{H:Params->Heap}{loose:List Str}{Xt:Shared->Bool}{α:Type}{Yf:Shared->α}{Ya:World->α}{N:Nat}{g0:Bool} (ep:p=p') (eH:boot_heap=H) (e:opening p=plainProg p.main.scope.names) (hN:Nat.ble 600 N=true) (f:∀ s,fenceModules? p s=some s)
  (h:∀ (w:World) (os:OsState),(px p p' H w N os).map (fun s=>(openSeen q loose (importedModules p.main.body) Xt g0 s,Yf s))=some (openGood q loose,Ya w)):LeftO p q loose Xt Yf Ya N g0:=by
 subst ep eH;refine xq e hN f fun w os=>?_;have:=h w os;unfold px at this;rw [<- PySem.W.Fast.te14082659384304107361,<- PySem.W.Fast.te14364793385576792824] at this;exact this
end L2
namespace K08
open PySem L2
noncomputable def ck (i:Nat):Stmt:=PySem.Challenge.pw_scriberow_k08_plain_hall.main.body.getD i (.Pass ⟨0,0,0,0⟩)
abbrev fF:Stmt:=ck 1
abbrev c7:Stmt:=ck 2
abbrev fG:Stmt:=ck 3
abbrev dC:Stmt:=ck 4
abbrev dW:Stmt:=bA (ck 9) 0
abbrev cV:Stmt:=bA (ck 9) 1
abbrev eC:Stmt:=bA (ck 9) 2
abbrev dU:Stmt:=bA (ck 9) 3
abbrev eu:Stmt:=bA (ck 9) 4
abbrev fi:Stmt:=bA (ck 11) 0
abbrev fj:Stmt:=bA (ck 11) 1
abbrev b9:Stmt:=bA (ck 11) 2
abbrev fP:Stmt:=bA (ck 11) 3
abbrev cW:Stmt:=bA (ck 11) 4
abbrev bX:Stmt:=bA (ck 11) 5
abbrev fm:Stmt:=bA (ck 12) 0
abbrev eE:Stmt:=bA (ck 12) 1
abbrev fk:Stmt:=bA (ck 12) 2
abbrev fR:Stmt:=bA (ck 12) 3
abbrev fq:Stmt:=bA (ck 12) 4
abbrev fQ:Stmt:=bA (ck 12) 5
abbrev cG:Stmt:=bA (ck 12) 6
abbrev bY:Stmt:=bA (ck 12) 7
abbrev cI:Stmt:=bA (ck 12) 8
abbrev dG:Stmt:=bA (ck 12) 9
abbrev kL:Stmt:=ck 14
abbrev dZ:Stmt:=ck 15
abbrev dB:Stmt:=ck 16
abbrev fH:Stmt:=ck 17
abbrev ci:Stmt:=ck 18
abbrev cx:Stmt:=ck 19
abbrev dA:Stmt:=ck 20
abbrev cj:Stmt:=ck 21
abbrev wO:Stmt:=ck 23
abbrev kj:Stmt:=ck 24
abbrev wP:Stmt:=ck 25
abbrev nK:Stmt:=ck 26
abbrev km:Stmt:=ck 27
abbrev iE:Stmt:=ck 28
abbrev ki:Stmt:=ck 29
abbrev ko:Stmt:=ck 30
abbrev dF:Stmt:=ck 31
abbrev rM:Stmt:=ck 32
abbrev kn:Stmt:=ck 33
abbrev dE:Stmt:=ck 34
abbrev kq:Stmt:=ck 35
abbrev eo:Stmt:=ck 36
abbrev ku:Stmt:=ck 37
abbrev iu:Stmt:=ck 38
end K08
section
open PySem PySem.W PyProof.Rows L2
namespace K08
noncomputable def kd (P:Params) (x:Str) (t:Nat) (v:Value):DictEntry:=⟨PyData.keyHash P x,.str x t,v⟩
noncomputable def fw (x:Str) (a:Nat) (y:Str) (b c:Nat) (l n:Int) (r1 r2 r3 r4 r5:Nat) (k:Int) (e:Nat):Obj:=⟨.type "code",none,.fields #[.str x a,.str y b,.str "/claim/cut.py" c,.int l 0,.int n 0,.int 0 0,.int 0 0,.int 3 0,.ref r1,.bool true,.int 181 0,.ref r2,.none,.ref r3,.ref r4,.ref r5,.int k 0,.int l 0,.str "/claim/cut.py" e],#[]⟩
noncomputable def fo (x q:Str) (st:Stmt) (m:Value) (c:Nat):Obj:=⟨.type "function",none,.func (PySem.W.fnOf x q (L2.dr st) (L2.bS st) (L2.aw st) .none .none .none m none (.ref c) .none),#[]⟩
noncomputable def Kf (P:Params):Frag :=
 (nat_lit 2,⟨.none,none,.dict #[] 0,#[]⟩) ::
 (nat_lit 3,⟨.type "dict",none,.dict #[kd P "__name__" 165 (.str "law_scriberow_k08_plain_hall" 586),kd P "__doc__" 166 .none,kd P "__package__" 167 .none,kd P "__loader__" 168 (.builtin "__main__.__loader__#opaque"),kd P "__spec__" 169 .none,kd P "__annotations__" 170 (.ref 6),kd P "__builtins__" 171 (.ref 4),kd P "__file__" 173 (.str "/claim/cut.py" 172),kd P "__cached__" 174 .none,kd P "is_most" 196 (.ref 21),kd P "next_number" 206 (.ref 28),kd P "best_of" 217 (.ref 35),kd P "free_place" 225 (.ref 42),kd P "RowError" 245 (.ref 52),kd P "NoScribe" 261 (.ref 65),kd P "Scribe" 330 (.ref 112),kd P "Lead" 410 (.ref 166),kd P "Hall" 524 (.ref 248),kd P "done" 535 (.ref 259),kd P "answer_to" 543 (.ref 266),kd P "hall_after" 553 (.ref 273),kd P "answers" 559 (.ref 278),kd P "writings_after" 567 (.ref 285),kd P "row_by_places" 573 (.ref 290),kd P "rows_after" 579 (.ref 295),kd P "promised_after" 585 (.ref 300),kd P "_law_so" 596 (.ref 307),kd P "_law_whole" 603 (.ref 314),kd P "_law_at" 611 (.ref 321),kd P "_law_word" 621 (.ref 328),kd P "_law_round" 635 (.ref 335),kd P "_law_single" 649 (.ref 342),kd P "_law_woven" 660 (.ref 349),kd P "_law_drawn" 675 (.ref 356),kd P "_law_are_writings" 685 (.ref 363),kd P "_law_new" 691 (.ref 368),kd P "_law_risen" 700 (.ref 375),kd P "_law_gets_promise" 710 (.ref 382),kd P "_law_asked" 722 (.ref 389),kd P "_law_due_answer" 736 (.ref 396),kd P "_law_alike" 744 (.ref 403),kd P "law" 750 (.ref 408)] 42,#[]⟩) ::
 (nat_lit 20,fw "is_most" 189 "is_most" 190 191 2 2 15 16 17 18 19 194 195) ::
 (nat_lit 21,fo "is_most" "is_most" fF (.str "scriberow.counting" 187) 20) ::
 (nat_lit 27,fw "next_number" 197 "next_number" 198 199 4 3 22 23 24 25 26 204 205) ::
 (nat_lit 28,fo "next_number" "next_number" c7 (.str "scriberow.counting" 187) 27) ::
 (nat_lit 34,fw "best_of" 207 "best_of" 208 209 7 1 29 30 31 32 33 215 216) ::
 (nat_lit 35,fo "best_of" "best_of" fG (.str "scriberow.counting" 187) 34) ::
 (nat_lit 41,fw "free_place" 218 "free_place" 219 220 14 1 36 37 38 39 40 223 224) ::
 (nat_lit 42,fo "free_place" "free_place" dC (.str "scriberow.counting" 187) 41) ::
 (nat_lit 51,⟨.type "dict",none,.dict #[kd P "__module__" 235 (.str "scriberow.errors" 226),kd P "__firstlineno__" 239 (.int 20 238),kd P "__static_attributes__" 240 (.ref 50),kd P "__weakref__" 242 (.ref 53),kd P "__doc__" 243 .none] 3,#[]⟩) ::
 (nat_lit 52,⟨.type "type",none,.cls ⟨"RowError",[.type "ValueError"],[.ref 52,.type "ValueError",.type "Exception",.type "BaseException",.type "object"],51,"RowError",true,[],[.ref 65],false,none,false⟩,#[some (.ref 43),none,some (.str "RowError" 228),some (.str "RowError" 236),some (.builtin "ValueError.__new__"),some (.bool true)]⟩) ::
 (nat_lit 53,⟨.type "getset_descriptor",none,.fields #[.str "__weakref__" 241,.ref 52,.builtin "ExceptionGroup.__weakref__",.none],#[]⟩) ::
 (nat_lit 64,⟨.type "dict",none,.dict #[kd P "__module__" 253 (.str "scriberow.errors" 226),kd P "__firstlineno__" 257 (.int 22 256),kd P "__static_attributes__" 258 (.ref 63),kd P "__doc__" 259 .none] 2,#[]⟩) ::
 (nat_lit 65,⟨.type "type",none,.cls ⟨"NoScribe",[.ref 52],[.ref 65,.ref 52,.type "ValueError",.type "Exception",.type "BaseException",.type "object"],64,"NoScribe",true,[],[],false,none,false⟩,#[some (.ref 56),none,some (.str "NoScribe" 246),some (.str "NoScribe" 254),some (.builtin "ValueError.__new__"),some (.bool true)]⟩) ::
 (nat_lit 80,fw "__init__" 276 "Scribe.__init__" 277 278 27 3 75 76 77 78 79 282 283) ::
 (nat_lit 81,fo "__init__" "Scribe.__init__" dW (.str "scriberow.scribe" 262) 80) ::
 (nat_lit 87,fw "promise" 285 "Scribe.promise" 286 287 34 2 82 83 84 85 86 290 291) ::
 (nat_lit 88,fo "promise" "Scribe.promise" cV (.str "scriberow.scribe" 262) 87) ::
 (nat_lit 94,fw "put" 293 "Scribe.put" 294 295 40 4 89 90 91 92 93 300 301) ::
 (nat_lit 95,fo "put" "Scribe.put" eC (.str "scriberow.scribe" 262) 94) ::
 (nat_lit 101,fw "rise" 303 "Scribe.rise" 304 305 46 1 96 97 98 99 100 307 308) ::
 (nat_lit 102,fo "rise" "Scribe.rise" dU (.str "scriberow.scribe" 262) 101) ::
 (nat_lit 108,fw "see" 310 "Scribe.see" 311 312 50 2 103 104 105 106 107 315 316) ::
 (nat_lit 109,fo "see" "Scribe.see" eu (.str "scriberow.scribe" 262) 108) ::
 (nat_lit 111,⟨.type "dict",none,.dict #[kd P "__module__" 271 (.str "scriberow.scribe" 262),kd P "__firstlineno__" 275 (.int 25 274),kd P "__init__" 284 (.ref 81),kd P "promise" 292 (.ref 88),kd P "put" 302 (.ref 95),kd P "rise" 309 (.ref 102),kd P "see" 317 (.ref 109),kd P "__static_attributes__" 323 (.ref 110),kd P "__dict__" 325 (.ref 113),kd P "__weakref__" 327 (.ref 114),kd P "__doc__" 328 .none] 4,#[]⟩) ::
 (nat_lit 112,⟨.type "type",none,.cls ⟨"Scribe",[.type "object"],[.ref 112,.type "object"],111,"Scribe",true,[],[],false,none,false⟩,#[none,none,some (.str "Scribe" 264),some (.str "Scribe" 272),some (.builtin "object.__new__"),some (.bool true)]⟩) ::
 (nat_lit 113,⟨.type "getset_descriptor",none,.fields #[.str "__dict__" 324,.ref 112,.builtin "function.__dict__",.builtin "function.__dict__#set"],#[]⟩) ::
 (nat_lit 114,⟨.type "getset_descriptor",none,.fields #[.str "__weakref__" 326,.ref 112,.builtin "ExceptionGroup.__weakref__",.none],#[]⟩) ::
 (nat_lit 129,fw "__init__" 345 "Lead.__init__" 346 347 55 3 124 125 126 127 128 351 352) ::
 (nat_lit 130,fo "__init__" "Lead.__init__" fi (.str "scriberow.hall" 331) 129) ::
 (nat_lit 136,fw "hear" 354 "Lead.hear" 355 356 63 3 131 132 133 134 135 360 361) ::
 (nat_lit 137,fo "hear" "Lead.hear" fj (.str "scriberow.hall" 331) 136) ::
 (nat_lit 143,fw "begin_saying" 363 "Lead.begin_saying" 364 365 70 1 138 139 140 141 142 369 370) ::
 (nat_lit 144,fo "begin_saying" "Lead.begin_saying" b9 (.str "scriberow.hall" 331) 143) ::
 (nat_lit 150,fw "say" 372 "Lead.say" 373 374 75 2 145 146 147 148 149 378 379) ::
 (nat_lit 151,fo "say" "Lead.say" fP (.str "scriberow.hall" 331) 150) ::
 (nat_lit 157,fw "take_hand" 381 "Lead.take_hand" 382 383 80 3 152 153 154 155 156 388 389) ::
 (nat_lit 158,fo "take_hand" "Lead.take_hand" cW (.str "scriberow.hall" 331) 157) ::
 (nat_lit 162,⟨.type "code",none,.fields #[.str "settled_pairs" 391,.str "Lead.settled_pairs" 392,.str "/claim/cut.py" 393,.int 84 0,.int 1 0,.int 0 0,.int 0 0,.int 3 0,.ref 159,.bool true,.int 181 0,.ref 160,.none,.none,.none,.ref 161,.int 394 0,.int 84 0,.str "/claim/cut.py" 395],#[]⟩) ::
 (nat_lit 163,fo "settled_pairs" "Lead.settled_pairs" bX (.str "scriberow.hall" 331) 162) ::
 (nat_lit 165,⟨.type "dict",none,.dict #[kd P "__module__" 340 (.str "scriberow.hall" 331),kd P "__firstlineno__" 344 (.int 53 343),kd P "__init__" 353 (.ref 130),kd P "hear" 362 (.ref 137),kd P "begin_saying" 371 (.ref 144),kd P "say" 380 (.ref 151),kd P "take_hand" 390 (.ref 158),kd P "settled_pairs" 396 (.ref 163),kd P "__static_attributes__" 403 (.ref 164),kd P "__dict__" 405 (.ref 167),kd P "__weakref__" 407 (.ref 168),kd P "__doc__" 408 .none] 4,#[]⟩) ::
 (nat_lit 166,⟨.type "type",none,.cls ⟨"Lead",[.type "object"],[.ref 166,.type "object"],165,"Lead",true,[],[],false,none,false⟩,#[none,none,some (.str "Lead" 333),some (.str "Lead" 341),some (.builtin "object.__new__"),some (.bool true)]⟩) ::
 (nat_lit 167,⟨.type "getset_descriptor",none,.fields #[.str "__dict__" 404,.ref 166,.builtin "function.__dict__",.builtin "function.__dict__#set"],#[]⟩) ::
 (nat_lit 168,⟨.type "getset_descriptor",none,.fields #[.str "__weakref__" 406,.ref 166,.builtin "ExceptionGroup.__weakref__",.none],#[]⟩) ::
 (nat_lit 181,⟨.type "code",none,.fields #[.str "__init__" 423,.str "Hall.__init__" 424,.str "/claim/cut.py" 425,.int 89 0,.int 2 0,.int 0 0,.int 0 0,.int 3 0,.ref 178,.bool true,.int 181 0,.ref 179,.none,.none,.none,.ref 180,.int 426 0,.int 89 0,.str "/claim/cut.py" 427],#[]⟩) ::
 (nat_lit 182,fo "__init__" "Hall.__init__" fm (.str "scriberow.hall" 331) 181) ::
 (nat_lit 188,fw "check" 429 "Hall.check" 430 431 96 2 183 184 185 186 187 434 435) ::
 (nat_lit 189,fo "check" "Hall.check" eE (.str "scriberow.hall" 331) 188) ::
 (nat_lit 195,fw "rise" 437 "Hall.rise" 438 439 100 2 190 191 192 193 194 443 444) ::
 (nat_lit 196,fo "rise" "Hall.rise" fk (.str "scriberow.hall" 331) 195) ::
 (nat_lit 202,fw "ask" 446 "Hall.ask" 447 448 108 3 197 198 199 200 201 454 455) ::
 (nat_lit 203,fo "ask" "Hall.ask" fR (.str "scriberow.hall" 331) 202) ::
 (nat_lit 209,fw "fall" 457 "Hall.fall" 458 459 121 3 204 205 206 207 208 463 464) ::
 (nat_lit 210,fo "fall" "Hall.fall" fq (.str "scriberow.hall" 331) 209) ::
 (nat_lit 216,fw "say" 466 "Hall.say" 467 468 125 3 211 212 213 214 215 472 473) ::
 (nat_lit 217,fo "say" "Hall.say" fQ (.str "scriberow.hall" 331) 216) ::
 (nat_lit 223,fw "have_write" 475 "Hall.have_write" 476 477 131 4 218 219 220 221 222 485 486) ::
 (nat_lit 224,fo "have_write" "Hall.have_write" cG (.str "scriberow.hall" 331) 223) ::
 (nat_lit 230,fw "known_settled" 488 "Hall.known_settled" 489 490 146 2 225 226 227 228 229 493 494) ::
 (nat_lit 231,fo "known_settled" "Hall.known_settled" bY (.str "scriberow.hall" 331) 230) ::
 (nat_lit 237,fw "be_stopped" 496 "Hall.be_stopped" 497 498 152 2 232 233 234 235 236 501 502) ::
 (nat_lit 238,fo "be_stopped" "Hall.be_stopped" cI (.str "scriberow.hall" 331) 237) ::
 (nat_lit 244,fw "come_up" 504 "Hall.come_up" 505 506 160 2 239 240 241 242 243 509 510) ::
 (nat_lit 245,fo "come_up" "Hall.come_up" dG (.str "scriberow.hall" 331) 244) ::
 (nat_lit 247,⟨.type "dict",none,.dict #[kd P "__module__" 418 (.str "scriberow.hall" 331),kd P "__firstlineno__" 422 (.int 87 421),kd P "__init__" 428 (.ref 182),kd P "check" 436 (.ref 189),kd P "rise" 445 (.ref 196),kd P "ask" 456 (.ref 203),kd P "fall" 465 (.ref 210),kd P "say" 474 (.ref 217),kd P "have_write" 487 (.ref 224),kd P "known_settled" 495 (.ref 231),kd P "be_stopped" 503 (.ref 238),kd P "come_up" 511 (.ref 245),kd P "__static_attributes__" 517 (.ref 246),kd P "__dict__" 519 (.ref 249),kd P "__weakref__" 521 (.ref 250),kd P "__doc__" 522 .none] 4,#[]⟩) ::
 (nat_lit 248,⟨.type "type",none,.cls ⟨"Hall",[.type "object"],[.ref 248,.type "object"],247,"Hall",true,[],[],false,none,false⟩,#[none,none,some (.str "Hall" 411),some (.str "Hall" 419),some (.builtin "object.__new__"),some (.bool true)]⟩) ::
 (nat_lit 249,⟨.type "getset_descriptor",none,.fields #[.str "__dict__" 518,.ref 248,.builtin "function.__dict__",.builtin "function.__dict__#set"],#[]⟩) ::
 (nat_lit 250,⟨.type "getset_descriptor",none,.fields #[.str "__weakref__" 520,.ref 248,.builtin "ExceptionGroup.__weakref__",.none],#[]⟩) ::
 (nat_lit 258,fw "done" 527 "done" 528 529 167 2 253 254 255 256 257 533 534) ::
 (nat_lit 259,fo "done" "done" kL (.str "scriberow.story" 525) 258) ::
 (nat_lit 265,fw "answer_to" 536 "answer_to" 537 538 182 2 260 261 262 263 264 541 542) ::
 (nat_lit 266,fo "answer_to" "answer_to" dZ (.str "scriberow.story" 525) 265) ::
 (nat_lit 272,fw "hall_after" 544 "hall_after" 545 546 187 2 267 268 269 270 271 551 552) ::
 (nat_lit 273,fo "hall_after" "hall_after" dB (.str "scriberow.story" 525) 272) ::
 (nat_lit 277,⟨.type "code",none,.fields #[.str "answers" 554,.str "answers" 555,.str "/claim/cut.py" 556,.int 192 0,.int 2 0,.int 0 0,.int 0 0,.int 3 0,.ref 274,.bool true,.int 181 0,.ref 275,.none,.none,.none,.ref 276,.int 557 0,.int 192 0,.str "/claim/cut.py" 558],#[]⟩) ::
 (nat_lit 278,fo "answers" "answers" fH (.str "scriberow.story" 525) 277) ::
 (nat_lit 284,fw "writings_after" 560 "writings_after" 561 562 195 2 279 280 281 282 283 565 566) ::
 (nat_lit 285,fo "writings_after" "writings_after" ci (.str "scriberow.story" 525) 284) ::
 (nat_lit 289,⟨.type "code",none,.fields #[.str "row_by_places" 568,.str "row_by_places" 569,.str "/claim/cut.py" 570,.int 197 0,.int 1 0,.int 0 0,.int 0 0,.int 3 0,.ref 286,.bool true,.int 181 0,.ref 287,.none,.none,.none,.ref 288,.int 571 0,.int 197 0,.str "/claim/cut.py" 572],#[]⟩) ::
 (nat_lit 290,fo "row_by_places" "row_by_places" cx (.str "scriberow.story" 525) 289) ::
 (nat_lit 294,⟨.type "code",none,.fields #[.str "rows_after" 574,.str "rows_after" 575,.str "/claim/cut.py" 576,.int 199 0,.int 2 0,.int 0 0,.int 0 0,.int 3 0,.ref 291,.bool true,.int 181 0,.ref 292,.none,.none,.none,.ref 293,.int 577 0,.int 199 0,.str "/claim/cut.py" 578],#[]⟩) ::
 (nat_lit 295,fo "rows_after" "rows_after" dA (.str "scriberow.story" 525) 294) ::
 (nat_lit 299,⟨.type "code",none,.fields #[.str "promised_after" 580,.str "promised_after" 581,.str "/claim/cut.py" 582,.int 201 0,.int 2 0,.int 0 0,.int 0 0,.int 3 0,.ref 296,.bool true,.int 181 0,.ref 297,.none,.none,.none,.ref 298,.int 583 0,.int 201 0,.str "/claim/cut.py" 584],#[]⟩) ::
 (nat_lit 300,fo "promised_after" "promised_after" cj (.str "scriberow.story" 525) 299) ::
 (nat_lit 306,fw "_law_so" 588 "_law_so" 589 590 204 2 301 302 303 304 305 594 595) ::
 (nat_lit 307,fo "_law_so" "_law_so" wO (.str "law_scriberow_k08_plain_hall" 586) 306) ::
 (nat_lit 313,fw "_law_whole" 597 "_law_whole" 598 599 225 1 308 309 310 311 312 601 602) ::
 (nat_lit 314,fo "_law_whole" "_law_whole" kj (.str "law_scriberow_k08_plain_hall" 586) 313) ::
 (nat_lit 320,fw "_law_at" 604 "_law_at" 605 606 227 2 315 316 317 318 319 609 610) ::
 (nat_lit 321,fo "_law_at" "_law_at" wP (.str "law_scriberow_k08_plain_hall" 586) 320) ::
 (nat_lit 327,fw "_law_word" 612 "_law_word" 613 614 231 1 322 323 324 325 326 619 620) ::
 (nat_lit 328,fo "_law_word" "_law_word" nK (.str "law_scriberow_k08_plain_hall" 586) 327) ::
 (nat_lit 334,fw "_law_round" 622 "_law_round" 623 624 238 3 329 330 331 332 333 633 634) ::
 (nat_lit 335,fo "_law_round" "_law_round" km (.str "law_scriberow_k08_plain_hall" 586) 334) ::
 (nat_lit 341,fw "_law_single" 636 "_law_single" 637 638 257 3 336 337 338 339 340 647 648) ::
 (nat_lit 342,fo "_law_single" "_law_single" iE (.str "law_scriberow_k08_plain_hall" 586) 341) ::
 (nat_lit 348,fw "_law_woven" 650 "_law_woven" 651 652 274 3 343 344 345 346 347 658 659) ::
 (nat_lit 349,fo "_law_woven" "_law_woven" ki (.str "law_scriberow_k08_plain_hall" 586) 348) ::
 (nat_lit 355,fw "_law_drawn" 661 "_law_drawn" 662 663 285 3 350 351 352 353 354 673 674) ::
 (nat_lit 356,fo "_law_drawn" "_law_drawn" ko (.str "law_scriberow_k08_plain_hall" 586) 355) ::
 (nat_lit 362,fw "_law_are_writings" 676 "_law_are_writings" 677 678 303 2 357 358 359 360 361 683 684) ::
 (nat_lit 363,fo "_law_are_writings" "_law_are_writings" dF (.str "law_scriberow_k08_plain_hall" 586) 362) ::
 (nat_lit 367,⟨.type "code",none,.fields #[.str "_law_new" 686,.str "_law_new" 687,.str "/claim/cut.py" 688,.int 315 0,.int 1 0,.int 0 0,.int 0 0,.int 3 0,.ref 364,.bool true,.int 181 0,.ref 365,.none,.none,.none,.ref 366,.int 689 0,.int 315 0,.str "/claim/cut.py" 690],#[]⟩) ::
 (nat_lit 368,fo "_law_new" "_law_new" rM (.str "law_scriberow_k08_plain_hall" 586) 367) ::
 (nat_lit 374,fw "_law_risen" 692 "_law_risen" 693 694 321 2 369 370 371 372 373 698 699) ::
 (nat_lit 375,fo "_law_risen" "_law_risen" kn (.str "law_scriberow_k08_plain_hall" 586) 374) ::
 (nat_lit 381,fw "_law_gets_promise" 701 "_law_gets_promise" 702 703 328 3 376 377 378 379 380 708 709) ::
 (nat_lit 382,fo "_law_gets_promise" "_law_gets_promise" dE (.str "law_scriberow_k08_plain_hall" 586) 381) ::
 (nat_lit 388,fw "_law_asked" 711 "_law_asked" 712 713 336 3 383 384 385 386 387 720 721) ::
 (nat_lit 389,fo "_law_asked" "_law_asked" kq (.str "law_scriberow_k08_plain_hall" 586) 388) ::
 (nat_lit 395,fw "_law_due_answer" 723 "_law_due_answer" 724 725 352 2 390 391 392 393 394 734 735) ::
 (nat_lit 396,fo "_law_due_answer" "_law_due_answer" eo (.str "law_scriberow_k08_plain_hall" 586) 395) ::
 (nat_lit 402,fw "_law_alike" 737 "_law_alike" 738 739 388 2 397 398 399 400 401 742 743) ::
 (nat_lit 403,fo "_law_alike" "_law_alike" ku (.str "law_scriberow_k08_plain_hall" 586) 402) ::
 (nat_lit 407,⟨.type "code",none,.fields #[.str "law" 745,.str "law" 746,.str "/claim/cut.py" 747,.int 396 0,.int 1 0,.int 0 0,.int 0 0,.int 3 0,.ref 404,.bool true,.int 181 0,.ref 405,.none,.none,.none,.ref 406,.int 748 0,.int 396 0,.str "/claim/cut.py" 749],#[]⟩) ::
 (nat_lit 408,fo "law" "law" iu (.str "law_scriberow_k08_plain_hall" 586) 407) :: []
noncomputable def Ka:List Addr:=nat_lit 2 :: nat_lit 3 :: nat_lit 20 :: nat_lit 21 :: nat_lit 27 :: nat_lit 28 :: nat_lit 34 :: nat_lit 35 :: nat_lit 41 :: nat_lit 42 :: nat_lit 51 :: nat_lit 52 :: nat_lit 53 :: nat_lit 64 :: nat_lit 65 :: nat_lit 80 :: nat_lit 81 :: nat_lit 87 :: nat_lit 88 :: nat_lit 94 :: nat_lit 95 :: nat_lit 101 :: nat_lit 102 :: nat_lit 108 :: nat_lit 109 :: nat_lit 111 :: nat_lit 112 :: nat_lit 113 :: nat_lit 114 :: nat_lit 129 :: nat_lit 130 :: nat_lit 136 :: nat_lit 137 :: nat_lit 143 :: nat_lit 144 :: nat_lit 150 :: nat_lit 151 :: nat_lit 157 :: nat_lit 158 :: nat_lit 162 :: nat_lit 163 :: nat_lit 165 :: nat_lit 166 :: nat_lit 167 :: nat_lit 168 :: nat_lit 181 :: nat_lit 182 :: nat_lit 188 :: nat_lit 189 :: nat_lit 195 :: nat_lit 196 :: nat_lit 202 :: nat_lit 203 :: nat_lit 209 :: nat_lit 210 :: nat_lit 216 :: nat_lit 217 :: nat_lit 223 :: nat_lit 224 :: nat_lit 230 :: nat_lit 231 :: nat_lit 237 :: nat_lit 238 :: nat_lit 244 :: nat_lit 245 :: nat_lit 247 :: nat_lit 248 :: nat_lit 249 :: nat_lit 250 :: nat_lit 258 :: nat_lit 259 :: nat_lit 265 :: nat_lit 266 :: nat_lit 272 :: nat_lit 273 :: nat_lit 277 :: nat_lit 278 :: nat_lit 284 :: nat_lit 285 :: nat_lit 289 :: nat_lit 290 :: nat_lit 294 :: nat_lit 295 :: nat_lit 299 :: nat_lit 300 :: nat_lit 306 :: nat_lit 307 :: nat_lit 313 :: nat_lit 314 :: nat_lit 320 :: nat_lit 321 :: nat_lit 327 :: nat_lit 328 :: nat_lit 334 :: nat_lit 335 :: nat_lit 341 :: nat_lit 342 :: nat_lit 348 :: nat_lit 349 :: nat_lit 355 :: nat_lit 356 :: nat_lit 362 :: nat_lit 363 :: nat_lit 367 :: nat_lit 368 :: nat_lit 374 :: nat_lit 375 :: nat_lit 381 :: nat_lit 382 :: nat_lit 388 :: nat_lit 389 :: nat_lit 395 :: nat_lit 396 :: nat_lit 402 :: nat_lit 403 :: nat_lit 407 :: nat_lit 408 :: []
noncomputable def q:Program:={ PySem.Challenge.pw_scriberow_k08_plain_hall with main:={ PySem.Challenge.pw_scriberow_k08_plain_hall.main with body:=[ck 1,ck 2,ck 3,ck 4,ck 6,ck 7,ck 9,ck 11,ck 12,ck 14,ck 15,ck 16,ck 17,ck 18,ck 19,ck 20,ck 21,ck 23,ck 24,ck 25,ck 26,ck 27,ck 28,ck 29,ck 30,ck 31,ck 32,ck 33,ck 34,ck 35,ck 36,ck 37,ck 38] } }
noncomputable def BD:Nat:=5290
end K08
theorem K08.Ke (P:Params):K08.Ka=(K08.Kf P).map (·.1):=by kernel_rfl
lay_quick PySem.Challenge.pw_scriberow_k08_plain_hall
theorem K08.left:LeftO PySem.Challenge.pw_scriberow_k08_plain_hall K08.q [] (fun s=>xlAt K08.q [] s&&recOk [] s) (Hook.obs (kHook K08.Kf K08.Ka K08.Ke)) (Hook.val (kHook K08.Kf K08.Ka K08.Ke)) K08.BD:=L2.xp PySem.W.Fast.te18100199914227110060 (Eq.refl PySem.W.boot_heap) (by kernel_rfl) (by kernel_rfl) (fun s=>by kernel_rfl) (fun w os=>by kernel_rfl)
noncomputable def K08.posOf:Stmt->Pos
 | .FunctionDef _ _ _ _ _ _ _ _ _ p=>p
 | _=>⟨0,0,0,0⟩
noncomputable def K08.dlaw:DefRec:=⟨"law",dr K08.iu,bS K08.iu,aw K08.iu,K08.posOf K08.iu⟩
theorem K08.hdef:defOf K08.q "law" = some (K08.dlaw,[]):=by kernel_rfl
theorem K08.hp:PySem.Challenge.pw_scriberow_k08_plain_hall.theDef "law" = some (K08.dlaw.params,K08.dlaw.body,K08.dlaw.scope):=by kernel_rfl
theorem K08.hk:kwWritten? K08.dlaw.params.kwonlyargs K08.dlaw.params.kw_defaults=some []:=by kernel_rfl
theorem K08.ok:(chainsOk K08.q&&opensWell PySem.Challenge.pw_scriberow_k08_plain_hall&&(frees PySem.Challenge.rw_scriberow_k08_plain_hall.row.toRowW&&PySem.Challenge.rw_scriberow_k08_plain_hall.row.within.isEmpty))=true:=by decide +kernel
end
namespace L2
open PySem PySem.Spec PyProof.Rows
noncomputable def AD:V->V->Bool
 | .non,.non=>true | .non,.int _=>true | .int _,.non=>true | .non,.bl _=>true | .bl _,.non=>true | .non,.str _=>true | .str _,.non=>true
 | .int _,.int _=>true | .bl _,.bl _=>true | .str _,.str _=>true
 | .int _,.str _=>true | .str _,.int _=>true | .bl _,.str _=>true | .str _,.bl _=>true
 | _,_=>false
inductive DEq (K:Frag) (H:Hp):Nat->V->V->Bool->Prop where
 | scal {n:Nat}{x y:V} (h:AD x y=true):DEq K H n x y (decide (x=y))
 | same {n:Nat}{a:Addr}:DEq K H n (.ref a) (.ref a) true
 | lst {n:Nat}{a b:Addr}{xs ys:List V} (e:Nat->Bool) (ha:a9 K H a xs) (hb:a9 K H b ys) (hn:a≠b) (hl:xs.length=ys.length) (h:∀ j x y,xs[j]? = some x->ys[j]? = some y->DEq K H n x y (e j)):DEq K H (n+1) (.ref a) (.ref b) ((List.range xs.length).all e)
 | lstN {n:Nat}{a b:Addr}{xs ys:List V} (ha:a9 K H a xs) (hb:a9 K H b ys) (hn:a≠b) (hl:xs.length≠ys.length):DEq K H (n+1) (.ref a) (.ref b) false
 | tup {n:Nat}{a b:Addr}{xs ys:List V} (e:Nat->Bool) (ha:bu K H a xs) (hb:bu K H b ys) (hn:a≠b) (h:∀ j x y,xs[j]? = some x->ys[j]? = some y->DEq K H n x y (e j)):DEq K H (n+1) (.ref a) (.ref b) ((List.range (min xs.length ys.length)).all e&&xs.length==ys.length)
 | dct {n:Nat}{a b:Addr}{kvs:List (bh×V)} (ha:Rd H a (.dK kvs)) (hb:Rd H b (.dK kvs)) (hn:a≠b) (hk:∀ p∈kvs,∃ i,p.1=Sum.inl i) (hv:∀ p∈kvs,(∃ r,p.2=.ref r)\/AD p.2 p.2=true):DEq K H (n+1) (.ref a) (.ref b) true
theorem lO {P P':Program}{w w':World}{h:Heap}{a:Addr}{vs:List (bh×Value)} (d:h.DictOf (aY P w) a vs) (hk:∀ p∈vs,∃ i,p.1=Sum.inl i):h.DictOf (aY P' w') a vs:=by
 obtain ⟨o,es,ep,ho,hc,hd,hka,hpa,hn⟩:=d;have pp:∀ {l:List DictEntry}{vs:List (bh×Value)},Pairs (aY P w) l vs->Pairs (aY P' w') l vs:=fun h=>by
  induction h with
  | nil=>exact .nil
  | cons h1 h2 _ ih=>exact .cons h1 h2 ih
 have mm:∀ {l:List DictEntry}{vs:List (bh×Value)},Pairs (aY P w) l vs->∀ e∈l,∃ p∈vs,iw p.1 e.key=true:=fun h=>by
  induction h with
  | nil=>intro e he; exact nomatch he
  | cons h1 h2 _ ih =>
   intro e he;rcases List.mem_cons.mp he with rfl | he
   ·exact ⟨_,List.mem_cons_self,h1⟩
   ·obtain ⟨p,hp,hx⟩:=ih e he
    exact ⟨p,List.mem_cons_of_mem _ hp,hx⟩
 refine ⟨o,es,ep,ho,hc,hd,fun e he=>?_,pp hpa,hn⟩;obtain ⟨k,h1,h2⟩:=hka e he;obtain ⟨p,hp,hx⟩:=mm hpa e (by simpa using he);obtain ⟨i,hi⟩:=hk p hp;have ek:k=p.1:=(aY P w).inj _ _ _ h1 hx;rw [hi] at ek;subst ek;exact ⟨_,h1,h2⟩
theorem sU {A:Around}{s:Shared}{kb:List (bh×Value)}:∀ {ka:List (bh×Value)},(∀ p∈ka,∃ y,valueAt kb p.1=some y/\SeqAt.EqAt A s p.2 y true)->PySem.W.KeqHits A s kb ka true
 | [],_=>.nil
 | (k,v) :: r,h=>by
  obtain ⟨y,h1,h2⟩:=h (k,v) List.mem_cons_self;exact .hit (e:=true) (b:=true) h1 h2 (sU fun p hp=>h p (List.mem_cons_of_mem _ hp))
theorem jG:∀ {vs:List (bh×Value)}{k:bh}{v:Value},(vs.map (·.1)).Nodup->(k,v)∈vs->valueAt vs k=some v
 | (k',v') :: r,k,v,hn,hm=>by
  obtain ⟨n1,n2⟩:=List.nodup_cons.mp hn;unfold valueAt;rw [List.find?_cons]
  by_cases e:k'=k
  ·subst e
   rcases List.mem_cons.mp hm with z | z
   ·cases z; simp
   ·exact absurd (List.mem_map.mpr ⟨_,z,rfl⟩) n1
  ·rcases List.mem_cons.mp hm with z | z
   ·cases z; exact absurd rfl e
   ·have ih:=jG n2 z
    unfold valueAt at ih;simp only [e,decide_false];exact ih
theorem nJ:∀ {kvs:List (bh×V)}{us vs:List (bh×Value)},KV kvs us->KV kvs vs->∀ p∈us,∃ q∈kvs,∃ v,(p.1,v)∈vs/\q.1=p.1/\RelV q.2 p.2/\RelV q.2 v
 | _,_,_,.nil,.nil,p,hp=>nomatch hp
 | _,_,_,.cons (a:=q) (b:=x) h t,.cons (b:=y) h' t',p,hp=>by
  rcases List.mem_cons.mp hp with rfl | hp
  ·exact ⟨q,List.mem_cons_self,y.2,List.mem_cons.mpr (.inl (by rw [<- h.1,h'.1])),h.1,h.2,h'.2⟩
  ·obtain ⟨q',h1,v,h2,h3⟩:=nJ t t' p hp
   exact ⟨q',List.mem_cons_of_mem _ h1,v,List.mem_cons_of_mem _ h2,h3⟩
section
variable {X:Cx}{pins:List (Addr×Obj)}{σ:St}{H:Hp}{s:Shared}
theorem pE {x y:V}{u v:Value}{A:Around} (h:AD x y=true) (rx:RelV x u) (ry:RelV y v):SeqAt.EqAt A s u v (decide (x=y)):=by
 have fin:∀ {k k':Bool}{u v:Value},SeqAt.EqAt A s u v k->k=k'->SeqAt.EqAt A s u v k':=fun h e=>e ▸ h;cases x with
 | non =>
  cases (show u=Value.none from rx);cases y with
  | non=>cases (show v=Value.none from ry); exact fin (SeqAt.EqAt.same _) (by simp)
  | bl j=>cases (show v=Value.bool j from ry); exact fin (SeqAt.EqAt.none_bool _) (by simp)
  | int j=>obtain ⟨t',rfl⟩:=ry; exact fin (SeqAt.EqAt.none_int _ _) (by simp)
  | str j=>obtain ⟨t',rfl⟩:=ry; exact fin (SeqAt.EqAt.none_str _ _) (by simp)
  | _=>exact absurd (show false=true from h) Bool.false_ne_true
 | bl i =>
  cases (show u=Value.bool i from rx);cases y with
  | non=>cases (show v=Value.none from ry); exact fin (SeqAt.EqAt.bool_none _) (by simp)
  | bl j=>cases (show v=Value.bool j from ry); exact fin (SeqAt.EqAt.bool_bool _ _) qQ.symm
  | str j=>obtain ⟨t',rfl⟩:=ry; exact fin (SeqAt.EqAt.bool_str _ _ _) (by simp)
  | _=>exact absurd (show false=true from h) Bool.false_ne_true
 | int i =>
  obtain ⟨t,rfl⟩:=rx;cases y with
  | non=>cases (show v=Value.none from ry); exact fin (SeqAt.EqAt.int_none _ _) (by simp)
  | int j=>obtain ⟨t',rfl⟩:=ry; exact fin (SeqAt.EqAt.int_int _ _ _ _) oj.symm
  | str j=>obtain ⟨t',rfl⟩:=ry; exact fin (SeqAt.EqAt.int_str _ _ _ _) (by simp)
  | _=>exact absurd (show false=true from h) Bool.false_ne_true
 | str i =>
  obtain ⟨t,rfl⟩:=rx;cases y with
  | non=>cases (show v=Value.none from ry); exact fin (SeqAt.EqAt.str_none _ _) (by simp)
  | bl j=>cases (show v=Value.bool j from ry); exact fin (SeqAt.EqAt.str_bool _ _ _) (by simp)
  | int j=>obtain ⟨t',rfl⟩:=ry; exact fin (SeqAt.EqAt.str_int _ _ _ _) (by simp)
  | str j=>obtain ⟨t',rfl⟩:=ry; exact fin (SeqAt.EqAt.str_str _ _ _ _) oi.symm
  | _=>exact absurd (show false=true from h) Bool.false_ne_true
 | _=>cases y<;>exact absurd (show false=true from h) Bool.false_ne_true
theorem DEq.eqAt {n:Nat}{x y:V}{b:Bool} (d:DEq X.K H n x y b) (I:Inv X pins σ H s):∀ {A:Around}{u v:Value},RelV x u->RelV y v->A.units+n < cLine->SeqAt.EqAt A s u v b:=by
 induction d with
 | scal h=>intro A u v rx ry _; exact pE h rx ry
 | same=>intro A u v rx ry _; cases rx; cases ry; exact SeqAt.EqAt.same _
 | lst e ha hb hn hl h ih =>
  intro A u v rx ry hu;cases rx; cases ry;obtain ⟨its,r1,p1,_⟩:=I.list ha;obtain ⟨its2,r2,p2,_⟩:=I.list hb;have e1:=r1.length;have e2:=r2.length;have z:=SeqAt.RcAt.lists (A:=A) (e:=e) p1.isList p2.isList (by simp; omega) (by omega) fun j h1 h2=>by
   have g1:its[j]? = some its[j]:=by simp at h1; simp [h1]
   have g2:its2[j]? = some its2[j]:=by simp at h2; simp [h2]
   simp at h1 h2;have q1:∃ x,_=some x:=⟨_,List.getElem?_eq_getElem (show j < _ from by rw [e1]; exact h1)⟩;obtain ⟨x,hx⟩:=q1;have q2:∃ x,_=some x:=⟨_,List.getElem?_eq_getElem (show j < _ from by rw [e2]; exact h2)⟩;obtain ⟨y,hy⟩:=q2;obtain ⟨u',hu',ru'⟩:=r1.get hx;obtain ⟨v',hv',rv'⟩:=r2.get hy;rw [g1] at hu'; cases hu';rw [g2] at hv'; cases hv';exact ih j x y hx hy ru' rv' (by show A.units+1+_ < _; omega)
  refine SeqAt.EqAt.of_refs hn ?_;rw [e1];simpa using z
 | lstN ha hb hn hl =>
  intro A u v rx ry hu;cases rx; cases ry;obtain ⟨its,r1,p1,_⟩:=I.list ha;obtain ⟨its2,r2,p2,_⟩:=I.list hb;have e1:=r1.length;have e2:=r2.length;exact SeqAt.EqAt.of_refs hn (SeqAt.RcAt.lists_lengths p1.isList p2.isList (by simp; omega) (by omega))
 | tup e ha hb hn h ih =>
  intro A u v rx ry hu;cases rx; cases ry;obtain ⟨its,r1,p1,_⟩:=I.tuple ha;obtain ⟨its2,r2,p2,_⟩:=I.tuple hb;have e1:=r1.length;have e2:=r2.length;have z:=SeqAt.RcAt.tuples (A:=A) (e:=e) p1 p2 (by omega) fun j h1 h2=>by
   have g1:its[j]? = some its[j]:=by simp at h1; simp [h1]
   have g2:its2[j]? = some its2[j]:=by simp at h2; simp [h2]
   simp at h1 h2;have q1:∃ x,_=some x:=⟨_,List.getElem?_eq_getElem (show j < _ from by rw [e1]; exact h1)⟩;obtain ⟨x,hx⟩:=q1;have q2:∃ x,_=some x:=⟨_,List.getElem?_eq_getElem (show j < _ from by rw [e2]; exact h2)⟩;obtain ⟨y,hy⟩:=q2;obtain ⟨u',hu',ru'⟩:=r1.get hx;obtain ⟨v',hv',rv'⟩:=r2.get hy;rw [g1] at hu'; cases hu';rw [g2] at hv'; cases hv';exact ih j x y hx hy ru' rv' (by show A.units+1+_ < _; omega)
  refine SeqAt.EqAt.of_refs hn ?_;rw [e1,e2];simpa using z
 | dct ha hb hn hk hv =>
  intro A u v rx ry hu;cases rx; cases ry;obtain ⟨_,y1,us,r1,d1⟩:=dL I.hok ha;obtain ⟨_,y2,vs,r2,d2⟩:=dL I.hok hb;have l1:=Paired.length r1;have l2:=Paired.length r2;have nd:(vs.map (·.1)).Nodup:=by obtain ⟨_,_,_,_,_,_,_,_,n⟩:=id d2; exact n
  have k1:∀ p∈us,∃ i,p.1=Sum.inl i:=fun p hp=>by
   obtain ⟨q,hq,_,_,e,_⟩:=nJ r1 r2 p hp;rw [<- e]; exact hk q hq
  have k2:∀ p∈vs,∃ i,p.1=Sum.inl i:=fun p hp=>by
   obtain ⟨q,hq,_,_,e,_⟩:=nJ r2 r1 p hp;rw [<- e]; exact hk q hq
  refine SeqAt.EqAt.of_refs hn fun prog w E Q h=>?_;refine PySem.W.keq_eq (knd:=aY prog w) (r:=true) y1 y2 (lO d1 k1) (lO d2 k2) (by omega) (fun _=>sU fun p hp=>?_) (by rw [show us.length=vs.length by omega]; simpa using h);obtain ⟨q,hq,v,h1,h2,h3,h4⟩:=nJ r1 r2 p hp;refine ⟨v,jG nd h1,?_⟩;rcases hv q hq with ⟨r,e⟩ | e
  ·rw [e] at h3 h4
   rw [show p.2=.ref r from h3,show v=.ref r from h4];exact SeqAt.EqAt.same _
  ·have:=pE (s:=s) (A:=A.in1) e h3 h4
   rwa [decide_eq_true rfl] at this
end
end L2
namespace Own
open PySem PySem.W PyProof.Rows
structure Ord (c:Nat->Nat->Bool):Prop where
 asym:∀ i j,c i j=true->c j i=false
 trans:∀ i j k,c j i=false->c k j=false->c k i=false
theorem Ord.refl {c:Nat->Nat->Bool} (o:Ord c) (i:Nat):c i i=false:=by
 cases h:c i i with
 | false=>rfl
 | true=>have:=o.asym i i h; rw [h] at this; exact this
noncomputable def ga (n:Nat) (c:Nat->Nat->Bool):Nat->Nat->(Bool->Shared->Prop)->Shared->Prop:=fun i j C s=>i < n/\j < n/\C (c i j) s
abbrev gd (p:Array Nat) (i:Nat):Nat:=p.getD i 0
theorem mH (p:Array Nat) (i:Nat):gd p i=(p[i]?).getD 0:=by
 unfold gd; rw [Array.getD_eq_getD_getElem?]
structure Ar (n:Nat) (p:Array Nat):Prop where
 size:p.size=n
 low:∀ i,gd p i < n
 perm:p.Perm (List.range n).toArray
theorem yX {n:Nat}{p:Array Nat} (h0:0 < n) (h:p.Perm (List.range n).toArray) (i:Nat):gd p i < n:=by
 rw [mH];cases e:p[i]? with
 | none=>exact h0
 | some x =>
  have hm:x∈p:=Array.mem_of_getElem? e;have hm2:x∈(List.range n).toArray:=(h.mem_iff).mp hm;simp at hm2;exact hm2
theorem Ar.mk' {n:Nat}{p:Array Nat} (h0:0 < n) (h:p.Perm (List.range n).toArray):Ar n p :=
 ⟨by rw [h.size_eq]; simp,yX h0 h,h⟩
theorem Ar.start {n:Nat} (h0:0 < n):Ar n (List.range n).toArray:=.mk' h0 (Array.Perm.refl _)
theorem Ar.rev {n:Nat}{p:Array Nat} (h0:0 < n) (a:Ar n p) (i j:Nat):Ar n (kas_rev p i j):=.mk' h0 ((mirror_perm _ _ _ _).trans a.perm)
theorem Ar.bub {n:Nat}{p:Array Nat} (h0:0 < n) (a:Ar n p) (k d:Nat):Ar n (bubble p k d):=.mk' h0 ((bubble_perm _ _ _).trans a.perm)
theorem qO {n:Nat}{p:Array Nat} (a:Ar n p) {i j:Nat} (hj:j<=n) (k:Nat):gd (kas_rev p i j) k=if i<=k/\k < j then gd p (i+j - 1 - k) else gd p k:=by
 rw [mH];unfold kas_rev;rw [getElem?_mirror_all (by rw [a.size]; exact hj)];split<;>rw [mH]
theorem zf {n:Nat}{p:Array Nat} (a:Ar n p) {src d:Nat} (hs:src < n) (hd:d<=src) (k:Nat) :
  gd (bubble p src d) k=if k=src - d then gd p src else if src - d < k/\k<=src then gd p (k - 1) else gd p k:=by
 rw [mH,getElem?_bubble (by rw [a.size]; exact hs) d hd];split
 ·rw [mH]
 ·split<;>rw [mH]
noncomputable def Up (c:Nat->Nat->Bool) (p:Array Nat) (m:Nat):Prop:=∀ i j,i<=j->j < m->c (gd p j) (gd p i)=false
noncomputable def Dn (c:Nat->Nat->Bool) (p:Array Nat) (m:Nat):Prop:=∀ i j,i<=j->j < m->c (gd p i) (gd p j)=false
section
variable {c:Nat->Nat->Bool}{n:Nat}{s:Shared}
theorem Up.one (o:Ord c) (p:Array Nat):Up c p 1:=fun i j h1 h2=>by
 obtain rfl:i=j:=by omega
 exact o.refl _
theorem Up.succ (o:Ord c) {p:Array Nat}{m:Nat} (u:Up c p m) (h:0 < m->c (gd p m) (gd p (m - 1))=false):Up c p (m+1):=fun i j h1 h2=>by
 by_cases hj:j < m
 ·exact u i j h1 hj
 ·obtain rfl:j=m:=by omega
  by_cases hi:i=j
  ·subst hi; exact o.refl _
  ·exact o.trans _ (gd p (j - 1)) _ (u i (j - 1) (by omega) (by omega)) (h (by omega))
theorem Dn.succ (o:Ord c) {p:Array Nat}{m:Nat} (u:Dn c p m) (h:0 < m->c (gd p (m - 1)) (gd p m)=false):Dn c p (m+1):=fun i j h1 h2=>by
 by_cases hj:j < m
 ·exact u i j h1 hj
 ·obtain rfl:j=m:=by omega
  by_cases hi:i=j
  ·subst hi; exact o.refl _
  ·exact o.trans _ (gd p (j - 1)) _ (h (by omega)) (u i (j - 1) (by omega) (by omega))
theorem ou (o:Ord c) {p:Array Nat} (a:Ar n p) {G:Nat->Shared->Prop}:∀ (f m:Nat),Up c p m->1<=m->(∀ m',m<=m'->m'<=m+f->Up c p m'->(m' < m+f->c (gd p m') (gd p (m' - 1))=true)->G m' s) ->
  (kas_asc p f m).kasWp (ga n c) G s
 | 0,m,u,_,h=>h m (Nat.le_refl _) (Nat.le_refl _) u (fun z=>absurd z (Nat.lt_irrefl _))
 | f+1,m,u,h1,h=>by
  refine ⟨a.low _,a.low _,?_⟩;show KasT.kasWp (ga n c) (if c (p.getD m 0) (p.getD (m - 1) 0)=true then KasT.ret m else kas_asc p f (m+1)) G s
  by_cases e:c (p.getD m 0) (p.getD (m - 1) 0)=true
  ·rw [if_pos e]
   exact h m (Nat.le_refl _) (by omega) u (fun _=>e)
  ·rw [if_neg e]
   have e':c (gd p m) (gd p (m - 1))=false:=by simpa using e
   exact ou o a f (m+1) (u.succ o fun _=>e') (by omega) fun m' a1 a2 a3 a4=>h m' (by omega) (by omega) a3 (fun z=>a4 (by omega))
theorem nX (o:Ord c) {p:Array Nat} (a:Ar n p) {l m:Nat} (hm:m<=n) (he:∀ x y,l<=x->x < m->l<=y->y < m->c (gd p x) (gd p y)=false) (k:Nat) :
  c (gd (kas_rev p l m) k) (gd p k)=false/\c (gd p k) (gd (kas_rev p l m) k)=false:=by
 rw [qO a hm]
 by_cases hc:l<=k/\k < m
 ·rw [if_pos hc]
  exact ⟨he _ _ (by omega) (by omega) (by omega) (by omega),he _ _ (by omega) (by omega) (by omega) (by omega)⟩
 ·rw [if_neg hc]
  exact ⟨o.refl _,o.refl _⟩
theorem Dn.eqv (o:Ord c) {p p':Array Nat}{m:Nat} (d:Dn c p m) (e:∀ k,c (gd p' k) (gd p k)=false/\c (gd p k) (gd p' k)=false):Dn c p' m:=fun i j h1 h2 =>
 o.trans (gd p' j) (gd p i) (gd p' i) (o.trans (gd p' j) (gd p j) (gd p i) (e j).2 (d i j h1 h2)) (e i).1
noncomputable def AQ (c:Nat->Nat->Bool) (p:Array Nat) (m q:Nat):Prop:=q+1<=m/\∀ k,m - (q+1)<=k->k < m->c (gd p (m - 1)) (gd p k)=false
theorem AQ.all (o:Ord c) {p:Array Nat}{m q:Nat} (d:Dn c p m) (e:AQ c p m q):∀ x y,m - (q+1)<=x->x < m->m - (q+1)<=y->y < m->c (gd p x) (gd p y)=false:=fun x y _ hx hy1 hy2 =>
 o.trans (gd p y) (gd p (m - 1)) (gd p x) (e.2 y hy1 hy2) (d x (m - 1) (by omega) (by omega))
theorem k_ (o:Ord c) (h0:0 < n) {G:Array Nat×Nat×Nat->Shared->Prop}:∀ (f m q:Nat) (p:Array Nat),Ar n p->m+f<=n->Dn c p m->AQ c p m q ->
  (∀ p' m' q',Ar n p'->1<=m'->m'<=m+f->Dn c p' m'->AQ c p' m' q'->G (p',m',q') s)->(kas_desc f p m q).kasWp (ga n c) G s
 | 0,m,q,p,a,_,d,e,h=>h p m q a (by have:=e.1; omega) (Nat.le_refl _) d e
 | f+1,m,q,p,a,hf,d,e,h=>by
  have h1:1<=m:=by have:=e.1; omega
  refine ⟨a.low _,a.low _,?_⟩;show KasT.kasWp (ga n c) (if c (p.getD m 0) (p.getD (m - 1) 0)=true then (if q > 0 then kas_desc f (kas_rev p (m - (q+1)) m) (m+1) 0 else kas_desc f p (m+1) 0)
   else KasT.ask (p.getD (m - 1) 0) (p.getD m 0) fun d=>if d=true then KasT.ret (p,m,q) else kas_desc f p (m+1) (q+1)) G s
  by_cases e1:c (p.getD m 0) (p.getD (m - 1) 0)=true
  ·rw [if_pos e1]
   have e1':c (gd p (m - 1)) (gd p m)=false:=o.asym _ _ e1;have new:∀ p',Ar n p'->(∀ k,c (gd p' k) (gd p k)=false/\c (gd p k) (gd p' k)=false)->(kas_desc f p' (m+1) 0).kasWp (ga n c) G s:=fun p' a' ev=>by
    have d':Dn c p' m:=d.eqv o ev;have step:c (gd p' (m - 1)) (gd p' m)=false:=o.trans (gd p' m) (gd p (m - 1)) (gd p' (m - 1)) (o.trans (gd p' m) (gd p m) (gd p (m - 1)) (ev m).2 e1') (ev (m - 1)).1;refine k_ o h0 f (m+1) 0 p' a' (by omega) (d'.succ o fun _=>step) ⟨by omega,fun k k1 k2=>?_⟩ fun p'' m'' q'' b1 b2 b3 b4 b5=>h p'' m'' q'' b1 b2 (by omega) b4 b5;obtain rfl:k=m+1 - 1:=by omega
    exact o.refl _
   by_cases hq:q > 0
   ·rw [if_pos hq]
    exact new _ (a.rev h0 _ _) (nX o a (by omega) (e.all o d))
   ·rw [if_neg hq]
    exact new p a fun k=>⟨o.refl _,o.refl _⟩
  ·rw [if_neg e1]
   have e1':c (gd p m) (gd p (m - 1))=false:=by simpa using e1
   refine ⟨a.low _,a.low _,?_⟩;show KasT.kasWp (ga n c) (if c (p.getD (m - 1) 0) (p.getD m 0)=true then KasT.ret (p,m,q) else kas_desc f p (m+1) (q+1)) G s
   by_cases e2:c (p.getD (m - 1) 0) (p.getD m 0)=true
   ·rw [if_pos e2]
    exact h p m q a h1 (by omega) d e
   ·rw [if_neg e2]
    have e2':c (gd p (m - 1)) (gd p m)=false:=by simpa using e2
    refine k_ o h0 f (m+1) (q+1) p a (by omega) (d.succ o fun _=>e2') ⟨by have:=e.1; omega,fun k k1 k2=>?_⟩ fun p'' m'' q'' b1 b2 b3 b4 b5=>h p'' m'' q'' b1 b2 (by omega) b4 b5;show c (gd p (m+1 - 1)) (gd p k)=false;rw [Nat.add_sub_cancel]
    by_cases hk:k=m
    ·subst hk; exact o.refl _
    ·exact o.trans (gd p k) (gd p (m - 1)) (gd p m) (e.2 k (by omega) (by omega)) e1'
theorem Dn.up (o:Ord c) {p:Array Nat} (a:Ar n p) {m:Nat} (hm:m<=n) (d:Dn c p m):Up c (kas_rev p 0 m) m:=fun i j h1 h2=>by
 rw [qO a hm,qO a hm,if_pos ⟨Nat.zero_le _,h2⟩,if_pos ⟨Nat.zero_le _,by omega⟩];exact d _ _ (by omega) (by omega)
theorem py (o:Ord c) (h0:0 < n) {p:Array Nat} (a:Ar n p) {m:Nat} (h1:1<=m) (hm:m<=n) (d:Dn c p m) {G:Nat×Array Nat->Shared->Prop}
  (h:∀ m' p',Ar n p'->1<=m'->m'<=n->Up c p' m'->G (m',p') s):(kas_tail3 m n p).kasWp (ga n c) G s:=by
 unfold kas_tail3;rw [KasT.kasWp_bind];exact ou o (a.rev h0 _ _) (n - m) m (d.up o a hm) h1 fun m' b1 b2 b3 _=>h m' _ (a.rev h0 _ _) (by omega) (by omega) b3
theorem iV (o:Ord c) (h0:0 < n) {p:Array Nat} (a:Ar n p) {m:Nat} (hm:m+1<=n) (d:Dn c p (m+1)) {G:Nat×Array Nat->Shared->Prop}
  (h:∀ m' p',Ar n p'->1<=m'->m'<=n->Up c p' m'->G (m',p') s):(kas_descPart m n p).kasWp (ga n c) G s:=by
 unfold kas_descPart;rw [KasT.kasWp_bind];refine k_ o h0 (n - (m+1)) (m+1) 0 p a (by omega) d ⟨by omega,fun k k1 k2=>?_⟩ fun p' m' q' a' b1 b2 d' e'=>?_
 ·obtain rfl:k=m+1 - 1:=by omega
  exact o.refl _
 ·show KasT.kasWp (ga n c) (if q' > 0 then kas_tail3 m' n (kas_rev p' (m' - (q'+1)) m') else kas_tail3 m' n p') G s
  by_cases hq:q' > 0
  ·rw [if_pos hq]
   exact py o h0 (a'.rev h0 _ _) b1 (by omega) (d'.eqv o (nX o a' (by omega) (e'.all o d'))) h
  ·rw [if_neg hq]
   exact py o h0 a' b1 (by omega) d' h
theorem uE (o:Ord c) (h0:0 < n) {p:Array Nat} (a:Ar n p) {G:Nat×Array Nat->Shared->Prop}
  (h:∀ m' p',Ar n p'->1<=m'->m'<=n->Up c p' m'->G (m',p') s):(kas_count n p).kasWp (ga n c) G s:=by
 unfold kas_count;rw [KasT.kasWp_bind];refine ou o a (n - 1) 1 (.one o p) (Nat.le_refl _) fun m b1 b2 u st=>?_;show KasT.kasWp (ga n c) (if (m==n)=true then KasT.ret (m,p) else if m > 1 then KasT.ask (p.getD 0 0) (p.getD (m - 1) 0) fun c=>if c=true then KasT.ret (m,p) else kas_descPart m n (kas_rev p 0 m)
  else kas_descPart m n p) G s
 by_cases e1:(m==n)=true
 ·rw [if_pos e1]
  exact h m p a b1 (by omega) u
 ·rw [if_neg e1]
  have hlt:m+1<=n:=by
   have:m≠n:=fun q=>e1 (by rw [q]; exact beq_self_eq_true _)
   omega
  have st':c (gd p (m - 1)) (gd p m)=false:=o.asym _ _ (st (by omega))
  by_cases e2:m > 1
  ·rw [if_pos e2]
   refine ⟨a.low _,a.low _,?_⟩;show KasT.kasWp (ga n c) (if c (p.getD 0 0) (p.getD (m - 1) 0)=true then KasT.ret (m,p) else kas_descPart m n (kas_rev p 0 m)) G s
   by_cases e3:c (p.getD 0 0) (p.getD (m - 1) 0)=true
   ·rw [if_pos e3]
    exact h m p a b1 (by omega) u
   ·rw [if_neg e3]
    have e3':c (gd p 0) (gd p (m - 1))=false:=by simpa using e3
    have all:∀ x y,0<=x->x < m->0<=y->y < m->c (gd p x) (gd p y)=false:=fun x y _ hx _ hy =>
     o.trans (gd p y) (gd p (m - 1)) (gd p x) (u y (m - 1) (by omega) (by omega)) (o.trans (gd p (m - 1)) (gd p 0) (gd p x) e3' (u 0 x (by omega) hx))
    have ev:=nX o a (l:=0) (m:=m) (by omega) all;have d:Dn c p m:=fun i j h1 h2=>all i j (by omega) (by omega) (by omega) h2;refine iV o h0 (a.rev h0 _ _) hlt ((d.eqv o ev).succ o fun _=>?_) h;exact o.trans _ (gd p (m - 1)) _ (o.trans _ (gd p m) _ (ev m).2 st') (ev (m - 1)).1
  ·rw [if_neg e2]
   obtain rfl:m=1:=by omega
   refine iV o h0 a hlt ?_ h;refine Dn.succ o (fun i j h1 h2=>?_) fun _=>st';obtain rfl:i=j:=by omega
   exact o.refl _
theorem jj (o:Ord c) {p:Array Nat} (a:Ar n p) {k:Nat}{G:Nat->Shared->Prop}:∀ (f l r:Nat),r - l<=f->l<=r->r<=k->(∀ i,i < l->c (gd p k) (gd p i)=false)->(∀ i,r<=i->i < k->c (gd p k) (gd p i)=true)->Up c p k ->
  (∀ l',l'<=k->(∀ i,i < l'->c (gd p k) (gd p i)=false)->(∀ i,l'<=i->i < k->c (gd p k) (gd p i)=true)->G l' s)->(kas_place p k f l r).kasWp (ga n c) G s
 | 0,l,r,hf,hl,hr,h1,h2,u,h=>h l (by omega) h1 (fun i hi hk=>h2 i (by omega) hk)
 | f+1,l,r,hf,hl,hr,h1,h2,u,h=>by
  unfold kas_place
  by_cases e:l>=r
  ·rw [if_pos e]
   exact h l (by omega) h1 (fun i hi hk=>h2 i (by omega) hk)
  ·rw [if_neg e]
   refine ⟨a.low _,a.low _,?_⟩;show KasT.kasWp (ga n c) (if c (p.getD k 0) (p.getD ((l+r) / 2) 0)=true then kas_place p k f l ((l+r) / 2) else kas_place p k f ((l+r) / 2+1) r) G s
   by_cases e1:c (p.getD k 0) (p.getD ((l+r) / 2) 0)=true
   ·rw [if_pos e1]
    refine jj o a f l _ (by omega) (by omega) (by omega) h1 (fun i hi hk=>?_) u h;cases z:c (gd p k) (gd p i) with
    | true=>rfl
    | false =>
     have:=o.trans (gd p ((l+r) / 2)) (gd p i) (gd p k) (u ((l+r) / 2) i hi hk) z;have e1':c (gd p k) (gd p ((l+r) / 2))=true:=e1;rw [e1'] at this;cases this
   ·rw [if_neg e1]
    have e1':c (gd p k) (gd p ((l+r) / 2))=false:=by simpa using e1
    refine jj o a f _ r (by omega) (by omega) hr (fun i hi=>?_) h2 u h;exact o.trans (gd p i) (gd p ((l+r) / 2)) (gd p k) (u i ((l+r) / 2) (by omega) (by omega)) e1'
theorem tq (o:Ord c) (h0:0 < n) {G:Array Nat->Shared->Prop}:∀ (f k:Nat) (p:Array Nat),Ar n p->k+f<=n->Up c p k->(∀ p',Ar n p'->Up c p' (k+f)->G p' s)->(kas_bin f p k).kasWp (ga n c) G s
 | 0,k,p,a,hf,u,h=>h p a u
 | f+1,k,p,a,hf,u,h=>by
  unfold kas_bin;rw [KasT.kasWp_bind];refine jj o a k 0 k (by omega) (by omega) (Nat.le_refl _) (fun i hi=>absurd hi (Nat.not_lt_zero _)) (fun i hi hk=>absurd hk (by omega)) u fun l hl h1 h2=>?_;have g:=zf a (src:=k) (d:=k - l) (by omega) (by omega);have el:k - (k - l)=l:=by omega
  rw [el] at g;refine tq o h0 f (k+1) _ (a.bub h0 _ _) (by omega) (fun i j hij hj=>?_) fun p' a' u'=>h p' a' (by rw [show k+(f+1)=k+1+f by omega]; exact u');rw [g i,g j]
  by_cases i1:i=l
  ·rw [if_pos i1]
   by_cases j1:j=l
   ·rw [if_pos j1]; exact o.refl _
   ·rw [if_neg j1,if_pos (by omega)]
    exact o.asym _ _ (h2 (j - 1) (by omega) (by omega))
  ·rw [if_neg i1]
   by_cases i2:l < i/\i<=k
   ·rw [if_pos i2,if_neg (by omega),if_pos (by omega)]
    exact u _ _ (by omega) (by omega)
   ·rw [if_neg i2]
    by_cases j1:j=l
    ·rw [if_pos j1]
     exact h1 i (by omega)
    ·rw [if_neg j1]
     by_cases j2:l < j/\j<=k
     ·rw [if_pos j2]
      exact u _ _ (by omega) (by omega)
     ·rw [if_neg j2]
      exact u _ _ hij (by omega)
theorem vE (o:Ord c) (h0:0 < n) {G:Array Nat->Shared->Prop} (h:∀ p',Ar n p'->Up c p' n->G p' s):(kas_sort n).kasWp (ga n c) G s:=by
 unfold kas_sort;rw [KasT.kasWp_bind];refine uE o h0 (.start h0) fun m p a b1 b2 u=>?_;show KasT.kasWp (ga n c) (if m < n then kas_bin (n - max m 1) p (max m 1) else KasT.ret p) G s;have em:max m 1=m:=by omega
 rw [em]
 by_cases e:m < n
 ·rw [if_pos e]
  exact tq o h0 (n - m) m p a (by omega) u fun p' a' u'=>h p' a' (by rw [show m+(n - m)=n by omega] at u'; exact u')
 ·rw [if_neg e]
  obtain rfl:m=n:=by omega
  exact h p a u
theorem tE {cmp:Nat->Nat->(Bool->Shared->Prop)->Shared->Prop}{J:Shared->Prop} (hc:∀ i j C s,i < n->j < n->J s->(∀ s',J s'->C (c i j) s')->cmp i j C s) {α:Type}{G:α->Prop}{Q:α->Shared->Prop} (hQ:∀ a s',G a->J s'->Q a s') :
  ∀ (t:KasT α) (s s0:Shared),t.kasWp (ga n c) (fun a _=>G a) s0->J s->t.kasWp cmp Q s
 | .ret a,s,_,h,j=>hQ a s h j
 | .ask i k f,s,s0,h,j=>hc i k _ s h.1 h.2.1 j fun s' j'=>tE hc hQ (f (c i k)) s' s0 h.2.2 j'
end
section
variable {prog:Program}{w:World}{A:Around}{E:Value->Shared->Prop}{s:Shared}
theorem mz {a:Addr}{vs:List Value}{n:Nat}{κ:SortKind}{c:Nat->Nat->Bool}{P:Fin->Shared->Prop} (ho:s.heap.get? a=some (seqObj "list" vs.toArray n)) (h64:vs.length < 64) (o:Ord c)
  (hkind:2<=vs.length->∀ (s':Shared) (Q:SortKind->Shared->Prop),(∀ b ob,b≠a->s.heap.get? b=some ob->s'.heap.get? b=some ob)->Q κ s'->wpAny (model prog w) A (keyKind' vs.toArray) Q (fun _ _=>False) s')
  (hlt:∀ i j (s':Shared) (Q:Bool->Shared->Prop),i < vs.length->j < vs.length->(∀ b ob,b≠a->s.heap.get? b=some ob->s'.heap.get? b=some ob)->Q (c i j) s'->wpAny (model prog w) A (keyLt' κ (vs.getD i Value.none) (vs.getD j Value.none)) Q (fun _ _=>False) s')
  (h:∀ p:Array Nat,p.Perm (List.range vs.length).toArray->Up c p vs.length->P (.done (.ret .none)) { s with heap:=sortedHeap s.heap a vs (p.toList.map fun i=>vs.getD i Value.none).toArray }) :
  wpAny (model prog w) A (Builtin.«list.sort» ⟨[.ref a],[]⟩) P E s:=by
 rw [list_sort_plain];have ha:a < s.heap.objs.size:=Heap.lt_size ho;refine wpAny_bind (listItems_at ho rfl ?_);refine wpAny_bind (listUpdate_at ho rfl ?_ (by rw [List.size_toArray,sizeLine_eq]; omega) (Nat.zero_le _));obtain ⟨e1,ho1⟩:∃ e1,(s.heap.update a (Obj.mapSeq fun _=>#[])).get? a=some (seqObj "list" #[] e1):=⟨_,get?_update_seq ho (fun _=>#[])⟩;refine wpAny_bind (seqEpoch_at ho1 rfl ?_);refine wpAny_bind (wpAny_newTuple ?_ (by show vs.length<=_; rw [sizeLine_eq]; omega));refine wpAny_bind (wpAny_newList ?_ (Nat.zero_le _));refine wpAny_holding ?_;have ho6:(((s.heap.update a (Obj.mapSeq fun _=>#[])).push (seqObj "tuple" vs.toArray 0)).push (seqObj "list" #[] 0)).get? a=some (seqObj "list" #[] e1):=by
  rw [Heap.get?_push_ne _ _ _ (by rw [size_push',Heap.size_update]; exact Nat.ne_of_lt (Nat.lt_succ_of_lt ha)),Heap.get?_push_ne _ _ _ (by rw [Heap.size_update]; exact Nat.ne_of_lt ha)];exact ho1
 have keep:∀ b ob,b≠a->s.heap.get? b=some ob->(((s.heap.update a (Obj.mapSeq fun _=>#[])).push (seqObj "tuple" vs.toArray 0)).push (seqObj "list" #[] 0)).get? b=some ob:=fun b ob hb e =>
  Heap.get?_push_of_some _ (Heap.get?_push_of_some _ ((Heap.get?_update_other _ _ (Ne.symm hb)).trans e))
 show wpAny (model prog w) A _ P E { s with heap:=((s.heap.update a (Obj.mapSeq fun _=>#[])).push (seqObj "tuple" vs.toArray 0)).push (seqObj "list" #[] 0) };dsimp only;have hsz:vs.toArray.size=vs.length:=by simp
 by_cases h2:vs.toArray.size < 2
 ·rw [if_pos h2,if_pos h2]
  refine wpAny_bind (wpAny_pure ?_);rw [StateT.run_pure];refine wpAny_bind (wpAny_pure ?_);dsimp only;refine wpAny_bind (seqEpoch_at ho6 rfl ?_);refine wpAny_bind (listUpdate_at ho6 rfl ?_ (Nat.zero_le _) (hsz2:=by rw [Array.size_map]; show (pairsOf vs).size<=_; rw [pairsOf_size,sizeLine_eq]; omega));simp only [bne_self_eq_false,Bool.false_eq_true,if_false];have hz:=h (List.range vs.length).toArray (Array.Perm.refl _) (fun i j hij hj=>by
   obtain rfl:i=j:=by rw [hsz] at h2; omega
   exact o.refl _)
  refine wpAny_pure ?_;have e:((List.range vs.length).toArray.toList.map fun i=>vs.getD i Value.none).toArray=(arrOf (SortSt.mk' general' (vs.toArray.zip vs.toArray) #[] 7 none)).map (·.2):=by
   apply Array.toList_inj.mp;show (List.range vs.length).map _=((vs.toArray.zip vs.toArray).map (·.2)).toList;rw [Array.toList_map];have ez:(vs.toArray.zip vs.toArray).toList=vs.zip vs:=by simp
   rw [ez];rw [show (vs.zip vs).map (fun x=>x.2)=vs from by rw [List.map_snd_zip]; exact Nat.le_refl _];apply List.ext_getElem?;intro i;rw [List.getElem?_map]
   by_cases hi:i < vs.length
   ·simp [hi]
   ·simp [hi]
  rw [e] at hz;exact hz
 ·rw [if_neg h2,if_neg h2]
  have l2:2<=vs.length:=by omega
  refine wpAny_bind (wpAny_mono (hkind l2 { s with heap:=((s.heap.update a (Obj.mapSeq fun _=>#[])).push (seqObj "tuple" vs.toArray 0)).push (seqObj "list" #[] 0) } (fun k s'=>k=κ/\s'={ s with heap:=((s.heap.update a (Obj.mapSeq fun _=>#[])).push (seqObj "tuple" vs.toArray 0)).push (seqObj "list" #[] 0) }) keep ⟨rfl,rfl⟩) (fun κ' s0 hk=>?_) fun _ _ x=>x.elim);obtain ⟨rfl,rfl⟩:=hk;have tree:(kas_sort vs.length).kasWp (kas_ask prog w A κ' vs) (fun p s'=>(p.Perm (List.range vs.length).toArray/\Up c p vs.length)/\s'={ s with heap:=((s.heap.update a (Obj.mapSeq fun _=>#[])).push (seqObj "tuple" vs.toArray 0)).push (seqObj "list" #[] 0) })
    { s with heap:=((s.heap.update a (Obj.mapSeq fun _=>#[])).push (seqObj "tuple" vs.toArray 0)).push (seqObj "list" #[] 0) } :=
   tE (n:=vs.length) (c:=c) (J:=fun s'=>s'={ s with heap:=((s.heap.update a (Obj.mapSeq fun _=>#[])).push (seqObj "tuple" vs.toArray 0)).push (seqObj "list" #[] 0) }) (G:=fun p=>p.Perm (List.range vs.length).toArray/\Up c p vs.length)
    (fun i j C s' hi hj hJ hC=>by subst hJ; exact hlt i j _ C hi hj keep (hC _ rfl)) (fun p s' hg hJ=>⟨hg,hJ⟩) _ _ s (vE o (by omega) fun p' a' u'=>⟨a'.perm,u'⟩) rfl
  refine wpAny_bind (wpAny_mono (kat_run (Q:=fun st' s'=>∃ p:Array Nat,p.size=vs.length/\arrOf st'=p.map (kas_item (vs.toArray.zip vs.toArray))/\failedOf st'=none/\(p.Perm (List.range vs.length).toArray/\Up c p vs.length)/\s'={ s with heap:=((s.heap.update a (Obj.mapSeq fun _=>#[])).push (seqObj "tuple" vs.toArray 0)).push (seqObj "list" #[] 0) })
   rfl l2 h64 (fun p' st' s' a1 a2 a3 a4=>⟨p',a1,a2,a3,a4.1,a4.2⟩) tree) ?_ fun _ _ e=>e)
  rintro ⟨⟨⟩,st'⟩ s' ⟨p,hp,har,hf,⟨hpm,hup⟩,rfl⟩;dsimp only;refine wpAny_bind (seqEpoch_at ho6 rfl ?_);have hsn:(arrOf st').map (·.2)=List.toArray (p.toList.map fun i=>vs.getD i Value.none):=kat_snds rfl har;refine wpAny_bind (listUpdate_at ho6 rfl ?_ (Nat.zero_le _) (hsz2:=by rw [hsn]; simp only [List.size_toArray,List.length_map,Array.length_toList]; rw [hp,sizeLine_eq]; omega));rw [hf,hsn];simp only [bne_self_eq_false,Bool.false_eq_true,if_false];exact wpAny_pure (h p hpm hup)
end
section
variable {prog:Program}{w:World}{A:Around}{E:Value->Shared->Prop}{s:Shared}
noncomputable def Kp (h h':Heap):Prop:=∀ b ob,h.get? b=some ob->h'.get? b=some ob
structure SortC (prog:Program) (w:World) (vs:List Value) (κ:SortKind) (c:Nat->Nat->Bool) (h:Heap):Prop where
 ord:Ord c
 kind:2<=vs.length->∀ (A:Around) (s':Shared) (Q:SortKind->Shared->Prop),Kp h s'.heap->Q κ s'->wpAny (model prog w) A (keyKind' vs.toArray) Q (fun _ _=>False) s'
 lt:∀ i j (A:Around) (s':Shared) (Q:Bool->Shared->Prop),i < vs.length->j < vs.length->Kp h s'.heap->Q (c i j) s'->wpAny (model prog w) A (keyLt' κ (vs.getD i Value.none) (vs.getD j Value.none)) Q (fun _ _=>False) s'
theorem qT {v:Value}{Q:Value->Shared->Prop} (hc:∀ A':Around,A'.handled=A.handled->wpAny (model prog w) A' (collect v) (fun vs s1=>vs.length < 64/\∃ κ c,SortC prog w vs κ c s1.heap /\
   ∀ p:Array Nat,p.Perm (List.range vs.length).toArray->Up c p vs.length->∀ h',Kp s1.heap h'->(∃ e,h'.get? s1.heap.objs.size=some (seqObj "list" (p.toList.map fun i=>vs.getD i Value.none).toArray e))->Q (.ref s1.heap.objs.size) { s1 with heap:=h' }) E s) :
  wpAny (model prog w) A (call (.builtin "sorted") [v]) Q E s:=by
 refine Calls.call_function_entry kind_sorted plain_sorted entry_sorted (args_sorted1 _) ?_;unfold Builtin.«sorted»;refine wpAny_bind (m:=checkCount "sorted" 1 1 _) (wpAny_pure ?_);refine wpAny_bind (wpAny_mono (hc _ rfl) (fun vs s1 h1=>?_) fun _ _ e=>e);obtain ⟨h64,κ,c,C,fin⟩:=h1;refine wpAny_bind (wpAny_newList ?_ (by rw [sizeLine_eq]; omega));have hoL:(s1.heap.push (seqObj "list" vs.toArray 0)).get? s1.heap.objs.size=some (seqObj "list" vs.toArray 0):=Heap.get?_push_size _ rfl;have kp1:Kp s1.heap (s1.heap.push (seqObj "list" vs.toArray 0)):=fun b ob e=>Heap.get?_push_of_some _ e;have kp2:∀ s':Shared,(∀ b ob,b≠s1.heap.objs.size->(s1.heap.push (seqObj "list" vs.toArray 0)).get? b=some ob->s'.heap.get? b=some ob)->Kp s1.heap s'.heap:=fun s' hk b ob e=>hk b ob (Nat.ne_of_lt (Heap.lt_size e)) (kp1 b ob e);show wpAny _ _ _ _ _ { s1 with heap:=s1.heap.push (seqObj "list" vs.toArray 0) };refine wpAny_bind (wpAny_holding (wpAny_call_entry slot_list_sort ⟨_,hoL,rfl⟩ entry_list_sort (mz (s:={ s1 with heap:=s1.heap.push (seqObj "list" vs.toArray 0) }) hoL h64 C.ord (fun l2 s' Q' hk q=>C.kind l2 _ s' Q' (kp2 s' hk) q)
  (fun i j s' Q' hi hj hk q=>C.lt i j _ s' Q' hi hj (kp2 s' hk) q) fun p hp hup=>⟨_,rfl,?_⟩) (args_list_sort _)))
 refine wpAny_pure ⟨_,rfl,fin p hp hup _ (fun b ob e=>?_) ?_⟩
 ·have hlt:b < s1.heap.objs.size:=Heap.lt_size e
  show (sortedHeap (s1.heap.push (seqObj "list" vs.toArray 0)) s1.heap.objs.size vs _).get? b=some ob;unfold sortedHeap;rw [Heap.get?_update_ne _ _ _ _ (Nat.ne_of_lt hlt)];refine Heap.get?_push_of_some _ (Heap.get?_push_of_some _ ?_);rw [Heap.get?_update_ne _ _ _ _ (Nat.ne_of_lt hlt)];exact kp1 b ob e
 ·show ∃ e,(sortedHeap (s1.heap.push (seqObj "list" vs.toArray 0)) s1.heap.objs.size vs _).get? s1.heap.objs.size=some _
  unfold sortedHeap;obtain ⟨e1,ho1⟩:∃ e1,((s1.heap.push (seqObj "list" vs.toArray 0)).update s1.heap.objs.size (Obj.mapSeq fun _=>#[])).get? s1.heap.objs.size=some (seqObj "list" #[] e1):=⟨_,get?_update_seq hoL (fun _=>#[])⟩;have ho2:=Heap.get?_push_of_some (seqObj "list" #[] 0) (Heap.get?_push_of_some (seqObj "tuple" vs.toArray 0) ho1);exact ⟨_,get?_update_seq ho2 _⟩
end
end Own
namespace Own
open PySem PySem.W PyProof.Rows L2
theorem xg (f:Nat->Int):Ord (fun i j=>decide (f i < f j)) where
 asym:=fun i j h=>by have:=of_decide_eq_true h; exact decide_eq_false (by omega)
 trans:=fun i j k h1 h2=>by have:=of_decide_eq_false h1; have:=of_decide_eq_false h2; exact decide_eq_false (by omega)
section
variable {prog:Program}{w:World}{A:Around}{E:Value->Shared->Prop}{s:Shared}{b fin:Bool}{Q:Bool->Shared->Prop}
end
section
variable {X:Cx}{pins:List (Addr×Obj)}{σ:L2.St}{H:Hp}{s:Shared}
end
end Own
namespace Own
open PySem L2
theorem t9 {α:Type} (xs:List α) (d:α) {p:Array Nat} (hp:p.Perm (List.range xs.length).toArray):(p.toList.map fun i=>xs.getD i d).Perm xs:=by
 have h1:p.toList.Perm (List.range xs.length):=by simpa using Array.perm_iff_toList_perm.mp hp
 have h2:=h1.map (fun i=>xs.getD i d);have e:(List.range xs.length).map (fun i=>xs.getD i d)=xs:=by
  apply List.ext_getElem?;intro i;rw [List.getElem?_map]
  by_cases hi:i < xs.length
  ·simp [hi]
  ·simp [hi]
 rw [e] at h2;exact h2
theorem p6 {α:Type}{p:Array Nat}{n:Nat}{c:Nat->Nat->Bool}{f:Nat->α}{R:α->α->Prop} (hs:p.size=n) (u:Up c p n) (hR:∀ i j,c j i=false->R (f i) (f j)):(p.toList.map f).Pairwise R:=by
 rw [List.pairwise_iff_getElem];intro i j hi hj hij;have hj':j < p.size:=by simpa using hj
 have hi':i < p.size:=by simpa using hi
 simp only [List.getElem_map,Array.getElem_toList];have:=u i j (Nat.le_of_lt hij) (by omega);have e1:gd p i=p[i]:=by unfold gd; simp [Array.getD,hi']
 have e2:gd p j=p[j]:=by unfold gd; simp [Array.getD,hj']
 rw [e1,e2] at this;exact hR _ _ this
end Own
namespace L2
open PySem PySem.Spec PyProof.Rows _root_.Own
noncomputable def qv (v d:Addr):HO:=.ext fun h=>h.IsItemsView v d
theorem zb {P:Program}{w:World}{H:Hp}{h:Heap}{v d:Addr} (x:h.IsItemsView v d):bq P w H h v (qv v d) :=
 ⟨x,let ⟨o,e,_⟩:=x; ⟨o,e⟩,fun _ _ ⟨o,e,r⟩ k=>⟨o,k o e,r⟩⟩
section
variable {X:Cx}
theorem pN:zB X "dict.items" (fun x xs H Q=>∃ d kvs,x=.ref d/\xs=[]/\Rd H d (.dK kvs)/\∀ v,H v=none->Q (.ref v) (aA H v (qv v d))):=by
 intro pins s σ H x xs v us Q I rx rs h;obtain ⟨d,kvs,rfl,rfl,hd,q⟩:=h;cases rx;cases rs;obtain ⟨z,hm,vs,rel,dd⟩:=dL I.hok hd;refine call_meetsIn PySem.F.slot_dict_items dd.typeIs PySem.F.entry_dict_items (PySem.F.args_dict_items_1 _) (meets_dict_items (aY X.prog X.w) d hm) ⟨⟨vs,dd⟩,?_⟩;refine ⟨.ref s.heap.objs.size,_,I.laid (t':=s.toks) (o:=qv s.heap.objs.size d) (fun _ _ e=>Heap.get?_push_of_some _ e) (Nat.le_refl _) (zb ⟨_,Heap.get?_push_size _ rfl,rfl,rfl⟩),rfl,q _ (I.hok.fresh (Nat.le_refl _))⟩
noncomputable def zh (K:Frag) (l:Addr) (H:Hp) (Q:VK):Prop:=∃ ns:List Int,a9 K H l (ns.map V.int)/\ns.length < 64/\∀ ns':List Int,ns'.Perm ns->ns'.Pairwise (·<=·)->∀ p,H p=none->Q (.ref p) (aA H p (.lst (ns'.map V.int)))
theorem mL {us:List V}{vs:List Value} (r:aU us vs):∀ (l:List Nat),(∀ i∈l,i < us.length)->aU (l.map fun i=>us.getD i .non) (l.map fun i=>vs.getD i Value.none)
 | [],_=>.nil
 | i :: l,h=>by
  refine .cons ?_ (mL r l fun j hj=>h j (List.mem_cons_of_mem _ hj));have hi:=h i List.mem_cons_self;obtain ⟨u,hu,ru⟩:=r.get (List.getElem?_eq_getElem hi);have e1:us.getD i .non=us[i]:=by simp [hi]
  have e2:vs.getD i Value.none=u:=by rw [List.getD_eq_getElem?_getD,hu]; rfl
  show RelV (us.getD i .non) (vs.getD i Value.none);rw [e1,e2]; exact ru
theorem lJ {p:Array Nat}{n:Nat} (hp:p.Perm (List.range n).toArray):∀ i∈p.toList,i < n:=fun i hi=>by
 have:=(hp.mem_iff (a:=i)).mp (by simpa using hi);simpa using this
theorem vF {pins:List (Addr×Obj)}{σ:St}{H:Hp}{s1:Shared}{us:List V}{vs:List Value}{p:Array Nat}{h':Heap}{Q:VK} (I:Inv X pins σ H s1) (r:aU us vs) (hl:us.length < 64) (hp:p.Perm (List.range vs.length).toArray)
  (k:Kp s1.heap h') (hn:∃ e,h'.get? s1.heap.objs.size=some (seqObj "list" (p.toList.map fun i=>vs.getD i Value.none).toArray e)) (q:∀ q,H q=none->Q (.ref q) (aA H q (.lst (p.toList.map fun i=>us.getD i .non)))) :
  EP X pins σ Q (.ref s1.heap.objs.size) { s1 with heap:=h' }:=by
 obtain ⟨e,hn⟩:=hn;have hlen:=r.length;have lt:∀ i∈p.toList,i < us.length:=fun i hi=>by rw [hlen]; exact lJ hp i hi
 have sz:(p.toList.map fun i=>us.getD i .non).length<=sizeLine:=by
  have:=hp.size_eq;simp at this;rw [List.length_map,Array.length_toList,this,sizeLine_eq]; omega
 exact ⟨.ref _,_,I.laid (t':=s1.toks) (o:=.lst (p.toList.map fun i=>us.getD i .non)) k (Nat.le_refl _) ⟨sz,_,e,mL r _ lt,hn⟩,rfl,q _ (I.hok.fresh (Nat.le_refl _))⟩
theorem rC:cE X (.builtin "sorted") (fun xs H Q=>∃ l,xs=[.ref l]/\zh X.K l H Q):=by
 intro pins s σ H xs us Q I r h;obtain ⟨l,rfl,ns,hl,h64,q⟩:=h;obtain ⟨u,rfl,ru⟩:=fY r;cases ru;obtain ⟨its,rv,pl,hz⟩:=I.list hl;have hlen:=rv.length;rw [List.length_map] at hlen;refine sorted_ints pl.isList (lL rv) (by omega) fun out ns' a1 a2 a3=>?_;obtain ⟨e,he⟩:=sortedAll_at s.heap its out;have hv:aU (ns'.map V.int) out.toList:=by
  have:∀ {vs:List Value}{ns:List Int},IntsAre vs ns->aU (ns.map V.int) vs:=by
   intro vs ns h
   induction h with
   | nil=>exact .nil
   | cons n t h ih=>exact .cons ⟨_,rfl⟩ ih
  exact this a1
 refine ⟨.ref _,_,I.laid (t':=s.toks) (o:=.lst (ns'.map V.int)) (fun b o e=>sortedAll_old e) (Nat.le_succ _) ⟨?_,out.toList,e,hv,by simpa using he⟩,rfl,q ns' a2 a3 _ (I.hok.fresh (Nat.le_succ _))⟩;rw [List.length_map,a2.length_eq,sizeLine_eq]; omega
theorem mM {α:Type}{f:α->Int}:∀ {l:List α},(l.map f).Nodup->l.Pairwise (fun a b=>¬ f b < f a)->l.Pairwise (fun a b=>f a < f b)
 | [],_,_=>.nil
 | a :: l,hn,h=>by
  rw [List.map_cons,List.nodup_cons] at hn;rw [List.pairwise_cons] at h;refine List.pairwise_cons.mpr ⟨fun b hb=>?_,mM hn.2 h.2⟩;have h1:=h.1 b hb;have h2:f a≠f b:=fun z=>hn.1 (z ▸ List.mem_map_of_mem hb);omega
end
theorem gD {α β:Type}{F:α->β->Prop}:∀ {xs:List α}{ys:List β},xs.length=ys.length->(∀ (j:Nat) x y,xs[j]? = some x->ys[j]? = some y->F x y)->Paired F xs ys
 | [],[],_,_=>.nil
 | [],_ :: _,h,_=>by simp at h
 | _ :: _,[],h,_=>by simp at h
 | x :: xs,y :: ys,h,k=>.cons (k 0 x y rfl rfl) (gD (by simpa using h) fun j a b h1 h2=>k (j+1) a b (by simpa using h1) (by simpa using h2))
theorem de {α β:Type}{F:α->β->Prop}{xs:List α}{ys:List β} (p:Paired F xs ys):∀ {j:Nat}{x:α}{y:β},xs[j]? = some x->ys[j]? = some y->F x y:=by
 induction p with
 | nil=>intro j x y h; simp at h
 | cons h t ih =>
  intro j x y h1 h2;cases j with
  | zero=>simp at h1 h2; subst h1; subst h2; exact h
  | succ j=>exact ih (by simpa using h1) (by simpa using h2)
section
variable {X:Cx}
end
end L2
namespace L2
open PySem PySem.Spec PyProof.Rows
inductive TEq (K:Frag) (H:Hp):V->V->Bool->Prop where
 | scal {x y:V} (h:scal x y=true):TEq K H x y (decide (x=y))
 | lst {a b:Addr}{xs ys:List V}{n:Nat} (e:Nat->Bool) (ha:a9 K H a xs) (hb:a9 K H b ys) (hl:xs.length=ys.length) (hn:n<=8) (h:∀ j x y,xs[j]? = some x->ys[j]? = some y->DEq K H n x y (e j)):TEq K H (.ref a) (.ref b) ((List.range xs.length).all e)
 | lstN {a b:Addr}{xs ys:List V} (ha:a9 K H a xs) (hb:a9 K H b ys) (hl:xs.length≠ys.length):TEq K H (.ref a) (.ref b) false
 | tup {a b:Addr}{xs ys:List V}{n:Nat} (e:Nat->Bool) (ha:bu K H a xs) (hb:bu K H b ys) (hn:n<=8) (h:∀ j x y,xs[j]? = some x->ys[j]? = some y->DEq K H n x y (e j)):TEq K H (.ref a) (.ref b) ((List.range (min xs.length ys.length)).all e&&xs.length==ys.length)
section
variable {X:Cx}{pins:List (Addr×Obj)}{σ:St}{H:Hp}{s:Shared}
theorem iM {n:Nat}{xs ys:List V}{its its2:List Value}{e:Nat->Bool}{A:Around} (I:Inv X pins σ H s) (r1:aU xs its) (r2:aU ys its2) (hu:A.units+n < cLine) (h:∀ j x y,xs[j]? = some x->ys[j]? = some y->DEq X.K H n x y (e j)) :
  ∀ j (h1:j < its.toArray.size) (h2:j < its2.toArray.size),SeqAt.EqAt A s its.toArray[j] its2.toArray[j] (e j):=fun j h1 h2=>by
 have e1:=r1.length;have e2:=r2.length;have g1:its[j]? = some its[j]:=by simp at h1; simp [h1]
 have g2:its2[j]? = some its2[j]:=by simp at h2; simp [h2]
 simp at h1 h2;obtain ⟨u',hu',ru'⟩:=r1.get (List.getElem?_eq_getElem (show j < xs.length from by rw [e1]; exact h1));obtain ⟨v',hv',rv'⟩:=r2.get (List.getElem?_eq_getElem (show j < ys.length from by rw [e2]; exact h2));rw [g1] at hu'; cases hu';rw [g2] at hv'; cases hv';exact (h j _ _ (List.getElem?_eq_getElem _) (List.getElem?_eq_getElem _)).eqAt I ru' rv' hu
noncomputable def BA (K:Frag):R2:=fun x y H Q=>∃ b,TEq K H x y b/\Q (.bl b) H
noncomputable def AF (K:Frag):R2:=fun x y H Q=>∃ b,TEq K H x y b/\Q (.bl (!b)) H
theorem bt {k:Nat} (hr:Room k X.A):eU X (compareOp .Eq) (BA X.K):=by
 intro pins s σ H x y v u Q I rx ry h;obtain ⟨b,t,q⟩:=h;have hu:=hr.units;cases t with
 | scal h=>exact Au pins s σ H x y v u Q I rx ry ⟨h,q⟩
 | lst e ha hb hl hn h =>
  cases rx; cases ry;obtain ⟨its,r1,p1,_⟩:=I.list ha;obtain ⟨its2,r2,p2,_⟩:=I.list hb;have e1:=r1.length;have e2:=r2.length;refine SeqAt.eq_listAt (e:=e) p1.isList p2.isList (by simp; omega) (by omega) (iM I r1 r2 (by show X.A.units+1+_ < _; omega) h) (aZ I q ?_);rw [e1]; simp
 | lstN ha hb hl =>
  cases rx; cases ry;obtain ⟨its,r1,p1,_⟩:=I.list ha;obtain ⟨its2,r2,p2,_⟩:=I.list hb;have e1:=r1.length;have e2:=r2.length;exact SeqAt.eq_list_lengthsAt p1.isList p2.isList (by simp; omega) (by omega) (aZ I q rfl)
 | tup e ha hb hn h =>
  cases rx; cases ry;obtain ⟨its,r1,p1,_⟩:=I.tuple ha;obtain ⟨its2,r2,p2,_⟩:=I.tuple hb;have e1:=r1.length;have e2:=r2.length;refine SeqAt.eq_tupleAt (e:=e) p1 p2 (by omega) (iM I r1 r2 (by show X.A.units+1+_ < _; omega) h) (aZ I q ?_);rw [e1,e2]; simp
theorem dq {k:Nat} (hr:Room k X.A):eU X (compareOp .NotEq) (AF X.K):=by
 intro pins s σ H x y v u Q I rx ry h;obtain ⟨b,t,q⟩:=h;have hu:=hr.units;cases t with
 | scal h=>exact Ao pins s σ H x y v u Q I rx ry ⟨h,q⟩
 | lst e ha hb hl hn h =>
  cases rx; cases ry;obtain ⟨its,r1,p1,_⟩:=I.list ha;obtain ⟨its2,r2,p2,_⟩:=I.list hb;have e1:=r1.length;have e2:=r2.length;refine PySem.EqBoolInt.of_rcne (SeqAt.RcNeAt.lists (e:=e) p1.isList p2.isList (by simp; omega) (by omega) (iM I r1 r2 (by show X.A.units+1+_ < _; omega) h)) (aZ I q ?_);rw [e1]; simp
 | lstN ha hb hl =>
  cases rx; cases ry;obtain ⟨its,r1,p1,_⟩:=I.list ha;obtain ⟨its2,r2,p2,_⟩:=I.list hb;have e1:=r1.length;have e2:=r2.length;exact PySem.EqBoolInt.of_rcne (SeqAt.RcNeAt.lists_lengths p1.isList p2.isList (by simp; omega) (by omega)) (aZ I q rfl)
 | tup e ha hb hn h =>
  cases rx; cases ry;obtain ⟨its,r1,p1,_⟩:=I.tuple ha;obtain ⟨its2,r2,p2,_⟩:=I.tuple hb;have e1:=r1.length;have e2:=r2.length;refine PySem.EqBoolInt.of_rcne (SeqAt.RcNeAt.tuples (e:=e) p1 p2 (by omega) (iM I r1 r2 (by show X.A.units+1+_ < _; omega) h)) (aZ I q ?_);rw [e1,e2]; simp
inductive InV (K:Frag) (H:Hp):V->V->Bool->Prop where
 | dct {a:Addr}{y:V}{o:Option V} (g:cJ H a y o):InV K H y (.ref a) o.isSome
 | lst {x:V}{a:Addr}{xs:List V}{n:Nat} (e:V->Bool) (ha:a9 K H a xs) (hn:n<=8) (h:∀ y∈xs,DEq K H n y x (e y)):InV K H x (.ref a) (xs.any e)
 | tup {x:V}{a:Addr}{xs:List V}{n:Nat} (e:V->Bool) (ha:bu K H a xs) (hn:n<=8) (h:∀ y∈xs,DEq K H n y x (e y)):InV K H x (.ref a) (xs.any e)
theorem kD {xs:List V}{us:List Value} (e:V->Bool) (r:aU xs us):us.any (fun u=>(ip u).any e)=xs.any e:=by
 unfold aU at r
 induction r with
 | nil=>rfl
 | cons h t ih=>rw [List.any_cons,List.any_cons,ih,h.abs]; rfl
theorem kA {xs:List V}{us:List Value} (r:aU xs us):∀ u∈us,∃ x∈xs,RelV x u:=by
 unfold aU at r
 induction r with
 | nil=>intro u hu; exact nomatch hu
 | cons h t ih =>
  intro u hu;rcases List.mem_cons.mp hu with z | z
  ·subst z; exact ⟨_,List.mem_cons_self,h⟩
  ·obtain ⟨x,hx,rx⟩:=ih u z
   exact ⟨x,List.mem_cons_of_mem _ hx,rx⟩
theorem i7 {k:Nat} (hr:Room k X.A):eU X (compareOp .In) (fun x y H Q=>∃ b,InV X.K H x y b/\Q (.bl b) H):=by
 intro pins s σ H x y v u Q I rx ry h;obtain ⟨b,t,q⟩:=h;have hu:=hr.units;cases t with
 | @dct a _ o g =>
  cases (show u=Value.ref a from ry);exact Bq (by omega) I g rx fun s3 I3=>⟨.bl o.isSome,H,I3,rfl,q⟩
 | lst e ha hn h =>
  cases ry;obtain ⟨its,r,pl,hz⟩:=I.list ha;refine SeqAt.in_listAt (fun u=>(ip u).any e) pl.isList (fun w hw=>?_) (aZ I q ?_)
  ·obtain ⟨z,hz',rz⟩:=kA r w (by simpa using hw)
   rw [rz.abs];exact (h z hz').eqAt I rz rx (by show X.A.units+1+_ < _; omega)
  ·rw [show its.toArray.any (fun u=>(ip u).any e)=its.any (fun u=>(ip u).any e) by simp,kD e r]
 | tup e ha hn h =>
  cases ry;obtain ⟨its,r,pl,hz⟩:=I.tuple ha;refine SeqAt.in_tupleAt (fun u=>(ip u).any e) pl (fun w hw=>?_) (aZ I q ?_)
  ·obtain ⟨z,hz',rz⟩:=kA r w (by simpa using hw)
   rw [rz.abs];exact (h z hz').eqAt I rz rx (by show X.A.units+1+_ < _; omega)
  ·rw [show its.toArray.any (fun u=>(ip u).any e)=its.any (fun u=>(ip u).any e) by simp,kD e r]
theorem cT {k:Nat} (hr:Room k X.A):eU X (compareOp .NotIn) (fun x y H Q=>∃ b,InV X.K H x y b/\Q (.bl (!b)) H):=by
 intro pins s σ H x y v u Q I rx ry h;obtain ⟨b,t,q⟩:=h;have hu:=hr.units;cases t with
 | @dct a _ o g =>
  cases (show u=Value.ref a from ry);exact xB (by omega) I g rx fun s3 I3=>⟨.bl (!o.isSome),H,I3,rfl,q⟩
 | lst e ha hn h =>
  cases ry;obtain ⟨its,r,pl,hz⟩:=I.list ha;refine SeqAt.notIn_listAt (fun u=>(ip u).any e) pl.isList (fun w hw=>?_) (aZ I q ?_)
  ·obtain ⟨z,hz',rz⟩:=kA r w (by simpa using hw)
   rw [rz.abs];exact (h z hz').eqAt I rz rx (by show X.A.units+1+_ < _; omega)
  ·rw [show its.toArray.any (fun u=>(ip u).any e)=its.any (fun u=>(ip u).any e) by simp,kD e r]
 | tup e ha hn h =>
  cases ry;obtain ⟨its,r,pl,hz⟩:=I.tuple ha;refine SeqAt.notIn_tupleAt (fun u=>(ip u).any e) pl (fun w hw=>?_) (aZ I q ?_)
  ·obtain ⟨z,hz',rz⟩:=kA r w (by simpa using hw)
   rw [rz.abs];exact (h z hz').eqAt I rz rx (by show X.A.units+1+_ < _; omega)
  ·rw [show its.toArray.any (fun u=>(ip u).any e)=its.any (fun u=>(ip u).any e) by simp,kD e r]
end
inductive Dat where
 | non | bl (b:Bool) | int (i:Int) | str (x:Str) | tup (ds:List Dat) | lst (ds:List Dat)
inductive Deep (H:Hp):Nat->V->Dat->Prop where
 | non {n:Nat}:Deep H n .non .non
 | bl {n:Nat}{b:Bool}:Deep H n (.bl b) (.bl b)
 | int {n:Nat}{i:Int}:Deep H n (.int i) (.int i)
 | str {n:Nat}{x:Str}:Deep H n (.str x) (.str x)
 | tup {n:Nat}{a:Addr}{xs:List V}{ds:List Dat} (h:H a=some (.tup xs)) (hz:xs.length<=sizeLine) (hl:xs.length=ds.length) (k:∀ (j:Nat) x d,xs[j]? = some x->ds[j]? = some d->Deep H n x d):Deep H (n+1) (.ref a) (.tup ds)
 | lst {n:Nat}{a:Addr}{xs:List V}{ds:List Dat} (h:H a=some (.lst xs)) (hz:xs.length<=sizeLine) (hl:xs.length=ds.length) (k:∀ (j:Nat) x d,xs[j]? = some x->ds[j]? = some d->Deep H n x d):Deep H (n+1) (.ref a) (.lst ds)
theorem Deep.mono {H H':Hp}{n:Nat}{x:V}{d:Dat} (h:Deep H n x d) (s:aV H H'):Deep H' n x d:=by
 induction h with
 | non=>exact .non
 | bl=>exact .bl
 | int=>exact .int
 | str=>exact .str
 | tup h hz hl k ih=>exact .tup (s _ _ h) hz hl ih
 | lst h hz hl k ih=>exact .lst (s _ _ h) hz hl ih
theorem ly {α:Type}{f:α->Int}:∀ {xs ys:List α},xs.Perm ys->xs.Pairwise (fun a b=>f a < f b)->ys.Pairwise (fun a b=>f a < f b)->xs=ys
 | [],ys,p,_,_=>by have:=p.length_eq; cases ys with | nil=>rfl | cons _ _=>simp at this
 | x :: xs,[],p,_,_=>by have:=p.length_eq; simp at this
 | x :: xs,y :: ys,p,h1,h2=>by
  have hx:x∈y :: ys:=p.mem_iff.mp List.mem_cons_self;have hy:y∈x :: xs:=p.mem_iff.mpr List.mem_cons_self;rw [List.pairwise_cons] at h1 h2;have e:x=y:=by
   rcases List.mem_cons.mp hx with z | z
   ·exact z
   ·rcases List.mem_cons.mp hy with w | w
    ·exact w.symm
    ·have a:=h1.1 y w
     have b:=h2.1 x z;omega
  subst e;rw [ly ((List.perm_cons x).mp p) h1.2 h2.2]
noncomputable def yj:Nat->Sp
 | 0=>fun _ _ _ _=>False
 | n+1=>fun vs H Q _=>∃ x y d,vs=[x,y]/\Deep H n x d/\Deep H n y d/\∀ H',aV H H'->Q (.bl true) H'
structure MethAt (K:Frag) (C:Addr) (m qual:Str) (st:Stmt) (ps:List Str):Prop where
 ex:∃ f fd,Fun K m qual st f fd/\Meth K C m f/\∀ us:List Value,us.length=ps.length->bindArgs fd ⟨us,[]⟩=pure (ps.zip us)
structure OwnM (P:Program) (w:World) (K:Frag) (mg:Str->Option Value) (base:Heap) (C:Addr) (m:Str) (k:Nat) (ps:List Str) (sp:Sp):Prop where
 ex:∃ f fd,FnOk P w K mg base tH k f fd ps sp/\Meth K C m f/\∀ us:List Value,us.length=ps.length->bindArgs fd ⟨us,[]⟩=pure (ps.zip us)
theorem bg {K:Frag}{C:Addr}{x qual:Str}{st:Stmt}{ps:List Str}{f:Addr}{oc kV doc pm cdv ct:Value}{od an:Option Addr}{osl:Array (Option Value)}
  (a:PySem.W.findIn K (.ref C) x=some (some (.ref f)):=by k_is) (i:PySem.W.isFn K (.ref f)=true:=by k_is) (l:K.lookup f=some ⟨oc,od,.func (PySem.W.fnOf x qual (dr st) (bS st) (aw st) .none kV doc pm an cdv ct),osl⟩:=by k_is) (c:PySem.W.codeIn K cdv qual=true:=by k_is) (k:PySem.W.keepIn K (.ref f)=true:=by k_is)
  (hb:∀ (kV doc pm:Value) (an:Option Addr) (cdv ct:Value) (us:List Value),us.length=ps.length->bindArgs (PySem.W.fnOf x qual (dr st) (bS st) (aw st) .none kV doc pm an cdv ct) ⟨us,[]⟩=pure (ps.zip us):=by intro _ _ _ _ _ _ us hl; first | exact uZ (fun _=>rfl) us hl | exact uY (fun _ _=>rfl) us hl | exact uX (fun _ _ _=>rfl) us hl | exact uW (fun _ _ _ _=>rfl) us hl | exact bind0 rfl us hl):MethAt K C x qual st ps :=
 ⟨f,_,qP l c k,⟨a,i,k⟩,hb kV doc pm an cdv ct⟩
section
variable {P:Program}{w:World}{K:Frag}{mg:Str->Option Value}{base:Heap}{C:Addr}
theorem MethAt.own {x qual:Str}{st:Stmt}{N ps:List Str}{k:Nat}{sp:Sp} (D:MethAt K C x qual st ps) (S:FnScope N ps (aw st)) (len:∀ vs H Q E,sp vs H Q E->vs.length=ps.length)
  (hbody:∀ (f:Addr) (cdv:Value) (A:Around) (outer:List Env) (s:Shared) (H:Hp) (vs:List V) (Q:VK) (E:XK),Room k (A.deeper (envOfC qual (aw st) s.heap.objs.size f cdv))->sp vs H Q E ->
   ∃ t,gI (jU tH P w K mg base N qual (aw st) f cdv A outer s H E).nox (bS st) t/\t { nx:=fun _ H'=>Q .non H',rt:=Q } (start N vs) H):OwnM P w K mg base C x (k+1) ps sp:=by
 obtain ⟨f,fd,F,hm,hb⟩:=D.ex;exact ⟨f,fd,F.ok S len (hbody f),hm,hb⟩
end
noncomputable def xO (C:Addr) (m:Str) (sp:Sp) (ta:TE) (t:TA):TE:=fun σ H Q=>ta σ H fun x H1=>∃ a dx fs,x=.ref a/\H1 a=some (.ins C dx fs)/\fs.lookup m=none/\t σ H1 fun vs H2=>sp (x :: vs) H2 Q E0
noncomputable def uR (C:Addr) (sp:Sp) (t:TA):TE:=fun σ H Q=>t σ H fun vs H1=>∀ x dx,H1 x=none->H1 dx=none->dx≠x ->
 sp (.ref x :: vs) (aA (aA H1 dx (.own x)) x (.ins C dx [])) (fun v H2=>v=.non/\Q (.ref x) H2) E0
section
variable {X:Cx}
theorem eg {C:Addr}{m:Str}{j k:Nat}{ps:List Str}{sp:Sp}{o e:Expr}{es:List Expr}{ta:TE}{t:TA}{apos pos:Pos}{pl:Sem Bool} (he:PE X o ta) (c:Cls X.K C) (O:OwnM X.prog X.w X.K X.mg X.base C m j ps sp) (hr:Room k X.A) (ha:PA X (e :: es) t) (hj:j<=k:=by first | decide | omega)
  (hst:starEach (e :: es) X.env=(false,eval e X.env) :: starEach es X.env:=by rfl) (hpl:(backTo pos (starEach es X.env)).any (·.1)=false:=by rfl)
  (ht:eval (.Call (.Attribute o m apos) (e :: es) [] pos) X.env=(do
   let ov <- eval o X.env
   standAt apos.atName
   let (f,first) <- holding [ov] (getMethod ov m pl)
   callWith pos f first (backTo pos (starEach (e :: es) X.env)) (backToKw pos (keywordEach [] X.env))):=by rfl) :
  PE X (.Call (.Attribute o m apos) (e :: es) [] pos) (xO C m sp ta t):=by
 obtain ⟨f,fd,F,hm,hb⟩:=O.ex;refine (sL (dvs:=[]) (E:=E0) he c hm F (hr.mono hj) (fc.all hb) .nil rN ha hst hpl ht).imp fun σ H Q h=>?_;unfold pc;unfold xO at h;simpa only [List.append_nil] using h
theorem xa {C f:Addr}{fd:FuncData}{x:Str}{j k:Nat}{ps:List Str}{sp:Sp}{e:Expr}{es:List Expr}{t:TA}{p pos:Pos} (M:Mk X.K C f) (F:FnOk X.prog X.w X.K X.mg X.base tH j f fd ps sp) (hm:X.mg x=some (.ref C)) (hb:∀ us:List Value,us.length=ps.length->bindArgs fd ⟨us,[]⟩=pure (ps.zip us))
  (hr:Room k X.A) (hg:Gl X x) (ha:PA X (e :: es) t) (hj:j+1<=k:=by first | decide | omega) (hdb:(x==("__debug__":Str))=false:=by decide) (he:starEach (e :: es) X.env=(false,eval e X.env) :: starEach es X.env:=by rfl) (hpl:(backTo pos (starEach es X.env)).any (·.1)=false:=by rfl) :
  PE X (.Call (.Name x p) (e :: es) [] pos) (uR C sp t):=by
 refine (xb (dvs:=[]) (E:=E0) M F (hr.mono hj) hg hm (fc.all hb) .nil rN ha hdb he hpl).imp fun σ H Q h=>?_;unfold xQ;unfold uR at h;simpa only [List.append_nil] using h
end
section
variable {β:Type}
noncomputable def aJ (l:List (Int×β)) (k:Int) (v:β):List (Int×β):=if (l.any fun p=>decide (p.1=k))=true then l.map (fun p=>if p.1=k then (p.1,v) else p) else l++[(k,v)]
theorem bD (l:List (Int×β)) (k:Int) (v:β):(aJ l k v).length<=l.length+1:=by
 unfold aJ;split
 ·rw [List.length_map]; omega
 ·rw [List.length_append,List.length_cons,List.length_nil]; omega
theorem tX (l:List (Int×β)) (k:Int) (v:β):(aJ l k v).map (·.1)=if k∈l.map (·.1) then l.map (·.1) else l.map (·.1)++[k]:=by
 unfold aJ
 by_cases h:(l.any fun p=>decide (p.1=k))=true
 ·rw [if_pos h,if_pos (by
   obtain ⟨p,hp,e⟩:=List.any_eq_true.mp h;exact List.mem_map.mpr ⟨p,hp,of_decide_eq_true e⟩),List.map_map]
  apply List.map_congr_left;intro p _;show (if p.1=k then (p.1,v) else p).1=p.1;split<;>rfl
 ·rw [if_neg h,if_neg (fun z=>h (by
   obtain ⟨p,hp,e⟩:=List.mem_map.mp z;exact List.any_eq_true.mpr ⟨p,hp,decide_eq_true e⟩)),List.map_append]
  rfl
theorem dR {l:List (Int×β)} (k:Int) (v:β) (h:(l.map (·.1)).Nodup):((aJ l k v).map (·.1)).Nodup:=by
 rw [tX];split
 ·exact h
 ·exact sP h ‹_›
end
noncomputable def uV (outer names:List (Str×NameKind)) (N:List Str) (fr:List Nat):Bool :=
 (fr.all fun j=>match N[j]? with | some x=>(outer.lookup x==some .cell || outer.lookup x==some .free)&&names.lookup x==some .free | none=>false) &&
 names.all fun p=>p.2 != .free || (outer.lookup p.1==some .cell || outer.lookup p.1==some .free)
theorem xD {X:Cx}{scope:Scope}{fr:List Nat} (h:uV X.env.scope.names scope.names X.N fr=true):Caps X scope fr:=by
 unfold uV at h;rw [Bool.and_eq_true] at h;obtain ⟨h1,h2⟩:=h;refine ⟨fun j hj=>?_,fun x hx=>?_⟩
 ·have:=List.all_eq_true.mp h1 j hj
  cases e:X.N[j]? with
  | none=>rw [e] at this; cases this
  | some x =>
   rw [e] at this;simp only [Bool.and_eq_true,Bool.or_eq_true,beq_iff_eq] at this;exact ⟨x,rfl,this.1,this.2⟩
 ·have:=List.all_eq_true.mp h2 (x,.free) hx
  simpa using this
noncomputable def ym (scope:Scope):Bool:=scope.kind==.function&&(scope.names.all fun p=>p.2 != .cell)&&scope.names.all fun p=>p.2 != .local || scope.names.lookup p.1==some .local
theorem zk {scope:Scope} (h:ym scope=true):CScope scope:=by
 unfold ym at h;simp only [Bool.and_eq_true,beq_iff_eq,List.all_eq_true] at h;obtain ⟨⟨h1,h2⟩,h3⟩:=h;refine ⟨h1,fun x hx=>?_,fun x hx e=>?_⟩
 ·have:=h2 x hx; simpa using this
 ·have:=h3 x hx
  simp only [Bool.or_eq_true,beq_iff_eq,bne_iff_ne] at this;rcases this with z | z
  ·exact absurd e z
  ·exact z
noncomputable def AE:List Str->Bool
 | []=>true
 | x :: r=>!r.contains x&&AE r
theorem xZ:∀ {l:List Str},AE l=true->l.Nodup
 | [],_=>.nil
 | x :: r,h=>by
  unfold AE at h;rw [Bool.and_eq_true] at h;refine List.nodup_cons.mpr ⟨fun z=>?_,xZ h.2⟩;have:=h.1;simp [z] at this
theorem dz {X:Cx}{scope:Scope}{tgs:List Str}{fr:List Nat}{tg elt:Expr}{ifs:List Expr}{g:TG}{tt:xI}{te:TE} (tgt:∀ C s₀ H₀ fp,PG (cC X scope C (mE X tgs fr) s₀ H₀ fp) tg g)
  (ift:∀ C s₀ H₀ fp,zT (cC X scope C (mE X tgs fr) s₀ H₀ fp) ifs tt) (el:∀ C s₀ H₀ fp,PE (cC X scope C (mE X tgs fr) s₀ H₀ fp) elt te)
  (h1:ym scope=true:=by rfl) (h2:uV X.env.scope.names scope.names X.N fr=true:=by rfl) (hc:X.calm=true:=by rfl):Block X scope tgs fr tg elt ifs g tt te :=
 ⟨zk h1,xD h2,hc,tgt,ift,el⟩
theorem dv {X:Cx} (i:Nat) {x:Str}{pos:Pos} (hN:AE X.N=true:=by rfl) (hi:X.N[i]? = some x:=by rfl) (hx:wL X.env.scope x:=by first | exact Or.inl rfl | exact Or.inr rfl)
  (hf:X.fn x=true\/X.env.scope.names.lookup x=some .local:=by first | exact .inr rfl | exact .inl rfl | assumption):PG X (.Name x pos) (jE i):=sK (xZ hN) hi hx hf
noncomputable def mI (n i:Nat) (Pv:Nat->List V->Hp->Prop) (ys:List V) (H:Hp):Prop:=∃ m',m' < n - i/\m'=n - (i+1)/\i+1<=n/\Pv (i+1) ys H
theorem gK {n i:Nat}{Pv:Nat->List V->Hp->Prop}{ys:List V}{H:Hp} (hi:i < n) (p:Pv (i+1) ys H):mI n i Pv ys H:=⟨n - (i+1),by omega,rfl,hi,p⟩
theorem dP {K:Frag}{a D:Addr}{xs:List V}{k:Nat}{fr:List Nat}{g:TG}{tt:xI}{te:TE}{σ:St}{H:Hp}{R:Hp->Prop} (Pv:Nat->List V->Hp->Prop) (h0:Pv 0 [] (aA H D (.lst []))) (hl:∀ i ys H,i<=xs.length->Pv i ys H->a9 K H a xs)
  (hs:∀ i x ys H,xs[i]? = some x->i < xs.length->Pv i ys H->g x (l_ k fr σ) H fun σ2 H2=>Wk (l_ k fr σ) σ2/\qw tt σ2 H2 fun c H3 =>
   if c=true then te σ2 H3 fun v H4=>H4 D=some (.lst ys)/\ys.length < sizeLine/\mI xs.length i Pv (ys++[v]) (aA H4 D (.lst (ys++[v]))) else mI xs.length i Pv ys H3)
  (hd:∀ ys H,Pv xs.length ys H->R H) :
  ∃ W:Nat->Nat->List V->Hp->Prop,(∃ m,W 0 m [] (aA H D (.lst [])))/\∀ i m ys H,W i m ys H->((xJ K a).stop i H/\R H)\/((xJ K a).go i H/\∀ x H',(xJ K a).yld i H x H'->g x (l_ k fr σ) H' fun σ2 H2=>Wk (l_ k fr σ) σ2/\qw tt σ2 H2 fun c H3 =>
   if c=true then te σ2 H3 fun v H4=>H4 D=some (.lst ys)/\ys.length < sizeLine/\∃ m',m' < m/\W (i+1) m' (ys++[v]) (aA H4 D (.lst (ys++[v]))) else ∃ m',m' < m/\W (i+1) m' ys H3):=by
 refine ⟨fun i m ys H=>m=xs.length - i/\i<=xs.length/\Pv i ys H,⟨xs.length,by simp,Nat.zero_le _,h0⟩,?_⟩;rintro i m ys H ⟨rfl,hi,p⟩;have q:=hl i ys H hi p
 by_cases hlt:i < xs.length
 ·refine .inr ⟨⟨xs,xs[i],q,by simp [hlt]⟩,fun x H' y=>?_⟩
  obtain ⟨e,y⟩:=y;subst e;exact hs i x ys _ (y xs q) hlt p
 ·have e:i=xs.length:=by omega
  subst e;exact .inl ⟨⟨xs,q,Nat.le_refl _⟩,hd ys H p⟩
theorem lP {lo:Int}{n:Nat}{D:Addr}{k:Nat}{fr:List Nat}{g:TG}{tt:xI}{te:TE}{σ:St}{H:Hp}{R:Hp->Prop} (Pv:Nat->List V->Hp->Prop) (h0:Pv 0 [] (aA H D (.lst [])))
  (hs:∀ i ys H,i < n->Pv i ys H->g (.int (lo+i)) (l_ k fr σ) H fun σ2 H2=>Wk (l_ k fr σ) σ2/\qw tt σ2 H2 fun c H3 =>
   if c=true then te σ2 H3 fun v H4=>H4 D=some (.lst ys)/\ys.length < sizeLine/\mI n i Pv (ys++[v]) (aA H4 D (.lst (ys++[v]))) else mI n i Pv ys H3)
  (hd:∀ ys H,Pv n ys H->R H) :
  ∃ W:Nat->Nat->List V->Hp->Prop,(∃ m,W 0 m [] (aA H D (.lst [])))/\∀ i m ys H,W i m ys H->((wM lo n).stop i H/\R H)\/((wM lo n).go i H/\∀ x H',(wM lo n).yld i H x H'->g x (l_ k fr σ) H' fun σ2 H2=>Wk (l_ k fr σ) σ2/\qw tt σ2 H2 fun c H3 =>
   if c=true then te σ2 H3 fun v H4=>H4 D=some (.lst ys)/\ys.length < sizeLine/\∃ m',m' < m/\W (i+1) m' (ys++[v]) (aA H4 D (.lst (ys++[v]))) else ∃ m',m' < m/\W (i+1) m' ys H3):=by
 refine ⟨fun i m ys H=>m=n - i/\i<=n/\Pv i ys H,⟨n,by simp,Nat.zero_le _,h0⟩,?_⟩;rintro i m ys H ⟨rfl,hi,p⟩
 by_cases hlt:i < n
 ·refine .inr ⟨hlt,fun x H' y=>?_⟩
  obtain ⟨e,y⟩:=y;subst e y;exact hs i ys _ hlt p
 ·have e:i=n:=by omega
  subst e;exact .inl ⟨Nat.le_refl _,hd ys H p⟩
theorem fK {α:Type} (x:α) (xs:List α):il (x :: xs) 0=some x:=bT (xs:=x :: xs) (j:=0) rfl
theorem qu {α:Type} (x y:α) (xs:List α):il (x :: y :: xs) 1=some y:=bT (xs:=x :: y :: xs) (j:=1) rfl
theorem wG {α:Type} (x y z:α) (xs:List α):il (x :: y :: z :: xs) 2=some z:=bT (xs:=x :: y :: z :: xs) (j:=2) rfl
theorem zw {α:Type} (x y z u:α) (xs:List α):il (x :: y :: z :: u :: xs) 3=some u:=bT (xs:=x :: y :: z :: u :: xs) (j:=3) rfl
section
variable {X:Cx}{pins:List (Addr×Obj)}{σ:St}{H:Hp}{s:Shared}
theorem Inv.relab {d:Addr}{u u':HO} (I:Inv X pins σ H s) (hd:H d=some u) (nt:∀ xs,u≠.tup xs) (no:∀ y,u≠.own y) (nb:∀ ps,u≠.tbl ps) (nf:∀ o v,X.H₀ d≠some (.frz o v)) (hx:bq X.prog X.w H s.heap d u'):Inv X pins σ (aA H d u') s:=by
 have ne:∀ b,H b=none->b≠d:=fun b e z=>by rw [z,hd] at e; cases e
 have st:∀ a v,bq X.prog X.w H s.heap a v->bq X.prog X.w (aA H d u') s.heap a v:=fun a v x=>x.stay (fun _ _ _ q=>q)
  (fun b q=>by rw [ag (fun z=>by rw [z,hd] at q; cases q; exact no _ rfl)]; exact q)
  (fun b xs q=>by rw [ag (fun z=>by rw [z,hd] at q; cases q; exact nt _ rfl)]; exact q)
 refine ⟨I.ok,I.os,I.bare,⟨I.base.keep,I.base.slot,fun b o e n hx=>?_,I.base.there,fun b xs e=>?_,fun b o v e=>?_,fun b ps e=>?_⟩,I.loc,I.cell,?_,fun x c e=>?_,fun p hp=>?_,fun a v e=>?_,I.len⟩
 ·have:=I.base.free b o e n hx
  rw [ag (ne b this)]; exact this
 ·have:=I.base.tups b xs e
  rw [ag (fun z=>by rw [z,hd] at this; cases this; exact nt _ rfl)]; exact this
 ·have:=I.base.frzs b o v e
  rw [ag (fun z=>nf o v (by rw [<- z]; exact e))]; exact this
 ·obtain ⟨more,this⟩:=I.base.tbls b ps e
  exact ⟨more,by rw [ag (fun z=>by rw [z,hd] at this; cases this; exact nb _ rfl)]; exact this⟩
 ·rw [ag (ne _ I.free)]; exact I.free
 ·rw [ag (ne _ (I.freeC x c e))]; exact I.freeC x c e
 ·obtain ⟨h1,h2,h3⟩:=I.pin p hp
  exact ⟨h1,by rw [ag (ne _ h2)]; exact h2,h3⟩
 ·by_cases z:a=d
  ·subst z; rw [upd_same] at e; cases e; exact st _ _ hx
  ·rw [ag z] at e; exact st a v (I.hok a v e)
theorem Inv.track {t:Addr}{o:HO} (I:Inv X pins σ H s) (h0:X.s₀.heap.objs.size<=t) (hL:t≠X.env.locals) (hc:∀ x c,X.env.cells.lookup x=some c->c≠t) (hp:∀ p∈X.pn++pins,p.1≠t) (hn:H t=none) (new:bq X.prog X.w (aA H t o) s.heap t o):Inv X pins σ (aA H t o) s:=by
 have ne:∀ b u,H b=some u->b≠t:=fun b u e z=>by rw [z,hn] at e; cases e
 refine ⟨I.ok,I.os,I.bare,⟨I.base.keep,I.base.slot,fun b o e n hx=>?_,I.base.there,fun b xs e=>?_,fun b o v e=>?_,fun b ps e=>?_⟩,I.loc,I.cell,?_,fun x c e=>?_,fun p hp'=>?_,fun a v e=>?_,I.len⟩
 ·rw [ag (fun z=>absurd (Heap.lt_size e) (Nat.not_lt.mpr (by rw [z]; exact h0)))]; exact I.base.free b o e n hx
 ·have:=I.base.tups b xs e
  rw [ag (ne _ _ this)]; exact this
 ·have:=I.base.frzs b o v e
  rw [ag (ne _ _ this)]; exact this
 ·obtain ⟨more,this⟩:=I.base.tbls b ps e
  exact ⟨more,by rw [ag (ne _ _ this)]; exact this⟩
 ·rw [ag (Ne.symm hL)]; exact I.free
 ·rw [ag (hc x c e)]; exact I.freeC x c e
 ·obtain ⟨h1,h2,h3⟩:=I.pin p hp'
  exact ⟨h1,by rw [ag (hp p hp')]; exact h2,h3⟩
 ·by_cases z:a=t
  ·subst z; rw [upd_same] at e; cases e; exact new
  ·rw [ag z] at e
   exact (I.hok a v e).stay (fun _ _ _ q=>q) (fun b q=>by rw [ag (ne _ _ q)]; exact q) fun b xs q=>by rw [ag (ne _ _ q)]; exact q
noncomputable def z5 (D:Ends) (d:Addr) (o:Obj) (kvs:List (bh×V)):Ends where
 nx:=fun σ H=>H d=some (.frz o (.dK kvs))/\D.nx σ (aA H d (.dK kvs))
 rt:=fun v H=>H d=some (.frz o (.dK kvs))/\D.rt v (aA H d (.dK kvs))
 bk:=fun σ H=>H d=some (.frz o (.dK kvs))/\D.bk σ (aA H d (.dK kvs))
 ct:=fun σ H=>H d=some (.frz o (.dK kvs))/\D.ct σ (aA H d (.dK kvs))
noncomputable def A7 (t:TS):TS:=fun D σ H=>∃ d kvs,H d=some (.dK kvs)/\∀ o,t (z5 D d o kvs) σ (aA H d (.frz o (.dK kvs)))
theorem yL {st:Stmt}{t:TS} (h:PS X st t):PS X st (A7 t):=by
 intro pins s σ H D I hw;obtain ⟨d,kvs,hd,k⟩:=hw;have nf:∀ o v,X.H₀ d≠some (.frz o v):=fun o v e=>by
  have:=I.base.frzs d o v e;rw [hd] at this; cases this
 have x:=I.hok d _ hd;obtain ⟨z,y,vs,r,ob,es,ep,e,c⟩:=id x;have I1:=I.relab hd (fun _ z=>nomatch z) (fun _ z=>nomatch z) (fun _ z=>nomatch z) nf (u':=.frz ob (.dK kvs)) ⟨e,x⟩;have th:∀ {σ':St}{H':Hp}{s':Shared},Inv X pins σ' H' s'->H' d=some (.frz ob (.dK kvs))->Inv X pins σ' (aA H' d (.dK kvs)) s':=fun {σ' H' s'} I' e' =>
  I'.relab e' (fun _ z=>nomatch z) (fun _ z=>nomatch z) (fun _ z=>nomatch z) nf (show bq _ _ _ _ _ _ from (I'.hok d _ e').2)
 refine bz (h pins s σ _ _ I1 (k ob)) fun f s1 q=>?_;cases f with
 | next=>obtain ⟨σ',H',I',e',q'⟩:=q; exact ⟨σ',_,th I' e',q'⟩
 | brk=>obtain ⟨σ',H',I',e',q'⟩:=q; exact ⟨σ',_,th I' e',q'⟩
 | cont=>obtain ⟨σ',H',I',e',q'⟩:=q; exact ⟨σ',_,th I' e',q'⟩
 | ret u=>obtain ⟨v,σ',H',I',rv,e',q'⟩:=q; exact ⟨v,σ',_,th I' e',rv,q'⟩
noncomputable def zr (d:Addr) (o:Obj) (kvs:List (bh×V)):It :=
 ⟨fun i H=>H d=some (.frz o (.dK kvs))/\i < kvs.length,fun i H x H'=>∃ k v t,kvs[i]? = some (k,v)/\H t=none/\x=.ref t/\H'=aA H t (.tup [kV k,v]),fun i H=>H d=some (.frz o (.dK kvs))/\kvs.length<=i⟩
theorem x6 {k:bh}{key:Value} (h:iw k key=true):RelV (kV k) key:=by
 rcases bE h with ⟨i,t,rfl,rfl⟩ | ⟨x,t,rfl,rfl⟩
 ·exact ⟨t,rfl⟩
 ·exact ⟨t,rfl⟩
theorem nL {P:Program}{w:World}{H:Hp}{h:Heap}{d:Addr}{o:Obj}{kvs:List (bh×V)}{es:Array DictEntry}{ep:Nat} (ok:ge P w H h) (e:H d=some (.frz o (.dK kvs))) (ho:o.data=.dict es ep):∃ vs,KV kvs vs/\h.DictAt (aY P w) d vs ep:=by
 obtain ⟨e1,_,_,vs,r,o',es',ep',e2,c2,d2,rest⟩:=(show bq P w H h d (.frz o (.dK kvs)) from ok d _ e);rw [e1] at e2; cases e2;rw [ho] at d2; cases d2;exact ⟨vs,r,o,es,e1,c2,ho,rest⟩
theorem lm {P:Program}{w:World}{K:Frag}{elts:List Expr}{kk:Nat}{pos:Pos} (d it:Addr) (o:Obj) (kvs:List (bh×V)) {es:Array DictEntry}{ep:Nat} (ho:o.data=.dict es ep) :
  Turn P w K (.Tuple elts kk pos) (zr d o kvs) [it] it (fun i h=>∃ ok ov,IsItemIter h it d i kvs.length ep ok ov) where
 mem:=by simp
 obj:=fun i h st b hb=>by
  have e:b=it:=by simpa using hb
  subst e;obtain ⟨ok,ov,e⟩:=st;exact ⟨_,e,fun v z=>by cases z⟩
 keep:=fun i h h' st k=>by
  obtain ⟨ok,ov,e⟩:=st;exact ⟨ok,ov,k it (by simp) _ e⟩
 item:=by
  intro X hP hw hK hc i pins s σ H E I hf st hg;subst hP hw hK;obtain ⟨hd,hi⟩:=hg;obtain ⟨ok,ov,he⟩:=st;obtain ⟨f0,f1,f2,f3,f4,f5⟩:=hf it (by simp);obtain ⟨vs,r,hm⟩:=nL I.hok hd ho;have hl:kvs.length=vs.length:=Paired.length r;have hit:it≠s.heap.objs.size:=Nat.ne_of_lt (Heap.lt_size he);obtain ⟨g1,g2,g3,g4,g5,g6⟩:=I.fpOk (Nat.le_refl s.heap.objs.size) (I.hok.fresh (Nat.le_refl _));obtain ⟨⟨k,v⟩,hkv⟩:∃ p,kvs[i]? = some p:=⟨_,List.getElem?_eq_getElem hi⟩;obtain ⟨⟨k',x⟩,hx⟩:∃ p,vs[i]? = some p:=⟨_,List.getElem?_eq_getElem (hl ▸ hi)⟩;obtain ⟨ek,rv⟩:=de (show Paired _ _ _ from r) hkv hx;have ek:k=k':=ek;subst ek;rw [hl] at he;refine wpAny_pyNext_items_item he hm hx fun key h' hkey hout hT hsz hk=>?_;refine ⟨_,rfl,wpAny_letOwnedTupleGo_items hout fun h2 he2 hs2=>?_⟩;have hT2:h2.get? s.heap.objs.size=some { cls:=.type "tuple",data:=.seq #[key,x] }:=hs2.extBut _ _ (Ne.symm hit) hT;have I1:Inv X pins σ H { s with heap:=h2,toks:=s.toks }:=I.turned (t':=s.toks) (fun b o hb e=>hs2.extBut b o hb (hk b o hb e)) f0 f1 f3 f4 f5;have g4':X.s₀.heap.objs.size<=s.heap.objs.size:=I.sz;have I2:=I1.track (t:=s.heap.objs.size) (o:=.tup [kV k,v]) g4' g2 g5 g6 g1 ⟨by show 2<=sizeLine; decide,[key,x],.cons (x6 hkey) (.cons rv .nil),⟨_,hT2,rfl,_,rfl⟩⟩;refine ⟨.ref s.heap.objs.size,_,I2,rfl,⟨k,v,_,hkv,g1,rfl,rfl⟩,⟨key,x,by rw [hl]; exact he2⟩,fun b hb=>?_⟩;have e:b=it:=by simpa using hb
  subst e;rw [ag hit]; exact f0
 done:=by
  intro X hP hw hK hc i pins s σ H E I hf st hg;subst hP hw hK;obtain ⟨hd,hi⟩:=hg;obtain ⟨ok,ov,he⟩:=st;obtain ⟨f0,f1,f2,f3,f4,f5⟩:=hf it (by simp);obtain ⟨vs,r,hm⟩:=nL I.hok hd ho;have hl:kvs.length=vs.length:=Paired.length r;rw [hl] at he;exact wpAny_pyNext_items_end (I.ok.hd hc) he hm (List.getElem?_eq_none_iff.mpr (by omega)) fun h' eb=>⟨rfl,I.turned (t':=s.toks) (fun b o hb e=>eb b o hb e) f0 f1 f3 f4 f5⟩
 self:=fun _ _ _ _ _ st h=>by
  obtain ⟨ok,ov,he⟩:=st;exact PySem.W.kcp_self he h
noncomputable def zd (tl:TE):TI:=fun σ H R=>tl σ H fun x H1=>∃ l d o kvs,x=.ref l/\H1 l=some (qv l d)/\H1 d=some (.frz o (.dK kvs))/\R (zr d o kvs) H1
theorem vW {l:Expr}{tl:TE}{elts:List Expr}{kk:Nat}{pos:Pos} (hl:PE X l tl):PI X (.Tuple elts kk pos) l (zd tl):=by
 intro pins s σ H R I h;refine bz (hl pins s σ H _ I h) fun v s1 ⟨x,H1,I1,r1,q1⟩=>?_;obtain ⟨l,d,o,kvs,e,hv,hd,q⟩:=q1;subst e;cases r1;obtain ⟨iv,_,_⟩:=(show bq X.prog X.w H1 s1.heap l (qv l d) from I1.hok l _ hv);obtain ⟨es,ep,ho⟩:∃ es ep,o.data=.dict es ep:=by
  obtain ⟨e1,_,_,vs,r,o',es',ep',e2,c2,d2,rest⟩:=(show bq X.prog X.w H1 s1.heap d (.frz o (.dK kvs)) from I1.hok d _ hd);rw [e1] at e2; cases e2;exact ⟨_,_,d2⟩
 obtain ⟨vs,r,hm⟩:=nL I1.hok hd ho;have hlen:kvs.length=vs.length:=Paired.length r;refine wpAny_pyIter_items iv hm ?_;refine ⟨s1.heap.objs.size,[s1.heap.objs.size],_,_,H1,rfl,I1.kept (t':=s1.toks) fun b o e=>Heap.get?_push_of_some _ e,lm d _ o kvs ho,⟨.none,.none,by rw [hlen]; exact Heap.get?_push_size _ rfl⟩,fun b hb=>?_,q⟩;have e:b=s1.heap.objs.size:=by simpa using hb
 subst e;exact I1.fpOk (Nat.le_refl _) (I1.hok.fresh (Nat.le_refl _))
noncomputable def yx (to:TE):TE:=fun σ H Q=>to σ H fun x H1=>∃ d kvs,x=.ref d/\Rd H1 d (.dK kvs)/\∀ v,H1 v=none->Q (.ref v) (aA H1 v (qv v d))
theorem vY {o:Expr}{to:TE}{apos cpos:Pos} (ho:PE X o to) (hbase:attributeBase o "items" X.env (eval o X.env)=eval o X.env:=by rfl) (hline:(apos.endLine==cpos.line)=true:=by rfl):PE X (.Call (.Attribute o "items" apos) [] [] cpos) (yx to):=by
 intro pins s σ H Q I h;refine wpAny_Call_method0_late hbase hline (bz (ho pins s σ H _ I h) fun v s1 ⟨x,H1,I1,r1,d,kvs,e,hd,q⟩=>?_);subst e;cases r1;obtain ⟨z,hm,vs,rel,dd⟩:=dL I1.hok hd;obtain ⟨ob,_,_,e1,ex,_⟩:=id dd;exact ⟨"dict","dict.items",PySem.F.plainAttrs_dict,PySem.F.slot_dict_items,PySem.F.type_dict_items,dd.typeIs,fun a e2=>by cases e2; exact ⟨ob,e1,ex.2.1⟩,
  Calls.callWith_builtin rfl (PySem.evalArgs_none (pN pins s1 σ H1 (.ref d) [] (.ref d) [] Q I1 rfl .nil ⟨d,kvs,rfl,rfl,hd,q⟩))⟩
theorem mY {d:Addr}{o:Obj}{kvs:List (bh×V)}{g:TG}{tb:TS}{D:Ends}{σ:St}{H:Hp} (Pv:Nat->St->Hp->Prop) (h0:Pv 0 σ H) (hl:∀ i σ H,i<=kvs.length->Pv i σ H->H d=some (.frz o (.dK kvs)))
  (hs:∀ i k v t σ H,kvs[i]? = some (k,v)->H t=none->Pv i σ H->g (.ref t) σ (aA H t (.tup [kV k,v])) fun σ2 H2=>tb { D with nx:=Pv (i+1),ct:=Pv (i+1),bk:=D.nx } σ2 H2) (hd:∀ σ H,Pv kvs.length σ H->D.nx σ H) :
  ∃ W:Nat->Nat->St->Hp->Prop,(∃ m,W 0 m σ H)/\∀ i m σ H,W i m σ H ->
   ((zr d o kvs).stop i H/\D.nx σ H)\/((zr d o kvs).go i H/\∃ N:St->Hp->Prop,(∀ σ' H',N σ' H'->∃ m',m' < m/\W (i+1) m' σ' H')/\∀ x H',(zr d o kvs).yld i H x H'->g x σ H' fun σ2 H2=>tb { D with nx:=N,ct:=N,bk:=D.nx } σ2 H2):=by
 refine ⟨fun i m σ H=>m=kvs.length - i/\i<=kvs.length/\Pv i σ H,⟨kvs.length,by simp,Nat.zero_le _,h0⟩,?_⟩;rintro i m σ H ⟨rfl,hi,p⟩
 by_cases z:i < kvs.length
 ·refine .inr ⟨⟨hl i σ H hi p,z⟩,Pv (i+1),fun σ' H' p'=>⟨kvs.length - (i+1),by omega,rfl,z,p'⟩,fun x H' y=>?_⟩
  obtain ⟨k,v,t,h1,h2,rfl,rfl⟩:=y;exact hs i k v t σ H h1 h2 p
 ·have e:i=kvs.length:=by omega
  subst e;exact .inl ⟨⟨hl _ σ H hi p,Nat.le_refl _⟩,hd σ H p⟩
inductive LOf (K:Frag) (H:Hp) (p:Addr):List V->Prop where
 | lst {ys:List V} (h:a9 K H p ys):LOf K H p ys
 | tup {ys:List V} (h:bu K H p ys):LOf K H p ys
 | key {kvs:List (bh×V)} (h:Rd H p (.dK kvs)):LOf K H p (kvs.map fun q=>kV q.1)
theorem fT (hc:X.calm=true:=by rfl):cE X (.type "list") (fun xs H Q=>∃ p ys,xs=[.ref p]/\LOf X.K H p ys/\∀ l,H l=none->Q (.ref l) (aA H l (.lst ys))):=by
 intro pins s σ H xs us Q I r h;obtain ⟨p,ys,rfl,lo,q⟩:=h;cases lo with
 | lst z=>exact iW pins s σ H _ us Q I r ⟨p,ys,rfl,.inl z,q⟩
 | tup z=>exact iW pins s σ H _ us Q I r ⟨p,ys,rfl,.inr z,q⟩
 | @key kvs z =>
  obtain ⟨u,rfl,ru⟩:=fY r;cases ru;obtain ⟨hz,lo,vs,rel,dd⟩:=dL I.hok z;obtain ⟨ep,da⟩:=dd.dictAt;have hl:kvs.length=vs.length:=Paired.length rel;refine PySem.W.kdl_call (PySem.W.kdl_dict (knd:=aY X.prog X.w) (kvs:=vs) (ep:=ep) lo) (I.ok.hd hc) da (by omega) fun h' tk acc c k hL hacc=>?_;have hn:=I.hok.fresh (Nat.le_refl s.heap.objs.size);refine ⟨.ref s.heap.objs.size,_,I.laid (t':=tk) (o:=.lst (kvs.map fun q=>kV q.1)) k (Nat.le_refl _) ⟨by rw [List.length_map]; exact hz,acc.toList,c,?_,by simpa using hL⟩,rfl,q _ hn⟩;have ha:acc.toList.length=vs.length:=by rw [Array.length_toList]; exact hacc.1
  refine gD (by rw [List.length_map]; omega) fun j a b h1 h2=>?_;obtain ⟨kk,xx,h3,h4⟩:=hacc.2 j b (by rw [<- Array.getElem?_toList]; exact h2);rw [List.getElem?_map] at h1;cases e:kvs[j]? with
  | none=>rw [e] at h1; cases h1
  | some pr =>
   rw [e] at h1; cases h1;have:=de (show Paired _ _ _ from rel) e h3;show RelV (kV pr.1) b;rw [show pr.1=kk from this.1];exact x6 h4
theorem rF:cE X (.type "dict") (fun xs H Q=>∃ a kvs,xs=[.ref a]/\Rd H a (.dK kvs)/\∀ p,H p=none->Q (.ref p) (aA H p (.dK kvs))):=by
 intro pins s σ H xs us Q I r h;obtain ⟨a,kvs,rfl,hr,q⟩:=h;obtain ⟨u,rfl,ru⟩:=fY r;cases ru;exact wy I hr fun p s' hp I'=>⟨.ref p,_,I',rfl,q p hp⟩
theorem yc {K:Frag} (hu:X.A.units+1 < cLine) (hK:X.K=K:=by rfl):zq X (fun x y H Q=>∃ v,Item K H x y v/\Q v H):=by subst hK; exact ba hu
end
section
variable {prog:Program}{w:World}{A:Around}{E:Value->Shared->Prop}{s:Shared}
end
section
variable {X:Cx}
end
structure Psd (F R:List Addr) (h h':Heap):Prop where
 kp:∀ b o,h.get? b=some o->b∉R->b∉F->h'.get? b=some o
 sl:∀ b o,h.get? b=some o->b∉R->∃ z,h'.get? b=some { o with slots:=z }
theorem Psd.trans {F R:List Addr}{h1 h2 h3:Heap} (x:Psd F R h1 h2) (y:Psd F R h2 h3):Psd F R h1 h3 :=
 ⟨fun b o e r f=>y.kp b o (x.kp b o e r f) r f,fun b o e r=>let ⟨_,e1⟩:=x.sl b o e r; let ⟨z,e2⟩:=y.sl b _ e1 r; ⟨z,e2⟩⟩
theorem Psd.mono {F F' R R':List Addr}{h h':Heap} (x:Psd F R h h') (hF:∀ b∈F,b∈F') (hR:∀ b∈R,b∈R'):Psd F' R' h h' :=
 ⟨fun b o e r f=>x.kp b o e (fun z=>r (hR b z)) (fun z=>f (hF b z)),fun b o e r=>x.sl b o e fun z=>r (hR b z)⟩
noncomputable def Xc (h:Heap) (e T:Addr) (cls fl:Value):Prop:=∃ oe vs oT ts,h.get? e=some oe/\oe.cls=cls/\oe.data=.fields vs/\vs[1]? = some (.ref T)/\T≠e/\h.get? T=some oT/\oT.data=.fields ts/\ts[3]? = some fl
theorem Xc.cls {h:Heap}{e T:Addr}{cls fl:Value} (x:Xc h e T cls fl):∃ oe,h.get? e=some oe/\oe.cls=cls:=let ⟨oe,_,_,_,a,b,_⟩:=x; ⟨oe,a,b⟩
abbrev Bw (hd:Value) (L:Addr) (pl:List Value):Obj:={ cls:=.type "traceback",dict:=none,data:=.fields ([hd,.ref L,.none,rawInt L,.none]++(if pl.isEmpty then List.replicate 6 Value.none else pl)).toArray }
section
variable {M:Model}{A:Around}{E:Value->Shared->Prop}{s:Shared}
theorem rS {base:Heap}{env:Env}{outer:List Env}{L e:Addr}{oe:Obj}{vs:Array Value}{hd:Value}{nx:Bool}{Q:Unit->Shared->Prop}
  (hA:A.frames=some (env :: outer)) (fr:s.heap.FunFrames base (env :: outer)) (hL:env.frame=some L) (he:s.heap.get? e=some oe) (hv:oe.data=.fields vs) (h2:1 < vs.size)
  (q:∀ h' T,s.heap.objs.size<=T->Xc h' e T oe.cls (rawInt L)->Psd (mF (env :: outer)) [e] s.heap h'->Q () { s with heap:=h' }) :
  wpAny M A (do let a <- frameOf env; let p <- entryPlaceOf L nx; let b <- EntryCells.newEntry hd a .none (rawInt L) .none p; setField (.ref e) 1 b) Q E s:=by
 have nf:e∉mF (env :: outer):=fun m=>by
  obtain ⟨_,o,ho,hn⟩:=fr.mem m;rw [he] at ho; cases ho; exact hn vs hv
 refine wpAny_bind (wpAny_frameOf_fun hA fr hL fun g hg=>?_);refine wpAny_bind (wpAny_entryPlaceOf fun p hp=>?_);unfold EntryCells.newEntry newFields;refine wpAny_bind (wpAny_newObj_type ?_ (hp.sizeOk5 _ _ _ _ _));have e1:g.get? e=some oe:=(hg.2.1 e nf).trans he;have e2:=Heap.get?_push_of_some (h:=g) (Bw hd L p) e1;have te:g.objs.size≠e:=Nat.ne_of_gt (Heap.lt_size e1);have d3:=Obj.data_mapFields hv (·.setIfInBounds 1 (Value.ref g.objs.size));refine wpAny_setField e2 hv h2 (q _ g.objs.size (Nat.le_of_eq hg.1.symm) ?_ ⟨fun b o eb hb hf=>?_,fun b o eb hb=>?_⟩)
 ·refine ⟨_,_,_,_,Heap.get?_update_self _ e2 (Obj.isFreed_of_fields d3),Obj.cls_mapFields _ _,d3,by simp [h2],te,(Heap.get?_update_other (g.push (Bw hd L p)) _ (Ne.symm te)).trans (Heap.get?_push_size g rfl),rfl,?_⟩
  first | (simp; done) | (rcases hp with rfl | ⟨_,_,_,_,_,_,_,rfl⟩<;>simp)
 ·have hbe:b≠e:=fun z=>hb (by simp [z])
  rw [Heap.get?_update_other _ _ (Ne.symm hbe)];exact Heap.get?_push_of_some _ ((hg.2.1 b hf).trans eb)
 ·have hbe:b≠e:=fun z=>hb (by simp [z])
  obtain ⟨z,ez⟩:=hg.2.2 b o eb;exact ⟨z,by rw [Heap.get?_update_other _ _ (Ne.symm hbe)]; exact Heap.get?_push_of_some _ ez⟩
theorem nH {e T:Addr}{cls fl:Value}{Q:Unit->Shared->Prop} (x:Xc s.heap e T cls fl) (q:∀ h',Xc h' e T cls .none->Psd [] [T] s.heap h'->Q () { s with heap:=h' }):wpAny M A (setFlight (.ref e) none) Q E s:=by
 obtain ⟨oe,vs,oT,ts,he,hc,hd,h1,hT,ht,dt,h3⟩:=x;have n3:3 < ts.size:=(Array.getElem?_eq_some_iff.mp h3).1;have o:∀ b,b≠T->(s.heap.update T (Obj.mapFields (·.setIfInBounds 3 .none))).get? b=s.heap.get? b:=fun b hb=>Heap.get?_update_other _ _ (Ne.symm hb);refine wpAny_setFlight_none he hd h1 ht dt n3 (q _ ⟨oe,vs,_,_,(o e (Ne.symm hT)).trans he,hc,hd,h1,hT,Heap.get?_update_self _ ht (Obj.isFreed_of_fields (Obj.data_mapFields dt _)),Obj.data_mapFields dt _,by simp [n3]⟩ ⟨fun b u eb hb _=>?_,fun b u eb hb=>?_⟩)
 ·exact (o b fun z=>hb (by simp [z])).trans eb
 ·exact ⟨u.slots,(o b fun z=>hb (by simp [z])).trans eb⟩
theorem wU {base:Heap}{env:Env}{outer:List Env}{L e:Addr}{oe:Obj}{vs:Array Value}{Q:Unit->Shared->Prop} (hA:A.frames=some (env :: outer)) (fr:s.heap.FunFrames base (env :: outer)) (hL:env.frame=some L)
  (he:s.heap.get? e=some oe) (hv:oe.data=.fields vs) (h1:vs[1]? = some .none) (q:∀ h' T,s.heap.objs.size<=T->Xc h' e T oe.cls (rawInt L)->Psd (mF (env :: outer)) [e] s.heap h'->Q () { s with heap:=h' }) :
  wpAny M A (noteFrame (.ref e) env) Q E s:=by
 unfold noteFrame;simp only [hL];refine wpAny_bind (wpAny_field he hv h1 ?_);rw [if_neg (by decide)];exact rS hA fr hL he hv (Array.getElem?_eq_some_iff.mp h1).1 q
theorem u3 {base:Heap}{env:Env}{outer:List Env}{L e T:Addr}{cls:Value}{Q:Unit->Shared->Prop} (hA:A.frames=some (env :: outer)) (fr:s.heap.FunFrames base (env :: outer)) (hL:env.frame=some L)
  (x:Xc s.heap e T cls .none) (q:∀ h' T',s.heap.objs.size<=T'->Xc h' e T' cls (rawInt L)->Psd (mF (env :: outer)) [e,T] s.heap h'->Q () { s with heap:=h' }):wpAny M A (noteFrame (.ref e) env) Q E s:=by
 obtain ⟨oe,vs,oT,ts,he,hc,hd,h1,hT,ht,dt,h3⟩:=x;subst hc;unfold noteFrame;simp only [hL];refine wpAny_bind (wpAny_field he hd h1 ?_);rw [if_pos (show (Value.ref T != Value.none)=true by simp)];refine wpAny_bind (wpAny_field ht dt h3 ?_);rw [if_neg (show ¬ (Value.none==rawInt L)=true by simp [rawInt])];refine wpAny_bind (wpAny_setField ht dt (Array.getElem?_eq_some_iff.mp h3).1 ?_);have o:∀ b,b≠T->(s.heap.update T (Obj.mapFields (·.setIfInBounds 3 Value.none))).get? b=s.heap.get? b:=fun b hb=>Heap.get?_update_other _ _ (Ne.symm hb);have p:Psd (mF (env :: outer)) [e,T] s.heap (s.heap.update T (Obj.mapFields (·.setIfInBounds 3 Value.none))) :=
  ⟨fun b u eb hb _=>(o b fun z=>hb (by simp [z])).trans eb,fun b u eb hb=>⟨u.slots,(o b fun z=>hb (by simp [z])).trans eb⟩⟩
 refine rS hA (fr.of_keeps fun b u eb hn=>⟨u,(o b fun z=>?_).trans eb,rfl⟩) hL ((o e (Ne.symm hT)).trans he) hd (Array.getElem?_eq_some_iff.mp h1).1 fun h' T' hs x' p'=>q h' T' ?_ x' (p.trans (p'.mono (fun _ z=>z) fun b z=>by simp at z; simp [z]))
 ·rw [z,ht] at eb; cases eb; exact hn ts dt
 ·have:(s.heap.update T (Obj.mapFields (·.setIfInBounds 3 Value.none))).objs.size=s.heap.objs.size:=Heap.size_after_update ..
  exact this ▸ hs
end
theorem bq.here {P:Program}{w:World}{H:Hp}{h:Heap}{a:Addr}{o:HO} (x:bq P w H h a o):∃ u,h.get? a=some u:=by
 cases o with
 | lst xs=>obtain ⟨_,_,_,_,e⟩:=x; exact ⟨_,e⟩
 | tup xs=>obtain ⟨_,_,_,ob,e,_⟩:=x; exact ⟨_,e⟩
 | dK kvs=>obtain ⟨_,_,_,_,o,_,_,e,_⟩:=x; exact ⟨_,e⟩
 | dT kvs=>obtain ⟨_,_,_,_,o,_,_,e,_⟩:=x; exact ⟨_,e⟩
 | set S n=>obtain ⟨o,_,_,_,e,_⟩:=x; exact ⟨_,e⟩
 | ins C dx fs=>obtain ⟨_,_,_,e,_⟩:=x; exact ⟨_,e⟩
 | own y=>exact x
 | xd fs=>obtain ⟨_,⟨_,_,_,e,_⟩,_⟩:=x; exact ⟨_,e⟩
 | rng lo hi=>obtain ⟨_,_,_,e⟩:=x; exact ⟨_,e⟩
 | frz ob u=>exact ⟨_,x.1⟩
 | tbl ps=>exact ⟨_,x⟩
 | met f y=>exact ⟨_,x⟩
 | ext φ=>exact x.2.1
theorem ge.no {P:Program}{w:World}{H:Hp}{h:Heap}{a:Addr} (x:ge P w H h) (n:h.get? a=none):H a=none:=by
 cases e:H a with
 | none=>rfl
 | some o=>obtain ⟨u,q⟩:=(x a o e).here; rw [n] at q; cases q
section
variable {X:Cx}{pins:List (Addr×Obj)}{σ:St}{H:Hp}{s:Shared}{h':Heap}
noncomputable def gO (X:Cx) (pins:List (Addr×Obj)) (H:Hp) (r:Addr):Prop:=H r=none/\X.s₀.heap.get? r=none/\r≠X.env.locals/\(∀ x c,X.env.cells.lookup x=some c->c≠r)/\∀ p∈X.pn++pins,p.1≠r
theorem Inv.alien (I:Inv X pins σ H s) (hx:X.ex=[]) {r:Addr} (n:s.heap.get? r=none) {H':Hp} (z:H' r=none):gO X pins H' r:=by
 refine ⟨z,?_,fun e=>?_,fun x c e w=>?_,fun p hp w=>?_⟩
 ·cases q:X.s₀.heap.get? r with
  | none=>rfl
  | some o =>
   obtain ⟨o',e⟩:=I.base.there r o q (by rw [hx]; simp);rw [n] at e; cases e
 ·obtain ⟨m,⟨o,_,_,ho,_⟩,_⟩:=I.loc
  rw [<- e,n] at ho; cases ho
 ·obtain ⟨v,o,ho,_⟩:=I.cell x c e
  rw [w,n] at ho; cases ho
 ·have:=(I.pin p hp).1
  rw [w,n] at this; cases this
theorem Inv.psd {R:List Addr} (I:Inv X pins σ H s) (p:Psd (mF X.stack) R s.heap h') (hR:∀ r∈R,gO X pins H r):Inv X pins σ H { s with heap:=h' }:=by
 have kp:∀ b o,s.heap.get? b=some o->b∉R->b≠X.env.locals->b∉X.fs->h'.get? b=some o:=fun b o e r l f=>p.kp b o e r fun z=>(List.mem_cons.mp (I.stkSub b z)).elim l f;have neR:∀ b o,X.s₀.heap.get? b=some o->b∉R:=fun b o e z=>by rw [(hR b z).2.1] at e; cases e
 have neL:∀ b o,X.s₀.heap.get? b=some o->b≠X.env.locals:=fun b o e=>Nat.ne_of_lt (Nat.lt_of_lt_of_le (Heap.lt_size e) I.ok.above);have tr:∀ b u,H b=some u->b∉R/\b∉mF X.stack:=fun b u e=>⟨(fun z=>by rw [(hR b z).1] at e; cases e),(fun z=>by rw [I.stkFree b z] at e; cases e)⟩;have hok:ge X.prog X.w H h':=fun a o e=>(I.hok a o e).stay (fun b u hb q=>by
  have hb':∃ u,H b=some u:=by
   rcases hb with rfl | z
   ·exact ⟨_,e⟩
   ·exact ⟨_,z⟩
  obtain ⟨u',hu⟩:=hb';exact p.kp b u q (tr b u' hu).1 (tr b u' hu).2) (fun _ z=>z) fun _ _ z=>z
 refine ⟨I.ok,I.os,I.bare,⟨fun b o e n hb hx=>?_,fun b o e n hb hx=>?_,I.base.free,fun b o e hx=>?_,I.base.tups,I.base.frzs,I.base.tbls⟩,?_,fun x c e=>?_,I.free,I.freeC,fun q hq=>?_,hok,I.len⟩
 ·exact kp b o (I.base.keep b o e n hb hx) (neR b o e) (neL b o e) hb
 ·obtain ⟨z,e1⟩:=I.base.slot b o e n hb hx
  obtain ⟨z',e2⟩:=p.sl b _ e1 (neR b o e);exact ⟨z',e2⟩
 ·obtain ⟨o',e1⟩:=I.base.there b o e hx
  obtain ⟨z,e2⟩:=p.sl b o' e1 (neR b o e);exact ⟨_,e2⟩
 ·obtain ⟨m,hn,hl⟩:=I.loc
  refine ⟨m,?_,fun i x v e1 e2 e3=>?_⟩
  ·obtain ⟨o,es,ep,ho,r⟩:=hn
   obtain ⟨z,e⟩:=p.sl _ o ho fun w=>(hR _ w).2.2.1 rfl;exact ⟨_,es,ep,e,r⟩
  ·obtain ⟨u,r,l⟩:=hl i x v e1 e2 e3
   refine ⟨u,r,?_⟩;rcases l with l | ⟨k,c,e,o,ho,hd⟩
   ·exact .inl l
   ·obtain ⟨z,e'⟩:=p.sl c o ho fun w=>(hR c w).2.2.2.1 x c e rfl
    exact .inr ⟨k,c,e,_,e',hd⟩
 ·obtain ⟨v,o,ho,hd⟩:=I.cell x c e
  obtain ⟨z,e'⟩:=p.sl c o ho fun w=>(hR c w).2.2.2.1 x c e rfl;exact ⟨v,_,e',hd⟩
 ·obtain ⟨e,n,ne,nf,d⟩:=I.pin q hq
  exact ⟨kp q.1 q.2 e (fun w=>(hR _ w).2.2.2.2 q hq rfl) ne nf,n,ne,nf,d⟩
end
theorem s_ {K:Frag}{h:Heap}{mg:Str->Option Value}{x:Str}{C:Addr}{bm:List Value}{newId:String} (X:K.In h) (e:mg x=some (.ref C)) (q:PySem.W.excIn K C bm newId=true):OwnCls x C bm newId mg h:=by
 refine ⟨e,?_⟩;unfold PySem.W.excIn at q;split at q
 case h_1 dd cd sl ho =>
  split at q
  case h_1 C1 b1 j0 j1 j2 j3 n j5 hm hs =>
   simp only [Bool.and_eq_true,beq_iff_eq,Bool.not_eq_true'] at q;obtain ⟨⟨⟨⟨⟨rfl,rfl⟩,hdel⟩,ht⟩,hok⟩,hni⟩:=q;obtain ⟨nm,bs,mro,ns,qn,hd,sn,sub,ab,col,del⟩:=cd;dsimp only at hm hdel hok hni;subst hm hdel;obtain ⟨l⟩:=sl;have hl:l=[j0,j1,j2,j3,some (.builtin n),j5]:=hs;subst hl;exact ⟨b1,ns,nm,qn,bs,hd,sn,sub,ab,col,dd,j0,j1,j2,j3,j5,_,X _ _ ho,.of_isNs (PySem.W.isNs_of_in X hok),PySem.W.nsMap_none_of_in X hok hni,PySem.W.tail_of_in X ht⟩
  case h_2=>cases q
 case h_2=>cases q
noncomputable def o9 (P:Program) (w:World):uO:=fun outer H s E e s'=>∃ ea T cls H',e=.ref ea/\s'.os=s.os/\AllBare s'.gens/\Un (mF outer) [] H H' s.heap s'.heap/\ge P w H' s'.heap /\
 s.heap.get? ea=none/\s.heap.get? T=none/\H' ea=none/\H' T=none/\Xc s'.heap ea T cls .none/\E cls none H'
section
variable {X:Cx}{pins:List (Addr×Obj)}{σ:St}{H:Hp}{s:Shared}
theorem u4 {E:XK}{ea T:Addr}{cls:Value} (I:Inv X pins σ H s) (hx:X.ex=[]) (hs:X.stack=X.env :: X.outer) (ha:gO X pins H ea) (hT:gO X pins H T) (x:Xc s.heap ea T cls .none) (hE:E cls none H) :
  o9 X.prog X.w X.outer X.H₀ X.s₀ E (.ref ea) s:=by
 refine ⟨ea,T,cls,H,rfl,I.os,I.bare,?_,I.hok,ha.2.1,hT.2.1,ha.1,hT.1,x,hE⟩;have:=I.base;rw [hx] at this;exact this
theorem vB {E:XK}{ea T:Addr}{cls:Value}{Ea:Value->Shared->Prop} (I:Inv X pins σ H s) (hx:X.ex=[]) (hs:X.stack=X.env :: X.outer) (hf:X.env.frame=some X.env.locals) (ha:gO X pins H ea) (hT:gO X pins H T) (x:Xc s.heap ea T cls .none) (hE:E cls none H) :
  wpAny (model X.prog X.w) X.A (leaving X.env (.ref ea)) (fun _ s'=>o9 X.prog X.w X.outer X.H₀ X.s₀ E (.ref ea) s') Ea s:=by
 unfold leaving;have fr:X.A.frames=some (X.env :: X.outer):=by rw [I.ok.frames,hs]
 refine wpAny_bind (u3 fr (by rw [<- hs]; exact I.stack) hf x fun h1 T1 hT1 x1 p1=>?_);have I1:=I.psd (by rw [hs]; exact p1) (fun r hr=>by simp at hr; rcases hr with rfl | rfl<;>assumption);have a1:gO X pins H T1:=I.alien hx (Heap.get?_none_of_le hT1) (I.hok.fresh hT1);refine nH (s:={ s with heap:=h1 }) x1 fun h2 x2 p2=>?_;have I2:=I1.psd (p2.mono (by simp) fun b z=>z) (fun r hr=>by simp at hr; rw [hr]; exact a1);exact u4 I2 hx hs ha a1 x2 hE
theorem d9 {E:XK} (hx:X.ex=[]:=by rfl) (hs:X.stack=X.env :: X.outer:=by rfl) (hf:X.env.frame=some X.env.locals:=by rfl)
  (he:∀ e s',wpAny (model X.prog X.w) X.A (leaving X.env e) (fun _ s''=>o9 X.prog X.w X.outer X.H₀ X.s₀ E e s'') (fun e' s''=>o9 X.prog X.w X.outer X.H₀ X.s₀ E e' s'') s'->X.xe e s':=by exact fun _ _ h=>h):d7 (o9 X.prog X.w) X E:=by
 intro pins σ H s e s' I hcx;obtain ⟨ea,T,cls,H',rfl,os,bare,un,hok,n1,n2,z1,z2,x,hE⟩:=hcx;have I':Inv X pins σ H' s':=I.call' os un hok bare (fun b z=>nomatch z);exact he _ _ (vB I' hx hs hf (I.alien hx n1 z1) (I.alien hx n2 z2) x hE)
noncomputable def yv (C:Addr) (E:XK) (t:TA):TS:=fun _ σ H=>t σ H fun vs H1=>vs.length<=sizeLine/\E (.ref C) none H1
theorem vU {E:XK}{x:Str}{C:Addr}{B newId initId:String}{bm:List Value}{e₀:Expr}{es:List Expr}{t:TA}{np cpos pos:Pos} (hm:X.mg x=some (.ref C)) (hq:PySem.W.excIn X.K C bm newId=true) (FB:ExcBaseFacts B newId initId bm) (hc:X.calm=true) (hg:Gl X x) (ha:PA X (e₀ :: es) t)
  (hx:X.ex=[]:=by rfl) (hs:X.stack=X.env :: X.outer:=by rfl) (hf:X.env.frame=some X.env.locals:=by rfl)
  (he:∀ e s',wpAny (model X.prog X.w) X.A (leaving X.env e) (fun _ s''=>o9 X.prog X.w X.outer X.H₀ X.s₀ E e s'') (fun e' s''=>o9 X.prog X.w X.outer X.H₀ X.s₀ E e' s'') s'->X.xe e s':=by exact fun _ _ h=>h)
  (hst:starEach (e₀ :: es) X.env=(false,eval e₀ X.env) :: starEach es X.env:=by rfl) (hpl:(backTo cpos (starEach es X.env)).any (·.1)=false:=by rfl) (hd:(x==("__debug__":Str))=false:=by decide) :
  PS X (.Raise (some (.Call (.Name x np) (e₀ :: es) [] cpos)) none pos) (yv C E t):=by
 intro pins s σ H D I h;have O:=s_ I.ok.mod.kin hm hq;obtain ⟨tl,N,nm,q,bs,hdct,sn,sub,ab,col,dd,k0,k1,k2,k3,k5,mN,hC,hN,hni,T⟩:=O.obj;refine wpAny_Raise_call_subT (C:=C) (nm:=nm) (q:=q) (N:=N) (bs:=bs) (bm:=tl) (hdct:=hdct) (sn:=sn) (sub:=sub) (ab:=ab) (col:=col) (dd:=dd) (k0:=k0) (k1:=k1) (k2:=k2) (k3:=k3) (k5:=k5)
  FB (mN:=mN) (T.hasType FB.hasBase) (I.ok.hd hc) (by rw [hst]; show (false || (backTo cpos (starEach es X.env)).any (·.1))=false; rw [hpl]; rfl) hni (kB I hg O.bound ⟨rfl,?_⟩ hd)
 have ha':=ha cpos pins s σ H _ I h;rw [hst] at ha' ⊢;refine Calls.evalArgs_plain (bz ha' fun us s1 ⟨vs,H1,I1,r,hz,hE⟩=>⟨rfl,by rw [<- Paired.length r]; exact hz,I1.bk _ _ hC,hN.keeps I1.bk,T.keeps I1.bk,fun h' e mx=>he _ _ ?_⟩);obtain ⟨t0,e1,_,_⟩:=mx.there;have I2:Inv X pins σ H1 { s1 with heap:=h' }:=I1.kept (t':=s1.toks) mx.keeps;have ae:gO X pins H1 e:=I1.alien hx mx.new (I1.hok.no mx.new);unfold leaving;have fr:X.A.frames=some (X.env :: X.outer):=by rw [I.ok.frames,hs]
 refine wpAny_bind (wU (s:={ s1 with heap:=h' }) fr (by rw [<- hs]; exact I2.stack) hf e1 rfl rfl fun h1 T1 hT1 x1 p1=>?_);have I3:=I2.psd (by rw [hs]; exact p1) (fun r hr=>by simp at hr; rw [hr]; exact ae);have a1:gO X pins H1 T1:=I2.alien hx (Heap.get?_none_of_le hT1) (I2.hok.fresh hT1);refine nH (s:={ s1 with heap:=h1 }) x1 fun h2 x2 p2=>?_;have I4:=I3.psd (p2.mono (by simp) fun b z=>z) (fun r hr=>by simp at hr; rw [hr]; exact a1);exact u4 I4 hx hs ae a1 x2 hE
end
section
variable {X:Cx}{pins:List (Addr×Obj)}{σ:St}{H:Hp}{s:Shared}
theorem Inv.into (I:Inv X pins σ H s) (xe:Value->Shared->Prop):Inv { X with pn:=X.pn++pins,xe:=xe } [] σ H s :=
 ⟨⟨I.ok.mod,I.ok.kind,I.ok.glob,I.ok.blt,I.ok.above,I.ok.inj,I.ok.has,I.ok.cab,I.ok.hd,I.ok.frames,I.ok.stk,I.ok.exf,I.ok.bs,I.ok.bsz,I.ok.noex,I.ok.exfs,I.ok.funs,I.ok.frf⟩,I.os,I.bare,I.base,I.loc,I.cell,I.free,I.freeC,fun p hp=>I.pin p (by simpa using hp),I.hok,I.len⟩
theorem Inv.outof {pn pins':List (Addr×Obj)}{xe:Value->Shared->Prop} (hp:pn=X.pn++pins) (I:Inv { X with pn:=pn,xe:=xe } pins' σ H s):Inv X pins σ H s :=
 ⟨⟨I.ok.mod,I.ok.kind,I.ok.glob,I.ok.blt,I.ok.above,I.ok.inj,I.ok.has,I.ok.cab,I.ok.hd,I.ok.frames,I.ok.stk,I.ok.exf,I.ok.bs,I.ok.bsz,I.ok.noex,I.ok.exfs,I.ok.funs,I.ok.frf⟩,I.os,I.bare,I.base,I.loc,I.cell,I.free,I.freeC,fun p q=>I.pin p (List.mem_append_left _ (by show p∈pn; rw [hp]; exact q)),I.hok,I.len⟩
abbrev Cx.caught (X:Cx) (e:Addr):Cx:={ X with A:=X.A.mark (some (.ref e)),calm:=false,xe:=fun _ _=>False }
theorem Inv.catch (I:Inv X pins σ H s) (e:Addr):Inv (X.caught e) pins σ H s :=
 ⟨⟨I.ok.mod,I.ok.kind,I.ok.glob,I.ok.blt,I.ok.above,I.ok.inj,I.ok.has,I.ok.cab,(fun z=>nomatch z),I.ok.frames,I.ok.stk,I.ok.exf,I.ok.bs,I.ok.bsz,I.ok.noex,I.ok.exfs,I.ok.funs,I.ok.frf⟩,I.os,I.bare,I.base,I.loc,I.cell,I.free,I.freeC,I.pin,I.hok,I.len⟩
theorem Inv.uncatch {e:Addr} (hd:X.calm=true->X.A.handled=none) (hfr:X.A.frames=some X.stack) (I:Inv (X.caught e) pins σ H s):Inv X pins σ H s :=
 ⟨⟨I.ok.mod,I.ok.kind,I.ok.glob,I.ok.blt,I.ok.above,I.ok.inj,I.ok.has,I.ok.cab,hd,hfr,I.ok.stk,I.ok.exf,I.ok.bs,I.ok.bsz,I.ok.noex,I.ok.exfs,I.ok.funs,I.ok.frf⟩,I.os,I.bare,I.base,I.loc,I.cell,I.free,I.freeC,I.pin,I.hok,I.len⟩
end
section
variable {X:Cx}
noncomputable def u5 (C:Addr) (ts:TS) (D:Ends) (n:Nat):XK:=fun cls _ H=>cls=.ref C/\∀ σ:St,σ.length=n->ts D σ H
noncomputable def AX (C:Addr) (tb:XK->TS) (ts:TS):TS:=fun D σ H=>tb (u5 C ts D σ.length) D σ H
theorem yJ {x:Str}{C:Addr}{newId:String}{bm:List Value}{body:List Stmt}{b₀:Stmt}{suite:List Stmt}{tb:XK->TS}{ts:TS}{np hp pos:Pos} (hm:X.mg x=some (.ref C)) (hq:PySem.W.excIn X.K C bm newId=true) (hbase:bm.contains (.type "BaseException")=true) (hg:Gl X x)
  (hb:∀ (pn:List (Addr×Obj)) (xe:Value->Shared->Prop) (E:XK),d7 (o9 X.prog X.w) { X with pn:=pn,xe:=xe } E->gI { X with pn:=pn,xe:=xe } body (tb E))
  (hh:∀ e,gI (X.caught e) (b₀ :: suite) ts)
  (hx:X.ex=[]:=by rfl) (hs:X.stack=X.env :: X.outer:=by rfl) (hf:X.env.frame=some X.env.locals:=by rfl) (hd:(x==("__debug__":Str))=false:=by decide) :
  PS X (.Try body [.ExceptHandler (some (.Name x np)) none (b₀ :: suite) hp] [] [] pos) (AX C tb ts):=by
 intro pins s σ H D I hw;have O:=s_ I.ok.mod.kin hm hq;refine wpAny_Try_except ?_;generalize hxe:(fun (e:Value) (s₁:Shared)=>wpAny (model X.prog X.w) X.A (noteFrame e X.env) (fun _ s₂=>wpAny (model X.prog X.w) X.A (setFlight e none) (fun _ s₃=>wpAny (model X.prog X.w) X.A (handleBy e X.env [.ExceptHandler (some (.Name x np)) none (b₀ :: suite) hp]) (SP X pins D) X.xe s₃) X.xe s₂) X.xe s₁)=xe;have P1:d7 (o9 X.prog X.w) { X with pn:=X.pn++pins,xe:=xe } (u5 C ts D σ.length):=by
  intro pins' σ' H1 s1 e s2 I1 hcx;obtain ⟨ea,T,cls,H',rfl,os,bare,un,hok,n1,n2,z1,z2,x0,rfl,hE⟩:=hcx;have I2:Inv X pins σ' H' s2:=Inv.outof rfl (I1.call' os un hok bare (fun b z=>nomatch z));have J1:Inv X pins σ' H1 s1:=Inv.outof rfl I1;have ae:=J1.alien hx n1 z1;have aT:=J1.alien hx n2 z2;show xe (.ref ea) s2;rw [<- hxe];have fr:X.A.frames=some (X.env :: X.outer):=by rw [I.ok.frames,hs]
  refine u3 fr (by rw [<- hs]; exact I2.stack) hf x0 fun h3 T3 hT3 x3 p3=>?_;have I3:=I2.psd (by rw [hs]; exact p3) (fun r hr=>by simp at hr; rcases hr with rfl | rfl<;>assumption);have a3:gO X pins H' T3:=I2.alien hx (Heap.get?_none_of_le hT3) (I2.hok.fresh hT3);refine nH (s:={ s2 with heap:=h3 }) x3 fun h4 x4 p4=>?_;have I4:=I3.psd (p4.mono (by simp) fun b z=>z) (fun r hr=>by simp at hr; rw [hr]; exact a3);refine wpAny_handleBy_cons (codeAny_handlers_test (kB (X:=X.caught ea) (I4.catch ea) hg O.bound ?_ hd)) (by intro z; cases z);obtain ⟨oe,he,hcls⟩:=x4.cls;obtain ⟨tl,N,nm,q,bs,hdct,sn,sub,ab,col,dd,k0,k1,k2,k3,k5,mN,hC,hN,hni,TT⟩:=O.obj;refine wpAny_excMatches_sub_self (I4.bk _ _ hC) he hcls (TT.hasType hbase) ?_;refine codeAny_handlers_suite (nH (s:={ s2 with heap:=h4 }) x4 fun h5 x5 p5=>?_);have I5:=I4.psd (p5.mono (by simp) fun b z=>z) (fun r hr=>by simp at hr; rw [hr]; exact a3);refine wpAny_mono (hh ea pins { s2 with heap:=h5 } σ' H' D (I5.catch ea) (hE σ' (I2.len.trans I.len.symm))) (fun f s6 hq=>?_) (fun _ _ z=>z.elim);have un:∀ {σ6:St}{H6:Hp},Inv (X.caught ea) pins σ6 H6 s6->Inv X pins σ6 H6 s6:=fun J=>J.uncatch I.ok.hd I.ok.frames;cases f with
  | next=>obtain ⟨σ6,H6,J,q6⟩:=hq; exact ⟨σ6,H6,un J,q6⟩
  | brk=>obtain ⟨σ6,H6,J,q6⟩:=hq; exact ⟨σ6,H6,un J,q6⟩
  | cont=>obtain ⟨σ6,H6,J,q6⟩:=hq; exact ⟨σ6,H6,un J,q6⟩
  | ret u=>obtain ⟨v6,σ6,H6,J,r6,q6⟩:=hq; exact ⟨v6,σ6,H6,un J,r6,q6⟩
 refine wpAny_mono (hb _ xe _ P1 [] s σ H D (I.into xe) hw) (fun f s1 hq=>?_) (fun _ _ z=>z);cases f with
 | next=>obtain ⟨σ6,H6,J,q6⟩:=hq; exact wpAny_execs_nil ⟨σ6,H6,J.outof rfl,q6⟩
 | brk=>obtain ⟨σ6,H6,J,q6⟩:=hq; exact ⟨σ6,H6,J.outof rfl,q6⟩
 | cont=>obtain ⟨σ6,H6,J,q6⟩:=hq; exact ⟨σ6,H6,J.outof rfl,q6⟩
 | ret u=>obtain ⟨v6,σ6,H6,J,r6,q6⟩:=hq; exact ⟨v6,σ6,H6,J.outof rfl,r6,q6⟩
end
structure OwnX (P:Program) (w:World) (K:Frag) (mg:Str->Option Value) (base:Heap) (x:Str) (k:Nat) (ps:List Str) (sp:Sp):Prop where
 ex:∃ f fd,FnOk P w K mg base (o9 P w) k f fd ps sp/\mg x=some (.ref f)/\PySem.W.keepIn K (.ref f)=true/\∀ us:List Value,us.length=ps.length->bindArgs fd ⟨us,[]⟩=pure (ps.zip us)
structure OwnMX (P:Program) (w:World) (K:Frag) (mg:Str->Option Value) (base:Heap) (C:Addr) (m:Str) (k:Nat) (ps:List Str) (sp:Sp):Prop where
 ex:∃ f fd,FnOk P w K mg base (o9 P w) k f fd ps sp/\Meth K C m f/\∀ us:List Value,us.length=ps.length->bindArgs fd ⟨us,[]⟩=pure (ps.zip us)
section
variable {P:Program}{w:World}{K:Frag}{mg:Str->Option Value}{base:Heap}{C:Addr}
theorem Fun.okX {x qual:Str}{st:Stmt}{f:Addr}{fd:FuncData}{N ps:List Str}{k:Nat}{sp:Sp} (F:Fun K x qual st f fd) (S:FnScope N ps (aw st)) (len:∀ vs H Q E,sp vs H Q E->vs.length=ps.length)
  (hbody:∀ (cdv:Value) (A:Around) (outer:List Env) (s:Shared) (H:Hp) (vs:List V) (Q:VK) (E:XK),Room k (A.deeper (envOfC qual (aw st) s.heap.objs.size f cdv))->sp vs H Q E ->
   ∃ t,gI (jU (o9 P w) P w K mg base N qual (aw st) f cdv A outer s H E) (bS st) t/\t { nx:=fun _ H'=>Q .non H',rt:=Q } (start N vs) H):FnOk P w K mg base (o9 P w) (k+1) f fd ps sp:=by
 obtain ⟨oc,od,kV,doc,pm,an,cdv,ct,osl,rfl,lk,hcd⟩:=F.ex;exact ya lk hcd S len fun A outer s H vs Q E hr hsp=>hbody cdv A outer s H vs Q E hr hsp
theorem DefAt.ownX {x:Str}{st:Stmt}{N ps:List Str}{k:Nat}{sp:Sp} (D:DefAt K mg x st ps) (S:FnScope N ps (aw st)) (len:∀ vs H Q E,sp vs H Q E->vs.length=ps.length)
  (hbody:∀ (f:Addr) (cdv:Value) (A:Around) (outer:List Env) (s:Shared) (H:Hp) (vs:List V) (Q:VK) (E:XK),Room k (A.deeper (envOfC x (aw st) s.heap.objs.size f cdv))->sp vs H Q E ->
   ∃ t,gI (jU (o9 P w) P w K mg base N x (aw st) f cdv A outer s H E) (bS st) t/\t { nx:=fun _ H'=>Q .non H',rt:=Q } (start N vs) H):OwnX P w K mg base x (k+1) ps sp:=by
 obtain ⟨f,fd,F,hm,hb⟩:=D.ex;exact ⟨f,fd,F.okX S len (hbody f),hm,F.kp,hb⟩
theorem MethAt.ownX {x qual:Str}{st:Stmt}{N ps:List Str}{k:Nat}{sp:Sp} (D:MethAt K C x qual st ps) (S:FnScope N ps (aw st)) (len:∀ vs H Q E,sp vs H Q E->vs.length=ps.length)
  (hbody:∀ (f:Addr) (cdv:Value) (A:Around) (outer:List Env) (s:Shared) (H:Hp) (vs:List V) (Q:VK) (E:XK),Room k (A.deeper (envOfC qual (aw st) s.heap.objs.size f cdv))->sp vs H Q E ->
   ∃ t,gI (jU (o9 P w) P w K mg base N qual (aw st) f cdv A outer s H E) (bS st) t/\t { nx:=fun _ H'=>Q .non H',rt:=Q } (start N vs) H):OwnMX P w K mg base C x (k+1) ps sp:=by
 obtain ⟨f,fd,F,hm,hb⟩:=D.ex;exact ⟨f,fd,F.okX S len (hbody f),hm,hb⟩
end
noncomputable def xN (sp:Sp) (E:XK) (t:TA):TE:=fun σ H Q=>t σ H fun vs H1=>sp vs H1 Q E
noncomputable def u8 (C:Addr) (m:Str) (sp:Sp) (E:XK) (ta:TE) (t:TA):TE:=fun σ H Q=>ta σ H fun x H1=>∃ a dx fs,x=.ref a/\H1 a=some (.ins C dx fs)/\fs.lookup m=none/\t σ H1 fun vs H2=>sp (x :: vs) H2 Q E
section
variable {X:Cx}
theorem w_ {E:XK}{x:Str}{j k:Nat}{ps:List Str}{sp:Sp}{e:Expr}{es:List Expr}{t:TA}{p pos:Pos} (O:OwnX X.prog X.w X.K X.mg X.base x j ps sp) (hp:d7 (o9 X.prog X.w) X E) (hr:Room k X.A) (hg:Gl X x) (ha:PA X (e :: es) t) (hj:j<=k:=by first | decide | omega) (hdb:(x==("__debug__":Str))=false:=by decide)
  (he:starEach (e :: es) X.env=(false,eval e X.env) :: starEach es X.env:=by rfl) (hpl:(backTo pos (starEach es X.env)).any (·.1)=false:=by rfl):PE X (.Call (.Name x p) (e :: es) [] pos) (xN sp E t):=by
 obtain ⟨f,fd,F,a,b,c⟩:=O.ex;refine (sN (dvs:=[]) (E:=E) F (hr.mono hj) hg a b (fc.all c) .nil hp ha hdb he hpl).imp fun σ H Q h=>?_;unfold uT;unfold xN at h;simpa only [List.append_nil] using h
theorem bK {E:XK}{C:Addr}{m:Str}{j k:Nat}{ps:List Str}{sp:Sp}{o e:Expr}{es:List Expr}{ta:TE}{t:TA}{apos pos:Pos}{pl:Sem Bool} (he:PE X o ta) (c:Cls X.K C) (O:OwnMX X.prog X.w X.K X.mg X.base C m j ps sp) (hp:d7 (o9 X.prog X.w) X E) (hr:Room k X.A) (ha:PA X (e :: es) t) (hj:j<=k:=by first | decide | omega)
  (hst:starEach (e :: es) X.env=(false,eval e X.env) :: starEach es X.env:=by rfl) (hpl:(backTo pos (starEach es X.env)).any (·.1)=false:=by rfl)
  (ht:eval (.Call (.Attribute o m apos) (e :: es) [] pos) X.env=(do
   let ov <- eval o X.env
   standAt apos.atName
   let (f,first) <- holding [ov] (getMethod ov m pl)
   callWith pos f first (backTo pos (starEach (e :: es) X.env)) (backToKw pos (keywordEach [] X.env))):=by rfl) :
  PE X (.Call (.Attribute o m apos) (e :: es) [] pos) (u8 C m sp E ta t):=by
 obtain ⟨f,fd,F,hm,hb⟩:=O.ex;refine (sL (dvs:=[]) (E:=E) he c hm F (hr.mono hj) (fc.all hb) .nil hp ha hst hpl ht).imp fun σ H Q h=>?_;unfold pc;unfold u8 at h;simpa only [List.append_nil] using h
noncomputable def u9 (C:Addr) (m:Str) (sp:Sp) (ta:TE):TE:=fun σ H Q=>ta σ H fun x H1=>∃ a dx fs,x=.ref a/\H1 a=some (.ins C dx fs)/\fs.lookup m=none/\sp [x] H1 Q E0
end
end L2
namespace L2
open PySem PySem.Spec PyProof.Rows _root_.Own
noncomputable def zn (v d:Addr):HO:=.ext fun h=>h.IsValuesView v d
theorem yq {P:Program}{w:World}{H:Hp}{h:Heap}{v d:Addr} (x:h.IsValuesView v d):bq P w H h v (zn v d) :=
 ⟨x,let ⟨o,e,_⟩:=x; ⟨o,e⟩,fun _ _ ⟨o,e,r⟩ k=>⟨o,k o e,r⟩⟩
section
variable {X:Cx}
theorem uj:zB X "dict.values" (fun x xs H Q=>∃ d kvs,x=.ref d/\xs=[]/\Rd H d (.dK kvs)/\∀ v,H v=none->Q (.ref v) (aA H v (zn v d))):=by
 intro pins s σ H x xs v us Q I rx rs h;obtain ⟨d,kvs,rfl,rfl,hd,q⟩:=h;cases rx;cases rs;obtain ⟨z,hm,vs,rel,dd⟩:=dL I.hok hd;refine call_meetsIn PySem.F.slot_dict_values dd.typeIs PySem.F.entry_dict_values (PySem.F.args_dict_values_1 _) (meets_dict_values (aY X.prog X.w) d hm) ⟨⟨vs,dd⟩,?_⟩;refine ⟨.ref s.heap.objs.size,_,I.laid (t':=s.toks) (o:=zn s.heap.objs.size d) (fun _ _ e=>Heap.get?_push_of_some _ e) (Nat.le_refl _) (yq ⟨_,Heap.get?_push_size _ rfl,rfl,rfl⟩),rfl,q _ (I.hok.fresh (Nat.le_refl _))⟩
theorem rE (hc:X.calm=true:=by rfl):cE X (.type "list") (fun xs H Q=>∃ v d kvs,xs=[.ref v]/\H v=some (zn v d)/\Rd H d (.dK kvs)/\∀ l,H l=none->Q (.ref l) (aA H l (.lst (kvs.map (·.2))))):=by
 intro pins s σ H xs us Q I r h;obtain ⟨v,d,kvs,rfl,hv,hd,q⟩:=h;obtain ⟨u,rfl,ru⟩:=fY r;cases ru;obtain ⟨iv,_,_⟩:=(show bq X.prog X.w H s.heap v (zn v d) from I.hok v _ hv);obtain ⟨hz,lo,vs,rel,dd⟩:=dL I.hok hd;obtain ⟨ep,da⟩:=dd.dictAt;have hl:kvs.length=vs.length:=Paired.length rel;refine PySem.W.kdl_call (PySem.W.kdl_values (knd:=aY X.prog X.w) (kvs:=vs) (ep:=ep)) (I.ok.hd hc) ⟨iv,da⟩ (by omega) fun h' tk acc c k hL hacc=>?_;have hn:=I.hok.fresh (Nat.le_refl s.heap.objs.size);refine ⟨.ref s.heap.objs.size,_,I.laid (t':=tk) (o:=.lst (kvs.map (·.2))) k (Nat.le_refl _) ⟨by rw [List.length_map]; exact hz,acc.toList,c,?_,by simpa using hL⟩,rfl,q _ hn⟩;have ha:acc.toList.length=vs.length:=by rw [Array.length_toList]; exact hacc.1
 refine gD (by rw [List.length_map]; omega) fun j a b h1 h2=>?_;obtain ⟨kk,h3⟩:=hacc.2 j b (by rw [<- Array.getElem?_toList]; exact h2);rw [List.getElem?_map] at h1;cases e:kvs[j]? with
 | none=>rw [e] at h1; cases h1
 | some pr =>
  rw [e] at h1; cases h1;exact (de (show Paired _ _ _ from rel) e h3).2
theorem qU {ns:List Int}{vs:List Value} (r:aU (ns.map V.int) vs) (h:Heap):SortC X.prog X.w vs oneType' (fun i j=>decide (ns.getD i 0 < ns.getD j 0)) h where
 ord:=xg fun i=>ns.getD i 0
 kind:=fun l2 A s' Q k q=>by
  match vs,l2,lL r with
  | _ :: _ :: _,_,hI=>rw [keyKind_ints hI]; exact wpAny_pure q
 lt:=fun i j A s' Q hi hj k q=>by
  have hl:=r.length;rw [List.length_map] at hl;have g:∀ n,n < vs.length->∃ t,vs.getD n Value.none=Value.int (ns.getD n 0) t:=fun n hn=>by
   have hn':n < ns.length:=by omega
   obtain ⟨u,hu,ru⟩:=r.get (show (ns.map V.int)[n]? = some (.int ns[n]) by simp [hn']);obtain ⟨t,e⟩:=(show ∃ t,u=Value.int ns[n] t from ru);exact ⟨t,by rw [List.getD_eq_getElem?_getD,hu]; simp [e,hn']⟩
  obtain ⟨t,e1⟩:=g i hi;obtain ⟨t',e2⟩:=g j hj;rw [e1,e2];exact PySem.W.kat_lt_int q
noncomputable def zg (d:Addr) (H:Hp) (Q:VK):Prop:=∃ (ns:List Int) (kvs:List (bh×V)),Rd H d (.dK kvs)/\kvs.map (·.1)=ns.map Sum.inl/\ns.length < 64/\∀ ns':List Int,ns'.Perm ns->ns'.Pairwise (· < ·)->∀ p,H p=none->Q (.ref p) (aA H p (.lst (ns'.map V.int)))
theorem lR (hc:X.calm=true:=by rfl):cE X (.builtin "sorted") (fun xs H Q=>∃ d,xs=[.ref d]/\zg d H Q):=by
 intro pins s σ H xs us0 Q I r h;obtain ⟨d,rfl,ns,kvs,hd,hk,h64,q⟩:=h;obtain ⟨u,rfl,ru⟩:=fY r;cases ru;obtain ⟨hz,lo,vs0,rel,dd⟩:=dL I.hok hd;have hnd:(vs0.map (·.1)).Nodup:=by obtain ⟨_,_,_,_,_,_,_,_,n⟩:=id dd; exact n
 obtain ⟨ep,da⟩:=dd.dictAt;have hl:kvs.length=vs0.length:=Paired.length rel;have hkl:kvs.length=ns.length:=by have:=congrArg List.length hk; simpa using this
 have hn:ns.Nodup:=by
  have e:=rel.keys;rw [hk] at e;rw [<- e] at hnd;exact List.Pairwise.of_map _ (fun a b h z=>h (congrArg _ z)) hnd
 refine qT fun A' hA=>PySem.W.kdu_collect (PySem.W.kdl_dict (knd:=aY X.prog X.w) (kvs:=vs0) (ep:=ep) lo) (hA.trans (I.ok.hd hc)) da (by omega) fun h' tk acc k hacc=>?_;have I1:Inv X pins σ H { s with heap:=h',toks:=tk }:=I.kept k;have ha:acc.toList.length=ns.length:=by rw [Array.length_toList,hacc.1]; omega
 have rv:aU (ns.map V.int) acc.toList:=gD (by rw [List.length_map,ha]) fun j a b h1 h2=>by
  obtain ⟨kk,xx,h3,h4⟩:=hacc.2 j b (by rw [<- Array.getElem?_toList]; exact h2);rw [List.getElem?_map] at h1;cases e:ns[j]? with
  | none=>rw [e] at h1; cases h1
  | some n =>
   rw [e] at h1; cases h1;have hj:j < kvs.length:=by have:=(List.getElem?_eq_some_iff.mp e).1; omega
   have:=de (show Paired _ _ _ from rel) (List.getElem?_eq_getElem hj) h3;have e2:(kvs[j]).1=Sum.inl n:=by
    have e3:=congrArg (fun l=>l[j]?) hk;simp only [List.getElem?_map,List.getElem?_eq_getElem hj,e,Option.map_some] at e3;exact Option.some.inj e3
   have e4:kk=Sum.inl n:=by rw [<- e2]; exact this.1.symm
   subst e4;rcases bE (show iw (Sum.inl n) b=true from h4) with ⟨i,t,e7,e8⟩ | ⟨y,t,e7,_⟩
   ·cases e7; subst e8; exact ⟨t,rfl⟩
   ·cases e7
 refine ⟨by omega,_,_,qU (X:=X) rv h',fun p pp up h2 k2 hn2=>vF I1 rv (by rw [List.length_map]; omega) pp k2 hn2 fun pq hq=>?_⟩;have lt:∀ i∈p.toList,i < ns.length:=fun i hi=>by have:=lJ pp i hi; omega
 have hsz:p.size=acc.toList.length:=by have:=pp.size_eq; simpa using this
 have pr:=t9 ns 0 (p:=p) (by rw [<- ha]; exact pp);have e:(p.toList.map fun i=>(ns.map V.int).getD i .non)=(p.toList.map fun i=>ns.getD i 0).map V.int:=by
  rw [List.map_map];apply List.map_congr_left;intro i hi;have:=lt i hi;simp [this]
 rw [e];refine q _ pr ?_ pq hq;refine mM (f:=fun x:Int=>x) (by rw [List.map_id']; exact pr.nodup_iff.mpr hn) (p6 (c:=fun i j=>decide (ns.getD i 0 < ns.getD j 0)) hsz up fun i j h=>of_decide_eq_false h)
noncomputable def Aj:V->List V->Hp->VK->Prop:=fun x xs H Q=>∃ a kvs k v,x=.ref a/\H a=some (.dK kvs)/\xs=[kV k,v]/\kvs.length < sizeLine/\(∀ u,bL kvs k=some u->Q u H)/\(bL kvs k=none->Q v (aA H a (.dK (bB kvs k v))))
theorem uk:BE X "dict.setdefault" Aj:=by
 intro pins s σ H x xs v us Q I rx rs h;obtain ⟨a,kvs,k,v0,rfl,ha,rfl,hz,q1,q2⟩:=h;cases rx;obtain ⟨u,r,rfl,ru,rr⟩:=aU.two rs;obtain ⟨z,hd,vs,rel,dd⟩:=pf I.hok ha;refine call_meetsIn PySem.F.slot_dict_setdefault dd.typeIs PySem.F.entry_dict_setdefault (PySem.F.args_dict_setdefault_3 _ _ _) (kt_meets_setdefault (aY X.prog X.w) a (gM ru) hd r) ⟨vs,dd,by rw [<- rel.length]; exact z,fun w' hw=>?_,fun hn h' dd' hs=>?_⟩
 ·obtain ⟨o,ho,ro⟩:∃ o,bL kvs k=some o/\RelV o w':=by
   have:=rel.val k;rw [hw] at this;cases e:bL kvs k with
   | none=>rw [e] at this; exact this.elim
   | some o=>rw [e] at this; exact ⟨o,rfl,this⟩
  exact ⟨o,H,I.tok _,ro,q1 o ho⟩
 ·have hn':bL kvs k=none:=by
   have:=rel.val k;rw [hn] at this;cases e:bL kvs k with
   | none=>rfl
   | some o=>rw [e] at this; exact this.elim
  have he:∃ q,h'.get? a=some q:=let ⟨q,_,_,hq,_⟩:=dd'; ⟨q,hq⟩;have hl:(bB kvs k v0).length<=sizeLine:=by have:=d5 kvs k v0; omega
  exact ⟨v0,_,iC I (by rw [ha]; exact True.intro) hs he (kP hl hd (rel.put k rr) dd'),rr,q2 hn'⟩
theorem m8 (hc:X.calm=true:=by rfl):cE X (.builtin "max") (fun xs H Q=>match xs with | [.int i,.int j]=>Q (.int (if i < j then j else i)) H | _=>False):=(uG hc).imp fun xs H Q h=>by
 split at h
 ·exact ⟨_,_,rfl,h⟩
 ·exact h.elim
theorem k6 {C:Addr}{m:Str}{j k:Nat}{ps:List Str}{sp:Sp}{o:Expr}{ta:TE}{apos pos:Pos}{pl:Sem Bool} (he:PE X o ta) (c:Cls X.K C) (O:OwnM X.prog X.w X.K X.mg X.base C m j ps sp) (hr:Room k X.A) (hj:j<=k:=by first | decide | omega)
  (ht:eval (.Call (.Attribute o m apos) [] [] pos) X.env=(do
   let ov <- eval o X.env
   standAt apos.atName
   let (f,first) <- holding [ov] (getMethod ov m pl)
   callWith pos f first (backTo pos (starEach [] X.env)) (backToKw pos (keywordEach [] X.env))):=by rfl) :
  PE X (.Call (.Attribute o m apos) [] [] pos) (u9 C m sp ta):=by
 obtain ⟨f,fd,F,hm,hb⟩:=O.ex;refine (vX (dvs:=[]) (E:=E0) he c hm F (hr.mono hj) (fc.all hb) .nil rN ht).imp fun σ H Q h=>?_;unfold pc nA;unfold u9 at h;simpa only [List.append_nil] using h
end
end L2
namespace L2
open PySem PySem.Spec PyProof.Rows
structure CtorAt (K:Frag) (mg:Str->Option Value) (C:Addr) (x qual:Str) (st:Stmt) (ps:List Str):Prop where
 ex:∃ f fd,Mk K C f/\Fun K "__init__" qual st f fd/\mg x=some (.ref C)/\∀ us:List Value,us.length=ps.length->bindArgs fd ⟨us,[]⟩=pure (ps.zip us)
structure OwnC (P:Program) (w:World) (K:Frag) (mg:Str->Option Value) (base:Heap) (C:Addr) (x:Str) (k:Nat) (ps:List Str) (sp:Sp):Prop where
 ex:∃ f fd,Mk K C f/\FnOk P w K mg base tH k f fd ps sp/\mg x=some (.ref C)/\∀ us:List Value,us.length=ps.length->bindArgs fd ⟨us,[]⟩=pure (ps.zip us)
theorem CtorAt.own {P:Program}{w:World}{K:Frag}{mg:Str->Option Value}{base:Heap}{C:Addr}{x qual:Str}{st:Stmt}{N ps:List Str}{k:Nat}{sp:Sp} (D:CtorAt K mg C x qual st ps) (S:FnScope N ps (aw st)) (len:∀ vs H Q E,sp vs H Q E->vs.length=ps.length)
  (hbody:∀ (f:Addr) (cdv:Value) (A:Around) (outer:List Env) (s:Shared) (H:Hp) (vs:List V) (Q:VK) (E:XK),Room k (A.deeper (envOfC qual (aw st) s.heap.objs.size f cdv))->sp vs H Q E ->
   ∃ t,gI (jU tH P w K mg base N qual (aw st) f cdv A outer s H E).nox (bS st) t/\t { nx:=fun _ H'=>Q .non H',rt:=Q } (start N vs) H):OwnC P w K mg base C x (k+1) ps sp:=by
 obtain ⟨f,fd,M,F,hm,hb⟩:=D.ex;exact ⟨f,fd,M,F.ok S len (hbody f),hm,hb⟩
theorem iH {X:Cx}{C:Addr}{x:Str}{j k:Nat}{ps:List Str}{sp:Sp}{e:Expr}{es:List Expr}{t:TA}{p pos:Pos} (O:OwnC X.prog X.w X.K X.mg X.base C x j ps sp) (hr:Room k X.A) (hg:Gl X x) (ha:PA X (e :: es) t) (hj:j+1<=k:=by first | decide | omega) (hdb:(x==("__debug__":Str))=false:=by decide)
  (he:starEach (e :: es) X.env=(false,eval e X.env) :: starEach es X.env:=by rfl) (hpl:(backTo pos (starEach es X.env)).any (·.1)=false:=by rfl):PE X (.Call (.Name x p) (e :: es) [] pos) (uR C sp t):=by
 obtain ⟨f,fd,M,F,hm,hb⟩:=O.ex;exact xa M F hm hb hr hg ha hj hdb he hpl
theorem jp {K:Frag}{h:Heap}{mg:Str->Option Value}{C f:Addr}{x qual:Str}{st:Stmt}{ps:List Str}{oc kV doc pm cdv ct:Value}{od an:Option Addr}{osl:Array (Option Value)} (X:K.In h) (G:h.Ns mainGlobals mg)
  (a:PySem.W.nsIn K mainGlobals x=some (some (.ref C)):=by k_is) (a1:PySem.W.findIn K (.ref C) "__init__" = some (some (.ref f)):=by k_is) (i1:PySem.W.isFn K (.ref f)=true:=by k_is)
  (l:K.lookup f=some ⟨oc,od,.func (PySem.W.fnOf "__init__" qual (dr st) (bS st) (aw st) .none kV doc pm an cdv ct),osl⟩:=by k_is) (c:PySem.W.codeIn K cdv qual=true:=by k_is) (k:PySem.W.keepIn K (.ref f)=true:=by k_is) (mk:PySem.W.makesIn K C=true:=by k_is) (kc:PySem.W.keepIn K (.ref C)=true:=by k_is)
  (hb:∀ (kV doc pm:Value) (an:Option Addr) (cdv ct:Value) (us:List Value),us.length=ps.length->bindArgs (PySem.W.fnOf "__init__" qual (dr st) (bS st) (aw st) .none kV doc pm an cdv ct) ⟨us,[]⟩=pure (ps.zip us):=by intro _ _ _ _ _ _ us hl; first | exact uZ (fun _=>rfl) us hl | exact uY (fun _ _=>rfl) us hl | exact uX (fun _ _ _=>rfl) us hl | exact uW (fun _ _ _ _=>rfl) us hl | exact bind0 rfl us hl):CtorAt K mg C x qual st ps :=
 ⟨f,_,⟨mk,a1,i1,kc⟩,qP l c k,PySem.W.mg_of X G a,hb kV doc pm an cdv ct⟩
noncomputable def xv (tl:TE):TI:=fun σ H R=>tl σ H fun x H1=>∃ d kvs,x=.ref d/\H1 d=some (.dK kvs)/\∀ v o,H1 v=none->R (zr d o kvs) (aA (aA H1 v (qv v d)) d (.frz o (.dK kvs)))
theorem t8 {X:Cx}{l:Expr}{tl:TE}{elts:List Expr}{kk:Nat}{pos apos cpos:Pos} (hl:PE X l tl) (hbase:attributeBase l "items" X.env (eval l X.env)=eval l X.env:=by rfl) (hline:(apos.endLine==cpos.line)=true:=by rfl):PI X (.Tuple elts kk pos) (.Call (.Attribute l "items" apos) [] [] cpos) (xv tl):=by
 intro pins s σ H R I h;refine wpAny_Call_method0_late hbase hline (bz (hl pins s σ H _ I h) fun v s1 ⟨x,H1,I1,r1,d,kvs,e,hd,q⟩=>?_);subst e;cases r1;obtain ⟨z,hm,vs,rel,dd⟩:=dL I1.hok (.inl hd);obtain ⟨ob,_,_,e1,ex,_⟩:=id dd;refine ⟨"dict","dict.items",PySem.F.plainAttrs_dict,PySem.F.slot_dict_items,PySem.F.type_dict_items,dd.typeIs,fun a e2=>by cases e2; exact ⟨ob,e1,ex.2.1⟩,
  Calls.callWith_builtin rfl (PySem.evalArgs_none (bz (pN pins s1 σ H1 (.ref d) [] (.ref d) [] (fun x H2=>∃ w,x=.ref w/\H1 w=none/\H2=aA H1 w (qv w d)) I1 rfl .nil ⟨d,kvs,rfl,rfl,.inl hd,fun w hw=>⟨w,rfl,hw,rfl⟩⟩) fun u s2 ⟨x2,H2,I2,r2,w,ex2,hw,eH⟩=>?_))⟩
 subst ex2 eH;cases r2;have hwd:d≠w:=ai hd hw;have hd2:(aA H1 w (qv w d)) d=some (.dK kvs):=(ag hwd).trans hd;have nf:∀ o v,X.H₀ d≠some (.frz o v):=fun o v e=>by
  have:=I2.base.frzs d o v e;rw [hd2] at this; cases this
 have x0:=I2.hok d _ hd2;obtain ⟨_,_,_,_,o2,es2,ep2,e3,c3,d3,_⟩:=id x0;have I3:=I2.relab hd2 (fun _ z=>nomatch z) (fun _ z=>nomatch z) (fun _ z=>nomatch z) nf (u':=.frz o2 (.dK kvs)) ⟨e3,x0⟩;have hv3:(aA (aA H1 w (qv w d)) d (.frz o2 (.dK kvs))) w=some (qv w d):=(ag (Ne.symm hwd)).trans upd_same;obtain ⟨iv,_,_⟩:=(show bq X.prog X.w _ s2.heap w (qv w d) from I3.hok w _ hv3);obtain ⟨vs3,r3,hm3⟩:=nL I3.hok (upd_same:(aA (aA H1 w (qv w d)) d (.frz o2 (.dK kvs))) d=some (.frz o2 (.dK kvs))) d3;have hlen:kvs.length=vs3.length:=Paired.length r3;refine wpAny_pyIter_items iv hm3 ?_;refine ⟨s2.heap.objs.size,[s2.heap.objs.size],_,_,_,rfl,I3.kept (t':=s2.toks) fun b o e=>Heap.get?_push_of_some _ e,lm d _ o2 kvs d3,⟨.none,.none,by rw [hlen]; exact Heap.get?_push_size _ rfl⟩,fun b hb=>?_,q w o2 hw⟩;have e:b=s2.heap.objs.size:=by simpa using hb
 subst e;exact I3.fpOk (Nat.le_refl _) (I3.hok.fresh (Nat.le_refl _))
section
variable {β:Type}
noncomputable def ay (l:List (Int×β)) (k:Int):Option β:=(l.find? fun p=>decide (p.1=k)).map (·.2)
theorem cz {l:List (Int×β)}{k:Int}:ay l k=none↔k∉l.map (·.1):=by
 unfold ay;rw [Option.map_eq_none_iff,List.find?_eq_none];constructor
 ·intro h hm
  obtain ⟨p,hp,e⟩:=List.mem_map.mp hm;exact h p hp (decide_eq_true e)
 ·intro h p hp e
  exact h (List.mem_map.mpr ⟨p,hp,of_decide_eq_true e⟩)
theorem bj {l:List (Int×β)}{k:Int}{e:β} (h:ay l k=some e):(k,e)∈l:=by
 unfold ay at h;obtain ⟨p,hp,rfl⟩:=Option.map_eq_some_iff.mp h;have e1:=List.find?_some hp;have e2:=List.mem_of_find?_eq_some hp;rw [<- of_decide_eq_true e1]; exact e2
theorem pO:∀ {l:List (Int×β)}{k:Int}{e:β},(l.map (·.1)).Nodup->(k,e)∈l->ay l k=some e
 | (k',e') :: r,k,e,hn,hm=>by
  obtain ⟨n1,n2⟩:=List.nodup_cons.mp hn;unfold ay;rw [List.find?_cons]
  by_cases z:k'=k
  ·subst z
   rcases List.mem_cons.mp hm with z | z
   ·cases z; simp
   ·exact absurd (List.mem_map.mpr ⟨_,z,rfl⟩) n1
  ·rcases List.mem_cons.mp hm with w | w
   ·cases w; exact absurd rfl z
   ·have ih:=pO n2 w
    unfold ay at ih;simp only [z,decide_false];exact ih
theorem bf {l:List (Int×β)}{k:Int}{v:β}{p:Int×β} (h:p∈aJ l k v):p=(k,v)\/(p∈l/\p.1≠k):=by
 unfold aJ at h;split at h
 ·obtain ⟨q,hq,e⟩:=List.mem_map.mp h
  split at e
  ·left; rw [<- e]; next z=>rw [z]
  ·subst e; exact .inr ⟨hq,‹_›⟩
 ·next hn =>
  rcases List.mem_append.mp h with z | z
  ·exact .inr ⟨z,fun e=>hn (List.any_eq_true.mpr ⟨p,z,decide_eq_true e⟩)⟩
  ·exact .inl (by simpa using z)
theorem k4 {l:List (Int×β)}{k:Int}{v:β}:(k,v)∈aJ l k v:=by
 unfold aJ;split
 ·next h =>
  obtain ⟨q,hq,e⟩:=List.any_eq_true.mp h;refine List.mem_map.mpr ⟨q,hq,?_⟩;rw [if_pos (of_decide_eq_true e),of_decide_eq_true e]
 ·simp
theorem qX {l:List (Int×β)}{k:Int}{v:β}{p:Int×β} (h:p∈l) (hk:p.1≠k):p∈aJ l k v:=by
 unfold aJ;split
 ·exact List.mem_map.mpr ⟨p,h,by rw [if_neg hk]⟩
 ·exact List.mem_append_left _ h
end
structure Ent where
 a:Addr
 n:Int
 s:Str
abbrev cp:=List (Int×Ent)
noncomputable def jF (H:Hp) (e:Ent):Prop:=H e.a=some (.tup [.int e.n,.str e.s])
noncomputable def jC (l:cp):List (bh×V):=l.map fun p=>(Sum.inl p.1,V.ref p.2.a)
theorem iB (l:cp):(jC l).length=l.length:=List.length_map ..
theorem pi:∀ (l:cp) (k:Int),bL (jC l) (Sum.inl k)=(ay l k).map fun e=>V.ref e.a
 | [],_=>rfl
 | (k',e) :: r,k=>by
  show bL ((Sum.inl k',V.ref e.a) :: jC r) (Sum.inl k)=_
  by_cases z:k'=k
  ·subst z
   rw [gn rfl];simp [ay]
  ·rw [gq (fun w=>z (Sum.inl.inj w)),pi r k]
   unfold ay;simp [List.find?_cons,z]
theorem vR (l:cp) (k:Int) (e:Ent):bB (jC l) (Sum.inl k) (V.ref e.a)=jC (aJ l k e):=by
 have an:((jC l).any fun kv=>decide (kv.1=Sum.inl k))=l.any fun p=>decide (p.1=k):=by
  unfold jC;rw [List.any_map]
  congr 1
  funext p
  exact decide_eq_decide.mpr ⟨fun z=>Sum.inl.inj z,fun z=>congrArg _ z⟩
 unfold bB aJ;rw [an];split
 ·unfold jC
  rw [List.map_map,List.map_map];apply List.map_congr_left;intro p _;show (if (Sum.inl p.1:bh)=Sum.inl k then (Sum.inl p.1,V.ref e.a) else (Sum.inl p.1,V.ref p.2.a))=_
  by_cases z:p.1=k
  ·rw [if_pos (congrArg _ z)]
   show _=((Sum.inl (if p.1=k then (p.1,e) else p).1,V.ref (if p.1=k then (p.1,e) else p).2.a):bh×V);rw [if_pos z]
  ·rw [if_neg (fun w=>z (Sum.inl.inj w))]
   show _=((Sum.inl (if p.1=k then (p.1,e) else p).1,V.ref (if p.1=k then (p.1,e) else p).2.a):bh×V);rw [if_neg z]
 ·unfold jC
  rw [List.map_append]; rfl
noncomputable def dH (b:cp) (p:Int×Ent):cp:=match ay b p.1 with
 | none=>aJ b p.1 p.2
 | some e=>if e.n < p.2.n then aJ b p.1 p.2 else b
noncomputable def bW (b r:cp):cp:=r.foldl dH b
noncomputable def dc (rs:List cp):cp:=rs.foldl bW []
theorem tT (b:cp) (p:Int×Ent):(dH b p).length<=b.length+1:=by
 unfold dH;split
 ·exact bD ..
 ·split
  ·exact bD ..
  ·omega
theorem gE:∀ (r b:cp),(bW b r).length<=b.length+r.length
 | [],b=>Nat.le_refl _
 | p :: r,b=>by
  have:=gE r (dH b p);have h1:=tT b p;show (bW (dH b p) r).length<=_;rw [List.length_cons]; omega
structure Best (seen:List (Int×Ent)) (b:cp):Prop where
 nd:(b.map (·.1)).Nodup
 from_:∀ p∈b,p∈seen
 all:∀ p∈seen,∃ e,(p.1,e)∈b/\p.2.n<=e.n
theorem Best.nil:Best [] []:=⟨.nil,fun _ h=>h,fun _ h=>nomatch h⟩
theorem Best.step {seen:List (Int×Ent)}{b:cp} (B:Best seen b) (p:Int×Ent):Best (seen++[p]) (dH b p):=by
 have put:(∀ e,(p.1,e)∈b->e.n<=p.2.n)->Best (seen++[p]) (aJ b p.1 p.2):=fun h=>by
  refine ⟨dR _ _ B.nd,fun q hq=>?_,fun q hq=>?_⟩
  ·rcases bf hq with z | ⟨z,_⟩
   ·subst z; simp
   ·exact List.mem_append_left _ (B.from_ q z)
  ·rcases List.mem_append.mp hq with z | z
   ·obtain ⟨e,h1,h2⟩:=B.all q z
    by_cases w:q.1=p.1
    ·exact ⟨p.2,by rw [w]; exact k4,Int.le_trans h2 (h e (w ▸ h1))⟩
    ·exact ⟨e,qX h1 w,h2⟩
   ·have:q=p:=by simpa using z
    subst this;exact ⟨q.2,k4,Int.le_refl _⟩
 unfold dH;split
 ·next h=>exact put fun e he=>absurd (List.mem_map.mpr ⟨_,he,rfl⟩) (cz.mp h)
 ·next e h =>
  have hm:=bj h;split
  ·next w =>
   refine put fun e' he'=>?_;have:=pO B.nd he';rw [h] at this; cases this;omega
  ·next w =>
   refine ⟨B.nd,fun q hq=>List.mem_append_left _ (B.from_ q hq),fun q hq=>?_⟩;rcases List.mem_append.mp hq with z | z
   ·exact B.all q z
   ·have:q=p:=by simpa using z
    subst this;exact ⟨e,hm,by omega⟩
theorem Best.row:∀ (r:cp) {seen:List (Int×Ent)}{b:cp},Best seen b->Best (seen++r) (bW b r)
 | [],seen,b,B=>by rw [List.append_nil]; exact B
 | p :: r,seen,b,B=>by
  have:=Best.row r (B.step p);rw [List.append_assoc] at this;exact this
theorem Best.rows:∀ (rs:List cp) {seen:List (Int×Ent)}{b:cp},Best seen b->Best (seen++rs.flatten) (rs.foldl bW b)
 | [],seen,b,B=>by rw [List.flatten_nil,List.append_nil]; exact B
 | r :: rs,seen,b,B=>by
  have:=Best.rows rs (B.row r);rw [List.append_assoc] at this;rw [List.flatten_cons]; exact this
theorem tu (rs:List cp):Best rs.flatten (dc rs):=by
 have:=Best.rows rs Best.nil;rwa [List.nil_append] at this
theorem qq (rs:List cp) (r:cp):dc (rs++[r])=bW (dc rs) r:=by unfold dc; rw [List.foldl_append]; rfl
theorem lS (b r:cp) (p:Int×Ent):bW b (r++[p])=dH (bW b r) p:=by unfold bW; rw [List.foldl_append]; rfl
theorem uL (b r:cp):∀ p∈bW b r,p∈b\/p∈r:=by
 induction r generalizing b with
 | nil=>intro p hp; exact .inl hp
 | cons q r ih =>
  intro p hp;rcases ih (dH b q) p hp with z | z
  ·unfold dH at z
   split at z
   ·rcases bf z with w | w
    ·subst w; exact .inr List.mem_cons_self
    ·exact .inl w.1
   ·split at z
    ·rcases bf z with w | w
     ·subst w; exact .inr List.mem_cons_self
     ·exact .inl w.1
    ·exact .inl z
  ·exact .inr (List.mem_cons_of_mem _ z)
structure RowAt (H:Hp) (d:Addr) (l:cp):Prop where
 dk:H d=some (.dK (jC l))
 es:∀ p∈l,jF H p.2
theorem m3:∀ (rs:List cp) (b:cp),(rs.foldl bW b).length<=b.length+rs.flatten.length
 | [],b=>Nat.le_refl _
 | r :: rs,b=>by
  have h1:=m3 rs (bW b r);have h2:=gE r b;rw [List.flatten_cons,List.length_append];show (rs.foldl bW (bW b r)).length<=_;omega
theorem rG (rs:List cp):(dc rs).length<=rs.flatten.length:=by
 have:=m3 rs [];rwa [show ([]:cp).length=0 from rfl,Nat.zero_add] at this
noncomputable def tN (K:Frag) (H:Hp) (a:Addr) (xs:List V):Prop:=(∃ o,H a=some (.frz o (.lst xs))) \/
 ∃ (o:Obj) (its:Array Value) (n:Nat),K.lookup a=some o/\o.cls=.type "list" /\ o.dict=none/\o.data=.seq its n/\its.size<=sizeLine/\aU xs its.toList
theorem tN.sq {K:Frag}{H:Hp}{a:Addr}{xs:List V} (h:tN K H a xs):a9 K H a xs:=by
 rcases h with ⟨o,h⟩ | h
 ·exact .inl (.inr ⟨o,h⟩)
 ·exact .inr h
noncomputable def yp (H H':Hp):Prop:=∀ b o u,H b=some (.frz o u)->H' b=some (.frz o u)
theorem yp.of_same {H H':Hp} (s:aV H H'):yp H H':=fun b o u e=>s b _ e
theorem tN.keep {K:Frag}{H H':Hp}{a:Addr}{xs:List V} (h:tN K H a xs) (f:yp H H'):tN K H' a xs:=by
 rcases h with ⟨o,h⟩ | h
 ·exact .inl ⟨o,f _ _ _ h⟩
 ·exact .inr h
noncomputable def qF (K:Frag):Sp:=fun vs H Q _=>∃ (a:Addr) (ns:List Int),vs=[.ref a]/\tN K H a (ns.map V.int)/\wS H/\ns.length<=63/\∀ H',Q (.bl true) H'
theorem zZ {l:PySem.W.OpenLaw}{q:Program}{loose:List Str}{XP:(Str->Option Value)->Heap->Prop}{YP:World->Heap->Prop}{d:DefRec}{K:Params->Frag}{k:Nat}{st:Stmt} (hn:l.most=some 63) (hdf:d.params.defaults=[]) (hr:Room k callerA) (hd:d.name = "law")
  (hY:∀ (w:World) (h:Heap),YP w h->(K w.params).In h)
  (F:∀ (w:World) (mg:Str->Option Value) (h:Heap),(K w.params).In h->h.Ns mainGlobals mg->DefAt (K w.params) mg "law" st ["_law_script"] /\
   ∀ (base:Heap) (f:Addr) (fd:FuncData),Fun (K w.params) "law" "law" st f fd->FnOk l.prog w (K w.params) mg base tH k f fd ["_law_script"] (qF (K w.params))) :
  PySem.W.WalkO q loose XP YP l.row.toRowW d [] (fun f vs=>PySem.call f vs):=by
 refine L2.wW (n:=63) (k:=k) (x:="_law_script") (CX:=fun _=>tH) (sp:=fun w=>qF (K w.params)) hn (by decide) hdf hr hY (fun w mg fa h KX G hmg=>?_) (fun w H a ns hl hO hS=>⟨a,ns,rfl,?_,hO,hl,fun _=>rfl⟩) fun _ _ _ _ _ z=>z
 ·obtain ⟨⟨f,fd,Ff,hm,hb⟩,ok⟩:=F w mg h KX G
  rw [hd] at hmg;rw [hm] at hmg;cases hmg;exact ⟨fd,fun s u=>.of_eq (hb [u] rfl),fun base _ _=>ok base fa fd Ff⟩
 ·rcases hS with (h | h) | h
  ·rcases hO a with z | ⟨o,xs,z⟩
   ·rw [z] at h; cases h
   ·rw [z] at h; cases h
  ·exact .inl h
  ·exact .inr h
theorem nQ {α:Type} (xs:List α) (i:Int) (h0:0<=i) (h1:i < xs.length):∃ x∈xs,il xs i=some x:=by
 obtain ⟨n,rfl⟩:=Int.eq_ofNat_of_zero_le h0;have hn:n < xs.length:=by omega
 exact ⟨xs[n],List.getElem_mem hn,bT (by simp [hn])⟩
theorem tK {is:List Int} (i:Int) (h0:0<=i) (h1:i < is.length):∃ c∈is,il (is.map V.int) i=some (.int c):=by
 obtain ⟨x,hx,e⟩:=nQ (is.map V.int) i h0 (by simpa using h1);obtain ⟨c,hc,rfl⟩:=List.mem_map.mp hx;exact ⟨c,hc,e⟩
theorem oZ (i:Int):uQ i 48271:=.inr ⟨by decide,by decide⟩
end L2
namespace Hl
open PySem L2
abbrev bJ:=List (Int×(Int×Str))
structure PScr where
 prom:Int
 row:bJ
 seen:Int
structure PLd where
 num:Int
 told:List (Int×bJ)
 op:Bool
 said:List (Int×Str)
 hands:List (Int×List Int)
structure PH where
 cnt:Int
 scrs:List PScr
 leads:List (Int×PLd)
 stop:List Int
 wrs:List (Int×Int×Int×Str)
inductive Deed where
 | rise (o:Int) | ask (o p:Int) | say (o:Int) (s:Str) | write (o p pl:Int) | settled (o:Int) | stop (o:Int) | wake (o:Int)
inductive Ans where
 | non | int (i:Int) | bl (b:Bool) | str (s:Str) | prs (l:List (Int×Str))
noncomputable def nB:PScr:=⟨-1,[],-1⟩
noncomputable def init (n:Nat):PH:=⟨n,List.replicate n nB,[],[],[]⟩
noncomputable def c_ (cnt:Int) (n:Int):Bool:=decide (cnt < 2 * n)
noncomputable def aM (cnt own seen:Int):Int:=seen+1+(own - (seen+1)) % cnt
noncomputable def aR (b:bJ) (p:Int×(Int×Str)):bJ:=match ay b p.1 with
 | none=>aJ b p.1 p.2
 | some e=>if e.1 < p.2.1 then aJ b p.1 p.2 else b
noncomputable def e_ (rs:List bJ):bJ:=rs.foldl (fun b r=>r.foldl aR b) []
noncomputable def mG (n:Int):PLd:=⟨n,[],false,[],[]⟩
noncomputable def jb (l:PLd):PLd:={ l with op:=true,said:=(e_ (l.told.map (·.2))).foldl (fun s q=>aJ s q.1 q.2.2) l.said }
noncomputable def cY (cnt:Int) (l:PLd) (j:Int) (row:bJ):PLd:=if l.op=true then l else
 if c_ cnt (aJ l.told j row).length=true then jb { l with told:=aJ l.told j row } else { l with told:=aJ l.told j row }
noncomputable def b_ (said:List (Int×Str)):Nat:=((List.range (said.length+1)).find? fun n:Nat=>(ay said (n:Int)).isNone).getD 0
noncomputable def tI (l:PLd) (s:Str):PLd:={ l with said:=aJ l.said (b_ l.said) s }
noncomputable def cA (l:List Int) (j:Int):List Int:=if j∈l then l else l++[j]
noncomputable def ix (l:PLd) (j pl:Int):PLd:={ l with hands:=aJ l.hands pl (cA ((ay l.hands pl).getD []) j) }
noncomputable def tL (a:Int):List Int->List Int
 | []=>[a]
 | b :: r=>if a<=b then a :: b :: r else b :: tL a r
noncomputable def ir (l:List Int):List Int:=l.foldr tL []
noncomputable def iD (cnt:Int) (l:PLd):List (Int×Str):=((ir (l.hands.map (·.1))).filter fun pl=>c_ cnt ((ay l.hands pl).getD []).length).map fun pl=>(pl,(ay l.said pl).getD "")
noncomputable def cc {β:Type} (l:List (Int×β)) (k:Int):List (Int×β):=l.filter fun p=>decide (p.1≠k)
noncomputable def yF (A:PH) (i:Nat) (s:PScr):PH:={ A with scrs:=A.scrs.set i s }
noncomputable def eY (A:PH) (own num:Int):PH:=match A.scrs[own.toNat]? with
 | none=>A
 | some s=>{ A with leads:=cc A.leads own,scrs:=A.scrs.set own.toNat { s with seen:=if s.seen < num then num else s.seen } }
noncomputable def aW (A:PH) (i:Int):Bool:=decide (0<=i)&&decide (i < A.cnt)
noncomputable def eN (A:PH) (own:Int):PH×Ans:=if own∈A.stop then (A,.non) else match A.scrs[own.toNat]? with
 | none=>(A,.non)
 | some s=>let n:=aM A.cnt own s.seen; ({ A with scrs:=A.scrs.set own.toNat { s with seen:=n },leads:=aJ A.leads own (mG n) },.int n)
noncomputable def fy (A:PH) (own other:Int):PH×Ans:=match ay A.leads own with
 | none=>(A,.non)
 | some l=>if other∈A.stop then (A,.non) else match A.scrs[other.toNat]? with
  | none=>(A,.non)
  | some s=>if l.num < s.prom then (eY A own s.prom,.bl false) else ({ A with scrs:=A.scrs.set other.toNat { s with prom:=l.num },leads:=aJ A.leads own (cY A.cnt l other s.row) },.bl true)
noncomputable def f_ (A:PH) (own:Int) (sy:Str):PH×Ans:=match ay A.leads own with
 | none=>(A,.non)
 | some l=>if l.op=true then ({ A with leads:=aJ A.leads own (tI l sy) },.int (b_ l.said)) else (A,.non)
noncomputable def bV (A:PH) (own other pl:Int):PH×Ans:=match ay A.leads own with
 | none=>(A,.non)
 | some l=>match ay l.said pl with
  | none=>(A,.non)
  | some sy=>if other∈A.stop then (A,.non) else match A.scrs[other.toNat]? with
   | none=>(A,.non)
   | some s=>if l.num < s.prom then (eY A own s.prom,.bl false) else
    ({ A with scrs:=A.scrs.set other.toNat { s with prom:=l.num,row:=aJ s.row pl (l.num,sy) },wrs:=A.wrs++[(l.num,other,pl,sy)],leads:=aJ A.leads own (ix l other pl) },.bl true)
noncomputable def cZ (A:PH) (own:Int):Ans:=match ay A.leads own with
 | none=>.prs []
 | some l=>.prs (iD A.cnt l)
noncomputable def d8 (A:PH) (own:Int):PH×Ans:=if own∈A.stop then (A,.bl false) else ({ A with stop:=A.stop++[own],leads:=cc A.leads own },.bl true)
noncomputable def eV (A:PH) (own:Int):PH×Ans:=if own∈A.stop then ({ A with stop:=A.stop.filter fun k=>decide (k≠own) },.bl true) else (A,.bl false)
noncomputable def step (A:PH):Deed->PH×Ans
 | .rise o=>if aW A o=true then eN A o else (A,.str "no scribe")
 | .ask o p=>if aW A o=true then (if aW A p=true then fy A o p else (A,.str "no scribe")) else (A,.str "no scribe")
 | .say o s=>if aW A o=true then f_ A o s else (A,.str "no scribe")
 | .write o p pl=>if aW A o=true then (if aW A p=true then bV A o p pl else (A,.str "no scribe")) else (A,.str "no scribe")
 | .settled o=>if aW A o=true then (A,cZ A o) else (A,.str "no scribe")
 | .stop o=>if aW A o=true then d8 A o else (A,.str "no scribe")
 | .wake o=>if aW A o=true then eV A o else (A,.str "no scribe")
noncomputable def di (A:PH) (ds:List Deed):PH:=ds.foldl (fun A d=>(step A d).1) A
noncomputable def jV:PH->List Deed->List Ans
 | _,[]=>[]
 | A,d :: ds=>(step A d).2 :: jV (step A d).1 ds
theorem ji (A:PH) (ds:List Deed) (d:Deed):di A (ds++[d])=(step (di A ds) d).1:=by unfold di; rw [List.foldl_append]; rfl
theorem ny:∀ (A:PH) (ds:List Deed) (d:Deed),jV A (ds++[d])=jV A ds++[(step (di A ds) d).2]
 | A,[],d=>rfl
 | A,e :: ds,d=>by show (step A e).2 :: jV (step A e).1 (ds++[d])=_; rw [ny]; rfl
theorem lj:∀ (A:PH) (ds:List Deed),(jV A ds).length=ds.length
 | _,[]=>rfl
 | A,d :: ds=>by show (jV (step A d).1 ds).length+1=ds.length+1; rw [lj]
section
variable {β:Type}
noncomputable def cm (F:Int->V->β->Prop) (kvs:List (bh×V)) (l:List (Int×β)):Prop:=Paired (fun (p:bh×V) (q:Int×β)=>p.1=Sum.inl q.1/\F q.1 p.2 q.2) kvs l
theorem cm.len {F:Int->V->β->Prop}{kvs:List (bh×V)}{l:List (Int×β)} (d:cm F kvs l):kvs.length=l.length:=Paired.length d
theorem cm.imp {F G:Int->V->β->Prop}{kvs:List (bh×V)}{l:List (Int×β)} (d:cm F kvs l) (h:∀ k v y,(k,y)∈l->F k v y->G k v y):cm G kvs l:=by
 unfold cm at d ⊢
 induction d with
 | nil=>exact .nil
 | @cons p q ps qs e t ih=>exact .cons ⟨e.1,h _ _ _ (by simp) e.2⟩ (ih fun k v y hm=>h k v y (List.mem_cons_of_mem _ hm))
theorem cm.keys {F:Int->V->β->Prop}{kvs:List (bh×V)}{l:List (Int×β)} (d:cm F kvs l):kvs.map (·.1)=(l.map (·.1)).map Sum.inl:=by
 unfold cm at d
 induction d with
 | nil=>rfl
 | @cons p q ps qs e t ih=>rw [List.map_cons,ih,e.1]; rfl
theorem cm.any {F:Int->V->β->Prop}{kvs:List (bh×V)}{l:List (Int×β)} (d:cm F kvs l) (k:Int):(kvs.any fun kv=>decide (kv.1=Sum.inl k))=l.any fun p=>decide (p.1=k):=by
 unfold cm at d
 induction d with
 | nil=>rfl
 | @cons p q ps qs e t ih =>
  rw [List.any_cons,List.any_cons,ih,e.1]
  congr 1
  exact decide_eq_decide.mpr ⟨fun z=>Sum.inl.inj z,fun z=>congrArg _ z⟩
theorem cm.put {F:Int->V->β->Prop}{kvs:List (bh×V)}{l:List (Int×β)} (d:cm F kvs l) (k:Int) {v:V}{y:β} (h:F k v y):cm F (bB kvs (Sum.inl k) v) (aJ l k y):=by
 unfold bB aJ;rw [d.any k];split
 ·have:∀ {kvs:List (bh×V)}{l:List (Int×β)},cm F kvs l->cm F (kvs.map fun kv=>if kv.1=Sum.inl k then (kv.1,v) else kv) (l.map fun p=>if p.1=k then (p.1,y) else p):=by
   intro kvs l d;unfold cm at d ⊢
   induction d with
   | nil=>exact .nil
   | @cons p q ps qs e t ih =>
    refine .cons ?_ ih;dsimp only
    by_cases z:q.1=k
    ·rw [if_pos (show p.1=Sum.inl k by rw [e.1,z]),if_pos z]; exact ⟨e.1,by rw [z]; exact h⟩
    ·rw [if_neg (show ¬ p.1=Sum.inl k by rw [e.1]; exact fun w=>z (Sum.inl.inj w)),if_neg z]; exact e
  exact this d
 ·exact Paired.snoc d ⟨rfl,h⟩
theorem cm.get {F:Int->V->β->Prop}{kvs:List (bh×V)}{l:List (Int×β)} (d:cm F kvs l) (k:Int):(ay l k=none/\bL kvs (Sum.inl k)=none)\/∃ v y,ay l k=some y/\bL kvs (Sum.inl k)=some v/\F k v y:=by
 unfold cm at d
 induction d with
 | nil=>exact .inl ⟨rfl,rfl⟩
 | @cons p q ps qs e t ih =>
  unfold ay bL;rw [List.find?_cons,List.find?_cons]
  by_cases z:q.1=k
  ·rw [decide_eq_true z,decide_eq_true (show p.1=Sum.inl k by rw [e.1,z])]
   exact .inr ⟨p.2,q.2,rfl,rfl,by rw [<- z]; exact e.2⟩
  ·rw [decide_eq_false z,decide_eq_false (show ¬ p.1=Sum.inl k by rw [e.1]; exact fun w=>z (Sum.inl.inj w))]
   exact ih
theorem cm.some {F:Int->V->β->Prop}{kvs:List (bh×V)}{l:List (Int×β)} (d:cm F kvs l) {k:Int}{y:β} (h:ay l k=some y):∃ v,bL kvs (Sum.inl k)=some v/\F k v y:=by
 rcases d.get k with ⟨z,_⟩ | ⟨v,y',z,z1,z2⟩
 ·rw [h] at z; cases z
 ·rw [h] at z; cases z; exact ⟨v,z1,z2⟩
theorem cm.drop {F:Int->V->β->Prop}{kvs:List (bh×V)}{l:List (Int×β)} (d:cm F kvs l) (k:Int):cm F (eZ kvs (Sum.inl k)) (cc l k):=by
 unfold cm at d ⊢
 induction d with
 | nil=>exact .nil
 | @cons p q ps qs e t ih =>
  unfold eZ cc;rw [List.filter_cons,List.filter_cons]
  by_cases z:q.1=k
  ·rw [decide_eq_false (show ¬ p.1≠Sum.inl k by rw [e.1,z]; exact fun w=>w rfl),decide_eq_false (show ¬ q.1≠k from fun w=>w z)]
   exact ih
  ·rw [decide_eq_true (show p.1≠Sum.inl k by rw [e.1]; exact fun w=>z (Sum.inl.inj w)),decide_eq_true (show q.1≠k from z)]
   exact .cons e ih
theorem m4 (l:List (Int×β)) (k:Int):(cc l k).length<=l.length:=List.length_filter_le ..
theorem fI {l:List (Int×β)}{k:Int}{p:Int×β}:p∈cc l k↔p∈l/\p.1≠k:=by unfold cc; rw [List.mem_filter]; simp
theorem ww {l:List (Int×β)} (k:Int) (h:(l.map (·.1)).Nodup):((cc l k).map (·.1)).Nodup:=List.Nodup.sublist (List.Sublist.map _ (List.filter_sublist ..)) h
end
noncomputable def gH (l:List Int):List (bh×V):=l.map fun j=>(Sum.inl j,V.bl true)
theorem oa (l:List Int):(gH l).length=l.length:=List.length_map ..
theorem fA (l:List Int) (k:Int):bL (gH l) (Sum.inl k)=if k∈l then some (.bl true) else none:=by
 induction l with
 | nil=>rfl
 | cons j r ih =>
  show bL ((Sum.inl j,V.bl true) :: gH r) (Sum.inl k)=_
  by_cases z:j=k
  ·subst z; rw [gn rfl]; simp
  ·rw [gq (fun w=>z (Sum.inl.inj w)),ih]
   have:(k∈j :: r)↔k∈r:=by simp [Ne.symm z]
   simp only [this]
theorem xF (l:List Int) (k:Int):((gH l).any fun kv=>decide (kv.1=Sum.inl k))=decide (k∈l):=by
 induction l with
 | nil=>simp [gH]
 | cons j r ih =>
  show (decide ((Sum.inl j:bh)=Sum.inl k) || (gH r).any _)=_;rw [ih]
  by_cases z:j=k
  ·subst z; simp
  ·have:(Sum.inl j:bh)≠Sum.inl k:=fun w=>z (Sum.inl.inj w)
   simp [this,Ne.symm z]
theorem kZ (l:List Int) (k:Int):bB (gH l) (Sum.inl k) (.bl true)=gH (cA l k):=by
 unfold bB cA;rw [xF]
 by_cases h:k∈l
 ·rw [if_pos (decide_eq_true h),if_pos h]
  unfold gH;rw [List.map_map];apply List.map_congr_left;intro j _;show (if (Sum.inl j:bh)=Sum.inl k then (Sum.inl j,V.bl true) else (Sum.inl j,V.bl true))=_;split<;>rfl
 ·rw [if_neg (by rw [decide_eq_false h]; exact Bool.false_ne_true),if_neg h]
  unfold gH; rw [List.map_append]; rfl
theorem ux (l:List Int) (k:Int):eZ (gH l) (Sum.inl k)=gH (l.filter fun j=>decide (j≠k)):=by
 unfold eZ gH;rw [List.filter_map]
 congr 1
 apply List.filter_congr;intro j _;show decide ((Sum.inl j:bh)≠Sum.inl k)=decide (j≠k);exact decide_eq_decide.mpr ⟨fun z w=>z (congrArg _ w),fun z w=>z (Sum.inl.inj w)⟩
theorem p0 (l:List Int) (k:Int):(cA l k).length<=l.length+1:=by
 unfold cA;split
 ·omega
 ·simp
theorem cm.putI {β:Type}{F G:Int->V->β->Prop}{kvs:List (bh×V)}{l:List (Int×β)} (d:cm F kvs l) (k:Int) {v:V}{y:β} (h:G k v y) (i:∀ j v y,j≠k->F j v y->G j v y):cm G (bB kvs (Sum.inl k) v) (aJ l k y):=by
 unfold bB aJ;rw [d.any k];split
 ·have:∀ {kvs:List (bh×V)}{l:List (Int×β)},cm F kvs l->cm G (kvs.map fun kv=>if kv.1=Sum.inl k then (kv.1,v) else kv) (l.map fun p=>if p.1=k then (p.1,y) else p):=by
   intro kvs l d;unfold cm at d ⊢
   induction d with
   | nil=>exact .nil
   | @cons p q ps qs e t ih =>
    refine .cons ?_ ih;dsimp only
    by_cases z:q.1=k
    ·rw [if_pos (show p.1=Sum.inl k by rw [e.1,z]),if_pos z]; exact ⟨e.1,by rw [z]; exact h⟩
    ·rw [if_neg (show ¬ p.1=Sum.inl k by rw [e.1]; exact fun w=>z (Sum.inl.inj w)),if_neg z]; exact ⟨e.1,i _ _ _ z e.2⟩
  exact this d
 ·next hn =>
  refine Paired.snoc ?_ ⟨rfl,h⟩
  have:∀ {kvs:List (bh×V)}{l:List (Int×β)},cm F kvs l->¬ (l.any fun p=>decide (p.1=k))=true->cm G kvs l:=by
   intro kvs l d hn;exact d.imp fun j v y hm e=>i j v y (fun z=>hn (List.any_eq_true.mpr ⟨_,hm,decide_eq_true z⟩)) e
  exact this d hn
inductive Role where
 | hall | sl | ld | sd | wl | scr (i:Nat) | row (i:Nat) | lp (k:Int) | lt (k:Int) | ls (k:Int) | lh (k:Int) | hd (k pl:Int) | tr (k j:Int) | out
 deriving DecidableEq
abbrev Al:=Role->Addr
abbrev Ro:=Addr->Option Role
noncomputable def cO (α:Al) (r:Role) (a:Addr):Al:=fun q=>if q=r then a else α q
theorem bC {α:Al}{r:Role}{a:Addr}:cO α r a r=a:=if_pos rfl
theorem a6 {α:Al}{r q:Role}{a:Addr} (h:q≠r):cO α r a q=α q:=if_neg h
noncomputable def dh (ρ:Ro) (a:Addr) (r:Role):Ro:=fun b=>if b=a then some r else ρ b
theorem bP {ρ:Ro}{a:Addr}{r:Role}:dh ρ a r a=some r:=if_pos rfl
theorem a7 {ρ:Ro}{a b:Addr}{r:Role} (h:b≠a):dh ρ a r b=ρ b:=if_neg h
structure Stp (R:Role->Prop) (H:Hp) (ρ:Ro) (H':Hp) (ρ':Ro):Prop where
 ro:∀ b u,H b=some u->ρ' b=ρ b
 st:∀ b u,H b=some u->∃ u',H' b=some u'
 kp:∀ b u,H b=some u->(∀ r,ρ b=some r->¬ R r)->H' b=some u
 fr:(∀ b,H b=none->ρ b=none)->∀ b,H' b=none->ρ' b=none
noncomputable def yf (H:Hp) (ρ:Ro):Prop:=∀ b,H b=none->ρ b=none
theorem Stp.refl {R:Role->Prop}{H:Hp}{ρ:Ro}:Stp R H ρ H ρ:=⟨fun _ _ _=>rfl,fun _ u e=>⟨u,e⟩,fun _ _ e _=>e,fun h=>h⟩
theorem Stp.trans {R R':Role->Prop}{H H1 H2:Hp}{ρ ρ1 ρ2:Ro} (x:Stp R H ρ H1 ρ1) (y:Stp R' H1 ρ1 H2 ρ2):Stp (fun r=>R r\/R' r) H ρ H2 ρ2 where
 ro:=fun b u e=>by obtain ⟨u1,e1⟩:=x.st b u e; rw [y.ro b u1 e1,x.ro b u e]
 st:=fun b u e=>by obtain ⟨u1,e1⟩:=x.st b u e; exact y.st b u1 e1
 kp:=fun b u e h=>y.kp b u (x.kp b u e fun r hr z=>h r hr (.inl z)) fun r hr z=>h r (by rw [<- x.ro b u e]; exact hr) (.inr z)
 fr:=fun h=>y.fr (x.fr h)
theorem Stp.mono {R R':Role->Prop}{H H':Hp}{ρ ρ':Ro} (x:Stp R H ρ H' ρ') (h:∀ r,R r->R' r):Stp R' H ρ H' ρ':=⟨x.ro,x.st,fun b u e z=>x.kp b u e fun r hr w=>z r hr (h r w),x.fr⟩
theorem Stp.two {R:Role->Prop}{H H1 H2:Hp}{ρ ρ1 ρ2:Ro} (x:Stp R H ρ H1 ρ1) (y:Stp R H1 ρ1 H2 ρ2):Stp R H ρ H2 ρ2:=(x.trans y).mono fun _ h=>h.elim id id
theorem nT {R:Role->Prop}{H:Hp}{ρ:Ro}{a:Addr}{o:HO} (h:H a=none):Stp R H ρ (aA H a o) ρ where
 ro:=fun _ _ _=>rfl
 st:=fun b u e=>⟨u,by rw [ag (ai e h)]; exact e⟩
 kp:=fun b u e _=>by rw [ag (ai e h)]; exact e
 fr:=fun n b e=>n b (if z:b=a then by rw [z]; exact h else by rw [ag z] at e; exact e)
theorem kS {R:Role->Prop}{H:Hp}{ρ:Ro}{a:Addr}{o:HO} (r:Role) (h:H a=none):Stp R H ρ (aA H a o) (dh ρ a r) where
 ro:=fun b u e=>a7 (ai e h)
 st:=fun b u e=>⟨u,by rw [ag (ai e h)]; exact e⟩
 kp:=fun b u e _=>by rw [ag (ai e h)]; exact e
 fr:=fun n b e=>by
  have z:b≠a:=fun z=>by rw [z,upd_same] at e; cases e
  rw [a7 z]; exact n b (by rw [ag z] at e; exact e)
theorem kR {R:Role->Prop}{H H':Hp}{ρ:Ro} (s:aV H H'):Stp R H ρ H' ρ:=⟨fun _ _ _=>rfl,fun b u e=>⟨u,s b u e⟩,fun b u e _=>s b u e,fun n b e=>n b (by
 cases q:H b with
 | none=>rfl
 | some u=>rw [s b u q] at e; cases e)⟩
theorem cr {R:Role->Prop}{H:Hp}{ρ:Ro}{a:Addr}{o u:HO}{r:Role} (h:H a=some u) (hr:ρ a=some r) (hR:R r):Stp R H ρ (aA H a o) ρ where
 ro:=fun _ _ _=>rfl
 st:=fun b v e=>if z:b=a then ⟨o,by rw [z,upd_same]⟩ else ⟨v,by rw [ag z]; exact e⟩
 kp:=fun b v e n=>by
  have z:b≠a:=fun z=>n r (by rw [z]; exact hr) hR;rw [ag z]; exact e
 fr:=fun n b e=>n b (if z:b=a then by rw [z,upd_same] at e; cases e else by rw [ag z] at e; exact e)
theorem rV {R:Role->Prop}{H H':Hp}{ρ:Ro}{p q:Addr}{r1 r2:Role} (k:∀ b u,H b=some u->b≠p->b≠q->H' b=some u) (h1:∃ u,H' p=some u) (h2:∃ u,H' q=some u) (e1:ρ p=some r1) (e2:ρ q=some r2) (R1:R r1) (R2:R r2):Stp R H ρ H' ρ where
 ro:=fun _ _ _=>rfl
 st:=fun b u e=>by
  by_cases z1:b=p
  ·rw [z1]; exact h1
  ·by_cases z2:b=q
   ·rw [z2]; exact h2
   ·exact ⟨u,k b u e z1 z2⟩
 kp:=fun b u e n=>k b u e (fun z=>n r1 (by rw [z]; exact e1) R1) (fun z=>n r2 (by rw [z]; exact e2) R2)
 fr:=fun n b e=>n b (by
  cases w:H b with
  | none=>rfl
  | some u =>
   by_cases z1:b=p
   ·obtain ⟨u',e'⟩:=h1; rw [z1,e'] at e; cases e
   ·by_cases z2:b=q
    ·obtain ⟨u',e'⟩:=h2; rw [z2,e'] at e; cases e
    ·rw [k b u w z1 z2] at e; cases e)
theorem bR {ρ:Ro}{a b:Addr}{r q:Role} (h:ρ a=some r) (h':ρ b=some q) (n:r≠q):a≠b:=fun z=>n (by rw [z,h'] at h; exact (Option.some.inj h).symm)
theorem mU {ρ:Ro}{a b:Addr}{r:Role} (h:ρ a=some r) (h':ρ b=none):a≠b:=fun z=>by rw [z,h'] at h; cases h
structure Cs where
 h:Addr
 s:Addr
 l:Addr
noncomputable def nG (H:Hp) (ρ:Ro) (_:Int) (v:V) (e:Int×Str):Prop:=∃ t,v=.ref t/\H t=some (.tup [.int e.1,.str e.2])/\ρ t=none
theorem nG.stp {R:Role->Prop}{H H':Hp}{ρ ρ':Ro}{k:Int}{v:V}{e:Int×Str} (x:nG H ρ k v e) (s:Stp R H ρ H' ρ'):nG H' ρ' k v e:=by
 obtain ⟨t,rfl,ht,hr⟩:=x;exact ⟨t,rfl,s.kp t _ ht (fun r z=>by rw [hr] at z; cases z),(s.ro t _ ht).trans hr⟩
noncomputable def sF (o c p:V) (r:Addr) (sn:V):List (Str×V):=[("own",o),("count",c),("promised",p),("row",.ref r),("seen",sn)]
noncomputable def lF (n c:V) (t:Addr) (o:V) (s h:Addr):List (Str×V):=[("number",n),("count",c),("told",.ref t),("opened",o),("said",.ref s),("hands",.ref h)]
noncomputable def hF (c:V) (sl ld sd wl:Addr):List (Str×V):=[("count",c),("scribes",.ref sl),("leads",.ref ld),("stopped",.ref sd),("writings",.ref wl)]
structure ScrAt (c:Cs) (H:Hp) (α:Al) (ρ:Ro) (cnt:Int) (i:Nat) (s:PScr):Prop where
 ob:∃ dx,H (α (.scr i))=some (.ins c.s dx (sF (.int i) (.int cnt) (.int s.prom) (α (.row i)) (.int s.seen)))
 rw:∃ kvs,H (α (.row i))=some (.dK kvs)/\cm (nG H ρ) kvs s.row
 r1:ρ (α (.scr i))=some (.scr i)
 r2:ρ (α (.row i))=some (.row i)
noncomputable def yd (i:Nat) (r:Role):Prop:=r=.scr i\/r=.row i
theorem ScrAt.stp {c:Cs}{R:Role->Prop}{H H':Hp}{α α':Al}{ρ ρ':Ro}{cnt:Int}{i:Nat}{s:PScr} (x:ScrAt c H α ρ cnt i s) (t:Stp R H ρ H' ρ') (n1:¬ R (.scr i)) (n2:¬ R (.row i)) (e1:α' (.scr i)=α (.scr i)) (e2:α' (.row i)=α (.row i)):ScrAt c H' α' ρ' cnt i s:=by
 obtain ⟨⟨dx,o⟩,⟨kvs,o2,k⟩,r1,r2⟩:=x;refine ⟨⟨dx,?_⟩,⟨kvs,?_,k.imp fun _ _ _ _ z=>z.stp t⟩,?_,?_⟩
 ·rw [e1,e2]; exact t.kp _ _ o fun r hr=>by rw [r1] at hr; cases hr; exact n1
 ·rw [e2]; exact t.kp _ _ o2 fun r hr=>by rw [r2] at hr; cases hr; exact n2
 ·rw [e1,t.ro _ _ o]; exact r1
 ·rw [e2,t.ro _ _ o2]; exact r2
noncomputable def AU (H:Hp) (α:Al) (ρ:Ro) (k:Int) (j:Int) (v:V) (row:bJ):Prop:=v=.ref (α (.tr k j))/\ρ (α (.tr k j))=some (.tr k j)/\∃ kv,H (α (.tr k j))=some (.dK kv)/\cm (nG H ρ) kv row
noncomputable def AO (H:Hp) (α:Al) (ρ:Ro) (k:Int) (pl:Int) (v:V) (hs:List Int):Prop:=v=.ref (α (.hd k pl))/\ρ (α (.hd k pl))=some (.hd k pl)/\H (α (.hd k pl))=some (.dK (gH hs))
structure LdAt (c:Cs) (H:Hp) (α:Al) (ρ:Ro) (cnt:Int) (k:Int) (l:PLd):Prop where
 ob:∃ dx,H (α (.lp k))=some (.ins c.l dx (lF (.int l.num) (.int cnt) (α (.lt k)) (.bl l.op) (α (.ls k)) (α (.lh k))))
 tl:∃ kvs,H (α (.lt k))=some (.dK kvs)/\cm (AU H α ρ k) kvs l.told
 sd:∃ kvs,H (α (.ls k))=some (.dK kvs)/\cm (fun _ v (y:Str)=>v=.str y) kvs l.said
 hn:∃ kvs,H (α (.lh k))=some (.dK kvs)/\cm (AO H α ρ k) kvs l.hands
 r1:ρ (α (.lp k))=some (.lp k)
 r2:ρ (α (.lt k))=some (.lt k)
 r3:ρ (α (.ls k))=some (.ls k)
 r4:ρ (α (.lh k))=some (.lh k)
noncomputable def eI (k:Int):Role->Prop
 | .lp j=>j=k
 | .lt j=>j=k
 | .ls j=>j=k
 | .lh j=>j=k
 | .hd j _=>j=k
 | .tr j _=>j=k
 | _=>False
theorem LdAt.stp {c:Cs}{R:Role->Prop}{H H':Hp}{α α':Al}{ρ ρ':Ro}{cnt k:Int}{l:PLd} (x:LdAt c H α ρ cnt k l) (t:Stp R H ρ H' ρ') (n:∀ r,eI k r->¬ R r) (e:∀ r,eI k r->α' r=α r):LdAt c H' α' ρ' cnt k l:=by
 obtain ⟨⟨dx,o⟩,⟨kt,ot,jt⟩,⟨ks,os,js⟩,⟨kh,oh,jh⟩,r1,r2,r3,r4⟩:=x;have up:∀ (r:Role) {u:HO},eI k r->H (α r)=some u->ρ (α r)=some r->H' (α' r)=some u/\ρ' (α' r)=some r:=fun r {u} h1 h2 h3=>by
  rw [e r h1];exact ⟨t.kp _ _ h2 fun q hq=>by rw [h3] at hq; cases hq; exact n r h1,(t.ro _ _ h2).trans h3⟩
 refine ⟨⟨dx,?_⟩,⟨kt,(up (.lt k) rfl ot r2).1,jt.imp fun j v y _ z=>?_⟩,⟨ks,(up (.ls k) rfl os r3).1,js⟩,⟨kh,(up (.lh k) rfl oh r4).1,jh.imp fun j v y _ z=>?_⟩,(up (.lp k) rfl o r1).2,(up (.lt k) rfl ot r2).2,(up (.ls k) rfl os r3).2,(up (.lh k) rfl oh r4).2⟩
 ·rw [e _ (show eI k (.lt k) from rfl),e _ (show eI k (.ls k) from rfl),e _ (show eI k (.lh k) from rfl)]; exact (up (.lp k) rfl o r1).1
 ·obtain ⟨z1,z2,kv,z3,z4⟩:=z
  have:=up (.tr k j) rfl z3 z2;exact ⟨by rw [e _ (show eI k (.tr k j) from rfl)]; exact z1,this.2,kv,this.1,z4.imp fun _ _ _ _ w=>w.stp t⟩
 ·obtain ⟨z1,z2,z3⟩:=z
  have:=up (.hd k j) rfl z3 z2;exact ⟨by rw [e _ (show eI k (.hd k j) from rfl)]; exact z1,this.2,this.1⟩
noncomputable def zx (H:Hp) (ρ:Ro) (v:V) (w:Int×Int×Int×Str):Prop:=∃ t,v=.ref t/\H t=some (.tup [.int w.1,.int w.2.1,.int w.2.2.1,.str w.2.2.2])/\ρ t=none
theorem zx.stp {R:Role->Prop}{H H':Hp}{ρ ρ':Ro}{v:V}{w:Int×Int×Int×Str} (x:zx H ρ v w) (s:Stp R H ρ H' ρ'):zx H' ρ' v w:=by
 obtain ⟨t,rfl,ht,hr⟩:=x;exact ⟨t,rfl,s.kp t _ ht (fun r z=>by rw [hr] at z; cases z),(s.ro t _ ht).trans hr⟩
structure HallAt (c:Cs) (H:Hp) (α:Al) (ρ:Ro) (A:PH):Prop where
 ob:∃ dx,H (α .hall)=some (.ins c.h dx (hF (.int A.cnt) (α .sl) (α .ld) (α .sd) (α .wl)))
 sl:H (α .sl)=some (.lst ((List.range A.scrs.length).map fun i=>.ref (α (.scr i))))
 ld:∃ kvs,H (α .ld)=some (.dK kvs)/\cm (fun k v (_:PLd)=>v=.ref (α (.lp k))) kvs A.leads
 sd:H (α .sd)=some (.dK (gH A.stop))
 wl:∃ us,H (α .wl)=some (.lst us)/\Paired (zx H ρ) us A.wrs
 sc:∀ i s,A.scrs[i]? = some s->ScrAt c H α ρ A.cnt i s
 le:∀ k l,(k,l)∈A.leads->LdAt c H α ρ A.cnt k l
 r1:ρ (α .hall)=some .hall
 r2:ρ (α .sl)=some .sl
 r3:ρ (α .ld)=some .ld
 r4:ρ (α .sd)=some .sd
 r5:ρ (α .wl)=some .wl
 ln:A.cnt=(A.scrs.length:Int)
 nr:yf H ρ
 nd:(A.leads.map (·.1)).Nodup
noncomputable def BL:Role->Prop
 | .hall=>True
 | .sl=>True
 | .ld=>True
 | .sd=>True
 | .wl=>True
 | _=>False
theorem HallAt.scr {c:Cs}{H H':Hp}{α:Al}{ρ ρ':Ro}{A:PH}{i:Nat}{s s':PScr} (x:HallAt c H α ρ A) (hi:A.scrs[i]? = some s) (t:Stp (yd i) H ρ H' ρ') (n:ScrAt c H' α ρ' A.cnt i s'):HallAt c H' α ρ' (yF A i s'):=by
 have hil:i < A.scrs.length:=(List.getElem?_eq_some_iff.mp hi).1;have up:∀ {r:Role}{u:HO},H (α r)=some u->ρ (α r)=some r->¬ yd i r->H' (α r)=some u/\ρ' (α r)=some r:=fun {r u} h2 h3 h4 =>
  ⟨t.kp _ _ h2 fun q hq=>by rw [h3] at hq; cases hq; exact h4,(t.ro _ _ h2).trans h3⟩
 have ns:∀ r:Role,BL r->¬ yd i r:=fun r h z=>by rcases z with rfl | rfl<;>exact h
 obtain ⟨dx,o⟩:=x.ob;obtain ⟨kl,ol,jl⟩:=x.ld;obtain ⟨us,ow,jw⟩:=x.wl;refine ⟨⟨dx,(up o x.r1 (ns _ trivial)).1⟩,?_,⟨kl,(up ol x.r3 (ns _ trivial)).1,jl⟩,(up x.sd x.r4 (ns _ trivial)).1,⟨us,(up ow x.r5 (ns _ trivial)).1,Paired.mapP jw fun _ _ z=>z.stp t⟩,fun j s1 hj=>?_,fun k l hl=>?_,
  (up o x.r1 (ns _ trivial)).2,(up x.sl x.r2 (ns _ trivial)).2,(up ol x.r3 (ns _ trivial)).2,(up x.sd x.r4 (ns _ trivial)).2,(up ow x.r5 (ns _ trivial)).2,?_,t.fr x.nr,x.nd⟩
 ·show H' (α .sl)=some (.lst ((List.range (A.scrs.set i s').length).map fun i=>.ref (α (.scr i))))
  rw [List.length_set]; exact (up x.sl x.r2 (ns _ trivial)).1
 ·have hj:(A.scrs.set i s')[j]? = some s1:=hj
  by_cases z:j=i
  ·subst z
   rw [List.getElem?_set_self hil] at hj;cases hj; exact n
  ·rw [List.getElem?_set_ne (Ne.symm z)] at hj
   refine (x.sc j s1 hj).stp t (fun w=>?_) (fun w=>?_) rfl rfl
   ·rcases w with w | w<;>cases w; exact z rfl
   ·rcases w with w | w<;>cases w; exact z rfl
 ·exact (x.le k l hl).stp t (fun r hr w=>by rcases w with rfl | rfl<;>exact hr) fun _ _=>rfl
 ·show A.cnt=((A.scrs.set i s').length:Int)
  rw [List.length_set]; exact x.ln
theorem Ag (o:V) (c:V) (p:V) (r:Addr) (sn:V):(sF o c p r sn).lookup ("own":Str)=some o:=by kernel_rfl
theorem w4 (o:V) (c:V) (p:V) (r:Addr) (sn:V):(sF o c p r sn).lookup ("count":Str)=some c:=by kernel_rfl
theorem fO (o:V) (c:V) (p:V) (r:Addr) (sn:V):(sF o c p r sn).lookup ("promised":Str)=some p:=by kernel_rfl
theorem uU (o:V) (c:V) (p:V) (r:Addr) (sn:V):(sF o c p r sn).lookup ("row":Str)=some (V.ref r):=by kernel_rfl
theorem qI (o:V) (c:V) (p:V) (r:Addr) (sn:V):(sF o c p r sn).lookup ("seen":Str)=some sn:=by kernel_rfl
theorem iQ (o:V) (c:V) (p:V) (r:Addr) (sn:V):(sF o c p r sn).lookup ("promise":Str)=none:=by kernel_rfl
theorem vJ (o:V) (c:V) (p:V) (r:Addr) (sn:V):(sF o c p r sn).lookup ("put":Str)=none:=by kernel_rfl
theorem tW (o:V) (c:V) (p:V) (r:Addr) (sn:V):(sF o c p r sn).lookup ("rise":Str)=none:=by kernel_rfl
theorem vI (o:V) (c:V) (p:V) (r:Addr) (sn:V):(sF o c p r sn).lookup ("see":Str)=none:=by kernel_rfl
theorem lV (o:V) (c:V) (p:V) (r:Addr) (sn:V) (q:V):b6 "promised" q (sF o c p r sn)=sF o c q r sn:=by kernel_rfl
theorem lD (o:V) (c:V) (p:V) (r:Addr) (sn:V) (q:V):b6 "seen" q (sF o c p r sn)=sF o c p r q:=by kernel_rfl
theorem yH (o:V) (c:V) (p:V) (r:Addr) (sn:V):b6 "seen" sn (b6 "row" (.ref r) (b6 "promised" p (b6 "count" c (b6 "own" o []))))=sF o c p r sn:=by kernel_rfl
theorem k8 (n:V) (c:V) (t:Addr) (o:V) (s:Addr) (h:Addr):(lF n c t o s h).lookup ("number":Str)=some n:=by kernel_rfl
theorem sQ (n:V) (c:V) (t:Addr) (o:V) (s:Addr) (h:Addr):(lF n c t o s h).lookup ("count":Str)=some c:=by kernel_rfl
theorem qM (n:V) (c:V) (t:Addr) (o:V) (s:Addr) (h:Addr):(lF n c t o s h).lookup ("told":Str)=some (V.ref t):=by kernel_rfl
theorem pP (n:V) (c:V) (t:Addr) (o:V) (s:Addr) (h:Addr):(lF n c t o s h).lookup ("opened":Str)=some o:=by kernel_rfl
theorem i_ (n:V) (c:V) (t:Addr) (o:V) (s:Addr) (h:Addr):(lF n c t o s h).lookup ("said":Str)=some (V.ref s):=by kernel_rfl
theorem n_ (n:V) (c:V) (t:Addr) (o:V) (s:Addr) (h:Addr):(lF n c t o s h).lookup ("hands":Str)=some (V.ref h):=by kernel_rfl
theorem um (n:V) (c:V) (t:Addr) (o:V) (s:Addr) (h:Addr):(lF n c t o s h).lookup ("hear":Str)=none:=by kernel_rfl
theorem i3 (n:V) (c:V) (t:Addr) (o:V) (s:Addr) (h:Addr):(lF n c t o s h).lookup ("begin_saying":Str)=none:=by kernel_rfl
theorem wd (n:V) (c:V) (t:Addr) (o:V) (s:Addr) (h:Addr):(lF n c t o s h).lookup ("say":Str)=none:=by kernel_rfl
theorem l9 (n:V) (c:V) (t:Addr) (o:V) (s:Addr) (h:Addr):(lF n c t o s h).lookup ("take_hand":Str)=none:=by kernel_rfl
theorem ij (n:V) (c:V) (t:Addr) (o:V) (s:Addr) (h:Addr):(lF n c t o s h).lookup ("settled_pairs":Str)=none:=by kernel_rfl
theorem oO (n:V) (c:V) (t:Addr) (o:V) (s:Addr) (h:Addr) (q:V):b6 "opened" q (lF n c t o s h)=lF n c t q s h:=by kernel_rfl
theorem yZ (n:V) (c:V) (t:Addr) (o:V) (s:Addr) (h:Addr):b6 "hands" (.ref h) (b6 "said" (.ref s) (b6 "opened" o (b6 "told" (.ref t) (b6 "count" c (b6 "number" n [])))))=lF n c t o s h:=by kernel_rfl
theorem sV (c:V) (sl:Addr) (ld:Addr) (sd:Addr) (wl:Addr):(hF c sl ld sd wl).lookup ("count":Str)=some c:=by kernel_rfl
theorem eJ (c:V) (sl:Addr) (ld:Addr) (sd:Addr) (wl:Addr):(hF c sl ld sd wl).lookup ("scribes":Str)=some (V.ref sl):=by kernel_rfl
theorem cQ (c:V) (sl:Addr) (ld:Addr) (sd:Addr) (wl:Addr):(hF c sl ld sd wl).lookup ("leads":Str)=some (V.ref ld):=by kernel_rfl
theorem dO (c:V) (sl:Addr) (ld:Addr) (sd:Addr) (wl:Addr):(hF c sl ld sd wl).lookup ("stopped":Str)=some (V.ref sd):=by kernel_rfl
theorem lM (c:V) (sl:Addr) (ld:Addr) (sd:Addr) (wl:Addr):(hF c sl ld sd wl).lookup ("writings":Str)=some (V.ref wl):=by kernel_rfl
theorem cu (c:V) (sl:Addr) (ld:Addr) (sd:Addr) (wl:Addr):(hF c sl ld sd wl).lookup ("check":Str)=none:=by kernel_rfl
theorem uv (c:V) (sl:Addr) (ld:Addr) (sd:Addr) (wl:Addr):(hF c sl ld sd wl).lookup ("rise":Str)=none:=by kernel_rfl
theorem wm (c:V) (sl:Addr) (ld:Addr) (sd:Addr) (wl:Addr):(hF c sl ld sd wl).lookup ("ask":Str)=none:=by kernel_rfl
theorem mX (c:V) (sl:Addr) (ld:Addr) (sd:Addr) (wl:Addr):(hF c sl ld sd wl).lookup ("fall":Str)=none:=by kernel_rfl
theorem wk (c:V) (sl:Addr) (ld:Addr) (sd:Addr) (wl:Addr):(hF c sl ld sd wl).lookup ("say":Str)=none:=by kernel_rfl
theorem j9 (c:V) (sl:Addr) (ld:Addr) (sd:Addr) (wl:Addr):(hF c sl ld sd wl).lookup ("have_write":Str)=none:=by kernel_rfl
theorem ik (c:V) (sl:Addr) (ld:Addr) (sd:Addr) (wl:Addr):(hF c sl ld sd wl).lookup ("known_settled":Str)=none:=by kernel_rfl
theorem j_ (c:V) (sl:Addr) (ld:Addr) (sd:Addr) (wl:Addr):(hF c sl ld sd wl).lookup ("be_stopped":Str)=none:=by kernel_rfl
theorem oU (c:V) (sl:Addr) (ld:Addr) (sd:Addr) (wl:Addr):(hF c sl ld sd wl).lookup ("come_up":Str)=none:=by kernel_rfl
theorem ze (c:V) (sl:Addr) (ld:Addr) (sd:Addr) (wl:Addr):b6 "writings" (.ref wl) (b6 "stopped" (.ref sd) (b6 "leads" (.ref ld) (b6 "scribes" (.ref sl) (b6 "count" c []))))=hF c sl ld sd wl:=by kernel_rfl
theorem tG {f:Str}{v:V}{n:Nat}:∀ {fs:List (Str×V)},fs.length<=n->(b6 f v fs).length<=n+1:=by
 intro fs h;refine Nat.le_trans ?_ (Nat.succ_le_succ h)
 induction fs generalizing n with
 | nil=>exact Nat.le_refl _
 | cons a r ih =>
  obtain ⟨g,x⟩:=a;unfold b6;split
  ·simp
  ·simp only [List.length_cons]
   have:=ih (n:=r.length) (Nat.le_refl _);omega
theorem oM:(("rise":Str)) ≠ "stop":=by decide +kernel
theorem oK:(("rise":Str)) ≠ "wake":=by decide +kernel
theorem jM:(("ask":Str)) ≠ "rise":=by decide +kernel
theorem re:(("ask":Str)) ≠ "say":=by decide +kernel
theorem qh:(("ask":Str)) ≠ "stop":=by decide +kernel
theorem qg:(("ask":Str)) ≠ "wake":=by decide +kernel
theorem jL:(("say":Str)) ≠ "rise":=by decide +kernel
theorem lI:(("say":Str)) ≠ "ask":=by decide +kernel
theorem qf:(("say":Str)) ≠ "stop":=by decide +kernel
theorem qe:(("say":Str)) ≠ "wake":=by decide +kernel
theorem gT:(("write":Str)) ≠ "rise":=by decide +kernel
theorem fU:(("write":Str)) ≠ "ask":=by decide +kernel
theorem iT:(("write":Str)) ≠ "say":=by decide +kernel
theorem mv:(("write":Str)) ≠ "stop":=by decide +kernel
theorem mt:(("write":Str)) ≠ "wake":=by decide +kernel
theorem j7:(("settled":Str)) ≠ "rise":=by decide +kernel
theorem l8:(("settled":Str)) ≠ "ask":=by decide +kernel
theorem l7:(("settled":Str)) ≠ "say":=by decide +kernel
theorem jA:(("settled":Str)) ≠ "write":=by decide +kernel
theorem oJ:(("stop":Str)) ≠ "rise":=by decide +kernel
theorem qd:(("stop":Str)) ≠ "ask":=by decide +kernel
theorem qc:(("stop":Str)) ≠ "say":=by decide +kernel
theorem my:(("stop":Str)) ≠ "write":=by decide +kernel
theorem j6:(("stop":Str)) ≠ "settled":=by decide +kernel
theorem oI:(("stop":Str)) ≠ "wake":=by decide +kernel
theorem oH:(("wake":Str)) ≠ "rise":=by decide +kernel
theorem qb:(("wake":Str)) ≠ "ask":=by decide +kernel
theorem qa:(("wake":Str)) ≠ "say":=by decide +kernel
theorem mw:(("wake":Str)) ≠ "write":=by decide +kernel
theorem j4:(("wake":Str)) ≠ "settled":=by decide +kernel
theorem fV:(("wake":Str)) ≠ "stop":=by decide +kernel
theorem cm.reput {β:Type}{F:Int->V->β->Prop}{kvs:List (bh×V)}{l:List (Int×β)} (d:cm F kvs l) {k:Int}{y:β} (hk:(ay l k).isSome=true) (h:∀ v y',F k v y'->F k v y):cm F kvs (aJ l k y):=by
 unfold aJ;rw [if_pos]
 ·unfold cm at d ⊢
  clear hk
  induction d with
  | nil=>exact .nil
  | @cons p q ps qs e t ih =>
   refine .cons ?_ ih;dsimp only
   by_cases z:q.1=k
   ·rw [if_pos z]; exact ⟨e.1,by have:=e.2; rw [z] at this ⊢; exact h _ _ this⟩
   ·rw [if_neg z]; exact e
 ·unfold ay at hk
  rw [Option.isSome_map] at hk;obtain ⟨p,hp⟩:=Option.isSome_iff_exists.mp hk;have e:=List.find?_some hp;exact List.any_eq_true.mpr ⟨p,List.mem_of_find?_eq_some hp,e⟩
theorem aP {β:Type} (l:List (Int×β)) (k j:Int) (y:β):ay (aJ l k y) j=if j=k then some y else ay l j:=by
 have F:cm (fun (_:Int) (_:V) (_:β)=>True) (l.map fun p=>(Sum.inl p.1,V.non)) l:=by
  unfold cm
  induction l with
  | nil=>exact .nil
  | cons a r ih=>exact .cons ⟨rfl,trivial⟩ ih
 clear F;unfold aJ
 by_cases h:(l.any fun p=>decide (p.1=k))=true
 ·rw [if_pos h]
  have:∀ l:List (Int×β),ay (l.map fun p=>if p.1=k then (p.1,y) else p) j=if j=k then (ay l j).map (fun _=>y) else ay l j:=by
   intro l
   induction l with
   | nil=>unfold ay; simp
   | cons p r ih =>
    rw [List.map_cons]
    by_cases hp:p.1=k
    ·rw [if_pos hp]
     by_cases hj:p.1=j
     ·unfold ay
      have hjk:j=k:=by omega
      simp [List.find?_cons,hj,hjk]
     ·have e1:ay ((p.1,y) :: r.map fun p=>if p.1=k then (p.1,y) else p) j=ay (r.map fun p=>if p.1=k then (p.1,y) else p) j:=by
       unfold ay; rw [List.find?_cons]; simp [hj]
      have e2:ay (p :: r) j=ay r j:=by unfold ay; rw [List.find?_cons]; simp [hj]
      rw [e1,e2,ih]
    ·rw [if_neg hp]
     by_cases hj:p.1=j
     ·have hjk:¬ j=k:=by omega
      rw [if_neg hjk];unfold ay;simp [List.find?_cons,hj]
     ·have e1:ay (p :: r.map fun p=>if p.1=k then (p.1,y) else p) j=ay (r.map fun p=>if p.1=k then (p.1,y) else p) j:=by
       unfold ay; rw [List.find?_cons]; simp [hj]
      have e2:ay (p :: r) j=ay r j:=by unfold ay; rw [List.find?_cons]; simp [hj]
      rw [e1,e2,ih]
  rw [this]
  by_cases hj:j=k
  ·rw [if_pos hj,if_pos hj]
   obtain ⟨p,hp,e⟩:=List.any_eq_true.mp h;cases q:ay l j with
   | none=>exact absurd (List.mem_map.mpr ⟨p,hp,(of_decide_eq_true e).trans hj.symm⟩) (cz.mp q)
   | some z=>rfl
  ·rw [if_neg hj,if_neg hj]
 ·rw [if_neg h]
  unfold ay;rw [List.find?_append]
  by_cases hj:j=k
  ·subst hj
   rw [if_pos rfl]
   have:l.find? (fun p=>decide (p.1=j))=none:=List.find?_eq_none.mpr fun p hp e=>h (List.any_eq_true.mpr ⟨p,hp,e⟩)
   rw [this]; simp
  ·rw [if_neg hj]
   have:([(k,y)]:List (Int×β)).find? (fun p=>decide (p.1=j))=none:=by simp [Ne.symm hj]
   rw [this]; simp
theorem HallAt.lead {c:Cs}{H H':Hp}{α α':Al}{ρ ρ':Ro}{A:PH}{k:Int}{l':PLd} (x:HallAt c H α ρ A) (t:Stp (fun r=>eI k r\/r=.ld) H ρ H' ρ') (e:∀ r,¬ eI k r->α' r=α r) (n:LdAt c H' α' ρ' A.cnt k l')
  (hl:∃ kvs,H' (α .ld)=some (.dK kvs)/\cm (fun k v (_:PLd)=>v=.ref (α' (.lp k))) kvs (aJ A.leads k l')):HallAt c H' α' ρ' { A with leads:=aJ A.leads k l' }:=by
 have up:∀ {r:Role}{u:HO},H (α r)=some u->ρ (α r)=some r->¬ eI k r->r≠.ld->H' (α r)=some u/\ρ' (α r)=some r:=fun {r u} h2 h3 h4 h5 =>
  ⟨t.kp _ _ h2 fun q hq z=>by rw [h3] at hq; cases hq; exact z.elim h4 h5,(t.ro _ _ h2).trans h3⟩
 obtain ⟨dx,o⟩:=x.ob;obtain ⟨kl,ol,jl⟩:=x.ld;obtain ⟨us,ow,jw⟩:=x.wl;have e0:=e .hall (fun z=>z);have e2:=e .sl (fun z=>z);have e3:=e .ld (fun z=>z);have e4:=e .sd (fun z=>z);have e5:=e .wl (fun z=>z);have es:=fun i=>e (.scr i) (fun z=>z);have er:=fun i=>e (.row i) (fun z=>z);refine ⟨⟨dx,by rw [e0,e2,e3,e4,e5]; exact (up o x.r1 (fun z=>z) (fun z=>nomatch z)).1⟩,?_,?_,by rw [e4]; exact (up x.sd x.r4 (fun z=>z) (fun z=>nomatch z)).1,
  ⟨us,by rw [e5]; exact (up ow x.r5 (fun z=>z) (fun z=>nomatch z)).1,Paired.mapP jw fun _ _ z=>z.stp t⟩,fun j s1 hj=>?_,fun j l hj=>?_,
  by rw [e0]; exact (up o x.r1 (fun z=>z) (fun z=>nomatch z)).2,by rw [e2]; exact (up x.sl x.r2 (fun z=>z) (fun z=>nomatch z)).2,by rw [e3,t.ro _ _ ol]; exact x.r3,
  by rw [e4]; exact (up x.sd x.r4 (fun z=>z) (fun z=>nomatch z)).2,by rw [e5]; exact (up ow x.r5 (fun z=>z) (fun z=>nomatch z)).2,x.ln,t.fr x.nr,dR _ _ x.nd⟩
 ·rw [e2,(up x.sl x.r2 (fun z=>z) (fun z=>nomatch z)).1]
  simp only [es]
 ·obtain ⟨kvs,h1,h2⟩:=hl
  exact ⟨kvs,by rw [e3]; exact h1,h2⟩
 ·exact (x.sc j s1 hj).stp t (fun w=>w.elim (fun z=>z) (fun z=>nomatch z)) (fun w=>w.elim (fun z=>z) (fun z=>nomatch z)) (es j) (er j)
 ·rcases bf hj with z | ⟨z,z1⟩
  ·cases z; exact n
  ·have z1:j≠k:=z1
   have nk:∀ r,eI j r->¬ eI k r:=fun r h w=>by cases r<;>first | exact h | exact z1 (Eq.trans (Eq.symm h) w)
   refine (x.le j l z).stp t (fun r hr w=>?_) (fun r hr=>e r (nk r hr));rcases w with w | w
   ·exact nk r hr w
   ·subst w; exact hr
theorem HallAt.mid {c:Cs}{H H':Hp}{α:Al}{ρ ρ':Ro}{A:PH}{lds:List (Int×PLd)}{stp:List Int}{wrs:List (Int×Int×Int×Str)} (x:HallAt c H α ρ A) (t:Stp (fun r=>r=.ld\/r=.sd\/r=.wl) H ρ H' ρ')
  (h1:∃ kvs,H' (α .ld)=some (.dK kvs)/\cm (fun k v (_:PLd)=>v=.ref (α (.lp k))) kvs lds) (h2:H' (α .sd)=some (.dK (gH stp))) (h3:∃ us,H' (α .wl)=some (.lst us)/\Paired (zx H' ρ') us wrs)
  (hs:∀ k l,(k,l)∈lds->(k,l)∈A.leads) (hn:(lds.map (·.1)).Nodup):HallAt c H' α ρ' { A with leads:=lds,stop:=stp,wrs:=wrs }:=by
 have up:∀ {r:Role}{u:HO},H (α r)=some u->ρ (α r)=some r->¬ (r=.ld\/r=.sd\/r=.wl)->H' (α r)=some u/\ρ' (α r)=some r:=fun {r u} h2 h3 h4 =>
  ⟨t.kp _ _ h2 fun q hq=>by rw [h3] at hq; cases hq; exact h4,(t.ro _ _ h2).trans h3⟩
 obtain ⟨dx,o⟩:=x.ob;obtain ⟨kl,ol,jl⟩:=x.ld;obtain ⟨us,ow,jw⟩:=x.wl;refine ⟨⟨dx,(up o x.r1 (by simp)).1⟩,(up x.sl x.r2 (by simp)).1,h1,h2,h3,fun j s1 hj=>(x.sc j s1 hj).stp t (by simp) (by simp) rfl rfl,fun j l hj=>(x.le j l (hs j l hj)).stp t (fun r hr w=>?_) fun _ _=>rfl,
  (up o x.r1 (by simp)).2,(up x.sl x.r2 (by simp)).2,(t.ro _ _ ol).trans x.r3,(t.ro _ _ x.sd).trans x.r4,(t.ro _ _ ow).trans x.r5,x.ln,t.fr x.nr,hn⟩
 rcases w with rfl | rfl | rfl<;>exact hr
theorem HallAt.stp {c:Cs}{H H':Hp}{α:Al}{ρ ρ':Ro}{A:PH} (x:HallAt c H α ρ A) (t:Stp (fun _=>False) H ρ H' ρ'):HallAt c H' α ρ' A:=by
 have up:∀ {r:Role}{u:HO},H (α r)=some u->ρ (α r)=some r->H' (α r)=some u/\ρ' (α r)=some r:=fun {r u} h2 h3 =>
  ⟨t.kp _ _ h2 fun q hq=>fun z=>z,(t.ro _ _ h2).trans h3⟩
 obtain ⟨kl,ol,jl⟩:=x.ld;obtain ⟨us,ow,jw⟩:=x.wl;exact x.mid (t.mono fun _ z=>z.elim) ⟨kl,(up ol x.r3).1,jl⟩ (up x.sd x.r4).1 ⟨us,(up ow x.r5).1,Paired.mapP jw fun _ _ z=>z.stp t⟩ (fun _ _ h=>h) x.nd
theorem HallAt.scrAt {c:Cs}{H:Hp}{α:Al}{ρ:Ro}{A:PH} (x:HallAt c H α ρ A) {i:Int} (h:aW A i=true):∃ s,A.scrs[i.toNat]? = some s/\ScrAt c H α ρ A.cnt i.toNat s/\((i.toNat:Nat):Int)=i/\il ((List.range A.scrs.length).map fun i=>V.ref (α (.scr i))) i=some (.ref (α (.scr i.toNat))):=by
 unfold aW at h;rw [Bool.and_eq_true] at h;have h0:=of_decide_eq_true h.1;have h1:=of_decide_eq_true h.2;rw [x.ln] at h1;have hi:i.toNat < A.scrs.length:=by omega
 have ei:((i.toNat:Nat):Int)=i:=by omega
 refine ⟨_,List.getElem?_eq_getElem hi,x.sc _ _ (List.getElem?_eq_getElem hi),ei,?_⟩;have:=bT (xs:=(List.range A.scrs.length).map fun i=>V.ref (α (.scr i))) (j:=i.toNat) (v:=.ref (α (.scr i.toNat))) (by simp [hi]);rw [ei] at this;exact this
structure BdL (l:PLd) (n:Nat):Prop where
 t:l.told.length<=n
 r:∀ p∈l.told,p.2.length<=n
 s:l.said.length<=n * n+n
 h:l.hands.length<=n
 i:∀ p∈l.hands,p.2.length<=n
structure Bd (A:PH) (n:Nat):Prop where
 l:A.leads.length<=n
 s:A.stop.length<=n
 w:A.wrs.length<=n
 r:∀ s∈A.scrs,s.row.length<=n
 k:∀ p∈A.leads,BdL p.2 n
structure TxS (K:Frag) (C:Addr):Prop where
 cl:Cls K C
 n1:bO K C "own"
 n2:bO K C "count"
 n3:bO K C "promised"
 n4:bO K C "row"
 n5:bO K C "seen"
structure TxL (K:Frag) (C:Addr):Prop where
 cl:Cls K C
 n1:bO K C "number"
 n2:bO K C "count"
 n3:bO K C "told"
 n4:bO K C "opened"
 n5:bO K C "said"
 n6:bO K C "hands"
structure TxH (K:Frag) (C:Addr):Prop where
 cl:Cls K C
 n1:bO K C "count"
 n2:bO K C "scribes"
 n3:bO K C "leads"
 n4:bO K C "stopped"
 n5:bO K C "writings"
abbrev xL:List Value:=[.type "ValueError",.type "Exception",.type "BaseException",.type "object"]
structure TxN (K:Frag) (mg:Str->Option Value) (x:Str) (N:Addr):Prop where
 mg:mg x=some (.ref N)
 ex:PySem.W.excIn K N xL "ValueError.__new__" = true
noncomputable def qE:Sp:=fun vs H Q _=>∃ c n:Int,vs=[.int c,.int n]/\Q (.bl (c_ c n)) H
noncomputable def r_:Sp:=fun vs H Q _=>∃ c o s:Int,vs=[.int c,.int o,.int s]/\0 < c/\Q (.int (aM c o s)) H
noncomputable def vg:Sp:=fun vs H Q _=>∃ (l:Addr) (ds:List Addr) (rows:List cp),vs=[.ref l]/\H l=some (.lst (ds.map V.ref))/\Paired (RowAt H) ds rows/\rows.flatten.length < 1000000 /\
 ∀ q H',H q=none->H' q=some (.dK (jC (dc rows)))->aV H H'->Q (.ref q) H'
noncomputable def ve:Sp:=fun vs H Q _=>∃ (d:Addr) (kvs:List (bh×V)),vs=[.ref d]/\Rd H d (.dK kvs) /\
 ∀ n:Nat,(∀ m:Nat,m < n->(bL kvs (Sum.inl (m:Int))).isSome=true)->bL kvs (Sum.inl (n:Int))=none->Q (.int n) H
noncomputable def rY (C:Addr):Sp:=fun vs H Q _=>∃ (p dx:Addr) (o c:V),vs=[.ref p,o,c]/\H p=some (.ins C dx []) /\
 ∀ (r:Addr) (H':Hp),H r=none->H' p=some (.ins C dx (sF o c (.int (-1)) r (.int (-1))))->H' r=some (.dK [])->(∀ b u,H b=some u->b≠p->H' b=some u)->Q .non H'
noncomputable def jf (C:Addr):Sp:=fun vs H Q _=>∃ (p dx:Addr) (o c:V) (m n:Int) (r:Addr) (sn:V),vs=[.ref p,.int n]/\H p=some (.ins C dx (sF o c (.int m) r sn)) /\
 (n < m->Q (.bl false) H)/\(¬ n < m->Q (.bl true) (aA H p (.ins C dx (sF o c (.int n) r sn))))
noncomputable def xT (C:Addr):Sp:=fun vs H Q _=>∃ (p dx:Addr) (o c:V) (m n pl:Int) (sy:Str) (r:Addr) (sn:V) (kvs:List (bh×V)),vs=[.ref p,.int n,.int pl,.str sy]/\H p=some (.ins C dx (sF o c (.int m) r sn))/\H r=some (.dK kvs)/\kvs.length < 1000 /\
 (n < m->Q (.bl false) H)/\(¬ n < m->∀ t H',H t=none->(∀ b u,H b=some u->b≠p->b≠r->H' b=some u)->H' t=some (.tup [.int n,.str sy])->H' p=some (.ins C dx (sF o c (.int n) r sn))->H' r=some (.dK (bB kvs (Sum.inl pl) (.ref t)))->Q (.bl true) H')
noncomputable def rX (C:Addr):Sp:=fun vs H Q _=>∃ (p dx:Addr) (o c sn:Int) (pv:V) (r:Addr),vs=[.ref p]/\H p=some (.ins C dx (sF (.int o) (.int c) pv r (.int sn)))/\0 < c/\Q (.int (aM c o sn)) (aA H p (.ins C dx (sF (.int o) (.int c) pv r (.int (aM c o sn)))))
noncomputable def xS (C:Addr):Sp:=fun vs H Q _=>∃ (p dx:Addr) (o c pv:V) (sn n:Int) (r:Addr),vs=[.ref p,.int n]/\H p=some (.ins C dx (sF o c pv r (.int sn)))/\Q .non (aA H p (.ins C dx (sF o c pv r (.int (if sn < n then n else sn)))))
noncomputable def sf (C:Addr):Sp:=fun vs H Q _=>∃ (p dx:Addr) (n c:V),vs=[.ref p,n,c]/\H p=some (.ins C dx []) /\
 ∀ (t s h:Addr) (H':Hp),H t=none->H s=none->H h=none->t≠s->t≠h->s≠h->H' p=some (.ins C dx (lF n c t (.bl false) s h))->H' t=some (.dK [])->H' s=some (.dK [])->H' h=some (.dK [])->(∀ b u,H b=some u->b≠p->H' b=some u)->Q .non H'
noncomputable def su (c:Cs):Sp:=fun vs H Q _=>∃ (α:Al) (ρ:Ro) (cnt k:Int) (l:PLd) (n:Nat),vs=[.ref (α (.lp k))]/\LdAt c H α ρ cnt k l/\yf H ρ/\BdL l n/\l.said=[]/\n<=400 /\
 ∀ H',LdAt c H' α ρ cnt k (jb l)->Stp (eI k) H ρ H' ρ->Q .non H'
noncomputable def va (c:Cs):Sp:=fun vs H Q _=>∃ (α:Al) (ρ:Ro) (cnt k:Int) (l:PLd) (n:Nat) (j:Int) (ra:Addr) (kv:List (bh×V)) (row:bJ),vs=[.ref (α (.lp k)),.int j,.ref ra]/\LdAt c H α ρ cnt k l/\yf H ρ/\BdL l n/\(l.op=false->l.said=[])/\n<=399/\H ra=some (.dK kv)/\cm (nG H ρ) kv row/\row.length<=n /\
 ∀ H' α' ρ',LdAt c H' α' ρ' cnt k (cY cnt l j row)->Stp (eI k) H ρ H' ρ'->(∀ r,¬ eI k r->α' r=α r)->α' (.lp k)=α (.lp k)->Q .non H'
noncomputable def u_ (c:Cs):Sp:=fun vs H Q _=>∃ (α:Al) (ρ:Ro) (cnt k:Int) (l:PLd) (sy:Str),vs=[.ref (α (.lp k)),.str sy]/\LdAt c H α ρ cnt k l/\l.said.length < 1000000 /\
 ∀ H',LdAt c H' α ρ cnt k (tI l sy)->Stp (eI k) H ρ H' ρ->Q (.int (b_ l.said)) H'
noncomputable def vb (c:Cs):Sp:=fun vs H Q _=>∃ (α:Al) (ρ:Ro) (cnt k:Int) (l:PLd) (j pl:Int),vs=[.ref (α (.lp k)),.int j,.int pl]/\LdAt c H α ρ cnt k l/\yf H ρ/\l.hands.length < 1000/\(∀ p∈l.hands,p.2.length < 1000)/\(l.hands.map (·.1)).Nodup /\
 ∀ H' α' ρ',LdAt c H' α' ρ' cnt k (ix l j pl)->Stp (eI k) H ρ H' ρ'->(∀ r,¬ eI k r->α' r=α r)->α' (.lp k)=α (.lp k)->Q .non H'
noncomputable def jW (H:Hp) (ρ:Ro) (v:V):Ans->Prop
 | .non=>v=.non
 | .int i=>v=.int i
 | .bl b=>v=.bl b
 | .str s=>v=.str s
 | .prs l=>∃ D us,v=.ref D/\H D=some (.lst us)/\ρ D=none/\Paired (fun u (p:Int×Str)=>∃ a,u=V.ref a/\H a=some (.tup [.int p.1,.str p.2])/\ρ a=none) us l
theorem jW.stp {R:Role->Prop}{H H':Hp}{ρ ρ':Ro}{v:V}{a:Ans} (x:jW H ρ v a) (t:Stp R H ρ H' ρ'):jW H' ρ' v a:=by
 cases a with
 | non=>exact x
 | int i=>exact x
 | bl b=>exact x
 | str s=>exact x
 | prs l =>
  obtain ⟨D,us,e,hD,rD,p⟩:=x;exact ⟨D,us,e,t.kp _ _ hD (fun r z=>by rw [rD] at z; cases z),(t.ro _ _ hD).trans rD,Paired.mapP p fun u q ⟨a,e1,e2,e3⟩=>⟨a,e1,t.kp _ _ e2 (fun r z=>by rw [e3] at z; cases z),(t.ro _ _ e2).trans e3⟩⟩
noncomputable def lw (c:Cs):Sp:=fun vs H Q _=>∃ (α:Al) (ρ:Ro) (cnt k:Int) (l:PLd),vs=[.ref (α (.lp k))]/\LdAt c H α ρ cnt k l/\yf H ρ/\l.hands.length < 64/\(l.hands.map (·.1)).Nodup/\(∀ p∈l.hands,(ay l.said p.1).isSome=true) /\
 ∀ H' v,jW H' ρ v (.prs (iD cnt l))->Stp (fun _=>False) H ρ H' ρ->Q v H'
structure WfL (l:PLd) (PL:List Int):Prop where
 hp:∀ p∈l.hands,p.1∈PL
 hn:(l.hands.map (·.1)).Nodup
 hs:∀ p∈l.hands,(ay l.said p.1).isSome=true
 op:l.op=false->l.said=[]
structure Wf (A:PH) (n:Nat) (PL:List Int):Prop where
 bd:Bd A n
 le:∀ p∈A.leads,WfL p.2 PL
 rp:∀ s∈A.scrs,(∀ p∈s.row,p.1∈PL)/\(s.row.map (·.1)).Nodup
 pos:0 < A.cnt
 pl:PL.length < 64
noncomputable def tP (r:Role):Prop:=r≠.out
noncomputable def nV (c:Cs):Sp:=fun vs H Q _=>∃ (p dx:Addr) (n:Nat),vs=[.ref p,.int n]/\H p=some (.ins c.h dx [])/\n < 1000 /\
 ∀ H' α ρ,α .hall=p->HallAt c H' α ρ (init n)->(∀ b u,H b=some u->b≠p->H' b=some u/\ρ b=none)->Q .non H'
noncomputable def fe (c:Cs) (N:Addr):Sp:=fun vs H Q E=>∃ (p dx:Addr) (i cnt:Int) (sl ld sd wl:Addr),vs=[.ref p,.int i]/\H p=some (.ins c.h dx (hF (.int cnt) sl ld sd wl))/\((decide (0<=i)&&decide (i < cnt))=true->Q .non H)/\((decide (0<=i)&&decide (i < cnt))=false->E (.ref N) none H)
noncomputable def qH (c:Cs):Sp:=fun vs H Q _=>∃ (α:Al) (ρ:Ro) (A:PH) (own num:Int),vs=[.ref (α .hall),.int own,.int num]/\HallAt c H α ρ A/\aW A own=true/\(ay A.leads own).isSome=true/\A.leads.length < 1000 /\
 ∀ H',HallAt c H' α ρ (eY A own num)->Stp tP H ρ H' ρ->Q .non H'
noncomputable def qx (c:Cs) (N:Addr) (args:List V) (chk:List Int) (f:PH->PH×Ans):Sp:=fun vs H Q E=>∃ (α:Al) (ρ:Ro) (A:PH) (n:Nat) (PL:List Int),vs=.ref (α .hall) :: args/\HallAt c H α ρ A/\Wf A n PL/\n<=398 /\
 ((∀ i∈chk,aW A i=true)->∀ H' α' ρ' v,HallAt c H' α' ρ' (f A).1->α' .hall=α .hall->Stp tP H ρ H' ρ'->jW H' ρ' v (f A).2->Q v H')/\((∃ i∈chk,aW A i=false)->E (.ref N) none H)
noncomputable def sj (c:Cs) (N:Addr):Sp:=fun vs H Q E=>∃ own,qx c N [.int own] [own] (fun A=>eN A own) vs H Q E
noncomputable def vd (c:Cs) (N:Addr):Sp:=fun vs H Q E=>∃ own other,qx c N [.int own,.int other] [own,other] (fun A=>fy A own other) vs H Q E
noncomputable def vc (c:Cs) (N:Addr):Sp:=fun vs H Q E=>∃ own sy,qx c N [.int own,.str sy] [own] (fun A=>f_ A own sy) vs H Q E
noncomputable def pB (c:Cs) (N:Addr):Sp:=fun vs H Q E=>∃ own other pl,qx c N [.int own,.int other,.int pl] [own,other] (fun A=>bV A own other pl) vs H Q E
noncomputable def lx (c:Cs) (N:Addr):Sp:=fun vs H Q E=>∃ own,qx c N [.int own] [own] (fun A=>(A,cZ A own)) vs H Q E
noncomputable def si (c:Cs) (N:Addr):Sp:=fun vs H Q E=>∃ own,qx c N [.int own] [own] (fun A=>d8 A own) vs H Q E
noncomputable def sg (c:Cs) (N:Addr):Sp:=fun vs H Q E=>∃ own,qx c N [.int own] [own] (fun A=>eV A own) vs H Q E
noncomputable def Deed.rowV:Deed->List V
 | .rise o=>[.str "rise",.int o]
 | .ask o p=>[.str "ask",.int o,.int p]
 | .say o s=>[.str "say",.int o,.str s]
 | .write o p pl=>[.str "write",.int o,.int p,.int pl]
 | .settled o=>[.str "settled",.int o]
 | .stop o=>[.str "stop",.int o]
 | .wake o=>[.str "wake",.int o]
noncomputable def Deed.chk:Deed->List Int
 | .rise o=>[o]
 | .ask o p=>[o,p]
 | .say o _=>[o]
 | .write o p _=>[o,p]
 | .settled o=>[o]
 | .stop o=>[o]
 | .wake o=>[o]
theorem vD {A:PH}{d:Deed} (h:∃ i∈d.chk,aW A i=false):step A d=(A,.str "no scribe"):=by
 obtain ⟨i,hi,e⟩:=h;cases d<;>simp only [Deed.chk,List.mem_cons,List.not_mem_nil,or_false] at hi
 case ask o p=>rcases hi with rfl | rfl<;>simp only [step,e,Bool.false_eq_true,if_false,ite_self]
 case write o p pl=>rcases hi with rfl | rfl<;>simp only [step,e,Bool.false_eq_true,if_false,ite_self]
 all_goals (subst hi; simp only [step,e,Bool.false_eq_true,if_false])
noncomputable def vf (c:Cs) (N:Addr):Sp:=fun vs H Q E=>∃ (α:Al) (ρ:Ro) (A:PH) (n:Nat) (PL:List Int) (t:Addr) (d:Deed),vs=[.ref (α .hall),.ref t]/\HallAt c H α ρ A/\Wf A n PL/\n<=398/\H t=some (.tup d.rowV) /\
 ((∀ i∈d.chk,aW A i=true)->∀ H' α' ρ' v,HallAt c H' α' ρ' (step A d).1->α' .hall=α .hall->Stp tP H ρ H' ρ'->jW H' ρ' v (step A d).2->Q v H')/\((∃ i∈d.chk,aW A i=false)->E (.ref N) none H)
noncomputable def kU (c:Cs):Sp:=fun vs H Q _=>∃ (α:Al) (ρ:Ro) (A:PH) (n:Nat) (PL:List Int) (t:Addr) (d:Deed),vs=[.ref (α .hall),.ref t]/\HallAt c H α ρ A/\Wf A n PL/\n<=398/\H t=some (.tup d.rowV) /\
 ∀ H' α' ρ' v,HallAt c H' α' ρ' (step A d).1->α' .hall=α .hall->Stp tP H ρ H' ρ'->jW H' ρ' v (step A d).2->Q v H'
noncomputable def nN (PL:List Int):Deed->Prop
 | .write _ _ pl=>pl∈PL
 | _=>True
theorem gz {n:Nat} (h:n<=1000000):n < sizeLine:=Nat.lt_of_le_of_lt h (by decide)
theorem sI:∀ (n:Nat) (l:List Int),(∀ m:Nat,m < n->(m:Int)∈l)->n<=l.length
 | 0,_,_=>Nat.zero_le _
 | n+1,l,h=>by
  have hn:=h n (Nat.lt_succ_self n);have:=sI n (l.erase (n:Int)) fun m hm=>(List.mem_erase_of_ne (fun z=>by omega)).mpr (h m (by omega));rw [List.length_erase_of_mem hn] at this
  have:0 < l.length:=List.length_pos_of_mem hn
  omega
theorem n8 (n:Nat) (l:List bh) (h:∀ m:Nat,m < n->(Sum.inl (m:Int):bh)∈l):n<=l.length:=by
 have:=sI n (l.filterMap fun k=>match k with | .inl i=>some i | .inr _=>none) fun m hm=>List.mem_filterMap.mpr ⟨_,h m hm,rfl⟩;exact Nat.le_trans this (List.length_filterMap_le ..)
theorem g_ {kvs:List (bh×V)}{k:bh} (h:(bL kvs k).isSome=true):k∈kvs.map (·.1):=by
 unfold bL at h;rw [Option.isSome_map] at h;obtain ⟨p,hp⟩:=Option.isSome_iff_exists.mp h;have e:=List.find?_some hp;exact List.mem_map.mpr ⟨p,List.mem_of_find?_eq_some hp,of_decide_eq_true e⟩
noncomputable def kE (q:Int×Ent):Int×(Int×Str):=(q.1,(q.2.n,q.2.s))
theorem pR {β γ:Type} (f:β->γ):∀ (l:List (Int×β)) (k:Int),ay (l.map fun q=>(q.1,f q.2)) k=(ay l k).map f
 | [],_=>rfl
 | p :: r,k=>by
  rw [List.map_cons];unfold ay;rw [List.find?_cons,List.find?_cons]
  by_cases z:p.1=k
  ·rw [decide_eq_true z]; rfl
  ·rw [decide_eq_false z]; exact pR f r k
theorem vS {β γ:Type} (f:β->γ) (l:List (Int×β)) (k:Int) (v:β):(aJ l k v).map (fun q=>(q.1,f q.2))=aJ (l.map fun q=>(q.1,f q.2)) k (f v):=by
 unfold aJ;have an:((l.map fun q=>(q.1,f q.2)).any fun p=>decide (p.1=k))=l.any fun p=>decide (p.1=k):=by rw [List.any_map]; rfl
 rw [an];split
 ·rw [List.map_map,List.map_map]
  apply List.map_congr_left;intro p _;show ((if p.1=k then (p.1,v) else p).1,f (if p.1=k then (p.1,v) else p).2)=if p.1=k then (p.1,f v) else (p.1,f p.2)
  split<;>rfl
 ·rw [List.map_append]; rfl
theorem tU (b:cp) (p:Int×Ent):(dH b p).map kE=aR (b.map kE) (kE p):=by
 have g:ay (b.map kE) p.1=(ay b p.1).map fun e=>(e.n,e.s):=pR (fun e:Ent=>(e.n,e.s)) b p.1;have u:(aJ b p.1 p.2).map kE=aJ (b.map kE) p.1 (p.2.n,p.2.s):=vS (fun e:Ent=>(e.n,e.s)) b p.1 p.2;unfold dH aR;show _=match ay (b.map kE) p.1 with | none=>_ | some e=>_
 rw [g];cases ay b p.1 with
 | none=>exact u
 | some e =>
  show (if e.n < p.2.n then aJ b p.1 p.2 else b).map kE=if e.n < p.2.n then aJ (b.map kE) p.1 (p.2.n,p.2.s) else b.map kE
  split
  ·exact u
  ·rfl
theorem nu:∀ (r b:cp),(bW b r).map kE=(r.map kE).foldl aR (b.map kE)
 | [],_=>rfl
 | p :: r,b=>by
  show (bW (dH b p) r).map kE=_;rw [nu r,tU]; rfl
theorem rH (rs:List cp):(dc rs).map kE=e_ (rs.map fun r=>r.map kE):=by
 unfold dc e_
 have:∀ (rs:List cp) (b:cp),(rs.foldl bW b).map kE=(rs.map fun r=>r.map kE).foldl (fun b r=>r.foldl aR b) (b.map kE):=by
  intro rs
  induction rs with
  | nil=>intro b; rfl
  | cons r rs ih=>intro b; rw [List.foldl_cons,ih,nu]; rfl
 exact this rs []
theorem xz {H:Hp}{ρ:Ro}{kv:List (bh×V)}{row:bJ} (d:cm (nG H ρ) kv row):∃ er:cp,kv=jC er/\(∀ q∈er,jF H q.2)/\er.map kE=row:=by
 unfold cm at d
 induction d with
 | nil=>exact ⟨[],rfl,(fun _ h=>nomatch h),rfl⟩
 | @cons p q ps qs e t ih =>
  obtain ⟨er,h1,h2,h3⟩:=ih;obtain ⟨e1,a,e2,e3,e4⟩:=e;obtain ⟨p1,p2⟩:=p;have e1:p1=Sum.inl q.1:=e1;have e2:p2=.ref a:=e2;subst e1 e2;refine ⟨(q.1,⟨a,q.2.1,q.2.2⟩) :: er,by rw [h1]; rfl,fun y hy=>?_,by rw [List.map_cons,h3]; rfl⟩;rcases List.mem_cons.mp hy with z | z
  ·subst z; exact e3
  ·exact h2 y z
theorem tS {H:Hp}{α:Al}{ρ:Ro}{k:Int}{kvs:List (bh×V)}{told:List (Int×bJ)} (d:cm (AU H α ρ k) kvs told):∃ rows:List cp,kvs.map (·.2)=(told.map fun q=>α (.tr k q.1)).map V.ref/\Paired (RowAt H) (told.map fun q=>α (.tr k q.1)) rows/\(rows.map fun r=>r.map kE)=told.map (·.2):=by
 unfold cm at d
 induction d with
 | nil=>exact ⟨[],rfl,.nil,rfl⟩
 | @cons p q ps qs e t ih =>
  obtain ⟨rows,h1,h2,h3⟩:=ih;obtain ⟨e1,e2,e3,kv,e4,e5⟩:=e;obtain ⟨er,g1,g2,g3⟩:=xz e5;subst g1;refine ⟨er :: rows,?_,.cons ⟨e4,g2⟩ h2,by rw [List.map_cons,h3,g3]; rfl⟩;rw [List.map_cons,List.map_cons,List.map_cons,h1,e2]
theorem wu (rows:List cp):rows.flatten.length=((rows.map fun r=>r.map kE).flatten).length:=by
 induction rows with
 | nil=>rfl
 | cons r rs ih=>rw [List.flatten_cons,List.map_cons,List.flatten_cons,List.length_append,List.length_append,ih,List.length_map]
theorem og {n:Nat}:∀ (l:List (Int×bJ)),(∀ p∈l,p.2.length<=n)->((l.map (·.2)).flatten).length<=l.length * n
 | [],_=>by simp
 | p :: r,h=>by
  have h1:=og r fun q hq=>h q (List.mem_cons_of_mem _ hq);have h2:=h p List.mem_cons_self;rw [List.map_cons,List.flatten_cons,List.length_append,List.length_cons,Nat.add_mul,Nat.one_mul];omega
theorem pS {said:List (Int×Str)}{kvs:List (bh×V)} (d:cm (fun _ v (y:Str)=>v=.str y) kvs said) (n:Nat) (h1:∀ m:Nat,m < n->(bL kvs (Sum.inl (m:Int))).isSome=true) (h2:bL kvs (Sum.inl (n:Int))=none):b_ said=n:=by
 have g1:∀ m:Nat,m < n->(ay said (m:Int)).isNone=false:=fun m hm=>by
  rcases d.get (m:Int) with ⟨_,z⟩ | ⟨v,y,z,_⟩
  ·have:=h1 m hm; rw [z] at this; cases this
  ·rw [z]; rfl
 have g2:(ay said (n:Int)).isNone=true:=by
  rcases d.get (n:Int) with ⟨z,_⟩ | ⟨v,y,_,z,_⟩
  ·rw [z]; rfl
  ·rw [z] at h2; cases h2
 have hle:=n8 n (kvs.map (·.1)) fun j hj=>g_ (h1 j hj);rw [List.length_map,d.len] at hle;unfold b_
 have:(List.range (said.length+1)).find? (fun n:Nat=>(ay said (n:Int)).isNone)=some n:=by
  rw [List.find?_range_eq_some];refine ⟨g2,List.mem_range.mpr (by omega),fun j hj=>?_⟩;rw [g1 j hj]; rfl
 rw [this]; rfl
theorem jn (a:Int):∀ l:List Int,(tL a l).Perm (a :: l)
 | []=>.refl _
 | b :: r=>by
  unfold tL;split
  ·exact .refl _
  ·exact ((jn a r).cons b).trans (List.Perm.swap a b r)
theorem sT (a:Int):∀ l:List Int,l.Pairwise (·<=·)->(tL a l).Pairwise (·<=·)
 | [],_=>List.pairwise_singleton ..
 | b :: r,h=>by
  unfold tL;obtain ⟨h1,h2⟩:=List.pairwise_cons.mp h;split
  ·next hab=>exact List.pairwise_cons.mpr ⟨fun x hx=>by
    rcases List.mem_cons.mp hx with z | z
    ·omega
    ·have:=h1 x z; omega,h⟩
  ·next hab=>exact List.pairwise_cons.mpr ⟨fun x hx=>by
    rcases List.mem_cons.mp ((jn a r).mem_iff.mp hx) with z | z
    ·omega
    ·exact h1 x z,sT a r h2⟩
theorem hZ:∀ l:List Int,(ir l).Perm l
 | []=>.refl _
 | a :: l=>(jn a (ir l)).trans ((hZ l).cons a)
theorem pC:∀ l:List Int,(ir l).Pairwise (·<=·)
 | []=>.nil
 | a :: l=>sT a _ (pC l)
theorem kW {l ns:List Int} (hp:ns.Perm l) (hs:ns.Pairwise (· < ·)):ir l=ns:=by
 have p1:(ir l).Perm ns:=(hZ l).trans hp.symm;have nd:ns.Nodup:=hs.imp fun h=>by omega
 have nd':(ir l).Nodup:=p1.nodup_iff.mpr nd;have s2:(ir l).Pairwise (fun a b=>a < b):=List.Pairwise.imp₂ (fun a b h1 h2=>by omega) (pC l) nd';exact ly (f:=fun x:Int=>x) p1 s2 hs
theorem nS {α:Al}{k:Int}{r:Role}{a:Addr} (h:eI k r):∀ q,¬ eI k q->cO α r a q=α q:=fun q hq=>a6 fun z=>hq (z ▸ h)
section
variable {c:Cs}{H:Hp}{α:Al}{ρ:Ro}{cnt k:Int}{l:PLd}
theorem LdAt.tell {j:Int}{row:bJ}{kv kt:List (bh×V)}{a:Addr} (L:LdAt c H α ρ cnt k l) (ha:H a=none) (hk:cm (nG H ρ) kv row) (ht:H (α (.lt k))=some (.dK kt)) :
  LdAt c (aA (aA H a (.dK kv)) (α (.lt k)) (.dK (bB kt (Sum.inl j) (.ref a)))) (cO α (.tr k j) a) (dh ρ a (.tr k j)) cnt k { l with told:=aJ l.told j row } /\
  Stp (eI k) H ρ (aA (aA H a (.dK kv)) (α (.lt k)) (.dK (bB kt (Sum.inl j) (.ref a)))) (dh ρ a (.tr k j)):=by
 obtain ⟨⟨dx,o⟩,⟨kt',ot,jt⟩,⟨ks,os,js⟩,⟨kh,oh,jh⟩,r1,r2,r3,r4⟩:=L;rw [ht] at ot; cases ot;have ep:cO α (.tr k j) a (.lp k)=α (.lp k):=a6 (fun z=>nomatch z);have et:cO α (.tr k j) a (.lt k)=α (.lt k):=a6 (fun z=>nomatch z);have es:cO α (.tr k j) a (.ls k)=α (.ls k):=a6 (fun z=>nomatch z);have eh:cO α (.tr k j) a (.lh k)=α (.lh k):=a6 (fun z=>nomatch z);have ed:∀ i,cO α (.tr k j) a (.hd k i)=α (.hd k i):=fun i=>a6 (fun z=>nomatch z);have S0:Stp (eI k) H ρ (aA H a (.dK kv)) (dh ρ a (.tr k j)):=kS _ ha;have ht0:(aA H a (.dK kv)) (α (.lt k))=some (.dK kt):=by rw [ag (ai ht ha)]; exact ht
 have rt0:(dh ρ a (.tr k j)) (α (.lt k))=some (.lt k):=by rw [a7 (ai ht ha)]; exact r2
 have S:Stp (eI k) H ρ (aA (aA H a (.dK kv)) (α (.lt k)) (.dK (bB kt (Sum.inl j) (.ref a)))) (dh ρ a (.tr k j)):=S0.two (cr ht0 rt0 (show eI k (.lt k) from rfl));have up:∀ {b:Addr}{r:Role}{u:HO},H b=some u->ρ b=some r->r≠.lt k->(aA (aA H a (.dK kv)) (α (.lt k)) (.dK (bB kt (Sum.inl j) (.ref a)))) b=some u/\(dh ρ a (.tr k j)) b=some r:=fun {b r u} h1 h2 h3 =>
  ⟨by rw [ag (bR h2 r2 h3),ag (ai h1 ha)]; exact h1,by rw [a7 (ai h1 ha)]; exact h2⟩
 have at':a≠α (.lt k):=fun z=>by rw [z,ht] at ha; cases ha
 refine ⟨⟨⟨dx,?_⟩,⟨bB kt (Sum.inl j) (.ref a),?_,?_⟩,⟨ks,?_,js⟩,⟨kh,?_,jh.imp fun i v y _ z=>?_⟩,?_,?_,?_,?_⟩,S⟩
 ·simp only [ep,et,es,eh]; exact (up o r1 (fun z=>nomatch z)).1
 ·simp only [ep,et,es,eh,ed]; exact upd_same
 ·refine jt.putI j ⟨?_,?_,kv,?_,hk.imp fun _ _ _ _ z=>z.stp S⟩ fun i v y hi ⟨z1,z2,kv',z3,z4⟩=>?_
  ·rw [bC]
  ·rw [bC]; exact bP
  ·rw [bC,ag at',upd_same]
  ·have ne:(Role.tr k i)≠.tr k j:=fun z=>by cases z; exact hi rfl
   refine ⟨?_,?_,kv',?_,z4.imp fun _ _ _ _ z=>z.stp S⟩
   ·rw [a6 ne]; exact z1
   ·rw [a6 ne]; exact (up z3 z2 (fun z=>nomatch z)).2
   ·rw [a6 ne]; exact (up z3 z2 (fun z=>nomatch z)).1
 ·simp only [ep,et,es,eh,ed]; exact (up os r3 (fun z=>nomatch z)).1
 ·simp only [ep,et,es,eh,ed]; exact (up oh r4 (fun z=>nomatch z)).1
 ·obtain ⟨z1,z2,z3⟩:=z
  refine ⟨?_,?_,?_⟩
  ·simp only [ep,et,es,eh,ed]; exact z1
  ·simp only [ep,et,es,eh,ed]; exact (up z3 z2 (fun z=>nomatch z)).2
  ·simp only [ep,et,es,eh,ed]; exact (up z3 z2 (fun z=>nomatch z)).1
 ·simp only [ep,et,es,eh,ed]; exact (up o r1 (fun z=>nomatch z)).2
 ·simp only [ep,et,es,eh,ed]; exact rt0
 ·simp only [ep,et,es,eh,ed]; exact (up os r3 (fun z=>nomatch z)).2
 ·simp only [ep,et,es,eh,ed]; exact (up oh r4 (fun z=>nomatch z)).2
theorem LdAt.told {pl:Int}{sy:Str}{ks:List (bh×V)} (L:LdAt c H α ρ cnt k l) (hs:H (α (.ls k))=some (.dK ks)) :
  LdAt c (aA H (α (.ls k)) (.dK (bB ks (Sum.inl pl) (.str sy)))) α ρ cnt k { l with said:=aJ l.said pl sy }/\Stp (eI k) H ρ (aA H (α (.ls k)) (.dK (bB ks (Sum.inl pl) (.str sy)))) ρ:=by
 obtain ⟨⟨dx,o⟩,⟨kt,ot,jt⟩,⟨ks',os,js⟩,⟨kh,oh,jh⟩,r1,r2,r3,r4⟩:=L;rw [hs] at os; cases os;have S:Stp (eI k) H ρ (aA H (α (.ls k)) (.dK (bB ks (Sum.inl pl) (.str sy)))) ρ:=cr hs r3 (show eI k (.ls k) from rfl);have up:∀ {b:Addr}{r:Role}{u:HO},H b=some u->ρ b=some r->r≠.ls k->(aA H (α (.ls k)) (.dK (bB ks (Sum.inl pl) (.str sy)))) b=some u:=fun {b r u} h1 h2 h3=>by rw [ag (bR h2 r3 h3)]; exact h1
 exact ⟨⟨⟨dx,up o r1 (fun z=>nomatch z)⟩,⟨kt,up ot r2 (fun z=>nomatch z),jt.imp fun i v y _ ⟨z1,z2,kv,z3,z4⟩=>⟨z1,z2,kv,up z3 z2 (fun z=>nomatch z),z4.imp fun _ _ _ _ w=>w.stp S⟩⟩,⟨_,upd_same,js.put pl rfl⟩,
  ⟨kh,up oh r4 (fun z=>nomatch z),jh.imp fun i v y _ ⟨z1,z2,z3⟩=>⟨z1,z2,up z3 z2 (fun z=>nomatch z)⟩⟩,r1,r2,r3,r4⟩,S⟩
theorem LdAt.hand1 {j pl:Int}{kh:List (bh×V)}{a:Addr} (L:LdAt c H α ρ cnt k l) (ha:H a=none) (hh:H (α (.lh k))=some (.dK kh)) (hg:ay l.hands pl=none) :
  LdAt c (aA (aA (aA H a (.dK [])) (α (.lh k)) (.dK (bB kh (Sum.inl pl) (.ref a)))) a (.dK (gH [j]))) (cO α (.hd k pl) a) (dh ρ a (.hd k pl)) cnt k (ix l j pl) /\
  Stp (eI k) H ρ (aA (aA (aA H a (.dK [])) (α (.lh k)) (.dK (bB kh (Sum.inl pl) (.ref a)))) a (.dK (gH [j]))) (dh ρ a (.hd k pl)):=by
 obtain ⟨⟨dx,o⟩,⟨kt,ot,jt⟩,⟨ks,os,js⟩,⟨kh',oh,jh⟩,r1,r2,r3,r4⟩:=L;rw [hh] at oh; cases oh;have ep:cO α (.hd k pl) a (.lp k)=α (.lp k):=a6 (fun z=>nomatch z);have et:cO α (.hd k pl) a (.lt k)=α (.lt k):=a6 (fun z=>nomatch z);have es:cO α (.hd k pl) a (.ls k)=α (.ls k):=a6 (fun z=>nomatch z);have eh:cO α (.hd k pl) a (.lh k)=α (.lh k):=a6 (fun z=>nomatch z);have ed:∀ i,cO α (.hd k pl) a (.tr k i)=α (.tr k i):=fun i=>a6 (fun z=>nomatch z);have S0:Stp (eI k) H ρ (aA H a (.dK [])) (dh ρ a (.hd k pl)):=kS _ ha;have ah:α (.lh k)≠a:=ai hh ha;have hh0:(aA H a (.dK [])) (α (.lh k))=some (.dK kh):=by rw [ag ah]; exact hh
 have rh0:(dh ρ a (.hd k pl)) (α (.lh k))=some (.lh k):=by rw [a7 ah]; exact r4
 have S1:=S0.two (cr (o:=.dK (bB kh (Sum.inl pl) (.ref a))) hh0 rh0 (show eI k (.lh k) from rfl));have ha1:(aA (aA H a (.dK [])) (α (.lh k)) (.dK (bB kh (Sum.inl pl) (.ref a)))) a=some (.dK []):=by rw [ag (Ne.symm ah),upd_same]
 have S:=S1.two (cr (o:=.dK (gH [j])) ha1 bP (show eI k (.hd k pl) from rfl));have up:∀ {b:Addr}{r:Role}{u:HO},H b=some u->ρ b=some r->r≠.lh k->(aA (aA (aA H a (.dK [])) (α (.lh k)) (.dK (bB kh (Sum.inl pl) (.ref a)))) a (.dK (gH [j]))) b=some u/\(dh ρ a (.hd k pl)) b=some r:=fun {b r u} h1 h2 h3 =>
  ⟨by rw [ag (ai h1 ha),ag (bR h2 r4 h3),ag (ai h1 ha)]; exact h1,by rw [a7 (ai h1 ha)]; exact h2⟩
 refine ⟨⟨⟨dx,?_⟩,⟨kt,?_,jt.imp fun i v y _ ⟨z1,z2,kv,z3,z4⟩=>?_⟩,⟨ks,?_,js⟩,⟨bB kh (Sum.inl pl) (.ref a),?_,?_⟩,?_,?_,?_,?_⟩,S⟩
 ·simp only [ep,et,es,eh]; exact (up o r1 (fun z=>nomatch z)).1
 ·simp only [ep,et,es,eh,ed]; exact (up ot r2 (fun z=>nomatch z)).1
 ·refine ⟨?_,?_,kv,?_,z4.imp fun _ _ _ _ z=>z.stp S⟩
  ·simp only [ep,et,es,eh,ed]; exact z1
  ·simp only [ep,et,es,eh,ed]; exact (up z3 z2 (fun z=>nomatch z)).2
  ·simp only [ep,et,es,eh,ed]; exact (up z3 z2 (fun z=>nomatch z)).1
 ·simp only [ep,et,es,eh,ed]; exact (up os r3 (fun z=>nomatch z)).1
 ·simp only [eh]; rw [ag ah]; exact upd_same
 ·show cm _ _ (aJ l.hands pl (cA ((ay l.hands pl).getD []) j))
  rw [hg];refine jh.putI pl ⟨?_,?_,?_⟩ fun i v y hi ⟨z1,z2,z3⟩=>?_
  ·rw [bC]
  ·rw [bC]; exact bP
  ·rw [bC,upd_same]; rfl
  ·have ne:(Role.hd k i)≠.hd k pl:=fun z=>by cases z; exact hi rfl
   refine ⟨?_,?_,?_⟩
   ·rw [a6 ne]; exact z1
   ·rw [a6 ne]; exact (up z3 z2 (fun z=>nomatch z)).2
   ·rw [a6 ne]; exact (up z3 z2 (fun z=>nomatch z)).1
 ·simp only [ep,et,es,eh,ed]; exact (up o r1 (fun z=>nomatch z)).2
 ·simp only [ep,et,es,eh,ed]; exact (up ot r2 (fun z=>nomatch z)).2
 ·simp only [ep,et,es,eh,ed]; exact (up os r3 (fun z=>nomatch z)).2
 ·simp only [ep,et,es,eh,ed]; exact rh0
theorem LdAt.hand2 {j pl:Int}{hs:List Int}{a:Addr} (L:LdAt c H α ρ cnt k l) (nd:(l.hands.map (·.1)).Nodup) (ha:H a=none) (hg:ay l.hands pl=some hs) :
  LdAt c (aA (aA H a (.dK [])) (α (.hd k pl)) (.dK (gH (cA hs j)))) α ρ cnt k (ix l j pl)/\Stp (eI k) H ρ (aA (aA H a (.dK [])) (α (.hd k pl)) (.dK (gH (cA hs j)))) ρ:=by
 obtain ⟨⟨dx,o⟩,⟨kt,ot,jt⟩,⟨ks,os,js⟩,⟨kh,oh,jh⟩,r1,r2,r3,r4⟩:=L;obtain ⟨v,hv,y1,y2,y3⟩:=jh.some hg;have S0:Stp (eI k) H ρ (aA H a (.dK [])) ρ:=nT ha;have h0:(aA H a (.dK [])) (α (.hd k pl))=some (.dK (gH hs)):=by rw [ag (ai y3 ha)]; exact y3
 have S:=S0.two (cr (o:=.dK (gH (cA hs j))) h0 y2 (show eI k (.hd k pl) from rfl));have up:∀ {b:Addr}{r:Role}{u:HO},H b=some u->ρ b=some r->r≠.hd k pl->(aA (aA H a (.dK [])) (α (.hd k pl)) (.dK (gH (cA hs j)))) b=some u:=fun {b r u} h1 h2 h3=>by
  rw [ag (bR h2 y2 h3),ag (ai h1 ha)]; exact h1
 refine ⟨⟨⟨dx,up o r1 (fun z=>nomatch z)⟩,⟨kt,up ot r2 (fun z=>nomatch z),jt.imp fun i v y _ ⟨z1,z2,kv,z3,z4⟩=>⟨z1,z2,kv,up z3 z2 (fun z=>nomatch z),z4.imp fun _ _ _ _ w=>w.stp S⟩⟩,⟨ks,up os r3 (fun z=>nomatch z),js⟩,
  ⟨kh,up oh r4 (fun z=>nomatch z),?_⟩,r1,r2,r3,r4⟩,S⟩
 show cm _ _ (aJ l.hands pl (cA ((ay l.hands pl).getD []) j));rw [hg];show cm _ kh (aJ l.hands pl (cA hs j));unfold aJ;rw [if_pos (by
  obtain ⟨p,hp⟩:∃ p∈l.hands,p.1=pl:=⟨_,bj hg,rfl⟩;exact List.any_eq_true.mpr ⟨p,hp.1,decide_eq_true hp.2⟩)]
 have:∀ {kh:List (bh×V)}{l:List (Int×List Int)},cm (AO H α ρ k) kh l->cm (AO (aA (aA H a (.dK [])) (α (.hd k pl)) (.dK (gH (cA hs j)))) α ρ k) kh (l.map fun p=>if p.1=pl then (p.1,cA hs j) else p):=by
  intro kh l d;unfold cm at d ⊢
  induction d with
  | nil=>exact .nil
  | @cons p q ps qs e t ih =>
   refine .cons ?_ ih;obtain ⟨e1,z1,z2,z3⟩:=e;dsimp only
   by_cases z:q.1=pl
   ·rw [if_pos z]
    refine ⟨e1,z1,z2,?_⟩;show aA _ _ _ (α (.hd k q.1))=_;rw [z]; exact upd_same
   ·rw [if_neg z]
    exact ⟨e1,z1,z2,up z3 z2 (fun w=>by cases w; exact z rfl)⟩
 exact this jh
end
theorem BdL.mono {l:PLd}{n m:Nat} (x:BdL l n) (h:n<=m):BdL l m :=
 ⟨Nat.le_trans x.t h,fun p hp=>Nat.le_trans (x.r p hp) h,by have:=x.s; have h2:n * n<=m * m:=Nat.mul_le_mul h h; omega,Nat.le_trans x.h h,fun p hp=>Nat.le_trans (x.i p hp) h⟩
theorem Bd.mono {A:PH}{n m:Nat} (x:Bd A n) (h:n<=m):Bd A m :=
 ⟨Nat.le_trans x.l h,Nat.le_trans x.s h,Nat.le_trans x.w h,fun s hs=>Nat.le_trans (x.r s hs) h,fun p hp=>(x.k p hp).mono h⟩
theorem Wf.mono {A:PH}{n m:Nat}{PL:List Int} (x:Wf A n PL) (h:n<=m):Wf A m PL:=⟨x.bd.mono h,x.le,x.rp,x.pos,x.pl⟩
theorem lq (b:bJ) (p:Int×(Int×Str)):(aR b p).length<=b.length+1:=by
 unfold aR;split
 ·exact bD ..
 ·split
  ·exact bD ..
  ·omega
theorem uM (rs:List bJ):(e_ rs).length<=rs.flatten.length:=by
 have h1:∀ (r b:bJ),(r.foldl aR b).length<=b.length+r.length:=by
  intro r
  induction r with
  | nil=>intro b; exact Nat.le_refl _
  | cons p r ih=>intro b; rw [List.foldl_cons,List.length_cons]; have:=ih (aR b p); have:=lq b p; omega
 have h2:∀ (rs:List bJ) (b:bJ),(rs.foldl (fun b r=>r.foldl aR b) b).length<=b.length+rs.flatten.length:=by
  intro rs
  induction rs with
  | nil=>intro b; exact Nat.le_refl _
  | cons r rs ih=>intro b; rw [List.foldl_cons,List.flatten_cons,List.length_append]; have:=ih (r.foldl aR b); have:=h1 r b; omega
 have:=h2 rs [];simpa [e_] using this
theorem jQ:∀ (l:bJ) (s:List (Int×Str)),(l.foldl (fun s q=>aJ s q.1 q.2.2) s).length<=s.length+l.length
 | [],_=>Nat.le_refl _
 | p :: r,s=>by
  rw [List.foldl_cons,List.length_cons];have h1:=jQ r (aJ s p.1 p.2.2);have h2:=bD s p.1 p.2.2;omega
theorem wj {cnt:Int}{l:PLd}{n:Nat}{j:Int}{row:bJ} (b:BdL l n) (hr:row.length<=n) (ho:l.op=false->l.said=[]):BdL (cY cnt l j row) (n+1):=by
 have nn:n * n<=(n+1) * (n+1):=Nat.mul_le_mul (Nat.le_succ n) (Nat.le_succ n);unfold cY;split
 ·exact b.mono (Nat.le_succ n)
 ·next hop =>
  have hof:l.op=false:=by cases h:l.op with | true=>exact absurd h hop | false=>rfl
  have t1:(aJ l.told j row).length<=n+1:=Nat.le_trans (bD _ _ _) (Nat.succ_le_succ b.t);have r1:∀ p∈aJ l.told j row,p.2.length<=n+1:=fun p hp=>by
   rcases bf hp with z | z
   ·rw [z]; exact Nat.le_succ_of_le hr
   ·exact Nat.le_succ_of_le (b.r p z.1)
  split
  ·refine ⟨t1,r1,?_,Nat.le_succ_of_le b.h,fun p hp=>Nat.le_succ_of_le (b.i p hp)⟩
   show ((e_ ((aJ l.told j row).map (·.2))).foldl (fun s q=>aJ s q.1 q.2.2) l.said).length<=_;rw [ho hof];have h1:=jQ (e_ ((aJ l.told j row).map (·.2))) [];have h2:=uM ((aJ l.told j row).map (·.2));have h3:=og _ r1;have h4:(aJ l.told j row).length * (n+1)<=(n+1) * (n+1):=Nat.mul_le_mul_right _ t1;simp only [List.length_nil] at h1;omega
  ·exact ⟨t1,r1,by have:=b.s; show l.said.length<=_; omega,Nat.le_succ_of_le b.h,fun p hp=>Nat.le_succ_of_le (b.i p hp)⟩
theorem wg {cnt:Int}{l:PLd}{PL:List Int}{j:Int}{row:bJ} (w:WfL l PL):WfL (cY cnt l j row) PL:=by
 unfold cY;split
 ·exact w
 ·next hop =>
  have hof:l.op=false:=by cases h:l.op with | true=>exact absurd h hop | false=>rfl
  have hh:l.hands=[]:=by
   cases e:l.hands with
   | nil=>rfl
   | cons p r =>
    have:=w.hs p (by rw [e]; exact List.mem_cons_self);rw [w.op hof] at this; cases this
  split
  ·exact ⟨w.hp,w.hn,(fun p hp=>by have hp:p∈l.hands:=hp; rw [hh] at hp; cases hp),fun z=>nomatch z⟩
  ·exact ⟨w.hp,w.hn,w.hs,w.op⟩
theorem ff {α:Type}{l:List α}{i:Nat}{a x:α} (h:x∈l.set i a):x=a\/x∈l:=by
 rcases List.mem_or_eq_of_mem_set h with z | z
 ·exact .inr z
 ·exact .inl z
theorem wV {A:PH}{n:Nat}{PL:List Int}{d:Deed} (w:Wf A n PL) (hd:nN PL d):Wf (step A d).1 (n+1) PL:=by
 have w1:Wf A (n+1) PL:=w.mono (Nat.le_succ n);have fall:∀ own num,Wf (eY A own num) (n+1) PL:=fun own num=>by
  unfold eY;split
  ·exact w1
  ·next s hs =>
   have ms:=List.mem_of_getElem? hs;refine ⟨⟨Nat.le_trans (m4 _ _) w1.bd.l,w1.bd.s,w1.bd.w,fun x hx=>?_,fun p hp=>w1.bd.k p (fI.mp hp).1⟩,fun p hp=>w1.le p (fI.mp hp).1,fun x hx=>?_,w1.pos,w1.pl⟩
   ·rcases ff hx with z | z
    ·rw [z]; exact w1.bd.r s ms
    ·exact w1.bd.r x z
   ·rcases ff hx with z | z
    ·rw [z]; exact w1.rp s ms
    ·exact w1.rp x z
 cases d with
 | rise o =>
  unfold step;dsimp only;split
  ·unfold eN
   split
   ·exact w1
   ·split
    ·exact w1
    ·next s hs =>
     have ms:=List.mem_of_getElem? hs;refine ⟨⟨Nat.le_trans (bD _ _ _) (Nat.succ_le_succ w.bd.l),w1.bd.s,w1.bd.w,fun x hx=>?_,fun p hp=>?_⟩,fun p hp=>?_,fun x hx=>?_,w1.pos,w1.pl⟩
     ·rcases ff hx with z | z
      ·rw [z]; exact w1.bd.r s ms
      ·exact w1.bd.r x z
     ·rcases bf hp with z | z
      ·rw [z]; exact ⟨Nat.zero_le _,(fun _ h=>nomatch h),Nat.zero_le _,Nat.zero_le _,(fun _ h=>nomatch h)⟩
      ·exact w1.bd.k p z.1
     ·rcases bf hp with z | z
      ·rw [z]; exact ⟨(fun _ h=>nomatch h),.nil,(fun _ h=>nomatch h),fun _=>rfl⟩
      ·exact w1.le p z.1
     ·rcases ff hx with z | z
      ·rw [z]; exact w1.rp s ms
      ·exact w1.rp x z
  ·exact w1
 | ask o p =>
  unfold step;dsimp only;split
  ·split
   ·unfold fy
    split
    ·exact w1
    ·next l hl =>
     have ml:=bj hl;split
     ·exact w1
     ·split
      ·exact w1
      ·next s hs =>
       have ms:=List.mem_of_getElem? hs;split
       ·exact fall _ _
       ·refine ⟨⟨Nat.le_trans (bD _ _ _) (Nat.succ_le_succ w.bd.l),w1.bd.s,w1.bd.w,fun x hx=>?_,fun q hq=>?_⟩,fun q hq=>?_,fun x hx=>?_,w1.pos,w1.pl⟩
        ·rcases ff hx with z | z
         ·rw [z]; exact w1.bd.r s ms
         ·exact w1.bd.r x z
        ·rcases bf hq with z | z
         ·rw [z]; exact wj (w.bd.k _ ml) (w.bd.r s ms) (w.le _ ml).op
         ·exact w1.bd.k q z.1
        ·rcases bf hq with z | z
         ·rw [z]; exact wg (w.le _ ml)
         ·exact w1.le q z.1
        ·rcases ff hx with z | z
         ·rw [z]; exact w1.rp s ms
         ·exact w1.rp x z
   ·exact w1
  ·exact w1
 | say o sy =>
  unfold step;dsimp only;split
  ·unfold f_
   split
   ·exact w1
   ·next l hl =>
    have ml:=bj hl;have bl:=w.bd.k _ ml;have wl:=w.le _ ml;split
    ·next hop =>
     refine ⟨⟨Nat.le_trans (bD _ _ _) (Nat.succ_le_succ w.bd.l),w1.bd.s,w1.bd.w,w1.bd.r,fun q hq=>?_⟩,fun q hq=>?_,w1.rp,w1.pos,w1.pl⟩
     ·rcases bf hq with z | z
      ·rw [z]
       refine ⟨Nat.le_succ_of_le bl.t,fun p hp=>Nat.le_succ_of_le (bl.r p hp),?_,Nat.le_succ_of_le bl.h,fun p hp=>Nat.le_succ_of_le (bl.i p hp)⟩;have h1:=bD l.said (b_ l.said:Int) sy;have h2:=bl.s;have h3:n * n<=(n+1) * (n+1):=Nat.mul_le_mul (Nat.le_succ n) (Nat.le_succ n);show (aJ l.said (b_ l.said:Int) sy).length<=_;dsimp only at h2;omega
      ·exact w1.bd.k q z.1
     ·rcases bf hq with z | z
      ·rw [z]
       refine ⟨wl.hp,wl.hn,fun p hp=>?_,fun z=>absurd (hop.symm.trans z) (fun z=>nomatch z)⟩;show (ay (aJ l.said (b_ l.said:Int) sy) p.1).isSome=true;rw [aP];split
       ·rfl
       ·exact wl.hs p hp
      ·exact w1.le q z.1
    ·exact w1
  ·exact w1
 | write o p pl =>
  have hd:pl∈PL:=hd;unfold step;dsimp only;split
  ·split
   ·unfold bV
    split
    ·exact w1
    ·next l hl =>
     have ml:=bj hl;have bl:=w.bd.k _ ml;have wl:=w.le _ ml;split
     ·exact w1
     ·next sy hsy =>
      split
      ·exact w1
      ·split
       ·exact w1
       ·next s hs =>
        have ms:=List.mem_of_getElem? hs;split
        ·exact fall _ _
        ·refine ⟨⟨Nat.le_trans (bD _ _ _) (Nat.succ_le_succ w.bd.l),w1.bd.s,?_,fun x hx=>?_,fun q hq=>?_⟩,fun q hq=>?_,fun x hx=>?_,w1.pos,w1.pl⟩
         ·show (A.wrs++[_]).length<=_
          rw [List.length_append]; exact Nat.succ_le_succ w.bd.w
         ·rcases ff hx with z | z
          ·rw [z]; exact Nat.le_trans (bD _ _ _) (Nat.succ_le_succ (w.bd.r s ms))
          ·exact w1.bd.r x z
         ·rcases bf hq with z | z
          ·rw [z]
           refine ⟨Nat.le_succ_of_le bl.t,fun p hp=>Nat.le_succ_of_le (bl.r p hp),(bl.mono (Nat.le_succ n)).s,Nat.le_trans (bD _ _ _) (Nat.succ_le_succ bl.h),fun p hp=>?_⟩;rcases bf hp with z | z
           ·rw [z]
            refine Nat.le_trans (p0 _ _) (Nat.succ_le_succ ?_);cases e:ay l.hands pl with
            | none=>exact Nat.zero_le _
            | some hs=>exact bl.i _ (bj e)
           ·exact Nat.le_succ_of_le (bl.i p z.1)
          ·exact w1.bd.k q z.1
         ·rcases bf hq with z | z
          ·rw [z]
           refine ⟨fun p hp=>?_,dR _ _ wl.hn,fun p hp=>?_,wl.op⟩
           ·rcases bf hp with z | z
            ·rw [z]; exact hd
            ·exact wl.hp p z.1
           ·rcases bf hp with z | z
            ·rw [z]; show (ay l.said pl).isSome=true; rw [hsy]; rfl
            ·exact wl.hs p z.1
          ·exact w1.le q z.1
         ·rcases ff hx with z | z
          ·rw [z]
           obtain ⟨h1,h2⟩:=w1.rp s ms;refine ⟨fun p hp=>?_,dR _ _ h2⟩;rcases bf hp with z | z
           ·rw [z]; exact hd
           ·exact h1 p z.1
          ·exact w1.rp x z
   ·exact w1
  ·exact w1
 | settled o =>
  unfold step;dsimp only;split
  ·exact w1
  ·exact w1
 | stop o =>
  unfold step;dsimp only;split
  ·unfold d8
   split
   ·exact w1
   ·refine ⟨⟨Nat.le_trans (m4 _ _) w1.bd.l,?_,w1.bd.w,w1.bd.r,fun p hp=>w1.bd.k p (fI.mp hp).1⟩,fun p hp=>w1.le p (fI.mp hp).1,w1.rp,w1.pos,w1.pl⟩
    show (A.stop++[o]).length<=_;rw [List.length_append]; exact Nat.succ_le_succ w.bd.s
  ·exact w1
 | wake o =>
  unfold step;dsimp only;split
  ·unfold eV
   split
   ·exact ⟨⟨w1.bd.l,Nat.le_trans (List.length_filter_le ..) w1.bd.s,w1.bd.w,w1.bd.r,w1.bd.k⟩,w1.le,w1.rp,w1.pos,w1.pl⟩
   ·exact w1
  ·exact w1
theorem ke {n:Nat}{PL:List Int} (hn:0 < n) (hp:PL.length < 64):Wf (init n) 0 PL :=
 ⟨⟨Nat.le_refl _,Nat.le_refl _,Nat.le_refl _,(fun s hs=>by rw [(List.mem_replicate.mp hs).2]; exact Nat.le_refl _),(fun _ h=>nomatch h)⟩,(fun _ h=>nomatch h),(fun s hs=>by rw [(List.mem_replicate.mp hs).2]; exact ⟨(fun _ h=>nomatch h),.nil⟩),by show (0:Int) < (n:Int); omega,hp⟩
theorem nI {A:PH}{n:Nat}{PL:List Int} (w:Wf A n PL):∀ ds:List Deed,(∀ d∈ds,nN PL d)->Wf (di A ds) (n+ds.length) PL:=by
 intro ds
 induction ds generalizing A n with
 | nil=>intro _; exact w
 | cons d ds ih =>
  intro h;have:=ih (wV w (h d List.mem_cons_self)) fun x hx=>h x (List.mem_cons_of_mem _ hx);rw [List.length_cons,show n+(ds.length+1)=n+1+ds.length by omega];exact this
theorem qo {l:PLd}{PL:List Int} (w:WfL l PL) (h:PL.length < 64):l.hands.length < 64:=by
 have:=List.Nodup.length_le_of_subset w.hn (fun x hx=>by
  obtain ⟨p,hp,rfl⟩:=List.mem_map.mp hx;exact w.hp p hp:∀ x∈l.hands.map (·.1),x∈PL)
 rw [List.length_map] at this;omega
theorem mQ {r:bJ}{PL:List Int} (h1:∀ p∈r,p.1∈PL) (h2:(r.map (·.1)).Nodup) (h:PL.length < 64):r.length < 64:=by
 have:=List.Nodup.length_le_of_subset h2 (fun x hx=>by
  obtain ⟨p,hp,rfl⟩:=List.mem_map.mp hx;exact h1 p hp:∀ x∈r.map (·.1),x∈PL)
 rw [List.length_map] at this;omega
theorem pQ (n:Nat):(init n).scrs.length=n:=List.length_replicate
theorem wD (A:PH) (d:Deed):(step A d).1.cnt=A.cnt:=by
 have fall:∀ own num,(eY A own num).cnt=A.cnt:=fun own num=>by unfold eY; split<;>rfl
 cases d<;>simp only [step]<;>(split<;>try rfl)<;>(try unfold eN)<;>(try unfold fy)<;>(try unfold f_)<;>(try unfold bV)<;>(try unfold d8)<;>(try unfold eV)<;>(repeat' split)<;>first | rfl | exact fall _ _
theorem om (A:PH):∀ ds:List Deed,(di A ds).cnt=A.cnt:=by
 intro ds
 induction ds generalizing A with
 | nil=>rfl
 | cons d ds ih=>exact (ih (step A d).1).trans (wD A d)
theorem Stp.any {R:Role->Prop}{H H':Hp}{ρ ρ':Ro} (x:Stp R H ρ H' ρ') (h:¬ R .out:=by first | exact fun z=>z | exact fun z=>z.elim (fun z=>nomatch z) (fun z=>nomatch z) | exact fun z=>z.elim (fun z=>z) (fun z=>nomatch z) | (intro z; rcases z with z | z | z<;>cases z) | exact fun z=>z rfl):Stp tP H ρ H' ρ':=x.mono fun r hr z=>h (z ▸ hr)
section
variable {c:Cs}{H H':Hp}{α α':Al}{ρ ρ':Ro}{A:PH}{k:Int}{l l':PLd}
theorem HallAt.leadC (x:HallAt c H α ρ A) (hg:ay A.leads k=some l) (t:Stp (eI k) H ρ H' ρ') (e:∀ r,¬ eI k r->α' r=α r) (e1:α' (.lp k)=α (.lp k)) (n:LdAt c H' α' ρ' A.cnt k l'):HallAt c H' α' ρ' { A with leads:=aJ A.leads k l' }:=by
 obtain ⟨kl,ol,jl⟩:=x.ld;refine x.lead (t.mono fun _ z=>.inl z) e n ⟨kl,t.kp _ _ ol fun r hr z=>?_,?_⟩
 ·rw [x.r3] at hr; cases hr; exact z
 ·have:cm (fun k v (_:PLd)=>v=.ref (α' (.lp k))) kl A.leads:=jl.imp fun j v y _ z=>by
   by_cases w:j=k
   ·rw [w,e1]; rw [w] at z; exact z
   ·rw [e (.lp j) w]; exact z
  exact this.reput (by rw [hg]; rfl) fun _ _ z=>z
theorem HallAt.leadAt (x:HallAt c H α ρ A) (own:Int):∃ kl,H (α .ld)=some (.dK kl)/\((ay A.leads own=none/\bL kl (Sum.inl own)=none)\/∃ l,ay A.leads own=some l/\bL kl (Sum.inl own)=some (.ref (α (.lp own)))/\LdAt c H α ρ A.cnt own l):=by
 obtain ⟨kl,ol,jl⟩:=x.ld;refine ⟨kl,ol,?_⟩;rcases jl.get own with z | ⟨v,l,z1,z2,rfl⟩
 ·exact .inl z
 ·exact .inr ⟨l,z1,z2,x.le own l (bj z1)⟩
theorem HallAt.risen {n:Int}{p t s h dx:Addr}{kl:List (bh×V)} (x:HallAt c H α ρ A) (ol:H (α .ld)=some (.dK kl)) (np:H p=none) (nt:H t=none) (ns:H s=none) (nh:H h=none) (pt:p≠t) (ps:p≠s) (ph:p≠h) (ts:t≠s) (th:t≠h) (sh:s≠h)
  (o1:H' p=some (.ins c.l dx (lF (.int n) (.int A.cnt) t (.bl false) s h))) (o2:H' t=some (.dK [])) (o3:H' s=some (.dK [])) (o4:H' h=some (.dK [])) (kp:aV H H') :
  ∃ α' ρ',HallAt c (aA H' (α .ld) (.dK (bB kl (Sum.inl k) (.ref p)))) α' ρ' { A with leads:=aJ A.leads k (mG n) }/\α' .hall=α .hall/\Stp tP H ρ (aA H' (α .ld) (.dK (bB kl (Sum.inl k) (.ref p)))) ρ':=by
 obtain ⟨kl',ol',jl⟩:=x.ld;rw [ol] at ol'; cases ol';have lp:=ai ol np;have lt:=ai ol nt;have ls:=ai ol ns;have lh:=ai ol nh;refine ⟨cO (cO (cO (cO α (.lp k) p) (.lt k) t) (.ls k) s) (.lh k) h,dh (dh (dh (dh ρ p (.lp k)) t (.lt k)) s (.ls k)) h (.lh k),?_⟩;have a1:cO (cO (cO (cO α (.lp k) p) (.lt k) t) (.ls k) s) (.lh k) h (.lp k)=p:=by rw [a6 (by intro z; cases z),a6 (by intro z; cases z),a6 (by intro z; cases z),bC]
 have a2:cO (cO (cO (cO α (.lp k) p) (.lt k) t) (.ls k) s) (.lh k) h (.lt k)=t:=by rw [a6 (by intro z; cases z),a6 (by intro z; cases z),bC]
 have a3:cO (cO (cO (cO α (.lp k) p) (.lt k) t) (.ls k) s) (.lh k) h (.ls k)=s:=by rw [a6 (by intro z; cases z),bC]
 have a4:cO (cO (cO (cO α (.lp k) p) (.lt k) t) (.ls k) s) (.lh k) h (.lh k)=h:=bC;have a0:∀ r,¬ eI k r->cO (cO (cO (cO α (.lp k) p) (.lt k) t) (.ls k) s) (.lh k) h r=α r:=fun r hr=>by
  have z1:r≠.lp k:=fun z=>hr (by rw [z]; rfl);have z2:r≠.lt k:=fun z=>hr (by rw [z]; rfl);have z3:r≠.ls k:=fun z=>hr (by rw [z]; rfl);have z4:r≠.lh k:=fun z=>hr (by rw [z]; rfl);rw [a6 z4,a6 z3,a6 z2,a6 z1]
 have b1:dh (dh (dh (dh ρ p (.lp k)) t (.lt k)) s (.ls k)) h (.lh k) p=some (.lp k):=by rw [a7 ph,a7 ps,a7 pt,bP]
 have b2:dh (dh (dh (dh ρ p (.lp k)) t (.lt k)) s (.ls k)) h (.lh k) t=some (.lt k):=by rw [a7 th,a7 ts,bP]
 have b3:dh (dh (dh (dh ρ p (.lp k)) t (.lt k)) s (.ls k)) h (.lh k) s=some (.ls k):=by rw [a7 sh,bP]
 have b4:dh (dh (dh (dh ρ p (.lp k)) t (.lt k)) s (.ls k)) h (.lh k) h=some (.lh k):=bP;have b0:∀ b u,H b=some u->dh (dh (dh (dh ρ p (.lp k)) t (.lt k)) s (.ls k)) h (.lh k) b=ρ b:=fun b u e=>by
  rw [a7 (ai e nh),a7 (ai e ns),a7 (ai e nt),a7 (ai e np)]
 have S1:Stp (fun r=>eI k r\/r=.ld) H ρ H' (dh (dh (dh (dh ρ p (.lp k)) t (.lt k)) s (.ls k)) h (.lh k)):=⟨b0,fun b u e=>⟨u,kp b u e⟩,fun b u e _=>kp b u e,fun nr b e=>by
  have q1:b≠p:=fun z=>by rw [z,o1] at e; cases e
  have q2:b≠t:=fun z=>by rw [z,o2] at e; cases e
  have q3:b≠s:=fun z=>by rw [z,o3] at e; cases e
  have q4:b≠h:=fun z=>by rw [z,o4] at e; cases e
  rw [a7 q4,a7 q3,a7 q2,a7 q1];refine nr b ?_;cases w:H b with
  | none=>rfl
  | some u=>rw [kp b u w] at e; cases e⟩
 have S:=S1.two (cr (o:=.dK (bB kl (Sum.inl k) (.ref p))) (kp _ _ ol) ((b0 _ _ ol).trans x.r3) (.inr rfl));refine ⟨x.lead S a0 ⟨⟨dx,?_⟩,⟨[],?_,.nil⟩,⟨[],?_,.nil⟩,⟨[],?_,.nil⟩,?_,?_,?_,?_⟩ ⟨_,upd_same,?_⟩,a0 .hall (fun z=>z),S.any⟩
 ·rw [a1,a2,a3,a4,ag (Ne.symm lp)]; exact o1
 ·rw [a2,ag (Ne.symm lt)]; exact o2
 ·rw [a3,ag (Ne.symm ls)]; exact o3
 ·rw [a4,ag (Ne.symm lh)]; exact o4
 ·rw [a1]; exact b1
 ·rw [a2]; exact b2
 ·rw [a3]; exact b3
 ·rw [a4]; exact b4
 ·exact jl.putI k (by rw [a1]) fun j v y hj z=>by rw [a0 (.lp j) hj]; exact z
theorem HallAt.gone {kl:List (bh×V)} (x:HallAt c H α ρ A) (ol:H (α .ld)=some (.dK kl)) (own:Int):HallAt c (aA H (α .ld) (.dK (eZ kl (Sum.inl own)))) α ρ { A with leads:=cc A.leads own }/\Stp (fun r=>r=.ld\/r=.sd\/r=.wl) H ρ (aA H (α .ld) (.dK (eZ kl (Sum.inl own)))) ρ:=by
 obtain ⟨kl',ol',jl⟩:=x.ld;rw [ol] at ol'; cases ol';have S:Stp (fun r=>r=.ld\/r=.sd\/r=.wl) H ρ (aA H (α .ld) (.dK (eZ kl (Sum.inl own)))) ρ:=cr ol x.r3 (.inl rfl);obtain ⟨us,ow,jw⟩:=x.wl;refine ⟨x.mid S ⟨_,upd_same,jl.drop own⟩ ?_ ⟨us,?_,Paired.mapP jw fun _ _ z=>z.stp S⟩ (fun j l h=>(fI.mp h).1) (ww _ x.nd),S⟩
 ·rw [ag (bR x.r4 x.r3 (by intro z; cases z))]; exact x.sd
 ·rw [ag (bR x.r5 x.r3 (by intro z; cases z))]; exact ow
theorem HallAt.halt (x:HallAt c H α ρ A) (l:List Int):HallAt c (aA H (α .sd) (.dK (gH l))) α ρ { A with stop:=l }/\Stp (fun r=>r=.ld\/r=.sd\/r=.wl) H ρ (aA H (α .sd) (.dK (gH l))) ρ:=by
 obtain ⟨kl,ol,jl⟩:=x.ld;have S:Stp (fun r=>r=.ld\/r=.sd\/r=.wl) H ρ (aA H (α .sd) (.dK (gH l))) ρ:=cr x.sd x.r4 (.inr (.inl rfl));obtain ⟨us,ow,jw⟩:=x.wl;refine ⟨x.mid S ⟨kl,?_,jl⟩ upd_same ⟨us,?_,Paired.mapP jw fun _ _ z=>z.stp S⟩ (fun _ _ h=>h) x.nd,S⟩
 ·rw [ag (bR x.r3 x.r4 (by intro z; cases z))]; exact ol
 ·rw [ag (bR x.r5 x.r4 (by intro z; cases z))]; exact ow
theorem HallAt.wrote {us:List V}{tt:Addr}{w:Int×Int×Int×Str} (x:HallAt c H α ρ A) (ow:H (α .wl)=some (.lst us)) (ht:H tt=some (.tup [.int w.1,.int w.2.1,.int w.2.2.1,.str w.2.2.2])) (hr:ρ tt=none) :
  HallAt c (aA H (α .wl) (.lst (us++[.ref tt]))) α ρ { A with wrs:=A.wrs++[w] }/\Stp (fun r=>r=.ld\/r=.sd\/r=.wl) H ρ (aA H (α .wl) (.lst (us++[.ref tt]))) ρ:=by
 obtain ⟨kl,ol,jl⟩:=x.ld;obtain ⟨us',ow',jw⟩:=x.wl;rw [ow] at ow'; cases ow';have S:Stp (fun r=>r=.ld\/r=.sd\/r=.wl) H ρ (aA H (α .wl) (.lst (us++[.ref tt]))) ρ:=cr ow x.r5 (.inr (.inr rfl));refine ⟨x.mid S ⟨kl,?_,jl⟩ ?_ ⟨_,upd_same,Paired.snoc (Paired.mapP jw fun _ _ z=>z.stp S) ⟨tt,rfl,?_,hr⟩⟩ (fun _ _ h=>h) x.nd,S⟩
 ·rw [ag (bR x.r3 x.r5 (by intro z; cases z))]; exact ol
 ·rw [ag (bR x.r4 x.r5 (by intro z; cases z))]; exact x.sd
 ·rw [ag (Ne.symm (mU x.r5 hr))]; exact ht
end
structure Mkg (c:Cs) (Hs:Hp) (p D:Addr) (ob:HO) (cnt:Int) (i:Nat) (H:Hp) (α:Al) (ρ:Ro):Prop where
 ah:α .hall=p
 as:α .sl=D
 rh:ρ p=some .hall
 rs:ρ D=some .sl
 nr:yf H ρ
 kp:∀ b u,Hs b=some u->b≠p->H b=some u/\ρ b=none
 ho:H p=some ob
 hD:H D=some (.lst ((List.range i).map fun j=>.ref (α (.scr j))))
 sc:∀ j,j < i->ScrAt c H α ρ cnt j nB
theorem Bi {c:Cs}{Hs:Hp}{p D:Addr}{ob:HO}{cnt:Int} (hp:Hs p=some ob) (hD:Hs D=none):Mkg c Hs p D ob cnt 0 (aA Hs D (.lst [])) (cO (cO (fun _=>0) .hall p) .sl D) (dh (dh (fun _=>none) p .hall) D .sl):=by
 have pD:=ai hp hD;refine ⟨?_,bC,?_,bP,fun b e=>?_,fun b u e hb=>⟨?_,?_⟩,?_,upd_same,fun j hj=>absurd hj (Nat.not_lt_zero _)⟩
 ·rw [a6 (by intro z; cases z),bC]
 ·rw [a7 pD,bP]
 ·have h1:b≠D:=fun z=>by rw [z,upd_same] at e; cases e
  have h2:b≠p:=fun z=>by rw [z,ag pD,hp] at e; cases e
  rw [a7 h1,a7 h2]
 ·rw [ag (ai e hD)]; exact e
 ·rw [a7 (ai e hD),a7 hb]
 ·rw [ag pD]; exact hp
theorem Mkg.more {c:Cs}{Hs H H2:Hp}{p D q r dx:Addr}{ob:HO}{cnt:Int}{i:Nat}{α:Al}{ρ:Ro} (m:Mkg c Hs p D ob cnt i H α ρ) (nq:H q=none) (nr':H r=none) (qr:q≠r) (o1:H2 q=some (.ins c.s dx (sF (.int i) (.int cnt) (.int (-1)) r (.int (-1))))) (o2:H2 r=some (.dK [])) (k:aV H H2) :
  Mkg c Hs p D ob cnt (i+1) (aA H2 D (.lst (((List.range i).map fun j=>V.ref (α (.scr j)))++[.ref q]))) (cO (cO α (.scr i) q) (.row i) r) (dh (dh ρ q (.scr i)) r (.row i)):=by
 have Dq:=ai m.hD nq;have Dr:=ai m.hD nr';have pq:=ai m.ho nq;have pr:=ai m.ho nr';have pD:p≠D:=bR m.rh m.rs (by intro z; cases z);have b0:∀ b u,H b=some u->dh (dh ρ q (.scr i)) r (.row i) b=ρ b:=fun b u e=>by rw [a7 (ai e nr'),a7 (ai e nq)]
 have S1:Stp (fun x=>x=.sl) H ρ H2 (dh (dh ρ q (.scr i)) r (.row i)):=⟨b0,fun b u e=>⟨u,k b u e⟩,fun b u e _=>k b u e,fun n b e=>by
  have q1:b≠q:=fun z=>by rw [z,o1] at e; cases e
  have q2:b≠r:=fun z=>by rw [z,o2] at e; cases e
  rw [a7 q2,a7 q1];refine n b ?_;cases w:H b with
  | none=>rfl
  | some u=>rw [k b u w] at e; cases e⟩
 have S:=S1.two (cr (o:=.lst (((List.range i).map fun j=>V.ref (α (.scr j)))++[.ref q])) (k _ _ m.hD) ((b0 _ _ m.hD).trans m.rs) rfl);have ea:∀ x:Role,x≠.scr i->x≠.row i->cO (cO α (.scr i) q) (.row i) r x=α x:=fun x h1 h2=>by rw [a6 h2,a6 h1]
 have e1:cO (cO α (.scr i) q) (.row i) r (.scr i)=q:=by rw [a6 (by intro z; cases z),bC]
 have e2:cO (cO α (.scr i) q) (.row i) r (.row i)=r:=bC;refine ⟨?_,?_,(b0 _ _ m.ho).trans m.rh,(b0 _ _ m.hD).trans m.rs,S.fr m.nr,fun b u e hb=>?_,?_,?_,fun j hj=>?_⟩
 ·rw [ea _ (by intro z; cases z) (by intro z; cases z)]; exact m.ah
 ·rw [ea _ (by intro z; cases z) (by intro z; cases z)]; exact m.as
 ·obtain ⟨h1,h2⟩:=m.kp b u e hb
  refine ⟨?_,(b0 _ _ h1).trans h2⟩;rw [ag (Ne.symm (mU m.rs h2))]; exact k _ _ h1
 ·rw [ag pD]; exact k _ _ m.ho
 ·rw [upd_same,List.range_succ,List.map_append]
  congr 3
  ·apply List.map_congr_left
   intro j hj;have hj:=List.mem_range.mp hj;rw [ea _ (by intro z; cases z; omega) (by intro z; cases z)]
  ·show [V.ref q]=[V.ref _]
   rw [e1]
 ·by_cases z:j=i
  ·subst z
   refine ⟨⟨dx,?_⟩,⟨[],?_,.nil⟩,?_,?_⟩
   ·rw [e1,e2,ag (Ne.symm Dq)]; exact o1
   ·rw [e2,ag (Ne.symm Dr)]; exact o2
   ·rw [e1,a7 qr]; exact bP
   ·rw [e2]; exact bP
  ·refine (m.sc j (by omega)).stp S (by intro w; cases w) (by intro w; cases w) (ea _ ?_ ?_) (ea _ ?_ ?_)
   ·intro w; cases w; exact z rfl
   ·intro w; cases w
   ·intro w; cases w
   ·intro w; cases w; exact z rfl
theorem Mkg.hall {c:Cs}{Hs H H2:Hp}{p D a1 a2 a3 dx:Addr}{ob:HO}{n:Nat}{α:Al}{ρ:Ro} (m:Mkg c Hs p D ob n n H α ρ) (n1:H a1=none) (n2:H a2=none) (n3:H a3=none) (d12:a1≠a2) (d13:a1≠a3) (d23:a2≠a3)
  (o0:H2 p=some (.ins c.h dx (hF (.int n) D a1 a2 a3))) (o1:H2 a1=some (.dK [])) (o2:H2 a2=some (.dK [])) (o3:H2 a3=some (.lst [])) (k:∀ b u,H b=some u->b≠p->H2 b=some u) :
  ∃ α' ρ',α' .hall=p/\HallAt c H2 α' ρ' (init n)/\∀ b u,Hs b=some u->b≠p->H2 b=some u/\ρ' b=none:=by
 have b0:∀ b u,H b=some u->dh (dh (dh ρ a1 .ld) a2 .sd) a3 .wl b=ρ b:=fun b u e=>by rw [a7 (ai e n3),a7 (ai e n2),a7 (ai e n1)]
 have pD:p≠D:=bR m.rh m.rs (by intro z; cases z);have S:Stp (fun x=>x=.hall) H ρ H2 (dh (dh (dh ρ a1 .ld) a2 .sd) a3 .wl):=⟨b0,fun b u e=>if z:b=p then ⟨.ins c.h dx (hF (.int n) D a1 a2 a3),by rw [z]; exact o0⟩ else ⟨u,k b u e z⟩,fun b u e h=>k b u e (fun z=>h .hall (by rw [z]; exact m.rh) rfl),fun nr b e=>by
  have q1:b≠a1:=fun z=>by rw [z,o1] at e; cases e
  have q2:b≠a2:=fun z=>by rw [z,o2] at e; cases e
  have q3:b≠a3:=fun z=>by rw [z,o3] at e; cases e
  have q4:b≠p:=fun z=>by rw [z,o0] at e; cases e
  rw [a7 q3,a7 q2,a7 q1];refine nr b ?_;cases w:H b with
  | none=>rfl
  | some u=>rw [k b u w q4] at e; cases e⟩
 have ea:∀ x:Role,x≠.ld->x≠.sd->x≠.wl->cO (cO (cO α .ld a1) .sd a2) .wl a3 x=α x:=fun x h1 h2 h3=>by rw [a6 h3,a6 h2,a6 h1]
 have e1:cO (cO (cO α .ld a1) .sd a2) .wl a3 .ld=a1:=by rw [a6 (by intro z; cases z),a6 (by intro z; cases z),bC]
 have e2:cO (cO (cO α .ld a1) .sd a2) .wl a3 .sd=a2:=by rw [a6 (by intro z; cases z),bC]
 have e3:cO (cO (cO α .ld a1) .sd a2) .wl a3 .wl=a3:=bC;have eh:cO (cO (cO α .ld a1) .sd a2) .wl a3 .hall=p:=(ea _ (by intro z; cases z) (by intro z; cases z) (by intro z; cases z)).trans m.ah;have es:cO (cO (cO α .ld a1) .sd a2) .wl a3 .sl=D:=(ea _ (by intro z; cases z) (by intro z; cases z) (by intro z; cases z)).trans m.as;refine ⟨_,_,eh,⟨⟨dx,?_⟩,?_,⟨[],?_,.nil⟩,?_,⟨[],?_,.nil⟩,fun i s hi=>?_,(fun _ _ h=>nomatch h),?_,?_,?_,?_,?_,?_,S.fr m.nr,.nil⟩,fun b u e hb=>?_⟩
 ·rw [eh,es,e1,e2,e3]; exact o0
 ·rw [es,pQ,k _ _ m.hD (Ne.symm pD)]
  exact congrArg (fun l=>some (HO.lst l)) (List.map_congr_left fun j _=>by rw [ea _ (by intro z; cases z) (by intro z; cases z) (by intro z; cases z)])
 ·rw [e1]; exact o1
 ·rw [e2]; exact o2
 ·rw [e3]; exact o3
 ·have hil:i < n:=by have:=(List.getElem?_eq_some_iff.mp hi).1; rwa [pQ] at this
  have hs:s=nB:=by
   have hi':(List.replicate n nB)[i]? = some s:=hi;rw [List.getElem?_replicate,if_pos hil] at hi';exact (Option.some.inj hi').symm
  rw [hs];exact (m.sc i hil).stp S (by intro w; cases w) (by intro w; cases w) (ea _ (by intro z; cases z) (by intro z; cases z) (by intro z; cases z)) (ea _ (by intro z; cases z) (by intro z; cases z) (by intro z; cases z))
 ·rw [eh]; exact (b0 _ _ m.ho).trans m.rh
 ·rw [es]; exact (b0 _ _ m.hD).trans m.rs
 ·rw [e1,a7 d13,a7 d12]; exact bP
 ·rw [e2,a7 d23]; exact bP
 ·rw [e3]; exact bP
 ·show (n:Int)=(((List.replicate n nB).length:Nat):Int)
  rw [List.length_replicate]
 ·obtain ⟨h1,h2⟩:=m.kp b u e hb
  exact ⟨k _ _ h1 hb,(b0 _ _ h1).trans h2⟩
noncomputable def dS (H:Hp) (us:List V) (ds:List Deed):Prop:=Paired (fun u (d:Deed)=>∃ t,u=V.ref t/\H t=some (.tup d.rowV)) us ds
theorem dS.mono {H H':Hp}{us:List V}{ds:List Deed} (x:dS H us ds) (k:∀ b xs,H b=some (.tup xs)->H' b=some (.tup xs)):dS H' us ds:=Paired.mapP x fun _ _ ⟨t,e,h⟩=>⟨t,e,k _ _ h⟩
theorem bN {α β:Type}{F:α->β->Prop}{xs:List α}{ys:List β} (p:Paired F xs ys):∀ {j:Nat}{x:α},xs[j]? = some x->∃ y,ys[j]? = some y/\F x y:=by
 induction p with
 | nil=>intro j x h; simp at h
 | cons h t ih =>
  intro j x h1;cases j with
  | zero=>simp at h1; subst h1; exact ⟨_,rfl,h⟩
  | succ j=>obtain ⟨y,e1,e2⟩:=ih (by simpa using h1); exact ⟨y,by simpa using e1,e2⟩
theorem HallAt.outer {c:Cs}{H H':Hp}{α:Al}{ρ ρ':Ro}{A:PH} (x:HallAt c H α ρ A) (t:Stp (fun r=>r=.out) H ρ H' ρ'):HallAt c H' α ρ' A:=by
 have up:∀ {r:Role}{u:HO},H (α r)=some u->ρ (α r)=some r->r≠.out->H' (α r)=some u/\ρ' (α r)=some r:=fun {r u} h2 h3 h4 =>
  ⟨t.kp _ _ h2 fun q hq=>by rw [h3] at hq; cases hq; exact h4,(t.ro _ _ h2).trans h3⟩
 obtain ⟨dx,o⟩:=x.ob;obtain ⟨kl,ol,jl⟩:=x.ld;obtain ⟨us,ow,jw⟩:=x.wl;exact ⟨⟨dx,(up o x.r1 (by intro z; cases z)).1⟩,(up x.sl x.r2 (by intro z; cases z)).1,⟨kl,(up ol x.r3 (by intro z; cases z)).1,jl⟩,(up x.sd x.r4 (by intro z; cases z)).1,⟨us,(up ow x.r5 (by intro z; cases z)).1,Paired.mapP jw fun _ _ z=>z.stp t⟩,
  fun j s hj=>(x.sc j s hj).stp t (by intro z; cases z) (by intro z; cases z) rfl rfl,fun j l hj=>(x.le j l hj).stp t (fun r hr z=>by subst z; exact hr) fun _ _=>rfl,
  (up o x.r1 (by intro z; cases z)).2,(up x.sl x.r2 (by intro z; cases z)).2,(up ol x.r3 (by intro z; cases z)).2,(up x.sd x.r4 (by intro z; cases z)).2,(up ow x.r5 (by intro z; cases z)).2,x.ln,t.fr x.nr,x.nd⟩
structure Tale (H:Hp) (l:Addr) (n:Nat) (ds:List Deed) (PL:List Int) (us:List V):Prop where
 hl:H l=some (.lst us)
 dd:dS H us ds
 n0:0 < n
 n1:n < 100
 dl:ds.length<=396
 ok:∀ d∈ds,nN PL d
 pl:PL.length < 64
noncomputable def fg (c:Cs):Sp:=fun vs H Q _=>∃ (n:Nat) (l:Addr) (ds:List Deed) (PL:List Int) (us:List V),vs=[.int n,.ref l]/\Tale H l n ds PL us /\
 ∀ H' α ρ,HallAt c H' α ρ (di (init n) ds)->(∀ b u,H b=some u->H' b=some u/\ρ b=none)->Q (.ref (α .hall)) H'
noncomputable def wT (H:Hp) (v:V):Ans->Prop
 | .non=>v=.non
 | .int i=>v=.int i
 | .bl b=>v=.bl b
 | .str s=>v=.str s
 | .prs l=>∃ D us,v=.ref D/\H D=some (.lst us)/\Paired (fun u (p:Int×Str)=>∃ a,u=V.ref a/\H a=some (.tup [.int p.1,.str p.2])) us l
theorem jW.w {H:Hp}{ρ:Ro}{v:V}{a:Ans} (x:jW H ρ v a):wT H v a:=by
 cases a with
 | non=>exact x
 | int i=>exact x
 | bl b=>exact x
 | str s=>exact x
 | prs l=>obtain ⟨D,us,e,hD,_,p⟩:=x; exact ⟨D,us,e,hD,Paired.mapP p fun _ _ ⟨a,e1,e2,_⟩=>⟨a,e1,e2⟩⟩
noncomputable def jg:Sp:=fun vs H Q _=>∃ (n:Nat) (l:Addr) (ds:List Deed) (PL:List Int) (us:List V),vs=[.int n,.ref l]/\Tale H l n ds PL us /\
 ∀ H' D vs',H D=none->H' D=some (.lst vs')->Paired (wT H') vs' (jV (init n) ds)->aV H H'->Q (.ref D) H'
noncomputable def hX:Sp:=fun vs H Q _=>∃ (n:Nat) (l:Addr) (ds:List Deed) (PL:List Int) (us:List V),vs=[.int n,.ref l]/\Tale H l n ds PL us /\
 ∀ H' D,H D=none->H' D=some (.lst ((di (init n) ds).scrs.map fun s=>.int s.prom))->aV H H'->Q (.ref D) H'
noncomputable def jT (r:bJ):List (Int×Int×Str):=(ir (r.map (·.1))).map fun pl=>(pl,((ay r pl).getD (0,"")).1,((ay r pl).getD (0,"")).2)
noncomputable def nF (H:Hp) (v:V) (l:List (Int×Int×Str)):Prop:=∃ D us,v=.ref D/\H D=some (.lst us)/\Paired (fun u (p:Int×Int×Str)=>∃ a,u=V.ref a/\H a=some (.tup [.int p.1,.int p.2.1,.str p.2.2])) us l
noncomputable def rZ:Sp:=fun vs H Q _=>∃ (a:Addr) (ρ:Ro) (kv:List (bh×V)) (r:bJ),vs=[.ref a]/\H a=some (.dK kv)/\cm (nG H ρ) kv r/\r.length < 64 /\
 ∀ H' D us,H D=none->H' D=some (.lst us)->Paired (fun u (p:Int×Int×Str)=>∃ a,u=V.ref a/\H' a=some (.tup [.int p.1,.int p.2.1,.str p.2.2])) us (jT r)->aV H H'->Q (.ref D) H'
noncomputable def qD:Sp:=fun vs H Q _=>∃ (n:Nat) (l:Addr) (ds:List Deed) (PL:List Int) (us:List V),vs=[.int n,.ref l]/\Tale H l n ds PL us /\
 ∀ H' D vs',H D=none->H' D=some (.lst vs')->Paired (nF H') vs' ((di (init n) ds).scrs.map fun s=>jT s.row)->aV H H'->Q (.ref D) H'
noncomputable def hV:Sp:=fun vs H Q _=>∃ (n:Nat) (l:Addr) (ds:List Deed) (PL:List Int) (us:List V),vs=[.int n,.ref l]/\Tale H l n ds PL us /\
 ∀ H' D vs',H' D=some (.lst vs')->H D=none->Paired (fun u (p:Int×Int×Int×Str)=>∃ a,u=V.ref a/\H' a=some (.tup [.int p.1,.int p.2.1,.int p.2.2.1,.str p.2.2.2])) vs' (di (init n) ds).wrs->aV H H'->Q (.ref D) H'
end Hl
namespace L2
open PySem
theorem wR {b:Bool}{A B:Prop} (h:b=true) (ha:A):if b=true then A else B:=by rw [if_pos h]; exact ha
theorem rP {b:Bool}{A B:Prop} (h:¬ b=true) (hb:B):if b=true then A else B:=by rw [if_neg h]; exact hb
theorem x9 {b:Bool}{A B:Prop} (h:b=true) (hb:B):if (!b)=true then A else B:=by rw [h]; exact bU hb
theorem vt {b:Bool}{A B:Prop} (h:b=false) (ha:A):if (!b)=true then A else B:=by rw [h]; exact bH ha
theorem iA {X:Cx}{K:Frag}{e:Expr}{f:Str}{pos:Pos}{ta:TE} (he:PE X e ta) (hb:attributeBase e f X.env (eval e X.env)=eval e X.env) (hK:X.K=K:=by rfl):PE X (.Attribute e f pos) (zF K ta f):=by subst hK; exact aO he hb
theorem uH {X:Cx}{K:Frag} (hK:X.K=K:=by rfl):cE X (.builtin "len") (yk K):=by subst hK; exact br
theorem gS {α β:Type}{F:α->β->Prop}:∀ {xs:List α}{ys:List β}{xs':List α}{ys':List β},Paired F xs ys->Paired F xs' ys'->Paired F (xs++xs') (ys++ys')
 | _,_,_,_,.nil,p=>p
 | _,_,_,_,.cons h t,p=>.cons h (gS t p)
noncomputable def Kl (l:Addr) (H H':Hp):Prop:=∀ b u,H b=some u->b≠l->H' b=some u
theorem Kl.of_same {l:Addr}{H H':Hp} (s:aV H H'):Kl l H H':=fun b u e _=>s b u e
theorem Kl.trans {l:Addr}{H H1 H2:Hp} (a:Kl l H H1) (b:Kl l H1 H2):Kl l H H2:=fun c u e h=>b c u (a c u e h) h
theorem dN {l:Addr}{H:Hp}{o:HO}:Kl l H (aA H l o):=fun b u e h=>by rw [ag h]; exact e
end L2
namespace L2
open PySem PySem.Spec PyProof.Rows
noncomputable def qz (x:Str) (lo hi:Option Int):Str:=if ((Builtin.Str.strSliceIndices lo hi 1 x.length).length==x.length)=true then x else ⟨((Builtin.Str.strSliceIndices lo hi 1 x.length).filterMap (x.cps[·]?)).toArray⟩
section
variable {X:Cx}
theorem mS {v:Value}{o:Option Int} (p:IsPart v o):∃ l:Option (Int×Tok),v=partValue l/\l.map (·.1)=o:=by
 cases p with
 | none=>exact ⟨none,rfl,rfl⟩
 | int i t=>exact ⟨some (i,t),rfl,rfl⟩
theorem yE:zy X (fun x lo hi H Q=>∃ z,x=.str z/\(qz z lo hi).length<=sizeLine/\Q (.str (qz z lo hi)) H):=by
 intro pins s σ H x v vl vu lo hi sl Q I rx hs pl pu h;obtain ⟨z,rfl,hz,q⟩:=h;obtain ⟨t,rfl⟩:=rx;obtain ⟨l,rfl,rfl⟩:=mS pl;obtain ⟨u,rfl,rfl⟩:=mS pu;refine ⟨"str",_,PySem.F.slot_str_getitem.lookup,typeIs_str _ _ _,?_⟩;refine wpAny_getItem_str_slice (l:=l) (u:=u) (st:=none) hs rfl ?_;unfold sliceMade slicePicked;unfold qz at q hz
 by_cases c:((Builtin.Str.strSliceIndices (l.map (·.1)) (u.map (·.1)) 1 z.length).length==z.length)=true
 ·rw [if_pos c] at q
  rw [if_pos (by simpa using c)];exact ⟨.str z,H,I,⟨t,rfl⟩,q⟩
 ·rw [if_neg c] at q hz
  rw [if_neg (by simpa using c)];exact ⟨hz,.str _,H,I.tok _,⟨_,rfl⟩,q⟩
noncomputable def Bz (K:Frag):V->Option Int->Option Int->Hp->VK->Prop:=fun x lo hi H Q=>match x with
 | .str z=>(qz z lo hi).length<=sizeLine/\Q (.str (qz z lo hi)) H
 | .ref a=>(∃ xs,a9 K H a xs/\∀ p,H p=none->Q (.ref p) (aA H p (.lst (im xs lo hi))))\/zJ K (.ref a) lo hi H Q
 | _=>False
theorem wI:zy X (Bz X.K):=by
 intro pins s σ H x v vl vu lo hi sl Q I rx hs pl pu h;unfold Bz at h;split at h
 ·exact yE pins s σ H _ v vl vu lo hi sl Q I rx hs pl pu ⟨_,rfl,h.1,h.2⟩
 ·rcases h with ⟨xs,h1,h2⟩ | h
  ·exact wY pins s σ H _ v vl vu lo hi sl Q I rx hs pl pu ⟨_,xs,rfl,h1,h2⟩
  ·exact yD pins s σ H _ v vl vu lo hi sl Q I rx hs pl pu h
 ·exact h.elim
end
noncomputable def zD (lo st:Int) (n:Nat):It:=⟨fun i _=>i < n,fun i H x H'=>H'=H/\x=.int (lo+i * st),fun i _=>n<=i⟩
theorem tQ {P:Program}{w:World}{K:Frag}{tg:Expr} (it:Addr) (lo st:Int) (n:Nat):Turn P w K tg (zD lo st n) [it] it (fun i h=>IsRangeIter h it (lo+(i:Nat) * st) ((n:Int) - (i:Nat)) st) where
 mem:=by simp
 obj:=fun i h sx b hb=>by
  have e:b=it:=by simpa using hb
  subst e;exact ⟨_,sx,fun v z=>by
   have z':Data.fields _=Data.cell v:=z;cases z'⟩
 keep:=fun i h h' sx k=>k it (by simp) _ sx
 item:=by
  intro X hP hw hK hc i pins s σ H E I hf sx hg;subst hP hw hK;obtain ⟨f0,f1,f2,f3,f4,f5⟩:=hf it (by simp);have W:=Walks.range (prog:=X.prog) (w:=X.w) (I.ok.hd hc) it lo st n;refine W.item i s _ _ hg sx fun v h' tk hv st' kk=>?_;obtain ⟨t,rfl⟩:=hv;have I1:Inv X pins σ H { s with heap:=h',toks:=tk }:=I.turned (fun b o hb e=>kk b o (by simpa using hb) e) f0 f1 f3 f4 f5;exact ⟨_,rfl,rQ (s:={ s with heap:=h',toks:=tk }) (n:="range_iterator") st' rfl rfl (by decide) ⟨.int (lo+i * st),H,I1,⟨t,rfl⟩,⟨rfl,rfl⟩,st',fun b hb=>(hf b hb).1⟩⟩
 done:=by
  intro X hP hw hK hc i pins s σ H E I hf sx hg;subst hP hw hK;obtain ⟨f0,f1,f2,f3,f4,f5⟩:=hf it (by simp);exact wpAny_pyNext_range_end (I.ok.hd hc) sx (by have:n<=i:=hg; omega) fun h' eb=>⟨rfl,I.turned (t':=s.toks) (fun b o hb e=>eb b o hb e) f0 f1 f3 f4 f5⟩
 self:=fun _ _ _ _ _ sx h=>wpAny_pyIter_rangeiter sx h
theorem wq {lo st:Int}{n:Nat}{g:TG}{tb:TS}{D:Ends}{σ:St}{H:Hp} (Pv:Nat->St->Hp->Prop) (h0:Pv 0 σ H)
  (hs:∀ i σ H,i < n->Pv i σ H->g (.int (lo+i * st)) σ H fun σ2 H2=>tb { D with nx:=Pv (i+1),ct:=Pv (i+1),bk:=D.nx } σ2 H2) (hd:∀ σ H,Pv n σ H->D.nx σ H) :
  ∃ W:Nat->Nat->St->Hp->Prop,(∃ m,W 0 m σ H)/\∀ i m σ H,W i m σ H ->
   ((zD lo st n).stop i H/\D.nx σ H)\/((zD lo st n).go i H/\∃ N:St->Hp->Prop,(∀ σ' H',N σ' H'->∃ m',m' < m/\W (i+1) m' σ' H')/\∀ x H',(zD lo st n).yld i H x H'->g x σ H' fun σ2 H2=>tb { D with nx:=N,ct:=N,bk:=D.nx } σ2 H2):=by
 refine ⟨fun i m σ H=>m=n - i/\i<=n/\Pv i σ H,⟨n,by simp,Nat.zero_le _,h0⟩,?_⟩;rintro i m σ H ⟨rfl,hi,p⟩
 by_cases hlt:i < n
 ·refine .inr ⟨hlt,Pv (i+1),fun σ' H' p'=>⟨n - (i+1),by omega,rfl,hlt,p'⟩,fun x H' y=>?_⟩
  obtain ⟨e,y⟩:=y;subst e y;exact hs i σ _ hlt p
 ·have e:i=n:=by omega
  subst e;exact .inl ⟨Nat.le_refl _,hd σ H p⟩
noncomputable def Av (ta:TA):TI:=fun σ H R=>ta σ H fun vs H1=>∃ j:Nat,vs=[.int 0,.int j,.int 2]/\j < 100/\R (zD 0 2 ((j+1) / 2)) H1
theorem Ae:∀ j:Nat,j < 100->Builtin.Range.rangeSize 0 (j:Int) 2=(((j+1) / 2:Nat):Int)/\Builtin.Range.small 0 (j:Int) 2=true/\Builtin.divisionGoesByPylong ((j:Int) - 0) 2=false:=by decide +kernel
section
variable {X:Cx}{tg:Expr}
theorem t6 {a b c:Expr}{ta:TA}{p pos:Pos} (hg:Gl X "range") (hm:X.mg "range" = none) (ha:PA X [a,b,c] ta) (hs:starEach [a,b,c] X.env=[(false,eval a X.env),(false,eval b X.env),(false,eval c X.env)]:=by rfl) (hs2:starEach [b,c] X.env=[(false,eval b X.env),(false,eval c X.env)]:=by rfl) :
  PI X tg (.Call (.Name "range" p) [a,b,c] [] pos) (Av ta):=by
 intro pins s σ H R I h;refine Call_ (kO I hg hm boot_range (PyProof.Rows.callWith_type1 (bz (ha pos pins s σ H _ I h) fun us s1 ⟨vs,H1,I1,r1,q1⟩=>?_) (by rw [hs,hs2]) (by rw [hs2]; rfl)));obtain ⟨j,e,hj,q⟩:=q1;subst e;obtain ⟨z1,z2,z3⟩:=Ae j hj;cases r1 with
 | cons r rr =>
  cases rr with
  | cons r' rr =>
   cases rr with
   | cons r'' rr =>
    cases rr;obtain ⟨t,rfl⟩:=r;obtain ⟨t',rfl⟩:=r';obtain ⟨t'',rfl⟩:=r'';refine call_range_3 (by decide) ?_ (.inl z3);refine wpAny_pyIter_range (IsRange.new ..) z2 ?_;have I2:Inv X pins σ H1 { s1 with heap:=s1.heap.push { cls:=.type "range",data:=.fields #[.int 0 t,.int (j:Int) t',.int 2 t''] },toks:=s1.toks }:=I1.kept fun b o e=>Heap.get?_push_of_some _ e;refine ⟨(s1.heap.push { cls:=.type "range",data:=.fields #[.int 0 t,.int (j:Int) t',.int 2 t''] }).objs.size,[(s1.heap.push { cls:=.type "range",data:=.fields #[.int 0 t,.int (j:Int) t',.int 2 t''] }).objs.size],_,_,H1,rfl,
     I2.kept (t':=s1.toks) fun b o e=>Heap.get?_push_of_some _ e,tQ _ 0 2 ((j+1) / 2),?_,fun b hb=>?_,q⟩
    ·show IsRangeIter _ _ (0+((0:Nat):Int) * 2) ((((j+1) / 2:Nat):Int) - ((0:Nat):Int)) 2
     have e1:(0:Int)+((0:Nat):Int) * 2=0:=by decide
     have e2:(((j+1) / 2:Nat):Int) - ((0:Nat):Int)=Builtin.Range.rangeSize 0 (j:Int) 2:=by rw [z1]; simp
     rw [e1,e2];exact Heap.get?_push_size _ rfl
    ·have e:b=(s1.heap.push { cls:=.type "range",data:=.fields #[.int 0 t,.int (j:Int) t',.int 2 t''] }).objs.size:=by simpa using hb
     subst e;exact I2.fpOk (Nat.le_refl _) (I2.hok.fresh (Nat.le_refl _))
end
section
variable {X:Cx}
end
section
variable {prog:Program}{w:World}{K:Type} [DecidableEq K] {knd:HeapKind prog w K}{A:Around}{E:Value->Shared->Prop}{s:Shared}
end
section
variable {X:Cx}{pins:List (Addr×Obj)}{σ:St}{H:Hp}{s:Shared}
end
section
variable {prog:Program}{w:World}{A:Around}{E:Value->Shared->Prop}{s:Shared}{d it:Addr}{es:Array DictEntry}{ep i:Nat}
end
section
variable {X:Cx}{pins:List (Addr×Obj)}{σ:St}{H:Hp}{s:Shared}
end
theorem sR:∀ {r r':List bh},r.map kV=r'.map kV->r=r'
 | [],[],_=>rfl
 | [],_ :: _,h=>nomatch h
 | _ :: _,[],h=>nomatch h
 | a :: r,b :: r',h=>by
  rw [List.map_cons,List.map_cons] at h
  injection h with h1 h2
  rw [vq h1,sR h2]
theorem yG (a b:bh):AD (kV a) (kV b)=true:=by cases a<;>cases b<;>rfl
theorem wx {K:Frag}{H:Hp}{b p:Addr}{r r':List bh} (hb:H b=some (.tup (r.map kV))) (hp:H p=some (.tup (r'.map kV))):DEq K H 1 (.ref b) (.ref p) (decide (r=r')):=by
 by_cases z:b=p
 ·subst z
  rw [hb] at hp;have e:r=r':=sR (by injection hp with h; injection h);rw [decide_eq_true e]; exact .same
 ·have h:=DEq.tup (n:=0) (fun j=>decide (r[j]? = r'[j]?)) (bu.of (K:=K) hb) (bu.of (K:=K) hp) z fun j x y h1 h2=>by
   rw [List.getElem?_map] at h1 h2;cases e1:r[j]? with
   | none=>rw [e1] at h1; cases h1
   | some k =>
    cases e2:r'[j]? with
    | none=>rw [e2] at h2; cases h2
    | some k' =>
     rw [e1] at h1; rw [e2] at h2; cases h1; cases h2;have:=DEq.scal (K:=K) (H:=H) (n:=0) (yG k k');have e:decide (kV k=kV k')=decide (some k=some k'):=by
      by_cases q:k=k'
      ·rw [q]; simp
      ·rw [decide_eq_false (fun y=>q (vq y)),decide_eq_false (fun y=>q (Option.some.inj y))]
     rw [e] at this; exact this
  have e:((List.range (min (r.map kV).length (r'.map kV).length)).all (fun j=>decide (r[j]? = r'[j]?))&&(r.map kV).length==(r'.map kV).length)=decide (r=r'):=by
   rw [List.length_map,List.length_map,Bool.eq_iff_iff,Bool.and_eq_true,decide_eq_true_eq,List.all_eq_true,beq_iff_eq];constructor
   ·rintro ⟨h1,h2⟩
    apply List.ext_getElem? fun j=>?_
    by_cases hj:j < r.length
    ·exact of_decide_eq_true (h1 j (List.mem_range.mpr (by omega)))
    ·rw [List.getElem?_eq_none_iff.mpr (by omega),List.getElem?_eq_none_iff.mpr (by omega)]
   ·rintro rfl
    exact ⟨fun j _=>decide_eq_true rfl,rfl⟩
  rw [e] at h; exact h
end L2
namespace Hl
open PySem L2
noncomputable def wH:List Int:=[0,1,2,5,100000000000000000000]
noncomputable def AT (n:Nat):Deed->Prop
 | .rise o=>0<=o/\o < (n:Int)
 | .settled _=>False
 | _=>True
noncomputable def zm (n:Nat) (d:Deed):Prop:=nN wH d/\AT n d
noncomputable def AG (n k:Nat):Prop:=k<=50\/(n<=5/\k<=6 * (4+3 * n))\/(8 < n/\n<=13/\k<=3 * (4+3 * n))
theorem AG.le {n k:Nat} (h:AG n k):k<=130:=by unfold AG at h; omega
structure DL (n:Nat) (H:Hp) (l:Addr) (us:List V) (ds:List Deed):Prop where
 hl:H l=some (.lst us)
 dd:dS H us ds
 ok:∀ d∈ds,zm n d
theorem DL.len {n:Nat}{H:Hp}{l:Addr}{us:List V}{ds:List Deed} (x:DL n H l us ds):us.length=ds.length:=Paired.length x.dd
theorem DL.same {n:Nat}{H H':Hp}{l:Addr}{us:List V}{ds:List Deed} (x:DL n H l us ds) (s:aV H H'):DL n H' l us ds:=⟨s _ _ x.hl,x.dd.mono fun _ _ e=>s _ _ e,x.ok⟩
theorem DL.kl {n:Nat}{H H':Hp}{l m:Addr}{us:List V}{ds:List Deed} (x:DL n H l us ds) (s:Kl m H H') (h:l≠m) (hm:∀ xs,H m≠some (.tup xs)):DL n H' l us ds:=⟨s _ _ x.hl h,x.dd.mono fun b xs e=>s _ _ e fun z=>hm xs (z ▸ e),x.ok⟩
theorem DL.app {n:Nat}{H:Hp}{l t:Addr}{us:List V}{ds:List Deed}{d:Deed} (x:DL n H l us ds) (ht:H t=some (.tup d.rowV)) (o:zm n d):DL n (aA H l (.lst (us++[.ref t]))) l (us++[.ref t]) (ds++[d]):=by
 have k:∀ b xs,H b=some (.tup xs)->(aA H l (.lst (us++[.ref t]))) b=some (.tup xs):=fun b xs e=>by rw [ag (gL e x.hl fun z=>nomatch z)]; exact e
 refine ⟨upd_same,Paired.snoc (x.dd.mono k) ⟨t,rfl,k _ _ ht⟩,fun e he=>?_⟩;rcases List.mem_append.mp he with z | z
 ·exact x.ok e z
 ·have:e=d:=by simpa using z
  exact this ▸ o
theorem Kl.behind {l:Addr}{H H1 H2:Hp} (s:aV H H1) (k:Kl l H1 H2) (h:H l=none):aV H H2:=fun b u e=>k b u (s b u e) (ai e h)
theorem iy {n:Nat}{K:Frag}{σ:St}{i:Nat}{l:Addr}{us:List V}{ds:List Deed}{te:TE} (d:Deed) {H:Hp}{D:Ends} (hσ:∀ H Q,Q (.ref l) H->gV i σ H Q) (L:DL n H l us ds) (ht:∀ Q,(∀ t H',aV H H'->H' t=some (.tup d.rowV)->Q (.ref t) H')->te σ H Q) (ok:zm n d) (hz:ds.length<=999)
  (k:∀ us' H',DL n H' l us' (ds++[d])->Kl l H H'->D.nx σ H'):rL (AR K "list" nY (gV i) (uS te nA)) D σ H:=by
 unfold rL;refine hσ H _ ⟨.inl ⟨rfl,_,a9.of L.hl⟩,?_⟩;refine ht _ fun t H' s h=>?_;have L1:=L.same s;exact ⟨l,us,_,rfl,rfl,L1.hl,aS (by rw [L.len]; omega),k _ _ (L1.app h ok) (Kl.trans (.of_same s) dN)⟩
theorem vM {n:Nat}{K:Frag}{σ:St}{i:Nat}{l:Addr}{us:List V}{ds:List Deed}{te:TE} (d:Deed) {H:Hp}{u:TS}{D:Ends} (hσ:∀ H Q,Q (.ref l) H->gV i σ H Q) (L:DL n H l us ds) (ht:∀ Q,(∀ t H',aV H H'->H' t=some (.tup d.rowV)->Q (.ref t) H')->te σ H Q) (ok:zm n d) (hz:ds.length<=999)
  (k:∀ us' H',DL n H' l us' (ds++[d])->Kl l H H'->u D σ H'):yg (rL (AR K "list" nY (gV i) (uS te nA))) u D σ H:=iy (D:={ D with nx:=u D }) d hσ L ht ok hz k
theorem qK {tc:TT}{t v:TS}{D:Ends}{σ:St}{H:Hp} (P:Hp->Prop) (h:∀ (C:Hp->Prop) (D':Ends),(∀ H',P H'->C H')->(∀ H',C H'->D'.nx σ H')->tc σ H fun b H1=>if b=true then t D' σ H1 else C H1) (k:∀ H',P H'->v D σ H'):yg (yh tc t xP) v D σ H :=
 h (fun H'=>v D σ H') { D with nx:=v D } k (fun _ x=>x)
noncomputable def qC:Sp:=fun vs H Q _=>∃ k:Int,vs=[.int k]/\0<=k/\k < 100/\∀ z H',aV H H'->Q (.str z) H'
noncomputable def pA:Sp:=fun vs H Q _=>∃ (cell k:Int) (n:Nat),vs=[.int cell,.int k,.int n]/\0<=k/\k < 100/\0 < n/\n < 100 /\
 ∀ t d H',aV H H'->H' t=some (.tup d.rowV)->zm n d->Q (.ref t) H'
noncomputable def r8:Sp:=fun vs H Q _=>∃ (cell k:Int) (n:Nat),vs=[.int cell,.int k,.int n]/\0<=k/\k < 100/\0 < n/\n < 100 /\
 ∀ l us ds H',H l=none->aV H H'->DL n H' l us ds->ds.length<=4+3 * n->Q (.ref l) H'
noncomputable def rW:Sp:=fun vs H Q _=>∃ (n:Nat) (a b:Addr) (cell:Int) (ua ub:List V) (da db:List Deed),vs=[.ref a,.ref b,.int cell]/\DL n H a ua da/\DL n H b ub db/\da.length+db.length<=200 /\
 ∀ l us ds H',H l=none->aV H H'->DL n H' l us ds->ds.length=da.length+db.length->Q (.ref l) H'
noncomputable def ss:Sp:=fun vs H Q _=>∃ (a:Addr) (way:Int) (n:Nat) (ns:List Int),vs=[.ref a,.int way,.int n]/\H a=some (.lst (ns.map V.int))/\ns.length<=62/\0 < n/\(n<=5\/8 < n/\n<=13) /\
 ∀ l us ds H',H l=none->aV H H'->DL n H' l us ds->AG n ds.length->Q (.ref l) H'
theorem Bp:∀ n:Nat,n < 4->MulOk "." (n:Int)/\(Txt.mul "." (n:Int)).length<=3:=by
 intro n h;refine ⟨PyProof.Rows.mulOk_of 16 1048576 (by decide) (by omega) (by omega) (by decide) (by decide),?_⟩
 have:∀ n:Nat,n < 4->(Txt.mul "." (n:Int)).length<=3:=by decide +kernel
 exact this n h
theorem zH:MulOk "so" 10:=PyProof.Rows.mulOk_of 16 1048576 (by decide) (by decide) (by decide) (by decide) (by decide)
theorem Bs:∀ n:Nat,n < 21->(qz (Txt.mul "so" 10) none (some (n:Int))).length<=20:=by decide +kernel
theorem Br:∀ n:Nat,n < 21->(qz (Txt.mul "so" 10) (some (n:Int)) none).length<=20:=by decide +kernel
theorem rR:("abcdefghijklmnopqrstuvwxyz":Str).cps.toList.length=26/\("abcdefghijklmnopqrstuvwxyz":Str).length<=sizeLine:=by decide +kernel
theorem fC (c:Nat):(⟨#[c]⟩:Str).length=1:=rfl
theorem kf {K:Frag}{H:Hp}{a p:Addr}{ua:List V} (ha:H a=some (.lst ua)) (hp:H p=some (.lst [])):TEq K H (.ref a) (.ref p) (decide (ua=[])):=by
 by_cases h:ua=[]
 ·subst h
  exact TEq.lst (n:=0) (fun _=>true) (a9.of ha) (a9.of hp) rfl (by decide) (fun j x y h1 _=>by simp at h1)
 ·rw [decide_eq_false h]
  exact TEq.lstN (a9.of ha) (a9.of hp) (fun z=>h (List.eq_nil_of_length_eq_zero z))
theorem An {K:Frag}{σ:St}{H:Hp}{F:Bool->Hp->Prop}{a b:Addr}{ua ub:List V}{i j:Nat} (hi:∀ H Q,Q (.ref a) H->gV i σ H Q) (hj:∀ H Q,Q (.ref b) H->gV j σ H Q) (ha:H a=some (.lst ua)) (hb:H b=some (.lst ub))
  (ht:(ua≠[]\/ub≠[])->∀ H',aV H H'->F true H') (hf:ua=[]->ub=[]->∀ H',aV H H'->F false H'):zt (jD (wF (AF K) (gV i) (uP nA))) (jD (wF (AF K) (gV j) (uP nA))) σ H F:=by
 unfold zt jD wF;refine hi H _ ?_;refine ⟨by show 0<=sizeLine; decide,fun p hp=>?_⟩;have s1:=au (o:=.lst []) hp;refine ⟨_,kf (s1 _ _ ha) upd_same,_,rfl,?_⟩
 by_cases h:ua=[]
 ·refine x9 (decide_eq_true h) ?_
  refine hj _ _ ?_;refine ⟨by show 0<=sizeLine; decide,fun p2 hp2=>?_⟩;have s2:=au (o:=.lst []) hp2;refine ⟨_,kf (s2 _ _ (s1 _ _ hb)) upd_same,_,rfl,?_⟩
  by_cases h2:ub=[]
  ·rw [decide_eq_true h2]; exact hf h h2 _ (s1.trans s2)
  ·rw [decide_eq_false h2]; exact ht (.inr h2) _ (s1.trans s2)
 ·exact vt (decide_eq_false h) (ht (.inl h) _ s1)
theorem Am {K:Frag}{σ:St}{H:Hp}{F:Bool->Hp->Prop}{a b:Addr}{ua ub:List V}{i j k:Nat}{tn:Bool} (hi:∀ H Q,Q (.ref a) H->gV i σ H Q) (hj:∀ H Q,Q (.ref b) H->gV j σ H Q) (hk:∀ H Q,Q (.bl tn) H->gV k σ H Q) (ha:H a=some (.lst ua)) (hb:H b=some (.lst ub))
  (ht:(ub=[]\/ua≠[])->∀ H',aV H H'->F true H') (hf:ub≠[]->∀ H',aV H H'->F false H'):zt (jD (wF (BA K) (gV j) (uP nA))) (yi (tB (gV k)) (jD (wF (AF K) (gV i) (uP nA)))) σ H F:=by
 unfold zt yi tB jD wF;refine hj H _ ?_;refine ⟨by show 0<=sizeLine; decide,fun p hp=>?_⟩;have s1:=au (o:=.lst []) hp;refine ⟨_,kf (s1 _ _ hb) upd_same,_,rfl,?_⟩
 by_cases h:ub=[]
 ·exact wR (decide_eq_true h) (ht (.inl h) _ s1)
 ·refine rP (fun z=>h (of_decide_eq_true z)) ?_
  refine hk _ _ ?_;refine ⟨_,rfl,?_⟩;cases tn with
  | false=>exact bU (hf h _ s1)
  | true =>
   refine bH ?_;refine hi _ _ ?_;refine ⟨by show 0<=sizeLine; decide,fun p2 hp2=>?_⟩;have s2:=au (o:=.lst []) hp2;refine ⟨_,kf (s2 _ _ (s1 _ _ ha)) upd_same,_,rfl,?_⟩
   by_cases h2:ua=[]
   ·rw [decide_eq_true h2]; exact hf h _ (s1.trans s2)
   ·rw [decide_eq_false h2]; exact ht (.inr h2) _ (s1.trans s2)
theorem DL.cons_of {n:Nat}{H:Hp}{a:Addr}{ua:List V}{da:List Deed} (x:DL n H a ua da) (h:ua≠[]):∃ t ua' d da',ua=.ref t :: ua'/\da=d :: da'/\H t=some (.tup d.rowV)/\zm n d:=by
 obtain ⟨hl,dd,ok⟩:=x;cases dd with
 | nil=>exact absurd rfl h
 | cons z r=>obtain ⟨t,rfl,ht⟩:=z; exact ⟨t,_,_,_,rfl,rfl,ht,ok _ List.mem_cons_self⟩
theorem DL.tl {n:Nat}{H:Hp}{a p:Addr}{v:V}{ua:List V}{d:Deed}{da:List Deed} (x:DL n H a (v :: ua) (d :: da)) (hp:H p=none):DL n (aA H p (.lst ua)) p ua da:=by
 obtain ⟨hl,dd,ok⟩:=x;cases dd with
 | cons z r=>exact ⟨upd_same,dS.mono r fun b xs e=>(au hp) _ _ e,fun e he=>ok e (List.mem_cons_of_mem _ he)⟩
theorem lc {v:V}{ua:List V}:im (v :: ua) (some 1) none=ua:=by
 have h1:HT.sIx (v :: ua).length 0 (some 1)=1:=by
  show min (1:Int).toNat (ua.length+1)=1;simp
 unfold im;rw [h1];show ((v :: ua).drop 1).take ((v :: ua).length - 1)=ua;simp
theorem none_of {H H1:Hp}{r:Addr} (s:aV H H1) (h:H1 r=none):H r=none:=by
 cases e:H r with
 | none=>rfl
 | some u=>rw [s _ _ e] at h; cases h
theorem jK {α β:Type}{F:α->β->Prop}:∀ {xs:List α}{ys:List β} (n:Nat),Paired F xs ys->Paired F (xs.drop n) (ys.drop n)
 | _,_,0,p=>p
 | _,_,_+1,.nil=>.nil
 | _,_,n+1,.cons _ t=>jK n t
theorem jJ {α β:Type}{F:α->β->Prop}:∀ {xs:List α}{ys:List β} (n:Nat),Paired F xs ys->Paired F (xs.take n) (ys.take n)
 | _,_,0,_=>.nil
 | _,_,_+1,.nil=>.nil
 | _,_,n+1,.cons h t=>.cons h (jJ n t)
noncomputable def RL (n:Nat) (H:Hp) (r:Addr) (v:V) (ds:List Deed):Prop:=∃ a us,v=.ref a/\a≠r/\DL n H a us ds/\ds.length<=4+3 * n
structure RsAt (n:Nat) (H:Hp) (r:Addr) (rs:List V) (dss:List (List Deed)):Prop where
 hl:H r=some (.lst rs)
 pr:Paired (RL n H r) rs dss
theorem RsAt.same {n:Nat}{H H':Hp}{r:Addr}{rs:List V}{dss:List (List Deed)} (x:RsAt n H r rs dss) (s:aV H H'):RsAt n H' r rs dss :=
 ⟨s _ _ x.hl,Paired.mapP x.pr fun _ _ ⟨a,us,e,h,d,l⟩=>⟨a,us,e,h,d.same s,l⟩⟩
theorem RsAt.app {n:Nat}{H:Hp}{r a:Addr}{rs us:List V}{dss:List (List Deed)}{ds:List Deed} (x:RsAt n H r rs dss) (d:DL n H a us ds) (h:a≠r) (l:ds.length<=4+3 * n):RsAt n (aA H r (.lst (rs++[.ref a]))) r (rs++[.ref a]) (dss++[ds]):=by
 have nt:∀ xs,H r≠some (.tup xs):=fun xs z=>by rw [x.hl] at z; cases z
 exact ⟨upd_same,Paired.snoc (Paired.mapP x.pr fun _ _ ⟨a,us,e,h,d,l⟩=>⟨a,us,e,h,d.kl dN h nt,l⟩) ⟨a,us,rfl,h,d.kl dN h nt,l⟩⟩
theorem DL.cat {n:Nat}{H:Hp}{a b p:Addr}{ua ub:List V}{da db:List Deed} (x:DL n H a ua da) (y:DL n H b ub db) (hp:H p=none):DL n (aA H p (.lst (ua++ub))) p (ua++ub) (da++db):=by
 have s:=au (o:=.lst (ua++ub)) hp;refine ⟨upd_same,gS (x.same s).dd (y.same s).dd,fun e he=>?_⟩;rcases List.mem_append.mp he with z | z
 ·exact x.ok e z
 ·exact y.ok e z
theorem wA {rs:List V}{j:Nat} (h:2 * j < rs.length):im rs (some (0+(j:Int) * 2)) (some (0+(j:Int) * 2+2))=(rs.drop (2 * j)).take 2:=by
 have e1:(0+(j:Int) * 2)=((2 * j:Nat):Int):=by omega
 have e2:(0+(j:Int) * 2+2)=((2 * j+2:Nat):Int):=by omega
 unfold im;rw [e1,show ((2 * j:Nat):Int)+2=((2 * j+2:Nat):Int) from by omega,HT.sE,HT.sE];rw [Nat.min_eq_left (Nat.le_of_lt h)]
 by_cases h2:2 * j+2<=rs.length
 ·rw [Nat.min_eq_left h2]
  congr 1
  omega
 ·rw [Nat.min_eq_right (by omega),List.take_of_length_le (by rw [List.length_drop]; omega),List.take_of_length_le (by rw [List.length_drop]; omega)]
structure Maj (A:PH) (n:Int) (Q:List Int):Prop where
 nd:Q.Nodup
 in_:∀ j∈Q,0<=j/\j < A.cnt
 pr:∀ j∈Q,∃ s,A.scrs[j.toNat]? = some s/\n<=s.prom
 big:A.cnt < 2 * (Q.length:Int)
noncomputable def zp (A:PH) (n p:Int) (v:Str):Prop:=∃ Q,Maj A n Q/\((∀ j∈Q,∀ m u,(m,j,p,u)∈A.wrs->n<=m)\/∃ m j,(m,j,p,v)∈A.wrs/\m < n/\∀ i∈Q,∀ k u,(k,i,p,u)∈A.wrs->k < n->k<=m)
noncomputable def tO (A:PH) (n p:Int):Prop:=∃ Q,Maj A n Q/\∀ j∈Q,∀ m u,(m,j,p,u)∈A.wrs->n<=m
theorem tO.any {A:PH}{n p:Int} (h:tO A n p) (v:Str):zp A n p v:=let ⟨Q,a,b⟩:=h; ⟨Q,a,.inl b⟩
structure ToldOk (A:PH) (n:Int) (j:Int) (row:bJ):Prop where
 in_:0<=j/\j < A.cnt
 pr:∃ s,A.scrs[j.toNat]? = some s/\n<=s.prom
 wr:∀ p e,(p,e)∈row->(e.1,j,p,e.2)∈A.wrs/\e.1 < n
 all:∀ m p u,(m,j,p,u)∈A.wrs->m < n->∃ e,(p,e)∈row/\m<=e.1
structure LdOk (A:PH) (o:Int) (l:PLd):Prop where
 in_:0<=o/\o < A.cnt
 md:l.num % A.cnt=o
 nn:0<=l.num
 se:∀ s,A.scrs[o.toNat]? = some s->l.num<=s.seen
 cl:l.op=false->(∀ w∈A.wrs,w.1≠l.num)/\l.said=[]/\(l.told.map (·.1)).Nodup/\∀ j row,(j,row)∈l.told->ToldOk A l.num j row
 op:l.op=true->(∀ p v,ay l.said p=some v->0<=p/\zp A l.num p v)/\(∀ p,ay l.said p=none->tO A l.num p)/\∀ j p u,(l.num,j,p,u)∈A.wrs->ay l.said p=some u
structure Sf (A:PH):Prop where
 cn:0 < A.cnt
 ln:(A.scrs.length:Int)=A.cnt
 sm:∀ s∈A.scrs,-1<=s.seen
 wb:∀ m j p u,(m,j,p,u)∈A.wrs->0<=m/\(0<=j/\j < A.cnt)/\0<=p
 wp:∀ m j p u s,(m,j,p,u)∈A.wrs->A.scrs[j.toNat]? = some s->m<=s.prom
 mn:A.wrs.Pairwise (fun a b=>a.2.1=b.2.1->a.1<=b.1)
 fn:∀ m j i p u v,(m,j,p,u)∈A.wrs->(m,i,p,v)∈A.wrs->u=v
 ro:∀ (j:Nat) s,A.scrs[j]? = some s->∀ p e,(p,e)∈s.row->(e.1,(j:Int),p,e.2)∈A.wrs
 al:∀ (j:Nat) s,A.scrs[j]? = some s->∀ m p u,(m,(j:Int),p,u)∈A.wrs->∃ e,(p,e)∈s.row/\m<=e.1
 ok:∀ m j p u,(m,j,p,u)∈A.wrs->zp A m p u
 sn:∀ m j p u s,(m,j,p,u)∈A.wrs->A.scrs[(m % A.cnt).toNat]? = some s->m<=s.seen
 ld:∀ o l,ay A.leads o=some l->LdOk A o l
structure Nx (own:Int) (A B:PH):Prop where
 cnt:B.cnt=A.cnt
 sc:∀ (j:Nat) s,A.scrs[j]? = some s->∃ s',B.scrs[j]? = some s'/\s.prom<=s'.prom/\s.seen<=s'.seen
 sub:∀ w∈A.wrs,w∈B.wrs
 new:∀ w∈B.wrs,w∈A.wrs\/(w.1 % A.cnt=own/\∀ s,A.scrs[w.2.1.toNat]? = some s->s.prom<=w.1)
theorem Maj.nx {own:Int}{A B:PH}{n:Int}{Q:List Int} (M:Maj A n Q) (x:Nx own A B):Maj B n Q :=
 ⟨M.nd,fun j hj=>by rw [x.cnt]; exact M.in_ j hj,fun j hj=>by
  obtain ⟨s,h1,h2⟩:=M.pr j hj;obtain ⟨s',h3,h4,_⟩:=x.sc _ _ h1;exact ⟨s',h3,Int.le_trans h2 h4⟩,by rw [x.cnt]; exact M.big⟩
theorem Nx.old {own:Int}{A B:PH} (x:Nx own A B) {n:Int}{Q:List Int} (M:Maj A n Q) {m j p:Int}{u:Str} (hj:j∈Q) (h:(m,j,p,u)∈B.wrs):(m,j,p,u)∈A.wrs\/n<=m:=by
 refine (x.new _ h).imp id fun ⟨_,z⟩=>?_;obtain ⟨s,h1,h2⟩:=M.pr j hj;exact Int.le_trans h2 (z s h1)
theorem zp.nx {own:Int}{A B:PH}{n p:Int}{v:Str} (h:zp A n p v) (x:Nx own A B):zp B n p v:=by
 obtain ⟨Q,M,q⟩:=h;refine ⟨Q,M.nx x,q.imp (fun q j hj m u h=>?_) fun ⟨m,j,h1,h2,h3⟩=>⟨m,j,x.sub _ h1,h2,fun i hi k u hk lt=>?_⟩⟩
 ·rcases x.old M hj h with z | z
  ·exact q j hj m u z
  ·exact z
 ·rcases x.old M hi hk with z | z
  ·exact h3 i hi k u z lt
  ·omega
theorem tO.nx {own:Int}{A B:PH}{n p:Int} (h:tO A n p) (x:Nx own A B):tO B n p:=by
 obtain ⟨Q,M,q⟩:=h;refine ⟨Q,M.nx x,fun j hj m u h=>?_⟩;rcases x.old M hj h with z | z
 ·exact q j hj m u z
 ·exact z
theorem ToldOk.nx {own:Int}{A B:PH}{n j:Int}{row:bJ} (T:ToldOk A n j row) (x:Nx own A B):ToldOk B n j row:=by
 refine ⟨by rw [x.cnt]; exact T.in_,?_,fun p e h=>⟨x.sub _ (T.wr p e h).1,(T.wr p e h).2⟩,fun m p u h lt=>?_⟩
 ·obtain ⟨s,h1,h2⟩:=T.pr
  obtain ⟨s',h3,h4,_⟩:=x.sc _ _ h1;exact ⟨s',h3,Int.le_trans h2 h4⟩
 ·rcases x.new _ h with z | ⟨_,z⟩
  ·exact T.all m p u z lt
  ·obtain ⟨s,h1,h2⟩:=T.pr
   have:s.prom<=m:=z s h1
   omega
theorem LdOk.nx {own:Int}{A B:PH}{o:Int}{l:PLd} (L:LdOk A o l) (x:Nx own A B) (h:o≠own\/∀ w∈B.wrs,w∈A.wrs) (hs:∀ (j:Nat) s',B.scrs[j]? = some s'->∃ s,A.scrs[j]? = some s):LdOk B o l:=by
 have old:∀ j p u,(l.num,j,p,u)∈B.wrs->(l.num,j,p,u)∈A.wrs:=fun j p u hw=>by
  rcases h with h | h
  ·rcases x.new _ hw with z | ⟨z,_⟩
   ·exact z
   ·exact absurd (L.md.symm.trans z) h
  ·exact h _ hw
 refine ⟨by rw [x.cnt]; exact L.in_,by rw [x.cnt]; exact L.md,L.nn,fun s' hs'=>?_,fun e=>?_,fun e=>?_⟩
 ·obtain ⟨s,h1⟩:=hs _ _ hs'
  obtain ⟨s2,h2,_,h3⟩:=x.sc _ _ h1;rw [hs'] at h2; cases h2;exact Int.le_trans (L.se s h1) h3
 ·obtain ⟨h1,h2,h3,h4⟩:=L.cl e
  refine ⟨fun w hw z=>?_,h2,h3,fun j row hr=>(h4 j row hr).nx x⟩;obtain ⟨m,j,p,u⟩:=w;have z:m=l.num:=z;subst z;exact h1 _ (old _ _ _ hw) rfl
 ·obtain ⟨h1,h2,h3⟩:=L.op e
  exact ⟨fun p v hg=>⟨(h1 p v hg).1,(h1 p v hg).2.nx x⟩,fun p hg=>(h2 p hg).nx x,fun j p u hw=>h3 j p u (old _ _ _ hw)⟩
theorem cN {β:Type} (l:List (Int×β)) (k j:Int):ay (cc l k) j=if j=k then none else ay l j:=by
 induction l with
 | nil=>simp [cc,ay]
 | cons a l ih =>
  by_cases e:a.1=k
  ·have:cc (a :: l) k=cc l k:=by simp [cc,e]
   rw [this,ih]
   by_cases z:j=k
   ·simp [z]
   ·simp only [if_neg z]
    unfold ay;rw [List.find?_cons_of_neg (by simp only [decide_eq_true_eq]; intro y; exact z (y.symm.trans e))]
  ·have:cc (a :: l) k=a :: cc l k:=by simp [cc,e]
   rw [this]
   by_cases z:a.1=j
   ·have ne:j≠k:=fun y=>e (z.trans y)
    rw [if_neg ne];unfold ay;rw [List.find?_cons_of_pos (by simp [z]),List.find?_cons_of_pos (by simp [z])]
   ·have h1:ay (a :: cc l k) j=ay (cc l k) j:=by unfold ay; rw [List.find?_cons_of_neg (by simp [z])]
    have h2:ay (a :: l) j=ay l j:=by unfold ay; rw [List.find?_cons_of_neg (by simp [z])]
    rw [h1,h2,ih]
theorem dn {α:Type}{l:List α}{i:Nat}{a x:α}{j:Nat} (h:(l.set i a)[j]? = some x):(j=i/\x=a/\j < l.length)\/(j≠i/\l[j]? = some x):=by
 by_cases e:j=i
 ·subst e
  have hj:j < l.length:=by have:=(List.getElem?_eq_some_iff.mp h).1; rwa [List.length_set] at this
  rw [List.getElem?_set_self hj] at h;cases h; exact .inl ⟨rfl,rfl,hj⟩
 ·rw [List.getElem?_set_ne (Ne.symm e)] at h
  exact .inr ⟨e,h⟩
theorem kN {own:Int}{A:PH}{i:Nat}{s s':PScr}{L:List (Int×PLd)}{T:List Int} (h:A.scrs[i]? = some s) (h1:s.prom<=s'.prom) (h2:s.seen<=s'.seen):Nx own A { A with scrs:=A.scrs.set i s',leads:=L,stop:=T }:=by
 refine ⟨rfl,fun j t ht=>?_,fun w hw=>hw,fun w hw=>.inl hw⟩
 by_cases e:j=i
 ·subst e
  rw [h] at ht; cases ht;exact ⟨s',List.getElem?_set_self (List.getElem?_eq_some_iff.mp h).1,h1,h2⟩
 ·exact ⟨t,(List.getElem?_set_ne (Ne.symm e)).trans ht,Int.le_refl _,Int.le_refl _⟩
theorem gu {A:PH}{i:Nat}{s':PScr} (j:Nat) (t:PScr) (h:(A.scrs.set i s')[j]? = some t):∃ s,A.scrs[j]? = some s:=by
 have hj:j < A.scrs.length:=by have:=(List.getElem?_eq_some_iff.mp h).1; rwa [List.length_set] at this
 exact ⟨_,List.getElem?_eq_getElem hj⟩
theorem Sf.calm {A:PH} (S:Sf A) {i:Nat}{s s':PScr}{L:List (Int×PLd)}{T:List Int} (h:A.scrs[i]? = some s) (h1:s.prom<=s'.prom) (h2:s.seen<=s'.seen) (hr:s'.row=s.row)
  (hl:∀ o l,ay L o=some l->LdOk { A with scrs:=A.scrs.set i s',leads:=L,stop:=T } o l):Sf { A with scrs:=A.scrs.set i s',leads:=L,stop:=T }:=by
 have hi:i < A.scrs.length:=(List.getElem?_eq_some_iff.mp h).1;have x:Nx 0 A { A with scrs:=A.scrs.set i s',leads:=L,stop:=T }:=kN h h1 h2;refine ⟨S.cn,by show ((A.scrs.set i s').length:Int)=_; rw [List.length_set]; exact S.ln,fun t ht=>?_,S.wb,fun m j p u t hw ht=>?_,S.mn,S.fn,fun j t ht p e he=>?_,fun j t ht m p u hw=>?_,fun m j p u hw=>(S.ok m j p u hw).nx x,fun m j p u t hw ht=>?_,hl⟩
 ·obtain ⟨j,hj⟩:=List.mem_iff_getElem?.mp ht
  rcases dn hj with ⟨_,e,_⟩ | ⟨_,e⟩
  ·rw [e]; exact Int.le_trans (S.sm s (List.mem_of_getElem? h)) h2
  ·exact S.sm t (List.mem_of_getElem? e)
 ·rcases dn ht with ⟨e1,e,_⟩ | ⟨_,e⟩
  ·rw [e]; exact Int.le_trans (S.wp m j p u s hw (by rw [e1]; exact h)) h1
  ·exact S.wp m j p u t hw e
 ·rcases dn ht with ⟨e1,e,_⟩ | ⟨_,e⟩
  ·subst e1; subst e
   rw [hr] at he;exact S.ro _ _ h p _ he
  ·exact S.ro _ _ e p _ he
 ·rcases dn ht with ⟨e1,e,_⟩ | ⟨_,e⟩
  ·subst e1; subst e
   rw [hr]; exact S.al _ _ h m p u hw
  ·exact S.al _ _ e m p u hw
 ·rcases dn ht with ⟨e1,e,_⟩ | ⟨_,e⟩
  ·rw [e]; exact Int.le_trans (S.sn m j p u s hw (by rw [e1]; exact h)) h2
  ·exact S.sn m j p u t hw e
theorem Sf.leads {A:PH} (S:Sf A) {L:List (Int×PLd)}{T:List Int} (hl:∀ o l,ay L o=some l->LdOk A o l):Sf { A with leads:=L,stop:=T } :=
 have x:Nx 0 A { A with leads:=L,stop:=T }:=⟨rfl,fun j s h=>⟨s,h,Int.le_refl _,Int.le_refl _⟩,fun w h=>h,fun w h=>.inl h⟩
 ⟨S.cn,S.ln,S.sm,S.wb,S.wp,S.mn,S.fn,S.ro,S.al,fun m j p u h=>(S.ok m j p u h).nx x,S.sn,fun o l h=>(hl o l h).nx x (.inr fun w h=>h) fun j s h=>⟨s,h⟩⟩
theorem Sf.drop {A:PH} (S:Sf A) (own:Int) {T:List Int}:Sf { A with leads:=cc A.leads own,stop:=T }:=S.leads fun o l h=>by
 rw [cN] at h;split at h
 ·cases h
 ·exact S.ld o l h
theorem Sf.fall {A:PH} (S:Sf A) (own num:Int):Sf (eY A own num):=by
 unfold eY;split
 ·exact S
 ·next s h =>
  have hs:s.seen<=(if s.seen < num then num else s.seen):=by split<;>omega
  refine S.calm (T:=A.stop) h (Int.le_refl _) hs rfl fun o l hg=>?_;rw [cN] at hg;split at hg
  ·cases hg
  ·exact (S.ld o l hg).nx (kN (own:=own) h (Int.le_refl _) hs) (.inr fun w hw=>hw) fun j t ht=>gu j t ht
theorem xm {cnt own seen:Int} (hc:0 < cnt):seen < aM cnt own seen:=by
 unfold aM; have:=Int.emod_nonneg (own - (seen+1)) (b:=cnt) (by omega); omega
theorem sO {cnt own seen:Int} (h0:0<=own) (h1:own < cnt):aM cnt own seen % cnt=own:=by
 unfold aM;rw [Int.add_emod_emod,show seen+1+(own - (seen+1))=own by omega];exact Int.emod_eq_of_lt h0 h1
theorem Sf.rise {A:PH} (S:Sf A) {own:Int} (h0:0<=own) (h1:own < A.cnt):Sf (eN A own).1:=by
 unfold eN;split
 ·exact S
 ·split
  ·exact S
  ·next s h =>
   have gt:=xm (own:=own) (seen:=s.seen) S.cn;have sm:=S.sm s (List.mem_of_getElem? h);refine S.calm (T:=A.stop) h (Int.le_refl _) (Int.le_of_lt gt) rfl fun o l hg=>?_;rw [aP] at hg;split at hg
   ·next e =>
    cases hg; subst e;refine ⟨⟨h0,h1⟩,sO h0 h1,by show 0<=aM _ _ _; omega,fun t ht=>?_,fun _=>⟨fun w hw z=>?_,rfl,.nil,fun j row hr=>nomatch hr⟩,fun z=>nomatch z⟩
    ·rcases dn ht with ⟨_,e,_⟩ | ⟨e,_⟩
     ·rw [e]; exact Int.le_refl _
     ·exact absurd rfl e
    ·obtain ⟨m,j,p,u⟩:=w
     have z:m=aM A.cnt o s.seen:=z;have:=S.sn m j p u s hw (by rw [z,sO h0 h1]; exact h);omega
   ·exact (S.ld o l hg).nx (kN (own:=own) h (Int.le_refl _) (Int.le_of_lt gt)) (.inr fun w hw=>hw) fun j t ht=>gu j t ht
theorem Sf.say {A:PH} (S:Sf A) {own:Int}{sy:Str} (hf:∀ l,ay A.leads own=some l->ay l.said (b_ l.said)=none):Sf (f_ A own sy).1:=by
 unfold f_;split
 ·exact S
 ·next l h =>
  split
  ·next ho =>
   refine S.leads (T:=A.stop) fun o l' hg=>?_;rw [aP] at hg;split at hg
   ·next e =>
    cases hg; subst e;have L:=S.ld o l h;obtain ⟨h1,h2,h3⟩:=L.op ho;refine ⟨L.in_,L.md,L.nn,L.se,fun z=>absurd (ho.symm.trans z) (by decide),fun _=>⟨fun p v hp=>?_,fun p hp=>?_,fun j p u hw=>?_⟩⟩
    ·have hp:ay (aJ l.said (b_ l.said) sy) p=some v:=hp
     rw [aP] at hp;split at hp
     ·next e=>subst e; exact ⟨by omega,(h2 _ (hf l h)).any v⟩
     ·exact h1 p v hp
    ·have hp:ay (aJ l.said (b_ l.said) sy) p=none:=hp
     rw [aP] at hp;split at hp
     ·cases hp
     ·exact h2 p hp
    ·show ay (aJ l.said (b_ l.said) sy) p=some u
     have:=h3 j p u hw;rw [aP,if_neg (fun e=>by rw [e,hf l h] at this; cases this)];exact this
   ·exact S.ld o l' hg
  ·exact S
theorem Sf.stop {A:PH} (S:Sf A) (own:Int):Sf (d8 A own).1:=by
 unfold d8;split
 ·exact S
 ·exact S.drop own
theorem Sf.wake {A:PH} (S:Sf A) (own:Int):Sf (eV A own).1:=by
 unfold eV;split
 ·exact S.leads (L:=A.leads) S.ld
 ·exact S
noncomputable def jd (b:bJ) (es:List (Int×(Int×Str))):Prop:=∀ p,(ay b p=none/\∀ e,(p,e)∉es)\/∃ e,ay b p=some e/\(p,e)∈es/\∀ e',(p,e')∈es->e'.1<=e.1
theorem uJ {b:bJ}{es:List (Int×(Int×Str))} (h:jd b es) (q:Int×(Int×Str)):jd (aR b q) (es++[q]):=by
 intro p;have mem:∀ e,(p,e)∈es++[q]↔(p,e)∈es\/(p,e)=q:=fun e=>by rw [List.mem_append,List.mem_singleton]
 by_cases hp:p=q.1
 ·have put:∀ (h2:∀ e',(p,e')∈es->e'.1<=q.2.1),∃ e,ay (aJ b q.1 q.2) p=some e/\(p,e)∈es++[q]/\∀ e',(p,e')∈es++[q]->e'.1<=e.1:=fun h2=>by
   refine ⟨q.2,by rw [aP,if_pos hp],(mem _).mpr (.inr (by rw [hp])),fun e' he=>?_⟩;rcases (mem _).mp he with z | z
   ·exact h2 e' z
   ·rw [<- z]; exact Int.le_refl _
  right
  unfold aR;rcases h p with ⟨h1,h2⟩ | ⟨e,h1,h2,h3⟩
  ·rw [<- hp,h1]
   simp only;rw [hp];rw [hp] at put h2;exact put fun e' he=>absurd he (h2 e')
  ·rw [<- hp,h1]
   simp only;split
   ·next lt=>rw [hp]; rw [hp] at put h3; exact put fun e' he=>Int.le_of_lt (Int.lt_of_le_of_lt (h3 e' he) lt)
   ·next lt =>
    refine ⟨e,h1,(mem _).mpr (.inl h2),fun e' he=>?_⟩;rcases (mem _).mp he with z | z
    ·exact h3 e' z
    ·have:e'=q.2:=by rw [<- z]
     rw [this]; omega
 ·have same:ay (aR b q) p=ay b p:=by
   unfold aR;split
   ·rw [aP,if_neg hp]
   ·split
    ·rw [aP,if_neg hp]
    ·rfl
  have no:∀ e,(p,e)∈es++[q]↔(p,e)∈es:=fun e=>by
   rw [mem];constructor
   ·rintro (z | z)
    ·exact z
    ·exact absurd (by rw [<- z]) hp
   ·exact .inl
  rw [same];rcases h p with ⟨h1,h2⟩ | ⟨e,h1,h2,h3⟩
  ·exact .inl ⟨h1,fun e he=>h2 e ((no e).mp he)⟩
  ·exact .inr ⟨e,h1,(no e).mpr h2,fun e' he=>h3 e' ((no e').mp he)⟩
theorem jq:∀ (l es:List (Int×(Int×Str))) (b:bJ),jd b es->jd (l.foldl aR b) (es++l)
 | [],es,b,h=>by rw [List.append_nil]; exact h
 | q :: l,es,b,h=>by
  have:=jq l (es++[q]) (aR b q) (uJ h q);rw [List.append_assoc] at this;exact this
theorem h9:∀ (rs:List bJ) (b:bJ),rs.foldl (fun b r=>r.foldl aR b) b=rs.flatten.foldl aR b
 | [],_=>rfl
 | r :: rs,b=>by rw [List.flatten_cons,List.foldl_append]; exact h9 rs _
theorem lg (rs:List bJ):jd (e_ rs) rs.flatten:=by
 have:=jq rs.flatten [] [] fun p=>.inl ⟨rfl,fun e h=>nomatch h⟩;unfold e_;rw [h9]; exact this
theorem je {b:bJ} (h:(b.map (·.1)).Nodup) (q:Int×(Int×Str)):((aR b q).map (·.1)).Nodup:=by
 unfold aR;split
 ·exact dR _ _ h
 ·split
  ·exact dR _ _ h
  ·exact h
theorem pX (rs:List bJ):((e_ rs).map (·.1)).Nodup:=by
 unfold e_;rw [h9]
 have:∀ (l:List (Int×(Int×Str))) (b:bJ),(b.map (·.1)).Nodup->((l.foldl aR b).map (·.1)).Nodup:=by
  intro l
  induction l with
  | nil=>intro b h; exact h
  | cons q l ih=>intro b h; exact ih _ (je h q)
 exact this _ [] .nil
theorem kg:∀ (b:bJ) (s:List (Int×Str)) (p:Int),(b.map (·.1)).Nodup->ay (b.foldl (fun s q=>aJ s q.1 q.2.2) s) p=match ay b p with | some e=>some e.2 | none=>ay s p
 | [],s,p,_=>rfl
 | q :: b,s,p,h=>by
  rw [List.map_cons,List.nodup_cons] at h;have ih:=kg b (aJ s q.1 q.2.2) p h.2;rw [List.foldl_cons,ih]
  by_cases e:q.1=p
  ·have h1:ay (q :: b) p=some q.2:=by unfold ay; rw [List.find?_cons_of_pos (by simp [e])]; rfl
   have h2:ay b p=none:=cz.mpr (by rw [<- e]; exact h.1);rw [h1,h2];simp only;rw [aP,if_pos e.symm]
  ·have h1:ay (q :: b) p=ay b p:=by unfold ay; rw [List.find?_cons_of_neg (by simp [e])]
   rw [h1];cases ay b p with
   | some x=>rfl
   | none=>simp only; rw [aP,if_neg (Ne.symm e)]
theorem fB {l:List (Int×bJ)}{p:Int}{e:Int×Str}:(p,e)∈(l.map (·.2)).flatten↔∃ j row,(j,row)∈l/\(p,e)∈row:=by
 rw [List.mem_flatten];constructor
 ·rintro ⟨r,h1,h2⟩
  obtain ⟨⟨j,row⟩,h3,rfl⟩:=List.mem_map.mp h1;exact ⟨j,row,h3,h2⟩
 ·rintro ⟨j,row,h1,h2⟩
  exact ⟨row,List.mem_map.mpr ⟨(j,row),h1,rfl⟩,h2⟩
theorem LdOk.open {B:PH}{o:Int}{l:PLd} (L:LdOk B o l) (S:∀ m j p u,(m,j,p,u)∈B.wrs->0<=p) (hc:l.op=false) (hm:c_ B.cnt l.told.length=true):LdOk B o (jb l):=by
 obtain ⟨c1,c2,c3,c4⟩:=L.cl hc;have M:Maj B l.num (l.told.map (·.1)):=by
  refine ⟨c3,fun j hj=>?_,fun j hj=>?_,by rw [List.length_map]; exact of_decide_eq_true hm⟩
  ·obtain ⟨⟨j,row⟩,h,rfl⟩:=List.mem_map.mp hj; exact (c4 j row h).in_
  ·obtain ⟨⟨j,row⟩,h,rfl⟩:=List.mem_map.mp hj; exact (c4 j row h).pr
 have said:∀ p,ay (jb l).said p=(ay (e_ (l.told.map (·.2))) p).map (·.2):=fun p=>by
  show ay ((e_ (l.told.map (·.2))).foldl (fun s q=>aJ s q.1 q.2.2) l.said) p=_;rw [kg _ _ _ (pX _),c2];cases ay (e_ (l.told.map (·.2))) p<;>rfl
 refine ⟨L.in_,L.md,L.nn,L.se,(fun z=>nomatch z),fun _=>⟨fun p v hp=>?_,fun p hp=>?_,fun j p u hw=>absurd rfl (c1 _ hw)⟩⟩
 ·rw [said] at hp
  rcases lg (l.told.map (·.2)) p with ⟨z,_⟩ | ⟨e,h1,h2,h3⟩
  ·rw [z] at hp; cases hp
  ·rw [h1] at hp
   cases hp;obtain ⟨j,row,h4,h5⟩:=fB.mp h2;obtain ⟨h6,h7⟩:=(c4 j row h4).wr p e h5;refine ⟨S _ _ _ _ h6,_,M,.inr ⟨e.1,j,h6,h7,fun i hi k u hk lt=>?_⟩⟩;obtain ⟨⟨i,r⟩,g1,rfl⟩:=List.mem_map.mp hi;obtain ⟨e',g2,g3⟩:=(c4 i r g1).all k p u hk lt;exact Int.le_trans g3 (h3 e' (fB.mpr ⟨i,r,g1,g2⟩))
 ·rw [said] at hp
  rcases lg (l.told.map (·.2)) p with ⟨_,z⟩ | ⟨e,h1,_⟩
  ·refine ⟨_,M,fun j hj m u hw=>?_⟩
   apply Classical.byContradiction;intro lt;obtain ⟨⟨i,r⟩,g1,rfl⟩:=List.mem_map.mp hj;have lt:¬ l.num<=m:=lt;obtain ⟨e',g2,_⟩:=(c4 i r g1).all m p u hw (by omega);exact z e' (fB.mpr ⟨i,r,g1,g2⟩)
  ·rw [h1] at hp; cases hp
theorem Sf.ask {A:PH} (S:Sf A) {own other:Int} (h0:0<=other) (h1:other < A.cnt):Sf (fy A own other).1:=by
 unfold fy;split
 ·exact S
 ·next l hl =>
  split
  ·exact S
  ·split
   ·exact S
   ·next s h =>
    split
    ·exact S.fall own s.prom
    ·next nlt =>
     have le:s.prom<=l.num:=by omega
     have ej:((other.toNat:Nat):Int)=other:=Int.toNat_of_nonneg h0;have hi:other.toNat < A.scrs.length:=(List.getElem?_eq_some_iff.mp h).1;refine S.calm (s':={ s with prom:=l.num }) (T:=A.stop) h le (Int.le_refl _) rfl fun o l' hg=>?_;have x:Nx own A { A with scrs:=A.scrs.set other.toNat { s with prom:=l.num },leads:=aJ A.leads own (cY A.cnt l other s.row),stop:=A.stop }:=kN h le (Int.le_refl _);rw [aP] at hg;split at hg
     ·next e =>
      cases hg; subst e
      suffices key:∀ Ls:List (Int×PLd),LdOk { A with scrs:=A.scrs.set other.toNat { s with prom:=l.num },leads:=Ls,stop:=A.stop } o (cY A.cnt l other s.row) from key _
      intro Ls;have x:Nx o A { A with scrs:=A.scrs.set other.toNat { s with prom:=l.num },leads:=Ls,stop:=A.stop }:=kN h le (Int.le_refl _);have L:=(S.ld o l hl).nx x (.inr fun w hw=>hw) fun j t ht=>gu j t ht;unfold cY;cases ho:l.op with
      | true=>rw [if_pos rfl]; exact L
      | false =>
       rw [if_neg (by decide)];obtain ⟨c1,c2,c3,c4⟩:=L.cl ho;have L2:LdOk { A with scrs:=A.scrs.set other.toNat { s with prom:=l.num },leads:=Ls,stop:=A.stop } o { l with told:=aJ l.told other s.row }:=by
        refine ⟨L.in_,L.md,L.nn,L.se,fun _=>⟨c1,c2,dR _ _ c3,fun j row hj=>?_⟩,fun z=>absurd (ho.symm.trans z) (by decide)⟩;rcases bf hj with z | ⟨z,_⟩
        ·cases z
         refine ⟨⟨h0,h1⟩,⟨_,List.getElem?_set_self hi,Int.le_refl _⟩,fun p e he=>?_,fun m p u hw _=>?_⟩
         ·have w:=S.ro _ _ h p e he
          rw [ej] at w;refine ⟨w,?_⟩;have a:=S.wp _ _ _ _ s w h;have b:=c1 _ w;show e.1 < l.num;have b:e.1≠l.num:=b;omega
         ·exact S.al _ _ h m p u (by rw [ej]; exact hw)
        ·exact c4 j row z
       have hm0:({ l with told:=aJ l.told other s.row }:PLd).told=aJ l.told other s.row:=rfl;split
       ·next hm =>
        have:=L2.open (fun m j p u hw=>(S.wb m j p u hw).2.2) ho hm;rw [ho] at this; exact this
       ·rw [ho] at L2; exact L2
     ·exact (S.ld o l' hg).nx x (.inr fun w hw=>hw) fun j t ht=>gu j t ht
theorem Sf.write {A:PH} (S:Sf A) {own other pl:Int} (h0:0<=other) (h1:other < A.cnt):Sf (bV A own other pl).1:=by
 unfold bV;split
 ·exact S
 ·next l hl =>
  split
  ·exact S
  ·next sy hs =>
   split
   ·exact S
   ·split
    ·exact S
    ·next s h =>
     split
     ·exact S.fall own s.prom
     ·next nlt =>
      have le:s.prom<=l.num:=by omega
      have ej:((other.toNat:Nat):Int)=other:=Int.toNat_of_nonneg h0;have hi:other.toNat < A.scrs.length:=(List.getElem?_eq_some_iff.mp h).1;have L:=S.ld own l hl;have ho:l.op=true:=by
       cases e:l.op with
       | true=>rfl
       | false=>rw [(L.cl e).2.1] at hs; cases hs
      obtain ⟨o1,o2,o3⟩:=L.op ho
      suffices key:∀ B:PH,B.cnt=A.cnt->B.scrs=A.scrs.set other.toNat { s with prom:=l.num,row:=aJ s.row pl (l.num,sy) }->B.wrs=A.wrs++[(l.num,other,pl,sy)]->B.leads=aJ A.leads own (ix l other pl)->Sf B from key _ rfl rfl rfl rfl
      intro B bc bs bw bl;have mem:∀ w,w∈B.wrs↔w∈A.wrs\/w=(l.num,other,pl,sy):=fun w=>by rw [bw,List.mem_append,List.mem_singleton]
      have x:Nx own A B:=by
       refine ⟨bc,fun j t ht=>?_,fun w hw=>(mem w).mpr (.inl hw),fun w hw=>((mem w).mp hw).imp id fun e=>?_⟩
       ·rw [bs]
        by_cases e:j=other.toNat
        ·subst e
         rw [h] at ht; cases ht;exact ⟨_,List.getElem?_set_self hi,le,Int.le_refl _⟩
        ·exact ⟨t,(List.getElem?_set_ne (Ne.symm e)).trans ht,Int.le_refl _,Int.le_refl _⟩
       ·subst e
        refine ⟨L.md,fun t ht=>?_⟩;have ht:A.scrs[other.toNat]? = some t:=ht;rw [h] at ht; cases ht; exact le
      have back:∀ (j:Nat) t,B.scrs[j]? = some t->∃ s,A.scrs[j]? = some s:=fun j t ht=>by rw [bs] at ht; exact gu j t ht
      refine ⟨by rw [bc]; exact S.cn,by rw [bs,List.length_set,bc]; exact S.ln,fun t ht=>?_,fun m j p u hw=>?_,fun m j p u t hw ht=>?_,?_,fun m j i p u v hu hv=>?_,fun j t ht p e he=>?_,fun j t ht m p u hw=>?_,fun m j p u hw=>?_,fun m j p u t hw ht=>?_,fun o l' hg=>?_⟩
      ·rw [bs] at ht
       obtain ⟨j,hj⟩:=List.mem_iff_getElem?.mp ht;rcases dn hj with ⟨_,e,_⟩ | ⟨_,e⟩
       ·rw [e]; exact S.sm s (List.mem_of_getElem? h)
       ·exact S.sm t (List.mem_of_getElem? e)
      ·rw [bc]
       rcases (mem _).mp hw with z | z
       ·exact S.wb _ _ _ _ z
       ·cases z; exact ⟨L.nn,⟨h0,h1⟩,(o1 _ _ hs).1⟩
      ·rw [bs] at ht
       rcases (mem _).mp hw with z | z
       ·rcases dn ht with ⟨e1,e,_⟩ | ⟨_,e⟩
        ·rw [e]; exact Int.le_trans (S.wp m j p u s z (by rw [e1]; exact h)) le
        ·exact S.wp m j p u t z e
       ·cases z
        rcases dn ht with ⟨_,e,_⟩ | ⟨e,_⟩
        ·rw [e]; exact Int.le_refl _
        ·exact absurd rfl e
      ·rw [bw,List.pairwise_append]
       refine ⟨S.mn,List.pairwise_singleton _ _,fun a ha b hb=>?_⟩;rw [List.mem_singleton.mp hb];intro e;obtain ⟨m,j,p,u⟩:=a;have e:j=other:=e;subst e;exact Int.le_trans (S.wp m j p u s ha h) le
      ·rcases (mem _).mp hu with z | z
       ·rcases (mem _).mp hv with y | y
        ·exact S.fn _ _ _ _ _ _ z y
        ·cases y
         have:=o3 _ _ _ z;rw [hs] at this; exact (Option.some.inj this).symm
       ·cases z
        rcases (mem _).mp hv with y | y
        ·have:=o3 _ _ _ y
         rw [hs] at this; exact Option.some.inj this
        ·cases y; rfl
      ·rw [bs] at ht
       rcases dn ht with ⟨e1,e2,_⟩ | ⟨_,e2⟩
       ·subst e1; subst e2
        rcases bf he with z | ⟨z,_⟩
        ·cases z; rw [ej]; exact (mem _).mpr (.inr rfl)
        ·exact (mem _).mpr (.inl (S.ro _ _ h p e z))
       ·exact (mem _).mpr (.inl (S.ro _ _ e2 p e he))
      ·rw [bs] at ht
       rcases dn ht with ⟨e1,e2,_⟩ | ⟨e1,e2⟩
       ·subst e1; subst e2
        have put:∀ {q:Int×(Int×Str)},q∈s.row->q.1≠pl->q∈aJ s.row pl (l.num,sy):=fun {q} hq hn=>by
         unfold aJ;split
         ·exact List.mem_map.mpr ⟨q,hq,by rw [if_neg hn]⟩
         ·exact List.mem_append_left _ hq
        have self:(pl,(l.num,sy))∈aJ s.row pl (l.num,sy):=bj (by rw [aP,if_pos rfl]);rcases (mem _).mp hw with z | z
        ·by_cases ep:p=pl
         ·subst ep
          exact ⟨_,self,Int.le_trans (S.wp m _ _ u s z (by rw [ej]; exact h)) le⟩
         ·obtain ⟨e,g1,g2⟩:=S.al _ _ h m p u z
          exact ⟨e,put g1 ep,g2⟩
        ·have z1:m=l.num:=congrArg (·.1) z
         have z2:p=pl:=congrArg (·.2.2.1) z;rw [z1,z2]; exact ⟨_,self,Int.le_refl _⟩
       ·rcases (mem _).mp hw with z | z
        ·exact S.al _ _ e2 m p u z
        ·have z3:(j:Int)=other:=congrArg (·.2.1) z
         exact absurd (by omega) e1
      ·rcases (mem _).mp hw with z | z
       ·exact (S.ok _ _ _ _ z).nx x
       ·cases z; exact (o1 _ _ hs).2.nx x
      ·rw [bc,bs] at ht
       rcases (mem _).mp hw with z | z
       ·rcases dn ht with ⟨e1,e,_⟩ | ⟨_,e⟩
        ·rw [e]; exact S.sn m j p u s z (by rw [e1]; exact h)
        ·exact S.sn m j p u t z e
       ·cases z
        rw [L.md] at ht;rcases dn ht with ⟨e1,e,_⟩ | ⟨_,e⟩
        ·rw [e]; exact L.se s (by rw [e1]; exact h)
        ·exact L.se t e
      ·rw [bl,aP] at hg
       split at hg
       ·next e =>
        cases hg; subst e;refine ⟨by rw [bc]; exact L.in_,by rw [bc]; exact L.md,L.nn,fun t ht=>?_,fun z=>absurd (ho.symm.trans z) (by decide),fun _=>⟨fun p v hp=>⟨(o1 p v hp).1,(o1 p v hp).2.nx x⟩,fun p hp=>(o2 p hp).nx x,fun j p u hw=>?_⟩⟩
        ·rw [bs] at ht
         rcases dn ht with ⟨e1,e,_⟩ | ⟨_,e⟩
         ·rw [e]; exact L.se s (by rw [e1]; exact h)
         ·exact L.se t e
        ·rcases (mem _).mp hw with z | z
         ·exact o3 _ _ _ z
         ·cases z; exact hs
       ·next ne=>exact (S.ld o l' hg).nx x (.inl ne) back
theorem jo (said:List (Int×Str)):ay said (b_ said)=none:=by
 unfold b_;have hex:∃ n∈List.range (said.length+1),(ay said ((n:Nat):Int)).isNone=true:=by
  apply Classical.byContradiction;intro z;have all:∀ n∈(List.range (said.length+1)).map (fun k:Nat=>(k:Int)),n∈said.map (·.1):=fun n hn=>by
   obtain ⟨k,hk,rfl⟩:=List.mem_map.mp hn;apply Classical.byContradiction;intro y;exact z ⟨k,hk,by rw [cz.mpr y]; rfl⟩
  have nd:((List.range (said.length+1)).map (fun k:Nat=>(k:Int))).Nodup:=by
   rw [List.nodup_iff_pairwise_ne,List.pairwise_map];exact List.nodup_range.imp fun h e=>h (by omega)
  have:=List.Nodup.length_le_of_subset nd all;rw [List.length_map,List.length_map,List.length_range] at this;omega
 obtain ⟨n,h1,h2⟩:=hex;cases e:(List.range (said.length+1)).find? fun n:Nat=>(ay said (n:Int)).isNone with
 | none=>exact absurd h2 (by have:=List.find?_eq_none.mp e n h1; simpa using this)
 | some k =>
  have:=List.find?_some e;exact Option.isNone_iff_eq_none.mp this
theorem Sf.step {A:PH} (S:Sf A) (d:Deed):Sf (step A d).1:=by
 have iz:∀ {i:Int},aW A i=true->0<=i/\i < A.cnt:=fun {i} h=>by
  obtain ⟨a,b⟩:=Bool.and_eq_true_iff.mp h;exact ⟨of_decide_eq_true a,of_decide_eq_true b⟩
 cases d with
 | rise o =>
  show Sf (if aW A o=true then eN A o else _).1;split
  ·next h=>exact S.rise (iz h).1 (iz h).2
  ·exact S
 | ask o p =>
  show Sf (if aW A o=true then (if aW A p=true then fy A o p else _) else _).1;split
  ·split
   ·next h=>exact S.ask (iz h).1 (iz h).2
   ·exact S
  ·exact S
 | say o sy =>
  show Sf (if aW A o=true then f_ A o sy else _).1;split
  ·exact S.say fun l _=>jo l.said
  ·exact S
 | write o p pl =>
  show Sf (if aW A o=true then (if aW A p=true then bV A o p pl else _) else _).1;split
  ·split
   ·next h=>exact S.write (iz h).1 (iz h).2
   ·exact S
  ·exact S
 | settled o =>
  show Sf (if aW A o=true then (A,cZ A o) else _).1;split<;>exact S
 | stop o =>
  show Sf (if aW A o=true then d8 A o else _).1;split
  ·exact S.stop o
  ·exact S
 | wake o =>
  show Sf (if aW A o=true then eV A o else _).1;split
  ·exact S.wake o
  ·exact S
theorem Sf.start {n:Nat} (h:0 < n):Sf (init n):=by
 have ne:∀ {w},w∈(init n).wrs->False:=fun h=>nomatch h;refine ⟨by show (0:Int) < n; omega,by show ((List.replicate n nB).length:Int)=n; rw [List.length_replicate],fun s hs=>?_,fun _ _ _ _ h=>(ne h).elim,fun _ _ _ _ _ h=>(ne h).elim,.nil,fun _ _ _ _ _ _ h=>(ne h).elim,fun j s hs p e he=>?_,fun _ _ _ _ _ _ h=>(ne h).elim,fun _ _ _ _ h=>(ne h).elim,fun _ _ _ _ _ h=>(ne h).elim,fun _ _ h=>nomatch h⟩
 ·rw [(List.mem_replicate.mp hs).2]; decide
 ·rw [(List.mem_replicate.mp (List.mem_of_getElem? hs)).2] at he; exact nomatch he
theorem Sf.run {A:PH} (S:Sf A):∀ ds:List Deed,Sf (di A ds):=by
 intro ds
 induction ds generalizing A with
 | nil=>exact S
 | cons d ds ih=>exact ih (S.step d)
noncomputable def kG:Ans->V
 | .non=>.non
 | .int i=>.int i
 | .bl b=>.bl b
 | .str s=>.str s
 | .prs _=>.non
noncomputable def kM:Ans->Prop
 | .prs _=>False
 | _=>True
theorem rJ {H:Hp}{v:V}{a:Ans} (h:wT H v a) (p:kM a):v=kG a:=by
 cases a<;>first | exact h | exact p.elim
theorem lH {n:Nat} (A:PH) {d:Deed} (h:AT n d):kM (Hl.step A d).2:=by
 cases d with
 | settled o=>exact h.elim
 | rise o=>unfold Hl.step eN; dsimp only; (repeat' split)<;>trivial
 | ask o p=>unfold Hl.step fy; dsimp only; (repeat' split)<;>trivial
 | say o s=>unfold Hl.step f_; dsimp only; (repeat' split)<;>trivial
 | write o p q=>unfold Hl.step bV; dsimp only; (repeat' split)<;>trivial
 | stop o=>unfold Hl.step d8; dsimp only; (repeat' split)<;>trivial
 | wake o=>unfold Hl.step eV; dsimp only; (repeat' split)<;>trivial
theorem mR {n:Nat}:∀ (ds:List Deed) (A:PH),(∀ d∈ds,AT n d)->∀ a∈jV A ds,kM a
 | [],_,_,_,h=>nomatch h
 | d :: ds,A,hd,a,h=>by
  rcases List.mem_cons.mp h with z | z
  ·rw [z]; exact lH A (hd d List.mem_cons_self)
  ·exact mR ds _ (fun x hx=>hd x (List.mem_cons_of_mem _ hx)) a z
theorem wE {H:Hp}{vs:List V}{as:List Ans} (P:Paired (wT H) vs as) (h:∀ a∈as,kM a):vs=as.map kG:=by
 induction P with
 | nil=>rfl
 | cons x _ ih=>rw [List.map_cons,ih fun a ha=>h a (List.mem_cons_of_mem _ ha),rJ x (h _ List.mem_cons_self)]
theorem pY:∀ (ds:List Deed) (A:PH) {k:Nat}{d:Deed},ds[k]? = some d->(jV A ds)[k]? = some (Hl.step (di A (ds.take k)) d).2
 | [],_,_,_,h=>by simp at h
 | e :: ds,A,0,d,h=>by simp at h; subst h; rfl
 | e :: ds,A,k+1,d,h=>by
  show (jV (Hl.step A e).1 ds)[k]? = some (Hl.step (di (Hl.step A e).1 (ds.take k)) d).2;exact pY ds _ (by simpa using h)
theorem vK (A:PH) {ds:List Deed}{k:Nat}{d:Deed} (h:ds[k]? = some d):di A (ds.take (k+1))=(Hl.step (di A (ds.take k)) d).1:=by
 obtain ⟨hk,e⟩:=List.getElem?_eq_some_iff.mp h;rw [List.take_succ_eq_append_getElem hk,ji,e]
noncomputable def zI (r:List (Int×Int×Str)):Dat:=.lst (r.map fun p=>.tup [.int p.1,.int p.2.1,.str p.2.2])
theorem uy {H:Hp}{a:Addr}{p:Int×Int×Str} (h:H a=some (.tup [.int p.1,.int p.2.1,.str p.2.2])):Deep H 1 (.ref a) (.tup [.int p.1,.int p.2.1,.str p.2.2]) :=
 .tup h (by show 3<=sizeLine; decide) rfl fun j x d h1 h2=>by
  match j,h1,h2 with
  | 0,h1,h2=>cases h1; cases h2; exact .int
  | 1,h1,h2=>cases h1; cases h2; exact .int
  | 2,h1,h2=>cases h1; cases h2; exact .str
  | k+3,h1,h2=>simp at h1
theorem pU {H:Hp}{D:Addr}{us:List V}{r:List (Int×Int×Str)} (h:H D=some (.lst us)) (P:Paired (fun u (p:Int×Int×Str)=>∃ a,u=V.ref a/\H a=some (.tup [.int p.1,.int p.2.1,.str p.2.2])) us r) (hz:us.length<=1000):Deep H 2 (.ref D) (zI r):=by
 refine .lst h (Nat.le_of_lt (aS hz)) (by rw [List.length_map]; exact Paired.length P) fun j x d h1 h2=>?_;obtain ⟨y,hy,a,rfl,ha⟩:=bN P h1;rw [List.getElem?_map,hy] at h2;cases h2;exact uy ha
theorem uz {H:Hp}{v:V}{r:List (Int×Int×Str)} (x:nF H v r) (hz:r.length<=1000):Deep H 2 v (zI r):=by
 obtain ⟨D,us,rfl,h,P⟩:=x;exact pU h P (by rw [Paired.length P]; exact hz)
theorem nF.same {H H':Hp}{v:V}{r:List (Int×Int×Str)} (x:nF H v r) (s:aV H H'):nF H' v r:=by
 obtain ⟨D,us,e,h,P⟩:=x;exact ⟨D,us,e,s _ _ h,Paired.mapP P fun _ _ ⟨a,e1,e2⟩=>⟨a,e1,s _ _ e2⟩⟩
theorem vN (r:bJ):(jT r).length=r.length:=by
 unfold jT;rw [List.length_map,(hZ _).length_eq,List.length_map]
theorem yt {K:Frag}{H:Hp}{a b:Addr}{us vs:List V}{ws:List (Int×Int×Int×Str)} (ha:H a=some (.lst us)) (hb:H b=some (.lst vs))
  (P:Paired (fun u (p:Int×Int×Int×Str)=>∃ a,u=V.ref a/\H a=some (.tup [.int p.1,.int p.2.1,.int p.2.2.1,.str p.2.2.2])) us ws) (R:Paired (fun u (p:Int×Int×Int×Str)=>∃ a,u=V.ref a/\H a=some (.tup [.int p.1,.int p.2.1,.int p.2.2.1,.str p.2.2.2])) vs ws):TEq K H (.ref a) (.ref b) true:=by
 have h:=TEq.lst (K:=K) (n:=1) (fun _=>true) (a9.of ha) (a9.of hb) ((Paired.length P).trans (Paired.length R).symm) (by decide) fun j x y h1 h2=>by
  obtain ⟨p,hp,s,rfl,hs⟩:=bN P h1;obtain ⟨q,hq,t,rfl,ht⟩:=bN R h2;rw [hp] at hq; cases hq;have:=wx (K:=K) (r:=[.inl p.1,.inl p.2.1,.inl p.2.2.1,.inr p.2.2.2]) (r':=[.inl p.1,.inl p.2.1,.inl p.2.2.1,.inr p.2.2.2]) hs ht;rwa [decide_eq_true rfl] at this
 have e:((List.range us.length).all fun _=>true)=true:=by simp
 rwa [e] at h
end Hl
namespace K08
open PySem L2
theorem qW:FnScope ["count","many"] ["count","many"] (aw fF):=ee
theorem gw:FnScope ["count","scribe","seen","least"] ["count","scribe","seen"] (aw c7):=ee
theorem lB:FnScope ["rows","best","row","place","entry"] ["rows"] (aw fG):=ee
theorem gQ:FnScope ["said","place"] ["said"] (aw dC):=ee
theorem lU:FnScope ["self","own","count"] ["self","own","count"] (aw dW):=ee
theorem iZ:FnScope ["self","number"] ["self","number"] (aw cV):=ee
theorem mh:FnScope ["self","number","place","saying"] ["self","number","place","saying"] (aw eC):=ee
theorem lT:FnScope ["self"] ["self"] (aw dU):=ee
theorem mf:FnScope ["self","number"] ["self","number"] (aw eu):=ee
theorem oz:FnScope ["self","number","count"] ["self","number","count"] (aw fi):=ee
theorem oA:FnScope ["self","scribe","row"] ["self","scribe","row"] (aw fj):=ee
theorem d6:FnScope ["self","place","entry"] ["self"] (aw b9):=ee
theorem jH:FnScope ["self","saying","place"] ["self","saying"] (aw fP):=ee
theorem fu:FnScope ["self","scribe","place","hands"] ["self","scribe","place"] (aw cW):=ee
theorem dM:FnScope ["self","places"] ["self"] (aw bX):=ee
theorem oB:FnScope ["self","count"] ["self","count"] (aw fm):=ee
theorem mi:FnScope ["self","number"] ["self","number"] (aw eE):=ee
theorem iP:FnScope ["self","own","number"] ["self","own"] (aw fk):=ee
theorem jI:FnScope ["self","own","other","lead","asked"] ["self","own","other"] (aw fR):=ee
theorem oC:FnScope ["self","own","number"] ["self","own","number"] (aw fq):=ee
theorem p7:FnScope ["self","own","saying"] ["self","own","saying"] (aw fQ):=ee
theorem eT:FnScope ["self","own","other","place","lead","writer","saying"] ["self","own","other","place"] (aw cG):=ee
theorem gb:FnScope ["self","own"] ["self","own"] (aw bY):=ee
theorem h_:FnScope ["self","own"] ["self","own"] (aw cI):=ee
theorem jX:FnScope ["self","own"] ["self","own"] (aw dG):=ee
theorem sD:FnScope ["hall","deed","kind"] ["hall","deed"] (aw kL):=ee
theorem oy:FnScope ["hall","deed"] ["hall","deed"] (aw dZ):=ee
theorem gP:FnScope ["count","deeds","hall","deed"] ["count","deeds"] (aw dB):=ee
theorem lC:FnScope ["count","deeds","hall"] ["count","deeds"] (aw fH):=ee
theorem iX:FnScope ["count","deeds"] ["count","deeds"] (aw ci):=ee
theorem jx:FnScope ["row"] ["row"] (aw cx):=ee
theorem me:FnScope ["count","deeds"] ["count","deeds"] (aw dA):=ee
theorem iY:FnScope ["count","deeds"] ["count","deeds"] (aw cj):=ee
theorem xX:FnScope ["_law_found","_law_meant","_law_k"] ["_law_found","_law_meant"] (aw wO):=ee
theorem vG:FnScope ["_law_found"] ["_law_found"] (aw kj):=ee
theorem Af:FnScope ["_law_script","_law_k"] ["_law_script","_law_k"] (aw wP):=ee
theorem sC:FnScope ["_law_k","_law_letters","_law_spot","_law_two"] ["_law_k"] (aw nK):=ee
theorem pG:FnScope ["_law_cell","_law_k","_law_count","_law_own","_law_deeds","_law_j","_law_other","_law_place"] ["_law_cell","_law_k","_law_count"] (aw km):=ee
theorem mP:FnScope ["_law_cell","_law_k","_law_count","_law_way","_law_own","_law_other","_law_large","_law_place"] ["_law_cell","_law_k","_law_count"] (aw iE):=ee
theorem pF:FnScope ["_law_one","_law_other","_law_cell","_law_deeds","_law_turn"] ["_law_one","_law_other","_law_cell"] (aw ki):=ee
theorem pI:FnScope ["_law_cells","_law_way","_law_count","_law_deeds","_law_most","_law_k","_law_rounds","_law_pair","_law_row"] ["_law_cells","_law_way","_law_count"] (aw ko):=ee
theorem f9:FnScope ["_law_found","_law_count","_law_one","_law_number"] ["_law_found","_law_count"] (aw dF):=ee
theorem vh:FnScope ["_law_count","_law_hall"] ["_law_count"] (aw rM):=ee
theorem pH:FnScope ["_law_hall","_law_own","_law_number"] ["_law_hall","_law_own"] (aw kn):=ee
theorem f8:FnScope ["_law_hall","_law_own","_law_other","_law_number"] ["_law_hall","_law_own","_law_other"] (aw dE):=ee
theorem pJ:FnScope ["_law_hall","_law_own","_law_other","_law_lead","_law_place","_law_one"] ["_law_hall","_law_own","_law_other"] (aw kq):=ee
theorem gR:FnScope ["_law_hall","_law_deed","_law_number","_law_own","_law_lead","_law_was","_law_place","_law_saying"] ["_law_hall","_law_deed"] (aw eo):=ee
theorem vH:FnScope ["_law_found","_law_due"] ["_law_found","_law_due"] (aw ku):=ee
theorem vi:FnScope ["_law_script","_law_count","_law_deeds","_law_handed","_law_told","_law_hall","_law_k","_law_writings","_law_rows","_law_promised","_law_row","_law_mine"] ["_law_script"] (aw iu):=ee
structure NBs (mg:Str->Option Value):Prop where
 len:mg "len" = none
 min:mg "min" = none
 max:mg "max" = none
 range:mg "range" = none
 int:mg "int" = none
 bool:mg "bool" = none
 str:mg "str" = none
 list:mg "list" = none
 dict:mg "dict" = none
 tuple:mg "tuple" = none
 set:mg "set" = none
 sorted:mg "sorted" = none
 isinstance:mg "isinstance" = none
 enumerate:mg "enumerate" = none
section
variable {P:Program}{w:World}{K:Frag}{mg:Str->Option Value}{base:Heap}
theorem vn (NB:NBs mg) (D:DefAt K mg "_law_so" wO ["_law_found","_law_meant"]):∀ n:Nat,L2.Own P w K mg base "_law_so" n ["_law_found","_law_meant"] (yj n)
 | 0=>by
  obtain ⟨f,fd,F,hm,hb⟩:=D.ex;exact ⟨f,fd,⟨fun _ _ _ _ h=>h.elim,fun _ _ _ _ _ _ _ _ _ _ _ _ _ h=>h.elim⟩,hm,F.kp,hb⟩
 | n+1=>by
  have O_so:L2.Own P w K mg base "_law_so" n ["_law_found","_law_meant"] (yj n):=vn NB D n;refine D.own xX (fun vs H Q E h=>?_) (fun f cdv A outer s H vs Q E hr h=>?_)
  ·obtain ⟨x,y,d,rfl,_⟩:=h; rfl
  ·obtain ⟨x,y,d,rfl,dx,dy,k⟩:=h
   have hu:=bM hr;have nd:=xX.nd;refine ⟨_,(ad (aQ (aF g8 (nv 1) cg (aK _)) (aq (az (cF g8 (nv 0) cg (aK _)))) aC)
 (ad (aQ (bn (aG aD (by rfl) NB.isinstance aI (ac (nv 1) (ac (nt NB.bool gC) aj)))) (aq (az (gg (aG aD (by rfl) NB.isinstance aI (ac (nv 0) (ac (nt NB.bool gC) aj))) (g7 (cF (bt hr) (nv 0) (nv 1) (aK _)))))) aC)
 (ad (aQ (bn (aG aD (by rfl) NB.isinstance aI (ac (nv 1) (ac (nt NB.int kQ) aj)))) (aq (az (gg (aG aD (by rfl) NB.isinstance aI (ac (nv 0) (ac (nt NB.int kQ) aj))) (gg (vm (aG aD (by rfl) NB.isinstance aI (ac (nv 0) (ac (nt NB.bool gC) aj)))) (g7 (cF (bt hr) (nv 0) (nv 1) (aK _))))))) aC)
 (ad (aQ (bn (aG aD (by rfl) NB.isinstance aI (ac (nv 1) (ac (nt NB.str jc) aj)))) (aq (az (gg (aG aD (by rfl) NB.isinstance aI (ac (nv 0) (ac (nt NB.str jc) aj))) (g7 (cF (bt hr) (nv 0) (nv 1) (aK _)))))) aC)
 (ad (aQ (bn (aG aD (by rfl) NB.isinstance aI (ac (nv 1) (ac (nt NB.dict tz) aj)))) tY aC)
 (ad (aQ (aF (dq hr) (aG aD (by rfl) NB.isinstance aI (ac (nv 1) (ac (nt NB.tuple iO) aj))) (aG aD (by rfl) NB.isinstance aI (ac (nv 0) (ac (nt NB.tuple iO) aj))) (aK _)) (aq (az bo)) aC)
 (ad (aQ (PW.pt (dI (aF (dq hr) (aG aD (by rfl) NB.isinstance aI (ac (nv 1) (ac (nt NB.list du) aj))) (aG aD (by rfl) NB.isinstance aI (ac (nv 0) (ac (nt NB.list du) aj))) (aK _)) (cX (bZ (bn (aG aD (by rfl) NB.isinstance aI (ac (nv 1) (ac (cf (ac (nt NB.list du) (ac (nt NB.tuple iO) aj))) aj)))))))) (aq (az bo)) aC)
 (ad (aQ (aF (dq hr) (aG br (by rfl) NB.len cK (ac (nv 0) aj)) (aG br (by rfl) NB.len cK (ac (nv 1) aj)) (aK _)) (aq (az bo)) aC)
 (ad (cq PassesOwn.never rfl (cy rfl NB.range (ac (aG br (by rfl) NB.len cK (ac (nv 1) aj)) aj)) (bi nd 2) (aq (aQ (bZ (bn (a_ O_so hr rfl (ac (ax (ba hu) (nv 0) (nv 2) (fun _ _=>rfl)) (ac (ax (ba hu) (nv 1) (nv 2) (fun _ _=>rfl)) aj))))) (aq (az bo)) aC)))
 (aq (az bo))))))))))),?_⟩
   cases dx with
   | non =>
    cases dy;exact ⟨rfl,_,rfl,cD rfl ⟨rfl,k H (aV.refl H)⟩⟩
   | @bl _ b =>
    cases dy;refine ⟨rfl,_,rfl,bv (fun z=>nomatch z) ?_⟩;refine ⟨_,true,.bl _,eG K,_,rfl,bH ?_⟩;refine ⟨_,true,.bl _,eG K,_,rfl,bH ?_⟩;refine ⟨_,.scal rfl,?_⟩;rw [decide_eq_true rfl];exact k H (aV.refl H)
   | @int _ i =>
    cases dy;refine ⟨rfl,_,rfl,bv (fun z=>nomatch z) ?_⟩;refine ⟨_,false,.int _,ft K,_,rfl,bU ?_⟩;refine ⟨_,true,.int _,h8 K,_,rfl,bH ?_⟩;refine ⟨_,true,.int _,h8 K,_,rfl,bH ?_⟩;refine ⟨_,false,.int _,ft K,_,rfl,_,rfl,bH ?_⟩;refine ⟨_,.scal rfl,?_⟩;rw [decide_eq_true rfl];exact k H (aV.refl H)
   | @str _ x =>
    cases dy;refine ⟨rfl,_,rfl,bv (fun z=>nomatch z) ?_⟩;refine ⟨_,false,.str _,jP K,_,rfl,bU ?_⟩;refine ⟨_,false,.str _,rl K,_,rfl,bU ?_⟩;refine ⟨_,true,.str _,dQ K,_,rfl,bH ?_⟩;refine ⟨_,true,.str _,dQ K,_,rfl,bH ?_⟩;refine ⟨_,.scal rfl,?_⟩;rw [decide_eq_true rfl];exact k H (aV.refl H)
   | @tup m a xs ds hx hz hl kx =>
    cases dy with
    | @tup _ b ys _ hy hz' hl' ky =>
    refine ⟨rfl,_,rfl,bv (fun z=>nomatch z) ?_⟩;refine ⟨_,false,.tup hy,mD K,_,rfl,bU ?_⟩;refine ⟨_,false,.tup hy,oQ K,_,rfl,bU ?_⟩;refine ⟨_,false,.tup hy,oP K,_,rfl,bU ?_⟩;refine ⟨_,false,.tup hy,mC K,_,rfl,bU ?_⟩;refine ⟨_,true,.tup hy,eQ K,_,true,.tup hx,eQ K,_,.scal rfl,_,rfl,gN rfl ?_⟩;refine ⟨_,false,.tup hy,gW K,_,false,.tup hx,gW K,_,.scal rfl,_,rfl,gN rfl ?_⟩;refine ⟨by show 2<=sizeLine; decide,fun p hp=>?_⟩;have s1:=au (o:=.tup [.ty "list",.ty "tuple"]) hp;refine ⟨["list","tuple"],_,true,upd_same,.tup (s1 _ _ hy),qm K,_,rfl,dJ ?_⟩;refine ⟨xs.length,.inl ⟨_,.inr (bu.of (s1 _ _ hx)),rfl⟩,ys.length,.inl ⟨_,.inr (bu.of (s1 _ _ hy)),rfl⟩,_,.scal rfl,_,rfl,gN (congrArg (fun n:Nat=>V.int n) (hl.trans hl'.symm)) ?_⟩;refine ⟨ys.length,.inl ⟨_,.inr (bu.of (s1 _ _ hy)),rfl⟩,_,rfl,by omega,by rw [sizeLine_eq] at hz'; omega,?_⟩;refine cU (n:=((ys.length:Int)).toNat) (fun j σ H'=>∃ o,σ=[some (.ref a),some (.ref b),o]/\aV H H') ⟨_,rfl,s1⟩ ?_ ?_
    ·rintro j σ H1 hj ⟨o,rfl,s2⟩
     have hj':j < ys.length:=by omega
     have g1:xs[j]? = some xs[j]:=List.getElem?_eq_getElem (by omega);have g2:ys[j]? = some ys[j]:=List.getElem?_eq_getElem hj';have g3:ds[j]? = some ds[j]:=List.getElem?_eq_getElem (by omega);refine ⟨_,.tup (bu.of (s2 _ _ hx)) (by rw [Int.zero_add]; exact bT g1),_,.tup (bu.of (s2 _ _ hy)) (by rw [Int.zero_add]; exact bT g2),?_⟩;refine ⟨_,_,ds[j],rfl,(kx j _ _ g1 g3).mono s2,(ky j _ _ g2 g3).mono s2,fun H2 s3=>⟨_,rfl,dJ ?_⟩⟩;exact ⟨_,rfl,s2.trans s3⟩
    ·rintro σ H1 ⟨o,rfl,s2⟩
     exact k H1 s2
   | @lst m a xs ds hx hz hl kx =>
    cases dy with
    | @lst _ b ys _ hy hz' hl' ky =>
    refine ⟨rfl,_,rfl,bv (fun z=>nomatch z) ?_⟩;refine ⟨_,false,.lst hy,oS K,_,rfl,bU ?_⟩;refine ⟨_,false,.lst hy,ql K,_,rfl,bU ?_⟩;refine ⟨_,false,.lst hy,qk K,_,rfl,bU ?_⟩;refine ⟨_,false,.lst hy,oR K,_,rfl,bU ?_⟩;refine ⟨_,false,.lst hy,gX K,_,false,.lst hx,gX K,_,.scal rfl,_,rfl,gN rfl ?_⟩;refine ⟨_,true,.lst hy,dD K,_,true,.lst hx,dD K,_,.scal rfl,_,rfl,gN rfl ?_⟩;refine ⟨by show 2<=sizeLine; decide,fun p hp=>?_⟩;have s1:=au (o:=.tup [.ty "list",.ty "tuple"]) hp;refine ⟨["list","tuple"],_,true,upd_same,.lst (s1 _ _ hy),rm K,_,rfl,dJ ?_⟩;refine ⟨xs.length,.inl ⟨_,.inl (a9.of (s1 _ _ hx)),rfl⟩,ys.length,.inl ⟨_,.inl (a9.of (s1 _ _ hy)),rfl⟩,_,.scal rfl,_,rfl,gN (congrArg (fun n:Nat=>V.int n) (hl.trans hl'.symm)) ?_⟩;refine ⟨ys.length,.inl ⟨_,.inl (a9.of (s1 _ _ hy)),rfl⟩,_,rfl,by omega,by rw [sizeLine_eq] at hz'; omega,?_⟩;refine cU (n:=((ys.length:Int)).toNat) (fun j σ H'=>∃ o,σ=[some (.ref a),some (.ref b),o]/\aV H H') ⟨_,rfl,s1⟩ ?_ ?_
    ·rintro j σ H1 hj ⟨o,rfl,s2⟩
     have hj':j < ys.length:=by omega
     have g1:xs[j]? = some xs[j]:=List.getElem?_eq_getElem (by omega);have g2:ys[j]? = some ys[j]:=List.getElem?_eq_getElem hj';have g3:ds[j]? = some ds[j]:=List.getElem?_eq_getElem (by omega);refine ⟨_,.lst (a9.of (s2 _ _ hx)) (by rw [Int.zero_add]; exact bT g1),_,.lst (a9.of (s2 _ _ hy)) (by rw [Int.zero_add]; exact bT g2),?_⟩;refine ⟨_,_,ds[j],rfl,(kx j _ _ g1 g3).mono s2,(ky j _ _ g2 g3).mono s2,fun H2 s3=>⟨_,rfl,dJ ?_⟩⟩;exact ⟨_,rfl,s2.trans s3⟩
    ·rintro σ H1 ⟨o,rfl,s2⟩
     exact k H1 s2
noncomputable def nU:Sp:=fun vs H Q _=>∃ i:Int,vs=[.int i]/\Q (.bl true) H
theorem mT (NB:NBs mg) (D:DefAt K mg "_law_whole" kj ["_law_found"]):L2.Own P w K mg base "_law_whole" 1 ["_law_found"] nU:=by
 refine D.own vG (fun vs H Q E h=>?_) (fun f cdv A outer s H vs Q E hr h=>?_)
 ·obtain ⟨i,rfl,_⟩:=h; rfl
 ·obtain ⟨i,rfl,k⟩:=h
  refine ⟨_,(aq (az (gg (aG aD (by rfl) NB.isinstance aI (ac (nv 0) (ac (nt NB.int kQ) aj))) (g7 (vm (aG aD (by rfl) NB.isinstance aI (ac (nv 0) (ac (nt NB.bool gC) aj)))))))),?_⟩;refine ⟨_,true,.int i,h8 K,_,rfl,?_⟩;refine bH ?_;refine ⟨_,false,.int i,ft K,_,rfl,?_⟩;exact k
noncomputable def zG (K:Frag):Sp:=fun vs H Q _=>∃ (a:Addr) (ns:List Int) (i:Int),vs=[.ref a,.int i]/\a9 K H a (ns.map V.int)/\0<=i/\Q (.int (ns.getD i.toNat 0)) H
theorem yP (NB:NBs mg) (D:DefAt K mg "_law_at" wP ["_law_script","_law_k"]):L2.Own P w K mg base "_law_at" 1 ["_law_script","_law_k"] (zG K):=by
 refine D.own Af (fun vs H Q E h=>?_) (fun f cdv A outer s H vs Q E hr h=>?_)
 ·obtain ⟨a,ns,i,rfl,_⟩:=h; rfl
 ·obtain ⟨a,ns,i,rfl,hS,h0,k⟩:=h
  have hu:=bM hr;refine ⟨_,(ad (aQ (aF fL (nv 1) (aG br (by rfl) NB.len cK (ac (nv 0) aj)) (aK _)) (aq (az (ax (ba hu) (nv 0) (nv 1) (fun _ _=>rfl)))) aC)
 (aq (az ao))),?_⟩
  refine ⟨ns.length,.inl ⟨_,.inl hS,by simp⟩,_,rfl,?_⟩
  by_cases h:i < (ns.length:Int)
  ·refine cD h ?_
   obtain ⟨n,rfl⟩:=Int.eq_ofNat_of_zero_le h0;have hn:n < ns.length:=by omega
   have e:ns.getD ((n:Int)).toNat 0=ns[n]:=by simp [hn]
   rw [e] at k;exact ⟨_,.lst hS (bT (by simp [hn])),k⟩
  ·refine bv h ?_
   have e:ns.getD i.toNat 0=0:=by
    have:ns.length<=i.toNat:=by omega
    simp [this]
   rw [e] at k;exact k
end
end K08
namespace K08
open PySem L2 Hl
section
variable {P:Program}{w:World}{K:Frag}{mg:Str->Option Value}{base:Heap}{C:Addr}
theorem p8 (D:DefAt K mg "is_most" fF ["count","many"]):L2.Own P w K mg base "is_most" 1 ["count","many"] qE:=by
 refine D.own qW (fun vs H Q E h=>?_) (fun f cdv A outer s H vs Q E hr h=>?_)
 ·obtain ⟨c,n,rfl,_⟩:=h; rfl
 ·obtain ⟨c,n,rfl,k⟩:=h
  refine ⟨_,(aq (az (cF gh (aE a8 ao (nv 1)) (nv 0) (aK _)))),?_⟩;exact ⟨.inl ⟨by decide,by decide⟩,k⟩
theorem jY (D:DefAt K mg "next_number" c7 ["count","scribe","seen"]):L2.Own P w K mg base "next_number" 1 ["count","scribe","seen"] r_:=by
 refine D.own gw (fun vs H Q E h=>?_) (fun f cdv A outer s H vs Q E hr h=>?_)
 ·obtain ⟨c,o,sn,rfl,_⟩:=h; rfl
 ·obtain ⟨c,o,sn,rfl,hc,k⟩:=h
  have nd:=gw.nd;refine ⟨_,(ad (aH nd 3 (aE bb (nv 2) ao))
 (aq (az (aE bb (nv 3) (aE aL (aE n9 (nv 1) (nv 3)) (nv 0)))))),?_⟩
  exact ⟨hc,k⟩
theorem lY (D:DefAt K mg "free_place" dC ["said"]):L2.Own P w K mg base "free_place" 1 ["said"] ve:=by
 refine D.own gQ (fun vs H Q E h=>?_) (fun f cdv A outer s H vs Q E hr h=>?_)
 ·obtain ⟨d,kvs,rfl,_⟩:=h; rfl
 ·obtain ⟨d,kvs,rfl,hd,k⟩:=h
  have hu:=bM hr;have nd:=gQ.nd;refine ⟨_,(ad (aH nd 1 ao)
 (ad (iF PassesOwn.never (aF (i7 hr) (nv 1) (nv 0) (by with_unfolding_all rfl)) (aq (yM nd (i:=1) rfl (.inl rfl) ao zc)))
 (aq (az (nv 1))))),?_⟩
  refine ⟨fun m σ H'=>H'=H/\∃ n:Nat,σ=[some (.ref d),some (.int n)]/\(∀ j:Nat,j < n->(bL kvs (Sum.inl (j:Int))).isSome=true)/\m=kvs.length+1 - n,⟨_,rfl,0,rfl,fun j hj=>absurd hj (Nat.not_lt_zero _),rfl⟩,?_⟩;rintro m σ H' ⟨rfl,n,rfl,hn,rfl⟩;have g:cJ H' d (.int n) (bL kvs (Sum.inl (n:Int))):=.inl ⟨kvs,Sum.inl n,hd,rfl,rfl⟩;refine ⟨_,.dct g,_,rfl,?_⟩;cases hv:bL kvs (Sum.inl (n:Int)) with
  | none =>
   refine bU ?_;exact k n hn hv
  | some x =>
   have hn':∀ j:Nat,j < n+1->(bL kvs (Sum.inl (j:Int))).isSome=true:=fun j hj=>by
    rcases Nat.lt_or_eq_of_le (Nat.le_of_lt_succ hj) with z | z
    ·exact hn j z
    ·rw [z,hv]; rfl
   have hle:=n8 (n+1) (kvs.map (·.1)) fun j hj=>g_ (hn' j hj);rw [List.length_map] at hle;refine bH ?_;refine ⟨fun σ' H''=>H''=H'/\σ'=[some (.ref d),some (.int ((n+1:Nat):Int))],?_,?_⟩
   ·rintro σ' H'' ⟨rfl,rfl⟩
    exact ⟨kvs.length+1 - (n+1),by omega,rfl,n+1,rfl,hn',rfl⟩
   ·exact ⟨.int n,rfl,_,_,rfl,rfl,rfl,rfl⟩
theorem p9 (D:DefAt K mg "best_of" fG ["rows"]):L2.Own P w K mg base "best_of" 1 ["rows"] vg:=by
 refine D.own lB (fun vs H Q E h=>?_) (fun f cdv A outer s H vs Q E hr h=>?_)
 ·obtain ⟨l,ds,rows,rfl,_⟩:=h; rfl
 ·obtain ⟨l,ds,rows,rfl,hl,hR,hz,k⟩:=h
  have hu:=bM hr;have nd:=lB.nd;refine ⟨_,(ad (aH nd 1 cM)
 (ad (cq PassesOwn.never rfl (cP (nv 0)) (bi nd 2) (aq (yL (cq PassesOwn.never rfl (vW (vY (nv 2))) (vk rfl (iG (bi nd 3) (iG (bi nd 4) sJ))) (aq (aQ (PW.pt (dI (aF (cT hr) (nv 3) (nv 1) (by with_unfolding_all rfl)) (cX (aF fL (ax (ba hu) (ax (ba hu) (nv 1) (nv 3) (fun _ _=>rfl)) ao (fun _ _=>rfl)) (ax (ba hu) (nv 4) ao (fun _ _=>rfl)) (aK _))))) (aq (b7 hu (nv 1) (nv 3) (nv 4) rfl)) aC))))))
 (aq (az (nv 1))))),?_⟩
  intro q hq;have s0:=au (o:=.dK []) hq;refine ⟨l,rfl,⟨_,a9.of (s0 _ _ hl)⟩,?_⟩;have lu:ds.length=rows.length:=Paired.length hR;refine fD (xs:=ds.map V.ref) (fun i σ H1=>∃ o2 o3 o4,σ=[some (.ref l),some (.ref q),o2,o3,o4]/\H1 q=some (.dK (jC (dc (rows.take i))))/\aV H H1) ⟨_,_,_,rfl,upd_same,s0⟩ (fun i σ H1 _ ⟨_,_,_,_,_,s1⟩=>a9.of (s1 _ _ hl)) ?_ ?_
  ·rintro i x σ H1 hx ⟨o2,o3,o4,rfl,hb,s1⟩
   have hi:i < ds.length:=by have:=(List.getElem?_eq_some_iff.mp hx).1; rwa [List.length_map] at this
   rw [List.getElem?_map,List.getElem?_eq_getElem hi] at hx;cases hx;have hi':i < rows.length:=by omega
   have hrow:=de (show Paired _ _ _ from hR) (List.getElem?_eq_getElem hi) (List.getElem?_eq_getElem hi');have et:rows.take (i+1)=rows.take i++[rows[i]]:=by rw [List.take_succ_eq_append_getElem hi']
   have hfl:(rows.take i).flatten.length+rows[i].length<=rows.flatten.length:=by
    have e:rows.flatten=(rows.take i).flatten++(rows.drop i).flatten:=by rw [<- List.flatten_append,List.take_append_drop]
    rw [e,List.length_append,List.drop_eq_getElem_cons hi',List.flatten_cons,List.length_append]; omega
   have hbl:(dc (rows.take i)).length<=(rows.take i).flatten.length:=by
    have:∀ (rs:List cp) (b:cp),(rs.foldl bW b).length<=b.length+rs.flatten.length:=by
     intro rs
     induction rs with
     | nil=>intro b; exact Nat.le_refl _
     | cons r rs ih =>
      intro b;have h1:=ih (bW b r);have h2:=gE r b;rw [List.flatten_cons,List.length_append];show (rs.foldl bW (bW b r)).length<=_;omega
    have:=this (rows.take i) [];rwa [show ([]:cp).length=0 from rfl,Nat.zero_add] at this
   have hBe:∀ p∈dc (rows.take i),jF H p.2:=fun p hp=>by
    obtain ⟨r,hr,hpr⟩:=List.mem_flatten.mp ((tu (rows.take i)).from_ p hp);obtain ⟨j,hj⟩:=List.mem_iff_getElem?.mp (List.mem_of_mem_take hr);have hjl:j < ds.length:=by have:=(List.getElem?_eq_some_iff.mp hj).1; omega
    exact (de (show Paired _ _ _ from hR) (List.getElem?_eq_getElem hjl) hj).es p hpr
   generalize rows[i]=row at *;generalize ds[i]=d at *;generalize hB:dc (rows.take i)=B at *;have hdq:d≠q:=ai hrow.dk hq;refine ⟨d,jC row,s1 _ _ hrow.dk,fun o=>?_⟩;refine ⟨d,jC row,rfl,.inr ⟨o,upd_same⟩,fun v hv=>?_⟩;have hvd:d≠v:=fun z=>by rw [<- z,upd_same] at hv; cases hv
   refine ⟨v,d,o,jC row,rfl,upd_same,(ag hvd).trans upd_same,?_⟩;refine mY (fun j σ H2=>∃ o3 o4,σ=[some (.ref l),some (.ref q),some (.ref d),o3,o4]/\H2 d=some (.frz o (.dK (jC row)))/\H2 q=some (.dK (jC (bW B (row.take j))))/\∀ b u,H b=some u->b≠d->H2 b=some u) ?_ ?_ ?_ ?_
   ·refine ⟨_,_,rfl,(ag hvd).trans upd_same,?_,fun b u e hbd=>?_⟩
    ·have n1:q≠v:=fun z=>by rw [<- z,ag (Ne.symm hdq),hb] at hv; cases hv
     rw [ag n1,ag (Ne.symm hdq)]; exact hb
    ·have n1:b≠v:=fun z=>by rw [<- z,ag hbd,s1 _ _ e] at hv; cases hv
     rw [ag n1,ag hbd]; exact s1 _ _ e
   ·rintro j σ H2 _ ⟨_,_,_,h,_⟩; exact h
   ·rintro j key x t σ H2 hx ht ⟨o3,o4,rfl,hd2,hq2,kp⟩
    have hj:j < row.length:=by have:=(List.getElem?_eq_some_iff.mp hx).1; rwa [iB] at this
    have gj:=List.getElem?_eq_getElem hj;unfold jC at hx;rw [List.getElem?_map,gj] at hx;cases hx;have tk:row.take (j+1)=row.take j++[row[j]]:=by rw [List.take_succ_eq_append_getElem hj]
    have he:=hrow.es row[j] (List.getElem_mem hj);generalize row[j]=pe at *;obtain ⟨pl,e⟩:=pe;have sm:=au (o:=.tup [kV (Sum.inl pl),.ref e.a]) ht;refine ⟨t,_,rfl,bu.of upd_same,rfl,_,_,rfl,_,_,rfl,rfl,?_⟩;have hd3:=sm _ _ hd2;have hq3:=sm _ _ hq2;have kp3:∀ b u,H b=some u->b≠d->aA H2 t (.tup [kV (Sum.inl pl),.ref e.a]) b=some u:=fun b u eb hb=>sm _ _ (kp b u eb hb);have ent:∀ e':Ent,jF H e'->aA H2 t (.tup [kV (Sum.inl pl),.ref e.a]) e'.a=some (.tup [.int e'.n,.str e'.s]):=fun e' z=>kp3 _ _ z (gL z hrow.dk (fun z=>nomatch z));generalize aA H2 t (.tup [kV (Sum.inl pl),.ref e.a])=H3 at hd3 hq3 kp3 ent ⊢;have hlen:=gE (row.take j) B;rw [List.length_take] at hlen;have fin:dH (bW B (row.take j)) (pl,e)=aJ (bW B (row.take j)) pl e->∃ H4,eK H3 q (.int pl) (.ref e.a) H4/\∃ o3 o4,[some (V.ref l),some (V.ref q),some (V.ref d),some (V.int pl),some (V.ref e.a)]=[some (V.ref l),some (V.ref q),some (V.ref d),o3,o4]/\H4 d=some (.frz o (.dK (jC row)))/\H4 q=some (.dK (jC (bW B (row.take (j+1)))))/\∀ b u,H b=some u->b≠d->H4 b=some u:=fun hs=>by
     refine ⟨_,eK.k (k:=Sum.inl pl) hq3 (gz (by rw [iB]; omega)),_,_,rfl,(ag hdq).trans hd3,?_,fun b u eb hb=>?_⟩
     ·rw [upd_same,vR,tk,lS,hs]
     ·rw [ag (ai eb hq)]; exact kp3 b u eb hb
    have g:cJ H3 q (.int pl) ((ay (bW B (row.take j)) pl).map fun e=>V.ref e.a):=by
     have:=cJ.k (k:=Sum.inl pl) hq3;rwa [pi] at this
    cases hg:ay (bW B (row.take j)) pl with
    | none =>
     rw [hg] at g;refine ⟨_,.dct g,_,rfl,bH ?_⟩;obtain ⟨H4,p4,f4⟩:=fin (by unfold dH; rw [hg]);exact ⟨q,H4,rfl,p4,f4⟩
    | some e0 =>
     rw [hg] at g;have h0:H3 e0.a=some (.tup [.int e0.n,.str e0.s]):=ent e0 (by
      rcases uL _ _ _ (bj hg) with z | z
      ·exact hBe _ z
      ·exact hrow.es _ (List.mem_of_mem_take z))
     refine ⟨_,.dct g,_,rfl,bU ?_⟩;refine ⟨_,.dct g,_,.tup (bu.of h0) (fK _ _),_,.tup (bu.of (ent e he)) (fK _ _),_,rfl,?_⟩
     by_cases hlt:e0.n < e.n
     ·refine cD hlt ?_
      obtain ⟨H4,p4,f4⟩:=fin (by unfold dH; rw [hg]; exact if_pos hlt);exact ⟨q,H4,rfl,p4,f4⟩
     ·refine bv hlt ?_
      refine ⟨_,_,rfl,hd3,?_,kp3⟩;rw [tk,lS,show dH (bW B (row.take j)) (pl,e)=bW B (row.take j) by unfold dH; rw [hg]; exact if_neg hlt];exact hq3
   ·rintro σ H2 ⟨o3,o4,rfl,hd2,hq2,kp⟩
    refine ⟨hd2,_,_,_,rfl,?_,fun b u eb=>?_⟩
    ·rw [ag (Ne.symm hdq),hq2,iB,List.take_length,et,qq,hB]
    ·by_cases hb:b=d
     ·subst hb; rw [upd_same,<- hrow.dk]; exact eb
     ·rw [ag hb]; exact kp b u eb hb
  ·rintro σ H1 ⟨o2,o3,o4,rfl,hb,s1⟩
   rw [List.length_map,lu,List.take_length] at hb;exact k q H1 hq hb s1
theorem q_ (T:TxS K C) (D:CtorAt K mg C "Scribe" "Scribe.__init__" dW ["self","own","count"]):OwnC P w K mg base C "Scribe" 1 ["self","own","count"] (rY C):=by
 refine D.own lU (fun vs H Q E h=>?_) (fun f cdv A outer s H vs Q E hr h=>?_)
 ·obtain ⟨p,dx,o,c,rfl,_⟩:=h; rfl
 ·obtain ⟨p,dx,o,c,rfl,hp,k⟩:=h
  refine ⟨_,(ad (ce (nv 0) (nv 1) rfl)
 (ad (ce (nv 0) (nv 2) rfl)
 (ad (ce (nv 0) (kJ fM ao) rfl)
 (ad (ce (nv 0) cM rfl)
 (aq (ce (nv 0) (kJ fM ao) rfl)))))),?_⟩
  have L0:([]:List (Str×V)).length<=0:=Nat.le_refl _;have L1:=tG (f:="own") (v:=o) L0;have L2:=tG (f:="count") (v:=c) L1;have L3:=tG (f:="promised") (v:=.int (-1)) L2;refine ⟨p,C,dx,_,rfl,hp,T.cl,T.n1,by decide,?_⟩;refine ⟨p,C,dx,_,rfl,upd_same,T.cl,T.n2,by omega,?_⟩;refine ⟨p,C,dx,_,rfl,upd_same,T.cl,T.n3,by omega,?_⟩;intro r hr0;have L4:=tG (f:="row") (v:=.ref r) L3;have hrp:r≠p:=fun z=>by rw [z,upd_same] at hr0; cases hr0
  have n1:H r=none:=by rw [ag hrp,ag hrp,ag hrp] at hr0; exact hr0
  refine ⟨p,C,dx,_,rfl,(ag (Ne.symm hrp)).trans upd_same,T.cl,T.n4,by omega,?_⟩;refine ⟨p,C,dx,_,rfl,upd_same,T.cl,T.n5,by omega,?_⟩;refine k r _ n1 (upd_same.trans ?_) ?_ fun b u e hb=>?_
  ·exact congrArg (fun l=>some (HO.ins C dx l)) (yH o c (.int (-1)) r (.int (-1)))
  ·rw [ag hrp,ag hrp,upd_same]
  ·rw [ag hb,ag hb,ag (ai e n1),ag hb,ag hb,ag hb]
   exact e
theorem ig (T:TxS K C) (D:MethAt K C "promise" "Scribe.promise" cV ["self","number"]):OwnM P w K mg base C "promise" 1 ["self","number"] (jf C):=by
 refine D.own iZ (fun vs H Q E h=>?_) (fun f cdv A outer s H vs Q E hr h=>?_)
 ·obtain ⟨p,dx,o,c,m,n,r,sn,rfl,_⟩:=h; rfl
 ·obtain ⟨p,dx,o,c,m,n,r,sn,rfl,hp,k1,k2⟩:=h
  refine ⟨_,(ad (aQ (aF fL (nv 1) (aO (nv 0) rfl) (aK _)) (aq (az bo)) aC)
 (ad (ce (nv 0) (nv 1) rfl)
 (aq (az bo)))),?_⟩
  refine ⟨p,C,dx,_,_,rfl,hp,T.cl,T.n3,fO _ _ _ _ _,_,rfl,?_⟩
  by_cases h:n < m
  ·exact cD h (k1 h)
  ·refine bv h ?_
   refine ⟨p,C,dx,_,rfl,hp,T.cl,T.n3,by show 5 < 1000; decide,?_⟩;rw [lV];exact k2 h
theorem l4 (TS:TxS K C) (O_Scribe_promise:OwnM P w K mg base C "promise" 1 ["self","number"] (jf C)) (D:MethAt K C "put" "Scribe.put" eC ["self","number","place","saying"]):OwnM P w K mg base C "put" 2 ["self","number","place","saying"] (xT C):=by
 refine D.own mh (fun vs H Q E h=>?_) (fun f cdv A outer s H vs Q E hr h=>?_)
 ·obtain ⟨p,dx,o,c,m,n,pl,sy,r,sn,kvs,rfl,_⟩:=h; rfl
 ·obtain ⟨p,dx,o,c,m,n,pl,sy,r,sn,kvs,rfl,hp,hrr,hz,k1,k2⟩:=h
  have hu:=bM hr;have npr:p≠r:=gL hp hrr (by intro z; cases z);refine ⟨_,(ad (aQ (bZ (bn (eg (nv 0) TS.cl O_Scribe_promise hr (ac (nv 1) aj)))) (aq (az bo)) aC)
 (ad (b7 hu (aO (nv 0) rfl) (nv 2) (cf (ac (nv 1) (ac (nv 3) aj))) rfl)
 (aq (az bo)))),?_⟩
  refine ⟨p,dx,_,rfl,hp,iQ _ _ _ _ _,?_⟩;refine ⟨p,dx,o,c,m,n,r,sn,rfl,hp,fun h=>⟨_,rfl,bH (k1 h)⟩,fun h=>⟨_,rfl,bU ?_⟩⟩;refine ⟨by show 2<=sizeLine; decide,fun t ht=>?_⟩;have htp:t≠p:=fun z=>by rw [z,upd_same] at ht; cases ht
  have ht0:H t=none:=by rw [ag htp] at ht; exact ht
  have htr:t≠r:=fun z=>by rw [z,hrr] at ht0; cases ht0
  have e1:(aA (aA H p (.ins C dx (sF o c (.int n) r sn))) t (.tup [.int n,.str sy])) p=some (.ins C dx (sF o c (.int n) r sn)):=by rw [ag (Ne.symm htp),upd_same]
  have e2:(aA (aA H p (.ins C dx (sF o c (.int n) r sn))) t (.tup [.int n,.str sy])) r=some (.dK kvs):=by rw [ag (Ne.symm htr),ag (Ne.symm npr)]; exact hrr
  refine ⟨p,C,dx,_,_,rfl,e1,TS.cl,TS.n4,uU _ _ _ _ _,?_⟩;refine ⟨r,_,rfl,eK.k (k:=Sum.inl pl) e2 (aS (by omega)),?_⟩;refine k2 h t _ ht0 (fun b u e hb1 hb2=>?_) ?_ ?_ upd_same
  ·rw [ag hb2,ag (ai e ht0),ag hb1]; exact e
  ·rw [ag htr,upd_same]
  ·rw [ag npr]; exact e1
theorem jZ (TS:TxS K C) (O_next_number:L2.Own P w K mg base "next_number" 1 ["count","scribe","seen"] r_) (D:MethAt K C "rise" "Scribe.rise" dU ["self"]):OwnM P w K mg base C "rise" 2 ["self"] (rX C):=by
 refine D.own lT (fun vs H Q E h=>?_) (fun f cdv A outer s H vs Q E hr h=>?_)
 ·obtain ⟨p,dx,o,c,sn,pv,r,rfl,_⟩:=h; rfl
 ·obtain ⟨p,dx,o,c,sn,pv,r,rfl,hp,hc,k⟩:=h
  refine ⟨_,(ad (ce (nv 0) (a_ O_next_number hr rfl (ac (aO (nv 0) rfl) (ac (aO (nv 0) rfl) (ac (aO (nv 0) rfl) aj)))) rfl)
 (aq (az (aO (nv 0) rfl)))),?_⟩
  refine ⟨p,C,dx,_,_,rfl,hp,TS.cl,TS.n2,w4 _ _ _ _ _,p,C,dx,_,_,rfl,hp,TS.cl,TS.n1,Ag _ _ _ _ _,p,C,dx,_,_,rfl,hp,TS.cl,TS.n5,qI _ _ _ _ _,?_⟩;refine ⟨c,o,sn,rfl,hc,?_⟩;refine ⟨p,C,dx,_,rfl,hp,TS.cl,TS.n5,by show 5 < 1000; decide,?_⟩;rw [lD];exact ⟨p,C,dx,_,_,rfl,upd_same,TS.cl,TS.n5,qI _ _ _ _ _,k⟩
theorem l0 (NB:NBs mg) (TS:TxS K C) (D:MethAt K C "see" "Scribe.see" eu ["self","number"]):OwnM P w K mg base C "see" 1 ["self","number"] (xS C):=by
 refine D.own mf (fun vs H Q E h=>?_) (fun f cdv A outer s H vs Q E hr h=>?_)
 ·obtain ⟨p,dx,o,c,pv,sn,n,r,rfl,_⟩:=h; rfl
 ·obtain ⟨p,dx,o,c,pv,sn,n,r,rfl,hp,k⟩:=h
  refine ⟨_,(aq (ce (nv 0) (aG m8 (by rfl) NB.max vA (ac (aO (nv 0) rfl) (ac (nv 1) aj))) rfl)),?_⟩;refine ⟨p,C,dx,_,_,rfl,hp,TS.cl,TS.n5,qI _ _ _ _ _,?_⟩;refine ⟨p,C,dx,_,rfl,hp,TS.cl,TS.n5,by show 5 < 1000; decide,?_⟩;rw [lD];exact k
end
section
variable {P:Program}{w:World}{K:Frag}{mg:Str->Option Value}{base:Heap}{c:Cs}
theorem v4 (T:TxL K c.l) (D:CtorAt K mg c.l "Lead" "Lead.__init__" fi ["self","number","count"]):OwnC P w K mg base c.l "Lead" 1 ["self","number","count"] (sf c.l):=by
 refine D.own oz (fun vs H Q E h=>?_) (fun f cdv A outer s H vs Q E hr h=>?_)
 ·obtain ⟨p,dx,n,k,rfl,_⟩:=h; rfl
 ·obtain ⟨p,dx,n,k,rfl,hp,q⟩:=h
  refine ⟨_,(ad (ce (nv 0) (nv 1) rfl)
 (ad (ce (nv 0) (nv 2) rfl)
 (ad (ce (nv 0) cM rfl)
 (ad (ce (nv 0) bo rfl)
 (ad (ce (nv 0) cM rfl)
 (aq (ce (nv 0) cM rfl))))))),?_⟩
  have L0:([]:List (Str×V)).length<=0:=Nat.le_refl _;have L1:=tG (f:="number") (v:=n) L0;have L2:=tG (f:="count") (v:=k) L1;refine ⟨p,c.l,dx,_,rfl,hp,T.cl,T.n1,by decide,?_⟩;refine ⟨p,c.l,dx,_,rfl,upd_same,T.cl,T.n2,by omega,?_⟩;intro t ht;have L3:=tG (f:="told") (v:=.ref t) L2;have tp:t≠p:=fun z=>by rw [z,upd_same] at ht; cases ht
  have t0:H t=none:=by rw [ag tp,ag tp] at ht; exact ht
  refine ⟨p,c.l,dx,_,rfl,(ag (Ne.symm tp)).trans upd_same,T.cl,T.n3,by omega,?_⟩;have L4:=tG (f:="opened") (v:=.bl false) L3;refine ⟨p,c.l,dx,_,rfl,upd_same,T.cl,T.n4,by omega,?_⟩;intro a ha;have L5:=tG (f:="said") (v:=.ref a) L4;have ap:a≠p:=fun z=>by rw [z,upd_same] at ha; cases ha
  rw [ag ap,ag ap] at ha;have ta:t≠a:=fun z=>by rw [<- z,upd_same] at ha; cases ha
  have a0:H a=none:=by rw [ag (Ne.symm ta),ag ap,ag ap] at ha; exact ha
  refine ⟨p,c.l,dx,_,rfl,(ag (Ne.symm ap)).trans upd_same,T.cl,T.n5,by omega,?_⟩;intro b hb;have bp:b≠p:=fun z=>by rw [z,upd_same] at hb; cases hb
  rw [ag bp] at hb;have ab:a≠b:=fun z=>by rw [<- z,upd_same] at hb; cases hb
  rw [ag (Ne.symm ab),ag bp,ag bp] at hb;have tb:t≠b:=fun z=>by rw [<- z,upd_same] at hb; cases hb
  have b0:H b=none:=by rw [ag (Ne.symm tb),ag bp,ag bp] at hb; exact hb
  refine ⟨p,c.l,dx,_,rfl,(ag (Ne.symm bp)).trans upd_same,T.cl,T.n6,by omega,?_⟩;refine q t a b _ t0 a0 b0 ta tb ab (upd_same.trans ?_) ?_ ?_ ?_ fun x u e hx=>?_
  ·exact congrArg (fun l=>some (HO.ins c.l dx l)) (yZ n k t (.bl false) a b)
  ·rw [ag tp,ag tb,ag tp,ag ta,ag tp,ag tp,upd_same]
  ·rw [ag ap,ag ab,ag ap,upd_same]
  ·rw [ag bp,upd_same]
  ·rw [ag hx,ag (ai e b0),ag hx,ag (ai e a0),ag hx,ag hx,ag (ai e t0),ag hx,ag hx]; exact e
theorem gc (NB:NBs mg) (T:TxL K c.l) (O_best_of:L2.Own P w K mg base "best_of" 1 ["rows"] vg) (D:MethAt K c.l "begin_saying" "Lead.begin_saying" b9 ["self"]):OwnM P w K mg base c.l "begin_saying" 2 ["self"] (su c):=by
 refine D.own d6 (fun vs H Q E h=>?_) (fun f cdv A outer s H vs Q E hr h=>?_)
 ·obtain ⟨α,ρ,cnt,k,l,n,rfl,_⟩:=h; rfl
 ·obtain ⟨α,ρ,cnt,k,l,n,rfl,L,nr,bd,hs0,hn,q⟩:=h
  have hu:=bM hr;have nd:=d6.nd;refine ⟨_,(ad (ce (nv 0) bo rfl)
 (aq (cq PassesOwn.never rfl (t8 (a_ O_best_of hr rfl (ac (df rE (by rfl) NB.list du (ac (yO PySem.F.plainAttrs_dict PySem.F.slot_dict_values PySem.F.type_dict_values uj (aO (nv 0) rfl)) aj)) aj))) (vk rfl (iG (bi nd 1) (iG (bi nd 2) sJ))) (aq (b7 hu (aO (nv 0) rfl) (nv 1) (ax (ba hu) (nv 2) ao (fun _ _=>rfl)) rfl))))),?_⟩
  obtain ⟨⟨dx,ob⟩,⟨kt,ht,jt⟩,⟨ks,hs,js⟩,⟨kh,hh,jh⟩,r1,r2,r3,r4⟩:=id L;refine ⟨_,c.l,dx,_,rfl,ob,T.cl,T.n4,by show 6 < 1000; decide,?_⟩;rw [oO];generalize hp':α (.lp k)=p at ob r1 ⊢;generalize ht':α (.lt k)=t at ob ht r2 ⊢;generalize hs':α (.ls k)=sa at ob hs r3 ⊢;generalize hh':α (.lh k)=ha at ob hh r4 ⊢;have S1:Stp (eI k) H ρ (aA H p (.ins c.l dx (lF (.int l.num) (.int cnt) t (.bl true) sa ha))) ρ:=cr ob r1 (show eI k (.lp k) from rfl);have ob1:(aA H p (.ins c.l dx (lF (.int l.num) (.int cnt) t (.bl true) sa ha))) p=some (.ins c.l dx (lF (.int l.num) (.int cnt) t (.bl true) sa ha)):=upd_same;have ne1:∀ {b:Addr}{r:Role},ρ b=some r->r≠.lp k->b≠p:=fun h1 h2=>bR h1 r1 h2;have kp1:∀ {b:Addr}{u:HO},H b=some u->b≠p->(aA H p (.ins c.l dx (lF (.int l.num) (.int cnt) t (.bl true) sa ha))) b=some u:=fun h1 h2=>by rw [ag h2]; exact h1
  have ht1:=kp1 ht (ne1 r2 (fun z=>nomatch z));have hs1:=kp1 hs (ne1 r3 (fun z=>nomatch z));have hh1:=kp1 hh (ne1 r4 (fun z=>nomatch z));have jh1:cm (AO (aA H p (.ins c.l dx (lF (.int l.num) (.int cnt) t (.bl true) sa ha))) α ρ k) kh l.hands:=jh.imp fun j v y _ ⟨z1,z2,z3⟩=>⟨z1,z2,kp1 z3 (ne1 z2 (fun z=>nomatch z))⟩;have jt1:cm (AU (aA H p (.ins c.l dx (lF (.int l.num) (.int cnt) t (.bl true) sa ha))) α ρ k) kt l.told:=jt.imp fun j v y _ ⟨z1,z2,kv,z3,z4⟩=>⟨z1,z2,kv,kp1 z3 (ne1 z2 (fun z=>nomatch z)),z4.imp fun _ _ _ _ w=>w.stp S1⟩;generalize aA H p (.ins c.l dx (lF (.int l.num) (.int cnt) t (.bl true) sa ha))=H1 at S1 ob1 ht1 hs1 hh1 jt1 jh1 ⊢;refine ⟨p,c.l,dx,_,_,rfl,ob1,T.cl,T.n3,qM _ _ _ _ _ _,?_⟩;refine ⟨.inr (.inr (.inl ⟨rfl,.inl ⟨_,ht1⟩⟩)),_,_,rfl,rfl,.inl ht1,fun v hv=>?_⟩;have s2:=au (o:=zn v t) hv;refine ⟨v,t,kt,rfl,upd_same,.inl (s2 _ _ ht1),fun li hli=>?_⟩;have s3:=au (o:=.lst (kt.map (·.2))) hli;have s13:=s2.trans s3;obtain ⟨rows,e1,e2,e3⟩:=tS jt1;have hfl:rows.flatten.length<=n * n:=by
   rw [wu,e3];exact Nat.le_trans (og l.told bd.r) (Nat.mul_le_mul_right n bd.t)
  have hnn:n * n<=160000:=Nat.mul_le_mul hn hn;refine ⟨li,_,rows,rfl,by rw [<- e1]; exact upd_same,Paired.mapP e2 fun d r z=>⟨s13 _ _ z.dk,fun q hq=>s13 _ _ (z.es q hq)⟩,by omega,fun d H' hd hbo sm=>?_⟩;have sA:=s13.trans sm;have best:=rH rows;have bl:(dc rows).length<=n * n:=Nat.le_trans (rG rows) hfl;have ents:∀ q∈dc rows,jF H' q.2:=fun q hq=>by
   obtain ⟨r,hr,hqr⟩:=List.mem_flatten.mp ((tu rows).from_ q hq);obtain ⟨j,hj⟩:=List.mem_iff_getElem?.mp hr;have hl:=Paired.length e2;have hjl:j < (l.told.map fun q=>α (.tr k q.1)).length:=by have:=(List.getElem?_eq_some_iff.mp hj).1; omega
   exact sA _ _ ((de (show Paired _ _ _ from e2) (List.getElem?_eq_getElem hjl) hj).es q hqr)
  generalize hB:dc rows=B at best bl ents hbo ⊢;refine ⟨d,jC B,rfl,hbo,fun v2 o hv2=>?_⟩;have d0:H1 d=none:=by
   cases e:H1 d with
   | none=>rfl
   | some u=>rw [s13 _ _ e] at hd; cases hd
  have S2:Stp (eI k) H ρ H' ρ:=S1.two (kR sA);have nd':∀ {b:Addr}{u:HO},H1 b=some u->b≠d:=fun h=>ai h d0;have v2d:d≠v2:=ai hbo hv2;have kp2:∀ b u,H1 b=some u->(aA (aA H' v2 (qv v2 d)) d (.frz o (.dK (jC B)))) b=some u:=fun b u e=>by rw [ag (nd' e),ag (ai (sA _ _ e) hv2)]; exact sA _ _ e
  have kpE:∀ q∈B,jF (aA (aA H' v2 (qv v2 d)) d (.frz o (.dK (jC B)))) q.2:=fun q hq=>by
   have z:=ents q hq;unfold jF at z ⊢;rw [ag (gL z hbo (fun z=>nomatch z)),ag (ai z hv2)]; exact z
  refine mY (fun i σ H2=>∃ o1 o2 ks2,σ=[some (.ref p),o1,o2]/\H2 d=some (.frz o (.dK (jC B)))/\H2 sa=some (.dK ks2)/\cm (fun _ v (y:Str)=>v=.str y) ks2 (((B.take i).map kE).foldl (fun s q=>aJ s q.1 q.2.2) l.said)/\ks2.length<=i/\(∀ q∈B,jF H2 q.2)/\∀ b u,H1 b=some u->b≠sa->H2 b=some u) ?_ ?_ ?_ ?_
  ·refine ⟨_,_,ks,rfl,upd_same,kp2 _ _ hs1,js,by rw [js.len,hs0]; exact Nat.le_refl _,kpE,fun b u e _=>kp2 b u e⟩
  ·rintro i σ H2 _ ⟨_,_,_,_,h,_⟩; exact h
  ·rintro i key x tt σ H2 hx htt ⟨o1,o2,ks2,rfl,hd2,hs2,j2,hz2,en2,kp⟩
   have hi:i < B.length:=by have:=(List.getElem?_eq_some_iff.mp hx).1; rwa [iB] at this
   have gi:=List.getElem?_eq_getElem hi;unfold jC at hx;rw [List.getElem?_map,gi] at hx;cases hx;have tk:B.take (i+1)=B.take i++[B[i]]:=by rw [List.take_succ_eq_append_getElem hi]
   have he:=en2 B[i] (List.getElem_mem hi);generalize B[i]=be at *;obtain ⟨pl,e⟩:=be;have sm:=au (o:=.tup [kV (Sum.inl pl),.ref e.a]) htt;have he2:=sm _ _ he;have hp2:=sm _ _ (kp p _ ob1 (bR r1 r3 (fun z=>nomatch z)));have hs3:=sm _ _ hs2;have sd:d≠sa:=fun z=>by rw [z,hs1] at d0; cases d0
   refine ⟨tt,_,rfl,bu.of upd_same,rfl,_,_,rfl,_,_,rfl,rfl,?_⟩;refine ⟨_,.tup (bu.of he2) (qu _ _ _),p,c.l,dx,_,_,rfl,hp2,T.cl,T.n5,i_ _ _ _ _ _ _,?_⟩;refine ⟨sa,_,rfl,eK.k (k:=Sum.inl pl) hs3 (gz (by omega)),_,_,_,rfl,?_,upd_same,?_,?_,fun q hq=>?_,fun b u eb hb=>?_⟩
   ·rw [ag sd]; exact sm _ _ hd2
   ·rw [tk,List.map_append,List.foldl_append]
    exact j2.put pl rfl
   ·exact Nat.le_trans (d5 _ _ _) (by omega)
   ·have z:=sm _ _ (en2 q hq)
    show aA _ sa _ q.2.a=_;rw [ag (gL z hs3 (fun z=>nomatch z))]; exact z
   ·rw [ag hb]; exact sm _ _ (kp b u eb hb)
  ·rintro σ H2 ⟨o1,o2,ks2,rfl,hd2,hs2,j2,hz2,en2,kp⟩
   rw [iB,List.take_length,best,e3] at j2;have S3:Stp (eI k) H1 ρ H2 ρ:=rV (p:=sa) (q:=sa) (fun b u e h1 _=>kp b u e h1) ⟨_,hs2⟩ ⟨_,hs2⟩ r3 r3 (show eI k (.ls k) from rfl) (show eI k (.ls k) from rfl);have S:=S1.two S3;have k3:∀ {b:Addr}{u:HO}{r:Role},H1 b=some u->ρ b=some r->r≠.ls k->H2 b=some u:=fun h1 h2 h3=>kp _ _ h1 (bR h2 r3 h3);refine q H2 ⟨⟨dx,?_⟩,⟨kt,?_,jt1.imp fun j v y _ ⟨z1,z2,kv,z3,z4⟩=>⟨z1,z2,kv,k3 z3 z2 (fun z=>nomatch z),z4.imp fun _ _ _ _ w=>w.stp S3⟩⟩,⟨ks2,?_,j2⟩,⟨kh,?_,jh1.imp fun j v y _ ⟨z1,z2,z3⟩=>⟨z1,z2,k3 z3 z2 (fun z=>nomatch z)⟩⟩,?_,?_,?_,?_⟩ S
   ·rw [hp',ht',hs',hh']; exact k3 ob1 r1 (fun z=>nomatch z)
   ·rw [ht']; exact k3 ht1 r2 (fun z=>nomatch z)
   ·rw [hs']; exact hs2
   ·rw [hh']; exact k3 hh1 r4 (fun z=>nomatch z)
   ·rw [hp']; exact r1
   ·rw [ht']; exact r2
   ·rw [hs']; exact r3
   ·rw [hh']; exact r4
end
section
variable {P:Program}{w:World}{K:Frag}{mg:Str->Option Value}{base:Heap}{c:Cs}
theorem mo (NB:NBs mg) (TL:TxL K c.l) (O_is_most:L2.Own P w K mg base "is_most" 1 ["count","many"] qE) (O_Lead_begin_saying:OwnM P w K mg base c.l "begin_saying" 2 ["self"] (su c)) (D:MethAt K c.l "hear" "Lead.hear" fj ["self","scribe","row"]):OwnM P w K mg base c.l "hear" 3 ["self","scribe","row"] (va c):=by
 refine D.own oA (fun vs H Q E h=>?_) (fun f cdv A outer s H vs Q E hr h=>?_)
 ·obtain ⟨α,ρ,cnt,k,l,n,j,ra,kv,row,rfl,_⟩:=h; rfl
 ·obtain ⟨α,ρ,cnt,k,l,n,j,ra,kv,row,rfl,L,nr,bd,hs0,hn,hra,hkv,hrl,q⟩:=h
  have hu:=bM hr;refine ⟨_,(ad (aQ (bn (aO (nv 0) rfl)) (aq w8) aC)
 (ad (b7 hu (aO (nv 0) rfl) (nv 1) (df rF (by rfl) NB.dict tz (ac (nv 2) aj)) rfl)
 (aq (aQ (bn (a_ O_is_most hr rfl (ac (aO (nv 0) rfl) (ac (aG br (by rfl) NB.len cK (ac (aO (nv 0) rfl) aj)) aj)))) (aq (a5 (k6 (nv 0) TL.cl O_Lead_begin_saying hr))) aC)))),?_⟩
  obtain ⟨⟨dx,ob⟩,⟨kt,ht,jt⟩,_⟩:=id L;refine ⟨_,c.l,dx,_,_,rfl,ob,TL.cl,TL.n4,pP _ _ _ _ _ _,_,rfl,?_⟩
  by_cases hop:l.op=true
  ·refine (if_pos hop).mpr ?_
   have e:cY cnt l j row=l:=if_pos hop;exact q H α ρ (by rw [e]; exact L) .refl (fun _ _=>rfl) rfl
  ·refine (if_neg hop).mpr ?_
   have hof:l.op=false:=by cases h:l.op with | true=>exact absurd h hop | false=>rfl
   refine ⟨ra,kv,rfl,.inl hra,fun a ha=>?_⟩;obtain ⟨L2,S2⟩:=L.tell (j:=j) ha hkv ht;have ta:α (.lt k)≠a:=ai ht ha;have pa:α (.lp k)≠a:=ai ob ha;have ob1:(aA H a (.dK kv)) (α (.lp k))=_:=(ag pa).trans ob;have ht1:(aA H a (.dK kv)) (α (.lt k))=_:=(ag ta).trans ht;have lt:=jt.len;have htl:=bd.t;refine ⟨_,c.l,dx,_,_,rfl,ob1,TL.cl,TL.n3,qM _ _ _ _ _ _,?_⟩;refine ⟨_,_,rfl,eK.k (k:=Sum.inl j) ht1 (aS (by omega)),?_⟩;have nr2:yf _ (dh ρ a (.tr k j)):=S2.fr nr;have ep:cO α (.tr k j) a (.lp k)=α (.lp k):=a6 (fun z=>nomatch z);have et:cO α (.tr k j) a (.lt k)=α (.lt k):=a6 (fun z=>nomatch z);obtain ⟨⟨dx2,ob2⟩,⟨kt2,ht2,jt2⟩,_⟩:=id L2;have lt2:=jt2.len;rw [ep] at ob2;rw [et] at ht2;generalize aA (aA H a (.dK kv)) (α (.lt k)) (.dK (bB kt (Sum.inl j) (.ref a)))=H2 at L2 S2 nr2 ob2 ht2 jt2 ⊢;refine ⟨_,c.l,dx2,_,_,rfl,ob2,TL.cl,TL.n2,sQ _ _ _ _ _ _,_,c.l,dx2,_,_,rfl,ob2,TL.cl,TL.n3,qM _ _ _ _ _ _,?_⟩;rw [et];refine ⟨_,.inr ⟨_,ht2,rfl⟩,?_⟩;refine ⟨cnt,_,rfl,_,rfl,?_⟩;have lp:=bD l.told j row;have eq:kt2.length=(aJ l.told j row).length:=lt2
   by_cases hm:c_ cnt (aJ l.told j row).length=true
   ·refine wR (by rw [eq]; exact hm) ?_
    have e:cY cnt l j row=jb { l with told:=aJ l.told j row }:=by unfold cY; rw [if_neg hop,if_pos hm]
    refine ⟨_,dx2,_,rfl,ob2,i3 _ _ _ _ _ _,?_⟩;refine ⟨cO α (.tr k j) a,dh ρ a (.tr k j),cnt,k,{ l with told:=aJ l.told j row },n+1,by rw [ep],L2,nr2,⟨by show (aJ l.told j row).length<=_; omega,fun p hp=>?_,?_,?_,fun p hp=>Nat.le_succ_of_le (bd.i p hp)⟩,hs0 hof,by omega,fun H' L3 S3=>?_⟩
    ·rcases bf hp with z | z
     ·rw [z]; exact Nat.le_succ_of_le hrl
     ·exact Nat.le_succ_of_le (bd.r p z.1)
    ·have:=bd.s
     have h2:n * n<=(n+1) * (n+1):=Nat.mul_le_mul (Nat.le_succ n) (Nat.le_succ n);show l.said.length<=_; omega
    ·exact Nat.le_succ_of_le bd.h
    ·exact q H' _ _ (by rw [e]; exact L3) (S2.two S3) (fun r hr=>nS (show eI k (.tr k j) from rfl) r hr) ep
   ·refine rP (by rw [eq]; exact hm) ?_
    have e:cY cnt l j row={ l with told:=aJ l.told j row }:=by unfold cY; rw [if_neg hop,if_neg hm]
    exact q H2 _ _ (by rw [e]; exact L2) S2 (fun r hr=>nS (show eI k (.tr k j) from rfl) r hr) ep
theorem oE (TL:TxL K c.l) (O_free_place:L2.Own P w K mg base "free_place" 1 ["said"] ve) (D:MethAt K c.l "say" "Lead.say" fP ["self","saying"]):OwnM P w K mg base c.l "say" 2 ["self","saying"] (u_ c):=by
 refine D.own jH (fun vs H Q E h=>?_) (fun f cdv A outer s H vs Q E hr h=>?_)
 ·obtain ⟨α,ρ,cnt,k,l,sy,rfl,_⟩:=h; rfl
 ·obtain ⟨α,ρ,cnt,k,l,sy,rfl,L,hz,q⟩:=h
  have hu:=bM hr;have nd:=jH.nd;refine ⟨_,(ad (aH nd 2 (a_ O_free_place hr rfl (ac (aO (nv 0) rfl) aj)))
 (ad (b7 hu (aO (nv 0) rfl) (nv 2) (nv 1) rfl)
 (aq (az (nv 2))))),?_⟩
  obtain ⟨⟨dx,ob⟩,_,⟨ks,hs,js⟩,_⟩:=id L;refine ⟨_,c.l,dx,_,_,rfl,ob,TL.cl,TL.n5,i_ _ _ _ _ _ _,?_⟩;refine ⟨_,ks,rfl,.inl hs,fun n h1 h2=>?_⟩;have e:=pS js n h1 h2;refine ⟨_,c.l,dx,_,_,rfl,ob,TL.cl,TL.n5,i_ _ _ _ _ _ _,?_⟩;have:=js.len;refine ⟨_,_,rfl,eK.k (k:=Sum.inl (n:Int)) hs (gz (by omega)),?_⟩;obtain ⟨L1,S1⟩:=L.told (pl:=(n:Int)) (sy:=sy) hs;have q1:=q _ (by unfold tI; rw [e]; exact L1) S1;rw [e] at q1;exact q1
theorem ii (TL:TxL K c.l) (D:MethAt K c.l "take_hand" "Lead.take_hand" cW ["self","scribe","place"]):OwnM P w K mg base c.l "take_hand" 1 ["self","scribe","place"] (vb c):=by
 refine D.own fu (fun vs H Q E h=>?_) (fun f cdv A outer s H vs Q E hr h=>?_)
 ·obtain ⟨α,ρ,cnt,k,l,j,pl,rfl,_⟩:=h; rfl
 ·obtain ⟨α,ρ,cnt,k,l,j,pl,rfl,L,nr,hz,hz2,hnd,q⟩:=h
  have hu:=bM hr;have nd:=fu.nd;refine ⟨_,(ad (aH nd 3 (eW PySem.F.plainAttrs_dict PySem.F.slot_dict_setdefault PySem.F.type_dict_setdefault uk (aO (nv 0) rfl) (ac (nv 2) (ac cM aj))))
 (aq (b7 hu (nv 3) (nv 1) bo rfl))),?_⟩
  obtain ⟨⟨dx,ob⟩,_,_,⟨kh,hh,jh⟩,_⟩:=id L;refine ⟨_,c.l,dx,_,_,rfl,ob,TL.cl,TL.n6,n_ _ _ _ _ _ _,?_⟩;refine ⟨.inr (.inr (.inl ⟨rfl,.inl ⟨_,hh⟩⟩)),?_⟩;intro a ha;have ah:α (.lh k)≠a:=ai hh ha;have hh1:(aA H a (.dK [])) (α (.lh k))=some (.dK kh):=(ag ah).trans hh;have lk:=jh.len;refine ⟨_,kh,Sum.inl pl,.ref a,rfl,hh1,rfl,aS (by omega),fun u hu2=>?_,fun hn=>?_⟩
  ·rcases jh.get pl with ⟨_,z⟩ | ⟨v,hs,g1,g2,y1,y2,y3⟩
   ·rw [hu2] at z; cases z
   ·rw [hu2] at g2; cases g2
    subst y1;have h3:(aA H a (.dK [])) (α (.hd k pl))=some (.dK (gH hs)):=(ag (ai y3 ha)).trans y3;have:=hz2 _ (bj g1);refine ⟨_,_,rfl,eK.k (k:=Sum.inl j) h3 (aS (by rw [oa]; exact Nat.le_of_lt this)),?_⟩;obtain ⟨L1,S1⟩:=L.hand2 (j:=j) hnd ha g1;rw [kZ];exact q _ α ρ L1 S1 (fun _ _=>rfl) rfl
  ·have hg:ay l.hands pl=none:=by
    rcases jh.get pl with ⟨z,_⟩ | ⟨v,hs,_,g2,_⟩
    ·exact z
    ·rw [hn] at g2; cases g2
   have h3:(aA (aA H a (.dK [])) (α (.lh k)) (.dK (bB kh (Sum.inl pl) (.ref a)))) a=some (.dK (gH [])):=by rw [ag (Ne.symm ah),upd_same]; rfl
   refine ⟨_,_,rfl,eK.k (k:=Sum.inl j) h3 (aS (by show 0<=1000; decide)),?_⟩;rw [kZ];obtain ⟨L1,S1⟩:=L.hand1 (j:=j) ha hh hg;exact q _ _ _ L1 S1 (fun r hr=>nS (show eI k (.hd k pl) from rfl) r hr) (a6 (fun z=>nomatch z))
end
section
variable {P:Program}{w:World}{K:Frag}{mg:Str->Option Value}{base:Heap}{c:Cs}{N:Addr}
theorem l6 (TH:TxH K c.h) (XN:TxN K mg "NoScribe" N) (D:MethAt K c.h "check" "Hall.check" eE ["self","number"]):OwnMX P w K mg base c.h "check" 1 ["self","number"] (fe c N):=by
 refine D.ownX mi (fun vs H Q E h=>?_) (fun f cdv A outer s H vs Q E hr h=>?_)
 ·obtain ⟨p,dx,i,cnt,sl,ld,sd,wl,rfl,_⟩:=h; rfl
 ·obtain ⟨p,dx,i,cnt,sl,ld,sd,wl,rfl,ob,k1,k2⟩:=h
  refine ⟨_,(aq (aQ (bZ (vT yU fL ao (nv 1) (aO (nv 0) rfl))) (aq (vU (E:=E) XN.mg XN.ex PySem.F.excBase_ValueError rfl rfl (ac aB aj))) aC)),?_⟩;refine ⟨_,rfl,?_⟩
  by_cases h0:0<=i
  ·refine wR (decide_eq_true h0) ?_
   refine ⟨p,c.h,dx,_,_,rfl,ob,TH.cl,TH.n1,sV _ _ _ _ _,_,rfl,?_⟩
   by_cases h1:i < cnt
   ·exact x9 (decide_eq_true h1) (k1 (by rw [decide_eq_true h0,decide_eq_true h1]; rfl))
   ·refine vt (decide_eq_false h1) ?_
    exact ⟨by show 1<=sizeLine; decide,k2 (by rw [decide_eq_true h0,decide_eq_false h1]; rfl)⟩
  ·refine rP (fun z=>h0 (of_decide_eq_true z)) ?_
   refine ⟨_,rfl,bH ?_⟩;exact ⟨by show 1<=sizeLine; decide,k2 (by rw [decide_eq_false h0]; rfl)⟩
theorem mr (TH:TxH K c.h) (TS:TxS K c.s) (O_Scribe_see:OwnM P w K mg base c.s "see" 1 ["self","number"] (xS c.s)) (D:MethAt K c.h "fall" "Hall.fall" fq ["self","own","number"]):OwnM P w K mg base c.h "fall" 2 ["self","own","number"] (qH c):=by
 refine D.own oC (fun vs H Q E h=>?_) (fun f cdv A outer s H vs Q E hr h=>?_)
 ·obtain ⟨α,ρ,A,own,num,rfl,_⟩:=h; rfl
 ·obtain ⟨α,ρ,A,own,num,rfl,x,hi,hl,hz,q⟩:=h
  have hu:=bM hr;refine ⟨_,(ad (a5 (pK (aO (nv 0) rfl) (nv 1) ⟨rfl,rfl,rfl,rfl⟩))
 (aq (a5 (eg (ax (ba hu) (aO (nv 0) rfl) (nv 1) (fun _ _=>rfl)) TS.cl O_Scribe_see hr (ac (nv 2) aj))))),?_⟩
  obtain ⟨dx,ob⟩:=x.ob;obtain ⟨kl,ol,jl⟩:=x.leadAt own;obtain ⟨l,g1,g2,_⟩:∃ l,ay A.leads own=some l/\bL kl (Sum.inl own)=some (.ref (α (.lp own)))/\LdAt c H α ρ A.cnt own l:=by
   rcases jl with ⟨z,_⟩ | z
   ·rw [z] at hl; cases hl
   ·exact z
  refine ⟨_,c.h,dx,_,_,rfl,ob,TH.cl,TH.n3,cQ _ _ _ _ _,?_⟩;refine ⟨_,rfl,.inl ⟨_,.inl ol⟩,kl,Sum.inl own,_,ol,rfl,g2,?_⟩;obtain ⟨x1,S1⟩:=x.gone ol own;obtain ⟨dx1,ob1⟩:=x1.ob;generalize aA H (α .ld) (.dK (eZ kl (Sum.inl own)))=H1 at x1 S1 ob1 ⊢;have hi1:aW { A with leads:=cc A.leads own } own=true:=hi;obtain ⟨sc,e1,e2,e3,e4⟩:=x1.scrAt hi1;obtain ⟨⟨dx2,os⟩,orw,r1,r2⟩:=id e2;refine ⟨_,c.h,dx1,_,_,rfl,ob1,TH.cl,TH.n2,eJ _ _ _ _ _,?_⟩;refine ⟨_,.lst (a9.of x1.sl) e4,_,dx2,_,rfl,os,vI _ _ _ _ _,?_⟩;refine ⟨_,dx2,_,_,_,sc.seen,num,_,rfl,os,?_⟩;have S2:Stp (yd own.toNat) H1 ρ (aA H1 (α (.scr own.toNat)) (.ins c.s dx2 (sF (.int (own.toNat:Nat)) (.int A.cnt) (.int sc.prom) (α (.row own.toNat)) (.int (if sc.seen < num then num else sc.seen))))) ρ:=cr os r1 (.inl rfl);obtain ⟨kr,or,jr⟩:=orw;have x2:=x1.scr (s':={ sc with seen:=if sc.seen < num then num else sc.seen }) e1 S2 ⟨⟨dx2,upd_same⟩,⟨kr,(ag (bR r2 r1 (fun z=>nomatch z))).trans or,jr.imp fun _ _ _ _ z=>z.stp S2⟩,r1,r2⟩;refine q _ ?_ (S1.any.two S2.any);have e5:A.scrs[own.toNat]? = some sc:=e1;unfold eY;rw [e5];exact x2
theorem mq (TH:TxH K c.h) (TS:TxS K c.s) (O_Hall_check:OwnMX P w K mg base c.h "check" 1 ["self","number"] (fe c N)) (O_Scribe_rise:OwnM P w K mg base c.s "rise" 2 ["self"] (rX c.s)) (O_Lead:OwnC P w K mg base c.l "Lead" 1 ["self","number","count"] (sf c.l))
  (D:MethAt K c.h "rise" "Hall.rise" fk ["self","own"]):OwnMX P w K mg base c.h "rise" 3 ["self","own"] (sj c N):=by
 refine D.ownX iP (fun vs H Q E h=>?_) (fun f cdv A outer s H vs Q E hr h=>?_)
 ·obtain ⟨own,α,ρ,A,n,PL,rfl,_⟩:=h; rfl
 ·obtain ⟨own,α,ρ,A,n,PL,rfl,x,wf,hn,k1,k2⟩:=h
  have hu:=bM hr;have nd:=iP.nd;refine ⟨_,(ad (a5 (bK (E:=E) (nv 0) TH.cl O_Hall_check d9 hr (ac (nv 1) aj)))
 (ad (aQ (aF (i7 hr) (nv 1) (aO (nv 0) rfl) (by with_unfolding_all rfl)) (aq (az cg)) aC)
 (ad (aH nd 2 (k6 (ax (ba hu) (aO (nv 0) rfl) (nv 1) (fun _ _=>rfl)) TS.cl O_Scribe_rise hr))
 (ad (b7 hu (aO (nv 0) rfl) (nv 1) (iH O_Lead hr rfl (ac (nv 2) (ac (aO (nv 0) rfl) aj))) rfl)
 (aq (az (nv 2))))))),?_⟩
  obtain ⟨dx,ob⟩:=x.ob;refine ⟨_,dx,_,rfl,ob,cu _ _ _ _ _,?_⟩;refine ⟨_,dx,own,A.cnt,_,_,_,_,rfl,ob,fun hi=>?_,fun hi=>k2 ⟨own,by simp,hi⟩⟩;have hi:aW A own=true:=hi;have k1:=k1 (fun i h=>by simp at h; rw [h]; exact hi);dsimp only at k1;have gs:cJ H (α .sd) (.int own) (if own∈A.stop then some (.bl true) else none):=by
   have:=cJ.k (k:=Sum.inl own) x.sd;rwa [fA] at this
  refine ⟨_,c.h,dx,_,_,rfl,ob,TH.cl,TH.n4,dO _ _ _ _ _,_,.dct gs,_,rfl,?_⟩
  by_cases hs:own∈A.stop
  ·rw [if_pos hs]
   refine bH ?_;have e:eN A own=(A,.non):=if_pos hs;exact k1 H α ρ .non (by rw [e]; exact x) rfl .refl (by rw [e]; rfl)
  ·rw [if_neg hs]
   refine bU ?_;obtain ⟨sc,e1,e2,e3,e4⟩:=x.scrAt hi;obtain ⟨⟨dx2,os⟩,⟨kr,or,jr⟩,r1,r2⟩:=id e2;refine ⟨_,c.h,dx,_,_,rfl,ob,TH.cl,TH.n2,eJ _ _ _ _ _,?_⟩;refine ⟨_,.lst (a9.of x.sl) e4,_,dx2,_,rfl,os,tW _ _ _ _ _,?_⟩;refine ⟨_,dx2,_,A.cnt,sc.seen,_,_,rfl,os,wf.pos,?_⟩;rw [e3];rw [e3] at os;generalize hnn:aM A.cnt own sc.seen=num;have S1:Stp (yd own.toNat) H ρ (aA H (α (.scr own.toNat)) (.ins c.s dx2 (sF (.int own) (.int A.cnt) (.int sc.prom) (α (.row own.toNat)) (.int num)))) ρ:=cr os r1 (.inl rfl);have x1:=x.scr (s':={ sc with seen:=num }) e1 S1 ⟨⟨dx2,by rw [e3]; exact upd_same⟩,⟨kr,(ag (bR r2 r1 (fun z=>nomatch z))).trans or,jr.imp fun _ _ _ _ z=>z.stp S1⟩,r1,r2⟩;generalize aA H (α (.scr own.toNat)) (.ins c.s dx2 (sF (.int own) (.int A.cnt) (.int sc.prom) (α (.row own.toNat)) (.int num)))=H1 at x1 S1 ⊢;obtain ⟨dx3,ob1⟩:=x1.ob;obtain ⟨kl,ol,jl⟩:=x1.ld;have hkl:=jl.len;have hlb:=wf.bd.l;refine ⟨_,c.h,dx3,_,_,rfl,ob1,TH.cl,TH.n1,sV _ _ _ _ _,?_⟩;intro p dp hp hdp hne;have kk:∀ b u,H1 b=some u->(aA (aA H1 dp (.own p)) p (.ins c.l dp [])) b=some u/\b≠p:=fun b u e=>⟨by rw [ag (ai e hp),ag (ai e hdp)]; exact e,ai e hp⟩;refine ⟨p,dp,_,_,rfl,upd_same,fun t sa h H2 ht hsa hh n1 n2 n3 o1 o2 o3 o4 kp=>⟨rfl,?_⟩⟩;have fr:∀ {b:Addr},(aA (aA H1 dp (.own p)) p (.ins c.l dp [])) b=none->H1 b=none/\b≠p:=fun {b} e=>by
    have z1:b≠p:=fun z=>by rw [z,upd_same] at e; cases e
    rw [ag z1] at e;have z2:b≠dp:=fun z=>by rw [z,upd_same] at e; cases e
    rw [ag z2] at e;exact ⟨e,z1⟩
   have sm:aV H1 H2:=fun b u e=>kp b u (kk b u e).1 (kk b u e).2;obtain ⟨α',ρ',x2,ah,S2⟩:=x1.risen (k:=own) ol hp (fr ht).1 (fr hsa).1 (fr hh).1 (Ne.symm (fr ht).2) (Ne.symm (fr hsa).2) (Ne.symm (fr hh).2) n1 n2 n3 o1 o2 o3 o4 sm;refine ⟨_,c.h,dx3,_,_,rfl,sm _ _ ob1,TH.cl,TH.n3,cQ _ _ _ _ _,?_⟩;refine ⟨_,_,rfl,eK.k (k:=Sum.inl own) (sm _ _ ol) (aS (by have:kl.length=A.leads.length:=hkl; omega)),?_⟩;have e:eN A own=({ A with scrs:=A.scrs.set own.toNat { sc with seen:=num },leads:=aJ A.leads own (mG num) },.int num):=by
    unfold eN;rw [if_neg hs,e1];show _=_;rw [<- hnn]
   exact k1 _ α' ρ' _ (by rw [e]; exact x2) ah (S1.any.two S2) (by rw [e]; rfl)
end
section
variable {P:Program}{w:World}{K:Frag}{mg:Str->Option Value}{base:Heap}{c:Cs}{N:Addr}
theorem oG (TH:TxH K c.h) (TS:TxS K c.s) (TL:TxL K c.l) (O_Hall_check:OwnMX P w K mg base c.h "check" 1 ["self","number"] (fe c N)) (O_Scribe_promise:OwnM P w K mg base c.s "promise" 1 ["self","number"] (jf c.s)) (O_Hall_fall:OwnM P w K mg base c.h "fall" 2 ["self","own","number"] (qH c))
  (O_Lead_hear:OwnM P w K mg base c.l "hear" 3 ["self","scribe","row"] (va c)) (D:MethAt K c.h "ask" "Hall.ask" fR ["self","own","other"]):OwnMX P w K mg base c.h "ask" 4 ["self","own","other"] (vd c N):=by
 refine D.ownX jI (fun vs H Q E h=>?_) (fun f cdv A outer s H vs Q E hr h=>?_)
 ·obtain ⟨own,other,α,ρ,A,n,PL,rfl,_⟩:=h; rfl
 ·obtain ⟨own,other,α,ρ,A,n,PL,rfl,x,wf,hn,k1,k2⟩:=h
  have hu:=bM hr;have nd:=jI.nd;refine ⟨_,(ad (a5 (bK (E:=E) (nv 0) TH.cl O_Hall_check d9 hr (ac (nv 1) aj)))
 (ad (a5 (bK (E:=E) (nv 0) TH.cl O_Hall_check d9 hr (ac (nv 2) aj)))
 (ad (aQ (PW.pt (dI (aF (cT hr) (nv 1) (aO (nv 0) rfl) (by with_unfolding_all rfl)) (cX (aF (i7 hr) (nv 2) (aO (nv 0) rfl) (by with_unfolding_all rfl))))) (aq (az cg)) aC)
 (ad (aH nd 3 (ax (ba hu) (aO (nv 0) rfl) (nv 1) (fun _ _=>rfl)))
 (ad (aH nd 4 (ax (ba hu) (aO (nv 0) rfl) (nv 2) (fun _ _=>rfl)))
 (ad (aQ (bZ (bn (eg (nv 4) TS.cl O_Scribe_promise hr (ac (aO (nv 3) rfl) aj)))) (ad (a5 (eg (nv 0) TH.cl O_Hall_fall hr (ac (nv 1) (ac (aO (nv 4) rfl) aj))))
 (aq (az bo))) aC)
 (ad (a5 (eg (nv 3) TL.cl O_Lead_hear hr (ac (nv 2) (ac (aO (nv 4) rfl) aj))))
 (aq (az bo))))))))),?_⟩
  obtain ⟨dx,ob⟩:=x.ob;refine ⟨_,dx,_,rfl,ob,cu _ _ _ _ _,?_⟩;refine ⟨_,dx,own,A.cnt,_,_,_,_,rfl,ob,fun hi=>?_,fun hi=>k2 ⟨own,by simp,hi⟩⟩;have hi:aW A own=true:=hi;refine ⟨_,dx,_,rfl,ob,cu _ _ _ _ _,?_⟩;refine ⟨_,dx,other,A.cnt,_,_,_,_,rfl,ob,fun hj=>?_,fun hj=>k2 ⟨other,by simp,hj⟩⟩;have hj:aW A other=true:=hj;have k1:=k1 (fun i h=>by simp at h; rcases h with rfl | rfl<;>assumption);dsimp only at k1;obtain ⟨kl,ol,jl⟩:=x.leadAt own;have gl:=cJ.k (k:=Sum.inl own) ol;have gs:cJ H (α .sd) (.int other) (if other∈A.stop then some (.bl true) else none):=by
   have:=cJ.k (k:=Sum.inl other) x.sd;rwa [fA] at this
  refine ⟨_,c.h,dx,_,_,rfl,ob,TH.cl,TH.n3,cQ _ _ _ _ _,_,.dct gl,_,rfl,?_⟩;rcases jl with ⟨z1,z2⟩ | ⟨l,z1,z2,L⟩
  ·rw [z2]
   refine bH ?_;have e:fy A own other=(A,.non):=by unfold fy; rw [z1]
   exact k1 H α ρ .non (by rw [e]; exact x) rfl .refl (by rw [e]; rfl)
  ·rw [z2] at gl ⊢
   refine bU ?_;refine ⟨_,c.h,dx,_,_,rfl,ob,TH.cl,TH.n4,dO _ _ _ _ _,_,.dct gs,_,rfl,?_⟩
   by_cases hs:other∈A.stop
   ·rw [if_pos hs]
    refine bH ?_;have e:fy A own other=(A,.non):=by unfold fy; rw [z1]; exact if_pos hs
    exact k1 H α ρ .non (by rw [e]; exact x) rfl .refl (by rw [e]; rfl)
   ·rw [if_neg hs]
    refine bU ?_;refine ⟨_,c.h,dx,_,_,rfl,ob,TH.cl,TH.n3,cQ _ _ _ _ _,?_⟩;refine ⟨_,.dct gl,?_⟩;obtain ⟨sc,e1,e2,e3,e4⟩:=x.scrAt hj;obtain ⟨⟨dx2,os⟩,⟨kr,or,jr⟩,r1,r2⟩:=id e2;refine ⟨_,c.h,dx,_,_,rfl,ob,TH.cl,TH.n2,eJ _ _ _ _ _,?_⟩;refine ⟨_,.lst (a9.of x.sl) e4,?_⟩;obtain ⟨⟨dx3,obl⟩,_⟩:=id L;refine ⟨_,dx2,_,rfl,os,iQ _ _ _ _ _,?_⟩;refine ⟨_,c.l,dx3,_,_,rfl,obl,TL.cl,TL.n1,k8 _ _ _ _ _ _,?_⟩;refine ⟨_,dx2,_,_,sc.prom,l.num,_,_,rfl,os,fun hlt=>⟨_,rfl,bH ?_⟩,fun hge=>⟨_,rfl,bU ?_⟩⟩
    ·refine ⟨_,dx,_,rfl,ob,mX _ _ _ _ _,?_⟩
     refine ⟨_,c.s,dx2,_,_,rfl,os,TS.cl,TS.n3,fO _ _ _ _ _,?_⟩;have hlb:=wf.bd.l;refine ⟨α,ρ,A,own,sc.prom,rfl,x,hi,by rw [z1]; rfl,by omega,fun H' x' S'=>?_⟩;have e:fy A own other=(eY A own sc.prom,.bl false):=by unfold fy; rw [z1]; simp only [if_neg hs,e1,if_pos hlt]
     exact k1 H' α ρ _ (by rw [e]; exact x') rfl S' (by rw [e]; rfl)
    ·have S1:Stp (yd other.toNat) H ρ (aA H (α (.scr other.toNat)) (.ins c.s dx2 (sF (.int (other.toNat:Nat)) (.int A.cnt) (.int l.num) (α (.row other.toNat)) (.int sc.seen)))) ρ:=cr os r1 (.inl rfl)
     have n1:ScrAt c (aA H (α (.scr other.toNat)) (.ins c.s dx2 (sF (.int (other.toNat:Nat)) (.int A.cnt) (.int l.num) (α (.row other.toNat)) (.int sc.seen)))) α ρ A.cnt other.toNat { sc with prom:=l.num } :=
      ⟨⟨dx2,upd_same⟩,⟨kr,(ag (bR r2 r1 (fun z=>nomatch z))).trans or,jr.imp fun _ _ _ _ z=>z.stp S1⟩,r1,r2⟩
     have x1:=x.scr (s':={ sc with prom:=l.num }) e1 S1 n1;have L1:=L.stp (α':=α) S1 (fun r hr z=>by rcases z with rfl | rfl<;>exact hr) (fun _ _=>rfl);generalize aA H (α (.scr other.toNat)) (.ins c.s dx2 (sF (.int (other.toNat:Nat)) (.int A.cnt) (.int l.num) (α (.row other.toNat)) (.int sc.seen)))=H1 at x1 S1 n1 L1 ⊢;obtain ⟨⟨dx4,obl1⟩,_⟩:=id L1;obtain ⟨⟨dx5,os1⟩,⟨kr1,or1,jr1⟩,_⟩:=id n1;have ml:=bj z1;have ms:=List.mem_of_getElem? e1;refine ⟨_,dx4,_,rfl,obl1,um _ _ _ _ _ _,?_⟩;refine ⟨_,c.s,dx5,_,_,rfl,os1,TS.cl,TS.n4,uU _ _ _ _ _,?_⟩;refine ⟨α,ρ,A.cnt,own,l,n,other,_,kr1,sc.row,rfl,L1,x1.nr,wf.bd.k _ ml,(wf.le _ ml).op,by omega,or1,jr1,wf.bd.r sc ms,fun H' α' ρ' L2 S2 e5 e6=>?_⟩;have x2:=x1.leadC (show ay A.leads own=some l from z1) S2 e5 e6 L2;have e:fy A own other=({ A with scrs:=A.scrs.set other.toNat { sc with prom:=l.num },leads:=aJ A.leads own (cY A.cnt l other sc.row) },.bl true):=by unfold fy; rw [z1]; simp only [if_neg hs,e1,if_neg hge]
     exact k1 H' α' ρ' _ (by rw [e]; exact x2) (e5 _ (fun z=>z)) (S1.any.two S2.any) (by rw [e]; rfl)
theorem oF (TH:TxH K c.h) (TL:TxL K c.l) (O_Hall_check:OwnMX P w K mg base c.h "check" 1 ["self","number"] (fe c N)) (O_Lead_say:OwnM P w K mg base c.l "say" 2 ["self","saying"] (u_ c)) (D:MethAt K c.h "say" "Hall.say" fQ ["self","own","saying"]):OwnMX P w K mg base c.h "say" 3 ["self","own","saying"] (vc c N):=by
 refine D.ownX p7 (fun vs H Q E h=>?_) (fun f cdv A outer s H vs Q E hr h=>?_)
 ·obtain ⟨own,sy,α,ρ,A,n,PL,rfl,_⟩:=h; rfl
 ·obtain ⟨own,sy,α,ρ,A,n,PL,rfl,x,wf,hn,k1,k2⟩:=h
  have hu:=bM hr;refine ⟨_,(ad (a5 (bK (E:=E) (nv 0) TH.cl O_Hall_check d9 hr (ac (nv 1) aj)))
 (ad (aQ (PW.pt (dI (aF (cT hr) (nv 1) (aO (nv 0) rfl) (by with_unfolding_all rfl)) (cX (bZ (bn (aO (ax (ba hu) (aO (nv 0) rfl) (nv 1) (fun _ _=>rfl)) rfl)))))) (aq (az cg)) aC)
 (aq (az (eg (ax (ba hu) (aO (nv 0) rfl) (nv 1) (fun _ _=>rfl)) TL.cl O_Lead_say hr (ac (nv 2) aj)))))),?_⟩
  obtain ⟨dx,ob⟩:=x.ob;refine ⟨_,dx,_,rfl,ob,cu _ _ _ _ _,?_⟩;refine ⟨_,dx,own,A.cnt,_,_,_,_,rfl,ob,fun hi=>?_,fun hi=>k2 ⟨own,by simp,hi⟩⟩;have hi:aW A own=true:=hi;have k1:=k1 (fun i h=>by simp at h; rw [h]; exact hi);dsimp only at k1;obtain ⟨kl,ol,jl⟩:=x.leadAt own;have gl:=cJ.k (k:=Sum.inl own) ol;refine ⟨_,c.h,dx,_,_,rfl,ob,TH.cl,TH.n3,cQ _ _ _ _ _,_,.dct gl,_,rfl,?_⟩;rcases jl with ⟨z1,z2⟩ | ⟨l,z1,z2,L⟩
  ·rw [z2]
   refine bH ?_;have e:f_ A own sy=(A,.non):=by unfold f_; rw [z1]
   exact k1 H α ρ .non (by rw [e]; exact x) rfl .refl (by rw [e]; rfl)
  ·rw [z2] at gl ⊢
   refine bU ?_;obtain ⟨⟨dx3,obl⟩,_⟩:=id L;refine ⟨_,c.h,dx,_,_,rfl,ob,TH.cl,TH.n3,cQ _ _ _ _ _,_,.dct gl,?_⟩;refine ⟨_,c.l,dx3,_,_,rfl,obl,TL.cl,TL.n4,pP _ _ _ _ _ _,_,rfl,?_⟩;cases hop:l.op with
   | false =>
    refine bH ?_;have e:f_ A own sy=(A,.non):=by unfold f_; rw [z1]; simp only [hop,Bool.false_eq_true,if_false]
    exact k1 H α ρ .non (by rw [e]; exact x) rfl .refl (by rw [e]; rfl)
   | true =>
    refine dJ ?_;refine ⟨_,c.h,dx,_,_,rfl,ob,TH.cl,TH.n3,cQ _ _ _ _ _,_,.dct gl,?_⟩;refine ⟨_,dx3,_,rfl,obl,wd _ _ _ _ _ _,?_⟩;have hb:=(wf.bd.k _ (bj z1)).s;have hnn:n * n<=398 * 398:=Nat.mul_le_mul hn hn;refine ⟨α,ρ,A.cnt,own,l,sy,rfl,L,by dsimp only at hb; omega,fun H' L1 S1=>?_⟩;have x1:=x.leadC z1 S1 (fun _ _=>rfl) rfl L1;have e:f_ A own sy=({ A with leads:=aJ A.leads own (tI l sy) },.int (b_ l.said)):=by unfold f_; rw [z1]; simp only [hop,if_true]
    exact k1 H' α ρ _ (by rw [e]; exact x1) rfl S1.any (by rw [e]; rfl)
theorem gG (TH:TxH K c.h) (O_Hall_check:OwnMX P w K mg base c.h "check" 1 ["self","number"] (fe c N)) (D:MethAt K c.h "be_stopped" "Hall.be_stopped" cI ["self","own"]):OwnMX P w K mg base c.h "be_stopped" 2 ["self","own"] (si c N):=by
 refine D.ownX h_ (fun vs H Q E h=>?_) (fun f cdv A outer s H vs Q E hr h=>?_)
 ·obtain ⟨own,α,ρ,A,n,PL,rfl,_⟩:=h; rfl
 ·obtain ⟨own,α,ρ,A,n,PL,rfl,x,wf,hn,k1,k2⟩:=h
  have hu:=bM hr;refine ⟨_,(ad (a5 (bK (E:=E) (nv 0) TH.cl O_Hall_check d9 hr (ac (nv 1) aj)))
 (ad (aQ (aF (i7 hr) (nv 1) (aO (nv 0) rfl) (by with_unfolding_all rfl)) (aq (az bo)) aC)
 (ad (b7 hu (aO (nv 0) rfl) (nv 1) bo rfl)
 (ad (a5 (vZ (aO (nv 0) rfl) (nv 1) cg ⟨rfl,rfl,rfl,rfl⟩))
 (aq (az bo)))))),?_⟩
  obtain ⟨dx,ob⟩:=x.ob;refine ⟨_,dx,_,rfl,ob,cu _ _ _ _ _,?_⟩;refine ⟨_,dx,own,A.cnt,_,_,_,_,rfl,ob,fun hi=>?_,fun hi=>k2 ⟨own,by simp,hi⟩⟩;have hi:aW A own=true:=hi;have k1:=k1 (fun i h=>by simp at h; rw [h]; exact hi);dsimp only at k1;have gs:cJ H (α .sd) (.int own) (if own∈A.stop then some (.bl true) else none):=by
   have:=cJ.k (k:=Sum.inl own) x.sd;rwa [fA] at this
  refine ⟨_,c.h,dx,_,_,rfl,ob,TH.cl,TH.n4,dO _ _ _ _ _,_,.dct gs,_,rfl,?_⟩
  by_cases hs:own∈A.stop
  ·rw [if_pos hs]
   refine bH ?_;have e:d8 A own=(A,.bl false):=if_pos hs;exact k1 H α ρ _ (by rw [e]; exact x) rfl .refl (by rw [e]; rfl)
  ·rw [if_neg hs]
   refine bU ?_;refine ⟨_,c.h,dx,_,_,rfl,ob,TH.cl,TH.n4,dO _ _ _ _ _,?_⟩;have hsb:=wf.bd.s;refine ⟨_,_,rfl,eK.k (k:=Sum.inl own) x.sd (aS (by rw [oa]; omega)),?_⟩;rw [kZ];have ea:cA A.stop own=A.stop++[own]:=if_neg hs;rw [ea];obtain ⟨x1,S1⟩:=x.halt (A.stop++[own]);obtain ⟨dx1,ob1⟩:=x1.ob;obtain ⟨kl,ol,jl⟩:=x1.leadAt own;generalize aA H (α .sd) (.dK (gH (A.stop++[own])))=H1 at x1 S1 ob1 ol jl ⊢;refine ⟨_,c.h,dx1,_,_,rfl,ob1,TH.cl,TH.n3,cQ _ _ _ _ _,?_⟩;refine ⟨_,rfl,.inl ⟨_,.inl ol⟩,kl,Sum.inl own,ol,rfl,fun v hv=>?_,fun hv=>?_⟩
   ·obtain ⟨x2,S2⟩:=x1.gone ol own
    have e:d8 A own=({ A with stop:=A.stop++[own],leads:=cc A.leads own },.bl true):=if_neg hs;exact k1 _ α ρ _ (by rw [e]; exact x2) rfl (S1.any.two S2.any) (by rw [e]; rfl)
   ·have hl:ay A.leads own=none:=by
     rcases jl with ⟨z,_⟩ | ⟨_,_,z,_⟩
     ·exact z
     ·rw [hv] at z; cases z
    have ed:cc A.leads own=A.leads:=List.filter_eq_self.mpr fun p hp=>decide_eq_true fun z=>cz.mp hl (List.mem_map.mpr ⟨p,hp,z⟩);have e:d8 A own=({ A with stop:=A.stop++[own] },.bl true):=by unfold d8; rw [if_neg hs,ed]
    exact k1 _ α ρ _ (by rw [e]; exact x1) rfl S1.any (by rw [e]; rfl)
theorem jz (TH:TxH K c.h) (O_Hall_check:OwnMX P w K mg base c.h "check" 1 ["self","number"] (fe c N)) (D:MethAt K c.h "come_up" "Hall.come_up" dG ["self","own"]):OwnMX P w K mg base c.h "come_up" 2 ["self","own"] (sg c N):=by
 refine D.ownX jX (fun vs H Q E h=>?_) (fun f cdv A outer s H vs Q E hr h=>?_)
 ·obtain ⟨own,α,ρ,A,n,PL,rfl,_⟩:=h; rfl
 ·obtain ⟨own,α,ρ,A,n,PL,rfl,x,wf,hn,k1,k2⟩:=h
  refine ⟨_,(ad (a5 (bK (E:=E) (nv 0) TH.cl O_Hall_check d9 hr (ac (nv 1) aj)))
 (ad (aQ (aF (cT hr) (nv 1) (aO (nv 0) rfl) (by with_unfolding_all rfl)) (aq (az bo)) aC)
 (ad (a5 (pK (aO (nv 0) rfl) (nv 1) ⟨rfl,rfl,rfl,rfl⟩))
 (aq (az bo))))),?_⟩
  obtain ⟨dx,ob⟩:=x.ob;refine ⟨_,dx,_,rfl,ob,cu _ _ _ _ _,?_⟩;refine ⟨_,dx,own,A.cnt,_,_,_,_,rfl,ob,fun hi=>?_,fun hi=>k2 ⟨own,by simp,hi⟩⟩;have hi:aW A own=true:=hi;have k1:=k1 (fun i h=>by simp at h; rw [h]; exact hi);dsimp only at k1;have gs:cJ H (α .sd) (.int own) (if own∈A.stop then some (.bl true) else none):=by
   have:=cJ.k (k:=Sum.inl own) x.sd;rwa [fA] at this
  refine ⟨_,c.h,dx,_,_,rfl,ob,TH.cl,TH.n4,dO _ _ _ _ _,_,.dct gs,_,rfl,?_⟩
  by_cases hs:own∈A.stop
  ·rw [if_pos hs]
   refine dJ ?_;refine ⟨_,c.h,dx,_,_,rfl,ob,TH.cl,TH.n4,dO _ _ _ _ _,?_⟩;refine ⟨_,rfl,.inl ⟨_,.inl x.sd⟩,_,Sum.inl own,.bl true,x.sd,rfl,by rw [fA,if_pos hs],?_⟩;rw [ux];obtain ⟨x1,S1⟩:=x.halt (A.stop.filter fun j=>decide (j≠own));have e:eV A own=({ A with stop:=A.stop.filter fun k=>decide (k≠own) },.bl true):=if_pos hs;exact k1 _ α ρ _ (by rw [e]; exact x1) rfl S1.any (by rw [e]; rfl)
  ·rw [if_neg hs]
   refine bH ?_;have e:eV A own=(A,.bl false):=if_neg hs;exact k1 H α ρ _ (by rw [e]; exact x) rfl .refl (by rw [e]; rfl)
end
section
variable {P:Program}{w:World}{K:Frag}{mg:Str->Option Value}{base:Heap}{c:Cs}{N:Addr}
theorem gF (TH:TxH K c.h) (TS:TxS K c.s) (TL:TxL K c.l) (O_Hall_check:OwnMX P w K mg base c.h "check" 1 ["self","number"] (fe c N)) (O_Scribe_put:OwnM P w K mg base c.s "put" 2 ["self","number","place","saying"] (xT c.s)) (O_Hall_fall:OwnM P w K mg base c.h "fall" 2 ["self","own","number"] (qH c))
  (O_Lead_take_hand:OwnM P w K mg base c.l "take_hand" 1 ["self","scribe","place"] (vb c)) (D:MethAt K c.h "have_write" "Hall.have_write" cG ["self","own","other","place"]):OwnMX P w K mg base c.h "have_write" 3 ["self","own","other","place"] (pB c N):=by
 refine D.ownX eT (fun vs H Q E h=>?_) (fun f cdv A outer s H vs Q E hr h=>?_)
 ·obtain ⟨own,other,pl,α,ρ,A,n,PL,rfl,_⟩:=h; rfl
 ·obtain ⟨own,other,pl,α,ρ,A,n,PL,rfl,x,wf,hn,k1,k2⟩:=h
  have hu:=bM hr;have nd:=eT.nd;refine ⟨_,(ad (a5 (bK (E:=E) (nv 0) TH.cl O_Hall_check d9 hr (ac (nv 1) aj)))
 (ad (a5 (bK (E:=E) (nv 0) TH.cl O_Hall_check d9 hr (ac (nv 2) aj)))
 (ad (aQ (PW.pt (dI (aF (cT hr) (nv 1) (aO (nv 0) rfl) (by with_unfolding_all rfl)) (dI (aF (cT hr) (nv 3) (aO (ax (ba hu) (aO (nv 0) rfl) (nv 1) (fun _ _=>rfl)) rfl) (by with_unfolding_all rfl)) (cX (aF (i7 hr) (nv 2) (aO (nv 0) rfl) (by with_unfolding_all rfl)))))) (aq (az cg)) aC)
 (ad (aH nd 4 (ax (ba hu) (aO (nv 0) rfl) (nv 1) (fun _ _=>rfl)))
 (ad (aH nd 5 (ax (ba hu) (aO (nv 0) rfl) (nv 2) (fun _ _=>rfl)))
 (ad (aH nd 6 (ax (ba hu) (aO (nv 4) rfl) (nv 3) (fun _ _=>rfl)))
 (ad (aQ (bZ (bn (eg (nv 5) TS.cl O_Scribe_put hr (ac (aO (nv 4) rfl) (ac (nv 3) (ac (nv 6) aj)))))) (ad (a5 (eg (nv 0) TH.cl O_Hall_fall hr (ac (nv 1) (ac (aO (nv 5) rfl) aj))))
 (aq (az bo))) aC)
 (ad (a5 (eW PySem.F.plainAttrs_list PySem.F.slot_list_append PySem.F.type_list_append bG (aO (nv 0) rfl) (ac (cf (ac (aO (nv 4) rfl) (ac (nv 2) (ac (nv 3) (ac (nv 6) aj))))) aj)))
 (ad (a5 (eg (nv 4) TL.cl O_Lead_take_hand hr (ac (nv 2) (ac (nv 3) aj))))
 (aq (az bo))))))))))),?_⟩
  obtain ⟨dx,ob⟩:=x.ob;refine ⟨_,dx,_,rfl,ob,cu _ _ _ _ _,?_⟩;refine ⟨_,dx,own,A.cnt,_,_,_,_,rfl,ob,fun hi=>?_,fun hi=>k2 ⟨own,by simp,hi⟩⟩;have hi:aW A own=true:=hi;refine ⟨_,dx,_,rfl,ob,cu _ _ _ _ _,?_⟩;refine ⟨_,dx,other,A.cnt,_,_,_,_,rfl,ob,fun hj=>?_,fun hj=>k2 ⟨other,by simp,hj⟩⟩;have hj:aW A other=true:=hj;have k1:=k1 (fun i h=>by simp at h; rcases h with rfl | rfl<;>assumption);dsimp only at k1;obtain ⟨kl,ol,jl⟩:=x.leadAt own;have gl:=cJ.k (k:=Sum.inl own) ol;have gs:cJ H (α .sd) (.int other) (if other∈A.stop then some (.bl true) else none):=by
   have:=cJ.k (k:=Sum.inl other) x.sd;rwa [fA] at this
  refine ⟨_,c.h,dx,_,_,rfl,ob,TH.cl,TH.n3,cQ _ _ _ _ _,_,.dct gl,_,rfl,?_⟩;rcases jl with ⟨z1,z2⟩ | ⟨l,z1,z2,L⟩
  ·rw [z2]
   refine bH ?_;have e:bV A own other pl=(A,.non):=by unfold bV; rw [z1]
   exact k1 H α ρ .non (by rw [e]; exact x) rfl .refl (by rw [e]; rfl)
  ·rw [z2] at gl ⊢
   refine bU ?_;obtain ⟨⟨dx3,obl⟩,_,⟨ks,osd,js⟩,_⟩:=id L;have gk:=cJ.k (k:=Sum.inl pl) osd;refine ⟨_,c.h,dx,_,_,rfl,ob,TH.cl,TH.n3,cQ _ _ _ _ _,_,.dct gl,?_⟩;refine ⟨_,c.l,dx3,_,_,rfl,obl,TL.cl,TL.n5,i_ _ _ _ _ _ _,_,.dct gk,_,rfl,?_⟩;rcases js.get pl with ⟨y1,y2⟩ | ⟨v,sy,y1,y2,y3⟩
   ·rw [y2]
    refine bH ?_;have e:bV A own other pl=(A,.non):=by unfold bV; rw [z1]; simp only [y1]
    exact k1 H α ρ .non (by rw [e]; exact x) rfl .refl (by rw [e]; rfl)
   ·subst y3
    rw [y2] at gk ⊢;refine bU ?_;refine ⟨_,c.h,dx,_,_,rfl,ob,TH.cl,TH.n4,dO _ _ _ _ _,_,.dct gs,_,rfl,?_⟩
    by_cases hs:other∈A.stop
    ·rw [if_pos hs]
     refine bH ?_;have e:bV A own other pl=(A,.non):=by unfold bV; rw [z1]; simp only [y1,if_pos hs]
     exact k1 H α ρ .non (by rw [e]; exact x) rfl .refl (by rw [e]; rfl)
    ·rw [if_neg hs]
     refine bU ?_;refine ⟨_,c.h,dx,_,_,rfl,ob,TH.cl,TH.n3,cQ _ _ _ _ _,_,.dct gl,?_⟩;obtain ⟨sc,e1,e2,e3,e4⟩:=x.scrAt hj;obtain ⟨⟨dx2,os⟩,⟨kr,or,jr⟩,r1,r2⟩:=id e2;refine ⟨_,c.h,dx,_,_,rfl,ob,TH.cl,TH.n2,eJ _ _ _ _ _,_,.lst (a9.of x.sl) e4,?_⟩;refine ⟨_,c.l,dx3,_,_,rfl,obl,TL.cl,TL.n5,i_ _ _ _ _ _ _,_,.dct gk,?_⟩;refine ⟨_,dx2,_,rfl,os,vJ _ _ _ _ _,?_⟩;refine ⟨_,c.l,dx3,_,_,rfl,obl,TL.cl,TL.n1,k8 _ _ _ _ _ _,?_⟩;have ml:=bj z1;have ms:=List.mem_of_getElem? e1;have hrl:=wf.bd.r sc ms;have hkr:=jr.len;refine ⟨_,dx2,_,_,sc.prom,l.num,pl,sy,_,_,kr,rfl,os,or,by omega,fun hlt=>⟨_,rfl,bH ?_⟩,fun hge tt H1 ht fr o1 o2 o3=>⟨_,rfl,bU ?_⟩⟩
     ·refine ⟨_,dx,_,rfl,ob,mX _ _ _ _ _,?_⟩
      refine ⟨_,c.s,dx2,_,_,rfl,os,TS.cl,TS.n3,fO _ _ _ _ _,?_⟩;have hlb:=wf.bd.l;refine ⟨α,ρ,A,own,sc.prom,rfl,x,hi,by rw [z1]; rfl,by omega,fun H' x' S'=>?_⟩;have e:bV A own other pl=(eY A own sc.prom,.bl false):=by unfold bV; rw [z1]; simp only [y1,if_neg hs,e1,if_pos hlt]
      exact k1 H' α ρ _ (by rw [e]; exact x') rfl S' (by rw [e]; rfl)
     ·have rt:ρ tt=none:=x.nr tt ht
      have S1:Stp (yd other.toNat) H ρ H1 ρ:=rV fr ⟨_,o2⟩ ⟨_,o3⟩ r1 r2 (.inl rfl) (.inr rfl);have n1:ScrAt c H1 α ρ A.cnt other.toNat { sc with prom:=l.num,row:=aJ sc.row pl (l.num,sy) } :=
       ⟨⟨dx2,o2⟩,⟨_,o3,(jr.imp fun _ _ _ _ z=>z.stp S1).put pl ⟨tt,rfl,o1,rt⟩⟩,r1,r2⟩
      have x1:=x.scr (s':={ sc with prom:=l.num,row:=aJ sc.row pl (l.num,sy) }) e1 S1 n1;have L1:=L.stp (α':=α) S1 (fun r hr z=>by rcases z with rfl | rfl<;>exact hr) (fun _ _=>rfl);obtain ⟨dxb,ob1⟩:=x1.ob;obtain ⟨⟨dx4,obl1⟩,_⟩:=id L1;obtain ⟨us,ow,jw⟩:=x1.wl;have hus:=Paired.length jw;have hwb:=wf.bd.w;refine ⟨_,c.h,dxb,_,_,rfl,ob1,TH.cl,TH.n5,lM _ _ _ _ _,?_⟩;refine ⟨.inl ⟨rfl,_,a9.of ow⟩,?_⟩;refine ⟨_,c.l,dx4,_,_,rfl,obl1,TL.cl,TL.n1,k8 _ _ _ _ _ _,?_⟩;refine ⟨by show 4<=sizeLine; decide,fun t2 ht2=>?_⟩;have S2:Stp (fun _=>False) H1 ρ (aA H1 t2 (.tup [.int l.num,.int other,.int pl,.str sy])) ρ:=nT ht2;have x2:=x1.stp S2;have L2:=L1.stp (α':=α) S2 (fun _ _ z=>z) (fun _ _=>rfl);have ow2:(aA H1 t2 (.tup [.int l.num,.int other,.int pl,.str sy])) (α .wl)=some (.lst us):=(ag (ai ow ht2)).trans ow;have rt2:ρ t2=none:=x1.nr t2 ht2;obtain ⟨x3,S3⟩:=x2.wrote (w:=(l.num,other,pl,sy)) ow2 upd_same rt2;have L3:=L2.stp (α':=α) S3 (fun r hr z=>by rcases z with rfl | rfl | rfl<;>exact hr) (fun _ _=>rfl);refine ⟨_,us,.ref t2,rfl,rfl,ow2,by have:us.length=A.wrs.length:=hus; rw [sizeLine_eq]; omega,?_⟩;generalize aA (aA H1 t2 (.tup [.int l.num,.int other,.int pl,.str sy])) (α .wl) (.lst (us++[.ref t2]))=H3 at x3 S3 L3 ⊢;obtain ⟨⟨dx6,obl3⟩,_⟩:=id L3;have bl:=wf.bd.k _ ml;have wl:=wf.le _ ml;refine ⟨_,dx6,_,rfl,obl3,l9 _ _ _ _ _ _,?_⟩;refine ⟨α,ρ,A.cnt,own,l,other,pl,rfl,L3,x3.nr,Nat.lt_of_le_of_lt bl.h (by omega),(fun p hp=>Nat.lt_of_le_of_lt (bl.i p hp) (by omega)),wl.hn,fun H' α' ρ' L4 S4 e5 e6=>?_⟩;have x4:=x3.leadC (show ay A.leads own=some l from z1) S4 e5 e6 L4;have e:bV A own other pl=({ A with scrs:=A.scrs.set other.toNat { sc with prom:=l.num,row:=aJ sc.row pl (l.num,sy) },wrs:=A.wrs++[(l.num,other,pl,sy)],leads:=aJ A.leads own (ix l other pl) },.bl true):=by
       unfold bV; rw [z1]; simp only [y1,if_neg hs,e1,if_neg hge]
      exact k1 H' α' ρ' _ (by rw [e]; exact x4) (e5 _ (fun z=>z)) ((S1.any.two S2.any).two (S3.any.two S4.any)) (by rw [e]; rfl)
theorem fW (NB:NBs mg) (TL:TxL K c.l) (O_is_most:L2.Own P w K mg base "is_most" 1 ["count","many"] qE) (D:MethAt K c.l "settled_pairs" "Lead.settled_pairs" bX ["self"]):OwnM P w K mg base c.l "settled_pairs" 2 ["self"] (lw c):=by
 refine D.own dM (fun vs H Q E h=>?_) (fun f cdv A outer s H vs Q E hr h=>?_)
 ·obtain ⟨α,ρ,cnt,k,l,rfl,_⟩:=h; rfl
 ·obtain ⟨α,ρ,cnt,k,l,rfl,L,nr,h64,hnd,hsd,q⟩:=h
  have hu:=bM hr;have nd:=dM.nd;refine ⟨_,(ad (lE nd 1 (tgs:=["place"]) (fr:=[0]) (cP (aG lR (by rfl) NB.sorted ju (ac (aO (nv 0) rfl) aj))) (dz (tt:=some _) (fun _ _ _ _=>(dv 0)) (fun _ _ _ _=>(bn (a_ O_is_most hr rfl (ac (iA (K:=K) (nv 1) rfl) (ac (aG (uH (K:=K)) (by rfl) NB.len cK (ac (ax (yc (K:=K) hu) (iA (K:=K) (nv 1) rfl) (nv 0) (fun _ _=>rfl)) aj)) aj))))) (fun _ _ _ _=>(nv 0))))
 (aq (az (fN (tgs:=["place"]) (fr:=[0]) (cP (nv 1)) (dz (tt:=none) (fun _ _ _ _=>(dv 0)) (fun _ _ _ _=>True.intro) (fun _ _ _ _=>(cf (ac (nv 0) (ac (ax (yc (K:=K) hu) (iA (K:=K) (nv 1) rfl) (nv 0) (fun _ _=>rfl)) aj))))))))),?_⟩
  obtain ⟨⟨dx,ob⟩,_,⟨ks,osd,js⟩,⟨kh,oh,jh⟩,_⟩:=id L;refine ⟨_,c.l,dx,_,_,rfl,ob,TL.cl,TL.n6,n_ _ _ _ _ _ _,?_⟩;refine ⟨_,rfl,l.hands.map (·.1),kh,.inl oh,by rw [jh.keys],by rw [List.length_map]; exact h64,fun ns hp hs p hpn=>?_⟩;have eS:=kW hp hs;have s1:=au (o:=.lst (ns.map V.int)) hpn;have inN:∀ i∈ns,∃ h,ay l.hands i=some h:=fun i hi=>by
   cases e:ay l.hands i with
   | some h=>exact ⟨h,rfl⟩
   | none=>exact absurd (hp.mem_iff.mp hi) (cz.mp e)
  refine ⟨p,rfl,⟨_,a9.of upd_same⟩,fun D1 hD1=>?_⟩;have nsl:ns.length < 64:=by rw [hp.length_eq,List.length_map]; exact h64
  generalize hG:aA H p (.lst (ns.map V.int))=G at s1 hD1 ⊢;have gp:G p=some (.lst (ns.map V.int)):=by rw [<- hG]; exact upd_same
  refine dP (xs:=ns.map V.int) (fun i ys H1=>ys=((ns.take i).filter fun pl=>c_ cnt ((ay l.hands pl).getD []).length).map V.int/\H1 D1=some (.lst ys)/\aV G H1) ⟨rfl,upd_same,au hD1⟩ (fun i ys H1 _ ⟨_,_,sm⟩=>a9.of (sm _ _ gp)) ?_ ?_
  ·rintro i v ys H1 hv hi ⟨rfl,hD,sm⟩
   have hi':i < ns.length:=by rw [List.length_map] at hi; exact hi
   rw [List.getElem?_map,List.getElem?_eq_getElem hi'] at hv;cases hv;have et:ns.take (i+1)=ns.take i++[ns[i]]:=by rw [List.take_succ_eq_append_getElem hi']
   obtain ⟨hs2,hg⟩:=inN ns[i] (List.getElem_mem hi');generalize ns[i]=pl at *;have s2:=s1.trans sm;obtain ⟨vv,y1,y2,y3,y4⟩:=jh.some hg;subst y2;have gk:=cJ.k (k:=Sum.inl pl) (s2 _ _ oh);rw [y1] at gk;refine ⟨(Wk.refl _).set rfl,?_⟩;refine ⟨_,c.l,dx,_,_,rfl,s2 _ _ ob,TL.cl,TL.n2,sQ _ _ _ _ _ _,_,c.l,dx,_,_,rfl,s2 _ _ ob,TL.cl,TL.n6,n_ _ _ _ _ _ _,?_⟩;refine ⟨_,.dct gk,_,.inr ⟨_,s2 _ _ y4,rfl⟩,?_⟩;refine ⟨cnt,_,rfl,_,rfl,?_⟩;rw [oa];have em:((ns.take (i+1)).filter fun pl=>c_ cnt ((ay l.hands pl).getD []).length)=((ns.take i).filter fun pl=>c_ cnt ((ay l.hands pl).getD []).length)++(if c_ cnt hs2.length=true then [pl] else []):=by
    rw [et,List.filter_append]
    congr 1
    rw [List.filter_cons,hg];show (if c_ cnt hs2.length=true then pl :: List.filter _ [] else List.filter _ [])=_;split<;>rfl
   have ll:(((ns.take i).filter fun pl=>c_ cnt ((ay l.hands pl).getD []).length).map V.int).length < sizeLine:=by
    rw [List.length_map];have:=List.length_filter_le (fun pl=>c_ cnt ((ay l.hands pl).getD []).length) (ns.take i);rw [List.length_take] at this;rw [sizeLine_eq]; omega
   by_cases hm:c_ cnt hs2.length=true
   ·refine wR hm ?_
    refine ⟨hD,ll,gK hi ⟨?_,upd_same,fun b u e=>?_⟩⟩
    ·rw [em,if_pos hm,List.map_append]; rfl
    ·rw [ag (ai e hD1)]; exact sm b u e
   ·refine rP hm ?_
    exact gK hi ⟨by rw [em,if_neg hm,List.append_nil],hD,sm⟩
  ·rintro ys H1 ⟨rfl,hD,sm⟩
   rw [List.length_map,List.take_length] at hD;have s2:=s1.trans sm;refine ⟨D1,rfl,⟨_,a9.of hD⟩,fun D2 hD2=>?_⟩;have nr2:H D2=none:=by
    cases e:H D2 with
    | none=>rfl
    | some u=>rw [s2 _ _ e] at hD2; cases hD2
   generalize hF:(ns.filter fun pl=>c_ cnt ((ay l.hands pl).getD []).length)=fs at hD ⊢;have fsn:∀ i∈fs,i∈ns:=fun i hi=>by rw [<- hF] at hi; exact (List.mem_filter.mp hi).1
   have fl:fs.length<=ns.length:=by rw [<- hF]; exact List.length_filter_le ..
   refine dP (xs:=fs.map V.int) (fun i ys H2=>Paired (fun u (q:Int×Str)=>∃ a,u=V.ref a/\H2 a=some (.tup [.int q.1,.str q.2])/\H a=none) ys ((fs.take i).map fun pl=>(pl,(ay l.said pl).getD ""))/\H2 D2=some (.lst ys)/\aV H1 H2) ⟨.nil,upd_same,au hD2⟩ (fun i ys H2 _ ⟨_,_,sm⟩=>a9.of (sm _ _ hD)) ?_ ?_
   ·rintro i v ys H2 hv hi ⟨pr,hE,sm2⟩
    have hi':i < fs.length:=by rw [List.length_map] at hi; exact hi
    rw [List.getElem?_map,List.getElem?_eq_getElem hi'] at hv;cases hv;have et:fs.take (i+1)=fs.take i++[fs[i]]:=by rw [List.take_succ_eq_append_getElem hi']
    have hin:=fsn fs[i] (List.getElem_mem hi');generalize fs[i]=pl at *;obtain ⟨hs2,hg⟩:=inN pl hin;have s3:=s2.trans sm2;obtain ⟨sy,hsy⟩:=Option.isSome_iff_exists.mp (hsd _ (bj hg));obtain ⟨vv,y1,y2⟩:=js.some hsy;subst y2;have gk:=cJ.k (k:=Sum.inl pl) (s3 _ _ osd);rw [y1] at gk;refine ⟨(Wk.refl _).set rfl,?_⟩;rw [cR,if_pos rfl];refine ⟨_,c.l,dx,_,_,rfl,s3 _ _ ob,TL.cl,TL.n5,i_ _ _ _ _ _ _,_,.dct gk,?_⟩;refine ⟨by show 2<=sizeLine; decide,fun t ht=>?_⟩;have ht0:H t=none:=by
     cases e:H t with
     | none=>rfl
     | some u=>rw [s3 _ _ e] at ht; cases ht
    have sm3:=au (o:=.tup [.int pl,.str sy]) ht;have lp:=Paired.length pr;rw [List.length_map,List.length_take] at lp;refine ⟨sm3 _ _ hE,by rw [sizeLine_eq]; omega,gK hi ⟨?_,upd_same,fun b u e=>?_⟩⟩
    ·rw [et,List.map_append]
     have tD:t≠D2:=fun z=>by rw [z,hE] at ht; cases ht
     refine Paired.snoc (Paired.mapP pr fun u q ⟨a,e1,e2,e3⟩=>⟨a,e1,?_,e3⟩) ⟨t,rfl,?_,ht0⟩
     ·have:=sm3 _ _ e2
      rw [ag (gL this (sm3 _ _ hE) (fun z=>nomatch z))]; exact this
     ·rw [ag tD,upd_same]
      show some (HO.tup [.int pl,.str sy])=some (.tup [.int pl,.str ((ay l.said pl).getD "")]);rw [show ay l.said pl=some sy from hsy]; rfl
    ·rw [ag (ai e hD2)]; exact sm3 _ _ (sm2 b u e)
   ·rintro ys H2 ⟨pr,hE,sm2⟩
    rw [List.length_map,List.take_length] at pr;refine q H2 _ ⟨D2,ys,rfl,hE,nr D2 nr2,?_⟩ (kR (s2.trans sm2));unfold iD;rw [eS,hF];exact Paired.mapP pr fun u q ⟨a,e1,e2,e3⟩=>⟨a,e1,e2,nr a e3⟩
theorem fX (TH:TxH K c.h) (TL:TxL K c.l) (O_Hall_check:OwnMX P w K mg base c.h "check" 1 ["self","number"] (fe c N)) (O_Lead_settled_pairs:OwnM P w K mg base c.l "settled_pairs" 2 ["self"] (lw c)) (D:MethAt K c.h "known_settled" "Hall.known_settled" bY ["self","own"]):OwnMX P w K mg base c.h "known_settled" 3 ["self","own"] (lx c N):=by
 refine D.ownX gb (fun vs H Q E h=>?_) (fun f cdv A outer s H vs Q E hr h=>?_)
 ·obtain ⟨own,α,ρ,A,n,PL,rfl,_⟩:=h; rfl
 ·obtain ⟨own,α,ρ,A,n,PL,rfl,x,wf,hn,k1,k2⟩:=h
  have hu:=bM hr;refine ⟨_,(ad (a5 (bK (E:=E) (nv 0) TH.cl O_Hall_check d9 hr (ac (nv 1) aj)))
 (ad (aQ (aF (cT hr) (nv 1) (aO (nv 0) rfl) (by with_unfolding_all rfl)) (aq (az (bx aj))) aC)
 (aq (az (k6 (ax (ba hu) (aO (nv 0) rfl) (nv 1) (fun _ _=>rfl)) TL.cl O_Lead_settled_pairs hr))))),?_⟩
  obtain ⟨dx,ob⟩:=x.ob;refine ⟨_,dx,_,rfl,ob,cu _ _ _ _ _,?_⟩;refine ⟨_,dx,own,A.cnt,_,_,_,_,rfl,ob,fun hi=>?_,fun hi=>k2 ⟨own,by simp,hi⟩⟩;have hi:aW A own=true:=hi;have k1:=k1 (fun i h=>by simp at h; rw [h]; exact hi);dsimp only at k1;obtain ⟨kl,ol,jl⟩:=x.leadAt own;have gl:=cJ.k (k:=Sum.inl own) ol;refine ⟨_,c.h,dx,_,_,rfl,ob,TH.cl,TH.n3,cQ _ _ _ _ _,_,.dct gl,_,rfl,?_⟩;rcases jl with ⟨z1,z2⟩ | ⟨l,z1,z2,L⟩
  ·rw [z2]
   refine bH ?_;refine ⟨by show 0<=sizeLine; decide,fun D0 hD0=>?_⟩;have e:cZ A own=.prs []:=by unfold cZ; rw [z1]
   have S:Stp (fun _=>False) H ρ (aA H D0 (.lst [])) ρ:=nT hD0;refine k1 _ α ρ _ (x.stp S) rfl S.any ?_;show jW _ _ _ (cZ A own);rw [e];exact ⟨D0,[],rfl,upd_same,x.nr _ hD0,.nil⟩
  ·rw [z2] at gl ⊢
   refine bU ?_;obtain ⟨⟨dx3,obl⟩,_⟩:=id L;have ml:=bj z1;have wl:=wf.le _ ml;refine ⟨_,c.h,dx,_,_,rfl,ob,TH.cl,TH.n3,cQ _ _ _ _ _,_,.dct gl,?_⟩;refine ⟨_,dx3,_,rfl,obl,ij _ _ _ _ _ _,?_⟩;refine ⟨α,ρ,A.cnt,own,l,rfl,L,x.nr,qo wl wf.pl,wl.hn,wl.hs,fun H' v av S=>?_⟩;have e:cZ A own=.prs (iD A.cnt l):=by unfold cZ; rw [z1]
   exact k1 H' α ρ v (x.stp S) rfl S.any (by show jW _ _ _ (cZ A own); rw [e]; exact av)
end
section
variable {P:Program}{w:World}{K:Frag}{mg:Str->Option Value}{base:Heap}{c:Cs}{N:Addr}
theorem v3 (TH:TxH K c.h) (O_Hall_rise:OwnMX P w K mg base c.h "rise" 3 ["self","own"] (sj c N)) (O_Hall_ask:OwnMX P w K mg base c.h "ask" 4 ["self","own","other"] (vd c N)) (O_Hall_say:OwnMX P w K mg base c.h "say" 3 ["self","own","saying"] (vc c N)) (O_Hall_have_write:OwnMX P w K mg base c.h "have_write" 3 ["self","own","other","place"] (pB c N))
  (O_Hall_known_settled:OwnMX P w K mg base c.h "known_settled" 3 ["self","own"] (lx c N)) (O_Hall_be_stopped:OwnMX P w K mg base c.h "be_stopped" 2 ["self","own"] (si c N)) (O_Hall_come_up:OwnMX P w K mg base c.h "come_up" 2 ["self","own"] (sg c N)) (D:DefAt K mg "done" kL ["hall","deed"]):OwnX P w K mg base "done" 5 ["hall","deed"] (vf c N):=by
 refine D.ownX sD (fun vs H Q E h=>?_) (fun f cdv A outer s H vs Q E hr h=>?_)
 ·obtain ⟨α,ρ,A,n,PL,t,d,rfl,_⟩:=h; rfl
 ·obtain ⟨α,ρ,A,n,PL,t,d,rfl,x,wf,hn,ht,k1,k2⟩:=h
  have hu:=bM hr;have nd:=sD.nd;refine ⟨_,(ad (aH nd 2 (ax (ba hu) (nv 1) ao (fun _ _=>rfl)))
 (ad (aQ (aF (bt hr) (nv 2) aB (aK _)) (aq (az (bK (E:=E) (nv 0) TH.cl O_Hall_rise d9 hr (ac (ax (ba hu) (nv 1) ao (fun _ _=>rfl)) aj)))) aC)
 (ad (aQ (aF (bt hr) (nv 2) aB (aK _)) (aq (az (bK (E:=E) (nv 0) TH.cl O_Hall_ask d9 hr (ac (ax (ba hu) (nv 1) ao (fun _ _=>rfl)) (ac (ax (ba hu) (nv 1) ao (fun _ _=>rfl)) aj))))) aC)
 (ad (aQ (aF (bt hr) (nv 2) aB (aK _)) (aq (az (bK (E:=E) (nv 0) TH.cl O_Hall_say d9 hr (ac (ax (ba hu) (nv 1) ao (fun _ _=>rfl)) (ac (ax (ba hu) (nv 1) ao (fun _ _=>rfl)) aj))))) aC)
 (ad (aQ (aF (bt hr) (nv 2) aB (aK _)) (aq (az (bK (E:=E) (nv 0) TH.cl O_Hall_have_write d9 hr (ac (ax (ba hu) (nv 1) ao (fun _ _=>rfl)) (ac (ax (ba hu) (nv 1) ao (fun _ _=>rfl)) (ac (ax (ba hu) (nv 1) ao (fun _ _=>rfl)) aj)))))) aC)
 (ad (aQ (aF (bt hr) (nv 2) aB (aK _)) (aq (az (bK (E:=E) (nv 0) TH.cl O_Hall_known_settled d9 hr (ac (ax (ba hu) (nv 1) ao (fun _ _=>rfl)) aj)))) aC)
 (ad (aQ (aF (bt hr) (nv 2) aB (aK _)) (aq (az (bK (E:=E) (nv 0) TH.cl O_Hall_be_stopped d9 hr (ac (ax (ba hu) (nv 1) ao (fun _ _=>rfl)) aj)))) aC)
 (aq (az (bK (E:=E) (nv 0) TH.cl O_Hall_come_up d9 hr (ac (ax (ba hu) (nv 1) ao (fun _ _=>rfl)) aj))))))))))),?_⟩
  obtain ⟨dx,ob⟩:=x.ob;have sk:∀ {a b:Str},a≠b->¬ (V.str a=V.str b):=fun h z=>h (V.str.inj z);cases d with
  | rise o =>
   refine ⟨_,.tup (bu.of ht) (fK _ _),_,.scal rfl,_,rfl,cD rfl ?_⟩;refine ⟨_,dx,_,rfl,ob,uv _ _ _ _ _,_,.tup (bu.of ht) (qu _ _ _),?_⟩;refine ⟨o,α,ρ,A,n,PL,rfl,x,wf,hn,fun hc H' α' ρ' v x' e S av=>?_,k2⟩;have es:step A (.rise o)=eN A o:=if_pos (hc o (by simp));exact k1 hc H' α' ρ' v (by rw [es]; exact x') e S (by rw [es]; exact av)
  | ask o p =>
   refine ⟨_,.tup (bu.of ht) (fK _ _),_,.scal rfl,_,rfl,bv (sk jM) ?_⟩;refine ⟨_,.scal rfl,_,rfl,cD rfl ?_⟩;refine ⟨_,dx,_,rfl,ob,wm _ _ _ _ _,_,.tup (bu.of ht) (qu _ _ _),_,.tup (bu.of ht) (wG _ _ _ _),?_⟩;refine ⟨o,p,α,ρ,A,n,PL,rfl,x,wf,hn,fun hc H' α' ρ' v x' e S av=>?_,k2⟩;have es:step A (.ask o p)=fy A o p:=(if_pos (hc o (by simp))).trans (if_pos (hc p (by simp)));exact k1 hc H' α' ρ' v (by rw [es]; exact x') e S (by rw [es]; exact av)
  | say o sy =>
   refine ⟨_,.tup (bu.of ht) (fK _ _),_,.scal rfl,_,rfl,bv (sk jL) ?_⟩;refine ⟨_,.scal rfl,_,rfl,bv (sk lI) ?_⟩;refine ⟨_,.scal rfl,_,rfl,cD rfl ?_⟩;refine ⟨_,dx,_,rfl,ob,wk _ _ _ _ _,_,.tup (bu.of ht) (qu _ _ _),_,.tup (bu.of ht) (wG _ _ _ _),?_⟩;refine ⟨o,sy,α,ρ,A,n,PL,rfl,x,wf,hn,fun hc H' α' ρ' v x' e S av=>?_,k2⟩;have es:step A (.say o sy)=f_ A o sy:=if_pos (hc o (by simp));exact k1 hc H' α' ρ' v (by rw [es]; exact x') e S (by rw [es]; exact av)
  | write o p pl =>
   refine ⟨_,.tup (bu.of ht) (fK _ _),_,.scal rfl,_,rfl,bv (sk gT) ?_⟩;refine ⟨_,.scal rfl,_,rfl,bv (sk fU) ?_⟩;refine ⟨_,.scal rfl,_,rfl,bv (sk iT) ?_⟩;refine ⟨_,.scal rfl,_,rfl,cD rfl ?_⟩;refine ⟨_,dx,_,rfl,ob,j9 _ _ _ _ _,_,.tup (bu.of ht) (qu _ _ _),_,.tup (bu.of ht) (wG _ _ _ _),_,.tup (bu.of ht) (zw _ _ _ _ _),?_⟩;refine ⟨o,p,pl,α,ρ,A,n,PL,rfl,x,wf,hn,fun hc H' α' ρ' v x' e S av=>?_,k2⟩;have es:step A (.write o p pl)=bV A o p pl:=(if_pos (hc o (by simp))).trans (if_pos (hc p (by simp)));exact k1 hc H' α' ρ' v (by rw [es]; exact x') e S (by rw [es]; exact av)
  | settled o =>
   refine ⟨_,.tup (bu.of ht) (fK _ _),_,.scal rfl,_,rfl,bv (sk j7) ?_⟩;refine ⟨_,.scal rfl,_,rfl,bv (sk l8) ?_⟩;refine ⟨_,.scal rfl,_,rfl,bv (sk l7) ?_⟩;refine ⟨_,.scal rfl,_,rfl,bv (sk jA) ?_⟩;refine ⟨_,.scal rfl,_,rfl,cD rfl ?_⟩;refine ⟨_,dx,_,rfl,ob,ik _ _ _ _ _,_,.tup (bu.of ht) (qu _ _ _),?_⟩;refine ⟨o,α,ρ,A,n,PL,rfl,x,wf,hn,fun hc H' α' ρ' v x' e S av=>?_,k2⟩;have es:step A (.settled o)=(A,cZ A o):=if_pos (hc o (by simp));exact k1 hc H' α' ρ' v (by rw [es]; exact x') e S (by rw [es]; exact av)
  | stop o =>
   refine ⟨_,.tup (bu.of ht) (fK _ _),_,.scal rfl,_,rfl,bv (sk oJ) ?_⟩;refine ⟨_,.scal rfl,_,rfl,bv (sk qd) ?_⟩;refine ⟨_,.scal rfl,_,rfl,bv (sk qc) ?_⟩;refine ⟨_,.scal rfl,_,rfl,bv (sk my) ?_⟩;refine ⟨_,.scal rfl,_,rfl,bv (sk j6) ?_⟩;refine ⟨_,.scal rfl,_,rfl,cD rfl ?_⟩;refine ⟨_,dx,_,rfl,ob,j_ _ _ _ _ _,_,.tup (bu.of ht) (qu _ _ _),?_⟩;refine ⟨o,α,ρ,A,n,PL,rfl,x,wf,hn,fun hc H' α' ρ' v x' e S av=>?_,k2⟩;have es:step A (.stop o)=d8 A o:=if_pos (hc o (by simp));exact k1 hc H' α' ρ' v (by rw [es]; exact x') e S (by rw [es]; exact av)
  | wake o =>
   refine ⟨_,.tup (bu.of ht) (fK _ _),_,.scal rfl,_,rfl,bv (sk oH) ?_⟩;refine ⟨_,.scal rfl,_,rfl,bv (sk qb) ?_⟩;refine ⟨_,.scal rfl,_,rfl,bv (sk qa) ?_⟩;refine ⟨_,.scal rfl,_,rfl,bv (sk mw) ?_⟩;refine ⟨_,.scal rfl,_,rfl,bv (sk j4) ?_⟩;refine ⟨_,.scal rfl,_,rfl,bv (sk fV) ?_⟩;refine ⟨_,dx,_,rfl,ob,oU _ _ _ _ _,_,.tup (bu.of ht) (qu _ _ _),?_⟩;refine ⟨o,α,ρ,A,n,PL,rfl,x,wf,hn,fun hc H' α' ρ' v x' e S av=>?_,k2⟩;have es:step A (.wake o)=eV A o:=if_pos (hc o (by simp));exact k1 hc H' α' ρ' v (by rw [es]; exact x') e S (by rw [es]; exact av)
theorem mj (XN:TxN K mg "NoScribe" N) (O_done:OwnX P w K mg base "done" 5 ["hall","deed"] (vf c N)) (D:DefAt K mg "answer_to" dZ ["hall","deed"]):L2.Own P w K mg base "answer_to" 6 ["hall","deed"] (kU c):=by
 refine D.own oy (fun vs H Q E h=>?_) (fun f cdv A outer s H vs Q E hr h=>?_)
 ·obtain ⟨α,ρ,A,n,PL,t,d,rfl,_⟩:=h; rfl
 ·obtain ⟨α,ρ,A,n,PL,t,d,rfl,x,wf,hn,ht,k⟩:=h
  refine ⟨_,(aq (yJ XN.mg XN.ex rfl rfl (fun pn xe E hp=>(aq (az (w_ O_done hp hr rfl (ac (nv 0) (ac (nv 1) aj)))))) (fun e=>(aq (az aB))))),?_⟩;refine ⟨α,ρ,A,n,PL,t,d,rfl,x,wf,hn,ht,fun _=>k,fun hc=>⟨rfl,fun σ _=>?_⟩⟩;have e:=vD hc;exact k H α ρ _ (by rw [e]; exact x) rfl .refl (by rw [e]; rfl)
theorem v5 (NB:NBs mg) (TH:TxH K c.h) (O_Scribe:OwnC P w K mg base c.s "Scribe" 1 ["self","own","count"] (rY c.s)) (D:CtorAt K mg c.h "Hall" "Hall.__init__" fm ["self","count"]):OwnC P w K mg base c.h "Hall" 3 ["self","count"] (nV c):=by
 refine D.own oB (fun vs H Q E h=>?_) (fun f cdv A outer s H vs Q E hr h=>?_)
 ·obtain ⟨p,dx,n,rfl,_⟩:=h; rfl
 ·obtain ⟨p,dx,n,rfl,hp,hn,q⟩:=h
  refine ⟨_,(ad (ce (nv 0) (nv 1) rfl)
 (ad (ce (nv 0) (fN (tgs:=["own"]) (fr:=[1]) (cy rfl NB.range (ac (nv 1) aj)) (dz (tt:=none) (fun _ _ _ _=>(dv 0)) (fun _ _ _ _=>True.intro) (fun _ _ _ _=>(iH O_Scribe hr rfl (ac (nv 0) (ac (nv 1) aj)))))) rfl)
 (ad (ce (nv 0) cM rfl)
 (ad (ce (nv 0) cM rfl)
 (aq (ce (nv 0) (bx aj) rfl)))))),?_⟩
  have L0:([]:List (Str×V)).length<=0:=Nat.le_refl _;have L1:=tG (f:="count") (v:=.int n) L0;refine ⟨p,c.h,dx,_,rfl,hp,TH.cl,TH.n1,by decide,?_⟩;refine ⟨_,rfl,by omega,by omega,fun D hD=>?_⟩;have hp1:(aA H p (.ins c.h dx (b6 "count" (.int n) []))) p=_:=upd_same;have kpH:∀ b u,H b=some u->b≠p->(aA H p (.ins c.h dx (b6 "count" (.int n) []))) b=some u:=fun b u e hb=>by rw [ag hb]; exact e
  generalize aA H p (.ins c.h dx (b6 "count" (.int n) []))=H1 at hp1 kpH hD ⊢;have pD:=ai hp1 hD;refine lP (fun i ys H2=>∃ α ρ,Mkg c H1 p D (.ins c.h dx (b6 "count" (.int n) [])) n i H2 α ρ/\ys=(List.range i).map fun j=>.ref (α (.scr j))) ⟨_,_,Bi hp1 hD,rfl⟩ ?_ ?_
  ·rintro i ys H2 hi ⟨α,ρ,m,rfl⟩
   have hi':i < n:=by simpa using hi
   refine ⟨(Wk.refl _).set rfl,?_⟩;rw [cR,if_pos rfl];intro a da ha hda hne;have ka:∀ b u,H2 b=some u->(aA (aA H2 da (.own a)) a (.ins c.s da [])) b=some u/\b≠a:=fun b u e=>⟨by rw [ag (ai e ha),ag (ai e hda)]; exact e,ai e ha⟩;refine ⟨a,da,_,_,rfl,upd_same,fun r H3 hr o1 o2 kp=>⟨rfl,?_⟩⟩;have ra:r≠a:=fun z=>by rw [z,upd_same] at hr; cases hr
   have r0:H2 r=none:=by
    rw [ag ra] at hr;have z:r≠da:=fun z=>by rw [z,upd_same] at hr; cases hr
    rw [ag z] at hr; exact hr
   have sm:aV H2 H3:=fun b u e=>kp b u (ka b u e).1 (ka b u e).2;have o1':H3 a=some (.ins c.s da (sF (.int (i:Nat)) (.int n) (.int (-1)) r (.int (-1)))):=by rw [Int.zero_add] at o1; exact o1
   have m2:=m.more ha r0 (Ne.symm ra) o1' o2 sm;refine ⟨sm _ _ m.hD,by rw [List.length_map,List.length_range,sizeLine_eq]; omega,gK hi ⟨_,_,m2,?_⟩⟩;have e:=m2.hD;rw [upd_same] at e;exact HO.lst.inj (Option.some.inj e)
  ·rintro ys H2 ⟨α,ρ,m,rfl⟩
   have m:Mkg c H1 p D (.ins c.h dx (b6 "count" (.int n) [])) n n H2 α ρ:=by simpa using m
   have L2:=tG (f:="scribes") (v:=.ref D) L1;refine ⟨p,c.h,dx,_,rfl,m.ho,TH.cl,TH.n2,by omega,?_⟩;intro a1 h1;have L3:=tG (f:="leads") (v:=.ref a1) L2;have p1:a1≠p:=fun z=>by rw [z,upd_same] at h1; cases h1
   have n1:H2 a1=none:=by rw [ag p1] at h1; exact h1
   refine ⟨p,c.h,dx,_,rfl,(ag (Ne.symm p1)).trans upd_same,TH.cl,TH.n3,by omega,?_⟩;intro a2 h2;have L4:=tG (f:="stopped") (v:=.ref a2) L3;have p2:a2≠p:=fun z=>by rw [z,upd_same] at h2; cases h2
   rw [ag p2] at h2;have d12:a1≠a2:=fun z=>by rw [<- z,upd_same] at h2; cases h2
   have n2:H2 a2=none:=by rw [ag (Ne.symm d12),ag p2] at h2; exact h2
   refine ⟨p,c.h,dx,_,rfl,(ag (Ne.symm p2)).trans upd_same,TH.cl,TH.n4,by omega,?_⟩;refine ⟨by show 0<=sizeLine; decide,fun a3 h3=>?_⟩;have p3:a3≠p:=fun z=>by rw [z,upd_same] at h3; cases h3
   rw [ag p3] at h3;have d23:a2≠a3:=fun z=>by rw [<- z,upd_same] at h3; cases h3
   rw [ag (Ne.symm d23),ag p3] at h3;have d13:a1≠a3:=fun z=>by rw [<- z,upd_same] at h3; cases h3
   have n3:H2 a3=none:=by rw [ag (Ne.symm d13),ag p3] at h3; exact h3
   refine ⟨p,c.h,dx,_,rfl,(ag (Ne.symm p3)).trans upd_same,TH.cl,TH.n5,by omega,?_⟩;rw [ze];have key:∀ HF:Hp,HF p=some (.ins c.h dx (hF (.int n) D a1 a2 a3))->HF a1=some (.dK [])->HF a2=some (.dK [])->HF a3=some (.lst [])->(∀ b u,H2 b=some u->b≠p->HF b=some u)->Q .non HF:=fun HF o0 o1 o2 o3 k=>by
    obtain ⟨α',ρ',eh,x,kp⟩:=m.hall (dx:=dx) n1 n2 n3 d12 d13 d23 o0 o1 o2 o3 k;exact q _ α' ρ' eh x fun b u e hb=>kp b u (kpH b u e hb) hb
   refine key _ upd_same ?_ ?_ ?_ fun b u e hb=>?_
   ·rw [ag p1,ag d13,ag p1,ag d12,ag p1,upd_same]
   ·rw [ag p2,ag d23,ag p2,upd_same]
   ·rw [ag p3,upd_same]
   ·rw [ag hb,ag (ai e n3),ag hb,ag (ai e n2),ag hb,ag (ai e n1),ag hb]; exact e
end
section
variable {P:Program}{w:World}{K:Frag}{mg:Str->Option Value}{base:Heap}{c:Cs}{N:Addr}
theorem lX (O_Hall:OwnC P w K mg base c.h "Hall" 3 ["self","count"] (nV c)) (O_answer_to:L2.Own P w K mg base "answer_to" 6 ["hall","deed"] (kU c)) (D:DefAt K mg "hall_after" dB ["count","deeds"]):L2.Own P w K mg base "hall_after" 7 ["count","deeds"] (fg c):=by
 refine D.own gP (fun vs H Q E h=>?_) (fun f cdv A outer s H vs Q E hr h=>?_)
 ·obtain ⟨n,l,ds,PL,us,rfl,_⟩:=h; rfl
 ·obtain ⟨n,l,ds,PL,us,rfl,T,q⟩:=h
  have nd:=gP.nd;refine ⟨_,(ad (aH nd 2 (iH O_Hall hr rfl (ac (nv 0) aj)))
 (ad (cq PassesOwn.never rfl (cP (nv 1)) (bi nd 3) (aq (a5 (a_ O_answer_to hr rfl (ac (nv 2) (ac (nv 3) aj))))))
 (aq (az (nv 2))))),?_⟩
  intro p dp hp hdp hne;have ka:∀ b u,H b=some u->(aA (aA H dp (.own p)) p (.ins c.h dp [])) b=some u/\b≠p:=fun b u e=>⟨by rw [ag (ai e hp),ag (ai e hdp)]; exact e,ai e hp⟩;refine ⟨p,dp,n,rfl,upd_same,by have:=T.n1; omega,fun H1 α ρ ah x kp=>⟨rfl,?_⟩⟩;have kp:∀ b u,H b=some u->H1 b=some u/\ρ b=none:=fun b u e=>kp b u (ka b u e).1 (ka b u e).2;have lu:=Paired.length T.dd;refine ⟨l,rfl,⟨_,a9.of (kp _ _ T.hl).1⟩,?_⟩;refine fD (xs:=us) (fun i σ H2=>∃ o3 α ρ,σ=[some (.int n),some (.ref l),some (.ref p),o3]/\α .hall=p/\HallAt c H2 α ρ (di (init n) (ds.take i))/\∀ b u,H b=some u->H2 b=some u/\ρ b=none) ⟨_,α,ρ,rfl,ah,x,kp⟩ (fun i σ H2 _ ⟨_,_,_,_,_,_,kp⟩=>a9.of (kp _ _ T.hl).1) ?_ ?_
  ·rintro i v σ H2 hv ⟨o3,α,ρ,rfl,ah,x,kp⟩
   have hi:i < us.length:=(List.getElem?_eq_some_iff.mp hv).1;obtain ⟨d,hd,t,rfl,ht⟩:=bN T.dd hv;have et:ds.take (i+1)=ds.take i++[d]:=by
    have hi':i < ds.length:=by omega
    rw [List.take_succ_eq_append_getElem hi'];rw [List.getElem?_eq_getElem hi'] at hd;cases hd; rfl
   have wf:=nI (ke T.n0 T.pl) (ds.take i) fun d hd=>T.ok d (List.mem_of_mem_take hd);have hdl:=T.dl;have htl:(ds.take i).length<=396:=by rw [List.length_take]; omega
   refine ⟨α,ρ,_,_,PL,t,d,by rw [ah],x,wf,by omega,(kp _ _ ht).1,fun H3 α' ρ' v x' ah' S _=>?_⟩;refine ⟨_,α',ρ',rfl,ah'.trans ah,by rw [et,ji]; exact x',fun b u e=>?_⟩;obtain ⟨h1,h2⟩:=kp b u e;exact ⟨S.kp _ _ h1 (fun r hr=>by rw [h2] at hr; cases hr),(S.ro _ _ h1).trans h2⟩
  ·rintro σ H2 ⟨o3,α,ρ,rfl,ah,x,kp⟩
   rw [lu,List.take_length] at x;have:=q H2 α ρ x kp;rw [ah] at this;exact this
theorem p_ (O_Hall:OwnC P w K mg base c.h "Hall" 3 ["self","count"] (nV c)) (O_answer_to:L2.Own P w K mg base "answer_to" 6 ["hall","deed"] (kU c)) (D:DefAt K mg "answers" fH ["count","deeds"]):L2.Own P w K mg base "answers" 7 ["count","deeds"] jg:=by
 refine D.own lC (fun vs H Q E h=>?_) (fun f cdv A outer s H vs Q E hr h=>?_)
 ·obtain ⟨n,l,ds,PL,us,rfl,_⟩:=h; rfl
 ·obtain ⟨n,l,ds,PL,us,rfl,T,q⟩:=h
  have nd:=lC.nd;refine ⟨_,(ad (aH nd 2 (iH O_Hall hr rfl (ac (nv 0) aj)))
 (aq (az (fN (tgs:=["deed"]) (fr:=[2]) (cP (nv 1)) (dz (tt:=none) (fun _ _ _ _=>(dv 0)) (fun _ _ _ _=>True.intro) (fun _ _ _ _=>(a_ O_answer_to hr rfl (ac (nv 1) (ac (nv 0) aj))))))))),?_⟩
  intro p dp hp hdp hne;have ka:∀ b u,H b=some u->(aA (aA H dp (.own p)) p (.ins c.h dp [])) b=some u/\b≠p:=fun b u e=>⟨by rw [ag (ai e hp),ag (ai e hdp)]; exact e,ai e hp⟩;refine ⟨p,dp,n,rfl,upd_same,by have:=T.n1; omega,fun H1 α ρ ah x kp=>⟨rfl,?_⟩⟩;have kp:∀ b u,H b=some u->H1 b=some u/\ρ b=none:=fun b u e=>kp b u (ka b u e).1 (ka b u e).2;have lu:=Paired.length T.dd;refine ⟨l,rfl,⟨_,a9.of (kp _ _ T.hl).1⟩,fun D hD=>?_⟩;have hD0:H D=none:=by
   cases e:H D with
   | none=>rfl
   | some u=>rw [(kp _ _ e).1] at hD; cases hD
  have S0:Stp (fun _=>False) H1 ρ (aA H1 D (.lst [])) (dh ρ D .out):=kS _ hD;refine dP (xs:=us) (fun i ys H2=>∃ α ρ,α .hall=p/\HallAt c H2 α ρ (di (init n) (ds.take i))/\(∀ b u,H b=some u->H2 b=some u/\ρ b=none)/\ρ D=some .out/\H2 D=some (.lst ys)/\Paired (jW H2 ρ) ys (jV (init n) (ds.take i)))
   ⟨α,_,ah,x.stp S0,(fun b u e=>⟨by rw [ag (ai e hD0)]; exact (kp b u e).1,by rw [a7 (ai e hD0)]; exact (kp b u e).2⟩),bP,upd_same,.nil⟩ (fun i ys H2 _ ⟨_,_,_,_,kp,_⟩=>a9.of (kp _ _ T.hl).1) ?_ ?_
  ·rintro i v ys H2 hv hi ⟨α,ρ,ah,x,kp,rD,hE,pr⟩
   obtain ⟨d,hd,t,rfl,ht⟩:=bN T.dd hv;have et:ds.take (i+1)=ds.take i++[d]:=by
    have hi':i < ds.length:=by omega
    rw [List.take_succ_eq_append_getElem hi'];rw [List.getElem?_eq_getElem hi'] at hd;cases hd; rfl
   have wf:=nI (ke T.n0 T.pl) (ds.take i) fun d hd=>T.ok d (List.mem_of_mem_take hd);have hdl:=T.dl;have htl:(ds.take i).length<=396:=by rw [List.length_take]; omega
   have lp:=Paired.length pr;rw [lj] at lp;refine ⟨(Wk.refl _).set rfl,?_⟩;rw [cR,if_pos rfl];refine ⟨α,ρ,_,_,PL,t,d,by rw [ah],x,wf,by omega,(kp _ _ ht).1,fun H3 α' ρ' v x' ah' S av=>?_⟩;have hE3:H3 D=some (.lst ys):=S.kp _ _ hE (fun r hr z=>by rw [rD] at hr; cases hr; exact z rfl);have rD3:ρ' D=some .out:=(S.ro _ _ hE).trans rD;have S3:Stp (fun r=>r=.out) H3 ρ' (aA H3 D (.lst (ys++[v]))) ρ':=cr hE3 rD3 rfl;refine ⟨hE3,by rw [sizeLine_eq]; omega,gK hi ⟨α',ρ',ah'.trans ah,?_,fun b u e=>?_,rD3,upd_same,?_⟩⟩
   ·rw [et,ji]; exact x'.outer S3
   ·obtain ⟨h1,h2⟩:=kp b u e
    have h3:=S.kp _ _ h1 (fun r hr=>by rw [h2] at hr; cases hr);exact ⟨by rw [ag (ai e hD0)]; exact h3,(S.ro _ _ h1).trans h2⟩
   ·rw [et,ny]
    exact Paired.snoc (Paired.mapP pr fun _ _ z=>(z.stp S).stp S3) (av.stp S3)
  ·rintro ys H2 ⟨α,ρ,ah,x,kp,rD,hE,pr⟩
   rw [lu,List.take_length] at pr;exact q H2 D ys hD0 hE (Paired.mapP pr fun _ _ z=>z.w) fun b u e=>(kp b u e).1
theorem ie (TH:TxH K c.h) (TS:TxS K c.s) (O_hall_after:L2.Own P w K mg base "hall_after" 7 ["count","deeds"] (fg c)) (D:DefAt K mg "promised_after" cj ["count","deeds"]):L2.Own P w K mg base "promised_after" 8 ["count","deeds"] hX:=by
 refine D.own iY (fun vs H Q E h=>?_) (fun f cdv A outer s H vs Q E hr h=>?_)
 ·obtain ⟨n,l,ds,PL,us,rfl,_⟩:=h; rfl
 ·obtain ⟨n,l,ds,PL,us,rfl,T,q⟩:=h
  refine ⟨_,(aq (az (fN (tgs:=["scribe"]) (fr:=[]) (cP (aO (a_ O_hall_after hr rfl (ac (nv 0) (ac (nv 1) aj))) rfl)) (dz (tt:=none) (fun _ _ _ _=>(dv 0)) (fun _ _ _ _=>True.intro) (fun _ _ _ _=>(iA (K:=K) (nv 0) rfl)))))),?_⟩;refine ⟨n,l,ds,PL,us,rfl,T,fun H1 α ρ x kp=>?_⟩;generalize hR:di (init n) ds=R at x q;obtain ⟨dx,ob⟩:=x.ob;refine ⟨_,c.h,dx,_,_,rfl,ob,TH.cl,TH.n2,eJ _ _ _ _ _,?_⟩;refine ⟨_,rfl,⟨_,a9.of x.sl⟩,fun D hD=>?_⟩;have hD0:H D=none:=by
   cases e:H D with
   | none=>rfl
   | some u=>rw [(kp _ _ e).1] at hD; cases hD
  have hc:=x.ln;have wc:R.cnt=(n:Int):=by rw [<- hR,om]; rfl
  have hn1:=T.n1;refine dP (xs:=(List.range R.scrs.length).map fun i=>V.ref (α (.scr i))) (fun i ys H2=>ys=(R.scrs.take i).map (fun s=>V.int s.prom)/\H2 D=some (.lst ys)/\aV H1 H2) ⟨rfl,upd_same,au hD⟩ (fun i ys H2 _ ⟨_,_,sm⟩=>a9.of (sm _ _ x.sl)) ?_ ?_
  ·rintro i v ys H2 hv hi ⟨rfl,hE,sm⟩
   have hi':i < R.scrs.length:=by simpa using hi
   have e:v=V.ref (α (.scr i)):=by
    rw [List.getElem?_map,List.getElem?_range hi'] at hv;exact (Option.some.inj hv).symm
   subst e;have gi:=List.getElem?_eq_getElem hi';obtain ⟨⟨dx2,os⟩,_⟩:=x.sc i _ gi;refine ⟨(Wk.refl _).set rfl,?_⟩;rw [cR,if_pos rfl];refine ⟨_,c.s,dx2,_,_,rfl,sm _ _ os,TS.cl,TS.n3,fO _ _ _ _ _,?_⟩;refine ⟨hE,by rw [List.length_map,List.length_take,sizeLine_eq]; omega,gK hi ⟨?_,upd_same,fun b u e=>?_⟩⟩
   ·rw [List.take_succ_eq_append_getElem hi',List.map_append]; rfl
   ·rw [ag (ai e hD)]; exact sm b u e
  ·rintro ys H2 ⟨rfl,hE,sm⟩
   rw [show ((List.range R.scrs.length).map fun i=>V.ref (α (.scr i))).length=R.scrs.length by simp,List.take_length] at hE;exact q H2 D hD0 hE fun b u e=>sm _ _ (kp b u e).1
theorem i0 (NB:NBs mg) (D:DefAt K mg "row_by_places" cx ["row"]):L2.Own P w K mg base "row_by_places" 1 ["row"] rZ:=by
 refine D.own jx (fun vs H Q E h=>?_) (fun f cdv A outer s H vs Q E hr h=>?_)
 ·obtain ⟨a,ρ,kv,r,rfl,_⟩:=h; rfl
 ·obtain ⟨a,ρ,kv,r,rfl,ha,hk,h64,q⟩:=h
  have hu:=bM hr;refine ⟨_,(aq (az (fN (tgs:=["place"]) (fr:=[0]) (cP (aG lR (by rfl) NB.sorted ju (ac (nv 0) aj))) (dz (tt:=none) (fun _ _ _ _=>(dv 0)) (fun _ _ _ _=>True.intro) (fun _ _ _ _=>(cf (ac (nv 0) (ac (ax (yc (K:=K) hu) (ax (yc (K:=K) hu) (nv 1) (nv 0) (fun _ _=>rfl)) ao (fun _ _=>rfl)) (ac (ax (yc (K:=K) hu) (ax (yc (K:=K) hu) (nv 1) (nv 0) (fun _ _=>rfl)) ao (fun _ _=>rfl)) aj))))))))),?_⟩;refine ⟨_,rfl,r.map (·.1),kv,.inl ha,by rw [hk.keys],by rw [List.length_map]; exact h64,fun ns hp hs p hpn=>?_⟩;have eS:=kW hp hs;have s1:=au (o:=.lst (ns.map V.int)) hpn;have nsl:ns.length < 64:=by rw [hp.length_eq,List.length_map]; exact h64
  refine ⟨p,rfl,⟨_,a9.of upd_same⟩,fun D hD=>?_⟩;generalize hG:aA H p (.lst (ns.map V.int))=G at s1 hD ⊢;have gp:G p=some (.lst (ns.map V.int)):=by rw [<- hG]; exact upd_same
  refine dP (xs:=ns.map V.int) (fun i ys H2=>Paired (fun u (q:Int×Int×Str)=>∃ a,u=V.ref a/\H2 a=some (.tup [.int q.1,.int q.2.1,.str q.2.2])) ys ((ns.take i).map fun pl=>(pl,((ay r pl).getD (0,"")).1,((ay r pl).getD (0,"")).2))/\H2 D=some (.lst ys)/\aV G H2) ⟨.nil,upd_same,au hD⟩ (fun i ys H2 _ ⟨_,_,sm⟩=>a9.of (sm _ _ gp)) ?_ ?_
  ·rintro i v ys H2 hv hi ⟨pr,hE,sm⟩
   have hi':i < ns.length:=by rw [List.length_map] at hi; exact hi
   rw [List.getElem?_map,List.getElem?_eq_getElem hi'] at hv;cases hv;have et:ns.take (i+1)=ns.take i++[ns[i]]:=by rw [List.take_succ_eq_append_getElem hi']
   have hin:ns[i]∈r.map (·.1):=hp.mem_iff.mp (List.getElem_mem hi');generalize ns[i]=pl at *;have s2:=s1.trans sm;obtain ⟨e,he⟩:∃ e,ay r pl=some e:=by
    cases z:ay r pl with
    | some e=>exact ⟨e,rfl⟩
    | none=>exact absurd hin (cz.mp z)
   obtain ⟨vv,y1,t,y2,y3,_⟩:=hk.some he;subst y2;have gk:=cJ.k (k:=Sum.inl pl) (s2 _ _ ha);rw [y1] at gk;refine ⟨(Wk.refl _).set rfl,?_⟩;rw [cR,if_pos rfl];refine ⟨_,.dct gk,_,.tup (bu.of (s2 _ _ y3)) (fK _ _),_,.dct gk,_,.tup (bu.of (s2 _ _ y3)) (qu _ _ _),?_⟩;refine ⟨by show 3<=sizeLine; decide,fun t2 ht2=>?_⟩;have sm3:=au (o:=.tup [.int pl,.int e.1,.str e.2]) ht2;have lp:=Paired.length pr;rw [List.length_map,List.length_take] at lp;refine ⟨sm3 _ _ hE,by rw [sizeLine_eq]; omega,gK hi ⟨?_,upd_same,fun b u e=>?_⟩⟩
   ·rw [et,List.map_append]
    have tD:t2≠D:=fun z=>by rw [z,hE] at ht2; cases ht2
    refine Paired.snoc (Paired.mapP pr fun u q ⟨a,e1,e2⟩=>⟨a,e1,?_⟩) ⟨t2,rfl,?_⟩
    ·have:=sm3 _ _ e2
     rw [ag (gL this (sm3 _ _ hE) (fun z=>nomatch z))]; exact this
    ·rw [ag tD,upd_same]
     show some (HO.tup [.int pl,.int e.1,.str e.2])=some (.tup [.int pl,.int ((ay r pl).getD (0,"")).1,.str ((ay r pl).getD (0,"")).2]);rw [he]; rfl
   ·rw [ag (ai e hD)]; exact sm3 _ _ (sm b u e)
  ·rintro ys H2 ⟨pr,hE,sm⟩
   rw [List.length_map,List.take_length] at pr;refine q H2 D ys ?_ hE ?_ (s1.trans sm)
   ·cases e:H D with
    | none=>rfl
    | some u=>rw [s1 _ _ e] at hD; cases hD
   ·unfold jT
    rw [eS];exact pr
theorem lW (TH:TxH K c.h) (TS:TxS K c.s) (O_hall_after:L2.Own P w K mg base "hall_after" 7 ["count","deeds"] (fg c)) (O_row_by_places:L2.Own P w K mg base "row_by_places" 1 ["row"] rZ) (D:DefAt K mg "rows_after" dA ["count","deeds"]):L2.Own P w K mg base "rows_after" 8 ["count","deeds"] qD:=by
 refine D.own me (fun vs H Q E h=>?_) (fun f cdv A outer s H vs Q E hr h=>?_)
 ·obtain ⟨n,l,ds,PL,us,rfl,_⟩:=h; rfl
 ·obtain ⟨n,l,ds,PL,us,rfl,T,q⟩:=h
  refine ⟨_,(aq (az (fN (tgs:=["scribe"]) (fr:=[]) (cP (aO (a_ O_hall_after hr rfl (ac (nv 0) (ac (nv 1) aj))) rfl)) (dz (tt:=none) (fun _ _ _ _=>(dv 0)) (fun _ _ _ _=>True.intro) (fun _ _ _ _=>(a_ O_row_by_places hr rfl (ac (iA (K:=K) (nv 0) rfl) aj))))))),?_⟩;refine ⟨n,l,ds,PL,us,rfl,T,fun H1 α ρ x kp=>?_⟩;have wf:=nI (ke T.n0 T.pl) ds T.ok;have wc:(di (init n) ds).cnt=(n:Int):=by rw [om]; rfl
  generalize di (init n) ds=R at x q wf wc;obtain ⟨dx,ob⟩:=x.ob;refine ⟨_,c.h,dx,_,_,rfl,ob,TH.cl,TH.n2,eJ _ _ _ _ _,?_⟩;refine ⟨_,rfl,⟨_,a9.of x.sl⟩,fun D hD=>?_⟩;have hD0:H D=none:=by
   cases e:H D with
   | none=>rfl
   | some u=>rw [(kp _ _ e).1] at hD; cases hD
  have hc:=x.ln;have hn1:=T.n1;refine dP (xs:=(List.range R.scrs.length).map fun i=>V.ref (α (.scr i))) (fun i ys H2=>Paired (fun v l=>nF H2 v l/\v≠.ref D) ys ((R.scrs.take i).map fun s=>jT s.row)/\H2 D=some (.lst ys)/\aV H1 H2) ⟨.nil,upd_same,au hD⟩ (fun i ys H2 _ ⟨_,_,sm⟩=>a9.of (sm _ _ x.sl)) ?_ ?_
  ·rintro i v ys H2 hv hi ⟨pr,hE,sm⟩
   have hi':i < R.scrs.length:=by simpa using hi
   have e:v=V.ref (α (.scr i)):=by
    rw [List.getElem?_map,List.getElem?_range hi'] at hv;exact (Option.some.inj hv).symm
   subst e;have gi:=List.getElem?_eq_getElem hi';obtain ⟨⟨dx2,os⟩,⟨kr,or,jr⟩,_⟩:=x.sc i _ gi;obtain ⟨w1,w2⟩:=wf.rp _ (List.mem_of_getElem? gi);refine ⟨(Wk.refl _).set rfl,?_⟩;rw [cR,if_pos rfl];refine ⟨_,c.s,dx2,_,_,rfl,sm _ _ os,TS.cl,TS.n4,uU _ _ _ _ _,?_⟩;refine ⟨_,ρ,kr,R.scrs[i].row,rfl,sm _ _ or,jr.imp fun _ _ _ _ z=>z.stp (R:=fun _=>False) (kR sm),mQ w1 w2 wf.pl,fun H3 D3 us3 n3 h3 pr3 sm3=>?_⟩;have lp:=Paired.length pr;rw [List.length_map,List.length_take] at lp;have hE3:=sm3 _ _ hE;have d3:D3≠D:=fun z=>by rw [z,hE] at n3; cases n3
   have up:∀ (y:List V) (a:Addr) (xs:List V),H3 a=some (.tup xs)->aA H3 D (.lst y) a=some (.tup xs):=fun y a xs e=>by rw [ag (gL e hE3 (fun z=>nomatch z))]; exact e
   refine ⟨hE3,by rw [sizeLine_eq]; omega,gK hi ⟨?_,upd_same,fun b u e=>?_⟩⟩
   ·rw [List.take_succ_eq_append_getElem hi',List.map_append]
    refine Paired.snoc (Paired.mapP pr fun v l ⟨⟨Di,ui,e1,e2,e3⟩,e4⟩=>⟨⟨Di,ui,e1,?_,Paired.mapP e3 fun _ _ ⟨a,f1,f2⟩=>⟨a,f1,up _ _ _ (sm3 _ _ f2)⟩⟩,e4⟩) ⟨⟨D3,us3,rfl,?_,Paired.mapP pr3 fun _ _ ⟨a,f1,f2⟩=>⟨a,f1,up _ _ _ f2⟩⟩,fun z=>d3 (V.ref.inj z)⟩
    ·rw [ag (fun z=>e4 (by rw [e1,z]))]; exact sm3 _ _ e2
    ·rw [ag d3]; exact h3
   ·rw [ag (ai e hD)]; exact sm3 _ _ (sm b u e)
  ·rintro ys H2 ⟨pr,hE,sm⟩
   rw [show ((List.range R.scrs.length).map fun i=>V.ref (α (.scr i))).length=R.scrs.length by simp,List.take_length] at pr;exact q H2 D ys hD0 hE (Paired.mapP pr fun _ _ z=>z.1) fun b u e=>sm _ _ (kp b u e).1
theorem ia (TH:TxH K c.h) (O_hall_after:L2.Own P w K mg base "hall_after" 7 ["count","deeds"] (fg c)) (D:DefAt K mg "writings_after" ci ["count","deeds"]):L2.Own P w K mg base "writings_after" 8 ["count","deeds"] hV:=by
 refine D.own iX (fun vs H Q E h=>?_) (fun f cdv A outer s H vs Q E hr h=>?_)
 ·obtain ⟨n,l,ds,PL,us,rfl,_⟩:=h; rfl
 ·obtain ⟨n,l,ds,PL,us,rfl,T,q⟩:=h
  refine ⟨_,(aq (az (aO (a_ O_hall_after hr rfl (ac (nv 0) (ac (nv 1) aj))) rfl))),?_⟩;refine ⟨n,l,ds,PL,us,rfl,T,fun H1 α ρ x kp=>?_⟩;obtain ⟨dx,ob⟩:=x.ob;refine ⟨_,c.h,dx,_,_,rfl,ob,TH.cl,TH.n5,lM _ _ _ _ _,?_⟩;obtain ⟨vs',w1,w2⟩:=x.wl;refine q H1 _ vs' w1 ?_ (Paired.mapP w2 fun u p ⟨t,e1,e2,_⟩=>⟨t,e1,e2⟩) fun b u e=>(kp b u e).1;cases e:H (α .wl) with
  | none=>rfl
  | some u =>
   have:=(kp _ _ e).2;rw [x.r5] at this; cases this
end
seal L2.PE L2.PA L2.PS L2.gI
section
variable {P:Program}{w:World}{K:Frag}{mg:Str->Option Value}{base:Heap}{c:Cs}{N:Addr}
theorem pL (D:DefAt K mg "_law_word" nK ["_law_k"]):L2.Own P w K mg base "_law_word" 1 ["_law_k"] qC:=by
 refine D.own sC (fun vs H Q E h=>?_) (fun f cdv A outer s H vs Q E hr h=>?_)
 ·obtain ⟨k,rfl,_⟩:=h; rfl
 ·obtain ⟨k,rfl,h0,h1,q⟩:=h
  have hu:=bM hr;have nd:=sC.nd;refine ⟨_,(ad (aH nd 1 aB)
 (ad (aQ (aF (bt hr) (aE aL (nv 0) ao) ao (aK _)) (aq (az (aE bb (ax (ba hu) (bx (ac aB (ac aB (ac aB aj)))) (aE aL (aE dY (nv 0) ao) ao) (fun _ _=>rfl)) (aE a8 aB (aE dY (nv 0) ao))))) aC)
 (ad (aH nd 2 (aE aL (aE a8 (nv 0) ao) ao))
 (ad (aH nd 3 (aE bb (ax (ba hu) (nv 1) (aE aL (nv 0) ao) (fun _ _=>rfl)) (ax (ba hu) (nv 1) (aE aL (aE dY (nv 0) ao) ao) (fun _ _=>rfl))))
 (aq (az (aE bb (aE bb (dw wI (aE a8 aB ao) gA (c8 (nv 2))) (nv 3)) (dw wI (aE a8 aB ao) (c8 (nv 2)) gA)))))))),?_⟩
  refine ⟨by decide,_,.scal rfl,_,rfl,fx (fun _=>?_) (fun _=>?_)⟩
  ·refine ⟨by show 3<=sizeLine; decide,fun p hp=>?_⟩
   obtain ⟨x,hx,e⟩:=nQ [V.str "",V.str " ",V.str "So 1"] (k / 9 % 3) (by omega) (by show _ < (3:Int); omega);obtain ⟨z,rfl,hz⟩:∃ z:Str,x=.str z/\z.length<=4:=by
    simp only [List.mem_cons,List.not_mem_nil,or_false] at hx;rcases hx with rfl | rfl | rfl
    ·exact ⟨_,rfl,by decide⟩
    ·exact ⟨_,rfl,by decide⟩
    ·exact ⟨_,rfl,by decide⟩
   refine ⟨⟨by decide,by decide⟩,by decide,_,.lst (a9.of upd_same) e,⟨by decide,by decide⟩,?_⟩;obtain ⟨m,em⟩:=Int.eq_ofNat_of_zero_le (show 0<=k / 27 by omega);obtain ⟨d1,d2⟩:=Bp m (by omega);rw [em];exact ⟨d1,Nat.le_of_lt (aS (by omega)),q _ _ (au hp)⟩
  ·refine ⟨.inr ⟨by decide,by decide⟩,by decide,?_⟩
   obtain ⟨m,em⟩:=Int.eq_ofNat_of_zero_le (show 0<=k * 7 % 21 by omega);have hm:m < 21:=by omega
   rw [em];have ca:=Bs m hm;have cb:=Br m hm;obtain ⟨c1,_,e1⟩:=nQ ("abcdefghijklmnopqrstuvwxyz":Str).cps.toList (k % 26) (by omega) (by rw [rR.1]; omega);obtain ⟨c2,_,e2⟩:=nQ ("abcdefghijklmnopqrstuvwxyz":Str).cps.toList (k / 26 % 26) (by omega) (by rw [rR.1]; omega);refine ⟨by decide,_,.str rR.2 e1,⟨by decide,by decide⟩,by decide,_,.str rR.2 e2,by rw [fC,fC]; decide,?_⟩;refine ⟨zH,_,rfl,Nat.le_of_lt (aS (by omega)),by rw [Str.length_append,fC,fC]; exact Nat.le_of_lt (aS (by omega)),zH,_,rfl,Nat.le_of_lt (aS (by omega)),by rw [Str.length_append,Str.length_append,fC,fC]; exact Nat.le_of_lt (aS (by omega)),?_⟩;exact q _ _ fun _ _ e=>e
theorem qZ (O_word:L2.Own P w K mg base "_law_word" 1 ["_law_k"] qC) (D:DefAt K mg "_law_single" iE ["_law_cell","_law_k","_law_count"]):L2.Own P w K mg base "_law_single" 2 ["_law_cell","_law_k","_law_count"] pA:=by
 refine D.own mP (fun vs H Q E h=>?_) (fun f cdv A outer s H vs Q E hr h=>?_)
 ·obtain ⟨cell,k,n,rfl,_⟩:=h; rfl
 ·obtain ⟨cell,k,n,rfl,hk0,hk1,hn0,hn1,q⟩:=h
  have hu:=bM hr;have nd:=mP.nd;have cpos:(0:Int) < (n:Int):=by omega
  refine ⟨_,(ad (aH nd 3 (aE aL (aE aL (aE a8 (nv 0) ao) ao) ao))
 (ad (aH nd 4 (aE aL (aE aL (aE a8 (aE bb (nv 0) (aE dY (nv 1) ao)) ao) ao) (nv 2)))
 (ad (aH nd 5 (aE aL (aE aL (aE a8 (aE bb (nv 0) (nv 1)) ao) ao) (nv 2)))
 (ad (aQ (aF (bt hr) (aE aL (aE aL (aE a8 (nv 0) ao) ao) ao) ao (aK _)) (ad (aH nd 6 ao)
 (aq (aH nd 5 (ax (ba hu) (bx (ac (kJ fM ao) (ac (nv 2) (ac (kJ fM ao) (ac (aE n9 ao (nv 2)) (ac (nv 6) (ac (aE n9 ao (nv 6)) aj))))))) (aE aL (aE aL (aE a8 (nv 0) ao) ao) ao) (fun _ _=>rfl))))) aC)
 (ad (aQ (PW.pt (dI (aF (bt hr) (nv 3) ao (aK _)) (cX (aF (bt hr) (nv 3) ao (aK _))))) (aq (az (cf (ac aB (ac (nv 4) aj))))) aC)
 (ad (aQ (aF fL (nv 3) ao (aK _)) (aq (az (cf (ac aB (ac (nv 4) (ac (nv 5) aj)))))) aC)
 (ad (aQ (aF fL (nv 3) ao (aK _)) (aq (az (cf (ac aB (ac (nv 4) (ac (a_ O_word hr rfl (ac (nv 1) aj)) aj)))))) aC)
 (ad (aQ (aF fL (nv 3) ao (aK _)) (ad (aH nd 7 (ax (ba hu) (bx (ac ao (ac ao (ac ao (ac ao (ac ao (ac ao (ac ao (ac ao aj))))))))) (aE aL (aE aL (aE a8 (nv 0) ao) ao) ao) (fun _ _=>rfl)))
 (aq (az (cf (ac aB (ac (nv 4) (ac (nv 5) (ac (nv 7) aj)))))))) aC)
 (aq (az (cf (ac (ax (ba hu) (bx (ac aB (ac aB aj))) (aE aL (nv 3) ao) (fun _ _=>rfl)) (ac (nv 5) aj))))))))))))),?_⟩
  refine ⟨oZ _,by decide,by decide,⟨by decide,by decide⟩,oZ _,by decide,cpos,oZ _,by decide,cpos,?_⟩;have hw0:0<=cell * 48271 % 1033 % 16:=by omega
  have hw1:cell * 48271 % 1033 % 16 < 16:=by omega
  generalize cell * 48271 % 1033 % 16=way at hw0 hw1 ⊢;have hown:0<=(cell+k / 9) * 48271 % 1039 % (n:Int)/\(cell+k / 9) * 48271 % 1039 % (n:Int) < (n:Int):=⟨Int.emod_nonneg _ (by omega),Int.emod_lt_of_pos _ cpos⟩;generalize (cell+k / 9) * 48271 % 1039 % (n:Int)=own at hown ⊢;generalize (cell+k) * 48271 % 1049 % (n:Int)=oth;refine ⟨oZ _,by decide,by decide,_,.scal rfl,_,rfl,fx (fun _=>?_) (fun _=>?_)⟩
  case' refine_1 =>
   refine ⟨by show 6<=sizeLine; decide,fun p hp=>⟨oZ _,by decide,by decide,?_⟩⟩;obtain ⟨oth',_,e⟩:=tK (is:=[-1,(n:Int),-2,0 - (n:Int),100000000000000000000,0 - 100000000000000000000]) (cell * 48271 % 1061 % 6) (by omega) (by show _ < (6:Int); omega);refine ⟨_,.lst (a9.of upd_same) e,?_⟩;have sm:=au (o:=.lst ([-1,(n:Int),-2,0 - (n:Int),100000000000000000000,0 - 100000000000000000000].map V.int)) hp
  case' refine_2=>have sm:aV H H:=fun _ _ e=>e
  all_goals
   refine ⟨_,.scal rfl,_,rfl,fx (fun _=>bH ?_) (fun z0=>?_)⟩
   ·exact ⟨by show 2<=sizeLine; decide,fun t ht=>q t (.rise own) _ (sm.trans (au ht)) upd_same ⟨trivial,hown⟩⟩
   refine ⟨_,.scal rfl,_,rfl,fx (fun _=>?_) (fun z8=>?_)⟩
   ·exact ⟨by show 2<=sizeLine; decide,fun t ht=>q t (.rise own) _ (sm.trans (au ht)) upd_same ⟨trivial,hown⟩⟩
   refine ⟨_,rfl,fx (fun _=>?_) (fun z6=>?_)⟩
   ·exact ⟨by show 3<=sizeLine; decide,fun t ht=>q t (.ask own _) _ (sm.trans (au ht)) upd_same ⟨trivial,trivial⟩⟩
   refine ⟨_,rfl,fx (fun _=>?_) (fun z7=>?_)⟩
   ·exact ⟨k,rfl,hk0,hk1,fun z H2 s2=>⟨by show 3<=sizeLine; decide,fun t ht=>q t (.say own z) _ ((sm.trans s2).trans (au ht)) upd_same ⟨trivial,trivial⟩⟩⟩
   refine ⟨_,rfl,fx (fun _=>?_) (fun z14=>?_)⟩
   ·refine ⟨by show 8<=sizeLine; decide,fun p2 hp2=>⟨oZ _,by decide,by decide,?_⟩⟩
    obtain ⟨pl,hpl,e2⟩:=tK (is:=[0,1,2,0,1,2,5,100000000000000000000]) (cell * 48271 % 1063 % 8) (by omega) (by show _ < (8:Int); omega);refine ⟨_,.lst (a9.of upd_same) e2,by show 4<=sizeLine; decide,fun t ht=>q t (.write own _ pl) _ ((sm.trans (au (o:=.lst ([0,1,2,0,1,2,5,100000000000000000000].map V.int)) hp2)).trans (au ht)) upd_same ?_⟩;refine ⟨?_,trivial⟩;show pl∈wH;simp only [List.mem_cons,List.not_mem_nil,or_false] at hpl;rcases hpl with rfl | rfl | rfl | rfl | rfl | rfl | rfl | rfl<;>decide
   have zz:¬ way < 14:=fun z=>z14 (decide_eq_true z);refine ⟨by show 2<=sizeLine; decide,fun p2 hp2=>?_⟩;have hw:way=14\/way=15:=by omega
   rcases hw with rfl | rfl
   ·exact ⟨by decide,V.str "stop",.lst (a9.of upd_same) rfl,by show 2<=sizeLine; decide,fun t ht=>q t (.stop _) _ ((sm.trans (au (o:=.lst [.str "stop",.str "wake"]) hp2)).trans (au ht)) upd_same ⟨trivial,trivial⟩⟩
   ·exact ⟨by decide,V.str "wake",.lst (a9.of upd_same) rfl,by show 2<=sizeLine; decide,fun t ht=>q t (.wake _) _ ((sm.trans (au (o:=.lst [.str "stop",.str "wake"]) hp2)).trans (au ht)) upd_same ⟨trivial,trivial⟩⟩
theorem uc (NB:NBs mg) (O_word:L2.Own P w K mg base "_law_word" 1 ["_law_k"] qC) (D:DefAt K mg "_law_round" km ["_law_cell","_law_k","_law_count"]):L2.Own P w K mg base "_law_round" 2 ["_law_cell","_law_k","_law_count"] r8:=by
 refine D.own pG (fun vs H Q E h=>?_) (fun f cdv A outer s H vs Q E hr h=>?_)
 ·obtain ⟨cell,k,n,rfl,_⟩:=h; rfl
 ·obtain ⟨cell,k,n,rfl,hk0,hk1,hn0,hn1,q⟩:=h
  have hu:=bM hr;have nd:=pG.nd;have cpos:(0:Int) < (n:Int):=by omega
  refine ⟨_,(ad (aH nd 3 (aE aL (aE aL (aE a8 (aE bb (nv 0) (nv 1)) ao) ao) (nv 2)))
 (ad (aH nd 4 (bx aj))
 (ad (aQ (aF (bt hr) (aE aL (aE aL (aE a8 (nv 0) ao) ao) ao) ao (aK _)) (aq (a5 (eW PySem.F.plainAttrs_list PySem.F.slot_list_append PySem.F.type_list_append bG (nv 4) (ac (cf (ac aB (ac (aE aL (aE bb (nv 3) (aE aL (aE aL (aE a8 (nv 0) ao) ao) (nv 2))) (nv 2)) aj))) aj)))) aC)
 (ad (aQ (aF (bt hr) (aE aL (aE aL (aE a8 (nv 0) ao) ao) ao) ao (aK _)) (aq (a5 (eW PySem.F.plainAttrs_list PySem.F.slot_list_append PySem.F.type_list_append bG (nv 4) (ac (cf (ac aB (ac (aE aL (aE bb (nv 3) (aE aL (aE aL (aE a8 (nv 0) ao) ao) (nv 2))) (nv 2)) aj))) aj)))) aC)
 (ad (a5 (eW PySem.F.plainAttrs_list PySem.F.slot_list_append PySem.F.type_list_append bG (nv 4) (ac (cf (ac aB (ac (nv 3) aj))) aj)))
 (ad (cq PassesOwn.never rfl (cy rfl NB.range (ac (nv 2) aj)) (bi nd 5) (aq (aQ (aF gh (aE aL (aE aL (aE a8 (aE dY (nv 0) (ax (ba hu) (bx (ac ao (ac ao (ac ao (ac ao (ac ao aj)))))) (aE aL (nv 5) ao) (fun _ _=>rfl))) ao) ao) ao) ao (aK _)) (ad (aH nd 6 (aE aL (aE bb (aE bb (nv 3) (nv 5)) (aE aL (aE aL (aE a8 (nv 0) ao) ao) (nv 2))) (nv 2)))
 (aq (a5 (eW PySem.F.plainAttrs_list PySem.F.slot_list_append PySem.F.type_list_append bG (nv 4) (ac (cf (ac aB (ac (nv 3) (ac (nv 6) aj)))) aj))))) aC)))
 (ad (a5 (eW PySem.F.plainAttrs_list PySem.F.slot_list_append PySem.F.type_list_append bG (nv 4) (ac (cf (ac aB (ac (nv 3) (ac (a_ O_word hr rfl (ac (nv 1) aj)) aj)))) aj)))
 (ad (cq PassesOwn.never rfl (cy rfl NB.range (ac (nv 2) aj)) (bi nd 5) (aq (cq PassesOwn.never rfl (cy rfl NB.range (ac ao aj)) (bi nd 7) (aq (aQ (aF gh (aE aL (aE aL (aE a8 (aE dY (nv 0) (ax (ba hu) (bx (ac ao (ac ao (ac ao (ac ao (ac ao aj)))))) (aE aL (nv 5) ao) (fun _ _=>rfl))) ao) ao) ao) (nv 7) (aK _)) (ad (aH nd 6 (aE aL (aE bb (aE bb (nv 3) (nv 5)) (aE aL (aE aL (aE a8 (nv 0) ao) ao) (nv 2))) (nv 2)))
 (aq (a5 (eW PySem.F.plainAttrs_list PySem.F.slot_list_append PySem.F.type_list_append bG (nv 4) (ac (cf (ac aB (ac (nv 3) (ac (nv 6) (ac (nv 7) aj))))) aj))))) aC)))))
 (aq (az (nv 4))))))))))),?_⟩
  refine ⟨oZ _,by decide,cpos,?_⟩;have hown:0<=(cell+k) * 48271 % 1009 % (n:Int)/\(cell+k) * 48271 % 1009 % (n:Int) < (n:Int):=⟨Int.emod_nonneg _ (by omega),Int.emod_lt_of_pos _ cpos⟩;generalize (cell+k) * 48271 % 1009 % (n:Int)=own at hown ⊢;refine ⟨by show 0<=sizeLine; decide,fun l hl=>?_⟩;have L0:DL n (aA H l (.lst [])) l [] []:=⟨upd_same,.nil,fun _ h=>nomatch h⟩;have s0:=au (o:=.lst []) hl;dsimp only;generalize aA H l (.lst [])=H1 at L0 s0 ⊢;refine qK (fun H'=>∃ us ds,DL n H' l us ds/\ds.length<=1/\aV H H') (fun C D' kk hD=>?_) ?_
  ·refine ⟨oZ _,by decide,by decide,_,.scal rfl,_,rfl,fx (fun _=>?_) (fun _=>kk H1 ⟨_,_,L0,Nat.zero_le _,s0⟩)⟩
   exact iy (.stop _) (fun _ _ h=>h) L0 (fun Q k=>⟨oZ _,by decide,cpos,cpos,by show 2<=sizeLine; decide,fun t ht=>k t _ (au ht) upd_same⟩) ⟨trivial,trivial⟩ (by show 0<=999; decide) fun us' H' L' kl=>hD _ (kk H' ⟨_,_,L',by show 1<=1; decide,Kl.behind s0 kl hl⟩)
  clear L0 s0;rintro H1 ⟨us,ds,L0,n0,s0⟩;refine qK (fun H'=>∃ us ds,DL n H' l us ds/\ds.length<=2/\aV H H') (fun C D' kk hD=>?_) ?_
  ·refine ⟨oZ _,by decide,by decide,_,.scal rfl,_,rfl,fx (fun _=>?_) (fun _=>kk H1 ⟨_,_,L0,by omega,s0⟩)⟩
   exact iy (.wake _) (fun _ _ h=>h) L0 (fun Q k=>⟨oZ _,by decide,cpos,cpos,by show 2<=sizeLine; decide,fun t ht=>k t _ (au ht) upd_same⟩) ⟨trivial,trivial⟩ (by omega) fun us' H' L' kl=>hD _ (kk H' ⟨_,_,L',by rw [List.length_append]; show _+1<=2; omega,Kl.behind s0 kl hl⟩)
  clear L0 s0 n0;rintro H2 ⟨us2,ds2,L2',n2,s2⟩;refine vM (.rise own) (fun _ _ h=>h) L2' (fun Q k=>⟨by show 2<=sizeLine; decide,fun t ht=>k t _ (au ht) upd_same⟩) ⟨trivial,hown⟩ (by omega) fun us3 H3 L3 kl3=>?_;have s3:=Kl.behind s2 kl3 hl;have n3:(ds2++[Deed.rise own]).length<=3:=by rw [List.length_append]; show _+1<=3; omega
  generalize ds2++[Deed.rise own]=ds3 at L3 n3;refine ⟨n,rfl,by omega,by omega,?_⟩;refine cU (n:=(n:Int).toNat) (fun j σ H'=>∃ us ds o5 o6,σ=[some (.int cell),some (.int k),some (.int n),some (.int own),some (.ref l),o5,o6,none]/\DL n H' l us ds/\ds.length<=3+j/\aV H H') ⟨_,_,_,_,rfl,L3,n3,s3⟩ ?_ ?_
  ·rintro j σ H4 hj ⟨us4,ds4,o5,o6,rfl,L4,n4,s4⟩
   rw [Int.zero_add];refine ⟨by show 5<=sizeLine; decide,fun p hp=>⟨by decide,?_⟩⟩;obtain ⟨m,hm,e⟩:=tK (is:=[3,5,11,17,29]) ((j:Int) % 5) (by omega) (by show _ < (5:Int); omega);have hm':0 < m/\m < 1073741824:=by
    simp only [List.mem_cons,List.not_mem_nil,or_false] at hm;rcases hm with rfl | rfl | rfl | rfl | rfl<;>decide
   refine ⟨_,.lst (a9.of upd_same) e,hm',oZ _,by decide,by decide,_,rfl,?_⟩;have s5:=au (o:=.lst ([3,5,11,17,29].map V.int)) hp;have L5:=L4.same s5;refine fx (fun _=>?_) (fun _=>⟨_,_,_,_,rfl,L5,by omega,s4.trans s5⟩);refine ⟨oZ _,by decide,cpos,cpos,?_⟩;dsimp only;exact iy (.ask own _) (fun _ _ h=>h) L5 (fun Q k=>⟨by show 3<=sizeLine; decide,fun t ht=>k t _ (au ht) upd_same⟩) ⟨trivial,trivial⟩ (by omega) fun us' H' L' kl=>⟨_,_,_,_,rfl,L',by rw [List.length_append]; show _+1<=3+(j+1); omega,Kl.behind (s4.trans s5) kl hl⟩
  ·rintro σ H4 ⟨us4,ds4,o5,o6,rfl,L4,n4,s4⟩
   have n4':ds4.length<=3+n:=by omega
   clear n4;refine ⟨.inl ⟨rfl,_,a9.of L4.hl⟩,k,rfl,hk0,hk1,fun z H5 s5=>⟨by show 3<=sizeLine; decide,fun t ht=>?_⟩⟩;have s6:=s5.trans (au (o:=.tup [.str "say",.int own,.str z]) ht);have L6:=L4.same s6;refine ⟨l,_,_,rfl,rfl,L6.hl,aS (by rw [L4.len]; omega),?_⟩;have L7:=L6.app (d:=.say own z) upd_same ⟨trivial,trivial⟩;have s7:=Kl.behind (s4.trans s6) (dN (o:=.lst (us4++[.ref t]))) hl;have n7:(ds4++[Deed.say own z]).length<=4+n:=by rw [List.length_append]; show _+1<=4+n; omega
   clear n4' L4 L6 s4 s5 s6;refine ⟨n,rfl,by omega,by omega,?_⟩;refine cU (n:=(n:Int).toNat) (fun j σ H'=>∃ us ds o5 o6 o7,σ=[some (.int cell),some (.int k),some (.int n),some (.int own),some (.ref l),o5,o6,o7]/\DL n H' l us ds/\ds.length<=4+n+2 * j/\aV H H') ⟨_,_,_,_,_,rfl,L7,by omega,s7⟩ ?_ ?_
   ·rintro j σ H4 hj ⟨us4,ds4,o5,o6,o7,rfl,L4,n4,s4⟩
    rw [Int.zero_add];refine ⟨2,rfl,by decide,by decide,?_⟩;refine cU (n:=2) (fun i σ H'=>∃ us ds o6 o7,σ=[some (.int cell),some (.int k),some (.int n),some (.int own),some (.ref l),some (.int j),o6,o7]/\DL n H' l us ds/\ds.length<=4+n+2 * j+i/\aV H H') ⟨_,_,_,_,rfl,L4,by omega,s4⟩ ?_ ?_
    ·clear L4 n4 s4
     rintro i σ H4 hi ⟨us4,ds4,o6,o7,rfl,L4,n4,s4⟩;rw [Int.zero_add];refine ⟨by show 5<=sizeLine; decide,fun p hp=>⟨by decide,?_⟩⟩;obtain ⟨m,hm,e⟩:=tK (is:=[2,7,13,19,31]) ((j:Int) % 5) (by omega) (by show _ < (5:Int); omega);have hm':0 < m/\m < 1073741824:=by
      simp only [List.mem_cons,List.not_mem_nil,or_false] at hm;rcases hm with rfl | rfl | rfl | rfl | rfl<;>decide
     refine ⟨_,.lst (a9.of upd_same) e,hm',oZ _,by decide,by decide,_,rfl,?_⟩;have s5:=au (o:=.lst ([2,7,13,19,31].map V.int)) hp;have L5:=L4.same s5;refine fx (fun _=>?_) (fun _=>⟨_,_,_,_,rfl,L5,by omega,s4.trans s5⟩);refine ⟨oZ _,by decide,cpos,cpos,?_⟩;have hpl:(i:Int)∈wH:=by
      have:i=0\/i=1:=by omega
      rcases this with rfl | rfl<;>decide
     dsimp only;exact iy (.write own _ i) (fun _ _ h=>h) L5 (fun Q k=>⟨by show 4<=sizeLine; decide,fun t ht=>k t _ (au ht) upd_same⟩) ⟨hpl,trivial⟩ (by omega) fun us' H' L' kl=>⟨_,_,_,_,rfl,L',by rw [List.length_append]; show _+1<=4+n+2 * j+(i+1); omega,Kl.behind (s4.trans s5) kl hl⟩
    ·rintro σ H5 ⟨us5,ds5,o6,o7,rfl,L5,n5,s5⟩
     exact ⟨_,_,_,_,_,rfl,L5,by omega,s5⟩
   ·rintro σ H5 ⟨us5,ds5,o5,o6,o7,rfl,L5,n5,s5⟩
    exact q l us5 ds5 H5 hl s5 L5 (by omega)
end
section
variable {P:Program}{w:World}{K:Frag}{mg:Str->Option Value}{base:Heap}{c:Cs}{N:Addr}
theorem t_ (NB:NBs mg) (D:DefAt K mg "_law_woven" ki ["_law_one","_law_other","_law_cell"]):L2.Own P w K mg base "_law_woven" 1 ["_law_one","_law_other","_law_cell"] rW:=by
 refine D.own pF (fun vs H Q E h=>?_) (fun f cdv A outer s H vs Q E hr h=>?_)
 ·obtain ⟨n,a,b,cell,ua,ub,da,db,rfl,_⟩:=h; rfl
 ·obtain ⟨n,a0,b0,cell,ua0,ub0,da0,db0,rfl,A0,B0,hz,q⟩:=h
  have hu:=bM hr;have nd:=pF.nd;refine ⟨_,(ad (aH nd 3 (bx aj))
 (ad (iF PassesOwn.never (PW.pt (dI (aF (dq hr) (nv 0) (bx aj) (aK _)) (cX (aF (dq hr) (nv 1) (bx aj) (aK _))))) (ad (aH nd 4 (cF (bt hr) (aE aL (aE aL (aE a8 (aE dY (nv 2) (aE bb (aG br (by rfl) NB.len cK (ac (nv 0) aj)) ao)) ao) ao) ao) ao (aK _)))
 (aq (aQ (PW.pt (dI (aF (bt hr) (nv 1) (bx aj) (aK _)) (cX (PW.pt (qL (bn (nv 4)) (nZ (aF (dq hr) (nv 0) (bx aj) (aK _)))))))) (ad (a5 (eW PySem.F.plainAttrs_list PySem.F.slot_list_append PySem.F.type_list_append bG (nv 3) (ac (ax (ba hu) (nv 0) ao (fun _ _=>rfl)) aj)))
 (aq (aH nd 0 (dw wI (nv 0) (c8 ao) gA)))) (ad (a5 (eW PySem.F.plainAttrs_list PySem.F.slot_list_append PySem.F.type_list_append bG (nv 3) (ac (ax (ba hu) (nv 1) ao (fun _ _=>rfl)) aj)))
 (aq (aH nd 1 (dw wI (nv 1) (c8 ao) gA))))))))
 (aq (az (nv 3))))),?_⟩
  refine ⟨by show 0<=sizeLine; decide,fun l hl=>?_⟩;have L0:DL n (aA H l (.lst [])) l [] []:=⟨upd_same,.nil,fun _ h=>nomatch h⟩;have s0:=au (o:=.lst []) hl;dsimp only;generalize aA H l (.lst [])=H1 at L0 s0 ⊢;refine ⟨fun m σ H'=>∃ a b ua ub da db us ds o4,σ=[some (.ref a),some (.ref b),some (.int cell),some (.ref l),o4]/\DL n H' a ua da/\DL n H' b ub db/\DL n H' l us ds/\a≠l/\b≠l/\m=da.length+db.length/\ds.length+m=da0.length+db0.length/\aV H H',
   ⟨_,a0,b0,ua0,ub0,da0,db0,[],[],none,rfl,A0.same s0,B0.same s0,L0,ai A0.hl hl,ai B0.hl hl,rfl,by simp,s0⟩,?_⟩
  rintro m σ H2 ⟨a,b,ua,ub,da,db,us,ds,o4,rfl,A2,B2,L2',na,nb,rfl,hs,sm⟩;refine An (fun _ _ h=>h) (fun _ _ h=>h) A2.hl B2.hl (fun hne H3 s3=>bH ?_) (fun h1 h2 H3 s3=>bU ?_)
  ·refine ⟨fun σ' H'=>∃ m',m' < da.length+db.length/\∃ a b ua ub da db us ds o4,σ'=[some (.ref a),some (.ref b),some (.int cell),some (.ref l),o4]/\DL n H' a ua da/\DL n H' b ub db/\DL n H' l us ds/\a≠l/\b≠l/\m'=da.length+db.length/\ds.length+m'=da0.length+db0.length/\aV H H',fun _ _ h=>h,?_⟩
   have A3:=A2.same s3;have B3:=B2.same s3;have L3:=L2'.same s3;have s03:=sm.trans s3;have lz:=L3.len;have la:=A3.len;clear A2 B2 L2' s3 sm;refine ⟨ua.length,.inl ⟨_,.inl (a9.of A3.hl),rfl⟩,⟨by omega,by omega⟩,oZ _,by decide,by decide,_,.scal rfl,?_⟩;dsimp only;generalize decide (V.int (cell / (((ua.length:Nat):Int)+2) * 48271 % 1069 % 2)=V.int 0)=tn;unfold yh;refine Am (tn:=tn) (fun _ _ h=>h) (fun _ _ h=>h) (fun _ _ h=>h) A3.hl B3.hl (fun ht H4 s4=>bH ?_) (fun hf H4 s4=>bU ?_)
   ·have A4:=A3.same s4
    have B4:=B3.same s4;have L4:=L3.same s4;have hne':ua≠[]:=by
     rcases ht with h | h
     ·rcases hne with h' | h'
      ·exact h'
      ·exact absurd h h'
     ·exact h
    obtain ⟨t,ua',d,da',rfl,rfl,ht',hok⟩:=A4.cons_of hne';refine ⟨.inl ⟨rfl,_,a9.of L4.hl⟩,_,.lst (a9.of A4.hl) (fK _ _),l,us,_,rfl,rfl,L4.hl,aS (by omega),?_⟩;have L5:=L4.app ht' hok;have nt:∀ xs,H4 l≠some (.tup xs):=fun xs z=>by rw [L4.hl] at z; cases z
    have A5:=A4.kl (dN (o:=.lst (us++[.ref t]))) na nt;have B5:=B4.kl (dN (o:=.lst (us++[.ref t]))) nb nt;have s5:=Kl.behind (s03.trans s4) (dN (o:=.lst (us++[.ref t]))) hl;refine ⟨1,rfl,.inl ⟨_,a9.of A5.hl,fun p hp=>?_⟩⟩;rw [lc];have s6:=au (o:=.lst ua') hp;exact ⟨da'.length+db.length,by simp,p,b,ua',ub,da',db,_,_,_,rfl,A5.tl hp,B5.same s6,L5.same s6,(fun z=>by rw [z,L5.hl] at hp; cases hp),nb,rfl,by simp only [List.length_append,List.length_cons,List.length_nil] at hs ⊢; omega,s5.trans s6⟩
   ·have A4:=A3.same s4
    have B4:=B3.same s4;have L4:=L3.same s4;obtain ⟨t,ub',d,db',rfl,rfl,ht',hok⟩:=B4.cons_of hf;refine ⟨.inl ⟨rfl,_,a9.of L4.hl⟩,_,.lst (a9.of B4.hl) (fK _ _),l,us,_,rfl,rfl,L4.hl,aS (by omega),?_⟩;have L5:=L4.app ht' hok;have nt:∀ xs,H4 l≠some (.tup xs):=fun xs z=>by rw [L4.hl] at z; cases z
    have A5:=A4.kl (dN (o:=.lst (us++[.ref t]))) na nt;have B5:=B4.kl (dN (o:=.lst (us++[.ref t]))) nb nt;have s5:=Kl.behind (s03.trans s4) (dN (o:=.lst (us++[.ref t]))) hl;refine ⟨1,rfl,.inl ⟨_,a9.of B5.hl,fun p hp=>?_⟩⟩;rw [lc];have s6:=au (o:=.lst ub') hp;exact ⟨da.length+db'.length,by simp,a,p,ua,ub',da,db',_,_,_,rfl,A5.same s6,B5.tl hp,L5.same s6,na,(fun z=>by rw [z,L5.hl] at hp; cases hp),rfl,by simp only [List.length_append,List.length_cons,List.length_nil] at hs ⊢; omega,s5.trans s6⟩
  ·subst h1 h2
   have e1:da=[]:=by have:=A2.len; exact List.eq_nil_of_length_eq_zero this.symm
   have e2:db=[]:=by have:=B2.len; exact List.eq_nil_of_length_eq_zero this.symm
   subst e1 e2;exact q l us ds H3 hl (sm.trans s3) (L2'.same s3) (by simpa using hs)
end
section
variable {P:Program}{w:World}{K:Frag}{mg:Str->Option Value}{base:Heap}{c:Cs}{N:Addr}
theorem ue (NB:NBs mg) (O_single:L2.Own P w K mg base "_law_single" 2 ["_law_cell","_law_k","_law_count"] pA) (O_round:L2.Own P w K mg base "_law_round" 2 ["_law_cell","_law_k","_law_count"] r8) (O_woven:L2.Own P w K mg base "_law_woven" 1 ["_law_one","_law_other","_law_cell"] rW)
  (D:DefAt K mg "_law_drawn" ko ["_law_cells","_law_way","_law_count"]):L2.Own P w K mg base "_law_drawn" 3 ["_law_cells","_law_way","_law_count"] ss:=by
 refine D.own pI (fun vs H Q E h=>?_) (fun f cdv A outer s H vs Q E hr h=>?_)
 ·obtain ⟨a,way,n,ns,rfl,_⟩:=h; rfl
 ·obtain ⟨a,way,n,ns,rfl,hA,hlen,hn0,hn1,q⟩:=h
  have hu:=bM hr;have nd:=pI.nd;have hml:(ns.map V.int).length=ns.length:=List.length_map ..;have n14:n < 14:=by omega
  refine ⟨_,(ad (aH nd 3 (bx aj))
 (ad (aQ (aF (bt hr) (aE aL (nv 1) ao) ao (aK _)) (ad (aH nd 4 (ax (ba hu) (bx (ac ao (ac ao aj))) (df m9 (by rfl) NB.int kQ (ac (cF gh (aG br (by rfl) NB.len cK (ac (nv 0) aj)) ao (aK _)) aj)) (fun _ _=>rfl)))
 (ad (cq PassesOwn.never rfl (cy rfl NB.range (ac (aG m7 (by rfl) NB.min vz (ac (nv 4) (ac (aG br (by rfl) NB.len cK (ac (nv 0) aj)) aj))) aj)) (bi nd 5) (aq (a5 (eW PySem.F.plainAttrs_list PySem.F.slot_list_append PySem.F.type_list_append bG (nv 3) (ac (a_ O_single hr rfl (ac (aE bb (ax (ba hu) (nv 0) (nv 5) (fun _ _=>rfl)) (aE a8 ao (nv 5))) (ac (nv 5) (ac (nv 2) aj)))) aj)))))
 (aq (az (nv 3))))) aC)
 (ad (aH nd 6 (bx aj))
 (ad (cq PassesOwn.never rfl (cy rfl NB.range (ac (aG m7 (by rfl) NB.min vz (ac (ax (ba hu) (bx (ac ao (ac ao aj))) (df m9 (by rfl) NB.int kQ (ac (cF gh (nv 2) ao (aK _)) aj)) (fun _ _=>rfl)) (ac (aG br (by rfl) NB.len cK (ac (nv 0) aj)) aj))) aj)) (bi nd 5) (aq (a5 (eW PySem.F.plainAttrs_list PySem.F.slot_list_append PySem.F.type_list_append bG (nv 6) (ac (a_ O_round hr rfl (ac (aE bb (ax (ba hu) (nv 0) (nv 5) (fun _ _=>rfl)) (aE a8 ao (nv 5))) (ac (nv 5) (ac (nv 2) aj)))) aj)))))
 (ad (cq PassesOwn.never rfl (t6 rfl NB.range (ac ao (ac (aG br (by rfl) NB.len cK (ac (nv 6) aj)) (ac ao aj)))) (bi nd 5) (aq (aQ (aF (bt hr) (aE aL (nv 1) ao) ao (aK _)) (ad (aH nd 7 (aE bb (dw wI (nv 6) (c8 (nv 5)) (c8 (aE bb (nv 5) ao))) (bx (ac (bx aj) aj))))
 (aq (aH nd 3 (aE bb (nv 3) (a_ O_woven hr rfl (ac (ax (ba hu) (nv 7) ao (fun _ _=>rfl)) (ac (ax (ba hu) (nv 7) ao (fun _ _=>rfl)) (ac (ax (ba hu) (nv 0) (nv 5) (fun _ _=>rfl)) aj)))))))) (aq (cq PassesOwn.never rfl (cP (dw wI (nv 6) (c8 (nv 5)) (c8 (aE bb (nv 5) ao)))) (bi nd 8) (aq (aH nd 3 (aE bb (nv 3) (nv 8)))))))))
 (aq (az (nv 3)))))))),?_⟩
  refine ⟨by show 0<=sizeLine; decide,fun l hl=>?_⟩;have L0:DL n (aA H l (.lst [])) l [] []:=⟨upd_same,.nil,fun _ h=>nomatch h⟩;have s0:=au (o:=.lst []) hl;dsimp only;generalize aA H l (.lst [])=H1 at L0 s0 ⊢;have cellAt:∀ {H':Hp}{j:Nat},aV H H'->j < ns.length->∃ c:Int,Item K H' (.ref a) (.int (j:Int)) (.int c):=fun {H' j} s hj=>by
   obtain ⟨c,_,e⟩:=tK (is:=ns) (j:Int) (by omega) (by omega);exact ⟨c,.lst (a9.of (s _ _ hA)) e⟩
  refine ⟨by decide,_,.scal rfl,_,rfl,fx (fun _=>?_) (fun _=>?_)⟩
  ·refine ⟨by show 2<=sizeLine; decide,fun p hp=>?_⟩
   have s1:=au (o:=.lst ([50,90].map V.int)) hp;refine ⟨_,.inl ⟨_,.inl (a9.of (s1 _ _ (s0 _ _ hA))),rfl⟩,?_⟩;obtain ⟨m,e,hm'⟩:∃ m:Int,il ([50,90].map V.int) (if decide ((62:Int) < (((ns.map V.int).length:Nat):Int))=true then 1 else 0)=some (.int m)/\m=50:=by
    rw [decide_eq_false (by rw [hml]; omega)];exact ⟨50,rfl,rfl⟩
   refine ⟨_,.lst (a9.of upd_same) e,?_⟩;have L1:=L0.same s1;have s2:=s0.trans s1;refine ⟨_,.inl ⟨_,.inl (a9.of (s2 _ _ hA)),rfl⟩,_,rfl,by split<;>omega,by split<;>omega,?_⟩;refine cU (fun j σ H'=>∃ us ds o5,σ=[some (.ref a),some (.int way),some (.int n),some (.ref l),some (.int m),o5,none,none,none]/\DL n H' l us ds/\ds.length<=j/\aV H H') ⟨_,_,_,rfl,L1,Nat.zero_le _,s2⟩ ?_ ?_
   ·rintro j σ H4 hj ⟨us,ds,o5,rfl,L4,n4,s4⟩
    rw [Int.zero_add];have hj1:j < ns.length:=by rw [hml] at hj; split at hj<;>omega
    obtain ⟨cv,ic⟩:=cellAt s4 hj1;refine ⟨.inl ⟨rfl,_,a9.of L4.hl⟩,_,ic,.inl ⟨by decide,by decide⟩,_,_,n,rfl,by omega,by omega,hn0,by omega,fun t d H5 s5 ht hok=>?_⟩;have L5:=L4.same s5;exact ⟨l,us,_,rfl,rfl,L5.hl,aS (by rw [L5.len]; omega),_,_,_,rfl,L5.app ht hok,by rw [List.length_append]; show _+1<=j+1; omega,Kl.behind (s4.trans s5) dN hl⟩
   ·rintro σ H4 ⟨us,ds,o5,rfl,L4,n4,s4⟩
    exact q l us ds H4 hl s4 L4 (.inl (by rw [hml] at n4; split at n4<;>omega))
  ·refine ⟨by show 0<=sizeLine; decide,fun r hr'=>?_⟩
   have hr0:H r=none:=none_of s0 hr';have lr:l≠r:=ai L0.hl hr';have s1:=au (o:=.lst []) hr';have L1:=L0.same s1;have R1:RsAt n (aA H1 r (.lst [])) r [] []:=⟨upd_same,.nil⟩;have s2:=s0.trans s1;dsimp only;generalize aA H1 r (.lst [])=H2 at L1 R1 s2 ⊢;clear s1 L0 s0 hr';refine ⟨by show 2<=sizeLine; decide,fun p hp=>?_⟩;have s3:=au (o:=.lst ([6,3].map V.int)) hp;obtain ⟨m,e,m0,m6,mb,mB⟩:∃ m:Nat,il ([6,3].map V.int) (if decide ((8:Int) < (n:Int))=true then 1 else 0)=some (.int m)/\0 < m/\m<=6/\m * (4+3 * n)<=130/\((n<=5/\m=6)\/(8 < n/\n<=13/\m=3)):=by
    rcases hn1 with h | ⟨h,h'⟩
    ·rw [decide_eq_false (by omega)]
     exact ⟨6,rfl,by decide,by decide,by omega,.inl ⟨h,rfl⟩⟩
    ·rw [decide_eq_true (by omega)]
     exact ⟨3,rfl,by decide,by decide,by omega,.inr ⟨h,h',rfl⟩⟩
   refine ⟨_,.lst (a9.of upd_same) e,_,.inl ⟨_,.inl (a9.of (s3 _ _ (s2 _ _ hA))),rfl⟩,_,rfl,by split<;>omega,by split<;>omega,?_⟩;refine cU (fun j σ H'=>∃ rs dss o5,σ=[some (.ref a),some (.int way),some (.int n),some (.ref l),none,o5,some (.ref r),none,none]/\RsAt n H' r rs dss/\DL n H' l [] []/\dss.length=j/\aV H H') ⟨_,_,_,rfl,R1.same s3,L1.same s3,rfl,s2.trans s3⟩ ?_ ?_
   ·rintro j σ H4 hj ⟨rs,dss,o5,rfl,R4,L4,n4,s4⟩
    rw [Int.zero_add];have hj1:j < ns.length/\j < 6:=by rw [hml] at hj; split at hj<;>omega
    obtain ⟨cv,ic⟩:=cellAt s4 hj1.1;have lrs:rs.length=j:=(Paired.length R4.pr).trans n4;refine ⟨.inl ⟨rfl,_,a9.of R4.hl⟩,_,ic,.inl ⟨by decide,by decide⟩,_,_,n,rfl,by omega,by omega,hn0,by omega,fun l2 us2 ds2 H5 hn2 s5 L5 ln5=>?_⟩;have R5:=R4.same s5;have nt:∀ xs,H5 r≠some (.tup xs):=fun xs z=>by rw [R5.hl] at z; cases z
    exact ⟨r,rs,_,rfl,rfl,R5.hl,aS (by omega),_,_,_,rfl,R5.app L5 (fun z=>by rw [z,R4.hl] at hn2; cases hn2) ln5,(L4.same s5).kl dN lr nt,by rw [List.length_append,n4]; rfl,Kl.behind (s4.trans s5) dN hr0⟩
   ·rintro σ H4 ⟨rs,dss,o5,rfl,R4,L4,n4,s4⟩
    have lrs:rs.length=dss.length:=Paired.length R4.pr;have hm1:dss.length<=m/\dss.length<=ns.length:=by rw [hml] at n4; split at n4<;>omega
    clear n4 e;have total:dss.length * (4+3 * n)<=130:=Nat.le_trans (Nat.mul_le_mul_right _ hm1.1) mb;refine ⟨_,.inl ⟨_,.inl (a9.of R4.hl),rfl⟩,rs.length,rfl,by omega,?_⟩;refine wq (fun j σ H'=>∃ l' us ds o5 o7 o8,σ=[some (.ref a),some (.int way),some (.int n),some (.ref l'),none,o5,some (.ref r),o7,o8]/\RsAt n H' r rs dss/\DL n H' l' us ds/\H l'=none/\ds.length<=min (2 * j) dss.length * (4+3 * n)/\aV H H') ⟨l,_,_,_,_,_,rfl,R4,L4,hl,Nat.zero_le _,s4⟩ ?_ ?_
    ·rintro j σ H5 hj ⟨l',us,ds,o5,o7,o8,rfl,R5,L5,hl',n5,s5⟩
     have hj2:2 * j < dss.length:=by omega
     have b5:ds.length<=2 * j * (4+3 * n):=by rw [Nat.min_eq_left (by omega)] at n5; exact n5
     clear n5;have ek:(0+(j:Int) * 2)=((2 * j:Nat):Int):=by omega
     have cut:=wA (rs:=rs) (j:=j) (by omega);have P5:=jJ 2 (jK (2 * j) R5.pr);have ll:((dss.drop (2 * j)).take 2).length=min 2 (dss.length - 2 * j):=by rw [List.length_take,List.length_drop]
     generalize hsl:(rs.drop (2 * j)).take 2=sl at P5 cut;generalize (dss.drop (2 * j)).take 2=dsl at P5 ll;have mn:min (2 * (j+1)) dss.length=2 * j+dsl.length:=by omega
     refine ⟨by decide,_,.scal rfl,_,rfl,fx (fun _=>?_) (fun _=>?_)⟩
     ·refine ⟨_,rfl,_,rfl,.inl ⟨_,a9.of R5.hl,fun p hp=>?_⟩⟩
      rw [cut];have t1:=au (o:=.lst sl) hp;refine ⟨by show 0<=sizeLine; decide,fun e he=>⟨by show 1<=sizeLine; decide,fun mm hmm=>?_⟩⟩;have t2:=au (o:=.lst []) he;have t3:=au (o:=.lst [.ref e]) hmm;have lsl:sl.length=dsl.length:=Paired.length P5;refine .inl ⟨_,_,t3 _ _ (t2 _ _ upd_same),upd_same,Nat.le_of_lt (aS (by rw [lsl]; show _+1<=1000; omega)),fun pr hpr=>?_⟩;have t4:=au (o:=.lst (sl++[.ref e])) hpr;have sA:=((t1.trans t2).trans t3).trans t4;have he':DL n (aA (aA (aA (aA H5 p (.lst sl)) e (.lst [])) mm (.lst [.ref e])) pr (.lst (sl++[.ref e]))) e [] []:=⟨t4 _ _ (t3 _ _ upd_same),.nil,fun _ h=>nomatch h⟩;have hp':(aA (aA (aA (aA H5 p (.lst sl)) e (.lst [])) mm (.lst [.ref e])) pr (.lst (sl++[.ref e]))) pr=some (.lst (sl++[.ref e])):=upd_same;dsimp only;generalize aA (aA (aA (aA H5 p (.lst sl)) e (.lst [])) mm (.lst [.ref e])) pr (.lst (sl++[.ref e]))=H6 at sA he' hp' ⊢;have s6:=s5.trans sA;have R6:=R5.same sA;have L6:=L5.same sA;obtain ⟨cv,ic⟩:=cellAt s6 (show 2 * j < ns.length by omega);rw [<- ek] at ic;obtain ⟨x1,d1,y2,d2,i1,i2,A6,B6,le⟩:∃ x1 d1 y2 d2,Item K H6 (.ref pr) (.int 0) (.ref x1)/\Item K H6 (.ref pr) (.int 1) (.ref y2)/\(∃ u1,DL n H6 x1 u1 d1)/\(∃ u2,DL n H6 y2 u2 d2)/\d1.length+d2.length<=dsl.length * (4+3 * n):=by
       cases P5 with
       | nil=>rw [show ([]:List (List Deed)).length=0 from rfl] at ll; omega
       | cons h1 r1 =>
        obtain ⟨a1,u1,rfl,_,D1,z1⟩:=h1;cases r1 with
        | nil=>exact ⟨a1,_,e,[],.lst (a9.of hp') rfl,.lst (a9.of hp') rfl,⟨u1,D1.same sA⟩,⟨[],he'⟩,by simp; omega⟩
        | cons h2 r2 =>
         obtain ⟨a2,u2,rfl,_,D2,z2⟩:=h2;refine ⟨a1,_,a2,_,.lst (a9.of hp') (fK _ _),.lst (a9.of hp') (qu _ _ _),⟨u1,D1.same sA⟩,⟨u2,D2.same sA⟩,?_⟩;exact Nat.le_trans (m:=2 * (4+3 * n)) (by omega) (Nat.mul_le_mul_right _ (by simp))
      obtain ⟨u1,A6⟩:=A6;obtain ⟨u2,B6⟩:=B6;have d2':dsl.length * (4+3 * n)<=2 * (4+3 * n):=Nat.mul_le_mul_right _ (by omega);refine ⟨_,i1,_,i2,_,ic,n,x1,y2,cv,u1,u2,d1,d2,rfl,A6,B6,by omega,fun l2 us2 ds2 H8 hn2 s8 L8 e8=>?_⟩;have L8':=L6.same s8;have z1:=L8'.len;have z2:=L8.len;have tb:2 * j * (4+3 * n)<=130:=Nat.le_trans (Nat.mul_le_mul_right _ (by omega)) total;refine .inl ⟨_,_,L8'.hl,L8.hl,Nat.le_of_lt (aS (by omega)),fun p2 hp2=>?_⟩;have s9:=au (o:=.lst (us++us2)) hp2;have sZ:=(s6.trans s8).trans s9;exact ⟨p2,_,_,_,_,_,rfl,(R6.same s8).same s9,L8'.cat L8 hp2,none_of (s6.trans s8) hp2,by rw [mn,Nat.add_mul,List.length_append]; omega,sZ⟩
     ·refine ⟨_,rfl,_,rfl,.inl ⟨_,a9.of R5.hl,fun p hp=>?_⟩⟩
      rw [cut];have t1:=au (o:=.lst sl) hp;refine ⟨p,rfl,⟨_,a9.of upd_same⟩,?_⟩;have lsl:sl.length=dsl.length:=Paired.length P5;have tb:2 * j * (4+3 * n)<=130:=Nat.le_trans (Nat.mul_le_mul_right _ (by omega)) total;have B43:4+3 * n<=43:=by omega
      refine fD (xs:=sl) (fun i σ H'=>∃ l' us ds o8,σ=[some (.ref a),some (.int way),some (.int n),some (.ref l'),none,some (.int (0+(j:Int) * 2)),some (.ref r),o7,o8]/\RsAt n H' r rs dss/\DL n H' l' us ds/\H l'=none/\ds.length<=2 * j * (4+3 * n)+i * (4+3 * n)/\aV H H'/\aV (aA H5 p (.lst sl)) H') ⟨l',_,_,_,rfl,R5.same t1,L5.same t1,hl',by omega,s5.trans t1,fun _ _ e=>e⟩ ?_ ?_ ?_
      ·rintro i σ H' _ ⟨_,_,_,_,_,_,_,_,_,_,sq⟩
       exact a9.of (sq _ _ upd_same)
      ·rintro i x σ H' hx ⟨l2,us2,ds2,o8',rfl,R6,L6,hl6,n6,s6,sq⟩
       obtain ⟨dd,hd,a1,u1,rfl,_,D1,z1⟩:=bN P5 hx;have D1':=(D1.same t1).same sq;have hi:i < 2:=by
        have:i < sl.length:=by
         by_cases h:i < sl.length
         ·exact h
         ·rw [List.getElem?_eq_none (by omega)] at hx; cases hx
        omega
       have ib:i * (4+3 * n)<=43:=Nat.le_trans (Nat.mul_le_mul_right _ (show i<=1 by omega)) (by omega);have z2:=L6.len;have z3:=D1'.len;refine .inl ⟨_,_,L6.hl,D1'.hl,Nat.le_of_lt (aS (by omega)),fun p2 hp2=>?_⟩;have s9:=au (o:=.lst (us2++u1)) hp2;exact ⟨p2,_,_,_,rfl,R6.same s9,L6.cat D1' hp2,none_of s6 hp2,by rw [Nat.add_mul,List.length_append]; omega,s6.trans s9,sq.trans s9⟩
      ·rintro σ H' ⟨l2,us2,ds2,o8',rfl,R6,L6,hl6,n6,s6,sq⟩
       exact ⟨l2,_,_,_,_,_,rfl,R6,L6,hl6,by rw [mn,Nat.add_mul,<- lsl]; exact n6,s6⟩
    ·rintro σ H5 ⟨l',us,ds,o5,o7,o8,rfl,R5,L5,hl',n5,s5⟩
     refine q l' us ds H5 hl' s5 L5 ?_;rw [Nat.min_eq_right (by omega)] at n5;have n6:=Nat.le_trans n5 (Nat.mul_le_mul_right (4+3 * n) hm1.1);rcases mB with ⟨h,rfl⟩ | ⟨h,h',rfl⟩
     ·exact .inr (.inl ⟨h,n6⟩)
     ·exact .inr (.inr ⟨h,h',n6⟩)
end
abbrev Wt:=Int×Int×Int×Str
abbrev Bu (p:Wt):List V:=[.int p.1,.int p.2.1,.int p.2.2.1,.str p.2.2.2]
abbrev o_ (H:Hp) (us:List V) (ws:List Wt):Prop:=Paired (fun u (p:Wt)=>∃ a,u=V.ref a/\H a=some (.tup (Bu p))) us ws
noncomputable def xW:Sp:=fun vs H Q _=>∃ (l:Addr) (n:Int) (us:List V) (ws:List Wt),vs=[.ref l,.int n]/\H l=some (.lst us)/\o_ H us ws/\(∀ m j p v,(m,j,p,v)∈ws->0<=m/\(0<=j/\j < n)/\0<=p)/\∀ H',aV H H'->Q (.bl true) H'
section
variable {P:Program}{w:World}{K:Frag}{mg:Str->Option Value}{base:Heap}
theorem jy (NB:NBs mg) (O_whole:L2.Own P w K mg base "_law_whole" 1 ["_law_found"] nU) (D:DefAt K mg "_law_are_writings" dF ["_law_found","_law_count"]):L2.Own P w K mg base "_law_are_writings" 2 ["_law_found","_law_count"] xW:=by
 refine D.own f9 (fun vs H Q E h=>?_) (fun f cdv A outer s H vs Q E hr h=>?_)
 ·obtain ⟨l,n,us,ws,rfl,_⟩:=h; rfl
 ·obtain ⟨l,n,us,ws,rfl,hl,W,ok,k⟩:=h
  have hu:=bM hr;have nd:=f9.nd;refine ⟨_,(ad (aQ (bZ (bn (aG aD (by rfl) NB.isinstance aI (ac (nv 0) (ac (nt NB.list du) aj))))) (aq (az bo)) aC)
 (ad (cq PassesOwn.never rfl (cP (nv 0)) (bi nd 2) (ad (aQ (PW.pt (dI (bZ (bn (aG aD (by rfl) NB.isinstance aI (ac (nv 2) (ac (nt NB.tuple iO) aj))))) (dI (aF (dq hr) (aG br (by rfl) NB.len cK (ac (nv 2) aj)) ao (aK _)) (cX (bZ (bn (aG aD (by rfl) NB.isinstance aI (ac (ax (ba hu) (nv 2) ao (fun _ _=>rfl)) (ac (nt NB.str jc) aj))))))))) (aq (az bo)) aC)
 (ad (cq PassesOwn.never rfl (vj (dw wI (nv 2) gA (c8 ao))) (bi nd 3) (aq (aQ (PW.pt (dI (bZ (bn (a_ O_whole hr rfl (ac (nv 3) aj)))) (cX (aF fL (nv 3) ao (aK _))))) (aq (az bo)) aC)))
 (aq (aQ (aF vo (ax (ba hu) (nv 2) ao (fun _ _=>rfl)) (nv 1) (aK _)) (aq (az bo)) aC)))))
 (aq (az bo)))),?_⟩
  refine ⟨_,true,.lst hl,dD K,_,rfl,dJ ?_⟩;refine ⟨l,rfl,⟨us,a9.of hl⟩,?_⟩;refine fD (xs:=us) (fun i σ H1=>∃ o2 o3,σ=[some (.ref l),some (.int n),o2,o3]/\aV H H1) ⟨_,_,rfl,aV.refl _⟩ (fun i σ H1 _ ⟨_,_,_,s1⟩=>a9.of (s1 _ _ hl)) ?_ ?_
  ·rintro i x σ H1 hx ⟨o2,o3,rfl,s1⟩
   obtain ⟨y,hy,a,rfl,ha⟩:=bN W hx;have ha:=s1 _ _ ha;obtain ⟨m,j,p,v⟩:=y;obtain ⟨o1,⟨o2,o3⟩,o4⟩:=ok m j p v (List.mem_of_getElem? hy);refine ⟨_,true,.tup ha,eQ K,_,rfl,dJ ?_⟩;refine ⟨4,.inl ⟨_,.inr (bu.of ha),rfl⟩,_,.scal rfl,_,rfl,gN rfl ?_⟩;refine ⟨.str v,.tup (bu.of ha) (by rfl),_,true,.str _,dQ K,_,rfl,dJ ?_⟩;refine ⟨3,rfl,.inr ⟨a,_,rfl,bu.of ha,by show ¬ (HT.sIx 4 0 none=0/\HT.sIx 4 4 (some 3)=4); decide,fun q nq=>?_⟩⟩;rw [show im (Bu (m,j,p,v)) none (some 3)=[.int m,.int j,.int p] from rfl];have s2:=au (o:=.tup [.int m,.int j,.int p]) nq;refine ⟨q,rfl,⟨_,bu.of upd_same⟩,?_⟩;refine sX (xs:=[.int m,.int j,.int p]) (fun i σ H2=>∃ o3,σ=[some (.ref l),some (.int n),some (.ref a),o3]/\H2=aA H1 q (.tup [.int m,.int j,.int p])) ⟨_,rfl,rfl⟩ (fun i σ H2 _ ⟨_,_,e⟩=>by rw [e]; exact bu.of upd_same) ?_ ?_
   ·rintro i x σ H2 hx ⟨o3,rfl,rfl⟩
    obtain ⟨z,rfl,hz⟩:∃ z:Int,x=.int z/\0<=z:=by
     match i,hx with
     | 0,h=>cases h; exact ⟨m,rfl,o1⟩
     | 1,h=>cases h; exact ⟨j,rfl,o2⟩
     | 2,h=>cases h; exact ⟨p,rfl,o4⟩
     | k+3,h=>simp at h
    refine ⟨z,rfl,_,rfl,dJ ?_⟩;refine ⟨_,rfl,bv (by omega) ?_⟩;exact ⟨_,rfl,rfl⟩
   ·rintro σ H2 ⟨o3,rfl,rfl⟩
    refine ⟨.int j,.tup (bu.of (s2 _ _ ha)) (by rfl),_,rfl,bv (by omega) ?_⟩;exact ⟨_,_,rfl,s1.trans s2⟩
  ·rintro σ H1 ⟨o2,o3,rfl,s1⟩
   exact k H1 s1
end
end K08
namespace Hl
open PySem L2
structure QL where
 num:Int
 heard:List Int
 best:bJ
 said:Option (List (Int×Str))
structure QH where
 cnt:Int
 prom:List Int
 seen:List Int
 rows:List bJ
 leads:List (Option QL)
 up:List Bool
 wrs:List (Int×Int×Int×Str)
noncomputable def bF (n:Nat):QH:=⟨n,List.replicate n (-1),List.replicate n (-1),List.replicate n [],List.replicate n none,List.replicate n true,[]⟩
noncomputable def dm (cnt:Int) (q:QL) (j:Int) (row:bJ):QL:=match q.said with
 | some _=>{ q with heard:=cA q.heard j }
 | none=>if cnt < 2 * ((cA q.heard j).length:Int) then { q with heard:=cA q.heard j,best:=row.foldl aR q.best,said:=some ((row.foldl aR q.best).foldl (fun s e=>aJ s e.1 e.2.2) []) }
  else { q with heard:=cA q.heard j,best:=row.foldl aR q.best }
noncomputable def f7 (B:QH) (own num:Int):QH:={ B with seen:=B.seen.set own.toNat (if B.seen.getD own.toNat 0 < num then num else B.seen.getD own.toNat 0),leads:=B.leads.set own.toNat none }
noncomputable def upQ (B:QH) (o:Int):Bool:=B.up.getD o.toNat false
noncomputable def eX (B:QH) (o:Int):Option QL:=B.leads.getD o.toNat none
noncomputable def promQ (B:QH) (o:Int):Int:=B.prom.getD o.toNat 0
noncomputable def gJ (B:QH) (o:Int):QH×Ans:=if upQ B o=true then
  ({ B with seen:=B.seen.set o.toNat (aM B.cnt o (B.seen.getD o.toNat 0)),leads:=B.leads.set o.toNat (some ⟨aM B.cnt o (B.seen.getD o.toNat 0),[],[],none⟩) },.int (aM B.cnt o (B.seen.getD o.toNat 0)))
 else (B,.non)
noncomputable def io (B:QH) (o p:Int):QH×Ans:=match eX B o with
 | none=>(B,.non)
 | some q=>if upQ B p=true then
   if q.num < promQ B p then (f7 B o (promQ B p),.bl false)
   else ({ B with prom:=B.prom.set p.toNat q.num,leads:=B.leads.set o.toNat (some (dm B.cnt q p (B.rows.getD p.toNat []))) },.bl true)
  else (B,.non)
noncomputable def jS (B:QH) (o:Int) (sy:Str):QH×Ans:=match eX B o with
 | none=>(B,.non)
 | some q=>match q.said with
  | none=>(B,.non)
  | some s=>({ B with leads:=B.leads.set o.toNat (some { q with said:=some (aJ s (b_ s) sy) }) },.int (b_ s))
noncomputable def cB (B:QH) (o p pl:Int):QH×Ans:=match eX B o with
 | none=>(B,.non)
 | some q=>match q.said with
  | none=>(B,.non)
  | some s=>if upQ B p=true then match ay s pl with
    | none=>(B,.non)
    | some sy=>if q.num < promQ B p then (f7 B o (promQ B p),.bl false)
     else ({ B with prom:=B.prom.set p.toNat q.num,rows:=B.rows.set p.toNat (aJ (B.rows.getD p.toNat []) pl (q.num,sy)),wrs:=B.wrs++[(q.num,p,pl,sy)] },.bl true)
   else (B,.non)
noncomputable def iq (B:QH) (o:Int):QH×Ans:=({ B with up:=B.up.set o.toNat false,leads:=B.leads.set o.toNat none },.bl (upQ B o))
noncomputable def kI (B:QH) (o:Int):QH×Ans:=({ B with up:=B.up.set o.toNat true },.bl (!upQ B o))
noncomputable def nz (B:QH) (i:Int):Bool:=decide (0<=i)&&decide (i < B.cnt)
noncomputable def dj (B:QH):Deed->QH×Ans
 | .rise o=>if nz B o=true then gJ B o else (B,.str "no scribe")
 | .ask o p=>if nz B o=true then (if nz B p=true then io B o p else (B,.str "no scribe")) else (B,.str "no scribe")
 | .say o s=>if nz B o=true then jS B o s else (B,.str "no scribe")
 | .write o p pl=>if nz B o=true then (if nz B p=true then cB B o p pl else (B,.str "no scribe")) else (B,.str "no scribe")
 | .settled _=>(B,.non)
 | .stop o=>if nz B o=true then iq B o else (B,.str "no scribe")
 | .wake o=>if nz B o=true then kI B o else (B,.str "no scribe")
structure LSim (A:PH) (l:PLd) (q:QL):Prop where
 num:q.num=l.num
 cl:l.op=false->q.said=none/\q.heard.Nodup/\(∀ j,j∈q.heard↔(ay l.told j).isSome=true)/\(q.best.map (·.1)).Nodup /\
  (∀ p e,ay q.best p=some e->e.1 < l.num/\∃ j,(ay l.told j).isSome=true/\(e.1,j,p,e.2)∈A.wrs)/\∀ j row p e,(j,row)∈l.told->(p,e)∈row->∃ e',ay q.best p=some e'/\e.1<=e'.1
 op:l.op=true->∃ s,q.said=some s/\∀ p,ay s p=ay l.said p
theorem LSim.mono {A A':PH}{l:PLd}{q:QL} (X:LSim A l q) (h:∀ w∈A.wrs,w∈A'.wrs):LSim A' l q :=
 ⟨X.num,fun z=>let ⟨a,b,c,d,e,f⟩:=X.cl z; ⟨a,b,c,d,fun p x hx=>let ⟨e1,j,e2,e3⟩:=e p x hx; ⟨e1,j,e2,h _ e3⟩,f⟩,X.op⟩
structure Sim (A:PH) (B:QH):Prop where
 cnt:B.cnt=A.cnt
 prom:B.prom=A.scrs.map (·.prom)
 seen:B.seen=A.scrs.map (·.seen)
 rows:B.rows=A.scrs.map (·.row)
 wrs:B.wrs=A.wrs
 upl:B.up.length=A.scrs.length
 up:∀ i:Nat,i < A.scrs.length->B.up[i]? = some (decide ((i:Int)∉A.stop))
 ldl:B.leads.length=A.scrs.length
 ld:∀ i:Nat,i < A.scrs.length->(ay A.leads (i:Int)=none/\B.leads[i]? = some none)\/∃ l q,ay A.leads (i:Int)=some l/\B.leads[i]? = some (some q)/\LSim A l q
 st:∀ o∈A.stop,ay A.leads o=none
theorem Sim.init (n:Nat):Sim (init n) (bF n):=by
 refine ⟨rfl,by simp [bF,Hl.init,nB],by simp [bF,Hl.init,nB],by simp [bF,Hl.init,nB],rfl,by simp [bF,Hl.init],fun i hi=>?_,by simp [bF,Hl.init],fun i hi=>?_,?_⟩
 ·have:i < n:=by simpa [Hl.init] using hi
  simp [bF,Hl.init,this]
 ·have:i < n:=by simpa [Hl.init] using hi
  exact .inl ⟨rfl,by simp [bF,this]⟩
 ·intro o h; exact nomatch h
section
variable {A:PH}{B:QH}
theorem Sim.ok (X:Sim A B) (i:Int):nz B i=aW A i:=by unfold nz aW; rw [X.cnt]
theorem gf (S:Sf A) {o:Int} (h:aW A o=true):∃ n:Nat,o=n/\n < A.scrs.length:=by
 unfold aW at h;simp at h;have:=S.ln;exact ⟨o.toNat,by omega,by omega⟩
theorem Sim.upQ (X:Sim A B) {n:Nat} (h:n < A.scrs.length):upQ B (n:Int)=decide ((n:Int)∉A.stop):=by
 unfold Hl.upQ;rw [Int.toNat_natCast,List.getD_eq_getElem?_getD,X.up n h]; rfl
theorem Sim.seenQ (X:Sim A B) {n:Nat}{s:PScr} (h:A.scrs[n]? = some s):B.seen.getD n 0=s.seen:=by
 rw [X.seen,List.getD_eq_getElem?_getD,List.getElem?_map,h]; rfl
theorem Sim.promQ (X:Sim A B) {n:Nat}{s:PScr} (h:A.scrs[n]? = some s):promQ B (n:Int)=s.prom:=by
 unfold Hl.promQ;rw [Int.toNat_natCast,X.prom,List.getD_eq_getElem?_getD,List.getElem?_map,h]; rfl
theorem Sim.rowQ (X:Sim A B) {n:Nat}{s:PScr} (h:A.scrs[n]? = some s):B.rows.getD n []=s.row:=by
 rw [X.rows,List.getD_eq_getElem?_getD,List.getElem?_map,h]; rfl
theorem map_set {α β:Type} (f:α->β) (l:List α) (n:Nat) (x:α):(l.map f).set n (f x)=(l.set n x).map f:=by rw [List.map_set]
theorem cw {α β:Type} (f:α->β) (l:List α) (n:Nat) (x y:α) (h:l[n]? = some y) (e:f x=f y):l.map f=(l.set n x).map f:=by
 apply List.ext_getElem?;intro i;rw [List.getElem?_map,List.getElem?_map,List.getElem?_set]
 by_cases z:n=i
 ·subst z
  have hl:=(List.getElem?_eq_some_iff.mp h).1;rw [if_pos rfl,if_pos hl,h]; simp [e]
 ·rw [if_neg z]
theorem Sim.leadset (X:Sim A B) {n:Nat} (hn:n < A.scrs.length) {A':PH}{x:Option QL} (hl:A'.scrs.length=A.scrs.length) (hw:∀ w∈A.wrs,w∈A'.wrs) (hg:∀ i:Nat,i≠n->ay A'.leads (i:Int)=ay A.leads (i:Int))
  (hx:(ay A'.leads (n:Int)=none/\x=none)\/∃ l q,ay A'.leads (n:Int)=some l/\x=some q/\LSim A' l q) :
  ∀ i:Nat,i < A'.scrs.length->(ay A'.leads (i:Int)=none/\(B.leads.set n x)[i]? = some none)\/∃ l q,ay A'.leads (i:Int)=some l/\(B.leads.set n x)[i]? = some (some q)/\LSim A' l q:=by
 intro i hi;rw [List.getElem?_set]
 by_cases z:n=i
 ·subst z
  rw [if_pos rfl,if_pos (by rw [X.ldl]; exact hn)];rcases hx with ⟨h1,h2⟩ | ⟨l,q,h1,h2,h3⟩
  ·exact .inl ⟨h1,by rw [h2]⟩
  ·exact .inr ⟨l,q,h1,by rw [h2],h3⟩
 ·rw [if_neg z,hg i (Ne.symm z)]
  rcases X.ld i (by omega) with h | ⟨l,q,h1,h2,h3⟩
  ·exact .inl h
  ·exact .inr ⟨l,q,h1,h2,h3.mono hw⟩
theorem Sim.ldsame (X:Sim A B) {A':PH} (hs:A'.scrs.length=A.scrs.length) (hl:A'.leads=A.leads) (hw:∀ w∈A.wrs,w∈A'.wrs) :
  ∀ i:Nat,i < A'.scrs.length->(ay A'.leads (i:Int)=none/\B.leads[i]? = some none)\/∃ l q,ay A'.leads (i:Int)=some l/\B.leads[i]? = some (some q)/\LSim A' l q:=fun i hi=>by
 rw [hl];rcases X.ld i (by omega) with h | ⟨l,q,h1,h2,h3⟩
 ·exact .inl h
 ·exact .inr ⟨l,q,h1,h2,h3.mono hw⟩
end
section
variable {A:PH}{B:QH}
theorem b8 {s:PScr}{n:Nat}:(A.scrs.set n s).length=A.scrs.length:=List.length_set
theorem Sim.rise (S:Sf A) (X:Sim A B) {o:Int} (h:aW A o=true):(gJ B o).2=(eN A o).2/\Sim (eN A o).1 (gJ B o).1:=by
 obtain ⟨n,rfl,hn⟩:=gf S h;have hs:=List.getElem?_eq_getElem hn;generalize A.scrs[n]=s at hs;unfold gJ eN;rw [X.upQ hn,Int.toNat_natCast,X.seenQ hs,X.cnt]
 by_cases hu:(n:Int)∈A.stop
 ·rw [if_pos hu,if_neg (by simp [hu])]; exact ⟨rfl,X⟩
 ·rw [if_neg hu,if_pos (by simp [hu]),hs]
  refine ⟨rfl,?_⟩;refine ⟨rfl,?_,?_,?_,X.wrs,by show B.up.length=(A.scrs.set n _).length; rw [b8]; exact X.upl,fun i hi=>X.up i (by show i < A.scrs.length; rw [<- b8 (A:=A)]; exact hi),by show (B.leads.set n _).length=(A.scrs.set n _).length; rw [b8,List.length_set]; exact X.ldl,?_,fun o ho=>?_⟩
  ·rw [X.prom]; exact cw _ _ _ _ _ hs rfl
  ·show B.seen.set n _=_; rw [X.seen]; exact map_set (fun s:PScr=>s.seen) _ _ { s with seen:=aM A.cnt n s.seen }
  ·rw [X.rows]; exact cw _ _ _ _ _ hs rfl
  ·refine X.leadset hn (A':={ A with scrs:=A.scrs.set n { s with seen:=aM A.cnt n s.seen },leads:=aJ A.leads (n:Int) (mG (aM A.cnt n s.seen)) }) b8 (fun _ h=>h) (fun i hi=>by rw [aP,if_neg (by omega)]) (.inr ⟨mG (aM A.cnt n s.seen),_,by rw [aP,if_pos rfl],rfl,?_⟩)
   refine ⟨rfl,fun _=>⟨rfl,List.nodup_nil,fun j=>by simp [mG,ay],List.nodup_nil,(fun p e z=>by cases z),fun j row p e z=>by cases z⟩,fun z=>by cases z⟩
  ·show ay (aJ A.leads (n:Int) _) o=none
   rw [aP,if_neg (fun z=>hu (by rw [<- z]; exact ho))]; exact X.st o ho
theorem Sim.stop (S:Sf A) (X:Sim A B) {o:Int} (h:aW A o=true):(iq B o).2=(d8 A o).2/\Sim (d8 A o).1 (iq B o).1:=by
 obtain ⟨n,rfl,hn⟩:=gf S h;unfold iq d8;rw [X.upQ hn,Int.toNat_natCast]
 by_cases hu:(n:Int)∈A.stop
 ·rw [if_pos hu]
  refine ⟨by simp [hu],?_⟩;refine ⟨X.cnt,X.prom,X.seen,X.rows,X.wrs,by show (B.up.set n _).length=_; rw [List.length_set]; exact X.upl,fun i hi=>?_,by show (B.leads.set n _).length=_; rw [List.length_set]; exact X.ldl,?_,X.st⟩
  ·show (B.up.set n false)[i]? = _
   rw [List.getElem?_set]
   by_cases z:n=i
   ·subst z; rw [if_pos rfl,if_pos (by rw [X.upl]; exact hn)]; simp [hu]
   ·rw [if_neg z]; exact X.up i hi
  ·exact X.leadset hn (A':=A) rfl (fun _ h=>h) (fun i hi=>rfl) (.inl ⟨X.st _ hu,rfl⟩)
 ·rw [if_neg hu]
  refine ⟨by simp [hu],?_⟩;refine ⟨X.cnt,X.prom,X.seen,X.rows,X.wrs,by show (B.up.set n _).length=_; rw [List.length_set]; exact X.upl,fun i hi=>?_,by show (B.leads.set n _).length=_; rw [List.length_set]; exact X.ldl,?_,fun o ho=>?_⟩
  ·show (B.up.set n false)[i]? = some (decide ((i:Int)∉A.stop++[(n:Int)]))
   rw [List.getElem?_set]
   by_cases z:n=i
   ·subst z; rw [if_pos rfl,if_pos (by rw [X.upl]; exact hn)]; simp
   ·rw [if_neg z,X.up i hi]
    congr 1
    rw [decide_eq_decide];simp only [List.mem_append,List.mem_singleton,not_or];exact ⟨fun h=>⟨h,by omega⟩,fun h=>h.1⟩
  ·exact X.leadset hn (A':={ A with stop:=A.stop++[(n:Int)],leads:=cc A.leads (n:Int) }) rfl (fun _ h=>h) (fun i hi=>by rw [cN,if_neg (by omega)]) (.inl ⟨by rw [cN,if_pos rfl],rfl⟩)
  ·show ay (cc A.leads (n:Int)) o=none
   rw [cN];split
   ·rfl
   ·next z =>
    rcases List.mem_append.mp ho with h | h
    ·exact X.st o h
    ·exact absurd (List.mem_singleton.mp h) z
theorem Sim.wake (S:Sf A) (X:Sim A B) {o:Int} (h:aW A o=true):(kI B o).2=(eV A o).2/\Sim (eV A o).1 (kI B o).1:=by
 obtain ⟨n,rfl,hn⟩:=gf S h;unfold kI eV;rw [X.upQ hn,Int.toNat_natCast]
 by_cases hu:(n:Int)∈A.stop
 ·rw [if_pos hu]
  refine ⟨by simp [hu],?_⟩;refine ⟨X.cnt,X.prom,X.seen,X.rows,X.wrs,by show (B.up.set n _).length=_; rw [List.length_set]; exact X.upl,fun i hi=>?_,X.ldl,X.ldsame rfl rfl (fun _ h=>h),fun o ho=>X.st o (List.mem_filter.mp ho).1⟩;show (B.up.set n true)[i]? = some (decide ((i:Int)∉A.stop.filter fun k=>decide (k≠(n:Int))));rw [List.getElem?_set]
  by_cases z:n=i
  ·subst z; rw [if_pos rfl,if_pos (by rw [X.upl]; exact hn)]; simp
  ·rw [if_neg z,X.up i hi]
   congr 1
   rw [decide_eq_decide];simp only [List.mem_filter,decide_eq_true_eq,not_and,Classical.not_not];exact ⟨fun h h'=>absurd h' h,fun h h'=>absurd (h h') (by omega)⟩
 ·rw [if_neg hu]
  refine ⟨by simp [hu],?_⟩;refine ⟨X.cnt,X.prom,X.seen,X.rows,X.wrs,by show (B.up.set n _).length=_; rw [List.length_set]; exact X.upl,fun i hi=>?_,X.ldl,X.ld,X.st⟩;show (B.up.set n true)[i]? = _;rw [List.getElem?_set]
  by_cases z:n=i
  ·subst z; rw [if_pos rfl,if_pos (by rw [X.upl]; exact hn)]; simp [hu]
  ·rw [if_neg z]; exact X.up i hi
end
theorem i8 {β:Type}:∀ {l:List (Int×β)}{k:Int}{v:β},(l.map (·.1)).Nodup->(k,v)∈l->ay l k=some v
 | q :: l,k,v,nd,h=>by
  rw [List.map_cons,List.nodup_cons] at nd;rcases List.mem_cons.mp h with z | z
  ·subst z; unfold ay; rw [List.find?_cons_of_pos (by simp)]; rfl
  ·have:q.1≠k:=fun e=>nd.1 (by rw [e]; exact List.mem_map.mpr ⟨_,z,rfl⟩)
   have ih:=i8 nd.2 z;unfold ay at ih ⊢;rw [List.find?_cons_of_neg (by simp [this])]; exact ih
theorem vx (said:List (Int×Str)) {m:Nat} (h:m < b_ said):(ay said (m:Int)).isSome=true:=by
 unfold b_ at h;cases q:(List.range (said.length+1)).find? fun n:Nat=>(ay said (n:Int)).isNone with
 | none=>rw [q] at h; exact absurd h (by simp)
 | some k =>
  rw [q] at h;have h:m < k:=h;rw [List.find?_range_eq_some] at q;have:=q.2.2 m h;cases z:ay said (m:Int) with
  | none=>rw [z] at this; exact absurd this (by simp)
  | some _=>rfl
theorem vy {s t:List (Int×Str)} (h:∀ p,ay s p=ay t p):b_ s=b_ t:=by
 rcases Nat.lt_trichotomy (b_ s) (b_ t) with z | z | z
 ·have:=vx t z
  rw [<- h,jo] at this; cases this
 ·exact z
 ·have:=vx s z
  rw [h,jo] at this; cases this
theorem uK {b:bJ} (nd:(b.map (·.1)).Nodup):jd b b:=fun p=>by
 cases h:ay b p with
 | none=>exact .inl ⟨rfl,fun e he=>by have:=cz.mp h; exact this (List.mem_map.mpr ⟨_,he,rfl⟩)⟩
 | some e=>exact .inr ⟨e,rfl,bj h,fun e' he=>by rw [i8 nd he] at h; cases h; exact Int.le_refl _⟩
theorem sY:∀ (l:bJ) (b:bJ),(b.map (·.1)).Nodup->((l.foldl aR b).map (·.1)).Nodup
 | [],b,h=>h
 | q :: l,b,h=>sY l _ (je h q)
theorem tF {l:List Int}{j:Int} (h:l.Nodup):(cA l j).Nodup:=by
 unfold cA;split
 ·exact h
 ·next z=>rw [List.nodup_append]; exact ⟨h,by simp,fun a ha b hb=>by rw [List.mem_singleton.mp hb]; rintro rfl; exact z ha⟩
theorem pZ {l:List Int}{j k:Int}:k∈cA l j↔k∈l\/k=j:=by
 unfold cA;split
 ·next z=>exact ⟨.inl,fun h=>h.elim id fun e=>e ▸ z⟩
 ·simp
theorem rq {β:Type}{l:List (Int×β)}{k:Int}:(ay l k).isSome=true↔k∈l.map (·.1):=by
 cases h:ay l k with
 | none=>simp only [Option.isSome_none,Bool.false_eq_true,false_iff]; exact cz.mp h
 | some v=>simp only [Option.isSome_some,true_iff]; exact List.mem_map.mpr ⟨_,bj h,rfl⟩
section
variable {A:PH}{B:QH}
theorem Sim.lead (X:Sim A B) {n:Nat} (hn:n < A.scrs.length):(ay A.leads (n:Int)=none/\eX B (n:Int)=none)\/∃ l q,ay A.leads (n:Int)=some l/\eX B (n:Int)=some q/\LSim A l q:=by
 unfold eX;rw [Int.toNat_natCast,List.getD_eq_getElem?_getD];rcases X.ld n hn with ⟨h1,h2⟩ | ⟨l,q,h1,h2,h3⟩
 ·exact .inl ⟨h1,by rw [h2]; rfl⟩
 ·exact .inr ⟨l,q,h1,by rw [h2]; rfl,h3⟩
theorem Sim.say (S:Sf A) (X:Sim A B) {o:Int}{sy:Str} (h:aW A o=true):(jS B o sy).2=(f_ A o sy).2/\Sim (f_ A o sy).1 (jS B o sy).1:=by
 obtain ⟨n,rfl,hn⟩:=gf S h;unfold jS f_;rcases X.lead hn with ⟨h1,h2⟩ | ⟨l,q,h1,h2,L⟩
 ·rw [h1,h2]; exact ⟨rfl,X⟩
 rw [h1,h2];dsimp only;cases ho:l.op with
 | false =>
  rw [(L.cl ho).1];exact ⟨rfl,X⟩
 | true =>
  obtain ⟨s,hs,e⟩:=L.op ho;rw [hs,if_pos rfl];dsimp only;refine ⟨by rw [vy e],?_⟩;refine ⟨X.cnt,X.prom,X.seen,X.rows,X.wrs,X.upl,X.up,by rw [Int.toNat_natCast]; show (B.leads.set n _).length=_; rw [List.length_set]; exact X.ldl,?_,fun o hoo=>?_⟩
  ·rw [Int.toNat_natCast]
   refine X.leadset hn (A':={ A with leads:=aJ A.leads (n:Int) (tI l sy) }) rfl (fun _ h=>h) (fun i hi=>by rw [aP,if_neg (by omega)]) (.inr ⟨tI l sy,_,by rw [aP,if_pos rfl],rfl,?_⟩);refine ⟨L.num,fun z=>?_,fun _=>⟨_,rfl,fun p=>?_⟩⟩
   ·have z:l.op=false:=z
    rw [ho] at z; cases z
   ·show ay (aJ s _ sy) p=ay (aJ l.said _ sy) p
    rw [aP,aP,vy e,e]
  ·show ay (aJ A.leads (n:Int) _) o=none
   rw [aP,if_neg (fun z=>by have:=X.st o hoo; rw [z,h1] at this; cases this)]; exact X.st o hoo
theorem Sim.fall (X:Sim A B) {n:Nat} (hn:n < A.scrs.length) (num:Int):Sim (eY A n num) (f7 B n num):=by
 have hs:=List.getElem?_eq_getElem hn;generalize A.scrs[n]=s at hs;unfold eY f7;rw [Int.toNat_natCast,hs,X.seenQ hs];dsimp only;refine ⟨X.cnt,?_,?_,?_,X.wrs,by show B.up.length=(A.scrs.set n _).length; rw [b8]; exact X.upl,fun i hi=>X.up i (by show i < A.scrs.length; rw [<- b8 (A:=A)]; exact hi),by show (B.leads.set n _).length=(A.scrs.set n _).length; rw [b8,List.length_set]; exact X.ldl,?_,fun o ho=>?_⟩
 ·rw [X.prom]; exact cw _ _ _ _ _ hs rfl
 ·show B.seen.set n _=_; rw [X.seen]; exact map_set (fun s:PScr=>s.seen) _ _ { s with seen:=if s.seen < num then num else s.seen }
 ·rw [X.rows]; exact cw _ _ _ _ _ hs rfl
 ·exact X.leadset hn (A':={ A with leads:=cc A.leads (n:Int),scrs:=A.scrs.set n { s with seen:=if s.seen < num then num else s.seen } }) b8 (fun _ h=>h) (fun i hi=>by rw [cN,if_neg (by omega)]) (.inl ⟨by rw [cN,if_pos rfl],rfl⟩)
 ·show ay (cc A.leads (n:Int)) o=none
  rw [cN];split
  ·rfl
  ·exact X.st o ho
end
section
variable {A:PH}{B:QH}
theorem LSim.hear (S:Sf A) {o:Int}{l:PLd}{q:QL} (L:LSim A l q) (hl:ay A.leads o=some l) {j:Nat}{s:PScr} (hs:A.scrs[j]? = some s) (hp:¬ l.num < s.prom):LSim A (cY A.cnt l j s.row) (dm A.cnt q j s.row):=by
 have LO:=S.ld o l hl;have hln:=S.ln;have hj:=(List.getElem?_eq_some_iff.mp hs).1;cases ho:l.op with
 | true =>
  obtain ⟨t,ht,e⟩:=L.op ho;have e1:cY A.cnt l j s.row=l:=by unfold cY; rw [if_pos ho]
  have e2:dm A.cnt q j s.row={ q with heard:=cA q.heard j }:=by unfold dm; rw [ht]
  rw [e1,e2];exact ⟨L.num,(fun z=>by rw [ho] at z; cases z),fun _=>⟨t,ht,e⟩⟩
 | false =>
  obtain ⟨c1,c2,c3,c4,c5,c6⟩:=L.cl ho;obtain ⟨d1,d2,d3,d4⟩:=LO.cl ho;have row_wr:∀ p e,(p,e)∈s.row->(e.1,(j:Int),p,e.2)∈A.wrs/\e.1 < l.num:=fun p e he=>by
   have w:=S.ro j s hs p e he;have:=S.wp _ _ _ _ s w (by rw [Int.toNat_natCast]; exact hs);have ne:=d1 _ w;exact ⟨w,by have ne:e.1≠l.num:=ne; omega⟩
  have nd':=dR (j:Int) s.row d3;have len:(cA q.heard (j:Int)).length=(aJ l.told (j:Int) s.row).length:=by
   have p:(cA q.heard (j:Int)).Perm ((aJ l.told (j:Int) s.row).map (·.1)):=(List.perm_ext_iff_of_nodup (tF c2) nd').mpr fun k=>by
    rw [pZ,<- rq,aP,c3]
    by_cases z:k=(j:Int)
    ·simp [z]
    ·simp [z]
   rw [p.length_eq,List.length_map]
  have bI:=jq s.row q.best q.best (uK c4);have bnd:=sY s.row q.best c4;have get':∀ k:Int,(ay (aJ l.told (j:Int) s.row) k).isSome=true↔k=(j:Int)\/(ay l.told k).isSome=true:=fun k=>by
   rw [aP]
   by_cases z:k=(j:Int)
   ·simp [z]
   ·simp [z]
  have f5:∀ p e,ay (s.row.foldl aR q.best) p=some e->e.1 < l.num/\∃ k,(ay (aJ l.told (j:Int) s.row) k).isSome=true/\(e.1,k,p,e.2)∈A.wrs:=fun p e he=>by
   rcases bI p with ⟨h1,_⟩ | ⟨e',h1,h2,_⟩
   ·rw [h1] at he; cases he
   ·rw [h1] at he; cases he
    rcases List.mem_append.mp h2 with z | z
    ·obtain ⟨x1,k,x2,x3⟩:=c5 p e (i8 c4 z)
     exact ⟨x1,k,(get' k).mpr (.inr x2),x3⟩
    ·obtain ⟨x1,x2⟩:=row_wr p e z
     exact ⟨x2,(j:Int),(get' _).mpr (.inl rfl),x1⟩
  have up:∀ p e,(p,e)∈q.best++s.row->∃ e',ay (s.row.foldl aR q.best) p=some e'/\e.1<=e'.1:=fun p e he=>by
   rcases bI p with ⟨_,h2⟩ | ⟨e',h1,_,h3⟩
   ·exact absurd he (h2 e)
   ·exact ⟨e',h1,h3 e he⟩
  have f6:∀ k row p e,(k,row)∈aJ l.told (j:Int) s.row->(p,e)∈row->∃ e',ay (s.row.foldl aR q.best) p=some e'/\e.1<=e'.1:=fun k row p e hk he=>by
   rcases bf hk with z | ⟨z,_⟩
   ·cases z; exact up p e (List.mem_append_right _ he)
   ·obtain ⟨e0,h0,le⟩:=c6 k row p e z he
    obtain ⟨e',h1,le'⟩:=up p e0 (List.mem_append_left _ (bj h0));exact ⟨e',h1,Int.le_trans le le'⟩
  unfold cY dm;rw [if_neg (by rw [ho]; decide),c1];dsimp only;unfold c_
  by_cases hm:A.cnt < 2 * ((cA q.heard (j:Int)).length:Int)
  ·rw [if_pos hm,if_pos (by rw [<- len]; exact decide_eq_true hm)]
   refine ⟨L.num,(fun z=>by cases z),fun _=>⟨_,rfl,fun p=>?_⟩⟩;unfold jb;dsimp only;rw [kg _ _ _ bnd,kg _ _ _ (pX _),d2];have all':∀ k,(ay (aJ l.told (j:Int) s.row) k).isSome=true->∀ m p u,(m,k,p,u)∈A.wrs->m < l.num->∃ row e,(k,row)∈aJ l.told (j:Int) s.row/\(p,e)∈row/\m<=e.1:=fun k hk m p u hw hm=>by
    by_cases z:k=(j:Int)
    ·subst z
     obtain ⟨e,h1,h2⟩:=S.al j s hs m p u hw;exact ⟨s.row,e,k4,h1,h2⟩
    ·obtain ⟨row,hr⟩:=Option.isSome_iff_exists.mp ((get' k).mp hk |>.resolve_left z)
     obtain ⟨e,h1,h2⟩:=(d4 k row (bj hr)).all m p u hw hm;exact ⟨row,e,bj (by rw [aP,if_neg z]; exact hr),h1,h2⟩
   have wr':∀ k row p e,(k,row)∈aJ l.told (j:Int) s.row->(p,e)∈row->(e.1,k,p,e.2)∈A.wrs:=fun k row p e hk he=>by
    rcases bf hk with z | ⟨z,_⟩
    ·cases z; exact (row_wr p e he).1
    ·exact ((d4 k row z).wr p e he).1
   rcases lg ((aJ l.told (j:Int) s.row).map (·.2)) p with ⟨h1,h2⟩ | ⟨e1,h1,h2,h3⟩
   ·rw [h1]
    cases hq:ay (s.row.foldl aR q.best) p with
    | none=>rfl
    | some e =>
     obtain ⟨x1,k,x2,x3⟩:=f5 p e hq;obtain ⟨row,e',y1,y2,_⟩:=all' k x2 _ _ _ x3 x1;exact absurd (fB.mpr ⟨k,row,y1,y2⟩) (h2 e')
   ·rw [h1]
    obtain ⟨k1,row1,y1,y2⟩:=fB.mp h2;obtain ⟨e2,g2,le⟩:=f6 k1 row1 p e1 y1 y2;rw [g2];obtain ⟨x1,k,x2,x3⟩:=f5 p e2 g2;obtain ⟨row,e',z1,z2,z3⟩:=all' k x2 _ _ _ x3 x1;have:=h3 e' (fB.mpr ⟨k,row,z1,z2⟩);have eq:e2.1=e1.1:=by omega
    have w1:=wr' k1 row1 p e1 y1 y2;rw [eq] at x3;show some e2.2=some e1.2;rw [S.fn _ _ _ _ _ _ x3 w1]
  ·rw [if_neg hm,if_neg (by rw [<- len]; simp; omega)]
   exact ⟨L.num,fun _=>⟨rfl,tF c2,fun k=>by rw [pZ,get',c3]; exact or_comm,bnd,f5,f6⟩,fun z=>by have z:l.op=true:=z; rw [ho] at z; cases z⟩
end
section
variable {A:PH}{B:QH}
theorem Sim.ask (S:Sf A) (X:Sim A B) {o p:Int} (h:aW A o=true) (h':aW A p=true):(io B o p).2=(fy A o p).2/\Sim (fy A o p).1 (io B o p).1:=by
 obtain ⟨n,rfl,hn⟩:=gf S h;obtain ⟨m,rfl,hm⟩:=gf S h';have hs:=List.getElem?_eq_getElem hm;generalize A.scrs[m]=s at hs;unfold io fy;rcases X.lead hn with ⟨h1,h2⟩ | ⟨l,q,h1,h2,L⟩
 ·rw [h1,h2]; exact ⟨rfl,X⟩
 rw [h1,h2];dsimp only;rw [X.upQ hm,X.promQ hs,Int.toNat_natCast,Int.toNat_natCast,X.rowQ hs,X.cnt,L.num]
 by_cases hu:(m:Int)∈A.stop
 ·rw [if_pos hu,if_neg (by simp [hu])]; exact ⟨rfl,X⟩
 rw [if_neg hu,if_pos (by simp [hu]),hs];dsimp only
 by_cases hp:l.num < s.prom
 ·rw [if_pos hp,if_pos hp]; exact ⟨rfl,X.fall hn s.prom⟩
 rw [if_neg hp,if_neg hp];refine ⟨rfl,?_⟩;refine ⟨rfl,?_,?_,?_,X.wrs,by show B.up.length=(A.scrs.set m _).length; rw [b8]; exact X.upl,fun i hi=>X.up i (by show i < A.scrs.length; rw [<- b8 (A:=A)]; exact hi),by show (B.leads.set n _).length=(A.scrs.set m _).length; rw [b8,List.length_set]; exact X.ldl,?_,fun o ho=>?_⟩
 ·show B.prom.set m _=_; rw [X.prom]; exact map_set (fun s:PScr=>s.prom) _ _ { s with prom:=l.num }
 ·rw [X.seen]; exact cw _ _ _ _ _ hs rfl
 ·rw [X.rows]; exact cw _ _ _ _ _ hs rfl
 ·refine X.leadset hn (A':={ A with scrs:=A.scrs.set m { s with prom:=l.num },leads:=aJ A.leads (n:Int) (cY A.cnt l m s.row) }) b8 (fun _ h=>h) (fun i hi=>by rw [aP,if_neg (by omega)]) (.inr ⟨cY A.cnt l m s.row,_,by rw [aP,if_pos rfl],rfl,?_⟩)
  exact (L.hear S h1 hs hp).mono fun _ h=>h
 ·show ay (aJ A.leads (n:Int) _) o=none
  rw [aP,if_neg (fun z=>by have:=X.st o ho; rw [z,h1] at this; cases this)]; exact X.st o ho
theorem Sim.write (S:Sf A) (X:Sim A B) {o p:Int} (pl:Int) (h:aW A o=true) (h':aW A p=true):(cB B o p pl).2=(bV A o p pl).2/\Sim (bV A o p pl).1 (cB B o p pl).1:=by
 obtain ⟨n,rfl,hn⟩:=gf S h;obtain ⟨m,rfl,hm⟩:=gf S h';have hs:=List.getElem?_eq_getElem hm;generalize A.scrs[m]=s at hs;unfold cB bV;rcases X.lead hn with ⟨h1,h2⟩ | ⟨l,q,h1,h2,L⟩
 ·rw [h1,h2]; exact ⟨rfl,X⟩
 rw [h1,h2];dsimp only;have LO:=S.ld _ l h1;cases ho:l.op with
 | false =>
  rw [(L.cl ho).1,(LO.cl ho).2.1];exact ⟨rfl,X⟩
 | true =>
  obtain ⟨t,ht,e⟩:=L.op ho;rw [ht,<- e];dsimp only;rw [X.upQ hm,X.promQ hs,Int.toNat_natCast,X.rowQ hs,L.num]
  by_cases hu:(m:Int)∈A.stop
  ·rw [if_neg (by simp [hu])]
   cases ay t pl with
   | none=>exact ⟨rfl,X⟩
   | some sy=>dsimp only; rw [if_pos hu]; exact ⟨rfl,X⟩
  rw [if_pos (by simp [hu])];cases hg:ay t pl with
  | none=>exact ⟨rfl,X⟩
  | some sy =>
   dsimp only;rw [if_neg hu,hs];dsimp only
   by_cases hp:l.num < s.prom
   ·rw [if_pos hp,if_pos hp]; exact ⟨rfl,X.fall hn s.prom⟩
   rw [if_neg hp,if_neg hp];refine ⟨rfl,?_⟩;refine ⟨X.cnt,?_,?_,?_,by rw [X.wrs],by show B.up.length=(A.scrs.set m _).length; rw [b8]; exact X.upl,fun i hi=>X.up i (by show i < A.scrs.length; rw [<- b8 (A:=A)]; exact hi),by show B.leads.length=(A.scrs.set m _).length; rw [b8]; exact X.ldl,fun i hi=>?_,fun o hoo=>?_⟩
   ·show B.prom.set m _=_; rw [X.prom]; exact map_set (fun s:PScr=>s.prom) _ _ { s with prom:=l.num,row:=aJ s.row pl (l.num,sy) }
   ·rw [X.seen]; exact cw _ _ _ _ _ hs rfl
   ·show B.rows.set m _=_; rw [X.rows]; exact map_set (fun s:PScr=>s.row) _ _ { s with prom:=l.num,row:=aJ s.row pl (l.num,sy) }
   ·have hi:i < A.scrs.length:=by rw [<- b8 (A:=A)]; exact hi
    have mono:∀ w∈A.wrs,w∈A.wrs++[(l.num,(m:Int),pl,sy)]:=fun w hw=>List.mem_append_left _ hw;show (ay (aJ A.leads (n:Int) (ix l m pl)) (i:Int)=none/\_)\/∃ l' q',ay (aJ A.leads (n:Int) (ix l m pl)) (i:Int)=some l'/\_/\_
    by_cases z:i=n
    ·subst z
     right
     refine ⟨ix l m pl,q,by rw [aP,if_pos rfl],?_,?_⟩
     ·rcases X.ld i hn with ⟨h3,_⟩ | ⟨l',q',h3,h4,_⟩
      ·rw [h1] at h3; cases h3
      ·unfold eX at h2
       rw [Int.toNat_natCast,List.getD_eq_getElem?_getD,h4] at h2
       have:q'=q:=Option.some.inj h2
       rw [<- this]; exact h4
     ·exact ⟨L.num,(fun z=>by have z:l.op=false:=z; rw [ho] at z; cases z),fun _=>⟨t,ht,e⟩⟩
    ·rw [aP,if_neg (by omega)]
     rcases X.ld i hi with h3 | ⟨l',q',h3,h4,h5⟩
     ·exact .inl h3
     ·exact .inr ⟨l',q',h3,h4,h5.mono mono⟩
   ·show ay (aJ A.leads (n:Int) _) o=none
    rw [aP,if_neg (fun z=>by have:=X.st o hoo; rw [z,h1] at this; cases this)]; exact X.st o hoo
noncomputable def Deed.plain:Deed->Bool
 | .settled _=>false
 | _=>true
theorem Sim.step (S:Sf A) (X:Sim A B) {d:Deed} (hd:d.plain=true):(dj B d).2=(step A d).2/\Sim (step A d).1 (dj B d).1:=by
 cases d with
 | settled o=>cases hd
 | rise o =>
  unfold dj Hl.step;dsimp only;rw [X.ok]
  by_cases h:aW A o=true
  ·rw [if_pos h,if_pos h]; exact X.rise S h
  ·rw [if_neg h,if_neg h]; exact ⟨rfl,X⟩
 | ask o p =>
  unfold dj Hl.step;dsimp only;rw [X.ok,X.ok]
  by_cases h:aW A o=true
  ·rw [if_pos h,if_pos h]
   by_cases h':aW A p=true
   ·rw [if_pos h',if_pos h']; exact X.ask S h h'
   ·rw [if_neg h',if_neg h']; exact ⟨rfl,X⟩
  ·rw [if_neg h,if_neg h]; exact ⟨rfl,X⟩
 | say o s =>
  unfold dj Hl.step;dsimp only;rw [X.ok]
  by_cases h:aW A o=true
  ·rw [if_pos h,if_pos h]; exact X.say S h
  ·rw [if_neg h,if_neg h]; exact ⟨rfl,X⟩
 | write o p pl =>
  unfold dj Hl.step;dsimp only;rw [X.ok,X.ok]
  by_cases h:aW A o=true
  ·rw [if_pos h,if_pos h]
   by_cases h':aW A p=true
   ·rw [if_pos h',if_pos h']; exact X.write S pl h h'
   ·rw [if_neg h',if_neg h']; exact ⟨rfl,X⟩
  ·rw [if_neg h,if_neg h]; exact ⟨rfl,X⟩
 | stop o =>
  unfold dj Hl.step;dsimp only;rw [X.ok]
  by_cases h:aW A o=true
  ·rw [if_pos h,if_pos h]; exact X.stop S h
  ·rw [if_neg h,if_neg h]; exact ⟨rfl,X⟩
 | wake o =>
  unfold dj Hl.step;dsimp only;rw [X.ok]
  by_cases h:aW A o=true
  ·rw [if_pos h,if_pos h]; exact X.wake S h
  ·rw [if_neg h,if_neg h]; exact ⟨rfl,X⟩
end
inductive PRole where
 | hall | prom | seen | wrs | rows | leads | up
 | row (i:Nat) | led (i:Nat) | heard (i:Nat) | best (i:Nat) | said (i:Nat)
noncomputable def leadAt (B:QH) (i:Nat):Option QL:=B.leads.getD i none
noncomputable def dg (B:QH):PRole->Prop
 | .row i=>i < B.rows.length
 | .led i | .heard i | .best i=>∃ q,leadAt B i=some q
 | .said i=>∃ q s,leadAt B i=some q/\q.said=some s
 | _=>True
noncomputable def kH (H:Hp) (v:V) (e:Int×Str):Prop:=∃ t,v=.ref t/\H t=some (.tup [.int e.1,.str e.2])
noncomputable def o_ (H:Hp) (v:V) (x:Int×Int×Int×Str):Prop:=∃ t,v=.ref t/\H t=some (.tup [.int x.1,.int x.2.1,.int x.2.2.1,.str x.2.2.2])
noncomputable def sk (x:Str):bh:=Sum.inr x
noncomputable def i5 (H:Hp) (α:PRole->Addr) (B:QH):PRole->HO->Prop
 | .hall,o=>o=.dK [(sk "count",.int B.cnt),(sk "promised",.ref (α .prom)),(sk "seen",.ref (α .seen)),(sk "writings",.ref (α .wrs)),(sk "rows",.ref (α .rows)),(sk "leads",.ref (α .leads)),(sk "up",.ref (α .up))]
 | .prom,o=>o=.lst (B.prom.map V.int)
 | .seen,o=>o=.lst (B.seen.map V.int)
 | .up,o=>o=.lst (B.up.map V.bl)
 | .wrs,o=>∃ us,o=.lst us/\Paired (o_ H) us B.wrs
 | .rows,o=>o=.lst ((List.range B.rows.length).map fun i=>V.ref (α (.row i)))
 | .leads,o=>o=.lst ((List.range B.leads.length).map fun i=>match leadAt B i with | none=>V.non | some _=>V.ref (α (.led i)))
 | .row i,o=>∃ kvs,o=.dK kvs/\cm (fun _ v e=>kH H v e) kvs (B.rows.getD i [])
 | .led i,o=>∃ q,leadAt B i=some q/\o=.dK [(sk "number",.int q.num),(sk "heard",.ref (α (.heard i))),(sk "best",.ref (α (.best i))),(sk "said",match q.said with | none=>V.non | some _=>V.ref (α (.said i)))]
 | .heard i,o=>∃ q,leadAt B i=some q/\o=.lst (q.heard.map V.int)
 | .best i,o=>∃ q kvs,leadAt B i=some q/\o=.dK kvs/\cm (fun _ v e=>kH H v e) kvs q.best
 | .said i,o=>∃ q s kvs,leadAt B i=some q/\q.said=some s/\o=.dK kvs/\cm (fun _ v (y:Str)=>v=.str y) kvs s
structure PlAt (H:Hp) (α:PRole->Addr) (B:QH):Prop where
 inj:∀ r r',dg B r->dg B r'->α r=α r'->r=r'
 at_:∀ r,dg B r->∃ o,H (α r)=some o/\i5 H α B r o
theorem i5.keep {H H':Hp}{α:PRole->Addr}{B:QH}{r:PRole}{o:HO} (h:i5 H α B r o) (s:∀ t xs,H t=some (.tup xs)->H' t=some (.tup xs)):i5 H' α B r o:=by
 have pr:∀ v e,kH H v e->kH H' v e:=fun v e ⟨t,h1,h2⟩=>⟨t,h1,s _ _ h2⟩;have wt:∀ v e,o_ H v e->o_ H' v e:=fun v e ⟨t,h1,h2⟩=>⟨t,h1,s _ _ h2⟩;cases r with
 | hall=>exact h
 | prom=>exact h
 | seen=>exact h
 | up=>exact h
 | wrs=>obtain ⟨us,h1,h2⟩:=h; exact ⟨us,h1,Paired.mapP h2 wt⟩
 | rows=>exact h
 | leads=>exact h
 | row i=>obtain ⟨kvs,h1,h2⟩:=h; exact ⟨kvs,h1,h2.imp fun k v e _ x=>pr v e x⟩
 | led i=>exact h
 | heard i=>exact h
 | best i=>obtain ⟨q,kvs,h0,h1,h2⟩:=h; exact ⟨q,kvs,h0,h1,h2.imp fun k v e _ x=>pr v e x⟩
 | said i=>exact h
theorem i5.notup {H:Hp}{α:PRole->Addr}{B:QH}{r:PRole}{xs:List V} (h:i5 H α B r (.tup xs)):False:=by
 cases r<;>first | (exact nomatch h) | (obtain ⟨_,h,_⟩:=h; exact nomatch h) | (obtain ⟨_,_,h⟩:=h; exact nomatch h) | (obtain ⟨_,_,_,h,_⟩:=h; exact nomatch h) | (obtain ⟨_,_,_,_,_,h,_⟩:=h; exact nomatch h)
theorem PlAt.same {H H':Hp}{α:PRole->Addr}{B:QH} (X:PlAt H α B) (s:aV H H'):PlAt H' α B :=
 ⟨X.inj,fun r hr=>let ⟨o,h1,h2⟩:=X.at_ r hr; ⟨o,s _ _ h1,h2.keep fun t xs=>s t _⟩⟩
theorem PlAt.tups {H:Hp}{α:PRole->Addr}{B:QH} (X:PlAt H α B) {r:PRole} (hr:dg B r) (o':HO):∀ t xs,H t=some (.tup xs)->aA H (α r) o' t=some (.tup xs):=fun t xs h=>by
 rw [ag]
 ·exact h
 ·rintro rfl
  obtain ⟨o,h1,h2⟩:=X.at_ r hr;rw [h] at h1; cases h1;exact h2.notup
theorem PlAt.put {H:Hp}{α:PRole->Addr}{B B':QH} (X:PlAt H α B) {r:PRole} (hr:dg B r) {o':HO} (hl:∀ r',dg B' r'->dg B r') (hc:i5 (aA H (α r) o') α B' r o')
  (hx:∀ r' o,r'≠r->dg B' r'->i5 (aA H (α r) o') α B r' o->i5 (aA H (α r) o') α B' r' o):PlAt (aA H (α r) o') α B':=by
 refine ⟨fun r1 r2 h1 h2=>X.inj r1 r2 (hl _ h1) (hl _ h2),fun r' h'=>?_⟩
 by_cases z:r'=r
 ·subst z; exact ⟨o',upd_same,hc⟩
 ·obtain ⟨o,h1,h2⟩:=X.at_ r' (hl r' h')
  refine ⟨o,?_,hx r' o z h' (h2.keep (X.tups hr o'))⟩;rw [ag (fun e=>z (X.inj _ _ (hl _ h') hr e))]; exact h1
end Hl
namespace L2
open PySem
end L2
namespace K08
open PySem L2 Hl
seal L2.PE L2.PA L2.PS L2.gI
noncomputable def uN:PRole->Nat
 | .hall=>0 | .prom=>1 | .seen=>2 | .wrs=>3 | .rows=>4 | .leads=>5 | .up=>6 | .row i=>7+i
 | _=>0
theorem rO {n:Nat}{r:PRole} (h:dg (bF n) r):uN r < 7+n/\(∀ i,r≠.led i/\r≠.heard i/\r≠.best i/\r≠.said i):=by
 have no:∀ i,leadAt (bF n) i=none:=fun i=>by
  unfold leadAt bF;rw [List.getD_eq_getElem?_getD,List.getElem?_replicate];split<;>rfl
 cases r with
 | row i =>
  have hi:i < n:=by simpa [dg,bF] using h
  exact ⟨by simp [uN]; omega,fun i=>⟨nofun,nofun,nofun,nofun⟩⟩
 | led i=>obtain ⟨q,e⟩:=h; rw [no] at e; cases e
 | heard i=>obtain ⟨q,e⟩:=h; rw [no] at e; cases e
 | best i=>obtain ⟨q,e⟩:=h; rw [no] at e; cases e
 | said i=>obtain ⟨q,s,e,_⟩:=h; rw [no] at e; cases e
 | _=>exact ⟨by simp [uN]; try omega,fun i=>⟨nofun,nofun,nofun,nofun⟩⟩
theorem vp:∀ {G:List Addr}{i j:Nat},G.Nodup->(hi:i < G.length)->(hj:j < G.length)->G[i]=G[j]->i=j
 | a :: G,0,0,_,_,_,_=>rfl
 | a :: G,0,j+1,nd,hi,hj,e=>by
  rw [List.nodup_cons] at nd;have e:a=G[j]'(by simpa using hj):=e;exact absurd (by rw [e]; exact List.getElem_mem _) nd.1
 | a :: G,i+1,0,nd,hi,hj,e=>by
  rw [List.nodup_cons] at nd;have e:G[i]'(by simpa using hi)=a:=e;exact absurd (by rw [<- e]; exact List.getElem_mem _) nd.1
 | a :: G,i+1,j+1,nd,hi,hj,e=>by
  rw [List.nodup_cons] at nd;rw [vp nd.2 (by simpa using hi) (by simpa using hj) e]
theorem Bk {n:Nat}{G:List Addr} (nd:G.Nodup) (hl:G.length=7+n):∀ r r',dg (bF n) r->dg (bF n) r'->G.getD (uN r) 0=G.getD (uN r') 0->r=r':=fun r r' h h' e=>by
 obtain ⟨h1,h2⟩:=rO h;obtain ⟨h3,h4⟩:=rO h';have e:uN r=uN r':=by
  rw [List.getD_eq_getElem?_getD,List.getD_eq_getElem?_getD,List.getElem?_eq_getElem (by omega),List.getElem?_eq_getElem (by omega)] at e;have e:G[uN r]'(by omega)=G[uN r']'(by omega):=e;exact vp nd (by omega) (by omega) e
 cases r<;>cases r'<;>simp [uN] at e<;>first | rfl | (exact congrArg _ e) | (exact absurd rfl (h2 _).1) | (exact absurd rfl (h2 _).2.1) | (exact absurd rfl (h2 _).2.2.1) | (exact absurd rfl (h2 _).2.2.2) | (exact absurd rfl (h4 _).1) | (exact absurd rfl (h4 _).2.1) | (exact absurd rfl (h4 _).2.2.1) | (exact absurd rfl (h4 _).2.2.2) | omega
theorem vO {α:Type}{n:Nat}{x:α}:(List.replicate n [x]).flatten=List.replicate n x:=by
 induction n with
 | zero=>rfl
 | succ n ih=>rw [List.replicate_succ,List.flatten_cons,ih,List.replicate_succ]; rfl
theorem BK {n i:Nat}:leadAt (bF n) i=none:=by
 unfold leadAt bF;rw [List.getD_eq_getElem?_getD,List.getElem?_replicate];split<;>rfl
theorem x_ {a b c d e g k:Addr}{f:List Addr}{i:Nat} (h:i < f.length):([a,b,c,d,e,g,k]++f).getD (7+i) 0=f[i]:=by
 rw [List.getD_eq_getElem?_getD,List.getElem?_append_right (by simp)];simp [h]
theorem w6 {a b c d e g k:Addr} (f:List Addr):f.map V.ref=(List.range f.length).map fun i=>V.ref (([a,b,c,d,e,g,k]++f).getD (7+i) 0):=by
 apply List.ext_getElem?;intro i;rw [List.getElem?_map,List.getElem?_map]
 by_cases z:i < f.length
 ·rw [List.getElem?_range z,List.getElem?_eq_getElem z]
  show some (V.ref f[i])=some (V.ref _);rw [x_ z]
 ·rw [List.getElem?_eq_none (by omega),List.getElem?_eq_none (by simp; omega)]; rfl
structure Cells (Ho H:Hp) (L:List Addr):Prop where
 nd:L.Nodup
 at_:∀ a∈L,∃ o,H a=some o
 nw:∀ a∈L,Ho a=none
 sm:aV Ho H
theorem Cells.same {Ho H H':Hp}{L:List Addr} (X:Cells Ho H L) (s:aV H H'):Cells Ho H' L:=⟨X.nd,fun a h=>let ⟨o,e⟩:=X.at_ a h; ⟨o,s _ _ e⟩,X.nw,X.sm.trans s⟩
theorem Cells.at_put {H:Hp}{L:List Addr} (X:∀ a∈L,∃ o,H a=some o) (a:Addr) (o:HO):∀ b∈L,∃ u,aA H a o b=some u:=fun b h=>by
 by_cases z:b=a
 ·exact ⟨o,by rw [z]; exact upd_same⟩
 ·obtain ⟨u,e⟩:=X b h; exact ⟨u,by rw [ag z]; exact e⟩
theorem Cells.put {Ho H:Hp}{L:List Addr} (X:Cells Ho H L) (a:Addr) (o:HO) (ha:a∈L:=by simp):Cells Ho (aA H a o) L:=⟨X.nd,Cells.at_put X.at_ a o,X.nw,fun b u e=>by
 rw [ag (ai e (X.nw a ha))]; exact X.sm _ _ e⟩
theorem Cells.new {Ho H:Hp}{L:List Addr} (X:Cells Ho H L) {p:Addr} (hp:H p=none) (o:HO):Cells Ho (aA H p o) (L++[p]):=by
 refine ⟨?_,fun a ha=>?_,fun a ha=>?_,X.sm.trans (au hp)⟩
 ·rw [List.nodup_append]
  exact ⟨X.nd,by simp,fun a ha b hb=>by rw [List.mem_singleton.mp hb]; rintro rfl; obtain ⟨u,e⟩:=X.at_ a ha; rw [hp] at e; cases e⟩
 ·rcases List.mem_append.mp ha with z | z
  ·exact Cells.at_put X.at_ p o a z
  ·rw [List.mem_singleton.mp z]; exact ⟨o,upd_same⟩
 ·rcases List.mem_append.mp ha with z | z
  ·exact X.nw a z
  ·rw [List.mem_singleton.mp z]
   cases e:Ho p with
   | none=>rfl
   | some u=>rw [X.sm _ _ e] at hp; cases hp
section
variable {P:Program}{w:World}{K:Frag}{mg:Str->Option Value}{base:Heap}
noncomputable def sw:Sp:=fun vs H Q _=>∃ a:Ans,vs=[kG a,kG a]/\kM a/\Q (.bl true) H
theorem ug (NB:NBs mg) (O_whole:L2.Own P w K mg base "_law_whole" 1 ["_law_found"] nU) (D:DefAt K mg "_law_alike" ku ["_law_found","_law_due"]):L2.Own P w K mg base "_law_alike" 2 ["_law_found","_law_due"] sw:=by
 refine D.own vH (fun vs H Q E h=>?_) (fun f cdv A outer s H vs Q E hr h=>?_)
 ·obtain ⟨a,rfl,_⟩:=h; rfl
 ·obtain ⟨a,rfl,hp,q⟩:=h
  have hu:=bM hr;refine ⟨_,(ad (aQ (aF g8 (nv 1) cg (aK _)) (aq (az (cF g8 (nv 0) cg (aK _)))) aC)
 (ad (aQ (bn (aG aD (by rfl) NB.isinstance aI (ac (nv 1) (ac (nt NB.bool gC) aj)))) (aq (az (gg (aG aD (by rfl) NB.isinstance aI (ac (nv 0) (ac (nt NB.bool gC) aj))) (g7 (cF (bt hr) (nv 0) (nv 1) (aK _)))))) aC)
 (ad (aQ (bn (aG aD (by rfl) NB.isinstance aI (ac (nv 1) (ac (nt NB.str jc) aj)))) (aq (az (gg (aG aD (by rfl) NB.isinstance aI (ac (nv 0) (ac (nt NB.str jc) aj))) (g7 (cF (bt hr) (nv 0) (nv 1) (aK _)))))) aC)
 (aq (az (gg (a_ O_whole hr rfl (ac (nv 0) aj)) (g7 (cF (bt hr) (nv 0) (nv 1) (aK _))))))))),?_⟩
  cases a with
  | prs l=>exact hp.elim
  | non =>
   refine ⟨rfl,_,rfl,cD rfl ?_⟩;exact ⟨rfl,q⟩
  | bl b =>
   refine ⟨rfl,_,rfl,bv (by simp [kG]) ?_⟩;refine ⟨_,true,.bl _,eG K,_,rfl,bH ?_⟩;refine ⟨_,true,.bl _,eG K,_,rfl,bH ?_⟩;refine ⟨_,.scal rfl,?_⟩;rw [decide_eq_true rfl]; exact q
  | str z =>
   refine ⟨rfl,_,rfl,bv (by simp [kG]) ?_⟩;refine ⟨_,false,.str _,jP K,_,rfl,bU ?_⟩;refine ⟨_,true,.str _,dQ K,_,rfl,bH ?_⟩;refine ⟨_,true,.str _,dQ K,_,rfl,bH ?_⟩;refine ⟨_,.scal rfl,?_⟩;rw [decide_eq_true rfl]; exact q
  | int i =>
   refine ⟨rfl,_,rfl,bv (by simp [kG]) ?_⟩;refine ⟨_,false,.int _,ft K,_,rfl,bU ?_⟩;refine ⟨_,false,.int _,lK K,_,rfl,bU ?_⟩;refine ⟨i,rfl,_,rfl,bH ?_⟩;refine ⟨_,.scal rfl,?_⟩;rw [decide_eq_true rfl]; exact q
noncomputable def xU:Sp:=fun vs H Q _=>∃ n:Nat,vs=[.int n]/\n<=100/\∀ α H',(∀ r,dg (bF n) r->H (α r)=none)->PlAt H' α (bF n)->aV H H'->Q (.ref (α .hall)) H'
theorem xf (NB:NBs mg) (D:DefAt K mg "_law_new" rM ["_law_count"]):L2.Own P w K mg base "_law_new" 1 ["_law_count"] xU:=by
 refine D.own vh (fun vs H Q E h=>?_) (fun f cdv A outer s H vs Q E hr h=>?_)
 ·obtain ⟨n,rfl,_⟩:=h; rfl
 ·obtain ⟨n,rfl,hn,q⟩:=h
  have hu:=bM hr;have nd:=vh.nd;refine ⟨_,(ad (aH nd 1 (sM (dX aB (nv 0) (dX aB (aE a8 (bx (ac (kJ fM ao) aj)) (nv 0)) (dX aB (aE a8 (bx (ac (kJ fM ao) aj)) (nv 0)) (dX aB (bx aj) sH)))) rfl rfl (by simp) (by decide)))
 (ad (b7 hu (nv 1) aB (fN (tgs:=["_law_k"]) (fr:=[]) (cy rfl NB.range (ac (nv 0) aj)) (dz (tt:=none) (fun _ _ _ _=>(dv 0)) (fun _ _ _ _=>True.intro) (fun _ _ _ _=>cM))) rfl)
 (ad (b7 hu (nv 1) aB (aE a8 (bx (ac cg aj)) (nv 0)) rfl)
 (ad (b7 hu (nv 1) aB (aE a8 (bx (ac bo aj)) (nv 0)) rfl)
 (aq (az (nv 1))))))),?_⟩
  intro h nh;have X0:Cells H (aA H h (.dK [])) [h]:=⟨by simp,fun a ha=>by rw [List.mem_singleton.mp ha]; exact ⟨_,upd_same⟩,fun a ha=>by rw [List.mem_singleton.mp ha]; exact nh,au nh⟩;have S0:aV H (aA H h (.dK [])):=au nh;have D0:aA H h (.dK []) h=some (.dK []):=upd_same;generalize aA H h (.dK [])=H0 at X0 S0 D0;refine ⟨by show 1<=sizeLine; decide,fun p1 n1=>⟨_,upd_same,by omega,by omega,by rw [sizeLine_eq]; simp; omega,fun pr npr=>?_⟩⟩;have s1:aV H0 (aA (aA H0 p1 (.lst [.int (-1)])) pr (.lst (List.replicate (n:Int).toNat [V.int (-1)]).flatten)):=(au n1).trans (au npr);have X1:=(X0.same (au (o:=.lst [.int (-1)]) n1)).new npr (.lst (List.replicate (n:Int).toNat [V.int (-1)]).flatten);have D1:=s1 _ _ D0;have S1:=S0.trans s1;have P1:aA (aA H0 p1 (.lst [.int (-1)])) pr (.lst (List.replicate (n:Int).toNat [V.int (-1)]).flatten) pr=some (.lst (List.replicate (n:Int).toNat [V.int (-1)]).flatten):=upd_same;generalize aA (aA H0 p1 (.lst [.int (-1)])) pr (.lst (List.replicate (n:Int).toNat [V.int (-1)]).flatten)=H1 at X1 D1 S1 P1;clear s1 X0 D0 S0 n1 npr;refine ⟨by show 1<=sizeLine; decide,fun p2 n2=>⟨_,upd_same,by omega,by omega,by rw [sizeLine_eq]; simp; omega,fun se nse=>?_⟩⟩;have s2:aV H1 (aA (aA H1 p2 (.lst [.int (-1)])) se (.lst (List.replicate (n:Int).toNat [V.int (-1)]).flatten)):=(au n2).trans (au nse);have X2:=(X1.same (au (o:=.lst [.int (-1)]) n2)).new nse (.lst (List.replicate (n:Int).toNat [V.int (-1)]).flatten);have D2:=s2 _ _ D1;have P2:=s2 _ _ P1;have S2:=S1.trans s2;have E2:aA (aA H1 p2 (.lst [.int (-1)])) se (.lst (List.replicate (n:Int).toNat [V.int (-1)]).flatten) se=some (.lst (List.replicate (n:Int).toNat [V.int (-1)]).flatten):=upd_same;generalize aA (aA H1 p2 (.lst [.int (-1)])) se (.lst (List.replicate (n:Int).toNat [V.int (-1)]).flatten)=H2 at X2 D2 S2 P2 E2;clear s2 X1 D1 S1 P1 n2 nse;refine ⟨Nat.zero_le _,fun wr nwr=>?_⟩;have s3:=au (o:=.lst []) nwr;refine ⟨s3 _ _ D2,[(sk "count",.int n),(sk "promised",.ref pr),(sk "seen",.ref se),(sk "writings",.ref wr)],rfl,by show 4<=15; decide,?_⟩;have X3:=X2.new nwr (.lst []);have nhw:h≠wr:=by rintro rfl; rw [nwr] at D2; cases D2
  have e3:g9 [] [(sk "count",V.int n),(sk "promised",.ref pr),(sk "seen",.ref se),(sk "writings",.ref wr)]=[(sk "count",V.int n),(sk "promised",.ref pr),(sk "seen",.ref se),(sk "writings",.ref wr)]:=by kernel_rfl
  rw [e3];have X3:=X3.put h (.dK [(sk "count",V.int n),(sk "promised",.ref pr),(sk "seen",.ref se),(sk "writings",.ref wr)]);have D3:aA (aA H2 wr (.lst [])) h (.dK [(sk "count",V.int n),(sk "promised",.ref pr),(sk "seen",.ref se),(sk "writings",.ref wr)]) h=some (.dK [(sk "count",V.int n),(sk "promised",.ref pr),(sk "seen",.ref se),(sk "writings",.ref wr)]):=upd_same;have kp:∀ b xs,H2 b=some (.lst xs)->aA (aA H2 wr (.lst [])) h (.dK [(sk "count",V.int n),(sk "promised",.ref pr),(sk "seen",.ref se),(sk "writings",.ref wr)]) b=some (.lst xs):=fun b xs e=>by
   rw [ag (by rintro rfl; rw [D2] at e; cases e),ag (by rintro rfl; rw [nwr] at e; cases e)]; exact e
  have P3:=kp _ _ P2;have E3:=kp _ _ E2;have W3:aA (aA H2 wr (.lst [])) h (.dK [(sk "count",V.int n),(sk "promised",.ref pr),(sk "seen",.ref se),(sk "writings",.ref wr)]) wr=some (.lst []):=by rw [ag (Ne.symm nhw)]; exact upd_same
  have S3:aV H (aA (aA H2 wr (.lst [])) h (.dK [(sk "count",V.int n),(sk "promised",.ref pr),(sk "seen",.ref se),(sk "writings",.ref wr)])):=fun b u e=>by
   rw [ag (ai e nh)]; exact s3 _ _ (S2 _ _ e)
  generalize aA (aA H2 wr (.lst [])) h (.dK [(sk "count",V.int n),(sk "promised",.ref pr),(sk "seen",.ref se),(sk "writings",.ref wr)])=H3 at X3 D3 P3 E3 W3 S3;clear kp e3 s3 X2 D2 P2 E2 S2 nwr;refine ⟨_,rfl,by omega,by omega,fun ro nro=>?_⟩;have nhr:h≠ro:=by rintro rfl; rw [nro] at D3; cases D3
  refine lP (n:=(n:Int).toNat) (fun i ys G=>∃ f:List Addr,ys=f.map V.ref/\f.length=i/\(∀ a∈f,G a=some (.dK []))/\Cells H G (([h]++[pr]++[se]++[wr]++[ro])++f)/\G ro=some (.lst ys)/\aV H3 G) ⟨[],rfl,rfl,(fun _ h=>nomatch h),by rw [List.append_nil]; exact X3.new nro _,upd_same,au nro⟩ ?_ ?_
  ·rintro i ys G hi ⟨f,rfl,lf,af,XG,hG,sG⟩
   refine ⟨(Wk.refl _).set rfl,?_⟩;rw [cR,if_pos rfl];intro p np;have npr:ro≠p:=by rintro rfl; rw [np] at hG; cases hG
   refine ⟨by rw [ag npr]; exact hG,by rw [List.length_map,sizeLine_eq]; omega,gK hi ⟨f++[p],by simp,by simp [lf],fun a ha=>?_,?_,upd_same,fun b u e=>?_⟩⟩
   ·have nar:a≠ro:=by
     rintro rfl;rcases List.mem_append.mp ha with z | z
     ·rw [af _ z] at hG; cases hG
     ·exact npr (List.mem_singleton.mp z)
    rw [ag nar];rcases List.mem_append.mp ha with z | z
    ·rw [ag (by rintro rfl; rw [af _ z] at np; cases np)]; exact af a z
    ·rw [List.mem_singleton.mp z]; exact upd_same
   ·have:=(XG.new np (.dK [])).put ro (.lst (f.map V.ref++[.ref p]))
    rw [List.append_assoc] at this;exact this
   ·have:=sG b u e
    have nbr:b≠ro:=ai e nro;rw [ag nbr]; exact au np _ _ this
  rintro ys G ⟨f,rfl,lf,af,XG,hG,sG⟩;have tn:(n:Int).toNat=n:=Int.toNat_natCast n;rw [tn] at lf;have put1:∀ {G:Hp}{k1 k2:List (bh×V)}{b:Addr}{xs:List V},G h=some (.dK k1)->G b=some (.lst xs)->aA G h (.dK k2) b=some (.lst xs):=fun {G k1 k2 b xs} e1 e2=>by
   rw [ag (by rintro rfl; rw [e1] at e2; cases e2)]; exact e2
  have putS:∀ {G:Hp}{k2:List (bh×V)},aV H G->aV H (aA G h (.dK k2)):=fun {G k2} s b u e=>by rw [ag (ai e nh)]; exact s _ _ e
  have D4:=sG _ _ D3;have e5:bB [(sk "count",V.int n),(sk "promised",.ref pr),(sk "seen",.ref se),(sk "writings",.ref wr)] (sk "rows") (V.ref ro)=[(sk "count",V.int n),(sk "promised",.ref pr),(sk "seen",.ref se),(sk "writings",.ref wr),(sk "rows",.ref ro)]:=by kernel_rfl
  refine ⟨h,_,rfl,eK.k (k:=sk "rows") D4 (by show 4 < sizeLine; decide),?_⟩;rw [e5];have X5:=XG.put h (.dK [(sk "count",V.int n),(sk "promised",.ref pr),(sk "seen",.ref se),(sk "writings",.ref wr),(sk "rows",.ref ro)]);have D5:aA G h (.dK [(sk "count",V.int n),(sk "promised",.ref pr),(sk "seen",.ref se),(sk "writings",.ref wr),(sk "rows",.ref ro)]) h=some (.dK [(sk "count",V.int n),(sk "promised",.ref pr),(sk "seen",.ref se),(sk "writings",.ref wr),(sk "rows",.ref ro)]):=upd_same;have P5:=put1 (k2:=[(sk "count",V.int n),(sk "promised",.ref pr),(sk "seen",.ref se),(sk "writings",.ref wr),(sk "rows",.ref ro)]) D4 (sG _ _ P3);have E5:=put1 (k2:=[(sk "count",V.int n),(sk "promised",.ref pr),(sk "seen",.ref se),(sk "writings",.ref wr),(sk "rows",.ref ro)]) D4 (sG _ _ E3);have W5:=put1 (k2:=[(sk "count",V.int n),(sk "promised",.ref pr),(sk "seen",.ref se),(sk "writings",.ref wr),(sk "rows",.ref ro)]) D4 (sG _ _ W3);have R5:=put1 (k2:=[(sk "count",V.int n),(sk "promised",.ref pr),(sk "seen",.ref se),(sk "writings",.ref wr),(sk "rows",.ref ro)]) D4 hG;have S5:=putS (k2:=[(sk "count",V.int n),(sk "promised",.ref pr),(sk "seen",.ref se),(sk "writings",.ref wr),(sk "rows",.ref ro)]) (S3.trans sG);have nf:h∉f:=fun z=>by
   have:=XG.nd;rw [List.append_assoc,List.append_assoc,List.append_assoc,List.append_assoc,List.singleton_append,List.nodup_cons] at this;exact this.1 (by simp [z])
  have F5:∀ a∈f,aA G h (.dK [(sk "count",V.int n),(sk "promised",.ref pr),(sk "seen",.ref se),(sk "writings",.ref wr),(sk "rows",.ref ro)]) a=some (.dK []):=fun a ha=>by rw [ag (by rintro rfl; exact nf ha)]; exact af a ha
  generalize aA G h (.dK [(sk "count",V.int n),(sk "promised",.ref pr),(sk "seen",.ref se),(sk "writings",.ref wr),(sk "rows",.ref ro)])=H5 at X5 D5 P5 E5 W5 R5 S5 F5;clear XG af hG sG D4 D3 P3 E3 W3 S3 X3 e5;refine ⟨by show 1<=sizeLine; decide,fun p3 n3=>⟨_,upd_same,by omega,by omega,by rw [sizeLine_eq]; simp; omega,fun le nle=>?_⟩⟩;have s6:aV H5 (aA (aA H5 p3 (.lst [V.non])) le (.lst (List.replicate (n:Int).toNat [V.non]).flatten)):=(au n3).trans (au nle);have X6:=(X5.same (au (o:=.lst [V.non]) n3)).new nle (.lst (List.replicate (n:Int).toNat [V.non]).flatten);have L6:aA (aA H5 p3 (.lst [V.non])) le (.lst (List.replicate (n:Int).toNat [V.non]).flatten) le=some (.lst (List.replicate (n:Int).toNat [V.non]).flatten):=upd_same;generalize aA (aA H5 p3 (.lst [V.non])) le (.lst (List.replicate (n:Int).toNat [V.non]).flatten)=H6 at s6 X6 L6 ⊢;have D6:=s6 _ _ D5;have e7:bB [(sk "count",V.int n),(sk "promised",.ref pr),(sk "seen",.ref se),(sk "writings",.ref wr),(sk "rows",.ref ro)] (sk "leads") (V.ref le)=[(sk "count",V.int n),(sk "promised",.ref pr),(sk "seen",.ref se),(sk "writings",.ref wr),(sk "rows",.ref ro),(sk "leads",.ref le)]:=by kernel_rfl
  refine ⟨h,_,rfl,eK.k (k:=sk "leads") D6 (by show 5 < sizeLine; decide),?_⟩;rw [e7];have X7:=X6.put h (.dK [(sk "count",V.int n),(sk "promised",.ref pr),(sk "seen",.ref se),(sk "writings",.ref wr),(sk "rows",.ref ro),(sk "leads",.ref le)]);have D7:aA H6 h (.dK [(sk "count",V.int n),(sk "promised",.ref pr),(sk "seen",.ref se),(sk "writings",.ref wr),(sk "rows",.ref ro),(sk "leads",.ref le)]) h=some (.dK [(sk "count",V.int n),(sk "promised",.ref pr),(sk "seen",.ref se),(sk "writings",.ref wr),(sk "rows",.ref ro),(sk "leads",.ref le)]):=upd_same;have P7:=put1 (k2:=[(sk "count",V.int n),(sk "promised",.ref pr),(sk "seen",.ref se),(sk "writings",.ref wr),(sk "rows",.ref ro),(sk "leads",.ref le)]) D6 (s6 _ _ P5);have E7:=put1 (k2:=[(sk "count",V.int n),(sk "promised",.ref pr),(sk "seen",.ref se),(sk "writings",.ref wr),(sk "rows",.ref ro),(sk "leads",.ref le)]) D6 (s6 _ _ E5);have W7:=put1 (k2:=[(sk "count",V.int n),(sk "promised",.ref pr),(sk "seen",.ref se),(sk "writings",.ref wr),(sk "rows",.ref ro),(sk "leads",.ref le)]) D6 (s6 _ _ W5);have R7:=put1 (k2:=[(sk "count",V.int n),(sk "promised",.ref pr),(sk "seen",.ref se),(sk "writings",.ref wr),(sk "rows",.ref ro),(sk "leads",.ref le)]) D6 (s6 _ _ R5);have L7:=put1 (k2:=[(sk "count",V.int n),(sk "promised",.ref pr),(sk "seen",.ref se),(sk "writings",.ref wr),(sk "rows",.ref ro),(sk "leads",.ref le)]) D6 L6;have S7:=putS (k2:=[(sk "count",V.int n),(sk "promised",.ref pr),(sk "seen",.ref se),(sk "writings",.ref wr),(sk "rows",.ref ro),(sk "leads",.ref le)]) (S5.trans s6);have F7:∀ a∈f,aA H6 h (.dK [(sk "count",V.int n),(sk "promised",.ref pr),(sk "seen",.ref se),(sk "writings",.ref wr),(sk "rows",.ref ro),(sk "leads",.ref le)]) a=some (.dK []):=fun a ha=>by rw [ag (by rintro rfl; exact nf ha)]; exact s6 _ _ (F5 a ha)
  generalize aA H6 h (.dK [(sk "count",V.int n),(sk "promised",.ref pr),(sk "seen",.ref se),(sk "writings",.ref wr),(sk "rows",.ref ro),(sk "leads",.ref le)])=H7 at X7 D7 P7 E7 W7 R7 L7 S7 F7;clear X6 D6 L6 s6 D5 P5 E5 W5 R5 S5 F5 X5 e7 n3 nle;refine ⟨by show 1<=sizeLine; decide,fun p4 n4=>⟨_,upd_same,by omega,by omega,by rw [sizeLine_eq]; simp; omega,fun up nup=>?_⟩⟩;have s8:aV H7 (aA (aA H7 p4 (.lst [V.bl true])) up (.lst (List.replicate (n:Int).toNat [V.bl true]).flatten)):=(au n4).trans (au nup);have X8:=(X7.same (au (o:=.lst [V.bl true]) n4)).new nup (.lst (List.replicate (n:Int).toNat [V.bl true]).flatten);have U8:aA (aA H7 p4 (.lst [V.bl true])) up (.lst (List.replicate (n:Int).toNat [V.bl true]).flatten) up=some (.lst (List.replicate (n:Int).toNat [V.bl true]).flatten):=upd_same;generalize aA (aA H7 p4 (.lst [V.bl true])) up (.lst (List.replicate (n:Int).toNat [V.bl true]).flatten)=H8 at s8 X8 U8 ⊢;have D8:=s8 _ _ D7;have e9:bB [(sk "count",V.int n),(sk "promised",.ref pr),(sk "seen",.ref se),(sk "writings",.ref wr),(sk "rows",.ref ro),(sk "leads",.ref le)] (sk "up") (V.ref up)=[(sk "count",V.int n),(sk "promised",.ref pr),(sk "seen",.ref se),(sk "writings",.ref wr),(sk "rows",.ref ro),(sk "leads",.ref le),(sk "up",.ref up)]:=by kernel_rfl
  refine ⟨h,_,rfl,eK.k (k:=sk "up") D8 (by show 6 < sizeLine; decide),?_⟩;rw [e9];have X9:=X8.put h (.dK [(sk "count",V.int n),(sk "promised",.ref pr),(sk "seen",.ref se),(sk "writings",.ref wr),(sk "rows",.ref ro),(sk "leads",.ref le),(sk "up",.ref up)]);have D9:aA H8 h (.dK [(sk "count",V.int n),(sk "promised",.ref pr),(sk "seen",.ref se),(sk "writings",.ref wr),(sk "rows",.ref ro),(sk "leads",.ref le),(sk "up",.ref up)]) h=some (.dK [(sk "count",V.int n),(sk "promised",.ref pr),(sk "seen",.ref se),(sk "writings",.ref wr),(sk "rows",.ref ro),(sk "leads",.ref le),(sk "up",.ref up)]):=upd_same;have P9:=put1 (k2:=[(sk "count",V.int n),(sk "promised",.ref pr),(sk "seen",.ref se),(sk "writings",.ref wr),(sk "rows",.ref ro),(sk "leads",.ref le),(sk "up",.ref up)]) D8 (s8 _ _ P7);have E9:=put1 (k2:=[(sk "count",V.int n),(sk "promised",.ref pr),(sk "seen",.ref se),(sk "writings",.ref wr),(sk "rows",.ref ro),(sk "leads",.ref le),(sk "up",.ref up)]) D8 (s8 _ _ E7);have W9:=put1 (k2:=[(sk "count",V.int n),(sk "promised",.ref pr),(sk "seen",.ref se),(sk "writings",.ref wr),(sk "rows",.ref ro),(sk "leads",.ref le),(sk "up",.ref up)]) D8 (s8 _ _ W7);have R9:=put1 (k2:=[(sk "count",V.int n),(sk "promised",.ref pr),(sk "seen",.ref se),(sk "writings",.ref wr),(sk "rows",.ref ro),(sk "leads",.ref le),(sk "up",.ref up)]) D8 (s8 _ _ R7);have L9:=put1 (k2:=[(sk "count",V.int n),(sk "promised",.ref pr),(sk "seen",.ref se),(sk "writings",.ref wr),(sk "rows",.ref ro),(sk "leads",.ref le),(sk "up",.ref up)]) D8 (s8 _ _ L7);have U9:=put1 (k2:=[(sk "count",V.int n),(sk "promised",.ref pr),(sk "seen",.ref se),(sk "writings",.ref wr),(sk "rows",.ref ro),(sk "leads",.ref le),(sk "up",.ref up)]) D8 U8;have S9:=putS (k2:=[(sk "count",V.int n),(sk "promised",.ref pr),(sk "seen",.ref se),(sk "writings",.ref wr),(sk "rows",.ref ro),(sk "leads",.ref le),(sk "up",.ref up)]) (S7.trans s8);have F9:∀ a∈f,aA H8 h (.dK [(sk "count",V.int n),(sk "promised",.ref pr),(sk "seen",.ref se),(sk "writings",.ref wr),(sk "rows",.ref ro),(sk "leads",.ref le),(sk "up",.ref up)]) a=some (.dK []):=fun a ha=>by rw [ag (by rintro rfl; exact nf ha)]; exact s8 _ _ (F7 a ha)
  generalize aA H8 h (.dK [(sk "count",V.int n),(sk "promised",.ref pr),(sk "seen",.ref se),(sk "writings",.ref wr),(sk "rows",.ref ro),(sk "leads",.ref le),(sk "up",.ref up)])=H9 at X9 D9 P9 E9 W9 R9 L9 U9 S9 F9;clear X8 D8 U8 s8 D7 P7 E7 W7 R7 L7 S7 F7 X7 e9 n4 nup put1 putS;rw [tn] at P9 E9 L9 U9;rw [vO] at P9 E9 L9 U9;show Q (.ref h) H9;have perm:([h]++[pr]++[se]++[wr]++[ro]++f++[le]++[up]).Perm ([h,pr,se,wr,ro,le,up]++f):=by
   have e1:[h]++[pr]++[se]++[wr]++[ro]++f++[le]++[up]=[h,pr,se,wr,ro]++(f++[le,up]):=by simp
   have e2:[h,pr,se,wr,ro,le,up]++f=[h,pr,se,wr,ro]++([le,up]++f):=by simp
   rw [e1,e2];exact List.perm_append_comm.append_left _
  have ndG:([h,pr,se,wr,ro,le,up]++f).Nodup:=perm.nodup_iff.mp X9.nd;have lG:([h,pr,se,wr,ro,le,up]++f).length=7+n:=by simp [lf]; omega
  refine q (fun r=>([h,pr,se,wr,ro,le,up]++f).getD (uN r) 0) H9 (fun r hr=>X9.nw _ (perm.mem_iff.mpr ?_)) ⟨Bk ndG lG,fun r hr=>?_⟩ S9
  ·have hi:=(rO hr).1
   rw [List.getD_eq_getElem?_getD,List.getElem?_eq_getElem (by omega)];exact List.getElem_mem _
  obtain ⟨_,no⟩:=rO hr;cases r with
  | hall=>exact ⟨_,D9,rfl⟩
  | prom=>exact ⟨_,P9,by simp [i5,bF]⟩
  | seen=>exact ⟨_,E9,by simp [i5,bF]⟩
  | wrs=>exact ⟨_,W9,[],rfl,.nil⟩
  | rows =>
   refine ⟨_,R9,?_⟩;show HO.lst (f.map V.ref)=.lst ((List.range (List.replicate n ([]:bJ)).length).map fun i=>V.ref (([h,pr,se,wr,ro,le,up]++f).getD (7+i) 0))
   congr 1
   rw [List.length_replicate,<- lf];exact w6 f
  | leads =>
   refine ⟨_,L9,?_⟩;show HO.lst (List.replicate n V.non)=.lst ((List.range (List.replicate n (none:Option QL)).length).map fun i=>match leadAt (bF n) i with | none=>V.non | some _=>V.ref _)
   congr 1
   rw [List.length_replicate];apply List.ext_getElem?;intro i;rw [List.getElem?_map,List.getElem?_replicate]
   by_cases z:i < n
   ·rw [if_pos z,List.getElem?_range z,Option.map_some,BK]
   ·rw [if_neg z,List.getElem?_eq_none (by simp; omega)]; rfl
  | up=>exact ⟨_,U9,by simp [i5,bF]⟩
  | row i =>
   have hi:i < n:=by simpa [dg,bF] using hr
   have e:([h,pr,se,wr,ro,le,up]++f).getD (uN (.row i)) 0=f[i]'(by omega):=x_ (by omega);refine ⟨.dK [],by rw [e]; exact F9 _ (List.getElem_mem _),[],rfl,?_⟩
   have:(bF n).rows.getD i []=[]:=by
    show (List.replicate n ([]:bJ)).getD i []=[];rw [List.getD_eq_getElem?_getD,List.getElem?_replicate]; split<;>rfl
   rw [this]; exact .nil
  | led i=>exact absurd rfl (no i).1
  | heard i=>exact absurd rfl (no i).2.1
  | best i=>exact absurd rfl (no i).2.2.1
  | said i=>exact absurd rfl (no i).2.2.2
end
end K08
namespace Hl
open PySem L2
noncomputable def zo (α:PRole->Addr) (B:QH) (b:Addr):Prop:=∀ r,dg B r->α r≠b
structure Stp8 (H:Hp) (α:PRole->Addr) (B:QH) (H':Hp) (α':PRole->Addr) (B':QH):Prop where
 at_:PlAt H' α' B'
 hall:α' .hall=α .hall
 kp:∀ b u,H b=some u->zo α B b->H' b=some u/\zo α' B' b
section
variable {K:Frag}{H:Hp}{α:PRole->Addr}{B:QH}
theorem c9 {a:Addr}{kvs:List (bh×V)}{k:bh}{v:V} (e:H a=some (.dK kvs)) (h:bL kvs k=some v):Item K H (.ref a) (kV k) v:=.dct (h ▸ cJ.k e)
theorem PlAt.hallC (X:PlAt H α B):H (α .hall)=some (.dK [(sk "count",.int B.cnt),(sk "promised",.ref (α .prom)),(sk "seen",.ref (α .seen)),(sk "writings",.ref (α .wrs)),(sk "rows",.ref (α .rows)),(sk "leads",.ref (α .leads)),(sk "up",.ref (α .up))]):=by
 obtain ⟨o,h1,h2⟩:=X.at_ .hall True.intro;rw [h1,show o=_ from h2]
theorem PlAt.promC (X:PlAt H α B):H (α .prom)=some (.lst (B.prom.map V.int)):=by
 obtain ⟨o,h1,h2⟩:=X.at_ .prom True.intro;rw [h1,show o=_ from h2]
theorem PlAt.seenC (X:PlAt H α B):H (α .seen)=some (.lst (B.seen.map V.int)):=by
 obtain ⟨o,h1,h2⟩:=X.at_ .seen True.intro;rw [h1,show o=_ from h2]
theorem PlAt.upC (X:PlAt H α B):H (α .up)=some (.lst (B.up.map V.bl)):=by
 obtain ⟨o,h1,h2⟩:=X.at_ .up True.intro;rw [h1,show o=_ from h2]
theorem PlAt.leadsC (X:PlAt H α B):H (α .leads)=some (.lst ((List.range B.leads.length).map fun i=>match leadAt B i with | none=>V.non | some _=>V.ref (α (.led i)))):=by
 obtain ⟨o,h1,h2⟩:=X.at_ .leads True.intro;rw [h1]; exact congrArg some h2
theorem PlAt.ledC (X:PlAt H α B) {i:Nat}{q:QL} (h:leadAt B i=some q):H (α (.led i))=some (.dK [(sk "number",.int q.num),(sk "heard",.ref (α (.heard i))),(sk "best",.ref (α (.best i))),(sk "said",match q.said with | none=>V.non | some _=>V.ref (α (.said i)))]):=by
 obtain ⟨o,h1,q',h2,h3⟩:=X.at_ (.led i) ⟨q,h⟩;rw [h] at h2; cases h2;rw [h1]; exact congrArg some h3
theorem PlAt.iCount (X:PlAt H α B):Item K H (.ref (α .hall)) (.str "count") (.int B.cnt):=c9 (k:=sk "count") X.hallC (by kernel_rfl)
theorem PlAt.iProm (X:PlAt H α B):Item K H (.ref (α .hall)) (.str "promised") (.ref (α .prom)):=c9 (k:=sk "promised") X.hallC (by kernel_rfl)
theorem PlAt.iSeen (X:PlAt H α B):Item K H (.ref (α .hall)) (.str "seen") (.ref (α .seen)):=c9 (k:=sk "seen") X.hallC (by kernel_rfl)
theorem PlAt.iWrs (X:PlAt H α B):Item K H (.ref (α .hall)) (.str "writings") (.ref (α .wrs)):=c9 (k:=sk "writings") X.hallC (by kernel_rfl)
theorem PlAt.iRows (X:PlAt H α B):Item K H (.ref (α .hall)) (.str "rows") (.ref (α .rows)):=c9 (k:=sk "rows") X.hallC (by kernel_rfl)
theorem PlAt.iLeads (X:PlAt H α B):Item K H (.ref (α .hall)) (.str "leads") (.ref (α .leads)):=c9 (k:=sk "leads") X.hallC (by kernel_rfl)
theorem PlAt.iUp (X:PlAt H α B):Item K H (.ref (α .hall)) (.str "up") (.ref (α .up)):=c9 (k:=sk "up") X.hallC (by kernel_rfl)
theorem PlAt.iNum (X:PlAt H α B) {i:Nat}{q:QL} (h:leadAt B i=some q):Item K H (.ref (α (.led i))) (.str "number") (.int q.num):=c9 (k:=sk "number") (X.ledC h) (by kernel_rfl)
theorem PlAt.setProm (X:PlAt H α B) (m:Nat) (x:Int):Stp8 H α B (aA H (α .prom) (.lst ((B.prom.set m x).map V.int))) α { B with prom:=B.prom.set m x }:=by
 refine ⟨X.put (r:=.prom) True.intro (fun r h=>by cases r<;>exact h) rfl (fun r o ne _ h=>by cases r<;>first | exact h | exact absurd rfl ne),rfl,fun b u e out=>⟨?_,fun r h=>out r (by cases r<;>exact h)⟩⟩;rw [ag (fun z=>out .prom True.intro z.symm)]; exact e
theorem PlAt.setSeen (X:PlAt H α B) (n:Nat) (x:Int):Stp8 H α B (aA H (α .seen) (.lst ((B.seen.set n x).map V.int))) α { B with seen:=B.seen.set n x }:=by
 refine ⟨X.put (r:=.seen) True.intro (fun r h=>by cases r<;>exact h) rfl (fun r o ne _ h=>by cases r<;>first | exact h | exact absurd rfl ne),rfl,fun b u e out=>⟨?_,fun r h=>out r (by cases r<;>exact h)⟩⟩;rw [ag (fun z=>out .seen True.intro z.symm)]; exact e
theorem PlAt.setUp (X:PlAt H α B) (n:Nat) (x:Bool):Stp8 H α B (aA H (α .up) (.lst ((B.up.set n x).map V.bl))) α { B with up:=B.up.set n x }:=by
 refine ⟨X.put (r:=.up) True.intro (fun r h=>by cases r<;>exact h) rfl (fun r o ne _ h=>by cases r<;>first | exact h | exact absurd rfl ne),rfl,fun b u e out=>⟨?_,fun r h=>out r (by cases r<;>exact h)⟩⟩;rw [ag (fun z=>out .up True.intro z.symm)]; exact e
theorem aN {n i:Nat}{x:Option QL} (hn:n < B.leads.length):leadAt { B with leads:=B.leads.set n x } i=if i=n then x else leadAt B i:=by
 unfold leadAt;show (B.leads.set n x).getD i none=_;rw [List.getD_eq_getElem?_getD,List.getD_eq_getElem?_getD,List.getElem?_set]
 by_cases z:n=i
 ·subst z; rw [if_pos rfl,if_pos hn,if_pos rfl]; rfl
 ·rw [if_neg z,if_neg (Ne.symm z)]
noncomputable def jB (α:PRole->Addr) (B:QH) (i:Nat):V:=match leadAt B i with | none=>V.non | some _=>V.ref (α (.led i))
theorem xr {n:Nat}{x:Option QL} (hn:n < B.leads.length):((List.range B.leads.length).map (jB α B)).set n (match x with | none=>V.non | some _=>V.ref (α (.led n)))=(List.range (B.leads.set n x).length).map (jB α { B with leads:=B.leads.set n x }):=by
 apply List.ext_getElem?;intro i;rw [List.getElem?_set,List.getElem?_map,List.getElem?_map,List.length_set]
 by_cases z:n=i
 ·subst z
  rw [if_pos rfl,if_pos (by simp [hn]),List.getElem?_range hn,Option.map_some];unfold jB;rw [aN hn,if_pos rfl]
 ·rw [if_neg z]
  by_cases hi:i < B.leads.length
  ·rw [List.getElem?_range hi,Option.map_some,Option.map_some]
   unfold jB;rw [aN hn,if_neg (Ne.symm z)]
  ·rw [List.getElem?_eq_none (by simp; omega)]; rfl
theorem PlAt.dropLead (X:PlAt H α B) {n:Nat} (hn:n < B.leads.length):Stp8 H α B (aA H (α .leads) (.lst (((List.range B.leads.length).map (jB α B)).set n .non))) α { B with leads:=B.leads.set n none }:=by
 have lv:∀ r,dg { B with leads:=B.leads.set n none } r->dg B r:=fun r h=>by
  cases r with
  | led i=>obtain ⟨q,e⟩:=h; rw [aN hn] at e; split at e<;>first | (cases e; done) | exact ⟨q,e⟩
  | heard i=>obtain ⟨q,e⟩:=h; rw [aN hn] at e; split at e<;>first | (cases e; done) | exact ⟨q,e⟩
  | best i=>obtain ⟨q,e⟩:=h; rw [aN hn] at e; split at e<;>first | (cases e; done) | exact ⟨q,e⟩
  | said i=>obtain ⟨q,t,e,e2⟩:=h; rw [aN hn] at e; split at e<;>first | (cases e; done) | exact ⟨q,t,e,e2⟩
  | _=>exact h
 refine ⟨X.put (r:=.leads) True.intro lv ?_ (fun r o ne l h=>?_),rfl,fun b u e out=>⟨?_,fun r h=>out r (lv r h)⟩⟩
 ·show HO.lst _=HO.lst _
  exact congrArg HO.lst (xr (x:=none) hn)
 ·have le:∀ i,leadAt B i=leadAt { B with leads:=B.leads.set n none } i\/leadAt { B with leads:=B.leads.set n none } i=none:=fun i=>by
   rw [aN hn]; split
   ·exact .inr rfl
   ·exact .inl rfl
  cases r with
  | leads=>exact absurd rfl ne
  | led i =>
   obtain ⟨q,h1,h2⟩:=h; obtain ⟨q',l⟩:=l; rcases le i with z | z
   ·exact ⟨q,by rw [<- z]; exact h1,h2⟩
   ·rw [z] at l; cases l
  | heard i =>
   obtain ⟨q,h1,h2⟩:=h; obtain ⟨q',l⟩:=l; rcases le i with z | z
   ·exact ⟨q,by rw [<- z]; exact h1,h2⟩
   ·rw [z] at l; cases l
  | best i =>
   obtain ⟨q,kvs,h1,h2⟩:=h; obtain ⟨q',l⟩:=l; rcases le i with z | z
   ·exact ⟨q,kvs,by rw [<- z]; exact h1,h2⟩
   ·rw [z] at l; cases l
  | said i =>
   obtain ⟨q,t,kvs,h1,h2⟩:=h; obtain ⟨q',t',l,_⟩:=l; rcases le i with z | z
   ·exact ⟨q,t,kvs,by rw [<- z]; exact h1,h2⟩
   ·rw [z] at l; cases l
  | _=>exact h
 ·rw [ag (fun z=>out .leads True.intro z.symm)]; exact e
theorem Stp8.trans {H' H'':Hp}{α' α'':PRole->Addr}{B' B'':QH} (X:Stp8 H α B H' α' B') (Y:Stp8 H' α' B' H'' α'' B''):Stp8 H α B H'' α'' B'' :=
 ⟨Y.at_,Y.hall.trans X.hall,fun b u e out=>let ⟨e',out'⟩:=X.kp b u e out; Y.kp b u e' out'⟩
end
end Hl
namespace K08
open PySem L2 Hl
seal L2.PE L2.PA L2.PS L2.gI
section
variable {P:Program}{w:World}{K:Frag}{mg:Str->Option Value}{base:Heap}
theorem nP {α:Type}{f:α->V}{l:List α}{n:Nat}{d:α} (h:n < l.length):il (l.map f) (n:Int)=some (f (l.getD n d)):=bT (by simp [h])
theorem u0 {α:PRole->Addr}{B:QH}{n:Nat} (h:n < B.leads.length):il ((List.range B.leads.length).map (jB α B)) (n:Int)=some (jB α B n):=bT (by simp [h])
theorem gm {n m:Nat} (h:m < n):wK n (m:Int)=some m:=by
 unfold wK;rw [if_pos (by omega),if_pos (by omega)]; simp
noncomputable def qG:Sp:=fun vs H Q _=>∃ (α:PRole->Addr) (B:QH) (n m:Nat) (q:QL),vs=[.ref (α .hall),.int n,.int m]/\PlAt H α B/\leadAt B n=some q/\n < B.leads.length/\n < B.seen.length/\m < B.prom.length /\
 if q.num < promQ B m then ∀ H',Stp8 H α B H' α (f7 B n (promQ B m))->Q (.bl false) H' else ∀ H',Stp8 H α B H' α { B with prom:=B.prom.set m q.num }->Q (.bl true) H'
theorem fJ (NB:NBs mg) (D:DefAt K mg "_law_gets_promise" dE ["_law_hall","_law_own","_law_other"]):L2.Own P w K mg base "_law_gets_promise" 1 ["_law_hall","_law_own","_law_other"] qG:=by
 refine D.own f8 (fun vs H Q E h=>?_) (fun f cdv A outer s H vs Q E hr h=>?_)
 ·obtain ⟨α,B,n,m,q,rfl,_⟩:=h; rfl
 ·obtain ⟨α,B,n,m,q,rfl,X,hq,hn,hs,hm,k⟩:=h
  have hu:=bM hr;have nd:=f8.nd;have el:jB α B n=V.ref (α (.led n)):=by unfold jB; rw [hq]
  have al:=u0 (α:=α) hn;rw [el] at al;have am:=nP (f:=V.int) (d:=0) hm;have as_:=nP (f:=V.int) (d:=0) hs;have ep:B.prom.getD m 0=promQ B m:=by unfold promQ; rw [Int.toNat_natCast]
  rw [ep] at am;refine ⟨_,(ad (aH nd 3 (ax (ba hu) (ax (ba hu) (ax (ba hu) (nv 0) aB (fun _ _=>rfl)) (nv 1) (fun _ _=>rfl)) aB (fun _ _=>rfl)))
 (ad (aQ (aF gh (ax (ba hu) (ax (ba hu) (nv 0) aB (fun _ _=>rfl)) (nv 2) (fun _ _=>rfl)) (nv 3) (aK _)) (ad (gY (aG m8 (by rfl) NB.max vA (ac (ax (ba hu) (ax (ba hu) (nv 0) aB (fun _ _=>rfl)) (nv 1) (fun _ _=>rfl)) (ac (ax (ba hu) (ax (ba hu) (nv 0) aB (fun _ _=>rfl)) (nv 2) (fun _ _=>rfl)) aj))) (gZ (ax (ba hu) (nv 0) aB (fun _ _=>rfl)) (nv 1) eO))
 (ad (gY cg (gZ (ax (ba hu) (nv 0) aB (fun _ _=>rfl)) (nv 1) eO))
 (aq (az bo)))) aC)
 (ad (gY (nv 3) (gZ (ax (ba hu) (nv 0) aB (fun _ _=>rfl)) (nv 2) eO))
 (aq (az bo))))),?_⟩
  refine ⟨_,X.iLeads,_,.lst (a9.of X.leadsC) al,_,X.iNum hq,?_⟩;refine ⟨_,X.iProm,_,.lst (a9.of X.promC) am,_,rfl,fx (fun h=>?_) (fun h=>?_)⟩
  ·have h:q.num < promQ B m:=by simpa using h
   rw [if_pos h] at k;refine ⟨_,X.iSeen,_,.lst (a9.of X.seenC) as_,_,X.iProm,_,.lst (a9.of X.promC) am,?_⟩;have e1:B.seen.getD n 0=B.seen.getD (n:Int).toNat 0:=by rw [Int.toNat_natCast]
   refine ⟨_,X.iSeen,_,_,_,n,rfl,rfl,X.seenC,gm (by simpa using hs),?_⟩;have Y:=X.setSeen n (if B.seen.getD n 0 < promQ B m then promQ B m else B.seen.getD n 0);rw [List.map_set] at Y;refine ⟨_,Y.at_.iLeads,_,_,_,n,rfl,rfl,Y.at_.leadsC,gm (by simpa using hn),?_⟩;have Z:=Y.trans (Y.at_.dropLead hn);have eF:({ B with seen:=B.seen.set n (if B.seen.getD n 0 < promQ B m then promQ B m else B.seen.getD n 0),leads:=B.leads.set n none }:QH)=f7 B n (promQ B m):=by unfold f7; rw [Int.toNat_natCast]
   have Z:Stp8 H α B _ α (f7 B n (promQ B m)):=eF ▸ Z;exact k _ Z
  ·have h:¬ q.num < promQ B m:=by simpa using h
   rw [if_neg h] at k;refine ⟨_,X.iProm,_,_,_,m,rfl,rfl,X.promC,?_,?_⟩
   ·exact gm (by simpa using hm)
   ·have Y:=X.setProm m q.num
    rw [List.map_set] at Y;exact k _ Y
end
end K08
namespace Hl
open PySem L2
noncomputable def tJ (α:PRole->Addr) (n:Nat) (pl ph pb:Addr):PRole->Addr
 | .led i=>if i=n then pl else α (.led i)
 | .heard i=>if i=n then ph else α (.heard i)
 | .best i=>if i=n then pb else α (.best i)
 | r=>α r
section
variable {H:Hp}{α:PRole->Addr}{B:QH}
theorem iI {n:Nat}{num:Int}{pl ph pb:Addr} (hn:n < B.leads.length) {r:PRole} (h:dg { B with leads:=B.leads.set n (some ⟨num,[],[],none⟩) } r) :
  (r=.led n/\tJ α n pl ph pb r=pl)\/(r=.heard n/\tJ α n pl ph pb r=ph)\/(r=.best n/\tJ α n pl ph pb r=pb)\/(dg B r/\tJ α n pl ph pb r=α r/\r≠.led n/\r≠.heard n/\r≠.best n):=by
 cases r with
 | led i =>
  by_cases z:i=n
  ·subst z; exact .inl ⟨rfl,if_pos rfl⟩
  ·obtain ⟨q,e⟩:=h; rw [aN hn,if_neg z] at e
   exact .inr (.inr (.inr ⟨⟨q,e⟩,if_neg z,fun w=>z (by cases w; rfl),nofun,nofun⟩))
 | heard i =>
  by_cases z:i=n
  ·subst z; exact .inr (.inl ⟨rfl,if_pos rfl⟩)
  ·obtain ⟨q,e⟩:=h; rw [aN hn,if_neg z] at e
   exact .inr (.inr (.inr ⟨⟨q,e⟩,if_neg z,nofun,fun w=>z (by cases w; rfl),nofun⟩))
 | best i =>
  by_cases z:i=n
  ·subst z; exact .inr (.inr (.inl ⟨rfl,if_pos rfl⟩))
  ·obtain ⟨q,e⟩:=h; rw [aN hn,if_neg z] at e
   exact .inr (.inr (.inr ⟨⟨q,e⟩,if_neg z,nofun,nofun,fun w=>z (by cases w; rfl)⟩))
 | said i =>
  obtain ⟨q,t,e,e2⟩:=h;rw [aN hn] at e;split at e
  ·cases e; cases e2
  ·exact .inr (.inr (.inr ⟨⟨q,t,e,e2⟩,rfl,nofun,nofun,nofun⟩))
 | _=>exact .inr (.inr (.inr ⟨h,rfl,nofun,nofun,nofun⟩))
theorem PlAt.newLead (X:PlAt H α B) {n:Nat} (hn:n < B.leads.length) {num:Int}{pl ph pb:Addr}{H':Hp} (s:aV H H') (f1:H pl=none) (f2:H ph=none) (f3:H pb=none) (n1:pl≠ph) (n2:pl≠pb) (n3:ph≠pb)
  (c1:H' pl=some (.dK [(sk "number",.int num),(sk "heard",.ref ph),(sk "best",.ref pb),(sk "said",.non)])) (c2:H' ph=some (.lst [])) (c3:H' pb=some (.dK [])) :
  Stp8 H α B (aA H' (α .leads) (.lst (((List.range B.leads.length).map (jB α B)).set n (.ref pl)))) (tJ α n pl ph pb) { B with leads:=B.leads.set n (some ⟨num,[],[],none⟩) }:=by
 have old:∀ r,dg B r->∃ o,H (α r)=some o:=fun r h=>let ⟨o,e,_⟩:=X.at_ r h; ⟨o,e⟩;have ne:∀ {p:Addr},H p=none->∀ r,dg B r->α r≠p:=fun hp r h z=>by obtain ⟨o,e⟩:=old r h; rw [z,hp] at e; cases e
 have tup:∀ t xs,H t=some (.tup xs)->aA H' (α .leads) (.lst (((List.range B.leads.length).map (jB α B)).set n (.ref pl))) t=some (.tup xs):=fun t xs e=>by
  rw [ag]
  ·exact s _ _ e
  ·rintro rfl; rw [X.leadsC] at e; cases e
 refine ⟨⟨fun r r' h h' e=>?_,fun r h=>?_⟩,rfl,fun b u e out=>⟨?_,fun r h=>?_⟩⟩
 ·rcases iI (α:=α) (pl:=pl) (ph:=ph) (pb:=pb) hn h with ⟨a1,a2⟩ | ⟨a1,a2⟩ | ⟨a1,a2⟩ | ⟨a1,a2,_⟩ <;>
  rcases iI (α:=α) (pl:=pl) (ph:=ph) (pb:=pb) hn h' with ⟨b1,b2⟩ | ⟨b1,b2⟩ | ⟨b1,b2⟩ | ⟨b1,b2,_⟩<;>rw [a2,b2] at e <;>
  first
   | (rw [a1,b1]; done)
   | exact absurd e n1 | exact absurd e.symm n1 | exact absurd e n2 | exact absurd e.symm n2 | exact absurd e n3 | exact absurd e.symm n3
   | exact X.inj _ _ a1 b1 e
   | exact absurd e (ne f1 _ a1) | exact absurd e (ne f2 _ a1) | exact absurd e (ne f3 _ a1)
   | exact absurd e.symm (ne f1 _ b1) | exact absurd e.symm (ne f2 _ b1) | exact absurd e.symm (ne f3 _ b1)
 ·rcases iI (α:=α) (pl:=pl) (ph:=ph) (pb:=pb) hn h with ⟨rfl,a2⟩ | ⟨rfl,a2⟩ | ⟨rfl,a2⟩ | ⟨a1,a2,x1,x2,x3⟩
  ·refine ⟨_,by rw [a2,ag (Ne.symm (ne f1 .leads True.intro))]; exact c1,⟨num,[],[],none⟩,by rw [aN hn,if_pos rfl],?_⟩
   show _=HO.dK [_,(sk "heard",V.ref (if n=n then ph else _)),(sk "best",V.ref (if n=n then pb else _)),_];rw [if_pos rfl,if_pos rfl]
  ·exact ⟨_,by rw [a2,ag (Ne.symm (ne f2 .leads True.intro))]; exact c2,⟨num,[],[],none⟩,by rw [aN hn,if_pos rfl],rfl⟩
  ·exact ⟨_,by rw [a2,ag (Ne.symm (ne f3 .leads True.intro))]; exact c3,⟨num,[],[],none⟩,[],by rw [aN hn,if_pos rfl],rfl,.nil⟩
  ·by_cases zl:r=.leads
   ·subst zl
    refine ⟨_,by rw [a2]; exact upd_same,?_⟩;show HO.lst _=HO.lst ((List.range (B.leads.set n _).length).map (jB (tJ α n pl ph pb) { B with leads:=B.leads.set n (some ⟨num,[],[],none⟩) }))
    congr 1
    apply List.ext_getElem?;intro i;rw [List.getElem?_set,List.getElem?_map,List.getElem?_map,List.length_set]
    by_cases z:n=i
    ·subst z
     rw [if_pos rfl,if_pos (by simp [hn]),List.getElem?_range hn,Option.map_some];unfold jB;rw [aN hn,if_pos rfl];show _=some (V.ref (if n=n then pl else _));rw [if_pos rfl]
    ·rw [if_neg z]
     by_cases hi:i < B.leads.length
     ·rw [List.getElem?_range hi,Option.map_some,Option.map_some]
      unfold jB;rw [aN hn,if_neg (Ne.symm z)];cases leadAt B i with
      | none=>rfl
      | some q=>show _=some (V.ref (if i=n then pl else _)); rw [if_neg (Ne.symm z)]
     ·rw [List.getElem?_eq_none (by simp; omega)]; rfl
   ·obtain ⟨o,e,c⟩:=X.at_ r a1
    refine ⟨o,by rw [a2,ag (fun z=>zl (X.inj _ _ a1 True.intro z))]; exact s _ _ e,?_⟩;have c:=c.keep tup;cases r with
    | leads=>exact absurd rfl zl
    | led i =>
     have z:i≠n:=fun z=>x1 (by rw [z]);obtain ⟨q,c1,c2⟩:=c;refine ⟨q,by rw [aN hn,if_neg z]; exact c1,?_⟩;rw [c2];show _=HO.dK [_,(sk "heard",V.ref (if i=n then ph else _)),(sk "best",V.ref (if i=n then pb else _)),_];rw [if_neg z,if_neg z]; rfl
    | heard i =>
     have z:i≠n:=fun z=>x2 (by rw [z]);obtain ⟨q,c1,c2⟩:=c;exact ⟨q,by rw [aN hn,if_neg z]; exact c1,c2⟩
    | best i =>
     have z:i≠n:=fun z=>x3 (by rw [z]);obtain ⟨q,kvs,c1,c2⟩:=c;exact ⟨q,kvs,by rw [aN hn,if_neg z]; exact c1,c2⟩
    | said i =>
     obtain ⟨q,t,kvs,c1,c2⟩:=c;refine ⟨q,t,kvs,?_,c2⟩;obtain ⟨q',t',l1,l2⟩:=h;rw [aN hn] at l1 ⊢;split at l1
     ·cases l1; cases l2
     ·next z=>rw [if_neg z]; exact c1
    | _=>exact c
 ·rw [ag (fun z=>out .leads True.intro z.symm)]; exact s _ _ e
 ·rcases iI (α:=α) (pl:=pl) (ph:=ph) (pb:=pb) hn h with ⟨_,a2⟩ | ⟨_,a2⟩ | ⟨_,a2⟩ | ⟨a1,a2,_⟩<;>rw [a2]
  ·rintro rfl; rw [f1] at e; cases e
  ·rintro rfl; rw [f2] at e; cases e
  ·rintro rfl; rw [f3] at e; cases e
  ·exact out r a1
end
end Hl
namespace K08
open PySem L2 Hl
seal L2.PE L2.PA L2.PS L2.gI
theorem xn {c o s x:Int} (hc:0 < c) (h0:0<=o) (h1:o < c) (hx:s+1<=x) (hl:x<=aM c o s) (e:x % c=o):x=aM c o s:=by
 unfold aM at hl ⊢;have a:=Int.emod_nonneg (o - (s+1)) (show c≠0 by omega);have b:=Int.emod_lt_of_pos (o - (s+1)) hc;have d:=Int.emod_add_mul_ediv (o - (s+1)) c;have f:=Int.emod_add_mul_ediv x c;generalize (o - (s+1)) % c=r at *;generalize (o - (s+1)) / c=k at *;generalize x / c=j at *;rw [e] at f;have g:x - (s+1+r)=c * (j+k):=by rw [Int.mul_add]; omega
 have z:j+k=0:=by
  rcases Int.lt_trichotomy (j+k) 0 with z | z | z
  ·have:c * (j+k)<=c * (-1):=Int.mul_le_mul_of_nonneg_left (by omega) (by omega)
   omega
  ·exact z
  ·have:c * 1<=c * (j+k):=Int.mul_le_mul_of_nonneg_left (by omega) (by omega)
   omega
 rw [z] at g; omega
theorem v9 {c o s:Int} (hc:0 < c) (h0:0<=o) (h1:o < c):aM c o s % c=o:=by
 unfold aM;rw [Int.add_emod,Int.emod_emod_of_dvd _ (Int.dvd_refl c),<- Int.add_emod];rw [show s+1+(o - (s+1))=o by omega];exact Int.emod_eq_of_lt h0 h1
section
variable {P:Program}{w:World}{K:Frag}{mg:Str->Option Value}{base:Heap}
noncomputable def r9:Sp:=fun vs H Q _=>∃ (α:PRole->Addr) (B:QH) (n:Nat),vs=[.ref (α .hall),.int n]/\PlAt H α B/\n < B.leads.length/\n < B.seen.length/\(n:Int) < B.cnt /\
 ∀ α' H',Stp8 H α B H' α' { B with seen:=B.seen.set n (aM B.cnt n (B.seen.getD n 0)),leads:=B.leads.set n (some ⟨aM B.cnt n (B.seen.getD n 0),[],[],none⟩) }->Q (.int (aM B.cnt n (B.seen.getD n 0))) H'
theorem ud (D:DefAt K mg "_law_risen" kn ["_law_hall","_law_own"]):L2.Own P w K mg base "_law_risen" 1 ["_law_hall","_law_own"] r9:=by
 refine D.own pH (fun vs H Q E h=>?_) (fun f cdv A outer s H vs Q E hr h=>?_)
 ·obtain ⟨α,B,n,rfl,_⟩:=h; rfl
 ·obtain ⟨α,B,n,rfl,X,hn,hs,hc,k⟩:=h
  have hu:=bM hr;have nd:=pH.nd;have as_:=nP (f:=V.int) (d:=0) hs;have c0:0 < B.cnt:=by omega
  refine ⟨_,(ad (aH nd 2 (aE bb (ax (ba hu) (ax (ba hu) (nv 0) aB (fun _ _=>rfl)) (nv 1) (fun _ _=>rfl)) ao))
 (ad (iF PassesOwn.never (aF (dq hr) (aE aL (nv 2) (ax (ba hu) (nv 0) aB (fun _ _=>rfl))) (nv 1) (aK _)) (aq (aH nd 2 (aE bb (nv 2) ao))))
 (ad (gY (nv 2) (gZ (ax (ba hu) (nv 0) aB (fun _ _=>rfl)) (nv 1) eO))
 (ad (gY (sM (dX aB (nv 2) (dX aB (bx aj) (dX aB cM (dX aB cg sH)))) rfl rfl (by simp) (by decide)) (gZ (ax (ba hu) (nv 0) aB (fun _ _=>rfl)) (nv 1) eO))
 (aq (az (nv 2))))))),?_⟩
  refine ⟨_,X.iSeen,_,.lst (a9.of X.seenC) as_,?_⟩;generalize B.seen.getD n 0=sn at k ⊢;refine ⟨fun m σ H'=>H=H'/\∃ x:Int,σ=[some (.ref (α .hall)),some (.int n),some (.int x)]/\sn+1<=x/\x<=aM B.cnt n sn/\m=(aM B.cnt n sn - x).toNat,⟨_,rfl,sn+1,rfl,by omega,?_,rfl⟩,?_⟩
  ·unfold aM
   have:=Int.emod_nonneg ((n:Int) - (sn+1)) (show B.cnt≠0 by omega);omega
  rintro m σ H' ⟨rfl,x,rfl,h1,h2,rfl⟩;refine ⟨_,X.iCount,c0,_,.scal rfl,_,rfl,fx (fun h=>?_) (fun h=>?_)⟩
  ·have hne:x % B.cnt≠n:=by simpa using h
   have lt:x < aM B.cnt n sn:=by
    rcases Int.lt_or_eq_of_le h2 with z | z
    ·exact z
    ·exact absurd (by rw [z]; exact v9 c0 (by omega) hc) hne
   refine ⟨fun σ H'=>∃ m',m' < (aM B.cnt n sn - x).toNat/\H=H'/\∃ x:Int,σ=[some (.ref (α .hall)),some (.int n),some (.int x)]/\sn+1<=x/\x<=aM B.cnt n sn/\m'=(aM B.cnt n sn - x).toNat,fun _ _ h=>h,?_⟩;exact ⟨_,by omega,rfl,x+1,rfl,by omega,by omega,rfl⟩
  ·have he:x % B.cnt=n:=by simpa using h
   have ex:=xn c0 (by omega) hc h1 h2 he;subst ex;refine ⟨_,X.iSeen,_,_,_,n,rfl,rfl,X.seenC,gm (by simpa using hs),?_⟩;have Y:=X.setSeen n (aM B.cnt n sn);rw [List.map_set] at Y;generalize aA H (α .seen) (.lst ((B.seen.map V.int).set n (.int (aM B.cnt n sn))))=H1 at Y ⊢;intro pl npl;refine ⟨Nat.zero_le _,fun ph nph pb npb=>?_⟩;have a1:pl≠ph:=by rintro rfl; rw [upd_same] at nph; cases nph
   have a2:pl≠pb:=by rintro rfl; rw [ag a1,upd_same] at npb; cases npb
   have a3:ph≠pb:=by rintro rfl; rw [upd_same] at npb; cases npb
   have fh:H1 ph=none:=by rw [ag (Ne.symm a1)] at nph; exact nph
   have fb:H1 pb=none:=by rw [ag (Ne.symm a3),ag (Ne.symm a2)] at npb; exact npb
   refine ⟨by rw [ag a2,ag a1]; exact upd_same,[(sk "number",.int (aM B.cnt n sn)),(sk "heard",.ref ph),(sk "best",.ref pb),(sk "said",.non)],rfl,by show 4<=15; decide,?_⟩;rw [show g9 [] [(sk "number",V.int (aM B.cnt n sn)),(sk "heard",.ref ph),(sk "best",.ref pb),(sk "said",.non)]=[(sk "number",V.int (aM B.cnt n sn)),(sk "heard",.ref ph),(sk "best",.ref pb),(sk "said",.non)] by kernel_rfl];have s1:aV H1 (aA (aA (aA (aA H1 pl (.dK [])) ph (.lst [])) pb (.dK [])) pl (.dK [(sk "number",V.int (aM B.cnt n sn)),(sk "heard",.ref ph),(sk "best",.ref pb),(sk "said",.non)])):=fun b u e=>by
    rw [ag (ai e npl),ag (ai e fb),ag (ai e fh),ag (ai e npl)]; exact e
   have c1:(aA (aA (aA (aA H1 pl (.dK [])) ph (.lst [])) pb (.dK [])) pl (.dK [(sk "number",V.int (aM B.cnt n sn)),(sk "heard",.ref ph),(sk "best",.ref pb),(sk "said",.non)])) pl=some (.dK [(sk "number",V.int (aM B.cnt n sn)),(sk "heard",.ref ph),(sk "best",.ref pb),(sk "said",.non)]):=upd_same;have c2:(aA (aA (aA (aA H1 pl (.dK [])) ph (.lst [])) pb (.dK [])) pl (.dK [(sk "number",V.int (aM B.cnt n sn)),(sk "heard",.ref ph),(sk "best",.ref pb),(sk "said",.non)])) ph=some (.lst []):=by rw [ag (Ne.symm a1),ag a3]; exact upd_same
   have c3:(aA (aA (aA (aA H1 pl (.dK [])) ph (.lst [])) pb (.dK [])) pl (.dK [(sk "number",V.int (aM B.cnt n sn)),(sk "heard",.ref ph),(sk "best",.ref pb),(sk "said",.non)])) pb=some (.dK []):=by rw [ag (Ne.symm a2)]; exact upd_same
   generalize (aA (aA (aA (aA H1 pl (.dK [])) ph (.lst [])) pb (.dK [])) pl (.dK [(sk "number",V.int (aM B.cnt n sn)),(sk "heard",.ref ph),(sk "best",.ref pb),(sk "said",.non)]))=H2 at s1 c1 c2 c3 ⊢;have Y2:=Y.at_.same s1;refine ⟨_,Y2.iLeads,_,_,_,n,rfl,rfl,Y2.leadsC,gm (by simpa using hn),?_⟩;exact k _ _ (Y.trans (Y.at_.newLead hn s1 npl fh fb a1 a2 a3 c1 c2 c3))
end
end K08
namespace Hl
open PySem L2
section
variable {H:Hp}{α:PRole->Addr}{B:QH}
theorem PlAt.ldPut (X:PlAt H α B) {n:Nat}{q q':QL} (hn:n < B.leads.length) (hq:leadAt B n=some q) (e1:q'.num=q.num) (e2:q'.said.isSome=q.said.isSome) {r:PRole} (hr:dg B r) {o':HO}
  (hc:i5 (aA H (α r) o') α { B with leads:=B.leads.set n (some q') } r o') (x1:r≠.heard n->q'.heard=q.heard) (x2:r≠.best n->q'.best=q.best) (x3:r≠.said n->q'.said=q.said) :
  Stp8 H α B (aA H (α r) o') α { B with leads:=B.leads.set n (some q') }:=by
 have at':∀ i,leadAt { B with leads:=B.leads.set n (some q') } i=if i=n then some q' else leadAt B i:=fun i=>aN hn
 have lv:∀ r,dg { B with leads:=B.leads.set n (some q') } r->dg B r:=fun r h=>by
  cases r with
  | led i =>
   obtain ⟨p,e⟩:=h; rw [at'] at e; split at e
   ·next z=>rw [z]; exact ⟨q,hq⟩
   ·exact ⟨p,e⟩
  | heard i =>
   obtain ⟨p,e⟩:=h; rw [at'] at e; split at e
   ·next z=>rw [z]; exact ⟨q,hq⟩
   ·exact ⟨p,e⟩
  | best i =>
   obtain ⟨p,e⟩:=h; rw [at'] at e; split at e
   ·next z=>rw [z]; exact ⟨q,hq⟩
   ·exact ⟨p,e⟩
  | said i =>
   obtain ⟨p,t,e,e'⟩:=h; rw [at'] at e; split at e
   ·next z =>
    rw [z]; cases e;rw [e'] at e2;obtain ⟨t',z'⟩:=Option.isSome_iff_exists.mp e2.symm;exact ⟨q,t',hq,z'⟩
   ·exact ⟨p,t,e,e'⟩
  | _=>exact h
 refine ⟨X.put hr lv hc (fun r' o ne l h=>?_),rfl,fun b u e out=>⟨?_,fun r h=>out r (lv r h)⟩⟩
 ·cases r' with
  | leads =>
   show o=HO.lst ((List.range (B.leads.set n (some q')).length).map (jB α { B with leads:=B.leads.set n (some q') }));rw [show o=HO.lst ((List.range B.leads.length).map (jB α B)) from h,List.length_set]
   congr 1
   apply List.map_congr_left;intro i _;unfold jB;rw [at']
   by_cases z:i=n
   ·rw [if_pos z,z,hq]
   ·rw [if_neg z]
  | led i =>
   obtain ⟨p,h1,h2⟩:=h
   by_cases z:i=n
   ·subst z
    rw [hq] at h1; cases h1;refine ⟨q',by rw [at',if_pos rfl],?_⟩;rw [h2,e1]
    congr 4
    cases hs:q.said with
    | none=>rw [hs] at e2; cases hs':q'.said with
     | none=>rfl
     | some t=>rw [hs'] at e2; cases e2
    | some t=>rw [hs] at e2; cases hs':q'.said with
     | none=>rw [hs'] at e2; cases e2
     | some t=>rfl
   ·exact ⟨p,by rw [at',if_neg z]; exact h1,h2⟩
  | heard i =>
   obtain ⟨p,h1,h2⟩:=h
   by_cases z:i=n
   ·subst z
    rw [hq] at h1; cases h1;exact ⟨q',by rw [at',if_pos rfl],by rw [h2,x1 (Ne.symm ne)]⟩
   ·exact ⟨p,by rw [at',if_neg z]; exact h1,h2⟩
  | best i =>
   obtain ⟨p,kvs,h1,h2,h3⟩:=h
   by_cases z:i=n
   ·subst z
    rw [hq] at h1; cases h1;exact ⟨q',kvs,by rw [at',if_pos rfl],h2,by rw [x2 (Ne.symm ne)]; exact h3⟩
   ·exact ⟨p,kvs,by rw [at',if_neg z]; exact h1,h2,h3⟩
  | said i =>
   obtain ⟨p,t,kvs,h1,h2,h3⟩:=h
   by_cases z:i=n
   ·subst z
    rw [hq] at h1; cases h1;exact ⟨q',t,kvs,by rw [at',if_pos rfl],by rw [x3 (Ne.symm ne)]; exact h2,h3⟩
   ·exact ⟨p,t,kvs,by rw [at',if_neg z]; exact h1,h2,h3⟩
  | _=>exact h
 ·rw [ag (fun z=>out r hr z.symm)]; exact e
end
section
variable {H:Hp}{α:PRole->Addr}{B:QH}
theorem PlAt.setRow (X:PlAt H α B) {m:Nat} (hm:m < B.rows.length) {kvs:List (bh×V)}{row:bJ} (hk:cm (fun _ v e=>kH H v e) kvs row) :
  Stp8 H α B (aA H (α (.row m)) (.dK kvs)) α { B with rows:=B.rows.set m row }:=by
 have lv:∀ r,dg { B with rows:=B.rows.set m row } r->dg B r:=fun r h=>by
  cases r with
  | row i=>have h:i < (B.rows.set m row).length:=h; rw [List.length_set] at h; exact h
  | _=>exact h
 have tp:=X.tups (r:=.row m) hm (.dK kvs);have get:∀ i,(B.rows.set m row).getD i []=if i=m then row else B.rows.getD i []:=fun i=>by
  rw [List.getD_eq_getElem?_getD,List.getD_eq_getElem?_getD,List.getElem?_set]
  by_cases z:m=i
  ·subst z; rw [if_pos rfl,if_pos hm,if_pos rfl]; rfl
  ·rw [if_neg z,if_neg (Ne.symm z)]
 refine ⟨X.put (r:=.row m) hm lv ?_ (fun r o ne l h=>?_),rfl,fun b u e out=>⟨?_,fun r h=>out r (lv r h)⟩⟩
 ·refine ⟨kvs,rfl,?_⟩
  show cm _ kvs ((B.rows.set m row).getD m []);rw [get,if_pos rfl];exact hk.imp fun k v e _ ⟨t,h1,h2⟩=>⟨t,h1,tp _ _ h2⟩
 ·cases r with
  | row i =>
   obtain ⟨kv,h1,h2⟩:=h;refine ⟨kv,h1,?_⟩;show cm _ kv ((B.rows.set m row).getD i []);rw [get,if_neg (fun z=>ne (by rw [z]))]; exact h2
  | rows =>
   show o=HO.lst ((List.range (B.rows.set m row).length).map _);rw [List.length_set]; exact h
  | _=>exact h
 ·rw [ag (fun z=>out (.row m) hm z.symm)]; exact e
theorem PlAt.wrsC (X:PlAt H α B):∃ us,H (α .wrs)=some (.lst us)/\Paired (o_ H) us B.wrs:=by
 obtain ⟨o,h1,us,h2,h3⟩:=X.at_ .wrs True.intro;exact ⟨us,by rw [h1,h2],h3⟩
theorem PlAt.addWr (X:PlAt H α B) {us:List V} (hu:Paired (o_ H) us B.wrs) {t:Addr}{x:Int×Int×Int×Str} (ht:H t=some (.tup [.int x.1,.int x.2.1,.int x.2.2.1,.str x.2.2.2])) :
  Stp8 H α B (aA H (α .wrs) (.lst (us++[.ref t]))) α { B with wrs:=B.wrs++[x] }:=by
 have tp:=X.tups (r:=.wrs) True.intro (.lst (us++[.ref t]));refine ⟨X.put (r:=.wrs) True.intro (fun r h=>by cases r<;>exact h) ⟨_,rfl,?_⟩ (fun r o ne _ h=>by cases r<;>first | exact h | exact absurd rfl ne),rfl,fun b u e out=>⟨?_,fun r h=>out r (by cases r<;>exact h)⟩⟩
 ·exact Paired.snoc (Paired.mapP hu fun v y ⟨t,h1,h2⟩=>⟨t,h1,tp _ _ h2⟩) ⟨t,rfl,tp _ _ ht⟩
 ·rw [ag (fun z=>out .wrs True.intro z.symm)]; exact e
end
noncomputable def qy (α:PRole->Addr) (n:Nat) (ps:Addr):PRole->Addr
 | .said i=>if i=n then ps else α (.said i)
 | r=>α r
section
variable {H:Hp}{α:PRole->Addr}{B:QH}
theorem PlAt.openLead (X:PlAt H α B) {n:Nat}{q:QL} (hn:n < B.leads.length) (hq:leadAt B n=some q) (hs:q.said=none) {ps:Addr} (np:H ps=none) :
  Stp8 H α B (aA (aA H ps (.dK [])) (α (.led n)) (.dK [(sk "number",.int q.num),(sk "heard",.ref (α (.heard n))),(sk "best",.ref (α (.best n))),(sk "said",.ref ps)])) (qy α n ps) { B with leads:=B.leads.set n (some { q with said:=some [] }) }:=by
 have at':∀ i,leadAt { B with leads:=B.leads.set n (some { q with said:=some [] }) } i=if i=n then some { q with said:=some [] } else leadAt B i:=fun i=>aN hn
 have hl:dg B (.led n):=⟨q,hq⟩;have ne:∀ r,dg B r->α r≠ps:=fun r h z=>by obtain ⟨o,e,_⟩:=X.at_ r h; rw [z,np] at e; cases e
 have lv:∀ r,dg { B with leads:=B.leads.set n (some { q with said:=some [] }) } r->(r=.said n/\qy α n ps r=ps)\/(dg B r/\qy α n ps r=α r/\r≠.said n):=fun r h=>by
  cases r with
  | led i =>
   obtain ⟨p,e⟩:=h; rw [at'] at e; split at e
   ·next z=>rw [z]; exact .inr ⟨⟨q,hq⟩,rfl,nofun⟩
   ·exact .inr ⟨⟨p,e⟩,rfl,nofun⟩
  | heard i =>
   obtain ⟨p,e⟩:=h; rw [at'] at e; split at e
   ·next z=>rw [z]; exact .inr ⟨⟨q,hq⟩,rfl,nofun⟩
   ·exact .inr ⟨⟨p,e⟩,rfl,nofun⟩
  | best i =>
   obtain ⟨p,e⟩:=h; rw [at'] at e; split at e
   ·next z=>rw [z]; exact .inr ⟨⟨q,hq⟩,rfl,nofun⟩
   ·exact .inr ⟨⟨p,e⟩,rfl,nofun⟩
  | said i =>
   by_cases z:i=n
   ·subst z; exact .inl ⟨rfl,if_pos rfl⟩
   ·obtain ⟨p,t,e,e'⟩:=h; rw [at',if_neg z] at e
    exact .inr ⟨⟨p,t,e,e'⟩,if_neg z,fun w=>z (by cases w; rfl)⟩
  | _=>exact .inr ⟨h,rfl,nofun⟩
 have tp:∀ t xs,H t=some (.tup xs)->aA (aA H ps (.dK [])) (α (.led n)) (.dK [(sk "number",.int q.num),(sk "heard",.ref (α (.heard n))),(sk "best",.ref (α (.best n))),(sk "said",.ref ps)]) t=some (.tup xs):=fun t xs e=>by
  rw [ag,ag (ai e np)]
  ·exact e
  ·rintro rfl; rw [X.ledC hq] at e; cases e
 refine ⟨⟨fun r r' h h' e=>?_,fun r h=>?_⟩,rfl,fun b u e out=>⟨?_,fun r h=>?_⟩⟩
 ·rcases lv r h with ⟨a1,a2⟩ | ⟨a1,a2,_⟩<;>rcases lv r' h' with ⟨b1,b2⟩ | ⟨b1,b2,_⟩<;>rw [a2,b2] at e
  ·rw [a1,b1]
  ·exact absurd e.symm (ne _ b1)
  ·exact absurd e (ne _ a1)
  ·exact X.inj _ _ a1 b1 e
 ·rcases lv r h with ⟨rfl,a2⟩ | ⟨a1,a2,x1⟩
  ·exact ⟨_,by rw [a2,ag (Ne.symm (ne _ hl))]; exact upd_same,_,[],[],by rw [at',if_pos rfl],rfl,rfl,.nil⟩
  ·by_cases zl:r=.led n
   ·subst zl
    refine ⟨_,by rw [a2]; exact upd_same,_,by rw [at',if_pos rfl],?_⟩;show _=HO.dK [_,_,_,(sk "said",V.ref (if n=n then ps else _))];rw [if_pos rfl]; rfl
   ·obtain ⟨o,e,c⟩:=X.at_ r a1
    refine ⟨o,by rw [a2,ag (fun z=>zl (X.inj _ _ a1 hl z)),ag (ne _ a1)]; exact e,?_⟩;have c:=c.keep tp;cases r with
    | leads =>
     show o=HO.lst ((List.range (B.leads.set n _).length).map (jB (qy α n ps) { B with leads:=B.leads.set n (some { q with said:=some [] }) }));rw [show o=HO.lst ((List.range B.leads.length).map (jB α B)) from c,List.length_set]
     congr 1
     apply List.map_congr_left;intro i _;unfold jB;rw [at']
     by_cases z:i=n
     ·rw [if_pos z,z,hq]; rfl
     ·rw [if_neg z]; rfl
    | led i =>
     have z:i≠n:=fun z=>zl (by rw [z]);obtain ⟨p,c1,c2⟩:=c;refine ⟨p,by rw [at',if_neg z]; exact c1,?_⟩;rw [c2]
     congr 4
     cases p.said with
     | none=>rfl
     | some t=>show [(sk "said",V.ref (α (.said i)))]=[(sk "said",V.ref (if i=n then ps else α (.said i)))]; rw [if_neg z]
    | heard i =>
     obtain ⟨p,c1,c2⟩:=c
     by_cases z:i=n
     ·subst z; rw [hq] at c1; cases c1
      exact ⟨{ q with said:=some [] },by rw [at',if_pos rfl],c2⟩
     ·exact ⟨p,by rw [at',if_neg z]; exact c1,c2⟩
    | best i =>
     obtain ⟨p,kvs,c1,c2⟩:=c
     by_cases z:i=n
     ·subst z; rw [hq] at c1; cases c1
      exact ⟨{ q with said:=some [] },kvs,by rw [at',if_pos rfl],c2⟩
     ·exact ⟨p,kvs,by rw [at',if_neg z]; exact c1,c2⟩
    | said i =>
     have z:i≠n:=fun z=>x1 (by rw [z]);obtain ⟨p,t,kvs,c1,c2⟩:=c;exact ⟨p,t,kvs,by rw [at',if_neg z]; exact c1,c2⟩
    | _=>exact c
 ·rw [ag (fun z=>out _ hl z.symm),ag (ai e np)]; exact e
 ·rcases lv r h with ⟨_,a2⟩ | ⟨a1,a2,_⟩<;>rw [a2]
  ·rintro rfl; rw [np] at e; cases e
  ·exact out r a1
end
structure LdQ (N:Nat) (q:QL):Prop where
 num:0<=q.num
 hd:q.heard.length<=N
 bl:q.best.length<=N * N
 bk:(q.best.map (·.1)).Nodup
 sl:∀ s,q.said=some s->s.length<=N * N+N
structure Gd (n N:Nat) (B:QH):Prop where
 cnt:B.cnt=n
 lp:B.prom.length=n
 ls:B.seen.length=n
 lr:B.rows.length=n
 ll:B.leads.length=n
 lu:B.up.length=n
 sn:∀ x∈B.seen,-1<=x
 rw_:∀ r∈B.rows,r.length<=N/\(r.map (·.1)).Nodup/\∀ e∈r,0<=e.2.1
 wr:B.wrs.length<=N
 ld:∀ x∈B.leads,∀ q,x=some q->LdQ N q
theorem LdQ.mono {N M:Nat}{q:QL} (X:LdQ N q) (h:N<=M):LdQ M q :=
 have:=Nat.mul_le_mul h h
 ⟨X.num,by have:=X.hd; omega,by have:=X.bl; omega,X.bk,fun s e=>by have:=X.sl s e; omega⟩
theorem Gd.mono {n N M:Nat}{B:QH} (X:Gd n N B) (h:N<=M):Gd n M B :=
 ⟨X.cnt,X.lp,X.ls,X.lr,X.ll,X.lu,X.sn,fun r hr=>let ⟨a,b⟩:=X.rw_ r hr; ⟨by omega,b⟩,by have:=X.wr; omega,fun x hx q e=>(X.ld x hx q e).mono h⟩
theorem Gd.init (n:Nat):Gd n 0 (bF n):=by
 refine ⟨rfl,by simp [bF],by simp [bF],by simp [bF],by simp [bF],by simp [bF],fun x hx=>?_,fun r hr=>?_,by simp [bF],fun x hx q e=>?_⟩
 ·rw [(List.mem_replicate.mp hx).2]; omega
 ·rw [(List.mem_replicate.mp hr).2]; simp
 ·rw [(List.mem_replicate.mp hx).2] at e; cases e
theorem bQ {B:QH}{i:Nat}{q:QL} (h:leadAt B i=some q):some q∈B.leads/\i < B.leads.length:=by
 unfold leadAt at h;rw [List.getD_eq_getElem?_getD] at h;cases e:B.leads[i]? with
 | none=>rw [e] at h; cases h
 | some x=>rw [e] at h; cases (show x=some q from h); exact ⟨List.mem_of_getElem? e,(List.getElem?_eq_some_iff.mp e).1⟩
theorem kz {B:QH}{i:Nat} (h:i < B.rows.length):B.rows.getD i []∈B.rows:=by
 rw [List.getD_eq_getElem?_getD,List.getElem?_eq_getElem h]; exact List.getElem_mem h
theorem sW {l:List Int} (h:∀ x∈l,-1<=x) (k:Nat):-1<=l.getD k 0:=by
 rw [List.getD_eq_getElem?_getD];cases e:l[k]? with
 | none=>show -1<=(0:Int); omega
 | some x=>exact h x (List.mem_of_getElem? e)
section
variable {n N:Nat}{B:QH}
theorem Gd.setLead (X:Gd n N B) (i:Nat) (x:Option QL) (h:∀ q,x=some q->LdQ N q):Gd n N { B with leads:=B.leads.set i x } :=
 ⟨X.cnt,X.lp,X.ls,X.lr,by simp [X.ll],X.lu,X.sn,X.rw_,X.wr,fun y hy q e=>by
  rcases List.mem_or_eq_of_mem_set hy with z | z
  ·exact X.ld y z q e
  ·exact h q (z ▸ e)⟩
theorem Gd.setSeen (X:Gd n N B) (i:Nat) {x:Int} (h:-1<=x):Gd n N { B with seen:=B.seen.set i x } :=
 ⟨X.cnt,X.lp,by simp [X.ls],X.lr,X.ll,X.lu,fun y hy=>by
  rcases List.mem_or_eq_of_mem_set hy with z | z
  ·exact X.sn y z
  ·rw [z]; exact h,X.rw_,X.wr,X.ld⟩
theorem Gd.setProm (X:Gd n N B) (i:Nat) (x:Int):Gd n N { B with prom:=B.prom.set i x }:=⟨X.cnt,by simp [X.lp],X.ls,X.lr,X.ll,X.lu,X.sn,X.rw_,X.wr,X.ld⟩
theorem Gd.setUp (X:Gd n N B) (i:Nat) (x:Bool):Gd n N { B with up:=B.up.set i x }:=⟨X.cnt,X.lp,X.ls,X.lr,X.ll,by simp [X.lu],X.sn,X.rw_,X.wr,X.ld⟩
theorem Gd.fall (X:Gd n N B) (o x:Int):Gd n N (f7 B o x):=by
 have h:=sW X.sn o.toNat;have Y:=(X.setSeen o.toNat (x:=if B.seen.getD o.toNat 0 < x then x else B.seen.getD o.toNat 0) (by split<;>omega)).setLead o.toNat none (fun q e=>nomatch e);exact Y
theorem iN:∀ (row b:bJ),(b.map (·.1)).Nodup->(row.foldl aR b).length<=b.length+row.length/\((row.foldl aR b).map (·.1)).Nodup
 | [],b,h=>⟨by simp,h⟩
 | p :: row,b,h=>by
  obtain ⟨h1,h2⟩:=iN row (aR b p) (je h p);refine ⟨?_,h2⟩;have:=lq b p;simp only [List.foldl_cons,List.length_cons]; omega
theorem kY:∀ (b:bJ) (s:List (Int×Str)),(b.foldl (fun s e=>aJ s e.1 e.2.2) s).length<=s.length+b.length
 | [],s=>by simp
 | p :: b,s=>by
  have:=kY b (aJ s p.1 p.2.2);have:=bD s p.1 p.2.2;simp only [List.foldl_cons,List.length_cons]; omega
theorem By (N:Nat):(N+1) * (N+1)=N * N+N+N+1:=by rw [Nat.add_mul,Nat.mul_add]; omega
theorem LdQ.hear {q:QL} (X:LdQ N q) {row:bJ} (hr:row.length<=N) (c j:Int):LdQ (N+1) (dm c q j row):=by
 have a:=p0 q.heard j;obtain ⟨b1,b2⟩:=iN row q.best X.bk;have:=X.hd; have:=X.bl; have e:=By N;have y:=X.mono (Nat.le_succ N);unfold dm;split
 ·exact ⟨X.num,by show (cA q.heard j).length<=_; omega,y.bl,X.bk,y.sl⟩
 ·next hs =>
  split
  ·refine ⟨X.num,by show (cA q.heard j).length<=_; omega,by show (row.foldl aR q.best).length<=_; omega,b2,fun s z=>?_⟩
   have z:some ((row.foldl aR q.best).foldl (fun s e=>aJ s e.1 e.2.2) [])=some s:=z;cases z;have:=kY (row.foldl aR q.best) [];simp at this; omega
  ·exact ⟨X.num,by show (cA q.heard j).length<=_; omega,by show (row.foldl aR q.best).length<=_; omega,b2,fun s z=>by
    have z:q.said=some s:=z;rw [hs] at z; cases z⟩
theorem Gd.lead (X:Gd n N B) {o:Int}{q:QL} (h:eX B o=some q):LdQ N q:=X.ld _ (bQ (i:=o.toNat) h).1 q rfl
theorem Gd.due (X:Gd n N B) (n0:0 < n) (d:Deed):Gd n (N+1) (dj B d).1:=by
 have Y:=X.mono (Nat.le_succ N);have e:=By N;cases d with
 | rise o =>
  simp only [dj];split
  ·unfold gJ
   split
   ·have s0:=sW X.sn o.toNat
    have h:0<=aM B.cnt o (B.seen.getD o.toNat 0):=by
     unfold aM;have:=Int.emod_nonneg (o - (B.seen.getD o.toNat 0+1)) (show B.cnt≠0 by rw [X.cnt]; omega);omega
    exact (Y.setSeen o.toNat (by omega)).setLead o.toNat (some ⟨aM B.cnt o (B.seen.getD o.toNat 0),[],[],none⟩) (fun q z=>by cases z; exact ⟨h,by simp,by simp,by simp,nofun⟩)
   ·exact Y
  ·exact Y
 | ask o p =>
  simp only [dj];split
  ·split
   ·next hp =>
    unfold io;split
    ·exact Y
    ·next q hq =>
     split
     ·split
      ·exact Y.fall _ _
      ·have hp:p.toNat < B.rows.length:=by
        unfold nz at hp; simp at hp; rw [X.cnt] at hp; rw [X.lr]; omega
       exact (Y.setProm p.toNat q.num).setLead o.toNat _ (fun q' z=>by cases z; exact (X.lead hq).hear (X.rw_ _ (kz hp)).1 _ _)
     ·exact Y
   ·exact Y
  ·exact Y
 | say o s =>
  simp only [dj];split
  ·unfold jS
   split
   ·exact Y
   ·next q hq =>
    split
    ·exact Y
    ·next t ht =>
     have l:=X.lead hq;refine Y.setLead o.toNat _ (fun q' z=>?_);cases z;have y:=l.mono (Nat.le_succ N);refine ⟨l.num,y.hd,y.bl,l.bk,fun s' z=>?_⟩;have z:some (aJ t (b_ t) s)=some s':=z;cases z;have:=bD t (b_ t) s;have:=l.sl _ ht;show _<=(N+1) * (N+1)+(N+1);omega
  ·exact Y
 | write o p pl =>
  simp only [dj];split
  ·split
   ·unfold cB
    split
    ·exact Y
    ·next q hq =>
     split
     ·exact Y
     ·next t ht =>
      split
      ·split
       ·exact Y
       ·next sy hy =>
        split
        ·exact Y.fall _ _
        ·have l:=X.lead hq
         refine ⟨X.cnt,by simp [X.lp],X.ls,by simp [X.lr],X.ll,X.lu,X.sn,fun r hr=>?_,by simp [X.wr],Y.ld⟩;rcases List.mem_or_eq_of_mem_set hr with z | z
         ·exact Y.rw_ r z
         ·have rk:(B.rows.getD p.toNat []).length<=N/\((B.rows.getD p.toNat []).map (·.1)).Nodup/\∀ e∈B.rows.getD p.toNat [],0<=e.2.1:=by
           by_cases z:p.toNat < B.rows.length
           ·exact X.rw_ _ (kz z)
           ·rw [List.getD_eq_getElem?_getD,List.getElem?_eq_none (by omega)]; simp
          rw [z];refine ⟨?_,dR _ _ rk.2.1,fun e he=>?_⟩
          ·have:=bD (B.rows.getD p.toNat []) pl (q.num,sy)
           omega
          ·have nd:=dR pl (q.num,sy) rk.2.1
           have g:=i8 nd he;rw [aP] at g;split at g
           ·rw [<- Option.some.inj g]; exact l.num
           ·exact rk.2.2 _ (bj g)
      ·exact Y
   ·exact Y
  ·exact Y
 | settled o=>exact Y
 | stop o =>
  simp only [dj];split
  ·exact (Y.setUp o.toNat false).setLead o.toNat none (fun q e=>nomatch e)
  ·exact Y
 | wake o =>
  simp only [dj];split
  ·exact Y.setUp o.toNat true
  ·exact Y
end
theorem Stp8.same {H H' H'':Hp}{α α':PRole->Addr}{B B':QH} (X:Stp8 H α B H' α' B') (s:aV H' H''):Stp8 H α B H'' α' B' :=
 ⟨X.at_.same s,X.hall,fun b u e out=>let ⟨a,c⟩:=X.kp b u e out; ⟨s _ _ a,c⟩⟩
theorem Stp8.refl {H:Hp}{α:PRole->Addr}{B:QH} (X:PlAt H α B):Stp8 H α B H α B:=⟨X,rfl,fun b u e o=>⟨e,o⟩⟩
theorem Stp8.of {H H':Hp}{α:PRole->Addr}{B:QH} (X:PlAt H α B) (s:aV H H'):Stp8 H α B H' α B:=(Stp8.refl X).same s
section
variable {K:Frag}{H:Hp}{α:PRole->Addr}{B:QH}{i:Nat}{q:QL}
theorem PlAt.heardC (X:PlAt H α B) (h:leadAt B i=some q):H (α (.heard i))=some (.lst (q.heard.map V.int)):=by
 obtain ⟨o,h1,q',h2,h3⟩:=X.at_ (.heard i) ⟨q,h⟩;rw [h] at h2; cases h2;rw [h1,h3]
theorem PlAt.bestC (X:PlAt H α B) (h:leadAt B i=some q):∃ kvs,H (α (.best i))=some (.dK kvs)/\cm (fun _ v e=>kH H v e) kvs q.best:=by
 obtain ⟨o,h1,q',kvs,h2,h3,h4⟩:=X.at_ (.best i) ⟨q,h⟩;rw [h] at h2; cases h2;exact ⟨kvs,by rw [h1,h3],h4⟩
theorem PlAt.saidC (X:PlAt H α B) (h:leadAt B i=some q) {s:List (Int×Str)} (hs:q.said=some s):∃ kvs,H (α (.said i))=some (.dK kvs)/\cm (fun _ v (y:Str)=>v=.str y) kvs s:=by
 obtain ⟨o,h1,q',s',kvs,h2,h2',h3,h4⟩:=X.at_ (.said i) ⟨q,s,h,hs⟩;rw [h] at h2; cases h2;rw [hs] at h2'; cases h2';exact ⟨kvs,by rw [h1,h3],h4⟩
theorem PlAt.rowsC (X:PlAt H α B):H (α .rows)=some (.lst ((List.range B.rows.length).map fun i=>V.ref (α (.row i)))):=by
 obtain ⟨o,h1,h2⟩:=X.at_ .rows True.intro;rw [h1,show o=_ from h2]
theorem PlAt.rowC (X:PlAt H α B) {m:Nat} (h:m < B.rows.length):∃ kvs,H (α (.row m))=some (.dK kvs)/\cm (fun _ v e=>kH H v e) kvs (B.rows.getD m []):=by
 obtain ⟨o,h1,kvs,h2,h3⟩:=X.at_ (.row m) h;exact ⟨kvs,by rw [h1,h2],h3⟩
theorem PlAt.iHeard (X:PlAt H α B) (h:leadAt B i=some q):Item K H (.ref (α (.led i))) (.str "heard") (.ref (α (.heard i))):=c9 (k:=sk "heard") (X.ledC h) (by kernel_rfl)
theorem PlAt.iBest (X:PlAt H α B) (h:leadAt B i=some q):Item K H (.ref (α (.led i))) (.str "best") (.ref (α (.best i))):=c9 (k:=sk "best") (X.ledC h) (by kernel_rfl)
noncomputable def zu (α:PRole->Addr) (q:QL) (i:Nat):V:=match q.said with | none=>V.non | some _=>V.ref (α (.said i))
theorem PlAt.iSaid (X:PlAt H α B) (h:leadAt B i=some q):Item K H (.ref (α (.led i))) (.str "said") (zu α q i):=c9 (k:=sk "said") (X.ledC h) (by kernel_rfl)
theorem kX (h:q.said=none):zu α q i=.non:=by unfold zu; rw [h]
theorem eP {s:List (Int×Str)} (h:q.said=some s):zu α q i=.ref (α (.said i)):=by unfold zu; rw [h]
theorem k7 (h:leadAt B i=none):jB α B i=.non:=by unfold jB; rw [h]
theorem iK (h:leadAt B i=some q):jB α B i=.ref (α (.led i)):=by unfold jB; rw [h]
theorem PlAt.putHeard (X:PlAt H α B) (hq:leadAt B i=some q) (j:Int):Stp8 H α B (aA H (α (.heard i)) (.lst (q.heard.map V.int++[.int j]))) α { B with leads:=B.leads.set i (some { q with heard:=q.heard++[j] }) } :=
 X.ldPut (q':={ q with heard:=q.heard++[j] }) (r:=.heard i) (bQ hq).2 hq rfl rfl ⟨q,hq⟩ ⟨{ q with heard:=q.heard++[j] },by rw [aN (bQ hq).2,if_pos rfl],by simp⟩ (fun h=>absurd rfl h) (fun _=>rfl) (fun _=>rfl)
theorem PlAt.putBest (X:PlAt H α B) (hq:leadAt B i=some q) {kvs:List (bh×V)} (h:cm (fun _ v e=>kH H v e) kvs q.best) (p:Int) {v:V}{e:Int×Str} (hv:kH H v e):Stp8 H α B (aA H (α (.best i)) (.dK (bB kvs (Sum.inl p) v))) α { B with leads:=B.leads.set i (some { q with best:=aJ q.best p e }) }:=by
 have tp:=X.tups (r:=.best i) ⟨q,hq⟩ (.dK (bB kvs (Sum.inl p) v));refine X.ldPut (q':={ q with best:=aJ q.best p e }) (r:=.best i) (bQ hq).2 hq rfl rfl ⟨q,hq⟩ ⟨{ q with best:=aJ q.best p e },_,by rw [aN (bQ hq).2,if_pos rfl],rfl,?_⟩ (fun _=>rfl) (fun h=>absurd rfl h) (fun _=>rfl);have k:=h.put p hv;exact k.imp fun _ v e _ ⟨t,h1,h2⟩=>⟨t,h1,tp _ _ h2⟩
theorem PlAt.putSaid (X:PlAt H α B) (hq:leadAt B i=some q) {s:List (Int×Str)} (hs:q.said=some s) {kvs:List (bh×V)} (h:cm (fun _ v (y:Str)=>v=.str y) kvs s) (p:Int) (y:Str):Stp8 H α B (aA H (α (.said i)) (.dK (bB kvs (Sum.inl p) (.str y)))) α { B with leads:=B.leads.set i (some { q with said:=some (aJ s p y) }) } :=
 X.ldPut (q':={ q with said:=some (aJ s p y) }) (r:=.said i) (bQ hq).2 hq rfl (by rw [hs]; rfl) ⟨q,s,hq,hs⟩ ⟨{ q with said:=some (aJ s p y) },_,_,by rw [aN (bQ hq).2,if_pos rfl],rfl,rfl,h.put p rfl⟩ (fun _=>rfl) (fun _=>rfl) (fun h=>absurd rfl h)
end
end Hl
namespace K08
open PySem L2 Hl
seal L2.PE L2.PA L2.PS L2.gI
theorem xu {K:Frag}{H:Hp}{a:Addr}{ns:List Int} (ha:a9 K H a (ns.map V.int)) (s:Int):InV K H (.int s) (.ref a) (decide (s∈ns)):=by
 have h:=InV.lst (K:=K) (n:=0) (fun v=>decide (v=V.int s)) ha (by omega) (x:=.int s) fun y hy=>by
  obtain ⟨i,_,rfl⟩:=List.mem_map.mp hy;exact .scal rfl
 have e:((ns.map V.int).any fun v=>decide (v=V.int s))=decide (s∈ns):=by
  rw [List.any_map]
  by_cases z:s∈ns
  ·rw [decide_eq_true z,List.any_eq_true]; exact ⟨s,z,by simp⟩
  ·rw [decide_eq_false z,List.any_eq_false]
   intro x hx w;have w:V.int x=V.int s:=by simpa using w
   exact z (V.int.inj w ▸ hx)
 rwa [e] at h
theorem jk {B:QH}{a:Nat}{q:QL} (h:leadAt B a=some q):({ B with leads:=B.leads.set a (some q) }:QH)=B:=by
 have e:B.leads.set a (some q)=B.leads:=by
  have hl:=(bQ h).2;unfold leadAt at h;rw [List.getD_eq_getElem?_getD,List.getElem?_eq_getElem hl] at h;apply List.ext_getElem?;intro i;rw [List.getElem?_set]
  by_cases z:a=i
  ·subst z; rw [if_pos rfl,if_pos hl,List.getElem?_eq_getElem hl]; exact congrArg some h.symm
  ·rw [if_neg z]
 rw [e]
theorem iJ {B:QH}{a:Nat}{x y:Option QL}:({ ({ B with leads:=B.leads.set a x }:QH) with leads:=(B.leads.set a x).set a y }:QH)={ B with leads:=B.leads.set a y }:=by rw [List.set_set]
theorem k9 {β:Type}{F:Int->V->β->Prop}{kvs:List (bh×V)}{l:List (Int×β)} (d:cm F kvs l):(kvs.map fun p=>kV p.1)=l.map fun e=>V.int e.1:=by
 have h:=d.keys
 have:(kvs.map fun p=>kV p.1)=(kvs.map (·.1)).map kV:=by rw [List.map_map]; rfl
 rw [this,h,List.map_map,List.map_map]; rfl
theorem Bv {K:Frag}{H:Hp}{p:Addr}{xs:List V} (h:H p=some (.lst xs)):AB K "list" (.ref p) H:=.inl ⟨rfl,_,a9.of h⟩
theorem wo {i:Nat}{v:V}{σ:St}{H:Hp}{Q:St->Hp->Prop}:jE i v σ H Q=Q (σ.set i (some v)) H:=rfl
theorem nO {α:PRole->Addr}{n m:Nat} (h:m < n):il ((List.range n).map fun i=>V.ref (α (.row i))) (m:Int)=some (V.ref (α (.row m))):=bT (by simp [h])
theorem vQ {x y z u:V} (v:V):bB [(sk "number",x),(sk "heard",y),(sk "best",z),(sk "said",u)] (sk "said") v=[(sk "number",x),(sk "heard",y),(sk "best",z),(sk "said",v)]:=by kernel_rfl
section
variable {P:Program}{w:World}{K:Frag}{mg:Str->Option Value}{base:Heap}
noncomputable def sv:Sp:=fun vs H Q _=>∃ (α:PRole->Addr) (B:QH) (n N a m:Nat) (q:QL),vs=[.ref (α .hall),.int a,.int m]/\PlAt H α B/\Gd n N B/\N<=500/\leadAt B a=some q/\a < n/\m < n /\
 if q.num < promQ B m then ∀ H',Stp8 H α B H' α (f7 B a (promQ B m))->Q (.bl false) H' else
 ∀ α' H',Stp8 H α B H' α' { B with prom:=B.prom.set m q.num,leads:=B.leads.set a (some (dm B.cnt q m (B.rows.getD m []))) }->Q (.bl true) H'
theorem uf (NB:NBs mg) (O_gets_promise:L2.Own P w K mg base "_law_gets_promise" 1 ["_law_hall","_law_own","_law_other"] qG) (D:DefAt K mg "_law_asked" kq ["_law_hall","_law_own","_law_other"]):L2.Own P w K mg base "_law_asked" 2 ["_law_hall","_law_own","_law_other"] sv:=by
 refine D.own pJ (fun vs H Q E h=>?_) (fun f cdv A outer s H vs Q E hr h=>?_)
 ·obtain ⟨α,B,n,N,a,m,q,rfl,_⟩:=h; rfl
 ·obtain ⟨α,B,n,N,a,m,q,rfl,X,g,hN,hq,ha,hm,k⟩:=h
  have hu:=bM hr;have nd:=pJ.nd;refine ⟨_,(ad (aQ (bZ (bn (a_ O_gets_promise hr rfl (ac (nv 0) (ac (nv 1) (ac (nv 2) aj)))))) (aq (az bo)) aC)
 (ad (aH nd 3 (ax (ba hu) (ax (ba hu) (nv 0) aB (fun _ _=>rfl)) (nv 1) (fun _ _=>rfl)))
 (ad (aQ (aF (cT hr) (nv 2) (ax (ba hu) (nv 3) aB (fun _ _=>rfl)) (by with_unfolding_all rfl)) (aq (a5 (eW PySem.F.plainAttrs_list PySem.F.slot_list_append PySem.F.type_list_append bG (ax (ba hu) (nv 3) aB (fun _ _=>rfl)) (ac (nv 2) aj)))) aC)
 (ad (aQ (aF g8 (ax (ba hu) (nv 3) aB (fun _ _=>rfl)) cg (aK _)) (ad (cq PassesOwn.never rfl (cP (df fT (by rfl) NB.list du (ac (ax (ba hu) (ax (ba hu) (nv 0) aB (fun _ _=>rfl)) (nv 2) (fun _ _=>rfl)) aj))) (bi nd 4) (ad (aH nd 5 (ax (ba hu) (ax (ba hu) (ax (ba hu) (nv 0) aB (fun _ _=>rfl)) (nv 2) (fun _ _=>rfl)) (nv 4) (fun _ _=>rfl)))
 (aq (aQ (aF gh (ax (ba hu) (nv 5) ao (fun _ _=>rfl)) (ax (ba hu) (v1 hu (ax (ba hu) (nv 3) aB (fun _ _=>rfl)) (nv 4) (cf (ac (kJ fM ao) (ac aB aj))) ⟨rfl,rfl,rfl,rfl⟩) ao (fun _ _=>rfl)) (aK _)) (aq (b7 hu (ax (ba hu) (nv 3) aB (fun _ _=>rfl)) (nv 4) (nv 5) rfl)) aC))))
 (aq (aQ (aF gh (aE a8 ao (aG br (by rfl) NB.len cK (ac (ax (ba hu) (nv 3) aB (fun _ _=>rfl)) aj))) (ax (ba hu) (nv 0) aB (fun _ _=>rfl)) (aK _)) (ad (b7 hu (nv 3) aB cM rfl)
 (aq (cq PassesOwn.never rfl (cP (df fT (by rfl) NB.list du (ac (ax (ba hu) (nv 3) aB (fun _ _=>rfl)) aj))) (bi nd 4) (aq (b7 hu (ax (ba hu) (nv 3) aB (fun _ _=>rfl)) (nv 4) (ax (ba hu) (ax (ba hu) (ax (ba hu) (nv 3) aB (fun _ _=>rfl)) (nv 4) (fun _ _=>rfl)) ao (fun _ _=>rfl)) rfl))))) aC))) aC)
 (aq (az bo)))))),?_⟩
  refine ⟨α,B,a,m,q,rfl,X,hq,by rw [g.ll]; exact ha,by rw [g.ls]; exact ha,by rw [g.lp]; exact hm,?_⟩
  by_cases h:q.num < promQ B m
  ·rw [if_pos h] at k ⊢
   intro H' Y;exact ⟨_,rfl,bH (k _ Y)⟩
  rw [if_neg h] at k ⊢;intro H1 Y;refine ⟨_,rfl,bU ?_⟩;have g1:=g.setProm m q.num;have k1:∀ α' H',Stp8 H1 α { B with prom:=B.prom.set m q.num } H' α' { ({ B with prom:=B.prom.set m q.num }:QH) with leads:=B.leads.set a (some (dm B.cnt q m (B.rows.getD m []))) }->Q (.bl true) H':=fun _ _ Z=>k _ _ (Y.trans Z);have hq1:leadAt { B with prom:=B.prom.set m q.num } a=some q:=hq;have X1:=Y.at_;clear k Y X g hq h;generalize hB1:({ B with prom:=B.prom.set m q.num }:QH)=B1 at *;have k1:∀ α' H',Stp8 H1 α B1 H' α' { B1 with leads:=B1.leads.set a (some (dm B1.cnt q m (B1.rows.getD m []))) }->Q (.bl true) H':=by rw [<- hB1] at k1 ⊢; exact k1
  clear hB1;have hl:a < B1.leads.length:=by rw [g1.ll]; exact ha
  have hm1:m < B1.rows.length:=by rw [g1.lr]; exact hm
  have al:=u0 (α:=α) hl;rw [iK hq1] at al;refine ⟨_,X1.iLeads,_,.lst (a9.of X1.leadsC) al,?_⟩;dsimp only;rw [wo];dsimp only [L2.start,List.set,List.map,List.length,List.replicate,List.append];have lk:=g1.ld _ (bQ hq1).1 q rfl;refine qK (fun H'=>Stp8 H1 α B1 H' α { B1 with leads:=B1.leads.set a (some { q with heard:=cA q.heard m }) }) (fun C D' hC hD=>?_) (fun H2 Y2=>?_)
  ·refine ⟨_,X1.iHeard hq1,_,xu (a9.of (X1.heardC hq1)) m,_,rfl,?_⟩
   by_cases z:(m:Int)∈q.heard
   ·rw [decide_eq_true z]
    refine bU (hC _ ?_);have e:cA q.heard m=q.heard:=by unfold cA; rw [if_pos z]
    rw [e,jk (q:={ q with heard:=q.heard }) hq1];exact .refl X1
   ·rw [decide_eq_false z]
    refine bH ⟨_,X1.iHeard hq1,Bv (X1.heardC hq1),_,_,_,rfl,rfl,X1.heardC hq1,aS (by have:=lk.hd; rw [List.length_map]; omega),hD _ (hC _ ?_)⟩;have e:cA q.heard m=q.heard++[(m:Int)]:=by unfold cA; rw [if_neg z]
    rw [e];exact X1.putHeard hq1 m
  generalize e2:({ q with heard:=cA q.heard m }:QL)=q2 at Y2;have s2:q2.said=q.said:=by rw [<- e2]
  have b2:q2.best=q.best:=by rw [<- e2]
  have hq2:leadAt { B1 with leads:=B1.leads.set a (some q2) } a=some q2:=by rw [aN hl,if_pos rfl]
  have row0:=(g1.rw_ _ (kz hm1));generalize eB:({ B1 with leads:=B1.leads.set a (some q2) }:QH)=B2 at Y2 hq2;have k2:∀ α' H',Stp8 H2 α B2 H' α' { B2 with leads:=B2.leads.set a (some (dm B1.cnt q m (B1.rows.getD m []))) }->Q (.bl true) H':=fun α' H' Z=>k1 α' H' (by
   have:=Y2.trans Z;rw [<- eB,iJ] at this;exact this)
  have r2:B2.rows=B1.rows:=by rw [<- eB]
  have c2:B2.cnt=B1.cnt:=by rw [<- eB]
  have X2:=Y2.at_;have hm2:m < B2.rows.length:=by rw [r2]; exact hm1
  refine ⟨_,X2.iSaid hq2,rfl,_,rfl,?_⟩;cases hs:q.said with
  | some sd =>
   rw [eP (s2.trans hs)];refine bv (fun z=>nomatch z) (k2 α _ ?_);have e:dm B1.cnt q m (B1.rows.getD m [])=q2:=by rw [<- e2]; unfold dm; rw [hs]
   rw [e,jk hq2]; exact .refl X2
  | none =>
   rw [kX (s2.trans hs)];refine cD rfl ?_;obtain ⟨kvr,hr1,hr2⟩:=X2.rowC hm2;rw [r2] at hr2;generalize erow:B1.rows.getD m []=row at *;refine ⟨_,X2.iRows,_,.lst (a9.of X2.rowsC) (nO hm2),_,_,rfl,.key (.inl hr1),fun l nl=>?_⟩;rw [k9 hr2];have s3:=au (o:=.lst (row.map fun e=>V.int e.1)) nl;have h3:aA H2 l (.lst (row.map fun e=>V.int e.1)) l=some (.lst (row.map fun e=>V.int e.1)):=upd_same;have out:zo α B2 l:=fun r hr z=>by
    obtain ⟨o,e,_⟩:=X2.at_ r hr;rw [z,nl] at e; cases e
   have Y3:=Stp8.of X2 s3;have X3:=Y3.at_;have k3:∀ α' H',Stp8 (aA H2 l (.lst (row.map fun e=>V.int e.1))) α B2 H' α' { B2 with leads:=B2.leads.set a (some (dm B1.cnt q m row)) }->Q (.bl true) H':=fun α' H' Z=>k2 α' H' (Y3.trans Z);generalize aA H2 l (.lst (row.map fun e=>V.int e.1))=H3 at *;refine ⟨l,rfl,⟨_,a9.of h3⟩,?_⟩;refine fD (xs:=row.map fun e=>V.int e.1) (fun i σ H'=>∃ o4 o5,σ=[some (.ref (α .hall)),some (.int a),some (.int m),some (.ref (α (.led a))),o4,o5]/\Stp8 H3 α B2 H' α { B2 with leads:=B2.leads.set a (some { q2 with best:=(row.take i).foldl aR q.best }) }) ⟨_,_,rfl,?_⟩ (fun i σ H' _ ⟨_,_,_,Z⟩=>a9.of (Z.kp _ _ h3 out).1) ?_ ?_
   ·rw [List.take_zero,List.foldl_nil,show ({ q2 with best:=q.best }:QL)=q2 by rw [<- b2],jk hq2]
    exact .refl X3
   ·rintro i x σ H' hx ⟨o4,o5,rfl,Z⟩
    have hi:i < row.length:=by have:=(List.getElem?_eq_some_iff.mp hx).1; simpa using this
    rw [List.getElem?_map,List.getElem?_eq_getElem hi] at hx;cases hx;have tk:row.take (i+1)=row.take i++[row[i]]:=by rw [List.take_succ_eq_append_getElem hi]
    have nn:=row0.2.2 _ (List.getElem_mem hi);have gt:ay row row[i].1=some row[i].2:=i8 row0.2.1 (List.getElem_mem hi);generalize row[i]=e at *;rw [tk,List.foldl_append];have bok:=iN (row.take i) q.best lk.bk;have lb:(row.take i).length<=500:=by rw [List.length_take]; omega
    generalize (row.take i).foldl aR q.best=bs at *;have X4:=Z.at_;have hq4:leadAt { B2 with leads:=B2.leads.set a (some { q2 with best:=bs }) } a=some { q2 with best:=bs }:=by rw [aN (bQ hq2).2,if_pos rfl]
    have hm4:m < ({ B2 with leads:=B2.leads.set a (some { q2 with best:=bs }) }:QH).rows.length:=hm2;obtain ⟨kv4,hr4,kr4⟩:=X4.rowC hm4;have kr4:cm (fun _ v e=>kH H' v e) kv4 row:=by rw [<- erow,<- r2]; exact kr4
    obtain ⟨v,gv,t,rfl,ht⟩:=kr4.some gt;obtain ⟨kvb,hb4,kb4⟩:=X4.bestC hq4;refine ⟨_,X4.iRows,_,.lst (a9.of X4.rowsC) (nO hm4),_,c9 (k:=Sum.inl e.1) hr4 gv,?_⟩;refine ⟨_,.tup (bu.of ht) (by rfl),_,X4.iBest hq4,_,rfl,.inl ⟨_,.inl hb4⟩,by show 2<=sizeLine; decide,fun p np=>?_⟩;have s5:=au (o:=.tup [.int (-1),.str ""]) np;have h5:aA H' p (.tup [.int (-1),.str ""]) p=some (.tup [.int (-1),.str ""]):=upd_same;have Z5:=Z.same s5;have ht5:=s5 _ _ ht;have hb5:=s5 _ _ hb4;have kb5:cm (fun _ v e=>kH (aA H' p (.tup [.int (-1),.str ""])) v e) kvb bs:=kb4.imp fun _ _ _ _ ⟨t,h1,h2⟩=>⟨t,h1,s5 _ _ h2⟩;generalize aA H' p (.tup [.int (-1),.str ""])=H5 at *;have X5:=Z5.at_;have put:aR bs e=aJ bs e.1 e.2->∃ v,Item K H5 (.ref (α (.led a))) (.str "best") v/\∃ a' H4,v=.ref a'/\eK H5 a' (.int e.1) (.ref t) H4/\∃ o4 o5,[some (V.ref (α .hall)),some (.int a),some (.int m),some (.ref (α (.led a))),some (.int e.1),some (.ref t)]=[some (.ref (α .hall)),some (.int a),some (.int m),some (.ref (α (.led a))),o4,o5]/\Stp8 H3 α B2 H4 α { B2 with leads:=B2.leads.set a (some { q2 with best:=aR bs e }) }:=fun he=>by
     refine ⟨_,X5.iBest hq4,_,_,rfl,eK.k (k:=Sum.inl e.1) hb5 (gz (by rw [kb5.len]; have:=lk.bl; have:N * N<=500 * 500:=Nat.mul_le_mul hN hN; omega)),_,_,rfl,?_⟩;have:=Z5.trans (X5.putBest hq4 kb5 e.1 ⟨t,rfl,ht5⟩);rw [iJ] at this;rw [he]; exact this
    refine ⟨_,cJ.k (k:=Sum.inl e.1) hb5,?_⟩;rcases kb5.get e.1 with ⟨g5,g6⟩ | ⟨v',e',g5,g6,t',rfl,ht'⟩
    ·rw [g6]
     refine ⟨.int (-1),.tup (bu.of h5) (by rfl),_,rfl,cD (by show -1 < e.2.1; omega) ?_⟩;exact put (by unfold aR; rw [g5])
    ·rw [g6]
     refine ⟨.int e'.1,.tup (bu.of ht') (by rfl),_,rfl,fx (fun h=>?_) (fun h=>?_)⟩
     ·have h:e'.1 < e.2.1:=by simpa using h
      exact put (by unfold aR; rw [g5]; exact if_pos h)
     ·have h:¬ e'.1 < e.2.1:=by simpa using h
      have he:aR bs e=bs:=by unfold aR; rw [g5]; exact if_neg h
      refine ⟨_,_,rfl,?_⟩;rw [show List.foldl aR bs [e]=aR bs e from rfl,he]; exact Z5
   ·rintro σ H' ⟨o4,o5,rfl,Z⟩
    rw [List.length_map,List.take_length] at Z;have X4:=Z.at_;have bok:=iN row q.best lk.bk;have hq4:leadAt { B2 with leads:=B2.leads.set a (some { q2 with best:=row.foldl aR q.best }) } a=some { q2 with best:=row.foldl aR q.best }:=by rw [aN (bQ hq2).2,if_pos rfl]
    have hh:q2.heard=cA q.heard m:=by rw [<- e2]
    have n2:q2.num=q.num:=by rw [<- e2]
    refine ⟨_,X4.iHeard hq4,q2.heard.length,.inl ⟨_,.inl (a9.of (X4.heardC hq4)),by rw [List.length_map]⟩,.inl ⟨by decide,by decide⟩,_,X4.iCount,_,rfl,fx (fun h=>?_) (fun h=>?_)⟩
    ·have hc:B2.cnt < 2 * (q2.heard.length:Int):=by simpa using h
     clear h;rw [c2,hh] at hc;intro ps nps;refine ⟨_,_,rfl,eK.k (k:=sk "said") ((ag (ai (X4.ledC hq4) nps)).trans (X4.ledC hq4)) (aS (by show 4<=1000; decide)),?_⟩;rw [vQ];have Z5:=Z.trans (X4.openLead (n:=a) (bQ hq4).2 hq4 (s2.trans hs) nps);rw [iJ] at Z5;generalize aA (aA H' ps (.dK [])) (α (.led a)) _=H5 at Z5 ⊢;generalize e5:row.foldl aR q.best=bs at *;have eA:qy α a ps .hall=α .hall:=rfl;have eL:qy α a ps (.led a)=α (.led a):=rfl;generalize qy α a ps=β at *;have hq5:leadAt { B2 with leads:=B2.leads.set a (some { q2 with best:=bs,said:=some [] }) } a=some { q2 with best:=bs,said:=some [] }:=by rw [aN (bQ hq2).2,if_pos rfl]
     have X5:=Z5.at_;obtain ⟨kvb,hb5,kb5⟩:=X5.bestC hq5;have iB5:=X5.iBest (K:=K) hq5;rw [eL] at iB5;refine ⟨_,iB5,_,_,rfl,.key (.inl hb5),fun l2 nl2=>?_⟩;rw [k9 kb5];have s6:=au (o:=.lst (bs.map fun e=>V.int e.1)) nl2;have h6:aA H5 l2 (.lst (bs.map fun e=>V.int e.1)) l2=some (.lst (bs.map fun e=>V.int e.1)):=upd_same;have out6:zo β { B2 with leads:=B2.leads.set a (some { q2 with best:=bs,said:=some [] }) } l2:=fun r hr z=>by
      obtain ⟨o,e,_⟩:=X5.at_ r hr;rw [z,nl2] at e; cases e
     have Z6:=Z5.same s6;generalize aA H5 l2 (.lst (bs.map fun e=>V.int e.1))=H6 at *;have X6:=Z6.at_;refine ⟨l2,rfl,⟨_,a9.of h6⟩,?_⟩;refine fD (xs:=bs.map fun e=>V.int e.1) (fun i σ H'=>∃ o4 o5,σ=[some (.ref (α .hall)),some (.int a),some (.int m),some (.ref (α (.led a))),o4,o5]/\Stp8 H6 β { B2 with leads:=B2.leads.set a (some { q2 with best:=bs,said:=some [] }) } H' β { B2 with leads:=B2.leads.set a (some { q2 with best:=bs,said:=some ((bs.take i).foldl (fun s e=>aJ s e.1 e.2.2) []) }) }) ⟨_,_,rfl,.refl X6⟩ (fun i σ H' _ ⟨_,_,_,Z⟩=>a9.of (Z.kp _ _ h6 out6).1) ?_ ?_
     ·rintro i x σ H7 hx ⟨o4,o5,rfl,Z7⟩
      have hi:i < bs.length:=by have:=(List.getElem?_eq_some_iff.mp hx).1; simpa using this
      rw [List.getElem?_map,List.getElem?_eq_getElem hi] at hx;cases hx;have tk:bs.take (i+1)=bs.take i++[bs[i]]:=by rw [List.take_succ_eq_append_getElem hi]
      have gt:ay bs bs[i].1=some bs[i].2:=i8 bok.2 (List.getElem_mem hi);generalize bs[i]=e at *;rw [tk,List.foldl_append];have ls:=kY (bs.take i) [];have lt:(bs.take i).length<=bs.length:=by rw [List.length_take]; omega
      have lz:N * N<=500 * 500:=Nat.mul_le_mul hN hN;have:=lk.bl;generalize (bs.take i).foldl (fun s e=>aJ s e.1 e.2.2) []=sd at *;have X7:=Z7.at_;have hq7:leadAt { B2 with leads:=B2.leads.set a (some { q2 with best:=bs,said:=some sd }) } a=some { q2 with best:=bs,said:=some sd }:=by rw [aN (bQ hq2).2,if_pos rfl]
      obtain ⟨kv7,hb7,kb7⟩:=X7.bestC hq7;obtain ⟨v,gv,t,rfl,ht⟩:=kb7.some gt;obtain ⟨ks7,hs7,js7⟩:=X7.saidC hq7 rfl;have iB7:=X7.iBest (K:=K) hq7;have iS7:=X7.iSaid (K:=K) hq7;rw [eP (s:=sd) rfl] at iS7;rw [eL] at iB7 iS7;refine ⟨_,iB7,_,c9 (k:=Sum.inl e.1) hb7 gv,_,.tup (bu.of ht) (by rfl),?_⟩;refine ⟨_,iS7,_,_,rfl,eK.k (k:=Sum.inl e.1) hs7 (gz (by rw [js7.len]; simp at ls; omega)),_,_,rfl,?_⟩;have:=Z7.trans (X7.putSaid hq7 rfl js7 e.1 e.2.2);rw [iJ] at this;exact this
     ·rintro σ H7 ⟨o4,o5,rfl,Z7⟩
      rw [List.length_map,List.take_length] at Z7;have e:dm B1.cnt q m row={ q2 with best:=bs,said:=some (bs.foldl (fun s e=>aJ s e.1 e.2.2) []) }:=by
       unfold dm; rw [hs]; simp only []; rw [if_pos hc,e5,<- e2]
      refine k3 β _ ?_;rw [e];exact Z6.trans Z7
    ·have h:¬ B2.cnt < 2 * (q2.heard.length:Int):=by simpa using h
     rw [c2,hh] at h;have e:dm B1.cnt q m row={ q2 with best:=row.foldl aR q.best }:=by
      unfold dm; rw [hs]; simp only []; rw [if_neg h,<- e2,hs]
     refine k3 α _ ?_;rw [e];exact Z
end
noncomputable def fZ:Deed->List V
 | .rise o=>[.int o]
 | .ask o p=>[.int o,.int p]
 | .say o s=>[.int o,.str s]
 | .write o p _=>[.int o,.int p]
 | .settled o=>[.int o]
 | .stop o=>[.int o]
 | .wake o=>[.int o]
theorem wz (d:Deed):im d.rowV (some 1) (some 3)=fZ d:=by cases d<;>rfl
theorem xl (d:Deed) {x:V} (h:x∈fZ d):(∃ i,x=.int i/\i∈d.chk)\/∃ s,x=.str s:=by
 cases d<;>simp [fZ] at h
 case ask o p=>rcases h with rfl | rfl<;>exact .inl ⟨_,rfl,by simp [Deed.chk]⟩
 case write o p pl=>rcases h with rfl | rfl<;>exact .inl ⟨_,rfl,by simp [Deed.chk]⟩
 case say o s=>rcases h with rfl | rfl<;>first | exact .inl ⟨_,rfl,by simp [Deed.chk]⟩ | exact .inr ⟨_,rfl⟩
 all_goals (subst h; exact .inl ⟨_,rfl,by simp [Deed.chk]⟩)
theorem v7 (d:Deed) {i:Int} (h:i∈d.chk):V.int i∈fZ d:=by
 cases d<;>simp [Deed.chk] at h<;>simp [fZ,h]
theorem xA {B:QH}{d:Deed} (hp:d.plain=true) {i:Int} (hi:i∈d.chk) (e:nz B i=false):dj B d=(B,.str "no scribe"):=by
 cases d<;>simp only [Deed.chk,List.mem_cons,List.not_mem_nil,or_false] at hi
 case ask o p=>rcases hi with rfl | rfl<;>simp only [dj,e,Bool.false_eq_true,if_false,ite_self]
 case write o p pl=>rcases hi with rfl | rfl<;>simp only [dj,e,Bool.false_eq_true,if_false,ite_self]
 case settled o=>cases hp
 all_goals (subst hi; simp only [dj,e,Bool.false_eq_true,if_false])
theorem gB {H:Hp}{α:PRole->Addr}{B:QH} (X:PlAt H α B) {t:Addr}{xs:List V} (h:H t=some (.tup xs)):zo α B t:=fun r hr z=>by
 obtain ⟨o,e,c⟩:=X.at_ r hr;rw [z,h] at e; cases e;exact c.notup
theorem u6 {l:List Bool}{a:Nat}{x:Bool} (h:a < l.length):il ((l.set a x).map V.bl) (a:Int)=some (.bl x):=bT (by simp [h])
section
variable {P:Program}{w:World}{K:Frag}{mg:Str->Option Value}{base:Heap}
noncomputable def xV:Sp:=fun vs H Q _=>∃ (α:PRole->Addr) (B:QH) (n N:Nat) (t:Addr) (d:Deed),vs=[.ref (α .hall),.ref t]/\PlAt H α B/\Gd n N B/\N<=500/\H t=some (.tup d.rowV)/\d.plain=true /\
 ∀ α' H',Stp8 H α B H' α' (dj B d).1->Q (kG (dj B d).2) H'
theorem lZ (NB:NBs mg) (O_gets_promise:L2.Own P w K mg base "_law_gets_promise" 1 ["_law_hall","_law_own","_law_other"] qG) (O_risen:L2.Own P w K mg base "_law_risen" 1 ["_law_hall","_law_own"] r9) (O_asked:L2.Own P w K mg base "_law_asked" 2 ["_law_hall","_law_own","_law_other"] sv)
  (D:DefAt K mg "_law_due_answer" eo ["_law_hall","_law_deed"]):L2.Own P w K mg base "_law_due_answer" 3 ["_law_hall","_law_deed"] xV:=by
 refine D.own gR (fun vs H Q E h=>?_) (fun f cdv A outer s H vs Q E hr h=>?_)
 ·obtain ⟨α,B,n,N,t,d,rfl,_⟩:=h; rfl
 ·obtain ⟨α,B,n,N,t,d,rfl,X,g,hN,ht,hp,k⟩:=h
  have hu:=bM hr;have nd:=gR.nd;refine ⟨_,(ad (cq PassesOwn.never rfl (vj (dw wI (nv 1) (c8 ao) (c8 ao))) (bi nd 2) (aq (aQ (PW.pt (qL (bZ (bn (aG aD (by rfl) NB.isinstance aI (ac (nv 2) (ac (nt NB.str jc) aj))))) (nZ (PW.pt (dI (aF fL (nv 2) ao (aK _)) (cX (aF vo (nv 2) (ax (ba hu) (nv 0) aB (fun _ _=>rfl)) (aK _)))))))) (aq (az aB)) aC)))
 (ad (aH nd 3 (ax (ba hu) (nv 1) ao (fun _ _=>rfl)))
 (ad (aH nd 4 (ax (ba hu) (ax (ba hu) (nv 0) aB (fun _ _=>rfl)) (nv 3) (fun _ _=>rfl)))
 (ad (aQ (PW.pt (dI (aF (bt hr) (ax (ba hu) (nv 1) ao (fun _ _=>rfl)) aB (aK _)) (cX (aF (bt hr) (ax (ba hu) (nv 1) ao (fun _ _=>rfl)) aB (aK _))))) (ad (aH nd 5 (ax (ba hu) (ax (ba hu) (nv 0) aB (fun _ _=>rfl)) (nv 3) (fun _ _=>rfl)))
 (ad (gY (cF (bt hr) (ax (ba hu) (nv 1) ao (fun _ _=>rfl)) aB (aK _)) (gZ (ax (ba hu) (nv 0) aB (fun _ _=>rfl)) (nv 3) eO))
 (ad (aQ (aF (bt hr) (ax (ba hu) (nv 1) ao (fun _ _=>rfl)) aB (aK _)) (aq (gY cg (gZ (ax (ba hu) (nv 0) aB (fun _ _=>rfl)) (nv 3) eO))) aC)
 (aq (az (cF (dq hr) (nv 5) (ax (ba hu) (ax (ba hu) (nv 0) aB (fun _ _=>rfl)) (nv 3) (fun _ _=>rfl)) (aK _))))))) aC)
 (ad (aQ (aF (bt hr) (ax (ba hu) (nv 1) ao (fun _ _=>rfl)) aB (aK _)) (ad (aQ (bn (ax (ba hu) (ax (ba hu) (nv 0) aB (fun _ _=>rfl)) (nv 3) (fun _ _=>rfl))) (aq (az (a_ O_risen hr rfl (ac (nv 0) (ac (nv 3) aj))))) aC)
 (aq (az cg))) aC)
 (ad (aQ (PW.pt (dI (aF g8 (nv 4) cg (aK _)) (cX (PW.pt (qL (aF (dq hr) (ax (ba hu) (nv 1) ao (fun _ _=>rfl)) aB (aK _)) (nZ (aF g8 (ax (ba hu) (nv 4) aB (fun _ _=>rfl)) cg (aK _)))))))) (aq (az cg)) aC)
 (ad (aQ (aF (bt hr) (ax (ba hu) (nv 1) ao (fun _ _=>rfl)) aB (aK _)) (ad (aH nd 6 ao)
 (ad (iF PassesOwn.never (aF (i7 hr) (nv 6) (ax (ba hu) (nv 4) aB (fun _ _=>rfl)) (by with_unfolding_all rfl)) (aq (aH nd 6 (aE bb (nv 6) ao))))
 (ad (b7 hu (ax (ba hu) (nv 4) aB (fun _ _=>rfl)) (nv 6) (ax (ba hu) (nv 1) ao (fun _ _=>rfl)) rfl)
 (aq (az (nv 6)))))) aC)
 (ad (aQ (bZ (bn (ax (ba hu) (ax (ba hu) (nv 0) aB (fun _ _=>rfl)) (ax (ba hu) (nv 1) ao (fun _ _=>rfl)) (fun _ _=>rfl)))) (aq (az cg)) aC)
 (ad (aQ (aF (bt hr) (ax (ba hu) (nv 1) ao (fun _ _=>rfl)) aB (aK _)) (aq (az (a_ O_asked hr rfl (ac (nv 0) (ac (nv 3) (ac (ax (ba hu) (nv 1) ao (fun _ _=>rfl)) aj)))))) aC)
 (ad (aQ (aF (cT hr) (ax (ba hu) (nv 1) ao (fun _ _=>rfl)) (ax (ba hu) (nv 4) aB (fun _ _=>rfl)) (by with_unfolding_all rfl)) (aq (az cg)) aC)
 (ad (aQ (bZ (bn (a_ O_gets_promise hr rfl (ac (nv 0) (ac (nv 3) (ac (ax (ba hu) (nv 1) ao (fun _ _=>rfl)) aj)))))) (aq (az bo)) aC)
 (ad (aH nd 7 (ax (ba hu) (ax (ba hu) (nv 4) aB (fun _ _=>rfl)) (ax (ba hu) (nv 1) ao (fun _ _=>rfl)) (fun _ _=>rfl)))
 (ad (b7 hu (ax (ba hu) (ax (ba hu) (nv 0) aB (fun _ _=>rfl)) (ax (ba hu) (nv 1) ao (fun _ _=>rfl)) (fun _ _=>rfl)) (ax (ba hu) (nv 1) ao (fun _ _=>rfl)) (cf (ac (ax (ba hu) (nv 4) aB (fun _ _=>rfl)) (ac (nv 7) aj))) rfl)
 (ad (a5 (eW PySem.F.plainAttrs_list PySem.F.slot_list_append PySem.F.type_list_append bG (ax (ba hu) (nv 0) aB (fun _ _=>rfl)) (ac (cf (ac (ax (ba hu) (nv 4) aB (fun _ _=>rfl)) (ac (ax (ba hu) (nv 1) ao (fun _ _=>rfl)) (ac (ax (ba hu) (nv 1) ao (fun _ _=>rfl)) (ac (nv 7) aj))))) aj)))
 (aq (az bo)))))))))))))))),?_⟩
  refine ⟨1,rfl,3,rfl,.inr ⟨t,_,rfl,bu.of ht,by cases d<;>first | (show ¬ (HT.sIx 2 0 (some 1)=0/\HT.sIx 2 2 (some 3)=2); decide) | (show ¬ (HT.sIx 3 0 (some 1)=0/\HT.sIx 3 3 (some 3)=3); decide) | (show ¬ (HT.sIx 4 0 (some 1)=0/\HT.sIx 4 4 (some 3)=4); decide),fun p np=>?_⟩⟩;rw [wz];have s1:=au (o:=.tup (fZ d)) np;have h1:aA H p (.tup (fZ d)) p=some (.tup (fZ d)):=upd_same;have k1:∀ α' H',Stp8 (aA H p (.tup (fZ d))) α B H' α' (dj B d).1->Q (kG (dj B d).2) H':=fun α' H' Z=>k α' H' ((Stp8.of X s1).trans Z);have X:=X.same s1;have ht:=s1 _ _ ht;generalize aA H p (.tup (fZ d))=H1 at *;clear k;refine ⟨p,rfl,⟨_,bu.of h1⟩,?_⟩;refine sX (xs:=fZ d) (fun i σ H2=>∃ o2,σ=[some (.ref (α .hall)),some (.ref t),o2,none,none,none,none,none]/\H2=H1/\∀ j∈d.chk,∀ z:Nat,z < i->(fZ d)[z]? = some (.int j)->nz B j=true) ⟨_,rfl,rfl,fun _ _ z hz=>by omega⟩ (fun i σ H2 _ ⟨_,_,e,_⟩=>by rw [e]; exact bu.of h1) ?_ ?_
  ·rintro i x σ H2 hx ⟨o2,rfl,rfl,hok⟩
   rcases xl d (List.mem_of_getElem? hx) with ⟨j,rfl,hj⟩ | ⟨z,rfl⟩
   ·refine ⟨_,false,.int j,lK K,_,rfl,bH ?_⟩
    have bad:nz B j=false->Q (.str "no scribe") H2:=fun h=>by
     have e:=xA hp hj h;have:=k1 α H2;rw [e] at this;exact this (.refl X)
    refine ⟨_,rfl,fx (fun h=>bH (bad ?_)) (fun h=>⟨_,X.iCount,_,rfl,fx (fun h'=>bad ?_) (fun h'=>?_)⟩)⟩
    ·have h:j < 0:=by simpa using h
     unfold nz; simp; omega
    ·have h':B.cnt<=j:=by simpa using h'
     unfold nz; simp; omega
    ·have h:¬ j < 0:=by simpa using h
     have h':¬ B.cnt<=j:=by simpa using h'
     refine ⟨_,rfl,rfl,fun j' hj' z hz hz'=>?_⟩;rcases Nat.lt_or_eq_of_le (Nat.le_of_lt_succ hz) with w | w
     ·exact hok j' hj' z w hz'
     ·rw [w,hx] at hz'
      cases hz';unfold nz; simp; omega
   ·refine ⟨_,true,.str z,dQ K,_,rfl,bU ?_⟩
    refine bU ⟨_,rfl,rfl,fun j' hj' z hz hz'=>?_⟩;rcases Nat.lt_or_eq_of_le (Nat.le_of_lt_succ hz) with w | w
    ·exact hok j' hj' z w hz'
    ·rw [w,hx] at hz'; cases hz'
  ·rintro σ H2 ⟨o2,rfl,rfl,hok⟩
   have hok:∀ j∈d.chk,nz B j=true:=fun j hj=>by
    obtain ⟨z,hz⟩:=List.mem_iff_getElem?.mp (v7 d hj);exact hok j hj z (List.getElem?_eq_some_iff.mp hz).1 hz
   have nat:∀ j∈d.chk,∃ a:Nat,j=a/\a < n:=fun j hj=>by
    have:=hok j hj;unfold nz at this;simp at this;rw [g.cnt] at this;exact ⟨j.toNat,by omega,by omega⟩
   have sk:∀ {a b:Str},a≠b->¬ (V.str a=V.str b):=fun h z=>h (V.str.inj z);have ld:∀ {a:Nat},a < n->il ((List.range B.leads.length).map (jB α B)) (a:Int)=some (jB α B a):=fun h=>u0 (by rw [g.ll]; exact h);have up:∀ {a:Nat},a < n->il (B.up.map V.bl) (a:Int)=some (.bl (upQ B a)):=fun {a} h=>by
    have:=nP (f:=V.bl) (d:=false) (l:=B.up) (n:=a) (by rw [g.lu]; exact h);unfold upQ; rw [Int.toNat_natCast]; exact this
   cases d with
   | settled o=>cases hp
   | stop o =>
    obtain ⟨a,rfl,ha⟩:=nat o (by simp [Deed.chk]);have e:dj B (.stop (a:Int))=iq B a:=if_pos (hok _ (by simp [Deed.chk]));rw [e] at k1; clear e;refine ⟨_,.tup (bu.of ht) (qu _ _ _),_,X.iLeads,_,.lst (a9.of X.leadsC) (ld ha),?_⟩;refine ⟨_,.tup (bu.of ht) (fK _ _),_,.scal rfl,_,rfl,cD rfl (bH ?_)⟩;refine ⟨_,X.iUp,_,.lst (a9.of X.upC) (up ha),?_⟩;refine ⟨_,.tup (bu.of ht) (fK _ _),_,.scal rfl,?_⟩;rw [decide_eq_false (sk oI)];refine ⟨_,X.iUp,_,_,_,a,rfl,rfl,X.upC,gm (by rw [List.length_map,g.lu]; exact ha),?_⟩;have Y:=X.setUp a false;rw [List.map_set] at Y;generalize aA H2 (α .up) _=H3 at Y ⊢;have ht3:=(Y.kp _ _ ht (gB X ht)).1;refine ⟨_,.tup (bu.of ht3) (fK _ _),_,.scal rfl,_,rfl,cD rfl ?_⟩;refine ⟨_,Y.at_.iLeads,_,_,_,a,rfl,rfl,Y.at_.leadsC,gm (by simp [g.ll,ha]),?_⟩;have Z:=Y.trans (Y.at_.dropLead (n:=a) (by rw [g.ll]; exact ha));refine ⟨_,Z.at_.iUp,_,.lst (a9.of Z.at_.upC) (u6 (by rw [g.lu]; exact ha)),_,.scal rfl,?_⟩;have eS:({ B with up:=B.up.set a false,leads:=B.leads.set a none }:QH)=(iq B a).1:=by unfold iq; rw [Int.toNat_natCast]
    have Z:Stp8 H2 α B _ α (iq B a).1:=eS ▸ Z;have:=k1 α _ Z
    revert this
    unfold iq;cases Hl.upQ B a<;>exact fun h=>h
   | wake o =>
    obtain ⟨a,rfl,ha⟩:=nat o (by simp [Deed.chk]);have e:dj B (.wake (a:Int))=kI B a:=if_pos (hok _ (by simp [Deed.chk]));rw [e] at k1; clear e;refine ⟨_,.tup (bu.of ht) (qu _ _ _),_,X.iLeads,_,.lst (a9.of X.leadsC) (ld ha),?_⟩;refine ⟨_,.tup (bu.of ht) (fK _ _),_,.scal rfl,_,rfl,bv (sk fV) ⟨_,.tup (bu.of ht) (fK _ _),_,.scal rfl,_,rfl,cD rfl ?_⟩⟩;refine ⟨_,X.iUp,_,.lst (a9.of X.upC) (up ha),?_⟩;refine ⟨_,.tup (bu.of ht) (fK _ _),_,.scal rfl,?_⟩;rw [decide_eq_true (show V.str "wake" = V.str "wake" from rfl)];refine ⟨_,X.iUp,_,_,_,a,rfl,rfl,X.upC,gm (by rw [List.length_map,g.lu]; exact ha),?_⟩;have Z:=X.setUp a true;rw [List.map_set] at Z;generalize aA H2 (α .up) _=H3 at Z ⊢;have ht3:=(Z.kp _ _ ht (gB X ht)).1;refine ⟨_,.tup (bu.of ht3) (fK _ _),_,.scal rfl,_,rfl,bv (sk fV) ?_⟩;refine ⟨_,Z.at_.iUp,_,.lst (a9.of Z.at_.upC) (u6 (by rw [g.lu]; exact ha)),_,.scal rfl,?_⟩;have:=k1 α H3 (by unfold kI; rw [Int.toNat_natCast]; exact Z)
    revert this
    unfold kI;cases Hl.upQ B a<;>exact fun h=>h
   | rise o =>
    obtain ⟨a,rfl,ha⟩:=nat o (by simp [Deed.chk]);have e:dj B (.rise (a:Int))=gJ B a:=if_pos (hok _ (by simp [Deed.chk]));rw [e] at k1; clear e;refine ⟨_,.tup (bu.of ht) (qu _ _ _),_,X.iLeads,_,.lst (a9.of X.leadsC) (ld ha),?_⟩;refine ⟨_,.tup (bu.of ht) (fK _ _),_,.scal rfl,_,rfl,bv (sk oM) ⟨_,.tup (bu.of ht) (fK _ _),_,.scal rfl,_,rfl,bv (sk oK) ?_⟩⟩;refine ⟨_,.tup (bu.of ht) (fK _ _),_,.scal rfl,_,rfl,cD rfl ?_⟩;refine ⟨_,X.iUp,_,.lst (a9.of X.upC) (up ha),_,rfl,fx (fun h=>?_) (fun h=>?_)⟩
    ·refine ⟨α,B,a,rfl,X,by rw [g.ll]; exact ha,by rw [g.ls]; exact ha,by rw [g.cnt]; omega,fun α' H' Z=>?_⟩
     have e:gJ B a=({ B with seen:=B.seen.set a (aM B.cnt a (B.seen.getD a 0)),leads:=B.leads.set a (some ⟨aM B.cnt a (B.seen.getD a 0),[],[],none⟩) },.int (aM B.cnt a (B.seen.getD a 0))):=by
      unfold gJ; rw [if_pos h,Int.toNat_natCast]
     rw [e] at k1;exact k1 α' H' Z
    ·have e:gJ B a=(B,.non):=by unfold gJ; rw [if_neg h]
     rw [e] at k1;exact k1 α H2 (.refl X)
   | ask o p =>
    obtain ⟨a,rfl,ha⟩:=nat o (by simp [Deed.chk]);obtain ⟨b,rfl,hb⟩:=nat p (by simp [Deed.chk]);have e:dj B (.ask (a:Int) b)=io B a b:=by
     show (if _ then (if _ then _ else _) else _)=_;rw [if_pos (hok _ (by simp [Deed.chk])),if_pos (hok _ (by simp [Deed.chk]))]
    rw [e] at k1; clear e;refine ⟨_,.tup (bu.of ht) (qu _ _ _),_,X.iLeads,_,.lst (a9.of X.leadsC) (ld ha),?_⟩;refine ⟨_,.tup (bu.of ht) (fK _ _),_,.scal rfl,_,rfl,bv (sk qh) ⟨_,.tup (bu.of ht) (fK _ _),_,.scal rfl,_,rfl,bv (sk qg) ?_⟩⟩;refine ⟨_,.tup (bu.of ht) (fK _ _),_,.scal rfl,_,rfl,bv (sk jM) ?_⟩;have el:eX B a=leadAt B a:=by unfold eX leadAt; rw [Int.toNat_natCast]
    cases hq:leadAt B a with
    | none =>
     rw [k7 hq];refine ⟨rfl,_,rfl,cD rfl (bH ?_)⟩;have e:io B a b=(B,.non):=by unfold io; rw [el,hq]
     rw [e] at k1;exact k1 α H2 (.refl X)
    | some q =>
     rw [iK hq];refine ⟨rfl,_,rfl,bv (fun z=>nomatch z) ?_⟩;refine ⟨_,.tup (bu.of ht) (fK _ _),_,.scal rfl,_,rfl,gN rfl (bU ?_)⟩;refine ⟨_,.tup (bu.of ht) (fK _ _),_,.scal rfl,_,rfl,bv (sk re) ?_⟩;refine ⟨_,X.iUp,_,.tup (bu.of ht) (wG _ _ _ _),_,.lst (a9.of X.upC) (up hb),_,rfl,?_⟩;cases hU:upQ B b with
     | false =>
      refine bH ?_;have e:io B a b=(B,.non):=by unfold io; rw [el,hq]; simp [hU]
      rw [e] at k1;exact k1 α H2 (.refl X)
     | true =>
      refine bU ?_;refine ⟨_,.tup (bu.of ht) (fK _ _),_,.scal rfl,_,rfl,cD rfl ?_⟩;refine ⟨_,.tup (bu.of ht) (wG _ _ _ _),α,B,n,N,a,b,q,rfl,X,g,hN,hq,ha,hb,?_⟩
      by_cases h:q.num < promQ B b
      ·rw [if_pos h]
       intro H' Z;have e:io B a b=(f7 B a (promQ B b),.bl false):=by unfold io; rw [el,hq]; simp [hU,h]
       rw [e] at k1;exact k1 α H' Z
      ·rw [if_neg h]
       intro α' H' Z;have e:io B a b=({ B with prom:=B.prom.set b q.num,leads:=B.leads.set a (some (dm B.cnt q b (B.rows.getD b []))) },.bl true):=by unfold io; rw [el,hq]; simp [hU,h]
       rw [e] at k1;exact k1 α' H' Z
   | say o sy =>
    obtain ⟨a,rfl,ha⟩:=nat o (by simp [Deed.chk]);have e:dj B (.say (a:Int) sy)=jS B a sy:=if_pos (hok _ (by simp [Deed.chk]));rw [e] at k1; clear e;refine ⟨_,.tup (bu.of ht) (qu _ _ _),_,X.iLeads,_,.lst (a9.of X.leadsC) (ld ha),?_⟩;refine ⟨_,.tup (bu.of ht) (fK _ _),_,.scal rfl,_,rfl,bv (sk qf) ⟨_,.tup (bu.of ht) (fK _ _),_,.scal rfl,_,rfl,bv (sk qe) ?_⟩⟩;refine ⟨_,.tup (bu.of ht) (fK _ _),_,.scal rfl,_,rfl,bv (sk jL) ?_⟩;have el:eX B a=leadAt B a:=by unfold eX leadAt; rw [Int.toNat_natCast]
    cases hq:leadAt B a with
    | none =>
     rw [k7 hq];refine ⟨rfl,_,rfl,cD rfl (bH ?_)⟩;have e:jS B a sy=(B,.non):=by unfold jS; rw [el,hq]
     rw [e] at k1;exact k1 α H2 (.refl X)
    | some q =>
     rw [iK hq];refine ⟨rfl,_,rfl,bv (fun z=>nomatch z) ?_⟩;refine ⟨_,.tup (bu.of ht) (fK _ _),_,.scal rfl,_,rfl,x8 (sk lI) ?_⟩;refine ⟨_,X.iSaid hq,rfl,_,rfl,?_⟩;cases hs:q.said with
     | none =>
      rw [kX hs];refine cD rfl ?_;have e:jS B a sy=(B,.non):=by unfold jS; rw [el,hq]; simp [hs]
      rw [e] at k1;exact k1 α H2 (.refl X)
     | some sd =>
      rw [eP hs];refine bv (fun z=>nomatch z) ?_;refine ⟨_,.tup (bu.of ht) (fK _ _),_,.scal rfl,_,rfl,cD rfl ?_⟩;obtain ⟨kvs,hd,kd⟩:=X.saidC hq hs;have iS:=X.iSaid (K:=K) hq;rw [eP hs] at iS;have e:jS B a sy=({ B with leads:=B.leads.set a (some { q with said:=some (aJ sd (b_ sd) sy) }) },.int (b_ sd)):=by unfold jS; rw [el,hq]; simp [hs]
      rw [e] at k1;have lk:=g.ld _ (bQ hq).1 q rfl;refine ⟨fun m σ H'=>H'=H2/\∃ x:Nat,σ=[some (.ref (α .hall)),some (.ref t),o2,some (.int a),some (.ref (α (.led a))),none,some (.int x),none]/\(∀ j:Nat,j < x->(bL kvs (Sum.inl (j:Int))).isSome=true)/\m=kvs.length+1 - x,⟨_,rfl,0,rfl,fun j hj=>absurd hj (Nat.not_lt_zero _),rfl⟩,?_⟩;rintro m σ H' ⟨rfl,x,rfl,hx,rfl⟩;refine ⟨_,iS,_,.dct (cJ.k (k:=Sum.inl (x:Int)) hd),_,rfl,?_⟩;cases hv:bL kvs (Sum.inl (x:Int)) with
      | none =>
       refine bU ?_;have ef:=pS kd x hx hv;rw [ef] at k1;refine ⟨_,.tup (bu.of ht) (wG _ _ _ _),_,iS,_,_,rfl,eK.k (k:=Sum.inl (x:Int)) hd (gz (by rw [kd.len]; have:=lk.sl _ hs; have:N * N<=500 * 500:=Nat.mul_le_mul hN hN; omega)),?_⟩;exact k1 α _ (X.putSaid hq hs kd x sy)
      | some y =>
       have hx':∀ j:Nat,j < x+1->(bL kvs (Sum.inl (j:Int))).isSome=true:=fun j hj=>by
        rcases Nat.lt_or_eq_of_le (Nat.le_of_lt_succ hj) with z | z
        ·exact hx j z
        ·rw [z,hv]; rfl
       have hle:=n8 (x+1) (kvs.map (·.1)) fun j hj=>g_ (hx' j hj);rw [List.length_map] at hle;refine bH ?_;refine ⟨fun σ' H''=>H''=H'/\σ'=[some (.ref (α .hall)),some (.ref t),o2,some (.int a),some (.ref (α (.led a))),none,some (.int ((x+1:Nat):Int)),none],?_,?_⟩
       ·rintro σ' H'' ⟨rfl,rfl⟩
        exact ⟨kvs.length+1 - (x+1),by omega,rfl,x+1,rfl,hx',rfl⟩
       ·exact ⟨rfl,rfl⟩
   | write o p pl =>
    obtain ⟨a,rfl,ha⟩:=nat o (by simp [Deed.chk]);obtain ⟨b,rfl,hb⟩:=nat p (by simp [Deed.chk]);have e:dj B (.write (a:Int) b pl)=cB B a b pl:=by
     show (if _ then (if _ then _ else _) else _)=_;rw [if_pos (hok _ (by simp [Deed.chk])),if_pos (hok _ (by simp [Deed.chk]))]
    rw [e] at k1; clear e;refine ⟨_,.tup (bu.of ht) (qu _ _ _),_,X.iLeads,_,.lst (a9.of X.leadsC) (ld ha),?_⟩;refine ⟨_,.tup (bu.of ht) (fK _ _),_,.scal rfl,_,rfl,bv (sk mv) ⟨_,.tup (bu.of ht) (fK _ _),_,.scal rfl,_,rfl,bv (sk mt) ?_⟩⟩;refine ⟨_,.tup (bu.of ht) (fK _ _),_,.scal rfl,_,rfl,bv (sk gT) ?_⟩;have el:eX B a=leadAt B a:=by unfold eX leadAt; rw [Int.toNat_natCast]
    cases hq:leadAt B a with
    | none =>
     rw [k7 hq];refine ⟨rfl,_,rfl,cD rfl (bH ?_)⟩;have e:cB B a b pl=(B,.non):=by unfold cB; rw [el,hq]
     rw [e] at k1;exact k1 α H2 (.refl X)
    | some q =>
     rw [iK hq];refine ⟨rfl,_,rfl,bv (fun z=>nomatch z) ?_⟩;refine ⟨_,.tup (bu.of ht) (fK _ _),_,.scal rfl,_,rfl,x8 (sk fU) ?_⟩;refine ⟨_,X.iSaid hq,rfl,_,rfl,?_⟩;cases hs:q.said with
     | none =>
      rw [kX hs];refine cD rfl ?_;have e:cB B a b pl=(B,.non):=by unfold cB; rw [el,hq]; simp [hs]
      rw [e] at k1;exact k1 α H2 (.refl X)
     | some sd =>
      rw [eP hs];refine bv (fun z=>nomatch z) ?_;refine ⟨_,.tup (bu.of ht) (fK _ _),_,.scal rfl,_,rfl,bv (sk iT) ?_⟩;refine ⟨_,X.iUp,_,.tup (bu.of ht) (wG _ _ _ _),_,.lst (a9.of X.upC) (up hb),_,rfl,?_⟩;cases hU:upQ B b with
      | false =>
       refine bH ?_;have e:cB B a b pl=(B,.non):=by unfold cB; rw [el,hq]; simp [hs,hU]
       rw [e] at k1;exact k1 α H2 (.refl X)
      | true =>
       refine bU ?_;refine ⟨_,.tup (bu.of ht) (fK _ _),_,.scal rfl,_,rfl,bv (sk fU) ?_⟩;obtain ⟨kvs,hd,kd⟩:=X.saidC hq hs;have iS:=X.iSaid (K:=K) hq;rw [eP hs] at iS;refine ⟨_,.tup (bu.of ht) (zw _ _ _ _ _),_,iS,_,.dct (cJ.k (k:=Sum.inl pl) hd),_,rfl,?_⟩;rcases kd.get pl with ⟨g1,g2⟩ | ⟨v,y,g1,g2,rfl⟩
       ·rw [g2]
        refine bH ?_;have e:cB B a b pl=(B,.non):=by unfold cB; rw [el,hq]; simp [hs,hU,g1]
        rw [e] at k1;exact k1 α H2 (.refl X)
       ·rw [g2]
        refine bU ?_;refine ⟨_,.tup (bu.of ht) (wG _ _ _ _),α,B,a,b,q,rfl,X,hq,by rw [g.ll]; exact ha,by rw [g.ls]; exact ha,by rw [g.lp]; exact hb,?_⟩
        by_cases h:q.num < promQ B b
        ·rw [if_pos h]
         intro H' Z;refine ⟨_,rfl,bH ?_⟩;have e:cB B a b pl=(f7 B a (promQ B b),.bl false):=by unfold cB; rw [el,hq]; simp [hs,hU,g1,h]
         rw [e] at k1;exact k1 α H' Z
        ·rw [if_neg h]
         intro H3 Y;refine ⟨_,rfl,bU ?_⟩;have e:cB B a b pl=({ B with prom:=B.prom.set b q.num,rows:=B.rows.set b (aJ (B.rows.getD b []) pl (q.num,y)),wrs:=B.wrs++[(q.num,(b:Int),pl,y)] },.bl true):=by unfold cB; rw [el,hq]; simp [hs,hU,g1,h]
         rw [e] at k1; clear e;have ht3:=(Y.kp _ _ ht (gB X ht)).1;have X3:=Y.at_;have hq3:leadAt { B with prom:=B.prom.set b q.num } a=some q:=hq;have hd3:∃ kvs,H3 (α (.said a))=some (.dK kvs)/\bL kvs (Sum.inl pl)=some (.str y):=by
          obtain ⟨kvs,hd,kd⟩:=X3.saidC hq3 hs;obtain ⟨v,z,rfl⟩:=kd.some g1;exact ⟨kvs,hd,z⟩
         obtain ⟨kv3,hd3,gv3⟩:=hd3;have iS3:=X3.iSaid (K:=K) hq3;rw [eP hs] at iS3;refine ⟨_,iS3,_,.tup (bu.of ht3) (zw _ _ _ _ _),_,c9 (k:=Sum.inl pl) hd3 gv3,?_⟩;refine ⟨_,X3.iNum hq3,by show 2<=sizeLine; decide,fun tp ntp=>?_⟩;have s4:=au (o:=.tup [.int q.num,.str y]) ntp;have h4:aA H3 tp (.tup [.int q.num,.str y]) tp=some (.tup [.int q.num,.str y]):=upd_same;have Y4:=Y.same s4;have ht4:=s4 _ _ ht3;generalize aA H3 tp (.tup [.int q.num,.str y])=H4 at *;have X4:=Y4.at_;have hb4:b < ({ B with prom:=B.prom.set b q.num }:QH).rows.length:=by show b < B.rows.length; rw [g.lr]; exact hb
         obtain ⟨kvr,hr4,kr4⟩:=X4.rowC hb4;refine ⟨_,X4.iRows,_,.tup (bu.of ht4) (wG _ _ _ _),_,.lst (a9.of X4.rowsC) (nO hb4),_,.tup (bu.of ht4) (zw _ _ _ _ _),_,_,rfl,eK.k (k:=Sum.inl pl) hr4 (aS (by rw [kr4.len]; have:=(g.rw_ _ (kz (i:=b) (by rw [g.lr]; exact hb))).1; show (B.rows.getD b []).length<=1000; omega)),?_⟩;have Y5:=Y4.trans (X4.setRow hb4 (kr4.put pl (v:=.ref tp) (y:=(q.num,y)) ⟨tp,rfl,h4⟩));have ht5:=(Y5.kp _ _ ht (gB X ht)).1;generalize aA H4 (α (.row b)) _=H5 at *;have X5:=Y5.at_;have hq5:leadAt { B with prom:=B.prom.set b q.num,rows:=B.rows.set b (aJ (B.rows.getD b []) pl (q.num,y)) } a=some q:=hq;obtain ⟨us,hw5,pw5⟩:=X5.wrsC;refine ⟨_,X5.iWrs,Bv hw5,_,X5.iNum hq5,_,.tup (bu.of ht5) (wG _ _ _ _),_,.tup (bu.of ht5) (zw _ _ _ _ _),by show 4<=sizeLine; decide,fun tw ntw=>?_⟩;have s6:=au (o:=.tup [.int q.num,.int b,.int pl,.str y]) ntw;have h6:aA H5 tw (.tup [.int q.num,.int b,.int pl,.str y]) tw=some (.tup [.int q.num,.int b,.int pl,.str y]):=upd_same;have Y6:=Y5.same s6;have hw6:=s6 _ _ hw5;have pw6:Paired (Hl.o_ (aA H5 tw (.tup [.int q.num,.int b,.int pl,.str y]))) us B.wrs:=Paired.mapP pw5 fun v x ⟨t,z1,z2⟩=>⟨t,z1,s6 _ _ z2⟩;generalize aA H5 tw (.tup [.int q.num,.int b,.int pl,.str y])=H6 at *;refine ⟨_,_,_,rfl,rfl,hw6,aS (by rw [Paired.length pw6]; have:=g.wr; omega),?_⟩;exact k1 α _ (Y6.trans (Y6.at_.addWr (x:=(q.num,(b:Int),pl,y)) pw6 h6))
end
end K08
namespace L2
open PySem
theorem xj {X:Cx}{K:Frag} (hK:X.K=K:=by rfl):eU X (binaryOp .Add) (yl K):=by subst hK; exact bb
end L2
namespace K08
open PySem L2 Hl
seal L2.PE L2.PA L2.PS L2.gI
theorem uD (xs:List V):im xs (some 1) none=xs.drop 1:=by
 cases xs with
 | nil=>rfl
 | cons v ua=>exact lc
theorem oN {l ns:List Int} (hp:ns.Perm l) (nd:l.Nodup) (h:ns.Pairwise (·<=·)):ns.Pairwise (· < ·):=by
 have n2:ns.Pairwise (·≠·):=hp.nodup_iff.mpr nd;exact (h.and n2).imp fun {a b} ⟨h1,h2⟩=>by omega
theorem vC {K:Frag}{H:Hp}{a b:Addr}{us:List V} (ha:H a=some (.lst us)) (hb:H b=some (.lst us)) (hr:∀ x∈us,∃ t,x=V.ref t):TEq K H (.ref a) (.ref b) true:=by
 have h:=TEq.lst (K:=K) (n:=1) (fun _=>true) (a9.of ha) (a9.of hb) rfl (by decide) fun j x y h1 h2=>by
  rw [h1] at h2; cases h2;obtain ⟨t,rfl⟩:=hr x (List.mem_of_getElem? h1);exact .same
 have e:((List.range us.length).all fun _=>true)=true:=by simp
 rwa [e] at h
theorem m5 {H:Hp}{a:Addr}{l:List Int} (h:H a=some (.lst (l.map V.int))) (hz:l.length<=1000):Deep H 2 (.ref a) (.lst (l.map Dat.int)) :=
 .lst h (by rw [List.length_map]; exact Nat.le_of_lt (aS hz)) (by simp) fun j x d h1 h2=>by
  rw [List.getElem?_map] at h1 h2;cases e:l[j]? with
  | none=>rw [e] at h1; cases h1
  | some i=>rw [e] at h1 h2; cases h1; cases h2; exact .int
section
variable {P:Program}{w:World}{K:Frag}{mg:Str->Option Value}{base:Heap}
theorem yY {f:Addr}{fd:FuncData} (NB:NBs mg) (O_at:L2.Own P w K mg base "_law_at" 1 ["_law_script","_law_k"] (zG K)) (O_drawn:L2.Own P w K mg base "_law_drawn" 3 ["_law_cells","_law_way","_law_count"] ss) (O_answers:L2.Own P w K mg base "answers" 7 ["count","deeds"] jg) (O_writings_after:L2.Own P w K mg base "writings_after" 8 ["count","deeds"] hV)
  (O_rows_after:L2.Own P w K mg base "rows_after" 8 ["count","deeds"] qD) (O_promised_after:L2.Own P w K mg base "promised_after" 8 ["count","deeds"] hX) (O_are_writings:L2.Own P w K mg base "_law_are_writings" 2 ["_law_found","_law_count"] xW)
  (O_new:L2.Own P w K mg base "_law_new" 1 ["_law_count"] xU) (O_alike:L2.Own P w K mg base "_law_alike" 2 ["_law_found","_law_due"] sw) (O_due_answer:L2.Own P w K mg base "_law_due_answer" 3 ["_law_hall","_law_deed"] xV) (O_so:L2.Own P w K mg base "_law_so" 3 ["_law_found","_law_meant"] (yj 3))
  (F:Fun K "law" "law" iu f fd):FnOk P w K mg base tH 10 f fd ["_law_script"] (qF K):=by
 refine F.ok vi (fun vs H Q E h=>?_) (fun cdv A outer s H vs Q E hr h=>?_)
 ·obtain ⟨a,ns,rfl,_⟩:=h; rfl
 ·obtain ⟨a,ns,rfl,hS,hO,hlen,k⟩:=h
  have hu:=bM hr;have nd:=vi.nd;refine ⟨_,(ad (aH nd 1 (ax (ba hu) (bx (ac ao (ac ao (ac ao (ac ao (ac ao (ac ao (ac ao (ac ao aj))))))))) (aE aL (aE aL (aE a8 (a_ O_at hr rfl (ac (nv 0) (ac ao aj))) ao) ao) ao) (fun _ _=>rfl)))
 (ad (aH nd 2 (a_ O_drawn hr rfl (ac (dw wI (nv 0) (c8 ao) gA) (ac (aE dY (a_ O_at hr rfl (ac (nv 0) (ac ao aj))) ao) (ac (nv 1) aj)))))
 (ad (aH nd 3 (df fT (by rfl) NB.list du (ac (nv 2) aj)))
 (ad (aH nd 4 (a_ O_answers hr rfl (ac (nv 1) (ac (nv 3) aj))))
 (ad (aQ (PW.pt (dI (bZ (bn (aG aD (by rfl) NB.isinstance aI (ac (nv 4) (ac (nt NB.list du) aj))))) (cX (aF (dq hr) (aG br (by rfl) NB.len cK (ac (nv 4) aj)) (aG br (by rfl) NB.len cK (ac (nv 2) aj)) (aK _))))) (aq (az bo)) aC)
 (ad (aH nd 5 (a_ O_new hr rfl (ac (nv 1) aj)))
 (ad (cq PassesOwn.never rfl (cy rfl NB.range (ac (aG br (by rfl) NB.len cK (ac (nv 2) aj)) aj)) (bi nd 6) (aq (aQ (bZ (bn (a_ O_alike hr rfl (ac (ax (ba hu) (nv 4) (nv 6) (fun _ _=>rfl)) (ac (a_ O_due_answer hr rfl (ac (nv 5) (ac (ax (ba hu) (nv 2) (nv 6) (fun _ _=>rfl)) aj))) aj))))) (aq (az bo)) aC)))
 (ad (aH nd 7 (a_ O_writings_after hr rfl (ac (nv 1) (ac (nv 3) aj))))
 (ad (aQ (PW.pt (dI (bZ (bn (a_ O_are_writings hr rfl (ac (nv 7) (ac (nv 1) aj))))) (cX (aF (dq hr) (nv 7) (ax (ba hu) (nv 5) aB (fun _ _=>rfl)) (aK _))))) (aq (az bo)) aC)
 (ad (aH nd 8 (a_ O_rows_after hr rfl (ac (nv 1) (ac (nv 3) aj))))
 (ad (aH nd 9 (a_ O_promised_after hr rfl (ac (nv 1) (ac (nv 3) aj))))
 (ad (aQ (aF (dq hr) (nv 3) (nv 2) (aK _)) (aq (az bo)) aC)
 (ad (aQ (PW.pt (dI (bZ (bn (aG aD (by rfl) NB.isinstance aI (ac (nv 8) (ac (nt NB.list du) aj))))) (cX (aF (dq hr) (aG br (by rfl) NB.len cK (ac (nv 8) aj)) (nv 1) (aK _))))) (aq (az bo)) aC)
 (ad (aQ (bZ (bn (a_ O_so hr rfl (ac (nv 9) (ac (ax (ba hu) (nv 5) aB (fun _ _=>rfl)) aj))))) (aq (az bo)) aC)
 (ad (cq PassesOwn.never rfl (cy rfl NB.range (ac (nv 1) aj)) (bi nd 6) (ad (aH nd 10 (ax (ba hu) (ax (ba hu) (nv 5) aB (fun _ _=>rfl)) (nv 6) (fun _ _=>rfl)))
 (ad (lE nd 11 (tgs:=["_law_place"]) (fr:=[10]) (cP (aG rC (by rfl) NB.sorted ju (ac (df fT (by rfl) NB.list du (ac (nv 10) aj)) aj))) (dz (tt:=none) (fun _ _ _ _=>(dv 0)) (fun _ _ _ _=>True.intro) (fun _ _ _ _=>(aE (xj (K:=K)) (cf (ac (nv 0) aj)) (ax (yc (K:=K) hu) (nv 1) (nv 0) (fun _ _=>rfl))))))
 (aq (aQ (bZ (bn (a_ O_so hr rfl (ac (ax (ba hu) (nv 8) (nv 6) (fun _ _=>rfl)) (ac (nv 11) aj))))) (aq (az bo)) aC)))))
 (aq (az bo))))))))))))))))),?_⟩
  refine ⟨by show 8<=sizeLine; decide,fun q0 n0=>?_⟩;have S0:=hS.keep (.of_same (au (o:=.lst [.int 1,.int 2,.int 3,.int 4,.int 5,.int 3,.int 10,.int 13]) n0));obtain ⟨c,hc,e1⟩:=tK (is:=[1,2,3,4,5,3,10,13]) (ns.getD 0 0 * 48271 % 1087 % 8) (Int.emod_nonneg _ (by decide)) (Int.emod_lt_of_pos _ (by decide));refine ⟨a,ns,0,rfl,S0.sq,by decide,oZ _,by decide,by decide,_,.lst (a9.of upd_same) e1,?_⟩;obtain ⟨n,rfl,n1,n2⟩:∃ n:Nat,c=(n:Int)/\0 < n/\(n<=5\/8 < n/\n<=13):=by
   simp at hc;exact ⟨c.toNat,by omega,by omega,by omega⟩
  clear e1 hc;generalize aA H q0 _=H0 at S0;refine ⟨1,rfl,.inl ⟨_,S0.sq,fun q1 nq1=>?_⟩⟩;rw [uD,<- List.map_drop];have s1:=au (o:=.lst ((ns.drop 1).map V.int)) nq1;have S1:=S0.keep (.of_same s1);refine ⟨a,ns,0,rfl,S1.sq,by decide,⟨by decide,by decide⟩,?_⟩;refine ⟨q1,_,n,ns.drop 1,rfl,upd_same,by rw [List.length_drop]; omega,n1,n2,fun l us ds H2 nl s2 L dl=>?_⟩;have dl:=dl.le;have tale:∀ {H9:Hp}{l3:Addr},H9 l3=some (.lst us)->dS H9 us ds->Tale H9 l3 n ds wH us:=fun h d=>⟨h,d,n1,by omega,by omega,fun d hd=>(L.ok d hd).1,by decide⟩;refine ⟨l,us,rfl,.lst (a9.of L.hl),fun l2 nl2=>?_⟩;have t1:=au (o:=.lst us) nl2;have h2:aA H2 l2 (.lst us) l2=some (.lst us):=upd_same;have L3:=L.same t1;generalize aA H2 l2 (.lst us)=H3 at t1 h2 L3 ⊢;refine ⟨n,l2,ds,wH,us,rfl,tale h2 L3.dd,fun H4 D vs' nD hD AN s4=>?_⟩;obtain rfl:=wE AN (mR ds (init n) fun d hd=>(L.ok d hd).2);have L4:=L3.same s4;have h4:=s4 _ _ h2;clear AN s4 t1 nl2 nD S1 s1 S0 nq1 L3 h2;have lus:us.length=ds.length:=L4.len;refine ⟨_,true,.lst hD,dD K,_,rfl,dJ ?_⟩;refine ⟨ds.length,.inl ⟨_,.inl (a9.of hD),by rw [List.length_map,lj]⟩,ds.length,.inl ⟨_,.inl (a9.of L4.hl),by rw [lus]⟩,_,.scal rfl,_,rfl,gN rfl ?_⟩;refine ⟨n,rfl,by omega,fun α H5 nα X5 s5=>?_⟩;have out:∀ b u,H4 b=some u->zo α (bF n) b:=fun b u e r hr z=>by rw [<- z,nα r hr] at e; cases e
  have oD:=out _ _ hD;have ol:=out _ _ L4.hl;have oh:=out _ _ h4;have hD:=s5 _ _ hD;have h5:=s5 _ _ h4;have L5:=L4.same s5;clear out nα s5 L4 h4;have SF:∀ xs,Sf (di (init n) xs):=fun xs=>(Sf.start n1).run xs;refine ⟨us.length,.inl ⟨_,.inl (a9.of L5.hl),rfl⟩,_,rfl,by omega,by omega,?_⟩;refine cU (n:=((us.length:Int)).toNat) (fun kk σ H8=>∃ o6 α' B,σ=[some (.ref a),some (.int n),some (.ref l),some (.ref l2),some (.ref D),some (.ref (α .hall)),o6,none,none,none,none,none]/\Stp8 H5 α (bF n) H8 α' B/\Sim (di (init n) (ds.take kk)) B/\Gd n kk B) ⟨_,α,bF n,rfl,.refl X5,Sim.init n,Gd.init n⟩ ?_ ?_
  ·rintro kk σ H8 hk ⟨o6,α',B,rfl,Y,SM,G⟩
   have hk':kk < us.length:=by omega
   have gk:=List.getElem?_eq_getElem hk';obtain ⟨d,hd,t,et,ht⟩:=bN L5.dd gk;rw [et] at gk;clear et;have ak:il us (0+(kk:Int))=some (.ref t):=by rw [Int.zero_add]; exact bT gk
   have hA:=pY ds (init n) hd;have aa:il ((jV (init n) ds).map kG) (0+(kk:Int))=some (kG (Hl.step (di (init n) (ds.take kk)) d).2):=by rw [Int.zero_add]; exact bT (by rw [List.getElem?_map,hA]; rfl)
   have okd:=L5.ok d (List.mem_of_getElem? hd);have pd:d.plain=true:=by have:=okd.2; cases d<;>first | rfl | exact this.elim
   obtain ⟨ea,SM'⟩:=SM.step (SF (ds.take kk)) pd;have pa:=lH (di (init n) (ds.take kk)) okd.2;rw [<- vK (init n) hd] at SM';generalize di (init n) (ds.take kk)=A1 at *;have hD8:=(Y.kp _ _ hD oD).1;have hl8:=(Y.kp _ _ L5.hl ol).1;have ht8:=(Y.kp _ _ ht (gB X5 ht)).1;refine ⟨_,.lst (a9.of hD8) aa,_,.lst (a9.of hl8) ak,α',B,n,kk,t,d,by rw [Y.hall],Y.at_,G,by omega,ht8,pd,fun α'' H9 Z=>?_⟩;refine ⟨(Hl.step A1 d).2,by rw [ea],pa,_,rfl,dJ ?_⟩;exact ⟨_,α'',_,rfl,Y.trans Z,SM',G.due n1 d⟩
  rintro σ H8 ⟨o6,α',B,rfl,Y,SM,G⟩;have en:((us.length:Int)).toNat=ds.length:=by rw [Int.toNat_natCast,lus]
  rw [en,List.take_length] at SM;rw [en] at G;have SFd:=SF ds;have cnd:(di (init n) ds).cnt=(n:Int):=om _ _;have wf:=nI (ke (PL:=wH) n1 (by decide)) ds fun d hd=>(L.ok d hd).1;have hwl:(di (init n) ds).wrs.length<=130:=by have:=wf.bd.w; omega
  have lscr:(di (init n) ds).scrs.length=n:=by have:=SFd.ln; omega
  have X:=Y.at_;have hl8:=(Y.kp _ _ L5.hl ol).1;have hh8:=(Y.kp _ _ h5 oh).1;have dd8:dS H8 us ds:=L5.dd.mono fun t xs e=>(Y.kp _ _ e (gB X5 e)).1;have eh:α' .hall=α .hall:=Y.hall;rw [<- eh];generalize eA:di (init n) ds=A1 at *;clear oD ol oh hD h5 L5 SF Y X5 eh;refine ⟨n,l2,ds,wH,us,rfl,tale hh8 dd8,fun H9 W ws hW nW PW s9=>?_⟩;rw [eA] at PW;refine ⟨W,n,ws,_,rfl,hW,PW,fun m j p v h=>by rw [<- cnd]; exact SFd.wb m j p v h,fun H10 s10=>⟨_,rfl,dJ ?_⟩⟩;have X10:=(X.same s9).same s10;obtain ⟨uw,hw,pw⟩:=X10.wrsC;rw [SM.wrs] at pw;refine ⟨_,X10.iWrs,true,yt (s10 _ _ hW) hw (Paired.mapP PW fun _ _ ⟨a,z1,z2⟩=>⟨a,z1,s10 _ _ z2⟩) pw,_,rfl,dJ ?_⟩;have s9:=s9.trans s10;have hl9:=s9 _ _ hl8;have hh9:=s9 _ _ hh8;have dd9:dS H10 us ds:=dd8.mono fun t xs e=>s9 _ _ e;clear hw pw uw s9 s10 hW PW nW X hl8 hh8 dd8;refine ⟨n,l2,ds,wH,us,rfl,tale hh9 dd9,fun H11 R rs nR hR PR s11=>?_⟩;rw [eA] at PR;have dd11:dS H11 us ds:=dd9.mono fun t xs e=>s11 _ _ e;refine ⟨n,l2,ds,wH,us,rfl,tale (s11 _ _ hh9) dd11,fun H12 M nM hM s12=>?_⟩;rw [eA] at hM;have s13:=s11.trans s12;have X12:=X10.same s13;have hR:=s12 _ _ hR;have PR:Paired (nF H12) rs (A1.scrs.map fun s=>jT s.row):=Paired.mapP PR fun _ _ z=>z.same s12;have lrs:rs.length=n:=by rw [Paired.length PR,List.length_map,lscr]
  have refs:∀ x∈us,∃ t,x=V.ref t:=fun x hx=>by
   obtain ⟨j,hj⟩:=List.mem_iff_getElem?.mp hx;obtain ⟨_,_,t,e,_⟩:=bN dd9 hj;exact ⟨t,e⟩
  refine ⟨true,vC (s13 _ _ hh9) (s13 _ _ hl9) refs,_,rfl,dJ ?_⟩;clear s13 s12 s11 nM nR dd9 dd11 hh9 hl9 refs X10;refine ⟨_,true,.lst hR,dD K,_,rfl,dJ ?_⟩;refine ⟨n,.inl ⟨_,.inl (a9.of hR),lrs.symm⟩,_,.scal rfl,_,rfl,gN rfl ?_⟩;have eM:(A1.scrs.map fun s=>V.int s.prom)=B.prom.map V.int:=by rw [SM.prom,List.map_map]; rfl
  rw [eM] at hM;refine ⟨_,X12.iProm,_,_,_,rfl,m5 hM (by rw [G.lp]; omega),m5 X12.promC (by rw [G.lp]; omega),fun H13 s13=>⟨_,rfl,dJ ?_⟩⟩;have hR:=s13 _ _ hR;have PR:Paired (nF H13) rs (A1.scrs.map fun s=>jT s.row):=Paired.mapP PR fun _ _ z=>z.same s13;have X13:=X12.same s13;clear s13 X12 eM hM;refine ⟨_,rfl,by omega,by omega,?_⟩;refine cU (n:=((n:Int)).toNat) (fun kk σ H14=>∃ o6 o10 o11,σ=[some (.ref a),some (.int n),some (.ref l),some (.ref l2),some (.ref D),some (.ref (α' .hall)),o6,some (.ref W),some (.ref R),some (.ref M),o10,o11]/\aV H13 H14) ⟨_,_,_,rfl,aV.refl _⟩ ?_ ?_
  ·rintro kk σ H14 hk ⟨o6,o10,o11,rfl,s14⟩
   have hk':kk < A1.scrs.length:=by omega
   have gs:=List.getElem?_eq_getElem hk';have sh:=mQ (wf.rp _ (List.getElem_mem hk')).1 (wf.rp _ (List.getElem_mem hk')).2 (show wH.length < 64 by decide);have rn:=(wf.rp _ (List.getElem_mem hk')).2;generalize A1.scrs[kk]=sc at gs sh rn;have eR:=SM.rowQ gs;have hkr:kk < B.rows.length:=by rw [G.lr]; omega
   have X14:=X13.same s14;obtain ⟨kvr,hr14,kr⟩:=X14.rowC hkr;rw [eR] at kr;generalize er:sc.row=row at *;have ek:(0+(kk:Int))=(kk:Int):=Int.zero_add _;have arow:il ((List.range B.rows.length).map fun i=>V.ref (α' (.row i))) (0+(kk:Int))=some (V.ref (α' (.row kk))):=by rw [ek]; exact nO hkr
   refine ⟨_,X14.iRows,_,.lst (a9.of X14.rowsC) arow,?_⟩;refine ⟨_,_,rfl,.key (.inl hr14),fun l5 nl5=>?_⟩;rw [k9 kr];have s15:=au (o:=.lst (row.map fun e=>V.int e.1)) nl5;have h15:aA H14 l5 (.lst (row.map fun e=>V.int e.1)) l5=some (.lst ((row.map (·.1)).map V.int)):=by rw [List.map_map]; exact upd_same
   refine ⟨l5,rfl,row.map (·.1),a9.of h15,by rw [List.length_map]; exact sh,fun ns' hp hs p np=>?_⟩;have s16:=s15.trans (au (o:=.lst (ns'.map V.int)) np);have gp:aA (aA H14 l5 (.lst (row.map fun e=>V.int e.1))) p (.lst (ns'.map V.int)) p=some (.lst (ns'.map V.int)):=upd_same;generalize aA (aA H14 l5 (.lst (row.map fun e=>V.int e.1))) p (.lst (ns'.map V.int))=H16 at s16 gp ⊢;have eS:=kW hp (oN hp rn hs);have nsl:ns'.length < 64:=by rw [hp.length_eq,List.length_map]; exact sh
   clear nl5 np s15 h15;refine ⟨p,rfl,⟨_,a9.of gp⟩,fun Dm nDm=>?_⟩;refine dP (xs:=ns'.map V.int) (fun i ys G2=>Paired (fun u (q:Int×Int×Str)=>∃ a,u=V.ref a/\G2 a=some (.tup [.int q.1,.int q.2.1,.str q.2.2])) ys ((ns'.take i).map fun pl=>(pl,((ay row pl).getD (0,"")).1,((ay row pl).getD (0,"")).2))/\G2 Dm=some (.lst ys)/\aV H16 G2) ⟨.nil,upd_same,au nDm⟩ (fun i ys G2 _ ⟨_,_,sm⟩=>a9.of (sm _ _ gp)) ?_ ?_
   ·rintro i v ys G2 hv hi ⟨pr,hE,sm⟩
    have hi':i < ns'.length:=by rw [List.length_map] at hi; exact hi
    rw [List.getElem?_map,List.getElem?_eq_getElem hi'] at hv;cases hv;have et:ns'.take (i+1)=ns'.take i++[ns'[i]]:=by rw [List.take_succ_eq_append_getElem hi']
    have hin:ns'[i]∈row.map (·.1):=hp.mem_iff.mp (List.getElem_mem hi');generalize ns'[i]=pl at *;have s2:=s16.trans sm;obtain ⟨e,he⟩:∃ e,ay row pl=some e:=by
     cases z:ay row pl with
     | some e=>exact ⟨e,rfl⟩
     | none=>exact absurd hin (cz.mp z)
    obtain ⟨vv,y1,t,y2,y3⟩:=kr.some he;subst y2;refine ⟨(Wk.refl _).set rfl,?_⟩;rw [cR,if_pos rfl];refine ⟨by show 1<=sizeLine; decide,fun t1 nt1=>?_⟩;have s3:=au (o:=.tup [V.int pl]) nt1;have s4:=s2.trans s3;refine ⟨_,c9 (k:=Sum.inl pl) (s4 _ _ hr14) y1,.inr ⟨_,_,bu.of upd_same,bu.of (s4 _ _ y3),by simp,by simp,by show 3<=sizeLine; decide,fun t2 nt2=>?_⟩⟩;have s5:=s3.trans (au (o:=.tup [.int pl,.int e.1,.str e.2]) nt2);have tD:t2≠Dm:=fun z=>by rw [z,s3 _ _ hE] at nt2; cases nt2
    have g2:aA (aA G2 t1 (.tup [V.int pl])) t2 (.tup [.int pl,.int e.1,.str e.2]) t2=some (.tup [.int pl,.int e.1,.str e.2]):=upd_same;show aA (aA G2 t1 (.tup [V.int pl])) t2 (.tup [.int pl,.int e.1,.str e.2]) Dm=_/\_/\mI _ _ _ _ (aA (aA (aA G2 t1 (.tup [V.int pl])) t2 (.tup [.int pl,.int e.1,.str e.2])) Dm _);generalize aA (aA G2 t1 (.tup [V.int pl])) t2 (.tup [.int pl,.int e.1,.str e.2])=G3 at s5 g2 ⊢;have lp:=Paired.length pr;rw [List.length_map,List.length_take] at lp;have kt:∀ b xs,G3 b=some (.tup xs)->(aA G3 Dm (.lst (ys++[.ref t2]))) b=some (.tup xs):=fun b xs e=>by rw [ag (gL e (s5 _ _ hE) fun z=>nomatch z)]; exact e
    refine ⟨s5 _ _ hE,by rw [sizeLine_eq]; omega,gK hi ⟨?_,upd_same,fun b u e=>?_⟩⟩
    ·rw [et,List.map_append]
     refine Paired.snoc (Paired.mapP pr fun u q ⟨a,z1,z2⟩=>⟨a,z1,kt _ _ (s5 _ _ z2)⟩) ⟨t2,rfl,kt _ _ ?_⟩;show G3 t2=some (.tup [.int pl,.int ((ay row pl).getD (0,"")).1,.str ((ay row pl).getD (0,"")).2]);rw [he]; exact g2
    ·rw [ag (ai e nDm)]; exact s5 _ _ (sm _ _ e)
   ·rintro ys G2 ⟨pr,hE,sm⟩
    rw [List.length_map,List.take_length] at pr;have pz:Paired (fun u (q:Int×Int×Str)=>∃ a,u=V.ref a/\G2 a=some (.tup [.int q.1,.int q.2.1,.str q.2.2])) ys (jT row):=by unfold jT; rw [eS]; exact pr
    have hkrs:kk < rs.length:=by omega
    have gr:=List.getElem?_eq_getElem hkrs;obtain ⟨y,hy,RW⟩:=bN PR gr;have ar:il rs (0+(kk:Int))=some rs[kk]:=by rw [ek]; exact bT gr
    rw [List.getElem?_map,gs] at hy;cases hy;have RW:nF H13 rs[kk] (jT row):=by rw [<- er]; exact RW
    have sF:=(s14.trans s16).trans sm;have sr:(jT row).length<=1000:=by rw [vN]; omega
    refine ⟨_,.lst (a9.of (sF _ _ hR)) ar,?_⟩;refine ⟨_,_,_,rfl,uz (RW.same sF) sr,pU hE pz (by rw [Paired.length pz]; exact sr),fun H17 s17=>⟨_,rfl,dJ ?_⟩⟩;exact ⟨_,_,_,rfl,sF.trans s17⟩
  ·rintro σ H14 ⟨o6,o10,o11,rfl,s14⟩
   exact k H14
end
end K08
namespace K08
open PySem L2 Hl
theorem d_ {K:Frag}{C:Addr}{x:Str} (h:PySem.W.findIn K (.ref C) x=some none):bO K C x:=h
noncomputable def zU (K:Frag) (mg:Str->Option Value):Prop:=∃ C:Addr,CtorAt K mg C "Scribe" "Scribe.__init__" dW ["self","own","count"]/\TxS K C/\MethAt K C "promise" "Scribe.promise" cV ["self","number"]/\MethAt K C "put" "Scribe.put" eC ["self","number","place","saying"]/\MethAt K C "rise" "Scribe.rise" dU ["self"]/\MethAt K C "see" "Scribe.see" eu ["self","number"]
noncomputable def zW (K:Frag) (mg:Str->Option Value):Prop:=∃ C:Addr,CtorAt K mg C "Lead" "Lead.__init__" fi ["self","number","count"]/\TxL K C/\MethAt K C "hear" "Lead.hear" fj ["self","scribe","row"]/\MethAt K C "begin_saying" "Lead.begin_saying" b9 ["self"]/\MethAt K C "say" "Lead.say" fP ["self","saying"]/\MethAt K C "take_hand" "Lead.take_hand" cW ["self","scribe","place"]/\MethAt K C "settled_pairs" "Lead.settled_pairs" bX ["self"]
noncomputable def zX (K:Frag) (mg:Str->Option Value):Prop:=∃ C:Addr,CtorAt K mg C "Hall" "Hall.__init__" fm ["self","count"]/\TxH K C/\MethAt K C "check" "Hall.check" eE ["self","number"]/\MethAt K C "rise" "Hall.rise" fk ["self","own"]/\MethAt K C "ask" "Hall.ask" fR ["self","own","other"]/\MethAt K C "fall" "Hall.fall" fq ["self","own","number"]/\MethAt K C "say" "Hall.say" fQ ["self","own","saying"]/\MethAt K C "have_write" "Hall.have_write" cG ["self","own","other","place"]/\MethAt K C "known_settled" "Hall.known_settled" bY ["self","own"]/\MethAt K C "be_stopped" "Hall.be_stopped" cI ["self","own"]/\MethAt K C "come_up" "Hall.come_up" dG ["self","own"]
noncomputable def zV (K:Frag) (mg:Str->Option Value):Prop:=∃ N:Addr,TxN K mg "NoScribe" N
theorem xw {K:Frag}{h:Heap}{mg:Str->Option Value}{N:Addr} (X:K.In h) (G:h.Ns mainGlobals mg) (a:PySem.W.nsIn K mainGlobals "NoScribe" = some (some (.ref N))) (e:PySem.W.excIn K N xL "ValueError.__new__" = true):zV K mg:=⟨N,PySem.W.mg_of X G a,e⟩
section
variable {P:Program}{w:World}{K:Frag}{mg:Str->Option Value}{base:Heap}
theorem Ad (NB:NBs mg) (HS:zU K mg) (HL:zW K mg) (HH:zX K mg) (HN:zV K mg) (D_is_most:DefAt K mg "is_most" fF ["count","many"]) (D_next_number:DefAt K mg "next_number" c7 ["count","scribe","seen"]) (D_free_place:DefAt K mg "free_place" dC ["said"]) (D_best_of:DefAt K mg "best_of" fG ["rows"]) (D_done:DefAt K mg "done" kL ["hall","deed"]) (D_answer_to:DefAt K mg "answer_to" dZ ["hall","deed"]) (D_hall_after:DefAt K mg "hall_after" dB ["count","deeds"]) (D_answers:DefAt K mg "answers" fH ["count","deeds"]) (D_writings_after:DefAt K mg "writings_after" ci ["count","deeds"]) (D_promised_after:DefAt K mg "promised_after" cj ["count","deeds"]) (D_row_by_places:DefAt K mg "row_by_places" cx ["row"]) (D_rows_after:DefAt K mg "rows_after" dA ["count","deeds"]) :
  L2.Own P w K mg base "answers" 7 ["count","deeds"] jg/\L2.Own P w K mg base "writings_after" 8 ["count","deeds"] hV/\L2.Own P w K mg base "rows_after" 8 ["count","deeds"] qD/\L2.Own P w K mg base "promised_after" 8 ["count","deeds"] hX:=by
 obtain ⟨cS,CTS,TS,M_Scribe_promise,M_Scribe_put,M_Scribe_rise,M_Scribe_see⟩:=HS;obtain ⟨cL,CTL,TL,M_Lead_hear,M_Lead_begin_saying,M_Lead_say,M_Lead_take_hand,M_Lead_settled_pairs⟩:=HL;obtain ⟨cH,CTH,TH,M_Hall_check,M_Hall_rise,M_Hall_ask,M_Hall_fall,M_Hall_say,M_Hall_have_write,M_Hall_known_settled,M_Hall_be_stopped,M_Hall_come_up⟩:=HH;obtain ⟨N,XN⟩:=HN
 let c:Cs:=⟨cH,cS,cL⟩
 have TS:TxS K c.s:=TS;have TL:TxL K c.l:=TL;have TH:TxH K c.h:=TH;have O_is_most:=p8 (P:=P) (w:=w) (mg:=mg) (base:=base)  D_is_most;have O_next_number:=jY (P:=P) (w:=w) (mg:=mg) (base:=base)  D_next_number;have O_free_place:=lY (P:=P) (w:=w) (mg:=mg) (base:=base)  D_free_place;have O_best_of:=p9 (P:=P) (w:=w) (mg:=mg) (base:=base)  D_best_of;have O_Scribe:=q_ (P:=P) (w:=w) (mg:=mg) (base:=base) (C:=c.s) TS CTS;have O_Scribe_promise:=ig (P:=P) (w:=w) (mg:=mg) (base:=base) (C:=c.s) TS M_Scribe_promise;have O_Scribe_put:=l4 (P:=P) (w:=w) (mg:=mg) (base:=base) (C:=c.s) TS O_Scribe_promise M_Scribe_put;have O_Scribe_rise:=jZ (P:=P) (w:=w) (mg:=mg) (base:=base) (C:=c.s) TS O_next_number M_Scribe_rise;have O_Scribe_see:=l0 (P:=P) (w:=w) (mg:=mg) (base:=base) (C:=c.s) NB TS M_Scribe_see;have O_Lead:=v4 (P:=P) (w:=w) (mg:=mg) (base:=base) (c:=c) TL CTL;have O_Lead_begin_saying:=gc (P:=P) (w:=w) (mg:=mg) (base:=base) (c:=c) NB TL O_best_of M_Lead_begin_saying;have O_Lead_hear:=mo (P:=P) (w:=w) (mg:=mg) (base:=base) (c:=c) NB TL O_is_most O_Lead_begin_saying M_Lead_hear;have O_Lead_say:=oE (P:=P) (w:=w) (mg:=mg) (base:=base) (c:=c) TL O_free_place M_Lead_say;have O_Lead_take_hand:=ii (P:=P) (w:=w) (mg:=mg) (base:=base) (c:=c) TL M_Lead_take_hand;have O_Lead_settled_pairs:=fW (P:=P) (w:=w) (mg:=mg) (base:=base) (c:=c) NB TL O_is_most M_Lead_settled_pairs;have O_Hall_check:=l6 (P:=P) (w:=w) (mg:=mg) (base:=base) (c:=c) TH XN M_Hall_check;have O_Hall_fall:=mr (P:=P) (w:=w) (mg:=mg) (base:=base) (c:=c) TH TS O_Scribe_see M_Hall_fall;have O_Hall_rise:=mq (P:=P) (w:=w) (mg:=mg) (base:=base) (c:=c) TH TS O_Hall_check O_Scribe_rise O_Lead M_Hall_rise;have O_Hall_ask:=oG (P:=P) (w:=w) (mg:=mg) (base:=base) (c:=c) TH TS TL O_Hall_check O_Scribe_promise O_Hall_fall O_Lead_hear M_Hall_ask;have O_Hall_say:=oF (P:=P) (w:=w) (mg:=mg) (base:=base) (c:=c) TH TL O_Hall_check O_Lead_say M_Hall_say;have O_Hall_be_stopped:=gG (P:=P) (w:=w) (mg:=mg) (base:=base) (c:=c) TH O_Hall_check M_Hall_be_stopped;have O_Hall_come_up:=jz (P:=P) (w:=w) (mg:=mg) (base:=base) (c:=c) TH O_Hall_check M_Hall_come_up;have O_Hall_have_write:=gF (P:=P) (w:=w) (mg:=mg) (base:=base) (c:=c) TH TS TL O_Hall_check O_Scribe_put O_Hall_fall O_Lead_take_hand M_Hall_have_write;have O_Hall_known_settled:=fX (P:=P) (w:=w) (mg:=mg) (base:=base) (c:=c) TH TL O_Hall_check O_Lead_settled_pairs M_Hall_known_settled;have O_done:=v3 (P:=P) (w:=w) (mg:=mg) (base:=base) (c:=c) TH O_Hall_rise O_Hall_ask O_Hall_say O_Hall_have_write O_Hall_known_settled O_Hall_be_stopped O_Hall_come_up D_done;have O_answer_to:=mj (P:=P) (w:=w) (mg:=mg) (base:=base) (c:=c) XN O_done D_answer_to;have O_Hall:=v5 (P:=P) (w:=w) (mg:=mg) (base:=base) (c:=c) NB TH O_Scribe CTH;have O_hall_after:=lX (P:=P) (w:=w) (mg:=mg) (base:=base) (c:=c) O_Hall O_answer_to D_hall_after;have O_answers:=p_ (P:=P) (w:=w) (mg:=mg) (base:=base) (c:=c) O_Hall O_answer_to D_answers;have O_writings_after:=ia (P:=P) (w:=w) (mg:=mg) (base:=base) (c:=c) TH O_hall_after D_writings_after;have O_promised_after:=ie (P:=P) (w:=w) (mg:=mg) (base:=base) (c:=c) TH TS O_hall_after D_promised_after;have O_row_by_places:=i0 (P:=P) (w:=w) (mg:=mg) (base:=base)  NB D_row_by_places;have O_rows_after:=lW (P:=P) (w:=w) (mg:=mg) (base:=base) (c:=c) TH TS O_hall_after O_row_by_places D_rows_after;exact ⟨O_answers,O_writings_after,O_rows_after,O_promised_after⟩
end
end K08
open PySem PySem.W PyProof.Rows L2 Hl
set_option maxRecDepth 100000 in
set_option maxHeartbeats 0 in
theorem PySem.Challenge.cw_scriberow_k08_plain_hall_holds : PySem.Challenge.rw_scriberow_k08_plain_hall.Holds := by
 w_on; o_law
 refine holds_open (r:=PySem.Challenge.rw_scriberow_k08_plain_hall.row) (q:=K08.q) (loose:=[]) (Xt:=fun s=>xlAt K08.q [] s&&recOk [] s) (XP:=XL K08.q []) (Yf:=Hook.obs (kHook K08.Kf K08.Ka K08.Ke)) (Ya:=Hook.val (kHook K08.Kf K08.Ka K08.Ke)) (YP:=Hook.says (kHook K08.Kf K08.Ka K08.Ke)) (d:=K08.dlaw) (kwd:=[]) (N:=K08.BD) K08.left (Hook.of (kHook K08.Kf K08.Ka K08.Ke)) (Hook.keeps (kHook K08.Kf K08.Ka K08.Ke)) (fun s e=>xl_of s (Bool.and_eq_true_iff.mp e).1) XL.keeps K08.hdef K08.hp K08.hk (fun s e=>recFacts_of (Bool.and_eq_true_iff.mp e).2) (by kernel_rfl) (by assumption) K08.ok ⟨by kernel_rfl,by kernel_rfl,by kernel_rfl,by kernel_rfl,by kernel_rfl,by decide +kernel⟩ ?hw ?hc
 case hw=>w_witness2
 k_fill
 refine L2.zZ (l:=PySem.Challenge.rw_scriberow_k08_plain_hall) (k:=10) (st:=K08.iu) rfl rfl ⟨rfl,by decide,by decide⟩ rfl (fun w h Y=>PySem.W.kIn_of Y) ?F
 case F =>
  intro w mg h KX G;have NB:K08.NBs mg:=⟨mg_none_of (n:="len") KX G (by k_is),mg_none_of (n:="min") KX G (by k_is),mg_none_of (n:="max") KX G (by k_is),mg_none_of (n:="range") KX G (by k_is),mg_none_of (n:="int") KX G (by k_is),mg_none_of (n:="bool") KX G (by k_is),mg_none_of (n:="str") KX G (by k_is),mg_none_of (n:="list") KX G (by k_is),mg_none_of (n:="dict") KX G (by k_is),mg_none_of (n:="tuple") KX G (by k_is),mg_none_of (n:="set") KX G (by k_is),mg_none_of (n:="sorted") KX G (by k_is),mg_none_of (n:="isinstance") KX G (by k_is),mg_none_of (n:="enumerate") KX G (by k_is)⟩;have HS:K08.zU (_) mg:=⟨_,jp KX G,
   ⟨⟨by k_is,by k_is,by k_is,by k_is⟩,K08.d_ (by k_is),K08.d_ (by k_is),K08.d_ (by k_is),K08.d_ (by k_is),K08.d_ (by k_is)⟩,
   bg,
   bg,
   bg,
   bg⟩
  have HL:K08.zW (_) mg:=⟨_,jp KX G,
   ⟨⟨by k_is,by k_is,by k_is,by k_is⟩,K08.d_ (by k_is),K08.d_ (by k_is),K08.d_ (by k_is),K08.d_ (by k_is),K08.d_ (by k_is),K08.d_ (by k_is)⟩,
   bg,
   bg,
   bg,
   bg,
   bg⟩
  have HH:K08.zX (_) mg:=⟨_,jp KX G,
   ⟨⟨by k_is,by k_is,by k_is,by k_is⟩,K08.d_ (by k_is),K08.d_ (by k_is),K08.d_ (by k_is),K08.d_ (by k_is),K08.d_ (by k_is)⟩,
   bg,
   bg,
   bg,
   bg,
   bg,
   bg,
   bg,
   bg,
   bg⟩
  have HN:=K08.xw KX G (by k_is) (by k_exc);have D_is_most:=aX (x:="is_most") (st:=K08.fF) (ps:=["count","many"]) KX G;have D_next_number:=aX (x:="next_number") (st:=K08.c7) (ps:=["count","scribe","seen"]) KX G;have D_best_of:=aX (x:="best_of") (st:=K08.fG) (ps:=["rows"]) KX G;have D_free_place:=aX (x:="free_place") (st:=K08.dC) (ps:=["said"]) KX G;have D_done:=aX (x:="done") (st:=K08.kL) (ps:=["hall","deed"]) KX G;have D_answer_to:=aX (x:="answer_to") (st:=K08.dZ) (ps:=["hall","deed"]) KX G;have D_hall_after:=aX (x:="hall_after") (st:=K08.dB) (ps:=["count","deeds"]) KX G;have D_answers:=aX (x:="answers") (st:=K08.fH) (ps:=["count","deeds"]) KX G;have D_writings_after:=aX (x:="writings_after") (st:=K08.ci) (ps:=["count","deeds"]) KX G;have D_row_by_places:=aX (x:="row_by_places") (st:=K08.cx) (ps:=["row"]) KX G;have D_rows_after:=aX (x:="rows_after") (st:=K08.dA) (ps:=["count","deeds"]) KX G;have D_promised_after:=aX (x:="promised_after") (st:=K08.cj) (ps:=["count","deeds"]) KX G;have D_so:=aX (x:="_law_so") (st:=K08.wO) (ps:=["_law_found","_law_meant"]) KX G;have D_whole:=aX (x:="_law_whole") (st:=K08.kj) (ps:=["_law_found"]) KX G;have D_at:=aX (x:="_law_at") (st:=K08.wP) (ps:=["_law_script","_law_k"]) KX G;have D_word:=aX (x:="_law_word") (st:=K08.nK) (ps:=["_law_k"]) KX G;have D_round:=aX (x:="_law_round") (st:=K08.km) (ps:=["_law_cell","_law_k","_law_count"]) KX G;have D_single:=aX (x:="_law_single") (st:=K08.iE) (ps:=["_law_cell","_law_k","_law_count"]) KX G;have D_woven:=aX (x:="_law_woven") (st:=K08.ki) (ps:=["_law_one","_law_other","_law_cell"]) KX G;have D_drawn:=aX (x:="_law_drawn") (st:=K08.ko) (ps:=["_law_cells","_law_way","_law_count"]) KX G;have D_are_writings:=aX (x:="_law_are_writings") (st:=K08.dF) (ps:=["_law_found","_law_count"]) KX G;have D_new:=aX (x:="_law_new") (st:=K08.rM) (ps:=["_law_count"]) KX G;have D_risen:=aX (x:="_law_risen") (st:=K08.kn) (ps:=["_law_hall","_law_own"]) KX G;have D_gets_promise:=aX (x:="_law_gets_promise") (st:=K08.dE) (ps:=["_law_hall","_law_own","_law_other"]) KX G;have D_asked:=aX (x:="_law_asked") (st:=K08.kq) (ps:=["_law_hall","_law_own","_law_other"]) KX G;have D_due_answer:=aX (x:="_law_due_answer") (st:=K08.eo) (ps:=["_law_hall","_law_deed"]) KX G;have D_alike:=aX (x:="_law_alike") (st:=K08.ku) (ps:=["_law_found","_law_due"]) KX G;have D_law:=aX (x:="law") (st:=K08.iu) (ps:=["_law_script"]) KX G;refine ⟨D_law,fun base f fd F=>?_⟩;have ST:=K08.Ad (P:=PySem.Challenge.pw_scriberow_k08_plain_hall) (w:=w) (base:=base) NB HS HL HH HN D_is_most D_next_number D_free_place D_best_of D_done D_answer_to D_hall_after D_answers D_writings_after D_promised_after D_row_by_places D_rows_after;obtain ⟨O_answers,O_writings_after,O_rows_after,O_promised_after⟩:=ST;exact K08.yY NB (K08.yP NB D_at) (K08.ue NB (K08.qZ (K08.pL D_word) D_single) (K08.uc NB (K08.pL D_word) D_round) (K08.t_ NB D_woven) D_drawn) O_answers O_writings_after O_rows_after O_promised_after (K08.jy NB (K08.mT NB D_whole) D_are_writings) (K08.xf NB D_new) (K08.ug NB (K08.mT NB D_whole) D_alike) (K08.lZ NB (K08.fJ NB D_gets_promise) (K08.ud D_risen) (K08.uf NB (K08.fJ NB D_gets_promise) D_asked) D_due_answer) (K08.vn NB D_so 3) F

