import PyProof.Rows.All
import Wide.All
import OpenK.AllK
import Wide.FinOn
import Lean
import PyProof.EqAt
import PyProof.EqKinds
import PyProof.TupleCall
import PyProof.Rows.SetFrom
import PySem.Challenge.RW_scriberow_k07_whole_settled_at_last
set_option Elab.async false
set_option linter.all false
set_option maxRecDepth 100000
set_option maxHeartbeats 8000000
noncomputable section
open PySem.W (Frag)
namespace L2
open PySem PySem.Spec PyProof.Rows
abbrev a5:=Sum Int Str
noncomputable def io:a5->Value->Bool
 | .inl k,v=>Value.isInt k v
 | .inr x,v=>Value.isStrOf x v
noncomputable def DQ (w:World):a5->Int
 | .inl k=>hashInt k
 | .inr x=>hashStr w x
theorem bv:∀ {k:a5}{v:Value},io k v=true->(∃ i t,k=Sum.inl i/\v=Value.int i t)\/(∃ x t,k=Sum.inr x/\v=Value.str x t)
 | .inl i,v,h=>by
  obtain ⟨t,e⟩:=Value.isInt_shape (k:=i) (v:=v) h;exact .inl ⟨i,t,rfl,e⟩
 | .inr x,v,h=>by
  obtain ⟨t,e⟩:=Value.isStrOf_shape (x:=x) (v:=v) h;exact .inr ⟨x,t,rfl,e⟩
theorem ve (i:Int) (t:Tok):io (.inl i) (.int i t)=true:=by simp [io,Value.isInt]
theorem vd (x:Str) (t:Tok):io (.inr x) (.str x t)=true:=by simp [io,Value.isStrOf]
theorem wH (a b:Int):decide ((Sum.inl a:a5)=Sum.inl b)=(a==b):=by
 by_cases e:a=b
 ·subst e; simp
 ·have h:¬ (Sum.inl a:a5)=Sum.inl b:=fun q=>e (Sum.inl.inj q)
  rw [decide_eq_false h];exact (beq_eq_false_iff_ne.mpr e).symm
theorem wG (a b:Str):decide ((Sum.inr a:a5)=Sum.inr b)=decide (a=b):=by
 by_cases e:a=b
 ·subst e; simp
 ·have h:¬ (Sum.inr a:a5)=Sum.inr b:=fun q=>e (Sum.inr.inj q)
  rw [decide_eq_false h,decide_eq_false e]
theorem Bx (a:Int) (b:Str):decide ((Sum.inl a:a5)=Sum.inr b)=false:=decide_eq_false (fun q=>nomatch q)
theorem Bw (a:Str) (b:Int):decide ((Sum.inr a:a5)=Sum.inl b)=false:=decide_eq_false (fun q=>nomatch q)
noncomputable def aX (prog:Program) (w:World):PySem.KeyKind prog w a5 where
 is:=io
 hash:=DQ w
 inj:=fun v a b ha hb=>by
  rcases bv ha with ⟨i,t,rfl,rfl⟩ | ⟨x,t,rfl,rfl⟩
  ·rcases bv hb with ⟨j,u,rfl,e⟩ | ⟨y,u,rfl,e⟩
   ·injection e with e1 _; rw [e1]
   ·exact nomatch e
  ·rcases bv hb with ⟨j,u,rfl,e⟩ | ⟨y,u,rfl,e⟩
   ·exact nomatch e
   ·injection e with e1 _; rw [e1]
 byValue:=fun k v h=>by
  rcases bv h with ⟨i,t,rfl,rfl⟩ | ⟨x,t,rfl,rfl⟩<;>rfl
 pyHash:=fun hv h=>by
  rcases bv hv with ⟨i,t,rfl,rfl⟩ | ⟨x,t,rfl,rfl⟩
  ·exact wpAny_pyHash_int h
  ·exact wpAny_pyHash_str h
 eqBool:=fun hu hv h=>by
  rcases bv hu with ⟨i,t,rfl,rfl⟩ | ⟨x,t,rfl,rfl⟩
  ·rcases bv hv with ⟨j,u,rfl,rfl⟩ | ⟨y,u,rfl,rfl⟩
   ·rw [wH] at h; exact wpAny_eqBool_int h
   ·rw [Bx] at h; exact SeqAt.EqAt.int_str i t y u _ _ _ _ h
  ·rcases bv hv with ⟨j,u,rfl,rfl⟩ | ⟨y,u,rfl,rfl⟩
   ·rw [Bw] at h; exact SeqAt.EqAt.str_int x t j u _ _ _ _ h
   ·rw [wG] at h; exact wpAny_eqBool_str h
 «strs»:=fun k x t v h=>by
  rcases bv h with ⟨i,u,rfl,e⟩ | ⟨y,u,rfl,e⟩
  ·exact nomatch e
  ·injection e with e1 _
   subst e1;cases v<;>rfl
theorem qZ (prog:Program) (w:World) (i:Int) (t:Tok):(aX prog w).is (.inl i) (.int i t)=true:=ve i t
theorem qY (prog:Program) (w:World) (x:Str) (t:Tok):(aX prog w).is (.inr x) (.str x t)=true:=vd x t
inductive V where
 | non | bl (b:Bool) | int (i:Int) | str (x:Str) | byt (b:Array UInt8) | flt (b:UInt64) | ref (a:Addr) | ty (n:String)
 deriving DecidableEq
noncomputable def RelV:V->Value->Prop
 | .non,u=>u=Value.none
 | .bl b,u=>u=Value.bool b
 | .int i,u=>∃ t,u=Value.int i t
 | .str x,u=>∃ t,u=Value.str x t
 | .byt b,u=>∃ t,u=Value.bytes b t
 | .flt b,u=>∃ t,u=Value.float b t
 | .ref a,u=>u=Value.ref a
 | .ty n,u=>u=Value.type n
abbrev aL:List V->List Value->Prop:=Paired RelV
theorem aL.length {xs:List V}{us:List Value} (r:aL xs us):xs.length=us.length:=Paired.length r
theorem aL.get:∀ {xs:List V}{us:List Value}{i:Nat}{x:V},aL xs us->xs[i]? = some x->∃ u,us[i]? = some u/\RelV x u
 | _,_,_,_,.nil,e=>by simp at e
 | _,_,0,_,.cons r _,e=>by simp at e; subst e; exact ⟨_,rfl,r⟩
 | _,_,i+1,x,.cons _ t,e=>by
  obtain ⟨u,h1,h2⟩:=aL.get (i:=i) (x:=x) t (by simpa using e);exact ⟨u,by simpa using h1,h2⟩
theorem aL.append:∀ {xs ys:List V}{us ws:List Value},aL xs us->aL ys ws->aL (xs++ys) (us++ws)
 | _,_,_,_,.nil,s=>s
 | _,_,_,_,.cons r t,s=>.cons r (aL.append t s)
theorem aL.take:∀ {xs:List V}{us:List Value} (n:Nat),aL xs us->aL (xs.take n) (us.take n)
 | _,_,0,_=>.nil
 | _,_,_+1,.nil=>.nil
 | _,_,n+1,.cons r t=>.cons r (aL.take n t)
theorem aL.drop:∀ {xs:List V}{us:List Value} (n:Nat),aL xs us->aL (xs.drop n) (us.drop n)
 | _,_,0,r=>r
 | _,_,_+1,.nil=>.nil
 | _,_,n+1,.cons _ t=>aL.drop n t
noncomputable def f8:Option V->Option Value->Prop
 | some v,some u=>RelV v u
 | none,none=>True
 | _,_=>False
noncomputable def KV {κ:Type}:List (κ×V)->List (κ×Value)->Prop:=Paired fun (p:κ×V) (q:κ×Value)=>p.1=q.1/\RelV p.2 q.2
noncomputable def kV:a5->V
 | .inl i=>.int i
 | .inr x=>.str x
inductive HO where
 /-- a list -/
 | lst (xs:List V)
 /-- a tuple (never changes) -/
 | tup (xs:List V)
 /-- a dict whose keys are ints and texts; one whose keys are tuples of ints and texts (the empty one is both) -/
 | dK (kvs:List (a5×V)) | dT (kvs:List (List a5×V))
 /-- a set of ints: its members,its size -/
 | set (S:Int->Bool) (n:Nat)
 /-- an instance of the class at C,its dict at dx,its attributes -/
 | ins (C dx:Addr) (fs:List (Str×V))
 /-- the dict of the instance at x -/
 | own (x:Addr)
 /-- the dict of an exception -/
 | xd (fs:List (Str×V))
 /-- a bound method,f of x -/
 | met (f x:Addr)
 /-- a range object lo,lo+1,.. below hi -/
 | rng (lo hi:Int)
 /-- a thing that is known to the object (the script; a dict while a loop walks it): read,never written while it is so -/
 | frz (o:Obj) (u:HO)
 /-- a code object's table -/
 | tbl (ps:Array Value)
 /-- any other thing,by what is true of its one object (a def of one's own: rE a S n:=HO.ext fun h=>..) -/
 | ext (φ:Heap->Prop)
abbrev Hp:=Addr->Option HO
noncomputable def aw (H:Hp) (a:Addr) (o:HO):Hp:=fun b=>if b=a then some o else H b
theorem upd_same {H:Hp}{a:Addr}{o:HO}:aw H a o a=some o:=by unfold aw; rw [if_pos rfl]
theorem ad {H:Hp}{a b:Addr}{o:HO} (h:b≠a):aw H a o b=H b:=by unfold aw; rw [if_neg h]
theorem yD {H:Hp}{a:Addr}{o u:HO}:aw (aw H a o) a u=aw H a u:=by
 funext b; unfold aw; split<;>rfl
theorem fZ {H:Hp}{a b:Addr}{o u:HO} (h:H a=some o) (h':H b=some u) (d:o≠u):a≠b:=by
 intro e; subst e; rw [h] at h'; exact d (Option.some.inj h')
theorem ai {H:Hp}{a b:Addr}{o:HO} (h:H a=some o) (h':H b=none):a≠b:=by
 intro e; subst e; rw [h] at h'; cases h'
section
variable (P:Program) (w:World)
noncomputable def a6 (H:Hp) (h:Heap) (a:Addr):HO->Prop
 | .lst xs=>xs.length<=sizeLine/\∃ (its:List Value) (n:Nat),aL xs its/\h.get? a=some { cls:=.type "list",data:=.seq its.toArray n }
 | .tup xs=>xs.length<=sizeLine/\∃ its:List Value,aL xs its/\IsTup h a its.toArray
 | .dK kvs=>kvs.length<=sizeLine/\(a==sysModules)=false/\∃ vs,KV kvs vs/\h.DictOf (aX P w) a vs
 | .dT kvs=>kvs.length<=sizeLine/\(a==sysModules)=false/\∃ xs:List (List a5×Addr×Value),
   Paired (fun (p:List a5×V) (q:List a5×Addr×Value)=>p.1=q.1/\H q.2.1=some (.tup (p.1.map kV))/\RelV p.2 q.2.2) kvs xs /\
   ∃ o es ep,h.get? a=some o/\o.ExactDict/\o.data=.dict es ep/\es.toList=xs.map (entryOfKey (tupleKind (aX P w)))/\(xs.map (·.1)).Nodup
 | .set S n=>h.SetOf (intKind P w) a S n
 | .ins C dx fs=>H dx=some (.own a)/\fs.length<=1000/\dx≠a/\h.get? a=some (PySem.W.instObj C dx) /\
   ∃ mA,h.Ns1 dx mA/\(∀ f,f8 (fs.lookup f) (mA f))/\PySem.Within mA (fs.map (·.1))
 | .own _=>∃ o,h.get? a=some o
 | .xd fs=>∃ mA,h.Ns1 a mA/\∀ f,f8 (fs.lookup f) (mA f)
 | .rng lo hi=>∃ t u v,h.get? a=some { cls:=.type "range",data:=.fields #[.int lo t,.int hi u,.int 1 v] }
 | .frz o u=>h.get? a=some o/\a6 H h a u
 | .tbl ps=>h.get? a=some { cls:=.none,data:=.fields ps }
 | .met f x=>h.get? a=some (PySem.W.methodObj (.ref f) (.ref x))
 | .ext φ=>φ h/\(∃ o,h.get? a=some o)/\∀ h1 h2:Heap,φ h1->(∀ o,h1.get? a=some o->h2.get? a=some o)->φ h2
noncomputable def gb (H:Hp) (h:Heap):Prop:=∀ a o,H a=some o->a6 P w H h a o
end
section
variable {P:Program}{w:World}{H H':Hp}{h h':Heap}{a:Addr}{o:HO}
theorem a6.lt (x:a6 P w H h a o):a < h.objs.size:=by
 cases o with
 | lst xs=>obtain ⟨_,_,_,_,e⟩:=x; exact Heap.lt_size e
 | tup xs=>obtain ⟨_,_,_,p⟩:=x; exact p.lt
 | dK kvs=>obtain ⟨_,_,_,_,o,_,_,e,_⟩:=x; exact Heap.lt_size e
 | dT kvs=>obtain ⟨_,_,_,_,o,_,_,e,_⟩:=x; exact Heap.lt_size e
 | set S n=>obtain ⟨o,_,_,_,e,_⟩:=x; exact Heap.lt_size e
 | ins C dx fs=>obtain ⟨_,_,_,e,_⟩:=x; exact Heap.lt_size e
 | own y=>obtain ⟨_,e⟩:=x; exact Heap.lt_size e
 | xd fs=>obtain ⟨_,⟨_,_,_,e,_⟩,_⟩:=x; exact Heap.lt_size e
 | rng lo hi=>obtain ⟨_,_,_,e⟩:=x; exact Heap.lt_size e
 | frz ob u=>obtain ⟨e,_⟩:=x; exact Heap.lt_size e
 | tbl ps=>exact Heap.lt_size (show h.get? a=some _ from x)
 | met f y=>exact Heap.lt_size (show h.get? a=some _ from x)
 | ext φ=>obtain ⟨_,⟨_,e⟩,_⟩:=x; exact Heap.lt_size e
theorem Paired.mapP {α β:Type}{F G:α->β->Prop}:∀ {l₁:List α}{l₂:List β},Paired F l₁ l₂->(∀ a b,F a b->G a b)->Paired G l₁ l₂
 | _,_,.nil,_=>.nil
 | _,_,.cons r t,f=>.cons (f _ _ r) (Paired.mapP t f)
theorem a6.stay (x:a6 P w H h a o) (k:∀ b u,(b=a\/H b=some (.own a))->h.get? b=some u->h'.get? b=some u)
  (ho:∀ b,H b=some (.own a)->H' b=some (.own a)) (ht:∀ b xs,H b=some (.tup xs)->H' b=some (.tup xs)):a6 P w H' h' a o:=by
 induction o with
 | lst xs=>obtain ⟨z,its,n,r,e⟩:=x; exact ⟨z,its,n,r,k _ _ (.inl rfl) e⟩
 | tup xs=>obtain ⟨z,its,r,ob,e,c⟩:=x; exact ⟨z,its,r,ob,k _ _ (.inl rfl) e,c⟩
 | dK kvs=>obtain ⟨z,y,vs,r,ob,es,ep,e,c⟩:=x; exact ⟨z,y,vs,r,ob,es,ep,k _ _ (.inl rfl) e,c⟩
 | dT kvs =>
  obtain ⟨z,y,xs,r,ob,es,ep,e,c⟩:=x;exact ⟨z,y,xs,Paired.mapP r fun p q z=>⟨z.1,ht _ _ z.2.1,z.2.2⟩,ob,es,ep,k _ _ (.inl rfl) e,c⟩
 | set S n=>obtain ⟨ob,es,ep,t,e,c⟩:=x; exact ⟨ob,es,ep,t,k _ _ (.inl rfl) e,c⟩
 | ins C dx fs =>
  obtain ⟨d,z,ne,e,mA,⟨od,es,ep,e2,c⟩,r⟩:=x;exact ⟨ho _ d,z,ne,k _ _ (.inl rfl) e,mA,⟨od,es,ep,k _ _ (.inr d) e2,c⟩,r⟩
 | own y=>obtain ⟨ob,e⟩:=x; exact ⟨ob,k _ _ (.inl rfl) e⟩
 | xd fs=>obtain ⟨mA,⟨od,es,ep,e,c⟩,r⟩:=x; exact ⟨mA,⟨od,es,ep,k _ _ (.inl rfl) e,c⟩,r⟩
 | rng lo hi=>obtain ⟨t,u,v,e⟩:=x; exact ⟨t,u,v,k _ _ (.inl rfl) e⟩
 | frz ob u ih=>obtain ⟨e,q⟩:=x; exact ⟨k _ _ (.inl rfl) e,ih q⟩
 | tbl ps =>
  have e:h.get? a=some { cls:=.none,data:=.fields ps }:=x;show h'.get? a=some { cls:=.none,data:=.fields ps };exact k a _ (.inl rfl) e
 | met f y =>
  have e:h.get? a=some (PySem.W.methodObj (.ref f) (.ref y)):=x;show h'.get? a=some (PySem.W.methodObj (.ref f) (.ref y));exact k a _ (.inl rfl) e
 | ext φ=>obtain ⟨p,⟨o,e⟩,st⟩:=x; exact ⟨st _ _ p fun o q=>k _ _ (.inl rfl) q,⟨o,k _ _ (.inl rfl) e⟩,st⟩
theorem gb.lt (x:gb P w H h) (e:H a=some o):a < h.objs.size:=(x a o e).lt
theorem gb.fresh (x:gb P w H h) (e:h.objs.size<=a):H a=none:=by
 cases q:H a with
 | none=>rfl
 | some u=>exact absurd (Nat.lt_of_lt_of_le (x.lt q) e) (Nat.lt_irrefl _)
theorem gb.kept (x:gb P w H h) (k:∀ b u,h.get? b=some u->h'.get? b=some u):gb P w H h':=fun a o e =>
 (x a o e).stay (fun b u _ q=>k b u q) (fun _ q=>q) fun _ _ q=>q
theorem gb.laid (x:gb P w H h) (k:∀ b u,h.get? b=some u->h'.get? b=some u) (hp:h.objs.size<=a) (new:a6 P w (aw H a o) h' a o):gb P w (aw H a o) h':=fun b u e=>by
 have hn:=x.fresh hp
 by_cases hb:b=a
 ·subst hb; rw [upd_same] at e; cases e; exact new
 ·rw [ad hb] at e
  exact (x b u e).stay (fun c v _ q=>k c v q) (fun c q=>by rw [ad (ai q hn)]; exact q) fun c xs q=>by rw [ad (ai q hn)]; exact q
end
noncomputable def Rd (H:Hp) (a:Addr) (u:HO):Prop:=H a=some u\/∃ o,H a=some (.frz o u)
theorem Rd.ok {P:Program}{w:World}{H:Hp}{h:Heap}{a:Addr}{u:HO} (r:Rd H a u) (x:gb P w H h):a6 P w H h a u:=by
 rcases r with r | ⟨o,r⟩
 ·exact x a u r
 ·obtain ⟨_,q⟩:=x a _ r
  exact q
noncomputable def Cb:Option HO->Prop
 | some (.lst _)=>True
 | some (.dK _)=>True
 | some (.dT _)=>True
 | some (.set _ _)=>True
 | some (.ins _ _ _)=>True
 | some (.ext _)=>True
 | _=>False
section
variable {P:Program}{w:World}{H:Hp}{h h':Heap}{x e:Addr}{o':HO}
theorem gb.write (ok:gb P w H h) (mu:Cb (H x)) (he:e=x\/H e=some (.own x)) (k:∀ b u,b≠e->h.get? b=some u->h'.get? b=some u) (heo:∃ u,h'.get? e=some u)
  (new:a6 P w (aw H x o') h' x o'):gb P w (aw H x o') h':=fun b u q=>by
 have nown:∀ c y,H c=some (.own y)->c≠x:=fun c y r z=>by subst z; rw [r] at mu; exact mu
 have ntup:∀ c xs,H c=some (.tup xs)->c≠x:=fun c xs r z=>by subst z; rw [r] at mu; exact mu
 by_cases hb:b=x
 ·subst hb; rw [upd_same] at q; cases q; exact new
 ·rw [ad hb] at q
  by_cases hbe:b=e
  ·have q':H b=some (.own x):=by
    rcases he with z | z
    ·exact absurd (hbe.trans z) hb
    ·rw [hbe]; exact z
   rw [q] at q'; cases q';obtain ⟨v,hv⟩:=heo;exact ⟨v,by rw [hbe]; exact hv⟩
  ·refine (ok b u q).stay (fun c v hc r=>k c v ?_ r) (fun c r=>by rw [ad (nown c b r)]; exact r) fun c xs r=>by rw [ad (ntup c xs r)]; exact r
   rcases hc with rfl | hc
   ·exact hbe
   ·rintro rfl
    rcases he with z | z
    ·exact nown c b hc z
    ·rw [hc] at z; cases z; exact hb rfl
end
structure Un (fs ex:List Addr) (H H':Hp) (h h':Heap):Prop where
 keep:∀ b o,h.get? b=some o->H b=none->b∉fs->b∉ex->h'.get? b=some o
 slot:∀ b o,h.get? b=some o->H b=none->b∈fs->b∉ex->∃ sl,h'.get? b=some { o with slots:=sl }
 free:∀ b o,h.get? b=some o->H b=none->b∉ex->H' b=none
 there:∀ b o,h.get? b=some o->b∉ex->∃ o',h'.get? b=some o'
 tups:∀ b xs,H b=some (.tup xs)->H' b=some (.tup xs)
 frzs:∀ b o u,H b=some (.frz o u)->H' b=some (.frz o u)
 tbls:∀ b ps,H b=some (.tbl ps)->∃ more,H' b=some (.tbl (ps++more))
section
variable {fs fs' ex ex':List Addr}{H H1 H2:Hp}{h h1 h2 h':Heap}{a x e:Addr}{o:HO}
theorem Un.any (u:Un fs ex H H1 h h1) {b:Addr}{ob:Obj} (q:h.get? b=some ob) (n:H b=none) (hx:b∉ex):∃ sl,h1.get? b=some { ob with slots:=sl }:=by
 by_cases hb:b∈fs
 ·exact u.slot b ob q n hb hx
 ·exact ⟨ob.slots,u.keep b ob q n hb hx⟩
theorem Un.kept (k:∀ b u,h.get? b=some u->h'.get? b=some u):Un fs ex H H h h' :=
 ⟨fun b ob q _ _ _=>k b ob q,fun b ob q _ _ _=>⟨ob.slots,k b ob q⟩,fun _ _ _ n _=>n,fun b ob q _=>⟨ob,k b ob q⟩,fun _ _ q=>q,fun _ _ _ q=>q,fun _ ps q=>⟨#[],by rw [q]; simp⟩⟩
theorem Un.refl:Un fs ex H H h h:=Un.kept fun _ _ q=>q
theorem Un.laid (k:∀ b u,h.get? b=some u->h'.get? b=some u) (hp:h.objs.size<=a) (hn:H a=none):Un fs ex H (aw H a o) h h' where
 keep:=fun b u q _ _ _=>k b u q
 slot:=fun b u q _ _ _=>⟨u.slots,k b u q⟩
 free:=fun b u q n _=>by rw [ad (Nat.ne_of_lt (Nat.lt_of_lt_of_le (Heap.lt_size q) hp))]; exact n
 there:=fun b u q _=>⟨u,k b u q⟩
 tups:=fun b xs q=>by rw [ad (ai q hn)]; exact q
 frzs:=fun b u xs q=>by rw [ad (ai q hn)]; exact q
 tbls:=fun b ps q=>⟨#[],by rw [ad (ai q hn),q]; simp⟩
theorem Un.write (mu:Cb (H x)) (he:e=x\/H e=some (.own x)) (k:∀ b u,b≠e->h.get? b=some u->h'.get? b=some u) (heo:∃ u,h'.get? e=some u):Un fs ex H (aw H x o) h h':=by
 have hx:∀ b,H b=none->b≠x:=fun b n z=>by subst z; rw [n] at mu; exact mu
 have hb:∀ b,H b=none->b≠e:=fun b n z=>by
  subst z;rcases he with r | r
  ·exact hx b n r
  ·rw [n] at r; cases r
 have hm:∀ b u,H b=some u->¬ Cb (some u)->b≠x:=fun b u q nm z=>by subst z; rw [q] at mu; exact nm mu
 refine ⟨fun b u q n _ _=>k b u (hb b n) q,fun b u q n _ _=>⟨u.slots,k b u (hb b n) q⟩,fun b u q n _=>by rw [ad (hx b n)]; exact n,fun b u q _=>?_,
  fun b xs q=>by rw [ad (hm b _ q fun z=>z)]; exact q,fun b u xs q=>by rw [ad (hm b _ q fun z=>z)]; exact q,fun b ps q=>⟨#[],by rw [ad (hm b _ q fun z=>z),q]; simp⟩⟩
 by_cases hbe:b=e
 ·subst hbe; exact heo
 ·exact ⟨u,k b u hbe q⟩
end
noncomputable def Da (h:Heap) (H:Hp):List Addr:=(List.range h.objs.size).filter fun a=>(H a).isSome
noncomputable def n9 (h:Heap) (H:Hp):Heap:=PySem.W.hideAll h (Da h H)
theorem vg (h:Heap) (H:Hp):(n9 h H).objs.size=h.objs.size:=PySem.W.hideAll_size _ _
theorem xH {h:Heap}{H:Hp}{b:Addr}{o:Obj} (e:h.get? b=some o) (n:H b=none):(n9 h H).get? b=some o :=
 PySem.W.hideAll_get _ e fun hm=>by
  have q:(H b).isSome=true:=(List.mem_filter.mp hm).2;rw [n] at q; simp at q
theorem za {h:Heap}{H:Hp}{b:Addr}{o:Obj} (e:(n9 h H).get? b=some o):h.get? b=some o/\H b=none:=by
 have e':h.get? b=some o:=PySem.W.of_hideAll (Da h H) e;refine ⟨e',?_⟩;cases q:H b with
 | none=>rfl
 | some x =>
  have hm:b∈Da h H:=List.mem_filter.mpr ⟨List.mem_range.mpr (Heap.lt_size e'),by simp [q]⟩;have z:(n9 h H).get? b=none:=PySem.W.hideAll_none (Da h H) hm;rw [z] at e; cases e
structure Mod (K:Frag) (mg:Str->Option Value) (base:Heap):Prop where
 kin:K.In base
 glob:base.Ns mainGlobals mg
 blt:∃ mb,base.Ns builtinsNs mb/\∀ x:Str,x ≠ "__name__" -> mb x=bootBuiltins x
 nolimit:base.NoLimit
/-- the context: a def's body (or a comprehension's block) running. base: fixed through the whole law; s₀,H₀: the entry; outer: the frames whose slots others may change (a def's callers); stack: all frames that run; ex: iterators that were made ahead of the entry and are walked here (a comprehension's); fn: the names whose cells were made at the entry (a def: all; a comprehension's block: its own); calm: not within an except suite; pn: pins that every state bears; xe: what is wanted of an exception that leaves the code -/
structure Cx where
 prog:Program
 w:World
 K:Frag
 mg:Str->Option Value
 base:Heap
 A:Around
 N:List Str
 s₀:Shared
 H₀:Hp
 env:Env
 outer:List Env
 stack:List Env
 ex:List Addr
 fn:Str->Bool
 calm:Bool
 pn:List (Addr×Obj)
 xe:Value->Shared->Prop
noncomputable def mS (l:List Env):List Addr:=l.filterMap (·.frame)
abbrev Cx.fs (X:Cx):List Addr:=mS X.outer
noncomputable def De (sc:Scope) (x:Str):Prop:=sc.names.lookup x=some .local\/sc.names.lookup x=some .cell\/sc.names.lookup x=some .free
noncomputable def yp (sc:Scope) (x:Str):Prop:=sc.names.lookup x=some .local\/sc.names.lookup x=some .cell
noncomputable def D3 (env:Env) (h:Heap) (m:Str->Option Value) (x:Str) (u:Value):Prop :=
 (env.kindOf x=some .local/\m x=some u)\/((env.kindOf x=some .cell\/env.kindOf x=some .free)/\∃ c,env.cells.lookup x=some c/\h.IsCell c (some u))
structure Cx.Ok (X:Cx):Prop where
 mod:Mod X.K X.mg X.base
 kind:X.env.scope.kind=.function
 glob:X.env.globals=mainGlobals
 blt:X.env.builtins=builtinsNs
 above:X.s₀.heap.objs.size<=X.env.locals
 inj:∀ x y c,X.env.cells.lookup x=some c->X.env.cells.lookup y=some c->x=y
 has:∀ x,(X.env.kindOf x=some .cell\/X.env.kindOf x=some .free)->∃ c,X.env.cells.lookup x=some c
 cab:∀ x c,X.fn x=true->X.env.cells.lookup x=some c->X.s₀.heap.objs.size<=c
 hd:X.calm=true->X.A.handled=none
 frames:X.A.frames=some X.stack
 stk:X.stack=X.outer\/(X.stack=X.env :: X.outer/\X.env.frame=some X.env.locals)
 exf:∀ b∈X.ex,b≠X.env.locals/\∀ x c,X.env.cells.lookup x=some c->c≠b
 bs:∀ b o,X.base.get? b=some o->X.s₀.heap.get? b=some o/\X.H₀ b=none
 bsz:X.base.objs.size<=X.s₀.heap.objs.size
 noex:∀ b o,X.base.get? b=some o->b∉X.ex
 exfs:∀ b∈X.ex,b∉X.fs
 funs:X.s₀.heap.FunFrames X.base X.outer
 frf:∀ b∈X.fs,X.H₀ b=none
structure Inv (X:Cx) (pins:List (Addr×Obj)) (σ:List (Option V)) (H:Hp) (s:Shared):Prop where
 ok:X.Ok
 os:s.os=X.s₀.os
 bare:AllBare s.gens
 base:Un X.fs X.ex X.H₀ H X.s₀.heap s.heap
 loc:∃ m,s.heap.Ns X.env.locals m/\∀ (i:Nat) (x:Str) (v:V),X.N[i]? = some x->σ[i]? = some (some v)->De X.env.scope x->∃ u,RelV v u/\D3 X.env s.heap m x u
 cell:∀ x c,X.env.cells.lookup x=some c->∃ v,s.heap.IsCell c v
 free:H X.env.locals=none
 freeC:∀ x c,X.env.cells.lookup x=some c->H c=none
 pin:∀ p∈X.pn++pins,s.heap.get? p.1=some p.2/\H p.1=none/\p.1≠X.env.locals/\p.1∉X.fs/\∀ v,p.2.data≠.cell v
 hok:gb X.prog X.w H s.heap
 len:σ.length=X.N.length
section
variable {X:Cx}{pins:List (Addr×Obj)}{σ:List (Option V)}{H H':Hp}{s:Shared}{h':Heap}
theorem Cx.Ok.nofr (ok:X.Ok) {b:Addr}{o:Obj} (e:X.base.get? b=some o):b∉X.fs:=fun hb=>by
 have:=(ok.funs.mem hb).1;rw [e] at this; cases this
theorem Inv.bs (I:Inv X pins σ H s):∀ b o,X.base.get? b=some o->s.heap.get? b=some o/\H b=none:=fun b o e =>
 ⟨I.base.keep b o (I.ok.bs b o e).1 (I.ok.bs b o e).2 (I.ok.nofr e) (I.ok.noex b o e),I.base.free b o (I.ok.bs b o e).1 (I.ok.bs b o e).2 (I.ok.noex b o e)⟩
theorem Inv.bk (I:Inv X pins σ H s):∀ b o,X.base.get? b=some o->s.heap.get? b=some o:=fun b o e=>(I.bs b o e).1
theorem Inv.mod (I:Inv X pins σ H s):Mod X.K X.mg X.base:=I.ok.mod
theorem Inv.kIn (I:Inv X pins σ H s):X.K.In s.heap:=I.ok.mod.kin.keeps I.bk
theorem Inv.lt (I:Inv X pins σ H s):X.env.locals < s.heap.objs.size:=let ⟨_,hn,_⟩:=I.loc; hn.lt
theorem Inv.sz (I:Inv X pins σ H s):X.s₀.heap.objs.size<=s.heap.objs.size:=Nat.le_trans I.ok.above (Nat.le_of_lt I.lt)
theorem Inv.nofs (I:Inv X pins σ H s) {a:Addr} (h:s.heap.objs.size<=a):a∉X.fs:=fun hb=>by
 obtain ⟨_,o,ho,_⟩:=I.ok.funs.mem hb;exact absurd (Nat.lt_of_lt_of_le (Heap.lt_size ho) (Nat.le_trans I.sz h)) (Nat.lt_irrefl _)
theorem Inv.cne (I:Inv X pins σ H s):∀ x c,X.env.cells.lookup x=some c->c≠X.env.locals:=fun x c e z=>by
 obtain ⟨v,o,ho,hd⟩:=I.cell x c e;obtain ⟨m,⟨o',es,ep,ho',hd',_⟩,_⟩:=I.loc;rw [z,ho'] at ho; cases ho; rw [hd'] at hd; cases hd
theorem Inv.funs (I:Inv X pins σ H s):s.heap.FunFrames X.base X.outer:=by
 have all:∀ (l:List Env),(∀ b∈mS l,b∈X.fs)->X.s₀.heap.FunFrames X.base l->s.heap.FunFrames X.base l:=by
  intro l
  induction l with
  | nil=>intro _ _; trivial
  | cons env r ih =>
   intro hs hl;obtain ⟨hk,⟨L,o,hf,hn,ho,hd⟩,hr⟩:=hl;have hL:L∈X.fs:=hs L (by unfold mS; rw [List.filterMap_cons,hf]; exact List.mem_cons_self);obtain ⟨sl,e⟩:=I.base.slot L o ho (I.ok.frf L hL) hL fun z=>I.ok.exfs L z hL;exact ⟨hk,⟨L,_,hf,hn,e,hd⟩,ih (fun b hb=>hs b (by unfold mS; rw [List.filterMap_cons,hf]; exact List.mem_cons_of_mem _ hb)) hr⟩
 exact all X.outer (fun _ hb=>hb) I.ok.funs
theorem Inv.stack (I:Inv X pins σ H s):s.heap.FunFrames X.base X.stack:=by
 rcases I.ok.stk with e | ⟨e,hf⟩
 ·rw [e]; exact I.funs
 ·rw [e]
  obtain ⟨m,hn,_⟩:=I.loc;refine .cons (by rw [I.ok.kind]; decide) hf hn ?_ I.funs;exact Heap.get?_none_of_le (Nat.le_trans I.ok.bsz I.ok.above)
theorem Inv.stkSub (I:Inv X pins σ H s):∀ b∈mS X.stack,b∈X.env.locals :: X.fs:=fun b hb=>by
 rcases I.ok.stk with e | ⟨e,hf⟩
 ·rw [e] at hb; exact List.mem_cons_of_mem _ hb
 ·rw [e] at hb
  unfold mS at hb;rw [List.filterMap_cons,hf] at hb;exact hb
theorem Inv.stkFree (I:Inv X pins σ H s):∀ b∈mS X.stack,H b=none:=fun b hb=>by
 rcases List.mem_cons.mp (I.stkSub b hb) with e | hb
 ·rw [e]; exact I.free
 ·obtain ⟨_,o,ho,_⟩:=I.ok.funs.mem hb
  exact I.base.free b o ho (I.ok.frf b hb) fun z=>I.ok.exfs b z hb
theorem Inv.step {g':Array GenState}{t':Nat}{d':Drawn}{ch:List Addr} (I:Inv X pins σ H s)
  (hch:∀ b∈ch,(b∈X.ex\/X.s₀.heap.objs.size<=b)/\b≠X.env.locals/\(∀ x c,X.env.cells.lookup x=some c->c≠b)/\∀ p∈X.pn++pins,p.1≠b)
  (keep:∀ b o,b≠X.env.locals->b∉X.fs->b∉ch->s.heap.get? b=some o->H b=none->h'.get? b=some o)
  (slot:∀ b o,b≠X.env.locals->b∈X.fs->b∉ch->s.heap.get? b=some o->H b=none->∃ sl,h'.get? b=some { o with slots:=sl }) (free:∀ b o,b∉ch->s.heap.get? b=some o->H b=none->H' b=none)
  (there:∀ b o,b∉ch->s.heap.get? b=some o->∃ o',h'.get? b=some o')
  (tups:∀ b xs,H b=some (.tup xs)->H' b=some (.tup xs)) (frzs:∀ b o u,H b=some (.frz o u)->H' b=some (.frz o u)) (tbls:∀ b ps,H b=some (.tbl ps)->∃ more,H' b=some (.tbl (ps++more)))
  (ns:∀ m,s.heap.Ns X.env.locals m->h'.Ns X.env.locals m) (hok:gb X.prog X.w H' h') (hg:AllBare g') :
  Inv X pins σ H' { s with heap:=h',gens:=g',drawn:=d',toks:=t' }:=by
 have neL:∀ b o,X.s₀.heap.get? b=some o->b≠X.env.locals:=fun b o e=>Nat.ne_of_lt (Nat.lt_of_lt_of_le (Heap.lt_size e) I.ok.above);have neC:∀ b o,X.s₀.heap.get? b=some o->b∉X.ex->b∉ch:=fun b o e hx hb=>by
  rcases (hch b hb).1 with z | z
  ·exact hx z
  ·exact absurd (Nat.lt_of_lt_of_le (Heap.lt_size e) z) (Nat.lt_irrefl _)
 have cellK:∀ x c,X.env.cells.lookup x=some c->∀ v,s.heap.IsCell c v->h'.IsCell c v:=fun x c e v ⟨o,ho,hd⟩=>by
  have nch:c∉ch:=fun z=>(hch c z).2.2.1 x c e rfl
  by_cases hc:c∈X.fs
  ·obtain ⟨sl,q⟩:=slot c o (I.cne x c e) hc nch ho (I.freeC x c e)
   exact ⟨_,q,hd⟩
  ·exact ⟨o,keep c o (I.cne x c e) hc nch ho (I.freeC x c e),hd⟩
 refine ⟨I.ok,I.os,hg,⟨fun b o e n hb hx=>?_,fun b o e n hb hx=>?_,fun b o e n hx=>?_,fun b o e hx=>?_,fun b xs e=>tups b xs (I.base.tups b xs e),fun b o xs e=>frzs b o xs (I.base.frzs b o xs e),fun b ps e=>?_⟩,?_,fun x c e=>?_,?_,fun x c e=>?_,fun p hp=>?_,hok,I.len⟩
 ·exact keep b o (neL b o e) hb (neC b o e hx) (I.base.keep b o e n hb hx) (I.base.free b o e n hx)
 ·obtain ⟨sl,e1⟩:=I.base.slot b o e n hb hx
  obtain ⟨sl',e2⟩:=slot b _ (neL b o e) hb (neC b o e hx) e1 (I.base.free b o e n hx);exact ⟨sl',e2⟩
 ·obtain ⟨o',e1⟩:=I.base.there b o e hx
  exact free b o' (neC b o e hx) e1 (I.base.free b o e n hx)
 ·obtain ⟨o',e1⟩:=I.base.there b o e hx
  exact there b o' (neC b o e hx) e1
 ·obtain ⟨m1,e1⟩:=I.base.tbls b ps e
  obtain ⟨m2,e2⟩:=tbls b _ e1;exact ⟨m1++m2,by rw [e2,Array.append_assoc]⟩
 ·obtain ⟨m,hn,hl⟩:=I.loc
  refine ⟨m,ns m hn,fun i x v e1 e2 e3=>?_⟩;obtain ⟨u,r,l⟩:=hl i x v e1 e2 e3;refine ⟨u,r,?_⟩;rcases l with l | ⟨k,c,e,z⟩
  ·exact .inl l
  ·exact .inr ⟨k,c,e,cellK x c e _ z⟩
 ·obtain ⟨v,z⟩:=I.cell x c e
  exact ⟨v,cellK x c e v z⟩
 ·obtain ⟨m,⟨o,_,_,ho,_⟩,_⟩:=I.loc
  exact free _ o (fun z=>(hch _ z).2.1 rfl) ho I.free
 ·obtain ⟨v,o,ho,hd⟩:=I.cell x c e
  exact free c o (fun z=>(hch c z).2.2.1 x c e rfl) ho (I.freeC x c e)
 ·obtain ⟨e,n,ne,nf,d⟩:=I.pin p hp
  have nch:p.1∉ch:=fun z=>(hch p.1 z).2.2.2 p hp rfl;exact ⟨keep p.1 p.2 ne nf nch e n,free p.1 p.2 nch e n,ne,nf,d⟩
theorem Inv.un {t':Nat} (I:Inv X pins σ H s) (u:Un X.fs [] H H' s.heap h') (hok:gb X.prog X.w H' h'):Inv X pins σ H' { s with heap:=h',toks:=t' }:=by
 obtain ⟨m,⟨o,es,ep,ho,r⟩,_⟩:=id I.loc;obtain ⟨sl,hL⟩:=u.any ho I.free (by simp);exact I.step (g':=s.gens) (d':=s.drawn) (ch:=[]) (fun _ z=>nomatch z) (fun b o _ hb _ e n=>u.keep b o e n hb (by simp)) (fun b o _ hb _ e n=>u.slot b o e n hb (by simp)) (fun b o _ e n=>u.free b o e n (by simp)) (fun b o _ e=>u.there b o e (by simp)) u.tups u.frzs u.tbls (fun m' hm=>by
  obtain ⟨o',es',ep',ho',r'⟩:=hm;rw [ho] at ho'; cases ho';exact ⟨_,es',ep',hL,r'⟩) hok I.bare
theorem Inv.call {g':Array GenState}{t':Nat}{d':Drawn}{ch:List Addr} (I:Inv X pins σ H s) (u:Un (mS X.stack) ch H H' s.heap h') (hok:gb X.prog X.w H' h') (hg:AllBare g')
  (hch:∀ b∈ch,(b∈X.ex\/X.s₀.heap.objs.size<=b)/\b≠X.env.locals/\(∀ x c,X.env.cells.lookup x=some c->c≠b)/\∀ p∈X.pn++pins,p.1≠b) :
  Inv X pins σ H' { s with heap:=h',gens:=g',drawn:=d',toks:=t' }:=by
 obtain ⟨m,⟨o,es,ep,ho,r⟩,_⟩:=id I.loc;obtain ⟨sl,hL⟩:=u.any ho I.free fun z=>(hch _ z).2.1 rfl;exact I.step (ch:=ch) hch (fun b o hL hb hc e n=>u.keep b o e n (fun z=>(List.mem_cons.mp (I.stkSub b z)).elim hL hb) hc) (fun b o _ _ hc e n=>u.any e n hc) (fun b o hc e n=>u.free b o e n hc) (fun b o hc e=>u.there b o e hc) u.tups u.frzs u.tbls (fun m' hm=>by
  obtain ⟨o',es',ep',ho',r'⟩:=hm;rw [ho] at ho'; cases ho';exact ⟨_,es',ep',hL,r'⟩) hok hg
theorem Inv.turned {t':Nat}{it:Addr} (I:Inv X pins σ H s) (k:∀ b o,b≠it->s.heap.get? b=some o->h'.get? b=some o) (hn:H it=none) (hL:it≠X.env.locals)
  (h1:it∈X.ex\/X.s₀.heap.objs.size<=it) (h2:∀ x c,X.env.cells.lookup x=some c->c≠it) (h3:∀ p∈X.pn++pins,p.1≠it):Inv X pins σ H { s with heap:=h',toks:=t' }:=by
 have nit:∀ b u,H b=some u->b≠it:=fun b u e z=>by rw [z,hn] at e; cases e
 refine I.step (g':=s.gens) (d':=s.drawn) (ch:=[it]) (fun b hb=>?_) (fun b o _ _ hc e _=>k b o (fun z=>hc (by simp [z])) e) (fun b o _ _ hc e _=>⟨o.slots,k b o (fun z=>hc (by simp [z])) e⟩) (fun _ _ _ _ n=>n)
  (fun b o hc e=>⟨o,k b o (fun z=>hc (by simp [z])) e⟩) (fun _ _ e=>e) (fun _ _ _ e=>e) (fun b ps e=>⟨#[],by rw [e]; simp⟩) (fun m hm=>?_) (fun b u e=>?_) I.bare
 ·have e:b=it:=by simpa using hb
  subst e;exact ⟨h1,hL,h2,h3⟩
 ·obtain ⟨o,es,ep,ho,r⟩:=hm
  exact ⟨o,es,ep,k _ o (Ne.symm hL) ho,r⟩
 ·refine (I.hok b u e).stay (fun c v hc q=>k c v ?_ q) (fun _ q=>q) fun _ _ q=>q
  rcases hc with z | z
  ·rw [z]; exact nit b u e
  ·exact nit c _ z
theorem Inv.tok (I:Inv X pins σ H s) (t:Nat):Inv X pins σ H { s with toks:=t }:=I.un (h':=s.heap) (t':=t) Un.refl I.hok
theorem Inv.kept {t':Nat} (I:Inv X pins σ H s) (k:∀ b u,s.heap.get? b=some u->h'.get? b=some u):Inv X pins σ H { s with heap:=h',toks:=t' }:=I.un (Un.kept k) (I.hok.kept k)
theorem Inv.laid {a:Addr}{o:HO}{t':Nat} (I:Inv X pins σ H s) (k:∀ b u,s.heap.get? b=some u->h'.get? b=some u) (hp:s.heap.objs.size<=a) (new:a6 X.prog X.w (aw H a o) h' a o) :
  Inv X pins σ (aw H a o) { s with heap:=h',toks:=t' }:=I.un (Un.laid k hp (I.hok.fresh hp)) (I.hok.laid k hp new)
theorem Inv.write {x e:Addr}{o:HO}{t':Nat} (I:Inv X pins σ H s) (mu:Cb (H x)) (he:e=x\/H e=some (.own x)) (k:∀ b u,b≠e->s.heap.get? b=some u->h'.get? b=some u) (heo:∃ u,h'.get? e=some u)
  (new:a6 X.prog X.w (aw H x o) h' x o):Inv X pins σ (aw H x o) { s with heap:=h',toks:=t' }:=I.un (Un.write mu he k heo) (I.hok.write mu he k heo new)
theorem Inv.weak {σ':List (Option V)} (I:Inv X pins σ H s) (hl:σ'.length=σ.length) (w:∀ (i:Nat) v,σ'[i]? = some (some v)->σ[i]? = some (some v)):Inv X pins σ' H s :=
 ⟨I.ok,I.os,I.bare,I.base,let ⟨m,hn,hl'⟩:=I.loc; ⟨m,hn,fun i x v e1 e2 e3=>hl' i x v e1 (w i v e2) e3⟩,I.cell,I.free,I.freeC,I.pin,I.hok,hl.trans I.len⟩
theorem Inv.pins_of {pins':List (Addr×Obj)} (I:Inv X pins σ H s) (h:∀ p∈pins',s.heap.get? p.1=some p.2/\H p.1=none/\p.1≠X.env.locals/\p.1∉X.fs/\∀ v,p.2.data≠.cell v):Inv X pins' σ H s :=
 ⟨I.ok,I.os,I.bare,I.base,I.loc,I.cell,I.free,I.freeC,fun p hp=>(List.mem_append.mp hp).elim (fun z=>I.pin p (List.mem_append_left _ z)) (h p),I.hok,I.len⟩
theorem qx {N:List Str} (hN:N.Nodup) {i j:Nat}{x:Str} (a:N[i]? = some x) (b:N[j]? = some x):i=j:=by
 obtain ⟨h1,e1⟩:=List.getElem?_eq_some_iff.mp a;obtain ⟨h2,e2⟩:=List.getElem?_eq_some_iff.mp b;exact (List.getElem_inj hN).mp (e1.trans e2.symm)
theorem m7 {M:Model}{A:Around}{E:Value->Shared->Prop}{i:Nat}{x:Str}{v:V}{u:Value}{Q:Unit->Shared->Prop} (I:Inv X pins σ H s) (hN:X.N.Nodup) (hi:X.N[i]? = some x) (hx:yp X.env.scope x) (r:RelV v u)
  (h:∀ s',Inv X pins (σ.set i (some v)) H s'->(∃ a,Heap.SameBut a s.heap s'.heap/\(a=X.env.locals\/X.env.cells.lookup x=some a))->Q () s') (hf:X.fn x=true\/X.env.scope.names.lookup x=some .local:=by first | exact .inl rfl | exact .inr rfl | assumption):wpAny M A (storeName X.env x u) Q E s:=by
 obtain ⟨m,hn,hl⟩:=id I.loc;have hcls:(X.env.scope.kind==.class || (X.env.scope.kind==.module&&X.env.locals != X.env.globals))=false:=by rw [I.ok.kind]; rfl
 have hiσ:i < σ.length:=by rw [I.len]; exact (List.getElem?_eq_some_iff.mp hi).1
 have cne:=I.cne;have tracked:∀ {a:Addr}{h':Heap},(∃ o,s.heap.get? a=some o/\H a=none)->Heap.SameBut a s.heap h'->gb X.prog X.w H h':=fun {a h'} ha hs b ob e=>by
  obtain ⟨_,_,hfree⟩:=ha;refine (I.hok b ob e).stay (fun c w' hc q=>(hs.2 c ?_).trans q) (fun _ q=>q) fun _ _ q=>q;rintro rfl;rcases hc with rfl | hc
  ·rw [hfree] at e; cases e
  ·rw [hfree] at hc; cases hc
 rcases hx with hk | hk
 ·refine wpAny_storeName_local hk hn (fun h' hn' hs=>?_) hcls
  obtain ⟨oL,_,_,hoL,_⟩:=id hn;refine h _ ⟨I.ok,I.os,I.bare,⟨fun b o e n hb hx=>?_,fun b o e n hb hx=>?_,I.base.free,fun b o e hx=>?_,I.base.tups,I.base.frzs,I.base.tbls⟩,⟨_,hn',fun j y v' e1 e2 e3=>?_⟩,fun y c e=>?_,I.free,I.freeC,fun p hp=>?_,tracked ⟨oL,hoL,I.free⟩ hs,by simpa using I.len⟩ ⟨_,hs,.inl rfl⟩
  ·exact (hs.2 b (Nat.ne_of_lt (Nat.lt_of_lt_of_le (Heap.lt_size e) I.ok.above))).trans (I.base.keep b o e n hb hx)
  ·obtain ⟨sl,e1⟩:=I.base.slot b o e n hb hx
   exact ⟨sl,(hs.2 b (Nat.ne_of_lt (Nat.lt_of_lt_of_le (Heap.lt_size e) I.ok.above))).trans e1⟩
  ·obtain ⟨o',e1⟩:=I.base.there b o e hx
   exact ⟨o',(hs.2 b (Nat.ne_of_lt (Nat.lt_of_lt_of_le (Heap.lt_size e) I.ok.above))).trans e1⟩
  ·by_cases hj:j=i
   ·subst hj
    rw [hi] at e1; cases e1;rw [List.getElem?_set_self hiσ] at e2;cases e2;exact ⟨u,r,.inl ⟨hk,by simp⟩⟩
   ·rw [List.getElem?_set_ne (Ne.symm hj)] at e2
    obtain ⟨u',r',q⟩:=hl j y v' e1 e2 e3;refine ⟨u',r',?_⟩;rcases q with ⟨k,e⟩ | ⟨k,c,e,z⟩
    ·refine .inl ⟨k,?_⟩
     have:y≠x:=fun e=>hj (qx hN e1 (e ▸ hi))
     simp [this,e]
    ·exact .inr ⟨k,c,e,z.sameBut hs (cne y c e)⟩
  ·obtain ⟨w',z⟩:=I.cell y c e
   exact ⟨w',z.sameBut hs (cne y c e)⟩
  ·obtain ⟨e,n,ne,nf,d⟩:=I.pin p hp
   exact ⟨(hs.2 p.1 ne).trans e,n,ne,nf,d⟩
 ·have hfn:X.fn x=true:=by
   rcases hf with z | z
   ·exact z
   ·rw [z] at hk; cases hk
  obtain ⟨c,hc⟩:=I.ok.has x (.inl hk);obtain ⟨w',z⟩:=I.cell x c hc;refine wpAny_storeName_cell I.ok.kind hk hc z (fun h' hc' hs=>?_);obtain ⟨oc,hoc,hocd⟩:=id z;refine h { s with heap:=h' } ⟨I.ok,I.os,I.bare,⟨fun b o e n hb hx=>?_,fun b o e n hb hx=>?_,I.base.free,fun b o e hx=>?_,I.base.tups,I.base.frzs,I.base.tbls⟩,⟨m,hn.sameBut hs (Ne.symm (cne x c hc)),fun j y v' e1 e2 e3=>?_⟩,fun y c' e=>?_,I.free,I.freeC,fun p hp=>?_,tracked ⟨oc,hoc,I.freeC x c hc⟩ hs,by simpa using I.len⟩ ⟨c,hs,.inr hc⟩
  ·exact (hs.2 b (Nat.ne_of_lt (Nat.lt_of_lt_of_le (Heap.lt_size e) (I.ok.cab x c hfn hc)))).trans (I.base.keep b o e n hb hx)
  ·obtain ⟨sl,e1⟩:=I.base.slot b o e n hb hx
   exact ⟨sl,(hs.2 b (Nat.ne_of_lt (Nat.lt_of_lt_of_le (Heap.lt_size e) (I.ok.cab x c hfn hc)))).trans e1⟩
  ·obtain ⟨o',e1⟩:=I.base.there b o e hx
   exact ⟨o',(hs.2 b (Nat.ne_of_lt (Nat.lt_of_lt_of_le (Heap.lt_size e) (I.ok.cab x c hfn hc)))).trans e1⟩
  ·by_cases hj:j=i
   ·subst hj
    rw [hi] at e1; cases e1;rw [List.getElem?_set_self hiσ] at e2;cases e2;exact ⟨u,r,.inr ⟨.inl hk,c,hc,hc'⟩⟩
   ·rw [List.getElem?_set_ne (Ne.symm hj)] at e2
    obtain ⟨u',r',q⟩:=hl j y v' e1 e2 e3;refine ⟨u',r',?_⟩;rcases q with q | ⟨k,c',e,z'⟩
    ·exact .inl q
    ·refine .inr ⟨k,c',e,z'.sameBut hs ?_⟩
     rintro rfl;exact hj (qx hN e1 (I.ok.inj _ _ _ e hc ▸ hi))
  ·by_cases hcc:c'=c
   ·subst hcc; exact ⟨_,hc'⟩
   ·obtain ⟨w2,z2⟩:=I.cell y c' e
    exact ⟨w2,z2.sameBut hs hcc⟩
  ·obtain ⟨e,n,ne,nf,d⟩:=I.pin p hp
   refine ⟨(hs.2 p.1 ?_).trans e,n,ne,nf,d⟩;intro q;rw [q,hoc] at e;have q':oc=p.2:=Option.some.inj e;exact d w' (by rw [<- q']; exact hocd)
theorem kW {M:Model}{A:Around}{E:Value->Shared->Prop}{i:Nat}{x:Str}{v:V}{u:Value}{Q:Unit->Shared->Prop} (I:Inv X pins σ H s) (hN:X.N.Nodup) (hi:X.N[i]? = some x) (hx:yp X.env.scope x) (r:RelV v u)
  (h:∀ s',Inv X pins (σ.set i (some v)) H s'->Q () s') (hf:X.fn x=true\/X.env.scope.names.lookup x=some .local:=by first | exact .inl rfl | exact .inr rfl | assumption):wpAny M A (storeName X.env x u) Q E s :=
 m7 I hN hi hx r (fun s' I' _=>h s' I') hf
theorem Inv.call' {s':Shared}{ch:List Addr} (I:Inv X pins σ H s) (ho:s'.os=s.os) (u:Un (mS X.stack) ch H H' s.heap s'.heap) (hok:gb X.prog X.w H' s'.heap) (hg:AllBare s'.gens)
  (hch:∀ b∈ch,(b∈X.ex\/X.s₀.heap.objs.size<=b)/\b≠X.env.locals/\(∀ x c,X.env.cells.lookup x=some c->c≠b)/\∀ p∈X.pn++pins,p.1≠b):Inv X pins σ H' s':=by
 obtain ⟨h',g',d',t',o'⟩:=s';have e:o'=s.os:=ho;subst e;exact I.call (g':=g') (t':=t') (d':=d') u hok hg hch
end
abbrev XK:=Value->Option Addr->Hp->Prop
abbrev St:=List (Option V)
abbrev VK:=V->Hp->Prop
abbrev TE:=St->Hp->VK->Prop
abbrev TT:=St->Hp->(Bool->Hp->Prop)->Prop
abbrev TA:=St->Hp->(List V->Hp->Prop)->Prop
structure Ends where
 nx:St->Hp->Prop
 rt:VK
 bk:St->Hp->Prop:=fun _ _=>False
 ct:St->Hp->Prop:=fun _ _=>False
abbrev TS:=Ends->St->Hp->Prop
noncomputable def EP (X:Cx) (pins:List (Addr×Obj)) (σ:St) (Q:VK) (u:Value) (s':Shared):Prop:=∃ v H',Inv X pins σ H' s'/\RelV v u/\Q v H'
noncomputable def TP (X:Cx) (pins:List (Addr×Obj)) (σ:St) (Q:Bool->Hp->Prop) (b:Bool) (s':Shared):Prop:=∃ H',Inv X pins σ H' s'/\Q b H'
noncomputable def AP (X:Cx) (pins:List (Addr×Obj)) (σ:St) (Q:List V->Hp->Prop) (us:List Value) (s':Shared):Prop:=∃ vs H',Inv X pins σ H' s'/\aL vs us/\Q vs H'
noncomputable def SP (X:Cx) (pins:List (Addr×Obj)) (D:Ends) (f:Flow) (s':Shared):Prop :=
 match f with
 | .next=>∃ σ' H',Inv X pins σ' H' s'/\D.nx σ' H'
 | .brk=>∃ σ' H',Inv X pins σ' H' s'/\D.bk σ' H'
 | .cont=>∃ σ' H',Inv X pins σ' H' s'/\D.ct σ' H'
 | .ret u=>∃ v σ' H',Inv X pins σ' H' s'/\RelV v u/\D.rt v H'
noncomputable def PE (X:Cx) (e:Expr) (t:TE):Prop :=
 ∀ (pins:List (Addr×Obj)) (s:Shared) (σ:St) (H:Hp) (Q:VK),Inv X pins σ H s->t σ H Q->wpAny (model X.prog X.w) X.A (eval e X.env) (EP X pins σ Q) X.xe s
noncomputable def PT (X:Cx) (e:Expr) (t:TT):Prop :=
 ∀ (pins:List (Addr×Obj)) (s:Shared) (σ:St) (H:Hp) (Q:Bool->Hp->Prop),Inv X pins σ H s->t σ H Q->wpAny (model X.prog X.w) X.A (isTrue e X.env (eval e X.env)) (TP X pins σ Q) X.xe s
noncomputable def PW (X:Cx) (e:Expr) (t:TT):Prop :=
 ∀ (whole:Sem Value) (pins:List (Addr×Obj)) (s:Shared) (σ:St) (H:Hp) (Q:Bool->Hp->Prop),Inv X pins σ H s->t σ H Q->wpAny (model X.prog X.w) X.A (isTrue e X.env whole) (TP X pins σ Q) X.xe s
theorem PW.pt {X:Cx}{e:Expr}{t:TT} (h:PW X e t):PT X e t:=h _
noncomputable def PA (X:Cx) (es:List Expr) (t:TA):Prop :=
 ∀ (pos:Pos) (pins:List (Addr×Obj)) (s:Shared) (σ:St) (H:Hp) (Q:List V->Hp->Prop),Inv X pins σ H s->t σ H Q->wpAny (model X.prog X.w) X.A (spliced (backTo pos (starEach es X.env))) (AP X pins σ Q) X.xe s
noncomputable def PS (X:Cx) (st:Stmt) (t:TS):Prop :=
 ∀ (pins:List (Addr×Obj)) (s:Shared) (σ:St) (H:Hp) (D:Ends),Inv X pins σ H s->t D σ H->wpAny (model X.prog X.w) X.A (exec st X.env) (SP X pins D) X.xe s
noncomputable def gI (X:Cx) (st:List Stmt) (t:TS):Prop :=
 ∀ (pins:List (Addr×Obj)) (s:Shared) (σ:St) (H:Hp) (D:Ends),Inv X pins σ H s->t D σ H->wpAny (model X.prog X.w) X.A (execs st X.env) (SP X pins D) X.xe s
theorem bE {α:Type}{t:Sem α}{Q Q':α->Shared->Prop}{M:Model}{A:Around}{E:Value->Shared->Prop}{s:Shared} (h:wpAny M A t Q E s) (hQ:∀ a s,Q a s->Q' a s):wpAny M A t Q' E s:=wpAny_mono h hQ fun _ _ x=>x
section
variable {X:Cx}
noncomputable def Dv (i:Nat):TE:=fun σ H Q=>∃ v,σ[i]? = some (some v)/\Q v H
noncomputable def tC (v:V):TE:=fun _ H Q=>Q v H
theorem Bg {i:Nat}{x:Str}{pos:Pos} (hN:X.N[i]? = some x) (hv:De X.env.scope x) (hd:(x==("__debug__":Str))=false:=by decide) (hcd:(x==("__classdict__":Str))=false:=by decide):PE X (.Name x pos) (Dv i):=by
 intro pins s σ H Q I h;obtain ⟨v,e,h⟩:=h;obtain ⟨m,hn,hl⟩:=I.loc;obtain ⟨u,r,l⟩:=hl i x v hN e hv;have fin:EP X pins σ Q u s:=⟨v,H,I,r,h⟩;rcases l with ⟨hk,hm⟩ | ⟨hk,c,hc,hcell⟩
 ·exact wpAny_Name (wpAny_loadName_local I.ok.kind hk hn hm fin) hd
 ·rcases hk with hk | hk
  ·exact wpAny_Name (wpAny_loadName_cell I.ok.kind hk hc hcell fin) hd
  ·exact wpAny_Name (wpAny_loadName_free I.ok.kind hk hc hcell fin hcd) hd
theorem aj {i j pos}:PE X (.Constant (.int i) j pos) (tC (.int i)):=fun _ _ _ H _ I h=>wpAny_Constant_int ⟨.int i,H,I.tok _,⟨_,rfl⟩,h⟩
theorem bB {b j pos}:PE X (.Constant (.bool b) j pos) (tC (.bl b)):=fun _ _ _ H _ I h=>Constant_bool ⟨.bl b,H,I,rfl,h⟩
theorem gU {j pos}:PE X (.Constant .none j pos) (tC .non):=fun _ _ _ H _ I h=>Constant_none ⟨.non,H,I,rfl,h⟩
theorem aY {x j pos}:PE X (.Constant (.str x) j pos) (tC (.str x)):=fun _ _ _ H _ I h=>Calls.Constant_str ⟨.str x,H,I.tok _,⟨_,rfl⟩,h⟩
noncomputable def Gl (X:Cx) (x:Str):Prop:=X.env.kindOf x=some .globalImplicit
theorem kg {E:Value->Shared->Prop}{pins:List (Addr×Obj)}{s:Shared}{σ:St}{H:Hp}{x:Str}{u:Value}{pos:Pos}{Q:Value->Shared->Prop} (I:Inv X pins σ H s) (hg:Gl X x) (hm:X.mg x=some u) (h:Q u s)
  (hd:(x==("__debug__":Str))=false:=by decide):wpAny (model X.prog X.w) X.A (eval (.Name x pos) X.env) Q E s :=
 Calls.Name_function_global I.ok.kind hg (Calls.loadGlobal_global (by rw [I.ok.glob]; exact I.mod.glob.keeps I.bk) hm h) hd
theorem i5 {E:Value->Shared->Prop}{pins:List (Addr×Obj)}{s:Shared}{σ:St}{H:Hp}{x:Str}{u:Value}{pos:Pos}{Q:Value->Shared->Prop} (I:Inv X pins σ H s) (hg:Gl X x) (hm:X.mg x=none) (hv:bootBuiltins x=some u) (h:Q u s)
  (hn:x ≠ "__name__":=by decide) (hd:(x==("__debug__":Str))=false:=by decide):wpAny (model X.prog X.w) X.A (eval (.Name x pos) X.env) Q E s:=by
 obtain ⟨mb,h1,h2⟩:=I.mod.blt;exact Calls.Name_function_global I.ok.kind hg (Calls.loadGlobal_builtin (by rw [I.ok.glob]; exact I.mod.glob.keeps I.bk) hm (by rw [I.ok.blt]; exact h1.keeps I.bk) ((h2 x hn).trans hv) h) hd
theorem y0 {x:Str}{v:V}{u:Value}{pos:Pos} (hg:Gl X x) (hm:X.mg x=none) (hv:bootBuiltins x=some u) (r:RelV v u) (hn:x ≠ "__name__":=by decide) (hd:(x==("__debug__":Str))=false:=by decide):PE X (.Name x pos) (tC v) :=
 fun _ _ _ H _ I h=>i5 I hg hm hv ⟨v,H,I,r,h⟩ hn hd
variable {a b:Expr}{ta tb:TE}{pos:Pos}
noncomputable def tB (t:TE):TT:=fun σ H Q=>t σ H fun x H1=>∃ c,x=.bl c/\Q c H1
theorem bz {e:Expr}{t:TE} (h:PE X e t) (he:∀ whole,isTrue e X.env whole=(do let v <- whole; standAt e.pos; holding [v] (truthy v)):=by intro _; rfl):PT X e (tB t):=by
 intro pins s σ H Q I hw;refine isTrue_plain (bE (h pins s σ H _ I hw) fun v s1 ⟨x,H1,I1,r1,q1⟩=>?_) (he _);obtain ⟨d,rfl,q⟩:=q1;cases r1;exact wpAny_truthy_bool ⟨H1,I1,q⟩
variable {tA tB':TT}{rest:List Expr}
noncomputable def Az (t u:TT):TT:=fun σ H Q=>t σ H fun c H1=>if c=true then u σ H1 Q else Q false H1
noncomputable def BY (t u:TT):TT:=fun σ H Q=>t σ H fun c H1=>if c=true then Q true H1 else u σ H1 Q
noncomputable def Dz (t:TT):TT:=fun σ H Q=>t σ H fun c H1=>Q (!c) H1
theorem tU (ha:PT X a tA):PW X (.BoolOp .And [a] pos) tA:=by
 intro wh pins s σ H Q I h;refine isTrue_and (bE (ha pins s σ H Q I h) fun c s1 e=>?_);cases c with
 | true=>exact isTrue_and_nil e
 | false=>exact e
theorem dg (ha:PT X a tA):PW X (.BoolOp .Or [a] pos) tA:=by
 intro wh pins s σ H Q I h;refine isTrue_or (bE (ha pins s σ H Q I h) fun c s1 e=>?_);cases c with
 | false=>exact isTrue_or_nil e
 | true=>exact e
theorem wx (ha:PT X a tA) (hb:PW X (.BoolOp .And (b :: rest) pos) tB'):PW X (.BoolOp .And (a :: b :: rest) pos) (Az tA tB'):=by
 intro wh pins s σ H Q I h;refine isTrue_and (bE (ha pins s σ H _ I h) fun c s1 ⟨H1,I1,q1⟩=>?_);cases c with
 | true=>exact hb wh pins s1 σ H1 Q I1 q1
 | false=>exact ⟨H1,I1,q1⟩
theorem dW (ha:PT X a tA) (hb:PW X (.BoolOp .Or (b :: rest) pos) tB'):PW X (.BoolOp .Or (a :: b :: rest) pos) (BY tA tB'):=by
 intro wh pins s σ H Q I h;refine isTrue_or (bE (ha pins s σ H _ I h) fun c s1 ⟨H1,I1,q1⟩=>?_);cases c with
 | true=>exact ⟨H1,I1,q1⟩
 | false=>exact hb wh pins s1 σ H1 Q I1 q1
theorem cu (ha:PT X a tA):PT X (.UnaryOp .Not a pos) (Dz tA):=by
 intro pins s σ H Q I h;exact isTrue_not (ha pins s σ H (fun c H1=>Q (!c) H1) I h)
noncomputable def CJ (ta tb:TE):TE:=fun σ H Q=>ta σ H fun x H1=>∃ c,x=.bl c/\if c=true then tb σ H1 Q else Q (.bl false) H1
noncomputable def CH (ta:TE):TE:=fun σ H Q=>ta σ H fun x H1=>∃ c,x=.bl c/\Q (.bl (!c)) H1
theorem oi {op}{t:TE} (h:PE X a t):PE X (.BoolOp op [a] pos) t:=fun pins s σ H Q I hw=>BoolOp_one (h pins s σ H Q I hw)
theorem kL (ha:PE X a ta) (hb:PE X (.BoolOp .And (b :: rest) pos) tb):PE X (.BoolOp .And (a :: b :: rest) pos) (CJ ta tb):=by
 intro pins s σ H Q I h;refine BoolOp_and (bE (ha pins s σ H _ I h) fun v s1 ⟨x,H1,I1,r1,q1⟩=>?_);obtain ⟨c,rfl,q1⟩:=q1;cases r1;refine wpAny_truthy_bool ?_;cases c with
 | true=>exact hb pins s1 σ H1 Q I1 q1
 | false=>exact ⟨.bl false,H1,I1,rfl,q1⟩
theorem wy (ha:PE X a ta):PE X (.UnaryOp .Not a pos) (CH ta):=by
 intro pins s σ H Q I h;refine UnaryOp_ (bE (ha pins s σ H _ I h) fun v s1 ⟨x,H1,I1,r1,q1⟩=>?_);obtain ⟨c,rfl,q1⟩:=q1;cases r1;exact not_of (wpAny_truthy_bool ⟨.bl (!c),H1,I1,rfl,q1⟩)
end
noncomputable def a9 (K:Frag) (H:Hp) (a:Addr) (xs:List V):Prop :=
 Rd H a (.lst xs) \/
  ∃ (o:Obj) (its:Array Value) (n:Nat),K.lookup a=some o/\o.cls=.type "list" /\ o.dict=none/\o.data=.seq its n/\its.size<=sizeLine/\aL xs its.toList
noncomputable def c8 (K:Frag) (H:Hp) (a:Addr) (xs:List V):Prop :=
 Rd H a (.tup xs) \/
  ∃ (o:Obj) (its:Array Value) (n:Nat),K.lookup a=some o/\o.cls=.type "tuple" /\ o.data=.seq its n/\its.size<=sizeLine/\aL xs its.toList
noncomputable def il:Value->Option V
 | .none=>some .non
 | .bool b=>some (.bl b)
 | .int i _=>some (.int i)
 | .str x _=>some (.str x)
 | .bytes b _=>some (.byt b)
 | .float b _=>some (.flt b)
 | .ref a=>some (.ref a)
 | .type n=>some (.ty n)
 | _=>none
theorem RelV.abs {x:V}{u:Value} (r:RelV x u):il u=some x:=by
 cases x with
 | non=>cases r; rfl
 | bl _=>cases r; rfl
 | int _=>obtain ⟨t,rfl⟩:=r; rfl
 | str _=>obtain ⟨t,rfl⟩:=r; rfl
 | byt _=>obtain ⟨t,rfl⟩:=r; rfl
 | flt _=>obtain ⟨t,rfl⟩:=r; rfl
 | ref _=>cases r; rfl
 | ty _=>cases r; rfl
theorem RelV.inj {x y:V}{u:Value} (r:RelV x u) (q:RelV y u):x=y:=Option.some.inj (r.abs.symm.trans q.abs)
theorem aL.inj:∀ {xs ys:List V}{us:List Value},aL xs us->aL ys us->xs=ys
 | _,_,_,.nil,.nil=>rfl
 | _,_,_,.cons r t,.cons r' t'=>by rw [r.inj r',aL.inj t t']
section
variable {X:Cx}{pins:List (Addr×Obj)}{σ:St}{H:Hp}{s:Shared}{a:Addr}{xs ys:List V}
theorem a9.of {K:Frag} (h:H a=some (.lst xs)):a9 K H a xs:=.inl (.inl h)
theorem c8.of {K:Frag} (h:H a=some (.tup xs)):c8 K H a xs:=.inl (.inl h)
theorem Inv.list (I:Inv X pins σ H s) (h:a9 X.K H a xs):∃ its:List Value,aL xs its/\PlainL s.heap a its.toArray/\xs.length<=sizeLine:=by
 rcases h with h | ⟨o,its,n,hk,hc,hd,hs,hz,r⟩
 ·obtain ⟨z,its,n,r,e⟩:=h.ok I.hok
  exact ⟨its,r,⟨_,n,e,rfl,rfl,rfl⟩,z⟩
 ·refine ⟨its.toList,r,⟨o,n,I.kIn a o hk,hc,hd,by simpa using hs⟩,?_⟩
  have e:=r.length;simp only [Array.length_toList] at e;omega
theorem Inv.tuple (I:Inv X pins σ H s) (h:c8 X.K H a xs):∃ its:List Value,aL xs its/\IsTup s.heap a its.toArray/\xs.length<=sizeLine:=by
 rcases h with h | ⟨o,its,n,hk,hc,hs,hz,r⟩
 ·obtain ⟨z,its,r,p⟩:=h.ok I.hok
  exact ⟨its,r,p,z⟩
 ·refine ⟨its.toList,r,⟨o,I.kIn a o hk,hc,n,by simpa using hs⟩,?_⟩
  have e:=r.length;simp only [Array.length_toList] at e;omega
theorem Inv.list_inj (I:Inv X pins σ H s) (h:a9 X.K H a xs) (h':a9 X.K H a ys):xs=ys:=by
 obtain ⟨its,r,⟨o,n,e,_,_,d⟩,_⟩:=I.list h;obtain ⟨its',r',⟨o',n',e',_,_,d'⟩,_⟩:=I.list h';rw [e] at e'; cases e';rw [d] at d'
 injection d' with d1 _
 have:its=its':=by simpa using congrArg Array.toList d1
 subst this;exact r.inj r'
end
abbrev Cx.wish (X:Cx) (E:Value->Shared->Prop):Cx:={ X with xe:=E }
abbrev Cx.nox (X:Cx):Cx:=X.wish fun _ _=>False
theorem Cx.Ok.wish {X:Cx} (ok:X.Ok) (E:Value->Shared->Prop):(X.wish E).Ok :=
 ⟨ok.mod,ok.kind,ok.glob,ok.blt,ok.above,ok.inj,ok.has,ok.cab,ok.hd,ok.frames,ok.stk,ok.exf,ok.bs,ok.bsz,ok.noex,ok.exfs,ok.funs,ok.frf⟩
theorem Cx.Ok.unwish {X:Cx}{E:Value->Shared->Prop} (ok:(X.wish E).Ok):X.Ok :=
 ⟨ok.mod,ok.kind,ok.glob,ok.blt,ok.above,ok.inj,ok.has,ok.cab,ok.hd,ok.frames,ok.stk,ok.exf,ok.bs,ok.bsz,ok.noex,ok.exfs,ok.funs,ok.frf⟩
section
variable {X:Cx}{pins:List (Addr×Obj)}{σ:St}{H:Hp}{s:Shared}{E:Value->Shared->Prop}
theorem Inv.wish (I:Inv X pins σ H s) (E:Value->Shared->Prop):Inv (X.wish E) pins σ H s:=⟨I.ok.wish E,I.os,I.bare,I.base,I.loc,I.cell,I.free,I.freeC,I.pin,I.hok,I.len⟩
theorem Inv.unwish (I:Inv (X.wish E) pins σ H s):Inv X pins σ H s:=⟨I.ok.unwish,I.os,I.bare,I.base,I.loc,I.cell,I.free,I.freeC,I.pin,I.hok,I.len⟩
theorem SP.unwish {D:Ends}{f:Flow}{s':Shared} (h:SP (X.wish E) pins D f s'):SP X pins D f s':=by
 cases f with
 | next=>obtain ⟨σ',H',I,q⟩:=h; exact ⟨σ',H',I.unwish,q⟩
 | brk=>obtain ⟨σ',H',I,q⟩:=h; exact ⟨σ',H',I.unwish,q⟩
 | cont=>obtain ⟨σ',H',I,q⟩:=h; exact ⟨σ',H',I.unwish,q⟩
 | ret u=>obtain ⟨v,σ',H',I,r,q⟩:=h; exact ⟨v,σ',H',I.unwish,r,q⟩
theorem gI.nox {st:List Stmt}{t:TS} (h:gI X.nox st t):gI X st t:=fun pins s σ H D I hw =>
 wpAny_mono (h pins s σ H D (I.wish _) hw) (fun _ _ q=>q.unwish) fun _ _ z=>False.elim z
end
section
variable {X:Cx}{st:Stmt}{rest:List Stmt}{t u:TS}{e:Expr}{te:TE}{pos:Pos}
noncomputable def Ab:TS:=fun D σ H=>D.nx σ H
noncomputable def ux (t u:TS):TS:=fun D σ H=>t { D with nx:=u D } σ H
theorem ay:gI X [] Ab:=fun _ _ σ H _ I h=>wpAny_execs_nil ⟨σ,H,I,h⟩
theorem af (h1:PS X st t) (h2:gI X rest u):gI X (st :: rest) (ux t u):=by
 intro pins s σ H D I h;refine wpAny_execs_cons (bE (h1 pins s σ H { D with nx:=u D } I h) fun f s1 q=>?_);cases f with
 | next =>
  obtain ⟨σ',H',I',q⟩:=q;exact h2 pins s1 σ' H' D I' q
 | ret v=>exact q
 | brk=>exact q
 | cont=>exact q
theorem ak (h1:PS X st t):gI X [st] t:=by
 intro pins s σ H D I h;refine wpAny_execs_cons (bE (h1 pins s σ H D I h) fun f s1 q=>?_);cases f with
 | next=>exact wpAny_execs_nil q
 | ret v=>exact q
 | brk=>exact q
 | cont=>exact q
noncomputable def CI:TS:=fun D σ H=>D.ct σ H
theorem qN:PS X (.Continue pos) CI:=fun _ _ σ H _ I h=>wpAny_Continue ⟨σ,H,I,h⟩
theorem Inv.quiet {pins:List (Addr×Obj)}{σ:St}{H:Hp}{s:Shared} (I:Inv X pins σ H s):interactive X.env=false:=by simp [interactive,I.ok.kind]
noncomputable def kD (te:TE):TS:=fun D σ H=>te σ H fun _ H1=>D.nx σ H1
theorem aO (he:PE X e te) (hs:swapsWith e none pos.line X.env=pure false:=by rfl):PS X (.Expr e pos) (kD te):=by
 intro pins s σ H D I h;exact wpAny_Expr_any (bE (he pins s σ H _ I h) fun v s1 ⟨x,H1,I1,r1,q1⟩=>⟨σ,H1,I1,q1⟩) I.quiet hs
noncomputable def Dy (te:TE):TS:=fun D σ H=>te σ H D.rt
theorem au (he:PE X e te):PS X (.Return (some e) pos) (Dy te):=by
 intro pins s σ H D I h;exact wpAny_Return_some (bE (he pins s σ H _ I h) fun v s1 ⟨x,H1,I1,r1,q1⟩=>⟨x,σ,H1,I1,r1,q1⟩)
noncomputable def CF:TS:=fun D _ H=>D.rt .non H
theorem yU:PS X (.Return none pos) CF:=fun _ _ σ H _ I h=>wpAny_Return_none ⟨.non,σ,H,I,rfl,h⟩
noncomputable def Ax (c:TT) (t u:TS):TS:=fun D σ H=>c σ H fun b H1=>if b=true then t D σ H1 else u D σ H1
theorem aQ {c:Expr}{a b:List Stmt}{tc:TT} (hc:PT X c tc) (ha:gI X a t) (hb:gI X b u):PS X (.If c a b pos) (Ax tc t u):=by
 intro pins s σ H D I h;refine wpAny_If (bE (hc pins s σ H _ I h) fun d s1 ⟨H1,I1,q1⟩=>?_);cases d with
 | true=>exact ha pins s1 σ H1 D I1 q1
 | false=>exact hb pins s1 σ H1 D I1 q1
noncomputable def AO:TS:=fun _ _ _=>False
theorem uU {sts:List Stmt}:gI X sts AO:=fun _ _ _ _ _ _ h=>h.elim
end
abbrev TG:=V->St->Hp->(St->Hp->Prop)->Prop
abbrev Av:=List V->St->Hp->(St->Hp->Prop)->Prop
noncomputable def PG (X:Cx) (target:Expr) (t:TG):Prop :=
 ∀ (pins:List (Addr×Obj)) (s:Shared) (σ:St) (H:Hp) (v:V) (u:Value) (Q:St->Hp->Prop),Inv X pins σ H s->RelV v u->t v σ H Q ->
  wpAny (model X.prog X.w) X.A (assign target X.env u) (fun _ s'=>∃ σ' H',Inv X pins σ' H' s'/\Q σ' H') X.xe s
noncomputable def Dh (X:Cx) (ts:List Expr) (t:Av):Prop :=
 ∀ (pins:List (Addr×Obj)) (s:Shared) (σ:St) (H:Hp) (vs:List V) (us:List Value) (Q:St->Hp->Prop),Inv X pins σ H s->aL vs us->t vs σ H Q ->
  wpAny (model X.prog X.w) X.A (assignInOrder ((assignEach ts X.env).map (·.2)) us) (fun _ s'=>∃ σ' H',Inv X pins σ' H' s'/\Q σ' H') X.xe s
abbrev Dg:=V->V->Hp->VK->Prop
noncomputable def D7 (X:Cx) (op:Operator) (t:Dg):Prop :=
 ∀ (pins:List (Addr×Obj)) (s:Shared) (σ:St) (H:Hp) (x y:V) (v u:Value) (Q:VK),Inv X pins σ H s->RelV x v->RelV y u->t x y H Q ->
  wpAny (model X.prog X.w) X.A (inplaceOp op v u) (EP X pins σ Q) X.xe s
section
variable {X:Cx}{pos:Pos}
noncomputable def kF (i:Nat):TG:=fun v σ H Q=>Q (σ.set i (some v)) H
theorem tZ {i:Nat}{x:Str} (hN:X.N.Nodup) (hi:X.N[i]? = some x) (hx:yp X.env.scope x) (hf:X.fn x=true\/X.env.scope.names.lookup x=some .local:=by first | exact .inl rfl | exact .inr rfl | assumption):PG X (.Name x pos) (kF i):=by
 intro pins s σ H v u Q I r h;exact wpAny_assign_Name (kW I hN hi hx r (fun s' I'=>⟨_,H,I',h⟩) hf)
noncomputable def DS:Av:=fun vs σ H Q=>vs=[]/\Q σ H
noncomputable def C5 (t:TG) (u:Av):Av:=fun vs σ H Q=>∃ v r,vs=v :: r/\t v σ H fun σ' H'=>u r σ' H' Q
theorem iw:Dh X [] DS:=by
 intro pins s σ H vs us Q I r h;obtain ⟨e,h⟩:=h;subst e;cases r;exact assignInOrder_nil ⟨σ,H,I,h⟩
theorem bU {e:Expr}{es:List Expr}{t:TG}{u:Av} (h1:PG X e t) (h2:Dh X es u)
  (hs:(assignEach (e :: es) X.env).map (·.2)=assign e X.env :: (assignEach es X.env).map (·.2):=by rfl):Dh X (e :: es) (C5 t u):=by
 intro pins s σ H vs us Q I r h;obtain ⟨v,vr,e1,h⟩:=h;subst e1;cases r with
 | cons r rr =>
  rw [hs];refine assignInOrder_cons (bE (h1 pins s σ H _ _ _ I r h) fun _ s1 ⟨σ1,H1,I1,q1⟩=>?_);exact h2 pins s1 σ1 H1 _ _ Q I1 rr q1
noncomputable def DR (K:Frag) (n:Nat) (t:Av):TG:=fun v σ H Q=>∃ a xs,v=.ref a/\c8 K H a xs/\xs.length=n/\t xs σ H Q
theorem kJ {es:List Expr}{k:Nat}{t:Av}{n:Nat} (hc:X.calm=true) (h:Dh X es t)
  (hn:(assignEach es X.env).length=n:=by rfl) (hst:(assignEach es X.env).findIdx? (·.1)=none:=by rfl):PG X (.Tuple es k pos) (DR X.K n t):=by
 intro pins s σ H v u Q I r hw;obtain ⟨a,xs,e1,hq,hl,hw⟩:=hw;subst e1;cases r;obtain ⟨its,rv,ht,hz⟩:=I.tuple hq;refine assign_Tuple_tuple (I.ok.hd hc) ht (by simp [hn,<- hl,rv.length]) hst fun h' hx=>?_;have I1:Inv X pins σ H { s with heap:=h' }:=I.kept (t':=s.toks) fun b o e=>hx b o (Nat.ne_of_lt (Heap.lt_size e)) e;exact h pins _ σ H xs _ Q I1 (by simpa using rv) hw
noncomputable def Ay (te:TE) (g:TG):TS:=fun D σ H=>te σ H fun x H1=>g x σ H1 D.nx
theorem Bc {i:Nat}{x:Str}{e:Expr}{te:TE}{pos':Pos} (hN:X.N.Nodup) (hi:X.N[i]? = some x) (hx:yp X.env.scope x) (he:PE X e te) (hs:swapsWith e (some (.Name x pos')) pos.line X.env=pure false:=by rfl) (hf:X.fn x=true\/X.env.scope.names.lookup x=some .local:=by first | exact .inl rfl | exact .inr rfl | assumption) :
  PS X (.Assign [.Name x pos'] e pos) (Ay te (kF i)):=by
 intro pins s σ H D I h;refine wpAny_Assign_Name (bE (he pins s σ H _ I h) fun v s1 ⟨y,H1,I1,r1,q1⟩=>?_) hs;exact kW I1 hN hi hx r1 (fun s2 I2=>⟨_,H1,I2,q1⟩) hf
noncomputable def DE (i:Nat) (te:TE) (ti:Dg):TS:=fun D σ H=>∃ x,σ[i]? = some (some x)/\te σ H fun y H1=>ti x y H1 fun z H2=>D.nx (σ.set i (some z)) H2
theorem Bf {i:Nat}{x:Str}{e:Expr}{te:TE}{op:Operator}{ti:Dg}{pos':Pos} (hN:X.N.Nodup) (hi:X.N[i]? = some x) (hx:yp X.env.scope x) (he:PE X e te) (ho:D7 X op ti) (hf:X.fn x=true\/X.env.scope.names.lookup x=some .local:=by first | exact .inl rfl | exact .inr rfl | assumption) :
  PS X (.AugAssign (.Name x pos') op e pos) (DE i te ti):=by
 intro pins s σ H D I h;obtain ⟨v,e1,h⟩:=h;obtain ⟨m,hn,hl⟩:=I.loc;have vis:De X.env.scope x:=by rcases hx with k | k; exact .inl k; exact .inr (.inl k)
 obtain ⟨u,r,l⟩:=hl i x v hi e1 vis;refine wpAny_AugAssign_Name ?_;have go:wpAny (model X.prog X.w) X.A (eval e X.env) (fun w s₂=>wpAny (model X.prog X.w) X.A (inplaceOp op u w) (fun r s₃=>wpAny (model X.prog X.w) X.A (storeName X.env x r) (fun _=>SP X pins D .next) X.xe s₃) X.xe s₂) X.xe s:=by
  refine bE (he pins s σ H _ I h) fun w s1 ⟨y,H1,I1,r1,q1⟩=>?_;refine bE (ho pins s1 σ H1 v y u w _ I1 r r1 q1) fun z s2 ⟨zv,H2,I2,r2,q2⟩=>?_;exact kW I2 hN hi hx r2 (fun s3 I3=>⟨_,H2,I3,q2⟩) hf
 rcases l with ⟨hk,hm⟩ | ⟨hk,c,hc,hcell⟩
 ·exact wpAny_loadName_local I.ok.kind hk hn hm go
 ·rcases hk with hk | hk
  ·exact wpAny_loadName_cell I.ok.kind hk hc hcell go
  ·rcases hx with k | k
   ·have:X.env.scope.names.lookup x=some .free:=hk
    rw [k] at this; cases this
   ·have:X.env.scope.names.lookup x=some .free:=hk
    rw [k] at this; cases this
noncomputable def Ei (f:Int->Int->Int):Dg:=fun x y H Q=>∃ i j,x=.int i/\y=.int j/\Q (.int (f i j)) H
theorem BB:D7 X .Add (Ei fun i j=>i+j):=by
 intro pins s σ H x y v u Q I r1 r2 h;obtain ⟨i,j,e1,e2,q⟩:=h;subst e1; subst e2;obtain ⟨t,rfl⟩:=r1;obtain ⟨t',rfl⟩:=r2;exact iadd_int ⟨.int _,H,I.tok _,⟨_,rfl⟩,q⟩
end
section
variable {X:Cx}{pos:Pos}
noncomputable def AM (c:TT) (tb:TS):TS:=fun D σ H=>∃ W:Nat->St->Hp->Prop,(∃ m,W m σ H)/\∀ m σ H,W m σ H ->
 c σ H fun b H1=>if b=true then ∃ N:St->Hp->Prop,(∀ σ' H',N σ' H'->∃ m',m' < m/\W m' σ' H')/\tb { D with nx:=N,ct:=N,bk:=D.nx } σ H1 else D.nx σ H1
theorem qq {c:Expr}{body:List Stmt}{tc:TT}{tb:TS} (hp:PassesOwn (model X.prog X.w) X.A X.env X.xe) (hc:PT X c tc) (hb:gI X body tb):PS X (.While c body [] pos) (AM tc tb):=by
 intro pins s σ H D I h;obtain ⟨W,⟨m0,w0⟩,turn⟩:=h;refine wpAny_While (codeAny_whileLoop (fun n s'=>∃ σ' H',Inv X pins σ' H' s'/\W n σ' H') ?_ m0 ⟨σ,H,I,w0⟩);rintro n s1 ⟨σ1,H1,I1,w1⟩;refine wpAny_passesOwn hp (bE (hc pins s1 σ1 H1 _ I1 (turn n σ1 H1 w1)) fun b s2 ⟨H2,I2,q2⟩=>?_);cases b with
 | true =>
  obtain ⟨N,hN,q2⟩:=q2;rw [if_pos rfl];refine wpAny_passesOwn hp (bE (hb pins s2 σ1 H2 _ I2 q2) fun f s3 q3=>?_);cases f with
  | next =>
   obtain ⟨σ3,H3,I3,n3⟩:=q3;obtain ⟨m',hm,w3⟩:=hN σ3 H3 n3;exact ⟨m',hm,σ3,H3,I3,w3⟩
  | cont =>
   obtain ⟨σ3,H3,I3,n3⟩:=q3;obtain ⟨m',hm,w3⟩:=hN σ3 H3 n3;exact ⟨m',hm,σ3,H3,I3,w3⟩
  | brk=>exact q3
  | ret v=>exact q3
 | false =>
  rw [if_neg Bool.false_ne_true];exact wpAny_execs_nil ⟨σ1,H2,I2,q2⟩
end
structure It where
 go:Nat->Hp->Prop
 yld:Nat->Hp->V->Hp->Prop
 stop:Nat->Hp->Prop
noncomputable def FpOk (X:Cx) (pins:List (Addr×Obj)) (H:Hp) (b:Addr):Prop :=
 H b=none/\b≠X.env.locals/\b∉X.fs/\(b∈X.ex\/X.s₀.heap.objs.size<=b)/\(∀ x c,X.env.cells.lookup x=some c->c≠b)/\∀ p∈X.pn++pins,p.1≠b
theorem Inv.fpOk {X:Cx}{pins:List (Addr×Obj)}{σ:St}{H H':Hp}{s:Shared}{b:Addr} (I:Inv X pins σ H s) (hb:s.heap.objs.size<=b) (hn:H' b=none):FpOk X pins H' b:=by
 refine ⟨hn,Nat.ne_of_gt (Nat.lt_of_lt_of_le I.lt hb),I.nofs hb,.inr (Nat.le_trans I.sz hb),fun x c e z=>?_,fun p hp z=>?_⟩
 ·obtain ⟨v,q⟩:=I.cell x c e
  exact absurd (Nat.lt_of_lt_of_le q.lt (by rw [z]; exact hb)) (Nat.lt_irrefl _)
 ·exact absurd (Nat.lt_of_lt_of_le (Heap.lt_size (I.pin p hp).1) (by rw [z]; exact hb)) (Nat.lt_irrefl _)
structure Turn (P:Program) (w:World) (K:Frag) (tg:Expr) (J:It) (fp:List Addr) (it:Addr) (tn:Nat->Heap->Prop):Prop where
 mem:it∈fp
 obj:∀ i h,tn i h->∀ b∈fp,∃ o,h.get? b=some o/\∀ v,o.data≠.cell v
 keep:∀ i h h',tn i h->(∀ b∈fp,∀ o,h.get? b=some o->h'.get? b=some o)->tn i h'
 item:∀ (X:Cx),X.prog=P->X.w=w->X.K=K->X.calm=true->∀ (i:Nat) (pins:List (Addr×Obj)) (s:Shared) (σ:St) (H:Hp) (E:Value->Shared->Prop),Inv X pins σ H s->(∀ b∈fp,FpOk X pins H b)->tn i s.heap->J.go i H ->
  wpAny (model P w) X.A (pyNext (.ref it)) (fun r s1=>∃ u,r=some u /\
   wpAny (model P w) X.A (letOwnedTupleGo tg (.ref it) u) (fun _ s2=>∃ x H',Inv X pins σ H' s2/\RelV x u/\J.yld i H x H'/\tn (i+1) s2.heap/\∀ b∈fp,H' b=none) E s1) E s
 done:∀ (X:Cx),X.prog=P->X.w=w->X.K=K->X.calm=true->∀ (i:Nat) (pins:List (Addr×Obj)) (s:Shared) (σ:St) (H:Hp) (E:Value->Shared->Prop),Inv X pins σ H s->(∀ b∈fp,FpOk X pins H b)->tn i s.heap->J.stop i H ->
  wpAny (model P w) X.A (pyNext (.ref it)) (fun r s1=>r=none/\Inv X pins σ H s1) E s
 self:∀ (A:Around) (i:Nat) (s:Shared) (Q:Value->Shared->Prop) (E:Value->Shared->Prop),tn i s.heap->Q (.ref it) s->wpAny (model P w) A (pyIter (.ref it)) Q E s
abbrev TI:=St->Hp->(It->Hp->Prop)->Prop
noncomputable def D9 (X:Cx) (pins:List (Addr×Obj)) (σ:St) (tg:Expr) (R:It->Hp->Prop) (itv:Value) (s2:Shared):Prop :=
 ∃ (it:Addr) (fp:List Addr) (tn:Nat->Heap->Prop) (J:It) (H':Hp),itv=.ref it/\Inv X pins σ H' s2/\Turn X.prog X.w X.K tg J fp it tn/\tn 0 s2.heap/\(∀ b∈fp,FpOk X pins H' b)/\R J H'
noncomputable def PI (X:Cx) (tg iter:Expr) (wi:TI):Prop :=
 ∀ (pins:List (Addr×Obj)) (s:Shared) (σ:St) (H:Hp) (R:It->Hp->Prop),Inv X pins σ H s->wi σ H R ->
  wpAny (model X.prog X.w) X.A (eval iter X.env) (fun v s1=>wpAny (model X.prog X.w) X.A (pyIter v) (D9 X pins σ tg R) X.xe s1) X.xe s
theorem vU {M:Model}{A:Around}{E:Value->Shared->Prop}{s:Shared}{tg:Expr}{it:Addr}{u:Value}{o:Obj}{n:String}{vs:Array Value}{Q:Unit->Shared->Prop} (ho:s.heap.get? it=some o) (hc:o.cls=.type n) (hd:o.data=.fields vs)
  (hn:["enumerate","zip","dict_itemiterator","dict_reverseitemiterator","odict_iterator","itertools.zip_longest","itertools.pairwise"].contains n=false) (hQ:Q () s):wpAny M A (letOwnedTupleGo tg (.ref it) u) Q E s:=by
 unfold letOwnedTupleGo;cases tg<;>first
  | exact wpAny_pure hQ
  | (cases u<;>first
    | exact wpAny_pure hQ
    | (refine wpAny_bind (wpAny_load ho ?_); rw [hc,hd]; show wpAny M A (if (["enumerate","zip","dict_itemiterator","dict_reverseitemiterator","odict_iterator","itertools.zip_longest","itertools.pairwise"].contains n&&vs[0]? == some (rawInt _))=true then _ else _) Q E s; rw [if_neg (by intro h; rw [hn,Bool.false_and] at h; cases h)]; exact wpAny_pure hQ))
noncomputable def zV (K:Frag) (a:Addr):It :=
 ⟨fun i H=>∃ xs x,a9 K H a xs/\xs[i]? = some x,fun i H x H'=>H'=H/\∀ xs,a9 K H a xs->xs[i]? = some x,fun i H=>∃ xs,a9 K H a xs/\xs.length<=i⟩
noncomputable def yq (lo:Int) (n:Nat):It:=⟨fun i _=>i < n,fun i H x H'=>H'=H/\x=.int (lo+i),fun i _=>n<=i⟩
theorem uH {P:Program}{w:World}{K:Frag}{tg:Expr} (a it:Addr):Turn P w K tg (zV K a) [it] it (fun i h=>h.IsListIter it a i) where
 mem:=by simp
 obj:=fun i h st b hb=>by
  have e:b=it:=by simpa using hb
  subst e;obtain ⟨o,e,c,d⟩:=st;exact ⟨o,e,fun v z=>by rw [d] at z; cases z⟩
 keep:=fun i h h' st k=>st.at fun o e=>k it (by simp) o e
 item:=by
  intro X hP hw hK hc i pins s σ H E I hf st hg;subst hP hw hK;obtain ⟨xs,x,hq,hx⟩:=hg;obtain ⟨its,rv,p,hz⟩:=I.list hq;obtain ⟨u,hu,ru⟩:=rv.get hx;obtain ⟨f0,f1,f2,f3,f4,f5⟩:=hf it (by simp);refine wpAny_pyNext_list_item st p.isList (x:=u) (by simpa using hu) fun h' st' sb=>?_;have I1:Inv X pins σ H { s with heap:=h' }:=I.turned (t':=s.toks) (fun b o hb e=>(sb.2 b hb).trans e) f0 f1 f3 f4 f5;obtain ⟨o,e,c,d⟩:=id st';exact ⟨u,rfl,vU (s:={ s with heap:=h' }) e c d (by decide) ⟨x,H,I1,ru,⟨rfl,fun ys hy=>by rw [I.list_inj hy hq]; exact hx⟩,st',fun b hb=>(hf b hb).1⟩⟩
 done:=by
  intro X hP hw hK hc i pins s σ H E I hf st hg;subst hP hw hK;obtain ⟨xs,hq,hx⟩:=hg;obtain ⟨its,rv,p,hz⟩:=I.list hq;obtain ⟨f0,f1,f2,f3,f4,f5⟩:=hf it (by simp);have hl:=rv.length;exact wpAny_pyNext_list_end (I.ok.hd hc) st p.isList (by simp; omega) fun h' eb=>⟨rfl,I.turned (t':=s.toks) (fun b o hb e=>eb b o hb e) f0 f1 f3 f4 f5⟩
 self:=fun _ _ _ _ _ st h=>wpAny_pyIter_listiter st h
theorem rV {P:Program}{w:World}{K:Frag}{tg:Expr} (it:Addr) (lo:Int) (n:Nat):Turn P w K tg (yq lo n) [it] it (fun i h=>IsRangeIter h it (lo+(i:Nat) * 1) ((n:Int) - (i:Nat)) 1) where
 mem:=by simp
 obj:=fun i h st b hb=>by
  have e:b=it:=by simpa using hb
  subst e;exact ⟨_,st,fun v z=>by
   have z':Data.fields _=Data.cell v:=z;cases z'⟩
 keep:=fun i h h' st k=>k it (by simp) _ st
 item:=by
  intro X hP hw hK hc i pins s σ H E I hf st hg;subst hP hw hK;obtain ⟨f0,f1,f2,f3,f4,f5⟩:=hf it (by simp);have W:=Walks.range (prog:=X.prog) (w:=X.w) (I.ok.hd hc) it lo 1 n;refine W.item i s _ _ hg st fun v h' tk hv st' kk=>?_;obtain ⟨t,rfl⟩:=hv;have I1:Inv X pins σ H { s with heap:=h',toks:=tk }:=I.turned (fun b o hb e=>kk b o (by simpa using hb) e) f0 f1 f3 f4 f5;refine ⟨_,rfl,vU (s:={ s with heap:=h',toks:=tk }) (n:="range_iterator") st' rfl rfl (by decide) ⟨.int (lo+i),H,I1,⟨t,?_⟩,⟨rfl,rfl⟩,st',fun b hb=>(hf b hb).1⟩⟩;rw [Int.mul_one]
 done:=by
  intro X hP hw hK hc i pins s σ H E I hf st hg;subst hP hw hK;obtain ⟨f0,f1,f2,f3,f4,f5⟩:=hf it (by simp);exact wpAny_pyNext_range_end (I.ok.hd hc) st (by have:n<=i:=hg; omega) fun h' eb=>⟨rfl,I.turned (t':=s.toks) (fun b o hb e=>eb b o hb e) f0 f1 f3 f4 f5⟩
 self:=fun _ _ _ _ _ st h=>wpAny_pyIter_rangeiter st h
section
variable {X:Cx}{tg:Expr}
noncomputable def C3 (K:Frag) (tl:TE):TI:=fun σ H R=>tl σ H fun x H1=>∃ a,x=.ref a/\(∃ xs,a9 K H1 a xs)/\R (zV K a) H1
theorem ck {l:Expr}{tl:TE} (hl:PE X l tl):PI X tg l (C3 X.K tl):=by
 intro pins s σ H R I h;refine bE (hl pins s σ H _ I h) fun v s1 ⟨x,H1,I1,r1,q1⟩=>?_;obtain ⟨a,e,⟨xs,hq⟩,q⟩:=q1;subst e;cases r1;obtain ⟨its,rv,p,hz⟩:=I1.list hq;refine wpAny_pyIter_list p.isList ?_;refine ⟨s1.heap.objs.size,[s1.heap.objs.size],_,_,H1,rfl,I1.kept (t':=s1.toks) fun b o e=>Heap.get?_push_of_some _ e,uH a _,⟨_,Heap.get?_push_size _ rfl,rfl,rfl⟩,fun b hb=>?_,q⟩;have e:b=s1.heap.objs.size:=by simpa using hb
 subst e;exact I1.fpOk (Nat.le_refl _) (I1.hok.fresh (Nat.le_refl _))
theorem xh {pins:List (Addr×Obj)}{σ:St}{H:Hp}{s:Shared}{R:It->Hp->Prop}{E:Value->Shared->Prop}{lo hi:Int}{t u v:Tok}{tk:Nat} (I:Inv X pins σ H s) (h1:-(2 ^ 62)<=lo) (h2:lo < 2 ^ 62) (h3:-(2 ^ 62)<=hi) (h4:hi < 2 ^ 62)
  (q:R (yq lo (hi - lo).toNat) H):wpAny (model X.prog X.w) X.A (pyIter (.ref s.heap.objs.size)) (D9 X pins σ tg R) E { s with heap:=s.heap.push { cls:=.type "range",data:=.fields #[.int lo t,.int hi u,.int 1 v] },toks:=tk }:=by
 refine wpAny_pyIter_range (IsRange.new ..) (small_one h1 h2 h3 h4) ?_;have I1:Inv X pins σ H { s with heap:=s.heap.push { cls:=.type "range",data:=.fields #[.int lo t,.int hi u,.int 1 v] },toks:=tk }:=I.kept fun b o e=>Heap.get?_push_of_some _ e;refine ⟨(s.heap.push { cls:=.type "range",data:=.fields #[.int lo t,.int hi u,.int 1 v] }).objs.size,[(s.heap.push { cls:=.type "range",data:=.fields #[.int lo t,.int hi u,.int 1 v] }).objs.size],_,_,H,rfl,
  I1.kept (t':=tk) fun b o e=>Heap.get?_push_of_some _ e,rV _ lo (hi - lo).toNat,?_,fun b hb=>?_,q⟩
 ·have e1:lo+((0:Nat):Int) * 1=lo:=by simp
  have e2:(((hi - lo).toNat:Nat):Int) - ((0:Nat):Int)=Builtin.Range.rangeSize lo hi 1:=by rw [rangeSize_one]; split<;>omega
  show IsRangeIter _ _ (lo+((0:Nat):Int) * 1) ((((hi - lo).toNat:Nat):Int) - ((0:Nat):Int)) 1;rw [e1,e2];exact Heap.get?_push_size _ rfl
 ·have e:b=(s.heap.push { cls:=.type "range",data:=.fields #[.int lo t,.int hi u,.int 1 v] }).objs.size:=by simpa using hb
  subst e;exact I1.fpOk (Nat.le_refl _) (I1.hok.fresh (Nat.le_refl _))
noncomputable def C2 (ta:TA):TI:=fun σ H R=>ta σ H fun vs H1=>∃ j:Int,vs=[.int j] /\ -(2 ^ 62)<=j/\j < 2 ^ 62/\R (yq 0 j.toNat) H1
theorem bP {a:Expr}{ta:TA}{p pos:Pos} (hg:Gl X "range") (hm:X.mg "range" = none) (ha:PA X [a] ta) (hs:starEach [a] X.env=[(false,eval a X.env)]:=by rfl):PI X tg (.Call (.Name "range" p) [a] [] pos) (C2 ta):=by
 intro pins s σ H R I h;refine Call_ (i5 I hg hm boot_range (PyProof.Rows.callWith_type1 (bE (ha pos pins s σ H _ I h) fun us s1 ⟨vs,H1,I1,r1,q1⟩=>?_) hs rfl));obtain ⟨j,e,q1,q2,q⟩:=q1;subst e;cases r1 with
 | cons r rr =>
  cases rr;obtain ⟨t,rfl⟩:=r;exact call_range_1 (xh I1 (by omega) (by omega) q1 q2 (by simpa using q))
noncomputable def DC (wi:TI) (g:TG) (tb:TS):TS:=fun D σ H=>wi σ H fun J H1=>∃ W:Nat->Nat->St->Hp->Prop,(∃ m,W 0 m σ H1)/\∀ i m σ H,W i m σ H ->
 (J.stop i H/\D.nx σ H)\/(J.go i H/\∃ N:St->Hp->Prop,(∀ σ' H',N σ' H'->∃ m',m' < m/\W (i+1) m' σ' H')/\∀ x H',J.yld i H x H'->g x σ H' fun σ2 H2=>tb { D with nx:=N,ct:=N,bk:=D.nx } σ2 H2)
noncomputable def i3 (fp:List Addr) (h:Heap):List (Addr×Obj):=fp.filterMap fun b=>(h.get? b).map fun o=>(b,o)
theorem fU {fp:List Addr}{h:Heap}{b:Addr}{o:Obj} (hb:b∈fp) (e:h.get? b=some o):(b,o)∈i3 fp h:=List.mem_filterMap.mpr ⟨b,hb,by rw [e]; rfl⟩
theorem u5 {fp:List Addr}{h:Heap}{p:Addr×Obj} (hp:p∈i3 fp h):p.1∈fp/\h.get? p.1=some p.2:=by
 obtain ⟨b,hb,e⟩:=List.mem_filterMap.mp hp;cases q:h.get? b with
 | none=>rw [q] at e; cases e
 | some o =>
  rw [q] at e;have e':(b,o)=p:=Option.some.inj e;subst e';exact ⟨hb,q⟩
theorem Inv.pinned {pins:List (Addr×Obj)}{σ:St}{H:Hp}{s:Shared}{fp:List Addr} (I:Inv X pins σ H s) (hf:∀ b∈fp,FpOk X pins H b) (ho:∀ b∈fp,∃ o,s.heap.get? b=some o/\∀ v,o.data≠.cell v):Inv X (pins++i3 fp s.heap) σ H s :=
 I.pins_of fun p hp=>(List.mem_append.mp hp).elim (fun z=>I.pin p (List.mem_append_right _ z)) fun z=>by
  obtain ⟨hb,e⟩:=u5 z;obtain ⟨f0,f1,f2,_⟩:=hf p.1 hb;obtain ⟨o,e',d⟩:=ho p.1 hb;rw [e] at e'; cases e';exact ⟨e,f0,f1,f2,d⟩
theorem Inv.unpinned {pins pl:List (Addr×Obj)}{σ:St}{H:Hp}{s:Shared} (I:Inv X (pins++pl) σ H s):Inv X pins σ H s:=I.pins_of fun p hp=>I.pin p (List.mem_append_right _ (List.mem_append_left _ hp))
theorem bO {iter:Expr}{body:List Stmt}{wi:TI}{g:TG}{tb:TS}{pos:Pos} (hp:PassesOwn (model X.prog X.w) X.A X.env X.xe) (hc:X.calm=true) (hi:PI X tg iter wi) (hg:PG X tg g) (hb:gI X body tb)
  (hs:∀ x,foldedSetIterable iter X.env x=pure x:=by intro _; rfl):PS X (.For tg iter body [] pos) (DC wi g tb):=by
 intro pins s σ H D I h;refine wpAny_For (bE (hi pins s σ H _ I h) fun v s1 h1=>bE h1 fun itv s2 h2=>?_) hs;obtain ⟨it,fp,tn,J,H2,e,I2,T,st2,f2,W,⟨m0,w0⟩,turn⟩:=h2;subst e;have stat:∀ {H':Hp},(∀ b∈fp,H' b=none)->∀ b∈fp,FpOk X pins H' b:=fun hn b hb=>⟨hn b hb,(f2 b hb).2⟩;refine codeAny_forLoop_any (fun n s'=>∃ i σ' H',Inv X pins σ' H' s'/\tn i s'.heap/\(∀ b∈fp,H' b=none)/\W i n σ' H') ?_ m0 ⟨0,σ,H2,I2,st2,fun b hb=>(f2 b hb).1,w0⟩;rintro n s3 ⟨i,σ3,H3,I3,st3,fr3,w3⟩;rcases turn i n σ3 H3 w3 with ⟨stop,qn⟩ | ⟨go,N,hN,step⟩
 ·refine wpAny_passesOwn hp (bE (T.done X rfl rfl rfl hc i pins s3 σ3 H3 X.xe I3 (stat fr3) st3 stop) fun r s4 ⟨hr,I4⟩=>?_)
  subst hr;exact wpAny_execs_nil ⟨σ3,H3,I4,qn⟩
 ·refine wpAny_passesOwn hp (bE (T.item X rfl rfl rfl hc i pins s3 σ3 H3 X.xe I3 (stat fr3) st3 go) fun r s4 ⟨u,hr,h4⟩=>?_)
  subst hr;refine wpAny_passesOwn hp (bE h4 fun _ s5 ⟨x,H5,I5,r5,y5,st5,fr5⟩=>?_);have I5':=I5.pinned (stat fr5) (T.obj _ _ st5);refine wpAny_passesOwn hp (bE (hg _ s5 σ3 H5 x u _ I5' r5 (step x H5 y5)) fun _ s6 ⟨σ6,H6,I6,q6⟩=>?_);refine wpAny_passesOwn hp (bE (hb _ s6 σ6 H6 _ I6 q6) fun f s7 q7=>?_);have again:∀ {σ7:St}{H7:Hp},Inv X (pins++i3 fp s5.heap) σ7 H7 s7->N σ7 H7->∃ m,m < n/\∃ i σ' H',Inv X pins σ' H' s7/\tn i s7.heap/\(∀ b∈fp,H' b=none)/\W i m σ' H':=fun {σ7 H7} I7 n7=>by
   obtain ⟨m',hm,w7⟩:=hN σ7 H7 n7;refine ⟨m',hm,i+1,σ7,H7,I7.unpinned,T.keep _ _ _ st5 fun b hb o e=>(I7.pin (b,o) (List.mem_append_right _ (List.mem_append_right _ (fU hb e)))).1,fun b hb=>?_,w7⟩;obtain ⟨o,e,d⟩:=T.obj _ _ st5 b hb;exact (I7.pin (b,o) (List.mem_append_right _ (List.mem_append_right _ (fU hb e)))).2.1
  cases f with
  | next=>obtain ⟨σ7,H7,I7,n7⟩:=q7; exact again I7 n7
  | cont=>obtain ⟨σ7,H7,I7,n7⟩:=q7; exact again I7 n7
  | brk=>obtain ⟨σ7,H7,I7,q7⟩:=q7; exact ⟨σ7,H7,I7.unpinned,q7⟩
  | ret v=>obtain ⟨x7,σ7,H7,I7,r7,q7⟩:=q7; exact ⟨x7,σ7,H7,I7.unpinned,r7,q7⟩
end
theorem dA {K:Frag}{a:Addr}{xs:List V}{g:TG}{tb:TS}{D:Ends}{σ:St}{H:Hp} (Pv:Nat->St->Hp->Prop) (h0:Pv 0 σ H) (hl:∀ i σ H,i<=xs.length->Pv i σ H->a9 K H a xs)
  (hs:∀ i x σ H,xs[i]? = some x->Pv i σ H->g x σ H fun σ2 H2=>tb { D with nx:=Pv (i+1),ct:=Pv (i+1),bk:=D.nx } σ2 H2) (hd:∀ σ H,Pv xs.length σ H->D.nx σ H) :
  ∃ W:Nat->Nat->St->Hp->Prop,(∃ m,W 0 m σ H)/\∀ i m σ H,W i m σ H ->
   ((zV K a).stop i H/\D.nx σ H)\/((zV K a).go i H/\∃ N:St->Hp->Prop,(∀ σ' H',N σ' H'->∃ m',m' < m/\W (i+1) m' σ' H')/\∀ x H',(zV K a).yld i H x H'->g x σ H' fun σ2 H2=>tb { D with nx:=N,ct:=N,bk:=D.nx } σ2 H2):=by
 refine ⟨fun i m σ H=>m=xs.length - i/\i<=xs.length/\Pv i σ H,⟨xs.length,by simp,Nat.zero_le _,h0⟩,?_⟩;rintro i m σ H ⟨rfl,hi,p⟩;have q:=hl i σ H hi p
 by_cases hlt:i < xs.length
 ·refine .inr ⟨⟨xs,xs[i],q,by simp [hlt]⟩,Pv (i+1),fun σ' H' p'=>⟨xs.length - (i+1),by omega,rfl,hlt,p'⟩,fun x H' y=>?_⟩
  obtain ⟨e,y⟩:=y;subst e;exact hs i x σ _ (y xs q) p
 ·have e:i=xs.length:=by omega
  subst e;exact .inl ⟨⟨xs,q,Nat.le_refl _⟩,hd σ H p⟩
theorem cq {lo:Int}{n:Nat}{g:TG}{tb:TS}{D:Ends}{σ:St}{H:Hp} (Pv:Nat->St->Hp->Prop) (h0:Pv 0 σ H)
  (hs:∀ i σ H,i < n->Pv i σ H->g (.int (lo+i)) σ H fun σ2 H2=>tb { D with nx:=Pv (i+1),ct:=Pv (i+1),bk:=D.nx } σ2 H2) (hd:∀ σ H,Pv n σ H->D.nx σ H) :
  ∃ W:Nat->Nat->St->Hp->Prop,(∃ m,W 0 m σ H)/\∀ i m σ H,W i m σ H ->
   ((yq lo n).stop i H/\D.nx σ H)\/((yq lo n).go i H/\∃ N:St->Hp->Prop,(∀ σ' H',N σ' H'->∃ m',m' < m/\W (i+1) m' σ' H')/\∀ x H',(yq lo n).yld i H x H'->g x σ H' fun σ2 H2=>tb { D with nx:=N,ct:=N,bk:=D.nx } σ2 H2):=by
 refine ⟨fun i m σ H=>m=n - i/\i<=n/\Pv i σ H,⟨n,by simp,Nat.zero_le _,h0⟩,?_⟩;rintro i m σ H ⟨rfl,hi,p⟩
 by_cases hlt:i < n
 ·refine .inr ⟨hlt,Pv (i+1),fun σ' H' p'=>⟨n - (i+1),by omega,rfl,hlt,p'⟩,fun x H' y=>?_⟩
  obtain ⟨e,y⟩:=y;subst e y;exact hs i σ _ hlt p
 ·have e:i=n:=by omega
  subst e;exact .inl ⟨Nat.le_refl _,hd σ H p⟩
abbrev R2:=V->V->Hp->VK->Prop
noncomputable def fz (X:Cx) (f:Value->Value->Sem Value) (r:R2):Prop :=
 ∀ (pins:List (Addr×Obj)) (s:Shared) (σ:St) (H:Hp) (x y:V) (v u:Value) (Q:VK),Inv X pins σ H s->RelV x v->RelV y u->r x y H Q ->
  wpAny (model X.prog X.w) X.A (f v u) (EP X pins σ Q) X.xe s
noncomputable def Df (X:Cx) (f:Value->Sem Value) (r:V->Hp->VK->Prop):Prop :=
 ∀ (pins:List (Addr×Obj)) (s:Shared) (σ:St) (H:Hp) (x:V) (v:Value) (Q:VK),Inv X pins σ H s->RelV x v->r x H Q ->
  wpAny (model X.prog X.w) X.A (f v) (EP X pins σ Q) X.xe s
noncomputable def bS (X:Cx) (f:Value) (r:List V->Hp->VK->Prop):Prop :=
 ∀ (pins:List (Addr×Obj)) (s:Shared) (σ:St) (H:Hp) (xs:List V) (us:List Value) (Q:VK),Inv X pins σ H s->aL xs us->r xs H Q ->
  wpAny (model X.prog X.w) X.A (call f us) (EP X pins σ Q) X.xe s
noncomputable def yk (r:R2) (ta tb:TE):TE:=fun σ H Q=>ta σ H fun x H1=>tb σ H1 fun y H2=>r x y H2 Q
noncomputable def Ed (r:V->Hp->VK->Prop) (ta:TE):TE:=fun σ H Q=>ta σ H fun x H1=>r x H1 Q
noncomputable def rI (C:Int->Int->Prop) (g:Int->Int->V):R2:=fun x y H Q=>∃ i j,x=.int i/\y=.int j/\C i j/\Q (g i j) H
noncomputable def zQ (g:Int->Int->V):R2:=fun x y H Q=>∃ i j,x=.int i/\y=.int j/\Q (g i j) H
noncomputable def rU (g:Int->V):V->Hp->VK->Prop:=fun x H Q=>∃ i,x=.int i/\Q (g i) H
section
variable {X:Cx}{a b c:Expr}{ta tb tc:TE}{pos:Pos}
theorem AH (ha:PE X a ta) (hb:PE X b tb) {pins:List (Addr×Obj)}{s:Shared}{σ:St}{H:Hp}{R:V->V->Hp->Prop} (I:Inv X pins σ H s)
  (h:ta σ H fun x H1=>tb σ H1 fun y H2=>R x y H2) {Q:Value->Shared->Prop}{f:Value->Value->Sem Value}
  (hf:∀ v u s2 x y H2,Inv X pins σ H2 s2->RelV x v->RelV y u->R x y H2->wpAny (model X.prog X.w) X.A (f v u) Q X.xe s2) :
  wpAny (model X.prog X.w) X.A (eval a X.env) (fun v s₁=>wpAny (model X.prog X.w) X.A (eval b X.env) (fun u s₂=>wpAny (model X.prog X.w) X.A (f v u) Q X.xe s₂) X.xe s₁) X.xe s:=by
 refine bE (ha pins s σ H _ I h) fun v s1 ⟨x,H1,I1,r1,q1⟩=>?_;refine bE (hb pins s1 σ H1 _ I1 q1) fun u s2 ⟨y,H2,I2,r2,q2⟩=>?_;exact hf v u s2 x y H2 I2 r1 r2 q2
theorem ar {op:Operator}{r:R2} (ho:fz X (binaryOp op) r) (ha:PE X a ta) (hb:PE X b tb):PE X (.BinOp a op b pos) (yk r ta tb):=by
 intro pins s σ H Q I h;exact wpAny_BinOp (AH ha hb I h fun v u s2 x y H2 I2 rx ry q=>ho pins s2 σ H2 x y v u Q I2 rx ry q)
theorem mT {op:UnaryOp}{r:V->Hp->VK->Prop} (ho:Df X (unaryOp op) r) (ha:PE X a ta):PE X (.UnaryOp op a pos) (Ed r ta):=by
 intro pins s σ H Q I h;exact UnaryOp_ (bE (ha pins s σ H _ I h) fun v s1 ⟨x,H1,I1,r1,q1⟩=>ho pins s1 σ H1 x v Q I1 r1 q1)
theorem Dl {f:Value->Value->Sem Value}{C:Int->Int->Prop}{g:Int->Int->Int}
  (rule:∀ (i j:Int) (t u:Tok) (s:Shared) (Q:Value->Shared->Prop) (E:Value->Shared->Prop),C i j->Q (.int (g i j) s.toks) { s with toks:=s.toks+1 }->wpAny (model X.prog X.w) X.A (f (.int i t) (.int j u)) Q E s) :
  fz X f (rI C fun i j=>.int (g i j)):=by
 intro pins s σ H x y v u Q I rx ry h;obtain ⟨i,j,rfl,rfl,hc,q⟩:=h;obtain ⟨t,rfl⟩:=rx;obtain ⟨t',rfl⟩:=ry;exact rule i j t t' s _ _ hc ⟨.int (g i j),H,I.tok _,⟨_,rfl⟩,q⟩
theorem Cl {f:Value->Value->Sem Value}{g:Int->Int->Int}
  (rule:∀ (i j:Int) (t u:Tok) (s:Shared) (Q:Value->Shared->Prop) (E:Value->Shared->Prop),Q (.int (g i j) s.toks) { s with toks:=s.toks+1 }->wpAny (model X.prog X.w) X.A (f (.int i t) (.int j u)) Q E s) :
  fz X f (zQ fun i j=>.int (g i j)):=by
 intro pins s σ H x y v u Q I rx ry h;obtain ⟨i,j,rfl,rfl,q⟩:=h;obtain ⟨t,rfl⟩:=rx;obtain ⟨t',rfl⟩:=ry;exact rule i j t t' s _ _ ⟨.int (g i j),H,I.tok _,⟨_,rfl⟩,q⟩
theorem AC {f:Value->Value->Sem Value}{g:Int->Int->Bool}
  (rule:∀ (i j:Int) (t u:Tok) (s:Shared) (Q:Value->Shared->Prop) (E:Value->Shared->Prop),Q (.bool (g i j)) s->wpAny (model X.prog X.w) X.A (f (.int i t) (.int j u)) Q E s) :
  fz X f (zQ fun i j=>.bl (g i j)):=by
 intro pins s σ H x y v u Q I rx ry h;obtain ⟨i,j,rfl,rfl,q⟩:=h;obtain ⟨t,rfl⟩:=rx;obtain ⟨t',rfl⟩:=ry;exact rule i j t t' s _ _ ⟨.bl (g i j),H,I,rfl,q⟩
noncomputable def CB (i j:Int):Prop:=0 < j/\j < 1073741824
noncomputable def vR (i j:Int):Prop:=(-(2 ^ 64) < i/\i < 2 ^ 64)\/(-(2 ^ 64) < j/\j < 2 ^ 64)
theorem vR.ok {i j:Int} (h:vR i j):IntMulOk i j:=by
 rcases h with ⟨h1,h2⟩ | ⟨h1,h2⟩
 ·exact .of_left (intBits_le_64 h1 h2)
 ·exact .of_right (intBits_le_64 h1 h2)
theorem Bs:fz X (binaryOp .Add) (zQ fun i j=>.int (i+j)):=Cl fun _ _ _ _ _ _ _ q=>add_int q
theorem Bm:fz X (binaryOp .Sub) (zQ fun i j=>.int (i - j)):=Cl fun _ _ _ _ _ _ _ q=>sub_int q
theorem Bp:fz X (binaryOp .Mult) (rI vR fun i j=>.int (i * j)):=Dl fun _ _ _ _ _ _ _ hc q=>mul_int q hc.ok
theorem y8:fz X (binaryOp .FloorDiv) (rI CB fun i j=>.int (i / j)):=Dl fun i j _ _ _ _ _ hc q=>by
 have h1:(0:Int) < j:=hc.1;have h2:j < 1073741824:=hc.2;exact floordiv_int (by omega) (by rw [Int.fdiv_eq_ediv_of_nonneg i (by omega)]; exact q) (.inl (PyProof.noPylong_small (by omega)))
theorem Bq:fz X (binaryOp .Mod) (rI (fun _ j=>0 < j) fun i j=>.int (i % j)):=Dl fun i j _ _ _ _ _ hc q=>by
 have h1:(0:Int) < j:=hc;exact mod_int' (by omega) (by rw [Int.fmod_eq_emod_of_nonneg i (by omega)]; exact q)
theorem Ec {f:Value->Sem Value}{g:Int->Int}
  (rule:∀ (i:Int) (t:Tok) (s:Shared) (Q:Value->Shared->Prop) (E:Value->Shared->Prop),Q (.int (g i) s.toks) { s with toks:=s.toks+1 }->wpAny (model X.prog X.w) X.A (f (.int i t)) Q E s) :
  Df X f (rU fun i=>.int (g i)):=by
 intro pins s σ H x v Q I rx h;obtain ⟨i,rfl,q⟩:=h;obtain ⟨t,rfl⟩:=rx;exact rule i t s _ _ ⟨.int (g i),H,I.tok _,⟨_,rfl⟩,q⟩
theorem AK:Df X (unaryOp .USub) (rU fun i=>.int (-i)):=Ec fun _ _ _ _ _ q=>neg_int q
end
noncomputable def scal:V->V->Bool
 | .non,.non=>true | .non,.int _=>true | .int _,.non=>true | .non,.bl _=>true | .bl _,.non=>true | .non,.str _=>true | .str _,.non=>true
 | .int _,.int _=>true | .bl _,.bl _=>true | .str _,.str _=>true | .byt _,.byt _=>true
 | .int _,.str _=>true | .str _,.int _=>true | .bl _,.str _=>true | .str _,.bl _=>true
 | _,_=>false
noncomputable def Eg:R2:=fun x y H Q=>scal x y=true/\Q (.bl (decide (x=y))) H
noncomputable def Ef:R2:=fun x y H Q=>scal x y=true/\Q (.bl (!decide (x=y))) H
theorem oO {i j:Int}:decide (V.int i=V.int j)=(i==j):=by
 rw [Bool.eq_iff_iff];simp
theorem rQ {i j:Bool}:decide (V.bl i=V.bl j)=(i==j):=by
 rw [Bool.eq_iff_iff];simp
theorem oN {i j:Str}:decide (V.str i=V.str j)=(i==j):=by
 rw [Bool.eq_iff_iff];simp
theorem ul {i j:Array UInt8}:decide (V.byt i=V.byt j)=(i.toList==j.toList):=by
 rw [Bool.eq_iff_iff];cases i;cases j;simp
section
variable {X:Cx}{a b c:Expr}{ta tb tc:TE}{pos:Pos}
theorem aR {pins:List (Addr×Obj)}{σ:St}{H:Hp}{s:Shared}{Q:VK}{k k':Bool} (I:Inv X pins σ H s) (q:Q (.bl k) H) (e:k=k'):EP X pins σ Q (.bool k') s:=by
 subst e;exact ⟨.bl k,H,I,rfl,q⟩
theorem CZ:fz X (compareOp .Eq) Eg:=by
 intro pins s σ H x y v u Q I rx ry h;obtain ⟨hs,q⟩:=h;cases x with
 | non =>
  cases rx;cases y with
  | non=>cases ry; exact PySem.EqNone.eq_none_none (aR I q (by simp))
  | bl j=>cases ry; exact PySem.EqNone.eq_none_bool (aR I q (by simp))
  | int j=>obtain ⟨t',rfl⟩:=ry; exact PySem.EqNone.eq_none_int (aR I q (by simp))
  | str j=>obtain ⟨t',rfl⟩:=ry; exact PySem.EqNone.eq_none_str (aR I q (by simp))
  | _=>exact absurd (show false=true from hs) Bool.false_ne_true
 | bl i =>
  cases rx;cases y with
  | non=>cases ry; exact PySem.EqNone.eq_bool_none (aR I q (by simp))
  | bl j=>cases ry; exact eq_bool (aR I q rQ)
  | str j=>obtain ⟨t',rfl⟩:=ry; exact PySem.EqMixed.eq_bool_str (aR I q (by simp))
  | _=>exact absurd (show false=true from hs) Bool.false_ne_true
 | int i =>
  obtain ⟨t,rfl⟩:=rx;cases y with
  | non=>cases ry; exact PySem.EqNone.eq_int_none (aR I q (by simp))
  | int j=>obtain ⟨t',rfl⟩:=ry; exact eq_int (aR I q oO)
  | str j=>obtain ⟨t',rfl⟩:=ry; exact PySem.EqMixed.eq_int_str (aR I q (by simp))
  | _=>exact absurd (show false=true from hs) Bool.false_ne_true
 | str i =>
  obtain ⟨t,rfl⟩:=rx;cases y with
  | non=>cases ry; exact PySem.EqNone.eq_str_none (aR I q (by simp))
  | bl j=>cases ry; exact PySem.EqMixed.eq_str_bool (aR I q (by simp))
  | int j=>obtain ⟨t',rfl⟩:=ry; exact PySem.EqMixed.eq_str_int (aR I q (by simp))
  | str j=>obtain ⟨t',rfl⟩:=ry; exact eq_str (aR I q oN)
  | _=>exact absurd (show false=true from hs) Bool.false_ne_true
 | byt i =>
  obtain ⟨t,rfl⟩:=rx;cases y with
  | byt j=>obtain ⟨t',rfl⟩:=ry; exact PySem.W.eq_bytes (aR I q ul)
  | _=>exact absurd (show false=true from hs) Bool.false_ne_true
 | _=>cases y<;>exact absurd (show false=true from hs) Bool.false_ne_true
theorem CU:fz X (compareOp .NotEq) Ef:=by
 intro pins s σ H x y v u Q I rx ry h;obtain ⟨hs,q⟩:=h;cases x with
 | non =>
  cases rx;cases y with
  | non=>cases ry; exact PySem.EqNone.ne_none_none (aR I q (by simp))
  | bl j=>cases ry; exact PySem.EqNone.ne_none_bool (aR I q (by simp))
  | int j=>obtain ⟨t',rfl⟩:=ry; exact PySem.EqNone.ne_none_int (aR I q (by simp))
  | str j=>obtain ⟨t',rfl⟩:=ry; exact PySem.EqNone.ne_none_str (aR I q (by simp))
  | _=>exact absurd (show false=true from hs) Bool.false_ne_true
 | bl i =>
  cases rx;cases y with
  | non=>cases ry; exact PySem.EqNone.ne_bool_none (aR I q (by simp))
  | bl j=>cases ry; exact ne_bool (aR I q (congrArg not rQ))
  | str j=>obtain ⟨t',rfl⟩:=ry; exact PySem.EqMixed.ne_bool_str (aR I q (by simp))
  | _=>exact absurd (show false=true from hs) Bool.false_ne_true
 | int i =>
  obtain ⟨t,rfl⟩:=rx;cases y with
  | non=>cases ry; exact PySem.EqNone.ne_int_none (aR I q (by simp))
  | int j=>obtain ⟨t',rfl⟩:=ry; exact ne_int (aR I q (congrArg not oO))
  | str j=>obtain ⟨t',rfl⟩:=ry; exact PySem.EqMixed.ne_int_str (aR I q (by simp))
  | _=>exact absurd (show false=true from hs) Bool.false_ne_true
 | str i =>
  obtain ⟨t,rfl⟩:=rx;cases y with
  | non=>cases ry; exact PySem.EqNone.ne_str_none (aR I q (by simp))
  | bl j=>cases ry; exact PySem.EqMixed.ne_str_bool (aR I q (by simp))
  | int j=>obtain ⟨t',rfl⟩:=ry; exact PySem.EqMixed.ne_str_int (aR I q (by simp))
  | str j=>obtain ⟨t',rfl⟩:=ry; exact ne_str (aR I q (congrArg not oN))
  | _=>exact absurd (show false=true from hs) Bool.false_ne_true
 | byt i =>
  obtain ⟨t,rfl⟩:=rx;cases y with
  | byt j=>obtain ⟨t',rfl⟩:=ry; exact PySem.W.ne_bytes (aR I q (congrArg not ul))
  | _=>exact absurd (show false=true from hs) Bool.false_ne_true
 | _=>cases y<;>exact absurd (show false=true from hs) Bool.false_ne_true
theorem CV:fz X (compareOp .Lt) (zQ fun i j=>.bl (decide (i < j))):=AC fun _ _ _ _ _ _ _ q=>lt_int q
theorem CW:fz X (compareOp .LtE) (zQ fun i j=>.bl (decide (i<=j))):=AC fun _ _ _ _ _ _ _ q=>le_int q
theorem CY:fz X (compareOp .Gt) (zQ fun i j=>.bl (decide (j < i))):=AC fun _ _ _ _ _ _ _ q=>gt_int q
theorem wD:fz X (compareOp .Is) (fun x y H Q=>y=.non/\Q (.bl (decide (x=.non))) H):=by
 intro pins s σ H x y v u Q I rx ry h;obtain ⟨rfl,q⟩:=h;cases ry;refine is_none_gen (aR I q ?_);cases x<;>first
  | (cases rx; rfl)
  | (obtain ⟨t,rfl⟩:=rx; rfl)
theorem aN (b:Expr) {op:CmpOp} (h:op≠.In:=by decide) (h2:op≠.NotIn:=by decide):behindInMarks op b=false:=by
 have e1:(op==CmpOp.In)=false:=by cases op<;>first | rfl | exact absurd rfl h
 have e2:(op==CmpOp.NotIn)=false:=by cases op<;>first | rfl | exact absurd rfl h2
 cases b<;>simp [behindInMarks,e1,e2]
theorem fh {op:CmpOp}{r:R2} (ho:fz X (compareOp op) r) (ha:PE X a ta) (hb:PE X b tb) (hm:behindInMarks op b=false):PE X (.Compare a [op] [b] pos) (yk r ta tb):=by
 intro pins s σ H Q I h;exact wpAny_Compare1 (AH ha hb I h fun v u s2 x y H2 I2 rx ry q=>ho pins s2 σ H2 x y v u Q I2 rx ry q) hm
noncomputable def jv (t:TE):TT:=fun σ H Q=>t σ H fun x H'=>∃ k,x=.bl k/\Q k H'
theorem az {op:CmpOp}{r:R2} (ho:fz X (compareOp op) r) (ha:PE X a ta) (hb:PE X b tb) (hm:behindInMarks op b=false):PT X (.Compare a [op] [b] pos) (jv (yk r ta tb)):=by
 intro pins s σ H Q I h;refine wpAny_isTrue_Compare1 (bE (ha pins s σ H _ I h) fun v s1 ⟨x,H1,I1,r1,q1⟩=>bE (hb pins s1 σ H1 _ I1 q1) fun u s2 ⟨y,H2,I2,r2,q2⟩ =>
  bE (ho pins s2 σ H2 x y v u _ I2 r1 r2 q2) fun c s3 ⟨z,H3,I3,r3,k,e,q3⟩=>?_) hm
 subst e;cases r3;exact wpAny_truthy_bool ⟨H3,I3,q3⟩
noncomputable def AV (r r':R2) (ta tb tc:TE):TE:=fun σ H Q=>ta σ H fun x H1=>tb σ H1 fun y H2=>r x y H2 fun z H3=>∃ k,z=.bl k /\
 (if k=true then tc σ H3 fun w' H4=>r' y w' H4 Q else Q (.bl false) H3)
theorem qp {op op':CmpOp}{r r':R2} (ho:fz X (compareOp op) r) (ho':fz X (compareOp op') r') (ha:PE X a ta) (hb:PE X b tb) (hc:PE X c tc)
  (hm:lastMarks [op,op'] [b,c]=false:=by with_unfolding_all rfl):PT X (.Compare a [op,op'] [b,c] pos) (jv (AV r r' ta tb tc)):=by
 intro pins s σ H Q I h;refine isTrue_chain (bE (ha pins s σ H _ I h) fun v s1 ⟨x,H1,I1,r1,q1⟩=>test_link (bE (hb pins s1 σ H1 _ I1 q1) fun u s2 ⟨y,H2,I2,r2,q2⟩ =>
  bE (ho pins s2 σ H2 x y v u _ I2 r1 r2 q2) fun d s3 ⟨z,H3,I3,r3,k,e,q3⟩=>?_)) hm
 subst e;cases r3;refine wpAny_truthy_bool ?_;cases k with
 | false =>
  obtain ⟨k',e',q'⟩:=q3;cases e';exact ite_ff ⟨H3,I3,q'⟩
 | true =>
  refine ite_tt (test_last (bE (hc pins s3 σ H3 _ I3 q3) fun w' s4 ⟨z',H4,I4,r4,q4⟩=>bE (ho' pins s4 σ H4 y z' u w' _ I4 r2 r4 q4) fun d' s5 ⟨z2,H5,I5,r5,k2,e2,q5⟩=>?_));subst e2;cases r5;exact wpAny_truthy_bool ⟨H5,I5,q5⟩
theorem kO:(sizeLine:Nat) < 2 ^ 63:=by rw [sizeLine_eq]; decide
theorem sC:fz X (binaryOp .Add) (fun x y H Q=>∃ i j,x=.str i/\y=.str j/\i.length+j.length<=sizeLine/\Q (.str (i++j)) H):=by
 intro pins s σ H x y v u Q I rx ry h;obtain ⟨i,j,rfl,rfl,hz,q⟩:=h;obtain ⟨t,rfl⟩:=rx;obtain ⟨t',rfl⟩:=ry;exact add_str (fun t' tk=>⟨.str (i++j),H,I.tok _,⟨_,rfl⟩,q⟩) hz
theorem dS {x:V}{us:List Value} (r:aL [x] us):∃ u,us=[u]/\RelV x u:=by
 cases r with
 | cons r1 r2=>cases r2; exact ⟨_,rfl,r1⟩
theorem zZ {x y:V}{us:List Value} (r:aL [x,y] us):∃ u w',us=[u,w']/\RelV x u/\RelV y w':=by
 cases r with
 | cons r1 r2 =>
  cases r2 with
  | cons r3 r4=>cases r4; exact ⟨_,_,rfl,r1,r3⟩
theorem vB (hc:X.calm=true):bS X (.builtin "max") (fun xs H Q=>∃ i j,xs=[.int i,.int j]/\Q (.int (if j > i then j else i)) H):=by
 intro pins s σ H xs us Q I r h;obtain ⟨i,j,rfl,q⟩:=h;obtain ⟨u,w',rfl,⟨t,rfl⟩,⟨t',rfl⟩⟩:=zZ r;refine max_two_ints (I.ok.hd hc) fun h' tk k=>⟨_,H,I.kept k,?_,q⟩
 by_cases hj:j > i
 ·rw [if_pos hj,if_pos hj]; exact ⟨_,rfl⟩
 ·rw [if_neg hj,if_neg hj]; exact ⟨_,rfl⟩
theorem vz (hc:X.calm=true):bS X (.builtin "min") (fun xs H Q=>∃ i j,xs=[.int i,.int j]/\Q (.int (if j < i then j else i)) H):=by
 intro pins s σ H xs us Q I r h;obtain ⟨i,j,rfl,q⟩:=h;obtain ⟨u,w',rfl,⟨t,rfl⟩,⟨t',rfl⟩⟩:=zZ r;refine min_two_ints (I.ok.hd hc) fun h' tk k=>⟨_,H,I.kept k,?_,q⟩
 by_cases hj:j < i
 ·rw [if_pos hj,if_pos hj]; exact ⟨_,rfl⟩
 ·rw [if_neg hj,if_neg hj]; exact ⟨_,rfl⟩
theorem nQ:bS X (.type "int") (fun xs H Q=>(∃ i,xs=[.int i]/\Q (.int i) H)\/∃ k,xs=[.bl k]/\Q (.int (if k then 1 else 0)) H):=by
 intro pins s σ H xs us Q I r h;rcases h with ⟨i,rfl,q⟩ | ⟨k,rfl,q⟩
 ·obtain ⟨u,rfl,t,rfl⟩:=dS r
  exact call_int_int ⟨.int i,H,I,⟨_,rfl⟩,q⟩
 ·obtain ⟨u,rfl,r1⟩:=dS r
  cases r1;exact call_int_bool ⟨.int (if k then 1 else 0),H,I.tok _,⟨_,rfl⟩,q⟩
end
structure ObjM (h:Heap) (x dx C:Addr) (mA:Str->Option Value):Prop where
 obj:h.get? x=some (PySem.W.instObj C dx)
 ns:h.Ns1 dx mA
 ne:dx≠x
theorem u8 {h:Heap}{dx:Addr}{mA:Str->Option Value} (n:h.Ns1 dx mA):∃ od,h.get? dx=some od/\∀ name,PySem.W.lookIn name od=some (mA name):=by
 obtain ⟨o,es,ep,ho,hd,hk,_,hm⟩:=n;refine ⟨o,ho,fun name=>?_⟩;have e:=hm name;unfold nsFind findBy at e;rw [<- Array.find?_toList] at e;unfold PySem.W.lookIn;rw [hd];dsimp only;split
 ·rename_i y q
  rw [q] at e;exact congrArg some e
 ·rename_i q
  rw [q] at e;have a:es.toList.any (·.refKey)=false:=by
   rw [List.any_eq_false];intro y hy;obtain ⟨z,t,hkey⟩:=hk y (Array.mem_toList_iff.mp hy);simp [DictEntry.refKey,hkey]
  have a':¬ es.toList.any (·.refKey)=true:=by rw [a]; exact Bool.false_ne_true
  rw [if_neg a'];exact congrArg some e
theorem ObjM.look {h:Heap}{x dx C:Addr}{mA:Str->Option Value} (I:ObjM h x dx C mA):∃ od,PySem.W.InstAt h x (PySem.W.instObj C dx) C (some od)/\∀ name,PySem.W.lookIn name od=some (mA name) :=
 let ⟨od,ho,hl⟩:=u8 I.ns
 ⟨od,⟨I.obj,rfl,rfl,ho⟩,hl⟩
section
variable {prog:Program}{w:World}{A:Around}{E:Value->Shared->Prop}{s:Shared}{K:Frag}{x dx C f:Addr}{mA:Str->Option Value}{name:Str}{v:Value}
theorem zw {expr:Bool}{Q:Value->Shared->Prop} (X:K.In s.heap) (I:ObjM s.heap x dx C mA) (hg:PySem.W.plainGet K C name=true) (hh:PySem.W.hasDictIn K C=true)
  (ha:PySem.W.findIn K (.ref C) name=some none) (hv:mA name=some v) (hv':PySem.W.handedIn v=true) (h:Q v { s with toks:=s.toks+1 }) :
  wpAny (model prog w) A (getAttr (.ref x) name expr) Q E s:=by
 obtain ⟨od,J,hl⟩:=I.look;exact PySem.W.get_value X J (PySem.W.plainGet_of hg).1 (PySem.W.findObj_own hh ha rfl (by rw [hl,hv])) hv' h
theorem xM {pl:Sem Bool}{Q:Value×List Value->Shared->Prop} (X:K.In s.heap) (I:ObjM s.heap x dx C mA) (hg:PySem.W.plainGet K C name=true)
  (hf:PySem.W.findIn K (.ref C) name=some (some (.ref f))) (ht:PySem.W.isFn K (.ref f)=true) (hv:mA name=none) (h:Q (.ref f,[.ref x]) s) :
  wpAny (model prog w) A (getMethod (.ref x) name pl) Q E s:=by
 obtain ⟨od,J,hl⟩:=I.look;exact PySem.W.method_fn X J (PySem.W.plainGet_of hg).1 (PySem.W.plainGet_of hg).2 hf (beq_iff_eq.mp ht) (by show (PySem.W.lookIn name od).map (·.isSome)=some false; rw [hl,hv]; rfl) h
theorem yM {ns:List Str}{Q:Unit->Shared->Prop} (X:K.In s.heap) (I:ObjM s.heap x dx C mA)
  (hs:PySem.W.findIn K (.ref C) "__setattr__" = some (some (.builtin "object.__setattr__"))) (hp:PySem.W.plainOver K C=true) (ht:PySem.W.takerIn K C name=some none) (hh:PySem.W.hasDictIn K C=true)
  (hw:PySem.Within mA ns) (hsz:ns.length<=sizeLine)
  (h:∀ h',ObjM h' x dx C (fun y=>if y=name then some v else mA y)->Heap.SameBut dx s.heap h'->Q () { s with heap:=h',toks:=s.toks+2 }) :
  wpAny (model prog w) A (setAttr (.ref x) name v) Q E s:=by
 obtain ⟨od,J,hl⟩:=I.look;refine PySem.W.set_plain X J hs (PySem.W.osa_open (s:={ s with toks:=s.toks+1 }) (r:=none) X J hp ht fun b=>?_);obtain ⟨cd,hc,hd'⟩:=PySem.W.any_some hh;have hx:s.heap.get? x=some ⟨.ref C,some dx,.plain,#[]⟩:=I.obj;refine wpAny_bind (wpAny_pure (wpAny_bind (wpAny_bind (wpAny_loadPart hx (wpAny_bind (PySem.W.Looks.here (s:={ s with toks:=s.toks+1 }) (PySem.W.looks_clsIn X hc) ?_))))));rw [hd'];refine wpAny_pure (a:=some dx) (wpAny_bind (wpAny_pure (wpAny_bind ?_)));refine wpAny_nsSet1 (s:={ s with toks:=s.toks+1 }) I.ns fun h' hn2 hs2=>?_;obtain ⟨oD,esD,epD,hoD,hdD,hcD⟩:=hn2.count (PySem.Within.cons name v hw);refine wpAny_bind (wpAny_lookBehind hoD (by rw [hdD]; exact pastItsLine_dict (Nat.le_trans hcD (by rw [List.length_cons]; omega))) ?_);exact wpAny_pure (h _ ⟨(hs2.2 _ (Ne.symm I.ne)).trans I.obj,hn2,I.ne⟩ hs2)
theorem xB {R:Result->Shared->Prop}{vs:List Value}{kw:List (Str×Value)} (X:K.In s.heap) (hm:PySem.W.makesIn K C=true)
  (hi:PySem.W.findIn K (.ref C) "__init__" = some (some (.ref f))) (hf:PySem.W.typeIn K (.ref f)=some (.type "function"))
  (h:codeAny (model prog w) (A.under (.builtin "type.__call__" ⟨.ref C :: vs,kw⟩)) (.call (.ref f) ⟨.ref (s.heap.objs.size+1) :: vs,kw⟩) (PySem.W.InitBack (s.heap.objs.size+1) R)
   { s with heap:=(s.heap.push PySem.W.emptyDict).push (PySem.W.instObj C s.heap.objs.size) }) :
  codeAny (model prog w) A (.call (.ref C) ⟨vs,kw⟩) R s:=by
 obtain ⟨hh,g,d,t,os⟩:=s;exact PySem.W.make_core (PySem.W.makes_of X hm) (PySem.W.looks_findIn X hi) (fun self=>PySem.W.bind_fn X self hf) (.inl rfl) h
end
noncomputable def bZ (f:Str) (v:V):List (Str×V)->List (Str×V)
 | []=>[(f,v)]
 | (g,x) :: r=>if g=f then (g,v) :: r else (g,x) :: bZ f v r
theorem jJ (f g:Str) (v:V):∀ fs:List (Str×V),(bZ f v fs).lookup g=if g=f then some v else fs.lookup g
 | []=>by
  show List.lookup g [(f,v)]=_
  by_cases h:g=f
  ·have hb:(g==f)=true:=beq_iff_eq.mpr h
   simp only [List.lookup,hb,if_pos h]
  ·have hb:(g==f)=false:=beq_eq_false_iff_ne.mpr h
   simp only [List.lookup,hb,if_neg h]
 | (k,x) :: r=>by
  have ih:=jJ f g v r;rw [show bZ f v ((k,x) :: r)=(if k=f then (k,v) :: r else (k,x) :: bZ f v r) from rfl]
  by_cases hk:k=f
  ·rw [if_pos hk]
   by_cases h:g=k
   ·have hb:(g==k)=true:=beq_iff_eq.mpr h
    simp only [List.lookup,hb,if_pos (h.trans hk)]
   ·have hb:(g==k)=false:=beq_eq_false_iff_ne.mpr h
    simp only [List.lookup,hb,if_neg (fun e:g=f=>h (e.trans hk.symm))]
  ·rw [if_neg hk]
   by_cases h:g=k
   ·have hb:(g==k)=true:=beq_iff_eq.mpr h
    simp only [List.lookup,hb,if_neg (fun e:g=f=>hk (h.symm.trans e))]
   ·have hb:(g==k)=false:=beq_eq_false_iff_ne.mpr h
    simp only [List.lookup,hb];exact ih
theorem jf (f:Str) (v:V):∀ fs:List (Str×V),f∈(bZ f v fs).map (·.1)/\∀ g,g∈fs.map (·.1)->g∈(bZ f v fs).map (·.1)
 | []=>⟨by simp [bZ],fun g h=>by simp at h⟩
 | (k,x) :: r=>by
  obtain ⟨i1,i2⟩:=jf f v r;rw [show bZ f v ((k,x) :: r)=(if k=f then (k,v) :: r else (k,x) :: bZ f v r) from rfl]
  by_cases hk:k=f
  ·rw [if_pos hk]
   subst hk;exact ⟨by simp,fun g h=>by simpa using h⟩
  ·rw [if_neg hk]
   refine ⟨?_,fun g h=>?_⟩
   ·rw [List.map_cons]
    exact List.mem_cons_of_mem _ i1
   ·rw [List.map_cons] at h ⊢
    rcases List.mem_cons.mp h with e | e
    ·exact List.mem_cons.mpr (.inl e)
    ·exact List.mem_cons_of_mem _ (i2 g e)
theorem jK (f:Str) (v:V):∀ fs:List (Str×V),(bZ f v fs).length<=fs.length+1
 | []=>by simp [bZ]
 | (k,x) :: r=>by
  have ih:=jK f v r;rw [show bZ f v ((k,x) :: r)=(if k=f then (k,v) :: r else (k,x) :: bZ f v r) from rfl]
  by_cases hk:k=f
  ·rw [if_pos hk,List.length_cons,List.length_cons]; omega
  ·rw [if_neg hk,List.length_cons,List.length_cons]; omega
theorem f8.some_of {v:V}{o:Option Value} (r:f8 (some v) o):∃ u,o=some u/\RelV v u:=by
 cases o with
 | none=>exact (show False from r).elim
 | some u=>exact ⟨u,rfl,r⟩
theorem f8.none_of {o:Option Value} (r:f8 none o):o=none:=by
 cases o with
 | none=>rfl
 | some u=>exact (show False from r).elim
theorem vh {v:V}{u:Value} (r:RelV v u):PySem.W.handedIn u=true:=by
 cases v with
 | non=>cases (show u=Value.none from r); rfl
 | bl b=>cases (show u=Value.bool b from r); rfl
 | int i=>obtain ⟨t,e⟩:=(show ∃ t,u=Value.int i t from r); cases e; rfl
 | str x=>obtain ⟨t,e⟩:=(show ∃ t,u=Value.str x t from r); cases e; rfl
 | byt b=>obtain ⟨t,e⟩:=(show ∃ t,u=Value.bytes b t from r); cases e; rfl
 | flt b=>obtain ⟨t,e⟩:=(show ∃ t,u=Value.float b t from r); cases e; rfl
 | ref a=>cases (show u=Value.ref a from r); rfl
 | ty n=>cases (show u=Value.type n from r); rfl
section
variable {P:Program}{w:World}{H H':Hp}{h h':Heap}{a C dx:Addr}{fs fs':List (Str×V)}
theorem km (hok:gb P w H h) (e:H a=some (.ins C dx fs)):∃ mA,ObjM h a dx C mA/\(∀ f,f8 (fs.lookup f) (mA f))/\PySem.Within mA (fs.map (·.1))/\fs.length<=1000/\H dx=some (.own a):=by
 obtain ⟨d,z,ne,ob,mA,n,r,q⟩:=(show a6 P w H h a (.ins C dx fs) from hok a _ e);exact ⟨mA,⟨ob,n,ne⟩,r,q,z,d⟩
end
structure Cls (K:Frag) (C:Addr):Prop where
 pg:PySem.W.plainGet K C Str.empty=true
 hd:PySem.W.hasDictIn K C=true
 po:PySem.W.plainOver K C=true
 sa:PySem.W.findIn K (.ref C) "__setattr__" = some (some (.builtin "object.__setattr__"))
theorem Cls.get {K:Frag}{C:Addr} (c:Cls K C) (f:Str):PySem.W.plainGet K C f=true:=c.pg
noncomputable def bH (K:Frag) (C:Addr) (f:Str):Prop:=PySem.W.findIn K (.ref C) f=some none
theorem bH.taker {K:Frag}{C:Addr}{f:Str} (n:bH K C f):PySem.W.takerIn K C f=some none:=by
 unfold PySem.W.takerIn;rw [show PySem.W.findIn K (.ref C) f=some none from n];rfl
structure Meth (K:Frag) (C:Addr) (m:Str) (f:Addr):Prop where
 at_:PySem.W.findIn K (.ref C) m=some (some (.ref f))
 fn:PySem.W.isFn K (.ref f)=true
 kp:PySem.W.keepIn K (.ref f)=true
section
variable {X:Cx}{pins:List (Addr×Obj)}{σ:St}{H:Hp}{s:Shared}{a C dx:Addr}{fs:List (Str×V)}{f:Str}{v:V}{A:Around}{E:Value->Shared->Prop}
theorem sM {b:Bool}{Q:Value->Shared->Prop} (I:Inv X pins σ H s) (e:H a=some (.ins C dx fs)) (c:Cls X.K C) (n:bH X.K C f) (l:fs.lookup f=some v)
  (h:∀ u s',Inv X pins σ H s'->RelV v u->Q u s'):wpAny (model X.prog X.w) A (getAttr (.ref a) f b) Q E s:=by
 obtain ⟨mA,O,r,_,_,_⟩:=km I.hok e;obtain ⟨u,hu,ru⟩:=f8.some_of (v:=v) (o:=mA f) (by rw [<- l]; exact r f);exact zw I.kIn O (c.get f) c.hd n hu (vh ru) (h u _ (I.tok _) ru)
theorem lU {m:Str}{g:Addr}{pl:Sem Bool}{Q:Value×List Value->Shared->Prop} (I:Inv X pins σ H s) (e:H a=some (.ins C dx fs)) (c:Cls X.K C) (k:Meth X.K C m g) (l:fs.lookup m=none)
  (h:Q (.ref g,[.ref a]) s):wpAny (model X.prog X.w) A (getMethod (.ref a) m pl) Q E s:=by
 obtain ⟨mA,O,r,_,_,_⟩:=km I.hok e;have hn:mA m=none:=f8.none_of (by rw [<- l]; exact r m);exact xM I.kIn O (c.get m) k.at_ k.fn hn h
theorem r8 {y:V}{u:Value}{Q:Unit->Shared->Prop} (I:Inv X pins σ H s) (e:H a=some (.ins C dx fs)) (c:Cls X.K C) (n:bH X.K C f) (hl:fs.length < 1000) (ry:RelV y u)
  (h:∀ s',Inv X pins σ (aw H a (.ins C dx (bZ f y fs))) s'->Q () s'):wpAny (model X.prog X.w) A (setAttr (.ref a) f u) Q E s:=by
 obtain ⟨mA,O,r,wi,_,ho⟩:=km I.hok e;have hz:(fs.map (·.1)).length<=sizeLine:=by rw [List.length_map,sizeLine_eq]; omega
 refine yM I.kIn O c.sa c.po n.taker c.hd wi hz fun h' O' sb=>h _ ?_;have hd:∃ o,h'.get? dx=some o:=let ⟨o,_,_,e',_⟩:=O'.ns; ⟨o,e'⟩;refine I.write (x:=a) (e:=dx) (by rw [e]; exact True.intro) (.inr ho) (fun b q hb z=>(sb.2 b hb).trans z) hd ?_;refine ⟨by rw [ad O.ne]; exact ho,?_,O.ne,O'.obj,_,O'.ns,fun g=>?_,fun g hg=>?_⟩
 ·have:=jK f y fs; omega
 ·show f8 ((bZ f y fs).lookup g) (if g=f then some u else mA g)
  rw [jJ]
  by_cases q:g=f
  ·rw [if_pos q,if_pos q]; exact ry
  ·rw [if_neg q,if_neg q]; exact r g
 ·by_cases q:g=f
  ·rw [q]; exact (jf f y fs).1
  ·refine (jf f y fs).2 g (wi g fun z=>hg ?_)
   show (if g=f then some u else mA g)=none;rw [if_neg q]; exact z
theorem Inv.made (I:Inv X pins σ H s):Inv X pins σ (aw (aw H s.heap.objs.size (.own (s.heap.objs.size+1))) (s.heap.objs.size+1) (.ins C s.heap.objs.size []))
  { s with heap:=(s.heap.push PySem.W.emptyDict).push (PySem.W.instObj C s.heap.objs.size) }:=by
 have e1:(s.heap.push PySem.W.emptyDict).get? s.heap.objs.size=some PySem.W.emptyDict:=Heap.get?_push_size s.heap rfl;have e2:((s.heap.push PySem.W.emptyDict).push (PySem.W.instObj C s.heap.objs.size)).get? (s.heap.objs.size+1)=some (PySem.W.instObj C s.heap.objs.size):=by
  have:=Heap.get?_push_size (s.heap.push PySem.W.emptyDict) (o:=PySem.W.instObj C s.heap.objs.size) rfl;rwa [Heap.size_push] at this
 have e3:(s.heap.push PySem.W.emptyDict).Ns s.heap.objs.size (fun _=>none):=⟨PySem.W.emptyDict,#[],_,e1,rfl,(fun e he=>absurd he (by simp)),fun _=>rfl⟩;have I1:=I.laid (a:=s.heap.objs.size) (o:=.own (s.heap.objs.size+1)) (h':=s.heap.push PySem.W.emptyDict) (t':=s.toks) (fun b u q=>Heap.get?_push_of_some _ q) (Nat.le_refl _) ⟨_,e1⟩;refine I1.laid (a:=s.heap.objs.size+1) (o:=.ins C s.heap.objs.size []) (t':=s.toks) (fun b u q=>Heap.get?_push_of_some _ q) (Nat.le_of_eq (Heap.size_push _ _)) ?_;have ne:s.heap.objs.size≠s.heap.objs.size+1:=Nat.ne_of_lt (Nat.lt_succ_self _);refine ⟨by rw [ad ne,upd_same],Nat.zero_le _,ne,e2,fun _=>none,(Heap.Ns1.of_empty e3).at fun o q=>Heap.get?_push_of_some _ q,fun _=>True.intro,fun y hy=>absurd rfl hy⟩
theorem zJ {prog:Program}{w:World}{env:Env}{e:Expr}{f:Str}{pos:Pos}{s:Shared}{Q:Value->Shared->Prop} (hb:attributeBase e f env (eval e env)=eval e env)
  (h:wpAny (model prog w) A (eval e env) (fun o s₁=>wpAny (model prog w) A (getAttr o f true) Q E s₁) E s):wpAny (model prog w) A (eval (.Attribute e f pos) env) Q E s :=
 Attribute_any_ h (by rw [arm_eval_Attribute,hb])
end
noncomputable def Cg (K:Frag) (ta:TE) (f:Str):TE:=fun σ H Q=>ta σ H fun x H1=>∃ a C dx fs v,x=.ref a/\H1 a=some (.ins C dx fs)/\Cls K C/\bH K C f/\fs.lookup f=some v/\Q v H1
noncomputable def DF (K:Frag) (ta tv:TE) (f:Str):TS:=fun D σ H=>tv σ H fun y H1=>ta σ H1 fun x H2=>∃ a C dx fs,x=.ref a/\H2 a=some (.ins C dx fs)/\Cls K C/\bH K C f/\fs.length < 1000 /\
 D.nx σ (aw H2 a (.ins C dx (bZ f y fs)))
section
variable {X:Cx}{o e value:Expr}{f:Str}{pos pos' tpos:Pos}{ta tv:TE}
theorem aF (he:PE X e ta) (hb:attributeBase e f X.env (eval e X.env)=eval e X.env):PE X (.Attribute e f pos) (Cg X.K ta f):=by
 intro pins s σ H Q I h;refine zJ hb (bE (he pins s σ H _ I h) fun u s1 ⟨x,H1,I1,rx,a,C,dx,fs,v,ex,ea,c,n,l,q⟩=>?_);subst ex;obtain rfl:u=Value.ref a:=rx;exact sM I1 ea c n l fun u' s2 I2 ru=>⟨v,H1,I2,ru,q⟩
theorem b8 (ha:PE X o ta) (hv:PE X value tv) (hs:swapsWith value (some (.Attribute o f pos')) pos.line X.env=pure false):PS X (.Assign [.Attribute o f pos'] value pos) (DF X.K ta tv f):=by
 intro pins s σ H D I h;refine plainObj_wpAny_Assign_Attribute (bE (hv pins s σ H _ I h) fun u s1 ⟨y,H1,I1,ry,q⟩=>bE (ha pins s1 σ H1 _ I1 q) fun ov s2 ⟨x,H2,I2,rx,a,C,dx,fs,ex,ea,c,n,l,q2⟩=>?_) hs;subst ex;obtain rfl:ov=Value.ref a:=rx;exact r8 I2 ea c n l ry fun s3 I3=>⟨σ,_,I3,q2⟩
end
section
variable {X:Cx}{pins:List (Addr×Obj)}{σ:St}{H:Hp}{s:Shared}{A:Around}{E:Value->Shared->Prop}{Q:Value->Shared->Prop}{c:Value}{b:Bool}
inductive TyOf (K:Frag) (H:Hp):V->Value->Prop where
 | non:TyOf K H .non (.type "NoneType")
 | bl (x:Bool):TyOf K H (.bl x) (.type "bool")
 | int (i:Int):TyOf K H (.int i) (.type "int")
 | str (x:Str):TyOf K H (.str x) (.type "str")
 | flt (x:UInt64):TyOf K H (.flt x) (.type "float")
 | lst {a:Addr}{xs:List V} (e:H a=some (.lst xs)):TyOf K H (.ref a) (.type "list")
 | frz {a:Addr}{o:Obj}{xs:List V} (e:H a=some (.frz o (.lst xs))):TyOf K H (.ref a) (.type "list")
 | tup {a:Addr}{xs:List V} (e:H a=some (.tup xs)):TyOf K H (.ref a) (.type "tuple")
 | dK {a:Addr}{kvs:List (a5×V)} (e:H a=some (.dK kvs)):TyOf K H (.ref a) (.type "dict")
 | dT {a:Addr}{kvs:List (List a5×V)} (e:H a=some (.dT kvs)):TyOf K H (.ref a) (.type "dict")
 | ins {a C dx:Addr}{fs:List (Str×V)} (e:H a=some (.ins C dx fs)) (cl:Cls K C) (ha:PySem.W.findIn K (.ref C) "__class__" = some (some (.builtin "object.__class__")))
   (hn:PySem.W.specialIn K (.builtin "object.__class__") "__get__" = some (some (.builtin "getset_descriptor.__get__"))) (htk:PySem.W.takesIn K (.builtin "object.__class__")=some true)
   (hm:PySem.W.mroIn K C (.type "object")=some true):TyOf K H (.ref a) (.ref C)
end
structure Room (k:Nat) (A:Around):Prop where
 hd:A.handled=none
 dp:A.depth+3 * k+5 < recursionLimit
 un:A.units+16 * k+200 < cLine
theorem Room.mono {j k:Nat}{A:Around} (r:Room k A) (h:j<=k):Room j A:=⟨r.hd,by have:=r.dp; omega,by have:=r.un; omega⟩
theorem Room.deeper {k:Nat}{A:Around} (r:Room (k+1) A) (env:Env):Room k (A.deeper env) :=
 ⟨r.hd,by have:=r.dp; show A.depth+1+3 * k+5 < _; omega,by have:=r.un; show A.units+3+16 * k+200 < _; omega⟩
theorem sH {A:Around}{C:Addr}{us:List Value}{kw:List (Str×Value)}:(A.under (.builtin "type.__call__" ⟨.ref C :: us,kw⟩)).depth=A.depth+1:=by
 first | rfl | simp [Around.under,Code.weight,Code.isCreation,Code.isGuard,Code.isCaller,Code.frames,Code.isFrame,guardIds]
theorem sG {A:Around}{C:Addr}{us:List Value}{kw:List (Str×Value)}:(A.under (.builtin "type.__call__" ⟨.ref C :: us,kw⟩)).units=A.units+1:=by
 first | rfl | simp [Around.under,Code.cUnits,Code.frames,Code.isFrame]
theorem Room.make {k:Nat}{A:Around} (r:Room (k+1) A) (C:Addr) (us:List Value) (kw:List (Str×Value)):Room k (A.under (.builtin "type.__call__" ⟨.ref C :: us,kw⟩)) :=
 ⟨r.hd,by have:=r.dp; rw [sH]; omega,by have:=r.un; rw [sG]; omega⟩
theorem Room.depth {k:Nat}{A:Around} (r:Room k A):A.depth < recursionLimit:=by have:=r.dp; omega
theorem Room.units {k:Nat}{A:Around} (r:Room k A):A.units+64 < cLine:=by have:=r.un; omega
noncomputable def kA:TA:=fun _ H Q=>Q [] H
noncomputable def pW (ta:TE) (tr:TA):TA:=fun σ H Q=>ta σ H fun x H1=>tr σ H1 fun xs H2=>Q (x :: xs) H2
section
variable {X:Cx}{e:Expr}{es:List Expr}{te:TE}{t:TA}{pos:Pos}
theorem ag:PA X [] kA:=fun _ _ _ _ H Q I h=>Calls.spliced_nil ⟨[],H,I,.nil,h⟩
theorem aa (ha:PE X e te) (hr:PA X es t) (hs:starEach (e :: es) X.env=(false,eval e X.env) :: starEach es X.env:=by rfl):PA X (e :: es) (pW te t):=by
 intro pos pins s σ H Q I h;rw [hs];show wpAny _ _ (spliced ((false,eval e X.env) :: backTo pos (starEach es X.env))) _ _ s;refine Calls.spliced_cons (bE (ha pins s σ H _ I h) fun u s1 ⟨x,H1,I1,r1,q1⟩=>?_);exact bE (hr pos pins s1 σ H1 _ I1 q1) fun us s2 ⟨xs,H2,I2,r2,q2⟩=>⟨x :: xs,H2,I2,.cons r1 r2,q2⟩
noncomputable def Dw (t:TA):TE:=fun σ H Q=>t σ H fun xs H1=>xs.length<=sizeLine/\∀ p,H1 p=none->Q (.ref p) (aw H1 p (.tup xs))
noncomputable def vM (t:TA):TE:=fun σ H Q=>t σ H fun xs H1=>xs.length<=sizeLine/\∀ p,H1 p=none->Q (.ref p) (aw H1 p (.lst xs))
theorem bq {x1} (h:PA X es t):PE X (.Tuple es x1 pos) (Dw t):=by
 intro pins s σ H Q I hq;refine wpAny_Tuple_spliced (bE (h pos pins s σ H _ I hq) fun us s1 ⟨xs,H1,I1,r,z,q⟩=>⟨by rw [<- r.length]; exact z,?_⟩);have hf:H1 s1.heap.objs.size=none:=I1.hok.fresh (Nat.le_refl _);refine ⟨.ref s1.heap.objs.size,aw H1 s1.heap.objs.size (.tup xs),I1.laid (t':=s1.toks) (fun b u e=>Heap.get?_push_of_some _ e) (Nat.le_refl _) ?_,rfl,q _ hf⟩;exact ⟨z,us,r,⟨_,Heap.get?_push_size _ rfl,rfl,_,rfl⟩⟩
theorem bA (h:PA X es t):PE X (.List es pos) (vM t):=by
 intro pins s σ H Q I hq;refine wpAny_List_spliced (bE (h pos pins s σ H _ I hq) fun us s1 ⟨xs,H1,I1,r,z,q⟩=>⟨by rw [<- r.length]; exact z,?_⟩);have hf:H1 s1.heap.objs.size=none:=I1.hok.fresh (Nat.le_refl _);refine ⟨.ref s1.heap.objs.size,aw H1 s1.heap.objs.size (.lst xs),I1.laid (t':=s1.toks) (fun b u e=>Heap.get?_push_of_some _ e) (Nat.le_refl _) ?_,rfl,q _ hf⟩;exact ⟨z,us,0,r,Heap.get?_push_size _ rfl⟩
end
abbrev Sp:=List V->Hp->VK->XK->Prop
abbrev vK:=List Env->Hp->Shared->XK->Value->Shared->Prop
structure Env0 (P:Program) (w:World) (K:Frag) (mg:Str->Option Value) (base:Heap) (A:Around) (outer:List Env) (s:Shared) (H:Hp):Prop where
 frames:A.frames=some outer
 mod:Mod K mg base
 bs:∀ b o,base.get? b=some o->s.heap.get? b=some o/\H b=none
 bsz:base.objs.size<=s.heap.objs.size
 funs:s.heap.FunFrames base outer
 frf:∀ b∈mS outer,H b=none
 hok:gb P w H s.heap
 bare:AllBare s.gens
noncomputable def CE (outer:List Env) (P:Program) (w:World) (H:Hp) (s:Shared) (Q:VK) (u:Value) (s':Shared):Prop :=
 ∃ v H',s'.os=s.os/\AllBare s'.gens/\Un (mS outer) [] H H' s.heap s'.heap/\gb P w H' s'.heap/\RelV v u/\Q v H'
noncomputable def CR (CX:vK) (outer:List Env) (P:Program) (w:World) (H:Hp) (s:Shared) (Q:VK) (E:XK) (r:Result) (s':Shared):Prop :=
 match r with
 | .ok (.ret u)=>CE outer P w H s Q u s'
 | .ok _=>False
 | .error e=>CX outer H s E e s'
structure FnOk (P:Program) (w:World) (K:Frag) (mg:Str->Option Value) (base:Heap) (CX:vK) (k:Nat) (f:Addr) (fd:FuncData) (ps:List Str) (sp:Sp):Prop where
 len:∀ vs H Q E,sp vs H Q E->vs.length=ps.length
 run:∀ (A:Around) (outer:List Env) (s:Shared) (H:Hp) (args:Args) (us:List Value) (vs:List V) (Q:VK) (E:XK),Room k A->Env0 P w K mg base A outer s H->BindsTo s fd args (ps.zip us)->aL vs us->sp vs H Q E ->
  codeAny (model P w) A (.call (.ref f) args) (CR CX outer P w H s Q E) s
theorem Env0.make {P:Program}{w:World}{K:Frag}{mg:Str->Option Value}{base:Heap}{A:Around}{outer:List Env}{s:Shared}{H:Hp} (e:Env0 P w K mg base A outer s H) (C:Addr) (us:List Value) (kw:List (Str×Value)) :
  Env0 P w K mg base (A.under (.builtin "type.__call__" ⟨.ref C :: us,kw⟩)) outer s H:=⟨by first | exact e.frames | (simpa [Around.under,Code.envs,Code.isFrame,pushEnvs] using e.frames),e.mod,e.bs,e.bsz,e.funs,e.frf,e.hok,e.bare⟩
section
variable {X:Cx}{pins:List (Addr×Obj)}{σ:St}{H:Hp}{s s':Shared}
theorem Inv.env0 (I:Inv X pins σ H s):Env0 X.prog X.w X.K X.mg X.base X.A X.stack s H :=
 ⟨I.ok.frames,I.ok.mod,I.bs,Nat.le_trans I.ok.bsz I.sz,I.stack,I.stkFree,I.hok,I.bare⟩
theorem Inv.after {Q:VK}{u:Value} (I:Inv X pins σ H s) (h:CE X.stack X.prog X.w H s Q u s'):EP X pins σ Q u s':=by
 obtain ⟨v,H',os,bare,un,hok,r,q⟩:=h;obtain ⟨hh,g,d,t,os'⟩:=s';obtain rfl:os'=s.os:=os;exact ⟨v,H',I.call (h':=hh) (g':=g) (d':=d) (t':=t) (ch:=[]) un hok bare (fun b z=>absurd z (by simp)),r,q⟩
end
noncomputable def vT (sp:Sp) (dvs:List V) (E:XK) (t:TA):TE:=fun σ H Q=>t σ H fun vs H1=>sp (vs++dvs) H1 Q E
noncomputable def pV (C:Addr) (m:Str) (sp:Sp) (dvs:List V) (E:XK) (ta:TE) (t:TA):TE:=fun σ H Q=>ta σ H fun x H1=>∃ a dx fs,x=.ref a/\H1 a=some (.ins C dx fs)/\fs.lookup m=none /\
 t σ H1 fun vs H2=>sp (x :: (vs++dvs)) H2 Q E
noncomputable def Ac (C:Addr) (sp:Sp) (dvs:List V) (E:XK) (t:TA):TE:=fun σ H Q=>t σ H fun vs H1=>∀ x dx,H1 x=none->H1 dx=none->dx≠x ->
 sp (.ref x :: (vs++dvs)) (aw (aw H1 dx (.own x)) x (.ins C dx [])) (fun v H2=>v=.non/\Q (.ref x) H2) E
noncomputable def fc (K:Frag) (fd:FuncData) (ps:List Str) (ds:List Value):Prop :=
 ∀ (s:Shared) (us:List Value),K.In s.heap->(us++ds).length=ps.length->BindsTo s fd ⟨us,[]⟩ (ps.zip (us++ds))
theorem fc.all {K:Frag}{fd:FuncData}{ps:List Str} (h:∀ us:List Value,us.length=ps.length->bindArgs fd ⟨us,[]⟩=pure (ps.zip us)):fc K fd ps []:=fun s us _ hl=>by
 rw [List.append_nil] at hl ⊢;exact .of_eq (h us hl)
noncomputable def eu (CX:vK) (X:Cx) (E:XK):Prop:=∀ (pins:List (Addr×Obj)) (σ:St) (H:Hp) (s:Shared) (e:Value) (s':Shared),Inv X pins σ H s->CX X.stack H s E e s'->X.xe e s'
section
variable {X:Cx}{CX:vK}{k:Nat}{f C:Addr}{fd:FuncData}{ps:List Str}{sp:Sp}{dvs:List V}{ds:List Value}{E:XK}{x m:Str}{p pos apos:Pos}{e o:Expr}{es:List Expr}{ta:TE}{t:TA}
theorem rK {pins:List (Addr×Obj)}{σ:St}{H:Hp}{s:Shared}{Q:VK}{us:List Value}{vs:List V} (F:FnOk X.prog X.w X.K X.mg X.base CX k f fd ps sp) (hr:Room k X.A) (hb:fc X.K fd ps ds) (hd:aL dvs ds) (hx:eu CX X E)
  (I:Inv X pins σ H s) (r:aL vs us) (h:sp (vs++dvs) H Q E):wpAny (model X.prog X.w) X.A (call (.ref f) us) (EP X pins σ Q) X.xe s:=by
 have r2:aL (vs++dvs) (us++ds):=r.append hd;have hl:(us++ds).length=ps.length:=by rw [<- r2.length]; exact F.len _ _ _ _ h
 refine wpAny_call (codeAny_mono (F.run X.A X.stack s H ⟨us,[]⟩ (us++ds) (vs++dvs) Q E hr I.env0 (hb s us I.kIn hl) r2 h) fun r s' hq=>?_);cases r with
 | error e=>exact hx pins σ H s e s' I hq
 | ok fl =>
  cases fl with
  | ret u=>exact I.after hq
  | next=>exact False.elim hq
  | brk=>exact False.elim hq
  | cont=>exact False.elim hq
theorem t_ (F:FnOk X.prog X.w X.K X.mg X.base CX k f fd ps sp) (hr:Room k X.A) (hg:Gl X x) (hm:X.mg x=some (.ref f)) (hk:PySem.W.keepIn X.K (.ref f)=true) (hb:fc X.K fd ps ds) (hd:aL dvs ds) (hx:eu CX X E)
  (ha:PA X (e :: es) t) (hdb:(x==("__debug__":Str))=false:=by decide) (he:starEach (e :: es) X.env=(false,eval e X.env) :: starEach es X.env:=by rfl) (hpl:(backTo pos (starEach es X.env)).any (·.1)=false:=by rfl) :
  PE X (.Call (.Name x p) (e :: es) [] pos) (vT sp dvs E t):=by
 intro pins s σ H Q I h;refine wpAny_Call_Name_kw (kg I hg hm ?_ hdb);refine PySem.W.callWith_K (h₀:=X.base) I.ok.mod.kin hk (bE (ha pos pins s σ H _ I h) fun us s1 ⟨vs,H1,I1,r,q⟩=>⟨I1.kIn,?_⟩) he hpl;exact rK F hr hb hd hx I1 r q
theorem t8 {pl:Sem Bool} (he:PE X o ta) (c:Cls X.K C) (hm:Meth X.K C m f) (F:FnOk X.prog X.w X.K X.mg X.base CX k f fd ps sp) (hr:Room k X.A) (hb:fc X.K fd ps ds) (hd:aL dvs ds) (hx:eu CX X E) (ha:PA X (e :: es) t)
  (hst:starEach (e :: es) X.env=(false,eval e X.env) :: starEach es X.env:=by rfl) (hpl:(backTo pos (starEach es X.env)).any (·.1)=false:=by rfl)
  (ht:eval (.Call (.Attribute o m apos) (e :: es) [] pos) X.env=(do
   let ov <- eval o X.env
   standAt apos.atName
   let (f,first) <- holding [ov] (getMethod ov m pl)
   callWith pos f first (backTo pos (starEach (e :: es) X.env)) (backToKw pos (keywordEach [] X.env))):=by rfl) :
  PE X (.Call (.Attribute o m apos) (e :: es) [] pos) (pV C m sp dvs E ta t):=by
 intro pins s σ H Q I h;refine PySem.W.methodCall_KW (pl:=pl) (bE (he pins s σ H _ I h) fun u s1 ⟨x,H1,I1,rx,a,dx,fs,ex,ea,l,q⟩=>?_) ht;subst ex;obtain rfl:u=Value.ref a:=rx;refine lU I1 ea c hm l ?_;refine PySem.W.callWith_K (first:=[.ref a]) (h₀:=X.base) I.ok.mod.kin hm.kp (bE (ha pos pins s1 σ H1 _ I1 q) fun us s2 ⟨vs,H2,I2,r,q2⟩=>⟨I2.kIn,?_⟩) hst hpl;exact rK (us:=.ref a :: us) (vs:=.ref a :: vs) F hr hb hd hx I2 (.cons rfl r) q2
theorem xo {pl:Sem Bool} (he:PE X o ta) (c:Cls X.K C) (hm:Meth X.K C m f) (F:FnOk X.prog X.w X.K X.mg X.base CX k f fd ps sp) (hr:Room k X.A) (hb:fc X.K fd ps ds) (hd:aL dvs ds) (hx:eu CX X E)
  (ht:eval (.Call (.Attribute o m apos) [] [] pos) X.env=(do
   let ov <- eval o X.env
   standAt apos.atName
   let (f,first) <- holding [ov] (getMethod ov m pl)
   callWith pos f first (backTo pos (starEach [] X.env)) (backToKw pos (keywordEach [] X.env))):=by rfl) :
  PE X (.Call (.Attribute o m apos) [] [] pos) (pV C m sp dvs E ta kA):=by
 intro pins s σ H Q I h;refine PySem.W.methodCall_KW (pl:=pl) (bE (he pins s σ H _ I h) fun u s1 ⟨x,H1,I1,rx,a,dx,fs,ex,ea,l,q⟩=>?_) ht;subst ex;obtain rfl:u=Value.ref a:=rx;refine lU I1 ea c hm l ?_;exact PySem.W.callWith_K0 (first:=[.ref a]) I1.kIn hm.kp (rK (us:=[.ref a]) (vs:=[.ref a]) F hr hb hd hx I1 (.cons rfl .nil) q)
structure Mk (K:Frag) (C f:Addr):Prop where
 makes:PySem.W.makesIn K C=true
 init:PySem.W.findIn K (.ref C) "__init__" = some (some (.ref f))
 fn:PySem.W.isFn K (.ref f)=true
 kp:PySem.W.keepIn K (.ref C)=true
theorem xc {pins:List (Addr×Obj)}{σ:St}{H:Hp}{s:Shared}{Q:VK}{us:List Value}{vs:List V} (M:Mk X.K C f) (F:FnOk X.prog X.w X.K X.mg X.base CX k f fd ps sp) (hr:Room (k+1) X.A) (hb:fc X.K fd ps ds) (hd:aL dvs ds)
  (hx:eu CX X E) (I:Inv X pins σ H s) (r:aL vs us)
  (h:∀ x dx,H x=none->H dx=none->dx≠x->sp (.ref x :: (vs++dvs)) (aw (aw H dx (.own x)) x (.ins C dx [])) (fun v H2=>v=.non/\Q (.ref x) H2) E) :
  wpAny (model X.prog X.w) X.A (call (.ref C) us) (EP X pins σ Q) X.xe s:=by
 have hq:=h (s.heap.objs.size+1) s.heap.objs.size (I.hok.fresh (Nat.le_succ _)) (I.hok.fresh (Nat.le_refl _)) (Nat.ne_of_lt (Nat.lt_succ_self _));have I2:=Inv.made (C:=C) I;have r2:aL (V.ref (s.heap.objs.size+1) :: (vs++dvs)) (Value.ref (s.heap.objs.size+1) :: (us++ds)):=.cons rfl (r.append hd);have hl:(Value.ref (s.heap.objs.size+1) :: us++ds).length=ps.length:=by
  have e:=r2.length;rw [F.len _ _ _ _ hq] at e;exact e.symm
 refine wpAny_call (xB (f:=f) I.kIn M.makes M.init (beq_iff_eq.mp M.fn) (codeAny_mono (F.run _ X.stack _ _ ⟨Value.ref (s.heap.objs.size+1) :: us,[]⟩ (Value.ref (s.heap.objs.size+1) :: (us++ds)) _ _ E (hr.make C us [])
  (I2.env0.make C us []) (hb _ (Value.ref (s.heap.objs.size+1) :: us) I2.kIn hl) r2 hq) fun r s' hq'=>?_))
 cases r with
 | error e=>exact hx pins σ _ _ e s' I2 hq'
 | ok fl =>
  cases fl with
  | ret u =>
   obtain ⟨v,H',I3,rv,ev,q3⟩:=I2.after hq';subst ev;exact ⟨rv,⟨V.ref (s.heap.objs.size+1),H',I3,rfl,q3⟩⟩
  | next=>exact False.elim hq'
  | brk=>exact False.elim hq'
  | cont=>exact False.elim hq'
theorem yZ (M:Mk X.K C f) (F:FnOk X.prog X.w X.K X.mg X.base CX k f fd ps sp) (hr:Room (k+1) X.A) (hg:Gl X x) (hm:X.mg x=some (.ref C)) (hb:fc X.K fd ps ds) (hd:aL dvs ds) (hx:eu CX X E)
  (ha:PA X (e :: es) t) (hdb:(x==("__debug__":Str))=false:=by decide) (he:starEach (e :: es) X.env=(false,eval e X.env) :: starEach es X.env:=by rfl) (hpl:(backTo pos (starEach es X.env)).any (·.1)=false:=by rfl) :
  PE X (.Call (.Name x p) (e :: es) [] pos) (Ac C sp dvs E t):=by
 intro pins s σ H Q I h;refine wpAny_Call_Name_kw (kg I hg hm ?_ hdb);refine PySem.W.callWith_K (h₀:=X.base) I.ok.mod.kin M.kp (bE (ha pos pins s σ H _ I h) fun us s1 ⟨vs,H1,I1,r,q⟩=>⟨I1.kIn,?_⟩) he hpl;exact xc M F hr hb hd hx I1 r q
end
section
variable {X:Cx}{CX:vK}{k:Nat}{f C:Addr}{fd:FuncData}{ps ks:List Str}{sp:Sp}{E:XK}{x m:Str}{p pos apos kpos:Pos}{e o:Expr}{es:List Expr}{kws:List Keyword}{te ta:TE}{t tk:TA}{nm:Option Str}
variable {g:List Value->List Value->List Value}{gV:List V->List V->List V}
end
structure FnScope (N P:List Str) (sc:Scope):Prop where
 kind:sc.kind=.function
 co:sc.isCoroutine=false
 gen:sc.isGenerator=false
 nd:N.Nodup
 pre:N.take P.length=P
 par:∀ x∈P,sc.names.lookup x=some .local\/sc.names.lookup x=some .cell
 nofree:∀ y∈sc.names,y.2≠.free
theorem nR {kindOf:Str->Option NameKind}{x:Str}:∀ {binds:List (Str×Value)}{m:Str->Option Value},(∀ v,(x,v)∉binds)->bindL kindOf binds m x=m x
 | [],_,_=>rfl
 | (n,v) :: r,m,h=>by
  unfold bindL;rw [nR fun w hw=>h w (List.mem_cons_of_mem _ hw)];split
  ·have:x≠n:=by rintro rfl; exact h v List.mem_cons_self
   simp [this]
  ·rfl
theorem nT {kindOf:Str->Option NameKind}{x:Str}:∀ {binds:List (Str×Value)}{m:Str->Option Value},(∀ v,(x,v)∉binds)->bindC kindOf binds m x=m x
 | [],_,_=>rfl
 | (n,v) :: r,m,h=>by
  unfold bindC;rw [nT fun w hw=>h w (List.mem_cons_of_mem _ hw)];split
  ·rfl
  ·have:x≠n:=by rintro rfl; exact h v List.mem_cons_self
   simp [this]
theorem nS {kindOf:Str->Option NameKind}{x:Str}{v:Value}:∀ {P:List Str}{vs:List Value}{i:Nat}{m:Str->Option Value},P.Nodup->P[i]? = some x->vs[i]? = some v->kindOf x=some .local ->
  bindL kindOf (P.zip vs) m x=some v
 | [],_,_,_,_,h,_,_=>by simp at h
 | _ :: _,[],_,_,_,_,h,_=>by simp at h
 | p :: P,w :: vs,0,m,nd,h1,h2,hk=>by
  simp at h1 h2; subst h1; subst h2;show bindL kindOf ((p,w) :: P.zip vs) m p=_;unfold bindL;rw [nR fun v hv=>(List.nodup_cons.mp nd).1 (List.of_mem_zip hv).1,if_pos hk];simp
 | p :: P,w :: vs,i+1,m,nd,h1,h2,hk=>by
  show bindL kindOf ((p,w) :: P.zip vs) m x=_;unfold bindL;exact nS (i:=i) (List.nodup_cons.mp nd).2 (by simpa using h1) (by simpa using h2) hk
theorem nU {kindOf:Str->Option NameKind}{x:Str}{v:Value}:∀ {P:List Str}{vs:List Value}{i:Nat}{m:Str->Option Value},P.Nodup->P[i]? = some x->vs[i]? = some v->kindOf x≠some .local ->
  bindC kindOf (P.zip vs) m x=some v
 | [],_,_,_,_,h,_,_=>by simp at h
 | _ :: _,[],_,_,_,_,h,_=>by simp at h
 | p :: P,w :: vs,0,m,nd,h1,h2,hk=>by
  simp at h1 h2; subst h1; subst h2;show bindC kindOf ((p,w) :: P.zip vs) m p=_;unfold bindC;rw [nT fun v hv=>(List.nodup_cons.mp nd).1 (List.of_mem_zip hv).1,if_neg hk];simp
 | p :: P,w :: vs,i+1,m,nd,h1,h2,hk=>by
  show bindC kindOf ((p,w) :: P.zip vs) m x=_;unfold bindC;exact nU (i:=i) (List.nodup_cons.mp nd).2 (by simpa using h1) (by simpa using h2) hk
noncomputable def start (N:List Str) (vs:List V):St:=vs.map some++List.replicate (N.length - vs.length) none
noncomputable def jO (CX:vK) (P:Program) (w:World) (K:Frag) (mg:Str->Option Value) (base:Heap) (N:List Str) (qual:Str) (scope:Scope) (f:Addr) (cd:Value) (A:Around) (outer:List Env) (s:Shared) (H:Hp) (E:XK):Cx where
 prog:=P
 w:=w
 K:=K
 mg:=mg
 base:=base
 A:=A.deeper (envOfC qual scope s.heap.objs.size f cd)
 N:=N
 s₀:=s
 H₀:=H
 env:=envOfC qual scope s.heap.objs.size f cd
 outer:=outer
 stack:=envOfC qual scope s.heap.objs.size f cd :: outer
 ex:=[]
 calm:=true
 fn:=fun _=>true
 pn:=[]
 xe:=fun e s'=>wpAny (model P w) (A.deeper (envOfC qual scope s.heap.objs.size f cd)) (leaving (envOfC qual scope s.heap.objs.size f cd) e) (fun _ s''=>CX outer H s E e s'') (fun e' s''=>CX outer H s E e' s'') s'
theorem qG {sc:Scope}{n:Nat}{x:Str} (h:sc.names.lookup x=some .cell):∃ c,(cellsFrom n sc.names []).lookup x=some c:=by
 have q:=PySem.W.cellsFrom_some sc.names n [] (.inl h);exact Option.isSome_iff_exists.mp q
theorem vf {CX:vK}{P:Program}{w:World}{K:Frag}{mg:Str->Option Value}{base:Heap}{N ps:List Str}{qual:Str}{scope:Scope}{f:Addr}{cd:Value}{A:Around}{outer:List Env}{s s1:Shared}{H:Hp}{E:XK}{us:List Value}{vs:List V}
  (S:FnScope N ps scope) (hd:A.handled=none) (e0:Env0 P w K mg base A outer s H) (hl:vs.length=ps.length) (r:aL vs us)
  (x:InCallC s s.heap.objs.size (bindL (envOfC qual scope s.heap.objs.size f cd).kindOf (ps.zip us) fun _=>none) (cellsFrom (s.heap.objs.size+1) scope.names []) (bindC (envOfC qual scope s.heap.objs.size f cd).kindOf (ps.zip us) fun _=>none) s1) :
  Inv (jO CX P w K mg base N qual scope f cd A outer s H E) [] (start N vs) H s1:=by
 have hpl:ps.length<=N.length:=by have:=congrArg List.length S.pre; rw [List.length_take] at this; omega
 obtain ⟨h1,tk,rfl,hk⟩:=x.done;have noA:∀ b:Addr,b∉(jO CX P w K mg base N qual scope f cd A outer s H E).ex:=fun b z=>absurd (show b∈([]:List Addr) from z) (by simp);refine ⟨⟨e0.mod,S.kind,rfl,rfl,Nat.le_refl _,fun y z c h1 h2=>?_,fun y hy=>?_,fun y c _ h=>?_,fun _=>hd,Around.frames_deeper e0.frames,.inr ⟨rfl,rfl⟩,fun b z=>absurd z (noA b),e0.bs,e0.bsz,fun b _ _=>noA b,fun b z=>absurd z (noA b),e0.funs,e0.frf⟩,
  rfl,e0.bare,Un.kept hk,⟨_,x.toInCall.ns,fun i y v h1 h2 h3=>?_⟩,fun y c h=>⟨_,x.cell y c h⟩,e0.hok.fresh (Nat.le_refl _),fun y c h=>?_,fun p hp=>absurd (show p∈([]:List (Addr×Obj)) from hp) (by simp),e0.hok.kept hk,?_⟩
 ·exact name_of_addr x.apart (PySem.mem_of_lookup h1) (PySem.mem_of_lookup h2)
 ·have hy:scope.names.lookup y=some .cell\/scope.names.lookup y=some .free:=hy
  rcases hy with hy | hy
  ·exact qG hy
  ·exact absurd rfl (S.nofree _ (PySem.mem_of_lookup hy))
 ·exact Nat.le_of_lt (x.above y c (PySem.mem_of_lookup h))
 ·have hi:i < vs.length:=by
   unfold start at h2
   by_cases hi:i < vs.length
   ·exact hi
   ·rw [List.getElem?_append_right (by simpa using hi)] at h2
    rw [List.getElem?_replicate] at h2;split at h2<;>cases h2
  have ha:vs[i]? = some v:=by
   unfold start at h2;rw [List.getElem?_append_left (by simpa using hi),List.getElem?_map] at h2;cases e:vs[i]? with
   | none=>rw [e] at h2; cases h2
   | some a=>rw [e] at h2; cases h2; rfl
  obtain ⟨u,hu,rv⟩:=r.get ha;have hp:ps[i]? = some y:=by
   rw [<- S.pre,List.getElem?_take_of_lt (by omega)]; exact h1
  have ndP:ps.Nodup:=by rw [<- S.pre]; exact S.nd.sublist (List.take_sublist _ _)
  refine ⟨u,rv,?_⟩;rcases S.par y (List.mem_of_getElem? hp) with k | k
  ·exact .inl ⟨k,nS ndP hp hu k⟩
  ·obtain ⟨c,e⟩:=qG (n:=s.heap.objs.size+1) k
   refine .inr ⟨.inl k,c,e,?_⟩;have q:=x.cell y c e;rw [nU ndP hp hu (by show scope.names.lookup y≠_; rw [k]; decide)] at q;exact q
 ·exact e0.hok.fresh (Nat.le_of_lt (x.above y c (PySem.mem_of_lookup h)))
 ·unfold start
  show _=N.length;rw [List.length_append,List.length_map,List.length_replicate];omega
theorem Aq {CX:vK}{P:Program}{w:World}{K:Frag}{mg:Str->Option Value}{base:Heap}{k:Nat}{f:Addr}{name qual:Str}{params:Arguments}{body:List Stmt}{scope:Scope}{dV kV doc pm cdv ct oc:Value}{an od:Option Addr}
  {osl:Array (Option Value)}{N ps:List Str}{sp:Sp} (lk:K.lookup f=some ⟨oc,od,.func (PySem.W.fnOf name qual params body scope dV kV doc pm an cdv ct),osl⟩) (hcd:PySem.W.codeIn K cdv qual=true) (S:FnScope N ps scope)
  (len:∀ vs H Q E,sp vs H Q E->vs.length=ps.length)
  (hbody:∀ (A:Around) (outer:List Env) (s:Shared) (H:Hp) (vs:List V) (Q:VK) (E:XK),Room k (A.deeper (envOfC qual scope s.heap.objs.size f cdv))->sp vs H Q E ->
   ∃ t,gI (jO CX P w K mg base N qual scope f cdv A outer s H E) body t/\t { nx:=fun _ H'=>Q .non H',rt:=Q } (start N vs) H) :
  FnOk P w K mg base CX (k+1) f (PySem.W.fnOf name qual params body scope dV kV doc pm an cdv ct) ps sp:=by
 refine ⟨len,fun A outer s H args us vs Q E hr e0 hb r hsp=>?_⟩;have hl:=len _ _ _ _ hsp;have KX:K.In s.heap:=e0.mod.kin.keeps fun b o e=>(e0.bs b o e).1;have lim:s.heap.NoLimit:=e0.mod.nolimit.keeps fun b o e=>(e0.bs b o e).1;have hkind:∀ y∈ps.zip us,scope.names.lookup y.1=some .local\/(scope.names.lookup y.1=some .cell/\((cellsFrom (s.heap.objs.size+1) scope.names []).lookup y.1).isSome=true):=fun ⟨n,v⟩ hy=>by
  rcases S.par n (List.of_mem_zip hy).1 with q | q
  ·exact .inl q
  ·exact .inr ⟨q,PySem.W.cellsFrom_some _ _ _ (.inl q)⟩
 refine codeAny_call_function hr.depth (KX _ _ lk) rfl S.co S.gen rfl (PySem.W.codeRec_of KX hcd) (hb _ _ _ _ ?_);refine wpAny_newFunctionEnv_cells S.kind hkind fun env he s1 x=>?_;subst he;refine ⟨lim.keeps x.toInCall.keep,codeAny_func ?_⟩;obtain ⟨t,ht,hq⟩:=hbody A outer s H vs Q E (hr.deeper _) hsp;have I:Inv (jO CX P w K mg base N qual scope f cdv A outer s H E) [] (start N vs) H s1:=vf S hr.hd e0 hl r x;refine wpAny_mono (ht [] s1 (start N vs) H _ I hq) (fun fl s' hs=>?_) fun e s' hs=>hs;have fin:∀ {σ':St}{H':Hp}{v:V}{u:Value},Inv (jO CX P w K mg base N qual scope f cdv A outer s H E) [] σ' H' s'->RelV v u->Q v H'->CE outer P w H s Q u s' :=
  fun {σ' H' v u} J rv q=>⟨v,H',J.os,J.bare,J.base,J.hok,rv,q⟩
 cases fl with
 | ret u =>
  obtain ⟨v,σ',H',J,rv,q⟩:=hs;exact fin J rv q
 | next =>
  obtain ⟨σ',H',J,q⟩:=hs;exact fin (v:=V.non) (u:=Value.none) J rfl q
 | brk =>
  obtain ⟨_,_,_,q⟩:=hs;exact False.elim q
 | cont =>
  obtain ⟨_,_,_,q⟩:=hs;exact False.elim q
section
variable {X:Cx}{x:Str}{p pos:Pos}{e:Expr}{es:List Expr}{t:TA}{id T:String}{r:List V->Hp->VK->Prop}
noncomputable def D5 (r:List V->Hp->VK->Prop) (t:TA):TE:=fun σ H Q=>t σ H fun vs H1=>r vs H1 Q
theorem aB (hc:bS X (.builtin id) r) (hg:Gl X x) (hm:X.mg x=none) (hv:bootBuiltins x=some (.builtin id)) (ha:PA X (e :: es) t) (hn:x ≠ "__name__":=by decide) (hdb:(x==("__debug__":Str))=false:=by decide)
  (he:starEach (e :: es) X.env=(false,eval e X.env) :: starEach es X.env:=by rfl) (hpl:(backTo pos (starEach es X.env)).any (·.1)=false:=by rfl):PE X (.Call (.Name x p) (e :: es) [] pos) (D5 r t):=by
 intro pins s σ H Q I h;refine wpAny_Call_Name_kw (i5 I hg hm hv ?_ hn hdb);exact PyProof.Rows.callWith_builtin1 (bE (ha pos pins s σ H _ I h) fun us s1 ⟨vs,H1,I1,r1,q1⟩=>hc pins s1 σ H1 vs us Q I1 r1 q1) he hpl
theorem b_ (hc:bS X (.type T) r) (hg:Gl X x) (hm:X.mg x=none) (hv:bootBuiltins x=some (.type T)) (ha:PA X (e :: es) t) (hn:x ≠ "__name__":=by decide) (hdb:(x==("__debug__":Str))=false:=by decide)
  (he:starEach (e :: es) X.env=(false,eval e X.env) :: starEach es X.env:=by rfl) (hpl:(backTo pos (starEach es X.env)).any (·.1)=false:=by rfl):PE X (.Call (.Name x p) (e :: es) [] pos) (D5 r t):=by
 intro pins s σ H Q I h;refine wpAny_Call_Name_kw (i5 I hg hm hv ?_ hn hdb);exact PyProof.Rows.callWith_type1 (bE (ha pos pins s σ H _ I h) fun us s1 ⟨vs,H1,I1,r1,q1⟩=>hc pins s1 σ H1 vs us Q I1 r1 q1) he hpl
end
end L2
namespace HT
open PySem PyProof.Rows
section
open PySem.SeqAt
open PySem.AutoSeq1 (wpAny_loadPart')
open PySem.MeetsSeq PySem.MeetsSeq2 PySem.MeetsSeq3
end
section
variable {prog:Program}{w:World}{A:Around}{E:Value->Shared->Prop}{s:Shared}
theorem zH {t b:Addr}{vs ws:List Value}{Q:Value->Shared->Prop} (ht:IsTup s.heap t vs.toArray) (hb:IsTup s.heap b ws.toArray) (hv:vs≠[])
  (h1:ws=[]->Q (.ref t) s) (h2:ws≠[]->Q (.ref s.heap.objs.size) { s with heap:=s.heap.push { cls:=.type "tuple",data:=.seq (vs++ws).toArray } })
  (hsz:vs.length+ws.length<=sizeLine):wpAny (model prog w) A (binaryOp .Add (.ref t) (.ref b)) Q E s:=by
 obtain ⟨⟨cls,dd,data,sl⟩,ho,hc,n,hd⟩:=id ht;obtain ⟨⟨cls2,dd2,data2,sl2⟩,ho2,hc2,n2,hd2⟩:=id hb;simp only at hc hd hc2 hd2;subst hc hd hc2 hd2;have e:vs.toArray++ws.toArray=(vs++ws).toArray:=by simp
 by_cases hw:ws=[]
 ·exact concat_meets ⟨_,ho,rfl⟩ ⟨_,ho2,rfl⟩ noFill_tuple_add seq_tuple_add PySem.F.slot_tuple_add PySem.F.entry_tuple_add (PySem.F.args_tuple_add_2 _ _)
   (tuple_addW1 t b vs.toArray ws.toArray n n2 dd dd2 sl sl2 (by simpa using hv) (by simp [hw])) ⟨ho,ho2,h1 hw⟩
 ·refine concat_meets ⟨_,ho,rfl⟩ ⟨_,ho2,rfl⟩ noFill_tuple_add seq_tuple_add PySem.F.slot_tuple_add PySem.F.entry_tuple_add (PySem.F.args_tuple_add_2 _ _)
   (tuple_addW2 t b vs.toArray ws.toArray n n2 dd dd2 sl sl2 (by simpa using hv) (by simpa using hw) (by rw [List.size_toArray,List.size_toArray]; exact hsz)) ⟨ho,ho2,?_⟩
  rw [e];exact h2 hw
noncomputable def sIx (n d:Nat):Option Int->Nat
 | none=>d
 | some v=>if v < 0 then (v+(n:Int)).toNat else min v.toNat n
theorem xb (n d:Nat):sIx n d none=d:=rfl
theorem oC (n d k:Nat):sIx n d (some (k:Int))=min k n:=by
 show (if (k:Int) < 0 then ((k:Int)+(n:Int)).toNat else min (k:Int).toNat n)=min k n;rw [if_neg (by omega),Int.toNat_natCast]
theorem A7 (n d:Nat) (hd:d<=n) (o:Option Int):sIx n d o<=n:=by
 cases o with
 | none=>exact hd
 | some v =>
  show (if v < 0 then (v+(n:Int)).toNat else min v.toNat n)<=n
  by_cases hv:v < 0
  ·rw [if_pos hv]; omega
  ·rw [if_neg hv]; exact Nat.min_le_right _ _
theorem uo (v:Int) (n d:Nat):(if v < 0 then max (v+(n:Int)) 0 else min v (n:Int))=((sIx n d (some v):Nat):Int):=by
 show (if v < 0 then max (v+(n:Int)) 0 else min v (n:Int))=(((if v < 0 then (v+(n:Int)).toNat else min v.toNat n):Nat):Int)
 by_cases hv:v < 0
 ·simp only [if_pos hv]; omega
 ·simp only [if_neg hv]; omega
theorem sY (lo hi:Option Int) (n:Nat):Builtin.Slice.sliceAdjust lo hi 1 (n:Int)=(((sIx n 0 lo:Nat):Int),((sIx n n hi:Nat):Int)):=by
 have h1:¬ ((1:Int) < 0):=by omega
 unfold Builtin.Slice.sliceAdjust;simp only [h1,if_false];refine Prod.ext ?_ ?_
 ·cases lo with
  | none=>rfl
  | some v=>exact uo v n 0
 ·cases hi with
  | none=>rfl
  | some v=>exact uo v n n
theorem sj (i j:Nat):Builtin.Slice.slicePlaces (i:Int) (j:Int) 1=j - i:=by
 unfold Builtin.Slice.slicePlaces;have h1:(1:Int) > 0:=by omega
 simp only [h1,if_true,Int.ediv_one];split<;>omega
theorem lJ {v:Value}{o:Option Int}{Q:Option Int->Shared->Prop} (p:IsPart v o) (h:Q o s):wpAny (model prog w) A (Builtin.Slice.slicePartIndex v) Q E s:=by
 cases p with
 | none=>exact slicePart_none h
 | int i t=>exact slicePart_int h
theorem jn {sl:Addr}{vl vu:Value}{lo hi:Option Int}{n:Nat}{Q:Int×Int×Nat->Shared->Prop} (hs:s.heap.IsSliceOf sl vl vu .none) (pl:IsPart vl lo) (pu:IsPart vu hi)
  (h:Q (((sIx n 0 lo:Nat):Int),1,sIx n n hi - sIx n 0 lo) s):wpAny (model prog w) A (Builtin.Slice.sliceApplied (.ref sl) (pure (n:Int))) Q E s:=by
 obtain ⟨os,hos,hcs,hds⟩:=id hs;unfold Builtin.Slice.sliceApplied Builtin.Slice.sliceFields;refine wpAny_bind (wpAny_bind (wpAny_field hos hds (x:=vl) rfl (wpAny_bind (wpAny_field hos hds (x:=vu) rfl (wpAny_bind (wpAny_field hos hds (x:=.none) rfl (wpAny_pure ?_)))))));refine wpAny_bind (slicePart_none ?_);show wpAny _ _ (if ((1:Int)==0)=true then _ else _) _ _ s;rw [if_neg (by decide)];refine wpAny_bind (lJ pl (wpAny_bind (lJ pu (wpAny_bind (wpAny_pure ?_)))));show wpAny _ _ (match Builtin.Slice.sliceAdjust lo hi 1 (n:Int) with | (lo,hi)=>pure (lo,(1:Int),Builtin.Slice.slicePlaces lo hi 1)) _ _ s;rw [sY lo hi n];show wpAny _ _ (pure (((sIx n 0 lo:Nat):Int),(1:Int),Builtin.Slice.slicePlaces ((sIx n 0 lo:Nat):Int) ((sIx n n hi:Nat):Int) 1)) _ _ s;rw [sj];exact wpAny_pure h
theorem xm (xs:Array Value) (i k:Nat):((List.range k).filterMap fun (m:Nat)=>xs[((i:Int)+(m:Int) * 1).toNat]?).toArray=((xs.toList.drop i).take k).toArray:=by
 have e:(fun (m:Nat)=>xs[((i:Int)+(m:Int) * 1).toNat]?)=fun m=>xs[i+m]?:=by
  funext m
  have:((i:Int)+(m:Int) * 1).toNat=i+m:=by omega
  rw [this]
 rw [e];have:=pick_run xs i k;rw [List.filterMap_map] at this;have e2:((fun x=>xs[x]?) ∘ fun x=>i+x)=fun m=>xs[i+m]?:=rfl;rw [e2] at this;rw [this]
theorem iY {t sl:Addr}{items:Array Value}{vl vu:Value}{lo hi:Option Int}{Q:Value->Shared->Prop} (ht:IsTup s.heap t items) (hs:s.heap.IsSliceOf sl vl vu .none) (pl:IsPart vl lo) (pu:IsPart vu hi)
  (hw:¬ (sIx items.size 0 lo=0/\sIx items.size items.size hi=items.size))
  (h:Q (.ref s.heap.objs.size) { s with heap:=s.heap.push { cls:=.type "tuple",data:=.seq ((items.toList.drop (sIx items.size 0 lo)).take (sIx items.size items.size hi - sIx items.size 0 lo)).toArray } })
  (hsz:items.size<=sizeLine):wpAny (model prog w) A (getItem (.ref t) (.ref sl)) Q E s:=by
 have htake:sizeOk (.seq ((items.toList.drop (sIx items.size 0 lo)).take (sIx items.size items.size hi - sIx items.size 0 lo)).toArray):=by
  show ((items.toList.drop (sIx items.size 0 lo)).take (sIx items.size items.size hi - sIx items.size 0 lo)).toArray.size<=sizeLine;rw [List.size_toArray,List.length_take,List.length_drop,Array.length_toList];omega
 have hj:sIx items.size items.size hi<=items.size:=A7 _ _ (Nat.le_refl _) hi;obtain ⟨os,hos,hcs,hds⟩:=id hs;have hTs:s.TypeIs (.ref sl) "slice":=⟨os,hos,hcs⟩;unfold getItem
 try with_reducible refine wpAny_holding ?_
 first | refine wpAny_bind (wpAny_pure ?_) | skip
 refine wpAny_bind (wpAny_sequenceKey ht.typeIs (by decide) ?_);refine wpAny_bind (wpAny_callSpecial?_slot (name:=Str.ofString "__getitem__") ht.typeIs PyProof.Rows.slot_tuple_getitem
  (wpAny_call_entry PyProof.Rows.slot_tuple_getitem ht.typeIs entry_tuple_getitem ?_ (args_tuple_getitem _ _)))
 show wpAny _ _ (Builtin.Tuple.tupleItemsOf (.ref t) >>= _) _ _ s;refine wpAny_bind (tupleItemsOf_ ht ?_);refine wpAny_bind (wpAny_typeOf hTs ?_);rw [if_pos (by decide)];refine wpAny_bind (jn hs pl pu ?_);have hno:¬ ((((sIx items.size 0 lo:Nat):Int)==0&&(1:Int)==1&&(sIx items.size items.size hi - sIx items.size 0 lo)==items.size)=true):=by
  intro q;rw [Bool.and_eq_true,Bool.and_eq_true] at q;have q1:((sIx items.size 0 lo:Nat):Int)=0:=eq_of_beq q.1.1;have q2:sIx items.size items.size hi - sIx items.size 0 lo=items.size:=eq_of_beq q.2;exact hw ⟨by omega,by omega⟩
 show wpAny _ _ (if (((sIx items.size 0 lo:Nat):Int)==0&&(1:Int)==1&&(sIx items.size items.size hi - sIx items.size 0 lo)==items.size)=true then _ else _) _ _ s;rw [if_neg hno,xm]
 first
  | exact wpAny_bind (m:=Builtin.Tuple.tupleExact _) (wpAny_newObj_type (wpAny_pure ⟨_,rfl,wpAny_pure h⟩) htake)
  | exact wpAny_bind (m:=Builtin.Tuple.tupleExact _) (wpAny_newObj_type (wpAny_bind (wpAny_pure (wpAny_pure ⟨_,rfl,wpAny_pure h⟩))) htake)
  | exact wpAny_bind (wpAny_bind (m:=Builtin.Tuple.tupleExact _) (wpAny_newObj_type (wpAny_pure (wpAny_pure ⟨_,rfl,wpAny_pure h⟩)) htake))
  | exact wpAny_bind (wpAny_bind (m:=Builtin.Tuple.tupleExact _) (wpAny_newObj_type (wpAny_pure ⟨_,rfl,wpAny_pure h⟩) htake))
end
end HT
namespace L2
open PySem PySem.Spec PyProof.Rows
abbrev TO:=St->Hp->(Option Int->Hp->Prop)->Prop
noncomputable def PO (X:Cx) (e:Option Expr) (t:TO):Prop :=
 ∀ (pins:List (Addr×Obj)) (s:Shared) (σ:St) (H:Hp) (Q:Option Int->Hp->Prop),Inv X pins σ H s->t σ H Q ->
  wpAny (model X.prog X.w) X.A (evalPart e X.env) (fun u s'=>∃ o H',Inv X pins σ H' s'/\IsPart u o/\Q o H') X.xe s
noncomputable def yG:TO:=fun _ H Q=>Q none H
noncomputable def CG (t:TE):TO:=fun σ H Q=>t σ H fun x H1=>∃ i,x=.int i/\Q (some i) H1
theorem lR {ns:List Int}:∀ {us:List Value},aL (ns.map V.int) us->IntsAre us ns:=by
 induction ns with
 | nil=>intro us r; rw [List.map_nil] at r; cases r; exact .nil
 | cons n ns ih =>
  intro us r;rw [List.map_cons] at r;cases r with
  | cons r1 r2 =>
   obtain ⟨t,e⟩:=r1;subst e;exact .cons n t (ih r2)
section
variable {X:Cx}{e:Expr}{te:TE}{lo hi:Option Expr}{tl th:TO}{pos p2:Pos}
theorem gz:PO X none yG:=by
 intro pins s σ H Q I h;rw [evalPart_none];exact wpAny_pure ⟨none,H,I,.none,h⟩
theorem dP (h:PE X e te):PO X (some e) (CG te):=by
 intro pins s σ H Q I hw;rw [evalPart_some];refine bE (h pins s σ H _ I hw) fun u s1 ⟨x,H1,I1,r1,q1⟩=>?_;obtain ⟨i,rfl,q⟩:=q1;obtain ⟨t,rfl⟩:=r1;exact ⟨some i,H1,I1,.int i t,q⟩
noncomputable def B_ (X:Cx) (r:V->Option Int->Option Int->Hp->VK->Prop):Prop :=
 ∀ (pins:List (Addr×Obj)) (s:Shared) (σ:St) (H:Hp) (x:V) (v vl vu:Value) (lo hi:Option Int) (sl:Addr) (Q:VK),Inv X pins σ H s->RelV x v->s.heap.IsSliceOf sl vl vu .none->IsPart vl lo->IsPart vu hi->r x lo hi H Q ->
  ∃ T id,typeLookup (.type T) "__getitem__" = pure (some (.builtin id))/\s.TypeIs v T/\wpAny (model X.prog X.w) X.A (getItem v (.ref sl)) (EP X pins σ Q) X.xe s
noncomputable def Ee (r:V->Option Int->Option Int->Hp->VK->Prop) (te:TE) (tl th:TO):TE:=fun σ H Q=>te σ H fun x H1=>tl σ H1 fun l H2=>th σ H2 fun u H3=>r x l u H3 Q
theorem dZ {r:V->Option Int->Option Int->Hp->VK->Prop} (hr:B_ X r) (he:PE X e te) (hl:PO X lo tl) (hu:PO X hi th):PE X (.Subscript e (.Slice lo hi none p2) pos) (Ee r te tl th):=by
 intro pins s σ H Q I h;refine Subscript_ (bE (he pins s σ H _ I h) fun v s1 ⟨x,H1,I1,r1,q1⟩=>?_);refine wpAny_Slice (bE (hl pins s1 σ H1 _ I1 q1) fun vl s2 ⟨l,H2,I2,pl,q2⟩=>bE (hu pins s2 σ H2 _ I2 q2) fun vu s3 ⟨u,H3,I3,pu,q3⟩=>?_);rw [evalPart_none];refine wpAny_pure ?_;have I4:Inv X pins σ H3 { s3 with heap:=s3.heap.push { cls:=.type "slice",data:=.fields #[vl,vu,.none] } }:=I3.kept (t':=s3.toks) fun b ob q=>Heap.get?_push_of_some _ q;obtain ⟨T,id,hT,ht,hg⟩:=hr pins { s3 with heap:=s3.heap.push { cls:=.type "slice",data:=.fields #[vl,vu,.none] } } σ H3 x v vl vu l u s3.heap.objs.size Q I4 r1 (Heap.IsSliceOf.new ..) pl pu q3;show wpAny (model X.prog X.w) X.A (subscriptTail e (.Slice lo hi none p2) v (.ref s3.heap.objs.size)) (EP X pins σ Q) X.xe { s3 with heap:=s3.heap.push { cls:=.type "slice",data:=.fields #[vl,vu,.none] } };exact tail_any (ops:=[.ref s3.heap.objs.size,v]) ht hT hg (by with_unfolding_all rfl)
noncomputable def gT (xs:List V) (lo hi:Option Int):List V:=(xs.drop (HT.sIx xs.length 0 lo)).take (HT.sIx xs.length xs.length hi - HT.sIx xs.length 0 lo)
theorem jN (xs:List V) (lo hi:Option Int):(gT xs lo hi).length<=xs.length:=by
 unfold gT;rw [List.length_take,List.length_drop];omega
noncomputable def Ck (K:Frag):V->Option Int->Option Int->Hp->VK->Prop:=fun x lo hi H Q=>∃ a xs,x=.ref a/\c8 K H a xs /\
 ¬ (HT.sIx xs.length 0 lo=0/\HT.sIx xs.length xs.length hi=xs.length)/\∀ p,H p=none->Q (.ref p) (aw H p (.tup (gT xs lo hi)))
theorem AX:B_ X (Ck X.K):=by
 intro pins s σ H x v vl vu lo hi sl Q I rx hs pl pu h;obtain ⟨a,xs,rfl,hx,hw,q⟩:=h;cases rx;obtain ⟨its,r,ht,hz⟩:=I.tuple hx;have hlen:its.toArray.size=xs.length:=by rw [List.size_toArray]; exact r.length.symm
 refine ⟨"tuple",_,PyProof.Rows.slot_tuple_getitem.lookup,ht.typeIs,?_⟩;refine HT.iY ht hs pl pu (by rw [hlen]; exact hw) ?_ (by rw [hlen]; exact hz);rw [hlen];refine ⟨.ref s.heap.objs.size,_,I.laid (t':=s.toks) (o:=.tup (gT xs lo hi)) (fun b ob q=>Heap.get?_push_of_some _ q) (Nat.le_refl _) ?_,rfl,q _ (I.hok.fresh (Nat.le_refl _))⟩;exact ⟨Nat.le_trans (jN xs lo hi) hz,_,(r.drop (HT.sIx xs.length 0 lo)).take (HT.sIx xs.length xs.length hi - HT.sIx xs.length 0 lo),IsTup.new _ _⟩
noncomputable def CQ (K:Frag):R2:=fun x y H Q=>∃ a b xs ys,x=.ref a/\y=.ref b/\c8 K H a xs/\c8 K H b ys/\xs≠[]/\xs.length+ys.length<=sizeLine /\
 (ys=[]->Q (.ref a) H)/\(ys≠[]->∀ p,H p=none->Q (.ref p) (aw H p (.tup (xs++ys))))
theorem aL.nil_iff {xs:List V}{us:List Value} (r:aL xs us):us=[]↔xs=[]:=by
 cases r with
 | nil=>simp
 | cons _ _=>simp
theorem y9:fz X (binaryOp .Add) (CQ X.K):=by
 intro pins s σ H x y v u Q I rx ry h;obtain ⟨a,b,xs,ys,rfl,rfl,ha,hb,hx,hz,q1,q2⟩:=h;cases rx;cases ry;obtain ⟨its,r1,p1,_⟩:=I.tuple ha;obtain ⟨its2,r2,p2,_⟩:=I.tuple hb;refine HT.zH p1 p2 (fun z=>hx (r1.nil_iff.mp z)) (fun z=>⟨.ref a,H,I,rfl,q1 (r2.nil_iff.mp z)⟩) (fun z=>?_) (by rw [<- r1.length,<- r2.length]; exact hz);refine ⟨.ref s.heap.objs.size,_,I.laid (t':=s.toks) (o:=.tup (xs++ys)) (fun b ob q=>Heap.get?_push_of_some _ q) (Nat.le_refl _) ?_,rfl,q2 (fun w=>z (r2.nil_iff.mpr w)) _ (I.hok.fresh (Nat.le_refl _))⟩;exact ⟨by rw [List.length_append]; exact hz,_,r1.append r2,IsTup.new _ _⟩
end
noncomputable def zR (n:Nat) (i:Int):Option Nat:=if 0<=i then (if i < n then some i.toNat else none) else if -(n:Int)<=i then some (i+n).toNat else none
noncomputable def mr {α:Type} (xs:List α) (i:Int):Option α:=(zR xs.length i).bind fun j=>xs[j]?
theorem zm {n:Nat}{i:Int}{j:Nat} (h:zR n i=some j):seqIndex? i n=some j/\j < n /\ -(n:Int)<=i/\i < n:=by
 unfold zR at h
 by_cases h0:0<=i
 ·rw [if_pos h0] at h
  by_cases h1:i < n
  ·rw [if_pos h1] at h
   have e:i.toNat=j:=Option.some.inj h;exact ⟨by rw [seqIndex_of h0 h1,e],by omega,by omega,h1⟩
  ·rw [if_neg h1] at h; cases h
 ·rw [if_neg h0] at h
  by_cases h1:-(n:Int)<=i
  ·rw [if_pos h1] at h
   have e:(i+n).toNat=j:=Option.some.inj h;exact ⟨by rw [seqIndex_neg (by omega) h1,e],by omega,h1,by omega⟩
  ·rw [if_neg h1] at h; cases h
theorem oR {α:Type}{xs:List α}{i:Int}{v:α} (h:mr xs i=some v):∃ j,seqIndex? i xs.length=some j/\xs[j]? = some v/\j < xs.length /\ -(xs.length:Int)<=i/\i < xs.length:=by
 unfold mr at h;cases e:zR xs.length i with
 | none=>rw [e] at h; cases h
 | some j =>
  rw [e] at h;obtain ⟨h1,h2,h3,h4⟩:=zm e;exact ⟨j,h1,h,h2,h3,h4⟩
theorem cN {α:Type}{xs:List α}{j:Nat}{v:α} (h:xs[j]? = some v):mr xs (j:Int)=some v:=by
 have hj:j < xs.length:=(List.getElem?_eq_some_iff.mp h).1;have e:zR xs.length (j:Int)=some j:=by
  unfold zR;rw [if_pos (by omega),if_pos (by omega)]; simp
 unfold mr; rw [e]; exact h
theorem qI {α:Type} (xs:List α) (v:α):mr (xs++[v]) (-1)=some v:=by
 have hl:(xs++[v]).length=xs.length+1:=by simp
 have e:zR (xs++[v]).length (-1)=some xs.length:=by
  unfold zR;rw [hl,if_neg (by decide),if_pos (by omega)]
  congr 1
  omega
 unfold mr;rw [e];show (xs++[v])[xs.length]? = some v;simp
noncomputable def zO (b:Expr):Prop:=∀ o i,subscripted b false o i=operate [o,i] (getItem o i)
noncomputable def BW (X:Cx) (r:R2):Prop :=
 ∀ (value slice:Expr) (pins:List (Addr×Obj)) (s:Shared) (σ:St) (H:Hp) (x y:V) (v u:Value) (Q:VK),Inv X pins σ H s->RelV x v->RelV y u->r x y H Q ->
  subscripted slice false v u=operate [v,u] (getItem v u)->wpAny (model X.prog X.w) X.A (subscriptTail value slice v u) (EP X pins σ Q) X.xe s
noncomputable def Cc (X:Cx) (id:String) (r:V->List V->Hp->VK->Prop):Prop :=
 ∀ (pins:List (Addr×Obj)) (s:Shared) (σ:St) (H:Hp) (x:V) (xs:List V) (v:Value) (us:List Value) (Q:VK),Inv X pins σ H s->RelV x v->aL xs us->r x xs H Q ->
  wpAny (model X.prog X.w) X.A (call (.builtin id) (v :: us)) (EP X pins σ Q) X.xe s
section
variable {X:Cx}{a b:Expr}{ta tb:TE}{pos:Pos}
theorem aP {r:R2} (hr:BW X r) (ha:PE X a ta) (hb:PE X b tb) (hs:zO b):PE X (.Subscript a b pos) (yk r ta tb):=by
 intro pins s σ H Q I h;exact Subscript_ (AH ha hb I h fun v u s2 x y H2 I2 rx ry q=>hr a b pins s2 σ H2 x y v u Q I2 rx ry q (hs _ _))
noncomputable def DM (K:Frag):R2:=fun x y H Q=>∃ p xs i v,x=.ref p/\y=.int i/\a9 K H p xs/\mr xs i=some v/\Q v H
noncomputable def DI (K:Frag):R2:=fun x y H Q=>∃ p xs i v,x=.ref p/\y=.int i/\c8 K H p xs/\mr xs i=some v/\Q v H
noncomputable def DJ:R2:=fun x y H Q=>∃ z i c,x=.str z/\y=.int i/\z.length<=sizeLine/\mr z.cps.toList i=some c/\Q (.str ⟨#[c]⟩) H
theorem zk:BW X (DM X.K):=by
 intro value slice pins s σ H x y v u Q I rx ry h hs;obtain ⟨p,xs,i,z,rfl,rfl,hq,he,q⟩:=h;cases rx;obtain ⟨t,rfl⟩:=ry;obtain ⟨its,r,pl,hz⟩:=I.list hq;obtain ⟨j,h1,h2,h3,h4,h5⟩:=oR he;obtain ⟨w,ew,rw'⟩:=r.get h2;have hl:=r.length;have hn:=kO;have fin:EP X pins σ Q w s:=⟨z,H,I,rw',q⟩
 by_cases h0:0<=i
 ·have hj:i.toNat=j:=by
   rw [seqIndex_of h0 h5] at h1;exact Option.some.inj h1
  exact item_listR pl.isList h0 (by omega) (by rw [hj]; simpa using ew) fin hs
 ·have hj:(i+(its.toArray.size:Int)).toNat=j:=by
   rw [seqIndex_neg (by omega) h4] at h1;rw [List.size_toArray,<- hl];exact Option.some.inj h1
  exact subscriptTail_builtinR (x:=w) pl.isList.typeIs slot_list_getitem.lookup
   (wpAny_getItem_list_neg (Q:=fun r s'=>r=w/\EP X pins σ Q r s') pl.isList (by omega) (by rw [List.size_toArray]<;>omega) (by omega) (by rw [hj]; simpa using ew) ⟨rfl,fin⟩) hs
theorem By:BW X (DI X.K):=by
 intro value slice pins s σ H x y v u Q I rx ry h hs;obtain ⟨p,xs,i,z,rfl,rfl,hq,he,q⟩:=h;cases rx;obtain ⟨t,rfl⟩:=ry;obtain ⟨its,r,pl,hz⟩:=I.tuple hq;obtain ⟨j,h1,h2,h3,h4,h5⟩:=oR he;obtain ⟨w,ew,rw'⟩:=r.get h2;have hl:=r.length;have hn:=kO;have fin:EP X pins σ Q w s:=⟨z,H,I,rw',q⟩;exact subscriptTail_builtinR (x:=w) pl.typeIs slot_tuple_getitem.lookup
  (getItem_tuple (j:=j) (Q:=fun r s'=>r=w/\EP X pins σ Q r s') pl (by omega) (by omega) (by rw [List.size_toArray,<- hl]; exact h1) (by simpa using ew) ⟨rfl,fin⟩) hs
theorem Bz:BW X DJ:=by
 intro value slice pins s σ H x y v u Q I rx ry h hs;obtain ⟨z,i,c,rfl,rfl,hz,he,q⟩:=h;obtain ⟨t,rfl⟩:=rx;obtain ⟨t',rfl⟩:=ry;obtain ⟨j,h1,h2,h3,h4,h5⟩:=oR he;have hl:z.cps.toList.length=z.length:=by simp [Str.length]
 rw [hl] at h1 h4 h5;have hn:=kO;exact tail_any (typeIs_str s z t) slot_str_getitem.lookup (getItem_str (c:=c) (by
  have e1:decide (i < -(2 ^ 63:Int))=false:=decide_eq_false (by omega);have e2:decide (i>=2 ^ 63)=false:=decide_eq_false (by omega);rw [e1,e2,Bool.or_false]) (by rw [h1]; simpa using h2) ⟨.str ⟨#[c]⟩,H,I.tok _,⟨_,rfl⟩,q⟩) hs
theorem oV (lo hi:Option Int) (n:Nat):(sliceBounds lo hi none n).1=((HT.sIx n 0 lo:Nat):Int)/\(sliceBounds lo hi none n).2.1=((HT.sIx n n hi:Nat):Int)/\(sliceBounds lo hi none n).2.2=1:=by
 refine ⟨?_,?_,rfl⟩
 ·cases lo with
  | none=>simp [sliceBounds,HT.sIx]
  | some i =>
   simp only [sliceBounds,HT.sIx,Option.getD_none,show (1:Int) > 0 by decide,if_true]
   by_cases h:i < 0
   ·simp only [h,if_true]<;>omega
   ·simp only [h,if_false]<;>omega
 ·cases hi with
  | none=>simp [sliceBounds,HT.sIx]
  | some i =>
   simp only [sliceBounds,HT.sIx,Option.getD_none,show (1:Int) > 0 by decide,if_true]
   by_cases h:i < 0
   ·simp only [h,if_true]<;>omega
   ·simp only [h,if_false]<;>omega
theorem mw (its:List Value) (lo hi:Option Int):slicePick its.toArray lo hi none=((its.drop (HT.sIx its.length 0 lo)).take (HT.sIx its.length its.length hi - HT.sIx its.length 0 lo)).toArray:=by
 obtain ⟨h1,h2,h3⟩:=oV lo hi its.toArray.size;unfold slicePick;rw [h1,h2,h3];simp only [sliceRange_one,pick_run,List.size_toArray]<;>rfl
noncomputable def DG (K:Frag):V->Option Int->Option Int->Hp->VK->Prop:=fun x lo hi H Q=>∃ a xs,x=.ref a/\a9 K H a xs/\∀ p,H p=none->Q (.ref p) (aw H p (.lst (gT xs lo hi)))
theorem yI:B_ X (DG X.K):=by
 intro pins s σ H x v vl vu lo hi sl Q I rx hs pl pu h;obtain ⟨a,xs,rfl,hx,q⟩:=h;cases rx;obtain ⟨its,r,ht,hz⟩:=I.list hx;have hlen:=r.length;refine ⟨"list",_,slot_list_getitem.lookup,ht.isList.typeIs,?_⟩;refine wpAny_getItem_list_slice ht.isList hs pl pu .none (by simp) ?_ (by rw [List.size_toArray]<;>omega);rw [mw,<- hlen];refine ⟨.ref s.heap.objs.size,_,I.laid (t':=s.toks) (o:=.lst (gT xs lo hi)) (fun b ob q=>Heap.get?_push_of_some _ q) (Nat.le_refl _) ?_,rfl,q _ (I.hok.fresh (Nat.le_refl _))⟩;exact ⟨Nat.le_trans (jN xs lo hi) hz,_,0,(r.drop (HT.sIx xs.length 0 lo)).take (HT.sIx xs.length xs.length hi - HT.sIx xs.length 0 lo),Heap.get?_push_size _ rfl⟩
theorem pJ:bS X (.builtin "len") (fun xs H Q=>∃ p ys,xs=[.ref p]/\(a9 X.K H p ys\/c8 X.K H p ys)/\Q (.int ys.length) H):=by
 intro pins s σ H xs us Q I r h;obtain ⟨p,ys,rfl,hq,q⟩:=h;obtain ⟨u,rfl,rx⟩:=dS r;cases rx;have hn:=kO;rcases hq with hq | hq
 ·obtain ⟨its,r',pl,hz⟩:=I.list hq
  have hlen:=r'.length;exact Calls.call_len_list pl.isList (by simp only [List.size_toArray]<;>omega) ⟨.int ys.length,H,I.tok _,⟨s.toks+1,by rw [List.size_toArray,hlen]⟩,q⟩
 ·obtain ⟨its,r',pl,hz⟩:=I.tuple hq
  have hlen:=r'.length;exact len_tuple pl (by simp only [List.size_toArray]<;>omega) ⟨.int ys.length,H,I.tok _,⟨s.toks+1,by rw [List.size_toArray,hlen]⟩,q⟩
theorem pI:bS X (.builtin "len") (fun xs H Q=>∃ z,xs=[.str z]/\z.length<=sizeLine/\Q (.int z.length) H):=by
 intro pins s σ H xs us Q I r h;obtain ⟨z,rfl,hz,q⟩:=h;obtain ⟨u,rfl,t,rfl⟩:=dS r;have hn:=kO;exact len_str (by omega) ⟨.int z.length,H,I.tok _,⟨_,rfl⟩,q⟩
theorem iT:bS X (.type "list") (fun xs H Q=>∃ p ys,xs=[.ref p]/\(a9 X.K H p ys\/c8 X.K H p ys)/\∀ l,H l=none->Q (.ref l) (aw H l (.lst ys))):=by
 intro pins s σ H xs us Q I r h;obtain ⟨p,ys,rfl,hq,q⟩:=h;obtain ⟨u,rfl,rx⟩:=dS r;cases rx;have fin:∀ (its:List Value),aL ys its->ys.length<=sizeLine->∀ (h':Heap) (c':Nat),(∀ b o',s.heap.get? b=some o'->h'.get? b=some o') ->
   h'.get? s.heap.objs.size=some { cls:=.type "list",dict:=none,data:=.seq its.toArray c',slots:=#[] }->EP X pins σ Q (.ref s.heap.objs.size) { s with heap:=h' }:=fun its r' hz h' c' kp e =>
  ⟨.ref s.heap.objs.size,_,I.laid (t':=s.toks) kp (Nat.le_refl _) (show a6 X.prog X.w _ h' _ (.lst ys) from ⟨hz,its,c',r',e⟩),rfl,q _ (I.hok.fresh (Nat.le_refl _))⟩
 rcases hq with hq | hq
 ·obtain ⟨its,r',pl,hz⟩:=I.list hq
  have hlen:=r'.length;obtain ⟨o,ho,hc,n,hd⟩:=pl.isList;exact call_list_seq p (.inl rfl) ho hc hd (fun h' c' kp e=>fin its r' hz h' c' kp e) (by simp only [List.size_toArray]<;>omega)
 ·obtain ⟨its,r',pl,hz⟩:=I.tuple hq
  have hlen:=r'.length;obtain ⟨o,ho,hc,n,hd⟩:=pl;exact call_list_seq p (.inr rfl) ho hc hd (fun h' c' kp e=>fin its r' hz h' c' kp e) (by simp only [List.size_toArray]<;>omega)
noncomputable def Dk (K:Frag) (T:String) (x:V) (H:Hp):Prop:=match x with
 | .str _=>T = "str"
 | .int _=>T = "int"
 | .ref p=>(T = "list" /\ ∃ xs,a9 K H p xs)\/(T = "tuple" /\ ∃ o,K.lookup p=some o/\o.cls=.type "tuple" /\ o.dict=none) \/
   (T = "dict" /\ ((∃ kvs,H p=some (.dK kvs))\/∃ kvs,H p=some (.dT kvs)))\/(T = "set" /\ ∃ S n,H p=some (.set S n))
 | _=>False
theorem v_ {pins:List (Addr×Obj)}{σ:St}{H:Hp}{s:Shared}{T:String}{x:V}{v:Value} (I:Inv X pins σ H s) (r:RelV x v) (ty:Dk X.K T x H) :
  s.TypeIs v T/\∀ a,v=.ref a->∃ ob,s.heap.get? a=some ob/\ob.dict=none:=by
 cases x with
 | str z =>
  obtain ⟨t,rfl⟩:=r;cases (show T = "str" from ty);exact ⟨typeIs_str s z t,fun _ e=>nomatch e⟩
 | int i =>
  obtain ⟨t,rfl⟩:=r;cases (show T = "int" from ty);exact ⟨typeIs_int s i t,fun _ e=>nomatch e⟩
 | ref p =>
  cases r;rcases ty with ⟨rfl,xs,hq⟩ | ⟨rfl,o,hk,hc,hd⟩ | ⟨rfl,hk⟩ | ⟨rfl,S,n,hk⟩
  ·obtain ⟨its,_,pl,_⟩:=I.list hq
   refine ⟨pl.isList.typeIs,fun a e=>?_⟩;cases e;obtain ⟨o,n,e,c,hd,_⟩:=pl;exact ⟨o,e,hd⟩
  ·refine ⟨⟨o,I.kIn p o hk,hc⟩,fun a e=>?_⟩
   cases e;exact ⟨o,I.kIn _ o hk,hd⟩
  ·have z:∃ o,s.heap.get? p=some o/\o.ExactDict:=by
    rcases hk with ⟨kvs,hk⟩ | ⟨kvs,hk⟩
    ·obtain ⟨_,_,_,_,o,_,_,e,ex,_⟩:=I.hok p _ hk
     exact ⟨o,e,ex⟩
    ·obtain ⟨_,_,_,_,o,_,_,e,ex,_⟩:=I.hok p _ hk
     exact ⟨o,e,ex⟩
   obtain ⟨o,e,ex⟩:=z;refine ⟨⟨o,e,ex.1⟩,fun a e2=>?_⟩;cases e2;exact ⟨o,e,ex.2.1⟩
  ·obtain ⟨o,_,_,_,e,ex,_⟩:=I.hok p _ hk
   refine ⟨⟨o,e,ex.1⟩,fun a e2=>?_⟩;cases e2;exact ⟨o,e,ex.2.1⟩
 | _=>exact False.elim ty
noncomputable def DD (K:Frag) (T:String) (r:V->List V->Hp->VK->Prop) (to:TE):TE:=fun σ H Q=>to σ H fun x H1=>Dk K T x H1/\r x [] H1 Q
noncomputable def BZ (K:Frag) (T:String) (r:V->List V->Hp->VK->Prop) (to:TE) (t:TA):TE:=fun σ H Q=>to σ H fun x H1=>Dk K T x H1/\t σ H1 fun xs H2=>r x xs H2 Q
variable {o e:Expr}{es:List Expr}{to:TE}{t:TA}{name:Str}{apos cpos:Pos}{T id:String}{r:V->List V->Hp->VK->Prop}
theorem Bh (pa:PlainAttrs T) (slot:Slot T name id) (hty:typeOf (.builtin id)=pure (.type "method_descriptor")) (hm:Cc X id r) (ho:PE X o to)
  (hbase:attributeBase o name X.env (eval o X.env)=eval o X.env:=by rfl) (hline:(apos.endLine==cpos.line)=true:=by rfl):PE X (.Call (.Attribute o name apos) [] [] cpos) (DD X.K T r to):=by
 intro pins s σ H Q I h;refine wpAny_Call_method0_late hbase hline (bE (ho pins s σ H _ I h) fun v s1 ⟨x,H1,I1,r1,ty,q1⟩=>?_);obtain ⟨h1,h2⟩:=v_ I1 r1 ty;exact ⟨T,id,pa,slot,hty,h1,h2,Calls.callWith_builtin rfl (PySem.evalArgs_none (hm pins s1 σ H1 x [] v [] Q I1 r1 .nil q1))⟩
theorem dG (pa:PlainAttrs T) (slot:Slot T name id) (hty:typeOf (.builtin id)=pure (.type "method_descriptor")) (hm:Cc X id r) (ho:PE X o to) (ha:PA X (e :: es) t)
  (hbase:attributeBase o name X.env (eval o X.env)=eval o X.env:=by rfl)
  (hfew:((backTo cpos (starEach (e :: es) X.env)).all (fun x=>!x.1)&&(backToKw cpos (keywordEach [] X.env)).all (fun x=>x.1.isSome)
   && decide ((e :: es).length+([]:List Keyword).length+(if ([]:List Keyword).isEmpty then 0 else 1) < 30))=true:=by rfl)
  (hline:(apos.endLine==cpos.line)=true:=by rfl) (hs:starEach (e :: es) X.env=(false,eval e X.env) :: starEach es X.env:=by rfl) (hplain:(backTo cpos (starEach es X.env)).any (·.1)=false:=by rfl) :
  PE X (.Call (.Attribute o name apos) (e :: es) [] cpos) (BZ X.K T r to t):=by
 intro pins s σ H Q I h;refine wpAny_Call_method_late hbase hfew hline rfl (bE (ho pins s σ H _ I h) fun v s1 ⟨x,H1,I1,r1,ty,q1⟩=>?_);obtain ⟨h1,h2⟩:=v_ I1 r1 ty;refine ⟨T,id,pa,slot,hty,h1,h2,?_⟩;have hA:=ha cpos pins s1 σ H1 _ I1 q1;rw [hs] at hA ⊢;refine Calls.callWith_builtin (by show (false || (backTo cpos (starEach es X.env)).any (·.1))=false; rw [hplain]<;>rfl) (Calls.evalArgs_plain ?_);exact bE hA fun us s2 ⟨vs,H2,I2,r2,q2⟩=>hm pins s2 σ H2 x vs v us Q I2 r1 r2 q2
/- xs.append(e),list.index on a module's tuple .. are Cc facts of 06m -/
end
noncomputable def Dt (X:Cx) (id:String) (r:V->List V->Hp->VK->Prop):Prop :=
 ∀ (pins:List (Addr×Obj)) (s:Shared) (σ:St) (H:Hp) (x:V) (xs:List V) (v:Value) (us:List Value) (Q:VK),Inv X pins σ H s->RelV x v->aL xs us->r x xs H Q ->
  wpAny (model X.prog X.w) X.A (call (.builtin id) (v :: us)) (EP X pins σ Q) X.xe s
theorem aL.one:∀ {x:V}{us:List Value},aL [x] us->∃ u,us=[u]/\RelV x u
 | _,_,.cons r .nil=>⟨_,rfl,r⟩
theorem aL.two {x y : V}{us : List Value} (h : aL [x,y] us) : ∃ u v,us=[u,v]/\RelV x u/\RelV y v := by
 cases h with
 | cons r t =>
  cases t with
  | cons q t => cases t; exact ⟨_,_,rfl,r,q⟩
theorem aL.rep {xs:List V}{us:List Value} (h:aL xs us):∀ k:Nat,aL (List.replicate k xs).flatten (List.replicate k us).flatten
 | 0=>.nil
 | k+1=>by
  rw [List.replicate_succ,List.replicate_succ,List.flatten_cons,List.flatten_cons];exact aL.append h (aL.rep h k)
theorem nI (its:List Value):∀ (k:Nat) (acc:List Value),
  List.foldl (fun x1 x2=>x1++x2) acc.toArray (List.replicate k its.toArray)=(acc++(List.replicate k its).flatten).toArray
 | 0,acc=>by simp
 | k+1,acc=>by
  have e:acc.toArray++its.toArray=(acc++its).toArray:=by simp
  have e2:(acc++its)++(List.replicate k its).flatten=acc++(List.replicate (k+1) its).flatten:=by
   rw [List.replicate_succ,List.flatten_cons,List.append_assoc]
  rw [<- e2,<- nI its k (acc++its),<- e,List.replicate_succ,List.foldl_cons]
section
variable {X:Cx}{pins:List (Addr×Obj)}{σ:St}{H:Hp}{s:Shared}{l b:Addr}{xs ys zs:List V}
theorem Inv.lset {its its':List Value}{n:Nat}{f:Array Value->Array Value}{t':Nat} (I:Inv X pins σ H s) (hH:H l=some (.lst xs))
  (e:s.heap.get? l=some { cls:=.type "list",data:=.seq its.toArray n }) (hf:f its.toArray=its'.toArray) (hv:aL ys its') (hz:ys.length<=sizeLine) :
  Inv X pins σ (aw H l (.lst ys)) { s with heap:=s.heap.update l (Obj.mapSeq f),toks:=t' }:=by
 have q:=PySem.IsL.update e f;rw [hf] at q;refine I.write (x:=l) (e:=l) (by rw [hH]; exact trivial) (.inl rfl) (fun b' u hb hu=>(Heap.get?_update_other s.heap (Obj.mapSeq f) (Ne.symm hb)).trans hu) ⟨_,q⟩ ?_;exact ⟨hz,its',_,hv,q⟩
theorem Inv.lnew {its:List Value}{t':Nat} (I:Inv X pins σ H s) (hv:aL ys its) (hz:ys.length<=sizeLine) :
  Inv X pins σ (aw H s.heap.objs.size (.lst ys)) { s with heap:=s.heap.push { cls:=.type "list",data:=.seq its.toArray },toks:=t' } :=
 I.laid (fun _ _ q=>Heap.get?_push_of_some _ q) (Nat.le_refl _) ⟨hz,its,0,hv,Heap.get?_push_size _ rfl⟩
theorem Inv.fresh (I:Inv X pins σ H s):H s.heap.objs.size=none:=I.hok.fresh (Nat.le_refl _)
theorem Inv.lstM (I:Inv X pins σ H s) (hH:H l=some (.lst xs)):xs.length<=sizeLine/\∃ (its:List Value) (n:Nat),aL xs its/\xs.length=its.length/\s.heap.get? l=some { cls:=.type "list",data:=.seq its.toArray n }:=by
 obtain ⟨z,its,n,r,e⟩:=I.hok l _ hH;exact ⟨z,its,n,r,r.length,e⟩
theorem xy {n:Nat} (h:n<=sizeLine):Builtin.List.listTooLong n=false:=by
 unfold Builtin.List.listTooLong;exact decide_eq_false (by omega)
end
section
variable {X:Cx}
noncomputable def iu:V->List V->Hp->VK->Prop:=fun x vs H Q=>∃ l xs y,x=.ref l/\vs=[y]/\H l=some (.lst xs)/\xs.length < sizeLine/\Q .non (aw H l (.lst (xs++[y])))
theorem bj:Dt X "list.append" iu:=by
 intro pins s σ H x vs v us Q I rx rv h;obtain ⟨l,xs,y,rfl,rfl,hH,hz,q⟩:=h;cases rx;obtain ⟨u,rfl,ru⟩:=rv.one;obtain ⟨z,its,n,r,hl,e⟩:=I.lstM hH;refine call_meets F.slot_list_append ⟨_,e,rfl⟩ F.entry_list_append (F.args_list_append_2 _ _) (PySem.list_append l its.toArray n u (by rw [List.size_toArray]; omega)) ⟨e,?_⟩;refine ⟨.non,_,I.lset (its':=its++[u]) hH e (by simp) (r.append (.cons ru .nil)) ?_,rfl,q⟩;rw [List.length_append,List.length_singleton];omega
noncomputable def DN:R2:=fun x y H Q=>∃ l b xs zs,x=.ref l/\y=.ref b/\H l=some (.lst xs)/\H b=some (.lst zs)/\xs.length+zs.length<=sizeLine/\∀ p,H p=none->Q (.ref p) (aw H p (.lst (xs++zs)))
theorem Br:fz X (binaryOp .Add) DN:=by
 intro pins s σ H x y v u Q I rx ry h;obtain ⟨l,b,xs,zs,rfl,rfl,hH,hB,hz,q⟩:=h;cases rx;cases ry;obtain ⟨z,its,n,r,hl,e⟩:=I.lstM hH;obtain ⟨z2,its2,n2,r2,hl2,e2⟩:=I.lstM hB;refine PySem.P.add_list e e2 ?_ (by rw [List.size_toArray,List.size_toArray]; omega);have ea:its.toArray++its2.toArray=(its++its2).toArray:=by simp
 rw [ea];exact ⟨.ref _,_,I.lnew (t':=s.toks) (r.append r2) (by rw [List.length_append]; omega),rfl,q _ I.fresh⟩
noncomputable def DH:R2:=fun x y H Q=>∃ l k xs,x=.ref l/\y=.int k/\H l=some (.lst xs) /\ -(2 ^ 63)<=k/\k < 2 ^ 63/\xs.length * k.toNat<=sizeLine /\
 ∀ p,H p=none->Q (.ref p) (aw H p (.lst (List.replicate k.toNat xs).flatten))
theorem ze {α:Type} (xs:List α) (k:Nat):(List.replicate k xs).flatten.length=k * xs.length:=by
 induction k with
 | zero=>simp
 | succ k ih=>rw [List.replicate_succ,List.flatten_cons,List.length_append,ih,Nat.succ_mul,Nat.add_comm]
theorem Bo:fz X (binaryOp .Mult) DH:=by
 intro pins s σ H x y v u Q I rx ry h;obtain ⟨l,k,xs,rfl,rfl,hH,h1,h2,hz,q⟩:=h;cases rx;obtain ⟨t,rfl⟩:=ry;obtain ⟨z,its,n,r,hl,e⟩:=I.lstM hH;have hlen:its.toArray.size * k.toNat<=sizeLine:=by rw [List.size_toArray,<- hl]; exact hz
 have hcap:¬ its.toArray.size * k.toNat > (2 ^ 63 - 1) / 8:=by
  have:(sizeLine:Nat)<=(2 ^ 63 - 1) / 8:=by decide
  omega
 have hfit:¬ (!Builtin.List.listFitsIndex k)=true:=by
  rw [fitsIndex_both h1 h2];exact Bool.false_ne_true
 have hlong:¬ Builtin.List.listTooLong (its.toArray.size * k.toNat)=true:=by
  rw [xy hlen];exact Bool.false_ne_true
 have hnew:List.foldl (fun x1 x2=>x1++x2) #[] (List.replicate (if its.toArray.isEmpty=true then 0 else k.toNat) its.toArray)=(List.replicate k.toNat its).flatten.toArray:=by
  have f0:∀ m:Nat,List.foldl (fun x1 x2=>x1++x2) #[] (List.replicate m its.toArray)=(List.replicate m its).flatten.toArray:=fun m=>by
   have:=nI its m [];rw [List.nil_append] at this;exact this
  rw [f0];cases its with
  | nil=>simp
  | cons a r'=>rw [if_neg (by simp)]
 refine wpAny_binaryOp_repeat_ref (T:="list") (U:="int") (by decide) ⟨_,e,rfl⟩ (fun s'=>typeIs_int s' k t) noFill_list_mul F.fills_int_mul F.slot_int_rmul repeat_list F.slot_int_index.lookup
  (call_meets F.slot_int_rmul (typeIs_int s k t) F.entry_int_rmul (F.args_int_rmul_2 _ _) (int___rmul___int_list k t l its.toArray n)
   ⟨e,rfl,⟨_,e,rfl⟩,call_meets F.slot_list_mul ⟨_,e,rfl⟩ F.entry_list_mul (F.args_list_mul_2 _ _) (AutoListH.list___mul___list_int_3 l its.toArray n k t hfit hcap hlong) ⟨e,?_⟩⟩)
 rw [hnew];exact ⟨.ref _,_,I.lnew (t':=s.toks) (r.rep k.toNat) (by rw [ze,Nat.mul_comm]; exact hz),rfl,q _ I.fresh⟩
end
section
variable {prog:Program}{w:World}{A:Around}{E:Value->Shared->Prop}{s:Shared}
end
section
variable {X:Cx}
end
section
variable {κ:Type} [DecidableEq κ]
noncomputable def a7 (kvs:List (κ×V)) (k:κ):Option V:=(kvs.find? fun kv=>decide (kv.1=k)).map (·.2)
noncomputable def bo (kvs:List (κ×V)) (k:κ) (v:V):List (κ×V) :=
 if (kvs.any fun kv=>decide (kv.1=k))=true then kvs.map (fun kv=>if kv.1=k then (kv.1,v) else kv) else kvs++[(k,v)]
noncomputable def fb (kvs:List (κ×V)) (k:κ):List (κ×V):=kvs.filter fun kv=>decide (kv.1≠k)
theorem bI {p:κ×V}{r:List (κ×V)}{k:κ} (e:p.1=k):a7 (p :: r) k=some p.2:=by simp [a7,List.find?_cons,e]
theorem bJ {p:κ×V}{r:List (κ×V)}{k:κ} (e:¬ p.1=k):a7 (p :: r) k=a7 r k:=by simp [a7,List.find?_cons,e]
theorem fE (k:κ):∀ kvs:List (κ×V),(kvs.any fun kv=>decide (kv.1=k))=(a7 kvs k).isSome
 | []=>rfl
 | p :: r=>by
  rw [List.any_cons]
  by_cases e:p.1=k
  ·simp only [bI e,decide_eq_true e,Bool.true_or,Option.isSome_some]
  ·rw [bJ e,decide_eq_false e,Bool.false_or]; exact fE k r
theorem pY (k j:κ) (y:V):∀ kvs:List (κ×V),a7 (kvs.map fun kv=>if kv.1=k then (kv.1,y) else kv) j=(a7 kvs j).map fun x=>if j=k then y else x
 | []=>rfl
 | p :: r=>by
  have ih:=pY k j y r;rw [List.map_cons]
  by_cases h:p.1=k
  ·rw [if_pos h]
   by_cases e:p.1=j
   ·rw [bI (p:=(p.1,y)) e,bI e,Option.map_some,if_pos (e.symm.trans h)]
   ·rw [bJ (p:=(p.1,y)) e,bJ e,ih]
  ·rw [if_neg h]
   by_cases e:p.1=j
   ·rw [bI (p:=p) e,bI e,Option.map_some,if_neg (fun z=>h (e.trans z))]
   ·rw [bJ (p:=p) e,bJ e,ih]
theorem m4 (k j:κ) (y:V):∀ kvs:List (κ×V),a7 kvs k=none->a7 (kvs++[(k,y)]) j=if j=k then some y else a7 kvs j
 | [],_=>by
  by_cases e:k=j
  ·rw [if_pos e.symm]; exact bI (p:=(k,y)) e
  ·rw [if_neg (fun z=>e z.symm)]; exact bJ (p:=(k,y)) e
 | p :: r,hn=>by
  rw [List.cons_append];have hk:¬ p.1=k:=fun z=>by rw [bI z] at hn; cases hn
  rw [bJ hk] at hn;have ih:=m4 k j y r hn
  by_cases e:p.1=j
  ·rw [bI e,bI e,if_neg (fun z=>hk (e.trans z))]
  ·rw [bJ e,bJ e,ih]
theorem iB (kvs:List (κ×V)) (k j:κ) (y:V):a7 (bo kvs k y) j=if j=k then some y else a7 kvs j:=by
 unfold bo
 by_cases a:(kvs.any fun kv=>decide (kv.1=k))=true
 ·rw [if_pos a,pY]
  rw [fE] at a
  by_cases e:j=k
  ·obtain ⟨x,hx⟩:=Option.isSome_iff_exists.mp a
   rw [if_pos e,e,hx,Option.map_some,if_pos rfl]
  ·rw [if_neg e]
   cases a7 kvs j with
   | none=>rfl
   | some x=>rw [Option.map_some,if_neg e]
 ·rw [if_neg a]
  refine m4 k j y kvs ?_;rw [fE] at a;cases q:a7 kvs k with
  | none=>rfl
  | some x=>rw [q] at a; exact (a rfl).elim
theorem c6 (kvs:List (κ×V)) (k:κ) (v:V):(bo kvs k v).length<=kvs.length+1:=by
 unfold bo;split
 ·rw [List.length_map]; omega
 ·rw [List.length_append,List.length_cons,List.length_nil]; omega
theorem qm {kvs:List (κ×V)}{k:κ} (v:V) (h:a7 kvs k=none):bo kvs k v=kvs++[(k,v)]:=by
 unfold bo;rw [fE,h];exact if_neg (by decide)
theorem f8.isSome_eq {o:Option V}{u:Option Value} (r:f8 o u):o.isSome=u.isSome:=by
 cases o with
 | none=>cases u with
  | none=>rfl
  | some _=>exact (show False from r).elim
 | some _=>cases u with
  | none=>exact (show False from r).elim
  | some _=>rfl
theorem KV.val {kvs:List (κ×V)}{vs:List (κ×Value)} (r:KV kvs vs) (k:κ):f8 (a7 kvs k) (valueAt vs k):=by
 unfold KV at r
 induction r with
 | nil=>exact True.intro
 | @cons p q ps qs h t ih =>
  obtain ⟨h1,h2⟩:=h
  by_cases e:p.1=k
  ·have e':q.1=k:=h1.symm.trans e
   have b:valueAt (q :: qs) k=some q.2:=by simp [valueAt,List.find?_cons,e']
   rw [bI e,b]; exact h2
  ·have e':¬ q.1=k:=fun z=>e (h1.trans z)
   have b:valueAt (q :: qs) k=valueAt qs k:=by simp [valueAt,List.find?_cons,e']
   rw [bJ e,b]; exact ih
theorem KV.any {kvs:List (κ×V)}{vs:List (κ×Value)} (r:KV kvs vs) (k:κ):(kvs.any fun kv=>decide (kv.1=k))=vs.any fun kv=>decide (kv.1=k):=by
 unfold KV at r
 induction r with
 | nil=>rfl
 | cons h t ih=>rw [List.any_cons,List.any_cons,ih,h.1]
theorem KV.repl {kvs:List (κ×V)}{vs:List (κ×Value)} (r:KV kvs vs) (k:κ) {y:V}{u:Value} (ry:RelV y u) :
  KV (kvs.map fun kv=>if kv.1=k then (kv.1,y) else kv) (vs.map fun kv=>if kv.1=k then (kv.1,u) else kv):=by
 unfold KV at r ⊢
 induction r with
 | nil=>exact .nil
 | @cons p q ps qs h t ih =>
  rw [List.map_cons,List.map_cons];refine .cons ?_ ih;obtain ⟨h1,h2⟩:=h
  by_cases e:p.1=k
  ·rw [if_pos e,if_pos (h1.symm.trans e)]; exact ⟨h1,ry⟩
  ·rw [if_neg e,if_neg (fun z=>e (h1.trans z))]; exact ⟨h1,h2⟩
theorem KV.put {kvs:List (κ×V)}{vs:List (κ×Value)} (r:KV kvs vs) (k:κ) {y:V}{u:Value} (ry:RelV y u):KV (bo kvs k y) (stored vs k u):=by
 unfold bo stored;rw [r.any k]
 by_cases e:(vs.any fun kv=>decide (kv.1=k))=true
 ·rw [if_pos e,if_pos e]; exact r.repl k ry
 ·rw [if_neg e,if_neg e]; exact Paired.snoc r ⟨rfl,ry⟩
theorem KV.drop {kvs:List (κ×V)}{vs:List (κ×Value)} (r:KV kvs vs) (k:κ):KV (fb kvs k) (without vs k):=by
 unfold KV at r ⊢;unfold fb without
 induction r with
 | nil=>exact .nil
 | @cons p q ps qs h t ih =>
  obtain ⟨h1,h2⟩:=h;rw [List.filter_cons,List.filter_cons]
  by_cases e:p.1=k
  ·have a:¬ decide (p.1≠k)=true:=by simp [e]
   have b:¬ decide (q.1≠k)=true:=by simp [h1.symm.trans e]
   rw [if_neg a,if_neg b]; exact ih
  ·have e':¬ q.1=k:=fun z=>e (h1.trans z)
   have a:decide (p.1≠k)=true:=by simp [e]
   have b:decide (q.1≠k)=true:=by simp [e']
   rw [if_pos a,if_pos b]; exact .cons ⟨h1,h2⟩ ih
theorem KV.keys {kvs:List (κ×V)}{vs:List (κ×Value)} (r:KV kvs vs):kvs.map (·.1)=vs.map (·.1):=by
 unfold KV at r
 induction r with
 | nil=>rfl
 | cons h t ih=>rw [List.map_cons,List.map_cons,ih,h.1]
theorem KV.length {kvs:List (κ×V)}{vs:List (κ×Value)} (r:KV kvs vs):kvs.length=vs.length:=Paired.length r
theorem xX (kvs:List (κ×V)) (k:κ):(fb kvs k).length<=kvs.length:=List.length_filter_le _ _
end
theorem jx {P:Program}{w:World}{k:a5}{u:Value} (r:RelV (kV k) u):(aX P w).is k u=true:=by
 cases k with
 | inl i=>obtain ⟨t,e⟩:=(show ∃ t,u=Value.int i t from r); subst e; exact qZ P w i t
 | inr x=>obtain ⟨t,e⟩:=(show ∃ t,u=Value.str x t from r); subst e; exact qY P w x t
theorem rM {a b:a5} (e:kV a=kV b):a=b:=by
 cases a with
 | inl i=>cases b with
  | inl j=>have e':V.int i=V.int j:=e; injection e' with e'; rw [e']
  | inr y=>exact nomatch (show V.int i=V.str y from e)
 | inr x=>cases b with
  | inl j=>exact nomatch (show V.str x=V.int j from e)
  | inr y=>have e':V.str x=V.str y:=e; injection e' with e'; rw [e']
theorem nF {P:Program}{w:World}:∀ {ks:List a5}{us:List Value},aL (ks.map kV) us->ItemsAre (aX P w) ks us
 | [],_,r=>by rw [List.map_nil] at r; cases r; exact .nil
 | k :: ks,_,r=>by
  rw [List.map_cons] at r;cases r with
  | cons h t=>exact .cons (jx h) (nF t)
abbrev KT (H:Hp):List (List a5×V)->List (List a5×Addr×Value)->Prop:=Paired fun p q=>p.1=q.1/\H q.2.1=some (.tup (p.1.map kV))/\RelV p.2 q.2.2
theorem KT.val {H:Hp}{kvs:List (List a5×V)}{xs:List (List a5×Addr×Value)} (r:KT H kvs xs) (k:List a5):f8 (a7 kvs k) ((atKey xs k).map (·.2)):=by
 induction r with
 | nil=>exact True.intro
 | @cons p q ps qs h t ih =>
  obtain ⟨h1,_,h2⟩:=h
  by_cases e:p.1=k
  ·have e':q.1=k:=h1.symm.trans e
   have b:atKey (q :: qs) k=some q.2:=by simp [atKey,List.find?_cons,e']
   rw [bI e,b]; exact h2
  ·have e':¬ q.1=k:=fun z=>e (h1.trans z)
   have b:atKey (q :: qs) k=atKey qs k:=by simp [atKey,List.find?_cons,e']
   rw [bJ e,b]; exact ih
theorem KT.repl {H:Hp}{kvs:List (List a5×V)}{xs:List (List a5×Addr×Value)} (r:KT H kvs xs) (k:List a5) {y:V}{u:Value} (ry:RelV y u) :
  KT H (kvs.map fun kv=>if kv.1=k then (kv.1,y) else kv) (xs.map (putAt k u)):=by
 induction r with
 | nil=>exact .nil
 | @cons p q ps qs h t ih =>
  rw [List.map_cons,List.map_cons];refine .cons ?_ ih;obtain ⟨h1,h2,h3⟩:=h;unfold putAt
  by_cases e:p.1=k
  ·rw [if_pos e,if_pos (h1.symm.trans e)]; exact ⟨h1,h2,ry⟩
  ·rw [if_neg e,if_neg (fun z=>e (h1.trans z))]; exact ⟨h1,h2,h3⟩
theorem KT.put {H:Hp}{kvs:List (List a5×V)}{xs:List (List a5×Addr×Value)} (r:KT H kvs xs) (k:List a5) {b:Addr}{y:V}{u:Value} (hb:H b=some (.tup (k.map kV))) (ry:RelV y u) :
  KT H (bo kvs k y) (storedH xs k b u):=by
 have e:(kvs.any fun kv=>decide (kv.1=k))=(atKey xs k).isSome:=by
  rw [fE,(r.val k).isSome_eq,Option.isSome_map]
 unfold bo storedH;rw [e]
 by_cases q:(atKey xs k).isSome=true
 ·rw [if_pos q,if_pos q]; exact r.repl k ry
 ·rw [if_neg q,if_neg q]; exact Paired.snoc r ⟨rfl,hb,ry⟩
theorem KT.keeps {H H':Hp}{kvs:List (List a5×V)}{xs:List (List a5×Addr×Value)} (r:KT H kvs xs) (ht:∀ b ys,H b=some (.tup ys)->H' b=some (.tup ys)):KT H' kvs xs :=
 Paired.mapP r fun _ _ z=>⟨z.1,ht _ _ z.2.1,z.2.2⟩
section
variable {P:Program}{w:World}{H:Hp}{h:Heap}{a:Addr}
theorem Ak {u:HO} (ok:gb P w H h) (e:Rd H a u):a6 P w H h a u:=e.ok ok
theorem dX {kvs:List (a5×V)} (ok:gb P w H h) (e:Rd H a (.dK kvs)):kvs.length<=sizeLine/\(a==sysModules)=false/\∃ vs,KV kvs vs/\h.DictOf (aX P w) a vs :=
 show a6 P w H h a (.dK kvs) from Ak ok e
theorem tj {kvs:List (a5×V)} (ok:gb P w H h) (e:H a=some (.dK kvs)):kvs.length<=sizeLine/\(a==sysModules)=false/\∃ vs,KV kvs vs/\h.DictOf (aX P w) a vs:=dX ok (.inl e)
theorem i7 {ks:List a5} (ok:gb P w H h) (e:H a=some (.tup (ks.map kV))):(tupleKind (aX P w)).is h ks a:=by
 obtain ⟨_,its,r,o,h1,h2,n,h3⟩:=(show a6 P w H h a (.tup (ks.map kV)) from ok a _ e);exact ⟨o,its.toArray,n,h1,h2,h3,by simpa using nF r⟩
theorem kG {kvs:List (List a5×V)} (ok:gb P w H h) (e:Rd H a (.dT kvs)):kvs.length<=sizeLine/\(a==sysModules)=false /\
  ∃ xs,KT H kvs xs/\h.DictOfH (tupleKind (aX P w)) a xs:=by
 obtain ⟨z,y,xs,r,o,es,ep,h1,h2,h3,h4,h5⟩:=(show a6 P w H h a (.dT kvs) from Ak ok e);refine ⟨z,y,xs,r,o,es,ep,h1,h2,h3,h4,fun x hx=>?_,h5⟩;have all:∀ {l:List (List a5×V)}{m:List (List a5×Addr×Value)},KT H l m->∀ x∈m,(tupleKind (aX P w)).is h x.1 x.2.1:=by
  intro l m q
  induction q with
  | nil=>intro x hx; exact nomatch hx
  | @cons p q ps qs hq t ih =>
   intro x hx;rcases List.mem_cons.mp hx with e | hx
   ·subst e
    exact i7 ok (by rw [<- hq.1]; exact hq.2.1)
   ·exact ih x hx
 exact all r x hx
theorem As {kvs:List (List a5×V)} (ok:gb P w H h) (e:H a=some (.dT kvs)):kvs.length<=sizeLine/\(a==sysModules)=false /\
  ∃ xs,KT H kvs xs/\h.DictOfH (tupleKind (aX P w)) a xs:=kG ok (.inl e)
end
noncomputable def dc (H:Hp) (a:Addr) (y:V) (r:Option V):Prop :=
 (∃ kvs k,Rd H a (.dK kvs)/\y=kV k/\r=a7 kvs k)\/∃ kvs k b,Rd H a (.dT kvs)/\y=.ref b/\H b=some (.tup (k.map kV))/\r=a7 kvs k
noncomputable def f9 (H:Hp) (a:Addr) (y v:V) (H':Hp):Prop :=
 (∃ kvs k,H a=some (.dK kvs)/\y=kV k/\kvs.length < sizeLine/\H'=aw H a (.dK (bo kvs k v))) \/
 ∃ kvs k b,H a=some (.dT kvs)/\y=.ref b/\H b=some (.tup (k.map kV))/\kvs.length < sizeLine/\H'=aw H a (.dT (bo kvs k v))
theorem dc.k {H:Hp}{a:Addr}{kvs:List (a5×V)}{k:a5} (e:H a=some (.dK kvs)):dc H a (kV k) (a7 kvs k):=.inl ⟨kvs,k,.inl e,rfl,rfl⟩
theorem f9.k {H:Hp}{a:Addr}{kvs:List (a5×V)}{k:a5}{v:V} (e:H a=some (.dK kvs)) (hl:kvs.length < sizeLine):f9 H a (kV k) v (aw H a (.dK (bo kvs k v))):=.inl ⟨kvs,k,e,rfl,hl,rfl⟩
theorem f9.t {H:Hp}{a b:Addr}{kvs:List (List a5×V)}{k:List a5}{v:V} (e:H a=some (.dT kvs)) (eb:H b=some (.tup (k.map kV))) (hl:kvs.length < sizeLine) :
  f9 H a (.ref b) v (aw H a (.dT (bo kvs k v))):=.inr ⟨kvs,k,b,e,rfl,eb,hl,rfl⟩
section
variable {X:Cx}{pins:List (Addr×Obj)}{σ:St}{H:Hp}{s:Shared}{a:Addr}{y v:V}{u r:Value}{o:Option V}{A:Around}{E:Value->Shared->Prop}
theorem Inv.big (I:Inv X pins σ H s):sysModules < s.heap.objs.size:=by
 have h:mainGlobals < s.heap.objs.size:=(I.mod.glob.keeps I.bk).lt;exact Nat.lt_trans (by decide) h
theorem vq {Q:Value->Shared->Prop} (hu:A.units+1 < cLine) (I:Inv X pins σ H s) (g:dc H a y (some v)) (ry:RelV y u) (h:∀ w' s',Inv X pins σ H s'->RelV v w'->Q w' s') :
  wpAny (model X.prog X.w) A (getItem (.ref a) u) Q E s:=by
 rcases g with ⟨kvs,k,e,ey,l⟩ | ⟨kvs,k,b,e,ey,eb,l⟩
 ·subst ey
  obtain ⟨z,hd,vs,rel,dd⟩:=dX I.hok e;obtain ⟨w',hw,rw'⟩:=f8.some_of (v:=v) (o:=valueAt vs k) (by rw [l]; exact rel.val k);exact wpAny_getItem_of (jx ry) dd.mapOf hw (h w' _ (I.tok _) rw')
 ·subst ey
  cases (show u=Value.ref b from ry);obtain ⟨z,hd,xs,rel,dd⟩:=kG I.hok e;obtain ⟨w',hw,rw'⟩:=f8.some_of (v:=v) (o:=(atKey xs k).map (·.2)) (by rw [l]; exact rel.val k);obtain ⟨p,hp,hp2⟩:=Option.map_eq_some_iff.mp hw;refine wpAny_getItem_heap (tupleKind_room_in1 hu) (i7 I.hok eb) dd hp ?_;rw [hp2];exact h w' _ (I.tok _) rw'
theorem DX {Q:Value->Shared->Prop} (hu:A.units+1 < cLine) (I:Inv X pins σ H s) (g:dc H a y o) (ry:RelV y u) (h:∀ s',Inv X pins σ H s'->Q (.bool o.isSome) s') :
  wpAny (model X.prog X.w) A (compareOp .In u (.ref a)) Q E s:=by
 rcases g with ⟨kvs,k,e,ey,l⟩ | ⟨kvs,k,b,e,ey,eb,l⟩
 ·subst ey
  obtain ⟨z,hd,vs,rel,dd⟩:=dX I.hok e;refine wpAny_in_of (jx ry) hd dd.mapOf ?_;rw [<- (rel.val k).isSome_eq,<- l];exact h _ (I.tok _)
 ·subst ey
  cases (show u=Value.ref b from ry);obtain ⟨z,hd,xs,rel,dd⟩:=kG I.hok e;refine wpAny_in_heap (tupleKind_room_in1 hu) (i7 I.hok eb) hd dd ?_;have q:=(rel.val k).isSome_eq;rw [Option.isSome_map] at q;rw [<- q,<- l];exact h _ (I.tok _)
theorem zG {Q:Value->Shared->Prop} (hu:A.units+1 < cLine) (I:Inv X pins σ H s) (g:dc H a y o) (ry:RelV y u) (h:∀ s',Inv X pins σ H s'->Q (.bool (!o.isSome)) s') :
  wpAny (model X.prog X.w) A (compareOp .NotIn u (.ref a)) Q E s:=by
 rcases g with ⟨kvs,k,e,ey,l⟩ | ⟨kvs,k,b,e,ey,eb,l⟩
 ·subst ey
  obtain ⟨z,hd,vs,rel,dd⟩:=dX I.hok e;refine wpAny_notIn_of (jx ry) hd dd.mapOf ?_;rw [<- (rel.val k).isSome_eq,<- l];exact h _ (I.tok _)
 ·subst ey
  cases (show u=Value.ref b from ry);obtain ⟨z,hd,xs,rel,dd⟩:=kG I.hok e;refine wpAny_notIn_heap (tupleKind_room_in1 hu) (i7 I.hok eb) hd dd ?_;have q:=(rel.val k).isSome_eq;rw [Option.isSome_map] at q;rw [<- q,<- l];exact h _ (I.tok _)
theorem iy {h':Heap}{t':Nat}{ob:HO} (I:Inv X pins σ H s) (mu:Cb (H a)) (hs:Heap.SameBut a s.heap h') (he:∃ q,h'.get? a=some q) (new:a6 X.prog X.w (aw H a ob) h' a ob) :
  Inv X pins σ (aw H a ob) { s with heap:=h',toks:=t' } :=
 I.write (x:=a) (e:=a) mu (.inl rfl) (fun b q hb z=>(hs.2 b hb).trans z) he new
theorem om {P:Program}{w:World}{H':Hp}{h':Heap}{kvs:List (a5×V)}{vs:List (a5×Value)} (z:kvs.length<=sizeLine) (hd:(a==sysModules)=false) (rel:KV kvs vs) (dd:h'.DictOf (aX P w) a vs) :
  a6 P w H' h' a (.dK kvs):=⟨z,hd,vs,rel,dd⟩
theorem vp {H':Hp}{Q:Unit->Shared->Prop} (hu:A.units+1 < cLine) (I:Inv X pins σ H s) (g:f9 H a y v H') (ry:RelV y u) (rv:RelV v r) (h:∀ s',Inv X pins σ H' s'->Q () s') :
  wpAny (model X.prog X.w) A (setItem (.ref a) u r) Q E s:=by
 rcases g with ⟨kvs,k,e,ey,l,eH⟩ | ⟨kvs,k,b,e,ey,eb,l,eH⟩
 ·subst ey eH
  obtain ⟨z,hd,vs,rel,dd⟩:=tj I.hok e;have hz:vs.length<=sizeLine:=by rw [<- rel.length]; exact z
  have hl:(bo kvs k v).length<=sizeLine:=by have:=c6 kvs k v; omega
  refine wpAny_setItem_pairs (hsz:=hz) (jx ry) dd fun h' dd' hs=>h _ ?_;have he:∃ q,h'.get? a=some q:=let ⟨q,_,_,hq,_⟩:=dd'; ⟨q,hq⟩;exact iy I (by rw [e]; exact True.intro) hs he (om hl hd (rel.put k rv) dd')
 ·subst ey eH
  cases (show u=Value.ref b from ry);obtain ⟨z,hd,xs,rel,dd⟩:=As I.hok e;have hz:xs.length<=sizeLine:=by rw [<- Paired.length rel]; exact z
  have hl:(bo kvs k v).length<=sizeLine:=by have:=c6 kvs k v; omega
  refine wpAny_setItem_heap (hsz:=hz) (tupleKind_room_in1 hu) (i7 I.hok eb) dd fun h' dd' hs=>h _ ?_;obtain ⟨q,es,ep,hq,h2,h3,h4,_,h5⟩:=dd';refine iy I (by rw [e]; exact True.intro) hs ⟨q,hq⟩ ⟨hl,hd,_,(rel.put k eb rv).keeps fun c ys ec=>?_,q,es,ep,hq,h2,h3,h4,h5⟩;rw [ad (fZ ec e (fun z=>nomatch z))];exact ec
end
section
variable {X:Cx}{pins:List (Addr×Obj)}{σ:St}{H:Hp}{s:Shared}{a:Addr}{kvs:List (a5×V)}{k:a5}{u:Value}{A:Around}{E:Value->Shared->Prop}
theorem At {v:V}{more:List Value}{Q:Value->Shared->Prop} (I:Inv X pins σ H s) (e:H a=some (.dK kvs)) (ry:RelV (kV k) u) (l:a7 kvs k=some v) (hm:more=[]\/∃ x,more=[x])
  (h:∀ w' s',Inv X pins σ (aw H a (.dK (fb kvs k))) s'->RelV v w'->Q w' s'):wpAny (model X.prog X.w) A (call (.builtin "dict.pop") (.ref a :: u :: more)) Q E s:=by
 obtain ⟨z,hd,vs,rel,dd⟩:=tj I.hok e;obtain ⟨w',hw,rw'⟩:=f8.some_of (v:=v) (o:=valueAt vs k) (by rw [<- l]; exact rel.val k);have hp:(keyPart u).isSome=true:=by
  cases k with
  | inl i=>obtain ⟨t,q⟩:=(show ∃ t,u=Value.int i t from ry); subst q; rfl
  | inr x=>obtain ⟨t,q⟩:=(show ∃ t,u=Value.str x t from ry); subst q; rfl
 have ha:argsOk "dict.pop" ⟨.ref a :: u :: more,[]⟩:=by
  rcases hm with q | ⟨x,q⟩
  ·subst q; exact PySem.F.args_dict_pop_2 _ _
  ·subst q; exact PySem.F.args_dict_pop_3 _ _ _
 refine call_meetsIn PySem.F.slot_dict_pop dd.typeIs PySem.F.entry_dict_pop ha (meets_dict_pop_there (aX X.prog X.w) a (jx ry) more hm hp)
  ⟨vs,w',dd,by rw [<- rel.length]; exact z,hw,fun h' dd' hs=>h w' _ ?_ rw'⟩
 have he:∃ q,h'.get? a=some q:=let ⟨q,_,_,hq,_⟩:=dd'; ⟨q,hq⟩;exact iy I (by rw [e]; exact True.intro) hs he (om (Nat.le_trans (xX kvs k) z) hd (rel.drop k) dd')
theorem BO {r:Value}{Q:Value->Shared->Prop} (I:Inv X pins σ H s) (e:H a=some (.dK kvs)) (ry:RelV (kV k) u) (l:a7 kvs k=none) (h:∀ s',Inv X pins σ H s'->Q r s') :
  wpAny (model X.prog X.w) A (call (.builtin "dict.pop") [.ref a,u,r]) Q E s:=by
 obtain ⟨z,hd,vs,rel,dd⟩:=tj I.hok e;have hn:valueAt vs k=none:=f8.none_of (by rw [<- l]; exact rel.val k);have hp:(keyPart u).isSome=true:=by
  cases k with
  | inl i=>obtain ⟨t,q⟩:=(show ∃ t,u=Value.int i t from ry); subst q; rfl
  | inr x=>obtain ⟨t,q⟩:=(show ∃ t,u=Value.str x t from ry); subst q; rfl
 exact call_meetsIn PySem.F.slot_dict_pop dd.typeIs PySem.F.entry_dict_pop (PySem.F.args_dict_pop_3 _ _ _) (meets_dict_pop_default (aX X.prog X.w) a (jx ry) hd hp r) ⟨vs,dd,hn,h _ (I.tok _)⟩
theorem C8 {Q:Value->Shared->Prop} (I:Inv X pins σ H s) (e:Rd H a (.dK kvs)) (h:∀ t s',Inv X pins σ H s'->Q (.int kvs.length t) s'):wpAny (model X.prog X.w) A (call (.builtin "len") [.ref a]) Q E s:=by
 obtain ⟨z,hd,vs,rel,dd⟩:=dX I.hok e;refine call_len_dict hd dd (by rw [<- rel.length]; rw [sizeLine_eq] at z; omega) ?_;rw [<- rel.length];exact h _ _ (I.tok _)
end
theorem rg {X:Cx}{pins:List (Addr×Obj)}{σ:St}{H:Hp}{s:Shared}{a:Addr}{y:V}{o:Option V} (I:Inv X pins σ H s) (g:dc H a y o):s.TypeIs (.ref a) "dict":=by
 rcases g with ⟨kvs,k,e,_,_⟩ | ⟨kvs,k,b,e,_,_,_⟩
 ·obtain ⟨_,_,vs,_,dd⟩:=dX I.hok e
  exact dd.typeIs
 ·obtain ⟨_,_,xs,_,dd⟩:=kG I.hok e
  exact dd.typeIs
noncomputable def CO (td ty tv:TE):TS:=fun D σ H=>tv σ H fun v H1=>td σ H1 fun x H2=>ty σ H2 fun y H3=>∃ a H4,x=.ref a/\f9 H3 a y v H4/\D.nx σ H4
section
variable {X:Cx}{o i e value:Expr}{pos pos' tpos:Pos}{td ty tv:TE}
theorem dO (hu:X.A.units+1 < cLine) (ho:PE X o td) (hi:PE X i ty) (hv:PE X value tv) (hs:swapsWith value (some (.Subscript o i pos')) pos.line X.env=pure false) :
  PS X (.Assign [.Subscript o i pos'] value pos) (CO td ty tv):=by
 intro pins s σ H D I h;refine wpAny_Assign_Subscript (bE (hv pins s σ H _ I h) fun r s1 ⟨v,H1,I1,rv,q1⟩=>bE (ho pins s1 σ H1 _ I1 q1) fun u s2 ⟨x,H2,I2,rx,q2⟩=>bE (hi pins s2 σ H2 _ I2 q2) fun iv s3 ⟨y,H3,I3,ry,a,H4,ex,g,q3⟩=>?_) hs;subst ex;obtain rfl:u=Value.ref a:=rx;exact vp hu I3 g ry rv fun s4 I4=>⟨σ,H4,I4,q3⟩
end
theorem x6 {P:Program}{w:World}{H:Hp} (h:Heap) (hb:sysModules < h.objs.size):a6 P w H (h.push { cls:=.type "dict",data:=.dict #[] }) h.objs.size (.dK []) :=
 ⟨Nat.zero_le _,beq_eq_false_iff_ne.mpr (Ne.symm (Nat.ne_of_lt hb)),[],.nil,Heap.DictOf.new h⟩
theorem xW {P:Program}{w:World}{H:Hp} (h:Heap) (hb:sysModules < h.objs.size):a6 P w H (h.push { cls:=.type "dict",data:=.dict #[] }) h.objs.size (.dT []) :=
 ⟨Nat.zero_le _,beq_eq_false_iff_ne.mpr (Ne.symm (Nat.ne_of_lt hb)),[],.nil,_,#[],0,Heap.get?_push_size _ rfl,⟨rfl,rfl,rfl⟩,rfl,rfl,List.nodup_nil⟩
noncomputable def AU:TE:=fun _ H Q=>∀ p,H p=none->Q (.ref p) (aw H p (.dK []))
noncomputable def AT:TE:=fun _ H Q=>∀ p,H p=none->Q (.ref p) (aw H p (.dT []))
section
variable {X:Cx}{pos:Pos}
theorem dv:PE X (.Dict [] [] pos) AU:=fun pins s σ H Q I h =>
 wpAny_Dict_empty ⟨.ref s.heap.objs.size,_,I.laid (a:=s.heap.objs.size) (o:=.dK []) (t':=s.toks) (fun _ _ q=>Heap.get?_push_of_some _ q) (Nat.le_refl _) (x6 s.heap I.big),rfl,h _ (I.hok.fresh (Nat.le_refl _))⟩
theorem qu:PE X (.Dict [] [] pos) AT:=fun pins s σ H Q I h =>
 wpAny_Dict_empty ⟨.ref s.heap.objs.size,_,I.laid (a:=s.heap.objs.size) (o:=.dT []) (t':=s.toks) (fun _ _ q=>Heap.get?_push_of_some _ q) (Nat.le_refl _) (xW s.heap I.big),rfl,h _ (I.hok.fresh (Nat.le_refl _))⟩
end
structure M1 (X:Cx) (o:Expr) (m:Str) (apos:Pos) (e:Expr) (cpos:Pos):Prop where
 base:attributeBase o m X.env (eval o X.env)=eval o X.env
 few:((backTo cpos (starEach [e] X.env)).all (fun x=>!x.1)&&(backToKw cpos (keywordEach [] X.env)).all (fun x=>x.1.isSome)
  && decide (([e]:List Expr).length+([]:List Keyword).length+(if ([]:List Keyword).isEmpty then 0 else 1) < 30))=true
 line:(apos.endLine==cpos.line)=true
 trees:backTo cpos (starEach [e] X.env)=[(false,eval e X.env)]
structure M2 (X:Cx) (o:Expr) (m:Str) (apos:Pos) (e f:Expr) (cpos:Pos):Prop where
 base:attributeBase o m X.env (eval o X.env)=eval o X.env
 few:((backTo cpos (starEach [e,f] X.env)).all (fun x=>!x.1)&&(backToKw cpos (keywordEach [] X.env)).all (fun x=>x.1.isSome)
  && decide (([e,f]:List Expr).length+([]:List Keyword).length+(if ([]:List Keyword).isEmpty then 0 else 1) < 30))=true
 line:(apos.endLine==cpos.line)=true
 trees:backTo cpos (starEach [e,f] X.env)=[(false,eval e X.env),(false,eval f X.env)]
noncomputable def Du (H:Hp) (a:Addr):Prop:=(∃ kvs,Rd H a (.dK kvs))\/∃ kvs,Rd H a (.dT kvs)
theorem wK {X:Cx}{pins:List (Addr×Obj)}{σ:St}{H:Hp}{s:Shared}{a:Addr} (I:Inv X pins σ H s) (d:Du H a) :
  s.TypeIs (.ref a) "dict" /\ (∀ b,Value.ref a=.ref b->∃ ob,s.heap.get? b=some ob/\ob.dict=none)/\(a==sysModules)=false:=by
 rcases d with ⟨kvs,e⟩ | ⟨kvs,e⟩
 ·obtain ⟨_,hd,vs,_,dd⟩:=dX I.hok e
  refine ⟨dd.typeIs,fun b q=>?_,hd⟩;cases q;obtain ⟨ob,_,_,h1,h2,_⟩:=dd;exact ⟨ob,h1,h2.2.1⟩
 ·obtain ⟨_,hd,xs,_,dd⟩:=kG I.hok e
  refine ⟨dd.typeIs,fun b q=>?_,hd⟩;cases q;obtain ⟨ob,_,_,h1,h2,_⟩:=dd;exact ⟨ob,h1,h2.2.1⟩
section
variable {X:Cx}{pins:List (Addr×Obj)}{σ:St}{H:Hp}{s:Shared}{a:Addr}{y d:V}{u r:Value}{o:Option V}{A:Around}{E:Value->Shared->Prop}
end
noncomputable def AS (td ty:TE):TE:=fun σ H Q=>td σ H fun x H1=>∃ a,x=.ref a/\Du H1 a/\ty σ H1 fun y H2=>∃ kvs k v,H2 a=some (.dK kvs)/\y=kV k/\a7 kvs k=some v/\Q v (aw H2 a (.dK (fb kvs k)))
noncomputable def AR (td ty tx:TE):TE:=fun σ H Q=>td σ H fun x H1=>∃ a,x=.ref a/\Du H1 a/\ty σ H1 fun y H2=>tx σ H2 fun z H3=>∃ kvs k,H3 a=some (.dK kvs)/\y=kV k /\
 (∀ v,a7 kvs k=some v->Q v (aw H3 a (.dK (fb kvs k))))/\(a7 kvs k=none->Q z H3)
section
variable {X:Cx}{o e f:Expr}{apos cpos:Pos}{td ty tx:TE}
theorem qt (ho:PE X o td) (he:PE X e ty) (m:M1 X o "pop" apos e cpos):PE X (.Call (.Attribute o "pop" apos) [e] [] cpos) (AS td ty):=by
 intro pins s σ H Q I h;refine wpAny_Call_method m.base m.few m.line PySem.F.plainAttrs_dict PySem.F.slot_dict_pop PySem.F.type_dict_pop (bE (ho pins s σ H _ I h) fun u s1 ⟨x,H1,I1,rx,a,ex,d,q1⟩=>?_);subst ex;obtain rfl:u=Value.ref a:=rx;obtain ⟨t1,t2,_⟩:=wK I1 d;refine ⟨t1,t2,?_⟩;rw [m.trees];refine Calls.callWith_builtin rfl (Calls.evalArgs_plain (Calls.spliced_cons (bE (he pins s1 σ H1 _ I1 q1) fun iv s2 ⟨y,H2,I2,ry,kvs,k,v,ea,ey,l,q2⟩=>Calls.spliced_nil ?_)));subst ey;exact At I2 ea ry l (.inl rfl) fun w' s3 I3 rw'=>⟨v,_,I3,rw',q2⟩
theorem xq (ho:PE X o td) (he:PE X e ty) (hf:PE X f tx) (m:M2 X o "pop" apos e f cpos):PE X (.Call (.Attribute o "pop" apos) [e,f] [] cpos) (AR td ty tx):=by
 intro pins s σ H Q I h;refine wpAny_Call_method m.base m.few m.line PySem.F.plainAttrs_dict PySem.F.slot_dict_pop PySem.F.type_dict_pop (bE (ho pins s σ H _ I h) fun u s1 ⟨x,H1,I1,rx,a,ex,d,q1⟩=>?_);subst ex;obtain rfl:u=Value.ref a:=rx;obtain ⟨t1,t2,_⟩:=wK I1 d;refine ⟨t1,t2,?_⟩;rw [m.trees];refine Calls.callWith_builtin rfl (Calls.evalArgs_plain (Calls.spliced_cons (bE (he pins s1 σ H1 _ I1 q1) fun iv s2 ⟨y,H2,I2,ry,q2⟩ =>
  Calls.spliced_cons (bE (hf pins s2 σ H2 _ I2 q2) fun fv s3 ⟨z,H3,I3,rz,kvs,k,ea,ey,q3,q4⟩=>Calls.spliced_nil ?_))))
 subst ey;cases l:a7 kvs k with
 | some v=>exact At I3 ea ry l (.inr ⟨fv,rfl⟩) fun w' s4 I4 rw'=>⟨v,_,I4,rw',q3 v l⟩
 | none=>exact BO I3 ea ry l fun s4 I4=>⟨z,H3,I4,rz,q4 l⟩
end
section
variable {X:Cx}{pins:List (Addr×Obj)}{σ:St}{H:Hp}{s:Shared}{a:Addr}{kvs:List (a5×V)}{A:Around}{E:Value->Shared->Prop}
theorem x_ {Q:Value->Shared->Prop} (I:Inv X pins σ H s) (e:Rd H a (.dK kvs)) (h:∀ p s',H p=none->Inv X pins σ (aw H p (.dK kvs)) s'->Q (.ref p) s'):wpAny (model X.prog X.w) A (call (.type "dict") [.ref a]) Q E s:=by
 obtain ⟨z,hd,vs,rel,dd⟩:=dX I.hok e;refine kt_call_dict hd dd (by rw [<- rel.length]; exact z) fun h' dd' hs=>?_;refine h _ _ (I.hok.fresh (Nat.le_refl _)) (I.laid (a:=s.heap.objs.size) (o:=.dK kvs) (t':=s.toks) (fun b q hq=>?_) (Nat.le_refl _) (om z (beq_eq_false_iff_ne.mpr (Ne.symm (Nat.ne_of_lt I.big))) rel dd'));exact (hs.2 b (Nat.ne_of_lt (Heap.lt_size hq))).trans (Heap.get?_push_of_some _ hq)
end
section
variable {X:Cx}{pins:List (Addr×Obj)}{σ:St}{H:Hp}{s:Shared}{a:Addr}{y:V}{u:Value}{A:Around}{E:Value->Shared->Prop}
end
end L2
namespace Att
open PySem PySem.W PySem.Calls PyProof.Rows
theorem jW {P:Params}{h:Heap}:∀ (ns:List Int) (vs:List Value),WellAll P h vs (ns.map WData.int)->IntsAre vs ns:=by
 intro ns
 induction ns with
 | nil =>
  intro vs w;rw [List.map_nil] at w;cases w;exact .nil
 | cons n ns ih =>
  intro vs w;rw [List.map_cons] at w;cases w with
  | cons a b =>
   cases a;exact .cons _ _ (ih _ b)
theorem uQ {l:OpenLaw}{n:Nat} (hn:l.most=some n) {P:Params}{h:Heap}{args:List WData}{vals:List Value}
  (hpre:l.row.toRowW.claim.pre args=true) (hwl:WellAll P h vals args) :
  ∃ a vs ns,vals=[Value.ref a]/\args=[WData.list (ns.map WData.int)]/\h.get? a=some { cls:=.type "list",data:=.seq vs.toArray }/\IntsAre vs ns/\ns.length<=n:=by
 have hsh:WShape.hasAll [] args [.list .int]=true:=(pre_splitW hpre).1;have hc:l.pre.holds [] { args:=args }=true:=(pre_splitW hpre).2;obtain ⟨d,r,rfl,h1,h2⟩:=hasAllW_cons hsh;obtain rfl:=hasAllW_nil h2;obtain ⟨xs,rfl,h3⟩:=hasW_list h1;obtain ⟨ns,rfl⟩:=items_int h3;have hlen:ns.length<=n:=by
  unfold OpenLaw.pre at hc;have h4:(WTm.not (.lt (.lit (.int (n:Int))) (.len (.arg 0)))).holds [] { args:=[.list (ns.map .int)] }=true:=by
   have h4:=(holds_andW hc).1;rw [hn] at h4;exact h4
  have h5:=condW_of h4 (w_not (w_lt w_lit (w_len_list (w_arg rfl))));rw [List.length_map] at h5;refine Nat.le_of_not_lt fun q=>?_;have q':(n:Int) < ((ns.length:Nat):Int):=by omega
  first
   | (rw [decide_eq_true q'] at h5; exact absurd h5 (by decide))
   | (simp at h5; omega)
 cases hwl with
 | cons w1 w2 =>
  cases w2;cases w1 with
  | list ho hall=>exact ⟨_,_,ns,rfl,rfl,ho,jW ns _ hall,hlen⟩
theorem uV (l:OpenLaw) (args:List WData):l.row.toRowW.claim.post args (.bool true) args=true :=
 postW_of (r:=l.row.toRowW) (X:=(true==true))
  (show WShape.has [] (.bool true) .bool=true by first | rfl | decide | simp [WShape.has,WShape.arms,WShape.armsAll])
  (show (WTm.eq .res (.lit (.bool true))).value [] { args:=args,res:=some (.bool true),after:=args }=some (.bool (true==true)) from w_eq_bool (w_res rfl) w_lit) rfl
theorem rm {l:OpenLaw}{n:Nat}{q:Program}{loose:List Str}{XP:(Str->Option Value)->Heap->Prop}{YP:World->Heap->Prop}{d:DefRec}
  (hn:l.most=some n) (hdf:d.params.defaults=[])
  (call:∀ (w:World) (s₀ s₁:Shared) (mg mb:Str->Option Value) (fa:Addr) (o:Obj) (pm cd doc:Value) (a:Addr) (vs:List Value) (ns:List Int),
   Ground q loose [] XP w s₀ mg mb s₁.heap->YP w s₁.heap ->
   s₁.heap.get? fa=some o->o.data=.func (docDef d.name d.params d.body d.scope pm cd doc)->s₁.heap.CodeRec cd d.name->mg d.name=some (.ref fa) ->
   s₁.heap.get? a=some { cls:=.type "list",data:=.seq vs.toArray }->IntsAre vs ns->ns.length<=n->s₁.gens=#[] ->
   codeAny (model l.prog w) callerA (.call (.ref fa) ⟨[.ref a],[]⟩) (fun r s'=>r=.ok (.ret (.bool true))/\OldK s₁.heap s'.heap/\s'.os=s₁.os/\AllBare s'.gens) s₁) :
  WalkO q loose XP YP l.row.toRowW d [] (fun f vs=>PySem.call f vs):=by
 intro w s₀ s₁ mg mb G Y fa o pm cd doc dV kV ho hd hcd hD hmg hg args vals as hpre hlay hrd hwl hlo;obtain rfl:dV=.none:=Dflts.none hD hdf;obtain rfl:kV=.none:=Dflts.noKw hD;obtain ⟨a,vs,ns,rfl,rfl,hobj,hints,hlen⟩:=uQ hn hpre hwl;refine enter_call (codeAny_mono (call w s₀ s₁ mg mb fa o pm cd doc a vs ns G Y ho (fd_plain hd) hcd hmg hobj hints hlen hg) fun r s' hq=>?_);obtain ⟨rfl,h2,h3,h4⟩:=hq;exact ⟨.inl ⟨.bool true,.bool true,[],rfl,fun _=>rfl,.bool true,uV l _,fun _=>⟨List.Pairwise.nil,fun _ hm=>(nomatch hm)⟩⟩,h2,h3,h4⟩
section
variable {prog:Program}{w:World}{A:Around}{E:Value->Shared->Prop}{s:Shared}{K:Frag}
end
end Att
namespace L2
open PySem PySem.Spec PyProof.Rows
theorem mZ:∀ {vs:List Value}{ns:List Int},IntsAre vs ns->aL (ns.map V.int) vs
 | _,_,.nil=>.nil
 | _,_,.cons n t h=>.cons ⟨t,rfl⟩ (mZ h)
noncomputable def yy (H:Hp):Prop:=∀ b,H b=none\/∃ o xs,H b=some (.frz o (.lst xs))
theorem xD {P:Program}{w:World}{K:Frag}{mg mb:Str->Option Value}{CX:vK}{k:Nat}{fa a:Addr}{fd:FuncData}{x:Str}{sp:Sp}{s₁:Shared}{vs:List Value}{ns:List Int}
  (KX:K.In s₁.heap) (hns:s₁.heap.Ns mainGlobals mg) (hb:s₁.heap.Ns builtinsNs mb) (hbb:∀ x:Str,x ≠ "__name__" -> mb x=bootBuiltins x) (hlim:s₁.heap.NoLimit) (hg:s₁.gens=#[])
  (ha:s₁.heap.get? a=some { cls:=.type "list",data:=.seq vs.toArray }) (hi:IntsAre vs ns) (hl:ns.length<=sizeLine) (hr:Room k callerA)
  (F:∀ base:Heap,K.In base->base.Ns mainGlobals mg->FnOk P w K mg base CX k fa fd [x] sp) (hbind:∀ (s:Shared) (u:Value),BindsTo s fd ⟨[u],[]⟩ [(x,u)])
  (hsp:∀ H:Hp,yy H->a9 K H a (ns.map V.int)->sp [.ref a] H (fun v _=>v=.bl true) fun _ _ _=>False)
  (hCX:∀ H e s',CX [] H s₁ (fun _ _ _=>False) e s'->False) :
  codeAny (model P w) callerA (.call (.ref fa) ⟨[.ref a],[]⟩) (fun r s'=>r=.ok (.ret (.bool true))/\OldK s₁.heap s'.heap/\s'.os=s₁.os/\AllBare s'.gens) s₁:=by
 have rv:=mZ hi;have lenV:=hi.length;have core:∀ H:Hp,yy H->a9 K H a (ns.map V.int)->gb P w H s₁.heap->(∀ b,H b≠none->b=a)->(H a≠none->K.lookup a=none) ->
   codeAny (model P w) callerA (.call (.ref fa) ⟨[.ref a],[]⟩) (fun r s'=>r=.ok (.ret (.bool true))/\OldK s₁.heap s'.heap/\s'.os=s₁.os/\AllBare s'.gens) s₁:=by
  intro H hO hS hok hA hK;have base_of:∀ {b:Addr}{o:Obj},s₁.heap.get? b=some o->H b=none->(n9 s₁.heap H).get? b=some o:=fun e n=>xH e n;have noA:∀ {b:Addr}{o:Obj}{es:Array DictEntry}{ep:Nat},s₁.heap.get? b=some o->o.data=.dict es ep->H b=none:=fun {b o es ep} e d=>by
   cases q:H b with
   | none=>rfl
   | some u =>
    have e':b=a:=hA b (by rw [q]; simp);subst e';rw [ha] at e; cases e;have d':Data.seq vs.toArray _=Data.dict es ep:=d;cases d'
  have nsK:∀ {b:Addr}{m:Str->Option Value},s₁.heap.Ns b m->(n9 s₁.heap H).Ns b m:=fun {b m} ⟨o,es,ep,e,d,r⟩=>⟨o,es,ep,base_of e (noA e d),d,r⟩;have hKb:K.In (n9 s₁.heap H):=fun b o e=>base_of (KX b o e) (by
   cases q:H b with
   | none=>rfl
   | some u =>
    have e':b=a:=hA b (by rw [q]; simp);subst e';rw [hK (by rw [q]; simp)] at e; cases e)
  have hM:Mod K mg (n9 s₁.heap H):=⟨hKb,nsK hns,⟨mb,nsK hb,hbb⟩,let ⟨mc,h1,h2⟩:=hlim; ⟨mc,nsK h1,h2⟩⟩;have e0:Env0 P w K mg (n9 s₁.heap H) callerA [] s₁ H:=⟨rfl,hM,fun b o e=>za e,Nat.le_of_eq (vg _ _),trivial,fun b hb=>absurd (show b∈([]:List Addr) from hb) (by simp),hok,.of_eq hg⟩;refine codeAny_mono ((F _ hKb (nsK hns)).run callerA [] s₁ H ⟨[.ref a],[]⟩ [.ref a] [.ref a] _ _ hr e0 (hbind s₁ (.ref a)) (.cons rfl .nil) (hsp H hO hS)) fun r s' h=>?_;cases r with
  | error e=>exact (hCX H e s' h).elim
  | ok fl =>
   cases fl with
   | next=>exact False.elim h
   | brk=>exact False.elim h
   | cont=>exact False.elim h
   | ret u =>
    obtain ⟨v,H',os,bare,un,hok',r',q⟩:=h;have q':v=.bl true:=q;subst q';obtain rfl:u=Value.bool true:=r';refine ⟨rfl,OldK.of_keep fun b o e=>?_,os,bare⟩;cases q:H b with
    | none=>exact un.keep b o e q (by intro z; exact absurd (show b∈([]:List Addr) from z) (by simp)) (by simp)
    | some u =>
     rcases hO b with z | ⟨ob,xs,z⟩
     ·rw [q] at z; cases z
     ·have z2:=un.frzs b ob _ z
      obtain ⟨e1,_⟩:=hok b _ z;obtain ⟨e2,_⟩:=hok' b _ z2;rw [e] at e1; cases e1;exact e2
 cases hk:K.lookup a with
 | some o =>
  have e:=KX a o hk;rw [ha] at e;cases e;refine core (fun _=>none) (fun _=>.inl rfl) (.inr ⟨_,vs.toArray,_,hk,rfl,rfl,rfl,by rw [List.size_toArray,lenV]; exact hl,by simpa using rv⟩) (fun b u z=>by have z':(none:Option HO)=some u:=z; cases z') (fun b z=>absurd rfl z) fun z=>absurd rfl z
 | none =>
  refine core (fun b=>if b=a then some (.frz { cls:=.type "list",data:=.seq vs.toArray } (.lst (ns.map V.int))) else none) (fun b=>?_) (.inl (.inr ⟨{ cls:=.type "list",data:=.seq vs.toArray },if_pos rfl⟩)) (fun b u z=>?_) (fun b z=>?_) fun _=>hk
  ·by_cases hb:b=a
   ·exact .inr ⟨_,_,if_pos hb⟩
   ·exact .inl (if_neg hb)
  ·by_cases hb:b=a
   ·have z':=(if_pos hb).symm.trans z
    cases z';subst hb;exact ⟨ha,by rw [List.length_map]; exact hl,vs,_,rv,ha⟩
   ·have z':=(if_neg hb).symm.trans z
    cases z'
  ·by_cases hb:b=a
   ·exact hb
   ·exact absurd (if_neg hb) z
theorem yB {l:PySem.W.OpenLaw}{n k:Nat}{q:Program}{loose:List Str}{XP:(Str->Option Value)->Heap->Prop}{YP:World->Heap->Prop}{d:DefRec}{K:Params->Frag}{CX:World->vK}{sp:World->Sp}{x:Str}
  (hn:l.most=some n) (hn2:n<=sizeLine) (hdf:d.params.defaults=[]) (hr:Room k callerA)
  (hY:∀ (w:World) (h:Heap),YP w h->(K w.params).In h)
  (F:∀ (w:World) (mg:Str->Option Value) (fa:Addr) (h:Heap),(K w.params).In h->h.Ns mainGlobals mg->mg d.name=some (.ref fa) ->
   ∃ fd:FuncData,(∀ (s:Shared) (u:Value),BindsTo s fd ⟨[u],[]⟩ [(x,u)]) /\
    ∀ base:Heap,(K w.params).In base->base.Ns mainGlobals mg->FnOk l.prog w (K w.params) mg base (CX w) k fa fd [x] (sp w))
  (hsp:∀ (w:World) (H:Hp) (a:Addr) (ns:List Int),ns.length<=n->yy H->a9 (K w.params) H a (ns.map V.int)->sp w [.ref a] H (fun v _=>v=.bl true) fun _ _ _=>False)
  (hCX:∀ (w:World) (H:Hp) (s:Shared) (e:Value) (s':Shared),CX w [] H s (fun _ _ _=>False) e s'->False) :
  PySem.W.WalkO q loose XP YP l.row.toRowW d [] (fun f vs=>PySem.call f vs):=by
 refine Att.rm hn hdf fun w s₀ s₁ mg mb fa o pm cd doc a vs ns G Y ho hd hcd hmg hobj hints hlen hg=>?_;have KX:=hY w _ Y;obtain ⟨fd,hb,hF⟩:=F w mg fa _ KX G.T.g hmg;exact xD KX G.T.g G.T.b G.T.builtins G.T.nolimit hg hobj hints (Nat.le_trans hlen hn2) hr hF hb (fun H hO hS=>hsp w H a ns hlen hO hS) fun H e s'=>hCX w H s₁ e s'
noncomputable def bt (s:Stmt) (j:Nat):Stmt:=match s with
 | .ClassDef _ _ _ body _ _ _ _ _ _ _=>body.getD j (.Pass ⟨0,0,0,0⟩)
 | _=>.Pass ⟨0,0,0,0⟩
noncomputable def dh (s:Stmt):Arguments:=match s with
 | .FunctionDef _ a _ _ _ _ _ _ _ _=>a
 | _=>{ posonlyargs:=[],args:=[],vararg:=none,kwonlyargs:=[],kw_defaults:=[],kwarg:=none,defaults:=[] }
noncomputable def bM (s:Stmt):List Stmt:=match s with
 | .FunctionDef _ _ b _ _ _ _ _ _ _=>b
 | _=>[]
noncomputable def ao (s:Stmt):Scope:=match s with
 | .FunctionDef _ _ _ _ _ _ sc _ _ _=>sc
 | _=>{ kind:=.function,names:=[],isGenerator:=false,isCoroutine:=false }
abbrev uw:vK:=fun _ _ _ _ _ _=>False
abbrev E0:XK:=fun _ _ _=>False
theorem s_ {X:Cx}:eu uw X E0:=fun _ _ _ _ _ _ _ h=>h.elim
structure Fun (K:Frag) (x qual:Str) (st:Stmt) (f:Addr) (fd:FuncData):Prop where
 ex:∃ (oc:Value) (od:Option Addr) (kV doc pm:Value) (an:Option Addr) (cdv ct:Value) (osl:Array (Option Value)),
  fd=PySem.W.fnOf x qual (dh st) (bM st) (ao st) .none kV doc pm an cdv ct/\K.lookup f=some ⟨oc,od,.func fd,osl⟩/\PySem.W.codeIn K cdv qual=true
 kp:PySem.W.keepIn K (.ref f)=true
section
variable {P:Program}{w:World}{K:Frag}{mg:Str->Option Value}{base:Heap}
theorem Fun.ok {x qual:Str}{st:Stmt}{f:Addr}{fd:FuncData}{N ps:List Str}{k:Nat}{sp:Sp} (F:Fun K x qual st f fd) (S:FnScope N ps (ao st)) (len:∀ vs H Q E,sp vs H Q E->vs.length=ps.length)
  (hbody:∀ (cdv:Value) (A:Around) (outer:List Env) (s:Shared) (H:Hp) (vs:List V) (Q:VK) (E:XK),Room k (A.deeper (envOfC qual (ao st) s.heap.objs.size f cdv))->sp vs H Q E ->
   ∃ t,gI (jO uw P w K mg base N qual (ao st) f cdv A outer s H E).nox (bM st) t/\t { nx:=fun _ H'=>Q .non H',rt:=Q } (start N vs) H):FnOk P w K mg base uw (k+1) f fd ps sp:=by
 obtain ⟨oc,od,kV,doc,pm,an,cdv,ct,osl,rfl,lk,hcd⟩:=F.ex;refine Aq lk hcd S len fun A outer s H vs Q E hr hsp=>?_;obtain ⟨t,h,q⟩:=hbody cdv A outer s H vs Q E hr hsp;exact ⟨t,h.nox,q⟩
theorem rP {x qual:Str}{st:Stmt}{f:Addr}{oc:Value}{od an:Option Addr}{osl:Array (Option Value)}{kV doc pm cdv ct:Value} (l:K.lookup f=some ⟨oc,od,.func (PySem.W.fnOf x qual (dh st) (bM st) (ao st) .none kV doc pm an cdv ct),osl⟩)
  (c:PySem.W.codeIn K cdv qual=true) (k:PySem.W.keepIn K (.ref f)=true):Fun K x qual st f (PySem.W.fnOf x qual (dh st) (bM st) (ao st) .none kV doc pm an cdv ct):=⟨⟨oc,od,kV,doc,pm,an,cdv,ct,osl,rfl,l,c⟩,k⟩
end
theorem bQ {A:Around}{k:Nat} (hr:Room k A):A.units+1 < cLine:=Nat.lt_of_le_of_lt (Nat.add_le_add_left (by decide:1<=64) _) hr.units
theorem aE {n:Nat} (h:n<=1000):n < sizeLine:=Nat.lt_of_le_of_lt h (by decide)
section
variable {X:Cx}
theorem vD:bS X (.builtin "len") (fun xs H Q=>∃ a kvs,xs=[V.ref a]/\H a=some (.dK kvs)/\Q (.int kvs.length) H):=by
 intro pins s σ H xs us Q I r h;obtain ⟨a,kvs,rfl,ha,q⟩:=h;obtain ⟨u,rfl,ru⟩:=dS r;cases ru;exact C8 I (.inl ha) fun t s' I'=>⟨.int kvs.length,H,I',⟨t,rfl⟩,q⟩
end
theorem cE {A B:Prop} (h:B):if false=true then A else B:=by
 rw [if_neg Bool.false_ne_true];exact h
theorem cI {A B:Prop} (h:A):if true=true then A else B:=by
 rw [if_pos rfl];exact h
theorem iZ {c A B:Prop} [Decidable c] (h1:c->A) (h2:¬ c->B):if c then A else B:=by
 by_cases h:c
 ·rw [if_pos h]
  exact h1 h
 ·rw [if_neg h]
  exact h2 h
theorem gK {c A B:Prop} [Decidable c] (hc:c) (h:B):if (!decide c)=true then A else B:=by
 rw [decide_eq_true hc];exact cE h
noncomputable def aI (H H':Hp):Prop:=∀ b o,H b=some o->H' b=some o
theorem aI.refl (H:Hp):aI H H:=fun _ _ h=>h
theorem aI.trans {H H1 H2:Hp} (a:aI H H1) (b:aI H1 H2):aI H H2:=fun c o h=>b c o (a c o h)
section
variable {κ:Type} [DecidableEq κ]
theorem ke:∀ {l:List κ}{k:κ},l.Nodup->¬ k∈l->(l++[k]).Nodup
 | [],k,_,_=>by simp
 | a :: r,k,h,hk=>by
  obtain ⟨h1,h2⟩:=List.nodup_cons.mp h;show (a :: (r++[k])).Nodup;refine List.nodup_cons.mpr ⟨fun m=>?_,ke h2 fun m=>hk (List.mem_cons.mpr (Or.inr m))⟩;rcases List.mem_append.mp m with q | q
  ·exact h1 q
  ·exact hk (List.mem_cons.mpr (Or.inl (List.mem_singleton.mp q).symm))
end
theorem iQ {α β:Type}{f:α->β->Sem (ForInStep β)}{g:β->α->β}:∀ (l:List α) (c:β),(∀ x∈l,∀ c,f x c=pure (.yield (g c x)))->forIn l c f=pure (l.foldl g c)
 | [],c,_=>rfl
 | x :: l,c,h=>by
  rw [List.forIn_cons,h x List.mem_cons_self,pure_bind,List.foldl_cons];exact iQ l (g c x) fun y hy=>h y (List.mem_cons_of_mem _ hy)
noncomputable def kC (env:Env) (cs:List (Str×Addr)) (x:Str×NameKind):List (Str×Addr) :=
 if x.2==NameKind.free then (match env.cells.lookup x.1 with | some c=>(x.1,c) :: cs | none=>cs) else cs
noncomputable def zT (env:Env) (names:List (Str×NameKind)):List (Str×Addr):=names.foldl (kC env) []
theorem gv {scope:Scope}{env:Env} (h:∀ x∈scope.names,x.2=.free->∃ c,env.cells.lookup x.1=some c):closureFor scope env=pure (zT env scope.names):=by
 simp only [closureFor];rw [iQ (g:=kC env) scope.names [] (fun x hx c=>?_)]
 ·rfl
 ·obtain ⟨n,k⟩:=x
  by_cases e:k=.free
  ·subst e
   obtain ⟨a,ha⟩:=h _ hx rfl;have ha':env.cells.lookup n=some a:=ha;simp [cellOf,ha',kC]
  ·have e':(k==NameKind.free)=false:=by simpa using e
   simp [kC,e']
theorem um {env:Env}:∀ (names:List (Str×NameKind)) (cs:List (Str×Addr)),(∀ p∈cs,env.cells.lookup p.1=some p.2)->∀ p∈names.foldl (kC env) cs,env.cells.lookup p.1=some p.2
 | [],cs,h,p,hp=>h p hp
 | x :: r,cs,h,p,hp=>by
  refine um r (kC env cs x) (fun q hq=>?_) p hp;unfold kC at hq;split at hq
  ·split at hq
   ·rename_i c e
    rcases List.mem_cons.mp hq with z | z
    ·subst z; exact e
    ·exact h q z
   ·exact h q hq
  ·exact h q hq
theorem fG {env:Env}{names:List (Str×NameKind)}{x:Str}{c:Addr} (h:(zT env names).lookup x=some c):env.cells.lookup x=some c :=
 um names [] (fun _ z=>nomatch z) (x,c) (PySem.mem_of_lookup h)
theorem nA {env:Env}{x:Str}:∀ (names:List (Str×NameKind)) (cs:List (Str×Addr)),(∃ c,cs.lookup x=some c)->∃ c,(names.foldl (kC env) cs).lookup x=some c
 | [],_,h=>h
 | y :: r,cs,h=>by
  refine nA r _ ?_;unfold kC;split
  ·split
   ·obtain ⟨c,hc⟩:=h
    rw [List.lookup_cons];split
    ·exact ⟨_,rfl⟩
    ·exact ⟨c,hc⟩
   ·exact h
  ·exact h
theorem oQ {env:Env}{x:Str}{c:Addr} (hc:env.cells.lookup x=some c):∀ (names:List (Str×NameKind)) (cs:List (Str×Addr)),(x,NameKind.free)∈names->∃ c,(names.foldl (kC env) cs).lookup x=some c
 | [],_,h=>nomatch h
 | y :: r,cs,h=>by
  rcases List.mem_cons.mp h with e | e
  ·subst e
   refine nA r _ ?_;unfold kC;simp only [beq_self_eq_true,if_true];rw [hc];exact ⟨c,by simp [List.lookup_cons]⟩
  ·exact oQ hc r _ e
structure CScope (scope:Scope):Prop where
 kind:scope.kind=.function
 nocell:∀ x∈scope.names,x.2≠.cell
 names:∀ x∈scope.names,x.2=.local->scope.names.lookup x.1=some .local
noncomputable def cx (X:Cx) (scope:Scope) (C:Addr) (N:List Str) (s₀:Shared) (H₀:Hp) (fp:List Addr):Cx :=
 { X with N:=N,s₀:=s₀,H₀:=H₀,env:=compEnvC scope (zT X.env scope.names) C X.env,outer:=X.stack,stack:=X.stack,ex:=fp,fn:=fun _=>false,pn:=[],xe:=fun _ _=>False }
section
variable {X:Cx}{scope:Scope}{pins:List (Addr×Obj)}{σ:St}{H:Hp}{s:Shared}{fp:List Addr}
theorem gu {env:Env}:∀ {names:List (Str×NameKind)}{x:Str},(∀ y∈names,y.2≠.cell) ->
  ((names.map fun (n,k)=>if (k==NameKind.free&&env.scope.kind==.function&&env.kindOf n==some .cell) then (n,NameKind.cell) else (n,k)).lookup x=some .cell\/(names.map fun (n,k)=>if (k==NameKind.free&&env.scope.kind==.function&&env.kindOf n==some .cell) then (n,NameKind.cell) else (n,k)).lookup x=some .free)->(x,NameKind.free)∈names
 | [],_,_,h=>by rcases h with h | h<;>simp at h
 | (n,k) :: r,x,hn,h=>by
  have ih:=@gu env r x (fun y hy=>hn y (List.mem_cons_of_mem _ hy));have hk:k≠.cell:=hn (n,k) List.mem_cons_self;rw [List.map_cons] at h
  by_cases hx:x=n
  ·subst hx
   have hf:k=.free:=by
    by_cases hc:(k==NameKind.free&&env.scope.kind==.function&&env.kindOf x==some .cell)=true
    ·simp only [Bool.and_eq_true,beq_iff_eq] at hc
     exact hc.1.1
    ·dsimp only at h
     rw [if_neg hc] at h;rcases h with h | h
     ·simp at h; exact absurd h hk
     ·simpa using h
   subst hf;exact List.mem_cons_self
  ·have hx':(x==n)=false:=by simpa using hx
   refine List.mem_cons_of_mem _ (ih ?_);dsimp only at h ⊢
   by_cases hc:(k==NameKind.free&&env.scope.kind==.function&&env.kindOf n==some .cell)=true
   ·rw [if_pos hc] at h
    simpa only [List.lookup_cons,hx'] using h
   ·rw [if_neg hc] at h
    simpa only [List.lookup_cons,hx'] using h
theorem vt {N:List Str} (I:Inv X pins σ H s) (S:CScope scope) (hf:∀ b∈fp,FpOk X pins H b) (hlt:∀ b∈fp,b < s.heap.objs.size)
  (hfree:∀ x,(x,NameKind.free)∈scope.names->∃ c,X.env.cells.lookup x=some c):(cx X scope s.heap.objs.size N s H fp).Ok where
 mod:=I.ok.mod
 kind:=S.kind
 glob:=I.ok.glob
 blt:=I.ok.blt
 above:=Nat.le_refl _
 inj:=fun x y c h1 h2=>I.ok.inj x y c (fG h1) (fG h2)
 has:=fun x hx=>by
  have hm:(x,NameKind.free)∈scope.names:=gu S.nocell hx;obtain ⟨c,hc⟩:=hfree x hm;exact oQ hc scope.names [] hm
 cab:=fun x c h=>absurd (show false=true from h) Bool.false_ne_true
 hd:=I.ok.hd
 frames:=I.ok.frames
 stk:=.inl rfl
 exf:=fun b hb=>⟨Nat.ne_of_lt (hlt b hb),fun x c h=>(hf b hb).2.2.2.2.1 x c (fG h)⟩
 bs:=fun b o e=>I.bs b o e
 bsz:=Nat.le_trans I.ok.bsz I.sz
 noex:=fun b o e hb=>by
  rcases (hf b hb).2.2.2.1 with z | z
  ·exact I.ok.noex b o e z
  ·exact absurd (Nat.lt_of_lt_of_le (Heap.lt_size e) I.ok.bsz) (Nat.not_lt.mpr z)
 exfs:=fun b hb z=>by
  rcases List.mem_cons.mp (I.stkSub b z) with e | e
  ·exact (hf b hb).2.1 e
  ·exact (hf b hb).2.2.1 e
 funs:=I.stack
 frf:=I.stkFree
structure Caps (X:Cx) (scope:Scope) (fr:List Nat):Prop where
 cap:∀ j∈fr,∃ x,X.N[j]? = some x/\(X.env.scope.names.lookup x=some .cell\/X.env.scope.names.lookup x=some .free)/\scope.names.lookup x=some .free
 free:∀ x,(x,NameKind.free)∈scope.names->X.env.scope.names.lookup x=some .cell\/X.env.scope.names.lookup x=some .free
noncomputable def mR (X:Cx) (tgs:List Str) (fr:List Nat):List Str:=tgs++fr.map fun j=>X.N.getD j ""
noncomputable def jZ (k:Nat) (fr:List Nat) (σ:St):St:=List.replicate k none++fr.map fun j=>(σ[j]?).getD none
theorem iN {env:Env}:∀ {names:List (Str×NameKind)}{x:Str},names.lookup x=some .free ->
  ((names.map fun (n,k)=>if (k==NameKind.free&&env.scope.kind==.function&&env.kindOf n==some .cell) then (n,NameKind.cell) else (n,k)).lookup x=some .cell\/(names.map fun (n,k)=>if (k==NameKind.free&&env.scope.kind==.function&&env.kindOf n==some .cell) then (n,NameKind.cell) else (n,k)).lookup x=some .free)
 | [],_,h=>by simp at h
 | (n,k) :: r,x,h=>by
  have ih:=@iN env r x;rw [List.map_cons];dsimp only;cases hx:x==n with
  | true =>
   rw [List.lookup_cons,hx] at h;obtain rfl:k=.free:=by simpa using h
   by_cases hc:(NameKind.free==NameKind.free&&env.scope.kind==.function&&env.kindOf n==some .cell)=true
   ·rw [if_pos hc]; left; simp [List.lookup_cons,hx]
   ·rw [if_neg hc]; right; simp [List.lookup_cons,hx]
  | false =>
   rw [List.lookup_cons,hx] at h
   by_cases hc:(k==NameKind.free&&env.scope.kind==.function&&env.kindOf n==some .cell)=true
   ·rw [if_pos hc]; simpa only [List.lookup_cons,hx] using ih h
   ·rw [if_neg hc]; simpa only [List.lookup_cons,hx] using ih h
theorem yd {tgs:List Str}{fr:List Nat}{h₁:Heap}{tk:Nat} (I:Inv X pins σ H s) (S:CScope scope) (P:Caps X scope fr) (hf:∀ b∈fp,FpOk X pins H b) (hlt:∀ b∈fp,b < s.heap.objs.size)
  {m:Str->Option Value} (hns:h₁.Ns s.heap.objs.size m) (hk:∀ b o,s.heap.get? b=some o->h₁.get? b=some o) :
  Inv (cx X scope s.heap.objs.size (mR X tgs fr) s H fp) [] (jZ tgs.length fr σ) H { s with heap:=h₁,toks:=tk }:=by
 have hfree:∀ x,(x,NameKind.free)∈scope.names->∃ c,X.env.cells.lookup x=some c:=fun x hx=>I.ok.has x (P.free x hx);refine ⟨vt I S hf hlt hfree,rfl,I.bare,Un.kept hk,⟨m,hns,fun i x v h1 h2 h3=>?_⟩,fun x c h=>?_,I.hok.fresh (Nat.le_refl _),fun x c h=>I.freeC x c (fG h),fun p hp=>absurd (show p∈([]:List (Addr×Obj)) from hp) (by simp),I.hok.kept hk,?_⟩
 ·have hi:tgs.length<=i:=by
   by_cases hi:i < tgs.length
   ·unfold jZ at h2
    rw [List.getElem?_append_left (by simpa using hi),List.getElem?_replicate] at h2;split at h2<;>cases h2
   ·omega
  have h1':(fr.map fun j=>X.N.getD j "")[i - tgs.length]? = some x:=by
   have h1:(mR X tgs fr)[i]? = some x:=h1;unfold mR at h1;rw [List.getElem?_append_right hi] at h1;exact h1
  have h2':(fr.map fun j=>(σ[j]?).getD none)[i - tgs.length]? = some (some v):=by
   unfold jZ at h2;rw [List.getElem?_append_right (by simpa using hi),List.length_replicate] at h2;exact h2
  rw [List.getElem?_map] at h1' h2';cases ej:fr[i - tgs.length]? with
  | none=>rw [ej] at h1'; cases h1'
  | some j =>
   rw [ej] at h1' h2';have e1:X.N.getD j "" = x:=Option.some.inj h1';have e2:(σ[j]?).getD none=some v:=Option.some.inj h2';obtain ⟨y,hy,hkx,hks⟩:=P.cap j (List.mem_of_getElem? ej);have exy:x=y:=by
    rw [<- e1,List.getD_eq_getElem?_getD,hy]; rfl
   subst exy;have e3:σ[j]? = some (some v):=by
    cases q:σ[j]? with
    | none=>rw [q] at e2; cases e2
    | some o=>rw [q] at e2; exact congrArg some e2
   obtain ⟨m0,hn0,hl⟩:=I.loc;obtain ⟨u,r,l⟩:=hl j x v hy e3 (.inr hkx);refine ⟨u,r,.inr ⟨iN hks,?_⟩⟩;obtain ⟨c,hc⟩:=I.ok.has x hkx;obtain ⟨c',hc'⟩:=oQ hc scope.names [] (PySem.mem_of_lookup hks);have hcc:X.env.cells.lookup x=some c':=fG hc';refine ⟨c',hc',?_⟩;rcases l with ⟨lk,_⟩ | ⟨_,c2,hc2,z⟩
   ·have lk:X.env.scope.names.lookup x=some .local:=lk
    rcases hkx with q | q<;>(rw [q] at lk; cases lk)
   ·rw [hc2] at hcc; cases hcc
    obtain ⟨o,ho,hd⟩:=z;exact ⟨o,hk _ o ho,hd⟩
 ·obtain ⟨v,o,ho,hd⟩:=I.cell x c (fG h)
  exact ⟨v,o,hk _ o ho,hd⟩
 ·show (jZ tgs.length fr σ).length=(mR X tgs fr).length
  unfold jZ mR;simp
theorem yb {N:List Str}{C:Addr}{σ':St}{H':Hp}{s':Shared}{h':Heap} (I:Inv X pins σ H s) (hC:C=s.heap.objs.size) (hf:∀ b∈fp,FpOk X pins H b) (J:Inv (cx X scope C N s H fp) [] σ' H' s')
  (hs:Heap.SameBut C s'.heap h'):Inv X pins σ H' { s' with heap:=h' }:=by
 have nC:H' C=none:=J.free;have neC:∀ b o,s.heap.get? b=some o->b≠C:=fun b o e=>by rw [hC]; exact Nat.ne_of_lt (Heap.lt_size e)
 have hok:gb X.prog X.w H' h':=fun b ob e=>by
  refine (J.hok b ob e).stay (fun c w' hc q=>(hs.2 c ?_).trans q) (fun _ q=>q) fun _ _ q=>q;rintro rfl;rcases hc with rfl | hc
  ·rw [nC] at e; cases e
  ·rw [nC] at hc; cases hc
 have u:Un (mS X.stack) fp H H' s.heap s'.heap:=J.base;refine I.call' (s':={ s' with heap:=h' }) (ch:=fp) J.os ⟨fun b o e n hb hx=>?_,fun b o e n hb hx=>?_,u.free,fun b o e hx=>?_,u.tups,u.frzs,u.tbls⟩ hok J.bare fun b hb=>?_
 ·exact (hs.2 b (neC b o e)).trans (u.keep b o e n hb hx)
 ·obtain ⟨sl,q⟩:=u.slot b o e n hb hx
  exact ⟨sl,(hs.2 b (neC b o e)).trans q⟩
 ·obtain ⟨o',q⟩:=u.there b o e hx
  exact ⟨o',(hs.2 b (neC b o e)).trans q⟩
 ·obtain ⟨_,f1,f2,f3,f4,f5⟩:=hf b hb
  exact ⟨f3,f1,f4,f5⟩
end
section
variable {prog:Program}{w:World}{A:Around}{R:Result->Shared->Prop}{s:Shared}
noncomputable def zW (M:Model) (A:Around) (env:Env):List Expr->(Bool->Shared->Prop)->Shared->Prop
 | [],Q,s=>Q true s
 | c :: _,Q,s=>wpAny M A (isTrue c env (eval c env)) Q (fun _ _=>False) s
theorem mY {M:Model}{A:Around}{env:Env}{Q:Bool->Shared->Prop}{s:Shared}:zW M A env [] Q s=Q true s:=rfl
theorem pH {elt target iter:Expr}{ifs:List Expr}{scope:Scope}{pos:Pos}{it acc:Value}{env:Env} (hi:ifs=[]\/∃ c,ifs=[c]) (I:Nat->Shared->Prop)
  (turn:∀ n s,I n s->wpAny (model prog w) A (pyNext it) (fun r s₁=>match r with
   | none=>R (.ok .next) s₁
   | some v=>wpAny (model prog w) A (letOwnedTupleGo target it v) (fun _ s₁'=>wpAny (model prog w) A (assign target env v) (fun _ s₂=>zW (model prog w) A env ifs (fun ok s₃ =>
     if ok=true then wpAny (model prog w) A (eval elt env) (fun x s₄=>wpAny (model prog w) A (call (.builtin "list.append") [acc,x]) (fun _ s₅=>∃ m,m < n/\I m s₅) (fun _ _=>False) s₄) (fun _ _=>False) s₃
     else ∃ m,m < n/\I m s₃) s₂) (fun _ _=>False) s₁') (fun _ _=>False) s₁) (fun _ _=>False) s)
  (n:Nat) (h:I n s):codeAny (model prog w) A (.compLoop (.ListComp elt [⟨target,iter,ifs,0⟩] scope pos) 0 it acc env) R s:=by
 refine codeAny_loop rfl I (fun n s hI=>?_) n h;show wpAny _ _ ((compTurn (.ListComp elt [⟨target,iter,ifs,0⟩] scope pos) 0 it acc env).onRaise (fun x=>do noteFrame x env; theTreesLotGoes x)) _ _ s;refine wpAny_noted ?_;have F:∀ {α:Type}{m:Sem α}{Q:α->Shared->Prop}{E:Value->Shared->Prop}{s:Shared},wpAny (model prog w) A m Q (fun _ _=>False) s->wpAny (model prog w) A m Q E s:=fun h=>wpAny_mono h (fun _ _ q=>q) fun _ _ z=>z.elim;rcases hi with rfl | ⟨c,rfl⟩
 ·have e:compTurn (.ListComp elt [⟨target,iter,[],0⟩] scope pos) 0 it acc env=(standAt iter.pos >>= fun _=>pyNext it >>= fun r=>match r with
   | none=>pure (.done .next)
   | some v=>letOwnedTupleGo target it v >>= fun _=>assign target env v >>= fun _ =>
    (eval elt env >>= fun x=>call (.builtin "list.append") [acc,x] >>= fun _=>pure ()) >>= fun _ =>
     again (.compLoop (.ListComp elt [⟨target,iter,[],0⟩] scope pos) 0 it acc env)):=by rfl
  rw [e];refine wpAny_bind (wpAny_standAt (wpAny_bind (F (bE (turn n s hI) fun r s₁ h₁=>?_))));cases r with
  | none=>exact wpAny_pure h₁
  | some v =>
   refine wpAny_bind (F (bE h₁ fun _ s1 h1=>wpAny_bind (F (bE h1 fun _ s2 h2=>?_))));rw [mY,if_pos rfl] at h2;exact wpAny_bind (wpAny_bind (F (bE h2 fun x s3 h3=>wpAny_bind (F (bE h3 fun _ s4 h4=>wpAny_pure (wpAny_pure ⟨rfl,h4⟩))))))
 ·have e:compTurn (.ListComp elt [⟨target,iter,[c],0⟩] scope pos) 0 it acc env=(standAt iter.pos >>= fun _=>pyNext it >>= fun r=>match r with
   | none=>pure (.done .next)
   | some v=>letOwnedTupleGo target it v >>= fun _=>assign target env v >>= fun _ =>
    (forIn [c] true fun c r=>if r=true then (do let ok <- isTrue c env (eval c env); pure (ForInStep.yield ok)) else pure (ForInStep.yield r)) >>= fun ok =>
     if ok=true then (eval elt env >>= fun x=>call (.builtin "list.append") [acc,x] >>= fun _=>pure ()) >>= fun _=>again (.compLoop (.ListComp elt [⟨target,iter,[c],0⟩] scope pos) 0 it acc env)
     else again (.compLoop (.ListComp elt [⟨target,iter,[c],0⟩] scope pos) 0 it acc env)):=by rfl
  rw [e];refine wpAny_bind (wpAny_standAt (wpAny_bind (F (bE (turn n s hI) fun r s₁ h₁=>?_))));cases r with
  | none=>exact wpAny_pure h₁
  | some v =>
   refine wpAny_bind (F (bE h₁ fun _ s1 h1=>wpAny_bind (F (bE h1 fun _ s2 h2=>?_))));have h2:wpAny (model prog w) A (isTrue c env (eval c env)) _ (fun _ _=>False) s2:=h2;refine wpAny_bind ?_;rw [List.forIn_cons];refine wpAny_bind ?_;rw [if_pos rfl];refine wpAny_bind (F (bE h2 fun ok s3 h3=>wpAny_pure ?_));show wpAny _ _ (forIn ([]:List Expr) ok _) _ _ s3;rw [List.forIn_nil];refine wpAny_pure ?_;cases ok with
   | true =>
    rw [if_pos rfl] at h3 ⊢;exact wpAny_bind (wpAny_bind (F (bE h3 fun x s4 h4=>wpAny_bind (F (bE h4 fun _ s5 h5=>wpAny_pure (wpAny_pure ⟨rfl,h5⟩))))))
   | false =>
    rw [if_neg Bool.false_ne_true] at h3 ⊢;exact wpAny_pure ⟨rfl,h3⟩
end
abbrev zU:=Option TT
noncomputable def rq:zU->TT
 | none=>fun _ H Q=>Q true H
 | some t=>t
theorem dL {σ:St}{H:Hp}{Q:Bool->Hp->Prop}:rq none σ H Q=Q true H:=rfl
noncomputable def Wk (σ σ2:St):Prop:=∀ (i:Nat) (v:V),σ[i]? = some (some v)->σ2[i]? = some (some v)
theorem Wk.refl (σ:St):Wk σ σ:=fun _ _ h=>h
theorem Wk.set {σ σ2:St}{i:Nat}{o:Option V} (w:Wk σ σ2) (hi:σ[i]? = some none):Wk σ (σ2.set i o):=fun j v h=>by
 by_cases e:i=j
 ·subst e; rw [hi] at h; cases h
 ·rw [List.getElem?_set_ne e]; exact w j v h
noncomputable def Ad (wi:TI) (k:Nat) (fr:List Nat) (g:TG) (tt:zU) (te:TE):TE:=fun σ H Q=>wi σ H fun J H1=>∀ D,H1 D=none->∃ W:Nat->Nat->List V->Hp->Prop,(∃ m,W 0 m [] (aw H1 D (.lst []))) /\
 ∀ i m ys H,W i m ys H->(J.stop i H/\Q (.ref D) H)\/(J.go i H/\∀ x H',J.yld i H x H'->g x (jZ k fr σ) H' fun σ2 H2=>Wk (jZ k fr σ) σ2/\rq tt σ2 H2 fun c H3 =>
  if c=true then te σ2 H3 fun v H4=>H4 D=some (.lst ys)/\ys.length < sizeLine/\∃ m',m' < m/\W (i+1) m' (ys++[v]) (aw H4 D (.lst (ys++[v]))) else ∃ m',m' < m/\W (i+1) m' ys H3)
noncomputable def Cv (X:Cx):List Expr->zU->Prop
 | [],none=>True
 | [c],some t=>PT X c t
 | _,_=>False
section
variable {X:Cx}{scope:Scope}{tg elt iter:Expr}{ifs:List Expr}{tgs:List Str}{fr:List Nat}{g:TG}{tt:zU}{te:TE}{pos:Pos}
structure Block (X:Cx) (scope:Scope) (tgs:List Str) (fr:List Nat) (tg elt:Expr) (ifs:List Expr) (g:TG) (tt:zU) (te:TE):Prop where
 sc:CScope scope
 caps:Caps X scope fr
 calm:X.calm=true
 tgt:∀ C s₀ H₀ fp,PG (cx X scope C (mR X tgs fr) s₀ H₀ fp) tg g
 ift:∀ C s₀ H₀ fp,Cv (cx X scope C (mR X tgs fr) s₀ H₀ fp) ifs tt
 el:∀ C s₀ H₀ fp,PE (cx X scope C (mR X tgs fr) s₀ H₀ fp) elt te
theorem Block.few {X:Cx} (B:Block X scope tgs fr tg elt ifs g tt te) (s:Shared):ifs=[]\/∃ c,ifs=[c]:=by
 have h:=B.ift 0 s (fun _=>none) []
 match ifs,tt,h with
 | [],none,_=>exact .inl rfl
 | [c],some _,_=>exact .inr ⟨c,rfl⟩
theorem qF (B:Block X scope tgs fr tg elt ifs g tt te) {pins:List (Addr×Obj)}{σ:St}{H1:Hp}{s:Shared}{it:Addr}{fp:List Addr}{tn:Nat->Heap->Prop}{J:It}{Q:VK}{RR:Value->Addr->Result->Shared->Prop}{E:Value->Shared->Prop}
  (I:Inv X pins σ H1 s) (T:Turn X.prog X.w X.K tg J fp it tn) (t0:tn 0 s.heap) (hf:∀ b∈fp,FpOk X pins H1 b)
  (hw:∀ D,H1 D=none->∃ W:Nat->Nat->List V->Hp->Prop,(∃ m,W 0 m [] (aw H1 D (.lst []))) /\
   ∀ i m ys H,W i m ys H->(J.stop i H/\Q (.ref D) H)\/(J.go i H/\∀ x H',J.yld i H x H'->g x (jZ tgs.length fr σ) H' fun σ2 H2=>Wk (jZ tgs.length fr σ) σ2/\rq tt σ2 H2 fun c H3 =>
    if c=true then te σ2 H3 fun v H4=>H4 D=some (.lst ys)/\ys.length < sizeLine/\∃ m',m' < m/\W (i+1) m' (ys++[v]) (aw H4 D (.lst (ys++[v]))) else ∃ m',m' < m/\W (i+1) m' ys H3))
  (hR:∀ D C H' s',Inv X pins σ H' s'->H' C=none->C≠X.env.locals->X.s₀.heap.objs.size<=C->(∀ x c,X.env.cells.lookup x=some c->c≠C)->(∀ p∈X.pn++pins,p.1≠C)->(∃ m,s'.heap.Ns C m)->Q (.ref D) H'->RR (.ref D) C (.ok .next) s') :
  wpAny (model X.prog X.w) X.A (newList []) (fun acc s₃=>wpAny (model X.prog X.w) X.A (newFunctionEnv scope X.env.globals (zT X.env scope.names) [] X.env.qual none .none (some X.env)) (fun cenv s₄ =>
   codeAny (model X.prog X.w) X.A (.compStart (.ListComp elt [⟨tg,iter,ifs,0⟩] scope pos) 0 (.ref it) acc { cenv with scope:=relabel scope X.env }) (RR acc cenv.locals) s₄) E s₃) E s:=by
 have few:=B.few s;refine wpAny_newObj_type ?_ (Nat.zero_le _);have nD:H1 s.heap.objs.size=none:=I.hok.fresh (Nat.le_refl _);have I3:Inv X pins σ (aw H1 s.heap.objs.size (.lst [])) { s with heap:=s.heap.push { cls:=.type "list",data:=.seq ([]:List Value).toArray } } :=
  I.laid (t':=s.toks) (fun _ _ q=>Heap.get?_push_of_some _ q) (Nat.le_refl _) ⟨Nat.zero_le _,[],0,.nil,Heap.get?_push_size _ rfl⟩
 obtain ⟨W,⟨m0,w0⟩,turn⟩:=hw _ nD;have lt0:∀ b∈fp,b < s.heap.objs.size:=fun b hb=>let ⟨o,e,_⟩:=T.obj 0 _ t0 b hb; Heap.lt_size e;have hf3:∀ b∈fp,FpOk X pins (aw H1 s.heap.objs.size (.lst [])) b:=fun b hb=>by
  obtain ⟨a0,a1⟩:=hf b hb;exact ⟨by rw [ad (Nat.ne_of_lt (lt0 b hb))]; exact a0,a1⟩
 refine wpAny_newFunctionEnv B.sc.nocell (fun y hy=>nomatch hy) (fun h₁ hns hsb=>?_) B.sc.kind;generalize hs3:({ s with heap:=s.heap.push { cls:=.type "list",data:=.seq ([]:List Value).toArray } }:Shared)=s3 at I3 hns hsb ⊢;have lt3:∀ b∈fp,b < s3.heap.objs.size:=fun b hb=>by
  rw [<- hs3]; show b < (s.heap.push _).objs.size; rw [Heap.size_push]; exact Nat.lt_succ_of_lt (lt0 b hb)
 have k3:∀ b o,s3.heap.get? b=some o->h₁.get? b=some o:=fun b o e=>(hsb.2 b (Nat.ne_of_lt (Heap.lt_size e))).trans (Heap.get?_push_of_some _ e);have k0:∀ b o,s.heap.get? b=some o->s3.heap.get? b=some o:=fun b o e=>by rw [<- hs3]; exact Heap.get?_push_of_some _ e
 have JI:=yd (tgs:=tgs) (tk:=s3.toks+([]:List (Str×Value)).length) I3 B.sc B.caps hf3 lt3 hns k3;have t1:tn 0 h₁:=T.keep _ _ _ t0 fun b hb o e=>k3 b o (k0 b o e);have loop:codeAny (model X.prog X.w) X.A (.compLoop (.ListComp elt [⟨tg,iter,ifs,0⟩] scope pos) 0 (.ref it) (.ref s.heap.objs.size) (compEnvC scope (zT X.env scope.names) s3.heap.objs.size X.env))
   (RR (.ref s.heap.objs.size) s3.heap.objs.size) { s3 with heap:=h₁,toks:=s3.toks+([]:List (Str×Value)).length }:=by
  refine pH few (fun n s'=>∃ i ys σ' H',Inv (cx X scope s3.heap.objs.size (mR X tgs fr) s3 (aw H1 s.heap.objs.size (.lst [])) fp) [] σ' H' s'/\Wk (jZ tgs.length fr σ) σ'/\tn i s'.heap/\(∀ b∈fp,H' b=none)/\W i n ys H')
   ?_ m0 ⟨0,[],_,_,JI,Wk.refl _,t1,fun b hb=>(hf3 b hb).1,w0⟩
  rintro n s5 ⟨i,ys,σ5,H5,J5,wk5,t5,fr5,w5⟩;have fpo:∀ {H':Hp},(∀ b∈fp,H' b=none)->∀ b∈fp,FpOk (cx X scope s3.heap.objs.size (mR X tgs fr) s3 (aw H1 s.heap.objs.size (.lst [])) fp) [] H' b:=fun {H'} hn b hb =>
   ⟨hn b hb,(J5.ok.exf b hb).1,J5.ok.exfs b hb,.inl hb,fun x c e=>(J5.ok.exf b hb).2 x c e,fun p hp=>absurd (show p∈([]:List (Addr×Obj)) from hp) (by simp)⟩
  have J5':=J5.weak (σ':=jZ tgs.length fr σ) (by rw [J5.len]; exact JI.len) wk5;rcases turn i n ys H5 w5 with ⟨stop,q⟩ | ⟨go,step⟩
  ·refine bE (T.done (cx X scope s3.heap.objs.size (mR X tgs fr) s3 (aw H1 s.heap.objs.size (.lst [])) fp) rfl rfl rfl B.calm i [] s5 _ H5 _ J5' (fpo fr5) t5 stop) fun r s6 ⟨hr,J6⟩=>?_
   subst hr;have I6:Inv X pins σ H5 s6:=yb (h':=s6.heap) I3 rfl hf3 J6 (Heap.SameBut.refl ..);obtain ⟨m6,n6,_⟩:=J6.loc;have szC:=J6.ok.above;exact hR _ _ H5 s6 I6 J6.free (Nat.ne_of_gt I3.lt) I3.sz (fun x c e z=>by
    obtain ⟨v,o,ho,_⟩:=I3.cell x c e;exact absurd (Heap.lt_size ho) (by rw [z]; exact Nat.lt_irrefl _)) (fun p hp z=>absurd (Heap.lt_size (I3.pin p hp).1) (by rw [z]; exact Nat.lt_irrefl _)) ⟨m6,n6⟩ q
  ·refine bE (T.item (cx X scope s3.heap.objs.size (mR X tgs fr) s3 (aw H1 s.heap.objs.size (.lst [])) fp) rfl rfl rfl B.calm i [] s5 _ H5 _ J5' (fpo fr5) t5 go) fun r s6 ⟨u,hr,h6⟩=>?_
   subst hr;refine bE h6 fun _ s7 ⟨x,H7,J7,r7,y7,t7,fr7⟩=>?_;have J7':=J7.pinned (fpo fr7) (T.obj _ _ t7);refine bE (B.tgt _ _ _ _ _ s7 _ H7 x u _ J7' r7 (step x H7 y7)) fun _ s8 ⟨σ8,H8,J8,wk8,q8⟩=>?_;have again:∀ {s9:Shared}{H9:Hp}{zs:List V},Inv (cx X scope s3.heap.objs.size (mR X tgs fr) s3 (aw H1 s.heap.objs.size (.lst [])) fp) ([]++i3 fp s7.heap) σ8 H9 s9->(∃ m',m' < n/\W (i+1) m' zs H9) ->
     ∃ m,m < n/\∃ i ys σ' H',Inv (cx X scope s3.heap.objs.size (mR X tgs fr) s3 (aw H1 s.heap.objs.size (.lst [])) fp) [] σ' H' s9/\Wk (jZ tgs.length fr σ) σ'/\tn i s9.heap/\(∀ b∈fp,H' b=none)/\W i m ys H':=fun {s9 H9 zs} J9 ⟨m',hm,w9⟩=>by
    refine ⟨m',hm,i+1,zs,σ8,H9,J9.unpinned,wk8,T.keep _ _ _ t7 fun b hb o e=>(J9.pin (b,o) (List.mem_append_right _ (List.mem_append_right _ (fU hb e)))).1,fun b hb=>?_,w9⟩;obtain ⟨o,e,_⟩:=T.obj _ _ t7 b hb;exact (J9.pin (b,o) (List.mem_append_right _ (List.mem_append_right _ (fU hb e)))).2.1
   have fin:∀ {s9:Shared}{H9:Hp},Inv (cx X scope s3.heap.objs.size (mR X tgs fr) s3 (aw H1 s.heap.objs.size (.lst [])) fp) ([]++i3 fp s7.heap) σ8 H9 s9 ->
     te σ8 H9 (fun v H4=>H4 s.heap.objs.size=some (.lst ys)/\ys.length < sizeLine/\∃ m',m' < n/\W (i+1) m' (ys++[v]) (aw H4 s.heap.objs.size (.lst (ys++[v])))) ->
     wpAny (model X.prog X.w) X.A (eval elt (compEnvC scope (zT X.env scope.names) s3.heap.objs.size X.env)) (fun x s₄=>wpAny (model X.prog X.w) X.A (call (.builtin "list.append") [.ref s.heap.objs.size,x]) (fun _ s₅=>∃ m,m < n/\∃ i ys σ' H',Inv (cx X scope s3.heap.objs.size (mR X tgs fr) s3 (aw H1 s.heap.objs.size (.lst [])) fp) [] σ' H' s₅/\Wk (jZ tgs.length fr σ) σ'/\tn i s₅.heap/\(∀ b∈fp,H' b=none)/\W i m ys H') (fun _ _=>False) s₄) (fun _ _=>False) s9:=fun {s9 H9} J9 q9=>by
    refine bE (B.el _ _ _ _ _ s9 σ8 H9 _ J9 q9) fun v sA ⟨y,HA,JA,rA,eD,ez,qA⟩=>?_;exact bE (bj (X:=cx X scope s3.heap.objs.size (mR X tgs fr) s3 (aw H1 s.heap.objs.size (.lst [])) fp) _ sA σ8 HA (.ref s.heap.objs.size) [y] (.ref s.heap.objs.size) [v] (fun _ H'=>H'=aw HA s.heap.objs.size (.lst (ys++[y]))) JA rfl (.cons rA .nil)
     ⟨_,ys,y,rfl,rfl,eD,ez,rfl⟩) fun _ sB ⟨_,HB,JB,_,eB⟩=>by subst eB; exact again JB qA
   match ifs,tt,B.ift s3.heap.objs.size s3 (aw H1 s.heap.objs.size (.lst [])) fp,q8 with
   | [],none,_,q8 =>
    rw [dL,if_pos rfl] at q8;rw [mY,if_pos rfl];exact fin J8 q8
   | [c],some t,hc,q8 =>
    show wpAny _ _ (isTrue c _ (eval c _)) _ _ s8;refine bE (hc _ s8 σ8 H8 _ J8 q8) fun ok s9 ⟨H9,J9,q9⟩=>?_;cases ok with
    | true =>
     rw [if_pos rfl] at q9 ⊢;exact fin J9 q9
    | false =>
     rw [if_neg Bool.false_ne_true] at q9 ⊢;exact again J9 q9
 refine codeAny_compStart_list loop (T.self _ _ _ _ _ t1 loop)
theorem j9 {wi:TI} (hi:PI X tg iter wi) (B:Block X scope tgs fr tg elt ifs g tt te) (hs:∀ x,foldedSetIterable iter X.env x=pure x:=by intro _; rfl) :
  PE X (.ListComp elt [⟨tg,iter,ifs,0⟩] scope pos) (Ad wi tgs.length fr g tt te):=by
 intro pins s σ H Q I h;rw [eval_ListComp];have hclo:closureFor scope X.env=pure (zT X.env scope.names):=gv fun x hx e=>I.ok.has x.1 (B.caps.free x.1 (by rw [<- e]; exact hx));refine wpAny_comprehension_free (use:=none) rfl hs hclo B.sc.kind B.sc.names (bE (hi pins s σ H _ I h) fun v s1 h1=>bE h1 fun itv s2 h2=>?_);obtain ⟨it,fp,tn,J,H2,e,I2,T,t0,f0,hw⟩:=h2;subst e;refine qF (RR:=fun acc C=>compPost (model X.prog X.w) X.A X.xe none (EP X pins σ Q) acc C) (Q:=Q) B I2 T t0 f0 hw fun D C H' s' I' nC c1 c2 c3 c4 ns q=>?_;obtain ⟨m,hm⟩:=ns;exact ⟨m,hm,fun h' sb=>⟨.ref D,H',I'.turned (t':=s'.toks) (fun b o hb e=>(sb.2 b hb).trans e) nC c1 (.inr c2) c3 c4,rfl,q⟩⟩
theorem eX (hN:X.N.Nodup) (i:Nat) {x:Str}{pos' spos:Pos}{wi:TI} (hi:PI X tg iter wi) (B:Block X scope tgs fr tg elt ifs g tt te) (hix:X.N[i]? = some x:=by rfl) (hx:yp X.env.scope x:=by first | exact Or.inl rfl | exact Or.inr rfl)
  (hsw:swapsWith (.ListComp elt [⟨tg,iter,ifs,0⟩] scope pos) (some (.Name x pos')) spos.line X.env=pure true:=by rfl)
  (hf:X.fn x=true\/X.env.scope.names.lookup x=some .local:=by first | exact .inl rfl | exact .inr rfl | assumption) (hs:∀ x,foldedSetIterable iter X.env x=pure x:=by intro _; rfl) :
  PS X (.Assign [.Name x pos'] (.ListComp elt [⟨tg,iter,ifs,0⟩] scope pos) spos) (Ay (Ad wi tgs.length fr g tt te) (kF i)):=by
 intro pins s σ H Dn I h;have hclo:closureFor scope X.env=pure (zT X.env scope.names):=gv fun x hx e=>I.ok.has x.1 (B.caps.free x.1 (by rw [<- e]; exact hx));rw [exec_Assign_Name_used _ _ _ _ hsw];refine wpAny_bind (wpAny_standAt (wpAny_bind ?_));show wpAny _ X.A (do let _ <- comprehension (.ListComp elt [⟨tg,iter,ifs,0⟩] scope pos) scope X.env _ (newList []) false (eval iter X.env) (some (assign (.Name x pos') X.env))) _ _ s;refine wpAny_bind (wpAny_mono (wpAny_comprehension_free (use:=some (assign (.Name x pos') X.env)) (Q:=fun _ s'=>SP X pins Dn .next s') rfl hs hclo B.sc.kind B.sc.names
  (bE (hi pins s σ H _ I h) fun v s1 h1=>bE h1 fun itv s2 h2=>?_)) (fun _ s' hq=>wpAny_pure (wpAny_pure hq)) fun _ _ e=>e)
 obtain ⟨it,fp,tn,J,H2,e,I2,T,t0,f0,hw⟩:=h2;subst e;refine qF (RR:=fun acc C=>compPost (model X.prog X.w) X.A X.xe (some (assign (.Name x pos') X.env)) (fun _ s'=>SP X pins Dn .next s') acc C) (Q:=fun y H1=>kF i y σ H1 Dn.nx) B I2 T t0 f0 hw fun D C H' s' I' nC c1 c2 c3 c4 ns q=>?_;obtain ⟨m,hm⟩:=ns;show wpAny _ X.A (assign (.Name x pos') X.env (.ref D)) _ _ s';refine wpAny_assign_Name (m7 (v:=.ref D) I' hN hix hx rfl (fun s'' I'' ch=>?_) hf);obtain ⟨a,sb,ha⟩:=ch;have hCa:C≠a:=by
  rcases ha with ha | ha
  ·rw [ha]; exact c1
  ·exact fun z=>c3 x a ha z.symm
 refine ⟨m,hm.sameBut sb hCa,fun h' sb'=>⟨_,H',I''.turned (t':=s''.toks) (fun b o hb e=>(sb'.2 b hb).trans e) nC c1 (.inr c2) c3 c4,q⟩⟩
end
section
variable {X:Cx}
theorem PE.imp {e:Expr}{t t':TE} (h:PE X e t) (i:∀ σ H Q,t' σ H Q->t σ H Q):PE X e t':=fun pins s σ H Q I hw=>h pins s σ H Q I (i σ H Q hw)
theorem fz.imp {f:Value->Value->Sem Value}{r r':R2} (h:fz X f r) (i:∀ x y H Q,r' x y H Q->r x y H Q):fz X f r':=fun pins s σ H x y v u Q I rx ry hw=>h pins s σ H x y v u Q I rx ry (i x y H Q hw)
theorem bS.imp {f:Value}{r r':List V->Hp->VK->Prop} (h:bS X f r) (i:∀ xs H Q,r' xs H Q->r xs H Q):bS X f r':=fun pins s σ H xs us Q I rx hw=>h pins s σ H xs us Q I rx (i xs H Q hw)
noncomputable def gV (i:Nat):TE:=fun σ H Q=>match σ[i]? with
 | some (some v)=>Q v H
 | _=>False
theorem nv (i:Nat) {x:Str}{pos:Pos} (hN:X.N[i]? = some x:=by rfl) (hv:De X.env.scope x:=by first | exact Or.inl rfl | exact Or.inr (Or.inl rfl) | exact Or.inr (Or.inr rfl)) (hd:(x==("__debug__":Str))=false:=by decide)
  (hcd:(x==("__classdict__":Str))=false:=by decide):PE X (.Name x pos) (gV i) :=
 (Bg hN hv hd hcd).imp fun σ H Q h=>by
  unfold gV at h;split at h
  ·exact ⟨_,‹_›,h⟩
  ·exact h.elim
theorem nt {x:Str}{T:String}{pos:Pos} (hm:X.mg x=none) (hv:bootBuiltins x=some (.type T)) (hg:Gl X x:=by rfl) (hn:x ≠ "__name__":=by decide) (hd:(x==("__debug__":Str))=false:=by decide):PE X (.Name x pos) (tC (.ty T)):=y0 hg hm hv rfl hn hd
theorem aC (hN:X.N.Nodup) (i:Nat) {x:Str}{e:Expr}{te:TE}{pos pos':Pos} (he:PE X e te) (hi:X.N[i]? = some x:=by rfl) (hx:yp X.env.scope x:=by first | exact Or.inl rfl | exact Or.inr rfl)
  (hs:swapsWith e (some (.Name x pos')) pos.line X.env=pure false:=by rfl) (hf:X.fn x=true\/X.env.scope.names.lookup x=some .local:=by first | exact .inl rfl | exact .inr rfl | assumption) :
  PS X (.Assign [.Name x pos'] e pos) (Ay te (kF i)):=Bc hN hi hx he hs hf
theorem aJ (hN:X.N.Nodup) (i:Nat) {x:Str}{pos:Pos} (hi:X.N[i]? = some x:=by rfl) (hx:yp X.env.scope x:=by first | exact Or.inl rfl | exact Or.inr rfl) (hf:X.fn x=true\/X.env.scope.names.lookup x=some .local:=by first | exact .inl rfl | exact .inr rfl | assumption) :
  PG X (.Name x pos) (kF i):=tZ hN hi hx hf
noncomputable def AE (K:Frag):R2:=fun x y H Q=>match x,y with
 | .int i,.int j=>Q (.int (i+j)) H
 | .str i,.str j=>i.length+j.length<=sizeLine/\Q (.str (i++j)) H
 | .ref a,.ref b=>(∃ xs zs,H a=some (.lst xs)/\H b=some (.lst zs)/\xs.length+zs.length<=sizeLine/\∀ p,H p=none->Q (.ref p) (aw H p (.lst (xs++zs)))) \/
   (∃ xs ys,c8 K H a xs/\c8 K H b ys/\xs≠[]/\ys≠[]/\xs.length+ys.length<=sizeLine/\∀ p,H p=none->Q (.ref p) (aw H p (.tup (xs++ys))))
 | _,_=>False
theorem aW:fz X (binaryOp .Add) (AE X.K):=by
 intro pins s σ H x y v u Q I rx ry h;unfold AE at h;split at h
 ·exact Bs pins s σ H _ _ v u Q I rx ry ⟨_,_,rfl,rfl,h⟩
 ·exact sC pins s σ H _ _ v u Q I rx ry ⟨_,_,rfl,rfl,h.1,h.2⟩
 ·rcases h with ⟨xs,zs,h1,h2,h3,h4⟩ | ⟨xs,ys,h1,h2,h3,h4,h5,h6⟩
  ·exact Br pins s σ H _ _ v u Q I rx ry ⟨_,_,xs,zs,rfl,rfl,h1,h2,h3,h4⟩
  ·exact y9 pins s σ H _ _ v u Q I rx ry ⟨_,_,xs,ys,rfl,rfl,h1,h2,h3,h5,fun z=>absurd z h4,fun _=>h6⟩
 ·exact h.elim
noncomputable def wM:R2:=fun x y H Q=>match x,y with
 | .int i,.int j=>Q (.int (i - j)) H
 | _,_=>False
theorem j_:fz X (binaryOp .Sub) wM:=Bm.imp fun x y H Q h=>by
 unfold wM at h;split at h
 ·exact ⟨_,_,rfl,rfl,h⟩
 ·exact h.elim
theorem sw:fz X (binaryOp .Mult) (fun x y H Q=>∃ z n,x=.str z/\y=.int n/\MulOk z n/\Q (.str (Txt.mul z n)) H):=by
 intro pins s σ H x y v u Q I rx ry h;obtain ⟨z,n,rfl,rfl,hm,q⟩:=h;obtain ⟨t,rfl⟩:=rx;obtain ⟨t',rfl⟩:=ry;exact SB.mul hm fun t' k=>⟨.str _,H,I.tok k,⟨t',rfl⟩,q⟩
noncomputable def Cn:R2:=fun x y H Q=>match x,y with
 | .int i,.int j=>vR i j/\Q (.int (i * j)) H
 | .str z,.int n=>MulOk z n/\Q (.str (Txt.mul z n)) H
 | .ref l,.int k=>∃ xs,H l=some (.lst xs) /\ -(2 ^ 63)<=k/\k < 2 ^ 63/\xs.length * k.toNat<=sizeLine/\∀ p,H p=none->Q (.ref p) (aw H p (.lst (List.replicate k.toNat xs).flatten))
 | _,_=>False
theorem bi:fz X (binaryOp .Mult) Cn:=by
 intro pins s σ H x y v u Q I rx ry h;unfold Cn at h;split at h
 ·exact Bp pins s σ H _ _ v u Q I rx ry ⟨_,_,rfl,rfl,h.1,h.2⟩
 ·exact sw pins s σ H _ _ v u Q I rx ry ⟨_,_,rfl,rfl,h.1,h.2⟩
 ·obtain ⟨xs,h1,h2,h3,h4,h5⟩:=h
  exact Bo pins s σ H _ _ v u Q I rx ry ⟨_,_,xs,rfl,rfl,h1,h2,h3,h4,h5⟩
 ·exact h.elim
noncomputable def Co:R2:=fun x y H Q=>match x,y with
 | .int i,.int j=>0 < j/\Q (.int (i % j)) H
 | _,_=>False
theorem aA:fz X (binaryOp .Mod) Co:=Bq.imp fun x y H Q h=>by
 unfold Co at h;split at h
 ·exact ⟨_,_,rfl,rfl,h.1,h.2⟩
 ·exact h.elim
noncomputable def Ct:R2:=fun x y H Q=>match x,y with
 | .int i,.int j=>CB i j/\Q (.int (i / j)) H
 | _,_=>False
theorem dw:fz X (binaryOp .FloorDiv) Ct:=y8.imp fun x y H Q h=>by
 unfold Ct at h;split at h
 ·exact ⟨_,_,rfl,rfl,h.1,h.2⟩
 ·exact h.elim
noncomputable def Cm:V->Hp->VK->Prop:=fun x H Q=>match x with
 | .int i=>Q (.int (-i)) H
 | _=>False
theorem gy:Df X (unaryOp .USub) Cm:=fun pins s σ H x v Q I rx h=>by
 unfold Cm at h;split at h
 ·exact AK pins s σ H _ v Q I rx ⟨_,rfl,h⟩
 ·exact h.elim
noncomputable def vP (p:Int->Int->Bool):R2:=fun x y H Q=>match x,y with
 | .int i,.int j=>Q (.bl (p i j)) H
 | _,_=>False
theorem lb {f:Value->Value->Sem Value}{p:Int->Int->Bool} (h:fz X f (zQ fun i j=>.bl (p i j))):fz X f (vP p):=h.imp fun x y H Q h=>by
 unfold vP at h;split at h
 ·exact ⟨_,_,rfl,rfl,h⟩
 ·exact h.elim
theorem fN:fz X (compareOp .Lt) (vP fun i j=>decide (i < j)):=lb CV
theorem wA:fz X (compareOp .LtE) (vP fun i j=>decide (i<=j)):=lb CW
theorem kM:fz X (compareOp .Gt) (vP fun i j=>decide (j < i)):=lb CY
inductive Item (K:Frag) (H:Hp):V->V->V->Prop where
 | lst {p:Addr}{xs:List V}{i:Int}{v:V} (h:a9 K H p xs) (e:mr xs i=some v):Item K H (.ref p) (.int i) v
 | tup {p:Addr}{xs:List V}{i:Int}{v:V} (h:c8 K H p xs) (e:mr xs i=some v):Item K H (.ref p) (.int i) v
 | str {z:Str}{i:Int}{c:Nat} (hz:z.length<=sizeLine) (e:mr z.cps.toList i=some c):Item K H (.str z) (.int i) (.str ⟨#[c]⟩)
 | dct {a:Addr}{y v:V} (g:dc H a y (some v)):Item K H (.ref a) y v
theorem dN (hu:X.A.units+1 < cLine):BW X (fun x y H Q=>∃ v,Item X.K H x y v/\Q v H):=by
 intro value slice pins s σ H x y v u Q I rx ry h hs;obtain ⟨z,it,q⟩:=h;cases it with
 | lst h e=>exact zk value slice pins s σ H _ _ v u Q I rx ry ⟨_,_,_,_,rfl,rfl,h,e,q⟩ hs
 | tup h e=>exact By value slice pins s σ H _ _ v u Q I rx ry ⟨_,_,_,_,rfl,rfl,h,e,q⟩ hs
 | str h e=>exact Bz value slice pins s σ H _ _ v u Q I rx ry ⟨_,_,_,rfl,rfl,h,e,q⟩ hs
 | @dct a _ _ g =>
  obtain rfl:v=Value.ref a:=rx;exact tail_any (rg I g) PySem.F.slot_dict_getitem.lookup (vq hu I g ry fun w' s3 I3 rw'=>⟨_,H,I3,rw',q⟩) hs
theorem p0 {pins:List (Addr×Obj)}{σ:St}{H:Hp}{s:Shared}{x:V}{u t:Value} (I:Inv X pins σ H s) (rx:RelV x u) (ty:TyOf X.K H x t):∃ P:Heap->Prop,PySem.W.KitX X.K u t P/\P s.heap/\u≠.builtin "__main__.__loader__#opaque":=by
 cases ty with
 | non=>cases (show u=Value.none from rx); exact ⟨_,PySem.W.kitx_none,True.intro,fun z=>nomatch z⟩
 | bl y=>cases (show u=Value.bool y from rx); exact ⟨_,PySem.W.kitx_bool,True.intro,fun z=>nomatch z⟩
 | int i=>obtain ⟨t,q⟩:=(show ∃ t,u=Value.int i t from rx); cases q; exact ⟨_,PySem.W.kitx_int,True.intro,fun z=>nomatch z⟩
 | str y=>obtain ⟨t,q⟩:=(show ∃ t,u=Value.str y t from rx); cases q; exact ⟨_,PySem.W.kitx_str,True.intro,fun z=>nomatch z⟩
 | flt y=>obtain ⟨t,q⟩:=(show ∃ t,u=Value.float y t from rx); cases q; exact ⟨_,PySem.W.kitx_float,True.intro,fun z=>nomatch z⟩
 | @lst a xs ea =>
  cases (show u=Value.ref a from rx);obtain ⟨_,_,n,_,h1⟩:=(show a6 X.prog X.w H s.heap a (.lst xs) from I.hok a _ ea);exact ⟨_,PySem.W.kitx_list,⟨_,h1,rfl⟩,fun z=>nomatch z⟩
 | @frz a ob xs ea =>
  cases (show u=Value.ref a from rx);obtain ⟨_,_,_,n,_,h1⟩:=(show a6 X.prog X.w H s.heap a (.frz ob (.lst xs)) from I.hok a _ ea);exact ⟨_,PySem.W.kitx_list,⟨_,h1,rfl⟩,fun z=>nomatch z⟩
 | @tup a xs ea =>
  cases (show u=Value.ref a from rx);obtain ⟨_,_,_,p⟩:=(show a6 X.prog X.w H s.heap a (.tup xs) from I.hok a _ ea);obtain ⟨o,h1,h2,_⟩:=p;exact ⟨_,PySem.W.kitx_tuple,⟨o,h1,h2⟩,fun z=>nomatch z⟩
 | @dK a kvs ea =>
  cases (show u=Value.ref a from rx);obtain ⟨_,_,vs,_,p⟩:=(show a6 X.prog X.w H s.heap a (.dK kvs) from I.hok a _ ea);obtain ⟨o,es,ep,h1,h2,_⟩:=p;exact ⟨_,PySem.W.kitx_dict,⟨o,h1,h2.1⟩,fun z=>nomatch z⟩
 | @dT a kvs ea =>
  cases (show u=Value.ref a from rx);obtain ⟨_,_,xs,_,o,es,ep,h1,h2,_⟩:=(show a6 X.prog X.w H s.heap a (.dT kvs) from I.hok a _ ea);exact ⟨_,PySem.W.kitx_dict,⟨o,h1,h2.1⟩,fun z=>nomatch z⟩
 | @ins a C dx fs ea cl ha hn htk hm =>
  cases (show u=Value.ref a from rx);obtain ⟨mA,O,_⟩:=km I.hok ea;obtain ⟨od,J,_⟩:=O.look;exact ⟨_,PySem.W.kitx_own (cl.get _) cl.hd ha hn htk hm,J,fun z=>nomatch z⟩
theorem tz:∀ {ns:List String}{us:List Value},aL (ns.map V.ty) us->us=ns.map Value.type
 | [],_,.nil=>rfl
 | n :: ns,_,.cons r t=>by
  cases (show _=Value.type n from r);rw [tz t]; rfl
noncomputable def Cq (K:Frag):List V->Hp->VK->Prop:=fun xs H Q=>match xs with
 | [x,.ty n]=>∃ t b,TyOf K H x t/\PySem.W.kitOne K t (.type n)=some b/\Q (.bl b) H
 | [x,.ref tp]=>∃ (ns:List String) (t:Value) (b:Bool),H tp=some (.tup (ns.map V.ty))/\TyOf K H x t/\PySem.W.kitAny K t (ns.map Value.type)=some b/\Q (.bl b) H
 | _=>False
theorem ax:bS X (.builtin "isinstance") (Cq X.K):=by
 intro pins s σ H xs us Q I r h;unfold Cq at h;split at h
 ·obtain ⟨t,b,ty,e,q⟩:=h
  obtain ⟨u,v,rfl,ru,rv⟩:=aL.two r;cases (show v=Value.type _ from rv);obtain ⟨P,k,p,ne⟩:=p0 I ru ty;exact PySem.W.kia_one k I.kIn p e ne fun tk=>⟨.bl b,H,I.tok tk,rfl,q⟩
 ·rename_i x tp
  obtain ⟨ns,t,b,htp,ty,e,q⟩:=h;obtain ⟨u,v,rfl,ru,rv⟩:=aL.two r;cases (show v=Value.ref tp from rv);obtain ⟨P,k,p,ne⟩:=p0 I ru ty;obtain ⟨_,its,rt,⟨cls,dd,data,sl⟩,h1,h2,n,h3⟩:=(show a6 X.prog X.w H s.heap tp (.tup (ns.map V.ty)) from I.hok tp _ htp);simp only at h2 h3;subst h2 h3;have hi:=tz rt;subst hi;exact PySem.W.kia_tup k I.kIn p h1 e ne fun tk=>⟨.bl b,H,I.tok tk,rfl,q⟩
 ·exact h.elim
noncomputable def Cp:List V->Hp->VK->Prop:=fun xs H Q=>match xs with
 | [.int i,.int j]=>Q (.int (if j < i then j else i)) H
 | _=>False
theorem nO (hc:X.calm=true:=by rfl):bS X (.builtin "min") Cp:=(vz hc).imp fun xs H Q h=>by
 unfold Cp at h;split at h
 ·exact ⟨_,_,rfl,h⟩
 ·exact h.elim
noncomputable def AD (K:Frag):List V->Hp->VK->Prop:=fun xs H Q=>match xs with
 | [.ref p]=>∃ n:Nat,((∃ ys,(a9 K H p ys\/c8 K H p ys)/\n=ys.length)\/(∃ kvs:List (a5×V),H p=some (.dK kvs)/\n=kvs.length))/\Q (.int n) H
 | [.str z]=>z.length<=sizeLine/\Q (.int z.length) H
 | _=>False
theorem bf:bS X (.builtin "len") (AD X.K):=by
 intro pins s σ H xs us Q I r h;unfold AD at h;split at h
 ·obtain ⟨n,h | h,q⟩:=h
  ·obtain ⟨ys,hy,rfl⟩:=h
   exact pJ pins s σ H _ us Q I r ⟨_,ys,rfl,hy,q⟩
  ·obtain ⟨kvs,hk,rfl⟩:=h
   exact vD pins s σ H _ us Q I r ⟨_,kvs,rfl,hk,q⟩
 ·exact pI pins s σ H _ us Q I r ⟨_,rfl,h.1,h.2⟩
 ·exact h.elim
theorem pL:bS X (.type "int") (fun xs H Q=>∃ z n,xs=[.str z]/\PySem.intText? z=some n/\z.length<=640/\Q (.int n) H):=by
 intro pins s σ H xs us Q I r h;obtain ⟨z,n,rfl,e,hl,q⟩:=h;obtain ⟨u,rfl,t,rfl⟩:=dS r;exact PySem.W.KIN.call_text e hl ⟨.int n,H,I.tok _,⟨_,rfl⟩,q⟩
noncomputable def Cr:List V->Hp->VK->Prop:=fun xs H Q=>match xs with
 | [.str z]=>∃ n,PySem.intText? z=some n/\z.length<=640/\Q (.int n) H
 | [.bl b]=>Q (.int (if b then 1 else 0)) H
 | [.int i]=>Q (.int i) H
 | _=>False
theorem nP:bS X (.type "int") Cr:=by
 intro pins s σ H xs us Q I r h;unfold Cr at h;split at h
 ·obtain ⟨n,h1,h2,h3⟩:=h
  exact pL pins s σ H _ us Q I r ⟨_,n,rfl,h1,h2,h3⟩
 ·exact nQ pins s σ H _ us Q I r (.inr ⟨_,rfl,h⟩)
 ·exact nQ pins s σ H _ us Q I r (.inl ⟨_,rfl,h⟩)
 ·exact h.elim
end
structure DefAt (K:Frag) (mg:Str->Option Value) (x:Str) (st:Stmt) (ps:List Str):Prop where
 ex:∃ f fd,Fun K x x st f fd/\mg x=some (.ref f)/\∀ us:List Value,us.length=ps.length->bindArgs fd ⟨us,[]⟩=pure (ps.zip us)
structure Own (P:Program) (w:World) (K:Frag) (mg:Str->Option Value) (base:Heap) (x:Str) (k:Nat) (ps:List Str) (sp:Sp):Prop where
 ex:∃ f fd,FnOk P w K mg base uw k f fd ps sp/\mg x=some (.ref f)/\PySem.W.keepIn K (.ref f)=true/\∀ us:List Value,us.length=ps.length->bindArgs fd ⟨us,[]⟩=pure (ps.zip us)
theorem e9 {N P:List Str}{sc:Scope} (a:sc.kind=.function:=by rfl) (b:sc.isCoroutine=false:=by rfl) (c:sc.isGenerator=false:=by rfl) (d:N.Nodup:=by decide +kernel) (e:N.take P.length=P:=by rfl)
  (f:∀ x∈P,sc.names.lookup x=some .local\/sc.names.lookup x=some .cell:=by decide +kernel) (g:∀ y∈sc.names,y.2≠.free:=by decide +kernel):FnScope N P sc:=⟨a,b,c,d,e,f,g⟩
theorem vZ {fd : FuncData}{ps : List Str} (h : ∀ a : Value, bindArgs fd { pos := [a] }=pure (ps.zip [a])) (us : List Value) (hl : us.length=1) : bindArgs fd { pos := us }=pure (ps.zip us) := by
  cases us with
  | nil => cases hl
  | cons a us =>
    cases us with
    | nil => exact h a
    | cons e us => cases hl
theorem vY {fd : FuncData}{ps : List Str} (h : ∀ a b : Value, bindArgs fd { pos := [a, b] }=pure (ps.zip [a, b])) (us : List Value) (hl : us.length=2) : bindArgs fd { pos := us }=pure (ps.zip us) := by
  cases us with
  | nil => cases hl
  | cons a us =>
    cases us with
    | nil => cases hl
    | cons b us =>
      cases us with
      | nil => exact h a b
      | cons e us => cases hl
theorem vX {fd : FuncData}{ps : List Str} (h : ∀ a b c : Value, bindArgs fd { pos := [a, b, c] }=pure (ps.zip [a, b, c])) (us : List Value) (hl : us.length=3) : bindArgs fd { pos := us }=pure (ps.zip us) := by
  cases us with
  | nil => cases hl
  | cons a us =>
    cases us with
    | nil => cases hl
    | cons b us =>
      cases us with
      | nil => cases hl
      | cons c us =>
        cases us with
        | nil => exact h a b c
        | cons e us => cases hl
theorem vW {fd : FuncData}{ps : List Str} (h : ∀ a b c d : Value, bindArgs fd { pos := [a, b, c, d] }=pure (ps.zip [a, b, c, d])) (us : List Value) (hl : us.length=4) : bindArgs fd { pos := us }=pure (ps.zip us) := by
  cases us with
  | nil => cases hl
  | cons a us =>
    cases us with
    | nil => cases hl
    | cons b us =>
      cases us with
      | nil => cases hl
      | cons c us =>
        cases us with
        | nil => cases hl
        | cons d us =>
          cases us with
          | nil => exact h a b c d
          | cons e us => cases hl
theorem a8 {K:Frag}{h:Heap}{mg:Str->Option Value}{x:Str}{st:Stmt}{ps:List Str}{f:Addr}{oc kV doc pm cdv ct:Value}{od an:Option Addr}{osl:Array (Option Value)} (X:K.In h) (G:h.Ns mainGlobals mg)
  (a:PySem.W.nsIn K mainGlobals x=some (some (.ref f)):=by k_is) (l:K.lookup f=some ⟨oc,od,.func (PySem.W.fnOf x x (dh st) (bM st) (ao st) .none kV doc pm an cdv ct),osl⟩:=by k_is) (c:PySem.W.codeIn K cdv x=true:=by k_is) (k:PySem.W.keepIn K (.ref f)=true:=by k_is)
  (hb:∀ (kV doc pm:Value) (an:Option Addr) (cdv ct:Value) (us:List Value),us.length=ps.length->bindArgs (PySem.W.fnOf x x (dh st) (bM st) (ao st) .none kV doc pm an cdv ct) ⟨us,[]⟩=pure (ps.zip us):=by intro _ _ _ _ _ _ us hl; first | exact vZ (fun _=>rfl) us hl | exact vY (fun _ _=>rfl) us hl | exact vX (fun _ _ _=>rfl) us hl | exact vW (fun _ _ _ _=>rfl) us hl | exact bind0 rfl us hl):DefAt K mg x st ps :=
 ⟨f,_,rP l c k,PySem.W.mg_of X G a,hb kV doc pm an cdv ct⟩
section
variable {P:Program}{w:World}{K:Frag}{mg:Str->Option Value}{base:Heap}
theorem DefAt.own {x:Str}{st:Stmt}{N ps:List Str}{k:Nat}{sp:Sp} (D:DefAt K mg x st ps) (S:FnScope N ps (ao st)) (len:∀ vs H Q E,sp vs H Q E->vs.length=ps.length)
  (hbody:∀ (f:Addr) (cdv:Value) (A:Around) (outer:List Env) (s:Shared) (H:Hp) (vs:List V) (Q:VK) (E:XK),Room k (A.deeper (envOfC x (ao st) s.heap.objs.size f cdv))->sp vs H Q E ->
   ∃ t,gI (jO uw P w K mg base N x (ao st) f cdv A outer s H E).nox (bM st) t/\t { nx:=fun _ H'=>Q .non H',rt:=Q } (start N vs) H):Own P w K mg base x (k+1) ps sp:=by
 obtain ⟨f,fd,F,hm,hb⟩:=D.ex;exact ⟨f,fd,F.ok S len (hbody f),hm,F.kp,hb⟩
end
noncomputable def Cf (sp:Sp) (t:TA):TE:=fun σ H Q=>t σ H fun vs H1=>sp vs H1 Q E0
section
variable {X:Cx}
theorem a_ {x:Str}{j k:Nat}{ps:List Str}{sp:Sp}{e:Expr}{es:List Expr}{t:TA}{p pos:Pos} (O:Own X.prog X.w X.K X.mg X.base x j ps sp) (hr:Room k X.A) (hg:Gl X x) (ha:PA X (e :: es) t) (hj:j<=k:=by first | decide | omega) (hdb:(x==("__debug__":Str))=false:=by decide)
  (he:starEach (e :: es) X.env=(false,eval e X.env) :: starEach es X.env:=by rfl) (hpl:(backTo pos (starEach es X.env)).any (·.1)=false:=by rfl):PE X (.Call (.Name x p) (e :: es) [] pos) (Cf sp t):=by
 obtain ⟨f,fd,F,a,b,c⟩:=O.ex;refine (t_ (dvs:=[]) (E:=E0) F (hr.mono hj) hg a b (fc.all c) .nil s_ ha hdb he hpl).imp fun σ H Q h=>?_;unfold vT;unfold Cf at h;simpa only [List.append_nil] using h
end
end L2
namespace L2
open PySem
theorem cy:bootBuiltins "len" = some (.builtin "len"):=by kernel_rfl
theorem wN:bootBuiltins "min" = some (.builtin "min"):=by kernel_rfl
theorem BR:bootBuiltins "max" = some (.builtin "max"):=by kernel_rfl
theorem jk:bootBuiltins "sorted" = some (.builtin "sorted"):=by kernel_rfl
theorem aG:bootBuiltins "isinstance" = some (.builtin "isinstance"):=by kernel_rfl
theorem kQ:bootBuiltins "int" = some (.type "int"):=by kernel_rfl
theorem kq:bootBuiltins "bool" = some (.type "bool"):=by kernel_rfl
theorem rR:bootBuiltins "str" = some (.type "str"):=by kernel_rfl
theorem di:bootBuiltins "list" = some (.type "list"):=by kernel_rfl
theorem ut:bootBuiltins "dict" = some (.type "dict"):=by kernel_rfl
theorem iI:bootBuiltins "tuple" = some (.type "tuple"):=by kernel_rfl
theorem BQ:bootBuiltins "set" = some (.type "set"):=by kernel_rfl
theorem iP (K:Frag):PySem.W.kitOne K (.type "bool") (.type "bool")=some true:=rfl
theorem gn (K:Frag):PySem.W.kitOne K (.type "int") (.type "bool")=some false:=rfl
theorem g9 (K:Frag):PySem.W.kitOne K (.type "int") (.type "int")=some true:=rfl
theorem q_ (K:Frag):PySem.W.kitOne K (.type "str") (.type "bool")=some false:=rfl
theorem sI (K:Frag):PySem.W.kitOne K (.type "str") (.type "int")=some false:=rfl
theorem g8 (K:Frag):PySem.W.kitOne K (.type "str") (.type "str")=some true:=rfl
theorem pF (K:Frag):PySem.W.kitOne K (.type "list") (.type "bool")=some false:=rfl
theorem rc (K:Frag):PySem.W.kitOne K (.type "list") (.type "int")=some false:=rfl
theorem rb (K:Frag):PySem.W.kitOne K (.type "list") (.type "str")=some false:=rfl
theorem pE (K:Frag):PySem.W.kitOne K (.type "list") (.type "dict")=some false:=rfl
theorem gR (K:Frag):PySem.W.kitOne K (.type "list") (.type "tuple")=some false:=rfl
theorem eM (K:Frag):PySem.W.kitOne K (.type "list") (.type "list")=some true:=rfl
theorem mP (K:Frag):PySem.W.kitOne K (.type "tuple") (.type "bool")=some false:=rfl
theorem pC (K:Frag):PySem.W.kitOne K (.type "tuple") (.type "int")=some false:=rfl
theorem pB (K:Frag):PySem.W.kitOne K (.type "tuple") (.type "str")=some false:=rfl
theorem mO (K:Frag):PySem.W.kitOne K (.type "tuple") (.type "dict")=some false:=rfl
theorem eY (K:Frag):PySem.W.kitOne K (.type "tuple") (.type "tuple")=some true:=rfl
theorem gQ (K:Frag):PySem.W.kitOne K (.type "tuple") (.type "list")=some false:=rfl
theorem sK (K:Frag):PySem.W.kitAny K (.type "list") (["list","tuple"].map Value.type)=some true:=rfl
theorem rd (K:Frag):PySem.W.kitAny K (.type "tuple") (["list","tuple"].map Value.type)=some true:=rfl
theorem am {H:Hp}{p:Addr}{o:HO} (h:H p=none):aI H (aw H p o):=fun b u e=>by rw [ad (ai e h)]; exact e
end L2
namespace L2
theorem cR {c A B:Prop} [Decidable c] (h:¬ c) (hb:B):if decide c=true then A else B:=by
 rw [decide_eq_false h]; exact cE hb
theorem fC {c A B:Prop} [Decidable c] (h:c) (ha:A):if decide c=true then A else B:=by
 rw [decide_eq_true h]; exact cI ha
theorem dH {A B:Prop} (hb:B):if (!true)=true then A else B:=cE hb
end L2
namespace L2
open PySem PySem.W PyProof.Rows
theorem zg {p q:Program}{loose:List Str}{Xt:Shared->Bool}{α:Type}{Yf:Shared->α}{Ya:World->α}{N:Nat}{g0:Bool} (e:opening p=plainProg p.main.scope.names) (hN:Nat.ble 600 N=true) (f:∀ s,fenceModules? p s=some s)
  (h:∀ (w:World) (os:OsState),(topFrom treeTable p w N ⟨boot_heap w.params,Array.mk [],boot_drawn,boot_toks,os⟩).map (fun s=>(openSeen q loose (importedModules p.main.body) Xt g0 s,Yf s))=some (openGood q loose,Ya w)):LeftO p q loose Xt Yf Ya N g0:=fun w=>by
 obtain ⟨⟨hp,gs,d,k,os⟩,e1,e2⟩:=Option.map_eq_some_iff.mp (boot_open (p:=p) (N:=N) e hN f w);obtain ⟨rfl,rfl,rfl,rfl⟩:hp=boot_heap w.params/\gs=Array.mk []/\d=boot_drawn/\k=boot_toks:=by simpa using e2
 unfold openEnds;rw [e1];exact h w os
noncomputable def p8 (p p':Program) (H:Params->Heap) (w:World) (N:Nat) (os:OsState):Option Shared :=
 match (H w.params).isNs mainGlobals&&(Array.mk ([]:List GenState)).size==0 with
 | true=>(PySem.W.Fast.tw14082659384304107361 PySem.W.Fast.tw14364793385576792824 p' w (H w.params).objs.size ((H w.params).nsMap mainGlobals "__annotations__") N ⟨H w.params,Array.mk [],boot_drawn,boot_toks,os⟩ (topStub p')).bind fun s₁=>match staticsOk (importedModules p.main.body) (H w.params) s₁.heap&&namesBound p s₁.heap&&gensDone s₁&&laidKept (H w.params) s₁.heap with
   | true=>some s₁
   | false=>none
 | false=>none
theorem zf {p p' q:Program}{H:Params->Heap}{loose:List Str}{Xt:Shared->Bool}{α:Type}{Yf:Shared->α}{Ya:World->α}{N:Nat}{g0:Bool} (ep:p=p') (eH:boot_heap=H) (e:opening p=plainProg p.main.scope.names) (hN:Nat.ble 600 N=true) (f:∀ s,fenceModules? p s=some s)
  (h:∀ (w:World) (os:OsState),(p8 p p' H w N os).map (fun s=>(openSeen q loose (importedModules p.main.body) Xt g0 s,Yf s))=some (openGood q loose,Ya w)):LeftO p q loose Xt Yf Ya N g0:=by
 subst ep eH;refine zg e hN f fun w os=>?_;have:=h w os;unfold p8 at this;rw [<- PySem.W.Fast.te14082659384304107361,<- PySem.W.Fast.te14364793385576792824] at this;exact this
end L2
namespace K07
open PySem L2
noncomputable def cF (i:Nat):Stmt:=PySem.Challenge.pw_scriberow_k07_whole_settled_at_last.main.body.getD i (.Pass ⟨0,0,0,0⟩)
abbrev fH:Stmt:=cF 1
abbrev cT:Stmt:=cF 2
abbrev fI:Stmt:=cF 3
abbrev dD:Stmt:=cF 4
abbrev fj:Stmt:=cF 5
abbrev eI:Stmt:=cF 6
abbrev dR:Stmt:=bt (cF 11) 0
abbrev cO:Stmt:=bt (cF 11) 1
abbrev eK:Stmt:=bt (cF 11) 2
abbrev dQ:Stmt:=bt (cF 11) 3
abbrev eJ:Stmt:=bt (cF 11) 4
abbrev fm:Stmt:=bt (cF 13) 0
abbrev fq:Stmt:=bt (cF 13) 1
abbrev b6:Stmt:=bt (cF 13) 2
abbrev fR:Stmt:=bt (cF 13) 3
abbrev cP:Stmt:=bt (cF 13) 4
abbrev bV:Stmt:=bt (cF 13) 5
abbrev fw:Stmt:=bt (cF 14) 0
abbrev eL:Stmt:=bt (cF 14) 1
abbrev fu:Stmt:=bt (cF 14) 2
abbrev fT:Stmt:=bt (cF 14) 3
abbrev fx:Stmt:=bt (cF 14) 4
abbrev fS:Stmt:=bt (cF 14) 5
abbrev cB:Stmt:=bt (cF 14) 6
abbrev bW:Stmt:=bt (cF 14) 7
abbrev cD:Stmt:=bt (cF 14) 8
abbrev dE:Stmt:=bt (cF 14) 9
abbrev kI:Stmt:=cF 16
abbrev d7:Stmt:=cF 17
abbrev dC:Stmt:=cF 18
abbrev fJ:Stmt:=cF 19
abbrev ce:Stmt:=cF 20
abbrev cV:Stmt:=cF 21
abbrev yt:Stmt:=cF 23
abbrev j6:Stmt:=cF 24
abbrev yu:Stmt:=cF 25
abbrev og:Stmt:=cF 26
abbrev j7:Stmt:=cF 27
abbrev iE:Stmt:=cF 28
abbrev j4:Stmt:=cF 29
abbrev j8:Stmt:=cF 30
abbrev eG:Stmt:=cF 31
abbrev fk:Stmt:=cF 32
abbrev im:Stmt:=cF 33
end K07
section
open PySem PySem.W PyProof.Rows L2
namespace K07
noncomputable def kd (P:Params) (x:Str) (t:Nat) (v:Value):DictEntry:=⟨PyData.keyHash P x,.str x t,v⟩
noncomputable def fL (x:Str) (a:Nat) (y:Str) (b c:Nat) (l n:Int) (r1 r2 r3 r4 r5:Nat) (k:Int) (e:Nat):Obj:=⟨.type "code",none,.fields #[.str x a,.str y b,.str "/claim/cut.py" c,.int l 0,.int n 0,.int 0 0,.int 0 0,.int 3 0,.ref r1,.bool true,.int 181 0,.ref r2,.none,.ref r3,.ref r4,.ref r5,.int k 0,.int l 0,.str "/claim/cut.py" e],#[]⟩
noncomputable def fo (x q:Str) (st:Stmt) (m:Value) (c:Nat):Obj:=⟨.type "function",none,.func (PySem.W.fnOf x q (L2.dh st) (L2.bM st) (L2.ao st) .none .none .none m none (.ref c) .none),#[]⟩
noncomputable def Kf (P:Params):Frag :=
 (nat_lit 2,⟨.none,none,.dict #[] 0,#[]⟩) ::
 (nat_lit 3,⟨.type "dict",none,.dict #[kd P "__name__" 165 (.str "law_scriberow_k07_whole_settled_at_last" 605),kd P "__doc__" 166 .none,kd P "__package__" 167 .none,kd P "__loader__" 168 (.builtin "__main__.__loader__#opaque"),kd P "__spec__" 169 .none,kd P "__annotations__" 170 (.ref 6),kd P "__builtins__" 171 (.ref 4),kd P "__file__" 173 (.str "/claim/cut.py" 172),kd P "__cached__" 174 .none,kd P "is_most" 196 (.ref 21),kd P "next_number" 206 (.ref 28),kd P "best_of" 217 (.ref 35),kd P "free_place" 225 (.ref 42),kd P "settlings" 241 (.ref 49),kd P "settled_in" 254 (.ref 56),kd P "RowError" 274 (.ref 66),kd P "NoScribe" 290 (.ref 79),kd P "Scribe" 359 (.ref 126),kd P "Lead" 439 (.ref 180),kd P "Hall" 553 (.ref 262),kd P "done" 564 (.ref 273),kd P "answer_to" 572 (.ref 280),kd P "hall_after" 582 (.ref 287),kd P "answers" 588 (.ref 292),kd P "writings_after" 596 (.ref 299),kd P "settled_after" 604 (.ref 306),kd P "_law_so" 615 (.ref 313),kd P "_law_whole" 622 (.ref 320),kd P "_law_at" 630 (.ref 327),kd P "_law_word" 640 (.ref 334),kd P "_law_round" 654 (.ref 341),kd P "_law_single" 668 (.ref 348),kd P "_law_woven" 679 (.ref 355),kd P "_law_drawn" 694 (.ref 362),kd P "_law_to_the_end" 700 (.ref 367),kd P "_law_are_pairs" 708 (.ref 374),kd P "law" 714 (.ref 379)] 37,#[]⟩) ::
 (nat_lit 20,fL "is_most" 189 "is_most" 190 191 2 2 15 16 17 18 19 194 195) ::
 (nat_lit 21,fo "is_most" "is_most" fH (.str "scriberow.counting" 187) 20) ::
 (nat_lit 27,fL "next_number" 197 "next_number" 198 199 4 3 22 23 24 25 26 204 205) ::
 (nat_lit 28,fo "next_number" "next_number" cT (.str "scriberow.counting" 187) 27) ::
 (nat_lit 34,fL "best_of" 207 "best_of" 208 209 7 1 29 30 31 32 33 215 216) ::
 (nat_lit 35,fo "best_of" "best_of" fI (.str "scriberow.counting" 187) 34) ::
 (nat_lit 41,fL "free_place" 218 "free_place" 219 220 14 1 36 37 38 39 40 223 224) ::
 (nat_lit 42,fo "free_place" "free_place" dD (.str "scriberow.counting" 187) 41) ::
 (nat_lit 48,fL "settlings" 226 "settlings" 227 228 19 2 43 44 45 46 47 239 240) ::
 (nat_lit 49,fo "settlings" "settlings" fj (.str "scriberow.counting" 187) 48) ::
 (nat_lit 55,fL "settled_in" 242 "settled_in" 243 244 30 2 50 51 52 53 54 252 253) ::
 (nat_lit 56,fo "settled_in" "settled_in" eI (.str "scriberow.counting" 187) 55) ::
 (nat_lit 65,⟨.type "dict",none,.dict #[kd P "__module__" 264 (.str "scriberow.errors" 255),kd P "__firstlineno__" 268 (.int 36 267),kd P "__static_attributes__" 269 (.ref 64),kd P "__weakref__" 271 (.ref 67),kd P "__doc__" 272 .none] 3,#[]⟩) ::
 (nat_lit 66,⟨.type "type",none,.cls ⟨"RowError",[.type "ValueError"],[.ref 66,.type "ValueError",.type "Exception",.type "BaseException",.type "object"],65,"RowError",true,[],[.ref 79],false,none,false⟩,#[some (.ref 57),none,some (.str "RowError" 257),some (.str "RowError" 265),some (.builtin "ValueError.__new__"),some (.bool true)]⟩) ::
 (nat_lit 67,⟨.type "getset_descriptor",none,.fields #[.str "__weakref__" 270,.ref 66,.builtin "ExceptionGroup.__weakref__",.none],#[]⟩) ::
 (nat_lit 78,⟨.type "dict",none,.dict #[kd P "__module__" 282 (.str "scriberow.errors" 255),kd P "__firstlineno__" 286 (.int 38 285),kd P "__static_attributes__" 287 (.ref 77),kd P "__doc__" 288 .none] 2,#[]⟩) ::
 (nat_lit 79,⟨.type "type",none,.cls ⟨"NoScribe",[.ref 66],[.ref 79,.ref 66,.type "ValueError",.type "Exception",.type "BaseException",.type "object"],78,"NoScribe",true,[],[],false,none,false⟩,#[some (.ref 70),none,some (.str "NoScribe" 275),some (.str "NoScribe" 283),some (.builtin "ValueError.__new__"),some (.bool true)]⟩) ::
 (nat_lit 94,fL "__init__" 305 "Scribe.__init__" 306 307 43 3 89 90 91 92 93 311 312) ::
 (nat_lit 95,fo "__init__" "Scribe.__init__" dR (.str "scriberow.scribe" 291) 94) ::
 (nat_lit 101,fL "promise" 314 "Scribe.promise" 315 316 50 2 96 97 98 99 100 319 320) ::
 (nat_lit 102,fo "promise" "Scribe.promise" cO (.str "scriberow.scribe" 291) 101) ::
 (nat_lit 108,fL "put" 322 "Scribe.put" 323 324 56 4 103 104 105 106 107 329 330) ::
 (nat_lit 109,fo "put" "Scribe.put" eK (.str "scriberow.scribe" 291) 108) ::
 (nat_lit 115,fL "rise" 332 "Scribe.rise" 333 334 62 1 110 111 112 113 114 336 337) ::
 (nat_lit 116,fo "rise" "Scribe.rise" dQ (.str "scriberow.scribe" 291) 115) ::
 (nat_lit 122,fL "see" 339 "Scribe.see" 340 341 66 2 117 118 119 120 121 344 345) ::
 (nat_lit 123,fo "see" "Scribe.see" eJ (.str "scriberow.scribe" 291) 122) ::
 (nat_lit 125,⟨.type "dict",none,.dict #[kd P "__module__" 300 (.str "scriberow.scribe" 291),kd P "__firstlineno__" 304 (.int 41 303),kd P "__init__" 313 (.ref 95),kd P "promise" 321 (.ref 102),kd P "put" 331 (.ref 109),kd P "rise" 338 (.ref 116),kd P "see" 346 (.ref 123),kd P "__static_attributes__" 352 (.ref 124),kd P "__dict__" 354 (.ref 127),kd P "__weakref__" 356 (.ref 128),kd P "__doc__" 357 .none] 4,#[]⟩) ::
 (nat_lit 126,⟨.type "type",none,.cls ⟨"Scribe",[.type "object"],[.ref 126,.type "object"],125,"Scribe",true,[],[],false,none,false⟩,#[none,none,some (.str "Scribe" 293),some (.str "Scribe" 301),some (.builtin "object.__new__"),some (.bool true)]⟩) ::
 (nat_lit 127,⟨.type "getset_descriptor",none,.fields #[.str "__dict__" 353,.ref 126,.builtin "function.__dict__",.builtin "function.__dict__#set"],#[]⟩) ::
 (nat_lit 128,⟨.type "getset_descriptor",none,.fields #[.str "__weakref__" 355,.ref 126,.builtin "ExceptionGroup.__weakref__",.none],#[]⟩) ::
 (nat_lit 143,fL "__init__" 374 "Lead.__init__" 375 376 71 3 138 139 140 141 142 380 381) ::
 (nat_lit 144,fo "__init__" "Lead.__init__" fm (.str "scriberow.hall" 360) 143) ::
 (nat_lit 150,fL "hear" 383 "Lead.hear" 384 385 79 3 145 146 147 148 149 389 390) ::
 (nat_lit 151,fo "hear" "Lead.hear" fq (.str "scriberow.hall" 360) 150) ::
 (nat_lit 157,fL "begin_saying" 392 "Lead.begin_saying" 393 394 86 1 152 153 154 155 156 398 399) ::
 (nat_lit 158,fo "begin_saying" "Lead.begin_saying" b6 (.str "scriberow.hall" 360) 157) ::
 (nat_lit 164,fL "say" 401 "Lead.say" 402 403 91 2 159 160 161 162 163 407 408) ::
 (nat_lit 165,fo "say" "Lead.say" fR (.str "scriberow.hall" 360) 164) ::
 (nat_lit 171,fL "take_hand" 410 "Lead.take_hand" 411 412 96 3 166 167 168 169 170 417 418) ::
 (nat_lit 172,fo "take_hand" "Lead.take_hand" cP (.str "scriberow.hall" 360) 171) ::
 (nat_lit 176,⟨.type "code",none,.fields #[.str "settled_pairs" 420,.str "Lead.settled_pairs" 421,.str "/claim/cut.py" 422,.int 100 0,.int 1 0,.int 0 0,.int 0 0,.int 3 0,.ref 173,.bool true,.int 181 0,.ref 174,.none,.none,.none,.ref 175,.int 423 0,.int 100 0,.str "/claim/cut.py" 424],#[]⟩) ::
 (nat_lit 177,fo "settled_pairs" "Lead.settled_pairs" bV (.str "scriberow.hall" 360) 176) ::
 (nat_lit 179,⟨.type "dict",none,.dict #[kd P "__module__" 369 (.str "scriberow.hall" 360),kd P "__firstlineno__" 373 (.int 69 372),kd P "__init__" 382 (.ref 144),kd P "hear" 391 (.ref 151),kd P "begin_saying" 400 (.ref 158),kd P "say" 409 (.ref 165),kd P "take_hand" 419 (.ref 172),kd P "settled_pairs" 425 (.ref 177),kd P "__static_attributes__" 432 (.ref 178),kd P "__dict__" 434 (.ref 181),kd P "__weakref__" 436 (.ref 182),kd P "__doc__" 437 .none] 4,#[]⟩) ::
 (nat_lit 180,⟨.type "type",none,.cls ⟨"Lead",[.type "object"],[.ref 180,.type "object"],179,"Lead",true,[],[],false,none,false⟩,#[none,none,some (.str "Lead" 362),some (.str "Lead" 370),some (.builtin "object.__new__"),some (.bool true)]⟩) ::
 (nat_lit 181,⟨.type "getset_descriptor",none,.fields #[.str "__dict__" 433,.ref 180,.builtin "function.__dict__",.builtin "function.__dict__#set"],#[]⟩) ::
 (nat_lit 182,⟨.type "getset_descriptor",none,.fields #[.str "__weakref__" 435,.ref 180,.builtin "ExceptionGroup.__weakref__",.none],#[]⟩) ::
 (nat_lit 195,⟨.type "code",none,.fields #[.str "__init__" 452,.str "Hall.__init__" 453,.str "/claim/cut.py" 454,.int 105 0,.int 2 0,.int 0 0,.int 0 0,.int 3 0,.ref 192,.bool true,.int 181 0,.ref 193,.none,.none,.none,.ref 194,.int 455 0,.int 105 0,.str "/claim/cut.py" 456],#[]⟩) ::
 (nat_lit 196,fo "__init__" "Hall.__init__" fw (.str "scriberow.hall" 360) 195) ::
 (nat_lit 202,fL "check" 458 "Hall.check" 459 460 112 2 197 198 199 200 201 463 464) ::
 (nat_lit 203,fo "check" "Hall.check" eL (.str "scriberow.hall" 360) 202) ::
 (nat_lit 209,fL "rise" 466 "Hall.rise" 467 468 116 2 204 205 206 207 208 472 473) ::
 (nat_lit 210,fo "rise" "Hall.rise" fu (.str "scriberow.hall" 360) 209) ::
 (nat_lit 216,fL "ask" 475 "Hall.ask" 476 477 124 3 211 212 213 214 215 483 484) ::
 (nat_lit 217,fo "ask" "Hall.ask" fT (.str "scriberow.hall" 360) 216) ::
 (nat_lit 223,fL "fall" 486 "Hall.fall" 487 488 137 3 218 219 220 221 222 492 493) ::
 (nat_lit 224,fo "fall" "Hall.fall" fx (.str "scriberow.hall" 360) 223) ::
 (nat_lit 230,fL "say" 495 "Hall.say" 496 497 141 3 225 226 227 228 229 501 502) ::
 (nat_lit 231,fo "say" "Hall.say" fS (.str "scriberow.hall" 360) 230) ::
 (nat_lit 237,fL "have_write" 504 "Hall.have_write" 505 506 147 4 232 233 234 235 236 514 515) ::
 (nat_lit 238,fo "have_write" "Hall.have_write" cB (.str "scriberow.hall" 360) 237) ::
 (nat_lit 244,fL "known_settled" 517 "Hall.known_settled" 518 519 162 2 239 240 241 242 243 522 523) ::
 (nat_lit 245,fo "known_settled" "Hall.known_settled" bW (.str "scriberow.hall" 360) 244) ::
 (nat_lit 251,fL "be_stopped" 525 "Hall.be_stopped" 526 527 168 2 246 247 248 249 250 530 531) ::
 (nat_lit 252,fo "be_stopped" "Hall.be_stopped" cD (.str "scriberow.hall" 360) 251) ::
 (nat_lit 258,fL "come_up" 533 "Hall.come_up" 534 535 176 2 253 254 255 256 257 538 539) ::
 (nat_lit 259,fo "come_up" "Hall.come_up" dE (.str "scriberow.hall" 360) 258) ::
 (nat_lit 261,⟨.type "dict",none,.dict #[kd P "__module__" 447 (.str "scriberow.hall" 360),kd P "__firstlineno__" 451 (.int 103 450),kd P "__init__" 457 (.ref 196),kd P "check" 465 (.ref 203),kd P "rise" 474 (.ref 210),kd P "ask" 485 (.ref 217),kd P "fall" 494 (.ref 224),kd P "say" 503 (.ref 231),kd P "have_write" 516 (.ref 238),kd P "known_settled" 524 (.ref 245),kd P "be_stopped" 532 (.ref 252),kd P "come_up" 540 (.ref 259),kd P "__static_attributes__" 546 (.ref 260),kd P "__dict__" 548 (.ref 263),kd P "__weakref__" 550 (.ref 264),kd P "__doc__" 551 .none] 4,#[]⟩) ::
 (nat_lit 262,⟨.type "type",none,.cls ⟨"Hall",[.type "object"],[.ref 262,.type "object"],261,"Hall",true,[],[],false,none,false⟩,#[none,none,some (.str "Hall" 440),some (.str "Hall" 448),some (.builtin "object.__new__"),some (.bool true)]⟩) ::
 (nat_lit 263,⟨.type "getset_descriptor",none,.fields #[.str "__dict__" 547,.ref 262,.builtin "function.__dict__",.builtin "function.__dict__#set"],#[]⟩) ::
 (nat_lit 264,⟨.type "getset_descriptor",none,.fields #[.str "__weakref__" 549,.ref 262,.builtin "ExceptionGroup.__weakref__",.none],#[]⟩) ::
 (nat_lit 272,fL "done" 556 "done" 557 558 183 2 267 268 269 270 271 562 563) ::
 (nat_lit 273,fo "done" "done" kI (.str "scriberow.story" 554) 272) ::
 (nat_lit 279,fL "answer_to" 565 "answer_to" 566 567 198 2 274 275 276 277 278 570 571) ::
 (nat_lit 280,fo "answer_to" "answer_to" d7 (.str "scriberow.story" 554) 279) ::
 (nat_lit 286,fL "hall_after" 573 "hall_after" 574 575 203 2 281 282 283 284 285 580 581) ::
 (nat_lit 287,fo "hall_after" "hall_after" dC (.str "scriberow.story" 554) 286) ::
 (nat_lit 291,⟨.type "code",none,.fields #[.str "answers" 583,.str "answers" 584,.str "/claim/cut.py" 585,.int 208 0,.int 2 0,.int 0 0,.int 0 0,.int 3 0,.ref 288,.bool true,.int 181 0,.ref 289,.none,.none,.none,.ref 290,.int 586 0,.int 208 0,.str "/claim/cut.py" 587],#[]⟩) ::
 (nat_lit 292,fo "answers" "answers" fJ (.str "scriberow.story" 554) 291) ::
 (nat_lit 298,fL "writings_after" 589 "writings_after" 590 591 211 2 293 294 295 296 297 594 595) ::
 (nat_lit 299,fo "writings_after" "writings_after" ce (.str "scriberow.story" 554) 298) ::
 (nat_lit 305,fL "settled_after" 597 "settled_after" 598 599 213 2 300 301 302 303 304 602 603) ::
 (nat_lit 306,fo "settled_after" "settled_after" cV (.str "scriberow.story" 554) 305) ::
 (nat_lit 312,fL "_law_so" 607 "_law_so" 608 609 216 2 307 308 309 310 311 613 614) ::
 (nat_lit 313,fo "_law_so" "_law_so" yt (.str "law_scriberow_k07_whole_settled_at_last" 605) 312) ::
 (nat_lit 319,fL "_law_whole" 616 "_law_whole" 617 618 237 1 314 315 316 317 318 620 621) ::
 (nat_lit 320,fo "_law_whole" "_law_whole" j6 (.str "law_scriberow_k07_whole_settled_at_last" 605) 319) ::
 (nat_lit 326,fL "_law_at" 623 "_law_at" 624 625 239 2 321 322 323 324 325 628 629) ::
 (nat_lit 327,fo "_law_at" "_law_at" yu (.str "law_scriberow_k07_whole_settled_at_last" 605) 326) ::
 (nat_lit 333,fL "_law_word" 631 "_law_word" 632 633 243 1 328 329 330 331 332 638 639) ::
 (nat_lit 334,fo "_law_word" "_law_word" og (.str "law_scriberow_k07_whole_settled_at_last" 605) 333) ::
 (nat_lit 340,fL "_law_round" 641 "_law_round" 642 643 250 3 335 336 337 338 339 652 653) ::
 (nat_lit 341,fo "_law_round" "_law_round" j7 (.str "law_scriberow_k07_whole_settled_at_last" 605) 340) ::
 (nat_lit 347,fL "_law_single" 655 "_law_single" 656 657 269 3 342 343 344 345 346 666 667) ::
 (nat_lit 348,fo "_law_single" "_law_single" iE (.str "law_scriberow_k07_whole_settled_at_last" 605) 347) ::
 (nat_lit 354,fL "_law_woven" 669 "_law_woven" 670 671 286 3 349 350 351 352 353 677 678) ::
 (nat_lit 355,fo "_law_woven" "_law_woven" j4 (.str "law_scriberow_k07_whole_settled_at_last" 605) 354) ::
 (nat_lit 361,fL "_law_drawn" 680 "_law_drawn" 681 682 297 3 356 357 358 359 360 692 693) ::
 (nat_lit 362,fo "_law_drawn" "_law_drawn" j8 (.str "law_scriberow_k07_whole_settled_at_last" 605) 361) ::
 (nat_lit 366,⟨.type "code",none,.fields #[.str "_law_to_the_end" 695,.str "_law_to_the_end" 696,.str "/claim/cut.py" 697,.int 315 0,.int 3 0,.int 0 0,.int 0 0,.int 3 0,.ref 363,.bool true,.int 181 0,.ref 364,.none,.none,.none,.ref 365,.int 698 0,.int 315 0,.str "/claim/cut.py" 699],#[]⟩) ::
 (nat_lit 367,fo "_law_to_the_end" "_law_to_the_end" eG (.str "law_scriberow_k07_whole_settled_at_last" 605) 366) ::
 (nat_lit 373,fL "_law_are_pairs" 701 "_law_are_pairs" 702 703 327 1 368 369 370 371 372 706 707) ::
 (nat_lit 374,fo "_law_are_pairs" "_law_are_pairs" fk (.str "law_scriberow_k07_whole_settled_at_last" 605) 373) ::
 (nat_lit 378,⟨.type "code",none,.fields #[.str "law" 709,.str "law" 710,.str "/claim/cut.py" 711,.int 334 0,.int 1 0,.int 0 0,.int 0 0,.int 3 0,.ref 375,.bool true,.int 181 0,.ref 376,.none,.none,.none,.ref 377,.int 712 0,.int 334 0,.str "/claim/cut.py" 713],#[]⟩) ::
 (nat_lit 379,fo "law" "law" im (.str "law_scriberow_k07_whole_settled_at_last" 605) 378) :: []
noncomputable def Ka:List Addr:=nat_lit 2 :: nat_lit 3 :: nat_lit 20 :: nat_lit 21 :: nat_lit 27 :: nat_lit 28 :: nat_lit 34 :: nat_lit 35 :: nat_lit 41 :: nat_lit 42 :: nat_lit 48 :: nat_lit 49 :: nat_lit 55 :: nat_lit 56 :: nat_lit 65 :: nat_lit 66 :: nat_lit 67 :: nat_lit 78 :: nat_lit 79 :: nat_lit 94 :: nat_lit 95 :: nat_lit 101 :: nat_lit 102 :: nat_lit 108 :: nat_lit 109 :: nat_lit 115 :: nat_lit 116 :: nat_lit 122 :: nat_lit 123 :: nat_lit 125 :: nat_lit 126 :: nat_lit 127 :: nat_lit 128 :: nat_lit 143 :: nat_lit 144 :: nat_lit 150 :: nat_lit 151 :: nat_lit 157 :: nat_lit 158 :: nat_lit 164 :: nat_lit 165 :: nat_lit 171 :: nat_lit 172 :: nat_lit 176 :: nat_lit 177 :: nat_lit 179 :: nat_lit 180 :: nat_lit 181 :: nat_lit 182 :: nat_lit 195 :: nat_lit 196 :: nat_lit 202 :: nat_lit 203 :: nat_lit 209 :: nat_lit 210 :: nat_lit 216 :: nat_lit 217 :: nat_lit 223 :: nat_lit 224 :: nat_lit 230 :: nat_lit 231 :: nat_lit 237 :: nat_lit 238 :: nat_lit 244 :: nat_lit 245 :: nat_lit 251 :: nat_lit 252 :: nat_lit 258 :: nat_lit 259 :: nat_lit 261 :: nat_lit 262 :: nat_lit 263 :: nat_lit 264 :: nat_lit 272 :: nat_lit 273 :: nat_lit 279 :: nat_lit 280 :: nat_lit 286 :: nat_lit 287 :: nat_lit 291 :: nat_lit 292 :: nat_lit 298 :: nat_lit 299 :: nat_lit 305 :: nat_lit 306 :: nat_lit 312 :: nat_lit 313 :: nat_lit 319 :: nat_lit 320 :: nat_lit 326 :: nat_lit 327 :: nat_lit 333 :: nat_lit 334 :: nat_lit 340 :: nat_lit 341 :: nat_lit 347 :: nat_lit 348 :: nat_lit 354 :: nat_lit 355 :: nat_lit 361 :: nat_lit 362 :: nat_lit 366 :: nat_lit 367 :: nat_lit 373 :: nat_lit 374 :: nat_lit 378 :: nat_lit 379 :: []
noncomputable def q:Program:={ PySem.Challenge.pw_scriberow_k07_whole_settled_at_last with main:={ PySem.Challenge.pw_scriberow_k07_whole_settled_at_last.main with body:=[cF 1,cF 2,cF 3,cF 4,cF 5,cF 6,cF 8,cF 9,cF 11,cF 13,cF 14,cF 16,cF 17,cF 18,cF 19,cF 20,cF 21,cF 23,cF 24,cF 25,cF 26,cF 27,cF 28,cF 29,cF 30,cF 31,cF 32,cF 33] } }
noncomputable def D_:Nat:=5010
end K07
theorem K07.Ke (P:Params):K07.Ka=(K07.Kf P).map (·.1):=by kernel_rfl
lay_quick PySem.Challenge.pw_scriberow_k07_whole_settled_at_last
theorem K07.left:LeftO PySem.Challenge.pw_scriberow_k07_whole_settled_at_last K07.q [] (fun s=>xlAt K07.q [] s&&recOk [] s) (Hook.obs (kHook K07.Kf K07.Ka K07.Ke)) (Hook.val (kHook K07.Kf K07.Ka K07.Ke)) K07.D_:=L2.zf PySem.W.Fast.te5347968538049497557 (Eq.refl PySem.W.boot_heap) (by kernel_rfl) (by kernel_rfl) (fun s=>by kernel_rfl) (fun w os=>by kernel_rfl)
noncomputable def K07.posOf:Stmt->Pos
 | .FunctionDef _ _ _ _ _ _ _ _ _ p=>p
 | _=>⟨0,0,0,0⟩
noncomputable def K07.dlaw:DefRec:=⟨"law",dh K07.im,bM K07.im,ao K07.im,K07.posOf K07.im⟩
theorem K07.hdef:defOf K07.q "law" = some (K07.dlaw,[]):=by kernel_rfl
theorem K07.hp:PySem.Challenge.pw_scriberow_k07_whole_settled_at_last.theDef "law" = some (K07.dlaw.params,K07.dlaw.body,K07.dlaw.scope):=by kernel_rfl
theorem K07.hk:kwWritten? K07.dlaw.params.kwonlyargs K07.dlaw.params.kw_defaults=some []:=by kernel_rfl
theorem K07.ok:(chainsOk K07.q&&opensWell PySem.Challenge.pw_scriberow_k07_whole_settled_at_last&&(frees PySem.Challenge.rw_scriberow_k07_whole_settled_at_last.row.toRowW&&PySem.Challenge.rw_scriberow_k07_whole_settled_at_last.row.within.isEmpty))=true:=by decide +kernel
end
namespace L2
open PySem PySem.Spec PyProof.Rows
noncomputable def Db:V->V->Bool
 | .non,.non=>true | .non,.int _=>true | .int _,.non=>true | .non,.bl _=>true | .bl _,.non=>true | .non,.str _=>true | .str _,.non=>true
 | .int _,.int _=>true | .bl _,.bl _=>true | .str _,.str _=>true
 | .int _,.str _=>true | .str _,.int _=>true | .bl _,.str _=>true | .str _,.bl _=>true
 | _,_=>false
inductive DEq (K:Frag) (H:Hp):Nat->V->V->Bool->Prop where
 | scal {n:Nat}{x y:V} (h:Db x y=true):DEq K H n x y (decide (x=y))
 | same {n:Nat}{a:Addr}:DEq K H n (.ref a) (.ref a) true
 | lst {n:Nat}{a b:Addr}{xs ys:List V} (e:Nat->Bool) (ha:a9 K H a xs) (hb:a9 K H b ys) (hn:a≠b) (hl:xs.length=ys.length) (h:∀ j x y,xs[j]? = some x->ys[j]? = some y->DEq K H n x y (e j)):DEq K H (n+1) (.ref a) (.ref b) ((List.range xs.length).all e)
 | lstN {n:Nat}{a b:Addr}{xs ys:List V} (ha:a9 K H a xs) (hb:a9 K H b ys) (hn:a≠b) (hl:xs.length≠ys.length):DEq K H (n+1) (.ref a) (.ref b) false
 | tup {n:Nat}{a b:Addr}{xs ys:List V} (e:Nat->Bool) (ha:c8 K H a xs) (hb:c8 K H b ys) (hn:a≠b) (h:∀ j x y,xs[j]? = some x->ys[j]? = some y->DEq K H n x y (e j)):DEq K H (n+1) (.ref a) (.ref b) ((List.range (min xs.length ys.length)).all e&&xs.length==ys.length)
 | dct {n:Nat}{a b:Addr}{kvs:List (a5×V)} (ha:Rd H a (.dK kvs)) (hb:Rd H b (.dK kvs)) (hn:a≠b) (hk:∀ p∈kvs,∃ i,p.1=Sum.inl i) (hv:∀ p∈kvs,(∃ r,p.2=.ref r)\/Db p.2 p.2=true):DEq K H (n+1) (.ref a) (.ref b) true
theorem lW {P P':Program}{w w':World}{h:Heap}{a:Addr}{vs:List (a5×Value)} (d:h.DictOf (aX P w) a vs) (hk:∀ p∈vs,∃ i,p.1=Sum.inl i):h.DictOf (aX P' w') a vs:=by
 obtain ⟨o,es,ep,ho,hc,hd,hka,hpa,hn⟩:=d;have pp:∀ {l:List DictEntry}{vs:List (a5×Value)},Pairs (aX P w) l vs->Pairs (aX P' w') l vs:=fun h=>by
  induction h with
  | nil=>exact .nil
  | cons h1 h2 _ ih=>exact .cons h1 h2 ih
 have mm:∀ {l:List DictEntry}{vs:List (a5×Value)},Pairs (aX P w) l vs->∀ e∈l,∃ p∈vs,io p.1 e.key=true:=fun h=>by
  induction h with
  | nil=>intro e he; exact nomatch he
  | cons h1 h2 _ ih =>
   intro e he;rcases List.mem_cons.mp he with rfl | he
   ·exact ⟨_,List.mem_cons_self,h1⟩
   ·obtain ⟨p,hp,hx⟩:=ih e he
    exact ⟨p,List.mem_cons_of_mem _ hp,hx⟩
 refine ⟨o,es,ep,ho,hc,hd,fun e he=>?_,pp hpa,hn⟩;obtain ⟨k,h1,h2⟩:=hka e he;obtain ⟨p,hp,hx⟩:=mm hpa e (by simpa using he);obtain ⟨i,hi⟩:=hk p hp;have ek:k=p.1:=(aX P w).inj _ _ _ h1 hx;rw [hi] at ek;subst ek;exact ⟨_,h1,h2⟩
theorem uh {A:Around}{s:Shared}{kb:List (a5×Value)}:∀ {ka:List (a5×Value)},(∀ p∈ka,∃ y,valueAt kb p.1=some y/\SeqAt.EqAt A s p.2 y true)->PySem.W.KeqHits A s kb ka true
 | [],_=>.nil
 | (k,v) :: r,h=>by
  obtain ⟨y,h1,h2⟩:=h (k,v) List.mem_cons_self;exact .hit (e:=true) (b:=true) h1 h2 (uh fun p hp=>h p (List.mem_cons_of_mem _ hp))
theorem jA:∀ {vs:List (a5×Value)}{k:a5}{v:Value},(vs.map (·.1)).Nodup->(k,v)∈vs->valueAt vs k=some v
 | (k',v') :: r,k,v,hn,hm=>by
  obtain ⟨n1,n2⟩:=List.nodup_cons.mp hn;unfold valueAt;rw [List.find?_cons]
  by_cases e:k'=k
  ·subst e
   rcases List.mem_cons.mp hm with z | z
   ·cases z; simp
   ·exact absurd (List.mem_map.mpr ⟨_,z,rfl⟩) n1
  ·rcases List.mem_cons.mp hm with z | z
   ·cases z; exact absurd rfl e
   ·have ih:=jA n2 z
    unfold valueAt at ih;simp only [e,decide_false];exact ih
theorem oa:∀ {kvs:List (a5×V)}{us vs:List (a5×Value)},KV kvs us->KV kvs vs->∀ p∈us,∃ q∈kvs,∃ v,(p.1,v)∈vs/\q.1=p.1/\RelV q.2 p.2/\RelV q.2 v
 | _,_,_,.nil,.nil,p,hp=>nomatch hp
 | _,_,_,.cons (a:=q) (b:=x) h t,.cons (b:=y) h' t',p,hp=>by
  rcases List.mem_cons.mp hp with rfl | hp
  ·exact ⟨q,List.mem_cons_self,y.2,List.mem_cons.mpr (.inl (by rw [<- h.1,h'.1])),h.1,h.2,h'.2⟩
  ·obtain ⟨q',h1,v,h2,h3⟩:=oa t t' p hp
   exact ⟨q',List.mem_cons_of_mem _ h1,v,List.mem_cons_of_mem _ h2,h3⟩
section
variable {X:Cx}{pins:List (Addr×Obj)}{σ:St}{H:Hp}{s:Shared}
theorem qi {x y:V}{u v:Value}{A:Around} (h:Db x y=true) (rx:RelV x u) (ry:RelV y v):SeqAt.EqAt A s u v (decide (x=y)):=by
 have fin:∀ {k k':Bool}{u v:Value},SeqAt.EqAt A s u v k->k=k'->SeqAt.EqAt A s u v k':=fun h e=>e ▸ h;cases x with
 | non =>
  cases (show u=Value.none from rx);cases y with
  | non=>cases (show v=Value.none from ry); exact fin (SeqAt.EqAt.same _) (by simp)
  | bl j=>cases (show v=Value.bool j from ry); exact fin (SeqAt.EqAt.none_bool _) (by simp)
  | int j=>obtain ⟨t',rfl⟩:=ry; exact fin (SeqAt.EqAt.none_int _ _) (by simp)
  | str j=>obtain ⟨t',rfl⟩:=ry; exact fin (SeqAt.EqAt.none_str _ _) (by simp)
  | _=>exact absurd (show false=true from h) Bool.false_ne_true
 | bl i =>
  cases (show u=Value.bool i from rx);cases y with
  | non=>cases (show v=Value.none from ry); exact fin (SeqAt.EqAt.bool_none _) (by simp)
  | bl j=>cases (show v=Value.bool j from ry); exact fin (SeqAt.EqAt.bool_bool _ _) rQ.symm
  | str j=>obtain ⟨t',rfl⟩:=ry; exact fin (SeqAt.EqAt.bool_str _ _ _) (by simp)
  | _=>exact absurd (show false=true from h) Bool.false_ne_true
 | int i =>
  obtain ⟨t,rfl⟩:=rx;cases y with
  | non=>cases (show v=Value.none from ry); exact fin (SeqAt.EqAt.int_none _ _) (by simp)
  | int j=>obtain ⟨t',rfl⟩:=ry; exact fin (SeqAt.EqAt.int_int _ _ _ _) oO.symm
  | str j=>obtain ⟨t',rfl⟩:=ry; exact fin (SeqAt.EqAt.int_str _ _ _ _) (by simp)
  | _=>exact absurd (show false=true from h) Bool.false_ne_true
 | str i =>
  obtain ⟨t,rfl⟩:=rx;cases y with
  | non=>cases (show v=Value.none from ry); exact fin (SeqAt.EqAt.str_none _ _) (by simp)
  | bl j=>cases (show v=Value.bool j from ry); exact fin (SeqAt.EqAt.str_bool _ _ _) (by simp)
  | int j=>obtain ⟨t',rfl⟩:=ry; exact fin (SeqAt.EqAt.str_int _ _ _ _) (by simp)
  | str j=>obtain ⟨t',rfl⟩:=ry; exact fin (SeqAt.EqAt.str_str _ _ _ _) oN.symm
  | _=>exact absurd (show false=true from h) Bool.false_ne_true
 | _=>cases y<;>exact absurd (show false=true from h) Bool.false_ne_true
theorem DEq.eqAt {n:Nat}{x y:V}{b:Bool} (d:DEq X.K H n x y b) (I:Inv X pins σ H s):∀ {A:Around}{u v:Value},RelV x u->RelV y v->A.units+n < cLine->SeqAt.EqAt A s u v b:=by
 induction d with
 | scal h=>intro A u v rx ry _; exact qi h rx ry
 | same=>intro A u v rx ry _; cases rx; cases ry; exact SeqAt.EqAt.same _
 | lst e ha hb hn hl h ih =>
  intro A u v rx ry hu;cases rx; cases ry;obtain ⟨its,r1,p1,_⟩:=I.list ha;obtain ⟨its2,r2,p2,_⟩:=I.list hb;have e1:=r1.length;have e2:=r2.length;have z:=SeqAt.RcAt.lists (A:=A) (e:=e) p1.isList p2.isList (by simp; omega) (by omega) fun j h1 h2=>by
   have g1:its[j]? = some its[j]:=by simp at h1; simp [h1]
   have g2:its2[j]? = some its2[j]:=by simp at h2; simp [h2]
   simp at h1 h2;have q1:∃ x,_=some x:=⟨_,List.getElem?_eq_getElem (show j < _ from by rw [e1]; exact h1)⟩;obtain ⟨x,hx⟩:=q1;have q2:∃ x,_=some x:=⟨_,List.getElem?_eq_getElem (show j < _ from by rw [e2]; exact h2)⟩;obtain ⟨y,hy⟩:=q2;obtain ⟨u',hu',ru'⟩:=r1.get hx;obtain ⟨v',hv',rv'⟩:=r2.get hy;rw [g1] at hu'; cases hu';rw [g2] at hv'; cases hv';exact ih j x y hx hy ru' rv' (by show A.units+1+_ < _; omega)
  refine SeqAt.EqAt.of_refs hn ?_;rw [e1];simpa using z
 | lstN ha hb hn hl =>
  intro A u v rx ry hu;cases rx; cases ry;obtain ⟨its,r1,p1,_⟩:=I.list ha;obtain ⟨its2,r2,p2,_⟩:=I.list hb;have e1:=r1.length;have e2:=r2.length;exact SeqAt.EqAt.of_refs hn (SeqAt.RcAt.lists_lengths p1.isList p2.isList (by simp; omega) (by omega))
 | tup e ha hb hn h ih =>
  intro A u v rx ry hu;cases rx; cases ry;obtain ⟨its,r1,p1,_⟩:=I.tuple ha;obtain ⟨its2,r2,p2,_⟩:=I.tuple hb;have e1:=r1.length;have e2:=r2.length;have z:=SeqAt.RcAt.tuples (A:=A) (e:=e) p1 p2 (by omega) fun j h1 h2=>by
   have g1:its[j]? = some its[j]:=by simp at h1; simp [h1]
   have g2:its2[j]? = some its2[j]:=by simp at h2; simp [h2]
   simp at h1 h2;have q1:∃ x,_=some x:=⟨_,List.getElem?_eq_getElem (show j < _ from by rw [e1]; exact h1)⟩;obtain ⟨x,hx⟩:=q1;have q2:∃ x,_=some x:=⟨_,List.getElem?_eq_getElem (show j < _ from by rw [e2]; exact h2)⟩;obtain ⟨y,hy⟩:=q2;obtain ⟨u',hu',ru'⟩:=r1.get hx;obtain ⟨v',hv',rv'⟩:=r2.get hy;rw [g1] at hu'; cases hu';rw [g2] at hv'; cases hv';exact ih j x y hx hy ru' rv' (by show A.units+1+_ < _; omega)
  refine SeqAt.EqAt.of_refs hn ?_;rw [e1,e2];simpa using z
 | dct ha hb hn hk hv =>
  intro A u v rx ry hu;cases rx; cases ry;obtain ⟨_,y1,us,r1,d1⟩:=dX I.hok ha;obtain ⟨_,y2,vs,r2,d2⟩:=dX I.hok hb;have l1:=Paired.length r1;have l2:=Paired.length r2;have nd:(vs.map (·.1)).Nodup:=by obtain ⟨_,_,_,_,_,_,_,_,n⟩:=id d2; exact n
  have k1:∀ p∈us,∃ i,p.1=Sum.inl i:=fun p hp=>by
   obtain ⟨q,hq,_,_,e,_⟩:=oa r1 r2 p hp;rw [<- e]; exact hk q hq
  have k2:∀ p∈vs,∃ i,p.1=Sum.inl i:=fun p hp=>by
   obtain ⟨q,hq,_,_,e,_⟩:=oa r2 r1 p hp;rw [<- e]; exact hk q hq
  refine SeqAt.EqAt.of_refs hn fun prog w E Q h=>?_;refine PySem.W.keq_eq (knd:=aX prog w) (r:=true) y1 y2 (lW d1 k1) (lW d2 k2) (by omega) (fun _=>uh fun p hp=>?_) (by rw [show us.length=vs.length by omega]; simpa using h);obtain ⟨q,hq,v,h1,h2,h3,h4⟩:=oa r1 r2 p hp;refine ⟨v,jA nd h1,?_⟩;rcases hv q hq with ⟨r,e⟩ | e
  ·rw [e] at h3 h4
   rw [show p.2=.ref r from h3,show v=.ref r from h4];exact SeqAt.EqAt.same _
  ·have:=qi (s:=s) (A:=A.in1) e h3 h4
   rwa [decide_eq_true rfl] at this
end
end L2
namespace Own
open PySem PySem.W PyProof.Rows
structure Ord (c:Nat->Nat->Bool):Prop where
 asym:∀ i j,c i j=true->c j i=false
 trans:∀ i j k,c j i=false->c k j=false->c k i=false
theorem Ord.refl {c:Nat->Nat->Bool} (o:Ord c) (i:Nat):c i i=false:=by
 cases h:c i i with
 | false=>rfl
 | true=>have:=o.asym i i h; rw [h] at this; exact this
noncomputable def f7 (n:Nat) (c:Nat->Nat->Bool):Nat->Nat->(Bool->Shared->Prop)->Shared->Prop:=fun i j C s=>i < n/\j < n/\C (c i j) s
abbrev gd (p:Array Nat) (i:Nat):Nat:=p.getD i 0
theorem mV (p:Array Nat) (i:Nat):gd p i=(p[i]?).getD 0:=by
 unfold gd; rw [Array.getD_eq_getD_getElem?]
structure Ar (n:Nat) (p:Array Nat):Prop where
 size:p.size=n
 low:∀ i,gd p i < n
 perm:p.Perm (List.range n).toArray
theorem Bt {n:Nat}{p:Array Nat} (h0:0 < n) (h:p.Perm (List.range n).toArray) (i:Nat):gd p i < n:=by
 rw [mV];cases e:p[i]? with
 | none=>exact h0
 | some x =>
  have hm:x∈p:=Array.mem_of_getElem? e;have hm2:x∈(List.range n).toArray:=(h.mem_iff).mp hm;simp at hm2;exact hm2
theorem Ar.mk' {n:Nat}{p:Array Nat} (h0:0 < n) (h:p.Perm (List.range n).toArray):Ar n p :=
 ⟨by rw [h.size_eq]; simp,Bt h0 h,h⟩
theorem Ar.start {n:Nat} (h0:0 < n):Ar n (List.range n).toArray:=.mk' h0 (Array.Perm.refl _)
theorem Ar.rev {n:Nat}{p:Array Nat} (h0:0 < n) (a:Ar n p) (i j:Nat):Ar n (kas_rev p i j):=.mk' h0 ((mirror_perm _ _ _ _).trans a.perm)
theorem Ar.bub {n:Nat}{p:Array Nat} (h0:0 < n) (a:Ar n p) (k d:Nat):Ar n (bubble p k d):=.mk' h0 ((bubble_perm _ _ _).trans a.perm)
theorem rO {n:Nat}{p:Array Nat} (a:Ar n p) {i j:Nat} (hj:j<=n) (k:Nat):gd (kas_rev p i j) k=if i<=k/\k < j then gd p (i+j - 1 - k) else gd p k:=by
 rw [mV];unfold kas_rev;rw [getElem?_mirror_all (by rw [a.size]; exact hj)];split<;>rw [mV]
theorem BG {n:Nat}{p:Array Nat} (a:Ar n p) {src d:Nat} (hs:src < n) (hd:d<=src) (k:Nat) :
  gd (bubble p src d) k=if k=src - d then gd p src else if src - d < k/\k<=src then gd p (k - 1) else gd p k:=by
 rw [mV,getElem?_bubble (by rw [a.size]; exact hs) d hd];split
 ·rw [mV]
 ·split<;>rw [mV]
noncomputable def Up (c:Nat->Nat->Bool) (p:Array Nat) (m:Nat):Prop:=∀ i j,i<=j->j < m->c (gd p j) (gd p i)=false
noncomputable def Dn (c:Nat->Nat->Bool) (p:Array Nat) (m:Nat):Prop:=∀ i j,i<=j->j < m->c (gd p i) (gd p j)=false
section
variable {c:Nat->Nat->Bool}{n:Nat}{s:Shared}
theorem Up.one (o:Ord c) (p:Array Nat):Up c p 1:=fun i j h1 h2=>by
 obtain rfl:i=j:=by omega
 exact o.refl _
theorem Up.succ (o:Ord c) {p:Array Nat}{m:Nat} (u:Up c p m) (h:0 < m->c (gd p m) (gd p (m - 1))=false):Up c p (m+1):=fun i j h1 h2=>by
 by_cases hj:j < m
 ·exact u i j h1 hj
 ·obtain rfl:j=m:=by omega
  by_cases hi:i=j
  ·subst hi; exact o.refl _
  ·exact o.trans _ (gd p (j - 1)) _ (u i (j - 1) (by omega) (by omega)) (h (by omega))
theorem Dn.succ (o:Ord c) {p:Array Nat}{m:Nat} (u:Dn c p m) (h:0 < m->c (gd p (m - 1)) (gd p m)=false):Dn c p (m+1):=fun i j h1 h2=>by
 by_cases hj:j < m
 ·exact u i j h1 hj
 ·obtain rfl:j=m:=by omega
  by_cases hi:i=j
  ·subst hi; exact o.refl _
  ·exact o.trans _ (gd p (j - 1)) _ (h (by omega)) (u i (j - 1) (by omega) (by omega))
theorem oU (o:Ord c) {p:Array Nat} (a:Ar n p) {G:Nat->Shared->Prop}:∀ (f m:Nat),Up c p m->1<=m->(∀ m',m<=m'->m'<=m+f->Up c p m'->(m' < m+f->c (gd p m') (gd p (m' - 1))=true)->G m' s) ->
  (kas_asc p f m).kasWp (f7 n c) G s
 | 0,m,u,_,h=>h m (Nat.le_refl _) (Nat.le_refl _) u (fun z=>absurd z (Nat.lt_irrefl _))
 | f+1,m,u,h1,h=>by
  refine ⟨a.low _,a.low _,?_⟩;show KasT.kasWp (f7 n c) (if c (p.getD m 0) (p.getD (m - 1) 0)=true then KasT.ret m else kas_asc p f (m+1)) G s
  by_cases e:c (p.getD m 0) (p.getD (m - 1) 0)=true
  ·rw [if_pos e]
   exact h m (Nat.le_refl _) (by omega) u (fun _=>e)
  ·rw [if_neg e]
   have e':c (gd p m) (gd p (m - 1))=false:=by simpa using e
   exact oU o a f (m+1) (u.succ o fun _=>e') (by omega) fun m' a1 a2 a3 a4=>h m' (by omega) (by omega) a3 (fun z=>a4 (by omega))
theorem oG (o:Ord c) {p:Array Nat} (a:Ar n p) {l m:Nat} (hm:m<=n) (he:∀ x y,l<=x->x < m->l<=y->y < m->c (gd p x) (gd p y)=false) (k:Nat) :
  c (gd (kas_rev p l m) k) (gd p k)=false/\c (gd p k) (gd (kas_rev p l m) k)=false:=by
 rw [rO a hm]
 by_cases hc:l<=k/\k < m
 ·rw [if_pos hc]
  exact ⟨he _ _ (by omega) (by omega) (by omega) (by omega),he _ _ (by omega) (by omega) (by omega) (by omega)⟩
 ·rw [if_neg hc]
  exact ⟨o.refl _,o.refl _⟩
theorem Dn.eqv (o:Ord c) {p p':Array Nat}{m:Nat} (d:Dn c p m) (e:∀ k,c (gd p' k) (gd p k)=false/\c (gd p k) (gd p' k)=false):Dn c p' m:=fun i j h1 h2 =>
 o.trans (gd p' j) (gd p i) (gd p' i) (o.trans (gd p' j) (gd p j) (gd p i) (e j).2 (d i j h1 h2)) (e i).1
noncomputable def Dj (c:Nat->Nat->Bool) (p:Array Nat) (m q:Nat):Prop:=q+1<=m/\∀ k,m - (q+1)<=k->k < m->c (gd p (m - 1)) (gd p k)=false
theorem Dj.all (o:Ord c) {p:Array Nat}{m q:Nat} (d:Dn c p m) (e:Dj c p m q):∀ x y,m - (q+1)<=x->x < m->m - (q+1)<=y->y < m->c (gd p x) (gd p y)=false:=fun x y _ hx hy1 hy2 =>
 o.trans (gd p y) (gd p (m - 1)) (gd p x) (e.2 y hy1 hy2) (d x (m - 1) (by omega) (by omega))
theorem lc (o:Ord c) (h0:0 < n) {G:Array Nat×Nat×Nat->Shared->Prop}:∀ (f m q:Nat) (p:Array Nat),Ar n p->m+f<=n->Dn c p m->Dj c p m q ->
  (∀ p' m' q',Ar n p'->1<=m'->m'<=m+f->Dn c p' m'->Dj c p' m' q'->G (p',m',q') s)->(kas_desc f p m q).kasWp (f7 n c) G s
 | 0,m,q,p,a,_,d,e,h=>h p m q a (by have:=e.1; omega) (Nat.le_refl _) d e
 | f+1,m,q,p,a,hf,d,e,h=>by
  have h1:1<=m:=by have:=e.1; omega
  refine ⟨a.low _,a.low _,?_⟩;show KasT.kasWp (f7 n c) (if c (p.getD m 0) (p.getD (m - 1) 0)=true then (if q > 0 then kas_desc f (kas_rev p (m - (q+1)) m) (m+1) 0 else kas_desc f p (m+1) 0)
   else KasT.ask (p.getD (m - 1) 0) (p.getD m 0) fun d=>if d=true then KasT.ret (p,m,q) else kas_desc f p (m+1) (q+1)) G s
  by_cases e1:c (p.getD m 0) (p.getD (m - 1) 0)=true
  ·rw [if_pos e1]
   have e1':c (gd p (m - 1)) (gd p m)=false:=o.asym _ _ e1;have new:∀ p',Ar n p'->(∀ k,c (gd p' k) (gd p k)=false/\c (gd p k) (gd p' k)=false)->(kas_desc f p' (m+1) 0).kasWp (f7 n c) G s:=fun p' a' ev=>by
    have d':Dn c p' m:=d.eqv o ev;have step:c (gd p' (m - 1)) (gd p' m)=false:=o.trans (gd p' m) (gd p (m - 1)) (gd p' (m - 1)) (o.trans (gd p' m) (gd p m) (gd p (m - 1)) (ev m).2 e1') (ev (m - 1)).1;refine lc o h0 f (m+1) 0 p' a' (by omega) (d'.succ o fun _=>step) ⟨by omega,fun k k1 k2=>?_⟩ fun p'' m'' q'' b1 b2 b3 b4 b5=>h p'' m'' q'' b1 b2 (by omega) b4 b5;obtain rfl:k=m+1 - 1:=by omega
    exact o.refl _
   by_cases hq:q > 0
   ·rw [if_pos hq]
    exact new _ (a.rev h0 _ _) (oG o a (by omega) (e.all o d))
   ·rw [if_neg hq]
    exact new p a fun k=>⟨o.refl _,o.refl _⟩
  ·rw [if_neg e1]
   have e1':c (gd p m) (gd p (m - 1))=false:=by simpa using e1
   refine ⟨a.low _,a.low _,?_⟩;show KasT.kasWp (f7 n c) (if c (p.getD (m - 1) 0) (p.getD m 0)=true then KasT.ret (p,m,q) else kas_desc f p (m+1) (q+1)) G s
   by_cases e2:c (p.getD (m - 1) 0) (p.getD m 0)=true
   ·rw [if_pos e2]
    exact h p m q a h1 (by omega) d e
   ·rw [if_neg e2]
    have e2':c (gd p (m - 1)) (gd p m)=false:=by simpa using e2
    refine lc o h0 f (m+1) (q+1) p a (by omega) (d.succ o fun _=>e2') ⟨by have:=e.1; omega,fun k k1 k2=>?_⟩ fun p'' m'' q'' b1 b2 b3 b4 b5=>h p'' m'' q'' b1 b2 (by omega) b4 b5;show c (gd p (m+1 - 1)) (gd p k)=false;rw [Nat.add_sub_cancel]
    by_cases hk:k=m
    ·subst hk; exact o.refl _
    ·exact o.trans (gd p k) (gd p (m - 1)) (gd p m) (e.2 k (by omega) (by omega)) e1'
theorem Dn.up (o:Ord c) {p:Array Nat} (a:Ar n p) {m:Nat} (hm:m<=n) (d:Dn c p m):Up c (kas_rev p 0 m) m:=fun i j h1 h2=>by
 rw [rO a hm,rO a hm,if_pos ⟨Nat.zero_le _,h2⟩,if_pos ⟨Nat.zero_le _,by omega⟩];exact d _ _ (by omega) (by omega)
theorem p9 (o:Ord c) (h0:0 < n) {p:Array Nat} (a:Ar n p) {m:Nat} (h1:1<=m) (hm:m<=n) (d:Dn c p m) {G:Nat×Array Nat->Shared->Prop}
  (h:∀ m' p',Ar n p'->1<=m'->m'<=n->Up c p' m'->G (m',p') s):(kas_tail3 m n p).kasWp (f7 n c) G s:=by
 unfold kas_tail3;rw [KasT.kasWp_bind];exact oU o (a.rev h0 _ _) (n - m) m (d.up o a hm) h1 fun m' b1 b2 b3 _=>h m' _ (a.rev h0 _ _) (by omega) (by omega) b3
theorem iR (o:Ord c) (h0:0 < n) {p:Array Nat} (a:Ar n p) {m:Nat} (hm:m+1<=n) (d:Dn c p (m+1)) {G:Nat×Array Nat->Shared->Prop}
  (h:∀ m' p',Ar n p'->1<=m'->m'<=n->Up c p' m'->G (m',p') s):(kas_descPart m n p).kasWp (f7 n c) G s:=by
 unfold kas_descPart;rw [KasT.kasWp_bind];refine lc o h0 (n - (m+1)) (m+1) 0 p a (by omega) d ⟨by omega,fun k k1 k2=>?_⟩ fun p' m' q' a' b1 b2 d' e'=>?_
 ·obtain rfl:k=m+1 - 1:=by omega
  exact o.refl _
 ·show KasT.kasWp (f7 n c) (if q' > 0 then kas_tail3 m' n (kas_rev p' (m' - (q'+1)) m') else kas_tail3 m' n p') G s
  by_cases hq:q' > 0
  ·rw [if_pos hq]
   exact p9 o h0 (a'.rev h0 _ _) b1 (by omega) (d'.eqv o (oG o a' (by omega) (e'.all o d'))) h
  ·rw [if_neg hq]
   exact p9 o h0 a' b1 (by omega) d' h
theorem vx (o:Ord c) (h0:0 < n) {p:Array Nat} (a:Ar n p) {G:Nat×Array Nat->Shared->Prop}
  (h:∀ m' p',Ar n p'->1<=m'->m'<=n->Up c p' m'->G (m',p') s):(kas_count n p).kasWp (f7 n c) G s:=by
 unfold kas_count;rw [KasT.kasWp_bind];refine oU o a (n - 1) 1 (.one o p) (Nat.le_refl _) fun m b1 b2 u st=>?_;show KasT.kasWp (f7 n c) (if (m==n)=true then KasT.ret (m,p) else if m > 1 then KasT.ask (p.getD 0 0) (p.getD (m - 1) 0) fun c=>if c=true then KasT.ret (m,p) else kas_descPart m n (kas_rev p 0 m)
  else kas_descPart m n p) G s
 by_cases e1:(m==n)=true
 ·rw [if_pos e1]
  exact h m p a b1 (by omega) u
 ·rw [if_neg e1]
  have hlt:m+1<=n:=by
   have:m≠n:=fun q=>e1 (by rw [q]; exact beq_self_eq_true _)
   omega
  have st':c (gd p (m - 1)) (gd p m)=false:=o.asym _ _ (st (by omega))
  by_cases e2:m > 1
  ·rw [if_pos e2]
   refine ⟨a.low _,a.low _,?_⟩;show KasT.kasWp (f7 n c) (if c (p.getD 0 0) (p.getD (m - 1) 0)=true then KasT.ret (m,p) else kas_descPart m n (kas_rev p 0 m)) G s
   by_cases e3:c (p.getD 0 0) (p.getD (m - 1) 0)=true
   ·rw [if_pos e3]
    exact h m p a b1 (by omega) u
   ·rw [if_neg e3]
    have e3':c (gd p 0) (gd p (m - 1))=false:=by simpa using e3
    have all:∀ x y,0<=x->x < m->0<=y->y < m->c (gd p x) (gd p y)=false:=fun x y _ hx _ hy =>
     o.trans (gd p y) (gd p (m - 1)) (gd p x) (u y (m - 1) (by omega) (by omega)) (o.trans (gd p (m - 1)) (gd p 0) (gd p x) e3' (u 0 x (by omega) hx))
    have ev:=oG o a (l:=0) (m:=m) (by omega) all;have d:Dn c p m:=fun i j h1 h2=>all i j (by omega) (by omega) (by omega) h2;refine iR o h0 (a.rev h0 _ _) hlt ((d.eqv o ev).succ o fun _=>?_) h;exact o.trans _ (gd p (m - 1)) _ (o.trans _ (gd p m) _ (ev m).2 st') (ev (m - 1)).1
  ·rw [if_neg e2]
   obtain rfl:m=1:=by omega
   refine iR o h0 a hlt ?_ h;refine Dn.succ o (fun i j h1 h2=>?_) fun _=>st';obtain rfl:i=j:=by omega
   exact o.refl _
theorem jd (o:Ord c) {p:Array Nat} (a:Ar n p) {k:Nat}{G:Nat->Shared->Prop}:∀ (f l r:Nat),r - l<=f->l<=r->r<=k->(∀ i,i < l->c (gd p k) (gd p i)=false)->(∀ i,r<=i->i < k->c (gd p k) (gd p i)=true)->Up c p k ->
  (∀ l',l'<=k->(∀ i,i < l'->c (gd p k) (gd p i)=false)->(∀ i,l'<=i->i < k->c (gd p k) (gd p i)=true)->G l' s)->(kas_place p k f l r).kasWp (f7 n c) G s
 | 0,l,r,hf,hl,hr,h1,h2,u,h=>h l (by omega) h1 (fun i hi hk=>h2 i (by omega) hk)
 | f+1,l,r,hf,hl,hr,h1,h2,u,h=>by
  unfold kas_place
  by_cases e:l>=r
  ·rw [if_pos e]
   exact h l (by omega) h1 (fun i hi hk=>h2 i (by omega) hk)
  ·rw [if_neg e]
   refine ⟨a.low _,a.low _,?_⟩;show KasT.kasWp (f7 n c) (if c (p.getD k 0) (p.getD ((l+r) / 2) 0)=true then kas_place p k f l ((l+r) / 2) else kas_place p k f ((l+r) / 2+1) r) G s
   by_cases e1:c (p.getD k 0) (p.getD ((l+r) / 2) 0)=true
   ·rw [if_pos e1]
    refine jd o a f l _ (by omega) (by omega) (by omega) h1 (fun i hi hk=>?_) u h;cases z:c (gd p k) (gd p i) with
    | true=>rfl
    | false =>
     have:=o.trans (gd p ((l+r) / 2)) (gd p i) (gd p k) (u ((l+r) / 2) i hi hk) z;have e1':c (gd p k) (gd p ((l+r) / 2))=true:=e1;rw [e1'] at this;cases this
   ·rw [if_neg e1]
    have e1':c (gd p k) (gd p ((l+r) / 2))=false:=by simpa using e1
    refine jd o a f _ r (by omega) (by omega) hr (fun i hi=>?_) h2 u h;exact o.trans (gd p i) (gd p ((l+r) / 2)) (gd p k) (u i ((l+r) / 2) (by omega) (by omega)) e1'
theorem uq (o:Ord c) (h0:0 < n) {G:Array Nat->Shared->Prop}:∀ (f k:Nat) (p:Array Nat),Ar n p->k+f<=n->Up c p k->(∀ p',Ar n p'->Up c p' (k+f)->G p' s)->(kas_bin f p k).kasWp (f7 n c) G s
 | 0,k,p,a,hf,u,h=>h p a u
 | f+1,k,p,a,hf,u,h=>by
  unfold kas_bin;rw [KasT.kasWp_bind];refine jd o a k 0 k (by omega) (by omega) (Nat.le_refl _) (fun i hi=>absurd hi (Nat.not_lt_zero _)) (fun i hi hk=>absurd hk (by omega)) u fun l hl h1 h2=>?_;have g:=BG a (src:=k) (d:=k - l) (by omega) (by omega);have el:k - (k - l)=l:=by omega
  rw [el] at g;refine uq o h0 f (k+1) _ (a.bub h0 _ _) (by omega) (fun i j hij hj=>?_) fun p' a' u'=>h p' a' (by rw [show k+(f+1)=k+1+f by omega]; exact u');rw [g i,g j]
  by_cases i1:i=l
  ·rw [if_pos i1]
   by_cases j1:j=l
   ·rw [if_pos j1]; exact o.refl _
   ·rw [if_neg j1,if_pos (by omega)]
    exact o.asym _ _ (h2 (j - 1) (by omega) (by omega))
  ·rw [if_neg i1]
   by_cases i2:l < i/\i<=k
   ·rw [if_pos i2,if_neg (by omega),if_pos (by omega)]
    exact u _ _ (by omega) (by omega)
   ·rw [if_neg i2]
    by_cases j1:j=l
    ·rw [if_pos j1]
     exact h1 i (by omega)
    ·rw [if_neg j1]
     by_cases j2:l < j/\j<=k
     ·rw [if_pos j2]
      exact u _ _ (by omega) (by omega)
     ·rw [if_neg j2]
      exact u _ _ hij (by omega)
theorem wT (o:Ord c) (h0:0 < n) {G:Array Nat->Shared->Prop} (h:∀ p',Ar n p'->Up c p' n->G p' s):(kas_sort n).kasWp (f7 n c) G s:=by
 unfold kas_sort;rw [KasT.kasWp_bind];refine vx o h0 (.start h0) fun m p a b1 b2 u=>?_;show KasT.kasWp (f7 n c) (if m < n then kas_bin (n - max m 1) p (max m 1) else KasT.ret p) G s;have em:max m 1=m:=by omega
 rw [em]
 by_cases e:m < n
 ·rw [if_pos e]
  exact uq o h0 (n - m) m p a (by omega) u fun p' a' u'=>h p' a' (by rw [show m+(n - m)=n by omega] at u'; exact u')
 ·rw [if_neg e]
  obtain rfl:m=n:=by omega
  exact h p a u
theorem uu {cmp:Nat->Nat->(Bool->Shared->Prop)->Shared->Prop}{J:Shared->Prop} (hc:∀ i j C s,i < n->j < n->J s->(∀ s',J s'->C (c i j) s')->cmp i j C s) {α:Type}{G:α->Prop}{Q:α->Shared->Prop} (hQ:∀ a s',G a->J s'->Q a s') :
  ∀ (t:KasT α) (s s0:Shared),t.kasWp (f7 n c) (fun a _=>G a) s0->J s->t.kasWp cmp Q s
 | .ret a,s,_,h,j=>hQ a s h j
 | .ask i k f,s,s0,h,j=>hc i k _ s h.1 h.2.1 j fun s' j'=>uu hc hQ (f (c i k)) s' s0 h.2.2 j'
end
section
variable {prog:Program}{w:World}{A:Around}{E:Value->Shared->Prop}{s:Shared}
theorem mM {a:Addr}{vs:List Value}{n:Nat}{κ:SortKind}{c:Nat->Nat->Bool}{P:Fin->Shared->Prop} (ho:s.heap.get? a=some (seqObj "list" vs.toArray n)) (h64:vs.length < 64) (o:Ord c)
  (hkind:2<=vs.length->∀ (s':Shared) (Q:SortKind->Shared->Prop),(∀ b ob,b≠a->s.heap.get? b=some ob->s'.heap.get? b=some ob)->Q κ s'->wpAny (model prog w) A (keyKind' vs.toArray) Q (fun _ _=>False) s')
  (hlt:∀ i j (s':Shared) (Q:Bool->Shared->Prop),i < vs.length->j < vs.length->(∀ b ob,b≠a->s.heap.get? b=some ob->s'.heap.get? b=some ob)->Q (c i j) s'->wpAny (model prog w) A (keyLt' κ (vs.getD i Value.none) (vs.getD j Value.none)) Q (fun _ _=>False) s')
  (h:∀ p:Array Nat,p.Perm (List.range vs.length).toArray->Up c p vs.length->P (.done (.ret .none)) { s with heap:=sortedHeap s.heap a vs (p.toList.map fun i=>vs.getD i Value.none).toArray }) :
  wpAny (model prog w) A (Builtin.«list.sort» ⟨[.ref a],[]⟩) P E s:=by
 rw [list_sort_plain];have ha:a < s.heap.objs.size:=Heap.lt_size ho;refine wpAny_bind (listItems_at ho rfl ?_);refine wpAny_bind (listUpdate_at ho rfl ?_ (by rw [List.size_toArray,sizeLine_eq]; omega) (Nat.zero_le _));obtain ⟨e1,ho1⟩:∃ e1,(s.heap.update a (Obj.mapSeq fun _=>#[])).get? a=some (seqObj "list" #[] e1):=⟨_,get?_update_seq ho (fun _=>#[])⟩;refine wpAny_bind (seqEpoch_at ho1 rfl ?_);refine wpAny_bind (wpAny_newTuple ?_ (by show vs.length<=_; rw [sizeLine_eq]; omega));refine wpAny_bind (wpAny_newList ?_ (Nat.zero_le _));refine wpAny_holding ?_;have ho6:(((s.heap.update a (Obj.mapSeq fun _=>#[])).push (seqObj "tuple" vs.toArray 0)).push (seqObj "list" #[] 0)).get? a=some (seqObj "list" #[] e1):=by
  rw [Heap.get?_push_ne _ _ _ (by rw [size_push',Heap.size_update]; exact Nat.ne_of_lt (Nat.lt_succ_of_lt ha)),Heap.get?_push_ne _ _ _ (by rw [Heap.size_update]; exact Nat.ne_of_lt ha)];exact ho1
 have keep:∀ b ob,b≠a->s.heap.get? b=some ob->(((s.heap.update a (Obj.mapSeq fun _=>#[])).push (seqObj "tuple" vs.toArray 0)).push (seqObj "list" #[] 0)).get? b=some ob:=fun b ob hb e =>
  Heap.get?_push_of_some _ (Heap.get?_push_of_some _ ((Heap.get?_update_other _ _ (Ne.symm hb)).trans e))
 show wpAny (model prog w) A _ P E { s with heap:=((s.heap.update a (Obj.mapSeq fun _=>#[])).push (seqObj "tuple" vs.toArray 0)).push (seqObj "list" #[] 0) };dsimp only;have hsz:vs.toArray.size=vs.length:=by simp
 by_cases h2:vs.toArray.size < 2
 ·rw [if_pos h2,if_pos h2]
  refine wpAny_bind (wpAny_pure ?_);rw [StateT.run_pure];refine wpAny_bind (wpAny_pure ?_);dsimp only;refine wpAny_bind (seqEpoch_at ho6 rfl ?_);refine wpAny_bind (listUpdate_at ho6 rfl ?_ (Nat.zero_le _) (hsz2:=by rw [Array.size_map]; show (pairsOf vs).size<=_; rw [pairsOf_size,sizeLine_eq]; omega));simp only [bne_self_eq_false,Bool.false_eq_true,if_false];have hz:=h (List.range vs.length).toArray (Array.Perm.refl _) (fun i j hij hj=>by
   obtain rfl:i=j:=by rw [hsz] at h2; omega
   exact o.refl _)
  refine wpAny_pure ?_;have e:((List.range vs.length).toArray.toList.map fun i=>vs.getD i Value.none).toArray=(arrOf (SortSt.mk' general' (vs.toArray.zip vs.toArray) #[] 7 none)).map (·.2):=by
   apply Array.toList_inj.mp;show (List.range vs.length).map _=((vs.toArray.zip vs.toArray).map (·.2)).toList;rw [Array.toList_map];have ez:(vs.toArray.zip vs.toArray).toList=vs.zip vs:=by simp
   rw [ez];rw [show (vs.zip vs).map (fun x=>x.2)=vs from by rw [List.map_snd_zip]; exact Nat.le_refl _];apply List.ext_getElem?;intro i;rw [List.getElem?_map]
   by_cases hi:i < vs.length
   ·simp [hi]
   ·simp [hi]
  rw [e] at hz;exact hz
 ·rw [if_neg h2,if_neg h2]
  have l2:2<=vs.length:=by omega
  refine wpAny_bind (wpAny_mono (hkind l2 { s with heap:=((s.heap.update a (Obj.mapSeq fun _=>#[])).push (seqObj "tuple" vs.toArray 0)).push (seqObj "list" #[] 0) } (fun k s'=>k=κ/\s'={ s with heap:=((s.heap.update a (Obj.mapSeq fun _=>#[])).push (seqObj "tuple" vs.toArray 0)).push (seqObj "list" #[] 0) }) keep ⟨rfl,rfl⟩) (fun κ' s0 hk=>?_) fun _ _ x=>x.elim);obtain ⟨rfl,rfl⟩:=hk;have tree:(kas_sort vs.length).kasWp (kas_ask prog w A κ' vs) (fun p s'=>(p.Perm (List.range vs.length).toArray/\Up c p vs.length)/\s'={ s with heap:=((s.heap.update a (Obj.mapSeq fun _=>#[])).push (seqObj "tuple" vs.toArray 0)).push (seqObj "list" #[] 0) })
    { s with heap:=((s.heap.update a (Obj.mapSeq fun _=>#[])).push (seqObj "tuple" vs.toArray 0)).push (seqObj "list" #[] 0) } :=
   uu (n:=vs.length) (c:=c) (J:=fun s'=>s'={ s with heap:=((s.heap.update a (Obj.mapSeq fun _=>#[])).push (seqObj "tuple" vs.toArray 0)).push (seqObj "list" #[] 0) }) (G:=fun p=>p.Perm (List.range vs.length).toArray/\Up c p vs.length)
    (fun i j C s' hi hj hJ hC=>by subst hJ; exact hlt i j _ C hi hj keep (hC _ rfl)) (fun p s' hg hJ=>⟨hg,hJ⟩) _ _ s (wT o (by omega) fun p' a' u'=>⟨a'.perm,u'⟩) rfl
  refine wpAny_bind (wpAny_mono (kat_run (Q:=fun st' s'=>∃ p:Array Nat,p.size=vs.length/\arrOf st'=p.map (kas_item (vs.toArray.zip vs.toArray))/\failedOf st'=none/\(p.Perm (List.range vs.length).toArray/\Up c p vs.length)/\s'={ s with heap:=((s.heap.update a (Obj.mapSeq fun _=>#[])).push (seqObj "tuple" vs.toArray 0)).push (seqObj "list" #[] 0) })
   rfl l2 h64 (fun p' st' s' a1 a2 a3 a4=>⟨p',a1,a2,a3,a4.1,a4.2⟩) tree) ?_ fun _ _ e=>e)
  rintro ⟨⟨⟩,st'⟩ s' ⟨p,hp,har,hf,⟨hpm,hup⟩,rfl⟩;dsimp only;refine wpAny_bind (seqEpoch_at ho6 rfl ?_);have hsn:(arrOf st').map (·.2)=List.toArray (p.toList.map fun i=>vs.getD i Value.none):=kat_snds rfl har;refine wpAny_bind (listUpdate_at ho6 rfl ?_ (Nat.zero_le _) (hsz2:=by rw [hsn]; simp only [List.size_toArray,List.length_map,Array.length_toList]; rw [hp,sizeLine_eq]; omega));rw [hf,hsn];simp only [bne_self_eq_false,Bool.false_eq_true,if_false];exact wpAny_pure (h p hpm hup)
end
section
variable {prog:Program}{w:World}{A:Around}{E:Value->Shared->Prop}{s:Shared}
noncomputable def Kp (h h':Heap):Prop:=∀ b ob,h.get? b=some ob->h'.get? b=some ob
structure SortC (prog:Program) (w:World) (vs:List Value) (κ:SortKind) (c:Nat->Nat->Bool) (h:Heap):Prop where
 ord:Ord c
 kind:2<=vs.length->∀ (A:Around) (s':Shared) (Q:SortKind->Shared->Prop),Kp h s'.heap->Q κ s'->wpAny (model prog w) A (keyKind' vs.toArray) Q (fun _ _=>False) s'
 lt:∀ i j (A:Around) (s':Shared) (Q:Bool->Shared->Prop),i < vs.length->j < vs.length->Kp h s'.heap->Q (c i j) s'->wpAny (model prog w) A (keyLt' κ (vs.getD i Value.none) (vs.getD j Value.none)) Q (fun _ _=>False) s'
theorem lI {v:Value}{Q:Value->Shared->Prop} (hc:∀ A':Around,A'.handled=A.handled->wpAny (model prog w) A' (collect v) (fun vs s1=>vs.length < 64/\∃ κ c,SortC prog w vs κ c s1.heap /\
   ∀ p:Array Nat,p.Perm (List.range vs.length).toArray->Up c p vs.length->∀ h',Kp s1.heap h'->(∃ e,h'.get? s1.heap.objs.size=some (seqObj "list" (p.toList.map fun i=>vs.getD i Value.none).toArray e))->Q (.ref s1.heap.objs.size) { s1 with heap:=h' }) E s) :
  wpAny (model prog w) A (call (.builtin "sorted") [v]) Q E s:=by
 refine Calls.call_function_entry kind_sorted plain_sorted entry_sorted (args_sorted1 _) ?_;unfold Builtin.«sorted»;refine wpAny_bind (m:=checkCount "sorted" 1 1 _) (wpAny_pure ?_);refine wpAny_bind (wpAny_mono (hc _ rfl) (fun vs s1 h1=>?_) fun _ _ e=>e);obtain ⟨h64,κ,c,C,fin⟩:=h1;refine wpAny_bind (wpAny_newList ?_ (by rw [sizeLine_eq]; omega));have hoL:(s1.heap.push (seqObj "list" vs.toArray 0)).get? s1.heap.objs.size=some (seqObj "list" vs.toArray 0):=Heap.get?_push_size _ rfl;have kp1:Kp s1.heap (s1.heap.push (seqObj "list" vs.toArray 0)):=fun b ob e=>Heap.get?_push_of_some _ e;have kp2:∀ s':Shared,(∀ b ob,b≠s1.heap.objs.size->(s1.heap.push (seqObj "list" vs.toArray 0)).get? b=some ob->s'.heap.get? b=some ob)->Kp s1.heap s'.heap:=fun s' hk b ob e=>hk b ob (Nat.ne_of_lt (Heap.lt_size e)) (kp1 b ob e);show wpAny _ _ _ _ _ { s1 with heap:=s1.heap.push (seqObj "list" vs.toArray 0) };refine wpAny_bind (wpAny_holding (wpAny_call_entry slot_list_sort ⟨_,hoL,rfl⟩ entry_list_sort (mM (s:={ s1 with heap:=s1.heap.push (seqObj "list" vs.toArray 0) }) hoL h64 C.ord (fun l2 s' Q' hk q=>C.kind l2 _ s' Q' (kp2 s' hk) q)
  (fun i j s' Q' hi hj hk q=>C.lt i j _ s' Q' hi hj (kp2 s' hk) q) fun p hp hup=>⟨_,rfl,?_⟩) (args_list_sort _)))
 refine wpAny_pure ⟨_,rfl,fin p hp hup _ (fun b ob e=>?_) ?_⟩
 ·have hlt:b < s1.heap.objs.size:=Heap.lt_size e
  show (sortedHeap (s1.heap.push (seqObj "list" vs.toArray 0)) s1.heap.objs.size vs _).get? b=some ob;unfold sortedHeap;rw [Heap.get?_update_ne _ _ _ _ (Nat.ne_of_lt hlt)];refine Heap.get?_push_of_some _ (Heap.get?_push_of_some _ ?_);rw [Heap.get?_update_ne _ _ _ _ (Nat.ne_of_lt hlt)];exact kp1 b ob e
 ·show ∃ e,(sortedHeap (s1.heap.push (seqObj "list" vs.toArray 0)) s1.heap.objs.size vs _).get? s1.heap.objs.size=some _
  unfold sortedHeap;obtain ⟨e1,ho1⟩:∃ e1,((s1.heap.push (seqObj "list" vs.toArray 0)).update s1.heap.objs.size (Obj.mapSeq fun _=>#[])).get? s1.heap.objs.size=some (seqObj "list" #[] e1):=⟨_,get?_update_seq hoL (fun _=>#[])⟩;have ho2:=Heap.get?_push_of_some (seqObj "list" #[] 0) (Heap.get?_push_of_some (seqObj "tuple" vs.toArray 0) ho1);exact ⟨_,get?_update_seq ho2 _⟩
end
end Own
namespace Own
open PySem PySem.W PyProof.Rows L2
noncomputable def n8:a5->a5->Bool
 | .inl i,.inl j=>decide (i < j)
 | .inr x,.inr y=>decide (x.cps.toList < y.cps.toList)
 | .inl _,.inr _=>true
 | .inr _,.inl _=>false
theorem yH {x y:Str} (h:x.cps.toList=y.cps.toList):x=y:=by
 cases x; cases y;simp only at h;rw [Array.toList_inj.mp h]
theorem sJ (k:a5):n8 k k=false:=by
 cases k with
 | inl i=>exact decide_eq_false (Int.lt_irrefl i)
 | inr x=>exact decide_eq_false (List.lt_irrefl _)
theorem xF {a b:a5} (h:n8 a b=true):n8 b a=false:=by
 cases a with
 | inl i=>cases b with
  | inl j=>have:=of_decide_eq_true (show decide (i < j)=true from h); exact decide_eq_false (by omega)
  | inr y=>rfl
 | inr x=>cases b with
  | inl j=>exact absurd (show false=true from h) Bool.false_ne_true
  | inr y=>have:=of_decide_eq_true (show decide (x.cps.toList < y.cps.toList)=true from h); exact decide_eq_false (List.lt_asymm this)
theorem vb {a b c:a5} (h1:n8 a b=true) (h2:n8 b c=true):n8 a c=true:=by
 cases a with
 | inl i=>cases b with
  | inl j=>cases c with
   | inl k=>have:=of_decide_eq_true (show decide (i < j)=true from h1); have:=of_decide_eq_true (show decide (j < k)=true from h2); exact decide_eq_true (by omega)
   | inr z=>rfl
  | inr y=>cases c with
   | inl k=>exact absurd (show false=true from h2) Bool.false_ne_true
   | inr z=>rfl
 | inr x=>cases b with
  | inl j=>exact absurd (show false=true from h1) Bool.false_ne_true
  | inr y=>cases c with
   | inl k=>exact absurd (show false=true from h2) Bool.false_ne_true
   | inr z=>have a1:=of_decide_eq_true (show decide (x.cps.toList < y.cps.toList)=true from h1); have a2:=of_decide_eq_true (show decide (y.cps.toList < z.cps.toList)=true from h2); exact decide_eq_true (List.lt_trans a1 a2)
theorem vc {a b:a5} (h1:n8 a b=false) (h2:n8 b a=false):a=b:=by
 cases a with
 | inl i=>cases b with
  | inl j=>have:=of_decide_eq_false (show decide (i < j)=false from h1); have:=of_decide_eq_false (show decide (j < i)=false from h2); rw [show i=j by omega]
  | inr y=>exact absurd (show true=false from h1) (by decide)
 | inr x=>cases b with
  | inl j=>exact absurd (show true=false from h2) (by decide)
  | inr y =>
   have a1:=of_decide_eq_false (show decide (x.cps.toList < y.cps.toList)=false from h1);have a2:=of_decide_eq_false (show decide (y.cps.toList < x.cps.toList)=false from h2);have e:x.cps.toList=y.cps.toList:=List.le_antisymm (List.not_lt.mp a2) (List.not_lt.mp a1);rw [yH e]
noncomputable def c7:List a5->List a5->Bool
 | [],[]=>false
 | [],_ :: _=>true
 | _ :: _,[]=>false
 | a :: as,b :: bs=>if a=b then c7 as bs else n8 a b
theorem nB:∀ {a b:List a5},c7 a b=true->c7 b a=false
 | [],[],h=>rfl
 | [],_ :: _,_=>rfl
 | _ :: _,[],h=>absurd (show false=true from h) Bool.false_ne_true
 | a :: as,b :: bs,h=>by
  have h:(if a=b then c7 as bs else n8 a b)=true:=h;show (if b=a then c7 bs as else n8 b a)=false
  by_cases e:a=b
  ·rw [if_pos e] at h; rw [if_pos e.symm]; exact nB h
  ·rw [if_neg e] at h; rw [if_neg (fun z=>e z.symm)]; exact xF h
theorem lQ:∀ {a b:List a5},c7 a b=false->c7 b a=false->a=b
 | [],[],_,_=>rfl
 | [],_ :: _,h,_=>absurd (show true=false from h) (by decide)
 | _ :: _,[],_,h=>absurd (show true=false from h) (by decide)
 | a :: as,b :: bs,h1,h2=>by
  have h1:(if a=b then c7 as bs else n8 a b)=false:=h1;have h2:(if b=a then c7 bs as else n8 b a)=false:=h2
  by_cases e:a=b
  ·rw [if_pos e] at h1; rw [if_pos e.symm] at h2; rw [e,lQ h1 h2]
  ·rw [if_neg e] at h1; rw [if_neg (fun z=>e z.symm)] at h2; exact absurd (vc h1 h2) e
theorem lP:∀ {a b c:List a5},c7 a b=true->c7 b c=true->c7 a c=true
 | [],[],_,h,_=>absurd (show false=true from h) Bool.false_ne_true
 | [],_ :: _,[],_,h=>absurd (show false=true from h) Bool.false_ne_true
 | [],_ :: _,_ :: _,_,_=>rfl
 | _ :: _,[],_,h,_=>absurd (show false=true from h) Bool.false_ne_true
 | _ :: _,_ :: _,[],_,h=>absurd (show false=true from h) Bool.false_ne_true
 | a :: as,b :: bs,c :: cs,h1,h2=>by
  have h1:(if a=b then c7 as bs else n8 a b)=true:=h1;have h2:(if b=c then c7 bs cs else n8 b c)=true:=h2;show (if a=c then c7 as cs else n8 a c)=true
  by_cases e:a=b
  ·subst e
   rw [if_pos rfl] at h1
   by_cases e2:a=c
   ·rw [if_pos e2] at h2 ⊢; exact lP h1 h2
   ·rw [if_neg e2] at h2 ⊢; exact h2
  ·rw [if_neg e] at h1
   by_cases e2:b=c
   ·subst e2; rw [if_neg e]; exact h1
   ·rw [if_neg e2] at h2
    have z:=vb h1 h2
    by_cases e3:a=c
    ·subst e3; rw [sJ] at z; cases z
    ·rw [if_neg e3]; exact z
theorem xv (f:Nat->List a5):Ord (fun i j=>c7 (f i) (f j)) where
 asym:=fun i j h=>nB h
 trans:=fun i j k h1 h2=>by
  cases e:c7 (f k) (f i) with
  | false=>rfl
  | true =>
   have h1:c7 (f j) (f i)=false:=h1;have h2:c7 (f k) (f j)=false:=h2;cases e1:c7 (f i) (f j) with
   | true=>have:=lP e e1; rw [h2] at this; cases this
   | false =>
    have:=lQ e1 h1;rw [<- this,e] at h2; cases h2
theorem y6 (f:Nat->Int):Ord (fun i j=>decide (f i < f j)) where
 asym:=fun i j h=>by have:=of_decide_eq_true h; exact decide_eq_false (by omega)
 trans:=fun i j k h1 h2=>by have:=of_decide_eq_false h1; have:=of_decide_eq_false h2; exact decide_eq_false (by omega)
section
variable {prog:Program}{w:World}{A:Around}{E:Value->Shared->Prop}{s:Shared}{b fin:Bool}{Q:Bool->Shared->Prop}
theorem zA {k l:a5}{u v:Value}{R:Bool->Shared->Prop} (ru:RelV (kV k) u) (rv:RelV (kV l) v) (hs:k.isLeft=l.isLeft) (h:R (decide (k=l)) s):wpAny (model prog w) A (eqBool u v) R E s:=by
 cases k with
 | inl i=>cases l with
  | inl j =>
   obtain ⟨t,rfl⟩:=(show ∃ t,u=Value.int i t from ru);obtain ⟨t',rfl⟩:=(show ∃ t,v=Value.int j t from rv);rw [wH] at h;exact wpAny_eqBool_int h
  | inr y=>cases hs
 | inr x=>cases l with
  | inl j=>cases hs
  | inr y =>
   obtain ⟨t,rfl⟩:=(show ∃ t,u=Value.str x t from ru);obtain ⟨t',rfl⟩:=(show ∃ t,v=Value.str y t from rv);rw [wG] at h;exact wpAny_eqBool_str h
theorem xw {k l:a5}{u v:Value}{f:Bool} (ru:RelV (kV k) u) (rv:RelV (kV l) v) (hs:k.isLeft=l.isLeft) (h:Q (n8 k l) s):wpAny (model prog w) A (oneLt' f u v) Q E s:=by
 cases k with
 | inl i=>cases l with
  | inl j =>
   obtain ⟨t,rfl⟩:=(show ∃ t,u=Value.int i t from ru);obtain ⟨t',rfl⟩:=(show ∃ t,v=Value.int j t from rv);cases f with
   | true=>exact oneLt_int h
   | false=>exact kat_one _ _ (lt_int h)
  | inr y=>cases hs
 | inr x=>cases l with
  | inl j=>cases hs
  | inr y =>
   obtain ⟨t,rfl⟩:=(show ∃ t,u=Value.str x t from ru);obtain ⟨t',rfl⟩:=(show ∃ t,v=Value.str y t from rv);cases f with
   | true=>exact oneLt_str h
   | false=>exact kat_one _ _ (lt_str h)
theorem jL:∀ {ks ls:List a5}{us vs:List Value}{i:Nat},aL (ks.map kV) us->aL (ls.map kV) vs->ks.map Sum.isLeft=ls.map Sum.isLeft->Q (c7 ks ls) s->KatLex prog w A b false Q (us.zip vs) i s
 | [],[],_,_,i,.nil,.nil,_,h=>kat_nil h
 | [],_ :: _,_,_,i,_,_,e,_=>by simp at e
 | _ :: _,[],_,_,i,_,_,e,_=>by simp at e
 | k :: ks,l :: ls,u :: us,v :: vs,i,.cons r1 t1,.cons r2 t2,e,h=>by
  simp only [List.map_cons,List.cons.injEq] at e;refine kat_cons (zA r1 r2 e.1 ?_);have h:Q (if k=l then c7 ks ls else n8 k l) s:=h
  by_cases q:k=l
  ·rw [decide_eq_true q]
   rw [if_pos q] at h;exact kat_yes (jL t1 t2 e.2 h)
  ·rw [decide_eq_false q]
   rw [if_neg q] at h;exact kat_no (xw r1 r2 e.1 h)
end
section
variable {X:Cx}{pins:List (Addr×Obj)}{σ:L2.St}{H:Hp}{s:Shared}
noncomputable def Rows (H:Hp) (us:List V) (rows:List (List V)):Prop:=Paired (fun u r=>∃ a,u=V.ref a/\H a=some (.tup r)) us rows
theorem Rows.tup {us:List V}{rows:List (List V)} (R:Rows H us rows) (I:Inv X pins σ H s):∀ {vs:List Value},aL us vs->∀ i,i < vs.length->∃ a its,vs.getD i Value.none=.ref a/\aL (rows.getD i []) its/\IsTup s.heap a its.toArray:=by
 induction R with
 | nil=>intro vs r i hi; cases r; exact absurd hi (Nat.not_lt_zero _)
 | @cons u row us rows h t ih =>
  intro vs r i hi;cases r with
  | @cons _ v _ vs r1 r2 =>
   obtain ⟨a,rfl,ha⟩:=h;cases i with
   | zero =>
    cases (show v=Value.ref a from r1);obtain ⟨_,its,q,p⟩:=(show a6 X.prog X.w H s.heap a (.tup row) from I.hok a _ ha);exact ⟨a,its,rfl,q,p⟩
   | succ i =>
    obtain ⟨a',its,e,q,p⟩:=ih r2 i (by simpa using hi);exact ⟨a',its,by simpa using e,by simpa using q,p⟩
theorem wF {h h':Heap}{a:Addr}{xs:Array Value} (k:Kp h h') (p:IsTup h a xs):IsTup h' a xs:=by
 obtain ⟨o,e,c⟩:=p;exact ⟨o,k a o e,c⟩
theorem mQ {us:List V}{rows:List (List V)}{h':Heap} (R:Rows H us rows) (I:Inv X pins σ H s) (k:Kp s.heap h') (hf:∀ r∈rows,∃ i rest,r=V.int i :: rest):∀ {vs:List Value},aL us vs->∃ fs:List Value,KatTups h' vs fs/\fs.length=vs.length/\∀ v∈fs,∃ i t,v=Value.int i t:=by
 induction R with
 | nil=>intro vs r; cases r; exact ⟨[],KatTups.nil,rfl,fun _ z=>nomatch z⟩
 | @cons u row us rows h t ih =>
  intro vs r;cases r with
  | @cons _ v _ vs r1 r2 =>
   obtain ⟨a,rfl,ha⟩:=h;cases (show v=Value.ref a from r1);obtain ⟨i,rest,rfl⟩:=hf row List.mem_cons_self;obtain ⟨_,its,q,o,e,c,n,d⟩:=(show a6 X.prog X.w H s.heap a (.tup (V.int i :: rest)) from I.hok a _ ha);cases q with
   | @cons _ f _ its q1 q2 =>
    obtain ⟨tk,rfl⟩:=(show ∃ t,f=Value.int i t from q1);obtain ⟨fs,K1,K2,K3⟩:=ih (fun r hr=>hf r (List.mem_cons_of_mem _ hr)) r2;refine ⟨Value.int i tk :: fs,KatTups.cons (k a o e) c d (by simp) K1,by simp [K2],fun v hv=>?_⟩;rcases List.mem_cons.mp hv with z | z
    ·exact ⟨i,tk,z⟩
    ·exact K3 v z
theorem zj {us:List V}{rows:List (List V)}{vs:List Value} (R:Rows H us rows) (I:Inv X pins σ H s) (r:aL us vs) (hf:∀ r∈rows,∃ i rest,r=V.int i :: rest) (l2:2<=vs.length) (A:Around) (s':Shared) (Q:SortKind->Shared->Prop) (k:Kp s.heap s'.heap) (q:Q (tuples' true) s') :
  wpAny (model X.prog X.w) A (keyKind' vs.toArray) Q (fun _ _=>False) s':=by
 obtain ⟨fs,K1,K2,K3⟩:=mQ R I k hf r;refine kat_kind (T:=.type "int") K1 (by omega) (fun v hv=>?_) rfl q;obtain ⟨i,t,rfl⟩:=K3 v hv;exact Looks.of_pure rfl
theorem rY {us:List V}{rows:List (List a5)}{vs:List Value}{pat:List Bool} (R:Rows H us (rows.map fun r=>r.map kV)) (I:Inv X pins σ H s) (r:aL us vs) (hp:∀ r∈rows,r.map Sum.isLeft=true :: pat) :
  SortC X.prog X.w vs (tuples' true) (fun i j=>c7 (rows.getD i []) (rows.getD j [])) s.heap where
 ord:=xv _
 kind:=fun l2 A s' Q k q=>zj R I r (fun x hx=>by
  obtain ⟨y,hy,rfl⟩:=List.mem_map.mp hx;have:=hp y hy;cases y with
  | nil=>simp at this
  | cons z zs=>cases z with
   | inl i=>exact ⟨i,zs.map kV,rfl⟩
   | inr x=>simp at this) l2 A s' Q k q
 lt:=fun i j A s' Q hi hj k q=>by
  have hl:rows.length=vs.length:=by
   have h1:=Paired.length R;rw [List.length_map] at h1;rw [<- h1]; exact r.length
  obtain ⟨a,its,e1,q1,p1⟩:=R.tup I r i hi;obtain ⟨a',its',e2,q2,p2⟩:=R.tup I r j hj;rw [e1,e2];have g:∀ n,n < vs.length->(rows.map fun r=>r.map kV).getD n []=(rows.getD n []).map kV:=fun n hn=>by
   have hn':n < rows.length:=by omega
   simp [hn']
  rw [g i hi] at q1;rw [g j hj] at q2;have m:∀ n,n < vs.length->(rows.getD n []).map Sum.isLeft=true :: pat:=fun n hn=>hp _ (by
   have hn':n < rows.length:=by omega
   rw [show rows.getD n []=rows[n] by simp [hn']];exact List.getElem_mem hn')
  have lk:∀ n,n < vs.length->(rows.getD n []).length=pat.length+1:=fun n hn=>by have:=congrArg List.length (m n hn); simpa using this
  obtain ⟨o,h1,_,n1,d1⟩:=wF k p1;obtain ⟨o',h1',_,n1',d1'⟩:=wF k p2;have len1:=q1.length;have len2:=q2.length;rw [List.length_map,lk i hi] at len1;rw [List.length_map,lk j hj] at len2;refine kat_lt h1 d1 h1' d1' ?_;rw [show decide (its.toArray.size < its'.toArray.size)=false from decide_eq_false (by simp only [List.size_toArray]; omega)];exact jL q1 q2 ((m i hi).trans (m j hj).symm) q
end
end Own
namespace Own
open PySem L2
theorem je {α:Type} (xs:List α) (d:α) {p:Array Nat} (hp:p.Perm (List.range xs.length).toArray):(p.toList.map fun i=>xs.getD i d).Perm xs:=by
 have h1:p.toList.Perm (List.range xs.length):=by simpa using Array.perm_iff_toList_perm.mp hp
 have h2:=h1.map (fun i=>xs.getD i d);have e:(List.range xs.length).map (fun i=>xs.getD i d)=xs:=by
  apply List.ext_getElem?;intro i;rw [List.getElem?_map]
  by_cases hi:i < xs.length
  ·simp [hi]
  ·simp [hi]
 rw [e] at h2;exact h2
theorem jB {α:Type}{p:Array Nat}{n:Nat}{c:Nat->Nat->Bool}{f:Nat->α}{R:α->α->Prop} (hs:p.size=n) (u:Up c p n) (hR:∀ i j,c j i=false->R (f i) (f j)):(p.toList.map f).Pairwise R:=by
 rw [List.pairwise_iff_getElem];intro i j hi hj hij;have hj':j < p.size:=by simpa using hj
 have hi':i < p.size:=by simpa using hi
 simp only [List.getElem_map,Array.getElem_toList];have:=u i j (Nat.le_of_lt hij) (by omega);have e1:gd p i=p[i]:=by unfold gd; simp [Array.getD,hi']
 have e2:gd p j=p[j]:=by unfold gd; simp [Array.getD,hj']
 rw [e1,e2] at this;exact hR _ _ this
end Own
namespace L2
open PySem PySem.Spec PyProof.Rows _root_.Own
noncomputable def rn (v d:Addr):HO:=.ext fun h=>h.IsItemsView v d
theorem BA {P:Program}{w:World}{H:Hp}{h:Heap}{v d:Addr} (x:h.IsItemsView v d):a6 P w H h v (rn v d) :=
 ⟨x,let ⟨o,e,_⟩:=x; ⟨o,e⟩,fun _ _ ⟨o,e,r⟩ k=>⟨o,k o e,r⟩⟩
section
variable {X:Cx}
theorem qy:Cc X "dict.items" (fun x xs H Q=>∃ d kvs,x=.ref d/\xs=[]/\Rd H d (.dK kvs)/\∀ v,H v=none->Q (.ref v) (aw H v (rn v d))):=by
 intro pins s σ H x xs v us Q I rx rs h;obtain ⟨d,kvs,rfl,rfl,hd,q⟩:=h;cases rx;cases rs;obtain ⟨z,hm,vs,rel,dd⟩:=dX I.hok hd;refine call_meetsIn PySem.F.slot_dict_items dd.typeIs PySem.F.entry_dict_items (PySem.F.args_dict_items_1 _) (meets_dict_items (aX X.prog X.w) d hm) ⟨⟨vs,dd⟩,?_⟩;refine ⟨.ref s.heap.objs.size,_,I.laid (t':=s.toks) (o:=rn s.heap.objs.size d) (fun _ _ e=>Heap.get?_push_of_some _ e) (Nat.le_refl _) (BA ⟨_,Heap.get?_push_size _ rfl,rfl,rfl⟩),rfl,q _ (I.hok.fresh (Nat.le_refl _))⟩
noncomputable def BI (K:Frag) (l:Addr) (H:Hp) (Q:VK):Prop:=∃ (us:List V) (rows:List (List a5)) (pat:List Bool),a9 K H l us/\Rows H us (rows.map fun r=>r.map kV)/\us.length < 64/\(∀ r∈rows,r.map Sum.isLeft=true :: pat) /\
 ∀ (us':List V) (rows':List (List a5)),Rows H us' (rows'.map fun r=>r.map kV)->us'.Perm us->rows'.Perm rows->rows'.Pairwise (fun a b=>c7 b a=false)->∀ p,H p=none->Q (.ref p) (aw H p (.lst us'))
theorem m3 {us:List V}{vs:List Value} (r:aL us vs):∀ (l:List Nat),(∀ i∈l,i < us.length)->aL (l.map fun i=>us.getD i .non) (l.map fun i=>vs.getD i Value.none)
 | [],_=>.nil
 | i :: l,h=>by
  refine .cons ?_ (m3 r l fun j hj=>h j (List.mem_cons_of_mem _ hj));have hi:=h i List.mem_cons_self;obtain ⟨u,hu,ru⟩:=r.get (List.getElem?_eq_getElem hi);have e1:us.getD i .non=us[i]:=by simp [hi]
  have e2:vs.getD i Value.none=u:=by rw [List.getD_eq_getElem?_getD,hu]; rfl
  show RelV (us.getD i .non) (vs.getD i Value.none);rw [e1,e2]; exact ru
theorem ni {H:Hp}{us:List V}{rows:List (List V)} (r:Rows H us rows):∀ (l:List Nat),(∀ i∈l,i < us.length)->Rows H (l.map fun i=>us.getD i .non) (l.map fun i=>rows.getD i [])
 | [],_=>.nil
 | i :: l,h=>by
  refine .cons ?_ (ni r l fun j hj=>h j (List.mem_cons_of_mem _ hj));have hi:=h i List.mem_cons_self;have hl:us.length=rows.length:=Paired.length r
  have:∀ {us:List V}{rows:List (List V)},Rows H us rows->∀ i,i < us.length->∃ a,us.getD i .non=V.ref a/\H a=some (.tup (rows.getD i [])):=by
   intro us rows r
   induction r with
   | nil=>intro i hi; exact absurd hi (Nat.not_lt_zero _)
   | cons h t ih =>
    intro i hi;cases i with
    | zero=>exact h
    | succ i=>simpa using ih i (by simpa using hi)
  exact this r i hi
theorem g7 {p:Array Nat}{n:Nat} (hp:p.Perm (List.range n).toArray):∀ i∈p.toList,i < n:=fun i hi=>by
 have:=(hp.mem_iff (a:=i)).mp (by simpa using hi);simpa using this
theorem qe {pins:List (Addr×Obj)}{σ:St}{H:Hp}{s1:Shared}{us:List V}{vs:List Value}{p:Array Nat}{h':Heap}{Q:VK} (I:Inv X pins σ H s1) (r:aL us vs) (hl:us.length < 64) (hp:p.Perm (List.range vs.length).toArray)
  (k:Kp s1.heap h') (hn:∃ e,h'.get? s1.heap.objs.size=some (seqObj "list" (p.toList.map fun i=>vs.getD i Value.none).toArray e)) (q:∀ q,H q=none->Q (.ref q) (aw H q (.lst (p.toList.map fun i=>us.getD i .non)))) :
  EP X pins σ Q (.ref s1.heap.objs.size) { s1 with heap:=h' }:=by
 obtain ⟨e,hn⟩:=hn;have hlen:=r.length;have lt:∀ i∈p.toList,i < us.length:=fun i hi=>by rw [hlen]; exact g7 hp i hi
 have sz:(p.toList.map fun i=>us.getD i .non).length<=sizeLine:=by
  have:=hp.size_eq;simp at this;rw [List.length_map,Array.length_toList,this,sizeLine_eq]; omega
 exact ⟨.ref _,_,I.laid (t':=s1.toks) (o:=.lst (p.toList.map fun i=>us.getD i .non)) k (Nat.le_refl _) ⟨sz,_,e,m3 r _ lt,hn⟩,rfl,q _ (I.hok.fresh (Nat.le_refl _))⟩
theorem rj {pins:List (Addr×Obj)}{σ:St}{H:Hp}{s:Shared}{l:Addr}{us:List V}{A:Around}{E:Value->Shared->Prop}{R:List Value->Shared->Prop} (I:Inv X pins σ H s) (h:a9 X.K H l us) (q:∀ vs s1,aL us vs->Inv X pins σ H s1->R vs s1) :
  wpAny (model X.prog X.w) A (collect (.ref l)) R E s:=by
 obtain ⟨its,r,pl,hz⟩:=I.list h;refine collect_list pl.isList (q its _ r (I.kept (t':=s.toks) fun b o e=>?_)) (by rw [<- r.length]; exact hz);have hlt:b < s.heap.objs.size:=Heap.lt_size e;rw [Heap.get?_update_ne _ _ _ _ (Nat.ne_of_lt hlt)];exact Heap.get?_push_of_some _ e
theorem sR:bS X (.builtin "sorted") (fun xs H Q=>∃ l,xs=[.ref l]/\BI X.K l H Q):=by
 intro pins s σ H xs us0 Q I r h;obtain ⟨l,rfl,us,rows,pat,hl,R,h64,hp,q⟩:=h;obtain ⟨u,rfl,ru⟩:=dS r;cases ru;refine lI fun A' _=>rj I hl fun vs s1 rv I1=>?_;have hlen:=rv.length;have hrl:rows.length=us.length:=by have:=Paired.length R; rw [List.length_map] at this; exact this.symm
 refine ⟨by omega,_,_,rY R I1 rv hp,fun p pp up h' k hn=>qe I1 rv h64 pp k hn fun pq hq=>?_⟩;have lt:∀ i∈p.toList,i < us.length:=fun i hi=>by rw [hlen]; exact g7 pp i hi
 have hsz:p.size=vs.length:=by have:=pp.size_eq; simpa using this
 refine q _ (p.toList.map fun i=>rows.getD i []) ?_ (je us .non (by rw [hlen]; exact pp)) (je rows [] (by rw [hrl,hlen]; exact pp)) (jB (c:=fun i j=>c7 (rows.getD i []) (rows.getD j [])) hsz up fun i j h=>h) pq hq;have:=ni R p.toList lt;rw [List.map_map];have e:(p.toList.map fun i=>(rows.map fun r=>r.map kV).getD i [])=p.toList.map ((fun r=>r.map kV) ∘ fun i=>rows.getD i []):=by
  apply List.map_congr_left;intro i hi;have hi':i < rows.length:=by rw [hrl]; exact lt i hi
  simp [hi']
 rw [<- e]; exact this
theorem m5 {α:Type}{f:α->Int}:∀ {l:List α},(l.map f).Nodup->l.Pairwise (fun a b=>¬ f b < f a)->l.Pairwise (fun a b=>f a < f b)
 | [],_,_=>.nil
 | a :: l,hn,h=>by
  rw [List.map_cons,List.nodup_cons] at hn;rw [List.pairwise_cons] at h;refine List.pairwise_cons.mpr ⟨fun b hb=>?_,m5 hn.2 h.2⟩;have h1:=h.1 b hb;have h2:f a≠f b:=fun z=>hn.1 (z ▸ List.mem_map_of_mem hb);omega
end
theorem cc {α β:Type}{F:α->β->Prop}:∀ {xs:List α}{ys:List β},xs.length=ys.length->(∀ (j:Nat) x y,xs[j]? = some x->ys[j]? = some y->F x y)->Paired F xs ys
 | [],[],_,_=>.nil
 | [],_ :: _,h,_=>by simp at h
 | _ :: _,[],h,_=>by simp at h
 | x :: xs,y :: ys,h,k=>.cons (k 0 x y rfl rfl) (cc (by simpa using h) fun j a b h1 h2=>k (j+1) a b (by simpa using h1) (by simpa using h2))
theorem bn {α β:Type}{F:α->β->Prop}{xs:List α}{ys:List β} (p:Paired F xs ys):∀ {j:Nat}{x:α}{y:β},xs[j]? = some x->ys[j]? = some y->F x y:=by
 induction p with
 | nil=>intro j x y h; simp at h
 | cons h t ih =>
  intro j x y h1 h2;cases j with
  | zero=>simp at h1 h2; subst h1; subst h2; exact h
  | succ j=>exact ih (by simpa using h1) (by simpa using h2)
section
variable {X:Cx}
end
end L2
namespace L2
open PySem PySem.Spec PyProof.Rows
inductive TEq (K:Frag) (H:Hp):V->V->Bool->Prop where
 | scal {x y:V} (h:scal x y=true):TEq K H x y (decide (x=y))
 | lst {a b:Addr}{xs ys:List V}{n:Nat} (e:Nat->Bool) (ha:a9 K H a xs) (hb:a9 K H b ys) (hl:xs.length=ys.length) (hn:n<=8) (h:∀ j x y,xs[j]? = some x->ys[j]? = some y->DEq K H n x y (e j)):TEq K H (.ref a) (.ref b) ((List.range xs.length).all e)
 | lstN {a b:Addr}{xs ys:List V} (ha:a9 K H a xs) (hb:a9 K H b ys) (hl:xs.length≠ys.length):TEq K H (.ref a) (.ref b) false
 | tup {a b:Addr}{xs ys:List V}{n:Nat} (e:Nat->Bool) (ha:c8 K H a xs) (hb:c8 K H b ys) (hn:n<=8) (h:∀ j x y,xs[j]? = some x->ys[j]? = some y->DEq K H n x y (e j)):TEq K H (.ref a) (.ref b) ((List.range (min xs.length ys.length)).all e&&xs.length==ys.length)
section
variable {X:Cx}{pins:List (Addr×Obj)}{σ:St}{H:Hp}{s:Shared}
theorem iH {n:Nat}{xs ys:List V}{its its2:List Value}{e:Nat->Bool}{A:Around} (I:Inv X pins σ H s) (r1:aL xs its) (r2:aL ys its2) (hu:A.units+n < cLine) (h:∀ j x y,xs[j]? = some x->ys[j]? = some y->DEq X.K H n x y (e j)) :
  ∀ j (h1:j < its.toArray.size) (h2:j < its2.toArray.size),SeqAt.EqAt A s its.toArray[j] its2.toArray[j] (e j):=fun j h1 h2=>by
 have e1:=r1.length;have e2:=r2.length;have g1:its[j]? = some its[j]:=by simp at h1; simp [h1]
 have g2:its2[j]? = some its2[j]:=by simp at h2; simp [h2]
 simp at h1 h2;obtain ⟨u',hu',ru'⟩:=r1.get (List.getElem?_eq_getElem (show j < xs.length from by rw [e1]; exact h1));obtain ⟨v',hv',rv'⟩:=r2.get (List.getElem?_eq_getElem (show j < ys.length from by rw [e2]; exact h2));rw [g1] at hu'; cases hu';rw [g2] at hv'; cases hv';exact (h j _ _ (List.getElem?_eq_getElem _) (List.getElem?_eq_getElem _)).eqAt I ru' rv' hu
noncomputable def Dm (K:Frag):R2:=fun x y H Q=>∃ b,TEq K H x y b/\Q (.bl b) H
noncomputable def Dd (K:Frag):R2:=fun x y H Q=>∃ b,TEq K H x y b/\Q (.bl (!b)) H
theorem bX {k:Nat} (hr:Room k X.A):fz X (compareOp .Eq) (Dm X.K):=by
 intro pins s σ H x y v u Q I rx ry h;obtain ⟨b,t,q⟩:=h;have hu:=hr.units;cases t with
 | scal h=>exact CZ pins s σ H x y v u Q I rx ry ⟨h,q⟩
 | lst e ha hb hl hn h =>
  cases rx; cases ry;obtain ⟨its,r1,p1,_⟩:=I.list ha;obtain ⟨its2,r2,p2,_⟩:=I.list hb;have e1:=r1.length;have e2:=r2.length;refine SeqAt.eq_listAt (e:=e) p1.isList p2.isList (by simp; omega) (by omega) (iH I r1 r2 (by show X.A.units+1+_ < _; omega) h) (aR I q ?_);rw [e1]; simp
 | lstN ha hb hl =>
  cases rx; cases ry;obtain ⟨its,r1,p1,_⟩:=I.list ha;obtain ⟨its2,r2,p2,_⟩:=I.list hb;have e1:=r1.length;have e2:=r2.length;exact SeqAt.eq_list_lengthsAt p1.isList p2.isList (by simp; omega) (by omega) (aR I q rfl)
 | tup e ha hb hn h =>
  cases rx; cases ry;obtain ⟨its,r1,p1,_⟩:=I.tuple ha;obtain ⟨its2,r2,p2,_⟩:=I.tuple hb;have e1:=r1.length;have e2:=r2.length;refine SeqAt.eq_tupleAt (e:=e) p1 p2 (by omega) (iH I r1 r2 (by show X.A.units+1+_ < _; omega) h) (aR I q ?_);rw [e1,e2]; simp
theorem gc {k:Nat} (hr:Room k X.A):fz X (compareOp .NotEq) (Dd X.K):=by
 intro pins s σ H x y v u Q I rx ry h;obtain ⟨b,t,q⟩:=h;have hu:=hr.units;cases t with
 | scal h=>exact CU pins s σ H x y v u Q I rx ry ⟨h,q⟩
 | lst e ha hb hl hn h =>
  cases rx; cases ry;obtain ⟨its,r1,p1,_⟩:=I.list ha;obtain ⟨its2,r2,p2,_⟩:=I.list hb;have e1:=r1.length;have e2:=r2.length;refine PySem.EqBoolInt.of_rcne (SeqAt.RcNeAt.lists (e:=e) p1.isList p2.isList (by simp; omega) (by omega) (iH I r1 r2 (by show X.A.units+1+_ < _; omega) h)) (aR I q ?_);rw [e1]; simp
 | lstN ha hb hl =>
  cases rx; cases ry;obtain ⟨its,r1,p1,_⟩:=I.list ha;obtain ⟨its2,r2,p2,_⟩:=I.list hb;have e1:=r1.length;have e2:=r2.length;exact PySem.EqBoolInt.of_rcne (SeqAt.RcNeAt.lists_lengths p1.isList p2.isList (by simp; omega) (by omega)) (aR I q rfl)
 | tup e ha hb hn h =>
  cases rx; cases ry;obtain ⟨its,r1,p1,_⟩:=I.tuple ha;obtain ⟨its2,r2,p2,_⟩:=I.tuple hb;have e1:=r1.length;have e2:=r2.length;refine PySem.EqBoolInt.of_rcne (SeqAt.RcNeAt.tuples (e:=e) p1 p2 (by omega) (iH I r1 r2 (by show X.A.units+1+_ < _; omega) h)) (aR I q ?_);rw [e1,e2]; simp
inductive InV (K:Frag) (H:Hp):V->V->Bool->Prop where
 | dct {a:Addr}{y:V}{o:Option V} (g:dc H a y o):InV K H y (.ref a) o.isSome
 | lst {x:V}{a:Addr}{xs:List V}{n:Nat} (e:V->Bool) (ha:a9 K H a xs) (hn:n<=8) (h:∀ y∈xs,DEq K H n y x (e y)):InV K H x (.ref a) (xs.any e)
 | tup {x:V}{a:Addr}{xs:List V}{n:Nat} (e:V->Bool) (ha:c8 K H a xs) (hn:n<=8) (h:∀ y∈xs,DEq K H n y x (e y)):InV K H x (.ref a) (xs.any e)
theorem ku {xs:List V}{us:List Value} (e:V->Bool) (r:aL xs us):us.any (fun u=>(il u).any e)=xs.any e:=by
 unfold aL at r
 induction r with
 | nil=>rfl
 | cons h t ih=>rw [List.any_cons,List.any_cons,ih,h.abs]; rfl
theorem kf {xs:List V}{us:List Value} (r:aL xs us):∀ u∈us,∃ x∈xs,RelV x u:=by
 unfold aL at r
 induction r with
 | nil=>intro u hu; exact nomatch hu
 | cons h t ih =>
  intro u hu;rcases List.mem_cons.mp hu with z | z
  ·subst z; exact ⟨_,List.mem_cons_self,h⟩
  ·obtain ⟨x,hx,rx⟩:=ih u z
   exact ⟨x,List.mem_cons_of_mem _ hx,rx⟩
theorem i4 {k:Nat} (hr:Room k X.A):fz X (compareOp .In) (fun x y H Q=>∃ b,InV X.K H x y b/\Q (.bl b) H):=by
 intro pins s σ H x y v u Q I rx ry h;obtain ⟨b,t,q⟩:=h;have hu:=hr.units;cases t with
 | @dct a _ o g =>
  cases (show u=Value.ref a from ry);exact DX (by omega) I g rx fun s3 I3=>⟨.bl o.isSome,H,I3,rfl,q⟩
 | lst e ha hn h =>
  cases ry;obtain ⟨its,r,pl,hz⟩:=I.list ha;refine SeqAt.in_listAt (fun u=>(il u).any e) pl.isList (fun w hw=>?_) (aR I q ?_)
  ·obtain ⟨z,hz',rz⟩:=kf r w (by simpa using hw)
   rw [rz.abs];exact (h z hz').eqAt I rz rx (by show X.A.units+1+_ < _; omega)
  ·rw [show its.toArray.any (fun u=>(il u).any e)=its.any (fun u=>(il u).any e) by simp,ku e r]
 | tup e ha hn h =>
  cases ry;obtain ⟨its,r,pl,hz⟩:=I.tuple ha;refine SeqAt.in_tupleAt (fun u=>(il u).any e) pl (fun w hw=>?_) (aR I q ?_)
  ·obtain ⟨z,hz',rz⟩:=kf r w (by simpa using hw)
   rw [rz.abs];exact (h z hz').eqAt I rz rx (by show X.A.units+1+_ < _; omega)
  ·rw [show its.toArray.any (fun u=>(il u).any e)=its.any (fun u=>(il u).any e) by simp,ku e r]
theorem cp {k:Nat} (hr:Room k X.A):fz X (compareOp .NotIn) (fun x y H Q=>∃ b,InV X.K H x y b/\Q (.bl (!b)) H):=by
 intro pins s σ H x y v u Q I rx ry h;obtain ⟨b,t,q⟩:=h;have hu:=hr.units;cases t with
 | @dct a _ o g =>
  cases (show u=Value.ref a from ry);exact zG (by omega) I g rx fun s3 I3=>⟨.bl (!o.isSome),H,I3,rfl,q⟩
 | lst e ha hn h =>
  cases ry;obtain ⟨its,r,pl,hz⟩:=I.list ha;refine SeqAt.notIn_listAt (fun u=>(il u).any e) pl.isList (fun w hw=>?_) (aR I q ?_)
  ·obtain ⟨z,hz',rz⟩:=kf r w (by simpa using hw)
   rw [rz.abs];exact (h z hz').eqAt I rz rx (by show X.A.units+1+_ < _; omega)
  ·rw [show its.toArray.any (fun u=>(il u).any e)=its.any (fun u=>(il u).any e) by simp,ku e r]
 | tup e ha hn h =>
  cases ry;obtain ⟨its,r,pl,hz⟩:=I.tuple ha;refine SeqAt.notIn_tupleAt (fun u=>(il u).any e) pl (fun w hw=>?_) (aR I q ?_)
  ·obtain ⟨z,hz',rz⟩:=kf r w (by simpa using hw)
   rw [rz.abs];exact (h z hz').eqAt I rz rx (by show X.A.units+1+_ < _; omega)
  ·rw [show its.toArray.any (fun u=>(il u).any e)=its.any (fun u=>(il u).any e) by simp,ku e r]
end
inductive Dat where
 | non | bl (b:Bool) | int (i:Int) | str (x:Str) | tup (ds:List Dat) | lst (ds:List Dat)
inductive Deep (H:Hp):Nat->V->Dat->Prop where
 | non {n:Nat}:Deep H n .non .non
 | bl {n:Nat}{b:Bool}:Deep H n (.bl b) (.bl b)
 | int {n:Nat}{i:Int}:Deep H n (.int i) (.int i)
 | str {n:Nat}{x:Str}:Deep H n (.str x) (.str x)
 | tup {n:Nat}{a:Addr}{xs:List V}{ds:List Dat} (h:H a=some (.tup xs)) (hz:xs.length<=sizeLine) (hl:xs.length=ds.length) (k:∀ (j:Nat) x d,xs[j]? = some x->ds[j]? = some d->Deep H n x d):Deep H (n+1) (.ref a) (.tup ds)
 | lst {n:Nat}{a:Addr}{xs:List V}{ds:List Dat} (h:H a=some (.lst xs)) (hz:xs.length<=sizeLine) (hl:xs.length=ds.length) (k:∀ (j:Nat) x d,xs[j]? = some x->ds[j]? = some d->Deep H n x d):Deep H (n+1) (.ref a) (.lst ds)
theorem Deep.mono {H H':Hp}{n:Nat}{x:V}{d:Dat} (h:Deep H n x d) (s:aI H H'):Deep H' n x d:=by
 induction h with
 | non=>exact .non
 | bl=>exact .bl
 | int=>exact .int
 | str=>exact .str
 | tup h hz hl k ih=>exact .tup (s _ _ h) hz hl ih
 | lst h hz hl k ih=>exact .lst (s _ _ h) hz hl ih
theorem gX {α:Type}{f:α->Int}:∀ {xs ys:List α},xs.Perm ys->xs.Pairwise (fun a b=>f a < f b)->ys.Pairwise (fun a b=>f a < f b)->xs=ys
 | [],ys,p,_,_=>by have:=p.length_eq; cases ys with | nil=>rfl | cons _ _=>simp at this
 | x :: xs,[],p,_,_=>by have:=p.length_eq; simp at this
 | x :: xs,y :: ys,p,h1,h2=>by
  have hx:x∈y :: ys:=p.mem_iff.mp List.mem_cons_self;have hy:y∈x :: xs:=p.mem_iff.mpr List.mem_cons_self;rw [List.pairwise_cons] at h1 h2;have e:x=y:=by
   rcases List.mem_cons.mp hx with z | z
   ·exact z
   ·rcases List.mem_cons.mp hy with w | w
    ·exact w.symm
    ·have a:=h1.1 y w
     have b:=h2.1 x z;omega
  subst e;rw [gX ((List.perm_cons x).mp p) h1.2 h2.2]
noncomputable def AB:Nat->Sp
 | 0=>fun _ _ _ _=>False
 | n+1=>fun vs H Q _=>∃ x y d,vs=[x,y]/\Deep H n x d/\Deep H n y d/\∀ H',aI H H'->Q (.bl true) H'
structure MethAt (K:Frag) (C:Addr) (m qual:Str) (st:Stmt) (ps:List Str):Prop where
 ex:∃ f fd,Fun K m qual st f fd/\Meth K C m f/\∀ us:List Value,us.length=ps.length->bindArgs fd ⟨us,[]⟩=pure (ps.zip us)
structure OwnM (P:Program) (w:World) (K:Frag) (mg:Str->Option Value) (base:Heap) (C:Addr) (m:Str) (k:Nat) (ps:List Str) (sp:Sp):Prop where
 ex:∃ f fd,FnOk P w K mg base uw k f fd ps sp/\Meth K C m f/\∀ us:List Value,us.length=ps.length->bindArgs fd ⟨us,[]⟩=pure (ps.zip us)
theorem ba {K:Frag}{C:Addr}{x qual:Str}{st:Stmt}{ps:List Str}{f:Addr}{oc kV doc pm cdv ct:Value}{od an:Option Addr}{osl:Array (Option Value)}
  (a:PySem.W.findIn K (.ref C) x=some (some (.ref f)):=by k_is) (i:PySem.W.isFn K (.ref f)=true:=by k_is) (l:K.lookup f=some ⟨oc,od,.func (PySem.W.fnOf x qual (dh st) (bM st) (ao st) .none kV doc pm an cdv ct),osl⟩:=by k_is) (c:PySem.W.codeIn K cdv qual=true:=by k_is) (k:PySem.W.keepIn K (.ref f)=true:=by k_is)
  (hb:∀ (kV doc pm:Value) (an:Option Addr) (cdv ct:Value) (us:List Value),us.length=ps.length->bindArgs (PySem.W.fnOf x qual (dh st) (bM st) (ao st) .none kV doc pm an cdv ct) ⟨us,[]⟩=pure (ps.zip us):=by intro _ _ _ _ _ _ us hl; first | exact vZ (fun _=>rfl) us hl | exact vY (fun _ _=>rfl) us hl | exact vX (fun _ _ _=>rfl) us hl | exact vW (fun _ _ _ _=>rfl) us hl | exact bind0 rfl us hl):MethAt K C x qual st ps :=
 ⟨f,_,rP l c k,⟨a,i,k⟩,hb kV doc pm an cdv ct⟩
section
variable {P:Program}{w:World}{K:Frag}{mg:Str->Option Value}{base:Heap}{C:Addr}
theorem MethAt.own {x qual:Str}{st:Stmt}{N ps:List Str}{k:Nat}{sp:Sp} (D:MethAt K C x qual st ps) (S:FnScope N ps (ao st)) (len:∀ vs H Q E,sp vs H Q E->vs.length=ps.length)
  (hbody:∀ (f:Addr) (cdv:Value) (A:Around) (outer:List Env) (s:Shared) (H:Hp) (vs:List V) (Q:VK) (E:XK),Room k (A.deeper (envOfC qual (ao st) s.heap.objs.size f cdv))->sp vs H Q E ->
   ∃ t,gI (jO uw P w K mg base N qual (ao st) f cdv A outer s H E).nox (bM st) t/\t { nx:=fun _ H'=>Q .non H',rt:=Q } (start N vs) H):OwnM P w K mg base C x (k+1) ps sp:=by
 obtain ⟨f,fd,F,hm,hb⟩:=D.ex;exact ⟨f,fd,F.ok S len (hbody f),hm,hb⟩
end
noncomputable def Aa (C:Addr) (m:Str) (sp:Sp) (ta:TE) (t:TA):TE:=fun σ H Q=>ta σ H fun x H1=>∃ a dx fs,x=.ref a/\H1 a=some (.ins C dx fs)/\fs.lookup m=none/\t σ H1 fun vs H2=>sp (x :: vs) H2 Q E0
noncomputable def vS (C:Addr) (sp:Sp) (t:TA):TE:=fun σ H Q=>t σ H fun vs H1=>∀ x dx,H1 x=none->H1 dx=none->dx≠x ->
 sp (.ref x :: vs) (aw (aw H1 dx (.own x)) x (.ins C dx [])) (fun v H2=>v=.non/\Q (.ref x) H2) E0
section
variable {X:Cx}
theorem eF {C:Addr}{m:Str}{j k:Nat}{ps:List Str}{sp:Sp}{o e:Expr}{es:List Expr}{ta:TE}{t:TA}{apos pos:Pos}{pl:Sem Bool} (he:PE X o ta) (c:Cls X.K C) (O:OwnM X.prog X.w X.K X.mg X.base C m j ps sp) (hr:Room k X.A) (ha:PA X (e :: es) t) (hj:j<=k:=by first | decide | omega)
  (hst:starEach (e :: es) X.env=(false,eval e X.env) :: starEach es X.env:=by rfl) (hpl:(backTo pos (starEach es X.env)).any (·.1)=false:=by rfl)
  (ht:eval (.Call (.Attribute o m apos) (e :: es) [] pos) X.env=(do
   let ov <- eval o X.env
   standAt apos.atName
   let (f,first) <- holding [ov] (getMethod ov m pl)
   callWith pos f first (backTo pos (starEach (e :: es) X.env)) (backToKw pos (keywordEach [] X.env))):=by rfl) :
  PE X (.Call (.Attribute o m apos) (e :: es) [] pos) (Aa C m sp ta t):=by
 obtain ⟨f,fd,F,hm,hb⟩:=O.ex;refine (t8 (dvs:=[]) (E:=E0) he c hm F (hr.mono hj) (fc.all hb) .nil s_ ha hst hpl ht).imp fun σ H Q h=>?_;unfold pV;unfold Aa at h;simpa only [List.append_nil] using h
theorem yY {C f:Addr}{fd:FuncData}{x:Str}{j k:Nat}{ps:List Str}{sp:Sp}{e:Expr}{es:List Expr}{t:TA}{p pos:Pos} (M:Mk X.K C f) (F:FnOk X.prog X.w X.K X.mg X.base uw j f fd ps sp) (hm:X.mg x=some (.ref C)) (hb:∀ us:List Value,us.length=ps.length->bindArgs fd ⟨us,[]⟩=pure (ps.zip us))
  (hr:Room k X.A) (hg:Gl X x) (ha:PA X (e :: es) t) (hj:j+1<=k:=by first | decide | omega) (hdb:(x==("__debug__":Str))=false:=by decide) (he:starEach (e :: es) X.env=(false,eval e X.env) :: starEach es X.env:=by rfl) (hpl:(backTo pos (starEach es X.env)).any (·.1)=false:=by rfl) :
  PE X (.Call (.Name x p) (e :: es) [] pos) (vS C sp t):=by
 refine (yZ (dvs:=[]) (E:=E0) M F (hr.mono hj) hg hm (fc.all hb) .nil s_ ha hdb he hpl).imp fun σ H Q h=>?_;unfold Ac;unfold vS at h;simpa only [List.append_nil] using h
end
section
variable {β:Type}
noncomputable def aD (l:List (Int×β)) (k:Int) (v:β):List (Int×β):=if (l.any fun p=>decide (p.1=k))=true then l.map (fun p=>if p.1=k then (p.1,v) else p) else l++[(k,v)]
theorem bT (l:List (Int×β)) (k:Int) (v:β):(aD l k v).length<=l.length+1:=by
 unfold aD;split
 ·rw [List.length_map]; omega
 ·rw [List.length_append,List.length_cons,List.length_nil]; omega
theorem nj (l:List (Int×β)) (k:Int) (v:β):(aD l k v).map (·.1)=if k∈l.map (·.1) then l.map (·.1) else l.map (·.1)++[k]:=by
 unfold aD
 by_cases h:(l.any fun p=>decide (p.1=k))=true
 ·rw [if_pos h,if_pos (by
   obtain ⟨p,hp,e⟩:=List.any_eq_true.mp h;exact List.mem_map.mpr ⟨p,hp,of_decide_eq_true e⟩),List.map_map]
  apply List.map_congr_left;intro p _;show (if p.1=k then (p.1,v) else p).1=p.1;split<;>rfl
 ·rw [if_neg h,if_neg (fun z=>h (by
   obtain ⟨p,hp,e⟩:=List.mem_map.mp z;exact List.any_eq_true.mpr ⟨p,hp,decide_eq_true e⟩)),List.map_append]
  rfl
theorem fg {l:List (Int×β)} (k:Int) (v:β) (h:(l.map (·.1)).Nodup):((aD l k v).map (·.1)).Nodup:=by
 rw [nj];split
 ·exact h
 ·exact ke h ‹_›
end
noncomputable def vV (outer names:List (Str×NameKind)) (N:List Str) (fr:List Nat):Bool :=
 (fr.all fun j=>match N[j]? with | some x=>(outer.lookup x==some .cell || outer.lookup x==some .free)&&names.lookup x==some .free | none=>false) &&
 names.all fun p=>p.2 != .free || (outer.lookup p.1==some .cell || outer.lookup p.1==some .free)
theorem zI {X:Cx}{scope:Scope}{fr:List Nat} (h:vV X.env.scope.names scope.names X.N fr=true):Caps X scope fr:=by
 unfold vV at h;rw [Bool.and_eq_true] at h;obtain ⟨h1,h2⟩:=h;refine ⟨fun j hj=>?_,fun x hx=>?_⟩
 ·have:=List.all_eq_true.mp h1 j hj
  cases e:X.N[j]? with
  | none=>rw [e] at this; cases this
  | some x =>
   rw [e] at this;simp only [Bool.and_eq_true,Bool.or_eq_true,beq_iff_eq] at this;exact ⟨x,rfl,this.1,this.2⟩
 ·have:=List.all_eq_true.mp h2 (x,.free) hx
  simpa using this
noncomputable def AG (scope:Scope):Bool:=scope.kind==.function&&(scope.names.all fun p=>p.2 != .cell)&&scope.names.all fun p=>p.2 != .local || scope.names.lookup p.1==some .local
theorem BP {scope:Scope} (h:AG scope=true):CScope scope:=by
 unfold AG at h;simp only [Bool.and_eq_true,beq_iff_eq,List.all_eq_true] at h;obtain ⟨⟨h1,h2⟩,h3⟩:=h;refine ⟨h1,fun x hx=>?_,fun x hx e=>?_⟩
 ·have:=h2 x hx; simpa using this
 ·have:=h3 x hx
  simp only [Bool.or_eq_true,beq_iff_eq,bne_iff_ne] at this;rcases this with z | z
  ·exact absurd e z
  ·exact z
noncomputable def Dc:List Str->Bool
 | []=>true
 | x :: r=>!r.contains x&&Dc r
theorem An:∀ {l:List Str},Dc l=true->l.Nodup
 | [],_=>.nil
 | x :: r,h=>by
  unfold Dc at h;rw [Bool.and_eq_true] at h;refine List.nodup_cons.mpr ⟨fun z=>?_,An h.2⟩;have:=h.1;simp [z] at this
theorem dB {X:Cx}{scope:Scope}{tgs:List Str}{fr:List Nat}{tg elt:Expr}{ifs:List Expr}{g:TG}{tt:zU}{te:TE} (tgt:∀ C s₀ H₀ fp,PG (cx X scope C (mR X tgs fr) s₀ H₀ fp) tg g)
  (ift:∀ C s₀ H₀ fp,Cv (cx X scope C (mR X tgs fr) s₀ H₀ fp) ifs tt) (el:∀ C s₀ H₀ fp,PE (cx X scope C (mR X tgs fr) s₀ H₀ fp) elt te)
  (h1:AG scope=true:=by rfl) (h2:vV X.env.scope.names scope.names X.N fr=true:=by rfl) (hc:X.calm=true:=by rfl):Block X scope tgs fr tg elt ifs g tt te :=
 ⟨BP h1,zI h2,hc,tgt,ift,el⟩
theorem du {X:Cx} (i:Nat) {x:Str}{pos:Pos} (hN:Dc X.N=true:=by rfl) (hi:X.N[i]? = some x:=by rfl) (hx:yp X.env.scope x:=by first | exact Or.inl rfl | exact Or.inr rfl)
  (hf:X.fn x=true\/X.env.scope.names.lookup x=some .local:=by first | exact .inr rfl | exact .inl rfl | assumption):PG X (.Name x pos) (kF i):=tZ (An hN) hi hx hf
noncomputable def pX (n i:Nat) (Pv:Nat->List V->Hp->Prop) (ys:List V) (H:Hp):Prop:=∃ m',m' < n - i/\m'=n - (i+1)/\i+1<=n/\Pv (i+1) ys H
theorem fY {n i:Nat}{Pv:Nat->List V->Hp->Prop}{ys:List V}{H:Hp} (hi:i < n) (p:Pv (i+1) ys H):pX n i Pv ys H:=⟨n - (i+1),by omega,rfl,hi,p⟩
theorem eP {K:Frag}{a D:Addr}{xs:List V}{k:Nat}{fr:List Nat}{g:TG}{tt:zU}{te:TE}{σ:St}{H:Hp}{R:Hp->Prop} (Pv:Nat->List V->Hp->Prop) (h0:Pv 0 [] (aw H D (.lst []))) (hl:∀ i ys H,i<=xs.length->Pv i ys H->a9 K H a xs)
  (hs:∀ i x ys H,xs[i]? = some x->i < xs.length->Pv i ys H->g x (jZ k fr σ) H fun σ2 H2=>Wk (jZ k fr σ) σ2/\rq tt σ2 H2 fun c H3 =>
   if c=true then te σ2 H3 fun v H4=>H4 D=some (.lst ys)/\ys.length < sizeLine/\pX xs.length i Pv (ys++[v]) (aw H4 D (.lst (ys++[v]))) else pX xs.length i Pv ys H3)
  (hd:∀ ys H,Pv xs.length ys H->R H) :
  ∃ W:Nat->Nat->List V->Hp->Prop,(∃ m,W 0 m [] (aw H D (.lst [])))/\∀ i m ys H,W i m ys H->((zV K a).stop i H/\R H)\/((zV K a).go i H/\∀ x H',(zV K a).yld i H x H'->g x (jZ k fr σ) H' fun σ2 H2=>Wk (jZ k fr σ) σ2/\rq tt σ2 H2 fun c H3 =>
   if c=true then te σ2 H3 fun v H4=>H4 D=some (.lst ys)/\ys.length < sizeLine/\∃ m',m' < m/\W (i+1) m' (ys++[v]) (aw H4 D (.lst (ys++[v]))) else ∃ m',m' < m/\W (i+1) m' ys H3):=by
 refine ⟨fun i m ys H=>m=xs.length - i/\i<=xs.length/\Pv i ys H,⟨xs.length,by simp,Nat.zero_le _,h0⟩,?_⟩;rintro i m ys H ⟨rfl,hi,p⟩;have q:=hl i ys H hi p
 by_cases hlt:i < xs.length
 ·refine .inr ⟨⟨xs,xs[i],q,by simp [hlt]⟩,fun x H' y=>?_⟩
  obtain ⟨e,y⟩:=y;subst e;exact hs i x ys _ (y xs q) hlt p
 ·have e:i=xs.length:=by omega
  subst e;exact .inl ⟨⟨xs,q,Nat.le_refl _⟩,hd ys H p⟩
theorem g_ {lo:Int}{n:Nat}{D:Addr}{k:Nat}{fr:List Nat}{g:TG}{tt:zU}{te:TE}{σ:St}{H:Hp}{R:Hp->Prop} (Pv:Nat->List V->Hp->Prop) (h0:Pv 0 [] (aw H D (.lst [])))
  (hs:∀ i ys H,i < n->Pv i ys H->g (.int (lo+i)) (jZ k fr σ) H fun σ2 H2=>Wk (jZ k fr σ) σ2/\rq tt σ2 H2 fun c H3 =>
   if c=true then te σ2 H3 fun v H4=>H4 D=some (.lst ys)/\ys.length < sizeLine/\pX n i Pv (ys++[v]) (aw H4 D (.lst (ys++[v]))) else pX n i Pv ys H3)
  (hd:∀ ys H,Pv n ys H->R H) :
  ∃ W:Nat->Nat->List V->Hp->Prop,(∃ m,W 0 m [] (aw H D (.lst [])))/\∀ i m ys H,W i m ys H->((yq lo n).stop i H/\R H)\/((yq lo n).go i H/\∀ x H',(yq lo n).yld i H x H'->g x (jZ k fr σ) H' fun σ2 H2=>Wk (jZ k fr σ) σ2/\rq tt σ2 H2 fun c H3 =>
   if c=true then te σ2 H3 fun v H4=>H4 D=some (.lst ys)/\ys.length < sizeLine/\∃ m',m' < m/\W (i+1) m' (ys++[v]) (aw H4 D (.lst (ys++[v]))) else ∃ m',m' < m/\W (i+1) m' ys H3):=by
 refine ⟨fun i m ys H=>m=n - i/\i<=n/\Pv i ys H,⟨n,by simp,Nat.zero_le _,h0⟩,?_⟩;rintro i m ys H ⟨rfl,hi,p⟩
 by_cases hlt:i < n
 ·refine .inr ⟨hlt,fun x H' y=>?_⟩
  obtain ⟨e,y⟩:=y;subst e y;exact hs i ys _ hlt p
 ·have e:i=n:=by omega
  subst e;exact .inl ⟨Nat.le_refl _,hd ys H p⟩
theorem vJ {α:Type} (x:α) (xs:List α):mr (x :: xs) 0=some x:=cN (xs:=x :: xs) (j:=0) rfl
theorem ym {α:Type} (x y:α) (xs:List α):mr (x :: y :: xs) 1=some y:=cN (xs:=x :: y :: xs) (j:=1) rfl
theorem Do {α:Type} (x y z:α) (xs:List α):mr (x :: y :: z :: xs) 2=some z:=cN (xs:=x :: y :: z :: xs) (j:=2) rfl
theorem Ek {α:Type} (x y z u:α) (xs:List α):mr (x :: y :: z :: u :: xs) 3=some u:=cN (xs:=x :: y :: z :: u :: xs) (j:=3) rfl
section
variable {X:Cx}{pins:List (Addr×Obj)}{σ:St}{H:Hp}{s:Shared}
theorem Inv.relab {d:Addr}{u u':HO} (I:Inv X pins σ H s) (hd:H d=some u) (nt:∀ xs,u≠.tup xs) (no:∀ y,u≠.own y) (nb:∀ ps,u≠.tbl ps) (nf:∀ o v,X.H₀ d≠some (.frz o v)) (hx:a6 X.prog X.w H s.heap d u'):Inv X pins σ (aw H d u') s:=by
 have ne:∀ b,H b=none->b≠d:=fun b e z=>by rw [z,hd] at e; cases e
 have st:∀ a v,a6 X.prog X.w H s.heap a v->a6 X.prog X.w (aw H d u') s.heap a v:=fun a v x=>x.stay (fun _ _ _ q=>q)
  (fun b q=>by rw [ad (fun z=>by rw [z,hd] at q; cases q; exact no _ rfl)]; exact q)
  (fun b xs q=>by rw [ad (fun z=>by rw [z,hd] at q; cases q; exact nt _ rfl)]; exact q)
 refine ⟨I.ok,I.os,I.bare,⟨I.base.keep,I.base.slot,fun b o e n hx=>?_,I.base.there,fun b xs e=>?_,fun b o v e=>?_,fun b ps e=>?_⟩,I.loc,I.cell,?_,fun x c e=>?_,fun p hp=>?_,fun a v e=>?_,I.len⟩
 ·have:=I.base.free b o e n hx
  rw [ad (ne b this)]; exact this
 ·have:=I.base.tups b xs e
  rw [ad (fun z=>by rw [z,hd] at this; cases this; exact nt _ rfl)]; exact this
 ·have:=I.base.frzs b o v e
  rw [ad (fun z=>nf o v (by rw [<- z]; exact e))]; exact this
 ·obtain ⟨more,this⟩:=I.base.tbls b ps e
  exact ⟨more,by rw [ad (fun z=>by rw [z,hd] at this; cases this; exact nb _ rfl)]; exact this⟩
 ·rw [ad (ne _ I.free)]; exact I.free
 ·rw [ad (ne _ (I.freeC x c e))]; exact I.freeC x c e
 ·obtain ⟨h1,h2,h3⟩:=I.pin p hp
  exact ⟨h1,by rw [ad (ne _ h2)]; exact h2,h3⟩
 ·by_cases z:a=d
  ·subst z; rw [upd_same] at e; cases e; exact st _ _ hx
  ·rw [ad z] at e; exact st a v (I.hok a v e)
theorem Inv.track {t:Addr}{o:HO} (I:Inv X pins σ H s) (h0:X.s₀.heap.objs.size<=t) (hL:t≠X.env.locals) (hc:∀ x c,X.env.cells.lookup x=some c->c≠t) (hp:∀ p∈X.pn++pins,p.1≠t) (hn:H t=none) (new:a6 X.prog X.w (aw H t o) s.heap t o):Inv X pins σ (aw H t o) s:=by
 have ne:∀ b u,H b=some u->b≠t:=fun b u e z=>by rw [z,hn] at e; cases e
 refine ⟨I.ok,I.os,I.bare,⟨I.base.keep,I.base.slot,fun b o e n hx=>?_,I.base.there,fun b xs e=>?_,fun b o v e=>?_,fun b ps e=>?_⟩,I.loc,I.cell,?_,fun x c e=>?_,fun p hp'=>?_,fun a v e=>?_,I.len⟩
 ·rw [ad (fun z=>absurd (Heap.lt_size e) (Nat.not_lt.mpr (by rw [z]; exact h0)))]; exact I.base.free b o e n hx
 ·have:=I.base.tups b xs e
  rw [ad (ne _ _ this)]; exact this
 ·have:=I.base.frzs b o v e
  rw [ad (ne _ _ this)]; exact this
 ·obtain ⟨more,this⟩:=I.base.tbls b ps e
  exact ⟨more,by rw [ad (ne _ _ this)]; exact this⟩
 ·rw [ad (Ne.symm hL)]; exact I.free
 ·rw [ad (hc x c e)]; exact I.freeC x c e
 ·obtain ⟨h1,h2,h3⟩:=I.pin p hp'
  exact ⟨h1,by rw [ad (hp p hp')]; exact h2,h3⟩
 ·by_cases z:a=t
  ·subst z; rw [upd_same] at e; cases e; exact new
  ·rw [ad z] at e
   exact (I.hok a v e).stay (fun _ _ _ q=>q) (fun b q=>by rw [ad (ne _ _ q)]; exact q) fun b xs q=>by rw [ad (ne _ _ q)]; exact q
noncomputable def CD (D:Ends) (d:Addr) (o:Obj) (kvs:List (a5×V)):Ends where
 nx:=fun σ H=>H d=some (.frz o (.dK kvs))/\D.nx σ (aw H d (.dK kvs))
 rt:=fun v H=>H d=some (.frz o (.dK kvs))/\D.rt v (aw H d (.dK kvs))
 bk:=fun σ H=>H d=some (.frz o (.dK kvs))/\D.bk σ (aw H d (.dK kvs))
 ct:=fun σ H=>H d=some (.frz o (.dK kvs))/\D.ct σ (aw H d (.dK kvs))
noncomputable def DB (t:TS):TS:=fun D σ H=>∃ d kvs,H d=some (.dK kvs)/\∀ o,t (CD D d o kvs) σ (aw H d (.frz o (.dK kvs)))
theorem Be {st:Stmt}{t:TS} (h:PS X st t):PS X st (DB t):=by
 intro pins s σ H D I hw;obtain ⟨d,kvs,hd,k⟩:=hw;have nf:∀ o v,X.H₀ d≠some (.frz o v):=fun o v e=>by
  have:=I.base.frzs d o v e;rw [hd] at this; cases this
 have x:=I.hok d _ hd;obtain ⟨z,y,vs,r,ob,es,ep,e,c⟩:=id x;have I1:=I.relab hd (fun _ z=>nomatch z) (fun _ z=>nomatch z) (fun _ z=>nomatch z) nf (u':=.frz ob (.dK kvs)) ⟨e,x⟩;have th:∀ {σ':St}{H':Hp}{s':Shared},Inv X pins σ' H' s'->H' d=some (.frz ob (.dK kvs))->Inv X pins σ' (aw H' d (.dK kvs)) s':=fun {σ' H' s'} I' e' =>
  I'.relab e' (fun _ z=>nomatch z) (fun _ z=>nomatch z) (fun _ z=>nomatch z) nf (show a6 _ _ _ _ _ _ from (I'.hok d _ e').2)
 refine bE (h pins s σ _ _ I1 (k ob)) fun f s1 q=>?_;cases f with
 | next=>obtain ⟨σ',H',I',e',q'⟩:=q; exact ⟨σ',_,th I' e',q'⟩
 | brk=>obtain ⟨σ',H',I',e',q'⟩:=q; exact ⟨σ',_,th I' e',q'⟩
 | cont=>obtain ⟨σ',H',I',e',q'⟩:=q; exact ⟨σ',_,th I' e',q'⟩
 | ret u=>obtain ⟨v,σ',H',I',rv,e',q'⟩:=q; exact ⟨v,σ',_,th I' e',rv,q'⟩
noncomputable def BX (d:Addr) (o:Obj) (kvs:List (a5×V)):It :=
 ⟨fun i H=>H d=some (.frz o (.dK kvs))/\i < kvs.length,fun i H x H'=>∃ k v t,kvs[i]? = some (k,v)/\H t=none/\x=.ref t/\H'=aw H t (.tup [kV k,v]),fun i H=>H d=some (.frz o (.dK kvs))/\kvs.length<=i⟩
theorem Ao {k:a5}{key:Value} (h:io k key=true):RelV (kV k) key:=by
 rcases bv h with ⟨i,t,rfl,rfl⟩ | ⟨x,t,rfl,rfl⟩
 ·exact ⟨t,rfl⟩
 ·exact ⟨t,rfl⟩
theorem oj {P:Program}{w:World}{H:Hp}{h:Heap}{d:Addr}{o:Obj}{kvs:List (a5×V)}{es:Array DictEntry}{ep:Nat} (ok:gb P w H h) (e:H d=some (.frz o (.dK kvs))) (ho:o.data=.dict es ep):∃ vs,KV kvs vs/\h.DictAt (aX P w) d vs ep:=by
 obtain ⟨e1,_,_,vs,r,o',es',ep',e2,c2,d2,rest⟩:=(show a6 P w H h d (.frz o (.dK kvs)) from ok d _ e);rw [e1] at e2; cases e2;rw [ho] at d2; cases d2;exact ⟨vs,r,o,es,e1,c2,ho,rest⟩
theorem lD {P:Program}{w:World}{K:Frag}{elts:List Expr}{kk:Nat}{pos:Pos} (d it:Addr) (o:Obj) (kvs:List (a5×V)) {es:Array DictEntry}{ep:Nat} (ho:o.data=.dict es ep) :
  Turn P w K (.Tuple elts kk pos) (BX d o kvs) [it] it (fun i h=>∃ ok ov,IsItemIter h it d i kvs.length ep ok ov) where
 mem:=by simp
 obj:=fun i h st b hb=>by
  have e:b=it:=by simpa using hb
  subst e;obtain ⟨ok,ov,e⟩:=st;exact ⟨_,e,fun v z=>by cases z⟩
 keep:=fun i h h' st k=>by
  obtain ⟨ok,ov,e⟩:=st;exact ⟨ok,ov,k it (by simp) _ e⟩
 item:=by
  intro X hP hw hK hc i pins s σ H E I hf st hg;subst hP hw hK;obtain ⟨hd,hi⟩:=hg;obtain ⟨ok,ov,he⟩:=st;obtain ⟨f0,f1,f2,f3,f4,f5⟩:=hf it (by simp);obtain ⟨vs,r,hm⟩:=oj I.hok hd ho;have hl:kvs.length=vs.length:=Paired.length r;have hit:it≠s.heap.objs.size:=Nat.ne_of_lt (Heap.lt_size he);obtain ⟨g1,g2,g3,g4,g5,g6⟩:=I.fpOk (Nat.le_refl s.heap.objs.size) (I.hok.fresh (Nat.le_refl _));obtain ⟨⟨k,v⟩,hkv⟩:∃ p,kvs[i]? = some p:=⟨_,List.getElem?_eq_getElem hi⟩;obtain ⟨⟨k',x⟩,hx⟩:∃ p,vs[i]? = some p:=⟨_,List.getElem?_eq_getElem (hl ▸ hi)⟩;obtain ⟨ek,rv⟩:=bn (show Paired _ _ _ from r) hkv hx;have ek:k=k':=ek;subst ek;rw [hl] at he;refine wpAny_pyNext_items_item he hm hx fun key h' hkey hout hT hsz hk=>?_;refine ⟨_,rfl,wpAny_letOwnedTupleGo_items hout fun h2 he2 hs2=>?_⟩;have hT2:h2.get? s.heap.objs.size=some { cls:=.type "tuple",data:=.seq #[key,x] }:=hs2.extBut _ _ (Ne.symm hit) hT;have I1:Inv X pins σ H { s with heap:=h2,toks:=s.toks }:=I.turned (t':=s.toks) (fun b o hb e=>hs2.extBut b o hb (hk b o hb e)) f0 f1 f3 f4 f5;have g4':X.s₀.heap.objs.size<=s.heap.objs.size:=I.sz;have I2:=I1.track (t:=s.heap.objs.size) (o:=.tup [kV k,v]) g4' g2 g5 g6 g1 ⟨by show 2<=sizeLine; decide,[key,x],.cons (Ao hkey) (.cons rv .nil),⟨_,hT2,rfl,_,rfl⟩⟩;refine ⟨.ref s.heap.objs.size,_,I2,rfl,⟨k,v,_,hkv,g1,rfl,rfl⟩,⟨key,x,by rw [hl]; exact he2⟩,fun b hb=>?_⟩;have e:b=it:=by simpa using hb
  subst e;rw [ad hit]; exact f0
 done:=by
  intro X hP hw hK hc i pins s σ H E I hf st hg;subst hP hw hK;obtain ⟨hd,hi⟩:=hg;obtain ⟨ok,ov,he⟩:=st;obtain ⟨f0,f1,f2,f3,f4,f5⟩:=hf it (by simp);obtain ⟨vs,r,hm⟩:=oj I.hok hd ho;have hl:kvs.length=vs.length:=Paired.length r;rw [hl] at he;exact wpAny_pyNext_items_end (I.ok.hd hc) he hm (List.getElem?_eq_none_iff.mpr (by omega)) fun h' eb=>⟨rfl,I.turned (t':=s.toks) (fun b o hb e=>eb b o hb e) f0 f1 f3 f4 f5⟩
 self:=fun _ _ _ _ _ st h=>by
  obtain ⟨ok,ov,he⟩:=st;exact PySem.W.kcp_self he h
noncomputable def BE (tl:TE):TI:=fun σ H R=>tl σ H fun x H1=>∃ l d o kvs,x=.ref l/\H1 l=some (rn l d)/\H1 d=some (.frz o (.dK kvs))/\R (BX d o kvs) H1
theorem xn {l:Expr}{tl:TE}{elts:List Expr}{kk:Nat}{pos:Pos} (hl:PE X l tl):PI X (.Tuple elts kk pos) l (BE tl):=by
 intro pins s σ H R I h;refine bE (hl pins s σ H _ I h) fun v s1 ⟨x,H1,I1,r1,q1⟩=>?_;obtain ⟨l,d,o,kvs,e,hv,hd,q⟩:=q1;subst e;cases r1;obtain ⟨iv,_,_⟩:=(show a6 X.prog X.w H1 s1.heap l (rn l d) from I1.hok l _ hv);obtain ⟨es,ep,ho⟩:∃ es ep,o.data=.dict es ep:=by
  obtain ⟨e1,_,_,vs,r,o',es',ep',e2,c2,d2,rest⟩:=(show a6 X.prog X.w H1 s1.heap d (.frz o (.dK kvs)) from I1.hok d _ hd);rw [e1] at e2; cases e2;exact ⟨_,_,d2⟩
 obtain ⟨vs,r,hm⟩:=oj I1.hok hd ho;have hlen:kvs.length=vs.length:=Paired.length r;refine wpAny_pyIter_items iv hm ?_;refine ⟨s1.heap.objs.size,[s1.heap.objs.size],_,_,H1,rfl,I1.kept (t':=s1.toks) fun b o e=>Heap.get?_push_of_some _ e,lD d _ o kvs ho,⟨.none,.none,by rw [hlen]; exact Heap.get?_push_size _ rfl⟩,fun b hb=>?_,q⟩;have e:b=s1.heap.objs.size:=by simpa using hb
 subst e;exact I1.fpOk (Nat.le_refl _) (I1.hok.fresh (Nat.le_refl _))
noncomputable def AQ (to:TE):TE:=fun σ H Q=>to σ H fun x H1=>∃ d kvs,x=.ref d/\Rd H1 d (.dK kvs)/\∀ v,H1 v=none->Q (.ref v) (aw H1 v (rn v d))
theorem xp {o:Expr}{to:TE}{apos cpos:Pos} (ho:PE X o to) (hbase:attributeBase o "items" X.env (eval o X.env)=eval o X.env:=by rfl) (hline:(apos.endLine==cpos.line)=true:=by rfl):PE X (.Call (.Attribute o "items" apos) [] [] cpos) (AQ to):=by
 intro pins s σ H Q I h;refine wpAny_Call_method0_late hbase hline (bE (ho pins s σ H _ I h) fun v s1 ⟨x,H1,I1,r1,d,kvs,e,hd,q⟩=>?_);subst e;cases r1;obtain ⟨z,hm,vs,rel,dd⟩:=dX I1.hok hd;obtain ⟨ob,_,_,e1,ex,_⟩:=id dd;exact ⟨"dict","dict.items",PySem.F.plainAttrs_dict,PySem.F.slot_dict_items,PySem.F.type_dict_items,dd.typeIs,fun a e2=>by cases e2; exact ⟨ob,e1,ex.2.1⟩,
  Calls.callWith_builtin rfl (PySem.evalArgs_none (qy pins s1 σ H1 (.ref d) [] (.ref d) [] Q I1 rfl .nil ⟨d,kvs,rfl,rfl,hd,q⟩))⟩
theorem nH {d:Addr}{o:Obj}{kvs:List (a5×V)}{g:TG}{tb:TS}{D:Ends}{σ:St}{H:Hp} (Pv:Nat->St->Hp->Prop) (h0:Pv 0 σ H) (hl:∀ i σ H,i<=kvs.length->Pv i σ H->H d=some (.frz o (.dK kvs)))
  (hs:∀ i k v t σ H,kvs[i]? = some (k,v)->H t=none->Pv i σ H->g (.ref t) σ (aw H t (.tup [kV k,v])) fun σ2 H2=>tb { D with nx:=Pv (i+1),ct:=Pv (i+1),bk:=D.nx } σ2 H2) (hd:∀ σ H,Pv kvs.length σ H->D.nx σ H) :
  ∃ W:Nat->Nat->St->Hp->Prop,(∃ m,W 0 m σ H)/\∀ i m σ H,W i m σ H ->
   ((BX d o kvs).stop i H/\D.nx σ H)\/((BX d o kvs).go i H/\∃ N:St->Hp->Prop,(∀ σ' H',N σ' H'->∃ m',m' < m/\W (i+1) m' σ' H')/\∀ x H',(BX d o kvs).yld i H x H'->g x σ H' fun σ2 H2=>tb { D with nx:=N,ct:=N,bk:=D.nx } σ2 H2):=by
 refine ⟨fun i m σ H=>m=kvs.length - i/\i<=kvs.length/\Pv i σ H,⟨kvs.length,by simp,Nat.zero_le _,h0⟩,?_⟩;rintro i m σ H ⟨rfl,hi,p⟩
 by_cases z:i < kvs.length
 ·refine .inr ⟨⟨hl i σ H hi p,z⟩,Pv (i+1),fun σ' H' p'=>⟨kvs.length - (i+1),by omega,rfl,z,p'⟩,fun x H' y=>?_⟩
  obtain ⟨k,v,t,h1,h2,rfl,rfl⟩:=y;exact hs i k v t σ H h1 h2 p
 ·have e:i=kvs.length:=by omega
  subst e;exact .inl ⟨⟨hl _ σ H hi p,Nat.le_refl _⟩,hd σ H p⟩
inductive LOf (K:Frag) (H:Hp) (p:Addr):List V->Prop where
 | lst {ys:List V} (h:a9 K H p ys):LOf K H p ys
 | tup {ys:List V} (h:c8 K H p ys):LOf K H p ys
 | key {kvs:List (a5×V)} (h:Rd H p (.dK kvs)):LOf K H p (kvs.map fun q=>kV q.1)
theorem hU (hc:X.calm=true:=by rfl):bS X (.type "list") (fun xs H Q=>∃ p ys,xs=[.ref p]/\LOf X.K H p ys/\∀ l,H l=none->Q (.ref l) (aw H l (.lst ys))):=by
 intro pins s σ H xs us Q I r h;obtain ⟨p,ys,rfl,lo,q⟩:=h;cases lo with
 | lst z=>exact iT pins s σ H _ us Q I r ⟨p,ys,rfl,.inl z,q⟩
 | tup z=>exact iT pins s σ H _ us Q I r ⟨p,ys,rfl,.inr z,q⟩
 | @key kvs z =>
  obtain ⟨u,rfl,ru⟩:=dS r;cases ru;obtain ⟨hz,lo,vs,rel,dd⟩:=dX I.hok z;obtain ⟨ep,da⟩:=dd.dictAt;have hl:kvs.length=vs.length:=Paired.length rel;refine PySem.W.kdl_call (PySem.W.kdl_dict (knd:=aX X.prog X.w) (kvs:=vs) (ep:=ep) lo) (I.ok.hd hc) da (by omega) fun h' tk acc c k hL hacc=>?_;have hn:=I.hok.fresh (Nat.le_refl s.heap.objs.size);refine ⟨.ref s.heap.objs.size,_,I.laid (t':=tk) (o:=.lst (kvs.map fun q=>kV q.1)) k (Nat.le_refl _) ⟨by rw [List.length_map]; exact hz,acc.toList,c,?_,by simpa using hL⟩,rfl,q _ hn⟩;have ha:acc.toList.length=vs.length:=by rw [Array.length_toList]; exact hacc.1
  refine cc (by rw [List.length_map]; omega) fun j a b h1 h2=>?_;obtain ⟨kk,xx,h3,h4⟩:=hacc.2 j b (by rw [<- Array.getElem?_toList]; exact h2);rw [List.getElem?_map] at h1;cases e:kvs[j]? with
  | none=>rw [e] at h1; cases h1
  | some pr =>
   rw [e] at h1; cases h1;have:=bn (show Paired _ _ _ from rel) e h3;show RelV (kV pr.1) b;rw [show pr.1=kk from this.1];exact Ao h4
theorem sV:bS X (.type "dict") (fun xs H Q=>∃ a kvs,xs=[.ref a]/\Rd H a (.dK kvs)/\∀ p,H p=none->Q (.ref p) (aw H p (.dK kvs))):=by
 intro pins s σ H xs us Q I r h;obtain ⟨a,kvs,rfl,hr,q⟩:=h;obtain ⟨u,rfl,ru⟩:=dS r;cases ru;exact x_ I hr fun p s' hp I'=>⟨.ref p,_,I',rfl,q p hp⟩
theorem B8 {K:Frag} (hu:X.A.units+1 < cLine) (hK:X.K=K:=by rfl):BW X (fun x y H Q=>∃ v,Item K H x y v/\Q v H):=by subst hK; exact dN hu
theorem wE {K:Frag}{k:Nat} (hr:Room k X.A) (hK:X.K=K:=by rfl):fz X (compareOp .Eq) (Dm K):=by subst hK; exact bX hr
end
section
variable {β:Type}
noncomputable def aq (l:List (Int×β)) (k:Int):Option β:=(l.find? fun p=>decide (p.1=k)).map (·.2)
theorem c5 {l:List (Int×β)}{k:Int}:aq l k=none↔k∉l.map (·.1):=by
 unfold aq;rw [Option.map_eq_none_iff,List.find?_eq_none];constructor
 ·intro h hm
  obtain ⟨p,hp,e⟩:=List.mem_map.mp hm;exact h p hp (decide_eq_true e)
 ·intro h p hp e
  exact h (List.mem_map.mpr ⟨p,hp,of_decide_eq_true e⟩)
theorem bD {l:List (Int×β)}{k:Int}{e:β} (h:aq l k=some e):(k,e)∈l:=by
 unfold aq at h;obtain ⟨p,hp,rfl⟩:=Option.map_eq_some_iff.mp h;have e1:=List.find?_some hp;have e2:=List.mem_of_find?_eq_some hp;rw [<- of_decide_eq_true e1]; exact e2
theorem qz:∀ {l:List (Int×β)}{k:Int}{e:β},(l.map (·.1)).Nodup->(k,e)∈l->aq l k=some e
 | (k',e') :: r,k,e,hn,hm=>by
  obtain ⟨n1,n2⟩:=List.nodup_cons.mp hn;unfold aq;rw [List.find?_cons]
  by_cases z:k'=k
  ·subst z
   rcases List.mem_cons.mp hm with z | z
   ·cases z; simp
   ·exact absurd (List.mem_map.mpr ⟨_,z,rfl⟩) n1
  ·rcases List.mem_cons.mp hm with w | w
   ·cases w; exact absurd rfl z
   ·have ih:=qz n2 w
    unfold aq at ih;simp only [z,decide_false];exact ih
theorem bh {l:List (Int×β)}{k:Int}{v:β}{p:Int×β} (h:p∈aD l k v):p=(k,v)\/(p∈l/\p.1≠k):=by
 unfold aD at h;split at h
 ·obtain ⟨q,hq,e⟩:=List.mem_map.mp h
  split at e
  ·left; rw [<- e]; next z=>rw [z]
  ·subst e; exact .inr ⟨hq,‹_›⟩
 ·next hn =>
  rcases List.mem_append.mp h with z | z
  ·exact .inr ⟨z,fun e=>hn (List.any_eq_true.mpr ⟨p,z,decide_eq_true e⟩)⟩
  ·exact .inl (by simpa using z)
theorem qo {l:List (Int×β)}{k:Int}{v:β}:(k,v)∈aD l k v:=by
 unfold aD;split
 ·next h =>
  obtain ⟨q,hq,e⟩:=List.any_eq_true.mp h;refine List.mem_map.mpr ⟨q,hq,?_⟩;rw [if_pos (of_decide_eq_true e),of_decide_eq_true e]
 ·simp
theorem si {l:List (Int×β)}{k:Int}{v:β}{p:Int×β} (h:p∈l) (hk:p.1≠k):p∈aD l k v:=by
 unfold aD;split
 ·exact List.mem_map.mpr ⟨p,h,by rw [if_neg hk]⟩
 ·exact List.mem_append_left _ h
theorem xk {l:List (Int×β)}{k:Int}{v:β}{j:Int}:j∈(aD l k v).map (·.1)↔j=k\/j∈l.map (·.1):=by
 rw [nj];split
 ·next h=>exact ⟨.inr,fun z=>z.elim (fun e=>e ▸ h) id⟩
 ·rw [List.mem_append]; simp [or_comm]
end
structure Ent where
 a:Addr
 n:Int
 s:Str
abbrev cg:=List (Int×Ent)
noncomputable def jz (H:Hp) (e:Ent):Prop:=H e.a=some (.tup [.int e.n,.str e.s])
noncomputable def ju (l:cg):List (a5×V):=l.map fun p=>(Sum.inl p.1,V.ref p.2.a)
theorem ix (l:cg):(ju l).length=l.length:=List.length_map ..
theorem pZ:∀ (l:cg) (k:Int),a7 (ju l) (Sum.inl k)=(aq l k).map fun e=>V.ref e.a
 | [],_=>rfl
 | (k',e) :: r,k=>by
  show a7 ((Sum.inl k',V.ref e.a) :: ju r) (Sum.inl k)=_
  by_cases z:k'=k
  ·subst z
   rw [bI rfl];simp [aq]
  ·rw [bJ (fun w=>z (Sum.inl.inj w)),pZ r k]
   unfold aq;simp [List.find?_cons,z]
theorem xi (l:cg) (k:Int) (e:Ent):bo (ju l) (Sum.inl k) (V.ref e.a)=ju (aD l k e):=by
 have an:((ju l).any fun kv=>decide (kv.1=Sum.inl k))=l.any fun p=>decide (p.1=k):=by
  unfold ju;rw [List.any_map]
  congr 1
  funext p
  exact decide_eq_decide.mpr ⟨fun z=>Sum.inl.inj z,fun z=>congrArg _ z⟩
 unfold bo aD;rw [an];split
 ·unfold ju
  rw [List.map_map,List.map_map];apply List.map_congr_left;intro p _;show (if (Sum.inl p.1:a5)=Sum.inl k then (Sum.inl p.1,V.ref e.a) else (Sum.inl p.1,V.ref p.2.a))=_
  by_cases z:p.1=k
  ·rw [if_pos (congrArg _ z)]
   show _=((Sum.inl (if p.1=k then (p.1,e) else p).1,V.ref (if p.1=k then (p.1,e) else p).2.a):a5×V);rw [if_pos z]
  ·rw [if_neg (fun w=>z (Sum.inl.inj w))]
   show _=((Sum.inl (if p.1=k then (p.1,e) else p).1,V.ref (if p.1=k then (p.1,e) else p).2.a):a5×V);rw [if_neg z]
 ·unfold ju
  rw [List.map_append]; rfl
noncomputable def dF (b:cg) (p:Int×Ent):cg:=match aq b p.1 with
 | none=>aD b p.1 p.2
 | some e=>if e.n < p.2.n then aD b p.1 p.2 else b
noncomputable def bR (b r:cg):cg:=r.foldl dF b
noncomputable def cX (rs:List cg):cg:=rs.foldl bR []
theorem uM (b:cg) (p:Int×Ent):(dF b p).length<=b.length+1:=by
 unfold dF;split
 ·exact bT ..
 ·split
  ·exact bT ..
  ·omega
theorem gE:∀ (r b:cg),(bR b r).length<=b.length+r.length
 | [],b=>Nat.le_refl _
 | p :: r,b=>by
  have:=gE r (dF b p);have h1:=uM b p;show (bR (dF b p) r).length<=_;rw [List.length_cons]; omega
structure Best (seen:List (Int×Ent)) (b:cg):Prop where
 nd:(b.map (·.1)).Nodup
 from_:∀ p∈b,p∈seen
 all:∀ p∈seen,∃ e,(p.1,e)∈b/\p.2.n<=e.n
theorem Best.nil:Best [] []:=⟨.nil,fun _ h=>h,fun _ h=>nomatch h⟩
theorem Best.step {seen:List (Int×Ent)}{b:cg} (B:Best seen b) (p:Int×Ent):Best (seen++[p]) (dF b p):=by
 have put:(∀ e,(p.1,e)∈b->e.n<=p.2.n)->Best (seen++[p]) (aD b p.1 p.2):=fun h=>by
  refine ⟨fg _ _ B.nd,fun q hq=>?_,fun q hq=>?_⟩
  ·rcases bh hq with z | ⟨z,_⟩
   ·subst z; simp
   ·exact List.mem_append_left _ (B.from_ q z)
  ·rcases List.mem_append.mp hq with z | z
   ·obtain ⟨e,h1,h2⟩:=B.all q z
    by_cases w:q.1=p.1
    ·exact ⟨p.2,by rw [w]; exact qo,Int.le_trans h2 (h e (w ▸ h1))⟩
    ·exact ⟨e,si h1 w,h2⟩
   ·have:q=p:=by simpa using z
    subst this;exact ⟨q.2,qo,Int.le_refl _⟩
 unfold dF;split
 ·next h=>exact put fun e he=>absurd (List.mem_map.mpr ⟨_,he,rfl⟩) (c5.mp h)
 ·next e h =>
  have hm:=bD h;split
  ·next w =>
   refine put fun e' he'=>?_;have:=qz B.nd he';rw [h] at this; cases this;omega
  ·next w =>
   refine ⟨B.nd,fun q hq=>List.mem_append_left _ (B.from_ q hq),fun q hq=>?_⟩;rcases List.mem_append.mp hq with z | z
   ·exact B.all q z
   ·have:q=p:=by simpa using z
    subst this;exact ⟨e,hm,by omega⟩
theorem Best.row:∀ (r:cg) {seen:List (Int×Ent)}{b:cg},Best seen b->Best (seen++r) (bR b r)
 | [],seen,b,B=>by rw [List.append_nil]; exact B
 | p :: r,seen,b,B=>by
  have:=Best.row r (B.step p);rw [List.append_assoc] at this;exact this
theorem Best.rows:∀ (rs:List cg) {seen:List (Int×Ent)}{b:cg},Best seen b->Best (seen++rs.flatten) (rs.foldl bR b)
 | [],seen,b,B=>by rw [List.flatten_nil,List.append_nil]; exact B
 | r :: rs,seen,b,B=>by
  have:=Best.rows rs (B.row r);rw [List.append_assoc] at this;rw [List.flatten_cons]; exact this
theorem ur (rs:List cg):Best rs.flatten (cX rs):=by
 have:=Best.rows rs Best.nil;rwa [List.nil_append] at this
theorem rl (rs:List cg) (r:cg):cX (rs++[r])=bR (cX rs) r:=by unfold cX; rw [List.foldl_append]; rfl
theorem lX (b r:cg) (p:Int×Ent):bR b (r++[p])=dF (bR b r) p:=by unfold bR; rw [List.foldl_append]; rfl
theorem vF (b r:cg):∀ p∈bR b r,p∈b\/p∈r:=by
 induction r generalizing b with
 | nil=>intro p hp; exact .inl hp
 | cons q r ih =>
  intro p hp;rcases ih (dF b q) p hp with z | z
  ·unfold dF at z
   split at z
   ·rcases bh z with w | w
    ·subst w; exact .inr List.mem_cons_self
    ·exact .inl w.1
   ·split at z
    ·rcases bh z with w | w
     ·subst w; exact .inr List.mem_cons_self
     ·exact .inl w.1
    ·exact .inl z
  ·exact .inr (List.mem_cons_of_mem _ z)
structure RowAt (H:Hp) (d:Addr) (l:cg):Prop where
 dk:H d=some (.dK (ju l))
 es:∀ p∈l,jz H p.2
theorem nJ:∀ (rs:List cg) (b:cg),(rs.foldl bR b).length<=b.length+rs.flatten.length
 | [],b=>Nat.le_refl _
 | r :: rs,b=>by
  have h1:=nJ rs (bR b r);have h2:=gE r b;rw [List.flatten_cons,List.length_append];show (rs.foldl bR (bR b r)).length<=_;omega
theorem sW (rs:List cg):(cX rs).length<=rs.flatten.length:=by
 have:=nJ rs [];rwa [show ([]:cg).length=0 from rfl,Nat.zero_add] at this
noncomputable def uD (K:Frag) (H:Hp) (a:Addr) (xs:List V):Prop:=(∃ o,H a=some (.frz o (.lst xs))) \/
 ∃ (o:Obj) (its:Array Value) (n:Nat),K.lookup a=some o/\o.cls=.type "list" /\ o.dict=none/\o.data=.seq its n/\its.size<=sizeLine/\aL xs its.toList
theorem uD.sq {K:Frag}{H:Hp}{a:Addr}{xs:List V} (h:uD K H a xs):a9 K H a xs:=by
 rcases h with ⟨o,h⟩ | h
 ·exact .inl (.inr ⟨o,h⟩)
 ·exact .inr h
noncomputable def AI (H H':Hp):Prop:=∀ b o u,H b=some (.frz o u)->H' b=some (.frz o u)
theorem AI.of_same {H H':Hp} (s:aI H H'):AI H H':=fun b o u e=>s b _ e
theorem uD.keep {K:Frag}{H H':Hp}{a:Addr}{xs:List V} (h:uD K H a xs) (f:AI H H'):uD K H' a xs:=by
 rcases h with ⟨o,h⟩ | h
 ·exact .inl ⟨o,f _ _ _ h⟩
 ·exact .inr h
noncomputable def rG (K:Frag):Sp:=fun vs H Q _=>∃ (a:Addr) (ns:List Int),vs=[.ref a]/\uD K H a (ns.map V.int)/\yy H/\ns.length<=63/\∀ H',Q (.bl true) H'
theorem CC {l:PySem.W.OpenLaw}{q:Program}{loose:List Str}{XP:(Str->Option Value)->Heap->Prop}{YP:World->Heap->Prop}{d:DefRec}{K:Params->Frag}{k:Nat}{st:Stmt} (hn:l.most=some 63) (hdf:d.params.defaults=[]) (hr:Room k callerA) (hd:d.name = "law")
  (hY:∀ (w:World) (h:Heap),YP w h->(K w.params).In h)
  (F:∀ (w:World) (mg:Str->Option Value) (h:Heap),(K w.params).In h->h.Ns mainGlobals mg->DefAt (K w.params) mg "law" st ["_law_script"] /\
   ∀ (base:Heap) (f:Addr) (fd:FuncData),Fun (K w.params) "law" "law" st f fd->FnOk l.prog w (K w.params) mg base uw k f fd ["_law_script"] (rG (K w.params))) :
  PySem.W.WalkO q loose XP YP l.row.toRowW d [] (fun f vs=>PySem.call f vs):=by
 refine L2.yB (n:=63) (k:=k) (x:="_law_script") (CX:=fun _=>uw) (sp:=fun w=>rG (K w.params)) hn (by decide) hdf hr hY (fun w mg fa h KX G hmg=>?_) (fun w H a ns hl hO hS=>⟨a,ns,rfl,?_,hO,hl,fun _=>rfl⟩) fun _ _ _ _ _ z=>z
 ·obtain ⟨⟨f,fd,Ff,hm,hb⟩,ok⟩:=F w mg h KX G
  rw [hd] at hmg;rw [hm] at hmg;cases hmg;exact ⟨fd,fun s u=>.of_eq (hb [u] rfl),fun base _ _=>ok base fa fd Ff⟩
 ·rcases hS with (h | h) | h
  ·rcases hO a with z | ⟨o,xs,z⟩
   ·rw [z] at h; cases h
   ·rw [z] at h; cases h
  ·exact .inl h
  ·exact .inr h
theorem oq {α:Type} (xs:List α) (i:Int) (h0:0<=i) (h1:i < xs.length):∃ x∈xs,mr xs i=some x:=by
 obtain ⟨n,rfl⟩:=Int.eq_ofNat_of_zero_le h0;have hn:n < xs.length:=by omega
 exact ⟨xs[n],List.getElem_mem hn,cN (by simp [hn])⟩
theorem uA {is:List Int} (i:Int) (h0:0<=i) (h1:i < is.length):∃ c∈is,mr (is.map V.int) i=some (.int c):=by
 obtain ⟨x,hx,e⟩:=oq (is.map V.int) i h0 (by simpa using h1);obtain ⟨c,hc,rfl⟩:=List.mem_map.mp hx;exact ⟨c,hc,e⟩
theorem pN (i:Int):vR i 48271:=.inr ⟨by decide,by decide⟩
theorem C6 (x v:Value):checkTypeCall "enumerate" ⟨[x],[("start",v)]⟩=pure ():=by kernel_rfl
theorem C7 (x v:Value):checkBuiltinCall "enumerate.__new__" ⟨[.type "enumerate",x],[("start",v)]⟩=pure ():=by kernel_rfl
open AutoSeq1 (wpAny_loadPart') in
theorem BK (a:Addr) (its:Array Value) (c:Nat) (t:Tok) (sl:Array (Option Value)) :
  Meets (Builtin.«enumerate.__new__» ⟨[.type "enumerate",.ref a],[("start",.int 1 t)]⟩) (fun _ R z=>z.heap.get? a=some { cls:=.type "list",data:=.seq its c,slots:=sl } /\
   R (.ok (.ret (.ref (z.heap.objs.size+1)))) { z with heap:=(z.heap.push { cls:=.type "list_iterator",data:=.fields #[.ref a,.int 0 0] }).push { cls:=.type "enumerate",data:=.fields #[.none,.bool false,.ref z.heap.objs.size,rawInt 1,.none,.none] } }):=by
 refine .of_wp fun P' w' B R z hz=>?_;obtain ⟨h1,h2⟩:=hz;obtain ⟨hh,gg,dd,kk,oo⟩:=z;have sb:=sub_enumerate;have isl:Heap.IsList (Shared.heap ⟨hh,gg,dd,kk,oo⟩) a its:=⟨_,h1,rfl,c,rfl⟩;have h3:(hh.push { cls:=.type "list_iterator",data:=.fields #[.ref a,.int 0 0] }).objs.size=hh.objs.size+1:=Heap.size_push ..;rw [show Shared.heap ⟨hh,gg,dd,kk,oo⟩=hh from rfl,<- h3] at h2
 wp_walk using wpAny_loadPart' h1
 refine wpAny_stack_any fun _=>?_;refine wpAny_pure ?_;split
 ·rename_i v _ _ _ _ _
  cases v==Value.type "enumerate" <;> wp_walk using wpAny_loadPart' h1,wpAny_pyIter_list isl
  all_goals exact ⟨_,rfl,h2⟩
 ·wp_walk using wpAny_loadPart' h1,wpAny_pyIter_list isl
  exact ⟨_,rfl,h2⟩
section
variable {prog:Program}{w:World}{A:Around}{E:Value->Shared->Prop}{s:Shared}
theorem qS {T id:String}{x y:Value}{ys:List Value}{kw:List (Str×Value)} (h1:typeLookup (.type T) "__init__" = pure (some (.builtin "object.__init__"))) (h2:Bind.madeBy (.type T)=pure (some id)) (h3:(some id != some "object.__new__")=true) :
  Meets (Builtin.«object.__init__» ⟨x :: y :: ys,kw⟩) (fun _ R z=>z.TypeIs x T/\R (.ok (.ret .none)) z):=by
 refine .of_wp fun P' w' B R z hz=>?_;obtain ⟨h4,h5⟩:=hz
 repeat (any_goals (first | assumption | wp_step))
 exact ⟨_,rfl,h5⟩
theorem zE (x y v:Value):argsOk "object.__init__" ⟨[x,y],[("start",v)]⟩:=by
 unfold argsOk;rw [signature?_of (id:="object.__init__") (n:=['_','_','t','i','n','i','_','_']) (o:=['t','c','e','j','b','o']) (by kernel_rfl) F.owner_object]
 kernel_rfl
theorem yE {T id:String}{Bn:Builtin}{y:Value}{kw:List (Str×Value)}{S:PySem.Spec}{Q:Value->Shared->Prop} (ft:TypeCalled T id "object.__init__") (hne:(some id != some "object.__new__")=true)
  (hct:checkTypeCall T ⟨[y],kw⟩=pure ()) (hcn:checkBuiltinCall id ⟨[.type T,y],kw⟩=pure ()) (hok:∀ x,argsOk "object.__init__" ⟨[x,y],kw⟩) (en:entryFor table id=some Bn) (g:Meets (Bn ⟨[.type T,y],kw⟩) S)
  (h:S A.in1 (wants (fun x z=>z.TypeIs x T/\Q x z) E) s):wpAny (model prog w) A (call (.type T) [y] kw) Q E s:=by
 obtain ⟨c0,t0,hmro⟩:=ft.mro;have e1:=ft.made;have e2:=ft.sub;refine wpAny_call (codeAny_of_tree ?_);show wpAny _ _ (callAny (.type T) _) _ _ _;refine wpAny_pure ⟨Code.quiet_builtin _ (by decide +kernel),?_⟩;refine codeAny_builtin F.entry_type_call ?_;rw [Around.under_plain (weight_type_call_type T [y] kw) rfl];have e3:=ft.notType;have e4:=ft.canCreate
 repeat (any_goals (first | assumption | wp_step))
 refine codeAny_mono (codeAny_call_builtin ft.plain en (wpAny_of_eq hcn (g prog w A.in1 _ s h))) fun r z hr=>?_;cases r with
 | error e=>exact hr
 | ok fl =>
  cases fl with
  | ret x =>
   obtain ⟨hT,hq⟩:=hr;have e5:=ft.init.lookup;have e6:=ft.init.bind x
   repeat (any_goals (first | assumption | wp_step))
   refine codeAny_mono (codeAny_call_builtin ft.init.plain F.entry_object_init (ft.init.check _ _ _ _ _ _ _ _ hT (hok x) (qS ft.init.lookup ft.made hne prog w A.in1 (wants (fun r z'=>r=.none/\z'=z) E) z ⟨hT,rfl,rfl⟩))) fun r2 z2 hr2=>?_;cases r2 with
   | error e=>exact hr2
   | ok fl2 =>
    cases fl2 with
    | ret r =>
     obtain ⟨rfl,rfl⟩:=hr2
     repeat (any_goals (first | assumption | wp_step))
    | _=>exact hr2.elim
  | _=>exact hr.elim
theorem zD {a:Addr}{its:Array Value}{c:Nat}{t:Tok}{sl:Array (Option Value)}{Q:Value->Shared->Prop} (ha:s.heap.get? a=some { cls:=.type "list",data:=.seq its c,slots:=sl })
  (q:∀ h',IsEnum h' (s.heap.objs.size+1) s.heap.objs.size 1 .none->h'.IsListIter s.heap.objs.size a 0->(∀ b o,s.heap.get? b=some o->h'.get? b=some o)->Q (.ref (s.heap.objs.size+1)) { s with heap:=h' }) :
  wpAny (model prog w) A (call (.type "enumerate") [.ref a] [("start",.int 1 t)]) Q E s:=by
 have hz:(s.heap.push { cls:=.type "list_iterator",data:=.fields #[.ref a,.int 0 0] }).objs.size=s.heap.objs.size+1:=Heap.size_push ..;have g1:((s.heap.push { cls:=.type "list_iterator",data:=.fields #[.ref a,.int 0 0] }).push { cls:=.type "enumerate",data:=.fields #[.none,.bool false,.ref s.heap.objs.size,rawInt 1,.none,.none] }).get? (s.heap.objs.size+1)=some { cls:=.type "enumerate",data:=.fields #[.none,.bool false,.ref s.heap.objs.size,rawInt 1,.none,.none] }:=by
  rw [<- hz]; exact Heap.get?_push_size _ rfl
 refine yE F.called_enumerate (by decide) (C6 _ _) (C7 _ _) (fun x=>zE x _ _) F.entry_enumerate_new (BK a its c t sl) ⟨ha,⟨_,g1,rfl⟩,q _ g1 ⟨_,Heap.get?_push_of_some _ (Heap.get?_push_size _ rfl),rfl,rfl⟩ fun b o e=>Heap.get?_push_of_some _ (Heap.get?_push_of_some _ e)⟩
end
theorem BL {P:Program}{w:World}{A:Around} (hh:A.handled=none) (it l:Addr) (hne:l≠it) (its:Array Value) :
  Draws P w A it [it,l] (its.size+1) (fun i v=>0 < i/\its[i - 1]? = some v) (fun i h=>0 < i/\h.IsListIter it l (i - 1)/\h.IsList l its):=by
 have D:=Draws.list (prog:=P) (w:=w) hh it l hne its;refine ⟨fun i h st=>D.live (i - 1) h st.2,fun i h h' st k=>⟨st.1,D.frame (i - 1) h h' st.2 k⟩,fun i s Q E hi st hQ=>?_,fun s Q E st hE=>D.done s Q E st.2 hE⟩;obtain ⟨h0,st⟩:=st;refine D.item (i - 1) s Q E (by omega) st fun x h' tk hx st' hs=>hQ x h' tk ⟨h0,hx⟩ ⟨by omega,?_⟩ hs;rwa [show i - 1+1=i+1 - 1 by omega] at st'
theorem BM {P:Program}{w:World}{A:Around}{n:Nat} (hh:A.handled=none) (it l:Addr) (its:Array Value) (hn:its[n]? = none) :
  Draws P w A it [it,l] n (fun _ _=>False) (fun i h=>i=n/\h.IsListIter it l n/\h.IsList l its) :=
 ⟨fun i h st=>let ⟨o,ho,_⟩:=st.2.1; ⟨o,ho⟩,fun i h h' st k=>⟨st.1,st.2.1.at fun o e=>k it (by simp) o e,st.2.2.at fun o e=>k l (by simp) o e⟩,fun i s Q E hi st _=>absurd st.1 (Nat.ne_of_lt hi),fun s Q E st hE=>wpAny_nextOf_list_end hh st.2.1 st.2.2 hn hE⟩
theorem Inv.turnedL {X:Cx}{pins:List (Addr×Obj)}{σ:St}{H:Hp}{s:Shared}{h':Heap}{t':Nat}{fp:List Addr} (I:Inv X pins σ H s) (k:∀ b o,b∉fp->s.heap.get? b=some o->h'.get? b=some o) (hf:∀ b∈fp,FpOk X pins H b):Inv X pins σ H { s with heap:=h',toks:=t' }:=by
 have nit:∀ b u,H b=some u->b∉fp:=fun b u e z=>by rw [(hf b z).1] at e; cases e
 refine I.step (g':=s.gens) (d':=s.drawn) (ch:=fp) (fun b hb=>?_) (fun b o _ _ hc e _=>k b o hc e) (fun b o _ _ hc e _=>⟨o.slots,k b o hc e⟩) (fun _ _ _ _ n=>n)
  (fun b o hc e=>⟨o,k b o hc e⟩) (fun _ _ e=>e) (fun _ _ _ e=>e) (fun b ps e=>⟨#[],by rw [e]; simp⟩) (fun m hm=>?_) (fun b u e=>?_) I.bare
 ·obtain ⟨f0,f1,f2,f3,f4,f5⟩:=hf b hb
  exact ⟨f3,f1,f4,f5⟩
 ·obtain ⟨o,es,ep,ho,r⟩:=hm
  exact ⟨o,es,ep,k _ o (fun z=>(hf _ z).2.1 rfl) ho,r⟩
 ·refine (I.hok b u e).stay (fun c v hc q=>k c v ?_ q) (fun _ q=>q) fun _ _ q=>q
  rcases hc with z | z
  ·rw [z]; exact nit b u e
  ·exact nit c _ z
section
variable {X:Cx}
noncomputable def Ce (K:Frag) (a:Addr):It :=
 ⟨fun i H=>∃ xs x,a9 K H a xs/\xs[i]? = some x,fun i H y H'=>∃ t x,H t=none/\y=.ref t/\H'=aw H t (.tup [.int ((i:Int)+1),x])/\∀ xs,a9 K H a xs->xs[i]? = some x,fun i H=>∃ xs,a9 K H a xs/\xs.length<=i⟩
theorem uJ {P:Program}{w:World}{K:Frag}{es:List Expr}{kk:Nat}{pos:Pos} (a it e:Addr) (h1:a≠it) (h2:e≠it) (h3:e≠a) :
  Turn P w K (.Tuple es kk pos) (Ce K a) [e,it] e (fun i h=>(∃ old,IsEnum h e it ((i:Int)+1) old)/\h.IsListIter it a i) where
 mem:=by simp
 obj:=fun i h st b hb=>by
  obtain ⟨⟨old,he⟩,o,ho,hc,hd⟩:=st;rcases List.mem_cons.mp hb with z | z
  ·subst z; exact ⟨_,he,fun v z=>by cases z⟩
  ·have:b=it:=by simpa using z
   subst this; exact ⟨o,ho,fun v z=>by rw [hd] at z; cases z⟩
 keep:=fun i h h' st k=>by
  obtain ⟨⟨old,he⟩,hi⟩:=st;exact ⟨⟨old,k e (by simp) _ he⟩,hi.at fun o z=>k it (by simp) o z⟩
 item:=by
  intro X hP hw hK hc i pins s σ H E I hf st hg;subst hP hw hK;obtain ⟨xs,x,hq,hx⟩:=hg;obtain ⟨its,rv,p,hz⟩:=I.list hq;obtain ⟨u,hu,ru⟩:=rv.get hx;obtain ⟨⟨old,he⟩,hi⟩:=st;obtain ⟨f0,f1,f2,f3,f4,f5⟩:=hf e (by simp);obtain ⟨g0,g1,g2,g3,g4,g5⟩:=hf it (by simp);have W:=WalksT.enumerateD (BL (P:=X.prog) (w:=X.w) (A:=X.A.in1) (I.ok.hd hc) it a h1 its.toArray) e h2 (by simp [h2,h3]) (by simp);have hil:i < its.length:=(List.getElem?_eq_some_iff.mp hu).1;refine W.item (i+1) s _ E (by simp; omega) ⟨⟨old,by simpa using he⟩,by omega,by simpa using hi,p.isList⟩ fun T vals h' tk hP hT hTt hMid hk=>?_;obtain ⟨tt,y,⟨_,hy⟩,hvals⟩:=hP;have ey:y=u:=by
   have:its[i]? = some y:=by simpa using hy
   rw [hu] at this; cases this; rfl
  subst ey;refine ⟨_,rfl,W.go es kk pos (i+1) T _ _ E hMid fun h'' st'' hk''=>?_⟩;obtain ⟨t1,t2,t3,t4,t5,t6⟩:=I.fpOk hT (I.hok.fresh hT);have I1:Inv X pins σ H { s with heap:=h'',toks:=tk }:=I.turnedL (t':=tk) (fun b o hb z=>hk'' b o hb (hk b o hb z)) hf;have hT2:IsTup h'' T vals:=hTt.at fun o z=>hk'' T o (W.apart _ _ _ hMid) z;have I2:=I1.track (t:=T) (o:=.tup [.int ((i:Int)+1),x]) (Nat.le_trans I.sz hT) t2 t5 t6 t1 ⟨by show 2<=sizeLine; decide,[Value.int ((i:Int)+1) tt,y],.cons ⟨tt,rfl⟩ (.cons ru .nil),by rw [hvals] at hT2; simpa using hT2⟩;obtain ⟨⟨old2,he2⟩,_,hi2,_⟩:=st'';refine ⟨.ref T,_,I2,rfl,⟨T,x,t1,rfl,rfl,fun ys hy=>by rw [I.list_inj hy hq]; exact hx⟩,⟨⟨old2,by simpa using he2⟩,by simpa using hi2⟩,fun b hb=>?_⟩;rw [ad (fun z=>by rw [z] at hb; exact W.apart _ _ _ hMid hb)];exact (hf b hb).1
 done:=by
  intro X hP hw hK hc i pins s σ H E I hf st hg;subst hP hw hK;obtain ⟨xs,hq,hx⟩:=hg;obtain ⟨its,rv,p,hz⟩:=I.list hq;obtain ⟨⟨old,he⟩,hi⟩:=st;have hl:=rv.length;refine wpAny_pyNext_enum_endD (BM (P:=X.prog) (w:=X.w) (A:=X.A.in1) (n:=i) (I.ok.hd hc) it a its.toArray (by simp; omega)) he ⟨rfl,hi,p.isList⟩ fun h' eb=>⟨rfl,I.turnedL (t':=s.toks) (fun b o hb z=>eb b o (fun w=>hb (by simp [w])) z) hf⟩
 self:=fun A i s Q E st h=>by
  obtain ⟨⟨old,he⟩,hi⟩:=st;exact wpAny_pyIter_enum he h
theorem C9 {M:Model}{A:Around}{E:Value->Shared->Prop}{s:Shared}{env:Env}{pos:Pos}{T:String}{e:Expr}{k:Keyword}{Q:Value->Shared->Prop}
  (h:wpAny M A (spliced (backTo pos (starEach [e] env))) (fun vs z=>wpAny M A (evalAll ((backToKw pos (keywordEach [k] env)).map (·.2))) (fun ks z2=>wpAny M A (call (.type T) vs (((backToKw pos (keywordEach [k] env)).filterMap (·.1)).zip ks)) Q E z2) E z) E s)
  (h1:backTo pos (starEach [e] env)=[(false,eval e env)]:=by rfl) (h2:(backToKw pos (keywordEach [k] env)).all (·.1.isSome)=true:=by rfl) (h3:(backToKw pos (keywordEach [k] env)).any (·.1.isNone)=false:=by rfl) :
  wpAny M A (callWith pos (.type T) [] (backTo pos (starEach [e] env)) (backToKw pos (keywordEach [k] env))) Q E s:=by
 unfold callWith;rw [h1] at h ⊢;refine wpAny_bind (wpAny_holding (wpAny_mono (evalArgs_kwB (Q:=fun a z=>wpAny M A (call (.type T) a.pos a.kw) Q E z) h2 h) (fun a z hz=>?_) fun _ _ x=>x));refine wpAny_bind (wpAny_standAt ?_);simp only [h3,List.any_cons,List.any_nil,Bool.or_false];refine wpAny_bind (wpAny_pure (wpAny_bind (wpAny_mono hz (fun r z2 hr=>?_) fun _ _ x=>x)));exact wpAny_bind (wpAny_holding (wpAny_point (wpAny_pure hr)))
noncomputable def C4 (K:Frag) (tl tk:TE):TI:=fun σ H R=>tl σ H fun x H1=>tk σ H1 fun y H2=>y=.int 1/\∃ a,x=.ref a/\(∃ xs,a9 K H2 a xs)/\R (Ce K a) H2
theorem yW {es:List Expr}{kk:Nat}{tpos:Pos}{l v:Expr}{kp:Pos}{tl tk:TE}{p pos:Pos} (hg:Gl X "enumerate") (hm:X.mg "enumerate" = none) (hl:PE X l tl) (hv:PE X v tk)
  (h1:backTo pos (starEach [l] X.env)=[(false,eval l X.env)]:=by rfl) :
  PI X (.Tuple es kk tpos) (.Call (.Name "enumerate" p) [l] [⟨some "start",v,kp⟩] pos) (C4 X.K tl tk):=by
 intro pins s σ H R I h;rw [show eval (.Call (.Name "enumerate" p) [l] [⟨some "start",v,kp⟩] pos) X.env=(do callWith pos (<- eval (.Name "enumerate" p) X.env) [] (backTo pos (starEach [l] X.env)) (backToKw pos (keywordEach [⟨some "start",v,kp⟩] X.env))) from rfl];refine wpAny_bind (i5 I hg hm boot_enumerate ?_);refine C9 ?_ h1;rw [h1];refine Calls.spliced_cons (bE (hl pins s σ H _ I h) fun x1 s1 ⟨x,H1,I1,r1,q1⟩=>Calls.spliced_nil ?_);refine kws_cons (bE (hv pins s1 σ H1 _ I1 q1) fun y1 s2 ⟨y,H2,I2,r2,e2,a,e1,⟨xs,hq⟩,q⟩=>kws_nil ?_);subst e1 e2;cases r1;obtain ⟨t,rfl⟩:=r2;obtain ⟨its,rv,p1,hz⟩:=I2.list hq;obtain ⟨o,ho,hc,n,hd⟩:=id p1.isList;have g1:∃ c sl,s2.heap.get? a=some { cls:=.type "list",data:=.seq its.toArray c,slots:=sl }:=by
  obtain ⟨⟨c1,c2,c3,c4⟩,n,g1,g2,g3,g4⟩:=p1;simp only at g2 g3 g4;subst g2 g3 g4;exact ⟨n,c4,g1⟩
 obtain ⟨c,sl,g1⟩:=g1;have f1:=I2.fpOk (H':=H2) (b:=s2.heap.objs.size) (Nat.le_refl _) (I2.hok.fresh (Nat.le_refl _));have f2:=I2.fpOk (H':=H2) (b:=s2.heap.objs.size+1) (Nat.le_succ _) (I2.hok.fresh (Nat.le_succ _));refine zD g1 fun h' he hi hk=>?_;refine wpAny_pyIter_enum he ?_;have la:a < s2.heap.objs.size:=Heap.lt_size ho;refine ⟨s2.heap.objs.size+1,[s2.heap.objs.size+1,s2.heap.objs.size],_,_,H2,rfl,I2.kept (t':=s2.toks) hk,uJ a s2.heap.objs.size (s2.heap.objs.size+1) (Nat.ne_of_lt la) (Nat.succ_ne_self _) (Nat.ne_of_gt (Nat.lt_succ_of_lt la)),⟨⟨.none,by simpa using he⟩,hi⟩,fun b hb=>?_,q⟩;rcases List.mem_cons.mp hb with z | z
 ·rw [z]; exact f2
 ·have:b=s2.heap.objs.size:=by simpa using z
  rw [this]; exact f1
end
structure Psd (F R:List Addr) (h h':Heap):Prop where
 kp:∀ b o,h.get? b=some o->b∉R->b∉F->h'.get? b=some o
 sl:∀ b o,h.get? b=some o->b∉R->∃ z,h'.get? b=some { o with slots:=z }
theorem Psd.trans {F R:List Addr}{h1 h2 h3:Heap} (x:Psd F R h1 h2) (y:Psd F R h2 h3):Psd F R h1 h3 :=
 ⟨fun b o e r f=>y.kp b o (x.kp b o e r f) r f,fun b o e r=>let ⟨_,e1⟩:=x.sl b o e r; let ⟨z,e2⟩:=y.sl b _ e1 r; ⟨z,e2⟩⟩
theorem Psd.mono {F F' R R':List Addr}{h h':Heap} (x:Psd F R h h') (hF:∀ b∈F,b∈F') (hR:∀ b∈R,b∈R'):Psd F' R' h h' :=
 ⟨fun b o e r f=>x.kp b o e (fun z=>r (hR b z)) (fun z=>f (hF b z)),fun b o e r=>x.sl b o e fun z=>r (hR b z)⟩
noncomputable def Xc (h:Heap) (e T:Addr) (cls fl:Value):Prop:=∃ oe vs oT ts,h.get? e=some oe/\oe.cls=cls/\oe.data=.fields vs/\vs[1]? = some (.ref T)/\T≠e/\h.get? T=some oT/\oT.data=.fields ts/\ts[3]? = some fl
theorem Xc.cls {h:Heap}{e T:Addr}{cls fl:Value} (x:Xc h e T cls fl):∃ oe,h.get? e=some oe/\oe.cls=cls:=let ⟨oe,_,_,_,a,b,_⟩:=x; ⟨oe,a,b⟩
abbrev D4 (hd:Value) (L:Addr) (pl:List Value):Obj:={ cls:=.type "traceback",dict:=none,data:=.fields ([hd,.ref L,.none,rawInt L,.none]++(if pl.isEmpty then List.replicate 6 Value.none else pl)).toArray }
section
variable {M:Model}{A:Around}{E:Value->Shared->Prop}{s:Shared}
theorem tq {base:Heap}{env:Env}{outer:List Env}{L e:Addr}{oe:Obj}{vs:Array Value}{hd:Value}{nx:Bool}{Q:Unit->Shared->Prop}
  (hA:A.frames=some (env :: outer)) (fr:s.heap.FunFrames base (env :: outer)) (hL:env.frame=some L) (he:s.heap.get? e=some oe) (hv:oe.data=.fields vs) (h2:1 < vs.size)
  (q:∀ h' T,s.heap.objs.size<=T->Xc h' e T oe.cls (rawInt L)->Psd (mS (env :: outer)) [e] s.heap h'->Q () { s with heap:=h' }) :
  wpAny M A (do let a <- frameOf env; let p <- entryPlaceOf L nx; let b <- EntryCells.newEntry hd a .none (rawInt L) .none p; setField (.ref e) 1 b) Q E s:=by
 have nf:e∉mS (env :: outer):=fun m=>by
  obtain ⟨_,o,ho,hn⟩:=fr.mem m;rw [he] at ho; cases ho; exact hn vs hv
 refine wpAny_bind (wpAny_frameOf_fun hA fr hL fun g hg=>?_);refine wpAny_bind (wpAny_entryPlaceOf fun p hp=>?_);unfold EntryCells.newEntry newFields;refine wpAny_bind (wpAny_newObj_type ?_ (hp.sizeOk5 _ _ _ _ _));have e1:g.get? e=some oe:=(hg.2.1 e nf).trans he;have e2:=Heap.get?_push_of_some (h:=g) (D4 hd L p) e1;have te:g.objs.size≠e:=Nat.ne_of_gt (Heap.lt_size e1);have d3:=Obj.data_mapFields hv (·.setIfInBounds 1 (Value.ref g.objs.size));refine wpAny_setField e2 hv h2 (q _ g.objs.size (Nat.le_of_eq hg.1.symm) ?_ ⟨fun b o eb hb hf=>?_,fun b o eb hb=>?_⟩)
 ·refine ⟨_,_,_,_,Heap.get?_update_self _ e2 (Obj.isFreed_of_fields d3),Obj.cls_mapFields _ _,d3,by simp [h2],te,(Heap.get?_update_other (g.push (D4 hd L p)) _ (Ne.symm te)).trans (Heap.get?_push_size g rfl),rfl,?_⟩
  first | (simp; done) | (rcases hp with rfl | ⟨_,_,_,_,_,_,_,rfl⟩<;>simp)
 ·have hbe:b≠e:=fun z=>hb (by simp [z])
  rw [Heap.get?_update_other _ _ (Ne.symm hbe)];exact Heap.get?_push_of_some _ ((hg.2.1 b hf).trans eb)
 ·have hbe:b≠e:=fun z=>hb (by simp [z])
  obtain ⟨z,ez⟩:=hg.2.2 b o eb;exact ⟨z,by rw [Heap.get?_update_other _ _ (Ne.symm hbe)]; exact Heap.get?_push_of_some _ ez⟩
theorem n_ {e T:Addr}{cls fl:Value}{Q:Unit->Shared->Prop} (x:Xc s.heap e T cls fl) (q:∀ h',Xc h' e T cls .none->Psd [] [T] s.heap h'->Q () { s with heap:=h' }):wpAny M A (setFlight (.ref e) none) Q E s:=by
 obtain ⟨oe,vs,oT,ts,he,hc,hd,h1,hT,ht,dt,h3⟩:=x;have n3:3 < ts.size:=(Array.getElem?_eq_some_iff.mp h3).1;have o:∀ b,b≠T->(s.heap.update T (Obj.mapFields (·.setIfInBounds 3 .none))).get? b=s.heap.get? b:=fun b hb=>Heap.get?_update_other _ _ (Ne.symm hb);refine wpAny_setFlight_none he hd h1 ht dt n3 (q _ ⟨oe,vs,_,_,(o e (Ne.symm hT)).trans he,hc,hd,h1,hT,Heap.get?_update_self _ ht (Obj.isFreed_of_fields (Obj.data_mapFields dt _)),Obj.data_mapFields dt _,by simp [n3]⟩ ⟨fun b u eb hb _=>?_,fun b u eb hb=>?_⟩)
 ·exact (o b fun z=>hb (by simp [z])).trans eb
 ·exact ⟨u.slots,(o b fun z=>hb (by simp [z])).trans eb⟩
theorem yz {base:Heap}{env:Env}{outer:List Env}{L e:Addr}{oe:Obj}{vs:Array Value}{Q:Unit->Shared->Prop} (hA:A.frames=some (env :: outer)) (fr:s.heap.FunFrames base (env :: outer)) (hL:env.frame=some L)
  (he:s.heap.get? e=some oe) (hv:oe.data=.fields vs) (h1:vs[1]? = some .none) (q:∀ h' T,s.heap.objs.size<=T->Xc h' e T oe.cls (rawInt L)->Psd (mS (env :: outer)) [e] s.heap h'->Q () { s with heap:=h' }) :
  wpAny M A (noteFrame (.ref e) env) Q E s:=by
 unfold noteFrame;simp only [hL];refine wpAny_bind (wpAny_field he hv h1 ?_);rw [if_neg (by decide)];exact tq hA fr hL he hv (Array.getElem?_eq_some_iff.mp h1).1 q
theorem v1 {base:Heap}{env:Env}{outer:List Env}{L e T:Addr}{cls:Value}{Q:Unit->Shared->Prop} (hA:A.frames=some (env :: outer)) (fr:s.heap.FunFrames base (env :: outer)) (hL:env.frame=some L)
  (x:Xc s.heap e T cls .none) (q:∀ h' T',s.heap.objs.size<=T'->Xc h' e T' cls (rawInt L)->Psd (mS (env :: outer)) [e,T] s.heap h'->Q () { s with heap:=h' }):wpAny M A (noteFrame (.ref e) env) Q E s:=by
 obtain ⟨oe,vs,oT,ts,he,hc,hd,h1,hT,ht,dt,h3⟩:=x;subst hc;unfold noteFrame;simp only [hL];refine wpAny_bind (wpAny_field he hd h1 ?_);rw [if_pos (show (Value.ref T != Value.none)=true by simp)];refine wpAny_bind (wpAny_field ht dt h3 ?_);rw [if_neg (show ¬ (Value.none==rawInt L)=true by simp [rawInt])];refine wpAny_bind (wpAny_setField ht dt (Array.getElem?_eq_some_iff.mp h3).1 ?_);have o:∀ b,b≠T->(s.heap.update T (Obj.mapFields (·.setIfInBounds 3 Value.none))).get? b=s.heap.get? b:=fun b hb=>Heap.get?_update_other _ _ (Ne.symm hb);have p:Psd (mS (env :: outer)) [e,T] s.heap (s.heap.update T (Obj.mapFields (·.setIfInBounds 3 Value.none))) :=
  ⟨fun b u eb hb _=>(o b fun z=>hb (by simp [z])).trans eb,fun b u eb hb=>⟨u.slots,(o b fun z=>hb (by simp [z])).trans eb⟩⟩
 refine tq hA (fr.of_keeps fun b u eb hn=>⟨u,(o b fun z=>?_).trans eb,rfl⟩) hL ((o e (Ne.symm hT)).trans he) hd (Array.getElem?_eq_some_iff.mp h1).1 fun h' T' hs x' p'=>q h' T' ?_ x' (p.trans (p'.mono (fun _ z=>z) fun b z=>by simp at z; simp [z]))
 ·rw [z,ht] at eb; cases eb; exact hn ts dt
 ·have:(s.heap.update T (Obj.mapFields (·.setIfInBounds 3 Value.none))).objs.size=s.heap.objs.size:=Heap.size_after_update ..
  exact this ▸ hs
end
theorem a6.here {P:Program}{w:World}{H:Hp}{h:Heap}{a:Addr}{o:HO} (x:a6 P w H h a o):∃ u,h.get? a=some u:=by
 cases o with
 | lst xs=>obtain ⟨_,_,_,_,e⟩:=x; exact ⟨_,e⟩
 | tup xs=>obtain ⟨_,_,_,ob,e,_⟩:=x; exact ⟨_,e⟩
 | dK kvs=>obtain ⟨_,_,_,_,o,_,_,e,_⟩:=x; exact ⟨_,e⟩
 | dT kvs=>obtain ⟨_,_,_,_,o,_,_,e,_⟩:=x; exact ⟨_,e⟩
 | set S n=>obtain ⟨o,_,_,_,e,_⟩:=x; exact ⟨_,e⟩
 | ins C dx fs=>obtain ⟨_,_,_,e,_⟩:=x; exact ⟨_,e⟩
 | own y=>exact x
 | xd fs=>obtain ⟨_,⟨_,_,_,e,_⟩,_⟩:=x; exact ⟨_,e⟩
 | rng lo hi=>obtain ⟨_,_,_,e⟩:=x; exact ⟨_,e⟩
 | frz ob u=>exact ⟨_,x.1⟩
 | tbl ps=>exact ⟨_,x⟩
 | met f y=>exact ⟨_,x⟩
 | ext φ=>exact x.2.1
theorem gb.no {P:Program}{w:World}{H:Hp}{h:Heap}{a:Addr} (x:gb P w H h) (n:h.get? a=none):H a=none:=by
 cases e:H a with
 | none=>rfl
 | some o=>obtain ⟨u,q⟩:=(x a o e).here; rw [n] at q; cases q
section
variable {X:Cx}{pins:List (Addr×Obj)}{σ:St}{H:Hp}{s:Shared}{h':Heap}
noncomputable def gL (X:Cx) (pins:List (Addr×Obj)) (H:Hp) (r:Addr):Prop:=H r=none/\X.s₀.heap.get? r=none/\r≠X.env.locals/\(∀ x c,X.env.cells.lookup x=some c->c≠r)/\∀ p∈X.pn++pins,p.1≠r
theorem Inv.alien (I:Inv X pins σ H s) (hx:X.ex=[]) {r:Addr} (n:s.heap.get? r=none) {H':Hp} (z:H' r=none):gL X pins H' r:=by
 refine ⟨z,?_,fun e=>?_,fun x c e w=>?_,fun p hp w=>?_⟩
 ·cases q:X.s₀.heap.get? r with
  | none=>rfl
  | some o =>
   obtain ⟨o',e⟩:=I.base.there r o q (by rw [hx]; simp);rw [n] at e; cases e
 ·obtain ⟨m,⟨o,_,_,ho,_⟩,_⟩:=I.loc
  rw [<- e,n] at ho; cases ho
 ·obtain ⟨v,o,ho,_⟩:=I.cell x c e
  rw [w,n] at ho; cases ho
 ·have:=(I.pin p hp).1
  rw [w,n] at this; cases this
theorem Inv.psd {R:List Addr} (I:Inv X pins σ H s) (p:Psd (mS X.stack) R s.heap h') (hR:∀ r∈R,gL X pins H r):Inv X pins σ H { s with heap:=h' }:=by
 have kp:∀ b o,s.heap.get? b=some o->b∉R->b≠X.env.locals->b∉X.fs->h'.get? b=some o:=fun b o e r l f=>p.kp b o e r fun z=>(List.mem_cons.mp (I.stkSub b z)).elim l f;have neR:∀ b o,X.s₀.heap.get? b=some o->b∉R:=fun b o e z=>by rw [(hR b z).2.1] at e; cases e
 have neL:∀ b o,X.s₀.heap.get? b=some o->b≠X.env.locals:=fun b o e=>Nat.ne_of_lt (Nat.lt_of_lt_of_le (Heap.lt_size e) I.ok.above);have tr:∀ b u,H b=some u->b∉R/\b∉mS X.stack:=fun b u e=>⟨(fun z=>by rw [(hR b z).1] at e; cases e),(fun z=>by rw [I.stkFree b z] at e; cases e)⟩;have hok:gb X.prog X.w H h':=fun a o e=>(I.hok a o e).stay (fun b u hb q=>by
  have hb':∃ u,H b=some u:=by
   rcases hb with rfl | z
   ·exact ⟨_,e⟩
   ·exact ⟨_,z⟩
  obtain ⟨u',hu⟩:=hb';exact p.kp b u q (tr b u' hu).1 (tr b u' hu).2) (fun _ z=>z) fun _ _ z=>z
 refine ⟨I.ok,I.os,I.bare,⟨fun b o e n hb hx=>?_,fun b o e n hb hx=>?_,I.base.free,fun b o e hx=>?_,I.base.tups,I.base.frzs,I.base.tbls⟩,?_,fun x c e=>?_,I.free,I.freeC,fun q hq=>?_,hok,I.len⟩
 ·exact kp b o (I.base.keep b o e n hb hx) (neR b o e) (neL b o e) hb
 ·obtain ⟨z,e1⟩:=I.base.slot b o e n hb hx
  obtain ⟨z',e2⟩:=p.sl b _ e1 (neR b o e);exact ⟨z',e2⟩
 ·obtain ⟨o',e1⟩:=I.base.there b o e hx
  obtain ⟨z,e2⟩:=p.sl b o' e1 (neR b o e);exact ⟨_,e2⟩
 ·obtain ⟨m,hn,hl⟩:=I.loc
  refine ⟨m,?_,fun i x v e1 e2 e3=>?_⟩
  ·obtain ⟨o,es,ep,ho,r⟩:=hn
   obtain ⟨z,e⟩:=p.sl _ o ho fun w=>(hR _ w).2.2.1 rfl;exact ⟨_,es,ep,e,r⟩
  ·obtain ⟨u,r,l⟩:=hl i x v e1 e2 e3
   refine ⟨u,r,?_⟩;rcases l with l | ⟨k,c,e,o,ho,hd⟩
   ·exact .inl l
   ·obtain ⟨z,e'⟩:=p.sl c o ho fun w=>(hR c w).2.2.2.1 x c e rfl
    exact .inr ⟨k,c,e,_,e',hd⟩
 ·obtain ⟨v,o,ho,hd⟩:=I.cell x c e
  obtain ⟨z,e'⟩:=p.sl c o ho fun w=>(hR c w).2.2.2.1 x c e rfl;exact ⟨v,_,e',hd⟩
 ·obtain ⟨e,n,ne,nf,d⟩:=I.pin q hq
  exact ⟨kp q.1 q.2 e (fun w=>(hR _ w).2.2.2.2 q hq rfl) ne nf,n,ne,nf,d⟩
end
theorem uk {K:Frag}{h:Heap}{mg:Str->Option Value}{x:Str}{C:Addr}{bm:List Value}{newId:String} (X:K.In h) (e:mg x=some (.ref C)) (q:PySem.W.excIn K C bm newId=true):OwnCls x C bm newId mg h:=by
 refine ⟨e,?_⟩;unfold PySem.W.excIn at q;split at q
 case h_1 dd cd sl ho =>
  split at q
  case h_1 C1 b1 j0 j1 j2 j3 n j5 hm hs =>
   simp only [Bool.and_eq_true,beq_iff_eq,Bool.not_eq_true'] at q;obtain ⟨⟨⟨⟨⟨rfl,rfl⟩,hdel⟩,ht⟩,hok⟩,hni⟩:=q;obtain ⟨nm,bs,mro,ns,qn,hd,sn,sub,ab,col,del⟩:=cd;dsimp only at hm hdel hok hni;subst hm hdel;obtain ⟨l⟩:=sl;have hl:l=[j0,j1,j2,j3,some (.builtin n),j5]:=hs;subst hl;exact ⟨b1,ns,nm,qn,bs,hd,sn,sub,ab,col,dd,j0,j1,j2,j3,j5,_,X _ _ ho,.of_isNs (PySem.W.isNs_of_in X hok),PySem.W.nsMap_none_of_in X hok hni,PySem.W.tail_of_in X ht⟩
  case h_2=>cases q
 case h_2=>cases q
noncomputable def pP (P:Program) (w:World):vK:=fun outer H s E e s'=>∃ ea T cls H',e=.ref ea/\s'.os=s.os/\AllBare s'.gens/\Un (mS outer) [] H H' s.heap s'.heap/\gb P w H' s'.heap /\
 s.heap.get? ea=none/\s.heap.get? T=none/\H' ea=none/\H' T=none/\Xc s'.heap ea T cls .none/\E cls none H'
section
variable {X:Cx}{pins:List (Addr×Obj)}{σ:St}{H:Hp}{s:Shared}
theorem v3 {E:XK}{ea T:Addr}{cls:Value} (I:Inv X pins σ H s) (hx:X.ex=[]) (hs:X.stack=X.env :: X.outer) (ha:gL X pins H ea) (hT:gL X pins H T) (x:Xc s.heap ea T cls .none) (hE:E cls none H) :
  pP X.prog X.w X.outer X.H₀ X.s₀ E (.ref ea) s:=by
 refine ⟨ea,T,cls,H,rfl,I.os,I.bare,?_,I.hok,ha.2.1,hT.2.1,ha.1,hT.1,x,hE⟩;have:=I.base;rw [hx] at this;exact this
theorem wO {E:XK}{ea T:Addr}{cls:Value}{Ea:Value->Shared->Prop} (I:Inv X pins σ H s) (hx:X.ex=[]) (hs:X.stack=X.env :: X.outer) (hf:X.env.frame=some X.env.locals) (ha:gL X pins H ea) (hT:gL X pins H T) (x:Xc s.heap ea T cls .none) (hE:E cls none H) :
  wpAny (model X.prog X.w) X.A (leaving X.env (.ref ea)) (fun _ s'=>pP X.prog X.w X.outer X.H₀ X.s₀ E (.ref ea) s') Ea s:=by
 unfold leaving;have fr:X.A.frames=some (X.env :: X.outer):=by rw [I.ok.frames,hs]
 refine wpAny_bind (v1 fr (by rw [<- hs]; exact I.stack) hf x fun h1 T1 hT1 x1 p1=>?_);have I1:=I.psd (by rw [hs]; exact p1) (fun r hr=>by simp at hr; rcases hr with rfl | rfl<;>assumption);have a1:gL X pins H T1:=I.alien hx (Heap.get?_none_of_le hT1) (I.hok.fresh hT1);refine n_ (s:={ s with heap:=h1 }) x1 fun h2 x2 p2=>?_;have I2:=I1.psd (p2.mono (by simp) fun b z=>z) (fun r hr=>by simp at hr; rw [hr]; exact a1);exact v3 I2 hx hs ha a1 x2 hE
theorem eC {E:XK} (hx:X.ex=[]:=by rfl) (hs:X.stack=X.env :: X.outer:=by rfl) (hf:X.env.frame=some X.env.locals:=by rfl)
  (he:∀ e s',wpAny (model X.prog X.w) X.A (leaving X.env e) (fun _ s''=>pP X.prog X.w X.outer X.H₀ X.s₀ E e s'') (fun e' s''=>pP X.prog X.w X.outer X.H₀ X.s₀ E e' s'') s'->X.xe e s':=by exact fun _ _ h=>h):eu (pP X.prog X.w) X E:=by
 intro pins σ H s e s' I hcx;obtain ⟨ea,T,cls,H',rfl,os,bare,un,hok,n1,n2,z1,z2,x,hE⟩:=hcx;have I':Inv X pins σ H' s':=I.call' os un hok bare (fun b z=>nomatch z);exact he _ _ (wO I' hx hs hf (I.alien hx n1 z1) (I.alien hx n2 z2) x hE)
noncomputable def AN (C:Addr) (E:XK) (t:TA):TS:=fun _ σ H=>t σ H fun vs H1=>vs.length<=sizeLine/\E (.ref C) none H1
theorem xl {E:XK}{x:Str}{C:Addr}{B newId initId:String}{bm:List Value}{e₀:Expr}{es:List Expr}{t:TA}{np cpos pos:Pos} (hm:X.mg x=some (.ref C)) (hq:PySem.W.excIn X.K C bm newId=true) (FB:ExcBaseFacts B newId initId bm) (hc:X.calm=true) (hg:Gl X x) (ha:PA X (e₀ :: es) t)
  (hx:X.ex=[]:=by rfl) (hs:X.stack=X.env :: X.outer:=by rfl) (hf:X.env.frame=some X.env.locals:=by rfl)
  (he:∀ e s',wpAny (model X.prog X.w) X.A (leaving X.env e) (fun _ s''=>pP X.prog X.w X.outer X.H₀ X.s₀ E e s'') (fun e' s''=>pP X.prog X.w X.outer X.H₀ X.s₀ E e' s'') s'->X.xe e s':=by exact fun _ _ h=>h)
  (hst:starEach (e₀ :: es) X.env=(false,eval e₀ X.env) :: starEach es X.env:=by rfl) (hpl:(backTo cpos (starEach es X.env)).any (·.1)=false:=by rfl) (hd:(x==("__debug__":Str))=false:=by decide) :
  PS X (.Raise (some (.Call (.Name x np) (e₀ :: es) [] cpos)) none pos) (AN C E t):=by
 intro pins s σ H D I h;have O:=uk I.ok.mod.kin hm hq;obtain ⟨tl,N,nm,q,bs,hdct,sn,sub,ab,col,dd,k0,k1,k2,k3,k5,mN,hC,hN,hni,T⟩:=O.obj;refine wpAny_Raise_call_subT (C:=C) (nm:=nm) (q:=q) (N:=N) (bs:=bs) (bm:=tl) (hdct:=hdct) (sn:=sn) (sub:=sub) (ab:=ab) (col:=col) (dd:=dd) (k0:=k0) (k1:=k1) (k2:=k2) (k3:=k3) (k5:=k5)
  FB (mN:=mN) (T.hasType FB.hasBase) (I.ok.hd hc) (by rw [hst]; show (false || (backTo cpos (starEach es X.env)).any (·.1))=false; rw [hpl]; rfl) hni (kg I hg O.bound ⟨rfl,?_⟩ hd)
 have ha':=ha cpos pins s σ H _ I h;rw [hst] at ha' ⊢;refine Calls.evalArgs_plain (bE ha' fun us s1 ⟨vs,H1,I1,r,hz,hE⟩=>⟨rfl,by rw [<- Paired.length r]; exact hz,I1.bk _ _ hC,hN.keeps I1.bk,T.keeps I1.bk,fun h' e mx=>he _ _ ?_⟩);obtain ⟨t0,e1,_,_⟩:=mx.there;have I2:Inv X pins σ H1 { s1 with heap:=h' }:=I1.kept (t':=s1.toks) mx.keeps;have ae:gL X pins H1 e:=I1.alien hx mx.new (I1.hok.no mx.new);unfold leaving;have fr:X.A.frames=some (X.env :: X.outer):=by rw [I.ok.frames,hs]
 refine wpAny_bind (yz (s:={ s1 with heap:=h' }) fr (by rw [<- hs]; exact I2.stack) hf e1 rfl rfl fun h1 T1 hT1 x1 p1=>?_);have I3:=I2.psd (by rw [hs]; exact p1) (fun r hr=>by simp at hr; rw [hr]; exact ae);have a1:gL X pins H1 T1:=I2.alien hx (Heap.get?_none_of_le hT1) (I2.hok.fresh hT1);refine n_ (s:={ s1 with heap:=h1 }) x1 fun h2 x2 p2=>?_;have I4:=I3.psd (p2.mono (by simp) fun b z=>z) (fun r hr=>by simp at hr; rw [hr]; exact a1);exact v3 I4 hx hs ae a1 x2 hE
end
section
variable {X:Cx}{pins:List (Addr×Obj)}{σ:St}{H:Hp}{s:Shared}
theorem Inv.into (I:Inv X pins σ H s) (xe:Value->Shared->Prop):Inv { X with pn:=X.pn++pins,xe:=xe } [] σ H s :=
 ⟨⟨I.ok.mod,I.ok.kind,I.ok.glob,I.ok.blt,I.ok.above,I.ok.inj,I.ok.has,I.ok.cab,I.ok.hd,I.ok.frames,I.ok.stk,I.ok.exf,I.ok.bs,I.ok.bsz,I.ok.noex,I.ok.exfs,I.ok.funs,I.ok.frf⟩,I.os,I.bare,I.base,I.loc,I.cell,I.free,I.freeC,fun p hp=>I.pin p (by simpa using hp),I.hok,I.len⟩
theorem Inv.outof {pn pins':List (Addr×Obj)}{xe:Value->Shared->Prop} (hp:pn=X.pn++pins) (I:Inv { X with pn:=pn,xe:=xe } pins' σ H s):Inv X pins σ H s :=
 ⟨⟨I.ok.mod,I.ok.kind,I.ok.glob,I.ok.blt,I.ok.above,I.ok.inj,I.ok.has,I.ok.cab,I.ok.hd,I.ok.frames,I.ok.stk,I.ok.exf,I.ok.bs,I.ok.bsz,I.ok.noex,I.ok.exfs,I.ok.funs,I.ok.frf⟩,I.os,I.bare,I.base,I.loc,I.cell,I.free,I.freeC,fun p q=>I.pin p (List.mem_append_left _ (by show p∈pn; rw [hp]; exact q)),I.hok,I.len⟩
abbrev Cx.caught (X:Cx) (e:Addr):Cx:={ X with A:=X.A.mark (some (.ref e)),calm:=false,xe:=fun _ _=>False }
theorem Inv.catch (I:Inv X pins σ H s) (e:Addr):Inv (X.caught e) pins σ H s :=
 ⟨⟨I.ok.mod,I.ok.kind,I.ok.glob,I.ok.blt,I.ok.above,I.ok.inj,I.ok.has,I.ok.cab,(fun z=>nomatch z),I.ok.frames,I.ok.stk,I.ok.exf,I.ok.bs,I.ok.bsz,I.ok.noex,I.ok.exfs,I.ok.funs,I.ok.frf⟩,I.os,I.bare,I.base,I.loc,I.cell,I.free,I.freeC,I.pin,I.hok,I.len⟩
theorem Inv.uncatch {e:Addr} (hd:X.calm=true->X.A.handled=none) (hfr:X.A.frames=some X.stack) (I:Inv (X.caught e) pins σ H s):Inv X pins σ H s :=
 ⟨⟨I.ok.mod,I.ok.kind,I.ok.glob,I.ok.blt,I.ok.above,I.ok.inj,I.ok.has,I.ok.cab,hd,hfr,I.ok.stk,I.ok.exf,I.ok.bs,I.ok.bsz,I.ok.noex,I.ok.exfs,I.ok.funs,I.ok.frf⟩,I.os,I.bare,I.base,I.loc,I.cell,I.free,I.freeC,I.pin,I.hok,I.len⟩
end
section
variable {X:Cx}
noncomputable def v4 (C:Addr) (ts:TS) (D:Ends) (n:Nat):XK:=fun cls _ H=>cls=.ref C/\∀ σ:St,σ.length=n->ts D σ H
noncomputable def Dx (C:Addr) (tb:XK->TS) (ts:TS):TS:=fun D σ H=>tb (v4 C ts D σ.length) D σ H
theorem Bb {x:Str}{C:Addr}{newId:String}{bm:List Value}{body:List Stmt}{b₀:Stmt}{suite:List Stmt}{tb:XK->TS}{ts:TS}{np hp pos:Pos} (hm:X.mg x=some (.ref C)) (hq:PySem.W.excIn X.K C bm newId=true) (hbase:bm.contains (.type "BaseException")=true) (hg:Gl X x)
  (hb:∀ (pn:List (Addr×Obj)) (xe:Value->Shared->Prop) (E:XK),eu (pP X.prog X.w) { X with pn:=pn,xe:=xe } E->gI { X with pn:=pn,xe:=xe } body (tb E))
  (hh:∀ e,gI (X.caught e) (b₀ :: suite) ts)
  (hx:X.ex=[]:=by rfl) (hs:X.stack=X.env :: X.outer:=by rfl) (hf:X.env.frame=some X.env.locals:=by rfl) (hd:(x==("__debug__":Str))=false:=by decide) :
  PS X (.Try body [.ExceptHandler (some (.Name x np)) none (b₀ :: suite) hp] [] [] pos) (Dx C tb ts):=by
 intro pins s σ H D I hw;have O:=uk I.ok.mod.kin hm hq;refine wpAny_Try_except ?_;generalize hxe:(fun (e:Value) (s₁:Shared)=>wpAny (model X.prog X.w) X.A (noteFrame e X.env) (fun _ s₂=>wpAny (model X.prog X.w) X.A (setFlight e none) (fun _ s₃=>wpAny (model X.prog X.w) X.A (handleBy e X.env [.ExceptHandler (some (.Name x np)) none (b₀ :: suite) hp]) (SP X pins D) X.xe s₃) X.xe s₂) X.xe s₁)=xe;have P1:eu (pP X.prog X.w) { X with pn:=X.pn++pins,xe:=xe } (v4 C ts D σ.length):=by
  intro pins' σ' H1 s1 e s2 I1 hcx;obtain ⟨ea,T,cls,H',rfl,os,bare,un,hok,n1,n2,z1,z2,x0,rfl,hE⟩:=hcx;have I2:Inv X pins σ' H' s2:=Inv.outof rfl (I1.call' os un hok bare (fun b z=>nomatch z));have J1:Inv X pins σ' H1 s1:=Inv.outof rfl I1;have ae:=J1.alien hx n1 z1;have aT:=J1.alien hx n2 z2;show xe (.ref ea) s2;rw [<- hxe];have fr:X.A.frames=some (X.env :: X.outer):=by rw [I.ok.frames,hs]
  refine v1 fr (by rw [<- hs]; exact I2.stack) hf x0 fun h3 T3 hT3 x3 p3=>?_;have I3:=I2.psd (by rw [hs]; exact p3) (fun r hr=>by simp at hr; rcases hr with rfl | rfl<;>assumption);have a3:gL X pins H' T3:=I2.alien hx (Heap.get?_none_of_le hT3) (I2.hok.fresh hT3);refine n_ (s:={ s2 with heap:=h3 }) x3 fun h4 x4 p4=>?_;have I4:=I3.psd (p4.mono (by simp) fun b z=>z) (fun r hr=>by simp at hr; rw [hr]; exact a3);refine wpAny_handleBy_cons (codeAny_handlers_test (kg (X:=X.caught ea) (I4.catch ea) hg O.bound ?_ hd)) (by intro z; cases z);obtain ⟨oe,he,hcls⟩:=x4.cls;obtain ⟨tl,N,nm,q,bs,hdct,sn,sub,ab,col,dd,k0,k1,k2,k3,k5,mN,hC,hN,hni,TT⟩:=O.obj;refine wpAny_excMatches_sub_self (I4.bk _ _ hC) he hcls (TT.hasType hbase) ?_;refine codeAny_handlers_suite (n_ (s:={ s2 with heap:=h4 }) x4 fun h5 x5 p5=>?_);have I5:=I4.psd (p5.mono (by simp) fun b z=>z) (fun r hr=>by simp at hr; rw [hr]; exact a3);refine wpAny_mono (hh ea pins { s2 with heap:=h5 } σ' H' D (I5.catch ea) (hE σ' (I2.len.trans I.len.symm))) (fun f s6 hq=>?_) (fun _ _ z=>z.elim);have un:∀ {σ6:St}{H6:Hp},Inv (X.caught ea) pins σ6 H6 s6->Inv X pins σ6 H6 s6:=fun J=>J.uncatch I.ok.hd I.ok.frames;cases f with
  | next=>obtain ⟨σ6,H6,J,q6⟩:=hq; exact ⟨σ6,H6,un J,q6⟩
  | brk=>obtain ⟨σ6,H6,J,q6⟩:=hq; exact ⟨σ6,H6,un J,q6⟩
  | cont=>obtain ⟨σ6,H6,J,q6⟩:=hq; exact ⟨σ6,H6,un J,q6⟩
  | ret u=>obtain ⟨v6,σ6,H6,J,r6,q6⟩:=hq; exact ⟨v6,σ6,H6,un J,r6,q6⟩
 refine wpAny_mono (hb _ xe _ P1 [] s σ H D (I.into xe) hw) (fun f s1 hq=>?_) (fun _ _ z=>z);cases f with
 | next=>obtain ⟨σ6,H6,J,q6⟩:=hq; exact wpAny_execs_nil ⟨σ6,H6,J.outof rfl,q6⟩
 | brk=>obtain ⟨σ6,H6,J,q6⟩:=hq; exact ⟨σ6,H6,J.outof rfl,q6⟩
 | cont=>obtain ⟨σ6,H6,J,q6⟩:=hq; exact ⟨σ6,H6,J.outof rfl,q6⟩
 | ret u=>obtain ⟨v6,σ6,H6,J,r6,q6⟩:=hq; exact ⟨v6,σ6,H6,J.outof rfl,r6,q6⟩
end
structure OwnX (P:Program) (w:World) (K:Frag) (mg:Str->Option Value) (base:Heap) (x:Str) (k:Nat) (ps:List Str) (sp:Sp):Prop where
 ex:∃ f fd,FnOk P w K mg base (pP P w) k f fd ps sp/\mg x=some (.ref f)/\PySem.W.keepIn K (.ref f)=true/\∀ us:List Value,us.length=ps.length->bindArgs fd ⟨us,[]⟩=pure (ps.zip us)
structure OwnMX (P:Program) (w:World) (K:Frag) (mg:Str->Option Value) (base:Heap) (C:Addr) (m:Str) (k:Nat) (ps:List Str) (sp:Sp):Prop where
 ex:∃ f fd,FnOk P w K mg base (pP P w) k f fd ps sp/\Meth K C m f/\∀ us:List Value,us.length=ps.length->bindArgs fd ⟨us,[]⟩=pure (ps.zip us)
section
variable {P:Program}{w:World}{K:Frag}{mg:Str->Option Value}{base:Heap}{C:Addr}
theorem Fun.okX {x qual:Str}{st:Stmt}{f:Addr}{fd:FuncData}{N ps:List Str}{k:Nat}{sp:Sp} (F:Fun K x qual st f fd) (S:FnScope N ps (ao st)) (len:∀ vs H Q E,sp vs H Q E->vs.length=ps.length)
  (hbody:∀ (cdv:Value) (A:Around) (outer:List Env) (s:Shared) (H:Hp) (vs:List V) (Q:VK) (E:XK),Room k (A.deeper (envOfC qual (ao st) s.heap.objs.size f cdv))->sp vs H Q E ->
   ∃ t,gI (jO (pP P w) P w K mg base N qual (ao st) f cdv A outer s H E) (bM st) t/\t { nx:=fun _ H'=>Q .non H',rt:=Q } (start N vs) H):FnOk P w K mg base (pP P w) (k+1) f fd ps sp:=by
 obtain ⟨oc,od,kV,doc,pm,an,cdv,ct,osl,rfl,lk,hcd⟩:=F.ex;exact Aq lk hcd S len fun A outer s H vs Q E hr hsp=>hbody cdv A outer s H vs Q E hr hsp
theorem DefAt.ownX {x:Str}{st:Stmt}{N ps:List Str}{k:Nat}{sp:Sp} (D:DefAt K mg x st ps) (S:FnScope N ps (ao st)) (len:∀ vs H Q E,sp vs H Q E->vs.length=ps.length)
  (hbody:∀ (f:Addr) (cdv:Value) (A:Around) (outer:List Env) (s:Shared) (H:Hp) (vs:List V) (Q:VK) (E:XK),Room k (A.deeper (envOfC x (ao st) s.heap.objs.size f cdv))->sp vs H Q E ->
   ∃ t,gI (jO (pP P w) P w K mg base N x (ao st) f cdv A outer s H E) (bM st) t/\t { nx:=fun _ H'=>Q .non H',rt:=Q } (start N vs) H):OwnX P w K mg base x (k+1) ps sp:=by
 obtain ⟨f,fd,F,hm,hb⟩:=D.ex;exact ⟨f,fd,F.okX S len (hbody f),hm,F.kp,hb⟩
theorem MethAt.ownX {x qual:Str}{st:Stmt}{N ps:List Str}{k:Nat}{sp:Sp} (D:MethAt K C x qual st ps) (S:FnScope N ps (ao st)) (len:∀ vs H Q E,sp vs H Q E->vs.length=ps.length)
  (hbody:∀ (f:Addr) (cdv:Value) (A:Around) (outer:List Env) (s:Shared) (H:Hp) (vs:List V) (Q:VK) (E:XK),Room k (A.deeper (envOfC qual (ao st) s.heap.objs.size f cdv))->sp vs H Q E ->
   ∃ t,gI (jO (pP P w) P w K mg base N qual (ao st) f cdv A outer s H E) (bM st) t/\t { nx:=fun _ H'=>Q .non H',rt:=Q } (start N vs) H):OwnMX P w K mg base C x (k+1) ps sp:=by
 obtain ⟨f,fd,F,hm,hb⟩:=D.ex;exact ⟨f,fd,F.okX S len (hbody f),hm,hb⟩
end
noncomputable def z_ (sp:Sp) (E:XK) (t:TA):TE:=fun σ H Q=>t σ H fun vs H1=>sp vs H1 Q E
noncomputable def wa (C:Addr) (m:Str) (sp:Sp) (E:XK) (ta:TE) (t:TA):TE:=fun σ H Q=>ta σ H fun x H1=>∃ a dx fs,x=.ref a/\H1 a=some (.ins C dx fs)/\fs.lookup m=none/\t σ H1 fun vs H2=>sp (x :: vs) H2 Q E
section
variable {X:Cx}
theorem yX {E:XK}{x:Str}{j k:Nat}{ps:List Str}{sp:Sp}{e:Expr}{es:List Expr}{t:TA}{p pos:Pos} (O:OwnX X.prog X.w X.K X.mg X.base x j ps sp) (hp:eu (pP X.prog X.w) X E) (hr:Room k X.A) (hg:Gl X x) (ha:PA X (e :: es) t) (hj:j<=k:=by first | decide | omega) (hdb:(x==("__debug__":Str))=false:=by decide)
  (he:starEach (e :: es) X.env=(false,eval e X.env) :: starEach es X.env:=by rfl) (hpl:(backTo pos (starEach es X.env)).any (·.1)=false:=by rfl):PE X (.Call (.Name x p) (e :: es) [] pos) (z_ sp E t):=by
 obtain ⟨f,fd,F,a,b,c⟩:=O.ex;refine (t_ (dvs:=[]) (E:=E) F (hr.mono hj) hg a b (fc.all c) .nil hp ha hdb he hpl).imp fun σ H Q h=>?_;unfold vT;unfold z_ at h;simpa only [List.append_nil] using h
theorem bC {E:XK}{C:Addr}{m:Str}{j k:Nat}{ps:List Str}{sp:Sp}{o e:Expr}{es:List Expr}{ta:TE}{t:TA}{apos pos:Pos}{pl:Sem Bool} (he:PE X o ta) (c:Cls X.K C) (O:OwnMX X.prog X.w X.K X.mg X.base C m j ps sp) (hp:eu (pP X.prog X.w) X E) (hr:Room k X.A) (ha:PA X (e :: es) t) (hj:j<=k:=by first | decide | omega)
  (hst:starEach (e :: es) X.env=(false,eval e X.env) :: starEach es X.env:=by rfl) (hpl:(backTo pos (starEach es X.env)).any (·.1)=false:=by rfl)
  (ht:eval (.Call (.Attribute o m apos) (e :: es) [] pos) X.env=(do
   let ov <- eval o X.env
   standAt apos.atName
   let (f,first) <- holding [ov] (getMethod ov m pl)
   callWith pos f first (backTo pos (starEach (e :: es) X.env)) (backToKw pos (keywordEach [] X.env))):=by rfl) :
  PE X (.Call (.Attribute o m apos) (e :: es) [] pos) (wa C m sp E ta t):=by
 obtain ⟨f,fd,F,hm,hb⟩:=O.ex;refine (t8 (dvs:=[]) (E:=E) he c hm F (hr.mono hj) (fc.all hb) .nil hp ha hst hpl ht).imp fun σ H Q h=>?_;unfold pV;unfold wa at h;simpa only [List.append_nil] using h
noncomputable def wc (C:Addr) (m:Str) (sp:Sp) (ta:TE):TE:=fun σ H Q=>ta σ H fun x H1=>∃ a dx fs,x=.ref a/\H1 a=some (.ins C dx fs)/\fs.lookup m=none/\sp [x] H1 Q E0
end
end L2
namespace L2
open PySem PySem.Spec PyProof.Rows _root_.Own
noncomputable def BU (v d:Addr):HO:=.ext fun h=>h.IsValuesView v d
theorem AJ {P:Program}{w:World}{H:Hp}{h:Heap}{v d:Addr} (x:h.IsValuesView v d):a6 P w H h v (BU v d) :=
 ⟨x,let ⟨o,e,_⟩:=x; ⟨o,e⟩,fun _ _ ⟨o,e,r⟩ k=>⟨o,k o e,r⟩⟩
section
variable {X:Cx}
theorem u6:Cc X "dict.values" (fun x xs H Q=>∃ d kvs,x=.ref d/\xs=[]/\Rd H d (.dK kvs)/\∀ v,H v=none->Q (.ref v) (aw H v (BU v d))):=by
 intro pins s σ H x xs v us Q I rx rs h;obtain ⟨d,kvs,rfl,rfl,hd,q⟩:=h;cases rx;cases rs;obtain ⟨z,hm,vs,rel,dd⟩:=dX I.hok hd;refine call_meetsIn PySem.F.slot_dict_values dd.typeIs PySem.F.entry_dict_values (PySem.F.args_dict_values_1 _) (meets_dict_values (aX X.prog X.w) d hm) ⟨⟨vs,dd⟩,?_⟩;refine ⟨.ref s.heap.objs.size,_,I.laid (t':=s.toks) (o:=BU s.heap.objs.size d) (fun _ _ e=>Heap.get?_push_of_some _ e) (Nat.le_refl _) (AJ ⟨_,Heap.get?_push_size _ rfl,rfl,rfl⟩),rfl,q _ (I.hok.fresh (Nat.le_refl _))⟩
theorem sS (hc:X.calm=true:=by rfl):bS X (.type "list") (fun xs H Q=>∃ v d kvs,xs=[.ref v]/\H v=some (BU v d)/\Rd H d (.dK kvs)/\∀ l,H l=none->Q (.ref l) (aw H l (.lst (kvs.map (·.2))))):=by
 intro pins s σ H xs us Q I r h;obtain ⟨v,d,kvs,rfl,hv,hd,q⟩:=h;obtain ⟨u,rfl,ru⟩:=dS r;cases ru;obtain ⟨iv,_,_⟩:=(show a6 X.prog X.w H s.heap v (BU v d) from I.hok v _ hv);obtain ⟨hz,lo,vs,rel,dd⟩:=dX I.hok hd;obtain ⟨ep,da⟩:=dd.dictAt;have hl:kvs.length=vs.length:=Paired.length rel;refine PySem.W.kdl_call (PySem.W.kdl_values (knd:=aX X.prog X.w) (kvs:=vs) (ep:=ep)) (I.ok.hd hc) ⟨iv,da⟩ (by omega) fun h' tk acc c k hL hacc=>?_;have hn:=I.hok.fresh (Nat.le_refl s.heap.objs.size);refine ⟨.ref s.heap.objs.size,_,I.laid (t':=tk) (o:=.lst (kvs.map (·.2))) k (Nat.le_refl _) ⟨by rw [List.length_map]; exact hz,acc.toList,c,?_,by simpa using hL⟩,rfl,q _ hn⟩;have ha:acc.toList.length=vs.length:=by rw [Array.length_toList]; exact hacc.1
 refine cc (by rw [List.length_map]; omega) fun j a b h1 h2=>?_;obtain ⟨kk,h3⟩:=hacc.2 j b (by rw [<- Array.getElem?_toList]; exact h2);rw [List.getElem?_map] at h1;cases e:kvs[j]? with
 | none=>rw [e] at h1; cases h1
 | some pr =>
  rw [e] at h1; cases h1;exact (bn (show Paired _ _ _ from rel) e h3).2
theorem rZ {ns:List Int}{vs:List Value} (r:aL (ns.map V.int) vs) (h:Heap):SortC X.prog X.w vs oneType' (fun i j=>decide (ns.getD i 0 < ns.getD j 0)) h where
 ord:=y6 fun i=>ns.getD i 0
 kind:=fun l2 A s' Q k q=>by
  match vs,l2,lR r with
  | _ :: _ :: _,_,hI=>rw [keyKind_ints hI]; exact wpAny_pure q
 lt:=fun i j A s' Q hi hj k q=>by
  have hl:=r.length;rw [List.length_map] at hl;have g:∀ n,n < vs.length->∃ t,vs.getD n Value.none=Value.int (ns.getD n 0) t:=fun n hn=>by
   have hn':n < ns.length:=by omega
   obtain ⟨u,hu,ru⟩:=r.get (show (ns.map V.int)[n]? = some (.int ns[n]) by simp [hn']);obtain ⟨t,e⟩:=(show ∃ t,u=Value.int ns[n] t from ru);exact ⟨t,by rw [List.getD_eq_getElem?_getD,hu]; simp [e,hn']⟩
  obtain ⟨t,e1⟩:=g i hi;obtain ⟨t',e2⟩:=g j hj;rw [e1,e2];exact PySem.W.kat_lt_int q
noncomputable def BH (d:Addr) (H:Hp) (Q:VK):Prop:=∃ (ns:List Int) (kvs:List (a5×V)),Rd H d (.dK kvs)/\kvs.map (·.1)=ns.map Sum.inl/\ns.length < 64/\∀ ns':List Int,ns'.Perm ns->ns'.Pairwise (· < ·)->∀ p,H p=none->Q (.ref p) (aw H p (.lst (ns'.map V.int)))
theorem sP (hc:X.calm=true:=by rfl):bS X (.builtin "sorted") (fun xs H Q=>∃ d,xs=[.ref d]/\BH d H Q):=by
 intro pins s σ H xs us0 Q I r h;obtain ⟨d,rfl,ns,kvs,hd,hk,h64,q⟩:=h;obtain ⟨u,rfl,ru⟩:=dS r;cases ru;obtain ⟨hz,lo,vs0,rel,dd⟩:=dX I.hok hd;have c_:(vs0.map (·.1)).Nodup:=by obtain ⟨_,_,_,_,_,_,_,_,n⟩:=id dd; exact n
 obtain ⟨ep,da⟩:=dd.dictAt;have hl:kvs.length=vs0.length:=Paired.length rel;have hkl:kvs.length=ns.length:=by have:=congrArg List.length hk; simpa using this
 have hn:ns.Nodup:=by
  have e:=rel.keys;rw [hk] at e;rw [<- e] at c_;exact List.Pairwise.of_map _ (fun a b h z=>h (congrArg _ z)) c_
 refine lI fun A' hA=>PySem.W.kdu_collect (PySem.W.kdl_dict (knd:=aX X.prog X.w) (kvs:=vs0) (ep:=ep) lo) (hA.trans (I.ok.hd hc)) da (by omega) fun h' tk acc k hacc=>?_;have I1:Inv X pins σ H { s with heap:=h',toks:=tk }:=I.kept k;have ha:acc.toList.length=ns.length:=by rw [Array.length_toList,hacc.1]; omega
 have rv:aL (ns.map V.int) acc.toList:=cc (by rw [List.length_map,ha]) fun j a b h1 h2=>by
  obtain ⟨kk,xx,h3,h4⟩:=hacc.2 j b (by rw [<- Array.getElem?_toList]; exact h2);rw [List.getElem?_map] at h1;cases e:ns[j]? with
  | none=>rw [e] at h1; cases h1
  | some n =>
   rw [e] at h1; cases h1;have hj:j < kvs.length:=by have:=(List.getElem?_eq_some_iff.mp e).1; omega
   have:=bn (show Paired _ _ _ from rel) (List.getElem?_eq_getElem hj) h3;have e2:(kvs[j]).1=Sum.inl n:=by
    have e3:=congrArg (fun l=>l[j]?) hk;simp only [List.getElem?_map,List.getElem?_eq_getElem hj,e,Option.map_some] at e3;exact Option.some.inj e3
   have e4:kk=Sum.inl n:=by rw [<- e2]; exact this.1.symm
   subst e4;rcases bv (show io (Sum.inl n) b=true from h4) with ⟨i,t,e7,e8⟩ | ⟨y,t,e7,_⟩
   ·cases e7; subst e8; exact ⟨t,rfl⟩
   ·cases e7
 refine ⟨by omega,_,_,rZ (X:=X) rv h',fun p pp up h2 k2 hn2=>qe I1 rv (by rw [List.length_map]; omega) pp k2 hn2 fun pq hq=>?_⟩;have lt:∀ i∈p.toList,i < ns.length:=fun i hi=>by have:=g7 pp i hi; omega
 have hsz:p.size=acc.toList.length:=by have:=pp.size_eq; simpa using this
 have pr:=je ns 0 (p:=p) (by rw [<- ha]; exact pp);have e:(p.toList.map fun i=>(ns.map V.int).getD i .non)=(p.toList.map fun i=>ns.getD i 0).map V.int:=by
  rw [List.map_map];apply List.map_congr_left;intro i hi;have:=lt i hi;simp [this]
 rw [e];refine q _ pr ?_ pq hq;refine m5 (f:=fun x:Int=>x) (by rw [List.map_id']; exact pr.nodup_iff.mpr hn) (jB (c:=fun i j=>decide (ns.getD i 0 < ns.getD j 0)) hsz up fun i j h=>of_decide_eq_false h)
noncomputable def CP:V->List V->Hp->VK->Prop:=fun x xs H Q=>∃ a kvs k v,x=.ref a/\H a=some (.dK kvs)/\xs=[kV k,v]/\kvs.length < sizeLine/\(∀ u,a7 kvs k=some u->Q u H)/\(a7 kvs k=none->Q v (aw H a (.dK (bo kvs k v))))
theorem u7:Dt X "dict.setdefault" CP:=by
 intro pins s σ H x xs v us Q I rx rs h;obtain ⟨a,kvs,k,v0,rfl,ha,rfl,hz,q1,q2⟩:=h;cases rx;obtain ⟨u,r,rfl,ru,rr⟩:=aL.two rs;obtain ⟨z,hd,vs,rel,dd⟩:=tj I.hok ha;refine call_meetsIn PySem.F.slot_dict_setdefault dd.typeIs PySem.F.entry_dict_setdefault (PySem.F.args_dict_setdefault_3 _ _ _) (kt_meets_setdefault (aX X.prog X.w) a (jx ru) hd r) ⟨vs,dd,by rw [<- rel.length]; exact z,fun w' hw=>?_,fun hn h' dd' hs=>?_⟩
 ·obtain ⟨o,ho,ro⟩:∃ o,a7 kvs k=some o/\RelV o w':=by
   have:=rel.val k;rw [hw] at this;cases e:a7 kvs k with
   | none=>rw [e] at this; exact this.elim
   | some o=>rw [e] at this; exact ⟨o,rfl,this⟩
  exact ⟨o,H,I.tok _,ro,q1 o ho⟩
 ·have hn':a7 kvs k=none:=by
   have:=rel.val k;rw [hn] at this;cases e:a7 kvs k with
   | none=>rfl
   | some o=>rw [e] at this; exact this.elim
  have he:∃ q,h'.get? a=some q:=let ⟨q,_,_,hq,_⟩:=dd'; ⟨q,hq⟩;have hl:(bo kvs k v0).length<=sizeLine:=by have:=c6 kvs k v0; omega
  exact ⟨v0,_,iy I (by rw [ha]; exact True.intro) hs he (om hl hd (rel.put k rr) dd'),rr,q2 hn'⟩
theorem vA (hc:X.calm=true:=by rfl):bS X (.builtin "max") (fun xs H Q=>match xs with | [.int i,.int j]=>Q (.int (if i < j then j else i)) H | _=>False):=(vB hc).imp fun xs H Q h=>by
 split at h
 ·exact ⟨_,_,rfl,h⟩
 ·exact h.elim
theorem kZ {C:Addr}{m:Str}{j k:Nat}{ps:List Str}{sp:Sp}{o:Expr}{ta:TE}{apos pos:Pos}{pl:Sem Bool} (he:PE X o ta) (c:Cls X.K C) (O:OwnM X.prog X.w X.K X.mg X.base C m j ps sp) (hr:Room k X.A) (hj:j<=k:=by first | decide | omega)
  (ht:eval (.Call (.Attribute o m apos) [] [] pos) X.env=(do
   let ov <- eval o X.env
   standAt apos.atName
   let (f,first) <- holding [ov] (getMethod ov m pl)
   callWith pos f first (backTo pos (starEach [] X.env)) (backToKw pos (keywordEach [] X.env))):=by rfl) :
  PE X (.Call (.Attribute o m apos) [] [] pos) (wc C m sp ta):=by
 obtain ⟨f,fd,F,hm,hb⟩:=O.ex;refine (xo (dvs:=[]) (E:=E0) he c hm F (hr.mono hj) (fc.all hb) .nil s_ ht).imp fun σ H Q h=>?_;unfold pV kA;unfold wc at h;simpa only [List.append_nil] using h
end
end L2
namespace L2
open PySem PySem.Spec PyProof.Rows
structure CtorAt (K:Frag) (mg:Str->Option Value) (C:Addr) (x qual:Str) (st:Stmt) (ps:List Str):Prop where
 ex:∃ f fd,Mk K C f/\Fun K "__init__" qual st f fd/\mg x=some (.ref C)/\∀ us:List Value,us.length=ps.length->bindArgs fd ⟨us,[]⟩=pure (ps.zip us)
structure OwnC (P:Program) (w:World) (K:Frag) (mg:Str->Option Value) (base:Heap) (C:Addr) (x:Str) (k:Nat) (ps:List Str) (sp:Sp):Prop where
 ex:∃ f fd,Mk K C f/\FnOk P w K mg base uw k f fd ps sp/\mg x=some (.ref C)/\∀ us:List Value,us.length=ps.length->bindArgs fd ⟨us,[]⟩=pure (ps.zip us)
theorem CtorAt.own {P:Program}{w:World}{K:Frag}{mg:Str->Option Value}{base:Heap}{C:Addr}{x qual:Str}{st:Stmt}{N ps:List Str}{k:Nat}{sp:Sp} (D:CtorAt K mg C x qual st ps) (S:FnScope N ps (ao st)) (len:∀ vs H Q E,sp vs H Q E->vs.length=ps.length)
  (hbody:∀ (f:Addr) (cdv:Value) (A:Around) (outer:List Env) (s:Shared) (H:Hp) (vs:List V) (Q:VK) (E:XK),Room k (A.deeper (envOfC qual (ao st) s.heap.objs.size f cdv))->sp vs H Q E ->
   ∃ t,gI (jO uw P w K mg base N qual (ao st) f cdv A outer s H E).nox (bM st) t/\t { nx:=fun _ H'=>Q .non H',rt:=Q } (start N vs) H):OwnC P w K mg base C x (k+1) ps sp:=by
 obtain ⟨f,fd,M,F,hm,hb⟩:=D.ex;exact ⟨f,fd,M,F.ok S len (hbody f),hm,hb⟩
theorem iF {X:Cx}{C:Addr}{x:Str}{j k:Nat}{ps:List Str}{sp:Sp}{e:Expr}{es:List Expr}{t:TA}{p pos:Pos} (O:OwnC X.prog X.w X.K X.mg X.base C x j ps sp) (hr:Room k X.A) (hg:Gl X x) (ha:PA X (e :: es) t) (hj:j+1<=k:=by first | decide | omega) (hdb:(x==("__debug__":Str))=false:=by decide)
  (he:starEach (e :: es) X.env=(false,eval e X.env) :: starEach es X.env:=by rfl) (hpl:(backTo pos (starEach es X.env)).any (·.1)=false:=by rfl):PE X (.Call (.Name x p) (e :: es) [] pos) (vS C sp t):=by
 obtain ⟨f,fd,M,F,hm,hb⟩:=O.ex;exact yY M F hm hb hr hg ha hj hdb he hpl
theorem jj {K:Frag}{h:Heap}{mg:Str->Option Value}{C f:Addr}{x qual:Str}{st:Stmt}{ps:List Str}{oc kV doc pm cdv ct:Value}{od an:Option Addr}{osl:Array (Option Value)} (X:K.In h) (G:h.Ns mainGlobals mg)
  (a:PySem.W.nsIn K mainGlobals x=some (some (.ref C)):=by k_is) (a1:PySem.W.findIn K (.ref C) "__init__" = some (some (.ref f)):=by k_is) (i1:PySem.W.isFn K (.ref f)=true:=by k_is)
  (l:K.lookup f=some ⟨oc,od,.func (PySem.W.fnOf "__init__" qual (dh st) (bM st) (ao st) .none kV doc pm an cdv ct),osl⟩:=by k_is) (c:PySem.W.codeIn K cdv qual=true:=by k_is) (k:PySem.W.keepIn K (.ref f)=true:=by k_is) (mk:PySem.W.makesIn K C=true:=by k_is) (kc:PySem.W.keepIn K (.ref C)=true:=by k_is)
  (hb:∀ (kV doc pm:Value) (an:Option Addr) (cdv ct:Value) (us:List Value),us.length=ps.length->bindArgs (PySem.W.fnOf "__init__" qual (dh st) (bM st) (ao st) .none kV doc pm an cdv ct) ⟨us,[]⟩=pure (ps.zip us):=by intro _ _ _ _ _ _ us hl; first | exact vZ (fun _=>rfl) us hl | exact vY (fun _ _=>rfl) us hl | exact vX (fun _ _ _=>rfl) us hl | exact vW (fun _ _ _ _=>rfl) us hl | exact bind0 rfl us hl):CtorAt K mg C x qual st ps :=
 ⟨f,_,⟨mk,a1,i1,kc⟩,rP l c k,PySem.W.mg_of X G a,hb kV doc pm an cdv ct⟩
noncomputable def zp (tl:TE):TI:=fun σ H R=>tl σ H fun x H1=>∃ d kvs,x=.ref d/\H1 d=some (.dK kvs)/\∀ v o,H1 v=none->R (BX d o kvs) (aw (aw H1 v (rn v d)) d (.frz o (.dK kvs)))
theorem uX {X:Cx}{l:Expr}{tl:TE}{elts:List Expr}{kk:Nat}{pos apos cpos:Pos} (hl:PE X l tl) (hbase:attributeBase l "items" X.env (eval l X.env)=eval l X.env:=by rfl) (hline:(apos.endLine==cpos.line)=true:=by rfl):PI X (.Tuple elts kk pos) (.Call (.Attribute l "items" apos) [] [] cpos) (zp tl):=by
 intro pins s σ H R I h;refine wpAny_Call_method0_late hbase hline (bE (hl pins s σ H _ I h) fun v s1 ⟨x,H1,I1,r1,d,kvs,e,hd,q⟩=>?_);subst e;cases r1;obtain ⟨z,hm,vs,rel,dd⟩:=dX I1.hok (.inl hd);obtain ⟨ob,_,_,e1,ex,_⟩:=id dd;refine ⟨"dict","dict.items",PySem.F.plainAttrs_dict,PySem.F.slot_dict_items,PySem.F.type_dict_items,dd.typeIs,fun a e2=>by cases e2; exact ⟨ob,e1,ex.2.1⟩,
  Calls.callWith_builtin rfl (PySem.evalArgs_none (bE (qy pins s1 σ H1 (.ref d) [] (.ref d) [] (fun x H2=>∃ w,x=.ref w/\H1 w=none/\H2=aw H1 w (rn w d)) I1 rfl .nil ⟨d,kvs,rfl,rfl,.inl hd,fun w hw=>⟨w,rfl,hw,rfl⟩⟩) fun u s2 ⟨x2,H2,I2,r2,w,ex2,hw,eH⟩=>?_))⟩
 subst ex2 eH;cases r2;have hwd:d≠w:=ai hd hw;have hd2:(aw H1 w (rn w d)) d=some (.dK kvs):=(ad hwd).trans hd;have nf:∀ o v,X.H₀ d≠some (.frz o v):=fun o v e=>by
  have:=I2.base.frzs d o v e;rw [hd2] at this; cases this
 have x0:=I2.hok d _ hd2;obtain ⟨_,_,_,_,o2,es2,ep2,e3,c3,d3,_⟩:=id x0;have I3:=I2.relab hd2 (fun _ z=>nomatch z) (fun _ z=>nomatch z) (fun _ z=>nomatch z) nf (u':=.frz o2 (.dK kvs)) ⟨e3,x0⟩;have hv3:(aw (aw H1 w (rn w d)) d (.frz o2 (.dK kvs))) w=some (rn w d):=(ad (Ne.symm hwd)).trans upd_same;obtain ⟨iv,_,_⟩:=(show a6 X.prog X.w _ s2.heap w (rn w d) from I3.hok w _ hv3);obtain ⟨vs3,r3,hm3⟩:=oj I3.hok (upd_same:(aw (aw H1 w (rn w d)) d (.frz o2 (.dK kvs))) d=some (.frz o2 (.dK kvs))) d3;have hlen:kvs.length=vs3.length:=Paired.length r3;refine wpAny_pyIter_items iv hm3 ?_;refine ⟨s2.heap.objs.size,[s2.heap.objs.size],_,_,_,rfl,I3.kept (t':=s2.toks) fun b o e=>Heap.get?_push_of_some _ e,lD d _ o2 kvs d3,⟨.none,.none,by rw [hlen]; exact Heap.get?_push_size _ rfl⟩,fun b hb=>?_,q w o2 hw⟩;have e:b=s2.heap.objs.size:=by simpa using hb
 subst e;exact I3.fpOk (Nat.le_refl _) (I3.hok.fresh (Nat.le_refl _))
end L2
namespace Hl
open PySem L2
abbrev cr:=List (Int×(Int×Str))
structure PScr where
 prom:Int
 row:cr
 seen:Int
structure PLd where
 num:Int
 told:List (Int×cr)
 op:Bool
 said:List (Int×Str)
 hands:List (Int×List Int)
structure PH where
 cnt:Int
 scrs:List PScr
 leads:List (Int×PLd)
 stop:List Int
 wrs:List (Int×Int×Int×Str)
inductive Deed where
 | rise (o:Int) | ask (o p:Int) | say (o:Int) (s:Str) | write (o p pl:Int) | settled (o:Int) | stop (o:Int) | wake (o:Int)
inductive Ans where
 | non | int (i:Int) | bl (b:Bool) | str (s:Str) | prs (l:List (Int×Str))
noncomputable def uz:PScr:=⟨-1,[],-1⟩
noncomputable def init (n:Nat):PH:=⟨n,List.replicate n uz,[],[],[]⟩
noncomputable def cw (cnt:Int) (n:Int):Bool:=decide (cnt < 2 * n)
noncomputable def bx (cnt own seen:Int):Int:=seen+1+(own - (seen+1)) % cnt
noncomputable def bN (b:cr) (p:Int×(Int×Str)):cr:=match aq b p.1 with
 | none=>aD b p.1 p.2
 | some e=>if e.1 < p.2.1 then aD b p.1 p.2 else b
noncomputable def eV (rs:List cr):cr:=rs.foldl (fun b r=>r.foldl bN b) []
noncomputable def kE (n:Int):PLd:=⟨n,[],false,[],[]⟩
noncomputable def kP (l:PLd):PLd:={ l with op:=true,said:=(eV (l.told.map (·.2))).foldl (fun s q=>aD s q.1 q.2.2) l.said }
noncomputable def b7 (cnt:Int) (l:PLd) (j:Int) (row:cr):PLd:=if l.op=true then l else
 if cw cnt (aD l.told j row).length=true then kP { l with told:=aD l.told j row } else { l with told:=aD l.told j row }
noncomputable def cz (said:List (Int×Str)):Nat:=((List.range (said.length+1)).find? fun n:Nat=>(aq said (n:Int)).isNone).getD 0
noncomputable def pQ (l:PLd) (s:Str):PLd:={ l with said:=aD l.said (cz l.said) s }
noncomputable def ci (l:List Int) (j:Int):List Int:=if j∈l then l else l++[j]
noncomputable def ip (l:PLd) (j pl:Int):PLd:={ l with hands:=aD l.hands pl (ci ((aq l.hands pl).getD []) j) }
noncomputable def uC (a:Int):List Int->List Int
 | []=>[a]
 | b :: r=>if a<=b then a :: b :: r else b :: uC a r
noncomputable def gJ (l:List Int):List Int:=l.foldr uC []
noncomputable def dj (cnt:Int) (l:PLd):List (Int×Str):=((gJ (l.hands.map (·.1))).filter fun pl=>cw cnt ((aq l.hands pl).getD []).length).map fun pl=>(pl,(aq l.said pl).getD "")
noncomputable def bY {β:Type} (l:List (Int×β)) (k:Int):List (Int×β):=l.filter fun p=>decide (p.1≠k)
noncomputable def AZ (A:PH) (i:Nat) (s:PScr):PH:={ A with scrs:=A.scrs.set i s }
noncomputable def de (A:PH) (own num:Int):PH:=match A.scrs[own.toNat]? with
 | none=>A
 | some s=>{ A with leads:=bY A.leads own,scrs:=A.scrs.set own.toNat { s with seen:=if s.seen < num then num else s.seen } }
noncomputable def aM (A:PH) (i:Int):Bool:=decide (0<=i)&&decide (i < A.cnt)
noncomputable def dU (A:PH) (own:Int):PH×Ans:=if own∈A.stop then (A,.non) else match A.scrs[own.toNat]? with
 | none=>(A,.non)
 | some s=>let n:=bx A.cnt own s.seen; ({ A with scrs:=A.scrs.set own.toNat { s with seen:=n },leads:=aD A.leads own (kE n) },.int n)
noncomputable def eQ (A:PH) (own other:Int):PH×Ans:=match aq A.leads own with
 | none=>(A,.non)
 | some l=>if other∈A.stop then (A,.non) else match A.scrs[other.toNat]? with
  | none=>(A,.non)
  | some s=>if l.num < s.prom then (de A own s.prom,.bl false) else ({ A with scrs:=A.scrs.set other.toNat { s with prom:=l.num },leads:=aD A.leads own (b7 A.cnt l other s.row) },.bl true)
noncomputable def fM (A:PH) (own:Int) (sy:Str):PH×Ans:=match aq A.leads own with
 | none=>(A,.non)
 | some l=>if l.op=true then ({ A with leads:=aD A.leads own (pQ l sy) },.int (cz l.said)) else (A,.non)
noncomputable def bG (A:PH) (own other pl:Int):PH×Ans:=match aq A.leads own with
 | none=>(A,.non)
 | some l=>match aq l.said pl with
  | none=>(A,.non)
  | some sy=>if other∈A.stop then (A,.non) else match A.scrs[other.toNat]? with
   | none=>(A,.non)
   | some s=>if l.num < s.prom then (de A own s.prom,.bl false) else
    ({ A with scrs:=A.scrs.set other.toNat { s with prom:=l.num,row:=aD s.row pl (l.num,sy) },wrs:=A.wrs++[(l.num,other,pl,sy)],leads:=aD A.leads own (ip l other pl) },.bl true)
noncomputable def b9 (A:PH) (own:Int):Ans:=match aq A.leads own with
 | none=>.prs []
 | some l=>.prs (dj A.cnt l)
noncomputable def eU (A:PH) (own:Int):PH×Ans:=if own∈A.stop then (A,.bl false) else ({ A with stop:=A.stop++[own],leads:=bY A.leads own },.bl true)
noncomputable def eA (A:PH) (own:Int):PH×Ans:=if own∈A.stop then ({ A with stop:=A.stop.filter fun k=>decide (k≠own) },.bl true) else (A,.bl false)
noncomputable def step (A:PH):Deed->PH×Ans
 | .rise o=>if aM A o=true then dU A o else (A,.str "no scribe")
 | .ask o p=>if aM A o=true then (if aM A p=true then eQ A o p else (A,.str "no scribe")) else (A,.str "no scribe")
 | .say o s=>if aM A o=true then fM A o s else (A,.str "no scribe")
 | .write o p pl=>if aM A o=true then (if aM A p=true then bG A o p pl else (A,.str "no scribe")) else (A,.str "no scribe")
 | .settled o=>if aM A o=true then (A,b9 A o) else (A,.str "no scribe")
 | .stop o=>if aM A o=true then eU A o else (A,.str "no scribe")
 | .wake o=>if aM A o=true then eA A o else (A,.str "no scribe")
noncomputable def aH (A:PH) (ds:List Deed):PH:=ds.foldl (fun A d=>(step A d).1) A
noncomputable def ik:PH->List Deed->List Ans
 | _,[]=>[]
 | A,d :: ds=>(step A d).2 :: ik (step A d).1 ds
theorem jb (A:PH) (ds:List Deed) (d:Deed):aH A (ds++[d])=(step (aH A ds) d).1:=by unfold aH; rw [List.foldl_append]; rfl
theorem jm:∀ (A:PH) (ds:List Deed) (d:Deed),ik A (ds++[d])=ik A ds++[(step (aH A ds) d).2]
 | A,[],d=>rfl
 | A,e :: ds,d=>by show (step A e).2 :: ik (step A e).1 (ds++[d])=_; rw [jm]; rfl
theorem lm:∀ (A:PH) (ds:List Deed),(ik A ds).length=ds.length
 | _,[]=>rfl
 | A,d :: ds=>by show (ik (step A d).1 ds).length+1=ds.length+1; rw [lm]
section
variable {β:Type}
noncomputable def cQ (F:Int->V->β->Prop) (kvs:List (a5×V)) (l:List (Int×β)):Prop:=Paired (fun (p:a5×V) (q:Int×β)=>p.1=Sum.inl q.1/\F q.1 p.2 q.2) kvs l
theorem cQ.len {F:Int->V->β->Prop}{kvs:List (a5×V)}{l:List (Int×β)} (d:cQ F kvs l):kvs.length=l.length:=Paired.length d
theorem cQ.imp {F G:Int->V->β->Prop}{kvs:List (a5×V)}{l:List (Int×β)} (d:cQ F kvs l) (h:∀ k v y,(k,y)∈l->F k v y->G k v y):cQ G kvs l:=by
 unfold cQ at d ⊢
 induction d with
 | nil=>exact .nil
 | @cons p q ps qs e t ih=>exact .cons ⟨e.1,h _ _ _ (by simp) e.2⟩ (ih fun k v y hm=>h k v y (List.mem_cons_of_mem _ hm))
theorem cQ.keys {F:Int->V->β->Prop}{kvs:List (a5×V)}{l:List (Int×β)} (d:cQ F kvs l):kvs.map (·.1)=(l.map (·.1)).map Sum.inl:=by
 unfold cQ at d
 induction d with
 | nil=>rfl
 | @cons p q ps qs e t ih=>rw [List.map_cons,ih,e.1]; rfl
theorem cQ.any {F:Int->V->β->Prop}{kvs:List (a5×V)}{l:List (Int×β)} (d:cQ F kvs l) (k:Int):(kvs.any fun kv=>decide (kv.1=Sum.inl k))=l.any fun p=>decide (p.1=k):=by
 unfold cQ at d
 induction d with
 | nil=>rfl
 | @cons p q ps qs e t ih =>
  rw [List.any_cons,List.any_cons,ih,e.1]
  congr 1
  exact decide_eq_decide.mpr ⟨fun z=>Sum.inl.inj z,fun z=>congrArg _ z⟩
theorem cQ.put {F:Int->V->β->Prop}{kvs:List (a5×V)}{l:List (Int×β)} (d:cQ F kvs l) (k:Int) {v:V}{y:β} (h:F k v y):cQ F (bo kvs (Sum.inl k) v) (aD l k y):=by
 unfold bo aD;rw [d.any k];split
 ·have:∀ {kvs:List (a5×V)}{l:List (Int×β)},cQ F kvs l->cQ F (kvs.map fun kv=>if kv.1=Sum.inl k then (kv.1,v) else kv) (l.map fun p=>if p.1=k then (p.1,y) else p):=by
   intro kvs l d;unfold cQ at d ⊢
   induction d with
   | nil=>exact .nil
   | @cons p q ps qs e t ih =>
    refine .cons ?_ ih;dsimp only
    by_cases z:q.1=k
    ·rw [if_pos (show p.1=Sum.inl k by rw [e.1,z]),if_pos z]; exact ⟨e.1,by rw [z]; exact h⟩
    ·rw [if_neg (show ¬ p.1=Sum.inl k by rw [e.1]; exact fun w=>z (Sum.inl.inj w)),if_neg z]; exact e
  exact this d
 ·exact Paired.snoc d ⟨rfl,h⟩
theorem cQ.get {F:Int->V->β->Prop}{kvs:List (a5×V)}{l:List (Int×β)} (d:cQ F kvs l) (k:Int):(aq l k=none/\a7 kvs (Sum.inl k)=none)\/∃ v y,aq l k=some y/\a7 kvs (Sum.inl k)=some v/\F k v y:=by
 unfold cQ at d
 induction d with
 | nil=>exact .inl ⟨rfl,rfl⟩
 | @cons p q ps qs e t ih =>
  unfold aq a7;rw [List.find?_cons,List.find?_cons]
  by_cases z:q.1=k
  ·rw [decide_eq_true z,decide_eq_true (show p.1=Sum.inl k by rw [e.1,z])]
   exact .inr ⟨p.2,q.2,rfl,rfl,by rw [<- z]; exact e.2⟩
  ·rw [decide_eq_false z,decide_eq_false (show ¬ p.1=Sum.inl k by rw [e.1]; exact fun w=>z (Sum.inl.inj w))]
   exact ih
theorem cQ.some {F:Int->V->β->Prop}{kvs:List (a5×V)}{l:List (Int×β)} (d:cQ F kvs l) {k:Int}{y:β} (h:aq l k=some y):∃ v,a7 kvs (Sum.inl k)=some v/\F k v y:=by
 rcases d.get k with ⟨z,_⟩ | ⟨v,y',z,z1,z2⟩
 ·rw [h] at z; cases z
 ·rw [h] at z; cases z; exact ⟨v,z1,z2⟩
theorem cQ.drop {F:Int->V->β->Prop}{kvs:List (a5×V)}{l:List (Int×β)} (d:cQ F kvs l) (k:Int):cQ F (fb kvs (Sum.inl k)) (bY l k):=by
 unfold cQ at d ⊢
 induction d with
 | nil=>exact .nil
 | @cons p q ps qs e t ih =>
  unfold fb bY;rw [List.filter_cons,List.filter_cons]
  by_cases z:q.1=k
  ·rw [decide_eq_false (show ¬ p.1≠Sum.inl k by rw [e.1,z]; exact fun w=>w rfl),decide_eq_false (show ¬ q.1≠k from fun w=>w z)]
   exact ih
  ·rw [decide_eq_true (show p.1≠Sum.inl k by rw [e.1]; exact fun w=>z (Sum.inl.inj w)),decide_eq_true (show q.1≠k from z)]
   exact .cons e ih
theorem nL (l:List (Int×β)) (k:Int):(bY l k).length<=l.length:=List.length_filter_le ..
theorem fK {l:List (Int×β)}{k:Int}{p:Int×β}:p∈bY l k↔p∈l/\p.1≠k:=by unfold bY; rw [List.mem_filter]; simp
theorem xY {l:List (Int×β)} (k:Int) (h:(l.map (·.1)).Nodup):((bY l k).map (·.1)).Nodup:=List.Nodup.sublist (List.Sublist.map _ (List.filter_sublist ..)) h
end
noncomputable def gH (l:List Int):List (a5×V):=l.map fun j=>(Sum.inl j,V.bl true)
theorem oK (l:List Int):(gH l).length=l.length:=List.length_map ..
theorem fD (l:List Int) (k:Int):a7 (gH l) (Sum.inl k)=if k∈l then some (.bl true) else none:=by
 induction l with
 | nil=>rfl
 | cons j r ih =>
  show a7 ((Sum.inl j,V.bl true) :: gH r) (Sum.inl k)=_
  by_cases z:j=k
  ·subst z; rw [bI rfl]; simp
  ·rw [bJ (fun w=>z (Sum.inl.inj w)),ih]
   have:(k∈j :: r)↔k∈r:=by simp [Ne.symm z]
   simp only [this]
theorem zL (l:List Int) (k:Int):((gH l).any fun kv=>decide (kv.1=Sum.inl k))=decide (k∈l):=by
 induction l with
 | nil=>simp [gH]
 | cons j r ih =>
  show (decide ((Sum.inl j:a5)=Sum.inl k) || (gH r).any _)=_;rw [ih]
  by_cases z:j=k
  ·subst z; simp
  ·have:(Sum.inl j:a5)≠Sum.inl k:=fun w=>z (Sum.inl.inj w)
   simp [this,Ne.symm z]
theorem kY (l:List Int) (k:Int):bo (gH l) (Sum.inl k) (.bl true)=gH (ci l k):=by
 unfold bo ci;rw [zL]
 by_cases h:k∈l
 ·rw [if_pos (decide_eq_true h),if_pos h]
  unfold gH;rw [List.map_map];apply List.map_congr_left;intro j _;show (if (Sum.inl j:a5)=Sum.inl k then (Sum.inl j,V.bl true) else (Sum.inl j,V.bl true))=_;split<;>rfl
 ·rw [if_neg (by rw [decide_eq_false h]; exact Bool.false_ne_true),if_neg h]
  unfold gH; rw [List.map_append]; rfl
theorem vm (l:List Int) (k:Int):fb (gH l) (Sum.inl k)=gH (l.filter fun j=>decide (j≠k)):=by
 unfold fb gH;rw [List.filter_map]
 congr 1
 apply List.filter_congr;intro j _;show decide ((Sum.inl j:a5)≠Sum.inl k)=decide (j≠k);exact decide_eq_decide.mpr ⟨fun z w=>z (congrArg _ w),fun z w=>z (Sum.inl.inj w)⟩
theorem yj (l:List Int) (k:Int):(ci l k).length<=l.length+1:=by
 unfold ci;split
 ·omega
 ·simp
theorem cQ.putI {β:Type}{F G:Int->V->β->Prop}{kvs:List (a5×V)}{l:List (Int×β)} (d:cQ F kvs l) (k:Int) {v:V}{y:β} (h:G k v y) (i:∀ j v y,j≠k->F j v y->G j v y):cQ G (bo kvs (Sum.inl k) v) (aD l k y):=by
 unfold bo aD;rw [d.any k];split
 ·have:∀ {kvs:List (a5×V)}{l:List (Int×β)},cQ F kvs l->cQ G (kvs.map fun kv=>if kv.1=Sum.inl k then (kv.1,v) else kv) (l.map fun p=>if p.1=k then (p.1,y) else p):=by
   intro kvs l d;unfold cQ at d ⊢
   induction d with
   | nil=>exact .nil
   | @cons p q ps qs e t ih =>
    refine .cons ?_ ih;dsimp only
    by_cases z:q.1=k
    ·rw [if_pos (show p.1=Sum.inl k by rw [e.1,z]),if_pos z]; exact ⟨e.1,by rw [z]; exact h⟩
    ·rw [if_neg (show ¬ p.1=Sum.inl k by rw [e.1]; exact fun w=>z (Sum.inl.inj w)),if_neg z]; exact ⟨e.1,i _ _ _ z e.2⟩
  exact this d
 ·next hn =>
  refine Paired.snoc ?_ ⟨rfl,h⟩
  have:∀ {kvs:List (a5×V)}{l:List (Int×β)},cQ F kvs l->¬ (l.any fun p=>decide (p.1=k))=true->cQ G kvs l:=by
   intro kvs l d hn;exact d.imp fun j v y hm e=>i j v y (fun z=>hn (List.any_eq_true.mpr ⟨_,hm,decide_eq_true z⟩)) e
  exact this d hn
inductive Role where
 | hall | sl | ld | sd | wl | scr (i:Nat) | row (i:Nat) | lp (k:Int) | lt (k:Int) | ls (k:Int) | lh (k:Int) | hd (k pl:Int) | tr (k j:Int) | out
 deriving DecidableEq
abbrev Al:=Role->Addr
abbrev Ro:=Addr->Option Role
noncomputable def cK (α:Al) (r:Role) (a:Addr):Al:=fun q=>if q=r then a else α q
theorem bu {α:Al}{r:Role}{a:Addr}:cK α r a r=a:=if_pos rfl
theorem aU {α:Al}{r q:Role}{a:Addr} (h:q≠r):cK α r a q=α q:=if_neg h
noncomputable def c9 (ρ:Ro) (a:Addr) (r:Role):Ro:=fun b=>if b=a then some r else ρ b
theorem bK {ρ:Ro}{a:Addr}{r:Role}:c9 ρ a r a=some r:=if_pos rfl
theorem aV {ρ:Ro}{a b:Addr}{r:Role} (h:b≠a):c9 ρ a r b=ρ b:=if_neg h
structure Stp (R:Role->Prop) (H:Hp) (ρ:Ro) (H':Hp) (ρ':Ro):Prop where
 ro:∀ b u,H b=some u->ρ' b=ρ b
 st:∀ b u,H b=some u->∃ u',H' b=some u'
 kp:∀ b u,H b=some u->(∀ r,ρ b=some r->¬ R r)->H' b=some u
 fr:(∀ b,H b=none->ρ b=none)->∀ b,H' b=none->ρ' b=none
noncomputable def Aw (H:Hp) (ρ:Ro):Prop:=∀ b,H b=none->ρ b=none
theorem Stp.refl {R:Role->Prop}{H:Hp}{ρ:Ro}:Stp R H ρ H ρ:=⟨fun _ _ _=>rfl,fun _ u e=>⟨u,e⟩,fun _ _ e _=>e,fun h=>h⟩
theorem Stp.trans {R R':Role->Prop}{H H1 H2:Hp}{ρ ρ1 ρ2:Ro} (x:Stp R H ρ H1 ρ1) (y:Stp R' H1 ρ1 H2 ρ2):Stp (fun r=>R r\/R' r) H ρ H2 ρ2 where
 ro:=fun b u e=>by obtain ⟨u1,e1⟩:=x.st b u e; rw [y.ro b u1 e1,x.ro b u e]
 st:=fun b u e=>by obtain ⟨u1,e1⟩:=x.st b u e; exact y.st b u1 e1
 kp:=fun b u e h=>y.kp b u (x.kp b u e fun r hr z=>h r hr (.inl z)) fun r hr z=>h r (by rw [<- x.ro b u e]; exact hr) (.inr z)
 fr:=fun h=>y.fr (x.fr h)
theorem Stp.mono {R R':Role->Prop}{H H':Hp}{ρ ρ':Ro} (x:Stp R H ρ H' ρ') (h:∀ r,R r->R' r):Stp R' H ρ H' ρ':=⟨x.ro,x.st,fun b u e z=>x.kp b u e fun r hr w=>z r hr (h r w),x.fr⟩
theorem Stp.two {R:Role->Prop}{H H1 H2:Hp}{ρ ρ1 ρ2:Ro} (x:Stp R H ρ H1 ρ1) (y:Stp R H1 ρ1 H2 ρ2):Stp R H ρ H2 ρ2:=(x.trans y).mono fun _ h=>h.elim id id
theorem ox {R:Role->Prop}{H:Hp}{ρ:Ro}{a:Addr}{o:HO} (h:H a=none):Stp R H ρ (aw H a o) ρ where
 ro:=fun _ _ _=>rfl
 st:=fun b u e=>⟨u,by rw [ad (ai e h)]; exact e⟩
 kp:=fun b u e _=>by rw [ad (ai e h)]; exact e
 fr:=fun n b e=>n b (if z:b=a then by rw [z]; exact h else by rw [ad z] at e; exact e)
theorem kU {R:Role->Prop}{H:Hp}{ρ:Ro}{a:Addr}{o:HO} (r:Role) (h:H a=none):Stp R H ρ (aw H a o) (c9 ρ a r) where
 ro:=fun b u e=>aV (ai e h)
 st:=fun b u e=>⟨u,by rw [ad (ai e h)]; exact e⟩
 kp:=fun b u e _=>by rw [ad (ai e h)]; exact e
 fr:=fun n b e=>by
  have z:b≠a:=fun z=>by rw [z,upd_same] at e; cases e
  rw [aV z]; exact n b (by rw [ad z] at e; exact e)
theorem p_ {R:Role->Prop}{H H':Hp}{ρ:Ro} (s:aI H H'):Stp R H ρ H' ρ:=⟨fun _ _ _=>rfl,fun b u e=>⟨u,s b u e⟩,fun b u e _=>s b u e,fun n b e=>n b (by
 cases q:H b with
 | none=>rfl
 | some u=>rw [s b u q] at e; cases e)⟩
theorem cj {R:Role->Prop}{H:Hp}{ρ:Ro}{a:Addr}{o u:HO}{r:Role} (h:H a=some u) (hr:ρ a=some r) (hR:R r):Stp R H ρ (aw H a o) ρ where
 ro:=fun _ _ _=>rfl
 st:=fun b v e=>if z:b=a then ⟨o,by rw [z,upd_same]⟩ else ⟨v,by rw [ad z]; exact e⟩
 kp:=fun b v e n=>by
  have z:b≠a:=fun z=>n r (by rw [z]; exact hr) hR;rw [ad z]; exact e
 fr:=fun n b e=>n b (if z:b=a then by rw [z,upd_same] at e; cases e else by rw [ad z] at e; exact e)
theorem tF {R:Role->Prop}{H H':Hp}{ρ:Ro}{p q:Addr}{r1 r2:Role} (k:∀ b u,H b=some u->b≠p->b≠q->H' b=some u) (h1:∃ u,H' p=some u) (h2:∃ u,H' q=some u) (e1:ρ p=some r1) (e2:ρ q=some r2) (R1:R r1) (R2:R r2):Stp R H ρ H' ρ where
 ro:=fun _ _ _=>rfl
 st:=fun b u e=>by
  by_cases z1:b=p
  ·rw [z1]; exact h1
  ·by_cases z2:b=q
   ·rw [z2]; exact h2
   ·exact ⟨u,k b u e z1 z2⟩
 kp:=fun b u e n=>k b u e (fun z=>n r1 (by rw [z]; exact e1) R1) (fun z=>n r2 (by rw [z]; exact e2) R2)
 fr:=fun n b e=>n b (by
  cases w:H b with
  | none=>rfl
  | some u =>
   by_cases z1:b=p
   ·obtain ⟨u',e'⟩:=h1; rw [z1,e'] at e; cases e
   ·by_cases z2:b=q
    ·obtain ⟨u',e'⟩:=h2; rw [z2,e'] at e; cases e
    ·rw [k b u w z1 z2] at e; cases e)
theorem bL {ρ:Ro}{a b:Addr}{r q:Role} (h:ρ a=some r) (h':ρ b=some q) (n:r≠q):a≠b:=fun z=>n (by rw [z,h'] at h; exact (Option.some.inj h).symm)
theorem nz {ρ:Ro}{a b:Addr}{r:Role} (h:ρ a=some r) (h':ρ b=none):a≠b:=fun z=>by rw [z,h'] at h; cases h
structure Cs where
 h:Addr
 s:Addr
 l:Addr
noncomputable def pS (H:Hp) (ρ:Ro) (_:Int) (v:V) (e:Int×Str):Prop:=∃ t,v=.ref t/\H t=some (.tup [.int e.1,.str e.2])/\ρ t=none
theorem pS.stp {R:Role->Prop}{H H':Hp}{ρ ρ':Ro}{k:Int}{v:V}{e:Int×Str} (x:pS H ρ k v e) (s:Stp R H ρ H' ρ'):pS H' ρ' k v e:=by
 obtain ⟨t,rfl,ht,hr⟩:=x;exact ⟨t,rfl,s.kp t _ ht (fun r z=>by rw [hr] at z; cases z),(s.ro t _ ht).trans hr⟩
noncomputable def sF (o c p:V) (r:Addr) (sn:V):List (Str×V):=[("own",o),("count",c),("promised",p),("row",.ref r),("seen",sn)]
noncomputable def lF (n c:V) (t:Addr) (o:V) (s h:Addr):List (Str×V):=[("number",n),("count",c),("told",.ref t),("opened",o),("said",.ref s),("hands",.ref h)]
noncomputable def hF (c:V) (sl ld sd wl:Addr):List (Str×V):=[("count",c),("scribes",.ref sl),("leads",.ref ld),("stopped",.ref sd),("writings",.ref wl)]
structure ScrAt (c:Cs) (H:Hp) (α:Al) (ρ:Ro) (cnt:Int) (i:Nat) (s:PScr):Prop where
 ob:∃ dx,H (α (.scr i))=some (.ins c.s dx (sF (.int i) (.int cnt) (.int s.prom) (α (.row i)) (.int s.seen)))
 rw:∃ kvs,H (α (.row i))=some (.dK kvs)/\cQ (pS H ρ) kvs s.row
 r1:ρ (α (.scr i))=some (.scr i)
 r2:ρ (α (.row i))=some (.row i)
noncomputable def Au (i:Nat) (r:Role):Prop:=r=.scr i\/r=.row i
theorem ScrAt.stp {c:Cs}{R:Role->Prop}{H H':Hp}{α α':Al}{ρ ρ':Ro}{cnt:Int}{i:Nat}{s:PScr} (x:ScrAt c H α ρ cnt i s) (t:Stp R H ρ H' ρ') (n1:¬ R (.scr i)) (n2:¬ R (.row i)) (e1:α' (.scr i)=α (.scr i)) (e2:α' (.row i)=α (.row i)):ScrAt c H' α' ρ' cnt i s:=by
 obtain ⟨⟨dx,o⟩,⟨kvs,o2,k⟩,r1,r2⟩:=x;refine ⟨⟨dx,?_⟩,⟨kvs,?_,k.imp fun _ _ _ _ z=>z.stp t⟩,?_,?_⟩
 ·rw [e1,e2]; exact t.kp _ _ o fun r hr=>by rw [r1] at hr; cases hr; exact n1
 ·rw [e2]; exact t.kp _ _ o2 fun r hr=>by rw [r2] at hr; cases hr; exact n2
 ·rw [e1,t.ro _ _ o]; exact r1
 ·rw [e2,t.ro _ _ o2]; exact r2
noncomputable def Dp (H:Hp) (α:Al) (ρ:Ro) (k:Int) (j:Int) (v:V) (row:cr):Prop:=v=.ref (α (.tr k j))/\ρ (α (.tr k j))=some (.tr k j)/\∃ kv,H (α (.tr k j))=some (.dK kv)/\cQ (pS H ρ) kv row
noncomputable def Di (H:Hp) (α:Al) (ρ:Ro) (k:Int) (pl:Int) (v:V) (hs:List Int):Prop:=v=.ref (α (.hd k pl))/\ρ (α (.hd k pl))=some (.hd k pl)/\H (α (.hd k pl))=some (.dK (gH hs))
structure LdAt (c:Cs) (H:Hp) (α:Al) (ρ:Ro) (cnt:Int) (k:Int) (l:PLd):Prop where
 ob:∃ dx,H (α (.lp k))=some (.ins c.l dx (lF (.int l.num) (.int cnt) (α (.lt k)) (.bl l.op) (α (.ls k)) (α (.lh k))))
 tl:∃ kvs,H (α (.lt k))=some (.dK kvs)/\cQ (Dp H α ρ k) kvs l.told
 sd:∃ kvs,H (α (.ls k))=some (.dK kvs)/\cQ (fun _ v (y:Str)=>v=.str y) kvs l.said
 hn:∃ kvs,H (α (.lh k))=some (.dK kvs)/\cQ (Di H α ρ k) kvs l.hands
 r1:ρ (α (.lp k))=some (.lp k)
 r2:ρ (α (.lt k))=some (.lt k)
 r3:ρ (α (.ls k))=some (.ls k)
 r4:ρ (α (.lh k))=some (.lh k)
noncomputable def eN (k:Int):Role->Prop
 | .lp j=>j=k
 | .lt j=>j=k
 | .ls j=>j=k
 | .lh j=>j=k
 | .hd j _=>j=k
 | .tr j _=>j=k
 | _=>False
theorem LdAt.stp {c:Cs}{R:Role->Prop}{H H':Hp}{α α':Al}{ρ ρ':Ro}{cnt k:Int}{l:PLd} (x:LdAt c H α ρ cnt k l) (t:Stp R H ρ H' ρ') (n:∀ r,eN k r->¬ R r) (e:∀ r,eN k r->α' r=α r):LdAt c H' α' ρ' cnt k l:=by
 obtain ⟨⟨dx,o⟩,⟨kt,ot,jt⟩,⟨ks,os,js⟩,⟨kh,oh,jh⟩,r1,r2,r3,r4⟩:=x;have up:∀ (r:Role) {u:HO},eN k r->H (α r)=some u->ρ (α r)=some r->H' (α' r)=some u/\ρ' (α' r)=some r:=fun r {u} h1 h2 h3=>by
  rw [e r h1];exact ⟨t.kp _ _ h2 fun q hq=>by rw [h3] at hq; cases hq; exact n r h1,(t.ro _ _ h2).trans h3⟩
 refine ⟨⟨dx,?_⟩,⟨kt,(up (.lt k) rfl ot r2).1,jt.imp fun j v y _ z=>?_⟩,⟨ks,(up (.ls k) rfl os r3).1,js⟩,⟨kh,(up (.lh k) rfl oh r4).1,jh.imp fun j v y _ z=>?_⟩,(up (.lp k) rfl o r1).2,(up (.lt k) rfl ot r2).2,(up (.ls k) rfl os r3).2,(up (.lh k) rfl oh r4).2⟩
 ·rw [e _ (show eN k (.lt k) from rfl),e _ (show eN k (.ls k) from rfl),e _ (show eN k (.lh k) from rfl)]; exact (up (.lp k) rfl o r1).1
 ·obtain ⟨z1,z2,kv,z3,z4⟩:=z
  have:=up (.tr k j) rfl z3 z2;exact ⟨by rw [e _ (show eN k (.tr k j) from rfl)]; exact z1,this.2,kv,this.1,z4.imp fun _ _ _ _ w=>w.stp t⟩
 ·obtain ⟨z1,z2,z3⟩:=z
  have:=up (.hd k j) rfl z3 z2;exact ⟨by rw [e _ (show eN k (.hd k j) from rfl)]; exact z1,this.2,this.1⟩
noncomputable def B9 (H:Hp) (ρ:Ro) (v:V) (w:Int×Int×Int×Str):Prop:=∃ t,v=.ref t/\H t=some (.tup [.int w.1,.int w.2.1,.int w.2.2.1,.str w.2.2.2])/\ρ t=none
theorem B9.stp {R:Role->Prop}{H H':Hp}{ρ ρ':Ro}{v:V}{w:Int×Int×Int×Str} (x:B9 H ρ v w) (s:Stp R H ρ H' ρ'):B9 H' ρ' v w:=by
 obtain ⟨t,rfl,ht,hr⟩:=x;exact ⟨t,rfl,s.kp t _ ht (fun r z=>by rw [hr] at z; cases z),(s.ro t _ ht).trans hr⟩
structure HallAt (c:Cs) (H:Hp) (α:Al) (ρ:Ro) (A:PH):Prop where
 ob:∃ dx,H (α .hall)=some (.ins c.h dx (hF (.int A.cnt) (α .sl) (α .ld) (α .sd) (α .wl)))
 sl:H (α .sl)=some (.lst ((List.range A.scrs.length).map fun i=>.ref (α (.scr i))))
 ld:∃ kvs,H (α .ld)=some (.dK kvs)/\cQ (fun k v (_:PLd)=>v=.ref (α (.lp k))) kvs A.leads
 sd:H (α .sd)=some (.dK (gH A.stop))
 wl:∃ us,H (α .wl)=some (.lst us)/\Paired (B9 H ρ) us A.wrs
 sc:∀ i s,A.scrs[i]? = some s->ScrAt c H α ρ A.cnt i s
 le:∀ k l,(k,l)∈A.leads->LdAt c H α ρ A.cnt k l
 r1:ρ (α .hall)=some .hall
 r2:ρ (α .sl)=some .sl
 r3:ρ (α .ld)=some .ld
 r4:ρ (α .sd)=some .sd
 r5:ρ (α .wl)=some .wl
 ln:A.cnt=(A.scrs.length:Int)
 nr:Aw H ρ
 nd:(A.leads.map (·.1)).Nodup
noncomputable def Eh:Role->Prop
 | .hall=>True
 | .sl=>True
 | .ld=>True
 | .sd=>True
 | .wl=>True
 | _=>False
theorem HallAt.scr {c:Cs}{H H':Hp}{α:Al}{ρ ρ':Ro}{A:PH}{i:Nat}{s s':PScr} (x:HallAt c H α ρ A) (hi:A.scrs[i]? = some s) (t:Stp (Au i) H ρ H' ρ') (n:ScrAt c H' α ρ' A.cnt i s'):HallAt c H' α ρ' (AZ A i s'):=by
 have hil:i < A.scrs.length:=(List.getElem?_eq_some_iff.mp hi).1;have up:∀ {r:Role}{u:HO},H (α r)=some u->ρ (α r)=some r->¬ Au i r->H' (α r)=some u/\ρ' (α r)=some r:=fun {r u} h2 h3 h4 =>
  ⟨t.kp _ _ h2 fun q hq=>by rw [h3] at hq; cases hq; exact h4,(t.ro _ _ h2).trans h3⟩
 have ns:∀ r:Role,Eh r->¬ Au i r:=fun r h z=>by rcases z with rfl | rfl<;>exact h
 obtain ⟨dx,o⟩:=x.ob;obtain ⟨kl,ol,jl⟩:=x.ld;obtain ⟨us,ow,jw⟩:=x.wl;refine ⟨⟨dx,(up o x.r1 (ns _ trivial)).1⟩,?_,⟨kl,(up ol x.r3 (ns _ trivial)).1,jl⟩,(up x.sd x.r4 (ns _ trivial)).1,⟨us,(up ow x.r5 (ns _ trivial)).1,Paired.mapP jw fun _ _ z=>z.stp t⟩,fun j s1 hj=>?_,fun k l hl=>?_,
  (up o x.r1 (ns _ trivial)).2,(up x.sl x.r2 (ns _ trivial)).2,(up ol x.r3 (ns _ trivial)).2,(up x.sd x.r4 (ns _ trivial)).2,(up ow x.r5 (ns _ trivial)).2,?_,t.fr x.nr,x.nd⟩
 ·show H' (α .sl)=some (.lst ((List.range (A.scrs.set i s').length).map fun i=>.ref (α (.scr i))))
  rw [List.length_set]; exact (up x.sl x.r2 (ns _ trivial)).1
 ·have hj:(A.scrs.set i s')[j]? = some s1:=hj
  by_cases z:j=i
  ·subst z
   rw [List.getElem?_set_self hil] at hj;cases hj; exact n
  ·rw [List.getElem?_set_ne (Ne.symm z)] at hj
   refine (x.sc j s1 hj).stp t (fun w=>?_) (fun w=>?_) rfl rfl
   ·rcases w with w | w<;>cases w; exact z rfl
   ·rcases w with w | w<;>cases w; exact z rfl
 ·exact (x.le k l hl).stp t (fun r hr w=>by rcases w with rfl | rfl<;>exact hr) fun _ _=>rfl
 ·show A.cnt=((A.scrs.set i s').length:Int)
  rw [List.length_set]; exact x.ln
theorem CN (o:V) (c:V) (p:V) (r:Addr) (sn:V):(sF o c p r sn).lookup ("own":Str)=some o:=by kernel_rfl
theorem yQ (o:V) (c:V) (p:V) (r:Addr) (sn:V):(sF o c p r sn).lookup ("count":Str)=some c:=by kernel_rfl
theorem gZ (o:V) (c:V) (p:V) (r:Addr) (sn:V):(sF o c p r sn).lookup ("promised":Str)=some p:=by kernel_rfl
theorem Aj (o:V) (c:V) (p:V) (r:Addr) (sn:V):(sF o c p r sn).lookup ("row":Str)=some (V.ref r):=by kernel_rfl
theorem rJ (o:V) (c:V) (p:V) (r:Addr) (sn:V):(sF o c p r sn).lookup ("seen":Str)=some sn:=by kernel_rfl
theorem iM (o:V) (c:V) (p:V) (r:Addr) (sn:V):(sF o c p r sn).lookup ("promise":Str)=none:=by kernel_rfl
theorem xa (o:V) (c:V) (p:V) (r:Addr) (sn:V):(sF o c p r sn).lookup ("put":Str)=none:=by kernel_rfl
theorem uR (o:V) (c:V) (p:V) (r:Addr) (sn:V):(sF o c p r sn).lookup ("rise":Str)=none:=by kernel_rfl
theorem w_ (o:V) (c:V) (p:V) (r:Addr) (sn:V):(sF o c p r sn).lookup ("see":Str)=none:=by kernel_rfl
theorem l0 (o:V) (c:V) (p:V) (r:Addr) (sn:V) (q:V):bZ "promised" q (sF o c p r sn)=sF o c q r sn:=by kernel_rfl
theorem lO (o:V) (c:V) (p:V) (r:Addr) (sn:V) (q:V):bZ "seen" q (sF o c p r sn)=sF o c p r q:=by kernel_rfl
theorem A1 (o:V) (c:V) (p:V) (r:Addr) (sn:V):bZ "seen" sn (bZ "row" (.ref r) (bZ "promised" p (bZ "count" c (bZ "own" o []))))=sF o c p r sn:=by kernel_rfl
theorem k8 (n:V) (c:V) (t:Addr) (o:V) (s:Addr) (h:Addr):(lF n c t o s h).lookup ("number":Str)=some n:=by kernel_rfl
theorem ue (n:V) (c:V) (t:Addr) (o:V) (s:Addr) (h:Addr):(lF n c t o s h).lookup ("count":Str)=some c:=by kernel_rfl
theorem rL (n:V) (c:V) (t:Addr) (o:V) (s:Addr) (h:Addr):(lF n c t o s h).lookup ("told":Str)=some (V.ref t):=by kernel_rfl
theorem qB (n:V) (c:V) (t:Addr) (o:V) (s:Addr) (h:Addr):(lF n c t o s h).lookup ("opened":Str)=some o:=by kernel_rfl
theorem i6 (n:V) (c:V) (t:Addr) (o:V) (s:Addr) (h:Addr):(lF n c t o s h).lookup ("said":Str)=some (V.ref s):=by kernel_rfl
theorem oJ (n:V) (c:V) (t:Addr) (o:V) (s:Addr) (h:Addr):(lF n c t o s h).lookup ("hands":Str)=some (V.ref h):=by kernel_rfl
theorem u_ (n:V) (c:V) (t:Addr) (o:V) (s:Addr) (h:Addr):(lF n c t o s h).lookup ("hear":Str)=none:=by kernel_rfl
theorem iX (n:V) (c:V) (t:Addr) (o:V) (s:Addr) (h:Addr):(lF n c t o s h).lookup ("begin_saying":Str)=none:=by kernel_rfl
theorem xE (n:V) (c:V) (t:Addr) (o:V) (s:Addr) (h:Addr):(lF n c t o s h).lookup ("say":Str)=none:=by kernel_rfl
theorem mo (n:V) (c:V) (t:Addr) (o:V) (s:Addr) (h:Addr):(lF n c t o s h).lookup ("take_hand":Str)=none:=by kernel_rfl
theorem ig (n:V) (c:V) (t:Addr) (o:V) (s:Addr) (h:Addr):(lF n c t o s h).lookup ("settled_pairs":Str)=none:=by kernel_rfl
theorem pA (n:V) (c:V) (t:Addr) (o:V) (s:Addr) (h:Addr) (q:V):bZ "opened" q (lF n c t o s h)=lF n c t q s h:=by kernel_rfl
theorem Bv (n:V) (c:V) (t:Addr) (o:V) (s:Addr) (h:Addr):bZ "hands" (.ref h) (bZ "said" (.ref s) (bZ "opened" o (bZ "told" (.ref t) (bZ "count" c (bZ "number" n [])))))=lF n c t o s h:=by kernel_rfl
theorem ui (c:V) (sl:Addr) (ld:Addr) (sd:Addr) (wl:Addr):(hF c sl ld sd wl).lookup ("count":Str)=some c:=by kernel_rfl
theorem gC (c:V) (sl:Addr) (ld:Addr) (sd:Addr) (wl:Addr):(hF c sl ld sd wl).lookup ("scribes":Str)=some (V.ref sl):=by kernel_rfl
theorem cM (c:V) (sl:Addr) (ld:Addr) (sd:Addr) (wl:Addr):(hF c sl ld sd wl).lookup ("leads":Str)=some (V.ref ld):=by kernel_rfl
theorem dM (c:V) (sl:Addr) (ld:Addr) (sd:Addr) (wl:Addr):(hF c sl ld sd wl).lookup ("stopped":Str)=some (V.ref sd):=by kernel_rfl
theorem lT (c:V) (sl:Addr) (ld:Addr) (sd:Addr) (wl:Addr):(hF c sl ld sd wl).lookup ("writings":Str)=some (V.ref wl):=by kernel_rfl
theorem cm (c:V) (sl:Addr) (ld:Addr) (sd:Addr) (wl:Addr):(hF c sl ld sd wl).lookup ("check":Str)=none:=by kernel_rfl
theorem vi (c:V) (sl:Addr) (ld:Addr) (sd:Addr) (wl:Addr):(hF c sl ld sd wl).lookup ("rise":Str)=none:=by kernel_rfl
theorem xL (c:V) (sl:Addr) (ld:Addr) (sd:Addr) (wl:Addr):(hF c sl ld sd wl).lookup ("ask":Str)=none:=by kernel_rfl
theorem nG (c:V) (sl:Addr) (ld:Addr) (sd:Addr) (wl:Addr):(hF c sl ld sd wl).lookup ("fall":Str)=none:=by kernel_rfl
theorem xK (c:V) (sl:Addr) (ld:Addr) (sd:Addr) (wl:Addr):(hF c sl ld sd wl).lookup ("say":Str)=none:=by kernel_rfl
theorem jX (c:V) (sl:Addr) (ld:Addr) (sd:Addr) (wl:Addr):(hF c sl ld sd wl).lookup ("have_write":Str)=none:=by kernel_rfl
theorem ii (c:V) (sl:Addr) (ld:Addr) (sd:Addr) (wl:Addr):(hF c sl ld sd wl).lookup ("known_settled":Str)=none:=by kernel_rfl
theorem jY (c:V) (sl:Addr) (ld:Addr) (sd:Addr) (wl:Addr):(hF c sl ld sd wl).lookup ("be_stopped":Str)=none:=by kernel_rfl
theorem pG (c:V) (sl:Addr) (ld:Addr) (sd:Addr) (wl:Addr):(hF c sl ld sd wl).lookup ("come_up":Str)=none:=by kernel_rfl
theorem BF (c:V) (sl:Addr) (ld:Addr) (sd:Addr) (wl:Addr):bZ "writings" (.ref wl) (bZ "stopped" (.ref sd) (bZ "leads" (.ref ld) (bZ "scribes" (.ref sl) (bZ "count" c []))))=hF c sl ld sd wl:=by kernel_rfl
theorem uv {f:Str}{v:V}{n:Nat}:∀ {fs:List (Str×V)},fs.length<=n->(bZ f v fs).length<=n+1:=by
 intro fs h;refine Nat.le_trans ?_ (Nat.succ_le_succ h)
 induction fs generalizing n with
 | nil=>exact Nat.le_refl _
 | cons a r ih =>
  obtain ⟨g,x⟩:=a;unfold bZ;split
  ·simp
  ·simp only [List.length_cons]
   have:=ih (n:=r.length) (Nat.le_refl _);omega
theorem qW:(("rise":Str)) ≠ "say":=by decide +kernel
theorem qX:(("ask":Str)) ≠ "rise":=by decide +kernel
theorem sE:(("ask":Str)) ≠ "say":=by decide +kernel
theorem qV:(("say":Str)) ≠ "rise":=by decide +kernel
theorem sD:(("say":Str)) ≠ "ask":=by decide +kernel
theorem mJ:(("write":Str)) ≠ "rise":=by decide +kernel
theorem pf:(("write":Str)) ≠ "ask":=by decide +kernel
theorem iO:(("write":Str)) ≠ "say":=by decide +kernel
theorem jV:(("settled":Str)) ≠ "rise":=by decide +kernel
theorem mj:(("settled":Str)) ≠ "ask":=by decide +kernel
theorem gr:(("settled":Str)) ≠ "say":=by decide +kernel
theorem jq:(("settled":Str)) ≠ "write":=by decide +kernel
theorem py:(("stop":Str)) ≠ "rise":=by decide +kernel
theorem qU:(("stop":Str)) ≠ "ask":=by decide +kernel
theorem jI:(("stop":Str)) ≠ "say":=by decide +kernel
theorem mL:(("stop":Str)) ≠ "write":=by decide +kernel
theorem jU:(("stop":Str)) ≠ "settled":=by decide +kernel
theorem pj:(("wake":Str)) ≠ "rise":=by decide +kernel
theorem qT:(("wake":Str)) ≠ "ask":=by decide +kernel
theorem jH:(("wake":Str)) ≠ "say":=by decide +kernel
theorem mK:(("wake":Str)) ≠ "write":=by decide +kernel
theorem jT:(("wake":Str)) ≠ "settled":=by decide +kernel
theorem pi:(("wake":Str)) ≠ "stop":=by decide +kernel
theorem cQ.reput {β:Type}{F:Int->V->β->Prop}{kvs:List (a5×V)}{l:List (Int×β)} (d:cQ F kvs l) {k:Int}{y:β} (hk:(aq l k).isSome=true) (h:∀ v y',F k v y'->F k v y):cQ F kvs (aD l k y):=by
 unfold aD;rw [if_pos]
 ·unfold cQ at d ⊢
  clear hk
  induction d with
  | nil=>exact .nil
  | @cons p q ps qs e t ih =>
   refine .cons ?_ ih;dsimp only
   by_cases z:q.1=k
   ·rw [if_pos z]; exact ⟨e.1,by have:=e.2; rw [z] at this ⊢; exact h _ _ this⟩
   ·rw [if_neg z]; exact e
 ·unfold aq at hk
  rw [Option.isSome_map] at hk;obtain ⟨p,hp⟩:=Option.isSome_iff_exists.mp hk;have e:=List.find?_some hp;exact List.any_eq_true.mpr ⟨p,List.mem_of_find?_eq_some hp,e⟩
theorem aK {β:Type} (l:List (Int×β)) (k j:Int) (y:β):aq (aD l k y) j=if j=k then some y else aq l j:=by
 have F:cQ (fun (_:Int) (_:V) (_:β)=>True) (l.map fun p=>(Sum.inl p.1,V.non)) l:=by
  unfold cQ
  induction l with
  | nil=>exact .nil
  | cons a r ih=>exact .cons ⟨rfl,trivial⟩ ih
 clear F;unfold aD
 by_cases h:(l.any fun p=>decide (p.1=k))=true
 ·rw [if_pos h]
  have:∀ l:List (Int×β),aq (l.map fun p=>if p.1=k then (p.1,y) else p) j=if j=k then (aq l j).map (fun _=>y) else aq l j:=by
   intro l
   induction l with
   | nil=>unfold aq; simp
   | cons p r ih =>
    rw [List.map_cons]
    by_cases hp:p.1=k
    ·rw [if_pos hp]
     by_cases hj:p.1=j
     ·unfold aq
      have hjk:j=k:=by omega
      simp [List.find?_cons,hj,hjk]
     ·have e1:aq ((p.1,y) :: r.map fun p=>if p.1=k then (p.1,y) else p) j=aq (r.map fun p=>if p.1=k then (p.1,y) else p) j:=by
       unfold aq; rw [List.find?_cons]; simp [hj]
      have e2:aq (p :: r) j=aq r j:=by unfold aq; rw [List.find?_cons]; simp [hj]
      rw [e1,e2,ih]
    ·rw [if_neg hp]
     by_cases hj:p.1=j
     ·have hjk:¬ j=k:=by omega
      rw [if_neg hjk];unfold aq;simp [List.find?_cons,hj]
     ·have e1:aq (p :: r.map fun p=>if p.1=k then (p.1,y) else p) j=aq (r.map fun p=>if p.1=k then (p.1,y) else p) j:=by
       unfold aq; rw [List.find?_cons]; simp [hj]
      have e2:aq (p :: r) j=aq r j:=by unfold aq; rw [List.find?_cons]; simp [hj]
      rw [e1,e2,ih]
  rw [this]
  by_cases hj:j=k
  ·rw [if_pos hj,if_pos hj]
   obtain ⟨p,hp,e⟩:=List.any_eq_true.mp h;cases q:aq l j with
   | none=>exact absurd (List.mem_map.mpr ⟨p,hp,(of_decide_eq_true e).trans hj.symm⟩) (c5.mp q)
   | some z=>rfl
  ·rw [if_neg hj,if_neg hj]
 ·rw [if_neg h]
  unfold aq;rw [List.find?_append]
  by_cases hj:j=k
  ·subst hj
   rw [if_pos rfl]
   have:l.find? (fun p=>decide (p.1=j))=none:=List.find?_eq_none.mpr fun p hp e=>h (List.any_eq_true.mpr ⟨p,hp,e⟩)
   rw [this]; simp
  ·rw [if_neg hj]
   have:([(k,y)]:List (Int×β)).find? (fun p=>decide (p.1=j))=none:=by simp [Ne.symm hj]
   rw [this]; simp
theorem HallAt.lead {c:Cs}{H H':Hp}{α α':Al}{ρ ρ':Ro}{A:PH}{k:Int}{l':PLd} (x:HallAt c H α ρ A) (t:Stp (fun r=>eN k r\/r=.ld) H ρ H' ρ') (e:∀ r,¬ eN k r->α' r=α r) (n:LdAt c H' α' ρ' A.cnt k l')
  (hl:∃ kvs,H' (α .ld)=some (.dK kvs)/\cQ (fun k v (_:PLd)=>v=.ref (α' (.lp k))) kvs (aD A.leads k l')):HallAt c H' α' ρ' { A with leads:=aD A.leads k l' }:=by
 have up:∀ {r:Role}{u:HO},H (α r)=some u->ρ (α r)=some r->¬ eN k r->r≠.ld->H' (α r)=some u/\ρ' (α r)=some r:=fun {r u} h2 h3 h4 h5 =>
  ⟨t.kp _ _ h2 fun q hq z=>by rw [h3] at hq; cases hq; exact z.elim h4 h5,(t.ro _ _ h2).trans h3⟩
 obtain ⟨dx,o⟩:=x.ob;obtain ⟨kl,ol,jl⟩:=x.ld;obtain ⟨us,ow,jw⟩:=x.wl;have e0:=e .hall (fun z=>z);have e2:=e .sl (fun z=>z);have e3:=e .ld (fun z=>z);have e4:=e .sd (fun z=>z);have e5:=e .wl (fun z=>z);have es:=fun i=>e (.scr i) (fun z=>z);have er:=fun i=>e (.row i) (fun z=>z);refine ⟨⟨dx,by rw [e0,e2,e3,e4,e5]; exact (up o x.r1 (fun z=>z) (fun z=>nomatch z)).1⟩,?_,?_,by rw [e4]; exact (up x.sd x.r4 (fun z=>z) (fun z=>nomatch z)).1,
  ⟨us,by rw [e5]; exact (up ow x.r5 (fun z=>z) (fun z=>nomatch z)).1,Paired.mapP jw fun _ _ z=>z.stp t⟩,fun j s1 hj=>?_,fun j l hj=>?_,
  by rw [e0]; exact (up o x.r1 (fun z=>z) (fun z=>nomatch z)).2,by rw [e2]; exact (up x.sl x.r2 (fun z=>z) (fun z=>nomatch z)).2,by rw [e3,t.ro _ _ ol]; exact x.r3,
  by rw [e4]; exact (up x.sd x.r4 (fun z=>z) (fun z=>nomatch z)).2,by rw [e5]; exact (up ow x.r5 (fun z=>z) (fun z=>nomatch z)).2,x.ln,t.fr x.nr,fg _ _ x.nd⟩
 ·rw [e2,(up x.sl x.r2 (fun z=>z) (fun z=>nomatch z)).1]
  simp only [es]
 ·obtain ⟨kvs,h1,h2⟩:=hl
  exact ⟨kvs,by rw [e3]; exact h1,h2⟩
 ·exact (x.sc j s1 hj).stp t (fun w=>w.elim (fun z=>z) (fun z=>nomatch z)) (fun w=>w.elim (fun z=>z) (fun z=>nomatch z)) (es j) (er j)
 ·rcases bh hj with z | ⟨z,z1⟩
  ·cases z; exact n
  ·have z1:j≠k:=z1
   have nk:∀ r,eN j r->¬ eN k r:=fun r h w=>by cases r<;>first | exact h | exact z1 (Eq.trans (Eq.symm h) w)
   refine (x.le j l z).stp t (fun r hr w=>?_) (fun r hr=>e r (nk r hr));rcases w with w | w
   ·exact nk r hr w
   ·subst w; exact hr
theorem HallAt.mid {c:Cs}{H H':Hp}{α:Al}{ρ ρ':Ro}{A:PH}{lds:List (Int×PLd)}{stp:List Int}{wrs:List (Int×Int×Int×Str)} (x:HallAt c H α ρ A) (t:Stp (fun r=>r=.ld\/r=.sd\/r=.wl) H ρ H' ρ')
  (h1:∃ kvs,H' (α .ld)=some (.dK kvs)/\cQ (fun k v (_:PLd)=>v=.ref (α (.lp k))) kvs lds) (h2:H' (α .sd)=some (.dK (gH stp))) (h3:∃ us,H' (α .wl)=some (.lst us)/\Paired (B9 H' ρ') us wrs)
  (hs:∀ k l,(k,l)∈lds->(k,l)∈A.leads) (hn:(lds.map (·.1)).Nodup):HallAt c H' α ρ' { A with leads:=lds,stop:=stp,wrs:=wrs }:=by
 have up:∀ {r:Role}{u:HO},H (α r)=some u->ρ (α r)=some r->¬ (r=.ld\/r=.sd\/r=.wl)->H' (α r)=some u/\ρ' (α r)=some r:=fun {r u} h2 h3 h4 =>
  ⟨t.kp _ _ h2 fun q hq=>by rw [h3] at hq; cases hq; exact h4,(t.ro _ _ h2).trans h3⟩
 obtain ⟨dx,o⟩:=x.ob;obtain ⟨kl,ol,jl⟩:=x.ld;obtain ⟨us,ow,jw⟩:=x.wl;refine ⟨⟨dx,(up o x.r1 (by simp)).1⟩,(up x.sl x.r2 (by simp)).1,h1,h2,h3,fun j s1 hj=>(x.sc j s1 hj).stp t (by simp) (by simp) rfl rfl,fun j l hj=>(x.le j l (hs j l hj)).stp t (fun r hr w=>?_) fun _ _=>rfl,
  (up o x.r1 (by simp)).2,(up x.sl x.r2 (by simp)).2,(t.ro _ _ ol).trans x.r3,(t.ro _ _ x.sd).trans x.r4,(t.ro _ _ ow).trans x.r5,x.ln,t.fr x.nr,hn⟩
 rcases w with rfl | rfl | rfl<;>exact hr
theorem HallAt.stp {c:Cs}{H H':Hp}{α:Al}{ρ ρ':Ro}{A:PH} (x:HallAt c H α ρ A) (t:Stp (fun _=>False) H ρ H' ρ'):HallAt c H' α ρ' A:=by
 have up:∀ {r:Role}{u:HO},H (α r)=some u->ρ (α r)=some r->H' (α r)=some u/\ρ' (α r)=some r:=fun {r u} h2 h3 =>
  ⟨t.kp _ _ h2 fun q hq=>fun z=>z,(t.ro _ _ h2).trans h3⟩
 obtain ⟨kl,ol,jl⟩:=x.ld;obtain ⟨us,ow,jw⟩:=x.wl;exact x.mid (t.mono fun _ z=>z.elim) ⟨kl,(up ol x.r3).1,jl⟩ (up x.sd x.r4).1 ⟨us,(up ow x.r5).1,Paired.mapP jw fun _ _ z=>z.stp t⟩ (fun _ _ h=>h) x.nd
theorem HallAt.scrAt {c:Cs}{H:Hp}{α:Al}{ρ:Ro}{A:PH} (x:HallAt c H α ρ A) {i:Int} (h:aM A i=true):∃ s,A.scrs[i.toNat]? = some s/\ScrAt c H α ρ A.cnt i.toNat s/\((i.toNat:Nat):Int)=i/\mr ((List.range A.scrs.length).map fun i=>V.ref (α (.scr i))) i=some (.ref (α (.scr i.toNat))):=by
 unfold aM at h;rw [Bool.and_eq_true] at h;have h0:=of_decide_eq_true h.1;have h1:=of_decide_eq_true h.2;rw [x.ln] at h1;have hi:i.toNat < A.scrs.length:=by omega
 have ei:((i.toNat:Nat):Int)=i:=by omega
 refine ⟨_,List.getElem?_eq_getElem hi,x.sc _ _ (List.getElem?_eq_getElem hi),ei,?_⟩;have:=cN (xs:=(List.range A.scrs.length).map fun i=>V.ref (α (.scr i))) (j:=i.toNat) (v:=.ref (α (.scr i.toNat))) (by simp [hi]);rw [ei] at this;exact this
structure BdL (l:PLd) (n:Nat):Prop where
 t:l.told.length<=n
 r:∀ p∈l.told,p.2.length<=n
 s:l.said.length<=n * n+n
 h:l.hands.length<=n
 i:∀ p∈l.hands,p.2.length<=n
structure Bd (A:PH) (n:Nat):Prop where
 l:A.leads.length<=n
 s:A.stop.length<=n
 w:A.wrs.length<=n
 r:∀ s∈A.scrs,s.row.length<=n
 k:∀ p∈A.leads,BdL p.2 n
structure TxS (K:Frag) (C:Addr):Prop where
 cl:Cls K C
 n1:bH K C "own"
 n2:bH K C "count"
 n3:bH K C "promised"
 n4:bH K C "row"
 n5:bH K C "seen"
structure TxL (K:Frag) (C:Addr):Prop where
 cl:Cls K C
 n1:bH K C "number"
 n2:bH K C "count"
 n3:bH K C "told"
 n4:bH K C "opened"
 n5:bH K C "said"
 n6:bH K C "hands"
structure TxH (K:Frag) (C:Addr):Prop where
 cl:Cls K C
 n1:bH K C "count"
 n2:bH K C "scribes"
 n3:bH K C "leads"
 n4:bH K C "stopped"
 n5:bH K C "writings"
abbrev zY:List Value:=[.type "ValueError",.type "Exception",.type "BaseException",.type "object"]
structure TxN (K:Frag) (mg:Str->Option Value) (x:Str) (N:Addr):Prop where
 mg:mg x=some (.ref N)
 ex:PySem.W.excIn K N zY "ValueError.__new__" = true
noncomputable def kH:Sp:=fun vs H Q _=>∃ c n:Int,vs=[.int c,.int n]/\Q (.bl (cw c n)) H
noncomputable def tL:Sp:=fun vs H Q _=>∃ c o s:Int,vs=[.int c,.int o,.int s]/\0 < c/\Q (.int (bx c o s)) H
noncomputable def wt:Sp:=fun vs H Q _=>∃ (l:Addr) (ds:List Addr) (rows:List cg),vs=[.ref l]/\H l=some (.lst (ds.map V.ref))/\Paired (RowAt H) ds rows/\rows.flatten.length < 1000000 /\
 ∀ q H',H q=none->H' q=some (.dK (ju (cX rows)))->aI H H'->Q (.ref q) H'
noncomputable def wo:Sp:=fun vs H Q _=>∃ (d:Addr) (kvs:List (a5×V)),vs=[.ref d]/\Rd H d (.dK kvs) /\
 ∀ n:Nat,(∀ m:Nat,m < n->(a7 kvs (Sum.inl (m:Int))).isSome=true)->a7 kvs (Sum.inl (n:Int))=none->Q (.int n) H
noncomputable def tI (C:Addr):Sp:=fun vs H Q _=>∃ (p dx:Addr) (o c:V),vs=[.ref p,o,c]/\H p=some (.ins C dx []) /\
 ∀ (r:Addr) (H':Hp),H r=none->H' p=some (.ins C dx (sF o c (.int (-1)) r (.int (-1))))->H' r=some (.dK [])->(∀ b u,H b=some u->b≠p->H' b=some u)->Q .non H'
noncomputable def i_ (C:Addr):Sp:=fun vs H Q _=>∃ (p dx:Addr) (o c:V) (m n:Int) (r:Addr) (sn:V),vs=[.ref p,.int n]/\H p=some (.ins C dx (sF o c (.int m) r sn)) /\
 (n < m->Q (.bl false) H)/\(¬ n < m->Q (.bl true) (aw H p (.ins C dx (sF o c (.int n) r sn))))
noncomputable def Ag (C:Addr):Sp:=fun vs H Q _=>∃ (p dx:Addr) (o c:V) (m n pl:Int) (sy:Str) (r:Addr) (sn:V) (kvs:List (a5×V)),vs=[.ref p,.int n,.int pl,.str sy]/\H p=some (.ins C dx (sF o c (.int m) r sn))/\H r=some (.dK kvs)/\kvs.length < 1000 /\
 (n < m->Q (.bl false) H)/\(¬ n < m->∀ t H',H t=none->(∀ b u,H b=some u->b≠p->b≠r->H' b=some u)->H' t=some (.tup [.int n,.str sy])->H' p=some (.ins C dx (sF o c (.int n) r sn))->H' r=some (.dK (bo kvs (Sum.inl pl) (.ref t)))->Q (.bl true) H')
noncomputable def tH (C:Addr):Sp:=fun vs H Q _=>∃ (p dx:Addr) (o c sn:Int) (pv:V) (r:Addr),vs=[.ref p]/\H p=some (.ins C dx (sF (.int o) (.int c) pv r (.int sn)))/\0 < c/\Q (.int (bx c o sn)) (aw H p (.ins C dx (sF (.int o) (.int c) pv r (.int (bx c o sn)))))
noncomputable def Af (C:Addr):Sp:=fun vs H Q _=>∃ (p dx:Addr) (o c pv:V) (sn n:Int) (r:Addr),vs=[.ref p,.int n]/\H p=some (.ins C dx (sF o c pv r (.int sn)))/\Q .non (aw H p (.ins C dx (sF o c pv r (.int (if sn < n then n else sn)))))
noncomputable def tM (C:Addr):Sp:=fun vs H Q _=>∃ (p dx:Addr) (n c:V),vs=[.ref p,n,c]/\H p=some (.ins C dx []) /\
 ∀ (t s h:Addr) (H':Hp),H t=none->H s=none->H h=none->t≠s->t≠h->s≠h->H' p=some (.ins C dx (lF n c t (.bl false) s h))->H' t=some (.dK [])->H' s=some (.dK [])->H' h=some (.dK [])->(∀ b u,H b=some u->b≠p->H' b=some u)->Q .non H'
noncomputable def tR (c:Cs):Sp:=fun vs H Q _=>∃ (α:Al) (ρ:Ro) (cnt k:Int) (l:PLd) (n:Nat),vs=[.ref (α (.lp k))]/\LdAt c H α ρ cnt k l/\Aw H ρ/\BdL l n/\l.said=[]/\n<=400 /\
 ∀ H',LdAt c H' α ρ cnt k (kP l)->Stp (eN k) H ρ H' ρ->Q .non H'
noncomputable def wg (c:Cs):Sp:=fun vs H Q _=>∃ (α:Al) (ρ:Ro) (cnt k:Int) (l:PLd) (n:Nat) (j:Int) (ra:Addr) (kv:List (a5×V)) (row:cr),vs=[.ref (α (.lp k)),.int j,.ref ra]/\LdAt c H α ρ cnt k l/\Aw H ρ/\BdL l n/\(l.op=false->l.said=[])/\n<=399/\H ra=some (.dK kv)/\cQ (pS H ρ) kv row/\row.length<=n /\
 ∀ H' α' ρ',LdAt c H' α' ρ' cnt k (b7 cnt l j row)->Stp (eN k) H ρ H' ρ'->(∀ r,¬ eN k r->α' r=α r)->α' (.lp k)=α (.lp k)->Q .non H'
noncomputable def we (c:Cs):Sp:=fun vs H Q _=>∃ (α:Al) (ρ:Ro) (cnt k:Int) (l:PLd) (sy:Str),vs=[.ref (α (.lp k)),.str sy]/\LdAt c H α ρ cnt k l/\l.said.length < 1000000 /\
 ∀ H',LdAt c H' α ρ cnt k (pQ l sy)->Stp (eN k) H ρ H' ρ->Q (.int (cz l.said)) H'
noncomputable def wj (c:Cs):Sp:=fun vs H Q _=>∃ (α:Al) (ρ:Ro) (cnt k:Int) (l:PLd) (j pl:Int),vs=[.ref (α (.lp k)),.int j,.int pl]/\LdAt c H α ρ cnt k l/\Aw H ρ/\l.hands.length < 1000/\(∀ p∈l.hands,p.2.length < 1000)/\(l.hands.map (·.1)).Nodup /\
 ∀ H' α' ρ',LdAt c H' α' ρ' cnt k (ip l j pl)->Stp (eN k) H ρ H' ρ'->(∀ r,¬ eN k r->α' r=α r)->α' (.lp k)=α (.lp k)->Q .non H'
noncomputable def jP (H:Hp) (ρ:Ro) (v:V):Ans->Prop
 | .non=>v=.non
 | .int i=>v=.int i
 | .bl b=>v=.bl b
 | .str s=>v=.str s
 | .prs l=>∃ D us,v=.ref D/\H D=some (.lst us)/\ρ D=none/\Paired (fun u (p:Int×Str)=>∃ a,u=V.ref a/\H a=some (.tup [.int p.1,.str p.2])/\ρ a=none) us l
theorem jP.stp {R:Role->Prop}{H H':Hp}{ρ ρ':Ro}{v:V}{a:Ans} (x:jP H ρ v a) (t:Stp R H ρ H' ρ'):jP H' ρ' v a:=by
 cases a with
 | non=>exact x
 | int i=>exact x
 | bl b=>exact x
 | str s=>exact x
 | prs l =>
  obtain ⟨D,us,e,hD,rD,p⟩:=x;exact ⟨D,us,e,t.kp _ _ hD (fun r z=>by rw [rD] at z; cases z),(t.ro _ _ hD).trans rD,Paired.mapP p fun u q ⟨a,e1,e2,e3⟩=>⟨a,e1,t.kp _ _ e2 (fun r z=>by rw [e3] at z; cases z),(t.ro _ _ e2).trans e3⟩⟩
noncomputable def lG (c:Cs):Sp:=fun vs H Q _=>∃ (α:Al) (ρ:Ro) (cnt k:Int) (l:PLd),vs=[.ref (α (.lp k))]/\LdAt c H α ρ cnt k l/\Aw H ρ/\l.hands.length < 64/\(l.hands.map (·.1)).Nodup/\(∀ p∈l.hands,(aq l.said p.1).isSome=true) /\
 ∀ H' v,jP H' ρ v (.prs (dj cnt l))->Stp (fun _=>False) H ρ H' ρ->Q v H'
structure WfL (l:PLd) (PL:List Int):Prop where
 hp:∀ p∈l.hands,p.1∈PL
 hn:(l.hands.map (·.1)).Nodup
 hs:∀ p∈l.hands,(aq l.said p.1).isSome=true
 op:l.op=false->l.said=[]
structure Wf (A:PH) (n:Nat) (PL:List Int):Prop where
 bd:Bd A n
 le:∀ p∈A.leads,WfL p.2 PL
 rp:∀ s∈A.scrs,(∀ p∈s.row,p.1∈PL)/\(s.row.map (·.1)).Nodup
 pos:0 < A.cnt
 pl:PL.length < 64
noncomputable def uF (r:Role):Prop:=r≠.out
noncomputable def oz (c:Cs):Sp:=fun vs H Q _=>∃ (p dx:Addr) (n:Nat),vs=[.ref p,.int n]/\H p=some (.ins c.h dx [])/\n < 1000 /\
 ∀ H' α ρ,α .hall=p->HallAt c H' α ρ (init n)->(∀ b u,H b=some u->b≠p->H' b=some u/\ρ b=none)->Q .non H'
noncomputable def fe (c:Cs) (N:Addr):Sp:=fun vs H Q E=>∃ (p dx:Addr) (i cnt:Int) (sl ld sd wl:Addr),vs=[.ref p,.int i]/\H p=some (.ins c.h dx (hF (.int cnt) sl ld sd wl))/\((decide (0<=i)&&decide (i < cnt))=true->Q .non H)/\((decide (0<=i)&&decide (i < cnt))=false->E (.ref N) none H)
noncomputable def rH (c:Cs):Sp:=fun vs H Q _=>∃ (α:Al) (ρ:Ro) (A:PH) (own num:Int),vs=[.ref (α .hall),.int own,.int num]/\HallAt c H α ρ A/\aM A own=true/\(aq A.leads own).isSome=true/\A.leads.length < 1000 /\
 ∀ H',HallAt c H' α ρ (de A own num)->Stp uF H ρ H' ρ->Q .non H'
noncomputable def rB (c:Cs) (N:Addr) (args:List V) (chk:List Int) (f:PH->PH×Ans):Sp:=fun vs H Q E=>∃ (α:Al) (ρ:Ro) (A:PH) (n:Nat) (PL:List Int),vs=.ref (α .hall) :: args/\HallAt c H α ρ A/\Wf A n PL/\n<=398 /\
 ((∀ i∈chk,aM A i=true)->∀ H' α' ρ' v,HallAt c H' α' ρ' (f A).1->α' .hall=α .hall->Stp uF H ρ H' ρ'->jP H' ρ' v (f A).2->Q v H')/\((∃ i∈chk,aM A i=false)->E (.ref N) none H)
noncomputable def tP (c:Cs) (N:Addr):Sp:=fun vs H Q E=>∃ own,rB c N [.int own] [own] (fun A=>dU A own) vs H Q E
noncomputable def wn (c:Cs) (N:Addr):Sp:=fun vs H Q E=>∃ own other,rB c N [.int own,.int other] [own,other] (fun A=>eQ A own other) vs H Q E
noncomputable def wm (c:Cs) (N:Addr):Sp:=fun vs H Q E=>∃ own sy,rB c N [.int own,.str sy] [own] (fun A=>fM A own sy) vs H Q E
noncomputable def qc (c:Cs) (N:Addr):Sp:=fun vs H Q E=>∃ own other pl,rB c N [.int own,.int other,.int pl] [own,other] (fun A=>bG A own other pl) vs H Q E
noncomputable def lH (c:Cs) (N:Addr):Sp:=fun vs H Q E=>∃ own,rB c N [.int own] [own] (fun A=>(A,b9 A own)) vs H Q E
noncomputable def tO (c:Cs) (N:Addr):Sp:=fun vs H Q E=>∃ own,rB c N [.int own] [own] (fun A=>eU A own) vs H Q E
noncomputable def tN (c:Cs) (N:Addr):Sp:=fun vs H Q E=>∃ own,rB c N [.int own] [own] (fun A=>eA A own) vs H Q E
noncomputable def Deed.rowV:Deed->List V
 | .rise o=>[.str "rise",.int o]
 | .ask o p=>[.str "ask",.int o,.int p]
 | .say o s=>[.str "say",.int o,.str s]
 | .write o p pl=>[.str "write",.int o,.int p,.int pl]
 | .settled o=>[.str "settled",.int o]
 | .stop o=>[.str "stop",.int o]
 | .wake o=>[.str "wake",.int o]
noncomputable def Deed.chk:Deed->List Int
 | .rise o=>[o]
 | .ask o p=>[o,p]
 | .say o _=>[o]
 | .write o p _=>[o,p]
 | .settled o=>[o]
 | .stop o=>[o]
 | .wake o=>[o]
theorem wS {A:PH}{d:Deed} (h:∃ i∈d.chk,aM A i=false):step A d=(A,.str "no scribe"):=by
 obtain ⟨i,hi,e⟩:=h;cases d<;>simp only [Deed.chk,List.mem_cons,List.not_mem_nil,or_false] at hi
 case ask o p=>rcases hi with rfl | rfl<;>simp only [step,e,Bool.false_eq_true,if_false,ite_self]
 case write o p pl=>rcases hi with rfl | rfl<;>simp only [step,e,Bool.false_eq_true,if_false,ite_self]
 all_goals (subst hi; simp only [step,e,Bool.false_eq_true,if_false])
noncomputable def wq (c:Cs) (N:Addr):Sp:=fun vs H Q E=>∃ (α:Al) (ρ:Ro) (A:PH) (n:Nat) (PL:List Int) (t:Addr) (d:Deed),vs=[.ref (α .hall),.ref t]/\HallAt c H α ρ A/\Wf A n PL/\n<=398/\H t=some (.tup d.rowV) /\
 ((∀ i∈d.chk,aM A i=true)->∀ H' α' ρ' v,HallAt c H' α' ρ' (step A d).1->α' .hall=α .hall->Stp uF H ρ H' ρ'->jP H' ρ' v (step A d).2->Q v H')/\((∃ i∈d.chk,aM A i=false)->E (.ref N) none H)
noncomputable def kX (c:Cs):Sp:=fun vs H Q _=>∃ (α:Al) (ρ:Ro) (A:PH) (n:Nat) (PL:List Int) (t:Addr) (d:Deed),vs=[.ref (α .hall),.ref t]/\HallAt c H α ρ A/\Wf A n PL/\n<=398/\H t=some (.tup d.rowV) /\
 ∀ H' α' ρ' v,HallAt c H' α' ρ' (step A d).1->α' .hall=α .hall->Stp uF H ρ H' ρ'->jP H' ρ' v (step A d).2->Q v H'
noncomputable def deedOk (PL:List Int):Deed->Prop
 | .write _ _ pl=>pl∈PL
 | _=>True
theorem oA {n:Nat} (h:n<=1000000):n < sizeLine:=Nat.lt_of_le_of_lt h (by decide)
theorem tW:∀ (n:Nat) (l:List Int),(∀ m:Nat,m < n->(m:Int)∈l)->n<=l.length
 | 0,_,_=>Nat.zero_le _
 | n+1,l,h=>by
  have hn:=h n (Nat.lt_succ_self n);have:=tW n (l.erase (n:Int)) fun m hm=>(List.mem_erase_of_ne (fun z=>by omega)).mpr (h m (by omega));rw [List.length_erase_of_mem hn] at this
  have:0 < l.length:=List.length_pos_of_mem hn
  omega
theorem tX (n:Nat) (l:List a5) (h:∀ m:Nat,m < n->(Sum.inl (m:Int):a5)∈l):n<=l.length:=by
 have:=tW n (l.filterMap fun k=>match k with | .inl i=>some i | .inr _=>none) fun m hm=>List.mem_filterMap.mpr ⟨_,h m hm,rfl⟩;exact Nat.le_trans this (List.length_filterMap_le ..)
theorem lC {kvs:List (a5×V)}{k:a5} (h:(a7 kvs k).isSome=true):k∈kvs.map (·.1):=by
 unfold a7 at h;rw [Option.isSome_map] at h;obtain ⟨p,hp⟩:=Option.isSome_iff_exists.mp h;have e:=List.find?_some hp;exact List.mem_map.mpr ⟨p,List.mem_of_find?_eq_some hp,of_decide_eq_true e⟩
noncomputable def kz (q:Int×Ent):Int×(Int×Str):=(q.1,(q.2.n,q.2.s))
theorem qD {β γ:Type} (f:β->γ):∀ (l:List (Int×β)) (k:Int),aq (l.map fun q=>(q.1,f q.2)) k=(aq l k).map f
 | [],_=>rfl
 | p :: r,k=>by
  rw [List.map_cons];unfold aq;rw [List.find?_cons,List.find?_cons]
  by_cases z:p.1=k
  ·rw [decide_eq_true z]; rfl
  ·rw [decide_eq_false z]; exact qD f r k
theorem xj {β γ:Type} (f:β->γ) (l:List (Int×β)) (k:Int) (v:β):(aD l k v).map (fun q=>(q.1,f q.2))=aD (l.map fun q=>(q.1,f q.2)) k (f v):=by
 unfold aD;have an:((l.map fun q=>(q.1,f q.2)).any fun p=>decide (p.1=k))=l.any fun p=>decide (p.1=k):=by rw [List.any_map]; rfl
 rw [an];split
 ·rw [List.map_map,List.map_map]
  apply List.map_congr_left;intro p _;show ((if p.1=k then (p.1,v) else p).1,f (if p.1=k then (p.1,v) else p).2)=if p.1=k then (p.1,f v) else (p.1,f p.2)
  split<;>rfl
 ·rw [List.map_append]; rfl
theorem uN (b:cg) (p:Int×Ent):(dF b p).map kz=bN (b.map kz) (kz p):=by
 have g:aq (b.map kz) p.1=(aq b p.1).map fun e=>(e.n,e.s):=qD (fun e:Ent=>(e.n,e.s)) b p.1;have u:(aD b p.1 p.2).map kz=aD (b.map kz) p.1 (p.2.n,p.2.s):=xj (fun e:Ent=>(e.n,e.s)) b p.1 p.2;unfold dF bN;show _=match aq (b.map kz) p.1 with | none=>_ | some e=>_
 rw [g];cases aq b p.1 with
 | none=>exact u
 | some e =>
  show (if e.n < p.2.n then aD b p.1 p.2 else b).map kz=if e.n < p.2.n then aD (b.map kz) p.1 (p.2.n,p.2.s) else b.map kz
  split
  ·exact u
  ·rfl
theorem nX:∀ (r b:cg),(bR b r).map kz=(r.map kz).foldl bN (b.map kz)
 | [],_=>rfl
 | p :: r,b=>by
  show (bR (dF b p) r).map kz=_;rw [nX r,uN]; rfl
theorem sX (rs:List cg):(cX rs).map kz=eV (rs.map fun r=>r.map kz):=by
 unfold cX eV
 have:∀ (rs:List cg) (b:cg),(rs.foldl bR b).map kz=(rs.map fun r=>r.map kz).foldl (fun b r=>r.foldl bN b) (b.map kz):=by
  intro rs
  induction rs with
  | nil=>intro b; rfl
  | cons r rs ih=>intro b; rw [List.foldl_cons,ih,nX]; rfl
 exact this rs []
theorem zy {H:Hp}{ρ:Ro}{kv:List (a5×V)}{row:cr} (d:cQ (pS H ρ) kv row):∃ er:cg,kv=ju er/\(∀ q∈er,jz H q.2)/\er.map kz=row:=by
 unfold cQ at d
 induction d with
 | nil=>exact ⟨[],rfl,(fun _ h=>nomatch h),rfl⟩
 | @cons p q ps qs e t ih =>
  obtain ⟨er,h1,h2,h3⟩:=ih;obtain ⟨e1,a,e2,e3,e4⟩:=e;obtain ⟨p1,p2⟩:=p;have e1:p1=Sum.inl q.1:=e1;have e2:p2=.ref a:=e2;subst e1 e2;refine ⟨(q.1,⟨a,q.2.1,q.2.2⟩) :: er,by rw [h1]; rfl,fun y hy=>?_,by rw [List.map_cons,h3]; rfl⟩;rcases List.mem_cons.mp hy with z | z
  ·subst z; exact e3
  ·exact h2 y z
theorem uK {H:Hp}{α:Al}{ρ:Ro}{k:Int}{kvs:List (a5×V)}{told:List (Int×cr)} (d:cQ (Dp H α ρ k) kvs told):∃ rows:List cg,kvs.map (·.2)=(told.map fun q=>α (.tr k q.1)).map V.ref/\Paired (RowAt H) (told.map fun q=>α (.tr k q.1)) rows/\(rows.map fun r=>r.map kz)=told.map (·.2):=by
 unfold cQ at d
 induction d with
 | nil=>exact ⟨[],rfl,.nil,rfl⟩
 | @cons p q ps qs e t ih =>
  obtain ⟨rows,h1,h2,h3⟩:=ih;obtain ⟨e1,e2,e3,kv,e4,e5⟩:=e;obtain ⟨er,g1,g2,g3⟩:=zy e5;subst g1;refine ⟨er :: rows,?_,.cons ⟨e4,g2⟩ h2,by rw [List.map_cons,h3,g3]; rfl⟩;rw [List.map_cons,List.map_cons,List.map_cons,h1,e2]
theorem xR (rows:List cg):rows.flatten.length=((rows.map fun r=>r.map kz).flatten).length:=by
 induction rows with
 | nil=>rfl
 | cons r rs ih=>rw [List.flatten_cons,List.map_cons,List.flatten_cons,List.length_append,List.length_append,ih,List.length_map]
theorem oM {n:Nat}:∀ (l:List (Int×cr)),(∀ p∈l,p.2.length<=n)->((l.map (·.2)).flatten).length<=l.length * n
 | [],_=>by simp
 | p :: r,h=>by
  have h1:=oM r fun q hq=>h q (List.mem_cons_of_mem _ hq);have h2:=h p List.mem_cons_self;rw [List.map_cons,List.flatten_cons,List.length_append,List.length_cons,Nat.add_mul,Nat.one_mul];omega
theorem xO {said:List (Int×Str)}{kvs:List (a5×V)} (d:cQ (fun _ v (y:Str)=>v=.str y) kvs said) (n:Nat) (h1:∀ m:Nat,m < n->(a7 kvs (Sum.inl (m:Int))).isSome=true) (h2:a7 kvs (Sum.inl (n:Int))=none):cz said=n:=by
 have g1:∀ m:Nat,m < n->(aq said (m:Int)).isNone=false:=fun m hm=>by
  rcases d.get (m:Int) with ⟨_,z⟩ | ⟨v,y,z,_⟩
  ·have:=h1 m hm; rw [z] at this; cases this
  ·rw [z]; rfl
 have g2:(aq said (n:Int)).isNone=true:=by
  rcases d.get (n:Int) with ⟨z,_⟩ | ⟨v,y,_,z,_⟩
  ·rw [z]; rfl
  ·rw [z] at h2; cases h2
 have hle:=tX n (kvs.map (·.1)) fun j hj=>lC (h1 j hj);rw [List.length_map,d.len] at hle;unfold cz
 have:(List.range (said.length+1)).find? (fun n:Nat=>(aq said (n:Int)).isNone)=some n:=by
  rw [List.find?_range_eq_some];refine ⟨g2,List.mem_range.mpr (by omega),fun j hj=>?_⟩;rw [g1 j hj]; rfl
 rw [this]; rfl
theorem jg (a:Int):∀ l:List Int,(uC a l).Perm (a :: l)
 | []=>.refl _
 | b :: r=>by
  unfold uC;split
  ·exact .refl _
  ·exact ((jg a r).cons b).trans (List.Perm.swap a b r)
theorem ug (a:Int):∀ l:List Int,l.Pairwise (·<=·)->(uC a l).Pairwise (·<=·)
 | [],_=>List.pairwise_singleton ..
 | b :: r,h=>by
  unfold uC;obtain ⟨h1,h2⟩:=List.pairwise_cons.mp h;split
  ·next hab=>exact List.pairwise_cons.mpr ⟨fun x hx=>by
    rcases List.mem_cons.mp hx with z | z
    ·omega
    ·have:=h1 x z; omega,h⟩
  ·next hab=>exact List.pairwise_cons.mpr ⟨fun x hx=>by
    rcases List.mem_cons.mp ((jg a r).mem_iff.mp hx) with z | z
    ·omega
    ·exact h1 x z,ug a r h2⟩
theorem gY:∀ l:List Int,(gJ l).Perm l
 | []=>.refl _
 | a :: l=>(jg a (gJ l)).trans ((gY l).cons a)
theorem qf:∀ l:List Int,(gJ l).Pairwise (·<=·)
 | []=>.nil
 | a :: l=>ug a _ (qf l)
theorem wU {l ns:List Int} (hp:ns.Perm l) (hs:ns.Pairwise (· < ·)):gJ l=ns:=by
 have p1:(gJ l).Perm ns:=(gY l).trans hp.symm;have nd:ns.Nodup:=hs.imp fun h=>by omega
 have nd':(gJ l).Nodup:=p1.nodup_iff.mpr nd;have s2:(gJ l).Pairwise (fun a b=>a < b):=List.Pairwise.imp₂ (fun a b h1 h2=>by omega) (qf l) nd';exact gX (f:=fun x:Int=>x) p1 s2 hs
theorem ou {α:Al}{k:Int}{r:Role}{a:Addr} (h:eN k r):∀ q,¬ eN k q->cK α r a q=α q:=fun q hq=>aU fun z=>hq (z ▸ h)
section
variable {c:Cs}{H:Hp}{α:Al}{ρ:Ro}{cnt k:Int}{l:PLd}
theorem LdAt.tell {j:Int}{row:cr}{kv kt:List (a5×V)}{a:Addr} (L:LdAt c H α ρ cnt k l) (ha:H a=none) (hk:cQ (pS H ρ) kv row) (ht:H (α (.lt k))=some (.dK kt)) :
  LdAt c (aw (aw H a (.dK kv)) (α (.lt k)) (.dK (bo kt (Sum.inl j) (.ref a)))) (cK α (.tr k j) a) (c9 ρ a (.tr k j)) cnt k { l with told:=aD l.told j row } /\
  Stp (eN k) H ρ (aw (aw H a (.dK kv)) (α (.lt k)) (.dK (bo kt (Sum.inl j) (.ref a)))) (c9 ρ a (.tr k j)):=by
 obtain ⟨⟨dx,o⟩,⟨kt',ot,jt⟩,⟨ks,os,js⟩,⟨kh,oh,jh⟩,r1,r2,r3,r4⟩:=L;rw [ht] at ot; cases ot;have ep:cK α (.tr k j) a (.lp k)=α (.lp k):=aU (fun z=>nomatch z);have et:cK α (.tr k j) a (.lt k)=α (.lt k):=aU (fun z=>nomatch z);have es:cK α (.tr k j) a (.ls k)=α (.ls k):=aU (fun z=>nomatch z);have eh:cK α (.tr k j) a (.lh k)=α (.lh k):=aU (fun z=>nomatch z);have ed:∀ i,cK α (.tr k j) a (.hd k i)=α (.hd k i):=fun i=>aU (fun z=>nomatch z);have S0:Stp (eN k) H ρ (aw H a (.dK kv)) (c9 ρ a (.tr k j)):=kU _ ha;have ht0:(aw H a (.dK kv)) (α (.lt k))=some (.dK kt):=by rw [ad (ai ht ha)]; exact ht
 have rt0:(c9 ρ a (.tr k j)) (α (.lt k))=some (.lt k):=by rw [aV (ai ht ha)]; exact r2
 have S:Stp (eN k) H ρ (aw (aw H a (.dK kv)) (α (.lt k)) (.dK (bo kt (Sum.inl j) (.ref a)))) (c9 ρ a (.tr k j)):=S0.two (cj ht0 rt0 (show eN k (.lt k) from rfl));have up:∀ {b:Addr}{r:Role}{u:HO},H b=some u->ρ b=some r->r≠.lt k->(aw (aw H a (.dK kv)) (α (.lt k)) (.dK (bo kt (Sum.inl j) (.ref a)))) b=some u/\(c9 ρ a (.tr k j)) b=some r:=fun {b r u} h1 h2 h3 =>
  ⟨by rw [ad (bL h2 r2 h3),ad (ai h1 ha)]; exact h1,by rw [aV (ai h1 ha)]; exact h2⟩
 have at':a≠α (.lt k):=fun z=>by rw [z,ht] at ha; cases ha
 refine ⟨⟨⟨dx,?_⟩,⟨bo kt (Sum.inl j) (.ref a),?_,?_⟩,⟨ks,?_,js⟩,⟨kh,?_,jh.imp fun i v y _ z=>?_⟩,?_,?_,?_,?_⟩,S⟩
 ·simp only [ep,et,es,eh]; exact (up o r1 (fun z=>nomatch z)).1
 ·simp only [ep,et,es,eh,ed]; exact upd_same
 ·refine jt.putI j ⟨?_,?_,kv,?_,hk.imp fun _ _ _ _ z=>z.stp S⟩ fun i v y hi ⟨z1,z2,kv',z3,z4⟩=>?_
  ·rw [bu]
  ·rw [bu]; exact bK
  ·rw [bu,ad at',upd_same]
  ·have ne:(Role.tr k i)≠.tr k j:=fun z=>by cases z; exact hi rfl
   refine ⟨?_,?_,kv',?_,z4.imp fun _ _ _ _ z=>z.stp S⟩
   ·rw [aU ne]; exact z1
   ·rw [aU ne]; exact (up z3 z2 (fun z=>nomatch z)).2
   ·rw [aU ne]; exact (up z3 z2 (fun z=>nomatch z)).1
 ·simp only [ep,et,es,eh,ed]; exact (up os r3 (fun z=>nomatch z)).1
 ·simp only [ep,et,es,eh,ed]; exact (up oh r4 (fun z=>nomatch z)).1
 ·obtain ⟨z1,z2,z3⟩:=z
  refine ⟨?_,?_,?_⟩
  ·simp only [ep,et,es,eh,ed]; exact z1
  ·simp only [ep,et,es,eh,ed]; exact (up z3 z2 (fun z=>nomatch z)).2
  ·simp only [ep,et,es,eh,ed]; exact (up z3 z2 (fun z=>nomatch z)).1
 ·simp only [ep,et,es,eh,ed]; exact (up o r1 (fun z=>nomatch z)).2
 ·simp only [ep,et,es,eh,ed]; exact rt0
 ·simp only [ep,et,es,eh,ed]; exact (up os r3 (fun z=>nomatch z)).2
 ·simp only [ep,et,es,eh,ed]; exact (up oh r4 (fun z=>nomatch z)).2
theorem LdAt.told {pl:Int}{sy:Str}{ks:List (a5×V)} (L:LdAt c H α ρ cnt k l) (hs:H (α (.ls k))=some (.dK ks)) :
  LdAt c (aw H (α (.ls k)) (.dK (bo ks (Sum.inl pl) (.str sy)))) α ρ cnt k { l with said:=aD l.said pl sy }/\Stp (eN k) H ρ (aw H (α (.ls k)) (.dK (bo ks (Sum.inl pl) (.str sy)))) ρ:=by
 obtain ⟨⟨dx,o⟩,⟨kt,ot,jt⟩,⟨ks',os,js⟩,⟨kh,oh,jh⟩,r1,r2,r3,r4⟩:=L;rw [hs] at os; cases os;have S:Stp (eN k) H ρ (aw H (α (.ls k)) (.dK (bo ks (Sum.inl pl) (.str sy)))) ρ:=cj hs r3 (show eN k (.ls k) from rfl);have up:∀ {b:Addr}{r:Role}{u:HO},H b=some u->ρ b=some r->r≠.ls k->(aw H (α (.ls k)) (.dK (bo ks (Sum.inl pl) (.str sy)))) b=some u:=fun {b r u} h1 h2 h3=>by rw [ad (bL h2 r3 h3)]; exact h1
 exact ⟨⟨⟨dx,up o r1 (fun z=>nomatch z)⟩,⟨kt,up ot r2 (fun z=>nomatch z),jt.imp fun i v y _ ⟨z1,z2,kv,z3,z4⟩=>⟨z1,z2,kv,up z3 z2 (fun z=>nomatch z),z4.imp fun _ _ _ _ w=>w.stp S⟩⟩,⟨_,upd_same,js.put pl rfl⟩,
  ⟨kh,up oh r4 (fun z=>nomatch z),jh.imp fun i v y _ ⟨z1,z2,z3⟩=>⟨z1,z2,up z3 z2 (fun z=>nomatch z)⟩⟩,r1,r2,r3,r4⟩,S⟩
theorem LdAt.hand1 {j pl:Int}{kh:List (a5×V)}{a:Addr} (L:LdAt c H α ρ cnt k l) (ha:H a=none) (hh:H (α (.lh k))=some (.dK kh)) (hg:aq l.hands pl=none) :
  LdAt c (aw (aw (aw H a (.dK [])) (α (.lh k)) (.dK (bo kh (Sum.inl pl) (.ref a)))) a (.dK (gH [j]))) (cK α (.hd k pl) a) (c9 ρ a (.hd k pl)) cnt k (ip l j pl) /\
  Stp (eN k) H ρ (aw (aw (aw H a (.dK [])) (α (.lh k)) (.dK (bo kh (Sum.inl pl) (.ref a)))) a (.dK (gH [j]))) (c9 ρ a (.hd k pl)):=by
 obtain ⟨⟨dx,o⟩,⟨kt,ot,jt⟩,⟨ks,os,js⟩,⟨kh',oh,jh⟩,r1,r2,r3,r4⟩:=L;rw [hh] at oh; cases oh;have ep:cK α (.hd k pl) a (.lp k)=α (.lp k):=aU (fun z=>nomatch z);have et:cK α (.hd k pl) a (.lt k)=α (.lt k):=aU (fun z=>nomatch z);have es:cK α (.hd k pl) a (.ls k)=α (.ls k):=aU (fun z=>nomatch z);have eh:cK α (.hd k pl) a (.lh k)=α (.lh k):=aU (fun z=>nomatch z);have ed:∀ i,cK α (.hd k pl) a (.tr k i)=α (.tr k i):=fun i=>aU (fun z=>nomatch z);have S0:Stp (eN k) H ρ (aw H a (.dK [])) (c9 ρ a (.hd k pl)):=kU _ ha;have ah:α (.lh k)≠a:=ai hh ha;have hh0:(aw H a (.dK [])) (α (.lh k))=some (.dK kh):=by rw [ad ah]; exact hh
 have rh0:(c9 ρ a (.hd k pl)) (α (.lh k))=some (.lh k):=by rw [aV ah]; exact r4
 have S1:=S0.two (cj (o:=.dK (bo kh (Sum.inl pl) (.ref a))) hh0 rh0 (show eN k (.lh k) from rfl));have ha1:(aw (aw H a (.dK [])) (α (.lh k)) (.dK (bo kh (Sum.inl pl) (.ref a)))) a=some (.dK []):=by rw [ad (Ne.symm ah),upd_same]
 have S:=S1.two (cj (o:=.dK (gH [j])) ha1 bK (show eN k (.hd k pl) from rfl));have up:∀ {b:Addr}{r:Role}{u:HO},H b=some u->ρ b=some r->r≠.lh k->(aw (aw (aw H a (.dK [])) (α (.lh k)) (.dK (bo kh (Sum.inl pl) (.ref a)))) a (.dK (gH [j]))) b=some u/\(c9 ρ a (.hd k pl)) b=some r:=fun {b r u} h1 h2 h3 =>
  ⟨by rw [ad (ai h1 ha),ad (bL h2 r4 h3),ad (ai h1 ha)]; exact h1,by rw [aV (ai h1 ha)]; exact h2⟩
 refine ⟨⟨⟨dx,?_⟩,⟨kt,?_,jt.imp fun i v y _ ⟨z1,z2,kv,z3,z4⟩=>?_⟩,⟨ks,?_,js⟩,⟨bo kh (Sum.inl pl) (.ref a),?_,?_⟩,?_,?_,?_,?_⟩,S⟩
 ·simp only [ep,et,es,eh]; exact (up o r1 (fun z=>nomatch z)).1
 ·simp only [ep,et,es,eh,ed]; exact (up ot r2 (fun z=>nomatch z)).1
 ·refine ⟨?_,?_,kv,?_,z4.imp fun _ _ _ _ z=>z.stp S⟩
  ·simp only [ep,et,es,eh,ed]; exact z1
  ·simp only [ep,et,es,eh,ed]; exact (up z3 z2 (fun z=>nomatch z)).2
  ·simp only [ep,et,es,eh,ed]; exact (up z3 z2 (fun z=>nomatch z)).1
 ·simp only [ep,et,es,eh,ed]; exact (up os r3 (fun z=>nomatch z)).1
 ·simp only [eh]; rw [ad ah]; exact upd_same
 ·show cQ _ _ (aD l.hands pl (ci ((aq l.hands pl).getD []) j))
  rw [hg];refine jh.putI pl ⟨?_,?_,?_⟩ fun i v y hi ⟨z1,z2,z3⟩=>?_
  ·rw [bu]
  ·rw [bu]; exact bK
  ·rw [bu,upd_same]; rfl
  ·have ne:(Role.hd k i)≠.hd k pl:=fun z=>by cases z; exact hi rfl
   refine ⟨?_,?_,?_⟩
   ·rw [aU ne]; exact z1
   ·rw [aU ne]; exact (up z3 z2 (fun z=>nomatch z)).2
   ·rw [aU ne]; exact (up z3 z2 (fun z=>nomatch z)).1
 ·simp only [ep,et,es,eh,ed]; exact (up o r1 (fun z=>nomatch z)).2
 ·simp only [ep,et,es,eh,ed]; exact (up ot r2 (fun z=>nomatch z)).2
 ·simp only [ep,et,es,eh,ed]; exact (up os r3 (fun z=>nomatch z)).2
 ·simp only [ep,et,es,eh,ed]; exact rh0
theorem LdAt.hand2 {j pl:Int}{hs:List Int}{a:Addr} (L:LdAt c H α ρ cnt k l) (nd:(l.hands.map (·.1)).Nodup) (ha:H a=none) (hg:aq l.hands pl=some hs) :
  LdAt c (aw (aw H a (.dK [])) (α (.hd k pl)) (.dK (gH (ci hs j)))) α ρ cnt k (ip l j pl)/\Stp (eN k) H ρ (aw (aw H a (.dK [])) (α (.hd k pl)) (.dK (gH (ci hs j)))) ρ:=by
 obtain ⟨⟨dx,o⟩,⟨kt,ot,jt⟩,⟨ks,os,js⟩,⟨kh,oh,jh⟩,r1,r2,r3,r4⟩:=L;obtain ⟨v,hv,y1,y2,y3⟩:=jh.some hg;have S0:Stp (eN k) H ρ (aw H a (.dK [])) ρ:=ox ha;have h0:(aw H a (.dK [])) (α (.hd k pl))=some (.dK (gH hs)):=by rw [ad (ai y3 ha)]; exact y3
 have S:=S0.two (cj (o:=.dK (gH (ci hs j))) h0 y2 (show eN k (.hd k pl) from rfl));have up:∀ {b:Addr}{r:Role}{u:HO},H b=some u->ρ b=some r->r≠.hd k pl->(aw (aw H a (.dK [])) (α (.hd k pl)) (.dK (gH (ci hs j)))) b=some u:=fun {b r u} h1 h2 h3=>by
  rw [ad (bL h2 y2 h3),ad (ai h1 ha)]; exact h1
 refine ⟨⟨⟨dx,up o r1 (fun z=>nomatch z)⟩,⟨kt,up ot r2 (fun z=>nomatch z),jt.imp fun i v y _ ⟨z1,z2,kv,z3,z4⟩=>⟨z1,z2,kv,up z3 z2 (fun z=>nomatch z),z4.imp fun _ _ _ _ w=>w.stp S⟩⟩,⟨ks,up os r3 (fun z=>nomatch z),js⟩,
  ⟨kh,up oh r4 (fun z=>nomatch z),?_⟩,r1,r2,r3,r4⟩,S⟩
 show cQ _ _ (aD l.hands pl (ci ((aq l.hands pl).getD []) j));rw [hg];show cQ _ kh (aD l.hands pl (ci hs j));unfold aD;rw [if_pos (by
  obtain ⟨p,hp⟩:∃ p∈l.hands,p.1=pl:=⟨_,bD hg,rfl⟩;exact List.any_eq_true.mpr ⟨p,hp.1,decide_eq_true hp.2⟩)]
 have:∀ {kh:List (a5×V)}{l:List (Int×List Int)},cQ (Di H α ρ k) kh l->cQ (Di (aw (aw H a (.dK [])) (α (.hd k pl)) (.dK (gH (ci hs j)))) α ρ k) kh (l.map fun p=>if p.1=pl then (p.1,ci hs j) else p):=by
  intro kh l d;unfold cQ at d ⊢
  induction d with
  | nil=>exact .nil
  | @cons p q ps qs e t ih =>
   refine .cons ?_ ih;obtain ⟨e1,z1,z2,z3⟩:=e;dsimp only
   by_cases z:q.1=pl
   ·rw [if_pos z]
    refine ⟨e1,z1,z2,?_⟩;show aw _ _ _ (α (.hd k q.1))=_;rw [z]; exact upd_same
   ·rw [if_neg z]
    exact ⟨e1,z1,z2,up z3 z2 (fun w=>by cases w; exact z rfl)⟩
 exact this jh
end
theorem BdL.mono {l:PLd}{n m:Nat} (x:BdL l n) (h:n<=m):BdL l m :=
 ⟨Nat.le_trans x.t h,fun p hp=>Nat.le_trans (x.r p hp) h,by have:=x.s; have h2:n * n<=m * m:=Nat.mul_le_mul h h; omega,Nat.le_trans x.h h,fun p hp=>Nat.le_trans (x.i p hp) h⟩
theorem Bd.mono {A:PH}{n m:Nat} (x:Bd A n) (h:n<=m):Bd A m :=
 ⟨Nat.le_trans x.l h,Nat.le_trans x.s h,Nat.le_trans x.w h,fun s hs=>Nat.le_trans (x.r s hs) h,fun p hp=>(x.k p hp).mono h⟩
theorem Wf.mono {A:PH}{n m:Nat}{PL:List Int} (x:Wf A n PL) (h:n<=m):Wf A m PL:=⟨x.bd.mono h,x.le,x.rp,x.pos,x.pl⟩
theorem rX (b:cr) (p:Int×(Int×Str)):(bN b p).length<=b.length+1:=by
 unfold bN;split
 ·exact bT ..
 ·split
  ·exact bT ..
  ·omega
theorem vG (rs:List cr):(eV rs).length<=rs.flatten.length:=by
 have h1:∀ (r b:cr),(r.foldl bN b).length<=b.length+r.length:=by
  intro r
  induction r with
  | nil=>intro b; exact Nat.le_refl _
  | cons p r ih=>intro b; rw [List.foldl_cons,List.length_cons]; have:=ih (bN b p); have:=rX b p; omega
 have h2:∀ (rs:List cr) (b:cr),(rs.foldl (fun b r=>r.foldl bN b) b).length<=b.length+rs.flatten.length:=by
  intro rs
  induction rs with
  | nil=>intro b; exact Nat.le_refl _
  | cons r rs ih=>intro b; rw [List.foldl_cons,List.flatten_cons,List.length_append]; have:=ih (r.foldl bN b); have:=h1 r b; omega
 have:=h2 rs [];simpa [eV] using this
theorem jM:∀ (l:cr) (s:List (Int×Str)),(l.foldl (fun s q=>aD s q.1 q.2.2) s).length<=s.length+l.length
 | [],_=>Nat.le_refl _
 | p :: r,s=>by
  rw [List.foldl_cons,List.length_cons];have h1:=jM r (aD s p.1 p.2.2);have h2:=bT s p.1 p.2.2;omega
theorem xJ {cnt:Int}{l:PLd}{n:Nat}{j:Int}{row:cr} (b:BdL l n) (hr:row.length<=n) (ho:l.op=false->l.said=[]):BdL (b7 cnt l j row) (n+1):=by
 have nn:n * n<=(n+1) * (n+1):=Nat.mul_le_mul (Nat.le_succ n) (Nat.le_succ n);unfold b7;split
 ·exact b.mono (Nat.le_succ n)
 ·next hop =>
  have hof:l.op=false:=by cases h:l.op with | true=>exact absurd h hop | false=>rfl
  have t1:(aD l.told j row).length<=n+1:=Nat.le_trans (bT _ _ _) (Nat.succ_le_succ b.t);have r1:∀ p∈aD l.told j row,p.2.length<=n+1:=fun p hp=>by
   rcases bh hp with z | z
   ·rw [z]; exact Nat.le_succ_of_le hr
   ·exact Nat.le_succ_of_le (b.r p z.1)
  split
  ·refine ⟨t1,r1,?_,Nat.le_succ_of_le b.h,fun p hp=>Nat.le_succ_of_le (b.i p hp)⟩
   show ((eV ((aD l.told j row).map (·.2))).foldl (fun s q=>aD s q.1 q.2.2) l.said).length<=_;rw [ho hof];have h1:=jM (eV ((aD l.told j row).map (·.2))) [];have h2:=vG ((aD l.told j row).map (·.2));have h3:=oM _ r1;have h4:(aD l.told j row).length * (n+1)<=(n+1) * (n+1):=Nat.mul_le_mul_right _ t1;simp only [List.length_nil] at h1;omega
  ·exact ⟨t1,r1,by have:=b.s; show l.said.length<=_; omega,Nat.le_succ_of_le b.h,fun p hp=>Nat.le_succ_of_le (b.i p hp)⟩
theorem xI {cnt:Int}{l:PLd}{PL:List Int}{j:Int}{row:cr} (w:WfL l PL):WfL (b7 cnt l j row) PL:=by
 unfold b7;split
 ·exact w
 ·next hop =>
  have hof:l.op=false:=by cases h:l.op with | true=>exact absurd h hop | false=>rfl
  have hh:l.hands=[]:=by
   cases e:l.hands with
   | nil=>rfl
   | cons p r =>
    have:=w.hs p (by rw [e]; exact List.mem_cons_self);rw [w.op hof] at this; cases this
  split
  ·exact ⟨w.hp,w.hn,(fun p hp=>by have hp:p∈l.hands:=hp; rw [hh] at hp; cases hp),fun z=>nomatch z⟩
  ·exact ⟨w.hp,w.hn,w.hs,w.op⟩
theorem fi {α:Type}{l:List α}{i:Nat}{a x:α} (h:x∈l.set i a):x=a\/x∈l:=by
 rcases List.mem_or_eq_of_mem_set h with z | z
 ·exact .inr z
 ·exact .inl z
theorem yA {A:PH}{n:Nat}{PL:List Int}{d:Deed} (w:Wf A n PL) (hd:deedOk PL d):Wf (step A d).1 (n+1) PL:=by
 have w1:Wf A (n+1) PL:=w.mono (Nat.le_succ n);have fall:∀ own num,Wf (de A own num) (n+1) PL:=fun own num=>by
  unfold de;split
  ·exact w1
  ·next s hs =>
   have ms:=List.mem_of_getElem? hs;refine ⟨⟨Nat.le_trans (nL _ _) w1.bd.l,w1.bd.s,w1.bd.w,fun x hx=>?_,fun p hp=>w1.bd.k p (fK.mp hp).1⟩,fun p hp=>w1.le p (fK.mp hp).1,fun x hx=>?_,w1.pos,w1.pl⟩
   ·rcases fi hx with z | z
    ·rw [z]; exact w1.bd.r s ms
    ·exact w1.bd.r x z
   ·rcases fi hx with z | z
    ·rw [z]; exact w1.rp s ms
    ·exact w1.rp x z
 cases d with
 | rise o =>
  unfold step;dsimp only;split
  ·unfold dU
   split
   ·exact w1
   ·split
    ·exact w1
    ·next s hs =>
     have ms:=List.mem_of_getElem? hs;refine ⟨⟨Nat.le_trans (bT _ _ _) (Nat.succ_le_succ w.bd.l),w1.bd.s,w1.bd.w,fun x hx=>?_,fun p hp=>?_⟩,fun p hp=>?_,fun x hx=>?_,w1.pos,w1.pl⟩
     ·rcases fi hx with z | z
      ·rw [z]; exact w1.bd.r s ms
      ·exact w1.bd.r x z
     ·rcases bh hp with z | z
      ·rw [z]; exact ⟨Nat.zero_le _,(fun _ h=>nomatch h),Nat.zero_le _,Nat.zero_le _,(fun _ h=>nomatch h)⟩
      ·exact w1.bd.k p z.1
     ·rcases bh hp with z | z
      ·rw [z]; exact ⟨(fun _ h=>nomatch h),.nil,(fun _ h=>nomatch h),fun _=>rfl⟩
      ·exact w1.le p z.1
     ·rcases fi hx with z | z
      ·rw [z]; exact w1.rp s ms
      ·exact w1.rp x z
  ·exact w1
 | ask o p =>
  unfold step;dsimp only;split
  ·split
   ·unfold eQ
    split
    ·exact w1
    ·next l hl =>
     have ml:=bD hl;split
     ·exact w1
     ·split
      ·exact w1
      ·next s hs =>
       have ms:=List.mem_of_getElem? hs;split
       ·exact fall _ _
       ·refine ⟨⟨Nat.le_trans (bT _ _ _) (Nat.succ_le_succ w.bd.l),w1.bd.s,w1.bd.w,fun x hx=>?_,fun q hq=>?_⟩,fun q hq=>?_,fun x hx=>?_,w1.pos,w1.pl⟩
        ·rcases fi hx with z | z
         ·rw [z]; exact w1.bd.r s ms
         ·exact w1.bd.r x z
        ·rcases bh hq with z | z
         ·rw [z]; exact xJ (w.bd.k _ ml) (w.bd.r s ms) (w.le _ ml).op
         ·exact w1.bd.k q z.1
        ·rcases bh hq with z | z
         ·rw [z]; exact xI (w.le _ ml)
         ·exact w1.le q z.1
        ·rcases fi hx with z | z
         ·rw [z]; exact w1.rp s ms
         ·exact w1.rp x z
   ·exact w1
  ·exact w1
 | say o sy =>
  unfold step;dsimp only;split
  ·unfold fM
   split
   ·exact w1
   ·next l hl =>
    have ml:=bD hl;have bl:=w.bd.k _ ml;have wl:=w.le _ ml;split
    ·next hop =>
     refine ⟨⟨Nat.le_trans (bT _ _ _) (Nat.succ_le_succ w.bd.l),w1.bd.s,w1.bd.w,w1.bd.r,fun q hq=>?_⟩,fun q hq=>?_,w1.rp,w1.pos,w1.pl⟩
     ·rcases bh hq with z | z
      ·rw [z]
       refine ⟨Nat.le_succ_of_le bl.t,fun p hp=>Nat.le_succ_of_le (bl.r p hp),?_,Nat.le_succ_of_le bl.h,fun p hp=>Nat.le_succ_of_le (bl.i p hp)⟩;have h1:=bT l.said (cz l.said:Int) sy;have h2:=bl.s;have h3:n * n<=(n+1) * (n+1):=Nat.mul_le_mul (Nat.le_succ n) (Nat.le_succ n);show (aD l.said (cz l.said:Int) sy).length<=_;dsimp only at h2;omega
      ·exact w1.bd.k q z.1
     ·rcases bh hq with z | z
      ·rw [z]
       refine ⟨wl.hp,wl.hn,fun p hp=>?_,fun z=>absurd (hop.symm.trans z) (fun z=>nomatch z)⟩;show (aq (aD l.said (cz l.said:Int) sy) p.1).isSome=true;rw [aK];split
       ·rfl
       ·exact wl.hs p hp
      ·exact w1.le q z.1
    ·exact w1
  ·exact w1
 | write o p pl =>
  have hd:pl∈PL:=hd;unfold step;dsimp only;split
  ·split
   ·unfold bG
    split
    ·exact w1
    ·next l hl =>
     have ml:=bD hl;have bl:=w.bd.k _ ml;have wl:=w.le _ ml;split
     ·exact w1
     ·next sy hsy =>
      split
      ·exact w1
      ·split
       ·exact w1
       ·next s hs =>
        have ms:=List.mem_of_getElem? hs;split
        ·exact fall _ _
        ·refine ⟨⟨Nat.le_trans (bT _ _ _) (Nat.succ_le_succ w.bd.l),w1.bd.s,?_,fun x hx=>?_,fun q hq=>?_⟩,fun q hq=>?_,fun x hx=>?_,w1.pos,w1.pl⟩
         ·show (A.wrs++[_]).length<=_
          rw [List.length_append]; exact Nat.succ_le_succ w.bd.w
         ·rcases fi hx with z | z
          ·rw [z]; exact Nat.le_trans (bT _ _ _) (Nat.succ_le_succ (w.bd.r s ms))
          ·exact w1.bd.r x z
         ·rcases bh hq with z | z
          ·rw [z]
           refine ⟨Nat.le_succ_of_le bl.t,fun p hp=>Nat.le_succ_of_le (bl.r p hp),(bl.mono (Nat.le_succ n)).s,Nat.le_trans (bT _ _ _) (Nat.succ_le_succ bl.h),fun p hp=>?_⟩;rcases bh hp with z | z
           ·rw [z]
            refine Nat.le_trans (yj _ _) (Nat.succ_le_succ ?_);cases e:aq l.hands pl with
            | none=>exact Nat.zero_le _
            | some hs=>exact bl.i _ (bD e)
           ·exact Nat.le_succ_of_le (bl.i p z.1)
          ·exact w1.bd.k q z.1
         ·rcases bh hq with z | z
          ·rw [z]
           refine ⟨fun p hp=>?_,fg _ _ wl.hn,fun p hp=>?_,wl.op⟩
           ·rcases bh hp with z | z
            ·rw [z]; exact hd
            ·exact wl.hp p z.1
           ·rcases bh hp with z | z
            ·rw [z]; show (aq l.said pl).isSome=true; rw [hsy]; rfl
            ·exact wl.hs p z.1
          ·exact w1.le q z.1
         ·rcases fi hx with z | z
          ·rw [z]
           obtain ⟨h1,h2⟩:=w1.rp s ms;refine ⟨fun p hp=>?_,fg _ _ h2⟩;rcases bh hp with z | z
           ·rw [z]; exact hd
           ·exact h1 p z.1
          ·exact w1.rp x z
   ·exact w1
  ·exact w1
 | settled o =>
  unfold step;dsimp only;split
  ·exact w1
  ·exact w1
 | stop o =>
  unfold step;dsimp only;split
  ·unfold eU
   split
   ·exact w1
   ·refine ⟨⟨Nat.le_trans (nL _ _) w1.bd.l,?_,w1.bd.w,w1.bd.r,fun p hp=>w1.bd.k p (fK.mp hp).1⟩,fun p hp=>w1.le p (fK.mp hp).1,w1.rp,w1.pos,w1.pl⟩
    show (A.stop++[o]).length<=_;rw [List.length_append]; exact Nat.succ_le_succ w.bd.s
  ·exact w1
 | wake o =>
  unfold step;dsimp only;split
  ·unfold eA
   split
   ·exact ⟨⟨w1.bd.l,Nat.le_trans (List.length_filter_le ..) w1.bd.s,w1.bd.w,w1.bd.r,w1.bd.k⟩,w1.le,w1.rp,w1.pos,w1.pl⟩
   ·exact w1
  ·exact w1
theorem tu {n:Nat}{PL:List Int} (hn:0 < n) (hp:PL.length < 64):Wf (init n) 0 PL :=
 ⟨⟨Nat.le_refl _,Nat.le_refl _,Nat.le_refl _,(fun s hs=>by rw [(List.mem_replicate.mp hs).2]; exact Nat.le_refl _),(fun _ h=>nomatch h)⟩,(fun _ h=>nomatch h),(fun s hs=>by rw [(List.mem_replicate.mp hs).2]; exact ⟨(fun _ h=>nomatch h),.nil⟩),by show (0:Int) < (n:Int); omega,hp⟩
theorem v7 {A:PH}{n:Nat}{PL:List Int} (w:Wf A n PL):∀ ds:List Deed,(∀ d∈ds,deedOk PL d)->Wf (aH A ds) (n+ds.length) PL:=by
 intro ds
 induction ds generalizing A n with
 | nil=>intro _; exact w
 | cons d ds ih =>
  intro h;have:=ih (yA w (h d List.mem_cons_self)) fun x hx=>h x (List.mem_cons_of_mem _ hx);rw [List.length_cons,show n+(ds.length+1)=n+1+ds.length by omega];exact this
theorem rf {l:PLd}{PL:List Int} (w:WfL l PL) (h:PL.length < 64):l.hands.length < 64:=by
 have:=List.Nodup.length_le_of_subset w.hn (fun x hx=>by
  obtain ⟨p,hp,rfl⟩:=List.mem_map.mp hx;exact w.hp p hp:∀ x∈l.hands.map (·.1),x∈PL)
 rw [List.length_map] at this;omega
theorem qC (n:Nat):(init n).scrs.length=n:=List.length_replicate
theorem ye (A:PH) (d:Deed):(step A d).1.cnt=A.cnt:=by
 have fall:∀ own num,(de A own num).cnt=A.cnt:=fun own num=>by unfold de; split<;>rfl
 cases d<;>simp only [step]<;>(split<;>try rfl)<;>(try unfold dU)<;>(try unfold eQ)<;>(try unfold fM)<;>(try unfold bG)<;>(try unfold eU)<;>(try unfold eA)<;>(repeat' split)<;>first | rfl | exact fall _ _
theorem iA (A:PH):∀ ds:List Deed,(aH A ds).cnt=A.cnt:=by
 intro ds
 induction ds generalizing A with
 | nil=>rfl
 | cons d ds ih=>exact (ih (step A d).1).trans (ye A d)
theorem Stp.any {R:Role->Prop}{H H':Hp}{ρ ρ':Ro} (x:Stp R H ρ H' ρ') (h:¬ R .out:=by first | exact fun z=>z | exact fun z=>z.elim (fun z=>nomatch z) (fun z=>nomatch z) | exact fun z=>z.elim (fun z=>z) (fun z=>nomatch z) | (intro z; rcases z with z | z | z<;>cases z) | exact fun z=>z rfl):Stp uF H ρ H' ρ':=x.mono fun r hr z=>h (z ▸ hr)
section
variable {c:Cs}{H H':Hp}{α α':Al}{ρ ρ':Ro}{A:PH}{k:Int}{l l':PLd}
theorem HallAt.leadC (x:HallAt c H α ρ A) (hg:aq A.leads k=some l) (t:Stp (eN k) H ρ H' ρ') (e:∀ r,¬ eN k r->α' r=α r) (e1:α' (.lp k)=α (.lp k)) (n:LdAt c H' α' ρ' A.cnt k l'):HallAt c H' α' ρ' { A with leads:=aD A.leads k l' }:=by
 obtain ⟨kl,ol,jl⟩:=x.ld;refine x.lead (t.mono fun _ z=>.inl z) e n ⟨kl,t.kp _ _ ol fun r hr z=>?_,?_⟩
 ·rw [x.r3] at hr; cases hr; exact z
 ·have:cQ (fun k v (_:PLd)=>v=.ref (α' (.lp k))) kl A.leads:=jl.imp fun j v y _ z=>by
   by_cases w:j=k
   ·rw [w,e1]; rw [w] at z; exact z
   ·rw [e (.lp j) w]; exact z
  exact this.reput (by rw [hg]; rfl) fun _ _ z=>z
theorem HallAt.leadAt (x:HallAt c H α ρ A) (own:Int):∃ kl,H (α .ld)=some (.dK kl)/\((aq A.leads own=none/\a7 kl (Sum.inl own)=none)\/∃ l,aq A.leads own=some l/\a7 kl (Sum.inl own)=some (.ref (α (.lp own)))/\LdAt c H α ρ A.cnt own l):=by
 obtain ⟨kl,ol,jl⟩:=x.ld;refine ⟨kl,ol,?_⟩;rcases jl.get own with z | ⟨v,l,z1,z2,rfl⟩
 ·exact .inl z
 ·exact .inr ⟨l,z1,z2,x.le own l (bD z1)⟩
theorem HallAt.risen {n:Int}{p t s h dx:Addr}{kl:List (a5×V)} (x:HallAt c H α ρ A) (ol:H (α .ld)=some (.dK kl)) (np:H p=none) (nt:H t=none) (ns:H s=none) (nh:H h=none) (pt:p≠t) (ps:p≠s) (ph:p≠h) (ts:t≠s) (th:t≠h) (sh:s≠h)
  (o1:H' p=some (.ins c.l dx (lF (.int n) (.int A.cnt) t (.bl false) s h))) (o2:H' t=some (.dK [])) (o3:H' s=some (.dK [])) (o4:H' h=some (.dK [])) (kp:aI H H') :
  ∃ α' ρ',HallAt c (aw H' (α .ld) (.dK (bo kl (Sum.inl k) (.ref p)))) α' ρ' { A with leads:=aD A.leads k (kE n) }/\α' .hall=α .hall/\Stp uF H ρ (aw H' (α .ld) (.dK (bo kl (Sum.inl k) (.ref p)))) ρ':=by
 obtain ⟨kl',ol',jl⟩:=x.ld;rw [ol] at ol'; cases ol';have lp:=ai ol np;have lt:=ai ol nt;have ls:=ai ol ns;have lh:=ai ol nh;refine ⟨cK (cK (cK (cK α (.lp k) p) (.lt k) t) (.ls k) s) (.lh k) h,c9 (c9 (c9 (c9 ρ p (.lp k)) t (.lt k)) s (.ls k)) h (.lh k),?_⟩;have a1:cK (cK (cK (cK α (.lp k) p) (.lt k) t) (.ls k) s) (.lh k) h (.lp k)=p:=by rw [aU (by intro z; cases z),aU (by intro z; cases z),aU (by intro z; cases z),bu]
 have a2:cK (cK (cK (cK α (.lp k) p) (.lt k) t) (.ls k) s) (.lh k) h (.lt k)=t:=by rw [aU (by intro z; cases z),aU (by intro z; cases z),bu]
 have a3:cK (cK (cK (cK α (.lp k) p) (.lt k) t) (.ls k) s) (.lh k) h (.ls k)=s:=by rw [aU (by intro z; cases z),bu]
 have a4:cK (cK (cK (cK α (.lp k) p) (.lt k) t) (.ls k) s) (.lh k) h (.lh k)=h:=bu;have a0:∀ r,¬ eN k r->cK (cK (cK (cK α (.lp k) p) (.lt k) t) (.ls k) s) (.lh k) h r=α r:=fun r hr=>by
  have z1:r≠.lp k:=fun z=>hr (by rw [z]; rfl);have z2:r≠.lt k:=fun z=>hr (by rw [z]; rfl);have z3:r≠.ls k:=fun z=>hr (by rw [z]; rfl);have z4:r≠.lh k:=fun z=>hr (by rw [z]; rfl);rw [aU z4,aU z3,aU z2,aU z1]
 have b1:c9 (c9 (c9 (c9 ρ p (.lp k)) t (.lt k)) s (.ls k)) h (.lh k) p=some (.lp k):=by rw [aV ph,aV ps,aV pt,bK]
 have b2:c9 (c9 (c9 (c9 ρ p (.lp k)) t (.lt k)) s (.ls k)) h (.lh k) t=some (.lt k):=by rw [aV th,aV ts,bK]
 have b3:c9 (c9 (c9 (c9 ρ p (.lp k)) t (.lt k)) s (.ls k)) h (.lh k) s=some (.ls k):=by rw [aV sh,bK]
 have b4:c9 (c9 (c9 (c9 ρ p (.lp k)) t (.lt k)) s (.ls k)) h (.lh k) h=some (.lh k):=bK;have b0:∀ b u,H b=some u->c9 (c9 (c9 (c9 ρ p (.lp k)) t (.lt k)) s (.ls k)) h (.lh k) b=ρ b:=fun b u e=>by
  rw [aV (ai e nh),aV (ai e ns),aV (ai e nt),aV (ai e np)]
 have S1:Stp (fun r=>eN k r\/r=.ld) H ρ H' (c9 (c9 (c9 (c9 ρ p (.lp k)) t (.lt k)) s (.ls k)) h (.lh k)):=⟨b0,fun b u e=>⟨u,kp b u e⟩,fun b u e _=>kp b u e,fun nr b e=>by
  have q1:b≠p:=fun z=>by rw [z,o1] at e; cases e
  have q2:b≠t:=fun z=>by rw [z,o2] at e; cases e
  have q3:b≠s:=fun z=>by rw [z,o3] at e; cases e
  have q4:b≠h:=fun z=>by rw [z,o4] at e; cases e
  rw [aV q4,aV q3,aV q2,aV q1];refine nr b ?_;cases w:H b with
  | none=>rfl
  | some u=>rw [kp b u w] at e; cases e⟩
 have S:=S1.two (cj (o:=.dK (bo kl (Sum.inl k) (.ref p))) (kp _ _ ol) ((b0 _ _ ol).trans x.r3) (.inr rfl));refine ⟨x.lead S a0 ⟨⟨dx,?_⟩,⟨[],?_,.nil⟩,⟨[],?_,.nil⟩,⟨[],?_,.nil⟩,?_,?_,?_,?_⟩ ⟨_,upd_same,?_⟩,a0 .hall (fun z=>z),S.any⟩
 ·rw [a1,a2,a3,a4,ad (Ne.symm lp)]; exact o1
 ·rw [a2,ad (Ne.symm lt)]; exact o2
 ·rw [a3,ad (Ne.symm ls)]; exact o3
 ·rw [a4,ad (Ne.symm lh)]; exact o4
 ·rw [a1]; exact b1
 ·rw [a2]; exact b2
 ·rw [a3]; exact b3
 ·rw [a4]; exact b4
 ·exact jl.putI k (by rw [a1]) fun j v y hj z=>by rw [a0 (.lp j) hj]; exact z
theorem HallAt.gone {kl:List (a5×V)} (x:HallAt c H α ρ A) (ol:H (α .ld)=some (.dK kl)) (own:Int):HallAt c (aw H (α .ld) (.dK (fb kl (Sum.inl own)))) α ρ { A with leads:=bY A.leads own }/\Stp (fun r=>r=.ld\/r=.sd\/r=.wl) H ρ (aw H (α .ld) (.dK (fb kl (Sum.inl own)))) ρ:=by
 obtain ⟨kl',ol',jl⟩:=x.ld;rw [ol] at ol'; cases ol';have S:Stp (fun r=>r=.ld\/r=.sd\/r=.wl) H ρ (aw H (α .ld) (.dK (fb kl (Sum.inl own)))) ρ:=cj ol x.r3 (.inl rfl);obtain ⟨us,ow,jw⟩:=x.wl;refine ⟨x.mid S ⟨_,upd_same,jl.drop own⟩ ?_ ⟨us,?_,Paired.mapP jw fun _ _ z=>z.stp S⟩ (fun j l h=>(fK.mp h).1) (xY _ x.nd),S⟩
 ·rw [ad (bL x.r4 x.r3 (by intro z; cases z))]; exact x.sd
 ·rw [ad (bL x.r5 x.r3 (by intro z; cases z))]; exact ow
theorem HallAt.halt (x:HallAt c H α ρ A) (l:List Int):HallAt c (aw H (α .sd) (.dK (gH l))) α ρ { A with stop:=l }/\Stp (fun r=>r=.ld\/r=.sd\/r=.wl) H ρ (aw H (α .sd) (.dK (gH l))) ρ:=by
 obtain ⟨kl,ol,jl⟩:=x.ld;have S:Stp (fun r=>r=.ld\/r=.sd\/r=.wl) H ρ (aw H (α .sd) (.dK (gH l))) ρ:=cj x.sd x.r4 (.inr (.inl rfl));obtain ⟨us,ow,jw⟩:=x.wl;refine ⟨x.mid S ⟨kl,?_,jl⟩ upd_same ⟨us,?_,Paired.mapP jw fun _ _ z=>z.stp S⟩ (fun _ _ h=>h) x.nd,S⟩
 ·rw [ad (bL x.r3 x.r4 (by intro z; cases z))]; exact ol
 ·rw [ad (bL x.r5 x.r4 (by intro z; cases z))]; exact ow
theorem HallAt.wrote {us:List V}{tt:Addr}{w:Int×Int×Int×Str} (x:HallAt c H α ρ A) (ow:H (α .wl)=some (.lst us)) (ht:H tt=some (.tup [.int w.1,.int w.2.1,.int w.2.2.1,.str w.2.2.2])) (hr:ρ tt=none) :
  HallAt c (aw H (α .wl) (.lst (us++[.ref tt]))) α ρ { A with wrs:=A.wrs++[w] }/\Stp (fun r=>r=.ld\/r=.sd\/r=.wl) H ρ (aw H (α .wl) (.lst (us++[.ref tt]))) ρ:=by
 obtain ⟨kl,ol,jl⟩:=x.ld;obtain ⟨us',ow',jw⟩:=x.wl;rw [ow] at ow'; cases ow';have S:Stp (fun r=>r=.ld\/r=.sd\/r=.wl) H ρ (aw H (α .wl) (.lst (us++[.ref tt]))) ρ:=cj ow x.r5 (.inr (.inr rfl));refine ⟨x.mid S ⟨kl,?_,jl⟩ ?_ ⟨_,upd_same,Paired.snoc (Paired.mapP jw fun _ _ z=>z.stp S) ⟨tt,rfl,?_,hr⟩⟩ (fun _ _ h=>h) x.nd,S⟩
 ·rw [ad (bL x.r3 x.r5 (by intro z; cases z))]; exact ol
 ·rw [ad (bL x.r4 x.r5 (by intro z; cases z))]; exact x.sd
 ·rw [ad (Ne.symm (nz x.r5 hr))]; exact ht
end
structure Mkg (c:Cs) (Hs:Hp) (p D:Addr) (ob:HO) (cnt:Int) (i:Nat) (H:Hp) (α:Al) (ρ:Ro):Prop where
 ah:α .hall=p
 as:α .sl=D
 rh:ρ p=some .hall
 rs:ρ D=some .sl
 nr:Aw H ρ
 kp:∀ b u,Hs b=some u->b≠p->H b=some u/\ρ b=none
 ho:H p=some ob
 hD:H D=some (.lst ((List.range i).map fun j=>.ref (α (.scr j))))
 sc:∀ j,j < i->ScrAt c H α ρ cnt j uz
theorem DO {c:Cs}{Hs:Hp}{p D:Addr}{ob:HO}{cnt:Int} (hp:Hs p=some ob) (hD:Hs D=none):Mkg c Hs p D ob cnt 0 (aw Hs D (.lst [])) (cK (cK (fun _=>0) .hall p) .sl D) (c9 (c9 (fun _=>none) p .hall) D .sl):=by
 have pD:=ai hp hD;refine ⟨?_,bu,?_,bK,fun b e=>?_,fun b u e hb=>⟨?_,?_⟩,?_,upd_same,fun j hj=>absurd hj (Nat.not_lt_zero _)⟩
 ·rw [aU (by intro z; cases z),bu]
 ·rw [aV pD,bK]
 ·have h1:b≠D:=fun z=>by rw [z,upd_same] at e; cases e
  have h2:b≠p:=fun z=>by rw [z,ad pD,hp] at e; cases e
  rw [aV h1,aV h2]
 ·rw [ad (ai e hD)]; exact e
 ·rw [aV (ai e hD),aV hb]
 ·rw [ad pD]; exact hp
theorem Mkg.more {c:Cs}{Hs H H2:Hp}{p D q r dx:Addr}{ob:HO}{cnt:Int}{i:Nat}{α:Al}{ρ:Ro} (m:Mkg c Hs p D ob cnt i H α ρ) (nq:H q=none) (nr':H r=none) (qr:q≠r) (o1:H2 q=some (.ins c.s dx (sF (.int i) (.int cnt) (.int (-1)) r (.int (-1))))) (o2:H2 r=some (.dK [])) (k:aI H H2) :
  Mkg c Hs p D ob cnt (i+1) (aw H2 D (.lst (((List.range i).map fun j=>V.ref (α (.scr j)))++[.ref q]))) (cK (cK α (.scr i) q) (.row i) r) (c9 (c9 ρ q (.scr i)) r (.row i)):=by
 have Dq:=ai m.hD nq;have Dr:=ai m.hD nr';have pq:=ai m.ho nq;have pr:=ai m.ho nr';have pD:p≠D:=bL m.rh m.rs (by intro z; cases z);have b0:∀ b u,H b=some u->c9 (c9 ρ q (.scr i)) r (.row i) b=ρ b:=fun b u e=>by rw [aV (ai e nr'),aV (ai e nq)]
 have S1:Stp (fun x=>x=.sl) H ρ H2 (c9 (c9 ρ q (.scr i)) r (.row i)):=⟨b0,fun b u e=>⟨u,k b u e⟩,fun b u e _=>k b u e,fun n b e=>by
  have q1:b≠q:=fun z=>by rw [z,o1] at e; cases e
  have q2:b≠r:=fun z=>by rw [z,o2] at e; cases e
  rw [aV q2,aV q1];refine n b ?_;cases w:H b with
  | none=>rfl
  | some u=>rw [k b u w] at e; cases e⟩
 have S:=S1.two (cj (o:=.lst (((List.range i).map fun j=>V.ref (α (.scr j)))++[.ref q])) (k _ _ m.hD) ((b0 _ _ m.hD).trans m.rs) rfl);have ea:∀ x:Role,x≠.scr i->x≠.row i->cK (cK α (.scr i) q) (.row i) r x=α x:=fun x h1 h2=>by rw [aU h2,aU h1]
 have e1:cK (cK α (.scr i) q) (.row i) r (.scr i)=q:=by rw [aU (by intro z; cases z),bu]
 have e2:cK (cK α (.scr i) q) (.row i) r (.row i)=r:=bu;refine ⟨?_,?_,(b0 _ _ m.ho).trans m.rh,(b0 _ _ m.hD).trans m.rs,S.fr m.nr,fun b u e hb=>?_,?_,?_,fun j hj=>?_⟩
 ·rw [ea _ (by intro z; cases z) (by intro z; cases z)]; exact m.ah
 ·rw [ea _ (by intro z; cases z) (by intro z; cases z)]; exact m.as
 ·obtain ⟨h1,h2⟩:=m.kp b u e hb
  refine ⟨?_,(b0 _ _ h1).trans h2⟩;rw [ad (Ne.symm (nz m.rs h2))]; exact k _ _ h1
 ·rw [ad pD]; exact k _ _ m.ho
 ·rw [upd_same,List.range_succ,List.map_append]
  congr 3
  ·apply List.map_congr_left
   intro j hj;have hj:=List.mem_range.mp hj;rw [ea _ (by intro z; cases z; omega) (by intro z; cases z)]
  ·show [V.ref q]=[V.ref _]
   rw [e1]
 ·by_cases z:j=i
  ·subst z
   refine ⟨⟨dx,?_⟩,⟨[],?_,.nil⟩,?_,?_⟩
   ·rw [e1,e2,ad (Ne.symm Dq)]; exact o1
   ·rw [e2,ad (Ne.symm Dr)]; exact o2
   ·rw [e1,aV qr]; exact bK
   ·rw [e2]; exact bK
  ·refine (m.sc j (by omega)).stp S (by intro w; cases w) (by intro w; cases w) (ea _ ?_ ?_) (ea _ ?_ ?_)
   ·intro w; cases w; exact z rfl
   ·intro w; cases w
   ·intro w; cases w
   ·intro w; cases w; exact z rfl
theorem Mkg.hall {c:Cs}{Hs H H2:Hp}{p D a1 a2 a3 dx:Addr}{ob:HO}{n:Nat}{α:Al}{ρ:Ro} (m:Mkg c Hs p D ob n n H α ρ) (n1:H a1=none) (n2:H a2=none) (n3:H a3=none) (d12:a1≠a2) (d13:a1≠a3) (d23:a2≠a3)
  (o0:H2 p=some (.ins c.h dx (hF (.int n) D a1 a2 a3))) (o1:H2 a1=some (.dK [])) (o2:H2 a2=some (.dK [])) (o3:H2 a3=some (.lst [])) (k:∀ b u,H b=some u->b≠p->H2 b=some u) :
  ∃ α' ρ',α' .hall=p/\HallAt c H2 α' ρ' (init n)/\∀ b u,Hs b=some u->b≠p->H2 b=some u/\ρ' b=none:=by
 have b0:∀ b u,H b=some u->c9 (c9 (c9 ρ a1 .ld) a2 .sd) a3 .wl b=ρ b:=fun b u e=>by rw [aV (ai e n3),aV (ai e n2),aV (ai e n1)]
 have pD:p≠D:=bL m.rh m.rs (by intro z; cases z);have S:Stp (fun x=>x=.hall) H ρ H2 (c9 (c9 (c9 ρ a1 .ld) a2 .sd) a3 .wl):=⟨b0,fun b u e=>if z:b=p then ⟨.ins c.h dx (hF (.int n) D a1 a2 a3),by rw [z]; exact o0⟩ else ⟨u,k b u e z⟩,fun b u e h=>k b u e (fun z=>h .hall (by rw [z]; exact m.rh) rfl),fun nr b e=>by
  have q1:b≠a1:=fun z=>by rw [z,o1] at e; cases e
  have q2:b≠a2:=fun z=>by rw [z,o2] at e; cases e
  have q3:b≠a3:=fun z=>by rw [z,o3] at e; cases e
  have q4:b≠p:=fun z=>by rw [z,o0] at e; cases e
  rw [aV q3,aV q2,aV q1];refine nr b ?_;cases w:H b with
  | none=>rfl
  | some u=>rw [k b u w q4] at e; cases e⟩
 have ea:∀ x:Role,x≠.ld->x≠.sd->x≠.wl->cK (cK (cK α .ld a1) .sd a2) .wl a3 x=α x:=fun x h1 h2 h3=>by rw [aU h3,aU h2,aU h1]
 have e1:cK (cK (cK α .ld a1) .sd a2) .wl a3 .ld=a1:=by rw [aU (by intro z; cases z),aU (by intro z; cases z),bu]
 have e2:cK (cK (cK α .ld a1) .sd a2) .wl a3 .sd=a2:=by rw [aU (by intro z; cases z),bu]
 have e3:cK (cK (cK α .ld a1) .sd a2) .wl a3 .wl=a3:=bu;have eh:cK (cK (cK α .ld a1) .sd a2) .wl a3 .hall=p:=(ea _ (by intro z; cases z) (by intro z; cases z) (by intro z; cases z)).trans m.ah;have es:cK (cK (cK α .ld a1) .sd a2) .wl a3 .sl=D:=(ea _ (by intro z; cases z) (by intro z; cases z) (by intro z; cases z)).trans m.as;refine ⟨_,_,eh,⟨⟨dx,?_⟩,?_,⟨[],?_,.nil⟩,?_,⟨[],?_,.nil⟩,fun i s hi=>?_,(fun _ _ h=>nomatch h),?_,?_,?_,?_,?_,?_,S.fr m.nr,.nil⟩,fun b u e hb=>?_⟩
 ·rw [eh,es,e1,e2,e3]; exact o0
 ·rw [es,qC,k _ _ m.hD (Ne.symm pD)]
  exact congrArg (fun l=>some (HO.lst l)) (List.map_congr_left fun j _=>by rw [ea _ (by intro z; cases z) (by intro z; cases z) (by intro z; cases z)])
 ·rw [e1]; exact o1
 ·rw [e2]; exact o2
 ·rw [e3]; exact o3
 ·have hil:i < n:=by have:=(List.getElem?_eq_some_iff.mp hi).1; rwa [qC] at this
  have hs:s=uz:=by
   have hi':(List.replicate n uz)[i]? = some s:=hi;rw [List.getElem?_replicate,if_pos hil] at hi';exact (Option.some.inj hi').symm
  rw [hs];exact (m.sc i hil).stp S (by intro w; cases w) (by intro w; cases w) (ea _ (by intro z; cases z) (by intro z; cases z) (by intro z; cases z)) (ea _ (by intro z; cases z) (by intro z; cases z) (by intro z; cases z))
 ·rw [eh]; exact (b0 _ _ m.ho).trans m.rh
 ·rw [es]; exact (b0 _ _ m.hD).trans m.rs
 ·rw [e1,aV d13,aV d12]; exact bK
 ·rw [e2,aV d23]; exact bK
 ·rw [e3]; exact bK
 ·show (n:Int)=(((List.replicate n uz).length:Nat):Int)
  rw [List.length_replicate]
 ·obtain ⟨h1,h2⟩:=m.kp b u e hb
  exact ⟨k _ _ h1 hb,(b0 _ _ h1).trans h2⟩
noncomputable def cA (H:Hp) (us:List V) (ds:List Deed):Prop:=Paired (fun u (d:Deed)=>∃ t,u=V.ref t/\H t=some (.tup d.rowV)) us ds
theorem cA.mono {H H':Hp}{us:List V}{ds:List Deed} (x:cA H us ds) (k:∀ b xs,H b=some (.tup xs)->H' b=some (.tup xs)):cA H' us ds:=Paired.mapP x fun _ _ ⟨t,e,h⟩=>⟨t,e,k _ _ h⟩
theorem bF {α β:Type}{F:α->β->Prop}{xs:List α}{ys:List β} (p:Paired F xs ys):∀ {j:Nat}{x:α},xs[j]? = some x->∃ y,ys[j]? = some y/\F x y:=by
 induction p with
 | nil=>intro j x h; simp at h
 | cons h t ih =>
  intro j x h1;cases j with
  | zero=>simp at h1; subst h1; exact ⟨_,rfl,h⟩
  | succ j=>obtain ⟨y,e1,e2⟩:=ih (by simpa using h1); exact ⟨y,by simpa using e1,e2⟩
theorem HallAt.outer {c:Cs}{H H':Hp}{α:Al}{ρ ρ':Ro}{A:PH} (x:HallAt c H α ρ A) (t:Stp (fun r=>r=.out) H ρ H' ρ'):HallAt c H' α ρ' A:=by
 have up:∀ {r:Role}{u:HO},H (α r)=some u->ρ (α r)=some r->r≠.out->H' (α r)=some u/\ρ' (α r)=some r:=fun {r u} h2 h3 h4 =>
  ⟨t.kp _ _ h2 fun q hq=>by rw [h3] at hq; cases hq; exact h4,(t.ro _ _ h2).trans h3⟩
 obtain ⟨dx,o⟩:=x.ob;obtain ⟨kl,ol,jl⟩:=x.ld;obtain ⟨us,ow,jw⟩:=x.wl;exact ⟨⟨dx,(up o x.r1 (by intro z; cases z)).1⟩,(up x.sl x.r2 (by intro z; cases z)).1,⟨kl,(up ol x.r3 (by intro z; cases z)).1,jl⟩,(up x.sd x.r4 (by intro z; cases z)).1,⟨us,(up ow x.r5 (by intro z; cases z)).1,Paired.mapP jw fun _ _ z=>z.stp t⟩,
  fun j s hj=>(x.sc j s hj).stp t (by intro z; cases z) (by intro z; cases z) rfl rfl,fun j l hj=>(x.le j l hj).stp t (fun r hr z=>by subst z; exact hr) fun _ _=>rfl,
  (up o x.r1 (by intro z; cases z)).2,(up x.sl x.r2 (by intro z; cases z)).2,(up ol x.r3 (by intro z; cases z)).2,(up x.sd x.r4 (by intro z; cases z)).2,(up ow x.r5 (by intro z; cases z)).2,x.ln,t.fr x.nr,x.nd⟩
structure Tale (H:Hp) (l:Addr) (n:Nat) (ds:List Deed) (PL:List Int) (us:List V):Prop where
 hl:H l=some (.lst us)
 dd:cA H us ds
 n0:0 < n
 n1:n < 100
 dl:ds.length<=396
 ok:∀ d∈ds,deedOk PL d
 pl:PL.length < 64
noncomputable def jC (c:Cs):Sp:=fun vs H Q _=>∃ (n:Nat) (l:Addr) (ds:List Deed) (PL:List Int) (us:List V),vs=[.int n,.ref l]/\Tale H l n ds PL us /\
 ∀ H' α ρ,HallAt c H' α ρ (aH (init n) ds)->(∀ b u,H b=some u->H' b=some u/\ρ b=none)->Q (.ref (α .hall)) H'
noncomputable def pU (H:Hp) (v:V):Ans->Prop
 | .non=>v=.non
 | .int i=>v=.int i
 | .bl b=>v=.bl b
 | .str s=>v=.str s
 | .prs l=>∃ D us,v=.ref D/\H D=some (.lst us)/\Paired (fun u (p:Int×Str)=>∃ a,u=V.ref a/\H a=some (.tup [.int p.1,.str p.2])) us l
theorem jP.w {H:Hp}{ρ:Ro}{v:V}{a:Ans} (x:jP H ρ v a):pU H v a:=by
 cases a with
 | non=>exact x
 | int i=>exact x
 | bl b=>exact x
 | str s=>exact x
 | prs l=>obtain ⟨D,us,e,hD,_,p⟩:=x; exact ⟨D,us,e,hD,Paired.mapP p fun _ _ ⟨a,e1,e2,_⟩=>⟨a,e1,e2⟩⟩
noncomputable def ja:Sp:=fun vs H Q _=>∃ (n:Nat) (l:Addr) (ds:List Deed) (PL:List Int) (us:List V),vs=[.int n,.ref l]/\Tale H l n ds PL us /\
 ∀ H' D vs',H D=none->H' D=some (.lst vs')->Paired (pU H') vs' (ik (init n) ds)->aI H H'->Q (.ref D) H'
noncomputable def gW:Sp:=fun vs H Q _=>∃ (n:Nat) (l:Addr) (ds:List Deed) (PL:List Int) (us:List V),vs=[.int n,.ref l]/\Tale H l n ds PL us /\
 ∀ H' D vs',H' D=some (.lst vs')->H D=none->Paired (fun u (p:Int×Int×Int×Str)=>∃ a,u=V.ref a/\H' a=some (.tup [.int p.1,.int p.2.1,.int p.2.2.1,.str p.2.2.2])) vs' (aH (init n) ds).wrs->aI H H'->Q (.ref D) H'
end Hl
namespace L2
open PySem
theorem yw {b:Bool}{A B:Prop} (h:b=true) (ha:A):if b=true then A else B:=by rw [if_pos h]; exact ha
theorem tf {b:Bool}{A B:Prop} (h:¬ b=true) (hb:B):if b=true then A else B:=by rw [if_neg h]; exact hb
theorem Ap {b:Bool}{A B:Prop} (h:b=true) (hb:B):if (!b)=true then A else B:=by rw [h]; exact cE hb
theorem wJ {b:Bool}{A B:Prop} (h:b=false) (ha:A):if (!b)=true then A else B:=by rw [h]; exact cI ha
theorem oH {X:Cx}{K:Frag}{e:Expr}{f:Str}{pos:Pos}{ta:TE} (he:PE X e ta) (hb:attributeBase e f X.env (eval e X.env)=eval e X.env) (hK:X.K=K:=by rfl):PE X (.Attribute e f pos) (Cg K ta f):=by subst hK; exact aF he hb
theorem vC {X:Cx}{K:Frag} (hK:X.K=K:=by rfl):bS X (.builtin "len") (AD K):=by subst hK; exact bf
theorem cU {α β:Type}{F:α->β->Prop}:∀ {xs:List α}{ys:List β}{xs':List α}{ys':List β},Paired F xs ys->Paired F xs' ys'->Paired F (xs++xs') (ys++ys')
 | _,_,_,_,.nil,p=>p
 | _,_,_,_,.cons h t,p=>.cons h (cU t p)
noncomputable def Kl (l:Addr) (H H':Hp):Prop:=∀ b u,H b=some u->b≠l->H' b=some u
theorem Kl.of_same {l:Addr}{H H':Hp} (s:aI H H'):Kl l H H':=fun b u e _=>s b u e
theorem Kl.trans {l:Addr}{H H1 H2:Hp} (a:Kl l H H1) (b:Kl l H1 H2):Kl l H H2:=fun c u e h=>b c u (a c u e h) h
theorem cW {l:Addr}{H:Hp}{o:HO}:Kl l H (aw H l o):=fun b u e h=>by rw [ad h]; exact e
end L2
namespace L2
open PySem PySem.Spec PyProof.Rows
noncomputable def rC (x:Str) (lo hi:Option Int):Str:=if ((Builtin.Str.strSliceIndices lo hi 1 x.length).length==x.length)=true then x else ⟨((Builtin.Str.strSliceIndices lo hi 1 x.length).filterMap (x.cps[·]?)).toArray⟩
section
variable {X:Cx}
theorem nw {v:Value}{o:Option Int} (p:IsPart v o):∃ l:Option (Int×Tok),v=partValue l/\l.map (·.1)=o:=by
 cases p with
 | none=>exact ⟨none,rfl,rfl⟩
 | int i t=>exact ⟨some (i,t),rfl,rfl⟩
theorem AY:B_ X (fun x lo hi H Q=>∃ z,x=.str z/\(rC z lo hi).length<=sizeLine/\Q (.str (rC z lo hi)) H):=by
 intro pins s σ H x v vl vu lo hi sl Q I rx hs pl pu h;obtain ⟨z,rfl,hz,q⟩:=h;obtain ⟨t,rfl⟩:=rx;obtain ⟨l,rfl,rfl⟩:=nw pl;obtain ⟨u,rfl,rfl⟩:=nw pu;refine ⟨"str",_,PySem.F.slot_str_getitem.lookup,typeIs_str _ _ _,?_⟩;refine wpAny_getItem_str_slice (l:=l) (u:=u) (st:=none) hs rfl ?_;unfold sliceMade slicePicked;unfold rC at q hz
 by_cases c:((Builtin.Str.strSliceIndices (l.map (·.1)) (u.map (·.1)) 1 z.length).length==z.length)=true
 ·rw [if_pos c] at q
  rw [if_pos (by simpa using c)];exact ⟨.str z,H,I,⟨t,rfl⟩,q⟩
 ·rw [if_neg c] at q hz
  rw [if_neg (by simpa using c)];exact ⟨hz,.str _,H,I.tok _,⟨_,rfl⟩,q⟩
noncomputable def D6 (K:Frag):V->Option Int->Option Int->Hp->VK->Prop:=fun x lo hi H Q=>match x with
 | .str z=>(rC z lo hi).length<=sizeLine/\Q (.str (rC z lo hi)) H
 | .ref a=>(∃ xs,a9 K H a xs/\∀ p,H p=none->Q (.ref p) (aw H p (.lst (gT xs lo hi))))\/Ck K (.ref a) lo hi H Q
 | _=>False
theorem zP:B_ X (D6 X.K):=by
 intro pins s σ H x v vl vu lo hi sl Q I rx hs pl pu h;unfold D6 at h;split at h
 ·exact AY pins s σ H _ v vl vu lo hi sl Q I rx hs pl pu ⟨_,rfl,h.1,h.2⟩
 ·rcases h with ⟨xs,h1,h2⟩ | h
  ·exact yI pins s σ H _ v vl vu lo hi sl Q I rx hs pl pu ⟨_,xs,rfl,h1,h2⟩
  ·exact AX pins s σ H _ v vl vu lo hi sl Q I rx hs pl pu h
 ·exact h.elim
end
noncomputable def Cd (lo st:Int) (n:Nat):It:=⟨fun i _=>i < n,fun i H x H'=>H'=H/\x=.int (lo+i * st),fun i _=>n<=i⟩
theorem uG {P:Program}{w:World}{K:Frag}{tg:Expr} (it:Addr) (lo st:Int) (n:Nat):Turn P w K tg (Cd lo st n) [it] it (fun i h=>IsRangeIter h it (lo+(i:Nat) * st) ((n:Int) - (i:Nat)) st) where
 mem:=by simp
 obj:=fun i h sx b hb=>by
  have e:b=it:=by simpa using hb
  subst e;exact ⟨_,sx,fun v z=>by
   have z':Data.fields _=Data.cell v:=z;cases z'⟩
 keep:=fun i h h' sx k=>k it (by simp) _ sx
 item:=by
  intro X hP hw hK hc i pins s σ H E I hf sx hg;subst hP hw hK;obtain ⟨f0,f1,f2,f3,f4,f5⟩:=hf it (by simp);have W:=Walks.range (prog:=X.prog) (w:=X.w) (I.ok.hd hc) it lo st n;refine W.item i s _ _ hg sx fun v h' tk hv st' kk=>?_;obtain ⟨t,rfl⟩:=hv;have I1:Inv X pins σ H { s with heap:=h',toks:=tk }:=I.turned (fun b o hb e=>kk b o (by simpa using hb) e) f0 f1 f3 f4 f5;exact ⟨_,rfl,vU (s:={ s with heap:=h',toks:=tk }) (n:="range_iterator") st' rfl rfl (by decide) ⟨.int (lo+i * st),H,I1,⟨t,rfl⟩,⟨rfl,rfl⟩,st',fun b hb=>(hf b hb).1⟩⟩
 done:=by
  intro X hP hw hK hc i pins s σ H E I hf sx hg;subst hP hw hK;obtain ⟨f0,f1,f2,f3,f4,f5⟩:=hf it (by simp);exact wpAny_pyNext_range_end (I.ok.hd hc) sx (by have:n<=i:=hg; omega) fun h' eb=>⟨rfl,I.turned (t':=s.toks) (fun b o hb e=>eb b o hb e) f0 f1 f3 f4 f5⟩
 self:=fun _ _ _ _ _ sx h=>wpAny_pyIter_rangeiter sx h
theorem xP {lo st:Int}{n:Nat}{g:TG}{tb:TS}{D:Ends}{σ:St}{H:Hp} (Pv:Nat->St->Hp->Prop) (h0:Pv 0 σ H)
  (hs:∀ i σ H,i < n->Pv i σ H->g (.int (lo+i * st)) σ H fun σ2 H2=>tb { D with nx:=Pv (i+1),ct:=Pv (i+1),bk:=D.nx } σ2 H2) (hd:∀ σ H,Pv n σ H->D.nx σ H) :
  ∃ W:Nat->Nat->St->Hp->Prop,(∃ m,W 0 m σ H)/\∀ i m σ H,W i m σ H ->
   ((Cd lo st n).stop i H/\D.nx σ H)\/((Cd lo st n).go i H/\∃ N:St->Hp->Prop,(∀ σ' H',N σ' H'->∃ m',m' < m/\W (i+1) m' σ' H')/\∀ x H',(Cd lo st n).yld i H x H'->g x σ H' fun σ2 H2=>tb { D with nx:=N,ct:=N,bk:=D.nx } σ2 H2):=by
 refine ⟨fun i m σ H=>m=n - i/\i<=n/\Pv i σ H,⟨n,by simp,Nat.zero_le _,h0⟩,?_⟩;rintro i m σ H ⟨rfl,hi,p⟩
 by_cases hlt:i < n
 ·refine .inr ⟨hlt,Pv (i+1),fun σ' H' p'=>⟨n - (i+1),by omega,rfl,hlt,p'⟩,fun x H' y=>?_⟩
  obtain ⟨e,y⟩:=y;subst e y;exact hs i σ _ hlt p
 ·have e:i=n:=by omega
  subst e;exact .inl ⟨Nat.le_refl _,hd σ H p⟩
noncomputable def C0 (ta:TA):TI:=fun σ H R=>ta σ H fun vs H1=>∃ j:Nat,vs=[.int 0,.int j,.int 2]/\j < 100/\R (Cd 0 2 ((j+1) / 2)) H1
theorem CL:∀ j:Nat,j < 100->Builtin.Range.rangeSize 0 (j:Int) 2=(((j+1) / 2:Nat):Int)/\Builtin.Range.small 0 (j:Int) 2=true/\Builtin.divisionGoesByPylong ((j:Int) - 0) 2=false:=by decide +kernel
section
variable {X:Cx}{tg:Expr}
theorem uW {a b c:Expr}{ta:TA}{p pos:Pos} (hg:Gl X "range") (hm:X.mg "range" = none) (ha:PA X [a,b,c] ta) (hs:starEach [a,b,c] X.env=[(false,eval a X.env),(false,eval b X.env),(false,eval c X.env)]:=by rfl) (hs2:starEach [b,c] X.env=[(false,eval b X.env),(false,eval c X.env)]:=by rfl) :
  PI X tg (.Call (.Name "range" p) [a,b,c] [] pos) (C0 ta):=by
 intro pins s σ H R I h;refine Call_ (i5 I hg hm boot_range (PyProof.Rows.callWith_type1 (bE (ha pos pins s σ H _ I h) fun us s1 ⟨vs,H1,I1,r1,q1⟩=>?_) (by rw [hs,hs2]) (by rw [hs2]; rfl)));obtain ⟨j,e,hj,q⟩:=q1;subst e;obtain ⟨z1,z2,z3⟩:=CL j hj;cases r1 with
 | cons r rr =>
  cases rr with
  | cons r' rr =>
   cases rr with
   | cons r'' rr =>
    cases rr;obtain ⟨t,rfl⟩:=r;obtain ⟨t',rfl⟩:=r';obtain ⟨t'',rfl⟩:=r'';refine call_range_3 (by decide) ?_ (.inl z3);refine wpAny_pyIter_range (IsRange.new ..) z2 ?_;have I2:Inv X pins σ H1 { s1 with heap:=s1.heap.push { cls:=.type "range",data:=.fields #[.int 0 t,.int (j:Int) t',.int 2 t''] },toks:=s1.toks }:=I1.kept fun b o e=>Heap.get?_push_of_some _ e;refine ⟨(s1.heap.push { cls:=.type "range",data:=.fields #[.int 0 t,.int (j:Int) t',.int 2 t''] }).objs.size,[(s1.heap.push { cls:=.type "range",data:=.fields #[.int 0 t,.int (j:Int) t',.int 2 t''] }).objs.size],_,_,H1,rfl,
     I2.kept (t':=s1.toks) fun b o e=>Heap.get?_push_of_some _ e,uG _ 0 2 ((j+1) / 2),?_,fun b hb=>?_,q⟩
    ·show IsRangeIter _ _ (0+((0:Nat):Int) * 2) ((((j+1) / 2:Nat):Int) - ((0:Nat):Int)) 2
     have e1:(0:Int)+((0:Nat):Int) * 2=0:=by decide
     have e2:(((j+1) / 2:Nat):Int) - ((0:Nat):Int)=Builtin.Range.rangeSize 0 (j:Int) 2:=by rw [z1]; simp
     rw [e1,e2];exact Heap.get?_push_size _ rfl
    ·have e:b=(s1.heap.push { cls:=.type "range",data:=.fields #[.int 0 t,.int (j:Int) t',.int 2 t''] }).objs.size:=by simpa using hb
     subst e;exact I2.fpOk (Nat.le_refl _) (I2.hok.fresh (Nat.le_refl _))
end
section
variable {X:Cx}
end
section
variable {prog:Program}{w:World}{K:Type} [DecidableEq K] {knd:HeapKind prog w K}{A:Around}{E:Value->Shared->Prop}{s:Shared}
theorem yP {d b:Addr}{xs:List (K×Addr×Value)}{k:K}{r:Value}{Q:Value->Shared->Prop} (hu:knd.room A) (kb:knd.is s.heap k b) (dm:s.heap.DictOfH knd d xs) (zl:xs.length<=sizeLine)
  (q1:∀ p,atKey xs k=some p->Q p.2 { s with toks:=s.toks+knd.draws k })
  (q2:atKey xs k=none->∀ h',h'.DictOfH knd d (storedH xs k b r)->Heap.SameBut d s.heap h'->Q r { s with heap:=h',toks:=s.toks+knd.draws k }) :
  wpAny (model prog w) A (dictSetDefault d (.ref b) r) Q E s:=by
 obtain ⟨ob,es,ep,eo,ex,ed,ee,al,nd⟩:=dm;unfold dictSetDefault
 try with_reducible refine wpAny_holding ?_
 refine wpAny_bind (knd.pyHash hu kb (wpAny_bind (wpAny_dictFind_heap (s:={ s with toks:=s.toks+knd.draws k }) hu kb eo ed ee al nd (fun no=>?_) fun j p at_=>?_)))
 ·have an:=atKey_none_of_get no
  have nk:k∉xs.map (·.1):=not_mem_keys_of_get no;have sz:=size_of_entries ee;refine wpAny_bind (wpAny_rule (wpAny_bind (wpAny_updateDictKeys (hz:=by omega) (s:={ s with toks:=s.toks+knd.draws k }) eo ed (wpAny_pure (q2 an _ ⟨_,_,ep+1,Heap.get?_update_self _ eo (Obj.isFreed_of_dict (Obj.data_mapDictKeys ed _)),
   ex.mapDictKeys _,Obj.data_mapDictKeys ed _,?_,?_,?_⟩ (Heap.SameBut.update ..))))))
  ·rw [storedH_new an]; simp [ee,entryOfKey]
  ·rw [storedH_new an]
   intro x hx;rcases List.mem_append.mp hx with y | y
   ·exact knd.keeps (al x y) eo ed (Heap.SameBut.update ..)
   ·rw [List.mem_singleton] at y; rw [y]
    exact knd.keeps kb eo ed (Heap.SameBut.update ..)
  ·rw [storedH_new an,List.map_append,List.nodup_append]
   refine ⟨nd,by simp,fun x hx y hy z=>nk ?_⟩;have hy:y=k:=by simpa using hy
   rw [<- hy,<- z]; exact hx
 ·refine wpAny_bind (wpAny_dictEntries (s:={ s with toks:=s.toks+knd.draws k }) eo ed ?_)
  rw [entry_at ee j,at_];exact wpAny_bind (wpAny_rule (wpAny_pure (q1 p (atKey_of_get nd at_))))
theorem xA (knd:HeapKind prog w K) (d b:Addr) (lo:(d==sysModules)=false) (r:Value) (ty:∀ s:Shared,(∃ xs,s.heap.DictOfH knd d xs)->s.TypeIs (.ref d) "dict") :
  MeetsIn prog w (Builtin.«dict.setdefault» ⟨[.ref d,.ref b,r],[]⟩) (fun A R s=>knd.room A.in1/\∃ k xs,knd.is s.heap k b/\s.heap.DictOfH knd d xs/\xs.length<=sizeLine /\
   (∀ p,atKey xs k=some p->R (.ok (.ret p.2)) { s with toks:=s.toks+knd.draws k }) /\
   (atKey xs k=none->∀ h',h'.DictOfH knd d (storedH xs k b r)->Heap.SameBut d s.heap h'->R (.ok (.ret r)) { s with heap:=h',toks:=s.toks+knd.draws k })) :=
 .of_wp fun A R s ⟨hu,k,xs,kb,dm,zl,r1,r2⟩=>by
  unfold Builtin.«dict.setdefault»;refine wpAny_bind ?_;unfold Builtin.Dict.keyAndDefault;refine wpAny_bind (wpAny_notOrdered_dict (ty s ⟨xs,dm⟩) ?_);show wpAny _ _ (pure (d,Value.ref b,some r)) _ _ s;refine wpAny_pure ?_;show wpAny _ _ (if (d==sysModules)=true then _ else (dictSetDefault d (.ref b) r >>= _)) _ _ s;rw [if_neg (by rw [lo]; exact Bool.false_ne_true)];exact wpAny_bind (yP hu kb dm zl (fun p hp=>wpAny_pure ⟨_,rfl,r1 p hp⟩) fun an h' dm' sb=>wpAny_pure ⟨_,rfl,r2 an h' dm' sb⟩)
end
section
variable {X:Cx}{pins:List (Addr×Obj)}{σ:St}{H:Hp}{s:Shared}
noncomputable def Am:V->List V->Hp->VK->Prop:=fun x xs H Q=>∃ a kvs k b v,x=.ref a/\H a=some (.dT kvs)/\xs=[.ref b,v]/\H b=some (.tup (k.map kV))/\kvs.length < sizeLine/\(∀ u,a7 kvs k=some u->Q u H)/\(a7 kvs k=none->Q v (aw H a (.dT (bo kvs k v))))
theorem zb {j:Nat} (hr:Room j X.A):Dt X "dict.setdefault" Am:=by
 intro pins s σ H x xs v us Q I rx rs h;obtain ⟨a,kvs,k,b,v0,rfl,ha,rfl,hb,hz,q1,q2⟩:=h;cases rx;obtain ⟨u,r,rfl,ru,rr⟩:=aL.two rs;cases (show u=Value.ref b from ru);have hu:=hr.units;obtain ⟨z,hd,xs,rel,dd⟩:=As I.hok ha;have hl:=Paired.length rel;refine call_meetsIn PySem.F.slot_dict_setdefault dd.typeIs PySem.F.entry_dict_setdefault (PySem.F.args_dict_setdefault_3 _ _ _) (xA (tupleKind (aX X.prog X.w)) a b hd r fun s ⟨_,d1⟩=>d1.typeIs)
  ⟨tupleKind_room_in1 (by omega),k,xs,i7 I.hok hb,dd,by omega,fun p hp=>?_,fun hn h' dd' hs=>?_⟩
 ·have:=rel.val k
  rw [hp] at this;cases e:a7 kvs k with
  | none=>rw [e] at this; exact this.elim
  | some o=>rw [e] at this; exact ⟨o,H,I.tok _,this,q1 o e⟩
 ·have hn':a7 kvs k=none:=by
   have:=rel.val k;rw [hn] at this;cases e:a7 kvs k with
   | none=>rfl
   | some o=>rw [e] at this; exact this.elim
  obtain ⟨q,es,ep,hq,h2,h3,h4,_,h5⟩:=dd';have zl:(bo kvs k v0).length<=sizeLine:=by have:=c6 kvs k v0; omega
  refine ⟨v0,aw H a (.dT (bo kvs k v0)),iy I (by rw [ha]; exact True.intro) hs ⟨q,hq⟩ (show a6 X.prog X.w (aw H a (.dT (bo kvs k v0))) h' a (.dT (bo kvs k v0)) from ⟨zl,hd,_,(rel.put k hb rr).keeps fun c ys ec=>?_,q,es,ep,hq,h2,h3,h4,h5⟩),rr,q2 hn'⟩;rw [ad (fZ ec ha (fun z=>nomatch z))];exact ec
end
noncomputable def f6 (h:Heap) (d:Addr) (es:Array DictEntry) (ep:Nat):Prop:=∃ o,h.get? d=some o/\o.ExactDict/\o.data=.dict es ep
theorem f6.keep {h h':Heap}{d:Addr}{es:Array DictEntry}{ep:Nat} (x:f6 h d es ep) (k:∀ o,h.get? d=some o->h'.get? d=some o):f6 h' d es ep:=let ⟨o,a,r⟩:=x; ⟨o,k o a,r⟩
theorem f6.lt {h:Heap}{d:Addr}{es:Array DictEntry}{ep:Nat} (x:f6 h d es ep):d < h.objs.size:=let ⟨_,a,_⟩:=x; Heap.lt_size a
theorem f6.ty {s:Shared}{d:Addr}{es:Array DictEntry}{ep:Nat} (x:f6 s.heap d es ep):s.TypeIs (.ref d) "dict":=let ⟨o,a,b,_⟩:=x; ⟨o,a,b.1⟩
section
variable {prog:Program}{w:World}{A:Around}{E:Value->Shared->Prop}{s:Shared}{d it:Addr}{es:Array DictEntry}{ep i:Nat}
theorem xV {Q:Value->Shared->Prop} (lo:(d==sysModules)=false) (m:f6 s.heap d es ep)
  (q:Q (.ref s.heap.objs.size) { s with heap:=s.heap.push { cls:=.type "dict_keyiterator",data:=.fields #[.ref d,.int 0 0,.int es.size 0,.int ep 0] } }):wpAny (model prog w) A (pyIter (.ref d)) Q E s:=by
 have T:=m.ty;obtain ⟨ob,e1,e2,e3⟩:=m;refine wpAny_pyIter_slot T PySem.F.slot_dict_iter (wpAny_call_entry PySem.F.slot_dict_iter T PySem.F.entry_dict_iter ?_ (PySem.F.args_dict_iter_1 _));unfold Builtin.«dict.__iter__»;refine wpAny_bind ?_;unfold Builtin.Dict.dictSlotNone;refine wpAny_bind (wpAny_notOrdered_dict T ?_);show wpAny _ _ (pure (Value.ref d)) _ _ s;refine wpAny_pure ?_;show wpAny _ _ (Builtin.Dict.showsAll d >>= _) _ _ s;unfold Builtin.Dict.showsAll;rw [if_neg (by rw [lo]; exact Bool.false_ne_true)];refine wpAny_bind (wpAny_pure (wpAny_bind (wpAny_dictEntries e1 e3 (wpAny_bind (wpAny_dictEpoch e1 e3 ?_)))));refine wpAny_bind (wpAny_newObj_type (wpAny_pure ⟨_,rfl,"dict_keyiterator",_,⟨_,Heap.get?_push_size _ rfl,rfl⟩,PySem.F.slot_dict_keyiterator_next.lookup,?_⟩));simpa [rawInt] using q
theorem xU {Q:Option Value->Shared->Prop}{e:DictEntry} (hi:s.heap.IsKeyIter it d i es.size ep) (m:f6 s.heap d es ep) (hx:es[i]? = some e)
  (q:∀ h',h'.IsKeyIter it d (i+1) es.size ep->Heap.SameBut it s.heap h'->Q (some e.key) { s with heap:=h' }):wpAny (model prog w) A (pyNext (.ref it)) Q E s:=by
 have T:=hi.typeIs;obtain ⟨o,a1,a2,a3⟩:=id hi;obtain ⟨od,e1,_,e3⟩:=id m;obtain ⟨lt,ei⟩:=Array.getElem?_eq_some_iff.mp hx;unfold pyNext;refine wpAny_bind (wpAny_attempt (wpAny_callSpecial?_slot (name:=Str.ofString "__next__") T PySem.F.slot_dict_keyiterator_next
  (wpAny_call_entry PySem.F.slot_dict_keyiterator_next T PySem.F.entry_dict_keyiterator_next ?_ (PySem.F.args_dict_keyiterator_next_1 _))))
 refine wpAny_bind (wpAny_pure (wpAny_bind (wpAny_bind ?_)))
 first | refine wpAny_bind (wpAny_typeNameOfWhole_keyiter T (wpAny_pure ?_)) | refine wpAny_bind (wpAny_typeNameOf_keyiter T (wpAny_pure ?_))
 refine wpAny_bind (wpAny_fieldsOf a1 a3 ?_);have ow:Builtin.Dict_items.ownsTuple "dict_keyiterator" = false:=by decide
 simp only [ow,Bool.false_eq_true,if_false];show wpAny _ _ (if (Value.ref d==Value.none)=true then _ else _) _ _ s;rw [if_neg (show ¬ ((Value.ref d==Value.none)=true) from fun z=>Bool.false_ne_true z)];refine wpAny_bind (wpAny_pure (wpAny_bind (wpAny_dictEntries e1 e3 ?_)));rw [if_neg (by simp)];refine wpAny_bind (wpAny_pure (wpAny_bind (wpAny_dictEpoch e1 e3 ?_)));rw [if_neg (by simp)];refine wpAny_pure ?_;simp only [show ¬ ((i:Int) < 0) from by omega,if_false,Int.toNat_natCast,hx];refine wpAny_bind ?_
 first | refine wpAny_bind (wpAny_typeNameOfWhole_keyiter T (wpAny_pure ?_)) | refine wpAny_bind (wpAny_typeNameOf_keyiter T (wpAny_pure ?_))
 refine wpAny_bind (wpAny_isOneOf_keyiter T ?_);show wpAny _ _ (setField (.ref it) 1 (rawInt ((i:Int)+1)) >>= _) _ _ s;refine wpAny_bind (wpAny_setField a1 a3 (by simp) ?_);have hj:(s.heap.update it (Obj.mapFields (·.setIfInBounds 1 (rawInt ((i:Int)+1))))).IsKeyIter it d (i+1) es.size ep :=
  ⟨_,Heap.get?_update_self _ a1 (Obj.isFreed_of_fields (Obj.data_mapFields a3 _)),(Obj.cls_mapFields ..).trans a2,by rw [Obj.data_mapFields a3]; simp [rawInt]⟩
 refine wpAny_bind (wpAny_holding (wpAny_bind (wpAny_isOneOf_keyiter (s:={ s with heap:=s.heap.update it (Obj.mapFields (·.setIfInBounds 1 (rawInt ((i:Int)+1)))) }) hj.typeIs ?_)));show wpAny _ _ (pure e.key) _ _ _;exact wpAny_pure (wpAny_pure ⟨_,rfl,wpAny_pure (q _ hj (Heap.SameBut.update ..))⟩)
theorem zC {Q:Option Value->Shared->Prop} (hh:A.handled=none) (hi:s.heap.IsKeyIter it d i es.size ep) (m:f6 s.heap d es ep) (hx:es.size<=i)
  (q:∀ h',Heap.ExtBut it s.heap h'->Q none { s with heap:=h' }):wpAny (model prog w) A (pyNext (.ref it)) Q E s:=by
 have T:=hi.typeIs;obtain ⟨o,a1,a2,a3⟩:=id hi;obtain ⟨od,e1,_,e3⟩:=id m;unfold pyNext;refine wpAny_bind (wpAny_attempt (wpAny_callSpecial?_slot (name:=Str.ofString "__next__") T PySem.F.slot_dict_keyiterator_next
  (wpAny_call_entry PySem.F.slot_dict_keyiterator_next T PySem.F.entry_dict_keyiterator_next ?_ (PySem.F.args_dict_keyiterator_next_1 _))))
 refine wpAny_bind (wpAny_pure (wpAny_bind (wpAny_bind ?_)))
 first | refine wpAny_bind (wpAny_typeNameOfWhole_keyiter T (wpAny_pure ?_)) | refine wpAny_bind (wpAny_typeNameOf_keyiter T (wpAny_pure ?_))
 refine wpAny_bind (wpAny_fieldsOf a1 a3 ?_);have ow:Builtin.Dict_items.ownsTuple "dict_keyiterator" = false:=by decide
 simp only [ow,Bool.false_eq_true,if_false];show wpAny _ _ (if (Value.ref d==Value.none)=true then _ else _) _ _ s;rw [if_neg (show ¬ ((Value.ref d==Value.none)=true) from fun z=>Bool.false_ne_true z)];refine wpAny_bind (wpAny_pure (wpAny_bind (wpAny_dictEntries e1 e3 ?_)));rw [if_neg (by simp)];refine wpAny_bind (wpAny_pure (wpAny_bind (wpAny_dictEpoch e1 e3 ?_)));rw [if_neg (by simp)];refine wpAny_pure ?_;simp only [show ¬ ((i:Int) < 0) from by omega,if_false,Int.toNat_natCast,Array.getElem?_eq_none hx];refine wpAny_bind ?_
 first | refine wpAny_bind (wpAny_typeNameOfWhole_keyiter T (wpAny_pure ?_)) | refine wpAny_bind (wpAny_typeNameOf_keyiter T (wpAny_pure ?_))
 show wpAny _ _ (setField (.ref it) 0 .none >>= _) _ _ s;refine wpAny_bind (wpAny_setField a1 a3 (by simp) ?_);show wpAny _ _ (newExc (.type "StopIteration") [] >>= _) _ _ _;refine wpAny_bind ?_;simp only [newExc,newTuple];refine wpAny_bind (wpAny_newObj_type ?_ (by size_fits));refine wpAny_bind (m:=firstArgMember _ _) (wpAny_of_eq (a:=Value.none) (by first | rfl | (simp only [firstArgMember]; rfl)) (wpAny_newObj_type ?_ (by size_fits)));simp only [raiseNew];refine wpAny_bind (wpAny_handled ?_);rw [show A.in1.handled=none from hh];refine wpAny_bind (wpAny_pure (wpAny_throw ?_));refine wpAny_bind (wpAny_isInstance (T:="StopIteration") (b:=true) ⟨_,Heap.get?_push_size _ rfl,rfl⟩ PySem.isSubtype_stop ?_);exact wpAny_pure (q _ (((Heap.SameBut.update ..).extBut.push _).push _))
theorem vk (hh:A.handled=none) (ne:d≠it) (es:Array DictEntry) (ep:Nat) :
  Walks prog w A it [it,d] [it] es.size (fun i v=>∃ e,es[i]? = some e/\v=e.key) (fun i h=>h.IsKeyIter it d i es.size ep/\f6 h d es ep) where
 sub:=fun b z=>by simp at z; simp [z]
 frame:=fun _ _ _ st k=>⟨let ⟨o,a,r⟩:=st.1; ⟨o,k it (by simp) o a,r⟩,st.2.keep fun o z=>k d (by simp) o z⟩
 item:=fun i s Q E hi st q=>by
  refine xU st.1 st.2 (Array.getElem?_eq_getElem hi) fun h' h1 h2=>?_;exact q _ h' s.toks ⟨_,Array.getElem?_eq_getElem hi,rfl⟩ ⟨h1,st.2.keep fun o z=>h2.extBut d o ne z⟩ fun b o hb z=>h2.extBut b o (fun y=>hb (by simp [y])) z
 done:=fun s Q E st q=>zC hh st.1 st.2 (Nat.le_refl _) fun h' h1=>q h' s.toks fun b o hb z=>h1 b o (fun y=>hb (by simp [y])) z
 self:=fun _ _ _ _ st q=>wpAny_pyIter_keyiter st.1 q
theorem zB (lo:(d==sysModules)=false):PySem.W.KdlSrc prog w "dict" d d es.size (fun i v=>∃ e,es[i]? = some e/\v=e.key) (fun h=>f6 h d es ep) where
 type:=fun _ m=>m.ty
 there:=fun _ m=>⟨m.lt,m.lt⟩
 keep:=fun _ _ m k=>m.keep fun o z=>k d (.inl rfl) o z
 notList:=by decide
 notTuple:=by decide
 hint:=fun _ _ _ _ m q=>PySem.W.kdl_hint_dict m.ty q
 iter:=fun _ _ hh m=>⟨_,_,(fun _ _ q=>xV lo m q),vk hh (Nat.ne_of_lt m.lt) es ep,⟨⟨_,Heap.get?_push_size _ rfl,rfl,rfl⟩,m.keep fun o z=>Heap.get?_push_of_some _ z⟩⟩
end
section
variable {X:Cx}{pins:List (Addr×Obj)}{σ:St}{H:Hp}{s:Shared}
noncomputable def rS (H:Hp) (k:List a5) (u:V):Prop:=∃ b,u=.ref b/\H b=some (.tup (k.map kV))
theorem sT (hc:X.calm=true:=by rfl):bS X (.type "list") (fun xs H Q=>∃ p kvs,xs=[.ref p]/\Rd H p (.dT kvs)/\∀ us,Paired (rS H) (kvs.map (·.1)) us->∀ l,H l=none->Q (.ref l) (aw H l (.lst us))):=by
 intro pins s σ H xs us Q I r h;obtain ⟨p,kvs,rfl,z,q⟩:=h;obtain ⟨u,rfl,ru⟩:=dS r;cases ru;obtain ⟨hz,lo,xs,rel,o,es,ep,h1,h2,h3,h4,h5,h6⟩:=kG I.hok z;have hl:kvs.length=xs.length:=Paired.length rel;have hs:es.size=xs.length:=by have:=congrArg List.length h4; simpa using this
 refine PySem.W.kdl_call (zB (es:=es) (ep:=ep) lo) (I.ok.hd hc) ⟨o,h1,h2,h3⟩ (by omega) fun h' tk acc c k hL hacc=>?_;have hn:=I.hok.fresh (Nat.le_refl s.heap.objs.size);have el:∀ j:Nat,es[j]? = (xs[j]?).map (entryOfKey (tupleKind (aX X.prog X.w))):=fun j=>entry_at h4 j;have ha:acc.toList.length=xs.length:=by rw [Array.length_toList,hacc.1]; exact hs
 have ac:∀ (j:Nat) (b:Value),acc.toList[j]? = some b->∃ x,xs[j]? = some x/\b=.ref x.2.1:=fun j b e=>by
  obtain ⟨e2,g1,g2⟩:=hacc.2 j b (by rw [<- Array.getElem?_toList]; exact e);rw [el j] at g1;cases ex:xs[j]? with
  | none=>rw [ex] at g1; cases g1
  | some x=>rw [ex] at g1; cases g1; exact ⟨x,rfl,g2⟩
 have PK:Paired (rS H) (kvs.map (·.1)) (xs.map fun x=>V.ref x.2.1):=cc (by simp [hl]) fun j a b e1 e2=>by
  rw [List.getElem?_map] at e1 e2;cases ek:kvs[j]? with
  | none=>rw [ek] at e1; cases e1
  | some kv =>
   cases ex:xs[j]? with
   | none=>rw [ex] at e2; cases e2
   | some x =>
    rw [ek] at e1; rw [ex] at e2; cases e1; cases e2;have:=bn (show Paired _ _ _ from rel) ek ex;exact ⟨x.2.1,rfl,this.2.1⟩
 refine ⟨.ref s.heap.objs.size,_,I.laid (t':=tk) (o:=.lst (xs.map fun x=>V.ref x.2.1)) k (Nat.le_refl _) ⟨by rw [List.length_map]; omega,acc.toList,c,?_,by simpa using hL⟩,rfl,q _ PK _ hn⟩;refine cc (by rw [List.length_map]; omega) fun j a b e1 e2=>?_;obtain ⟨x,ex,eb⟩:=ac j b e2;rw [List.getElem?_map,ex] at e1;cases e1;rw [eb]; rfl
theorem xQ {K:Frag}{a:Addr}{xs:List V}{g:TG}{tb:TS}{D:Ends}{σ:St}{H:Hp} (Pv:Nat->St->Hp->Prop) (h0:Pv 0 σ H) (hl:∀ i σ H,i<=xs.length->Pv i σ H->a9 K H a xs)
  (hs:∀ i x t σ H,xs[i]? = some x->H t=none->Pv i σ H->g (.ref t) σ (aw H t (.tup [.int ((i:Int)+1),x])) fun σ2 H2=>tb { D with nx:=Pv (i+1),ct:=Pv (i+1),bk:=D.nx } σ2 H2) (hd:∀ σ H,Pv xs.length σ H->D.nx σ H) :
  ∃ W:Nat->Nat->St->Hp->Prop,(∃ m,W 0 m σ H)/\∀ i m σ H,W i m σ H ->
   ((Ce K a).stop i H/\D.nx σ H)\/((Ce K a).go i H/\∃ N:St->Hp->Prop,(∀ σ' H',N σ' H'->∃ m',m' < m/\W (i+1) m' σ' H')/\∀ x H',(Ce K a).yld i H x H'->g x σ H' fun σ2 H2=>tb { D with nx:=N,ct:=N,bk:=D.nx } σ2 H2):=by
 refine ⟨fun i m σ H=>m=xs.length - i/\i<=xs.length/\Pv i σ H,⟨xs.length,by simp,Nat.zero_le _,h0⟩,?_⟩;rintro i m σ H ⟨rfl,hi,p⟩;have q:=hl i σ H hi p
 by_cases z:i < xs.length
 ·refine .inr ⟨⟨xs,xs[i],q,by simp [z]⟩,Pv (i+1),fun σ' H' p'=>⟨xs.length - (i+1),by omega,rfl,z,p'⟩,fun x H' y=>?_⟩
  obtain ⟨t,v,t1,rfl,rfl,y⟩:=y;exact hs i v t σ H (y xs q) t1 p
 ·have e:i=xs.length:=by omega
  subst e;exact .inl ⟨⟨xs,q,Nat.le_refl _⟩,hd σ H p⟩
end
theorem kj:∀ {r r':List a5},r.map kV=r'.map kV->r=r'
 | [],[],_=>rfl
 | [],_ :: _,h=>nomatch h
 | _ :: _,[],h=>nomatch h
 | a :: r,b :: r',h=>by
  rw [List.map_cons,List.map_cons] at h
  injection h with h1 h2
  rw [rM h1,kj h2]
theorem wu (a b:a5):Db (kV a) (kV b)=true:=by cases a<;>cases b<;>rfl
theorem x8 {K:Frag}{H:Hp}{b p:Addr}{r r':List a5} (hb:H b=some (.tup (r.map kV))) (hp:H p=some (.tup (r'.map kV))):DEq K H 1 (.ref b) (.ref p) (decide (r=r')):=by
 by_cases z:b=p
 ·subst z
  rw [hb] at hp;have e:r=r':=kj (by injection hp with h; injection h);rw [decide_eq_true e]; exact .same
 ·have h:=DEq.tup (n:=0) (fun j=>decide (r[j]? = r'[j]?)) (c8.of (K:=K) hb) (c8.of (K:=K) hp) z fun j x y h1 h2=>by
   rw [List.getElem?_map] at h1 h2;cases e1:r[j]? with
   | none=>rw [e1] at h1; cases h1
   | some k =>
    cases e2:r'[j]? with
    | none=>rw [e2] at h2; cases h2
    | some k' =>
     rw [e1] at h1; rw [e2] at h2; cases h1; cases h2;have:=DEq.scal (K:=K) (H:=H) (n:=0) (wu k k');have e:decide (kV k=kV k')=decide (some k=some k'):=by
      by_cases q:k=k'
      ·rw [q]; simp
      ·rw [decide_eq_false (fun y=>q (rM y)),decide_eq_false (fun y=>q (Option.some.inj y))]
     rw [e] at this; exact this
  have e:((List.range (min (r.map kV).length (r'.map kV).length)).all (fun j=>decide (r[j]? = r'[j]?))&&(r.map kV).length==(r'.map kV).length)=decide (r=r'):=by
   rw [List.length_map,List.length_map,Bool.eq_iff_iff,Bool.and_eq_true,decide_eq_true_eq,List.all_eq_true,beq_iff_eq];constructor
   ·rintro ⟨h1,h2⟩
    apply List.ext_getElem? fun j=>?_
    by_cases hj:j < r.length
    ·exact of_decide_eq_true (h1 j (List.mem_range.mpr (by omega)))
    ·rw [List.getElem?_eq_none_iff.mpr (by omega),List.getElem?_eq_none_iff.mpr (by omega)]
   ·rintro rfl
    exact ⟨fun j _=>decide_eq_true rfl,rfl⟩
  rw [e] at h; exact h
theorem zo {K:Frag}{H:Hp}{a p:Addr}{xs:List V}{rows:List (List a5)}{r':List a5}{bb:Bool} (R:_root_.Own.Rows H xs (rows.map fun r=>r.map kV)) (ha:a9 K H a xs) (hp:H p=some (.tup (r'.map kV))) (hbb:bb=true↔r'∈rows):InV K H (.ref p) (.ref a) bb:=by
 classical
 have get:∀ y∈xs,∃ b r,y=.ref b/\H b=some (.tup (r.map kV))/\r∈rows:=fun y hy=>by
  obtain ⟨j,hj⟩:=List.mem_iff_getElem?.mp hy;have lj:j < rows.length:=by
   have h1:=(List.getElem?_eq_some_iff.mp hj).1;have h2:=Paired.length R;rw [List.length_map] at h2; omega
  obtain ⟨b,e1,e2⟩:=bn (show Paired _ _ _ from R) hj (by rw [List.getElem?_map,List.getElem?_eq_getElem lj]; rfl);exact ⟨b,rows[j],e1,e2,List.getElem_mem lj⟩
 have h:=InV.lst (K:=K) (n:=1) (fun v=>decide (∃ b,v=V.ref b/\H b=some (.tup (r'.map kV)))) ha (by omega) (x:=.ref p) fun y hy=>by
  obtain ⟨b,r,rfl,hb,_⟩:=get y hy;have:=x8 (K:=K) hb hp;have e:decide (r=r')=decide (∃ b',V.ref b=V.ref b'/\H b'=some (.tup (r'.map kV))):=by
   by_cases q:r=r'
   ·rw [decide_eq_true q,decide_eq_true ⟨b,rfl,by rw [<- q]; exact hb⟩]
   ·rw [decide_eq_false q,decide_eq_false]
    rintro ⟨b',e,h⟩;cases e;rw [hb] at h;exact q (kj (by injection h with h; injection h))
  rw [e] at this; exact this
 have e:(xs.any fun v=>decide (∃ b,v=V.ref b/\H b=some (.tup (r'.map kV))))=bb:=by
  rw [Bool.eq_iff_iff,List.any_eq_true,hbb];constructor
  ·rintro ⟨y,hy,h⟩
   obtain ⟨b,r,rfl,hb,hm⟩:=get y hy;obtain ⟨b',e,h⟩:=of_decide_eq_true h;cases e;rw [hb] at h;rw [<- kj (show r.map kV=r'.map kV by injection h with h; injection h)]; exact hm
  ·intro hm
   obtain ⟨j,hj⟩:=List.mem_iff_getElem?.mp hm;have lj:j < xs.length:=by
    have h1:=(List.getElem?_eq_some_iff.mp hj).1;have h2:=Paired.length R;rw [List.length_map] at h2; omega
   obtain ⟨b,e1,e2⟩:=bn (show Paired _ _ _ from R) (List.getElem?_eq_getElem lj) (by rw [List.getElem?_map,hj]; rfl);exact ⟨xs[j],List.getElem_mem lj,decide_eq_true ⟨b,e1,e2⟩⟩
 rw [e] at h; exact h
theorem vw (us:List V) (t:Nat):gT us none (some (t:Int))=us.take t:=by
 unfold gT;rw [HT.xb,HT.oC,List.drop_zero,Nat.sub_zero]
 by_cases h:t<=us.length
 ·rw [Nat.min_eq_left h]
 ·rw [Nat.min_eq_right (by omega),List.take_length,List.take_of_length_le (by omega)]
end L2
namespace Hl
open PySem L2
noncomputable def yn:List Int:=[0,1,2,5,100000000000000000000]
noncomputable def Ej (n:Nat):Deed->Prop
 | .rise o=>0<=o/\o < (n:Int)
 | .settled _=>False
 | _=>True
noncomputable def BS (n:Nat) (d:Deed):Prop:=deedOk yn d/\Ej n d
noncomputable def BT (n k:Nat):Prop:=k<=50\/(n<=5/\k<=6 * (4+3 * n))\/(8 < n/\n<=13/\k<=3 * (4+3 * n))
theorem BT.le {n k:Nat} (h:BT n k):k<=130:=by unfold BT at h; omega
structure DL (n:Nat) (H:Hp) (l:Addr) (us:List V) (ds:List Deed):Prop where
 hl:H l=some (.lst us)
 dd:cA H us ds
 ok:∀ d∈ds,BS n d
theorem DL.len {n:Nat}{H:Hp}{l:Addr}{us:List V}{ds:List Deed} (x:DL n H l us ds):us.length=ds.length:=Paired.length x.dd
theorem DL.same {n:Nat}{H H':Hp}{l:Addr}{us:List V}{ds:List Deed} (x:DL n H l us ds) (s:aI H H'):DL n H' l us ds:=⟨s _ _ x.hl,x.dd.mono fun _ _ e=>s _ _ e,x.ok⟩
theorem DL.kl {n:Nat}{H H':Hp}{l m:Addr}{us:List V}{ds:List Deed} (x:DL n H l us ds) (s:Kl m H H') (h:l≠m) (hm:∀ xs,H m≠some (.tup xs)):DL n H' l us ds:=⟨s _ _ x.hl h,x.dd.mono fun b xs e=>s _ _ e fun z=>hm xs (z ▸ e),x.ok⟩
theorem DL.app {n:Nat}{H:Hp}{l t:Addr}{us:List V}{ds:List Deed}{d:Deed} (x:DL n H l us ds) (ht:H t=some (.tup d.rowV)) (o:BS n d):DL n (aw H l (.lst (us++[.ref t]))) l (us++[.ref t]) (ds++[d]):=by
 have k:∀ b xs,H b=some (.tup xs)->(aw H l (.lst (us++[.ref t]))) b=some (.tup xs):=fun b xs e=>by rw [ad (fZ e x.hl fun z=>nomatch z)]; exact e
 refine ⟨upd_same,Paired.snoc (x.dd.mono k) ⟨t,rfl,k _ _ ht⟩,fun e he=>?_⟩;rcases List.mem_append.mp he with z | z
 ·exact x.ok e z
 ·have:e=d:=by simpa using z
  exact this ▸ o
theorem Kl.behind {l:Addr}{H H1 H2:Hp} (s:aI H H1) (k:Kl l H1 H2) (h:H l=none):aI H H2:=fun b u e=>k b u (s b u e) (ai e h)
theorem ir {n:Nat}{K:Frag}{σ:St}{i:Nat}{l:Addr}{us:List V}{ds:List Deed}{te:TE} (d:Deed) {H:Hp}{D:Ends} (hσ:∀ H Q,Q (.ref l) H->gV i σ H Q) (L:DL n H l us ds) (ht:∀ Q,(∀ t H',aI H H'->H' t=some (.tup d.rowV)->Q (.ref t) H')->te σ H Q) (ok:BS n d) (hz:ds.length<=999)
  (k:∀ us' H',DL n H' l us' (ds++[d])->Kl l H H'->D.nx σ H'):kD (BZ K "list" iu (gV i) (pW te kA)) D σ H:=by
 unfold kD;refine hσ H _ ⟨.inl ⟨rfl,_,a9.of L.hl⟩,?_⟩;refine ht _ fun t H' s h=>?_;have L1:=L.same s;exact ⟨l,us,_,rfl,rfl,L1.hl,aE (by rw [L.len]; omega),k _ _ (L1.app h ok) (Kl.trans (.of_same s) cW)⟩
theorem xf {n:Nat}{K:Frag}{σ:St}{i:Nat}{l:Addr}{us:List V}{ds:List Deed}{te:TE} (d:Deed) {H:Hp}{u:TS}{D:Ends} (hσ:∀ H Q,Q (.ref l) H->gV i σ H Q) (L:DL n H l us ds) (ht:∀ Q,(∀ t H',aI H H'->H' t=some (.tup d.rowV)->Q (.ref t) H')->te σ H Q) (ok:BS n d) (hz:ds.length<=999)
  (k:∀ us' H',DL n H' l us' (ds++[d])->Kl l H H'->u D σ H'):ux (kD (BZ K "list" iu (gV i) (pW te kA))) u D σ H:=ir (D:={ D with nx:=u D }) d hσ L ht ok hz k
theorem ww {tc:TT}{t v:TS}{D:Ends}{σ:St}{H:Hp} (P:Hp->Prop) (h:∀ (C:Hp->Prop) (D':Ends),(∀ H',P H'->C H')->(∀ H',C H'->D'.nx σ H')->tc σ H fun b H1=>if b=true then t D' σ H1 else C H1) (k:∀ H',P H'->v D σ H'):ux (Ax tc t Ab) v D σ H :=
 h (fun H'=>v D σ H') { D with nx:=v D } k (fun _ x=>x)
noncomputable def rF:Sp:=fun vs H Q _=>∃ k:Int,vs=[.int k]/\0<=k/\k < 100/\∀ z H',aI H H'->Q (.str z) H'
noncomputable def qb:Sp:=fun vs H Q _=>∃ (cell k:Int) (n:Nat),vs=[.int cell,.int k,.int n]/\0<=k/\k < 100/\0 < n/\n < 100 /\
 ∀ t d H',aI H H'->H' t=some (.tup d.rowV)->BS n d->Q (.ref t) H'
noncomputable def tJ:Sp:=fun vs H Q _=>∃ (cell k:Int) (n:Nat),vs=[.int cell,.int k,.int n]/\0<=k/\k < 100/\0 < n/\n < 100 /\
 ∀ l us ds H',H l=none->aI H H'->DL n H' l us ds->ds.length<=4+3 * n->Q (.ref l) H'
noncomputable def tG:Sp:=fun vs H Q _=>∃ (n:Nat) (a b:Addr) (cell:Int) (ua ub:List V) (da db:List Deed),vs=[.ref a,.ref b,.int cell]/\DL n H a ua da/\DL n H b ub db/\da.length+db.length<=200 /\
 ∀ l us ds H',H l=none->aI H H'->DL n H' l us ds->ds.length=da.length+db.length->Q (.ref l) H'
noncomputable def tQ:Sp:=fun vs H Q _=>∃ (a:Addr) (way:Int) (n:Nat) (ns:List Int),vs=[.ref a,.int way,.int n]/\H a=some (.lst (ns.map V.int))/\ns.length<=62/\0 < n/\(n<=5\/8 < n/\n<=13) /\
 ∀ l us ds H',H l=none->aI H H'->DL n H' l us ds->BT n ds.length->Q (.ref l) H'
theorem DV:∀ n:Nat,n < 4->MulOk "." (n:Int)/\(Txt.mul "." (n:Int)).length<=3:=by
 intro n h;refine ⟨PyProof.Rows.mulOk_of 16 1048576 (by decide) (by omega) (by omega) (by decide) (by decide),?_⟩
 have:∀ n:Nat,n < 4->(Txt.mul "." (n:Int)).length<=3:=by decide +kernel
 exact this n h
theorem Cj:MulOk "so" 10:=PyProof.Rows.mulOk_of 16 1048576 (by decide) (by decide) (by decide) (by decide) (by decide)
theorem DZ:∀ n:Nat,n < 21->(rC (Txt.mul "so" 10) none (some (n:Int))).length<=20:=by decide +kernel
theorem DY:∀ n:Nat,n < 21->(rC (Txt.mul "so" 10) (some (n:Int)) none).length<=20:=by decide +kernel
theorem tm:("abcdefghijklmnopqrstuvwxyz":Str).cps.toList.length=26/\("abcdefghijklmnopqrstuvwxyz":Str).length<=sizeLine:=by decide +kernel
theorem fF (c:Nat):(⟨#[c]⟩:Str).length=1:=rfl
theorem iq {K:Frag}{H:Hp}{a p:Addr}{ua:List V} (ha:H a=some (.lst ua)) (hp:H p=some (.lst [])):TEq K H (.ref a) (.ref p) (decide (ua=[])):=by
 by_cases h:ua=[]
 ·subst h
  exact TEq.lst (n:=0) (fun _=>true) (a9.of ha) (a9.of hp) rfl (by decide) (fun j x y h1 _=>by simp at h1)
 ·rw [decide_eq_false h]
  exact TEq.lstN (a9.of ha) (a9.of hp) (fun z=>h (List.eq_nil_of_length_eq_zero z))
theorem CT {K:Frag}{σ:St}{H:Hp}{F:Bool->Hp->Prop}{a b:Addr}{ua ub:List V}{i j:Nat} (hi:∀ H Q,Q (.ref a) H->gV i σ H Q) (hj:∀ H Q,Q (.ref b) H->gV j σ H Q) (ha:H a=some (.lst ua)) (hb:H b=some (.lst ub))
  (ht:(ua≠[]\/ub≠[])->∀ H',aI H H'->F true H') (hf:ua=[]->ub=[]->∀ H',aI H H'->F false H'):BY (jv (yk (Dd K) (gV i) (vM kA))) (jv (yk (Dd K) (gV j) (vM kA))) σ H F:=by
 unfold BY jv yk;refine hi H _ ?_;refine ⟨by show 0<=sizeLine; decide,fun p hp=>?_⟩;have s1:=am (o:=.lst []) hp;refine ⟨_,iq (s1 _ _ ha) upd_same,_,rfl,?_⟩
 by_cases h:ua=[]
 ·refine Ap (decide_eq_true h) ?_
  refine hj _ _ ?_;refine ⟨by show 0<=sizeLine; decide,fun p2 hp2=>?_⟩;have s2:=am (o:=.lst []) hp2;refine ⟨_,iq (s2 _ _ (s1 _ _ hb)) upd_same,_,rfl,?_⟩
  by_cases h2:ub=[]
  ·rw [decide_eq_true h2]; exact hf h h2 _ (s1.trans s2)
  ·rw [decide_eq_false h2]; exact ht (.inr h2) _ (s1.trans s2)
 ·exact wJ (decide_eq_false h) (ht (.inl h) _ s1)
theorem CS {K:Frag}{σ:St}{H:Hp}{F:Bool->Hp->Prop}{a b:Addr}{ua ub:List V}{i j k:Nat}{tn:Bool} (hi:∀ H Q,Q (.ref a) H->gV i σ H Q) (hj:∀ H Q,Q (.ref b) H->gV j σ H Q) (hk:∀ H Q,Q (.bl tn) H->gV k σ H Q) (ha:H a=some (.lst ua)) (hb:H b=some (.lst ub))
  (ht:(ub=[]\/ua≠[])->∀ H',aI H H'->F true H') (hf:ub≠[]->∀ H',aI H H'->F false H'):BY (jv (yk (Dm K) (gV j) (vM kA))) (Az (tB (gV k)) (jv (yk (Dd K) (gV i) (vM kA)))) σ H F:=by
 unfold BY Az tB jv yk;refine hj H _ ?_;refine ⟨by show 0<=sizeLine; decide,fun p hp=>?_⟩;have s1:=am (o:=.lst []) hp;refine ⟨_,iq (s1 _ _ hb) upd_same,_,rfl,?_⟩
 by_cases h:ub=[]
 ·exact yw (decide_eq_true h) (ht (.inl h) _ s1)
 ·refine tf (fun z=>h (of_decide_eq_true z)) ?_
  refine hk _ _ ?_;refine ⟨_,rfl,?_⟩;cases tn with
  | false=>exact cE (hf h _ s1)
  | true =>
   refine cI ?_;refine hi _ _ ?_;refine ⟨by show 0<=sizeLine; decide,fun p2 hp2=>?_⟩;have s2:=am (o:=.lst []) hp2;refine ⟨_,iq (s2 _ _ (s1 _ _ ha)) upd_same,_,rfl,?_⟩
   by_cases h2:ua=[]
   ·rw [decide_eq_true h2]; exact hf h _ (s1.trans s2)
   ·rw [decide_eq_false h2]; exact ht (.inr h2) _ (s1.trans s2)
theorem DL.cons_of {n:Nat}{H:Hp}{a:Addr}{ua:List V}{da:List Deed} (x:DL n H a ua da) (h:ua≠[]):∃ t ua' d da',ua=.ref t :: ua'/\da=d :: da'/\H t=some (.tup d.rowV)/\BS n d:=by
 obtain ⟨hl,dd,ok⟩:=x;cases dd with
 | nil=>exact absurd rfl h
 | cons z r=>obtain ⟨t,rfl,ht⟩:=z; exact ⟨t,_,_,_,rfl,rfl,ht,ok _ List.mem_cons_self⟩
theorem DL.tl {n:Nat}{H:Hp}{a p:Addr}{v:V}{ua:List V}{d:Deed}{da:List Deed} (x:DL n H a (v :: ua) (d :: da)) (hp:H p=none):DL n (aw H p (.lst ua)) p ua da:=by
 obtain ⟨hl,dd,ok⟩:=x;cases dd with
 | cons z r=>exact ⟨upd_same,cA.mono r fun b xs e=>(am hp) _ _ e,fun e he=>ok e (List.mem_cons_of_mem _ he)⟩
theorem qE {v:V}{ua:List V}:gT (v :: ua) (some 1) none=ua:=by
 have h1:HT.sIx (v :: ua).length 0 (some 1)=1:=by
  show min (1:Int).toNat (ua.length+1)=1;simp
 unfold gT;rw [h1];show ((v :: ua).drop 1).take ((v :: ua).length - 1)=ua;simp
theorem none_of {H H1:Hp}{r:Addr} (s:aI H H1) (h:H1 r=none):H r=none:=by
 cases e:H r with
 | none=>rfl
 | some u=>rw [s _ _ e] at h; cases h
theorem jG {α β:Type}{F:α->β->Prop}:∀ {xs:List α}{ys:List β} (n:Nat),Paired F xs ys->Paired F (xs.drop n) (ys.drop n)
 | _,_,0,p=>p
 | _,_,_+1,.nil=>.nil
 | _,_,n+1,.cons _ t=>jG n t
theorem jF {α β:Type}{F:α->β->Prop}:∀ {xs:List α}{ys:List β} (n:Nat),Paired F xs ys->Paired F (xs.take n) (ys.take n)
 | _,_,0,_=>.nil
 | _,_,_+1,.nil=>.nil
 | _,_,n+1,.cons h t=>.cons h (jF n t)
noncomputable def RL (n:Nat) (H:Hp) (r:Addr) (v:V) (ds:List Deed):Prop:=∃ a us,v=.ref a/\a≠r/\DL n H a us ds/\ds.length<=4+3 * n
structure RsAt (n:Nat) (H:Hp) (r:Addr) (rs:List V) (dss:List (List Deed)):Prop where
 hl:H r=some (.lst rs)
 pr:Paired (RL n H r) rs dss
theorem RsAt.same {n:Nat}{H H':Hp}{r:Addr}{rs:List V}{dss:List (List Deed)} (x:RsAt n H r rs dss) (s:aI H H'):RsAt n H' r rs dss :=
 ⟨s _ _ x.hl,Paired.mapP x.pr fun _ _ ⟨a,us,e,h,d,l⟩=>⟨a,us,e,h,d.same s,l⟩⟩
theorem RsAt.app {n:Nat}{H:Hp}{r a:Addr}{rs us:List V}{dss:List (List Deed)}{ds:List Deed} (x:RsAt n H r rs dss) (d:DL n H a us ds) (h:a≠r) (l:ds.length<=4+3 * n):RsAt n (aw H r (.lst (rs++[.ref a]))) r (rs++[.ref a]) (dss++[ds]):=by
 have nt:∀ xs,H r≠some (.tup xs):=fun xs z=>by rw [x.hl] at z; cases z
 exact ⟨upd_same,Paired.snoc (Paired.mapP x.pr fun _ _ ⟨a,us,e,h,d,l⟩=>⟨a,us,e,h,d.kl cW h nt,l⟩) ⟨a,us,rfl,h,d.kl cW h nt,l⟩⟩
theorem DL.cat {n:Nat}{H:Hp}{a b p:Addr}{ua ub:List V}{da db:List Deed} (x:DL n H a ua da) (y:DL n H b ub db) (hp:H p=none):DL n (aw H p (.lst (ua++ub))) p (ua++ub) (da++db):=by
 have s:=am (o:=.lst (ua++ub)) hp;refine ⟨upd_same,cU (x.same s).dd (y.same s).dd,fun e he=>?_⟩;rcases List.mem_append.mp he with z | z
 ·exact x.ok e z
 ·exact y.ok e z
theorem ya {rs:List V}{j:Nat} (h:2 * j < rs.length):gT rs (some (0+(j:Int) * 2)) (some (0+(j:Int) * 2+2))=(rs.drop (2 * j)).take 2:=by
 have e1:(0+(j:Int) * 2)=((2 * j:Nat):Int):=by omega
 have e2:(0+(j:Int) * 2+2)=((2 * j+2:Nat):Int):=by omega
 unfold gT;rw [e1,show ((2 * j:Nat):Int)+2=((2 * j+2:Nat):Int) from by omega,HT.oC,HT.oC];rw [Nat.min_eq_left (Nat.le_of_lt h)]
 by_cases h2:2 * j+2<=rs.length
 ·rw [Nat.min_eq_left h2]
  congr 1
  omega
 ·rw [Nat.min_eq_right (by omega),List.take_of_length_le (by rw [List.length_drop]; omega),List.take_of_length_le (by rw [List.length_drop]; omega)]
structure Maj (A:PH) (n:Int) (Q:List Int):Prop where
 nd:Q.Nodup
 in_:∀ j∈Q,0<=j/\j < A.cnt
 pr:∀ j∈Q,∃ s,A.scrs[j.toNat]? = some s/\n<=s.prom
 big:A.cnt < 2 * (Q.length:Int)
noncomputable def BV (A:PH) (n p:Int) (v:Str):Prop:=∃ Q,Maj A n Q/\((∀ j∈Q,∀ m u,(m,j,p,u)∈A.wrs->n<=m)\/∃ m j,(m,j,p,v)∈A.wrs/\m < n/\∀ i∈Q,∀ k u,(k,i,p,u)∈A.wrs->k < n->k<=m)
noncomputable def uE (A:PH) (n p:Int):Prop:=∃ Q,Maj A n Q/\∀ j∈Q,∀ m u,(m,j,p,u)∈A.wrs->n<=m
theorem uE.any {A:PH}{n p:Int} (h:uE A n p) (v:Str):BV A n p v:=let ⟨Q,a,b⟩:=h; ⟨Q,a,.inl b⟩
structure ToldOk (A:PH) (n:Int) (j:Int) (row:cr):Prop where
 in_:0<=j/\j < A.cnt
 pr:∃ s,A.scrs[j.toNat]? = some s/\n<=s.prom
 wr:∀ p e,(p,e)∈row->(e.1,j,p,e.2)∈A.wrs/\e.1 < n
 all:∀ m p u,(m,j,p,u)∈A.wrs->m < n->∃ e,(p,e)∈row/\m<=e.1
structure LdOk (A:PH) (o:Int) (l:PLd):Prop where
 in_:0<=o/\o < A.cnt
 md:l.num % A.cnt=o
 nn:0<=l.num
 se:∀ s,A.scrs[o.toNat]? = some s->l.num<=s.seen
 cl:l.op=false->(∀ w∈A.wrs,w.1≠l.num)/\l.said=[]/\(l.told.map (·.1)).Nodup/\∀ j row,(j,row)∈l.told->ToldOk A l.num j row
 op:l.op=true->(∀ p v,aq l.said p=some v->0<=p/\BV A l.num p v)/\(∀ p,aq l.said p=none->uE A l.num p)/\∀ j p u,(l.num,j,p,u)∈A.wrs->aq l.said p=some u
structure Sf (A:PH):Prop where
 cn:0 < A.cnt
 ln:(A.scrs.length:Int)=A.cnt
 sm:∀ s∈A.scrs,-1<=s.seen
 wb:∀ m j p u,(m,j,p,u)∈A.wrs->0<=m/\(0<=j/\j < A.cnt)/\0<=p
 wp:∀ m j p u s,(m,j,p,u)∈A.wrs->A.scrs[j.toNat]? = some s->m<=s.prom
 mn:A.wrs.Pairwise (fun a b=>a.2.1=b.2.1->a.1<=b.1)
 fn:∀ m j i p u v,(m,j,p,u)∈A.wrs->(m,i,p,v)∈A.wrs->u=v
 ro:∀ (j:Nat) s,A.scrs[j]? = some s->∀ p e,(p,e)∈s.row->(e.1,(j:Int),p,e.2)∈A.wrs
 al:∀ (j:Nat) s,A.scrs[j]? = some s->∀ m p u,(m,(j:Int),p,u)∈A.wrs->∃ e,(p,e)∈s.row/\m<=e.1
 ok:∀ m j p u,(m,j,p,u)∈A.wrs->BV A m p u
 sn:∀ m j p u s,(m,j,p,u)∈A.wrs->A.scrs[(m % A.cnt).toNat]? = some s->m<=s.seen
 ld:∀ o l,aq A.leads o=some l->LdOk A o l
theorem wV {n:Int}{Q:List Int} (hn:0<=n) (nd:Q.Nodup) (h:∀ j∈Q,0<=j/\j < n):(Q.length:Int)<=n:=by
 have:=List.Nodup.length_le_of_subset (l₂:=(List.range n.toNat).map fun k:Nat=>(k:Int)) nd fun x hx=>by
  obtain ⟨a,b⟩:=h x hx;exact List.mem_map.mpr ⟨x.toNat,List.mem_range.mpr (by omega),by omega⟩
 rw [List.length_map,List.length_range] at this;omega
theorem DP {n:Int}{Q V:List Int} (hn:0<=n) (n1:Q.Nodup) (n2:V.Nodup) (h1:∀ j∈Q,0<=j/\j < n) (h2:∀ j∈V,0<=j/\j < n) (b1:n < 2 * (Q.length:Int)) (b2:n < 2 * (V.length:Int)):∃ j,j∈Q/\j∈V:=by
 apply Classical.byContradiction;intro z;have nd:(Q++V).Nodup:=List.nodup_append.mpr ⟨n1,n2,fun a ha b hb e=>z ⟨a,ha,e ▸ hb⟩⟩;have:=wV hn nd fun j hj=>by
  rcases List.mem_append.mp hj with w | w
  ·exact h1 j w
  ·exact h2 j w
 rw [List.length_append] at this;omega
theorem Sf.safe {A:PH} (S:Sf A) {n p:Int}{V:List Int} (nd:V.Nodup) (hv:∀ j∈V,∃ u,(n,j,p,u)∈A.wrs) (big:A.cnt < 2 * (V.length:Int)) {i:Int}{v:Str} (hw:(n,i,p,v)∈A.wrs) :
  ∀ (d:Nat) (m j:Int) (u:Str),(m,j,p,u)∈A.wrs->m=n+d->u=v:=by
 intro d
 induction d using Nat.strongRecOn with
 | ind d ih =>
  intro m j u h e
  by_cases z:d=0
  ·subst z
   have:m=n:=by omega
   subst this;exact S.fn _ _ _ _ _ _ h hw
  ·obtain ⟨Q,M,q⟩:=S.ok _ _ _ _ h
   obtain ⟨k,k1,k2⟩:=DP (by have:=S.cn; omega) M.nd nd M.in_ (fun j hj=>by obtain ⟨x,hx⟩:=hv j hj; exact (S.wb _ _ _ _ hx).2.1) M.big big;obtain ⟨x,hx⟩:=hv k k2;rcases q with q | ⟨m',j',h1,h2,h3⟩
   ·have:=q k k1 _ _ hx
    omega
   ·have:=h3 k k1 _ _ hx (by omega)
    exact ih (m' - n).toNat (by omega) m' j' u h1 (by omega)
structure Nx (own:Int) (A B:PH):Prop where
 cnt:B.cnt=A.cnt
 sc:∀ (j:Nat) s,A.scrs[j]? = some s->∃ s',B.scrs[j]? = some s'/\s.prom<=s'.prom/\s.seen<=s'.seen
 sub:∀ w∈A.wrs,w∈B.wrs
 new:∀ w∈B.wrs,w∈A.wrs\/(w.1 % A.cnt=own/\∀ s,A.scrs[w.2.1.toNat]? = some s->s.prom<=w.1)
theorem Maj.nx {own:Int}{A B:PH}{n:Int}{Q:List Int} (M:Maj A n Q) (x:Nx own A B):Maj B n Q :=
 ⟨M.nd,fun j hj=>by rw [x.cnt]; exact M.in_ j hj,fun j hj=>by
  obtain ⟨s,h1,h2⟩:=M.pr j hj;obtain ⟨s',h3,h4,_⟩:=x.sc _ _ h1;exact ⟨s',h3,Int.le_trans h2 h4⟩,by rw [x.cnt]; exact M.big⟩
theorem Nx.old {own:Int}{A B:PH} (x:Nx own A B) {n:Int}{Q:List Int} (M:Maj A n Q) {m j p:Int}{u:Str} (hj:j∈Q) (h:(m,j,p,u)∈B.wrs):(m,j,p,u)∈A.wrs\/n<=m:=by
 refine (x.new _ h).imp id fun ⟨_,z⟩=>?_;obtain ⟨s,h1,h2⟩:=M.pr j hj;exact Int.le_trans h2 (z s h1)
theorem BV.nx {own:Int}{A B:PH}{n p:Int}{v:Str} (h:BV A n p v) (x:Nx own A B):BV B n p v:=by
 obtain ⟨Q,M,q⟩:=h;refine ⟨Q,M.nx x,q.imp (fun q j hj m u h=>?_) fun ⟨m,j,h1,h2,h3⟩=>⟨m,j,x.sub _ h1,h2,fun i hi k u hk lt=>?_⟩⟩
 ·rcases x.old M hj h with z | z
  ·exact q j hj m u z
  ·exact z
 ·rcases x.old M hi hk with z | z
  ·exact h3 i hi k u z lt
  ·omega
theorem uE.nx {own:Int}{A B:PH}{n p:Int} (h:uE A n p) (x:Nx own A B):uE B n p:=by
 obtain ⟨Q,M,q⟩:=h;refine ⟨Q,M.nx x,fun j hj m u h=>?_⟩;rcases x.old M hj h with z | z
 ·exact q j hj m u z
 ·exact z
theorem ToldOk.nx {own:Int}{A B:PH}{n j:Int}{row:cr} (T:ToldOk A n j row) (x:Nx own A B):ToldOk B n j row:=by
 refine ⟨by rw [x.cnt]; exact T.in_,?_,fun p e h=>⟨x.sub _ (T.wr p e h).1,(T.wr p e h).2⟩,fun m p u h lt=>?_⟩
 ·obtain ⟨s,h1,h2⟩:=T.pr
  obtain ⟨s',h3,h4,_⟩:=x.sc _ _ h1;exact ⟨s',h3,Int.le_trans h2 h4⟩
 ·rcases x.new _ h with z | ⟨_,z⟩
  ·exact T.all m p u z lt
  ·obtain ⟨s,h1,h2⟩:=T.pr
   have:s.prom<=m:=z s h1
   omega
theorem LdOk.nx {own:Int}{A B:PH}{o:Int}{l:PLd} (L:LdOk A o l) (x:Nx own A B) (h:o≠own\/∀ w∈B.wrs,w∈A.wrs) (hs:∀ (j:Nat) s',B.scrs[j]? = some s'->∃ s,A.scrs[j]? = some s):LdOk B o l:=by
 have old:∀ j p u,(l.num,j,p,u)∈B.wrs->(l.num,j,p,u)∈A.wrs:=fun j p u hw=>by
  rcases h with h | h
  ·rcases x.new _ hw with z | ⟨z,_⟩
   ·exact z
   ·exact absurd (L.md.symm.trans z) h
  ·exact h _ hw
 refine ⟨by rw [x.cnt]; exact L.in_,by rw [x.cnt]; exact L.md,L.nn,fun s' hs'=>?_,fun e=>?_,fun e=>?_⟩
 ·obtain ⟨s,h1⟩:=hs _ _ hs'
  obtain ⟨s2,h2,_,h3⟩:=x.sc _ _ h1;rw [hs'] at h2; cases h2;exact Int.le_trans (L.se s h1) h3
 ·obtain ⟨h1,h2,h3,h4⟩:=L.cl e
  refine ⟨fun w hw z=>?_,h2,h3,fun j row hr=>(h4 j row hr).nx x⟩;obtain ⟨m,j,p,u⟩:=w;have z:m=l.num:=z;subst z;exact h1 _ (old _ _ _ hw) rfl
 ·obtain ⟨h1,h2,h3⟩:=L.op e
  exact ⟨fun p v hg=>⟨(h1 p v hg).1,(h1 p v hg).2.nx x⟩,fun p hg=>(h2 p hg).nx x,fun j p u hw=>h3 j p u (old _ _ _ hw)⟩
theorem fV {β:Type} (l:List (Int×β)) (k j:Int):aq (bY l k) j=if j=k then none else aq l j:=by
 induction l with
 | nil=>simp [bY,aq]
 | cons a l ih =>
  by_cases e:a.1=k
  ·have:bY (a :: l) k=bY l k:=by simp [bY,e]
   rw [this,ih]
   by_cases z:j=k
   ·simp [z]
   ·simp only [if_neg z]
    unfold aq;rw [List.find?_cons_of_neg (by simp only [decide_eq_true_eq]; intro y; exact z (y.symm.trans e))]
  ·have:bY (a :: l) k=a :: bY l k:=by simp [bY,e]
   rw [this]
   by_cases z:a.1=j
   ·have ne:j≠k:=fun y=>e (z.trans y)
    rw [if_neg ne];unfold aq;rw [List.find?_cons_of_pos (by simp [z]),List.find?_cons_of_pos (by simp [z])]
   ·have h1:aq (a :: bY l k) j=aq (bY l k) j:=by unfold aq; rw [List.find?_cons_of_neg (by simp [z])]
    have h2:aq (a :: l) j=aq l j:=by unfold aq; rw [List.find?_cons_of_neg (by simp [z])]
    rw [h1,h2,ih]
theorem df {α:Type}{l:List α}{i:Nat}{a x:α}{j:Nat} (h:(l.set i a)[j]? = some x):(j=i/\x=a/\j < l.length)\/(j≠i/\l[j]? = some x):=by
 by_cases e:j=i
 ·subst e
  have hj:j < l.length:=by have:=(List.getElem?_eq_some_iff.mp h).1; rwa [List.length_set] at this
  rw [List.getElem?_set_self hj] at h;cases h; exact .inl ⟨rfl,rfl,hj⟩
 ·rw [List.getElem?_set_ne (Ne.symm e)] at h
  exact .inr ⟨e,h⟩
theorem kN {own:Int}{A:PH}{i:Nat}{s s':PScr}{L:List (Int×PLd)}{T:List Int} (h:A.scrs[i]? = some s) (h1:s.prom<=s'.prom) (h2:s.seen<=s'.seen):Nx own A { A with scrs:=A.scrs.set i s',leads:=L,stop:=T }:=by
 refine ⟨rfl,fun j t ht=>?_,fun w hw=>hw,fun w hw=>.inl hw⟩
 by_cases e:j=i
 ·subst e
  rw [h] at ht; cases ht;exact ⟨s',List.getElem?_set_self (List.getElem?_eq_some_iff.mp h).1,h1,h2⟩
 ·exact ⟨t,(List.getElem?_set_ne (Ne.symm e)).trans ht,Int.le_refl _,Int.le_refl _⟩
theorem gm {A:PH}{i:Nat}{s':PScr} (j:Nat) (t:PScr) (h:(A.scrs.set i s')[j]? = some t):∃ s,A.scrs[j]? = some s:=by
 have hj:j < A.scrs.length:=by have:=(List.getElem?_eq_some_iff.mp h).1; rwa [List.length_set] at this
 exact ⟨_,List.getElem?_eq_getElem hj⟩
theorem Sf.calm {A:PH} (S:Sf A) {i:Nat}{s s':PScr}{L:List (Int×PLd)}{T:List Int} (h:A.scrs[i]? = some s) (h1:s.prom<=s'.prom) (h2:s.seen<=s'.seen) (hr:s'.row=s.row)
  (hl:∀ o l,aq L o=some l->LdOk { A with scrs:=A.scrs.set i s',leads:=L,stop:=T } o l):Sf { A with scrs:=A.scrs.set i s',leads:=L,stop:=T }:=by
 have hi:i < A.scrs.length:=(List.getElem?_eq_some_iff.mp h).1;have x:Nx 0 A { A with scrs:=A.scrs.set i s',leads:=L,stop:=T }:=kN h h1 h2;refine ⟨S.cn,by show ((A.scrs.set i s').length:Int)=_; rw [List.length_set]; exact S.ln,fun t ht=>?_,S.wb,fun m j p u t hw ht=>?_,S.mn,S.fn,fun j t ht p e he=>?_,fun j t ht m p u hw=>?_,fun m j p u hw=>(S.ok m j p u hw).nx x,fun m j p u t hw ht=>?_,hl⟩
 ·obtain ⟨j,hj⟩:=List.mem_iff_getElem?.mp ht
  rcases df hj with ⟨_,e,_⟩ | ⟨_,e⟩
  ·rw [e]; exact Int.le_trans (S.sm s (List.mem_of_getElem? h)) h2
  ·exact S.sm t (List.mem_of_getElem? e)
 ·rcases df ht with ⟨e1,e,_⟩ | ⟨_,e⟩
  ·rw [e]; exact Int.le_trans (S.wp m j p u s hw (by rw [e1]; exact h)) h1
  ·exact S.wp m j p u t hw e
 ·rcases df ht with ⟨e1,e,_⟩ | ⟨_,e⟩
  ·subst e1; subst e
   rw [hr] at he;exact S.ro _ _ h p _ he
  ·exact S.ro _ _ e p _ he
 ·rcases df ht with ⟨e1,e,_⟩ | ⟨_,e⟩
  ·subst e1; subst e
   rw [hr]; exact S.al _ _ h m p u hw
  ·exact S.al _ _ e m p u hw
 ·rcases df ht with ⟨e1,e,_⟩ | ⟨_,e⟩
  ·rw [e]; exact Int.le_trans (S.sn m j p u s hw (by rw [e1]; exact h)) h2
  ·exact S.sn m j p u t hw e
theorem Sf.leads {A:PH} (S:Sf A) {L:List (Int×PLd)}{T:List Int} (hl:∀ o l,aq L o=some l->LdOk A o l):Sf { A with leads:=L,stop:=T } :=
 have x:Nx 0 A { A with leads:=L,stop:=T }:=⟨rfl,fun j s h=>⟨s,h,Int.le_refl _,Int.le_refl _⟩,fun w h=>h,fun w h=>.inl h⟩
 ⟨S.cn,S.ln,S.sm,S.wb,S.wp,S.mn,S.fn,S.ro,S.al,fun m j p u h=>(S.ok m j p u h).nx x,S.sn,fun o l h=>(hl o l h).nx x (.inr fun w h=>h) fun j s h=>⟨s,h⟩⟩
theorem Sf.drop {A:PH} (S:Sf A) (own:Int) {T:List Int}:Sf { A with leads:=bY A.leads own,stop:=T }:=S.leads fun o l h=>by
 rw [fV] at h;split at h
 ·cases h
 ·exact S.ld o l h
theorem Sf.fall {A:PH} (S:Sf A) (own num:Int):Sf (de A own num):=by
 unfold de;split
 ·exact S
 ·next s h =>
  have hs:s.seen<=(if s.seen < num then num else s.seen):=by split<;>omega
  refine S.calm (T:=A.stop) h (Int.le_refl _) hs rfl fun o l hg=>?_;rw [fV] at hg;split at hg
  ·cases hg
  ·exact (S.ld o l hg).nx (kN (own:=own) h (Int.le_refl _) hs) (.inr fun w hw=>hw) fun j t ht=>gm j t ht
theorem ud {cnt own seen:Int} (hc:0 < cnt):seen < bx cnt own seen:=by
 unfold bx; have:=Int.emod_nonneg (own - (seen+1)) (b:=cnt) (by omega); omega
theorem uc {cnt own seen:Int} (h0:0<=own) (h1:own < cnt):bx cnt own seen % cnt=own:=by
 unfold bx;rw [Int.add_emod_emod,show seen+1+(own - (seen+1))=own by omega];exact Int.emod_eq_of_lt h0 h1
theorem Sf.rise {A:PH} (S:Sf A) {own:Int} (h0:0<=own) (h1:own < A.cnt):Sf (dU A own).1:=by
 unfold dU;split
 ·exact S
 ·split
  ·exact S
  ·next s h =>
   have gt:=ud (own:=own) (seen:=s.seen) S.cn;have sm:=S.sm s (List.mem_of_getElem? h);refine S.calm (T:=A.stop) h (Int.le_refl _) (Int.le_of_lt gt) rfl fun o l hg=>?_;rw [aK] at hg;split at hg
   ·next e =>
    cases hg; subst e;refine ⟨⟨h0,h1⟩,uc h0 h1,by show 0<=bx _ _ _; omega,fun t ht=>?_,fun _=>⟨fun w hw z=>?_,rfl,.nil,fun j row hr=>nomatch hr⟩,fun z=>nomatch z⟩
    ·rcases df ht with ⟨_,e,_⟩ | ⟨e,_⟩
     ·rw [e]; exact Int.le_refl _
     ·exact absurd rfl e
    ·obtain ⟨m,j,p,u⟩:=w
     have z:m=bx A.cnt o s.seen:=z;have:=S.sn m j p u s hw (by rw [z,uc h0 h1]; exact h);omega
   ·exact (S.ld o l hg).nx (kN (own:=own) h (Int.le_refl _) (Int.le_of_lt gt)) (.inr fun w hw=>hw) fun j t ht=>gm j t ht
theorem Sf.say {A:PH} (S:Sf A) {own:Int}{sy:Str} (hf:∀ l,aq A.leads own=some l->aq l.said (cz l.said)=none):Sf (fM A own sy).1:=by
 unfold fM;split
 ·exact S
 ·next l h =>
  split
  ·next ho =>
   refine S.leads (T:=A.stop) fun o l' hg=>?_;rw [aK] at hg;split at hg
   ·next e =>
    cases hg; subst e;have L:=S.ld o l h;obtain ⟨h1,h2,h3⟩:=L.op ho;refine ⟨L.in_,L.md,L.nn,L.se,fun z=>absurd (ho.symm.trans z) (by decide),fun _=>⟨fun p v hp=>?_,fun p hp=>?_,fun j p u hw=>?_⟩⟩
    ·have hp:aq (aD l.said (cz l.said) sy) p=some v:=hp
     rw [aK] at hp;split at hp
     ·next e=>subst e; exact ⟨by omega,(h2 _ (hf l h)).any v⟩
     ·exact h1 p v hp
    ·have hp:aq (aD l.said (cz l.said) sy) p=none:=hp
     rw [aK] at hp;split at hp
     ·cases hp
     ·exact h2 p hp
    ·show aq (aD l.said (cz l.said) sy) p=some u
     have:=h3 j p u hw;rw [aK,if_neg (fun e=>by rw [e,hf l h] at this; cases this)];exact this
   ·exact S.ld o l' hg
  ·exact S
theorem Sf.stop {A:PH} (S:Sf A) (own:Int):Sf (eU A own).1:=by
 unfold eU;split
 ·exact S
 ·exact S.drop own
theorem Sf.wake {A:PH} (S:Sf A) (own:Int):Sf (eA A own).1:=by
 unfold eA;split
 ·exact S.leads (L:=A.leads) S.ld
 ·exact S
noncomputable def kS (b:cr) (es:List (Int×(Int×Str))):Prop:=∀ p,(aq b p=none/\∀ e,(p,e)∉es)\/∃ e,aq b p=some e/\(p,e)∈es/\∀ e',(p,e')∈es->e'.1<=e.1
theorem vE {b:cr}{es:List (Int×(Int×Str))} (h:kS b es) (q:Int×(Int×Str)):kS (bN b q) (es++[q]):=by
 intro p;have mem:∀ e,(p,e)∈es++[q]↔(p,e)∈es\/(p,e)=q:=fun e=>by rw [List.mem_append,List.mem_singleton]
 by_cases hp:p=q.1
 ·have put:∀ (h2:∀ e',(p,e')∈es->e'.1<=q.2.1),∃ e,aq (aD b q.1 q.2) p=some e/\(p,e)∈es++[q]/\∀ e',(p,e')∈es++[q]->e'.1<=e.1:=fun h2=>by
   refine ⟨q.2,by rw [aK,if_pos hp],(mem _).mpr (.inr (by rw [hp])),fun e' he=>?_⟩;rcases (mem _).mp he with z | z
   ·exact h2 e' z
   ·rw [<- z]; exact Int.le_refl _
  right
  unfold bN;rcases h p with ⟨h1,h2⟩ | ⟨e,h1,h2,h3⟩
  ·rw [<- hp,h1]
   simp only;rw [hp];rw [hp] at put h2;exact put fun e' he=>absurd he (h2 e')
  ·rw [<- hp,h1]
   simp only;split
   ·next lt=>rw [hp]; rw [hp] at put h3; exact put fun e' he=>Int.le_of_lt (Int.lt_of_le_of_lt (h3 e' he) lt)
   ·next lt =>
    refine ⟨e,h1,(mem _).mpr (.inl h2),fun e' he=>?_⟩;rcases (mem _).mp he with z | z
    ·exact h3 e' z
    ·have:e'=q.2:=by rw [<- z]
     rw [this]; omega
 ·have same:aq (bN b q) p=aq b p:=by
   unfold bN;split
   ·rw [aK,if_neg hp]
   ·split
    ·rw [aK,if_neg hp]
    ·rfl
  have no:∀ e,(p,e)∈es++[q]↔(p,e)∈es:=fun e=>by
   rw [mem];constructor
   ·rintro (z | z)
    ·exact z
    ·exact absurd (by rw [<- z]) hp
   ·exact .inl
  rw [same];rcases h p with ⟨h1,h2⟩ | ⟨e,h1,h2,h3⟩
  ·exact .inl ⟨h1,fun e he=>h2 e ((no e).mp he)⟩
  ·exact .inr ⟨e,h1,(no e).mpr h2,fun e' he=>h3 e' ((no e').mp he)⟩
theorem nV:∀ (l es:List (Int×(Int×Str))) (b:cr),kS b es->kS (l.foldl bN b) (es++l)
 | [],es,b,h=>by rw [List.append_nil]; exact h
 | q :: l,es,b,h=>by
  have:=nV l (es++[q]) (bN b q) (vE h q);rw [List.append_assoc] at this;exact this
theorem hV:∀ (rs:List cr) (b:cr),rs.foldl (fun b r=>r.foldl bN b) b=rs.flatten.foldl bN b
 | [],_=>rfl
 | r :: rs,b=>by rw [List.flatten_cons,List.foldl_append]; exact hV rs _
theorem lg (rs:List cr):kS (eV rs) rs.flatten:=by
 have:=nV rs.flatten [] [] fun p=>.inl ⟨rfl,fun e h=>nomatch h⟩;unfold eV;rw [hV]; exact this
theorem uO {b:cr} (h:(b.map (·.1)).Nodup) (q:Int×(Int×Str)):((bN b q).map (·.1)).Nodup:=by
 unfold bN;split
 ·exact fg _ _ h
 ·split
  ·exact fg _ _ h
  ·exact h
theorem qH (rs:List cr):((eV rs).map (·.1)).Nodup:=by
 unfold eV;rw [hV]
 have:∀ (l:List (Int×(Int×Str))) (b:cr),(b.map (·.1)).Nodup->((l.foldl bN b).map (·.1)).Nodup:=by
  intro l
  induction l with
  | nil=>intro b h; exact h
  | cons q l ih=>intro b h; exact ih _ (uO h q)
 exact this _ [] .nil
theorem oB:∀ (b:cr) (s:List (Int×Str)) (p:Int),(b.map (·.1)).Nodup->aq (b.foldl (fun s q=>aD s q.1 q.2.2) s) p=match aq b p with | some e=>some e.2 | none=>aq s p
 | [],s,p,_=>rfl
 | q :: b,s,p,h=>by
  rw [List.map_cons,List.nodup_cons] at h;have ih:=oB b (aD s q.1 q.2.2) p h.2;rw [List.foldl_cons,ih]
  by_cases e:q.1=p
  ·have h1:aq (q :: b) p=some q.2:=by unfold aq; rw [List.find?_cons_of_pos (by simp [e])]; rfl
   have h2:aq b p=none:=c5.mpr (by rw [<- e]; exact h.1);rw [h1,h2];simp only;rw [aK,if_pos e.symm]
  ·have h1:aq (q :: b) p=aq b p:=by unfold aq; rw [List.find?_cons_of_neg (by simp [e])]
   rw [h1];cases aq b p with
   | some x=>rfl
   | none=>simp only; rw [aK,if_neg (Ne.symm e)]
theorem iC {l:List (Int×cr)}{p:Int}{e:Int×Str}:(p,e)∈(l.map (·.2)).flatten↔∃ j row,(j,row)∈l/\(p,e)∈row:=by
 rw [List.mem_flatten];constructor
 ·rintro ⟨r,h1,h2⟩
  obtain ⟨⟨j,row⟩,h3,rfl⟩:=List.mem_map.mp h1;exact ⟨j,row,h3,h2⟩
 ·rintro ⟨j,row,h1,h2⟩
  exact ⟨row,List.mem_map.mpr ⟨(j,row),h1,rfl⟩,h2⟩
theorem LdOk.open {B:PH}{o:Int}{l:PLd} (L:LdOk B o l) (S:∀ m j p u,(m,j,p,u)∈B.wrs->0<=p) (hc:l.op=false) (hm:cw B.cnt l.told.length=true):LdOk B o (kP l):=by
 obtain ⟨c1,c2,c3,c4⟩:=L.cl hc;have M:Maj B l.num (l.told.map (·.1)):=by
  refine ⟨c3,fun j hj=>?_,fun j hj=>?_,by rw [List.length_map]; exact of_decide_eq_true hm⟩
  ·obtain ⟨⟨j,row⟩,h,rfl⟩:=List.mem_map.mp hj; exact (c4 j row h).in_
  ·obtain ⟨⟨j,row⟩,h,rfl⟩:=List.mem_map.mp hj; exact (c4 j row h).pr
 have said:∀ p,aq (kP l).said p=(aq (eV (l.told.map (·.2))) p).map (·.2):=fun p=>by
  show aq ((eV (l.told.map (·.2))).foldl (fun s q=>aD s q.1 q.2.2) l.said) p=_;rw [oB _ _ _ (qH _),c2];cases aq (eV (l.told.map (·.2))) p<;>rfl
 refine ⟨L.in_,L.md,L.nn,L.se,(fun z=>nomatch z),fun _=>⟨fun p v hp=>?_,fun p hp=>?_,fun j p u hw=>absurd rfl (c1 _ hw)⟩⟩
 ·rw [said] at hp
  rcases lg (l.told.map (·.2)) p with ⟨z,_⟩ | ⟨e,h1,h2,h3⟩
  ·rw [z] at hp; cases hp
  ·rw [h1] at hp
   cases hp;obtain ⟨j,row,h4,h5⟩:=iC.mp h2;obtain ⟨h6,h7⟩:=(c4 j row h4).wr p e h5;refine ⟨S _ _ _ _ h6,_,M,.inr ⟨e.1,j,h6,h7,fun i hi k u hk lt=>?_⟩⟩;obtain ⟨⟨i,r⟩,g1,rfl⟩:=List.mem_map.mp hi;obtain ⟨e',g2,g3⟩:=(c4 i r g1).all k p u hk lt;exact Int.le_trans g3 (h3 e' (iC.mpr ⟨i,r,g1,g2⟩))
 ·rw [said] at hp
  rcases lg (l.told.map (·.2)) p with ⟨_,z⟩ | ⟨e,h1,_⟩
  ·refine ⟨_,M,fun j hj m u hw=>?_⟩
   apply Classical.byContradiction;intro lt;obtain ⟨⟨i,r⟩,g1,rfl⟩:=List.mem_map.mp hj;have lt:¬ l.num<=m:=lt;obtain ⟨e',g2,_⟩:=(c4 i r g1).all m p u hw (by omega);exact z e' (iC.mpr ⟨i,r,g1,g2⟩)
  ·rw [h1] at hp; cases hp
theorem Sf.ask {A:PH} (S:Sf A) {own other:Int} (h0:0<=other) (h1:other < A.cnt):Sf (eQ A own other).1:=by
 unfold eQ;split
 ·exact S
 ·next l hl =>
  split
  ·exact S
  ·split
   ·exact S
   ·next s h =>
    split
    ·exact S.fall own s.prom
    ·next nlt =>
     have le:s.prom<=l.num:=by omega
     have ej:((other.toNat:Nat):Int)=other:=Int.toNat_of_nonneg h0;have hi:other.toNat < A.scrs.length:=(List.getElem?_eq_some_iff.mp h).1;refine S.calm (s':={ s with prom:=l.num }) (T:=A.stop) h le (Int.le_refl _) rfl fun o l' hg=>?_;have x:Nx own A { A with scrs:=A.scrs.set other.toNat { s with prom:=l.num },leads:=aD A.leads own (b7 A.cnt l other s.row),stop:=A.stop }:=kN h le (Int.le_refl _);rw [aK] at hg;split at hg
     ·next e =>
      cases hg; subst e
      suffices key:∀ Ls:List (Int×PLd),LdOk { A with scrs:=A.scrs.set other.toNat { s with prom:=l.num },leads:=Ls,stop:=A.stop } o (b7 A.cnt l other s.row) from key _
      intro Ls;have x:Nx o A { A with scrs:=A.scrs.set other.toNat { s with prom:=l.num },leads:=Ls,stop:=A.stop }:=kN h le (Int.le_refl _);have L:=(S.ld o l hl).nx x (.inr fun w hw=>hw) fun j t ht=>gm j t ht;unfold b7;cases ho:l.op with
      | true=>rw [if_pos rfl]; exact L
      | false =>
       rw [if_neg (by decide)];obtain ⟨c1,c2,c3,c4⟩:=L.cl ho;have L2:LdOk { A with scrs:=A.scrs.set other.toNat { s with prom:=l.num },leads:=Ls,stop:=A.stop } o { l with told:=aD l.told other s.row }:=by
        refine ⟨L.in_,L.md,L.nn,L.se,fun _=>⟨c1,c2,fg _ _ c3,fun j row hj=>?_⟩,fun z=>absurd (ho.symm.trans z) (by decide)⟩;rcases bh hj with z | ⟨z,_⟩
        ·cases z
         refine ⟨⟨h0,h1⟩,⟨_,List.getElem?_set_self hi,Int.le_refl _⟩,fun p e he=>?_,fun m p u hw _=>?_⟩
         ·have w:=S.ro _ _ h p e he
          rw [ej] at w;refine ⟨w,?_⟩;have a:=S.wp _ _ _ _ s w h;have b:=c1 _ w;show e.1 < l.num;have b:e.1≠l.num:=b;omega
         ·exact S.al _ _ h m p u (by rw [ej]; exact hw)
        ·exact c4 j row z
       have hm0:({ l with told:=aD l.told other s.row }:PLd).told=aD l.told other s.row:=rfl;split
       ·next hm =>
        have:=L2.open (fun m j p u hw=>(S.wb m j p u hw).2.2) ho hm;rw [ho] at this; exact this
       ·rw [ho] at L2; exact L2
     ·exact (S.ld o l' hg).nx x (.inr fun w hw=>hw) fun j t ht=>gm j t ht
theorem Sf.write {A:PH} (S:Sf A) {own other pl:Int} (h0:0<=other) (h1:other < A.cnt):Sf (bG A own other pl).1:=by
 unfold bG;split
 ·exact S
 ·next l hl =>
  split
  ·exact S
  ·next sy hs =>
   split
   ·exact S
   ·split
    ·exact S
    ·next s h =>
     split
     ·exact S.fall own s.prom
     ·next nlt =>
      have le:s.prom<=l.num:=by omega
      have ej:((other.toNat:Nat):Int)=other:=Int.toNat_of_nonneg h0;have hi:other.toNat < A.scrs.length:=(List.getElem?_eq_some_iff.mp h).1;have L:=S.ld own l hl;have ho:l.op=true:=by
       cases e:l.op with
       | true=>rfl
       | false=>rw [(L.cl e).2.1] at hs; cases hs
      obtain ⟨o1,o2,o3⟩:=L.op ho
      suffices key:∀ B:PH,B.cnt=A.cnt->B.scrs=A.scrs.set other.toNat { s with prom:=l.num,row:=aD s.row pl (l.num,sy) }->B.wrs=A.wrs++[(l.num,other,pl,sy)]->B.leads=aD A.leads own (ip l other pl)->Sf B from key _ rfl rfl rfl rfl
      intro B bc bs bw bl;have mem:∀ w,w∈B.wrs↔w∈A.wrs\/w=(l.num,other,pl,sy):=fun w=>by rw [bw,List.mem_append,List.mem_singleton]
      have x:Nx own A B:=by
       refine ⟨bc,fun j t ht=>?_,fun w hw=>(mem w).mpr (.inl hw),fun w hw=>((mem w).mp hw).imp id fun e=>?_⟩
       ·rw [bs]
        by_cases e:j=other.toNat
        ·subst e
         rw [h] at ht; cases ht;exact ⟨_,List.getElem?_set_self hi,le,Int.le_refl _⟩
        ·exact ⟨t,(List.getElem?_set_ne (Ne.symm e)).trans ht,Int.le_refl _,Int.le_refl _⟩
       ·subst e
        refine ⟨L.md,fun t ht=>?_⟩;have ht:A.scrs[other.toNat]? = some t:=ht;rw [h] at ht; cases ht; exact le
      have back:∀ (j:Nat) t,B.scrs[j]? = some t->∃ s,A.scrs[j]? = some s:=fun j t ht=>by rw [bs] at ht; exact gm j t ht
      refine ⟨by rw [bc]; exact S.cn,by rw [bs,List.length_set,bc]; exact S.ln,fun t ht=>?_,fun m j p u hw=>?_,fun m j p u t hw ht=>?_,?_,fun m j i p u v hu hv=>?_,fun j t ht p e he=>?_,fun j t ht m p u hw=>?_,fun m j p u hw=>?_,fun m j p u t hw ht=>?_,fun o l' hg=>?_⟩
      ·rw [bs] at ht
       obtain ⟨j,hj⟩:=List.mem_iff_getElem?.mp ht;rcases df hj with ⟨_,e,_⟩ | ⟨_,e⟩
       ·rw [e]; exact S.sm s (List.mem_of_getElem? h)
       ·exact S.sm t (List.mem_of_getElem? e)
      ·rw [bc]
       rcases (mem _).mp hw with z | z
       ·exact S.wb _ _ _ _ z
       ·cases z; exact ⟨L.nn,⟨h0,h1⟩,(o1 _ _ hs).1⟩
      ·rw [bs] at ht
       rcases (mem _).mp hw with z | z
       ·rcases df ht with ⟨e1,e,_⟩ | ⟨_,e⟩
        ·rw [e]; exact Int.le_trans (S.wp m j p u s z (by rw [e1]; exact h)) le
        ·exact S.wp m j p u t z e
       ·cases z
        rcases df ht with ⟨_,e,_⟩ | ⟨e,_⟩
        ·rw [e]; exact Int.le_refl _
        ·exact absurd rfl e
      ·rw [bw,List.pairwise_append]
       refine ⟨S.mn,List.pairwise_singleton _ _,fun a ha b hb=>?_⟩;rw [List.mem_singleton.mp hb];intro e;obtain ⟨m,j,p,u⟩:=a;have e:j=other:=e;subst e;exact Int.le_trans (S.wp m j p u s ha h) le
      ·rcases (mem _).mp hu with z | z
       ·rcases (mem _).mp hv with y | y
        ·exact S.fn _ _ _ _ _ _ z y
        ·cases y
         have:=o3 _ _ _ z;rw [hs] at this; exact (Option.some.inj this).symm
       ·cases z
        rcases (mem _).mp hv with y | y
        ·have:=o3 _ _ _ y
         rw [hs] at this; exact Option.some.inj this
        ·cases y; rfl
      ·rw [bs] at ht
       rcases df ht with ⟨e1,e2,_⟩ | ⟨_,e2⟩
       ·subst e1; subst e2
        rcases bh he with z | ⟨z,_⟩
        ·cases z; rw [ej]; exact (mem _).mpr (.inr rfl)
        ·exact (mem _).mpr (.inl (S.ro _ _ h p e z))
       ·exact (mem _).mpr (.inl (S.ro _ _ e2 p e he))
      ·rw [bs] at ht
       rcases df ht with ⟨e1,e2,_⟩ | ⟨e1,e2⟩
       ·subst e1; subst e2
        have put:∀ {q:Int×(Int×Str)},q∈s.row->q.1≠pl->q∈aD s.row pl (l.num,sy):=fun {q} hq hn=>by
         unfold aD;split
         ·exact List.mem_map.mpr ⟨q,hq,by rw [if_neg hn]⟩
         ·exact List.mem_append_left _ hq
        have self:(pl,(l.num,sy))∈aD s.row pl (l.num,sy):=bD (by rw [aK,if_pos rfl]);rcases (mem _).mp hw with z | z
        ·by_cases ep:p=pl
         ·subst ep
          exact ⟨_,self,Int.le_trans (S.wp m _ _ u s z (by rw [ej]; exact h)) le⟩
         ·obtain ⟨e,g1,g2⟩:=S.al _ _ h m p u z
          exact ⟨e,put g1 ep,g2⟩
        ·have z1:m=l.num:=congrArg (·.1) z
         have z2:p=pl:=congrArg (·.2.2.1) z;rw [z1,z2]; exact ⟨_,self,Int.le_refl _⟩
       ·rcases (mem _).mp hw with z | z
        ·exact S.al _ _ e2 m p u z
        ·have z3:(j:Int)=other:=congrArg (·.2.1) z
         exact absurd (by omega) e1
      ·rcases (mem _).mp hw with z | z
       ·exact (S.ok _ _ _ _ z).nx x
       ·cases z; exact (o1 _ _ hs).2.nx x
      ·rw [bc,bs] at ht
       rcases (mem _).mp hw with z | z
       ·rcases df ht with ⟨e1,e,_⟩ | ⟨_,e⟩
        ·rw [e]; exact S.sn m j p u s z (by rw [e1]; exact h)
        ·exact S.sn m j p u t z e
       ·cases z
        rw [L.md] at ht;rcases df ht with ⟨e1,e,_⟩ | ⟨_,e⟩
        ·rw [e]; exact L.se s (by rw [e1]; exact h)
        ·exact L.se t e
      ·rw [bl,aK] at hg
       split at hg
       ·next e =>
        cases hg; subst e;refine ⟨by rw [bc]; exact L.in_,by rw [bc]; exact L.md,L.nn,fun t ht=>?_,fun z=>absurd (ho.symm.trans z) (by decide),fun _=>⟨fun p v hp=>⟨(o1 p v hp).1,(o1 p v hp).2.nx x⟩,fun p hp=>(o2 p hp).nx x,fun j p u hw=>?_⟩⟩
        ·rw [bs] at ht
         rcases df ht with ⟨e1,e,_⟩ | ⟨_,e⟩
         ·rw [e]; exact L.se s (by rw [e1]; exact h)
         ·exact L.se t e
        ·rcases (mem _).mp hw with z | z
         ·exact o3 _ _ _ z
         ·cases z; exact hs
       ·next ne=>exact (S.ld o l' hg).nx x (.inl ne) back
theorem vj (said:List (Int×Str)):aq said (cz said)=none:=by
 unfold cz;have hex:∃ n∈List.range (said.length+1),(aq said ((n:Nat):Int)).isNone=true:=by
  apply Classical.byContradiction;intro z;have all:∀ n∈(List.range (said.length+1)).map (fun k:Nat=>(k:Int)),n∈said.map (·.1):=fun n hn=>by
   obtain ⟨k,hk,rfl⟩:=List.mem_map.mp hn;apply Classical.byContradiction;intro y;exact z ⟨k,hk,by rw [c5.mpr y]; rfl⟩
  have nd:((List.range (said.length+1)).map (fun k:Nat=>(k:Int))).Nodup:=by
   rw [List.nodup_iff_pairwise_ne,List.pairwise_map];exact List.nodup_range.imp fun h e=>h (by omega)
  have:=List.Nodup.length_le_of_subset nd all;rw [List.length_map,List.length_map,List.length_range] at this;omega
 obtain ⟨n,h1,h2⟩:=hex;cases e:(List.range (said.length+1)).find? fun n:Nat=>(aq said (n:Int)).isNone with
 | none=>exact absurd h2 (by have:=List.find?_eq_none.mp e n h1; simpa using this)
 | some k =>
  have:=List.find?_some e;exact Option.isNone_iff_eq_none.mp this
theorem Sf.step {A:PH} (S:Sf A) (d:Deed):Sf (step A d).1:=by
 have iz:∀ {i:Int},aM A i=true->0<=i/\i < A.cnt:=fun {i} h=>by
  obtain ⟨a,b⟩:=Bool.and_eq_true_iff.mp h;exact ⟨of_decide_eq_true a,of_decide_eq_true b⟩
 cases d with
 | rise o =>
  show Sf (if aM A o=true then dU A o else _).1;split
  ·next h=>exact S.rise (iz h).1 (iz h).2
  ·exact S
 | ask o p =>
  show Sf (if aM A o=true then (if aM A p=true then eQ A o p else _) else _).1;split
  ·split
   ·next h=>exact S.ask (iz h).1 (iz h).2
   ·exact S
  ·exact S
 | say o sy =>
  show Sf (if aM A o=true then fM A o sy else _).1;split
  ·exact S.say fun l _=>vj l.said
  ·exact S
 | write o p pl =>
  show Sf (if aM A o=true then (if aM A p=true then bG A o p pl else _) else _).1;split
  ·split
   ·next h=>exact S.write (iz h).1 (iz h).2
   ·exact S
  ·exact S
 | settled o =>
  show Sf (if aM A o=true then (A,b9 A o) else _).1;split<;>exact S
 | stop o =>
  show Sf (if aM A o=true then eU A o else _).1;split
  ·exact S.stop o
  ·exact S
 | wake o =>
  show Sf (if aM A o=true then eA A o else _).1;split
  ·exact S.wake o
  ·exact S
theorem Sf.start {n:Nat} (h:0 < n):Sf (init n):=by
 have ne:∀ {w},w∈(init n).wrs->False:=fun h=>nomatch h;refine ⟨by show (0:Int) < n; omega,by show ((List.replicate n uz).length:Int)=n; rw [List.length_replicate],fun s hs=>?_,fun _ _ _ _ h=>(ne h).elim,fun _ _ _ _ _ h=>(ne h).elim,.nil,fun _ _ _ _ _ _ h=>(ne h).elim,fun j s hs p e he=>?_,fun _ _ _ _ _ _ h=>(ne h).elim,fun _ _ _ _ h=>(ne h).elim,fun _ _ _ _ _ h=>(ne h).elim,fun _ _ h=>nomatch h⟩
 ·rw [(List.mem_replicate.mp hs).2]; decide
 ·rw [(List.mem_replicate.mp (List.mem_of_getElem? hs)).2] at he; exact nomatch he
theorem Sf.run {A:PH} (S:Sf A):∀ ds:List Deed,Sf (aH A ds):=by
 intro ds
 induction ds generalizing A with
 | nil=>exact S
 | cons d ds ih=>exact ih (S.step d)
theorem cZ {A:PH}{i:Int}:aM A i=true↔0<=i/\i < A.cnt:=by
 unfold aM;rw [Bool.and_eq_true,decide_eq_true_eq,decide_eq_true_eq]
theorem ji (cnt:Int) (l:PLd) (j:Int) (row:cr):(b7 cnt l j row).num=l.num:=by
 unfold b7;split
 ·rfl
 ·split<;>rfl
theorem qJ:∀ (ds:List Deed) (A:PH) {k:Nat}{d:Deed},ds[k]? = some d->(ik A ds)[k]? = some (Hl.step (aH A (ds.take k)) d).2
 | [],_,_,_,h=>by simp at h
 | e :: ds,A,0,d,h=>by simp at h; subst h; rfl
 | e :: ds,A,k+1,d,h=>by
  show (ik (Hl.step A e).1 ds)[k]? = some (Hl.step (aH (Hl.step A e).1 (ds.take k)) d).2;exact qJ ds _ (by simpa using h)
end Hl
namespace N3
section
variable {α:Type} [DecidableEq α]
noncomputable def ci (l:List Int) (s:Int):List Int:=if s∈l then l else l++[s]
noncomputable def c_ (k:α) (ws:List (α×Int)):List Int:=ws.foldl (fun l p=>if p.1=k then ci l p.2 else l) []
theorem dz (k:α) (ws:List (α×Int)) (p:α×Int):c_ k (ws++[p])=if p.1=k then ci (c_ k ws) p.2 else c_ k ws:=by
 unfold c_; rw [List.foldl_append]; rfl
noncomputable def yl (c:Int) (pre:List (α×Int)) (p:α×Int):Bool:=!decide (p.2∈c_ p.1 pre)&&(decide (2 * (((c_ p.1 pre).length:Int)+1) > c)&&!decide (2 * ((c_ p.1 pre).length:Int) > c))
noncomputable def sts (c:Int) (ws:List (α×Int)):Nat->List (α×Nat)
 | 0=>[]
 | i+1=>sts c ws i++(match ws[i]? with | some p=>if yl c (ws.take i) p then [(p.1,i+1)] else [] | none=>[])
noncomputable def cf (c:Int) (ws:List (α×Int)):Nat->List α
 | 0=>[]
 | i+1=>cf c ws i++(match ws[i]? with | some p=>if 2 * ((c_ p.1 (ws.take (i+1))).length:Int) > c/\p.1∉cf c ws i then [p.1] else [] | none=>[])
theorem i9 {β:Type}{ws:List β}{i:Nat}{p:β} (h:ws[i]? = some p):ws.take (i+1)=ws.take i++[p]:=by
 rw [List.take_add_one,h]; rfl
theorem iG (l:List Int) (s:Int):(ci l s).length=if s∈l then l.length else l.length+1:=by
 unfold ci; split<;>simp
theorem lv (c:Int) (hc:0<=c) (ws:List (α×Int)):∀ i,∀ k,k∈cf c ws i↔2 * ((c_ k (ws.take i)).length:Int) > c
 | 0,k=>by
  simp only [cf,List.not_mem_nil,false_iff,List.take_zero];show ¬ 2 * ((([]:List Int).length:Int)) > c;simp; omega
 | i+1,k=>by
  have ih:=lv c hc ws i;cases e:ws[i]? with
  | none =>
   have hl:ws.length<=i:=List.getElem?_eq_none_iff.mp e;simp only [cf,e,List.append_nil];rw [ih k,List.take_of_length_le hl,List.take_of_length_le (Nat.le_succ_of_le hl)]
  | some p =>
   have t:=i9 e;simp only [cf,e];rw [List.mem_append,ih k]
   by_cases hk:p.1=k
   ·subst hk
    have m:(c_ p.1 (ws.take i)).length<=(c_ p.1 (ws.take (i+1))).length:=by
     rw [t,dz,if_pos rfl,iG]; split<;>omega
    constructor
    ·rintro (h | h)
     ·omega
     ·split at h
      ·next h'=>exact h'.1
      ·exact nomatch h
    ·intro h
     by_cases h2:p.1∈cf c ws i
     ·exact .inl ((ih _).mp h2)
     ·right
      rw [if_pos ⟨h,h2⟩]; exact List.mem_singleton.mpr rfl
   ·have:c_ k (ws.take (i+1))=c_ k (ws.take i):=by rw [t,dz,if_neg hk]
    rw [this];constructor
    ·rintro (h | h)
     ·exact h
     ·split at h
      ·exact absurd (List.mem_singleton.mp h).symm hk
      ·exact nomatch h
    ·exact .inl
theorem lq (c:Int) (hc:0<=c) (ws:List (α×Int)):∀ i,cf c ws i=(sts c ws i).map (·.1)
 | 0=>rfl
 | i+1=>by
  have ih:=lq c hc ws i;cases e:ws[i]? with
  | none=>simp only [cf,sts,e,List.append_nil,ih]
  | some p =>
   have t:=i9 e;have f:=lv c hc ws i p.1;simp only [cf,sts,e,List.map_append,ih]
   congr 1
   have hL:c_ p.1 (ws.take (i+1))=ci (c_ p.1 (ws.take i)) p.2:=by rw [t,dz,if_pos rfl]
   have hl:=iG (c_ p.1 (ws.take i)) p.2;rw [<- hL] at hl;rw [ih] at f
   by_cases h:yl c (ws.take i) p=true
   ·rw [if_pos h]
    simp only [yl,Bool.and_eq_true,Bool.not_eq_true',decide_eq_true_eq,decide_eq_false_iff_not] at h;obtain ⟨h1,h2,h3⟩:=h;rw [if_neg h1] at hl;rw [if_pos ⟨by omega,fun z=>h3 (f.mp z)⟩]; rfl
   ·rw [if_neg h]
    rw [if_neg]; rfl;rintro ⟨h2,h3⟩;have h3:¬ 2 * ((c_ p.1 (ws.take i)).length:Int) > c:=fun z=>h3 (f.mpr z);apply h;simp only [yl,Bool.and_eq_true,Bool.not_eq_true',decide_eq_true_eq,decide_eq_false_iff_not]
    by_cases h1:p.2∈c_ p.1 (ws.take i)
    ·rw [if_pos h1] at hl; omega
    ·rw [if_neg h1] at hl; exact ⟨h1,by omega,h3⟩
theorem hX (c:Int) (ws:List (α×Int)):∀ i,(cf c ws i).Nodup
 | 0=>List.nodup_nil
 | i+1=>by
  have ih:=hX c ws i;simp only [cf];cases e:ws[i]? with
  | none=>simpa using ih
  | some p =>
   simp only;split
   ·next h =>
    rw [List.nodup_append];refine ⟨ih,by simp,fun a ha b hb=>?_⟩;have hb:b=p.1:=List.mem_singleton.mp hb;intro z; exact h.2 (by rw [<- hb,<- z]; exact ha)
   ·simpa using ih
end
section
variable {β:Type} [DecidableEq β]
noncomputable def ij (l:List β):List β:=l.foldl (fun acc x=>if x∈acc then acc else acc++[x]) []
theorem gh (l:List β) (x:β):ij (l++[x])=if x∈ij l then ij l else ij l++[x]:=by
 unfold ij; rw [List.foldl_append]; rfl
theorem dY {γ:Type}{P:List γ->Prop} (h0:P []) (h1:∀ l x,P l->P (l++[x])) (l:List γ):P l:=by
 have:∀ n (l:List γ),l.length=n->P l:=by
  intro n
  induction n with
  | zero=>intro l e; rw [List.length_eq_zero_iff.mp e]; exact h0
  | succ n ih =>
   intro l e;have hne:l≠[]:=fun z=>by rw [z] at e; simp at e
   rw [<- List.dropLast_concat_getLast hne];exact h1 _ _ (ih _ (by rw [List.length_dropLast,e]; rfl))
 exact this _ l rfl
theorem ko (l:List β) (x:β):x∈ij l↔x∈l:=by
 refine dY (P:=fun l=>x∈ij l↔x∈l) (by simp [ij]) (fun l y ih=>?_) l;rw [gh,List.mem_append,<- ih];split
 ·next h =>
  constructor
  ·exact .inl
  ·rintro (z | z)
   ·exact z
   ·rw [List.mem_singleton.mp z]; exact h
 ·rw [List.mem_append]
theorem vo (l:List β):(ij l).Nodup:=by
 refine dY (P:=fun l=>(ij l).Nodup) (by simp [ij]) (fun l y ih=>?_) l;rw [gh];split
 ·exact ih
 ·next h =>
  rw [List.nodup_append];refine ⟨ih,by simp,fun a ha b hb z=>h ?_⟩;rw [List.mem_singleton.mp hb] at z;rw [<- z]; exact ha
theorem oP (l:List β):(ij l).length<=l.length:=by
 refine dY (P:=fun l=>(ij l).length<=l.length) (Nat.le_refl _) (fun l y ih=>?_) l;rw [gh,List.length_append];split
 ·simp; omega
 ·rw [List.length_append]; simp; omega
theorem xC:∀ {xs ys:List β},xs.Nodup->ys.Nodup->(∀ z,z∈xs↔z∈ys)->xs.length=ys.length:=by
 intro xs ys h1 h2 h;exact (List.perm_ext_iff_of_nodup h1 h2).mpr h |>.length_eq
end
section
variable {α β:Type} [DecidableEq α] [DecidableEq β]
end
end N3
namespace N3
open PySem L2
abbrev Wr:=Int×Int×Int×Str
abbrev K3:=Int×Int×Str
noncomputable def vL (x:Wr):List V:=[.int x.1,.int x.2.1,.int x.2.2.1,.str x.2.2.2]
noncomputable def cG (x:Wr):K3×Int:=((x.2.2.1,x.1,x.2.2.2),x.2.1)
noncomputable def kK (k:K3):List a5:=[.inl k.1,.inl k.2.1,.inr k.2.2]
theorem wI {a b:K3} (h:kK a=kK b):a=b:=by
 obtain ⟨a1,a2,a3⟩:=a; obtain ⟨b1,b2,b3⟩:=b;simp only [kK,List.cons.injEq,Sum.inl.injEq,Sum.inr.injEq] at h;obtain ⟨h1,h2,h3,_⟩:=h;rw [h1,h2,h3]
noncomputable def uy (x:K3×Nat):List V:=[.int x.1.1,.int x.1.2.1,.str x.1.2.2,.int x.2]
noncomputable def hK (l:List Int):List (a5×V):=l.map fun s=>(Sum.inl s,V.bl true)
theorem v9 (l:List Int) (s:Int):a7 (hK l) (Sum.inl s)=if s∈l then some (.bl true) else none:=by
 induction l with
 | nil=>rfl
 | cons a l ih =>
  show a7 ((Sum.inl a,V.bl true) :: hK l) (Sum.inl s)=_
  by_cases e:a=s
  ·rw [bI (by rw [e])]; simp [e]
  ·rw [bJ (fun z=>e (Sum.inl.inj z)),ih]
   simp [Ne.symm e,eq_comm]
theorem Ba {l:List Int}{s:Int} (h:s∉l):bo (hK l) (Sum.inl s) (.bl true)=hK (l++[s]):=by
 rw [qm _ (by rw [v9,if_neg h])];unfold hK; rw [List.map_append]; rfl
theorem wL (l:List Int):(hK l).length=l.length:=by unfold hK; rw [List.length_map]
theorem zr {α:Type} [DecidableEq α] (k:α) (ws:List (α×Int)):(c_ k ws).length<=ws.length:=by
 refine dY (P:=fun ws=>(c_ k ws).length<=ws.length) (Nat.le_refl _) (fun l x ih=>?_) ws;rw [dz,List.length_append];split
 ·rw [iG]; split<;>simp<;>omega
 ·simp; omega
structure Bk (H0 H:Hp) (d:Addr) (ps:List (K3×Int)) (kvs:List (List a5×V)):Prop where
 at_:H d=some (.dT kvs)
 val:∀ k,(a7 kvs (kK k)=none/\c_ k ps=[])\/∃ a,a7 kvs (kK k)=some (.ref a)/\H0 a=none/\H a=some (.dK (hK (c_ k ps)))
 inj:∀ k k' a,a7 kvs (kK k)=some (.ref a)->a7 kvs (kK k')=some (.ref a)->k=k'
section
variable {H0 H H':Hp}{d:Addr}{ps:List (K3×Int)}{kvs:List (List a5×V)}
theorem Bk.keep (B:Bk H0 H d ps kvs) (s:aI H H'):Bk H0 H' d ps kvs :=
 ⟨s _ _ B.at_,fun k=>(B.val k).imp id fun ⟨a,h1,h2,h3⟩=>⟨a,h1,h2,s _ _ h3⟩,B.inj⟩
theorem Bk.at_key (B:Bk H0 H d ps kvs) {k:K3}{v:V} (h:a7 kvs (kK k)=some v):∃ a,v=.ref a/\H0 a=none/\H a=some (.dK (hK (c_ k ps))):=by
 rcases B.val k with ⟨z,_⟩ | ⟨a,h1,h2,h3⟩
 ·rw [h] at z; cases z
 ·rw [h] at h1; cases h1; exact ⟨a,rfl,h2,h3⟩
theorem Bk.new (B:Bk H0 H d ps kvs) {k:K3}{q:Addr} (hn:a7 kvs (kK k)=none) (hq:H q=none) (h0:H0 q=none):Bk H0 (aw (aw H q (.dK [])) d (.dT (bo kvs (kK k) (.ref q)))) d ps (bo kvs (kK k) (.ref q)):=by
 have qd:q≠d:=fun z=>by rw [z,B.at_] at hq; cases hq
 have he:c_ k ps=[]:=by
  rcases B.val k with ⟨_,z⟩ | ⟨a,h1,_⟩
  ·exact z
  ·rw [hn] at h1; cases h1
 refine ⟨upd_same,fun k1=>?_,fun k1 k2 a h1 h2=>?_⟩
 ·by_cases e:k1=k
  ·subst e
   right
   exact ⟨q,by rw [iB,if_pos rfl],h0,by rw [ad qd,upd_same,he]; rfl⟩
  ·rw [iB,if_neg (fun z=>e (wI z))]
   refine (B.val k1).imp id fun ⟨a,h1,h2,h3⟩=>⟨a,h1,h2,?_⟩;rw [ad (fZ h3 B.at_ (fun z=>nomatch z)),ad (ai h3 hq)]; exact h3
 ·rw [iB] at h1 h2
  have nq:∀ j,a7 kvs (kK j)=some (.ref a)->a≠q:=fun j h=>by
   obtain ⟨b,e,_,h3⟩:=B.at_key h;cases e; exact ai h3 hq
  by_cases e1:kK k1=kK k
  ·rw [if_pos e1] at h1
   cases h1
   by_cases e2:kK k2=kK k
   ·exact wI (e1.trans e2.symm)
   ·rw [if_neg e2] at h2; exact absurd rfl (nq _ h2)
  ·rw [if_neg e1] at h1
   by_cases e2:kK k2=kK k
   ·rw [if_pos e2] at h2
    cases h2; exact absurd rfl (nq _ h1)
   ·rw [if_neg e2] at h2; exact B.inj k1 k2 a h1 h2
theorem Bk.seen (B:Bk H0 H d ps kvs) {k:K3}{s:Int} (h:s∈c_ k ps):Bk H0 H d (ps++[(k,s)]) kvs:=by
 refine ⟨B.at_,fun k1=>?_,B.inj⟩;have e:c_ k1 (ps++[(k,s)])=c_ k1 ps:=by
  rw [dz];split
  ·next z=>have z:k=k1:=z; subst z; unfold ci; rw [if_pos h]
  ·rfl
 rw [e]; exact B.val k1
theorem Bk.hand (B:Bk H0 H d ps kvs) {k:K3}{s:Int}{a:Addr} (ha:a7 kvs (kK k)=some (.ref a)) (h:s∉c_ k ps):Bk H0 (aw H a (.dK (hK (c_ k ps++[s])))) d (ps++[(k,s)]) kvs:=by
 obtain ⟨a',e,_,h3⟩:=B.at_key ha;cases e;refine ⟨(ad (fZ B.at_ h3 (fun z=>nomatch z))).trans B.at_,fun k1=>?_,B.inj⟩;rw [dz]
 by_cases z:k=k1
 ·subst z
  rw [if_pos rfl]
  right
  obtain ⟨_,e,h2,_⟩:=B.at_key ha;cases e;exact ⟨a,ha,h2,by rw [upd_same]; unfold ci; rw [if_neg h]⟩
 ·rw [if_neg z]
  refine (B.val k1).imp id fun ⟨b,h1,h2,h4⟩=>⟨b,h1,h2,?_⟩;rw [ad (fun y=>z (B.inj _ _ _ ha (by rw [<- y]; exact h1)))]; exact h4
theorem Bk.setd {p q:Addr}{k:K3}{Q:VK} (B:Bk H0 H d ps kvs) (hp:H p=some (.tup ((kK k).map kV))) (hq:H q=none) (h0:aI H0 H) (hz:kvs.length<=1000)
  (kk:∀ a kv2 H2,Bk H0 H2 d ps kv2->a7 kv2 (kK k)=some (.ref a)->kv2.length<=kvs.length+1->(∀ b u,H b=some u->b≠d->H2 b=some u)->Q (.ref a) H2):Am (.ref d) [.ref p,.ref q] (aw H q (.dK [])) Q:=by
 have s1:=am (o:=.dK []) hq;have q0:H0 q=none:=by
  cases e:H0 q with
  | none=>rfl
  | some u=>rw [h0 _ _ e] at hq; cases hq
 refine ⟨_,kvs,kK k,p,.ref q,rfl,s1 _ _ B.at_,rfl,s1 _ _ hp,aE hz,fun u hu=>?_,fun hn=>?_⟩
 ·obtain ⟨a,e,_,_⟩:=B.at_key hu
  subst e;exact kk a kvs _ (B.keep s1) hu (Nat.le_succ _) fun b u e _=>s1 _ _ e
 ·refine kk q _ _ (B.new hn hq q0) (by rw [iB,if_pos rfl]) (c6 _ _ _) fun b u e hb=>?_
  rw [ad hb]; exact s1 _ _ e
end
noncomputable def DW:List a5->K3×Nat
 | [.inl p,.inl n,.inr s,.inl t]=>((p,n,s),t.toNat)
 | _=>((0,0,""),0)
noncomputable def AF (x:K3×Nat):List a5:=kK x.1++[.inl (x.2:Int)]
theorem x9 (x:K3×Nat):DW (AF x)=x:=rfl
theorem C_ {α β:Type}{f:α->β}{g:β->α} (gf:∀ x,g (f x)=x) {rows:List β}{xs:List α} (p:rows.Perm (xs.map f)):∃ ys:List α,rows=ys.map f/\ys.Perm xs:=by
 refine ⟨rows.map g,?_,?_⟩
 ·rw [List.map_map]
  symm
  conv=>rhs; rw [<- List.map_id rows]
  refine List.map_congr_left fun r hr=>?_;obtain ⟨x,_,rfl⟩:=List.mem_map.mp (p.mem_iff.mp hr);show f (g (f x))=f x;rw [gf]
 ·have:=p.map g
  rw [List.map_map] at this;have e:xs.map (g ∘ f)=xs:=by
   conv=>rhs; rw [<- List.map_id xs]
   exact List.map_congr_left fun x _=>gf x
  rw [e] at this; exact this
abbrev vQ (ks:List K3):Prop:=ks.Pairwise (fun a b=>_root_.Own.c7 (kK b) (kK a)=false)
theorem u9 {a b:K3}{s t:a5} (h:_root_.Own.c7 (kK b++[t]) (kK a++[s])=false):_root_.Own.c7 (kK b) (kK a)=false:=by
 obtain ⟨a1,a2,a3⟩:=a; obtain ⟨b1,b2,b3⟩:=b;simp only [kK,List.cons_append,List.nil_append,_root_.Own.c7] at h ⊢;split at h
 ·next e =>
  rw [if_pos e];split at h
  ·next e =>
   rw [if_pos e];split at h
   ·next e=>rw [if_pos e]
   ·next e=>rw [if_neg e]; exact h
  ·next e=>rw [if_neg e]; exact h
 ·next e=>rw [if_neg e]; exact h
theorem u4 {xs:List (K3×Nat)} (h:(xs.map AF).Pairwise (fun a b=>_root_.Own.c7 b a=false)):vQ (xs.map (·.1)):=by
 rw [List.pairwise_map] at h;show ((xs.map (·.1)).Pairwise _);rw [List.pairwise_map];exact h.imp fun z=>u9 z
noncomputable def pM (k:K3):Int×Str:=(k.1,k.2.2)
noncomputable def pK (p:Int×Str):List a5:=[.inl p.1,.inr p.2]
theorem Bi {a b:Int×Str} (h:pK a=pK b):a=b:=by
 obtain ⟨a1,a2⟩:=a; obtain ⟨b1,b2⟩:=b;simp only [pK,List.cons.injEq,Sum.inl.injEq,Sum.inr.injEq] at h;obtain ⟨h1,h2,_⟩:=h;rw [h1,h2]
noncomputable def pT (l:List (Int×Str)):List (List a5×V):=l.map fun p=>(pK p,V.bl true)
theorem v8 (l:List (Int×Str)) (p:Int×Str):a7 (pT l) (pK p)=if p∈l then some (.bl true) else none:=by
 induction l with
 | nil=>rfl
 | cons a l ih =>
  show a7 ((pK a,V.bl true) :: pT l) (pK p)=_
  by_cases e:a=p
  ·rw [bI (by rw [e])]; simp [e]
  ·rw [bJ (fun z=>e (Bi z)),ih]
   simp [Ne.symm e,eq_comm]
theorem A_ (l:List (Int×Str)) (p:Int×Str):bo (pT l) (pK p) (.bl true)=pT (if p∈l then l else l++[p]):=by
 by_cases h:p∈l
 ·rw [if_pos h]
  unfold bo;rw [if_pos (by rw [fE,v8,if_pos h]; rfl)];unfold pT;rw [List.map_map];refine List.map_congr_left fun x _=>?_;simp only [Function.comp];split<;>rfl
 ·rw [if_neg h,qm _ (by rw [v8,if_neg h])]
  unfold pT; rw [List.map_append]; rfl
theorem yT (l:List (Int×Str)) (p:Int×Str):bo (pT (ij l)) (pK p) (.bl true)=pT (ij (l++[p])):=by
 rw [A_,gh]
 by_cases h:p∈ij l
 ·rw [if_pos h,if_pos h]
 ·rw [if_neg h,if_neg h]
theorem uS {H H':Hp}{l:List (Int×Str)}{us:List V} (P:Paired (rS H) ((pT l).map (·.1)) us) (s:aI H H'):_root_.Own.Rows H' us (l.map fun p=>(pK p).map kV):=by
 have hl:l.length=us.length:=by have:=Paired.length P; simpa [pT] using this
 refine cc (by rw [List.length_map]; exact hl.symm) fun j u r h1 h2=>?_;rw [List.getElem?_map] at h2;cases e:l[j]? with
 | none=>rw [e] at h2; cases h2
 | some p =>
  rw [e] at h2; cases h2;obtain ⟨b,e1,e2⟩:=bn (show Paired _ _ _ from P) (show _=some (pK p) by unfold pT; rw [List.map_map,List.getElem?_map,e]; rfl) h1;exact ⟨b,e1,s _ _ e2⟩
end N3
namespace Hl
open PySem L2
noncomputable def gx (A:PH):Prop:=∀ o l,aq A.leads o=some l->(l.hands.map (·.1)).Nodup/\∀ p,(aq l.hands p=none/\∀ j u,(l.num,j,p,u)∉A.wrs)\/∃ js,aq l.hands p=some js/\js.Nodup/\∀ j,j∈js↔∃ u,(l.num,j,p,u)∈A.wrs
theorem gx.start (n:Nat):gx (init n):=fun _ _ h=>nomatch h
theorem gx.calm {A B:PH} (X:gx A) (hw:B.wrs=A.wrs) (hl:∀ o l,aq B.leads o=some l->(∃ l',aq A.leads o=some l'/\l'.num=l.num/\l'.hands=l.hands)\/(l.hands=[]/\∀ w∈A.wrs,w.1≠l.num)):gx B:=fun o l h=>by
 rw [hw];rcases hl o l h with ⟨l',h1,h2,h3⟩ | ⟨h1,h2⟩
 ·rw [<- h2,<- h3]; exact X o l' h1
 ·rw [h1]; exact ⟨.nil,fun p=>.inl ⟨rfl,fun j u hm=>h2 _ hm rfl⟩⟩
theorem re (cnt:Int) (l:PLd) (j:Int) (row:cr):(b7 cnt l j row).hands=l.hands:=by
 unfold b7;split
 ·rfl
 ·split<;>rfl
theorem gx.drop {A B:PH} (X:gx A) {o:Int} (hw:B.wrs=A.wrs) (hl:B.leads=bY A.leads o):gx B:=X.calm hw fun j l h=>by
 rw [hl,fV] at h;split at h
 ·cases h
 ·exact .inl ⟨l,h,rfl,rfl⟩
theorem gx.fall {A:PH} (X:gx A) (o n:Int):gx (de A o n):=by
 unfold de;split
 ·exact X
 ·exact X.drop rfl rfl
theorem gx.put {A B:PH} (X:gx A) {o:Int}{l l':PLd} (hl:aq A.leads o=some l) (hn:l'.num=l.num) (hh:l'.hands=l.hands) (hw:B.wrs=A.wrs) (hb:B.leads=aD A.leads o l'):gx B:=X.calm hw fun j k h=>by
 rw [hb,aK] at h;split at h
 ·next e=>cases h; exact .inl ⟨l,by rw [e]; exact hl,hn.symm,hh.symm⟩
 ·exact .inl ⟨k,h,rfl,rfl⟩
theorem xz {l:List Int}{j k:Int}:k∈ci l j↔k∈l\/k=j:=by
 unfold ci;split
 ·next h=>exact ⟨.inl,fun z=>z.elim id fun e=>e ▸ h⟩
 ·rw [List.mem_append,List.mem_singleton]
theorem zN {l:List Int} (j:Int) (h:l.Nodup):(ci l j).Nodup:=by
 unfold ci;split
 ·exact h
 ·exact ke h ‹_›
theorem gx.step {A:PH} (X:gx A) (S:Sf A) (d:Deed):gx (Hl.step A d).1:=by
 cases d with
 | rise o =>
  have S':=S.step (.rise o);show gx (if aM A o=true then dU A o else _).1;have e0:(Hl.step A (Deed.rise o)).1=(if aM A o=true then dU A o else (A,.str "no scribe")).1:=rfl;split
  ·next ho =>
   rw [e0,if_pos ho] at S';unfold dU at S' ⊢;split
   ·exact X
   ·next hs =>
    rw [if_neg hs] at S';split
    ·exact X
    ·next s h =>
     rw [h] at S';refine X.calm rfl fun j l hg=>?_;have L:=S'.ld j l hg;have hg:aq (aD A.leads o _) j=some l:=hg;rw [aK] at hg;split at hg
     ·cases hg; exact .inr ⟨rfl,(L.cl rfl).1⟩
     ·exact .inl ⟨l,hg,rfl,rfl⟩
  ·exact X
 | ask o p =>
  show gx (if aM A o=true then (if aM A p=true then eQ A o p else _) else _).1;split
  ·split
   ·unfold eQ
    split
    ·exact X
    ·next l hl =>
     split
     ·exact X
     ·split
      ·exact X
      ·split
       ·exact X.fall _ _
       ·exact X.put hl (ji _ _ _ _) (re _ _ _ _) rfl rfl
   ·exact X
  ·exact X
 | say o sy =>
  show gx (if aM A o=true then fM A o sy else _).1;split
  ·unfold fM
   split
   ·exact X
   ·next l hl =>
    split
    ·exact X.put hl (l':=pQ l sy) rfl rfl rfl rfl
    ·exact X
  ·exact X
 | write o p pl =>
  show gx (if aM A o=true then (if aM A p=true then bG A o p pl else _) else _).1;split
  ·split
   ·unfold bG
    split
    ·exact X
    ·next l hl =>
     split
     ·exact X
     ·next sy hs =>
      split
      ·exact X
      ·split
       ·exact X
       ·split
        ·exact X.fall _ _
        ·intro j k hk
         have hk:aq (aD A.leads o (ip l p pl)) j=some k:=hk;have mem:∀ w,w∈A.wrs++[(l.num,p,pl,sy)]↔w∈A.wrs\/w=(l.num,p,pl,sy):=fun w=>by rw [List.mem_append,List.mem_singleton]
         show (k.hands.map (·.1)).Nodup/\∀ q,(aq k.hands q=none/\∀ j u,(k.num,j,q,u)∉A.wrs++[(l.num,p,pl,sy)])\/∃ js,aq k.hands q=some js/\js.Nodup/\∀ j,j∈js↔∃ u,(k.num,j,q,u)∈A.wrs++[(l.num,p,pl,sy)];rw [aK] at hk;split at hk
         ·cases hk
          obtain ⟨x1,x2⟩:=X o l hl;refine ⟨fg _ _ x1,fun q=>?_⟩;show (aq (aD l.hands pl (ci ((aq l.hands pl).getD []) p)) q=none/\∀ j u,(l.num,j,q,u)∉_)\/∃ js,aq (aD l.hands pl (ci ((aq l.hands pl).getD []) p)) q=some js/\js.Nodup/\∀ j,j∈js↔∃ u,(l.num,j,q,u)∈_;rw [aK]
          by_cases e:q=pl
          ·subst e
           right
           rw [if_pos rfl];have hj:((aq l.hands q).getD []).Nodup/\∀ j,j∈(aq l.hands q).getD []↔∃ u,(l.num,j,q,u)∈A.wrs:=by
            rcases x2 q with ⟨y1,y2⟩ | ⟨js,y1,y2,y3⟩
            ·rw [y1]; exact ⟨.nil,fun j=>⟨(fun z=>nomatch z),fun ⟨u,hu⟩=>absurd hu (y2 j u)⟩⟩
            ·rw [y1]; exact ⟨y2,y3⟩
           refine ⟨_,rfl,zN _ hj.1,fun j=>?_⟩;rw [xz,hj.2];constructor
           ·rintro (⟨u,hu⟩ | rfl)
            ·exact ⟨u,(mem _).mpr (.inl hu)⟩
            ·exact ⟨sy,(mem _).mpr (.inr rfl)⟩
           ·rintro ⟨u,hu⟩
            rcases (mem _).mp hu with z | z
            ·exact .inl ⟨u,z⟩
            ·cases z; exact .inr rfl
          ·rw [if_neg e]
           have no:∀ j u,(l.num,j,q,u)∈A.wrs++[(l.num,p,pl,sy)]↔(l.num,j,q,u)∈A.wrs:=fun j u=>by
            rw [mem];exact ⟨fun z=>z.elim id fun w=>absurd (congrArg (·.2.2.1) w) e,.inl⟩
           rcases x2 q with ⟨y1,y2⟩ | ⟨js,y1,y2,y3⟩
           ·exact .inl ⟨y1,fun j u hm=>y2 j u ((no j u).mp hm)⟩
           ·exact .inr ⟨js,y1,y2,fun j=>by rw [y3]; exact ⟨fun ⟨u,hu⟩=>⟨u,(no j u).mpr hu⟩,fun ⟨u,hu⟩=>⟨u,(no j u).mp hu⟩⟩⟩
         ·next ne =>
          obtain ⟨x1,x2⟩:=X j k hk;have nn:k.num≠l.num:=fun z=>ne (by rw [<- (S.ld j k hk).md,z,(S.ld o l hl).md]);have no:∀ i q u,(k.num,i,q,u)∈A.wrs++[(l.num,p,pl,sy)]↔(k.num,i,q,u)∈A.wrs:=fun i q u=>by
           rw [mem];exact ⟨fun z=>z.elim id fun w=>absurd (congrArg (·.1) w) nn,.inl⟩
          refine ⟨x1,fun q=>?_⟩;rcases x2 q with ⟨y1,y2⟩ | ⟨js,y1,y2,y3⟩
          ·exact .inl ⟨y1,fun j u hm=>y2 j u ((no j q u).mp hm)⟩
          ·exact .inr ⟨js,y1,y2,fun j=>by rw [y3]; exact ⟨fun ⟨u,hu⟩=>⟨u,(no j q u).mpr hu⟩,fun ⟨u,hu⟩=>⟨u,(no j q u).mp hu⟩⟩⟩
   ·exact X
  ·exact X
 | settled o =>
  show gx (if aM A o=true then (A,b9 A o) else _).1;split<;>exact X
 | stop o =>
  show gx (if aM A o=true then eU A o else _).1;split
  ·unfold eU
   split
   ·exact X
   ·exact X.drop rfl rfl
  ·exact X
 | wake o =>
  show gx (if aM A o=true then eA A o else _).1;split
  ·unfold eA
   split
   ·exact X.calm rfl fun j l h=>.inl ⟨l,h,rfl,rfl⟩
   ·exact X
  ·exact X
theorem gx.run {A:PH} (X:gx A) (S:Sf A):∀ ds:List Deed,gx (aH A ds):=by
 intro ds
 induction ds generalizing A with
 | nil=>exact X
 | cons d ds ih=>exact ih (X.step S d) (S.step d)
end Hl
namespace Hl
open PySem L2 N3
theorem fO {α:Type} [DecidableEq α] (k:α) (ws:List (α×Int)):∀ j,j∈c_ k ws↔(k,j)∈ws:=by
 refine dY (P:=fun ws=>∀ j,j∈c_ k ws↔(k,j)∈ws) (fun j=>⟨(fun z=>nomatch z),(fun z=>nomatch z)⟩) (fun l x ih j=>?_) ws;rw [dz,List.mem_append,List.mem_singleton];split
 ·next e =>
  have:j∈N3.ci (c_ k l) x.2↔j∈c_ k l\/j=x.2:=by
   unfold N3.ci;split
   ·next h=>exact ⟨.inl,fun z=>z.elim id fun e=>e ▸ h⟩
   ·rw [List.mem_append,List.mem_singleton]
  rw [this,ih];refine or_congr Iff.rfl ⟨fun h=>?_,fun h=>?_⟩
  ·rw [h,<- e]
  ·rw [<- h]
 ·next e =>
  rw [ih];exact ⟨.inl,fun z=>z.elim id fun h=>absurd (by rw [<- h]) e⟩
theorem rN {α:Type} [DecidableEq α] (k:α) (ws:List (α×Int)):(c_ k ws).Nodup:=by
 refine dY (P:=fun ws=>(c_ k ws).Nodup) .nil (fun l x ih=>?_) ws;rw [dz];split
 ·unfold N3.ci
  split
  ·exact ih
  ·exact ke ih ‹_›
 ·exact ih
theorem fP {ws:List Wr}{m j p:Int}{u:Str}:((p,m,u),j)∈ws.map cG↔(m,j,p,u)∈ws:=by
 rw [List.mem_map];constructor
 ·rintro ⟨⟨m',j',p',u'⟩,h,e⟩
  have e:((p',m',u'),j')=((p,m,u),j):=e;cases e; exact h
 ·intro h; exact ⟨_,h,rfl⟩
theorem d5 {c:Int} (hc:0<=c) {ws:List Wr}{m p:Int}{u:Str}:(p,m,u)∈cf c (ws.map cG) ws.length↔c < 2 * ((c_ (p,m,u) (ws.map cG)).length:Int):=by
 rw [lv c hc,List.take_of_length_le (by rw [List.length_map]; exact Nat.le_refl _)]
theorem xN {β:Type}{l:List (Int×β)}{k:Int}:k∈l.map (·.1)↔(aq l k).isSome=true:=by
 cases h:aq l k with
 | none=>exact ⟨fun z=>absurd z (c5.mp h),fun z=>nomatch z⟩
 | some x=>exact ⟨fun _=>rfl,fun _=>List.mem_map.mpr ⟨_,bD h,rfl⟩⟩
theorem gx.known {A:PH} (X:gx A) (S:Sf A) {o:Int}{l:PLd} (hl:aq A.leads o=some l) (sp:(gJ (l.hands.map (·.1))).Perm (l.hands.map (·.1))) :
  (dj A.cnt l).Perm (((cf A.cnt (A.wrs.map cG) A.wrs.length).filter fun k=>decide (k.2.1=l.num)).map pM):=by
 obtain ⟨x1,x2⟩:=X o l hl;have L:=S.ld o l hl;have cn:=S.cn;have said:∀ j p u,(l.num,j,p,u)∈A.wrs->aq l.said p=some u:=fun j p u h=>by
  cases ho:l.op with
  | true=>exact (L.op ho).2.2 j p u h
  | false=>exact absurd rfl ((L.cl ho).1 _ h)
 have nd1:(dj A.cnt l).Nodup:=by
  unfold dj
  have:((gJ (l.hands.map (·.1))).filter fun pl=>cw A.cnt ((aq l.hands pl).getD []).length).Nodup:=List.Nodup.sublist List.filter_sublist (sp.nodup_iff.mpr x1)
  rw [List.nodup_iff_pairwise_ne,List.pairwise_map];exact this.imp fun h e=>h (congrArg (·.1) e)
 have an:=hX A.cnt (A.wrs.map cG) A.wrs.length;have nd2:(((cf A.cnt (A.wrs.map cG) A.wrs.length).filter fun k=>decide (k.2.1=l.num)).map pM).Nodup:=by
  rw [List.nodup_iff_pairwise_ne,List.pairwise_map];have h:=List.Nodup.sublist (List.filter_sublist (p:=fun k:K3=>decide (k.2.1=l.num))) an;refine List.Pairwise.imp_of_mem (fun {a b} ha hb h e=>h ?_) h;have ea:=of_decide_eq_true (List.mem_filter.mp ha).2;have eb:=of_decide_eq_true (List.mem_filter.mp hb).2;obtain ⟨a1,a2,a3⟩:=a;obtain ⟨b1,b2,b3⟩:=b;have e:(a1,a3)=(b1,b3):=e;cases e;have ea:a2=l.num:=ea;have eb:b2=l.num:=eb;rw [ea,eb]
 rw [List.perm_ext_iff_of_nodup nd1 nd2];rintro ⟨p,u⟩;unfold dj;rw [List.mem_map,List.mem_map];have same:∀ js:List Int,js.Nodup->(∀ j,j∈js↔∃ u,(l.num,j,p,u)∈A.wrs)->∀ u,aq l.said p=some u->js.length=(c_ (p,l.num,u) (A.wrs.map cG)).length:=fun js h1 h2 u hu=>by
  refine xC h1 (rN _ _) fun j=>?_;rw [h2,fO,fP];constructor
  ·rintro ⟨v,hv⟩
   have:=said j p v hv;rw [hu] at this; cases this; exact hv
  ·intro h; exact ⟨u,h⟩
 constructor
 ·rintro ⟨q,hq,e⟩
  have e1:q=p:=congrArg (·.1) e;subst e1;have e2:(aq l.said q).getD "" = u:=congrArg (·.2) e;subst e2;clear e;obtain ⟨h1,h2⟩:=List.mem_filter.mp hq;have h1:=sp.mem_iff.mp h1;obtain ⟨js,y1,y2,y3⟩:∃ js,aq l.hands q=some js/\js.Nodup/\∀ j,j∈js↔∃ u,(l.num,j,q,u)∈A.wrs:=by
   rcases x2 q with ⟨y1,_⟩ | y
   ·exact absurd h1 (c5.mp y1)
   ·exact y
  rw [y1] at h2;have big:A.cnt < 2 * (js.length:Int):=of_decide_eq_true h2;obtain ⟨j,hj⟩:∃ j,j∈js:=by
   cases js with
   | nil=>simp at big; omega
   | cons j r=>exact ⟨j,List.mem_cons_self⟩
  obtain ⟨u,hu⟩:=(y3 j).mp hj;have su:=said j q u hu;rw [su];refine ⟨(q,l.num,u),List.mem_filter.mpr ⟨(d5 (by omega)).mpr ?_,decide_eq_true rfl⟩,rfl⟩;rw [<- same js y2 y3 u su]; exact big
 ·rintro ⟨⟨q,m,v⟩,hk,e⟩
  have e:(q,v)=(p,u):=e;cases e;obtain ⟨h1,h2⟩:=List.mem_filter.mp hk;have h2:m=l.num:=of_decide_eq_true h2;subst h2;have big:=(d5 (by omega)).mp h1;obtain ⟨j,hj⟩:∃ j,j∈c_ (p,l.num,u) (A.wrs.map cG):=by
   cases e:c_ (p,l.num,u) (A.wrs.map cG) with
   | nil=>rw [e] at big; simp at big; omega
   | cons j r=>exact ⟨j,List.mem_cons_self⟩
  have hj:=fP.mp ((fO _ _ j).mp hj);have su:=said j p u hj;rcases x2 p with ⟨_,y2⟩ | ⟨js,y1,y2,y3⟩
  ·exact absurd hj (y2 j u)
  ·refine ⟨p,List.mem_filter.mpr ⟨sp.mem_iff.mpr (xN.mpr (by rw [y1]; rfl)),?_⟩,by rw [su]; rfl⟩
   rw [y1];refine decide_eq_true ?_;have:=same js y2 y3 u su;show A.cnt < 2 * ((js.length:Nat):Int);rw [this]; exact big
theorem sL {A:PH}{W:Int->Str->Prop} (hw:∀ m j p u,(m,j,p,u)∈A.wrs->W p u) (S:Sf A) {o:Int}{l:PLd} (hl:aq A.leads o=some l) (old:∀ p u,aq l.said p=some u->W p u) (cnt j:Int) {row:cr} (hr:∀ p e,(p,e)∈row->W p e.2):∀ p u,aq (b7 cnt l j row).said p=some u->W p u:=by
 have L:=S.ld o l hl;unfold b7;cases ho:l.op with
 | true=>rw [if_pos rfl]; exact old
 | false =>
  rw [if_neg (by decide)];obtain ⟨c1,c2,c3,c4⟩:=L.cl ho;split
  ·intro p u hu
   have hu:aq ((eV ((aD l.told j row).map (·.2))).foldl (fun s q=>aD s q.1 q.2.2) l.said) p=some u:=hu;rw [oB _ _ _ (qH _),c2] at hu;rcases lg ((aD l.told j row).map (·.2)) p with ⟨z,_⟩ | ⟨e,h1,h2,_⟩
   ·rw [z] at hu; cases hu
   ·rw [h1] at hu
    cases hu;obtain ⟨i,r,h4,h5⟩:=iC.mp h2;rcases bh h4 with z | ⟨z,_⟩
    ·cases z; exact hr p e h5
    ·exact hw _ _ _ _ ((c4 i r z).wr p e h5).1
  ·intro p u hu
   have hu:aq l.said p=some u:=hu;rw [c2] at hu; cases hu
theorem k_ {α:Type} [DecidableEq α] {k:α}{ws:List (α×Int)}{c:Int} (hc:0<=c) (h:c < 2 * ((c_ k ws).length:Int)):∃ j,(k,j)∈ws:=by
 cases e:c_ k ws with
 | nil=>rw [e] at h; simp at h; omega
 | cons j r=>exact ⟨j,(fO k ws j).mp (by rw [e]; exact List.mem_cons_self)⟩
theorem Sf.one {A:PH} (S:Sf A) {p m m':Int}{u u':Str} (h:(p,m,u)∈cf A.cnt (A.wrs.map cG) A.wrs.length) (h':(p,m',u')∈cf A.cnt (A.wrs.map cG) A.wrs.length):u=u':=by
 have cn:=S.cn;have key:∀ {m m':Int}{u u':Str},m<=m'->(p,m,u)∈cf A.cnt (A.wrs.map cG) A.wrs.length->(p,m',u')∈cf A.cnt (A.wrs.map cG) A.wrs.length->u'=u:=fun {m m' u u'} le h h'=>by
  have b:=(d5 (by omega)).mp h;have b':=(d5 (by omega)).mp h';obtain ⟨j,hj⟩:=k_ (by omega) b;obtain ⟨j',hj'⟩:=k_ (by omega) b';exact S.safe (rN (p,m,u) (A.wrs.map cG)) (fun j hj=>⟨u,fP.mp ((fO _ _ j).mp hj)⟩) b (fP.mp hj) (m' - m).toNat m' j' u' (fP.mp hj') (by omega)
 rcases Int.le_total m m' with le | le
 ·exact (key le h h').symm
 ·exact key le h' h
theorem zq {α:Type} [DecidableEq α]:∀ (ks:List α) (ws:List (α×Int)),ks.Nodup->(ks.map fun k=>(c_ k ws).length).sum<=ws.length:=by
 intro ks ws;refine dY (P:=fun ws=>ks.Nodup->(ks.map fun k=>(c_ k ws).length).sum<=ws.length) (fun _=>?_) (fun l x ih nd=>?_) ws
 ·have z:∀ r:List α,(r.map fun k=>(c_ k ([]:List (α×Int))).length).sum=0:=by
   intro r
   induction r with
   | nil=>rfl
   | cons k r ih=>rw [List.map_cons,List.sum_cons,ih]; rfl
  rw [z]; exact Nat.zero_le _
 ·have ih:=ih nd
  rw [List.length_append,List.length_singleton];have key:∀ ks:List α,ks.Nodup->(ks.map fun k=>(c_ k (l++[x])).length).sum<=(ks.map fun k=>(c_ k l).length).sum+(if x.1∈ks then 1 else 0):=by
   intro ks
   induction ks with
   | nil=>intro _; simp
   | cons k r ihr =>
    intro nd;obtain ⟨n1,n2⟩:=List.nodup_cons.mp nd;have:=ihr n2;rw [List.map_cons,List.map_cons,List.sum_cons,List.sum_cons,dz]
    by_cases e:x.1=k
    ·have:x.1∉r:=by rw [e]; exact n1
     have h3:=ihr n2;rw [if_neg this] at h3;rw [if_pos e,if_pos (by rw [e]; exact List.mem_cons_self),iG];split<;>omega
    ·rw [if_neg e]
     have:(x.1∈k :: r)↔x.1∈r:=by rw [List.mem_cons]; exact ⟨fun z=>z.elim (fun z=>absurd z e) id,.inr⟩
     simp only [this];omega
  have:=key ks nd;split at this<;>omega
theorem yi {c:Int} (hc:0<=c) (ws:List Wr) (m:Nat) (hm:(m:Int) * 2<=c+2):(cf c (ws.map cG) ws.length).length * m<=ws.length:=by
 have h:=zq (cf c (ws.map cG) ws.length) (ws.map cG) (hX _ _ _);rw [List.length_map] at h;refine Nat.le_trans ?_ h;have key:∀ ks:List K3,(∀ k∈ks,m<=(c_ k (ws.map cG)).length)->ks.length * m<=(ks.map fun k=>(c_ k (ws.map cG)).length).sum:=by
  intro ks
  induction ks with
  | nil=>intro _; simp
  | cons k r ih =>
   intro h;rw [List.map_cons,List.sum_cons,List.length_cons,Nat.succ_mul];have h1:=ih fun x hx=>h x (List.mem_cons_of_mem _ hx);have h2:=h k List.mem_cons_self;omega
 refine key _ fun k hk=>?_;obtain ⟨p,n,u⟩:=k;have:=(d5 hc).mp hk;omega
end Hl
namespace Hl
open PySem L2
noncomputable def vN:Deed->List a5
 | .rise o=>[.inr "rise",.inl o]
 | .ask o p=>[.inr "ask",.inl o,.inl p]
 | .say o s=>[.inr "say",.inl o,.inr s]
 | .write o p q=>[.inr "write",.inl o,.inl p,.inl q]
 | .settled o=>[.inr "settled",.inl o]
 | .stop o=>[.inr "stop",.inl o]
 | .wake o=>[.inr "wake",.inl o]
theorem A9 (d:Deed):(vN d).map kV=d.rowV:=by cases d<;>rfl
end Hl
namespace Hl
open PySem L2 N3
theorem zF {β:Type} [DecidableEq β] (l:List β):(ij l).Sublist l:=by
 refine dY (P:=fun l=>(ij l).Sublist l) List.Sublist.slnil (fun l x ih=>?_) l;rw [gh];split
 ·exact ih.trans (List.sublist_append_left l [x])
 ·exact ih.append (List.Sublist.refl _)
theorem Bl {ks:List K3} (h:vQ ks):ks.Pairwise (fun a b=>a.1<=b.1):=by
 refine List.Pairwise.imp (fun {a b} z=>?_) h;obtain ⟨a1,a2,a3⟩:=a;obtain ⟨b1,b2,b3⟩:=b
 by_cases e:b1=a1
 ·show a1<=b1; omega
 ·have z:(if (Sum.inl b1:a5)=Sum.inl a1 then _ else _root_.Own.n8 (Sum.inl b1) (Sum.inl a1))=false:=z
  rw [if_neg (fun y=>e (Sum.inl.inj y))] at z;have z:=of_decide_eq_false (show decide (b1 < a1)=false from z);show a1<=b1;omega
theorem BN {ks AL:List K3} (hp:ks.Perm AL) (h:vQ ks) (one:∀ p m m' u u',(p,m,u)∈AL->(p,m',u')∈AL->u=u'):(ij (ks.map pM)).Pairwise (fun a b=>a.1 < b.1):=by
 have h1:(ks.map pM).Pairwise (fun a b=>a.1<=b.1):=by rw [List.pairwise_map]; exact Bl h
 have h2:=List.Pairwise.sublist (zF (ks.map pM)) h1;have h3:=List.nodup_iff_pairwise_ne.mp (vo (ks.map pM));refine List.Pairwise.imp_of_mem (fun {a b} ha hb z=>?_) (h2.and h3);obtain ⟨⟨p,m,u⟩,k1,e1⟩:=List.mem_map.mp ((ko _ _).mp ha);obtain ⟨⟨p',m',u'⟩,k2,e2⟩:=List.mem_map.mp ((ko _ _).mp hb);have e1:(p,u)=a:=e1;have e2:(p',u')=b:=e2;subst e1 e2;have z1:p<=p':=z.1;show p < p'
 by_cases e:p=p'
 ·subst e
  have:=one p m m' u u' (hp.mem_iff.mp k1) (hp.mem_iff.mp k2);subst this;exact absurd rfl z.2
 ·omega
noncomputable def cJ (A:PH) (j:Int):Int:=((A.scrs[j.toNat]?).map (·.prom)).getD 0
noncomputable def dJ (A:PH) (j:Int):Int:=((A.scrs[j.toNat]?).map (·.seen)).getD 0
noncomputable def pO (A:PH) (own:Int) (M:List Int):Nat:=M.countP fun j=>decide (dJ A own < cJ A j)
theorem nN {α:Type}{p q:α->Bool}:∀ {l:List α},(∀ x∈l,q x=true->p x=true)->(∃ x∈l,p x=true/\q x=false)->l.countP q < l.countP p
 | [],_,⟨x,h,_⟩=>nomatch h
 | a :: l,h,⟨x,hx,h1,h2⟩=>by
  have hl:∀ x∈l,q x=true->p x=true:=fun x hx=>h x (List.mem_cons_of_mem _ hx);have le:l.countP q<=l.countP p:=List.countP_mono_left hl;rw [List.countP_cons,List.countP_cons];rcases List.mem_cons.mp hx with z | z
  ·subst z; rw [if_pos h1,if_neg (by rw [h2]; decide)]; omega
  ·have:=nN hl ⟨x,z,h1,h2⟩
   by_cases e:q a=true
   ·rw [if_pos e,if_pos (h a List.mem_cons_self e)]; omega
   ·rw [if_neg e]; split<;>omega
structure Few (n own:Int) (M:List Int):Prop where
 nd:M.Nodup
 in_:∀ j∈M,0<=j/\j < n
 own:own∈M
 big:n < 2 * (M.length:Int)
theorem uL {A:PH} (S:Sf A) {o:Int} (h0:0<=o) (h1:o < A.cnt) (hs:o∉A.stop):∃ s,A.scrs[o.toNat]? = some s/\step A (.rise o)=({ A with scrs:=A.scrs.set o.toNat { s with seen:=bx A.cnt o s.seen },leads:=aD A.leads o (kE (bx A.cnt o s.seen)) },.int (bx A.cnt o s.seen)):=by
 have hl:=S.ln;have hi:o.toNat < A.scrs.length:=by omega
 refine ⟨_,List.getElem?_eq_getElem hi,?_⟩;show (if aM A o=true then dU A o else _)=_;rw [if_pos (cZ.mpr ⟨h0,h1⟩)];unfold dU;rw [if_neg hs,List.getElem?_eq_getElem hi]
theorem ff {A:PH}{i:Nat}{s s':PScr} (h:A.scrs[i]? = some s) (j:Nat):(A.scrs.set i s')[j]? = if j=i then some s' else A.scrs[j]?:=by
 have hi:i < A.scrs.length:=(List.getElem?_eq_some_iff.mp h).1
 by_cases e:j=i
 ·subst e; rw [if_pos rfl,List.getElem?_set_self hi]
 ·rw [if_neg e,List.getElem?_set_ne (Ne.symm e)]
structure Goes (A:PH) (own:Int) (M1:List Int) (PL:List Int) (l:PLd):Prop where
 at_:aq A.leads own=some l
 se:dJ A own=l.num
 pr:∀ j∈M1,cJ A j=l.num
 op:l.op=true\/((∀ j∈M1,j∈l.told.map (·.1))/\cw A.cnt l.told.length=false)
 sd:∀ p u,aq l.said p=some u->p∈PL
structure Rest (A:PH) (n own:Int) (M PL:List Int):Prop where
 sf:Sf A
 hn:gx A
 cn:A.cnt=n
 up:∀ j∈M,j∉A.stop
 pl:∀ m j p u,(m,j,p,u)∈A.wrs->p∈PL
theorem Rest.scr {A:PH}{n own:Int}{M PL:List Int} (R:Rest A n own M PL) (F:Few n own M) {j:Int} (hj:j∈M):∃ s,A.scrs[j.toNat]? = some s:=by
 have:=R.sf.ln;have h:=F.in_ j hj;have c:=R.cn;have hi:j.toNat < A.scrs.length:=by omega
 exact ⟨_,List.getElem?_eq_getElem hi⟩
theorem uT {A:PH}{n own:Int}{M PL:List Int} (R:Rest A n own M PL) (F:Few n own M):∃ l,Rest (step A (.rise own)).1 n own M PL/\Goes (step A (.rise own)).1 own [] PL l/\pO (step A (.rise own)).1 own M<=pO A own M:=by
 obtain ⟨h0,h1⟩:=F.in_ own F.own;have S':=R.sf.step (.rise own);have X':=R.hn.step R.sf (.rise own);obtain ⟨s,hs,e⟩:=uL R.sf h0 (by rw [R.cn]; exact h1) (R.up own F.own);rw [e] at S' X' ⊢;have gt:=ud (cnt:=A.cnt) (own:=own) (seen:=s.seen) R.sf.cn;have sn:dJ { A with scrs:=A.scrs.set own.toNat { s with seen:=bx A.cnt own s.seen },leads:=aD A.leads own (kE (bx A.cnt own s.seen)) } own=bx A.cnt own s.seen:=by
  unfold dJ;show (((A.scrs.set _ _)[own.toNat]?).map _).getD 0=_;rw [ff hs,if_pos rfl]; rfl
 refine ⟨kE (bx A.cnt own s.seen),⟨S',X',R.cn,R.up,R.pl⟩,⟨?_,sn,(fun j h=>nomatch h),.inr ⟨(fun j h=>nomatch h),?_⟩,(fun p u h=>nomatch h)⟩,?_⟩
 ·show aq (aD A.leads own _) own=_
  rw [aK,if_pos rfl]
 ·have:=R.sf.cn
  show decide (A.cnt < 2 * ((0:Nat):Int))=false;exact decide_eq_false (by omega)
 ·refine List.countP_mono_left fun j hj h=>?_
  have h:=of_decide_eq_true h;rw [sn] at h;refine decide_eq_true ?_;have e1:dJ A own=s.seen:=by unfold dJ; rw [hs]; rfl
  have e2:cJ { A with scrs:=A.scrs.set own.toNat { s with seen:=bx A.cnt own s.seen },leads:=aD A.leads own (kE (bx A.cnt own s.seen)) } j=cJ A j:=by
   unfold cJ;show (((A.scrs.set _ _)[j.toNat]?).map _).getD 0=_;rw [ff hs];split
   ·next e=>rw [e,hs]; rfl
   ·rfl
  rw [e2] at h;omega
theorem yg {A:PH}{o p:Int} (h:aq A.leads o=none):(step A (.ask o p)).1=A:=by
 show (if aM A o=true then (if aM A p=true then eQ A o p else _) else _).1=A;split
 ·split
  ·unfold eQ; rw [h]
  ·rfl
 ·rfl
theorem yh {A:PH}{n own j:Int}{M M1 PL:List Int}{l:PLd} (R:Rest A n own M PL) (F:Few n own M) (G:Goes A own M1 PL l) (hj:j∈M) :
  Rest (step A (.ask own j)).1 n own M PL/\((∃ l',Goes (step A (.ask own j)).1 own (M1++[j]) PL l'/\pO (step A (.ask own j)).1 own M<=pO A own M)\/(aq (step A (.ask own j)).1.leads own=none/\pO (step A (.ask own j)).1 own M < pO A own M)):=by
 obtain ⟨o0,o1⟩:=F.in_ own F.own;obtain ⟨j0,j1⟩:=F.in_ j hj;obtain ⟨s,hs⟩:=R.scr F hj;obtain ⟨so,hso⟩:=R.scr F F.own;have cn:=R.cn;have S':=R.sf.step (.ask own j);have X':=R.hn.step R.sf (.ask own j);have e:step A (.ask own j)=if l.num < s.prom then (de A own s.prom,.bl false) else ({ A with scrs:=A.scrs.set j.toNat { s with prom:=l.num },leads:=aD A.leads own (b7 A.cnt l j s.row) },.bl true):=by
  show (if aM A own=true then (if aM A j=true then eQ A own j else _) else _)=_;rw [if_pos (cZ.mpr ⟨o0,by omega⟩),if_pos (cZ.mpr ⟨j0,by omega⟩)];unfold eQ;rw [G.at_];dsimp only;rw [if_neg (R.up j hj),hs]
 have es:dJ A own=so.seen:=by unfold dJ; rw [hso]; rfl
 have ep:cJ A j=s.prom:=by unfold cJ; rw [hs]; rfl
 by_cases lt:l.num < s.prom
 ·rw [if_pos lt] at e
  rw [e] at S' X' ⊢;have ef:de A own s.prom={ A with leads:=bY A.leads own,scrs:=A.scrs.set own.toNat { so with seen:=if so.seen < s.prom then s.prom else so.seen } }:=by
   unfold de; rw [hso]
  dsimp only at S' X' ⊢;rw [ef] at S' X' ⊢;refine ⟨⟨S',X',R.cn,R.up,R.pl⟩,.inr ⟨?_,?_⟩⟩
  ·show aq (bY A.leads own) own=none
   rw [fV,if_pos rfl]
  ·have sn:dJ { A with leads:=bY A.leads own,scrs:=A.scrs.set own.toNat { so with seen:=if so.seen < s.prom then s.prom else so.seen } } own=if so.seen < s.prom then s.prom else so.seen:=by
    unfold dJ;show (((A.scrs.set _ _)[own.toNat]?).map _).getD 0=_;rw [ff hso,if_pos rfl]; rfl
   have pm:∀ i,cJ { A with leads:=bY A.leads own,scrs:=A.scrs.set own.toNat { so with seen:=if so.seen < s.prom then s.prom else so.seen } } i=cJ A i:=fun i=>by
    unfold cJ;show (((A.scrs.set _ _)[i.toNat]?).map _).getD 0=_;rw [ff hso];split
    ·next e=>rw [e,hso]; rfl
    ·rfl
   refine nN (fun i hi h=>?_) ⟨j,hj,?_,?_⟩
   ·have h:=of_decide_eq_true h
    rw [sn,pm] at h;refine decide_eq_true ?_;rw [es];split at h<;>omega
   ·refine decide_eq_true ?_
    rw [G.se,ep]; exact lt
   ·refine decide_eq_false ?_
    rw [sn,pm,ep];split<;>omega
 ·rw [if_neg lt] at e
  rw [e] at S' X' ⊢;dsimp only at S' X' ⊢;have sn:dJ { A with scrs:=A.scrs.set j.toNat { s with prom:=l.num },leads:=aD A.leads own (b7 A.cnt l j s.row) } own=dJ A own:=by
   unfold dJ;show (((A.scrs.set _ _)[own.toNat]?).map _).getD 0=_;rw [ff hs];split
   ·next e=>rw [e,hs]; rfl
   ·rfl
  have pm:∀ i,0<=i->cJ { A with scrs:=A.scrs.set j.toNat { s with prom:=l.num },leads:=aD A.leads own (b7 A.cnt l j s.row) } i=if i=j then l.num else cJ A i:=fun i h0=>by
   unfold cJ;show (((A.scrs.set _ _)[i.toNat]?).map _).getD 0=_;rw [ff hs]
   by_cases e:i=j
   ·subst e; rw [if_pos rfl,if_pos rfl]; rfl
   ·rw [if_neg (by omega),if_neg e]
  have hsd:=sL (W:=fun p _=>p∈PL) R.pl R.sf G.at_ G.sd A.cnt j (row:=s.row) (fun p e he=>R.pl _ _ _ _ (R.sf.ro _ _ hs p e he));refine ⟨⟨S',X',R.cn,R.up,R.pl⟩,.inl ⟨b7 A.cnt l j s.row,⟨?_,?_,fun i hi=>?_,?_,hsd⟩,?_⟩⟩
  ·show aq (aD A.leads own _) own=_
   rw [aK,if_pos rfl]
  ·rw [sn,ji]; exact G.se
  ·rw [ji]
   rcases List.mem_append.mp hi with z | z
   ·by_cases e:i=j
    ·rw [e,pm j j0,if_pos rfl]
    ·have h:=G.pr i z
     by_cases i0:0<=i
     ·rw [pm i i0,if_neg e]; exact h
     ·unfold cJ at h ⊢
      show (((A.scrs.set _ _)[i.toNat]?).map _).getD 0=_;rw [ff hs];split
      ·rfl
      ·exact h
   ·rw [List.mem_singleton.mp z,pm j j0,if_pos rfl]
  ·show (b7 A.cnt l j s.row).op=true\/_
   unfold b7;cases ho:l.op with
   | true=>rw [if_pos rfl]; exact .inl ho
   | false =>
    rw [if_neg (by decide)];split
    ·exact .inl rfl
    ·next nm =>
     refine .inr ⟨fun i hi=>?_,Bool.eq_false_iff.mpr nm⟩;show i∈(aD l.told j s.row).map (·.1);rw [xk];rcases List.mem_append.mp hi with z | z
     ·rcases G.op with w | ⟨w,_⟩
      ·rw [ho] at w; cases w
      ·exact .inr (w i z)
     ·exact .inl (List.mem_singleton.mp z)
  ·refine List.countP_mono_left fun i hi h=>?_
   have h:=of_decide_eq_true h;rw [sn,pm i (F.in_ i hi).1] at h;refine decide_eq_true ?_;split at h
   ·rw [G.se] at h; omega
   ·exact h
noncomputable def turn (own:Int) (M:List Int):List Deed:=.rise own :: M.map (.ask own)
theorem oS {n own:Int}{M PL:List Int} (F:Few n own M):∀ (M2 M1:List Int) (A:PH) (b:Nat),(∀ j∈M2,j∈M)->Rest A n own M PL->((∃ l,Goes A own M1 PL l/\pO A own M<=b)\/(aq A.leads own=none/\pO A own M < b)) ->
  Rest (aH A (M2.map (.ask own))) n own M PL/\((∃ l,Goes (aH A (M2.map (.ask own))) own (M1++M2) PL l/\pO (aH A (M2.map (.ask own))) own M<=b)\/(aq (aH A (M2.map (.ask own))).leads own=none/\pO (aH A (M2.map (.ask own))) own M < b))
 | [],M1,A,b,_,R,h=>by rw [List.append_nil]; exact ⟨R,h⟩
 | j :: M2,M1,A,b,hm,R,h=>by
  show Rest (aH (step A (.ask own j)).1 (M2.map (.ask own))) n own M PL/\_;have hm2:∀ i∈M2,i∈M:=fun i hi=>hm i (List.mem_cons_of_mem _ hi);rcases h with ⟨l,G,hb⟩ | ⟨h1,h2⟩
  ·obtain ⟨R',h'⟩:=yh R F G (hm j List.mem_cons_self)
   have:=oS F M2 (M1++[j]) (step A (.ask own j)).1 b hm2 R' (h'.imp (fun ⟨l',g,q⟩=>⟨l',g,Nat.le_trans q hb⟩) fun ⟨q1,q2⟩=>⟨q1,Nat.lt_of_lt_of_le q2 hb⟩);rw [List.append_assoc] at this;exact this
  ·have e:=yg (p:=j) h1
   have:=oS F M2 (M1++[j]) (step A (.ask own j)).1 b hm2 (by rw [e]; exact R) (.inr (by rw [e]; exact ⟨h1,h2⟩));rw [List.append_assoc] at this;exact this
theorem d9 (A:PH) (a b:List Deed):aH A (a++b)=aH (aH A a) b:=by unfold aH; rw [List.foldl_append]
theorem uI {A:PH}{n own:Int}{M PL:List Int} (R:Rest A n own M PL) (F:Few n own M):Rest (aH A (turn own M)) n own M PL/\((∃ l,Goes (aH A (turn own M)) own M PL l/\pO (aH A (turn own M)) own M<=pO A own M)\/pO (aH A (turn own M)) own M < pO A own M):=by
 obtain ⟨l,R',G,hb⟩:=uT R F;obtain ⟨a,b⟩:=oS F M [] _ (pO A own M) (fun _ h=>h) R' (.inl ⟨l,G,hb⟩);exact ⟨a,b.imp id fun x=>x.2⟩
noncomputable def br (own:Int) (M:List Int):Nat->List Deed
 | 0=>[]
 | k+1=>br own M k++turn own M
theorem p7 {A:PH}{n own:Int}{M PL:List Int} (R:Rest A n own M PL) (F:Few n own M):∀ k,Rest (aH A (br own M k)) n own M PL/\((0 < k/\(∃ l,Goes (aH A (br own M k)) own M PL l))\/pO (aH A (br own M k)) own M+k<=M.length)
 | 0=>⟨R,.inr List.countP_le_length⟩
 | k+1=>by
  obtain ⟨R',h⟩:=p7 R F k;show Rest (aH A (br own M k++turn own M)) n own M PL/\((0 < k+1/\∃ l,Goes (aH A (br own M k++turn own M)) own M PL l)\/pO (aH A (br own M k++turn own M)) own M+(k+1)<=M.length);rw [d9];obtain ⟨R2,h2⟩:=uI R' F;refine ⟨R2,?_⟩;rcases h2 with ⟨l,G,_⟩ | lt
  ·exact .inl ⟨Nat.succ_pos k,l,G⟩
  ·rcases h with ⟨_,l,G⟩ | h
   ·have:pO (aH A (br own M k)) own M=0:=by
     refine List.countP_eq_zero.mpr fun j hj=>?_;rw [G.se,G.pr j hj];simp
    omega
   ·exact .inr (by omega)
theorem Goes.open {A:PH}{n own:Int}{M PL:List Int}{l:PLd} (R:Rest A n own M PL) (F:Few n own M) (G:Goes A own M PL l):l.op=true:=by
 rcases G.op with h | ⟨h1,h2⟩
 ·exact h
 ·cases ho:l.op with
  | true=>rfl
  | false =>
   have nd:=((R.sf.ld own l G.at_).cl ho).2.2.1;have:=List.Nodup.length_le_of_subset F.nd h1;rw [List.length_map] at this;have b:=F.big;have c:=R.cn
   have:cw A.cnt l.told.length=true:=decide_eq_true (by omega)
   rw [this] at h2; cases h2
theorem uj (said:List (Int×Str)) {m:Nat} (h:m < cz said):(aq said (m:Int)).isSome=true:=by
 unfold cz at h;cases e:(List.range (said.length+1)).find? fun n:Nat=>(aq said (n:Int)).isNone with
 | none=>rw [e] at h; exact absurd h (Nat.not_lt_zero _)
 | some k =>
  rw [e] at h;have:=(List.find?_range_eq_some.mp e).2.2 m h;simpa using this
theorem zx (said:List (Int×Str)) {k:Nat} (h:aq said (k:Int)=none):cz said<=k:=by
 apply Classical.byContradiction;intro z;have:=uj said (m:=k) (by omega);rw [h] at this; cases this
structure Wrt (A:PH) (n own N:Int) (M PL:List Int) (σ:List (Int×Str)) (done:List (Int×Int)):Prop where
 sf:Sf A
 hn:gx A
 cn:A.cnt=n
 up:∀ j∈M,j∉A.stop
 ld:∃ l,aq A.leads own=some l/\l.num=N/\l.said=σ
 pr:∀ j∈M,cJ A j=N
 wr:∀ p j u,(p,j)∈done->aq σ p=some u->(N,j,p,u)∈A.wrs
 wp:∀ m j p u,(m,j,p,u)∈A.wrs->p∈PL\/(aq σ p).isSome=true
theorem Wrt.write {A:PH}{n own N:Int}{M PL:List Int}{σ:List (Int×Str)}{done:List (Int×Int)} (X:Wrt A n own N M PL σ done) (F:Few n own M) {j:Int} (hj:j∈M) (p:Int):Wrt (step A (.write own j p)).1 n own N M PL σ (done++[(p,j)]):=by
 obtain ⟨o0,o1⟩:=F.in_ own F.own;obtain ⟨j0,j1⟩:=F.in_ j hj;have cn:=X.cn;obtain ⟨l,hl,en,es⟩:=X.ld;have hln:=X.sf.ln;have hi:j.toNat < A.scrs.length:=by omega
 have hs:=List.getElem?_eq_getElem hi;generalize A.scrs[j.toNat]=s at hs;have S':=X.sf.step (.write own j p);have X':=X.hn.step X.sf (.write own j p);have ep:s.prom=N:=by have:=X.pr j hj; unfold cJ at this; rw [hs] at this; exact this
 have e:step A (.write own j p)=match aq σ p with | none=>(A,.non) | some sy=>({ A with scrs:=A.scrs.set j.toNat { s with prom:=l.num,row:=aD s.row p (l.num,sy) },wrs:=A.wrs++[(l.num,j,p,sy)],leads:=aD A.leads own (ip l j p) },.bl true):=by
  show (if aM A own=true then (if aM A j=true then bG A own j p else _) else _)=_;rw [if_pos (cZ.mpr ⟨o0,by omega⟩),if_pos (cZ.mpr ⟨j0,by omega⟩)];unfold bG;rw [hl];dsimp only;rw [es];cases aq σ p with
  | none=>rfl
  | some sy =>
   dsimp only;rw [if_neg (X.up j hj),hs];dsimp only;rw [if_neg (by omega)]
 cases hp:aq σ p with
 | none =>
  rw [hp] at e;rw [e];refine ⟨X.sf,X.hn,X.cn,X.up,X.ld,X.pr,fun q i u hm hu=>?_,X.wp⟩;rcases List.mem_append.mp hm with z | z
  ·exact X.wr q i u z hu
  ·rw [List.mem_singleton] at z; cases z; rw [hp] at hu; cases hu
 | some sy =>
  rw [hp] at e;rw [e] at S' X' ⊢;refine ⟨S',X',X.cn,X.up,⟨ip l j p,?_,en,es⟩,fun i hi=>?_,fun q i u hm hu=>?_,fun m i q u hm=>?_⟩
  ·show aq (aD A.leads own _) own=_
   rw [aK,if_pos rfl]
  ·have h:=X.pr i hi
   unfold cJ at h ⊢;show (((A.scrs.set _ _)[i.toNat]?).map _).getD 0=_;rw [ff hs];split
   ·exact en
   ·exact h
  ·show _∈A.wrs++[_]
   rcases List.mem_append.mp hm with z | z
   ·exact List.mem_append_left _ (X.wr q i u z hu)
   ·rw [List.mem_singleton] at z; cases z
    rw [hp] at hu; cases hu;rw [en]; simp
  ·rcases List.mem_append.mp (show _∈A.wrs++[_] from hm) with z | z
   ·exact X.wp m i q u z
   ·rw [List.mem_singleton] at z; cases z; exact .inr (by rw [hp]; rfl)
theorem Wrt.place {n own N:Int}{M PL:List Int}{σ:List (Int×Str)} (F:Few n own M) (p:Int):∀ (M2:List Int) {A:PH}{done:List (Int×Int)},Wrt A n own N M PL σ done->(∀ j∈M2,j∈M)->Wrt (aH A (M2.map fun j=>.write own j p)) n own N M PL σ (done++M2.map fun j=>(p,j))
 | [],A,done,X,_=>by rw [List.map_nil,List.map_nil,List.append_nil]; exact X
 | j :: M2,A,done,X,h=>by
  have:=Wrt.place F p M2 (X.write F (h j List.mem_cons_self) p) fun i hi=>h i (List.mem_cons_of_mem _ hi);rw [List.append_assoc] at this;exact this
noncomputable def bg (own:Int) (M:List Int):Nat->List Deed
 | 0=>[]
 | k+1=>bg own M k++M.map fun j=>.write own j (k:Int)
theorem Wrt.places {A:PH}{n own N:Int}{M PL:List Int}{σ:List (Int×Str)} (F:Few n own M) (X:Wrt A n own N M PL σ []):∀ k,∃ done,Wrt (aH A (bg own M k)) n own N M PL σ done/\∀ (p:Nat) j,p < k->j∈M->((p:Int),j)∈done
 | 0=>⟨[],X,fun p j h=>absurd h (Nat.not_lt_zero _)⟩
 | k+1=>by
  obtain ⟨done,Y,h⟩:=Wrt.places F X k;refine ⟨_,by show Wrt (aH A (bg own M k++_)) n own N M PL σ _; rw [d9]; exact Y.place F (k:Int) M fun _ h=>h,fun p j hp hj=>?_⟩
  by_cases e:p=k
  ·subst e; exact List.mem_append_right _ (List.mem_map.mpr ⟨j,hj,rfl⟩)
  ·exact List.mem_append_left _ (h p j (by omega) hj)
theorem Wrt.settled {A:PH}{n own N:Int}{M PL:List Int}{σ:List (Int×Str)}{done:List (Int×Int)} (X:Wrt A n own N M PL σ done) (F:Few n own M) {p:Int}{u:Str} (hd:∀ j∈M,(p,j)∈done) (hu:aq σ p=some u):(p,N,u)∈cf A.cnt (A.wrs.map cG) A.wrs.length:=by
 have cn:=X.sf.cn;rw [d5 (by omega)];have:=List.Nodup.length_le_of_subset (l₂:=c_ (p,N,u) (A.wrs.map cG)) F.nd fun j hj=>(fO _ _ j).mpr (fP.mpr (X.wr p j u (hd j hj) hu));have b:=F.big;have c:=X.cn;omega
theorem yC {A:PH}{j:Int} (h0:0<=j) (h1:j < A.cnt):(step A (.wake j)).1.scrs=A.scrs/\(step A (.wake j)).1.wrs=A.wrs/\(step A (.wake j)).1.cnt=A.cnt/\∀ i,i∈(step A (.wake j)).1.stop↔i∈A.stop/\i≠j:=by
 have e:step A (.wake j)=eA A j:=by
  show (if aM A j=true then eA A j else _)=_;rw [if_pos (cZ.mpr ⟨h0,h1⟩)]
 rw [e];unfold eA;split
 ·refine ⟨rfl,rfl,rfl,fun i=>?_⟩
  show i∈A.stop.filter _↔_;rw [List.mem_filter]; simp
 ·next hn=>exact ⟨rfl,rfl,rfl,fun i=>⟨fun h=>⟨h,fun e=>hn (e ▸ h)⟩,fun h=>h.1⟩⟩
theorem zX {n:Int}:∀ (M:List Int) (A:PH),A.cnt=n->(∀ j∈M,0<=j/\j < n)->(aH A (M.map .wake)).wrs=A.wrs/\(aH A (M.map .wake)).cnt=n/\∀ i,i∈(aH A (M.map .wake)).stop->i∈A.stop/\i∉M
 | [],A,hc,_=>⟨rfl,hc,fun i h=>⟨h,fun z=>nomatch z⟩⟩
 | j :: M,A,hc,h=>by
  obtain ⟨j0,j1⟩:=h j List.mem_cons_self;obtain ⟨_,w2,w3,w4⟩:=yC (A:=A) j0 (by omega);obtain ⟨a,b,c⟩:=zX M (step A (.wake j)).1 (by rw [w3]; exact hc) fun i hi=>h i (List.mem_cons_of_mem _ hi);refine ⟨a.trans w2,b,fun i hi=>?_⟩;obtain ⟨x,y⟩:=c i hi;obtain ⟨z1,z2⟩:=(w4 i).mp x;exact ⟨z1,fun q=>(List.mem_cons.mp q).elim z2 y⟩
theorem rW {A:PH}{n own:Int}{M PL:List Int} (S:Sf A) (X:gx A) (hc:A.cnt=n) (F:Few n own M) (hp:∀ m j p u,(m,j,p,u)∈A.wrs->p∈PL) {q k:Nat} (hq:(q:Int)∉PL) (hk:q < k) (lw:Str) :
  ∃ (pl:Nat) (N:Int) (l:PLd),pl<=q/\(step (aH A (M.map .wake++br own M (M.length+1))) (.say own lw)).2=.int pl /\
   Sf (aH A (M.map .wake++br own M (M.length+1)++[.say own lw]++bg own M k))/\gx (aH A (M.map .wake++br own M (M.length+1)++[.say own lw]++bg own M k)) /\
   aq (aH A (M.map .wake++br own M (M.length+1)++[.say own lw]++bg own M k)).leads own=some l/\l.num=N /\
   (∀ m:Nat,m<=pl->∃ u,((m:Int),N,u)∈cf n ((aH A (M.map .wake++br own M (M.length+1)++[.say own lw]++bg own M k)).wrs.map cG) (aH A (M.map .wake++br own M (M.length+1)++[.say own lw]++bg own M k)).wrs.length) /\
   ((pl:Int),N,lw)∈cf n ((aH A (M.map .wake++br own M (M.length+1)++[.say own lw]++bg own M k)).wrs.map cG) (aH A (M.map .wake++br own M (M.length+1)++[.say own lw]++bg own M k)).wrs.length /\
   ∀ m j p u,(m,j,p,u)∈(aH A (M.map .wake++br own M (M.length+1)++[.say own lw]++bg own M k)).wrs->p∈PL\/p=(pl:Int):=by
 obtain ⟨w1,w2,w3⟩:=zX M A hc F.in_;have R0:Rest (aH A (M.map .wake)) n own M PL:=⟨S.run _,X.run S _,w2,fun j hj z=>(w3 j z).2 hj,fun m j p u h=>hp m j p u (by rw [<- w1]; exact h)⟩;obtain ⟨R1,h1⟩:=p7 R0 F (M.length+1);obtain ⟨l,G⟩:∃ l,Goes (aH (aH A (M.map .wake)) (br own M (M.length+1))) own M PL l:=by
  rcases h1 with ⟨_,h⟩ | h
  ·exact h
  ·omega
 simp only [d9];generalize aH (aH A (M.map .wake)) (br own M (M.length+1))=B at R1 G;clear h1 R0 w1 w2 w3 hp S X hc A;have op:=G.open R1 F;obtain ⟨o0,o1⟩:=F.in_ own F.own;have e:step B (.say own lw)=({ B with leads:=aD B.leads own (pQ l lw) },.int (cz l.said)):=by
  show (if aM B own=true then fM B own lw else _)=_;rw [if_pos (cZ.mpr ⟨o0,by rw [R1.cn]; exact o1⟩)];unfold fM;rw [G.at_];dsimp only;rw [if_pos op]
 have S2:=R1.sf.step (.say own lw);have X2:=R1.hn.step R1.sf (.say own lw);have e2:aH B [.say own lw]=(step B (.say own lw)).1:=rfl;rw [e2];rw [e] at S2 X2 ⊢;have Y:Wrt ({ B with leads:=aD B.leads own (pQ l lw) }) n own l.num M PL (aD l.said (cz l.said) lw) []:=⟨S2,X2,R1.cn,R1.up,⟨pQ l lw,by show aq (aD B.leads own _) own=_; rw [aK,if_pos rfl],rfl,rfl⟩,G.pr,(fun p j u h=>nomatch h),fun m j p u h=>.inl (R1.pl m j p u h)⟩;obtain ⟨done,Z,hd⟩:=Y.places F k;obtain ⟨l2,z1,z2,z3⟩:=Z.ld;have fl:cz l.said<=q:=zx l.said (by
  cases h:aq l.said (q:Int) with
  | none=>rfl
  | some u=>exact absurd (G.sd _ u h) hq)
 dsimp only;refine ⟨cz l.said,l.num,l2,fl,rfl,Z.sf,Z.hn,z1,z2,fun m hm=>?_,?_,fun m j p u h=>?_⟩
 ·by_cases em:m=cz l.said
  ·subst em
   refine ⟨lw,?_⟩;rw [<- Z.cn];exact Z.settled F (fun j hj=>hd _ j (by omega) hj) (by rw [aK,if_pos rfl])
  ·obtain ⟨u,hu⟩:=Option.isSome_iff_exists.mp (uj l.said (m:=m) (by omega))
   refine ⟨u,?_⟩;rw [<- Z.cn];exact Z.settled F (fun j hj=>hd _ j (by omega) hj) (by rw [aK,if_neg (by omega)]; exact hu)
 ·rw [<- Z.cn]
  exact Z.settled F (fun j hj=>hd _ j (by omega) hj) (by rw [aK,if_pos rfl])
 ·rcases Z.wp m j p u h with z | z
  ·exact .inl z
  ·rw [aK] at z
   by_cases e:p=(cz l.said:Int)
   ·exact .inr e
   ·rw [if_neg e] at z
    obtain ⟨u',hu⟩:=Option.isSome_iff_exists.mp z;exact .inl (G.sd _ u' hu)
noncomputable def aZ (n:Nat) (own:Int):List Int:=(List.range (n / 2+1)).map fun k:Nat=>(own+(k:Int)) % (n:Int)
noncomputable def fA (n:Nat) (own:Int):List Deed:=(aZ n own).map .wake++br own (aZ n own) ((aZ n own).length+1)
noncomputable def aS (n:Nat) (own:Int) (k:Nat):List Deed:=fA n own++[.say own "last"]++bg own (aZ n own) k++[.settled own]
theorem ge (n:Nat) (own:Int):(aZ n own).length=n / 2+1:=by unfold aZ; rw [List.length_map,List.length_range]
theorem gB (own:Int) (M:List Int):∀ k,(br own M k).length=k * (M.length+1)
 | 0=>by rw [Nat.zero_mul]; rfl
 | k+1=>by
  show (br own M k++turn own M).length=_;rw [List.length_append,gB own M k,Nat.succ_mul];show _+((List.map _ M).length+1)=_;rw [List.length_map]
theorem fQ (own:Int) (M:List Int):∀ k,(bg own M k).length=k * M.length
 | 0=>by rw [Nat.zero_mul]; rfl
 | k+1=>by
  show (bg own M k++List.map _ M).length=_;rw [List.length_append,fQ own M k,Nat.succ_mul,List.length_map]
theorem oI {x n:Int} (h0:0<=x) (h1:x < 2 * n):x % n=if x < n then x else x - n:=by
 split
 ·next h=>exact Int.emod_eq_of_lt h0 h
 ·next h =>
  have e:x % n=(x - n) % n:=by
   have:=Int.add_emod_right (a:=x - n) (b:=n);rw [<- this]; congr 1; omega
  rw [e]; exact Int.emod_eq_of_lt (by omega) (by omega)
theorem xS {n:Nat}{own:Int} (n1:0 < n) (h0:0<=own) (h1:own < (n:Int)):Few (n:Int) own (aZ n own):=by
 refine ⟨?_,fun j hj=>?_,?_,?_⟩
 ·unfold aZ
  rw [List.nodup_iff_pairwise_ne,List.pairwise_map];refine List.Pairwise.imp_of_mem (fun {a b} ha hb z=>?_) (List.pairwise_lt_range (n:=n / 2+1));have ha:=List.mem_range.mp ha;have hb:=List.mem_range.mp hb;rw [oI (by omega) (by omega),oI (by omega) (by omega)];split<;>split<;>omega
 ·unfold aZ at hj
  obtain ⟨k,_,rfl⟩:=List.mem_map.mp hj;exact ⟨Int.emod_nonneg _ (by omega),Int.emod_lt_of_pos _ (by omega)⟩
 ·unfold aZ
  refine List.mem_map.mpr ⟨0,List.mem_range.mpr (by omega),?_⟩;rw [oI (by omega) (by omega)];split<;>omega
 ·rw [ge]; omega
theorem kT (A:PH) (d:Deed):(step A d).1.wrs=A.wrs\/∃ o p pl m sy,d=.write o p pl/\(step A d).1.wrs=A.wrs++[(m,p,pl,sy)]:=by
 have hf:∀ o num,(de A o num).wrs=A.wrs:=fun o num=>by unfold de; split<;>rfl
 cases d with
 | rise o=>left; simp only [step,dU]; repeat' (first | rfl | split)
 | ask o p=>left; simp only [step,eQ]; repeat' (first | rfl | exact hf _ _ | split)
 | say o z=>left; simp only [step,fM]; repeat' (first | rfl | split)
 | write o p pl=>simp only [step,bG]; repeat' (first | exact .inl rfl | exact .inl (hf _ _) | exact .inr ⟨_,_,_,_,_,rfl,rfl⟩ | split)
 | settled o=>left; simp only [step]; repeat' (first | rfl | split)
 | stop o=>left; simp only [step,eU]; repeat' (first | rfl | split)
 | wake o=>left; simp only [step,eA]; repeat' (first | rfl | split)
noncomputable def vI:Deed->Bool
 | .write _ _ _=>true
 | _=>false
theorem i8:∀ (ds:List Deed) (A:PH),(aH A ds).wrs.length<=A.wrs.length+ds.countP vI
 | [],A=>Nat.le_refl _
 | d :: ds,A=>by
  have h:=i8 ds (step A d).1;show (aH (step A d).1 ds).wrs.length<=_;rw [List.countP_cons];rcases kT A d with e | ⟨o,p,pl,m,sy,rfl,e⟩
  ·rw [e] at h; omega
  ·rw [e,List.length_append] at h
   have:(if vI (.write o p pl)=true then 1 else 0)=1:=rfl
   rw [this]
   have:[(m,p,pl,sy)].length=1:=rfl
   omega
theorem v5 {PL:List Int}:∀ (ds:List Deed) (A:PH),(∀ d∈ds,deedOk PL d)->(∀ m j p u,(m,j,p,u)∈A.wrs->p∈PL)->∀ m j p u,(m,j,p,u)∈(aH A ds).wrs->p∈PL
 | [],A,_,h=>h
 | d :: ds,A,hd,h=>by
  refine v5 ds (step A d).1 (fun e he=>hd e (List.mem_cons_of_mem _ he)) fun m j p u hm=>?_;rcases kT A d with e | ⟨o,p',pl,m',sy,rfl,e⟩
  ·rw [e] at hm; exact h m j p u hm
  ·rw [e] at hm
   rcases List.mem_append.mp hm with z | z
   ·exact h m j p u z
   ·rw [List.mem_singleton] at z; cases z
    exact hd _ List.mem_cons_self
theorem mW:∀ (ds:List Deed) (A:PH),∃ more,(aH A ds).wrs=A.wrs++more
 | [],A=>⟨[],(List.append_nil _).symm⟩
 | d :: ds,A=>by
  obtain ⟨more,h⟩:=mW ds (step A d).1;rcases kT A d with e | ⟨o,p,pl,m,sy,rfl,e⟩
  ·exact ⟨more,by rw [<- e]; exact h⟩
  ·exact ⟨(m,p,pl,sy) :: more,by show (aH (step A _).1 ds).wrs=_; rw [h,e,List.append_assoc]; rfl⟩
theorem vH {c:Int} (hc:0<=c) {ws more:List Wr}{k:K3} (h:k∈cf c (ws.map cG) ws.length):k∈cf c ((ws++more).map cG) (ws++more).length:=by
 obtain ⟨p,m,u⟩:=k;rw [d5 hc] at h ⊢;have:=List.Nodup.length_le_of_subset (l₂:=c_ (p,m,u) ((ws++more).map cG)) (rN (p,m,u) (ws.map cG)) fun j hj=>(fO _ _ j).mpr (by rw [List.map_append]; exact List.mem_append_left _ ((fO _ _ j).mp hj));omega
theorem gS (own:Int) (M:List Int):∀ k,(bg own M k).countP vI=k * M.length
 | 0=>by rw [Nat.zero_mul]; rfl
 | k+1=>by
  show (bg own M k++List.map _ M).countP vI=_;rw [List.countP_append,gS own M k,Nat.succ_mul]
  congr 1
  rw [List.countP_map];exact List.countP_eq_length.mpr fun _ _=>rfl
theorem iS (own:Int) (M:List Int):∀ k,(br own M k).countP vI=0
 | 0=>rfl
 | k+1=>by
  show (br own M k++turn own M).countP vI=0;rw [List.countP_append,iS own M k];show 0+List.countP vI (Deed.rise own :: M.map (.ask own))=0;rw [List.countP_cons,List.countP_map]
  have:List.countP (vI ∘ Deed.ask own) M=0:=List.countP_eq_zero.mpr fun _ _ z=>nomatch z
  rw [this]; rfl
theorem ri (n:Nat) (own:Int) (k:Nat):(aS n own k).countP vI=k * (n / 2+1):=by
 unfold aS fA;rw [List.countP_append,List.countP_append,List.countP_append,List.countP_append,iS,gS,ge,List.countP_map]
 have:List.countP (vI ∘ Deed.wake) (aZ n own)=0:=List.countP_eq_zero.mpr fun _ _ z=>nomatch z
 rw [this];show 0+0+0+_+0=_;omega
noncomputable def yr:List Int:=[0,1,2,3,5,100000000000000000000]
noncomputable def yo:List Int:=[0,1,2,3,4,5,6,7,8,9,10,11,100000000000000000000]
theorem DT {n k x w:Nat} (h:BT n k) (hw:w<=k+12 * (n / 2+1)) (hx:x * ((n+2) / 2)<=w) (n1:0 < n) (n2:n<=5\/8 < n/\n<=13):x < 64:=by
 unfold BT at h;refine Nat.lt_of_not_le fun z=>?_;have hq:(n+2) / 2=n / 2+1:=by omega
 rw [hq] at hx;have:=Nat.le_trans (Nat.mul_le_mul_right (n / 2+1) z) hx;clear hx hq z;omega
theorem BC:∀ p∈yn,p∈yr:=by decide
theorem zc:∀ k:Nat,k < 4->(k:Int)∈yr:=by decide
theorem BD:∀ p∈yn,p∈yo:=by decide
theorem zd:∀ k:Nat,k < 12->(k:Int)∈yo:=by decide
theorem DU {n:Nat}{ds:List Deed}{own:Int} (n1:0 < n) (h0:0<=own) (h1:own < (n:Int)) (ok:∀ d∈ds,deedOk yn d) :
  ∃ (pl:Nat) (N:Int) (Lk:List (Int×Str)),pl < 4/\(step (aH (init n) (ds++fA n own)) (.say own "last")).2=.int pl /\
   (step (aH (init n) (ds++(fA n own++[.say own "last"]++bg own (aZ n own) 12))) (.settled own)).2=.prs Lk/\((pl:Int),("last":Str))∈Lk /\
   (∀ m:Nat,m<=pl->∃ u,((m:Int),N,u)∈cf (n:Int) ((aH (init n) (ds++aS n own 12)).wrs.map cG) (aH (init n) (ds++aS n own 12)).wrs.length) /\
   ((pl:Int),N,("last":Str))∈cf (n:Int) ((aH (init n) (ds++aS n own 12)).wrs.map cG) (aH (init n) (ds++aS n own 12)).wrs.length /\
   (∀ k,k∈cf (n:Int) ((aH (init n) ds).wrs.map cG) (aH (init n) ds).wrs.length->k∈cf (n:Int) ((aH (init n) (ds++aS n own 12)).wrs.map cG) (aH (init n) (ds++aS n own 12)).wrs.length) /\
   ∀ p m u,(p,m,u)∈cf (n:Int) ((aH (init n) (ds++aS n own 12)).wrs.map cG) (aH (init n) (ds++aS n own 12)).wrs.length->p∈yr:=by
 have S0:=Sf.start n1;have S:=S0.run ds;have X:=(gx.start n).run S0 ds;have cn:(aH (init n) ds).cnt=(n:Int):=iA _ _;have F:=xS n1 h0 h1;obtain ⟨pl,N,l,z1,z2,z3,z4,z5,z6,z7,z8,z9⟩:=rW (PL:=yn) (q:=3) (k:=12) S X cn F (v5 ds (init n) ok fun _ _ _ _ h=>nomatch h) (by decide) (by decide) "last";have e1:aH (init n) (ds++(fA n own++[.say own "last"]++bg own (aZ n own) 12))=aH (aH (init n) ds) ((aZ n own).map .wake++br own (aZ n own) ((aZ n own).length+1)++[.say own "last"]++bg own (aZ n own) 12):=d9 ..;have e2:aH (init n) (ds++aS n own 12)=aH (aH (init n) ds) ((aZ n own).map .wake++br own (aZ n own) ((aZ n own).length+1)++[.say own "last"]++bg own (aZ n own) 12):=by
  unfold aS;rw [<- List.append_assoc,jb,e1];show (if _ then _ else _:PH×Ans).1=_;split<;>rfl
 have cC:(aH (aH (init n) ds) ((aZ n own).map .wake++br own (aZ n own) ((aZ n own).length+1)++[.say own "last"]++bg own (aZ n own) 12)).cnt=(n:Int):=(iA _ _).trans cn;obtain ⟨more,hm⟩:=mW ((aZ n own).map .wake++br own (aZ n own) ((aZ n own).length+1)++[.say own "last"]++bg own (aZ n own) 12) (aH (init n) ds);rw [e2,e1];refine ⟨pl,N,dj n l,by omega,?_,?_,?_,z7,z8,fun k hk=>?_,fun p m u hk=>?_⟩
 ·rw [d9]; exact z2
 ·show (if aM _ own=true then _ else _:PH×Ans).2=_
  rw [if_pos (cZ.mpr ⟨h0,by rw [cC]; exact h1⟩)];show b9 _ own=_;unfold b9;rw [z5,cC]
 ·have kn:=z4.known z3 z5 (gY _)
  rw [cC] at kn;refine kn.mem_iff.mpr (List.mem_map.mpr ⟨((pl:Int),N,"last"),List.mem_filter.mpr ⟨z8,by rw [z6]; exact decide_eq_true rfl⟩,rfl⟩)
 ·rw [hm]; exact vH (by omega) hk
 ·have hk:=(d5 (by omega)).mp hk
  obtain ⟨j,hj⟩:=k_ (by omega) hk;have:=z9 m j p u (fP.mp hj);rcases this with h | h
  ·exact BC p h
  ·rw [h]; exact zc pl (by omega)
theorem nE {p:Nat->Bool}{s:Nat} (hs:p s=true):∀ N,s < N->(∀ k,s < k->k < N->p k=false)->(List.range N).filter p=(List.range s).filter p++[s]
 | 0,h,_=>absurd h (Nat.not_lt_zero _)
 | N+1,h,hk=>by
  rw [List.range_succ,List.filter_append]
  by_cases e:N=s
  ·subst e; rw [List.filter_cons_of_pos hs]; rfl
  ·rw [nE hs N (by omega) fun k a b=>hk k a (by omega),List.filter_cons_of_neg (by rw [hk N (by omega) (by omega)]; exact Bool.false_ne_true),List.filter_nil,List.append_nil]
theorem p6 (own:Int) (M PL:List Int):∀ k,∀ d∈br own M k,deedOk PL d
 | 0,d,h=>nomatch h
 | k+1,d,h=>by
  rcases List.mem_append.mp (show d∈br own M k++turn own M from h) with z | z
  ·exact p6 own M PL k d z
  ·rcases List.mem_cons.mp (show d∈Deed.rise own :: M.map (.ask own) from z) with rfl | z
   ·trivial
   ·obtain ⟨j,_,rfl⟩:=List.mem_map.mp z; trivial
theorem mX (own:Int) (M:List Int):∀ k,k<=12->∀ d∈bg own M k,deedOk yo d
 | 0,_,d,h=>nomatch h
 | k+1,hk,d,h=>by
  rcases List.mem_append.mp (show d∈bg own M k++M.map (fun j=>.write own j (k:Int)) from h) with z | z
  ·exact mX own M k (by omega) d z
  ·obtain ⟨j,_,rfl⟩:=List.mem_map.mp z
   exact zd k (by omega)
theorem yF (n:Nat) (own:Int):∀ d∈aS n own 12,deedOk yo d:=fun d h=>by
 unfold aS fA at h;rcases List.mem_append.mp h with h | h
 ·rcases List.mem_append.mp h with h | h
  ·rcases List.mem_append.mp h with h | h
   ·rcases List.mem_append.mp h with h | h
    ·obtain ⟨j,_,rfl⟩:=List.mem_map.mp h; trivial
    ·exact p6 _ _ _ _ d h
   ·rw [List.mem_singleton] at h; subst h; trivial
  ·exact mX _ _ _ (Nat.le_refl _) d h
 ·rw [List.mem_singleton] at h; subst h; trivial
theorem vn {d:Deed} (h:deedOk yn d):deedOk yo d:=by
 cases d with
 | write o p pl =>
  exact BD pl h
 | _=>trivial
theorem yV {n:Nat}{own:Int} (h:n<=13):(fA n own).length<=71:=by
 unfold fA;rw [List.length_append,List.length_map,gB,ge]
 have:(n / 2+1+1) * (n / 2+1+1)<=8 * 8:=Nat.mul_le_mul (by omega) (by omega)
 omega
theorem wR {n:Nat}{own:Int} (h:n<=13):(aS n own 12).length<=157:=by
 unfold aS;rw [List.length_append,List.length_append,List.length_append,fQ,ge];have:=yV (own:=own) h;simp only [List.length_cons,List.length_nil];omega
noncomputable def eW (own:Int):Deed->Bool
 | .say o z=>decide (o=own)&&decide (z = "last")
 | _=>false
theorem lA (own o:Int) (M:List Int):∀ k,∀ d∈bg o M k,eW own d=false
 | 0,d,h=>nomatch h
 | k+1,d,h=>by
  rcases List.mem_append.mp (show d∈bg o M k++M.map (fun j=>.write o j (k:Int)) from h) with z | z
  ·exact lA own o M k d z
  ·obtain ⟨j,_,rfl⟩:=List.mem_map.mp z; rfl
theorem AW (ds:List Deed) (n:Nat) (own:Int) :
  (List.range (ds++aS n own 12).length).filter (fun k=>((ds++aS n own 12)[k]?).any (eW own))=(List.range (ds.length+(fA n own).length)).filter (fun k=>((ds++aS n own 12)[k]?).any (eW own))++[ds.length+(fA n own).length]:=by
 have e:ds++aS n own 12=(ds++fA n own)++(.say own "last" :: (bg own (aZ n own) 12++[.settled own])):=by
  unfold aS;simp only [List.append_assoc,List.cons_append,List.nil_append]
 have l:ds.length+(fA n own).length=(ds++fA n own).length:=(List.length_append ..).symm;rw [e,l];generalize ds++fA n own=A;refine nE ?_ _ (by rw [List.length_append]; simp) fun k h1 h2=>?_
 ·rw [List.getElem?_append_right (Nat.le_refl _),Nat.sub_self]
  show (decide (own=own)&&decide (("last":Str) = "last"))=true;rw [decide_eq_true rfl,decide_eq_true rfl]; rfl
 ·rw [List.getElem?_append_right (by omega)]
  obtain ⟨j,hj⟩:∃ j,k - A.length=j+1:=⟨k - A.length - 1,by omega⟩;rw [hj,List.getElem?_cons_succ];cases hd:(bg own (aZ n own) 12++[Deed.settled own])[j]? with
  | none=>rfl
  | some d =>
   show eW own d=false;rcases List.mem_append.mp (List.mem_of_getElem? hd) with z | z
   ·exact lA _ _ _ _ d z
   ·rw [List.mem_singleton] at z; subst z; rfl
end Hl
namespace S7
open PySem
noncomputable def mt:List Int->List (List Int)
 | []=>[[]]
 | x :: l=>mt l++(mt l).map (x :: ·)
theorem iD:∀ {l ns:List Int},l.Pairwise (· < ·)->ns.Pairwise (· < ·)->(∀ x∈ns,x∈l)->ns∈mt l
 | [],ns,_,_,h=>by
  cases ns with
  | nil=>simp [mt]
  | cons a r=>exact absurd (h a List.mem_cons_self) (by simp)
 | x :: l,ns,hl,hn,h=>by
  have hl2:=List.pairwise_cons.mp hl;unfold mt;rw [List.mem_append];cases ns with
  | nil=>exact .inl (iD hl2.2 .nil (fun _ h=>nomatch h))
  | cons a r =>
   have hn2:=List.pairwise_cons.mp hn
   by_cases e:a=x
   ·refine .inr (List.mem_map.mpr ⟨r,iD hl2.2 hn2.2 (fun y hy=>?_),by rw [e]⟩)
    rcases List.mem_cons.mp (h y (List.mem_cons_of_mem _ hy)) with z | z
    ·have:=hn2.1 y hy; omega
    ·exact z
   ·refine .inl (iD hl2.2 hn fun y hy=>?_)
    have ha:x < a:=by
     rcases List.mem_cons.mp (h a List.mem_cons_self) with z | z
     ·exact absurd z e
     ·exact hl2.1 a z
    rcases List.mem_cons.mp (h y hy) with z | z
    ·rcases List.mem_cons.mp hy with w | w
     ·omega
     ·have:=hn2.1 y w; omega
    ·exact z
noncomputable def ci (es:Array (Int×Value)) (t:SetTable) (h:Int) (x:Value):Array (Int×Value)×SetTable :=
 let r:=layNew t es h x
 if (!r.2.2.1&&r.2.1.tooFull)=true then
  let q:=relayAll r.2.1 r.1 (SetTable.grown r.1.size)
  (q.1,q.2.1)
 else (r.1,r.2.1)
noncomputable def pR (t:SetTable) (es:Array (Int×Nat)) (h:Int) (x:Nat):Array (Int×Nat)×SetTable×Bool :=
 match t.freeSlot h with
 | some (slot,wasDummy) =>
  let es':=SetTable.insertAt es (t.put slot).2 (h,x)
  (es',(t.put slot).1.orStandIn es'.size,wasDummy)
 | none=>(es.push (h,x),t.standIn (es.size+1),false)
noncomputable def yv (t:SetTable) (es:Array (Int×Nat)) (wanted:Nat):Array (Int×Nat)×SetTable :=
 match t.relaid (es.map (·.1)) wanted with
 | some (t',order) =>
  let es':=order.filterMap (es[·]?)
  if coversAll order es.size&&t'.fits es'.size then (es',t') else (es,t.standIn es.size)
 | none=>(es,t.standIn es.size)
noncomputable def yx (es:Array (Int×Nat)) (t:SetTable) (h:Int) (x:Nat):Array (Int×Nat)×SetTable :=
 let r:=pR t es h x
 if (!r.2.2&&r.2.1.tooFull)=true then yv r.2.1 r.1 (SetTable.grown r.1.size) else (r.1,r.2.1)
noncomputable def mq (f:Nat->Value) (e:Int×Nat):Int×Value:=(e.1,f e.2)
theorem zn {α β:Type} (f:α->β) (xs:Array α) (p:Nat) (x:α):SetTable.insertAt (xs.map f) p (f x)=(SetTable.insertAt xs p x).map f:=by
 unfold SetTable.insertAt;simp
theorem zh (f:Nat->Value) (t:SetTable) (es:Array (Int×Nat)) (h:Int) (x:Nat):(layNew t (es.map (mq f)) h (f x)).1=(pR t es h x).1.map (mq f)/\(layNew t (es.map (mq f)) h (f x)).2.1=(pR t es h x).2.1/\(layNew t (es.map (mq f)) h (f x)).2.2.1=(pR t es h x).2.2:=by
 have e:∀ p,SetTable.insertAt (es.map (mq f)) p (h,f x)=(SetTable.insertAt es p (h,x)).map (mq f):=fun p=>zn (mq f) es p (h,x);unfold layNew pR;cases t.freeSlot h with
 | none=>simp [mq]
 | some q =>
  obtain ⟨slot,wd⟩:=q;simp only [e,Array.size_map];trivial
theorem yS (f:Nat->Value) (t:SetTable) (es:Array (Int×Nat)) (n:Nat):(relayAll t (es.map (mq f)) n).1=(yv t es n).1.map (mq f)/\(relayAll t (es.map (mq f)) n).2.1=(yv t es n).2:=by
 have e1:(es.map (mq f)).map (·.1)=es.map (·.1):=by rw [Array.map_map]; rfl
 unfold relayAll yv;rw [e1];cases t.relaid (es.map (·.1)) n with
 | none=>simp
 | some q =>
  obtain ⟨t',order⟩:=q;have e2:order.filterMap ((es.map (mq f))[·]?)=(order.filterMap (es[·]?)).map (mq f):=by
   rw [Array.map_filterMap]
   congr 1
   funext i
   simp
  dsimp only;rw [e2,Array.size_map,Array.size_map];split<;>simp
theorem zM (f:Nat->Value) (t:SetTable) (es:Array (Int×Nat)) (h:Int) (x:Nat):ci (es.map (mq f)) t h (f x)=((yx es t h x).1.map (mq f),(yx es t h x).2):=by
 obtain ⟨a,b,c⟩:=zh f t es h x;unfold ci yx;dsimp only;rw [a,b,c];split
 ·obtain ⟨d,e⟩:=yS f (pR t es h x).2.1 (pR t es h x).1 (SetTable.grown ((pR t es h x).1.map (mq f)).size)
  rw [d,e,Array.size_map]
 ·rfl
noncomputable def fB (led:Bool) (ns:List Int):Nat->Array (Int×Nat)×SetTable
 | 0=>(#[],.fresh 0 0 led)
 | i+1=>yx (fB led ns i).1 (fB led ns i).2 (hashInt (ns.getD i 0)) i
noncomputable def AA (t:SetTable):Nat->Nat
 | 0=>0
 | k+1=>t.place.getD k 0+1
noncomputable def vO (led:Bool) (ns:List Int):Bool :=
 let r:=fB led ns ns.length
 r.2.plain&&(r.2.led==led)&&r.2.fits r.1.size&&(r.1.toList.map (·.2)).isPerm (List.range ns.length)&&(List.range (ns.length+1)).all fun k=>SetTable.below r.2.place (AA r.2 k)==k
noncomputable def mU (led:Bool) (ns:List Int):Bool:=(List.range (ns.length+1)).all fun i =>
 let r:=fB led ns i
 r.2.fits r.1.size&&(r.1.size==i)&&r.1.toList.all fun e=>decide (e.2 < i)&&(e.1==hashInt (ns.getD e.2 0))
noncomputable def B7:List Int:=[0,1,2,3,5,100000000000000000000]
theorem qL:∀ ns∈mt B7,vO true ns=true/\vO false ns=true:=by decide +kernel
theorem nZ:∀ ns∈mt B7,mU true ns=true/\mU false ns=true:=by decide +kernel
theorem BJ:∀ ns∈mt B7,∀ pl:Nat,pl < 4->(∀ m:Nat,m < pl+1->(m:Int)∈ns)->ns.take (pl+1)=(List.range (pl+1)).map fun k:Nat=>(k:Int):=by decide +kernel
theorem tY {α:Type} (next:Nat->Nat):∀ (fuel k:Nat) (left:List α) (out:Array α),left.length=fuel->(pickOrder.go next fuel k left out).toList.Perm (out.toList++left)
 | 0,k,left,out,h=>by
  rw [List.length_eq_zero_iff.mp h,List.append_nil]; exact List.Perm.refl _
 | fuel+1,k,left,out,h=>by
  have hi:next k % left.length < left.length:=Nat.mod_lt _ (by omega)
  unfold pickOrder.go;rw [List.getElem?_eq_getElem hi];dsimp only;refine (tY next fuel (k+1) _ _ (by rw [List.length_eraseIdx_of_lt hi]; omega)).trans ?_;rw [Array.toList_push,List.append_assoc];refine List.Perm.append_left _ ?_;have e:left=left.take (next k % left.length)++left[next k % left.length] :: left.drop (next k % left.length+1):=by
   rw [<- List.drop_eq_getElem_cons hi,List.take_append_drop]
  rw [List.eraseIdx_eq_take_drop_succ];have g:=(List.perm_middle (a:=left[next k % left.length]) (l₁:=left.take (next k % left.length)) (l₂:=left.drop (next k % left.length+1))).symm;rw [<- e] at g;exact g
theorem nu {α:Type} (next:Nat->Nat) (xs:Array α):(pickOrder next xs).toList.Perm xs.toList:=by
 have:=tY next xs.size 0 xs.toList #[] (by simp)
 simpa [pickOrder] using this
theorem eO:Slot "set_iterator" "__next__" "set_iterator.__next__":=by
 refine .of (owner:="set_iterator") (n:="__next__") ?_ (by decide +kernel) (by decide +kernel) (by decide +kernel) (.inl (by decide +kernel)) ?_
 ·rw [typeLookup_type,builtinLookup_eq_fast]; kernel_rfl
 ·rw [isSubtype_type]; kernel_rfl
theorem m9:Slot "set_iterator" "__iter__" "set_iterator.__iter__":=by
 refine .of (owner:="set_iterator") (n:="__iter__") ?_ (by decide +kernel) (by decide +kernel) (by decide +kernel) (.inl (by decide +kernel)) ?_
 ·rw [typeLookup_type,builtinLookup_eq_fast]; kernel_rfl
 ·rw [isSubtype_type]; kernel_rfl
theorem lV:entryFor table "set_iterator.__next__" = some Builtin.«set_iterator.__next__»:=entryFor_of_tree (by kernel_rfl)
theorem sN:entryFor table "set.__iter__" = some Builtin.«frozenset.__iter__»:=entryFor_alias (id':="frozenset.__iter__") (by kernel_rfl) rfl (by decide +kernel) (by kernel_rfl)
theorem xT:entryFor table "set_iterator.__iter__" = some Builtin.«dict_keyiterator.__iter__»:=entryFor_alias (id':="dict_keyiterator.__iter__") (by kernel_rfl) rfl (by decide +kernel) (by kernel_rfl)
theorem qv:Manifest.owners.lookup (String.ofList ['r','o','t','a','r','e','t','i','_','t','e','s'].reverse)=some Manifest.sig_set_iterator:=by kernel_rfl
theorem nY (a:Value):argsOk "set_iterator.__next__" ⟨[a],[]⟩:=by
 unfold argsOk;rw [signature?_of (id:="set_iterator.__next__") (n:=['_','_','t','x','e','n','_','_']) (o:=['r','o','t','a','r','e','t','i','_','t','e','s']) (by kernel_rfl) qv]
 kernel_rfl
theorem zK (a:Value):argsOk "set_iterator.__iter__" ⟨[a],[]⟩:=by
 unfold argsOk;rw [signature?_of (id:="set_iterator.__iter__") (n:=['_','_','r','e','t','i','_','_']) (o:=['r','o','t','a','r','e','t','i','_','t','e','s']) (by kernel_rfl) qv]
 kernel_rfl
noncomputable def cY (h:Heap) (a:Addr) (es:Array (Int×Value)) (ep:Nat) (t:SetTable):Prop:=∃ o,h.get? a=some o/\o.ExactSet/\o.data=.set es ep t
noncomputable def Ds (h:Heap) (it a:Addr) (slot i n ep:Nat):Prop:=∃ o,h.get? it=some o/\o.cls=.type "set_iterator" /\ o.data=.fields #[.int slot 0,.int i 0,.ref a,.int n 0,.int ep 0]
theorem cY.keep {h h':Heap}{a:Addr}{es:Array (Int×Value)}{ep:Nat}{t:SetTable} (x:cY h a es ep t) (k:∀ o,h.get? a=some o->h'.get? a=some o):cY h' a es ep t:=let ⟨o,e,r⟩:=x; ⟨o,k o e,r⟩
theorem cY.ty {s:Shared}{a:Addr}{es:Array (Int×Value)}{ep:Nat}{t:SetTable} (x:cY s.heap a es ep t):s.TypeIs (.ref a) "set":=let ⟨o,e,r,_⟩:=x; ⟨o,e,r.1⟩
theorem Ds.ty {s:Shared}{it a:Addr}{slot i n ep:Nat} (x:Ds s.heap it a slot i n ep):s.TypeIs (.ref it) "set_iterator":=let ⟨o,e,r,_⟩:=x; ⟨o,e,r⟩
section
variable {prog:Program}{w:World}{A:Around}{E:Value->Shared->Prop}{s:Shared}{a it:Addr}{es:Array (Int×Value)}{ep i:Nat}{t:SetTable}
theorem xZ (a:Addr):setDrawn a=(setState a >>= fun r=>setsByText >>= fun b=>pure (!b&&(!r.2.2.plain&&decide (r.1.size > 1)))):=rfl
theorem wY {Q:Value->Shared->Prop} (m:cY s.heap a es ep t) (hf:t.fits es.size=true) (hp:t.plain=true)
  (q:Q (.ref s.heap.objs.size) { s with heap:=s.heap.push { cls:=.type "set_iterator",data:=.fields #[.int 0 0,.int 0 0,.ref a,.int es.size 0,.int ep 0] } }):wpAny (model prog w) A (pyIter (.ref a)) Q E s:=by
 have T:=m.ty;obtain ⟨o,e1,e2,e3⟩:=m;refine wpAny_pyIter_slot T PySem.F.slot_set_iter (wpAny_call_entry PySem.F.slot_set_iter T sN ?_ (PySem.F.args_set_iter_1 _));unfold Builtin.«frozenset.__iter__»;refine wpAny_bind (m:=Builtin.Frozenset.slot0 "__iter__" _) (wpAny_pure ?_);refine wpAny_bind (m:=Builtin.Frozenset.sizeOf a) (wpAny_bind (wpAny_bind (wpAny_setState_of e1 e3 hf (wpAny_pure (wpAny_pure ?_)))));rw [xZ];refine wpAny_bind (wpAny_bind (wpAny_setState_of e1 e3 hf (wpAny_bind ?_)));unfold setsByText;refine wpAny_bind (wpAny_askSetting (wpAny_pure (wpAny_pure ?_)));dsimp only;rw [hp];simp only [Bool.not_true,Bool.false_and,Bool.and_false,Bool.false_eq_true,if_false];refine wpAny_bind (wpAny_pure (wpAny_bind (wpAny_setEpoch_of e1 e3 hf ?_)));refine wpAny_bind (wpAny_newObj_type (wpAny_pure ⟨_,rfl,"set_iterator",_,⟨_,Heap.get?_push_size _ rfl,rfl⟩,eO.lookup,?_⟩));simpa [rawInt] using q
noncomputable def e_ (byText:Bool) (next:Nat->Nat) (es:Array (Int×Value)):Array (Int×Value):=if byText=true then pickOrder next es else es
theorem qh {Q:Option (Value×Nat)->Shared->Prop}{slot:Nat} (m:cY s.heap a es ep t) (hf:t.fits es.size=true) (hp:t.plain=true) (hl:w.params.followText "set-order" = false->t.led=true/\SetTable.below t.place slot=i)
  (q:∀ r,(r.map (·.1)=((e_ (w.params.followText "set-order") (w.params.setOrder a ep) es)[i]?).map (·.2))->(w.params.followText "set-order" = false->i < es.size->r.map (·.2)=some (t.place.getD i 0+1))->Q r s):wpAny (model prog w) A (setNext a slot i ep) Q E s:=by
 obtain ⟨o,e1,e2,e3⟩:=m;have hsz:t.place.size=es.size:=by simp only [SetTable.fits,Bool.and_eq_true,beq_iff_eq] at hf; exact hf.1
 unfold setNext;refine wpAny_bind (wpAny_setState_of e1 e3 hf ?_);dsimp only;unfold setsByText;refine wpAny_bind (wpAny_bind (wpAny_askSetting (wpAny_pure ?_)));dsimp only;cases hb:(model prog w).w.params.followText "set-order" with
 | true =>
  have hb:w.params.followText "set-order" = true:=hb;rw [if_pos rfl,if_neg (by simp)];unfold setWalk;refine wpAny_bind (wpAny_bind (wpAny_setState_of e1 e3 hf ?_));unfold setsByText;refine wpAny_bind (wpAny_bind (wpAny_askSetting (wpAny_pure ?_)));show wpAny _ _ (if w.params.followText "set-order" = true then _ else _) _ _ _;rw [if_pos hb];refine wpAny_bind (wpAny_askSetting (wpAny_pure (wpAny_pure (q _ ?_ (fun z=>by rw [hb] at z; cases z)))));unfold e_;rw [hb,if_pos rfl,Option.map_map];rfl
 | false =>
  have hb:w.params.followText "set-order" = false:=hb;obtain ⟨l1,l2⟩:=hl hb;rw [if_neg Bool.false_ne_true];split
  ·next h =>
   have h:(!t.plain&&decide (es.size > 1))=true:=h;rw [hp] at h;exact absurd h Bool.false_ne_true
  refine wpAny_bind ?_;show wpAny _ _ (if (!t.led&&!es.isEmpty)=true then _ else pure ()) _ _ _;rw [l1,if_neg (by simp)];refine wpAny_pure (wpAny_pure ?_);rw [l2];unfold e_ at q;rw [hb,if_neg Bool.false_ne_true] at q
  by_cases hi:i < es.size
  ·have hi2:i < t.place.size:=by omega
   rw [Array.getElem?_eq_getElem hi,Array.getElem?_eq_getElem hi2] at *;refine q _ rfl fun _ _=>?_;simp [hi2]
  ·rw [Array.getElem?_eq_none (by omega),Array.getElem?_eq_none (by omega)] at *
   exact q _ rfl fun _ z=>absurd z hi
theorem gA (b:Bool) (next:Nat->Nat) (es:Array (Int×Value)):(e_ b next es).size=es.size:=by
 unfold e_;split
 ·have:=(nu next es).length_eq
  simpa using this
 ·rfl
structure Laid (w:World) (es:Array (Int×Value)) (t:SetTable):Prop where
 fits:t.fits es.size=true
 plain:t.plain=true
 led:w.params.followText "set-order" = false->t.led=true
 below:∀ k,k<=es.size->SetTable.below t.place (AA t k)=k
noncomputable def Ca (w:World) (it a:Addr) (es:Array (Int×Value)) (ep:Nat) (t:SetTable) (i:Nat) (h:Heap):Prop :=
 (∃ slot,(w.params.followText "set-order" = false->slot=AA t i)/\Ds h it a slot i es.size ep)/\cY h a es ep t
theorem wZ {Q:Option Value->Shared->Prop}{e:Int×Value} (L:Laid w es t) (hne:a≠it) (st:Ca w it a es ep t i s.heap) (hx:(e_ (w.params.followText "set-order") (w.params.setOrder a ep) es)[i]? = some e)
  (q:∀ h',Ca w it a es ep t (i+1) h'->Heap.SameBut it s.heap h'->Q (some e.2) { s with heap:=h' }):wpAny (model prog w) A (pyNext (.ref it)) Q E s:=by
 obtain ⟨⟨slot,hs,hi⟩,m⟩:=st;have T:=hi.ty;obtain ⟨o,a1,a2,a3⟩:=id hi;obtain ⟨od,e1,_,e3⟩:=id m;have lt:i < es.size:=by
  have:=(Array.getElem?_eq_some_iff.mp hx).1;rw [gA] at this; exact this
 unfold pyNext;refine wpAny_bind (wpAny_attempt (wpAny_callSpecial?_slot (name:=Str.ofString "__next__") T eO (wpAny_call_entry eO T lV ?_ (nY _))));unfold Builtin.«set_iterator.__next__»;refine wpAny_bind (m:=slotArgs "__next__" 0 _) (wpAny_pure ?_);refine wpAny_bind (wpAny_fieldsOf a1 a3 ?_);dsimp only;refine wpAny_bind (wpAny_setEntries_of e1 e3 L.fits ?_);rw [if_neg (by simp)];refine wpAny_bind (qh m L.fits L.plain (fun z=>⟨L.led z,?_⟩) fun r h1 h2=>?_)
 ·rw [hs z]; exact L.below i (by omega)
 have hx:(e_ (w.params.followText "set-order") (w.params.setOrder a ((ep:Int)).toNat) es)[((i:Int)).toNat]? = some e:=hx;rw [hx] at h1;obtain ⟨x,nx,rfl⟩:∃ x nx,r=some (x,nx):=by
  cases r with
  | none=>cases h1
  | some p=>exact ⟨p.1,p.2,rfl⟩
 cases h1;dsimp only;refine wpAny_bind (wpAny_setField a1 a3 (by simp) ?_);have b1:=Heap.get?_update_self (Obj.mapFields (·.setIfInBounds 0 (rawInt (nx:Int)))) a1 (Obj.isFreed_of_fields (Obj.data_mapFields a3 _));have b3:=Obj.data_mapFields a3 (fun v=>v.setIfInBounds 0 (rawInt (nx:Int)));refine wpAny_bind (wpAny_setField b1 b3 (by simp) ?_);have c1:=Heap.get?_update_self (Obj.mapFields (·.setIfInBounds 1 (rawInt ((i:Int)+1)))) b1 (Obj.isFreed_of_fields (Obj.data_mapFields b3 _));have c3:=Obj.data_mapFields b3 (fun v=>v.setIfInBounds 1 (rawInt ((i:Int)+1)));have sb:=(Heap.SameBut.update s.heap it (Obj.mapFields (·.setIfInBounds 0 (rawInt (nx:Int))))).trans (Heap.SameBut.update _ it (Obj.mapFields (·.setIfInBounds 1 (rawInt ((i:Int)+1)))));refine wpAny_pure ⟨_,rfl,wpAny_pure (q _ ⟨⟨nx,fun z=>?_,_,c1,(Obj.cls_mapFields ..).trans ((Obj.cls_mapFields ..).trans a2),?_⟩,m.keep fun o z=>sb.extBut a o hne z⟩ sb)⟩
 ·have:=h2 z lt
  cases this; rfl
 ·rw [c3]; simp [rawInt]
theorem yN {Q:Option Value->Shared->Prop} (hh:A.handled=none) (L:Laid w es t) (st:Ca w it a es ep t es.size s.heap)
  (q:∀ h',Heap.ExtBut it s.heap h'->Q none { s with heap:=h' }):wpAny (model prog w) A (pyNext (.ref it)) Q E s:=by
 obtain ⟨⟨slot,hs,hi⟩,m⟩:=st;have T:=hi.ty;obtain ⟨o,a1,a2,a3⟩:=id hi;obtain ⟨od,e1,_,e3⟩:=id m;unfold pyNext;refine wpAny_bind (wpAny_attempt (wpAny_callSpecial?_slot (name:=Str.ofString "__next__") T eO (wpAny_call_entry eO T lV ?_ (nY _))));unfold Builtin.«set_iterator.__next__»;refine wpAny_bind (m:=slotArgs "__next__" 0 _) (wpAny_pure ?_);refine wpAny_bind (wpAny_fieldsOf a1 a3 ?_);dsimp only;refine wpAny_bind (wpAny_setEntries_of e1 e3 L.fits ?_);rw [if_neg (by simp)];refine wpAny_bind (qh m L.fits L.plain (fun z=>⟨L.led z,?_⟩) fun r h1 h2=>?_)
 ·rw [hs z]; exact L.below es.size (Nat.le_refl _)
 have hx:(e_ (w.params.followText "set-order") (w.params.setOrder a ((ep:Int)).toNat) es)[((es.size:Int)).toNat]? = none:=Array.getElem?_eq_none (by rw [gA]; exact Nat.le_refl _);rw [hx] at h1;obtain rfl:r=none:=by
  cases r with
  | none=>rfl
  | some p=>cases h1
 dsimp only;refine wpAny_bind (wpAny_setField a1 a3 (by simp) ?_);refine wpAny_bind ?_;simp only [newExc,newTuple];refine wpAny_bind (wpAny_newObj_type ?_ (by size_fits));refine wpAny_bind (m:=firstArgMember _ _) (wpAny_of_eq (a:=Value.none) (by first | rfl | (simp only [firstArgMember]; rfl)) (wpAny_newObj_type ?_ (by size_fits)));simp only [raiseNew];refine wpAny_bind (wpAny_handled ?_);rw [show A.in1.handled=none from hh];refine wpAny_bind (wpAny_pure (wpAny_throw ?_));refine wpAny_bind (wpAny_isInstance (T:="StopIteration") (b:=true) ⟨_,Heap.get?_push_size _ rfl,rfl⟩ PySem.isSubtype_stop ?_);exact wpAny_pure (q _ (((Heap.SameBut.update ..).extBut.push _).push _))
theorem wW {Q:Value->Shared->Prop} (st:Ca w it a es ep t i s.heap) (q:Q (.ref it) s):wpAny (model prog w) A (pyIter (.ref it)) Q E s:=by
 obtain ⟨⟨slot,hs,hi⟩,m⟩:=st;have T:=hi.ty;refine wpAny_pyIter_slot T m9 (wpAny_call_entry m9 T xT ?_ (zK _));show wpAny _ _ (ret (.ref it)) _ _ s;exact wpAny_pure ⟨_,rfl,"set_iterator",_,T,eO.lookup,q⟩
theorem uP (hh:A.handled=none) (hne:a≠it) (L:Laid w es t) :
  Walks prog w A it [it,a] [it] es.size (fun i v=>∃ e,(e_ (w.params.followText "set-order") (w.params.setOrder a ep) es)[i]? = some e/\v=e.2) (Ca w it a es ep t) where
 sub:=fun b z=>by simp at z; simp [z]
 frame:=fun _ _ _ st k=>by
  obtain ⟨⟨slot,hs,o,a1,r⟩,m⟩:=st;exact ⟨⟨slot,hs,o,k it (by simp) o a1,r⟩,m.keep fun o z=>k a (by simp) o z⟩
 item:=fun i s Q E hi st q=>by
  have hi2:i < (e_ (w.params.followText "set-order") (w.params.setOrder a ep) es).size:=by rw [gA]; exact hi
  refine wZ L hne st (Array.getElem?_eq_getElem hi2) fun h' h1 h2=>?_;exact q _ h' s.toks ⟨_,Array.getElem?_eq_getElem hi2,rfl⟩ h1 fun b o hb z=>h2.extBut b o (fun y=>hb (by simp [y])) z
 done:=fun s Q E st q=>yN hh L st fun h' h1=>q h' s.toks fun b o hb z=>h1 b o (fun y=>hb (by simp [y])) z
 self:=fun _ _ _ _ st q=>wW st q
end
section
variable {prog:Program}{w:World}{A:Around}{E:Value->Shared->Prop}{s:Shared}{a:Addr}{es:Array (Int×Value)}{ep:Nat}{t:SetTable}
theorem qa {es':Array (Int×Value)}{t':SetTable}{h:Heap} (m:cY h a es ep t):cY (h.update a (Obj.putSet es' t')) a es' (ep+1) t':=by
 obtain ⟨o,e1,e2,e3⟩:=m;have g:=Heap.get?_update_self (Obj.putSet es' t') e1 (by rw [putSet_of es' t' e3]; rfl);rw [putSet_of es' t' e3] at g;exact ⟨_,g,e2,rfl⟩
theorem qg {g:Bool->Sem Unit} (hg:∀ (b:Bool) (s₁:Shared) (Q':Unit->Shared->Prop),Q' () s₁->wpAny (model prog w) A (g b) Q' E s₁) {es1:Array (Int×Value)}{t1:SetTable}{wd:Bool}{R:Option Bool->Shared->Prop} (m:cY s.heap a es ep t)
  (z1:es1.size<=sizeLine) (z2:(relayAll t1 es1 (SetTable.grown es1.size)).1.size<=sizeLine)
  (q:∀ h' ep',Heap.SameBut a s.heap h'->cY h' a (if (!wd&&t1.tooFull)=true then (relayAll t1 es1 (SetTable.grown es1.size)).1 else es1) ep' (if (!wd&&t1.tooFull)=true then (relayAll t1 es1 (SetTable.grown es1.size)).2.1 else t1)->R (some true) { s with heap:=h' }) :
  wpAny (model prog w) A (do
   storeSet a es1 t1
   if (!wd&&t1.tooFull)=true then do
    g (relayAll t1 es1 (SetTable.grown es1.size)).2.2
    storeSet a (relayAll t1 es1 (SetTable.grown es1.size)).1 (relayAll t1 es1 (SetTable.grown es1.size)).2.1
    pure (some true)
   else pure (some true)) R E s:=by
 obtain ⟨o,e1,e2,e3⟩:=id m;refine wpAny_bind (wpAny_storeSet_of e1 e3 ?_ z1);have m1:=qa (es':=es1) (t':=t1) m;have b1:=Heap.SameBut.update s.heap a (Obj.putSet es1 t1);split
 ·next hc =>
  rw [if_pos hc,if_pos hc] at q;refine wpAny_bind (hg _ _ _ ?_);obtain ⟨o1,f1,f2,f3⟩:=id m1;refine wpAny_bind (wpAny_storeSet_of f1 f3 ?_ z2);exact wpAny_pure (q _ _ (b1.trans (Heap.SameBut.update _ a _)) (qa m1))
 ·next hc =>
  rw [if_neg hc,if_neg hc] at q;exact wpAny_pure (q _ _ b1 m1)
theorem yO {k:Int}{tok:Tok}{Q:Bool->Shared->Prop} (m:cY s.heap a es ep t) (hf:t.fits es.size=true) (hel:ElemsOf (intKind prog w) es.toList) (hb:es.size+1 < scanBound) (hno:∀ e∈es.toList,(intKind prog w).is k e.2=false)
  (q:∀ h' ep',Heap.SameBut a s.heap h'->cY h' a (ci es t (hashInt k) (.int k tok)).1 ep' (ci es t (hashInt k) (.int k tok)).2->Q true { s with heap:=h' }) :
  wpAny (model prog w) A (setAddHashed a (.int k tok) (hashInt k)) Q E s:=by
 have ki:(intKind prog w).is k (.int k tok)=true:=by simp [intKind,Value.isInt]
 obtain ⟨o,e1,e2,e3⟩:=id m;unfold setAddHashed setAddHashedIn;refine wpAny_holding (wpAny_bind (wpAny_setState_of e1 e3 hf ?_));dsimp only;rw [byScan_of (knd:=intKind prog w) rfl (by omega) hel,if_pos rfl];unfold setAddByScan;refine wpAny_bind (wpAny_bind (wpAny_rule (wpAny_bind (wpAny_setScan_of (knd:=intKind prog w) ki e1 e3 hf hel ?_))));have fn:es.toList.findIdx? (fun e=>(intKind prog w).is k e.2)=none:=by
  rw [List.findIdx?_eq_none_iff]; exact hno
 rw [fn];dsimp only;have gw:∀ (b:Bool) (s₁:Shared) (Q':Unit->Shared->Prop),Q' () s₁->wpAny (model prog w) A (match b with | true=>rule "set.scan.the-table-gave-way" | false=>pure ()) Q' E s₁:=fun b s₁ Q' h=>by
  cases b
  ·exact wpAny_pure h
  ·exact wpAny_rule h
 have p1:=(layNew_perm t es (hashInt k) (.int k tok)).length_eq;unfold ci at q;generalize layNew t es (hashInt k) (.int k tok)=L at *;obtain ⟨es1,t1,wd,gave⟩:=L;dsimp only at p1 q ⊢;have n1:es1.size=es.size+1:=by simpa using p1
 have z1:es1.size<=sizeLine:=fits_of_scanBound (by omega);have z2:(relayAll t1 es1 (SetTable.grown es1.size)).1.size<=sizeLine:=by
  have:=(relayAll_perm t1 es1 (SetTable.grown es1.size)).length_eq
  have:(relayAll t1 es1 (SetTable.grown es1.size)).1.size=es1.size:=by simpa using this
  omega
 have q:∀ h' ep',Heap.SameBut a s.heap h'->cY h' a (if (!wd&&t1.tooFull)=true then (relayAll t1 es1 (SetTable.grown es1.size)).1 else es1) ep' (if (!wd&&t1.tooFull)=true then (relayAll t1 es1 (SetTable.grown es1.size)).2.1 else t1)->Q true { s with heap:=h' }:=fun h' ep' b m'=>by
  refine q h' ep' b ?_;split
  ·next hc=>rw [if_pos hc,if_pos hc] at m'; exact m'
  ·next hc=>rw [if_neg hc,if_neg hc] at m'; exact m'
 refine wpAny_bind (gw gave _ _ ?_);split
 ·refine wpAny_bind ?_
  rw [hashByValue_scannable 8 rfl];refine wpAny_pure ?_;exact qg gw m z1 z2 fun h' ep' b m'=>wpAny_pure (q h' ep' b m')
 ·refine wpAny_bind (wpAny_pure ?_)
  exact qg gw m z1 z2 fun h' ep' b m'=>wpAny_pure (q h' ep' b m')
end
theorem nK:entryFor table "set.update.loop" = some Builtin.«set.update.loop»:=entryFor_of_tree (by kernel_rfl)
theorem jc:plainId "set.update.loop" = true:=by decide +kernel
section
variable {prog:Program}{w:World}{A:Around}{R:Result->Shared->Prop}{I:Addr}{fp wr:List Addr}{G:Array GenState->Array GenState->Prop}{P:Nat->Value->Prop}{St:Nat->Shared->Prop}{ns:List Int}{f:Nat->Value}{led:Bool}
noncomputable def jy (led:Bool) (ns:List Int) (f:Nat->Value) (S:Addr) (i:Nat) (h:Heap):Prop:=∃ ep,cY h S ((fB led ns i).1.map (mq f)) ep (fB led ns i).2
theorem jy.keep {S:Addr}{i:Nat}{h h':Heap} (x:jy led ns f S i h) (k:∀ o,h.get? S=some o->h'.get? S=some o):jy led ns f S i h':=let ⟨ep,m⟩:=x; ⟨ep,m.keep k⟩
theorem zu (g:mU led ns=true) {i:Nat} (hi:i<=ns.length):(fB led ns i).2.fits (fB led ns i).1.size=true/\(fB led ns i).1.size=i/\∀ e∈(fB led ns i).1.toList,e.2 < i/\e.1=hashInt (ns.getD e.2 0):=by
 have h:=List.all_eq_true.mp g i (List.mem_range.mpr (by omega));simp only [Bool.and_eq_true,beq_iff_eq,List.all_eq_true,decide_eq_true_eq] at h;exact ⟨h.1.1,h.1.2,h.2⟩
theorem wX (W:WalksS prog w A.in1 I fp wr G ns.length P St) (S:Addr) (hSf:S∉fp) (hval:∀ i v,P i v->v=f i) (hf:∀ i,i < ns.length->∃ t,f i=.int (ns.getD i 0) t) (nd:ns.Nodup) (g:mU led ns=true) (hb:ns.length+1 < scanBound) :
  ∀ (k i:Nat) (s:Shared),ns.length - i=k->i<=ns.length->St i s->jy led ns f S i s.heap->(∀ s',Moved (S :: wr) G s s'->jy led ns f S ns.length s'.heap->R (.ok (.ret .none)) s') ->
   codeAny (model prog w) A (.builtin "set.update.loop" ⟨[.ref S,.ref I],[]⟩) R s:=by
 have hSw:S∉wr:=fun h=>hSf (W.sub _ h);intro k
 induction k with
 | zero =>
  intro i s hk hi hst m r;have e:i=ns.length:=by omega
  subst e;refine codeAny_builtin nK ?_;rw [Around.under_plainId jc _];show wpAny _ A.in1 (pyNext (.ref I) >>= _) _ _ s;refine wpAny_bind (W.done s _ _ hst fun s' hm=>?_);show wpAny _ A.in1 (ret Value.none) _ _ s';exact wpAny_pure (r s' (hm.mono fun b z=>List.mem_cons_of_mem _ z) (m.keep fun o z=>hm.heap S o hSw z))
 | succ k ih =>
  intro i s hk hi hst m r;have lt:i < ns.length:=by omega
  refine codeAny_builtin nK ?_;rw [Around.under_plainId jc _];show wpAny _ A.in1 (pyNext (.ref I) >>= _) _ _ s;refine wpAny_bind (W.item i s _ _ lt hst fun v s' hP hst' hm=>?_);obtain ⟨tk,ef⟩:=hf i lt;obtain rfl:v=.int (ns.getD i 0) tk:=(hval i v hP).trans ef;obtain ⟨ep,m'⟩:=m.keep (h':=s'.heap) fun o z=>hm.heap S o hSw z;obtain ⟨g1,g2,g3⟩:=zu g hi;show wpAny _ A.in1 (holding [Value.int (ns.getD i 0) tk] (setAdd S (.int (ns.getD i 0) tk)) >>= _) _ _ s';refine wpAny_bind (wpAny_holding ?_);unfold setAdd;refine wpAny_holding (wpAny_bind ((intKind prog w).pyHash (k:=ns.getD i 0) (by simp [intKind,Value.isInt]) ?_));have mem:∀ e∈((fB led ns i).1.map (mq f)).toList,∃ j,j < i/\e.1=hashInt (ns.getD j 0)/\∃ t,e.2=.int (ns.getD j 0) t:=fun e he=>by
   rw [Array.toList_map] at he;obtain ⟨e',h1,rfl⟩:=List.mem_map.mp he;obtain ⟨h2,h3⟩:=g3 e' h1;exact ⟨e'.2,h2,h3,hf e'.2 (by omega)⟩
  have ea:ci ((fB led ns i).1.map (mq f)) (fB led ns i).2 (hashInt (ns.getD i 0)) (.int (ns.getD i 0) tk)=((fB led ns (i+1)).1.map (mq f),(fB led ns (i+1)).2):=by
   rw [<- ef]; exact zM f _ _ _ i
  refine yO (s:={ s' with toks:=s'.toks+1 }) m' (by rw [Array.size_map]; exact g1) (fun e he=>?_) (by rw [Array.size_map,g2]; omega) (fun e he=>?_) fun h' ep' sb m2=>?_
  ·obtain ⟨j,_,h1,t,h2⟩:=mem e he
   exact ⟨⟨ns.getD j 0,by rw [h2]; simp [intKind,Value.isInt],h1⟩,by rw [h2]; rfl⟩
  ·obtain ⟨j,hj,_,t,h2⟩:=mem e he
   rw [h2];have ne:ns.getD i 0≠ns.getD j 0:=by
    rw [List.getD_eq_getElem?_getD,List.getD_eq_getElem?_getD,List.getElem?_eq_getElem lt,List.getElem?_eq_getElem (by omega)];intro z;have:=(List.getElem_inj nd).mp (show ns[i]=ns[j] from z);omega
   simp [intKind,Value.isInt];exact fun z=>ne z.symm
  ·rw [ea] at m2
   refine wpAny_pure ⟨plainId_quiet jc _,ih (i+1) _ (by omega) lt (W.frame _ s' _ _ hst' (Nat.le_succ _) fun b hb o z=>?_) ⟨ep',m2⟩ fun s2 hm2 x=>?_⟩
   ·rw [sb.2 b fun y=>hSf (y ▸ hb)]; exact z
   ·refine r s2 (Moved.trans W.gtrans ((hm.mono fun b z=>List.mem_cons_of_mem _ z).then_heap (Nat.le_succ _) fun b o hb z=>?_) hm2) x
    rw [sb.2 b fun y=>hb (by rw [y]; exact List.mem_cons_self)]; exact z
end
end S7
namespace S7
open PySem PyProof.Rows
section
variable {prog:Program}{w:World}{A:Around}{E:Value->Shared->Prop}{s:Shared}
abbrev kB (w:World):Obj:={ cls:=.type "set",dict:=none,data:=.set #[] 0 (.fresh 0 0 (!w.params.followText "set-order")) }
theorem yL (a:Value) {Q₁:Value->Shared->Prop} (q:Q₁ (.ref s.heap.objs.size) { s with heap:=s.heap.push (kB w) }) :
  codeAny (model prog w) A (.call (.builtin "set.__new__") ⟨[.type "set",a],[]⟩) (wants Q₁ E) s:=by
 refine codeAny_of_tree ?_;show wpAny _ A.in1 (checkBuiltinCall "set.__new__" ⟨[.type "set",a],[]⟩ >>= fun _=>again (.builtin "set.__new__" ⟨[.type "set",a],[]⟩)) _ _ s;refine wpAny_bind (wpAny_of_eq (PySem.F.newCall_set_1 a) (wpAny_pure ⟨plainId_quiet F.plain_set_new _,codeAny_builtin F.entry_set_new ?_⟩));rw [Around.under_plainId F.plain_set_new _];unfold Builtin.«set.__new__» Builtin.Frozenset.newClass;have sub:=sub_set_self;obtain ⟨hp,gs,dr,tk,os⟩:=s;dsimp only
 wp_walk
 refine wpAny_askSetting (wpAny_pure ?_);dsimp only;simp only [newObj];exact wpAny_bind (wpAny_alloc (wpAny_pure (wpAny_pure q)))
theorem w6 {l:Addr}{items:Array Value}{ns:List Int}{Q:Value->Shared->Prop} (hh:A.handled=none) (hl:s.heap.IsList l items) (hi:IntsAre items.toList ns) (hn:items.size=ns.length) (nd:ns.Nodup) (hb:ns.length+1 < scanBound) (g:mU (!w.params.followText "set-order") ns=true)
  (q:∀ (h':Heap) (tk:Nat),jy (!w.params.followText "set-order") ns (fun i=>items.getD i Value.none) s.heap.objs.size ns.length h'->(∀ b o,s.heap.get? b=some o->h'.get? b=some o)->Q (.ref s.heap.objs.size) { s with heap:=h',toks:=tk }) :
  wpAny (model prog w) A (call (.type "set") [.ref l]) Q E s:=by
 obtain ⟨c,tl,mro⟩:=F.called_set.mro;have made:=F.called_set.made;have sub:=F.called_set.sub;refine wpAny_call (codeAny_of_tree ?_);show wpAny _ _ (callAny (.type "set") _) _ _ _;refine wpAny_pure ⟨Code.quiet_builtin _ (by decide +kernel),codeAny_builtin F.entry_type_call ?_⟩;rw [Around.under_plain (weight_type_call_type "set" [.ref l] []) rfl];have c1:=F.called_set.notType;have c2:=F.called_set.canCreate;have c3:=PySem.F.typeCall_set_1 (.ref l)
 repeat (any_goals (first | assumption | wp_step))
 refine codeAny_mono (yL (.ref l) (E:=E) (Q₁:=fun obj s₁=>obj=.ref s.heap.objs.size/\s₁={ s with heap:=s.heap.push (kB w) }) ⟨rfl,rfl⟩) fun r s₁ hr=>?_;cases r with
 | error e=>exact hr
 | ok fl =>
  cases fl with
  | ret obj =>
   obtain ⟨rfl,rfl⟩:=hr;have hS:(s.heap.push (kB w)).get? s.heap.objs.size=some (kB w):=Heap.get?_push_size _ rfl;have hT:Shared.TypeIs { s with heap:=s.heap.push (kB w) } (.ref s.heap.objs.size) "set":=⟨_,hS,rfl⟩;have i1:=F.called_set.init.lookup;have i2:=F.called_set.init.bind (.ref s.heap.objs.size)
   repeat (any_goals (first | assumption | wp_step))
   refine codeAny_mono (codeAny_call_builtin (R:=wants (fun r s₂=>r=.none/\∃ h' tk,s₂={ s with heap:=h',toks:=tk }/\jy (!w.params.followText "set-order") ns (fun i=>items.getD i Value.none) s.heap.objs.size ns.length h'/\∀ b o,s.heap.get? b=some o->h'.get? b=some o) E)
    F.called_set.init.plain PySem.F.entry_set_init (check_set_init_1 hT ?_)) fun r₂ s₂ hr₂=>?_
   ·obtain ⟨ol,l1,l2,nl,l3⟩:=hl
    obtain ⟨ocls,odict,odata,oslots⟩:=ol;simp only at l2 l3;subst l2; subst l3;have l4:(s.heap.push (kB w)).get? l=some { cls:=.type "list",dict:=odict,data:=.seq items nl,slots:=oslots }:=Heap.get?_push_of_some _ l1;have u1:=PySem.F.sub_list_set;have u2:=PySem.F.sub_list_frozenset;have u3:(Value.type "list" == Value.type "dict")=false:=by decide
    have hl1:(s.heap.push (kB w)).IsList l items:=⟨_,l4,rfl,nl,rfl⟩;unfold Builtin.«set.__init__» noKeywords Builtin.Frozenset.updateFrom;generalize hPI:pyIter=PI
    wp_walk
    subst hPI;refine wpAny_pyIter_list hl1 (wpAny_bind (wpAny_runValue ?_));have lS:l < s.heap.objs.size:=Heap.lt_size l1;have zS:(s.heap.push (kB w)).objs.size=s.heap.objs.size+1:=Heap.size_push ..;have hneI:l≠(s.heap.push (kB w)).objs.size:=by rw [zS]; exact Nat.ne_of_lt (Nat.lt_succ_of_lt lS)
    have hSf:s.heap.objs.size∉[(s.heap.push (kB w)).objs.size,l]:=by
     rw [zS]; simp only [List.mem_cons,List.not_mem_nil,or_false,not_or]; exact ⟨Nat.ne_of_lt (Nat.lt_succ_self _),Nat.ne_of_gt lS⟩
    have W:=(Walks.list (prog:=prog) (w:=w) (A:=A.in1.in1.in1) (by simp [hh]) _ l hneI items).toS;rw [hn] at W;refine wX (f:=fun i=>items.getD i Value.none) (led:=!w.params.followText "set-order") W s.heap.objs.size hSf (fun i v hv=>?_) (fun i hi'=>?_) nd g hb (ns.length - 0) 0 _ rfl (Nat.zero_le _) ⟨⟨_,Heap.get?_push_size _ rfl,rfl,rfl⟩,hl1.push _⟩ ?_ ?_
    ·obtain ⟨h1,h2⟩:=Array.getElem?_eq_some_iff.mp hv
     rw [<- h2]; simp [h1]
    ·obtain ⟨t,e⟩:=IntsAre.int_at hi i (items.getD i Value.none) (by rw [Array.getElem?_toList]; simp [hn,hi'])
     exact ⟨t,e⟩
    ·refine ⟨0,kB w,Heap.get?_push_of_some _ hS,⟨rfl,rfl,rfl⟩,?_⟩
     show Data.set #[] 0 _=Data.set (Array.map _ #[]) 0 _;rw [Array.map_empty]; rfl
    ·intro s' hm x
     obtain ⟨h',g',d',tk',os'⟩:=s';have eg:g'=s.gens:=hm.gens;have ed:d'=s.drawn:=hm.drawn;have eo:os'=s.os:=hm.os;subst eg; subst ed; subst eo;show wpAny _ _ _ _ _ _;refine wpAny_pure ?_;show wpAny _ _ (ret Value.none) _ _ _;refine wpAny_pure ⟨rfl,h',tk',rfl,x,fun b o e=>?_⟩;have hb':=Heap.lt_size e;exact hm.heap b o (by rw [zS]; simp only [List.mem_cons,List.not_mem_nil,or_false,not_or]; exact ⟨Nat.ne_of_lt hb',Nat.ne_of_lt (Nat.lt_succ_of_lt hb')⟩) (Heap.get?_push_of_some _ (Heap.get?_push_of_some _ e))
   ·cases r₂ with
    | error e=>exact hr₂
    | ok fl₂ =>
     cases fl₂ with
     | ret r =>
      obtain ⟨rfl,h',tk,rfl,x,hk'⟩:=hr₂
      repeat (any_goals (first | assumption | wp_step))
      exact q _ _ x hk'
     | _=>exact hr₂.elim
  | _=>exact hr.elim
end
end S7
namespace S7
open PySem PySem.Calls PyProof.Rows PyProof.V PySem.Spec PySem.W
section
variable {prog:Program}{w:World}{A:Around}{E:Value->Shared->Prop}{s:Shared}{a:Addr}{es:Array (Int×Value)}{ep:Nat}{t:SetTable}{ns:List Int}
theorem sg (ns:List Int):(List.range ns.length).map (fun i=>ns.getD i 0)=ns:=by
 refine List.ext_getElem (by simp) fun i h1 h2=>?_;simp [h2]
theorem cY.lt {h:Heap} (m:cY h a es ep t):a < h.objs.size:=let ⟨_,e,_⟩:=m; Heap.lt_size e
theorem xG {Q:Bool->Shared->Prop} (T:s.TypeIs (.ref a) "set") (q:Q false s):wpAny (model prog w) A (Builtin.List.listLengthHint (.ref a)) Q E s:=by
 unfold Builtin.List.listLengthHint;refine wpAny_bind (wpAny_specialOf T PySem.F.slot_set_len.lookup ?_);generalize hid:("set.__len__":String)=id0
 wp_delta
 have sp:splitId id0=some ("set","__len__"):=by subst hid; decide +kernel
 rw [sp];subst hid;refine wpAny_bind (wpAny_isInstance (T:="set") (b:=true) T sub_set_self ?_);refine wpAny_ite_split (fun z=>absurd z (by decide)) fun _=>wpAny_ite_split (fun _=>?_) fun z=>absurd (by decide +kernel) z;exact wpAny_bind (wpAny_typeOf T (wpAny_pure q))
theorem yK (L:Laid w es t):KdlSrc prog w "set" a a es.size (fun i v=>∃ e,(e_ (w.params.followText "set-order") (w.params.setOrder a ep) es)[i]? = some e/\v=e.2) (fun h=>cY h a es ep t) where
 type:=fun _ m=>m.ty
 there:=fun _ m=>⟨m.lt,m.lt⟩
 keep:=fun _ _ m k=>m.keep fun o z=>k a (.inl rfl) o z
 notList:=by decide
 notTuple:=by decide
 hint:=fun _ _ _ _ m q=>xG m.ty q
 iter:=fun _ _ hh m=>⟨_,_,(fun _ _ q=>wY m L.fits L.plain q),uP hh (Nat.ne_of_lt m.lt) L,⟨⟨0,fun _=>rfl,_,Heap.get?_push_size _ rfl,rfl,rfl⟩,m.keep fun o z=>Heap.get?_push_of_some _ z⟩⟩
noncomputable def uB:Value->Int
 | .int k _=>k
 | _=>0
theorem uf:∀ {vs:List Value},(∀ v∈vs,∃ k tk,v=.int k tk)->IntsAre vs (vs.map uB)
 | [],_=>.nil
 | v :: vs,h=>by
  obtain ⟨k,tk,rfl⟩:=h v List.mem_cons_self;exact .cons k tk (uf fun u hu=>h u (List.mem_cons_of_mem _ hu))
noncomputable def kR (w:World) (a:Addr) (ns:List Int) (h:Heap):Prop:=∃ es ep t,cY h a es ep t/\Laid w es t/\(∀ e∈es.toList,∃ k tk,e.2=.int k tk)/\(es.toList.map fun e=>uB e.2).Perm ns
theorem r9 {Q:Value->Shared->Prop} (hh:A.handled=none) (x:kR w a ns s.heap) (h64:ns.length < 64)
  (q:∀ (h1 h2:Heap) (tk:Nat) (out:Array Value) (ns':List Int) (e:Nat),(∀ b o,s.heap.get? b=some o->h1.get? b=some o)->(∀ b o,h1.get? b=some o->h2.get? b=some o)->h2.get? h1.objs.size=some (seqObj "list" out e)->IntsAre out.toList ns'->ns'.Perm ns->ns'.Pairwise (·<=·)->Q (.ref h1.objs.size) { s with heap:=h2,toks:=tk }) :
  wpAny (model prog w) A (call (.builtin "sorted") [.ref a]) Q E s:=by
 obtain ⟨es,ep,t,m,L,hk,hp⟩:=x;have hsz:es.size=ns.length:=by have:=hp.length_eq; simpa using this
 refine call_function_entry kind_sorted plain_sorted entry_sorted (args_sorted1 _) ?_;unfold Builtin.«sorted»;refine wpAny_bind (m:=checkCount "sorted" 1 1 _) (wpAny_pure ?_);refine wpAny_bind (kdu_collect (A:=A.in1) (yK (ep:=ep) L) hh m (by rw [hsz,sizeLine_eq]; omega) fun h' tk acc k hacc=>?_);have wp:(e_ (w.params.followText "set-order") (w.params.setOrder a ep) es).toList.Perm es.toList:=by
  unfold e_;split
  ·exact nu _ _
  ·exact List.Perm.refl _
 have ws:=gA (w.params.followText "set-order") (w.params.setOrder a ep) es;generalize e_ (w.params.followText "set-order") (w.params.setOrder a ep) es=wk at hacc wp ws;have ea:acc.toList=wk.toList.map (·.2):=by
  refine List.ext_getElem? fun j=>?_;rw [List.getElem?_map,Array.getElem?_toList,Array.getElem?_toList]
  by_cases hj:j < acc.size
  ·obtain ⟨e,h1,h2⟩:=hacc.2 j acc[j] (Array.getElem?_eq_getElem hj)
   rw [Array.getElem?_eq_getElem hj,h1,h2]; rfl
  ·have:=hacc.1
   rw [Array.getElem?_eq_none (by omega),Array.getElem?_eq_none (by omega)]; rfl
 have hI:IntsAre acc.toList (acc.toList.map uB):=uf fun v hv=>by
  rw [ea] at hv;obtain ⟨e,he,rfl⟩:=List.mem_map.mp hv;exact hk e (wp.mem_iff.mp he)
 have pn:(acc.toList.map uB).Perm ns:=by
  rw [ea,List.map_map];exact (wp.map _).trans hp
 have l64:acc.toList.length < 64:=by have:=pn.length_eq; rw [List.length_map] at this; omega
 generalize acc.toList=vs at hI pn l64;refine wpAny_bind (wpAny_newList ?_ (by rw [sizeLine_eq]; omega));have hoL:(h'.push (seqObj "list" vs.toArray 0)).get? h'.objs.size=some (seqObj "list" vs.toArray 0):=Heap.get?_push_size _ rfl;show wpAny _ _ _ _ _ { s with heap:=h'.push (seqObj "list" vs.toArray 0),toks:=tk };refine wpAny_bind (wpAny_holding (wpAny_call_entry slot_list_sort ⟨_,hoL,rfl⟩ entry_list_sort (list_sort_tree (s:={ s with heap:=h'.push (seqObj "list" vs.toArray 0),toks:=tk }) hoL hI l64 fun out ns' a1 a2 a3=>⟨_,rfl,?_⟩) (args_list_sort _)));obtain ⟨e1,ho1⟩:∃ e1,((h'.push (seqObj "list" vs.toArray 0)).update h'.objs.size (Obj.mapSeq fun _=>#[])).get? h'.objs.size=some (seqObj "list" #[] e1):=⟨_,get?_update_seq hoL (fun _=>#[])⟩;have ho2:=Heap.get?_push_of_some (seqObj "list" #[] 0) (Heap.get?_push_of_some (seqObj "tuple" vs.toArray 0) ho1);refine wpAny_pure ⟨_,rfl,q h' _ _ out ns' _ k (fun b o z=>?_) (get?_update_seq ho2 _) a1 (a2.trans pn) a3⟩;have lt:b < h'.objs.size:=Heap.lt_size z;show (sortedHeap (h'.push (seqObj "list" vs.toArray 0)) h'.objs.size vs out).get? b=some o;unfold sortedHeap;rw [Heap.get?_update_ne _ _ _ _ (Nat.ne_of_lt lt)];refine Heap.get?_push_of_some _ (Heap.get?_push_of_some _ ?_);rw [Heap.get?_update_ne _ _ _ _ (Nat.ne_of_lt lt)];exact Heap.get?_push_of_some _ z
theorem zi {led:Bool}{f:Nat->Value}{h:Heap} (hl:led=!w.params.followText "set-order") (g:vO led ns=true) (hf:∀ i,i < ns.length->∃ tk,f i=.int (ns.getD i 0) tk) (x:jy led ns f a ns.length h):kR w a ns h:=by
 obtain ⟨ep,m⟩:=x;unfold vO at g;simp only [Bool.and_eq_true,beq_iff_eq,List.all_eq_true,List.mem_range] at g;obtain ⟨⟨⟨⟨g1,g2⟩,g3⟩,g4⟩,g5⟩:=g;have pm:((fB led ns ns.length).1.toList.map (·.2)).Perm (List.range ns.length):=List.isPerm_iff.mp g4;have hsz:(fB led ns ns.length).1.size=ns.length:=by have:=pm.length_eq; simpa using this
 have hel:∀ e∈(fB led ns ns.length).1.toList,e.2 < ns.length:=fun e he=>List.mem_range.mp (pm.mem_iff.mp (List.mem_map_of_mem he));refine ⟨_,ep,_,m,⟨by rw [Array.size_map]; exact g3,g1,fun z=>by rw [g2,hl,z]; rfl,fun k hk=>g5 k (by rw [Array.size_map,hsz] at hk; omega)⟩,fun e he=>?_,?_⟩
 ·rw [Array.toList_map] at he
  obtain ⟨e',h1,rfl⟩:=List.mem_map.mp he;obtain ⟨tk,e2⟩:=hf e'.2 (hel e' h1);exact ⟨_,tk,e2⟩
 ·rw [Array.toList_map,List.map_map]
  have e1:(fB led ns ns.length).1.toList.map ((fun e=>uB e.2) ∘ mq f)=((fB led ns ns.length).1.toList.map (·.2)).map fun i=>ns.getD i 0:=by
   rw [List.map_map];refine List.map_congr_left fun e he=>?_;obtain ⟨tk,e2⟩:=hf e.2 (hel e he);show uB (f e.2)=_;rw [e2]; rfl
  rw [e1];refine (pm.map _).trans ?_;rw [sg]
end
end S7
namespace L2
open PySem PySem.Spec PyProof.Rows
noncomputable def rE (w:World) (a:Addr) (ns:List Int):HO:=.ext (S7.kR w a ns)
theorem yJ {P:Program}{w:World}{H:Hp}{h:Heap}{a:Addr}{ns:List Int} (x:S7.kR w a ns h):a6 P w H h a (rE w a ns):=by
 refine ⟨x,?_,?_⟩
 ·obtain ⟨_,_,_,⟨o,e,_⟩,_⟩:=x; exact ⟨o,e⟩
 ·rintro h1 h2 ⟨es,ep,t,m,r⟩ k; exact ⟨es,ep,t,m.keep k,r⟩
theorem rT {vs:List Value}{ns:List Int} (h:IntsAre vs ns):aL (ns.map V.int) vs:=by
 induction h with
 | nil=>exact .nil
 | cons n t h ih=>exact .cons ⟨_,rfl⟩ ih
section
variable {X:Cx}
theorem vy (hc:X.calm=true:=by rfl):bS X (.type "set") (fun xs H Q=>∃ (l:Addr) (ns:List Int),xs=[.ref l]/\a9 X.K H l (ns.map V.int)/\ns∈S7.mt S7.B7/\ns.Nodup/\ns.length < 64/\∀ p,H p=none->Q (.ref p) (aw H p (rE X.w p ns))):=by
 intro pins s σ H xs us Q I r h;obtain ⟨l,ns,rfl,hl,hs,nd,h64,q⟩:=h;obtain ⟨u,rfl,ru⟩:=dS r;cases ru;obtain ⟨its,rv,pl,_⟩:=I.list hl;have len:ns.length=its.length:=by have:=rv.length; simpa using this
 have ia:=lR rv;have g1:S7.mU (!X.w.params.followText "set-order") ns=true:=by
  cases X.w.params.followText "set-order"
  ·exact (S7.nZ ns hs).1
  ·exact (S7.nZ ns hs).2
 have g2:S7.vO (!X.w.params.followText "set-order") ns=true:=by
  cases X.w.params.followText "set-order"
  ·exact (S7.qL ns hs).1
  ·exact (S7.qL ns hs).2
 refine S7.w6 (items:=its.toArray) (ns:=ns) (I.ok.hd hc) pl.isList (by simpa using ia) (by simp [len]) nd (by show _ < 4096; omega) g1 fun h' tk x k=>?_;have y:S7.kR X.w s.heap.objs.size ns h':=S7.zi rfl g2 (fun i hi=>IntsAre.int_at ia i _ (by simp [len ▸ hi])) x;exact ⟨.ref s.heap.objs.size,_,I.laid (t':=tk) (o:=rE X.w s.heap.objs.size ns) k (Nat.le_refl _) (yJ y),rfl,q _ (I.hok.fresh (Nat.le_refl _))⟩
theorem sQ (hc:X.calm=true:=by rfl):bS X (.builtin "sorted") (fun xs H Q=>∃ (p:Addr) (ns:List Int),xs=[.ref p]/\H p=some (rE X.w p ns)/\ns.length < 64/\∀ ns':List Int,ns'.Perm ns->ns'.Pairwise (·<=·)->∀ q,H q=none->Q (.ref q) (aw H q (.lst (ns'.map V.int)))):=by
 intro pins s σ H xs us Q I r h;obtain ⟨p,ns,rfl,hp,h64,q⟩:=h;obtain ⟨u,rfl,ru⟩:=dS r;cases ru;obtain ⟨x,_,_⟩:=(show a6 X.prog X.w H s.heap p (rE X.w p ns) from I.hok p _ hp);refine S7.r9 (I.ok.hd hc) x h64 fun h1 h2 tk out ns' e k1 k2 hD ia pn pw=>?_;have I1:=I.kept (t':=tk) k1;refine ⟨.ref h1.objs.size,_,I1.laid (t':=tk) (o:=.lst (ns'.map V.int)) k2 (Nat.le_refl _) ⟨?_,out.toList,e,rT ia,by simpa using hD⟩,rfl,q ns' pn pw _ (I1.hok.fresh (Nat.le_refl _))⟩;rw [List.length_map,pn.length_eq,sizeLine_eq]; omega
theorem rk:bS X (.type "range") (fun xs H Q=>∃ j:Int,xs=[.int j]/\∀ p,H p=none->Q (.ref p) (aw H p (.rng 0 j))):=by
 intro pins s σ H xs us Q I r h;obtain ⟨j,rfl,q⟩:=h;obtain ⟨u,rfl,ru⟩:=dS r;obtain ⟨t,rfl⟩:=ru;refine call_range_1 ⟨.ref s.heap.objs.size,_,I.laid (o:=.rng 0 j) (fun b o e=>Heap.get?_push_of_some _ e) (Nat.le_refl _) ⟨_,_,_,Heap.get?_push_size _ rfl⟩,rfl,q _ (I.hok.fresh (Nat.le_refl _))⟩
theorem sU (hc:X.calm=true:=by rfl):bS X (.type "list") (fun xs H Q=>∃ (p:Addr) (n:Nat),xs=[.ref p]/\H p=some (.rng 0 n)/\n<=1000/\∀ l,H l=none->Q (.ref l) (aw H l (.lst ((List.range n).map fun k:Nat=>V.int k)))):=by
 intro pins s σ H xs us Q I r h;obtain ⟨p,n,rfl,hp,hn,q⟩:=h;obtain ⟨u,rfl,ru⟩:=dS r;cases ru;obtain ⟨t,u,v,hr⟩:=(show a6 X.prog X.w H s.heap p (.rng 0 n) from I.hok p _ hp);have e2:Builtin.Range.rangeSize 0 (n:Int) 1=(n:Int):=by rw [rangeSize_one]; split<;>omega
 refine call_list_range (n:=n) (I.ok.hd hc) (show IsRange s.heap p 0 n 1 t u v from hr) (small_one (by omega) (by omega) (by omega) (by omega)) e2 (by omega) fun h' tk acc c k hL hacc=>?_;have ha:acc.toList.length=n:=by rw [Array.length_toList]; exact hacc.1
 refine ⟨.ref s.heap.objs.size,_,I.laid (t':=tk) (o:=.lst ((List.range n).map fun k:Nat=>V.int k)) k (Nat.le_refl _) ⟨by rw [List.length_map,List.length_range,sizeLine_eq]; omega,acc.toList,c,?_,by simpa using hL⟩,rfl,q _ (I.hok.fresh (Nat.le_refl _))⟩;refine cc (by rw [List.length_map,List.length_range,ha]) fun j x y h1 h2=>?_;obtain ⟨tk',e⟩:=hacc.2 j y (by rw [<- Array.getElem?_toList]; exact h2);have hj:j < n:=by have:=(List.getElem?_eq_some_iff.mp h2).1; omega
 rw [List.getElem?_map,List.getElem?_range hj] at h1;cases h1;exact ⟨tk',by rw [e]; congr 1; omega⟩
end
end L2
namespace K07
open PySem L2
theorem r_:FnScope ["count","many"] ["count","many"] (ao fH):=e9
theorem gq:FnScope ["count","scribe","seen","least"] ["count","scribe","seen"] (ao cT):=e9
theorem lK:FnScope ["rows","best","row","place","entry"] ["rows"] (ao fI):=e9
theorem gP:FnScope ["said","place"] ["said"] (ao dD):=e9
theorem iJ:FnScope ["count","writings","writers","found","taken","number","scribe","place","saying","hands"] ["count","writings"] (ao fj):=e9
theorem gN:FnScope ["count","writings","pairs","place","number","saying","taken"] ["count","writings"] (ao eI):=e9
theorem lZ:FnScope ["self","own","count"] ["self","own","count"] (ao dR):=e9
theorem iV:FnScope ["self","number"] ["self","number"] (ao cO):=e9
theorem mz:FnScope ["self","number","place","saying"] ["self","number","place","saying"] (ao eK):=e9
theorem lY:FnScope ["self"] ["self"] (ao dQ):=e9
theorem my:FnScope ["self","number"] ["self","number"] (ao eJ):=e9
theorem oX:FnScope ["self","number","count"] ["self","number","count"] (ao fm):=e9
theorem oY:FnScope ["self","scribe","row"] ["self","scribe","row"] (ao fq):=e9
theorem d_:FnScope ["self","place","entry"] ["self"] (ao b6):=e9
theorem jD:FnScope ["self","saying","place"] ["self","saying"] (ao fR):=e9
theorem fy:FnScope ["self","scribe","place","hands"] ["self","scribe","place"] (ao cP):=e9
theorem dI:FnScope ["self","places"] ["self"] (ao bV):=e9
theorem oZ:FnScope ["self","count"] ["self","count"] (ao fw):=e9
theorem mC:FnScope ["self","number"] ["self","number"] (ao eL):=e9
theorem iL:FnScope ["self","own","number"] ["self","own"] (ao fu):=e9
theorem jE:FnScope ["self","own","other","lead","asked"] ["self","own","other"] (ao fT):=e9
theorem o_:FnScope ["self","own","number"] ["self","own","number"] (ao fx):=e9
theorem qM:FnScope ["self","own","saying"] ["self","own","saying"] (ao fS):=e9
theorem eZ:FnScope ["self","own","other","place","lead","writer","saying"] ["self","own","other","place"] (ao cB):=e9
theorem f_:FnScope ["self","own"] ["self","own"] (ao bW):=e9
theorem h8:FnScope ["self","own"] ["self","own"] (ao cD):=e9
theorem jQ:FnScope ["self","own"] ["self","own"] (ao dE):=e9
theorem tT:FnScope ["hall","deed","kind"] ["hall","deed"] (ao kI):=e9
theorem oW:FnScope ["hall","deed"] ["hall","deed"] (ao d7):=e9
theorem gO:FnScope ["count","deeds","hall","deed"] ["count","deeds"] (ao dC):=e9
theorem lN:FnScope ["count","deeds","hall"] ["count","deeds"] (ao fJ):=e9
theorem iU:FnScope ["count","deeds"] ["count","deeds"] (ao ce):=e9
theorem jo:FnScope ["count","deeds"] ["count","deeds"] (ao cV):=e9
theorem Ai:FnScope ["_law_found","_law_meant","_law_k"] ["_law_found","_law_meant"] (ao yt):=e9
theorem w8:FnScope ["_law_found"] ["_law_found"] (ao j6):=e9
theorem CM:FnScope ["_law_script","_law_k"] ["_law_script","_law_k"] (ao yu):=e9
theorem tS:FnScope ["_law_k","_law_letters","_law_spot","_law_two"] ["_law_k"] (ao og):=e9
theorem qk:FnScope ["_law_cell","_law_k","_law_count","_law_own","_law_deeds","_law_j","_law_other","_law_place"] ["_law_cell","_law_k","_law_count"] (ao j7):=e9
theorem m_:FnScope ["_law_cell","_law_k","_law_count","_law_way","_law_own","_law_other","_law_large","_law_place"] ["_law_cell","_law_k","_law_count"] (ao iE):=e9
theorem qj:FnScope ["_law_one","_law_other","_law_cell","_law_deeds","_law_turn"] ["_law_one","_law_other","_law_cell"] (ao j4):=e9
theorem ql:FnScope ["_law_cells","_law_way","_law_count","_law_deeds","_law_most","_law_k","_law_rounds","_law_pair","_law_row"] ["_law_cells","_law_way","_law_count"] (ao j8):=e9
theorem gM:FnScope ["_law_count","_law_own","_law_places","_law_most","_law_deeds","_law_turn","_law_one","_law_place"] ["_law_count","_law_own","_law_places"] (ao eG):=e9
theorem iK:FnScope ["_law_found","_law_pair"] ["_law_found"] (ao fk):=e9
theorem wv:FnScope ["_law_script","_law_count","_law_deeds","_law_own","_law_before","_law_longer","_law_told","_law_behind","_law_found","_law_spots","_law_place","_law_k","_law_pair","_law_known","_law_places"] ["_law_script"] (ao im):=e9
structure NBs (mg:Str->Option Value):Prop where
 len:mg "len" = none
 min:mg "min" = none
 max:mg "max" = none
 range:mg "range" = none
 int:mg "int" = none
 bool:mg "bool" = none
 str:mg "str" = none
 list:mg "list" = none
 dict:mg "dict" = none
 tuple:mg "tuple" = none
 set:mg "set" = none
 sorted:mg "sorted" = none
 isinstance:mg "isinstance" = none
 enumerate:mg "enumerate" = none
section
variable {P:Program}{w:World}{K:Frag}{mg:Str->Option Value}{base:Heap}
theorem wz (NB:NBs mg) (D:DefAt K mg "_law_so" yt ["_law_found","_law_meant"]):∀ n:Nat,L2.Own P w K mg base "_law_so" n ["_law_found","_law_meant"] (AB n)
 | 0=>by
  obtain ⟨f,fd,F,hm,hb⟩:=D.ex;exact ⟨f,fd,⟨fun _ _ _ _ h=>h.elim,fun _ _ _ _ _ _ _ _ _ _ _ _ _ h=>h.elim⟩,hm,F.kp,hb⟩
 | n+1=>by
  have O_so:L2.Own P w K mg base "_law_so" n ["_law_found","_law_meant"] (AB n):=wz NB D n;refine D.own Ai (fun vs H Q E h=>?_) (fun f cdv A outer s H vs Q E hr h=>?_)
  ·obtain ⟨x,y,d,rfl,_⟩:=h; rfl
  ·obtain ⟨x,y,d,rfl,dx,dy,k⟩:=h
   have hu:=bQ hr;have nd:=Ai.nd;refine ⟨_,(af (aQ (az wD (nv 1) gU (aN _)) (ak (au (fh wD (nv 0) gU (aN _)))) ay)
 (af (aQ (bz (aB ax (by rfl) NB.isinstance aG (aa (nv 1) (aa (nt NB.bool kq) ag)))) (ak (au (kL (aB ax (by rfl) NB.isinstance aG (aa (nv 0) (aa (nt NB.bool kq) ag))) (oi (fh (bX hr) (nv 0) (nv 1) (aN _)))))) ay)
 (af (aQ (bz (aB ax (by rfl) NB.isinstance aG (aa (nv 1) (aa (nt NB.int kQ) ag)))) (ak (au (kL (aB ax (by rfl) NB.isinstance aG (aa (nv 0) (aa (nt NB.int kQ) ag))) (kL (wy (aB ax (by rfl) NB.isinstance aG (aa (nv 0) (aa (nt NB.bool kq) ag)))) (oi (fh (bX hr) (nv 0) (nv 1) (aN _))))))) ay)
 (af (aQ (bz (aB ax (by rfl) NB.isinstance aG (aa (nv 1) (aa (nt NB.str rR) ag)))) (ak (au (kL (aB ax (by rfl) NB.isinstance aG (aa (nv 0) (aa (nt NB.str rR) ag))) (oi (fh (bX hr) (nv 0) (nv 1) (aN _)))))) ay)
 (af (aQ (bz (aB ax (by rfl) NB.isinstance aG (aa (nv 1) (aa (nt NB.dict ut) ag)))) uU ay)
 (af (aQ (az (gc hr) (aB ax (by rfl) NB.isinstance aG (aa (nv 1) (aa (nt NB.tuple iI) ag))) (aB ax (by rfl) NB.isinstance aG (aa (nv 0) (aa (nt NB.tuple iI) ag))) (aN _)) (ak (au bB)) ay)
 (af (aQ (PW.pt (dW (az (gc hr) (aB ax (by rfl) NB.isinstance aG (aa (nv 1) (aa (nt NB.list di) ag))) (aB ax (by rfl) NB.isinstance aG (aa (nv 0) (aa (nt NB.list di) ag))) (aN _)) (dg (cu (bz (aB ax (by rfl) NB.isinstance aG (aa (nv 1) (aa (bq (aa (nt NB.list di) (aa (nt NB.tuple iI) ag))) ag)))))))) (ak (au bB)) ay)
 (af (aQ (az (gc hr) (aB bf (by rfl) NB.len cy (aa (nv 0) ag)) (aB bf (by rfl) NB.len cy (aa (nv 1) ag)) (aN _)) (ak (au bB)) ay)
 (af (bO PassesOwn.never rfl (bP rfl NB.range (aa (aB bf (by rfl) NB.len cy (aa (nv 1) ag)) ag)) (aJ nd 2) (ak (aQ (cu (bz (a_ O_so hr rfl (aa (aP (dN hu) (nv 0) (nv 2) (fun _ _=>rfl)) (aa (aP (dN hu) (nv 1) (nv 2) (fun _ _=>rfl)) ag))))) (ak (au bB)) ay)))
 (ak (au bB))))))))))),?_⟩
   cases dx with
   | non =>
    cases dy;exact ⟨rfl,_,rfl,fC rfl ⟨rfl,k H (aI.refl H)⟩⟩
   | @bl _ b =>
    cases dy;refine ⟨rfl,_,rfl,cR (fun z=>nomatch z) ?_⟩;refine ⟨_,true,.bl _,iP K,_,rfl,cI ?_⟩;refine ⟨_,true,.bl _,iP K,_,rfl,cI ?_⟩;refine ⟨_,.scal rfl,?_⟩;rw [decide_eq_true rfl];exact k H (aI.refl H)
   | @int _ i =>
    cases dy;refine ⟨rfl,_,rfl,cR (fun z=>nomatch z) ?_⟩;refine ⟨_,false,.int _,gn K,_,rfl,cE ?_⟩;refine ⟨_,true,.int _,g9 K,_,rfl,cI ?_⟩;refine ⟨_,true,.int _,g9 K,_,rfl,cI ?_⟩;refine ⟨_,false,.int _,gn K,_,rfl,_,rfl,cI ?_⟩;refine ⟨_,.scal rfl,?_⟩;rw [decide_eq_true rfl];exact k H (aI.refl H)
   | @str _ x =>
    cases dy;refine ⟨rfl,_,rfl,cR (fun z=>nomatch z) ?_⟩;refine ⟨_,false,.str _,q_ K,_,rfl,cE ?_⟩;refine ⟨_,false,.str _,sI K,_,rfl,cE ?_⟩;refine ⟨_,true,.str _,g8 K,_,rfl,cI ?_⟩;refine ⟨_,true,.str _,g8 K,_,rfl,cI ?_⟩;refine ⟨_,.scal rfl,?_⟩;rw [decide_eq_true rfl];exact k H (aI.refl H)
   | @tup m a xs ds hx hz hl kx =>
    cases dy with
    | @tup _ b ys _ hy hz' hl' ky =>
    refine ⟨rfl,_,rfl,cR (fun z=>nomatch z) ?_⟩;refine ⟨_,false,.tup hy,mP K,_,rfl,cE ?_⟩;refine ⟨_,false,.tup hy,pC K,_,rfl,cE ?_⟩;refine ⟨_,false,.tup hy,pB K,_,rfl,cE ?_⟩;refine ⟨_,false,.tup hy,mO K,_,rfl,cE ?_⟩;refine ⟨_,true,.tup hy,eY K,_,true,.tup hx,eY K,_,.scal rfl,_,rfl,gK rfl ?_⟩;refine ⟨_,false,.tup hy,gQ K,_,false,.tup hx,gQ K,_,.scal rfl,_,rfl,gK rfl ?_⟩;refine ⟨by show 2<=sizeLine; decide,fun p hp=>?_⟩;have s1:=am (o:=.tup [.ty "list",.ty "tuple"]) hp;refine ⟨["list","tuple"],_,true,upd_same,.tup (s1 _ _ hy),rd K,_,rfl,dH ?_⟩;refine ⟨xs.length,.inl ⟨_,.inr (c8.of (s1 _ _ hx)),rfl⟩,ys.length,.inl ⟨_,.inr (c8.of (s1 _ _ hy)),rfl⟩,_,.scal rfl,_,rfl,gK (congrArg (fun n:Nat=>V.int n) (hl.trans hl'.symm)) ?_⟩;refine ⟨ys.length,.inl ⟨_,.inr (c8.of (s1 _ _ hy)),rfl⟩,_,rfl,by omega,by rw [sizeLine_eq] at hz'; omega,?_⟩;refine cq (n:=((ys.length:Int)).toNat) (fun j σ H'=>∃ o,σ=[some (.ref a),some (.ref b),o]/\aI H H') ⟨_,rfl,s1⟩ ?_ ?_
    ·rintro j σ H1 hj ⟨o,rfl,s2⟩
     have hj':j < ys.length:=by omega
     have g1:xs[j]? = some xs[j]:=List.getElem?_eq_getElem (by omega);have g2:ys[j]? = some ys[j]:=List.getElem?_eq_getElem hj';have g3:ds[j]? = some ds[j]:=List.getElem?_eq_getElem (by omega);refine ⟨_,.tup (c8.of (s2 _ _ hx)) (by rw [Int.zero_add]; exact cN g1),_,.tup (c8.of (s2 _ _ hy)) (by rw [Int.zero_add]; exact cN g2),?_⟩;refine ⟨_,_,ds[j],rfl,(kx j _ _ g1 g3).mono s2,(ky j _ _ g2 g3).mono s2,fun H2 s3=>⟨_,rfl,dH ?_⟩⟩;exact ⟨_,rfl,s2.trans s3⟩
    ·rintro σ H1 ⟨o,rfl,s2⟩
     exact k H1 s2
   | @lst m a xs ds hx hz hl kx =>
    cases dy with
    | @lst _ b ys _ hy hz' hl' ky =>
    refine ⟨rfl,_,rfl,cR (fun z=>nomatch z) ?_⟩;refine ⟨_,false,.lst hy,pF K,_,rfl,cE ?_⟩;refine ⟨_,false,.lst hy,rc K,_,rfl,cE ?_⟩;refine ⟨_,false,.lst hy,rb K,_,rfl,cE ?_⟩;refine ⟨_,false,.lst hy,pE K,_,rfl,cE ?_⟩;refine ⟨_,false,.lst hy,gR K,_,false,.lst hx,gR K,_,.scal rfl,_,rfl,gK rfl ?_⟩;refine ⟨_,true,.lst hy,eM K,_,true,.lst hx,eM K,_,.scal rfl,_,rfl,gK rfl ?_⟩;refine ⟨by show 2<=sizeLine; decide,fun p hp=>?_⟩;have s1:=am (o:=.tup [.ty "list",.ty "tuple"]) hp;refine ⟨["list","tuple"],_,true,upd_same,.lst (s1 _ _ hy),sK K,_,rfl,dH ?_⟩;refine ⟨xs.length,.inl ⟨_,.inl (a9.of (s1 _ _ hx)),rfl⟩,ys.length,.inl ⟨_,.inl (a9.of (s1 _ _ hy)),rfl⟩,_,.scal rfl,_,rfl,gK (congrArg (fun n:Nat=>V.int n) (hl.trans hl'.symm)) ?_⟩;refine ⟨ys.length,.inl ⟨_,.inl (a9.of (s1 _ _ hy)),rfl⟩,_,rfl,by omega,by rw [sizeLine_eq] at hz'; omega,?_⟩;refine cq (n:=((ys.length:Int)).toNat) (fun j σ H'=>∃ o,σ=[some (.ref a),some (.ref b),o]/\aI H H') ⟨_,rfl,s1⟩ ?_ ?_
    ·rintro j σ H1 hj ⟨o,rfl,s2⟩
     have hj':j < ys.length:=by omega
     have g1:xs[j]? = some xs[j]:=List.getElem?_eq_getElem (by omega);have g2:ys[j]? = some ys[j]:=List.getElem?_eq_getElem hj';have g3:ds[j]? = some ds[j]:=List.getElem?_eq_getElem (by omega);refine ⟨_,.lst (a9.of (s2 _ _ hx)) (by rw [Int.zero_add]; exact cN g1),_,.lst (a9.of (s2 _ _ hy)) (by rw [Int.zero_add]; exact cN g2),?_⟩;refine ⟨_,_,ds[j],rfl,(kx j _ _ g1 g3).mono s2,(ky j _ _ g2 g3).mono s2,fun H2 s3=>⟨_,rfl,dH ?_⟩⟩;exact ⟨_,rfl,s2.trans s3⟩
    ·rintro σ H1 ⟨o,rfl,s2⟩
     exact k H1 s2
noncomputable def oy:Sp:=fun vs H Q _=>∃ i:Int,vs=[.int i]/\Q (.bl true) H
theorem ny (NB:NBs mg) (D:DefAt K mg "_law_whole" j6 ["_law_found"]):L2.Own P w K mg base "_law_whole" 1 ["_law_found"] oy:=by
 refine D.own w8 (fun vs H Q E h=>?_) (fun f cdv A outer s H vs Q E hr h=>?_)
 ·obtain ⟨i,rfl,_⟩:=h; rfl
 ·obtain ⟨i,rfl,k⟩:=h
  refine ⟨_,(ak (au (kL (aB ax (by rfl) NB.isinstance aG (aa (nv 0) (aa (nt NB.int kQ) ag))) (oi (wy (aB ax (by rfl) NB.isinstance aG (aa (nv 0) (aa (nt NB.bool kq) ag)))))))),?_⟩;refine ⟨_,true,.int i,g9 K,_,rfl,?_⟩;refine cI ?_;refine ⟨_,false,.int i,gn K,_,rfl,?_⟩;exact k
noncomputable def Ci (K:Frag):Sp:=fun vs H Q _=>∃ (a:Addr) (ns:List Int) (i:Int),vs=[.ref a,.int i]/\a9 K H a (ns.map V.int)/\0<=i/\Q (.int (ns.getD i.toNat 0)) H
theorem Bj (NB:NBs mg) (D:DefAt K mg "_law_at" yu ["_law_script","_law_k"]):L2.Own P w K mg base "_law_at" 1 ["_law_script","_law_k"] (Ci K):=by
 refine D.own CM (fun vs H Q E h=>?_) (fun f cdv A outer s H vs Q E hr h=>?_)
 ·obtain ⟨a,ns,i,rfl,_⟩:=h; rfl
 ·obtain ⟨a,ns,i,rfl,hS,h0,k⟩:=h
  have hu:=bQ hr;refine ⟨_,(af (aQ (az fN (nv 1) (aB bf (by rfl) NB.len cy (aa (nv 0) ag)) (aN _)) (ak (au (aP (dN hu) (nv 0) (nv 1) (fun _ _=>rfl)))) ay)
 (ak (au aj))),?_⟩
  refine ⟨ns.length,.inl ⟨_,.inl hS,by simp⟩,_,rfl,?_⟩
  by_cases h:i < (ns.length:Int)
  ·refine fC h ?_
   obtain ⟨n,rfl⟩:=Int.eq_ofNat_of_zero_le h0;have hn:n < ns.length:=by omega
   have e:ns.getD ((n:Int)).toNat 0=ns[n]:=by simp [hn]
   rw [e] at k;exact ⟨_,.lst hS (cN (by simp [hn])),k⟩
  ·refine cR h ?_
   have e:ns.getD i.toNat 0=0:=by
    have:ns.length<=i.toNat:=by omega
    simp [this]
   rw [e] at k;exact k
end
end K07
namespace K07
open PySem L2 Hl
section
variable {P:Program}{w:World}{K:Frag}{mg:Str->Option Value}{base:Heap}{C:Addr}
theorem qP (D:DefAt K mg "is_most" fH ["count","many"]):L2.Own P w K mg base "is_most" 1 ["count","many"] kH:=by
 refine D.own r_ (fun vs H Q E h=>?_) (fun f cdv A outer s H vs Q E hr h=>?_)
 ·obtain ⟨c,n,rfl,_⟩:=h; rfl
 ·obtain ⟨c,n,rfl,k⟩:=h
  refine ⟨_,(ak (au (fh kM (ar bi aj (nv 1)) (nv 0) (aN _)))),?_⟩;exact ⟨.inl ⟨by decide,by decide⟩,k⟩
theorem jR (D:DefAt K mg "next_number" cT ["count","scribe","seen"]):L2.Own P w K mg base "next_number" 1 ["count","scribe","seen"] tL:=by
 refine D.own gq (fun vs H Q E h=>?_) (fun f cdv A outer s H vs Q E hr h=>?_)
 ·obtain ⟨c,o,sn,rfl,_⟩:=h; rfl
 ·obtain ⟨c,o,sn,rfl,hc,k⟩:=h
  have nd:=gq.nd;refine ⟨_,(af (aC nd 3 (ar aW (nv 2) aj))
 (ak (au (ar aW (nv 3) (ar aA (ar j_ (nv 1) (nv 3)) (nv 0)))))),?_⟩
  exact ⟨hc,k⟩
theorem me (D:DefAt K mg "free_place" dD ["said"]):L2.Own P w K mg base "free_place" 1 ["said"] wo:=by
 refine D.own gP (fun vs H Q E h=>?_) (fun f cdv A outer s H vs Q E hr h=>?_)
 ·obtain ⟨d,kvs,rfl,_⟩:=h; rfl
 ·obtain ⟨d,kvs,rfl,hd,k⟩:=h
  have hu:=bQ hr;have nd:=gP.nd;refine ⟨_,(af (aC nd 1 aj)
 (af (qq PassesOwn.never (az (i4 hr) (nv 1) (nv 0) (by with_unfolding_all rfl)) (ak (Bf nd (i:=1) rfl (.inl rfl) aj BB)))
 (ak (au (nv 1))))),?_⟩
  refine ⟨fun m σ H'=>H'=H/\∃ n:Nat,σ=[some (.ref d),some (.int n)]/\(∀ j:Nat,j < n->(a7 kvs (Sum.inl (j:Int))).isSome=true)/\m=kvs.length+1 - n,⟨_,rfl,0,rfl,fun j hj=>absurd hj (Nat.not_lt_zero _),rfl⟩,?_⟩;rintro m σ H' ⟨rfl,n,rfl,hn,rfl⟩;have g:dc H' d (.int n) (a7 kvs (Sum.inl (n:Int))):=.inl ⟨kvs,Sum.inl n,hd,rfl,rfl⟩;refine ⟨_,.dct g,_,rfl,?_⟩;cases hv:a7 kvs (Sum.inl (n:Int)) with
  | none =>
   refine cE ?_;exact k n hn hv
  | some x =>
   have hn':∀ j:Nat,j < n+1->(a7 kvs (Sum.inl (j:Int))).isSome=true:=fun j hj=>by
    rcases Nat.lt_or_eq_of_le (Nat.le_of_lt_succ hj) with z | z
    ·exact hn j z
    ·rw [z,hv]; rfl
   have hle:=tX (n+1) (kvs.map (·.1)) fun j hj=>lC (hn' j hj);rw [List.length_map] at hle;refine cI ?_;refine ⟨fun σ' H''=>H''=H'/\σ'=[some (.ref d),some (.int ((n+1:Nat):Int))],?_,?_⟩
   ·rintro σ' H'' ⟨rfl,rfl⟩
    exact ⟨kvs.length+1 - (n+1),by omega,rfl,n+1,rfl,hn',rfl⟩
   ·exact ⟨.int n,rfl,_,_,rfl,rfl,rfl,rfl⟩
theorem qQ (D:DefAt K mg "best_of" fI ["rows"]):L2.Own P w K mg base "best_of" 1 ["rows"] wt:=by
 refine D.own lK (fun vs H Q E h=>?_) (fun f cdv A outer s H vs Q E hr h=>?_)
 ·obtain ⟨l,ds,rows,rfl,_⟩:=h; rfl
 ·obtain ⟨l,ds,rows,rfl,hl,hR,hz,k⟩:=h
  have hu:=bQ hr;have nd:=lK.nd;refine ⟨_,(af (aC nd 1 dv)
 (af (bO PassesOwn.never rfl (ck (nv 0)) (aJ nd 2) (ak (Be (bO PassesOwn.never rfl (xn (xp (nv 2))) (kJ rfl (bU (aJ nd 3) (bU (aJ nd 4) iw))) (ak (aQ (PW.pt (dW (az (cp hr) (nv 3) (nv 1) (by with_unfolding_all rfl)) (dg (az fN (aP (dN hu) (aP (dN hu) (nv 1) (nv 3) (fun _ _=>rfl)) aj (fun _ _=>rfl)) (aP (dN hu) (nv 4) aj (fun _ _=>rfl)) (aN _))))) (ak (dO hu (nv 1) (nv 3) (nv 4) rfl)) ay))))))
 (ak (au (nv 1))))),?_⟩
  intro q hq;have s0:=am (o:=.dK []) hq;refine ⟨l,rfl,⟨_,a9.of (s0 _ _ hl)⟩,?_⟩;have lu:ds.length=rows.length:=Paired.length hR;refine dA (xs:=ds.map V.ref) (fun i σ H1=>∃ o2 o3 o4,σ=[some (.ref l),some (.ref q),o2,o3,o4]/\H1 q=some (.dK (ju (cX (rows.take i))))/\aI H H1) ⟨_,_,_,rfl,upd_same,s0⟩ (fun i σ H1 _ ⟨_,_,_,_,_,s1⟩=>a9.of (s1 _ _ hl)) ?_ ?_
  ·rintro i x σ H1 hx ⟨o2,o3,o4,rfl,hb,s1⟩
   have hi:i < ds.length:=by have:=(List.getElem?_eq_some_iff.mp hx).1; rwa [List.length_map] at this
   rw [List.getElem?_map,List.getElem?_eq_getElem hi] at hx;cases hx;have hi':i < rows.length:=by omega
   have hrow:=bn (show Paired _ _ _ from hR) (List.getElem?_eq_getElem hi) (List.getElem?_eq_getElem hi');have et:rows.take (i+1)=rows.take i++[rows[i]]:=by rw [List.take_succ_eq_append_getElem hi']
   have hfl:(rows.take i).flatten.length+rows[i].length<=rows.flatten.length:=by
    have e:rows.flatten=(rows.take i).flatten++(rows.drop i).flatten:=by rw [<- List.flatten_append,List.take_append_drop]
    rw [e,List.length_append,List.drop_eq_getElem_cons hi',List.flatten_cons,List.length_append]; omega
   have hbl:(cX (rows.take i)).length<=(rows.take i).flatten.length:=by
    have:∀ (rs:List cg) (b:cg),(rs.foldl bR b).length<=b.length+rs.flatten.length:=by
     intro rs
     induction rs with
     | nil=>intro b; exact Nat.le_refl _
     | cons r rs ih =>
      intro b;have h1:=ih (bR b r);have h2:=gE r b;rw [List.flatten_cons,List.length_append];show (rs.foldl bR (bR b r)).length<=_;omega
    have:=this (rows.take i) [];rwa [show ([]:cg).length=0 from rfl,Nat.zero_add] at this
   have hBe:∀ p∈cX (rows.take i),jz H p.2:=fun p hp=>by
    obtain ⟨r,hr,hpr⟩:=List.mem_flatten.mp ((ur (rows.take i)).from_ p hp);obtain ⟨j,hj⟩:=List.mem_iff_getElem?.mp (List.mem_of_mem_take hr);have hjl:j < ds.length:=by have:=(List.getElem?_eq_some_iff.mp hj).1; omega
    exact (bn (show Paired _ _ _ from hR) (List.getElem?_eq_getElem hjl) hj).es p hpr
   generalize rows[i]=row at *;generalize ds[i]=d at *;generalize hB:cX (rows.take i)=B at *;have hdq:d≠q:=ai hrow.dk hq;refine ⟨d,ju row,s1 _ _ hrow.dk,fun o=>?_⟩;refine ⟨d,ju row,rfl,.inr ⟨o,upd_same⟩,fun v hv=>?_⟩;have hvd:d≠v:=fun z=>by rw [<- z,upd_same] at hv; cases hv
   refine ⟨v,d,o,ju row,rfl,upd_same,(ad hvd).trans upd_same,?_⟩;refine nH (fun j σ H2=>∃ o3 o4,σ=[some (.ref l),some (.ref q),some (.ref d),o3,o4]/\H2 d=some (.frz o (.dK (ju row)))/\H2 q=some (.dK (ju (bR B (row.take j))))/\∀ b u,H b=some u->b≠d->H2 b=some u) ?_ ?_ ?_ ?_
   ·refine ⟨_,_,rfl,(ad hvd).trans upd_same,?_,fun b u e hbd=>?_⟩
    ·have n1:q≠v:=fun z=>by rw [<- z,ad (Ne.symm hdq),hb] at hv; cases hv
     rw [ad n1,ad (Ne.symm hdq)]; exact hb
    ·have n1:b≠v:=fun z=>by rw [<- z,ad hbd,s1 _ _ e] at hv; cases hv
     rw [ad n1,ad hbd]; exact s1 _ _ e
   ·rintro j σ H2 _ ⟨_,_,_,h,_⟩; exact h
   ·rintro j key x t σ H2 hx ht ⟨o3,o4,rfl,hd2,hq2,kp⟩
    have hj:j < row.length:=by have:=(List.getElem?_eq_some_iff.mp hx).1; rwa [ix] at this
    have gj:=List.getElem?_eq_getElem hj;unfold ju at hx;rw [List.getElem?_map,gj] at hx;cases hx;have tk:row.take (j+1)=row.take j++[row[j]]:=by rw [List.take_succ_eq_append_getElem hj]
    have he:=hrow.es row[j] (List.getElem_mem hj);generalize row[j]=pe at *;obtain ⟨pl,e⟩:=pe;have sm:=am (o:=.tup [kV (Sum.inl pl),.ref e.a]) ht;refine ⟨t,_,rfl,c8.of upd_same,rfl,_,_,rfl,_,_,rfl,rfl,?_⟩;have hd3:=sm _ _ hd2;have hq3:=sm _ _ hq2;have kp3:∀ b u,H b=some u->b≠d->aw H2 t (.tup [kV (Sum.inl pl),.ref e.a]) b=some u:=fun b u eb hb=>sm _ _ (kp b u eb hb);have ent:∀ e':Ent,jz H e'->aw H2 t (.tup [kV (Sum.inl pl),.ref e.a]) e'.a=some (.tup [.int e'.n,.str e'.s]):=fun e' z=>kp3 _ _ z (fZ z hrow.dk (fun z=>nomatch z));generalize aw H2 t (.tup [kV (Sum.inl pl),.ref e.a])=H3 at hd3 hq3 kp3 ent ⊢;have hlen:=gE (row.take j) B;rw [List.length_take] at hlen;have fin:dF (bR B (row.take j)) (pl,e)=aD (bR B (row.take j)) pl e->∃ H4,f9 H3 q (.int pl) (.ref e.a) H4/\∃ o3 o4,[some (V.ref l),some (V.ref q),some (V.ref d),some (V.int pl),some (V.ref e.a)]=[some (V.ref l),some (V.ref q),some (V.ref d),o3,o4]/\H4 d=some (.frz o (.dK (ju row)))/\H4 q=some (.dK (ju (bR B (row.take (j+1)))))/\∀ b u,H b=some u->b≠d->H4 b=some u:=fun hs=>by
     refine ⟨_,f9.k (k:=Sum.inl pl) hq3 (oA (by rw [ix]; omega)),_,_,rfl,(ad hdq).trans hd3,?_,fun b u eb hb=>?_⟩
     ·rw [upd_same,xi,tk,lX,hs]
     ·rw [ad (ai eb hq)]; exact kp3 b u eb hb
    have g:dc H3 q (.int pl) ((aq (bR B (row.take j)) pl).map fun e=>V.ref e.a):=by
     have:=dc.k (k:=Sum.inl pl) hq3;rwa [pZ] at this
    cases hg:aq (bR B (row.take j)) pl with
    | none =>
     rw [hg] at g;refine ⟨_,.dct g,_,rfl,cI ?_⟩;obtain ⟨H4,p4,f4⟩:=fin (by unfold dF; rw [hg]);exact ⟨q,H4,rfl,p4,f4⟩
    | some e0 =>
     rw [hg] at g;have h0:H3 e0.a=some (.tup [.int e0.n,.str e0.s]):=ent e0 (by
      rcases vF _ _ _ (bD hg) with z | z
      ·exact hBe _ z
      ·exact hrow.es _ (List.mem_of_mem_take z))
     refine ⟨_,.dct g,_,rfl,cE ?_⟩;refine ⟨_,.dct g,_,.tup (c8.of h0) (vJ _ _),_,.tup (c8.of (ent e he)) (vJ _ _),_,rfl,?_⟩
     by_cases hlt:e0.n < e.n
     ·refine fC hlt ?_
      obtain ⟨H4,p4,f4⟩:=fin (by unfold dF; rw [hg]; exact if_pos hlt);exact ⟨q,H4,rfl,p4,f4⟩
     ·refine cR hlt ?_
      refine ⟨_,_,rfl,hd3,?_,kp3⟩;rw [tk,lX,show dF (bR B (row.take j)) (pl,e)=bR B (row.take j) by unfold dF; rw [hg]; exact if_neg hlt];exact hq3
   ·rintro σ H2 ⟨o3,o4,rfl,hd2,hq2,kp⟩
    refine ⟨hd2,_,_,_,rfl,?_,fun b u eb=>?_⟩
    ·rw [ad (Ne.symm hdq),hq2,ix,List.take_length,et,rl,hB]
    ·by_cases hb:b=d
     ·subst hb; rw [upd_same,<- hrow.dk]; exact eb
     ·rw [ad hb]; exact kp b u eb hb
  ·rintro σ H1 ⟨o2,o3,o4,rfl,hb,s1⟩
   rw [List.length_map,lu,List.take_length] at hb;exact k q H1 hq hb s1
theorem sv (T:TxS K C) (D:CtorAt K mg C "Scribe" "Scribe.__init__" dR ["self","own","count"]):OwnC P w K mg base C "Scribe" 1 ["self","own","count"] (tI C):=by
 refine D.own lZ (fun vs H Q E h=>?_) (fun f cdv A outer s H vs Q E hr h=>?_)
 ·obtain ⟨p,dx,o,c,rfl,_⟩:=h; rfl
 ·obtain ⟨p,dx,o,c,rfl,hp,k⟩:=h
  refine ⟨_,(af (b8 (nv 0) (nv 1) rfl)
 (af (b8 (nv 0) (nv 2) rfl)
 (af (b8 (nv 0) (mT gy aj) rfl)
 (af (b8 (nv 0) dv rfl)
 (ak (b8 (nv 0) (mT gy aj) rfl)))))),?_⟩
  have L0:([]:List (Str×V)).length<=0:=Nat.le_refl _;have L1:=uv (f:="own") (v:=o) L0;have L2:=uv (f:="count") (v:=c) L1;have L3:=uv (f:="promised") (v:=.int (-1)) L2;refine ⟨p,C,dx,_,rfl,hp,T.cl,T.n1,by decide,?_⟩;refine ⟨p,C,dx,_,rfl,upd_same,T.cl,T.n2,by omega,?_⟩;refine ⟨p,C,dx,_,rfl,upd_same,T.cl,T.n3,by omega,?_⟩;intro r hr0;have L4:=uv (f:="row") (v:=.ref r) L3;have hrp:r≠p:=fun z=>by rw [z,upd_same] at hr0; cases hr0
  have n1:H r=none:=by rw [ad hrp,ad hrp,ad hrp] at hr0; exact hr0
  refine ⟨p,C,dx,_,rfl,(ad (Ne.symm hrp)).trans upd_same,T.cl,T.n4,by omega,?_⟩;refine ⟨p,C,dx,_,rfl,upd_same,T.cl,T.n5,by omega,?_⟩;refine k r _ n1 (upd_same.trans ?_) ?_ fun b u e hb=>?_
  ·exact congrArg (fun l=>some (HO.ins C dx l)) (A1 o c (.int (-1)) r (.int (-1)))
  ·rw [ad hrp,ad hrp,upd_same]
  ·rw [ad hb,ad hb,ad (ai e n1),ad hb,ad hb,ad hb]
   exact e
theorem h_ (T:TxS K C) (D:MethAt K C "promise" "Scribe.promise" cO ["self","number"]):OwnM P w K mg base C "promise" 1 ["self","number"] (i_ C):=by
 refine D.own iV (fun vs H Q E h=>?_) (fun f cdv A outer s H vs Q E hr h=>?_)
 ·obtain ⟨p,dx,o,c,m,n,r,sn,rfl,_⟩:=h; rfl
 ·obtain ⟨p,dx,o,c,m,n,r,sn,rfl,hp,k1,k2⟩:=h
  refine ⟨_,(af (aQ (az fN (nv 1) (aF (nv 0) rfl) (aN _)) (ak (au bB)) ay)
 (af (b8 (nv 0) (nv 1) rfl)
 (ak (au bB)))),?_⟩
  refine ⟨p,C,dx,_,_,rfl,hp,T.cl,T.n3,gZ _ _ _ _ _,_,rfl,?_⟩
  by_cases h:n < m
  ·exact fC h (k1 h)
  ·refine cR h ?_
   refine ⟨p,C,dx,_,rfl,hp,T.cl,T.n3,by show 5 < 1000; decide,?_⟩;rw [l0];exact k2 h
theorem mh (TS:TxS K C) (O_Scribe_promise:OwnM P w K mg base C "promise" 1 ["self","number"] (i_ C)) (D:MethAt K C "put" "Scribe.put" eK ["self","number","place","saying"]):OwnM P w K mg base C "put" 2 ["self","number","place","saying"] (Ag C):=by
 refine D.own mz (fun vs H Q E h=>?_) (fun f cdv A outer s H vs Q E hr h=>?_)
 ·obtain ⟨p,dx,o,c,m,n,pl,sy,r,sn,kvs,rfl,_⟩:=h; rfl
 ·obtain ⟨p,dx,o,c,m,n,pl,sy,r,sn,kvs,rfl,hp,hrr,hz,k1,k2⟩:=h
  have hu:=bQ hr;have npr:p≠r:=fZ hp hrr (by intro z; cases z);refine ⟨_,(af (aQ (cu (bz (eF (nv 0) TS.cl O_Scribe_promise hr (aa (nv 1) ag)))) (ak (au bB)) ay)
 (af (dO hu (aF (nv 0) rfl) (nv 2) (bq (aa (nv 1) (aa (nv 3) ag))) rfl)
 (ak (au bB)))),?_⟩
  refine ⟨p,dx,_,rfl,hp,iM _ _ _ _ _,?_⟩;refine ⟨p,dx,o,c,m,n,r,sn,rfl,hp,fun h=>⟨_,rfl,cI (k1 h)⟩,fun h=>⟨_,rfl,cE ?_⟩⟩;refine ⟨by show 2<=sizeLine; decide,fun t ht=>?_⟩;have htp:t≠p:=fun z=>by rw [z,upd_same] at ht; cases ht
  have ht0:H t=none:=by rw [ad htp] at ht; exact ht
  have htr:t≠r:=fun z=>by rw [z,hrr] at ht0; cases ht0
  have e1:(aw (aw H p (.ins C dx (sF o c (.int n) r sn))) t (.tup [.int n,.str sy])) p=some (.ins C dx (sF o c (.int n) r sn)):=by rw [ad (Ne.symm htp),upd_same]
  have e2:(aw (aw H p (.ins C dx (sF o c (.int n) r sn))) t (.tup [.int n,.str sy])) r=some (.dK kvs):=by rw [ad (Ne.symm htr),ad (Ne.symm npr)]; exact hrr
  refine ⟨p,C,dx,_,_,rfl,e1,TS.cl,TS.n4,Aj _ _ _ _ _,?_⟩;refine ⟨r,_,rfl,f9.k (k:=Sum.inl pl) e2 (aE (by omega)),?_⟩;refine k2 h t _ ht0 (fun b u e hb1 hb2=>?_) ?_ ?_ upd_same
  ·rw [ad hb2,ad (ai e ht0),ad hb1]; exact e
  ·rw [ad htr,upd_same]
  ·rw [ad npr]; exact e1
theorem jS (TS:TxS K C) (O_next_number:L2.Own P w K mg base "next_number" 1 ["count","scribe","seen"] tL) (D:MethAt K C "rise" "Scribe.rise" dQ ["self"]):OwnM P w K mg base C "rise" 2 ["self"] (tH C):=by
 refine D.own lY (fun vs H Q E h=>?_) (fun f cdv A outer s H vs Q E hr h=>?_)
 ·obtain ⟨p,dx,o,c,sn,pv,r,rfl,_⟩:=h; rfl
 ·obtain ⟨p,dx,o,c,sn,pv,r,rfl,hp,hc,k⟩:=h
  refine ⟨_,(af (b8 (nv 0) (a_ O_next_number hr rfl (aa (aF (nv 0) rfl) (aa (aF (nv 0) rfl) (aa (aF (nv 0) rfl) ag)))) rfl)
 (ak (au (aF (nv 0) rfl)))),?_⟩
  refine ⟨p,C,dx,_,_,rfl,hp,TS.cl,TS.n2,yQ _ _ _ _ _,p,C,dx,_,_,rfl,hp,TS.cl,TS.n1,CN _ _ _ _ _,p,C,dx,_,_,rfl,hp,TS.cl,TS.n5,rJ _ _ _ _ _,?_⟩;refine ⟨c,o,sn,rfl,hc,?_⟩;refine ⟨p,C,dx,_,rfl,hp,TS.cl,TS.n5,by show 5 < 1000; decide,?_⟩;rw [lO];exact ⟨p,C,dx,_,_,rfl,upd_same,TS.cl,TS.n5,rJ _ _ _ _ _,k⟩
theorem mf (NB:NBs mg) (TS:TxS K C) (D:MethAt K C "see" "Scribe.see" eJ ["self","number"]):OwnM P w K mg base C "see" 1 ["self","number"] (Af C):=by
 refine D.own my (fun vs H Q E h=>?_) (fun f cdv A outer s H vs Q E hr h=>?_)
 ·obtain ⟨p,dx,o,c,pv,sn,n,r,rfl,_⟩:=h; rfl
 ·obtain ⟨p,dx,o,c,pv,sn,n,r,rfl,hp,k⟩:=h
  refine ⟨_,(ak (b8 (nv 0) (aB vA (by rfl) NB.max BR (aa (aF (nv 0) rfl) (aa (nv 1) ag))) rfl)),?_⟩;refine ⟨p,C,dx,_,_,rfl,hp,TS.cl,TS.n5,rJ _ _ _ _ _,?_⟩;refine ⟨p,C,dx,_,rfl,hp,TS.cl,TS.n5,by show 5 < 1000; decide,?_⟩;rw [lO];exact k
end
section
variable {P:Program}{w:World}{K:Frag}{mg:Str->Option Value}{base:Heap}{c:Cs}
theorem xt (T:TxL K c.l) (D:CtorAt K mg c.l "Lead" "Lead.__init__" fm ["self","number","count"]):OwnC P w K mg base c.l "Lead" 1 ["self","number","count"] (tM c.l):=by
 refine D.own oX (fun vs H Q E h=>?_) (fun f cdv A outer s H vs Q E hr h=>?_)
 ·obtain ⟨p,dx,n,k,rfl,_⟩:=h; rfl
 ·obtain ⟨p,dx,n,k,rfl,hp,q⟩:=h
  refine ⟨_,(af (b8 (nv 0) (nv 1) rfl)
 (af (b8 (nv 0) (nv 2) rfl)
 (af (b8 (nv 0) dv rfl)
 (af (b8 (nv 0) bB rfl)
 (af (b8 (nv 0) dv rfl)
 (ak (b8 (nv 0) dv rfl))))))),?_⟩
  have L0:([]:List (Str×V)).length<=0:=Nat.le_refl _;have L1:=uv (f:="number") (v:=n) L0;have L2:=uv (f:="count") (v:=k) L1;refine ⟨p,c.l,dx,_,rfl,hp,T.cl,T.n1,by decide,?_⟩;refine ⟨p,c.l,dx,_,rfl,upd_same,T.cl,T.n2,by omega,?_⟩;intro t ht;have L3:=uv (f:="told") (v:=.ref t) L2;have tp:t≠p:=fun z=>by rw [z,upd_same] at ht; cases ht
  have t0:H t=none:=by rw [ad tp,ad tp] at ht; exact ht
  refine ⟨p,c.l,dx,_,rfl,(ad (Ne.symm tp)).trans upd_same,T.cl,T.n3,by omega,?_⟩;have L4:=uv (f:="opened") (v:=.bl false) L3;refine ⟨p,c.l,dx,_,rfl,upd_same,T.cl,T.n4,by omega,?_⟩;intro a ha;have L5:=uv (f:="said") (v:=.ref a) L4;have ap:a≠p:=fun z=>by rw [z,upd_same] at ha; cases ha
  rw [ad ap,ad ap] at ha;have ta:t≠a:=fun z=>by rw [<- z,upd_same] at ha; cases ha
  have a0:H a=none:=by rw [ad (Ne.symm ta),ad ap,ad ap] at ha; exact ha
  refine ⟨p,c.l,dx,_,rfl,(ad (Ne.symm ap)).trans upd_same,T.cl,T.n5,by omega,?_⟩;intro b hb;have bp:b≠p:=fun z=>by rw [z,upd_same] at hb; cases hb
  rw [ad bp] at hb;have ab:a≠b:=fun z=>by rw [<- z,upd_same] at hb; cases hb
  rw [ad (Ne.symm ab),ad bp,ad bp] at hb;have tb:t≠b:=fun z=>by rw [<- z,upd_same] at hb; cases hb
  have b0:H b=none:=by rw [ad (Ne.symm tb),ad bp,ad bp] at hb; exact hb
  refine ⟨p,c.l,dx,_,rfl,(ad (Ne.symm bp)).trans upd_same,T.cl,T.n6,by omega,?_⟩;refine q t a b _ t0 a0 b0 ta tb ab (upd_same.trans ?_) ?_ ?_ ?_ fun x u e hx=>?_
  ·exact congrArg (fun l=>some (HO.ins c.l dx l)) (Bv n k t (.bl false) a b)
  ·rw [ad tp,ad tb,ad tp,ad ta,ad tp,ad tp,upd_same]
  ·rw [ad ap,ad ab,ad ap,upd_same]
  ·rw [ad bp,upd_same]
  ·rw [ad hx,ad (ai e b0),ad hx,ad (ai e a0),ad hx,ad hx,ad (ai e t0),ad hx,ad hx]; exact e
theorem ga (NB:NBs mg) (T:TxL K c.l) (O_best_of:L2.Own P w K mg base "best_of" 1 ["rows"] wt) (D:MethAt K c.l "begin_saying" "Lead.begin_saying" b6 ["self"]):OwnM P w K mg base c.l "begin_saying" 2 ["self"] (tR c):=by
 refine D.own d_ (fun vs H Q E h=>?_) (fun f cdv A outer s H vs Q E hr h=>?_)
 ·obtain ⟨α,ρ,cnt,k,l,n,rfl,_⟩:=h; rfl
 ·obtain ⟨α,ρ,cnt,k,l,n,rfl,L,nr,bd,hs0,hn,q⟩:=h
  have hu:=bQ hr;have nd:=d_.nd;refine ⟨_,(af (b8 (nv 0) bB rfl)
 (ak (bO PassesOwn.never rfl (uX (a_ O_best_of hr rfl (aa (b_ sS (by rfl) NB.list di (aa (Bh PySem.F.plainAttrs_dict PySem.F.slot_dict_values PySem.F.type_dict_values u6 (aF (nv 0) rfl)) ag)) ag))) (kJ rfl (bU (aJ nd 1) (bU (aJ nd 2) iw))) (ak (dO hu (aF (nv 0) rfl) (nv 1) (aP (dN hu) (nv 2) aj (fun _ _=>rfl)) rfl))))),?_⟩
  obtain ⟨⟨dx,ob⟩,⟨kt,ht,jt⟩,⟨ks,hs,js⟩,⟨kh,hh,jh⟩,r1,r2,r3,r4⟩:=id L;refine ⟨_,c.l,dx,_,rfl,ob,T.cl,T.n4,by show 6 < 1000; decide,?_⟩;rw [pA];generalize hp':α (.lp k)=p at ob r1 ⊢;generalize ht':α (.lt k)=t at ob ht r2 ⊢;generalize hs':α (.ls k)=sa at ob hs r3 ⊢;generalize hh':α (.lh k)=ha at ob hh r4 ⊢;have S1:Stp (eN k) H ρ (aw H p (.ins c.l dx (lF (.int l.num) (.int cnt) t (.bl true) sa ha))) ρ:=cj ob r1 (show eN k (.lp k) from rfl);have ob1:(aw H p (.ins c.l dx (lF (.int l.num) (.int cnt) t (.bl true) sa ha))) p=some (.ins c.l dx (lF (.int l.num) (.int cnt) t (.bl true) sa ha)):=upd_same;have ne1:∀ {b:Addr}{r:Role},ρ b=some r->r≠.lp k->b≠p:=fun h1 h2=>bL h1 r1 h2;have kp1:∀ {b:Addr}{u:HO},H b=some u->b≠p->(aw H p (.ins c.l dx (lF (.int l.num) (.int cnt) t (.bl true) sa ha))) b=some u:=fun h1 h2=>by rw [ad h2]; exact h1
  have ht1:=kp1 ht (ne1 r2 (fun z=>nomatch z));have hs1:=kp1 hs (ne1 r3 (fun z=>nomatch z));have hh1:=kp1 hh (ne1 r4 (fun z=>nomatch z));have jh1:cQ (Di (aw H p (.ins c.l dx (lF (.int l.num) (.int cnt) t (.bl true) sa ha))) α ρ k) kh l.hands:=jh.imp fun j v y _ ⟨z1,z2,z3⟩=>⟨z1,z2,kp1 z3 (ne1 z2 (fun z=>nomatch z))⟩;have jt1:cQ (Dp (aw H p (.ins c.l dx (lF (.int l.num) (.int cnt) t (.bl true) sa ha))) α ρ k) kt l.told:=jt.imp fun j v y _ ⟨z1,z2,kv,z3,z4⟩=>⟨z1,z2,kv,kp1 z3 (ne1 z2 (fun z=>nomatch z)),z4.imp fun _ _ _ _ w=>w.stp S1⟩;generalize aw H p (.ins c.l dx (lF (.int l.num) (.int cnt) t (.bl true) sa ha))=H1 at S1 ob1 ht1 hs1 hh1 jt1 jh1 ⊢;refine ⟨p,c.l,dx,_,_,rfl,ob1,T.cl,T.n3,rL _ _ _ _ _ _,?_⟩;refine ⟨.inr (.inr (.inl ⟨rfl,.inl ⟨_,ht1⟩⟩)),_,_,rfl,rfl,.inl ht1,fun v hv=>?_⟩;have s2:=am (o:=BU v t) hv;refine ⟨v,t,kt,rfl,upd_same,.inl (s2 _ _ ht1),fun li hli=>?_⟩;have s3:=am (o:=.lst (kt.map (·.2))) hli;have s13:=s2.trans s3;obtain ⟨rows,e1,e2,e3⟩:=uK jt1;have hfl:rows.flatten.length<=n * n:=by
   rw [xR,e3];exact Nat.le_trans (oM l.told bd.r) (Nat.mul_le_mul_right n bd.t)
  have hnn:n * n<=160000:=Nat.mul_le_mul hn hn;refine ⟨li,_,rows,rfl,by rw [<- e1]; exact upd_same,Paired.mapP e2 fun d r z=>⟨s13 _ _ z.dk,fun q hq=>s13 _ _ (z.es q hq)⟩,by omega,fun d H' hd hbo sm=>?_⟩;have sA:=s13.trans sm;have best:=sX rows;have bl:(cX rows).length<=n * n:=Nat.le_trans (sW rows) hfl;have ents:∀ q∈cX rows,jz H' q.2:=fun q hq=>by
   obtain ⟨r,hr,hqr⟩:=List.mem_flatten.mp ((ur rows).from_ q hq);obtain ⟨j,hj⟩:=List.mem_iff_getElem?.mp hr;have hl:=Paired.length e2;have hjl:j < (l.told.map fun q=>α (.tr k q.1)).length:=by have:=(List.getElem?_eq_some_iff.mp hj).1; omega
   exact sA _ _ ((bn (show Paired _ _ _ from e2) (List.getElem?_eq_getElem hjl) hj).es q hqr)
  generalize hB:cX rows=B at best bl ents hbo ⊢;refine ⟨d,ju B,rfl,hbo,fun v2 o hv2=>?_⟩;have d0:H1 d=none:=by
   cases e:H1 d with
   | none=>rfl
   | some u=>rw [s13 _ _ e] at hd; cases hd
  have S2:Stp (eN k) H ρ H' ρ:=S1.two (p_ sA);have nd':∀ {b:Addr}{u:HO},H1 b=some u->b≠d:=fun h=>ai h d0;have v2d:d≠v2:=ai hbo hv2;have kp2:∀ b u,H1 b=some u->(aw (aw H' v2 (rn v2 d)) d (.frz o (.dK (ju B)))) b=some u:=fun b u e=>by rw [ad (nd' e),ad (ai (sA _ _ e) hv2)]; exact sA _ _ e
  have kpE:∀ q∈B,jz (aw (aw H' v2 (rn v2 d)) d (.frz o (.dK (ju B)))) q.2:=fun q hq=>by
   have z:=ents q hq;unfold jz at z ⊢;rw [ad (fZ z hbo (fun z=>nomatch z)),ad (ai z hv2)]; exact z
  refine nH (fun i σ H2=>∃ o1 o2 ks2,σ=[some (.ref p),o1,o2]/\H2 d=some (.frz o (.dK (ju B)))/\H2 sa=some (.dK ks2)/\cQ (fun _ v (y:Str)=>v=.str y) ks2 (((B.take i).map kz).foldl (fun s q=>aD s q.1 q.2.2) l.said)/\ks2.length<=i/\(∀ q∈B,jz H2 q.2)/\∀ b u,H1 b=some u->b≠sa->H2 b=some u) ?_ ?_ ?_ ?_
  ·refine ⟨_,_,ks,rfl,upd_same,kp2 _ _ hs1,js,by rw [js.len,hs0]; exact Nat.le_refl _,kpE,fun b u e _=>kp2 b u e⟩
  ·rintro i σ H2 _ ⟨_,_,_,_,h,_⟩; exact h
  ·rintro i key x tt σ H2 hx htt ⟨o1,o2,ks2,rfl,hd2,hs2,j2,hz2,en2,kp⟩
   have hi:i < B.length:=by have:=(List.getElem?_eq_some_iff.mp hx).1; rwa [ix] at this
   have gi:=List.getElem?_eq_getElem hi;unfold ju at hx;rw [List.getElem?_map,gi] at hx;cases hx;have tk:B.take (i+1)=B.take i++[B[i]]:=by rw [List.take_succ_eq_append_getElem hi]
   have he:=en2 B[i] (List.getElem_mem hi);generalize B[i]=be at *;obtain ⟨pl,e⟩:=be;have sm:=am (o:=.tup [kV (Sum.inl pl),.ref e.a]) htt;have he2:=sm _ _ he;have hp2:=sm _ _ (kp p _ ob1 (bL r1 r3 (fun z=>nomatch z)));have hs3:=sm _ _ hs2;have sd:d≠sa:=fun z=>by rw [z,hs1] at d0; cases d0
   refine ⟨tt,_,rfl,c8.of upd_same,rfl,_,_,rfl,_,_,rfl,rfl,?_⟩;refine ⟨_,.tup (c8.of he2) (ym _ _ _),p,c.l,dx,_,_,rfl,hp2,T.cl,T.n5,i6 _ _ _ _ _ _,?_⟩;refine ⟨sa,_,rfl,f9.k (k:=Sum.inl pl) hs3 (oA (by omega)),_,_,_,rfl,?_,upd_same,?_,?_,fun q hq=>?_,fun b u eb hb=>?_⟩
   ·rw [ad sd]; exact sm _ _ hd2
   ·rw [tk,List.map_append,List.foldl_append]
    exact j2.put pl rfl
   ·exact Nat.le_trans (c6 _ _ _) (by omega)
   ·have z:=sm _ _ (en2 q hq)
    show aw _ sa _ q.2.a=_;rw [ad (fZ z hs3 (fun z=>nomatch z))]; exact z
   ·rw [ad hb]; exact sm _ _ (kp b u eb hb)
  ·rintro σ H2 ⟨o1,o2,ks2,rfl,hd2,hs2,j2,hz2,en2,kp⟩
   rw [ix,List.take_length,best,e3] at j2;have S3:Stp (eN k) H1 ρ H2 ρ:=tF (p:=sa) (q:=sa) (fun b u e h1 _=>kp b u e h1) ⟨_,hs2⟩ ⟨_,hs2⟩ r3 r3 (show eN k (.ls k) from rfl) (show eN k (.ls k) from rfl);have S:=S1.two S3;have k3:∀ {b:Addr}{u:HO}{r:Role},H1 b=some u->ρ b=some r->r≠.ls k->H2 b=some u:=fun h1 h2 h3=>kp _ _ h1 (bL h2 r3 h3);refine q H2 ⟨⟨dx,?_⟩,⟨kt,?_,jt1.imp fun j v y _ ⟨z1,z2,kv,z3,z4⟩=>⟨z1,z2,kv,k3 z3 z2 (fun z=>nomatch z),z4.imp fun _ _ _ _ w=>w.stp S3⟩⟩,⟨ks2,?_,j2⟩,⟨kh,?_,jh1.imp fun j v y _ ⟨z1,z2,z3⟩=>⟨z1,z2,k3 z3 z2 (fun z=>nomatch z)⟩⟩,?_,?_,?_,?_⟩ S
   ·rw [hp',ht',hs',hh']; exact k3 ob1 r1 (fun z=>nomatch z)
   ·rw [ht']; exact k3 ht1 r2 (fun z=>nomatch z)
   ·rw [hs']; exact hs2
   ·rw [hh']; exact k3 hh1 r4 (fun z=>nomatch z)
   ·rw [hp']; exact r1
   ·rw [ht']; exact r2
   ·rw [hs']; exact r3
   ·rw [hh']; exact r4
end
section
variable {P:Program}{w:World}{K:Frag}{mg:Str->Option Value}{base:Heap}{c:Cs}
theorem mG (NB:NBs mg) (TL:TxL K c.l) (O_is_most:L2.Own P w K mg base "is_most" 1 ["count","many"] kH) (O_Lead_begin_saying:OwnM P w K mg base c.l "begin_saying" 2 ["self"] (tR c)) (D:MethAt K c.l "hear" "Lead.hear" fq ["self","scribe","row"]):OwnM P w K mg base c.l "hear" 3 ["self","scribe","row"] (wg c):=by
 refine D.own oY (fun vs H Q E h=>?_) (fun f cdv A outer s H vs Q E hr h=>?_)
 ·obtain ⟨α,ρ,cnt,k,l,n,j,ra,kv,row,rfl,_⟩:=h; rfl
 ·obtain ⟨α,ρ,cnt,k,l,n,j,ra,kv,row,rfl,L,nr,bd,hs0,hn,hra,hkv,hrl,q⟩:=h
  have hu:=bQ hr;refine ⟨_,(af (aQ (bz (aF (nv 0) rfl)) (ak yU) ay)
 (af (dO hu (aF (nv 0) rfl) (nv 1) (b_ sV (by rfl) NB.dict ut (aa (nv 2) ag)) rfl)
 (ak (aQ (bz (a_ O_is_most hr rfl (aa (aF (nv 0) rfl) (aa (aB bf (by rfl) NB.len cy (aa (aF (nv 0) rfl) ag)) ag)))) (ak (aO (kZ (nv 0) TL.cl O_Lead_begin_saying hr))) ay)))),?_⟩
  obtain ⟨⟨dx,ob⟩,⟨kt,ht,jt⟩,_⟩:=id L;refine ⟨_,c.l,dx,_,_,rfl,ob,TL.cl,TL.n4,qB _ _ _ _ _ _,_,rfl,?_⟩
  by_cases hop:l.op=true
  ·refine (if_pos hop).mpr ?_
   have e:b7 cnt l j row=l:=if_pos hop;exact q H α ρ (by rw [e]; exact L) .refl (fun _ _=>rfl) rfl
  ·refine (if_neg hop).mpr ?_
   have hof:l.op=false:=by cases h:l.op with | true=>exact absurd h hop | false=>rfl
   refine ⟨ra,kv,rfl,.inl hra,fun a ha=>?_⟩;obtain ⟨L2,S2⟩:=L.tell (j:=j) ha hkv ht;have ta:α (.lt k)≠a:=ai ht ha;have pa:α (.lp k)≠a:=ai ob ha;have ob1:(aw H a (.dK kv)) (α (.lp k))=_:=(ad pa).trans ob;have ht1:(aw H a (.dK kv)) (α (.lt k))=_:=(ad ta).trans ht;have lt:=jt.len;have htl:=bd.t;refine ⟨_,c.l,dx,_,_,rfl,ob1,TL.cl,TL.n3,rL _ _ _ _ _ _,?_⟩;refine ⟨_,_,rfl,f9.k (k:=Sum.inl j) ht1 (aE (by omega)),?_⟩;have nr2:Aw _ (c9 ρ a (.tr k j)):=S2.fr nr;have ep:cK α (.tr k j) a (.lp k)=α (.lp k):=aU (fun z=>nomatch z);have et:cK α (.tr k j) a (.lt k)=α (.lt k):=aU (fun z=>nomatch z);obtain ⟨⟨dx2,ob2⟩,⟨kt2,ht2,jt2⟩,_⟩:=id L2;have lt2:=jt2.len;rw [ep] at ob2;rw [et] at ht2;generalize aw (aw H a (.dK kv)) (α (.lt k)) (.dK (bo kt (Sum.inl j) (.ref a)))=H2 at L2 S2 nr2 ob2 ht2 jt2 ⊢;refine ⟨_,c.l,dx2,_,_,rfl,ob2,TL.cl,TL.n2,ue _ _ _ _ _ _,_,c.l,dx2,_,_,rfl,ob2,TL.cl,TL.n3,rL _ _ _ _ _ _,?_⟩;rw [et];refine ⟨_,.inr ⟨_,ht2,rfl⟩,?_⟩;refine ⟨cnt,_,rfl,_,rfl,?_⟩;have lp:=bT l.told j row;have eq:kt2.length=(aD l.told j row).length:=lt2
   by_cases hm:cw cnt (aD l.told j row).length=true
   ·refine yw (by rw [eq]; exact hm) ?_
    have e:b7 cnt l j row=kP { l with told:=aD l.told j row }:=by unfold b7; rw [if_neg hop,if_pos hm]
    refine ⟨_,dx2,_,rfl,ob2,iX _ _ _ _ _ _,?_⟩;refine ⟨cK α (.tr k j) a,c9 ρ a (.tr k j),cnt,k,{ l with told:=aD l.told j row },n+1,by rw [ep],L2,nr2,⟨by show (aD l.told j row).length<=_; omega,fun p hp=>?_,?_,?_,fun p hp=>Nat.le_succ_of_le (bd.i p hp)⟩,hs0 hof,by omega,fun H' L3 S3=>?_⟩
    ·rcases bh hp with z | z
     ·rw [z]; exact Nat.le_succ_of_le hrl
     ·exact Nat.le_succ_of_le (bd.r p z.1)
    ·have:=bd.s
     have h2:n * n<=(n+1) * (n+1):=Nat.mul_le_mul (Nat.le_succ n) (Nat.le_succ n);show l.said.length<=_; omega
    ·exact Nat.le_succ_of_le bd.h
    ·exact q H' _ _ (by rw [e]; exact L3) (S2.two S3) (fun r hr=>ou (show eN k (.tr k j) from rfl) r hr) ep
   ·refine tf (by rw [eq]; exact hm) ?_
    have e:b7 cnt l j row={ l with told:=aD l.told j row }:=by unfold b7; rw [if_neg hop,if_neg hm]
    exact q H2 _ _ (by rw [e]; exact L2) S2 (fun r hr=>ou (show eN k (.tr k j) from rfl) r hr) ep
theorem pb (TL:TxL K c.l) (O_free_place:L2.Own P w K mg base "free_place" 1 ["said"] wo) (D:MethAt K c.l "say" "Lead.say" fR ["self","saying"]):OwnM P w K mg base c.l "say" 2 ["self","saying"] (we c):=by
 refine D.own jD (fun vs H Q E h=>?_) (fun f cdv A outer s H vs Q E hr h=>?_)
 ·obtain ⟨α,ρ,cnt,k,l,sy,rfl,_⟩:=h; rfl
 ·obtain ⟨α,ρ,cnt,k,l,sy,rfl,L,hz,q⟩:=h
  have hu:=bQ hr;have nd:=jD.nd;refine ⟨_,(af (aC nd 2 (a_ O_free_place hr rfl (aa (aF (nv 0) rfl) ag)))
 (af (dO hu (aF (nv 0) rfl) (nv 2) (nv 1) rfl)
 (ak (au (nv 2))))),?_⟩
  obtain ⟨⟨dx,ob⟩,_,⟨ks,hs,js⟩,_⟩:=id L;refine ⟨_,c.l,dx,_,_,rfl,ob,TL.cl,TL.n5,i6 _ _ _ _ _ _,?_⟩;refine ⟨_,ks,rfl,.inl hs,fun n h1 h2=>?_⟩;have e:=xO js n h1 h2;refine ⟨_,c.l,dx,_,_,rfl,ob,TL.cl,TL.n5,i6 _ _ _ _ _ _,?_⟩;have:=js.len;refine ⟨_,_,rfl,f9.k (k:=Sum.inl (n:Int)) hs (oA (by omega)),?_⟩;obtain ⟨L1,S1⟩:=L.told (pl:=(n:Int)) (sy:=sy) hs;have q1:=q _ (by unfold pQ; rw [e]; exact L1) S1;rw [e] at q1;exact q1
theorem ie (TL:TxL K c.l) (D:MethAt K c.l "take_hand" "Lead.take_hand" cP ["self","scribe","place"]):OwnM P w K mg base c.l "take_hand" 1 ["self","scribe","place"] (wj c):=by
 refine D.own fy (fun vs H Q E h=>?_) (fun f cdv A outer s H vs Q E hr h=>?_)
 ·obtain ⟨α,ρ,cnt,k,l,j,pl,rfl,_⟩:=h; rfl
 ·obtain ⟨α,ρ,cnt,k,l,j,pl,rfl,L,nr,hz,hz2,c_,q⟩:=h
  have hu:=bQ hr;have nd:=fy.nd;refine ⟨_,(af (aC nd 3 (dG PySem.F.plainAttrs_dict PySem.F.slot_dict_setdefault PySem.F.type_dict_setdefault u7 (aF (nv 0) rfl) (aa (nv 2) (aa dv ag))))
 (ak (dO hu (nv 3) (nv 1) bB rfl))),?_⟩
  obtain ⟨⟨dx,ob⟩,_,_,⟨kh,hh,jh⟩,_⟩:=id L;refine ⟨_,c.l,dx,_,_,rfl,ob,TL.cl,TL.n6,oJ _ _ _ _ _ _,?_⟩;refine ⟨.inr (.inr (.inl ⟨rfl,.inl ⟨_,hh⟩⟩)),?_⟩;intro a ha;have ah:α (.lh k)≠a:=ai hh ha;have hh1:(aw H a (.dK [])) (α (.lh k))=some (.dK kh):=(ad ah).trans hh;have lk:=jh.len;refine ⟨_,kh,Sum.inl pl,.ref a,rfl,hh1,rfl,aE (by omega),fun u hu2=>?_,fun hn=>?_⟩
  ·rcases jh.get pl with ⟨_,z⟩ | ⟨v,hs,g1,g2,y1,y2,y3⟩
   ·rw [hu2] at z; cases z
   ·rw [hu2] at g2; cases g2
    subst y1;have h3:(aw H a (.dK [])) (α (.hd k pl))=some (.dK (gH hs)):=(ad (ai y3 ha)).trans y3;have:=hz2 _ (bD g1);refine ⟨_,_,rfl,f9.k (k:=Sum.inl j) h3 (aE (by rw [oK]; exact Nat.le_of_lt this)),?_⟩;obtain ⟨L1,S1⟩:=L.hand2 (j:=j) c_ ha g1;rw [kY];exact q _ α ρ L1 S1 (fun _ _=>rfl) rfl
  ·have hg:aq l.hands pl=none:=by
    rcases jh.get pl with ⟨z,_⟩ | ⟨v,hs,_,g2,_⟩
    ·exact z
    ·rw [hn] at g2; cases g2
   have h3:(aw (aw H a (.dK [])) (α (.lh k)) (.dK (bo kh (Sum.inl pl) (.ref a)))) a=some (.dK (gH [])):=by rw [ad (Ne.symm ah),upd_same]; rfl
   refine ⟨_,_,rfl,f9.k (k:=Sum.inl j) h3 (aE (by show 0<=1000; decide)),?_⟩;rw [kY];obtain ⟨L1,S1⟩:=L.hand1 (j:=j) ha hh hg;exact q _ _ _ L1 S1 (fun r hr=>ou (show eN k (.hd k pl) from rfl) r hr) (aU (fun z=>nomatch z))
end
section
variable {P:Program}{w:World}{K:Frag}{mg:Str->Option Value}{base:Heap}{c:Cs}{N:Addr}
theorem mi (TH:TxH K c.h) (XN:TxN K mg "NoScribe" N) (D:MethAt K c.h "check" "Hall.check" eL ["self","number"]):OwnMX P w K mg base c.h "check" 1 ["self","number"] (fe c N):=by
 refine D.ownX mC (fun vs H Q E h=>?_) (fun f cdv A outer s H vs Q E hr h=>?_)
 ·obtain ⟨p,dx,i,cnt,sl,ld,sd,wl,rfl,_⟩:=h; rfl
 ·obtain ⟨p,dx,i,cnt,sl,ld,sd,wl,rfl,ob,k1,k2⟩:=h
  refine ⟨_,(ak (aQ (cu (qp wA fN aj (nv 1) (aF (nv 0) rfl))) (ak (xl (E:=E) XN.mg XN.ex PySem.F.excBase_ValueError rfl rfl (aa aY ag))) ay)),?_⟩;refine ⟨_,rfl,?_⟩
  by_cases h0:0<=i
  ·refine yw (decide_eq_true h0) ?_
   refine ⟨p,c.h,dx,_,_,rfl,ob,TH.cl,TH.n1,ui _ _ _ _ _,_,rfl,?_⟩
   by_cases h1:i < cnt
   ·exact Ap (decide_eq_true h1) (k1 (by rw [decide_eq_true h0,decide_eq_true h1]; rfl))
   ·refine wJ (decide_eq_false h1) ?_
    exact ⟨by show 1<=sizeLine; decide,k2 (by rw [decide_eq_true h0,decide_eq_false h1]; rfl)⟩
  ·refine tf (fun z=>h0 (of_decide_eq_true z)) ?_
   refine ⟨_,rfl,cI ?_⟩;exact ⟨by show 1<=sizeLine; decide,k2 (by rw [decide_eq_false h0]; rfl)⟩
theorem mI (TH:TxH K c.h) (TS:TxS K c.s) (O_Scribe_see:OwnM P w K mg base c.s "see" 1 ["self","number"] (Af c.s)) (D:MethAt K c.h "fall" "Hall.fall" fx ["self","own","number"]):OwnM P w K mg base c.h "fall" 2 ["self","own","number"] (rH c):=by
 refine D.own o_ (fun vs H Q E h=>?_) (fun f cdv A outer s H vs Q E hr h=>?_)
 ·obtain ⟨α,ρ,A,own,num,rfl,_⟩:=h; rfl
 ·obtain ⟨α,ρ,A,own,num,rfl,x,hi,hl,hz,q⟩:=h
  have hu:=bQ hr;refine ⟨_,(af (aO (qt (aF (nv 0) rfl) (nv 1) ⟨rfl,rfl,rfl,rfl⟩))
 (ak (aO (eF (aP (dN hu) (aF (nv 0) rfl) (nv 1) (fun _ _=>rfl)) TS.cl O_Scribe_see hr (aa (nv 2) ag))))),?_⟩
  obtain ⟨dx,ob⟩:=x.ob;obtain ⟨kl,ol,jl⟩:=x.leadAt own;obtain ⟨l,g1,g2,_⟩:∃ l,aq A.leads own=some l/\a7 kl (Sum.inl own)=some (.ref (α (.lp own)))/\LdAt c H α ρ A.cnt own l:=by
   rcases jl with ⟨z,_⟩ | z
   ·rw [z] at hl; cases hl
   ·exact z
  refine ⟨_,c.h,dx,_,_,rfl,ob,TH.cl,TH.n3,cM _ _ _ _ _,?_⟩;refine ⟨_,rfl,.inl ⟨_,.inl ol⟩,kl,Sum.inl own,_,ol,rfl,g2,?_⟩;obtain ⟨x1,S1⟩:=x.gone ol own;obtain ⟨dx1,ob1⟩:=x1.ob;generalize aw H (α .ld) (.dK (fb kl (Sum.inl own)))=H1 at x1 S1 ob1 ⊢;have hi1:aM { A with leads:=bY A.leads own } own=true:=hi;obtain ⟨sc,e1,e2,e3,e4⟩:=x1.scrAt hi1;obtain ⟨⟨dx2,os⟩,orw,r1,r2⟩:=id e2;refine ⟨_,c.h,dx1,_,_,rfl,ob1,TH.cl,TH.n2,gC _ _ _ _ _,?_⟩;refine ⟨_,.lst (a9.of x1.sl) e4,_,dx2,_,rfl,os,w_ _ _ _ _ _,?_⟩;refine ⟨_,dx2,_,_,_,sc.seen,num,_,rfl,os,?_⟩;have S2:Stp (Au own.toNat) H1 ρ (aw H1 (α (.scr own.toNat)) (.ins c.s dx2 (sF (.int (own.toNat:Nat)) (.int A.cnt) (.int sc.prom) (α (.row own.toNat)) (.int (if sc.seen < num then num else sc.seen))))) ρ:=cj os r1 (.inl rfl);obtain ⟨kr,or,jr⟩:=orw;have x2:=x1.scr (s':={ sc with seen:=if sc.seen < num then num else sc.seen }) e1 S2 ⟨⟨dx2,upd_same⟩,⟨kr,(ad (bL r2 r1 (fun z=>nomatch z))).trans or,jr.imp fun _ _ _ _ z=>z.stp S2⟩,r1,r2⟩;refine q _ ?_ (S1.any.two S2.any);have e5:A.scrs[own.toNat]? = some sc:=e1;unfold de;rw [e5];exact x2
theorem mH (TH:TxH K c.h) (TS:TxS K c.s) (O_Hall_check:OwnMX P w K mg base c.h "check" 1 ["self","number"] (fe c N)) (O_Scribe_rise:OwnM P w K mg base c.s "rise" 2 ["self"] (tH c.s)) (O_Lead:OwnC P w K mg base c.l "Lead" 1 ["self","number","count"] (tM c.l))
  (D:MethAt K c.h "rise" "Hall.rise" fu ["self","own"]):OwnMX P w K mg base c.h "rise" 3 ["self","own"] (tP c N):=by
 refine D.ownX iL (fun vs H Q E h=>?_) (fun f cdv A outer s H vs Q E hr h=>?_)
 ·obtain ⟨own,α,ρ,A,n,PL,rfl,_⟩:=h; rfl
 ·obtain ⟨own,α,ρ,A,n,PL,rfl,x,wf,hn,k1,k2⟩:=h
  have hu:=bQ hr;have nd:=iL.nd;refine ⟨_,(af (aO (bC (E:=E) (nv 0) TH.cl O_Hall_check eC hr (aa (nv 1) ag)))
 (af (aQ (az (i4 hr) (nv 1) (aF (nv 0) rfl) (by with_unfolding_all rfl)) (ak (au gU)) ay)
 (af (aC nd 2 (kZ (aP (dN hu) (aF (nv 0) rfl) (nv 1) (fun _ _=>rfl)) TS.cl O_Scribe_rise hr))
 (af (dO hu (aF (nv 0) rfl) (nv 1) (iF O_Lead hr rfl (aa (nv 2) (aa (aF (nv 0) rfl) ag))) rfl)
 (ak (au (nv 2))))))),?_⟩
  obtain ⟨dx,ob⟩:=x.ob;refine ⟨_,dx,_,rfl,ob,cm _ _ _ _ _,?_⟩;refine ⟨_,dx,own,A.cnt,_,_,_,_,rfl,ob,fun hi=>?_,fun hi=>k2 ⟨own,by simp,hi⟩⟩;have hi:aM A own=true:=hi;have k1:=k1 (fun i h=>by simp at h; rw [h]; exact hi);dsimp only at k1;have gs:dc H (α .sd) (.int own) (if own∈A.stop then some (.bl true) else none):=by
   have:=dc.k (k:=Sum.inl own) x.sd;rwa [fD] at this
  refine ⟨_,c.h,dx,_,_,rfl,ob,TH.cl,TH.n4,dM _ _ _ _ _,_,.dct gs,_,rfl,?_⟩
  by_cases hs:own∈A.stop
  ·rw [if_pos hs]
   refine cI ?_;have e:dU A own=(A,.non):=if_pos hs;exact k1 H α ρ .non (by rw [e]; exact x) rfl .refl (by rw [e]; rfl)
  ·rw [if_neg hs]
   refine cE ?_;obtain ⟨sc,e1,e2,e3,e4⟩:=x.scrAt hi;obtain ⟨⟨dx2,os⟩,⟨kr,or,jr⟩,r1,r2⟩:=id e2;refine ⟨_,c.h,dx,_,_,rfl,ob,TH.cl,TH.n2,gC _ _ _ _ _,?_⟩;refine ⟨_,.lst (a9.of x.sl) e4,_,dx2,_,rfl,os,uR _ _ _ _ _,?_⟩;refine ⟨_,dx2,_,A.cnt,sc.seen,_,_,rfl,os,wf.pos,?_⟩;rw [e3];rw [e3] at os;generalize hnn:bx A.cnt own sc.seen=num;have S1:Stp (Au own.toNat) H ρ (aw H (α (.scr own.toNat)) (.ins c.s dx2 (sF (.int own) (.int A.cnt) (.int sc.prom) (α (.row own.toNat)) (.int num)))) ρ:=cj os r1 (.inl rfl);have x1:=x.scr (s':={ sc with seen:=num }) e1 S1 ⟨⟨dx2,by rw [e3]; exact upd_same⟩,⟨kr,(ad (bL r2 r1 (fun z=>nomatch z))).trans or,jr.imp fun _ _ _ _ z=>z.stp S1⟩,r1,r2⟩;generalize aw H (α (.scr own.toNat)) (.ins c.s dx2 (sF (.int own) (.int A.cnt) (.int sc.prom) (α (.row own.toNat)) (.int num)))=H1 at x1 S1 ⊢;obtain ⟨dx3,ob1⟩:=x1.ob;obtain ⟨kl,ol,jl⟩:=x1.ld;have hkl:=jl.len;have hlb:=wf.bd.l;refine ⟨_,c.h,dx3,_,_,rfl,ob1,TH.cl,TH.n1,ui _ _ _ _ _,?_⟩;intro p dp hp hdp hne;have kk:∀ b u,H1 b=some u->(aw (aw H1 dp (.own p)) p (.ins c.l dp [])) b=some u/\b≠p:=fun b u e=>⟨by rw [ad (ai e hp),ad (ai e hdp)]; exact e,ai e hp⟩;refine ⟨p,dp,_,_,rfl,upd_same,fun t sa h H2 ht hsa hh n1 n2 n3 o1 o2 o3 o4 kp=>⟨rfl,?_⟩⟩;have fr:∀ {b:Addr},(aw (aw H1 dp (.own p)) p (.ins c.l dp [])) b=none->H1 b=none/\b≠p:=fun {b} e=>by
    have z1:b≠p:=fun z=>by rw [z,upd_same] at e; cases e
    rw [ad z1] at e;have z2:b≠dp:=fun z=>by rw [z,upd_same] at e; cases e
    rw [ad z2] at e;exact ⟨e,z1⟩
   have sm:aI H1 H2:=fun b u e=>kp b u (kk b u e).1 (kk b u e).2;obtain ⟨α',ρ',x2,ah,S2⟩:=x1.risen (k:=own) ol hp (fr ht).1 (fr hsa).1 (fr hh).1 (Ne.symm (fr ht).2) (Ne.symm (fr hsa).2) (Ne.symm (fr hh).2) n1 n2 n3 o1 o2 o3 o4 sm;refine ⟨_,c.h,dx3,_,_,rfl,sm _ _ ob1,TH.cl,TH.n3,cM _ _ _ _ _,?_⟩;refine ⟨_,_,rfl,f9.k (k:=Sum.inl own) (sm _ _ ol) (aE (by have:kl.length=A.leads.length:=hkl; omega)),?_⟩;have e:dU A own=({ A with scrs:=A.scrs.set own.toNat { sc with seen:=num },leads:=aD A.leads own (kE num) },.int num):=by
    unfold dU;rw [if_neg hs,e1];show _=_;rw [<- hnn]
   exact k1 _ α' ρ' _ (by rw [e]; exact x2) ah (S1.any.two S2) (by rw [e]; rfl)
end
section
variable {P:Program}{w:World}{K:Frag}{mg:Str->Option Value}{base:Heap}{c:Cs}{N:Addr}
theorem pd (TH:TxH K c.h) (TS:TxS K c.s) (TL:TxL K c.l) (O_Hall_check:OwnMX P w K mg base c.h "check" 1 ["self","number"] (fe c N)) (O_Scribe_promise:OwnM P w K mg base c.s "promise" 1 ["self","number"] (i_ c.s)) (O_Hall_fall:OwnM P w K mg base c.h "fall" 2 ["self","own","number"] (rH c))
  (O_Lead_hear:OwnM P w K mg base c.l "hear" 3 ["self","scribe","row"] (wg c)) (D:MethAt K c.h "ask" "Hall.ask" fT ["self","own","other"]):OwnMX P w K mg base c.h "ask" 4 ["self","own","other"] (wn c N):=by
 refine D.ownX jE (fun vs H Q E h=>?_) (fun f cdv A outer s H vs Q E hr h=>?_)
 ·obtain ⟨own,other,α,ρ,A,n,PL,rfl,_⟩:=h; rfl
 ·obtain ⟨own,other,α,ρ,A,n,PL,rfl,x,wf,hn,k1,k2⟩:=h
  have hu:=bQ hr;have nd:=jE.nd;refine ⟨_,(af (aO (bC (E:=E) (nv 0) TH.cl O_Hall_check eC hr (aa (nv 1) ag)))
 (af (aO (bC (E:=E) (nv 0) TH.cl O_Hall_check eC hr (aa (nv 2) ag)))
 (af (aQ (PW.pt (dW (az (cp hr) (nv 1) (aF (nv 0) rfl) (by with_unfolding_all rfl)) (dg (az (i4 hr) (nv 2) (aF (nv 0) rfl) (by with_unfolding_all rfl))))) (ak (au gU)) ay)
 (af (aC nd 3 (aP (dN hu) (aF (nv 0) rfl) (nv 1) (fun _ _=>rfl)))
 (af (aC nd 4 (aP (dN hu) (aF (nv 0) rfl) (nv 2) (fun _ _=>rfl)))
 (af (aQ (cu (bz (eF (nv 4) TS.cl O_Scribe_promise hr (aa (aF (nv 3) rfl) ag)))) (af (aO (eF (nv 0) TH.cl O_Hall_fall hr (aa (nv 1) (aa (aF (nv 4) rfl) ag))))
 (ak (au bB))) ay)
 (af (aO (eF (nv 3) TL.cl O_Lead_hear hr (aa (nv 2) (aa (aF (nv 4) rfl) ag))))
 (ak (au bB))))))))),?_⟩
  obtain ⟨dx,ob⟩:=x.ob;refine ⟨_,dx,_,rfl,ob,cm _ _ _ _ _,?_⟩;refine ⟨_,dx,own,A.cnt,_,_,_,_,rfl,ob,fun hi=>?_,fun hi=>k2 ⟨own,by simp,hi⟩⟩;have hi:aM A own=true:=hi;refine ⟨_,dx,_,rfl,ob,cm _ _ _ _ _,?_⟩;refine ⟨_,dx,other,A.cnt,_,_,_,_,rfl,ob,fun hj=>?_,fun hj=>k2 ⟨other,by simp,hj⟩⟩;have hj:aM A other=true:=hj;have k1:=k1 (fun i h=>by simp at h; rcases h with rfl | rfl<;>assumption);dsimp only at k1;obtain ⟨kl,ol,jl⟩:=x.leadAt own;have gl:=dc.k (k:=Sum.inl own) ol;have gs:dc H (α .sd) (.int other) (if other∈A.stop then some (.bl true) else none):=by
   have:=dc.k (k:=Sum.inl other) x.sd;rwa [fD] at this
  refine ⟨_,c.h,dx,_,_,rfl,ob,TH.cl,TH.n3,cM _ _ _ _ _,_,.dct gl,_,rfl,?_⟩;rcases jl with ⟨z1,z2⟩ | ⟨l,z1,z2,L⟩
  ·rw [z2]
   refine cI ?_;have e:eQ A own other=(A,.non):=by unfold eQ; rw [z1]
   exact k1 H α ρ .non (by rw [e]; exact x) rfl .refl (by rw [e]; rfl)
  ·rw [z2] at gl ⊢
   refine cE ?_;refine ⟨_,c.h,dx,_,_,rfl,ob,TH.cl,TH.n4,dM _ _ _ _ _,_,.dct gs,_,rfl,?_⟩
   by_cases hs:other∈A.stop
   ·rw [if_pos hs]
    refine cI ?_;have e:eQ A own other=(A,.non):=by unfold eQ; rw [z1]; exact if_pos hs
    exact k1 H α ρ .non (by rw [e]; exact x) rfl .refl (by rw [e]; rfl)
   ·rw [if_neg hs]
    refine cE ?_;refine ⟨_,c.h,dx,_,_,rfl,ob,TH.cl,TH.n3,cM _ _ _ _ _,?_⟩;refine ⟨_,.dct gl,?_⟩;obtain ⟨sc,e1,e2,e3,e4⟩:=x.scrAt hj;obtain ⟨⟨dx2,os⟩,⟨kr,or,jr⟩,r1,r2⟩:=id e2;refine ⟨_,c.h,dx,_,_,rfl,ob,TH.cl,TH.n2,gC _ _ _ _ _,?_⟩;refine ⟨_,.lst (a9.of x.sl) e4,?_⟩;obtain ⟨⟨dx3,obl⟩,_⟩:=id L;refine ⟨_,dx2,_,rfl,os,iM _ _ _ _ _,?_⟩;refine ⟨_,c.l,dx3,_,_,rfl,obl,TL.cl,TL.n1,k8 _ _ _ _ _ _,?_⟩;refine ⟨_,dx2,_,_,sc.prom,l.num,_,_,rfl,os,fun hlt=>⟨_,rfl,cI ?_⟩,fun hge=>⟨_,rfl,cE ?_⟩⟩
    ·refine ⟨_,dx,_,rfl,ob,nG _ _ _ _ _,?_⟩
     refine ⟨_,c.s,dx2,_,_,rfl,os,TS.cl,TS.n3,gZ _ _ _ _ _,?_⟩;have hlb:=wf.bd.l;refine ⟨α,ρ,A,own,sc.prom,rfl,x,hi,by rw [z1]; rfl,by omega,fun H' x' S'=>?_⟩;have e:eQ A own other=(de A own sc.prom,.bl false):=by unfold eQ; rw [z1]; simp only [if_neg hs,e1,if_pos hlt]
     exact k1 H' α ρ _ (by rw [e]; exact x') rfl S' (by rw [e]; rfl)
    ·have S1:Stp (Au other.toNat) H ρ (aw H (α (.scr other.toNat)) (.ins c.s dx2 (sF (.int (other.toNat:Nat)) (.int A.cnt) (.int l.num) (α (.row other.toNat)) (.int sc.seen)))) ρ:=cj os r1 (.inl rfl)
     have n1:ScrAt c (aw H (α (.scr other.toNat)) (.ins c.s dx2 (sF (.int (other.toNat:Nat)) (.int A.cnt) (.int l.num) (α (.row other.toNat)) (.int sc.seen)))) α ρ A.cnt other.toNat { sc with prom:=l.num } :=
      ⟨⟨dx2,upd_same⟩,⟨kr,(ad (bL r2 r1 (fun z=>nomatch z))).trans or,jr.imp fun _ _ _ _ z=>z.stp S1⟩,r1,r2⟩
     have x1:=x.scr (s':={ sc with prom:=l.num }) e1 S1 n1;have L1:=L.stp (α':=α) S1 (fun r hr z=>by rcases z with rfl | rfl<;>exact hr) (fun _ _=>rfl);generalize aw H (α (.scr other.toNat)) (.ins c.s dx2 (sF (.int (other.toNat:Nat)) (.int A.cnt) (.int l.num) (α (.row other.toNat)) (.int sc.seen)))=H1 at x1 S1 n1 L1 ⊢;obtain ⟨⟨dx4,obl1⟩,_⟩:=id L1;obtain ⟨⟨dx5,os1⟩,⟨kr1,or1,jr1⟩,_⟩:=id n1;have ml:=bD z1;have ms:=List.mem_of_getElem? e1;refine ⟨_,dx4,_,rfl,obl1,u_ _ _ _ _ _ _,?_⟩;refine ⟨_,c.s,dx5,_,_,rfl,os1,TS.cl,TS.n4,Aj _ _ _ _ _,?_⟩;refine ⟨α,ρ,A.cnt,own,l,n,other,_,kr1,sc.row,rfl,L1,x1.nr,wf.bd.k _ ml,(wf.le _ ml).op,by omega,or1,jr1,wf.bd.r sc ms,fun H' α' ρ' L2 S2 e5 e6=>?_⟩;have x2:=x1.leadC (show aq A.leads own=some l from z1) S2 e5 e6 L2;have e:eQ A own other=({ A with scrs:=A.scrs.set other.toNat { sc with prom:=l.num },leads:=aD A.leads own (b7 A.cnt l other sc.row) },.bl true):=by unfold eQ; rw [z1]; simp only [if_neg hs,e1,if_neg hge]
     exact k1 H' α' ρ' _ (by rw [e]; exact x2) (e5 _ (fun z=>z)) (S1.any.two S2.any) (by rw [e]; rfl)
theorem pc (TH:TxH K c.h) (TL:TxL K c.l) (O_Hall_check:OwnMX P w K mg base c.h "check" 1 ["self","number"] (fe c N)) (O_Lead_say:OwnM P w K mg base c.l "say" 2 ["self","saying"] (we c)) (D:MethAt K c.h "say" "Hall.say" fS ["self","own","saying"]):OwnMX P w K mg base c.h "say" 3 ["self","own","saying"] (wm c N):=by
 refine D.ownX qM (fun vs H Q E h=>?_) (fun f cdv A outer s H vs Q E hr h=>?_)
 ·obtain ⟨own,sy,α,ρ,A,n,PL,rfl,_⟩:=h; rfl
 ·obtain ⟨own,sy,α,ρ,A,n,PL,rfl,x,wf,hn,k1,k2⟩:=h
  have hu:=bQ hr;refine ⟨_,(af (aO (bC (E:=E) (nv 0) TH.cl O_Hall_check eC hr (aa (nv 1) ag)))
 (af (aQ (PW.pt (dW (az (cp hr) (nv 1) (aF (nv 0) rfl) (by with_unfolding_all rfl)) (dg (cu (bz (aF (aP (dN hu) (aF (nv 0) rfl) (nv 1) (fun _ _=>rfl)) rfl)))))) (ak (au gU)) ay)
 (ak (au (eF (aP (dN hu) (aF (nv 0) rfl) (nv 1) (fun _ _=>rfl)) TL.cl O_Lead_say hr (aa (nv 2) ag)))))),?_⟩
  obtain ⟨dx,ob⟩:=x.ob;refine ⟨_,dx,_,rfl,ob,cm _ _ _ _ _,?_⟩;refine ⟨_,dx,own,A.cnt,_,_,_,_,rfl,ob,fun hi=>?_,fun hi=>k2 ⟨own,by simp,hi⟩⟩;have hi:aM A own=true:=hi;have k1:=k1 (fun i h=>by simp at h; rw [h]; exact hi);dsimp only at k1;obtain ⟨kl,ol,jl⟩:=x.leadAt own;have gl:=dc.k (k:=Sum.inl own) ol;refine ⟨_,c.h,dx,_,_,rfl,ob,TH.cl,TH.n3,cM _ _ _ _ _,_,.dct gl,_,rfl,?_⟩;rcases jl with ⟨z1,z2⟩ | ⟨l,z1,z2,L⟩
  ·rw [z2]
   refine cI ?_;have e:fM A own sy=(A,.non):=by unfold fM; rw [z1]
   exact k1 H α ρ .non (by rw [e]; exact x) rfl .refl (by rw [e]; rfl)
  ·rw [z2] at gl ⊢
   refine cE ?_;obtain ⟨⟨dx3,obl⟩,_⟩:=id L;refine ⟨_,c.h,dx,_,_,rfl,ob,TH.cl,TH.n3,cM _ _ _ _ _,_,.dct gl,?_⟩;refine ⟨_,c.l,dx3,_,_,rfl,obl,TL.cl,TL.n4,qB _ _ _ _ _ _,_,rfl,?_⟩;cases hop:l.op with
   | false =>
    refine cI ?_;have e:fM A own sy=(A,.non):=by unfold fM; rw [z1]; simp only [hop,Bool.false_eq_true,if_false]
    exact k1 H α ρ .non (by rw [e]; exact x) rfl .refl (by rw [e]; rfl)
   | true =>
    refine dH ?_;refine ⟨_,c.h,dx,_,_,rfl,ob,TH.cl,TH.n3,cM _ _ _ _ _,_,.dct gl,?_⟩;refine ⟨_,dx3,_,rfl,obl,xE _ _ _ _ _ _,?_⟩;have hb:=(wf.bd.k _ (bD z1)).s;have hnn:n * n<=398 * 398:=Nat.mul_le_mul hn hn;refine ⟨α,ρ,A.cnt,own,l,sy,rfl,L,by dsimp only at hb; omega,fun H' L1 S1=>?_⟩;have x1:=x.leadC z1 S1 (fun _ _=>rfl) rfl L1;have e:fM A own sy=({ A with leads:=aD A.leads own (pQ l sy) },.int (cz l.said)):=by unfold fM; rw [z1]; simp only [hop,if_true]
    exact k1 H' α ρ _ (by rw [e]; exact x1) rfl S1.any (by rw [e]; rfl)
theorem gG (TH:TxH K c.h) (O_Hall_check:OwnMX P w K mg base c.h "check" 1 ["self","number"] (fe c N)) (D:MethAt K c.h "be_stopped" "Hall.be_stopped" cD ["self","own"]):OwnMX P w K mg base c.h "be_stopped" 2 ["self","own"] (tO c N):=by
 refine D.ownX h8 (fun vs H Q E h=>?_) (fun f cdv A outer s H vs Q E hr h=>?_)
 ·obtain ⟨own,α,ρ,A,n,PL,rfl,_⟩:=h; rfl
 ·obtain ⟨own,α,ρ,A,n,PL,rfl,x,wf,hn,k1,k2⟩:=h
  have hu:=bQ hr;refine ⟨_,(af (aO (bC (E:=E) (nv 0) TH.cl O_Hall_check eC hr (aa (nv 1) ag)))
 (af (aQ (az (i4 hr) (nv 1) (aF (nv 0) rfl) (by with_unfolding_all rfl)) (ak (au bB)) ay)
 (af (dO hu (aF (nv 0) rfl) (nv 1) bB rfl)
 (af (aO (xq (aF (nv 0) rfl) (nv 1) gU ⟨rfl,rfl,rfl,rfl⟩))
 (ak (au bB)))))),?_⟩
  obtain ⟨dx,ob⟩:=x.ob;refine ⟨_,dx,_,rfl,ob,cm _ _ _ _ _,?_⟩;refine ⟨_,dx,own,A.cnt,_,_,_,_,rfl,ob,fun hi=>?_,fun hi=>k2 ⟨own,by simp,hi⟩⟩;have hi:aM A own=true:=hi;have k1:=k1 (fun i h=>by simp at h; rw [h]; exact hi);dsimp only at k1;have gs:dc H (α .sd) (.int own) (if own∈A.stop then some (.bl true) else none):=by
   have:=dc.k (k:=Sum.inl own) x.sd;rwa [fD] at this
  refine ⟨_,c.h,dx,_,_,rfl,ob,TH.cl,TH.n4,dM _ _ _ _ _,_,.dct gs,_,rfl,?_⟩
  by_cases hs:own∈A.stop
  ·rw [if_pos hs]
   refine cI ?_;have e:eU A own=(A,.bl false):=if_pos hs;exact k1 H α ρ _ (by rw [e]; exact x) rfl .refl (by rw [e]; rfl)
  ·rw [if_neg hs]
   refine cE ?_;refine ⟨_,c.h,dx,_,_,rfl,ob,TH.cl,TH.n4,dM _ _ _ _ _,?_⟩;have hsb:=wf.bd.s;refine ⟨_,_,rfl,f9.k (k:=Sum.inl own) x.sd (aE (by rw [oK]; omega)),?_⟩;rw [kY];have ea:ci A.stop own=A.stop++[own]:=if_neg hs;rw [ea];obtain ⟨x1,S1⟩:=x.halt (A.stop++[own]);obtain ⟨dx1,ob1⟩:=x1.ob;obtain ⟨kl,ol,jl⟩:=x1.leadAt own;generalize aw H (α .sd) (.dK (gH (A.stop++[own])))=H1 at x1 S1 ob1 ol jl ⊢;refine ⟨_,c.h,dx1,_,_,rfl,ob1,TH.cl,TH.n3,cM _ _ _ _ _,?_⟩;refine ⟨_,rfl,.inl ⟨_,.inl ol⟩,kl,Sum.inl own,ol,rfl,fun v hv=>?_,fun hv=>?_⟩
   ·obtain ⟨x2,S2⟩:=x1.gone ol own
    have e:eU A own=({ A with stop:=A.stop++[own],leads:=bY A.leads own },.bl true):=if_neg hs;exact k1 _ α ρ _ (by rw [e]; exact x2) rfl (S1.any.two S2.any) (by rw [e]; rfl)
   ·have hl:aq A.leads own=none:=by
     rcases jl with ⟨z,_⟩ | ⟨_,_,z,_⟩
     ·exact z
     ·rw [hv] at z; cases z
    have ed:bY A.leads own=A.leads:=List.filter_eq_self.mpr fun p hp=>decide_eq_true fun z=>c5.mp hl (List.mem_map.mpr ⟨p,hp,z⟩);have e:eU A own=({ A with stop:=A.stop++[own] },.bl true):=by unfold eU; rw [if_neg hs,ed]
    exact k1 _ α ρ _ (by rw [e]; exact x1) rfl S1.any (by rw [e]; rfl)
theorem jp (TH:TxH K c.h) (O_Hall_check:OwnMX P w K mg base c.h "check" 1 ["self","number"] (fe c N)) (D:MethAt K c.h "come_up" "Hall.come_up" dE ["self","own"]):OwnMX P w K mg base c.h "come_up" 2 ["self","own"] (tN c N):=by
 refine D.ownX jQ (fun vs H Q E h=>?_) (fun f cdv A outer s H vs Q E hr h=>?_)
 ·obtain ⟨own,α,ρ,A,n,PL,rfl,_⟩:=h; rfl
 ·obtain ⟨own,α,ρ,A,n,PL,rfl,x,wf,hn,k1,k2⟩:=h
  refine ⟨_,(af (aO (bC (E:=E) (nv 0) TH.cl O_Hall_check eC hr (aa (nv 1) ag)))
 (af (aQ (az (cp hr) (nv 1) (aF (nv 0) rfl) (by with_unfolding_all rfl)) (ak (au bB)) ay)
 (af (aO (qt (aF (nv 0) rfl) (nv 1) ⟨rfl,rfl,rfl,rfl⟩))
 (ak (au bB))))),?_⟩
  obtain ⟨dx,ob⟩:=x.ob;refine ⟨_,dx,_,rfl,ob,cm _ _ _ _ _,?_⟩;refine ⟨_,dx,own,A.cnt,_,_,_,_,rfl,ob,fun hi=>?_,fun hi=>k2 ⟨own,by simp,hi⟩⟩;have hi:aM A own=true:=hi;have k1:=k1 (fun i h=>by simp at h; rw [h]; exact hi);dsimp only at k1;have gs:dc H (α .sd) (.int own) (if own∈A.stop then some (.bl true) else none):=by
   have:=dc.k (k:=Sum.inl own) x.sd;rwa [fD] at this
  refine ⟨_,c.h,dx,_,_,rfl,ob,TH.cl,TH.n4,dM _ _ _ _ _,_,.dct gs,_,rfl,?_⟩
  by_cases hs:own∈A.stop
  ·rw [if_pos hs]
   refine dH ?_;refine ⟨_,c.h,dx,_,_,rfl,ob,TH.cl,TH.n4,dM _ _ _ _ _,?_⟩;refine ⟨_,rfl,.inl ⟨_,.inl x.sd⟩,_,Sum.inl own,.bl true,x.sd,rfl,by rw [fD,if_pos hs],?_⟩;rw [vm];obtain ⟨x1,S1⟩:=x.halt (A.stop.filter fun j=>decide (j≠own));have e:eA A own=({ A with stop:=A.stop.filter fun k=>decide (k≠own) },.bl true):=if_pos hs;exact k1 _ α ρ _ (by rw [e]; exact x1) rfl S1.any (by rw [e]; rfl)
  ·rw [if_neg hs]
   refine cI ?_;have e:eA A own=(A,.bl false):=if_neg hs;exact k1 H α ρ _ (by rw [e]; exact x) rfl .refl (by rw [e]; rfl)
end
section
variable {P:Program}{w:World}{K:Frag}{mg:Str->Option Value}{base:Heap}{c:Cs}{N:Addr}
theorem gF (TH:TxH K c.h) (TS:TxS K c.s) (TL:TxL K c.l) (O_Hall_check:OwnMX P w K mg base c.h "check" 1 ["self","number"] (fe c N)) (O_Scribe_put:OwnM P w K mg base c.s "put" 2 ["self","number","place","saying"] (Ag c.s)) (O_Hall_fall:OwnM P w K mg base c.h "fall" 2 ["self","own","number"] (rH c))
  (O_Lead_take_hand:OwnM P w K mg base c.l "take_hand" 1 ["self","scribe","place"] (wj c)) (D:MethAt K c.h "have_write" "Hall.have_write" cB ["self","own","other","place"]):OwnMX P w K mg base c.h "have_write" 3 ["self","own","other","place"] (qc c N):=by
 refine D.ownX eZ (fun vs H Q E h=>?_) (fun f cdv A outer s H vs Q E hr h=>?_)
 ·obtain ⟨own,other,pl,α,ρ,A,n,PL,rfl,_⟩:=h; rfl
 ·obtain ⟨own,other,pl,α,ρ,A,n,PL,rfl,x,wf,hn,k1,k2⟩:=h
  have hu:=bQ hr;have nd:=eZ.nd;refine ⟨_,(af (aO (bC (E:=E) (nv 0) TH.cl O_Hall_check eC hr (aa (nv 1) ag)))
 (af (aO (bC (E:=E) (nv 0) TH.cl O_Hall_check eC hr (aa (nv 2) ag)))
 (af (aQ (PW.pt (dW (az (cp hr) (nv 1) (aF (nv 0) rfl) (by with_unfolding_all rfl)) (dW (az (cp hr) (nv 3) (aF (aP (dN hu) (aF (nv 0) rfl) (nv 1) (fun _ _=>rfl)) rfl) (by with_unfolding_all rfl)) (dg (az (i4 hr) (nv 2) (aF (nv 0) rfl) (by with_unfolding_all rfl)))))) (ak (au gU)) ay)
 (af (aC nd 4 (aP (dN hu) (aF (nv 0) rfl) (nv 1) (fun _ _=>rfl)))
 (af (aC nd 5 (aP (dN hu) (aF (nv 0) rfl) (nv 2) (fun _ _=>rfl)))
 (af (aC nd 6 (aP (dN hu) (aF (nv 4) rfl) (nv 3) (fun _ _=>rfl)))
 (af (aQ (cu (bz (eF (nv 5) TS.cl O_Scribe_put hr (aa (aF (nv 4) rfl) (aa (nv 3) (aa (nv 6) ag)))))) (af (aO (eF (nv 0) TH.cl O_Hall_fall hr (aa (nv 1) (aa (aF (nv 5) rfl) ag))))
 (ak (au bB))) ay)
 (af (aO (dG PySem.F.plainAttrs_list PySem.F.slot_list_append PySem.F.type_list_append bj (aF (nv 0) rfl) (aa (bq (aa (aF (nv 4) rfl) (aa (nv 2) (aa (nv 3) (aa (nv 6) ag))))) ag)))
 (af (aO (eF (nv 4) TL.cl O_Lead_take_hand hr (aa (nv 2) (aa (nv 3) ag))))
 (ak (au bB))))))))))),?_⟩
  obtain ⟨dx,ob⟩:=x.ob;refine ⟨_,dx,_,rfl,ob,cm _ _ _ _ _,?_⟩;refine ⟨_,dx,own,A.cnt,_,_,_,_,rfl,ob,fun hi=>?_,fun hi=>k2 ⟨own,by simp,hi⟩⟩;have hi:aM A own=true:=hi;refine ⟨_,dx,_,rfl,ob,cm _ _ _ _ _,?_⟩;refine ⟨_,dx,other,A.cnt,_,_,_,_,rfl,ob,fun hj=>?_,fun hj=>k2 ⟨other,by simp,hj⟩⟩;have hj:aM A other=true:=hj;have k1:=k1 (fun i h=>by simp at h; rcases h with rfl | rfl<;>assumption);dsimp only at k1;obtain ⟨kl,ol,jl⟩:=x.leadAt own;have gl:=dc.k (k:=Sum.inl own) ol;have gs:dc H (α .sd) (.int other) (if other∈A.stop then some (.bl true) else none):=by
   have:=dc.k (k:=Sum.inl other) x.sd;rwa [fD] at this
  refine ⟨_,c.h,dx,_,_,rfl,ob,TH.cl,TH.n3,cM _ _ _ _ _,_,.dct gl,_,rfl,?_⟩;rcases jl with ⟨z1,z2⟩ | ⟨l,z1,z2,L⟩
  ·rw [z2]
   refine cI ?_;have e:bG A own other pl=(A,.non):=by unfold bG; rw [z1]
   exact k1 H α ρ .non (by rw [e]; exact x) rfl .refl (by rw [e]; rfl)
  ·rw [z2] at gl ⊢
   refine cE ?_;obtain ⟨⟨dx3,obl⟩,_,⟨ks,osd,js⟩,_⟩:=id L;have gk:=dc.k (k:=Sum.inl pl) osd;refine ⟨_,c.h,dx,_,_,rfl,ob,TH.cl,TH.n3,cM _ _ _ _ _,_,.dct gl,?_⟩;refine ⟨_,c.l,dx3,_,_,rfl,obl,TL.cl,TL.n5,i6 _ _ _ _ _ _,_,.dct gk,_,rfl,?_⟩;rcases js.get pl with ⟨y1,y2⟩ | ⟨v,sy,y1,y2,y3⟩
   ·rw [y2]
    refine cI ?_;have e:bG A own other pl=(A,.non):=by unfold bG; rw [z1]; simp only [y1]
    exact k1 H α ρ .non (by rw [e]; exact x) rfl .refl (by rw [e]; rfl)
   ·subst y3
    rw [y2] at gk ⊢;refine cE ?_;refine ⟨_,c.h,dx,_,_,rfl,ob,TH.cl,TH.n4,dM _ _ _ _ _,_,.dct gs,_,rfl,?_⟩
    by_cases hs:other∈A.stop
    ·rw [if_pos hs]
     refine cI ?_;have e:bG A own other pl=(A,.non):=by unfold bG; rw [z1]; simp only [y1,if_pos hs]
     exact k1 H α ρ .non (by rw [e]; exact x) rfl .refl (by rw [e]; rfl)
    ·rw [if_neg hs]
     refine cE ?_;refine ⟨_,c.h,dx,_,_,rfl,ob,TH.cl,TH.n3,cM _ _ _ _ _,_,.dct gl,?_⟩;obtain ⟨sc,e1,e2,e3,e4⟩:=x.scrAt hj;obtain ⟨⟨dx2,os⟩,⟨kr,or,jr⟩,r1,r2⟩:=id e2;refine ⟨_,c.h,dx,_,_,rfl,ob,TH.cl,TH.n2,gC _ _ _ _ _,_,.lst (a9.of x.sl) e4,?_⟩;refine ⟨_,c.l,dx3,_,_,rfl,obl,TL.cl,TL.n5,i6 _ _ _ _ _ _,_,.dct gk,?_⟩;refine ⟨_,dx2,_,rfl,os,xa _ _ _ _ _,?_⟩;refine ⟨_,c.l,dx3,_,_,rfl,obl,TL.cl,TL.n1,k8 _ _ _ _ _ _,?_⟩;have ml:=bD z1;have ms:=List.mem_of_getElem? e1;have hrl:=wf.bd.r sc ms;have hkr:=jr.len;refine ⟨_,dx2,_,_,sc.prom,l.num,pl,sy,_,_,kr,rfl,os,or,by omega,fun hlt=>⟨_,rfl,cI ?_⟩,fun hge tt H1 ht fr o1 o2 o3=>⟨_,rfl,cE ?_⟩⟩
     ·refine ⟨_,dx,_,rfl,ob,nG _ _ _ _ _,?_⟩
      refine ⟨_,c.s,dx2,_,_,rfl,os,TS.cl,TS.n3,gZ _ _ _ _ _,?_⟩;have hlb:=wf.bd.l;refine ⟨α,ρ,A,own,sc.prom,rfl,x,hi,by rw [z1]; rfl,by omega,fun H' x' S'=>?_⟩;have e:bG A own other pl=(de A own sc.prom,.bl false):=by unfold bG; rw [z1]; simp only [y1,if_neg hs,e1,if_pos hlt]
      exact k1 H' α ρ _ (by rw [e]; exact x') rfl S' (by rw [e]; rfl)
     ·have rt:ρ tt=none:=x.nr tt ht
      have S1:Stp (Au other.toNat) H ρ H1 ρ:=tF fr ⟨_,o2⟩ ⟨_,o3⟩ r1 r2 (.inl rfl) (.inr rfl);have n1:ScrAt c H1 α ρ A.cnt other.toNat { sc with prom:=l.num,row:=aD sc.row pl (l.num,sy) } :=
       ⟨⟨dx2,o2⟩,⟨_,o3,(jr.imp fun _ _ _ _ z=>z.stp S1).put pl ⟨tt,rfl,o1,rt⟩⟩,r1,r2⟩
      have x1:=x.scr (s':={ sc with prom:=l.num,row:=aD sc.row pl (l.num,sy) }) e1 S1 n1;have L1:=L.stp (α':=α) S1 (fun r hr z=>by rcases z with rfl | rfl<;>exact hr) (fun _ _=>rfl);obtain ⟨dxb,ob1⟩:=x1.ob;obtain ⟨⟨dx4,obl1⟩,_⟩:=id L1;obtain ⟨us,ow,jw⟩:=x1.wl;have hus:=Paired.length jw;have hwb:=wf.bd.w;refine ⟨_,c.h,dxb,_,_,rfl,ob1,TH.cl,TH.n5,lT _ _ _ _ _,?_⟩;refine ⟨.inl ⟨rfl,_,a9.of ow⟩,?_⟩;refine ⟨_,c.l,dx4,_,_,rfl,obl1,TL.cl,TL.n1,k8 _ _ _ _ _ _,?_⟩;refine ⟨by show 4<=sizeLine; decide,fun t2 ht2=>?_⟩;have S2:Stp (fun _=>False) H1 ρ (aw H1 t2 (.tup [.int l.num,.int other,.int pl,.str sy])) ρ:=ox ht2;have x2:=x1.stp S2;have L2:=L1.stp (α':=α) S2 (fun _ _ z=>z) (fun _ _=>rfl);have ow2:(aw H1 t2 (.tup [.int l.num,.int other,.int pl,.str sy])) (α .wl)=some (.lst us):=(ad (ai ow ht2)).trans ow;have rt2:ρ t2=none:=x1.nr t2 ht2;obtain ⟨x3,S3⟩:=x2.wrote (w:=(l.num,other,pl,sy)) ow2 upd_same rt2;have L3:=L2.stp (α':=α) S3 (fun r hr z=>by rcases z with rfl | rfl | rfl<;>exact hr) (fun _ _=>rfl);refine ⟨_,us,.ref t2,rfl,rfl,ow2,by have:us.length=A.wrs.length:=hus; rw [sizeLine_eq]; omega,?_⟩;generalize aw (aw H1 t2 (.tup [.int l.num,.int other,.int pl,.str sy])) (α .wl) (.lst (us++[.ref t2]))=H3 at x3 S3 L3 ⊢;obtain ⟨⟨dx6,obl3⟩,_⟩:=id L3;have bl:=wf.bd.k _ ml;have wl:=wf.le _ ml;refine ⟨_,dx6,_,rfl,obl3,mo _ _ _ _ _ _,?_⟩;refine ⟨α,ρ,A.cnt,own,l,other,pl,rfl,L3,x3.nr,Nat.lt_of_le_of_lt bl.h (by omega),(fun p hp=>Nat.lt_of_le_of_lt (bl.i p hp) (by omega)),wl.hn,fun H' α' ρ' L4 S4 e5 e6=>?_⟩;have x4:=x3.leadC (show aq A.leads own=some l from z1) S4 e5 e6 L4;have e:bG A own other pl=({ A with scrs:=A.scrs.set other.toNat { sc with prom:=l.num,row:=aD sc.row pl (l.num,sy) },wrs:=A.wrs++[(l.num,other,pl,sy)],leads:=aD A.leads own (ip l other pl) },.bl true):=by
       unfold bG; rw [z1]; simp only [y1,if_neg hs,e1,if_neg hge]
      exact k1 H' α' ρ' _ (by rw [e]; exact x4) (e5 _ (fun z=>z)) ((S1.any.two S2.any).two (S3.any.two S4.any)) (by rw [e]; rfl)
theorem fW (NB:NBs mg) (TL:TxL K c.l) (O_is_most:L2.Own P w K mg base "is_most" 1 ["count","many"] kH) (D:MethAt K c.l "settled_pairs" "Lead.settled_pairs" bV ["self"]):OwnM P w K mg base c.l "settled_pairs" 2 ["self"] (lG c):=by
 refine D.own dI (fun vs H Q E h=>?_) (fun f cdv A outer s H vs Q E hr h=>?_)
 ·obtain ⟨α,ρ,cnt,k,l,rfl,_⟩:=h; rfl
 ·obtain ⟨α,ρ,cnt,k,l,rfl,L,nr,h64,c_,hsd,q⟩:=h
  have hu:=bQ hr;have nd:=dI.nd;refine ⟨_,(af (eX nd 1 (tgs:=["place"]) (fr:=[0]) (ck (aB sP (by rfl) NB.sorted jk (aa (aF (nv 0) rfl) ag))) (dB (tt:=some _) (fun _ _ _ _=>(du 0)) (fun _ _ _ _=>(bz (a_ O_is_most hr rfl (aa (oH (K:=K) (nv 1) rfl) (aa (aB (vC (K:=K)) (by rfl) NB.len cy (aa (aP (B8 (K:=K) hu) (oH (K:=K) (nv 1) rfl) (nv 0) (fun _ _=>rfl)) ag)) ag))))) (fun _ _ _ _=>(nv 0))))
 (ak (au (j9 (tgs:=["place"]) (fr:=[0]) (ck (nv 1)) (dB (tt:=none) (fun _ _ _ _=>(du 0)) (fun _ _ _ _=>True.intro) (fun _ _ _ _=>(bq (aa (nv 0) (aa (aP (B8 (K:=K) hu) (oH (K:=K) (nv 1) rfl) (nv 0) (fun _ _=>rfl)) ag))))))))),?_⟩
  obtain ⟨⟨dx,ob⟩,_,⟨ks,osd,js⟩,⟨kh,oh,jh⟩,_⟩:=id L;refine ⟨_,c.l,dx,_,_,rfl,ob,TL.cl,TL.n6,oJ _ _ _ _ _ _,?_⟩;refine ⟨_,rfl,l.hands.map (·.1),kh,.inl oh,by rw [jh.keys],by rw [List.length_map]; exact h64,fun ns hp hs p hpn=>?_⟩;have eS:=wU hp hs;have s1:=am (o:=.lst (ns.map V.int)) hpn;have inN:∀ i∈ns,∃ h,aq l.hands i=some h:=fun i hi=>by
   cases e:aq l.hands i with
   | some h=>exact ⟨h,rfl⟩
   | none=>exact absurd (hp.mem_iff.mp hi) (c5.mp e)
  refine ⟨p,rfl,⟨_,a9.of upd_same⟩,fun D1 hD1=>?_⟩;have nsl:ns.length < 64:=by rw [hp.length_eq,List.length_map]; exact h64
  generalize hG:aw H p (.lst (ns.map V.int))=G at s1 hD1 ⊢;have gp:G p=some (.lst (ns.map V.int)):=by rw [<- hG]; exact upd_same
  refine eP (xs:=ns.map V.int) (fun i ys H1=>ys=((ns.take i).filter fun pl=>cw cnt ((aq l.hands pl).getD []).length).map V.int/\H1 D1=some (.lst ys)/\aI G H1) ⟨rfl,upd_same,am hD1⟩ (fun i ys H1 _ ⟨_,_,sm⟩=>a9.of (sm _ _ gp)) ?_ ?_
  ·rintro i v ys H1 hv hi ⟨rfl,hD,sm⟩
   have hi':i < ns.length:=by rw [List.length_map] at hi; exact hi
   rw [List.getElem?_map,List.getElem?_eq_getElem hi'] at hv;cases hv;have et:ns.take (i+1)=ns.take i++[ns[i]]:=by rw [List.take_succ_eq_append_getElem hi']
   obtain ⟨hs2,hg⟩:=inN ns[i] (List.getElem_mem hi');generalize ns[i]=pl at *;have s2:=s1.trans sm;obtain ⟨vv,y1,y2,y3,y4⟩:=jh.some hg;subst y2;have gk:=dc.k (k:=Sum.inl pl) (s2 _ _ oh);rw [y1] at gk;refine ⟨(Wk.refl _).set rfl,?_⟩;refine ⟨_,c.l,dx,_,_,rfl,s2 _ _ ob,TL.cl,TL.n2,ue _ _ _ _ _ _,_,c.l,dx,_,_,rfl,s2 _ _ ob,TL.cl,TL.n6,oJ _ _ _ _ _ _,?_⟩;refine ⟨_,.dct gk,_,.inr ⟨_,s2 _ _ y4,rfl⟩,?_⟩;refine ⟨cnt,_,rfl,_,rfl,?_⟩;rw [oK];have em:((ns.take (i+1)).filter fun pl=>cw cnt ((aq l.hands pl).getD []).length)=((ns.take i).filter fun pl=>cw cnt ((aq l.hands pl).getD []).length)++(if cw cnt hs2.length=true then [pl] else []):=by
    rw [et,List.filter_append]
    congr 1
    rw [List.filter_cons,hg];show (if cw cnt hs2.length=true then pl :: List.filter _ [] else List.filter _ [])=_;split<;>rfl
   have ll:(((ns.take i).filter fun pl=>cw cnt ((aq l.hands pl).getD []).length).map V.int).length < sizeLine:=by
    rw [List.length_map];have:=List.length_filter_le (fun pl=>cw cnt ((aq l.hands pl).getD []).length) (ns.take i);rw [List.length_take] at this;rw [sizeLine_eq]; omega
   by_cases hm:cw cnt hs2.length=true
   ·refine yw hm ?_
    refine ⟨hD,ll,fY hi ⟨?_,upd_same,fun b u e=>?_⟩⟩
    ·rw [em,if_pos hm,List.map_append]; rfl
    ·rw [ad (ai e hD1)]; exact sm b u e
   ·refine tf hm ?_
    exact fY hi ⟨by rw [em,if_neg hm,List.append_nil],hD,sm⟩
  ·rintro ys H1 ⟨rfl,hD,sm⟩
   rw [List.length_map,List.take_length] at hD;have s2:=s1.trans sm;refine ⟨D1,rfl,⟨_,a9.of hD⟩,fun D2 hD2=>?_⟩;have nr2:H D2=none:=by
    cases e:H D2 with
    | none=>rfl
    | some u=>rw [s2 _ _ e] at hD2; cases hD2
   generalize hF:(ns.filter fun pl=>cw cnt ((aq l.hands pl).getD []).length)=fs at hD ⊢;have fsn:∀ i∈fs,i∈ns:=fun i hi=>by rw [<- hF] at hi; exact (List.mem_filter.mp hi).1
   have fl:fs.length<=ns.length:=by rw [<- hF]; exact List.length_filter_le ..
   refine eP (xs:=fs.map V.int) (fun i ys H2=>Paired (fun u (q:Int×Str)=>∃ a,u=V.ref a/\H2 a=some (.tup [.int q.1,.str q.2])/\H a=none) ys ((fs.take i).map fun pl=>(pl,(aq l.said pl).getD ""))/\H2 D2=some (.lst ys)/\aI H1 H2) ⟨.nil,upd_same,am hD2⟩ (fun i ys H2 _ ⟨_,_,sm⟩=>a9.of (sm _ _ hD)) ?_ ?_
   ·rintro i v ys H2 hv hi ⟨pr,hE,sm2⟩
    have hi':i < fs.length:=by rw [List.length_map] at hi; exact hi
    rw [List.getElem?_map,List.getElem?_eq_getElem hi'] at hv;cases hv;have et:fs.take (i+1)=fs.take i++[fs[i]]:=by rw [List.take_succ_eq_append_getElem hi']
    have hin:=fsn fs[i] (List.getElem_mem hi');generalize fs[i]=pl at *;obtain ⟨hs2,hg⟩:=inN pl hin;have s3:=s2.trans sm2;obtain ⟨sy,hsy⟩:=Option.isSome_iff_exists.mp (hsd _ (bD hg));obtain ⟨vv,y1,y2⟩:=js.some hsy;subst y2;have gk:=dc.k (k:=Sum.inl pl) (s3 _ _ osd);rw [y1] at gk;refine ⟨(Wk.refl _).set rfl,?_⟩;rw [dL,if_pos rfl];refine ⟨_,c.l,dx,_,_,rfl,s3 _ _ ob,TL.cl,TL.n5,i6 _ _ _ _ _ _,_,.dct gk,?_⟩;refine ⟨by show 2<=sizeLine; decide,fun t ht=>?_⟩;have ht0:H t=none:=by
     cases e:H t with
     | none=>rfl
     | some u=>rw [s3 _ _ e] at ht; cases ht
    have sm3:=am (o:=.tup [.int pl,.str sy]) ht;have lp:=Paired.length pr;rw [List.length_map,List.length_take] at lp;refine ⟨sm3 _ _ hE,by rw [sizeLine_eq]; omega,fY hi ⟨?_,upd_same,fun b u e=>?_⟩⟩
    ·rw [et,List.map_append]
     have tD:t≠D2:=fun z=>by rw [z,hE] at ht; cases ht
     refine Paired.snoc (Paired.mapP pr fun u q ⟨a,e1,e2,e3⟩=>⟨a,e1,?_,e3⟩) ⟨t,rfl,?_,ht0⟩
     ·have:=sm3 _ _ e2
      rw [ad (fZ this (sm3 _ _ hE) (fun z=>nomatch z))]; exact this
     ·rw [ad tD,upd_same]
      show some (HO.tup [.int pl,.str sy])=some (.tup [.int pl,.str ((aq l.said pl).getD "")]);rw [show aq l.said pl=some sy from hsy]; rfl
    ·rw [ad (ai e hD2)]; exact sm3 _ _ (sm2 b u e)
   ·rintro ys H2 ⟨pr,hE,sm2⟩
    rw [List.length_map,List.take_length] at pr;refine q H2 _ ⟨D2,ys,rfl,hE,nr D2 nr2,?_⟩ (p_ (s2.trans sm2));unfold dj;rw [eS,hF];exact Paired.mapP pr fun u q ⟨a,e1,e2,e3⟩=>⟨a,e1,e2,nr a e3⟩
theorem fX (TH:TxH K c.h) (TL:TxL K c.l) (O_Hall_check:OwnMX P w K mg base c.h "check" 1 ["self","number"] (fe c N)) (O_Lead_settled_pairs:OwnM P w K mg base c.l "settled_pairs" 2 ["self"] (lG c)) (D:MethAt K c.h "known_settled" "Hall.known_settled" bW ["self","own"]):OwnMX P w K mg base c.h "known_settled" 3 ["self","own"] (lH c N):=by
 refine D.ownX f_ (fun vs H Q E h=>?_) (fun f cdv A outer s H vs Q E hr h=>?_)
 ·obtain ⟨own,α,ρ,A,n,PL,rfl,_⟩:=h; rfl
 ·obtain ⟨own,α,ρ,A,n,PL,rfl,x,wf,hn,k1,k2⟩:=h
  have hu:=bQ hr;refine ⟨_,(af (aO (bC (E:=E) (nv 0) TH.cl O_Hall_check eC hr (aa (nv 1) ag)))
 (af (aQ (az (cp hr) (nv 1) (aF (nv 0) rfl) (by with_unfolding_all rfl)) (ak (au (bA ag))) ay)
 (ak (au (kZ (aP (dN hu) (aF (nv 0) rfl) (nv 1) (fun _ _=>rfl)) TL.cl O_Lead_settled_pairs hr))))),?_⟩
  obtain ⟨dx,ob⟩:=x.ob;refine ⟨_,dx,_,rfl,ob,cm _ _ _ _ _,?_⟩;refine ⟨_,dx,own,A.cnt,_,_,_,_,rfl,ob,fun hi=>?_,fun hi=>k2 ⟨own,by simp,hi⟩⟩;have hi:aM A own=true:=hi;have k1:=k1 (fun i h=>by simp at h; rw [h]; exact hi);dsimp only at k1;obtain ⟨kl,ol,jl⟩:=x.leadAt own;have gl:=dc.k (k:=Sum.inl own) ol;refine ⟨_,c.h,dx,_,_,rfl,ob,TH.cl,TH.n3,cM _ _ _ _ _,_,.dct gl,_,rfl,?_⟩;rcases jl with ⟨z1,z2⟩ | ⟨l,z1,z2,L⟩
  ·rw [z2]
   refine cI ?_;refine ⟨by show 0<=sizeLine; decide,fun D0 hD0=>?_⟩;have e:b9 A own=.prs []:=by unfold b9; rw [z1]
   have S:Stp (fun _=>False) H ρ (aw H D0 (.lst [])) ρ:=ox hD0;refine k1 _ α ρ _ (x.stp S) rfl S.any ?_;show jP _ _ _ (b9 A own);rw [e];exact ⟨D0,[],rfl,upd_same,x.nr _ hD0,.nil⟩
  ·rw [z2] at gl ⊢
   refine cE ?_;obtain ⟨⟨dx3,obl⟩,_⟩:=id L;have ml:=bD z1;have wl:=wf.le _ ml;refine ⟨_,c.h,dx,_,_,rfl,ob,TH.cl,TH.n3,cM _ _ _ _ _,_,.dct gl,?_⟩;refine ⟨_,dx3,_,rfl,obl,ig _ _ _ _ _ _,?_⟩;refine ⟨α,ρ,A.cnt,own,l,rfl,L,x.nr,rf wl wf.pl,wl.hn,wl.hs,fun H' v av S=>?_⟩;have e:b9 A own=.prs (dj A.cnt l):=by unfold b9; rw [z1]
   exact k1 H' α ρ v (x.stp S) rfl S.any (by show jP _ _ _ (b9 A own); rw [e]; exact av)
end
section
variable {P:Program}{w:World}{K:Frag}{mg:Str->Option Value}{base:Heap}{c:Cs}{N:Addr}
theorem xr (TH:TxH K c.h) (O_Hall_rise:OwnMX P w K mg base c.h "rise" 3 ["self","own"] (tP c N)) (O_Hall_ask:OwnMX P w K mg base c.h "ask" 4 ["self","own","other"] (wn c N)) (O_Hall_say:OwnMX P w K mg base c.h "say" 3 ["self","own","saying"] (wm c N)) (O_Hall_have_write:OwnMX P w K mg base c.h "have_write" 3 ["self","own","other","place"] (qc c N))
  (O_Hall_known_settled:OwnMX P w K mg base c.h "known_settled" 3 ["self","own"] (lH c N)) (O_Hall_be_stopped:OwnMX P w K mg base c.h "be_stopped" 2 ["self","own"] (tO c N)) (O_Hall_come_up:OwnMX P w K mg base c.h "come_up" 2 ["self","own"] (tN c N)) (D:DefAt K mg "done" kI ["hall","deed"]):OwnX P w K mg base "done" 5 ["hall","deed"] (wq c N):=by
 refine D.ownX tT (fun vs H Q E h=>?_) (fun f cdv A outer s H vs Q E hr h=>?_)
 ·obtain ⟨α,ρ,A,n,PL,t,d,rfl,_⟩:=h; rfl
 ·obtain ⟨α,ρ,A,n,PL,t,d,rfl,x,wf,hn,ht,k1,k2⟩:=h
  have hu:=bQ hr;have nd:=tT.nd;refine ⟨_,(af (aC nd 2 (aP (dN hu) (nv 1) aj (fun _ _=>rfl)))
 (af (aQ (az (bX hr) (nv 2) aY (aN _)) (ak (au (bC (E:=E) (nv 0) TH.cl O_Hall_rise eC hr (aa (aP (dN hu) (nv 1) aj (fun _ _=>rfl)) ag)))) ay)
 (af (aQ (az (bX hr) (nv 2) aY (aN _)) (ak (au (bC (E:=E) (nv 0) TH.cl O_Hall_ask eC hr (aa (aP (dN hu) (nv 1) aj (fun _ _=>rfl)) (aa (aP (dN hu) (nv 1) aj (fun _ _=>rfl)) ag))))) ay)
 (af (aQ (az (bX hr) (nv 2) aY (aN _)) (ak (au (bC (E:=E) (nv 0) TH.cl O_Hall_say eC hr (aa (aP (dN hu) (nv 1) aj (fun _ _=>rfl)) (aa (aP (dN hu) (nv 1) aj (fun _ _=>rfl)) ag))))) ay)
 (af (aQ (az (bX hr) (nv 2) aY (aN _)) (ak (au (bC (E:=E) (nv 0) TH.cl O_Hall_have_write eC hr (aa (aP (dN hu) (nv 1) aj (fun _ _=>rfl)) (aa (aP (dN hu) (nv 1) aj (fun _ _=>rfl)) (aa (aP (dN hu) (nv 1) aj (fun _ _=>rfl)) ag)))))) ay)
 (af (aQ (az (bX hr) (nv 2) aY (aN _)) (ak (au (bC (E:=E) (nv 0) TH.cl O_Hall_known_settled eC hr (aa (aP (dN hu) (nv 1) aj (fun _ _=>rfl)) ag)))) ay)
 (af (aQ (az (bX hr) (nv 2) aY (aN _)) (ak (au (bC (E:=E) (nv 0) TH.cl O_Hall_be_stopped eC hr (aa (aP (dN hu) (nv 1) aj (fun _ _=>rfl)) ag)))) ay)
 (ak (au (bC (E:=E) (nv 0) TH.cl O_Hall_come_up eC hr (aa (aP (dN hu) (nv 1) aj (fun _ _=>rfl)) ag))))))))))),?_⟩
  obtain ⟨dx,ob⟩:=x.ob;have sk:∀ {a b:Str},a≠b->¬ (V.str a=V.str b):=fun h z=>h (V.str.inj z);cases d with
  | rise o =>
   refine ⟨_,.tup (c8.of ht) (vJ _ _),_,.scal rfl,_,rfl,fC rfl ?_⟩;refine ⟨_,dx,_,rfl,ob,vi _ _ _ _ _,_,.tup (c8.of ht) (ym _ _ _),?_⟩;refine ⟨o,α,ρ,A,n,PL,rfl,x,wf,hn,fun hc H' α' ρ' v x' e S av=>?_,k2⟩;have es:step A (.rise o)=dU A o:=if_pos (hc o (by simp));exact k1 hc H' α' ρ' v (by rw [es]; exact x') e S (by rw [es]; exact av)
  | ask o p =>
   refine ⟨_,.tup (c8.of ht) (vJ _ _),_,.scal rfl,_,rfl,cR (sk qX) ?_⟩;refine ⟨_,.scal rfl,_,rfl,fC rfl ?_⟩;refine ⟨_,dx,_,rfl,ob,xL _ _ _ _ _,_,.tup (c8.of ht) (ym _ _ _),_,.tup (c8.of ht) (Do _ _ _ _),?_⟩;refine ⟨o,p,α,ρ,A,n,PL,rfl,x,wf,hn,fun hc H' α' ρ' v x' e S av=>?_,k2⟩;have es:step A (.ask o p)=eQ A o p:=(if_pos (hc o (by simp))).trans (if_pos (hc p (by simp)));exact k1 hc H' α' ρ' v (by rw [es]; exact x') e S (by rw [es]; exact av)
  | say o sy =>
   refine ⟨_,.tup (c8.of ht) (vJ _ _),_,.scal rfl,_,rfl,cR (sk qV) ?_⟩;refine ⟨_,.scal rfl,_,rfl,cR (sk sD) ?_⟩;refine ⟨_,.scal rfl,_,rfl,fC rfl ?_⟩;refine ⟨_,dx,_,rfl,ob,xK _ _ _ _ _,_,.tup (c8.of ht) (ym _ _ _),_,.tup (c8.of ht) (Do _ _ _ _),?_⟩;refine ⟨o,sy,α,ρ,A,n,PL,rfl,x,wf,hn,fun hc H' α' ρ' v x' e S av=>?_,k2⟩;have es:step A (.say o sy)=fM A o sy:=if_pos (hc o (by simp));exact k1 hc H' α' ρ' v (by rw [es]; exact x') e S (by rw [es]; exact av)
  | write o p pl =>
   refine ⟨_,.tup (c8.of ht) (vJ _ _),_,.scal rfl,_,rfl,cR (sk mJ) ?_⟩;refine ⟨_,.scal rfl,_,rfl,cR (sk pf) ?_⟩;refine ⟨_,.scal rfl,_,rfl,cR (sk iO) ?_⟩;refine ⟨_,.scal rfl,_,rfl,fC rfl ?_⟩;refine ⟨_,dx,_,rfl,ob,jX _ _ _ _ _,_,.tup (c8.of ht) (ym _ _ _),_,.tup (c8.of ht) (Do _ _ _ _),_,.tup (c8.of ht) (Ek _ _ _ _ _),?_⟩;refine ⟨o,p,pl,α,ρ,A,n,PL,rfl,x,wf,hn,fun hc H' α' ρ' v x' e S av=>?_,k2⟩;have es:step A (.write o p pl)=bG A o p pl:=(if_pos (hc o (by simp))).trans (if_pos (hc p (by simp)));exact k1 hc H' α' ρ' v (by rw [es]; exact x') e S (by rw [es]; exact av)
  | settled o =>
   refine ⟨_,.tup (c8.of ht) (vJ _ _),_,.scal rfl,_,rfl,cR (sk jV) ?_⟩;refine ⟨_,.scal rfl,_,rfl,cR (sk mj) ?_⟩;refine ⟨_,.scal rfl,_,rfl,cR (sk gr) ?_⟩;refine ⟨_,.scal rfl,_,rfl,cR (sk jq) ?_⟩;refine ⟨_,.scal rfl,_,rfl,fC rfl ?_⟩;refine ⟨_,dx,_,rfl,ob,ii _ _ _ _ _,_,.tup (c8.of ht) (ym _ _ _),?_⟩;refine ⟨o,α,ρ,A,n,PL,rfl,x,wf,hn,fun hc H' α' ρ' v x' e S av=>?_,k2⟩;have es:step A (.settled o)=(A,b9 A o):=if_pos (hc o (by simp));exact k1 hc H' α' ρ' v (by rw [es]; exact x') e S (by rw [es]; exact av)
  | stop o =>
   refine ⟨_,.tup (c8.of ht) (vJ _ _),_,.scal rfl,_,rfl,cR (sk py) ?_⟩;refine ⟨_,.scal rfl,_,rfl,cR (sk qU) ?_⟩;refine ⟨_,.scal rfl,_,rfl,cR (sk jI) ?_⟩;refine ⟨_,.scal rfl,_,rfl,cR (sk mL) ?_⟩;refine ⟨_,.scal rfl,_,rfl,cR (sk jU) ?_⟩;refine ⟨_,.scal rfl,_,rfl,fC rfl ?_⟩;refine ⟨_,dx,_,rfl,ob,jY _ _ _ _ _,_,.tup (c8.of ht) (ym _ _ _),?_⟩;refine ⟨o,α,ρ,A,n,PL,rfl,x,wf,hn,fun hc H' α' ρ' v x' e S av=>?_,k2⟩;have es:step A (.stop o)=eU A o:=if_pos (hc o (by simp));exact k1 hc H' α' ρ' v (by rw [es]; exact x') e S (by rw [es]; exact av)
  | wake o =>
   refine ⟨_,.tup (c8.of ht) (vJ _ _),_,.scal rfl,_,rfl,cR (sk pj) ?_⟩;refine ⟨_,.scal rfl,_,rfl,cR (sk qT) ?_⟩;refine ⟨_,.scal rfl,_,rfl,cR (sk jH) ?_⟩;refine ⟨_,.scal rfl,_,rfl,cR (sk mK) ?_⟩;refine ⟨_,.scal rfl,_,rfl,cR (sk jT) ?_⟩;refine ⟨_,.scal rfl,_,rfl,cR (sk pi) ?_⟩;refine ⟨_,dx,_,rfl,ob,pG _ _ _ _ _,_,.tup (c8.of ht) (ym _ _ _),?_⟩;refine ⟨o,α,ρ,A,n,PL,rfl,x,wf,hn,fun hc H' α' ρ' v x' e S av=>?_,k2⟩;have es:step A (.wake o)=eA A o:=if_pos (hc o (by simp));exact k1 hc H' α' ρ' v (by rw [es]; exact x') e S (by rw [es]; exact av)
theorem mF (XN:TxN K mg "NoScribe" N) (O_done:OwnX P w K mg base "done" 5 ["hall","deed"] (wq c N)) (D:DefAt K mg "answer_to" d7 ["hall","deed"]):L2.Own P w K mg base "answer_to" 6 ["hall","deed"] (kX c):=by
 refine D.own oW (fun vs H Q E h=>?_) (fun f cdv A outer s H vs Q E hr h=>?_)
 ·obtain ⟨α,ρ,A,n,PL,t,d,rfl,_⟩:=h; rfl
 ·obtain ⟨α,ρ,A,n,PL,t,d,rfl,x,wf,hn,ht,k⟩:=h
  refine ⟨_,(ak (Bb XN.mg XN.ex rfl rfl (fun pn xe E hp=>(ak (au (yX O_done hp hr rfl (aa (nv 0) (aa (nv 1) ag)))))) (fun e=>(ak (au aY))))),?_⟩;refine ⟨α,ρ,A,n,PL,t,d,rfl,x,wf,hn,ht,fun _=>k,fun hc=>⟨rfl,fun σ _=>?_⟩⟩;have e:=wS hc;exact k H α ρ _ (by rw [e]; exact x) rfl .refl (by rw [e]; rfl)
theorem xu (NB:NBs mg) (TH:TxH K c.h) (O_Scribe:OwnC P w K mg base c.s "Scribe" 1 ["self","own","count"] (tI c.s)) (D:CtorAt K mg c.h "Hall" "Hall.__init__" fw ["self","count"]):OwnC P w K mg base c.h "Hall" 3 ["self","count"] (oz c):=by
 refine D.own oZ (fun vs H Q E h=>?_) (fun f cdv A outer s H vs Q E hr h=>?_)
 ·obtain ⟨p,dx,n,rfl,_⟩:=h; rfl
 ·obtain ⟨p,dx,n,rfl,hp,hn,q⟩:=h
  refine ⟨_,(af (b8 (nv 0) (nv 1) rfl)
 (af (b8 (nv 0) (j9 (tgs:=["own"]) (fr:=[1]) (bP rfl NB.range (aa (nv 1) ag)) (dB (tt:=none) (fun _ _ _ _=>(du 0)) (fun _ _ _ _=>True.intro) (fun _ _ _ _=>(iF O_Scribe hr rfl (aa (nv 0) (aa (nv 1) ag)))))) rfl)
 (af (b8 (nv 0) dv rfl)
 (af (b8 (nv 0) dv rfl)
 (ak (b8 (nv 0) (bA ag) rfl)))))),?_⟩
  have L0:([]:List (Str×V)).length<=0:=Nat.le_refl _;have L1:=uv (f:="count") (v:=.int n) L0;refine ⟨p,c.h,dx,_,rfl,hp,TH.cl,TH.n1,by decide,?_⟩;refine ⟨_,rfl,by omega,by omega,fun D hD=>?_⟩;have hp1:(aw H p (.ins c.h dx (bZ "count" (.int n) []))) p=_:=upd_same;have kpH:∀ b u,H b=some u->b≠p->(aw H p (.ins c.h dx (bZ "count" (.int n) []))) b=some u:=fun b u e hb=>by rw [ad hb]; exact e
  generalize aw H p (.ins c.h dx (bZ "count" (.int n) []))=H1 at hp1 kpH hD ⊢;have pD:=ai hp1 hD;refine g_ (fun i ys H2=>∃ α ρ,Mkg c H1 p D (.ins c.h dx (bZ "count" (.int n) [])) n i H2 α ρ/\ys=(List.range i).map fun j=>.ref (α (.scr j))) ⟨_,_,DO hp1 hD,rfl⟩ ?_ ?_
  ·rintro i ys H2 hi ⟨α,ρ,m,rfl⟩
   have hi':i < n:=by simpa using hi
   refine ⟨(Wk.refl _).set rfl,?_⟩;rw [dL,if_pos rfl];intro a da ha hda hne;have ka:∀ b u,H2 b=some u->(aw (aw H2 da (.own a)) a (.ins c.s da [])) b=some u/\b≠a:=fun b u e=>⟨by rw [ad (ai e ha),ad (ai e hda)]; exact e,ai e ha⟩;refine ⟨a,da,_,_,rfl,upd_same,fun r H3 hr o1 o2 kp=>⟨rfl,?_⟩⟩;have ra:r≠a:=fun z=>by rw [z,upd_same] at hr; cases hr
   have r0:H2 r=none:=by
    rw [ad ra] at hr;have z:r≠da:=fun z=>by rw [z,upd_same] at hr; cases hr
    rw [ad z] at hr; exact hr
   have sm:aI H2 H3:=fun b u e=>kp b u (ka b u e).1 (ka b u e).2;have o1':H3 a=some (.ins c.s da (sF (.int (i:Nat)) (.int n) (.int (-1)) r (.int (-1)))):=by rw [Int.zero_add] at o1; exact o1
   have m2:=m.more ha r0 (Ne.symm ra) o1' o2 sm;refine ⟨sm _ _ m.hD,by rw [List.length_map,List.length_range,sizeLine_eq]; omega,fY hi ⟨_,_,m2,?_⟩⟩;have e:=m2.hD;rw [upd_same] at e;exact HO.lst.inj (Option.some.inj e)
  ·rintro ys H2 ⟨α,ρ,m,rfl⟩
   have m:Mkg c H1 p D (.ins c.h dx (bZ "count" (.int n) [])) n n H2 α ρ:=by simpa using m
   have L2:=uv (f:="scribes") (v:=.ref D) L1;refine ⟨p,c.h,dx,_,rfl,m.ho,TH.cl,TH.n2,by omega,?_⟩;intro a1 h1;have L3:=uv (f:="leads") (v:=.ref a1) L2;have p1:a1≠p:=fun z=>by rw [z,upd_same] at h1; cases h1
   have n1:H2 a1=none:=by rw [ad p1] at h1; exact h1
   refine ⟨p,c.h,dx,_,rfl,(ad (Ne.symm p1)).trans upd_same,TH.cl,TH.n3,by omega,?_⟩;intro a2 h2;have L4:=uv (f:="stopped") (v:=.ref a2) L3;have p2:a2≠p:=fun z=>by rw [z,upd_same] at h2; cases h2
   rw [ad p2] at h2;have d12:a1≠a2:=fun z=>by rw [<- z,upd_same] at h2; cases h2
   have n2:H2 a2=none:=by rw [ad (Ne.symm d12),ad p2] at h2; exact h2
   refine ⟨p,c.h,dx,_,rfl,(ad (Ne.symm p2)).trans upd_same,TH.cl,TH.n4,by omega,?_⟩;refine ⟨by show 0<=sizeLine; decide,fun a3 h3=>?_⟩;have p3:a3≠p:=fun z=>by rw [z,upd_same] at h3; cases h3
   rw [ad p3] at h3;have d23:a2≠a3:=fun z=>by rw [<- z,upd_same] at h3; cases h3
   rw [ad (Ne.symm d23),ad p3] at h3;have d13:a1≠a3:=fun z=>by rw [<- z,upd_same] at h3; cases h3
   have n3:H2 a3=none:=by rw [ad (Ne.symm d13),ad p3] at h3; exact h3
   refine ⟨p,c.h,dx,_,rfl,(ad (Ne.symm p3)).trans upd_same,TH.cl,TH.n5,by omega,?_⟩;rw [BF];have key:∀ HF:Hp,HF p=some (.ins c.h dx (hF (.int n) D a1 a2 a3))->HF a1=some (.dK [])->HF a2=some (.dK [])->HF a3=some (.lst [])->(∀ b u,H2 b=some u->b≠p->HF b=some u)->Q .non HF:=fun HF o0 o1 o2 o3 k=>by
    obtain ⟨α',ρ',eh,x,kp⟩:=m.hall (dx:=dx) n1 n2 n3 d12 d13 d23 o0 o1 o2 o3 k;exact q _ α' ρ' eh x fun b u e hb=>kp b u (kpH b u e hb) hb
   refine key _ upd_same ?_ ?_ ?_ fun b u e hb=>?_
   ·rw [ad p1,ad d13,ad p1,ad d12,ad p1,upd_same]
   ·rw [ad p2,ad d23,ad p2,upd_same]
   ·rw [ad p3,upd_same]
   ·rw [ad hb,ad (ai e n3),ad hb,ad (ai e n2),ad hb,ad (ai e n1),ad hb]; exact e
end
section
variable {P:Program}{w:World}{K:Frag}{mg:Str->Option Value}{base:Heap}{c:Cs}{N:Addr}
theorem ma (O_Hall:OwnC P w K mg base c.h "Hall" 3 ["self","count"] (oz c)) (O_answer_to:L2.Own P w K mg base "answer_to" 6 ["hall","deed"] (kX c)) (D:DefAt K mg "hall_after" dC ["count","deeds"]):L2.Own P w K mg base "hall_after" 7 ["count","deeds"] (jC c):=by
 refine D.own gO (fun vs H Q E h=>?_) (fun f cdv A outer s H vs Q E hr h=>?_)
 ·obtain ⟨n,l,ds,PL,us,rfl,_⟩:=h; rfl
 ·obtain ⟨n,l,ds,PL,us,rfl,T,q⟩:=h
  have nd:=gO.nd;refine ⟨_,(af (aC nd 2 (iF O_Hall hr rfl (aa (nv 0) ag)))
 (af (bO PassesOwn.never rfl (ck (nv 1)) (aJ nd 3) (ak (aO (a_ O_answer_to hr rfl (aa (nv 2) (aa (nv 3) ag))))))
 (ak (au (nv 2))))),?_⟩
  intro p dp hp hdp hne;have ka:∀ b u,H b=some u->(aw (aw H dp (.own p)) p (.ins c.h dp [])) b=some u/\b≠p:=fun b u e=>⟨by rw [ad (ai e hp),ad (ai e hdp)]; exact e,ai e hp⟩;refine ⟨p,dp,n,rfl,upd_same,by have:=T.n1; omega,fun H1 α ρ ah x kp=>⟨rfl,?_⟩⟩;have kp:∀ b u,H b=some u->H1 b=some u/\ρ b=none:=fun b u e=>kp b u (ka b u e).1 (ka b u e).2;have lu:=Paired.length T.dd;refine ⟨l,rfl,⟨_,a9.of (kp _ _ T.hl).1⟩,?_⟩;refine dA (xs:=us) (fun i σ H2=>∃ o3 α ρ,σ=[some (.int n),some (.ref l),some (.ref p),o3]/\α .hall=p/\HallAt c H2 α ρ (aH (init n) (ds.take i))/\∀ b u,H b=some u->H2 b=some u/\ρ b=none) ⟨_,α,ρ,rfl,ah,x,kp⟩ (fun i σ H2 _ ⟨_,_,_,_,_,_,kp⟩=>a9.of (kp _ _ T.hl).1) ?_ ?_
  ·rintro i v σ H2 hv ⟨o3,α,ρ,rfl,ah,x,kp⟩
   have hi:i < us.length:=(List.getElem?_eq_some_iff.mp hv).1;obtain ⟨d,hd,t,rfl,ht⟩:=bF T.dd hv;have et:ds.take (i+1)=ds.take i++[d]:=by
    have hi':i < ds.length:=by omega
    rw [List.take_succ_eq_append_getElem hi'];rw [List.getElem?_eq_getElem hi'] at hd;cases hd; rfl
   have wf:=v7 (tu T.n0 T.pl) (ds.take i) fun d hd=>T.ok d (List.mem_of_mem_take hd);have hdl:=T.dl;have htl:(ds.take i).length<=396:=by rw [List.length_take]; omega
   refine ⟨α,ρ,_,_,PL,t,d,by rw [ah],x,wf,by omega,(kp _ _ ht).1,fun H3 α' ρ' v x' ah' S _=>?_⟩;refine ⟨_,α',ρ',rfl,ah'.trans ah,by rw [et,jb]; exact x',fun b u e=>?_⟩;obtain ⟨h1,h2⟩:=kp b u e;exact ⟨S.kp _ _ h1 (fun r hr=>by rw [h2] at hr; cases hr),(S.ro _ _ h1).trans h2⟩
  ·rintro σ H2 ⟨o3,α,ρ,rfl,ah,x,kp⟩
   rw [lu,List.take_length] at x;have:=q H2 α ρ x kp;rw [ah] at this;exact this
theorem qR (O_Hall:OwnC P w K mg base c.h "Hall" 3 ["self","count"] (oz c)) (O_answer_to:L2.Own P w K mg base "answer_to" 6 ["hall","deed"] (kX c)) (D:DefAt K mg "answers" fJ ["count","deeds"]):L2.Own P w K mg base "answers" 7 ["count","deeds"] ja:=by
 refine D.own lN (fun vs H Q E h=>?_) (fun f cdv A outer s H vs Q E hr h=>?_)
 ·obtain ⟨n,l,ds,PL,us,rfl,_⟩:=h; rfl
 ·obtain ⟨n,l,ds,PL,us,rfl,T,q⟩:=h
  have nd:=lN.nd;refine ⟨_,(af (aC nd 2 (iF O_Hall hr rfl (aa (nv 0) ag)))
 (ak (au (j9 (tgs:=["deed"]) (fr:=[2]) (ck (nv 1)) (dB (tt:=none) (fun _ _ _ _=>(du 0)) (fun _ _ _ _=>True.intro) (fun _ _ _ _=>(a_ O_answer_to hr rfl (aa (nv 1) (aa (nv 0) ag))))))))),?_⟩
  intro p dp hp hdp hne;have ka:∀ b u,H b=some u->(aw (aw H dp (.own p)) p (.ins c.h dp [])) b=some u/\b≠p:=fun b u e=>⟨by rw [ad (ai e hp),ad (ai e hdp)]; exact e,ai e hp⟩;refine ⟨p,dp,n,rfl,upd_same,by have:=T.n1; omega,fun H1 α ρ ah x kp=>⟨rfl,?_⟩⟩;have kp:∀ b u,H b=some u->H1 b=some u/\ρ b=none:=fun b u e=>kp b u (ka b u e).1 (ka b u e).2;have lu:=Paired.length T.dd;refine ⟨l,rfl,⟨_,a9.of (kp _ _ T.hl).1⟩,fun D hD=>?_⟩;have hD0:H D=none:=by
   cases e:H D with
   | none=>rfl
   | some u=>rw [(kp _ _ e).1] at hD; cases hD
  have S0:Stp (fun _=>False) H1 ρ (aw H1 D (.lst [])) (c9 ρ D .out):=kU _ hD;refine eP (xs:=us) (fun i ys H2=>∃ α ρ,α .hall=p/\HallAt c H2 α ρ (aH (init n) (ds.take i))/\(∀ b u,H b=some u->H2 b=some u/\ρ b=none)/\ρ D=some .out/\H2 D=some (.lst ys)/\Paired (jP H2 ρ) ys (ik (init n) (ds.take i)))
   ⟨α,_,ah,x.stp S0,(fun b u e=>⟨by rw [ad (ai e hD0)]; exact (kp b u e).1,by rw [aV (ai e hD0)]; exact (kp b u e).2⟩),bK,upd_same,.nil⟩ (fun i ys H2 _ ⟨_,_,_,_,kp,_⟩=>a9.of (kp _ _ T.hl).1) ?_ ?_
  ·rintro i v ys H2 hv hi ⟨α,ρ,ah,x,kp,rD,hE,pr⟩
   obtain ⟨d,hd,t,rfl,ht⟩:=bF T.dd hv;have et:ds.take (i+1)=ds.take i++[d]:=by
    have hi':i < ds.length:=by omega
    rw [List.take_succ_eq_append_getElem hi'];rw [List.getElem?_eq_getElem hi'] at hd;cases hd; rfl
   have wf:=v7 (tu T.n0 T.pl) (ds.take i) fun d hd=>T.ok d (List.mem_of_mem_take hd);have hdl:=T.dl;have htl:(ds.take i).length<=396:=by rw [List.length_take]; omega
   have lp:=Paired.length pr;rw [lm] at lp;refine ⟨(Wk.refl _).set rfl,?_⟩;rw [dL,if_pos rfl];refine ⟨α,ρ,_,_,PL,t,d,by rw [ah],x,wf,by omega,(kp _ _ ht).1,fun H3 α' ρ' v x' ah' S av=>?_⟩;have hE3:H3 D=some (.lst ys):=S.kp _ _ hE (fun r hr z=>by rw [rD] at hr; cases hr; exact z rfl);have rD3:ρ' D=some .out:=(S.ro _ _ hE).trans rD;have S3:Stp (fun r=>r=.out) H3 ρ' (aw H3 D (.lst (ys++[v]))) ρ':=cj hE3 rD3 rfl;refine ⟨hE3,by rw [sizeLine_eq]; omega,fY hi ⟨α',ρ',ah'.trans ah,?_,fun b u e=>?_,rD3,upd_same,?_⟩⟩
   ·rw [et,jb]; exact x'.outer S3
   ·obtain ⟨h1,h2⟩:=kp b u e
    have h3:=S.kp _ _ h1 (fun r hr=>by rw [h2] at hr; cases hr);exact ⟨by rw [ad (ai e hD0)]; exact h3,(S.ro _ _ h1).trans h2⟩
   ·rw [et,jm]
    exact Paired.snoc (Paired.mapP pr fun _ _ z=>(z.stp S).stp S3) (av.stp S3)
  ·rintro ys H2 ⟨α,ρ,ah,x,kp,rD,hE,pr⟩
   rw [lu,List.take_length] at pr;exact q H2 D ys hD0 hE (Paired.mapP pr fun _ _ z=>z.w) fun b u e=>(kp b u e).1
theorem h9 (TH:TxH K c.h) (O_hall_after:L2.Own P w K mg base "hall_after" 7 ["count","deeds"] (jC c)) (D:DefAt K mg "writings_after" ce ["count","deeds"]):L2.Own P w K mg base "writings_after" 8 ["count","deeds"] gW:=by
 refine D.own iU (fun vs H Q E h=>?_) (fun f cdv A outer s H vs Q E hr h=>?_)
 ·obtain ⟨n,l,ds,PL,us,rfl,_⟩:=h; rfl
 ·obtain ⟨n,l,ds,PL,us,rfl,T,q⟩:=h
  refine ⟨_,(ak (au (aF (a_ O_hall_after hr rfl (aa (nv 0) (aa (nv 1) ag))) rfl))),?_⟩;refine ⟨n,l,ds,PL,us,rfl,T,fun H1 α ρ x kp=>?_⟩;obtain ⟨dx,ob⟩:=x.ob;refine ⟨_,c.h,dx,_,_,rfl,ob,TH.cl,TH.n5,lT _ _ _ _ _,?_⟩;obtain ⟨vs',w1,w2⟩:=x.wl;refine q H1 _ vs' w1 ?_ (Paired.mapP w2 fun u p ⟨t,e1,e2,_⟩=>⟨t,e1,e2⟩) fun b u e=>(kp b u e).1;cases e:H (α .wl) with
  | none=>rfl
  | some u =>
   have:=(kp _ _ e).2;rw [x.r5] at this; cases this
end
seal L2.PE L2.PA L2.PS L2.gI
section
variable {P:Program}{w:World}{K:Frag}{mg:Str->Option Value}{base:Heap}{c:Cs}{N:Addr}
theorem qw (D:DefAt K mg "_law_word" og ["_law_k"]):L2.Own P w K mg base "_law_word" 1 ["_law_k"] rF:=by
 refine D.own tS (fun vs H Q E h=>?_) (fun f cdv A outer s H vs Q E hr h=>?_)
 ·obtain ⟨k,rfl,_⟩:=h; rfl
 ·obtain ⟨k,rfl,h0,h1,q⟩:=h
  have hu:=bQ hr;have nd:=tS.nd;refine ⟨_,(af (aC nd 1 aY)
 (af (aQ (az (bX hr) (ar aA (nv 0) aj) aj (aN _)) (ak (au (ar aW (aP (dN hu) (bA (aa aY (aa aY (aa aY ag)))) (ar aA (ar dw (nv 0) aj) aj) (fun _ _=>rfl)) (ar bi aY (ar dw (nv 0) aj))))) ay)
 (af (aC nd 2 (ar aA (ar bi (nv 0) aj) aj))
 (af (aC nd 3 (ar aW (aP (dN hu) (nv 1) (ar aA (nv 0) aj) (fun _ _=>rfl)) (aP (dN hu) (nv 1) (ar aA (ar dw (nv 0) aj) aj) (fun _ _=>rfl))))
 (ak (au (ar aW (ar aW (dZ zP (ar bi aY aj) gz (dP (nv 2))) (nv 3)) (dZ zP (ar bi aY aj) (dP (nv 2)) gz)))))))),?_⟩
  refine ⟨by decide,_,.scal rfl,_,rfl,iZ (fun _=>?_) (fun _=>?_)⟩
  ·refine ⟨by show 3<=sizeLine; decide,fun p hp=>?_⟩
   obtain ⟨x,hx,e⟩:=oq [V.str "",V.str " ",V.str "So 1"] (k / 9 % 3) (by omega) (by show _ < (3:Int); omega);obtain ⟨z,rfl,hz⟩:∃ z:Str,x=.str z/\z.length<=4:=by
    simp only [List.mem_cons,List.not_mem_nil,or_false] at hx;rcases hx with rfl | rfl | rfl
    ·exact ⟨_,rfl,by decide⟩
    ·exact ⟨_,rfl,by decide⟩
    ·exact ⟨_,rfl,by decide⟩
   refine ⟨⟨by decide,by decide⟩,by decide,_,.lst (a9.of upd_same) e,⟨by decide,by decide⟩,?_⟩;obtain ⟨m,em⟩:=Int.eq_ofNat_of_zero_le (show 0<=k / 27 by omega);obtain ⟨d1,d2⟩:=DV m (by omega);rw [em];exact ⟨d1,Nat.le_of_lt (aE (by omega)),q _ _ (am hp)⟩
  ·refine ⟨.inr ⟨by decide,by decide⟩,by decide,?_⟩
   obtain ⟨m,em⟩:=Int.eq_ofNat_of_zero_le (show 0<=k * 7 % 21 by omega);have hm:m < 21:=by omega
   rw [em];have ca:=DZ m hm;have cb:=DY m hm;obtain ⟨c1,_,e1⟩:=oq ("abcdefghijklmnopqrstuvwxyz":Str).cps.toList (k % 26) (by omega) (by rw [tm.1]; omega);obtain ⟨c2,_,e2⟩:=oq ("abcdefghijklmnopqrstuvwxyz":Str).cps.toList (k / 26 % 26) (by omega) (by rw [tm.1]; omega);refine ⟨by decide,_,.str tm.2 e1,⟨by decide,by decide⟩,by decide,_,.str tm.2 e2,by rw [fF,fF]; decide,?_⟩;refine ⟨Cj,_,rfl,Nat.le_of_lt (aE (by omega)),by rw [Str.length_append,fF,fF]; exact Nat.le_of_lt (aE (by omega)),Cj,_,rfl,Nat.le_of_lt (aE (by omega)),by rw [Str.length_append,Str.length_append,fF,fF]; exact Nat.le_of_lt (aE (by omega)),?_⟩;exact q _ _ fun _ _ e=>e
theorem ss (O_word:L2.Own P w K mg base "_law_word" 1 ["_law_k"] rF) (D:DefAt K mg "_law_single" iE ["_law_cell","_law_k","_law_count"]):L2.Own P w K mg base "_law_single" 2 ["_law_cell","_law_k","_law_count"] qb:=by
 refine D.own m_ (fun vs H Q E h=>?_) (fun f cdv A outer s H vs Q E hr h=>?_)
 ·obtain ⟨cell,k,n,rfl,_⟩:=h; rfl
 ·obtain ⟨cell,k,n,rfl,hk0,hk1,hn0,hn1,q⟩:=h
  have hu:=bQ hr;have nd:=m_.nd;have cpos:(0:Int) < (n:Int):=by omega
  refine ⟨_,(af (aC nd 3 (ar aA (ar aA (ar bi (nv 0) aj) aj) aj))
 (af (aC nd 4 (ar aA (ar aA (ar bi (ar aW (nv 0) (ar dw (nv 1) aj)) aj) aj) (nv 2)))
 (af (aC nd 5 (ar aA (ar aA (ar bi (ar aW (nv 0) (nv 1)) aj) aj) (nv 2)))
 (af (aQ (az (bX hr) (ar aA (ar aA (ar bi (nv 0) aj) aj) aj) aj (aN _)) (af (aC nd 6 aj)
 (ak (aC nd 5 (aP (dN hu) (bA (aa (mT gy aj) (aa (nv 2) (aa (mT gy aj) (aa (ar j_ aj (nv 2)) (aa (nv 6) (aa (ar j_ aj (nv 6)) ag))))))) (ar aA (ar aA (ar bi (nv 0) aj) aj) aj) (fun _ _=>rfl))))) ay)
 (af (aQ (PW.pt (dW (az (bX hr) (nv 3) aj (aN _)) (dg (az (bX hr) (nv 3) aj (aN _))))) (ak (au (bq (aa aY (aa (nv 4) ag))))) ay)
 (af (aQ (az fN (nv 3) aj (aN _)) (ak (au (bq (aa aY (aa (nv 4) (aa (nv 5) ag)))))) ay)
 (af (aQ (az fN (nv 3) aj (aN _)) (ak (au (bq (aa aY (aa (nv 4) (aa (a_ O_word hr rfl (aa (nv 1) ag)) ag)))))) ay)
 (af (aQ (az fN (nv 3) aj (aN _)) (af (aC nd 7 (aP (dN hu) (bA (aa aj (aa aj (aa aj (aa aj (aa aj (aa aj (aa aj (aa aj ag))))))))) (ar aA (ar aA (ar bi (nv 0) aj) aj) aj) (fun _ _=>rfl)))
 (ak (au (bq (aa aY (aa (nv 4) (aa (nv 5) (aa (nv 7) ag)))))))) ay)
 (ak (au (bq (aa (aP (dN hu) (bA (aa aY (aa aY ag))) (ar aA (nv 3) aj) (fun _ _=>rfl)) (aa (nv 5) ag))))))))))))),?_⟩
  refine ⟨pN _,by decide,by decide,⟨by decide,by decide⟩,pN _,by decide,cpos,pN _,by decide,cpos,?_⟩;have hw0:0<=cell * 48271 % 1033 % 16:=by omega
  have hw1:cell * 48271 % 1033 % 16 < 16:=by omega
  generalize cell * 48271 % 1033 % 16=way at hw0 hw1 ⊢;have hown:0<=(cell+k / 9) * 48271 % 1039 % (n:Int)/\(cell+k / 9) * 48271 % 1039 % (n:Int) < (n:Int):=⟨Int.emod_nonneg _ (by omega),Int.emod_lt_of_pos _ cpos⟩;generalize (cell+k / 9) * 48271 % 1039 % (n:Int)=own at hown ⊢;generalize (cell+k) * 48271 % 1049 % (n:Int)=oth;refine ⟨pN _,by decide,by decide,_,.scal rfl,_,rfl,iZ (fun _=>?_) (fun _=>?_)⟩
  case' refine_1 =>
   refine ⟨by show 6<=sizeLine; decide,fun p hp=>⟨pN _,by decide,by decide,?_⟩⟩;obtain ⟨oth',_,e⟩:=uA (is:=[-1,(n:Int),-2,0 - (n:Int),100000000000000000000,0 - 100000000000000000000]) (cell * 48271 % 1061 % 6) (by omega) (by show _ < (6:Int); omega);refine ⟨_,.lst (a9.of upd_same) e,?_⟩;have sm:=am (o:=.lst ([-1,(n:Int),-2,0 - (n:Int),100000000000000000000,0 - 100000000000000000000].map V.int)) hp
  case' refine_2=>have sm:aI H H:=fun _ _ e=>e
  all_goals
   refine ⟨_,.scal rfl,_,rfl,iZ (fun _=>cI ?_) (fun z0=>?_)⟩
   ·exact ⟨by show 2<=sizeLine; decide,fun t ht=>q t (.rise own) _ (sm.trans (am ht)) upd_same ⟨trivial,hown⟩⟩
   refine ⟨_,.scal rfl,_,rfl,iZ (fun _=>?_) (fun z8=>?_)⟩
   ·exact ⟨by show 2<=sizeLine; decide,fun t ht=>q t (.rise own) _ (sm.trans (am ht)) upd_same ⟨trivial,hown⟩⟩
   refine ⟨_,rfl,iZ (fun _=>?_) (fun z6=>?_)⟩
   ·exact ⟨by show 3<=sizeLine; decide,fun t ht=>q t (.ask own _) _ (sm.trans (am ht)) upd_same ⟨trivial,trivial⟩⟩
   refine ⟨_,rfl,iZ (fun _=>?_) (fun z7=>?_)⟩
   ·exact ⟨k,rfl,hk0,hk1,fun z H2 s2=>⟨by show 3<=sizeLine; decide,fun t ht=>q t (.say own z) _ ((sm.trans s2).trans (am ht)) upd_same ⟨trivial,trivial⟩⟩⟩
   refine ⟨_,rfl,iZ (fun _=>?_) (fun z14=>?_)⟩
   ·refine ⟨by show 8<=sizeLine; decide,fun p2 hp2=>⟨pN _,by decide,by decide,?_⟩⟩
    obtain ⟨pl,hpl,e2⟩:=uA (is:=[0,1,2,0,1,2,5,100000000000000000000]) (cell * 48271 % 1063 % 8) (by omega) (by show _ < (8:Int); omega);refine ⟨_,.lst (a9.of upd_same) e2,by show 4<=sizeLine; decide,fun t ht=>q t (.write own _ pl) _ ((sm.trans (am (o:=.lst ([0,1,2,0,1,2,5,100000000000000000000].map V.int)) hp2)).trans (am ht)) upd_same ?_⟩;refine ⟨?_,trivial⟩;show pl∈yn;simp only [List.mem_cons,List.not_mem_nil,or_false] at hpl;rcases hpl with rfl | rfl | rfl | rfl | rfl | rfl | rfl | rfl<;>decide
   have zz:¬ way < 14:=fun z=>z14 (decide_eq_true z);refine ⟨by show 2<=sizeLine; decide,fun p2 hp2=>?_⟩;have hw:way=14\/way=15:=by omega
   rcases hw with rfl | rfl
   ·exact ⟨by decide,V.str "stop",.lst (a9.of upd_same) rfl,by show 2<=sizeLine; decide,fun t ht=>q t (.stop _) _ ((sm.trans (am (o:=.lst [.str "stop",.str "wake"]) hp2)).trans (am ht)) upd_same ⟨trivial,trivial⟩⟩
   ·exact ⟨by decide,V.str "wake",.lst (a9.of upd_same) rfl,by show 2<=sizeLine; decide,fun t ht=>q t (.wake _) _ ((sm.trans (am (o:=.lst [.str "stop",.str "wake"]) hp2)).trans (am ht)) upd_same ⟨trivial,trivial⟩⟩
theorem uZ (NB:NBs mg) (O_word:L2.Own P w K mg base "_law_word" 1 ["_law_k"] rF) (D:DefAt K mg "_law_round" j7 ["_law_cell","_law_k","_law_count"]):L2.Own P w K mg base "_law_round" 2 ["_law_cell","_law_k","_law_count"] tJ:=by
 refine D.own qk (fun vs H Q E h=>?_) (fun f cdv A outer s H vs Q E hr h=>?_)
 ·obtain ⟨cell,k,n,rfl,_⟩:=h; rfl
 ·obtain ⟨cell,k,n,rfl,hk0,hk1,hn0,hn1,q⟩:=h
  have hu:=bQ hr;have nd:=qk.nd;have cpos:(0:Int) < (n:Int):=by omega
  refine ⟨_,(af (aC nd 3 (ar aA (ar aA (ar bi (ar aW (nv 0) (nv 1)) aj) aj) (nv 2)))
 (af (aC nd 4 (bA ag))
 (af (aQ (az (bX hr) (ar aA (ar aA (ar bi (nv 0) aj) aj) aj) aj (aN _)) (ak (aO (dG PySem.F.plainAttrs_list PySem.F.slot_list_append PySem.F.type_list_append bj (nv 4) (aa (bq (aa aY (aa (ar aA (ar aW (nv 3) (ar aA (ar aA (ar bi (nv 0) aj) aj) (nv 2))) (nv 2)) ag))) ag)))) ay)
 (af (aQ (az (bX hr) (ar aA (ar aA (ar bi (nv 0) aj) aj) aj) aj (aN _)) (ak (aO (dG PySem.F.plainAttrs_list PySem.F.slot_list_append PySem.F.type_list_append bj (nv 4) (aa (bq (aa aY (aa (ar aA (ar aW (nv 3) (ar aA (ar aA (ar bi (nv 0) aj) aj) (nv 2))) (nv 2)) ag))) ag)))) ay)
 (af (aO (dG PySem.F.plainAttrs_list PySem.F.slot_list_append PySem.F.type_list_append bj (nv 4) (aa (bq (aa aY (aa (nv 3) ag))) ag)))
 (af (bO PassesOwn.never rfl (bP rfl NB.range (aa (nv 2) ag)) (aJ nd 5) (ak (aQ (az kM (ar aA (ar aA (ar bi (ar dw (nv 0) (aP (dN hu) (bA (aa aj (aa aj (aa aj (aa aj (aa aj ag)))))) (ar aA (nv 5) aj) (fun _ _=>rfl))) aj) aj) aj) aj (aN _)) (af (aC nd 6 (ar aA (ar aW (ar aW (nv 3) (nv 5)) (ar aA (ar aA (ar bi (nv 0) aj) aj) (nv 2))) (nv 2)))
 (ak (aO (dG PySem.F.plainAttrs_list PySem.F.slot_list_append PySem.F.type_list_append bj (nv 4) (aa (bq (aa aY (aa (nv 3) (aa (nv 6) ag)))) ag))))) ay)))
 (af (aO (dG PySem.F.plainAttrs_list PySem.F.slot_list_append PySem.F.type_list_append bj (nv 4) (aa (bq (aa aY (aa (nv 3) (aa (a_ O_word hr rfl (aa (nv 1) ag)) ag)))) ag)))
 (af (bO PassesOwn.never rfl (bP rfl NB.range (aa (nv 2) ag)) (aJ nd 5) (ak (bO PassesOwn.never rfl (bP rfl NB.range (aa aj ag)) (aJ nd 7) (ak (aQ (az kM (ar aA (ar aA (ar bi (ar dw (nv 0) (aP (dN hu) (bA (aa aj (aa aj (aa aj (aa aj (aa aj ag)))))) (ar aA (nv 5) aj) (fun _ _=>rfl))) aj) aj) aj) (nv 7) (aN _)) (af (aC nd 6 (ar aA (ar aW (ar aW (nv 3) (nv 5)) (ar aA (ar aA (ar bi (nv 0) aj) aj) (nv 2))) (nv 2)))
 (ak (aO (dG PySem.F.plainAttrs_list PySem.F.slot_list_append PySem.F.type_list_append bj (nv 4) (aa (bq (aa aY (aa (nv 3) (aa (nv 6) (aa (nv 7) ag))))) ag))))) ay)))))
 (ak (au (nv 4))))))))))),?_⟩
  refine ⟨pN _,by decide,cpos,?_⟩;have hown:0<=(cell+k) * 48271 % 1009 % (n:Int)/\(cell+k) * 48271 % 1009 % (n:Int) < (n:Int):=⟨Int.emod_nonneg _ (by omega),Int.emod_lt_of_pos _ cpos⟩;generalize (cell+k) * 48271 % 1009 % (n:Int)=own at hown ⊢;refine ⟨by show 0<=sizeLine; decide,fun l hl=>?_⟩;have L0:DL n (aw H l (.lst [])) l [] []:=⟨upd_same,.nil,fun _ h=>nomatch h⟩;have s0:=am (o:=.lst []) hl;dsimp only;generalize aw H l (.lst [])=H1 at L0 s0 ⊢;refine ww (fun H'=>∃ us ds,DL n H' l us ds/\ds.length<=1/\aI H H') (fun C D' kk hD=>?_) ?_
  ·refine ⟨pN _,by decide,by decide,_,.scal rfl,_,rfl,iZ (fun _=>?_) (fun _=>kk H1 ⟨_,_,L0,Nat.zero_le _,s0⟩)⟩
   exact ir (.stop _) (fun _ _ h=>h) L0 (fun Q k=>⟨pN _,by decide,cpos,cpos,by show 2<=sizeLine; decide,fun t ht=>k t _ (am ht) upd_same⟩) ⟨trivial,trivial⟩ (by show 0<=999; decide) fun us' H' L' kl=>hD _ (kk H' ⟨_,_,L',by show 1<=1; decide,Kl.behind s0 kl hl⟩)
  clear L0 s0;rintro H1 ⟨us,ds,L0,n0,s0⟩;refine ww (fun H'=>∃ us ds,DL n H' l us ds/\ds.length<=2/\aI H H') (fun C D' kk hD=>?_) ?_
  ·refine ⟨pN _,by decide,by decide,_,.scal rfl,_,rfl,iZ (fun _=>?_) (fun _=>kk H1 ⟨_,_,L0,by omega,s0⟩)⟩
   exact ir (.wake _) (fun _ _ h=>h) L0 (fun Q k=>⟨pN _,by decide,cpos,cpos,by show 2<=sizeLine; decide,fun t ht=>k t _ (am ht) upd_same⟩) ⟨trivial,trivial⟩ (by omega) fun us' H' L' kl=>hD _ (kk H' ⟨_,_,L',by rw [List.length_append]; show _+1<=2; omega,Kl.behind s0 kl hl⟩)
  clear L0 s0 n0;rintro H2 ⟨us2,ds2,L2',n2,s2⟩;refine xf (.rise own) (fun _ _ h=>h) L2' (fun Q k=>⟨by show 2<=sizeLine; decide,fun t ht=>k t _ (am ht) upd_same⟩) ⟨trivial,hown⟩ (by omega) fun us3 H3 L3 kl3=>?_;have s3:=Kl.behind s2 kl3 hl;have n3:(ds2++[Deed.rise own]).length<=3:=by rw [List.length_append]; show _+1<=3; omega
  generalize ds2++[Deed.rise own]=ds3 at L3 n3;refine ⟨n,rfl,by omega,by omega,?_⟩;refine cq (n:=(n:Int).toNat) (fun j σ H'=>∃ us ds o5 o6,σ=[some (.int cell),some (.int k),some (.int n),some (.int own),some (.ref l),o5,o6,none]/\DL n H' l us ds/\ds.length<=3+j/\aI H H') ⟨_,_,_,_,rfl,L3,n3,s3⟩ ?_ ?_
  ·rintro j σ H4 hj ⟨us4,ds4,o5,o6,rfl,L4,n4,s4⟩
   rw [Int.zero_add];refine ⟨by show 5<=sizeLine; decide,fun p hp=>⟨by decide,?_⟩⟩;obtain ⟨m,hm,e⟩:=uA (is:=[3,5,11,17,29]) ((j:Int) % 5) (by omega) (by show _ < (5:Int); omega);have hm':0 < m/\m < 1073741824:=by
    simp only [List.mem_cons,List.not_mem_nil,or_false] at hm;rcases hm with rfl | rfl | rfl | rfl | rfl<;>decide
   refine ⟨_,.lst (a9.of upd_same) e,hm',pN _,by decide,by decide,_,rfl,?_⟩;have s5:=am (o:=.lst ([3,5,11,17,29].map V.int)) hp;have L5:=L4.same s5;refine iZ (fun _=>?_) (fun _=>⟨_,_,_,_,rfl,L5,by omega,s4.trans s5⟩);refine ⟨pN _,by decide,cpos,cpos,?_⟩;dsimp only;exact ir (.ask own _) (fun _ _ h=>h) L5 (fun Q k=>⟨by show 3<=sizeLine; decide,fun t ht=>k t _ (am ht) upd_same⟩) ⟨trivial,trivial⟩ (by omega) fun us' H' L' kl=>⟨_,_,_,_,rfl,L',by rw [List.length_append]; show _+1<=3+(j+1); omega,Kl.behind (s4.trans s5) kl hl⟩
  ·rintro σ H4 ⟨us4,ds4,o5,o6,rfl,L4,n4,s4⟩
   have n4':ds4.length<=3+n:=by omega
   clear n4;refine ⟨.inl ⟨rfl,_,a9.of L4.hl⟩,k,rfl,hk0,hk1,fun z H5 s5=>⟨by show 3<=sizeLine; decide,fun t ht=>?_⟩⟩;have s6:=s5.trans (am (o:=.tup [.str "say",.int own,.str z]) ht);have L6:=L4.same s6;refine ⟨l,_,_,rfl,rfl,L6.hl,aE (by rw [L4.len]; omega),?_⟩;have L7:=L6.app (d:=.say own z) upd_same ⟨trivial,trivial⟩;have s7:=Kl.behind (s4.trans s6) (cW (o:=.lst (us4++[.ref t]))) hl;have n7:(ds4++[Deed.say own z]).length<=4+n:=by rw [List.length_append]; show _+1<=4+n; omega
   clear n4' L4 L6 s4 s5 s6;refine ⟨n,rfl,by omega,by omega,?_⟩;refine cq (n:=(n:Int).toNat) (fun j σ H'=>∃ us ds o5 o6 o7,σ=[some (.int cell),some (.int k),some (.int n),some (.int own),some (.ref l),o5,o6,o7]/\DL n H' l us ds/\ds.length<=4+n+2 * j/\aI H H') ⟨_,_,_,_,_,rfl,L7,by omega,s7⟩ ?_ ?_
   ·rintro j σ H4 hj ⟨us4,ds4,o5,o6,o7,rfl,L4,n4,s4⟩
    rw [Int.zero_add];refine ⟨2,rfl,by decide,by decide,?_⟩;refine cq (n:=2) (fun i σ H'=>∃ us ds o6 o7,σ=[some (.int cell),some (.int k),some (.int n),some (.int own),some (.ref l),some (.int j),o6,o7]/\DL n H' l us ds/\ds.length<=4+n+2 * j+i/\aI H H') ⟨_,_,_,_,rfl,L4,by omega,s4⟩ ?_ ?_
    ·clear L4 n4 s4
     rintro i σ H4 hi ⟨us4,ds4,o6,o7,rfl,L4,n4,s4⟩;rw [Int.zero_add];refine ⟨by show 5<=sizeLine; decide,fun p hp=>⟨by decide,?_⟩⟩;obtain ⟨m,hm,e⟩:=uA (is:=[2,7,13,19,31]) ((j:Int) % 5) (by omega) (by show _ < (5:Int); omega);have hm':0 < m/\m < 1073741824:=by
      simp only [List.mem_cons,List.not_mem_nil,or_false] at hm;rcases hm with rfl | rfl | rfl | rfl | rfl<;>decide
     refine ⟨_,.lst (a9.of upd_same) e,hm',pN _,by decide,by decide,_,rfl,?_⟩;have s5:=am (o:=.lst ([2,7,13,19,31].map V.int)) hp;have L5:=L4.same s5;refine iZ (fun _=>?_) (fun _=>⟨_,_,_,_,rfl,L5,by omega,s4.trans s5⟩);refine ⟨pN _,by decide,cpos,cpos,?_⟩;have hpl:(i:Int)∈yn:=by
      have:i=0\/i=1:=by omega
      rcases this with rfl | rfl<;>decide
     dsimp only;exact ir (.write own _ i) (fun _ _ h=>h) L5 (fun Q k=>⟨by show 4<=sizeLine; decide,fun t ht=>k t _ (am ht) upd_same⟩) ⟨hpl,trivial⟩ (by omega) fun us' H' L' kl=>⟨_,_,_,_,rfl,L',by rw [List.length_append]; show _+1<=4+n+2 * j+(i+1); omega,Kl.behind (s4.trans s5) kl hl⟩
    ·rintro σ H5 ⟨us5,ds5,o6,o7,rfl,L5,n5,s5⟩
     exact ⟨_,_,_,_,_,rfl,L5,by omega,s5⟩
   ·rintro σ H5 ⟨us5,ds5,o5,o6,o7,rfl,L5,n5,s5⟩
    exact q l us5 ds5 H5 hl s5 L5 (by omega)
end
section
variable {P:Program}{w:World}{K:Frag}{mg:Str->Option Value}{base:Heap}{c:Cs}{N:Addr}
theorem uY (NB:NBs mg) (D:DefAt K mg "_law_woven" j4 ["_law_one","_law_other","_law_cell"]):L2.Own P w K mg base "_law_woven" 1 ["_law_one","_law_other","_law_cell"] tG:=by
 refine D.own qj (fun vs H Q E h=>?_) (fun f cdv A outer s H vs Q E hr h=>?_)
 ·obtain ⟨n,a,b,cell,ua,ub,da,db,rfl,_⟩:=h; rfl
 ·obtain ⟨n,a0,b0,cell,ua0,ub0,da0,db0,rfl,A0,B0,hz,q⟩:=h
  have hu:=bQ hr;have nd:=qj.nd;refine ⟨_,(af (aC nd 3 (bA ag))
 (af (qq PassesOwn.never (PW.pt (dW (az (gc hr) (nv 0) (bA ag) (aN _)) (dg (az (gc hr) (nv 1) (bA ag) (aN _))))) (af (aC nd 4 (fh (bX hr) (ar aA (ar aA (ar bi (ar dw (nv 2) (ar aW (aB bf (by rfl) NB.len cy (aa (nv 0) ag)) aj)) aj) aj) aj) aj (aN _)))
 (ak (aQ (PW.pt (dW (az (bX hr) (nv 1) (bA ag) (aN _)) (dg (PW.pt (wx (bz (nv 4)) (tU (az (gc hr) (nv 0) (bA ag) (aN _)))))))) (af (aO (dG PySem.F.plainAttrs_list PySem.F.slot_list_append PySem.F.type_list_append bj (nv 3) (aa (aP (dN hu) (nv 0) aj (fun _ _=>rfl)) ag)))
 (ak (aC nd 0 (dZ zP (nv 0) (dP aj) gz)))) (af (aO (dG PySem.F.plainAttrs_list PySem.F.slot_list_append PySem.F.type_list_append bj (nv 3) (aa (aP (dN hu) (nv 1) aj (fun _ _=>rfl)) ag)))
 (ak (aC nd 1 (dZ zP (nv 1) (dP aj) gz))))))))
 (ak (au (nv 3))))),?_⟩
  refine ⟨by show 0<=sizeLine; decide,fun l hl=>?_⟩;have L0:DL n (aw H l (.lst [])) l [] []:=⟨upd_same,.nil,fun _ h=>nomatch h⟩;have s0:=am (o:=.lst []) hl;dsimp only;generalize aw H l (.lst [])=H1 at L0 s0 ⊢;refine ⟨fun m σ H'=>∃ a b ua ub da db us ds o4,σ=[some (.ref a),some (.ref b),some (.int cell),some (.ref l),o4]/\DL n H' a ua da/\DL n H' b ub db/\DL n H' l us ds/\a≠l/\b≠l/\m=da.length+db.length/\ds.length+m=da0.length+db0.length/\aI H H',
   ⟨_,a0,b0,ua0,ub0,da0,db0,[],[],none,rfl,A0.same s0,B0.same s0,L0,ai A0.hl hl,ai B0.hl hl,rfl,by simp,s0⟩,?_⟩
  rintro m σ H2 ⟨a,b,ua,ub,da,db,us,ds,o4,rfl,A2,B2,L2',na,nb,rfl,hs,sm⟩;refine CT (fun _ _ h=>h) (fun _ _ h=>h) A2.hl B2.hl (fun hne H3 s3=>cI ?_) (fun h1 h2 H3 s3=>cE ?_)
  ·refine ⟨fun σ' H'=>∃ m',m' < da.length+db.length/\∃ a b ua ub da db us ds o4,σ'=[some (.ref a),some (.ref b),some (.int cell),some (.ref l),o4]/\DL n H' a ua da/\DL n H' b ub db/\DL n H' l us ds/\a≠l/\b≠l/\m'=da.length+db.length/\ds.length+m'=da0.length+db0.length/\aI H H',fun _ _ h=>h,?_⟩
   have A3:=A2.same s3;have B3:=B2.same s3;have L3:=L2'.same s3;have s03:=sm.trans s3;have lz:=L3.len;have la:=A3.len;clear A2 B2 L2' s3 sm;refine ⟨ua.length,.inl ⟨_,.inl (a9.of A3.hl),rfl⟩,⟨by omega,by omega⟩,pN _,by decide,by decide,_,.scal rfl,?_⟩;dsimp only;generalize decide (V.int (cell / (((ua.length:Nat):Int)+2) * 48271 % 1069 % 2)=V.int 0)=tn;unfold Ax;refine CS (tn:=tn) (fun _ _ h=>h) (fun _ _ h=>h) (fun _ _ h=>h) A3.hl B3.hl (fun ht H4 s4=>cI ?_) (fun hf H4 s4=>cE ?_)
   ·have A4:=A3.same s4
    have B4:=B3.same s4;have L4:=L3.same s4;have hne':ua≠[]:=by
     rcases ht with h | h
     ·rcases hne with h' | h'
      ·exact h'
      ·exact absurd h h'
     ·exact h
    obtain ⟨t,ua',d,da',rfl,rfl,ht',hok⟩:=A4.cons_of hne';refine ⟨.inl ⟨rfl,_,a9.of L4.hl⟩,_,.lst (a9.of A4.hl) (vJ _ _),l,us,_,rfl,rfl,L4.hl,aE (by omega),?_⟩;have L5:=L4.app ht' hok;have nt:∀ xs,H4 l≠some (.tup xs):=fun xs z=>by rw [L4.hl] at z; cases z
    have A5:=A4.kl (cW (o:=.lst (us++[.ref t]))) na nt;have B5:=B4.kl (cW (o:=.lst (us++[.ref t]))) nb nt;have s5:=Kl.behind (s03.trans s4) (cW (o:=.lst (us++[.ref t]))) hl;refine ⟨1,rfl,.inl ⟨_,a9.of A5.hl,fun p hp=>?_⟩⟩;rw [qE];have s6:=am (o:=.lst ua') hp;exact ⟨da'.length+db.length,by simp,p,b,ua',ub,da',db,_,_,_,rfl,A5.tl hp,B5.same s6,L5.same s6,(fun z=>by rw [z,L5.hl] at hp; cases hp),nb,rfl,by simp only [List.length_append,List.length_cons,List.length_nil] at hs ⊢; omega,s5.trans s6⟩
   ·have A4:=A3.same s4
    have B4:=B3.same s4;have L4:=L3.same s4;obtain ⟨t,ub',d,db',rfl,rfl,ht',hok⟩:=B4.cons_of hf;refine ⟨.inl ⟨rfl,_,a9.of L4.hl⟩,_,.lst (a9.of B4.hl) (vJ _ _),l,us,_,rfl,rfl,L4.hl,aE (by omega),?_⟩;have L5:=L4.app ht' hok;have nt:∀ xs,H4 l≠some (.tup xs):=fun xs z=>by rw [L4.hl] at z; cases z
    have A5:=A4.kl (cW (o:=.lst (us++[.ref t]))) na nt;have B5:=B4.kl (cW (o:=.lst (us++[.ref t]))) nb nt;have s5:=Kl.behind (s03.trans s4) (cW (o:=.lst (us++[.ref t]))) hl;refine ⟨1,rfl,.inl ⟨_,a9.of B5.hl,fun p hp=>?_⟩⟩;rw [qE];have s6:=am (o:=.lst ub') hp;exact ⟨da.length+db'.length,by simp,a,p,ua,ub',da,db',_,_,_,rfl,A5.same s6,B5.tl hp,L5.same s6,na,(fun z=>by rw [z,L5.hl] at hp; cases hp),rfl,by simp only [List.length_append,List.length_cons,List.length_nil] at hs ⊢; omega,s5.trans s6⟩
  ·subst h1 h2
   have e1:da=[]:=by have:=A2.len; exact List.eq_nil_of_length_eq_zero this.symm
   have e2:db=[]:=by have:=B2.len; exact List.eq_nil_of_length_eq_zero this.symm
   subst e1 e2;exact q l us ds H3 hl (sm.trans s3) (L2'.same s3) (by simpa using hs)
end
section
variable {P:Program}{w:World}{K:Frag}{mg:Str->Option Value}{base:Heap}{c:Cs}{N:Addr}
theorem u0 (NB:NBs mg) (O_single:L2.Own P w K mg base "_law_single" 2 ["_law_cell","_law_k","_law_count"] qb) (O_round:L2.Own P w K mg base "_law_round" 2 ["_law_cell","_law_k","_law_count"] tJ) (O_woven:L2.Own P w K mg base "_law_woven" 1 ["_law_one","_law_other","_law_cell"] tG)
  (D:DefAt K mg "_law_drawn" j8 ["_law_cells","_law_way","_law_count"]):L2.Own P w K mg base "_law_drawn" 3 ["_law_cells","_law_way","_law_count"] tQ:=by
 refine D.own ql (fun vs H Q E h=>?_) (fun f cdv A outer s H vs Q E hr h=>?_)
 ·obtain ⟨a,way,n,ns,rfl,_⟩:=h; rfl
 ·obtain ⟨a,way,n,ns,rfl,hA,hlen,hn0,hn1,q⟩:=h
  have hu:=bQ hr;have nd:=ql.nd;have hml:(ns.map V.int).length=ns.length:=List.length_map ..;have n14:n < 14:=by omega
  refine ⟨_,(af (aC nd 3 (bA ag))
 (af (aQ (az (bX hr) (ar aA (nv 1) aj) aj (aN _)) (af (aC nd 4 (aP (dN hu) (bA (aa aj (aa aj ag))) (b_ nP (by rfl) NB.int kQ (aa (fh kM (aB bf (by rfl) NB.len cy (aa (nv 0) ag)) aj (aN _)) ag)) (fun _ _=>rfl)))
 (af (bO PassesOwn.never rfl (bP rfl NB.range (aa (aB nO (by rfl) NB.min wN (aa (nv 4) (aa (aB bf (by rfl) NB.len cy (aa (nv 0) ag)) ag))) ag)) (aJ nd 5) (ak (aO (dG PySem.F.plainAttrs_list PySem.F.slot_list_append PySem.F.type_list_append bj (nv 3) (aa (a_ O_single hr rfl (aa (ar aW (aP (dN hu) (nv 0) (nv 5) (fun _ _=>rfl)) (ar bi aj (nv 5))) (aa (nv 5) (aa (nv 2) ag)))) ag)))))
 (ak (au (nv 3))))) ay)
 (af (aC nd 6 (bA ag))
 (af (bO PassesOwn.never rfl (bP rfl NB.range (aa (aB nO (by rfl) NB.min wN (aa (aP (dN hu) (bA (aa aj (aa aj ag))) (b_ nP (by rfl) NB.int kQ (aa (fh kM (nv 2) aj (aN _)) ag)) (fun _ _=>rfl)) (aa (aB bf (by rfl) NB.len cy (aa (nv 0) ag)) ag))) ag)) (aJ nd 5) (ak (aO (dG PySem.F.plainAttrs_list PySem.F.slot_list_append PySem.F.type_list_append bj (nv 6) (aa (a_ O_round hr rfl (aa (ar aW (aP (dN hu) (nv 0) (nv 5) (fun _ _=>rfl)) (ar bi aj (nv 5))) (aa (nv 5) (aa (nv 2) ag)))) ag)))))
 (af (bO PassesOwn.never rfl (uW rfl NB.range (aa aj (aa (aB bf (by rfl) NB.len cy (aa (nv 6) ag)) (aa aj ag)))) (aJ nd 5) (ak (aQ (az (bX hr) (ar aA (nv 1) aj) aj (aN _)) (af (aC nd 7 (ar aW (dZ zP (nv 6) (dP (nv 5)) (dP (ar aW (nv 5) aj))) (bA (aa (bA ag) ag))))
 (ak (aC nd 3 (ar aW (nv 3) (a_ O_woven hr rfl (aa (aP (dN hu) (nv 7) aj (fun _ _=>rfl)) (aa (aP (dN hu) (nv 7) aj (fun _ _=>rfl)) (aa (aP (dN hu) (nv 0) (nv 5) (fun _ _=>rfl)) ag)))))))) (ak (bO PassesOwn.never rfl (ck (dZ zP (nv 6) (dP (nv 5)) (dP (ar aW (nv 5) aj)))) (aJ nd 8) (ak (aC nd 3 (ar aW (nv 3) (nv 8)))))))))
 (ak (au (nv 3)))))))),?_⟩
  refine ⟨by show 0<=sizeLine; decide,fun l hl=>?_⟩;have L0:DL n (aw H l (.lst [])) l [] []:=⟨upd_same,.nil,fun _ h=>nomatch h⟩;have s0:=am (o:=.lst []) hl;dsimp only;generalize aw H l (.lst [])=H1 at L0 s0 ⊢;have cellAt:∀ {H':Hp}{j:Nat},aI H H'->j < ns.length->∃ c:Int,Item K H' (.ref a) (.int (j:Int)) (.int c):=fun {H' j} s hj=>by
   obtain ⟨c,_,e⟩:=uA (is:=ns) (j:Int) (by omega) (by omega);exact ⟨c,.lst (a9.of (s _ _ hA)) e⟩
  refine ⟨by decide,_,.scal rfl,_,rfl,iZ (fun _=>?_) (fun _=>?_)⟩
  ·refine ⟨by show 2<=sizeLine; decide,fun p hp=>?_⟩
   have s1:=am (o:=.lst ([50,90].map V.int)) hp;refine ⟨_,.inl ⟨_,.inl (a9.of (s1 _ _ (s0 _ _ hA))),rfl⟩,?_⟩;obtain ⟨m,e,hm'⟩:∃ m:Int,mr ([50,90].map V.int) (if decide ((62:Int) < (((ns.map V.int).length:Nat):Int))=true then 1 else 0)=some (.int m)/\m=50:=by
    rw [decide_eq_false (by rw [hml]; omega)];exact ⟨50,rfl,rfl⟩
   refine ⟨_,.lst (a9.of upd_same) e,?_⟩;have L1:=L0.same s1;have s2:=s0.trans s1;refine ⟨_,.inl ⟨_,.inl (a9.of (s2 _ _ hA)),rfl⟩,_,rfl,by split<;>omega,by split<;>omega,?_⟩;refine cq (fun j σ H'=>∃ us ds o5,σ=[some (.ref a),some (.int way),some (.int n),some (.ref l),some (.int m),o5,none,none,none]/\DL n H' l us ds/\ds.length<=j/\aI H H') ⟨_,_,_,rfl,L1,Nat.zero_le _,s2⟩ ?_ ?_
   ·rintro j σ H4 hj ⟨us,ds,o5,rfl,L4,n4,s4⟩
    rw [Int.zero_add];have hj1:j < ns.length:=by rw [hml] at hj; split at hj<;>omega
    obtain ⟨cv,ic⟩:=cellAt s4 hj1;refine ⟨.inl ⟨rfl,_,a9.of L4.hl⟩,_,ic,.inl ⟨by decide,by decide⟩,_,_,n,rfl,by omega,by omega,hn0,by omega,fun t d H5 s5 ht hok=>?_⟩;have L5:=L4.same s5;exact ⟨l,us,_,rfl,rfl,L5.hl,aE (by rw [L5.len]; omega),_,_,_,rfl,L5.app ht hok,by rw [List.length_append]; show _+1<=j+1; omega,Kl.behind (s4.trans s5) cW hl⟩
   ·rintro σ H4 ⟨us,ds,o5,rfl,L4,n4,s4⟩
    exact q l us ds H4 hl s4 L4 (.inl (by rw [hml] at n4; split at n4<;>omega))
  ·refine ⟨by show 0<=sizeLine; decide,fun r hr'=>?_⟩
   have hr0:H r=none:=none_of s0 hr';have lr:l≠r:=ai L0.hl hr';have s1:=am (o:=.lst []) hr';have L1:=L0.same s1;have R1:RsAt n (aw H1 r (.lst [])) r [] []:=⟨upd_same,.nil⟩;have s2:=s0.trans s1;dsimp only;generalize aw H1 r (.lst [])=H2 at L1 R1 s2 ⊢;clear s1 L0 s0 hr';refine ⟨by show 2<=sizeLine; decide,fun p hp=>?_⟩;have s3:=am (o:=.lst ([6,3].map V.int)) hp;obtain ⟨m,e,m0,m6,mb,mB⟩:∃ m:Nat,mr ([6,3].map V.int) (if decide ((8:Int) < (n:Int))=true then 1 else 0)=some (.int m)/\0 < m/\m<=6/\m * (4+3 * n)<=130/\((n<=5/\m=6)\/(8 < n/\n<=13/\m=3)):=by
    rcases hn1 with h | ⟨h,h'⟩
    ·rw [decide_eq_false (by omega)]
     exact ⟨6,rfl,by decide,by decide,by omega,.inl ⟨h,rfl⟩⟩
    ·rw [decide_eq_true (by omega)]
     exact ⟨3,rfl,by decide,by decide,by omega,.inr ⟨h,h',rfl⟩⟩
   refine ⟨_,.lst (a9.of upd_same) e,_,.inl ⟨_,.inl (a9.of (s3 _ _ (s2 _ _ hA))),rfl⟩,_,rfl,by split<;>omega,by split<;>omega,?_⟩;refine cq (fun j σ H'=>∃ rs dss o5,σ=[some (.ref a),some (.int way),some (.int n),some (.ref l),none,o5,some (.ref r),none,none]/\RsAt n H' r rs dss/\DL n H' l [] []/\dss.length=j/\aI H H') ⟨_,_,_,rfl,R1.same s3,L1.same s3,rfl,s2.trans s3⟩ ?_ ?_
   ·rintro j σ H4 hj ⟨rs,dss,o5,rfl,R4,L4,n4,s4⟩
    rw [Int.zero_add];have hj1:j < ns.length/\j < 6:=by rw [hml] at hj; split at hj<;>omega
    obtain ⟨cv,ic⟩:=cellAt s4 hj1.1;have lrs:rs.length=j:=(Paired.length R4.pr).trans n4;refine ⟨.inl ⟨rfl,_,a9.of R4.hl⟩,_,ic,.inl ⟨by decide,by decide⟩,_,_,n,rfl,by omega,by omega,hn0,by omega,fun l2 us2 ds2 H5 hn2 s5 L5 ln5=>?_⟩;have R5:=R4.same s5;have nt:∀ xs,H5 r≠some (.tup xs):=fun xs z=>by rw [R5.hl] at z; cases z
    exact ⟨r,rs,_,rfl,rfl,R5.hl,aE (by omega),_,_,_,rfl,R5.app L5 (fun z=>by rw [z,R4.hl] at hn2; cases hn2) ln5,(L4.same s5).kl cW lr nt,by rw [List.length_append,n4]; rfl,Kl.behind (s4.trans s5) cW hr0⟩
   ·rintro σ H4 ⟨rs,dss,o5,rfl,R4,L4,n4,s4⟩
    have lrs:rs.length=dss.length:=Paired.length R4.pr;have hm1:dss.length<=m/\dss.length<=ns.length:=by rw [hml] at n4; split at n4<;>omega
    clear n4 e;have total:dss.length * (4+3 * n)<=130:=Nat.le_trans (Nat.mul_le_mul_right _ hm1.1) mb;refine ⟨_,.inl ⟨_,.inl (a9.of R4.hl),rfl⟩,rs.length,rfl,by omega,?_⟩;refine xP (fun j σ H'=>∃ l' us ds o5 o7 o8,σ=[some (.ref a),some (.int way),some (.int n),some (.ref l'),none,o5,some (.ref r),o7,o8]/\RsAt n H' r rs dss/\DL n H' l' us ds/\H l'=none/\ds.length<=min (2 * j) dss.length * (4+3 * n)/\aI H H') ⟨l,_,_,_,_,_,rfl,R4,L4,hl,Nat.zero_le _,s4⟩ ?_ ?_
    ·rintro j σ H5 hj ⟨l',us,ds,o5,o7,o8,rfl,R5,L5,hl',n5,s5⟩
     have hj2:2 * j < dss.length:=by omega
     have b5:ds.length<=2 * j * (4+3 * n):=by rw [Nat.min_eq_left (by omega)] at n5; exact n5
     clear n5;have ek:(0+(j:Int) * 2)=((2 * j:Nat):Int):=by omega
     have cut:=ya (rs:=rs) (j:=j) (by omega);have P5:=jF 2 (jG (2 * j) R5.pr);have ll:((dss.drop (2 * j)).take 2).length=min 2 (dss.length - 2 * j):=by rw [List.length_take,List.length_drop]
     generalize hsl:(rs.drop (2 * j)).take 2=sl at P5 cut;generalize (dss.drop (2 * j)).take 2=dsl at P5 ll;have mn:min (2 * (j+1)) dss.length=2 * j+dsl.length:=by omega
     refine ⟨by decide,_,.scal rfl,_,rfl,iZ (fun _=>?_) (fun _=>?_)⟩
     ·refine ⟨_,rfl,_,rfl,.inl ⟨_,a9.of R5.hl,fun p hp=>?_⟩⟩
      rw [cut];have t1:=am (o:=.lst sl) hp;refine ⟨by show 0<=sizeLine; decide,fun e he=>⟨by show 1<=sizeLine; decide,fun mm hmm=>?_⟩⟩;have t2:=am (o:=.lst []) he;have t3:=am (o:=.lst [.ref e]) hmm;have lsl:sl.length=dsl.length:=Paired.length P5;refine .inl ⟨_,_,t3 _ _ (t2 _ _ upd_same),upd_same,Nat.le_of_lt (aE (by rw [lsl]; show _+1<=1000; omega)),fun pr hpr=>?_⟩;have t4:=am (o:=.lst (sl++[.ref e])) hpr;have sA:=((t1.trans t2).trans t3).trans t4;have he':DL n (aw (aw (aw (aw H5 p (.lst sl)) e (.lst [])) mm (.lst [.ref e])) pr (.lst (sl++[.ref e]))) e [] []:=⟨t4 _ _ (t3 _ _ upd_same),.nil,fun _ h=>nomatch h⟩;have hp':(aw (aw (aw (aw H5 p (.lst sl)) e (.lst [])) mm (.lst [.ref e])) pr (.lst (sl++[.ref e]))) pr=some (.lst (sl++[.ref e])):=upd_same;dsimp only;generalize aw (aw (aw (aw H5 p (.lst sl)) e (.lst [])) mm (.lst [.ref e])) pr (.lst (sl++[.ref e]))=H6 at sA he' hp' ⊢;have s6:=s5.trans sA;have R6:=R5.same sA;have L6:=L5.same sA;obtain ⟨cv,ic⟩:=cellAt s6 (show 2 * j < ns.length by omega);rw [<- ek] at ic;obtain ⟨x1,d1,y2,d2,i1,i2,A6,B6,le⟩:∃ x1 d1 y2 d2,Item K H6 (.ref pr) (.int 0) (.ref x1)/\Item K H6 (.ref pr) (.int 1) (.ref y2)/\(∃ u1,DL n H6 x1 u1 d1)/\(∃ u2,DL n H6 y2 u2 d2)/\d1.length+d2.length<=dsl.length * (4+3 * n):=by
       cases P5 with
       | nil=>rw [show ([]:List (List Deed)).length=0 from rfl] at ll; omega
       | cons h1 r1 =>
        obtain ⟨a1,u1,rfl,_,D1,z1⟩:=h1;cases r1 with
        | nil=>exact ⟨a1,_,e,[],.lst (a9.of hp') rfl,.lst (a9.of hp') rfl,⟨u1,D1.same sA⟩,⟨[],he'⟩,by simp; omega⟩
        | cons h2 r2 =>
         obtain ⟨a2,u2,rfl,_,D2,z2⟩:=h2;refine ⟨a1,_,a2,_,.lst (a9.of hp') (vJ _ _),.lst (a9.of hp') (ym _ _ _),⟨u1,D1.same sA⟩,⟨u2,D2.same sA⟩,?_⟩;exact Nat.le_trans (m:=2 * (4+3 * n)) (by omega) (Nat.mul_le_mul_right _ (by simp))
      obtain ⟨u1,A6⟩:=A6;obtain ⟨u2,B6⟩:=B6;have d2':dsl.length * (4+3 * n)<=2 * (4+3 * n):=Nat.mul_le_mul_right _ (by omega);refine ⟨_,i1,_,i2,_,ic,n,x1,y2,cv,u1,u2,d1,d2,rfl,A6,B6,by omega,fun l2 us2 ds2 H8 hn2 s8 L8 e8=>?_⟩;have L8':=L6.same s8;have z1:=L8'.len;have z2:=L8.len;have tb:2 * j * (4+3 * n)<=130:=Nat.le_trans (Nat.mul_le_mul_right _ (by omega)) total;refine .inl ⟨_,_,L8'.hl,L8.hl,Nat.le_of_lt (aE (by omega)),fun p2 hp2=>?_⟩;have s9:=am (o:=.lst (us++us2)) hp2;have sZ:=(s6.trans s8).trans s9;exact ⟨p2,_,_,_,_,_,rfl,(R6.same s8).same s9,L8'.cat L8 hp2,none_of (s6.trans s8) hp2,by rw [mn,Nat.add_mul,List.length_append]; omega,sZ⟩
     ·refine ⟨_,rfl,_,rfl,.inl ⟨_,a9.of R5.hl,fun p hp=>?_⟩⟩
      rw [cut];have t1:=am (o:=.lst sl) hp;refine ⟨p,rfl,⟨_,a9.of upd_same⟩,?_⟩;have lsl:sl.length=dsl.length:=Paired.length P5;have tb:2 * j * (4+3 * n)<=130:=Nat.le_trans (Nat.mul_le_mul_right _ (by omega)) total;have B43:4+3 * n<=43:=by omega
      refine dA (xs:=sl) (fun i σ H'=>∃ l' us ds o8,σ=[some (.ref a),some (.int way),some (.int n),some (.ref l'),none,some (.int (0+(j:Int) * 2)),some (.ref r),o7,o8]/\RsAt n H' r rs dss/\DL n H' l' us ds/\H l'=none/\ds.length<=2 * j * (4+3 * n)+i * (4+3 * n)/\aI H H'/\aI (aw H5 p (.lst sl)) H') ⟨l',_,_,_,rfl,R5.same t1,L5.same t1,hl',by omega,s5.trans t1,fun _ _ e=>e⟩ ?_ ?_ ?_
      ·rintro i σ H' _ ⟨_,_,_,_,_,_,_,_,_,_,sq⟩
       exact a9.of (sq _ _ upd_same)
      ·rintro i x σ H' hx ⟨l2,us2,ds2,o8',rfl,R6,L6,hl6,n6,s6,sq⟩
       obtain ⟨dd,hd,a1,u1,rfl,_,D1,z1⟩:=bF P5 hx;have D1':=(D1.same t1).same sq;have hi:i < 2:=by
        have:i < sl.length:=by
         by_cases h:i < sl.length
         ·exact h
         ·rw [List.getElem?_eq_none (by omega)] at hx; cases hx
        omega
       have ib:i * (4+3 * n)<=43:=Nat.le_trans (Nat.mul_le_mul_right _ (show i<=1 by omega)) (by omega);have z2:=L6.len;have z3:=D1'.len;refine .inl ⟨_,_,L6.hl,D1'.hl,Nat.le_of_lt (aE (by omega)),fun p2 hp2=>?_⟩;have s9:=am (o:=.lst (us2++u1)) hp2;exact ⟨p2,_,_,_,rfl,R6.same s9,L6.cat D1' hp2,none_of s6 hp2,by rw [Nat.add_mul,List.length_append]; omega,s6.trans s9,sq.trans s9⟩
      ·rintro σ H' ⟨l2,us2,ds2,o8',rfl,R6,L6,hl6,n6,s6,sq⟩
       exact ⟨l2,_,_,_,_,_,rfl,R6,L6,hl6,by rw [mn,Nat.add_mul,<- lsl]; exact n6,s6⟩
    ·rintro σ H5 ⟨l',us,ds,o5,o7,o8,rfl,R5,L5,hl',n5,s5⟩
     refine q l' us ds H5 hl' s5 L5 ?_;rw [Nat.min_eq_right (by omega)] at n5;have n6:=Nat.le_trans n5 (Nat.mul_le_mul_right (4+3 * n) hm1.1);rcases mB with ⟨h,rfl⟩ | ⟨h,h',rfl⟩
     ·exact .inr (.inl ⟨h,n6⟩)
     ·exact .inr (.inr ⟨h,h',n6⟩)
end
abbrev Wt:=Int×Int×Int×Str
abbrev Eb (p:Wt):List V:=[.int p.1,.int p.2.1,.int p.2.2.1,.str p.2.2.2]
abbrev Cu (H:Hp) (us:List V) (ws:List Wt):Prop:=Paired (fun u (p:Wt)=>∃ a,u=V.ref a/\H a=some (.tup (Eb p))) us ws
section
variable {P:Program}{w:World}{K:Frag}{mg:Str->Option Value}{base:Heap}
end
end K07
namespace K07
open PySem L2 N3
seal L2.PE L2.PA L2.PS L2.gI
structure WrA (H:Hp) (l:Addr) (us:List V) (ws:List Wr) (c:Int):Prop where
 at_:H l=some (.lst us)
 rows:_root_.Own.Rows H us (ws.map vL)
 few:ws.length<=400
 in_:∀ x∈ws,0<=x.2.1/\x.2.1 < c
 pos:0<=c
theorem ng {H H':Hp}{us:List V}{rows:List (List V)} (R:_root_.Own.Rows H us rows) (s:aI H H'):_root_.Own.Rows H' us rows:=Paired.mapP R fun u r ⟨a,e,h⟩=>⟨a,e,s _ _ h⟩
theorem WrA.keep {H H':Hp}{l:Addr}{us:List V}{ws:List Wr}{c:Int} (W:WrA H l us ws c) (s:aI H H'):WrA H' l us ws c:=⟨s _ _ W.at_,ng W.rows s,W.few,W.in_,W.pos⟩
theorem oF {H:Hp}{us:List V}{rows:List (List V)} (R:_root_.Own.Rows H us rows) {i:Nat}{x:V}{row:List V} (h1:us[i]? = some x) (h2:rows[i]? = some row):∃ t,x=.ref t/\H t=some (.tup row):=bn (show Paired _ _ _ from R) h1 h2
theorem WrA.len {H:Hp}{l:Addr}{us:List V}{ws:List Wr}{c:Int} (W:WrA H l us ws c):us.length=ws.length:=by have:=Paired.length W.rows; rwa [List.length_map] at this
theorem WrA.get {H:Hp}{l:Addr}{us:List V}{ws:List Wr}{c:Int} (W:WrA H l us ws c) {i:Nat}{x:V} (h:us[i]? = some x):∃ t y,x=.ref t/\ws[i]? = some y/\H t=some (.tup (vL y))/\i < ws.length:=by
 have hi:i < ws.length:=by have:=(List.getElem?_eq_some_iff.mp h).1; rw [W.len] at this; exact this
 obtain ⟨t,e1,e2⟩:=oF W.rows h (show (ws.map vL)[i]? = some (vL ws[i]) by rw [List.getElem?_map,List.getElem?_eq_getElem hi]; rfl);exact ⟨t,ws[i],e1,List.getElem?_eq_getElem hi,e2,hi⟩
theorem pz {H H':Hp}{b:Addr} (s:aI H H') (h:H' b=none):H b=none:=by
 cases e:H b with
 | none=>rfl
 | some u=>rw [s _ _ e] at h; cases h
theorem qK {α:Type} [DecidableEq α] (c:Int) (ws:List (α×Int)):∀ i,(cf c ws i).length<=i
 | 0=>Nat.le_refl _
 | i+1=>by
  have ih:=qK c ws i;simp only [cf,List.length_append];cases ws[i]? with
  | none=>simp; omega
  | some p=>simp only; split<;>simp<;>omega
section
variable {P:Program}{w:World}{K:Frag}{mg:Str->Option Value}{base:Heap}
end
noncomputable def Ae:Sp:=fun vs H Q _=>∃ (c:Int) (l:Addr) (us:List V) (ws:List Wr),vs=[.int c,.ref l]/\WrA H l us ws c /\
 ∀ f us' H',H f=none->H' f=some (.lst us')->_root_.Own.Rows H' us' ((sts c (ws.map cG) ws.length).map uy)->aI H H'->Q (.ref f) H'
theorem tE {α:Type} [DecidableEq α] (c:Int) (ws:List (α×Int)):∀ i,(sts c ws i).length<=i
 | 0=>Nat.le_refl _
 | i+1=>by
  have ih:=tE c ws i;simp only [sts,List.length_append];cases ws[i]? with
  | none=>simp; omega
  | some p=>simp only; split<;>simp<;>omega
noncomputable def Ch:Sp:=fun vs H Q _=>∃ (c:Int) (l:Addr) (us:List V) (ws:List Wr),vs=[.int c,.ref l]/\WrA H l us ws c/\(sts c (ws.map cG) ws.length).length < 64 /\
 ∀ (r:Addr) (us':List V) (ks:List K3) (H':Hp),H r=none->H' r=some (.lst us')->ks.Perm (cf c (ws.map cG) ws.length)->vQ ks->_root_.Own.Rows H' us' ((ij (ks.map pM)).map fun p=>(pK p).map kV)->aI H H'->Q (.ref r) H'
section
variable {P:Program}{w:World}{K:Frag}{mg:Str->Option Value}{base:Heap}
theorem mD (NB:NBs mg) (O_is_most:L2.Own P w K mg base "is_most" 1 ["count","many"] Hl.kH) (D:DefAt K mg "settlings" fj ["count","writings"]):L2.Own P w K mg base "settlings" 2 ["count","writings"] Ae:=by
 refine D.own iJ (fun vs H Q E h=>?_) (fun f cdv A outer s H vs Q E hr h=>?_)
 ·obtain ⟨c,l,us,ws,rfl,_⟩:=h; rfl
 ·obtain ⟨c,l,us,ws,rfl,W,k⟩:=h
  have hu:=bQ hr;have nd:=iJ.nd;refine ⟨_,(af (aC nd 2 qu)
 (af (aC nd 3 (bA ag))
 (af (bO PassesOwn.never rfl (yW rfl NB.enumerate (nv 1) aj) (kJ rfl (bU (aJ nd 4) (bU (kJ rfl (bU (aJ nd 5) (bU (aJ nd 6) (bU (aJ nd 7) (bU (aJ nd 8) iw))))) iw))) (af (aC nd 9 (dG PySem.F.plainAttrs_dict PySem.F.slot_dict_setdefault PySem.F.type_dict_setdefault (zb hr) (nv 2) (aa (bq (aa (nv 7) (aa (nv 5) (aa (nv 8) ag)))) (aa dv ag))))
 (af (aQ (PW.pt (dW (az (i4 hr) (nv 6) (nv 9) (by with_unfolding_all rfl)) (dg (cu (qp wA fN aj (nv 6) (nv 0)))))) (ak qN) ay)
 (af (dO hu (nv 9) (nv 6) bB rfl)
 (ak (aQ (PW.pt (wx (bz (a_ O_is_most hr rfl (aa (nv 0) (aa (aB bf (by rfl) NB.len cy (aa (nv 9) ag)) ag)))) (tU (cu (bz (a_ O_is_most hr rfl (aa (nv 0) (aa (ar j_ (aB bf (by rfl) NB.len cy (aa (nv 9) ag)) aj) ag)))))))) (ak (aO (dG PySem.F.plainAttrs_list PySem.F.slot_list_append PySem.F.type_list_append bj (nv 3) (aa (bq (aa (nv 7) (aa (nv 5) (aa (nv 8) (aa (nv 4) ag))))) ag)))) ay))))))
 (ak (au (nv 3)))))),?_⟩
  intro d nd0;refine ⟨Nat.zero_le _,fun fo nf=>?_⟩;have s0:aI H (aw (aw H d (.dT [])) fo (.lst [])):=(am nd0).trans (am nf);have W0:=W.keep s0;refine ⟨rfl,l,rfl,⟨us,a9.of W0.at_⟩,?_⟩;have lu:=W.len;have dn:fo≠d:=fun z=>by rw [z,upd_same] at nf; cases nf
  have fn0:H fo=none:=by rwa [ad dn] at nf
  refine xQ (xs:=us) (fun i σ H1=>∃ kvs us' o4 o5 o6 o7 o8 o9,σ=[some (.int c),some (.ref l),some (.ref d),some (.ref fo),o4,o5,o6,o7,o8,o9]/\Bk H H1 d ((ws.map cG).take i) kvs/\kvs.length<=i/\H1 fo=some (.lst us')/\_root_.Own.Rows H1 us' ((sts c (ws.map cG) i).map uy)/\aI H H1) ?_ ?_ ?_ ?_
  ·refine ⟨[],[],_,_,_,_,_,_,rfl,⟨(ad (Ne.symm dn)).trans upd_same,fun k=>.inl ⟨rfl,rfl⟩,fun k k' a h=>nomatch h⟩,Nat.le_refl _,upd_same,.nil,s0⟩
  ·rintro i σ H1 _ ⟨_,_,_,_,_,_,_,_,_,_,_,_,_,s1⟩
   exact a9.of (s1 _ _ W.at_)
  ·rintro i x t σ H1 hx ht ⟨kvs,us',o4,o5,o6,o7,o8,o9,rfl,B,kl,hf,R,s1⟩
   obtain ⟨tw,y,rfl,hy,hw,hi⟩:=W.get hx;have sA:=am (o:=.tup [.int ((i:Int)+1),.ref tw]) ht;have B1:=B.keep sA;refine ⟨t,_,rfl,c8.of upd_same,rfl,_,_,rfl,_,_,rfl,tw,_,rfl,c8.of (sA _ _ (s1 _ _ hw)),rfl,_,_,rfl,_,_,rfl,_,_,rfl,_,_,rfl,rfl,rfl,?_⟩;refine ⟨.inr (.inr (.inl ⟨rfl,.inr ⟨_,B1.at_⟩⟩)),by show 3<=sizeLine; decide,fun p hp q hq=>?_⟩;have sB:=am (o:=.tup [.int y.2.2.1,.int y.1,.str y.2.2.2]) hp;have B2:=B1.keep sB;have sAB:aI H1 _:=sA.trans sB;refine Bk.setd (k:=(cG y).1) B2 upd_same hq (s1.trans sAB) (by have:=W.few; omega) fun a kv2 H2 B3 va kl2 kp=>?_;have et:(ws.map cG).take (i+1)=(ws.map cG).take i++[((cG y).1,y.2.1)]:=by
    rw [i9 (p:=cG y) (by rw [List.getElem?_map,hy]; rfl)]; rfl
   have hp':(ws.map cG)[i]? = some (cG y):=by rw [List.getElem?_map,hy]; rfl
   have fd:fo≠d:=dn;have hf2:=kp _ _ (sAB _ _ hf) fd;have R2:_root_.Own.Rows H2 us' ((sts c (ws.map cG) i).map uy):=Paired.mapP R fun u r ⟨b,e,h⟩=>⟨b,e,kp _ _ (sAB _ _ h) (fZ h B.at_ (fun z=>nomatch z))⟩;have s2:aI H H2:=fun b u e=>kp _ _ (sAB _ _ (s1 _ _ e)) (ai e nd0);obtain ⟨a',ea,na,ha⟩:=B3.at_key va;cases ea;have yin:=W.in_ y (List.mem_of_getElem? hy);generalize hpre:(ws.map cG).take i=pre at B3 et ha;generalize hL:c_ (cG y).1 pre=Ls at ha;have lL:Ls.length<=i:=by rw [<- hL]; have:=zr (cG y).1 pre; rw [<- hpre] at this ⊢; rw [List.length_take] at this; omega
   refine ⟨_,.dct (dc.k (k:=Sum.inl y.2.1) ha),_,rfl,?_⟩;rw [v9]
   by_cases hs:y.2.1∈Ls
   ·rw [if_pos hs]
    have nc:yl c pre (cG y)=false:=by
     unfold yl
     have:y.2.1∈c_ (cG y).1 pre:=by rw [hL]; exact hs
     rw [show (cG y).2=y.2.1 from rfl,decide_eq_true this]; rfl
    refine cI (cI ⟨kv2,us',_,_,_,_,_,_,rfl,?_,by omega,hf2,?_,s2⟩)
    ·rw [et]; exact B3.seen (by rw [hL]; exact hs)
    ·simp only [sts,hp',hpre,nc,Bool.false_eq_true,if_false,List.append_nil]; exact R2
   ·rw [if_neg hs]
    refine cE ⟨_,rfl,fC yin.1 ⟨_,rfl,gK yin.2 ?_⟩⟩;refine ⟨_,_,rfl,f9.k (k:=Sum.inl y.2.1) ha (aE (by rw [wL]; have:=W.few; omega)),?_⟩;rw [Ba hs];have B4:=B3.hand (s:=y.2.1) va (by rw [hL]; exact hs);rw [hL] at B4;have ha4:aw H2 a (.dK (hK (Ls++[y.2.1]))) a=some (.dK (hK (Ls++[y.2.1]))):=upd_same;have kp4:∀ b u,H2 b=some u->(∀ kvs,u≠.dK kvs)->aw H2 a (.dK (hK (Ls++[y.2.1]))) b=some u:=fun b u e h=>(ad (fun z=>by rw [z,ha] at e; cases e; exact h _ rfl)).trans e;have hf4:=kp4 _ _ hf2 (fun _ z=>nomatch z);have R4:_root_.Own.Rows (aw H2 a (.dK (hK (Ls++[y.2.1])))) us' ((sts c (ws.map cG) i).map uy):=Paired.mapP R2 fun u r ⟨b,e,h⟩=>⟨b,e,kp4 _ _ h (fun _ z=>nomatch z)⟩;have s4:aI H (aw H2 a (.dK (hK (Ls++[y.2.1])))):=fun b u e=>(ad (ai e na)).trans (s2 _ _ e);generalize aw H2 a (.dK (hK (Ls++[y.2.1])))=H4 at B4 ha4 hf4 R4 s4;have ll:(hK (Ls++[y.2.1])).length=Ls.length+1:=by rw [wL,List.length_append]; rfl
    have nn:decide ((cG y).2∈c_ (cG y).1 pre)=false:=by rw [hL]; exact decide_eq_false hs
    have ex:yl c pre (cG y)=(decide (c < 2 * ((Ls.length:Int)+1))&&!decide (c < 2 * (Ls.length:Int))):=by
     unfold yl; rw [nn,hL]; rfl
    refine ⟨_,.inr ⟨_,ha4,rfl⟩,c,_,rfl,_,rfl,?_⟩;rw [ll];have fin:yl c pre (cG y)=false->∃ kvs us' o4 o5 o6 o7 o8 o9,[some (V.int c),some (V.ref l),some (V.ref d),some (V.ref fo),some (V.int ((i:Int)+1)),some (V.int y.1),some (V.int y.2.1),some (V.int y.2.2.1),some (V.str y.2.2.2),some (V.ref a)]=[some (V.int c),some (V.ref l),some (V.ref d),some (V.ref fo),o4,o5,o6,o7,o8,o9]/\Bk H H4 d ((ws.map cG).take (i+1)) kvs/\kvs.length<=i+1/\H4 fo=some (.lst us')/\_root_.Own.Rows H4 us' ((sts c (ws.map cG) (i+1)).map uy)/\aI H H4:=fun nc =>
     ⟨kv2,us',_,_,_,_,_,_,rfl,by rw [et]; exact B4,by omega,hf4,by simp only [sts,hp',hpre,nc,Bool.false_eq_true,if_false,List.append_nil]; exact R4,s4⟩
    by_cases h1:c < 2 * (((Ls.length+1:Nat)):Int)
    ·refine fC h1 ?_
     refine ⟨_,.inr ⟨_,ha4,rfl⟩,c,_,rfl,_,rfl,?_⟩;rw [ll]
     by_cases h2:c < 2 * ((((Ls.length+1:Nat)):Int) - 1)
     ·refine gK h2 (fin ?_)
      rw [ex,decide_eq_true (show c < 2 * ((Ls.length:Int)) by omega)]; simp
     ·rw [show Hl.cw c (((Ls.length+1:Nat):Int) - 1)=false from decide_eq_false h2]
      refine cI ?_;have yc:yl c pre (cG y)=true:=by
       rw [ex,decide_eq_true (by omega),decide_eq_false (by omega)]; rfl
      refine ⟨.inl ⟨rfl,_,a9.of hf4⟩,by show 4<=sizeLine; decide,fun p5 n5=>?_⟩;have s5:=am (o:=.tup [.int y.2.2.1,.int y.1,.str y.2.2.2,.int ((i:Int)+1)]) n5;have lus:us'.length<=i:=by have h1:=Paired.length R4; have h2:=tE c (ws.map cG) i; rw [List.length_map] at h1; omega
      refine ⟨_,_,_,rfl,rfl,s5 _ _ hf4,aE (by have:=W.few; omega),?_⟩;have kp6:∀ b u,aw H4 p5 (.tup [.int y.2.2.1,.int y.1,.str y.2.2.2,.int ((i:Int)+1)]) b=some u->(∀ xs,u≠.lst xs)->aw (aw H4 p5 (.tup [.int y.2.2.1,.int y.1,.str y.2.2.2,.int ((i:Int)+1)])) fo (.lst (us'++[.ref p5])) b=some u:=fun b u e h=>(ad (fun z=>by rw [z,s5 _ _ hf4] at e; cases e; exact h _ rfl)).trans e;refine ⟨kv2,us'++[.ref p5],_,_,_,_,_,_,rfl,?_,by omega,upd_same,?_,fun b u e=>?_⟩
      ·rw [et]
       have B5:=B4.keep s5;exact ⟨kp6 _ _ B5.at_ (fun _ z=>nomatch z),fun k=>(B5.val k).imp id fun ⟨a,h1,h2,h3⟩=>⟨a,h1,h2,kp6 _ _ h3 (fun _ z=>nomatch z)⟩,B5.inj⟩
      ·simp only [sts,hp',hpre,yc,if_true,List.map_append]
       exact Paired.snoc (Paired.mapP R4 fun u r ⟨b,e,h⟩=>⟨b,e,kp6 _ _ (s5 _ _ h) (fun _ z=>nomatch z)⟩) ⟨p5,rfl,kp6 _ _ upd_same (fun _ z=>nomatch z)⟩
      ·rw [ad (fun z=>by rw [z,fn0] at e; cases e)]; exact s5 _ _ (s4 _ _ e)
    ·refine cR h1 (cE (fin ?_))
     rw [ex,decide_eq_false (show ¬ c < 2 * ((Ls.length:Int)+1) by omega)]; rfl
  ·rintro σ H1 ⟨kvs,us',o4,o5,o6,o7,o8,o9,rfl,B,kl,hf,R,s1⟩
   rw [lu] at R;exact k fo us' H1 fn0 hf R s1
theorem l_ (NB:NBs mg) (O_settlings:L2.Own P w K mg base "settlings" 2 ["count","writings"] Ae) (D:DefAt K mg "settled_in" eI ["count","writings"]):L2.Own P w K mg base "settled_in" 3 ["count","writings"] Ch:=by
 refine D.own gN (fun vs H Q E h=>?_) (fun f cdv A outer s H vs Q E hr h=>?_)
 ·obtain ⟨c,l,us,ws,rfl,_⟩:=h; rfl
 ·obtain ⟨c,l,us,ws,rfl,W,f64,k⟩:=h
  have hu:=bQ hr;have nd:=gN.nd;refine ⟨_,(af (aC nd 2 qu)
 (af (bO PassesOwn.never rfl (ck (aB sR (by rfl) NB.sorted jk (aa (a_ O_settlings hr rfl (aa (nv 0) (aa (nv 1) ag))) ag))) (kJ rfl (bU (aJ nd 3) (bU (aJ nd 4) (bU (aJ nd 5) (bU (aJ nd 6) iw))))) (ak (dO hu (nv 2) (bq (aa (nv 3) (aa (nv 5) ag))) bB rfl)))
 (ak (au (b_ sT (by rfl) NB.list di (aa (nv 2) ag)))))),?_⟩
  intro d nd0;have s0:=am (o:=.dT []) nd0;refine ⟨c,l,us,ws,rfl,W.keep s0,fun fo us' H1 nf hf R s1=>?_⟩;have lf:us'.length < 64:=by
   have h1:=Paired.length R;rw [List.length_map] at h1; omega
  refine ⟨fo,rfl,us',(sts c (ws.map cG) ws.length).map AF,[true,false,true],a9.of hf,by rw [List.map_map]; exact R,lf,fun r hr=>?_,fun us2 rows2 R2 pu pr pw p np=>?_⟩
  ·obtain ⟨x,_,rfl⟩:=List.mem_map.mp hr; rfl
  obtain ⟨xs,rfl,px⟩:=C_ x9 pr;have s2:=am (o:=.lst us2) np;have R3:=ng R2 s2;have l2:us2.length=xs.length:=by have:=Paired.length R2; rwa [List.length_map,List.length_map] at this
  have lx:xs.length < 64:=by have:=pu.length_eq; omega
  refine ⟨p,rfl,⟨us2,a9.of upd_same⟩,?_⟩;have sA:=(s0.trans s1).trans s2;refine dA (xs:=us2) (fun i σ H3=>∃ o3 o4 o5 o6,σ=[some (.int c),some (.ref l),some (.ref d),o3,o4,o5,o6]/\H3 d=some (.dT (pT (ij ((xs.take i).map fun x=>pM x.1))))/\∀ b u,(aw H1 p (.lst us2)) b=some u->b≠d->H3 b=some u) ?_ ?_ ?_ ?_
  ·exact ⟨_,_,_,_,rfl,s2 _ _ (s1 _ _ upd_same),fun b u e _=>e⟩
  ·rintro i σ H3 _ ⟨_,_,_,_,_,h3,kp⟩
   refine a9.of (kp _ _ upd_same fun z=>?_);rw [z,s1 _ _ upd_same] at np; cases np
  ·rintro i x σ H3 hx ⟨o3,o4,o5,o6,rfl,h3,kp⟩
   have hi:i < xs.length:=by have:=(List.getElem?_eq_some_iff.mp hx).1; omega
   obtain ⟨t,rfl,ht⟩:=oF R3 hx (show _=some (uy xs[i]) by rw [List.map_map,List.getElem?_map,List.getElem?_eq_getElem hi]; rfl);have td:t≠d:=fun z=>by rw [z,s2 _ _ (s1 _ _ upd_same)] at ht; cases ht
   refine ⟨t,_,rfl,c8.of (kp _ _ ht td),rfl,_,_,rfl,_,_,rfl,_,_,rfl,_,_,rfl,rfl,?_⟩;refine ⟨by show 2<=sizeLine; decide,fun q nq=>?_⟩;have dq:d≠q:=ai h3 nq;have lk:(pT (ij ((xs.take i).map fun x=>pM x.1))).length<=1000:=by
    have:=oP ((xs.take i).map fun x=>pM x.1);unfold pT; rw [List.length_map]; rw [List.length_map,List.length_take] at this; omega
   refine ⟨_,_,rfl,f9.t (k:=pK (pM xs[i].1)) ((ad dq).trans h3) upd_same (aE lk),?_⟩;refine ⟨_,_,_,_,rfl,?_,fun b u e hb=>?_⟩
   ·rw [upd_same,yT,List.take_succ_eq_append_getElem hi,List.map_append,List.map_cons,List.map_nil]
   ·rw [ad hb,ad (ai (kp _ _ e hb) nq)]; exact kp _ _ e hb
  ·rintro σ H3 ⟨o3,o4,o5,o6,rfl,h3,kp⟩
   rw [l2,List.take_length] at h3;refine ⟨_,_,rfl,.inl h3,fun us4 R4 r nr=>?_⟩;have s4:=am (o:=.lst us4) nr;have sZ:aI H H3:=fun b u e=>kp _ _ (sA _ _ e) (ai e nd0);refine k r us4 (xs.map (·.1)) _ (pz sZ nr) upd_same ?_ (u4 pw) ?_ (sZ.trans s4)
   ·rw [lq c W.pos]; exact px.map _
   ·have:=uS R4 s4
    rw [List.map_map]; exact this
end
end K07
namespace K07
open PySem L2 N3 Hl
seal L2.PE L2.PA L2.PS L2.gI
theorem A8 {H:Hp}{us:List V}{ws:List Wt} (P:Cu H us ws):_root_.Own.Rows H us (ws.map vL):=by
 refine cc (by rw [List.length_map]; exact Paired.length P) fun j x y h1 h2=>?_;obtain ⟨z,hz,a,e,ha⟩:=bF P h1;rw [List.getElem?_map,hz] at h2;cases h2;exact ⟨a,e,ha⟩
noncomputable def m8:Sp:=fun vs H Q _=>∃ (n:Nat) (l:Addr) (ds:List Deed) (PL:List Int) (us:List V),vs=[.int n,.ref l]/\Tale H l n ds PL us/\(sts (n:Int) ((aH (init n) ds).wrs.map cG) (aH (init n) ds).wrs.length).length < 64/\(aH (init n) ds).wrs.length<=400 /\
 ∀ (r:Addr) (us':List V) (ks:List K3) (H':Hp),H r=none->H' r=some (.lst us')->ks.Perm (cf (n:Int) ((aH (init n) ds).wrs.map cG) (aH (init n) ds).wrs.length)->vQ ks->_root_.Own.Rows H' us' ((ij (ks.map pM)).map fun p=>(pK p).map kV)->aI H H'->Q (.ref r) H'
section
variable {P:Program}{w:World}{K:Frag}{mg:Str->Option Value}{base:Heap}
theorem iW (O_settled_in:L2.Own P w K mg base "settled_in" 3 ["count","writings"] Ch) (O_writings_after:L2.Own P w K mg base "writings_after" 8 ["count","deeds"] gW) (D:DefAt K mg "settled_after" cV ["count","deeds"]):L2.Own P w K mg base "settled_after" 9 ["count","deeds"] m8:=by
 refine D.own jo (fun vs H Q E h=>?_) (fun f cdv A outer s H vs Q E hr h=>?_)
 ·obtain ⟨n,l,ds,PL,us,rfl,_⟩:=h; rfl
 ·obtain ⟨n,l,ds,PL,us,rfl,T,f64,few,k⟩:=h
  have hu:=bQ hr;refine ⟨_,(ak (au (a_ O_settled_in hr rfl (aa (nv 0) (aa (a_ O_writings_after hr rfl (aa (nv 0) (aa (nv 1) ag))) ag))))),?_⟩;refine ⟨n,l,ds,PL,us,rfl,T,fun H1 W ws hW nW PW s1=>?_⟩;have S:=(Sf.start T.n0).run ds;have cn:(aH (init n) ds).cnt=(n:Int):=iA _ _;have PW:Cu H1 ws (aH (init n) ds).wrs:=PW;refine ⟨n,W,ws,_,rfl,⟨hW,A8 PW,few,fun ⟨m,j,p,v⟩ hx=>by rw [<- cn]; exact (S.wb m j p v hx).2.1,by omega⟩,f64,fun r us' ks H' nr hr' pk ok R s2=>k r us' ks H' (none_of s1 nr) hr' pk ok R (s1.trans s2)⟩
end
end K07
namespace K07
open PySem L2 Hl
seal L2.PE L2.PA L2.PS L2.gI
theorem y_ {X:Cx}{K:Frag} (hK:X.K=K:=by rfl):fz X (binaryOp .Add) (AE K):=by subst hK; exact aW
structure DA (H:Hp) (l:Addr) (us:List V) (ds:List Deed):Prop where
 hl:H l=some (.lst us)
 dd:cA H us ds
theorem DA.same {H H':Hp}{l:Addr}{us:List V}{ds:List Deed} (x:DA H l us ds) (s:aI H H'):DA H' l us ds:=⟨s _ _ x.hl,x.dd.mono fun _ _ e=>s _ _ e⟩
theorem DA.app {H:Hp}{l t:Addr}{us:List V}{ds:List Deed}{d:Deed} (x:DA H l us ds) (ht:H t=some (.tup d.rowV)):DA (aw H l (.lst (us++[.ref t]))) l (us++[.ref t]) (ds++[d]):=by
 have k:∀ b xs,H b=some (.tup xs)->(aw H l (.lst (us++[.ref t]))) b=some (.tup xs):=fun b xs e=>by rw [ad (fZ e x.hl fun z=>nomatch z)]; exact e
 exact ⟨upd_same,Paired.snoc (x.dd.mono k) ⟨t,rfl,k _ _ ht⟩⟩
theorem DA.len {H:Hp}{l:Addr}{us:List V}{ds:List Deed} (x:DA H l us ds):us.length=ds.length:=Paired.length x.dd
theorem oE {K:Frag}{σ:St}{i:Nat}{l:Addr}{us:List V}{ds:List Deed}{te:TE} (d:Deed) {H:Hp}{D:Ends} (hσ:∀ H Q,Q (.ref l) H->gV i σ H Q) (L:DA H l us ds) (ht:∀ Q,(∀ t H',aI H H'->H' t=some (.tup d.rowV)->Q (.ref t) H')->te σ H Q) (hz:ds.length<=999)
  (k:∀ us' H',DA H' l us' (ds++[d])->Kl l H H'->D.nx σ H'):kD (BZ K "list" iu (gV i) (pW te kA)) D σ H:=by
 unfold kD;refine hσ H _ ⟨.inl ⟨rfl,_,a9.of L.hl⟩,?_⟩;refine ht _ fun t H' s h=>?_;have L1:=L.same s;exact ⟨l,us,_,rfl,rfl,L1.hl,aE (by rw [L.len]; omega),k _ _ (L1.app h) (Kl.trans (.of_same s) cW)⟩
theorem xg {K:Frag}{σ:St}{i:Nat}{l:Addr}{us:List V}{ds:List Deed}{te:TE} (d:Deed) {H:Hp}{u:TS}{D:Ends} (hσ:∀ H Q,Q (.ref l) H->gV i σ H Q) (L:DA H l us ds) (ht:∀ Q,(∀ t H',aI H H'->H' t=some (.tup d.rowV)->Q (.ref t) H')->te σ H Q) (hz:ds.length<=999)
  (k:∀ us' H',DA H' l us' (ds++[d])->Kl l H H'->u D σ H'):ux (kD (BZ K "list" iu (gV i) (pW te kA))) u D σ H:=oE (D:={ D with nx:=u D }) d hσ L ht hz k
noncomputable def Ah:Sp:=fun vs H Q _=>∃ (n k:Nat) (own:Int),vs=[.int n,.int own,.int k]/\0 < n/\n<=13/\k<=12/\∀ l us H',H l=none->aI H H'->DA H' l us (aS n own k)->Q (.ref l) H'
section
variable {P:Program}{w:World}{K:Frag}{mg:Str->Option Value}{base:Heap}
theorem l8 (NB:NBs mg) (D:DefAt K mg "_law_to_the_end" eG ["_law_count","_law_own","_law_places"]):L2.Own P w K mg base "_law_to_the_end" 1 ["_law_count","_law_own","_law_places"] Ah:=by
 refine D.own gM (fun vs H Q E h=>?_) (fun f cdv A outer s H vs Q E hr h=>?_)
 ·obtain ⟨n,k,own,rfl,_⟩:=h; rfl
 ·obtain ⟨n,kk,own,rfl,n0,n1,k12,q⟩:=h
  have hu:=bQ hr;have nd:=gM.nd;have cpos:(0:Int) < (n:Int):=by omega
  refine ⟨_,(af (eX nd 3 (tgs:=["_law_k"]) (fr:=[0,1]) (bP rfl NB.range (aa (ar aW (ar dw (nv 0) aj) aj) ag)) (dB (tt:=none) (fun _ _ _ _=>(du 0)) (fun _ _ _ _=>True.intro) (fun _ _ _ _=>(ar aA (ar (y_ (K:=K)) (nv 2) (nv 0)) (nv 1)))))
 (af (eX nd 4 (tgs:=["_law_one"]) (fr:=[]) (ck (nv 3)) (dB (tt:=none) (fun _ _ _ _=>(du 0)) (fun _ _ _ _=>True.intro) (fun _ _ _ _=>(bq (aa aY (aa (nv 0) ag))))))
 (af (bO PassesOwn.never rfl (bP rfl NB.range (aa (ar aW (aB bf (by rfl) NB.len cy (aa (nv 3) ag)) aj) ag)) (aJ nd 5) (af (aO (dG PySem.F.plainAttrs_list PySem.F.slot_list_append PySem.F.type_list_append bj (nv 4) (aa (bq (aa aY (aa (nv 1) ag))) ag)))
 (ak (bO PassesOwn.never rfl (ck (nv 3)) (aJ nd 6) (ak (aO (dG PySem.F.plainAttrs_list PySem.F.slot_list_append PySem.F.type_list_append bj (nv 4) (aa (bq (aa aY (aa (nv 1) (aa (nv 6) ag)))) ag))))))))
 (af (aO (dG PySem.F.plainAttrs_list PySem.F.slot_list_append PySem.F.type_list_append bj (nv 4) (aa (bq (aa aY (aa (nv 1) (aa aY ag)))) ag)))
 (af (bO PassesOwn.never rfl (bP rfl NB.range (aa (nv 2) ag)) (aJ nd 7) (ak (bO PassesOwn.never rfl (ck (nv 3)) (aJ nd 6) (ak (aO (dG PySem.F.plainAttrs_list PySem.F.slot_list_append PySem.F.type_list_append bj (nv 4) (aa (bq (aa aY (aa (nv 1) (aa (nv 6) (aa (nv 7) ag))))) ag)))))))
 (ak (au (ar aW (nv 4) (bA (aa (bq (aa aY (aa (nv 1) ag))) ag)))))))))),?_⟩
  have e2:((n:Int) / 2+1).toNat=n / 2+1:=by omega
  refine ⟨⟨by decide,by decide⟩,_,rfl,by omega,by omega,fun Mo nM=>?_⟩;rw [e2];refine g_ (fun i ys H1=>ys=(((List.range i).map fun k:Nat=>(own+(k:Int)) % (n:Int)).map V.int)/\H1=aw H Mo (.lst ys)) ⟨rfl,rfl⟩ ?_ ?_
  ·rintro i ys H1 hi ⟨rfl,rfl⟩
   refine ⟨(Wk.refl _).set rfl,?_⟩;rw [dL,if_pos rfl];refine ⟨cpos,upd_same,aE (by rw [List.length_map,List.length_map,List.length_range]; omega),fY hi ⟨?_,yD⟩⟩;rw [Int.zero_add,List.range_succ,List.map_append,List.map_append]; rfl
  rintro ys H1 ⟨rfl,rfl⟩;have hM:aw H Mo (.lst ((aZ n own).map V.int)) Mo=some (.lst ((aZ n own).map V.int)):=upd_same;have s1:aI H (aw H Mo (.lst ((aZ n own).map V.int))):=am nM;have lM:=ge n own;change _ at hM;show ux _ _ _ _ (aw H Mo (.lst ((aZ n own).map V.int)));unfold aS fA at q;generalize aZ n own=M at hM s1 lM q ⊢;generalize aw H Mo (.lst (M.map V.int))=H1 at hM s1 ⊢;have lMV:(M.map V.int).length=M.length:=List.length_map ..;refine ⟨Mo,rfl,⟨_,a9.of hM⟩,fun l nl=>?_⟩;have nlM:Mo≠l:=ai hM nl;have nlH:H l=none:=none_of s1 nl;refine eP (xs:=M.map V.int) (fun i ys H2=>DA H2 l ys ((M.take i).map .wake)/\aI H1 H2) ⟨⟨upd_same,.nil⟩,am nl⟩ (fun i ys H2 _ ⟨_,s2⟩=>a9.of (s2 _ _ hM)) ?_ ?_
  ·rintro i x ys H2 hx hi ⟨L2',s2⟩
   have hi':i < M.length:=by omega
   rw [List.getElem?_map,List.getElem?_eq_getElem hi'] at hx;cases hx;refine ⟨(Wk.refl _).set rfl,?_⟩;rw [dL,if_pos rfl];refine ⟨by show 2<=sizeLine; decide,fun t nt=>?_⟩;have st:=am (o:=.tup (Deed.wake M[i]).rowV) nt;have L3:=L2'.same st;have ll:=L3.len;rw [List.length_map,List.length_take] at ll;refine ⟨L3.hl,aE (by omega),fY hi ⟨?_,fun b u e=>?_⟩⟩
   ·rw [List.take_succ_eq_append_getElem hi',List.map_append]
    exact L3.app upd_same
   ·rw [ad (ai e nl)]; exact st _ _ (s2 _ _ e)
  rintro us2 H2 ⟨L2',s2⟩;rw [lMV,List.take_length] at L2';have hM2:=s2 _ _ hM;refine ⟨M.length,.inl ⟨_,.inl (a9.of hM2),lMV.symm⟩,_,rfl,by omega,by omega,?_⟩;have eT:((M.length:Int)+1).toNat=M.length+1:=by omega
  rw [eT];refine cq (n:=M.length+1) (fun j σ H3=>∃ us o5 o6,σ=[some (.int n),some (.int own),some (.int kk),some (.ref Mo),some (.ref l),o5,o6,none]/\DA H3 l us (M.map .wake++br own M j)/\Kl l H2 H3) ⟨us2,_,_,rfl,by show DA H2 l us2 (_++[]); rw [List.append_nil]; exact L2',.of_same (aI.refl _)⟩ ?_ ?_
  ·rintro j σ H3 hj ⟨us3,o5,o6,rfl,L3,k3⟩
   have lt:=gB own M j;have lt2:j * (M.length+1)<=7 * 8:=Nat.mul_le_mul (by omega) (by omega);have ll:(M.map Deed.wake++br own M j).length<=100:=by rw [List.length_append,List.length_map,lt]; omega
   refine xg (.rise own) (fun _ _ h=>h) L3 (fun Q k=>⟨by show 2<=sizeLine; decide,fun t ht=>k t _ (am ht) upd_same⟩) (by omega) fun us4 H4 L4 k4=>?_;have hM4:=(Kl.trans k3 k4) _ _ hM2 nlM;refine ⟨Mo,rfl,⟨_,a9.of hM4⟩,?_⟩;refine dA (xs:=M.map V.int) (fun i σ H5=>∃ us o6,σ=[some (.int n),some (.int own),some (.int kk),some (.ref Mo),some (.ref l),some (.int (0+(j:Int))),o6,none]/\DA H5 l us (M.map .wake++br own M j++[.rise own]++(M.take i).map (.ask own))/\Kl l H4 H5) ⟨us4,_,rfl,by show DA H4 l us4 (_++[]); rw [List.append_nil]; exact L4,.of_same (aI.refl _)⟩ (fun i σ H5 _ ⟨_,_,_,_,k5⟩=>a9.of (k5 _ _ hM4 nlM)) ?_ ?_
   ·rintro i x σ H5 hx ⟨us5,o6,rfl,L5,k5⟩
    have hi':i < M.length:=by have:=(List.getElem?_eq_some_iff.mp hx).1; omega
    rw [List.getElem?_map,List.getElem?_eq_getElem hi'] at hx;cases hx;refine oE (.ask own M[i]) (fun _ _ h=>h) L5 (fun Q k=>⟨by show 3<=sizeLine; decide,fun t ht=>k t _ (am ht) upd_same⟩) ?_ fun us6 H6 L6 k6=>?_
    ·rw [List.length_append,List.length_append,List.length_map,List.length_take]; simp; simp at ll; omega
    ·refine ⟨us6,_,rfl,?_,Kl.trans k5 k6⟩
     rw [List.take_succ_eq_append_getElem hi',List.map_append,<- List.append_assoc];exact L6
   ·rintro σ H5 ⟨us5,o6,rfl,L5,k5⟩
    rw [lMV,List.take_length,List.append_assoc,List.append_assoc] at L5;exact ⟨us5,_,_,rfl,L5,Kl.trans k3 (Kl.trans k4 k5)⟩
  rintro σ H3 ⟨us3,o5,o6,rfl,L3,k3⟩;have lt:=gB own M (M.length+1);have lt2:(M.length+1) * (M.length+1)<=8 * 8:=Nat.mul_le_mul (by omega) (by omega);have ll:(M.map Deed.wake++br own M (M.length+1)).length<=100:=by rw [List.length_append,List.length_map,lt]; omega
  have ll3:=L3.len;refine ⟨.inl ⟨rfl,_,a9.of L3.hl⟩,by show 3<=sizeLine; decide,fun t nt=>?_⟩;have st:=am (o:=.tup (Deed.say own "last").rowV) nt;have L3':=L3.same st;refine ⟨l,us3,_,rfl,rfl,L3'.hl,aE (by omega),?_⟩;have L4:=L3'.app (d:=.say own "last") upd_same;have k4:Kl l H3 (aw (aw H3 t (.tup (Deed.say own "last").rowV)) l (.lst (us3++[.ref t]))):=Kl.trans (.of_same st) cW;show ux _ _ _ _ (aw (aw H3 t (.tup (Deed.say own "last").rowV)) l (.lst (us3++[.ref t])));generalize aw (aw H3 t (.tup (Deed.say own "last").rowV)) l (.lst (us3++[.ref t]))=H4 at L4 k4 ⊢;generalize us3++[V.ref t]=us4 at L4;have ll4:(M.map Deed.wake++br own M (M.length+1)++[Deed.say own "last"]).length<=101:=by rw [List.length_append]; show _+1<=_; omega
  generalize M.map Deed.wake++br own M (M.length+1)++[Deed.say own "last"]=B at L4 ll4 q;have k34:=Kl.trans k3 k4;refine ⟨_,rfl,by omega,by omega,?_⟩;rw [Int.toNat_natCast];refine cq (n:=kk) (fun j σ H5=>∃ us o6 o7,σ=[some (.int n),some (.int own),some (.int kk),some (.ref Mo),some (.ref l),o5,o6,o7]/\DA H5 l us (B++bg own M j)/\Kl l H2 H5) ⟨us4,_,_,rfl,by show DA H4 l us4 (_++[]); rw [List.append_nil]; exact L4,k34⟩ ?_ ?_
  ·rintro j σ H5 hj ⟨us5,o6,o7,rfl,L5,k5⟩
   have lw:=fQ own M j;have lw2:j * M.length<=11 * 7:=Nat.mul_le_mul (by omega) (by omega);have hM5:=k5 _ _ hM2 nlM;refine ⟨Mo,rfl,⟨_,a9.of hM5⟩,?_⟩;rw [Int.zero_add];refine dA (xs:=M.map V.int) (fun i σ H6=>∃ us o6,σ=[some (.int n),some (.int own),some (.int kk),some (.ref Mo),some (.ref l),o5,o6,some (.int (j:Int))]/\DA H6 l us (B++bg own M j++(M.take i).map fun m=>.write own m (j:Int))/\Kl l H5 H6) ⟨us5,_,rfl,by show DA H5 l us5 (_++[]); rw [List.append_nil]; exact L5,.of_same (aI.refl _)⟩ (fun i σ H6 _ ⟨_,_,_,_,k6⟩=>a9.of (k6 _ _ hM5 nlM)) ?_ ?_
   ·rintro i x σ H6 hx ⟨us6,o6,rfl,L6,k6⟩
    have hi':i < M.length:=by have:=(List.getElem?_eq_some_iff.mp hx).1; omega
    rw [List.getElem?_map,List.getElem?_eq_getElem hi'] at hx;cases hx;refine oE (.write own M[i] (j:Int)) (fun _ _ h=>h) L6 (fun Q k=>⟨by show 4<=sizeLine; decide,fun t ht=>k t _ (am ht) upd_same⟩) ?_ fun us7 H7 L7 k7=>?_
    ·rw [List.length_append,List.length_append,List.length_map,List.length_take,lw]; omega
    ·refine ⟨us7,_,rfl,?_,Kl.trans k6 k7⟩
     rw [List.take_succ_eq_append_getElem hi',List.map_append,<- List.append_assoc];exact L7
   ·rintro σ H6 ⟨us6,o6,rfl,L6,k6⟩
    rw [lMV,List.take_length,List.append_assoc] at L6;exact ⟨us6,_,_,rfl,L6,Kl.trans k5 k6⟩
  rintro σ H5 ⟨us5,o6,o7,rfl,L5,k5⟩;have lw:=fQ own M kk;have lw2:kk * M.length<=12 * 7:=Nat.mul_le_mul (by omega) (by omega);refine ⟨by show 2<=sizeLine; decide,fun t nt=>⟨by show 1<=sizeLine; decide,fun r nr=>?_⟩⟩;have st:=am (o:=.tup (Deed.settled own).rowV) nt;have sr:=am (o:=.lst [.ref t]) nr;have L6:=L5.same (st.trans sr);have ll6:=L6.len;rw [List.length_append,lw] at ll6;refine .inl ⟨_,_,L6.hl,upd_same,by rw [sizeLine_eq]; show _+1<=_; omega,fun p np=>?_⟩;have sp:=am (o:=.lst (us5++[.ref t])) np;have all:aI H1 (aw (aw (aw H5 t (.tup (Deed.settled own).rowV)) r (.lst [.ref t])) p (.lst (us5++[.ref t]))):=(Kl.behind s2 k5 nl).trans ((st.trans sr).trans sp);refine q p (us5++[.ref t]) _ (none_of (s1.trans ((Kl.behind s2 k5 nl).trans (st.trans sr))) np) (s1.trans all) ⟨upd_same,Paired.snoc ((L6.same sp).dd) ⟨t,rfl,sp _ _ (sr _ _ upd_same)⟩⟩
end
abbrev mv (H:Hp) (us:List V) (L:List (Int×Str)):Prop:=Paired (fun u (p:Int×Str)=>∃ a,u=V.ref a/\H a=some (.tup [.int p.1,.str p.2])) us L
theorem mv.same {H H':Hp}{us:List V}{L:List (Int×Str)} (h:mv H us L) (s:aI H H'):mv H' us L:=Paired.mapP h fun _ _ ⟨a,e1,e2⟩=>⟨a,e1,s _ _ e2⟩
noncomputable def tK:Sp:=fun vs H Q _=>∃ (l:Addr) (us:List V) (L:List (Int×Str)),vs=[.ref l]/\H l=some (.lst us)/\mv H us L/\∀ H',aI H H'->Q (.bl true) H'
section
variable {P:Program}{w:World}{K:Frag}{mg:Str->Option Value}{base:Heap}
theorem mE (NB:NBs mg) (O_whole:L2.Own P w K mg base "_law_whole" 1 ["_law_found"] oy) (D:DefAt K mg "_law_are_pairs" fk ["_law_found"]):L2.Own P w K mg base "_law_are_pairs" 2 ["_law_found"] tK:=by
 refine D.own iK (fun vs H Q E h=>?_) (fun f cdv A outer s H vs Q E hr h=>?_)
 ·obtain ⟨l,us,L,rfl,_⟩:=h; rfl
 ·obtain ⟨l,us,L,rfl,hl,W,k⟩:=h
  have hu:=bQ hr;have nd:=iK.nd;refine ⟨_,(af (bO PassesOwn.never rfl (ck (nv 0)) (aJ nd 1) (af (aQ (PW.pt (dW (cu (bz (aB ax (by rfl) NB.isinstance aG (aa (nv 1) (aa (nt NB.tuple iI) ag))))) (dg (az (gc hr) (aB bf (by rfl) NB.len cy (aa (nv 1) ag)) aj (aN _))))) (ak (au bB)) ay)
 (ak (aQ (PW.pt (dW (cu (bz (a_ O_whole hr rfl (aa (aP (dN hu) (nv 1) aj (fun _ _=>rfl)) ag)))) (dg (cu (bz (aB ax (by rfl) NB.isinstance aG (aa (aP (dN hu) (nv 1) aj (fun _ _=>rfl)) (aa (nt NB.str rR) ag)))))))) (ak (au bB)) ay))))
 (ak (au bB))),?_⟩
  refine ⟨l,rfl,⟨us,a9.of hl⟩,?_⟩;refine dA (xs:=us) (fun i σ H1=>∃ o1,σ=[some (.ref l),o1]/\aI H H1) ⟨_,rfl,aI.refl _⟩ (fun i σ H1 _ ⟨_,_,s1⟩=>a9.of (s1 _ _ hl)) ?_ ?_
  ·rintro i x σ H1 hx ⟨o1,rfl,s1⟩
   obtain ⟨y,hy,a,rfl,ha⟩:=bF W hx;have ha:=s1 _ _ ha;refine ⟨_,true,.tup ha,eY K,_,rfl,dH ?_⟩;refine ⟨2,.inl ⟨_,.inr (c8.of ha),rfl⟩,_,.scal rfl,_,rfl,gK rfl ?_⟩;refine ⟨_,.tup (c8.of ha) (by rfl),_,rfl,_,rfl,dH ?_⟩;refine ⟨.str y.2,.tup (c8.of ha) (by rfl),_,true,.str _,g8 K,_,rfl,dH ?_⟩;exact ⟨_,rfl,s1⟩
  ·rintro σ H1 ⟨o1,rfl,s1⟩
   exact k H1 s1
end
end K07
namespace K07
open PySem L2 Hl N3
seal L2.PE L2.PA L2.PS L2.gI
theorem yf:bootBuiltins "range" = some (.type "range"):=by kernel_rfl
theorem sO (xs:List V):gT xs (some 2) none=xs.drop 2:=by
 have h1:HT.sIx xs.length 0 (some 2)=min 2 xs.length:=by
  show min (2:Int).toNat xs.length=_;rfl
 have h2:HT.sIx xs.length xs.length none=xs.length:=rfl;unfold gT;rw [h1,h2]
 by_cases h:2<=xs.length
 ·rw [Nat.min_eq_left h,List.take_of_length_le (by rw [List.length_drop]; exact Nat.le_refl _)]
 ·rw [Nat.min_eq_right (by omega),List.drop_eq_nil_of_le (Nat.le_refl _),List.drop_eq_nil_of_le (by omega)]
  simp
theorem wQ {K:Frag}{H:Hp}{b p:Addr}{r r':List a5} (hb:H b=some (.tup (r.map kV))) (hp:H p=some (.tup (r'.map kV))):TEq K H (.ref b) (.ref p) (decide (r=r')):=by
 have h:=TEq.tup (n:=0) (fun j=>decide (r[j]? = r'[j]?)) (c8.of (K:=K) hb) (c8.of (K:=K) hp) (by decide) fun j x y h1 h2=>by
  rw [List.getElem?_map] at h1 h2;cases e1:r[j]? with
  | none=>rw [e1] at h1; cases h1
  | some k =>
   cases e2:r'[j]? with
   | none=>rw [e2] at h2; cases h2
   | some k' =>
    rw [e1] at h1; rw [e2] at h2; cases h1; cases h2;have:=DEq.scal (K:=K) (H:=H) (n:=0) (wu k k');have e:decide (kV k=kV k')=decide (some k=some k'):=by
     by_cases q:k=k'
     ·rw [q]; simp
     ·rw [decide_eq_false (fun y=>q (rM y)),decide_eq_false (fun y=>q (Option.some.inj y))]
    rw [e] at this; exact this
 have e:((List.range (min (r.map kV).length (r'.map kV).length)).all (fun j=>decide (r[j]? = r'[j]?))&&(r.map kV).length==(r'.map kV).length)=decide (r=r'):=by
  rw [List.length_map,List.length_map,Bool.eq_iff_iff,Bool.and_eq_true,decide_eq_true_eq,List.all_eq_true,beq_iff_eq];constructor
  ·rintro ⟨h1,h2⟩
   apply List.ext_getElem? fun j=>?_
   by_cases hj:j < r.length
   ·exact of_decide_eq_true (h1 j (List.mem_range.mpr (by omega)))
   ·rw [List.getElem?_eq_none_iff.mpr (by omega),List.getElem?_eq_none_iff.mpr (by omega)]
  ·rintro rfl
   exact ⟨fun j _=>decide_eq_true rfl,rfl⟩
 rw [e] at h; exact h
theorem wP {K:Frag}{H:Hp}{b p:Addr}{d:Deed}{own:Int} (hb:H b=some (.tup d.rowV)) (hp:H p=some (.tup [.str "say",.int own,.str "last"])):TEq K H (.ref b) (.ref p) (eW own d):=by
 rw [<- A9] at hb;have h:=wQ (K:=K) (r:=vN d) (r':=vN (.say own "last")) hb hp;have e:decide (vN d=vN (.say own "last"))=eW own d:=by
  cases d with
  | say o z =>
   show _=(decide (o=own)&&decide (z=("last":Str)));rw [Bool.eq_iff_iff,decide_eq_true_eq,Bool.and_eq_true,decide_eq_true_eq,decide_eq_true_eq];show ([.inr "say",.inl o,.inr z]:List a5)=[.inr "say",.inl own,.inr "last"]↔_;constructor
   ·intro y
    injection y with _ y; injection y with y1 y; injection y with y2 _
    exact ⟨Sum.inl.inj y1,Sum.inr.inj y2⟩
   ·rintro ⟨rfl,rfl⟩; rfl
  | rise o=>exact decide_eq_false fun y=>qW (Sum.inr.inj (List.cons.inj y).1)
  | ask o p=>exact decide_eq_false fun y=>sE (Sum.inr.inj (List.cons.inj y).1)
  | write o p q=>exact decide_eq_false fun y=>iO (Sum.inr.inj (List.cons.inj y).1)
  | settled o=>exact decide_eq_false fun y=>gr (Sum.inr.inj (List.cons.inj y).1)
  | stop o=>exact decide_eq_false fun y=>jI (Sum.inr.inj (List.cons.inj y).1)
  | wake o=>exact decide_eq_false fun y=>jH (Sum.inr.inj (List.cons.inj y).1)
 rwa [e] at h
theorem gD {H:Hp}{a:Addr}{ns:List Int}{m:Nat} (h:H a=some (.lst (ns.map V.int))) (hz:ns.length<=1000):Deep H (m+1) (.ref a) (.lst (ns.map Dat.int)):=by
 refine .lst h (by rw [List.length_map,sizeLine_eq]; omega) (by simp) fun j x d h1 h2=>?_;rw [List.getElem?_map] at h1 h2;cases e:ns[j]? with
 | none=>rw [e] at h1; cases h1
 | some i=>rw [e] at h1 h2; cases h1; cases h2; exact .int
theorem tV {H:Hp}{us:List V}{L:List (Int×Str)} (R:_root_.Own.Rows H us (L.map fun p=>(pK p).map kV)):mv H us L:=by
 refine cc (by have:=Paired.length R; rwa [List.length_map] at this) fun j x y h1 h2=>?_;obtain ⟨t,e,h⟩:=oF R h1 (show _=some ((pK y).map kV) by rw [List.getElem?_map,h2]; rfl);exact ⟨t,e,h⟩
theorem yR {H:Hp}{us:List V}{L:List (Int×Str)} (R:mv H us L):_root_.Own.Rows H us ((L.map pK).map fun r=>r.map kV):=by
 refine cc (by rw [List.length_map,List.length_map]; exact Paired.length R) fun j x y h1 h2=>?_;obtain ⟨z,hz,a,e,ha⟩:=bF R h1;rw [List.getElem?_map,List.getElem?_map,hz] at h2;cases h2;exact ⟨a,e,ha⟩
theorem k9 {K:Frag}{H:Hp}{a t:Addr}{us:List V}{L:List (Int×Str)}{p:Int×Str} (ha:H a=some (.lst us)) (R:mv H us L) (ht:H t=some (.tup [.int p.1,.str p.2])) (hm:p∈L):InV K H (.ref t) (.ref a) true :=
 zo (yR R) (a9.of ha) (r':=pK p) ht ⟨fun _=>List.mem_map_of_mem hm,fun _=>rfl⟩
theorem cU {α β:Type}{F:α->β->Prop}{xs xs':List α}{ys ys':List β} (h:Paired F xs ys) (h':Paired F xs' ys'):Paired F (xs++xs') (ys++ys'):=by
 induction h with
 | nil=>exact h'
 | cons a _ ih=>exact .cons a ih
theorem qO {α β:Type}{F:α->β->Prop}{us:List α}{ys:List β}{y:β} (h:Paired F us (ys++[y])):∃ us' u,us=us'++[u]/\F u y:=by
 have hl:=Paired.length h;rw [List.length_append] at hl;have hl:us.length=ys.length+1:=hl;have hi:ys.length < us.length:=by omega
 refine ⟨us.take ys.length,us[ys.length],?_,bn h (List.getElem?_eq_getElem hi) (by simp)⟩;rw [<- List.take_succ_eq_append_getElem hi,List.take_of_length_le (by omega)]
theorem _root_.Hl.pU.same {H H':Hp}{v:V}{a:Ans} (x:pU H v a) (s:aI H H'):pU H' v a:=by
 cases a with
 | prs l =>
  obtain ⟨D,us,e,h,P⟩:=x;exact ⟨D,us,e,s _ _ h,Paired.mapP P fun _ _ ⟨a,e1,e2⟩=>⟨a,e1,s _ _ e2⟩⟩
 | non=>exact x
 | int i=>exact x
 | bl b=>exact x
 | str z=>exact x
structure Sc7 (H:Hp) (l6 b4 D8 e10:Addr) (us6 bus ts eus:List V) (dl7:List Deed) (f1 f2:List (Int×Str)) (n:Nat):Prop where
 hl:H l6=some (.lst us6)
 dd:cA H us6 dl7
 hb:H b4=some (.lst bus)
 PB:mv H bus f1
 hT:H D8=some (.lst ts)
 PA:Paired (pU H) ts (ik (init n) dl7)
 he:H e10=some (.lst eus)
 PE:mv H eus f2
theorem Sc7.same {H H':Hp}{l6 b4 D8 e10:Addr}{us6 bus ts eus:List V}{dl7:List Deed}{f1 f2:List (Int×Str)}{n:Nat} (x:Sc7 H l6 b4 D8 e10 us6 bus ts eus dl7 f1 f2 n) (s:aI H H'):Sc7 H' l6 b4 D8 e10 us6 bus ts eus dl7 f1 f2 n :=
 ⟨s _ _ x.hl,Paired.mapP x.dd (fun _ _ ⟨b,e,h⟩=>⟨b,e,s _ _ h⟩),s _ _ x.hb,x.PB.same s,s _ _ x.hT,Paired.mapP x.PA (fun _ _ y=>y.same s),s _ _ x.he,x.PE.same s⟩
section
variable {P:Program}{w:World}{K:Frag}{mg:Str->Option Value}{base:Heap}
theorem Bu {f:Addr}{fd:FuncData} (NB:NBs mg) (O_at:L2.Own P w K mg base "_law_at" 1 ["_law_script","_law_k"] (Ci K)) (O_drawn:L2.Own P w K mg base "_law_drawn" 3 ["_law_cells","_law_way","_law_count"] tQ) (O_answers:L2.Own P w K mg base "answers" 7 ["count","deeds"] ja) (O_settled_after:L2.Own P w K mg base "settled_after" 9 ["count","deeds"] m8)
  (O_to_the_end:L2.Own P w K mg base "_law_to_the_end" 1 ["_law_count","_law_own","_law_places"] Ah) (O_are_pairs:L2.Own P w K mg base "_law_are_pairs" 2 ["_law_found"] tK) (O_whole:L2.Own P w K mg base "_law_whole" 1 ["_law_found"] oy) (O_so:L2.Own P w K mg base "_law_so" 3 ["_law_found","_law_meant"] (AB 3))
  (F:Fun K "law" "law" im f fd):FnOk P w K mg base uw 10 f fd ["_law_script"] (rG K):=by
 refine F.ok wv (fun vs H Q E h=>?_) (fun cdv A outer s H vs Q E hr h=>?_)
 ·obtain ⟨a,ns,rfl,_⟩:=h; rfl
 ·obtain ⟨a,ns,rfl,hS,hO,hlen,k⟩:=h
  have hu:=bQ hr;have nd:=wv.nd;refine ⟨_,(af (aC nd 1 (aP (dN hu) (bA (aa aj (aa aj (aa aj (aa aj (aa aj (aa aj (aa aj (aa aj ag))))))))) (ar aA (ar aA (ar bi (a_ O_at hr rfl (aa (nv 0) (aa aj ag))) aj) aj) aj) (fun _ _=>rfl)))
 (af (aC nd 2 (a_ O_drawn hr rfl (aa (dZ zP (nv 0) (dP aj) gz) (aa (ar dw (a_ O_at hr rfl (aa (nv 0) (aa aj ag))) aj) (aa (nv 1) ag)))))
 (af (aC nd 3 (ar aA (ar aA (ar bi (a_ O_at hr rfl (aa (nv 0) (aa aj ag))) aj) aj) (nv 1)))
 (af (aC nd 4 (a_ O_settled_after hr rfl (aa (nv 1) (aa (b_ hU (by rfl) NB.list di (aa (nv 2) ag)) ag))))
 (af (aC nd 5 (ar aW (nv 2) (a_ O_to_the_end hr rfl (aa (nv 1) (aa (nv 3) (aa aj ag))))))
 (af (aC nd 6 (a_ O_answers hr rfl (aa (nv 1) (aa (b_ hU (by rfl) NB.list di (aa (nv 5) ag)) ag))))
 (af (aC nd 7 (a_ O_settled_after hr rfl (aa (nv 1) (aa (b_ hU (by rfl) NB.list di (aa (nv 5) ag)) ag))))
 (af (bO PassesOwn.never rfl (ck (bA (aa (nv 4) (aa (nv 6) (aa (nv 7) ag))))) (aJ nd 8) (ak (aQ (cu (bz (aB ax (by rfl) NB.isinstance aG (aa (nv 8) (aa (nt NB.list di) ag))))) (ak (au bB)) ay)))
 (af (aQ (PW.pt (dW (az (gc hr) (aB bf (by rfl) NB.len cy (aa (nv 6) ag)) (aB bf (by rfl) NB.len cy (aa (nv 5) ag)) (aN _)) (dg (cu (bz (a_ O_are_pairs hr rfl (aa (ar aW (nv 4) (nv 7)) ag))))))) (ak (au bB)) ay)
 (af (eX nd 9 (tgs:=["_law_k"]) (fr:=[3,5]) (bP rfl NB.range (aa (aB bf (by rfl) NB.len cy (aa (nv 5) ag)) ag)) (dB (tt:=some _) (fun _ _ _ _=>(du 0)) (fun _ _ _ _=>(az (wE (K:=K) hr) (aP (B8 (K:=K) hu) (nv 2) (nv 0) (fun _ _=>rfl)) (bq (aa aY (aa (nv 1) (aa aY ag)))) (aN _))) (fun _ _ _ _=>(nv 0))))
 (af (aC nd 10 (aP (dN hu) (nv 6) (aP (dN hu) (nv 9) (mT gy aj) (fun _ _=>rfl)) (fun _ _=>rfl)))
 (af (aQ (PW.pt (dW (cu (bz (a_ O_whole hr rfl (aa (nv 10) ag)))) (dW (az fN (nv 10) aj (aN _)) (dg (az (cp hr) (bq (aa (nv 10) (aa aY ag))) (nv 7) (by with_unfolding_all rfl)))))) (ak (au bB)) ay)
 (af (bO PassesOwn.never rfl (bP rfl NB.range (aa (nv 10) ag)) (aJ nd 11) (ak (aQ (az (bX hr) (j9 (tgs:=["_law_pair"]) (fr:=[11]) (ck (nv 7)) (dB (tt:=some _) (fun _ _ _ _=>(du 0)) (fun _ _ _ _=>(az (wE (K:=K) hr) (aP (B8 (K:=K) hu) (nv 0) aj (fun _ _=>rfl)) (nv 1) (aN _))) (fun _ _ _ _=>(nv 0)))) (bA ag) (aN _)) (ak (au bB)) ay)))
 (af (bO PassesOwn.never rfl (ck (nv 4)) (aJ nd 12) (ak (aQ (az (cp hr) (nv 12) (nv 7) (by with_unfolding_all rfl)) (ak (au bB)) ay)))
 (af (aC nd 13 (aP (dN hu) (nv 6) (mT gy aj) (fun _ _=>rfl)))
 (af (aQ (PW.pt (dW (cu (bz (aB ax (by rfl) NB.isinstance aG (aa (nv 13) (aa (nt NB.list di) ag))))) (dW (cu (bz (a_ O_are_pairs hr rfl (aa (nv 13) ag)))) (dg (az (cp hr) (bq (aa (nv 10) (aa aY ag))) (nv 13) (by with_unfolding_all rfl)))))) (ak (au bB)) ay)
 (af (eX nd 14 (tgs:=["_law_pair"]) (fr:=[]) (ck (nv 7)) (dB (tt:=none) (fun _ _ _ _=>(du 0)) (fun _ _ _ _=>True.intro) (fun _ _ _ _=>(aP (B8 (K:=K) hu) (nv 0) aj (fun _ _=>rfl)))))
 (af (aQ (cu (bz (a_ O_so hr rfl (aa (nv 14) (aa (aB sQ (by rfl) NB.sorted jk (aa (b_ vy (by rfl) NB.set BQ (aa (nv 14) ag)) ag)) ag))))) (ak (au bB)) ay)
 (ak (au (a_ O_so hr rfl (aa (dZ zP (nv 14) gz (dP (ar aW (nv 10) aj))) (aa (b_ sU (by rfl) NB.list di (aa (b_ rk (by rfl) NB.range yf (aa (ar aW (nv 10) aj) ag)) ag)) ag))))))))))))))))))))))),?_⟩
  refine ⟨by show 8<=sizeLine; decide,fun q0 n0=>?_⟩;have S0:=hS.keep (.of_same (am (o:=.lst [.int 1,.int 2,.int 3,.int 4,.int 5,.int 3,.int 10,.int 13]) n0));obtain ⟨c,hc,e1⟩:=uA (is:=[1,2,3,4,5,3,10,13]) (ns.getD 0 0 * 48271 % 1091 % 8) (Int.emod_nonneg _ (by decide)) (Int.emod_lt_of_pos _ (by decide));refine ⟨a,ns,0,rfl,S0.sq,by decide,pN _,by decide,by decide,_,.lst (a9.of upd_same) e1,?_⟩;obtain ⟨n,rfl,n1,n2⟩:∃ n:Nat,c=(n:Int)/\0 < n/\(n<=5\/8 < n/\n<=13):=by
   simp at hc;exact ⟨c.toNat,by omega,by omega,by omega⟩
  clear e1 hc;generalize aw H q0 _=H0 at S0;refine ⟨2,rfl,.inl ⟨_,S0.sq,fun q1 nq1=>?_⟩⟩;rw [sO,<- List.map_drop];have s1:=am (o:=.lst ((ns.drop 2).map V.int)) nq1;have S1:=S0.keep (.of_same s1);refine ⟨a,ns,0,rfl,S1.sq,by decide,⟨by decide,by decide⟩,?_⟩;refine ⟨q1,_,n,ns.drop 2,rfl,upd_same,by rw [List.length_drop]; omega,n1,n2,fun l us ds H2 nl s2 L dlb=>?_⟩;have dl:=dlb.le;have S2:=S1.keep (.of_same s2);refine ⟨a,ns,1,rfl,S2.sq,by decide,pN _,by decide,by omega,?_⟩;have ow0:0<=ns.getD ((1:Int)).toNat 0 * 48271 % 1087 % (n:Int):=Int.emod_nonneg _ (by omega);have ow1:ns.getD ((1:Int)).toNat 0 * 48271 % 1087 % (n:Int) < (n:Int):=Int.emod_lt_of_pos _ (by omega);generalize ns.getD ((1:Int)).toNat 0 * 48271 % 1087 % (n:Int)=own at ow0 ow1 ⊢;obtain ⟨pl,N,Lk,pl4,sayA,setA,inLk,upto,atpl,more,in6⟩:=DU n1 ow0 ow1 fun d hd=>(L.ok d hd).1;have tl:=wR (n:=n) (own:=own) (by omega);have spt:=AW ds n own;have lsp:ds.length+(fA n own).length < (ds++aS n own 12).length:=by
   unfold aS;rw [List.length_append,List.length_append,List.length_append,List.length_append];show _ < _+(_+1+_+1);omega
  have hsay:(ik (init n) (ds++aS n own 12))[ds.length+(fA n own).length]? = some (.int pl):=by
   have e:ds++aS n own 12=(ds++fA n own)++(.say own "last" :: (bg own (aZ n own) 12++[.settled own])):=by
    unfold aS;simp only [List.append_assoc,List.cons_append,List.nil_append]
   have g:(ds++aS n own 12)[ds.length+(fA n own).length]? = some (.say own "last"):=by
    rw [e,<- List.length_append,List.getElem?_append_right (Nat.le_refl _),Nat.sub_self]; rfl
   rw [qJ _ _ g,e,<- List.length_append,List.take_left,sayA]
  have hlast:∃ as',ik (init n) (ds++aS n own 12)=as'++[.prs Lk]:=by
   have e:ds++aS n own 12=(ds++(fA n own++[.say own "last"]++bg own (aZ n own) 12))++[.settled own]:=by
    unfold aS;rw [List.append_assoc ds]
   rw [e,jm,setA]; exact ⟨_,rfl⟩
  have ok7:∀ d∈ds++aS n own 12,deedOk yo d:=fun d hd=>by
   rcases List.mem_append.mp hd with h | h
   ·exact vn (L.ok d h).1
   ·exact yF n own d h
  have len7:(ds++aS n own 12).length<=287:=by rw [List.length_append]; omega
  have cnB:(aH (init n) ds).cnt=(n:Int):=iA _ _;have cnC:(aH (init n) (ds++aS n own 12)).cnt=(n:Int):=iA _ _;have SB:=(Sf.start n1).run ds;have SC:=(Sf.start n1).run (ds++aS n own 12);have w0:(init n).wrs.length=0:=rfl;have wB:(aH (init n) ds).wrs.length<=ds.length:=by
   have:=i8 ds (init n);have:=List.countP_le_length (p:=vI) (l:=ds);omega
  have wC:(aH (init n) (ds++aS n own 12)).wrs.length<=ds.length+12 * (n / 2+1):=by
   have:=i8 (ds++aS n own 12) (init n);rw [List.countP_append,ri] at this;have:=List.countP_le_length (p:=vI) (l:=ds);omega
  have few:∀ ws:List Wr,ws.length<=ds.length+12 * (n / 2+1)->(cf (n:Int) (ws.map cG) ws.length).length < 64:=fun ws hw=>DT dlb hw (yi (c:=(n:Int)) (by omega) ws ((n+2) / 2) (by omega)) n1 n2;have st:∀ ws:List Wr,ws.length<=ds.length+12 * (n / 2+1)->(sts (n:Int) (ws.map cG) ws.length).length < 64:=fun ws hw=>by
   have h:=congrArg List.length (lq (n:Int) (by omega) (ws.map cG) ws.length);rw [List.length_map] at h;have:=few ws hw;omega
  have oneC:∀ p m m' u u',(p,m,u)∈cf (n:Int) ((aH (init n) (ds++aS n own 12)).wrs.map cG) (aH (init n) (ds++aS n own 12)).wrs.length->(p,m',u')∈cf (n:Int) ((aH (init n) (ds++aS n own 12)).wrs.map cG) (aH (init n) (ds++aS n own 12)).wrs.length->u=u':=fun p m m' u u' h h'=>by rw [<- cnC] at h h'; exact SC.one h h'
  have stB:=st _ (Nat.le_trans wB (Nat.le_add_right _ _));have jZ:=st _ wC;have fewC:=few _ wC;clear sayA setA st few cnB cnC SB SC w0;refine ⟨l,us,rfl,.lst (a9.of L.hl),fun l3 nl3=>?_⟩;have t3:=am (o:=.lst us) nl3;have d3:cA (aw H2 l3 (.lst us)) us ds:=Paired.mapP L.dd fun _ _ ⟨b,e,h⟩=>⟨b,e,t3 _ _ h⟩;refine ⟨n,l3,ds,yn,us,rfl,⟨upd_same,d3,n1,by omega,by omega,fun d hd=>(L.ok d hd).1,by decide⟩,stB,by omega,fun b4 bus ks1 H4 nb4 hb4 pk1 ok1 R1 s4=>?_⟩;have hl4:=s4 _ _ (t3 _ _ L.hl);have d4:cA H4 us ds:=Paired.mapP d3 fun _ _ ⟨b,e,h⟩=>⟨b,e,s4 _ _ h⟩;have PB:=tV R1;have inB:∀ p,p∈ij (ks1.map pM)->∃ m,(p.1,m,p.2)∈cf (n:Int) ((aH (init n) ds).wrs.map cG) (aH (init n) ds).wrs.length:=fun p hp=>by
   obtain ⟨⟨q,m,u⟩,h,e⟩:=List.mem_map.mp ((ko _ _).mp hp);subst e; exact ⟨m,pk1.mem_iff.mp h⟩
  have lB:(ij (ks1.map pM)).length<=400:=Nat.le_trans (oP _) (by rw [List.length_map,pk1.length_eq]; have:=qK (n:Int) ((aH (init n) ds).wrs.map cG) (aH (init n) ds).wrs.length; omega);generalize ij (ks1.map pM)=f1 at PB inB lB;clear R1 pk1 ok1 d3 t3 nl3 L;refine ⟨n,12,own,rfl,n1,by omega,Nat.le_refl _,fun l5 us5 H5 nl5 s5 L5=>?_⟩;have hl5:=s5 _ _ hl4;have lus:us.length=ds.length:=Paired.length d4;have lus5:=L5.len;refine .inl ⟨us,us5,hl5,L5.hl,by rw [sizeLine_eq]; omega,fun l6 nl6=>?_⟩;have t6:=am (o:=.lst (us++us5)) nl6;have hl6:aw H5 l6 (.lst (us++us5)) l6=some (.lst (us++us5)):=upd_same;have d6:cA (aw H5 l6 (.lst (us++us5))) (us++us5) (ds++aS n own 12):=cU (Paired.mapP d4 fun _ _ ⟨b,e,h⟩=>⟨b,e,t6 _ _ (s5 _ _ h)⟩) (Paired.mapP L5.dd fun _ _ ⟨b,e,h⟩=>⟨b,e,t6 _ _ h⟩);have hb6:=t6 _ _ (s5 _ _ hb4);have PB6:=(PB.same s5).same t6;generalize aw H5 l6 (.lst (us++us5))=H6 at hl6 d6 hb6 PB6;generalize us++us5=us6 at hl6 d6;have lus6:us6.length=(ds++aS n own 12).length:=Paired.length d6;clear PB hb4 hl5 hl4 L5 d4 lus lus5;have tale:∀ {H9:Hp}{l9:Addr},H9 l9=some (.lst us6)->cA H9 us6 (ds++aS n own 12)->Tale H9 l9 n (ds++aS n own 12) yo us6:=fun h d=>⟨h,d,n1,by omega,by omega,ok7,by decide⟩;refine ⟨l6,us6,rfl,.lst (a9.of hl6),fun l7 nl7=>?_⟩;have t7:=am (o:=.lst us6) nl7;refine ⟨n,l7,_,yo,us6,rfl,tale upd_same (Paired.mapP d6 fun _ _ ⟨b,e,h⟩=>⟨b,e,t7 _ _ h⟩),fun H8 D8 ts nD8 hD8 PA s8=>?_⟩;have s68:=t7.trans s8;have hl8:=s68 _ _ hl6;have d8:cA H8 us6 (ds++aS n own 12):=Paired.mapP d6 fun _ _ ⟨b,e,h⟩=>⟨b,e,s68 _ _ h⟩;have hb8:=s68 _ _ hb6;have PB8:=PB6.same s68;clear hl6 d6 hb6 PB6;refine ⟨l6,us6,rfl,.lst (a9.of hl8),fun l9 nl9=>?_⟩;have t9:=am (o:=.lst us6) nl9;refine ⟨n,l9,_,yo,us6,rfl,tale upd_same (Paired.mapP d8 fun _ _ ⟨b,e,h⟩=>⟨b,e,t9 _ _ h⟩),jZ,by omega,fun e10 eus ks2 H10 ne10 he10 pk2 ok2 R2 s10=>?_⟩;have s810:=t9.trans s10;have hl:=s810 _ _ hl8;have dd:cA H10 us6 (ds++aS n own 12):=Paired.mapP d8 fun _ _ ⟨b,e,h⟩=>⟨b,e,s810 _ _ h⟩;have hb:=s810 _ _ hb8;have PB:=PB8.same s810;have hT:=s810 _ _ hD8;have PA:Paired (pU H10) ts (ik (init n) (ds++aS n own 12)):=Paired.mapP PA fun _ _ x=>x.same s810;have PE':=tV R2;have up:=BN pk2 ok2 oneC;have memE:∀ q:Int×Str,q∈ij (ks2.map pM)↔∃ m,(q.1,m,q.2)∈cf (n:Int) ((aH (init n) (ds++aS n own 12)).wrs.map cG) (aH (init n) (ds++aS n own 12)).wrs.length:=fun q=>by
   rw [ko,List.mem_map];constructor
   ·rintro ⟨⟨p,m,u⟩,h,e⟩; subst e; exact ⟨m,pk2.mem_iff.mp h⟩
   ·rintro ⟨m,h⟩; exact ⟨(q.1,m,q.2),pk2.mem_iff.mpr h,rfl⟩
  have lE:(ij (ks2.map pM)).length < 64:=Nat.lt_of_le_of_lt (oP _) (by rw [List.length_map,pk2.length_eq]; exact fewC);generalize ij (ks2.map pM)=f2 at PE' up memE lE;clear hl8 d8 hb8 PB8 R2 pk2 ok2 hD8 stB jZ fewC oneC tale;have lts:ts.length=(ds++aS n own 12).length:=(Paired.length PA).trans (lm _ _);have inE:((pl:Int),("last":Str))∈f2:=(memE _).mpr ⟨N,atpl⟩;have uptoE:∀ m:Nat,m<=pl->∃ u,((m:Int),u)∈f2:=fun m hm=>by obtain ⟨u,h⟩:=upto m hm; exact ⟨u,(memE _).mpr ⟨N,h⟩⟩
  have sub12:∀ p∈f1,p∈f2:=fun p hp=>by obtain ⟨m,h⟩:=inB p hp; exact (memE p).mpr ⟨m,more _ h⟩
  have in6E:∀ p∈f2,p.1∈yr:=fun p hp=>by obtain ⟨m,h⟩:=(memE p).mp hp; exact in6 _ m _ h
  clear memE more inB upto atpl in6;have X:Sc7 H10 l6 b4 D8 e10 us6 bus ts eus (ds++aS n own 12) f1 f2 n:=⟨hl,dd,hb,PB,hT,PA,he10,PE'⟩;clear hl dd hb PB hT PA he10 PE';generalize ds++aS n own 12=dl7 at *;generalize ds.length+(fA n own).length=sp at *;have lbus:bus.length=f1.length:=Paired.length X.PB;have leus:eus.length=f2.length:=Paired.length X.PE;refine ⟨by show 3<=sizeLine; decide,fun q11 nq11=>⟨q11,rfl,⟨_,a9.of upd_same⟩,?_⟩⟩;have X:=X.same (am (o:=.lst [.ref b4,.ref D8,.ref e10]) nq11);have hq11:aw H10 q11 (.lst [.ref b4,.ref D8,.ref e10]) q11=some (.lst [.ref b4,.ref D8,.ref e10]):=upd_same;generalize aw H10 q11 (.lst [.ref b4,.ref D8,.ref e10])=H11 at X hq11;refine dA (xs:=[.ref b4,.ref D8,.ref e10]) (fun i σ H12=>∃ o8,σ=[some (.ref a),some (.int n),some (.ref l),some (.int own),some (.ref b4),some (.ref l6),some (.ref D8),some (.ref e10),o8,none,none,none,none,none,none]/\aI H11 H12) ⟨_,rfl,aI.refl _⟩ (fun i σ H12 _ ⟨_,_,s⟩=>a9.of (s _ _ hq11)) ?_ ?_
  ·rintro i x σ H12 hx ⟨o8,rfl,s12⟩
   have hx':∃ (c:Addr) (vs:List V),x=.ref c/\H12 c=some (.lst vs):=by
    match i,hx with
    | 0,h=>cases h; exact ⟨_,_,rfl,s12 _ _ X.hb⟩
    | 1,h=>cases h; exact ⟨_,_,rfl,s12 _ _ X.hT⟩
    | 2,h=>cases h; exact ⟨_,_,rfl,s12 _ _ X.he⟩
    | j+3,h=>simp at h
   obtain ⟨c,vs,rfl,hc⟩:=hx';refine ⟨_,true,.lst hc,eM K,_,rfl,dH ?_⟩;exact ⟨_,rfl,s12⟩
  rintro σ H12 ⟨o8,rfl,s12⟩;have X:=X.same s12;refine ⟨ts.length,.inl ⟨_,.inl (a9.of X.hT),rfl⟩,us6.length,.inl ⟨_,.inl (a9.of X.hl),rfl⟩,_,.scal rfl,_,rfl,gK (by rw [lts,lus6]) ?_⟩;refine .inl ⟨bus,eus,X.hb,X.he,by rw [sizeLine_eq]; omega,fun p13 np13=>?_⟩;have s13:=am (o:=.lst (bus++eus)) np13;refine ⟨p13,bus++eus,f1++f2,rfl,upd_same,cU (X.PB.same s13) (X.PE.same s13),fun H14 s14=>⟨_,rfl,dH ?_⟩⟩;have X:=(X.same s13).same s14;refine ⟨us6.length,.inl ⟨_,.inl (a9.of X.hl),rfl⟩,_,rfl,by omega,by omega,fun D15 nD15=>?_⟩;rw [Int.toNat_natCast];refine g_ (n:=us6.length) (fun i ys H16=>ys=((List.range i).filter fun k=>(dl7[k]?).any (eW own)).map (fun k:Nat=>V.int k)/\H16 D15=some (.lst ys)/\aI H14 H16) ⟨rfl,upd_same,am nD15⟩ ?_ ?_
  ·rintro i ys H16 hi ⟨rfl,h16,s16⟩
   have X:=X.same s16;have hu6:us6[i]? = some us6[i]:=List.getElem?_eq_getElem hi;obtain ⟨d,hd,t,et,ht⟩:=bF X.dd hu6;rw [et] at hu6;have li:(((List.range i).filter fun k=>(dl7[k]?).any (eW own)).map (fun k:Nat=>V.int k)).length<=1000:=by
    rw [List.length_map];exact Nat.le_trans (List.length_filter_le _ _) (by rw [List.length_range]; omega)
   refine ⟨(Wk.refl _).set rfl,?_⟩;rw [Int.zero_add];refine ⟨_,.lst (a9.of X.hl) (cN hu6),by show 3<=sizeLine; decide,fun q nq=>?_⟩;have sq:=am (o:=.tup [.str "say",.int own,.str "last"]) nq;have hh16:=sq _ _ h16;refine ⟨_,wP (sq _ _ ht) upd_same,_,rfl,?_⟩;have eR:(dl7[i]?).any (eW own)=eW own d:=by rw [hd]; rfl
   cases hL:eW own d with
   | true =>
    refine cI ?_;refine ⟨hh16,aE li,fY hi ⟨?_,upd_same,fun b u e=>?_⟩⟩
    ·rw [List.range_succ,List.filter_append,List.filter_cons_of_pos (by rw [eR]; exact hL),List.map_append]; rfl
    ·rw [ad (ai e nD15)]; exact sq _ _ (s16 _ _ e)
   | false =>
    refine cE ?_;refine fY hi ⟨?_,hh16,s16.trans sq⟩;rw [List.range_succ,List.filter_append,List.filter_cons_of_neg (by rw [eR,hL]; exact Bool.false_ne_true),List.filter_nil,List.append_nil]
  rintro ys H16 ⟨rfl,h16,s16⟩;have X:=X.same s16;rw [lus6,spt,List.map_append] at h16;obtain ⟨v,hv,av⟩:∃ v,ts[sp]? = some v/\pU H16 v (.int pl):=by
   have hi:sp < ts.length:=by omega
   exact ⟨ts[sp],List.getElem?_eq_getElem hi,bn (show Paired _ _ _ from X.PA) (List.getElem?_eq_getElem hi) hsay⟩
  obtain rfl:v=.int pl:=av;refine ⟨.int (sp:Int),.lst (a9.of h16) (qI _ _),.int pl,.lst (a9.of X.hT) (cN hv),?_⟩;refine ⟨_,rfl,_,rfl,dH ?_⟩;refine ⟨_,rfl,cR (by omega) ?_⟩;refine ⟨by show 2<=sizeLine; decide,fun t17 nt17=>?_⟩;have X:=X.same (am (o:=.tup [.int pl,.str "last"]) nt17);refine ⟨true,k9 (p:=((pl:Int),"last")) X.he X.PE upd_same inE,_,rfl,dH ?_⟩;generalize aw H16 t17 (.tup [.int pl,.str "last"])=H17 at X;clear h16 s16 hv;refine ⟨_,rfl,by omega,by omega,?_⟩;rw [Int.toNat_natCast];refine cq (n:=pl) (fun j σ H20=>∃ o11,σ=[some (.ref a),some (.int n),some (.ref l),some (.int own),some (.ref b4),some (.ref l6),some (.ref D8),some (.ref e10),o8,some (.ref D15),some (.int pl),o11,none,none,none]/\aI H17 H20) ⟨_,rfl,aI.refl _⟩ ?_ ?_
  ·rintro j σ H20 hj ⟨o11,rfl,s20⟩
   have X:=X.same s20;rw [Int.zero_add];refine ⟨e10,rfl,⟨eus,a9.of X.he⟩,fun D21 nD21=>?_⟩;refine eP (xs:=eus) (fun i ys H22=>((∃ q∈f2.take i,q.1=(j:Int))->ys≠[])/\ys.length<=i/\H22 D21=some (.lst ys)/\aI H20 H22) ⟨(fun ⟨_,h,_⟩=>nomatch h),Nat.le_refl _,upd_same,am nD21⟩ (fun i ys H22 _ ⟨_,_,_,s22⟩=>a9.of (s22 _ _ X.he)) ?_ ?_
   ·rintro i x ys H22 hx hi ⟨ne,ly,h22,s22⟩
    obtain ⟨y,hy,b,rfl,hb⟩:=bF X.PE hx;have hb:=s22 _ _ hb;have eT:f2.take (i+1)=f2.take i++[y]:=by rw [List.take_add_one,hy]; rfl
    refine ⟨(Wk.refl _).set rfl,?_⟩;refine ⟨_,.tup (c8.of hb) (by rfl),_,.scal rfl,_,rfl,?_⟩
    by_cases e:y.1=(j:Int)
    ·refine fC (by rw [e]) ?_
     refine ⟨h22,aE (by omega),fY hi ⟨fun _ z=>by simp at z,by rw [List.length_append]; exact Nat.succ_le_succ ly,upd_same,fun b u e=>?_⟩⟩;rw [ad (ai e nD21)]; exact s22 _ _ e
    ·refine cR (fun z=>e (V.int.inj z)) ?_
     refine fY hi ⟨?_,by omega,h22,s22⟩;rintro ⟨q,hq,eq⟩;rw [eT] at hq;rcases List.mem_append.mp hq with z | z
     ·exact ne ⟨q,z,eq⟩
     ·rw [List.mem_singleton] at z; subst z; exact absurd eq e
   ·rintro ys H22 ⟨ne,ly,h22,s22⟩
    rw [leus,List.take_length] at ne;obtain ⟨u,hu'⟩:=uptoE j (by omega);have yne:=ne ⟨_,hu',rfl⟩;refine ⟨by show 0<=sizeLine; decide,fun p np=>?_⟩;have sp':=am (o:=.lst []) np;refine ⟨_,iq (sp' _ _ h22) upd_same,_,rfl,?_⟩;rw [decide_eq_false yne];refine cE ?_;exact ⟨_,rfl,s20.trans (s22.trans sp')⟩
  rintro σ H20 ⟨o11,rfl,s20⟩;have X:=X.same s20;refine ⟨b4,rfl,⟨bus,a9.of X.hb⟩,?_⟩;refine dA (xs:=bus) (fun i σ H24=>∃ o12,σ=[some (.ref a),some (.int n),some (.ref l),some (.int own),some (.ref b4),some (.ref l6),some (.ref D8),some (.ref e10),o8,some (.ref D15),some (.int pl),o11,o12,none,none]/\aI H20 H24) ⟨_,rfl,aI.refl _⟩ (fun i σ H24 _ ⟨_,_,s24⟩=>a9.of (s24 _ _ X.hb)) ?_ ?_
  ·rintro i x σ H24 hx ⟨o12,rfl,s24⟩
   have X:=X.same s24;obtain ⟨y,hy,b,rfl,hb⟩:=bF X.PB hx;refine ⟨true,k9 X.he X.PE hb (sub12 y (List.mem_of_getElem? hy)),_,rfl,dH ?_⟩;exact ⟨_,rfl,s24⟩
  rintro σ H24 ⟨o12,rfl,s24⟩;have X:=X.same s24;obtain ⟨as',ea⟩:=hlast;have PAl:=X.PA;rw [ea] at PAl;obtain ⟨ts',v,ets,av⟩:=qO PAl;obtain ⟨DK,kus,rfl,hDK,PK⟩:=av;have PK:mv H24 kus Lk:=PK;refine ⟨.ref DK,.lst (a9.of X.hT) (by rw [ets]; exact qI _ _),?_⟩;refine ⟨_,true,.lst hDK,eM K,_,rfl,dH ?_⟩;refine ⟨DK,kus,Lk,rfl,hDK,PK,fun H26 s26=>⟨_,rfl,dH ?_⟩⟩;refine ⟨by show 2<=sizeLine; decide,fun t27 nt27=>?_⟩;have st:=am (o:=.tup [.int pl,.str "last"]) nt27;refine ⟨true,k9 (p:=((pl:Int),"last")) (st _ _ (s26 _ _ hDK)) ((PK.same s26).same st) upd_same inLk,_,rfl,dH ?_⟩;have X:=(X.same s26).same st;generalize aw H26 t27 (.tup [.int pl,.str "last"])=H27 at X;clear st PK hDK ets PAl ea;refine ⟨e10,rfl,⟨eus,a9.of X.he⟩,fun D28 nD28=>?_⟩;refine eP (xs:=eus) (fun i ys H29=>ys=((f2.take i).map (·.1)).map V.int/\H29 D28=some (.lst ys)/\aI H27 H29) ⟨rfl,upd_same,am nD28⟩ (fun i ys H29 _ ⟨_,_,s29⟩=>a9.of (s29 _ _ X.he)) ?_ ?_
  ·rintro i x ys H29 hx hi ⟨rfl,h29,s29⟩
   obtain ⟨y,hy,b,rfl,hb⟩:=bF X.PE hx;refine ⟨(Wk.refl _).set rfl,?_⟩;rw [dL,if_pos rfl];refine ⟨_,.tup (c8.of (s29 _ _ hb)) (by rfl),h29,aE (by rw [List.length_map,List.length_map,List.length_take]; omega),fY hi ⟨?_,upd_same,fun b u e=>?_⟩⟩
   ·rw [List.take_add_one,hy,List.map_append,List.map_append]; rfl
   ·rw [ad (ai e nD28)]; exact s29 _ _ e
  rintro ys H29 ⟨rfl,h29,s29⟩;rw [leus,List.take_length] at h29;have pu:(f2.map (·.1)).Pairwise (· < ·):=by rw [List.pairwise_map]; exact up
  have pnd:(f2.map (·.1)).Nodup:=by rw [List.nodup_iff_pairwise_ne]; exact pu.imp fun h=>by omega
  have psub:f2.map (·.1)∈S7.mt S7.B7:=S7.iD (by decide) pu fun x hx=>by
   obtain ⟨p,hp,rfl⟩:=List.mem_map.mp hx;exact in6E p hp
  have pfst:=S7.BJ _ psub pl pl4 fun m hm=>by
   obtain ⟨u,h⟩:=uptoE m (by omega);exact List.mem_map.mpr ⟨_,h,rfl⟩
  have plen:(f2.map (·.1)).length < 64:=by rw [List.length_map]; exact lE
  generalize f2.map (·.1)=ps at h29 pu pnd psub pfst plen;refine ⟨D28,ps,rfl,a9.of h29,psub,pnd,plen,fun p30 np30=>⟨p30,ps,rfl,upd_same,plen,fun ps' pp po q31 nq31=>?_⟩⟩;obtain rfl:ps'=ps:=gX (f:=id) pp ((List.Pairwise.and po (pp.nodup_iff.mpr pnd)).imp fun h=>by have:=h.1; have:=h.2; show _ < _; simp only [id]; omega) pu;have h31:=am (o:=.lst (ps'.map V.int)) nq31 _ _ (am (o:=rE w p30 ps') np30 _ _ h29);refine ⟨_,_,_,rfl,gD h31 (by omega),gD upd_same (by omega),fun HZ sZ=>⟨_,rfl,dH ?_⟩⟩;have hZ:=sZ _ _ h31;refine ⟨_,rfl,.inl ⟨_,a9.of hZ,fun q32 nq32=>?_⟩⟩;rw [show ((pl:Int)+1)=((pl+1:Nat):Int) from rfl,vw,<- List.map_take,pfst];refine ⟨_,rfl,fun p33 np33=>⟨p33,pl+1,rfl,upd_same,by omega,fun q34 nq34=>?_⟩⟩;have e34:((List.range (pl+1)).map fun k:Nat=>V.int k)=((List.range (pl+1)).map fun k:Nat=>(k:Int)).map V.int:=by rw [List.map_map]; rfl
  rw [e34];have lr:((List.range (pl+1)).map fun k:Nat=>(k:Int)).length<=1000:=by rw [List.length_map,List.length_range]; omega
  exact ⟨_,_,_,rfl,gD (am nq34 _ _ (am np33 _ _ upd_same)) lr,gD upd_same lr,fun HZ' _=>k HZ'⟩
end
end K07
namespace K07
open PySem L2 Hl
theorem eE {K:Frag}{C:Addr}{x:Str} (h:PySem.W.findIn K (.ref C) x=some none):bH K C x:=h
noncomputable def Cw (K:Frag) (mg:Str->Option Value):Prop:=∃ C:Addr,CtorAt K mg C "Scribe" "Scribe.__init__" dR ["self","own","count"]/\TxS K C/\MethAt K C "promise" "Scribe.promise" cO ["self","number"]/\MethAt K C "put" "Scribe.put" eK ["self","number","place","saying"]/\MethAt K C "rise" "Scribe.rise" dQ ["self"]/\MethAt K C "see" "Scribe.see" eJ ["self","number"]
noncomputable def Cz (K:Frag) (mg:Str->Option Value):Prop:=∃ C:Addr,CtorAt K mg C "Lead" "Lead.__init__" fm ["self","number","count"]/\TxL K C/\MethAt K C "hear" "Lead.hear" fq ["self","scribe","row"]/\MethAt K C "begin_saying" "Lead.begin_saying" b6 ["self"]/\MethAt K C "say" "Lead.say" fR ["self","saying"]/\MethAt K C "take_hand" "Lead.take_hand" cP ["self","scribe","place"]/\MethAt K C "settled_pairs" "Lead.settled_pairs" bV ["self"]
noncomputable def CA (K:Frag) (mg:Str->Option Value):Prop:=∃ C:Addr,CtorAt K mg C "Hall" "Hall.__init__" fw ["self","count"]/\TxH K C/\MethAt K C "check" "Hall.check" eL ["self","number"]/\MethAt K C "rise" "Hall.rise" fu ["self","own"]/\MethAt K C "ask" "Hall.ask" fT ["self","own","other"]/\MethAt K C "fall" "Hall.fall" fx ["self","own","number"]/\MethAt K C "say" "Hall.say" fS ["self","own","saying"]/\MethAt K C "have_write" "Hall.have_write" cB ["self","own","other","place"]/\MethAt K C "known_settled" "Hall.known_settled" bW ["self","own"]/\MethAt K C "be_stopped" "Hall.be_stopped" cD ["self","own"]/\MethAt K C "come_up" "Hall.come_up" dE ["self","own"]
noncomputable def Cy (K:Frag) (mg:Str->Option Value):Prop:=∃ N:Addr,TxN K mg "NoScribe" N
theorem zt {K:Frag}{h:Heap}{mg:Str->Option Value}{N:Addr} (X:K.In h) (G:h.Ns mainGlobals mg) (a:PySem.W.nsIn K mainGlobals "NoScribe" = some (some (.ref N))) (e:PySem.W.excIn K N zY "ValueError.__new__" = true):Cy K mg:=⟨N,PySem.W.mg_of X G a,e⟩
section
variable {P:Program}{w:World}{K:Frag}{mg:Str->Option Value}{base:Heap}
theorem CK (NB:NBs mg) (HS:Cw K mg) (HL:Cz K mg) (HH:CA K mg) (HN:Cy K mg) (D_is_most:DefAt K mg "is_most" fH ["count","many"]) (D_next_number:DefAt K mg "next_number" cT ["count","scribe","seen"]) (D_free_place:DefAt K mg "free_place" dD ["said"]) (D_best_of:DefAt K mg "best_of" fI ["rows"]) (D_done:DefAt K mg "done" kI ["hall","deed"]) (D_answer_to:DefAt K mg "answer_to" d7 ["hall","deed"]) (D_hall_after:DefAt K mg "hall_after" dC ["count","deeds"]) (D_answers:DefAt K mg "answers" fJ ["count","deeds"]) (D_writings_after:DefAt K mg "writings_after" ce ["count","deeds"]) :
  L2.Own P w K mg base "answers" 7 ["count","deeds"] ja/\L2.Own P w K mg base "writings_after" 8 ["count","deeds"] gW/\L2.Own P w K mg base "is_most" 1 ["count","many"] kH:=by
 obtain ⟨cS,CTS,TS,M_Scribe_promise,M_Scribe_put,M_Scribe_rise,M_Scribe_see⟩:=HS;obtain ⟨cL,CTL,TL,M_Lead_hear,M_Lead_begin_saying,M_Lead_say,M_Lead_take_hand,M_Lead_settled_pairs⟩:=HL;obtain ⟨cH,CTH,TH,M_Hall_check,M_Hall_rise,M_Hall_ask,M_Hall_fall,M_Hall_say,M_Hall_have_write,M_Hall_known_settled,M_Hall_be_stopped,M_Hall_come_up⟩:=HH;obtain ⟨N,XN⟩:=HN
 let c:Cs:=⟨cH,cS,cL⟩
 have TS:TxS K c.s:=TS;have TL:TxL K c.l:=TL;have TH:TxH K c.h:=TH;have O_is_most:=qP (P:=P) (w:=w) (mg:=mg) (base:=base)  D_is_most;have O_next_number:=jR (P:=P) (w:=w) (mg:=mg) (base:=base)  D_next_number;have O_free_place:=me (P:=P) (w:=w) (mg:=mg) (base:=base)  D_free_place;have O_best_of:=qQ (P:=P) (w:=w) (mg:=mg) (base:=base)  D_best_of;have O_Scribe:=sv (P:=P) (w:=w) (mg:=mg) (base:=base) (C:=c.s) TS CTS;have O_Scribe_promise:=h_ (P:=P) (w:=w) (mg:=mg) (base:=base) (C:=c.s) TS M_Scribe_promise;have O_Scribe_put:=mh (P:=P) (w:=w) (mg:=mg) (base:=base) (C:=c.s) TS O_Scribe_promise M_Scribe_put;have O_Scribe_rise:=jS (P:=P) (w:=w) (mg:=mg) (base:=base) (C:=c.s) TS O_next_number M_Scribe_rise;have O_Scribe_see:=mf (P:=P) (w:=w) (mg:=mg) (base:=base) (C:=c.s) NB TS M_Scribe_see;have O_Lead:=xt (P:=P) (w:=w) (mg:=mg) (base:=base) (c:=c) TL CTL;have O_Lead_begin_saying:=ga (P:=P) (w:=w) (mg:=mg) (base:=base) (c:=c) NB TL O_best_of M_Lead_begin_saying;have O_Lead_hear:=mG (P:=P) (w:=w) (mg:=mg) (base:=base) (c:=c) NB TL O_is_most O_Lead_begin_saying M_Lead_hear;have O_Lead_say:=pb (P:=P) (w:=w) (mg:=mg) (base:=base) (c:=c) TL O_free_place M_Lead_say;have O_Lead_take_hand:=ie (P:=P) (w:=w) (mg:=mg) (base:=base) (c:=c) TL M_Lead_take_hand;have O_Lead_settled_pairs:=fW (P:=P) (w:=w) (mg:=mg) (base:=base) (c:=c) NB TL O_is_most M_Lead_settled_pairs;have O_Hall_check:=mi (P:=P) (w:=w) (mg:=mg) (base:=base) (c:=c) TH XN M_Hall_check;have O_Hall_fall:=mI (P:=P) (w:=w) (mg:=mg) (base:=base) (c:=c) TH TS O_Scribe_see M_Hall_fall;have O_Hall_rise:=mH (P:=P) (w:=w) (mg:=mg) (base:=base) (c:=c) TH TS O_Hall_check O_Scribe_rise O_Lead M_Hall_rise;have O_Hall_ask:=pd (P:=P) (w:=w) (mg:=mg) (base:=base) (c:=c) TH TS TL O_Hall_check O_Scribe_promise O_Hall_fall O_Lead_hear M_Hall_ask;have O_Hall_say:=pc (P:=P) (w:=w) (mg:=mg) (base:=base) (c:=c) TH TL O_Hall_check O_Lead_say M_Hall_say;have O_Hall_be_stopped:=gG (P:=P) (w:=w) (mg:=mg) (base:=base) (c:=c) TH O_Hall_check M_Hall_be_stopped;have O_Hall_come_up:=jp (P:=P) (w:=w) (mg:=mg) (base:=base) (c:=c) TH O_Hall_check M_Hall_come_up;have O_Hall_have_write:=gF (P:=P) (w:=w) (mg:=mg) (base:=base) (c:=c) TH TS TL O_Hall_check O_Scribe_put O_Hall_fall O_Lead_take_hand M_Hall_have_write;have O_Hall_known_settled:=fX (P:=P) (w:=w) (mg:=mg) (base:=base) (c:=c) TH TL O_Hall_check O_Lead_settled_pairs M_Hall_known_settled;have O_done:=xr (P:=P) (w:=w) (mg:=mg) (base:=base) (c:=c) TH O_Hall_rise O_Hall_ask O_Hall_say O_Hall_have_write O_Hall_known_settled O_Hall_be_stopped O_Hall_come_up D_done;have O_answer_to:=mF (P:=P) (w:=w) (mg:=mg) (base:=base) (c:=c) XN O_done D_answer_to;have O_Hall:=xu (P:=P) (w:=w) (mg:=mg) (base:=base) (c:=c) NB TH O_Scribe CTH;have O_hall_after:=ma (P:=P) (w:=w) (mg:=mg) (base:=base) (c:=c) O_Hall O_answer_to D_hall_after;have O_answers:=qR (P:=P) (w:=w) (mg:=mg) (base:=base) (c:=c) O_Hall O_answer_to D_answers;have O_writings_after:=h9 (P:=P) (w:=w) (mg:=mg) (base:=base) (c:=c) TH O_hall_after D_writings_after;exact ⟨O_answers,O_writings_after,O_is_most⟩
end
end K07
open PySem PySem.W PyProof.Rows L2 Hl
set_option maxRecDepth 100000 in
set_option maxHeartbeats 0 in
theorem PySem.Challenge.cw_scriberow_k07_whole_settled_at_last_holds : PySem.Challenge.rw_scriberow_k07_whole_settled_at_last.Holds := by
 w_on; o_law
 refine holds_open (r:=PySem.Challenge.rw_scriberow_k07_whole_settled_at_last.row) (q:=K07.q) (loose:=[]) (Xt:=fun s=>xlAt K07.q [] s&&recOk [] s) (XP:=XL K07.q []) (Yf:=Hook.obs (kHook K07.Kf K07.Ka K07.Ke)) (Ya:=Hook.val (kHook K07.Kf K07.Ka K07.Ke)) (YP:=Hook.says (kHook K07.Kf K07.Ka K07.Ke)) (d:=K07.dlaw) (kwd:=[]) (N:=K07.D_) K07.left (Hook.of (kHook K07.Kf K07.Ka K07.Ke)) (Hook.keeps (kHook K07.Kf K07.Ka K07.Ke)) (fun s e=>xl_of s (Bool.and_eq_true_iff.mp e).1) XL.keeps K07.hdef K07.hp K07.hk (fun s e=>recFacts_of (Bool.and_eq_true_iff.mp e).2) (by kernel_rfl) (by assumption) K07.ok ⟨by kernel_rfl,by kernel_rfl,by kernel_rfl,by kernel_rfl,by kernel_rfl,by decide +kernel⟩ ?hw ?hc
 case hw=>w_witness2
 k_fill
 refine L2.CC (l:=PySem.Challenge.rw_scriberow_k07_whole_settled_at_last) (k:=10) (st:=K07.im) rfl rfl ⟨rfl,by decide,by decide⟩ rfl (fun w h Y=>PySem.W.kIn_of Y) ?F
 case F =>
  intro w mg h KX G;have NB:K07.NBs mg:=⟨mg_none_of (n:="len") KX G (by k_is),mg_none_of (n:="min") KX G (by k_is),mg_none_of (n:="max") KX G (by k_is),mg_none_of (n:="range") KX G (by k_is),mg_none_of (n:="int") KX G (by k_is),mg_none_of (n:="bool") KX G (by k_is),mg_none_of (n:="str") KX G (by k_is),mg_none_of (n:="list") KX G (by k_is),mg_none_of (n:="dict") KX G (by k_is),mg_none_of (n:="tuple") KX G (by k_is),mg_none_of (n:="set") KX G (by k_is),mg_none_of (n:="sorted") KX G (by k_is),mg_none_of (n:="isinstance") KX G (by k_is),mg_none_of (n:="enumerate") KX G (by k_is)⟩;have HS:K07.Cw (_) mg:=⟨_,jj KX G,
   ⟨⟨by k_is,by k_is,by k_is,by k_is⟩,K07.eE (by k_is),K07.eE (by k_is),K07.eE (by k_is),K07.eE (by k_is),K07.eE (by k_is)⟩,
   ba,
   ba,
   ba,
   ba⟩
  have HL:K07.Cz (_) mg:=⟨_,jj KX G,
   ⟨⟨by k_is,by k_is,by k_is,by k_is⟩,K07.eE (by k_is),K07.eE (by k_is),K07.eE (by k_is),K07.eE (by k_is),K07.eE (by k_is),K07.eE (by k_is)⟩,
   ba,
   ba,
   ba,
   ba,
   ba⟩
  have HH:K07.CA (_) mg:=⟨_,jj KX G,
   ⟨⟨by k_is,by k_is,by k_is,by k_is⟩,K07.eE (by k_is),K07.eE (by k_is),K07.eE (by k_is),K07.eE (by k_is),K07.eE (by k_is)⟩,
   ba,
   ba,
   ba,
   ba,
   ba,
   ba,
   ba,
   ba,
   ba⟩
  have HN:=K07.zt KX G (by k_is) (by k_exc);have D_is_most:=a8 (x:="is_most") (st:=K07.fH) (ps:=["count","many"]) KX G;have D_next_number:=a8 (x:="next_number") (st:=K07.cT) (ps:=["count","scribe","seen"]) KX G;have D_best_of:=a8 (x:="best_of") (st:=K07.fI) (ps:=["rows"]) KX G;have D_free_place:=a8 (x:="free_place") (st:=K07.dD) (ps:=["said"]) KX G;have D_settlings:=a8 (x:="settlings") (st:=K07.fj) (ps:=["count","writings"]) KX G;have D_settled_in:=a8 (x:="settled_in") (st:=K07.eI) (ps:=["count","writings"]) KX G;have D_done:=a8 (x:="done") (st:=K07.kI) (ps:=["hall","deed"]) KX G;have D_answer_to:=a8 (x:="answer_to") (st:=K07.d7) (ps:=["hall","deed"]) KX G;have D_hall_after:=a8 (x:="hall_after") (st:=K07.dC) (ps:=["count","deeds"]) KX G;have D_answers:=a8 (x:="answers") (st:=K07.fJ) (ps:=["count","deeds"]) KX G;have D_writings_after:=a8 (x:="writings_after") (st:=K07.ce) (ps:=["count","deeds"]) KX G;have D_settled_after:=a8 (x:="settled_after") (st:=K07.cV) (ps:=["count","deeds"]) KX G;have D_so:=a8 (x:="_law_so") (st:=K07.yt) (ps:=["_law_found","_law_meant"]) KX G;have D_whole:=a8 (x:="_law_whole") (st:=K07.j6) (ps:=["_law_found"]) KX G;have D_at:=a8 (x:="_law_at") (st:=K07.yu) (ps:=["_law_script","_law_k"]) KX G;have D_word:=a8 (x:="_law_word") (st:=K07.og) (ps:=["_law_k"]) KX G;have D_round:=a8 (x:="_law_round") (st:=K07.j7) (ps:=["_law_cell","_law_k","_law_count"]) KX G;have D_single:=a8 (x:="_law_single") (st:=K07.iE) (ps:=["_law_cell","_law_k","_law_count"]) KX G;have D_woven:=a8 (x:="_law_woven") (st:=K07.j4) (ps:=["_law_one","_law_other","_law_cell"]) KX G;have D_drawn:=a8 (x:="_law_drawn") (st:=K07.j8) (ps:=["_law_cells","_law_way","_law_count"]) KX G;have D_to_the_end:=a8 (x:="_law_to_the_end") (st:=K07.eG) (ps:=["_law_count","_law_own","_law_places"]) KX G;have D_are_pairs:=a8 (x:="_law_are_pairs") (st:=K07.fk) (ps:=["_law_found"]) KX G;have D_law:=a8 (x:="law") (st:=K07.im) (ps:=["_law_script"]) KX G;refine ⟨D_law,fun base f fd F=>?_⟩;have ST:=K07.CK (P:=PySem.Challenge.pw_scriberow_k07_whole_settled_at_last) (w:=w) (base:=base) NB HS HL HH HN D_is_most D_next_number D_free_place D_best_of D_done D_answer_to D_hall_after D_answers D_writings_after;obtain ⟨O_answers,O_writings_after,O_is_most⟩:=ST;exact K07.Bu NB (K07.Bj NB D_at) (K07.u0 NB (K07.ss (K07.qw D_word) D_single) (K07.uZ NB (K07.qw D_word) D_round) (K07.uY NB D_woven) D_drawn) O_answers (K07.iW (K07.l_ NB (K07.mD NB O_is_most D_settlings) D_settled_in) O_writings_after D_settled_after) (K07.l8 NB D_to_the_end) (K07.mE NB (K07.ny NB D_whole) D_are_pairs) (K07.ny NB D_whole) (K07.wz NB D_so 3) F

