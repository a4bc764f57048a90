import PyProof.Rows.All
import Wide.All
import OpenK.AllK
import Wide.FinOn
import Lean
import PyProof.EqAt
import PyProof.EqKinds
import PyProof.TupleCall
import PySem.Challenge.RW_scriberow_k13_writings_on_lines
set_option Elab.async false
set_option linter.all false
set_option maxRecDepth 100000
set_option maxHeartbeats 8000000
namespace L2
open PySem PySem.Spec PyProof.Rows
abbrev Key:=Sum Int Str
def keyIs:Key → Value → Bool
 | .inl k,v=>Value.isInt k v
 | .inr x,v=>Value.isStrOf x v
def keyH (w:World):Key → Int
 | .inl k=>hashInt k
 | .inr x=>hashStr w x
theorem keyIs_shape:∀ {k:Key} {v:Value},keyIs k v = true → (∃ i t,k = Sum.inl i ∧ v = Value.int i t) ∨ (∃ x t,k = Sum.inr x ∧ v = Value.str x t)
 | .inl i,v,h=>by
  obtain ⟨t,e⟩:=Value.isInt_shape (k:=i) (v:=v) h
  exact .inl ⟨i,t,rfl,e⟩
 | .inr x,v,h=>by
  obtain ⟨t,e⟩:=Value.isStrOf_shape (x:=x) (v:=v) h
  exact .inr ⟨x,t,rfl,e⟩
theorem keyIs_int (i:Int) (t:Tok):keyIs (.inl i) (.int i t) = true:=by simp [keyIs,Value.isInt]
theorem keyIs_str (x:Str) (t:Tok):keyIs (.inr x) (.str x t) = true:=by simp [keyIs,Value.isStrOf]
theorem key_ll (a b:Int):decide ((Sum.inl a:Key) = Sum.inl b) = (a == b):=by
 by_cases e:a = b
 ·subst e; simp
 ·have h:¬ (Sum.inl a:Key) = Sum.inl b:=fun q=>e (Sum.inl.inj q)
  rw [decide_eq_false h]
  exact (beq_eq_false_iff_ne.mpr e).symm
theorem key_rr (a b:Str):decide ((Sum.inr a:Key) = Sum.inr b) = decide (a = b):=by
 by_cases e:a = b
 ·subst e; simp
 ·have h:¬ (Sum.inr a:Key) = Sum.inr b:=fun q=>e (Sum.inr.inj q)
  rw [decide_eq_false h,decide_eq_false e]
theorem key_lr (a:Int) (b:Str):decide ((Sum.inl a:Key) = Sum.inr b) = false:=decide_eq_false (fun q=>nomatch q)
theorem key_rl (a:Str) (b:Int):decide ((Sum.inr a:Key) = Sum.inl b) = false:=decide_eq_false (fun q=>nomatch q)
def mixKind (prog:Program) (w:World):PySem.KeyKind prog w Key where
 is:=keyIs
 hash:=keyH w
 inj:=fun v a b ha hb=>by
  rcases keyIs_shape ha with ⟨i,t,rfl,rfl⟩ | ⟨x,t,rfl,rfl⟩
  ·rcases keyIs_shape hb with ⟨j,u,rfl,e⟩ | ⟨y,u,rfl,e⟩
   ·injection e with e1 _; rw [e1]
   ·exact nomatch e
  ·rcases keyIs_shape hb with ⟨j,u,rfl,e⟩ | ⟨y,u,rfl,e⟩
   ·exact nomatch e
   ·injection e with e1 _; rw [e1]
 byValue:=fun k v h=>by
  rcases keyIs_shape h with ⟨i,t,rfl,rfl⟩ | ⟨x,t,rfl,rfl⟩ <;> rfl
 pyHash:=fun hv h=>by
  rcases keyIs_shape hv with ⟨i,t,rfl,rfl⟩ | ⟨x,t,rfl,rfl⟩
  ·exact wpAny_pyHash_int h
  ·exact wpAny_pyHash_str h
 eqBool:=fun hu hv h=>by
  rcases keyIs_shape hu with ⟨i,t,rfl,rfl⟩ | ⟨x,t,rfl,rfl⟩
  ·rcases keyIs_shape hv with ⟨j,u,rfl,rfl⟩ | ⟨y,u,rfl,rfl⟩
   ·rw [key_ll] at h; exact wpAny_eqBool_int h
   ·rw [key_lr] at h; exact SeqAt.EqAt.int_str i t y u _ _ _ _ h
  ·rcases keyIs_shape hv with ⟨j,u,rfl,rfl⟩ | ⟨y,u,rfl,rfl⟩
   ·rw [key_rl] at h; exact SeqAt.EqAt.str_int x t j u _ _ _ _ h
   ·rw [key_rr] at h; exact wpAny_eqBool_str h
 «strs»:=fun k x t v h=>by
  rcases keyIs_shape h with ⟨i,u,rfl,e⟩ | ⟨y,u,rfl,e⟩
  ·exact nomatch e
  ·injection e with e1 _
   subst e1
   cases v <;> rfl
theorem mixKind_int (prog:Program) (w:World) (i:Int) (t:Tok):(mixKind prog w).is (.inl i) (.int i t) = true:=keyIs_int i t
theorem mixKind_str (prog:Program) (w:World) (x:Str) (t:Tok):(mixKind prog w).is (.inr x) (.str x t) = true:=keyIs_str x t
end L2
namespace L2
open PySem PySem.Spec PyProof.Rows
inductive V where
 | non | bl (b:Bool) | int (i:Int) | str (x:Str) | byt (b:Array UInt8) | flt (b:UInt64) | ref (a:Addr) | ty (n:String)
 deriving DecidableEq
def RelV:V → Value → Prop
 | .non,u=>u = Value.none
 | .bl b,u=>u = Value.bool b
 | .int i,u=>∃ t,u = Value.int i t
 | .str x,u=>∃ t,u = Value.str x t
 | .byt b,u=>∃ t,u = Value.bytes b t
 | .flt b,u=>∃ t,u = Value.float b t
 | .ref a,u=>u = Value.ref a
 | .ty n,u=>u = Value.type n
abbrev Vals:List V → List Value → Prop:=Paired RelV
theorem Vals.length {xs:List V} {us:List Value} (r:Vals xs us):xs.length = us.length:=Paired.length r
theorem Vals.get:∀ {xs:List V} {us:List Value} {i:Nat} {x:V},Vals xs us → xs[i]? = some x → ∃ u,us[i]? = some u ∧ RelV x u
 | _,_,_,_,.nil,e=>by simp at e
 | _,_,0,_,.cons r _,e=>by simp at e; subst e; exact ⟨_,rfl,r⟩
 | _,_,i + 1,x,.cons _ t,e=>by
  obtain ⟨u,h1,h2⟩:=Vals.get (i:=i) (x:=x) t (by simpa using e)
  exact ⟨u,by simpa using h1,h2⟩
theorem Vals.append:∀ {xs ys:List V} {us ws:List Value},Vals xs us → Vals ys ws → Vals (xs ++ ys) (us ++ ws)
 | _,_,_,_,.nil,s=>s
 | _,_,_,_,.cons r t,s=>.cons r (Vals.append t s)
theorem Vals.take:∀ {xs:List V} {us:List Value} (n:Nat),Vals xs us → Vals (xs.take n) (us.take n)
 | _,_,0,_=>.nil
 | _,_,_ + 1,.nil=>.nil
 | _,_,n + 1,.cons r t=>.cons r (Vals.take n t)
theorem Vals.drop:∀ {xs:List V} {us:List Value} (n:Nat),Vals xs us → Vals (xs.drop n) (us.drop n)
 | _,_,0,r=>r
 | _,_,_ + 1,.nil=>.nil
 | _,_,n + 1,.cons _ t=>Vals.drop n t
def RelO:Option V → Option Value → Prop
 | some v,some u=>RelV v u
 | none,none=>True
 | _,_=>False
def KV {κ:Type}:List (κ × V) → List (κ × Value) → Prop:=Paired fun (p:κ × V) (q:κ × Value)=>p.1 = q.1 ∧ RelV p.2 q.2
def kV:Key → V
 | .inl i=>.int i
 | .inr x=>.str x
inductive HO where
 /-- a list -/
 | lst (xs:List V)
 /-- a tuple (never changes) -/
 | tup (xs:List V)
 /-- a dict whose keys are ints and texts; one whose keys are tuples of ints and texts (the empty one is both) -/
 | dK (kvs:List (Key × V)) | dT (kvs:List (List Key × V))
 /-- a set of ints: its members,its size -/
 | set (S:Int → Bool) (n:Nat)
 /-- an instance of the class at C,its dict at dx,its attributes -/
 | ins (C dx:Addr) (fs:List (Str × V))
 /-- the dict of the instance at x -/
 | own (x:Addr)
 /-- the dict of an exception -/
 | xd (fs:List (Str × V))
 /-- a bound method,f of x -/
 | met (f x:Addr)
 /-- a range object lo,lo + 1,.. below hi -/
 | rng (lo hi:Int)
 /-- a thing that is known to the object (the script; a dict while a loop walks it): read,never written while it is so -/
 | frz (o:Obj) (u:HO)
 /-- a code object's table -/
 | tbl (ps:Array Value)
 /-- any other thing,by what is true of its one object (a def of one's own: SetO a S n:=HO.ext fun h=>..) -/
 | ext (φ:Heap → Prop)
abbrev Hp:=Addr → Option HO
def upd (H:Hp) (a:Addr) (o:HO):Hp:=fun b=>if b = a then some o else H b
theorem upd_same {H:Hp} {a:Addr} {o:HO}:upd H a o a = some o:=by unfold upd; rw [if_pos rfl]
theorem upd_ne {H:Hp} {a b:Addr} {o:HO} (h:b ≠ a):upd H a o b = H b:=by unfold upd; rw [if_neg h]
theorem ne_of_none {H:Hp} {a b:Addr} {o:HO} (h:H a = some o) (h':H b = none):a ≠ b:=by
 intro e; subst e; rw [h] at h'; cases h'
section
variable (P:Program) (w:World)
def ObjOk (H:Hp) (h:Heap) (a:Addr):HO → Prop
 | .lst xs=>xs.length ≤ sizeLine ∧ ∃ (its:List Value) (n:Nat),Vals xs its ∧ h.get? a = some { cls:=.type "list",data:=.seq its.toArray n }
 | .tup xs=>xs.length ≤ sizeLine ∧ ∃ its:List Value,Vals xs its ∧ IsTup h a its.toArray
 | .dK kvs=>kvs.length ≤ sizeLine ∧ (a == sysModules) = false ∧ ∃ vs,KV kvs vs ∧ h.DictOf (mixKind P w) a vs
 | .dT kvs=>kvs.length ≤ sizeLine ∧ (a == sysModules) = false ∧ ∃ xs:List (List Key × Addr × Value),
   Paired (fun (p:List Key × V) (q:List Key × Addr × Value)=>p.1 = q.1 ∧ H q.2.1 = some (.tup (p.1.map kV)) ∧ RelV p.2 q.2.2) kvs xs ∧
   ∃ o es ep,h.get? a = some o ∧ o.ExactDict ∧ o.data = .dict es ep ∧ es.toList = xs.map (entryOfKey (tupleKind (mixKind P w))) ∧ (xs.map (·.1)).Nodup
 | .set S n=>h.SetOf (intKind P w) a S n
 | .ins C dx fs=>H dx = some (.own a) ∧ fs.length ≤ 1000 ∧ dx ≠ a ∧ h.get? a = some (PySem.W.instObj C dx) ∧
   ∃ mA,h.Ns1 dx mA ∧ (∀ f,RelO (fs.lookup f) (mA f)) ∧ PySem.Within mA (fs.map (·.1))
 | .own _=>∃ o,h.get? a = some o
 | .xd fs=>∃ mA,h.Ns1 a mA ∧ ∀ f,RelO (fs.lookup f) (mA f)
 | .rng lo hi=>∃ t u v,h.get? a = some { cls:=.type "range",data:=.fields #[.int lo t,.int hi u,.int 1 v] }
 | .frz o u=>h.get? a = some o ∧ ObjOk H h a u
 | .tbl ps=>h.get? a = some { cls:=.none,data:=.fields ps }
 | .met f x=>h.get? a = some (PySem.W.methodObj (.ref f) (.ref x))
 | .ext φ=>φ h ∧ (∃ o,h.get? a = some o) ∧ ∀ h1 h2:Heap,φ h1 → (∀ o,h1.get? a = some o → h2.get? a = some o) → φ h2
def HOk (H:Hp) (h:Heap):Prop:=∀ a o,H a = some o → ObjOk P w H h a o
end
section
variable {P:Program} {w:World} {H H':Hp} {h h':Heap} {a:Addr} {o:HO}
theorem ObjOk.lt (x:ObjOk P w H h a o):a < h.objs.size:=by
 cases o with
 | lst xs=>obtain ⟨_,_,_,_,e⟩:=x; exact Heap.lt_size e
 | tup xs=>obtain ⟨_,_,_,p⟩:=x; exact p.lt
 | dK kvs=>obtain ⟨_,_,_,_,o,_,_,e,_⟩:=x; exact Heap.lt_size e
 | dT kvs=>obtain ⟨_,_,_,_,o,_,_,e,_⟩:=x; exact Heap.lt_size e
 | set S n=>obtain ⟨o,_,_,_,e,_⟩:=x; exact Heap.lt_size e
 | ins C dx fs=>obtain ⟨_,_,_,e,_⟩:=x; exact Heap.lt_size e
 | own y=>obtain ⟨_,e⟩:=x; exact Heap.lt_size e
 | xd fs=>obtain ⟨_,⟨_,_,_,e,_⟩,_⟩:=x; exact Heap.lt_size e
 | rng lo hi=>obtain ⟨_,_,_,e⟩:=x; exact Heap.lt_size e
 | frz ob u=>obtain ⟨e,_⟩:=x; exact Heap.lt_size e
 | tbl ps=>exact Heap.lt_size (show h.get? a = some _ from x)
 | met f y=>exact Heap.lt_size (show h.get? a = some _ from x)
 | ext φ=>obtain ⟨_,⟨_,e⟩,_⟩:=x; exact Heap.lt_size e
theorem Paired.mapP {α β:Type} {F G:α → β → Prop}:∀ {l₁:List α} {l₂:List β},Paired F l₁ l₂ → (∀ a b,F a b → G a b) → Paired G l₁ l₂
 | _,_,.nil,_=>.nil
 | _,_,.cons r t,f=>.cons (f _ _ r) (Paired.mapP t f)
theorem ObjOk.stay (x:ObjOk P w H h a o) (k:∀ b u,(b = a ∨ H b = some (.own a)) → h.get? b = some u → h'.get? b = some u)
  (ho:∀ b,H b = some (.own a) → H' b = some (.own a)) (ht:∀ b xs,H b = some (.tup xs) → H' b = some (.tup xs)):ObjOk P w H' h' a o:=by
 induction o with
 | lst xs=>obtain ⟨z,its,n,r,e⟩:=x; exact ⟨z,its,n,r,k _ _ (.inl rfl) e⟩
 | tup xs=>obtain ⟨z,its,r,ob,e,c⟩:=x; exact ⟨z,its,r,ob,k _ _ (.inl rfl) e,c⟩
 | dK kvs=>obtain ⟨z,y,vs,r,ob,es,ep,e,c⟩:=x; exact ⟨z,y,vs,r,ob,es,ep,k _ _ (.inl rfl) e,c⟩
 | dT kvs =>
  obtain ⟨z,y,xs,r,ob,es,ep,e,c⟩:=x
  exact ⟨z,y,xs,Paired.mapP r fun p q z=>⟨z.1,ht _ _ z.2.1,z.2.2⟩,ob,es,ep,k _ _ (.inl rfl) e,c⟩
 | set S n=>obtain ⟨ob,es,ep,t,e,c⟩:=x; exact ⟨ob,es,ep,t,k _ _ (.inl rfl) e,c⟩
 | ins C dx fs =>
  obtain ⟨d,z,ne,e,mA,⟨od,es,ep,e2,c⟩,r⟩:=x
  exact ⟨ho _ d,z,ne,k _ _ (.inl rfl) e,mA,⟨od,es,ep,k _ _ (.inr d) e2,c⟩,r⟩
 | own y=>obtain ⟨ob,e⟩:=x; exact ⟨ob,k _ _ (.inl rfl) e⟩
 | xd fs=>obtain ⟨mA,⟨od,es,ep,e,c⟩,r⟩:=x; exact ⟨mA,⟨od,es,ep,k _ _ (.inl rfl) e,c⟩,r⟩
 | rng lo hi=>obtain ⟨t,u,v,e⟩:=x; exact ⟨t,u,v,k _ _ (.inl rfl) e⟩
 | frz ob u ih=>obtain ⟨e,q⟩:=x; exact ⟨k _ _ (.inl rfl) e,ih q⟩
 | tbl ps =>
  have e:h.get? a = some { cls:=.none,data:=.fields ps }:=x
  show h'.get? a = some { cls:=.none,data:=.fields ps }
  exact k a _ (.inl rfl) e
 | met f y =>
  have e:h.get? a = some (PySem.W.methodObj (.ref f) (.ref y)):=x
  show h'.get? a = some (PySem.W.methodObj (.ref f) (.ref y))
  exact k a _ (.inl rfl) e
 | ext φ=>obtain ⟨p,⟨o,e⟩,st⟩:=x; exact ⟨st _ _ p fun o q=>k _ _ (.inl rfl) q,⟨o,k _ _ (.inl rfl) e⟩,st⟩
theorem HOk.lt (x:HOk P w H h) (e:H a = some o):a < h.objs.size:=(x a o e).lt
theorem HOk.fresh (x:HOk P w H h) (e:h.objs.size ≤ a):H a = none:=by
 cases q:H a with
 | none=>rfl
 | some u=>exact absurd (Nat.lt_of_lt_of_le (x.lt q) e) (Nat.lt_irrefl _)
theorem HOk.kept (x:HOk P w H h) (k:∀ b u,h.get? b = some u → h'.get? b = some u):HOk P w H h':=fun a o e =>
 (x a o e).stay (fun b u _ q=>k b u q) (fun _ q=>q) fun _ _ q=>q
theorem HOk.laid (x:HOk P w H h) (k:∀ b u,h.get? b = some u → h'.get? b = some u) (hp:h.objs.size ≤ a) (new:ObjOk P w (upd H a o) h' a o):HOk P w (upd H a o) h':=fun b u e=>by
 have hn:=x.fresh hp
 by_cases hb:b = a
 ·subst hb; rw [upd_same] at e; cases e; exact new
 ·rw [upd_ne hb] at e
  exact (x b u e).stay (fun c v _ q=>k c v q) (fun c q=>by rw [upd_ne (ne_of_none q hn)]; exact q) fun c xs q=>by rw [upd_ne (ne_of_none q hn)]; exact q
end
def Rd (H:Hp) (a:Addr) (u:HO):Prop:=H a = some u ∨ ∃ o,H a = some (.frz o u)
theorem Rd.ok {P:Program} {w:World} {H:Hp} {h:Heap} {a:Addr} {u:HO} (r:Rd H a u) (x:HOk P w H h):ObjOk P w H h a u:=by
 rcases r with r | ⟨o,r⟩
 ·exact x a u r
 ·obtain ⟨_,q⟩:=x a _ r
  exact q
def Mut:Option HO → Prop
 | some (.lst _)=>True
 | some (.dK _)=>True
 | some (.dT _)=>True
 | some (.set _ _)=>True
 | some (.ins _ _ _)=>True
 | some (.ext _)=>True
 | _=>False
section
variable {P:Program} {w:World} {H:Hp} {h h':Heap} {x e:Addr} {o':HO}
theorem HOk.write (ok:HOk P w H h) (mu:Mut (H x)) (he:e = x ∨ H e = some (.own x)) (k:∀ b u,b ≠ e → h.get? b = some u → h'.get? b = some u) (heo:∃ u,h'.get? e = some u)
  (new:ObjOk P w (upd H x o') h' x o'):HOk P w (upd H x o') h':=fun b u q=>by
 have nown:∀ c y,H c = some (.own y) → c ≠ x:=fun c y r z=>by subst z; rw [r] at mu; exact mu
 have ntup:∀ c xs,H c = some (.tup xs) → c ≠ x:=fun c xs r z=>by subst z; rw [r] at mu; exact mu
 by_cases hb:b = x
 ·subst hb; rw [upd_same] at q; cases q; exact new
 ·rw [upd_ne hb] at q
  by_cases hbe:b = e
  ·have q':H b = some (.own x):=by
    rcases he with z | z
    ·exact absurd (hbe.trans z) hb
    ·rw [hbe]; exact z
   rw [q] at q'; cases q'
   obtain ⟨v,hv⟩:=heo
   exact ⟨v,by rw [hbe]; exact hv⟩
  ·refine (ok b u q).stay (fun c v hc r=>k c v ?_ r) (fun c r=>by rw [upd_ne (nown c b r)]; exact r) fun c xs r=>by rw [upd_ne (ntup c xs r)]; exact r
   rcases hc with rfl | hc
   ·exact hbe
   ·rintro rfl
    rcases he with z | z
    ·exact nown c b hc z
    ·rw [hc] at z; cases z; exact hb rfl
end
structure Un (fs ex:List Addr) (H H':Hp) (h h':Heap):Prop where
 keep:∀ b o,h.get? b = some o → H b = none → b ∉ fs → b ∉ ex → h'.get? b = some o
 slot:∀ b o,h.get? b = some o → H b = none → b ∈ fs → b ∉ ex → ∃ sl,h'.get? b = some { o with slots:=sl }
 free:∀ b o,h.get? b = some o → H b = none → b ∉ ex → H' b = none
 there:∀ b o,h.get? b = some o → b ∉ ex → ∃ o',h'.get? b = some o'
 tups:∀ b xs,H b = some (.tup xs) → H' b = some (.tup xs)
 frzs:∀ b o u,H b = some (.frz o u) → H' b = some (.frz o u)
 tbls:∀ b ps,H b = some (.tbl ps) → ∃ more,H' b = some (.tbl (ps ++ more))
section
variable {fs fs' ex ex':List Addr} {H H1 H2:Hp} {h h1 h2 h':Heap} {a x e:Addr} {o:HO}
theorem Un.any (u:Un fs ex H H1 h h1) {b:Addr} {ob:Obj} (q:h.get? b = some ob) (n:H b = none) (hx:b ∉ ex):∃ sl,h1.get? b = some { ob with slots:=sl }:=by
 by_cases hb:b ∈ fs
 ·exact u.slot b ob q n hb hx
 ·exact ⟨ob.slots,u.keep b ob q n hb hx⟩
theorem Un.kept (k:∀ b u,h.get? b = some u → h'.get? b = some u):Un fs ex H H h h' :=
 ⟨fun b ob q _ _ _=>k b ob q,fun b ob q _ _ _=>⟨ob.slots,k b ob q⟩,fun _ _ _ n _=>n,fun b ob q _=>⟨ob,k b ob q⟩,fun _ _ q=>q,fun _ _ _ q=>q,fun _ ps q=>⟨#[],by rw [q]; simp⟩⟩
theorem Un.refl:Un fs ex H H h h:=Un.kept fun _ _ q=>q
theorem Un.laid (k:∀ b u,h.get? b = some u → h'.get? b = some u) (hp:h.objs.size ≤ a) (hn:H a = none):Un fs ex H (upd H a o) h h' where
 keep:=fun b u q _ _ _=>k b u q
 slot:=fun b u q _ _ _=>⟨u.slots,k b u q⟩
 free:=fun b u q n _=>by rw [upd_ne (Nat.ne_of_lt (Nat.lt_of_lt_of_le (Heap.lt_size q) hp))]; exact n
 there:=fun b u q _=>⟨u,k b u q⟩
 tups:=fun b xs q=>by rw [upd_ne (ne_of_none q hn)]; exact q
 frzs:=fun b u xs q=>by rw [upd_ne (ne_of_none q hn)]; exact q
 tbls:=fun b ps q=>⟨#[],by rw [upd_ne (ne_of_none q hn),q]; simp⟩
theorem Un.write (mu:Mut (H x)) (he:e = x ∨ H e = some (.own x)) (k:∀ b u,b ≠ e → h.get? b = some u → h'.get? b = some u) (heo:∃ u,h'.get? e = some u):Un fs ex H (upd H x o) h h':=by
 have hx:∀ b,H b = none → b ≠ x:=fun b n z=>by subst z; rw [n] at mu; exact mu
 have hb:∀ b,H b = none → b ≠ e:=fun b n z=>by
  subst z
  rcases he with r | r
  ·exact hx b n r
  ·rw [n] at r; cases r
 have hm:∀ b u,H b = some u → ¬ Mut (some u) → b ≠ x:=fun b u q nm z=>by subst z; rw [q] at mu; exact nm mu
 refine ⟨fun b u q n _ _=>k b u (hb b n) q,fun b u q n _ _=>⟨u.slots,k b u (hb b n) q⟩,fun b u q n _=>by rw [upd_ne (hx b n)]; exact n,fun b u q _=>?_,
  fun b xs q=>by rw [upd_ne (hm b _ q fun z=>z)]; exact q,fun b u xs q=>by rw [upd_ne (hm b _ q fun z=>z)]; exact q,fun b ps q=>⟨#[],by rw [upd_ne (hm b _ q fun z=>z),q]; simp⟩⟩
 by_cases hbe:b = e
 ·subst hbe; exact heo
 ·exact ⟨u,k b u hbe q⟩
end
def trk (h:Heap) (H:Hp):List Addr:=(List.range h.objs.size).filter fun a=>(H a).isSome
def hidT (h:Heap) (H:Hp):Heap:=PySem.W.hideAll h (trk h H)
theorem hidT_size (h:Heap) (H:Hp):(hidT h H).objs.size = h.objs.size:=PySem.W.hideAll_size _ _
theorem hidT_get {h:Heap} {H:Hp} {b:Addr} {o:Obj} (e:h.get? b = some o) (n:H b = none):(hidT h H).get? b = some o :=
 PySem.W.hideAll_get _ e fun hm=>by
  have q:(H b).isSome = true:=(List.mem_filter.mp hm).2
  rw [n] at q; simp at q
theorem of_hidT {h:Heap} {H:Hp} {b:Addr} {o:Obj} (e:(hidT h H).get? b = some o):h.get? b = some o ∧ H b = none:=by
 have e':h.get? b = some o:=PySem.W.of_hideAll (trk h H) e
 refine ⟨e',?_⟩
 cases q:H b with
 | none=>rfl
 | some x =>
  have hm:b ∈ trk h H:=List.mem_filter.mpr ⟨List.mem_range.mpr (Heap.lt_size e'),by simp [q]⟩
  have z:(hidT h H).get? b = none:=PySem.W.hideAll_none (trk h H) hm
  rw [z] at e; cases e
end L2
namespace L2
open PySem PySem.Spec PyProof.Rows
structure Mod (K:PySem.W.Frag) (mg:Str → Option Value) (base:Heap):Prop where
 kin:K.In base
 glob:base.Ns mainGlobals mg
 blt:∃ mb,base.Ns builtinsNs mb ∧ ∀ x:Str,x ≠ "__name__" → mb x = bootBuiltins x
 nolimit:base.NoLimit
/-- the context: a def's body (or a comprehension's block) running. base: fixed through the whole law; s₀,H₀: the entry; outer: the frames whose slots others may change (a def's callers); stack: all frames that run; ex: iterators that were made ahead of the entry and are walked here (a comprehension's); fn: the names whose cells were made at the entry (a def: all; a comprehension's block: its own); calm: not within an except suite; pn: pins that every state bears; xe: what is wanted of an exception that leaves the code -/
structure Cx where
 prog:Program
 w:World
 K:PySem.W.Frag
 mg:Str → Option Value
 base:Heap
 A:Around
 N:List Str
 s₀:Shared
 H₀:Hp
 env:Env
 outer:List Env
 stack:List Env
 ex:List Addr
 fn:Str → Bool
 calm:Bool
 pn:List (Addr × Obj)
 xe:Value → Shared → Prop
def frs (l:List Env):List Addr:=l.filterMap (·.frame)
abbrev Cx.fs (X:Cx):List Addr:=frs X.outer
def Vis (sc:Scope) (x:Str):Prop:=sc.names.lookup x = some .local ∨ sc.names.lookup x = some .cell ∨ sc.names.lookup x = some .free
def Loc (sc:Scope) (x:Str):Prop:=sc.names.lookup x = some .local ∨ sc.names.lookup x = some .cell
def Look (env:Env) (h:Heap) (m:Str → Option Value) (x:Str) (u:Value):Prop :=
 (env.kindOf x = some .local ∧ m x = some u) ∨ ((env.kindOf x = some .cell ∨ env.kindOf x = some .free) ∧ ∃ c,env.cells.lookup x = some c ∧ h.IsCell c (some u))
structure Cx.Ok (X:Cx):Prop where
 mod:Mod X.K X.mg X.base
 kind:X.env.scope.kind = .function
 glob:X.env.globals = mainGlobals
 blt:X.env.builtins = builtinsNs
 above:X.s₀.heap.objs.size ≤ X.env.locals
 inj:∀ x y c,X.env.cells.lookup x = some c → X.env.cells.lookup y = some c → x = y
 has:∀ x,(X.env.kindOf x = some .cell ∨ X.env.kindOf x = some .free) → ∃ c,X.env.cells.lookup x = some c
 cab:∀ x c,X.fn x = true → X.env.cells.lookup x = some c → X.s₀.heap.objs.size ≤ c
 hd:X.calm = true → X.A.handled = none
 frames:X.A.frames = some X.stack
 stk:X.stack = X.outer ∨ (X.stack = X.env :: X.outer ∧ X.env.frame = some X.env.locals)
 exf:∀ b ∈ X.ex,b ≠ X.env.locals ∧ ∀ x c,X.env.cells.lookup x = some c → c ≠ b
 bs:∀ b o,X.base.get? b = some o → X.s₀.heap.get? b = some o ∧ X.H₀ b = none
 bsz:X.base.objs.size ≤ X.s₀.heap.objs.size
 noex:∀ b o,X.base.get? b = some o → b ∉ X.ex
 exfs:∀ b ∈ X.ex,b ∉ X.fs
 funs:X.s₀.heap.FunFrames X.base X.outer
 frf:∀ b ∈ X.fs,X.H₀ b = none
structure Inv (X:Cx) (pins:List (Addr × Obj)) (σ:List (Option V)) (H:Hp) (s:Shared):Prop where
 ok:X.Ok
 os:s.os = X.s₀.os
 bare:AllBare s.gens
 base:Un X.fs X.ex X.H₀ H X.s₀.heap s.heap
 loc:∃ m,s.heap.Ns X.env.locals m ∧ ∀ (i:Nat) (x:Str) (v:V),X.N[i]? = some x → σ[i]? = some (some v) → Vis X.env.scope x → ∃ u,RelV v u ∧ Look X.env s.heap m x u
 cell:∀ x c,X.env.cells.lookup x = some c → ∃ v,s.heap.IsCell c v
 free:H X.env.locals = none
 freeC:∀ x c,X.env.cells.lookup x = some c → H c = none
 pin:∀ p ∈ X.pn ++ pins,s.heap.get? p.1 = some p.2 ∧ H p.1 = none ∧ p.1 ≠ X.env.locals ∧ p.1 ∉ X.fs ∧ ∀ v,p.2.data ≠ .cell v
 hok:HOk X.prog X.w H s.heap
 len:σ.length = X.N.length
section
variable {X:Cx} {pins:List (Addr × Obj)} {σ:List (Option V)} {H H':Hp} {s:Shared} {h':Heap}
theorem Cx.Ok.nofr (ok:X.Ok) {b:Addr} {o:Obj} (e:X.base.get? b = some o):b ∉ X.fs:=fun hb=>by
 have:=(ok.funs.mem hb).1
 rw [e] at this; cases this
theorem Inv.bs (I:Inv X pins σ H s):∀ b o,X.base.get? b = some o → s.heap.get? b = some o ∧ H b = none:=fun b o e =>
 ⟨I.base.keep b o (I.ok.bs b o e).1 (I.ok.bs b o e).2 (I.ok.nofr e) (I.ok.noex b o e),I.base.free b o (I.ok.bs b o e).1 (I.ok.bs b o e).2 (I.ok.noex b o e)⟩
theorem Inv.bk (I:Inv X pins σ H s):∀ b o,X.base.get? b = some o → s.heap.get? b = some o:=fun b o e=>(I.bs b o e).1
theorem Inv.mod (I:Inv X pins σ H s):Mod X.K X.mg X.base:=I.ok.mod
theorem Inv.kIn (I:Inv X pins σ H s):X.K.In s.heap:=I.ok.mod.kin.keeps I.bk
theorem Inv.lt (I:Inv X pins σ H s):X.env.locals < s.heap.objs.size:=let ⟨_,hn,_⟩:=I.loc; hn.lt
theorem Inv.sz (I:Inv X pins σ H s):X.s₀.heap.objs.size ≤ s.heap.objs.size:=Nat.le_trans I.ok.above (Nat.le_of_lt I.lt)
theorem Inv.nofs (I:Inv X pins σ H s) {a:Addr} (h:s.heap.objs.size ≤ a):a ∉ X.fs:=fun hb=>by
 obtain ⟨_,o,ho,_⟩:=I.ok.funs.mem hb
 exact absurd (Nat.lt_of_lt_of_le (Heap.lt_size ho) (Nat.le_trans I.sz h)) (Nat.lt_irrefl _)
theorem Inv.cne (I:Inv X pins σ H s):∀ x c,X.env.cells.lookup x = some c → c ≠ X.env.locals:=fun x c e z=>by
 obtain ⟨v,o,ho,hd⟩:=I.cell x c e
 obtain ⟨m,⟨o',es,ep,ho',hd',_⟩,_⟩:=I.loc
 rw [z,ho'] at ho; cases ho; rw [hd'] at hd; cases hd
theorem Inv.funs (I:Inv X pins σ H s):s.heap.FunFrames X.base X.outer:=by
 have all:∀ (l:List Env),(∀ b ∈ frs l,b ∈ X.fs) → X.s₀.heap.FunFrames X.base l → s.heap.FunFrames X.base l:=by
  intro l
  induction l with
  | nil=>intro _ _; trivial
  | cons env r ih =>
   intro hs hl
   obtain ⟨hk,⟨L,o,hf,hn,ho,hd⟩,hr⟩:=hl
   have hL:L ∈ X.fs:=hs L (by unfold frs; rw [List.filterMap_cons,hf]; exact List.mem_cons_self)
   obtain ⟨sl,e⟩:=I.base.slot L o ho (I.ok.frf L hL) hL fun z=>I.ok.exfs L z hL
   exact ⟨hk,⟨L,_,hf,hn,e,hd⟩,ih (fun b hb=>hs b (by unfold frs; rw [List.filterMap_cons,hf]; exact List.mem_cons_of_mem _ hb)) hr⟩
 exact all X.outer (fun _ hb=>hb) I.ok.funs
theorem Inv.stack (I:Inv X pins σ H s):s.heap.FunFrames X.base X.stack:=by
 rcases I.ok.stk with e | ⟨e,hf⟩
 ·rw [e]; exact I.funs
 ·rw [e]
  obtain ⟨m,hn,_⟩:=I.loc
  refine .cons (by rw [I.ok.kind]; decide) hf hn ?_ I.funs
  exact Heap.get?_none_of_le (Nat.le_trans I.ok.bsz I.ok.above)
theorem Inv.stkSub (I:Inv X pins σ H s):∀ b ∈ frs X.stack,b ∈ X.env.locals :: X.fs:=fun b hb=>by
 rcases I.ok.stk with e | ⟨e,hf⟩
 ·rw [e] at hb; exact List.mem_cons_of_mem _ hb
 ·rw [e] at hb
  unfold frs at hb
  rw [List.filterMap_cons,hf] at hb
  exact hb
theorem Inv.stkFree (I:Inv X pins σ H s):∀ b ∈ frs X.stack,H b = none:=fun b hb=>by
 rcases List.mem_cons.mp (I.stkSub b hb) with e | hb
 ·rw [e]; exact I.free
 ·obtain ⟨_,o,ho,_⟩:=I.ok.funs.mem hb
  exact I.base.free b o ho (I.ok.frf b hb) fun z=>I.ok.exfs b z hb
theorem Inv.step {g':Array GenState} {t':Nat} {d':Drawn} {ch:List Addr} (I:Inv X pins σ H s)
  (hch:∀ b ∈ ch,(b ∈ X.ex ∨ X.s₀.heap.objs.size ≤ b) ∧ b ≠ X.env.locals ∧ (∀ x c,X.env.cells.lookup x = some c → c ≠ b) ∧ ∀ p ∈ X.pn ++ pins,p.1 ≠ b)
  (keep:∀ b o,b ≠ X.env.locals → b ∉ X.fs → b ∉ ch → s.heap.get? b = some o → H b = none → h'.get? b = some o)
  (slot:∀ b o,b ≠ X.env.locals → b ∈ X.fs → b ∉ ch → s.heap.get? b = some o → H b = none → ∃ sl,h'.get? b = some { o with slots:=sl }) (free:∀ b o,b ∉ ch → s.heap.get? b = some o → H b = none → H' b = none)
  (there:∀ b o,b ∉ ch → s.heap.get? b = some o → ∃ o',h'.get? b = some o')
  (tups:∀ b xs,H b = some (.tup xs) → H' b = some (.tup xs)) (frzs:∀ b o u,H b = some (.frz o u) → H' b = some (.frz o u)) (tbls:∀ b ps,H b = some (.tbl ps) → ∃ more,H' b = some (.tbl (ps ++ more)))
  (ns:∀ m,s.heap.Ns X.env.locals m → h'.Ns X.env.locals m) (hok:HOk X.prog X.w H' h') (hg:AllBare g') :
  Inv X pins σ H' { s with heap:=h',gens:=g',drawn:=d',toks:=t' }:=by
 have neL:∀ b o,X.s₀.heap.get? b = some o → b ≠ X.env.locals:=fun b o e=>Nat.ne_of_lt (Nat.lt_of_lt_of_le (Heap.lt_size e) I.ok.above)
 have neC:∀ b o,X.s₀.heap.get? b = some o → b ∉ X.ex → b ∉ ch:=fun b o e hx hb=>by
  rcases (hch b hb).1 with z | z
  ·exact hx z
  ·exact absurd (Nat.lt_of_lt_of_le (Heap.lt_size e) z) (Nat.lt_irrefl _)
 have cellK:∀ x c,X.env.cells.lookup x = some c → ∀ v,s.heap.IsCell c v → h'.IsCell c v:=fun x c e v ⟨o,ho,hd⟩=>by
  have nch:c ∉ ch:=fun z=>(hch c z).2.2.1 x c e rfl
  by_cases hc:c ∈ X.fs
  ·obtain ⟨sl,q⟩:=slot c o (I.cne x c e) hc nch ho (I.freeC x c e)
   exact ⟨_,q,hd⟩
  ·exact ⟨o,keep c o (I.cne x c e) hc nch ho (I.freeC x c e),hd⟩
 refine ⟨I.ok,I.os,hg,⟨fun b o e n hb hx=>?_,fun b o e n hb hx=>?_,fun b o e n hx=>?_,fun b o e hx=>?_,fun b xs e=>tups b xs (I.base.tups b xs e),fun b o xs e=>frzs b o xs (I.base.frzs b o xs e),fun b ps e=>?_⟩,?_,fun x c e=>?_,?_,fun x c e=>?_,fun p hp=>?_,hok,I.len⟩
 ·exact keep b o (neL b o e) hb (neC b o e hx) (I.base.keep b o e n hb hx) (I.base.free b o e n hx)
 ·obtain ⟨sl,e1⟩:=I.base.slot b o e n hb hx
  obtain ⟨sl',e2⟩:=slot b _ (neL b o e) hb (neC b o e hx) e1 (I.base.free b o e n hx)
  exact ⟨sl',e2⟩
 ·obtain ⟨o',e1⟩:=I.base.there b o e hx
  exact free b o' (neC b o e hx) e1 (I.base.free b o e n hx)
 ·obtain ⟨o',e1⟩:=I.base.there b o e hx
  exact there b o' (neC b o e hx) e1
 ·obtain ⟨m1,e1⟩:=I.base.tbls b ps e
  obtain ⟨m2,e2⟩:=tbls b _ e1
  exact ⟨m1 ++ m2,by rw [e2,Array.append_assoc]⟩
 ·obtain ⟨m,hn,hl⟩:=I.loc
  refine ⟨m,ns m hn,fun i x v e1 e2 e3=>?_⟩
  obtain ⟨u,r,l⟩:=hl i x v e1 e2 e3
  refine ⟨u,r,?_⟩
  rcases l with l | ⟨k,c,e,z⟩
  ·exact .inl l
  ·exact .inr ⟨k,c,e,cellK x c e _ z⟩
 ·obtain ⟨v,z⟩:=I.cell x c e
  exact ⟨v,cellK x c e v z⟩
 ·obtain ⟨m,⟨o,_,_,ho,_⟩,_⟩:=I.loc
  exact free _ o (fun z=>(hch _ z).2.1 rfl) ho I.free
 ·obtain ⟨v,o,ho,hd⟩:=I.cell x c e
  exact free c o (fun z=>(hch c z).2.2.1 x c e rfl) ho (I.freeC x c e)
 ·obtain ⟨e,n,ne,nf,d⟩:=I.pin p hp
  have nch:p.1 ∉ ch:=fun z=>(hch p.1 z).2.2.2 p hp rfl
  exact ⟨keep p.1 p.2 ne nf nch e n,free p.1 p.2 nch e n,ne,nf,d⟩
theorem Inv.un {t':Nat} (I:Inv X pins σ H s) (u:Un X.fs [] H H' s.heap h') (hok:HOk X.prog X.w H' h'):Inv X pins σ H' { s with heap:=h',toks:=t' }:=by
 obtain ⟨m,⟨o,es,ep,ho,r⟩,_⟩:=id I.loc
 obtain ⟨sl,hL⟩:=u.any ho I.free (by simp)
 exact I.step (g':=s.gens) (d':=s.drawn) (ch:=[]) (fun _ z=>nomatch z) (fun b o _ hb _ e n=>u.keep b o e n hb (by simp)) (fun b o _ hb _ e n=>u.slot b o e n hb (by simp)) (fun b o _ e n=>u.free b o e n (by simp)) (fun b o _ e=>u.there b o e (by simp)) u.tups u.frzs u.tbls (fun m' hm=>by
  obtain ⟨o',es',ep',ho',r'⟩:=hm
  rw [ho] at ho'; cases ho'
  exact ⟨_,es',ep',hL,r'⟩) hok I.bare
theorem Inv.call {g':Array GenState} {t':Nat} {d':Drawn} {ch:List Addr} (I:Inv X pins σ H s) (u:Un (frs X.stack) ch H H' s.heap h') (hok:HOk X.prog X.w H' h') (hg:AllBare g')
  (hch:∀ b ∈ ch,(b ∈ X.ex ∨ X.s₀.heap.objs.size ≤ b) ∧ b ≠ X.env.locals ∧ (∀ x c,X.env.cells.lookup x = some c → c ≠ b) ∧ ∀ p ∈ X.pn ++ pins,p.1 ≠ b) :
  Inv X pins σ H' { s with heap:=h',gens:=g',drawn:=d',toks:=t' }:=by
 obtain ⟨m,⟨o,es,ep,ho,r⟩,_⟩:=id I.loc
 obtain ⟨sl,hL⟩:=u.any ho I.free fun z=>(hch _ z).2.1 rfl
 exact I.step (ch:=ch) hch (fun b o hL hb hc e n=>u.keep b o e n (fun z=>(List.mem_cons.mp (I.stkSub b z)).elim hL hb) hc) (fun b o _ _ hc e n=>u.any e n hc) (fun b o hc e n=>u.free b o e n hc) (fun b o hc e=>u.there b o e hc) u.tups u.frzs u.tbls (fun m' hm=>by
  obtain ⟨o',es',ep',ho',r'⟩:=hm
  rw [ho] at ho'; cases ho'
  exact ⟨_,es',ep',hL,r'⟩) hok hg
theorem Inv.turned {t':Nat} {it:Addr} (I:Inv X pins σ H s) (k:∀ b o,b ≠ it → s.heap.get? b = some o → h'.get? b = some o) (hn:H it = none) (hL:it ≠ X.env.locals)
  (h1:it ∈ X.ex ∨ X.s₀.heap.objs.size ≤ it) (h2:∀ x c,X.env.cells.lookup x = some c → c ≠ it) (h3:∀ p ∈ X.pn ++ pins,p.1 ≠ it):Inv X pins σ H { s with heap:=h',toks:=t' }:=by
 have nit:∀ b u,H b = some u → b ≠ it:=fun b u e z=>by rw [z,hn] at e; cases e
 refine I.step (g':=s.gens) (d':=s.drawn) (ch:=[it]) (fun b hb=>?_) (fun b o _ _ hc e _=>k b o (fun z=>hc (by simp [z])) e) (fun b o _ _ hc e _=>⟨o.slots,k b o (fun z=>hc (by simp [z])) e⟩) (fun _ _ _ _ n=>n)
  (fun b o hc e=>⟨o,k b o (fun z=>hc (by simp [z])) e⟩) (fun _ _ e=>e) (fun _ _ _ e=>e) (fun b ps e=>⟨#[],by rw [e]; simp⟩) (fun m hm=>?_) (fun b u e=>?_) I.bare
 ·have e:b = it:=by simpa using hb
  subst e
  exact ⟨h1,hL,h2,h3⟩
 ·obtain ⟨o,es,ep,ho,r⟩:=hm
  exact ⟨o,es,ep,k _ o (Ne.symm hL) ho,r⟩
 ·refine (I.hok b u e).stay (fun c v hc q=>k c v ?_ q) (fun _ q=>q) fun _ _ q=>q
  rcases hc with z | z
  ·rw [z]; exact nit b u e
  ·exact nit c _ z
theorem Inv.tok (I:Inv X pins σ H s) (t:Nat):Inv X pins σ H { s with toks:=t }:=I.un (h':=s.heap) (t':=t) Un.refl I.hok
theorem Inv.kept {t':Nat} (I:Inv X pins σ H s) (k:∀ b u,s.heap.get? b = some u → h'.get? b = some u):Inv X pins σ H { s with heap:=h',toks:=t' }:=I.un (Un.kept k) (I.hok.kept k)
theorem Inv.laid {a:Addr} {o:HO} {t':Nat} (I:Inv X pins σ H s) (k:∀ b u,s.heap.get? b = some u → h'.get? b = some u) (hp:s.heap.objs.size ≤ a) (new:ObjOk X.prog X.w (upd H a o) h' a o) :
  Inv X pins σ (upd H a o) { s with heap:=h',toks:=t' }:=I.un (Un.laid k hp (I.hok.fresh hp)) (I.hok.laid k hp new)
theorem Inv.write {x e:Addr} {o:HO} {t':Nat} (I:Inv X pins σ H s) (mu:Mut (H x)) (he:e = x ∨ H e = some (.own x)) (k:∀ b u,b ≠ e → s.heap.get? b = some u → h'.get? b = some u) (heo:∃ u,h'.get? e = some u)
  (new:ObjOk X.prog X.w (upd H x o) h' x o):Inv X pins σ (upd H x o) { s with heap:=h',toks:=t' }:=I.un (Un.write mu he k heo) (I.hok.write mu he k heo new)
theorem Inv.weak {σ':List (Option V)} (I:Inv X pins σ H s) (hl:σ'.length = σ.length) (w:∀ (i:Nat) v,σ'[i]? = some (some v) → σ[i]? = some (some v)):Inv X pins σ' H s :=
 ⟨I.ok,I.os,I.bare,I.base,let ⟨m,hn,hl'⟩:=I.loc; ⟨m,hn,fun i x v e1 e2 e3=>hl' i x v e1 (w i v e2) e3⟩,I.cell,I.free,I.freeC,I.pin,I.hok,hl.trans I.len⟩
theorem Inv.pins_of {pins':List (Addr × Obj)} (I:Inv X pins σ H s) (h:∀ p ∈ pins',s.heap.get? p.1 = some p.2 ∧ H p.1 = none ∧ p.1 ≠ X.env.locals ∧ p.1 ∉ X.fs ∧ ∀ v,p.2.data ≠ .cell v):Inv X pins' σ H s :=
 ⟨I.ok,I.os,I.bare,I.base,I.loc,I.cell,I.free,I.freeC,fun p hp=>(List.mem_append.mp hp).elim (fun z=>I.pin p (List.mem_append_left _ z)) (h p),I.hok,I.len⟩
theorem nodup_ix {N:List Str} (hN:N.Nodup) {i j:Nat} {x:Str} (a:N[i]? = some x) (b:N[j]? = some x):i = j:=by
 obtain ⟨h1,e1⟩:=List.getElem?_eq_some_iff.mp a
 obtain ⟨h2,e2⟩:=List.getElem?_eq_some_iff.mp b
 exact (List.getElem_inj hN).mp (e1.trans e2.symm)
theorem store_ok2 {M:Model} {A:Around} {E:Value → Shared → Prop} {i:Nat} {x:Str} {v:V} {u:Value} {Q:Unit → Shared → Prop} (I:Inv X pins σ H s) (hN:X.N.Nodup) (hi:X.N[i]? = some x) (hx:Loc X.env.scope x) (r:RelV v u)
  (h:∀ s',Inv X pins (σ.set i (some v)) H s' → (∃ a,Heap.SameBut a s.heap s'.heap ∧ (a = X.env.locals ∨ X.env.cells.lookup x = some a)) → Q () s') (hf:X.fn x = true ∨ X.env.scope.names.lookup x = some .local:=by first | exact .inl rfl | exact .inr rfl | assumption):wpAny M A (storeName X.env x u) Q E s:=by
 obtain ⟨m,hn,hl⟩:=id I.loc
 have hcls:(X.env.scope.kind == .class || (X.env.scope.kind == .module && X.env.locals != X.env.globals)) = false:=by rw [I.ok.kind]; rfl
 have hiσ:i < σ.length:=by rw [I.len]; exact (List.getElem?_eq_some_iff.mp hi).1
 have cne:=I.cne
 have tracked:∀ {a:Addr} {h':Heap},(∃ o,s.heap.get? a = some o ∧ H a = none) → Heap.SameBut a s.heap h' → HOk X.prog X.w H h':=fun {a h'} ha hs b ob e=>by
  obtain ⟨_,_,hfree⟩:=ha
  refine (I.hok b ob e).stay (fun c w' hc q=>(hs.2 c ?_).trans q) (fun _ q=>q) fun _ _ q=>q
  rintro rfl
  rcases hc with rfl | hc
  ·rw [hfree] at e; cases e
  ·rw [hfree] at hc; cases hc
 rcases hx with hk | hk
 ·refine wpAny_storeName_local hk hn (fun h' hn' hs=>?_) hcls
  obtain ⟨oL,_,_,hoL,_⟩:=id hn
  refine h _ ⟨I.ok,I.os,I.bare,⟨fun b o e n hb hx=>?_,fun b o e n hb hx=>?_,I.base.free,fun b o e hx=>?_,I.base.tups,I.base.frzs,I.base.tbls⟩,⟨_,hn',fun j y v' e1 e2 e3=>?_⟩,fun y c e=>?_,I.free,I.freeC,fun p hp=>?_,tracked ⟨oL,hoL,I.free⟩ hs,by simpa using I.len⟩ ⟨_,hs,.inl rfl⟩
  ·exact (hs.2 b (Nat.ne_of_lt (Nat.lt_of_lt_of_le (Heap.lt_size e) I.ok.above))).trans (I.base.keep b o e n hb hx)
  ·obtain ⟨sl,e1⟩:=I.base.slot b o e n hb hx
   exact ⟨sl,(hs.2 b (Nat.ne_of_lt (Nat.lt_of_lt_of_le (Heap.lt_size e) I.ok.above))).trans e1⟩
  ·obtain ⟨o',e1⟩:=I.base.there b o e hx
   exact ⟨o',(hs.2 b (Nat.ne_of_lt (Nat.lt_of_lt_of_le (Heap.lt_size e) I.ok.above))).trans e1⟩
  ·by_cases hj:j = i
   ·subst hj
    rw [hi] at e1; cases e1
    rw [List.getElem?_set_self hiσ] at e2
    cases e2
    exact ⟨u,r,.inl ⟨hk,by simp⟩⟩
   ·rw [List.getElem?_set_ne (Ne.symm hj)] at e2
    obtain ⟨u',r',q⟩:=hl j y v' e1 e2 e3
    refine ⟨u',r',?_⟩
    rcases q with ⟨k,e⟩ | ⟨k,c,e,z⟩
    ·refine .inl ⟨k,?_⟩
     have:y ≠ x:=fun e=>hj (nodup_ix hN e1 (e ▸ hi))
     simp [this,e]
    ·exact .inr ⟨k,c,e,z.sameBut hs (cne y c e)⟩
  ·obtain ⟨w',z⟩:=I.cell y c e
   exact ⟨w',z.sameBut hs (cne y c e)⟩
  ·obtain ⟨e,n,ne,nf,d⟩:=I.pin p hp
   exact ⟨(hs.2 p.1 ne).trans e,n,ne,nf,d⟩
 ·have hfn:X.fn x = true:=by
   rcases hf with z | z
   ·exact z
   ·rw [z] at hk; cases hk
  obtain ⟨c,hc⟩:=I.ok.has x (.inl hk)
  obtain ⟨w',z⟩:=I.cell x c hc
  refine wpAny_storeName_cell I.ok.kind hk hc z (fun h' hc' hs=>?_)
  obtain ⟨oc,hoc,hocd⟩:=id z
  refine h { s with heap:=h' } ⟨I.ok,I.os,I.bare,⟨fun b o e n hb hx=>?_,fun b o e n hb hx=>?_,I.base.free,fun b o e hx=>?_,I.base.tups,I.base.frzs,I.base.tbls⟩,⟨m,hn.sameBut hs (Ne.symm (cne x c hc)),fun j y v' e1 e2 e3=>?_⟩,fun y c' e=>?_,I.free,I.freeC,fun p hp=>?_,tracked ⟨oc,hoc,I.freeC x c hc⟩ hs,by simpa using I.len⟩ ⟨c,hs,.inr hc⟩
  ·exact (hs.2 b (Nat.ne_of_lt (Nat.lt_of_lt_of_le (Heap.lt_size e) (I.ok.cab x c hfn hc)))).trans (I.base.keep b o e n hb hx)
  ·obtain ⟨sl,e1⟩:=I.base.slot b o e n hb hx
   exact ⟨sl,(hs.2 b (Nat.ne_of_lt (Nat.lt_of_lt_of_le (Heap.lt_size e) (I.ok.cab x c hfn hc)))).trans e1⟩
  ·obtain ⟨o',e1⟩:=I.base.there b o e hx
   exact ⟨o',(hs.2 b (Nat.ne_of_lt (Nat.lt_of_lt_of_le (Heap.lt_size e) (I.ok.cab x c hfn hc)))).trans e1⟩
  ·by_cases hj:j = i
   ·subst hj
    rw [hi] at e1; cases e1
    rw [List.getElem?_set_self hiσ] at e2
    cases e2
    exact ⟨u,r,.inr ⟨.inl hk,c,hc,hc'⟩⟩
   ·rw [List.getElem?_set_ne (Ne.symm hj)] at e2
    obtain ⟨u',r',q⟩:=hl j y v' e1 e2 e3
    refine ⟨u',r',?_⟩
    rcases q with q | ⟨k,c',e,z'⟩
    ·exact .inl q
    ·refine .inr ⟨k,c',e,z'.sameBut hs ?_⟩
     rintro rfl
     exact hj (nodup_ix hN e1 (I.ok.inj _ _ _ e hc ▸ hi))
  ·by_cases hcc:c' = c
   ·subst hcc; exact ⟨_,hc'⟩
   ·obtain ⟨w2,z2⟩:=I.cell y c' e
    exact ⟨w2,z2.sameBut hs hcc⟩
  ·obtain ⟨e,n,ne,nf,d⟩:=I.pin p hp
   refine ⟨(hs.2 p.1 ?_).trans e,n,ne,nf,d⟩
   intro q
   rw [q,hoc] at e
   have q':oc = p.2:=Option.some.inj e
   exact d w' (by rw [← q']; exact hocd)
theorem store_ok {M:Model} {A:Around} {E:Value → Shared → Prop} {i:Nat} {x:Str} {v:V} {u:Value} {Q:Unit → Shared → Prop} (I:Inv X pins σ H s) (hN:X.N.Nodup) (hi:X.N[i]? = some x) (hx:Loc X.env.scope x) (r:RelV v u)
  (h:∀ s',Inv X pins (σ.set i (some v)) H s' → Q () s') (hf:X.fn x = true ∨ X.env.scope.names.lookup x = some .local:=by first | exact .inl rfl | exact .inr rfl | assumption):wpAny M A (storeName X.env x u) Q E s :=
 store_ok2 I hN hi hx r (fun s' I' _=>h s' I') hf
theorem Inv.call' {s':Shared} {ch:List Addr} (I:Inv X pins σ H s) (ho:s'.os = s.os) (u:Un (frs X.stack) ch H H' s.heap s'.heap) (hok:HOk X.prog X.w H' s'.heap) (hg:AllBare s'.gens)
  (hch:∀ b ∈ ch,(b ∈ X.ex ∨ X.s₀.heap.objs.size ≤ b) ∧ b ≠ X.env.locals ∧ (∀ x c,X.env.cells.lookup x = some c → c ≠ b) ∧ ∀ p ∈ X.pn ++ pins,p.1 ≠ b):Inv X pins σ H' s':=by
 obtain ⟨h',g',d',t',o'⟩:=s'
 have e:o' = s.os:=ho
 subst e
 exact I.call (g':=g') (t':=t') (d':=d') u hok hg hch
end
abbrev XK:=Value → Option Addr → Hp → Prop
abbrev St:=List (Option V)
abbrev VK:=V → Hp → Prop
abbrev TE:=St → Hp → VK → Prop
abbrev TT:=St → Hp → (Bool → Hp → Prop) → Prop
abbrev TA:=St → Hp → (List V → Hp → Prop) → Prop
structure Ends where
 nx:St → Hp → Prop
 rt:VK
 bk:St → Hp → Prop:=fun _ _=>False
 ct:St → Hp → Prop:=fun _ _=>False
abbrev TS:=Ends → St → Hp → Prop
def EP (X:Cx) (pins:List (Addr × Obj)) (σ:St) (Q:VK) (u:Value) (s':Shared):Prop:=∃ v H',Inv X pins σ H' s' ∧ RelV v u ∧ Q v H'
def TP (X:Cx) (pins:List (Addr × Obj)) (σ:St) (Q:Bool → Hp → Prop) (b:Bool) (s':Shared):Prop:=∃ H',Inv X pins σ H' s' ∧ Q b H'
def AP (X:Cx) (pins:List (Addr × Obj)) (σ:St) (Q:List V → Hp → Prop) (us:List Value) (s':Shared):Prop:=∃ vs H',Inv X pins σ H' s' ∧ Vals vs us ∧ Q vs H'
def SP (X:Cx) (pins:List (Addr × Obj)) (D:Ends) (f:Flow) (s':Shared):Prop :=
 match f with
 | .next=>∃ σ' H',Inv X pins σ' H' s' ∧ D.nx σ' H'
 | .brk=>∃ σ' H',Inv X pins σ' H' s' ∧ D.bk σ' H'
 | .cont=>∃ σ' H',Inv X pins σ' H' s' ∧ D.ct σ' H'
 | .ret u=>∃ v σ' H',Inv X pins σ' H' s' ∧ RelV v u ∧ D.rt v H'
def PE (X:Cx) (e:Expr) (t:TE):Prop :=
 ∀ (pins:List (Addr × Obj)) (s:Shared) (σ:St) (H:Hp) (Q:VK),Inv X pins σ H s → t σ H Q → wpAny (model X.prog X.w) X.A (eval e X.env) (EP X pins σ Q) X.xe s
def PT (X:Cx) (e:Expr) (t:TT):Prop :=
 ∀ (pins:List (Addr × Obj)) (s:Shared) (σ:St) (H:Hp) (Q:Bool → Hp → Prop),Inv X pins σ H s → t σ H Q → wpAny (model X.prog X.w) X.A (isTrue e X.env (eval e X.env)) (TP X pins σ Q) X.xe s
def PW (X:Cx) (e:Expr) (t:TT):Prop :=
 ∀ (whole:Sem Value) (pins:List (Addr × Obj)) (s:Shared) (σ:St) (H:Hp) (Q:Bool → Hp → Prop),Inv X pins σ H s → t σ H Q → wpAny (model X.prog X.w) X.A (isTrue e X.env whole) (TP X pins σ Q) X.xe s
theorem PW.pt {X:Cx} {e:Expr} {t:TT} (h:PW X e t):PT X e t:=h _
def PA (X:Cx) (es:List Expr) (t:TA):Prop :=
 ∀ (pos:Pos) (pins:List (Addr × Obj)) (s:Shared) (σ:St) (H:Hp) (Q:List V → Hp → Prop),Inv X pins σ H s → t σ H Q → wpAny (model X.prog X.w) X.A (spliced (backTo pos (starEach es X.env))) (AP X pins σ Q) X.xe s
def PS (X:Cx) (st:Stmt) (t:TS):Prop :=
 ∀ (pins:List (Addr × Obj)) (s:Shared) (σ:St) (H:Hp) (D:Ends),Inv X pins σ H s → t D σ H → wpAny (model X.prog X.w) X.A (exec st X.env) (SP X pins D) X.xe s
def PSs (X:Cx) (st:List Stmt) (t:TS):Prop :=
 ∀ (pins:List (Addr × Obj)) (s:Shared) (σ:St) (H:Hp) (D:Ends),Inv X pins σ H s → t D σ H → wpAny (model X.prog X.w) X.A (execs st X.env) (SP X pins D) X.xe s
theorem thn {α:Type} {t:Sem α} {Q Q':α → Shared → Prop} {M:Model} {A:Around} {E:Value → Shared → Prop} {s:Shared} (h:wpAny M A t Q E s) (hQ:∀ a s,Q a s → Q' a s):wpAny M A t Q' E s:=wpAny_mono h hQ fun _ _ x=>x
end L2
namespace L2
open PySem PySem.Spec PyProof.Rows
section
variable {X:Cx}
def tVar (i:Nat):TE:=fun σ H Q=>∃ v,σ[i]? = some (some v) ∧ Q v H
def tC (v:V):TE:=fun _ H Q=>Q v H
theorem pe_var {i:Nat} {x:Str} {pos:Pos} (hN:X.N[i]? = some x) (hv:Vis X.env.scope x) (hd:(x == ("__debug__":Str)) = false:=by decide) (hcd:(x == ("__classdict__":Str)) = false:=by decide):PE X (.Name x pos) (tVar i):=by
 intro pins s σ H Q I h
 obtain ⟨v,e,h⟩:=h
 obtain ⟨m,hn,hl⟩:=I.loc
 obtain ⟨u,r,l⟩:=hl i x v hN e hv
 have fin:EP X pins σ Q u s:=⟨v,H,I,r,h⟩
 rcases l with ⟨hk,hm⟩ | ⟨hk,c,hc,hcell⟩
 ·exact wpAny_Name (wpAny_loadName_local I.ok.kind hk hn hm fin) hd
 ·rcases hk with hk | hk
  ·exact wpAny_Name (wpAny_loadName_cell I.ok.kind hk hc hcell fin) hd
  ·exact wpAny_Name (wpAny_loadName_free I.ok.kind hk hc hcell fin hcd) hd
theorem pe_int {i j pos}:PE X (.Constant (.int i) j pos) (tC (.int i)):=fun _ _ _ H _ I h=>wpAny_Constant_int ⟨.int i,H,I.tok _,⟨_,rfl⟩,h⟩
theorem pe_bl {b j pos}:PE X (.Constant (.bool b) j pos) (tC (.bl b)):=fun _ _ _ H _ I h=>Constant_bool ⟨.bl b,H,I,rfl,h⟩
theorem pe_non {j pos}:PE X (.Constant .none j pos) (tC .non):=fun _ _ _ H _ I h=>Constant_none ⟨.non,H,I,rfl,h⟩
theorem pe_str {x j pos}:PE X (.Constant (.str x) j pos) (tC (.str x)):=fun _ _ _ H _ I h=>Calls.Constant_str ⟨.str x,H,I.tok _,⟨_,rfl⟩,h⟩
def Gl (X:Cx) (x:Str):Prop:=X.env.kindOf x = some .globalImplicit
theorem ld_glob {E:Value → Shared → Prop} {pins:List (Addr × Obj)} {s:Shared} {σ:St} {H:Hp} {x:Str} {u:Value} {pos:Pos} {Q:Value → Shared → Prop} (I:Inv X pins σ H s) (hg:Gl X x) (hm:X.mg x = some u) (h:Q u s)
  (hd:(x == ("__debug__":Str)) = false:=by decide):wpAny (model X.prog X.w) X.A (eval (.Name x pos) X.env) Q E s :=
 Calls.Name_function_global I.ok.kind hg (Calls.loadGlobal_global (by rw [I.ok.glob]; exact I.mod.glob.keeps I.bk) hm h) hd
theorem ld_blt {E:Value → Shared → Prop} {pins:List (Addr × Obj)} {s:Shared} {σ:St} {H:Hp} {x:Str} {u:Value} {pos:Pos} {Q:Value → Shared → Prop} (I:Inv X pins σ H s) (hg:Gl X x) (hm:X.mg x = none) (hv:bootBuiltins x = some u) (h:Q u s)
  (hn:x ≠ "__name__":=by decide) (hd:(x == ("__debug__":Str)) = false:=by decide):wpAny (model X.prog X.w) X.A (eval (.Name x pos) X.env) Q E s:=by
 obtain ⟨mb,h1,h2⟩:=I.mod.blt
 exact Calls.Name_function_global I.ok.kind hg (Calls.loadGlobal_builtin (by rw [I.ok.glob]; exact I.mod.glob.keeps I.bk) hm (by rw [I.ok.blt]; exact h1.keeps I.bk) ((h2 x hn).trans hv) h) hd
theorem pe_glob {x:Str} {v:V} {u:Value} {pos:Pos} (hg:Gl X x) (hm:X.mg x = some u) (r:RelV v u) (hd:(x == ("__debug__":Str)) = false:=by decide):PE X (.Name x pos) (tC v) :=
 fun _ _ _ H _ I h=>ld_glob I hg hm ⟨v,H,I,r,h⟩ hd
theorem pe_bltn {x:Str} {v:V} {u:Value} {pos:Pos} (hg:Gl X x) (hm:X.mg x = none) (hv:bootBuiltins x = some u) (r:RelV v u) (hn:x ≠ "__name__":=by decide) (hd:(x == ("__debug__":Str)) = false:=by decide):PE X (.Name x pos) (tC v) :=
 fun _ _ _ H _ I h=>ld_blt I hg hm hv ⟨v,H,I,r,h⟩ hn hd
variable {a b:Expr} {ta tb:TE} {pos:Pos}
def tB (t:TE):TT:=fun σ H Q=>t σ H fun x H1=>∃ c,x = .bl c ∧ Q c H1
theorem pt_val {e:Expr} {t:TE} (h:PE X e t) (he:∀ whole,isTrue e X.env whole = (do let v ← whole; standAt e.pos; holding [v] (truthy v)):=by intro _; rfl):PT X e (tB t):=by
 intro pins s σ H Q I hw
 refine isTrue_plain (thn (h pins s σ H _ I hw) fun v s1 ⟨x,H1,I1,r1,q1⟩=>?_) (he _)
 obtain ⟨d,rfl,q⟩:=q1
 cases r1
 exact wpAny_truthy_bool ⟨H1,I1,q⟩
variable {tA tB':TT} {rest:List Expr}
def tOr (t u:TT):TT:=fun σ H Q=>t σ H fun c H1=>if c = true then Q true H1 else u σ H1 Q
def tNot (t:TT):TT:=fun σ H Q=>t σ H fun c H1=>Q (!c) H1
theorem pw_or1 (ha:PT X a tA):PW X (.BoolOp .Or [a] pos) tA:=by
 intro wh pins s σ H Q I h
 refine isTrue_or (thn (ha pins s σ H Q I h) fun c s1 e=>?_)
 cases c with
 | false=>exact isTrue_or_nil e
 | true=>exact e
theorem pw_or (ha:PT X a tA) (hb:PW X (.BoolOp .Or (b :: rest) pos) tB'):PW X (.BoolOp .Or (a :: b :: rest) pos) (tOr tA tB'):=by
 intro wh pins s σ H Q I h
 refine isTrue_or (thn (ha pins s σ H _ I h) fun c s1 ⟨H1,I1,q1⟩=>?_)
 cases c with
 | true=>exact ⟨H1,I1,q1⟩
 | false=>exact hb wh pins s1 σ H1 Q I1 q1
theorem pt_not (ha:PT X a tA):PT X (.UnaryOp .Not a pos) (tNot tA):=by
 intro pins s σ H Q I h
 exact isTrue_not (ha pins s σ H (fun c H1=>Q (!c) H1) I h)
def tAndV (ta tb:TE):TE:=fun σ H Q=>ta σ H fun x H1=>∃ c,x = .bl c ∧ if c = true then tb σ H1 Q else Q (.bl false) H1
def tOrV (ta tb:TE):TE:=fun σ H Q=>ta σ H fun x H1=>∃ c,x = .bl c ∧ if c = true then Q (.bl true) H1 else tb σ H1 Q
def tNotV (ta:TE):TE:=fun σ H Q=>ta σ H fun x H1=>∃ c,x = .bl c ∧ Q (.bl (!c)) H1
theorem pe_one {op} {t:TE} (h:PE X a t):PE X (.BoolOp op [a] pos) t:=fun pins s σ H Q I hw=>BoolOp_one (h pins s σ H Q I hw)
theorem pe_and (ha:PE X a ta) (hb:PE X (.BoolOp .And (b :: rest) pos) tb):PE X (.BoolOp .And (a :: b :: rest) pos) (tAndV ta tb):=by
 intro pins s σ H Q I h
 refine BoolOp_and (thn (ha pins s σ H _ I h) fun v s1 ⟨x,H1,I1,r1,q1⟩=>?_)
 obtain ⟨c,rfl,q1⟩:=q1
 cases r1
 refine wpAny_truthy_bool ?_
 cases c with
 | true=>exact hb pins s1 σ H1 Q I1 q1
 | false=>exact ⟨.bl false,H1,I1,rfl,q1⟩
theorem pe_or (ha:PE X a ta) (hb:PE X (.BoolOp .Or (b :: rest) pos) tb):PE X (.BoolOp .Or (a :: b :: rest) pos) (tOrV ta tb):=by
 intro pins s σ H Q I h
 refine BoolOp_or (thn (ha pins s σ H _ I h) fun v s1 ⟨x,H1,I1,r1,q1⟩=>?_)
 obtain ⟨c,rfl,q1⟩:=q1
 cases r1
 refine wpAny_truthy_bool ?_
 cases c with
 | false=>exact hb pins s1 σ H1 Q I1 q1
 | true=>exact ⟨.bl true,H1,I1,rfl,q1⟩
theorem pe_not (ha:PE X a ta):PE X (.UnaryOp .Not a pos) (tNotV ta):=by
 intro pins s σ H Q I h
 refine UnaryOp_ (thn (ha pins s σ H _ I h) fun v s1 ⟨x,H1,I1,r1,q1⟩=>?_)
 obtain ⟨c,rfl,q1⟩:=q1
 cases r1
 exact not_of (wpAny_truthy_bool ⟨.bl (!c),H1,I1,rfl,q1⟩)
end
end L2
namespace L2
open PySem PySem.Spec PyProof.Rows
def SqL (K:PySem.W.Frag) (H:Hp) (a:Addr) (xs:List V):Prop :=
 Rd H a (.lst xs) ∨
  ∃ (o:Obj) (its:Array Value) (n:Nat),K.lookup a = some o ∧ o.cls = .type "list" ∧ o.dict = none ∧ o.data = .seq its n ∧ its.size ≤ sizeLine ∧ Vals xs its.toList
def SqT (K:PySem.W.Frag) (H:Hp) (a:Addr) (xs:List V):Prop :=
 Rd H a (.tup xs) ∨
  ∃ (o:Obj) (its:Array Value) (n:Nat),K.lookup a = some o ∧ o.cls = .type "tuple" ∧ o.data = .seq its n ∧ its.size ≤ sizeLine ∧ Vals xs its.toList
def absV:Value → Option V
 | .none=>some .non
 | .bool b=>some (.bl b)
 | .int i _=>some (.int i)
 | .str x _=>some (.str x)
 | .bytes b _=>some (.byt b)
 | .float b _=>some (.flt b)
 | .ref a=>some (.ref a)
 | .type n=>some (.ty n)
 | _=>none
theorem RelV.abs {x:V} {u:Value} (r:RelV x u):absV u = some x:=by
 cases x with
 | non=>cases r; rfl
 | bl _=>cases r; rfl
 | int _=>obtain ⟨t,rfl⟩:=r; rfl
 | str _=>obtain ⟨t,rfl⟩:=r; rfl
 | byt _=>obtain ⟨t,rfl⟩:=r; rfl
 | flt _=>obtain ⟨t,rfl⟩:=r; rfl
 | ref _=>cases r; rfl
 | ty _=>cases r; rfl
theorem RelV.inj {x y:V} {u:Value} (r:RelV x u) (q:RelV y u):x = y:=Option.some.inj (r.abs.symm.trans q.abs)
theorem Vals.inj:∀ {xs ys:List V} {us:List Value},Vals xs us → Vals ys us → xs = ys
 | _,_,_,.nil,.nil=>rfl
 | _,_,_,.cons r t,.cons r' t'=>by rw [r.inj r',Vals.inj t t']
section
variable {X:Cx} {pins:List (Addr × Obj)} {σ:St} {H:Hp} {s:Shared} {a:Addr} {xs ys:List V}
theorem SqL.of {K:PySem.W.Frag} (h:H a = some (.lst xs)):SqL K H a xs:=.inl (.inl h)
theorem SqT.of {K:PySem.W.Frag} (h:H a = some (.tup xs)):SqT K H a xs:=.inl (.inl h)
theorem Inv.list (I:Inv X pins σ H s) (h:SqL X.K H a xs):∃ its:List Value,Vals xs its ∧ PlainL s.heap a its.toArray ∧ xs.length ≤ sizeLine:=by
 rcases h with h | ⟨o,its,n,hk,hc,hd,hs,hz,r⟩
 ·obtain ⟨z,its,n,r,e⟩:=h.ok I.hok
  exact ⟨its,r,⟨_,n,e,rfl,rfl,rfl⟩,z⟩
 ·refine ⟨its.toList,r,⟨o,n,I.kIn a o hk,hc,hd,by simpa using hs⟩,?_⟩
  have e:=r.length
  simp only [Array.length_toList] at e
  omega
theorem Inv.tuple (I:Inv X pins σ H s) (h:SqT X.K H a xs):∃ its:List Value,Vals xs its ∧ IsTup s.heap a its.toArray ∧ xs.length ≤ sizeLine:=by
 rcases h with h | ⟨o,its,n,hk,hc,hs,hz,r⟩
 ·obtain ⟨z,its,r,p⟩:=h.ok I.hok
  exact ⟨its,r,p,z⟩
 ·refine ⟨its.toList,r,⟨o,I.kIn a o hk,hc,n,by simpa using hs⟩,?_⟩
  have e:=r.length
  simp only [Array.length_toList] at e
  omega
theorem Inv.list_inj (I:Inv X pins σ H s) (h:SqL X.K H a xs) (h':SqL X.K H a ys):xs = ys:=by
 obtain ⟨its,r,⟨o,n,e,_,_,d⟩,_⟩:=I.list h
 obtain ⟨its',r',⟨o',n',e',_,_,d'⟩,_⟩:=I.list h'
 rw [e] at e'; cases e'
 rw [d] at d'
 injection d' with d1 _
 have:its = its':=by simpa using congrArg Array.toList d1
 subst this
 exact r.inj r'
theorem Inv.tuple_inj (I:Inv X pins σ H s) (h:SqT X.K H a xs) (h':SqT X.K H a ys):xs = ys:=by
 obtain ⟨its,r,⟨o,e,_,n,d⟩,_⟩:=I.tuple h
 obtain ⟨its',r',⟨o',e',_,n',d'⟩,_⟩:=I.tuple h'
 rw [e] at e'; cases e'
 rw [d] at d'
 injection d' with d1 _
 have:its = its':=by simpa using congrArg Array.toList d1
 subst this
 exact r.inj r'
end
abbrev Cx.wish (X:Cx) (E:Value → Shared → Prop):Cx:={ X with xe:=E }
abbrev Cx.nox (X:Cx):Cx:=X.wish fun _ _=>False
theorem Cx.Ok.wish {X:Cx} (ok:X.Ok) (E:Value → Shared → Prop):(X.wish E).Ok :=
 ⟨ok.mod,ok.kind,ok.glob,ok.blt,ok.above,ok.inj,ok.has,ok.cab,ok.hd,ok.frames,ok.stk,ok.exf,ok.bs,ok.bsz,ok.noex,ok.exfs,ok.funs,ok.frf⟩
theorem Cx.Ok.unwish {X:Cx} {E:Value → Shared → Prop} (ok:(X.wish E).Ok):X.Ok :=
 ⟨ok.mod,ok.kind,ok.glob,ok.blt,ok.above,ok.inj,ok.has,ok.cab,ok.hd,ok.frames,ok.stk,ok.exf,ok.bs,ok.bsz,ok.noex,ok.exfs,ok.funs,ok.frf⟩
section
variable {X:Cx} {pins:List (Addr × Obj)} {σ:St} {H:Hp} {s:Shared} {E:Value → Shared → Prop}
theorem Inv.wish (I:Inv X pins σ H s) (E:Value → Shared → Prop):Inv (X.wish E) pins σ H s:=⟨I.ok.wish E,I.os,I.bare,I.base,I.loc,I.cell,I.free,I.freeC,I.pin,I.hok,I.len⟩
theorem Inv.unwish (I:Inv (X.wish E) pins σ H s):Inv X pins σ H s:=⟨I.ok.unwish,I.os,I.bare,I.base,I.loc,I.cell,I.free,I.freeC,I.pin,I.hok,I.len⟩
theorem SP.unwish {D:Ends} {f:Flow} {s':Shared} (h:SP (X.wish E) pins D f s'):SP X pins D f s':=by
 cases f with
 | next=>obtain ⟨σ',H',I,q⟩:=h; exact ⟨σ',H',I.unwish,q⟩
 | brk=>obtain ⟨σ',H',I,q⟩:=h; exact ⟨σ',H',I.unwish,q⟩
 | cont=>obtain ⟨σ',H',I,q⟩:=h; exact ⟨σ',H',I.unwish,q⟩
 | ret u=>obtain ⟨v,σ',H',I,r,q⟩:=h; exact ⟨v,σ',H',I.unwish,r,q⟩
theorem PSs.nox {st:List Stmt} {t:TS} (h:PSs X.nox st t):PSs X st t:=fun pins s σ H D I hw =>
 wpAny_mono (h pins s σ H D (I.wish _) hw) (fun _ _ q=>q.unwish) fun _ _ z=>False.elim z
end
section
variable {X:Cx} {st:Stmt} {rest:List Stmt} {t u:TS} {e:Expr} {te:TE} {pos:Pos}
def tNext:TS:=fun D σ H=>D.nx σ H
def tSeq (t u:TS):TS:=fun D σ H=>t { D with nx:=u D } σ H
theorem pss_nil:PSs X [] tNext:=fun _ _ σ H _ I h=>wpAny_execs_nil ⟨σ,H,I,h⟩
theorem pss_cons (h1:PS X st t) (h2:PSs X rest u):PSs X (st :: rest) (tSeq t u):=by
 intro pins s σ H D I h
 refine wpAny_execs_cons (thn (h1 pins s σ H { D with nx:=u D } I h) fun f s1 q=>?_)
 cases f with
 | next =>
  obtain ⟨σ',H',I',q⟩:=q
  exact h2 pins s1 σ' H' D I' q
 | ret v=>exact q
 | brk=>exact q
 | cont=>exact q
theorem pss_one (h1:PS X st t):PSs X [st] t:=by
 intro pins s σ H D I h
 refine wpAny_execs_cons (thn (h1 pins s σ H D I h) fun f s1 q=>?_)
 cases f with
 | next=>exact wpAny_execs_nil q
 | ret v=>exact q
 | brk=>exact q
 | cont=>exact q
theorem Inv.quiet {pins:List (Addr × Obj)} {σ:St} {H:Hp} {s:Shared} (I:Inv X pins σ H s):interactive X.env = false:=by simp [interactive,I.ok.kind]
def tDrop (te:TE):TS:=fun D σ H=>te σ H fun _ H1=>D.nx σ H1
theorem ps_expr (he:PE X e te) (hs:swapsWith e none pos.line X.env = pure false:=by rfl):PS X (.Expr e pos) (tDrop te):=by
 intro pins s σ H D I h
 exact wpAny_Expr_any (thn (he pins s σ H _ I h) fun v s1 ⟨x,H1,I1,r1,q1⟩=>⟨σ,H1,I1,q1⟩) I.quiet hs
def tRet (te:TE):TS:=fun D σ H=>te σ H D.rt
theorem ps_ret (he:PE X e te):PS X (.Return (some e) pos) (tRet te):=by
 intro pins s σ H D I h
 exact wpAny_Return_some (thn (he pins s σ H _ I h) fun v s1 ⟨x,H1,I1,r1,q1⟩=>⟨x,σ,H1,I1,r1,q1⟩)
def tIfS (c:TT) (t u:TS):TS:=fun D σ H=>c σ H fun b H1=>if b = true then t D σ H1 else u D σ H1
theorem ps_if {c:Expr} {a b:List Stmt} {tc:TT} (hc:PT X c tc) (ha:PSs X a t) (hb:PSs X b u):PS X (.If c a b pos) (tIfS tc t u):=by
 intro pins s σ H D I h
 refine wpAny_If (thn (hc pins s σ H _ I h) fun d s1 ⟨H1,I1,q1⟩=>?_)
 cases d with
 | true=>exact ha pins s1 σ H1 D I1 q1
 | false=>exact hb pins s1 σ H1 D I1 q1
def tNever:TS:=fun _ _ _=>False
theorem pss_never {sts:List Stmt}:PSs X sts tNever:=fun _ _ _ _ _ _ h=>h.elim
end
abbrev TG:=V → St → Hp → (St → Hp → Prop) → Prop
abbrev TGs:=List V → St → Hp → (St → Hp → Prop) → Prop
def PG (X:Cx) (target:Expr) (t:TG):Prop :=
 ∀ (pins:List (Addr × Obj)) (s:Shared) (σ:St) (H:Hp) (v:V) (u:Value) (Q:St → Hp → Prop),Inv X pins σ H s → RelV v u → t v σ H Q →
  wpAny (model X.prog X.w) X.A (assign target X.env u) (fun _ s'=>∃ σ' H',Inv X pins σ' H' s' ∧ Q σ' H') X.xe s
def PGs (X:Cx) (ts:List Expr) (t:TGs):Prop :=
 ∀ (pins:List (Addr × Obj)) (s:Shared) (σ:St) (H:Hp) (vs:List V) (us:List Value) (Q:St → Hp → Prop),Inv X pins σ H s → Vals vs us → t vs σ H Q →
  wpAny (model X.prog X.w) X.A (assignInOrder ((assignEach ts X.env).map (·.2)) us) (fun _ s'=>∃ σ' H',Inv X pins σ' H' s' ∧ Q σ' H') X.xe s
section
variable {X:Cx} {pos:Pos}
def gName (i:Nat):TG:=fun v σ H Q=>Q (σ.set i (some v)) H
theorem pg_name {i:Nat} {x:Str} (hN:X.N.Nodup) (hi:X.N[i]? = some x) (hx:Loc X.env.scope x) (hf:X.fn x = true ∨ X.env.scope.names.lookup x = some .local:=by first | exact .inl rfl | exact .inr rfl | assumption):PG X (.Name x pos) (gName i):=by
 intro pins s σ H v u Q I r h
 exact wpAny_assign_Name (store_ok I hN hi hx r (fun s' I'=>⟨_,H,I',h⟩) hf)
def gNil:TGs:=fun vs σ H Q=>vs = [] ∧ Q σ H
def gCons (t:TG) (u:TGs):TGs:=fun vs σ H Q=>∃ v r,vs = v :: r ∧ t v σ H fun σ' H'=>u r σ' H' Q
theorem pgs_nil:PGs X [] gNil:=by
 intro pins s σ H vs us Q I r h
 obtain ⟨e,h⟩:=h
 subst e
 cases r
 exact assignInOrder_nil ⟨σ,H,I,h⟩
theorem pgs_cons {e:Expr} {es:List Expr} {t:TG} {u:TGs} (h1:PG X e t) (h2:PGs X es u)
  (hs:(assignEach (e :: es) X.env).map (·.2) = assign e X.env :: (assignEach es X.env).map (·.2):=by rfl):PGs X (e :: es) (gCons t u):=by
 intro pins s σ H vs us Q I r h
 obtain ⟨v,vr,e1,h⟩:=h
 subst e1
 cases r with
 | cons r rr =>
  rw [hs]
  refine assignInOrder_cons (thn (h1 pins s σ H _ _ _ I r h) fun _ s1 ⟨σ1,H1,I1,q1⟩=>?_)
  exact h2 pins s1 σ1 H1 _ _ Q I1 rr q1
def gTup (K:PySem.W.Frag) (n:Nat) (t:TGs):TG:=fun v σ H Q=>∃ a xs,v = .ref a ∧ SqT K H a xs ∧ xs.length = n ∧ t xs σ H Q
theorem pg_tup {es:List Expr} {k:Nat} {t:TGs} {n:Nat} (hc:X.calm = true) (h:PGs X es t)
  (hn:(assignEach es X.env).length = n:=by rfl) (hst:(assignEach es X.env).findIdx? (·.1) = none:=by rfl):PG X (.Tuple es k pos) (gTup X.K n t):=by
 intro pins s σ H v u Q I r hw
 obtain ⟨a,xs,e1,hq,hl,hw⟩:=hw
 subst e1
 cases r
 obtain ⟨its,rv,ht,hz⟩:=I.tuple hq
 refine assign_Tuple_tuple (I.ok.hd hc) ht (by simp [hn,← hl,rv.length]) hst fun h' hx=>?_
 have I1:Inv X pins σ H { s with heap:=h' }:=I.kept (t':=s.toks) fun b o e=>hx b o (Nat.ne_of_lt (Heap.lt_size e)) e
 exact h pins _ σ H xs _ Q I1 (by simpa using rv) hw
def tAsg (te:TE) (g:TG):TS:=fun D σ H=>te σ H fun x H1=>g x σ H1 D.nx
theorem ps_asg {tg e:Expr} {te:TE} {g:TG} (he:PE X e te) (hg:PG X tg g) (hs:swapsWithSole [tg] e pos.line X.env = pure false:=by rfl) (hw:swappedStores [tg] e X.env = pure none:=by rfl)
  (h1:(assignEach [tg] X.env).map (·.2) = [assign tg X.env]:=by rfl):PS X (.Assign [tg] e pos) (tAsg te g):=by
 intro pins s σ H D I h
 refine wpAny_Assign_stores (thn (he pins s σ H _ I h) fun v s1 ⟨x,H1,I1,r1,q1⟩=>?_) hs hw
 rw [h1]
 exact thn (hg pins s1 σ H1 x v _ I1 r1 q1) fun _ s2 q=>q
theorem ps_set {i:Nat} {x:Str} {e:Expr} {te:TE} {pos':Pos} (hN:X.N.Nodup) (hi:X.N[i]? = some x) (hx:Loc X.env.scope x) (he:PE X e te) (hs:swapsWith e (some (.Name x pos')) pos.line X.env = pure false:=by rfl) (hf:X.fn x = true ∨ X.env.scope.names.lookup x = some .local:=by first | exact .inl rfl | exact .inr rfl | assumption) :
  PS X (.Assign [.Name x pos'] e pos) (tAsg te (gName i)):=by
 intro pins s σ H D I h
 refine wpAny_Assign_Name (thn (he pins s σ H _ I h) fun v s1 ⟨y,H1,I1,r1,q1⟩=>?_) hs
 exact store_ok I1 hN hi hx r1 (fun s2 I2=>⟨_,H1,I2,q1⟩) hf
end
section
variable {X:Cx} {pos:Pos}
end
structure It where
 go:Nat → Hp → Prop
 yld:Nat → Hp → V → Hp → Prop
 stop:Nat → Hp → Prop
def FpOk (X:Cx) (pins:List (Addr × Obj)) (H:Hp) (b:Addr):Prop :=
 H b = none ∧ b ≠ X.env.locals ∧ b ∉ X.fs ∧ (b ∈ X.ex ∨ X.s₀.heap.objs.size ≤ b) ∧ (∀ x c,X.env.cells.lookup x = some c → c ≠ b) ∧ ∀ p ∈ X.pn ++ pins,p.1 ≠ b
theorem Inv.fpOk {X:Cx} {pins:List (Addr × Obj)} {σ:St} {H H':Hp} {s:Shared} {b:Addr} (I:Inv X pins σ H s) (hb:s.heap.objs.size ≤ b) (hn:H' b = none):FpOk X pins H' b:=by
 refine ⟨hn,Nat.ne_of_gt (Nat.lt_of_lt_of_le I.lt hb),I.nofs hb,.inr (Nat.le_trans I.sz hb),fun x c e z=>?_,fun p hp z=>?_⟩
 ·obtain ⟨v,q⟩:=I.cell x c e
  exact absurd (Nat.lt_of_lt_of_le q.lt (by rw [z]; exact hb)) (Nat.lt_irrefl _)
 ·exact absurd (Nat.lt_of_lt_of_le (Heap.lt_size (I.pin p hp).1) (by rw [z]; exact hb)) (Nat.lt_irrefl _)
structure Turn (P:Program) (w:World) (K:PySem.W.Frag) (tg:Expr) (J:It) (fp:List Addr) (it:Addr) (tn:Nat → Heap → Prop):Prop where
 mem:it ∈ fp
 obj:∀ i h,tn i h → ∀ b ∈ fp,∃ o,h.get? b = some o ∧ ∀ v,o.data ≠ .cell v
 keep:∀ i h h',tn i h → (∀ b ∈ fp,∀ o,h.get? b = some o → h'.get? b = some o) → tn i h'
 item:∀ (X:Cx),X.prog = P → X.w = w → X.K = K → X.calm = true → ∀ (i:Nat) (pins:List (Addr × Obj)) (s:Shared) (σ:St) (H:Hp) (E:Value → Shared → Prop),Inv X pins σ H s → (∀ b ∈ fp,FpOk X pins H b) → tn i s.heap → J.go i H →
  wpAny (model P w) X.A (pyNext (.ref it)) (fun r s1=>∃ u,r = some u ∧
   wpAny (model P w) X.A (letOwnedTupleGo tg (.ref it) u) (fun _ s2=>∃ x H',Inv X pins σ H' s2 ∧ RelV x u ∧ J.yld i H x H' ∧ tn (i + 1) s2.heap ∧ ∀ b ∈ fp,H' b = none) E s1) E s
 done:∀ (X:Cx),X.prog = P → X.w = w → X.K = K → X.calm = true → ∀ (i:Nat) (pins:List (Addr × Obj)) (s:Shared) (σ:St) (H:Hp) (E:Value → Shared → Prop),Inv X pins σ H s → (∀ b ∈ fp,FpOk X pins H b) → tn i s.heap → J.stop i H →
  wpAny (model P w) X.A (pyNext (.ref it)) (fun r s1=>r = none ∧ Inv X pins σ H s1) E s
 self:∀ (A:Around) (i:Nat) (s:Shared) (Q:Value → Shared → Prop) (E:Value → Shared → Prop),tn i s.heap → Q (.ref it) s → wpAny (model P w) A (pyIter (.ref it)) Q E s
abbrev TI:=St → Hp → (It → Hp → Prop) → Prop
def PIE (X:Cx) (pins:List (Addr × Obj)) (σ:St) (tg:Expr) (R:It → Hp → Prop) (itv:Value) (s2:Shared):Prop :=
 ∃ (it:Addr) (fp:List Addr) (tn:Nat → Heap → Prop) (J:It) (H':Hp),itv = .ref it ∧ Inv X pins σ H' s2 ∧ Turn X.prog X.w X.K tg J fp it tn ∧ tn 0 s2.heap ∧ (∀ b ∈ fp,FpOk X pins H' b) ∧ R J H'
def PI (X:Cx) (tg iter:Expr) (wi:TI):Prop :=
 ∀ (pins:List (Addr × Obj)) (s:Shared) (σ:St) (H:Hp) (R:It → Hp → Prop),Inv X pins σ H s → wi σ H R →
  wpAny (model X.prog X.w) X.A (eval iter X.env) (fun v s1=>wpAny (model X.prog X.w) X.A (pyIter v) (PIE X pins σ tg R) X.xe s1) X.xe s
theorem go_of {M:Model} {A:Around} {E:Value → Shared → Prop} {s:Shared} {tg:Expr} {it:Addr} {u:Value} {o:Obj} {n:String} {vs:Array Value} {Q:Unit → Shared → Prop} (ho:s.heap.get? it = some o) (hc:o.cls = .type n) (hd:o.data = .fields vs)
  (hn:["enumerate","zip","dict_itemiterator","dict_reverseitemiterator","odict_iterator","itertools.zip_longest","itertools.pairwise"].contains n = false) (hQ:Q () s):wpAny M A (letOwnedTupleGo tg (.ref it) u) Q E s:=by
 unfold letOwnedTupleGo
 cases tg <;> first
  | exact wpAny_pure hQ
  | (cases u <;> first
    | exact wpAny_pure hQ
    | (refine wpAny_bind (wpAny_load ho ?_); rw [hc,hd]; show wpAny M A (if (["enumerate","zip","dict_itemiterator","dict_reverseitemiterator","odict_iterator","itertools.zip_longest","itertools.pairwise"].contains n && vs[0]? == some (rawInt _)) = true then _ else _) Q E s; rw [if_neg (by intro h; rw [hn,Bool.false_and] at h; cases h)]; exact wpAny_pure hQ))
def Itl (K:PySem.W.Frag) (a:Addr):It :=
 ⟨fun i H=>∃ xs x,SqL K H a xs ∧ xs[i]? = some x,fun i H x H'=>H' = H ∧ ∀ xs,SqL K H a xs → xs[i]? = some x,fun i H=>∃ xs,SqL K H a xs ∧ xs.length ≤ i⟩
def Itt (K:PySem.W.Frag) (a:Addr):It :=
 ⟨fun i H=>∃ xs x,SqT K H a xs ∧ xs[i]? = some x,fun i H x H'=>H' = H ∧ ∀ xs,SqT K H a xs → xs[i]? = some x,fun i H=>∃ xs,SqT K H a xs ∧ xs.length ≤ i⟩
def Itr (lo:Int) (n:Nat):It:=⟨fun i _=>i < n,fun i H x H'=>H' = H ∧ x = .int (lo + i),fun i _=>n ≤ i⟩
theorem turn_list {P:Program} {w:World} {K:PySem.W.Frag} {tg:Expr} (a it:Addr):Turn P w K tg (Itl K a) [it] it (fun i h=>h.IsListIter it a i) where
 mem:=by simp
 obj:=fun i h st b hb=>by
  have e:b = it:=by simpa using hb
  subst e
  obtain ⟨o,e,c,d⟩:=st
  exact ⟨o,e,fun v z=>by rw [d] at z; cases z⟩
 keep:=fun i h h' st k=>st.at fun o e=>k it (by simp) o e
 item:=by
  intro X hP hw hK hc i pins s σ H E I hf st hg
  subst hP hw hK
  obtain ⟨xs,x,hq,hx⟩:=hg
  obtain ⟨its,rv,p,hz⟩:=I.list hq
  obtain ⟨u,hu,ru⟩:=rv.get hx
  obtain ⟨f0,f1,f2,f3,f4,f5⟩:=hf it (by simp)
  refine wpAny_pyNext_list_item st p.isList (x:=u) (by simpa using hu) fun h' st' sb=>?_
  have I1:Inv X pins σ H { s with heap:=h' }:=I.turned (t':=s.toks) (fun b o hb e=>(sb.2 b hb).trans e) f0 f1 f3 f4 f5
  obtain ⟨o,e,c,d⟩:=id st'
  exact ⟨u,rfl,go_of (s:={ s with heap:=h' }) e c d (by decide) ⟨x,H,I1,ru,⟨rfl,fun ys hy=>by rw [I.list_inj hy hq]; exact hx⟩,st',fun b hb=>(hf b hb).1⟩⟩
 done:=by
  intro X hP hw hK hc i pins s σ H E I hf st hg
  subst hP hw hK
  obtain ⟨xs,hq,hx⟩:=hg
  obtain ⟨its,rv,p,hz⟩:=I.list hq
  obtain ⟨f0,f1,f2,f3,f4,f5⟩:=hf it (by simp)
  have hl:=rv.length
  exact wpAny_pyNext_list_end (I.ok.hd hc) st p.isList (by simp; omega) fun h' eb=>⟨rfl,I.turned (t':=s.toks) (fun b o hb e=>eb b o hb e) f0 f1 f3 f4 f5⟩
 self:=fun _ _ _ _ _ st h=>wpAny_pyIter_listiter st h
theorem turn_tuple {P:Program} {w:World} {K:PySem.W.Frag} {tg:Expr} (a it:Addr):Turn P w K tg (Itt K a) [it] it (fun i h=>h.IsTupleIter it a i) where
 mem:=by simp
 obj:=fun i h st b hb=>by
  have e:b = it:=by simpa using hb
  subst e
  obtain ⟨o,e,c,d⟩:=st
  exact ⟨o,e,fun v z=>by rw [d] at z; cases z⟩
 keep:=fun i h h' st k=>st.at fun o e=>k it (by simp) o e
 item:=by
  intro X hP hw hK hc i pins s σ H E I hf st hg
  subst hP hw hK
  obtain ⟨xs,x,hq,hx⟩:=hg
  obtain ⟨its,rv,p,hz⟩:=I.tuple hq
  obtain ⟨u,hu,ru⟩:=rv.get hx
  obtain ⟨f0,f1,f2,f3,f4,f5⟩:=hf it (by simp)
  refine wpAny_pyNext_tuple_item st (show s.heap.IsTuple a its.toArray from p) (x:=u) (by simpa using hu) fun h' st' sb=>?_
  have I1:Inv X pins σ H { s with heap:=h' }:=I.turned (t':=s.toks) (fun b o hb e=>(sb.2 b hb).trans e) f0 f1 f3 f4 f5
  obtain ⟨o,e,c,d⟩:=id st'
  exact ⟨u,rfl,go_of (s:={ s with heap:=h' }) e c d (by decide) ⟨x,H,I1,ru,⟨rfl,fun ys hy=>by rw [I.tuple_inj hy hq]; exact hx⟩,st',fun b hb=>(hf b hb).1⟩⟩
 done:=by
  intro X hP hw hK hc i pins s σ H E I hf st hg
  subst hP hw hK
  obtain ⟨xs,hq,hx⟩:=hg
  obtain ⟨its,rv,p,hz⟩:=I.tuple hq
  obtain ⟨f0,f1,f2,f3,f4,f5⟩:=hf it (by simp)
  have hl:=rv.length
  exact wpAny_pyNext_tuple_end (I.ok.hd hc) st (show s.heap.IsTuple a its.toArray from p) (by simp; omega) fun h' eb=>⟨rfl,I.turned (t':=s.toks) (fun b o hb e=>eb b o hb e) f0 f1 f3 f4 f5⟩
 self:=fun _ _ _ _ _ st h=>wpAny_pyIter_tupleiter st h
theorem turn_range {P:Program} {w:World} {K:PySem.W.Frag} {tg:Expr} (it:Addr) (lo:Int) (n:Nat):Turn P w K tg (Itr lo n) [it] it (fun i h=>IsRangeIter h it (lo + (i:Nat) * 1) ((n:Int) - (i:Nat)) 1) where
 mem:=by simp
 obj:=fun i h st b hb=>by
  have e:b = it:=by simpa using hb
  subst e
  exact ⟨_,st,fun v z=>by
   have z':Data.fields _ = Data.cell v:=z
   cases z'⟩
 keep:=fun i h h' st k=>k it (by simp) _ st
 item:=by
  intro X hP hw hK hc i pins s σ H E I hf st hg
  subst hP hw hK
  obtain ⟨f0,f1,f2,f3,f4,f5⟩:=hf it (by simp)
  have W:=Walks.range (prog:=X.prog) (w:=X.w) (I.ok.hd hc) it lo 1 n
  refine W.item i s _ _ hg st fun v h' tk hv st' kk=>?_
  obtain ⟨t,rfl⟩:=hv
  have I1:Inv X pins σ H { s with heap:=h',toks:=tk }:=I.turned (fun b o hb e=>kk b o (by simpa using hb) e) f0 f1 f3 f4 f5
  refine ⟨_,rfl,go_of (s:={ s with heap:=h',toks:=tk }) (n:="range_iterator") st' rfl rfl (by decide) ⟨.int (lo + i),H,I1,⟨t,?_⟩,⟨rfl,rfl⟩,st',fun b hb=>(hf b hb).1⟩⟩
  rw [Int.mul_one]
 done:=by
  intro X hP hw hK hc i pins s σ H E I hf st hg
  subst hP hw hK
  obtain ⟨f0,f1,f2,f3,f4,f5⟩:=hf it (by simp)
  exact wpAny_pyNext_range_end (I.ok.hd hc) st (by have:n ≤ i:=hg; omega) fun h' eb=>⟨rfl,I.turned (t':=s.toks) (fun b o hb e=>eb b o hb e) f0 f1 f3 f4 f5⟩
 self:=fun _ _ _ _ _ st h=>wpAny_pyIter_rangeiter st h
end L2
namespace L2
open PySem PySem.Spec PyProof.Rows
section
variable {X:Cx} {tg:Expr}
def iList (K:PySem.W.Frag) (tl:TE):TI:=fun σ H R=>tl σ H fun x H1=>∃ a,x = .ref a ∧ (∃ xs,SqL K H1 a xs) ∧ R (Itl K a) H1
def iTup (K:PySem.W.Frag) (tl:TE):TI:=fun σ H R=>tl σ H fun x H1=>∃ a,x = .ref a ∧ (∃ xs,SqT K H1 a xs) ∧ R (Itt K a) H1
theorem pi_list {l:Expr} {tl:TE} (hl:PE X l tl):PI X tg l (iList X.K tl):=by
 intro pins s σ H R I h
 refine thn (hl pins s σ H _ I h) fun v s1 ⟨x,H1,I1,r1,q1⟩=>?_
 obtain ⟨a,e,⟨xs,hq⟩,q⟩:=q1
 subst e
 cases r1
 obtain ⟨its,rv,p,hz⟩:=I1.list hq
 refine wpAny_pyIter_list p.isList ?_
 refine ⟨s1.heap.objs.size,[s1.heap.objs.size],_,_,H1,rfl,I1.kept (t':=s1.toks) fun b o e=>Heap.get?_push_of_some _ e,turn_list a _,⟨_,Heap.get?_push_size _ rfl,rfl,rfl⟩,fun b hb=>?_,q⟩
 have e:b = s1.heap.objs.size:=by simpa using hb
 subst e
 exact I1.fpOk (Nat.le_refl _) (I1.hok.fresh (Nat.le_refl _))
theorem pi_tup {l:Expr} {tl:TE} (hl:PE X l tl):PI X tg l (iTup X.K tl):=by
 intro pins s σ H R I h
 refine thn (hl pins s σ H _ I h) fun v s1 ⟨x,H1,I1,r1,q1⟩=>?_
 obtain ⟨a,e,⟨xs,hq⟩,q⟩:=q1
 subst e
 cases r1
 obtain ⟨its,rv,p,hz⟩:=I1.tuple hq
 refine wpAny_pyIter_tuple (show s1.heap.IsTuple a its.toArray from p) ?_
 refine ⟨s1.heap.objs.size,[s1.heap.objs.size],_,_,H1,rfl,I1.kept (t':=s1.toks) fun b o e=>Heap.get?_push_of_some _ e,turn_tuple a _,⟨_,Heap.get?_push_size _ rfl,rfl,rfl⟩,fun b hb=>?_,q⟩
 have e:b = s1.heap.objs.size:=by simpa using hb
 subst e
 exact I1.fpOk (Nat.le_refl _) (I1.hok.fresh (Nat.le_refl _))
theorem range_it {pins:List (Addr × Obj)} {σ:St} {H:Hp} {s:Shared} {R:It → Hp → Prop} {E:Value → Shared → Prop} {lo hi:Int} {t u v:Tok} {tk:Nat} (I:Inv X pins σ H s) (h1:-(2 ^ 62) ≤ lo) (h2:lo < 2 ^ 62) (h3:-(2 ^ 62) ≤ hi) (h4:hi < 2 ^ 62)
  (q:R (Itr lo (hi - lo).toNat) H):wpAny (model X.prog X.w) X.A (pyIter (.ref s.heap.objs.size)) (PIE X pins σ tg R) E { s with heap:=s.heap.push { cls:=.type "range",data:=.fields #[.int lo t,.int hi u,.int 1 v] },toks:=tk }:=by
 refine wpAny_pyIter_range (IsRange.new ..) (small_one h1 h2 h3 h4) ?_
 have I1:Inv X pins σ H { s with heap:=s.heap.push { cls:=.type "range",data:=.fields #[.int lo t,.int hi u,.int 1 v] },toks:=tk }:=I.kept fun b o e=>Heap.get?_push_of_some _ e
 refine ⟨(s.heap.push { cls:=.type "range",data:=.fields #[.int lo t,.int hi u,.int 1 v] }).objs.size,[(s.heap.push { cls:=.type "range",data:=.fields #[.int lo t,.int hi u,.int 1 v] }).objs.size],_,_,H,rfl,
  I1.kept (t':=tk) fun b o e=>Heap.get?_push_of_some _ e,turn_range _ lo (hi - lo).toNat,?_,fun b hb=>?_,q⟩
 ·have e1:lo + ((0:Nat):Int) * 1 = lo:=by simp
  have e2:(((hi - lo).toNat:Nat):Int) - ((0:Nat):Int) = Builtin.Range.rangeSize lo hi 1:=by rw [rangeSize_one]; split <;> omega
  show IsRangeIter _ _ (lo + ((0:Nat):Int) * 1) ((((hi - lo).toNat:Nat):Int) - ((0:Nat):Int)) 1
  rw [e1,e2]
  exact Heap.get?_push_size _ rfl
 ·have e:b = (s.heap.push { cls:=.type "range",data:=.fields #[.int lo t,.int hi u,.int 1 v] }).objs.size:=by simpa using hb
  subst e
  exact I1.fpOk (Nat.le_refl _) (I1.hok.fresh (Nat.le_refl _))
def iRng1 (ta:TA):TI:=fun σ H R=>ta σ H fun vs H1=>∃ j:Int,vs = [.int j] ∧ -(2 ^ 62) ≤ j ∧ j < 2 ^ 62 ∧ R (Itr 0 j.toNat) H1
def iRng2 (ta:TA):TI:=fun σ H R=>ta σ H fun vs H1=>∃ i j:Int,vs = [.int i,.int j] ∧ (-(2 ^ 62) ≤ i ∧ i < 2 ^ 62 ∧ -(2 ^ 62) ≤ j ∧ j < 2 ^ 62) ∧ R (Itr i (j - i).toNat) H1
theorem pi_range1 {a:Expr} {ta:TA} {p pos:Pos} (hg:Gl X "range") (hm:X.mg "range" = none) (ha:PA X [a] ta) (hs:starEach [a] X.env = [(false,eval a X.env)]:=by rfl):PI X tg (.Call (.Name "range" p) [a] [] pos) (iRng1 ta):=by
 intro pins s σ H R I h
 refine Call_ (ld_blt I hg hm boot_range (PyProof.Rows.callWith_type1 (thn (ha pos pins s σ H _ I h) fun us s1 ⟨vs,H1,I1,r1,q1⟩=>?_) hs rfl))
 obtain ⟨j,e,q1,q2,q⟩:=q1
 subst e
 cases r1 with
 | cons r rr =>
  cases rr
  obtain ⟨t,rfl⟩:=r
  exact call_range_1 (range_it I1 (by omega) (by omega) q1 q2 (by simpa using q))
theorem pi_range2 {a b:Expr} {ta:TA} {p pos:Pos} (hg:Gl X "range") (hm:X.mg "range" = none) (ha:PA X [a,b] ta) (hs:starEach [a,b] X.env = [(false,eval a X.env),(false,eval b X.env)]:=by rfl) (hs2:starEach [b] X.env = [(false,eval b X.env)]:=by rfl) :
  PI X tg (.Call (.Name "range" p) [a,b] [] pos) (iRng2 ta):=by
 intro pins s σ H R I h
 refine Call_ (ld_blt I hg hm boot_range (PyProof.Rows.callWith_type1 (thn (ha pos pins s σ H _ I h) fun us s1 ⟨vs,H1,I1,r1,q1⟩=>?_) (by rw [hs,hs2]) (by rw [hs2]; rfl)))
 obtain ⟨i,j,e,⟨q1,q2,q3,q4⟩,q⟩:=q1
 subst e
 cases r1 with
 | cons r rr =>
  cases rr with
  | cons r' rr =>
   cases rr
   obtain ⟨t,rfl⟩:=r
   obtain ⟨t',rfl⟩:=r'
   exact call_range_2 (range_it I1 q1 q2 q3 q4 q)
def tFor (wi:TI) (g:TG) (tb:TS):TS:=fun D σ H=>wi σ H fun J H1=>∃ W:Nat → Nat → St → Hp → Prop,(∃ m,W 0 m σ H1) ∧ ∀ i m σ H,W i m σ H →
 (J.stop i H ∧ D.nx σ H) ∨ (J.go i H ∧ ∃ N:St → Hp → Prop,(∀ σ' H',N σ' H' → ∃ m',m' < m ∧ W (i + 1) m' σ' H') ∧ ∀ x H',J.yld i H x H' → g x σ H' fun σ2 H2=>tb { D with nx:=N,ct:=N,bk:=D.nx } σ2 H2)
def pinsAt (fp:List Addr) (h:Heap):List (Addr × Obj):=fp.filterMap fun b=>(h.get? b).map fun o=>(b,o)
theorem mem_pinsAt {fp:List Addr} {h:Heap} {b:Addr} {o:Obj} (hb:b ∈ fp) (e:h.get? b = some o):(b,o) ∈ pinsAt fp h:=List.mem_filterMap.mpr ⟨b,hb,by rw [e]; rfl⟩
theorem of_pinsAt {fp:List Addr} {h:Heap} {p:Addr × Obj} (hp:p ∈ pinsAt fp h):p.1 ∈ fp ∧ h.get? p.1 = some p.2:=by
 obtain ⟨b,hb,e⟩:=List.mem_filterMap.mp hp
 cases q:h.get? b with
 | none=>rw [q] at e; cases e
 | some o =>
  rw [q] at e
  have e':(b,o) = p:=Option.some.inj e
  subst e'
  exact ⟨hb,q⟩
theorem Inv.pinned {pins:List (Addr × Obj)} {σ:St} {H:Hp} {s:Shared} {fp:List Addr} (I:Inv X pins σ H s) (hf:∀ b ∈ fp,FpOk X pins H b) (ho:∀ b ∈ fp,∃ o,s.heap.get? b = some o ∧ ∀ v,o.data ≠ .cell v):Inv X (pins ++ pinsAt fp s.heap) σ H s :=
 I.pins_of fun p hp=>(List.mem_append.mp hp).elim (fun z=>I.pin p (List.mem_append_right _ z)) fun z=>by
  obtain ⟨hb,e⟩:=of_pinsAt z
  obtain ⟨f0,f1,f2,_⟩:=hf p.1 hb
  obtain ⟨o,e',d⟩:=ho p.1 hb
  rw [e] at e'; cases e'
  exact ⟨e,f0,f1,f2,d⟩
theorem Inv.unpinned {pins pl:List (Addr × Obj)} {σ:St} {H:Hp} {s:Shared} (I:Inv X (pins ++ pl) σ H s):Inv X pins σ H s:=I.pins_of fun p hp=>I.pin p (List.mem_append_right _ (List.mem_append_left _ hp))
theorem ps_for {iter:Expr} {body:List Stmt} {wi:TI} {g:TG} {tb:TS} {pos:Pos} (hp:PassesOwn (model X.prog X.w) X.A X.env X.xe) (hc:X.calm = true) (hi:PI X tg iter wi) (hg:PG X tg g) (hb:PSs X body tb)
  (hs:∀ x,foldedSetIterable iter X.env x = pure x:=by intro _; rfl):PS X (.For tg iter body [] pos) (tFor wi g tb):=by
 intro pins s σ H D I h
 refine wpAny_For (thn (hi pins s σ H _ I h) fun v s1 h1=>thn h1 fun itv s2 h2=>?_) hs
 obtain ⟨it,fp,tn,J,H2,e,I2,T,st2,f2,W,⟨m0,w0⟩,turn⟩:=h2
 subst e
 have stat:∀ {H':Hp},(∀ b ∈ fp,H' b = none) → ∀ b ∈ fp,FpOk X pins H' b:=fun hn b hb=>⟨hn b hb,(f2 b hb).2⟩
 refine codeAny_forLoop_any (fun n s'=>∃ i σ' H',Inv X pins σ' H' s' ∧ tn i s'.heap ∧ (∀ b ∈ fp,H' b = none) ∧ W i n σ' H') ?_ m0 ⟨0,σ,H2,I2,st2,fun b hb=>(f2 b hb).1,w0⟩
 rintro n s3 ⟨i,σ3,H3,I3,st3,fr3,w3⟩
 rcases turn i n σ3 H3 w3 with ⟨stop,qn⟩ | ⟨go,N,hN,step⟩
 ·refine wpAny_passesOwn hp (thn (T.done X rfl rfl rfl hc i pins s3 σ3 H3 X.xe I3 (stat fr3) st3 stop) fun r s4 ⟨hr,I4⟩=>?_)
  subst hr
  exact wpAny_execs_nil ⟨σ3,H3,I4,qn⟩
 ·refine wpAny_passesOwn hp (thn (T.item X rfl rfl rfl hc i pins s3 σ3 H3 X.xe I3 (stat fr3) st3 go) fun r s4 ⟨u,hr,h4⟩=>?_)
  subst hr
  refine wpAny_passesOwn hp (thn h4 fun _ s5 ⟨x,H5,I5,r5,y5,st5,fr5⟩=>?_)
  have I5':=I5.pinned (stat fr5) (T.obj _ _ st5)
  refine wpAny_passesOwn hp (thn (hg _ s5 σ3 H5 x u _ I5' r5 (step x H5 y5)) fun _ s6 ⟨σ6,H6,I6,q6⟩=>?_)
  refine wpAny_passesOwn hp (thn (hb _ s6 σ6 H6 _ I6 q6) fun f s7 q7=>?_)
  have again:∀ {σ7:St} {H7:Hp},Inv X (pins ++ pinsAt fp s5.heap) σ7 H7 s7 → N σ7 H7 → ∃ m,m < n ∧ ∃ i σ' H',Inv X pins σ' H' s7 ∧ tn i s7.heap ∧ (∀ b ∈ fp,H' b = none) ∧ W i m σ' H':=fun {σ7 H7} I7 n7=>by
   obtain ⟨m',hm,w7⟩:=hN σ7 H7 n7
   refine ⟨m',hm,i + 1,σ7,H7,I7.unpinned,T.keep _ _ _ st5 fun b hb o e=>(I7.pin (b,o) (List.mem_append_right _ (List.mem_append_right _ (mem_pinsAt hb e)))).1,fun b hb=>?_,w7⟩
   obtain ⟨o,e,d⟩:=T.obj _ _ st5 b hb
   exact (I7.pin (b,o) (List.mem_append_right _ (List.mem_append_right _ (mem_pinsAt hb e)))).2.1
  cases f with
  | next=>obtain ⟨σ7,H7,I7,n7⟩:=q7; exact again I7 n7
  | cont=>obtain ⟨σ7,H7,I7,n7⟩:=q7; exact again I7 n7
  | brk=>obtain ⟨σ7,H7,I7,q7⟩:=q7; exact ⟨σ7,H7,I7.unpinned,q7⟩
  | ret v=>obtain ⟨x7,σ7,H7,I7,r7,q7⟩:=q7; exact ⟨x7,σ7,H7,I7.unpinned,r7,q7⟩
end
theorem for_list {K:PySem.W.Frag} {a:Addr} {xs:List V} {g:TG} {tb:TS} {D:Ends} {σ:St} {H:Hp} (Pv:Nat → St → Hp → Prop) (h0:Pv 0 σ H) (hl:∀ i σ H,i ≤ xs.length → Pv i σ H → SqL K H a xs)
  (hs:∀ i x σ H,xs[i]? = some x → Pv i σ H → g x σ H fun σ2 H2=>tb { D with nx:=Pv (i + 1),ct:=Pv (i + 1),bk:=D.nx } σ2 H2) (hd:∀ σ H,Pv xs.length σ H → D.nx σ H) :
  ∃ W:Nat → Nat → St → Hp → Prop,(∃ m,W 0 m σ H) ∧ ∀ i m σ H,W i m σ H →
   ((Itl K a).stop i H ∧ D.nx σ H) ∨ ((Itl K a).go i H ∧ ∃ N:St → Hp → Prop,(∀ σ' H',N σ' H' → ∃ m',m' < m ∧ W (i + 1) m' σ' H') ∧ ∀ x H',(Itl K a).yld i H x H' → g x σ H' fun σ2 H2=>tb { D with nx:=N,ct:=N,bk:=D.nx } σ2 H2):=by
 refine ⟨fun i m σ H=>m = xs.length - i ∧ i ≤ xs.length ∧ Pv i σ H,⟨xs.length,by simp,Nat.zero_le _,h0⟩,?_⟩
 rintro i m σ H ⟨rfl,hi,p⟩
 have q:=hl i σ H hi p
 by_cases hlt:i < xs.length
 ·refine .inr ⟨⟨xs,xs[i],q,by simp [hlt]⟩,Pv (i + 1),fun σ' H' p'=>⟨xs.length - (i + 1),by omega,rfl,hlt,p'⟩,fun x H' y=>?_⟩
  obtain ⟨e,y⟩:=y
  subst e
  exact hs i x σ _ (y xs q) p
 ·have e:i = xs.length:=by omega
  subst e
  exact .inl ⟨⟨xs,q,Nat.le_refl _⟩,hd σ H p⟩
theorem for_tup {K:PySem.W.Frag} {a:Addr} {xs:List V} {g:TG} {tb:TS} {D:Ends} {σ:St} {H:Hp} (Pv:Nat → St → Hp → Prop) (h0:Pv 0 σ H) (hl:∀ i σ H,i ≤ xs.length → Pv i σ H → SqT K H a xs)
  (hs:∀ i x σ H,xs[i]? = some x → Pv i σ H → g x σ H fun σ2 H2=>tb { D with nx:=Pv (i + 1),ct:=Pv (i + 1),bk:=D.nx } σ2 H2) (hd:∀ σ H,Pv xs.length σ H → D.nx σ H) :
  ∃ W:Nat → Nat → St → Hp → Prop,(∃ m,W 0 m σ H) ∧ ∀ i m σ H,W i m σ H →
   ((Itt K a).stop i H ∧ D.nx σ H) ∨ ((Itt K a).go i H ∧ ∃ N:St → Hp → Prop,(∀ σ' H',N σ' H' → ∃ m',m' < m ∧ W (i + 1) m' σ' H') ∧ ∀ x H',(Itt K a).yld i H x H' → g x σ H' fun σ2 H2=>tb { D with nx:=N,ct:=N,bk:=D.nx } σ2 H2):=by
 refine ⟨fun i m σ H=>m = xs.length - i ∧ i ≤ xs.length ∧ Pv i σ H,⟨xs.length,by simp,Nat.zero_le _,h0⟩,?_⟩
 rintro i m σ H ⟨rfl,hi,p⟩
 have q:=hl i σ H hi p
 by_cases hlt:i < xs.length
 ·refine .inr ⟨⟨xs,xs[i],q,by simp [hlt]⟩,Pv (i + 1),fun σ' H' p'=>⟨xs.length - (i + 1),by omega,rfl,hlt,p'⟩,fun x H' y=>?_⟩
  obtain ⟨e,y⟩:=y
  subst e
  exact hs i x σ _ (y xs q) p
 ·have e:i = xs.length:=by omega
  subst e
  exact .inl ⟨⟨xs,q,Nat.le_refl _⟩,hd σ H p⟩
theorem for_range {lo:Int} {n:Nat} {g:TG} {tb:TS} {D:Ends} {σ:St} {H:Hp} (Pv:Nat → St → Hp → Prop) (h0:Pv 0 σ H)
  (hs:∀ i σ H,i < n → Pv i σ H → g (.int (lo + i)) σ H fun σ2 H2=>tb { D with nx:=Pv (i + 1),ct:=Pv (i + 1),bk:=D.nx } σ2 H2) (hd:∀ σ H,Pv n σ H → D.nx σ H) :
  ∃ W:Nat → Nat → St → Hp → Prop,(∃ m,W 0 m σ H) ∧ ∀ i m σ H,W i m σ H →
   ((Itr lo n).stop i H ∧ D.nx σ H) ∨ ((Itr lo n).go i H ∧ ∃ N:St → Hp → Prop,(∀ σ' H',N σ' H' → ∃ m',m' < m ∧ W (i + 1) m' σ' H') ∧ ∀ x H',(Itr lo n).yld i H x H' → g x σ H' fun σ2 H2=>tb { D with nx:=N,ct:=N,bk:=D.nx } σ2 H2):=by
 refine ⟨fun i m σ H=>m = n - i ∧ i ≤ n ∧ Pv i σ H,⟨n,by simp,Nat.zero_le _,h0⟩,?_⟩
 rintro i m σ H ⟨rfl,hi,p⟩
 by_cases hlt:i < n
 ·refine .inr ⟨hlt,Pv (i + 1),fun σ' H' p'=>⟨n - (i + 1),by omega,rfl,hlt,p'⟩,fun x H' y=>?_⟩
  obtain ⟨e,y⟩:=y
  subst e y
  exact hs i σ _ hlt p
 ·have e:i = n:=by omega
  subst e
  exact .inl ⟨Nat.le_refl _,hd σ H p⟩
end L2
namespace L2
open PySem PySem.Spec PyProof.Rows
abbrev R2:=V → V → Hp → VK → Prop
def OpR (X:Cx) (f:Value → Value → Sem Value) (r:R2):Prop :=
 ∀ (pins:List (Addr × Obj)) (s:Shared) (σ:St) (H:Hp) (x y:V) (v u:Value) (Q:VK),Inv X pins σ H s → RelV x v → RelV y u → r x y H Q →
  wpAny (model X.prog X.w) X.A (f v u) (EP X pins σ Q) X.xe s
def CallR (X:Cx) (f:Value) (r:List V → Hp → VK → Prop):Prop :=
 ∀ (pins:List (Addr × Obj)) (s:Shared) (σ:St) (H:Hp) (xs:List V) (us:List Value) (Q:VK),Inv X pins σ H s → Vals xs us → r xs H Q →
  wpAny (model X.prog X.w) X.A (call f us) (EP X pins σ Q) X.xe s
def tOp (r:R2) (ta tb:TE):TE:=fun σ H Q=>ta σ H fun x H1=>tb σ H1 fun y H2=>r x y H2 Q
def rI (C:Int → Int → Prop) (g:Int → Int → V):R2:=fun x y H Q=>∃ i j,x = .int i ∧ y = .int j ∧ C i j ∧ Q (g i j) H
def rI0 (g:Int → Int → V):R2:=fun x y H Q=>∃ i j,x = .int i ∧ y = .int j ∧ Q (g i j) H
section
variable {X:Cx} {a b c:Expr} {ta tb tc:TE} {pos:Pos}
theorem binT (ha:PE X a ta) (hb:PE X b tb) {pins:List (Addr × Obj)} {s:Shared} {σ:St} {H:Hp} {R:V → V → Hp → Prop} (I:Inv X pins σ H s)
  (h:ta σ H fun x H1=>tb σ H1 fun y H2=>R x y H2) {Q:Value → Shared → Prop} {f:Value → Value → Sem Value}
  (hf:∀ v u s2 x y H2,Inv X pins σ H2 s2 → RelV x v → RelV y u → R x y H2 → wpAny (model X.prog X.w) X.A (f v u) Q X.xe s2) :
  wpAny (model X.prog X.w) X.A (eval a X.env) (fun v s₁=>wpAny (model X.prog X.w) X.A (eval b X.env) (fun u s₂=>wpAny (model X.prog X.w) X.A (f v u) Q X.xe s₂) X.xe s₁) X.xe s:=by
 refine thn (ha pins s σ H _ I h) fun v s1 ⟨x,H1,I1,r1,q1⟩=>?_
 refine thn (hb pins s1 σ H1 _ I1 q1) fun u s2 ⟨y,H2,I2,r2,q2⟩=>?_
 exact hf v u s2 x y H2 I2 r1 r2 q2
theorem pe_op {op:Operator} {r:R2} (ho:OpR X (binaryOp op) r) (ha:PE X a ta) (hb:PE X b tb):PE X (.BinOp a op b pos) (tOp r ta tb):=by
 intro pins s σ H Q I h
 exact wpAny_BinOp (binT ha hb I h fun v u s2 x y H2 I2 rx ry q=>ho pins s2 σ H2 x y v u Q I2 rx ry q)
theorem opI {f:Value → Value → Sem Value} {C:Int → Int → Prop} {g:Int → Int → Int}
  (rule:∀ (i j:Int) (t u:Tok) (s:Shared) (Q:Value → Shared → Prop) (E:Value → Shared → Prop),C i j → Q (.int (g i j) s.toks) { s with toks:=s.toks + 1 } → wpAny (model X.prog X.w) X.A (f (.int i t) (.int j u)) Q E s) :
  OpR X f (rI C fun i j=>.int (g i j)):=by
 intro pins s σ H x y v u Q I rx ry h
 obtain ⟨i,j,rfl,rfl,hc,q⟩:=h
 obtain ⟨t,rfl⟩:=rx
 obtain ⟨t',rfl⟩:=ry
 exact rule i j t t' s _ _ hc ⟨.int (g i j),H,I.tok _,⟨_,rfl⟩,q⟩
theorem opI0 {f:Value → Value → Sem Value} {g:Int → Int → Int}
  (rule:∀ (i j:Int) (t u:Tok) (s:Shared) (Q:Value → Shared → Prop) (E:Value → Shared → Prop),Q (.int (g i j) s.toks) { s with toks:=s.toks + 1 } → wpAny (model X.prog X.w) X.A (f (.int i t) (.int j u)) Q E s) :
  OpR X f (rI0 fun i j=>.int (g i j)):=by
 intro pins s σ H x y v u Q I rx ry h
 obtain ⟨i,j,rfl,rfl,q⟩:=h
 obtain ⟨t,rfl⟩:=rx
 obtain ⟨t',rfl⟩:=ry
 exact rule i j t t' s _ _ ⟨.int (g i j),H,I.tok _,⟨_,rfl⟩,q⟩
theorem opB0 {f:Value → Value → Sem Value} {g:Int → Int → Bool}
  (rule:∀ (i j:Int) (t u:Tok) (s:Shared) (Q:Value → Shared → Prop) (E:Value → Shared → Prop),Q (.bool (g i j)) s → wpAny (model X.prog X.w) X.A (f (.int i t) (.int j u)) Q E s) :
  OpR X f (rI0 fun i j=>.bl (g i j)):=by
 intro pins s σ H x y v u Q I rx ry h
 obtain ⟨i,j,rfl,rfl,q⟩:=h
 obtain ⟨t,rfl⟩:=rx
 obtain ⟨t',rfl⟩:=ry
 exact rule i j t t' s _ _ ⟨.bl (g i j),H,I,rfl,q⟩
def CMul (i j:Int):Prop:=(-(2 ^ 64) < i ∧ i < 2 ^ 64) ∨ (-(2 ^ 64) < j ∧ j < 2 ^ 64)
theorem CMul.ok {i j:Int} (h:CMul i j):IntMulOk i j:=by
 rcases h with ⟨h1,h2⟩ | ⟨h1,h2⟩
 ·exact .of_left (intBits_le_64 h1 h2)
 ·exact .of_right (intBits_le_64 h1 h2)
theorem op_add:OpR X (binaryOp .Add) (rI0 fun i j=>.int (i + j)):=opI0 fun _ _ _ _ _ _ _ q=>add_int q
theorem op_mul:OpR X (binaryOp .Mult) (rI CMul fun i j=>.int (i * j)):=opI fun _ _ _ _ _ _ _ hc q=>mul_int q hc.ok
theorem op_mod:OpR X (binaryOp .Mod) (rI (fun _ j=>0 < j) fun i j=>.int (i % j)):=opI fun i j _ _ _ _ _ hc q=>by
 have h1:(0:Int) < j:=hc
 exact mod_int' (by omega) (by rw [Int.fmod_eq_emod_of_nonneg i (by omega)]; exact q)
end
def scal:V → V → Bool
 | .non,.non=>true | .non,.int _=>true | .int _,.non=>true | .non,.bl _=>true | .bl _,.non=>true | .non,.str _=>true | .str _,.non=>true
 | .int _,.int _=>true | .bl _,.bl _=>true | .str _,.str _=>true | .byt _,.byt _=>true
 | .int _,.str _=>true | .str _,.int _=>true | .bl _,.str _=>true | .str _,.bl _=>true
 | _,_=>false
def rEq:R2:=fun x y H Q=>scal x y = true ∧ Q (.bl (decide (x = y))) H
def rNe:R2:=fun x y H Q=>scal x y = true ∧ Q (.bl (!decide (x = y))) H
theorem dec_int {i j:Int}:decide (V.int i = V.int j) = (i == j):=by
 rw [Bool.eq_iff_iff]
 simp
theorem dec_bl {i j:Bool}:decide (V.bl i = V.bl j) = (i == j):=by
 rw [Bool.eq_iff_iff]
 simp
theorem dec_str {i j:Str}:decide (V.str i = V.str j) = (i == j):=by
 rw [Bool.eq_iff_iff]
 simp
theorem dec_byt {i j:Array UInt8}:decide (V.byt i = V.byt j) = (i.toList == j.toList):=by
 rw [Bool.eq_iff_iff]
 cases i
 cases j
 simp
section
variable {X:Cx} {a b c:Expr} {ta tb tc:TE} {pos:Pos}
theorem fin_bl {pins:List (Addr × Obj)} {σ:St} {H:Hp} {s:Shared} {Q:VK} {k k':Bool} (I:Inv X pins σ H s) (q:Q (.bl k) H) (e:k = k'):EP X pins σ Q (.bool k') s:=by
 subst e
 exact ⟨.bl k,H,I,rfl,q⟩
theorem op_eq:OpR X (compareOp .Eq) rEq:=by
 intro pins s σ H x y v u Q I rx ry h
 obtain ⟨hs,q⟩:=h
 cases x with
 | non =>
  cases rx
  cases y with
  | non=>cases ry; exact PySem.EqNone.eq_none_none (fin_bl I q (by simp))
  | bl j=>cases ry; exact PySem.EqNone.eq_none_bool (fin_bl I q (by simp))
  | int j=>obtain ⟨t',rfl⟩:=ry; exact PySem.EqNone.eq_none_int (fin_bl I q (by simp))
  | str j=>obtain ⟨t',rfl⟩:=ry; exact PySem.EqNone.eq_none_str (fin_bl I q (by simp))
  | _=>exact absurd (show false = true from hs) Bool.false_ne_true
 | bl i =>
  cases rx
  cases y with
  | non=>cases ry; exact PySem.EqNone.eq_bool_none (fin_bl I q (by simp))
  | bl j=>cases ry; exact eq_bool (fin_bl I q dec_bl)
  | str j=>obtain ⟨t',rfl⟩:=ry; exact PySem.EqMixed.eq_bool_str (fin_bl I q (by simp))
  | _=>exact absurd (show false = true from hs) Bool.false_ne_true
 | int i =>
  obtain ⟨t,rfl⟩:=rx
  cases y with
  | non=>cases ry; exact PySem.EqNone.eq_int_none (fin_bl I q (by simp))
  | int j=>obtain ⟨t',rfl⟩:=ry; exact eq_int (fin_bl I q dec_int)
  | str j=>obtain ⟨t',rfl⟩:=ry; exact PySem.EqMixed.eq_int_str (fin_bl I q (by simp))
  | _=>exact absurd (show false = true from hs) Bool.false_ne_true
 | str i =>
  obtain ⟨t,rfl⟩:=rx
  cases y with
  | non=>cases ry; exact PySem.EqNone.eq_str_none (fin_bl I q (by simp))
  | bl j=>cases ry; exact PySem.EqMixed.eq_str_bool (fin_bl I q (by simp))
  | int j=>obtain ⟨t',rfl⟩:=ry; exact PySem.EqMixed.eq_str_int (fin_bl I q (by simp))
  | str j=>obtain ⟨t',rfl⟩:=ry; exact eq_str (fin_bl I q dec_str)
  | _=>exact absurd (show false = true from hs) Bool.false_ne_true
 | byt i =>
  obtain ⟨t,rfl⟩:=rx
  cases y with
  | byt j=>obtain ⟨t',rfl⟩:=ry; exact PySem.W.eq_bytes (fin_bl I q dec_byt)
  | _=>exact absurd (show false = true from hs) Bool.false_ne_true
 | _=>cases y <;> exact absurd (show false = true from hs) Bool.false_ne_true
theorem op_ne:OpR X (compareOp .NotEq) rNe:=by
 intro pins s σ H x y v u Q I rx ry h
 obtain ⟨hs,q⟩:=h
 cases x with
 | non =>
  cases rx
  cases y with
  | non=>cases ry; exact PySem.EqNone.ne_none_none (fin_bl I q (by simp))
  | bl j=>cases ry; exact PySem.EqNone.ne_none_bool (fin_bl I q (by simp))
  | int j=>obtain ⟨t',rfl⟩:=ry; exact PySem.EqNone.ne_none_int (fin_bl I q (by simp))
  | str j=>obtain ⟨t',rfl⟩:=ry; exact PySem.EqNone.ne_none_str (fin_bl I q (by simp))
  | _=>exact absurd (show false = true from hs) Bool.false_ne_true
 | bl i =>
  cases rx
  cases y with
  | non=>cases ry; exact PySem.EqNone.ne_bool_none (fin_bl I q (by simp))
  | bl j=>cases ry; exact ne_bool (fin_bl I q (congrArg not dec_bl))
  | str j=>obtain ⟨t',rfl⟩:=ry; exact PySem.EqMixed.ne_bool_str (fin_bl I q (by simp))
  | _=>exact absurd (show false = true from hs) Bool.false_ne_true
 | int i =>
  obtain ⟨t,rfl⟩:=rx
  cases y with
  | non=>cases ry; exact PySem.EqNone.ne_int_none (fin_bl I q (by simp))
  | int j=>obtain ⟨t',rfl⟩:=ry; exact ne_int (fin_bl I q (congrArg not dec_int))
  | str j=>obtain ⟨t',rfl⟩:=ry; exact PySem.EqMixed.ne_int_str (fin_bl I q (by simp))
  | _=>exact absurd (show false = true from hs) Bool.false_ne_true
 | str i =>
  obtain ⟨t,rfl⟩:=rx
  cases y with
  | non=>cases ry; exact PySem.EqNone.ne_str_none (fin_bl I q (by simp))
  | bl j=>cases ry; exact PySem.EqMixed.ne_str_bool (fin_bl I q (by simp))
  | int j=>obtain ⟨t',rfl⟩:=ry; exact PySem.EqMixed.ne_str_int (fin_bl I q (by simp))
  | str j=>obtain ⟨t',rfl⟩:=ry; exact ne_str (fin_bl I q (congrArg not dec_str))
  | _=>exact absurd (show false = true from hs) Bool.false_ne_true
 | byt i =>
  obtain ⟨t,rfl⟩:=rx
  cases y with
  | byt j=>obtain ⟨t',rfl⟩:=ry; exact PySem.W.ne_bytes (fin_bl I q (congrArg not dec_byt))
  | _=>exact absurd (show false = true from hs) Bool.false_ne_true
 | _=>cases y <;> exact absurd (show false = true from hs) Bool.false_ne_true
theorem op_lt:OpR X (compareOp .Lt) (rI0 fun i j=>.bl (decide (i < j))):=opB0 fun _ _ _ _ _ _ _ q=>lt_int q
theorem op_in_str:OpR X (compareOp .In) (fun x y H Q=>∃ i j,x = .str i ∧ y = .str j ∧ Q (.bl (!(Builtin.Str.occurrences j i 0 j.length 1).isEmpty)) H):=by
 intro pins s σ H x y v u Q I rx ry h
 obtain ⟨i,j,rfl,rfl,q⟩:=h
 obtain ⟨t,rfl⟩:=rx
 obtain ⟨t',rfl⟩:=ry
 exact in_str (fin_bl I q rfl)
theorem op_isN:OpR X (compareOp .Is) (fun x y H Q=>y = .non ∧ Q (.bl (decide (x = .non))) H):=by
 intro pins s σ H x y v u Q I rx ry h
 obtain ⟨rfl,q⟩:=h
 cases ry
 refine is_none_gen (fin_bl I q ?_)
 cases x <;> first
  | (cases rx; rfl)
  | (obtain ⟨t,rfl⟩:=rx; rfl)
theorem nomark (b:Expr) {op:CmpOp} (h:op ≠ .In:=by decide) (h2:op ≠ .NotIn:=by decide):behindInMarks op b = false:=by
 have e1:(op == CmpOp.In) = false:=by cases op <;> first | rfl | exact absurd rfl h
 have e2:(op == CmpOp.NotIn) = false:=by cases op <;> first | rfl | exact absurd rfl h2
 cases b <;> simp [behindInMarks,e1,e2]
theorem pe_cmpR {op:CmpOp} {r:R2} (ho:OpR X (compareOp op) r) (ha:PE X a ta) (hb:PE X b tb) (hm:behindInMarks op b = false):PE X (.Compare a [op] [b] pos) (tOp r ta tb):=by
 intro pins s σ H Q I h
 exact wpAny_Compare1 (binT ha hb I h fun v u s2 x y H2 I2 rx ry q=>ho pins s2 σ H2 x y v u Q I2 rx ry q) hm
def tTest (t:TE):TT:=fun σ H Q=>t σ H fun x H'=>∃ k,x = .bl k ∧ Q k H'
theorem pt_cmpR {op:CmpOp} {r:R2} (ho:OpR X (compareOp op) r) (ha:PE X a ta) (hb:PE X b tb) (hm:behindInMarks op b = false):PT X (.Compare a [op] [b] pos) (tTest (tOp r ta tb)):=by
 intro pins s σ H Q I h
 refine wpAny_isTrue_Compare1 (thn (ha pins s σ H _ I h) fun v s1 ⟨x,H1,I1,r1,q1⟩=>thn (hb pins s1 σ H1 _ I1 q1) fun u s2 ⟨y,H2,I2,r2,q2⟩ =>
  thn (ho pins s2 σ H2 x y v u _ I2 r1 r2 q2) fun c s3 ⟨z,H3,I3,r3,k,e,q3⟩=>?_) hm
 subst e
 cases r3
 exact wpAny_truthy_bool ⟨H3,I3,q3⟩
theorem line63:(sizeLine:Nat) < 2 ^ 63:=by rw [sizeLine_eq]; decide
theorem op_add_str:OpR X (binaryOp .Add) (fun x y H Q=>∃ i j,x = .str i ∧ y = .str j ∧ i.length + j.length ≤ sizeLine ∧ Q (.str (i ++ j)) H):=by
 intro pins s σ H x y v u Q I rx ry h
 obtain ⟨i,j,rfl,rfl,hz,q⟩:=h
 obtain ⟨t,rfl⟩:=rx
 obtain ⟨t',rfl⟩:=ry
 exact add_str (fun t' tk=>⟨.str (i ++ j),H,I.tok _,⟨_,rfl⟩,q⟩) hz
theorem vals1 {x:V} {us:List Value} (r:Vals [x] us):∃ u,us = [u] ∧ RelV x u:=by
 cases r with
 | cons r1 r2=>cases r2; exact ⟨_,rfl,r1⟩
theorem vals2 {x y:V} {us:List Value} (r:Vals [x,y] us):∃ u w',us = [u,w'] ∧ RelV x u ∧ RelV y w':=by
 cases r with
 | cons r1 r2 =>
  cases r2 with
  | cons r3 r4=>cases r4; exact ⟨_,_,rfl,r1,r3⟩
theorem call_min2 (hc:X.calm = true):CallR X (.builtin "min") (fun xs H Q=>∃ i j,xs = [.int i,.int j] ∧ Q (.int (if j < i then j else i)) H):=by
 intro pins s σ H xs us Q I r h
 obtain ⟨i,j,rfl,q⟩:=h
 obtain ⟨u,w',rfl,⟨t,rfl⟩,⟨t',rfl⟩⟩:=vals2 r
 refine min_two_ints (I.ok.hd hc) fun h' tk k=>⟨_,H,I.kept k,?_,q⟩
 by_cases hj:j < i
 ·rw [if_pos hj,if_pos hj]; exact ⟨_,rfl⟩
 ·rw [if_neg hj,if_neg hj]; exact ⟨_,rfl⟩
theorem call_int1:CallR X (.type "int") (fun xs H Q=>(∃ i,xs = [.int i] ∧ Q (.int i) H) ∨ ∃ k,xs = [.bl k] ∧ Q (.int (if k then 1 else 0)) H):=by
 intro pins s σ H xs us Q I r h
 rcases h with ⟨i,rfl,q⟩ | ⟨k,rfl,q⟩
 ·obtain ⟨u,rfl,t,rfl⟩:=vals1 r
  exact call_int_int ⟨.int i,H,I,⟨_,rfl⟩,q⟩
 ·obtain ⟨u,rfl,r1⟩:=vals1 r
  cases r1
  exact call_int_bool ⟨.int (if k then 1 else 0),H,I.tok _,⟨_,rfl⟩,q⟩
theorem call_str_int:CallR X (.type "str") (fun xs H Q=>∃ i,xs = [.int i] ∧ i.natAbs.log2 < 1920 ∧ Q (.str (toString i)) H):=by
 intro pins s σ H xs us Q I r h
 obtain ⟨i,rfl,hz,q⟩:=h
 obtain ⟨u,rfl,t,rfl⟩:=vals1 r
 exact PySem.P.str_of_int hz ⟨.str _,H,I.tok _,⟨_,rfl⟩,q⟩
end
end L2
namespace L2
open PySem PySem.Spec PyProof.Rows
structure ObjM (h:Heap) (x dx C:Addr) (mA:Str → Option Value):Prop where
 obj:h.get? x = some (PySem.W.instObj C dx)
 ns:h.Ns1 dx mA
 ne:dx ≠ x
theorem lookIn_ns {h:Heap} {dx:Addr} {mA:Str → Option Value} (n:h.Ns1 dx mA):∃ od,h.get? dx = some od ∧ ∀ name,PySem.W.lookIn name od = some (mA name):=by
 obtain ⟨o,es,ep,ho,hd,hk,_,hm⟩:=n
 refine ⟨o,ho,fun name=>?_⟩
 have e:=hm name
 unfold nsFind findBy at e
 rw [← Array.find?_toList] at e
 unfold PySem.W.lookIn
 rw [hd]
 dsimp only
 split
 ·rename_i y q
  rw [q] at e
  exact congrArg some e
 ·rename_i q
  rw [q] at e
  have a:es.toList.any (·.refKey) = false:=by
   rw [List.any_eq_false]
   intro y hy
   obtain ⟨z,t,hkey⟩:=hk y (Array.mem_toList_iff.mp hy)
   simp [DictEntry.refKey,hkey]
  have a':¬ es.toList.any (·.refKey) = true:=by rw [a]; exact Bool.false_ne_true
  rw [if_neg a']
  exact congrArg some e
theorem ObjM.look {h:Heap} {x dx C:Addr} {mA:Str → Option Value} (I:ObjM h x dx C mA):∃ od,PySem.W.InstAt h x (PySem.W.instObj C dx) C (some od) ∧ ∀ name,PySem.W.lookIn name od = some (mA name) :=
 let ⟨od,ho,hl⟩:=lookIn_ns I.ns
 ⟨od,⟨I.obj,rfl,rfl,ho⟩,hl⟩
section
variable {prog:Program} {w:World} {A:Around} {E:Value → Shared → Prop} {s:Shared} {K:PySem.W.Frag} {x dx C f:Addr} {mA:Str → Option Value} {name:Str} {v:Value}
end
theorem RelO.some_of {v:V} {o:Option Value} (r:RelO (some v) o):∃ u,o = some u ∧ RelV v u:=by
 cases o with
 | none=>exact (show False from r).elim
 | some u=>exact ⟨u,rfl,r⟩
section
variable {P:Program} {w:World} {H H':Hp} {h h':Heap} {a C dx:Addr} {fs fs':List (Str × V)}
theorem ins_get (hok:HOk P w H h) (e:H a = some (.ins C dx fs)):∃ mA,ObjM h a dx C mA ∧ (∀ f,RelO (fs.lookup f) (mA f)) ∧ PySem.Within mA (fs.map (·.1)) ∧ fs.length ≤ 1000 ∧ H dx = some (.own a):=by
 obtain ⟨d,z,ne,ob,mA,n,r,q⟩:=(show ObjOk P w H h a (.ins C dx fs) from hok a _ e)
 exact ⟨mA,⟨ob,n,ne⟩,r,q,z,d⟩
end
structure Cls (K:PySem.W.Frag) (C:Addr):Prop where
 pg:PySem.W.plainGet K C Str.empty = true
 hd:PySem.W.hasDictIn K C = true
 po:PySem.W.plainOver K C = true
 sa:PySem.W.findIn K (.ref C) "__setattr__" = some (some (.builtin "object.__setattr__"))
theorem Cls.get {K:PySem.W.Frag} {C:Addr} (c:Cls K C) (f:Str):PySem.W.plainGet K C f = true:=c.pg
section
variable {X:Cx} {pins:List (Addr × Obj)} {σ:St} {H:Hp} {s:Shared} {a C dx:Addr} {fs:List (Str × V)} {f:Str} {v:V} {A:Around} {E:Value → Shared → Prop}
end
section
variable {X:Cx} {o e value:Expr} {f:Str} {pos pos' tpos:Pos} {ta tv:TE}
end
section
variable {X:Cx} {pins:List (Addr × Obj)} {σ:St} {H:Hp} {s:Shared} {A:Around} {E:Value → Shared → Prop} {Q:Value → Shared → Prop} {c:Value} {b:Bool}
inductive TyOf (K:PySem.W.Frag) (H:Hp):V → Value → Prop where
 | non:TyOf K H .non (.type "NoneType")
 | bl (x:Bool):TyOf K H (.bl x) (.type "bool")
 | int (i:Int):TyOf K H (.int i) (.type "int")
 | str (x:Str):TyOf K H (.str x) (.type "str")
 | flt (x:UInt64):TyOf K H (.flt x) (.type "float")
 | lst {a:Addr} {xs:List V} (e:H a = some (.lst xs)):TyOf K H (.ref a) (.type "list")
 | frz {a:Addr} {o:Obj} {xs:List V} (e:H a = some (.frz o (.lst xs))):TyOf K H (.ref a) (.type "list")
 | tup {a:Addr} {xs:List V} (e:H a = some (.tup xs)):TyOf K H (.ref a) (.type "tuple")
 | dK {a:Addr} {kvs:List (Key × V)} (e:H a = some (.dK kvs)):TyOf K H (.ref a) (.type "dict")
 | dT {a:Addr} {kvs:List (List Key × V)} (e:H a = some (.dT kvs)):TyOf K H (.ref a) (.type "dict")
 | ins {a C dx:Addr} {fs:List (Str × V)} (e:H a = some (.ins C dx fs)) (cl:Cls K C) (ha:PySem.W.findIn K (.ref C) "__class__" = some (some (.builtin "object.__class__")))
   (hn:PySem.W.specialIn K (.builtin "object.__class__") "__get__" = some (some (.builtin "getset_descriptor.__get__"))) (htk:PySem.W.takesIn K (.builtin "object.__class__") = some true)
   (hm:PySem.W.mroIn K C (.type "object") = some true):TyOf K H (.ref a) (.ref C)
end
end L2
namespace L2
open PySem PySem.Spec PyProof.Rows
structure Room (k:Nat) (A:Around):Prop where
 hd:A.handled = none
 dp:A.depth + 3 * k + 5 < recursionLimit
 un:A.units + 16 * k + 200 < cLine
theorem Room.mono {j k:Nat} {A:Around} (r:Room k A) (h:j ≤ k):Room j A:=⟨r.hd,by have:=r.dp; omega,by have:=r.un; omega⟩
theorem Room.deeper {k:Nat} {A:Around} (r:Room (k + 1) A) (env:Env):Room k (A.deeper env) :=
 ⟨r.hd,by have:=r.dp; show A.depth + 1 + 3 * k + 5 < _; omega,by have:=r.un; show A.units + 3 + 16 * k + 200 < _; omega⟩
theorem Room.depth {k:Nat} {A:Around} (r:Room k A):A.depth < recursionLimit:=by have:=r.dp; omega
theorem Room.units {k:Nat} {A:Around} (r:Room k A):A.units + 64 < cLine:=by have:=r.un; omega
def tNil:TA:=fun _ H Q=>Q [] H
def tCons (ta:TE) (tr:TA):TA:=fun σ H Q=>ta σ H fun x H1=>tr σ H1 fun xs H2=>Q (x :: xs) H2
section
variable {X:Cx} {e:Expr} {es:List Expr} {te:TE} {t:TA} {pos:Pos}
theorem pa_nil:PA X [] tNil:=fun _ _ _ _ H Q I h=>Calls.spliced_nil ⟨[],H,I,.nil,h⟩
theorem pa_cons (ha:PE X e te) (hr:PA X es t) (hs:starEach (e :: es) X.env = (false,eval e X.env) :: starEach es X.env:=by rfl):PA X (e :: es) (tCons te t):=by
 intro pos pins s σ H Q I h
 rw [hs]
 show wpAny _ _ (spliced ((false,eval e X.env) :: backTo pos (starEach es X.env))) _ _ s
 refine Calls.spliced_cons (thn (ha pins s σ H _ I h) fun u s1 ⟨x,H1,I1,r1,q1⟩=>?_)
 exact thn (hr pos pins s1 σ H1 _ I1 q1) fun us s2 ⟨xs,H2,I2,r2,q2⟩=>⟨x :: xs,H2,I2,.cons r1 r2,q2⟩
def tTup (t:TA):TE:=fun σ H Q=>t σ H fun xs H1=>xs.length ≤ sizeLine ∧ ∀ p,H1 p = none → Q (.ref p) (upd H1 p (.tup xs))
def tLst (t:TA):TE:=fun σ H Q=>t σ H fun xs H1=>xs.length ≤ sizeLine ∧ ∀ p,H1 p = none → Q (.ref p) (upd H1 p (.lst xs))
theorem pe_tup {x1} (h:PA X es t):PE X (.Tuple es x1 pos) (tTup t):=by
 intro pins s σ H Q I hq
 refine wpAny_Tuple_spliced (thn (h pos pins s σ H _ I hq) fun us s1 ⟨xs,H1,I1,r,z,q⟩=>⟨by rw [← r.length]; exact z,?_⟩)
 have hf:H1 s1.heap.objs.size = none:=I1.hok.fresh (Nat.le_refl _)
 refine ⟨.ref s1.heap.objs.size,upd H1 s1.heap.objs.size (.tup xs),I1.laid (t':=s1.toks) (fun b u e=>Heap.get?_push_of_some _ e) (Nat.le_refl _) ?_,rfl,q _ hf⟩
 exact ⟨z,us,r,⟨_,Heap.get?_push_size _ rfl,rfl,_,rfl⟩⟩
theorem pe_lst (h:PA X es t):PE X (.List es pos) (tLst t):=by
 intro pins s σ H Q I hq
 refine wpAny_List_spliced (thn (h pos pins s σ H _ I hq) fun us s1 ⟨xs,H1,I1,r,z,q⟩=>⟨by rw [← r.length]; exact z,?_⟩)
 have hf:H1 s1.heap.objs.size = none:=I1.hok.fresh (Nat.le_refl _)
 refine ⟨.ref s1.heap.objs.size,upd H1 s1.heap.objs.size (.lst xs),I1.laid (t':=s1.toks) (fun b u e=>Heap.get?_push_of_some _ e) (Nat.le_refl _) ?_,rfl,q _ hf⟩
 exact ⟨z,us,0,r,Heap.get?_push_size _ rfl⟩
end
abbrev Sp:=List V → Hp → VK → XK → Prop
abbrev CXT:=List Env → Hp → Shared → XK → Value → Shared → Prop
structure Env0 (P:Program) (w:World) (K:PySem.W.Frag) (mg:Str → Option Value) (base:Heap) (A:Around) (outer:List Env) (s:Shared) (H:Hp):Prop where
 frames:A.frames = some outer
 mod:Mod K mg base
 bs:∀ b o,base.get? b = some o → s.heap.get? b = some o ∧ H b = none
 bsz:base.objs.size ≤ s.heap.objs.size
 funs:s.heap.FunFrames base outer
 frf:∀ b ∈ frs outer,H b = none
 hok:HOk P w H s.heap
 bare:AllBare s.gens
def CE (outer:List Env) (P:Program) (w:World) (H:Hp) (s:Shared) (Q:VK) (u:Value) (s':Shared):Prop :=
 ∃ v H',s'.os = s.os ∧ AllBare s'.gens ∧ Un (frs outer) [] H H' s.heap s'.heap ∧ HOk P w H' s'.heap ∧ RelV v u ∧ Q v H'
def CR (CX:CXT) (outer:List Env) (P:Program) (w:World) (H:Hp) (s:Shared) (Q:VK) (E:XK) (r:Result) (s':Shared):Prop :=
 match r with
 | .ok (.ret u)=>CE outer P w H s Q u s'
 | .ok _=>False
 | .error e=>CX outer H s E e s'
structure FnOk (P:Program) (w:World) (K:PySem.W.Frag) (mg:Str → Option Value) (base:Heap) (CX:CXT) (k:Nat) (f:Addr) (fd:FuncData) (ps:List Str) (sp:Sp):Prop where
 len:∀ vs H Q E,sp vs H Q E → vs.length = ps.length
 run:∀ (A:Around) (outer:List Env) (s:Shared) (H:Hp) (args:Args) (us:List Value) (vs:List V) (Q:VK) (E:XK),Room k A → Env0 P w K mg base A outer s H → BindsTo s fd args (ps.zip us) → Vals vs us → sp vs H Q E →
  codeAny (model P w) A (.call (.ref f) args) (CR CX outer P w H s Q E) s
section
variable {X:Cx} {pins:List (Addr × Obj)} {σ:St} {H:Hp} {s s':Shared}
theorem Inv.env0 (I:Inv X pins σ H s):Env0 X.prog X.w X.K X.mg X.base X.A X.stack s H :=
 ⟨I.ok.frames,I.ok.mod,I.bs,Nat.le_trans I.ok.bsz I.sz,I.stack,I.stkFree,I.hok,I.bare⟩
theorem Inv.after {Q:VK} {u:Value} (I:Inv X pins σ H s) (h:CE X.stack X.prog X.w H s Q u s'):EP X pins σ Q u s':=by
 obtain ⟨v,H',os,bare,un,hok,r,q⟩:=h
 obtain ⟨hh,g,d,t,os'⟩:=s'
 obtain rfl:os' = s.os:=os
 exact ⟨v,H',I.call (h':=hh) (g':=g) (d':=d) (t':=t) (ch:=[]) un hok bare (fun b z=>absurd z (by simp)),r,q⟩
end
def tCall (sp:Sp) (dvs:List V) (E:XK) (t:TA):TE:=fun σ H Q=>t σ H fun vs H1=>sp (vs ++ dvs) H1 Q E
def Binds (K:PySem.W.Frag) (fd:FuncData) (ps:List Str) (ds:List Value):Prop :=
 ∀ (s:Shared) (us:List Value),K.In s.heap → (us ++ ds).length = ps.length → BindsTo s fd ⟨us,[]⟩ (ps.zip (us ++ ds))
theorem Binds.all {K:PySem.W.Frag} {fd:FuncData} {ps:List Str} (h:∀ us:List Value,us.length = ps.length → bindArgs fd ⟨us,[]⟩ = pure (ps.zip us)):Binds K fd ps []:=fun s us _ hl=>by
 rw [List.append_nil] at hl ⊢
 exact .of_eq (h us hl)
def Passes (CX:CXT) (X:Cx) (E:XK):Prop:=∀ (pins:List (Addr × Obj)) (σ:St) (H:Hp) (s:Shared) (e:Value) (s':Shared),Inv X pins σ H s → CX X.stack H s E e s' → X.xe e s'
section
variable {X:Cx} {CX:CXT} {k:Nat} {f C:Addr} {fd:FuncData} {ps:List Str} {sp:Sp} {dvs:List V} {ds:List Value} {E:XK} {x m:Str} {p pos apos:Pos} {e o:Expr} {es:List Expr} {ta:TE} {t:TA}
theorem run_fn {pins:List (Addr × Obj)} {σ:St} {H:Hp} {s:Shared} {Q:VK} {us:List Value} {vs:List V} (F:FnOk X.prog X.w X.K X.mg X.base CX k f fd ps sp) (hr:Room k X.A) (hb:Binds X.K fd ps ds) (hd:Vals dvs ds) (hx:Passes CX X E)
  (I:Inv X pins σ H s) (r:Vals vs us) (h:sp (vs ++ dvs) H Q E):wpAny (model X.prog X.w) X.A (call (.ref f) us) (EP X pins σ Q) X.xe s:=by
 have r2:Vals (vs ++ dvs) (us ++ ds):=r.append hd
 have hl:(us ++ ds).length = ps.length:=by rw [← r2.length]; exact F.len _ _ _ _ h
 refine wpAny_call (codeAny_mono (F.run X.A X.stack s H ⟨us,[]⟩ (us ++ ds) (vs ++ dvs) Q E hr I.env0 (hb s us I.kIn hl) r2 h) fun r s' hq=>?_)
 cases r with
 | error e=>exact hx pins σ H s e s' I hq
 | ok fl =>
  cases fl with
  | ret u=>exact I.after hq
  | next=>exact False.elim hq
  | brk=>exact False.elim hq
  | cont=>exact False.elim hq
theorem pe_call (F:FnOk X.prog X.w X.K X.mg X.base CX k f fd ps sp) (hr:Room k X.A) (hg:Gl X x) (hm:X.mg x = some (.ref f)) (hk:PySem.W.keepIn X.K (.ref f) = true) (hb:Binds X.K fd ps ds) (hd:Vals dvs ds) (hx:Passes CX X E)
  (ha:PA X (e :: es) t) (hdb:(x == ("__debug__":Str)) = false:=by decide) (he:starEach (e :: es) X.env = (false,eval e X.env) :: starEach es X.env:=by rfl) (hpl:(backTo pos (starEach es X.env)).any (·.1) = false:=by rfl) :
  PE X (.Call (.Name x p) (e :: es) [] pos) (tCall sp dvs E t):=by
 intro pins s σ H Q I h
 refine wpAny_Call_Name_kw (ld_glob I hg hm ?_ hdb)
 refine PySem.W.callWith_K (h₀:=X.base) I.ok.mod.kin hk (thn (ha pos pins s σ H _ I h) fun us s1 ⟨vs,H1,I1,r,q⟩=>⟨I1.kIn,?_⟩) he hpl
 exact run_fn F hr hb hd hx I1 r q
end
section
variable {X:Cx} {CX:CXT} {k:Nat} {f C:Addr} {fd:FuncData} {ps ks:List Str} {sp:Sp} {E:XK} {x m:Str} {p pos apos kpos:Pos} {e o:Expr} {es:List Expr} {kws:List Keyword} {te ta:TE} {t tk:TA} {nm:Option Str}
variable {g:List Value → List Value → List Value} {gV:List V → List V → List V}
end
structure FnScope (N P:List Str) (sc:Scope):Prop where
 kind:sc.kind = .function
 co:sc.isCoroutine = false
 gen:sc.isGenerator = false
 nd:N.Nodup
 pre:N.take P.length = P
 par:∀ x ∈ P,sc.names.lookup x = some .local ∨ sc.names.lookup x = some .cell
 nofree:∀ y ∈ sc.names,y.2 ≠ .free
theorem bindL_out {kindOf:Str → Option NameKind} {x:Str}:∀ {binds:List (Str × Value)} {m:Str → Option Value},(∀ v,(x,v) ∉ binds) → bindL kindOf binds m x = m x
 | [],_,_=>rfl
 | (n,v) :: r,m,h=>by
  unfold bindL
  rw [bindL_out fun w hw=>h w (List.mem_cons_of_mem _ hw)]
  split
  ·have:x ≠ n:=by rintro rfl; exact h v List.mem_cons_self
   simp [this]
  ·rfl
theorem bindC_out {kindOf:Str → Option NameKind} {x:Str}:∀ {binds:List (Str × Value)} {m:Str → Option Value},(∀ v,(x,v) ∉ binds) → bindC kindOf binds m x = m x
 | [],_,_=>rfl
 | (n,v) :: r,m,h=>by
  unfold bindC
  rw [bindC_out fun w hw=>h w (List.mem_cons_of_mem _ hw)]
  split
  ·rfl
  ·have:x ≠ n:=by rintro rfl; exact h v List.mem_cons_self
   simp [this]
theorem bindL_get {kindOf:Str → Option NameKind} {x:Str} {v:Value}:∀ {P:List Str} {vs:List Value} {i:Nat} {m:Str → Option Value},P.Nodup → P[i]? = some x → vs[i]? = some v → kindOf x = some .local →
  bindL kindOf (P.zip vs) m x = some v
 | [],_,_,_,_,h,_,_=>by simp at h
 | _ :: _,[],_,_,_,_,h,_=>by simp at h
 | p :: P,w :: vs,0,m,nd,h1,h2,hk=>by
  simp at h1 h2; subst h1; subst h2
  show bindL kindOf ((p,w) :: P.zip vs) m p = _
  unfold bindL
  rw [bindL_out fun v hv=>(List.nodup_cons.mp nd).1 (List.of_mem_zip hv).1,if_pos hk]
  simp
 | p :: P,w :: vs,i + 1,m,nd,h1,h2,hk=>by
  show bindL kindOf ((p,w) :: P.zip vs) m x = _
  unfold bindL
  exact bindL_get (i:=i) (List.nodup_cons.mp nd).2 (by simpa using h1) (by simpa using h2) hk
theorem bindC_get {kindOf:Str → Option NameKind} {x:Str} {v:Value}:∀ {P:List Str} {vs:List Value} {i:Nat} {m:Str → Option Value},P.Nodup → P[i]? = some x → vs[i]? = some v → kindOf x ≠ some .local →
  bindC kindOf (P.zip vs) m x = some v
 | [],_,_,_,_,h,_,_=>by simp at h
 | _ :: _,[],_,_,_,_,h,_=>by simp at h
 | p :: P,w :: vs,0,m,nd,h1,h2,hk=>by
  simp at h1 h2; subst h1; subst h2
  show bindC kindOf ((p,w) :: P.zip vs) m p = _
  unfold bindC
  rw [bindC_out fun v hv=>(List.nodup_cons.mp nd).1 (List.of_mem_zip hv).1,if_neg hk]
  simp
 | p :: P,w :: vs,i + 1,m,nd,h1,h2,hk=>by
  show bindC kindOf ((p,w) :: P.zip vs) m x = _
  unfold bindC
  exact bindC_get (i:=i) (List.nodup_cons.mp nd).2 (by simpa using h1) (by simpa using h2) hk
def start (N:List Str) (vs:List V):St:=vs.map some ++ List.replicate (N.length - vs.length) none
def cxOf (CX:CXT) (P:Program) (w:World) (K:PySem.W.Frag) (mg:Str → Option Value) (base:Heap) (N:List Str) (qual:Str) (scope:Scope) (f:Addr) (cd:Value) (A:Around) (outer:List Env) (s:Shared) (H:Hp) (E:XK):Cx where
 prog:=P
 w:=w
 K:=K
 mg:=mg
 base:=base
 A:=A.deeper (envOfC qual scope s.heap.objs.size f cd)
 N:=N
 s₀:=s
 H₀:=H
 env:=envOfC qual scope s.heap.objs.size f cd
 outer:=outer
 stack:=envOfC qual scope s.heap.objs.size f cd :: outer
 ex:=[]
 calm:=true
 fn:=fun _=>true
 pn:=[]
 xe:=fun e s'=>wpAny (model P w) (A.deeper (envOfC qual scope s.heap.objs.size f cd)) (leaving (envOfC qual scope s.heap.objs.size f cd) e) (fun _ s''=>CX outer H s E e s'') (fun e' s''=>CX outer H s E e' s'') s'
theorem cell_has {sc:Scope} {n:Nat} {x:Str} (h:sc.names.lookup x = some .cell):∃ c,(cellsFrom n sc.names []).lookup x = some c:=by
 have q:=PySem.W.cellsFrom_some sc.names n [] (.inl h)
 exact Option.isSome_iff_exists.mp q
theorem inv_start {CX:CXT} {P:Program} {w:World} {K:PySem.W.Frag} {mg:Str → Option Value} {base:Heap} {N ps:List Str} {qual:Str} {scope:Scope} {f:Addr} {cd:Value} {A:Around} {outer:List Env} {s s1:Shared} {H:Hp} {E:XK} {us:List Value} {vs:List V}
  (S:FnScope N ps scope) (hd:A.handled = none) (e0:Env0 P w K mg base A outer s H) (hl:vs.length = ps.length) (r:Vals vs us)
  (x:InCallC s s.heap.objs.size (bindL (envOfC qual scope s.heap.objs.size f cd).kindOf (ps.zip us) fun _=>none) (cellsFrom (s.heap.objs.size + 1) scope.names []) (bindC (envOfC qual scope s.heap.objs.size f cd).kindOf (ps.zip us) fun _=>none) s1) :
  Inv (cxOf CX P w K mg base N qual scope f cd A outer s H E) [] (start N vs) H s1:=by
 have hpl:ps.length ≤ N.length:=by have:=congrArg List.length S.pre; rw [List.length_take] at this; omega
 obtain ⟨h1,tk,rfl,hk⟩:=x.done
 have noA:∀ b:Addr,b ∉ (cxOf CX P w K mg base N qual scope f cd A outer s H E).ex:=fun b z=>absurd (show b ∈ ([]:List Addr) from z) (by simp)
 refine ⟨⟨e0.mod,S.kind,rfl,rfl,Nat.le_refl _,fun y z c h1 h2=>?_,fun y hy=>?_,fun y c _ h=>?_,fun _=>hd,Around.frames_deeper e0.frames,.inr ⟨rfl,rfl⟩,fun b z=>absurd z (noA b),e0.bs,e0.bsz,fun b _ _=>noA b,fun b z=>absurd z (noA b),e0.funs,e0.frf⟩,
  rfl,e0.bare,Un.kept hk,⟨_,x.toInCall.ns,fun i y v h1 h2 h3=>?_⟩,fun y c h=>⟨_,x.cell y c h⟩,e0.hok.fresh (Nat.le_refl _),fun y c h=>?_,fun p hp=>absurd (show p ∈ ([]:List (Addr × Obj)) from hp) (by simp),e0.hok.kept hk,?_⟩
 ·exact name_of_addr x.apart (PySem.mem_of_lookup h1) (PySem.mem_of_lookup h2)
 ·have hy:scope.names.lookup y = some .cell ∨ scope.names.lookup y = some .free:=hy
  rcases hy with hy | hy
  ·exact cell_has hy
  ·exact absurd rfl (S.nofree _ (PySem.mem_of_lookup hy))
 ·exact Nat.le_of_lt (x.above y c (PySem.mem_of_lookup h))
 ·have hi:i < vs.length:=by
   unfold start at h2
   by_cases hi:i < vs.length
   ·exact hi
   ·rw [List.getElem?_append_right (by simpa using hi)] at h2
    rw [List.getElem?_replicate] at h2
    split at h2 <;> cases h2
  have ha:vs[i]? = some v:=by
   unfold start at h2
   rw [List.getElem?_append_left (by simpa using hi),List.getElem?_map] at h2
   cases e:vs[i]? with
   | none=>rw [e] at h2; cases h2
   | some a=>rw [e] at h2; cases h2; rfl
  obtain ⟨u,hu,rv⟩:=r.get ha
  have hp:ps[i]? = some y:=by
   rw [← S.pre,List.getElem?_take_of_lt (by omega)]; exact h1
  have ndP:ps.Nodup:=by rw [← S.pre]; exact S.nd.sublist (List.take_sublist _ _)
  refine ⟨u,rv,?_⟩
  rcases S.par y (List.mem_of_getElem? hp) with k | k
  ·exact .inl ⟨k,bindL_get ndP hp hu k⟩
  ·obtain ⟨c,e⟩:=cell_has (n:=s.heap.objs.size + 1) k
   refine .inr ⟨.inl k,c,e,?_⟩
   have q:=x.cell y c e
   rw [bindC_get ndP hp hu (by show scope.names.lookup y ≠ _; rw [k]; decide)] at q
   exact q
 ·exact e0.hok.fresh (Nat.le_of_lt (x.above y c (PySem.mem_of_lookup h)))
 ·unfold start
  show _ = N.length
  rw [List.length_append,List.length_map,List.length_replicate]
  omega
theorem fn_of {CX:CXT} {P:Program} {w:World} {K:PySem.W.Frag} {mg:Str → Option Value} {base:Heap} {k:Nat} {f:Addr} {name qual:Str} {params:Arguments} {body:List Stmt} {scope:Scope} {dV kV doc pm cdv ct oc:Value} {an od:Option Addr}
  {osl:Array (Option Value)} {N ps:List Str} {sp:Sp} (lk:K.lookup f = some ⟨oc,od,.func (PySem.W.fnOf name qual params body scope dV kV doc pm an cdv ct),osl⟩) (hcd:PySem.W.codeIn K cdv qual = true) (S:FnScope N ps scope)
  (len:∀ vs H Q E,sp vs H Q E → vs.length = ps.length)
  (hbody:∀ (A:Around) (outer:List Env) (s:Shared) (H:Hp) (vs:List V) (Q:VK) (E:XK),Room k (A.deeper (envOfC qual scope s.heap.objs.size f cdv)) → sp vs H Q E →
   ∃ t,PSs (cxOf CX P w K mg base N qual scope f cdv A outer s H E) body t ∧ t { nx:=fun _ H'=>Q .non H',rt:=Q } (start N vs) H) :
  FnOk P w K mg base CX (k + 1) f (PySem.W.fnOf name qual params body scope dV kV doc pm an cdv ct) ps sp:=by
 refine ⟨len,fun A outer s H args us vs Q E hr e0 hb r hsp=>?_⟩
 have hl:=len _ _ _ _ hsp
 have KX:K.In s.heap:=e0.mod.kin.keeps fun b o e=>(e0.bs b o e).1
 have lim:s.heap.NoLimit:=e0.mod.nolimit.keeps fun b o e=>(e0.bs b o e).1
 have hkind:∀ y ∈ ps.zip us,scope.names.lookup y.1 = some .local ∨ (scope.names.lookup y.1 = some .cell ∧ ((cellsFrom (s.heap.objs.size + 1) scope.names []).lookup y.1).isSome = true):=fun ⟨n,v⟩ hy=>by
  rcases S.par n (List.of_mem_zip hy).1 with q | q
  ·exact .inl q
  ·exact .inr ⟨q,PySem.W.cellsFrom_some _ _ _ (.inl q)⟩
 refine codeAny_call_function hr.depth (KX _ _ lk) rfl S.co S.gen rfl (PySem.W.codeRec_of KX hcd) (hb _ _ _ _ ?_)
 refine wpAny_newFunctionEnv_cells S.kind hkind fun env he s1 x=>?_
 subst he
 refine ⟨lim.keeps x.toInCall.keep,codeAny_func ?_⟩
 obtain ⟨t,ht,hq⟩:=hbody A outer s H vs Q E (hr.deeper _) hsp
 have I:Inv (cxOf CX P w K mg base N qual scope f cdv A outer s H E) [] (start N vs) H s1:=inv_start S hr.hd e0 hl r x
 refine wpAny_mono (ht [] s1 (start N vs) H _ I hq) (fun fl s' hs=>?_) fun e s' hs=>hs
 have fin:∀ {σ':St} {H':Hp} {v:V} {u:Value},Inv (cxOf CX P w K mg base N qual scope f cdv A outer s H E) [] σ' H' s' → RelV v u → Q v H' → CE outer P w H s Q u s' :=
  fun {σ' H' v u} J rv q=>⟨v,H',J.os,J.bare,J.base,J.hok,rv,q⟩
 cases fl with
 | ret u =>
  obtain ⟨v,σ',H',J,rv,q⟩:=hs
  exact fin J rv q
 | next =>
  obtain ⟨σ',H',J,q⟩:=hs
  exact fin (v:=V.non) (u:=Value.none) J rfl q
 | brk =>
  obtain ⟨_,_,_,q⟩:=hs
  exact False.elim q
 | cont =>
  obtain ⟨_,_,_,q⟩:=hs
  exact False.elim q
end L2
namespace L2
open PySem PySem.Spec PyProof.Rows
section
variable {X:Cx} {x:Str} {p pos:Pos} {e:Expr} {es:List Expr} {t:TA} {id T:String} {r:List V → Hp → VK → Prop}
def tCB (r:List V → Hp → VK → Prop) (t:TA):TE:=fun σ H Q=>t σ H fun vs H1=>r vs H1 Q
theorem pe_callB (hc:CallR X (.builtin id) r) (hg:Gl X x) (hm:X.mg x = none) (hv:bootBuiltins x = some (.builtin id)) (ha:PA X (e :: es) t) (hn:x ≠ "__name__":=by decide) (hdb:(x == ("__debug__":Str)) = false:=by decide)
  (he:starEach (e :: es) X.env = (false,eval e X.env) :: starEach es X.env:=by rfl) (hpl:(backTo pos (starEach es X.env)).any (·.1) = false:=by rfl):PE X (.Call (.Name x p) (e :: es) [] pos) (tCB r t):=by
 intro pins s σ H Q I h
 refine wpAny_Call_Name_kw (ld_blt I hg hm hv ?_ hn hdb)
 exact PyProof.Rows.callWith_builtin1 (thn (ha pos pins s σ H _ I h) fun us s1 ⟨vs,H1,I1,r1,q1⟩=>hc pins s1 σ H1 vs us Q I1 r1 q1) he hpl
theorem pe_callTy (hc:CallR X (.type T) r) (hg:Gl X x) (hm:X.mg x = none) (hv:bootBuiltins x = some (.type T)) (ha:PA X (e :: es) t) (hn:x ≠ "__name__":=by decide) (hdb:(x == ("__debug__":Str)) = false:=by decide)
  (he:starEach (e :: es) X.env = (false,eval e X.env) :: starEach es X.env:=by rfl) (hpl:(backTo pos (starEach es X.env)).any (·.1) = false:=by rfl):PE X (.Call (.Name x p) (e :: es) [] pos) (tCB r t):=by
 intro pins s σ H Q I h
 refine wpAny_Call_Name_kw (ld_blt I hg hm hv ?_ hn hdb)
 exact PyProof.Rows.callWith_type1 (thn (ha pos pins s σ H _ I h) fun us s1 ⟨vs,H1,I1,r1,q1⟩=>hc pins s1 σ H1 vs us Q I1 r1 q1) he hpl
end
end L2
namespace HT
open PySem PyProof.Rows
section
open PySem.SeqAt
open PySem.AutoSeq1 (wpAny_loadPart')
open PySem.MeetsSeq PySem.MeetsSeq2 PySem.MeetsSeq3
end
section
variable {prog:Program} {w:World} {A:Around} {E:Value → Shared → Prop} {s:Shared}
theorem cat_tup {t b:Addr} {vs ws:List Value} {Q:Value → Shared → Prop} (ht:IsTup s.heap t vs.toArray) (hb:IsTup s.heap b ws.toArray) (hv:vs ≠ [])
  (h1:ws = [] → Q (.ref t) s) (h2:ws ≠ [] → Q (.ref s.heap.objs.size) { s with heap:=s.heap.push { cls:=.type "tuple",data:=.seq (vs ++ ws).toArray } })
  (hsz:vs.length + ws.length ≤ sizeLine):wpAny (model prog w) A (binaryOp .Add (.ref t) (.ref b)) Q E s:=by
 obtain ⟨⟨cls,dd,data,sl⟩,ho,hc,n,hd⟩:=id ht
 obtain ⟨⟨cls2,dd2,data2,sl2⟩,ho2,hc2,n2,hd2⟩:=id hb
 simp only at hc hd hc2 hd2
 subst hc hd hc2 hd2
 have e:vs.toArray ++ ws.toArray = (vs ++ ws).toArray:=by simp
 by_cases hw:ws = []
 ·exact concat_meets ⟨_,ho,rfl⟩ ⟨_,ho2,rfl⟩ noFill_tuple_add seq_tuple_add PySem.F.slot_tuple_add PySem.F.entry_tuple_add (PySem.F.args_tuple_add_2 _ _)
   (tuple_addW1 t b vs.toArray ws.toArray n n2 dd dd2 sl sl2 (by simpa using hv) (by simp [hw])) ⟨ho,ho2,h1 hw⟩
 ·refine concat_meets ⟨_,ho,rfl⟩ ⟨_,ho2,rfl⟩ noFill_tuple_add seq_tuple_add PySem.F.slot_tuple_add PySem.F.entry_tuple_add (PySem.F.args_tuple_add_2 _ _)
   (tuple_addW2 t b vs.toArray ws.toArray n n2 dd dd2 sl sl2 (by simpa using hv) (by simpa using hw) (by rw [List.size_toArray,List.size_toArray]; exact hsz)) ⟨ho,ho2,?_⟩
  rw [e]
  exact h2 hw
def sIx (n d:Nat):Option Int → Nat
 | none=>d
 | some v=>if v < 0 then (v + (n:Int)).toNat else min v.toNat n
theorem sIx_none (n d:Nat):sIx n d none = d:=rfl
theorem sIx_nat (n d k:Nat):sIx n d (some (k:Int)) = min k n:=by
 show (if (k:Int) < 0 then ((k:Int) + (n:Int)).toNat else min (k:Int).toNat n) = min k n
 rw [if_neg (by omega),Int.toNat_natCast]
theorem sIx_le (n d:Nat) (hd:d ≤ n) (o:Option Int):sIx n d o ≤ n:=by
 cases o with
 | none=>exact hd
 | some v =>
  show (if v < 0 then (v + (n:Int)).toNat else min v.toNat n) ≤ n
  by_cases hv:v < 0
  ·rw [if_pos hv]; omega
  ·rw [if_neg hv]; exact Nat.min_le_right _ _
theorem clip_eq (v:Int) (n d:Nat):(if v < 0 then max (v + (n:Int)) 0 else min v (n:Int)) = ((sIx n d (some v):Nat):Int):=by
 show (if v < 0 then max (v + (n:Int)) 0 else min v (n:Int)) = (((if v < 0 then (v + (n:Int)).toNat else min v.toNat n):Nat):Int)
 by_cases hv:v < 0
 ·simp only [if_pos hv]; omega
 ·simp only [if_neg hv]; omega
theorem adjust_gen (lo hi:Option Int) (n:Nat):Builtin.Slice.sliceAdjust lo hi 1 (n:Int) = (((sIx n 0 lo:Nat):Int),((sIx n n hi:Nat):Int)):=by
 have h1:¬ ((1:Int) < 0):=by omega
 unfold Builtin.Slice.sliceAdjust
 simp only [h1,if_false]
 refine Prod.ext ?_ ?_
 ·cases lo with
  | none=>rfl
  | some v=>exact clip_eq v n 0
 ·cases hi with
  | none=>rfl
  | some v=>exact clip_eq v n n
theorem places_gen (i j:Nat):Builtin.Slice.slicePlaces (i:Int) (j:Int) 1 = j - i:=by
 unfold Builtin.Slice.slicePlaces
 have h1:(1:Int) > 0:=by omega
 simp only [h1,if_true,Int.ediv_one]
 split <;> omega
theorem slicePart_ {v:Value} {o:Option Int} {Q:Option Int → Shared → Prop} (p:IsPart v o) (h:Q o s):wpAny (model prog w) A (Builtin.Slice.slicePartIndex v) Q E s:=by
 cases p with
 | none=>exact slicePart_none h
 | int i t=>exact slicePart_int h
theorem sliceApplied_gen {sl:Addr} {vl vu:Value} {lo hi:Option Int} {n:Nat} {Q:Int × Int × Nat → Shared → Prop} (hs:s.heap.IsSliceOf sl vl vu .none) (pl:IsPart vl lo) (pu:IsPart vu hi)
  (h:Q (((sIx n 0 lo:Nat):Int),1,sIx n n hi - sIx n 0 lo) s):wpAny (model prog w) A (Builtin.Slice.sliceApplied (.ref sl) (pure (n:Int))) Q E s:=by
 obtain ⟨os,hos,hcs,hds⟩:=id hs
 unfold Builtin.Slice.sliceApplied Builtin.Slice.sliceFields
 refine wpAny_bind (wpAny_bind (wpAny_field hos hds (x:=vl) rfl (wpAny_bind (wpAny_field hos hds (x:=vu) rfl (wpAny_bind (wpAny_field hos hds (x:=.none) rfl (wpAny_pure ?_)))))))
 refine wpAny_bind (slicePart_none ?_)
 show wpAny _ _ (if ((1:Int) == 0) = true then _ else _) _ _ s
 rw [if_neg (by decide)]
 refine wpAny_bind (slicePart_ pl (wpAny_bind (slicePart_ pu (wpAny_bind (wpAny_pure ?_)))))
 show wpAny _ _ (match Builtin.Slice.sliceAdjust lo hi 1 (n:Int) with | (lo,hi)=>pure (lo,(1:Int),Builtin.Slice.slicePlaces lo hi 1)) _ _ s
 rw [adjust_gen lo hi n]
 show wpAny _ _ (pure (((sIx n 0 lo:Nat):Int),(1:Int),Builtin.Slice.slicePlaces ((sIx n 0 lo:Nat):Int) ((sIx n n hi:Nat):Int) 1)) _ _ s
 rw [places_gen]
 exact wpAny_pure h
theorem pick_gen (xs:Array Value) (i k:Nat):((List.range k).filterMap fun (m:Nat)=>xs[((i:Int) + (m:Int) * 1).toNat]?).toArray = ((xs.toList.drop i).take k).toArray:=by
 have e:(fun (m:Nat)=>xs[((i:Int) + (m:Int) * 1).toNat]?) = fun m=>xs[i + m]?:=by
  funext m
  have:((i:Int) + (m:Int) * 1).toNat = i + m:=by omega
  rw [this]
 rw [e]
 have:=pick_run xs i k
 rw [List.filterMap_map] at this
 have e2:((fun x=>xs[x]?) ∘ fun x=>i + x) = fun m=>xs[i + m]?:=rfl
 rw [e2] at this
 rw [this]
theorem getItem_tuple_cut {t sl:Addr} {items:Array Value} {vl vu:Value} {lo hi:Option Int} {Q:Value → Shared → Prop} (ht:IsTup s.heap t items) (hs:s.heap.IsSliceOf sl vl vu .none) (pl:IsPart vl lo) (pu:IsPart vu hi)
  (hw:¬ (sIx items.size 0 lo = 0 ∧ sIx items.size items.size hi = items.size))
  (h:Q (.ref s.heap.objs.size) { s with heap:=s.heap.push { cls:=.type "tuple",data:=.seq ((items.toList.drop (sIx items.size 0 lo)).take (sIx items.size items.size hi - sIx items.size 0 lo)).toArray } })
  (hsz:items.size ≤ sizeLine):wpAny (model prog w) A (getItem (.ref t) (.ref sl)) Q E s:=by
 have htake:sizeOk (.seq ((items.toList.drop (sIx items.size 0 lo)).take (sIx items.size items.size hi - sIx items.size 0 lo)).toArray):=by
  show ((items.toList.drop (sIx items.size 0 lo)).take (sIx items.size items.size hi - sIx items.size 0 lo)).toArray.size ≤ sizeLine
  rw [List.size_toArray,List.length_take,List.length_drop,Array.length_toList]
  omega
 have hj:sIx items.size items.size hi ≤ items.size:=sIx_le _ _ (Nat.le_refl _) hi
 obtain ⟨os,hos,hcs,hds⟩:=id hs
 have hTs:s.TypeIs (.ref sl) "slice":=⟨os,hos,hcs⟩
 unfold getItem
 try with_reducible refine wpAny_holding ?_
 first | refine wpAny_bind (wpAny_pure ?_) | skip
 refine wpAny_bind (wpAny_sequenceKey ht.typeIs (by decide) ?_)
 refine wpAny_bind (wpAny_callSpecial?_slot (name:=Str.ofString "__getitem__") ht.typeIs PyProof.Rows.slot_tuple_getitem
  (wpAny_call_entry PyProof.Rows.slot_tuple_getitem ht.typeIs entry_tuple_getitem ?_ (args_tuple_getitem _ _)))
 show wpAny _ _ (Builtin.Tuple.tupleItemsOf (.ref t) >>= _) _ _ s
 refine wpAny_bind (tupleItemsOf_ ht ?_)
 refine wpAny_bind (wpAny_typeOf hTs ?_)
 rw [if_pos (by decide)]
 refine wpAny_bind (sliceApplied_gen hs pl pu ?_)
 have hno:¬ ((((sIx items.size 0 lo:Nat):Int) == 0 && (1:Int) == 1 && (sIx items.size items.size hi - sIx items.size 0 lo) == items.size) = true):=by
  intro q
  rw [Bool.and_eq_true,Bool.and_eq_true] at q
  have q1:((sIx items.size 0 lo:Nat):Int) = 0:=eq_of_beq q.1.1
  have q2:sIx items.size items.size hi - sIx items.size 0 lo = items.size:=eq_of_beq q.2
  exact hw ⟨by omega,by omega⟩
 show wpAny _ _ (if (((sIx items.size 0 lo:Nat):Int) == 0 && (1:Int) == 1 && (sIx items.size items.size hi - sIx items.size 0 lo) == items.size) = true then _ else _) _ _ s
 rw [if_neg hno,pick_gen]
 first
  | exact wpAny_bind (m:=Builtin.Tuple.tupleExact _) (wpAny_newObj_type (wpAny_pure ⟨_,rfl,wpAny_pure h⟩) htake)
  | exact wpAny_bind (m:=Builtin.Tuple.tupleExact _) (wpAny_newObj_type (wpAny_bind (wpAny_pure (wpAny_pure ⟨_,rfl,wpAny_pure h⟩))) htake)
  | exact wpAny_bind (wpAny_bind (m:=Builtin.Tuple.tupleExact _) (wpAny_newObj_type (wpAny_pure (wpAny_pure ⟨_,rfl,wpAny_pure h⟩)) htake))
  | exact wpAny_bind (wpAny_bind (m:=Builtin.Tuple.tupleExact _) (wpAny_newObj_type (wpAny_pure ⟨_,rfl,wpAny_pure h⟩) htake))
end
end HT
namespace L2
open PySem PySem.Spec PyProof.Rows
abbrev TO:=St → Hp → (Option Int → Hp → Prop) → Prop
def PO (X:Cx) (e:Option Expr) (t:TO):Prop :=
 ∀ (pins:List (Addr × Obj)) (s:Shared) (σ:St) (H:Hp) (Q:Option Int → Hp → Prop),Inv X pins σ H s → t σ H Q →
  wpAny (model X.prog X.w) X.A (evalPart e X.env) (fun u s'=>∃ o H',Inv X pins σ H' s' ∧ IsPart u o ∧ Q o H') X.xe s
def tNoPart:TO:=fun _ H Q=>Q none H
def tPart (t:TE):TO:=fun σ H Q=>t σ H fun x H1=>∃ i,x = .int i ∧ Q (some i) H1
section
variable {X:Cx} {e:Expr} {te:TE} {lo hi:Option Expr} {tl th:TO} {pos p2:Pos}
theorem po_none:PO X none tNoPart:=by
 intro pins s σ H Q I h
 rw [evalPart_none]
 exact wpAny_pure ⟨none,H,I,.none,h⟩
theorem po_some (h:PE X e te):PO X (some e) (tPart te):=by
 intro pins s σ H Q I hw
 rw [evalPart_some]
 refine thn (h pins s σ H _ I hw) fun u s1 ⟨x,H1,I1,r1,q1⟩=>?_
 obtain ⟨i,rfl,q⟩:=q1
 obtain ⟨t,rfl⟩:=r1
 exact ⟨some i,H1,I1,.int i t,q⟩
def SlR (X:Cx) (r:V → Option Int → Option Int → Hp → VK → Prop):Prop :=
 ∀ (pins:List (Addr × Obj)) (s:Shared) (σ:St) (H:Hp) (x:V) (v vl vu:Value) (lo hi:Option Int) (sl:Addr) (Q:VK),Inv X pins σ H s → RelV x v → s.heap.IsSliceOf sl vl vu .none → IsPart vl lo → IsPart vu hi → r x lo hi H Q →
  ∃ T id,typeLookup (.type T) "__getitem__" = pure (some (.builtin id)) ∧ s.TypeIs v T ∧ wpAny (model X.prog X.w) X.A (getItem v (.ref sl)) (EP X pins σ Q) X.xe s
def tSl (r:V → Option Int → Option Int → Hp → VK → Prop) (te:TE) (tl th:TO):TE:=fun σ H Q=>te σ H fun x H1=>tl σ H1 fun l H2=>th σ H2 fun u H3=>r x l u H3 Q
theorem pe_slice {r:V → Option Int → Option Int → Hp → VK → Prop} (hr:SlR X r) (he:PE X e te) (hl:PO X lo tl) (hu:PO X hi th):PE X (.Subscript e (.Slice lo hi none p2) pos) (tSl r te tl th):=by
 intro pins s σ H Q I h
 refine Subscript_ (thn (he pins s σ H _ I h) fun v s1 ⟨x,H1,I1,r1,q1⟩=>?_)
 refine wpAny_Slice (thn (hl pins s1 σ H1 _ I1 q1) fun vl s2 ⟨l,H2,I2,pl,q2⟩=>thn (hu pins s2 σ H2 _ I2 q2) fun vu s3 ⟨u,H3,I3,pu,q3⟩=>?_)
 rw [evalPart_none]
 refine wpAny_pure ?_
 have I4:Inv X pins σ H3 { s3 with heap:=s3.heap.push { cls:=.type "slice",data:=.fields #[vl,vu,.none] } }:=I3.kept (t':=s3.toks) fun b ob q=>Heap.get?_push_of_some _ q
 obtain ⟨T,id,hT,ht,hg⟩:=hr pins { s3 with heap:=s3.heap.push { cls:=.type "slice",data:=.fields #[vl,vu,.none] } } σ H3 x v vl vu l u s3.heap.objs.size Q I4 r1 (Heap.IsSliceOf.new ..) pl pu q3
 show wpAny (model X.prog X.w) X.A (subscriptTail e (.Slice lo hi none p2) v (.ref s3.heap.objs.size)) (EP X pins σ Q) X.xe { s3 with heap:=s3.heap.push { cls:=.type "slice",data:=.fields #[vl,vu,.none] } }
 exact tail_any (ops:=[.ref s3.heap.objs.size,v]) ht hT hg (by with_unfolding_all rfl)
def cutV (xs:List V) (lo hi:Option Int):List V:=(xs.drop (HT.sIx xs.length 0 lo)).take (HT.sIx xs.length xs.length hi - HT.sIx xs.length 0 lo)
theorem cutV_length (xs:List V) (lo hi:Option Int):(cutV xs lo hi).length ≤ xs.length:=by
 unfold cutV
 rw [List.length_take,List.length_drop]
 omega
def rSlT (K:PySem.W.Frag):V → Option Int → Option Int → Hp → VK → Prop:=fun x lo hi H Q=>∃ a xs,x = .ref a ∧ SqT K H a xs ∧
 ¬ (HT.sIx xs.length 0 lo = 0 ∧ HT.sIx xs.length xs.length hi = xs.length) ∧ ∀ p,H p = none → Q (.ref p) (upd H p (.tup (cutV xs lo hi)))
theorem sl_tup:SlR X (rSlT X.K):=by
 intro pins s σ H x v vl vu lo hi sl Q I rx hs pl pu h
 obtain ⟨a,xs,rfl,hx,hw,q⟩:=h
 cases rx
 obtain ⟨its,r,ht,hz⟩:=I.tuple hx
 have hlen:its.toArray.size = xs.length:=by rw [List.size_toArray]; exact r.length.symm
 refine ⟨"tuple",_,PyProof.Rows.slot_tuple_getitem.lookup,ht.typeIs,?_⟩
 refine HT.getItem_tuple_cut ht hs pl pu (by rw [hlen]; exact hw) ?_ (by rw [hlen]; exact hz)
 rw [hlen]
 refine ⟨.ref s.heap.objs.size,_,I.laid (t':=s.toks) (o:=.tup (cutV xs lo hi)) (fun b ob q=>Heap.get?_push_of_some _ q) (Nat.le_refl _) ?_,rfl,q _ (I.hok.fresh (Nat.le_refl _))⟩
 exact ⟨Nat.le_trans (cutV_length xs lo hi) hz,_,(r.drop (HT.sIx xs.length 0 lo)).take (HT.sIx xs.length xs.length hi - HT.sIx xs.length 0 lo),IsTup.new _ _⟩
def rCatT (K:PySem.W.Frag):R2:=fun x y H Q=>∃ a b xs ys,x = .ref a ∧ y = .ref b ∧ SqT K H a xs ∧ SqT K H b ys ∧ xs ≠ [] ∧ xs.length + ys.length ≤ sizeLine ∧
 (ys = [] → Q (.ref a) H) ∧ (ys ≠ [] → ∀ p,H p = none → Q (.ref p) (upd H p (.tup (xs ++ ys))))
theorem Vals.nil_iff {xs:List V} {us:List Value} (r:Vals xs us):us = [] ↔ xs = []:=by
 cases r with
 | nil=>simp
 | cons _ _=>simp
theorem op_catT:OpR X (binaryOp .Add) (rCatT X.K):=by
 intro pins s σ H x y v u Q I rx ry h
 obtain ⟨a,b,xs,ys,rfl,rfl,ha,hb,hx,hz,q1,q2⟩:=h
 cases rx
 cases ry
 obtain ⟨its,r1,p1,_⟩:=I.tuple ha
 obtain ⟨its2,r2,p2,_⟩:=I.tuple hb
 refine HT.cat_tup p1 p2 (fun z=>hx (r1.nil_iff.mp z)) (fun z=>⟨.ref a,H,I,rfl,q1 (r2.nil_iff.mp z)⟩) (fun z=>?_) (by rw [← r1.length,← r2.length]; exact hz)
 refine ⟨.ref s.heap.objs.size,_,I.laid (t':=s.toks) (o:=.tup (xs ++ ys)) (fun b ob q=>Heap.get?_push_of_some _ q) (Nat.le_refl _) ?_,rfl,q2 (fun w=>z (r2.nil_iff.mpr w)) _ (I.hok.fresh (Nat.le_refl _))⟩
 exact ⟨by rw [List.length_append]; exact hz,_,r1.append r2,IsTup.new _ _⟩
end
end L2
namespace L2
open PySem PySem.Spec PyProof.Rows
def ixN (n:Nat) (i:Int):Option Nat:=if 0 ≤ i then (if i < n then some i.toNat else none) else if -(n:Int) ≤ i then some (i + n).toNat else none
def atI {α:Type} (xs:List α) (i:Int):Option α:=(ixN xs.length i).bind fun j=>xs[j]?
theorem ixN_seq {n:Nat} {i:Int} {j:Nat} (h:ixN n i = some j):seqIndex? i n = some j ∧ j < n ∧ -(n:Int) ≤ i ∧ i < n:=by
 unfold ixN at h
 by_cases h0:0 ≤ i
 ·rw [if_pos h0] at h
  by_cases h1:i < n
  ·rw [if_pos h1] at h
   have e:i.toNat = j:=Option.some.inj h
   exact ⟨by rw [seqIndex_of h0 h1,e],by omega,by omega,h1⟩
  ·rw [if_neg h1] at h; cases h
 ·rw [if_neg h0] at h
  by_cases h1:-(n:Int) ≤ i
  ·rw [if_pos h1] at h
   have e:(i + n).toNat = j:=Option.some.inj h
   exact ⟨by rw [seqIndex_neg (by omega) h1,e],by omega,h1,by omega⟩
  ·rw [if_neg h1] at h; cases h
theorem atI_get {α:Type} {xs:List α} {i:Int} {v:α} (h:atI xs i = some v):∃ j,seqIndex? i xs.length = some j ∧ xs[j]? = some v ∧ j < xs.length ∧ -(xs.length:Int) ≤ i ∧ i < xs.length:=by
 unfold atI at h
 cases e:ixN xs.length i with
 | none=>rw [e] at h; cases h
 | some j =>
  rw [e] at h
  obtain ⟨h1,h2,h3,h4⟩:=ixN_seq e
  exact ⟨j,h1,h,h2,h3,h4⟩
theorem atI_nat {α:Type} {xs:List α} {j:Nat} {v:α} (h:xs[j]? = some v):atI xs (j:Int) = some v:=by
 have hj:j < xs.length:=(List.getElem?_eq_some_iff.mp h).1
 have e:ixN xs.length (j:Int) = some j:=by
  unfold ixN
  rw [if_pos (by omega),if_pos (by omega)]; simp
 unfold atI; rw [e]; exact h
def PlainIx (b:Expr):Prop:=∀ o i,subscripted b false o i = operate [o,i] (getItem o i)
def IxR (X:Cx) (r:R2):Prop :=
 ∀ (value slice:Expr) (pins:List (Addr × Obj)) (s:Shared) (σ:St) (H:Hp) (x y:V) (v u:Value) (Q:VK),Inv X pins σ H s → RelV x v → RelV y u → r x y H Q →
  subscripted slice false v u = operate [v,u] (getItem v u) → wpAny (model X.prog X.w) X.A (subscriptTail value slice v u) (EP X pins σ Q) X.xe s
def MtR (X:Cx) (id:String) (r:V → List V → Hp → VK → Prop):Prop :=
 ∀ (pins:List (Addr × Obj)) (s:Shared) (σ:St) (H:Hp) (x:V) (xs:List V) (v:Value) (us:List Value) (Q:VK),Inv X pins σ H s → RelV x v → Vals xs us → r x xs H Q →
  wpAny (model X.prog X.w) X.A (call (.builtin id) (v :: us)) (EP X pins σ Q) X.xe s
section
variable {X:Cx} {a b:Expr} {ta tb:TE} {pos:Pos}
theorem pe_ix {r:R2} (hr:IxR X r) (ha:PE X a ta) (hb:PE X b tb) (hs:PlainIx b):PE X (.Subscript a b pos) (tOp r ta tb):=by
 intro pins s σ H Q I h
 exact Subscript_ (binT ha hb I h fun v u s2 x y H2 I2 rx ry q=>hr a b pins s2 σ H2 x y v u Q I2 rx ry q (hs _ _))
def rIxL (K:PySem.W.Frag):R2:=fun x y H Q=>∃ p xs i v,x = .ref p ∧ y = .int i ∧ SqL K H p xs ∧ atI xs i = some v ∧ Q v H
def rIxT (K:PySem.W.Frag):R2:=fun x y H Q=>∃ p xs i v,x = .ref p ∧ y = .int i ∧ SqT K H p xs ∧ atI xs i = some v ∧ Q v H
def rIxS:R2:=fun x y H Q=>∃ z i c,x = .str z ∧ y = .int i ∧ z.length ≤ sizeLine ∧ atI z.cps.toList i = some c ∧ Q (.str ⟨#[c]⟩) H
theorem ix_list:IxR X (rIxL X.K):=by
 intro value slice pins s σ H x y v u Q I rx ry h hs
 obtain ⟨p,xs,i,z,rfl,rfl,hq,he,q⟩:=h
 cases rx
 obtain ⟨t,rfl⟩:=ry
 obtain ⟨its,r,pl,hz⟩:=I.list hq
 obtain ⟨j,h1,h2,h3,h4,h5⟩:=atI_get he
 obtain ⟨w,ew,rw'⟩:=r.get h2
 have hl:=r.length
 have hn:=line63
 have fin:EP X pins σ Q w s:=⟨z,H,I,rw',q⟩
 by_cases h0:0 ≤ i
 ·have hj:i.toNat = j:=by
   rw [seqIndex_of h0 h5] at h1
   exact Option.some.inj h1
  exact item_listR pl.isList h0 (by omega) (by rw [hj]; simpa using ew) fin hs
 ·have hj:(i + (its.toArray.size:Int)).toNat = j:=by
   rw [seqIndex_neg (by omega) h4] at h1
   rw [List.size_toArray,← hl]
   exact Option.some.inj h1
  exact subscriptTail_builtinR (x:=w) pl.isList.typeIs slot_list_getitem.lookup
   (wpAny_getItem_list_neg (Q:=fun r s'=>r = w ∧ EP X pins σ Q r s') pl.isList (by omega) (by rw [List.size_toArray] <;> omega) (by omega) (by rw [hj]; simpa using ew) ⟨rfl,fin⟩) hs
theorem ix_tup:IxR X (rIxT X.K):=by
 intro value slice pins s σ H x y v u Q I rx ry h hs
 obtain ⟨p,xs,i,z,rfl,rfl,hq,he,q⟩:=h
 cases rx
 obtain ⟨t,rfl⟩:=ry
 obtain ⟨its,r,pl,hz⟩:=I.tuple hq
 obtain ⟨j,h1,h2,h3,h4,h5⟩:=atI_get he
 obtain ⟨w,ew,rw'⟩:=r.get h2
 have hl:=r.length
 have hn:=line63
 have fin:EP X pins σ Q w s:=⟨z,H,I,rw',q⟩
 exact subscriptTail_builtinR (x:=w) pl.typeIs slot_tuple_getitem.lookup
  (getItem_tuple (j:=j) (Q:=fun r s'=>r = w ∧ EP X pins σ Q r s') pl (by omega) (by omega) (by rw [List.size_toArray,← hl]; exact h1) (by simpa using ew) ⟨rfl,fin⟩) hs
theorem ix_str:IxR X rIxS:=by
 intro value slice pins s σ H x y v u Q I rx ry h hs
 obtain ⟨z,i,c,rfl,rfl,hz,he,q⟩:=h
 obtain ⟨t,rfl⟩:=rx
 obtain ⟨t',rfl⟩:=ry
 obtain ⟨j,h1,h2,h3,h4,h5⟩:=atI_get he
 have hl:z.cps.toList.length = z.length:=by simp [Str.length]
 rw [hl] at h1 h4 h5
 have hn:=line63
 exact tail_any (typeIs_str s z t) slot_str_getitem.lookup (getItem_str (c:=c) (by
  have e1:decide (i < -(2 ^ 63:Int)) = false:=decide_eq_false (by omega)
  have e2:decide (i ≥ 2 ^ 63) = false:=decide_eq_false (by omega)
  rw [e1,e2,Bool.or_false]) (by rw [h1]; simpa using h2) ⟨.str ⟨#[c]⟩,H,I.tok _,⟨_,rfl⟩,q⟩) hs
theorem slice_bounds (lo hi:Option Int) (n:Nat):(sliceBounds lo hi none n).1 = ((HT.sIx n 0 lo:Nat):Int) ∧ (sliceBounds lo hi none n).2.1 = ((HT.sIx n n hi:Nat):Int) ∧ (sliceBounds lo hi none n).2.2 = 1:=by
 refine ⟨?_,?_,rfl⟩
 ·cases lo with
  | none=>simp [sliceBounds,HT.sIx]
  | some i =>
   simp only [sliceBounds,HT.sIx,Option.getD_none,show (1:Int) > 0 by decide,if_true]
   by_cases h:i < 0
   ·simp only [h,if_true] <;> omega
   ·simp only [h,if_false] <;> omega
 ·cases hi with
  | none=>simp [sliceBounds,HT.sIx]
  | some i =>
   simp only [sliceBounds,HT.sIx,Option.getD_none,show (1:Int) > 0 by decide,if_true]
   by_cases h:i < 0
   ·simp only [h,if_true] <;> omega
   ·simp only [h,if_false] <;> omega
theorem slicePick_cut (its:List Value) (lo hi:Option Int):slicePick its.toArray lo hi none = ((its.drop (HT.sIx its.length 0 lo)).take (HT.sIx its.length its.length hi - HT.sIx its.length 0 lo)).toArray:=by
 obtain ⟨h1,h2,h3⟩:=slice_bounds lo hi its.toArray.size
 unfold slicePick
 rw [h1,h2,h3]
 simp only [sliceRange_one,pick_run,List.size_toArray] <;> rfl
def rSlL (K:PySem.W.Frag):V → Option Int → Option Int → Hp → VK → Prop:=fun x lo hi H Q=>∃ a xs,x = .ref a ∧ SqL K H a xs ∧ ∀ p,H p = none → Q (.ref p) (upd H p (.lst (cutV xs lo hi)))
theorem sl_list:SlR X (rSlL X.K):=by
 intro pins s σ H x v vl vu lo hi sl Q I rx hs pl pu h
 obtain ⟨a,xs,rfl,hx,q⟩:=h
 cases rx
 obtain ⟨its,r,ht,hz⟩:=I.list hx
 have hlen:=r.length
 refine ⟨"list",_,slot_list_getitem.lookup,ht.isList.typeIs,?_⟩
 refine wpAny_getItem_list_slice ht.isList hs pl pu .none (by simp) ?_ (by rw [List.size_toArray] <;> omega)
 rw [slicePick_cut,← hlen]
 refine ⟨.ref s.heap.objs.size,_,I.laid (t':=s.toks) (o:=.lst (cutV xs lo hi)) (fun b ob q=>Heap.get?_push_of_some _ q) (Nat.le_refl _) ?_,rfl,q _ (I.hok.fresh (Nat.le_refl _))⟩
 exact ⟨Nat.le_trans (cutV_length xs lo hi) hz,_,0,(r.drop (HT.sIx xs.length 0 lo)).take (HT.sIx xs.length xs.length hi - HT.sIx xs.length 0 lo),Heap.get?_push_size _ rfl⟩
theorem call_len_seq:CallR X (.builtin "len") (fun xs H Q=>∃ p ys,xs = [.ref p] ∧ (SqL X.K H p ys ∨ SqT X.K H p ys) ∧ Q (.int ys.length) H):=by
 intro pins s σ H xs us Q I r h
 obtain ⟨p,ys,rfl,hq,q⟩:=h
 obtain ⟨u,rfl,rx⟩:=vals1 r
 cases rx
 have hn:=line63
 rcases hq with hq | hq
 ·obtain ⟨its,r',pl,hz⟩:=I.list hq
  have hlen:=r'.length
  exact Calls.call_len_list pl.isList (by simp only [List.size_toArray] <;> omega) ⟨.int ys.length,H,I.tok _,⟨s.toks + 1,by rw [List.size_toArray,hlen]⟩,q⟩
 ·obtain ⟨its,r',pl,hz⟩:=I.tuple hq
  have hlen:=r'.length
  exact len_tuple pl (by simp only [List.size_toArray] <;> omega) ⟨.int ys.length,H,I.tok _,⟨s.toks + 1,by rw [List.size_toArray,hlen]⟩,q⟩
theorem call_len_str:CallR X (.builtin "len") (fun xs H Q=>∃ z,xs = [.str z] ∧ z.length ≤ sizeLine ∧ Q (.int z.length) H):=by
 intro pins s σ H xs us Q I r h
 obtain ⟨z,rfl,hz,q⟩:=h
 obtain ⟨u,rfl,t,rfl⟩:=vals1 r
 have hn:=line63
 exact len_str (by omega) ⟨.int z.length,H,I.tok _,⟨_,rfl⟩,q⟩
theorem call_list_of:CallR X (.type "list") (fun xs H Q=>∃ p ys,xs = [.ref p] ∧ (SqL X.K H p ys ∨ SqT X.K H p ys) ∧ ∀ l,H l = none → Q (.ref l) (upd H l (.lst ys))):=by
 intro pins s σ H xs us Q I r h
 obtain ⟨p,ys,rfl,hq,q⟩:=h
 obtain ⟨u,rfl,rx⟩:=vals1 r
 cases rx
 have fin:∀ (its:List Value),Vals ys its → ys.length ≤ sizeLine → ∀ (h':Heap) (c':Nat),(∀ b o',s.heap.get? b = some o' → h'.get? b = some o') →
   h'.get? s.heap.objs.size = some { cls:=.type "list",dict:=none,data:=.seq its.toArray c',slots:=#[] } → EP X pins σ Q (.ref s.heap.objs.size) { s with heap:=h' }:=fun its r' hz h' c' kp e =>
  ⟨.ref s.heap.objs.size,_,I.laid (t':=s.toks) kp (Nat.le_refl _) (show ObjOk X.prog X.w _ h' _ (.lst ys) from ⟨hz,its,c',r',e⟩),rfl,q _ (I.hok.fresh (Nat.le_refl _))⟩
 rcases hq with hq | hq
 ·obtain ⟨its,r',pl,hz⟩:=I.list hq
  have hlen:=r'.length
  obtain ⟨o,ho,hc,n,hd⟩:=pl.isList
  exact call_list_seq p (.inl rfl) ho hc hd (fun h' c' kp e=>fin its r' hz h' c' kp e) (by simp only [List.size_toArray] <;> omega)
 ·obtain ⟨its,r',pl,hz⟩:=I.tuple hq
  have hlen:=r'.length
  obtain ⟨o,ho,hc,n,hd⟩:=pl
  exact call_list_seq p (.inr rfl) ho hc hd (fun h' c' kp e=>fin its r' hz h' c' kp e) (by simp only [List.size_toArray] <;> omega)
def tyV (K:PySem.W.Frag) (T:String) (x:V) (H:Hp):Prop:=match x with
 | .str _=>T = "str"
 | .int _=>T = "int"
 | .ref p=>(T = "list" ∧ ∃ xs,SqL K H p xs) ∨ (T = "tuple" ∧ ∃ o,K.lookup p = some o ∧ o.cls = .type "tuple" ∧ o.dict = none) ∨
   (T = "dict" ∧ ((∃ kvs,H p = some (.dK kvs)) ∨ ∃ kvs,H p = some (.dT kvs))) ∨ (T = "set" ∧ ∃ S n,H p = some (.set S n))
 | _=>False
theorem tyV_is {pins:List (Addr × Obj)} {σ:St} {H:Hp} {s:Shared} {T:String} {x:V} {v:Value} (I:Inv X pins σ H s) (r:RelV x v) (ty:tyV X.K T x H) :
  s.TypeIs v T ∧ ∀ a,v = .ref a → ∃ ob,s.heap.get? a = some ob ∧ ob.dict = none:=by
 cases x with
 | str z =>
  obtain ⟨t,rfl⟩:=r
  cases (show T = "str" from ty)
  exact ⟨typeIs_str s z t,fun _ e=>nomatch e⟩
 | int i =>
  obtain ⟨t,rfl⟩:=r
  cases (show T = "int" from ty)
  exact ⟨typeIs_int s i t,fun _ e=>nomatch e⟩
 | ref p =>
  cases r
  rcases ty with ⟨rfl,xs,hq⟩ | ⟨rfl,o,hk,hc,hd⟩ | ⟨rfl,hk⟩ | ⟨rfl,S,n,hk⟩
  ·obtain ⟨its,_,pl,_⟩:=I.list hq
   refine ⟨pl.isList.typeIs,fun a e=>?_⟩
   cases e
   obtain ⟨o,n,e,c,hd,_⟩:=pl
   exact ⟨o,e,hd⟩
  ·refine ⟨⟨o,I.kIn p o hk,hc⟩,fun a e=>?_⟩
   cases e
   exact ⟨o,I.kIn _ o hk,hd⟩
  ·have z:∃ o,s.heap.get? p = some o ∧ o.ExactDict:=by
    rcases hk with ⟨kvs,hk⟩ | ⟨kvs,hk⟩
    ·obtain ⟨_,_,_,_,o,_,_,e,ex,_⟩:=I.hok p _ hk
     exact ⟨o,e,ex⟩
    ·obtain ⟨_,_,_,_,o,_,_,e,ex,_⟩:=I.hok p _ hk
     exact ⟨o,e,ex⟩
   obtain ⟨o,e,ex⟩:=z
   refine ⟨⟨o,e,ex.1⟩,fun a e2=>?_⟩
   cases e2
   exact ⟨o,e,ex.2.1⟩
  ·obtain ⟨o,_,_,_,e,ex,_⟩:=I.hok p _ hk
   refine ⟨⟨o,e,ex.1⟩,fun a e2=>?_⟩
   cases e2
   exact ⟨o,e,ex.2.1⟩
 | _=>exact False.elim ty
def tBM (K:PySem.W.Frag) (T:String) (r:V → List V → Hp → VK → Prop) (to:TE) (t:TA):TE:=fun σ H Q=>to σ H fun x H1=>tyV K T x H1 ∧ t σ H1 fun xs H2=>r x xs H2 Q
variable {o e:Expr} {es:List Expr} {to:TE} {t:TA} {name:Str} {apos cpos:Pos} {T id:String} {r:V → List V → Hp → VK → Prop}
theorem pe_bm (pa:PlainAttrs T) (slot:Slot T name id) (hty:typeOf (.builtin id) = pure (.type "method_descriptor")) (hm:MtR X id r) (ho:PE X o to) (ha:PA X (e :: es) t)
  (hbase:attributeBase o name X.env (eval o X.env) = eval o X.env:=by rfl)
  (hfew:((backTo cpos (starEach (e :: es) X.env)).all (fun x=>!x.1) && (backToKw cpos (keywordEach [] X.env)).all (fun x=>x.1.isSome)
   && decide ((e :: es).length + ([]:List Keyword).length + (if ([]:List Keyword).isEmpty then 0 else 1) < 30)) = true:=by rfl)
  (hline:(apos.endLine == cpos.line) = true:=by rfl) (hs:starEach (e :: es) X.env = (false,eval e X.env) :: starEach es X.env:=by rfl) (hplain:(backTo cpos (starEach es X.env)).any (·.1) = false:=by rfl) :
  PE X (.Call (.Attribute o name apos) (e :: es) [] cpos) (tBM X.K T r to t):=by
 intro pins s σ H Q I h
 refine wpAny_Call_method_late hbase hfew hline rfl (thn (ho pins s σ H _ I h) fun v s1 ⟨x,H1,I1,r1,ty,q1⟩=>?_)
 obtain ⟨h1,h2⟩:=tyV_is I1 r1 ty
 refine ⟨T,id,pa,slot,hty,h1,h2,?_⟩
 have hA:=ha cpos pins s1 σ H1 _ I1 q1
 rw [hs] at hA ⊢
 refine Calls.callWith_builtin (by show (false || (backTo cpos (starEach es X.env)).any (·.1)) = false; rw [hplain] <;> rfl) (Calls.evalArgs_plain ?_)
 exact thn hA fun us s2 ⟨vs,H2,I2,r2,q2⟩=>hm pins s2 σ H2 x vs v us Q I2 r1 r2 q2
/- xs.append(e),list.index on a module's tuple .. are MtR facts of 06m -/
end
end L2
namespace L2
open PySem PySem.Spec PyProof.Rows
def MtM (X:Cx) (id:String) (r:V → List V → Hp → VK → Prop):Prop :=
 ∀ (pins:List (Addr × Obj)) (s:Shared) (σ:St) (H:Hp) (x:V) (xs:List V) (v:Value) (us:List Value) (Q:VK),Inv X pins σ H s → RelV x v → Vals xs us → r x xs H Q →
  wpAny (model X.prog X.w) X.A (call (.builtin id) (v :: us)) (EP X pins σ Q) X.xe s
theorem Vals.one:∀ {x:V} {us:List Value},Vals [x] us → ∃ u,us = [u] ∧ RelV x u
 | _,_,.cons r .nil=>⟨_,rfl,r⟩
theorem Vals.two:∀ {x y:V} {us:List Value},Vals [x,y] us → ∃ u v,us = [u,v] ∧ RelV x u ∧ RelV y v
 | _,_,_,.cons r (.cons q .nil)=>⟨_,_,rfl,r,q⟩
theorem Vals.rep {xs:List V} {us:List Value} (h:Vals xs us):∀ k:Nat,Vals (List.replicate k xs).flatten (List.replicate k us).flatten
 | 0=>.nil
 | k + 1=>by
  rw [List.replicate_succ,List.replicate_succ,List.flatten_cons,List.flatten_cons]
  exact Vals.append h (Vals.rep h k)
theorem foldl_rep (its:List Value):∀ (k:Nat) (acc:List Value),
  List.foldl (fun x1 x2=>x1 ++ x2) acc.toArray (List.replicate k its.toArray) = (acc ++ (List.replicate k its).flatten).toArray
 | 0,acc=>by simp
 | k + 1,acc=>by
  have e:acc.toArray ++ its.toArray = (acc ++ its).toArray:=by simp
  have e2:(acc ++ its) ++ (List.replicate k its).flatten = acc ++ (List.replicate (k + 1) its).flatten:=by
   rw [List.replicate_succ,List.flatten_cons,List.append_assoc]
  rw [← e2,← foldl_rep its k (acc ++ its),← e,List.replicate_succ,List.foldl_cons]
section
variable {X:Cx} {pins:List (Addr × Obj)} {σ:St} {H:Hp} {s:Shared} {l b:Addr} {xs ys zs:List V}
theorem Inv.lset {its its':List Value} {n:Nat} {f:Array Value → Array Value} {t':Nat} (I:Inv X pins σ H s) (hH:H l = some (.lst xs))
  (e:s.heap.get? l = some { cls:=.type "list",data:=.seq its.toArray n }) (hf:f its.toArray = its'.toArray) (hv:Vals ys its') (hz:ys.length ≤ sizeLine) :
  Inv X pins σ (upd H l (.lst ys)) { s with heap:=s.heap.update l (Obj.mapSeq f),toks:=t' }:=by
 have q:=PySem.IsL.update e f
 rw [hf] at q
 refine I.write (x:=l) (e:=l) (by rw [hH]; exact trivial) (.inl rfl) (fun b' u hb hu=>(Heap.get?_update_other s.heap (Obj.mapSeq f) (Ne.symm hb)).trans hu) ⟨_,q⟩ ?_
 exact ⟨hz,its',_,hv,q⟩
theorem Inv.lnew {its:List Value} {t':Nat} (I:Inv X pins σ H s) (hv:Vals ys its) (hz:ys.length ≤ sizeLine) :
  Inv X pins σ (upd H s.heap.objs.size (.lst ys)) { s with heap:=s.heap.push { cls:=.type "list",data:=.seq its.toArray },toks:=t' } :=
 I.laid (fun _ _ q=>Heap.get?_push_of_some _ q) (Nat.le_refl _) ⟨hz,its,0,hv,Heap.get?_push_size _ rfl⟩
theorem Inv.fresh (I:Inv X pins σ H s):H s.heap.objs.size = none:=I.hok.fresh (Nat.le_refl _)
theorem Inv.lstM (I:Inv X pins σ H s) (hH:H l = some (.lst xs)):xs.length ≤ sizeLine ∧ ∃ (its:List Value) (n:Nat),Vals xs its ∧ xs.length = its.length ∧ s.heap.get? l = some { cls:=.type "list",data:=.seq its.toArray n }:=by
 obtain ⟨z,its,n,r,e⟩:=I.hok l _ hH
 exact ⟨z,its,n,r,r.length,e⟩
theorem notLongL {n:Nat} (h:n ≤ sizeLine):Builtin.List.listTooLong n = false:=by
 unfold Builtin.List.listTooLong
 exact decide_eq_false (by omega)
end
section
variable {X:Cx}
def rAppend:V → List V → Hp → VK → Prop:=fun x vs H Q=>∃ l xs y,x = .ref l ∧ vs = [y] ∧ H l = some (.lst xs) ∧ xs.length < sizeLine ∧ Q .non (upd H l (.lst (xs ++ [y])))
theorem mt_append:MtM X "list.append" rAppend:=by
 intro pins s σ H x vs v us Q I rx rv h
 obtain ⟨l,xs,y,rfl,rfl,hH,hz,q⟩:=h
 cases rx
 obtain ⟨u,rfl,ru⟩:=rv.one
 obtain ⟨z,its,n,r,hl,e⟩:=I.lstM hH
 refine call_meets F.slot_list_append ⟨_,e,rfl⟩ F.entry_list_append (F.args_list_append_2 _ _) (PySem.list_append l its.toArray n u (by rw [List.size_toArray]; omega)) ⟨e,?_⟩
 refine ⟨.non,_,I.lset (its':=its ++ [u]) hH e (by simp) (r.append (.cons ru .nil)) ?_,rfl,q⟩
 rw [List.length_append,List.length_singleton]
 omega
def rCat:R2:=fun x y H Q=>∃ l b xs zs,x = .ref l ∧ y = .ref b ∧ H l = some (.lst xs) ∧ H b = some (.lst zs) ∧ xs.length + zs.length ≤ sizeLine ∧ ∀ p,H p = none → Q (.ref p) (upd H p (.lst (xs ++ zs)))
theorem op_cat:OpR X (binaryOp .Add) rCat:=by
 intro pins s σ H x y v u Q I rx ry h
 obtain ⟨l,b,xs,zs,rfl,rfl,hH,hB,hz,q⟩:=h
 cases rx
 cases ry
 obtain ⟨z,its,n,r,hl,e⟩:=I.lstM hH
 obtain ⟨z2,its2,n2,r2,hl2,e2⟩:=I.lstM hB
 refine PySem.P.add_list e e2 ?_ (by rw [List.size_toArray,List.size_toArray]; omega)
 have ea:its.toArray ++ its2.toArray = (its ++ its2).toArray:=by simp
 rw [ea]
 exact ⟨.ref _,_,I.lnew (t':=s.toks) (r.append r2) (by rw [List.length_append]; omega),rfl,q _ I.fresh⟩
def rRep:R2:=fun x y H Q=>∃ l k xs,x = .ref l ∧ y = .int k ∧ H l = some (.lst xs) ∧ -(2 ^ 63) ≤ k ∧ k < 2 ^ 63 ∧ xs.length * k.toNat ≤ sizeLine ∧
 ∀ p,H p = none → Q (.ref p) (upd H p (.lst (List.replicate k.toNat xs).flatten))
theorem len_rep {α:Type} (xs:List α) (k:Nat):(List.replicate k xs).flatten.length = k * xs.length:=by
 induction k with
 | zero=>simp
 | succ k ih=>rw [List.replicate_succ,List.flatten_cons,List.length_append,ih,Nat.succ_mul,Nat.add_comm]
theorem op_rep:OpR X (binaryOp .Mult) rRep:=by
 intro pins s σ H x y v u Q I rx ry h
 obtain ⟨l,k,xs,rfl,rfl,hH,h1,h2,hz,q⟩:=h
 cases rx
 obtain ⟨t,rfl⟩:=ry
 obtain ⟨z,its,n,r,hl,e⟩:=I.lstM hH
 have hlen:its.toArray.size * k.toNat ≤ sizeLine:=by rw [List.size_toArray,← hl]; exact hz
 have hcap:¬ its.toArray.size * k.toNat > (2 ^ 63 - 1) / 8:=by
  have:(sizeLine:Nat) ≤ (2 ^ 63 - 1) / 8:=by decide
  omega
 have hfit:¬ (!Builtin.List.listFitsIndex k) = true:=by
  rw [fitsIndex_both h1 h2]
  exact Bool.false_ne_true
 have hlong:¬ Builtin.List.listTooLong (its.toArray.size * k.toNat) = true:=by
  rw [notLongL hlen]
  exact Bool.false_ne_true
 have hnew:List.foldl (fun x1 x2=>x1 ++ x2) #[] (List.replicate (if its.toArray.isEmpty = true then 0 else k.toNat) its.toArray) = (List.replicate k.toNat its).flatten.toArray:=by
  have f0:∀ m:Nat,List.foldl (fun x1 x2=>x1 ++ x2) #[] (List.replicate m its.toArray) = (List.replicate m its).flatten.toArray:=fun m=>by
   have:=foldl_rep its m []
   rw [List.nil_append] at this
   exact this
  rw [f0]
  cases its with
  | nil=>simp
  | cons a r'=>rw [if_neg (by simp)]
 refine wpAny_binaryOp_repeat_ref (T:="list") (U:="int") (by decide) ⟨_,e,rfl⟩ (fun s'=>typeIs_int s' k t) noFill_list_mul F.fills_int_mul F.slot_int_rmul repeat_list F.slot_int_index.lookup
  (call_meets F.slot_int_rmul (typeIs_int s k t) F.entry_int_rmul (F.args_int_rmul_2 _ _) (int___rmul___int_list k t l its.toArray n)
   ⟨e,rfl,⟨_,e,rfl⟩,call_meets F.slot_list_mul ⟨_,e,rfl⟩ F.entry_list_mul (F.args_list_mul_2 _ _) (AutoListH.list___mul___list_int_3 l its.toArray n k t hfit hcap hlong) ⟨e,?_⟩⟩)
 rw [hnew]
 exact ⟨.ref _,_,I.lnew (t':=s.toks) (r.rep k.toNat) (by rw [len_rep,Nat.mul_comm]; exact hz),rfl,q _ I.fresh⟩
end
section
variable {prog:Program} {w:World} {A:Around} {E:Value → Shared → Prop} {s:Shared}
end
section
variable {X:Cx}
end
end L2
namespace L2
open PySem PySem.Spec PyProof.Rows
section
variable {κ:Type} [DecidableEq κ]
def valV (kvs:List (κ × V)) (k:κ):Option V:=(kvs.find? fun kv=>decide (kv.1 = k)).map (·.2)
theorem valV_pos {p:κ × V} {r:List (κ × V)} {k:κ} (e:p.1 = k):valV (p :: r) k = some p.2:=by simp [valV,List.find?_cons,e]
theorem valV_neg {p:κ × V} {r:List (κ × V)} {k:κ} (e:¬ p.1 = k):valV (p :: r) k = valV r k:=by simp [valV,List.find?_cons,e]
theorem KV.val {kvs:List (κ × V)} {vs:List (κ × Value)} (r:KV kvs vs) (k:κ):RelO (valV kvs k) (valueAt vs k):=by
 unfold KV at r
 induction r with
 | nil=>exact True.intro
 | @cons p q ps qs h t ih =>
  obtain ⟨h1,h2⟩:=h
  by_cases e:p.1 = k
  ·have e':q.1 = k:=h1.symm.trans e
   have b:valueAt (q :: qs) k = some q.2:=by simp [valueAt,List.find?_cons,e']
   rw [valV_pos e,b]; exact h2
  ·have e':¬ q.1 = k:=fun z=>e (h1.trans z)
   have b:valueAt (q :: qs) k = valueAt qs k:=by simp [valueAt,List.find?_cons,e']
   rw [valV_neg e,b]; exact ih
theorem KV.length {kvs:List (κ × V)} {vs:List (κ × Value)} (r:KV kvs vs):kvs.length = vs.length:=Paired.length r
end
theorem kV_is {P:Program} {w:World} {k:Key} {u:Value} (r:RelV (kV k) u):(mixKind P w).is k u = true:=by
 cases k with
 | inl i=>obtain ⟨t,e⟩:=(show ∃ t,u = Value.int i t from r); subst e; exact mixKind_int P w i t
 | inr x=>obtain ⟨t,e⟩:=(show ∃ t,u = Value.str x t from r); subst e; exact mixKind_str P w x t
theorem items_are {P:Program} {w:World}:∀ {ks:List Key} {us:List Value},Vals (ks.map kV) us → ItemsAre (mixKind P w) ks us
 | [],_,r=>by rw [List.map_nil] at r; cases r; exact .nil
 | k :: ks,_,r=>by
  rw [List.map_cons] at r
  cases r with
  | cons h t=>exact .cons (kV_is h) (items_are t)
abbrev KT (H:Hp):List (List Key × V) → List (List Key × Addr × Value) → Prop:=Paired fun p q=>p.1 = q.1 ∧ H q.2.1 = some (.tup (p.1.map kV)) ∧ RelV p.2 q.2.2
theorem KT.val {H:Hp} {kvs:List (List Key × V)} {xs:List (List Key × Addr × Value)} (r:KT H kvs xs) (k:List Key):RelO (valV kvs k) ((atKey xs k).map (·.2)):=by
 induction r with
 | nil=>exact True.intro
 | @cons p q ps qs h t ih =>
  obtain ⟨h1,_,h2⟩:=h
  by_cases e:p.1 = k
  ·have e':q.1 = k:=h1.symm.trans e
   have b:atKey (q :: qs) k = some q.2:=by simp [atKey,List.find?_cons,e']
   rw [valV_pos e,b]; exact h2
  ·have e':¬ q.1 = k:=fun z=>e (h1.trans z)
   have b:atKey (q :: qs) k = atKey qs k:=by simp [atKey,List.find?_cons,e']
   rw [valV_neg e,b]; exact ih
section
variable {P:Program} {w:World} {H:Hp} {h:Heap} {a:Addr}
theorem rd_of {u:HO} (ok:HOk P w H h) (e:Rd H a u):ObjOk P w H h a u:=e.ok ok
theorem dk_rd {kvs:List (Key × V)} (ok:HOk P w H h) (e:Rd H a (.dK kvs)):kvs.length ≤ sizeLine ∧ (a == sysModules) = false ∧ ∃ vs,KV kvs vs ∧ h.DictOf (mixKind P w) a vs :=
 show ObjOk P w H h a (.dK kvs) from rd_of ok e
theorem key_of {ks:List Key} (ok:HOk P w H h) (e:H a = some (.tup (ks.map kV))):(tupleKind (mixKind P w)).is h ks a:=by
 obtain ⟨_,its,r,o,h1,h2,n,h3⟩:=(show ObjOk P w H h a (.tup (ks.map kV)) from ok a _ e)
 exact ⟨o,its.toArray,n,h1,h2,h3,by simpa using items_are r⟩
theorem dt_rd {kvs:List (List Key × V)} (ok:HOk P w H h) (e:Rd H a (.dT kvs)):kvs.length ≤ sizeLine ∧ (a == sysModules) = false ∧
  ∃ xs,KT H kvs xs ∧ h.DictOfH (tupleKind (mixKind P w)) a xs:=by
 obtain ⟨z,y,xs,r,o,es,ep,h1,h2,h3,h4,h5⟩:=(show ObjOk P w H h a (.dT kvs) from rd_of ok e)
 refine ⟨z,y,xs,r,o,es,ep,h1,h2,h3,h4,fun x hx=>?_,h5⟩
 have all:∀ {l:List (List Key × V)} {m:List (List Key × Addr × Value)},KT H l m → ∀ x ∈ m,(tupleKind (mixKind P w)).is h x.1 x.2.1:=by
  intro l m q
  induction q with
  | nil=>intro x hx; exact nomatch hx
  | @cons p q ps qs hq t ih =>
   intro x hx
   rcases List.mem_cons.mp hx with e | hx
   ·subst e
    exact key_of ok (by rw [← hq.1]; exact hq.2.1)
   ·exact ih x hx
 exact all r x hx
end
def DGet (H:Hp) (a:Addr) (y:V) (r:Option V):Prop :=
 (∃ kvs k,Rd H a (.dK kvs) ∧ y = kV k ∧ r = valV kvs k) ∨ ∃ kvs k b,Rd H a (.dT kvs) ∧ y = .ref b ∧ H b = some (.tup (k.map kV)) ∧ r = valV kvs k
section
variable {X:Cx} {pins:List (Addr × Obj)} {σ:St} {H:Hp} {s:Shared} {a:Addr} {y v:V} {u r:Value} {o:Option V} {A:Around} {E:Value → Shared → Prop}
theorem d_getItem {Q:Value → Shared → Prop} (hu:A.units + 1 < cLine) (I:Inv X pins σ H s) (g:DGet H a y (some v)) (ry:RelV y u) (h:∀ w' s',Inv X pins σ H s' → RelV v w' → Q w' s') :
  wpAny (model X.prog X.w) A (getItem (.ref a) u) Q E s:=by
 rcases g with ⟨kvs,k,e,ey,l⟩ | ⟨kvs,k,b,e,ey,eb,l⟩
 ·subst ey
  obtain ⟨z,hd,vs,rel,dd⟩:=dk_rd I.hok e
  obtain ⟨w',hw,rw'⟩:=RelO.some_of (v:=v) (o:=valueAt vs k) (by rw [l]; exact rel.val k)
  exact wpAny_getItem_of (kV_is ry) dd.mapOf hw (h w' _ (I.tok _) rw')
 ·subst ey
  cases (show u = Value.ref b from ry)
  obtain ⟨z,hd,xs,rel,dd⟩:=dt_rd I.hok e
  obtain ⟨w',hw,rw'⟩:=RelO.some_of (v:=v) (o:=(atKey xs k).map (·.2)) (by rw [l]; exact rel.val k)
  obtain ⟨p,hp,hp2⟩:=Option.map_eq_some_iff.mp hw
  refine wpAny_getItem_heap (tupleKind_room_in1 hu) (key_of I.hok eb) dd hp ?_
  rw [hp2]
  exact h w' _ (I.tok _) rw'
end
section
variable {X:Cx} {pins:List (Addr × Obj)} {σ:St} {H:Hp} {s:Shared} {a:Addr} {kvs:List (Key × V)} {k:Key} {u:Value} {A:Around} {E:Value → Shared → Prop}
theorem d_len {Q:Value → Shared → Prop} (I:Inv X pins σ H s) (e:Rd H a (.dK kvs)) (h:∀ t s',Inv X pins σ H s' → Q (.int kvs.length t) s'):wpAny (model X.prog X.w) A (call (.builtin "len") [.ref a]) Q E s:=by
 obtain ⟨z,hd,vs,rel,dd⟩:=dk_rd I.hok e
 refine call_len_dict hd dd (by rw [← rel.length]; rw [sizeLine_eq] at z; omega) ?_
 rw [← rel.length]
 exact h _ _ (I.tok _)
end
theorem dict_typeIs {X:Cx} {pins:List (Addr × Obj)} {σ:St} {H:Hp} {s:Shared} {a:Addr} {y:V} {o:Option V} (I:Inv X pins σ H s) (g:DGet H a y o):s.TypeIs (.ref a) "dict":=by
 rcases g with ⟨kvs,k,e,_,_⟩ | ⟨kvs,k,b,e,_,_,_⟩
 ·obtain ⟨_,_,vs,_,dd⟩:=dk_rd I.hok e
  exact dd.typeIs
 ·obtain ⟨_,_,xs,_,dd⟩:=dt_rd I.hok e
  exact dd.typeIs
section
variable {X:Cx} {o i e value:Expr} {pos pos' tpos:Pos} {td ty tv:TE}
end
section
variable {X:Cx} {pos:Pos}
end
section
variable {X:Cx} {pins:List (Addr × Obj)} {σ:St} {H:Hp} {s:Shared} {a:Addr} {y d:V} {u r:Value} {o:Option V} {A:Around} {E:Value → Shared → Prop}
end
section
variable {X:Cx} {o e f:Expr} {apos cpos:Pos} {td ty tx:TE}
end
section
variable {X:Cx} {pins:List (Addr × Obj)} {σ:St} {H:Hp} {s:Shared} {a:Addr} {kvs:List (Key × V)} {A:Around} {E:Value → Shared → Prop}
end
section
variable {X:Cx} {pins:List (Addr × Obj)} {σ:St} {H:Hp} {s:Shared} {a:Addr} {y:V} {u:Value} {A:Around} {E:Value → Shared → Prop}
end
end L2
namespace Att
open PySem PySem.W PySem.Calls PyProof.Rows
theorem ints_of_wellAll {P:Params} {h:Heap}:∀ (ns:List Int) (vs:List Value),WellAll P h vs (ns.map WData.int) → IntsAre vs ns:=by
 intro ns
 induction ns with
 | nil =>
  intro vs w
  rw [List.map_nil] at w
  cases w
  exact .nil
 | cons n ns ih =>
  intro vs w
  rw [List.map_cons] at w
  cases w with
  | cons a b =>
   cases a
   exact .cons _ _ (ih _ b)
theorem script_of {l:OpenLaw} {n:Nat} (hn:l.most = some n) {P:Params} {h:Heap} {args:List WData} {vals:List Value}
  (hpre:l.row.toRowW.claim.pre args = true) (hwl:WellAll P h vals args) :
  ∃ a vs ns,vals = [Value.ref a] ∧ args = [WData.list (ns.map WData.int)] ∧ h.get? a = some { cls:=.type "list",data:=.seq vs.toArray } ∧ IntsAre vs ns ∧ ns.length ≤ n:=by
 have hsh:WShape.hasAll [] args [.list .int] = true:=(pre_splitW hpre).1
 have hc:l.pre.holds [] { args:=args } = true:=(pre_splitW hpre).2
 obtain ⟨d,r,rfl,h1,h2⟩:=hasAllW_cons hsh
 obtain rfl:=hasAllW_nil h2
 obtain ⟨xs,rfl,h3⟩:=hasW_list h1
 obtain ⟨ns,rfl⟩:=items_int h3
 have hlen:ns.length ≤ n:=by
  unfold OpenLaw.pre at hc
  have h4:(WTm.not (.lt (.lit (.int (n:Int))) (.len (.arg 0)))).holds [] { args:=[.list (ns.map .int)] } = true:=by
   have h4:=(holds_andW hc).1
   rw [hn] at h4
   exact h4
  have h5:=condW_of h4 (w_not (w_lt w_lit (w_len_list (w_arg rfl))))
  rw [List.length_map] at h5
  refine Nat.le_of_not_lt fun q=>?_
  have q':(n:Int) < ((ns.length:Nat):Int):=by omega
  first
   | (rw [decide_eq_true q'] at h5; exact absurd h5 (by decide))
   | (simp at h5; omega)
 cases hwl with
 | cons w1 w2 =>
  cases w2
  cases w1 with
  | list ho hall=>exact ⟨_,_,ns,rfl,rfl,ho,ints_of_wellAll ns _ hall,hlen⟩
theorem post_true (l:OpenLaw) (args:List WData):l.row.toRowW.claim.post args (.bool true) args = true :=
 postW_of (r:=l.row.toRowW) (X:=(true == true))
  (show WShape.has [] (.bool true) .bool = true by first | rfl | decide | simp [WShape.has,WShape.arms,WShape.armsAll])
  (show (WTm.eq .res (.lit (.bool true))).value [] { args:=args,res:=some (.bool true),after:=args } = some (.bool (true == true)) from w_eq_bool (w_res rfl) w_lit) rfl
theorem attach_call {l:OpenLaw} {n:Nat} {q:Program} {loose:List Str} {XP:(Str → Option Value) → Heap → Prop} {YP:World → Heap → Prop} {d:DefRec}
  (hn:l.most = some n) (hdf:d.params.defaults = [])
  (call:∀ (w:World) (s₀ s₁:Shared) (mg mb:Str → Option Value) (fa:Addr) (o:Obj) (pm cd doc:Value) (a:Addr) (vs:List Value) (ns:List Int),
   Ground q loose [] XP w s₀ mg mb s₁.heap → YP w s₁.heap →
   s₁.heap.get? fa = some o → o.data = .func (docDef d.name d.params d.body d.scope pm cd doc) → s₁.heap.CodeRec cd d.name → mg d.name = some (.ref fa) →
   s₁.heap.get? a = some { cls:=.type "list",data:=.seq vs.toArray } → IntsAre vs ns → ns.length ≤ n → s₁.gens = #[] →
   codeAny (model l.prog w) callerA (.call (.ref fa) ⟨[.ref a],[]⟩) (fun r s'=>r = .ok (.ret (.bool true)) ∧ OldK s₁.heap s'.heap ∧ s'.os = s₁.os ∧ AllBare s'.gens) s₁) :
  WalkO q loose XP YP l.row.toRowW d [] (fun f vs=>PySem.call f vs):=by
 intro w s₀ s₁ mg mb G Y fa o pm cd doc dV kV ho hd hcd hD hmg hg args vals as hpre hlay hrd hwl hlo
 obtain rfl:dV = .none:=Dflts.none hD hdf
 obtain rfl:kV = .none:=Dflts.noKw hD
 obtain ⟨a,vs,ns,rfl,rfl,hobj,hints,hlen⟩:=script_of hn hpre hwl
 refine enter_call (codeAny_mono (call w s₀ s₁ mg mb fa o pm cd doc a vs ns G Y ho (fd_plain hd) hcd hmg hobj hints hlen hg) fun r s' hq=>?_)
 obtain ⟨rfl,h2,h3,h4⟩:=hq
 exact ⟨.inl ⟨.bool true,.bool true,[],rfl,fun _=>rfl,.bool true,post_true l _,fun _=>⟨List.Pairwise.nil,fun _ hm=>(nomatch hm)⟩⟩,h2,h3,h4⟩
section
variable {prog:Program} {w:World} {A:Around} {E:Value → Shared → Prop} {s:Shared} {K:Frag}
end
end Att
namespace L2
open PySem PySem.Spec PyProof.Rows
theorem vals_ints:∀ {vs:List Value} {ns:List Int},IntsAre vs ns → Vals (ns.map V.int) vs
 | _,_,.nil=>.nil
 | _,_,.cons n t h=>.cons ⟨t,rfl⟩ (vals_ints h)
def Only (H:Hp):Prop:=∀ b,H b = none ∨ ∃ o xs,H b = some (.frz o (.lst xs))
theorem law_call {P:Program} {w:World} {K:PySem.W.Frag} {mg mb:Str → Option Value} {CX:CXT} {k:Nat} {fa a:Addr} {fd:FuncData} {x:Str} {sp:Sp} {s₁:Shared} {vs:List Value} {ns:List Int}
  (KX:K.In s₁.heap) (hns:s₁.heap.Ns mainGlobals mg) (hb:s₁.heap.Ns builtinsNs mb) (hbb:∀ x:Str,x ≠ "__name__" → mb x = bootBuiltins x) (hlim:s₁.heap.NoLimit) (hg:s₁.gens = #[])
  (ha:s₁.heap.get? a = some { cls:=.type "list",data:=.seq vs.toArray }) (hi:IntsAre vs ns) (hl:ns.length ≤ sizeLine) (hr:Room k callerA)
  (F:∀ base:Heap,K.In base → base.Ns mainGlobals mg → FnOk P w K mg base CX k fa fd [x] sp) (hbind:∀ (s:Shared) (u:Value),BindsTo s fd ⟨[u],[]⟩ [(x,u)])
  (hsp:∀ H:Hp,Only H → SqL K H a (ns.map V.int) → sp [.ref a] H (fun v _=>v = .bl true) fun _ _ _=>False)
  (hCX:∀ H e s',CX [] H s₁ (fun _ _ _=>False) e s' → False) :
  codeAny (model P w) callerA (.call (.ref fa) ⟨[.ref a],[]⟩) (fun r s'=>r = .ok (.ret (.bool true)) ∧ OldK s₁.heap s'.heap ∧ s'.os = s₁.os ∧ AllBare s'.gens) s₁:=by
 have rv:=vals_ints hi
 have lenV:=hi.length
 have core:∀ H:Hp,Only H → SqL K H a (ns.map V.int) → HOk P w H s₁.heap → (∀ b,H b ≠ none → b = a) → (H a ≠ none → K.lookup a = none) →
   codeAny (model P w) callerA (.call (.ref fa) ⟨[.ref a],[]⟩) (fun r s'=>r = .ok (.ret (.bool true)) ∧ OldK s₁.heap s'.heap ∧ s'.os = s₁.os ∧ AllBare s'.gens) s₁:=by
  intro H hO hS hok hA hK
  have base_of:∀ {b:Addr} {o:Obj},s₁.heap.get? b = some o → H b = none → (hidT s₁.heap H).get? b = some o:=fun e n=>hidT_get e n
  have noA:∀ {b:Addr} {o:Obj} {es:Array DictEntry} {ep:Nat},s₁.heap.get? b = some o → o.data = .dict es ep → H b = none:=fun {b o es ep} e d=>by
   cases q:H b with
   | none=>rfl
   | some u =>
    have e':b = a:=hA b (by rw [q]; simp)
    subst e'
    rw [ha] at e; cases e
    have d':Data.seq vs.toArray _ = Data.dict es ep:=d
    cases d'
  have nsK:∀ {b:Addr} {m:Str → Option Value},s₁.heap.Ns b m → (hidT s₁.heap H).Ns b m:=fun {b m} ⟨o,es,ep,e,d,r⟩=>⟨o,es,ep,base_of e (noA e d),d,r⟩
  have hKb:K.In (hidT s₁.heap H):=fun b o e=>base_of (KX b o e) (by
   cases q:H b with
   | none=>rfl
   | some u =>
    have e':b = a:=hA b (by rw [q]; simp)
    subst e'
    rw [hK (by rw [q]; simp)] at e; cases e)
  have hM:Mod K mg (hidT s₁.heap H):=⟨hKb,nsK hns,⟨mb,nsK hb,hbb⟩,let ⟨mc,h1,h2⟩:=hlim; ⟨mc,nsK h1,h2⟩⟩
  have e0:Env0 P w K mg (hidT s₁.heap H) callerA [] s₁ H:=⟨rfl,hM,fun b o e=>of_hidT e,Nat.le_of_eq (hidT_size _ _),trivial,fun b hb=>absurd (show b ∈ ([]:List Addr) from hb) (by simp),hok,.of_eq hg⟩
  refine codeAny_mono ((F _ hKb (nsK hns)).run callerA [] s₁ H ⟨[.ref a],[]⟩ [.ref a] [.ref a] _ _ hr e0 (hbind s₁ (.ref a)) (.cons rfl .nil) (hsp H hO hS)) fun r s' h=>?_
  cases r with
  | error e=>exact (hCX H e s' h).elim
  | ok fl =>
   cases fl with
   | next=>exact False.elim h
   | brk=>exact False.elim h
   | cont=>exact False.elim h
   | ret u =>
    obtain ⟨v,H',os,bare,un,hok',r',q⟩:=h
    have q':v = .bl true:=q
    subst q'
    obtain rfl:u = Value.bool true:=r'
    refine ⟨rfl,OldK.of_keep fun b o e=>?_,os,bare⟩
    cases q:H b with
    | none=>exact un.keep b o e q (by intro z; exact absurd (show b ∈ ([]:List Addr) from z) (by simp)) (by simp)
    | some u =>
     rcases hO b with z | ⟨ob,xs,z⟩
     ·rw [q] at z; cases z
     ·have z2:=un.frzs b ob _ z
      obtain ⟨e1,_⟩:=hok b _ z
      obtain ⟨e2,_⟩:=hok' b _ z2
      rw [e] at e1; cases e1
      exact e2
 cases hk:K.lookup a with
 | some o =>
  have e:=KX a o hk
  rw [ha] at e
  cases e
  refine core (fun _=>none) (fun _=>.inl rfl) (.inr ⟨_,vs.toArray,_,hk,rfl,rfl,rfl,by rw [List.size_toArray,lenV]; exact hl,by simpa using rv⟩) (fun b u z=>by have z':(none:Option HO) = some u:=z; cases z') (fun b z=>absurd rfl z) fun z=>absurd rfl z
 | none =>
  refine core (fun b=>if b = a then some (.frz { cls:=.type "list",data:=.seq vs.toArray } (.lst (ns.map V.int))) else none) (fun b=>?_) (.inl (.inr ⟨{ cls:=.type "list",data:=.seq vs.toArray },if_pos rfl⟩)) (fun b u z=>?_) (fun b z=>?_) fun _=>hk
  ·by_cases hb:b = a
   ·exact .inr ⟨_,_,if_pos hb⟩
   ·exact .inl (if_neg hb)
  ·by_cases hb:b = a
   ·have z':=(if_pos hb).symm.trans z
    cases z'
    subst hb
    exact ⟨ha,by rw [List.length_map]; exact hl,vs,_,rv,ha⟩
   ·have z':=(if_neg hb).symm.trans z
    cases z'
  ·by_cases hb:b = a
   ·exact hb
   ·exact absurd (if_neg hb) z
end L2
namespace L2
open PySem PySem.Spec PyProof.Rows
theorem walk_of {l:PySem.W.OpenLaw} {n k:Nat} {q:Program} {loose:List Str} {XP:(Str → Option Value) → Heap → Prop} {YP:World → Heap → Prop} {d:DefRec} {K:Params → PySem.W.Frag} {CX:World → CXT} {sp:World → Sp} {x:Str}
  (hn:l.most = some n) (hn2:n ≤ sizeLine) (hdf:d.params.defaults = []) (hr:Room k callerA)
  (hY:∀ (w:World) (h:Heap),YP w h → (K w.params).In h)
  (F:∀ (w:World) (mg:Str → Option Value) (fa:Addr) (h:Heap),(K w.params).In h → h.Ns mainGlobals mg → mg d.name = some (.ref fa) →
   ∃ fd:FuncData,(∀ (s:Shared) (u:Value),BindsTo s fd ⟨[u],[]⟩ [(x,u)]) ∧
    ∀ base:Heap,(K w.params).In base → base.Ns mainGlobals mg → FnOk l.prog w (K w.params) mg base (CX w) k fa fd [x] (sp w))
  (hsp:∀ (w:World) (H:Hp) (a:Addr) (ns:List Int),ns.length ≤ n → Only H → SqL (K w.params) H a (ns.map V.int) → sp w [.ref a] H (fun v _=>v = .bl true) fun _ _ _=>False)
  (hCX:∀ (w:World) (H:Hp) (s:Shared) (e:Value) (s':Shared),CX w [] H s (fun _ _ _=>False) e s' → False) :
  PySem.W.WalkO q loose XP YP l.row.toRowW d [] (fun f vs=>PySem.call f vs):=by
 refine Att.attach_call hn hdf fun w s₀ s₁ mg mb fa o pm cd doc a vs ns G Y ho hd hcd hmg hobj hints hlen hg=>?_
 have KX:=hY w _ Y
 obtain ⟨fd,hb,hF⟩:=F w mg fa _ KX G.T.g hmg
 exact law_call KX G.T.g G.T.b G.T.builtins G.T.nolimit hg hobj hints (Nat.le_trans hlen hn2) hr hF hb (fun H hO hS=>hsp w H a ns hlen hO hS) fun H e s'=>hCX w H s₁ e s'
end L2
namespace L2
open PySem PySem.Spec PyProof.Rows
def defArgs (s:Stmt):Arguments:=match s with
 | .FunctionDef _ a _ _ _ _ _ _ _ _=>a
 | _=>{ posonlyargs:=[],args:=[],vararg:=none,kwonlyargs:=[],kw_defaults:=[],kwarg:=none,defaults:=[] }
def defBody (s:Stmt):List Stmt:=match s with
 | .FunctionDef _ _ b _ _ _ _ _ _ _=>b
 | _=>[]
def defScope (s:Stmt):Scope:=match s with
 | .FunctionDef _ _ _ _ _ _ sc _ _ _=>sc
 | _=>{ kind:=.function,names:=[],isGenerator:=false,isCoroutine:=false }
abbrev CX0:CXT:=fun _ _ _ _ _ _=>False
abbrev E0:XK:=fun _ _ _=>False
theorem pass0 {X:Cx}:Passes CX0 X E0:=fun _ _ _ _ _ _ _ h=>h.elim
structure Fun (K:PySem.W.Frag) (x qual:Str) (st:Stmt) (f:Addr) (fd:FuncData):Prop where
 ex:∃ (oc:Value) (od:Option Addr) (kV doc pm:Value) (an:Option Addr) (cdv ct:Value) (osl:Array (Option Value)),
  fd = PySem.W.fnOf x qual (defArgs st) (defBody st) (defScope st) .none kV doc pm an cdv ct ∧ K.lookup f = some ⟨oc,od,.func fd,osl⟩ ∧ PySem.W.codeIn K cdv qual = true
 kp:PySem.W.keepIn K (.ref f) = true
section
variable {P:Program} {w:World} {K:PySem.W.Frag} {mg:Str → Option Value} {base:Heap}
theorem Fun.ok {x qual:Str} {st:Stmt} {f:Addr} {fd:FuncData} {N ps:List Str} {k:Nat} {sp:Sp} (F:Fun K x qual st f fd) (S:FnScope N ps (defScope st)) (len:∀ vs H Q E,sp vs H Q E → vs.length = ps.length)
  (hbody:∀ (cdv:Value) (A:Around) (outer:List Env) (s:Shared) (H:Hp) (vs:List V) (Q:VK) (E:XK),Room k (A.deeper (envOfC qual (defScope st) s.heap.objs.size f cdv)) → sp vs H Q E →
   ∃ t,PSs (cxOf CX0 P w K mg base N qual (defScope st) f cdv A outer s H E).nox (defBody st) t ∧ t { nx:=fun _ H'=>Q .non H',rt:=Q } (start N vs) H):FnOk P w K mg base CX0 (k + 1) f fd ps sp:=by
 obtain ⟨oc,od,kV,doc,pm,an,cdv,ct,osl,rfl,lk,hcd⟩:=F.ex
 refine fn_of lk hcd S len fun A outer s H vs Q E hr hsp=>?_
 obtain ⟨t,h,q⟩:=hbody cdv A outer s H vs Q E hr hsp
 exact ⟨t,h.nox,q⟩
theorem fun_mk {x qual:Str} {st:Stmt} {f:Addr} {oc:Value} {od an:Option Addr} {osl:Array (Option Value)} {kV doc pm cdv ct:Value} (l:K.lookup f = some ⟨oc,od,.func (PySem.W.fnOf x qual (defArgs st) (defBody st) (defScope st) .none kV doc pm an cdv ct),osl⟩)
  (c:PySem.W.codeIn K cdv qual = true) (k:PySem.W.keepIn K (.ref f) = true):Fun K x qual st f (PySem.W.fnOf x qual (defArgs st) (defBody st) (defScope st) .none kV doc pm an cdv ct):=⟨⟨oc,od,kV,doc,pm,an,cdv,ct,osl,rfl,l,c⟩,k⟩
end
theorem hu_of {A:Around} {k:Nat} (hr:Room k A):A.units + 1 < cLine:=Nat.lt_of_le_of_lt (Nat.add_le_add_left (by decide:1 ≤ 64) _) hr.units
theorem small1000 {n:Nat} (h:n ≤ 1000):n < sizeLine:=Nat.lt_of_le_of_lt h (by decide)
section
variable {X:Cx}
theorem call_lenD:CallR X (.builtin "len") (fun xs H Q=>∃ a kvs,xs = [V.ref a] ∧ H a = some (.dK kvs) ∧ Q (.int kvs.length) H):=by
 intro pins s σ H xs us Q I r h
 obtain ⟨a,kvs,rfl,ha,q⟩:=h
 obtain ⟨u,rfl,ru⟩:=vals1 r
 cases ru
 exact d_len I (.inl ha) fun t s' I'=>⟨.int kvs.length,H,I',⟨t,rfl⟩,q⟩
end
theorem iteF {A B:Prop} (h:B):if false = true then A else B:=by
 rw [if_neg Bool.false_ne_true]
 exact h
theorem iteT {A B:Prop} (h:A):if true = true then A else B:=by
 rw [if_pos rfl]
 exact h
theorem ite2 {c A B:Prop} [Decidable c] (h1:c → A) (h2:¬ c → B):if c then A else B:=by
 by_cases h:c
 ·rw [if_pos h]
  exact h1 h
 ·rw [if_neg h]
  exact h2 h
theorem iteNS {c A B:Prop} [Decidable c] (hc:c) (h:B):if (!decide c) = true then A else B:=by
 rw [decide_eq_true hc]
 exact iteF h
def Same (H H':Hp):Prop:=∀ b o,H b = some o → H' b = some o
theorem Same.refl (H:Hp):Same H H:=fun _ _ h=>h
theorem Same.trans {H H1 H2:Hp} (a:Same H H1) (b:Same H1 H2):Same H H2:=fun c o h=>b c o (a c o h)
theorem Same.free {H H':Hp} (e:Same H H') {l:Addr} (h:H' l = Option.none):H l = Option.none:=by
 cases q:H l with
 | none=>rfl
 | some o =>
  rw [e l o q] at h
  cases h
section
variable {κ:Type} [DecidableEq κ]
end
end L2
namespace L2
open PySem PySem.Spec PyProof.Rows
theorem forIn_yields {α β:Type} {f:α → β → Sem (ForInStep β)} {g:β → α → β}:∀ (l:List α) (c:β),(∀ x ∈ l,∀ c,f x c = pure (.yield (g c x))) → forIn l c f = pure (l.foldl g c)
 | [],c,_=>rfl
 | x :: l,c,h=>by
  rw [List.forIn_cons,h x List.mem_cons_self,pure_bind,List.foldl_cons]
  exact forIn_yields l (g c x) fun y hy=>h y (List.mem_cons_of_mem _ hy)
def cloS (env:Env) (cs:List (Str × Addr)) (x:Str × NameKind):List (Str × Addr) :=
 if x.2 == NameKind.free then (match env.cells.lookup x.1 with | some c=>(x.1,c) :: cs | none=>cs) else cs
def clo (env:Env) (names:List (Str × NameKind)):List (Str × Addr):=names.foldl (cloS env) []
theorem closureFor_clo {scope:Scope} {env:Env} (h:∀ x ∈ scope.names,x.2 = .free → ∃ c,env.cells.lookup x.1 = some c):closureFor scope env = pure (clo env scope.names):=by
 simp only [closureFor]
 rw [forIn_yields (g:=cloS env) scope.names [] (fun x hx c=>?_)]
 ·rfl
 ·obtain ⟨n,k⟩:=x
  by_cases e:k = .free
  ·subst e
   obtain ⟨a,ha⟩:=h _ hx rfl
   have ha':env.cells.lookup n = some a:=ha
   simp [cellOf,ha',cloS]
  ·have e':(k == NameKind.free) = false:=by simpa using e
   simp [cloS,e']
theorem clo_mem {env:Env}:∀ (names:List (Str × NameKind)) (cs:List (Str × Addr)),(∀ p ∈ cs,env.cells.lookup p.1 = some p.2) → ∀ p ∈ names.foldl (cloS env) cs,env.cells.lookup p.1 = some p.2
 | [],cs,h,p,hp=>h p hp
 | x :: r,cs,h,p,hp=>by
  refine clo_mem r (cloS env cs x) (fun q hq=>?_) p hp
  unfold cloS at hq
  split at hq
  ·split at hq
   ·rename_i c e
    rcases List.mem_cons.mp hq with z | z
    ·subst z; exact e
    ·exact h q z
   ·exact h q hq
  ·exact h q hq
theorem clo_look {env:Env} {names:List (Str × NameKind)} {x:Str} {c:Addr} (h:(clo env names).lookup x = some c):env.cells.lookup x = some c :=
 clo_mem names [] (fun _ z=>nomatch z) (x,c) (PySem.mem_of_lookup h)
theorem look_keep {env:Env} {x:Str}:∀ (names:List (Str × NameKind)) (cs:List (Str × Addr)),(∃ c,cs.lookup x = some c) → ∃ c,(names.foldl (cloS env) cs).lookup x = some c
 | [],_,h=>h
 | y :: r,cs,h=>by
  refine look_keep r _ ?_
  unfold cloS
  split
  ·split
   ·obtain ⟨c,hc⟩:=h
    rw [List.lookup_cons]
    split
    ·exact ⟨_,rfl⟩
    ·exact ⟨c,hc⟩
   ·exact h
  ·exact h
theorem clo_has {env:Env} {x:Str} {c:Addr} (hc:env.cells.lookup x = some c):∀ (names:List (Str × NameKind)) (cs:List (Str × Addr)),(x,NameKind.free) ∈ names → ∃ c,(names.foldl (cloS env) cs).lookup x = some c
 | [],_,h=>nomatch h
 | y :: r,cs,h=>by
  rcases List.mem_cons.mp h with e | e
  ·subst e
   refine look_keep r _ ?_
   unfold cloS
   simp only [beq_self_eq_true,if_true]
   rw [hc]
   exact ⟨c,by simp [List.lookup_cons]⟩
  ·exact clo_has hc r _ e
structure CScope (scope:Scope):Prop where
 kind:scope.kind = .function
 nocell:∀ x ∈ scope.names,x.2 ≠ .cell
 names:∀ x ∈ scope.names,x.2 = .local → scope.names.lookup x.1 = some .local
def cxComp (X:Cx) (scope:Scope) (C:Addr) (N:List Str) (s₀:Shared) (H₀:Hp) (fp:List Addr):Cx :=
 { X with N:=N,s₀:=s₀,H₀:=H₀,env:=compEnvC scope (clo X.env scope.names) C X.env,outer:=X.stack,stack:=X.stack,ex:=fp,fn:=fun _=>false,pn:=[],xe:=fun _ _=>False }
section
variable {X:Cx} {scope:Scope} {pins:List (Addr × Obj)} {σ:St} {H:Hp} {s:Shared} {fp:List Addr}
theorem lookup_relabel {env:Env}:∀ {names:List (Str × NameKind)} {x:Str},(∀ y ∈ names,y.2 ≠ .cell) →
  ((names.map fun (n,k)=>if (k == NameKind.free && env.scope.kind == .function && env.kindOf n == some .cell) then (n,NameKind.cell) else (n,k)).lookup x = some .cell ∨ (names.map fun (n,k)=>if (k == NameKind.free && env.scope.kind == .function && env.kindOf n == some .cell) then (n,NameKind.cell) else (n,k)).lookup x = some .free) → (x,NameKind.free) ∈ names
 | [],_,_,h=>by rcases h with h | h <;> simp at h
 | (n,k) :: r,x,hn,h=>by
  have ih:=@lookup_relabel env r x (fun y hy=>hn y (List.mem_cons_of_mem _ hy))
  have hk:k ≠ .cell:=hn (n,k) List.mem_cons_self
  rw [List.map_cons] at h
  by_cases hx:x = n
  ·subst hx
   have hf:k = .free:=by
    by_cases hc:(k == NameKind.free && env.scope.kind == .function && env.kindOf x == some .cell) = true
    ·simp only [Bool.and_eq_true,beq_iff_eq] at hc
     exact hc.1.1
    ·dsimp only at h
     rw [if_neg hc] at h
     rcases h with h | h
     ·simp at h; exact absurd h hk
     ·simpa using h
   subst hf
   exact List.mem_cons_self
  ·have hx':(x == n) = false:=by simpa using hx
   refine List.mem_cons_of_mem _ (ih ?_)
   dsimp only at h ⊢
   by_cases hc:(k == NameKind.free && env.scope.kind == .function && env.kindOf n == some .cell) = true
   ·rw [if_pos hc] at h
    simpa only [List.lookup_cons,hx'] using h
   ·rw [if_neg hc] at h
    simpa only [List.lookup_cons,hx'] using h
theorem cxComp_ok {N:List Str} (I:Inv X pins σ H s) (S:CScope scope) (hf:∀ b ∈ fp,FpOk X pins H b) (hlt:∀ b ∈ fp,b < s.heap.objs.size)
  (hfree:∀ x,(x,NameKind.free) ∈ scope.names → ∃ c,X.env.cells.lookup x = some c):(cxComp X scope s.heap.objs.size N s H fp).Ok where
 mod:=I.ok.mod
 kind:=S.kind
 glob:=I.ok.glob
 blt:=I.ok.blt
 above:=Nat.le_refl _
 inj:=fun x y c h1 h2=>I.ok.inj x y c (clo_look h1) (clo_look h2)
 has:=fun x hx=>by
  have hm:(x,NameKind.free) ∈ scope.names:=lookup_relabel S.nocell hx
  obtain ⟨c,hc⟩:=hfree x hm
  exact clo_has hc scope.names [] hm
 cab:=fun x c h=>absurd (show false = true from h) Bool.false_ne_true
 hd:=I.ok.hd
 frames:=I.ok.frames
 stk:=.inl rfl
 exf:=fun b hb=>⟨Nat.ne_of_lt (hlt b hb),fun x c h=>(hf b hb).2.2.2.2.1 x c (clo_look h)⟩
 bs:=fun b o e=>I.bs b o e
 bsz:=Nat.le_trans I.ok.bsz I.sz
 noex:=fun b o e hb=>by
  rcases (hf b hb).2.2.2.1 with z | z
  ·exact I.ok.noex b o e z
  ·exact absurd (Nat.lt_of_lt_of_le (Heap.lt_size e) I.ok.bsz) (Nat.not_lt.mpr z)
 exfs:=fun b hb z=>by
  rcases List.mem_cons.mp (I.stkSub b z) with e | e
  ·exact (hf b hb).2.1 e
  ·exact (hf b hb).2.2.1 e
 funs:=I.stack
 frf:=I.stkFree
structure Caps (X:Cx) (scope:Scope) (fr:List Nat):Prop where
 cap:∀ j ∈ fr,∃ x,X.N[j]? = some x ∧ (X.env.scope.names.lookup x = some .cell ∨ X.env.scope.names.lookup x = some .free) ∧ scope.names.lookup x = some .free
 free:∀ x,(x,NameKind.free) ∈ scope.names → X.env.scope.names.lookup x = some .cell ∨ X.env.scope.names.lookup x = some .free
def nmC (X:Cx) (tgs:List Str) (fr:List Nat):List Str:=tgs ++ fr.map fun j=>X.N.getD j ""
def stC (k:Nat) (fr:List Nat) (σ:St):St:=List.replicate k none ++ fr.map fun j=>(σ[j]?).getD none
theorem relabel_free {env:Env}:∀ {names:List (Str × NameKind)} {x:Str},names.lookup x = some .free →
  ((names.map fun (n,k)=>if (k == NameKind.free && env.scope.kind == .function && env.kindOf n == some .cell) then (n,NameKind.cell) else (n,k)).lookup x = some .cell ∨ (names.map fun (n,k)=>if (k == NameKind.free && env.scope.kind == .function && env.kindOf n == some .cell) then (n,NameKind.cell) else (n,k)).lookup x = some .free)
 | [],_,h=>by simp at h
 | (n,k) :: r,x,h=>by
  have ih:=@relabel_free env r x
  rw [List.map_cons]
  dsimp only
  cases hx:x == n with
  | true =>
   rw [List.lookup_cons,hx] at h
   obtain rfl:k = .free:=by simpa using h
   by_cases hc:(NameKind.free == NameKind.free && env.scope.kind == .function && env.kindOf n == some .cell) = true
   ·rw [if_pos hc]; left; simp [List.lookup_cons,hx]
   ·rw [if_neg hc]; right; simp [List.lookup_cons,hx]
  | false =>
   rw [List.lookup_cons,hx] at h
   by_cases hc:(k == NameKind.free && env.scope.kind == .function && env.kindOf n == some .cell) = true
   ·rw [if_pos hc]; simpa only [List.lookup_cons,hx] using ih h
   ·rw [if_neg hc]; simpa only [List.lookup_cons,hx] using ih h
theorem comp_inv {tgs:List Str} {fr:List Nat} {h₁:Heap} {tk:Nat} (I:Inv X pins σ H s) (S:CScope scope) (P:Caps X scope fr) (hf:∀ b ∈ fp,FpOk X pins H b) (hlt:∀ b ∈ fp,b < s.heap.objs.size)
  {m:Str → Option Value} (hns:h₁.Ns s.heap.objs.size m) (hk:∀ b o,s.heap.get? b = some o → h₁.get? b = some o) :
  Inv (cxComp X scope s.heap.objs.size (nmC X tgs fr) s H fp) [] (stC tgs.length fr σ) H { s with heap:=h₁,toks:=tk }:=by
 have hfree:∀ x,(x,NameKind.free) ∈ scope.names → ∃ c,X.env.cells.lookup x = some c:=fun x hx=>I.ok.has x (P.free x hx)
 refine ⟨cxComp_ok I S hf hlt hfree,rfl,I.bare,Un.kept hk,⟨m,hns,fun i x v h1 h2 h3=>?_⟩,fun x c h=>?_,I.hok.fresh (Nat.le_refl _),fun x c h=>I.freeC x c (clo_look h),fun p hp=>absurd (show p ∈ ([]:List (Addr × Obj)) from hp) (by simp),I.hok.kept hk,?_⟩
 ·have hi:tgs.length ≤ i:=by
   by_cases hi:i < tgs.length
   ·unfold stC at h2
    rw [List.getElem?_append_left (by simpa using hi),List.getElem?_replicate] at h2
    split at h2 <;> cases h2
   ·omega
  have h1':(fr.map fun j=>X.N.getD j "")[i - tgs.length]? = some x:=by
   have h1:(nmC X tgs fr)[i]? = some x:=h1
   unfold nmC at h1
   rw [List.getElem?_append_right hi] at h1
   exact h1
  have h2':(fr.map fun j=>(σ[j]?).getD none)[i - tgs.length]? = some (some v):=by
   unfold stC at h2
   rw [List.getElem?_append_right (by simpa using hi),List.length_replicate] at h2
   exact h2
  rw [List.getElem?_map] at h1' h2'
  cases ej:fr[i - tgs.length]? with
  | none=>rw [ej] at h1'; cases h1'
  | some j =>
   rw [ej] at h1' h2'
   have e1:X.N.getD j "" = x:=Option.some.inj h1'
   have e2:(σ[j]?).getD none = some v:=Option.some.inj h2'
   obtain ⟨y,hy,hkx,hks⟩:=P.cap j (List.mem_of_getElem? ej)
   have exy:x = y:=by
    rw [← e1,List.getD_eq_getElem?_getD,hy]; rfl
   subst exy
   have e3:σ[j]? = some (some v):=by
    cases q:σ[j]? with
    | none=>rw [q] at e2; cases e2
    | some o=>rw [q] at e2; exact congrArg some e2
   obtain ⟨m0,hn0,hl⟩:=I.loc
   obtain ⟨u,r,l⟩:=hl j x v hy e3 (.inr hkx)
   refine ⟨u,r,.inr ⟨relabel_free hks,?_⟩⟩
   obtain ⟨c,hc⟩:=I.ok.has x hkx
   obtain ⟨c',hc'⟩:=clo_has hc scope.names [] (PySem.mem_of_lookup hks)
   have hcc:X.env.cells.lookup x = some c':=clo_look hc'
   refine ⟨c',hc',?_⟩
   rcases l with ⟨lk,_⟩ | ⟨_,c2,hc2,z⟩
   ·have lk:X.env.scope.names.lookup x = some .local:=lk
    rcases hkx with q | q <;> (rw [q] at lk; cases lk)
   ·rw [hc2] at hcc; cases hcc
    obtain ⟨o,ho,hd⟩:=z
    exact ⟨o,hk _ o ho,hd⟩
 ·obtain ⟨v,o,ho,hd⟩:=I.cell x c (clo_look h)
  exact ⟨v,o,hk _ o ho,hd⟩
 ·show (stC tgs.length fr σ).length = (nmC X tgs fr).length
  unfold stC nmC
  simp
theorem comp_out {N:List Str} {C:Addr} {σ':St} {H':Hp} {s':Shared} {h':Heap} (I:Inv X pins σ H s) (hC:C = s.heap.objs.size) (hf:∀ b ∈ fp,FpOk X pins H b) (J:Inv (cxComp X scope C N s H fp) [] σ' H' s')
  (hs:Heap.SameBut C s'.heap h'):Inv X pins σ H' { s' with heap:=h' }:=by
 have nC:H' C = none:=J.free
 have neC:∀ b o,s.heap.get? b = some o → b ≠ C:=fun b o e=>by rw [hC]; exact Nat.ne_of_lt (Heap.lt_size e)
 have hok:HOk X.prog X.w H' h':=fun b ob e=>by
  refine (J.hok b ob e).stay (fun c w' hc q=>(hs.2 c ?_).trans q) (fun _ q=>q) fun _ _ q=>q
  rintro rfl
  rcases hc with rfl | hc
  ·rw [nC] at e; cases e
  ·rw [nC] at hc; cases hc
 have u:Un (frs X.stack) fp H H' s.heap s'.heap:=J.base
 refine I.call' (s':={ s' with heap:=h' }) (ch:=fp) J.os ⟨fun b o e n hb hx=>?_,fun b o e n hb hx=>?_,u.free,fun b o e hx=>?_,u.tups,u.frzs,u.tbls⟩ hok J.bare fun b hb=>?_
 ·exact (hs.2 b (neC b o e)).trans (u.keep b o e n hb hx)
 ·obtain ⟨sl,q⟩:=u.slot b o e n hb hx
  exact ⟨sl,(hs.2 b (neC b o e)).trans q⟩
 ·obtain ⟨o',q⟩:=u.there b o e hx
  exact ⟨o',(hs.2 b (neC b o e)).trans q⟩
 ·obtain ⟨_,f1,f2,f3,f4,f5⟩:=hf b hb
  exact ⟨f3,f1,f4,f5⟩
end
section
variable {prog:Program} {w:World} {A:Around} {R:Result → Shared → Prop} {s:Shared}
def wpIfs (M:Model) (A:Around) (env:Env):List Expr → (Bool → Shared → Prop) → Shared → Prop
 | [],Q,s=>Q true s
 | c :: _,Q,s=>wpAny M A (isTrue c env (eval c env)) Q (fun _ _=>False) s
theorem wpIfs_nil {M:Model} {A:Around} {env:Env} {Q:Bool → Shared → Prop} {s:Shared}:wpIfs M A env [] Q s = Q true s:=rfl
theorem compLoop_gen {elt target iter:Expr} {ifs:List Expr} {scope:Scope} {pos:Pos} {it acc:Value} {env:Env} (hi:ifs = [] ∨ ∃ c,ifs = [c]) (I:Nat → Shared → Prop)
  (turn:∀ n s,I n s → wpAny (model prog w) A (pyNext it) (fun r s₁=>match r with
   | none=>R (.ok .next) s₁
   | some v=>wpAny (model prog w) A (letOwnedTupleGo target it v) (fun _ s₁'=>wpAny (model prog w) A (assign target env v) (fun _ s₂=>wpIfs (model prog w) A env ifs (fun ok s₃ =>
     if ok = true then wpAny (model prog w) A (eval elt env) (fun x s₄=>wpAny (model prog w) A (call (.builtin "list.append") [acc,x]) (fun _ s₅=>∃ m,m < n ∧ I m s₅) (fun _ _=>False) s₄) (fun _ _=>False) s₃
     else ∃ m,m < n ∧ I m s₃) s₂) (fun _ _=>False) s₁') (fun _ _=>False) s₁) (fun _ _=>False) s)
  (n:Nat) (h:I n s):codeAny (model prog w) A (.compLoop (.ListComp elt [⟨target,iter,ifs,0⟩] scope pos) 0 it acc env) R s:=by
 refine codeAny_loop rfl I (fun n s hI=>?_) n h
 show wpAny _ _ ((compTurn (.ListComp elt [⟨target,iter,ifs,0⟩] scope pos) 0 it acc env).onRaise (fun x=>do noteFrame x env; theTreesLotGoes x)) _ _ s
 refine wpAny_noted ?_
 have F:∀ {α:Type} {m:Sem α} {Q:α → Shared → Prop} {E:Value → Shared → Prop} {s:Shared},wpAny (model prog w) A m Q (fun _ _=>False) s → wpAny (model prog w) A m Q E s:=fun h=>wpAny_mono h (fun _ _ q=>q) fun _ _ z=>z.elim
 rcases hi with rfl | ⟨c,rfl⟩
 ·have e:compTurn (.ListComp elt [⟨target,iter,[],0⟩] scope pos) 0 it acc env = (standAt iter.pos >>= fun _=>pyNext it >>= fun r=>match r with
   | none=>pure (.done .next)
   | some v=>letOwnedTupleGo target it v >>= fun _=>assign target env v >>= fun _ =>
    (eval elt env >>= fun x=>call (.builtin "list.append") [acc,x] >>= fun _=>pure ()) >>= fun _ =>
     again (.compLoop (.ListComp elt [⟨target,iter,[],0⟩] scope pos) 0 it acc env)):=by rfl
  rw [e]
  refine wpAny_bind (wpAny_standAt (wpAny_bind (F (thn (turn n s hI) fun r s₁ h₁=>?_))))
  cases r with
  | none=>exact wpAny_pure h₁
  | some v =>
   refine wpAny_bind (F (thn h₁ fun _ s1 h1=>wpAny_bind (F (thn h1 fun _ s2 h2=>?_))))
   rw [wpIfs_nil,if_pos rfl] at h2
   exact wpAny_bind (wpAny_bind (F (thn h2 fun x s3 h3=>wpAny_bind (F (thn h3 fun _ s4 h4=>wpAny_pure (wpAny_pure ⟨rfl,h4⟩))))))
 ·have e:compTurn (.ListComp elt [⟨target,iter,[c],0⟩] scope pos) 0 it acc env = (standAt iter.pos >>= fun _=>pyNext it >>= fun r=>match r with
   | none=>pure (.done .next)
   | some v=>letOwnedTupleGo target it v >>= fun _=>assign target env v >>= fun _ =>
    (forIn [c] true fun c r=>if r = true then (do let ok ← isTrue c env (eval c env); pure (ForInStep.yield ok)) else pure (ForInStep.yield r)) >>= fun ok =>
     if ok = true then (eval elt env >>= fun x=>call (.builtin "list.append") [acc,x] >>= fun _=>pure ()) >>= fun _=>again (.compLoop (.ListComp elt [⟨target,iter,[c],0⟩] scope pos) 0 it acc env)
     else again (.compLoop (.ListComp elt [⟨target,iter,[c],0⟩] scope pos) 0 it acc env)):=by rfl
  rw [e]
  refine wpAny_bind (wpAny_standAt (wpAny_bind (F (thn (turn n s hI) fun r s₁ h₁=>?_))))
  cases r with
  | none=>exact wpAny_pure h₁
  | some v =>
   refine wpAny_bind (F (thn h₁ fun _ s1 h1=>wpAny_bind (F (thn h1 fun _ s2 h2=>?_))))
   have h2:wpAny (model prog w) A (isTrue c env (eval c env)) _ (fun _ _=>False) s2:=h2
   refine wpAny_bind ?_
   rw [List.forIn_cons]
   refine wpAny_bind ?_
   rw [if_pos rfl]
   refine wpAny_bind (F (thn h2 fun ok s3 h3=>wpAny_pure ?_))
   show wpAny _ _ (forIn ([]:List Expr) ok _) _ _ s3
   rw [List.forIn_nil]
   refine wpAny_pure ?_
   cases ok with
   | true =>
    rw [if_pos rfl] at h3 ⊢
    exact wpAny_bind (wpAny_bind (F (thn h3 fun x s4 h4=>wpAny_bind (F (thn h4 fun _ s5 h5=>wpAny_pure (wpAny_pure ⟨rfl,h5⟩))))))
   | false =>
    rw [if_neg Bool.false_ne_true] at h3 ⊢
    exact wpAny_pure ⟨rfl,h3⟩
end
abbrev TTo:=Option TT
def tIfs:TTo → TT
 | none=>fun _ H Q=>Q true H
 | some t=>t
theorem tIfs_none {σ:St} {H:Hp} {Q:Bool → Hp → Prop}:tIfs none σ H Q = Q true H:=rfl
def Wk (σ σ2:St):Prop:=∀ (i:Nat) (v:V),σ[i]? = some (some v) → σ2[i]? = some (some v)
theorem Wk.refl (σ:St):Wk σ σ:=fun _ _ h=>h
theorem Wk.set {σ σ2:St} {i:Nat} {o:Option V} (w:Wk σ σ2) (hi:σ[i]? = some none):Wk σ (σ2.set i o):=fun j v h=>by
 by_cases e:i = j
 ·subst e; rw [hi] at h; cases h
 ·rw [List.getElem?_set_ne e]; exact w j v h
def tComp (wi:TI) (k:Nat) (fr:List Nat) (g:TG) (tt:TTo) (te:TE):TE:=fun σ H Q=>wi σ H fun J H1=>∀ D,H1 D = none → ∃ W:Nat → Nat → List V → Hp → Prop,(∃ m,W 0 m [] (upd H1 D (.lst []))) ∧
 ∀ i m ys H,W i m ys H → (J.stop i H ∧ Q (.ref D) H) ∨ (J.go i H ∧ ∀ x H',J.yld i H x H' → g x (stC k fr σ) H' fun σ2 H2=>Wk (stC k fr σ) σ2 ∧ tIfs tt σ2 H2 fun c H3 =>
  if c = true then te σ2 H3 fun v H4=>H4 D = some (.lst ys) ∧ ys.length < sizeLine ∧ ∃ m',m' < m ∧ W (i + 1) m' (ys ++ [v]) (upd H4 D (.lst (ys ++ [v]))) else ∃ m',m' < m ∧ W (i + 1) m' ys H3)
def PIfs (X:Cx):List Expr → TTo → Prop
 | [],none=>True
 | [c],some t=>PT X c t
 | _,_=>False
section
variable {X:Cx} {scope:Scope} {tg elt iter:Expr} {ifs:List Expr} {tgs:List Str} {fr:List Nat} {g:TG} {tt:TTo} {te:TE} {pos:Pos}
structure Block (X:Cx) (scope:Scope) (tgs:List Str) (fr:List Nat) (tg elt:Expr) (ifs:List Expr) (g:TG) (tt:TTo) (te:TE):Prop where
 sc:CScope scope
 caps:Caps X scope fr
 calm:X.calm = true
 tgt:∀ C s₀ H₀ fp,PG (cxComp X scope C (nmC X tgs fr) s₀ H₀ fp) tg g
 ift:∀ C s₀ H₀ fp,PIfs (cxComp X scope C (nmC X tgs fr) s₀ H₀ fp) ifs tt
 el:∀ C s₀ H₀ fp,PE (cxComp X scope C (nmC X tgs fr) s₀ H₀ fp) elt te
theorem Block.few {X:Cx} (B:Block X scope tgs fr tg elt ifs g tt te) (s:Shared):ifs = [] ∨ ∃ c,ifs = [c]:=by
 have h:=B.ift 0 s (fun _=>none) []
 match ifs,tt,h with
 | [],none,_=>exact .inl rfl
 | [c],some _,_=>exact .inr ⟨c,rfl⟩
theorem comp_run (B:Block X scope tgs fr tg elt ifs g tt te) {pins:List (Addr × Obj)} {σ:St} {H1:Hp} {s:Shared} {it:Addr} {fp:List Addr} {tn:Nat → Heap → Prop} {J:It} {Q:VK} {RR:Value → Addr → Result → Shared → Prop} {E:Value → Shared → Prop}
  (I:Inv X pins σ H1 s) (T:Turn X.prog X.w X.K tg J fp it tn) (t0:tn 0 s.heap) (hf:∀ b ∈ fp,FpOk X pins H1 b)
  (hw:∀ D,H1 D = none → ∃ W:Nat → Nat → List V → Hp → Prop,(∃ m,W 0 m [] (upd H1 D (.lst []))) ∧
   ∀ i m ys H,W i m ys H → (J.stop i H ∧ Q (.ref D) H) ∨ (J.go i H ∧ ∀ x H',J.yld i H x H' → g x (stC tgs.length fr σ) H' fun σ2 H2=>Wk (stC tgs.length fr σ) σ2 ∧ tIfs tt σ2 H2 fun c H3 =>
    if c = true then te σ2 H3 fun v H4=>H4 D = some (.lst ys) ∧ ys.length < sizeLine ∧ ∃ m',m' < m ∧ W (i + 1) m' (ys ++ [v]) (upd H4 D (.lst (ys ++ [v]))) else ∃ m',m' < m ∧ W (i + 1) m' ys H3))
  (hR:∀ D C H' s',Inv X pins σ H' s' → H' C = none → C ≠ X.env.locals → X.s₀.heap.objs.size ≤ C → (∀ x c,X.env.cells.lookup x = some c → c ≠ C) → (∀ p ∈ X.pn ++ pins,p.1 ≠ C) → (∃ m,s'.heap.Ns C m) → Q (.ref D) H' → RR (.ref D) C (.ok .next) s') :
  wpAny (model X.prog X.w) X.A (newList []) (fun acc s₃=>wpAny (model X.prog X.w) X.A (newFunctionEnv scope X.env.globals (clo X.env scope.names) [] X.env.qual none .none (some X.env)) (fun cenv s₄ =>
   codeAny (model X.prog X.w) X.A (.compStart (.ListComp elt [⟨tg,iter,ifs,0⟩] scope pos) 0 (.ref it) acc { cenv with scope:=relabel scope X.env }) (RR acc cenv.locals) s₄) E s₃) E s:=by
 have few:=B.few s
 refine wpAny_newObj_type ?_ (Nat.zero_le _)
 have nD:H1 s.heap.objs.size = none:=I.hok.fresh (Nat.le_refl _)
 have I3:Inv X pins σ (upd H1 s.heap.objs.size (.lst [])) { s with heap:=s.heap.push { cls:=.type "list",data:=.seq ([]:List Value).toArray } } :=
  I.laid (t':=s.toks) (fun _ _ q=>Heap.get?_push_of_some _ q) (Nat.le_refl _) ⟨Nat.zero_le _,[],0,.nil,Heap.get?_push_size _ rfl⟩
 obtain ⟨W,⟨m0,w0⟩,turn⟩:=hw _ nD
 have lt0:∀ b ∈ fp,b < s.heap.objs.size:=fun b hb=>let ⟨o,e,_⟩:=T.obj 0 _ t0 b hb; Heap.lt_size e
 have hf3:∀ b ∈ fp,FpOk X pins (upd H1 s.heap.objs.size (.lst [])) b:=fun b hb=>by
  obtain ⟨a0,a1⟩:=hf b hb
  exact ⟨by rw [upd_ne (Nat.ne_of_lt (lt0 b hb))]; exact a0,a1⟩
 refine wpAny_newFunctionEnv B.sc.nocell (fun y hy=>nomatch hy) (fun h₁ hns hsb=>?_) B.sc.kind
 generalize hs3:({ s with heap:=s.heap.push { cls:=.type "list",data:=.seq ([]:List Value).toArray } }:Shared) = s3 at I3 hns hsb ⊢
 have lt3:∀ b ∈ fp,b < s3.heap.objs.size:=fun b hb=>by
  rw [← hs3]; show b < (s.heap.push _).objs.size; rw [Heap.size_push]; exact Nat.lt_succ_of_lt (lt0 b hb)
 have k3:∀ b o,s3.heap.get? b = some o → h₁.get? b = some o:=fun b o e=>(hsb.2 b (Nat.ne_of_lt (Heap.lt_size e))).trans (Heap.get?_push_of_some _ e)
 have k0:∀ b o,s.heap.get? b = some o → s3.heap.get? b = some o:=fun b o e=>by rw [← hs3]; exact Heap.get?_push_of_some _ e
 have JI:=comp_inv (tgs:=tgs) (tk:=s3.toks + ([]:List (Str × Value)).length) I3 B.sc B.caps hf3 lt3 hns k3
 have t1:tn 0 h₁:=T.keep _ _ _ t0 fun b hb o e=>k3 b o (k0 b o e)
 have loop:codeAny (model X.prog X.w) X.A (.compLoop (.ListComp elt [⟨tg,iter,ifs,0⟩] scope pos) 0 (.ref it) (.ref s.heap.objs.size) (compEnvC scope (clo X.env scope.names) s3.heap.objs.size X.env))
   (RR (.ref s.heap.objs.size) s3.heap.objs.size) { s3 with heap:=h₁,toks:=s3.toks + ([]:List (Str × Value)).length }:=by
  refine compLoop_gen few (fun n s'=>∃ i ys σ' H',Inv (cxComp X scope s3.heap.objs.size (nmC X tgs fr) s3 (upd H1 s.heap.objs.size (.lst [])) fp) [] σ' H' s' ∧ Wk (stC tgs.length fr σ) σ' ∧ tn i s'.heap ∧ (∀ b ∈ fp,H' b = none) ∧ W i n ys H')
   ?_ m0 ⟨0,[],_,_,JI,Wk.refl _,t1,fun b hb=>(hf3 b hb).1,w0⟩
  rintro n s5 ⟨i,ys,σ5,H5,J5,wk5,t5,fr5,w5⟩
  have fpo:∀ {H':Hp},(∀ b ∈ fp,H' b = none) → ∀ b ∈ fp,FpOk (cxComp X scope s3.heap.objs.size (nmC X tgs fr) s3 (upd H1 s.heap.objs.size (.lst [])) fp) [] H' b:=fun {H'} hn b hb =>
   ⟨hn b hb,(J5.ok.exf b hb).1,J5.ok.exfs b hb,.inl hb,fun x c e=>(J5.ok.exf b hb).2 x c e,fun p hp=>absurd (show p ∈ ([]:List (Addr × Obj)) from hp) (by simp)⟩
  have J5':=J5.weak (σ':=stC tgs.length fr σ) (by rw [J5.len]; exact JI.len) wk5
  rcases turn i n ys H5 w5 with ⟨stop,q⟩ | ⟨go,step⟩
  ·refine thn (T.done (cxComp X scope s3.heap.objs.size (nmC X tgs fr) s3 (upd H1 s.heap.objs.size (.lst [])) fp) rfl rfl rfl B.calm i [] s5 _ H5 _ J5' (fpo fr5) t5 stop) fun r s6 ⟨hr,J6⟩=>?_
   subst hr
   have I6:Inv X pins σ H5 s6:=comp_out (h':=s6.heap) I3 rfl hf3 J6 (Heap.SameBut.refl ..)
   obtain ⟨m6,n6,_⟩:=J6.loc
   have szC:=J6.ok.above
   exact hR _ _ H5 s6 I6 J6.free (Nat.ne_of_gt I3.lt) I3.sz (fun x c e z=>by
    obtain ⟨v,o,ho,_⟩:=I3.cell x c e
    exact absurd (Heap.lt_size ho) (by rw [z]; exact Nat.lt_irrefl _)) (fun p hp z=>absurd (Heap.lt_size (I3.pin p hp).1) (by rw [z]; exact Nat.lt_irrefl _)) ⟨m6,n6⟩ q
  ·refine thn (T.item (cxComp X scope s3.heap.objs.size (nmC X tgs fr) s3 (upd H1 s.heap.objs.size (.lst [])) fp) rfl rfl rfl B.calm i [] s5 _ H5 _ J5' (fpo fr5) t5 go) fun r s6 ⟨u,hr,h6⟩=>?_
   subst hr
   refine thn h6 fun _ s7 ⟨x,H7,J7,r7,y7,t7,fr7⟩=>?_
   have J7':=J7.pinned (fpo fr7) (T.obj _ _ t7)
   refine thn (B.tgt _ _ _ _ _ s7 _ H7 x u _ J7' r7 (step x H7 y7)) fun _ s8 ⟨σ8,H8,J8,wk8,q8⟩=>?_
   have again:∀ {s9:Shared} {H9:Hp} {zs:List V},Inv (cxComp X scope s3.heap.objs.size (nmC X tgs fr) s3 (upd H1 s.heap.objs.size (.lst [])) fp) ([] ++ pinsAt fp s7.heap) σ8 H9 s9 → (∃ m',m' < n ∧ W (i + 1) m' zs H9) →
     ∃ m,m < n ∧ ∃ i ys σ' H',Inv (cxComp X scope s3.heap.objs.size (nmC X tgs fr) s3 (upd H1 s.heap.objs.size (.lst [])) fp) [] σ' H' s9 ∧ Wk (stC tgs.length fr σ) σ' ∧ tn i s9.heap ∧ (∀ b ∈ fp,H' b = none) ∧ W i m ys H':=fun {s9 H9 zs} J9 ⟨m',hm,w9⟩=>by
    refine ⟨m',hm,i + 1,zs,σ8,H9,J9.unpinned,wk8,T.keep _ _ _ t7 fun b hb o e=>(J9.pin (b,o) (List.mem_append_right _ (List.mem_append_right _ (mem_pinsAt hb e)))).1,fun b hb=>?_,w9⟩
    obtain ⟨o,e,_⟩:=T.obj _ _ t7 b hb
    exact (J9.pin (b,o) (List.mem_append_right _ (List.mem_append_right _ (mem_pinsAt hb e)))).2.1
   have fin:∀ {s9:Shared} {H9:Hp},Inv (cxComp X scope s3.heap.objs.size (nmC X tgs fr) s3 (upd H1 s.heap.objs.size (.lst [])) fp) ([] ++ pinsAt fp s7.heap) σ8 H9 s9 →
     te σ8 H9 (fun v H4=>H4 s.heap.objs.size = some (.lst ys) ∧ ys.length < sizeLine ∧ ∃ m',m' < n ∧ W (i + 1) m' (ys ++ [v]) (upd H4 s.heap.objs.size (.lst (ys ++ [v])))) →
     wpAny (model X.prog X.w) X.A (eval elt (compEnvC scope (clo X.env scope.names) s3.heap.objs.size X.env)) (fun x s₄=>wpAny (model X.prog X.w) X.A (call (.builtin "list.append") [.ref s.heap.objs.size,x]) (fun _ s₅=>∃ m,m < n ∧ ∃ i ys σ' H',Inv (cxComp X scope s3.heap.objs.size (nmC X tgs fr) s3 (upd H1 s.heap.objs.size (.lst [])) fp) [] σ' H' s₅ ∧ Wk (stC tgs.length fr σ) σ' ∧ tn i s₅.heap ∧ (∀ b ∈ fp,H' b = none) ∧ W i m ys H') (fun _ _=>False) s₄) (fun _ _=>False) s9:=fun {s9 H9} J9 q9=>by
    refine thn (B.el _ _ _ _ _ s9 σ8 H9 _ J9 q9) fun v sA ⟨y,HA,JA,rA,eD,ez,qA⟩=>?_
    exact thn (mt_append (X:=cxComp X scope s3.heap.objs.size (nmC X tgs fr) s3 (upd H1 s.heap.objs.size (.lst [])) fp) _ sA σ8 HA (.ref s.heap.objs.size) [y] (.ref s.heap.objs.size) [v] (fun _ H'=>H' = upd HA s.heap.objs.size (.lst (ys ++ [y]))) JA rfl (.cons rA .nil)
     ⟨_,ys,y,rfl,rfl,eD,ez,rfl⟩) fun _ sB ⟨_,HB,JB,_,eB⟩=>by subst eB; exact again JB qA
   match ifs,tt,B.ift s3.heap.objs.size s3 (upd H1 s.heap.objs.size (.lst [])) fp,q8 with
   | [],none,_,q8 =>
    rw [tIfs_none,if_pos rfl] at q8
    rw [wpIfs_nil,if_pos rfl]
    exact fin J8 q8
   | [c],some t,hc,q8 =>
    show wpAny _ _ (isTrue c _ (eval c _)) _ _ s8
    refine thn (hc _ s8 σ8 H8 _ J8 q8) fun ok s9 ⟨H9,J9,q9⟩=>?_
    cases ok with
    | true =>
     rw [if_pos rfl] at q9 ⊢
     exact fin J9 q9
    | false =>
     rw [if_neg Bool.false_ne_true] at q9 ⊢
     exact again J9 q9
 refine codeAny_compStart_list loop (T.self _ _ _ _ _ t1 loop)
theorem pe_comp {wi:TI} (hi:PI X tg iter wi) (B:Block X scope tgs fr tg elt ifs g tt te) (hs:∀ x,foldedSetIterable iter X.env x = pure x:=by intro _; rfl) :
  PE X (.ListComp elt [⟨tg,iter,ifs,0⟩] scope pos) (tComp wi tgs.length fr g tt te):=by
 intro pins s σ H Q I h
 rw [eval_ListComp]
 have hclo:closureFor scope X.env = pure (clo X.env scope.names):=closureFor_clo fun x hx e=>I.ok.has x.1 (B.caps.free x.1 (by rw [← e]; exact hx))
 refine wpAny_comprehension_free (use:=none) rfl hs hclo B.sc.kind B.sc.names (thn (hi pins s σ H _ I h) fun v s1 h1=>thn h1 fun itv s2 h2=>?_)
 obtain ⟨it,fp,tn,J,H2,e,I2,T,t0,f0,hw⟩:=h2
 subst e
 refine comp_run (RR:=fun acc C=>compPost (model X.prog X.w) X.A X.xe none (EP X pins σ Q) acc C) (Q:=Q) B I2 T t0 f0 hw fun D C H' s' I' nC c1 c2 c3 c4 ns q=>?_
 obtain ⟨m,hm⟩:=ns
 exact ⟨m,hm,fun h' sb=>⟨.ref D,H',I'.turned (t':=s'.toks) (fun b o hb e=>(sb.2 b hb).trans e) nC c1 (.inr c2) c3 c4,rfl,q⟩⟩
end
end L2
namespace L2
open PySem PySem.Spec PyProof.Rows
section
variable {X:Cx}
theorem PE.imp {e:Expr} {t t':TE} (h:PE X e t) (i:∀ σ H Q,t' σ H Q → t σ H Q):PE X e t':=fun pins s σ H Q I hw=>h pins s σ H Q I (i σ H Q hw)
theorem OpR.imp {f:Value → Value → Sem Value} {r r':R2} (h:OpR X f r) (i:∀ x y H Q,r' x y H Q → r x y H Q):OpR X f r':=fun pins s σ H x y v u Q I rx ry hw=>h pins s σ H x y v u Q I rx ry (i x y H Q hw)
theorem CallR.imp {f:Value} {r r':List V → Hp → VK → Prop} (h:CallR X f r) (i:∀ xs H Q,r' xs H Q → r xs H Q):CallR X f r':=fun pins s σ H xs us Q I rx hw=>h pins s σ H xs us Q I rx (i xs H Q hw)
def gV (i:Nat):TE:=fun σ H Q=>match σ[i]? with
 | some (some v)=>Q v H
 | _=>False
theorem nv (i:Nat) {x:Str} {pos:Pos} (hN:X.N[i]? = some x:=by rfl) (hv:Vis X.env.scope x:=by first | exact Or.inl rfl | exact Or.inr (Or.inl rfl) | exact Or.inr (Or.inr rfl)) (hd:(x == ("__debug__":Str)) = false:=by decide)
  (hcd:(x == ("__classdict__":Str)) = false:=by decide):PE X (.Name x pos) (gV i) :=
 (pe_var hN hv hd hcd).imp fun σ H Q h=>by
  unfold gV at h
  split at h
  ·exact ⟨_,‹_›,h⟩
  ·exact h.elim
theorem nt {x:Str} {T:String} {pos:Pos} (hm:X.mg x = none) (hv:bootBuiltins x = some (.type T)) (hg:Gl X x:=by rfl) (hn:x ≠ "__name__":=by decide) (hd:(x == ("__debug__":Str)) = false:=by decide):PE X (.Name x pos) (tC (.ty T)):=pe_bltn hg hm hv rfl hn hd
theorem ps_setG (hN:X.N.Nodup) (i:Nat) {x:Str} {e:Expr} {te:TE} {pos pos':Pos} (he:PE X e te) (hi:X.N[i]? = some x:=by rfl) (hx:Loc X.env.scope x:=by first | exact Or.inl rfl | exact Or.inr rfl)
  (hs:swapsWith e (some (.Name x pos')) pos.line X.env = pure false:=by rfl) (hf:X.fn x = true ∨ X.env.scope.names.lookup x = some .local:=by first | exact .inl rfl | exact .inr rfl | assumption) :
  PS X (.Assign [.Name x pos'] e pos) (tAsg te (gName i)):=ps_set hN hi hx he hs hf
theorem pg_nameG (hN:X.N.Nodup) (i:Nat) {x:Str} {pos:Pos} (hi:X.N[i]? = some x:=by rfl) (hx:Loc X.env.scope x:=by first | exact Or.inl rfl | exact Or.inr rfl) (hf:X.fn x = true ∨ X.env.scope.names.lookup x = some .local:=by first | exact .inl rfl | exact .inr rfl | assumption) :
  PG X (.Name x pos) (gName i):=pg_name hN hi hx hf
def gAdd (K:PySem.W.Frag):R2:=fun x y H Q=>match x,y with
 | .int i,.int j=>Q (.int (i + j)) H
 | .str i,.str j=>i.length + j.length ≤ sizeLine ∧ Q (.str (i ++ j)) H
 | .ref a,.ref b=>(∃ xs zs,H a = some (.lst xs) ∧ H b = some (.lst zs) ∧ xs.length + zs.length ≤ sizeLine ∧ ∀ p,H p = none → Q (.ref p) (upd H p (.lst (xs ++ zs)))) ∨
   (∃ xs ys,SqT K H a xs ∧ SqT K H b ys ∧ xs ≠ [] ∧ ys ≠ [] ∧ xs.length + ys.length ≤ sizeLine ∧ ∀ p,H p = none → Q (.ref p) (upd H p (.tup (xs ++ ys))))
 | _,_=>False
theorem op_addG:OpR X (binaryOp .Add) (gAdd X.K):=by
 intro pins s σ H x y v u Q I rx ry h
 unfold gAdd at h
 split at h
 ·exact op_add pins s σ H _ _ v u Q I rx ry ⟨_,_,rfl,rfl,h⟩
 ·exact op_add_str pins s σ H _ _ v u Q I rx ry ⟨_,_,rfl,rfl,h.1,h.2⟩
 ·rcases h with ⟨xs,zs,h1,h2,h3,h4⟩ | ⟨xs,ys,h1,h2,h3,h4,h5,h6⟩
  ·exact op_cat pins s σ H _ _ v u Q I rx ry ⟨_,_,xs,zs,rfl,rfl,h1,h2,h3,h4⟩
  ·exact op_catT pins s σ H _ _ v u Q I rx ry ⟨_,_,xs,ys,rfl,rfl,h1,h2,h3,h5,fun z=>absurd z h4,fun _=>h6⟩
 ·exact h.elim
theorem op_mul_str:OpR X (binaryOp .Mult) (fun x y H Q=>∃ z n,x = .str z ∧ y = .int n ∧ MulOk z n ∧ Q (.str (Txt.mul z n)) H):=by
 intro pins s σ H x y v u Q I rx ry h
 obtain ⟨z,n,rfl,rfl,hm,q⟩:=h
 obtain ⟨t,rfl⟩:=rx
 obtain ⟨t',rfl⟩:=ry
 exact SB.mul hm fun t' k=>⟨.str _,H,I.tok k,⟨t',rfl⟩,q⟩
def gMul:R2:=fun x y H Q=>match x,y with
 | .int i,.int j=>CMul i j ∧ Q (.int (i * j)) H
 | .str z,.int n=>MulOk z n ∧ Q (.str (Txt.mul z n)) H
 | .ref l,.int k=>∃ xs,H l = some (.lst xs) ∧ -(2 ^ 63) ≤ k ∧ k < 2 ^ 63 ∧ xs.length * k.toNat ≤ sizeLine ∧ ∀ p,H p = none → Q (.ref p) (upd H p (.lst (List.replicate k.toNat xs).flatten))
 | _,_=>False
theorem op_mulG:OpR X (binaryOp .Mult) gMul:=by
 intro pins s σ H x y v u Q I rx ry h
 unfold gMul at h
 split at h
 ·exact op_mul pins s σ H _ _ v u Q I rx ry ⟨_,_,rfl,rfl,h.1,h.2⟩
 ·exact op_mul_str pins s σ H _ _ v u Q I rx ry ⟨_,_,rfl,rfl,h.1,h.2⟩
 ·obtain ⟨xs,h1,h2,h3,h4,h5⟩:=h
  exact op_rep pins s σ H _ _ v u Q I rx ry ⟨_,_,xs,rfl,rfl,h1,h2,h3,h4,h5⟩
 ·exact h.elim
def gMod:R2:=fun x y H Q=>match x,y with
 | .int i,.int j=>0 < j ∧ Q (.int (i % j)) H
 | _,_=>False
theorem op_modG:OpR X (binaryOp .Mod) gMod:=op_mod.imp fun x y H Q h=>by
 unfold gMod at h
 split at h
 ·exact ⟨_,_,rfl,rfl,h.1,h.2⟩
 ·exact h.elim
def gCmp (p:Int → Int → Bool):R2:=fun x y H Q=>match x,y with
 | .int i,.int j=>Q (.bl (p i j)) H
 | _,_=>False
theorem gCmp_imp {f:Value → Value → Sem Value} {p:Int → Int → Bool} (h:OpR X f (rI0 fun i j=>.bl (p i j))):OpR X f (gCmp p):=h.imp fun x y H Q h=>by
 unfold gCmp at h
 split at h
 ·exact ⟨_,_,rfl,rfl,h⟩
 ·exact h.elim
theorem op_ltG:OpR X (compareOp .Lt) (gCmp fun i j=>decide (i < j)):=gCmp_imp op_lt
inductive Item (K:PySem.W.Frag) (H:Hp):V → V → V → Prop where
 | lst {p:Addr} {xs:List V} {i:Int} {v:V} (h:SqL K H p xs) (e:atI xs i = some v):Item K H (.ref p) (.int i) v
 | tup {p:Addr} {xs:List V} {i:Int} {v:V} (h:SqT K H p xs) (e:atI xs i = some v):Item K H (.ref p) (.int i) v
 | str {z:Str} {i:Int} {c:Nat} (hz:z.length ≤ sizeLine) (e:atI z.cps.toList i = some c):Item K H (.str z) (.int i) (.str ⟨#[c]⟩)
 | dct {a:Addr} {y v:V} (g:DGet H a y (some v)):Item K H (.ref a) y v
theorem ixG (hu:X.A.units + 1 < cLine):IxR X (fun x y H Q=>∃ v,Item X.K H x y v ∧ Q v H):=by
 intro value slice pins s σ H x y v u Q I rx ry h hs
 obtain ⟨z,it,q⟩:=h
 cases it with
 | lst h e=>exact ix_list value slice pins s σ H _ _ v u Q I rx ry ⟨_,_,_,_,rfl,rfl,h,e,q⟩ hs
 | tup h e=>exact ix_tup value slice pins s σ H _ _ v u Q I rx ry ⟨_,_,_,_,rfl,rfl,h,e,q⟩ hs
 | str h e=>exact ix_str value slice pins s σ H _ _ v u Q I rx ry ⟨_,_,_,rfl,rfl,h,e,q⟩ hs
 | @dct a _ _ g =>
  obtain rfl:v = Value.ref a:=rx
  exact tail_any (dict_typeIs I g) PySem.F.slot_dict_getitem.lookup (d_getItem hu I g ry fun w' s3 I3 rw'=>⟨_,H,I3,rw',q⟩) hs
theorem tyOf_kit {pins:List (Addr × Obj)} {σ:St} {H:Hp} {s:Shared} {x:V} {u t:Value} (I:Inv X pins σ H s) (rx:RelV x u) (ty:TyOf X.K H x t):∃ P:Heap → Prop,PySem.W.KitX X.K u t P ∧ P s.heap ∧ u ≠ .builtin "__main__.__loader__#opaque":=by
 cases ty with
 | non=>cases (show u = Value.none from rx); exact ⟨_,PySem.W.kitx_none,True.intro,fun z=>nomatch z⟩
 | bl y=>cases (show u = Value.bool y from rx); exact ⟨_,PySem.W.kitx_bool,True.intro,fun z=>nomatch z⟩
 | int i=>obtain ⟨t,q⟩:=(show ∃ t,u = Value.int i t from rx); cases q; exact ⟨_,PySem.W.kitx_int,True.intro,fun z=>nomatch z⟩
 | str y=>obtain ⟨t,q⟩:=(show ∃ t,u = Value.str y t from rx); cases q; exact ⟨_,PySem.W.kitx_str,True.intro,fun z=>nomatch z⟩
 | flt y=>obtain ⟨t,q⟩:=(show ∃ t,u = Value.float y t from rx); cases q; exact ⟨_,PySem.W.kitx_float,True.intro,fun z=>nomatch z⟩
 | @lst a xs ea =>
  cases (show u = Value.ref a from rx)
  obtain ⟨_,_,n,_,h1⟩:=(show ObjOk X.prog X.w H s.heap a (.lst xs) from I.hok a _ ea)
  exact ⟨_,PySem.W.kitx_list,⟨_,h1,rfl⟩,fun z=>nomatch z⟩
 | @frz a ob xs ea =>
  cases (show u = Value.ref a from rx)
  obtain ⟨_,_,_,n,_,h1⟩:=(show ObjOk X.prog X.w H s.heap a (.frz ob (.lst xs)) from I.hok a _ ea)
  exact ⟨_,PySem.W.kitx_list,⟨_,h1,rfl⟩,fun z=>nomatch z⟩
 | @tup a xs ea =>
  cases (show u = Value.ref a from rx)
  obtain ⟨_,_,_,p⟩:=(show ObjOk X.prog X.w H s.heap a (.tup xs) from I.hok a _ ea)
  obtain ⟨o,h1,h2,_⟩:=p
  exact ⟨_,PySem.W.kitx_tuple,⟨o,h1,h2⟩,fun z=>nomatch z⟩
 | @dK a kvs ea =>
  cases (show u = Value.ref a from rx)
  obtain ⟨_,_,vs,_,p⟩:=(show ObjOk X.prog X.w H s.heap a (.dK kvs) from I.hok a _ ea)
  obtain ⟨o,es,ep,h1,h2,_⟩:=p
  exact ⟨_,PySem.W.kitx_dict,⟨o,h1,h2.1⟩,fun z=>nomatch z⟩
 | @dT a kvs ea =>
  cases (show u = Value.ref a from rx)
  obtain ⟨_,_,xs,_,o,es,ep,h1,h2,_⟩:=(show ObjOk X.prog X.w H s.heap a (.dT kvs) from I.hok a _ ea)
  exact ⟨_,PySem.W.kitx_dict,⟨o,h1,h2.1⟩,fun z=>nomatch z⟩
 | @ins a C dx fs ea cl ha hn htk hm =>
  cases (show u = Value.ref a from rx)
  obtain ⟨mA,O,_⟩:=ins_get I.hok ea
  obtain ⟨od,J,_⟩:=O.look
  exact ⟨_,PySem.W.kitx_own (cl.get _) cl.hd ha hn htk hm,J,fun z=>nomatch z⟩
theorem vals_ty:∀ {ns:List String} {us:List Value},Vals (ns.map V.ty) us → us = ns.map Value.type
 | [],_,.nil=>rfl
 | n :: ns,_,.cons r t=>by
  cases (show _ = Value.type n from r)
  rw [vals_ty t]; rfl
def gIsi (K:PySem.W.Frag):List V → Hp → VK → Prop:=fun xs H Q=>match xs with
 | [x,.ty n]=>∃ t b,TyOf K H x t ∧ PySem.W.kitOne K t (.type n) = some b ∧ Q (.bl b) H
 | [x,.ref tp]=>∃ (ns:List String) (t:Value) (b:Bool),H tp = some (.tup (ns.map V.ty)) ∧ TyOf K H x t ∧ PySem.W.kitAny K t (ns.map Value.type) = some b ∧ Q (.bl b) H
 | _=>False
theorem call_isinstanceG:CallR X (.builtin "isinstance") (gIsi X.K):=by
 intro pins s σ H xs us Q I r h
 unfold gIsi at h
 split at h
 ·obtain ⟨t,b,ty,e,q⟩:=h
  obtain ⟨u,v,rfl,ru,rv⟩:=Vals.two r
  cases (show v = Value.type _ from rv)
  obtain ⟨P,k,p,ne⟩:=tyOf_kit I ru ty
  exact PySem.W.kia_one k I.kIn p e ne fun tk=>⟨.bl b,H,I.tok tk,rfl,q⟩
 ·rename_i x tp
  obtain ⟨ns,t,b,htp,ty,e,q⟩:=h
  obtain ⟨u,v,rfl,ru,rv⟩:=Vals.two r
  cases (show v = Value.ref tp from rv)
  obtain ⟨P,k,p,ne⟩:=tyOf_kit I ru ty
  obtain ⟨_,its,rt,⟨cls,dd,data,sl⟩,h1,h2,n,h3⟩:=(show ObjOk X.prog X.w H s.heap tp (.tup (ns.map V.ty)) from I.hok tp _ htp)
  simp only at h2 h3
  subst h2 h3
  have hi:=vals_ty rt
  subst hi
  exact PySem.W.kia_tup k I.kIn p h1 e ne fun tk=>⟨.bl b,H,I.tok tk,rfl,q⟩
 ·exact h.elim
def gMin:List V → Hp → VK → Prop:=fun xs H Q=>match xs with
 | [.int i,.int j]=>Q (.int (if j < i then j else i)) H
 | _=>False
theorem call_minG (hc:X.calm = true:=by rfl):CallR X (.builtin "min") gMin:=(call_min2 hc).imp fun xs H Q h=>by
 unfold gMin at h
 split at h
 ·exact ⟨_,_,rfl,h⟩
 ·exact h.elim
def gLen (K:PySem.W.Frag):List V → Hp → VK → Prop:=fun xs H Q=>match xs with
 | [.ref p]=>∃ n:Nat,((∃ ys,(SqL K H p ys ∨ SqT K H p ys) ∧ n = ys.length) ∨ (∃ kvs:List (Key × V),H p = some (.dK kvs) ∧ n = kvs.length)) ∧ Q (.int n) H
 | [.str z]=>z.length ≤ sizeLine ∧ Q (.int z.length) H
 | _=>False
theorem call_lenG:CallR X (.builtin "len") (gLen X.K):=by
 intro pins s σ H xs us Q I r h
 unfold gLen at h
 split at h
 ·obtain ⟨n,h | h,q⟩:=h
  ·obtain ⟨ys,hy,rfl⟩:=h
   exact call_len_seq pins s σ H _ us Q I r ⟨_,ys,rfl,hy,q⟩
  ·obtain ⟨kvs,hk,rfl⟩:=h
   exact call_lenD pins s σ H _ us Q I r ⟨_,kvs,rfl,hk,q⟩
 ·exact call_len_str pins s σ H _ us Q I r ⟨_,rfl,h.1,h.2⟩
 ·exact h.elim
theorem call_int_str:CallR X (.type "int") (fun xs H Q=>∃ z n,xs = [.str z] ∧ PySem.intText? z = some n ∧ z.length ≤ 640 ∧ Q (.int n) H):=by
 intro pins s σ H xs us Q I r h
 obtain ⟨z,n,rfl,e,hl,q⟩:=h
 obtain ⟨u,rfl,t,rfl⟩:=vals1 r
 exact PySem.W.KIN.call_text e hl ⟨.int n,H,I.tok _,⟨_,rfl⟩,q⟩
def gInt:List V → Hp → VK → Prop:=fun xs H Q=>match xs with
 | [.str z]=>∃ n,PySem.intText? z = some n ∧ z.length ≤ 640 ∧ Q (.int n) H
 | [.bl b]=>Q (.int (if b then 1 else 0)) H
 | [.int i]=>Q (.int i) H
 | _=>False
theorem call_intG:CallR X (.type "int") gInt:=by
 intro pins s σ H xs us Q I r h
 unfold gInt at h
 split at h
 ·obtain ⟨n,h1,h2,h3⟩:=h
  exact call_int_str pins s σ H _ us Q I r ⟨_,n,rfl,h1,h2,h3⟩
 ·exact call_int1 pins s σ H _ us Q I r (.inr ⟨_,rfl,h⟩)
 ·exact call_int1 pins s σ H _ us Q I r (.inl ⟨_,rfl,h⟩)
 ·exact h.elim
end
end L2
namespace L2
open PySem PySem.Spec PyProof.Rows
structure DefAt (K:PySem.W.Frag) (mg:Str → Option Value) (x:Str) (st:Stmt) (ps:List Str):Prop where
 ex:∃ f fd,Fun K x x st f fd ∧ mg x = some (.ref f) ∧ ∀ us:List Value,us.length = ps.length → bindArgs fd ⟨us,[]⟩ = pure (ps.zip us)
structure Own (P:Program) (w:World) (K:PySem.W.Frag) (mg:Str → Option Value) (base:Heap) (x:Str) (k:Nat) (ps:List Str) (sp:Sp):Prop where
 ex:∃ f fd,FnOk P w K mg base CX0 k f fd ps sp ∧ mg x = some (.ref f) ∧ PySem.W.keepIn K (.ref f) = true ∧ ∀ us:List Value,us.length = ps.length → bindArgs fd ⟨us,[]⟩ = pure (ps.zip us)
theorem fsc {N P:List Str} {sc:Scope} (a:sc.kind = .function:=by rfl) (b:sc.isCoroutine = false:=by rfl) (c:sc.isGenerator = false:=by rfl) (d:N.Nodup:=by decide +kernel) (e:N.take P.length = P:=by rfl)
  (f:∀ x ∈ P,sc.names.lookup x = some .local ∨ sc.names.lookup x = some .cell:=by decide +kernel) (g:∀ y ∈ sc.names,y.2 ≠ .free:=by decide +kernel):FnScope N P sc:=⟨a,b,c,d,e,f,g⟩
theorem bind1 {fd:FuncData} {ps:List Str} (h:∀ a:Value,bindArgs fd { pos:=[a] } = pure (ps.zip [a])):∀ us:List Value,us.length = 1 → bindArgs fd { pos:=us } = pure (ps.zip us)
 | [a],_=>h a
theorem bind2 {fd:FuncData} {ps:List Str} (h:∀ a b:Value,bindArgs fd { pos:=[a,b] } = pure (ps.zip [a,b])):∀ us:List Value,us.length = 2 → bindArgs fd { pos:=us } = pure (ps.zip us)
 | [a,b],_=>h a b
theorem defAt_mk {K:PySem.W.Frag} {h:Heap} {mg:Str → Option Value} {x:Str} {st:Stmt} {ps:List Str} {f:Addr} {oc kV doc pm cdv ct:Value} {od an:Option Addr} {osl:Array (Option Value)} (X:K.In h) (G:h.Ns mainGlobals mg)
  (a:PySem.W.nsIn K mainGlobals x = some (some (.ref f)):=by k_is) (l:K.lookup f = some ⟨oc,od,.func (PySem.W.fnOf x x (defArgs st) (defBody st) (defScope st) .none kV doc pm an cdv ct),osl⟩:=by k_is) (c:PySem.W.codeIn K cdv x = true:=by k_is) (k:PySem.W.keepIn K (.ref f) = true:=by k_is)
  (hb:∀ (kV doc pm:Value) (an:Option Addr) (cdv ct:Value) (us:List Value),us.length = ps.length → bindArgs (PySem.W.fnOf x x (defArgs st) (defBody st) (defScope st) .none kV doc pm an cdv ct) ⟨us,[]⟩ = pure (ps.zip us):=by intro _ _ _ _ _ _ us hl; first | exact bind1 (fun _=>rfl) us hl | exact bind2 (fun _ _=>rfl) us hl | exact bind3 (fun _ _ _=>rfl) us hl | exact bind4 (fun _ _ _ _=>rfl) us hl | exact bind0 rfl us hl):DefAt K mg x st ps :=
 ⟨f,_,fun_mk l c k,PySem.W.mg_of X G a,hb kV doc pm an cdv ct⟩
section
variable {P:Program} {w:World} {K:PySem.W.Frag} {mg:Str → Option Value} {base:Heap}
theorem DefAt.own {x:Str} {st:Stmt} {N ps:List Str} {k:Nat} {sp:Sp} (D:DefAt K mg x st ps) (S:FnScope N ps (defScope st)) (len:∀ vs H Q E,sp vs H Q E → vs.length = ps.length)
  (hbody:∀ (f:Addr) (cdv:Value) (A:Around) (outer:List Env) (s:Shared) (H:Hp) (vs:List V) (Q:VK) (E:XK),Room k (A.deeper (envOfC x (defScope st) s.heap.objs.size f cdv)) → sp vs H Q E →
   ∃ t,PSs (cxOf CX0 P w K mg base N x (defScope st) f cdv A outer s H E).nox (defBody st) t ∧ t { nx:=fun _ H'=>Q .non H',rt:=Q } (start N vs) H):Own P w K mg base x (k + 1) ps sp:=by
 obtain ⟨f,fd,F,hm,hb⟩:=D.ex
 exact ⟨f,fd,F.ok S len (hbody f),hm,F.kp,hb⟩
end
def tOwn (sp:Sp) (t:TA):TE:=fun σ H Q=>t σ H fun vs H1=>sp vs H1 Q E0
section
variable {X:Cx}
theorem pe_own {x:Str} {j k:Nat} {ps:List Str} {sp:Sp} {e:Expr} {es:List Expr} {t:TA} {p pos:Pos} (O:Own X.prog X.w X.K X.mg X.base x j ps sp) (hr:Room k X.A) (hg:Gl X x) (ha:PA X (e :: es) t) (hj:j ≤ k:=by first | decide | omega) (hdb:(x == ("__debug__":Str)) = false:=by decide)
  (he:starEach (e :: es) X.env = (false,eval e X.env) :: starEach es X.env:=by rfl) (hpl:(backTo pos (starEach es X.env)).any (·.1) = false:=by rfl):PE X (.Call (.Name x p) (e :: es) [] pos) (tOwn sp t):=by
 obtain ⟨f,fd,F,a,b,c⟩:=O.ex
 refine (pe_call (dvs:=[]) (E:=E0) F (hr.mono hj) hg a b (Binds.all c) .nil pass0 ha hdb he hpl).imp fun σ H Q h=>?_
 unfold tCall
 unfold tOwn at h
 simpa only [List.append_nil] using h
end
end L2
namespace L2
open PySem
theorem bb_len:bootBuiltins "len" = some (.builtin "len"):=by kernel_rfl
theorem bb_min:bootBuiltins "min" = some (.builtin "min"):=by kernel_rfl
theorem bb_isinstance:bootBuiltins "isinstance" = some (.builtin "isinstance"):=by kernel_rfl
theorem bb_int:bootBuiltins "int" = some (.type "int"):=by kernel_rfl
theorem bb_bool:bootBuiltins "bool" = some (.type "bool"):=by kernel_rfl
theorem bb_str:bootBuiltins "str" = some (.type "str"):=by kernel_rfl
theorem bb_list:bootBuiltins "list" = some (.type "list"):=by kernel_rfl
theorem bb_dict:bootBuiltins "dict" = some (.type "dict"):=by kernel_rfl
theorem bb_tuple:bootBuiltins "tuple" = some (.type "tuple"):=by kernel_rfl
end L2
namespace L2
open PySem
theorem kt_bool_bool (K:PySem.W.Frag):PySem.W.kitOne K (.type "bool") (.type "bool") = some true:=rfl
theorem kt_int_bool (K:PySem.W.Frag):PySem.W.kitOne K (.type "int") (.type "bool") = some false:=rfl
theorem kt_int_int (K:PySem.W.Frag):PySem.W.kitOne K (.type "int") (.type "int") = some true:=rfl
theorem kt_str_bool (K:PySem.W.Frag):PySem.W.kitOne K (.type "str") (.type "bool") = some false:=rfl
theorem kt_str_int (K:PySem.W.Frag):PySem.W.kitOne K (.type "str") (.type "int") = some false:=rfl
theorem kt_str_str (K:PySem.W.Frag):PySem.W.kitOne K (.type "str") (.type "str") = some true:=rfl
theorem kt_list_bool (K:PySem.W.Frag):PySem.W.kitOne K (.type "list") (.type "bool") = some false:=rfl
theorem kt_list_int (K:PySem.W.Frag):PySem.W.kitOne K (.type "list") (.type "int") = some false:=rfl
theorem kt_list_str (K:PySem.W.Frag):PySem.W.kitOne K (.type "list") (.type "str") = some false:=rfl
theorem kt_list_dict (K:PySem.W.Frag):PySem.W.kitOne K (.type "list") (.type "dict") = some false:=rfl
theorem kt_list_tuple (K:PySem.W.Frag):PySem.W.kitOne K (.type "list") (.type "tuple") = some false:=rfl
theorem kt_list_list (K:PySem.W.Frag):PySem.W.kitOne K (.type "list") (.type "list") = some true:=rfl
theorem kt_tuple_bool (K:PySem.W.Frag):PySem.W.kitOne K (.type "tuple") (.type "bool") = some false:=rfl
theorem kt_tuple_int (K:PySem.W.Frag):PySem.W.kitOne K (.type "tuple") (.type "int") = some false:=rfl
theorem kt_tuple_str (K:PySem.W.Frag):PySem.W.kitOne K (.type "tuple") (.type "str") = some false:=rfl
theorem kt_tuple_dict (K:PySem.W.Frag):PySem.W.kitOne K (.type "tuple") (.type "dict") = some false:=rfl
theorem kt_tuple_tuple (K:PySem.W.Frag):PySem.W.kitOne K (.type "tuple") (.type "tuple") = some true:=rfl
theorem kt_tuple_list (K:PySem.W.Frag):PySem.W.kitOne K (.type "tuple") (.type "list") = some false:=rfl
theorem ka_list_lt (K:PySem.W.Frag):PySem.W.kitAny K (.type "list") (["list","tuple"].map Value.type) = some true:=rfl
theorem ka_tuple_lt (K:PySem.W.Frag):PySem.W.kitAny K (.type "tuple") (["list","tuple"].map Value.type) = some true:=rfl
theorem same_upd {H:Hp} {p:Addr} {o:HO} (h:H p = none):Same H (upd H p o):=fun b u e=>by rw [upd_ne (ne_of_none e h)]; exact e
end L2
namespace L2
theorem iteD {c A B:Prop} [Decidable c] (h:¬ c) (hb:B):if decide c = true then A else B:=by
 rw [decide_eq_false h]; exact iteF hb
theorem iteDT {c A B:Prop} [Decidable c] (h:c) (ha:A):if decide c = true then A else B:=by
 rw [decide_eq_true h]; exact iteT ha
theorem iteNT {A B:Prop} (hb:B):if (!true) = true then A else B:=iteF hb
end L2
namespace L2
open PySem PySem.Spec PyProof.Rows
def scl:V → V → Bool
 | .non,.non=>true | .non,.int _=>true | .int _,.non=>true | .non,.bl _=>true | .bl _,.non=>true | .non,.str _=>true | .str _,.non=>true
 | .int _,.int _=>true | .bl _,.bl _=>true | .str _,.str _=>true
 | .int _,.str _=>true | .str _,.int _=>true | .bl _,.str _=>true | .str _,.bl _=>true
 | _,_=>false
inductive DEq (K:PySem.W.Frag) (H:Hp):Nat → V → V → Bool → Prop where
 | scal {n:Nat} {x y:V} (h:scl x y = true):DEq K H n x y (decide (x = y))
 | same {n:Nat} {a:Addr}:DEq K H n (.ref a) (.ref a) true
 | lst {n:Nat} {a b:Addr} {xs ys:List V} (e:Nat → Bool) (ha:SqL K H a xs) (hb:SqL K H b ys) (hn:a ≠ b) (hl:xs.length = ys.length) (h:∀ j x y,xs[j]? = some x → ys[j]? = some y → DEq K H n x y (e j)):DEq K H (n + 1) (.ref a) (.ref b) ((List.range xs.length).all e)
 | lstN {n:Nat} {a b:Addr} {xs ys:List V} (ha:SqL K H a xs) (hb:SqL K H b ys) (hn:a ≠ b) (hl:xs.length ≠ ys.length):DEq K H (n + 1) (.ref a) (.ref b) false
 | tup {n:Nat} {a b:Addr} {xs ys:List V} (e:Nat → Bool) (ha:SqT K H a xs) (hb:SqT K H b ys) (hn:a ≠ b) (h:∀ j x y,xs[j]? = some x → ys[j]? = some y → DEq K H n x y (e j)):DEq K H (n + 1) (.ref a) (.ref b) ((List.range (min xs.length ys.length)).all e && xs.length == ys.length)
 | dct {n:Nat} {a b:Addr} {kvs:List (Key × V)} (ha:Rd H a (.dK kvs)) (hb:Rd H b (.dK kvs)) (hn:a ≠ b) (hk:∀ p ∈ kvs,∃ i,p.1 = Sum.inl i) (hv:∀ p ∈ kvs,(∃ r,p.2 = .ref r) ∨ scl p.2 p.2 = true):DEq K H (n + 1) (.ref a) (.ref b) true
theorem dictOf_any {P P':Program} {w w':World} {h:Heap} {a:Addr} {vs:List (Key × Value)} (d:h.DictOf (mixKind P w) a vs) (hk:∀ p ∈ vs,∃ i,p.1 = Sum.inl i):h.DictOf (mixKind P' w') a vs:=by
 obtain ⟨o,es,ep,ho,hc,hd,hka,hpa,hn⟩:=d
 have pp:∀ {l:List DictEntry} {vs:List (Key × Value)},Pairs (mixKind P w) l vs → Pairs (mixKind P' w') l vs:=fun h=>by
  induction h with
  | nil=>exact .nil
  | cons h1 h2 _ ih=>exact .cons h1 h2 ih
 have mm:∀ {l:List DictEntry} {vs:List (Key × Value)},Pairs (mixKind P w) l vs → ∀ e ∈ l,∃ p ∈ vs,keyIs p.1 e.key = true:=fun h=>by
  induction h with
  | nil=>intro e he; exact nomatch he
  | cons h1 h2 _ ih =>
   intro e he
   rcases List.mem_cons.mp he with rfl | he
   ·exact ⟨_,List.mem_cons_self,h1⟩
   ·obtain ⟨p,hp,hx⟩:=ih e he
    exact ⟨p,List.mem_cons_of_mem _ hp,hx⟩
 refine ⟨o,es,ep,ho,hc,hd,fun e he=>?_,pp hpa,hn⟩
 obtain ⟨k,h1,h2⟩:=hka e he
 obtain ⟨p,hp,hx⟩:=mm hpa e (by simpa using he)
 obtain ⟨i,hi⟩:=hk p hp
 have ek:k = p.1:=(mixKind P w).inj _ _ _ h1 hx
 rw [hi] at ek
 subst ek
 exact ⟨_,h1,h2⟩
theorem hits_of {A:Around} {s:Shared} {kb:List (Key × Value)}:∀ {ka:List (Key × Value)},(∀ p ∈ ka,∃ y,valueAt kb p.1 = some y ∧ SeqAt.EqAt A s p.2 y true) → PySem.W.KeqHits A s kb ka true
 | [],_=>.nil
 | (k,v) :: r,h=>by
  obtain ⟨y,h1,h2⟩:=h (k,v) List.mem_cons_self
  exact .hit (e:=true) (b:=true) h1 h2 (hits_of fun p hp=>h p (List.mem_cons_of_mem _ hp))
theorem valueAt_mem:∀ {vs:List (Key × Value)} {k:Key} {v:Value},(vs.map (·.1)).Nodup → (k,v) ∈ vs → valueAt vs k = some v
 | (k',v') :: r,k,v,hn,hm=>by
  obtain ⟨n1,n2⟩:=List.nodup_cons.mp hn
  unfold valueAt
  rw [List.find?_cons]
  by_cases e:k' = k
  ·subst e
   rcases List.mem_cons.mp hm with z | z
   ·cases z; simp
   ·exact absurd (List.mem_map.mpr ⟨_,z,rfl⟩) n1
  ·rcases List.mem_cons.mp hm with z | z
   ·cases z; exact absurd rfl e
   ·have ih:=valueAt_mem n2 z
    unfold valueAt at ih
    simp only [e,decide_false]
    exact ih
theorem two_of:∀ {kvs:List (Key × V)} {us vs:List (Key × Value)},KV kvs us → KV kvs vs → ∀ p ∈ us,∃ q ∈ kvs,∃ v,(p.1,v) ∈ vs ∧ q.1 = p.1 ∧ RelV q.2 p.2 ∧ RelV q.2 v
 | _,_,_,.nil,.nil,p,hp=>nomatch hp
 | _,_,_,.cons (a:=q) (b:=x) h t,.cons (b:=y) h' t',p,hp=>by
  rcases List.mem_cons.mp hp with rfl | hp
  ·exact ⟨q,List.mem_cons_self,y.2,List.mem_cons.mpr (.inl (by rw [← h.1,h'.1])),h.1,h.2,h'.2⟩
  ·obtain ⟨q',h1,v,h2,h3⟩:=two_of t t' p hp
   exact ⟨q',List.mem_cons_of_mem _ h1,v,List.mem_cons_of_mem _ h2,h3⟩
section
variable {X:Cx} {pins:List (Addr × Obj)} {σ:St} {H:Hp} {s:Shared}
theorem scl_eqAt {x y:V} {u v:Value} {A:Around} (h:scl x y = true) (rx:RelV x u) (ry:RelV y v):SeqAt.EqAt A s u v (decide (x = y)):=by
 have fin:∀ {k k':Bool} {u v:Value},SeqAt.EqAt A s u v k → k = k' → SeqAt.EqAt A s u v k':=fun h e=>e ▸ h
 cases x with
 | non =>
  cases (show u = Value.none from rx)
  cases y with
  | non=>cases (show v = Value.none from ry); exact fin (SeqAt.EqAt.same _) (by simp)
  | bl j=>cases (show v = Value.bool j from ry); exact fin (SeqAt.EqAt.none_bool _) (by simp)
  | int j=>obtain ⟨t',rfl⟩:=ry; exact fin (SeqAt.EqAt.none_int _ _) (by simp)
  | str j=>obtain ⟨t',rfl⟩:=ry; exact fin (SeqAt.EqAt.none_str _ _) (by simp)
  | _=>exact absurd (show false = true from h) Bool.false_ne_true
 | bl i =>
  cases (show u = Value.bool i from rx)
  cases y with
  | non=>cases (show v = Value.none from ry); exact fin (SeqAt.EqAt.bool_none _) (by simp)
  | bl j=>cases (show v = Value.bool j from ry); exact fin (SeqAt.EqAt.bool_bool _ _) dec_bl.symm
  | str j=>obtain ⟨t',rfl⟩:=ry; exact fin (SeqAt.EqAt.bool_str _ _ _) (by simp)
  | _=>exact absurd (show false = true from h) Bool.false_ne_true
 | int i =>
  obtain ⟨t,rfl⟩:=rx
  cases y with
  | non=>cases (show v = Value.none from ry); exact fin (SeqAt.EqAt.int_none _ _) (by simp)
  | int j=>obtain ⟨t',rfl⟩:=ry; exact fin (SeqAt.EqAt.int_int _ _ _ _) dec_int.symm
  | str j=>obtain ⟨t',rfl⟩:=ry; exact fin (SeqAt.EqAt.int_str _ _ _ _) (by simp)
  | _=>exact absurd (show false = true from h) Bool.false_ne_true
 | str i =>
  obtain ⟨t,rfl⟩:=rx
  cases y with
  | non=>cases (show v = Value.none from ry); exact fin (SeqAt.EqAt.str_none _ _) (by simp)
  | bl j=>cases (show v = Value.bool j from ry); exact fin (SeqAt.EqAt.str_bool _ _ _) (by simp)
  | int j=>obtain ⟨t',rfl⟩:=ry; exact fin (SeqAt.EqAt.str_int _ _ _ _) (by simp)
  | str j=>obtain ⟨t',rfl⟩:=ry; exact fin (SeqAt.EqAt.str_str _ _ _ _) dec_str.symm
  | _=>exact absurd (show false = true from h) Bool.false_ne_true
 | _=>cases y <;> exact absurd (show false = true from h) Bool.false_ne_true
theorem DEq.eqAt {n:Nat} {x y:V} {b:Bool} (d:DEq X.K H n x y b) (I:Inv X pins σ H s):∀ {A:Around} {u v:Value},RelV x u → RelV y v → A.units + n < cLine → SeqAt.EqAt A s u v b:=by
 induction d with
 | scal h=>intro A u v rx ry _; exact scl_eqAt h rx ry
 | same=>intro A u v rx ry _; cases rx; cases ry; exact SeqAt.EqAt.same _
 | lst e ha hb hn hl h ih =>
  intro A u v rx ry hu
  cases rx; cases ry
  obtain ⟨its,r1,p1,_⟩:=I.list ha
  obtain ⟨its2,r2,p2,_⟩:=I.list hb
  have e1:=r1.length
  have e2:=r2.length
  have z:=SeqAt.RcAt.lists (A:=A) (e:=e) p1.isList p2.isList (by simp; omega) (by omega) fun j h1 h2=>by
   have g1:its[j]? = some its[j]:=by simp at h1; simp [h1]
   have g2:its2[j]? = some its2[j]:=by simp at h2; simp [h2]
   simp at h1 h2
   have q1:∃ x,_ = some x:=⟨_,List.getElem?_eq_getElem (show j < _ from by rw [e1]; exact h1)⟩
   obtain ⟨x,hx⟩:=q1
   have q2:∃ x,_ = some x:=⟨_,List.getElem?_eq_getElem (show j < _ from by rw [e2]; exact h2)⟩
   obtain ⟨y,hy⟩:=q2
   obtain ⟨u',hu',ru'⟩:=r1.get hx
   obtain ⟨v',hv',rv'⟩:=r2.get hy
   rw [g1] at hu'; cases hu'
   rw [g2] at hv'; cases hv'
   exact ih j x y hx hy ru' rv' (by show A.units + 1 + _ < _; omega)
  refine SeqAt.EqAt.of_refs hn ?_
  rw [e1]
  simpa using z
 | lstN ha hb hn hl =>
  intro A u v rx ry hu
  cases rx; cases ry
  obtain ⟨its,r1,p1,_⟩:=I.list ha
  obtain ⟨its2,r2,p2,_⟩:=I.list hb
  have e1:=r1.length
  have e2:=r2.length
  exact SeqAt.EqAt.of_refs hn (SeqAt.RcAt.lists_lengths p1.isList p2.isList (by simp; omega) (by omega))
 | tup e ha hb hn h ih =>
  intro A u v rx ry hu
  cases rx; cases ry
  obtain ⟨its,r1,p1,_⟩:=I.tuple ha
  obtain ⟨its2,r2,p2,_⟩:=I.tuple hb
  have e1:=r1.length
  have e2:=r2.length
  have z:=SeqAt.RcAt.tuples (A:=A) (e:=e) p1 p2 (by omega) fun j h1 h2=>by
   have g1:its[j]? = some its[j]:=by simp at h1; simp [h1]
   have g2:its2[j]? = some its2[j]:=by simp at h2; simp [h2]
   simp at h1 h2
   have q1:∃ x,_ = some x:=⟨_,List.getElem?_eq_getElem (show j < _ from by rw [e1]; exact h1)⟩
   obtain ⟨x,hx⟩:=q1
   have q2:∃ x,_ = some x:=⟨_,List.getElem?_eq_getElem (show j < _ from by rw [e2]; exact h2)⟩
   obtain ⟨y,hy⟩:=q2
   obtain ⟨u',hu',ru'⟩:=r1.get hx
   obtain ⟨v',hv',rv'⟩:=r2.get hy
   rw [g1] at hu'; cases hu'
   rw [g2] at hv'; cases hv'
   exact ih j x y hx hy ru' rv' (by show A.units + 1 + _ < _; omega)
  refine SeqAt.EqAt.of_refs hn ?_
  rw [e1,e2]
  simpa using z
 | dct ha hb hn hk hv =>
  intro A u v rx ry hu
  cases rx; cases ry
  obtain ⟨_,y1,us,r1,d1⟩:=dk_rd I.hok ha
  obtain ⟨_,y2,vs,r2,d2⟩:=dk_rd I.hok hb
  have l1:=Paired.length r1
  have l2:=Paired.length r2
  have nd:(vs.map (·.1)).Nodup:=by obtain ⟨_,_,_,_,_,_,_,_,n⟩:=id d2; exact n
  have k1:∀ p ∈ us,∃ i,p.1 = Sum.inl i:=fun p hp=>by
   obtain ⟨q,hq,_,_,e,_⟩:=two_of r1 r2 p hp
   rw [← e]; exact hk q hq
  have k2:∀ p ∈ vs,∃ i,p.1 = Sum.inl i:=fun p hp=>by
   obtain ⟨q,hq,_,_,e,_⟩:=two_of r2 r1 p hp
   rw [← e]; exact hk q hq
  refine SeqAt.EqAt.of_refs hn fun prog w E Q h=>?_
  refine PySem.W.keq_eq (knd:=mixKind prog w) (r:=true) y1 y2 (dictOf_any d1 k1) (dictOf_any d2 k2) (by omega) (fun _=>hits_of fun p hp=>?_) (by rw [show us.length = vs.length by omega]; simpa using h)
  obtain ⟨q,hq,v,h1,h2,h3,h4⟩:=two_of r1 r2 p hp
  refine ⟨v,valueAt_mem nd h1,?_⟩
  rcases hv q hq with ⟨r,e⟩ | e
  ·rw [e] at h3 h4
   rw [show p.2 = .ref r from h3,show v = .ref r from h4]
   exact SeqAt.EqAt.same _
  ·have:=scl_eqAt (s:=s) (A:=A.in1) e h3 h4
   rwa [decide_eq_true rfl] at this
end
end L2
namespace Own
open PySem PySem.W PyProof.Rows
section
variable {c:Nat → Nat → Bool} {n:Nat} {s:Shared}
end
end Own
namespace Own
open PySem PySem.W PyProof.Rows
section
variable {prog:Program} {w:World} {A:Around} {E:Value → Shared → Prop} {s:Shared}
end
end Own
namespace Own
open PySem PySem.W PyProof.Rows
section
variable {prog:Program} {w:World} {A:Around} {E:Value → Shared → Prop} {s:Shared}
end
end Own
namespace Own
open PySem PySem.W PyProof.Rows L2
end Own
namespace Own
open PySem PySem.W PyProof.Rows L2
section
variable {prog:Program} {w:World} {A:Around} {E:Value → Shared → Prop} {s:Shared} {b fin:Bool} {Q:Bool → Shared → Prop}
end
section
variable {X:Cx} {pins:List (Addr × Obj)} {σ:L2.St} {H:Hp} {s:Shared}
end
end Own
namespace Own
open PySem L2
end Own
namespace L2
open PySem PySem.Spec PyProof.Rows _root_.Own
section
variable {X:Cx}
end
end L2
namespace L2
open PySem PySem.Spec PyProof.Rows _root_.Own
theorem paired_of {α β:Type} {F:α → β → Prop}:∀ {xs:List α} {ys:List β},xs.length = ys.length → (∀ (j:Nat) x y,xs[j]? = some x → ys[j]? = some y → F x y) → Paired F xs ys
 | [],[],_,_=>.nil
 | [],_ :: _,h,_=>by simp at h
 | _ :: _,[],h,_=>by simp at h
 | x :: xs,y :: ys,h,k=>.cons (k 0 x y rfl rfl) (paired_of (by simpa using h) fun j a b h1 h2=>k (j + 1) a b (by simpa using h1) (by simpa using h2))
theorem paired_get {α β:Type} {F:α → β → Prop} {xs:List α} {ys:List β} (p:Paired F xs ys):∀ {j:Nat} {x:α} {y:β},xs[j]? = some x → ys[j]? = some y → F x y:=by
 induction p with
 | nil=>intro j x y h; simp at h
 | cons h t ih =>
  intro j x y h1 h2
  cases j with
  | zero=>simp at h1 h2; subst h1; subst h2; exact h
  | succ j=>exact ih (by simpa using h1) (by simpa using h2)
section
variable {X:Cx}
end
end L2
namespace L2
open PySem PySem.Spec PyProof.Rows
inductive TEq (K:PySem.W.Frag) (H:Hp):V → V → Bool → Prop where
 | scal {x y:V} (h:scal x y = true):TEq K H x y (decide (x = y))
 | lst {a b:Addr} {xs ys:List V} {n:Nat} (e:Nat → Bool) (ha:SqL K H a xs) (hb:SqL K H b ys) (hl:xs.length = ys.length) (hn:n ≤ 8) (h:∀ j x y,xs[j]? = some x → ys[j]? = some y → DEq K H n x y (e j)):TEq K H (.ref a) (.ref b) ((List.range xs.length).all e)
 | lstN {a b:Addr} {xs ys:List V} (ha:SqL K H a xs) (hb:SqL K H b ys) (hl:xs.length ≠ ys.length):TEq K H (.ref a) (.ref b) false
 | tup {a b:Addr} {xs ys:List V} {n:Nat} (e:Nat → Bool) (ha:SqT K H a xs) (hb:SqT K H b ys) (hn:n ≤ 8) (h:∀ j x y,xs[j]? = some x → ys[j]? = some y → DEq K H n x y (e j)):TEq K H (.ref a) (.ref b) ((List.range (min xs.length ys.length)).all e && xs.length == ys.length)
section
variable {X:Cx} {pins:List (Addr × Obj)} {σ:St} {H:Hp} {s:Shared}
theorem els_eqAt {n:Nat} {xs ys:List V} {its its2:List Value} {e:Nat → Bool} {A:Around} (I:Inv X pins σ H s) (r1:Vals xs its) (r2:Vals ys its2) (hu:A.units + n < cLine) (h:∀ j x y,xs[j]? = some x → ys[j]? = some y → DEq X.K H n x y (e j)) :
  ∀ j (h1:j < its.toArray.size) (h2:j < its2.toArray.size),SeqAt.EqAt A s its.toArray[j] its2.toArray[j] (e j):=fun j h1 h2=>by
 have e1:=r1.length
 have e2:=r2.length
 have g1:its[j]? = some its[j]:=by simp at h1; simp [h1]
 have g2:its2[j]? = some its2[j]:=by simp at h2; simp [h2]
 simp at h1 h2
 obtain ⟨u',hu',ru'⟩:=r1.get (List.getElem?_eq_getElem (show j < xs.length from by rw [e1]; exact h1))
 obtain ⟨v',hv',rv'⟩:=r2.get (List.getElem?_eq_getElem (show j < ys.length from by rw [e2]; exact h2))
 rw [g1] at hu'; cases hu'
 rw [g2] at hv'; cases hv'
 exact (h j _ _ (List.getElem?_eq_getElem _) (List.getElem?_eq_getElem _)).eqAt I ru' rv' hu
def gEq (K:PySem.W.Frag):R2:=fun x y H Q=>∃ b,TEq K H x y b ∧ Q (.bl b) H
def gNe (K:PySem.W.Frag):R2:=fun x y H Q=>∃ b,TEq K H x y b ∧ Q (.bl (!b)) H
theorem op_eqG {k:Nat} (hr:Room k X.A):OpR X (compareOp .Eq) (gEq X.K):=by
 intro pins s σ H x y v u Q I rx ry h
 obtain ⟨b,t,q⟩:=h
 have hu:=hr.units
 cases t with
 | scal h=>exact op_eq pins s σ H x y v u Q I rx ry ⟨h,q⟩
 | lst e ha hb hl hn h =>
  cases rx; cases ry
  obtain ⟨its,r1,p1,_⟩:=I.list ha
  obtain ⟨its2,r2,p2,_⟩:=I.list hb
  have e1:=r1.length
  have e2:=r2.length
  refine SeqAt.eq_listAt (e:=e) p1.isList p2.isList (by simp; omega) (by omega) (els_eqAt I r1 r2 (by show X.A.units + 1 + _ < _; omega) h) (fin_bl I q ?_)
  rw [e1]; simp
 | lstN ha hb hl =>
  cases rx; cases ry
  obtain ⟨its,r1,p1,_⟩:=I.list ha
  obtain ⟨its2,r2,p2,_⟩:=I.list hb
  have e1:=r1.length
  have e2:=r2.length
  exact SeqAt.eq_list_lengthsAt p1.isList p2.isList (by simp; omega) (by omega) (fin_bl I q rfl)
 | tup e ha hb hn h =>
  cases rx; cases ry
  obtain ⟨its,r1,p1,_⟩:=I.tuple ha
  obtain ⟨its2,r2,p2,_⟩:=I.tuple hb
  have e1:=r1.length
  have e2:=r2.length
  refine SeqAt.eq_tupleAt (e:=e) p1 p2 (by omega) (els_eqAt I r1 r2 (by show X.A.units + 1 + _ < _; omega) h) (fin_bl I q ?_)
  rw [e1,e2]; simp
theorem op_neG {k:Nat} (hr:Room k X.A):OpR X (compareOp .NotEq) (gNe X.K):=by
 intro pins s σ H x y v u Q I rx ry h
 obtain ⟨b,t,q⟩:=h
 have hu:=hr.units
 cases t with
 | scal h=>exact op_ne pins s σ H x y v u Q I rx ry ⟨h,q⟩
 | lst e ha hb hl hn h =>
  cases rx; cases ry
  obtain ⟨its,r1,p1,_⟩:=I.list ha
  obtain ⟨its2,r2,p2,_⟩:=I.list hb
  have e1:=r1.length
  have e2:=r2.length
  refine PySem.EqBoolInt.of_rcne (SeqAt.RcNeAt.lists (e:=e) p1.isList p2.isList (by simp; omega) (by omega) (els_eqAt I r1 r2 (by show X.A.units + 1 + _ < _; omega) h)) (fin_bl I q ?_)
  rw [e1]; simp
 | lstN ha hb hl =>
  cases rx; cases ry
  obtain ⟨its,r1,p1,_⟩:=I.list ha
  obtain ⟨its2,r2,p2,_⟩:=I.list hb
  have e1:=r1.length
  have e2:=r2.length
  exact PySem.EqBoolInt.of_rcne (SeqAt.RcNeAt.lists_lengths p1.isList p2.isList (by simp; omega) (by omega)) (fin_bl I q rfl)
 | tup e ha hb hn h =>
  cases rx; cases ry
  obtain ⟨its,r1,p1,_⟩:=I.tuple ha
  obtain ⟨its2,r2,p2,_⟩:=I.tuple hb
  have e1:=r1.length
  have e2:=r2.length
  refine PySem.EqBoolInt.of_rcne (SeqAt.RcNeAt.tuples (e:=e) p1 p2 (by omega) (els_eqAt I r1 r2 (by show X.A.units + 1 + _ < _; omega) h)) (fin_bl I q ?_)
  rw [e1,e2]; simp
theorem mem_rel {xs:List V} {us:List Value} (r:Vals xs us):∀ u ∈ us,∃ x ∈ xs,RelV x u:=by
 unfold Vals at r
 induction r with
 | nil=>intro u hu; exact nomatch hu
 | cons h t ih =>
  intro u hu
  rcases List.mem_cons.mp hu with z | z
  ·subst z; exact ⟨_,List.mem_cons_self,h⟩
  ·obtain ⟨x,hx,rx⟩:=ih u z
   exact ⟨x,List.mem_cons_of_mem _ hx,rx⟩
end
end L2
namespace L2
open PySem PySem.Spec PyProof.Rows
inductive Dat where
 | non | bl (b:Bool) | int (i:Int) | str (x:Str) | tup (ds:List Dat) | lst (ds:List Dat)
inductive Deep (H:Hp):Nat → V → Dat → Prop where
 | non {n:Nat}:Deep H n .non .non
 | bl {n:Nat} {b:Bool}:Deep H n (.bl b) (.bl b)
 | int {n:Nat} {i:Int}:Deep H n (.int i) (.int i)
 | str {n:Nat} {x:Str}:Deep H n (.str x) (.str x)
 | tup {n:Nat} {a:Addr} {xs:List V} {ds:List Dat} (h:H a = some (.tup xs)) (hz:xs.length ≤ sizeLine) (hl:xs.length = ds.length) (k:∀ (j:Nat) x d,xs[j]? = some x → ds[j]? = some d → Deep H n x d):Deep H (n + 1) (.ref a) (.tup ds)
 | lst {n:Nat} {a:Addr} {xs:List V} {ds:List Dat} (h:H a = some (.lst xs)) (hz:xs.length ≤ sizeLine) (hl:xs.length = ds.length) (k:∀ (j:Nat) x d,xs[j]? = some x → ds[j]? = some d → Deep H n x d):Deep H (n + 1) (.ref a) (.lst ds)
theorem Deep.mono {H H':Hp} {n:Nat} {x:V} {d:Dat} (h:Deep H n x d) (s:Same H H'):Deep H' n x d:=by
 induction h with
 | non=>exact .non
 | bl=>exact .bl
 | int=>exact .int
 | str=>exact .str
 | tup h hz hl k ih=>exact .tup (s _ _ h) hz hl ih
 | lst h hz hl k ih=>exact .lst (s _ _ h) hz hl ih
def spSo:Nat → Sp
 | 0=>fun _ _ _ _=>False
 | n + 1=>fun vs H Q _=>∃ x y d,vs = [x,y] ∧ Deep H n x d ∧ Deep H n y d ∧ ∀ H',Same H H' → Q (.bl true) H'
end L2
namespace L2
open PySem PySem.Spec PyProof.Rows
end L2
namespace L2
open PySem PySem.Spec PyProof.Rows
section
variable {P:Program} {w:World} {K:PySem.W.Frag} {mg:Str → Option Value} {base:Heap} {C:Addr}
end
section
variable {X:Cx}
end
section
variable {β:Type}
end
end L2
namespace L2
open PySem PySem.Spec PyProof.Rows
def capsB (outer names:List (Str × NameKind)) (N:List Str) (fr:List Nat):Bool :=
 (fr.all fun j=>match N[j]? with | some x=>(outer.lookup x == some .cell || outer.lookup x == some .free) && names.lookup x == some .free | none=>false) &&
 names.all fun p=>p.2 != .free || (outer.lookup p.1 == some .cell || outer.lookup p.1 == some .free)
theorem caps_of {X:Cx} {scope:Scope} {fr:List Nat} (h:capsB X.env.scope.names scope.names X.N fr = true):Caps X scope fr:=by
 unfold capsB at h
 rw [Bool.and_eq_true] at h
 obtain ⟨h1,h2⟩:=h
 refine ⟨fun j hj=>?_,fun x hx=>?_⟩
 ·have:=List.all_eq_true.mp h1 j hj
  cases e:X.N[j]? with
  | none=>rw [e] at this; cases this
  | some x =>
   rw [e] at this
   simp only [Bool.and_eq_true,Bool.or_eq_true,beq_iff_eq] at this
   exact ⟨x,rfl,this.1,this.2⟩
 ·have:=List.all_eq_true.mp h2 (x,.free) hx
  simpa using this
def cscB (scope:Scope):Bool:=scope.kind == .function && (scope.names.all fun p=>p.2 != .cell) && scope.names.all fun p=>p.2 != .local || scope.names.lookup p.1 == some .local
theorem csc_of {scope:Scope} (h:cscB scope = true):CScope scope:=by
 unfold cscB at h
 simp only [Bool.and_eq_true,beq_iff_eq,List.all_eq_true] at h
 obtain ⟨⟨h1,h2⟩,h3⟩:=h
 refine ⟨h1,fun x hx=>?_,fun x hx e=>?_⟩
 ·have:=h2 x hx; simpa using this
 ·have:=h3 x hx
  simp only [Bool.or_eq_true,beq_iff_eq,bne_iff_ne] at this
  rcases this with z | z
  ·exact absurd e z
  ·exact z
def ndB:List Str → Bool
 | []=>true
 | x :: r=>!r.contains x && ndB r
theorem nd_of:∀ {l:List Str},ndB l = true → l.Nodup
 | [],_=>.nil
 | x :: r,h=>by
  unfold ndB at h
  rw [Bool.and_eq_true] at h
  refine List.nodup_cons.mpr ⟨fun z=>?_,nd_of h.2⟩
  have:=h.1
  simp [z] at this
theorem block_mk {X:Cx} {scope:Scope} {tgs:List Str} {fr:List Nat} {tg elt:Expr} {ifs:List Expr} {g:TG} {tt:TTo} {te:TE} (tgt:∀ C s₀ H₀ fp,PG (cxComp X scope C (nmC X tgs fr) s₀ H₀ fp) tg g)
  (ift:∀ C s₀ H₀ fp,PIfs (cxComp X scope C (nmC X tgs fr) s₀ H₀ fp) ifs tt) (el:∀ C s₀ H₀ fp,PE (cxComp X scope C (nmC X tgs fr) s₀ H₀ fp) elt te)
  (h1:cscB scope = true:=by rfl) (h2:capsB X.env.scope.names scope.names X.N fr = true:=by rfl) (hc:X.calm = true:=by rfl):Block X scope tgs fr tg elt ifs g tt te :=
 ⟨csc_of h1,caps_of h2,hc,tgt,ift,el⟩
theorem pg_nameC {X:Cx} (i:Nat) {x:Str} {pos:Pos} (hN:ndB X.N = true:=by rfl) (hi:X.N[i]? = some x:=by rfl) (hx:Loc X.env.scope x:=by first | exact Or.inl rfl | exact Or.inr rfl)
  (hf:X.fn x = true ∨ X.env.scope.names.lookup x = some .local:=by first | exact .inr rfl | exact .inl rfl | assumption):PG X (.Name x pos) (gName i):=pg_name (nd_of hN) hi hx hf
end L2
namespace L2
open PySem PySem.Spec PyProof.Rows
def NextW (n i:Nat) (Pv:Nat → List V → Hp → Prop) (ys:List V) (H:Hp):Prop:=∃ m',m' < n - i ∧ m' = n - (i + 1) ∧ i + 1 ≤ n ∧ Pv (i + 1) ys H
theorem nextW {n i:Nat} {Pv:Nat → List V → Hp → Prop} {ys:List V} {H:Hp} (hi:i < n) (p:Pv (i + 1) ys H):NextW n i Pv ys H:=⟨n - (i + 1),by omega,rfl,hi,p⟩
theorem comp_list {K:PySem.W.Frag} {a D:Addr} {xs:List V} {k:Nat} {fr:List Nat} {g:TG} {tt:TTo} {te:TE} {σ:St} {H:Hp} {R:Hp → Prop} (Pv:Nat → List V → Hp → Prop) (h0:Pv 0 [] (upd H D (.lst []))) (hl:∀ i ys H,i ≤ xs.length → Pv i ys H → SqL K H a xs)
  (hs:∀ i x ys H,xs[i]? = some x → i < xs.length → Pv i ys H → g x (stC k fr σ) H fun σ2 H2=>Wk (stC k fr σ) σ2 ∧ tIfs tt σ2 H2 fun c H3 =>
   if c = true then te σ2 H3 fun v H4=>H4 D = some (.lst ys) ∧ ys.length < sizeLine ∧ NextW xs.length i Pv (ys ++ [v]) (upd H4 D (.lst (ys ++ [v]))) else NextW xs.length i Pv ys H3)
  (hd:∀ ys H,Pv xs.length ys H → R H) :
  ∃ W:Nat → Nat → List V → Hp → Prop,(∃ m,W 0 m [] (upd H D (.lst []))) ∧ ∀ i m ys H,W i m ys H → ((Itl K a).stop i H ∧ R H) ∨ ((Itl K a).go i H ∧ ∀ x H',(Itl K a).yld i H x H' → g x (stC k fr σ) H' fun σ2 H2=>Wk (stC k fr σ) σ2 ∧ tIfs tt σ2 H2 fun c H3 =>
   if c = true then te σ2 H3 fun v H4=>H4 D = some (.lst ys) ∧ ys.length < sizeLine ∧ ∃ m',m' < m ∧ W (i + 1) m' (ys ++ [v]) (upd H4 D (.lst (ys ++ [v]))) else ∃ m',m' < m ∧ W (i + 1) m' ys H3):=by
 refine ⟨fun i m ys H=>m = xs.length - i ∧ i ≤ xs.length ∧ Pv i ys H,⟨xs.length,by simp,Nat.zero_le _,h0⟩,?_⟩
 rintro i m ys H ⟨rfl,hi,p⟩
 have q:=hl i ys H hi p
 by_cases hlt:i < xs.length
 ·refine .inr ⟨⟨xs,xs[i],q,by simp [hlt]⟩,fun x H' y=>?_⟩
  obtain ⟨e,y⟩:=y
  subst e
  exact hs i x ys _ (y xs q) hlt p
 ·have e:i = xs.length:=by omega
  subst e
  exact .inl ⟨⟨xs,q,Nat.le_refl _⟩,hd ys H p⟩
end L2
namespace L2
open PySem PySem.Spec PyProof.Rows
section
variable {X:Cx} {pins:List (Addr × Obj)} {σ:St} {H:Hp} {s:Shared}
theorem kv_of {k:Key} {key:Value} (h:keyIs k key = true):RelV (kV k) key:=by
 rcases keyIs_shape h with ⟨i,t,rfl,rfl⟩ | ⟨x,t,rfl,rfl⟩
 ·exact ⟨t,rfl⟩
 ·exact ⟨t,rfl⟩
inductive LOf (K:PySem.W.Frag) (H:Hp) (p:Addr):List V → Prop where
 | lst {ys:List V} (h:SqL K H p ys):LOf K H p ys
 | tup {ys:List V} (h:SqT K H p ys):LOf K H p ys
 | key {kvs:List (Key × V)} (h:Rd H p (.dK kvs)):LOf K H p (kvs.map fun q=>kV q.1)
theorem call_listH (hc:X.calm = true:=by rfl):CallR X (.type "list") (fun xs H Q=>∃ p ys,xs = [.ref p] ∧ LOf X.K H p ys ∧ ∀ l,H l = none → Q (.ref l) (upd H l (.lst ys))):=by
 intro pins s σ H xs us Q I r h
 obtain ⟨p,ys,rfl,lo,q⟩:=h
 cases lo with
 | lst z=>exact call_list_of pins s σ H _ us Q I r ⟨p,ys,rfl,.inl z,q⟩
 | tup z=>exact call_list_of pins s σ H _ us Q I r ⟨p,ys,rfl,.inr z,q⟩
 | @key kvs z =>
  obtain ⟨u,rfl,ru⟩:=vals1 r
  cases ru
  obtain ⟨hz,lo,vs,rel,dd⟩:=dk_rd I.hok z
  obtain ⟨ep,da⟩:=dd.dictAt
  have hl:kvs.length = vs.length:=Paired.length rel
  refine PySem.W.kdl_call (PySem.W.kdl_dict (knd:=mixKind X.prog X.w) (kvs:=vs) (ep:=ep) lo) (I.ok.hd hc) da (by omega) fun h' tk acc c k hL hacc=>?_
  have hn:=I.hok.fresh (Nat.le_refl s.heap.objs.size)
  refine ⟨.ref s.heap.objs.size,_,I.laid (t':=tk) (o:=.lst (kvs.map fun q=>kV q.1)) k (Nat.le_refl _) ⟨by rw [List.length_map]; exact hz,acc.toList,c,?_,by simpa using hL⟩,rfl,q _ hn⟩
  have ha:acc.toList.length = vs.length:=by rw [Array.length_toList]; exact hacc.1
  refine paired_of (by rw [List.length_map]; omega) fun j a b h1 h2=>?_
  obtain ⟨kk,xx,h3,h4⟩:=hacc.2 j b (by rw [← Array.getElem?_toList]; exact h2)
  rw [List.getElem?_map] at h1
  cases e:kvs[j]? with
  | none=>rw [e] at h1; cases h1
  | some pr =>
   rw [e] at h1; cases h1
   have:=paired_get (show Paired _ _ _ from rel) e h3
   show RelV (kV pr.1) b
   rw [show pr.1 = kk from this.1]
   exact kv_of h4
end
end L2
namespace L2
open PySem PySem.Spec PyProof.Rows
section
variable {prog:Program} {w:World} {A:Around} {E:Value → Shared → Prop} {s:Shared}
end
end L2
namespace L2
open PySem PySem.Spec PyProof.Rows
section
variable {X:Cx}
end
end L2
namespace L2
open PySem PySem.Spec PyProof.Rows
structure Psd (F R:List Addr) (h h':Heap):Prop where
 kp:∀ b o,h.get? b = some o → b ∉ R → b ∉ F → h'.get? b = some o
 sl:∀ b o,h.get? b = some o → b ∉ R → ∃ z,h'.get? b = some { o with slots:=z }
theorem Psd.refl {F R:List Addr} {h:Heap}:Psd F R h h:=⟨fun _ _ e _ _=>e,fun _ o e _=>⟨o.slots,e⟩⟩
theorem Psd.trans {F R:List Addr} {h1 h2 h3:Heap} (x:Psd F R h1 h2) (y:Psd F R h2 h3):Psd F R h1 h3 :=
 ⟨fun b o e r f=>y.kp b o (x.kp b o e r f) r f,fun b o e r=>let ⟨_,e1⟩:=x.sl b o e r; let ⟨z,e2⟩:=y.sl b _ e1 r; ⟨z,e2⟩⟩
theorem Psd.mono {F F' R R':List Addr} {h h':Heap} (x:Psd F R h h') (hF:∀ b ∈ F,b ∈ F') (hR:∀ b ∈ R,b ∈ R'):Psd F' R' h h' :=
 ⟨fun b o e r f=>x.kp b o e (fun z=>r (hR b z)) (fun z=>f (hF b z)),fun b o e r=>x.sl b o e fun z=>r (hR b z)⟩
def Xc (h:Heap) (e T:Addr) (cls fl:Value):Prop:=∃ oe vs oT ts,h.get? e = some oe ∧ (oe.cls = cls ∧ oe.dict = none) ∧ oe.data = .fields vs ∧ vs[1]? = some (.ref T) ∧ T ≠ e ∧ h.get? T = some oT ∧ oT.data = .fields ts ∧ ts[3]? = some fl
theorem Xc.cls {h:Heap} {e T:Addr} {cls fl:Value} (x:Xc h e T cls fl):∃ oe,h.get? e = some oe ∧ oe.cls = cls:=let ⟨oe,_,_,_,a,b,_⟩:=x; ⟨oe,a,b.1⟩
theorem dict_mapF (f:Array Value → Array Value) (o:Obj):(Obj.mapFields f o).dict = o.dict:=by
 unfold Obj.mapFields
 split <;> rfl
abbrev trc (hd:Value) (L:Addr) (pl:List Value):Obj:={ cls:=.type "traceback",dict:=none,data:=.fields ([hd,.ref L,.none,rawInt L,.none] ++ (if pl.isEmpty then List.replicate 6 Value.none else pl)).toArray }
section
variable {M:Model} {A:Around} {E:Value → Shared → Prop} {s:Shared}
theorem x_entry {base:Heap} {env:Env} {outer:List Env} {L e:Addr} {oe:Obj} {vs:Array Value} {hd:Value} {nx:Bool} {Q:Unit → Shared → Prop}
  (hA:A.frames = some (env :: outer)) (fr:s.heap.FunFrames base (env :: outer)) (hL:env.frame = some L) (he:s.heap.get? e = some oe) (hv:oe.data = .fields vs) (hdn:oe.dict = none) (h2:1 < vs.size)
  (q:∀ h' T,s.heap.objs.size ≤ T → Xc h' e T oe.cls (rawInt L) → Psd (frs (env :: outer)) [e] s.heap h' → Q () { s with heap:=h' }) :
  wpAny M A (do let a ← frameOf env; let p ← entryPlaceOf L nx; let b ← EntryCells.newEntry hd a .none (rawInt L) .none p; setField (.ref e) 1 b) Q E s:=by
 have nf:e ∉ frs (env :: outer):=fun m=>by
  obtain ⟨_,o,ho,hn⟩:=fr.mem m
  rw [he] at ho; cases ho; exact hn vs hv
 refine wpAny_bind (wpAny_frameOf_fun hA fr hL fun g hg=>?_)
 refine wpAny_bind (wpAny_entryPlaceOf fun p hp=>?_)
 unfold EntryCells.newEntry newFields
 refine wpAny_bind (wpAny_newObj_type ?_ (hp.sizeOk5 _ _ _ _ _))
 have e1:g.get? e = some oe:=(hg.2.1 e nf).trans he
 have e2:=Heap.get?_push_of_some (h:=g) (trc hd L p) e1
 have te:g.objs.size ≠ e:=Nat.ne_of_gt (Heap.lt_size e1)
 have d3:=Obj.data_mapFields hv (·.setIfInBounds 1 (Value.ref g.objs.size))
 refine wpAny_setField e2 hv h2 (q _ g.objs.size (Nat.le_of_eq hg.1.symm) ?_ ⟨fun b o eb hb hf=>?_,fun b o eb hb=>?_⟩)
 ·refine ⟨_,_,_,_,Heap.get?_update_self _ e2 (Obj.isFreed_of_fields d3),⟨Obj.cls_mapFields _ _,(dict_mapF _ _).trans hdn⟩,d3,by simp [h2],te,(Heap.get?_update_other (g.push (trc hd L p)) _ (Ne.symm te)).trans (Heap.get?_push_size g rfl),rfl,?_⟩
  first | (simp; done) | (rcases hp with rfl | ⟨_,_,_,_,_,_,_,rfl⟩ <;> simp)
 ·have hbe:b ≠ e:=fun z=>hb (by simp [z])
  rw [Heap.get?_update_other _ _ (Ne.symm hbe)]
  exact Heap.get?_push_of_some _ ((hg.2.1 b hf).trans eb)
 ·have hbe:b ≠ e:=fun z=>hb (by simp [z])
  obtain ⟨z,ez⟩:=hg.2.2 b o eb
  exact ⟨z,by rw [Heap.get?_update_other _ _ (Ne.symm hbe)]; exact Heap.get?_push_of_some _ ez⟩
theorem x_flag {e T:Addr} {cls fl:Value} {Q:Unit → Shared → Prop} (x:Xc s.heap e T cls fl) (q:∀ h',Xc h' e T cls .none → Psd [] [T] s.heap h' → Q () { s with heap:=h' }):wpAny M A (setFlight (.ref e) none) Q E s:=by
 obtain ⟨oe,vs,oT,ts,he,hc,hd,h1,hT,ht,dt,h3⟩:=x
 have n3:3 < ts.size:=(Array.getElem?_eq_some_iff.mp h3).1
 have o:∀ b,b ≠ T → (s.heap.update T (Obj.mapFields (·.setIfInBounds 3 .none))).get? b = s.heap.get? b:=fun b hb=>Heap.get?_update_other _ _ (Ne.symm hb)
 refine wpAny_setFlight_none he hd h1 ht dt n3 (q _ ⟨oe,vs,_,_,(o e (Ne.symm hT)).trans he,hc,hd,h1,hT,Heap.get?_update_self _ ht (Obj.isFreed_of_fields (Obj.data_mapFields dt _)),Obj.data_mapFields dt _,by simp [n3]⟩ ⟨fun b u eb hb _=>?_,fun b u eb hb=>?_⟩)
 ·exact (o b fun z=>hb (by simp [z])).trans eb
 ·exact ⟨u.slots,(o b fun z=>hb (by simp [z])).trans eb⟩
theorem x_note1 {base:Heap} {env:Env} {outer:List Env} {L e:Addr} {oe:Obj} {vs:Array Value} {Q:Unit → Shared → Prop} (hA:A.frames = some (env :: outer)) (fr:s.heap.FunFrames base (env :: outer)) (hL:env.frame = some L)
  (he:s.heap.get? e = some oe) (hv:oe.data = .fields vs) (hdn:oe.dict = none) (h1:vs[1]? = some .none) (q:∀ h' T,s.heap.objs.size ≤ T → Xc h' e T oe.cls (rawInt L) → Psd (frs (env :: outer)) [e] s.heap h' → Q () { s with heap:=h' }) :
  wpAny M A (noteFrame (.ref e) env) Q E s:=by
 unfold noteFrame
 simp only [hL]
 refine wpAny_bind (wpAny_field he hv h1 ?_)
 rw [if_neg (by decide)]
 exact x_entry hA fr hL he hv hdn (Array.getElem?_eq_some_iff.mp h1).1 q
theorem x_note {base:Heap} {env:Env} {outer:List Env} {L e T:Addr} {cls:Value} {Q:Unit → Shared → Prop} (hA:A.frames = some (env :: outer)) (fr:s.heap.FunFrames base (env :: outer)) (hL:env.frame = some L)
  (x:Xc s.heap e T cls .none) (q:∀ h' T',s.heap.objs.size ≤ T' → Xc h' e T' cls (rawInt L) → Psd (frs (env :: outer)) [e,T] s.heap h' → Q () { s with heap:=h' }):wpAny M A (noteFrame (.ref e) env) Q E s:=by
 obtain ⟨oe,vs,oT,ts,he,hc,hd,h1,hT,ht,dt,h3⟩:=x
 obtain ⟨rfl,hdn⟩:=hc
 unfold noteFrame
 simp only [hL]
 refine wpAny_bind (wpAny_field he hd h1 ?_)
 rw [if_pos (show (Value.ref T != Value.none) = true by simp)]
 refine wpAny_bind (wpAny_field ht dt h3 ?_)
 rw [if_neg (show ¬ (Value.none == rawInt L) = true by simp [rawInt])]
 refine wpAny_bind (wpAny_setField ht dt (Array.getElem?_eq_some_iff.mp h3).1 ?_)
 have o:∀ b,b ≠ T → (s.heap.update T (Obj.mapFields (·.setIfInBounds 3 Value.none))).get? b = s.heap.get? b:=fun b hb=>Heap.get?_update_other _ _ (Ne.symm hb)
 have p:Psd (frs (env :: outer)) [e,T] s.heap (s.heap.update T (Obj.mapFields (·.setIfInBounds 3 Value.none))) :=
  ⟨fun b u eb hb _=>(o b fun z=>hb (by simp [z])).trans eb,fun b u eb hb=>⟨u.slots,(o b fun z=>hb (by simp [z])).trans eb⟩⟩
 refine x_entry hA (fr.of_keeps fun b u eb hn=>⟨u,(o b fun z=>?_).trans eb,rfl⟩) hL ((o e (Ne.symm hT)).trans he) hd hdn (Array.getElem?_eq_some_iff.mp h1).1 fun h' T' hs x' p'=>q h' T' ?_ x' (p.trans (p'.mono (fun _ z=>z) fun b z=>by simp at z; simp [z]))
 ·rw [z,ht] at eb; cases eb; exact hn ts dt
 ·have:(s.heap.update T (Obj.mapFields (·.setIfInBounds 3 Value.none))).objs.size = s.heap.objs.size:=Heap.size_after_update ..
  exact this ▸ hs
end
end L2
namespace L2
open PySem PySem.Spec PyProof.Rows
theorem ObjOk.here {P:Program} {w:World} {H:Hp} {h:Heap} {a:Addr} {o:HO} (x:ObjOk P w H h a o):∃ u,h.get? a = some u:=by
 cases o with
 | lst xs=>obtain ⟨_,_,_,_,e⟩:=x; exact ⟨_,e⟩
 | tup xs=>obtain ⟨_,_,_,ob,e,_⟩:=x; exact ⟨_,e⟩
 | dK kvs=>obtain ⟨_,_,_,_,o,_,_,e,_⟩:=x; exact ⟨_,e⟩
 | dT kvs=>obtain ⟨_,_,_,_,o,_,_,e,_⟩:=x; exact ⟨_,e⟩
 | set S n=>obtain ⟨o,_,_,_,e,_⟩:=x; exact ⟨_,e⟩
 | ins C dx fs=>obtain ⟨_,_,_,e,_⟩:=x; exact ⟨_,e⟩
 | own y=>exact x
 | xd fs=>obtain ⟨_,⟨_,_,_,e,_⟩,_⟩:=x; exact ⟨_,e⟩
 | rng lo hi=>obtain ⟨_,_,_,e⟩:=x; exact ⟨_,e⟩
 | frz ob u=>exact ⟨_,x.1⟩
 | tbl ps=>exact ⟨_,x⟩
 | met f y=>exact ⟨_,x⟩
 | ext φ=>exact x.2.1
theorem HOk.no {P:Program} {w:World} {H:Hp} {h:Heap} {a:Addr} (x:HOk P w H h) (n:h.get? a = none):H a = none:=by
 cases e:H a with
 | none=>rfl
 | some o=>obtain ⟨u,q⟩:=(x a o e).here; rw [n] at q; cases q
section
variable {X:Cx} {pins:List (Addr × Obj)} {σ:St} {H:Hp} {s:Shared} {h':Heap}
def Alien (X:Cx) (pins:List (Addr × Obj)) (H:Hp) (r:Addr):Prop:=H r = none ∧ X.s₀.heap.get? r = none ∧ r ≠ X.env.locals ∧ (∀ x c,X.env.cells.lookup x = some c → c ≠ r) ∧ ∀ p ∈ X.pn ++ pins,p.1 ≠ r
theorem Inv.alien (I:Inv X pins σ H s) (hx:X.ex = []) {r:Addr} (n:s.heap.get? r = none) {H':Hp} (z:H' r = none):Alien X pins H' r:=by
 refine ⟨z,?_,fun e=>?_,fun x c e w=>?_,fun p hp w=>?_⟩
 ·cases q:X.s₀.heap.get? r with
  | none=>rfl
  | some o =>
   obtain ⟨o',e⟩:=I.base.there r o q (by rw [hx]; simp)
   rw [n] at e; cases e
 ·obtain ⟨m,⟨o,_,_,ho,_⟩,_⟩:=I.loc
  rw [← e,n] at ho; cases ho
 ·obtain ⟨v,o,ho,_⟩:=I.cell x c e
  rw [w,n] at ho; cases ho
 ·have:=(I.pin p hp).1
  rw [w,n] at this; cases this
theorem Inv.psd {R:List Addr} (I:Inv X pins σ H s) (p:Psd (frs X.stack) R s.heap h') (hR:∀ r ∈ R,Alien X pins H r):Inv X pins σ H { s with heap:=h' }:=by
 have kp:∀ b o,s.heap.get? b = some o → b ∉ R → b ≠ X.env.locals → b ∉ X.fs → h'.get? b = some o:=fun b o e r l f=>p.kp b o e r fun z=>(List.mem_cons.mp (I.stkSub b z)).elim l f
 have neR:∀ b o,X.s₀.heap.get? b = some o → b ∉ R:=fun b o e z=>by rw [(hR b z).2.1] at e; cases e
 have neL:∀ b o,X.s₀.heap.get? b = some o → b ≠ X.env.locals:=fun b o e=>Nat.ne_of_lt (Nat.lt_of_lt_of_le (Heap.lt_size e) I.ok.above)
 have tr:∀ b u,H b = some u → b ∉ R ∧ b ∉ frs X.stack:=fun b u e=>⟨(fun z=>by rw [(hR b z).1] at e; cases e),(fun z=>by rw [I.stkFree b z] at e; cases e)⟩
 have hok:HOk X.prog X.w H h':=fun a o e=>(I.hok a o e).stay (fun b u hb q=>by
  have hb':∃ u,H b = some u:=by
   rcases hb with rfl | z
   ·exact ⟨_,e⟩
   ·exact ⟨_,z⟩
  obtain ⟨u',hu⟩:=hb'
  exact p.kp b u q (tr b u' hu).1 (tr b u' hu).2) (fun _ z=>z) fun _ _ z=>z
 refine ⟨I.ok,I.os,I.bare,⟨fun b o e n hb hx=>?_,fun b o e n hb hx=>?_,I.base.free,fun b o e hx=>?_,I.base.tups,I.base.frzs,I.base.tbls⟩,?_,fun x c e=>?_,I.free,I.freeC,fun q hq=>?_,hok,I.len⟩
 ·exact kp b o (I.base.keep b o e n hb hx) (neR b o e) (neL b o e) hb
 ·obtain ⟨z,e1⟩:=I.base.slot b o e n hb hx
  obtain ⟨z',e2⟩:=p.sl b _ e1 (neR b o e)
  exact ⟨z',e2⟩
 ·obtain ⟨o',e1⟩:=I.base.there b o e hx
  obtain ⟨z,e2⟩:=p.sl b o' e1 (neR b o e)
  exact ⟨_,e2⟩
 ·obtain ⟨m,hn,hl⟩:=I.loc
  refine ⟨m,?_,fun i x v e1 e2 e3=>?_⟩
  ·obtain ⟨o,es,ep,ho,r⟩:=hn
   obtain ⟨z,e⟩:=p.sl _ o ho fun w=>(hR _ w).2.2.1 rfl
   exact ⟨_,es,ep,e,r⟩
  ·obtain ⟨u,r,l⟩:=hl i x v e1 e2 e3
   refine ⟨u,r,?_⟩
   rcases l with l | ⟨k,c,e,o,ho,hd⟩
   ·exact .inl l
   ·obtain ⟨z,e'⟩:=p.sl c o ho fun w=>(hR c w).2.2.2.1 x c e rfl
    exact .inr ⟨k,c,e,_,e',hd⟩
 ·obtain ⟨v,o,ho,hd⟩:=I.cell x c e
  obtain ⟨z,e'⟩:=p.sl c o ho fun w=>(hR c w).2.2.2.1 x c e rfl
  exact ⟨v,_,e',hd⟩
 ·obtain ⟨e,n,ne,nf,d⟩:=I.pin q hq
  exact ⟨kp q.1 q.2 e (fun w=>(hR _ w).2.2.2.2 q hq rfl) ne nf,n,ne,nf,d⟩
end
theorem exc_own {K:PySem.W.Frag} {h:Heap} {mg:Str → Option Value} {x:Str} {C:Addr} {bm:List Value} {newId:String} (X:K.In h) (e:mg x = some (.ref C)) (q:PySem.W.excIn K C bm newId = true):OwnCls x C bm newId mg h:=by
 refine ⟨e,?_⟩
 unfold PySem.W.excIn at q
 split at q
 case h_1 dd cd sl ho =>
  split at q
  case h_1 C1 b1 j0 j1 j2 j3 n j5 hm hs =>
   simp only [Bool.and_eq_true,beq_iff_eq,Bool.not_eq_true'] at q
   obtain ⟨⟨⟨⟨⟨rfl,rfl⟩,hdel⟩,ht⟩,hok⟩,hni⟩:=q
   obtain ⟨nm,bs,mro,ns,qn,hd,sn,sub,ab,col,del⟩:=cd
   dsimp only at hm hdel hok hni
   subst hm hdel
   obtain ⟨l⟩:=sl
   have hl:l = [j0,j1,j2,j3,some (.builtin n),j5]:=hs
   subst hl
   exact ⟨b1,ns,nm,qn,bs,hd,sn,sub,ab,col,dd,j0,j1,j2,j3,j5,_,X _ _ ho,.of_isNs (PySem.W.isNs_of_in X hok),PySem.W.nsMap_none_of_in X hok hni,PySem.W.tail_of_in X ht⟩
  case h_2=>cases q
 case h_2=>cases q
def CX1 (P:Program) (w:World):CXT:=fun outer H s E e s'=>∃ ea T cls H',e = .ref ea ∧ s'.os = s.os ∧ AllBare s'.gens ∧ Un (frs outer) [] H H' s.heap s'.heap ∧ HOk P w H' s'.heap ∧
 s.heap.get? ea = none ∧ s.heap.get? T = none ∧ H' ea = none ∧ H' T = none ∧ Xc s'.heap ea T cls .none ∧ E cls none H'
section
variable {X:Cx} {pins:List (Addr × Obj)} {σ:St} {H:Hp} {s:Shared}
theorem x_left {E:XK} {ea T:Addr} {cls:Value} (I:Inv X pins σ H s) (hx:X.ex = []) (hs:X.stack = X.env :: X.outer) (ha:Alien X pins H ea) (hT:Alien X pins H T) (x:Xc s.heap ea T cls .none) (hE:E cls none H) :
  CX1 X.prog X.w X.outer X.H₀ X.s₀ E (.ref ea) s:=by
 refine ⟨ea,T,cls,H,rfl,I.os,I.bare,?_,I.hok,ha.2.1,hT.2.1,ha.1,hT.1,x,hE⟩
 have:=I.base
 rw [hx] at this
 exact this
def tRaise (C:Addr) (E:XK) (t:TA):TS:=fun _ σ H=>t σ H fun vs H1=>vs.length ≤ sizeLine ∧ E (.ref C) none H1
theorem ps_raise {E:XK} {x:Str} {C:Addr} {B newId initId:String} {bm:List Value} {e₀:Expr} {es:List Expr} {t:TA} {np cpos pos:Pos} (hm:X.mg x = some (.ref C)) (hq:PySem.W.excIn X.K C bm newId = true) (FB:ExcBaseFacts B newId initId bm) (hc:X.calm = true) (hg:Gl X x) (ha:PA X (e₀ :: es) t)
  (hx:X.ex = []:=by rfl) (hs:X.stack = X.env :: X.outer:=by rfl) (hf:X.env.frame = some X.env.locals:=by rfl)
  (he:∀ e s',wpAny (model X.prog X.w) X.A (leaving X.env e) (fun _ s''=>CX1 X.prog X.w X.outer X.H₀ X.s₀ E e s'') (fun e' s''=>CX1 X.prog X.w X.outer X.H₀ X.s₀ E e' s'') s' → X.xe e s':=by exact fun _ _ h=>h)
  (hst:starEach (e₀ :: es) X.env = (false,eval e₀ X.env) :: starEach es X.env:=by rfl) (hpl:(backTo cpos (starEach es X.env)).any (·.1) = false:=by rfl) (hd:(x == ("__debug__":Str)) = false:=by decide) :
  PS X (.Raise (some (.Call (.Name x np) (e₀ :: es) [] cpos)) none pos) (tRaise C E t):=by
 intro pins s σ H D I h
 have O:=exc_own I.ok.mod.kin hm hq
 obtain ⟨tl,N,nm,q,bs,hdct,sn,sub,ab,col,dd,k0,k1,k2,k3,k5,mN,hC,hN,hni,T⟩:=O.obj
 refine wpAny_Raise_call_subT (C:=C) (nm:=nm) (q:=q) (N:=N) (bs:=bs) (bm:=tl) (hdct:=hdct) (sn:=sn) (sub:=sub) (ab:=ab) (col:=col) (dd:=dd) (k0:=k0) (k1:=k1) (k2:=k2) (k3:=k3) (k5:=k5)
  FB (mN:=mN) (T.hasType FB.hasBase) (I.ok.hd hc) (by rw [hst]; show (false || (backTo cpos (starEach es X.env)).any (·.1)) = false; rw [hpl]; rfl) hni (ld_glob I hg O.bound ⟨rfl,?_⟩ hd)
 have ha':=ha cpos pins s σ H _ I h
 rw [hst] at ha' ⊢
 refine Calls.evalArgs_plain (thn ha' fun us s1 ⟨vs,H1,I1,r,hz,hE⟩=>⟨rfl,by rw [← Paired.length r]; exact hz,I1.bk _ _ hC,hN.keeps I1.bk,T.keeps I1.bk,fun h' e mx=>he _ _ ?_⟩)
 obtain ⟨t0,e1,_,_⟩:=mx.there
 have I2:Inv X pins σ H1 { s1 with heap:=h' }:=I1.kept (t':=s1.toks) mx.keeps
 have ae:Alien X pins H1 e:=I1.alien hx mx.new (I1.hok.no mx.new)
 unfold leaving
 have fr:X.A.frames = some (X.env :: X.outer):=by rw [I.ok.frames,hs]
 refine wpAny_bind (x_note1 (s:={ s1 with heap:=h' }) fr (by rw [← hs]; exact I2.stack) hf e1 rfl rfl rfl fun h1 T1 hT1 x1 p1=>?_)
 have I3:=I2.psd (by rw [hs]; exact p1) (fun r hr=>by simp at hr; rw [hr]; exact ae)
 have a1:Alien X pins H1 T1:=I2.alien hx (Heap.get?_none_of_le hT1) (I2.hok.fresh hT1)
 refine x_flag (s:={ s1 with heap:=h1 }) x1 fun h2 x2 p2=>?_
 have I4:=I3.psd (p2.mono (by simp) fun b z=>z) (fun r hr=>by simp at hr; rw [hr]; exact a1)
 exact x_left I4 hx hs ae a1 x2 hE
end
end L2
namespace L2
open PySem PySem.Spec PyProof.Rows
section
variable {X:Cx} {pins:List (Addr × Obj)} {σ:St} {H:Hp} {s:Shared}
theorem Inv.into (I:Inv X pins σ H s) (xe:Value → Shared → Prop):Inv { X with pn:=X.pn ++ pins,xe:=xe } [] σ H s :=
 ⟨⟨I.ok.mod,I.ok.kind,I.ok.glob,I.ok.blt,I.ok.above,I.ok.inj,I.ok.has,I.ok.cab,I.ok.hd,I.ok.frames,I.ok.stk,I.ok.exf,I.ok.bs,I.ok.bsz,I.ok.noex,I.ok.exfs,I.ok.funs,I.ok.frf⟩,I.os,I.bare,I.base,I.loc,I.cell,I.free,I.freeC,fun p hp=>I.pin p (by simpa using hp),I.hok,I.len⟩
theorem Inv.outof {pn pins':List (Addr × Obj)} {xe:Value → Shared → Prop} (hp:pn = X.pn ++ pins) (I:Inv { X with pn:=pn,xe:=xe } pins' σ H s):Inv X pins σ H s :=
 ⟨⟨I.ok.mod,I.ok.kind,I.ok.glob,I.ok.blt,I.ok.above,I.ok.inj,I.ok.has,I.ok.cab,I.ok.hd,I.ok.frames,I.ok.stk,I.ok.exf,I.ok.bs,I.ok.bsz,I.ok.noex,I.ok.exfs,I.ok.funs,I.ok.frf⟩,I.os,I.bare,I.base,I.loc,I.cell,I.free,I.freeC,fun p q=>I.pin p (List.mem_append_left _ (by show p ∈ pn; rw [hp]; exact q)),I.hok,I.len⟩
abbrev Cx.caught (X:Cx) (e:Addr):Cx:={ X with A:=X.A.mark (some (.ref e)),calm:=false,xe:=fun _ _=>False }
theorem Inv.catch (I:Inv X pins σ H s) (e:Addr):Inv (X.caught e) pins σ H s :=
 ⟨⟨I.ok.mod,I.ok.kind,I.ok.glob,I.ok.blt,I.ok.above,I.ok.inj,I.ok.has,I.ok.cab,(fun z=>nomatch z),I.ok.frames,I.ok.stk,I.ok.exf,I.ok.bs,I.ok.bsz,I.ok.noex,I.ok.exfs,I.ok.funs,I.ok.frf⟩,I.os,I.bare,I.base,I.loc,I.cell,I.free,I.freeC,I.pin,I.hok,I.len⟩
theorem Inv.uncatch {e:Addr} (hd:X.calm = true → X.A.handled = none) (hfr:X.A.frames = some X.stack) (I:Inv (X.caught e) pins σ H s):Inv X pins σ H s :=
 ⟨⟨I.ok.mod,I.ok.kind,I.ok.glob,I.ok.blt,I.ok.above,I.ok.inj,I.ok.has,I.ok.cab,hd,hfr,I.ok.stk,I.ok.exf,I.ok.bs,I.ok.bsz,I.ok.noex,I.ok.exfs,I.ok.funs,I.ok.frf⟩,I.os,I.bare,I.base,I.loc,I.cell,I.free,I.freeC,I.pin,I.hok,I.len⟩
end
section
variable {X:Cx}
def xCatch (C:Addr) (ts:TS) (D:Ends) (n:Nat):XK:=fun cls _ H=>cls = .ref C ∧ ∀ σ:St,σ.length = n → ts D σ H
def tTry (C:Addr) (tb:XK → TS) (ts:TS):TS:=fun D σ H=>tb (xCatch C ts D σ.length) D σ H
theorem ps_try {x:Str} {C:Addr} {newId:String} {bm:List Value} {body:List Stmt} {b₀:Stmt} {suite:List Stmt} {tb:XK → TS} {ts:TS} {np hp pos:Pos} (hm:X.mg x = some (.ref C)) (hq:PySem.W.excIn X.K C bm newId = true) (hbase:bm.contains (.type "BaseException") = true) (hg:Gl X x)
  (hb:∀ (pn:List (Addr × Obj)) (xe:Value → Shared → Prop) (E:XK),Passes (CX1 X.prog X.w) { X with pn:=pn,xe:=xe } E → PSs { X with pn:=pn,xe:=xe } body (tb E))
  (hh:∀ e,PSs (X.caught e) (b₀ :: suite) ts)
  (hx:X.ex = []:=by rfl) (hs:X.stack = X.env :: X.outer:=by rfl) (hf:X.env.frame = some X.env.locals:=by rfl) (hd:(x == ("__debug__":Str)) = false:=by decide) :
  PS X (.Try body [.ExceptHandler (some (.Name x np)) none (b₀ :: suite) hp] [] [] pos) (tTry C tb ts):=by
 intro pins s σ H D I hw
 have O:=exc_own I.ok.mod.kin hm hq
 refine wpAny_Try_except ?_
 generalize hxe:(fun (e:Value) (s₁:Shared)=>wpAny (model X.prog X.w) X.A (noteFrame e X.env) (fun _ s₂=>wpAny (model X.prog X.w) X.A (setFlight e none) (fun _ s₃=>wpAny (model X.prog X.w) X.A (handleBy e X.env [.ExceptHandler (some (.Name x np)) none (b₀ :: suite) hp]) (SP X pins D) X.xe s₃) X.xe s₂) X.xe s₁) = xe
 have P1:Passes (CX1 X.prog X.w) { X with pn:=X.pn ++ pins,xe:=xe } (xCatch C ts D σ.length):=by
  intro pins' σ' H1 s1 e s2 I1 hcx
  obtain ⟨ea,T,cls,H',rfl,os,bare,un,hok,n1,n2,z1,z2,x0,rfl,hE⟩:=hcx
  have I2:Inv X pins σ' H' s2:=Inv.outof rfl (I1.call' os un hok bare (fun b z=>nomatch z))
  have J1:Inv X pins σ' H1 s1:=Inv.outof rfl I1
  have ae:=J1.alien hx n1 z1
  have aT:=J1.alien hx n2 z2
  show xe (.ref ea) s2
  rw [← hxe]
  have fr:X.A.frames = some (X.env :: X.outer):=by rw [I.ok.frames,hs]
  refine x_note fr (by rw [← hs]; exact I2.stack) hf x0 fun h3 T3 hT3 x3 p3=>?_
  have I3:=I2.psd (by rw [hs]; exact p3) (fun r hr=>by simp at hr; rcases hr with rfl | rfl <;> assumption)
  have a3:Alien X pins H' T3:=I2.alien hx (Heap.get?_none_of_le hT3) (I2.hok.fresh hT3)
  refine x_flag (s:={ s2 with heap:=h3 }) x3 fun h4 x4 p4=>?_
  have I4:=I3.psd (p4.mono (by simp) fun b z=>z) (fun r hr=>by simp at hr; rw [hr]; exact a3)
  refine wpAny_handleBy_cons (codeAny_handlers_test (ld_glob (X:=X.caught ea) (I4.catch ea) hg O.bound ?_ hd)) (by intro z; cases z)
  obtain ⟨oe,he,hcls⟩:=x4.cls
  obtain ⟨tl,N,nm,q,bs,hdct,sn,sub,ab,col,dd,k0,k1,k2,k3,k5,mN,hC,hN,hni,TT⟩:=O.obj
  refine wpAny_excMatches_sub_self (I4.bk _ _ hC) he hcls (TT.hasType hbase) ?_
  refine codeAny_handlers_suite (x_flag (s:={ s2 with heap:=h4 }) x4 fun h5 x5 p5=>?_)
  have I5:=I4.psd (p5.mono (by simp) fun b z=>z) (fun r hr=>by simp at hr; rw [hr]; exact a3)
  refine wpAny_mono (hh ea pins { s2 with heap:=h5 } σ' H' D (I5.catch ea) (hE σ' (I2.len.trans I.len.symm))) (fun f s6 hq=>?_) (fun _ _ z=>z.elim)
  have un:∀ {σ6:St} {H6:Hp},Inv (X.caught ea) pins σ6 H6 s6 → Inv X pins σ6 H6 s6:=fun J=>J.uncatch I.ok.hd I.ok.frames
  cases f with
  | next=>obtain ⟨σ6,H6,J,q6⟩:=hq; exact ⟨σ6,H6,un J,q6⟩
  | brk=>obtain ⟨σ6,H6,J,q6⟩:=hq; exact ⟨σ6,H6,un J,q6⟩
  | cont=>obtain ⟨σ6,H6,J,q6⟩:=hq; exact ⟨σ6,H6,un J,q6⟩
  | ret u=>obtain ⟨v6,σ6,H6,J,r6,q6⟩:=hq; exact ⟨v6,σ6,H6,un J,r6,q6⟩
 refine wpAny_mono (hb _ xe _ P1 [] s σ H D (I.into xe) hw) (fun f s1 hq=>?_) (fun _ _ z=>z)
 cases f with
 | next=>obtain ⟨σ6,H6,J,q6⟩:=hq; exact wpAny_execs_nil ⟨σ6,H6,J.outof rfl,q6⟩
 | brk=>obtain ⟨σ6,H6,J,q6⟩:=hq; exact ⟨σ6,H6,J.outof rfl,q6⟩
 | cont=>obtain ⟨σ6,H6,J,q6⟩:=hq; exact ⟨σ6,H6,J.outof rfl,q6⟩
 | ret u=>obtain ⟨v6,σ6,H6,J,r6,q6⟩:=hq; exact ⟨v6,σ6,H6,J.outof rfl,r6,q6⟩
end
structure OwnX (P:Program) (w:World) (K:PySem.W.Frag) (mg:Str → Option Value) (base:Heap) (x:Str) (k:Nat) (ps:List Str) (sp:Sp):Prop where
 ex:∃ f fd,FnOk P w K mg base (CX1 P w) k f fd ps sp ∧ mg x = some (.ref f) ∧ PySem.W.keepIn K (.ref f) = true ∧ ∀ us:List Value,us.length = ps.length → bindArgs fd ⟨us,[]⟩ = pure (ps.zip us)
section
variable {P:Program} {w:World} {K:PySem.W.Frag} {mg:Str → Option Value} {base:Heap} {C:Addr}
theorem Fun.okX {x qual:Str} {st:Stmt} {f:Addr} {fd:FuncData} {N ps:List Str} {k:Nat} {sp:Sp} (F:Fun K x qual st f fd) (S:FnScope N ps (defScope st)) (len:∀ vs H Q E,sp vs H Q E → vs.length = ps.length)
  (hbody:∀ (cdv:Value) (A:Around) (outer:List Env) (s:Shared) (H:Hp) (vs:List V) (Q:VK) (E:XK),Room k (A.deeper (envOfC qual (defScope st) s.heap.objs.size f cdv)) → sp vs H Q E →
   ∃ t,PSs (cxOf (CX1 P w) P w K mg base N qual (defScope st) f cdv A outer s H E) (defBody st) t ∧ t { nx:=fun _ H'=>Q .non H',rt:=Q } (start N vs) H):FnOk P w K mg base (CX1 P w) (k + 1) f fd ps sp:=by
 obtain ⟨oc,od,kV,doc,pm,an,cdv,ct,osl,rfl,lk,hcd⟩:=F.ex
 exact fn_of lk hcd S len fun A outer s H vs Q E hr hsp=>hbody cdv A outer s H vs Q E hr hsp
theorem DefAt.ownX {x:Str} {st:Stmt} {N ps:List Str} {k:Nat} {sp:Sp} (D:DefAt K mg x st ps) (S:FnScope N ps (defScope st)) (len:∀ vs H Q E,sp vs H Q E → vs.length = ps.length)
  (hbody:∀ (f:Addr) (cdv:Value) (A:Around) (outer:List Env) (s:Shared) (H:Hp) (vs:List V) (Q:VK) (E:XK),Room k (A.deeper (envOfC x (defScope st) s.heap.objs.size f cdv)) → sp vs H Q E →
   ∃ t,PSs (cxOf (CX1 P w) P w K mg base N x (defScope st) f cdv A outer s H E) (defBody st) t ∧ t { nx:=fun _ H'=>Q .non H',rt:=Q } (start N vs) H):OwnX P w K mg base x (k + 1) ps sp:=by
 obtain ⟨f,fd,F,hm,hb⟩:=D.ex
 exact ⟨f,fd,F.okX S len (hbody f),hm,F.kp,hb⟩
end
def tOwnX (sp:Sp) (E:XK) (t:TA):TE:=fun σ H Q=>t σ H fun vs H1=>sp vs H1 Q E
section
variable {X:Cx}
theorem pe_ownX {E:XK} {x:Str} {j k:Nat} {ps:List Str} {sp:Sp} {e:Expr} {es:List Expr} {t:TA} {p pos:Pos} (O:OwnX X.prog X.w X.K X.mg X.base x j ps sp) (hp:Passes (CX1 X.prog X.w) X E) (hr:Room k X.A) (hg:Gl X x) (ha:PA X (e :: es) t) (hj:j ≤ k:=by first | decide | omega) (hdb:(x == ("__debug__":Str)) = false:=by decide)
  (he:starEach (e :: es) X.env = (false,eval e X.env) :: starEach es X.env:=by rfl) (hpl:(backTo pos (starEach es X.env)).any (·.1) = false:=by rfl):PE X (.Call (.Name x p) (e :: es) [] pos) (tOwnX sp E t):=by
 obtain ⟨f,fd,F,a,b,c⟩:=O.ex
 refine (pe_call (dvs:=[]) (E:=E) F (hr.mono hj) hg a b (Binds.all c) .nil hp ha hdb he hpl).imp fun σ H Q h=>?_
 unfold tCall
 unfold tOwnX at h
 simpa only [List.append_nil] using h
end
end L2
namespace L2
open PySem PySem.Spec PyProof.Rows
section
variable {M:Model} {A:Around} {E:Value → Shared → Prop} {s:Shared}
theorem x_flagA {e T:Addr} {cls fl:Value} {o:Option Addr} {Q:Unit → Shared → Prop} (x:Xc s.heap e T cls fl) (q:∀ h' fl',Xc h' e T cls fl' → Psd [] [T] s.heap h' → Q () { s with heap:=h' }):wpAny M A (setFlight (.ref e) o) Q E s:=by
 obtain ⟨oe,vs,oT,ts,he,hc,hd,h1,hT,ht,dt,h3⟩:=x
 have n3:3 < ts.size:=(Array.getElem?_eq_some_iff.mp h3).1
 unfold setFlight
 refine wpAny_bind (wpAny_field he hd h1 ?_)
 rw [if_pos (show (Value.ref T != Value.none) = true by simp)]
 generalize (o.elim Value.none fun f=>rawInt f) = v
 have ot:∀ b,b ≠ T → (s.heap.update T (Obj.mapFields (·.setIfInBounds 3 v))).get? b = s.heap.get? b:=fun b hb=>Heap.get?_update_other _ _ (Ne.symm hb)
 refine wpAny_setField ht dt n3 (q _ v ⟨oe,vs,_,_,(ot e (Ne.symm hT)).trans he,hc,hd,h1,hT,Heap.get?_update_self _ ht (Obj.isFreed_of_fields (Obj.data_mapFields dt _)),Obj.data_mapFields dt _,by simp [n3]⟩ ⟨fun b u eb hb _=>?_,fun b u eb hb=>?_⟩)
 ·exact (ot b fun z=>hb (by simp [z])).trans eb
 ·exact ⟨u.slots,(ot b fun z=>hb (by simp [z])).trans eb⟩
theorem x_noteA {base:Heap} {env:Env} {outer:List Env} {L e T:Addr} {cls fl:Value} {Q:Unit → Shared → Prop} (hA:A.frames = some (env :: outer)) (fr:s.heap.FunFrames base (env :: outer)) (hL:env.frame = some L)
  (x:Xc s.heap e T cls fl) (q:∀ h' T',(T' = T ∨ s.heap.objs.size ≤ T') → Xc h' e T' cls (rawInt L) → Psd (frs (env :: outer)) [e,T] s.heap h' → Q () { s with heap:=h' }):wpAny M A (noteFrame (.ref e) env) Q E s:=by
 obtain ⟨oe,vs,oT,ts,he,hc,hd,h1,hT,ht,dt,h3⟩:=id x
 obtain ⟨rfl,hdn⟩:=hc
 unfold noteFrame
 simp only [hL]
 refine wpAny_bind (wpAny_field he hd h1 ?_)
 rw [if_pos (show (Value.ref T != Value.none) = true by simp)]
 refine wpAny_bind (wpAny_field ht dt h3 ?_)
 by_cases hf:fl = rawInt L
 ·subst hf
  rw [if_pos (by simp)]
  exact wpAny_pure (q s.heap T (.inl rfl) x .refl)
 ·rw [if_neg (show ¬ (fl == rawInt L) = true by simpa using hf)]
  refine wpAny_bind (wpAny_setField ht dt (Array.getElem?_eq_some_iff.mp h3).1 ?_)
  have o:∀ b,b ≠ T → (s.heap.update T (Obj.mapFields (·.setIfInBounds 3 Value.none))).get? b = s.heap.get? b:=fun b hb=>Heap.get?_update_other _ _ (Ne.symm hb)
  have p:Psd (frs (env :: outer)) [e,T] s.heap (s.heap.update T (Obj.mapFields (·.setIfInBounds 3 Value.none))) :=
   ⟨fun b u eb hb _=>(o b fun z=>hb (by simp [z])).trans eb,fun b u eb hb=>⟨u.slots,(o b fun z=>hb (by simp [z])).trans eb⟩⟩
  refine x_entry hA (fr.of_keeps fun b u eb hn=>⟨u,(o b fun z=>?_).trans eb,rfl⟩) hL ((o e (Ne.symm hT)).trans he) hd hdn (Array.getElem?_eq_some_iff.mp h1).1 fun h' T' hs x' p'=>q h' T' (.inr ?_) x' (p.trans (p'.mono (fun _ z=>z) fun b z=>by simp at z; simp [z]))
  ·rw [z,ht] at eb; cases eb; exact hn ts dt
  ·have:(s.heap.update T (Obj.mapFields (·.setIfInBounds 3 Value.none))).objs.size = s.heap.objs.size:=Heap.size_after_update ..
   exact this ▸ hs
end
def PassA (X:Cx) (E:XK):Prop:=∀ (pins:List (Addr × Obj)) (σ:St) (H:Hp) (s:Shared) (ea T:Addr) (cls fl:Value),Inv X pins σ H s → Alien X pins H ea → Alien X pins H T → Xc s.heap ea T cls fl → E cls none H → X.xe (.ref ea) s
section
variable {X:Cx} {pins:List (Addr × Obj)} {σ:St} {H:Hp} {s:Shared}
theorem x_leavesA {E:XK} {ea T:Addr} {cls fl:Value} {Ea:Value → Shared → Prop} (I:Inv X pins σ H s) (hx:X.ex = []) (hs:X.stack = X.env :: X.outer) (hf:X.env.frame = some X.env.locals) (ha:Alien X pins H ea) (hT:Alien X pins H T) (x:Xc s.heap ea T cls fl) (hE:E cls none H) :
  wpAny (model X.prog X.w) X.A (leaving X.env (.ref ea)) (fun _ s'=>CX1 X.prog X.w X.outer X.H₀ X.s₀ E (.ref ea) s') Ea s:=by
 unfold leaving
 have fr:X.A.frames = some (X.env :: X.outer):=by rw [I.ok.frames,hs]
 refine wpAny_bind (x_noteA fr (by rw [← hs]; exact I.stack) hf x fun h1 T1 hT1 x1 p1=>?_)
 have I1:=I.psd (by rw [hs]; exact p1) (fun r hr=>by simp at hr; rcases hr with rfl | rfl <;> assumption)
 have a1:Alien X pins H T1:=by
  rcases hT1 with rfl | hT1
  ·exact hT
  ·exact I.alien hx (Heap.get?_none_of_le hT1) (I.hok.fresh hT1)
 refine x_flag (s:={ s with heap:=h1 }) x1 fun h2 x2 p2=>?_
 have I2:=I1.psd (p2.mono (by simp) fun b z=>z) (fun r hr=>by simp at hr; rw [hr]; exact a1)
 exact x_left I2 hx hs ha a1 x2 hE
theorem passA {E:XK} (hx:X.ex = []:=by rfl) (hs:X.stack = X.env :: X.outer:=by rfl) (hf:X.env.frame = some X.env.locals:=by rfl)
  (he:∀ e s',wpAny (model X.prog X.w) X.A (leaving X.env e) (fun _ s''=>CX1 X.prog X.w X.outer X.H₀ X.s₀ E e s'') (fun e' s''=>CX1 X.prog X.w X.outer X.H₀ X.s₀ E e' s'') s' → X.xe e s':=by exact fun _ _ h=>h):PassA X E :=
 fun _ _ _ _ _ _ _ _ I ha hT x hE=>he _ _ (x_leavesA I hx hs hf ha hT x hE)
end
section
variable {prog:Program} {w:World} {A:Around} {R:Result → Shared → Prop} {s:Shared}
theorem compLoop_genX {elt target iter:Expr} {scope:Scope} {pos:Pos} {it acc:Value} {env:Env} (I:Nat → Shared → Prop) (XE:Value → Shared → Prop) (hx:∀ e s,XE e s → notedBy (model prog w) A env (fun e s'=>R (.error e) s') e s)
  (turn:∀ n s,I n s → wpAny (model prog w) A (pyNext it) (fun r s₁=>match r with
   | none=>R (.ok .next) s₁
   | some v=>wpAny (model prog w) A (letOwnedTupleGo target it v) (fun _ s₁'=>wpAny (model prog w) A (assign target env v) (fun _ s₂ =>
     wpAny (model prog w) A (eval elt env) (fun x s₄=>wpAny (model prog w) A (call (.builtin "list.append") [acc,x]) (fun _ s₅=>∃ m,m < n ∧ I m s₅) (fun _ _=>False) s₄) XE s₂) (fun _ _=>False) s₁') (fun _ _=>False) s₁) (fun _ _=>False) s)
  (n:Nat) (h:I n s):codeAny (model prog w) A (.compLoop (.ListComp elt [⟨target,iter,[],0⟩] scope pos) 0 it acc env) R s:=by
 refine codeAny_loop rfl I (fun n s hI=>?_) n h
 show wpAny _ _ ((compTurn (.ListComp elt [⟨target,iter,[],0⟩] scope pos) 0 it acc env).onRaise (fun x=>do noteFrame x env; theTreesLotGoes x)) _ _ s
 refine wpAny_noted ?_
 have F:∀ {α:Type} {m:Sem α} {Q:α → Shared → Prop} {E:Value → Shared → Prop} {s:Shared},wpAny (model prog w) A m Q (fun _ _=>False) s → wpAny (model prog w) A m Q E s:=fun h=>wpAny_mono h (fun _ _ q=>q) fun _ _ z=>z.elim
 have e:compTurn (.ListComp elt [⟨target,iter,[],0⟩] scope pos) 0 it acc env = (standAt iter.pos >>= fun _=>pyNext it >>= fun r=>match r with
  | none=>pure (.done .next)
  | some v=>letOwnedTupleGo target it v >>= fun _=>assign target env v >>= fun _ =>
   (eval elt env >>= fun x=>call (.builtin "list.append") [acc,x] >>= fun _=>pure ()) >>= fun _ =>
    again (.compLoop (.ListComp elt [⟨target,iter,[],0⟩] scope pos) 0 it acc env)):=by rfl
 rw [e]
 refine wpAny_bind (wpAny_standAt (wpAny_bind (F (thn (turn n s hI) fun r s₁ h₁=>?_))))
 cases r with
 | none=>exact wpAny_pure h₁
 | some v =>
  refine wpAny_bind (F (thn h₁ fun _ s1 h1=>wpAny_bind (F (thn h1 fun _ s2 h2=>?_))))
  exact wpAny_bind (wpAny_bind (wpAny_mono h2 (fun x s3 h3=>wpAny_bind (F (thn h3 fun _ s4 h4=>wpAny_pure (wpAny_pure ⟨rfl,h4⟩)))) fun e s3 z=>hx e s3 z))
end
end L2
namespace L2
open PySem PySem.Spec PyProof.Rows
theorem Inv.xeTo {X:Cx} {pins:List (Addr × Obj)} {σ:St} {H:Hp} {s:Shared} (I:Inv X pins σ H s) (xe:Value → Shared → Prop):Inv { X with xe:=xe } pins σ H s :=
 ⟨⟨I.ok.mod,I.ok.kind,I.ok.glob,I.ok.blt,I.ok.above,I.ok.inj,I.ok.has,I.ok.cab,I.ok.hd,I.ok.frames,I.ok.stk,I.ok.exf,I.ok.bs,I.ok.bsz,I.ok.noex,I.ok.exfs,I.ok.funs,I.ok.frf⟩,I.os,I.bare,I.base,I.loc,I.cell,I.free,I.freeC,I.pin,I.hok,I.len⟩
theorem Inv.xeOf {X:Cx} {xe:Value → Shared → Prop} {pins:List (Addr × Obj)} {σ:St} {H:Hp} {s:Shared} (I:Inv { X with xe:=xe } pins σ H s):Inv X pins σ H s :=
 ⟨⟨I.ok.mod,I.ok.kind,I.ok.glob,I.ok.blt,I.ok.above,I.ok.inj,I.ok.has,I.ok.cab,I.ok.hd,I.ok.frames,I.ok.stk,I.ok.exf,I.ok.bs,I.ok.bsz,I.ok.noex,I.ok.exfs,I.ok.funs,I.ok.frf⟩,I.os,I.bare,I.base,I.loc,I.cell,I.free,I.freeC,I.pin,I.hok,I.len⟩
section
variable {X:Cx} {scope:Scope} {tg elt iter:Expr} {tgs:List Str} {fr:List Nat} {g:TG} {te:TE} {E:XK} {pos:Pos}
structure BlockX (X:Cx) (scope:Scope) (tgs:List Str) (fr:List Nat) (tg elt:Expr) (g:TG) (te:TE) (E:XK):Prop where
 sc:CScope scope
 caps:Caps X scope fr
 calm:X.calm = true
 ex:X.ex = []
 stk:X.stack = X.env :: X.outer
 frm:X.env.frame = some X.env.locals
 tgt:∀ C s₀ H₀ fp,PG (cxComp X scope C (nmC X tgs fr) s₀ H₀ fp) tg g
 el:∀ C s₀ H₀ fp (xe:Value → Shared → Prop),Passes (CX1 X.prog X.w) { cxComp X scope C (nmC X tgs fr) s₀ H₀ fp with xe:=xe } E → PE { cxComp X scope C (nmC X tgs fr) s₀ H₀ fp with xe:=xe } elt te
theorem comp_runX (B:BlockX X scope tgs fr tg elt g te E) {pins:List (Addr × Obj)} {σ:St} {H1:Hp} {s:Shared} {it:Addr} {fp:List Addr} {tn:Nat → Heap → Prop} {J:It} {Q:VK} {RR:Value → Addr → Result → Shared → Prop} {Eo:Value → Shared → Prop}
  (I:Inv X pins σ H1 s) (T:Turn X.prog X.w X.K tg J fp it tn) (t0:tn 0 s.heap) (hf:∀ b ∈ fp,FpOk X pins H1 b)
  (hw:∀ D,H1 D = none → ∃ W:Nat → Nat → List V → Hp → Prop,(∃ m,W 0 m [] (upd H1 D (.lst []))) ∧
   ∀ i m ys H,W i m ys H → (J.stop i H ∧ Q (.ref D) H) ∨ (J.go i H ∧ ∀ x H',J.yld i H x H' → g x (stC tgs.length fr σ) H' fun σ2 H2=>Wk (stC tgs.length fr σ) σ2 ∧
    te σ2 H2 fun v H4=>H4 D = some (.lst ys) ∧ ys.length < sizeLine ∧ ∃ m',m' < m ∧ W (i + 1) m' (ys ++ [v]) (upd H4 D (.lst (ys ++ [v])))))
  (hR:∀ D C H' s',Inv X pins σ H' s' → H' C = none → C ≠ X.env.locals → X.s₀.heap.objs.size ≤ C → (∀ x c,X.env.cells.lookup x = some c → c ≠ C) → (∀ p ∈ X.pn ++ pins,p.1 ≠ C) → (∃ m,s'.heap.Ns C m) → Q (.ref D) H' → RR (.ref D) C (.ok .next) s')
  (hX:∀ D C H' s' ea T cls fl,Inv X pins σ H' s' → H' C = none → C ≠ X.env.locals → X.s₀.heap.objs.size ≤ C → (∀ x c,X.env.cells.lookup x = some c → c ≠ C) → (∀ p ∈ X.pn ++ pins,p.1 ≠ C) → (∃ m,s'.heap.Ns C m) → Alien X pins H' ea → Alien X pins H' T → C ≠ ea → C ≠ T → Xc s'.heap ea T cls fl → E cls none H' → RR (.ref D) C (.error (.ref ea)) s') :
  wpAny (model X.prog X.w) X.A (newList []) (fun acc s₃=>wpAny (model X.prog X.w) X.A (newFunctionEnv scope X.env.globals (clo X.env scope.names) [] X.env.qual none .none (some X.env)) (fun cenv s₄ =>
   codeAny (model X.prog X.w) X.A (.compStart (.ListComp elt [⟨tg,iter,[],0⟩] scope pos) 0 (.ref it) acc { cenv with scope:=relabel scope X.env }) (RR acc cenv.locals) s₄) Eo s₃) Eo s:=by
 refine wpAny_newObj_type ?_ (Nat.zero_le _)
 have nD:H1 s.heap.objs.size = none:=I.hok.fresh (Nat.le_refl _)
 have I3:Inv X pins σ (upd H1 s.heap.objs.size (.lst [])) { s with heap:=s.heap.push { cls:=.type "list",data:=.seq ([]:List Value).toArray } } :=
  I.laid (t':=s.toks) (fun _ _ q=>Heap.get?_push_of_some _ q) (Nat.le_refl _) ⟨Nat.zero_le _,[],0,.nil,Heap.get?_push_size _ rfl⟩
 obtain ⟨W,⟨m0,w0⟩,turn⟩:=hw _ nD
 have lt0:∀ b ∈ fp,b < s.heap.objs.size:=fun b hb=>let ⟨o,e,_⟩:=T.obj 0 _ t0 b hb; Heap.lt_size e
 have hf3:∀ b ∈ fp,FpOk X pins (upd H1 s.heap.objs.size (.lst [])) b:=fun b hb=>by
  obtain ⟨a0,a1⟩:=hf b hb
  exact ⟨by rw [upd_ne (Nat.ne_of_lt (lt0 b hb))]; exact a0,a1⟩
 refine wpAny_newFunctionEnv B.sc.nocell (fun y hy=>nomatch hy) (fun h₁ hns hsb=>?_) B.sc.kind
 generalize hs3:({ s with heap:=s.heap.push { cls:=.type "list",data:=.seq ([]:List Value).toArray } }:Shared) = s3 at I3 hns hsb ⊢
 have lt3:∀ b ∈ fp,b < s3.heap.objs.size:=fun b hb=>by
  rw [← hs3]; show b < (s.heap.push _).objs.size; rw [Heap.size_push]; exact Nat.lt_succ_of_lt (lt0 b hb)
 have k3:∀ b o,s3.heap.get? b = some o → h₁.get? b = some o:=fun b o e=>(hsb.2 b (Nat.ne_of_lt (Heap.lt_size e))).trans (Heap.get?_push_of_some _ e)
 have k0:∀ b o,s.heap.get? b = some o → s3.heap.get? b = some o:=fun b o e=>by rw [← hs3]; exact Heap.get?_push_of_some _ e
 have JI:=comp_inv (tgs:=tgs) (tk:=s3.toks + ([]:List (Str × Value)).length) I3 B.sc B.caps hf3 lt3 hns k3
 have t1:tn 0 h₁:=T.keep _ _ _ t0 fun b hb o e=>k3 b o (k0 b o e)
 have cC:∀ x c,X.env.cells.lookup x = some c → c ≠ s3.heap.objs.size:=fun x c e z=>by
  obtain ⟨v,o,ho,_⟩:=I3.cell x c e
  exact absurd (Heap.lt_size ho) (by rw [z]; exact Nat.lt_irrefl _)
 have pC:∀ p ∈ X.pn ++ pins,p.1 ≠ s3.heap.objs.size:=fun p hp z=>absurd (Heap.lt_size (I3.pin p hp).1) (by rw [z]; exact Nat.lt_irrefl _)
 generalize hXE:(fun (e:Value) (s2:Shared)=>∃ ea T cls H2,e = .ref ea ∧ Inv X pins σ H2 s2 ∧ H2 s3.heap.objs.size = none ∧ Alien X pins H2 ea ∧ Alien X pins H2 T ∧ s3.heap.objs.size ≠ ea ∧ s3.heap.objs.size ≠ T ∧ Xc s2.heap ea T cls .none ∧ E cls none H2 ∧ ∃ m,s2.heap.Ns s3.heap.objs.size m) = XE
 have PX:Passes (CX1 X.prog X.w) { cxComp X scope s3.heap.objs.size (nmC X tgs fr) s3 (upd H1 s.heap.objs.size (.lst [])) fp with xe:=XE } E:=by
  intro pins' σ' Ha sa e sb Ja hcx
  obtain ⟨ea,T,cls,Hb,rfl,os,bare,un,hok,n1,n2,z1,z2,x0,hE⟩:=hcx
  have Ja:=Ja.xeOf
  have Ja:Inv (cxComp X scope s3.heap.objs.size (nmC X tgs fr) s3 (upd H1 s.heap.objs.size (.lst [])) fp) [] σ' Ha sa:=Ja.pins_of fun p hp=>nomatch hp
  have Jb:=Ja.call' os un hok bare (fun b z=>nomatch z)
  have Ia:Inv X pins σ Ha sa:=comp_out (h':=sa.heap) I3 rfl hf3 Ja (Heap.SameBut.refl ..)
  have Ib:Inv X pins σ Hb sb:=Ia.call' os un hok bare (fun b z=>nomatch z)
  obtain ⟨ma,na,_⟩:=Ja.loc
  obtain ⟨mb,nb,_⟩:=Jb.loc
  have nC:∀ b,sa.heap.get? b = none → s3.heap.objs.size ≠ b:=fun b hb z=>by
   obtain ⟨o,_,_,ho,_⟩:=na
   have ho:sa.heap.get? s3.heap.objs.size = some o:=ho
   rw [z,hb] at ho; cases ho
  rw [← hXE]
  exact ⟨ea,T,cls,Hb,rfl,Ib,Jb.free,Ia.alien B.ex n1 z1,Ia.alien B.ex n2 z2,nC _ n1,nC _ n2,x0,hE,mb,nb⟩
 have loop:codeAny (model X.prog X.w) X.A (.compLoop (.ListComp elt [⟨tg,iter,[],0⟩] scope pos) 0 (.ref it) (.ref s.heap.objs.size) (compEnvC scope (clo X.env scope.names) s3.heap.objs.size X.env))
   (RR (.ref s.heap.objs.size) s3.heap.objs.size) { s3 with heap:=h₁,toks:=s3.toks + ([]:List (Str × Value)).length }:=by
  refine compLoop_genX (fun n s'=>∃ i ys σ' H',Inv (cxComp X scope s3.heap.objs.size (nmC X tgs fr) s3 (upd H1 s.heap.objs.size (.lst [])) fp) [] σ' H' s' ∧ Wk (stC tgs.length fr σ) σ' ∧ tn i s'.heap ∧ (∀ b ∈ fp,H' b = none) ∧ W i n ys H')
   XE (fun e sx hx=>?_) ?_ m0 ⟨0,[],_,_,JI,Wk.refl _,t1,fun b hb=>(hf3 b hb).1,w0⟩
  ·rw [← hXE] at hx
   obtain ⟨ea,T,cls,H2,rfl,I2,c0,ae,aT,ce,cT,x0,hE,m,ns⟩:=hx
   show wpAny (model X.prog X.w) X.A (noteFrame (.ref ea) X.env) _ _ sx
   have frs':X.A.frames = some (X.env :: X.outer):=by rw [I2.ok.frames,B.stk]
   refine x_note frs' (by rw [← B.stk]; exact I2.stack) B.frm x0 fun h2 T2 hT2 x2 p2=>?_
   have I4:=I2.psd (by rw [B.stk]; exact p2) (fun r hr=>by simp at hr; rcases hr with rfl | rfl <;> assumption)
   have a2:Alien X pins H2 T2:=I2.alien B.ex (Heap.get?_none_of_le hT2) (I2.hok.fresh hT2)
   obtain ⟨oc,es,ep,hoc,rc⟩:=ns
   obtain ⟨z,ez⟩:=p2.sl _ oc hoc (by simp only [List.mem_cons,List.not_mem_nil,or_false,not_or]; exact ⟨ce,cT⟩)
   have cT2:s3.heap.objs.size ≠ T2:=fun w=>by
    have:=Heap.lt_size hoc
    rw [w] at this
    exact absurd hT2 (Nat.not_le.mpr this)
   exact hX _ _ H2 _ ea T2 cls _ I4 c0 (Nat.ne_of_gt I3.lt) I3.sz cC pC ⟨m,_,es,ep,ez,rc⟩ ae a2 ce cT2 x2 hE
  rintro n s5 ⟨i,ys,σ5,H5,J5,wk5,t5,fr5,w5⟩
  have fpo:∀ {H':Hp},(∀ b ∈ fp,H' b = none) → ∀ b ∈ fp,FpOk (cxComp X scope s3.heap.objs.size (nmC X tgs fr) s3 (upd H1 s.heap.objs.size (.lst [])) fp) [] H' b:=fun {H'} hn b hb =>
   ⟨hn b hb,(J5.ok.exf b hb).1,J5.ok.exfs b hb,.inl hb,fun x c e=>(J5.ok.exf b hb).2 x c e,fun p hp=>absurd (show p ∈ ([]:List (Addr × Obj)) from hp) (by simp)⟩
  have J5':=J5.weak (σ':=stC tgs.length fr σ) (by rw [J5.len]; exact JI.len) wk5
  rcases turn i n ys H5 w5 with ⟨stop,q⟩ | ⟨go,step⟩
  ·refine thn (T.done (cxComp X scope s3.heap.objs.size (nmC X tgs fr) s3 (upd H1 s.heap.objs.size (.lst [])) fp) rfl rfl rfl B.calm i [] s5 _ H5 _ J5' (fpo fr5) t5 stop) fun r s6 ⟨hr,J6⟩=>?_
   subst hr
   have I6:Inv X pins σ H5 s6:=comp_out (h':=s6.heap) I3 rfl hf3 J6 (Heap.SameBut.refl ..)
   obtain ⟨m6,n6,_⟩:=J6.loc
   exact hR _ _ H5 s6 I6 J6.free (Nat.ne_of_gt I3.lt) I3.sz cC pC ⟨m6,n6⟩ q
  ·refine thn (T.item (cxComp X scope s3.heap.objs.size (nmC X tgs fr) s3 (upd H1 s.heap.objs.size (.lst [])) fp) rfl rfl rfl B.calm i [] s5 _ H5 _ J5' (fpo fr5) t5 go) fun r s6 ⟨u,hr,h6⟩=>?_
   subst hr
   refine thn h6 fun _ s7 ⟨x,H7,J7,r7,y7,t7,fr7⟩=>?_
   have J7':=J7.pinned (fpo fr7) (T.obj _ _ t7)
   refine thn (B.tgt _ _ _ _ _ s7 _ H7 x u _ J7' r7 (step x H7 y7)) fun _ s8 ⟨σ8,H8,J8,wk8,q8⟩=>?_
   refine wpAny_mono (B.el _ _ _ _ XE PX _ s8 σ8 H8 _ (J8.xeTo XE) q8) (fun v sA ⟨y,HA,JA,rA,eD,ez,m',hm,w9⟩=>?_) (fun _ _ z=>z)
   refine thn (mt_append (X:=cxComp X scope s3.heap.objs.size (nmC X tgs fr) s3 (upd H1 s.heap.objs.size (.lst [])) fp) _ sA σ8 HA (.ref s.heap.objs.size) [y] (.ref s.heap.objs.size) [v] (fun _ H'=>H' = upd HA s.heap.objs.size (.lst (ys ++ [y]))) JA.xeOf rfl (.cons rA .nil)
     ⟨_,ys,y,rfl,rfl,eD,ez,rfl⟩) fun _ sB ⟨_,HB,J9,_,eB⟩=>?_
   subst eB
   refine ⟨m',hm,i + 1,_,σ8,_,J9.unpinned,wk8,T.keep _ _ _ t7 fun b hb o e=>(J9.pin (b,o) (List.mem_append_right _ (List.mem_append_right _ (mem_pinsAt hb e)))).1,fun b hb=>?_,w9⟩
   obtain ⟨o,e,_⟩:=T.obj _ _ t7 b hb
   exact (J9.pin (b,o) (List.mem_append_right _ (List.mem_append_right _ (mem_pinsAt hb e)))).2.1
 refine codeAny_compStart_list loop (T.self _ _ _ _ _ t1 loop)
def tCompX (wi:TI) (k:Nat) (fr:List Nat) (g:TG) (te:TE):TE:=fun σ H Q=>wi σ H fun J H1=>∀ D,H1 D = none → ∃ W:Nat → Nat → List V → Hp → Prop,(∃ m,W 0 m [] (upd H1 D (.lst []))) ∧
 ∀ i m ys H,W i m ys H → (J.stop i H ∧ Q (.ref D) H) ∨ (J.go i H ∧ ∀ x H',J.yld i H x H' → g x (stC k fr σ) H' fun σ2 H2=>Wk (stC k fr σ) σ2 ∧
  te σ2 H2 fun v H4=>H4 D = some (.lst ys) ∧ ys.length < sizeLine ∧ ∃ m',m' < m ∧ W (i + 1) m' (ys ++ [v]) (upd H4 D (.lst (ys ++ [v]))))
theorem pe_compX {wi:TI} (hi:PI X tg iter wi) (B:BlockX X scope tgs fr tg elt g te E) (hp:PassA X E) (hs:∀ x,foldedSetIterable iter X.env x = pure x:=by intro _; rfl) :
  PE X (.ListComp elt [⟨tg,iter,[],0⟩] scope pos) (tCompX wi tgs.length fr g te):=by
 intro pins s σ H Q I h
 rw [eval_ListComp]
 have hclo:closureFor scope X.env = pure (clo X.env scope.names):=closureFor_clo fun x hx e=>I.ok.has x.1 (B.caps.free x.1 (by rw [← e]; exact hx))
 refine wpAny_comprehension_free (use:=none) rfl hs hclo B.sc.kind B.sc.names (thn (hi pins s σ H _ I h) fun v s1 h1=>thn h1 fun itv s2 h2=>?_)
 obtain ⟨it,fp,tn,J,H2,e,I2,T,t0,f0,hw⟩:=h2
 subst e
 refine comp_runX (RR:=fun acc C=>compPost (model X.prog X.w) X.A X.xe none (EP X pins σ Q) acc C) (Q:=Q) B I2 T t0 f0 hw (fun D C H' s' I' nC c1 c2 c3 c4 ns q=>?_) (fun D C H' s' ea T' cls fl I' nC c1 c2 c3 c4 ns ae aT ce cT x hE=>?_)
 ·obtain ⟨m,hm⟩:=ns
  exact ⟨m,hm,fun h' sb=>⟨.ref D,H',I'.turned (t':=s'.toks) (fun b o hb e=>(sb.2 b hb).trans e) nC c1 (.inr c2) c3 c4,rfl,q⟩⟩
 ·obtain ⟨m,hm⟩:=ns
  refine ⟨m,hm,fun h' sb cenv _=>?_⟩
  have I'':=I'.turned (t':=s'.toks) (h':=h') (fun b o hb e=>(sb.2 b hb).trans e) nC c1 (.inr c2) c3 c4
  obtain ⟨oe,vs,oT,ts,he,hc,hd,h1,hT,ht,dt,h3⟩:=x
  have he':h'.get? ea = some oe:=(sb.2 ea (Ne.symm ce)).trans he
  have x':Xc h' ea T' cls fl:=⟨oe,vs,oT,ts,he',hc,hd,h1,hT,(sb.2 T' (Ne.symm cT)).trans ht,dt,h3⟩
  unfold PySem.passOn
  refine wpAny_bind (wpAny_field (s:={ s' with heap:=h' }) he' hd h1 ?_)
  rw [if_neg (show ¬ (Value.ref T' == Value.none) = true by simp)]
  refine wpAny_bind (x_flagA (s:={ s' with heap:=h' }) x' fun h2 fl2 x2 p2=>?_)
  have I3:=I''.psd (p2.mono (by simp) fun b z=>z) (fun r hr=>by simp at hr; rw [hr]; exact aT)
  exact wpAny_throw (hp pins σ H' _ ea T' cls fl2 I3 ae aT x2 hE)
end
end L2
namespace L2
open PySem PySem.Spec PyProof.Rows _root_.Own
section
variable {X:Cx}
end
end L2
namespace L2
open PySem PySem.Spec PyProof.Rows
end L2
namespace L2
open PySem PySem.Spec PyProof.Rows
end L2
namespace L2
open PySem PySem.Spec PyProof.Rows
section
variable {β:Type}
end
end L2
namespace L2
open PySem PySem.Spec PyProof.Rows
def ScrA (K:PySem.W.Frag) (H:Hp) (a:Addr) (xs:List V):Prop:=(∃ o,H a = some (.frz o (.lst xs))) ∨
 ∃ (o:Obj) (its:Array Value) (n:Nat),K.lookup a = some o ∧ o.cls = .type "list" ∧ o.dict = none ∧ o.data = .seq its n ∧ its.size ≤ sizeLine ∧ Vals xs its.toList
theorem ScrA.sq {K:PySem.W.Frag} {H:Hp} {a:Addr} {xs:List V} (h:ScrA K H a xs):SqL K H a xs:=by
 rcases h with ⟨o,h⟩ | h
 ·exact .inl (.inr ⟨o,h⟩)
 ·exact .inr h
def FrzK (H H':Hp):Prop:=∀ b o u,H b = some (.frz o u) → H' b = some (.frz o u)
theorem FrzK.of_same {H H':Hp} (s:Same H H'):FrzK H H':=fun b o u e=>s b _ e
theorem ScrA.keep {K:PySem.W.Frag} {H H':Hp} {a:Addr} {xs:List V} (h:ScrA K H a xs) (f:FrzK H H'):ScrA K H' a xs:=by
 rcases h with ⟨o,h⟩ | h
 ·exact .inl ⟨o,f _ _ _ h⟩
 ·exact .inr h
def spLawF (K:PySem.W.Frag):Sp:=fun vs H Q _=>∃ (a:Addr) (ns:List Int),vs = [.ref a] ∧ ScrA K H a (ns.map V.int) ∧ Only H ∧ ns.length ≤ 63 ∧ ∀ H',Q (.bl true) H'
theorem walkF {l:PySem.W.OpenLaw} {q:Program} {loose:List Str} {XP:(Str → Option Value) → Heap → Prop} {YP:World → Heap → Prop} {d:DefRec} {K:Params → PySem.W.Frag} {k:Nat} {st:Stmt} (hn:l.most = some 63) (hdf:d.params.defaults = []) (hr:Room k callerA) (hd:d.name = "law")
  (hY:∀ (w:World) (h:Heap),YP w h → (K w.params).In h)
  (F:∀ (w:World) (mg:Str → Option Value) (h:Heap),(K w.params).In h → h.Ns mainGlobals mg → DefAt (K w.params) mg "law" st ["_law_script"] ∧
   ∀ (base:Heap) (f:Addr) (fd:FuncData),Fun (K w.params) "law" "law" st f fd → FnOk l.prog w (K w.params) mg base CX0 k f fd ["_law_script"] (spLawF (K w.params))) :
  PySem.W.WalkO q loose XP YP l.row.toRowW d [] (fun f vs=>PySem.call f vs):=by
 refine L2.walk_of (n:=63) (k:=k) (x:="_law_script") (CX:=fun _=>CX0) (sp:=fun w=>spLawF (K w.params)) hn (by decide) hdf hr hY (fun w mg fa h KX G hmg=>?_) (fun w H a ns hl hO hS=>⟨a,ns,rfl,?_,hO,hl,fun _=>rfl⟩) fun _ _ _ _ _ z=>z
 ·obtain ⟨⟨f,fd,Ff,hm,hb⟩,ok⟩:=F w mg h KX G
  rw [hd] at hmg
  rw [hm] at hmg
  cases hmg
  exact ⟨fd,fun s u=>.of_eq (hb [u] rfl),fun base _ _=>ok base fa fd Ff⟩
 ·rcases hS with (h | h) | h
  ·rcases hO a with z | ⟨o,xs,z⟩
   ·rw [z] at h; cases h
   ·rw [z] at h; cases h
  ·exact .inl h
  ·exact .inr h
theorem at_cell {ns:List Int} {lo i:Nat} (h:lo + i < ns.length):atI (ns.map V.int) ((lo:Int) + (i:Int)) = some (.int (ns.getD (lo + i) 0)):=by
 have e:(lo:Int) + (i:Int) = ((lo + i:Nat):Int):=by omega
 rw [e]
 exact atI_nat (by simp [h])
theorem atI_lt {α:Type} (xs:List α) (i:Int) (h0:0 ≤ i) (h1:i < xs.length):∃ x ∈ xs,atI xs i = some x:=by
 obtain ⟨n,rfl⟩:=Int.eq_ofNat_of_zero_le h0
 have hn:n < xs.length:=by omega
 exact ⟨xs[n],List.getElem_mem hn,atI_nat (by simp [hn])⟩
theorem menu {is:List Int} (i:Int) (h0:0 ≤ i) (h1:i < is.length):∃ c ∈ is,atI (is.map V.int) i = some (.int c):=by
 obtain ⟨x,hx,e⟩:=atI_lt (is.map V.int) i h0 (by simpa using h1)
 obtain ⟨c,hc,rfl⟩:=List.mem_map.mp hx
 exact ⟨c,hc,e⟩
theorem ten90:PySem.intText? ("1" ++ Txt.mul "0" 90) = some (10 ^ 90):=by decide +kernel
theorem len91:(("1":Str) ++ Txt.mul "0" 90).length = 91:=by decide +kernel
theorem mok90:MulOk "0" 90:=mulOk_of 16 1048576 (by decide) (by decide) (by decide) (by decide) (by decide)
theorem c48 (i:Int):CMul i 48271:=.inr ⟨by decide,by decide⟩
end L2
namespace Hl
open PySem L2
section
variable {β:Type}
end
end Hl
namespace Hl
open PySem L2
end Hl
namespace Hl
open PySem L2
end Hl
namespace Hl
open PySem L2
end Hl
namespace Hl
open PySem L2
end Hl
namespace Hl
open PySem L2
end Hl
namespace Hl
open PySem L2
end Hl
namespace Hl
open PySem L2
end Hl
namespace Hl
open PySem L2
section
variable {c:Cs} {H:Hp} {α:Al} {ρ:Ro} {cnt k:Int} {l:PLd}
end
end Hl
namespace Hl
open PySem L2
end Hl
namespace Hl
open PySem L2
section
variable {c:Cs} {H H':Hp} {α α':Al} {ρ ρ':Ro} {A:PH} {k:Int} {l l':PLd}
end
end Hl
namespace Hl
open PySem L2
end Hl
namespace Hl
open PySem L2
end Hl
namespace L2
open PySem
end L2
namespace L2
open PySem
end L2
namespace L2
open PySem PySem.Spec PyProof.Rows
def cutS (x:Str) (lo hi:Option Int):Str:=if ((Builtin.Str.strSliceIndices lo hi 1 x.length).length == x.length) = true then x else ⟨((Builtin.Str.strSliceIndices lo hi 1 x.length).filterMap (x.cps[·]?)).toArray⟩
section
variable {X:Cx}
theorem part_some {v:Value} {o:Option Int} (p:IsPart v o):∃ l:Option (Int × Tok),v = partValue l ∧ l.map (·.1) = o:=by
 cases p with
 | none=>exact ⟨none,rfl,rfl⟩
 | int i t=>exact ⟨some (i,t),rfl,rfl⟩
theorem sl_str:SlR X (fun x lo hi H Q=>∃ z,x = .str z ∧ (cutS z lo hi).length ≤ sizeLine ∧ Q (.str (cutS z lo hi)) H):=by
 intro pins s σ H x v vl vu lo hi sl Q I rx hs pl pu h
 obtain ⟨z,rfl,hz,q⟩:=h
 obtain ⟨t,rfl⟩:=rx
 obtain ⟨l,rfl,rfl⟩:=part_some pl
 obtain ⟨u,rfl,rfl⟩:=part_some pu
 refine ⟨"str",_,PySem.F.slot_str_getitem.lookup,typeIs_str _ _ _,?_⟩
 refine wpAny_getItem_str_slice (l:=l) (u:=u) (st:=none) hs rfl ?_
 unfold sliceMade slicePicked
 unfold cutS at q hz
 by_cases c:((Builtin.Str.strSliceIndices (l.map (·.1)) (u.map (·.1)) 1 z.length).length == z.length) = true
 ·rw [if_pos c] at q
  rw [if_pos (by simpa using c)]
  exact ⟨.str z,H,I,⟨t,rfl⟩,q⟩
 ·rw [if_neg c] at q hz
  rw [if_neg (by simpa using c)]
  exact ⟨hz,.str _,H,I.tok _,⟨_,rfl⟩,q⟩
def gSl (K:PySem.W.Frag):V → Option Int → Option Int → Hp → VK → Prop:=fun x lo hi H Q=>match x with
 | .str z=>(cutS z lo hi).length ≤ sizeLine ∧ Q (.str (cutS z lo hi)) H
 | .ref a=>(∃ xs,SqL K H a xs ∧ ∀ p,H p = none → Q (.ref p) (upd H p (.lst (cutV xs lo hi)))) ∨ rSlT K (.ref a) lo hi H Q
 | _=>False
theorem slG:SlR X (gSl X.K):=by
 intro pins s σ H x v vl vu lo hi sl Q I rx hs pl pu h
 unfold gSl at h
 split at h
 ·exact sl_str pins s σ H _ v vl vu lo hi sl Q I rx hs pl pu ⟨_,rfl,h.1,h.2⟩
 ·rcases h with ⟨xs,h1,h2⟩ | h
  ·exact sl_list pins s σ H _ v vl vu lo hi sl Q I rx hs pl pu ⟨_,xs,rfl,h1,h2⟩
  ·exact sl_tup pins s σ H _ v vl vu lo hi sl Q I rx hs pl pu h
 ·exact h.elim
end
section
variable {X:Cx} {tg:Expr}
end
end L2
namespace L2
open PySem PySem.Spec PyProof.Rows
def Itx (x:Str):It:=⟨fun i _=>i < x.cps.size,fun i H v H'=>H' = H ∧ ∃ c,x.cps[i]? = some c ∧ v = .str ⟨#[c]⟩,fun i _=>x.cps.size ≤ i⟩
theorem turn_str {P:Program} {w:World} {K:PySem.W.Frag} {tg:Expr} {ty:String} (hty:ty = "str_ascii_iterator" ∨ ty = "str_iterator") (x:Str) (t:Tok) (it:Addr):Turn P w K tg (Itx x) [it] it (fun i h=>h.IsStrIter it ty x t i) where
 mem:=by simp
 obj:=fun i h st b hb=>by
  have e:b = it:=by simpa using hb
  subst e
  obtain ⟨o,e,c,d⟩:=st
  exact ⟨o,e,fun v z=>by rw [d] at z; cases z⟩
 keep:=fun i h h' st k=>let ⟨o,ho,r⟩:=st; ⟨o,k it (by simp) o ho,r⟩
 item:=by
  intro X hP hw hK hc i pins s σ H E I hf st hg
  subst hP hw hK
  obtain ⟨f0,f1,f2,f3,f4,f5⟩:=hf it (by simp)
  have hx:x.cps[i]? = some x.cps[i]:=Array.getElem?_eq_getElem hg
  have fin:∀ (h':Heap) (u:Tok) (k:Nat),h'.IsStrIter it ty x t (i + 1) → Heap.SameBut it s.heap h' → wpAny (model X.prog X.w) X.A (letOwnedTupleGo tg (.ref it) (.str ⟨#[x.cps[i]]⟩ u)) (fun _ s2=>∃ y H',Inv X pins σ H' s2 ∧ RelV y (.str ⟨#[x.cps[i]]⟩ u) ∧ (Itx x).yld i H y H' ∧ s2.heap.IsStrIter it ty x t (i + 1) ∧ ∀ b ∈ [it],H' b = none) E { s with heap:=h',toks:=k }:=fun h' u k st' sb=>by
   have I1:Inv X pins σ H { s with heap:=h',toks:=k }:=I.turned (t':=k) (fun b o hb e=>(sb.2 b hb).trans e) f0 f1 f3 f4 f5
   obtain ⟨o,e,c,d⟩:=id st'
   exact go_of (s:={ s with heap:=h',toks:=k }) e c d (by rcases hty with rfl | rfl <;> decide) ⟨.str ⟨#[x.cps[i]]⟩,H,I1,⟨u,rfl⟩,⟨rfl,_,hx,rfl⟩,st',fun b hb=>(hf b hb).1⟩
  rcases hty with rfl | rfl
  ·exact wpAny_pyNext_ascii_item st hx fun h' st' sb=>⟨_,rfl,fin h' _ _ st' sb⟩
  ·exact wpAny_pyNext_wide_item st hx fun h' st' sb=>⟨_,rfl,fin h' _ _ st' sb⟩
 done:=by
  intro X hP hw hK hc i pins s σ H E I hf st hg
  subst hP hw hK
  obtain ⟨f0,f1,f2,f3,f4,f5⟩:=hf it (by simp)
  rcases hty with rfl | rfl
  ·exact wpAny_pyNext_ascii_end (I.ok.hd hc) st (Array.getElem?_eq_none hg) fun h' eb=>⟨rfl,I.turned (t':=s.toks) (fun b o hb e=>eb b o hb e) f0 f1 f3 f4 f5⟩
  ·exact wpAny_pyNext_wide_end (I.ok.hd hc) st (Array.getElem?_eq_none hg) fun h' eb=>⟨rfl,I.turned (t':=s.toks) (fun b o hb e=>eb b o hb e) f0 f1 f3 f4 f5⟩
 self:=by
  intro A i s Q E st h
  rcases hty with rfl | rfl
  ·exact wpAny_pyIter_striter_ascii st h
  ·exact wpAny_pyIter_striter_wide st h
def iStr (tl:TE):TI:=fun σ H R=>tl σ H fun x H1=>∃ z,x = .str z ∧ R (Itx z) H1
section
variable {X:Cx} {tg:Expr}
theorem pi_str {l:Expr} {tl:TE} (hl:PE X l tl):PI X tg l (iStr tl):=by
 intro pins s σ H R I h
 refine thn (hl pins s σ H _ I h) fun v s1 ⟨x,H1,I1,r1,q1⟩=>?_
 obtain ⟨z,rfl,q⟩:=q1
 obtain ⟨t,rfl⟩:=r1
 have fin:∀ ty,(ty = "str_ascii_iterator" ∨ ty = "str_iterator") → ∀ o,(s1.heap.push o).IsStrIter s1.heap.objs.size ty z t 0 → PIE X pins σ tg R (.ref s1.heap.objs.size) { s1 with heap:=s1.heap.push o }:=fun ty hty o st=>by
  refine ⟨s1.heap.objs.size,[s1.heap.objs.size],_,_,H1,rfl,I1.kept (t':=s1.toks) fun b o e=>Heap.get?_push_of_some _ e,turn_str hty z t _,st,fun b hb=>?_,q⟩
  have e:b = s1.heap.objs.size:=by simpa using hb
  subst e
  exact I1.fpOk (Nat.le_refl _) (I1.hok.fresh (Nat.le_refl _))
 cases ha:z.cps.all (· < 128)
 ·exact wpAny_pyIter_wide ha (fin _ (.inr rfl) _ ⟨_,Heap.get?_push_size _ rfl,rfl,rfl⟩)
 ·exact wpAny_pyIter_ascii ha (fin _ (.inl rfl) _ ⟨_,Heap.get?_push_size _ rfl,rfl,rfl⟩)
end
theorem for_str {x:Str} {g:TG} {tb:TS} {D:Ends} {σ:St} {H:Hp} (Pv:Nat → St → Hp → Prop) (h0:Pv 0 σ H)
  (hs:∀ i c σ H,x.cps[i]? = some c → Pv i σ H → g (.str ⟨#[c]⟩) σ H fun σ2 H2=>tb { D with nx:=Pv (i + 1),ct:=Pv (i + 1),bk:=D.nx } σ2 H2) (hd:∀ σ H,Pv x.cps.size σ H → D.nx σ H) :
  ∃ W:Nat → Nat → St → Hp → Prop,(∃ m,W 0 m σ H) ∧ ∀ i m σ H,W i m σ H →
   ((Itx x).stop i H ∧ D.nx σ H) ∨ ((Itx x).go i H ∧ ∃ N:St → Hp → Prop,(∀ σ' H',N σ' H' → ∃ m',m' < m ∧ W (i + 1) m' σ' H') ∧ ∀ v H',(Itx x).yld i H v H' → g v σ H' fun σ2 H2=>tb { D with nx:=N,ct:=N,bk:=D.nx } σ2 H2):=by
 refine ⟨fun i m σ H=>m = x.cps.size - i ∧ i ≤ x.cps.size ∧ Pv i σ H,⟨x.cps.size,by simp,Nat.zero_le _,h0⟩,?_⟩
 rintro i m σ H ⟨rfl,hi,p⟩
 by_cases hlt:i < x.cps.size
 ·refine .inr ⟨hlt,Pv (i + 1),fun σ' H' p'=>⟨x.cps.size - (i + 1),by omega,rfl,hlt,p'⟩,fun v H' y=>?_⟩
  obtain ⟨rfl,c,hc,rfl⟩:=y
  exact hs i c σ _ hc p
 ·have e:i = x.cps.size:=by omega
  subst e
  exact .inl ⟨Nat.le_refl _,hd σ H p⟩
theorem comp_str {x:Str} {D:Addr} {k:Nat} {fr:List Nat} {g:TG} {tt:TTo} {te:TE} {σ:St} {H:Hp} {R:Hp → Prop} (Pv:Nat → List V → Hp → Prop) (h0:Pv 0 [] (upd H D (.lst [])))
  (hs:∀ i c ys H,x.cps[i]? = some c → i < x.cps.size → Pv i ys H → g (.str ⟨#[c]⟩) (stC k fr σ) H fun σ2 H2=>Wk (stC k fr σ) σ2 ∧ tIfs tt σ2 H2 fun b H3 =>
   if b = true then te σ2 H3 fun v H4=>H4 D = some (.lst ys) ∧ ys.length < sizeLine ∧ NextW x.cps.size i Pv (ys ++ [v]) (upd H4 D (.lst (ys ++ [v]))) else NextW x.cps.size i Pv ys H3)
  (hd:∀ ys H,Pv x.cps.size ys H → R H) :
  ∃ W:Nat → Nat → List V → Hp → Prop,(∃ m,W 0 m [] (upd H D (.lst []))) ∧ ∀ i m ys H,W i m ys H → ((Itx x).stop i H ∧ R H) ∨ ((Itx x).go i H ∧ ∀ v H',(Itx x).yld i H v H' → g v (stC k fr σ) H' fun σ2 H2=>Wk (stC k fr σ) σ2 ∧ tIfs tt σ2 H2 fun c H3 =>
   if c = true then te σ2 H3 fun v H4=>H4 D = some (.lst ys) ∧ ys.length < sizeLine ∧ ∃ m',m' < m ∧ W (i + 1) m' (ys ++ [v]) (upd H4 D (.lst (ys ++ [v]))) else ∃ m',m' < m ∧ W (i + 1) m' ys H3):=by
 refine ⟨fun i m ys H=>m = x.cps.size - i ∧ i ≤ x.cps.size ∧ Pv i ys H,⟨x.cps.size,by simp,Nat.zero_le _,h0⟩,?_⟩
 rintro i m ys H ⟨rfl,hi,p⟩
 by_cases hlt:i < x.cps.size
 ·refine .inr ⟨hlt,fun v H' y=>?_⟩
  obtain ⟨rfl,c,hc,rfl⟩:=y
  exact hs i c ys _ hc hlt p
 ·have e:i = x.cps.size:=by omega
  subst e
  exact .inl ⟨Nat.le_refl _,hd ys H p⟩
theorem compX_list {K:PySem.W.Frag} {a D:Addr} {xs:List V} {k:Nat} {fr:List Nat} {g:TG} {te:TE} {σ:St} {H:Hp} {R:Hp → Prop} (Pv:Nat → List V → Hp → Prop) (h0:Pv 0 [] (upd H D (.lst []))) (hl:∀ i ys H,i ≤ xs.length → Pv i ys H → SqL K H a xs)
  (hs:∀ i x ys H,xs[i]? = some x → i < xs.length → Pv i ys H → g x (stC k fr σ) H fun σ2 H2=>Wk (stC k fr σ) σ2 ∧ te σ2 H2 fun v H4=>H4 D = some (.lst ys) ∧ ys.length < sizeLine ∧ NextW xs.length i Pv (ys ++ [v]) (upd H4 D (.lst (ys ++ [v]))))
  (hd:∀ ys H,Pv xs.length ys H → R H) :
  ∃ W:Nat → Nat → List V → Hp → Prop,(∃ m,W 0 m [] (upd H D (.lst []))) ∧ ∀ i m ys H,W i m ys H → ((Itl K a).stop i H ∧ R H) ∨ ((Itl K a).go i H ∧ ∀ x H',(Itl K a).yld i H x H' → g x (stC k fr σ) H' fun σ2 H2=>Wk (stC k fr σ) σ2 ∧
   te σ2 H2 fun v H4=>H4 D = some (.lst ys) ∧ ys.length < sizeLine ∧ ∃ m',m' < m ∧ W (i + 1) m' (ys ++ [v]) (upd H4 D (.lst (ys ++ [v])))):=by
 refine ⟨fun i m ys H=>m = xs.length - i ∧ i ≤ xs.length ∧ Pv i ys H,⟨xs.length,by simp,Nat.zero_le _,h0⟩,?_⟩
 rintro i m ys H ⟨rfl,hi,p⟩
 have q:=hl i ys H hi p
 by_cases hlt:i < xs.length
 ·refine .inr ⟨⟨xs,xs[i],q,by simp [hlt]⟩,fun x H' y=>?_⟩
  obtain ⟨e,y⟩:=y
  subst e
  exact hs i x ys _ (y xs q) hlt p
 ·have e:i = xs.length:=by omega
  subst e
  exact .inl ⟨⟨xs,q,Nat.le_refl _⟩,hd ys H p⟩
end L2
namespace L2
open PySem PySem.Spec PyProof.Rows
open Builtin.Str in
section
variable {X:Cx}
theorem call_allB (hc:X.calm = true:=by rfl):CallR X (.builtin "all") (fun xs H Q=>∃ (l:Addr) (bs:List Bool),xs = [.ref l] ∧ SqL X.K H l (bs.map V.bl) ∧ Q (.bl (bs.all id)) H):=by
 intro pins s σ H xs us Q I r h
 obtain ⟨l,bs,rfl,hl,q⟩:=h
 obtain ⟨u,rfl,ru⟩:=vals1 r
 cases ru
 obtain ⟨its,rv,pl,hz⟩:=I.list hl
 have hA:X.A.handled = none:=I.ok.hd hc
 have len:bs.length = its.length:=by have:=rv.length; simpa using this
 have hlt:l < s.heap.objs.size:=by obtain ⟨o,e,_⟩:=pl.isList; exact Heap.lt_size e
 refine call_all_walk (wpAny_pyIter_list pl.isList ?_)
 refine ⟨s.heap.objs.size,_,_,_,_,_,fun i=>bs.getD i true,rfl,Walks.list (by simp [hA]) _ l (Nat.ne_of_lt hlt) its.toArray,⟨⟨_,Heap.get?_push_size _ rfl,rfl,rfl⟩,pl.isList.push _⟩,fun i v s' Q' E' hP hQ=>?_,fun h' tk k=>?_⟩
 ·have hP:its[i]? = some v:=by simpa using hP
  have hi:i < bs.length:=by have:=(List.getElem?_eq_some_iff.mp hP).1; omega
  obtain ⟨u',hu',ru'⟩:=rv.get (show (bs.map V.bl)[i]? = some (V.bl bs[i]) by rw [List.getElem?_map,List.getElem?_eq_getElem hi]; rfl)
  rw [hP] at hu'
  cases hu'
  have e:bs.getD i true = bs[i]:=by simp [hi]
  have hQ:Q' (bs.getD i true) s':=hQ
  rw [e] at hQ
  cases (show v = Value.bool bs[i] from ru')
  exact wpAny_truthy_bool hQ
 ·have e:(List.range its.toArray.size).all (fun i=>bs.getD i true) = bs.all id:=by
   rw [Bool.eq_iff_iff,List.all_eq_true,List.all_eq_true]
   have sz:its.toArray.size = bs.length:=by simp [len]
   rw [sz]
   constructor
   ·intro z b hb
    obtain ⟨i,hi,rfl⟩:=List.mem_iff_getElem.mp hb
    have:=z i (List.mem_range.mpr hi)
    simpa [hi] using this
   ·intro z i hi
    have hi:=List.mem_range.mp hi
    have:=z bs[i] (List.getElem_mem hi)
    simpa [hi] using this
  rw [e]
  exact ⟨.bl _,H,I.kept (t':=tk) fun b o e=>k b o (by simpa using Nat.ne_of_lt (Heap.lt_size e)) (Heap.get?_push_of_some _ e),rfl,q⟩
theorem mt_index:MtR X "str.index" (fun x xs H Q=>∃ (z y:Str) (i:Nat) (r:List Nat),x = .str z ∧ xs = [.str y] ∧ Builtin.Str.occurrences z y 0 z.length 1 = i :: r ∧ Q (.int i) H):=by
 intro pins s σ H x xs v us Q I rx rs h
 obtain ⟨z,y,i,r,rfl,rfl,ho,q⟩:=h
 obtain ⟨t,rfl⟩:=rx
 obtain ⟨u,rfl,ru⟩:=vals1 rs
 obtain ⟨t',rfl⟩:=ru
 exact SC.index ho ⟨.int i,H,I.tok _,⟨_,rfl⟩,q⟩
theorem mt_split:MtR X "str.split" (fun x xs H Q=>∃ (z y:Str),x = .str z ∧ xs = [.str y] ∧ (y.length == 0) = false ∧ z.length ≤ sizeLine ∧ (Builtin.Str.partsBetween z (Builtin.Str.occurrences z y 0 z.length (z.length + 1)) y.length).length ≤ sizeLine ∧ (Txt.split z y).length ≤ sizeLine ∧
  ∀ l,H l = none → Q (.ref l) (upd H l (.lst ((Txt.split z y).map V.str)))):=by
 intro pins s σ H x xs v us Q I rx rs h
 obtain ⟨z,y,rfl,rfl,hy,hz,hn,hs,q⟩:=h
 obtain ⟨t,rfl⟩:=rx
 obtain ⟨u,rfl,ru⟩:=vals1 rs
 obtain ⟨t',rfl⟩:=ru
 have fin:∀ (l:List (Str × Tok)) (tk:Nat),l.map (·.1) = Txt.split z y → EP X pins σ Q (.ref s.heap.objs.size) { s with heap:=s.heap.push { cls:=.type "list",data:=.seq (strValues l).toArray },toks:=tk }:=fun l tk e=>by
  refine ⟨.ref s.heap.objs.size,_,I.laid (t':=tk) (o:=.lst ((Txt.split z y).map V.str)) (fun b o e=>Heap.get?_push_of_some _ e) (Nat.le_refl _) ⟨by rw [List.length_map]; exact hs,strValues l,0,?_,Heap.get?_push_size _ rfl⟩,rfl,q _ (I.hok.fresh (Nat.le_refl _))⟩
  rw [← e,List.map_map]
  refine paired_of (by simp [strValues]) fun j a b h1 h2=>?_
  unfold strValues at h2
  rw [List.getElem?_map] at h1 h2
  cases e:l[j]? with
  | none=>rw [e] at h1; cases h1
  | some p=>rw [e] at h1 h2; cases h1; cases h2; exact ⟨p.2,rfl⟩
 cases h1:(decide (z.length < y.length) || decide (strKind z < strKind y))
 ·cases hf:(Builtin.Str.occurrences z y 0 z.length (z.length + 1)).isEmpty
  ·refine call_meets PySem.F.slot_str_split (typeIs_str _ _ _) PySem.F.entry_str_split (PySem.F.args_str_split_2 _ _) (meets_str_split_sep z y t t' h1 hy hf hz hn) ?_
   show EP X pins σ Q (.ref s.heap.objs.size) _
   rw [strsFrom_eq]
   exact fin (numbered s.toks _) _ ((numbered_texts _ _).trans ((if_neg (ne_true_of_eq_false h1)).trans (if_neg (ne_true_of_eq_false hf))).symm)
  ·exact call_meets PySem.F.slot_str_split (typeIs_str _ _ _) PySem.F.entry_str_split (PySem.F.args_str_split_2 _ _) (meets_str_split_not_found z y t t' h1 hy hf) (fin [(z,t)] _ ((if_neg (ne_true_of_eq_false h1)).trans (if_pos hf)).symm)
 ·exact call_meets PySem.F.slot_str_split (typeIs_str _ _ _) PySem.F.entry_str_split (PySem.F.args_str_split_2 _ _) (meets_str_split_cannot_occur z y t t' h1) (fin [(z,t)] _ (if_pos h1).symm)
end
end L2
namespace L2
open PySem PySem.Spec PyProof.Rows
def tFmt (te:TE):TE:=fun σ H Q=>te σ H fun v H1=>match v with
 | .str z=>z.length ≤ sizeLine ∧ Q (.str z) H1
 | .int i=>i.natAbs.log2 < 1920 ∧ Q (.str (toString i)) H1
 | _=>False
def tRpr (te:TE):TE:=fun σ H Q=>te σ H fun v H1=>∃ z,v = .str z ∧ (reprText z).length ≤ sizeLine ∧ Q (.str (reprText z)) H1
def tJoin:List TE → Str → TE
 | [],acc=>fun _ H Q=>Q (.str acc) H
 | t :: ts,acc=>fun σ H Q=>t σ H fun v H1=>∃ y,v = .str y ∧ (acc ++ y).length ≤ sizeLine ∧ tJoin ts (acc ++ y) σ H1 Q
section
variable {X:Cx}
theorem pe_fmt {e:Expr} {te:TE} {pos:Pos} (he:PE X e te):PE X (.FormattedValue e (-1) none pos) (tFmt te):=by
 intro pins s σ H Q I h
 refine wpAny_FormattedValue_plain (thn (he pins s σ H _ I h) fun v s1 ⟨x,H1,I1,r1,q1⟩=>?_)
 cases x with
 | str z =>
  obtain ⟨t,rfl⟩:=r1
  exact formatField_str (fun t' tk=>⟨.str z,H1,I1.kept (t':=tk) fun b o e=>e,⟨t',rfl⟩,q1.2⟩) q1.1
 | int i =>
  obtain ⟨t,rfl⟩:=r1
  exact wpAny_formatField_int q1.1 ⟨.str _,H1,I1.kept (t':=s1.toks + 1 + 1) fun b o e=>e,⟨_,rfl⟩,q1.2⟩
 | _=>exact q1.elim
theorem pe_rpr {e:Expr} {te:TE} {pos:Pos} (he:PE X e te):PE X (.FormattedValue e 114 none pos) (tRpr te):=by
 intro pins s σ H Q I h
 refine wpAny_FormattedValue_repr (thn (he pins s σ H _ I h) fun v s1 ⟨x,H1,I1,r1,q1⟩=>?_)
 obtain ⟨z,rfl,hz,q⟩:=q1
 obtain ⟨t,rfl⟩:=r1
 refine wpAny_pyReprObj_str (formatField_str (fun t' tk=>⟨.str _,H1,I1.kept (t':=tk) fun b o e=>e,⟨t',rfl⟩,q⟩) hz) hz
inductive PJ (X:Cx):List Expr → List TE → Prop where
 | nil:PJ X [] []
 | cons {e:Expr} {es:List Expr} {t:TE} {ts:List TE} (h:PE X e t) (r:PJ X es ts):PJ X (e :: es) (t :: ts)
theorem joins_ok {pins:List (Addr × Obj)} {σ:St} {Q:VK} {es:List Expr} {ts:List TE} (P:PJ X es ts):∀ {s:Shared} {H:Hp} {acc:Str},Inv X pins σ H s → acc.length ≤ sizeLine → tJoin ts acc σ H Q →
  Joins (model X.prog X.w) X.A X.xe (evalEach es X.env) acc (fun out s₁=>out.length ≤ sizeLine ∧ EP X pins σ Q (.str out s₁.toks) { s₁ with toks:=s₁.toks + 1 }) s:=by
 induction P with
 | nil=>intro s H acc I ha h; exact ⟨ha,.str acc,H,I.tok _,⟨_,rfl⟩,h⟩
 | cons he r ih =>
  intro s H acc I ha h
  refine thn (he pins s σ H _ I h) fun v s1 ⟨x,H1,I1,r1,y,ey,hz,q⟩=>?_
  subst ey
  obtain ⟨t,rfl⟩:=r1
  exact ⟨y,t,rfl,hz,ih I1 hz q⟩
theorem pe_join {v₁ v₂:Expr} {rest:List Expr} {ts:List TE} {pos:Pos} (P:PJ X (v₁ :: v₂ :: rest) ts):PE X (.JoinedStr (v₁ :: v₂ :: rest) pos) (tJoin ts Str.empty):=by
 intro pins s σ H Q I h
 exact wpAny_JoinedStr (joins_ok P I (by decide) h)
end
end L2
namespace L2
open PySem PySem.Spec PyProof.Rows
def ExO (a C:Addr):HO:=.ext fun h=>∃ o vs,h.get? a = some o ∧ o.cls = .ref C ∧ o.dict = none ∧ o.data = .fields vs
theorem exo_ok {P:Program} {w:World} {H:Hp} {h:Heap} {a C:Addr} {o:Obj} {vs:Array Value} (e:h.get? a = some o) (c:o.cls = .ref C) (d:o.dict = none) (f:o.data = .fields vs):ObjOk P w H h a (ExO a C):=by
 refine ⟨⟨o,vs,e,c,d,f⟩,⟨o,e⟩,?_⟩
 rintro h1 h2 ⟨o',vs',e',r⟩ k
 exact ⟨o',vs',k o' e',r⟩
section
variable {M:Model} {A:Around} {E:Value → Shared → Prop}
variable {nm q:Str} {C N:Addr} {bs bm:List Value} {hdct:Bool} {sn:List Str} {sub:List Value} {ab:Bool} {col:Option Bool} {dd:Option Addr} {k0 k1 k2 k3 k5:Option Value} {newId:String}
variable {nm' q':Str} {C' N':Addr} {bs' bm':List Value} {hdct':Bool} {sn':List Str} {sub':List Value} {ab':Bool} {col':Option Bool} {dd':Option Addr} {l0 l1 l2 l3 l5:Option Value} {newId':String}
theorem excMatches_base {h:Heap} {g:Array GenState} {d:Drawn} {t:Nat} {os:OsState} {e:Addr} {oe:Obj} {Q:Bool → Shared → Prop}
  (hC:h.get? C = some (excClassObj nm q C N bs bm hdct sn sub ab col dd k0 k1 k2 k3 k5 newId)) (hC':h.get? C' = some (excClassObj nm' q' C' N' bs' bm' hdct' sn' sub' ab' col' dd' l0 l1 l2 l3 l5 newId'))
  (he:h.get? e = some oe) (hcls:oe.cls = .ref C') (hbase:bm.contains (.type "BaseException") = true) (hsub:(Value.ref C' :: bm').contains (.ref C) = true)
  (qq:Q true ⟨h,g,d,t,os⟩):wpAny M A (excMatches (.ref e) (.ref C)) Q E ⟨h,g,d,t,os⟩:=by
 have cB:(Value.ref C :: bm).contains (.type "BaseException") = true:=by rw [List.contains_cons,hbase,Bool.or_true]
 have f:=tc_notTuple
 unfold excMatches
 repeat (first | (with_reducible refine wpAny_loadPart_at he ?_; rw [hcls]) | with_reducible refine wpAny_loadPart_at hC ?_ | (with_reducible refine wpAny_isSubtype_exc hC ?_; rw [cB]) | (with_reducible refine wpAny_isSubtype_exc hC' ?_; rw [hsub]) | wp_step)
 exact qq
end
def subOf (K:PySem.W.Frag) (C' C:Addr):Bool:=match K.lookup C' with
 | some ⟨_,_,.cls cd,_⟩=>cd.mro.contains (.ref C)
 | _=>false
theorem sub_of {K:PySem.W.Frag} {h:Heap} (X:K.In h) {C' C:Addr} {nm q:Str} {N:Addr} {bs bm:List Value} {hdct:Bool} {sn:List Str} {sub:List Value} {ab:Bool} {col:Option Bool} {dd:Option Addr} {k0 k1 k2 k3 k5:Option Value} {newId:String}
  (e:subOf K C' C = true) (hC:h.get? C' = some (excClassObj nm q C' N bs bm hdct sn sub ab col dd k0 k1 k2 k3 k5 newId)):(Value.ref C' :: bm).contains (.ref C) = true:=by
 unfold subOf at e
 split at e
 ·next ho =>
  have:=X _ _ ho
  rw [hC] at this
  injection this with this
  injection this with _ _ hd _
  injection hd with hd
  subst hd
  exact e
 ·cases e
theorem Inv.forget {X:Cx} {pins:List (Addr × Obj)} {σ:St} {H:Hp} {s:Shared} {h':Heap} {t':Nat} {m':Str → Option Value} (I:Inv X pins σ H s) (hn:h'.Ns X.env.locals m') (sb:Heap.SameBut X.env.locals s.heap h') :
  Inv X pins (List.replicate X.N.length none) H { s with heap:=h',toks:=t' }:=by
 have neL:∀ b o,X.s₀.heap.get? b = some o → b ≠ X.env.locals:=fun b o e=>Nat.ne_of_lt (Nat.lt_of_lt_of_le (Heap.lt_size e) I.ok.above)
 have tr:∀ b u,H b = some u → b ≠ X.env.locals:=fun b u e z=>by rw [z,I.free] at e; cases e
 have hok:HOk X.prog X.w H h':=fun a o e=>(I.hok a o e).stay (fun b u hb q=>by
  have hb':∃ u,H b = some u:=by
   rcases hb with rfl | z
   ·exact ⟨_,e⟩
   ·exact ⟨_,z⟩
  obtain ⟨u',hu⟩:=hb'
  exact (sb.2 b (tr b u' hu)).trans q) (fun _ z=>z) fun _ _ z=>z
 refine ⟨I.ok,I.os,I.bare,⟨fun b o e n hb hx=>?_,fun b o e n hb hx=>?_,I.base.free,fun b o e hx=>?_,I.base.tups,I.base.frzs,I.base.tbls⟩,⟨m',hn,fun i x v e1 e2 e3=>?_⟩,fun x c e=>?_,I.free,I.freeC,fun q hq=>?_,hok,by simp⟩
 ·exact (sb.2 b (neL b o e)).trans (I.base.keep b o e n hb hx)
 ·obtain ⟨z,e1⟩:=I.base.slot b o e n hb hx
  exact ⟨z,(sb.2 b (neL b o e)).trans e1⟩
 ·obtain ⟨o',e1⟩:=I.base.there b o e hx
  exact ⟨o',(sb.2 b (neL b o e)).trans e1⟩
 ·rw [List.getElem?_replicate] at e2
  split at e2 <;> cases e2
 ·obtain ⟨v,o,ho,hd⟩:=I.cell x c e
  refine ⟨v,o,(sb.2 c fun z=>?_).trans ho,hd⟩
  obtain ⟨m,⟨o',es,ep,ho',hdt,_⟩,_⟩:=I.loc
  rw [z,ho'] at ho
  cases ho
  rw [hdt] at hd; cases hd
 ·obtain ⟨e,n,ne,nf,d⟩:=I.pin q hq
  exact ⟨(sb.2 _ ne).trans e,n,ne,nf,d⟩
theorem Inv.known {X:Cx} {pins:List (Addr × Obj)} {σ:St} {H:Hp} {s:Shared} {a:Addr} {o:HO} (I:Inv X pins σ H s) (al:Alien X pins H a) (new:ObjOk X.prog X.w (upd H a o) s.heap a o):Inv X pins σ (upd H a o) s:=by
 obtain ⟨a0,a1,a2,a3,a4⟩:=al
 have up:∀ {b:Addr} {u:HO},H b = some u → upd H a o b = some u:=fun e=>(upd_ne (ne_of_none e a0)).trans e
 have hok:HOk X.prog X.w (upd H a o) s.heap:=fun b u e=>by
  by_cases hb:b = a
  ·subst hb; rw [upd_same] at e; cases e; exact new
  ·rw [upd_ne hb] at e
   exact (I.hok b u e).stay (fun c v _ q=>q) (fun c q=>up q) fun c xs q=>up q
 refine ⟨I.ok,I.os,I.bare,⟨I.base.keep,I.base.slot,fun b ob e n hx=>?_,I.base.there,fun b xs e=>up (I.base.tups b xs e),fun b ob u e=>up (I.base.frzs b ob u e),fun b ps e=>let ⟨m,z⟩:=I.base.tbls b ps e; ⟨m,up z⟩⟩,I.loc,I.cell,?_,fun x c e=>?_,fun p hp=>?_,hok,I.len⟩
 ·rw [upd_ne fun z=>by rw [z,a1] at e; cases e]; exact I.base.free b ob e n hx
 ·rw [upd_ne (Ne.symm a2)]; exact I.free
 ·rw [upd_ne (a3 x c e)]; exact I.freeC x c e
 ·obtain ⟨e,n,r⟩:=I.pin p hp
  exact ⟨e,by rw [upd_ne (a4 p hp)]; exact n,r⟩
section
variable {X:Cx}
def dRet (D:Ends):Ends:={ nx:=fun _ _=>False,rt:=D.rt,bk:=fun _ _=>False,ct:=fun _ _=>False }
def xCatchAs (C0:Addr) (i:Nat) (ts:TS) (D:Ends) (n:Nat):XK:=fun cls _ H=>cls = .ref C0 ∧ ∀ (σ:St) (ea:Addr),σ.length = n → H ea = none → ts (dRet D) (σ.set i (some (.ref ea))) (upd H ea (ExO ea C0))
def tTryAs (C0:Addr) (i:Nat) (tb:XK → TS) (ts:TS):TS:=fun D σ H=>tb (xCatchAs C0 i ts D σ.length) D σ H
theorem ps_tryAs {x n:Str} {C C0:Addr} {i:Nat} {newId newId0:String} {bm bm0:List Value} {body:List Stmt} {b₀:Stmt} {suite:List Stmt} {tb:XK → TS} {ts:TS} {np hp pos:Pos} {x0:Str} (hm:X.mg x = some (.ref C)) (hq:PySem.W.excIn X.K C bm newId = true) (hbase:bm.contains (.type "BaseException") = true) (hg:Gl X x)
  (hm0:X.mg x0 = some (.ref C0)) (hq0:PySem.W.excIn X.K C0 bm0 newId0 = true) (hsub:subOf X.K C0 C = true) (hN:X.N.Nodup) (hi:X.N[i]? = some n) (hl:X.env.scope.names.lookup n = some .local)
  (hb:∀ (pn:List (Addr × Obj)) (xe:Value → Shared → Prop) (E:XK),Passes (CX1 X.prog X.w) { X with pn:=pn,xe:=xe } E → PSs { X with pn:=pn,xe:=xe } body (tb E))
  (hh:∀ e,PSs (X.caught e) (b₀ :: suite) ts)
  (hx:X.ex = []:=by rfl) (hs:X.stack = X.env :: X.outer:=by rfl) (hf:X.env.frame = some X.env.locals:=by rfl) (hd:(x == ("__debug__":Str)) = false:=by decide) :
  PS X (.Try body [.ExceptHandler (some (.Name x np)) (some n) (b₀ :: suite) hp] [] [] pos) (tTryAs C0 i tb ts):=by
 intro pins s σ H D I hw
 have O:=exc_own I.ok.mod.kin hm hq
 have O0:=exc_own I.ok.mod.kin hm0 hq0
 refine wpAny_Try_except ?_
 generalize hxe:(fun (e:Value) (s₁:Shared)=>wpAny (model X.prog X.w) X.A (noteFrame e X.env) (fun _ s₂=>wpAny (model X.prog X.w) X.A (setFlight e none) (fun _ s₃=>wpAny (model X.prog X.w) X.A (handleBy e X.env [.ExceptHandler (some (.Name x np)) (some n) (b₀ :: suite) hp]) (SP X pins D) X.xe s₃) X.xe s₂) X.xe s₁) = xe
 have P1:Passes (CX1 X.prog X.w) { X with pn:=X.pn ++ pins,xe:=xe } (xCatchAs C0 i ts D σ.length):=by
  intro pins' σ' H1 s1 e s2 I1 hcx
  obtain ⟨ea,T,cls,H',rfl,os,bare,un,hok,n1,n2,z1,z2,x0,rfl,hE⟩:=hcx
  have I2:Inv X pins σ' H' s2:=Inv.outof rfl (I1.call' os un hok bare (fun b z=>nomatch z))
  have J1:Inv X pins σ' H1 s1:=Inv.outof rfl I1
  have ae:=J1.alien hx n1 z1
  have aT:=J1.alien hx n2 z2
  show xe (.ref ea) s2
  rw [← hxe]
  have fr:X.A.frames = some (X.env :: X.outer):=by rw [I.ok.frames,hs]
  refine x_note fr (by rw [← hs]; exact I2.stack) hf x0 fun h3 T3 hT3 x3 p3=>?_
  have I3:=I2.psd (by rw [hs]; exact p3) (fun r hr=>by simp at hr; rcases hr with rfl | rfl <;> assumption)
  have a3:Alien X pins H' T3:=I2.alien hx (Heap.get?_none_of_le hT3) (I2.hok.fresh hT3)
  refine x_flag (s:={ s2 with heap:=h3 }) x3 fun h4 x4 p4=>?_
  have I4:=I3.psd (p4.mono (by simp) fun b z=>z) (fun r hr=>by simp at hr; rw [hr]; exact a3)
  refine wpAny_handleBy_cons (codeAny_handlers_test (ld_glob (X:=X.caught ea) (I4.catch ea) hg O.bound ?_ hd)) (by intro z; cases z)
  obtain ⟨oe,he,hcls⟩:=x4.cls
  obtain ⟨tl,N,nm,q,bs,hdct,sn,sub,ab,col,dd,k0,k1,k2,k3,k5,mN,hC,hN',hni,TT⟩:=O.obj
  obtain ⟨tl0,N0,nm0,q0,bs0,hdct0,sn0,sub0,ab0,col0,dd0,j0,j1,j2,j3,j5,mN0,hC0,hN0,hni0,TT0⟩:=O0.obj
  refine excMatches_base (I4.bk _ _ hC) (I4.bk _ _ hC0) he hcls (TT.hasType hbase) (sub_of I.ok.mod.kin hsub hC0) ?_
  refine codeAny_handlers_suite_as (x_flag (s:={ s2 with heap:=h4 }) x4 fun h5 x5 p5=>?_)
  have I5:=I4.psd (p5.mono (by simp) fun b z=>z) (fun r hr=>by simp at hr; rw [hr]; exact a3)
  obtain ⟨oe5,vs5,oT5,ts5,e5,c5,d5,_⟩:=x5
  have I6:Inv X pins σ' (upd H' ea (ExO ea C0)) { s2 with heap:=h5 }:=I5.known ae (exo_ok e5 c5.1 c5.2 d5)
  refine store_ok I6 hN hi (.inl hl) (show RelV (.ref ea) (.ref ea) from rfl) (fun s7 I7=>?_) (.inr hl)
  refine wpAny_mono (hh ea pins s7 _ _ (dRet D) (I7.catch ea) (hE σ' ea (I2.len.trans I.len.symm) ae.1)) (fun f s8 hq=>?_) (fun _ _ z=>z.elim)
  cases f with
  | next=>obtain ⟨σ6,H6,J,q6⟩:=hq; exact q6.elim
  | brk=>obtain ⟨σ6,H6,J,q6⟩:=hq; exact q6.elim
  | cont=>obtain ⟨σ6,H6,J,q6⟩:=hq; exact q6.elim
  | ret u =>
   obtain ⟨v6,σ6,H6,J,r6,q6⟩:=hq
   have I8:Inv X pins σ6 H6 s8:=J.uncatch I.ok.hd I.ok.frames
   obtain ⟨m8,n8,_⟩:=I8.loc
   exact wpAny_nameGoes hl n8 (by rw [I.ok.kind]; rfl) fun h9 m9 n9 sb=>⟨v6,_,H6,I8.forget n9 sb,r6,q6⟩
 refine wpAny_mono (hb _ xe _ P1 [] s σ H D (I.into xe) hw) (fun f s1 hq=>?_) (fun _ _ z=>z)
 cases f with
 | next=>obtain ⟨σ6,H6,J,q6⟩:=hq; exact wpAny_execs_nil ⟨σ6,H6,J.outof rfl,q6⟩
 | brk=>obtain ⟨σ6,H6,J,q6⟩:=hq; exact ⟨σ6,H6,J.outof rfl,q6⟩
 | cont=>obtain ⟨σ6,H6,J,q6⟩:=hq; exact ⟨σ6,H6,J.outof rfl,q6⟩
 | ret u=>obtain ⟨v6,σ6,H6,J,r6,q6⟩:=hq; exact ⟨v6,σ6,H6,J.outof rfl,r6,q6⟩
end
end L2
namespace L2
open PySem PySem.Spec PySem.Calls PyProof.Rows PySem.W
structure TxE (K:Frag) (D:Addr):Prop where
 hg:findIn K (.ref D) "__getattribute__" = some (some (.builtin "BaseException.__getattribute__"))
 hk:findIn K (.ref D) "__getattr__" = some none
 hb:mroIn K D (.type "BaseException") = some true
 hf:findObj K D none "__class__" = some (.bind (.builtin "getset_descriptor.__get__") (.builtin "object.__class__"))
 hd:(clsIn K D).isSome = true
 hm:mroIn K D (.type "object") = some true
section
variable {prog:Program} {w:World} {A:Around} {E:Value → Shared → Prop} {s:Shared} {K:Frag} {x C D:Addr} {ox:Obj}
theorem looks_isType {M:Model} {h:Heap} (X:K.In h) (e:(clsIn K D).isSome = true):Looks M h (isType (.ref D)) true:=by
 unfold clsIn at e
 split at e
 ·next ho =>
  intro A' Q' E' s' k q
  unfold isType loadHead
  exact wpAny_bind (wpAny_loadPart (k _ _ (X _ _ ho)) (wpAny_pure q))
 ·cases e
theorem exc_ga (T:TxE K D) {tk:Tok} {Q:Fin → Shared → Prop} (X:K.In s.heap) (I:InstAt s.heap x ox D none) (q:Q (.done (.ret (.ref D))) s) :
  wpAny (model prog w) A (Builtin.«object.__getattribute__» ⟨[.ref x,.str "__class__" tk],[]⟩) Q E s:=by
 obtain ⟨hh,g,d,t,os⟩:=s
 have L0:=I.type (M:=model prog w)
 have L3:=looks_find (M:=model prog w) X I T.hf
 unfold Builtin.«object.__getattribute__»
 repeat (any_goals (first | assumption | with_reducible refine L0.at ?_ | with_reducible refine L3.at ?_ | wp_step))
 exact class_get (s:=⟨hh,g,d,t,os⟩) (ox:=ox) (od:=none) X I T.hm (wpAny_pure q)
theorem exc_check (T:TxE K D) {M:Model} {nameV:Value} {Q:Unit → Shared → Prop} (X:K.In s.heap) (I:InstAt s.heap x ox D none) (q:Q () s):wpAny M A (checkBuiltinCall "BaseException.__getattribute__" ⟨[.ref x,nameV],[]⟩) Q E s:=by
 have hk:builtinKind "BaseException.__getattribute__" = some .slot:=by decide +kernel
 have hsplit:splitId "BaseException.__getattribute__" = some ("BaseException","__getattribute__"):=by decide +kernel
 obtain ⟨hh,g,d,t,os⟩:=s
 have L0:=I.type (M:=M)
 have LB:=looks_mroIn (M:=M) X T.hb
 have ha:=F.args_bexc_ga (.ref x) nameV
 simp only [checkBuiltinCall,hk,hsplit]
 refine wpAny_bind ?_
 ·unfold isInstance
  repeat (first | with_reducible refine L0.at ?_ | with_reducible refine LB.at ?_ | wp_step)
  exact q
theorem isi_class (T:TxE K D) {Q:Option Value → Shared → Prop} (X:K.In s.heap) (I:InstAt s.heap x ox D none) (q:Q (some (.ref D)) { s with toks:=s.toks + 1 }):wpAny (model prog w) A (getAttr? (.ref x) "__class__") Q E s:=by
 obtain ⟨hh,g,d,t,os⟩:=s
 have L0:=I.type (M:=model prog w)
 have L1:=looks_findIn (M:=model prog w) X T.hg
 have L2:=looks_findIn (M:=model prog w) X T.hk
 unfold getAttr? getAttrBy? getAttrBy
 refine wpAny_bind (wpAny_mkText (wpAny_bind (wpAny_attempt (wpAny_holding (wpAny_bind (L0.at (wpAny_bind (L1.at ?_))))))))
 show wpAny _ _ (getAttrByItsOwn _ _ _ _ _ _) _ _ _
 unfold getAttrByItsOwn
 refine wpAny_bind ?_
 show wpAny _ _ (typeLookup (.ref D) "__getattr__") _ _ _
 refine L2.at (wpAny_bind (wpAny_attempt (wpAny_holding ?_)))
 show wpAny _ _ (boundAndCalled _ _ _) _ _ _
 unfold boundAndCalled
 refine wpAny_bind ?_
 rw [F.attr_ValueError.ga.bind (.ref x)]
 refine wpAny_pure ?_
 show wpAny _ _ (call (.builtin "BaseException.__getattribute__") [.ref x,.str "__class__" t]) _ _ _
 refine wpAny_call (codeAny_call_builtin F.attr_ValueError.ga.plain F.entry_bexc_ga (exc_check (s:=⟨hh,g,d,t + 1,os⟩) T X I (exc_ga (s:=⟨hh,g,d,t + 1,os⟩) T X I ?_)))
 first
  | exact handed_on rfl (wpAny_pure q)
  | exact handed_on rfl q
  | exact wpAny_pure (handed_on rfl (wpAny_pure q))
theorem isi_nestedF (T:TxE K D) {c:Value} {dep:Int} {tk:Tok} {Q:Fin → Shared → Prop} (X:K.In s.heap) (I:InstAt s.heap x ox D none) (hty:Looks (model prog w) s.heap (typeOf c) (.type "type")) (his:Looks (model prog w) s.heap (isType c) true)
  (hne:(Value.ref D == c) = false) (hsub:Looks (model prog w) s.heap (isSubtype (.ref D) c) false) (q:Q (.done (.ret (.bool false))) { s with toks:=s.toks + 1 }) :
  wpAny (model prog w) A (Builtin.«isinstance.nested» ⟨[.ref x,c,.int dep tk],[]⟩) Q E s:=by
 have hisD:=looks_isType (M:=model prog w) X T.hd
 obtain ⟨h0,g,d,tt,os⟩:=s
 have L0:=I.type (M:=model prog w)
 have LI:Looks (model prog w) h0 (isInstance (.ref x) c) false:=L0.andThen hsub
 unfold Builtin.«isinstance.nested»
 refine wpAny_bind (L0.at ?_)
 rw [if_neg (by rw [hne]; exact Bool.false_ne_true)]
 refine wpAny_bind (hty.at ?_)
 rw [if_pos (by decide)]
 k_delta "plainIsInstance"
 refine wpAny_bind (wpAny_bind (his.at ?_))
 simp only [Bool.not_true,Bool.false_eq_true,if_false]
 refine wpAny_bind (LI.at ?_)
 simp only [Bool.false_eq_true,if_false]
 refine wpAny_bind (isi_class T X I (wpAny_bind (hisD.at ?_)))
 simp only [Bool.not_true,Bool.false_eq_true,if_false]
 refine wpAny_bind (wpAny_rule (hsub.at ?_))
 first
  | exact wpAny_pure q
  | exact wpAny_pure (wpAny_pure q)
  | exact wpAny_bind (wpAny_pure (wpAny_pure q))
theorem isi_nestedT {c:Value} {dep:Int} {tk:Tok} {Q:Fin → Shared → Prop} (I:InstAt s.heap x ox D none) (hty:Looks (model prog w) s.heap (typeOf c) (.type "type")) (his:Looks (model prog w) s.heap (isType c) true)
  (hne:(Value.ref D == c) = false) (hsub:Looks (model prog w) s.heap (isSubtype (.ref D) c) true) (q:Q (.done (.ret (.bool true))) s) :
  wpAny (model prog w) A (Builtin.«isinstance.nested» ⟨[.ref x,c,.int dep tk],[]⟩) Q E s:=by
 obtain ⟨h0,g,d,tt,os⟩:=s
 have L0:=I.type (M:=model prog w)
 have LI:Looks (model prog w) h0 (isInstance (.ref x) c) true:=L0.andThen hsub
 unfold Builtin.«isinstance.nested»
 refine wpAny_bind (L0.at ?_)
 rw [if_neg (by rw [hne]; exact Bool.false_ne_true)]
 refine wpAny_bind (hty.at ?_)
 rw [if_pos (by decide)]
 k_delta "plainIsInstance"
 refine wpAny_bind (wpAny_bind (his.at ?_))
 simp only [Bool.not_true,Bool.false_eq_true,if_false]
 refine wpAny_bind (LI.at ?_)
 simp only [if_true]
 first
  | exact wpAny_pure q
  | exact wpAny_pure (wpAny_pure q)
  | exact wpAny_bind (wpAny_pure (wpAny_pure q))
theorem isi_nestedX {dep:Int} {tk:Tok} {Q:Fin → Shared → Prop} (I:InstAt s.heap x ox D none) (q:Q (.done (.ret (.bool true))) s) :
  wpAny (model prog w) A (Builtin.«isinstance.nested» ⟨[.ref x,.ref D,.int dep tk],[]⟩) Q E s:=by
 obtain ⟨h0,g,d,tt,os⟩:=s
 have L0:=I.type (M:=model prog w)
 unfold Builtin.«isinstance.nested»
 refine wpAny_bind (L0.at ?_)
 rw [if_pos (by simp)]
 exact wpAny_bind (wpAny_rule (wpAny_pure q))
end
end L2
namespace L2
open PySem PySem.Spec PySem.Calls PyProof.Rows PySem.W
inductive IsiX (K:Frag) (C0:Addr):V → Bool → Prop where
 | self:IsiX K C0 (.ref C0) true
 | notC {C:Addr} (e:kin_not K C0 C = true):IsiX K C0 (.ref C) false
 | ofT {T:String} (e:subIn K (.ref C0) (.type T) = some true) (hty:typeOf (.type T) = pure (.type "type")):IsiX K C0 (.ty T) true
section
variable {X:Cx}
theorem call_isiX:CallR X (.builtin "isinstance") (fun xs H Q=>∃ (ea C0:Addr) (c:V) (b:Bool),xs = [.ref ea,c] ∧ H ea = some (ExO ea C0) ∧ TxE X.K C0 ∧ IsiX X.K C0 c b ∧ Q (.bl b) H):=by
 intro pins s σ H xs us Q I r h
 obtain ⟨ea,C0,c,b,rfl,ho,T,hi,q⟩:=h
 obtain ⟨u,v,rfl,ru,rv⟩:=Vals.two r
 obtain rfl:u = Value.ref ea:=ru
 obtain ⟨⟨o,vs,e1,e2,e3,e4⟩,_,_⟩:=(show ObjOk X.prog X.w H s.heap ea (ExO ea C0) from I.hok ea _ ho)
 have IA:InstAt s.heap ea o C0 none:=⟨e1,e2,by unfold notCls; rw [e4],by rw [e3]; trivial⟩
 have KI:X.K.In s.heap:=fun a ob e=>I.bk _ _ (I.ok.mod.kin a ob e)
 have fin:∀ (b:Bool) (k:Nat),Q (.bl b) H → EP X pins σ Q (.bool b) { s with toks:=k }:=fun b k q=>⟨.bl b,H,I.kept (t':=k) fun _ _ e=>e,rfl,q⟩
 cases hi with
 | self =>
  obtain rfl:v = Value.ref C0:=rv
  exact call_isinstance (S:=fun _ R s=>InstAt s.heap ea o C0 none ∧ R (.ok (.ret (.bool true))) s) (fun _ _ _ _ _ hs=>isinstance_outer (isi_nestedX hs.1 hs.2) (by intro z; cases z)) ⟨IA,fin true _ q⟩
 | @notC C e =>
  obtain rfl:v = Value.ref C:=rv
  unfold kin_not at e
  rw [Bool.and_eq_true,Bool.and_eq_true,Bool.and_eq_true] at e
  obtain ⟨⟨⟨g0,g1⟩,g2⟩,g3⟩:=e
  exact call_isinstance (S:=fun _ R s=>(X.K.In s.heap ∧ InstAt s.heap ea o C0 none) ∧ R (.ok (.ret (.bool false))) { s with toks:=s.toks + 1 })
   (fun _ _ _ _ _ hs=>isinstance_outer (isi_nestedF T hs.1.1 hs.1.2 (looks_typeIn hs.1.1 (beq_iff_eq.mp g2)) (looks_isType hs.1.1 g1) (Bool.eq_false_iff.mpr fun z=>of_decide_eq_true g0 (Value.ref.inj (beq_iff_eq.mp z))) (looks_subIn hs.1.1 (beq_iff_eq.mp g3)) hs.2) (by intro z; cases z)) ⟨⟨KI,IA⟩,fin false _ q⟩
 | @ofT T' e hty =>
  obtain rfl:v = Value.type T':=rv
  exact call_isinstance (S:=fun _ R s=>(X.K.In s.heap ∧ InstAt s.heap ea o C0 none) ∧ R (.ok (.ret (.bool true))) s)
   (fun _ _ _ _ _ hs=>isinstance_outer (isi_nestedT hs.1.2 (Looks.of_pure hty) (Looks.of_pure rfl) (Bool.eq_false_iff.mpr fun z=>by cases beq_iff_eq.mp z) (looks_subIn hs.1.1 e) hs.2) (by intro z; cases z)) ⟨⟨KI,IA⟩,fin true _ q⟩
end
end L2
namespace L2
open PySem PySem.Spec PyProof.Rows
section
variable {X:Cx}
def isB (b:Bool):Value → Bool
 | .bool c=>c == b
 | _=>false
theorem count_bools {bs:List Bool} {b:Bool}:∀ {its:List Value},Vals (bs.map V.bl) its → its.countP (isB b) = bs.count b:=by
 induction bs with
 | nil=>intro its r; cases r; rfl
 | cons c bs ih =>
  intro its r
  cases r with
  | cons r rr =>
   cases (show _ = Value.bool c from r)
   rw [List.countP_cons,List.count_cons,ih rr]
   rfl
theorem mt_countB:MtR X "list.count" (fun x xs H Q=>∃ (l:Addr) (bs:List Bool) (b:Bool),x = .ref l ∧ xs = [.bl b] ∧ H l = some (.lst (bs.map V.bl)) ∧ Q (.int (bs.count b:Nat)) H):=by
 intro pins s σ H x xs v us Q I rx rs h
 obtain ⟨l,bs,b,rfl,rfl,hl,q⟩:=h
 obtain rfl:v = Value.ref l:=rx
 obtain ⟨u,rfl,ru⟩:=vals1 rs
 obtain rfl:u = Value.bool b:=ru
 obtain ⟨z,its,n,rv,e⟩:=(show ObjOk X.prog X.w H s.heap l (.lst (bs.map V.bl)) from I.hok l _ hl)
 refine call_meets PySem.F.slot_list_count ⟨_,e,rfl⟩ PySem.F.entry_list_count (PySem.F.args_list_count_2 _ _) (PySem.SeqAt.list_countAt l its.toArray n none #[] (.bool b) (isB b)) ⟨by simpa using e,fun y hy=>?_,?_⟩
 ·have hy:y ∈ its:=by simpa using hy
  obtain ⟨x,hx,r⟩:=mem_rel rv y hy
  obtain ⟨c,_,rfl⟩:=List.mem_map.mp hx
  obtain rfl:y = Value.bool c:=r
  have:=scl_eqAt (s:=s) (A:=X.A.in1) (x:=.bl c) (y:=.bl b) rfl rfl rfl
  have e:decide (V.bl c = V.bl b) = isB b (.bool c):=by cases c <;> cases b <;> rfl
  rwa [e] at this
 ·rw [show its.toArray.toList = its from by simp,count_bools rv]
  exact ⟨.int _,H,I.tok _,⟨_,rfl⟩,q⟩
end
end L2
namespace T13
open PySem PySem.StrLaws PySem.Builtin.Str
def mk (l:List Nat):Str:=⟨l.toArray⟩
theorem mk_list (x:Str):mk x.cps.toList = x:=by cases x; rfl
theorem mk_len (l:List Nat):(mk l).length = l.length:=by simp [mk,Str.length]
def cutsOf (c:Nat):Nat → List Nat → List Nat
 | _,[]=>[]
 | i,a :: r=>if a = c then i :: cutsOf c (i + 1) r else cutsOf c (i + 1) r
def splt (c:Nat):List Nat → List Nat → List (List Nat)
 | acc,[]=>[acc]
 | acc,d :: r=>if d = c then acc :: splt c [] r else splt c (acc ++ [d]) r
theorem occ_cuts (x:Str) (c:Nat):∀ (r:List Nat) (i:Nat) (st:Array Nat × Nat),x.cps.toList.drop i = r → st.2 ≤ i → st.1.size ≤ i → i + r.length = x.length →
  (forIn (List.range' i (r.length + 1)) st (occBody x ⟨#[c]⟩ x.length (x.length + 1))).run.fst.toList = st.1.toList ++ cutsOf c i r
 | [],i,st,h,h1,h2,h3=>by
  have e:x.cps.toList[i]? = none:=by
   have:=congrArg List.length h
   simp at this ⊢
   omega
  have nf:¬ (((st.fst.size < x.length + 1 ∧ st.snd ≤ i) ∧ i + (⟨#[c]⟩:Str).length ≤ x.length) ∧ subAt x ⟨#[c]⟩ i = true):=fun z=>by
   have:=(subAt_one x c i).mp ⟨z.1.2,z.2⟩
   rw [e] at this; exact nomatch this
  show (forIn (List.range' i 1) st (occBody x ⟨#[c]⟩ x.length (x.length + 1))).run.fst.toList = _
  rw [List.range'_succ]
  simp only [List.forIn_cons,occBody,if_neg nf]
  simp [cutsOf]
 | a :: r,i,st,h,h1,h2,h3=>by
  have e:x.cps.toList[i]? = some a:=by
   have:=congrArg (fun l=>l[0]?) h
   simpa using this
  have hd:x.cps.toList.drop (i + 1) = r:=by
   have:=congrArg (fun l=>l.drop 1) h
   simpa [List.drop_drop] using this
  simp only [List.length_cons] at h3 ⊢
  rw [List.range'_succ]
  by_cases q:a = c
  ·have tf:(((st.fst.size < x.length + 1 ∧ st.snd ≤ i) ∧ i + (⟨#[c]⟩:Str).length ≤ x.length) ∧ subAt x ⟨#[c]⟩ i = true):=by
    have:=(subAt_one x c i).mpr (by rw [e,q])
    exact ⟨⟨⟨by omega,h1⟩,this.1⟩,this.2⟩
   have ih:=occ_cuts x c r (i + 1) (st.1.push i,i + (⟨#[c]⟩:Str).length) hd (Nat.le_refl _) (by simp; omega) (by omega)
   simp only [List.forIn_cons]
   rw [show occBody x ⟨#[c]⟩ x.length (x.length + 1) i st = pure (ForInStep.yield (st.fst.push i,i + (⟨#[c]⟩:Str).length)) from if_pos tf]
   simp only [pure_bind]
   rw [ih]
   simp [cutsOf,q]
  ·have nf:¬ (((st.fst.size < x.length + 1 ∧ st.snd ≤ i) ∧ i + (⟨#[c]⟩:Str).length ≤ x.length) ∧ subAt x ⟨#[c]⟩ i = true):=fun z=>by
    have:=(subAt_one x c i).mp ⟨z.1.2,z.2⟩
    rw [e] at this; exact q (Option.some.inj this)
   have ih:=occ_cuts x c r (i + 1) (st.1,st.2) hd (by show st.2 ≤ i + 1; omega) (by show st.1.size ≤ i + 1; omega) (by omega)
   simp only [List.forIn_cons]
   rw [show occBody x ⟨#[c]⟩ x.length (x.length + 1) i st = pure (ForInStep.yield (st.fst,st.snd)) from if_neg nf]
   simp only [pure_bind]
   rw [ih]
   simp [cutsOf,q]
theorem occ_one (x:Str) (c:Nat):occurrences x ⟨#[c]⟩ 0 x.length (x.length + 1) = cutsOf c 0 x.cps.toList:=by
 rw [occ_eq]
 have:=occ_cuts x c x.cps.toList 0 (#[],0) rfl (Nat.le_refl _) (Nat.le_refl _) (by simp [Str.length])
 simpa [Str.length] using this
theorem parts_splt (x:Str) (c:Nat):∀ (r:List Nat) (b a:Nat),x.cps.toList.drop b = r → a ≤ b → b + r.length = x.length →
  partsFrom x 1 a (cutsOf c b r) = (splt c ((x.cps.toList.drop a).take (b - a)) r).map mk
 | [],b,a,h,hab,hl=>by
  show [strSub x a x.length] = [mk _]
  congr 1
  rw [← mk_list (strSub x a x.length),strSub_toList]
  congr 2
  simp at hl; omega
 | d :: r,b,a,h,hab,hl=>by
  have e:x.cps.toList[b]? = some d:=by
   have:=congrArg (fun l=>l[0]?) h
   simpa using this
  have hd:x.cps.toList.drop (b + 1) = r:=by
   have:=congrArg (fun l=>l.drop 1) h
   simpa [List.drop_drop] using this
  simp only [List.length_cons] at hl
  by_cases q:d = c
  ·rw [cutsOf,if_pos q,splt,if_pos q]
   have ih:=parts_splt x c r (b + 1) (b + 1) hd (Nat.le_refl _) (by omega)
   show strSub x a b :: partsFrom x 1 (b + 1) (cutsOf c (b + 1) r) = _
   rw [ih,List.map_cons]
   congr 1
   ·rw [← mk_list (strSub x a b),strSub_toList]
   ·simp
  ·rw [cutsOf,if_neg q,splt,if_neg q]
   have ih:=parts_splt x c r (b + 1) a hd (by omega) (by omega)
   rw [ih]
   congr 2
   rw [show b + 1 - a = (b - a) + 1 by omega,List.take_add_one]
   congr 1
   rw [List.getElem?_drop,show a + (b - a) = b by omega,e]
   rfl
theorem parts_one (x:Str) (c:Nat):partsBetween x (occurrences x ⟨#[c]⟩ 0 x.length (x.length + 1)) 1 = (splt c [] x.cps.toList).map mk:=by
 rw [partsBetween_eq,occ_one,parts_splt x c x.cps.toList 0 0 rfl (Nat.le_refl _) (by simp [Str.length])]
 simp
theorem kind_ge (x:Str):1 ≤ Builtin.Str.strKind x:=by
 unfold Builtin.Str.strKind
 split
 ·decide
 ·split <;> decide
theorem split_one (x:Str) (c:Nat) (hc:c < 256):Txt.split x ⟨#[c]⟩ = (splt c [] x.cps.toList).map mk:=by
 have hk:Builtin.Str.strKind ⟨#[c]⟩ = 1:=by unfold Builtin.Str.strKind; simp [hc]
 unfold Txt.split
 split
 ·next h =>
  rw [hk] at h
  have:=kind_ge x
  have h0:x.cps.toList = []:=by
   simp [Str.length] at h
   rcases h with h | h
   ·simp [h]
   ·omega
  rw [h0]
  show [x] = [mk []]
  rw [← h0,mk_list]
 ·split
  ·next h =>
   rw [← parts_one]
   rw [List.isEmpty_iff.mp h,partsBetween_eq]
   show [x] = [strSub x 0 x.length]
   rw [sub_whole]
  ·exact parts_one x c
theorem splt_len (c:Nat):∀ (r acc:List Nat),(splt c acc r).length ≤ r.length + 1
 | [],_=>Nat.le_refl _
 | d :: r,acc=>by
  unfold splt
  split
  ·have:=splt_len c r []; simp; omega
  ·have:=splt_len c r (acc ++ [d]); simp; omega
theorem splt_end (c:Nat):∀ (t acc:List Nat),c ∉ t → splt c acc t = [acc ++ t]
 | [],acc,_=>by simp [splt]
 | d :: r,acc,h=>by
  rw [splt,if_neg (fun q=>h (by simp [q])),splt_end c r _ (fun q=>h (by simp [q]))]
  simp
theorem splt_cut (c:Nat) (r:List Nat):∀ (t acc:List Nat),c ∉ t → splt c acc (t ++ c :: r) = (acc ++ t) :: splt c [] r
 | [],acc,_=>by simp [splt]
 | d :: t,acc,h=>by
  rw [List.cons_append,splt,if_neg (fun q=>h (by simp [q])),splt_cut c r t _ (fun q=>h (by simp [q]))]
  simp
def dl (n:Nat):List Nat:=(Nat.toDigits 10 n).map Char.toNat
theorem str_dl (n:Nat):Str.ofString (toString (n:Int)) = mk (dl n):=PySem.W.Fast.ofString_ofList _
theorem dl_if (n:Nat):dl n = if n < 10 then [48 + n] else dl (n / 10) ++ [48 + n % 10]:=by
 unfold dl
 rw [Nat.toDigits_eq_if (by decide)]
 split
 ·next h=>simp [Nat.toNat_digitChar_of_lt_ten h]
 ·simp [Nat.toNat_digitChar_of_lt_ten (Nat.mod_lt n (by decide:0 < 10))]
def figs:List Nat:=[48,49,50,51,52,53,54,55,56,57]
def lets:List Nat:=[97,98,99,100,101,102,103,104,105,106,107,108,109,110,111,112,113,114,115,116,117,118,119,120,121,122]
def madeOf (s t:List Nat):Bool:=!t.isEmpty && t.all s.contains
def isNum (t:List Nat):Bool:=madeOf figs t && (t == [48] || t.head? != some 48)
def numOf (t:List Nat):Int:=t.foldl (fun (n:Int) (c:Nat)=>10 * n + ((c:Int) - 48)) 0
def isLine (count:Int) (ps:List (List Nat)):Bool:=ps.length == 4 && (ps.take 3).all isNum && decide (numOf (ps.getD 1 []) < count) && madeOf lets (ps.getD 3 [])
theorem figs_iff {c:Nat}:c ∈ figs ↔ 48 ≤ c ∧ c < 58:=by
 unfold figs
 simp only [List.mem_cons,List.not_mem_nil,or_false]
 omega
theorem dl_figs (n:Nat):∀ c ∈ dl n,c ∈ figs:=by
 induction n using Nat.strongRecOn with
 | ind n ih =>
  intro c hc
  rw [dl_if] at hc
  split at hc
  ·rw [figs_iff]; simp at hc; omega
  ·rcases List.mem_append.mp hc with h | h
   ·exact ih _ (by omega) c h
   ·rw [figs_iff]; simp at h; omega
theorem dl_ne (n:Nat):dl n ≠ []:=by
 rw [dl_if]; split <;> simp
theorem dl_num (n:Nat):numOf (dl n) = n:=by
 induction n using Nat.strongRecOn with
 | ind n ih =>
  rw [dl_if]
  split
  ·simp [numOf]; omega
  ·have:=ih (n / 10) (by omega)
   unfold numOf at this ⊢
   rw [List.foldl_append,this]
   simp; omega
theorem dl_head (n:Nat) (h:0 < n):(dl n).head? ≠ some 48:=by
 induction n using Nat.strongRecOn with
 | ind n ih =>
  rw [dl_if]
  split
  ·simp; omega
  ·have:=ih (n / 10) (by omega) (by omega)
   rw [List.head?_append]
   cases q:(dl (n / 10)).head? with
   | none=>exact absurd (List.head?_eq_none_iff.mp q) (dl_ne _)
   | some a=>rw [q] at this; simpa using this
theorem dl_made (n:Nat):madeOf figs (dl n) = true:=by
 unfold madeOf
 simp only [Bool.and_eq_true,Bool.not_eq_true',List.isEmpty_eq_false_iff,List.all_eq_true,List.contains_iff_mem]
 exact ⟨dl_ne n,dl_figs n⟩
theorem dl_is (n:Nat):isNum (dl n) = true:=by
 unfold isNum
 rw [dl_made,Bool.true_and]
 rcases Nat.eq_zero_or_pos n with rfl | h
 ·rfl
 ·have:=dl_head n h
  simp [this]
theorem dl_len (n:Nat):∀ k,n < 10 ^ (k + 1) → (dl n).length ≤ k + 1:=by
 induction n using Nat.strongRecOn with
 | ind n ih =>
  intro k hk
  rw [dl_if]
  split
  ·simp
  ·cases k with
   | zero=>simp at hk; omega
   | succ k =>
    have:=ih (n / 10) (by omega) k (by rw [Nat.div_lt_iff_lt_mul (by decide)]; rw [Nat.pow_succ] at hk; omega)
    simp; omega
theorem no_space {t:List Nat} (h:∀ c ∈ t,c ∈ figs ∨ c ∈ lets):32 ∉ t:=fun q=>by
 rcases h 32 q with z | z <;> exact absurd z (by decide)
def lineL (n s p:Nat) (w:List Nat):List Nat:=dl n ++ 32 :: (dl s ++ 32 :: (dl p ++ 32 :: w))
theorem line_parts (n s p:Nat) {w:List Nat} (hw:madeOf lets w = true):splt 32 [] (lineL n s p w) = [dl n,dl s,dl p,w]:=by
 have hf:∀ n,32 ∉ dl n:=fun n=>no_space fun c hc=>.inl (dl_figs n c hc)
 have hl:32 ∉ w:=no_space fun c hc=>.inr (by
  unfold madeOf at hw
  simp only [Bool.and_eq_true,List.all_eq_true,List.contains_iff_mem] at hw
  exact hw.2 c hc)
 unfold lineL
 rw [splt_cut _ _ _ _ (hf n),splt_cut _ _ _ _ (hf s),splt_cut _ _ _ _ (hf p),splt_end _ _ _ hl]
 rfl
theorem line_is (n s p:Nat) {w:List Nat} (hw:madeOf lets w = true) {count:Int} (hc:(s:Int) < count):isLine count [dl n,dl s,dl p,w] = true:=by
 simp [isLine,dl_is,dl_num,hw,hc]
def cps (x:String):List Nat:=x.toList.map Char.toNat
def bads (count:Nat):List (List Nat):=[[],cps "0 0 0",cps "0 0 0 a a",cps "0 0 0 ",cps " 0 0 0 a",cps "0  0 a",cps "0 0 0 A",cps "0 0 0 a1",cps "00 0 0 a",cps "0 0 01 a",cps "-1 0 0 a",cps "0 0 -1 a",cps "0 x 0 a",cps "0 +0 0 a",cps "0 " ++ dl count ++ cps " 0 a",cps "a 0 0 0",cps "0 0 0  a"]
theorem bads_bad:∀ count:Nat,count < 13 → 1 ≤ count → ∀ t ∈ bads count,isLine count (splt 32 [] t) = false:=by decide +kernel
end T13
namespace K13
open PySem L2
def top (i:Nat):Stmt:=PySem.Challenge.pw_scriberow_k13_writings_on_lines.main.body.getD i (.Pass ⟨0,0,0,0⟩)
abbrev s_shown:Stmt:=top 7
abbrev s_is_made_of:Stmt:=top 8
abbrev s_is_number:Stmt:=top 9
abbrev s_number_of:Stmt:=top 10
abbrev s_is_line:Stmt:=top 11
abbrev s_writing_of:Stmt:=top 12
abbrev s_read:Stmt:=top 13
abbrev s_so:Stmt:=top 15
abbrev s_whole:Stmt:=top 16
abbrev s_at:Stmt:=top 17
abbrev s_refused:Stmt:=top 18
abbrev s_under_base:Stmt:=top 19
abbrev s_drawn:Stmt:=top 20
abbrev s_law:Stmt:=top 21
theorem sc_shown:FnScope ["writings"] ["writings"] (defScope s_shown):=fsc
theorem sc_is_made_of:FnScope ["signs","text"] ["signs","text"] (defScope s_is_made_of):=fsc
theorem sc_is_number:FnScope ["text"] ["text"] (defScope s_is_number):=fsc
theorem sc_number_of:FnScope ["text","number","figure"] ["text"] (defScope s_number_of):=fsc
theorem sc_is_line:FnScope ["count","parts"] ["count","parts"] (defScope s_is_line):=fsc
theorem sc_writing_of:FnScope ["count","line","parts"] ["count","line"] (defScope s_writing_of):=fsc
theorem sc_read:FnScope ["count","lines"] ["count","lines"] (defScope s_read):=fsc
theorem sc_so:FnScope ["_law_found","_law_meant","_law_k"] ["_law_found","_law_meant"] (defScope s_so):=fsc
theorem sc_whole:FnScope ["_law_found"] ["_law_found"] (defScope s_whole):=fsc
theorem sc_at:FnScope ["_law_script","_law_k"] ["_law_script","_law_k"] (defScope s_at):=fsc
theorem sc_refused:FnScope ["_law_count","_law_lines"] ["_law_count","_law_lines"] (defScope s_refused):=fsc
theorem sc_under_base:FnScope ["_law_count","_law_lines","e","_law_kinds"] ["_law_count","_law_lines"] (defScope s_under_base):=fsc
theorem sc_drawn:FnScope ["_law_cell","_law_number","_law_place","_law_word","_law_j"] ["_law_cell"] (defScope s_drawn):=fsc
theorem sc_law:FnScope ["_law_script","_law_count","_law_writings","_law_lines","_law_k","_law_cell","_law_number","_law_place","_law_word","_law_line","_law_found","_law_back","_law_one","_law_bad","_law_spot","_law_text"] ["_law_script"] (defScope s_law):=fsc
structure NBs (mg:Str → Option Value):Prop where
 len:mg "len" = none
 min:mg "min" = none
 max:mg "max" = none
 range:mg "range" = none
 int:mg "int" = none
 bool:mg "bool" = none
 str:mg "str" = none
 list:mg "list" = none
 dict:mg "dict" = none
 tuple:mg "tuple" = none
 set:mg "set" = none
 sorted:mg "sorted" = none
 isinstance:mg "isinstance" = none
 enumerate:mg "enumerate" = none
section
variable {P:Program} {w:World} {K:PySem.W.Frag} {mg:Str → Option Value} {base:Heap}
theorem own_so (NB:NBs mg) (D:DefAt K mg "_law_so" s_so ["_law_found","_law_meant"]):∀ n:Nat,L2.Own P w K mg base "_law_so" n ["_law_found","_law_meant"] (spSo n)
 | 0=>by
  obtain ⟨f,fd,F,hm,hb⟩:=D.ex
  exact ⟨f,fd,⟨fun _ _ _ _ h=>h.elim,fun _ _ _ _ _ _ _ _ _ _ _ _ _ h=>h.elim⟩,hm,F.kp,hb⟩
 | n + 1=>by
  have O_so:L2.Own P w K mg base "_law_so" n ["_law_found","_law_meant"] (spSo n):=own_so NB D n
  refine D.own sc_so (fun vs H Q E h=>?_) (fun f cdv A outer s H vs Q E hr h=>?_)
  ·obtain ⟨x,y,d,rfl,_⟩:=h; rfl
  ·obtain ⟨x,y,d,rfl,dx,dy,k⟩:=h
   have hu:=hu_of hr
   have nd:=sc_so.nd
   refine ⟨_,(pss_cons (ps_if (pt_cmpR op_isN (nv 1) pe_non (nomark _)) (pss_one (ps_ret (pe_cmpR op_isN (nv 0) pe_non (nomark _)))) pss_nil)
 (pss_cons (ps_if (pt_val (pe_callB call_isinstanceG (by rfl) NB.isinstance bb_isinstance (pa_cons (nv 1) (pa_cons (nt NB.bool bb_bool) pa_nil)))) (pss_one (ps_ret (pe_and (pe_callB call_isinstanceG (by rfl) NB.isinstance bb_isinstance (pa_cons (nv 0) (pa_cons (nt NB.bool bb_bool) pa_nil))) (pe_one (pe_cmpR (op_eqG hr) (nv 0) (nv 1) (nomark _)))))) pss_nil)
 (pss_cons (ps_if (pt_val (pe_callB call_isinstanceG (by rfl) NB.isinstance bb_isinstance (pa_cons (nv 1) (pa_cons (nt NB.int bb_int) pa_nil)))) (pss_one (ps_ret (pe_and (pe_callB call_isinstanceG (by rfl) NB.isinstance bb_isinstance (pa_cons (nv 0) (pa_cons (nt NB.int bb_int) pa_nil))) (pe_and (pe_not (pe_callB call_isinstanceG (by rfl) NB.isinstance bb_isinstance (pa_cons (nv 0) (pa_cons (nt NB.bool bb_bool) pa_nil)))) (pe_one (pe_cmpR (op_eqG hr) (nv 0) (nv 1) (nomark _))))))) pss_nil)
 (pss_cons (ps_if (pt_val (pe_callB call_isinstanceG (by rfl) NB.isinstance bb_isinstance (pa_cons (nv 1) (pa_cons (nt NB.str bb_str) pa_nil)))) (pss_one (ps_ret (pe_and (pe_callB call_isinstanceG (by rfl) NB.isinstance bb_isinstance (pa_cons (nv 0) (pa_cons (nt NB.str bb_str) pa_nil))) (pe_one (pe_cmpR (op_eqG hr) (nv 0) (nv 1) (nomark _)))))) pss_nil)
 (pss_cons (ps_if (pt_val (pe_callB call_isinstanceG (by rfl) NB.isinstance bb_isinstance (pa_cons (nv 1) (pa_cons (nt NB.dict bb_dict) pa_nil)))) pss_never pss_nil)
 (pss_cons (ps_if (pt_cmpR (op_neG hr) (pe_callB call_isinstanceG (by rfl) NB.isinstance bb_isinstance (pa_cons (nv 1) (pa_cons (nt NB.tuple bb_tuple) pa_nil))) (pe_callB call_isinstanceG (by rfl) NB.isinstance bb_isinstance (pa_cons (nv 0) (pa_cons (nt NB.tuple bb_tuple) pa_nil))) (nomark _)) (pss_one (ps_ret pe_bl)) pss_nil)
 (pss_cons (ps_if (PW.pt (pw_or (pt_cmpR (op_neG hr) (pe_callB call_isinstanceG (by rfl) NB.isinstance bb_isinstance (pa_cons (nv 1) (pa_cons (nt NB.list bb_list) pa_nil))) (pe_callB call_isinstanceG (by rfl) NB.isinstance bb_isinstance (pa_cons (nv 0) (pa_cons (nt NB.list bb_list) pa_nil))) (nomark _)) (pw_or1 (pt_not (pt_val (pe_callB call_isinstanceG (by rfl) NB.isinstance bb_isinstance (pa_cons (nv 1) (pa_cons (pe_tup (pa_cons (nt NB.list bb_list) (pa_cons (nt NB.tuple bb_tuple) pa_nil))) pa_nil)))))))) (pss_one (ps_ret pe_bl)) pss_nil)
 (pss_cons (ps_if (pt_cmpR (op_neG hr) (pe_callB call_lenG (by rfl) NB.len bb_len (pa_cons (nv 0) pa_nil)) (pe_callB call_lenG (by rfl) NB.len bb_len (pa_cons (nv 1) pa_nil)) (nomark _)) (pss_one (ps_ret pe_bl)) pss_nil)
 (pss_cons (ps_for PassesOwn.never rfl (pi_range1 rfl NB.range (pa_cons (pe_callB call_lenG (by rfl) NB.len bb_len (pa_cons (nv 1) pa_nil)) pa_nil)) (pg_nameG nd 2) (pss_one (ps_if (pt_not (pt_val (pe_own O_so hr rfl (pa_cons (pe_ix (ixG hu) (nv 0) (nv 2) (fun _ _=>rfl)) (pa_cons (pe_ix (ixG hu) (nv 1) (nv 2) (fun _ _=>rfl)) pa_nil))))) (pss_one (ps_ret pe_bl)) pss_nil)))
 (pss_one (ps_ret pe_bl))))))))))),?_⟩
   cases dx with
   | non =>
    cases dy
    exact ⟨rfl,_,rfl,iteDT rfl ⟨rfl,k H (Same.refl H)⟩⟩
   | @bl _ b =>
    cases dy
    refine ⟨rfl,_,rfl,iteD (fun z=>nomatch z) ?_⟩
    refine ⟨_,true,.bl _,kt_bool_bool K,_,rfl,iteT ?_⟩
    refine ⟨_,true,.bl _,kt_bool_bool K,_,rfl,iteT ?_⟩
    refine ⟨_,.scal rfl,?_⟩
    rw [decide_eq_true rfl]
    exact k H (Same.refl H)
   | @int _ i =>
    cases dy
    refine ⟨rfl,_,rfl,iteD (fun z=>nomatch z) ?_⟩
    refine ⟨_,false,.int _,kt_int_bool K,_,rfl,iteF ?_⟩
    refine ⟨_,true,.int _,kt_int_int K,_,rfl,iteT ?_⟩
    refine ⟨_,true,.int _,kt_int_int K,_,rfl,iteT ?_⟩
    refine ⟨_,false,.int _,kt_int_bool K,_,rfl,_,rfl,iteT ?_⟩
    refine ⟨_,.scal rfl,?_⟩
    rw [decide_eq_true rfl]
    exact k H (Same.refl H)
   | @str _ x =>
    cases dy
    refine ⟨rfl,_,rfl,iteD (fun z=>nomatch z) ?_⟩
    refine ⟨_,false,.str _,kt_str_bool K,_,rfl,iteF ?_⟩
    refine ⟨_,false,.str _,kt_str_int K,_,rfl,iteF ?_⟩
    refine ⟨_,true,.str _,kt_str_str K,_,rfl,iteT ?_⟩
    refine ⟨_,true,.str _,kt_str_str K,_,rfl,iteT ?_⟩
    refine ⟨_,.scal rfl,?_⟩
    rw [decide_eq_true rfl]
    exact k H (Same.refl H)
   | @tup m a xs ds hx hz hl kx =>
    cases dy with
    | @tup _ b ys _ hy hz' hl' ky =>
    refine ⟨rfl,_,rfl,iteD (fun z=>nomatch z) ?_⟩
    refine ⟨_,false,.tup hy,kt_tuple_bool K,_,rfl,iteF ?_⟩
    refine ⟨_,false,.tup hy,kt_tuple_int K,_,rfl,iteF ?_⟩
    refine ⟨_,false,.tup hy,kt_tuple_str K,_,rfl,iteF ?_⟩
    refine ⟨_,false,.tup hy,kt_tuple_dict K,_,rfl,iteF ?_⟩
    refine ⟨_,true,.tup hy,kt_tuple_tuple K,_,true,.tup hx,kt_tuple_tuple K,_,.scal rfl,_,rfl,iteNS rfl ?_⟩
    refine ⟨_,false,.tup hy,kt_tuple_list K,_,false,.tup hx,kt_tuple_list K,_,.scal rfl,_,rfl,iteNS rfl ?_⟩
    refine ⟨by show 2 ≤ sizeLine; decide,fun p hp=>?_⟩
    have s1:=same_upd (o:=.tup [.ty "list",.ty "tuple"]) hp
    refine ⟨["list","tuple"],_,true,upd_same,.tup (s1 _ _ hy),ka_tuple_lt K,_,rfl,iteNT ?_⟩
    refine ⟨xs.length,.inl ⟨_,.inr (SqT.of (s1 _ _ hx)),rfl⟩,ys.length,.inl ⟨_,.inr (SqT.of (s1 _ _ hy)),rfl⟩,_,.scal rfl,_,rfl,iteNS (congrArg (fun n:Nat=>V.int n) (hl.trans hl'.symm)) ?_⟩
    refine ⟨ys.length,.inl ⟨_,.inr (SqT.of (s1 _ _ hy)),rfl⟩,_,rfl,by omega,by rw [sizeLine_eq] at hz'; omega,?_⟩
    refine for_range (n:=((ys.length:Int)).toNat) (fun j σ H'=>∃ o,σ = [some (.ref a),some (.ref b),o] ∧ Same H H') ⟨_,rfl,s1⟩ ?_ ?_
    ·rintro j σ H1 hj ⟨o,rfl,s2⟩
     have hj':j < ys.length:=by omega
     have g1:xs[j]? = some xs[j]:=List.getElem?_eq_getElem (by omega)
     have g2:ys[j]? = some ys[j]:=List.getElem?_eq_getElem hj'
     have g3:ds[j]? = some ds[j]:=List.getElem?_eq_getElem (by omega)
     refine ⟨_,.tup (SqT.of (s2 _ _ hx)) (by rw [Int.zero_add]; exact atI_nat g1),_,.tup (SqT.of (s2 _ _ hy)) (by rw [Int.zero_add]; exact atI_nat g2),?_⟩
     refine ⟨_,_,ds[j],rfl,(kx j _ _ g1 g3).mono s2,(ky j _ _ g2 g3).mono s2,fun H2 s3=>⟨_,rfl,iteNT ?_⟩⟩
     exact ⟨_,rfl,s2.trans s3⟩
    ·rintro σ H1 ⟨o,rfl,s2⟩
     exact k H1 s2
   | @lst m a xs ds hx hz hl kx =>
    cases dy with
    | @lst _ b ys _ hy hz' hl' ky =>
    refine ⟨rfl,_,rfl,iteD (fun z=>nomatch z) ?_⟩
    refine ⟨_,false,.lst hy,kt_list_bool K,_,rfl,iteF ?_⟩
    refine ⟨_,false,.lst hy,kt_list_int K,_,rfl,iteF ?_⟩
    refine ⟨_,false,.lst hy,kt_list_str K,_,rfl,iteF ?_⟩
    refine ⟨_,false,.lst hy,kt_list_dict K,_,rfl,iteF ?_⟩
    refine ⟨_,false,.lst hy,kt_list_tuple K,_,false,.lst hx,kt_list_tuple K,_,.scal rfl,_,rfl,iteNS rfl ?_⟩
    refine ⟨_,true,.lst hy,kt_list_list K,_,true,.lst hx,kt_list_list K,_,.scal rfl,_,rfl,iteNS rfl ?_⟩
    refine ⟨by show 2 ≤ sizeLine; decide,fun p hp=>?_⟩
    have s1:=same_upd (o:=.tup [.ty "list",.ty "tuple"]) hp
    refine ⟨["list","tuple"],_,true,upd_same,.lst (s1 _ _ hy),ka_list_lt K,_,rfl,iteNT ?_⟩
    refine ⟨xs.length,.inl ⟨_,.inl (SqL.of (s1 _ _ hx)),rfl⟩,ys.length,.inl ⟨_,.inl (SqL.of (s1 _ _ hy)),rfl⟩,_,.scal rfl,_,rfl,iteNS (congrArg (fun n:Nat=>V.int n) (hl.trans hl'.symm)) ?_⟩
    refine ⟨ys.length,.inl ⟨_,.inl (SqL.of (s1 _ _ hy)),rfl⟩,_,rfl,by omega,by rw [sizeLine_eq] at hz'; omega,?_⟩
    refine for_range (n:=((ys.length:Int)).toNat) (fun j σ H'=>∃ o,σ = [some (.ref a),some (.ref b),o] ∧ Same H H') ⟨_,rfl,s1⟩ ?_ ?_
    ·rintro j σ H1 hj ⟨o,rfl,s2⟩
     have hj':j < ys.length:=by omega
     have g1:xs[j]? = some xs[j]:=List.getElem?_eq_getElem (by omega)
     have g2:ys[j]? = some ys[j]:=List.getElem?_eq_getElem hj'
     have g3:ds[j]? = some ds[j]:=List.getElem?_eq_getElem (by omega)
     refine ⟨_,.lst (SqL.of (s2 _ _ hx)) (by rw [Int.zero_add]; exact atI_nat g1),_,.lst (SqL.of (s2 _ _ hy)) (by rw [Int.zero_add]; exact atI_nat g2),?_⟩
     refine ⟨_,_,ds[j],rfl,(kx j _ _ g1 g3).mono s2,(ky j _ _ g2 g3).mono s2,fun H2 s3=>⟨_,rfl,iteNT ?_⟩⟩
     exact ⟨_,rfl,s2.trans s3⟩
    ·rintro σ H1 ⟨o,rfl,s2⟩
     exact k H1 s2
def spWhole:Sp:=fun vs H Q _=>∃ i:Int,vs = [.int i] ∧ Q (.bl true) H
theorem own_whole (NB:NBs mg) (D:DefAt K mg "_law_whole" s_whole ["_law_found"]):L2.Own P w K mg base "_law_whole" 1 ["_law_found"] spWhole:=by
 refine D.own sc_whole (fun vs H Q E h=>?_) (fun f cdv A outer s H vs Q E hr h=>?_)
 ·obtain ⟨i,rfl,_⟩:=h; rfl
 ·obtain ⟨i,rfl,k⟩:=h
  refine ⟨_,(pss_one (ps_ret (pe_and (pe_callB call_isinstanceG (by rfl) NB.isinstance bb_isinstance (pa_cons (nv 0) (pa_cons (nt NB.int bb_int) pa_nil))) (pe_one (pe_not (pe_callB call_isinstanceG (by rfl) NB.isinstance bb_isinstance (pa_cons (nv 0) (pa_cons (nt NB.bool bb_bool) pa_nil)))))))),?_⟩
  refine ⟨_,true,.int i,kt_int_int K,_,rfl,?_⟩
  refine iteT ?_
  refine ⟨_,false,.int i,kt_int_bool K,_,rfl,?_⟩
  exact k
def spAt (K:PySem.W.Frag):Sp:=fun vs H Q _=>∃ (a:Addr) (ns:List Int) (i:Int),vs = [.ref a,.int i] ∧ SqL K H a (ns.map V.int) ∧ 0 ≤ i ∧ Q (.int (ns.getD i.toNat 0)) H
theorem own_at (NB:NBs mg) (D:DefAt K mg "_law_at" s_at ["_law_script","_law_k"]):L2.Own P w K mg base "_law_at" 1 ["_law_script","_law_k"] (spAt K):=by
 refine D.own sc_at (fun vs H Q E h=>?_) (fun f cdv A outer s H vs Q E hr h=>?_)
 ·obtain ⟨a,ns,i,rfl,_⟩:=h; rfl
 ·obtain ⟨a,ns,i,rfl,hS,h0,k⟩:=h
  have hu:=hu_of hr
  refine ⟨_,(pss_cons (ps_if (pt_cmpR op_ltG (nv 1) (pe_callB call_lenG (by rfl) NB.len bb_len (pa_cons (nv 0) pa_nil)) (nomark _)) (pss_one (ps_ret (pe_ix (ixG hu) (nv 0) (nv 1) (fun _ _=>rfl)))) pss_nil)
 (pss_one (ps_ret pe_int))),?_⟩
  refine ⟨ns.length,.inl ⟨_,.inl hS,by simp⟩,_,rfl,?_⟩
  by_cases h:i < (ns.length:Int)
  ·refine iteDT h ?_
   obtain ⟨n,rfl⟩:=Int.eq_ofNat_of_zero_le h0
   have hn:n < ns.length:=by omega
   have e:ns.getD ((n:Int)).toNat 0 = ns[n]:=by simp [hn]
   rw [e] at k
   exact ⟨_,.lst hS (atI_nat (by simp [hn])),k⟩
  ·refine iteD h ?_
   have e:ns.getD i.toNat 0 = 0:=by
    have:ns.length ≤ i.toNat:=by omega
    simp [this]
   rw [e] at k
   exact k
end
end K13
namespace K13
open PySem L2 T13
seal L2.PE L2.PA L2.PS L2.PSs
structure NXs (mg:Str → Option Value):Prop where
 all:mg "all" = none
 ve:mg "ValueError" = none
theorem bb_all:bootBuiltins "all" = some (.builtin "all"):=by kernel_rfl
theorem bb_ve:bootBuiltins "ValueError" = some (.type "ValueError"):=by kernel_rfl
theorem fig_cps:(("0123456789":Str)).cps.toList = figs:=by decide +kernel
theorem let_cps:(("abcdefghijklmnopqrstuvwxyz":Str)).cps.toList = lets:=by decide +kernel
theorem emp (t:Str):decide (V.str t = V.str "") = t.cps.toList.isEmpty:=by
 have e0:("":Str) = ⟨#[]⟩:=by decide +kernel
 rw [e0,Bool.eq_iff_iff]
 cases t with
 | mk a=>simp
theorem eq0 {t:Str}:(t.cps.toList == [48]) = decide (V.str t = V.str "0"):=by
 have e0:("0":Str) = ⟨#[48]⟩:=by decide +kernel
 rw [e0,Bool.eq_iff_iff]
 cases t with
 | mk a=>simp [← Array.toList_inj]
theorem eqc {c:Nat}:(!decide (V.str ⟨#[c]⟩ = V.str "0")) = ((some c:Option Nat) != some 48):=by
 have e0:("0":Str) = ⟨#[48]⟩:=by decide +kernel
 rw [e0,Bool.eq_iff_iff]
 simp
theorem fig_ix {c:Nat} (h:c ∈ figs):Builtin.Str.occurrences "0123456789" ⟨#[c]⟩ 0 ("0123456789":Str).length 1 = (c - 48) :: []:=by
 have:∀ c ∈ figs,Builtin.Str.occurrences "0123456789" ⟨#[c]⟩ 0 ("0123456789":Str).length 1 = (c - 48) :: []:=by
  unfold figs
  intro c hc
  simp only [List.mem_cons,List.not_mem_nil,or_false] at hc
  rcases hc with rfl | rfl | rfl | rfl | rfl | rfl | rfl | rfl | rfl | rfl <;> (rw [StrLaws.occ_eq]; decide +kernel)
 exact this c h
theorem numOf_snoc (l:List Nat) (c:Nat):numOf (l ++ [c]) = 10 * numOf l + ((c:Int) - 48):=by simp [numOf]
section
variable {P:Program} {w:World} {K:PySem.W.Frag} {mg:Str → Option Value} {base:Heap} {tF tL:Tok}
def spMade:Sp:=fun vs H Q _=>∃ s t:Str,vs = [.str s,.str t] ∧ t.length ≤ 1000 ∧ ∀ H',Same H H' → Q (.bl (madeOf s.cps.toList t.cps.toList)) H'
theorem own_is_made_of (NX:NXs mg) (D:DefAt K mg "is_made_of" s_is_made_of ["signs","text"]):L2.Own P w K mg base "is_made_of" 1 ["signs","text"] spMade:=by
 refine D.own sc_is_made_of (fun vs H Q E h=>?_) (fun f cdv A outer s H vs Q E hr h=>?_)
 ·obtain ⟨s,t,rfl,_⟩:=h; rfl
 ·obtain ⟨s,t,rfl,hl,q⟩:=h
  have hu:=hu_of hr
  refine ⟨_,(pss_one (ps_ret (pe_and (pe_cmpR (op_neG hr) (nv 1) pe_str (nomark _)) (pe_one (pe_callB call_allB (by rfl) NX.all bb_all (pa_cons (pe_comp (tgs:=["sign"]) (fr:=[0]) (pi_str (nv 1)) (block_mk (tt:=none) (fun _ _ _ _=>(pg_nameC 0)) (fun _ _ _ _=>True.intro) (fun _ _ _ _=>(pe_cmpR op_in_str (nv 0) (nv 1) (by with_unfolding_all rfl))))) pa_nil)))))),?_⟩
  refine ⟨_,.scal rfl,_,rfl,ite2 (fun h=>?_) (fun h=>?_)⟩
  ·refine ⟨t,rfl,fun D hD=>?_⟩
   refine comp_str (x:=t) (fun i ys H1=>ys = ((t.cps.toList.take i).map fun c=>V.bl (s.cps.toList.contains c)) ∧ H1 D = some (.lst ys) ∧ Same H H1) ⟨by simp,upd_same,same_upd hD⟩ ?_ ?_
   ·rintro i c ys H1 hc hi ⟨rfl,h1,sm⟩
    refine ⟨(Wk.refl _).set rfl,?_⟩
    rw [tIfs_none,if_pos rfl]
    refine ⟨_,_,rfl,rfl,?_⟩
    have hi':i < t.cps.toList.length:=by simpa using hi
    have hc':t.cps.toList[i] = c:=by
     rw [← Array.getElem?_toList,List.getElem?_eq_getElem hi'] at hc
     exact Option.some.inj hc
    have lt:t.cps.toList.length = t.length:=by simp [Str.length]
    refine ⟨h1,by rw [List.length_map,List.length_take,sizeLine_eq]; omega,nextW hi ⟨?_,upd_same,fun b u e=>?_⟩⟩
    ·rw [List.take_succ_eq_append_getElem hi',List.map_append,hc']
     simp [StrLaws.found_one]
    ·rw [upd_ne (ne_of_none e hD)]; exact sm b u e
   ·rintro ys H1 ⟨rfl,h1,sm⟩
    refine ⟨D,t.cps.toList.map s.cps.toList.contains,rfl,?_,?_⟩
    ·have:((t.cps.toList.take t.cps.size).map fun c=>V.bl (s.cps.toList.contains c)) = (t.cps.toList.map s.cps.toList.contains).map V.bl:=by
      rw [List.take_of_length_le (by simp),List.map_map]; rfl
     rw [this] at h1
     exact SqL.of h1
    ·have:=q H1 sm
     unfold madeOf at this
     rw [show (t.cps.toList.map s.cps.toList.contains).all id = t.cps.toList.all s.cps.toList.contains by rw [List.all_map]; rfl]
     rw [emp] at h
     rw [h,Bool.true_and] at this
     exact this
  ·have:=q H (Same.refl H)
   unfold madeOf at this
   rw [emp] at h
   rw [eq_false_of_ne_true h,Bool.false_and] at this
   exact this
def spNum:Sp:=fun vs H Q _=>∃ t:Str,vs = [.str t] ∧ t.length ≤ 1000 ∧ ∀ H',Same H H' → Q (.bl (isNum t.cps.toList)) H'
theorem own_is_number (XF:mg "FIGURES" = some (.str "0123456789" tF)) (O_is_made_of:L2.Own P w K mg base "is_made_of" 1 ["signs","text"] spMade) (D:DefAt K mg "is_number" s_is_number ["text"]):L2.Own P w K mg base "is_number" 2 ["text"] spNum:=by
 refine D.own sc_is_number (fun vs H Q E h=>?_) (fun f cdv A outer s H vs Q E hr h=>?_)
 ·obtain ⟨t,rfl,_⟩:=h; rfl
 ·obtain ⟨t,rfl,hl,q⟩:=h
  have hu:=hu_of hr
  refine ⟨_,(pss_one (ps_ret (pe_and (pe_own O_is_made_of hr rfl (pa_cons (pe_glob (v:=.str _) rfl XF ⟨_,rfl⟩) (pa_cons (nv 0) pa_nil))) (pe_one (pe_or (pe_cmpR (op_eqG hr) (nv 0) pe_str (nomark _)) (pe_one (pe_cmpR (op_neG hr) (pe_ix (ixG hu) (nv 0) pe_int (fun _ _=>rfl)) pe_str (nomark _)))))))),?_⟩
  refine ⟨_,_,rfl,hl,fun H1 s1=>⟨_,rfl,?_⟩⟩
  rw [fig_cps]
  have q:=q H1 s1
  unfold isNum at q
  refine ite2 (fun h=>?_) (fun h=>?_)
  ·rw [h,Bool.true_and] at q
   have hne:t.cps.toList ≠ []:=by
    intro z
    rw [z] at h
    exact absurd h (by decide)
   refine ⟨_,.scal rfl,_,rfl,ite2 (fun h2=>?_) (fun h2=>?_)⟩
   ·rw [eq0,h2,Bool.true_or] at q
    exact q
   ·rw [eq0,eq_false_of_ne_true h2,Bool.false_or] at q
    cases hc:t.cps.toList with
    | nil=>exact absurd hc hne
    | cons c r =>
     refine ⟨_,.str (c:=c) (by rw [sizeLine_eq]; omega) (by rw [hc]; exact atI_nat (j:=0) rfl),_,.scal rfl,?_⟩
     rw [hc] at q
     rw [eqc]
     exact q
  ·rw [eq_false_of_ne_true h,Bool.false_and] at q
   exact q
def spNumOf:Sp:=fun vs H Q _=>∃ t:Str,vs = [.str t] ∧ (∀ c ∈ t.cps.toList,c ∈ figs) ∧ Q (.int (numOf t.cps.toList)) H
theorem own_number_of (XF:mg "FIGURES" = some (.str "0123456789" tF)) (D:DefAt K mg "number_of" s_number_of ["text"]):L2.Own P w K mg base "number_of" 1 ["text"] spNumOf:=by
 refine D.own sc_number_of (fun vs H Q E h=>?_) (fun f cdv A outer s H vs Q E hr h=>?_)
 ·obtain ⟨t,rfl,_⟩:=h; rfl
 ·obtain ⟨t,rfl,hf,q⟩:=h
  have hu:=hu_of hr
  have nd:=sc_number_of.nd
  refine ⟨_,(pss_cons (ps_setG nd 1 pe_int)
 (pss_cons (ps_for PassesOwn.never rfl (pi_str (nv 0)) (pg_nameG nd 2) (pss_one (ps_setG nd 1 (pe_op op_addG (pe_op op_mulG pe_int (nv 1)) (pe_bm PySem.F.plainAttrs_str PySem.F.slot_str_index PySem.F.type_str_index mt_index (pe_glob (v:=.str _) rfl XF ⟨_,rfl⟩) (pa_cons (nv 2) pa_nil))))))
 (pss_one (ps_ret (nv 1))))),?_⟩
  refine ⟨t,rfl,?_⟩
  refine for_str (x:=t) (fun i σ H1=>H1 = H ∧ ∃ u,σ = [some (.str t),some (.int (numOf (t.cps.toList.take i))),u]) ⟨rfl,_,rfl⟩ ?_ ?_
  ·rintro i c σ H1 hc ⟨rfl,u,rfl⟩
   have hi:i < t.cps.toList.length:=by
    have:=(Array.getElem?_eq_some_iff.mp hc).1
    simpa using this
   have hc':t.cps.toList[i] = c:=by
    rw [← Array.getElem?_toList,List.getElem?_eq_getElem hi] at hc
    exact Option.some.inj hc
   have hcf:=hf c (by rw [← hc']; exact List.getElem_mem hi)
   refine ⟨.inl ⟨by decide,by decide⟩,?_⟩
   refine ⟨rfl,_,_,_,_,rfl,rfl,fig_ix hcf,?_⟩
   refine ⟨rfl,some (.str ⟨#[c]⟩),?_⟩
   rw [List.take_succ_eq_append_getElem hi,hc',numOf_snoc]
   rw [figs_iff] at hcf
   rw [show ((c - 48:Nat):Int) = (c:Int) - 48 by omega]
   rfl
  ·rintro σ H1 ⟨rfl,u,rfl⟩
   rw [List.take_of_length_le (by simp)]
   exact q
end
end K13
namespace K13
open PySem L2 T13
seal L2.PE L2.PA L2.PS L2.PSs
section
variable {P:Program} {w:World} {K:PySem.W.Frag} {mg:Str → Option Value} {base:Heap} {tF tL:Tok}
def vts (ps:List (List Nat)):List V:=ps.map fun p=>V.str (mk p)
theorem mk_cps (l:List Nat):(mk l).cps.toList = l:=rfl
def spLine:Sp:=fun vs H Q _=>∃ (c:Int) (l:Addr) (ps:List (List Nat)),vs = [.int c,.ref l] ∧ H l = some (.lst (vts ps)) ∧ (∀ p ∈ ps,p.length ≤ 1000) ∧ ∀ H',Same H H' → Q (.bl (isLine c ps)) H'
theorem own_is_line (NB:NBs mg) (NX:NXs mg) (XL:mg "LETTERS" = some (.str "abcdefghijklmnopqrstuvwxyz" tL)) (O_is_made_of:L2.Own P w K mg base "is_made_of" 1 ["signs","text"] spMade) (O_is_number:L2.Own P w K mg base "is_number" 2 ["text"] spNum)
  (O_number_of:L2.Own P w K mg base "number_of" 1 ["text"] spNumOf) (D:DefAt K mg "is_line" s_is_line ["count","parts"]):L2.Own P w K mg base "is_line" 3 ["count","parts"] spLine:=by
 refine D.own sc_is_line (fun vs H Q E h=>?_) (fun f cdv A outer s H vs Q E hr h=>?_)
 ·obtain ⟨c,l,ps,rfl,_⟩:=h; rfl
 ·obtain ⟨c,l,ps,rfl,hl,hp,q⟩:=h
  have hu:=hu_of hr
  refine ⟨_,(pss_cons (ps_if (PW.pt (pw_or (pt_cmpR (op_neG hr) (pe_callB call_lenG (by rfl) NB.len bb_len (pa_cons (nv 1) pa_nil)) pe_int (nomark _)) (pw_or1 (pt_not (pt_val (pe_callB call_allB (by rfl) NX.all bb_all (pa_cons (pe_comp (tgs:=["part"]) (fr:=[]) (pi_list (pe_slice slG (nv 1) po_none (po_some pe_int))) (block_mk (tt:=none) (fun _ _ _ _=>(pg_nameC 0)) (fun _ _ _ _=>True.intro) (fun _ _ _ _=>(pe_own O_is_number hr rfl (pa_cons (nv 0) pa_nil))))) pa_nil))))))) (pss_one (ps_ret pe_bl)) pss_nil)
 (pss_one (ps_ret (pe_and (pe_cmpR op_ltG (pe_own O_number_of hr rfl (pa_cons (pe_ix (ixG hu) (nv 1) pe_int (fun _ _=>rfl)) pa_nil)) (nv 0) (nomark _)) (pe_one (pe_own O_is_made_of hr rfl (pa_cons (pe_glob (v:=.str _) rfl XL ⟨_,rfl⟩) (pa_cons (pe_ix (ixG hu) (nv 1) pe_int (fun _ _=>rfl)) pa_nil)))))))),?_⟩
  refine ⟨ps.length,.inl ⟨_,.inl (SqL.of hl),by simp [vts]⟩,_,.scal rfl,_,rfl,ite2 (fun h4=>?_) (fun h4=>?_)⟩
  ·have:=q H (Same.refl H)
   have e:isLine c ps = false:=by
    unfold isLine
    have:ps.length ≠ 4:=by
     intro z; rw [z] at h4; exact absurd h4 (by decide)
    simp [this]
   rw [e] at this
   exact this
  ·have h4:ps.length = 4:=by
    have:¬ (V.int (ps.length:Int) ≠ V.int 4):=by simpa using h4
    have:V.int (ps.length:Int) = V.int 4:=Classical.not_not.mp this
    injection this with z
    omega
   obtain ⟨p0,p1,p2,p3,rfl⟩:∃ p0 p1 p2 p3,ps = [p0,p1,p2,p3]:=by
    match ps,h4 with
    | [a,b,c,d],_=>exact ⟨a,b,c,d,rfl⟩
   refine ⟨3,rfl,.inl ⟨_,SqL.of hl,fun p0a np=>?_⟩⟩
   have e3:cutV (vts [p0,p1,p2,p3]) none (some 3) = vts [p0,p1,p2]:=rfl
   rw [e3]
   have s1:=same_upd (o:=.lst (vts [p0,p1,p2])) np
   generalize hG:upd H p0a (.lst (vts [p0,p1,p2])) = G at s1 ⊢
   have gp:G p0a = some (.lst (vts [p0,p1,p2])):=by rw [← hG]; exact upd_same
   refine ⟨p0a,rfl,⟨_,SqL.of gp⟩,fun D hD=>?_⟩
   refine comp_list (xs:=vts [p0,p1,p2]) (fun i ys H1=>ys = (([p0,p1,p2].take i).map fun t=>V.bl (isNum t)) ∧ H1 D = some (.lst ys) ∧ Same G H1) ⟨rfl,upd_same,same_upd hD⟩ (fun i ys H1 _ ⟨_,_,sm⟩=>SqL.of (sm _ _ gp)) ?_ ?_
   ·rintro i x ys H1 hx hi ⟨rfl,h1,sm⟩
    have hi':i < [p0,p1,p2].length:=by simpa [vts] using hi
    have ex:x = V.str (mk ([p0,p1,p2][i])):=by
     unfold vts at hx
     rw [List.getElem?_map,List.getElem?_eq_getElem hi'] at hx
     exact (Option.some.inj hx).symm
    subst ex
    refine ⟨(Wk.refl _).set rfl,?_⟩
    rw [tIfs_none,if_pos rfl]
    refine ⟨_,rfl,?_,fun H2 s2=>?_⟩
    ·rw [mk_len]
     refine hp _ ?_
     have:=List.getElem_mem hi'
     simp only [List.mem_cons,List.not_mem_nil,or_false] at this ⊢
     rcases this with z | z | z <;> simp [z]
    ·refine ⟨s2 _ _ h1,by rw [List.length_map,List.length_take,sizeLine_eq]; simp at hi'; omega,nextW hi ⟨?_,upd_same,fun b u e=>?_⟩⟩
     ·rw [List.take_succ_eq_append_getElem hi',List.map_append]; rfl
     ·rw [upd_ne (ne_of_none e hD)]; exact s2 _ _ (sm b u e)
   ·rintro ys H1 ⟨rfl,h1,sm⟩
    refine ⟨D,[p0,p1,p2].map isNum,rfl,SqL.of h1,_,rfl,?_⟩
    have hl1:=sm _ _ (s1 _ _ hl)
    have q:=fun H' (s:Same H1 H')=>q H' ((s1.trans sm).trans s)
    have eL:isLine c [p0,p1,p2,p3] = (([p0,p1,p2].map isNum).all id && decide (numOf p1 < c) && madeOf lets p3):=by
     simp [isLine,Bool.and_assoc]
    rw [eL] at q
    refine ite2 (fun ha=>?_) (fun ha=>?_)
    ·have ha:(([p0,p1,p2].map isNum).all id) = false:=Bool.not_eq_true' _ ▸ ha
     have:=q H1 (Same.refl _)
     rw [ha,Bool.false_and,Bool.false_and] at this
     exact this
    ·have ha:(([p0,p1,p2].map isNum).all id) = true:=by simpa using ha
     rw [ha,Bool.true_and] at q
     have n1:isNum p1 = true:=by simp at ha; exact ha.2.1
     refine ⟨_,.lst (SqL.of hl1) (atI_nat (j:=1) rfl),_,rfl,?_,?_⟩
     ·intro c hc
      unfold isNum madeOf at n1
      simp only [Bool.and_eq_true,List.all_eq_true,List.contains_iff_mem] at n1
      exact n1.1.2 c hc
     ·refine ⟨_,rfl,ite2 (fun hb=>?_) (fun hb=>?_)⟩
      ·rw [show decide (numOf p1 < c) = true from hb,Bool.true_and] at q
       refine ⟨_,.lst (SqL.of hl1) (atI_nat (j:=3) rfl),_,_,rfl,?_,fun H2 s2=>?_⟩
       ·rw [mk_len]; exact hp _ (by simp)
       ·rw [let_cps,mk_cps]; exact q H2 s2
      ·rw [show decide (numOf p1 < c) = false from eq_false_of_ne_true hb,Bool.false_and] at q
       exact q H1 (Same.refl _)
end
end K13
namespace L2
open PySem
theorem pg_tupK {X:Cx} {K:PySem.W.Frag} {es:List Expr} {k:Nat} {t:TGs} {n:Nat} {pos:Pos} (hc:X.calm = true) (h:PGs X es t) (hK:X.K = K:=by rfl)
  (hn:(assignEach es X.env).length = n:=by rfl) (hst:(assignEach es X.env).findIdx? (·.1) = none:=by rfl):PG X (.Tuple es k pos) (gTup K n t):=by
 subst hK; exact pg_tup hc h hn hst
theorem blockX_mk {X:Cx} {scope:Scope} {tgs:List Str} {fr:List Nat} {tg elt:Expr} {g:TG} {te:TE} {E:XK} (tgt:∀ C s₀ H₀ fp,PG (cxComp X scope C (nmC X tgs fr) s₀ H₀ fp) tg g)
  (el:∀ C s₀ H₀ fp (xe:Value → Shared → Prop),Passes (CX1 X.prog X.w) { cxComp X scope C (nmC X tgs fr) s₀ H₀ fp with xe:=xe } E → PE { cxComp X scope C (nmC X tgs fr) s₀ H₀ fp with xe:=xe } elt te)
  (h1:cscB scope = true:=by rfl) (h2:capsB X.env.scope.names scope.names X.N fr = true:=by rfl) (hc:X.calm = true:=by rfl) (hx:X.ex = []:=by rfl) (hs:X.stack = X.env :: X.outer:=by rfl) (hf:X.env.frame = some X.env.locals:=by rfl):BlockX X scope tgs fr tg elt g te E :=
 ⟨csc_of h1,caps_of h2,hc,hx,hs,hf,tgt,el⟩
end L2
namespace K13
open PySem L2 T13 PyProof.Rows
seal L2.PE L2.PA L2.PS L2.PSs
theorem splt_part (c:Nat):∀ (r acc:List Nat),∀ p ∈ splt c acc r,p.length ≤ acc.length + r.length
 | [],acc,p,h=>by simp [splt] at h; simp [h]
 | d :: r,acc,p,h=>by
  unfold splt at h
  split at h
  ·rcases List.mem_cons.mp h with rfl | h
   ·simp
   ·have:=splt_part c r [] p h; simp at this ⊢; omega
  ·have:=splt_part c r _ p h; simp at this ⊢; omega
def rowV (ps:List (List Nat)):List V:=[.int (numOf (ps.getD 0 [])),.int (numOf (ps.getD 1 [])),.int (numOf (ps.getD 2 [])),.str (mk (ps.getD 3 []))]
abbrev pts (z:Str):List (List Nat):=splt 32 [] z.cps.toList
structure Fine (z:Str):Prop where
 len:z.length ≤ 1000
 low:∀ c ∈ z.cps.toList,c < 16 ^ 8
theorem sp_mk:(" ":Str) = ⟨#[32]⟩:=by decide +kernel
theorem parts_of (z:Str):(Txt.split z " ").map V.str = vts (pts z):=by
 rw [sp_mk,split_one z 32 (by decide),List.map_map]; rfl
theorem str_app (a b:Str):(a ++ b).length = a.length + b.length:=by
 cases a; cases b; show (Array.append _ _).size = _; exact Array.size_append
theorem four {a b c d:V}:[a,b,c,d].length ≤ sizeLine:=by rw [sizeLine_eq]; show 4 ≤ _; decide
theorem one_le {a:V}:[a].length ≤ sizeLine:=by rw [sizeLine_eq]; show 1 ≤ _; decide
section
variable {P:Program} {w:World} {K:PySem.W.Frag} {mg:Str → Option Value} {base:Heap} {tF tL:Tok}
def spWr (N:Addr):Sp:=fun vs H Q E=>∃ (c:Int) (z:Str),vs = [.int c,.str z] ∧ Fine z ∧ if isLine c (pts z) = true then (∀ q H',H q = none → H' q = some (.tup (rowV (pts z))) → Same H H' → Q (.ref q) H') else ∀ H',Same H H' → E (.ref N) none H'
structure TxN (K:PySem.W.Frag) (mg:Str → Option Value) (x:Str) (N:Addr):Prop where
 mg:mg x = some (.ref N)
 ex:PySem.W.excIn K N [.type "ValueError",.type "Exception",.type "BaseException",.type "object"] "ValueError.__new__" = true
theorem own_writing_of {N:Addr} (XN:TxN K mg "NoLine" N) (O_is_line:L2.Own P w K mg base "is_line" 3 ["count","parts"] spLine) (O_number_of:L2.Own P w K mg base "number_of" 1 ["text"] spNumOf)
  (D:DefAt K mg "writing_of" s_writing_of ["count","line"]):OwnX P w K mg base "writing_of" 4 ["count","line"] (spWr N):=by
 refine D.ownX sc_writing_of (fun vs H Q E h=>?_) (fun f cdv A outer s H vs Q E hr h=>?_)
 ·obtain ⟨c,z,rfl,_⟩:=h; rfl
 ·obtain ⟨c,z,rfl,fz,q⟩:=h
  have hu:=hu_of hr
  have nd:=sc_writing_of.nd
  refine ⟨_,(pss_cons (ps_setG nd 2 (pe_bm PySem.F.plainAttrs_str PySem.F.slot_str_split PySem.F.type_str_split mt_split (nv 1) (pa_cons pe_str pa_nil)))
 (pss_cons (ps_if (pt_not (pt_val (pe_own O_is_line hr rfl (pa_cons (nv 0) (pa_cons (nv 2) pa_nil))))) (pss_one (ps_raise XN.mg XN.ex PySem.F.excBase_ValueError rfl rfl (pa_cons (pe_join (PJ.cons pe_str (PJ.cons (pe_rpr (nv 1)) PJ.nil))) pa_nil))) pss_nil)
 (pss_one (ps_ret (pe_tup (pa_cons (pe_own O_number_of hr rfl (pa_cons (pe_ix (ixG hu) (nv 2) pe_int (fun _ _=>rfl)) pa_nil)) (pa_cons (pe_own O_number_of hr rfl (pa_cons (pe_ix (ixG hu) (nv 2) pe_int (fun _ _=>rfl)) pa_nil)) (pa_cons (pe_own O_number_of hr rfl (pa_cons (pe_ix (ixG hu) (nv 2) pe_int (fun _ _=>rfl)) pa_nil)) (pa_cons (pe_ix (ixG hu) (nv 2) pe_int (fun _ _=>rfl)) pa_nil))))))))),?_⟩
  have h1:=fz.len
  have hp1:(Builtin.Str.partsBetween z (Builtin.Str.occurrences z " " 0 z.length (z.length + 1)) (" ":Str).length).length ≤ sizeLine:=by
   rw [sp_mk]
   show (Builtin.Str.partsBetween z (Builtin.Str.occurrences z ⟨#[32]⟩ 0 z.length (z.length + 1)) 1).length ≤ sizeLine
   rw [parts_one,List.length_map,sizeLine_eq]
   have:=splt_len 32 z.cps.toList []
   have e:z.cps.toList.length = z.length:=by simp [Str.length]
   omega
  have hp2:(Txt.split z " ").length ≤ sizeLine:=by
   rw [sp_mk,split_one z 32 (by decide),List.length_map,sizeLine_eq]
   have:=splt_len 32 z.cps.toList []
   have e:z.cps.toList.length = z.length:=by simp [Str.length]
   omega
  refine ⟨rfl,_,_,rfl,rfl,by decide +kernel,by rw [sizeLine_eq]; omega,hp1,hp2,fun l hl=>?_⟩
  rw [parts_of]
  have s1:=same_upd (o:=.lst (vts (pts z))) hl
  have hl1:upd H l (.lst (vts (pts z))) l = some (.lst (vts (pts z))):=upd_same
  generalize upd H l (.lst (vts (pts z))) = H1 at s1 hl1
  refine ⟨c,l,pts z,rfl,hl1,fun p hp=>?_,fun H2 s2=>?_⟩
  ·have:=splt_part 32 z.cps.toList [] p hp
   have e:z.cps.toList.length = z.length:=by simp [Str.length]
   rw [List.length_nil] at this; omega
  refine ⟨_,rfl,?_⟩
  by_cases hb:isLine c (pts z) = true
  ·rw [if_pos hb] at q
   rw [hb]
   refine iteNT ?_
   have hl2:=s2 _ _ hl1
   have hb':=hb
   unfold isLine at hb'
   simp only [Bool.and_eq_true,beq_iff_eq,List.all_eq_true] at hb'
   obtain ⟨⟨⟨h4,hn⟩,_⟩,_⟩:=hb'
   generalize pts z = ps at q hl2 h4 hn
   obtain ⟨p0,p1,p2,p3,rfl⟩:∃ p0 p1 p2 p3,ps = [p0,p1,p2,p3]:=by
    match ps,h4 with
    | [a,b,c,d],_=>exact ⟨a,b,c,d,rfl⟩
   have fg:∀ p,isNum p = true → ∀ c ∈ (mk p).cps.toList,c ∈ figs:=fun p h c hc=>by
    unfold isNum madeOf at h
    simp only [Bool.and_eq_true,List.all_eq_true,List.contains_iff_mem] at h
    exact h.1.2 c hc
   refine ⟨_,.lst (SqL.of hl2) (atI_nat (j:=0) rfl),_,rfl,fg _ (hn p0 (by simp)),?_⟩
   refine ⟨_,.lst (SqL.of hl2) (atI_nat (j:=1) rfl),_,rfl,fg _ (hn p1 (by simp)),?_⟩
   refine ⟨_,.lst (SqL.of hl2) (atI_nat (j:=2) rfl),_,rfl,fg _ (hn p2 (by simp)),?_⟩
   refine ⟨_,.lst (SqL.of hl2) (atI_nat (j:=3) rfl),four,fun t ht=>?_⟩
   exact q t _ ((s1.trans s2).free ht) upd_same ((s1.trans s2).trans (same_upd ht))
  ·rw [if_neg hb] at q
   rw [eq_false_of_ne_true hb]
   have hr:=StrLaws.reprText_len z fz.low
   have l1:("no writing is written as ":Str).length = 25:=by decide +kernel
   have l0:(Str.empty ++ ("no writing is written as ":Str)).length = 25:=by decide +kernel
   have hrs:(reprText z).length ≤ sizeLine:=by rw [sizeLine_eq]; omega
   refine iteT ?_
   refine ⟨_,rfl,by rw [l0,sizeLine_eq]; decide,_,rfl,hrs,_,rfl,?_,one_le,q H2 (s1.trans s2)⟩
   rw [str_app,l0,sizeLine_eq]; omega
theorem psnoc {α β:Type} {F:α → β → Prop} {xs:List α} {ys:List β} {x:α} {y:β} (h:Paired F xs ys) (h':F x y):Paired F (xs ++ [x]) (ys ++ [y]):=by
 induction h with
 | nil=>exact .cons h' .nil
 | cons a _ ih=>exact .cons a ih
def RowIs (H:Hp) (u:V) (z:Str):Prop:=∃ a,u = .ref a ∧ H a = some (.tup (rowV (pts z)))
theorem RowIs.same {H H':Hp} {u:V} {z:Str} (h:RowIs H u z) (s:Same H H'):RowIs H' u z:=by
 obtain ⟨a,e,h⟩:=h
 exact ⟨a,e,s _ _ h⟩
theorem RowIs.put {H:Hp} {u:V} {z:Str} {D:Addr} {ys zs:List V} (h:RowIs H u z) (e:H D = some (.lst ys)):RowIs (upd H D (.lst zs)) u z:=by
 obtain ⟨a,rfl,h⟩:=h
 refine ⟨a,rfl,?_⟩
 rw [upd_ne]
 ·exact h
 ·rintro rfl
  rw [h] at e; cases e
def spRead (N:Addr):Sp:=fun vs H Q E=>∃ (c:Int) (l:Addr) (zs:List Str),vs = [.int c,.ref l] ∧ H l = some (.lst (zs.map V.str)) ∧ zs.length ≤ 1000 ∧ (∀ z ∈ zs,Fine z) ∧
 if zs.all (fun z=>isLine c (pts z)) = true then (∀ q us H',H q = none → H' q = some (.lst us) → Paired (RowIs H') us zs → Same H H' → Q (.ref q) H') else ∀ H',Same H H' → E (.ref N) none H'
theorem own_read {N:Addr} (O_writing_of:OwnX P w K mg base "writing_of" 4 ["count","line"] (spWr N)) (D:DefAt K mg "read" s_read ["count","lines"]):OwnX P w K mg base "read" 5 ["count","lines"] (spRead N):=by
 refine D.ownX sc_read (fun vs H Q E h=>?_) (fun f cdv A outer s H vs Q E hr h=>?_)
 ·obtain ⟨c,l,zs,rfl,_⟩:=h; rfl
 ·obtain ⟨c,l,zs,rfl,hl,hz,fz,q⟩:=h
  have hu:=hu_of hr
  refine ⟨_,(pss_one (ps_ret (pe_compX (tgs:=["line"]) (fr:=[0]) (pi_list (nv 1)) (blockX_mk (fun _ _ _ _=>(pg_nameC 0)) (fun _ _ _ _ _ hp=>(pe_ownX O_writing_of hp hr rfl (pa_cons (nv 1) (pa_cons (nv 0) pa_nil))))) passA))),?_⟩
  refine ⟨l,rfl,⟨_,SqL.of hl⟩,fun D hD=>?_⟩
  refine compX_list (xs:=zs.map V.str) (fun i ys H1=>(zs.take i).all (fun z=>isLine c (pts z)) = true ∧ H1 D = some (.lst ys) ∧ Paired (RowIs H1) ys (zs.take i) ∧ Same H H1) ⟨by simp,upd_same,.nil,same_upd hD⟩ (fun i ys H1 _ ⟨_,_,_,sm⟩=>SqL.of (sm _ _ hl)) ?_ ?_
  ·rintro i x ys H1 hx hi ⟨ga,h1,pr,sm⟩
   have hi':i < zs.length:=by simpa using hi
   have ex:x = V.str zs[i]:=by
    rw [List.getElem?_map,List.getElem?_eq_getElem hi'] at hx
    exact (Option.some.inj hx).symm
   subst ex
   have lp:=Paired.length pr
   rw [List.length_take] at lp
   refine ⟨(Wk.refl _).set rfl,c,zs[i],rfl,fz _ (List.getElem_mem hi'),?_⟩
   by_cases hg:isLine c (pts zs[i]) = true
   ·rw [if_pos hg]
    refine fun t H2 ht h2 s2=>⟨s2 _ _ h1,by rw [sizeLine_eq]; omega,nextW hi ⟨?_,upd_same,?_,fun b u e=>?_⟩⟩
    ·rw [List.take_succ_eq_append_getElem hi',List.all_append,ga]; simpa using hg
    ·rw [List.take_succ_eq_append_getElem hi']
     exact psnoc (Paired.mapP pr fun u z h=>RowIs.put (RowIs.same h s2) (s2 _ _ h1)) (RowIs.put ⟨t,rfl,h2⟩ (s2 _ _ h1))
    ·rw [upd_ne (ne_of_none e hD)]; exact s2 _ _ (sm b u e)
   ·rw [if_neg hg]
    have:¬ zs.all (fun z=>isLine c (pts z)) = true:=fun h=>hg (List.all_eq_true.mp h _ (List.getElem_mem hi'))
    rw [if_neg this] at q
    exact fun H2 s2=>q H2 (sm.trans s2)
  ·rintro ys H1 ⟨ga,h1,pr,sm⟩
   rw [List.length_map,List.take_length] at ga pr
   rw [if_pos ga] at q
   exact q D ys H1 hD h1 pr sm
end
end K13
namespace L2
open PySem
theorem call_isiXK {X:Cx} {K:PySem.W.Frag} (hK:X.K = K:=by rfl):CallR X (.builtin "isinstance") (fun xs H Q=>∃ (ea C0:Addr) (c:V) (b:Bool),xs = [.ref ea,c] ∧ H ea = some (ExO ea C0) ∧ TxE K C0 ∧ IsiX K C0 c b ∧ Q (.bl b) H):=by
 subst hK; exact call_isiX
theorem bmK {X:Cx} {K:PySem.W.Frag} {T:String} {r:V → List V → Hp → VK → Prop} {to:TE} {t:TA} {e:Expr} (h:PE X e (tBM X.K T r to t)) (hK:X.K = K:=by rfl):PE X e (tBM K T r to t):=by
 subst hK; exact h
end L2
namespace K13
open PySem L2 T13 PyProof.Rows
seal L2.PE L2.PA L2.PS L2.PSs
structure Wr where
 n:Nat
 s:Nat
 p:Nat
 w:List Nat
structure Wr.Ok (x:Wr):Prop where
 n:x.n < 10 ^ 100
 s:x.s < 10 ^ 100
 p:x.p < 10 ^ 100
 w:x.w.length ≤ 100
 l:madeOf lets x.w = true
def Wr.row (x:Wr):List V:=[.int x.n,.int x.s,.int x.p,.str (T13.mk x.w)]
def Wr.line (x:Wr):Str:=T13.mk (lineL x.n x.s x.p x.w)
theorem mk_app (a b:List Nat):mk a ++ mk b = mk (a ++ b):=by
 show (⟨(a.toArray ++ b.toArray)⟩:Str) = ⟨(a ++ b).toArray⟩
 simp
theorem two_le {a b:V}:[a,b].length ≤ sizeLine:=by rw [sizeLine_eq]; show 2 ≤ _; decide
theorem mk_emp:Str.empty = mk []:=rfl
theorem mk_sp:(" ":Str) = mk [32]:=by decide +kernel
theorem log_ok {n:Nat} (h:n < 10 ^ 100):((n:Int)).natAbs.log2 < 1920:=by
 rw [Int.natAbs_natCast]
 by_cases h0:n = 0
 ·subst h0; decide
 ·rw [Nat.log2_lt h0]
  exact Nat.lt_trans h (by decide +kernel)
theorem dl_le {n:Nat} (h:n < 10 ^ 100):(dl n).length ≤ 100:=dl_len n 99 h
theorem line_len {x:Wr} (h:x.Ok):(lineL x.n x.s x.p x.w).length ≤ 403:=by
 have h1:=dl_le h.n; have h2:=dl_le h.s; have h3:=dl_le h.p; have h4:=h.w
 unfold lineL
 simp only [List.length_append,List.length_cons]
 omega
theorem lets_lt:∀ c ∈ lets,c < 16 ^ 8:=by decide
theorem figs_lt:∀ c ∈ figs,c < 16 ^ 8:=by decide
theorem line_fine {x:Wr} (h:x.Ok):Fine x.line:=by
 have hl:=line_len h
 refine ⟨by unfold Wr.line; rw [mk_len]; omega,fun c hc=>?_⟩
 have hw:∀ c ∈ x.w,c ∈ lets:=by
  have:=h.l
  unfold madeOf at this
  simp only [Bool.and_eq_true,List.all_eq_true,List.contains_iff_mem] at this
  exact this.2
 have hc:c ∈ lineL x.n x.s x.p x.w:=hc
 unfold lineL at hc
 simp only [List.mem_append,List.mem_cons] at hc
 rcases hc with z | z | z | z | z | z | z
 ·exact figs_lt _ (dl_figs _ _ z)
 ·subst z; decide
 ·exact figs_lt _ (dl_figs _ _ z)
 ·subst z; decide
 ·exact figs_lt _ (dl_figs _ _ z)
 ·subst z; decide
 ·exact lets_lt _ (hw _ z)
theorem line_pts {x:Wr} (h:x.Ok):pts x.line = [dl x.n,dl x.s,dl x.p,x.w]:=line_parts x.n x.s x.p h.l
theorem line_row {x:Wr} (h:x.Ok):rowV (pts x.line) = x.row:=by
 rw [line_pts h]
 show [V.int (numOf (dl x.n)),V.int (numOf (dl x.s)),V.int (numOf (dl x.p)),V.str (mk x.w)] = _
 rw [dl_num,dl_num,dl_num]; rfl
def WrAt (H:Hp) (u:V) (x:Wr):Prop:=∃ a,u = .ref a ∧ H a = some (.tup x.row)
theorem WrAt.same {H H':Hp} {u:V} {x:Wr} (h:WrAt H u x) (s:Same H H'):WrAt H' u x:=by
 obtain ⟨a,e,h⟩:=h
 exact ⟨a,e,s _ _ h⟩
section
variable {P:Program} {w:World} {K:PySem.W.Frag} {mg:Str → Option Value} {base:Heap} {tF tL:Tok}
def spShown:Sp:=fun vs H Q _=>∃ (l:Addr) (us:List V) (ws:List Wr),vs = [.ref l] ∧ H l = some (.lst us) ∧ Paired (WrAt H) us ws ∧ ws.length ≤ 1000 ∧ (∀ x ∈ ws,x.Ok) ∧
 ∀ q H',H q = none → H' q = some (.lst (ws.map fun x=>V.str x.line)) → Same H H' → Q (.ref q) H'
theorem own_shown (D:DefAt K mg "shown" s_shown ["writings"]):L2.Own P w K mg base "shown" 1 ["writings"] spShown:=by
 refine D.own sc_shown (fun vs H Q E h=>?_) (fun f cdv A outer s H vs Q E hr h=>?_)
 ·obtain ⟨l,us,ws,rfl,_⟩:=h; rfl
 ·obtain ⟨l,us,ws,rfl,hl,pr,hz,ok,q⟩:=h
  have hu:=hu_of hr
  refine ⟨_,(pss_one (ps_ret (pe_comp (tgs:=["number","scribe","place","saying"]) (fr:=[]) (pi_list (nv 0)) (block_mk (tt:=none) (fun _ _ _ _=>(pg_tupK (K:=K) (n:=4) rfl (pgs_cons (pg_nameC 0) (pgs_cons (pg_nameC 1) (pgs_cons (pg_nameC 2) (pgs_cons (pg_nameC 3) pgs_nil)))))) (fun _ _ _ _=>True.intro) (fun _ _ _ _=>(pe_join (PJ.cons (pe_fmt (nv 0)) (PJ.cons pe_str (PJ.cons (pe_fmt (nv 1)) (PJ.cons pe_str (PJ.cons (pe_fmt (nv 2)) (PJ.cons pe_str (PJ.cons (pe_fmt (nv 3)) PJ.nil))))))))))))),?_⟩
  have lu:=Paired.length pr
  refine ⟨l,rfl,⟨_,SqL.of hl⟩,fun D hD=>?_⟩
  refine comp_list (xs:=us) (fun i ys H1=>ys = ((ws.take i).map fun x=>V.str x.line) ∧ H1 D = some (.lst ys) ∧ Same H H1) ⟨rfl,upd_same,same_upd hD⟩ (fun i ys H1 _ ⟨_,_,sm⟩=>SqL.of (sm _ _ hl)) ?_ ?_
  ·rintro i x ys H1 hx hi ⟨rfl,h1,sm⟩
   have hi':i < ws.length:=by omega
   obtain ⟨a,rfl,ha⟩:=paired_get pr hx (List.getElem?_eq_getElem hi')
   have o:=ok _ (List.getElem_mem hi')
   generalize ew:ws[i] = x at ha o
   refine ⟨a,_,rfl,SqT.of (sm _ _ ha),rfl,_,_,rfl,_,_,rfl,_,_,rfl,_,_,rfl,rfl,?_⟩
   refine ⟨(((((Wk.refl _).set rfl).set rfl).set rfl).set rfl),?_⟩
   rw [tIfs_none,if_pos rfl]
   have l1:=dl_le o.n; have l2:=dl_le o.s; have l3:=dl_le o.p; have l4:=o.w
   have big:∀ l:List Nat,l.length ≤ 500 → (mk l).length ≤ sizeLine:=fun l h=>by rw [mk_len,sizeLine_eq]; omega
   refine ⟨log_ok o.n,_,rfl,?_,_,rfl,?_,log_ok o.s,_,rfl,?_,_,rfl,?_,log_ok o.p,_,rfl,?_,_,rfl,?_,?_,_,rfl,?_,?_⟩
   rotate_left 8
   ·refine ⟨h1,by rw [List.length_map,List.length_take,sizeLine_eq]; omega,nextW hi ⟨?_,upd_same,fun b u e=>?_⟩⟩
    ·rw [List.take_succ_eq_append_getElem hi',List.map_append,ew]
     simp only [str_dl,mk_emp,mk_sp,mk_app]
     simp [Wr.line,lineL]
    ·rw [upd_ne (ne_of_none e hD)]; exact sm b u e
   all_goals
    try simp only [str_dl,mk_emp,mk_sp,mk_app]
    refine big _ ?_
    try simp only [List.length_append,List.length_cons,List.length_nil]
    omega
  ·rintro ys H1 ⟨rfl,h1,sm⟩
   rw [lu,List.take_length] at h1
   exact q D H1 hD h1 sm
def spRef:Sp:=fun vs H Q _=>∃ (c:Int) (l:Addr) (zs:List Str),vs = [.int c,.ref l] ∧ H l = some (.lst (zs.map V.str)) ∧ zs.length ≤ 1000 ∧ (∀ z ∈ zs,Fine z) ∧ zs.all (fun z=>isLine c (pts z)) = false ∧ ∀ H',Same H H' → Q (.bl true) H'
theorem own_refused {N:Addr} (XN:TxN K mg "NoLine" N) (O_read:OwnX P w K mg base "read" 5 ["count","lines"] (spRead N)) (D:DefAt K mg "_law_refused" s_refused ["_law_count","_law_lines"]):L2.Own P w K mg base "_law_refused" 6 ["_law_count","_law_lines"] spRef:=by
 refine D.own sc_refused (fun vs H Q E h=>?_) (fun f cdv A outer s H vs Q E hr h=>?_)
 ·obtain ⟨c,l,zs,rfl,_⟩:=h; rfl
 ·obtain ⟨c,l,zs,rfl,hl,hz,fz,hb,q⟩:=h
  have hu:=hu_of hr
  refine ⟨_,(pss_cons (ps_try XN.mg XN.ex rfl rfl (fun pn xe E hp=>(pss_one (ps_expr (pe_ownX O_read hp hr rfl (pa_cons (nv 0) (pa_cons (nv 1) pa_nil)))))) (fun e=>(pss_one (ps_ret pe_bl))))
 (pss_one (ps_ret pe_bl))),?_⟩
  refine ⟨c,l,zs,rfl,hl,hz,fz,?_⟩
  rw [hb,if_neg (by decide)]
  exact fun H' s'=>⟨rfl,fun σ _=>q H' s'⟩
theorem own_under_base {N R S:Addr} (NB:NBs mg) (NX:NXs mg) (XN:TxN K mg "NoLine" N) (XR:TxN K mg "RowError" R) (XS:TxN K mg "NoScribe" S) (hsub:subOf K N R = true) (TE:TxE K N) (i1:IsiX K N (.ref S) false) (i3:IsiX K N (.ty "ValueError") true) (O_read:OwnX P w K mg base "read" 5 ["count","lines"] (spRead N)) (D:DefAt K mg "_law_under_base" s_under_base ["_law_count","_law_lines"]):L2.Own P w K mg base "_law_under_base" 6 ["_law_count","_law_lines"] spRef:=by
 refine D.own sc_under_base (fun vs H Q E h=>?_) (fun f cdv A outer s H vs Q E hr h=>?_)
 ·obtain ⟨c,l,zs,rfl,_⟩:=h; rfl
 ·obtain ⟨c,l,zs,rfl,hl,hz,fz,hb,q⟩:=h
  have hu:=hu_of hr
  have nd:=sc_under_base.nd
  refine ⟨_,(pss_cons (ps_tryAs (i:=2) XR.mg XR.ex rfl rfl XN.mg XN.ex hsub nd rfl rfl (fun pn xe E hp=>(pss_one (ps_expr (pe_ownX O_read hp hr rfl (pa_cons (nv 0) (pa_cons (nv 1) pa_nil)))))) (fun e=>(pss_cons (ps_setG nd 3 (pe_lst (pa_cons (pe_callB (call_isiXK (K:=K)) (by rfl) NB.isinstance bb_isinstance (pa_cons (nv 2) (pa_cons (pe_glob (v:=.ref _) rfl XS.mg rfl) pa_nil))) (pa_cons (pe_callB (call_isiXK (K:=K)) (by rfl) NB.isinstance bb_isinstance (pa_cons (nv 2) (pa_cons (pe_glob (v:=.ref _) rfl XN.mg rfl) pa_nil))) pa_nil))))
 (pss_one (ps_ret (pe_and (pe_callB (call_isiXK (K:=K)) (by rfl) NB.isinstance bb_isinstance (pa_cons (nv 2) (pa_cons (nt NX.ve bb_ve) pa_nil))) (pe_one (pe_cmpR op_eq (bmK (K:=K) (pe_bm PySem.F.plainAttrs_list PySem.F.slot_list_count PySem.F.type_list_count mt_countB (nv 3) (pa_cons pe_bl pa_nil))) pe_int (nomark _)))))))))
 (pss_one (ps_ret pe_bl))),?_⟩
  refine ⟨c,l,zs,rfl,hl,hz,fz,?_⟩
  rw [hb,if_neg (by decide)]
  refine fun H' s'=>⟨rfl,fun σ ea hσ hea=>?_⟩
  obtain ⟨a,b,c',d,rfl⟩:∃ a b c d,σ = [a,b,c,d]:=by
   match σ,hσ with
   | [a,b,c,d],_=>exact ⟨a,b,c,d,rfl⟩
  refine ⟨ea,N,_,false,rfl,upd_same,TE,i1,?_⟩
  refine ⟨ea,N,_,true,rfl,upd_same,TE,.self,?_⟩
  refine ⟨two_le,fun p hp=>?_⟩
  have hne:ea ≠ p:=by
   rintro rfl; rw [upd_same] at hp; cases hp
  refine ⟨ea,N,_,true,rfl,by rw [upd_ne hne]; exact upd_same,TE,i3,_,rfl,iteT ?_⟩
  refine ⟨.inl ⟨rfl,_,SqL.of upd_same⟩,p,[false,true],true,rfl,rfl,upd_same,rfl,?_⟩
  exact q _ (s'.trans ((same_upd hea).trans (same_upd hp)))
end
end K13
namespace K13
open PySem L2 T13 PyProof.Rows
seal L2.PE L2.PA L2.PS L2.PSs
theorem five_le {a b c d e:V}:[a,b,c,d,e].length ≤ sizeLine:=by rw [sizeLine_eq]; show 5 ≤ _; decide
theorem three_le {a b c:V}:[a,b,c].length ≤ sizeLine:=by rw [sizeLine_eq]; show 3 ≤ _; decide
theorem abc_len:("abcdefghijklmnopqrstuvwxyz":Str).cps.toList.length = 26:=by decide +kernel
theorem abc_sz:("abcdefghijklmnopqrstuvwxyz":Str).length ≤ sizeLine:=by rw [sizeLine_eq]; decide +kernel
theorem made_snoc {w:List Nat} {c:Nat} (h:madeOf lets w = true) (hc:c ∈ lets):madeOf lets (w ++ [c]) = true:=by
 unfold madeOf at h ⊢
 simp only [Bool.and_eq_true,Bool.not_eq_true',List.isEmpty_eq_false_iff,List.all_eq_true,List.contains_iff_mem] at h ⊢
 refine ⟨by simp,fun d hd=>?_⟩
 rcases List.mem_append.mp hd with z | z
 ·exact h.2 d z
 ·simp at z; rw [z]; exact hc
theorem wd (z:String) (h:madeOf lets (z.toList.map Char.toNat) = true ∧ (z.toList.map Char.toNat).length ≤ 10) (e:Str.ofString z = mk (z.toList.map Char.toNat)):∃ l,V.str (Str.ofString z) = .str (mk l) ∧ madeOf lets l = true ∧ l.length ≤ 10:=⟨_,by rw [e],h⟩
section
variable {P:Program} {w:World} {K:PySem.W.Frag} {mg:Str → Option Value} {base:Heap} {tF tL:Tok}
def spDrawn:Sp:=fun vs H Q _=>∃ cell:Int,vs = [.int cell] ∧ ∀ (n p:Nat) (l:List Nat) q H',n < 10 ^ 100 → p < 10 ^ 100 → madeOf lets l = true → l.length ≤ 100 → H' q = some (.tup [.int n,.int p,.str (mk l)]) → Same H H' → Q (.ref q) H'
theorem own_drawn (NB:NBs mg) (D:DefAt K mg "_law_drawn" s_drawn ["_law_cell"]):L2.Own P w K mg base "_law_drawn" 1 ["_law_cell"] spDrawn:=by
 refine D.own sc_drawn (fun vs H Q E h=>?_) (fun f cdv A outer s H vs Q E hr h=>?_)
 ·obtain ⟨cell,rfl,_⟩:=h; rfl
 ·obtain ⟨cell,rfl,q⟩:=h
  have hu:=hu_of hr
  have nd:=sc_drawn.nd
  refine ⟨_,(pss_cons (ps_setG nd 1 (pe_ix (ixG hu) (pe_lst (pa_cons pe_int (pa_cons pe_int (pa_cons pe_int (pa_cons pe_int (pa_cons (pe_op op_modG (nv 0) pe_int) pa_nil)))))) (pe_op op_modG (pe_op op_modG (pe_op op_mulG (nv 0) pe_int) pe_int) pe_int) (fun _ _=>rfl)))
 (pss_cons (ps_setG nd 2 (pe_ix (ixG hu) (pe_lst (pa_cons pe_int (pa_cons pe_int (pa_cons pe_int (pa_cons pe_int (pa_cons (pe_op op_modG (pe_op op_modG (pe_op op_mulG (nv 0) pe_int) pe_int) pe_int) pa_nil)))))) (pe_op op_modG (pe_op op_modG (pe_op op_mulG (nv 0) pe_int) pe_int) pe_int) (fun _ _=>rfl)))
 (pss_cons (ps_setG nd 3 (pe_ix (ixG hu) (pe_lst (pa_cons pe_str (pa_cons pe_str (pa_cons pe_str (pa_cons pe_str (pa_cons pe_str pa_nil)))))) (pe_op op_modG (pe_op op_modG (pe_op op_mulG (nv 0) pe_int) pe_int) pe_int) (fun _ _=>rfl)))
 (pss_cons (ps_for PassesOwn.never rfl (pi_range1 rfl NB.range (pa_cons (pe_op op_modG (pe_op op_modG (pe_op op_mulG (nv 0) pe_int) pe_int) pe_int) pa_nil)) (pg_nameG nd 4) (pss_one (ps_setG nd 3 (pe_op op_addG (nv 3) (pe_ix (ixG hu) pe_str (pe_op op_modG (pe_op op_modG (pe_op op_mulG (pe_op op_addG (nv 0) (pe_op op_mulG pe_int (nv 4))) pe_int) pe_int) pe_int) (fun _ _=>rfl))))))
 (pss_cons (ps_if (pt_cmpR (op_eqG hr) (pe_op op_modG (pe_op op_modG (pe_op op_mulG (nv 0) pe_int) pe_int) pe_int) pe_int (nomark _)) (pss_one (ps_setG nd 1 (pe_op op_modG (nv 0) (pe_callTy call_intG (by rfl) NB.int bb_int (pa_cons (pe_op op_addG pe_str (pe_op op_mulG pe_str pe_int)) pa_nil))))) pss_nil)
 (pss_one (ps_ret (pe_tup (pa_cons (nv 1) (pa_cons (nv 2) (pa_cons (nv 3) pa_nil))))))))))),?_⟩
  refine ⟨by decide,five_le,fun p1 h1=>⟨c48 _,by decide,by decide,?_⟩⟩
  obtain ⟨m1,hm1,e1⟩:=menu (is:=[0,1,10,100000000000000000000,cell % 1000]) (cell * 48271 % 1019 % 5) (by omega) (by simp; omega)
  refine ⟨.int m1,.lst (SqL.of upd_same) e1,?_⟩
  obtain ⟨n1,rfl,hn1⟩:∃ n:Nat,m1 = n ∧ n < 10 ^ 100:=by
   simp only [List.mem_cons,List.not_mem_nil,or_false] at hm1
   rcases hm1 with rfl | rfl | rfl | rfl | rfl
   ·exact ⟨0,rfl,by decide⟩
   ·exact ⟨1,rfl,by decide⟩
   ·exact ⟨10,rfl,by decide⟩
   ·exact ⟨100000000000000000000,rfl,by decide⟩
   ·exact ⟨(cell % 1000).toNat,by omega,Nat.lt_trans (show (cell % 1000).toNat < 1000 by omega) (by decide)⟩
  have s1:=same_upd (o:=.lst [.int 0,.int 1,.int 10,.int 100000000000000000000,.int (cell % 1000)]) h1
  generalize upd H p1 (.lst [.int 0,.int 1,.int 10,.int 100000000000000000000,.int (cell % 1000)]) = H1 at s1 ⊢
  refine ⟨c48 _,by decide,by decide,five_le,fun p2 h2=>⟨c48 _,by decide,by decide,?_⟩⟩
  obtain ⟨m2,hm2,e2⟩:=menu (is:=[0,9,10,1000000,cell * 48271 % 1033 % 50]) (cell * 48271 % 1021 % 5) (by omega) (by simp; omega)
  refine ⟨.int m2,.lst (SqL.of upd_same) e2,?_⟩
  obtain ⟨n2,rfl,hn2⟩:∃ n:Nat,m2 = n ∧ n < 10 ^ 100:=by
   simp only [List.mem_cons,List.not_mem_nil,or_false] at hm2
   rcases hm2 with rfl | rfl | rfl | rfl | rfl
   ·exact ⟨0,rfl,by decide⟩
   ·exact ⟨9,rfl,by decide⟩
   ·exact ⟨10,rfl,by decide⟩
   ·exact ⟨1000000,rfl,by decide⟩
   ·exact ⟨(cell * 48271 % 1033 % 50).toNat,by omega,Nat.lt_trans (show (cell * 48271 % 1033 % 50).toNat < 50 by omega) (by decide)⟩
  have s2:=s1.trans (same_upd (o:=.lst [.int 0,.int 9,.int 10,.int 1000000,.int (cell * 48271 % 1033 % 50)]) h2)
  generalize upd H1 p2 (.lst [.int 0,.int 9,.int 10,.int 1000000,.int (cell * 48271 % 1033 % 50)]) = H2 at s2 ⊢
  refine ⟨five_le,fun p3 h3=>⟨c48 _,by decide,by decide,?_⟩⟩
  obtain ⟨x3,hx3,e3⟩:=atI_lt [V.str "a",V.str "z",V.str "ale",V.str "say",V.str "no"] (cell * 48271 % 1031 % 5) (by omega) (by simp; omega)
  refine ⟨x3,.lst (SqL.of upd_same) e3,?_⟩
  obtain ⟨l3,rfl,hl3,hl4⟩:∃ l,x3 = .str (mk l) ∧ madeOf lets l = true ∧ l.length ≤ 10:=by
   simp only [List.mem_cons,List.not_mem_nil,or_false] at hx3
   rcases hx3 with rfl | rfl | rfl | rfl | rfl
   ·exact wd "a" (by decide +kernel) (by decide +kernel)
   ·exact wd "z" (by decide +kernel) (by decide +kernel)
   ·exact wd "ale" (by decide +kernel) (by decide +kernel)
   ·exact wd "say" (by decide +kernel) (by decide +kernel)
   ·exact wd "no" (by decide +kernel) (by decide +kernel)
  have s3:=s2.trans (same_upd (o:=.lst [.str "a",.str "z",.str "ale",.str "say",.str "no"]) h3)
  generalize upd H2 p3 (.lst [.str "a",.str "z",.str "ale",.str "say",.str "no"]) = H3 at s3 ⊢
  refine ⟨c48 _,by decide,by decide,_,rfl,by omega,by omega,?_⟩
  refine for_range (n:=(cell * 48271 % 1049 % 7).toNat) (fun j σ H'=>∃ l o4,σ = [some (.int cell),some (.int n1),some (.int n2),some (.str (mk l)),o4] ∧ madeOf lets l = true ∧ l.length ≤ 10 + j ∧ H' = H3) ⟨l3,none,rfl,hl3,by omega,rfl⟩ ?_ ?_
  ·rintro j σ H' hj ⟨l,o4,rfl,hl,hn,rfl⟩
   have hj:j < 7:=by omega
   obtain ⟨c,hc,e4⟩:=atI_lt ("abcdefghijklmnopqrstuvwxyz":Str).cps.toList ((cell + 5 * (0 + (j:Int))) * 48271 % 1051 % 26) (by omega) (by rw [abc_len]; omega)
   refine ⟨.inl ⟨by decide,by decide⟩,c48 _,by decide,by decide,_,.str abc_sz e4,?_,?_⟩
   ·rw [mk_len,sizeLine_eq]; show l.length + 1 ≤ _; omega
   ·refine ⟨l ++ [c],some (.int (0 + (j:Int))),?_,made_snoc hl (by rw [← let_cps]; exact hc),by simp; omega,rfl⟩
    rw [← mk_app]
    rfl
  ·rintro σ H' ⟨l,o4,rfl,hl,hn,rfl⟩
   have hn:l.length ≤ 100:=by omega
   refine ⟨c48 _,by decide,by decide,_,.scal rfl,_,rfl,ite2 (fun _=>?_) (fun _=>?_)⟩
   ·refine ⟨mok90,by rw [sizeLine_eq]; decide +kernel,_,ten90,by rw [len91]; decide,by decide,?_⟩
    refine ⟨three_le,fun p hp=>?_⟩
    have e:cell % 10 ^ 90 = (((cell % 10 ^ 90).toNat:Nat):Int):=by
     rw [Int.toNat_of_nonneg (Int.emod_nonneg _ (by decide))]
    have hlt:(cell % 10 ^ 90).toNat < 10 ^ 100:=by
     have:=Int.emod_lt_of_pos cell (show (0:Int) < 10 ^ 90 by decide)
     have h2:(10:Int) ^ 90 < 10 ^ 100:=by decide
     omega
    refine q (cell % 10 ^ 90).toNat n2 l p _ hlt hn2 hl hn ?_ (s3.trans (same_upd hp))
    rw [← e]
    exact upd_same
   ·exact ⟨three_le,fun p hp=>q n1 n2 l p _ hn1 hn2 hl hn upd_same (s3.trans (same_upd hp))⟩
end
end K13
namespace L2
open PySem
theorem passN {X:Cx}:Passes (CX1 X.prog X.w) X (fun _ _ _=>False):=by
 intro pins σ H s e s' I hcx
 obtain ⟨ea,T,cls,H',rfl,os,bare,un,hok,n1,n2,z1,z2,x,hE⟩:=hcx
 exact hE.elim
end L2
namespace K13
open PySem L2 T13 PyProof.Rows
seal L2.PE L2.PA L2.PS L2.PSs
abbrev lns (ws:List Wr):List V:=ws.map fun x=>V.str x.line
structure LW (K:PySem.W.Frag) (a W L:Addr) (ns:List Int) (H:Hp) (us:List V) (ws:List Wr) (c:Int):Prop where
 scr:ScrA K H a (ns.map V.int)
 at_:H W = some (.lst us)
 rows:Paired (WrAt H) us ws
 ln:H L = some (.lst (lns ws))
 ne:W ≠ L
 ok:∀ x ∈ ws,x.Ok ∧ (x.s:Int) < c
theorem LW.same {K:PySem.W.Frag} {a W L:Addr} {ns:List Int} {H H':Hp} {us:List V} {ws:List Wr} {c:Int} (B:LW K a W L ns H us ws c) (s:Same H H'):LW K a W L ns H' us ws c :=
 ⟨B.scr.keep (.of_same s),s _ _ B.at_,Paired.mapP B.rows fun u x h=>WrAt.same h s,s _ _ B.ln,B.ne,B.ok⟩
theorem LW.add {K:PySem.W.Frag} {a W L:Addr} {ns:List Int} {H:Hp} {us:List V} {ws:List Wr} {c:Int} (B:LW K a W L ns H us ws c) {t:Addr} {x:Wr} (ht:H t = some (.tup x.row)) (hx:x.Ok ∧ (x.s:Int) < c) :
  LW K a W L ns (upd (upd H W (.lst (us ++ [.ref t]))) L (.lst (lns ws ++ [.str x.line]))) (us ++ [.ref t]) (ws ++ [x]) c:=by
 have kp:∀ b u,H b = some u → (∀ xs,u ≠ .lst xs) → upd (upd H W (.lst (us ++ [.ref t]))) L (.lst (lns ws ++ [.str x.line])) b = some u:=fun b u e h=>by
  rw [upd_ne (fun z=>by rw [z,B.ln] at e; cases e; exact h _ rfl),upd_ne (fun z=>by rw [z,B.at_] at e; cases e; exact h _ rfl)]; exact e
 refine ⟨B.scr.keep fun b o u e=>kp b _ e (fun _ z=>nomatch z),by rw [upd_ne B.ne]; exact upd_same,?_,by rw [upd_same]; simp [lns],B.ne,fun y hy=>?_⟩
 ·exact Paired.snoc (Paired.mapP B.rows fun u r ⟨b,e,h⟩=>⟨b,e,kp _ _ h (fun _ z=>nomatch z)⟩) ⟨t,rfl,kp _ _ ht (fun _ z=>nomatch z)⟩
 ·rcases List.mem_append.mp hy with z | z
  ·exact B.ok y z
  ·rw [List.mem_singleton.mp z]; exact hx
theorem mk_fit {l:List Nat} (h:l.length ≤ 600) {r:List Nat} (h':r.length ≤ 600):(mk l).length + (mk r).length ≤ sizeLine:=by rw [mk_len,mk_len,sizeLine_eq]; omega
theorem deep_row {H:Hp} {a:Addr} {x:Wr} {n:Nat} (h:H a = some (.tup x.row)):Deep H (n + 1) (.ref a) (.tup [.int x.n,.int x.s,.int x.p,.str (T13.mk x.w)]):=by
 refine .tup h four rfl fun j v d h1 h2=>?_
 match j,h1,h2 with
 | 0,h1,h2=>cases h1; cases h2; exact .int
 | 1,h1,h2=>cases h1; cases h2; exact .int
 | 2,h1,h2=>cases h1; cases h2; exact .int
 | 3,h1,h2=>cases h1; cases h2; exact .str
 | k + 4,h1,h2=>simp [Wr.row] at h1
theorem cutV_drop (us:List V) (t:Nat):cutV us (some (t:Int)) none = us.drop t:=by
 have h2:HT.sIx us.length us.length none = us.length:=rfl
 unfold cutV
 rw [HT.sIx_nat,h2]
 by_cases h:t ≤ us.length
 ·rw [Nat.min_eq_left h,List.take_of_length_le (by rw [List.length_drop]; exact Nat.le_refl _)]
 ·rw [Nat.min_eq_right (by omega),List.drop_eq_nil_of_le (Nat.le_refl _),List.drop_eq_nil_of_le (by omega)]
  simp
theorem cutV_take' (us:List V) (t:Nat):cutV us none (some (t:Int)) = us.take t:=by
 unfold cutV
 rw [HT.sIx_none,HT.sIx_nat,List.drop_zero,Nat.sub_zero]
 by_cases h:t ≤ us.length
 ·rw [Nat.min_eq_left h]
 ·rw [Nat.min_eq_right (by omega),List.take_length,List.take_of_length_le (by omega)]
theorem bads_fine:∀ cn:Nat,cn < 13 → ∀ t ∈ bads cn,t.length ≤ 1000 ∧ ∀ c ∈ t,c < 16 ^ 8:=by decide +kernel
theorem bt (z:String) (e:Str.ofString z = mk (cps z)):V.str (Str.ofString z) = V.str (mk (cps z)):=by rw [e]
theorem bad_eq (cn:Nat):([V.str "",V.str "0 0 0",V.str "0 0 0 a a",V.str "0 0 0 ",V.str " 0 0 0 a",V.str "0  0 a",V.str "0 0 0 A",V.str "0 0 0 a1"] ++ [V.str "00 0 0 a",V.str "0 0 01 a",V.str "-1 0 0 a",V.str "0 0 -1 a",V.str "0 x 0 a",V.str "0 +0 0 a"]) ++ [V.str (("0 ":Str) ++ Str.ofString (toString (cn:Int)) ++ (" 0 a":Str)),V.str "a 0 0 0",V.str "0 0 0  a"]
  = (bads cn).map fun t=>V.str (mk t):=by
 have e1:("0 ":Str) = mk (cps "0 "):=by decide +kernel
 have e2:(" 0 a":Str) = mk (cps " 0 a"):=by decide +kernel
 rw [str_dl,e1,e2,mk_app,mk_app]
 unfold bads
 simp only [List.map_cons,List.map_nil,List.cons_append,List.nil_append]
 rw [show V.str (Str.ofString "") = V.str (mk []) by rw [show Str.ofString "" = mk [] by decide +kernel]]
 rw [bt "0 0 0" (by decide +kernel),bt "0 0 0 a a" (by decide +kernel),bt "0 0 0 " (by decide +kernel),bt " 0 0 0 a" (by decide +kernel),bt "0  0 a" (by decide +kernel),bt "0 0 0 A" (by decide +kernel),bt "0 0 0 a1" (by decide +kernel),bt "00 0 0 a" (by decide +kernel),bt "0 0 01 a" (by decide +kernel),bt "-1 0 0 a" (by decide +kernel),bt "0 0 -1 a" (by decide +kernel),bt "0 x 0 a" (by decide +kernel),bt "0 +0 0 a" (by decide +kernel),bt "a 0 0 0" (by decide +kernel),bt "0 0 0  a" (by decide +kernel)]
section
variable {P:Program} {w:World} {K:PySem.W.Frag} {mg:Str → Option Value} {base:Heap}
theorem law_ok {f:Addr} {fd:FuncData} {N:Addr} (NB:NBs mg) (O_at:L2.Own P w K mg base "_law_at" 1 ["_law_script","_law_k"] (spAt K)) (O_drawn:L2.Own P w K mg base "_law_drawn" 1 ["_law_cell"] spDrawn) (O_shown:L2.Own P w K mg base "shown" 1 ["writings"] spShown) (O_so:L2.Own P w K mg base "_law_so" 3 ["_law_found","_law_meant"] (spSo 3)) (O_whole:L2.Own P w K mg base "_law_whole" 1 ["_law_found"] spWhole)
  (O_read:OwnX P w K mg base "read" 5 ["count","lines"] (spRead N)) (O_refused:L2.Own P w K mg base "_law_refused" 6 ["_law_count","_law_lines"] spRef) (O_under_base:L2.Own P w K mg base "_law_under_base" 6 ["_law_count","_law_lines"] spRef) (F:Fun K "law" "law" s_law f fd):FnOk P w K mg base CX0 7 f fd ["_law_script"] (spLawF K):=by
 refine F.ok sc_law (fun vs H Q E h=>?_) (fun cdv A outer s H vs Q E hr h=>?_)
 ·obtain ⟨a,ns,rfl,_⟩:=h; rfl
 ·obtain ⟨a,ns,rfl,hS,hO,hlen,k⟩:=h
  have hu:=hu_of hr
  have nd:=sc_law.nd
  refine ⟨_,(pss_cons (ps_setG nd 1 (pe_op op_addG pe_int (pe_op op_modG (pe_op op_modG (pe_op op_mulG (pe_own O_at hr rfl (pa_cons (nv 0) (pa_cons pe_int pa_nil))) pe_int) pe_int) pe_int)))
 (pss_cons (ps_setG nd 2 (pe_lst pa_nil))
 (pss_cons (ps_setG nd 3 (pe_lst pa_nil))
 (pss_cons (ps_for PassesOwn.never rfl (pi_range2 rfl NB.range (pa_cons pe_int (pa_cons (pe_callB call_minG (by rfl) NB.min bb_min (pa_cons pe_int (pa_cons (pe_callB call_lenG (by rfl) NB.len bb_len (pa_cons (nv 0) pa_nil)) pa_nil))) pa_nil))) (pg_nameG nd 4) (pss_cons (ps_setG nd 5 (pe_ix (ixG hu) (nv 0) (nv 4) (fun _ _=>rfl)))
 (pss_cons (ps_asg (pe_own O_drawn hr rfl (pa_cons (nv 5) pa_nil)) (pg_tup rfl (pgs_cons (pg_nameG nd 6) (pgs_cons (pg_nameG nd 7) (pgs_cons (pg_nameG nd 8) pgs_nil)))))
 (pss_cons (ps_expr (pe_bm PySem.F.plainAttrs_list PySem.F.slot_list_append PySem.F.type_list_append mt_append (nv 2) (pa_cons (pe_tup (pa_cons (nv 6) (pa_cons (pe_op op_modG (pe_op op_modG (pe_op op_mulG (nv 5) pe_int) pe_int) (nv 1)) (pa_cons (nv 7) (pa_cons (nv 8) pa_nil))))) pa_nil)))
 (pss_cons (ps_setG nd 9 (pe_op op_addG (pe_op op_addG (pe_op op_addG (pe_callTy call_str_int (by rfl) NB.str bb_str (pa_cons (nv 6) pa_nil)) pe_str) (pe_callTy call_str_int (by rfl) NB.str bb_str (pa_cons (pe_op op_modG (pe_op op_modG (pe_op op_mulG (nv 5) pe_int) pe_int) (nv 1)) pa_nil))) pe_str))
 (pss_one (ps_expr (pe_bm PySem.F.plainAttrs_list PySem.F.slot_list_append PySem.F.type_list_append mt_append (nv 3) (pa_cons (pe_op op_addG (pe_op op_addG (pe_op op_addG (nv 9) (pe_callTy call_str_int (by rfl) NB.str bb_str (pa_cons (nv 7) pa_nil))) pe_str) (nv 8)) pa_nil)))))))))
 (pss_cons (ps_setG nd 10 (pe_own O_shown hr rfl (pa_cons (pe_callTy call_listH (by rfl) NB.list bb_list (pa_cons (nv 2) pa_nil)) pa_nil)))
 (pss_cons (ps_if (PW.pt (pw_or (pt_not (pt_val (pe_callB call_isinstanceG (by rfl) NB.isinstance bb_isinstance (pa_cons (nv 10) (pa_cons (nt NB.list bb_list) pa_nil))))) (pw_or1 (pt_cmpR (op_neG hr) (pe_callB call_lenG (by rfl) NB.len bb_len (pa_cons (nv 10) pa_nil)) (pe_callB call_lenG (by rfl) NB.len bb_len (pa_cons (nv 3) pa_nil)) (nomark _))))) (pss_one (ps_ret pe_bl)) pss_nil)
 (pss_cons (ps_for PassesOwn.never rfl (pi_range1 rfl NB.range (pa_cons (pe_callB call_lenG (by rfl) NB.len bb_len (pa_cons (nv 3) pa_nil)) pa_nil)) (pg_nameG nd 4) (pss_one (ps_if (PW.pt (pw_or (pt_not (pt_val (pe_callB call_isinstanceG (by rfl) NB.isinstance bb_isinstance (pa_cons (pe_ix (ixG hu) (nv 10) (nv 4) (fun _ _=>rfl)) (pa_cons (nt NB.str bb_str) pa_nil))))) (pw_or1 (pt_not (pt_val (pe_own O_so hr rfl (pa_cons (pe_ix (ixG hu) (nv 10) (nv 4) (fun _ _=>rfl)) (pa_cons (pe_ix (ixG hu) (nv 3) (nv 4) (fun _ _=>rfl)) pa_nil)))))))) (pss_one (ps_ret pe_bl)) pss_nil)))
 (pss_cons (ps_setG nd 11 (pe_ownX O_read passN hr rfl (pa_cons (nv 1) (pa_cons (pe_callTy call_listH (by rfl) NB.list bb_list (pa_cons (nv 3) pa_nil)) pa_nil))))
 (pss_cons (ps_if (PW.pt (pw_or (pt_not (pt_val (pe_callB call_isinstanceG (by rfl) NB.isinstance bb_isinstance (pa_cons (nv 11) (pa_cons (nt NB.list bb_list) pa_nil))))) (pw_or1 (pt_cmpR (op_neG hr) (pe_callB call_lenG (by rfl) NB.len bb_len (pa_cons (nv 11) pa_nil)) (pe_callB call_lenG (by rfl) NB.len bb_len (pa_cons (nv 2) pa_nil)) (nomark _))))) (pss_one (ps_ret pe_bl)) pss_nil)
 (pss_cons (ps_for PassesOwn.never rfl (pi_range1 rfl NB.range (pa_cons (pe_callB call_lenG (by rfl) NB.len bb_len (pa_cons (nv 2) pa_nil)) pa_nil)) (pg_nameG nd 4) (pss_cons (ps_setG nd 12 (pe_ix (ixG hu) (nv 11) (nv 4) (fun _ _=>rfl)))
 (pss_cons (ps_if (PW.pt (pw_or (pt_not (pt_val (pe_callB call_isinstanceG (by rfl) NB.isinstance bb_isinstance (pa_cons (nv 12) (pa_cons (nt NB.tuple bb_tuple) pa_nil))))) (pw_or (pt_cmpR (op_neG hr) (pe_callB call_lenG (by rfl) NB.len bb_len (pa_cons (nv 12) pa_nil)) pe_int (nomark _)) (pw_or1 (pt_not (pt_val (pe_callB call_isinstanceG (by rfl) NB.isinstance bb_isinstance (pa_cons (pe_ix (ixG hu) (nv 12) pe_int (fun _ _=>rfl)) (pa_cons (nt NB.str bb_str) pa_nil))))))))) (pss_one (ps_ret pe_bl)) pss_nil)
 (pss_cons (ps_for PassesOwn.never rfl (pi_tup (pe_slice slG (nv 12) po_none (po_some pe_int))) (pg_nameG nd 6) (pss_one (ps_if (pt_not (pt_val (pe_own O_whole hr rfl (pa_cons (nv 6) pa_nil)))) (pss_one (ps_ret pe_bl)) pss_nil)))
 (pss_one (ps_if (pt_not (pt_val (pe_own O_so hr rfl (pa_cons (nv 12) (pa_cons (pe_ix (ixG hu) (nv 2) (nv 4) (fun _ _=>rfl)) pa_nil))))) (pss_one (ps_ret pe_bl)) pss_nil))))))
 (pss_cons (ps_setG nd 13 (pe_lst (pa_cons pe_str (pa_cons pe_str (pa_cons pe_str (pa_cons pe_str (pa_cons pe_str (pa_cons pe_str (pa_cons pe_str (pa_cons pe_str pa_nil))))))))))
 (pss_cons (ps_setG nd 13 (pe_op op_addG (nv 13) (pe_lst (pa_cons pe_str (pa_cons pe_str (pa_cons pe_str (pa_cons pe_str (pa_cons pe_str (pa_cons pe_str pa_nil)))))))))
 (pss_cons (ps_setG nd 13 (pe_op op_addG (nv 13) (pe_lst (pa_cons (pe_op op_addG (pe_op op_addG pe_str (pe_callTy call_str_int (by rfl) NB.str bb_str (pa_cons (nv 1) pa_nil))) pe_str) (pa_cons pe_str (pa_cons pe_str pa_nil))))))
 (pss_cons (ps_setG nd 14 (pe_op op_modG (pe_op op_modG (pe_op op_mulG (pe_own O_at hr rfl (pa_cons (nv 0) (pa_cons pe_int pa_nil))) pe_int) pe_int) (pe_op op_addG (pe_callB call_lenG (by rfl) NB.len bb_len (pa_cons (nv 3) pa_nil)) pe_int)))
 (pss_cons (ps_for PassesOwn.never rfl (pi_list (nv 13)) (pg_nameG nd 15) (pss_cons (ps_if (pt_not (pt_val (pe_own O_refused hr rfl (pa_cons (nv 1) (pa_cons (pe_op op_addG (pe_op op_addG (pe_slice slG (nv 3) po_none (po_some (nv 14))) (pe_lst (pa_cons (nv 15) pa_nil))) (pe_slice slG (nv 3) (po_some (nv 14)) po_none)) pa_nil))))) (pss_one (ps_ret pe_bl)) pss_nil)
 (pss_one (ps_if (pt_not (pt_val (pe_own O_under_base hr rfl (pa_cons (nv 1) (pa_cons (pe_op op_addG (pe_lst (pa_cons (nv 15) pa_nil)) (pe_slice slG (nv 3) po_none (po_some pe_int))) pa_nil))))) (pss_one (ps_ret pe_bl)) pss_nil))))
 (pss_one (ps_ret pe_bl))))))))))))))))),?_⟩
  refine ⟨a,ns,0,rfl,hS.sq,by decide,c48 _,by decide,by decide,?_⟩
  obtain ⟨cn,ec⟩:∃ cn:Nat,1 + ns.getD 0 0 * 48271 % 1013 % 12 = (cn:Int):=⟨(1 + ns.getD 0 0 * 48271 % 1013 % 12).toNat,by omega⟩
  have c1:1 ≤ cn:=by omega
  have c13:cn < 13:=by omega
  refine ⟨Nat.zero_le _,fun W nW=>⟨Nat.zero_le _,fun L nL=>?_⟩⟩
  have eC:(1 + ns.getD (0:Int).toNat 0 * 48271 % 1013 % 12) = (cn:Int):=ec
  rw [eC]
  have ne:W ≠ L:=by rintro rfl; rw [upd_same] at nL; cases nL
  have sA:Same H (upd (upd H W (.lst [])) L (.lst [])):=(same_upd nW).trans (same_upd nL)
  have B0:LW K a W L ns (upd (upd H W (.lst [])) L (.lst [])) [] [] cn:=⟨hS.keep (.of_same sA),by rw [upd_ne ne]; exact upd_same,.nil,upd_same,ne,(fun _ h=>nomatch h)⟩
  clear sA nL nW hS
  generalize upd (upd H W (.lst [])) L (.lst []) = H2 at B0
  refine ⟨ns.length,.inl ⟨_,.inl B0.scr.sq,by simp⟩,?_⟩
  have hm:(if ((ns.length:Nat):Int) < 150 then ((ns.length:Nat):Int) else 150) = (ns.length:Int):=by omega
  refine ⟨_,_,rfl,by omega,?_⟩
  rw [hm]
  refine for_range (n:=((ns.length:Int) - 1).toNat) (fun i σ H=>∃ us ws o4 o5 o6 o7 o8 o9,σ = [some (.ref a),some (.int cn),some (.ref W),some (.ref L),o4,o5,o6,o7,o8,o9,none,none,none,none,none,none] ∧
   LW K a W L ns H us ws cn ∧ ws.length ≤ i) ⟨_,_,_,_,_,_,_,_,rfl,B0,Nat.le_refl _⟩ ?_ ?_
  ·rintro i σ H3 hi ⟨us,ws,o4,o5,o6,o7,o8,o9,rfl,B,hws⟩
   have hi':1 + i < ns.length:=by omega
   have hc:=at_cell (lo:=1) hi'
   generalize ns.getD (1 + i) 0 = x at hc
   refine ⟨_,.lst B.scr.sq hc,?_⟩
   refine ⟨x,rfl,fun n p l t H4 hn hp hl hll ht sm=>?_⟩
   refine ⟨t,_,rfl,SqT.of ht,rfl,_,_,rfl,_,_,rfl,_,_,rfl,rfl,?_⟩
   have B4:=B.same sm
   obtain ⟨sn,es⟩:∃ sn:Nat,x * 48271 % 1039 % (cn:Int) = (sn:Int):=⟨(x * 48271 % 1039 % (cn:Int)).toNat,(Int.toNat_of_nonneg (Int.emod_nonneg _ (by omega))).symm⟩
   have hsn:(sn:Int) < cn:=by rw [← es]; exact Int.emod_lt_of_pos _ (by omega)
   refine ⟨.inl ⟨rfl,_,SqL.of B4.at_⟩,c48 _,by decide,by omega,four,fun t2 nt2=>?_⟩
   rw [es]
   have ok:(⟨n,sn,p,l⟩:Wr).Ok:=⟨hn,Nat.lt_trans (show sn < 13 by omega) (by decide),hp,hll,hl⟩
   have B5:=B4.same (same_upd (o:=.tup (⟨n,sn,p,l⟩:Wr).row) nt2)
   have h5:upd H4 t2 (.tup (⟨n,sn,p,l⟩:Wr).row) t2 = some (.tup (⟨n,sn,p,l⟩:Wr).row):=upd_same
   have B6:=B5.add h5 ⟨ok,hsn⟩
   have lu:=Paired.length B5.rows
   refine ⟨_,_,_,rfl,rfl,B5.at_,small1000 (by omega),?_⟩
   have ln5:(upd (upd H4 t2 (.tup (⟨n,sn,p,l⟩:Wr).row)) W (.lst (us ++ [.ref t2]))) L = some (.lst (lns ws)):=by rw [upd_ne (Ne.symm B5.ne)]; exact B5.ln
   have d1:=dl_le ok.n; have d2:=dl_le ok.s; have d3:=dl_le ok.p; have d4:=ok.w
   dsimp only at d1 d2 d3 d4
   refine ⟨_,rfl,log_ok ok.n,?_,c48 _,by decide,by omega,?_⟩
   ·rw [str_dl,mk_sp]; exact mk_fit (by omega) (by decide)
   rw [es]
   refine ⟨_,rfl,log_ok ok.s,?_,?_,?_⟩
   ·simp only [str_dl,mk_sp,mk_app]; exact mk_fit (by simp; omega) (by omega)
   ·simp only [str_dl,mk_sp,mk_app]; exact mk_fit (by simp; omega) (by decide)
   refine ⟨.inl ⟨rfl,_,SqL.of ln5⟩,_,rfl,log_ok ok.p,?_,?_,?_,?_⟩
   ·simp only [str_dl,mk_sp,mk_app]; exact mk_fit (by simp; omega) (by omega)
   ·simp only [str_dl,mk_sp,mk_app]; exact mk_fit (by simp; omega) (by decide)
   ·simp only [str_dl,mk_sp,mk_app]; exact mk_fit (by simp; omega) (by omega)
   refine ⟨_,_,_,rfl,rfl,ln5,small1000 (by rw [List.length_map]; omega),?_⟩
   have eL:V.str (Str.ofString (toString ((⟨n,sn,p,l⟩:Wr).n:Int)) ++ " " ++ Str.ofString (toString ((⟨n,sn,p,l⟩:Wr).s:Int)) ++ " " ++ Str.ofString (toString ((⟨n,sn,p,l⟩:Wr).p:Int)) ++ " " ++ mk l) = V.str (⟨n,sn,p,l⟩:Wr).line:=by
    simp only [str_dl,mk_sp,mk_app]
    simp [Wr.line,lineL]
   rw [eL]
   exact ⟨_,_,_,_,_,_,_,_,rfl,B6,by rw [List.length_append]; simp; omega⟩
  rintro σ H3 ⟨us,ws,o4,o5,o6,o7,o8,o9,rfl,B,hws⟩
  have lw:ws.length ≤ 63:=by omega
  clear hws hm B0
  have lu:=Paired.length B.rows
  refine ⟨W,us,rfl,.lst (SqL.of B.at_),fun h nh=>?_⟩
  have s1:=same_upd (o:=.lst us) nh
  refine ⟨h,us,ws,rfl,upd_same,(B.same s1).rows,by omega,fun x hx=>(B.ok x hx).1,fun q H4 nq hq sm=>?_⟩
  have B:=(B.same s1).same sm
  clear s1 sm nq nh
  refine ⟨_,true,.lst hq,kt_list_list K,_,rfl,iteNT ?_⟩
  refine ⟨ws.length,.inl ⟨_,.inl (SqL.of hq),by simp⟩,ws.length,.inl ⟨_,.inl (SqL.of B.ln),by simp⟩,_,.scal rfl,_,rfl,iteNS rfl ?_⟩
  refine ⟨ws.length,.inl ⟨_,.inl (SqL.of B.ln),by simp⟩,_,rfl,by omega,by omega,?_⟩
  refine for_range (n:=ws.length) (fun i σ H=>∃ o4,σ = [some (.ref a),some (.int cn),some (.ref W),some (.ref L),o4,o5,o6,o7,o8,o9,some (.ref q),none,none,none,none,none] ∧ Same H4 H) ⟨_,rfl,Same.refl _⟩ ?_ ?_
  ·rintro i σ H5 hi ⟨o4,rfl,s5⟩
   have hx:atI (lns ws) (0 + (i:Int)) = some (.str ws[i].line):=by rw [Int.zero_add]; exact atI_nat (by simp [lns,hi])
   refine ⟨_,.lst (SqL.of (s5 _ _ hq)) hx,_,true,.str _,kt_str_str K,_,rfl,iteNT ?_⟩
   refine ⟨_,.lst (SqL.of (s5 _ _ hq)) hx,_,.lst (SqL.of (s5 _ _ B.ln)) hx,?_⟩
   exact ⟨_,_,_,rfl,.str,.str,fun H6 s6=>⟨_,rfl,iteNT ⟨_,rfl,s5.trans s6⟩⟩⟩
  rintro σ H5 ⟨o4,rfl,s5⟩
  have B:=B.same s5
  clear s5 hq
  refine ⟨L,lns ws,rfl,.lst (SqL.of B.ln),fun h2 nh2=>?_⟩
  have s1:=same_upd (o:=.lst (lns ws)) nh2
  have eW:lns ws = (ws.map Wr.line).map V.str:=by rw [List.map_map]; rfl
  refine ⟨cn,h2,ws.map Wr.line,rfl,by rw [upd_same,eW],by rw [List.length_map]; omega,fun z hz=>?_,?_⟩
  ·obtain ⟨x,hx,rfl⟩:=List.mem_map.mp hz
   exact line_fine (B.ok x hx).1
  rw [if_pos (by
   rw [List.all_map,List.all_eq_true]
   intro x hx
   show isLine cn (pts x.line) = true
   rw [line_pts (B.ok x hx).1]
   exact line_is _ _ _ (B.ok x hx).1.l (B.ok x hx).2)]
  refine fun r ur H6 nr hr6 pr sm=>?_
  have B:=(B.same s1).same sm
  clear s1 sm nr nh2
  have lr:=Paired.length pr
  rw [List.length_map] at lr
  refine ⟨_,true,.lst hr6,kt_list_list K,_,rfl,iteNT ?_⟩
  refine ⟨ur.length,.inl ⟨_,.inl (SqL.of hr6),rfl⟩,us.length,.inl ⟨_,.inl (SqL.of B.at_),rfl⟩,_,.scal rfl,_,rfl,iteNS (by rw [lr,lu]) ?_⟩
  refine ⟨us.length,.inl ⟨_,.inl (SqL.of B.at_),rfl⟩,_,rfl,by omega,by omega,?_⟩
  refine for_range (n:=us.length) (fun i σ H=>∃ o4 o6 o12,σ = [some (.ref a),some (.int cn),some (.ref W),some (.ref L),o4,o5,o6,o7,o8,o9,some (.ref q),some (.ref r),o12,none,none,none] ∧ Same H6 H) ⟨_,_,_,rfl,Same.refl _⟩ ?_ ?_
  ·rintro i σ H7 hi ⟨o4,o6,o12,rfl,s7⟩
   have hiw:i < ws.length:=by omega
   have hir:i < ur.length:=by omega
   have ew:=List.getElem?_eq_getElem hiw
   have eu:=List.getElem?_eq_getElem hi
   have er:=List.getElem?_eq_getElem hir
   have okx:=(B.ok _ (List.getElem_mem hiw)).1
   obtain ⟨b,eb,hb⟩:=paired_get pr er (show (ws.map Wr.line)[i]? = some ws[i].line by rw [List.getElem?_map,ew]; rfl)
   obtain ⟨a',ea,ha⟩:=paired_get B.rows eu ew
   generalize ws[i] = x at hb ha okx
   rw [line_row okx] at hb
   rw [eb] at er
   rw [ea] at eu
   have hb:=s7 _ _ hb
   have ha:=s7 _ _ ha
   refine ⟨.ref b,.lst (SqL.of (s7 _ _ hr6)) (by rw [Int.zero_add]; exact atI_nat er),?_⟩
   refine ⟨_,true,.tup hb,kt_tuple_tuple K,_,rfl,iteNT ?_⟩
   refine ⟨4,.inl ⟨_,.inr (SqT.of hb),rfl⟩,_,.scal rfl,_,rfl,iteNS rfl ?_⟩
   refine ⟨.str (mk x.w),.tup (SqT.of hb) (by rfl),_,true,.str _,kt_str_str K,_,rfl,iteNT ?_⟩
   refine ⟨3,rfl,.inr ⟨b,_,rfl,SqT.of hb,by show ¬ (HT.sIx 4 0 none = 0 ∧ HT.sIx 4 4 (some 3) = 4); decide,fun q2 nq2=>?_⟩⟩
   rw [show cutV x.row none (some 3) = [.int x.n,.int x.s,.int x.p] from rfl]
   have s2:=same_upd (o:=.tup [.int x.n,.int x.s,.int x.p]) nq2
   refine ⟨q2,rfl,⟨_,SqT.of upd_same⟩,?_⟩
   refine for_tup (xs:=[.int x.n,.int x.s,.int x.p]) (fun j σ H2=>∃ o6,σ = [some (.ref a),some (.int cn),some (.ref W),some (.ref L),some (.int (0 + (i:Int))),o5,o6,o7,o8,o9,some (.ref q),some (.ref r),some (.ref b),none,none,none] ∧ H2 = upd H7 q2 (.tup [.int x.n,.int x.s,.int x.p])) ⟨_,rfl,rfl⟩ (fun j σ H2 _ ⟨_,_,e⟩=>by rw [e]; exact SqT.of upd_same) ?_ ?_
   ·rintro j v σ H2 hv ⟨o6,rfl,rfl⟩
    obtain ⟨z,rfl⟩:∃ z:Int,v = .int z:=by
     match j,hv with
     | 0,h=>cases h; exact ⟨_,rfl⟩
     | 1,h=>cases h; exact ⟨_,rfl⟩
     | 2,h=>cases h; exact ⟨_,rfl⟩
     | k + 3,h=>simp at h
    exact ⟨z,rfl,_,rfl,iteNT ⟨_,rfl,rfl⟩⟩
   ·rintro σ H2 ⟨o6,rfl,rfl⟩
    refine ⟨.ref a',.lst (SqL.of (s2 _ _ (s7 _ _ B.at_))) (by rw [Int.zero_add]; exact atI_nat eu),?_⟩
    exact ⟨_,_,_,rfl,deep_row (s2 _ _ hb),deep_row (s2 _ _ ha),fun H8 s8=>⟨_,rfl,iteNT ⟨_,_,_,rfl,(s7.trans s2).trans s8⟩⟩⟩
  rintro σ H7 ⟨o4,o6,o12,rfl,s7⟩
  have B:=B.same s7
  clear s7 hr6 pr
  refine ⟨by show 8 ≤ sizeLine; decide,fun p1 n1=>?_⟩
  refine ⟨by show 6 ≤ sizeLine; decide,fun p2 n2=>.inl ⟨_,_,same_upd n2 _ _ upd_same,upd_same,by show 14 ≤ sizeLine; decide,fun p3 n3=>?_⟩⟩
  have B:=((B.same (same_upd n1)).same (same_upd n2)).same (same_upd (o:=.lst ([V.str "",V.str "0 0 0",V.str "0 0 0 a a",V.str "0 0 0 ",V.str " 0 0 0 a",V.str "0  0 a",V.str "0 0 0 A",V.str "0 0 0 a1"] ++ [V.str "00 0 0 a",V.str "0 0 01 a",V.str "-1 0 0 a",V.str "0 0 -1 a",V.str "0 x 0 a",V.str "0 +0 0 a"])) n3)
  clear n2 n1
  generalize hG:upd (upd (upd H7 p1 _) p2 _) p3 (.lst ([V.str "",V.str "0 0 0",V.str "0 0 0 a a",V.str "0 0 0 ",V.str " 0 0 0 a",V.str "0  0 a",V.str "0 0 0 A",V.str "0 0 0 a1"] ++ [V.str "00 0 0 a",V.str "0 0 01 a",V.str "-1 0 0 a",V.str "0 0 -1 a",V.str "0 x 0 a",V.str "0 +0 0 a"])) = H8 at B ⊢
  have h3:H8 p3 = some (.lst ([V.str "",V.str "0 0 0",V.str "0 0 0 a a",V.str "0 0 0 ",V.str " 0 0 0 a",V.str "0  0 a",V.str "0 0 0 A",V.str "0 0 0 a1"] ++ [V.str "00 0 0 a",V.str "0 0 01 a",V.str "-1 0 0 a",V.str "0 0 -1 a",V.str "0 x 0 a",V.str "0 +0 0 a"])):=by rw [← hG]; exact upd_same
  clear hG n3
  have hcn:cn < 10 ^ 100:=Nat.lt_trans c13 (by decide)
  have dc:=dl_le hcn
  refine ⟨_,rfl,log_ok hcn,?_,?_,by show 3 ≤ sizeLine; decide,fun p4 n4=>.inl ⟨_,_,same_upd n4 _ _ h3,upd_same,by show 17 ≤ sizeLine; decide,fun p5 n5=>?_⟩⟩
  ·rw [str_dl,show ("0 ":Str) = mk (cps "0 ") by decide +kernel]; exact mk_fit (by decide +kernel) (by omega)
  ·rw [str_dl,show ("0 ":Str) = mk (cps "0 ") by decide +kernel,show (" 0 a":Str) = mk (cps " 0 a") by decide +kernel,mk_app]
   exact mk_fit (by rw [List.length_append,show (cps "0 ").length = 2 by decide +kernel]; omega) (by decide +kernel)
  rw [bad_eq cn]
  have B:=(B.same (same_upd n4)).same (same_upd (o:=.lst ((bads cn).map fun t=>V.str (mk t))) n5)
  generalize hG:upd (upd H8 p4 _) p5 (.lst ((bads cn).map fun t=>V.str (mk t))) = H9 at B ⊢
  have h5:H9 p5 = some (.lst ((bads cn).map fun t=>V.str (mk t))):=by rw [← hG]; exact upd_same
  clear hG n5 n4 h3
  refine ⟨a,ns,0,rfl,B.scr.sq,by decide,c48 _,by decide,ws.length,.inl ⟨_,.inl (SqL.of B.ln),by simp⟩,by omega,?_⟩
  obtain ⟨sp,es⟩:∃ sp:Nat,ns.getD (0:Int).toNat 0 * 48271 % 1009 % ((ws.length:Int) + 1) = (sp:Int):=⟨(ns.getD (0:Int).toNat 0 * 48271 % 1009 % ((ws.length:Int) + 1)).toNat,(Int.toNat_of_nonneg (Int.emod_nonneg _ (by omega))).symm⟩
  rw [es]
  refine ⟨p5,rfl,⟨_,SqL.of h5⟩,?_⟩
  have lnl:(lns ws).length ≤ 63:=by rw [List.length_map]; exact lw
  refine for_list (xs:=(bads cn).map fun t=>V.str (mk t)) (fun i σ H=>∃ o15,σ = [some (.ref a),some (.int cn),some (.ref W),some (.ref L),o4,o5,o6,o7,o8,o9,some (.ref q),some (.ref r),o12,some (.ref p5),some (.int sp),o15] ∧ Same H9 H) ⟨_,rfl,Same.refl _⟩ (fun i σ H10 _ ⟨_,_,s10⟩=>SqL.of (s10 _ _ h5)) ?_ ?_
  ·rintro i x σ H10 hx ⟨o15,rfl,s10⟩
   obtain ⟨t,ht,rfl⟩:=List.mem_map.mp (List.mem_of_getElem? hx)
   have hbad:=bads_bad cn c13 c1 t ht
   have hf:=bads_fine cn c13 t ht
   have ft:Fine (mk t):=⟨by rw [mk_len]; exact hf.1,hf.2⟩
   have fw:∀ z ∈ ws.map Wr.line,Fine z:=fun z hz=>by
    obtain ⟨x,hx,rfl⟩:=List.mem_map.mp hz
    exact line_fine (B.ok x hx).1
   have hb:∀ zs:List Str,mk t ∈ zs → zs.all (fun z=>isLine cn (pts z)) = false:=fun zs h=>by
    rw [List.all_eq_false]
    exact ⟨mk t,h,by show ¬ isLine cn (splt 32 [] t) = true; rw [hbad]; decide⟩
   have l10:=s10 _ _ B.ln
   refine ⟨sp,rfl,.inl ⟨_,SqL.of l10,fun q1 n1=>?_⟩⟩
   rw [cutV_take']
   refine ⟨one_le,fun q2 n2=>.inl ⟨_,_,same_upd n2 _ _ upd_same,upd_same,?_,fun q3 n3=>?_⟩⟩
   ·rw [List.length_take,sizeLine_eq]; show _ + 1 ≤ _; omega
   have s3:=((s10.trans (same_upd n1)).trans (same_upd n2)).trans (same_upd (o:=.lst ((lns ws).take sp ++ [V.str (mk t)])) n3)
   refine ⟨sp,rfl,.inl ⟨_,SqL.of (s3 _ _ B.ln),fun q4 n4=>?_⟩⟩
   rw [cutV_drop]
   refine .inl ⟨_,_,same_upd n4 _ _ upd_same,upd_same,?_,fun q5 n5=>?_⟩
   ·rw [List.length_append,List.length_take,List.length_drop,sizeLine_eq]; show _ + 1 + _ ≤ _; omega
   have eZ:(lns ws).take sp ++ [V.str (mk t)] ++ (lns ws).drop sp = ((ws.map Wr.line).take sp ++ [mk t] ++ (ws.map Wr.line).drop sp).map V.str:=by
    rw [List.map_append,List.map_append,List.map_take,List.map_drop,List.map_map]; rfl
   have s5:=(s3.trans (same_upd n4)).trans (same_upd (o:=.lst ((lns ws).take sp ++ [V.str (mk t)] ++ (lns ws).drop sp)) n5)
   refine ⟨cn,q5,(ws.map Wr.line).take sp ++ [mk t] ++ (ws.map Wr.line).drop sp,rfl,by rw [upd_same,eZ],?_,fun z hz=>?_,hb _ (by simp),fun H11 s11=>⟨_,rfl,iteNT ?_⟩⟩
   ·rw [List.length_append,List.length_append,List.length_take,List.length_drop,List.length_map]; show _ + 1 + _ ≤ _; omega
   ·rcases List.mem_append.mp hz with z | z
    ·rcases List.mem_append.mp z with z | z
     ·exact fw _ (List.mem_of_mem_take z)
     ·rw [List.mem_singleton.mp z]; exact ft
    ·exact fw _ (List.mem_of_mem_drop z)
   have s11:=s5.trans s11
   refine ⟨one_le,fun r1 m1=>⟨3,rfl,.inl ⟨_,SqL.of (same_upd m1 _ _ (s11 _ _ B.ln)),fun r2 m2=>?_⟩⟩⟩
   rw [show ((3:Int)) = ((3:Nat):Int) from rfl,cutV_take']
   refine .inl ⟨_,_,same_upd m2 _ _ upd_same,upd_same,?_,fun r3 m3=>?_⟩
   ·rw [List.length_take,sizeLine_eq]; show 1 + _ ≤ _; omega
   have eY:[V.str (mk t)] ++ (lns ws).take 3 = ([mk t] ++ (ws.map Wr.line).take 3).map V.str:=by
    rw [List.map_append,List.map_take,List.map_map]; rfl
   have s12:=((s11.trans (same_upd m1)).trans (same_upd m2)).trans (same_upd (o:=.lst ([V.str (mk t)] ++ (lns ws).take 3)) m3)
   refine ⟨cn,r3,[mk t] ++ (ws.map Wr.line).take 3,rfl,by rw [upd_same,eY],?_,fun z hz=>?_,hb _ (by simp),fun H13 s13=>⟨_,rfl,iteNT ⟨_,rfl,s12.trans s13⟩⟩⟩
   ·rw [List.length_append,List.length_take,List.length_map]; show 1 + _ ≤ _; omega
   ·rcases List.mem_append.mp hz with z | z
    ·rw [List.mem_singleton.mp z]; exact ft
    ·exact fw _ (List.mem_of_mem_take z)
  ·rintro σ H10 ⟨o15,rfl,s10⟩
   exact k H10
end
end K13
namespace K13
open PySem L2 T13
def HasX (K:PySem.W.Frag) (mg:Str → Option Value):Prop:=∃ N R S:Addr,TxN K mg "NoLine" N ∧ TxN K mg "RowError" R ∧ TxN K mg "NoScribe" S ∧ subOf K N R = true ∧ TxE K N ∧ IsiX K N (.ref S) false ∧ IsiX K N (.ty "ValueError") true
theorem cls_of {K:PySem.W.Frag} {D:Addr} {b:Value} {r:Bool} (h:PySem.W.mroIn K D b = some r):(PySem.W.clsIn K D).isSome = true:=by
 unfold PySem.W.mroIn at h
 obtain ⟨cd,e,_⟩:=Option.bind_eq_some_iff.mp h
 rw [e]; rfl
theorem txe_mk {K:PySem.W.Frag} {D:Addr} (hg:PySem.W.findIn K (.ref D) "__getattribute__" = some (some (.builtin "BaseException.__getattribute__"))) (hk:PySem.W.findIn K (.ref D) "__getattr__" = some none) (hb:PySem.W.mroIn K D (.type "BaseException") = some true) (hm:PySem.W.mroIn K D (.type "object") = some true)
  (ha:PySem.W.findIn K (.ref D) "__class__" = some (some (.builtin "object.__class__"))) (hn:PySem.W.specialIn K (.builtin "object.__class__") "__get__" = some (some (.builtin "getset_descriptor.__get__"))) (htk:PySem.W.takesIn K (.builtin "object.__class__") = some true):TxE K D:=by
 refine ⟨hg,hk,hb,?_,cls_of hb,hm⟩
 obtain ⟨cd,e⟩:=Option.isSome_iff_exists.mp (cls_of hb)
 unfold PySem.W.findObj
 rw [e,ha]
 simp [hn,htk]
theorem kn_mk {K:PySem.W.Frag} {D C:Addr} (hne:D ≠ C) (hc:PySem.W.mroIn K C (.type "BaseException") = some true) (ht:PySem.W.typeIn K (.ref C) = some (.type "type")) (hs:PySem.W.subIn K (.ref D) (.ref C) = some false):PySem.W.kin_not K D C = true:=by
 unfold PySem.W.kin_not
 rw [cls_of hc,ht,hs]
 simp [hne]
theorem sub_mk {K:PySem.W.Frag} {D C:Addr} (h:PySem.W.mroIn K D (.ref C) = some true):subOf K D C = true:=by
 unfold PySem.W.mroIn at h
 obtain ⟨cd,e,h⟩:=Option.bind_eq_some_iff.mp h
 unfold PySem.W.clsIn at e
 split at e
 ·next ho =>
  cases e
  unfold subOf
  rw [ho]
  split at h
  ·cases h
  ·exact Option.some.inj h
 ·cases e
theorem hasX_mk {K:PySem.W.Frag} {h:Heap} {mg:Str → Option Value} {N R S:Addr} (X:K.In h) (G:h.Ns mainGlobals mg) (aN:PySem.W.nsIn K mainGlobals "NoLine" = some (some (.ref N))) (aR:PySem.W.nsIn K mainGlobals "RowError" = some (some (.ref R))) (aS:PySem.W.nsIn K mainGlobals "NoScribe" = some (some (.ref S)))
  (eN:PySem.W.excIn K N [.type "ValueError",.type "Exception",.type "BaseException",.type "object"] "ValueError.__new__" = true) (eR:PySem.W.excIn K R [.type "ValueError",.type "Exception",.type "BaseException",.type "object"] "ValueError.__new__" = true) (eS:PySem.W.excIn K S [.type "ValueError",.type "Exception",.type "BaseException",.type "object"] "ValueError.__new__" = true)
  (hs:subOf K N R = true) (te:TxE K N) (kn:PySem.W.kin_not K N S = true) (sb:PySem.W.subIn K (.ref N) (.type "ValueError") = some true) (hty:typeOf (.type "ValueError") = pure (.type "type")):HasX K mg :=
 ⟨N,R,S,⟨PySem.W.mg_of X G aN,eN⟩,⟨PySem.W.mg_of X G aR,eR⟩,⟨PySem.W.mg_of X G aS,eS⟩,hs,te,.notC kn,.ofT sb hty⟩
theorem hasT_mk {K:PySem.W.Frag} {h:Heap} {mg:Str → Option Value} {x y:Str} {t:Tok} (X:K.In h) (G:h.Ns mainGlobals mg) (a:PySem.W.nsIn K mainGlobals x = some (some (.str y t))):∃ t,mg x = some (.str y t):=⟨t,PySem.W.mg_of X G a⟩
end K13
namespace L2
open PySem PySem.W PyProof.Rows
theorem left_of {p q:Program} {loose:List Str} {Xt:Shared → Bool} {α:Type} {Yf:Shared → α} {Ya:World → α} {N:Nat} {g0:Bool} (e:opening p = plainProg p.main.scope.names) (hN:Nat.ble 600 N = true) (f:∀ s,fenceModules? p s = some s)
  (h:∀ (w:World) (os:OsState),(topFrom treeTable p w N ⟨boot_heap w.params,Array.mk [],boot_drawn,boot_toks,os⟩).map (fun s=>(openSeen q loose (importedModules p.main.body) Xt g0 s,Yf s)) = some (openGood q loose,Ya w)):LeftO p q loose Xt Yf Ya N g0:=fun w=>by
 obtain ⟨⟨hp,gs,d,k,os⟩,e1,e2⟩:=Option.map_eq_some_iff.mp (boot_open (p:=p) (N:=N) e hN f w)
 obtain ⟨rfl,rfl,rfl,rfl⟩:hp = boot_heap w.params ∧ gs = Array.mk [] ∧ d = boot_drawn ∧ k = boot_toks:=by simpa using e2
 unfold openEnds
 rw [e1]
 exact h w os
noncomputable def topFromT (p p':Program) (H:Params → Heap) (w:World) (N:Nat) (os:OsState):Option Shared :=
 match (H w.params).isNs mainGlobals && (Array.mk ([]:List GenState)).size == 0 with
 | true=>(PySem.W.Fast.tw14082659384304107361 PySem.W.Fast.tw14364793385576792824 p' w (H w.params).objs.size ((H w.params).nsMap mainGlobals "__annotations__") N ⟨H w.params,Array.mk [],boot_drawn,boot_toks,os⟩ (topStub p')).bind fun s₁=>match staticsOk (importedModules p.main.body) (H w.params) s₁.heap && namesBound p s₁.heap && gensDone s₁ && laidKept (H w.params) s₁.heap with
   | true=>some s₁
   | false=>none
 | false=>none
theorem left_tw {p p' q:Program} {H:Params → Heap} {loose:List Str} {Xt:Shared → Bool} {α:Type} {Yf:Shared → α} {Ya:World → α} {N:Nat} {g0:Bool} (ep:p = p') (eH:boot_heap = H) (e:opening p = plainProg p.main.scope.names) (hN:Nat.ble 600 N = true) (f:∀ s,fenceModules? p s = some s)
  (h:∀ (w:World) (os:OsState),(topFromT p p' H w N os).map (fun s=>(openSeen q loose (importedModules p.main.body) Xt g0 s,Yf s)) = some (openGood q loose,Ya w)):LeftO p q loose Xt Yf Ya N g0:=by
 subst ep eH
 refine left_of e hN f fun w os=>?_
 have:=h w os
 unfold topFromT at this
 rw [← PySem.W.Fast.te14082659384304107361,← PySem.W.Fast.te14364793385576792824] at this
 exact this
end L2
open PySem PySem.W PyProof.Rows L2
namespace K13
noncomputable def kd (P:Params) (x:Str) (t:Nat) (v:Value):DictEntry:=⟨PyData.keyHash P x,.str x t,v⟩
noncomputable def cdo (x:Str) (a:Nat) (y:Str) (b c:Nat) (l n:Int) (r1 r2 r3 r4 r5:Nat) (k:Int) (e:Nat):Obj:=⟨.type "code",none,.fields #[.str x a,.str y b,.str "/claim/cut.py" c,.int l 0,.int n 0,.int 0 0,.int 0 0,.int 3 0,.ref r1,.bool true,.int 181 0,.ref r2,.none,.ref r3,.ref r4,.ref r5,.int k 0,.int l 0,.str "/claim/cut.py" e],#[]⟩
noncomputable def fo (x q:Str) (st:Stmt) (m:Value) (c:Nat):Obj:=⟨.type "function",none,.func (PySem.W.fnOf x q (L2.defArgs st) (L2.defBody st) (L2.defScope st) .none .none .none m none (.ref c) .none),#[]⟩
noncomputable def Kf (P:Params):PySem.W.Frag :=
 (nat_lit 2,⟨.none,none,.dict #[] 0,#[]⟩) ::
 (nat_lit 3,⟨.type "dict",none,.dict #[kd P "__name__" 165 (.str "law_scriberow_k13_writings_on_lines" 294),kd P "__doc__" 166 .none,kd P "__package__" 167 .none,kd P "__loader__" 168 (.builtin "__main__.__loader__#opaque"),kd P "__spec__" 169 .none,kd P "__annotations__" 170 (.ref 6),kd P "__builtins__" 171 (.ref 4),kd P "__file__" 173 (.str "/claim/cut.py" 172),kd P "__cached__" 174 .none,kd P "RowError" 206 (.ref 24),kd P "NoScribe" 222 (.ref 37),kd P "NoLine" 238 (.ref 49),kd P "FIGURES" 242 (.str "0123456789" 241),kd P "LETTERS" 244 (.str "abcdefghijklmnopqrstuvwxyz" 243),kd P "shown" 250 (.ref 56),kd P "is_made_of" 256 (.ref 61),kd P "is_number" 263 (.ref 68),kd P "number_of" 272 (.ref 75),kd P "is_line" 278 (.ref 80),kd P "writing_of" 287 (.ref 87),kd P "read" 293 (.ref 92),kd P "_law_so" 304 (.ref 99),kd P "_law_whole" 311 (.ref 106),kd P "_law_at" 319 (.ref 113),kd P "_law_refused" 327 (.ref 120),kd P "_law_under_base" 337 (.ref 127),kd P "_law_drawn" 348 (.ref 134),kd P "law" 370 (.ref 141)] 28,#[]⟩) ::
 (nat_lit 6,⟨.type "dict",none,.dict #[] 0,#[]⟩) ::
 (nat_lit 23,⟨.type "dict",none,.dict #[kd P "__module__" 196 (.str "scriberow.errors" 187),kd P "__firstlineno__" 200 (.int 2 199),kd P "__static_attributes__" 201 (.ref 22),kd P "__weakref__" 203 (.ref 25),kd P "__doc__" 204 .none] 3,#[]⟩) ::
 (nat_lit 24,⟨.type "type",none,.cls ⟨"RowError",[.type "ValueError"],[.ref 24,.type "ValueError",.type "Exception",.type "BaseException",.type "object"],23,"RowError",true,[],[.ref 37,.ref 49],false,none,false⟩,#[some (.ref 15),none,some (.str "RowError" 189),some (.str "RowError" 197),some (.builtin "ValueError.__new__"),some (.bool true)]⟩) ::
 (nat_lit 25,⟨.type "getset_descriptor",none,.fields #[.str "__weakref__" 202,.ref 24,.builtin "ExceptionGroup.__weakref__",.none],#[]⟩) ::
 (nat_lit 36,⟨.type "dict",none,.dict #[kd P "__module__" 214 (.str "scriberow.errors" 187),kd P "__firstlineno__" 218 (.int 4 217),kd P "__static_attributes__" 219 (.ref 35),kd P "__doc__" 220 .none] 2,#[]⟩) ::
 (nat_lit 37,⟨.type "type",none,.cls ⟨"NoScribe",[.ref 24],[.ref 37,.ref 24,.type "ValueError",.type "Exception",.type "BaseException",.type "object"],36,"NoScribe",true,[],[],false,none,false⟩,#[some (.ref 28),none,some (.str "NoScribe" 207),some (.str "NoScribe" 215),some (.builtin "ValueError.__new__"),some (.bool true)]⟩) ::
 (nat_lit 48,⟨.type "dict",none,.dict #[kd P "__module__" 230 (.str "scriberow.errors" 187),kd P "__firstlineno__" 234 (.int 6 233),kd P "__static_attributes__" 235 (.ref 47),kd P "__doc__" 236 .none] 2,#[]⟩) ::
 (nat_lit 49,⟨.type "type",none,.cls ⟨"NoLine",[.ref 24],[.ref 49,.ref 24,.type "ValueError",.type "Exception",.type "BaseException",.type "object"],48,"NoLine",true,[],[],false,none,false⟩,#[some (.ref 40),none,some (.str "NoLine" 223),some (.str "NoLine" 231),some (.builtin "ValueError.__new__"),some (.bool true)]⟩) ::
 (nat_lit 55,⟨.type "code",none,.fields #[.str "shown" 245,.str "shown" 246,.str "/claim/cut.py" 247,.int 11 0,.int 1 0,.int 0 0,.int 0 0,.int 3 0,.ref 52,.bool true,.int 181 0,.ref 53,.none,.none,.none,.ref 54,.int 248 0,.int 11 0,.str "/claim/cut.py" 249],#[]⟩) ::
 (nat_lit 56,fo "shown" "shown" s_shown (.str "scriberow.lines" 239) 55) ::
 (nat_lit 60,⟨.type "code",none,.fields #[.str "is_made_of" 251,.str "is_made_of" 252,.str "/claim/cut.py" 253,.int 13 0,.int 2 0,.int 0 0,.int 0 0,.int 3 0,.ref 57,.bool true,.int 181 0,.ref 58,.none,.none,.none,.ref 59,.int 254 0,.int 13 0,.str "/claim/cut.py" 255],#[]⟩) ::
 (nat_lit 61,fo "is_made_of" "is_made_of" s_is_made_of (.str "scriberow.lines" 239) 60) ::
 (nat_lit 67,cdo "is_number" 257 "is_number" 258 259 15 1 62 63 64 65 66 261 262) ::
 (nat_lit 68,fo "is_number" "is_number" s_is_number (.str "scriberow.lines" 239) 67) ::
 (nat_lit 74,cdo "number_of" 264 "number_of" 265 266 17 1 69 70 71 72 73 270 271) ::
 (nat_lit 75,fo "number_of" "number_of" s_number_of (.str "scriberow.lines" 239) 74) ::
 (nat_lit 79,⟨.type "code",none,.fields #[.str "is_line" 273,.str "is_line" 274,.str "/claim/cut.py" 275,.int 22 0,.int 2 0,.int 0 0,.int 0 0,.int 3 0,.ref 76,.bool true,.int 181 0,.ref 77,.none,.none,.none,.ref 78,.int 276 0,.int 22 0,.str "/claim/cut.py" 277],#[]⟩) ::
 (nat_lit 80,fo "is_line" "is_line" s_is_line (.str "scriberow.lines" 239) 79) ::
 (nat_lit 86,cdo "writing_of" 279 "writing_of" 280 281 26 2 81 82 83 84 85 285 286) ::
 (nat_lit 87,fo "writing_of" "writing_of" s_writing_of (.str "scriberow.lines" 239) 86) ::
 (nat_lit 91,⟨.type "code",none,.fields #[.str "read" 288,.str "read" 289,.str "/claim/cut.py" 290,.int 31 0,.int 2 0,.int 0 0,.int 0 0,.int 3 0,.ref 88,.bool true,.int 181 0,.ref 89,.none,.none,.none,.ref 90,.int 291 0,.int 31 0,.str "/claim/cut.py" 292],#[]⟩) ::
 (nat_lit 92,fo "read" "read" s_read (.str "scriberow.lines" 239) 91) ::
 (nat_lit 98,cdo "_law_so" 296 "_law_so" 297 298 34 2 93 94 95 96 97 302 303) ::
 (nat_lit 99,fo "_law_so" "_law_so" s_so (.str "law_scriberow_k13_writings_on_lines" 294) 98) ::
 (nat_lit 105,cdo "_law_whole" 305 "_law_whole" 306 307 55 1 100 101 102 103 104 309 310) ::
 (nat_lit 106,fo "_law_whole" "_law_whole" s_whole (.str "law_scriberow_k13_writings_on_lines" 294) 105) ::
 (nat_lit 112,cdo "_law_at" 312 "_law_at" 313 314 57 2 107 108 109 110 111 317 318) ::
 (nat_lit 113,fo "_law_at" "_law_at" s_at (.str "law_scriberow_k13_writings_on_lines" 294) 112) ::
 (nat_lit 119,cdo "_law_refused" 320 "_law_refused" 321 322 61 2 114 115 116 117 118 325 326) ::
 (nat_lit 120,fo "_law_refused" "_law_refused" s_refused (.str "law_scriberow_k13_writings_on_lines" 294) 119) ::
 (nat_lit 126,cdo "_law_under_base" 328 "_law_under_base" 329 330 67 2 121 122 123 124 125 335 336) ::
 (nat_lit 127,fo "_law_under_base" "_law_under_base" s_under_base (.str "law_scriberow_k13_writings_on_lines" 294) 126) ::
 (nat_lit 133,cdo "_law_drawn" 338 "_law_drawn" 339 340 74 1 128 129 130 131 132 346 347) ::
 (nat_lit 134,fo "_law_drawn" "_law_drawn" s_drawn (.str "law_scriberow_k13_writings_on_lines" 294) 133) ::
 (nat_lit 140,cdo "law" 349 "law" 350 351 83 1 135 136 137 138 139 368 369) ::
 (nat_lit 141,fo "law" "law" s_law (.str "law_scriberow_k13_writings_on_lines" 294) 140) :: []
noncomputable def Ka:List Addr:=nat_lit 2 :: nat_lit 3 :: nat_lit 6 :: nat_lit 23 :: nat_lit 24 :: nat_lit 25 :: nat_lit 36 :: nat_lit 37 :: nat_lit 48 :: nat_lit 49 :: nat_lit 55 :: nat_lit 56 :: nat_lit 60 :: nat_lit 61 :: nat_lit 67 :: nat_lit 68 :: nat_lit 74 :: nat_lit 75 :: nat_lit 79 :: nat_lit 80 :: nat_lit 86 :: nat_lit 87 :: nat_lit 91 :: nat_lit 92 :: nat_lit 98 :: nat_lit 99 :: nat_lit 105 :: nat_lit 106 :: nat_lit 112 :: nat_lit 113 :: nat_lit 119 :: nat_lit 120 :: nat_lit 126 :: nat_lit 127 :: nat_lit 133 :: nat_lit 134 :: nat_lit 140 :: nat_lit 141 :: []
noncomputable def q:Program:={ PySem.Challenge.pw_scriberow_k13_writings_on_lines with main:={ PySem.Challenge.pw_scriberow_k13_writings_on_lines.main with body:=[top 1,top 2,top 3,top 5,top 6,top 7,top 8,top 9,top 10,top 11,top 12,top 13,top 15,top 16,top 17,top 18,top 19,top 20,top 21] } }
noncomputable def Nst:Nat:=2288
end K13
theorem K13.Ke (P:Params):K13.Ka = (K13.Kf P).map (·.1):=by kernel_rfl
lay_quick PySem.Challenge.pw_scriberow_k13_writings_on_lines
theorem K13.left:LeftO PySem.Challenge.pw_scriberow_k13_writings_on_lines K13.q [] (fun s=>xlAt K13.q [] s && recOk [] s) (Hook.obs (kHook K13.Kf K13.Ka K13.Ke)) (Hook.val (kHook K13.Kf K13.Ka K13.Ke)) K13.Nst:=L2.left_tw PySem.W.Fast.te10027265555924847450 (Eq.refl PySem.W.boot_heap) (by kernel_rfl) (by kernel_rfl) (fun s=>by kernel_rfl) (fun w os=>by kernel_rfl)
def K13.posOf:Stmt → Pos
 | .FunctionDef _ _ _ _ _ _ _ _ _ p=>p
 | _=>⟨0,0,0,0⟩
noncomputable def K13.dlaw:DefRec:=⟨"law",defArgs K13.s_law,defBody K13.s_law,defScope K13.s_law,K13.posOf K13.s_law⟩
theorem K13.hdef:defOf K13.q "law" = some (K13.dlaw,[]):=by kernel_rfl
theorem K13.hp:PySem.Challenge.pw_scriberow_k13_writings_on_lines.theDef "law" = some (K13.dlaw.params,K13.dlaw.body,K13.dlaw.scope):=by kernel_rfl
theorem K13.hk:kwWritten? K13.dlaw.params.kwonlyargs K13.dlaw.params.kw_defaults = some []:=by kernel_rfl
theorem K13.ok:(chainsOk K13.q && opensWell PySem.Challenge.pw_scriberow_k13_writings_on_lines && (frees PySem.Challenge.rw_scriberow_k13_writings_on_lines.row.toRowW && PySem.Challenge.rw_scriberow_k13_writings_on_lines.row.within.isEmpty)) = true:=by decide +kernel
open PySem PySem.W PyProof.Rows L2
set_option maxRecDepth 100000 in
set_option maxHeartbeats 0 in
theorem PySem.Challenge.cw_scriberow_k13_writings_on_lines_holds : PySem.Challenge.rw_scriberow_k13_writings_on_lines.Holds := by
 w_on; o_law
 refine holds_open (r:=PySem.Challenge.rw_scriberow_k13_writings_on_lines.row) (q:=K13.q) (loose:=[]) (Xt:=fun s=>xlAt K13.q [] s && recOk [] s) (XP:=XL K13.q []) (Yf:=Hook.obs (kHook K13.Kf K13.Ka K13.Ke)) (Ya:=Hook.val (kHook K13.Kf K13.Ka K13.Ke)) (YP:=Hook.says (kHook K13.Kf K13.Ka K13.Ke)) (d:=K13.dlaw) (kwd:=[]) (N:=K13.Nst) K13.left (Hook.of (kHook K13.Kf K13.Ka K13.Ke)) (Hook.keeps (kHook K13.Kf K13.Ka K13.Ke)) (fun s e=>xl_of s (Bool.and_eq_true_iff.mp e).1) XL.keeps K13.hdef K13.hp K13.hk (fun s e=>recFacts_of (Bool.and_eq_true_iff.mp e).2) (by kernel_rfl) (by assumption) K13.ok ⟨by kernel_rfl,by kernel_rfl,by kernel_rfl,by kernel_rfl,by kernel_rfl,by decide +kernel⟩ ?hw ?hc
 case hw=>w_witness2
 k_fill
 refine L2.walkF (l:=PySem.Challenge.rw_scriberow_k13_writings_on_lines) (k:=7) (st:=K13.s_law) rfl rfl ⟨rfl,by decide,by decide⟩ rfl (fun w h Y=>PySem.W.kIn_of Y) ?F
 case F =>
  intro w mg h KX G
  have NB:K13.NBs mg:=⟨mg_none_of (n:="len") KX G (by k_is),mg_none_of (n:="min") KX G (by k_is),mg_none_of (n:="max") KX G (by k_is),mg_none_of (n:="range") KX G (by k_is),mg_none_of (n:="int") KX G (by k_is),mg_none_of (n:="bool") KX G (by k_is),mg_none_of (n:="str") KX G (by k_is),mg_none_of (n:="list") KX G (by k_is),mg_none_of (n:="dict") KX G (by k_is),mg_none_of (n:="tuple") KX G (by k_is),mg_none_of (n:="set") KX G (by k_is),mg_none_of (n:="sorted") KX G (by k_is),mg_none_of (n:="isinstance") KX G (by k_is),mg_none_of (n:="enumerate") KX G (by k_is)⟩
  have NX:K13.NXs mg:=⟨mg_none_of (n:="all") KX G (by k_is),mg_none_of (n:="ValueError") KX G (by k_is)⟩
  obtain ⟨tF,XF⟩:=K13.hasT_mk (x:="FIGURES") (y:="0123456789") KX G (by k_is)
  obtain ⟨tL,XL⟩:=K13.hasT_mk (x:="LETTERS") (y:="abcdefghijklmnopqrstuvwxyz") KX G (by k_is)
  have HX:K13.HasX (_) mg:=K13.hasX_mk KX G (by k_is) (by k_is) (by k_is) (by k_exc) (by k_exc) (by k_exc) (K13.sub_mk (by k_is)) (K13.txe_mk (by k_is) (by k_is) (by k_is) (by k_is) (by k_is) (by k_is) (by k_is)) (K13.kn_mk (by decide) (by k_is) (by k_is) (by k_is)) (by k_is) (by kernel_rfl)
  have D_shown:=defAt_mk (x:="shown") (st:=K13.s_shown) (ps:=["writings"]) KX G
  have D_is_made_of:=defAt_mk (x:="is_made_of") (st:=K13.s_is_made_of) (ps:=["signs","text"]) KX G
  have D_is_number:=defAt_mk (x:="is_number") (st:=K13.s_is_number) (ps:=["text"]) KX G
  have D_number_of:=defAt_mk (x:="number_of") (st:=K13.s_number_of) (ps:=["text"]) KX G
  have D_is_line:=defAt_mk (x:="is_line") (st:=K13.s_is_line) (ps:=["count","parts"]) KX G
  have D_writing_of:=defAt_mk (x:="writing_of") (st:=K13.s_writing_of) (ps:=["count","line"]) KX G
  have D_read:=defAt_mk (x:="read") (st:=K13.s_read) (ps:=["count","lines"]) KX G
  have D_so:=defAt_mk (x:="_law_so") (st:=K13.s_so) (ps:=["_law_found","_law_meant"]) KX G
  have D_whole:=defAt_mk (x:="_law_whole") (st:=K13.s_whole) (ps:=["_law_found"]) KX G
  have D_at:=defAt_mk (x:="_law_at") (st:=K13.s_at) (ps:=["_law_script","_law_k"]) KX G
  have D_refused:=defAt_mk (x:="_law_refused") (st:=K13.s_refused) (ps:=["_law_count","_law_lines"]) KX G
  have D_under_base:=defAt_mk (x:="_law_under_base") (st:=K13.s_under_base) (ps:=["_law_count","_law_lines"]) KX G
  have D_drawn:=defAt_mk (x:="_law_drawn") (st:=K13.s_drawn) (ps:=["_law_cell"]) KX G
  have D_law:=defAt_mk (x:="law") (st:=K13.s_law) (ps:=["_law_script"]) KX G
  refine ⟨D_law,fun base f fd F=>?_⟩
  obtain ⟨N,R,S,XN,XR,XS,hs,te,i1,i3⟩:=HX
  have b1:=K13.own_is_made_of (P:=PySem.Challenge.pw_scriberow_k13_writings_on_lines) (w:=w) (base:=base) NX D_is_made_of
  have b2:=K13.own_is_number XF b1 D_is_number
  have b3:=K13.own_number_of (P:=PySem.Challenge.pw_scriberow_k13_writings_on_lines) (w:=w) (base:=base) XF D_number_of
  have b4:=K13.own_is_line NB NX XL b1 b2 b3 D_is_line
  have b5:=K13.own_writing_of XN b4 b3 D_writing_of
  have b6:=K13.own_read b5 D_read
  exact K13.law_ok NB (K13.own_at NB D_at) (K13.own_drawn NB D_drawn) (K13.own_shown D_shown) (K13.own_so NB D_so 3) (K13.own_whole NB D_whole) b6 (K13.own_refused XN b6 D_refused) (K13.own_under_base NB NX XN XR XS hs te i1 i3 b6 D_under_base) F

